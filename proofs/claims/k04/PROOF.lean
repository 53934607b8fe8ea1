import PyProof.Rows.All
import Wide.All
import OpenK.AllK
import Wide.FinOn
import Lean
import PyProof.EqAt
import PyProof.EqKinds
import PyProof.TupleCall
import PySem.Challenge.RW_bedsheet_k04_whole_steps_alone
set_option Elab.async false
set_option linter.all false
set_option maxRecDepth 100000
noncomputable section
def aaN:=@if_pos
def aaO:=@if_neg
def aaP:=@List.set_cons_zero
def aaQ:=@List.set_cons_succ
def aaR:=@List.getElem?_cons_zero
def aaS:=@PySem.wpAny_bind
def aaT:=@Bool.and_eq_true
def aaU:=@List.getElem?_cons_succ
def aaV:=@List.length_map
def aaW:=@if_true
def aaX:=@List.mem_cons
def aaY:=@Nat.le_refl
def aaZ:=@List.getElem?_eq_some_iff
def aa0:=@List.any_eq_true
def aa1:=@Nat.le_trans
def aa2:=@Option.some.inj
def aa3:=@PySem.Heap.lt_size
def aa4:=@Bool.false_ne_true
def aa5:=@PySem.wpAny_pure
def aa6:=@List.size_toArray
def aa7:=@List.mem_map
def aa8:=@List.map_cons
def aa9:=@Nat.lt_of_lt_of_le
def aa_:=@if_false
def aa':=@List.not_mem_nil
def aba:=@or_false
def abb:=@List.length_append
def abc:=@Ne.symm
def abd:=@PySem.Heap.get?_push_of_some
def abe:=@List.getElem?_set_ne
def abf:=@Int.toNat_natCast
def abg:=@Bool.not_eq_true'
def abh:=@PySem.wpAny_mono
def abi:=@Bool.false_eq_true
def abj:=@decide_eq_true_iff
def abk:=@List.mem_range
def abl:=@List.nil_append
def abm:=@decide_eq_false
def abn:=@Nat.ne_of_lt
def abo:=@List.mem_cons_of_mem
def abp:=@List.mem_append_right
def abq:=@List.length_cons
def abr:=@List.getElem?_set_self
def abt:=@List.IsPrefix.trans
def abu:=@Bool.true_and
def abv:=@Nat.mul_le_mul
def abw:=@Bool.eq_iff_iff
def abx:=@of_decide_eq_true
def aby:=@List.take_length
def abz:=@Bool.false_and
def abA:=@beq_iff_eq
def abB:=@List.any_cons
def abC:=@List.all_eq_true
def abD:=@decide_eq_true_eq
def abE:=@PySem.Heap.get?_push_size
def abF:=@decide_eq_true
def abG:=@decide_eq_false_iff_not
def abH:=@Bool.eq_false_iff
def abI:=@Nat.lt_irrefl
def abJ:=@List.map_nil
def abK:=@List.length_filter_le
def abL:=@List.mem_cons_self
def abM:=@List.getElem?_append_left
def abN:=@List.length_set
def abO:=@Bool.and_false
def abP:=@Bool.not_eq_false'
def abQ:=@Bool.or_eq_false_iff
def abR:=@List.mem_filter
def abS:=@List.getElem?_map
def abT:=@PySem.W.mg_none_of
def abU:=@congrArg
def abV:=@Nat.zero_le
def abW:=@List.getElem?_append_right
def abX:=@List.all_cons
def abY:=@List.replicate_succ
def abZ:=@List.append_assoc
def ab0:=@List.cons_append
def ab1:=@beq_eq_false_iff_ne
def ab2:=@List.mem_of_getElem?
def ab3:=@List.find?_cons
def ab4:=@Bool.false_or
def ab5:=@List.filter_cons
def ab6:=@List.range_succ
def ab7:=@List.replicate_zero
def ab8:=@decide_true
def ab9:=@PySem.Calls.spliced_cons
def ab_:=@List.append_nil
def ab':=@List.nodup_cons
def aca:=@List.length_nil
def acb:=@List.take_succ
def acd:=@List.mem_append
def ace:=@PySem.wpAny_truthy_bool
def acf:=@PySem.wpAny_Call_Name_kw
def acg:=@PySem.mem_of_lookup
def ach:=@Bool.true_or
def aci:=@PySem.call_meetsIn
def acj:=@Bool.and_true
def ack:=@List.mem_singleton
def acm:=@Bool.or_eq_true
def acn:=@Nat.le_of_lt
def aco:=@Array.length_toList
def acp:=@PySem.wpAny_passesOwn
def acq:=@List.mem_filterMap
def acr:=@PySem.Calls.spliced_nil
def acs:=@List.length_take
def acu:=@PySem.Calls.callWith_builtin
def acv:=@List.foldl_nil
def acw:=@List.map_map
def acx:=@List.countP_cons
def acy:=@List.getElem_mem
def acz:=@decide_false
def acA:=@Bool.not_true
def acB:=@List.lookup_cons
def acC:=@PySem.wpAny_execs_nil
def acD:=@PySem.wpAny_holding
def acE:=@PyProof.Rows.callWith_type1
def acF:=@PySem.Calls.evalArgs_plain
def acG:=@PySem.call_meets
def acH:=@PySem.F.slot_dict_get
def acI:=@List.map_append
def acJ:=@List.getElem?_eq_getElem
def acK:=@beq_self_eq_true
def acL:=@List.reverse_cons
def acM:=@PySem.codeAny_mono
def acN:=@PySem.W.callWith_K
def acO:=@PySem.wpAny_newObj_type
def acP:=@Nat.le_of_not_lt
def acQ:=@PySem.tupleKind_room_in1
def acR:=@PySem.wpAny_Call_method
def acS:=@PySem.F.plainAttrs_dict
def acT:=@of_decide_eq_false
def acU:=@Int.emod_nonneg
def acV:=@Int.emod_lt_of_pos
def acW:=@Int.natCast_nonneg
def acX:=@List.foldl_cons
def acY:=@List.mem_or_eq_of_mem_set
def acZ:=@List.any_append
def ac0:=@List.filter_map
def ac1:=@List.map_congr_left
def ac2:=@Option.map_some
def ac3:=@List.filter_eq_nil_iff
def ac4:=@List.getElem?_eq_none
def ac5:=@PySem.W.mg_of
def ac6:=@Sum.inl.inj
def ac7:=@PySem.W.looks_findIn
def ac8:=@PySem.Heap.size_push
def ac9:=@List.length_drop
def ac_:=@PyProof.Rows.slot_tuple_getitem
def ac':=@PySem.Heap.get?_update_other
def ada:=@Array.getElem?_toList
def adb:=@Option.isSome_some
def ade:=@PySem.F.entry_dict_get
def adf:=@List.drop_length
def adg:=@List.drop_eq_getElem_cons
def adh:=@List.any_map
def adi:=@Bool.or_false
def adj:=@Nat.mul_pos
def adk:=@List.map_set
def adl:=@List.foldl_append
def adm:=@Int.natCast_mul
def adn:=@List.getElem_of_mem
def ado:=@PySem.W.Looks.ld
def adp:=@PySem.W.hideAll_get
def adq:=@List.filterMap_cons
def ads:=@PySem.wpAny_execs_cons
def adt:=@PySem.W.plainGet_of
def adu:=@Nat.le_of_eq
def adv:=@Nat.lt_succ_self
def adw:=@Nat.le_succ
def adx:=@List.of_mem_zip
def ady:=@List.length_replicate
def adz:=@PySem.F.slot_list_append
def adA:=@List.length_singleton
def adB:=@PySem.F.slot_list_extend
def adC:=@Option.isSome_map
def adD:=@PySem.wpAny_specialOf
def adE:=@List.all_eq_false
def adF:=@List.any_nil
def adG:=@Nat.succ_mul
def adH:=@Nat.add_sub_cancel_left
def adI:=@List.set_append_right
def adJ:=@List.set_append_left
def adK:=@List.filter_append
def adL:=@Int.natAbs_natCast
def adM:=@Int.natCast_ediv
def adN:=@Bool.or_assoc
def adO:=@List.map_id
def adP:=@List.filter_congr
def adQ:=@Bool.or_true
def adR:=@List.filter_filter
def adS:=@List.ext_getElem?
def adT:=@Int.zero_add
def adU:=@PySem.wpAny_comprehension_free
def adV:=@PySem.F.typeOf_object_class
def adW:=@PySem.PassesOwn.never
def adX:=@List.mem_append_left
def adY:=@PySem.Calls.Name_function_global
def adZ:=@PySem.W.methodCall_KW
def ad0:=@PySem.W.cellsFrom_some
def ad1:=@Option.isSome_iff_exists
def ad2:=@List.getElem?_replicate
def ad3:=@List.getElem?_take_of_lt
def ad4:=@Option.map_eq_some_iff
def ad5:=@PySem.F.slot_dict_delitem
def ad6:=@PySem.F.slot_dict_pop
def ad7:=@PySem.F.args_dict_get_2
def ad8:=@PySem.F.args_dict_get_3
def ad9:=@PySem.F.type_dict_get
def ad_:=@Nat.div_lt_of_lt_mul
def ad':=@List.range_succ_eq_map
def aea:=@List.mem_of_find?_eq_some
def aeb:=@List.nodup_iff_pairwise_ne
def aec:=@Int.eq_ofNat_of_zero_le
def aed:=@List.mem_erase_of_ne
def aee:=@List.length_erase_of_mem
def aef:=@List.take_append_drop
def aeg:=@List.dropLast_eq_take
def aeh:=@PySem.F.plainAttrs_list
def aei:=@PySem.F.slot_dict_setdefault
def aej:=@PySem.F.slot_dict_items
namespace L2
open PySem PySem.Spec PyProof.Rows
abbrev Key:=Sum Int Str
def qa:Key->Value->Bool
 |.inl k,v=>Value.isInt k v
 |.inr x,v=>Value.isStrOf x v
def Tu(w:World):Key->Int
 |.inl k=>hashInt k
 |.inr x=>hashStr w x
theorem jK:∀{k:Key} {v:Value},qa k v=true->(∃i t,k=Sum.inl i/\v=Value.int i t)\/(∃x t,k=Sum.inr x/\v=Value.str x t)
 |.inl i,v,h=>by obtain⟨t,e⟩:=Value.isInt_shape (k:=i) (v:=v) h;exact .inl ⟨i,t,rfl,e⟩
 |.inr x,v,h=>by obtain⟨t,e⟩:=Value.isStrOf_shape (x:=x) (v:=v) h;exact .inr ⟨x,t,rfl,e⟩
def KW(i:Int)(t:Tok):qa (.inl i) (.int i t)=true:=by simp[qa,Value.isInt]
def KY(x:Str)(t:Tok):qa (.inr x) (.str x t)=true:=by simp[qa,Value.isStrOf]
def PK(a b:Int):decide ((Sum.inl a:Key)=Sum.inl b)=(a==b):=by
 by_cases e:a=b
 ·subst e;simp
 ·have h:¬(Sum.inl a:Key)=Sum.inl b:=λq=>e (ac6 q)
  rw[abm h];exact(ab1.mpr e).symm
def PL(a b:Str):decide ((Sum.inr a:Key)=Sum.inr b)=decide (a=b):=by
 by_cases e:a=b
 ·subst e;simp
 ·have h:¬(Sum.inr a:Key)=Sum.inr b:=λq=>e (Sum.inr.inj q)
  rw[abm h,abm e]
def PN(a:Int)(b:Str):decide ((Sum.inl a:Key)=Sum.inr b)=false:=abm (λq=>nomatch q)
def PQ(a:Str)(b:Int):decide ((Sum.inr a:Key)=Sum.inl b)=false:=abm (λq=>nomatch q)
def dB(prog:Program)(w:World):PySem.KeyKind prog w Key where
 is:=qa
 hash:=Tu w
 inj:=λv a b ha hb=>by
  rcases jK ha with⟨i,t,rfl,rfl⟩|⟨x,t,rfl,rfl⟩
  ·rcases jK hb with⟨j,u,rfl,e⟩|⟨y,u,rfl,e⟩
   ·injection e with e1 _;rw[e1]
   ·exact nomatch e
  ·rcases jK hb with⟨j,u,rfl,e⟩|⟨y,u,rfl,e⟩
   ·exact nomatch e
   ·injection e with e1 _;rw[e1]
 byValue:=λk v h=>by rcases jK h with⟨i,t,rfl,rfl⟩|⟨x,t,rfl,rfl⟩<;>rfl
 pyHash:=λhv h=>by
  rcases jK hv with⟨i,t,rfl,rfl⟩|⟨x,t,rfl,rfl⟩
  ·exact wpAny_pyHash_int h
  ·exact wpAny_pyHash_str h
 eqBool:=λhu hv h=>by
  rcases jK hu with⟨i,t,rfl,rfl⟩|⟨x,t,rfl,rfl⟩
  ·rcases jK hv with⟨j,u,rfl,rfl⟩|⟨y,u,rfl,rfl⟩
   ·rw[PK] at h;exact wpAny_eqBool_int h
   ·rw[PN] at h;exact SeqAt.EqAt.int_str i t y u _ _ _ _ h
  ·rcases jK hv with⟨j,u,rfl,rfl⟩|⟨y,u,rfl,rfl⟩
   ·rw[PQ] at h;exact SeqAt.EqAt.str_int x t j u _ _ _ _ h
   ·rw[PL] at h;exact wpAny_eqBool_str h
 «strs»:=λk x t v h=>by
  rcases jK h with⟨i,u,rfl,e⟩|⟨y,u,rfl,e⟩
  ·exact nomatch e
  ·injection e with e1 _;subst e1;cases v<;>rfl
def JY(prog:Program)(w:World)(i:Int)(t:Tok):(dB prog w).is (.inl i) (.int i t)=true:=KW i t
def JZ(prog:Program)(w:World)(x:Str)(t:Tok):(dB prog w).is (.inr x) (.str x t)=true:=KY x t
inductive V where
 |ao|bl (b:Bool)|int (i:Int)|str (x:Str)|iL (b:Array UInt8)|j0 (b:UInt64)|ref (a:Addr)|ty (n:String)
 deriving DecidableEq
def RelV:V->Value->Prop
 |.ao,u=>u=Value.none
 |.bl b,u=>u=Value.bool b
 |.int i,u=>∃t,u=Value.int i t
 |.str x,u=>∃t,u=Value.str x t
 |.iL b,u=>∃t,u=Value.bytes b t
 |.j0 b,u=>∃t,u=Value.float b t
 |.ref a,u=>u=Value.ref a
 |.ty n,u=>u=Value.type n
abbrev Vals:List V->List Value->Prop:=Paired RelV
def Vals.length{xs:List V}{us:List Value}(r:Vals xs us):xs.length=us.length:=Paired.length r
theorem Vals.get:∀{xs:List V} {us:List Value} {i:Nat} {x:V},Vals xs us->xs[i]? =some x->∃u,us[i]? =some u/\RelV x u
 |_,_,_,_,.nil,e=>by simp at e
 |_,_,0,_,.cons r _,e=>by simp at e;subst e;exact⟨_,rfl,r⟩
 |_,_,i+1,x,.cons _ t,e=>by obtain⟨u,h1,h2⟩:=Vals.get (i:=i) (x:=x) t (by simpa using e);exact⟨u,by simpa using h1,h2⟩
theorem Vals.set{x:V}{u:Value}(r:RelV x u):∀{xs:List V} {us:List Value} (i:Nat),Vals xs us->Vals (xs.set i x) (us.set i u)
 |_,_,_,.nil=>.nil
 |_,_,0,.cons _ t=>.cons r t
 |_,_,i+1,.cons q t=>.cons q (Vals.set r i t)
theorem Vals.append:∀{xs ys:List V} {us ws:List Value},Vals xs us->Vals ys ws->Vals (xs++ys) (us++ws)
 |_,_,_,_,.nil,s=>s
 |_,_,_,_,.cons r t,s=>.cons r (Vals.append t s)
theorem Vals.take:∀{xs:List V} {us:List Value} (n:Nat),Vals xs us->Vals (xs.take n) (us.take n)
 |_,_,0,_=>.nil
 |_,_,_+1,.nil=>.nil
 |_,_,n+1,.cons r t=>.cons r (Vals.take n t)
theorem Vals.drop:∀{xs:List V} {us:List Value} (n:Nat),Vals xs us->Vals (xs.drop n) (us.drop n)
 |_,_,0,r=>r
 |_,_,_+1,.nil=>.nil
 |_,_,n+1,.cons _ t=>Vals.drop n t
def fk:Option V->Option Value->Prop
 |some v,some u=>RelV v u
 |none,none=>True
 |_,_=>False
def KV{κ:Type}:List (κ×V)->List (κ×Value)->Prop:=Paired λ(p:κ×V) (q:κ×Value)=>p.1=q.1/\RelV p.2 q.2
def kV:Key->V
 |.inl i=>.int i
 |.inr x=>.str x
inductive HO where
  |lst (xs:List V)
  |tup (xs:List V)
  |dK (kvs:List (Key×V))|dT (kvs:List (List Key×V))
  |set (S:Int->Bool) (n:Nat)
  |ins (C dx:Addr) (fs:List (Str×V))
  |own (x:Addr)
  |xd (fs:List (Str×V))
  |met (f x:Addr)
  |cJ (lo hi:Int)
  |bf (o:Obj) (u:HO)
  |kU (ps:Array Value)
  |ext (φ:Heap->Prop)
abbrev Hp:=Addr->Option HO
def upd(H:Hp)(a:Addr)(o:HO):Hp:=λb=>if b=a then some o else H b
def dA{H:Hp}{a:Addr}{o:HO}:upd H a o a=some o:=by unfold upd;rw[aaN rfl]
def ba{H:Hp}{a b:Addr}{o:HO}(h:b≠a):upd H a o b=H b:=by unfold upd;rw[aaO h]
def RP{H:Hp}{a b:Addr}{o u:HO}(h:H a=some o)(h':H b=some u)(d:o≠u):a≠b:=by intro e;subst e;rw[h] at h';exact d (aa2 h')
def eZ{H:Hp}{a b:Addr}{o:HO}(h:H a=some o)(h':H b=none):a≠b:=by intro e;subst e;rw[h] at h';cases h'
section
variable(P:Program)(w:World)
def c7(H:Hp)(h:Heap)(a:Addr):HO->Prop
 |.lst xs=>xs.length<=sizeLine/\∃(au:List Value) (n:Nat),Vals xs au/\h.get? a=some {cls:=.type "list",data:=.seq au.toArray n}
 |.tup xs=>xs.length<=sizeLine/\∃au:List Value,Vals xs au/\IsTup h a au.toArray
 |.dK kvs=>kvs.length<=sizeLine/\(a==sysModules)=false/\∃vs,KV kvs vs/\h.DictOf (dB P w) a vs
 |.dT kvs=>kvs.length<=sizeLine/\(a==sysModules)=false/\∃xs:List (List Key×Addr×Value),
  Paired (λ(p:List Key×V) (q:List Key×Addr×Value)=>p.1=q.1/\H q.2.1=some (.tup (p.1.map kV))/\RelV p.2 q.2.2) kvs xs/\
  ∃o es ep,h.get? a=some o/\o.ExactDict/\o.data=.dict es ep/\es.toList=xs.map (entryOfKey (tupleKind (dB P w)))/\(xs.map (·.1)).Nodup
 |.set S n=>h.SetOf (intKind P w) a S n
 |.ins C dx fs=>H dx=some (.own a)/\fs.length<=1000/\dx≠a/\h.get? a=some (PySem.W.instObj C dx)/\
  ∃mA,h.Ns1 dx mA/\(∀f,fk (fs.lookup f) (mA f))/\PySem.Within mA (fs.map (·.1))
 |.own _=>∃o,h.get? a=some o
 |.xd fs=>∃mA,h.Ns1 a mA/\∀f,fk (fs.lookup f) (mA f)
 |.cJ lo hi=>∃t u v,h.get? a=some {cls:=.type "range",data:=.fields #[.int lo t,.int hi u,.int 1 v]}
 |.bf o u=>h.get? a=some o/\c7 H h a u
 |.kU ps=>h.get? a=some {cls:=.none,data:=.fields ps}
 |.met f x=>h.get? a=some (PySem.W.methodObj (.ref f) (.ref x))
 |.ext φ=>φ h/\(∃o,h.get? a=some o)/\∀h1 h2:Heap,φ h1->(∀o,h1.get? a=some o->h2.get? a=some o)->φ h2
def cC(H:Hp)(h:Heap):Prop:=∀a o,H a=some o->c7 P w H h a o
end
section
variable{P:Program}{w:World}{H H':Hp}{h h':Heap}{a:Addr}{o:HO}
def c7.lt(x:c7 P w H h a o):a<h.objs.size:=by
 cases o with
 |lst xs=>obtain⟨_,_,_,_,e⟩:=x;exact aa3 e
 |tup xs=>obtain⟨_,_,_,p⟩:=x;exact p.lt
 |dK kvs=>obtain⟨_,_,_,_,o,_,_,e,_⟩:=x;exact aa3 e
 |dT kvs=>obtain⟨_,_,_,_,o,_,_,e,_⟩:=x;exact aa3 e
 |set S n=>obtain⟨o,_,_,_,e,_⟩:=x;exact aa3 e
 |ins C dx fs=>obtain⟨_,_,_,e,_⟩:=x;exact aa3 e
 |own y=>obtain⟨_,e⟩:=x;exact aa3 e
 |xd fs=>obtain⟨_,⟨_,_,_,e,_⟩,_⟩:=x;exact aa3 e
 |cJ lo hi=>obtain⟨_,_,_,e⟩:=x;exact aa3 e
 |bf ob u=>obtain⟨e,_⟩:=x;exact aa3 e
 |kU ps=>exact aa3 (show h.get? a=some _ from x)
 |met f y=>exact aa3 (show h.get? a=some _ from x)
 |ext φ=>obtain⟨_,⟨_,e⟩,_⟩:=x;exact aa3 e
theorem Paired.AY{α β:Type}{F G:α->β->Prop}:∀{GI:List α} {GJ:List β},Paired F GI GJ->(∀a b,F a b->G a b)->Paired G GI GJ
 |_,_,.nil,_=>.nil
 |_,_,.cons r t,f=>.cons (f _ _ r) (Paired.AY t f)
def c7.hU(x:c7 P w H h a o)(k:∀b u,(b=a\/H b=some (.own a))->h.get? b=some u->h'.get? b=some u)(ho:∀b,H b=some (.own a)->H' b=some (.own a))(ht:∀b xs,H b=some (.tup xs)->H' b=some (.tup xs)):c7 P w H' h' a o:=by
 induction o with
 |lst xs=>obtain⟨z,au,n,r,e⟩:=x;exact⟨z,au,n,r,k _ _ (.inl rfl) e⟩
 |tup xs=>obtain⟨z,au,r,ob,e,c⟩:=x;exact⟨z,au,r,ob,k _ _ (.inl rfl) e,c⟩
 |dK kvs=>obtain⟨z,y,vs,r,ob,es,ep,e,c⟩:=x;exact⟨z,y,vs,r,ob,es,ep,k _ _ (.inl rfl) e,c⟩
 |dT kvs=>obtain⟨z,y,xs,r,ob,es,ep,e,c⟩:=x;exact⟨z,y,xs,Paired.AY r λp q z=>⟨z.1,ht _ _ z.2.1,z.2.2⟩,ob,es,ep,k _ _ (.inl rfl) e,c⟩
 |set S n=>obtain⟨ob,es,ep,t,e,c⟩:=x;exact⟨ob,es,ep,t,k _ _ (.inl rfl) e,c⟩
 |ins C dx fs=>obtain⟨d,z,ne,e,mA,⟨od,es,ep,e2,c⟩,r⟩:=x;exact⟨ho _ d,z,ne,k _ _ (.inl rfl) e,mA,⟨od,es,ep,k _ _ (.inr d) e2,c⟩,r⟩
 |own y=>obtain⟨ob,e⟩:=x;exact⟨ob,k _ _ (.inl rfl) e⟩
 |xd fs=>obtain⟨mA,⟨od,es,ep,e,c⟩,r⟩:=x;exact⟨mA,⟨od,es,ep,k _ _ (.inl rfl) e,c⟩,r⟩
 |cJ lo hi=>obtain⟨t,u,v,e⟩:=x;exact⟨t,u,v,k _ _ (.inl rfl) e⟩
 |bf ob u ih=>obtain⟨e,q⟩:=x;exact⟨k _ _ (.inl rfl) e,ih q⟩
 |kU ps=>have e:h.get? a=some {cls:=.none,data:=.fields ps}:=x;show h'.get? a=some {cls:=.none,data:=.fields ps};exact k a _ (.inl rfl) e
 |met f y=>have e:h.get? a=some (PySem.W.methodObj (.ref f) (.ref y)):=x;show h'.get? a=some (PySem.W.methodObj (.ref f) (.ref y));exact k a _ (.inl rfl) e
 |ext φ=>obtain⟨p,⟨o,e⟩,st⟩:=x;exact⟨st _ _ p λo q=>k _ _ (.inl rfl) q,⟨o,k _ _ (.inl rfl) e⟩,st⟩
def cC.lt(x:cC P w H h)(e:H a=some o):a<h.objs.size:=(x a o e).lt
def cC.fresh(x:cC P w H h)(e:h.objs.size<=a):H a=none:=by
 cases q:H a with
 |none=>rfl
 |some u=>exact absurd (aa9 (x.lt q) e) (abI _)
def cC.kept(x:cC P w H h)(k:∀b u,h.get? b=some u->h'.get? b=some u):cC P w H h':=λa o e=>(x a o e).hU (λb u _ q=>k b u q) (λ_ q=>q) λ_ _ q=>q
def cC.laid(x:cC P w H h)(k:∀b u,h.get? b=some u->h'.get? b=some u)(hp:h.objs.size<=a)(new:c7 P w (upd H a o) h' a o):cC P w (upd H a o) h':=λb u e=>by
 have hn:=x.fresh hp;by_cases hb:b=a
 ·subst hb;rw[dA] at e;cases e;exact new
 ·rw[ba hb] at e;exact(x b u e).hU (λc v _ q=>k c v q) (λc q=>by rw[ba (eZ q hn)];exact q) λc xs q=>by rw[ba (eZ q hn)];exact q
end
def Rd(H:Hp)(a:Addr)(u:HO):Prop:=H a=some u\/∃o,H a=some (.bf o u)
def Rd.ok{P:Program}{w:World}{H:Hp}{h:Heap}{a:Addr}{u:HO}(r:Rd H a u)(x:cC P w H h):c7 P w H h a u:=by
 rcases r with r|⟨o,r⟩
 ·exact x a u r
 ·obtain⟨_,q⟩:=x a _ r;exact q
def sW:Option HO->Prop
 |some (.lst _)=>True
 |some (.dK _)=>True
 |some (.dT _)=>True
 |some (.set _ _)=>True
 |some (.ins _ _ _)=>True
 |some (.ext _)=>True
 |_=>False
section
variable{P:Program}{w:World}{H:Hp}{h h':Heap}{x e:Addr}{o':HO}
def cC.write(ok:cC P w H h)(mu:sW (H x))(he:e=x\/H e=some (.own x))(k:∀b u,b≠e->h.get? b=some u->h'.get? b=some u)(qw:∃u,h'.get? e=some u)(new:c7 P w (upd H x o') h' x o'):cC P w (upd H x o') h':=λb u q=>by
 have GK:∀c y,H c=some (.own y)->c≠x:=λc y r z=>by subst z;rw[r] at mu;exact mu
 have Tv:∀c xs,H c=some (.tup xs)->c≠x:=λc xs r z=>by subst z;rw[r] at mu;exact mu
 by_cases hb:b=x
 ·subst hb;rw[dA] at q;cases q;exact new
 ·rw[ba hb] at q;by_cases n5:b=e
  ·have q':H b=some (.own x):=by
    rcases he with z|z
    ·exact absurd (n5.trans z) hb
    ·rw[n5];exact z
   rw[q] at q';cases q';obtain⟨v,hv⟩:=qw;exact⟨v,by rw[n5];exact hv⟩
  ·refine(ok b u q).hU (λc v hc r=>k c v ?_ r) (λc r=>by rw[ba (GK c b r)];exact r) λc xs r=>by rw[ba (Tv c xs r)];exact r
   rcases hc with rfl|hc
   ·exact n5
   ·rintro rfl;rcases he with z|z
    ·exact GK c b hc z
    ·rw[hc] at z;cases z;exact hb rfl
end
structure Un(fs ex:List Addr)(H H':Hp)(h h':Heap):Prop where
 keep:∀b o,h.get? b=some o->H b=none->b∉fs->b∉ex->h'.get? b=some o
 slot:∀b o,h.get? b=some o->H b=none->b∈fs->b∉ex->∃sl,h'.get? b=some {o with slots:=sl}
 free:∀b o,h.get? b=some o->H b=none->b∉ex->H' b=none
 there:∀b o,h.get? b=some o->b∉ex->∃o',h'.get? b=some o'
 fX:∀b xs,H b=some (.tup xs)->H' b=some (.tup xs)
 gp:∀b o u,H b=some (.bf o u)->H' b=some (.bf o u)
 hV:∀b ps,H b=some (.kU ps)->∃more,H' b=some (.kU (ps++more))
section
variable{fs UG ex qx:List Addr}{H H1 H2:Hp}{h h1 h2 h':Heap}{a x e:Addr}{o:HO}
def Un.any(u:Un fs ex H H1 h h1){b:Addr}{ob:Obj}(q:h.get? b=some ob)(n:H b=none)(hx:b∉ex):∃sl,h1.get? b=some {ob with slots:=sl}:=by
 by_cases hb:b∈fs
 ·exact u.slot b ob q n hb hx
 ·exact⟨ob.slots,u.keep b ob q n hb hx⟩
def Un.kept(k:∀b u,h.get? b=some u->h'.get? b=some u):Un fs ex H H h h':=
 ⟨λb ob q _ _ _=>k b ob q,λb ob q _ _ _=>⟨ob.slots,k b ob q⟩,λ_ _ _ n _=>n,λb ob q _=>⟨ob,k b ob q⟩,λ_ _ q=>q,λ_ _ _ q=>q,λ_ ps q=>⟨#[],by rw[q];simp⟩⟩
def Un.refl:Un fs ex H H h h:=Un.kept λ_ _ q=>q
def Un.laid(k:∀b u,h.get? b=some u->h'.get? b=some u)(hp:h.objs.size<=a)(hn:H a=none):Un fs ex H (upd H a o) h h' where
 keep:=λb u q _ _ _=>k b u q
 slot:=λb u q _ _ _=>⟨u.slots,k b u q⟩
 free:=λb u q n _=>by rw[ba (abn (aa9 (aa3 q) hp))];exact n
 there:=λb u q _=>⟨u,k b u q⟩
 fX:=λb xs q=>by rw[ba (eZ q hn)];exact q
 gp:=λb u xs q=>by rw[ba (eZ q hn)];exact q
 hV:=λb ps q=>⟨#[],by rw[ba (eZ q hn),q];simp⟩
def Un.write(mu:sW (H x))(he:e=x\/H e=some (.own x))(k:∀b u,b≠e->h.get? b=some u->h'.get? b=some u)(qw:∃u,h'.get? e=some u):Un fs ex H (upd H x o) h h':=by
 have hx:∀b,H b=none->b≠x:=λb n z=>by subst z;rw[n] at mu;exact mu
 have hb:∀b,H b=none->b≠e:=λb n z=>by
  subst z;rcases he with r|r
  ·exact hx b n r
  ·rw[n] at r;cases r
 have hm:∀b u,H b=some u->¬sW (some u)->b≠x:=λb u q nm z=>by subst z;rw[q] at mu;exact nm mu
 refine⟨λb u q n _ _=>k b u (hb b n) q,λb u q n _ _=>⟨u.slots,k b u (hb b n) q⟩,λb u q n _=>by rw[ba (hx b n)];exact n,λb u q _=>?_,
  λb xs q=>by rw[ba (hm b _ q λz=>z)];exact q,λb u xs q=>by rw[ba (hm b _ q λz=>z)];exact q,λb ps q=>⟨#[],by rw[ba (hm b _ q λz=>z),q];simp⟩⟩
 by_cases n5:b=e
 ·subst n5;exact qw
 ·exact⟨u,k b u n5 q⟩
end
def v_(h:Heap)(H:Hp):List Addr:=(List.range h.objs.size).filter λa=>(H a).isSome
def kN(h:Heap)(H:Hp):Heap:=PySem.W.hideAll h (v_ h H)
def KZ(h:Heap)(H:Hp):(kN h H).objs.size=h.objs.size:=PySem.W.hideAll_size _ _
def Mh{h:Heap}{H:Hp}{b:Addr}{o:Obj}(e:h.get? b=some o)(n:H b=none):(kN h H).get? b=some o:=
 adp _ e λhm=>by have q:(H b).isSome=true:=(abR.mp hm).2;rw[n] at q;simp at q
def NV{h:Heap}{H:Hp}{b:Addr}{o:Obj}(e:(kN h H).get? b=some o):h.get? b=some o/\H b=none:=by
 have e':h.get? b=some o:=PySem.W.of_hideAll (v_ h H) e;refine⟨e',?_⟩;cases q:H b with
 |none=>rfl
 |some x=>have hm:b∈v_ h H:=abR.mpr ⟨abk.mpr (aa3 e'),by simp[q]⟩;have z:(kN h H).get? b=none:=PySem.W.hideAll_none (v_ h H) hm;rw[z] at e;cases e
def NW(g h:Heap)(L:Addr):List (Addr×Obj):=(List.range h.objs.size).filterMap λa=>if a=L\/(g.get? a).isSome=true then none else(h.get? a).map λo=>(a,o)
def rest(g h:Heap)(L d:Addr):List (Addr×Obj):=(NW g h L).filter λp=>decide (p.1≠d)
structure Mod(K:PySem.W.Frag)(mg:Str->Option Value)(base:Heap):Prop where
 mI:K.In base
 glob:base.Ns mainGlobals mg
 blt:∃mb,base.Ns builtinsNs mb/\∀x:Str,x≠"__name__"->mb x=bootBuiltins x
 nolimit:base.NoLimit
structure Cx where
 prog:Program
 w:World
 K:PySem.W.Frag
 mg:Str->Option Value
 base:Heap
 A:Around
 N:List Str
 dw:Shared
 qh:Hp
 env:Env
 outer:List Env
 stack:List Env
 ex:List Addr
 fn:Str->Bool
 calm:Bool
 pn:List (Addr×Obj)
 xe:Value->Shared->Prop
def dg(l:List Env):List Addr:=l.filterMap (·.frame)
abbrev Cx.fs(X:Cx):List Addr:=dg X.outer
def qy(sc:Scope)(x:Str):Prop:=sc.names.lookup x=some .local\/sc.names.lookup x=some .cell\/sc.names.lookup x=some .free
def Loc(sc:Scope)(x:Str):Prop:=sc.names.lookup x=some .local\/sc.names.lookup x=some .cell
def Look(env:Env)(h:Heap)(m:Str->Option Value)(x:Str)(u:Value):Prop:=
 (env.kindOf x=some .local/\m x=some u)\/((env.kindOf x=some .cell\/env.kindOf x=some .free)/\∃c,env.cells.lookup x=some c/\h.IsCell c (some u))
structure Cx.Ok(X:Cx):Prop where
 mod:Mod X.K X.mg X.base
 kind:X.env.scope.kind=.function
 glob:X.env.globals=mainGlobals
 blt:X.env.builtins=builtinsNs
 above:X.dw.heap.objs.size<=X.env.locals
 inj:∀x y c,X.env.cells.lookup x=some c->X.env.cells.lookup y=some c->x=y
 has:∀x,(X.env.kindOf x=some .cell\/X.env.kindOf x=some .free)->∃c,X.env.cells.lookup x=some c
 n8:∀x c,X.fn x=true->X.env.cells.lookup x=some c->X.dw.heap.objs.size<=c
 hd:X.calm=true->X.A.handled=none
 frames:X.A.frames=some X.stack
 qA:X.stack=X.outer\/(X.stack=X.env::X.outer/\X.env.frame=some X.env.locals)
 wa:∀b∈X.ex,b≠X.env.locals/\∀x c,X.env.cells.lookup x=some c->c≠b
 bs:∀b o,X.base.get? b=some o->X.dw.heap.get? b=some o/\X.qh b=none
 j3:X.base.objs.size<=X.dw.heap.objs.size
 eB:∀b o,X.base.get? b=some o->b∉X.ex
 qi:∀b∈X.ex,b∉X.fs
 hZ:X.dw.heap.FunFrames X.base X.outer
 kW:∀b∈X.fs,X.qh b=none
structure Inv(X:Cx)(pins:List (Addr×Obj))(σ:List (Option V))(H:Hp)(s:Shared):Prop where
 ok:X.Ok
 os:s.os=X.dw.os
 bare:AllBare s.gens
 base:Un X.fs X.ex X.qh H X.dw.heap s.heap
 loc:∃m,s.heap.Ns X.env.locals m/\∀(i:Nat) (x:Str) (v:V),X.N[i]? =some x->σ[i]? =some (some v)->qy X.env.scope x->∃u,RelV v u/\Look X.env s.heap m x u
 cell:∀x c,X.env.cells.lookup x=some c->∃v,s.heap.IsCell c v
 free:H X.env.locals=none
 gn:∀x c,X.env.cells.lookup x=some c->H c=none
 pin:∀p∈X.pn++pins,s.heap.get? p.1=some p.2/\H p.1=none/\p.1≠X.env.locals/\p.1∉X.fs/\∀v,p.2.data≠.cell v
 aE:cC X.prog X.w H s.heap
 len:σ.length=X.N.length
section
variable{X:Cx}{pins:List (Addr×Obj)}{σ:List (Option V)}{H H':Hp}{s:Shared}{h':Heap}
def Cx.Ok.Tw(ok:X.Ok){b:Addr}{o:Obj}(e:X.base.get? b=some o):b∉X.fs:=λhb=>by have:=(ok.hZ.mem hb).1;rw[e] at this;cases this
def Inv.bs(I:Inv X pins σ H s):∀b o,X.base.get? b=some o->s.heap.get? b=some o/\H b=none:=λb o e=>⟨I.base.keep b o (I.ok.bs b o e).1 (I.ok.bs b o e).2 (I.ok.Tw e) (I.ok.eB b o e),I.base.free b o (I.ok.bs b o e).1 (I.ok.bs b o e).2 (I.ok.eB b o e)⟩
def Inv.bk(I:Inv X pins σ H s):∀b o,X.base.get? b=some o->s.heap.get? b=some o:=λb o e=>(I.bs b o e).1
def Inv.mod(I:Inv X pins σ H s):Mod X.K X.mg X.base:=I.ok.mod
def Inv.eS(I:Inv X pins σ H s):X.K.In s.heap:=I.ok.mod.mI.keeps I.bk
def Inv.lt(I:Inv X pins σ H s):X.env.locals<s.heap.objs.size:=let⟨_,hn,_⟩:=I.loc;hn.lt
def Inv.sz(I:Inv X pins σ H s):X.dw.heap.objs.size<=s.heap.objs.size:=aa1 I.ok.above (acn I.lt)
def Inv.GL(I:Inv X pins σ H s){a:Addr}(h:s.heap.objs.size<=a):a∉X.fs:=λhb=>by obtain⟨_,o,ho,_⟩:=I.ok.hZ.mem hb;exact absurd (aa9 (aa3 ho) (aa1 I.sz h)) (abI _)
def Inv.kY(I:Inv X pins σ H s):∀x c,X.env.cells.lookup x=some c->c≠X.env.locals:=λx c e z=>by obtain⟨v,o,ho,hd⟩:=I.cell x c e;obtain⟨m,⟨o',es,ep,dn,Bo,_⟩,_⟩:=I.loc;rw[z,dn] at ho;cases ho;rw[Bo] at hd;cases hd
def Inv.hZ(I:Inv X pins σ H s):s.heap.FunFrames X.base X.outer:=by
 have all:∀(l:List Env),(∀b∈dg l,b∈X.fs)->X.dw.heap.FunFrames X.base l->s.heap.FunFrames X.base l:=by
  intro l;induction l with
  |nil=>intro _ _;trivial
  |cons env r ih=>
   intro hs hl;obtain⟨hk,⟨L,o,hf,hn,ho,hd⟩,hr⟩:=hl;have hL:L∈X.fs:=hs L (by unfold dg;rw[adq,hf];exact abL);obtain⟨sl,e⟩:=I.base.slot L o ho (I.ok.kW L hL) hL λz=>I.ok.qi L z hL
   exact⟨hk,⟨L,_,hf,hn,e,hd⟩,ih (λb hb=>hs b (by unfold dg;rw[adq,hf];exact abo _ hb)) hr⟩
 exact all X.outer (λ_ hb=>hb) I.ok.hZ
def Inv.stack(I:Inv X pins σ H s):s.heap.FunFrames X.base X.stack:=by
 rcases I.ok.qA with e|⟨e,hf⟩
 ·rw[e];exact I.hZ
 ·rw[e];obtain⟨m,hn,_⟩:=I.loc;refine .cons (by rw[I.ok.kind];decide) hf hn ?_ I.hZ;exact Heap.get?_none_of_le (aa1 I.ok.j3 I.ok.above)
def Inv.u3(I:Inv X pins σ H s):∀b∈dg X.stack,b∈X.env.locals::X.fs:=λb hb=>by
 rcases I.ok.qA with e|⟨e,hf⟩
 ·rw[e] at hb;exact abo _ hb
 ·rw[e] at hb;unfold dg at hb;rw[adq,hf] at hb;exact hb
def Inv.zV(I:Inv X pins σ H s):∀b∈dg X.stack,H b=none:=λb hb=>by
 rcases aaX.mp (I.u3 b hb) with e|hb
 ·rw[e];exact I.free
 ·obtain⟨_,o,ho,_⟩:=I.ok.hZ.mem hb;exact I.base.free b o ho (I.ok.kW b hb) λz=>I.ok.qi b z hb
def Inv.step{g':Array GenState}{t':Nat}{d':Drawn}{ch:List Addr}(I:Inv X pins σ H s)(j4:∀b∈ch,(b∈X.ex\/X.dw.heap.objs.size<=b)/\b≠X.env.locals/\(∀x c,X.env.cells.lookup x=some c->c≠b)/\∀p∈X.pn++pins,p.1≠b)(keep:∀b o,b≠X.env.locals->b∉X.fs->b∉ch->s.heap.get? b=some o->H b=none->h'.get? b=some o)(slot:∀b o,b≠X.env.locals->b∈X.fs->b∉ch->s.heap.get? b=some o->H b=none->∃sl,h'.get? b=some {o with slots:=sl})(free:∀b o,b∉ch->s.heap.get? b=some o->H b=none->H' b=none)(there:∀b o,b∉ch->s.heap.get? b=some o->∃o',h'.get? b=some o')(fX:∀b xs,H b=some (.tup xs)->H' b=some (.tup xs))(gp:∀b o u,H b=some (.bf o u)->H' b=some (.bf o u))(hV:∀b ps,H b=some (.kU ps)->∃more,H' b=some (.kU (ps++more)))(ns:∀m,s.heap.Ns X.env.locals m->h'.Ns X.env.locals m)(aE:cC X.prog X.w H' h')(hg:AllBare g'):
 Inv X pins σ H' {s with heap:=h',gens:=g',drawn:=d',toks:=t'}:=by
 have qB:∀b o,X.dw.heap.get? b=some o->b≠X.env.locals:=λb o e=>abn (aa9 (aa3 e) I.ok.above)
 have wb:∀b o,X.dw.heap.get? b=some o->b∉X.ex->b∉ch:=λb o e hx hb=>by
  rcases(j4 b hb).1 with z|z
  ·exact hx z
  ·exact absurd (aa9 (aa3 e) z) (abI _)
 have cellK:∀x c,X.env.cells.lookup x=some c->∀v,s.heap.IsCell c v->h'.IsCell c v:=λx c e v ⟨o,ho,hd⟩=>by
  have fY:c∉ch:=λz=>(j4 c z).2.2.1 x c e rfl
  by_cases hc:c∈X.fs
  ·obtain⟨sl,q⟩:=slot c o (I.kY x c e) hc fY ho (I.gn x c e);exact⟨_,q,hd⟩
  ·exact⟨o,keep c o (I.kY x c e) hc fY ho (I.gn x c e),hd⟩
 refine⟨I.ok,I.os,hg,⟨λb o e n hb hx=>?_,λb o e n hb hx=>?_,λb o e n hx=>?_,λb o e hx=>?_,λb xs e=>fX b xs (I.base.fX b xs e),λb o xs e=>gp b o xs (I.base.gp b o xs e),λb ps e=>?_⟩,?_,λx c e=>?_,?_,λx c e=>?_,λp hp=>?_,aE,I.len⟩
 ·exact keep b o (qB b o e) hb (wb b o e hx) (I.base.keep b o e n hb hx) (I.base.free b o e n hx)
 ·obtain⟨sl,e1⟩:=I.base.slot b o e n hb hx;obtain⟨Bp,e2⟩:=slot b _ (qB b o e) hb (wb b o e hx) e1 (I.base.free b o e n hx);exact⟨Bp,e2⟩
 ·obtain⟨o',e1⟩:=I.base.there b o e hx;exact free b o' (wb b o e hx) e1 (I.base.free b o e n hx)
 ·obtain⟨o',e1⟩:=I.base.there b o e hx;exact there b o' (wb b o e hx) e1
 ·obtain⟨m1,e1⟩:=I.base.hV b ps e;obtain⟨m2,e2⟩:=hV b _ e1;exact⟨m1++m2,by rw[e2,Array.append_assoc]⟩
 ·obtain⟨m,hn,hl⟩:=I.loc;refine⟨m,ns m hn,λi x v e1 e2 e3=>?_⟩;obtain⟨u,r,l⟩:=hl i x v e1 e2 e3;refine⟨u,r,?_⟩;rcases l with l|⟨k,c,e,z⟩
  ·exact .inl l
  ·exact .inr ⟨k,c,e,cellK x c e _ z⟩
 ·obtain⟨v,z⟩:=I.cell x c e;exact⟨v,cellK x c e v z⟩
 ·obtain⟨m,⟨o,_,_,ho,_⟩,_⟩:=I.loc;exact free _ o (λz=>(j4 _ z).2.1 rfl) ho I.free
 ·obtain⟨v,o,ho,hd⟩:=I.cell x c e;exact free c o (λz=>(j4 c z).2.2.1 x c e rfl) ho (I.gn x c e)
 ·obtain⟨e,n,ne,nf,d⟩:=I.pin p hp;have fY:p.1∉ch:=λz=>(j4 p.1 z).2.2.2 p hp rfl
  exact⟨keep p.1 p.2 ne nf fY e n,free p.1 p.2 fY e n,ne,nf,d⟩
def Inv.un{t':Nat}(I:Inv X pins σ H s)(u:Un X.fs [] H H' s.heap h')(aE:cC X.prog X.w H' h'):Inv X pins σ H' {s with heap:=h',toks:=t'}:=by obtain⟨m,⟨o,es,ep,ho,r⟩,_⟩:=id I.loc;obtain⟨sl,hL⟩:=u.any ho I.free (by simp);exact I.step (g':=s.gens) (d':=s.drawn) (ch:=[]) (λ_ z=>nomatch z) (λb o _ hb _ e n=>u.keep b o e n hb (by simp)) (λb o _ hb _ e n=>u.slot b o e n hb (by simp)) (λb o _ e n=>u.free b o e n (by simp)) (λb o _ e=>u.there b o e (by simp)) u.fX u.gp u.hV (λm' hm=>by obtain⟨o',wc,sX,dn,r'⟩:=hm;rw[ho] at dn;cases dn;exact⟨_,wc,sX,hL,r'⟩) aE I.bare
def Inv.call{g':Array GenState}{t':Nat}{d':Drawn}{ch:List Addr}(I:Inv X pins σ H s)(u:Un (dg X.stack) ch H H' s.heap h')(aE:cC X.prog X.w H' h')(hg:AllBare g')(j4:∀b∈ch,(b∈X.ex\/X.dw.heap.objs.size<=b)/\b≠X.env.locals/\(∀x c,X.env.cells.lookup x=some c->c≠b)/\∀p∈X.pn++pins,p.1≠b):
 Inv X pins σ H' {s with heap:=h',gens:=g',drawn:=d',toks:=t'}:=by
 obtain⟨m,⟨o,es,ep,ho,r⟩,_⟩:=id I.loc;obtain⟨sl,hL⟩:=u.any ho I.free λz=>(j4 _ z).2.1 rfl
 exact I.step (ch:=ch) j4 (λb o hL hb hc e n=>u.keep b o e n (λz=>(aaX.mp (I.u3 b z)).elim hL hb) hc) (λb o _ _ hc e n=>u.any e n hc) (λb o hc e n=>u.free b o e n hc) (λb o hc e=>u.there b o e hc) u.fX u.gp u.hV (λm' hm=>by obtain⟨o',wc,sX,dn,r'⟩:=hm;rw[ho] at dn;cases dn;exact⟨_,wc,sX,hL,r'⟩) aE hg
def Inv.turned{t':Nat}{it:Addr}(I:Inv X pins σ H s)(k:∀b o,b≠it->s.heap.get? b=some o->h'.get? b=some o)(hn:H it=none)(hL:it≠X.env.locals)(h1:it∈X.ex\/X.dw.heap.objs.size<=it)(h2:∀x c,X.env.cells.lookup x=some c->c≠it)(h3:∀p∈X.pn++pins,p.1≠it):Inv X pins σ H {s with heap:=h',toks:=t'}:=by
 have Ho:∀b u,H b=some u->b≠it:=λb u e z=>by rw[z,hn] at e;cases e
 refine I.step (g':=s.gens) (d':=s.drawn) (ch:=[it]) (λb hb=>?_) (λb o _ _ hc e _=>k b o (λz=>hc (by simp[z])) e) (λb o _ _ hc e _=>⟨o.slots,k b o (λz=>hc (by simp[z])) e⟩) (λ_ _ _ _ n=>n) (λb o hc e=>⟨o,k b o (λz=>hc (by simp[z])) e⟩) (λ_ _ e=>e) (λ_ _ _ e=>e) (λb ps e=>⟨#[],by rw[e];simp⟩) (λm hm=>?_) (λb u e=>?_) I.bare
 ·have e:b=it:=by simpa using hb
  subst e;exact⟨h1,hL,h2,h3⟩
 ·obtain⟨o,es,ep,ho,r⟩:=hm;exact⟨o,es,ep,k _ o (abc hL) ho,r⟩
 ·refine(I.aE b u e).hU (λc v hc q=>k c v ?_ q) (λ_ q=>q) λ_ _ q=>q
  rcases hc with z|z
  ·rw[z];exact Ho b u e
  ·exact Ho c _ z
def Inv.tok(I:Inv X pins σ H s)(t:Nat):Inv X pins σ H {s with toks:=t}:=I.un (h':=s.heap) (t':=t) Un.refl I.aE
def Inv.kept{t':Nat}(I:Inv X pins σ H s)(k:∀b u,s.heap.get? b=some u->h'.get? b=some u):Inv X pins σ H {s with heap:=h',toks:=t'}:=I.un (Un.kept k) (I.aE.kept k)
def Inv.laid{a:Addr}{o:HO}{t':Nat}(I:Inv X pins σ H s)(k:∀b u,s.heap.get? b=some u->h'.get? b=some u)(hp:s.heap.objs.size<=a)(new:c7 X.prog X.w (upd H a o) h' a o):
 Inv X pins σ (upd H a o) {s with heap:=h',toks:=t'}:=I.un (Un.laid k hp (I.aE.fresh hp)) (I.aE.laid k hp new)
def Inv.write{x e:Addr}{o:HO}{t':Nat}(I:Inv X pins σ H s)(mu:sW (H x))(he:e=x\/H e=some (.own x))(k:∀b u,b≠e->s.heap.get? b=some u->h'.get? b=some u)(qw:∃u,h'.get? e=some u)(new:c7 X.prog X.w (upd H x o) h' x o):Inv X pins σ (upd H x o) {s with heap:=h',toks:=t'}:=I.un (Un.write mu he k qw) (I.aE.write mu he k qw new)
def Inv.r_{Ge:List (Addr×Obj)}(I:Inv X pins σ H s)(h:∀p∈Ge,s.heap.get? p.1=some p.2/\H p.1=none/\p.1≠X.env.locals/\p.1∉X.fs/\∀v,p.2.data≠.cell v):Inv X Ge σ H s:=
 ⟨I.ok,I.os,I.bare,I.base,I.loc,I.cell,I.free,I.gn,λp hp=>(acd.mp hp).elim (λz=>I.pin p (adX _ z)) (h p),I.aE,I.len⟩
def zt{N:List Str}(hN:N.Nodup){i j:Nat}{x:Str}(a:N[i]? =some x)(b:N[j]? =some x):i=j:=by obtain⟨h1,e1⟩:=aaZ.mp a;obtain⟨h2,e2⟩:=aaZ.mp b;exact(List.getElem_inj hN).mp (e1.trans e2.symm)
def K0{M:Model}{A:Around}{E:Value->Shared->Prop}{i:Nat}{x:Str}{v:V}{u:Value}{Q:Unit->Shared->Prop}(I:Inv X pins σ H s)(hN:X.N.Nodup)(hi:X.N[i]? =some x)(hx:Loc X.env.scope x)(r:RelV v u)(h:∀s',Inv X pins (σ.set i (some v)) H s'->(∃a,Heap.SameBut a s.heap s'.heap/\(a=X.env.locals\/X.env.cells.lookup x=some a))->Q () s')(hf:X.fn x=true\/X.env.scope.names.lookup x=some .local:=by first|exact .inl rfl|exact .inr rfl|assumption):wpAny M A (storeName X.env x u) Q E s:=by
 obtain⟨m,hn,hl⟩:=id I.loc;have nR:(X.env.scope.kind==.class||(X.env.scope.kind==.module&&X.env.locals != X.env.globals))=false:=by rw[I.ok.kind];rfl
 have vI:i<σ.length:=by rw[I.len];exact(aaZ.mp hi).1
 have kY:=I.kY;have tracked:∀{a:Addr} {h':Heap},(∃o,s.heap.get? a=some o/\H a=none)->Heap.SameBut a s.heap h'->cC X.prog X.w H h':=λ{a h'} ha hs b ob e=>by
  obtain⟨_,_,Gf⟩:=ha;refine(I.aE b ob e).hU (λc w' hc q=>(hs.2 c ?_).trans q) (λ_ q=>q) λ_ _ q=>q
  rintro rfl;rcases hc with rfl|hc
  ·rw[Gf] at e;cases e
  ·rw[Gf] at hc;cases hc
 rcases hx with hk|hk
 ·refine wpAny_storeName_local hk hn (λh' sY hs=>?_) nR;obtain⟨oL,_,_,Hq,_⟩:=id hn;refine h _ ⟨I.ok,I.os,I.bare,⟨λb o e n hb hx=>?_,λb o e n hb hx=>?_,I.base.free,λb o e hx=>?_,I.base.fX,I.base.gp,I.base.hV⟩,⟨_,sY,λj y v' e1 e2 e3=>?_⟩,λy c e=>?_,I.free,I.gn,λp hp=>?_,tracked ⟨oL,Hq,I.free⟩ hs,by simpa using I.len⟩ ⟨_,hs,.inl rfl⟩
  ·exact(hs.2 b (abn (aa9 (aa3 e) I.ok.above))).trans (I.base.keep b o e n hb hx)
  ·obtain⟨sl,e1⟩:=I.base.slot b o e n hb hx;exact⟨sl,(hs.2 b (abn (aa9 (aa3 e) I.ok.above))).trans e1⟩
  ·obtain⟨o',e1⟩:=I.base.there b o e hx;exact⟨o',(hs.2 b (abn (aa9 (aa3 e) I.ok.above))).trans e1⟩
  ·by_cases hj:j=i
   ·subst hj;rw[hi] at e1;cases e1;rw[abr vI] at e2;cases e2;exact⟨u,r,.inl ⟨hk,by simp⟩⟩
   ·rw[abe (abc hj)] at e2;obtain⟨u',r',q⟩:=hl j y v' e1 e2 e3;refine⟨u',r',?_⟩;rcases q with⟨k,e⟩|⟨k,c,e,z⟩
    ·refine .inl ⟨k,?_⟩;have:y≠x:=λe=>hj (zt hN e1 (e▸hi))
     simp[this,e]
    ·exact .inr ⟨k,c,e,z.sameBut hs (kY y c e)⟩
  ·obtain⟨w',z⟩:=I.cell y c e;exact⟨w',z.sameBut hs (kY y c e)⟩
  ·obtain⟨e,n,ne,nf,d⟩:=I.pin p hp;exact⟨(hs.2 p.1 ne).trans e,n,ne,nf,d⟩
 ·have sZ:X.fn x=true:=by
   rcases hf with z|z
   ·exact z
   ·rw[z] at hk;cases hk
  obtain⟨c,hc⟩:=I.ok.has x (.inl hk);obtain⟨w',z⟩:=I.cell x c hc;refine wpAny_storeName_cell I.ok.kind hk hc z (λh' aL hs=>?_);obtain⟨oc,Hr,Tx⟩:=id z;refine h {s with heap:=h'} ⟨I.ok,I.os,I.bare,⟨λb o e n hb hx=>?_,λb o e n hb hx=>?_,I.base.free,λb o e hx=>?_,I.base.fX,I.base.gp,I.base.hV⟩,⟨m,hn.sameBut hs (abc (kY x c hc)),λj y v' e1 e2 e3=>?_⟩,λy c' e=>?_,I.free,I.gn,λp hp=>?_,tracked ⟨oc,Hr,I.gn x c hc⟩ hs,by simpa using I.len⟩ ⟨c,hs,.inr hc⟩
  ·exact(hs.2 b (abn (aa9 (aa3 e) (I.ok.n8 x c sZ hc)))).trans (I.base.keep b o e n hb hx)
  ·obtain⟨sl,e1⟩:=I.base.slot b o e n hb hx;exact⟨sl,(hs.2 b (abn (aa9 (aa3 e) (I.ok.n8 x c sZ hc)))).trans e1⟩
  ·obtain⟨o',e1⟩:=I.base.there b o e hx;exact⟨o',(hs.2 b (abn (aa9 (aa3 e) (I.ok.n8 x c sZ hc)))).trans e1⟩
  ·by_cases hj:j=i
   ·subst hj;rw[hi] at e1;cases e1;rw[abr vI] at e2;cases e2;exact⟨u,r,.inr ⟨.inl hk,c,hc,aL⟩⟩
   ·rw[abe (abc hj)] at e2;obtain⟨u',r',q⟩:=hl j y v' e1 e2 e3;refine⟨u',r',?_⟩;rcases q with q|⟨k,c',e,z'⟩
    ·exact .inl q
    ·refine .inr ⟨k,c',e,z'.sameBut hs ?_⟩;rintro rfl;exact hj (zt hN e1 (I.ok.inj _ _ _ e hc▸hi))
  ·by_cases s_:c'=c
   ·subst s_;exact⟨_,aL⟩
   ·obtain⟨w2,z2⟩:=I.cell y c' e;exact⟨w2,z2.sameBut hs s_⟩
  ·obtain⟨e,n,ne,nf,d⟩:=I.pin p hp;refine⟨(hs.2 p.1 ?_).trans e,n,ne,nf,d⟩;intro q;rw[q,Hr] at e;have q':oc=p.2:=aa2 e;exact d w' (by rw[<-q'];exact Tx)
def uA{M:Model}{A:Around}{E:Value->Shared->Prop}{i:Nat}{x:Str}{v:V}{u:Value}{Q:Unit->Shared->Prop}(I:Inv X pins σ H s)(hN:X.N.Nodup)(hi:X.N[i]? =some x)(hx:Loc X.env.scope x)(r:RelV v u)(h:∀s',Inv X pins (σ.set i (some v)) H s'->Q () s')(hf:X.fn x=true\/X.env.scope.names.lookup x=some .local:=by first|exact .inl rfl|exact .inr rfl|assumption):wpAny M A (storeName X.env x u) Q E s:=
 K0 I hN hi hx r (λs' I' _=>h s' I') hf
def Inv.Gg{s':Shared}{ch:List Addr}(I:Inv X pins σ H s)(ho:s'.os=s.os)(u:Un (dg X.stack) ch H H' s.heap s'.heap)(aE:cC X.prog X.w H' s'.heap)(hg:AllBare s'.gens)(j4:∀b∈ch,(b∈X.ex\/X.dw.heap.objs.size<=b)/\b≠X.env.locals/\(∀x c,X.env.cells.lookup x=some c->c≠b)/\∀p∈X.pn++pins,p.1≠b):Inv X pins σ H' s':=by obtain⟨h',g',d',t',o'⟩:=s';have e:o'=s.os:=ho;subst e;exact I.call (g':=g') (t':=t') (d':=d') u aE hg j4
end
abbrev XK:=Value->Option Addr->Hp->Prop
abbrev St:=List (Option V)
abbrev VK:=V->Hp->Prop
abbrev TE:=St->Hp->VK->Prop
abbrev TT:=St->Hp->(Bool->Hp->Prop)->Prop
abbrev TA:=St->Hp->(List V->Hp->Prop)->Prop
structure Ends where
 nx:St->Hp->Prop
 rt:VK
 bk:St->Hp->Prop:=λ_ _=>False
 ct:St->Hp->Prop:=λ_ _=>False
abbrev TS:=Ends->St->Hp->Prop
def EP(X:Cx)(pins:List (Addr×Obj))(σ:St)(Q:VK)(u:Value)(s':Shared):Prop:=∃v H',Inv X pins σ H' s'/\RelV v u/\Q v H'
def TP(X:Cx)(pins:List (Addr×Obj))(σ:St)(Q:Bool->Hp->Prop)(b:Bool)(s':Shared):Prop:=∃H',Inv X pins σ H' s'/\Q b H'
def AP(X:Cx)(pins:List (Addr×Obj))(σ:St)(Q:List V->Hp->Prop)(us:List Value)(s':Shared):Prop:=∃vs H',Inv X pins σ H' s'/\Vals vs us/\Q vs H'
def SP(X:Cx)(pins:List (Addr×Obj))(D:Ends)(f:Flow)(s':Shared):Prop:=
 match f with
 |.next=>∃aA H',Inv X pins aA H' s'/\D.nx aA H'
 |.brk=>∃aA H',Inv X pins aA H' s'/\D.bk aA H'
 |.cont=>∃aA H',Inv X pins aA H' s'/\D.ct aA H'
 |.ret u=>∃v aA H',Inv X pins aA H' s'/\RelV v u/\D.rt v H'
def PE(X:Cx)(e:Expr)(t:TE):Prop:=
 ∀(pins:List (Addr×Obj)) (s:Shared) (σ:St) (H:Hp) (Q:VK),Inv X pins σ H s->t σ H Q->wpAny (model X.prog X.w) X.A (eval e X.env) (EP X pins σ Q) X.xe s
def PT(X:Cx)(e:Expr)(t:TT):Prop:=
 ∀(pins:List (Addr×Obj)) (s:Shared) (σ:St) (H:Hp) (Q:Bool->Hp->Prop),Inv X pins σ H s->t σ H Q->wpAny (model X.prog X.w) X.A (isTrue e X.env (eval e X.env)) (TP X pins σ Q) X.xe s
def PW(X:Cx)(e:Expr)(t:TT):Prop:=
 ∀(whole:Sem Value) (pins:List (Addr×Obj)) (s:Shared) (σ:St) (H:Hp) (Q:Bool->Hp->Prop),Inv X pins σ H s->t σ H Q->wpAny (model X.prog X.w) X.A (isTrue e X.env whole) (TP X pins σ Q) X.xe s
def PW.pt{X:Cx}{e:Expr}{t:TT}(h:PW X e t):PT X e t:=h _
def PA(X:Cx)(es:List Expr)(t:TA):Prop:=
 ∀(pos:Pos) (pins:List (Addr×Obj)) (s:Shared) (σ:St) (H:Hp) (Q:List V->Hp->Prop),Inv X pins σ H s->t σ H Q->wpAny (model X.prog X.w) X.A (spliced (backTo pos (starEach es X.env))) (AP X pins σ Q) X.xe s
def PS(X:Cx)(st:Stmt)(t:TS):Prop:=
 ∀(pins:List (Addr×Obj)) (s:Shared) (σ:St) (H:Hp) (D:Ends),Inv X pins σ H s->t D σ H->wpAny (model X.prog X.w) X.A (exec st X.env) (SP X pins D) X.xe s
def gP(X:Cx)(st:List Stmt)(t:TS):Prop:=
 ∀(pins:List (Addr×Obj)) (s:Shared) (σ:St) (H:Hp) (D:Ends),Inv X pins σ H s->t D σ H->wpAny (model X.prog X.w) X.A (execs st X.env) (SP X pins D) X.xe s
def aK{α:Type}{t:Sem α}{Q Q':α->Shared->Prop}{M:Model}{A:Around}{E:Value->Shared->Prop}{s:Shared}(h:wpAny M A t Q E s)(hQ:∀a s,Q a s->Q' a s):wpAny M A t Q' E s:=abh h hQ λ_ _ x=>x
section
variable{X:Cx}
def bin{a b:Expr}{ta tb:TE}(ha:PE X a ta)(hb:PE X b tb){pins:List (Addr×Obj)}{s:Shared}{σ:St}{H:Hp}{R:V->V->Hp->Prop}(I:Inv X pins σ H s)(h:ta σ H λx H1=>tb σ H1 λy H2=>R x y H2){α:Type}{Q:α->Shared->Prop}{f:Value->Value->Sem α}(hf:∀v u s2 x y H2,Inv X pins σ H2 s2->RelV x v->RelV y u->R x y H2->wpAny (model X.prog X.w) X.A (f v u) Q X.xe s2):
 wpAny (model X.prog X.w) X.A (eval a X.env) (λv bD=>wpAny (model X.prog X.w) X.A (eval b X.env) (λu dy=>wpAny (model X.prog X.w) X.A (f v u) Q X.xe dy) X.xe bD) X.xe s:=by
 refine aK (ha pins s σ H _ I h) λv s1 ⟨x,H1,I1,r1,q1⟩=>?_
 refine aK (hb pins s1 σ H1 _ I1 q1) λu s2 ⟨y,H2,I2,r2,q2⟩=>?_
 exact hf v u s2 x y H2 I2 r1 r2 q2
def AZ(i:Nat):TE:=λσ H Q=>∃v,σ[i]? =some (some v)/\Q v H
def tC(v:V):TE:=λ_ H Q=>Q v H
def An{i:Nat}{x:Str}{pos:Pos}(hN:X.N[i]? =some x)(hv:qy X.env.scope x)(hd:(x==("__debug__":Str))=false:=by decide)(fM:(x==("__classdict__":Str))=false:=by decide):PE X (.Name x pos) (AZ i):=by
 intro pins s σ H Q I h;obtain⟨v,e,h⟩:=h;obtain⟨m,hn,hl⟩:=I.loc;obtain⟨u,r,l⟩:=hl i x v hN e hv;have fin:EP X pins σ Q u s:=⟨v,H,I,r,h⟩;rcases l with⟨hk,hm⟩|⟨hk,c,hc,vq⟩
 ·exact wpAny_Name (wpAny_loadName_local I.ok.kind hk hn hm fin) hd
 ·rcases hk with hk|hk
  ·exact wpAny_Name (wpAny_loadName_cell I.ok.kind hk hc vq fin) hd
  ·exact wpAny_Name (wpAny_loadName_free I.ok.kind hk hc vq fin fM) hd
def PR{i j pos}:PE X (.Constant (.int i) j pos) (tC (.int i)):=λ_ _ _ H _ I h=>wpAny_Constant_int ⟨.int i,H,I.tok _,⟨_,rfl⟩,h⟩
def RQ{b j pos}:PE X (.Constant (.bool b) j pos) (tC (.bl b)):=λ_ _ _ H _ I h=>Constant_bool ⟨.bl b,H,I,rfl,h⟩
def PU{j pos}:PE X (.Constant .none j pos) (tC .ao):=λ_ _ _ H _ I h=>Constant_none ⟨.ao,H,I,rfl,h⟩
def FE{x j pos}:PE X (.Constant (.str x) j pos) (tC (.str x)):=λ_ _ _ H _ I h=>Calls.Constant_str ⟨.str x,H,I.tok _,⟨_,rfl⟩,h⟩
def Gl(X:Cx)(x:Str):Prop:=X.env.kindOf x=some .globalImplicit
def pS{E:Value->Shared->Prop}{pins:List (Addr×Obj)}{s:Shared}{σ:St}{H:Hp}{x:Str}{u:Value}{pos:Pos}{Q:Value->Shared->Prop}(I:Inv X pins σ H s)(hg:Gl X x)(hm:X.mg x=some u)(h:Q u s)(hd:(x==("__debug__":Str))=false:=by decide):wpAny (model X.prog X.w) X.A (eval (.Name x pos) X.env) Q E s:=
 adY I.ok.kind hg (Calls.loadGlobal_global (by rw[I.ok.glob];exact I.mod.glob.keeps I.bk) hm h) hd
def l5{E:Value->Shared->Prop}{pins:List (Addr×Obj)}{s:Shared}{σ:St}{H:Hp}{x:Str}{u:Value}{pos:Pos}{Q:Value->Shared->Prop}(I:Inv X pins σ H s)(hg:Gl X x)(hm:X.mg x=none)(hv:bootBuiltins x=some u)(h:Q u s)(hn:x≠"__name__":=by decide)(hd:(x==("__debug__":Str))=false:=by decide):wpAny (model X.prog X.w) X.A (eval (.Name x pos) X.env) Q E s:=by obtain⟨mb,h1,h2⟩:=I.mod.blt;exact adY I.ok.kind hg (Calls.loadGlobal_builtin (by rw[I.ok.glob];exact I.mod.glob.keeps I.bk) hm (by rw[I.ok.blt];exact h1.keeps I.bk) ((h2 x hn).trans hv) h) hd
def EW{x:Str}{v:V}{u:Value}{pos:Pos}(hg:Gl X x)(hm:X.mg x=some u)(r:RelV v u)(hd:(x==("__debug__":Str))=false:=by decide):PE X (.Name x pos) (tC v):=
 λ_ _ _ H _ I h=>pS I hg hm ⟨v,H,I,r,h⟩ hd
def zW{x:Str}{v:V}{u:Value}{pos:Pos}(hg:Gl X x)(hm:X.mg x=none)(hv:bootBuiltins x=some u)(r:RelV v u)(hn:x≠"__name__":=by decide)(hd:(x==("__debug__":Str))=false:=by decide):PE X (.Name x pos) (tC v):=
 λ_ _ _ H _ I h=>l5 I hg hm hv ⟨v,H,I,r,h⟩ hn hd
variable{a b:Expr}{ta tb:TE}{pos:Pos}
def PC(X:Cx)(op:CmpOp)(a b:Expr)(t:TE):Prop:=
 ∀(pins:List (Addr×Obj)) (s:Shared) (σ:St) (H:Hp) (Q:VK),Inv X pins σ H s->t σ H Q->
  wpAny (model X.prog X.w) X.A (eval a X.env) (λv bD=>wpAny (model X.prog X.w) X.A (eval b X.env) (λu dy=>wpAny (model X.prog X.w) X.A (compareOp op v u) (EP X pins σ Q) X.xe dy) X.xe bD) X.xe s
def Eg(b:Expr){op:CmpOp}(h:op≠.In)(h2:op≠.NotIn):behindInMarks op b=false:=by
 have e1:(op==CmpOp.In)=false:=by cases op<;>first|rfl|exact absurd rfl h
 have e2:(op==CmpOp.NotIn)=false:=by cases op<;>first|rfl|exact absurd rfl h2
 cases b<;>simp[behindInMarks,e1,e2]
def Tz(ta:TE):TE:=λσ H Q=>ta σ H λx H1=>Q (.bl (decide (x=.ao))) H1
def RT(ta:TE):TE:=λσ H Q=>ta σ H λx H1=>Q (.bl (!decide (x=.ao))) H1
def RelV.Eh{x:V}{v:Value}(r:RelV x v):(v==Value.none)=decide (x=.ao):=by
 cases x with
 |ao=>cases r;rfl
 |bl _=>cases r;rfl
 |int _=>obtain⟨t,rfl⟩:=r;rfl
 |str _=>obtain⟨t,rfl⟩:=r;rfl
 |iL _=>obtain⟨t,rfl⟩:=r;rfl
 |j0 _=>obtain⟨t,rfl⟩:=r;rfl
 |ref _=>cases r;rfl
 |ty _=>cases r;rfl
def FG{j pos'}(ha:PE X a ta):PC X .Is a (.Constant .none j pos') (Tz ta):=by
 intro pins s σ H Q I h;refine aK (ha pins s σ H _ I h) λv s1 ⟨x,H1,I1,r1,q1⟩=>?_
 exact Constant_none (is_none_gen ⟨.bl _,H1,I1,by rw[r1.Eh];rfl,q1⟩)
def NX{j pos'}(ha:PE X a ta):PC X .IsNot a (.Constant .none j pos') (RT ta):=by
 intro pins s σ H Q I h;refine aK (ha pins s σ H _ I h) λv s1 ⟨x,H1,I1,r1,q1⟩=>?_
 exact Constant_none (isnot_none_gen ⟨.bl _,H1,I1,by rw[r1.Eh];rfl,q1⟩)
def tB(t:TE):TT:=λσ H Q=>t σ H λx H1=>∃c,x=.bl c/\Q c H1
def PV{op:CmpOp}{t:TE}(h:PC X op a b t)(h1:behindInMarks op b=false:=by first|exact Eg _ (by decide) (by decide)|rfl):PE X (.Compare a [op] [b] pos) t:=λpins s σ H Q I hw=>wpAny_Compare1 (h pins s σ H Q I hw) h1
def FH{op:CmpOp}{t:TE}(h:PC X op a b t)(h1:behindInMarks op b=false:=by first|exact Eg _ (by decide) (by decide)|rfl):PT X (.Compare a [op] [b] pos) (tB t):=by intro pins s σ H Q I hw;refine wpAny_isTrue_Compare1 (aK (h pins s σ H _ I hw) λv s1 h1=>aK h1 λu s2 h2=>aK h2 λc s3 ⟨x,H1,I1,r1,q1⟩=>?_) h1;obtain⟨d,rfl,q⟩:=q1;cases r1;exact ace ⟨H1,I1,q⟩
def PX{e:Expr}{t:TE}(h:PE X e t)(he:∀whole,isTrue e X.env whole=(do let v<-whole;standAt e.pos;holding [v] (truthy v)):=by intro _;rfl):PT X e (tB t):=by intro pins s σ H Q I hw;refine isTrue_plain (aK (h pins s σ H _ I hw) λv s1 ⟨x,H1,I1,r1,q1⟩=>?_) (he _);obtain⟨d,rfl,q⟩:=q1;cases r1;exact ace ⟨H1,I1,q⟩
variable{tA wd:TT}{rest:List Expr}
def eP(t u:TT):TT:=λσ H Q=>t σ H λc H1=>if c=true then u σ H1 Q else Q false H1
def bZ(t u:TT):TT:=λσ H Q=>t σ H λc H1=>if c=true then Q true H1 else u σ H1 Q
def b6(t:TT):TT:=λσ H Q=>t σ H λc H1=>Q (!c) H1
def NY(ha:PT X a tA):PW X (.BoolOp .And [a] pos) tA:=by
 intro wh pins s σ H Q I h;refine isTrue_and (aK (ha pins s σ H Q I h) λc s1 e=>?_);cases c with
 |true=>exact isTrue_and_nil e
 |false=>exact e
def PY(ha:PT X a tA):PW X (.BoolOp .Or [a] pos) tA:=by
 intro wh pins s σ H Q I h;refine isTrue_or (aK (ha pins s σ H Q I h) λc s1 e=>?_);cases c with
 |false=>exact isTrue_or_nil e
 |true=>exact e
def PZ(ha:PT X a tA)(hb:PW X (.BoolOp .And (b::rest) pos) wd):PW X (.BoolOp .And (a::b::rest) pos) (eP tA wd):=by
 intro wh pins s σ H Q I h;refine isTrue_and (aK (ha pins s σ H _ I h) λc s1 ⟨H1,I1,q1⟩=>?_);cases c with
 |true=>exact hb wh pins s1 σ H1 Q I1 q1
 |false=>exact⟨H1,I1,q1⟩
def RU(ha:PT X a tA)(hb:PW X (.BoolOp .Or (b::rest) pos) wd):PW X (.BoolOp .Or (a::b::rest) pos) (bZ tA wd):=by
 intro wh pins s σ H Q I h;refine isTrue_or (aK (ha pins s σ H _ I h) λc s1 ⟨H1,I1,q1⟩=>?_);cases c with
 |true=>exact⟨H1,I1,q1⟩
 |false=>exact hb wh pins s1 σ H1 Q I1 q1
def P0(ha:PT X a tA):PT X (.UnaryOp .Not a pos) (b6 tA):=by intro pins s σ H Q I h;exact isTrue_not (ha pins s σ H (λc H1=>Q (!c) H1) I h)
def RW(ta tb:TE):TE:=λσ H Q=>ta σ H λx H1=>∃c,x=.bl c/\if c=true then tb σ H1 Q else Q (.bl false) H1
def RX(ta:TE):TE:=λσ H Q=>ta σ H λx H1=>∃c,x=.bl c/\Q (.bl (!c)) H1
def P1{op}{t:TE}(h:PE X a t):PE X (.BoolOp op [a] pos) t:=λpins s σ H Q I hw=>BoolOp_one (h pins s σ H Q I hw)
def P7(ha:PE X a ta)(hb:PE X (.BoolOp .And (b::rest) pos) tb):PE X (.BoolOp .And (a::b::rest) pos) (RW ta tb):=by
 intro pins s σ H Q I h;refine BoolOp_and (aK (ha pins s σ H _ I h) λv s1 ⟨x,H1,I1,r1,q1⟩=>?_);obtain⟨c,rfl,q1⟩:=q1;cases r1;refine ace ?_;cases c with
 |true=>exact hb pins s1 σ H1 Q I1 q1
 |false=>exact⟨.bl false,H1,I1,rfl,q1⟩
def P9(ha:PE X a ta):PE X (.UnaryOp .Not a pos) (RX ta):=by intro pins s σ H Q I h;refine UnaryOp_ (aK (ha pins s σ H _ I h) λv s1 ⟨x,H1,I1,r1,q1⟩=>?_);obtain⟨c,rfl,q1⟩:=q1;cases r1;exact not_of (ace ⟨.bl (!c),H1,I1,rfl,q1⟩)
end
def cc(K:PySem.W.Frag)(H:Hp)(a:Addr)(xs:List V):Prop:=
 Rd H a (.lst xs)\/
  ∃(o:Obj) (au:Array Value) (n:Nat),K.lookup a=some o/\o.cls=.type "list"/\o.dict=none/\o.data=.seq au n/\au.size<=sizeLine/\Vals xs au.toList
def d0(K:PySem.W.Frag)(H:Hp)(a:Addr)(xs:List V):Prop:=
 Rd H a (.tup xs)\/
  ∃(o:Obj) (au:Array Value) (n:Nat),K.lookup a=some o/\o.cls=.type "tuple"/\o.data=.seq au n/\au.size<=sizeLine/\Vals xs au.toList
def TB:Value->Option V
 |.none=>some .ao
 |.bool b=>some (.bl b)
 |.int i _=>some (.int i)
 |.str x _=>some (.str x)
 |.bytes b _=>some (.iL b)
 |.float b _=>some (.j0 b)
 |.ref a=>some (.ref a)
 |.type n=>some (.ty n)
 |_=>none
def RelV.abs{x:V}{u:Value}(r:RelV x u):TB u=some x:=by
 cases x with
 |ao=>cases r;rfl
 |bl _=>cases r;rfl
 |int _=>obtain⟨t,rfl⟩:=r;rfl
 |str _=>obtain⟨t,rfl⟩:=r;rfl
 |iL _=>obtain⟨t,rfl⟩:=r;rfl
 |j0 _=>obtain⟨t,rfl⟩:=r;rfl
 |ref _=>cases r;rfl
 |ty _=>cases r;rfl
def RelV.inj{x y:V}{u:Value}(r:RelV x u)(q:RelV y u):x=y:=aa2 (r.abs.symm.trans q.abs)
theorem Vals.inj:∀{xs ys:List V} {us:List Value},Vals xs us->Vals ys us->xs=ys
 |_,_,_,.nil,.nil=>rfl
 |_,_,_,.cons r t,.cons r' t'=>by rw[r.inj r',Vals.inj t t']
section
variable{X:Cx}{pins:List (Addr×Obj)}{σ:St}{H:Hp}{s:Shared}{a:Addr}{xs ys:List V}
def cc.of{K:PySem.W.Frag}(h:H a=some (.lst xs)):cc K H a xs:=.inl (.inl h)
def d0.of{K:PySem.W.Frag}(h:H a=some (.tup xs)):d0 K H a xs:=.inl (.inl h)
def Inv.list(I:Inv X pins σ H s)(h:cc X.K H a xs):∃au:List Value,Vals xs au/\PlainL s.heap a au.toArray/\xs.length<=sizeLine:=by
 rcases h with h|⟨o,au,n,hk,hc,hd,hs,hz,r⟩
 ·obtain⟨z,au,n,r,e⟩:=h.ok I.aE;exact⟨au,r,⟨_,n,e,rfl,rfl,rfl⟩,z⟩
 ·refine⟨au.toList,r,⟨o,n,I.eS a o hk,hc,hd,by simpa using hs⟩,?_⟩;have e:=r.length;simp only[aco] at e;omega
def Inv.tuple(I:Inv X pins σ H s)(h:d0 X.K H a xs):∃au:List Value,Vals xs au/\IsTup s.heap a au.toArray/\xs.length<=sizeLine:=by
 rcases h with h|⟨o,au,n,hk,hc,hs,hz,r⟩
 ·obtain⟨z,au,r,p⟩:=h.ok I.aE;exact⟨au,r,p,z⟩
 ·refine⟨au.toList,r,⟨o,I.eS a o hk,hc,n,by simpa using hs⟩,?_⟩;have e:=r.length;simp only[aco] at e;omega
def Inv.Ei(I:Inv X pins σ H s)(h:cc X.K H a xs)(h':cc X.K H a ys):xs=ys:=by
 obtain⟨au,r,⟨o,n,e,_,_,d⟩,_⟩:=I.list h;obtain⟨its',r',⟨o',n',e',_,_,d'⟩,_⟩:=I.list h';rw[e] at e';cases e';rw[d] at d';injection d' with d1 _;have:au=its':=by simpa using abU Array.toList d1
 subst this;exact r.inj r'
def Inv.K1(I:Inv X pins σ H s)(h:d0 X.K H a xs)(h':d0 X.K H a ys):xs=ys:=by
 obtain⟨au,r,⟨o,e,_,n,d⟩,_⟩:=I.tuple h;obtain⟨its',r',⟨o',e',_,n',d'⟩,_⟩:=I.tuple h';rw[e] at e';cases e';rw[d] at d';injection d' with d1 _;have:au=its':=by simpa using abU Array.toList d1
 subst this;exact r.inj r'
end
abbrev Cx.iG(X:Cx)(E:Value->Shared->Prop):Cx:={X with xe:=E}
abbrev Cx.eU(X:Cx):Cx:=X.iG λ_ _=>False
def Cx.Ok.iG{X:Cx}(ok:X.Ok)(E:Value->Shared->Prop):(X.iG E).Ok:=
 ⟨ok.mod,ok.kind,ok.glob,ok.blt,ok.above,ok.inj,ok.has,ok.n8,ok.hd,ok.frames,ok.qA,ok.wa,ok.bs,ok.j3,ok.eB,ok.qi,ok.hZ,ok.kW⟩
def Cx.Ok.jg{X:Cx}{E:Value->Shared->Prop}(ok:(X.iG E).Ok):X.Ok:=
 ⟨ok.mod,ok.kind,ok.glob,ok.blt,ok.above,ok.inj,ok.has,ok.n8,ok.hd,ok.frames,ok.qA,ok.wa,ok.bs,ok.j3,ok.eB,ok.qi,ok.hZ,ok.kW⟩
section
variable{X:Cx}{pins:List (Addr×Obj)}{σ:St}{H:Hp}{s:Shared}{E:Value->Shared->Prop}
def Inv.iG(I:Inv X pins σ H s)(E:Value->Shared->Prop):Inv (X.iG E) pins σ H s:=⟨I.ok.iG E,I.os,I.bare,I.base,I.loc,I.cell,I.free,I.gn,I.pin,I.aE,I.len⟩
def Inv.jg(I:Inv (X.iG E) pins σ H s):Inv X pins σ H s:=⟨I.ok.jg,I.os,I.bare,I.base,I.loc,I.cell,I.free,I.gn,I.pin,I.aE,I.len⟩
def SP.jg{D:Ends}{f:Flow}{s':Shared}(h:SP (X.iG E) pins D f s'):SP X pins D f s':=by
 cases f with
 |next=>obtain⟨aA,H',I,q⟩:=h;exact⟨aA,H',I.jg,q⟩
 |brk=>obtain⟨aA,H',I,q⟩:=h;exact⟨aA,H',I.jg,q⟩
 |cont=>obtain⟨aA,H',I,q⟩:=h;exact⟨aA,H',I.jg,q⟩
 |ret u=>obtain⟨v,aA,H',I,r,q⟩:=h;exact⟨v,aA,H',I.jg,r,q⟩
def PT.eU{e:Expr}{t:TT}(h:PT X.eU e t):PT X e t:=λpins s σ H Q I hw=>abh (h pins s σ H Q (I.iG _) hw) (λ_ _ ⟨H',I',q⟩=>⟨H',I'.jg,q⟩) λ_ _ z=>False.elim z
def gP.eU{st:List Stmt}{t:TS}(h:gP X.eU st t):gP X st t:=λpins s σ H D I hw=>abh (h pins s σ H D (I.iG _) hw) (λ_ _ q=>q.jg) λ_ _ z=>False.elim z
end
section
variable{X:Cx}{st:Stmt}{rest:List Stmt}{t u:TS}{e:Expr}{te:TE}{pos:Pos}
def RY:TS:=λD σ H=>D.nx σ H
def TC(t u:TS):TS:=λD σ H=>t {D with nx:=u D} σ H
def EX:gP X [] RY:=λ_ _ σ H _ I h=>acC ⟨σ,H,I,h⟩
def zu(h1:PS X st t)(h2:gP X rest u):gP X (st::rest) (TC t u):=by
 intro pins s σ H D I h;refine ads (aK (h1 pins s σ H {D with nx:=u D} I h) λf s1 q=>?_);cases f with
 |next=>obtain⟨aA,H',I',q⟩:=q;exact h2 pins s1 aA H' D I' q
 |ret v=>exact q
 |brk=>exact q
 |cont=>exact q
def zX(h1:PS X st t):gP X [st] t:=by
 intro pins s σ H D I h;refine ads (aK (h1 pins s σ H D I h) λf s1 q=>?_);cases f with
 |next=>exact acC q
 |ret v=>exact q
 |brk=>exact q
 |cont=>exact q
def P_:TS:=λD σ H=>D.bk σ H
def Mi:PS X (.Break pos) P_:=λ_ _ σ H _ I h=>wpAny_Break ⟨σ,H,I,h⟩
def Inv.quiet{pins:List (Addr×Obj)}{σ:St}{H:Hp}{s:Shared}(I:Inv X pins σ H s):interactive X.env=false:=by simp[interactive,I.ok.kind]
def RZ(te:TE):TS:=λD σ H=>te σ H λ_ H1=>D.nx σ H1
def NZ(he:PE X e te)(hs:swapsWith e none pos.line X.env=pure false:=by rfl):PS X (.Expr e pos) (RZ te):=by intro pins s σ H D I h;exact wpAny_Expr_any (aK (he pins s σ H _ I h) λv s1 ⟨x,H1,I1,r1,q1⟩=>⟨σ,H1,I1,q1⟩) I.quiet hs
def TF(te:TE):TS:=λD σ H=>te σ H D.rt
def Qa(he:PE X e te):PS X (.Return (some e) pos) (TF te):=by intro pins s σ H D I h;exact wpAny_Return_some (aK (he pins s σ H _ I h) λv s1 ⟨x,H1,I1,r1,q1⟩=>⟨x,σ,H1,I1,r1,q1⟩)
def TH(c:TT)(t u:TS):TS:=λD σ H=>c σ H λb H1=>if b=true then t D σ H1 else u D σ H1
def Gh{c:Expr}{a b:List Stmt}{tc:TT}(hc:PT X c tc)(ha:gP X a t)(hb:gP X b u):PS X (.If c a b pos) (TH tc t u):=by
 intro pins s σ H D I h;refine wpAny_If (aK (hc pins s σ H _ I h) λd s1 ⟨H1,I1,q1⟩=>?_);cases d with
 |true=>exact ha pins s1 σ H1 D I1 q1
 |false=>exact hb pins s1 σ H1 D I1 q1
def Qb:TS:=λ_ _ _=>False
def Mj:PS X st Qb:=λ_ _ _ _ _ _ h=>h.elim
end
abbrev TG:=V->St->Hp->(St->Hp->Prop)->Prop
abbrev n9:=List V->St->Hp->(St->Hp->Prop)->Prop
def PG(X:Cx)(target:Expr)(t:TG):Prop:=
 ∀(pins:List (Addr×Obj)) (s:Shared) (σ:St) (H:Hp) (v:V) (u:Value) (Q:St->Hp->Prop),Inv X pins σ H s->RelV v u->t v σ H Q->
  wpAny (model X.prog X.w) X.A (assign target X.env u) (λ_ s'=>∃aA H',Inv X pins aA H' s'/\Q aA H') X.xe s
def tf(X:Cx)(ts:List Expr)(t:n9):Prop:=
 ∀(pins:List (Addr×Obj)) (s:Shared) (σ:St) (H:Hp) (vs:List V) (us:List Value) (Q:St->Hp->Prop),Inv X pins σ H s->Vals vs us->t vs σ H Q->
  wpAny (model X.prog X.w) X.A (assignInOrder ((assignEach ts X.env).map (·.2)) us) (λ_ s'=>∃aA H',Inv X pins aA H' s'/\Q aA H') X.xe s
abbrev A0:=V->V->V->Hp->(Hp->Prop)->Prop
def GN(X:Cx)(t:A0):Prop:=
 ∀(pins:List (Addr×Obj)) (s:Shared) (σ:St) (H:Hp) (o i v:V) (ov iv u:Value) (Q:Hp->Prop),Inv X pins σ H s->RelV o ov->RelV i iv->RelV v u->t o i v H Q->
  wpAny (model X.prog X.w) X.A (setItem ov iv u) (λ_ s'=>∃H',Inv X pins σ H' s'/\Q H') X.xe s
section
variable{X:Cx}{pos:Pos}
def ar(i:Nat):TG:=λv σ H Q=>Q (σ.set i (some v)) H
def EY{i:Nat}{x:Str}(hN:X.N.Nodup)(hi:X.N[i]? =some x)(hx:Loc X.env.scope x)(hf:X.fn x=true\/X.env.scope.names.lookup x=some .local:=by first|exact .inl rfl|exact .inr rfl|assumption):PG X (.Name x pos) (ar i):=by intro pins s σ H v u Q I r h;exact wpAny_assign_Name (uA I hN hi hx r (λs' I'=>⟨_,H,I',h⟩) hf)
def TJ:n9:=λvs σ H Q=>vs=[]/\Q σ H
def R0(t:TG)(u:n9):n9:=λvs σ H Q=>∃v r,vs=v::r/\t v σ H λaA H'=>u r aA H' Q
def N5:tf X [] TJ:=by intro pins s σ H vs us Q I r h;obtain⟨e,h⟩:=h;subst e;cases r;exact assignInOrder_nil ⟨σ,H,I,h⟩
def Ml{e:Expr}{es:List Expr}{t:TG}{u:n9}(h1:PG X e t)(h2:tf X es u)(hs:(assignEach (e::es) X.env).map (·.2)=assign e X.env::(assignEach es X.env).map (·.2):=by rfl):tf X (e::es) (R0 t u):=by
 intro pins s σ H vs us Q I r h;obtain⟨v,vr,e1,h⟩:=h;subst e1;cases r with
 |cons r rr=>rw[hs];refine assignInOrder_cons (aK (h1 pins s σ H _ _ _ I r h) λ_ s1 ⟨bj,H1,I1,q1⟩=>?_);exact h2 pins s1 bj H1 _ _ Q I1 rr q1
def fm(K:PySem.W.Frag)(n:Nat)(t:n9):TG:=λv σ H Q=>∃a xs,v=.ref a/\d0 K H a xs/\xs.length=n/\t xs σ H Q
def Qc{es:List Expr}{k:Nat}{t:n9}{n:Nat}(hc:X.calm=true)(h:tf X es t)(hn:(assignEach es X.env).length=n:=by rfl)(bq:(assignEach es X.env).findIdx? (·.1)=none:=by rfl):PG X (.Tuple es k pos) (fm X.K n t):=by
 intro pins s σ H v u Q I r hw;obtain⟨a,xs,e1,hq,hl,hw⟩:=hw;subst e1;cases r;obtain⟨au,rv,ht,hz⟩:=I.tuple hq;refine assign_Tuple_tuple (I.ok.hd hc) ht (by simp[hn,<-hl,rv.length]) bq λh' hx=>?_
 have I1:Inv X pins σ H {s with heap:=h'}:=I.kept (t':=s.toks) λb o e=>hx b o (abn (aa3 e)) e
 exact h pins _ σ H xs _ Q I1 (by simpa using rv) hw
def eQ(to ti:TE)(t:A0):TG:=λv σ H Q=>to σ H λo H1=>ti σ H1 λi H2=>t o i v H2 λH3=>Q σ H3
def Qd{o i:Expr}{to ti:TE}{t:A0}(ho:PE X o to)(hi:PE X i ti)(hs:GN X t)(ha:∀v,assign (.Subscript o i pos) X.env v=(do
  let ov<-holding [v] (eval o X.env)
  let iv<-holding [v,ov] (eval i X.env)
  standAt pos
  holding [v,ov,iv] (setItem ov iv v)
  release [v,ov,iv] []):=by intro _;rfl):PG X (.Subscript o i pos) (eQ to ti t):=by
 intro pins s σ H v u Q I r h;rw[ha];refine aaS (acD (aK (ho pins s σ H _ I h) λov s1 ⟨x,H1,I1,r1,q1⟩=>?_));refine aaS (acD (aK (hi pins s1 σ H1 _ I1 q1) λiv s2 ⟨y,H2,I2,r2,q2⟩=>?_));refine aaS (wpAny_standAt (aaS (acD (aK (hs pins s2 σ H2 x y v ov iv u _ I2 r1 r2 r q2) λ_ s3 ⟨H3,I3,q3⟩=>?_))));exact wpAny_release ⟨σ,H3,I3,q3⟩
def GO(te:TE)(g:TG):TS:=λD σ H=>te σ H λx H1=>g x σ H1 D.nx
def Qe{tg e:Expr}{te:TE}{g:TG}(he:PE X e te)(hg:PG X tg g)(hs:swapsWithSole [tg] e pos.line X.env=pure false:=by rfl)(hw:swappedStores [tg] e X.env=pure none:=by rfl)(h1:(assignEach [tg] X.env).map (·.2)=[assign tg X.env]:=by rfl):PS X (.Assign [tg] e pos) (GO te g):=by intro pins s σ H D I h;refine wpAny_Assign_stores (aK (he pins s σ H _ I h) λv s1 ⟨x,H1,I1,r1,q1⟩=>?_) hs hw;rw[h1];exact aK (hg pins s1 σ H1 x v _ I1 r1 q1) λ_ s2 q=>q
def Qf{i:Nat}{x:Str}{e:Expr}{te:TE}{pos':Pos}(hN:X.N.Nodup)(hi:X.N[i]? =some x)(hx:Loc X.env.scope x)(he:PE X e te)(hs:swapsWith e (some (.Name x pos')) pos.line X.env=pure false:=by rfl)(hf:X.fn x=true\/X.env.scope.names.lookup x=some .local:=by first|exact .inl rfl|exact .inr rfl|assumption):
 PS X (.Assign [.Name x pos'] e pos) (GO te (ar i)):=by
 intro pins s σ H D I h;refine wpAny_Assign_Name (aK (he pins s σ H _ I h) λv s1 ⟨y,H1,I1,r1,q1⟩=>?_) hs;exact uA I1 hN hi hx r1 (λs2 I2=>⟨_,H1,I2,q1⟩) hf
end
section
variable{X:Cx}{pos:Pos}
def Qg(c:TT)(tb:TS):TS:=λD σ H=>∃W:Nat->St->Hp->Prop,(∃m,W m σ H)/\∀m σ H,W m σ H->
 c σ H λb H1=>if b=true then∃N:St->Hp->Prop,(∀aA H',N aA H'->∃m',m'<m/\W m' aA H')/\tb {D with nx:=N,ct:=N,bk:=D.nx} σ H1 else D.nx σ H1
def Mm{c:Expr}{body:List Stmt}{tc:TT}{tb:TS}(hp:PassesOwn (model X.prog X.w) X.A X.env X.xe)(hc:PT X c tc)(hb:gP X body tb):PS X (.While c body [] pos) (Qg tc tb):=by
 intro pins s σ H D I h;obtain⟨W,⟨m0,w0⟩,turn⟩:=h;refine wpAny_While (codeAny_whileLoop (λn s'=>∃aA H',Inv X pins aA H' s'/\W n aA H') ?_ m0 ⟨σ,H,I,w0⟩);rintro n s1 ⟨bj,H1,I1,w1⟩;refine acp hp (aK (hc pins s1 bj H1 _ I1 (turn n bj H1 w1)) λb s2 ⟨H2,I2,q2⟩=>?_);cases b with
 |true=>
  obtain⟨N,hN,q2⟩:=q2;rw[aaN rfl];refine acp hp (aK (hb pins s2 bj H2 _ I2 q2) λf s3 q3=>?_);cases f with
  |next=>obtain⟨cY,H3,I3,n3⟩:=q3;obtain⟨m',hm,w3⟩:=hN cY H3 n3;exact⟨m',hm,cY,H3,I3,w3⟩
  |cont=>obtain⟨cY,H3,I3,n3⟩:=q3;obtain⟨m',hm,w3⟩:=hN cY H3 n3;exact⟨m',hm,cY,H3,I3,w3⟩
  |brk=>exact q3
  |ret v=>exact q3
 |false=>rw[aaO aa4];exact acC ⟨bj,H2,I2,q2⟩
end
structure It where
 go:Nat->Hp->Prop
 n_:Nat->Hp->V->Hp->Prop
 stop:Nat->Hp->Prop
def jW(X:Cx)(pins:List (Addr×Obj))(H:Hp)(b:Addr):Prop:=
 H b=none/\b≠X.env.locals/\b∉X.fs/\(b∈X.ex\/X.dw.heap.objs.size<=b)/\(∀x c,X.env.cells.lookup x=some c->c≠b)/\∀p∈X.pn++pins,p.1≠b
def Inv.sF{X:Cx}{pins:List (Addr×Obj)}{σ:St}{H H':Hp}{s:Shared}{b:Addr}(I:Inv X pins σ H s)(hb:s.heap.objs.size<=b)(hn:H' b=none):jW X pins H' b:=by
 refine⟨hn,Nat.ne_of_gt (aa9 I.lt hb),I.GL hb,.inr (aa1 I.sz hb),λx c e z=>?_,λp hp z=>?_⟩
 ·obtain⟨v,q⟩:=I.cell x c e;exact absurd (aa9 q.lt (by rw[z];exact hb)) (abI _)
 ·exact absurd (aa9 (aa3 (I.pin p hp).1) (by rw[z];exact hb)) (abI _)
structure Turn(P:Program)(w:World)(K:PySem.W.Frag)(tg:Expr)(J:It)(fp:List Addr)(it:Addr)(tn:Nat->Heap->Prop):Prop where
 mem:it∈fp
 obj:∀i h,tn i h->∀b∈fp,∃o,h.get? b=some o/\∀v,o.data≠.cell v
 keep:∀i h h',tn i h->(∀b∈fp,∀o,h.get? b=some o->h'.get? b=some o)->tn i h'
 item:∀(X:Cx),X.prog=P->X.w=w->X.K=K->X.calm=true->∀(i:Nat) (pins:List (Addr×Obj)) (s:Shared) (σ:St) (H:Hp) (E:Value->Shared->Prop),Inv X pins σ H s->(∀b∈fp,jW X pins H b)->tn i s.heap->J.go i H->
  wpAny (model P w) X.A (pyNext (.ref it)) (λr s1=>∃u,r=some u/\
   wpAny (model P w) X.A (letOwnedTupleGo tg (.ref it) u) (λ_ s2=>∃x H',Inv X pins σ H' s2/\RelV x u/\J.n_ i H x H'/\tn (i+1) s2.heap/\∀b∈fp,H' b=none) E s1) E s
 done:∀(X:Cx),X.prog=P->X.w=w->X.K=K->X.calm=true->∀(i:Nat) (pins:List (Addr×Obj)) (s:Shared) (σ:St) (H:Hp) (E:Value->Shared->Prop),Inv X pins σ H s->(∀b∈fp,jW X pins H b)->tn i s.heap->J.stop i H->
  wpAny (model P w) X.A (pyNext (.ref it)) (λr s1=>r=none/\Inv X pins σ H s1) E s
 self:∀(A:Around) (i:Nat) (s:Shared) (Q:Value->Shared->Prop) (E:Value->Shared->Prop),tn i s.heap->Q (.ref it) s->wpAny (model P w) A (pyIter (.ref it)) Q E s
abbrev TI:=St->Hp->(It->Hp->Prop)->Prop
def Hs(X:Cx)(pins:List (Addr×Obj))(σ:St)(tg:Expr)(R:It->Hp->Prop)(tj:Value)(s2:Shared):Prop:=
 ∃(it:Addr) (fp:List Addr) (tn:Nat->Heap->Prop) (J:It) (H':Hp),tj=.ref it/\Inv X pins σ H' s2/\Turn X.prog X.w X.K tg J fp it tn/\tn 0 s2.heap/\(∀b∈fp,jW X pins H' b)/\R J H'
def PI(X:Cx)(tg iter:Expr)(wi:TI):Prop:=
 ∀(pins:List (Addr×Obj)) (s:Shared) (σ:St) (H:Hp) (R:It->Hp->Prop),Inv X pins σ H s->wi σ H R->
  wpAny (model X.prog X.w) X.A (eval iter X.env) (λv s1=>wpAny (model X.prog X.w) X.A (pyIter v) (Hs X pins σ tg R) X.xe s1) X.xe s
def AH{M:Model}{A:Around}{E:Value->Shared->Prop}{s:Shared}{tg:Expr}{it:Addr}{u:Value}{o:Obj}{n:String}{vs:Array Value}{Q:Unit->Shared->Prop}(ho:s.heap.get? it=some o)(hc:o.cls=.type n)(hd:o.data=.fields vs)(hn:["enumerate","zip","dict_itemiterator","dict_reverseitemiterator","odict_iterator","itertools.zip_longest","itertools.pairwise"].contains n=false)(hQ:Q () s):wpAny M A (letOwnedTupleGo tg (.ref it) u) Q E s:=by
 unfold letOwnedTupleGo;cases tg<;>first
  |exact aa5 hQ
  |(cases u<;>first
   |exact aa5 hQ
   |(refine aaS (wpAny_load ho ?_)
     rw[hc,hd];show wpAny M A (if(["enumerate","zip","dict_itemiterator","dict_reverseitemiterator","odict_iterator","itertools.zip_longest","itertools.pairwise"].contains n&&vs[0]? ==some (rawInt _))=true then _ else _) Q E s;rw[aaO (by intro h;rw[hn,abz] at h;cases h)];exact aa5 hQ))
def Bq(K:PySem.W.Frag)(a:Addr):It:=
 ⟨λi H=>∃xs x,cc K H a xs/\xs[i]? =some x,λi H x H'=>H'=H/\∀xs,cc K H a xs->xs[i]? =some x,λi H=>∃xs,cc K H a xs/\xs.length<=i⟩
def Br(K:PySem.W.Frag)(a:Addr):It:=
 ⟨λi H=>∃xs x,d0 K H a xs/\xs[i]? =some x,λi H x H'=>H'=H/\∀xs,d0 K H a xs->xs[i]? =some x,λi H=>∃xs,d0 K H a xs/\xs.length<=i⟩
def tq(lo:Int)(n:Nat):It:=⟨λi _=>i<n,λi H x H'=>H'=H/\x=.int (lo+i),λi _=>n<=i⟩
def K3{P:Program}{w:World}{K:PySem.W.Frag}{tg:Expr}(a it:Addr):Turn P w K tg (Bq K a) [it] it (λi h=>h.IsListIter it a i) where
 mem:=by simp
 obj:=λi h st b hb=>by
  have e:b=it:=by simpa using hb
  subst e;obtain⟨o,e,c,d⟩:=st;exact⟨o,e,λv z=>by rw[d] at z;cases z⟩
 keep:=λi h h' st k=>st.at λo e=>k it (by simp) o e
 item:=by
  intro X hP hw hK hc i pins s σ H E I hf st hg;subst hP hw hK;obtain⟨xs,x,hq,hx⟩:=hg;obtain⟨au,rv,p,hz⟩:=I.list hq;obtain⟨u,hu,ru⟩:=rv.get hx;obtain⟨f0,f1,f2,f3,f4,f5⟩:=hf it (by simp);refine wpAny_pyNext_list_item st p.isList (x:=u) (by simpa using hu) λh' mJ sb=>?_
  have I1:Inv X pins σ H {s with heap:=h'}:=I.turned (t':=s.toks) (λb o hb e=>(sb.2 b hb).trans e) f0 f1 f3 f4 f5;obtain⟨o,e,c,d⟩:=id mJ;exact⟨u,rfl,AH (s:={s with heap:=h'}) e c d (by decide) ⟨x,H,I1,ru,⟨rfl,λys hy=>by rw[I.Ei hy hq];exact hx⟩,mJ,λb hb=>(hf b hb).1⟩⟩
 done:=by intro X hP hw hK hc i pins s σ H E I hf st hg;subst hP hw hK;obtain⟨xs,hq,hx⟩:=hg;obtain⟨au,rv,p,hz⟩:=I.list hq;obtain⟨f0,f1,f2,f3,f4,f5⟩:=hf it (by simp);have hl:=rv.length;exact wpAny_pyNext_list_end (I.ok.hd hc) st p.isList (by simp;omega) λh' eb=>⟨rfl,I.turned (t':=s.toks) (λb o hb e=>eb b o hb e) f0 f1 f3 f4 f5⟩
 self:=λ_ _ _ _ _ st h=>wpAny_pyIter_listiter st h
def Kj{P:Program}{w:World}{K:PySem.W.Frag}{tg:Expr}(a it:Addr):Turn P w K tg (Br K a) [it] it (λi h=>h.IsTupleIter it a i) where
 mem:=by simp
 obj:=λi h st b hb=>by
  have e:b=it:=by simpa using hb
  subst e;obtain⟨o,e,c,d⟩:=st;exact⟨o,e,λv z=>by rw[d] at z;cases z⟩
 keep:=λi h h' st k=>st.at λo e=>k it (by simp) o e
 item:=by
  intro X hP hw hK hc i pins s σ H E I hf st hg;subst hP hw hK;obtain⟨xs,x,hq,hx⟩:=hg;obtain⟨au,rv,p,hz⟩:=I.tuple hq;obtain⟨u,hu,ru⟩:=rv.get hx;obtain⟨f0,f1,f2,f3,f4,f5⟩:=hf it (by simp);refine wpAny_pyNext_tuple_item st (show s.heap.IsTuple a au.toArray from p) (x:=u) (by simpa using hu) λh' mJ sb=>?_
  have I1:Inv X pins σ H {s with heap:=h'}:=I.turned (t':=s.toks) (λb o hb e=>(sb.2 b hb).trans e) f0 f1 f3 f4 f5;obtain⟨o,e,c,d⟩:=id mJ;exact⟨u,rfl,AH (s:={s with heap:=h'}) e c d (by decide) ⟨x,H,I1,ru,⟨rfl,λys hy=>by rw[I.K1 hy hq];exact hx⟩,mJ,λb hb=>(hf b hb).1⟩⟩
 done:=by intro X hP hw hK hc i pins s σ H E I hf st hg;subst hP hw hK;obtain⟨xs,hq,hx⟩:=hg;obtain⟨au,rv,p,hz⟩:=I.tuple hq;obtain⟨f0,f1,f2,f3,f4,f5⟩:=hf it (by simp);have hl:=rv.length;exact wpAny_pyNext_tuple_end (I.ok.hd hc) st (show s.heap.IsTuple a au.toArray from p) (by simp;omega) λh' eb=>⟨rfl,I.turned (t':=s.toks) (λb o hb e=>eb b o hb e) f0 f1 f3 f4 f5⟩
 self:=λ_ _ _ _ _ st h=>wpAny_pyIter_tupleiter st h
def Kk{P:Program}{w:World}{K:PySem.W.Frag}{tg:Expr}(it:Addr)(lo:Int)(n:Nat):Turn P w K tg (tq lo n) [it] it (λi h=>IsRangeIter h it (lo+(i:Nat)*1) ((n:Int)-(i:Nat)) 1) where
 mem:=by simp
 obj:=λi h st b hb=>by
  have e:b=it:=by simpa using hb
  subst e;exact⟨_,st,λv z=>by have z':Data.fields _=Data.cell v:=z;cases z'⟩
 keep:=λi h h' st k=>k it (by simp) _ st
 item:=by
  intro X hP hw hK hc i pins s σ H E I hf st hg;subst hP hw hK;obtain⟨f0,f1,f2,f3,f4,f5⟩:=hf it (by simp);have W:=Walks.range (prog:=X.prog) (w:=X.w) (I.ok.hd hc) it lo 1 n;refine W.item i s _ _ hg st λv h' tk hv mJ kk=>?_
  obtain⟨t,rfl⟩:=hv;have I1:Inv X pins σ H {s with heap:=h',toks:=tk}:=I.turned (λb o hb e=>kk b o (by simpa using hb) e) f0 f1 f3 f4 f5;refine⟨_,rfl,AH (s:={s with heap:=h',toks:=tk}) (n:="range_iterator") mJ rfl rfl (by decide) ⟨.int (lo+i),H,I1,⟨t,?_⟩,⟨rfl,rfl⟩,mJ,λb hb=>(hf b hb).1⟩⟩;rw[Int.mul_one]
 done:=by intro X hP hw hK hc i pins s σ H E I hf st hg;subst hP hw hK;obtain⟨f0,f1,f2,f3,f4,f5⟩:=hf it (by simp);exact wpAny_pyNext_range_end (I.ok.hd hc) st (by have:n<=i:=hg;omega) λh' eb=>⟨rfl,I.turned (t':=s.toks) (λb o hb e=>eb b o hb e) f0 f1 f3 f4 f5⟩
 self:=λ_ _ _ _ _ st h=>wpAny_pyIter_rangeiter st h
section
variable{X:Cx}{tg:Expr}
def R6(K:PySem.W.Frag)(tl:TE):TI:=λσ H R=>tl σ H λx H1=>∃a,x=.ref a/\(∃xs,cc K H1 a xs)/\R (Bq K a) H1
def TK(K:PySem.W.Frag)(tl:TE):TI:=λσ H R=>tl σ H λx H1=>∃a,x=.ref a/\(∃xs,d0 K H1 a xs)/\R (Br K a) H1
def N6{l:Expr}{tl:TE}(hl:PE X l tl):PI X tg l (R6 X.K tl):=by
 intro pins s σ H R I h;refine aK (hl pins s σ H _ I h) λv s1 ⟨x,H1,I1,r1,q1⟩=>?_
 obtain⟨a,e,⟨xs,hq⟩,q⟩:=q1;subst e;cases r1;obtain⟨au,rv,p,hz⟩:=I1.list hq;refine wpAny_pyIter_list p.isList ?_;refine⟨s1.heap.objs.size,[s1.heap.objs.size],_,_,H1,rfl,I1.kept (t':=s1.toks) λb o e=>abd _ e,K3 a _,⟨_,abE _ rfl,rfl,rfl⟩,λb hb=>?_,q⟩;have e:b=s1.heap.objs.size:=by simpa using hb
 subst e;exact I1.sF (aaY _) (I1.aE.fresh (aaY _))
def Qh{l:Expr}{tl:TE}(hl:PE X l tl):PI X tg l (TK X.K tl):=by
 intro pins s σ H R I h;refine aK (hl pins s σ H _ I h) λv s1 ⟨x,H1,I1,r1,q1⟩=>?_
 obtain⟨a,e,⟨xs,hq⟩,q⟩:=q1;subst e;cases r1;obtain⟨au,rv,p,hz⟩:=I1.tuple hq;refine wpAny_pyIter_tuple (show s1.heap.IsTuple a au.toArray from p) ?_;refine⟨s1.heap.objs.size,[s1.heap.objs.size],_,_,H1,rfl,I1.kept (t':=s1.toks) λb o e=>abd _ e,Kj a _,⟨_,abE _ rfl,rfl,rfl⟩,λb hb=>?_,q⟩;have e:b=s1.heap.objs.size:=by simpa using hb
 subst e;exact I1.sF (aaY _) (I1.aE.fresh (aaY _))
def Ej{pins:List (Addr×Obj)}{σ:St}{H:Hp}{s:Shared}{R:It->Hp->Prop}{E:Value->Shared->Prop}{lo hi:Int}{t u v:Tok}{tk:Nat}(I:Inv X pins σ H s)(h1: -(2 ^ 62)<=lo)(h2:lo<2 ^ 62)(h3: -(2 ^ 62)<=hi)(h4:hi<2 ^ 62)(q:R (tq lo (hi-lo).toNat) H):wpAny (model X.prog X.w) X.A (pyIter (.ref s.heap.objs.size)) (Hs X pins σ tg R) E {s with heap:=s.heap.push {cls:=.type "range",data:=.fields #[.int lo t,.int hi u,.int 1 v]},toks:=tk}:=by
 refine wpAny_pyIter_range (IsRange.new ..) (small_one h1 h2 h3 h4) ?_;have I1:Inv X pins σ H {s with heap:=s.heap.push {cls:=.type "range",data:=.fields #[.int lo t,.int hi u,.int 1 v]},toks:=tk}:=I.kept λb o e=>abd _ e
 refine⟨(s.heap.push {cls:=.type "range",data:=.fields #[.int lo t,.int hi u,.int 1 v]}).objs.size,[(s.heap.push {cls:=.type "range",data:=.fields #[.int lo t,.int hi u,.int 1 v]}).objs.size],_,_,H,rfl,
  I1.kept (t':=tk) λb o e=>abd _ e,Kk _ lo (hi-lo).toNat,?_,λb hb=>?_,q⟩
 ·have e1:lo+((0:Nat):Int)*1=lo:=by simp
  have e2:(((hi-lo).toNat:Nat):Int)-((0:Nat):Int)=Builtin.Range.rangeSize lo hi 1:=by rw[rangeSize_one];split<;>omega
  show IsRangeIter _ _ (lo+((0:Nat):Int)*1) ((((hi-lo).toNat:Nat):Int)-((0:Nat):Int)) 1;rw[e1,e2];exact abE _ rfl
 ·have e:b=(s.heap.push {cls:=.type "range",data:=.fields #[.int lo t,.int hi u,.int 1 v]}).objs.size:=by simpa using hb
  subst e;exact I1.sF (aaY _) (I1.aE.fresh (aaY _))
def cg(ta:TA):TI:=λσ H R=>ta σ H λvs H1=>∃j:Int,vs=[.int j]/\ -(2 ^ 62)<=j/\j<2 ^ 62/\R (tq 0 j.toNat) H1
def dM(ta:TA):TI:=λσ H R=>ta σ H λvs H1=>∃i j:Int,vs=[.int i,.int j]/\(-(2 ^ 62)<=i/\i<2 ^ 62/\ -(2 ^ 62)<=j/\j<2 ^ 62)/\R (tq i (j-i).toNat) H1
def K5{a:Expr}{ta:TA}{p pos:Pos}(hg:Gl X "range")(hm:X.mg "range"=none)(ha:PA X [a] ta)(hs:starEach [a] X.env=[(false,eval a X.env)]:=by rfl):PI X tg (.Call (.Name "range" p) [a] [] pos) (cg ta):=by
 intro pins s σ H R I h;refine Call_ (l5 I hg hm boot_range (acE (aK (ha pos pins s σ H _ I h) λus s1 ⟨vs,H1,I1,r1,q1⟩=>?_) hs rfl));obtain⟨j,e,q1,q2,q⟩:=q1;subst e;cases r1 with
 |cons r rr=>cases rr;obtain⟨t,rfl⟩:=r;exact call_range_1 (Ej I1 (by omega) (by omega) q1 q2 (by simpa using q))
def K6{a b:Expr}{ta:TA}{p pos:Pos}(hg:Gl X "range")(hm:X.mg "range"=none)(ha:PA X [a,b] ta)(hs:starEach [a,b] X.env=[(false,eval a X.env),(false,eval b X.env)]:=by rfl)(kZ:starEach [b] X.env=[(false,eval b X.env)]:=by rfl):
 PI X tg (.Call (.Name "range" p) [a,b] [] pos) (dM ta):=by
 intro pins s σ H R I h;refine Call_ (l5 I hg hm boot_range (acE (aK (ha pos pins s σ H _ I h) λus s1 ⟨vs,H1,I1,r1,q1⟩=>?_) (by rw[hs,kZ]) (by rw[kZ];rfl)));obtain⟨i,j,e,⟨q1,q2,q3,q4⟩,q⟩:=q1;subst e;cases r1 with
 |cons r rr=>
  cases rr with
  |cons r' rr=>cases rr;obtain⟨t,rfl⟩:=r;obtain⟨t',rfl⟩:=r';exact call_range_2 (Ej I1 q1 q2 q3 q4 q)
def GP(wi:TI)(g:TG)(tb:TS):TS:=λD σ H=>wi σ H λJ H1=>∃W:Nat->Nat->St->Hp->Prop,(∃m,W 0 m σ H1)/\∀i m σ H,W i m σ H-> (J.stop i H/\D.nx σ H)\/(J.go i H/\∃N:St->Hp->Prop,(∀aA H',N aA H'->∃m',m'<m/\W (i+1) m' aA H')/\∀x H',J.n_ i H x H'->g x σ H' λbS H2=>tb {D with nx:=N,ct:=N,bk:=D.nx} bS H2)
def l6(fp:List Addr)(h:Heap):List (Addr×Obj):=fp.filterMap λb=>(h.get? b).map λo=>(b,o)
def ua{fp:List Addr}{h:Heap}{b:Addr}{o:Obj}(hb:b∈fp)(e:h.get? b=some o):(b,o)∈l6 fp h:=acq.mpr ⟨b,hb,by rw[e];rfl⟩
def DJ{fp:List Addr}{h:Heap}{p:Addr×Obj}(hp:p∈l6 fp h):p.1∈fp/\h.get? p.1=some p.2:=by
 obtain⟨b,hb,e⟩:=acq.mp hp;cases q:h.get? b with
 |none=>rw[q] at e;cases e
 |some o=>rw[q] at e;have e':(b,o)=p:=aa2 e;subst e';exact⟨hb,q⟩
def Inv.pinned{pins:List (Addr×Obj)}{σ:St}{H:Hp}{s:Shared}{fp:List Addr}(I:Inv X pins σ H s)(hf:∀b∈fp,jW X pins H b)(ho:∀b∈fp,∃o,s.heap.get? b=some o/\∀v,o.data≠.cell v):Inv X (pins++l6 fp s.heap) σ H s:=
 I.r_ λp hp=>(acd.mp hp).elim (λz=>I.pin p (abp _ z)) λz=>by obtain⟨hb,e⟩:=DJ z;obtain⟨f0,f1,f2,_⟩:=hf p.1 hb;obtain⟨o,e',d⟩:=ho p.1 hb;rw[e] at e';cases e';exact⟨e,f0,f1,f2,d⟩
def Inv.rT{pins pl:List (Addr×Obj)}{σ:St}{H:Hp}{s:Shared}(I:Inv X (pins++pl) σ H s):Inv X pins σ H s:=I.r_ λp hp=>I.pin p (abp _ (adX _ hp))
def FI{iter:Expr}{body:List Stmt}{wi:TI}{g:TG}{tb:TS}{pos:Pos}(hp:PassesOwn (model X.prog X.w) X.A X.env X.xe)(hc:X.calm=true)(hi:PI X tg iter wi)(hg:PG X tg g)(hb:gP X body tb)(hs:∀x,foldedSetIterable iter X.env x=pure x:=by intro _;rfl):PS X (.For tg iter body [] pos) (GP wi g tb):=by
 intro pins s σ H D I h;refine wpAny_For (aK (hi pins s σ H _ I h) λv s1 h1=>aK h1 λtj s2 h2=>?_) hs;obtain⟨it,fp,tn,J,H2,e,I2,T,og,f2,W,⟨m0,w0⟩,turn⟩:=h2;subst e;have A1:∀{H':Hp},(∀b∈fp,H' b=none)->∀b∈fp,jW X pins H' b:=λhn b hb=>⟨hn b hb,(f2 b hb).2⟩
 refine codeAny_forLoop_any (λn s'=>∃i aA H',Inv X pins aA H' s'/\tn i s'.heap/\(∀b∈fp,H' b=none)/\W i n aA H') ?_ m0 ⟨0,σ,H2,I2,og,λb hb=>(f2 b hb).1,w0⟩;rintro n s3 ⟨i,cY,H3,I3,Ht,Hu,w3⟩;rcases turn i n cY H3 w3 with⟨stop,qn⟩|⟨go,N,hN,step⟩
 ·refine acp hp (aK (T.done X rfl rfl rfl hc i pins s3 cY H3 X.xe I3 (A1 Hu) Ht stop) λr s4 ⟨hr,I4⟩=>?_);subst hr;exact acC ⟨cY,H3,I4,qn⟩
 ·refine acp hp (aK (T.item X rfl rfl rfl hc i pins s3 cY H3 X.xe I3 (A1 Hu) Ht go) λr s4 ⟨u,hr,h4⟩=>?_);subst hr;refine acp hp (aK h4 λ_ s5 ⟨x,H5,I5,r5,y5,Bt,UH⟩=>?_);have UI:=I5.pinned (A1 UH) (T.obj _ _ Bt);refine acp hp (aK (hg _ s5 cY H5 x u _ UI r5 (step x H5 y5)) λ_ s6 ⟨UJ,H6,I6,q6⟩=>?_);refine acp hp (aK (hb _ s6 UJ H6 _ I6 q6) λf s7 q7=>?_);have again:∀{gz:St} {H7:Hp},Inv X (pins++l6 fp s5.heap) gz H7 s7->N gz H7->∃m,m<n/\∃i aA H',Inv X pins aA H' s7/\tn i s7.heap/\(∀b∈fp,H' b=none)/\W i m aA H':=λ{gz H7} I7 n7=>by obtain⟨m',hm,w7⟩:=hN gz H7 n7;refine⟨m',hm,i+1,gz,H7,I7.rT,T.keep _ _ _ Bt λb hb o e=>(I7.pin (b,o) (abp _ (abp _ (ua hb e)))).1,λb hb=>?_,w7⟩;obtain⟨o,e,d⟩:=T.obj _ _ Bt b hb;exact(I7.pin (b,o) (abp _ (abp _ (ua hb e)))).2.1
  cases f with
  |next=>obtain⟨gz,H7,I7,n7⟩:=q7;exact again I7 n7
  |cont=>obtain⟨gz,H7,I7,n7⟩:=q7;exact again I7 n7
  |brk=>obtain⟨gz,H7,I7,q7⟩:=q7;exact⟨gz,H7,I7.rT,q7⟩
  |ret v=>obtain⟨x7,gz,H7,I7,r7,q7⟩:=q7;exact⟨x7,gz,H7,I7.rT,r7,q7⟩
end
abbrev R2:=V->V->Hp->VK->Prop
def cu(X:Cx)(f:Value->Value->Sem Value)(r:R2):Prop:=
 ∀(pins:List (Addr×Obj)) (s:Shared) (σ:St) (H:Hp) (x y:V) (v u:Value) (Q:VK),Inv X pins σ H s->RelV x v->RelV y u->r x y H Q->
  wpAny (model X.prog X.w) X.A (f v u) (EP X pins σ Q) X.xe s
def Bu(X:Cx)(f:Value->Sem Value)(r:V->Hp->VK->Prop):Prop:=
 ∀(pins:List (Addr×Obj)) (s:Shared) (σ:St) (H:Hp) (x:V) (v:Value) (Q:VK),Inv X pins σ H s->RelV x v->r x H Q->
  wpAny (model X.prog X.w) X.A (f v) (EP X pins σ Q) X.xe s
def iY(X:Cx)(f:Value)(r:List V->Hp->VK->Prop):Prop:=
 ∀(pins:List (Addr×Obj)) (s:Shared) (σ:St) (H:Hp) (xs:List V) (us:List Value) (Q:VK),Inv X pins σ H s->Vals xs us->r xs H Q->
  wpAny (model X.prog X.w) X.A (call f us) (EP X pins σ Q) X.xe s
def we(r:R2)(ta tb:TE):TE:=λσ H Q=>ta σ H λx H1=>tb σ H1 λy H2=>r x y H2 Q
def UK(r:V->Hp->VK->Prop)(ta:TE):TE:=λσ H Q=>ta σ H λx H1=>r x H1 Q
def rI(C:Int->Int->Prop)(g:Int->Int->V):R2:=λx y H Q=>∃i j,x=.int i/\y=.int j/\C i j/\Q (g i j) H
def k_(g:Int->Int->V):R2:=λx y H Q=>∃i j,x=.int i/\y=.int j/\Q (g i j) H
def rU(g:Int->V):V->Hp->VK->Prop:=λx H Q=>∃i,x=.int i/\Q (g i) H
section
variable{X:Cx}{a b c:Expr}{ta tb tc:TE}{pos:Pos}
def A2(ha:PE X a ta)(hb:PE X b tb){pins:List (Addr×Obj)}{s:Shared}{σ:St}{H:Hp}{R:V->V->Hp->Prop}(I:Inv X pins σ H s)(h:ta σ H λx H1=>tb σ H1 λy H2=>R x y H2){Q:Value->Shared->Prop}{f:Value->Value->Sem Value}(hf:∀v u s2 x y H2,Inv X pins σ H2 s2->RelV x v->RelV y u->R x y H2->wpAny (model X.prog X.w) X.A (f v u) Q X.xe s2):
 wpAny (model X.prog X.w) X.A (eval a X.env) (λv bD=>wpAny (model X.prog X.w) X.A (eval b X.env) (λu dy=>wpAny (model X.prog X.w) X.A (f v u) Q X.xe dy) X.xe bD) X.xe s:=by
 refine aK (ha pins s σ H _ I h) λv s1 ⟨x,H1,I1,r1,q1⟩=>?_
 refine aK (hb pins s1 σ H1 _ I1 q1) λu s2 ⟨y,H2,I2,r2,q2⟩=>?_
 exact hf v u s2 x y H2 I2 r1 r2 q2
def R9{op:Operator}{r:R2}(ho:cu X (binaryOp op) r)(ha:PE X a ta)(hb:PE X b tb):PE X (.BinOp a op b pos) (we r ta tb):=by intro pins s σ H Q I h;exact wpAny_BinOp (A2 ha hb I h λv u s2 x y H2 I2 rx ry q=>ho pins s2 σ H2 x y v u Q I2 rx ry q)
def R_{op:UnaryOp}{r:V->Hp->VK->Prop}(ho:Bu X (unaryOp op) r)(ha:PE X a ta):PE X (.UnaryOp op a pos) (UK r ta):=by intro pins s σ H Q I h;exact UnaryOp_ (aK (ha pins s σ H _ I h) λv s1 ⟨x,H1,I1,r1,q1⟩=>ho pins s1 σ H1 x v Q I1 r1 q1)
def Bv{f:Value->Value->Sem Value}{C:Int->Int->Prop}{g:Int->Int->Int}(rule:∀(i j:Int) (t u:Tok) (s:Shared) (Q:Value->Shared->Prop) (E:Value->Shared->Prop),C i j->Q (.int (g i j) s.toks) {s with toks:=s.toks+1}->wpAny (model X.prog X.w) X.A (f (.int i t) (.int j u)) Q E s):
 cu X f (rI C λi j=>.int (g i j)):=by
 intro pins s σ H x y v u Q I rx ry h;obtain⟨i,j,rfl,rfl,hc,q⟩:=h;obtain⟨t,rfl⟩:=rx;obtain⟨t',rfl⟩:=ry;exact rule i j t t' s _ _ hc ⟨.int (g i j),H,I.tok _,⟨_,rfl⟩,q⟩
def GQ{f:Value->Value->Sem Value}{g:Int->Int->Int}(rule:∀(i j:Int) (t u:Tok) (s:Shared) (Q:Value->Shared->Prop) (E:Value->Shared->Prop),Q (.int (g i j) s.toks) {s with toks:=s.toks+1}->wpAny (model X.prog X.w) X.A (f (.int i t) (.int j u)) Q E s):
 cu X f (k_ λi j=>.int (g i j)):=by
 intro pins s σ H x y v u Q I rx ry h;obtain⟨i,j,rfl,rfl,q⟩:=h;obtain⟨t,rfl⟩:=rx;obtain⟨t',rfl⟩:=ry;exact rule i j t t' s _ _ ⟨.int (g i j),H,I.tok _,⟨_,rfl⟩,q⟩
def vJ{f:Value->Value->Sem Value}{g:Int->Int->Bool}(rule:∀(i j:Int) (t u:Tok) (s:Shared) (Q:Value->Shared->Prop) (E:Value->Shared->Prop),Q (.bool (g i j)) s->wpAny (model X.prog X.w) X.A (f (.int i t) (.int j u)) Q E s):
 cu X f (k_ λi j=>.bl (g i j)):=by
 intro pins s σ H x y v u Q I rx ry h;obtain⟨i,j,rfl,rfl,q⟩:=h;obtain⟨t,rfl⟩:=rx;obtain⟨t',rfl⟩:=ry;exact rule i j t t' s _ _ ⟨.bl (g i j),H,I,rfl,q⟩
def GR(i j:Int):Prop:=0<j/\j<1073741824
def vK(i j:Int):Prop:=(-(2 ^ 64)<i/\i<2 ^ 64)\/(-(2 ^ 64)<j/\j<2 ^ 64)
def vK.ok{i j:Int}(h:vK i j):IntMulOk i j:=by
 rcases h with⟨h1,h2⟩|⟨h1,h2⟩
 ·exact .of_left (intBits_le_64 h1 h2)
 ·exact .of_right (intBits_le_64 h1 h2)
def Qi:cu X (binaryOp .Add) (k_ λi j=>.int (i+j)):=GQ λ_ _ _ _ _ _ _ q=>add_int q
def Qj:cu X (binaryOp .Sub) (k_ λi j=>.int (i-j)):=GQ λ_ _ _ _ _ _ _ q=>sub_int q
def Qk:cu X (binaryOp .Mult) (rI vK λi j=>.int (i*j)):=Bv λ_ _ _ _ _ _ _ hc q=>mul_int q hc.ok
def N7:cu X (binaryOp .FloorDiv) (rI GR λi j=>.int (i / j)):=Bv λi j _ _ _ _ _ hc q=>by have h1:(0:Int)<j:=hc.1;have h2:j<1073741824:=hc.2;exact floordiv_int (by omega) (by rw[Int.fdiv_eq_ediv_of_nonneg i (by omega)];exact q) (.inl (PyProof.noPylong_small (by omega)))
def Ql:cu X (binaryOp .Mod) (rI (λ_ j=>0<j) λi j=>.int (i % j)):=Bv λi j _ _ _ _ _ hc q=>by have h1:(0:Int)<j:=hc;exact mod_int' (by omega) (by rw[Int.fmod_eq_emod_of_nonneg i (by omega)];exact q)
def UL{f:Value->Sem Value}{g:Int->Int}(rule:∀(i:Int) (t:Tok) (s:Shared) (Q:Value->Shared->Prop) (E:Value->Shared->Prop),Q (.int (g i) s.toks) {s with toks:=s.toks+1}->wpAny (model X.prog X.w) X.A (f (.int i t)) Q E s):
 Bu X f (rU λi=>.int (g i)):=by
 intro pins s σ H x v Q I rx h;obtain⟨i,rfl,q⟩:=h;obtain⟨t,rfl⟩:=rx;exact rule i t s _ _ ⟨.int (g i),H,I.tok _,⟨_,rfl⟩,q⟩
def Qm:Bu X (unaryOp .USub) (rU λi=>.int (-i)):=UL λ_ _ _ _ _ q=>neg_int q
end
def eE:V->V->Bool
 |.ao,.ao=>true|.ao,.int _=>true|.int _,.ao=>true|.ao,.bl _=>true|.bl _,.ao=>true|.ao,.str _=>true|.str _,.ao=>true
 |.int _,.int _=>true|.bl _,.bl _=>true|.str _,.str _=>true|.iL _,.iL _=>true
 |.int _,.str _=>true|.str _,.int _=>true|.bl _,.str _=>true|.str _,.bl _=>true
 |_,_=>false
def Hv:R2:=λx y H Q=>eE x y=true/\Q (.bl (decide (x=y))) H
def Hw:R2:=λx y H Q=>eE x y=true/\Q (.bl (!decide (x=y))) H
def EZ{i j:Int}:decide (V.int i=V.int j)=(i==j):=by rw[abw];simp
def FJ{i j:Bool}:decide (V.bl i=V.bl j)=(i==j):=by rw[abw];simp
def E1{i j:Str}:decide (V.str i=V.str j)=(i==j):=by rw[abw];simp
def E2{i j:Array UInt8}:decide (V.iL i=V.iL j)=(i.toList==j.toList):=by rw[abw];cases i;cases j;simp
section
variable{X:Cx}{a b c:Expr}{ta tb tc:TE}{pos:Pos}
def cV{pins:List (Addr×Obj)}{σ:St}{H:Hp}{s:Shared}{Q:VK}{k k':Bool}(I:Inv X pins σ H s)(q:Q (.bl k) H)(e:k=k'):EP X pins σ Q (.bool k') s:=by subst e;exact⟨.bl k,H,I,rfl,q⟩
def Sa:cu X (compareOp .Eq) Hv:=by
 intro pins s σ H x y v u Q I rx ry h;obtain⟨hs,q⟩:=h;cases x with
 |ao=>
  cases rx;cases y with
  |ao=>cases ry;exact PySem.EqNone.eq_none_none (cV I q (by simp))
  |bl j=>cases ry;exact PySem.EqNone.eq_none_bool (cV I q (by simp))
  |int j=>obtain⟨t',rfl⟩:=ry;exact PySem.EqNone.eq_none_int (cV I q (by simp))
  |str j=>obtain⟨t',rfl⟩:=ry;exact PySem.EqNone.eq_none_str (cV I q (by simp))
  |_=>exact absurd (show false=true from hs) aa4
 |bl i=>
  cases rx;cases y with
  |ao=>cases ry;exact PySem.EqNone.eq_bool_none (cV I q (by simp))
  |bl j=>cases ry;exact eq_bool (cV I q FJ)
  |str j=>obtain⟨t',rfl⟩:=ry;exact PySem.EqMixed.eq_bool_str (cV I q (by simp))
  |_=>exact absurd (show false=true from hs) aa4
 |int i=>
  obtain⟨t,rfl⟩:=rx;cases y with
  |ao=>cases ry;exact PySem.EqNone.eq_int_none (cV I q (by simp))
  |int j=>obtain⟨t',rfl⟩:=ry;exact eq_int (cV I q EZ)
  |str j=>obtain⟨t',rfl⟩:=ry;exact PySem.EqMixed.eq_int_str (cV I q (by simp))
  |_=>exact absurd (show false=true from hs) aa4
 |str i=>
  obtain⟨t,rfl⟩:=rx;cases y with
  |ao=>cases ry;exact PySem.EqNone.eq_str_none (cV I q (by simp))
  |bl j=>cases ry;exact PySem.EqMixed.eq_str_bool (cV I q (by simp))
  |int j=>obtain⟨t',rfl⟩:=ry;exact PySem.EqMixed.eq_str_int (cV I q (by simp))
  |str j=>obtain⟨t',rfl⟩:=ry;exact eq_str (cV I q E1)
  |_=>exact absurd (show false=true from hs) aa4
 |iL i=>
  obtain⟨t,rfl⟩:=rx;cases y with
  |iL j=>obtain⟨t',rfl⟩:=ry;exact PySem.W.eq_bytes (cV I q E2)
  |_=>exact absurd (show false=true from hs) aa4
 |_=>cases y<;>exact absurd (show false=true from hs) aa4
def Sb:cu X (compareOp .NotEq) Hw:=by
 intro pins s σ H x y v u Q I rx ry h;obtain⟨hs,q⟩:=h;cases x with
 |ao=>
  cases rx;cases y with
  |ao=>cases ry;exact PySem.EqNone.ne_none_none (cV I q (by simp))
  |bl j=>cases ry;exact PySem.EqNone.ne_none_bool (cV I q (by simp))
  |int j=>obtain⟨t',rfl⟩:=ry;exact PySem.EqNone.ne_none_int (cV I q (by simp))
  |str j=>obtain⟨t',rfl⟩:=ry;exact PySem.EqNone.ne_none_str (cV I q (by simp))
  |_=>exact absurd (show false=true from hs) aa4
 |bl i=>
  cases rx;cases y with
  |ao=>cases ry;exact PySem.EqNone.ne_bool_none (cV I q (by simp))
  |bl j=>cases ry;exact ne_bool (cV I q (abU not FJ))
  |str j=>obtain⟨t',rfl⟩:=ry;exact PySem.EqMixed.ne_bool_str (cV I q (by simp))
  |_=>exact absurd (show false=true from hs) aa4
 |int i=>
  obtain⟨t,rfl⟩:=rx;cases y with
  |ao=>cases ry;exact PySem.EqNone.ne_int_none (cV I q (by simp))
  |int j=>obtain⟨t',rfl⟩:=ry;exact ne_int (cV I q (abU not EZ))
  |str j=>obtain⟨t',rfl⟩:=ry;exact PySem.EqMixed.ne_int_str (cV I q (by simp))
  |_=>exact absurd (show false=true from hs) aa4
 |str i=>
  obtain⟨t,rfl⟩:=rx;cases y with
  |ao=>cases ry;exact PySem.EqNone.ne_str_none (cV I q (by simp))
  |bl j=>cases ry;exact PySem.EqMixed.ne_str_bool (cV I q (by simp))
  |int j=>obtain⟨t',rfl⟩:=ry;exact PySem.EqMixed.ne_str_int (cV I q (by simp))
  |str j=>obtain⟨t',rfl⟩:=ry;exact ne_str (cV I q (abU not E1))
  |_=>exact absurd (show false=true from hs) aa4
 |iL i=>
  obtain⟨t,rfl⟩:=rx;cases y with
  |iL j=>obtain⟨t',rfl⟩:=ry;exact PySem.W.ne_bytes (cV I q (abU not E2))
  |_=>exact absurd (show false=true from hs) aa4
 |_=>cases y<;>exact absurd (show false=true from hs) aa4
def Sd:cu X (compareOp .Lt) (k_ λi j=>.bl (decide (i<j))):=vJ λ_ _ _ _ _ _ _ q=>lt_int q
def Se:cu X (compareOp .LtE) (k_ λi j=>.bl (decide (i<=j))):=vJ λ_ _ _ _ _ _ _ q=>le_int q
def Sf:cu X (compareOp .Gt) (k_ λi j=>.bl (decide (j<i))):=vJ λ_ _ _ _ _ _ _ q=>gt_int q
def Sg:cu X (compareOp .GtE) (k_ λi j=>.bl (decide (j<=i))):=vJ λ_ _ _ _ _ _ _ q=>ge_int q
def isObj:HO->Bool
 |.lst _=>true
 |.ins _ _ _=>true
 |_=>false
def y8{pins:List (Addr×Obj)}{s:Shared}{σ:St}{H:Hp}{a:Addr}{o:HO}(I:Inv X pins σ H s)(h:H a=some o)(p:isObj o=true):∃ob,s.heap.get? a=some ob/\ob.cls≠.type "tuple":=by
 cases o with
 |lst xs=>obtain⟨_,au,n,_,e⟩:xs.length<=sizeLine/\∃(au:List Value) (n:Nat),Vals xs au/\s.heap.get? a=some {cls:=.type "list",data:=.seq au.toArray n}:=I.aE a _ h;exact⟨_,e,(by show Value.type "list"≠.type "tuple";decide+kernel)⟩
 |ins C dx fs=>have x:=I.aE a _ h;obtain⟨_,_,_,e,_⟩:=x;exact⟨_,e,(by show Value.ref C≠.type "tuple";exactλz=>by cases z)⟩
 |_=>exact absurd (show false=true from p) aa4
def cu.or{f:Value->Value->Sem Value}{r r':R2}(h:cu X f r)(h':cu X f r'):cu X f (λx y H Q=>r x y H Q\/r' x y H Q):=by
 intro pins s σ H x y v u Q I rx ry q;rcases q with q|q
 ·exact h pins s σ H x y v u Q I rx ry q
 ·exact h' pins s σ H x y v u Q I rx ry q
def N8{op:CmpOp}{r:R2}(ho:cu X (compareOp op) r)(ha:PE X a ta)(hb:PE X b tb)(hm:behindInMarks op b=false):PE X (.Compare a [op] [b] pos) (we r ta tb):=by intro pins s σ H Q I h;exact wpAny_Compare1 (A2 ha hb I h λv u s2 x y H2 I2 rx ry q=>ho pins s2 σ H2 x y v u Q I2 rx ry q) hm
def Gi(t:TE):TT:=λσ H Q=>t σ H λx H'=>∃k,x=.bl k/\Q k H'
def N9{op:CmpOp}{r:R2}(ho:cu X (compareOp op) r)(ha:PE X a ta)(hb:PE X b tb)(hm:behindInMarks op b=false):PT X (.Compare a [op] [b] pos) (Gi (we r ta tb)):=by
 intro pins s σ H Q I h;refine wpAny_isTrue_Compare1 (aK (ha pins s σ H _ I h) λv s1 ⟨x,H1,I1,r1,q1⟩=>aK (hb pins s1 σ H1 _ I1 q1) λu s2 ⟨y,H2,I2,r2,q2⟩=>aK (ho pins s2 σ H2 x y v u _ I2 r1 r2 q2) λc s3 ⟨z,H3,I3,r3,k,e,q3⟩=>?_) hm
 subst e;cases r3;exact ace ⟨H3,I3,q3⟩
def Ao(r r':R2)(ta tb tc:TE):TE:=λσ H Q=>ta σ H λx H1=>tb σ H1 λy H2=>r x y H2 λz H3=>∃k,z=.bl k/\ (if k=true then tc σ H3 λw' H4=>r' y w' H4 Q else Q (.bl false) H3)
def Mn{op op':CmpOp}{r r':R2}(ho:cu X (compareOp op) r)(dn:cu X (compareOp op') r')(ha:PE X a ta)(hb:PE X b tb)(hc:PE X c tc)(hm:lastMarks [op,op'] [b,c]=false:=by with_unfolding_all rfl):PE X (.Compare a [op,op'] [b,c] pos) (Ao r r' ta tb tc):=by
 intro pins s σ H Q I h;refine Compare_chain (aK (ha pins s σ H _ I h) λv s1 ⟨x,H1,I1,r1,q1⟩=>chain_link (aK (hb pins s1 σ H1 _ I1 q1) λu s2 ⟨y,H2,I2,r2,q2⟩=>aK (ho pins s2 σ H2 x y v u _ I2 r1 r2 q2) λd s3 ⟨z,H3,I3,r3,k,e,q3⟩=>?_)) hm
 subst e;cases r3;refine ace ?_;cases k with
 |false=>exact ite_ff ⟨.bl false,H3,I3,rfl,q3⟩
 |true=>exact ite_tt (chain_last (aK (hc pins s3 σ H3 _ I3 q3) λw' s4 ⟨z',H4,I4,r4,q4⟩=>dn pins s4 σ H4 y z' u w' Q I4 r2 r4 q4))
def Mo{op op':CmpOp}{r r':R2}(ho:cu X (compareOp op) r)(dn:cu X (compareOp op') r')(ha:PE X a ta)(hb:PE X b tb)(hc:PE X c tc)(hm:lastMarks [op,op'] [b,c]=false:=by with_unfolding_all rfl):PT X (.Compare a [op,op'] [b,c] pos) (Gi (Ao r r' ta tb tc)):=by
 intro pins s σ H Q I h;refine isTrue_chain (aK (ha pins s σ H _ I h) λv s1 ⟨x,H1,I1,r1,q1⟩=>test_link (aK (hb pins s1 σ H1 _ I1 q1) λu s2 ⟨y,H2,I2,r2,q2⟩=>aK (ho pins s2 σ H2 x y v u _ I2 r1 r2 q2) λd s3 ⟨z,H3,I3,r3,k,e,q3⟩=>?_)) hm
 subst e;cases r3;refine ace ?_;cases k with
 |false=>obtain⟨k',e',q'⟩:=q3;cases e';exact ite_ff ⟨H3,I3,q'⟩
 |true=>refine ite_tt (test_last (aK (hc pins s3 σ H3 _ I3 q3) λw' s4 ⟨z',H4,I4,r4,q4⟩=>aK (dn pins s4 σ H4 y z' u w' _ I4 r2 r4 q4) λd' s5 ⟨z2,H5,I5,r5,k2,e2,q5⟩=>?_));subst e2;cases r5;exact ace ⟨H5,I5,q5⟩
def u4:(sizeLine:Nat)<2 ^ 63:=by rw[sizeLine_eq];decide
def vals1{x:V}{us:List Value}(r:Vals [x] us):∃u,us=[u]/\RelV x u:=by
 cases r with
 |cons r1 r2=>cases r2;exact⟨_,rfl,r1⟩
def K7:iY X (.type "int") (λxs H Q=>(∃i,xs=[.int i]/\Q (.int i) H)\/∃k,xs=[.bl k]/\Q (.int (if k then 1 else 0)) H):=by
 intro pins s σ H xs us Q I r h;rcases h with⟨i,rfl,q⟩|⟨k,rfl,q⟩
 ·obtain⟨u,rfl,t,rfl⟩:=vals1 r;exact call_int_int ⟨.int i,H,I,⟨_,rfl⟩,q⟩
 ·obtain⟨u,rfl,r1⟩:=vals1 r;cases r1;exact call_int_bool ⟨.int (if k then 1 else 0),H,I.tok _,⟨_,rfl⟩,q⟩
end
structure nS(h:Heap)(x dx C:Addr)(mA:Str->Option Value):Prop where
 obj:h.get? x=some (PySem.W.instObj C dx)
 ns:h.Ns1 dx mA
 ne:dx≠x
def K8{h:Heap}{dx:Addr}{mA:Str->Option Value}(n:h.Ns1 dx mA):∃od,h.get? dx=some od/\∀name,PySem.W.lookIn name od=some (mA name):=by
 obtain⟨o,es,ep,ho,hd,hk,_,hm⟩:=n;refine⟨o,ho,λname=>?_⟩;have e:=hm name;unfold nsFind findBy at e;rw[<-Array.find?_toList] at e;unfold PySem.W.lookIn;rw[hd];dsimp only;split
 ·rename_i y q
  rw[q] at e;exact abU some e
 ·rename_i q
  rw[q] at e;have a:es.toList.any (·.refKey)=false:=by rw[List.any_eq_false];intro y hy;obtain⟨z,t,A3⟩:=hk y (Array.mem_toList_iff.mp hy);simp[DictEntry.refKey,A3]
  have a':¬es.toList.any (·.refKey)=true:=by rw[a];exact aa4
  rw[aaO a'];exact abU some e
def nS.look{h:Heap}{x dx C:Addr}{mA:Str->Option Value}(I:nS h x dx C mA):∃od,PySem.W.InstAt h x (PySem.W.instObj C dx) C (some od)/\∀name,PySem.W.lookIn name od=some (mA name):=
 let⟨od,ho,hl⟩:=K8 I.ns
 ⟨od,⟨I.obj,rfl,rfl,ho⟩,hl⟩
section
variable{prog:Program}{w:World}{A:Around}{E:Value->Shared->Prop}{s:Shared}{K:PySem.W.Frag}{x dx C f:Addr}{mA:Str->Option Value}{name:Str}{v:Value}
def get_map{expr:Bool}{Q:Value->Shared->Prop}(X:K.In s.heap)(I:nS s.heap x dx C mA)(hg:PySem.W.plainGet K C name=true)(hh:PySem.W.hasDictIn K C=true)(ha:PySem.W.findIn K (.ref C) name=some none)(hv:mA name=some v)(oh:PySem.W.handedIn v=true)(h:Q v {s with toks:=s.toks+1}):
 wpAny (model prog w) A (getAttr (.ref x) name expr) Q E s:=by
 obtain⟨od,J,hl⟩:=I.look;exact PySem.W.get_value X J (adt hg).1 (PySem.W.findObj_own hh ha rfl (by rw[hl,hv])) oh h
def Mp{pl:Sem Bool}{Q:Value×List Value->Shared->Prop}(X:K.In s.heap)(I:nS s.heap x dx C mA)(hg:PySem.W.plainGet K C name=true)(hf:PySem.W.findIn K (.ref C) name=some (some (.ref f)))(ht:PySem.W.isFn K (.ref f)=true)(hv:mA name=none)(h:Q (.ref f,[.ref x]) s):
 wpAny (model prog w) A (getMethod (.ref x) name pl) Q E s:=by
 obtain⟨od,J,hl⟩:=I.look;exact PySem.W.method_fn X J (adt hg).1 (adt hg).2 hf (abA.mp ht) (by show(PySem.W.lookIn name od).map (·.isSome)=some false;rw[hl,hv];rfl) h
def N_{ns:List Str}{Q:Unit->Shared->Prop}(X:K.In s.heap)(I:nS s.heap x dx C mA)(hs:PySem.W.findIn K (.ref C) "__setattr__"=some (some (.builtin "object.__setattr__")))(hp:PySem.W.plainOver K C=true)(ht:PySem.W.takerIn K C name=some none)(hh:PySem.W.hasDictIn K C=true)(hw:PySem.Within mA ns)(hsz:ns.length<=sizeLine)(h:∀h',nS h' x dx C (λy=>if y=name then some v else mA y)->Heap.SameBut dx s.heap h'->Q () {s with heap:=h',toks:=s.toks+2}):
 wpAny (model prog w) A (setAttr (.ref x) name v) Q E s:=by
 obtain⟨od,J,hl⟩:=I.look;refine PySem.W.set_plain X J hs (PySem.W.osa_open (s:={s with toks:=s.toks+1}) (r:=none) X J hp ht λb=>?_);obtain⟨cd,hc,Bo⟩:=PySem.W.any_some hh;have hx:s.heap.get? x=some ⟨.ref C,some dx,.plain,#[]⟩:=I.obj;refine aaS (aa5 (aaS (aaS (wpAny_loadPart hx (aaS (PySem.W.Looks.here (s:={s with toks:=s.toks+1}) (PySem.W.looks_clsIn X hc) ?_))))));rw[Bo];refine aa5 (a:=some dx) (aaS (aa5 (aaS ?_)));refine wpAny_nsSet1 (s:={s with toks:=s.toks+1}) I.ns λh' ic kZ=>?_
 obtain⟨oD,ZL,ZM,UM,UN,UO⟩:=ic.count (PySem.Within.cons name v hw);refine aaS (wpAny_lookBehind UM (by rw[UN];exact pastItsLine_dict (aa1 UO (by rw[abq];omega))) ?_);exact aa5 (h _ ⟨(kZ.2 _ (abc I.ne)).trans I.obj,ic,I.ne⟩ kZ)
def Mq{R:Result->Shared->Prop}{vs:List Value}{kw:List (Str×Value)}(X:K.In s.heap)(hm:PySem.W.makesIn K C=true)(hi:PySem.W.findIn K (.ref C) "__init__"=some (some (.ref f)))(hf:PySem.W.typeIn K (.ref f)=some (.type "function"))(h:codeAny (model prog w) (A.under (.builtin "type.__call__" ⟨.ref C::vs,kw⟩)) (.call (.ref f) ⟨.ref (s.heap.objs.size+1)::vs,kw⟩) (PySem.W.InitBack (s.heap.objs.size+1) R) {s with heap:=(s.heap.push PySem.W.emptyDict).push (PySem.W.instObj C s.heap.objs.size)}):
 codeAny (model prog w) A (.call (.ref C) ⟨vs,kw⟩) R s:=by
 obtain⟨hh,g,d,t,os⟩:=s;exact PySem.W.make_core (PySem.W.makes_of X hm) (ac7 X hi) (λself=>PySem.W.bind_fn X self hf) (.inl rfl) h
end
def bU(f:Str)(v:V):List (Str×V)->List (Str×V)
 |[]=>[(f,v)]
 |(g,x)::r=>if g=f then(g,v)::r else(g,x)::bU f v r
theorem Dk(f g:Str)(v:V):∀fs:List (Str×V),(bU f v fs).lookup g=if g=f then some v else fs.lookup g
 |[]=>by
  show List.lookup g [(f,v)]=_;by_cases h:g=f
  ·have hb:(g==f)=true:=abA.mpr h;simp only[List.lookup,hb,aaN h]
  ·have hb:(g==f)=false:=ab1.mpr h;simp only[List.lookup,hb,aaO h]
 |(k,x)::r=>by
  have ih:=Dk f g v r;rw[show bU f v ((k,x)::r)=(if k=f then(k,v)::r else(k,x)::bU f v r) from rfl];by_cases hk:k=f
  ·rw[aaN hk];by_cases h:g=k
   ·have hb:(g==k)=true:=abA.mpr h;simp only[List.lookup,hb,aaN (h.trans hk)]
   ·have hb:(g==k)=false:=ab1.mpr h;simp only[List.lookup,hb,aaO (λe:g=f=>h (e.trans hk.symm))]
  ·rw[aaO hk];by_cases h:g=k
   ·have hb:(g==k)=true:=abA.mpr h;simp only[List.lookup,hb,aaO (λe:g=f=>hk (h.symm.trans e))]
   ·have hb:(g==k)=false:=ab1.mpr h;simp only[List.lookup,hb];exact ih
theorem y9(f:Str)(v:V):∀fs:List (Str×V),f∈(bU f v fs).map (·.1)/\∀g,g∈fs.map (·.1)->g∈(bU f v fs).map (·.1)
 |[]=>⟨by simp[bU],λg h=>by simp at h⟩
 |(k,x)::r=>by
  obtain⟨i1,i2⟩:=y9 f v r;rw[show bU f v ((k,x)::r)=(if k=f then(k,v)::r else(k,x)::bU f v r) from rfl];by_cases hk:k=f
  ·rw[aaN hk];subst hk;exact⟨by simp,λg h=>by simpa using h⟩
  ·rw[aaO hk];refine⟨?_,λg h=>?_⟩
   ·rw[aa8];exact abo _ i1
   ·rw[aa8] at h⊢;rcases aaX.mp h with e|e
    ·exact aaX.mpr (.inl e)
    ·exact abo _ (i2 g e)
theorem Dl(f:Str)(v:V):∀fs:List (Str×V),(bU f v fs).length<=fs.length+1
 |[]=>by simp[bU]
 |(k,x)::r=>by
  have ih:=Dl f v r;rw[show bU f v ((k,x)::r)=(if k=f then(k,v)::r else(k,x)::bU f v r) from rfl];by_cases hk:k=f
  ·rw[aaN hk,abq,abq];omega
  ·rw[aaO hk,abq,abq];omega
def fk.some_of{v:V}{o:Option Value}(r:fk (some v) o):∃u,o=some u/\RelV v u:=by
 cases o with
 |none=>exact(show False from r).elim
 |some u=>exact⟨u,rfl,r⟩
def fk.none_of{o:Option Value}(r:fk none o):o=none:=by
 cases o with
 |none=>rfl
 |some u=>exact(show False from r).elim
def K9{v:V}{u:Value}(r:RelV v u):PySem.W.handedIn u=true:=by
 cases v with
 |ao=>cases(show u=Value.none from r);rfl
 |bl b=>cases(show u=Value.bool b from r);rfl
 |int i=>obtain⟨t,e⟩:=(show∃t,u=Value.int i t from r);cases e;rfl
 |str x=>obtain⟨t,e⟩:=(show∃t,u=Value.str x t from r);cases e;rfl
 |iL b=>obtain⟨t,e⟩:=(show∃t,u=Value.bytes b t from r);cases e;rfl
 |j0 b=>obtain⟨t,e⟩:=(show∃t,u=Value.float b t from r);cases e;rfl
 |ref a=>cases(show u=Value.ref a from r);rfl
 |ty n=>cases(show u=Value.type n from r);rfl
section
variable{P:Program}{w:World}{H H':Hp}{h h':Heap}{a C dx:Addr}{fs UG:List (Str×V)}
def zY(aE:cC P w H h)(e:H a=some (.ins C dx fs)):∃mA,nS h a dx C mA/\(∀f,fk (fs.lookup f) (mA f))/\PySem.Within mA (fs.map (·.1))/\fs.length<=1000/\H dx=some (.own a):=by obtain⟨d,z,ne,ob,mA,n,r,q⟩:=(show c7 P w H h a (.ins C dx fs) from aE a _ e);exact⟨mA,⟨ob,n,ne⟩,r,q,z,d⟩
end
structure eV(K:PySem.W.Frag)(C:Addr):Prop where
 pg:PySem.W.plainGet K C Str.empty=true
 hd:PySem.W.hasDictIn K C=true
 po:PySem.W.plainOver K C=true
 sa:PySem.W.findIn K (.ref C) "__setattr__"=some (some (.builtin "object.__setattr__"))
def eV.get{K:PySem.W.Frag}{C:Addr}(c:eV K C)(f:Str):PySem.W.plainGet K C f=true:=c.pg
def iy(K:PySem.W.Frag)(C:Addr)(f:Str):Prop:=PySem.W.findIn K (.ref C) f=some none
def iy.Sh{K:PySem.W.Frag}{C:Addr}{f:Str}(n:iy K C f):PySem.W.takerIn K C f=some none:=by unfold PySem.W.takerIn;rw[show PySem.W.findIn K (.ref C) f=some none from n];rfl
structure Meth(K:PySem.W.Frag)(C:Addr)(m:Str)(f:Addr):Prop where
 at_:PySem.W.findIn K (.ref C) m=some (some (.ref f))
 fn:PySem.W.isFn K (.ref f)=true
 kp:PySem.W.keepIn K (.ref f)=true
section
variable{X:Cx}{pins:List (Addr×Obj)}{σ:St}{H:Hp}{s:Shared}{a C dx:Addr}{fs:List (Str×V)}{f:Str}{v:V}{A:Around}{E:Value->Shared->Prop}
def Kl{b:Bool}{Q:Value->Shared->Prop}(I:Inv X pins σ H s)(e:H a=some (.ins C dx fs))(c:eV X.K C)(n:iy X.K C f)(l:fs.lookup f=some v)(h:∀u s',Inv X pins σ H s'->RelV v u->Q u s'):wpAny (model X.prog X.w) A (getAttr (.ref a) f b) Q E s:=by obtain⟨mA,O,r,_,_,_⟩:=zY I.aE e;obtain⟨u,hu,ru⟩:=fk.some_of (v:=v) (o:=mA f) (by rw[<-l];exact r f);exact get_map I.eS O (c.get f) c.hd n hu (K9 ru) (h u _ (I.tok _) ru)
def Ds{m:Str}{g:Addr}{pl:Sem Bool}{Q:Value×List Value->Shared->Prop}(I:Inv X pins σ H s)(e:H a=some (.ins C dx fs))(c:eV X.K C)(k:Meth X.K C m g)(l:fs.lookup m=none)(h:Q (.ref g,[.ref a]) s):wpAny (model X.prog X.w) A (getMethod (.ref a) m pl) Q E s:=by obtain⟨mA,O,r,_,_,_⟩:=zY I.aE e;have hn:mA m=none:=fk.none_of (by rw[<-l];exact r m);exact Mp I.eS O (c.get m) k.at_ k.fn hn h
def Km{y:V}{u:Value}{Q:Unit->Shared->Prop}(I:Inv X pins σ H s)(e:H a=some (.ins C dx fs))(c:eV X.K C)(n:iy X.K C f)(hl:fs.length<1000)(ry:RelV y u)(h:∀s',Inv X pins σ (upd H a (.ins C dx (bU f y fs))) s'->Q () s'):wpAny (model X.prog X.w) A (setAttr (.ref a) f u) Q E s:=by
 obtain⟨mA,O,r,wi,_,ho⟩:=zY I.aE e;have hz:(fs.map (·.1)).length<=sizeLine:=by rw[aaV,sizeLine_eq];omega
 refine N_ I.eS O c.sa c.po n.Sh c.hd wi hz λh' O' sb=>h _ ?_
 have hd:∃o,h'.get? dx=some o:=let⟨o,_,_,e',_⟩:=O'.ns;⟨o,e'⟩
 refine I.write (x:=a) (e:=dx) (by rw[e];exact True.intro) (.inr ho) (λb q hb z=>(sb.2 b hb).trans z) hd ?_;refine⟨by rw[ba O.ne];exact ho,?_,O.ne,O'.obj,_,O'.ns,λg=>?_,λg hg=>?_⟩
 ·have:=Dl f y fs;omega
 ·show fk ((bU f y fs).lookup g) (if g=f then some u else mA g);rw[Dk];by_cases q:g=f
  ·rw[aaN q,aaN q];exact ry
  ·rw[aaO q,aaO q];exact r g
 ·by_cases q:g=f
  ·rw[q];exact(y9 f y fs).1
  ·refine(y9 f y fs).2 g (wi g λz=>hg ?_);show(if g=f then some u else mA g)=none;rw[aaO q];exact z
def Inv.made(I:Inv X pins σ H s):Inv X pins σ (upd (upd H s.heap.objs.size (.own (s.heap.objs.size+1))) (s.heap.objs.size+1) (.ins C s.heap.objs.size [])) {s with heap:=(s.heap.push PySem.W.emptyDict).push (PySem.W.instObj C s.heap.objs.size)}:=by
 have e1:(s.heap.push PySem.W.emptyDict).get? s.heap.objs.size=some PySem.W.emptyDict:=abE s.heap rfl;have e2:((s.heap.push PySem.W.emptyDict).push (PySem.W.instObj C s.heap.objs.size)).get? (s.heap.objs.size+1)=some (PySem.W.instObj C s.heap.objs.size):=by
  have:=abE (s.heap.push PySem.W.emptyDict) (o:=PySem.W.instObj C s.heap.objs.size) rfl
  rwa [ac8] at this
 have e3:(s.heap.push PySem.W.emptyDict).Ns s.heap.objs.size (λ_=>none):=⟨PySem.W.emptyDict,#[],_,e1,rfl,(λe he=>absurd he (by simp)),λ_=>rfl⟩;have I1:=I.laid (a:=s.heap.objs.size) (o:=.own (s.heap.objs.size+1)) (h':=s.heap.push PySem.W.emptyDict) (t':=s.toks) (λb u q=>abd _ q) (aaY _) ⟨_,e1⟩;refine I1.laid (a:=s.heap.objs.size+1) (o:=.ins C s.heap.objs.size []) (t':=s.toks) (λb u q=>abd _ q) (adu (ac8 _ _)) ?_;have ne:s.heap.objs.size≠s.heap.objs.size+1:=abn (adv _);refine⟨by rw[ba ne,dA],abV _,ne,e2,λ_=>none,(Heap.Ns1.of_empty e3).at λo q=>abd _ q,λ_=>True.intro,λy hy=>absurd rfl hy⟩
def Oa{prog:Program}{w:World}{env:Env}{e:Expr}{f:Str}{pos:Pos}{s:Shared}{Q:Value->Shared->Prop}(hb:attributeBase e f env (eval e env)=eval e env)(h:wpAny (model prog w) A (eval e env) (λo bD=>wpAny (model prog w) A (getAttr o f true) Q E bD) E s):wpAny (model prog w) A (eval (.Attribute e f pos) env) Q E s:=
 Attribute_any_ h (by rw[arm_eval_Attribute,hb])
end
def TL(K:PySem.W.Frag)(ta:TE)(f:Str):TE:=λσ H Q=>ta σ H λx H1=>∃a C dx fs v,x=.ref a/\H1 a=some (.ins C dx fs)/\eV K C/\iy K C f/\fs.lookup f=some v/\Q v H1
def jX(K:PySem.W.Frag)(ta tv:TE)(f:Str):TS:=λD σ H=>tv σ H λy H1=>ta σ H1 λx H2=>∃a C dx fs,x=.ref a/\H2 a=some (.ins C dx fs)/\eV K C/\iy K C f/\fs.length<1000/\
 D.nx σ (upd H2 a (.ins C dx (bU f y fs)))
section
variable{X:Cx}{o e value:Expr}{f:Str}{pos pos' tpos:Pos}{ta tv:TE}
def Qn(he:PE X e ta)(hb:attributeBase e f X.env (eval e X.env)=eval e X.env):PE X (.Attribute e f pos) (TL X.K ta f):=by intro pins s σ H Q I h;refine Oa hb (aK (he pins s σ H _ I h) λu s1 ⟨x,H1,I1,rx,a,C,dx,fs,v,ex,ea,c,n,l,q⟩=>?_);subst ex;obtain rfl:u=Value.ref a:=rx;exact Kl I1 ea c n l λu' s2 I2 ru=>⟨v,H1,I2,ru,q⟩
def Qo(ha:PE X o ta)(hv:PE X value tv)(hs:swapsWith value (some (.Attribute o f pos')) pos.line X.env=pure false):PS X (.Assign [.Attribute o f pos'] value pos) (jX X.K ta tv f):=by intro pins s σ H D I h;refine plainObj_wpAny_Assign_Attribute (aK (hv pins s σ H _ I h) λu s1 ⟨y,H1,I1,ry,q⟩=>aK (ha pins s1 σ H1 _ I1 q) λov s2 ⟨x,H2,I2,rx,a,C,dx,fs,ex,ea,c,n,l,q2⟩=>?_) hs;subst ex;obtain rfl:ov=Value.ref a:=rx;exact Km I2 ea c n l ry λs3 I3=>⟨σ,_,I3,q2⟩
def Zf{pl:Sem Bool}{m:Str}{apos:Pos}{args:List Expr}{pins:List (Addr×Obj)}{s:Shared}{σ:St}{H:Hp}{Q:Value->Shared->Prop}{te:TE}(he:PE X e te)(I:Inv X pins σ H s)(h:te σ H λx H1=>∃a C dx fs g,x=.ref a/\H1 a=some (.ins C dx fs)/\eV X.K C/\Meth X.K C m g/\fs.lookup m=none/\
  ∀s1,Inv X pins σ H1 s1->wpAny (model X.prog X.w) X.A (callWith pos (.ref g) [.ref a] (backTo pos (starEach args X.env)) (backToKw pos (keywordEach [] X.env))) Q X.xe s1)
 (ht:eval (.Call (.Attribute e m apos) args [] pos) X.env=(do
  let ov<-eval e X.env
  standAt apos.atName
  let(f,first)<-holding [ov] (getMethod ov m pl)
  callWith pos f first (backTo pos (starEach args X.env)) (backToKw pos (keywordEach [] X.env)))):
 wpAny (model X.prog X.w) X.A (eval (.Call (.Attribute e m apos) args [] pos) X.env) Q X.xe s:=by
 refine adZ (pl:=pl) (aK (he pins s σ H _ I h) λu s1 ⟨x,H1,I1,rx,a,C,dx,fs,g,ex,ea,c,k,l,q⟩=>?_) ht;subst ex;obtain rfl:u=Value.ref a:=rx;exact Ds I1 ea c k l (q s1 I1)
end
section
variable{X:Cx}{pins:List (Addr×Obj)}{σ:St}{H:Hp}{s:Shared}{A:Around}{E:Value->Shared->Prop}{Q:Value->Shared->Prop}{c:Value}{b:Bool}
inductive eR(K:PySem.W.Frag)(H:Hp):V->Value->Prop where
 |ao:eR K H .ao (.type "NoneType")
 |bl (x:Bool):eR K H (.bl x) (.type "bool")
 |int (i:Int):eR K H (.int i) (.type "int")
 |str (x:Str):eR K H (.str x) (.type "str")
 |j0 (x:UInt64):eR K H (.j0 x) (.type "float")
 |lst {a:Addr} {xs:List V} (e:H a=some (.lst xs)):eR K H (.ref a) (.type "list")
 |bf {a:Addr} {o:Obj} {xs:List V} (e:H a=some (.bf o (.lst xs))):eR K H (.ref a) (.type "list")
 |tup {a:Addr} {xs:List V} (e:H a=some (.tup xs)):eR K H (.ref a) (.type "tuple")
 |dK {a:Addr} {kvs:List (Key×V)} (e:H a=some (.dK kvs)):eR K H (.ref a) (.type "dict")
 |dT {a:Addr} {kvs:List (List Key×V)} (e:H a=some (.dT kvs)):eR K H (.ref a) (.type "dict")
 |ins {a C dx:Addr} {fs:List (Str×V)} (e:H a=some (.ins C dx fs)) (cl:eV K C) (ha:PySem.W.findIn K (.ref C) "__class__"=some (some (.builtin "object.__class__"))) (hn:PySem.W.specialIn K (.builtin "object.__class__") "__get__"=some (some (.builtin "getset_descriptor.__get__"))) (Bw:PySem.W.takesIn K (.builtin "object.__class__")=some true) (hm:PySem.W.mroIn K C (.type "object")=some true):eR K H (.ref a) (.ref C)
end
structure cq(k:Nat)(A:Around):Prop where
 hd:A.handled=none
 dp:A.depth+3*k+5<recursionLimit
 un:A.units+16*k+200<cLine
def cq.deeper{k:Nat}{A:Around}(r:cq (k+1) A)(env:Env):cq k (A.deeper env):=
 ⟨r.hd,by have:=r.dp;show A.depth+1+3*k+5<_;omega,by have:=r.un;show A.units+3+16*k+200<_;omega⟩
def Kn{A:Around}{C:Addr}{us:List Value}{kw:List (Str×Value)}:(A.under (.builtin "type.__call__" ⟨.ref C::us,kw⟩)).depth=A.depth+1:=by first|rfl|simp[Around.under,Code.weight,Code.isCreation,Code.isGuard,Code.isCaller,Code.frames,Code.isFrame,guardIds]
def Ko{A:Around}{C:Addr}{us:List Value}{kw:List (Str×Value)}:(A.under (.builtin "type.__call__" ⟨.ref C::us,kw⟩)).units=A.units+1:=by first|rfl|simp[Around.under,Code.cUnits,Code.frames,Code.isFrame]
def cq.make{k:Nat}{A:Around}(r:cq (k+1) A)(C:Addr)(us:List Value)(kw:List (Str×Value)):cq k (A.under (.builtin "type.__call__" ⟨.ref C::us,kw⟩)):=
 ⟨r.hd,by have:=r.dp;rw[Kn];omega,by have:=r.un;rw[Ko];omega⟩
def cq.depth{k:Nat}{A:Around}(r:cq k A):A.depth<recursionLimit:=by have:=r.dp;omega
def cq.units{k:Nat}{A:Around}(r:cq k A):A.units+64<cLine:=by have:=r.un;omega
def cq.u5{k:Nat}{A:Around}(r:cq k A):A.units<cLine:=by have:=r.un;omega
def TN:TA:=λ_ H Q=>Q [] H
def Si(ta:TE)(tr:TA):TA:=λσ H Q=>ta σ H λx H1=>tr σ H1 λxs H2=>Q (x::xs) H2
section
variable{X:Cx}{e:Expr}{es:List Expr}{te:TE}{t:TA}{pos:Pos}
def jh:PA X [] TN:=λ_ _ _ _ H Q I h=>acr ⟨[],H,I,.nil,h⟩
def gh(ha:PE X e te)(hr:PA X es t)(hs:starEach (e::es) X.env=(false,eval e X.env)::starEach es X.env:=by rfl):PA X (e::es) (Si te t):=by intro pos pins s σ H Q I h;rw[hs];show wpAny _ _ (spliced ((false,eval e X.env)::backTo pos (starEach es X.env))) _ _ s;refine ab9 (aK (ha pins s σ H _ I h) λu s1 ⟨x,H1,I1,r1,q1⟩=>?_);exact aK (hr pos pins s1 σ H1 _ I1 q1) λus s2 ⟨xs,H2,I2,r2,q2⟩=>⟨x::xs,H2,I2,.cons r1 r2,q2⟩
def TQ(t:TA):TE:=λσ H Q=>t σ H λxs H1=>xs.length<=sizeLine/\∀p,H1 p=none->Q (.ref p) (upd H1 p (.tup xs))
def TR(t:TA):TE:=λσ H Q=>t σ H λxs H1=>xs.length<=sizeLine/\∀p,H1 p=none->Q (.ref p) (upd H1 p (.lst xs))
def FL{x1}(h:PA X es t):PE X (.Tuple es x1 pos) (TQ t):=by intro pins s σ H Q I hq;refine wpAny_Tuple_spliced (aK (h pos pins s σ H _ I hq) λus s1 ⟨xs,H1,I1,r,z,q⟩=>⟨by rw[<-r.length];exact z,?_⟩);have hf:H1 s1.heap.objs.size=none:=I1.aE.fresh (aaY _);refine⟨.ref s1.heap.objs.size,upd H1 s1.heap.objs.size (.tup xs),I1.laid (t':=s1.toks) (λb u e=>abd _ e) (aaY _) ?_,rfl,q _ hf⟩;exact⟨z,us,r,⟨_,abE _ rfl,rfl,_,rfl⟩⟩
def Qp(h:PA X es t):PE X (.List es pos) (TR t):=by intro pins s σ H Q I hq;refine wpAny_List_spliced (aK (h pos pins s σ H _ I hq) λus s1 ⟨xs,H1,I1,r,z,q⟩=>⟨by rw[<-r.length];exact z,?_⟩);have hf:H1 s1.heap.objs.size=none:=I1.aE.fresh (aaY _);refine⟨.ref s1.heap.objs.size,upd H1 s1.heap.objs.size (.lst xs),I1.laid (t':=s1.toks) (λb u e=>abd _ e) (aaY _) ?_,rfl,q _ hf⟩;exact⟨z,us,0,r,abE _ rfl⟩
end
abbrev Sp:=List V->Hp->VK->XK->Prop
abbrev ig:=List Env->Hp->Shared->XK->Value->Shared->Prop
structure nT(P:Program)(w:World)(K:PySem.W.Frag)(mg:Str->Option Value)(base:Heap)(A:Around)(outer:List Env)(s:Shared)(H:Hp):Prop where
 frames:A.frames=some outer
 mod:Mod K mg base
 bs:∀b o,base.get? b=some o->s.heap.get? b=some o/\H b=none
 j3:base.objs.size<=s.heap.objs.size
 hZ:s.heap.FunFrames base outer
 kW:∀b∈dg outer,H b=none
 aE:cC P w H s.heap
 bare:AllBare s.gens
def CE(outer:List Env)(P:Program)(w:World)(H:Hp)(s:Shared)(Q:VK)(u:Value)(s':Shared):Prop:=
 ∃v H',s'.os=s.os/\AllBare s'.gens/\Un (dg outer) [] H H' s.heap s'.heap/\cC P w H' s'.heap/\RelV v u/\Q v H'
def CR(CX:ig)(outer:List Env)(P:Program)(w:World)(H:Hp)(s:Shared)(Q:VK)(E:XK)(r:Result)(s':Shared):Prop:=
 match r with
 |.ok (.ret u)=>CE outer P w H s Q u s'
 |.ok _=>False
 |.error e=>CX outer H s E e s'
structure fo(P:Program)(w:World)(K:PySem.W.Frag)(mg:Str->Option Value)(base:Heap)(CX:ig)(k:Nat)(f:Addr)(fd:FuncData)(ps:List Str)(sp:Sp):Prop where
 len:∀vs H Q E,sp vs H Q E->vs.length=ps.length
 run:∀(A:Around) (outer:List Env) (s:Shared) (H:Hp) (args:Args) (us:List Value) (vs:List V) (Q:VK) (E:XK),cq k A->nT P w K mg base A outer s H->BindsTo s fd args (ps.zip us)->Vals vs us->sp vs H Q E->
  codeAny (model P w) A (.call (.ref f) args) (CR CX outer P w H s Q E) s
def fo.imp{P:Program}{w:World}{K:PySem.W.Frag}{mg:Str->Option Value}{base:Heap}{CX:ig}{k:Nat}{f:Addr}{fd:FuncData}{ps:List Str}{sp Hx:Sp}(F:fo P w K mg base CX k f fd ps sp)(h:∀vs H Q E,Hx vs H Q E->sp vs H Q E):fo P w K mg base CX k f fd ps Hx:=
 ⟨λvs H Q E q=>F.len vs H Q E (h _ _ _ _ q),λA outer s H args us vs Q E hr he hb hv hs=>F.run A outer s H args us vs Q E hr he hb hv (h _ _ _ _ hs)⟩
def nT.make{P:Program}{w:World}{K:PySem.W.Frag}{mg:Str->Option Value}{base:Heap}{A:Around}{outer:List Env}{s:Shared}{H:Hp}(e:nT P w K mg base A outer s H)(C:Addr)(us:List Value)(kw:List (Str×Value)):
 nT P w K mg base (A.under (.builtin "type.__call__" ⟨.ref C::us,kw⟩)) outer s H:=⟨by first|exact e.frames|(simpa[Around.under,Code.envs,Code.isFrame,pushEnvs] using e.frames),e.mod,e.bs,e.j3,e.hZ,e.kW,e.aE,e.bare⟩
section
variable{X:Cx}{pins:List (Addr×Obj)}{σ:St}{H:Hp}{s s':Shared}
def Inv.A4(I:Inv X pins σ H s):nT X.prog X.w X.K X.mg X.base X.A X.stack s H:=
 ⟨I.ok.frames,I.ok.mod,I.bs,aa1 I.ok.j3 I.sz,I.stack,I.zV,I.aE,I.bare⟩
def Inv.after{Q:VK}{u:Value}(I:Inv X pins σ H s)(h:CE X.stack X.prog X.w H s Q u s'):EP X pins σ Q u s':=by obtain⟨v,H',os,bare,un,aE,r,q⟩:=h;obtain⟨hh,g,d,t,UP⟩:=s';obtain rfl:UP=s.os:=os;exact⟨v,H',I.call (h':=hh) (g':=g) (d':=d) (t':=t) (ch:=[]) un aE bare (λb z=>absurd z (by simp)),r,q⟩
end
def Sj(sp:Sp)(fu:List V)(E:XK)(t:TA):TE:=λσ H Q=>t σ H λvs H1=>sp (vs++fu) H1 Q E
def Sk(C:Addr)(m:Str)(sp:Sp)(fu:List V)(E:XK)(ta:TE)(t:TA):TE:=λσ H Q=>ta σ H λx H1=>∃a dx fs,x=.ref a/\H1 a=some (.ins C dx fs)/\fs.lookup m=none/\
 t σ H1 λvs H2=>sp (x::(vs++fu)) H2 Q E
def Sl(C:Addr)(sp:Sp)(fu:List V)(E:XK)(t:TA):TE:=λσ H Q=>t σ H λvs H1=>∀x dx,H1 x=none->H1 dx=none->dx≠x->
 sp (.ref x::(vs++fu)) (upd (upd H1 dx (.own x)) x (.ins C dx [])) (λv H2=>v=.ao/\Q (.ref x) H2) E
def Binds(K:PySem.W.Frag)(fd:FuncData)(ps:List Str)(ds:List Value):Prop:=
 ∀(s:Shared) (us:List Value),K.In s.heap->(us++ds).length=ps.length->BindsTo s fd ⟨us,[]⟩ (ps.zip (us++ds))
def Binds.all{K:PySem.W.Frag}{fd:FuncData}{ps:List Str}(h:∀us:List Value,us.length=ps.length->bindArgs fd ⟨us,[]⟩=pure (ps.zip us)):Binds K fd ps []:=λs us _ hl=>by rw[ab_] at hl⊢;exact .of_eq (h us hl)
def Passes(CX:ig)(X:Cx)(E:XK):Prop:=∀(pins:List (Addr×Obj)) (σ:St) (H:Hp) (s:Shared) (e:Value) (s':Shared),Inv X pins σ H s->CX X.stack H s E e s'->X.xe e s'
section
variable{X:Cx}{CX:ig}{k:Nat}{f C:Addr}{fd:FuncData}{ps:List Str}{sp:Sp}{fu:List V}{ds:List Value}{E:XK}{x m:Str}{p pos apos:Pos}{e o:Expr}{es:List Expr}{ta:TE}{t:TA}
def Ap{pins:List (Addr×Obj)}{σ:St}{H:Hp}{s:Shared}{Q:VK}{us:List Value}{vs:List V}(F:fo X.prog X.w X.K X.mg X.base CX k f fd ps sp)(hr:cq k X.A)(hb:Binds X.K fd ps ds)(hd:Vals fu ds)(hx:Passes CX X E)(I:Inv X pins σ H s)(r:Vals vs us)(h:sp (vs++fu) H Q E):wpAny (model X.prog X.w) X.A (call (.ref f) us) (EP X pins σ Q) X.xe s:=by
 have r2:Vals (vs++fu) (us++ds):=r.append hd;have hl:(us++ds).length=ps.length:=by rw[<-r2.length];exact F.len _ _ _ _ h
 refine wpAny_call (acM (F.run X.A X.stack s H ⟨us,[]⟩ (us++ds) (vs++fu) Q E hr I.A4 (hb s us I.eS hl) r2 h) λr s' hq=>?_);cases r with
 |error e=>exact hx pins σ H s e s' I hq
 |ok fl=>
  cases fl with
  |ret u=>exact I.after hq
  |next=>exact False.elim hq
  |brk=>exact False.elim hq
  |cont=>exact False.elim hq
def Ob(F:fo X.prog X.w X.K X.mg X.base CX k f fd ps sp)(hr:cq k X.A)(hg:Gl X x)(hm:X.mg x=some (.ref f))(hk:PySem.W.keepIn X.K (.ref f)=true)(hb:Binds X.K fd ps ds)(hd:Vals fu ds)(hx:Passes CX X E)(ha:PA X (e::es) t)(bO:(x==("__debug__":Str))=false:=by decide)(he:starEach (e::es) X.env=(false,eval e X.env)::starEach es X.env:=by rfl)(bI:(backTo pos (starEach es X.env)).any (·.1)=false:=by rfl):
 PE X (.Call (.Name x p) (e::es) [] pos) (Sj sp fu E t):=by
 intro pins s σ H Q I h;refine acf (pS I hg hm ?_ bO);refine acN (h₀:=X.base) I.ok.mod.mI hk (aK (ha pos pins s σ H _ I h) λus s1 ⟨vs,H1,I1,r,q⟩=>⟨I1.eS,?_⟩) he bI;exact Ap F hr hb hd hx I1 r q
def Oc{pl:Sem Bool}(he:PE X o ta)(c:eV X.K C)(hm:Meth X.K C m f)(F:fo X.prog X.w X.K X.mg X.base CX k f fd ps sp)(hr:cq k X.A)(hb:Binds X.K fd ps ds)(hd:Vals fu ds)(hx:Passes CX X E)(ha:PA X (e::es) t)(bq:starEach (e::es) X.env=(false,eval e X.env)::starEach es X.env:=by rfl)(bI:(backTo pos (starEach es X.env)).any (·.1)=false:=by rfl)(ht:eval (.Call (.Attribute o m apos) (e::es) [] pos) X.env=(do
  let ov<-eval o X.env
  standAt apos.atName
  let(f,first)<-holding [ov] (getMethod ov m pl)
  callWith pos f first (backTo pos (starEach (e::es) X.env)) (backToKw pos (keywordEach [] X.env))):=by rfl):
 PE X (.Call (.Attribute o m apos) (e::es) [] pos) (Sk C m sp fu E ta t):=by
 intro pins s σ H Q I h;refine adZ (pl:=pl) (aK (he pins s σ H _ I h) λu s1 ⟨x,H1,I1,rx,a,dx,fs,ex,ea,l,q⟩=>?_) ht;subst ex;obtain rfl:u=Value.ref a:=rx;refine Ds I1 ea c hm l ?_;refine acN (first:=[.ref a]) (h₀:=X.base) I.ok.mod.mI hm.kp (aK (ha pos pins s1 σ H1 _ I1 q) λus s2 ⟨vs,H2,I2,r,q2⟩=>⟨I2.eS,?_⟩) bq bI;exact Ap (us:=.ref a::us) (vs:=.ref a::vs) F hr hb hd hx I2 (.cons rfl r) q2
structure Mk(K:PySem.W.Frag)(C f:Addr):Prop where
 makes:PySem.W.makesIn K C=true
 init:PySem.W.findIn K (.ref C) "__init__"=some (some (.ref f))
 fn:PySem.W.isFn K (.ref f)=true
 kp:PySem.W.keepIn K (.ref C)=true
def Mr{pins:List (Addr×Obj)}{σ:St}{H:Hp}{s:Shared}{Q:VK}{us:List Value}{vs:List V}(M:Mk X.K C f)(F:fo X.prog X.w X.K X.mg X.base CX k f fd ps sp)(hr:cq (k+1) X.A)(hb:Binds X.K fd ps ds)(hd:Vals fu ds)(hx:Passes CX X E)(I:Inv X pins σ H s)(r:Vals vs us)(h:∀x dx,H x=none->H dx=none->dx≠x->sp (.ref x::(vs++fu)) (upd (upd H dx (.own x)) x (.ins C dx [])) (λv H2=>v=.ao/\Q (.ref x) H2) E):
 wpAny (model X.prog X.w) X.A (call (.ref C) us) (EP X pins σ Q) X.xe s:=by
 have hq:=h (s.heap.objs.size+1) s.heap.objs.size (I.aE.fresh (adw _)) (I.aE.fresh (aaY _)) (abn (adv _));have I2:=Inv.made (C:=C) I;have r2:Vals (V.ref (s.heap.objs.size+1)::(vs++fu)) (Value.ref (s.heap.objs.size+1)::(us++ds)):=.cons rfl (r.append hd);have hl:(Value.ref (s.heap.objs.size+1)::us++ds).length=ps.length:=by have e:=r2.length;rw[F.len _ _ _ _ hq] at e;exact e.symm
 refine wpAny_call (Mq (f:=f) I.eS M.makes M.init (abA.mp M.fn) (acM (F.run _ X.stack _ _ ⟨Value.ref (s.heap.objs.size+1)::us,[]⟩ (Value.ref (s.heap.objs.size+1)::(us++ds)) _ _ E (hr.make C us []) (I2.A4.make C us []) (hb _ (Value.ref (s.heap.objs.size+1)::us) I2.eS hl) r2 hq) λr s' oi=>?_))
 cases r with
 |error e=>exact hx pins σ _ _ e s' I2 oi
 |ok fl=>
  cases fl with
  |ret u=>obtain⟨v,H',I3,rv,ev,q3⟩:=I2.after oi;subst ev;exact⟨rv,⟨V.ref (s.heap.objs.size+1),H',I3,rfl,q3⟩⟩
  |next=>exact False.elim oi
  |brk=>exact False.elim oi
  |cont=>exact False.elim oi
def Od(M:Mk X.K C f)(F:fo X.prog X.w X.K X.mg X.base CX k f fd ps sp)(hr:cq (k+1) X.A)(hg:Gl X x)(hm:X.mg x=some (.ref C))(hb:Binds X.K fd ps ds)(hd:Vals fu ds)(hx:Passes CX X E)(ha:PA X (e::es) t)(bO:(x==("__debug__":Str))=false:=by decide)(he:starEach (e::es) X.env=(false,eval e X.env)::starEach es X.env:=by rfl)(bI:(backTo pos (starEach es X.env)).any (·.1)=false:=by rfl):
 PE X (.Call (.Name x p) (e::es) [] pos) (Sl C sp fu E t):=by
 intro pins s σ H Q I h;refine acf (pS I hg hm ?_ bO);refine acN (h₀:=X.base) I.ok.mod.mI M.kp (aK (ha pos pins s σ H _ I h) λus s1 ⟨vs,H1,I1,r,q⟩=>⟨I1.eS,?_⟩) he bI;exact Mr M F hr hb hd hx I1 r q
end
section
variable{X:Cx}{CX:ig}{k:Nat}{f C:Addr}{fd:FuncData}{ps ks:List Str}{sp:Sp}{E:XK}{x m:Str}{p pos apos ZE:Pos}{e o:Expr}{es:List Expr}{ZN:List Keyword}{te ta:TE}{t tk:TA}{nm:Option Str}
variable{g:List Value->List Value->List Value}{gV:List V->List V->List V}
end
structure jP(N P:List Str)(sc:Scope):Prop where
 kind:sc.kind=.function
 co:sc.isCoroutine=false
 gen:sc.isGenerator=false
 nd:N.Nodup
 pre:N.take P.length=P
 par:∀x∈P,sc.names.lookup x=some .local\/sc.names.lookup x=some .cell
 Qq:∀y∈sc.names,y.2≠.free
theorem DK{kindOf:Str->Option NameKind}{x:Str}:∀{binds:List (Str×Value)} {m:Str->Option Value},(∀v,(x,v)∉binds)->bindL kindOf binds m x=m x
 |[],_,_=>rfl
 |(n,v)::r,m,h=>by
  unfold bindL;rw[DK λw hw=>h w (abo _ hw)];split
  ·have:x≠n:=by rintro rfl;exact h v abL
   simp[this]
  ·rfl
theorem DL{kindOf:Str->Option NameKind}{x:Str}:∀{binds:List (Str×Value)} {m:Str->Option Value},(∀v,(x,v)∉binds)->bindC kindOf binds m x=m x
 |[],_,_=>rfl
 |(n,v)::r,m,h=>by
  unfold bindC;rw[DL λw hw=>h w (abo _ hw)];split
  ·rfl
  ·have:x≠n:=by rintro rfl;exact h v abL
   simp[this]
theorem DM{kindOf:Str->Option NameKind}{x:Str}{v:Value}:∀{P:List Str} {vs:List Value} {i:Nat} {m:Str->Option Value},P.Nodup->P[i]? =some x->vs[i]? =some v->kindOf x=some .local->
 bindL kindOf (P.zip vs) m x=some v
 |[],_,_,_,_,h,_,_=>by simp at h
 |_::_,[],_,_,_,_,h,_=>by simp at h
 |p::P,w::vs,0,m,nd,h1,h2,hk=>by simp at h1 h2;subst h1;subst h2;show bindL kindOf ((p,w)::P.zip vs) m p=_;unfold bindL;rw[DK λv hv=>(ab'.mp nd).1 (adx hv).1,aaN hk];simp
 |p::P,w::vs,i+1,m,nd,h1,h2,hk=>by show bindL kindOf ((p,w)::P.zip vs) m x=_;unfold bindL;exact DM (i:=i) (ab'.mp nd).2 (by simpa using h1) (by simpa using h2) hk
theorem DN{kindOf:Str->Option NameKind}{x:Str}{v:Value}:∀{P:List Str} {vs:List Value} {i:Nat} {m:Str->Option Value},P.Nodup->P[i]? =some x->vs[i]? =some v->kindOf x≠some .local->
 bindC kindOf (P.zip vs) m x=some v
 |[],_,_,_,_,h,_,_=>by simp at h
 |_::_,[],_,_,_,_,h,_=>by simp at h
 |p::P,w::vs,0,m,nd,h1,h2,hk=>by simp at h1 h2;subst h1;subst h2;show bindC kindOf ((p,w)::P.zip vs) m p=_;unfold bindC;rw[DL λv hv=>(ab'.mp nd).1 (adx hv).1,aaO hk];simp
 |p::P,w::vs,i+1,m,nd,h1,h2,hk=>by show bindC kindOf ((p,w)::P.zip vs) m x=_;unfold bindC;exact DN (i:=i) (ab'.mp nd).2 (by simpa using h1) (by simpa using h2) hk
def start(N:List Str)(vs:List V):St:=vs.map some++List.replicate (N.length-vs.length) none
def dP(CX:ig)(P:Program)(w:World)(K:PySem.W.Frag)(mg:Str->Option Value)(base:Heap)(N:List Str)(qual:Str)(scope:Scope)(f:Addr)(cd:Value)(A:Around)(outer:List Env)(s:Shared)(H:Hp)(E:XK):Cx where
 prog:=P
 w:=w
 K:=K
 mg:=mg
 base:=base
 A:=A.deeper (envOfC qual scope s.heap.objs.size f cd)
 N:=N
 dw:=s
 qh:=H
 env:=envOfC qual scope s.heap.objs.size f cd
 outer:=outer
 stack:=envOfC qual scope s.heap.objs.size f cd::outer
 ex:=[]
 calm:=true
 fn:=λ_=>true
 pn:=[]
 xe:=λe s'=>wpAny (model P w) (A.deeper (envOfC qual scope s.heap.objs.size f cd)) (leaving (envOfC qual scope s.heap.objs.size f cd) e) (λ_ wj=>CX outer H s E e wj) (λe' wj=>CX outer H s E e' wj) s'
def Ek{sc:Scope}{n:Nat}{x:Str}(h:sc.names.lookup x=some .cell):∃c,(cellsFrom n sc.names []).lookup x=some c:=by have q:=ad0 sc.names n [] (.inl h);exact ad1.mp q
def K_{CX:ig}{P:Program}{w:World}{K:PySem.W.Frag}{mg:Str->Option Value}{base:Heap}{N ps:List Str}{qual:Str}{scope:Scope}{f:Addr}{cd:Value}{A:Around}{outer:List Env}{s s1:Shared}{H:Hp}{E:XK}{us:List Value}{vs:List V}(S:jP N ps scope)(hd:A.handled=none)(e0:nT P w K mg base A outer s H)(hl:vs.length=ps.length)(r:Vals vs us)(x:InCallC s s.heap.objs.size (bindL (envOfC qual scope s.heap.objs.size f cd).kindOf (ps.zip us) λ_=>none) (cellsFrom (s.heap.objs.size+1) scope.names []) (bindC (envOfC qual scope s.heap.objs.size f cd).kindOf (ps.zip us) λ_=>none) s1):
 Inv (dP CX P w K mg base N qual scope f cd A outer s H E) [] (start N vs) H s1:=by
 have bI:ps.length<=N.length:=by have:=abU List.length S.pre;rw[acs] at this;omega
 obtain⟨h1,tk,rfl,hk⟩:=x.done;have tu:∀b:Addr,b∉(dP CX P w K mg base N qual scope f cd A outer s H E).ex:=λb z=>absurd (show b∈([]:List Addr) from z) (by simp)
 refine⟨⟨e0.mod,S.kind,rfl,rfl,aaY _,λy z c h1 h2=>?_,λy hy=>?_,λy c _ h=>?_,λ_=>hd,Around.frames_deeper e0.frames,.inr ⟨rfl,rfl⟩,λb z=>absurd z (tu b),e0.bs,e0.j3,λb _ _=>tu b,λb z=>absurd z (tu b),e0.hZ,e0.kW⟩,
  rfl,e0.bare,Un.kept hk,⟨_,x.toInCall.ns,λi y v h1 h2 h3=>?_⟩,λy c h=>⟨_,x.cell y c h⟩,e0.aE.fresh (aaY _),λy c h=>?_,λp hp=>absurd (show p∈([]:List (Addr×Obj)) from hp) (by simp),e0.aE.kept hk,?_⟩
 ·exact name_of_addr x.apart (acg h1) (acg h2)
 ·have hy:scope.names.lookup y=some .cell\/scope.names.lookup y=some .free:=hy;rcases hy with hy|hy
  ·exact Ek hy
  ·exact absurd rfl (S.Qq _ (acg hy))
 ·exact acn (x.above y c (acg h))
 ·have hi:i<vs.length:=by
   unfold start at h2;by_cases hi:i<vs.length
   ·exact hi
   ·rw[abW (by simpa using hi)] at h2;rw[ad2] at h2;split at h2<;>cases h2
  have ha:vs[i]? =some v:=by
   unfold start at h2;rw[abM (by simpa using hi),abS] at h2;cases e:vs[i]? with
   |none=>rw[e] at h2;cases h2
   |some a=>rw[e] at h2;cases h2;rfl
  obtain⟨u,hu,rv⟩:=r.get ha;have hp:ps[i]? =some y:=by rw[<-S.pre,ad3 (by omega)];exact h1
  have Hy:ps.Nodup:=by rw[<-S.pre];exact S.nd.sublist (List.take_sublist _ _)
  refine⟨u,rv,?_⟩;rcases S.par y (ab2 hp) with k|k
  ·exact .inl ⟨k,DM Hy hp hu k⟩
  ·obtain⟨c,e⟩:=Ek (n:=s.heap.objs.size+1) k;refine .inr ⟨.inl k,c,e,?_⟩;have q:=x.cell y c e;rw[DN Hy hp hu (by show scope.names.lookup y≠_;rw[k];decide)] at q;exact q
 ·exact e0.aE.fresh (acn (x.above y c (acg h)))
 ·unfold start;show _=N.length;rw[abb,aaV,ady];omega
def Gj{CX:ig}{P:Program}{w:World}{K:PySem.W.Frag}{mg:Str->Option Value}{base:Heap}{k:Nat}{f:Addr}{name qual:Str}{params:Arguments}{body:List Stmt}{scope:Scope}{dV kV doc pm bA ct oc:Value}{an od:Option Addr}{ij:Array (Option Value)}{N ps:List Str}{sp:Sp}(lk:K.lookup f=some ⟨oc,od,.func (PySem.W.fnOf name qual params body scope dV kV doc pm an bA ct),ij⟩)(fM:PySem.W.codeIn K bA qual=true)(S:jP N ps scope)(len:∀vs H Q E,sp vs H Q E->vs.length=ps.length)(AI:∀(A:Around) (outer:List Env) (s:Shared) (H:Hp) (vs:List V) (Q:VK) (E:XK),cq k (A.deeper (envOfC qual scope s.heap.objs.size f bA))->sp vs H Q E->
  ∃t,gP (dP CX P w K mg base N qual scope f bA A outer s H E) body t/\t {nx:=λ_ H'=>Q .ao H',rt:=Q} (start N vs) H):
 fo P w K mg base CX (k+1) f (PySem.W.fnOf name qual params body scope dV kV doc pm an bA ct) ps sp:=by
 refine⟨len,λA outer s H args us vs Q E hr e0 hb r j5=>?_⟩;have hl:=len _ _ _ _ j5;have KX:K.In s.heap:=e0.mod.mI.keeps λb o e=>(e0.bs b o e).1
 have lim:s.heap.NoLimit:=e0.mod.nolimit.keeps λb o e=>(e0.bs b o e).1
 have vw:∀y∈ps.zip us,scope.names.lookup y.1=some .local\/(scope.names.lookup y.1=some .cell/\((cellsFrom (s.heap.objs.size+1) scope.names []).lookup y.1).isSome=true):=λ⟨n,v⟩ hy=>by
  rcases S.par n (adx hy).1 with q|q
  ·exact .inl q
  ·exact .inr ⟨q,ad0 _ _ _ (.inl q)⟩
 refine codeAny_call_function hr.depth (KX _ _ lk) rfl S.co S.gen rfl (PySem.W.codeRec_of KX fM) (hb _ _ _ _ ?_);refine wpAny_newFunctionEnv_cells S.kind vw λenv he s1 x=>?_
 subst he;refine⟨lim.keeps x.toInCall.keep,codeAny_func ?_⟩;obtain⟨t,ht,hq⟩:=AI A outer s H vs Q E (hr.deeper _) j5;have I:Inv (dP CX P w K mg base N qual scope f bA A outer s H E) [] (start N vs) H s1:=K_ S hr.hd e0 hl r x;refine abh (ht [] s1 (start N vs) H _ I hq) (λfl s' hs=>?_) λe s' hs=>hs
 have fin:∀{aA:St} {H':Hp} {v:V} {u:Value},Inv (dP CX P w K mg base N qual scope f bA A outer s H E) [] aA H' s'->RelV v u->Q v H'->CE outer P w H s Q u s':=
  λ{aA H' v u} J rv q=>⟨v,H',J.os,J.bare,J.base,J.aE,rv,q⟩
 cases fl with
 |ret u=>obtain⟨v,aA,H',J,rv,q⟩:=hs;exact fin J rv q
 |next=>obtain⟨aA,H',J,q⟩:=hs;exact fin (v:=V.ao) (u:=Value.none) J rfl q
 |brk=>obtain⟨_,_,_,q⟩:=hs;exact False.elim q
 |cont=>obtain⟨_,_,_,q⟩:=hs;exact False.elim q
section
variable{X:Cx}{x:Str}{p pos:Pos}{e:Expr}{es:List Expr}{t:TA}{id T:String}{r:List V->Hp->VK->Prop}
def Hz(r:List V->Hp->VK->Prop)(t:TA):TE:=λσ H Q=>t σ H λvs H1=>r vs H1 Q
def uB(hc:iY X (.builtin id) r)(hg:Gl X x)(hm:X.mg x=none)(hv:bootBuiltins x=some (.builtin id))(ha:PA X (e::es) t)(hn:x≠"__name__":=by decide)(bO:(x==("__debug__":Str))=false:=by decide)(he:starEach (e::es) X.env=(false,eval e X.env)::starEach es X.env:=by rfl)(bI:(backTo pos (starEach es X.env)).any (·.1)=false:=by rfl):PE X (.Call (.Name x p) (e::es) [] pos) (Hz r t):=by intro pins s σ H Q I h;refine acf (l5 I hg hm hv ?_ hn bO);exact PyProof.Rows.callWith_builtin1 (aK (ha pos pins s σ H _ I h) λus s1 ⟨vs,H1,I1,r1,q1⟩=>hc pins s1 σ H1 vs us Q I1 r1 q1) he bI
def y_(hc:iY X (.type T) r)(hg:Gl X x)(hm:X.mg x=none)(hv:bootBuiltins x=some (.type T))(ha:PA X (e::es) t)(hn:x≠"__name__":=by decide)(bO:(x==("__debug__":Str))=false:=by decide)(he:starEach (e::es) X.env=(false,eval e X.env)::starEach es X.env:=by rfl)(bI:(backTo pos (starEach es X.env)).any (·.1)=false:=by rfl):PE X (.Call (.Name x p) (e::es) [] pos) (Hz r t):=by intro pins s σ H Q I h;refine acf (l5 I hg hm hv ?_ hn bO);exact acE (aK (ha pos pins s σ H _ I h) λus s1 ⟨vs,H1,I1,r1,q1⟩=>hc pins s1 σ H1 vs us Q I1 r1 q1) he bI
end
end L2
namespace HT
open PySem PyProof.Rows
section
open PySem.SeqAt
open PySem.AutoSeq1 (wpAny_loadPart')
open PySem.MeetsSeq PySem.MeetsSeq2 PySem.MeetsSeq3
end
section
variable{prog:Program}{w:World}{A:Around}{E:Value->Shared->Prop}{s:Shared}
def bg(n d:Nat):Option Int->Nat
 |none=>d
 |some v=>if v<0 then(v+(n:Int)).toNat else min v.toNat n
def Qr(n d:Nat)(hd:d<=n)(o:Option Int):bg n d o<=n:=by
 cases o with
 |none=>exact hd
 |some v=>
  show(if v<0 then(v+(n:Int)).toNat else min v.toNat n)<=n;by_cases hv:v<0
  ·rw[aaN hv];omega
  ·rw[aaO hv];exact Nat.min_le_right _ _
def E3(v:Int)(n d:Nat):(if v<0 then max (v+(n:Int)) 0 else min v (n:Int))=((bg n d (some v):Nat):Int):=by
 show(if v<0 then max (v+(n:Int)) 0 else min v (n:Int))=(((if v<0 then(v+(n:Int)).toNat else min v.toNat n):Nat):Int);by_cases hv:v<0
 ·simp only[aaN hv];omega
 ·simp only[aaO hv];omega
def Kp(lo hi:Option Int)(n:Nat):Builtin.Slice.sliceAdjust lo hi 1 (n:Int)=(((bg n 0 lo:Nat):Int),((bg n n hi:Nat):Int)):=by
 have h1:¬((1:Int)<0):=by omega
 unfold Builtin.Slice.sliceAdjust;simp only[h1,aa_];refine Prod.ext ?_ ?_
 ·cases lo with
  |none=>rfl
  |some v=>exact E3 v n 0
 ·cases hi with
  |none=>rfl
  |some v=>exact E3 v n n
def Kq(i j:Nat):Builtin.Slice.slicePlaces (i:Int) (j:Int) 1=j-i:=by
 unfold Builtin.Slice.slicePlaces;have h1:(1:Int)>0:=by omega
 simp only[h1,aaW,Int.ediv_one];split<;>omega
def Dt{v:Value}{o:Option Int}{Q:Option Int->Shared->Prop}(p:IsPart v o)(h:Q o s):wpAny (model prog w) A (Builtin.Slice.slicePartIndex v) Q E s:=by
 cases p with
 |none=>exact slicePart_none h
 |int i t=>exact slicePart_int h
def Ji{sl:Addr}{vl vu:Value}{lo hi:Option Int}{n:Nat}{Q:Int×Int×Nat->Shared->Prop}(hs:s.heap.IsSliceOf sl vl vu .none)(pl:IsPart vl lo)(pu:IsPart vu hi)(h:Q (((bg n 0 lo:Nat):Int),1,bg n n hi-bg n 0 lo) s):wpAny (model prog w) A (Builtin.Slice.sliceApplied (.ref sl) (pure (n:Int))) Q E s:=by obtain⟨os,oj,gQ,wk⟩:=id hs;unfold Builtin.Slice.sliceApplied Builtin.Slice.sliceFields;refine aaS (aaS (wpAny_field oj wk (x:=vl) rfl (aaS (wpAny_field oj wk (x:=vu) rfl (aaS (wpAny_field oj wk (x:=.none) rfl (aa5 ?_)))))));refine aaS (slicePart_none ?_);show wpAny _ _ (if((1:Int)==0)=true then _ else _) _ _ s;rw[aaO (by decide)];refine aaS (Dt pl (aaS (Dt pu (aaS (aa5 ?_)))));show wpAny _ _ (match Builtin.Slice.sliceAdjust lo hi 1 (n:Int) with|(lo,hi)=>pure (lo,(1:Int),Builtin.Slice.slicePlaces lo hi 1)) _ _ s;rw[Kp lo hi n];show wpAny _ _ (pure (((bg n 0 lo:Nat):Int),(1:Int),Builtin.Slice.slicePlaces ((bg n 0 lo:Nat):Int) ((bg n n hi:Nat):Int) 1)) _ _ s;rw[Kq];exact aa5 h
def Ms(xs:Array Value)(i k:Nat):((List.range k).filterMap λ(m:Nat)=>xs[((i:Int)+(m:Int)*1).toNat]?).toArray=((xs.toList.drop i).take k).toArray:=by
 have e:(λ(m:Nat)=>xs[((i:Int)+(m:Int)*1).toNat]?)=λm=>xs[i+m]? :=by
  funext m;have:((i:Int)+(m:Int)*1).toNat=i+m:=by omega
  rw[this]
 rw[e];have:=pick_run xs i k;rw[List.filterMap_map] at this;have e2:((λx=>xs[x]?)∘λx=>i+x)=λm=>xs[i+m]? :=rfl
 rw[e2] at this;rw[this]
def Jg{t sl:Addr}{items:Array Value}{vl vu:Value}{lo hi:Option Int}{Q:Value->Shared->Prop}(ht:IsTup s.heap t items)(hs:s.heap.IsSliceOf sl vl vu .none)(pl:IsPart vl lo)(pu:IsPart vu hi)(hw:¬(bg items.size 0 lo=0/\bg items.size items.size hi=items.size))(h:Q (.ref s.heap.objs.size) {s with heap:=s.heap.push {cls:=.type "tuple",data:=.seq ((items.toList.drop (bg items.size 0 lo)).take (bg items.size items.size hi-bg items.size 0 lo)).toArray}})(hsz:items.size<=sizeLine):wpAny (model prog w) A (getItem (.ref t) (.ref sl)) Q E s:=by
 have vx:sizeOk (.seq ((items.toList.drop (bg items.size 0 lo)).take (bg items.size items.size hi-bg items.size 0 lo)).toArray):=by show((items.toList.drop (bg items.size 0 lo)).take (bg items.size items.size hi-bg items.size 0 lo)).toArray.size<=sizeLine;rw[aa6,acs,ac9,aco];omega
 have hj:bg items.size items.size hi<=items.size:=Qr _ _ (aaY _) hi;obtain⟨os,oj,gQ,wk⟩:=id hs;have UQ:s.TypeIs (.ref sl) "slice":=⟨os,oj,gQ⟩;unfold getItem;try with_reducible refine acD ?_
 first|refine aaS (aa5 ?_)|skip
 refine aaS (wpAny_sequenceKey ht.typeIs (by decide) ?_);refine aaS (wpAny_callSpecial?_slot (name:=Str.ofString "__getitem__") ht.typeIs ac_ (wpAny_call_entry ac_ ht.typeIs entry_tuple_getitem ?_ (args_tuple_getitem _ _)))
 show wpAny _ _ (Builtin.Tuple.tupleItemsOf (.ref t) >>= _) _ _ s;refine aaS (tupleItemsOf_ ht ?_);refine aaS (wpAny_typeOf UQ ?_);rw[aaN (by decide)];refine aaS (Ji hs pl pu ?_);have qC:¬((((bg items.size 0 lo:Nat):Int)==0&&(1:Int)==1&&(bg items.size items.size hi-bg items.size 0 lo)==items.size)=true):=by intro q;rw[aaT,aaT] at q;have q1:((bg items.size 0 lo:Nat):Int)=0:=eq_of_beq q.1.1;have q2:bg items.size items.size hi-bg items.size 0 lo=items.size:=eq_of_beq q.2;exact hw ⟨by omega,by omega⟩
 show wpAny _ _ (if(((bg items.size 0 lo:Nat):Int)==0&&(1:Int)==1&&(bg items.size items.size hi-bg items.size 0 lo)==items.size)=true then _ else _) _ _ s;rw[aaO qC,Ms];first
  |exact aaS (m:=Builtin.Tuple.tupleExact _) (acO (aa5 ⟨_,rfl,aa5 h⟩) vx)
  |exact aaS (m:=Builtin.Tuple.tupleExact _) (acO (aaS (aa5 (aa5 ⟨_,rfl,aa5 h⟩))) vx)
  |exact aaS (aaS (m:=Builtin.Tuple.tupleExact _) (acO (aa5 (aa5 ⟨_,rfl,aa5 h⟩)) vx))
  |exact aaS (aaS (m:=Builtin.Tuple.tupleExact _) (acO (aa5 ⟨_,rfl,aa5 h⟩) vx))
end
end HT
namespace L2
open PySem PySem.Spec PyProof.Rows
abbrev TO:=St->Hp->(Option Int->Hp->Prop)->Prop
def PO(X:Cx)(e:Option Expr)(t:TO):Prop:=
 ∀(pins:List (Addr×Obj)) (s:Shared) (σ:St) (H:Hp) (Q:Option Int->Hp->Prop),Inv X pins σ H s->t σ H Q->
  wpAny (model X.prog X.w) X.A (evalPart e X.env) (λu s'=>∃o H',Inv X pins σ H' s'/\IsPart u o/\Q o H') X.xe s
def Oe:TO:=λ_ H Q=>Q none H
def Sm(t:TE):TO:=λσ H Q=>t σ H λx H1=>∃i,x=.int i/\Q (some i) H1
def intsAre_of{ns:List Int}:∀{us:List Value},Vals (ns.map V.int) us->IntsAre us ns:=by
 induction ns with
 |nil=>intro us r;rw[abJ] at r;cases r;exact .nil
 |cons n ns ih=>
  intro us r;rw[aa8] at r;cases r with
  |cons r1 r2=>obtain⟨t,e⟩:=r1;subst e;exact .cons n t (ih r2)
section
variable{X:Cx}{e:Expr}{te:TE}{lo hi:Option Expr}{tl th:TO}{pos p2:Pos}
def Of:PO X none Oe:=by intro pins s σ H Q I h;rw[evalPart_none];exact aa5 ⟨none,H,I,.none,h⟩
def Og(h:PE X e te):PO X (some e) (Sm te):=by
 intro pins s σ H Q I hw;rw[evalPart_some];refine aK (h pins s σ H _ I hw) λu s1 ⟨x,H1,I1,r1,q1⟩=>?_
 obtain⟨i,rfl,q⟩:=q1;obtain⟨t,rfl⟩:=r1;exact⟨some i,H1,I1,.int i t,q⟩
def mK(X:Cx)(r:V->Option Int->Option Int->Hp->VK->Prop):Prop:=
 ∀(pins:List (Addr×Obj)) (s:Shared) (σ:St) (H:Hp) (x:V) (v vl vu:Value) (lo hi:Option Int) (sl:Addr) (Q:VK),Inv X pins σ H s->RelV x v->s.heap.IsSliceOf sl vl vu .none->IsPart vl lo->IsPart vu hi->r x lo hi H Q->
  ∃T id,typeLookup (.type T) "__getitem__"=pure (some (.builtin id))/\s.TypeIs v T/\wpAny (model X.prog X.w) X.A (getItem v (.ref sl)) (EP X pins σ Q) X.xe s
def mK.or{r r':V->Option Int->Option Int->Hp->VK->Prop}(h:mK X r)(h':mK X r'):mK X (λx lo hi H Q=>r x lo hi H Q\/r' x lo hi H Q):=by
 intro pins s σ H x v vl vu lo hi sl Q I rx hs pl pu q;rcases q with q|q
 ·exact h pins s σ H x v vl vu lo hi sl Q I rx hs pl pu q
 ·exact h' pins s σ H x v vl vu lo hi sl Q I rx hs pl pu q
def UR(r:V->Option Int->Option Int->Hp->VK->Prop)(te:TE)(tl th:TO):TE:=λσ H Q=>te σ H λx H1=>tl σ H1 λl H2=>th σ H2 λu H3=>r x l u H3 Q
def Mt{r:V->Option Int->Option Int->Hp->VK->Prop}(hr:mK X r)(he:PE X e te)(hl:PO X lo tl)(hu:PO X hi th):PE X (.Subscript e (.Slice lo hi none p2) pos) (UR r te tl th):=by
 intro pins s σ H Q I h;refine Subscript_ (aK (he pins s σ H _ I h) λv s1 ⟨x,H1,I1,r1,q1⟩=>?_);refine wpAny_Slice (aK (hl pins s1 σ H1 _ I1 q1) λvl s2 ⟨l,H2,I2,pl,q2⟩=>aK (hu pins s2 σ H2 _ I2 q2) λvu s3 ⟨u,H3,I3,pu,q3⟩=>?_);rw[evalPart_none];refine aa5 ?_;have I4:Inv X pins σ H3 {s3 with heap:=s3.heap.push {cls:=.type "slice",data:=.fields #[vl,vu,.none]}}:=I3.kept (t':=s3.toks) λb ob q=>abd _ q
 obtain⟨T,id,hT,ht,hg⟩:=hr pins {s3 with heap:=s3.heap.push {cls:=.type "slice",data:=.fields #[vl,vu,.none]}} σ H3 x v vl vu l u s3.heap.objs.size Q I4 r1 (Heap.IsSliceOf.new ..) pl pu q3;show wpAny (model X.prog X.w) X.A (subscriptTail e (.Slice lo hi none p2) v (.ref s3.heap.objs.size)) (EP X pins σ Q) X.xe {s3 with heap:=s3.heap.push {cls:=.type "slice",data:=.fields #[vl,vu,.none]}};exact tail_any (ops:=[.ref s3.heap.objs.size,v]) ht hT hg (by with_unfolding_all rfl)
def mx(xs:List V)(lo hi:Option Int):List V:=(xs.drop (HT.bg xs.length 0 lo)).take (HT.bg xs.length xs.length hi-HT.bg xs.length 0 lo)
def Dm(xs:List V)(lo hi:Option Int):(mx xs lo hi).length<=xs.length:=by unfold mx;rw[acs,ac9];omega
def TU(K:PySem.W.Frag):V->Option Int->Option Int->Hp->VK->Prop:=λx lo hi H Q=>∃a xs,x=.ref a/\d0 K H a xs/\
 ¬(HT.bg xs.length 0 lo=0/\HT.bg xs.length xs.length hi=xs.length)/\∀p,H p=none->Q (.ref p) (upd H p (.tup (mx xs lo hi)))
def Qs:mK X (TU X.K):=by
 intro pins s σ H x v vl vu lo hi sl Q I rx hs pl pu h;obtain⟨a,xs,rfl,hx,hw,q⟩:=h;cases rx;obtain⟨au,r,ht,hz⟩:=I.tuple hx;have hlen:au.toArray.size=xs.length:=by rw[aa6];exact r.length.symm
 refine⟨"tuple",_,ac_.lookup,ht.typeIs,?_⟩;refine HT.Jg ht hs pl pu (by rw[hlen];exact hw) ?_ (by rw[hlen];exact hz);rw[hlen];refine⟨.ref s.heap.objs.size,_,I.laid (t':=s.toks) (o:=.tup (mx xs lo hi)) (λb ob q=>abd _ q) (aaY _) ?_,rfl,q _ (I.aE.fresh (aaY _))⟩;exact⟨aa1 (Dm xs lo hi) hz,_,(r.drop (HT.bg xs.length 0 lo)).take (HT.bg xs.length xs.length hi-HT.bg xs.length 0 lo),IsTup.new _ _⟩
end
def cK(n:Nat)(i:Int):Option Nat:=if 0<=i then(if i<n then some i.toNat else none) else if-(n:Int)<=i then some (i+n).toNat else none
def cR{α:Type}(xs:List α)(i:Int):Option α:=(cK xs.length i).bind λj=>xs[j]?
def E4{n:Nat}{i:Int}{j:Nat}(h:cK n i=some j):seqIndex? i n=some j/\j<n/\ -(n:Int)<=i/\i<n:=by
 unfold cK at h;by_cases h0:0<=i
 ·rw[aaN h0] at h;by_cases h1:i<n
  ·rw[aaN h1] at h;have e:i.toNat=j:=aa2 h;exact⟨by rw[seqIndex_of h0 h1,e],by omega,by omega,h1⟩
  ·rw[aaO h1] at h;cases h
 ·rw[aaO h0] at h;by_cases h1: -(n:Int)<=i
  ·rw[aaN h1] at h;have e:(i+n).toNat=j:=aa2 h;exact⟨by rw[seqIndex_neg (by omega) h1,e],by omega,h1,by omega⟩
  ·rw[aaO h1] at h;cases h
def E5{α:Type}{xs:List α}{i:Int}{v:α}(h:cR xs i=some v):∃j,seqIndex? i xs.length=some j/\xs[j]? =some v/\j<xs.length/\ -(xs.length:Int)<=i/\i<xs.length:=by
 unfold cR at h;cases e:cK xs.length i with
 |none=>rw[e] at h;cases h
 |some j=>rw[e] at h;obtain⟨h1,h2,h3,h4⟩:=E4 e;exact⟨j,h1,h,h2,h3,h4⟩
def E6(b:Expr):Prop:=∀o i,subscripted b false o i=operate [o,i] (getItem o i)
def om(X:Cx)(r:R2):Prop:=
 ∀(value slice:Expr) (pins:List (Addr×Obj)) (s:Shared) (σ:St) (H:Hp) (x y:V) (v u:Value) (Q:VK),Inv X pins σ H s->RelV x v->RelV y u->r x y H Q->
  subscripted slice false v u=operate [v,u] (getItem v u)->wpAny (model X.prog X.w) X.A (subscriptTail value slice v u) (EP X pins σ Q) X.xe s
def j6(X:Cx)(id:String)(r:V->List V->Hp->VK->Prop):Prop:=
 ∀(pins:List (Addr×Obj)) (s:Shared) (σ:St) (H:Hp) (x:V) (xs:List V) (v:Value) (us:List Value) (Q:VK),Inv X pins σ H s->RelV x v->Vals xs us->r x xs H Q->
  wpAny (model X.prog X.w) X.A (call (.builtin id) (v::us)) (EP X pins σ Q) X.xe s
section
variable{X:Cx}{a b:Expr}{ta tb:TE}{pos:Pos}
def om.or{r r':R2}(h:om X r)(h':om X r'):om X (λx y H Q=>r x y H Q\/r' x y H Q):=by
 intro value slice pins s σ H x y v u Q I rx ry q hs;rcases q with q|q
 ·exact h value slice pins s σ H x y v u Q I rx ry q hs
 ·exact h' value slice pins s σ H x y v u Q I rx ry q hs
def j6.or{id:String}{r r':V->List V->Hp->VK->Prop}(h:j6 X id r)(h':j6 X id r'):j6 X id (λx xs H Q=>r x xs H Q\/r' x xs H Q):=by
 intro pins s σ H x xs v us Q I rx rs q;rcases q with q|q
 ·exact h pins s σ H x xs v us Q I rx rs q
 ·exact h' pins s σ H x xs v us Q I rx rs q
def Sn{r:R2}(hr:om X r)(ha:PE X a ta)(hb:PE X b tb)(hs:E6 b):PE X (.Subscript a b pos) (we r ta tb):=by intro pins s σ H Q I h;exact Subscript_ (A2 ha hb I h λv u s2 x y H2 I2 rx ry q=>hr a b pins s2 σ H2 x y v u Q I2 rx ry q (hs _ _))
def TV(K:PySem.W.Frag):R2:=λx y H Q=>∃p xs i v,x=.ref p/\y=.int i/\cc K H p xs/\cR xs i=some v/\Q v H
def TX(K:PySem.W.Frag):R2:=λx y H Q=>∃p xs i v,x=.ref p/\y=.int i/\d0 K H p xs/\cR xs i=some v/\Q v H
def Oh:om X (TV X.K):=by
 intro value slice pins s σ H x y v u Q I rx ry h hs;obtain⟨p,xs,i,z,rfl,rfl,hq,he,q⟩:=h;cases rx;obtain⟨t,rfl⟩:=ry;obtain⟨au,r,pl,hz⟩:=I.list hq;obtain⟨j,h1,h2,h3,h4,h5⟩:=E5 he;obtain⟨w,ew,dE⟩:=r.get h2;have hl:=r.length;have hn:=u4;have fin:EP X pins σ Q w s:=⟨z,H,I,dE,q⟩;by_cases h0:0<=i
 ·have hj:i.toNat=j:=by rw[seqIndex_of h0 h5] at h1;exact aa2 h1
  exact item_listR pl.isList h0 (by omega) (by rw[hj];simpa using ew) fin hs
 ·have hj:(i+(au.toArray.size:Int)).toNat=j:=by rw[seqIndex_neg (by omega) h4] at h1;rw[aa6,<-hl];exact aa2 h1
  exact subscriptTail_builtinR (x:=w) pl.isList.typeIs slot_list_getitem.lookup (wpAny_getItem_list_neg (Q:=λr s'=>r=w/\EP X pins σ Q r s') pl.isList (by omega) (by rw[aa6]<;>omega) (by omega) (by rw[hj];simpa using ew) ⟨rfl,fin⟩) hs
def Qt:om X (TX X.K):=by intro value slice pins s σ H x y v u Q I rx ry h hs;obtain⟨p,xs,i,z,rfl,rfl,hq,he,q⟩:=h;cases rx;obtain⟨t,rfl⟩:=ry;obtain⟨au,r,pl,hz⟩:=I.tuple hq;obtain⟨j,h1,h2,h3,h4,h5⟩:=E5 he;obtain⟨w,ew,dE⟩:=r.get h2;have hl:=r.length;have hn:=u4;have fin:EP X pins σ Q w s:=⟨z,H,I,dE,q⟩;exact subscriptTail_builtinR (x:=w) pl.typeIs ac_.lookup (getItem_tuple (j:=j) (Q:=λr s'=>r=w/\EP X pins σ Q r s') pl (by omega) (by omega) (by rw[aa6,<-hl];exact h1) (by simpa using ew) ⟨rfl,fin⟩) hs
def Kr(au:List Value)(n j:Nat)(u:Value):Obj.mapSeq (·.setIfInBounds j u) {cls:=.type "list",data:=.seq au.toArray n}={cls:=.type "list",data:=.seq (au.set j u).toArray n}:=by simp[Obj.mapSeq]
def Inv.lst{pins:List (Addr×Obj)}{σ:St}{H:Hp}{s:Shared}{p:Addr}{xs:List V}(I:Inv X pins σ H s)(h:H p=some (.lst xs)):
 ∃(au:List Value) (n:Nat),Vals xs au/\s.heap.get? p=some {cls:=.type "list",data:=.seq au.toArray n}/\xs.length<=sizeLine:=by
 obtain⟨z,au,n,r,e⟩:=I.aE p _ h;exact⟨au,n,r,e,z⟩
def Inv.Qu{pins:List (Addr×Obj)}{σ:St}{H:Hp}{s:Shared}{p:Addr}{xs ys:List V}{au its':List Value}{n n':Nat}{f:Obj->Obj}(I:Inv X pins σ H s)(h:H p=some (.lst xs))(ho:s.heap.get? p=some {cls:=.type "list",data:=.seq au.toArray n})(hf:f {cls:=.type "list",data:=.seq au.toArray n}={cls:=.type "list",data:=.seq its'.toArray n'})(r:Vals ys its')(hz:ys.length<=sizeLine)(t:Nat):
 Inv X pins σ (upd H p (.lst ys)) {s with heap:=s.heap.update p f,toks:=t}:=by
 have e:(s.heap.update p f).get? p=some {cls:=.type "list",data:=.seq its'.toArray n'}:=by rw[Heap.get?_update_self f ho (by rw[hf]<;>rfl),hf]
 refine I.write (x:=p) (e:=p) (by rw[h];trivial) (.inl rfl) (λb u hb q=>(ac' _ _ (abc hb)).trans q) ⟨_,e⟩ ?_;exact⟨hz,its',n',r,e⟩
def So:V->V->V->Hp->(Hp->Prop)->Prop:=λo i v H Q=>∃p xs k j,o=.ref p/\i=.int k/\H p=some (.lst xs)/\cK xs.length k=some j/\Q (upd H p (.lst (xs.set j v)))
def set_list:GN X So:=by
 intro pins s σ H o i v ov iv u Q I ro ri rv h;obtain⟨p,xs,k,j,rfl,rfl,hp,hj,q⟩:=h;cases ro;obtain⟨t,rfl⟩:=ri;obtain⟨au,n,r,ho,hz⟩:=I.lst hp;obtain⟨h1,h2,h3,h4⟩:=E4 hj;have hl:=r.length;have hn:=u4;have I':Inv X pins σ (upd H p (.lst (xs.set j v))) {s with heap:=s.heap.update p (Obj.mapSeq (·.setIfInBounds j u))}:=
  I.Qu hp ho (Kr au n j u) (r.set rv j) (by rw[abN];exact hz) s.toks
 by_cases h0:0<=k
 ·have hk:k.toNat=j:=by rw[seqIndex_of h0 h4] at h1;exact aa2 h1
  exact PySem.W.ki_setAt ho h0 (by omega) (by rw[aa6,<-hl];exact h4) (by rw[hk];exact⟨_,I',q⟩)
 ·have hk:(k+(au.toArray.size:Int)).toNat=j:=by rw[seqIndex_neg (by omega) h3] at h1;rw[aa6,<-hl];exact aa2 h1
  exact PySem.W.ki_setBack ho (by omega) (by rw[aa6,<-hl];exact h3) (by omega) (by rw[hk];exact⟨_,I',q⟩)
def JG(lo hi:Option Int)(n:Nat):(sliceBounds lo hi none n).1=((HT.bg n 0 lo:Nat):Int)/\(sliceBounds lo hi none n).2.1=((HT.bg n n hi:Nat):Int)/\(sliceBounds lo hi none n).2.2=1:=by
 refine⟨?_,?_,rfl⟩
 ·cases lo with
  |none=>simp[sliceBounds,HT.bg]
  |some i=>
   simp only[sliceBounds,HT.bg,Option.getD_none,show(1:Int)>0 by decide,aaW];by_cases h:i<0
   ·simp only[h,aaW]<;>omega
   ·simp only[h,aa_]<;>omega
 ·cases hi with
  |none=>simp[sliceBounds,HT.bg]
  |some i=>
   simp only[sliceBounds,HT.bg,Option.getD_none,show(1:Int)>0 by decide,aaW];by_cases h:i<0
   ·simp only[h,aaW]<;>omega
   ·simp only[h,aa_]<;>omega
def Jw(au:List Value)(lo hi:Option Int):slicePick au.toArray lo hi none=((au.drop (HT.bg au.length 0 lo)).take (HT.bg au.length au.length hi-HT.bg au.length 0 lo)).toArray:=by obtain⟨h1,h2,h3⟩:=JG lo hi au.toArray.size;unfold slicePick;rw[h1,h2,h3];simp only[sliceRange_one,pick_run,aa6]<;>rfl
def TY(K:PySem.W.Frag):V->Option Int->Option Int->Hp->VK->Prop:=λx lo hi H Q=>∃a xs,x=.ref a/\cc K H a xs/\∀p,H p=none->Q (.ref p) (upd H p (.lst (mx xs lo hi)))
def Oi:mK X (TY X.K):=by intro pins s σ H x v vl vu lo hi sl Q I rx hs pl pu h;obtain⟨a,xs,rfl,hx,q⟩:=h;cases rx;obtain⟨au,r,ht,hz⟩:=I.list hx;have hlen:=r.length;refine⟨"list",_,slot_list_getitem.lookup,ht.isList.typeIs,?_⟩;refine wpAny_getItem_list_slice ht.isList hs pl pu .none (by simp) ?_ (by rw[aa6]<;>omega);rw[Jw,<-hlen];refine⟨.ref s.heap.objs.size,_,I.laid (t':=s.toks) (o:=.lst (mx xs lo hi)) (λb ob q=>abd _ q) (aaY _) ?_,rfl,q _ (I.aE.fresh (aaY _))⟩;exact⟨aa1 (Dm xs lo hi) hz,_,0,(r.drop (HT.bg xs.length 0 lo)).take (HT.bg xs.length xs.length hi-HT.bg xs.length 0 lo),abE _ rfl⟩
def eu:V->Bool
 |.ao=>true
 |.bl _=>true
 |.int _=>true
 |.str _=>true
 |_=>false
def dF:V->V->Bool
 |.ao,.ao=>true
 |.bl a,.bl b=>a==b
 |.bl a,.int b=>(if a then 1 else 0)==b
 |.int a,.bl b=>a==(if b then 1 else 0)
 |.int a,.int b=>a==b
 |.str a,.str b=>a==b
 |_,_=>false
def u6{A:Around}{s:Shared}{y x:V}{u v:Value}(ry:RelV y u)(rx:RelV x v)(fy:eu y=true)(fx:eu x=true):SeqAt.EqAt A s u v (dF y x):=by
 cases y with
 |ao=>
  cases ry;cases x with
  |ao=>cases rx;exact SeqAt.EqAt.same _
  |bl b=>cases rx;exact SeqAt.EqAt.none_bool b
  |int b=>obtain⟨t,rfl⟩:=rx;exact SeqAt.EqAt.none_int b t
  |str b=>obtain⟨t,rfl⟩:=rx;exact SeqAt.EqAt.none_str b t
  |_=>exact absurd (show false=true from fx) aa4
 |bl a=>
  cases ry;cases x with
  |ao=>cases rx;exact SeqAt.EqAt.bool_none a
  |bl b=>cases rx;exact SeqAt.EqAt.bool_bool a b
  |int b=>obtain⟨t,rfl⟩:=rx;exact SeqAt.EqAt.bool_int a b t
  |str b=>obtain⟨t,rfl⟩:=rx;exact SeqAt.EqAt.bool_str a b t
  |_=>exact absurd (show false=true from fx) aa4
 |int a=>
  obtain⟨t',rfl⟩:=ry;cases x with
  |ao=>cases rx;exact SeqAt.EqAt.int_none a t'
  |bl b=>cases rx;exact SeqAt.EqAt.int_bool a t' b
  |int b=>obtain⟨t,rfl⟩:=rx;exact SeqAt.EqAt.int_int a t' b t
  |str b=>obtain⟨t,rfl⟩:=rx;exact SeqAt.EqAt.int_str a t' b t
  |_=>exact absurd (show false=true from fx) aa4
 |str a=>
  obtain⟨t',rfl⟩:=ry;cases x with
  |ao=>cases rx;exact SeqAt.EqAt.str_none a t'
  |bl b=>cases rx;exact SeqAt.EqAt.str_bool a t' b
  |int b=>obtain⟨t,rfl⟩:=rx;exact SeqAt.EqAt.str_int a t' b t
  |str b=>obtain⟨t,rfl⟩:=rx;exact SeqAt.EqAt.str_str a t' b t
  |_=>exact absurd (show false=true from fx) aa4
 |_=>exact absurd (show false=true from fy) aa4
def fZ(x:V)(u:Value):Bool:=match u with
 |.none=>dF .ao x
 |.bool b=>dF (.bl b) x
 |.int i _=>dF (.int i) x
 |.str z _=>dF (.str z) x
 |_=>false
def Aq{x y:V}{u:Value}(r:RelV y u)(f:eu y=true):fZ x u=dF y x:=by
 cases y with
 |ao=>cases r;rfl
 |bl b=>cases r;rfl
 |int i=>obtain⟨t,rfl⟩:=r;rfl
 |str z=>obtain⟨t,rfl⟩:=r;rfl
 |_=>exact absurd (show false=true from f) aa4
theorem sd{x:V}:∀{xs:List V} {us:List Value},Vals xs us->xs.all eu=true->us.any (fZ x)=xs.any λy=>dF y x
 |_,_,.nil,_=>rfl
 |y::xs,u::us,.cons r t,f=>by rw[abX,aaT] at f;rw[abB,abB,Aq r f.1,sd t f.2]
theorem pE{A:Around}{s:Shared}{x:V}{v:Value}(rx:RelV x v)(fx:eu x=true):∀{xs:List V} {us:List Value},Vals xs us->xs.all eu=true->∀u∈us,SeqAt.EqAt A s u v (fZ x u)
 |_,_,.nil,_=>λu hu=>by cases hu
 |y::xs,u::us,.cons r t,f=>λu' hu=>by
  rw[abX,aaT] at f;rcases aaX.mp hu with rfl|hu
  ·rw[Aq r f.1];exact u6 r rx f.1 fx
  ·exact pE rx fx t f.2 u' hu
def qD(x:V)(xs:List V):Bool:=xs.any λy=>dF y x
def HA(K:PySem.W.Frag)(neg:Bool):R2:=λx y H Q=>∃p xs,y=.ref p/\(cc K H p xs\/d0 K H p xs)/\eu x=true/\xs.all eu=true/\Q (.bl (if neg then !qD x xs else qD x xs)) H
def K':cu X (compareOp .In) (HA X.K false):=by
 intro pins s σ H x y v u Q I rx ry h;obtain⟨p,xs,rfl,hq,fx,fs,q⟩:=h;cases ry;rcases hq with hq|hq
 ·obtain⟨au,r,pl,hz⟩:=I.list hq;refine SeqAt.in_listAt (fZ x) pl.isList (λw hw=>pE rx fx r fs w (by simpa using hw)) ⟨.bl _,H,I,rfl,?_⟩;rw[show au.toArray.any (fZ x)=au.any (fZ x) by simp,sd r fs];exact q
 ·obtain⟨au,r,pl,hz⟩:=I.tuple hq;refine SeqAt.in_tupleAt (fZ x) pl (λw hw=>pE rx fx r fs w (by simpa using hw)) ⟨.bl _,H,I,rfl,?_⟩;rw[show au.toArray.any (fZ x)=au.any (fZ x) by simp,sd r fs];exact q
def JH:cu X (compareOp .NotIn) (HA X.K true):=by
 intro pins s σ H x y v u Q I rx ry h;obtain⟨p,xs,rfl,hq,fx,fs,q⟩:=h;cases ry;rcases hq with hq|hq
 ·obtain⟨au,r,pl,hz⟩:=I.list hq;refine SeqAt.notIn_listAt (fZ x) pl.isList (λw hw=>pE rx fx r fs w (by simpa using hw)) ⟨.bl _,H,I,rfl,?_⟩;rw[show au.toArray.any (fZ x)=au.any (fZ x) by simp,sd r fs];exact q
 ·obtain⟨au,r,pl,hz⟩:=I.tuple hq;refine SeqAt.notIn_tupleAt (fZ x) pl (λw hw=>pE rx fx r fs w (by simpa using hw)) ⟨.bl _,H,I,rfl,?_⟩;rw[show au.toArray.any (fZ x)=au.any (fZ x) by simp,sd r fs];exact q
def JI:iY X (.builtin "len") (λxs H Q=>∃p ys,xs=[.ref p]/\(cc X.K H p ys\/d0 X.K H p ys)/\Q (.int ys.length) H):=by
 intro pins s σ H xs us Q I r h;obtain⟨p,ys,rfl,hq,q⟩:=h;obtain⟨u,rfl,rx⟩:=vals1 r;cases rx;have hn:=u4;rcases hq with hq|hq
 ·obtain⟨au,r',pl,hz⟩:=I.list hq;have hlen:=r'.length;exact Calls.call_len_list pl.isList (by simp only[aa6]<;>omega) ⟨.int ys.length,H,I.tok _,⟨s.toks+1,by rw[aa6,hlen]⟩,q⟩
 ·obtain⟨au,r',pl,hz⟩:=I.tuple hq;have hlen:=r'.length;exact len_tuple pl (by simp only[aa6]<;>omega) ⟨.int ys.length,H,I.tok _,⟨s.toks+1,by rw[aa6,hlen]⟩,q⟩
def JJ:iY X (.type "list") (λxs H Q=>∃p ys,xs=[.ref p]/\(cc X.K H p ys\/d0 X.K H p ys)/\∀l,H l=none->Q (.ref l) (upd H l (.lst ys))):=by
 intro pins s σ H xs us Q I r h;obtain⟨p,ys,rfl,hq,q⟩:=h;obtain⟨u,rfl,rx⟩:=vals1 r;cases rx;have fin:∀(au:List Value),Vals ys au->ys.length<=sizeLine->∀(h':Heap) (c':Nat),(∀b o',s.heap.get? b=some o'->h'.get? b=some o')->
  h'.get? s.heap.objs.size=some {cls:=.type "list",dict:=none,data:=.seq au.toArray c',slots:= #[]}->EP X pins σ Q (.ref s.heap.objs.size) {s with heap:=h'}:=λau r' hz h' c' kp e=>
  ⟨.ref s.heap.objs.size,_,I.laid (t':=s.toks) kp (aaY _) (show c7 X.prog X.w _ h' _ (.lst ys) from⟨hz,au,c',r',e⟩),rfl,q _ (I.aE.fresh (aaY _))⟩
 rcases hq with hq|hq
 ·obtain⟨au,r',pl,hz⟩:=I.list hq;have hlen:=r'.length;obtain⟨o,ho,hc,n,hd⟩:=pl.isList;exact call_list_seq p (.inl rfl) ho hc hd (λh' c' kp e=>fin au r' hz h' c' kp e) (by simp only[aa6]<;>omega)
 ·obtain⟨au,r',pl,hz⟩:=I.tuple hq;have hlen:=r'.length;obtain⟨o,ho,hc,n,hd⟩:=pl;exact call_list_seq p (.inr rfl) ho hc hd (λh' c' kp e=>fin au r' hz h' c' kp e) (by simp only[aa6]<;>omega)
def Bx(K:PySem.W.Frag)(T:String)(x:V)(H:Hp):Prop:=match x with
 |.str _=>T="str"
 |.int _=>T="int"
 |.ref p=>(T="list"/\∃xs,cc K H p xs)\/(T="tuple"/\∃o,K.lookup p=some o/\o.cls=.type "tuple"/\o.dict=none)\/ (T="dict"/\((∃kvs,H p=some (.dK kvs))\/∃kvs,H p=some (.dT kvs)))\/(T="set"/\∃S n,H p=some (.set S n))
 |_=>False
def FN{pins:List (Addr×Obj)}{σ:St}{H:Hp}{s:Shared}{T:String}{x:V}{v:Value}(I:Inv X pins σ H s)(r:RelV x v)(ty:Bx X.K T x H):
 s.TypeIs v T/\∀a,v=.ref a->∃ob,s.heap.get? a=some ob/\ob.dict=none:=by
 cases x with
 |str z=>obtain⟨t,rfl⟩:=r;cases(show T="str" from ty);exact⟨typeIs_str s z t,λ_ e=>nomatch e⟩
 |int i=>obtain⟨t,rfl⟩:=r;cases(show T="int" from ty);exact⟨typeIs_int s i t,λ_ e=>nomatch e⟩
 |ref p=>
  cases r;rcases ty with⟨rfl,xs,hq⟩|⟨rfl,o,hk,hc,hd⟩|⟨rfl,hk⟩|⟨rfl,S,n,hk⟩
  ·obtain⟨au,_,pl,_⟩:=I.list hq;refine⟨pl.isList.typeIs,λa e=>?_⟩;cases e;obtain⟨o,n,e,c,hd,_⟩:=pl;exact⟨o,e,hd⟩
  ·refine⟨⟨o,I.eS p o hk,hc⟩,λa e=>?_⟩;cases e;exact⟨o,I.eS _ o hk,hd⟩
  ·have z:∃o,s.heap.get? p=some o/\o.ExactDict:=by
    rcases hk with⟨kvs,hk⟩|⟨kvs,hk⟩
    ·obtain⟨_,_,_,_,o,_,_,e,ex,_⟩:=I.aE p _ hk;exact⟨o,e,ex⟩
    ·obtain⟨_,_,_,_,o,_,_,e,ex,_⟩:=I.aE p _ hk;exact⟨o,e,ex⟩
   obtain⟨o,e,ex⟩:=z;refine⟨⟨o,e,ex.1⟩,λa e2=>?_⟩;cases e2;exact⟨o,e,ex.2.1⟩
  ·obtain⟨o,_,_,_,e,ex,_⟩:=I.aE p _ hk;refine⟨⟨o,e,ex.1⟩,λa e2=>?_⟩;cases e2;exact⟨o,e,ex.2.1⟩
 |_=>exact False.elim ty
def TZ(K:PySem.W.Frag)(T:String)(r:V->List V->Hp->VK->Prop)(to:TE):TE:=λσ H Q=>to σ H λx H1=>Bx K T x H1/\r x [] H1 Q
def US(K:PySem.W.Frag)(T:String)(r:V->List V->Hp->VK->Prop)(to:TE)(t:TA):TE:=λσ H Q=>to σ H λx H1=>Bx K T x H1/\t σ H1 λxs H2=>r x xs H2 Q
variable{o e:Expr}{es:List Expr}{to:TE}{t:TA}{name:Str}{apos a9:Pos}{T id:String}{r:V->List V->Hp->VK->Prop}
def Qw(pa:PlainAttrs T)(slot:Slot T name id)(oo:typeOf (.builtin id)=pure (.type "method_descriptor"))(hm:j6 X id r)(ho:PE X o to)(nH:attributeBase o name X.env (eval o X.env)=eval o X.env:=by rfl)(nI:(apos.endLine==a9.line)=true:=by rfl):PE X (.Call (.Attribute o name apos) [] [] a9) (TZ X.K T r to):=by intro pins s σ H Q I h;refine wpAny_Call_method0_late nH nI (aK (ho pins s σ H _ I h) λv s1 ⟨x,H1,I1,r1,ty,q1⟩=>?_);obtain⟨h1,h2⟩:=FN I1 r1 ty;exact⟨T,id,pa,slot,oo,h1,h2,acu rfl (PySem.evalArgs_none (hm pins s1 σ H1 x [] v [] Q I1 r1 .nil q1))⟩
def Sq(pa:PlainAttrs T)(slot:Slot T name id)(oo:typeOf (.builtin id)=pure (.type "method_descriptor"))(hm:j6 X id r)(ho:PE X o to)(ha:PA X (e::es) t)(nH:attributeBase o name X.env (eval o X.env)=eval o X.env:=by rfl)(A5:((backTo a9 (starEach (e::es) X.env)).all (λx=>!x.1)&&(backToKw a9 (keywordEach [] X.env)).all (λx=>x.1.isSome)
  &&decide ((e::es).length+([]:List Keyword).length+(if([]:List Keyword).isEmpty then 0 else 1)<30))=true:=by rfl)
 (nI:(apos.endLine==a9.line)=true:=by rfl) (hs:starEach (e::es) X.env=(false,eval e X.env)::starEach es X.env:=by rfl) (Ar:(backTo a9 (starEach es X.env)).any (·.1)=false:=by rfl):
 PE X (.Call (.Attribute o name apos) (e::es) [] a9) (US X.K T r to t):=by
 intro pins s σ H Q I h;refine wpAny_Call_method_late nH A5 nI rfl (aK (ho pins s σ H _ I h) λv s1 ⟨x,H1,I1,r1,ty,q1⟩=>?_);obtain⟨h1,h2⟩:=FN I1 r1 ty;refine⟨T,id,pa,slot,oo,h1,h2,?_⟩;have hA:=ha a9 pins s1 σ H1 _ I1 q1;rw[hs] at hA⊢;refine acu (by show(false||(backTo a9 (starEach es X.env)).any (·.1))=false;rw[Ar]<;>rfl) (acF ?_);exact aK hA λus s2 ⟨vs,H2,I2,r2,q2⟩=>hm pins s2 σ H2 x vs v us Q I2 r1 r2 q2
end
def By(X:Cx)(id:String)(r:V->List V->Hp->VK->Prop):Prop:=
 ∀(pins:List (Addr×Obj)) (s:Shared) (σ:St) (H:Hp) (x:V) (xs:List V) (v:Value) (us:List Value) (Q:VK),Inv X pins σ H s->RelV x v->Vals xs us->r x xs H Q->
  wpAny (model X.prog X.w) X.A (call (.builtin id) (v::us)) (EP X pins σ Q) X.xe s
theorem Vals.one:∀{x:V} {us:List Value},Vals [x] us->∃u,us=[u]/\RelV x u
 |_,_,.cons r .nil=>⟨_,rfl,r⟩
theorem Vals.zero:∀{us:List Value},Vals [] us->us=[]
 |_,.nil=>rfl
def Vals.dropLast{xs:List V}{us:List Value}(h:Vals xs us):Vals xs.dropLast us.dropLast:=by
 induction h with
 |nil=>exact .nil
 |cons r t ih=>
  cases t with
  |nil=>exact .nil
  |cons q t'=>exact .cons r ih
def Ks{α:Type}(l:List α):l.eraseIdx (l.length-1)=l.dropLast:=by
 induction l with
 |nil=>rfl
 |cons a r ih=>
  cases r with
  |nil=>rfl
  |cons b r=>
   have e:(a::b::r).length-1=((b::r).length-1)+1:=by have h1:(a::b::r).length=r.length+2:=rfl;have h2:(b::r).length=r.length+1:=rfl;omega
   rw[e,List.eraseIdx_cons_succ,ih];all_goals rfl
section
variable{X:Cx}{pins:List (Addr×Obj)}{σ:St}{H:Hp}{s:Shared}{l b:Addr}{xs ys zs:List V}
def Inv.vL{au its':List Value}{n:Nat}{f:Array Value->Array Value}{t':Nat}(I:Inv X pins σ H s)(hH:H l=some (.lst xs))(e:s.heap.get? l=some {cls:=.type "list",data:=.seq au.toArray n})(hf:f au.toArray=its'.toArray)(hv:Vals ys its')(hz:ys.length<=sizeLine):
 Inv X pins σ (upd H l (.lst ys)) {s with heap:=s.heap.update l (Obj.mapSeq f),toks:=t'}:=by
 have q:=PySem.IsL.update e f;rw[hf] at q;refine I.write (x:=l) (e:=l) (by rw[hH];exact trivial) (.inl rfl) (λb' u hb hu=>(ac' s.heap (Obj.mapSeq f) (abc hb)).trans hu) ⟨_,q⟩ ?_;exact⟨hz,its',_,hv,q⟩
def Inv.T4{au:List Value}{t':Nat}(I:Inv X pins σ H s)(hv:Vals ys au)(hz:ys.length<=sizeLine):
 Inv X pins σ (upd H s.heap.objs.size (.lst ys)) {s with heap:=s.heap.push {cls:=.type "list",data:=.seq au.toArray},toks:=t'}:=
 I.laid (λ_ _ q=>abd _ q) (aaY _) ⟨hz,au,0,hv,abE _ rfl⟩
def Inv.fresh(I:Inv X pins σ H s):H s.heap.objs.size=none:=I.aE.fresh (aaY _)
def Inv.my(I:Inv X pins σ H s)(hH:H l=some (.lst xs)):xs.length<=sizeLine/\∃(au:List Value) (n:Nat),Vals xs au/\xs.length=au.length/\s.heap.get? l=some {cls:=.type "list",data:=.seq au.toArray n}:=by obtain⟨z,au,n,r,e⟩:=I.aE l _ hH;exact⟨z,au,n,r,r.length,e⟩
def El{n:Nat}(h:n<=sizeLine):Builtin.List.listTooLong n=false:=by unfold Builtin.List.listTooLong;exact abm (by omega)
end
section
variable{X:Cx}
def Oj:V->List V->Hp->VK->Prop:=λx vs H Q=>∃l xs y,x=.ref l/\vs=[y]/\H l=some (.lst xs)/\xs.length<sizeLine/\Q .ao (upd H l (.lst (xs++[y])))
def La:By X "list.append" Oj:=by intro pins s σ H x vs v us Q I rx rv h;obtain⟨l,xs,y,rfl,rfl,hH,hz,q⟩:=h;cases rx;obtain⟨u,rfl,ru⟩:=rv.one;obtain⟨z,au,n,r,hl,e⟩:=I.my hH;refine acG adz ⟨_,e,rfl⟩ F.entry_list_append (F.args_list_append_2 _ _) (PySem.list_append l au.toArray n u (by rw[aa6];omega)) ⟨e,?_⟩;refine⟨.ao,_,I.vL (its':=au++[u]) hH e (by simp) (r.append (.cons ru .nil)) ?_,rfl,q⟩;rw[abb,adA];omega
def Ol:V->List V->Hp->VK->Prop:=λx vs H Q=>∃l b xs zs,x=.ref l/\vs=[.ref b]/\H l=some (.lst xs)/\H b=some (.lst zs)/\xs.length+zs.length<=sizeLine/\Q .ao (upd H l (.lst (xs++zs)))
def Lb:By X "list.extend" Ol:=by
 intro pins s σ H x vs v us Q I rx rv h;obtain⟨l,b,xs,zs,rfl,rfl,hH,hB,hz,q⟩:=h;cases rx;obtain⟨u,rfl,ru⟩:=rv.one;cases ru;obtain⟨z,au,n,r,hl,e⟩:=I.my hH;obtain⟨z2,cP,n2,r2,tw,e2⟩:=I.my hB;have hsz:au.toArray.size+cP.toArray.size<=sizeLine:=by rw[aa6,aa6];omega
 have AJ:¬(!au.toArray.isEmpty&&Builtin.List.listTooLong (au.toArray.size+cP.toArray.size))=true:=by rw[El hsz,abO];exact aa4
 refine acG adB ⟨_,e,rfl⟩ F.entry_list_extend (F.args_list_extend_2 _ _) (AutoSeq1.list_extend_list_list_0 l au.toArray n b cP.toArray n2 AJ (by rw[aa6];omega) (by omega)) ⟨e,e2,?_⟩
 refine⟨.ao,_,I.vL (its':=au++cP) hH e (by simp) (r.append r2) ?_,rfl,q⟩;rw[abb];omega
def T5:V->List V->Hp->VK->Prop:=λx vs H Q=>∃l xs y,x=.ref l/\vs=[]/\H l=some (.lst xs)/\xs[xs.length-1]? =some y/\Q y (upd H l (.lst xs.dropLast))
def Qx:By X "list.pop" T5:=by
 intro pins s σ H x vs v us Q I rx rv h;obtain⟨l,xs,y,rfl,rfl,hH,hy,q⟩:=h;cases rx;have Bz:=rv.zero;subst Bz;obtain⟨z,au,n,r,hl,e⟩:=I.my hH;obtain⟨u,hu,ru⟩:=r.get hy;have UT:au.toArray[au.toArray.size-1]? =some u:=by show au.toArray[au.length-1]? =some u;rw[<-ada,<-hl];exact hu
 refine acG F.slot_list_pop ⟨_,e,rfl⟩ F.entry_list_pop (F.args_list_pop_1 _) (MeetsSeq.list_pop_last l au.toArray n u UT (by rw[aa6];omega)) ⟨e,?_⟩;refine⟨y,_,I.vL (its':=au.dropLast) hH e ?_ r.dropLast ?_,ru,q⟩
 ·show au.toArray.eraseIdxIfInBounds (au.toArray.size-1)=au.dropLast.toArray;rw[aa6,List.eraseIdxIfInBounds_toArray,Ks]
 ·rw[List.length_dropLast];omega
def T6:R2:=λx y H Q=>∃l b xs zs,x=.ref l/\y=.ref b/\H l=some (.lst xs)/\H b=some (.lst zs)/\xs.length+zs.length<=sizeLine/\∀p,H p=none->Q (.ref p) (upd H p (.lst (xs++zs)))
def Qy:cu X (binaryOp .Add) T6:=by
 intro pins s σ H x y v u Q I rx ry h;obtain⟨l,b,xs,zs,rfl,rfl,hH,hB,hz,q⟩:=h;cases rx;cases ry;obtain⟨z,au,n,r,hl,e⟩:=I.my hH;obtain⟨z2,cP,n2,r2,tw,e2⟩:=I.my hB;refine PySem.P.add_list e e2 ?_ (by rw[aa6,aa6];omega);have ea:au.toArray++cP.toArray=(au++cP).toArray:=by simp
 rw[ea];exact⟨.ref _,_,I.T4 (t':=s.toks) (r.append r2) (by rw[abb];omega),rfl,q _ I.fresh⟩
end
section
variable{prog:Program}{w:World}{A:Around}{E:Value->Shared->Prop}{s:Shared}
set_option maxRecDepth 100000 in
end
section
variable{X:Cx}
end
end L2
namespace HB
open PySem PySem.W PySem.Calls PyProof.Rows
def Jj{P:Params}{h:Heap}:∀(ns:List Int) (vs:List Value),WellAll P h vs (ns.map WData.int)->IntsAre vs ns:=by
 intro ns;induction ns with
 |nil=>intro vs w;rw[abJ] at w;cases w;exact .nil
 |cons n ns ih=>
  intro vs w;rw[aa8] at w;cases w with
  |cons a b=>cases a;exact .cons _ _ (ih _ b)
def Lc{l:OpenLaw}{n:Nat}(hn:l.most=some n){P:Params}{h:Heap}{args:List WData}{vals:List Value}(vM:l.row.toRowW.claim.pre args=true)(dS:WellAll P h vals args):
 ∃a vs ns,vals=[Value.ref a]/\args=[WData.list (ns.map WData.int)]/\h.get? a=some {cls:=.type "list",data:=.seq vs.toArray}/\IntsAre vs ns/\ns.length<=n:=by
 have BA:WShape.hasAll [] args [.list .int]=true:=(pre_splitW vM).1;have hc:l.pre.holds [] {args:=args}=true:=(pre_splitW vM).2;obtain⟨d,r,rfl,h1,h2⟩:=hasAllW_cons BA;obtain rfl:=hasAllW_nil h2;obtain⟨xs,rfl,h3⟩:=hasW_list h1;obtain⟨ns,rfl⟩:=items_int h3;have hlen:ns.length<=n:=by
  unfold OpenLaw.pre at hc;have h4:(WTm.not (.lt (.lit (.int (n:Int))) (.len (.arg 0)))).holds [] {args:=[.list (ns.map .int)]}=true:=by have h4:=(holds_andW hc).1;rw[hn] at h4;exact h4
  have h5:=condW_of h4 (w_not (w_lt w_lit (w_len_list (w_arg rfl))));rw[aaV] at h5;refine acP λq=>?_
  have q':(n:Int)<((ns.length:Nat):Int):=by omega
  first
   |(rw[abF q'] at h5;exact absurd h5 (by decide))
   |(simp at h5;omega)
 cases dS with
 |cons w1 w2=>
  cases w2;cases w1 with
  |list ho T7=>exact⟨_,_,ns,rfl,rfl,ho,Jj ns _ T7,hlen⟩
def Ld(l:OpenLaw)(args:List WData):l.row.toRowW.claim.post args (.bool true) args=true:=
 postW_of (r:=l.row.toRowW) (X:=(true==true)) (show WShape.has [] (.bool true) .bool=true by first|rfl|decide|simp[WShape.has,WShape.arms,WShape.armsAll]) (show(WTm.eq .res (.lit (.bool true))).value [] {args:=args,res:=some (.bool true),after:=args}=some (.bool (true==true)) from w_eq_bool (w_res rfl) w_lit) rfl
def J0{l:OpenLaw}{n:Nat}{q:Program}{loose:List Str}{XP:(Str->Option Value)->Heap->Prop}{YP:World->Heap->Prop}{d:DefRec}(hn:l.most=some n)(j7:d.params.defaults=[])(call:∀(w:World) (dw bD:Shared) (mg mb:Str->Option Value) (fa:Addr) (o:Obj) (pm cd doc:Value) (a:Addr) (vs:List Value) (ns:List Int),
  Ground q loose [] XP w dw mg mb bD.heap->YP w bD.heap->
  bD.heap.get? fa=some o->o.data=.func (docDef d.name d.params d.body d.scope pm cd doc)->bD.heap.CodeRec cd d.name->mg d.name=some (.ref fa)->
  bD.heap.get? a=some {cls:=.type "list",data:=.seq vs.toArray}->IntsAre vs ns->ns.length<=n->bD.gens= #[]->
  codeAny (model l.prog w) callerA (.call (.ref fa) ⟨[.ref a],[]⟩) (λr s'=>r=.ok (.ret (.bool true))/\OldK bD.heap s'.heap/\s'.os=bD.os/\AllBare s'.gens) bD):
 WalkO q loose XP YP l.row.toRowW d [] (λf vs=>PySem.call f vs):=by
 intro w dw bD mg mb G Y fa o pm cd doc dV kV ho hd fM hD oq hg args vals as vM ZF ZO dS ZP;obtain rfl:dV=.none:=Dflts.none hD j7;obtain rfl:kV=.none:=Dflts.noKw hD;obtain⟨a,vs,ns,rfl,rfl,A6,hints,hlen⟩:=Lc hn vM dS;refine enter_call (acM (call w dw bD mg mb fa o pm cd doc a vs ns G Y ho (fd_plain hd) fM oq A6 hints hlen hg) λr s' hq=>?_);obtain⟨rfl,h2,h3,h4⟩:=hq;exact⟨.inl ⟨.bool true,.bool true,[],rfl,λ_=>rfl,.bool true,Ld l _,λ_=>⟨List.Pairwise.nil,λ_ hm=>(nomatch hm)⟩⟩,h2,h3,h4⟩
section
variable{prog:Program}{w:World}{A:Around}{E:Value->Shared->Prop}{s:Shared}{K:Frag}
end
end HB
namespace L2
open PySem PySem.Spec PyProof.Rows
theorem DO:∀{vs:List Value} {ns:List Int},IntsAre vs ns->Vals (ns.map V.int) vs
 |_,_,.nil=>.nil
 |_,_,.cons n t h=>.cons ⟨t,rfl⟩ (DO h)
def A7(H:Hp):Prop:=∀b,H b=none\/∃o xs,H b=some (.bf o (.lst xs))
def Mu{P:Program}{w:World}{K:PySem.W.Frag}{mg mb:Str->Option Value}{CX:ig}{k:Nat}{fa a:Addr}{fd:FuncData}{x:Str}{sp:Sp}{bD:Shared}{vs:List Value}{ns:List Int}(KX:K.In bD.heap)(HC:bD.heap.Ns mainGlobals mg)(hb:bD.heap.Ns builtinsNs mb)(UU:∀x:Str,x≠"__name__"->mb x=bootBuiltins x)(A8:bD.heap.NoLimit)(hg:bD.gens= #[])(ha:bD.heap.get? a=some {cls:=.type "list",data:=.seq vs.toArray})(hi:IntsAre vs ns)(hl:ns.length<=sizeLine)(hr:cq k callerA)(F:∀base:Heap,K.In base->base.Ns mainGlobals mg->fo P w K mg base CX k fa fd [x] sp)(Sr:∀(s:Shared) (u:Value),BindsTo s fd ⟨[u],[]⟩ [(x,u)])(j5:∀H:Hp,A7 H->cc K H a (ns.map V.int)->sp [.ref a] H (λv _=>v=.bl true) λ_ _ _=>False)(BB:∀H e s',CX [] H bD (λ_ _ _=>False) e s'->False):
 codeAny (model P w) callerA (.call (.ref fa) ⟨[.ref a],[]⟩) (λr s'=>r=.ok (.ret (.bool true))/\OldK bD.heap s'.heap/\s'.os=bD.os/\AllBare s'.gens) bD:=by
 have rv:=DO hi;have T8:=hi.length;have core:∀H:Hp,A7 H->cc K H a (ns.map V.int)->cC P w H bD.heap->(∀b,H b≠none->b=a)->(H a≠none->K.lookup a=none)->
  codeAny (model P w) callerA (.call (.ref fa) ⟨[.ref a],[]⟩) (λr s'=>r=.ok (.ret (.bool true))/\OldK bD.heap s'.heap/\s'.os=bD.os/\AllBare s'.gens) bD:=by
  intro H hO hS aE hA hK;have E7:∀{b:Addr} {o:Obj},bD.heap.get? b=some o->H b=none->(kN bD.heap H).get? b=some o:=λe n=>Mh e n
  have tu:∀{b:Addr} {o:Obj} {es:Array DictEntry} {ep:Nat},bD.heap.get? b=some o->o.data=.dict es ep->H b=none:=λ{b o es ep} e d=>by
   cases q:H b with
   |none=>rfl
   |some u=>have e':b=a:=hA b (by rw[q];simp);subst e';rw[ha] at e;cases e;have d':Data.seq vs.toArray _=Data.dict es ep:=d;cases d'
  have wm:∀{b:Addr} {m:Str->Option Value},bD.heap.Ns b m->(kN bD.heap H).Ns b m:=λ{b m} ⟨o,es,ep,e,d,r⟩=>⟨o,es,ep,E7 e (tu e d),d,r⟩
  have HD:K.In (kN bD.heap H):=λb o e=>E7 (KX b o e) (by
   cases q:H b with
   |none=>rfl
   |some u=>have e':b=a:=hA b (by rw[q];simp);subst e';rw[hK (by rw[q];simp)] at e;cases e)
  have hM:Mod K mg (kN bD.heap H):=⟨HD,wm HC,⟨mb,wm hb,UU⟩,let⟨mc,h1,h2⟩:=A8;⟨mc,wm h1,h2⟩⟩;have e0:nT P w K mg (kN bD.heap H) callerA [] bD H:=⟨rfl,hM,λb o e=>NV e,adu (KZ _ _),trivial,λb hb=>absurd (show b∈([]:List Addr) from hb) (by simp),aE,.of_eq hg⟩;refine acM ((F _ HD (wm HC)).run callerA [] bD H ⟨[.ref a],[]⟩ [.ref a] [.ref a] _ _ hr e0 (Sr bD (.ref a)) (.cons rfl .nil) (j5 H hO hS)) λr s' h=>?_
  cases r with
  |error e=>exact(BB H e s' h).elim
  |ok fl=>
   cases fl with
   |next=>exact False.elim h
   |brk=>exact False.elim h
   |cont=>exact False.elim h
   |ret u=>
    obtain⟨v,H',os,bare,un,T9,r',q⟩:=h;have q':v=.bl true:=q;subst q';obtain rfl:u=Value.bool true:=r';refine⟨rfl,OldK.of_keep λb o e=>?_,os,bare⟩;cases q:H b with
    |none=>exact un.keep b o e q (by intro z;exact absurd (show b∈([]:List Addr) from z) (by simp)) (by simp)
    |some u=>
     rcases hO b with z|⟨ob,xs,z⟩
     ·rw[q] at z;cases z
     ·have z2:=un.gp b ob _ z;obtain⟨e1,_⟩:=aE b _ z;obtain⟨e2,_⟩:=T9 b _ z2;rw[e] at e1;cases e1;exact e2
 cases hk:K.lookup a with
 |some o=>have e:=KX a o hk;rw[ha] at e;cases e;refine core (λ_=>none) (λ_=>.inl rfl) (.inr ⟨_,vs.toArray,_,hk,rfl,rfl,rfl,by rw[aa6,T8];exact hl,by simpa using rv⟩) (λb u z=>by have z':(none:Option HO)=some u:=z;cases z') (λb z=>absurd rfl z) λz=>absurd rfl z
 |none=>
  refine core (λb=>if b=a then some (.bf {cls:=.type "list",data:=.seq vs.toArray} (.lst (ns.map V.int))) else none) (λb=>?_) (.inl (.inr ⟨{cls:=.type "list",data:=.seq vs.toArray},aaN rfl⟩)) (λb u z=>?_) (λb z=>?_) λ_=>hk
  ·by_cases hb:b=a
   ·exact .inr ⟨_,_,aaN hb⟩
   ·exact .inl (aaO hb)
  ·by_cases hb:b=a
   ·have z':=(aaN hb).symm.trans z;cases z';subst hb;exact⟨ha,by rw[aaV];exact hl,vs,_,rv,ha⟩
   ·have z':=(aaO hb).symm.trans z;cases z'
  ·by_cases hb:b=a
   ·exact hb
   ·exact absurd (aaO hb) z
def Om{l:PySem.W.OpenLaw}{n k:Nat}{q:Program}{loose:List Str}{XP:(Str->Option Value)->Heap->Prop}{YP:World->Heap->Prop}{d:DefRec}{K:Params->PySem.W.Frag}{CX:World->ig}{sp:World->Sp}{x:Str}(hn:l.most=some n)(ic:n<=sizeLine)(j7:d.params.defaults=[])(hr:cq k callerA)(hY:∀(w:World) (h:Heap),YP w h->(K w.params).In h)(F:∀(w:World) (mg:Str->Option Value) (fa:Addr) (h:Heap),(K w.params).In h->h.Ns mainGlobals mg->mg d.name=some (.ref fa)->
  ∃fd:FuncData,(∀(s:Shared) (u:Value),BindsTo s fd ⟨[u],[]⟩ [(x,u)])/\
   ∀base:Heap,(K w.params).In base->base.Ns mainGlobals mg->fo l.prog w (K w.params) mg base (CX w) k fa fd [x] (sp w))
 (j5:∀(w:World) (H:Hp) (a:Addr) (ns:List Int),ns.length<=n->A7 H->cc (K w.params) H a (ns.map V.int)->sp w [.ref a] H (λv _=>v=.bl true) λ_ _ _=>False)
 (BB:∀(w:World) (H:Hp) (s:Shared) (e:Value) (s':Shared),CX w [] H s (λ_ _ _=>False) e s'->False):
 PySem.W.WalkO q loose XP YP l.row.toRowW d [] (λf vs=>PySem.call f vs):=by
 refine HB.J0 hn j7 λw dw bD mg mb fa o pm cd doc a vs ns G Y ho hd fM oq A6 hints hlen hg=>?_
 have KX:=hY w _ Y;obtain⟨fd,hb,hF⟩:=F w mg fa _ KX G.T.g oq;exact Mu KX G.T.g G.T.b G.T.builtins G.T.nolimit hg A6 hints (aa1 hlen ic) hr hF hb (λH hO hS=>j5 w H a ns hlen hO hS) λH e s'=>BB w H bD e s'
def inClass(s:Stmt)(j:Nat):Stmt:=match s with
 |.ClassDef _ _ _ body _ _ _ _ _ _ _=>body.getD j (.Pass ⟨0,0,0,0⟩)
 |_=>.Pass ⟨0,0,0,0⟩
def nu(s:Stmt):Arguments:=match s with
 |.FunctionDef _ a _ _ _ _ _ _ _ _=>a
 |_=>{posonlyargs:=[],args:=[],vararg:=none,kwonlyargs:=[],kw_defaults:=[],kwarg:=none,defaults:=[]}
def iW(s:Stmt):List Stmt:=match s with
 |.FunctionDef _ _ b _ _ _ _ _ _ _=>b
 |_=>[]
def c_(s:Stmt):Scope:=match s with
 |.FunctionDef _ _ _ _ _ _ sc _ _ _=>sc
 |_=>{kind:=.function,names:=[],isGenerator:=false,isCoroutine:=false}
abbrev ik:ig:=λ_ _ _ _ _ _=>False
abbrev E0:XK:=λ_ _ _=>False
def vy{X:Cx}:Passes ik X E0:=λ_ _ _ _ _ _ _ h=>h.elim
structure jr(K:PySem.W.Frag)(x qual:Str)(st:Stmt)(f:Addr)(fd:FuncData):Prop where
 ex:∃(oc:Value) (od:Option Addr) (kV doc pm:Value) (an:Option Addr) (bA ct:Value) (ij:Array (Option Value)),
  fd=PySem.W.fnOf x qual (nu st) (iW st) (c_ st) .none kV doc pm an bA ct/\K.lookup f=some ⟨oc,od,.func fd,ij⟩/\PySem.W.codeIn K bA qual=true
 kp:PySem.W.keepIn K (.ref f)=true
section
variable{P:Program}{w:World}{K:PySem.W.Frag}{mg:Str->Option Value}{base:Heap}
def jr.ok{x qual:Str}{st:Stmt}{f:Addr}{fd:FuncData}{N ps:List Str}{k:Nat}{sp:Sp}(F:jr K x qual st f fd)(S:jP N ps (c_ st))(len:∀vs H Q E,sp vs H Q E->vs.length=ps.length)(AI:∀(bA:Value) (A:Around) (outer:List Env) (s:Shared) (H:Hp) (vs:List V) (Q:VK) (E:XK),cq k (A.deeper (envOfC qual (c_ st) s.heap.objs.size f bA))->sp vs H Q E->
  ∃t,gP (dP ik P w K mg base N qual (c_ st) f bA A outer s H E).eU (iW st) t/\t {nx:=λ_ H'=>Q .ao H',rt:=Q} (start N vs) H):fo P w K mg base ik (k+1) f fd ps sp:=by
 obtain⟨oc,od,kV,doc,pm,an,bA,ct,ij,rfl,lk,fM⟩:=F.ex;refine Gj lk fM S len λA outer s H vs Q E hr j5=>?_
 obtain⟨t,h,q⟩:=AI bA A outer s H vs Q E hr j5;exact⟨t,h.eU,q⟩
def jr.binds{x qual:Str}{st:Stmt}{f:Addr}{fd:FuncData}{ps:List Str}(F:jr K x qual st f fd)(h:∀(kV doc pm:Value) (an:Option Addr) (bA ct:Value) (us:List Value),us.length=ps.length->bindArgs (PySem.W.fnOf x qual (nu st) (iW st) (c_ st) .none kV doc pm an bA ct) ⟨us,[]⟩=pure (ps.zip us)):Binds K fd ps []:=by obtain⟨oc,od,kV,doc,pm,an,bA,ct,ij,rfl,lk,fM⟩:=F.ex;exact .all (h kV doc pm an bA ct)
def FO{x qual:Str}{st:Stmt}{f:Addr}{oc:Value}{od an:Option Addr}{ij:Array (Option Value)}{kV doc pm bA ct:Value}(l:K.lookup f=some ⟨oc,od,.func (PySem.W.fnOf x qual (nu st) (iW st) (c_ st) .none kV doc pm an bA ct),ij⟩)(c:PySem.W.codeIn K bA qual=true)(k:PySem.W.keepIn K (.ref f)=true):jr K x qual st f (PySem.W.fnOf x qual (nu st) (iW st) (c_ st) .none kV doc pm an bA ct):=⟨⟨oc,od,kV,doc,pm,an,bA,ct,ij,rfl,l,c⟩,k⟩
end
def vz{A:Around}{k:Nat}(hr:cq k A):A.units+1<cLine:=Nat.lt_of_le_of_lt (Nat.add_le_add_left (by decide:1<=64) _) hr.units
section
variable{X:Cx}
def pv(i:Nat){x:Str}{pos:Pos}(hN:X.N[i]? =some x:=by rfl)(hv:qy X.env.scope x:=by first|exact Or.inl rfl|exact Or.inr (Or.inl rfl)|exact Or.inr (Or.inr rfl))(hd:(x==("__debug__":Str))=false:=by decide)(fM:(x==("__classdict__":Str))=false:=by decide):PE X (.Name x pos) (AZ i):=An hN hv hd fM
end
section
variable{κ:Type}[DecidableEq κ]
def de(kvs:List (κ×V))(k:κ):Option V:=(kvs.find? λkv=>decide (kv.1=k)).map (·.2)
def putK(kvs:List (κ×V))(k:κ)(v:V):List (κ×V):=
 if(kvs.any λkv=>decide (kv.1=k))=true then kvs.map (λkv=>if kv.1=k then(kv.1,v) else kv) else kvs++[(k,v)]
def mm(kvs:List (κ×V))(k:κ):List (κ×V):=kvs.filter λkv=>decide (kv.1≠k)
def uC{p:κ×V}{r:List (κ×V)}{k:κ}(e:p.1=k):de (p::r) k=some p.2:=by simp[de,ab3,e]
def uD{p:κ×V}{r:List (κ×V)}{k:κ}(e:¬p.1=k):de (p::r) k=de r k:=by simp[de,ab3,e]
theorem zw(k:κ):∀kvs:List (κ×V),(kvs.any λkv=>decide (kv.1=k))=(de kvs k).isSome
 |[]=>rfl
 |p::r=>by
  rw[abB];by_cases e:p.1=k
  ·simp only[uC e,abF e,ach,adb]
  ·rw[uD e,abm e,ab4];exact zw k r
def yP(kvs:List (κ×V))(k:κ)(v:V):(putK kvs k v).length<=kvs.length+1:=by
 unfold putK;split
 ·rw[aaV];omega
 ·rw[abb,abq,aca];omega
def fk.uk{o:Option V}{u:Option Value}(r:fk o u):o.isSome=u.isSome:=by
 cases o with
 |none=>cases u with
  |none=>rfl
  |some _=>exact(show False from r).elim
 |some _=>cases u with
  |none=>exact(show False from r).elim
  |some _=>rfl
def fk.getD{o:Option V}{u:Option Value}{d:V}{d':Value}(r:fk o u)(rd:RelV d d'):RelV (o.getD d) (u.getD d'):=by
 cases o with
 |none=>cases u with
  |none=>exact rd
  |some _=>exact(show False from r).elim
 |some _=>cases u with
  |none=>exact(show False from r).elim
  |some _=>exact r
def KV.val{kvs:List (κ×V)}{vs:List (κ×Value)}(r:KV kvs vs)(k:κ):fk (de kvs k) (valueAt vs k):=by
 unfold KV at r;induction r with
 |nil=>exact True.intro
 | @cons p q ps qs h t ih=>
   obtain⟨h1,h2⟩:=h;by_cases e:p.1=k
   ·have e':q.1=k:=h1.symm.trans e;have b:valueAt (q::qs) k=some q.2:=by simp[valueAt,ab3,e']
    rw[uC e,b];exact h2
   ·have e':¬q.1=k:=λz=>e (h1.trans z)
    have b:valueAt (q::qs) k=valueAt qs k:=by simp[valueAt,ab3,e']
    rw[uD e,b];exact ih
def KV.any{kvs:List (κ×V)}{vs:List (κ×Value)}(r:KV kvs vs)(k:κ):(kvs.any λkv=>decide (kv.1=k))=vs.any λkv=>decide (kv.1=k):=by
 unfold KV at r;induction r with
 |nil=>rfl
 |cons h t ih=>rw[abB,abB,ih,h.1]
def KV.sG{kvs:List (κ×V)}{vs:List (κ×Value)}(r:KV kvs vs)(k:κ){y:V}{u:Value}(ry:RelV y u):
 KV (kvs.map λkv=>if kv.1=k then(kv.1,y) else kv) (vs.map λkv=>if kv.1=k then(kv.1,u) else kv):=by
 unfold KV at r⊢;induction r with
 |nil=>exact .nil
 | @cons p q ps qs h t ih=>
   rw[aa8,aa8];refine .cons ?_ ih;obtain⟨h1,h2⟩:=h;by_cases e:p.1=k
   ·rw[aaN e,aaN (h1.symm.trans e)];exact⟨h1,ry⟩
   ·rw[aaO e,aaO (λz=>e (h1.trans z))];exact⟨h1,h2⟩
def KV.put{kvs:List (κ×V)}{vs:List (κ×Value)}(r:KV kvs vs)(k:κ){y:V}{u:Value}(ry:RelV y u):KV (putK kvs k y) (stored vs k u):=by
 unfold putK stored;rw[r.any k];by_cases e:(vs.any λkv=>decide (kv.1=k))=true
 ·rw[aaN e,aaN e];exact r.sG k ry
 ·rw[aaO e,aaO e];exact Paired.snoc r ⟨rfl,ry⟩
def KV.drop{kvs:List (κ×V)}{vs:List (κ×Value)}(r:KV kvs vs)(k:κ):KV (mm kvs k) (without vs k):=by
 unfold KV at r⊢;unfold mm without;induction r with
 |nil=>exact .nil
 | @cons p q ps qs h t ih=>
   obtain⟨h1,h2⟩:=h;rw[ab5,ab5];by_cases e:p.1=k
   ·have a:¬decide (p.1≠k)=true:=by simp[e]
    have b:¬decide (q.1≠k)=true:=by simp[h1.symm.trans e]
    rw[aaO a,aaO b];exact ih
   ·have e':¬q.1=k:=λz=>e (h1.trans z)
    have a:decide (p.1≠k)=true:=by simp[e]
    have b:decide (q.1≠k)=true:=by simp[e']
    rw[aaN a,aaN b];exact .cons ⟨h1,h2⟩ ih
def KV.length{kvs:List (κ×V)}{vs:List (κ×Value)}(r:KV kvs vs):kvs.length=vs.length:=Paired.length r
def Em(kvs:List (κ×V))(k:κ):(mm kvs k).length<=kvs.length:=abK _ _
end
def kM{P:Program}{w:World}{k:Key}{u:Value}(r:RelV (kV k) u):(dB P w).is k u=true:=by
 cases k with
 |inl i=>obtain⟨t,e⟩:=(show∃t,u=Value.int i t from r);subst e;exact JY P w i t
 |inr x=>obtain⟨t,e⟩:=(show∃t,u=Value.str x t from r);subst e;exact JZ P w x t
theorem DP{P:Program}{w:World}:∀{ks:List Key} {us:List Value},Vals (ks.map kV) us->ItemsAre (dB P w) ks us
 |[],_,r=>by rw[abJ] at r;cases r;exact .nil
 |k::ks,_,r=>by
  rw[aa8] at r;cases r with
  |cons h t=>exact .cons (kM h) (DP t)
abbrev KT(H:Hp):List (List Key×V)->List (List Key×Addr×Value)->Prop:=Paired λp q=>p.1=q.1/\H q.2.1=some (.tup (p.1.map kV))/\RelV p.2 q.2.2
def KT.val{H:Hp}{kvs:List (List Key×V)}{xs:List (List Key×Addr×Value)}(r:KT H kvs xs)(k:List Key):fk (de kvs k) ((atKey xs k).map (·.2)):=by
 induction r with
 |nil=>exact True.intro
 | @cons p q ps qs h t ih=>
   obtain⟨h1,_,h2⟩:=h;by_cases e:p.1=k
   ·have e':q.1=k:=h1.symm.trans e;have b:atKey (q::qs) k=some q.2:=by simp[atKey,ab3,e']
    rw[uC e,b];exact h2
   ·have e':¬q.1=k:=λz=>e (h1.trans z)
    have b:atKey (q::qs) k=atKey qs k:=by simp[atKey,ab3,e']
    rw[uD e,b];exact ih
def KT.sG{H:Hp}{kvs:List (List Key×V)}{xs:List (List Key×Addr×Value)}(r:KT H kvs xs)(k:List Key){y:V}{u:Value}(ry:RelV y u):
 KT H (kvs.map λkv=>if kv.1=k then(kv.1,y) else kv) (xs.map (putAt k u)):=by
 induction r with
 |nil=>exact .nil
 | @cons p q ps qs h t ih=>
   rw[aa8,aa8];refine .cons ?_ ih;obtain⟨h1,h2,h3⟩:=h;unfold putAt;by_cases e:p.1=k
   ·rw[aaN e,aaN (h1.symm.trans e)];exact⟨h1,h2,ry⟩
   ·rw[aaO e,aaO (λz=>e (h1.trans z))];exact⟨h1,h2,h3⟩
def KT.put{H:Hp}{kvs:List (List Key×V)}{xs:List (List Key×Addr×Value)}(r:KT H kvs xs)(k:List Key){b:Addr}{y:V}{u:Value}(hb:H b=some (.tup (k.map kV)))(ry:RelV y u):
 KT H (putK kvs k y) (storedH xs k b u):=by
 have e:(kvs.any λkv=>decide (kv.1=k))=(atKey xs k).isSome:=by rw[zw,(r.val k).uk,adC]
 unfold putK storedH;rw[e];by_cases q:(atKey xs k).isSome=true
 ·rw[aaN q,aaN q];exact r.sG k ry
 ·rw[aaO q,aaO q];exact Paired.snoc r ⟨rfl,hb,ry⟩
def KT.keeps{H H':Hp}{kvs:List (List Key×V)}{xs:List (List Key×Addr×Value)}(r:KT H kvs xs)(ht:∀b ys,H b=some (.tup ys)->H' b=some (.tup ys)):KT H' kvs xs:=
 Paired.AY r λ_ _ z=>⟨z.1,ht _ _ z.2.1,z.2.2⟩
section
variable{P:Program}{w:World}{H:Hp}{h:Heap}{a:Addr}
def Gk{u:HO}(ok:cC P w H h)(e:Rd H a u):c7 P w H h a u:=e.ok ok
def nJ{kvs:List (Key×V)}(ok:cC P w H h)(e:Rd H a (.dK kvs)):kvs.length<=sizeLine/\(a==sysModules)=false/\∃vs,KV kvs vs/\h.DictOf (dB P w) a vs:=
 show c7 P w H h a (.dK kvs) from Gk ok e
def so{kvs:List (Key×V)}(ok:cC P w H h)(e:H a=some (.dK kvs)):kvs.length<=sizeLine/\(a==sysModules)=false/\∃vs,KV kvs vs/\h.DictOf (dB P w) a vs:=nJ ok (.inl e)
def pW{ks:List Key}(ok:cC P w H h)(e:H a=some (.tup (ks.map kV))):(tupleKind (dB P w)).is h ks a:=by obtain⟨_,au,r,o,h1,h2,n,h3⟩:=(show c7 P w H h a (.tup (ks.map kV)) from ok a _ e);exact⟨o,au.toArray,n,h1,h2,h3,by simpa using DP r⟩
def nK{kvs:List (List Key×V)}(ok:cC P w H h)(e:Rd H a (.dT kvs)):kvs.length<=sizeLine/\(a==sysModules)=false/\
 ∃xs,KT H kvs xs/\h.DictOfH (tupleKind (dB P w)) a xs:=by
 obtain⟨z,y,xs,r,o,es,ep,h1,h2,h3,h4,h5⟩:=(show c7 P w H h a (.dT kvs) from Gk ok e);refine⟨z,y,xs,r,o,es,ep,h1,h2,h3,h4,λx hx=>?_,h5⟩;have all:∀{l:List (List Key×V)} {m:List (List Key×Addr×Value)},KT H l m->∀x∈m,(tupleKind (dB P w)).is h x.1 x.2.1:=by
  intro l m q;induction q with
  |nil=>intro x hx;exact nomatch hx
  | @cons p q ps qs hq t ih=>
    intro x hx;rcases aaX.mp hx with e|hx
    ·subst e;exact pW ok (by rw[<-hq.1];exact hq.2.1)
    ·exact ih x hx
 exact all r x hx
def Ss{kvs:List (List Key×V)}(ok:cC P w H h)(e:H a=some (.dT kvs)):kvs.length<=sizeLine/\(a==sysModules)=false/\
 ∃xs,KT H kvs xs/\h.DictOfH (tupleKind (dB P w)) a xs:=nK ok (.inl e)
end
def gq(H:Hp)(a:Addr)(y:V)(r:Option V):Prop:=
 (∃kvs k,Rd H a (.dK kvs)/\y=kV k/\r=de kvs k)\/∃kvs k b,Rd H a (.dT kvs)/\y=.ref b/\H b=some (.tup (k.map kV))/\r=de kvs k
def sH(H:Hp)(a:Addr)(y v:V)(H':Hp):Prop:=
 (∃kvs k,H a=some (.dK kvs)/\y=kV k/\kvs.length<sizeLine/\H'=upd H a (.dK (putK kvs k v)))\/
 ∃kvs k b,H a=some (.dT kvs)/\y=.ref b/\H b=some (.tup (k.map kV))/\kvs.length<sizeLine/\H'=upd H a (.dT (putK kvs k v))
def gq.k{H:Hp}{a:Addr}{kvs:List (Key×V)}{k:Key}(e:H a=some (.dK kvs)):gq H a (kV k) (de kvs k):=.inl ⟨kvs,k,.inl e,rfl,rfl⟩
def sH.k{H:Hp}{a:Addr}{kvs:List (Key×V)}{k:Key}{v:V}(e:H a=some (.dK kvs))(hl:kvs.length<sizeLine):sH H a (kV k) v (upd H a (.dK (putK kvs k v))):=.inl ⟨kvs,k,e,rfl,hl,rfl⟩
section
variable{X:Cx}{pins:List (Addr×Obj)}{σ:St}{H:Hp}{s:Shared}{a:Addr}{y v:V}{u r:Value}{o:Option V}{A:Around}{E:Value->Shared->Prop}
def Inv.big(I:Inv X pins σ H s):sysModules<s.heap.objs.size:=by have h:mainGlobals<s.heap.objs.size:=(I.mod.glob.keeps I.bk).lt;exact Nat.lt_trans (by decide) h
def Le{Q:Value->Shared->Prop}(hu:A.units+1<cLine)(I:Inv X pins σ H s)(g:gq H a y (some v))(ry:RelV y u)(h:∀w' s',Inv X pins σ H s'->RelV v w'->Q w' s'):
 wpAny (model X.prog X.w) A (getItem (.ref a) u) Q E s:=by
 rcases g with⟨kvs,k,e,ey,l⟩|⟨kvs,k,b,e,ey,eb,l⟩
 ·subst ey;obtain⟨z,hd,vs,rel,dd⟩:=nJ I.aE e;obtain⟨w',hw,dE⟩:=fk.some_of (v:=v) (o:=valueAt vs k) (by rw[l];exact rel.val k);exact wpAny_getItem_of (kM ry) dd.mapOf hw (h w' _ (I.tok _) dE)
 ·subst ey;cases(show u=Value.ref b from ry);obtain⟨z,hd,xs,rel,dd⟩:=nK I.aE e;obtain⟨w',hw,dE⟩:=fk.some_of (v:=v) (o:=(atKey xs k).map (·.2)) (by rw[l];exact rel.val k);obtain⟨p,hp,gR⟩:=ad4.mp hw;refine wpAny_getItem_heap (acQ hu) (pW I.aE eb) dd hp ?_;rw[gR];exact h w' _ (I.tok _) dE
def Oo{Q:Value->Shared->Prop}(hu:A.units+1<cLine)(I:Inv X pins σ H s)(g:gq H a y o)(ry:RelV y u)(h:∀s',Inv X pins σ H s'->Q (.bool (!o.isSome)) s'):
 wpAny (model X.prog X.w) A (compareOp .NotIn u (.ref a)) Q E s:=by
 rcases g with⟨kvs,k,e,ey,l⟩|⟨kvs,k,b,e,ey,eb,l⟩
 ·subst ey;obtain⟨z,hd,vs,rel,dd⟩:=nJ I.aE e;refine wpAny_notIn_of (kM ry) hd dd.mapOf ?_;rw[<-(rel.val k).uk,<-l];exact h _ (I.tok _)
 ·subst ey;cases(show u=Value.ref b from ry);obtain⟨z,hd,xs,rel,dd⟩:=nK I.aE e;refine wpAny_notIn_heap (acQ hu) (pW I.aE eb) hd dd ?_;have q:=(rel.val k).uk;rw[adC] at q;rw[<-q,<-l];exact h _ (I.tok _)
def se{h':Heap}{t':Nat}{ob:HO}(I:Inv X pins σ H s)(mu:sW (H a))(hs:Heap.SameBut a s.heap h')(he:∃q,h'.get? a=some q)(new:c7 X.prog X.w (upd H a ob) h' a ob):
 Inv X pins σ (upd H a ob) {s with heap:=h',toks:=t'}:=
 I.write (x:=a) (e:=a) mu (.inl rfl) (λb q hb z=>(hs.2 b hb).trans z) he new
def u7{P:Program}{w:World}{H':Hp}{h':Heap}{kvs:List (Key×V)}{vs:List (Key×Value)}(z:kvs.length<=sizeLine)(hd:(a==sysModules)=false)(rel:KV kvs vs)(dd:h'.DictOf (dB P w) a vs):
 c7 P w H' h' a (.dK kvs):=⟨z,hd,vs,rel,dd⟩
def Lf{H':Hp}{Q:Unit->Shared->Prop}(hu:A.units+1<cLine)(I:Inv X pins σ H s)(g:sH H a y v H')(ry:RelV y u)(rv:RelV v r)(h:∀s',Inv X pins σ H' s'->Q () s'):
 wpAny (model X.prog X.w) A (setItem (.ref a) u r) Q E s:=by
 rcases g with⟨kvs,k,e,ey,l,eH⟩|⟨kvs,k,b,e,ey,eb,l,eH⟩
 ·subst ey eH;obtain⟨z,hd,vs,rel,dd⟩:=so I.aE e;have hz:vs.length<=sizeLine:=by rw[<-rel.length];exact z
  have hl:(putK kvs k v).length<=sizeLine:=by have:=yP kvs k v;omega
  refine wpAny_setItem_pairs (hsz:=hz) (kM ry) dd λh' iM hs=>h _ ?_
  have he:∃q,h'.get? a=some q:=let⟨q,_,_,hq,_⟩:=iM;⟨q,hq⟩
  exact se I (by rw[e];exact True.intro) hs he (u7 hl hd (rel.put k rv) iM)
 ·subst ey eH;cases(show u=Value.ref b from ry);obtain⟨z,hd,xs,rel,dd⟩:=Ss I.aE e;have hz:xs.length<=sizeLine:=by rw[<-Paired.length rel];exact z
  have hl:(putK kvs k v).length<=sizeLine:=by have:=yP kvs k v;omega
  refine wpAny_setItem_heap (hsz:=hz) (acQ hu) (pW I.aE eb) dd λh' iM hs=>h _ ?_
  obtain⟨q,es,ep,hq,h2,h3,h4,_,h5⟩:=iM;refine se I (by rw[e];exact True.intro) hs ⟨q,hq⟩ ⟨hl,hd,_,(rel.put k eb rv).keeps λc ys ec=>?_,q,es,ep,hq,h2,h3,h4,h5⟩;rw[ba (RP ec e (λz=>nomatch z))];exact ec
end
section
variable{X:Cx}{pins:List (Addr×Obj)}{σ:St}{H:Hp}{s:Shared}{a:Addr}{kvs:List (Key×V)}{k:Key}{u:Value}{A:Around}{E:Value->Shared->Prop}
def Zi{Q:Unit->Shared->Prop}(I:Inv X pins σ H s)(e:H a=some (.dK kvs))(ry:RelV (kV k) u)(l:(de kvs k).isSome=true)(h:∀s',Inv X pins σ (upd H a (.dK (mm kvs k))) s'->Q () s'):
 wpAny (model X.prog X.w) A (delItem (.ref a) u) Q E s:=by
 obtain⟨z,hd,vs,rel,dd⟩:=so I.aE e;refine wpAny_delItem_slot dd.typeIs (by decide) ad5 (aci ad5 dd.typeIs PySem.F.entry_dict_delitem (PySem.F.args_dict_delitem_2 _ _) (meets_dict_delitem_pairs (dB X.prog X.w) a (kM ry)) ⟨vs,dd,by rw[<-rel.length];exact z,by rw[<-(rel.val k).uk];exact l,λh' iM hs=>h _ ?_⟩)
 have he:∃q,h'.get? a=some q:=let⟨q,_,_,hq,_⟩:=iM;⟨q,hq⟩
 exact se I (by rw[e];exact True.intro) hs he (u7 (aa1 (Em kvs k) z) hd (rel.drop k) iM)
def Su{v:V}{more:List Value}{Q:Value->Shared->Prop}(I:Inv X pins σ H s)(e:H a=some (.dK kvs))(ry:RelV (kV k) u)(l:de kvs k=some v)(hm:more=[]\/∃x,more=[x])(h:∀w' s',Inv X pins σ (upd H a (.dK (mm kvs k))) s'->RelV v w'->Q w' s'):wpAny (model X.prog X.w) A (call (.builtin "dict.pop") (.ref a::u::more)) Q E s:=by
 obtain⟨z,hd,vs,rel,dd⟩:=so I.aE e;obtain⟨w',hw,dE⟩:=fk.some_of (v:=v) (o:=valueAt vs k) (by rw[<-l];exact rel.val k);have hp:(keyPart u).isSome=true:=by
  cases k with
  |inl i=>obtain⟨t,q⟩:=(show∃t,u=Value.int i t from ry);subst q;rfl
  |inr x=>obtain⟨t,q⟩:=(show∃t,u=Value.str x t from ry);subst q;rfl
 have ha:argsOk "dict.pop" ⟨.ref a::u::more,[]⟩:=by
  rcases hm with q|⟨x,q⟩
  ·subst q;exact PySem.F.args_dict_pop_2 _ _
  ·subst q;exact PySem.F.args_dict_pop_3 _ _ _
 refine aci ad6 dd.typeIs PySem.F.entry_dict_pop ha (meets_dict_pop_there (dB X.prog X.w) a (kM ry) more hm hp)
  ⟨vs,w',dd,by rw[<-rel.length];exact z,hw,λh' iM hs=>h w' _ ?_ dE⟩
 have he:∃q,h'.get? a=some q:=let⟨q,_,_,hq,_⟩:=iM;⟨q,hq⟩
 exact se I (by rw[e];exact True.intro) hs he (u7 (aa1 (Em kvs k) z) hd (rel.drop k) iM)
end
def A9(i:Expr):Prop:=∀ov iv,subscripted i false ov iv=operate [ov,iv] (getItem ov iv)
def Oq{prog:Program}{w:World}{A:Around}{E:Value->Shared->Prop}{s:Shared}{env:Env}{value slice:Expr}{pos:Pos}{T id:String}{Q:Value->Shared->Prop}(hl:typeLookup (.type T) "__getitem__"=pure (some (.builtin id)))(hs:A9 slice)(h:wpAny (model prog w) A (eval value env) (λo bD=>wpAny (model prog w) A (eval slice env) (λi dy=>dy.TypeIs o T/\wpAny (model prog w) A (getItem o i) Q E dy) E bD) E s):
 wpAny (model prog w) A (eval (.Subscript value slice pos) env) Q E s:=by
 refine Subscript_ (abh h (λo bD jn=>abh jn (λi dy sI=>?_) λ_ _ x=>x) λ_ _ x=>x);obtain⟨hT,sI⟩:=sI;unfold subscriptTail;refine aaS ?_;rw[getitemInPython_of_ne hT.not_modules];refine aaS (adD hT hl ?_);have fin:wpAny (model prog w) A (subscripted slice false o i) (λr gv=>wpAny (model prog w) A (letTemporaryGo value o r >>= λ_=>pure r) Q E gv) E dy:=by rw[hs o i];exact wpAny_operating (abh sI (λr gv vO=>aaS (wpAny_letTemporaryGo (aa5 vO))) λ_ _ x=>x)
 first
  |exact aa5 (aaS fin)
  |exact aaS (aa5 (aaS fin))
  |exact aaS fin
def J6{X:Cx}{pins:List (Addr×Obj)}{σ:St}{H:Hp}{s:Shared}{a:Addr}{y:V}{o:Option V}(I:Inv X pins σ H s)(g:gq H a y o):s.TypeIs (.ref a) "dict":=by
 rcases g with⟨kvs,k,e,_,_⟩|⟨kvs,k,b,e,_,_,_⟩
 ·obtain⟨_,_,vs,_,dd⟩:=nJ I.aE e;exact dd.typeIs
 ·obtain⟨_,_,xs,_,dd⟩:=nK I.aE e;exact dd.typeIs
def Sv(td ty:TE):TE:=λσ H Q=>td σ H λx H1=>ty σ H1 λy H2=>∃a v,x=.ref a/\gq H2 a y (some v)/\Q v H2
def jm(td ty tv:TE):TS:=λD σ H=>tv σ H λv H1=>td σ H1 λx H2=>ty σ H2 λy H3=>∃a H4,x=.ref a/\sH H3 a y v H4/\D.nx σ H4
section
variable{X:Cx}{o i e value:Expr}{pos pos' tpos:Pos}{td ty tv:TE}
def Ot(hu:X.A.units+1<cLine)(ho:PE X o td)(hi:PE X i ty)(hs:A9 i):PE X (.Subscript o i pos) (Sv td ty):=by intro pins s σ H Q I h;refine Oq PySem.F.slot_dict_getitem.lookup hs (aK (ho pins s σ H _ I h) λu s1 ⟨x,H1,I1,rx,q1⟩=>aK (hi pins s1 σ H1 _ I1 q1) λiv s2 ⟨y,H2,I2,ry,a,v,ex,g,q2⟩=>?_);subst ex;obtain rfl:u=Value.ref a:=rx;exact⟨J6 I2 g,Le hu I2 g ry λw' s3 I3 dE=>⟨v,H2,I3,dE,q2⟩⟩
def Ou(hu:X.A.units+1<cLine)(ho:PE X o td)(hi:PE X i ty)(hv:PE X value tv)(hs:swapsWith value (some (.Subscript o i pos')) pos.line X.env=pure false):
 PS X (.Assign [.Subscript o i pos'] value pos) (jm td ty tv):=by
 intro pins s σ H D I h;refine wpAny_Assign_Subscript (aK (hv pins s σ H _ I h) λr s1 ⟨v,H1,I1,rv,q1⟩=>aK (ho pins s1 σ H1 _ I1 q1) λu s2 ⟨x,H2,I2,rx,q2⟩=>aK (hi pins s2 σ H2 _ I2 q2) λiv s3 ⟨y,H3,I3,ry,a,H4,ex,g,q3⟩=>?_) hs;subst ex;obtain rfl:u=Value.ref a:=rx;exact Lf hu I3 g ry rv λs4 I4=>⟨σ,H4,I4,q3⟩
end
def Mv{P:Program}{w:World}{H:Hp}(h:Heap)(hb:sysModules<h.objs.size):c7 P w H (h.push {cls:=.type "dict",data:=.dict #[]}) h.objs.size (.dK []):=
 ⟨abV _,ab1.mpr (abc (abn hb)),[],.nil,Heap.DictOf.new h⟩
def Qz:TE:=λ_ H Q=>∀p,H p=none->Q (.ref p) (upd H p (.dK []))
section
variable{X:Cx}{pos:Pos}
def Mw:PE X (.Dict [] [] pos) Qz:=λpins s σ H Q I h=>wpAny_Dict_empty ⟨.ref s.heap.objs.size,_,I.laid (a:=s.heap.objs.size) (o:=.dK []) (t':=s.toks) (λ_ _ q=>abd _ q) (aaY _) (Mv s.heap I.big),rfl,h _ (I.aE.fresh (aaY _))⟩
end
structure M1(X:Cx)(o:Expr)(m:Str)(apos:Pos)(e:Expr)(a9:Pos):Prop where
 base:attributeBase o m X.env (eval o X.env)=eval o X.env
 ot:((backTo a9 (starEach [e] X.env)).all (λx=>!x.1)&&(backToKw a9 (keywordEach [] X.env)).all (λx=>x.1.isSome)
  &&decide (([e]:List Expr).length+([]:List Keyword).length+(if([]:List Keyword).isEmpty then 0 else 1)<30))=true
 line:(apos.endLine==a9.line)=true
 trees:backTo a9 (starEach [e] X.env)=[(false,eval e X.env)]
structure M2(X:Cx)(o:Expr)(m:Str)(apos:Pos)(e f:Expr)(a9:Pos):Prop where
 base:attributeBase o m X.env (eval o X.env)=eval o X.env
 ot:((backTo a9 (starEach [e,f] X.env)).all (λx=>!x.1)&&(backToKw a9 (keywordEach [] X.env)).all (λx=>x.1.isSome)
  &&decide (([e,f]:List Expr).length+([]:List Keyword).length+(if([]:List Keyword).isEmpty then 0 else 1)<30))=true
 line:(apos.endLine==a9.line)=true
 trees:backTo a9 (starEach [e,f] X.env)=[(false,eval e X.env),(false,eval f X.env)]
def qE(H:Hp)(a:Addr):Prop:=(∃kvs,Rd H a (.dK kvs))\/∃kvs,Rd H a (.dT kvs)
def sg{X:Cx}{pins:List (Addr×Obj)}{σ:St}{H:Hp}{s:Shared}{a:Addr}(I:Inv X pins σ H s)(d:qE H a):
 s.TypeIs (.ref a) "dict"/\(∀b,Value.ref a=.ref b->∃ob,s.heap.get? b=some ob/\ob.dict=none)/\(a==sysModules)=false:=by
 rcases d with⟨kvs,e⟩|⟨kvs,e⟩
 ·obtain⟨_,hd,vs,_,dd⟩:=nJ I.aE e;refine⟨dd.typeIs,λb q=>?_,hd⟩;cases q;obtain⟨ob,_,_,h1,h2,_⟩:=dd;exact⟨ob,h1,h2.2.1⟩
 ·obtain⟨_,hd,xs,_,dd⟩:=nK I.aE e;refine⟨dd.typeIs,λb q=>?_,hd⟩;cases q;obtain⟨ob,_,_,h1,h2,_⟩:=dd;exact⟨ob,h1,h2.2.1⟩
section
variable{X:Cx}{pins:List (Addr×Obj)}{σ:St}{H:Hp}{s:Shared}{a:Addr}{y d:V}{u r:Value}{o:Option V}{A:Around}{E:Value->Shared->Prop}
def QA{Q:Value->Shared->Prop}(hu:A.units+1<cLine)(I:Inv X pins σ H s)(g:gq H a y o)(ry:RelV y u)(h:∀w' s',Inv X pins σ H s'->RelV (o.getD .ao) w'->Q w' s'):
 wpAny (model X.prog X.w) A (call (.builtin "dict.get") [.ref a,u]) Q E s:=by
 rcases g with⟨kvs,k,e,ey,l⟩|⟨kvs,k,b,e,ey,eb,l⟩
 ·subst ey;obtain⟨z,hd,vs,rel,dd⟩:=nJ I.aE e;refine aci acH dd.typeIs ade (ad7 _ _) (meets_dict_get (dB X.prog X.w) a (kM ry) hd) ⟨_,dd.mapOf,h _ _ (I.tok _) ?_⟩;rw[l];exact(rel.val k).getD rfl
 ·subst ey;cases(show u=Value.ref b from ry);obtain⟨z,hd,xs,rel,dd⟩:=nK I.aE e;refine aci acH dd.typeIs ade (ad7 _ _) (meetsH_dict_get (tupleKind (dB X.prog X.w)) a b hd) ⟨acQ hu,k,xs,pW I.aE eb,dd,h _ _ (I.tok _) ?_⟩;rw[l];exact(rel.val k).getD rfl
def QB{Q:Value->Shared->Prop}(hu:A.units+1<cLine)(I:Inv X pins σ H s)(g:gq H a y o)(ry:RelV y u)(rd:RelV d r)(h:∀w' s',Inv X pins σ H s'->RelV (o.getD d) w'->Q w' s'):
 wpAny (model X.prog X.w) A (call (.builtin "dict.get") [.ref a,u,r]) Q E s:=by
 rcases g with⟨kvs,k,e,ey,l⟩|⟨kvs,k,b,e,ey,eb,l⟩
 ·subst ey;obtain⟨z,hd,vs,rel,dd⟩:=nJ I.aE e;refine aci acH dd.typeIs ade (ad8 _ _ _) (meets_dict_get_default (dB X.prog X.w) a (kM ry) hd r) ⟨_,dd.mapOf,h _ _ (I.tok _) ?_⟩;rw[l];exact(rel.val k).getD rd
 ·subst ey;cases(show u=Value.ref b from ry);obtain⟨z,hd,xs,rel,dd⟩:=nK I.aE e;refine aci acH dd.typeIs ade (ad8 _ _ _) (meetsH_dict_get_default (tupleKind (dB X.prog X.w)) a b hd r) ⟨acQ hu,k,xs,pW I.aE eb,dd,h _ _ (I.tok _) ?_⟩;rw[l];exact(rel.val k).getD rd
end
def QC(td ty:TE):TE:=λσ H Q=>td σ H λx H1=>∃a,x=.ref a/\qE H1 a/\ty σ H1 λy H2=>∃o,gq H2 a y o/\Q (o.getD .ao) H2
def QD(td ty tx:TE):TE:=λσ H Q=>td σ H λx H1=>∃a,x=.ref a/\qE H1 a/\ty σ H1 λy H2=>tx σ H2 λz H3=>∃o,gq H3 a y o/\Q (o.getD z) H3
def QE(td ty:TE):TE:=λσ H Q=>td σ H λx H1=>∃a,x=.ref a/\qE H1 a/\ty σ H1 λy H2=>∃kvs k v,H2 a=some (.dK kvs)/\y=kV k/\de kvs k=some v/\Q v (upd H2 a (.dK (mm kvs k)))
section
variable{X:Cx}{o e f:Expr}{apos a9:Pos}{td ty tx:TE}
def Mx(hu:X.A.units+1<cLine)(ho:PE X o td)(he:PE X e ty)(m:M1 X o "get" apos e a9):PE X (.Call (.Attribute o "get" apos) [e] [] a9) (QC td ty):=by intro pins s σ H Q I h;refine acR m.base m.ot m.line acS acH ad9 (aK (ho pins s σ H _ I h) λu s1 ⟨x,H1,I1,rx,a,ex,d,q1⟩=>?_);subst ex;obtain rfl:u=Value.ref a:=rx;obtain⟨t1,t2,_⟩:=sg I1 d;refine⟨t1,t2,?_⟩;rw[m.trees];refine acu rfl (acF (ab9 (aK (he pins s1 σ H1 _ I1 q1) λiv s2 ⟨y,H2,I2,ry,ov,g,q2⟩=>acr ?_)));exact QA hu I2 g ry λw' s3 I3 dE=>⟨_,H2,I3,dE,q2⟩
def My(hu:X.A.units+1<cLine)(ho:PE X o td)(he:PE X e ty)(hf:PE X f tx)(m:M2 X o "get" apos e f a9):PE X (.Call (.Attribute o "get" apos) [e,f] [] a9) (QD td ty tx):=by
 intro pins s σ H Q I h;refine acR m.base m.ot m.line acS acH ad9 (aK (ho pins s σ H _ I h) λu s1 ⟨x,H1,I1,rx,a,ex,d,q1⟩=>?_);subst ex;obtain rfl:u=Value.ref a:=rx;obtain⟨t1,t2,_⟩:=sg I1 d;refine⟨t1,t2,?_⟩;rw[m.trees];refine acu rfl (acF (ab9 (aK (he pins s1 σ H1 _ I1 q1) λiv s2 ⟨y,H2,I2,ry,q2⟩=>ab9 (aK (hf pins s2 σ H2 _ I2 q2) λfv s3 ⟨z,H3,I3,rz,ov,g,q3⟩=>acr ?_))))
 exact QB hu I3 g ry rz λw' s4 I4 dE=>⟨_,H3,I4,dE,q3⟩
def Mz(ho:PE X o td)(he:PE X e ty)(m:M1 X o "pop" apos e a9):PE X (.Call (.Attribute o "pop" apos) [e] [] a9) (QE td ty):=by intro pins s σ H Q I h;refine acR m.base m.ot m.line acS ad6 PySem.F.type_dict_pop (aK (ho pins s σ H _ I h) λu s1 ⟨x,H1,I1,rx,a,ex,d,q1⟩=>?_);subst ex;obtain rfl:u=Value.ref a:=rx;obtain⟨t1,t2,_⟩:=sg I1 d;refine⟨t1,t2,?_⟩;rw[m.trees];refine acu rfl (acF (ab9 (aK (he pins s1 σ H1 _ I1 q1) λiv s2 ⟨y,H2,I2,ry,kvs,k,v,ea,ey,l,q2⟩=>acr ?_)));subst ey;exact Su I2 ea ry l (.inl rfl) λw' s3 I3 dE=>⟨v,_,I3,dE,q2⟩
end
section
variable{X:Cx}{pins:List (Addr×Obj)}{σ:St}{H:Hp}{s:Shared}{a:Addr}{kvs:List (Key×V)}{A:Around}{E:Value->Shared->Prop}
end
section
variable{X:Cx}{pins:List (Addr×Obj)}{σ:St}{H:Hp}{s:Shared}{a:Addr}{y:V}{u:Value}{A:Around}{E:Value->Shared->Prop}
end
end L2
set_option autoImplicit false
set_option maxHeartbeats 4000000
namespace VM
inductive W where
 |ao
 |bl (b:Bool)
 |int (i:Int)
 |str (x:List Nat)
 |ref (a:Nat)
 deriving DecidableEq,Inhabited
inductive O where
 |lst (xs:List W)
 |bf (xs:List W)
 |tup (xs:List W)
  |aI (kvs:List (Int×W))
 |ins (c:List Nat) (fs:List (List Nat×W))
 |d8 (x:List Nat)
  |a6 (g:Nat) (kvs:List (Int×W))
 |cw
  |dr (c:List Nat)
 deriving DecidableEq,Inhabited
abbrev Mem:=List O
abbrev St:=List (Option W)
inductive R(α:Type) where
 |ok (a:α) (M:Mem)
 |ex (v:W) (M:Mem)
 |bad
noncomputable def R.bind{α β:Type}:R α->(α->Mem->R β)->R β
 |.ok a M,f=>f a M
 |.ex v M,_=>.ex v M
 |.bad,_=>.bad
def R.eB{α:Type}:R α->R α
 |.ex _ _=>.bad
 |r=>r
inductive RS where
 |nx (σ:St) (M:Mem)
 |rt (v:W) (M:Mem)
 |bk (σ:St) (M:Mem)
 |ct (σ:St) (M:Mem)
 |ex (v:W) (M:Mem)
 |bad
noncomputable def R.cz{α:Type}:R α->(α->Mem->RS)->RS
 |.ok a M,f=>f a M
 |.ex v M,_=>.ex v M
 |.bad,_=>.bad
abbrev EM:=St->Mem->R W
abbrev TM:=St->Mem->R Bool
abbrev AM:=St->Mem->R (List W)
abbrev SM:=St->Mem->RS
abbrev GM:=W->St->Mem->R St
abbrev dh:=W->W->Mem->R W
abbrev CM:=List W->Mem->R W
abbrev lim:Nat:=16777216
def mn:Nat:=18446744073709551616
def br(xs:List W)(M:Mem):R W:=if xs.length<=lim then .ok (.ref M.length) (M++[.lst xs]) else .bad
def iH(xs:List W)(M:Mem):R W:=if xs.length<=lim then .ok (.ref M.length) (M++[.tup xs]) else .bad
noncomputable def bz(M:Mem):W->Option (List W)
 |.ref a=>match M[a]? with
  |some (.lst xs)=>some xs
  |some (.bf xs)=>some xs
  |_=>none
 |_=>none
def cL(M:Mem):W->Option (List W)
 |.ref a=>match M[a]? with
  |some (.tup xs)=>some xs
  |_=>none
 |_=>none
noncomputable def bK(M:Mem)(v:W):Option (List W):=match bz M v with
 |some xs=>some xs
 |none=>cL M v
noncomputable def cj(M:Mem):W->Option (Nat×List W)
 |.ref a=>match M[a]? with
  |some (.lst xs)=>some (a,xs)
  |_=>none
 |_=>none
noncomputable def aa(i:Nat):EM:=λσ M=>match σ[i]? with
 |some (some v)=>.ok v M
 |_=>.bad
noncomputable def eC(v:W):EM:=λ_ M=>.ok v M
noncomputable def ag:AM:=λ_ M=>.ok [] M
def ae(e:EM)(a:AM):AM:=λσ M=>(e σ M).bind λx M1=>(a σ M1).bind λxs M2=>.ok (x::xs) M2
def aS(a:AM):EM:=λσ M=>(a σ M).bind br
def cD(a:AM):EM:=λσ M=>(a σ M).bind iH
def af(f:dh)(a b:EM):EM:=λσ M=>(a σ M).bind λx M1=>(b σ M1).bind λy M2=>f x y M2
def bp:dh
 |.int i,.int j,M=>.ok (.int (i+j)) M
 |.ref a,.ref b,M=>match cj M (.ref a),cj M (.ref b) with
  |some (_,xs),some (_,ys)=>br (xs++ys) M
  |_,_=>.bad
 |_,_,_=>.bad
def nU:dh
 |.int i,.int j,M=>.ok (.int (i-j)) M
 |_,_,_=>.bad
def bN:dh
 |.int i,.int j,M=>if i.natAbs<mn\/j.natAbs<mn then .ok (.int (i*j)) M else .bad
 |_,_,_=>.bad
def oDiv:dh
 |.int i,.int j,M=>if 0<j/\j.natAbs<1073741824 then .ok (.int (i / j)) M else .bad
 |_,_,_=>.bad
def oMod:dh
 |.int i,.int j,M=>if 0<j then .ok (.int (i % j)) M else .bad
 |_,_,_=>.bad
def A_(a:EM):EM:=λσ M=>(a σ M).bind λx M1=>match x with
 |.int i=>.ok (.int (-i)) M1
 |_=>.bad
def eE:W->W->Bool
 |.ao,.ao=>true|.ao,.int _=>true|.int _,.ao=>true|.ao,.bl _=>true|.bl _,.ao=>true|.ao,.str _=>true|.str _,.ao=>true
 |.int _,.int _=>true|.bl _,.bl _=>true|.str _,.str _=>true
 |.int _,.str _=>true|.str _,.int _=>true|.bl _,.str _=>true|.str _,.bl _=>true
 |_,_=>false
def flat:W->Bool
 |.ref _=>false
 |_=>true
def gB:W->W->Bool
 |.ao,.ao=>true
 |.bl a,.bl b=>a==b
 |.bl a,.int b=>(if a then 1 else 0)==b
 |.int a,.bl b=>a==(if b then 1 else 0)
 |.int a,.int b=>a==b
 |.str a,.str b=>a==b
 |_,_=>false
def gM:List W->List W->Bool
 |[],[]=>true
 |x::xs,y::ys=>gB x y&&gM xs ys
 |_,_=>false
def nL(xs ys:List W):Option Bool:=
 if xs.length≠ys.length then some false
 else if xs.all flat&&ys.all flat then some (gM xs ys) else none
def Gm(xs ys:List W):Option Bool:=
 if xs.all flat&&ys.all flat then some (gM xs ys)
 else if xs.length=0\/ys.length=0 then some (decide (xs.length=ys.length)) else none
def iZ:W->Bool
 |.ao=>true
 |_=>false
def eG(M:Mem)(x y:W):Option Bool:=
 if eE x y then some (decide (x=y))
 else match bz M x,bz M y with
  |some xs,some ys=>nL xs ys
  |_,_=>match cL M x,cL M y with
   |some xs,some ys=>Gm xs ys
   |_,_=>none
def qj(M:Mem)(x y:W):Bool:=iZ x&&(bz M y).isSome
def oEq:dh:=λx y M=>match eG M x y with
 |some b=>.ok (.bl b) M
 |none=>if qj M x y then .ok (.bl false) M else .bad
def bV:dh:=λx y M=>match eG M x y with
 |some b=>.ok (.bl (!b)) M
 |none=>.bad
def vP(p:Int->Int->Bool):dh
 |.int i,.int j,M=>.ok (.bl (p i j)) M
 |_,_,_=>.bad
def oLt:dh:=vP λi j=>decide (i<j)
def oLe:dh:=vP λi j=>decide (i<=j)
def jt:dh:=vP λi j=>decide (j<i)
def ju:dh:=vP λi j=>decide (j<=i)
def jR(f g:dh)(a b c:EM):EM:=λσ M=>(a σ M).bind λx M1=>(b σ M1).bind λy M2=>(f x y M2).bind λz M3=>match z with
 |.bl k=>if k then(c σ M3).bind λw M4=>g y w M4 else .ok (.bl false) M3
 |_=>.bad
def dQ(a:EM):EM:=λσ M=>(a σ M).bind λx M1=>.ok (.bl (iZ x)) M1
def mq(a:EM):EM:=λσ M=>(a σ M).bind λx M1=>.ok (.bl (!iZ x)) M1
def lh(x:W)(xs:List W):Bool:=xs.any λy=>gB y x
def iN:dh:=λx y M=>match bK M y with
 |some xs=>if flat x&&xs.all flat then .ok (.bl (lh x xs)) M else .bad
 |none=>.bad
def l7:dh:=λx y M=>match bK M y with
 |some xs=>if flat x&&xs.all flat then .ok (.bl (!lh x xs)) M else .bad
 |none=>.bad
def cK(n:Nat)(i:Int):Option Nat:=if 0<=i then(if i<n then some i.toNat else none) else if-(n:Int)<=i then some (i+n).toNat else none
def cR{α:Type}(xs:List α)(i:Int):Option α:=(cK xs.length i).bind λj=>xs[j]?
def av:dh
 |x,.int i,M=>match bK M x with
  |some xs=>match cR xs i with
   |some v=>.ok v M
   |none=>.bad
  |none=>.bad
 |_,_,_=>.bad
def bg(n d:Nat):Option Int->Nat
 |none=>d
 |some v=>if v<0 then(v+(n:Int)).toNat else min v.toNat n
def cut{α:Type}(xs:List α)(lo hi:Option Int):List α:=(xs.drop (bg xs.length 0 lo)).take (bg xs.length xs.length hi-bg xs.length 0 lo)
abbrev PM:=St->Mem->R (Option Int)
noncomputable def g_:PM:=λ_ M=>.ok none M
def fi(e:EM):PM:=λσ M=>(e σ M).bind λx M1=>match x with
 |.int i=>.ok (some i) M1
 |_=>.bad
def qk(x:W)(lo hi:Option Int)(M:Mem):R W:=match bz M x with
 |some xs=>br (cut xs lo hi) M
 |none=>match cL M x with
  |some xs=>if bg xs.length 0 lo=0/\bg xs.length xs.length hi=xs.length then .bad else iH (cut xs lo hi) M
  |none=>.bad
def f9(e:EM)(l h:PM):EM:=λσ M=>(e σ M).bind λx M1=>(l σ M1).bind λlo M2=>(h σ M2).bind λhi M3=>qk x lo hi M3
def tB(e:EM):TM:=λσ M=>(e σ M).bind λx M1=>match x with
 |.bl b=>.ok b M1
 |_=>.bad
def eP(a b:TM):TM:=λσ M=>(a σ M).bind λc M1=>if c then b σ M1 else .ok false M1
def bZ(a b:TM):TM:=λσ M=>(a σ M).bind λc M1=>if c then .ok true M1 else b σ M1
def b6(a:TM):TM:=λσ M=>(a σ M).bind λc M1=>.ok (!c) M1
def dm(a b:EM):EM:=λσ M=>(a σ M).bind λx M1=>match x with
 |.bl c=>if c then b σ M1 else .ok (.bl false) M1
 |_=>.bad
def wo(a b:EM):EM:=λσ M=>(a σ M).bind λx M1=>match x with
 |.bl c=>if c then .ok (.bl true) M1 else b σ M1
 |_=>.bad
def mz(a:EM):EM:=λσ M=>(a σ M).bind λx M1=>match x with
 |.bl c=>.ok (.bl (!c)) M1
 |_=>.bad
def wq(t:TM)(a b:EM):EM:=λσ M=>(t σ M).bind λc M1=>if c then a σ M1 else b σ M1
def ak(f:CM)(a:AM):EM:=λσ M=>(a σ M).bind f
def bx:CM:=λvs M=>match vs with
 |[x]=>match bK M x with
  |some xs=>.ok (.int xs.length) M
  |none=>.bad
 |_=>.bad
def fT:CM:=λvs M=>match vs with
 |[x]=>match bK M x with
  |some xs=>br xs M
  |none=>.bad
 |_=>.bad
def gx:CM:=λvs M=>match vs with
 |[.int i]=>.ok (.int i) M
 |[.bl b]=>.ok (.int (if b then 1 else 0)) M
 |_=>.bad
def intsOf:List W->Option (List Int)
 |[]=>some []
 |.int i::r=>(intsOf r).map (i::·)
 |_=>none
def vQ:CM:=λvs M=>match vs with
 |[x]=>match(bz M x).bind intsOf with
  |some ns=>.ok (.int ns.sum) M
  |none=>.bad
 |_=>.bad
inductive Kd where
 |int|bool|str|list|tuple
 deriving DecidableEq
def cQ(M:Mem)(x:W):Kd->Option Bool:=λk=>match x with
 |.ao=>some false
 |.bl _=>some (decide (k=.bool\/k=.int))
 |.int _=>some (decide (k=.int))
 |.str _=>some (decide (k=.str))
 |.ref a=>match M[a]? with
  |some (.lst _)=>some (decide (k=.list))
  |some (.tup _)=>some (decide (k=.tuple))
  |_=>none
def c8(M:Mem)(x:W):List Kd->Option Bool
 |[]=>some false
 |k::r=>match cQ M x k,c8 M x r with
  |some a,some b=>some (a||b)
  |_,_=>none
def bW(ks:List Kd)(a:EM):EM:=λσ M=>(a σ M).bind λx M1=>match c8 M1 x ks with
 |some b=>.ok (.bl b) M1
 |none=>.bad
def b_(f:W->CM)(o:EM)(a:AM):EM:=λσ M=>(o σ M).bind λx M1=>match bz M1 x with
 |some _=>(a σ M1).bind λvs M2=>f x vs M2
 |none=>.bad
def fI(x:W):CM:=λvs M=>match vs,cj M x with
 |[y],some (a,xs)=>if xs.length<lim then .ok .ao (M.set a (.lst (xs++[y]))) else .bad
 |_,_=>.bad
def litOf(M:Mem):W->Option (List W)
 |.ref a=>match M[a]? with
  |some (.lst xs)=>some xs
  |some (.tup xs)=>some xs
  |_=>none
 |_=>none
def nv(x:W):CM:=λvs M=>match vs with
 |[y]=>match cj M x,litOf M y with
  |some (a,xs),some ys=>if xs.length+ys.length<=lim then .ok .ao (M.set a (.lst (xs++ys))) else .bad
  |_,_=>.bad
 |_=>.bad
def mB(x:W):CM:=λvs M=>match vs,cj M x with
 |[],some (a,xs)=>match xs[xs.length-1]? with
  |some y=>.ok y (M.set a (.lst xs.dropLast))
  |none=>.bad
 |_,_=>.bad
def QF:Nat:=4611686018427387904
def Zt(x:W):CM:=λvs M=>match vs with
 |[.int i]=>match cj M x with
  |some (a,xs)=>match cK xs.length i with
   |some k=>match xs[k]? with
    |some y=>if i.natAbs<QF then .ok y (M.set a (.lst (xs.eraseIdx k))) else .bad
    |none=>.bad
   |none=>.bad
  |none=>.bad
 |_=>.bad
def kJ(x:W):CM:=λvs M=>match vs,cj M x with
 |[y],some (_,xs)=>if flat y&&xs.all flat then .ok (.int (xs.countP λz=>gB z y)) M else .bad
 |_,_=>.bad
def cp(M:Mem):W->Option (Nat×List (Int×W))
 |.ref a=>match M[a]? with
  |some (.aI kvs)=>some (a,kvs)
  |_=>none
 |_=>none
def aW(kvs:List (Int×W))(k:Int):Option W:=(kvs.find? λkv=>decide (kv.1=k)).map (·.2)
def dput(kvs:List (Int×W))(k:Int)(v:W):List (Int×W):=
 if(kvs.any λkv=>decide (kv.1=k))=true then kvs.map (λkv=>if kv.1=k then(kv.1,v) else kv) else kvs++[(k,v)]
def iD(kvs:List (Int×W))(k:Int):List (Int×W):=kvs.filter λkv=>decide (kv.1≠k)
noncomputable def sr:EM:=λ_ M=>.ok (.ref M.length) (M++[.aI []])
def sJ(x y:W)(M:Mem):R W:=match y,cp M x with
 |.int i,some (_,kvs)=>match aW kvs i with
  |some v=>.ok v M
  |none=>.bad
 |_,_=>.bad
def nM(d k:EM):EM:=λσ M=>(d σ M).bind λx M1=>(k σ M1).bind λy M2=>sJ x y M2
def dO(x y z:W)(M:Mem):R W:=match y,cp M x with
 |.int i,some (_,kvs)=>.ok ((aW kvs i).getD z) M
 |_,_=>.bad
def i5(x y z:W)(M:Mem):R W:=match y,cp M x with
 |.int i,some (a,kvs)=>match aW kvs i with
  |some v=>.ok v M
  |none=>if kvs.length<lim then .ok z (M.set a (.aI (dput kvs i z))) else .bad
 |_,_=>.bad
def qm(x y:W)(M:Mem):R W:=match y,cp M x with
 |.int i,some (a,kvs)=>match aW kvs i with
  |some v=>.ok v (M.set a (.aI (iD kvs i)))
  |none=>.bad
 |_,_=>.bad
def qc(M:Mem)(x:W):Bool:=(cp M x).isSome
def jv(f:W->W->Mem->R W)(d k:EM):EM:=λσ M=>(d σ M).bind λx M1=>if qc M1 x then(k σ M1).bind λy M2=>f x y M2 else .bad
def gC(f:W->W->W->Mem->R W)(d k e:EM):EM:=λσ M=>(d σ M).bind λx M1=>if qc M1 x then(k σ M1).bind λy M2=>(e σ M2).bind λz M3=>f x y z M3 else .bad
def mL(neg:Bool)(y x:W)(M:Mem):R W:=match y,cp M x with
 |.int i,some (_,kvs)=>.ok (.bl ((aW kvs i).isSome != neg)) M
 |_,_=>.bad
abbrev nV(neg:Bool)(k d:EM):EM:=af (mL neg) k d
def qo(x y v:W)(σ:St)(M:Mem):RS:=match y,cp M x with
 |.int i,some (a,kvs)=>if kvs.length<lim then .nx σ (M.set a (.aI (dput kvs i v))) else .bad
 |_,_=>.bad
def jm(d k e:EM):SM:=λσ M=>(e σ M).cz λv M1=>(d σ M1).cz λx M2=>(k σ M2).cz λy M3=>qo x y v σ M3
def Zx(d:EM):EM:=λσ M=>(d σ M).bind λx M1=>match cp M1 x with
 |some (_,kvs)=>.ok (.bl kvs.isEmpty) (M1++[.aI []])
 |none=>.bad
def fU(M:Mem):W->Option (Nat×List Nat×List (List Nat×W))
 |.ref a=>match M[a]? with
  |some (.ins c fs)=>some (a,c,fs)
  |_=>none
 |_=>none
def bU(f:List Nat)(v:W):List (List Nat×W)->List (List Nat×W)
 |[]=>[(f,v)]
 |(g,x)::r=>if g=f then(g,v)::r else(g,x)::bU f v r
def c9(f:List Nat):List (List Nat×W)->Option W
 |[]=>none
 |(g,x)::r=>if g=f then some x else c9 f r
def Ba(c f:List Nat)(x:W)(M:Mem):R W:=match fU M x with
 |some (_,c',fs)=>if c'=c then(match c9 f fs with
  |some v=>.ok v M
  |none=>.bad) else .bad
 |none=>.bad
def aZ(c f:List Nat)(o:EM):EM:=λσ M=>(o σ M).bind λx M1=>Ba c f x M1
def GS(c f:List Nat)(x v:W)(σ:St)(M:Mem):RS:=match fU M x with
 |some (a,c',fs)=>if c'=c/\fs.length<1000 then .nx σ (M.set a (.ins c (bU f v fs))) else .bad
 |none=>.bad
def jX(c f:List Nat)(o e:EM):SM:=λσ M=>(e σ M).cz λv M1=>(o σ M1).cz λx M2=>GS c f x v σ M2
def nO(c m:List Nat)(M:Mem)(x:W):Bool:=match fU M x with
 |some (_,c',fs)=>decide (c'=c)&&(c9 m fs).isNone
 |none=>false
def ji(c m:List Nat)(f:CM)(o:EM)(a:AM):EM:=λσ M=>(o σ M).bind λx M1=>if nO c m M1 x then(a σ M1).bind λvs M2=>f (x::vs) M2 else .bad
def qF(c:List Nat)(f:CM):CM:=λvs M=>(f (.ref M.length::vs) (M++[.ins c []])).bind λv M2=>match v with
 |.ao=>.ok (.ref M.length) M2
 |_=>.bad
noncomputable def mM(x:List Nat):EM:=λ_ M=>.ok (.ref M.length) (M++[.d8 x])
def fnOf(M:Mem):W->Option (List Nat)
 |.ref a=>match M[a]? with
  |some (.d8 x)=>some x
  |_=>none
 |_=>none
def pick(tab:List (List Nat×CM))(x:W)(M:Mem):Option CM:=match fnOf M x with
 |some n=>(tab.find? λp=>decide (p.1=n)).map (·.2)
 |none=>none
def u9(tab:List (List Nat×CM))(o:EM)(a:AM):EM:=λσ M=>(o σ M).bind λx M1=>match pick tab x M1 with
 |some c=>(a σ M1).bind c
 |none=>.bad
noncomputable def ar(i:Nat):GM:=λv σ M=>.ok (σ.set i (some v)) M
def jU:List GM->List W->St->Mem->R St
 |[],[],σ,M=>.ok σ M
 |g::gs,v::vs,σ,M=>(g v σ M).bind λbj M1=>jU gs vs bj M1
 |_,_,_,_=>.bad
def fm(gs:List GM):GM:=λv σ M=>match cL M v with
 |some xs=>if xs.length=gs.length then jU gs xs σ M else .bad
 |none=>.bad
def eQ(o i:EM):GM:=λv σ M=>(o σ M).bind λx M1=>(i σ M1).bind λy M2=>match y,cj M2 x with
 |.int k,some (a,xs)=>match cK xs.length k with
  |some j=>.ok σ (M2.set a (.lst (xs.set j v)))
  |none=>.bad
 |_,_=>.bad
noncomputable def aV:SM:=λσ M=>.nx σ M
noncomputable def sL:SM:=λ_ _=>.bad
noncomputable def BC:SM:=λσ M=>.bk σ M
def aG(e:EM)(g:GM):SM:=λσ M=>(e σ M).cz λx M1=>(g x σ M1).cz λbj M2=>.nx bj M2
def cH(e:EM):SM:=λσ M=>(e σ M).cz λ_ M1=>.nx σ M1
def aH(e:EM):SM:=λσ M=>(e σ M).cz λx M1=>.rt x M1
def RS.andThen:RS->(St->Mem->RS)->RS
 |.nx σ M,f=>f σ M
 |r,_=>r
def aj(a b:SM):SM:=λσ M=>(a σ M).andThen b
def aN(t:TM)(a b:SM):SM:=λσ M=>(t σ M).cz λc M1=>if c then a σ M1 else b σ M1
inductive Src where
 |val (x:W)
 |pair (x y:W)
def Src.get:Src->Mem->R W
 |.val x,M=>.ok x M
 |.pair x y,M=>iH [x,y] M
abbrev b7:=List (Nat×O)
def b7.ok(c:b7)(M:Mem):Bool:=c.all λp=>decide (M[p.1]? =some p.2)
abbrev IM:=St->Mem->R (List Src×b7)
def bF(e:EM):IM:=λσ M=>(e σ M).bind λx M1=>match x with
 |.ref a=>match M1[a]? with
  |some (.lst xs)=>.ok (xs.map .val,[(a,.lst xs)]) M1
  |some (.bf xs)=>.ok (xs.map .val,[(a,.bf xs)]) M1
  |some (.tup xs)=>.ok (xs.map .val,[(a,.tup xs)]) M1
  |_=>.bad
 |_=>.bad
def bJ:Nat:=4611686018427387904
def cJ(lo:Int)(n:Nat):List Src:=(List.range n).map λ(k:Nat)=>.val (.int (lo+(k:Int)))
def cg(e:EM):IM:=λσ M=>(e σ M).bind λx M1=>match x with
 |.int j=>if j.natAbs<bJ then .ok (cJ 0 j.toNat,[]) M1 else .bad
 |_=>.bad
def dM(e f:EM):IM:=λσ M=>(e σ M).bind λx M1=>(f σ M1).bind λy M2=>match x,y with
 |.int i,.int j=>if i.natAbs<bJ/\j.natAbs<bJ then .ok (cJ i (j-i).toNat,[]) M2 else .bad
 |_,_=>.bad
def qd(M:Mem):W->Option (Nat×O×List W)
 |.ref a=>match M[a]? with
  |some (.lst xs)=>some (a,.lst xs,xs)
  |some (.bf xs)=>some (a,.bf xs,xs)
  |_=>none
 |_=>none
def fV:Nat->List W->List Src
 |_,[]=>[]
 |k,x::r=>.pair (.int k) x::fV (k+1) r
def vA(e:EM):IM:=λσ M=>(e σ M).bind λx M1=>match qd M1 x with
 |some (a,o,xs)=>.ok (fV 0 xs,[(a,o)]) M1
 |none=>.bad
def l_(e:EM):IM:=λσ M=>(e σ M).bind λx M1=>match cp M1 x with
 |some (a,kvs)=>.ok (kvs.map λkv=>.pair (.int kv.1) kv.2,[(a,.a6 M1.length kvs)]) (M1.set a (.a6 M1.length kvs)++[.cw])
 |none=>.bad
def df:b7->Mem->Option Mem
 |[(a,.a6 g kvs)],M=>if M[a]? =some (.a6 g kvs) then some (M.set a (.aI kvs)) else none
 |_,_=>none
def RS.df(c:b7):RS->RS
 |.nx σ M=>match VM.df c M with
  |some M'=>.nx σ M'
  |none=>.bad
 |.rt v M=>match VM.df c M with
  |some M'=>.rt v M'
  |none=>.bad
 |_=>.bad
def AK(e:EM):EM:=λσ M=>(e σ M).bind λx M1=>match cj M1 x with
 |some (_,xs)=>br xs.reverse M1
 |none=>.bad
def AL(e f:EM):EM:=λσ M=>(e σ M).bind λx M1=>(f σ M1).bind λy M2=>match x,y with
 |.int i,.int j=>if i.natAbs<bJ/\j.natAbs<bJ then br ((List.range (j-i).toNat).map λ(k:Nat)=>.int (i+(k:Int))) M2 else .bad
 |_,_=>.bad
def loop(c:b7)(g:GM)(body:SM):List Src->St->Mem->RS
 |[],σ,M=>if c.ok M then .nx σ M else .bad
 |x::r,σ,M=>if c.ok M then (x.get M).cz λv M1=>(g v σ M1).cz λbj M2=>match body bj M2 with
   |.nx bS M3=>loop c g body r bS M3
   |.ct bS M3=>loop c g body r bS M3
   |.bk bS M3=>.nx bS M3
   |.rt v M3=>.rt v M3
   |.ex v M3=>.ex v M3
   |.bad=>.bad
  else .bad
def bH(i:IM)(g:GM)(body:SM):SM:=λσ M=>(i σ M).cz λp M1=>loop p.2 g body p.1 σ M1
def qe(e:EM)(g:GM)(body:SM):SM:=λσ M=>(l_ e σ M).cz λp M1=>(loop p.2 g body p.1 σ M1).df p.2
def fJ(t:TM)(body:SM):Nat->St->Mem->RS
 |0,_,_=>.bad
 |n+1,σ,M=>(t σ M).cz λc M1=>if c then(match body σ M1 with
  |.nx bS M3=>fJ t body n bS M3
  |.ct bS M3=>fJ t body n bS M3
  |.bk bS M3=>.nx bS M3
  |.rt v M3=>.rt v M3
  |.ex v M3=>.ex v M3
  |.bad=>.bad) else .nx σ M1
def As(n:Nat)(t:TM)(body:SM):SM:=fJ t body n
def du(cl:List Nat)(σ:St):St:=cl.foldl (λσ j=>σ.set j none) σ
def comp(c:b7)(g:GM)(t:TM)(elt:EM):List Src->St->Mem->List W->R (List W)
 |[],_,M,acc=>if c.ok M then .ok acc M else .bad
 |x::r,σ,M,acc=>if c.ok M then (x.get M).bind λv M1=>(g v σ M1).bind λbj M2=>(t bj M2).bind λb M3=>if b then(elt bj M3).bind λy M4=>comp c g t elt r bj M4 (acc++[y]) else comp c g t elt r bj M3 acc
  else .bad
def b5(k:Nat)(cl:List Nat)(i:IM)(g:GM)(t:TM)(elt:EM):EM:=λσ M=>(i σ M).bind λp M1=>(comp p.2 g t elt p.1 (du cl (σ++List.replicate k none)) M1 []).bind br
def nF(k:Nat)(cl:List Nat)(e:EM)(g:GM)(t:TM)(elt:EM):EM:=λσ M=>(l_ e σ M).bind λp M1=>
 ((comp p.2 g t elt p.1 (du cl (σ++List.replicate k none)) M1 []).bind br).bind λv M2=>match df p.2 M2 with
   |some M3=>.ok v M3
   |none=>.bad
def Au(c:List Nat):SM:=λ_ M=>.ex (.str c) M
def mD(m:SM):SM:=λσ M=>match m σ M with
 |.ex _ _=>.bad
 |r=>r
def sM(t:TM):TM:=λσ M=>(t σ M).eB
def gm(c:CM)(a:AM):EM:=λσ M=>(a σ M).eB.bind c
def RS.unset(i:Nat):RS->RS
 |.nx σ M=>.nx (σ.set i none) M
 |_=>.bad
def gO(body:SM)(cs:List (List Nat))(i:Option Nat)(hd:SM):SM:=λσ M=>match body σ M with
 |.nx aA M'=>.nx aA M'
 |.ex (.str c) M'=>if cs.contains c then(match i with
  |none=>(match hd σ M' with
   |.nx bS M2=>.nx bS M2
   |_=>.bad)
  |some i=>(hd (σ.set i (some (.ref M'.length))) (M'++[.dr c])).unset i) else .bad
 |_=>.bad
def jY(ys ns:List (List Nat))(a:EM):EM:=λσ M=>(a σ M).bind λx M1=>match x with
 |.ref b=>match M1[b]? with
  |some (.dr c)=>if ys.contains c then .ok (.bl true) M1 else if ns.contains c then .ok (.bl false) M1 else .bad
  |_=>.bad
 |_=>.bad
noncomputable def dD:TM:=λ_ M=>.ok true M
abbrev CE:=Nat->CM
def fn(np n:Nat)(body:SM):CM:=λargs M=>if args.length=np then(match body (args.map some++List.replicate (n-np) none) M with
 |.rt v M'=>.ok v M'
 |.nx _ M'=>.ok .ao M'
 |.ex v M'=>.ex v M'
 |_=>.bad) else .bad
def bb(tab:CE->CE):Nat->CE
 |0=>λ_ _ _=>.bad
 |k+1=>tab (bb tab k)
def aD{M M':Mem}(h:M<+:M'){a:Nat}{o:O}(e:M[a]? =some o):M'[a]? =some o:=by obtain⟨r,rfl⟩:=h;rw[abM (aaZ.mp e).1];exact e
def pre_app(M:Mem)(r:Mem):M<+:M++r:=⟨r,rfl⟩
def dv(M:Mem):M<+:M:=List.prefix_refl _
def aF(M:Mem)(v:W)(ws:List W):Prop:=∃a,v=.ref a/\M[a]? =some (.lst ws)
def aT(M:Mem)(v:W)(ws:List W):Prop:=∃a,v=.ref a/\M[a]? =some (.tup ws)
def aF.mono{M M':Mem}{v:W}{ws:List W}(h:aF M v ws)(p:M<+:M'):aF M' v ws:=by obtain⟨a,e,q⟩:=h;exact⟨a,e,aD p q⟩
def aT.mono{M M':Mem}{v:W}{ws:List W}(h:aT M v ws)(p:M<+:M'):aT M' v ws:=by obtain⟨a,e,q⟩:=h;exact⟨a,e,aD p q⟩
def aF.bz{M:Mem}{v:W}{ws:List W}(h:aF M v ws):bz M v=some ws:=by obtain⟨a,rfl,q⟩:=h;simp only[VM.bz,q]
def aF.bK{M:Mem}{v:W}{ws:List W}(h:aF M v ws):bK M v=some ws:=by simp only[VM.bK,h.bz]
def aT.cL{M:Mem}{v:W}{ws:List W}(h:aT M v ws):cL M v=some ws:=by obtain⟨a,rfl,q⟩:=h;simp only[VM.cL,q]
def aT.bz{M:Mem}{v:W}{ws:List W}(h:aT M v ws):VM.bz M v=none:=by obtain⟨a,rfl,q⟩:=h;simp only[VM.bz,q]
def aT.bK{M:Mem}{v:W}{ws:List W}(h:aT M v ws):bK M v=some ws:=by simp only[VM.bK,h.bz,h.cL]
def gW{M:Mem}{a:Nat}{ws:List W}(h:M[a]? =some (.lst ws)):cj M (.ref a)=some (a,ws):=by simp only[VM.cj,h]
def fS{M:Mem}{a:Nat}{ws:List W}(h:M[a]? =some (.lst ws)):bz M (.ref a)=some ws:=by simp only[VM.bz,h]
def lZ{M:Mem}{a:Nat}{ws:List W}(h:M[a]? =some (.lst ws)):bK M (.ref a)=some ws:=by simp only[VM.bK,fS h]
def b9{ws:List W}{M:Mem}(h:ws.length<=16777216):br ws M=.ok (.ref M.length) (M++[.lst ws]):=aaN h
def kH{ws:List W}{M:Mem}(h:ws.length<=16777216):iH ws M=.ok (.ref M.length) (M++[.tup ws]):=aaN h
def aF.new(M:Mem)(ws:List W):aF (M++[.lst ws]) (.ref M.length) ws:=⟨_,rfl,by simp⟩
def aT.new(M:Mem)(ws:List W):aT (M++[.tup ws]) (.ref M.length) ws:=⟨_,rfl,by simp⟩
def b8(M:Mem)(o:O):(M++[o])[M.length]? =some o:=by simp
def pF(M:Mem)(o o':O):(M++[o]).set M.length o'=M++[o']:=by simp
structure ai where
 nx:St->Mem->Prop
 rt:W->Mem->Prop
 bk:St->Mem->Prop:=λ_ _=>False
 ct:St->Mem->Prop:=λ_ _=>False
def RS.Sat:RS->ai->Prop
 |.nx σ M,q=>q.nx σ M
 |.rt v M,q=>q.rt v M
 |.bk σ M,q=>q.bk σ M
 |.ct σ M,q=>q.ct σ M
 |.ex _ _,_=>False
 |.bad,_=>False
def aB{a b:SM}{σ:St}{M:Mem}{q:ai}(h:(a σ M).Sat {q with nx:=λaA M'=>(b aA M').Sat q}):(aj a b σ M).Sat q:=by
 unfold aj;cases e:a σ M with
 |nx aA M'=>rw[e] at h;exact h
 |rt v M'=>rw[e] at h;exact h
 |bk aA M'=>rw[e] at h;exact h
 |ct aA M'=>rw[e] at h;exact h
 |ex v M'=>rw[e] at h;exact h
 |bad=>rw[e] at h;exact h
def pT{e:EM}{g:GM}{σ bj:St}{M M1 M2:Mem}{v:W}{q:ai}(h1:e σ M=.ok v M1)(h2:g v σ M1=.ok bj M2)(h:q.nx bj M2):(aG e g σ M).Sat q:=by unfold aG;rw[h1];simp only[R.cz,h2];exact h
def bL{e:EM}{i:Nat}{σ:St}{M M1:Mem}{v:W}{q:ai}(h1:e σ M=.ok v M1)(h:q.nx (σ.set i (some v)) M1):(aG e (ar i) σ M).Sat q:=pT h1 rfl h
def e_{e:EM}{σ:St}{M M1:Mem}{v:W}{q:ai}(h1:e σ M=.ok v M1)(h:q.nx σ M1):(cH e σ M).Sat q:=by unfold cH;rw[h1];exact h
def aR{e:EM}{σ:St}{M M1:Mem}{v:W}{q:ai}(h1:e σ M=.ok v M1)(h:q.rt v M1):(aH e σ M).Sat q:=by unfold aH;rw[h1];exact h
def bT{σ:St}{M:Mem}{q:ai}(h:q.nx σ M):(aV σ M).Sat q:=h
def aM{t:TM}{a b:SM}{σ:St}{M M1:Mem}{c:Bool}{q:ai}(h1:t σ M=.ok c M1)(h2:c=true->(a σ M1).Sat q)(h3:c=false->(b σ M1).Sat q):(aN t a b σ M).Sat q:=by
 unfold aN;rw[h1];simp only[R.cz];cases c with
 |true=>exact h2 rfl
 |false=>exact h3 rfl
def RS.Sat.mono{r:RS}{q q':ai}(h:r.Sat q)(h1:∀σ M,q.nx σ M->q'.nx σ M)(h2:∀v M,q.rt v M->q'.rt v M)(h3:∀σ M,q.bk σ M->q'.bk σ M)(h4:∀σ M,q.ct σ M->q'.ct σ M):r.Sat q':=by
 cases r with
 |nx σ M=>exact h1 _ _ h
 |rt v M=>exact h2 _ _ h
 |bk σ M=>exact h3 _ _ h
 |ct σ M=>exact h4 _ _ h
 |ex v M=>exact h
 |bad=>exact h
def Eo{c:b7}{g:GM}{body:SM}{q:ai}(aQ:List Src)(P:Nat->St->Mem->Prop)(hs:∀(j:Nat) x σ M,aQ[j]? =some x->P j σ M->c.ok M=true/\∃v M1 bj M2,x.get M=.ok v M1/\g v σ M1=.ok bj M2/\(body bj M2).Sat {nx:=P (j+1),ct:=P (j+1),bk:=q.nx,rt:=q.rt})(hd:∀σ M,P aQ.length σ M->c.ok M=true/\q.nx σ M):∀(j:Nat) (σ:St) (M:Mem),j<=aQ.length->P j σ M->(loop c g body (aQ.drop j) σ M).Sat q:=by
 intro j;generalize hk:aQ.length-j=k;induction k generalizing j with
 |zero=>
  intro σ M hj hp;have e:j=aQ.length:=by omega
  subst e;rw[adf,loop];obtain⟨h1,h2⟩:=hd σ M hp;rw[aaN h1];exact h2
 |succ k ih=>
  intro σ M hj hp;have dG:j<aQ.length:=by omega
  rw[adg dG,loop];obtain⟨h1,v,M1,bj,M2,h2,h3,h4⟩:=hs j aQ[j] σ M (by simp[dG]) hp;rw[aaN h1,h2];simp only[R.cz,h3];cases e:body bj M2 with
  |nx aA M'=>rw[e] at h4;exact ih (j+1) (by omega) aA M' (by omega) h4
  |ct aA M'=>rw[e] at h4;exact ih (j+1) (by omega) aA M' (by omega) h4
  |bk aA M'=>rw[e] at h4;exact h4
  |rt v M'=>rw[e] at h4;exact h4
  |ex v M'=>rw[e] at h4;exact h4.elim
  |bad=>rw[e] at h4;exact h4.elim
def uQ{i:IM}{g:GM}{body:SM}{σ:St}{M M1:Mem}{aQ:List Src}{c:b7}{q:ai}(hi:i σ M=.ok (aQ,c) M1)(P:Nat->St->Mem->Prop)(h0:P 0 σ M1)(hs:∀(j:Nat) x σ M,aQ[j]? =some x->P j σ M->c.ok M=true/\∃v M1 bj M2,x.get M=.ok v M1/\g v σ M1=.ok bj M2/\(body bj M2).Sat {nx:=P (j+1),ct:=P (j+1),bk:=q.nx,rt:=q.rt})(hd:∀σ M,P aQ.length σ M->c.ok M=true/\q.nx σ M):(bH i g body σ M).Sat q:=by unfold bH;rw[hi];exact Eo aQ P hs hd 0 σ M1 (abV _) h0
def gj{i:IM}{k:Nat}{body:SM}{σ:St}{M M1:Mem}{lo:Int}{n:Nat}{q:ai}(hi:i σ M=.ok (cJ lo n,[]) M1)(P:Nat->St->Mem->Prop)(h0:P 0 σ M1)(hs:∀(j:Nat) σ M,j<n->P j σ M->(body (σ.set k (some (.int (lo+(j:Int))))) M).Sat {nx:=P (j+1),ct:=P (j+1),bk:=q.nx,rt:=q.rt})(hd:∀σ M,P n σ M->q.nx σ M):(bH i (ar k) body σ M).Sat q:=by
 have hl:(cJ lo n).length=n:=by simp[cJ]
 refine uQ hi P h0 (λj x σ M hx hp=>⟨rfl,?_⟩) λσ M hp=>⟨rfl,hd σ M (by rw[hl] at hp;exact hp)⟩
 have hj:j<n:=by rw[<-hl];exact(aaZ.mp hx).1
 have e:x=.val (.int (lo+(j:Int))):=by unfold cJ at hx;rw[abS,List.getElem?_range hj] at hx;exact(aa2 hx).symm
 subst e;exact⟨_,M,_,M,rfl,rfl,hs j σ M hj hp⟩
def fb{e:EM}{k:Nat}{body:SM}{σ:St}{M M1:Mem}{v:W}{xs:List W}{q:ai}(he:e σ M=.ok v M1)(hv:aF M1 v xs)(P:Nat->St->Mem->Prop)(h0:P 0 σ M1)(hl:∀(j:Nat) σ M,j<=xs.length->P j σ M->aF M v xs)(hs:∀(j:Nat) x σ M,xs[j]? =some x->P j σ M->(body (σ.set k (some x)) M).Sat {nx:=P (j+1),ct:=P (j+1),bk:=q.nx,rt:=q.rt})(hd:∀σ M,P xs.length σ M->q.nx σ M):(bH (bF e) (ar k) body σ M).Sat q:=by
 obtain⟨a,rfl,ha⟩:=hv;have hi:bF e σ M=.ok (xs.map .val,[(a,.lst xs)]) M1:=by unfold bF;rw[he];simp only[R.bind,ha]
 have hle:(xs.map Src.val).length=xs.length:=by simp
 have ck:∀{j:Nat} {σ:St} {M:Mem},j<=xs.length->P j σ M->b7.ok [(a,O.lst xs)] M=true:=λ{j σ M} hj hp=>by obtain⟨b,eb,hb⟩:=hl j σ M hj hp;cases eb;simp[b7.ok,hb]
 refine uQ hi P h0 (λj x σ M hx hp=>?_) λσ M hp=>?_
 ·have hj:j<xs.length:=by rw[<-hle];exact(aaZ.mp hx).1
  rw[abS] at hx;cases e2:xs[j]? with
  |none=>rw[e2] at hx;cases hx
  |some w=>rw[e2] at hx;have ex:x=.val w:=(aa2 hx).symm;subst ex;exact⟨ck (by omega) hp,_,M,_,M,rfl,rfl,hs j w σ M e2 hp⟩
 ·rw[hle] at hp;exact⟨ck (aaY _) hp,hd σ M hp⟩
def bM{np n:Nat}{body:SM}{args:List W}{M:Mem}{Q:W->Mem->Prop}(hl:args.length=np)(h:(body (args.map some++List.replicate (n-np) none) M).Sat {nx:=λ_ M'=>Q .ao M',rt:=Q}):∃v M',fn np n body args M=.ok v M'/\Q v M':=by
 unfold fn;rw[aaN hl];cases e:body (args.map some++List.replicate (n-np) none) M with
 |nx aA M'=>rw[e] at h;exact⟨_,_,rfl,h⟩
 |rt v M'=>rw[e] at h;exact⟨_,_,rfl,h⟩
 |ct aA M'=>rw[e] at h;exact h.elim
 |bk aA M'=>rw[e] at h;exact h.elim
 |ex v M'=>rw[e] at h;exact h.elim
 |bad=>rw[e] at h;exact h.elim
inductive a_{α β:Type}(R:α->β->Prop):List α->List β->Prop
 |nil:a_ R [] []
 |cons {a b l m}:R a b->a_ R l m->a_ R (a::l) (b::m)
theorem a_.imp{α β:Type}{R S:α->β->Prop}(f:∀a b,R a b->S a b):∀{l:List α} {m:List β},a_ R l m->a_ S l m
 |_,_,.nil=>.nil
 |_,_,.cons h t=>.cons (f _ _ h) (a_.imp f t)
theorem a_.len{α β:Type}{R:α->β->Prop}:∀{l:List α} {m:List β},a_ R l m->l.length=m.length
 |_,_,.nil=>rfl
 |_,_,.cons _ t=>by simp[a_.len t]
theorem a_.app{α β:Type}{R:α->β->Prop}:∀{l l2:List α} {m m2:List β},a_ R l m->a_ R l2 m2->a_ R (l++l2) (m++m2)
 |_,_,_,_,.nil,s=>s
 |_,_,_,_,.cons h t,s=>.cons h (a_.app t s)
theorem a_.at{α β:Type}{R:α->β->Prop}:∀{l:List α} {m:List β} {i:Nat} {x:α},a_ R l m->l[i]? =some x->∃y,m[i]? =some y/\R x y
 |_,_,_,_,.nil,e=>by simp at e
 |_,_,0,_,.cons r _,e=>by simp at e;subst e;exact⟨_,rfl,r⟩
 |_,_,i+1,x,.cons _ t,e=>by obtain⟨y,h1,h2⟩:=a_.at (i:=i) (x:=x) t (by simpa using e);exact⟨y,by simpa using h1,h2⟩
theorem a_.at'{α β:Type}{R:α->β->Prop}:∀{l:List α} {m:List β} {i:Nat} {y:β},a_ R l m->m[i]? =some y->∃x,l[i]? =some x/\R x y
 |_,_,_,_,.nil,e=>by simp at e
 |_,_,0,_,.cons r _,e=>by simp at e;subst e;exact⟨_,rfl,r⟩
 |_,_,i+1,y,.cons _ t,e=>by obtain⟨x,h1,h2⟩:=a_.at' (i:=i) (y:=y) t (by simpa using e);exact⟨x,by simpa using h1,h2⟩
theorem za{c:b7}{i:Nat}{t:TM}{elt:EM}{σ:St}(p:W->Bool)(P:W->W->Mem->Prop)(mono:∀x y M M',M<+:M'->P x y M->P x y M'):∀(xs:List W) (M:Mem) (aA:St) (acc:List W),(∀v,aA.set i (some v)=σ.set i (some v))-> (∀M',M<+:M'->c.ok M'=true)-> (∀x∈xs,∀M',M<+:M'->∃M1,t (σ.set i (some x)) M'=.ok (p x) M1/\M'<+:M1/\(p x=true->∃y M2,elt (σ.set i (some x)) M1=.ok y M2/\M1<+:M2/\P x y M2))->
 ∃ys M',comp c (ar i) t elt (xs.map .val) aA M acc=.ok (acc++ys) M'/\M<+:M'/\a_ (λx y=>P x y M') (xs.filter p) ys
 |[],M,aA,acc,_,hc,_=>⟨[],M,by rw[abJ,comp,aaN (hc M (dv M)),ab_],dv M,.nil⟩
 |x::r,M,aA,acc,ou,hc,h=>by
  obtain⟨M1,ht,p1,h2⟩:=h x abL M (dv M);have hg:ar i x aA M=.ok (σ.set i (some x)) M:=by unfold ar;rw[ou]
  have sN:∀v,(σ.set i (some x)).set i (some v)=σ.set i (some v):=λv=>by simp
  rw[aa8,comp,aaN (hc M (dv M))];simp only[Src.get,R.bind,hg,ht];cases hp:p x with
  |false=>
   obtain⟨ys,M',e,q,a⟩:=za p P mono r M1 (σ.set i (some x)) acc sN (λM' q=>hc M' (p1.trans q)) λz hz M' q=>h z (abo _ hz) M' (p1.trans q)
   simp only[abi,aa_];exact⟨ys,M',e,p1.trans q,by rw[ab5,hp];exact a⟩
  |true=>
   obtain⟨y,M2,he,p2,py⟩:=h2 hp;obtain⟨ys,M',e,q,a⟩:=za p P mono r M2 (σ.set i (some x)) (acc++[y]) sN (λM' q=>hc M' (p1.trans (p2.trans q))) λz hz M' q=>h z (abo _ hz) M' (p1.trans (p2.trans q))
   simp only[aaW,he];refine⟨y::ys,M',by rw[e];simp,p1.trans (p2.trans q),?_⟩;rw[ab5,hp];exact .cons (mono _ _ _ _ q py) a
theorem jd{c:b7}{i:Nat}{t:TM}{elt:EM}{σ:St}{M:Mem}(p:W->Bool)(f:W->W):∀(xs:List W) (aA:St) (acc:List W),(∀v,aA.set i (some v)=σ.set i (some v))->c.ok M=true-> (∀x∈xs,t (σ.set i (some x)) M=.ok (p x) M/\(p x=true->elt (σ.set i (some x)) M=.ok (f x) M))->
 comp c (ar i) t elt (xs.map .val) aA M acc=.ok (acc++(xs.filter p).map f) M
 |[],aA,acc,_,hc,_=>by rw[abJ,comp,aaN hc];simp
 |x::r,aA,acc,ou,hc,h=>by
  obtain⟨ht,h2⟩:=h x abL;have hg:ar i x aA M=.ok (σ.set i (some x)) M:=by unfold ar;rw[ou]
  have sN:∀v,(σ.set i (some x)).set i (some v)=σ.set i (some v):=λv=>by simp
  rw[aa8,comp,aaN hc];simp only[Src.get,R.bind,hg,ht];cases hp:p x with
  |false=>simp only[abi,aa_];rw[jd p f r _ acc sN hc λz hz=>h z (abo _ hz),ab5,hp];simp
  |true=>simp only[aaW,h2 hp];rw[jd p f r _ (acc++[f x]) sN hc λz hz=>h z (abo _ hz),ab5,hp];simp
def i7(lo:Int)(n:Nat):List W:=(List.range n).map λ(k:Nat)=>.int (lo+(k:Int))
def pq(lo:Int)(n:Nat):cJ lo n=(i7 lo n).map .val:=by simp[cJ,i7]
def yE{t:TM}{body:SM}{k:Nat}{σ:St}{M M1:Mem}{q:ai}(ht:t σ M=.ok true M1)(hb:(body σ M1).Sat {nx:=λaA M'=>(fJ t body k aA M').Sat q,ct:=λaA M'=>(fJ t body k aA M').Sat q,bk:=q.nx,rt:=q.rt}):(fJ t body (k+1) σ M).Sat q:=by
 rw[fJ,ht];simp only[R.cz,aaW];cases e:body σ M1 with
 |nx aA M'=>rw[e] at hb;exact hb
 |rt v M'=>rw[e] at hb;exact hb
 |bk aA M'=>rw[e] at hb;exact hb
 |ct aA M'=>rw[e] at hb;exact hb
 |ex v M'=>rw[e] at hb;exact hb
 |bad=>rw[e] at hb;exact hb
def tZ{t:TM}{body:SM}{k:Nat}{σ:St}{M M1:Mem}{q:ai}(ht:t σ M=.ok false M1)(h:q.nx σ M1):(fJ t body (k+1) σ M).Sat q:=by rw[fJ,ht];simp only[R.cz,abi,aa_];exact h
end VM
namespace LV
open VM
def cZ:CM:=fn 1 1 (
 aH (dm (bW [.int] (aa 0)) (mz (bW [.bool] (aa 0)))))
def iX:CM:=fn 2 2 (
 aj (
  aN (tB (af oEq (aa 0) (aS (ag)))) (
   aH (eC (.int 0))) (
   aV)) (
 aH (af bp (af av (aa 0) (af oMod (aa 1) (ak bx (ae (aa 0) ag)))) (af bN (eC (.int 3)) (af oDiv (aa 1) (ak bx (ae (aa 0) ag)))))))
def jM(kG:CM):CM:=fn 2 6 (
 aj (
  aG (aS (ae (aa 0) ag)) (ar 2)) (
 aj (
  aG (aS (ae (aa 1) ag)) (ar 3)) (
 aj (
  As 1000000000 (tB (af bV (aa 3) (aS (ag)))) (
   aj (
    aG (b_ mB (aa 2) (ag)) (ar 4)) (
   aj (
    aG (b_ mB (aa 3) (ag)) (ar 5)) (
   aN (tB (bW [.list,.tuple] (aa 5))) (
    aj (
     aN (tB (af bV (bW [.list] (aa 4)) (bW [.list] (aa 5)))) (
      aH (eC (.bl false))) (
      aV)) (
    aj (
     aN (bZ (tB (af bV (bW [.tuple] (aa 4)) (bW [.tuple] (aa 5)))) (tB (af bV (ak bx (ae (aa 4) ag)) (ak bx (ae (aa 5) ag))))) (
      aH (eC (.bl false))) (
      aV)) (
    aj (
     cH (b_ nv (aa 2) (ae (aa 4) ag))) (
    cH (b_ nv (aa 3) (ae (aa 5) ag)))))) (
    aN (tB (dQ (aa 5))) (
     aN (tB (mq (aa 4))) (
      aH (eC (.bl false))) (
      aV)) (
     aN (tB (bW [.bool] (aa 5))) (
      aN (bZ (b6 (tB (bW [.bool] (aa 4)))) (tB (af bV (aa 4) (aa 5)))) (
       aH (eC (.bl false))) (
       aV)) (
      aN (tB (bW [.str] (aa 5))) (
       aN (bZ (b6 (tB (bW [.str] (aa 4)))) (tB (af bV (aa 4) (aa 5)))) (
        aH (eC (.bl false))) (
        aV)) (
       aN (bZ (b6 (tB (ak kG (ae (aa 4) ag)))) (tB (af bV (aa 4) (aa 5)))) (
        aH (eC (.bl false))) (
        aV))))))))) (
 aH (eC (.bl true))))))
def o7:CM:=fn 1 1 (
 aH (af av (aS (ae (cD (ae (eC (.int 2)) (ae (eC (.int 2)) ag))) (ae (cD (ae (eC (.int 2)) (ae (eC (.int 2)) ag))) (ae (cD (ae (eC (.int 1)) (ae (eC (.int 3)) ag))) (ae (cD (ae (eC (.int 3)) (ae (eC (.int 1)) ag))) (ae (cD (ae (eC (.int 2)) (ae (eC (.int 1)) ag))) (ae (cD (ae (eC (.int 1)) (ae (eC (.int 2)) ag))) (ae (cD (ae (eC (.int 2)) (ae (eC (.int 2)) ag))) (ae (cD (ae (eC (.int 1)) (ae (eC (.int 1)) ag))) ag))))))))) (af oMod (aa 0) (eC (.int 8)))))
def o4:CM:=fn 2 9 (
 aj (
  aG (af bN (aa 0) (aa 1)) (ar 2)) (
 aj (
  aG (b5 1 [] (cg (af bN (eC (.int 3)) (aa 2))) (ar 9) (dD) (aS (ag))) (ar 3)) (
 aj (
  bH (cg (af bN (aa 2) (aa 2))) (ar 4) (
   aj (
    aG (af oDiv (aa 4) (aa 2)) (ar 5)) (
   aj (
    aG (af oMod (aa 4) (aa 2)) (ar 6)) (
   aj (
    aG (af bp (af bN (af oDiv (aa 5) (aa 0)) (aa 0)) (af oDiv (aa 6) (aa 1))) (ar 7)) (
   bH (bF (aS (ae (aa 5) (ae (af bp (aa 2) (aa 6)) (ae (af bp (af bN (eC (.int 2)) (aa 2)) (aa 7)) ag))))) (ar 8) (
    cH (b_ fI (af av (aa 3) (aa 8)) (ae (aa 4) ag)))))))) (
 aH (aa 3)))))
def o5:CM:=fn 3 11 (
 aj (
  aG (af bN (aa 0) (aa 1)) (ar 3)) (
 aj (
  aG (af oMod (aa 2) (aa 3)) (ar 4)) (
 aj (
  aG (aS (ag)) (ar 5)) (
 aj (
  bH (cg (aa 3)) (ar 6) (
   bH (cg (aa 3)) (ar 7) (
    aj (
     aG (af oMod (af bp (af bp (af bN (aa 1) (af oMod (aa 6) (aa 0))) (af oDiv (aa 6) (aa 0))) (aa 7)) (aa 3)) (ar 8)) (
    cH (b_ fI (aa 5) (ae (af bp (af oMod (af bp (af bN (aa 8) (af av (aS (ae (eC (.int 1)) (ae (af nU (aa 3) (eC (.int 1))) ag))) (af oMod (af oDiv (aa 2) (eC (.int 5))) (eC (.int 2))))) (aa 4)) (aa 3)) (eC (.int 1))) ag)))))) (
 aj (
  aN (eP (tB (af oEq (af oMod (af oDiv (aa 2) (eC (.int 7))) (eC (.int 2))) (eC (.int 1)))) (tB (af oEq (aa 0) (aa 1)))) (
   aj (
    aG (aS (ag)) (ar 9)) (
   aj (
    bH (cg (af bN (aa 3) (aa 3))) (ar 10) (
     cH (b_ fI (aa 9) (ae (af av (aa 5) (af bp (af bN (af oMod (aa 10) (aa 3)) (aa 3)) (af oDiv (aa 10) (aa 3)))) ag)))) (
   aG (aa 9) (ar 5)))) (
   aV)) (
 aH (aa 5)))))))
def m8:CM:=fn 3 6 (
 aj (
  aG (aS (ag)) (ar 3)) (
 aj (
  bH (cg (ak bx (ae (aa 0) ag))) (ar 4) (
   aj (
    aG (eC (.int 0)) (ar 5)) (
   aj (
    aN (tB (af oLt (aa 4) (ak bx (ae (aa 1) ag)))) (
     aG (af av (aa 1) (aa 4)) (ar 5)) (
     aV)) (
   cH (b_ fI (aa 3) (ae (af bN (af av (aa 0) (aa 4)) (ak gx (ae (af ju (af oMod (af bp (aa 5) (aa 4)) (eC (.int 7))) (aa 2)) ag))) ag)))))) (
 aH (aa 3))))
def iT:CM:=fn 4 6 (
 aj (
  bH (bF (aa 0)) (ar 4) (
   aN (tB (af iN (aa 2) (aa 4))) (
    bH (bF (aa 4)) (ar 5) (
     aN (eP (tB (af bV (aa 5) (aa 2))) (tB (af oEq (af av (aa 1) (aa 5)) (aa 3)))) (
      aH (eC (.bl true))) (
      aV))) (
    aV))) (
 aH (eC (.bl false))))
def jJ(Kt:CM):CM:=fn 3 7 (
 aj (
  aG (aS (ag)) (ar 3)) (
 aj (
  bH (cg (ak bx (ae (aa 1) ag))) (ar 4) (
   aj (
    aG (aS (ag)) (ar 5)) (
   aj (
    bH (dM (eC (.int 1)) (af bp (aa 2) (eC (.int 1)))) (ar 6) (
     aN (eP (tB (af oEq (af av (aa 1) (aa 4)) (eC (.int 0)))) (b6 (tB (ak Kt (ae (aa 0) (ae (aa 1) (ae (aa 4) (ae (aa 6) ag)))))))) (
      cH (b_ fI (aa 5) (ae (aa 6) ag))) (
      aV))) (
   cH (b_ fI (aa 3) (ae (aa 5) ag)))))) (
 aH (aa 3))))
def ny:CM:=fn 5 7 (
 aj (
  aG (aa 4) (eQ (aa 1) (aa 3))) (
 aj (
  aG (aS (ag)) (eQ (aa 2) (aa 3))) (
 bH (bF (aa 0)) (ar 5) (
  aN (tB (af iN (aa 3) (aa 5))) (
   bH (bF (aa 5)) (ar 6) (
    aG (b5 1 [] (bF (af av (aa 2) (aa 6))) (ar 7) (tB (af bV (aa 7) (aa 4))) (aa 7)) (eQ (aa 2) (aa 6)))) (
   aV)))))
def eM:CM:=fn 4 4 (
 aH (b5 1 [] (bF (af av (aa 0) (aa 2))) (ar 4) (tB (af iN (aa 3) (af av (aa 1) (aa 4)))) (aa 4)))
def eN:CM:=fn 5 5 (
 aj (
  aN (bZ (tB (af oLt (aa 2) (eC (.int 0)))) (bZ (tB (af ju (aa 2) (ak bx (ae (aa 0) ag)))) (bZ (tB (af oLt (aa 3) (eC (.int 1)))) (tB (af jt (aa 3) (aa 4)))))) (
   aH (eC (.bl false))) (
   aV)) (
 aH (af l7 (aa 3) (b5 1 [] (bF (af av (aa 0) (aa 2))) (ar 5) (dD) (af av (aa 1) (aa 5))))))
def m5(rP rQ:CM):CM:=fn 5 6 (
 aj (
  aG (af av (aa 3) (eC (.int 1))) (ar 5)) (
 aj (
  aN (bZ (tB (af oLt (aa 5) (eC (.int 0)))) (bZ (tB (af ju (aa 5) (ak bx (ae (aa 1) ag)))) (tB (af bV (af av (aa 1) (aa 5)) (eC (.int 0)))))) (
   aH (eC (.bl false))) (
   aV)) (
 aj (
  aN (tB (af oEq (af av (aa 3) (eC (.int 0))) (eC (.str [102,105,101,108,100])))) (
   aH (af oEq (af av (aa 2) (aa 5)) (aS (ae (af av (aa 3) (eC (.int 2))) ag)))) (
   aV)) (
 aj (
  aN (b6 (tB (ak rQ (ae (aa 0) (ae (aa 1) (ae (af av (aa 3) (eC (.int 3))) (ae (af av (aa 3) (eC (.int 2))) (ae (aa 4) ag)))))))) (
   aH (eC (.bl false))) (
   aV)) (
 aH (af oEq (ak rP (ae (aa 0) (ae (aa 2) (ae (af av (aa 3) (eC (.int 3))) (ae (af av (aa 3) (eC (.int 2))) ag))))) (aS (ae (aa 5) ag))))))))
def jL(rP rQ:CM):CM:=fn 5 6 (
 aj (
  aN (tB (af oEq (af av (aa 3) (eC (.int 0))) (eC (.str [102,105,101,108,100])))) (
   aj (
    aG (af av (aa 3) (eC (.int 1))) (ar 5)) (
   aj (
    aN (bZ (tB (af oLt (aa 5) (eC (.int 0)))) (bZ (tB (af ju (aa 5) (ak bx (ae (aa 1) ag)))) (tB (af bV (af av (aa 1) (aa 5)) (eC (.int 0)))))) (
     aH (eC (.bl false))) (
     aV)) (
   aH (af oEq (af av (aa 2) (aa 5)) (aS (ag)))))) (
   aV)) (
 aj (
  aN (tB (af oEq (af av (aa 3) (eC (.int 0))) (eC (.str [103,114,111,117,112])))) (
   aj (
    aN (b6 (tB (ak rQ (ae (aa 0) (ae (aa 1) (ae (af av (aa 3) (eC (.int 1))) (ae (af av (aa 3) (eC (.int 2))) (ae (aa 4) ag)))))))) (
     aH (eC (.bl false))) (
     aV)) (
   aH (af oEq (ak rP (ae (aa 0) (ae (aa 2) (ae (af av (aa 3) (eC (.int 1))) (ae (af av (aa 3) (eC (.int 2))) ag))))) (aS (ag))))) (
   aV)) (
 aj (
  aN (bZ (tB (af oLt (af av (aa 3) (eC (.int 1))) (eC (.int 0)))) (bZ (tB (af ju (af av (aa 3) (eC (.int 1))) (ak bx (ae (aa 0) ag)))) (tB (af oLt (af av (aa 3) (eC (.int 2))) (eC (.int 1)))))) (
   aH (eC (.bl false))) (
   aV)) (
 aH (af jt (b_ kJ (b5 0 [5] (bF (af av (aa 0) (af av (aa 3) (eC (.int 1))))) (ar 5) (dD) (af av (aa 1) (aa 5))) (ae (af av (aa 3) (eC (.int 2))) ag)) (eC (.int 1)))))))
def m7(rP rQ:CM):CM:=fn 4 7 (
 aj (
  bH (cg (ak bx (ae (aa 1) ag))) (ar 4) (
   aN (tB (af oEq (ak bx (ae (af av (aa 2) (aa 4)) ag)) (eC (.int 1)))) (
    aH (eC (.bl true))) (
    aV))) (
 aj (
  bH (cg (ak bx (ae (aa 0) ag))) (ar 5) (
   bH (dM (eC (.int 1)) (af bp (aa 3) (eC (.int 1)))) (ar 6) (
    aN (tB (ak rQ (ae (aa 0) (ae (aa 1) (ae (aa 5) (ae (aa 6) (ae (aa 3) ag))))))) (
     aN (tB (af oEq (ak bx (ae (ak rP (ae (aa 0) (ae (aa 2) (ae (aa 5) (ae (aa 6) ag))))) ag)) (eC (.int 1)))) (
      aH (eC (.bl true))) (
      aV)) (
     aV)))) (
 aH (eC (.bl false)))))
def lW(kG:CM):CM:=fn 1 2 (
 aj (
  aN (bZ (b6 (tB (bW [.tuple] (aa 0)))) (bZ (tB (af oLt (ak bx (ae (aa 0) ag)) (eC (.int 3)))) (b6 (tB (bW [.str] (af av (aa 0) (eC (.int 0)))))))) (
   aH (eC (.bl false))) (
   aV)) (
 aj (
  bH (bF (f9 (aa 0) (fi (eC (.int 1))) g_)) (ar 1) (
   aN (b6 (tB (ak kG (ae (aa 1) ag)))) (
    aH (eC (.bl false))) (
    aV))) (
 aj (
  aN (tB (af oEq (af av (aa 0) (eC (.int 0))) (eC (.str [102,105,101,108,100])))) (
   aH (af oEq (ak bx (ae (aa 0) ag)) (eC (.int 3)))) (
   aV)) (
 aH (dm (af oEq (af av (aa 0) (eC (.int 0))) (eC (.str [103,114,111,117,112]))) (af oEq (ak bx (ae (aa 0) ag)) (eC (.int 4))))))))
def o6(J7:CM):CM:=fn 1 2 (
 aj (
  aN (b6 (tB (bW [.list] (aa 0)))) (
   aH (eC (.bl false))) (
   aV)) (
 aj (
  bH (bF (aa 0)) (ar 1) (
   aN (b6 (tB (ak J7 (ae (aa 1) ag)))) (
    aH (eC (.bl false))) (
    aV))) (
 aH (eC (.bl true)))))
def kD(kG:CM):CM:=fn 1 2 (
 aj (
  aN (bZ (b6 (tB (bW [.tuple] (aa 0)))) (bZ (tB (af oLt (ak bx (ae (aa 0) ag)) (eC (.int 2)))) (b6 (tB (bW [.str] (af av (aa 0) (eC (.int 0)))))))) (
   aH (eC (.bl false))) (
   aV)) (
 aj (
  bH (bF (f9 (aa 0) (fi (eC (.int 1))) g_)) (ar 1) (
   aN (b6 (tB (ak kG (ae (aa 1) ag)))) (
    aH (eC (.bl false))) (
    aV))) (
 aj (
  aN (tB (af oEq (af av (aa 0) (eC (.int 0))) (eC (.str [102,105,101,108,100])))) (
   aH (af oEq (ak bx (ae (aa 0) ag)) (eC (.int 2)))) (
   aV)) (
 aH (dm (af iN (af av (aa 0) (eC (.int 0))) (aS (ae (eC (.str [103,114,111,117,112])) (ae (eC (.str [116,119,105,99,101])) ag)))) (af oEq (ak bx (ae (aa 0) ag)) (eC (.int 3))))))))
def kE:CM:=fn 3 6 (
 aj (
  bH (bF (aa 0)) (ar 3) (
   aj (
    aG (b5 1 [] (bF (aa 3)) (ar 6) (dD) (af av (aa 1) (aa 6))) (ar 4)) (
   bH (dM (eC (.int 1)) (af bp (aa 2) (eC (.int 1)))) (ar 5) (
    aN (tB (af jt (b_ kJ (aa 4) (ae (aa 5) ag)) (eC (.int 1)))) (
     aH (eC (.bl false))) (
     aV))))) (
 aH (eC (.bl true))))
def o3(yI:CM):CM:=fn 4 5 (
 aj (
  bH (cg (ak bx (ae (aa 1) ag))) (ar 4) (
   aN (bZ (tB (af oEq (af av (aa 2) (aa 4)) (eC (.int 0)))) (tB (af l7 (af av (aa 1) (aa 4)) (aS (ae (eC (.int 0)) (ae (af av (aa 2) (aa 4)) ag)))))) (
    aH (eC (.bl false))) (
    aV))) (
 aH (ak yI (ae (aa 0) (ae (aa 2) (ae (aa 3) ag))))))
def jI(rH:CM):CM:=fn 4 7 (
 aj (
  bH (cg (ak bx (ae (aa 1) ag))) (ar 4) (
   aN (eP (tB (af oEq (af av (aa 1) (aa 4)) (eC (.int 0)))) (tB (af oEq (af av (aa 2) (aa 4)) (aS (ag))))) (
    aH (eC (.bl true))) (
    aV))) (
 aj (
  bH (cg (ak bx (ae (aa 0) ag))) (ar 5) (
   bH (dM (eC (.int 1)) (af bp (aa 3) (eC (.int 1)))) (ar 6) (
    aN (tB (ak rH (ae (aa 0) (ae (aa 1) (ae (aa 2) (ae (cD (ae (eC (.str [103,114,111,117,112])) (ae (aa 5) (ae (aa 6) ag)))) (ae (aa 3) ag))))))) (
     aH (eC (.bl true))) (
     aV)))) (
 aH (eC (.bl false)))))
def rK(rD Ov Jn yF:CM):CM:=fn 5 8 (
 aj (
  aG (ak fT (ae (aa 1) ag)) (ar 5)) (
 aj (
  aG (ak rD (ae (aa 0) (ae (aa 1) (ae (aa 3) ag)))) (ar 6)) (
 aj (
  bH (bF (aa 2)) (ar 7) (
   aj (
    aN (b6 (tB (ak Jn (ae (aa 0) (ae (aa 5) (ae (aa 6) (ae (aa 7) (ae (aa 3) ag)))))))) (
     aH (eC .ao)) (
     aV)) (
   aj (
    aN (eP (tB (aa 4)) (tB (ak yF (ae (aa 0) (ae (aa 5) (ae (aa 6) (ae (aa 3) ag))))))) (
     aH (eC .ao)) (
     aV)) (
   cH (ak Ov (ae (aa 0) (ae (aa 5) (ae (aa 6) (ae (af av (aa 7) (eC (.int 1))) (ae (af av (aa 7) (eC (.int 2))) ag)))))))))) (
 aH (cD (ae (aa 5) (ae (aa 6) ag)))))))
def rb(rD:CM):CM:=fn 5 10 (
 aj (
  aG (ak fT (ae (aa 1) ag)) (ar 5)) (
 aj (
  aG (af oDiv (aa 3) (eC (.int 8))) (ar 6)) (
 aj (
  bH (cg (af oMod (aa 3) (eC (.int 4)))) (ar 7) (
   aj (
    aG (af oMod (af bp (aa 6) (af bN (eC (.int 5)) (aa 7))) (ak bx (ae (aa 5) ag))) (ar 8)) (
   aj (
    aG (af av (ak rD (ae (aa 0) (ae (aa 5) (ae (aa 2) ag)))) (aa 8)) (ar 9)) (
   aj (
    aN (tB (af oEq (af oMod (af oDiv (aa 3) (eC (.int 4))) (eC (.int 2))) (eC (.int 0)))) (
     aG (AL (eC (.int 1)) (af bp (aa 2) (eC (.int 1)))) (ar 9)) (
     aV)) (
   aN (eP (tB (af oEq (af av (aa 5) (aa 8)) (eC (.int 0)))) (tB (af bV (aa 9) (aS (ag))))) (
    aG (af av (aa 9) (af oMod (af bp (aa 4) (aa 7)) (ak bx (ae (aa 9) ag)))) (eQ (aa 5) (aa 8))) (
    aV)))))) (
 aH (aa 5)))))
def m6(pG:CM):CM:=fn 2 2 (
 aj (
  aN (bZ (tB (dQ (aa 1))) (tB (dQ (aa 0)))) (
   aH (dm (dQ (aa 1)) (dQ (aa 0)))) (
   aV)) (
 aH (dm (bW [.list] (aa 0)) (ak pG (ae (aa 0) (ae (af av (aa 1) (eC (.int 0))) ag))))))
def rE(rH Jx yJ yF:CM):CM:=fn 5 5 (
 aj (
  aN (tB (dQ (aa 3))) (
   aj (
    aN (tB (ak yF (ae (aa 0) (ae (aa 1) (ae (aa 2) (ae (aa 4) ag)))))) (
     aH (eC (.bl false))) (
     aV)) (
   aH (mz (ak Jx (ae (aa 0) (ae (aa 1) (ae (aa 2) (ae (aa 4) ag)))))))) (
   aV)) (
 aH (dm (ak yJ (ae (aa 3) ag)) (ak rH (ae (aa 0) (ae (aa 1) (ae (aa 2) (ae (aa 3) (ae (aa 4) ag)))))))))
def rh:CM:=fn 3 6 (
 aj (
  aG (aS (ag)) (ar 3)) (
 aj (
  bH (cg (ak bx (ae (aa 0) ag))) (ar 4) (
   aj (
    aG (af oEq (af av (aa 0) (aa 4)) (af bp (eC (.int 1)) (af oMod (aa 2) (aa 1)))) (ar 5)) (
   aj (
    aN (tB (af oEq (af oDiv (aa 4) (aa 1)) (af oMod (af oDiv (aa 2) (aa 1)) (aa 1)))) (
     aG (eC (.bl false)) (ar 5)) (
     aV)) (
   cH (b_ fI (aa 3) (ae (af bN (af av (aa 0) (aa 4)) (ak gx (ae (aa 5) ag))) ag)))))) (
 aH (aa 3))))
end LV
namespace PB
open VM
def m9:CM:=fn 2 2 (
 aH (b5 1 [] (cg (aa 0)) (ar 2) (dD) (af bp (af bN (aa 1) (aa 0)) (aa 2))))
def mZ:CM:=fn 2 2 (
 aH (b5 1 [] (cg (aa 0)) (ar 2) (dD) (af bp (af bN (aa 2) (aa 0)) (aa 1))))
def m_:CM:=fn 3 9 (
 aj (
  aG (af bN (aa 0) (aa 1)) (ar 3)) (
 aj (
  aG (af bN (af oDiv (aa 2) (aa 0)) (aa 0)) (ar 4)) (
 aj (
  aG (af bN (af oMod (aa 2) (aa 0)) (aa 1)) (ar 5)) (
 aj (
  aG (aS (ag)) (ar 6)) (
 aj (
  bH (dM (aa 4) (af bp (aa 4) (aa 0))) (ar 7) (
   bH (dM (aa 5) (af bp (aa 5) (aa 1))) (ar 8) (
    cH (b_ fI (aa 6) (ae (af bp (af bN (aa 7) (aa 3)) (aa 8)) ag))))) (
 aH (aa 6)))))))
def rJ(JK Jk JL:CM):CM:=fn 2 6 (
 aj (
  aG (af bN (aa 0) (aa 1)) (ar 2)) (
 aj (
  aG (b5 1 [] (cg (aa 2)) (ar 6) (dD) (ak JK (ae (aa 2) (ae (aa 6) ag)))) (ar 3)) (
 aj (
  aG (b5 1 [] (cg (aa 2)) (ar 6) (dD) (ak Jk (ae (aa 2) (ae (aa 6) ag)))) (ar 4)) (
 aj (
  aG (b5 1 [] (cg (aa 2)) (ar 6) (dD) (ak JL (ae (aa 0) (ae (aa 1) (ae (aa 6) ag))))) (ar 5)) (
 aH (af bp (af bp (aa 3) (aa 4)) (aa 5)))))))
def o2:CM:=fn 3 5 (
 aj (
  aG (af bN (aa 0) (aa 1)) (ar 3)) (
 aj (
  aN (tB (af bV (ak bx (ae (aa 2) ag)) (af bN (aa 3) (aa 3)))) (
   sL) (
   aV)) (
 bH (bF (aa 2)) (ar 4) (
  aN (bZ (tB (af oLt (aa 4) (eC (.int 0)))) (tB (af jt (aa 4) (aa 3)))) (
   sL) (
   aV)))))
def o9:CM:=fn 3 7 (
 aj (
  aG (af bN (aa 0) (aa 1)) (ar 3)) (
 aj (
  aG (af oDiv (aa 2) (aa 3)) (ar 4)) (
 aj (
  aG (af oMod (aa 2) (aa 3)) (ar 5)) (
 aj (
  aG (af bp (af bN (af oDiv (aa 4) (aa 0)) (aa 0)) (af oDiv (aa 5) (aa 1))) (ar 6)) (
 aH (aS (ae (aa 4) (ae (af bp (aa 3) (aa 5)) (ae (af bp (af bN (eC (.int 2)) (aa 3)) (aa 6)) ag)))))))))
def o8(J8 Jh Je:CM):CM:=fn 4 6 (
 aj (
  cH (ak Jh (ae (aa 1) (ae (aa 2) (ae (aa 3) ag))))) (
 aj (
  jX [83,116,97,116,101] [104,105,103,104] (aa 0) (aa 1)) (
 aj (
  jX [83,116,97,116,101] [119,105,100,101] (aa 0) (aa 2)) (
 aj (
  jX [83,116,97,116,101] [103,114,111,117,112,115] (aa 0) (ak J8 (ae (aa 1) (ae (aa 2) ag)))) (
 aj (
  jX [83,116,97,116,101] [110,117,109,98,101,114,115] (aa 0) (ak fT (ae (aa 3) ag))) (
 aj (
  jX [83,116,97,116,101] [99,97,110] (aa 0) (sr)) (
 bH (vA (aa 3)) (fm [ar 4,ar 5]) (
  aN (tB (af oEq (aa 5) (eC (.int 0)))) (
   jm (aZ [83,116,97,116,101] [99,97,110] (aa 0)) (aa 4) (ji [83,116,97,116,101] [110,117,109,98,101,114,115,95,102,111,114] Je (aa 0) (ae (aa 4) ag))) (
   aV)))))))))
def oZ(yQ:CM):CM:=fn 2 5 (
 aj (
  aG (sr) (ar 2)) (
 aj (
  bH (bF (ak yQ (ae (aZ [83,116,97,116,101] [104,105,103,104] (aa 0)) (ae (aZ [83,116,97,116,101] [119,105,100,101] (aa 0)) (ae (aa 1) ag))))) (ar 3) (
   bH (bF (af av (aZ [83,116,97,116,101] [103,114,111,117,112,115] (aa 0)) (aa 3))) (ar 4) (
    jm (aa 2) (af av (aZ [83,116,97,116,101] [110,117,109,98,101,114,115] (aa 0)) (aa 4)) (eC (.bl true))))) (
 aH (b5 1 [] (dM (eC (.int 1)) (af bp (af bN (aZ [83,116,97,116,101] [104,105,103,104] (aa 0)) (aZ [83,116,97,116,101] [119,105,100,101] (aa 0))) (eC (.int 1)))) (ar 5) (tB (nV true (aa 5) (aa 2))) (aa 5)))))
def o_(yQ:CM):CM:=fn 3 5 (
 aj (
  aG (aa 2) (eQ (aZ [83,116,97,116,101] [110,117,109,98,101,114,115] (aa 0)) (aa 1))) (
 aj (
  cH (jv qm (aZ [83,116,97,116,101] [99,97,110] (aa 0)) (aa 1))) (
 bH (bF (ak yQ (ae (aZ [83,116,97,116,101] [104,105,103,104] (aa 0)) (ae (aZ [83,116,97,116,101] [119,105,100,101] (aa 0)) (ae (aa 1) ag))))) (ar 3) (
  bH (bF (af av (aZ [83,116,97,116,101] [103,114,111,117,112,115] (aa 0)) (aa 3))) (ar 4) (
   aN (tB (af iN (aa 2) (gC dO (aZ [83,116,97,116,101] [99,97,110] (aa 0)) (aa 4) (aS (ag))))) (
    jm (aZ [83,116,97,116,101] [99,97,110] (aa 0)) (aa 4) (b5 1 [] (bF (nM (aZ [83,116,97,116,101] [99,97,110] (aa 0)) (aa 4))) (ar 5) (tB (af bV (aa 5) (aa 2))) (aa 5))) (
    aV))))))
def Dd(ng sf:CM):CM:=fn 3 4 (
 aj (
  aG (ak sf (ae (aZ [83,116,97,116,101] [104,105,103,104] (aa 0)) (ae (aZ [83,116,97,116,101] [119,105,100,101] (aa 0)) (ae (aZ [83,116,97,116,101] [110,117,109,98,101,114,115] (aa 0)) ag)))) (ar 3)) (
 aj (
  cH (ji [83,116,97,116,101] [112,117,116] ng (aa 3) (ae (aa 1) (ae (aa 2) ag)))) (
 aH (aa 3))))
def zZ(yK:CM):CM:=qF [83,116,97,116,101] yK
def kF:CM:=fn 2 2 (
 aH (jR oLe oLt (eC (.int 0)) (aa 1) (ak bx (ae (aZ [83,116,97,116,101] [103,114,111,117,112,115] (aa 0)) ag))))
def rL:CM:=fn 2 5 (
 aj (
  aG (sr) (ar 2)) (
 aj (
  bH (bF (af av (aZ [83,116,97,116,101] [103,114,111,117,112,115] (aa 0)) (aa 1))) (ar 3) (
   bH (bF (gC dO (aZ [83,116,97,116,101] [99,97,110] (aa 0)) (aa 3) (aS (ag)))) (ar 4) (
    cH (b_ fI (gC i5 (aa 2) (aa 4) (aS (ag))) (ae (aa 3) ag))))) (
 aH (aa 2))))
def rj(Ku yT:CM):CM:=fn 2 2 (
 aj (
  aN (tB (af oEq (af av (aa 1) (eC (.int 0))) (eC (.str [102,105,101,108,100])))) (
   aH (af oEq (jv (λx y=>dO x y .ao) (aZ [83,116,97,116,101] [99,97,110] (aa 0)) (af av (aa 1) (eC (.int 1)))) (aS (ae (af av (aa 1) (eC (.int 2))) ag)))) (
   aV)) (
 aH (dm (ak Ku (ae (aa 0) (ae (af av (aa 1) (eC (.int 3))) ag))) (af oEq (jv (λx y=>dO x y .ao) (ak yT (ae (aa 0) (ae (af av (aa 1) (eC (.int 3))) ag))) (af av (aa 1) (eC (.int 2)))) (aS (ae (af av (aa 1) (eC (.int 1))) ag))))))
def t6(ng Jo:CM):CM:=fn 2 3 (
 aj (
  bH (bF (aa 1)) (ar 2) (
   aj (
    aN (b6 (tB (ak Jo (ae (aa 0) (ae (aa 2) ag))))) (
     aH (eC (.bl false))) (
     aV)) (
   cH (ji [83,116,97,116,101] [112,117,116] ng (aa 0) (ae (af av (aa 2) (eC (.int 1))) (ae (af av (aa 2) (eC (.int 2))) ag)))))) (
 aH (eC (.bl true))))
def rm:CM:=fn 1 1 (
 aH (nF 2 [] (aZ [83,116,97,116,101] [99,97,110] (aa 0)) (fm [ar 1,ar 2]) (tB (af oEq (aa 2) (aS (ag)))) (aa 1)))
def qX:CM:=fn 2 5 (
 aj (
  aG (sr) (ar 2)) (
 aj (
  bH (bF (af av (aZ [83,116,97,116,101] [103,114,111,117,112,115] (aa 0)) (aa 1))) (ar 3) (
   aj (
    jm (aa 2) (af av (aZ [83,116,97,116,101] [110,117,109,98,101,114,115] (aa 0)) (aa 3)) (eC (.bl true))) (
   bH (bF (gC dO (aZ [83,116,97,116,101] [99,97,110] (aa 0)) (aa 3) (aS (ag)))) (ar 4) (
    jm (aa 2) (aa 4) (eC (.bl true)))))) (
 aH (b5 0 [4] (dM (eC (.int 1)) (af bp (af bN (aZ [83,116,97,116,101] [104,105,103,104] (aa 0)) (aZ [83,116,97,116,101] [119,105,100,101] (aa 0))) (eC (.int 1)))) (ar 4) (tB (nV true (aa 4) (aa 2))) (aa 4)))))
def rg:CM:=fn 2 3 (
 aj (
  aG (b5 1 [] (bF (af av (aZ [83,116,97,116,101] [103,114,111,117,112,115] (aa 0)) (aa 1))) (ar 3) (dD) (af av (aZ [83,116,97,116,101] [110,117,109,98,101,114,115] (aa 0)) (aa 3))) (ar 2)) (
 aH (b5 1 [] (dM (eC (.int 1)) (af bp (af bN (aZ [83,116,97,116,101] [104,105,103,104] (aa 0)) (aZ [83,116,97,116,101] [119,105,100,101] (aa 0))) (eC (.int 1)))) (ar 3) (tB (af jt (b_ kJ (aa 2) (ae (aa 3) ag)) (eC (.int 1)))) (aa 3))))
def qY(Jf Jl:CM):CM:=fn 3 5 (
 aj (
  bH (cg (ak bx (ae (aZ [83,116,97,116,101] [103,114,111,117,112,115] (aa 0)) ag))) (ar 3) (
   aj (
    aG (u9 [([116,119,105,99,101,95,110,117,109,98,101,114,115],Jl),([104,111,109,101,108,101,115,115,95,110,117,109,98,101,114,115],Jf)] (aa 2) (ae (aa 0) (ae (aa 3) ag))) (ar 4)) (
   aN (tB (af bV (aa 4) (aS (ag)))) (
    aH (cD (ae (aa 1) (ae (aa 3) (ae (af av (aa 4) (eC (.int 0))) ag))))) (
    aV)))) (
 aH (eC .ao)))
def rn(yA:CM):CM:=fn 1 1 (
 aH (ak yA (ae (aa 0) (ae (eC (.str [116,119,105,99,101])) (ae (mM [116,119,105,99,101,95,110,117,109,98,101,114,115]) ag)))))
def qZ(Jp yA:CM):CM:=fn 1 2 (
 aj (
  aG (ak Jp (ae (aa 0) ag)) (ar 1)) (
 aj (
  aN (tB (af bV (aa 1) (aS (ag)))) (
   aH (cD (ae (eC (.str [102,105,101,108,100])) (ae (af av (aa 1) (eC (.int 0))) ag)))) (
   aV)) (
 aH (ak yA (ae (aa 0) (ae (eC (.str [103,114,111,117,112])) (ae (mM [104,111,109,101,108,101,115,115,95,110,117,109,98,101,114,115]) ag)))))))
def rF(yT:CM):CM:=fn 1 6 (
 aj (
  qe (aZ [83,116,97,116,101] [99,97,110] (aa 0)) (fm [ar 1,ar 2]) (
   aN (tB (af oEq (ak bx (ae (aa 2) ag)) (eC (.int 1)))) (
    aH (cD (ae (eC (.str [102,105,101,108,100])) (ae (aa 1) (ae (af av (aa 2) (eC (.int 0))) ag))))) (
    aV))) (
 aj (
  bH (cg (ak bx (ae (aZ [83,116,97,116,101] [103,114,111,117,112,115] (aa 0)) ag))) (ar 3) (
   qe (ak yT (ae (aa 0) (ae (aa 3) ag))) (fm [ar 4,ar 5]) (
    aN (tB (af oEq (ak bx (ae (aa 5) ag)) (eC (.int 1)))) (
     aH (cD (ae (eC (.str [103,114,111,117,112])) (ae (af av (aa 5) (eC (.int 0))) (ae (aa 4) (ae (aa 3) ag)))))) (
     aV)))) (
 aH (eC .ao))))
def rp(Jy q9:CM):CM:=fn 1 2 (
 aj (
  aG (ak Jy (ae (aa 0) ag)) (ar 1)) (
 aj (
  aN (tB (mq (aa 1))) (
   aH (aa 1)) (
   aV)) (
 aH (ak q9 (ae (aa 0) ag)))))
def rG(ng q9 yL Jz:CM):CM:=fn 1 4 (
 aj (
  aG (aS (ag)) (ar 1)) (
 aj (
  aG (ak Jz (ae (aa 0) ag)) (ar 2)) (
 aj (
  As 1000000000 (tB (dQ (aa 2))) (
   aj (
    aG (ak yL (ae (aa 0) ag)) (ar 3)) (
   aj (
    aN (tB (dQ (aa 3))) (
     BC) (
     aV)) (
   aj (
    cH (ji [83,116,97,116,101] [112,117,116] ng (aa 0) (ae (af av (aa 3) (eC (.int 1))) (ae (af av (aa 3) (eC (.int 2))) ag)))) (
   aj (
    cH (b_ fI (aa 1) (ae (aa 3) ag))) (
   aG (ak q9 (ae (aa 0) ag)) (ar 2))))))) (
 aH (cD (ae (aa 1) (ae (aa 2) ag)))))))
def pX(sf JM:CM):CM:=fn 4 5 (
 aj (
 mD (aG (ak sf (ae (aa 0) (ae (aa 1) (ae (aa 2) ag)))) (ar 4))) (
 aj (
 aN (sM (b6 (tB (ak JM (ae (aa 4) (ae (aa 3) ag)))))) (Au [78,111,83,116,101,112]) aV) (
 mD (aH (aZ [83,116,97,116,101] [110,117,109,98,101,114,115] (aa 4))))))
def rM(sf JN:CM):CM:=fn 3 3 (
 aH (ak JN (ae (ak sf (ae (aa 0) (ae (aa 1) (ae (aa 2) ag)))) ag)))
end PB
namespace LV
open VM
local macro_rules| `(tactic|walk_at "ev")=> `(tactic|simp only[tB,eP,bZ,b6,dD,af,aa,eC,aS,cD,ag,ae,ak,dm,wo,mz,wq,dQ,mq,b_,R.bind,bp,nU,ar,eQ,fm,jU,cg,dM,List.length_cons,List.length_nil,List.map_cons,List.map_nil,List.cons_append,List.nil_append,List.append_nil,List.getElem?_cons_zero,List.getElem?_cons_succ,List.set_cons_zero,List.set_cons_succ,if_true,if_false,Bool.false_eq_true,Nat.reduceAdd,Nat.reduceSub,List.replicate_succ,List.replicate_zero,Nat.zero_add,Nat.add_zero,du,List.foldl_nil,List.foldl_cons,List.append_assoc])
def dj{i j:Int}{M:Mem}(h:i.natAbs<=1000000):bN (.int i) (.int j) M=.ok (.int (i*j)) M:=aaN (.inl (by unfold mn;omega))
def ff{i j:Int}{M:Mem}(h:0<j)(h2:j<1000000):oDiv (.int i) (.int j) M=.ok (.int (i / j)) M:=aaN ⟨h,by omega⟩
def dC{i j:Int}{M:Mem}(h:0<j):oMod (.int i) (.int j) M=.ok (.int (i % j)) M:=aaN h
def dc{j:Int}(h:0<=j)(h2:j<1000000):j.natAbs<bJ:=by unfold bJ;omega
def aP(M:Mem)(v:W)(ns:List Int):Prop:=aF M v (ns.map .int)
def LL(M:Mem)(v:W)(wt:List (List Int)):Prop:=∃ws,aF M v ws/\a_ (λw ns=>aP M w ns) ws wt
def LL.mono{M M':Mem}{v:W}{wt:List (List Int)}(h:LL M v wt)(p:M<+:M'):LL M' v wt:=by obtain⟨ws,h1,h2⟩:=h;exact⟨ws,h1.mono p,h2.imp λ_ _ q=>aF.mono q p⟩
def nW(s r:Nat):List Int:=(List.range s).map λ(c:Nat)=>(r:Int)*s+(c:Int)
def nX(s c:Nat):List Int:=(List.range s).map λ(r:Nat)=>(r:Int)*s+(c:Int)
def Bb(h w b:Nat):List Int:=(List.range h).flatMap λr=>(List.range w).map λc=>((b / h*h+r:Nat):Int)*(h*w:Nat)+(b % h*w+c:Nat)
def ah(h w:Nat):List (List Int):=(List.range (h*w)).map (nW (h*w))++(List.range (h*w)).map (nX (h*w))++(List.range (h*w)).map (Bb h w)
def filter_tt{α:Type}(l:List α):l.filter (λ_=>true)=l:=by
 induction l with
 |nil=>rfl
 |cons a r ih=>simp[ih]
def um{M:Mem}{a:Nat}{xs:List W}{y:W}(h:M[a]? =some (.lst xs))(hl:xs.length<16777216):fI (.ref a) [y] M=.ok .ao (M.set a (.lst (xs++[y]))):=by unfold fI;rw[gW h];exact aaN hl
def Dc{α:Type}(n:Nat)(f:Nat->List α):(List.range (n+1)).flatMap f=(List.range n).flatMap f++f n:=by rw[ab6,List.flatMap_append];simp
def Jq{α:Type}(n:Nat)(f:Nat->α):(List.range (n+1)).map f=(List.range n).map f++[f n]:=by rw[ab6,acI];rfl
def zx{elt:EM}{σ:St}{M:Mem}{s:Nat}(k:Nat)(f:Nat->List Int)(e:EM)(he:e σ M=.ok (.int s) M)(hs:s<=9)(h:∀j,j<s->∀M',M<+:M'->∃v bP,elt ((σ++[none]).set k (some (.int j))) M'=.ok v bP/\M'<+:bP/\aP bP v (f j)):
 ∃v M',b5 1 [] (cg e) (ar k) dD elt σ M=.ok v M'/\M<+:M'/\LL M' v ((List.range s).map f):=by
 have tD:(s:Int).natAbs<bJ:=dc (by omega) (by omega);have hi:cg e σ M=.ok (cJ 0 s,[]) M:=by unfold cg;rw[he];simp only[R.bind];rw[aaN tD,abf]
 obtain⟨ys,M',hc,pre,all⟩:=za (c:=[]) (i:=k) (t:=dD) (elt:=elt) (σ:=σ++[none]) (λ_=>true) (λx y M=>∃j:Nat,x=.int j/\aP M y (f j)) (λx y M M' p ⟨j,e,q⟩=>⟨j,e,aF.mono q p⟩) (i7 0 s) M (σ++[none]) [] (λ_=>rfl) (λ_ _=>rfl) (λx hx M' p=>by
   obtain⟨j,hj,rfl⟩:=aa7.mp hx;rw[abk] at hj;refine⟨M',rfl,dv _,λ_=>?_⟩;have ez:(0:Int)+(j:Int)=(j:Int):=by omega
   obtain⟨v,bP,h1,h2,h3⟩:=h j hj M' p;rw[ez];exact⟨v,bP,h1,h2,j,rfl,h3⟩)
 have len:ys.length=s:=by have:=all.len;rw[filter_tt] at this;simp[i7] at this;omega
 refine⟨.ref M'.length,M'++[.lst ys],?_,pre.trans (pre_app _ _),ys,aF.new _ _,?_⟩
 ·unfold b5;rw[hi];simp only[R.bind,R.eB,du,acv,abY,ab7,pq];rw[hc];simp only[R.bind,abl];exact b9 (by omega)
 ·rw[filter_tt] at all;have g:∀(js:List Nat) (ys:List W) (N:Mem),M'<+:N->a_ (λx y=>∃j:Nat,x=W.int j/\aP M' y (f j)) (js.map λ(j:Nat)=>W.int (0+(j:Int))) ys->a_ (λw ns=>aP N w ns) ys (js.map f):=by
   intro js;induction js with
   |nil=>intro ys N p a;cases a;exact .nil
   |cons j r ih=>
    intro ys N p a;cases a with
    |cons h t=>
     obtain⟨j',e,q⟩:=h;have ej:j=j':=by injection e with e;omega
     subst ej;exact .cons (aF.mono q p) (ih _ N p t)
  exact g _ _ _ (pre_app _ _) all
def FP{M:Mem}{v u:W}{xs ys:List (List Int)}(h1:LL M v xs)(h2:LL M u ys)(hl:xs.length+ys.length<=1000):∃w M',bp v u M=.ok w M'/\M<+:M'/\LL M' w (xs++ys):=by
 obtain⟨ws,⟨a,rfl,ha⟩,r1⟩:=h1;obtain⟨us,⟨b,rfl,hb⟩,r2⟩:=h2;have l1:=r1.len;have l2:=r2.len;refine⟨.ref M.length,M++[.lst (ws++us)],?_,pre_app _ _,ws++us,aF.new _ _,?_⟩
 ·simp only[bp,gW ha,gW hb];exact b9 (by rw[abb];omega)
 ·exact a_.app (r1.imp λ_ _ q=>aF.mono q (pre_app _ _)) (r2.imp λ_ _ q=>aF.mono q (pre_app _ _))
def yU(f:CM):Prop:=∀(h w:Nat) (M:Mem),1<=h/\h<=3->1<=w/\w<=3->∃v M',f [.int h,.int w] M=.ok v M'/\M<+:M'/\LL M' v (ah h w)
def aq(fs:List Int)(i:Int):Int:=fs.getD i.toNat 0
def FQ{fs:List Int}{i:Int}(h0:0<=i)(h:i<(fs.length:Int)):cR (fs.map W.int) i=some (.int (aq fs i)):=by
 have hn:i.toNat<fs.length:=by omega
 have e:cK (fs.map W.int).length i=some i.toNat:=by unfold cK;rw[aaN h0,aaV,aaN h]
 unfold cR;rw[e];show(fs.map W.int)[i.toNat]? =_;rw[abS,acJ hn];simp[aq,List.getD,hn]
def eA{M:Mem}{v:W}{fs:List Int}{i:Int}(h:aP M v fs)(h0:0<=i)(h1:i<(fs.length:Int)):av v (.int i) M=.ok (.int (aq fs i)) M:=by simp only[av,aF.bK h,FQ h0 h1]
def jS{M:Mem}{v:W}{fs:List Int}(h:aP M v fs):bx [v] M=.ok (.int fs.length) M:=by unfold bx;simp only[aF.bK h,aaV]
def ne_int{i j:Int}{M:Mem}:bV (.int i) (.int j) M=.ok (.bl (!decide (i=j))) M:=by unfold bV eG;simp[VM.eE]
def eq_int{i j:Int}{M:Mem}:oEq (.int i) (.int j) M=.ok (.bl (decide (i=j))) M:=by unfold oEq eG;simp[VM.eE]
def lt_int{i j:Int}{M:Mem}:oLt (.int i) (.int j) M=.ok (.bl (decide (i<j))) M:=rfl
def gt_int{i j:Int}{M:Mem}:jt (.int i) (.int j) M=.ok (.bl (decide (j<i))) M:=rfl
def ge_int{i j:Int}{M:Mem}:ju (.int i) (.int j) M=.ok (.bl (decide (j<=i))) M:=rfl
def le_int{i j:Int}{M:Mem}:oLe (.int i) (.int j) M=.ok (.bl (decide (i<=j))) M:=rfl
structure bC(s:Nat)(ns:List Int):Prop where
 len:ns.length=s*s
 lo:∀x∈ns,0<=x
 hi:∀x∈ns,x<=(s:Int)
def iU{ns:List Int}{j:Nat}{x:W}(h:(ns.map W.int)[j]? =some x):∃n∈ns,x=.int n/\ns[j]? =some n:=by
 rw[abS] at h;cases e:ns[j]? with
 |none=>rw[e] at h;cases h
 |some n=>rw[e] at h;exact⟨n,ab2 e,(aa2 h).symm,rfl⟩
def uE(x y:W)(M:Mem):(Src.pair x y).get M=.ok (.ref M.length) (M++[.tup [x,y]]):=by show iH [x,y] M=_;exact kH (by show 2<=16777216;decide)
def Kv(ns:List Int):intsOf (ns.map .int)=some ns:=by
 induction ns with
 |nil=>rfl
 |cons n r ih=>simp only[aa8,intsOf,ih];rfl
def z7{σ:St}{M:Mem}{vg vf:W}{g fs:List Int}(e:EM)(ef:EM)(k:Nat)(he:e σ M=.ok vg M)(hg:aP M vg g)(hf:aP M vf fs)(a7:∀i∈g,0<=i/\i<(fs.length:Int))(hl:g.length<=1000)(wu:∀x,ef ((σ++[none]).set k (some x)) M=.ok vf M)(hk:∀x,aa k ((σ++[none]).set k (some x)) M=.ok x M):
 b5 1 [] (bF e) (ar k) dD (af av ef (aa k)) σ M=.ok (.ref M.length) (M++[.lst ((g.map (aq fs)).map .int)]):=by
 obtain⟨a,rfl,ha⟩:=hg;unfold b5;have hi:bF e σ M=.ok ((g.map W.int).map .val,[(a,.lst (g.map .int))]) M:=by unfold bF;rw[he];simp only[R.bind,ha]
 rw[hi];simp only[R.bind,R.eB,du,acv,abY,ab7];rw[jd (σ:=σ++[none]) (λ_=>true) (λx=>match x with|.int i=>.int (aq fs i)|_=>.ao) _ _ _ (λ_=>rfl) (by simp[b7.ok,ha]) ?_]
 ·simp only[filter_tt,abl,acw];exact b9 (by simp;omega)
 ·intro x hx;obtain⟨i,ow,rfl⟩:=aa7.mp hx;obtain⟨h1,h2⟩:=a7 i ow;refine⟨rfl,λ_=>?_⟩;simp only[af,wu,hk,R.bind];exact eA hf h1 h2
def pw(ns:List Int):(ns.map W.int).all flat=true:=by
 induction ns with
 |nil=>rfl
 |cons n r ih=>simp only[aa8,abX,ih,acj];rfl
def Ep(x:Int)(ns:List Int):lh (.int x) (ns.map .int)=ns.any (·==x):=by unfold lh;rw[adh];rfl
def su{M:Mem}{u:W}{fs:List Int}(x:Int)(h:aP M u fs):iN (.int x) u M=.ok (.bl (fs.any (·==x))) M:=by unfold iN;rw[aF.bK h];simp only[flat,pw,acj,aaW,Ep]
def h3{h:Nat}(hh:1<=h/\h<=3):h=1\/h=2\/h=3:=by omega
def Sw(h w:Nat):Bool:=(ah h w).all λg=>decide (g.length<=9)&&g.all λi=>decide (0<=i)&&decide (i<((h*w*(h*w):Nat):Int))
def iz{h w:Nat}(hh:1<=h/\h<=3)(hw:1<=w/\w<=3):∀g∈ah h w,g.length<=9/\∀i∈g,0<=i/\i<((h*w*(h*w):Nat):Int):=by
 have key:Sw h w=true:=by rcases h3 hh with rfl|rfl|rfl<;>rcases h3 hw with rfl|rfl|rfl<;>decide+kernel
 intro g hg;have h1:=abC.mp key g hg;rw[aaT] at h1;refine⟨abx h1.1,λi hi=>?_⟩;have h2:=abC.mp h1.2 i hi;rw[aaT] at h2;exact⟨abx h2.1,abx h2.2⟩
def cnt(k:Int)(l:List Int):Nat:=l.countP (·==k)
def zy{M:Mem}{v:W}{l:List Int}(k:Int)(h:aP M v l):kJ v [.int k] M=.ok (.int (cnt k l)) M:=by
 obtain⟨a,rfl,ha⟩:=h;unfold kJ;rw[gW ha];simp only[flat,pw,acj,aaW];have e:(l.map W.int).countP (λz=>gB z (.int k))=cnt k l:=by rw[List.countP_map];rfl
 rw[e]
def ox(g fs:List Int)(s:Nat):Bool:=(List.range s).all λk=>decide (cnt ((k:Int)+1) (g.map (aq fs))<=1)
def cW(G:List (List Int))(fs:List Int)(s:Nat):Bool:=G.all λg=>ox g fs s
def De(n:Nat)(p:Nat->Bool):(List.range (n+1)).all p=((List.range n).all p&&p n):=by rw[ab6,List.all_append];simp
def any_eq(l:List Int)(n:Int):l.any (·==n)=true↔n∈l:=by
 rw[aa0];constructor
 ·rintro⟨x,h,e⟩;rw[abA] at e;subst e;exact h
 ·intro h;exact⟨n,h,by simp⟩
def cnt_cons(k x:Int)(l:List Int):cnt k (x::l)=(if x=k then 1 else 0)+cnt k l:=by
 unfold cnt;rw[acx];by_cases h:x=k
 ·simp[h];omega
 ·simp[h]
def pU(k:Int)(l:List Int):0<cnt k l↔k∈l:=by
 unfold cnt;rw[List.countP_pos_iff];constructor
 ·rintro⟨x,h,e⟩;rw[abA] at e;subst e;exact h
 ·intro h;exact⟨k,h,by simp⟩
def Lg(l:List Int):l.Nodup↔∀k,cnt k l<=1:=by
 induction l with
 |nil=>simp[cnt]
 |cons x r ih=>
  rw[ab',ih];constructor
  ·rintro⟨a,b⟩ k;rw[cnt_cons];by_cases h:x=k
   ·subst h;have:¬0<cnt x r:=λq=>a ((pU x r).mp q)
    simp;omega
   ·have:=b k;simp[h];exact this
  ·intro h;refine⟨λq=>?_,λk=>?_⟩
   ·have:=h x;rw[cnt_cons] at this;have:=(pU x r).mpr q;simp at*;omega
   ·have:=h k;rw[cnt_cons] at this;omega
def uR{fs:List Int}{i:Int}(h0:0<=i)(h:i<(fs.length:Int)):aq fs i∈fs:=by
 have hn:i.toNat<fs.length:=by omega
 have:aq fs i=fs[i.toNat]:=by simp[aq,List.getD,hn]
 rw[this];exact acy hn
def pV{fs:List Int}{j:Nat}(h:j<fs.length):aq fs (j:Int)=fs[j]:=by simp[aq,List.getD,h]
def E8(M:Mem)(vG vf:W)(G:List (List Int))(fs:List Int)(s:Nat)(hG:LL M vG G)(hf:aP M vf fs)(a7:∀g∈G,g.length<=9/\∀i∈g,0<=i/\i<(fs.length:Int))(hs:s<=9):
 ∃M',kE [vG,vf,.int s] M=.ok (.bl (cW G fs s)) M'/\M<+:M':=by
 have key:∃r M',kE [vG,vf,.int s] M=.ok r M'/\(r=.bl (cW G fs s)/\M<+:M'):=by
  refine bM rfl ?_;show(aj _ _ [some vG,some vf,some (.int s),none,none,none] M).Sat _;refine aB ?_;obtain⟨ws,hL,hA⟩:=hG;refine fb (v:=vG) (M1:=M) (xs:=ws) rfl hL (λj σ M'=>(∃x y z,σ=[some vG,some vf,some (.int s),x,y,z])/\M<+:M'/\(G.take j).all (λg=>ox g fs s)=true) ⟨⟨_,_,_,rfl⟩,dv _,rfl⟩ (λj σ M' _ ⟨_,p,_⟩=>hL.mono p) ?_ ?_
  ·rintro j x σ M' hx ⟨⟨y1,y2,y3,rfl⟩,p,ha⟩;obtain⟨g,hg,eW⟩:=hA.at hx;have sO:=ab2 hg;obtain⟨l9,hi⟩:=a7 g sO;have tk:G.take (j+1)=G.take j++[g]:=by rw[acb,hg];rfl
   simp only[aaP,aaQ];refine aB (bL (z7 (aa 3) (aa 1) 6 rfl (aF.mono eW p) (aF.mono hf p) hi (by omega) (λ_=>rfl) (λ_=>rfl)) ?_);simp only[aaP,aaQ];have r2:(1:Int).natAbs<bJ/\((s:Int)+1).natAbs<bJ:=⟨dc (by omega) (by omega),dc (by omega) (by omega)⟩;have n2:((s:Int)+1-1).toNat=s:=by omega
   have L:=aF.new M' ((g.map (aq fs)).map W.int);refine gj (lo:=1) (n:=s) (M1:=M'++[.lst ((g.map (aq fs)).map .int)]) (by walk_at "ev";rw[aaN r2,n2]) (λk σ N=>(∃z,σ=[some vG,some vf,some (.int s),some x,some (.ref M'.length),z])/\N=M'++[.lst ((g.map (aq fs)).map .int)]/\(List.range k).all (λk=>decide (cnt ((k:Int)+1) (g.map (aq fs))<=1))=true) ⟨⟨_,rfl⟩,rfl,rfl⟩ ?_ ?_
   ·rintro k σ N hk ⟨⟨z,rfl⟩,rfl,hr⟩;simp only[aaP,aaQ];have ez:(1:Int)+(k:Int)=(k:Int)+1:=by omega
    refine aM (c:=decide (1<cnt ((k:Int)+1) (g.map (aq fs)))) (M1:=M'++[.lst ((g.map (aq fs)).map .int)]) ?_ (λhc=>?_) λhc=>?_
    ·walk_at "ev"
     simp only[L.bz,ez,zy _ L,gt_int];congr 1;rw[abw];simp;omega
    ·refine aR rfl ⟨?_,p.trans (pre_app _ _)⟩;have h1:1<cnt ((k:Int)+1) (g.map (aq fs)):=abx hc;have:ox g fs s=false:=by unfold ox;rw[adE];exact⟨k,abk.mpr hk,by simp;omega⟩
     have h2:cW G fs s=false:=by unfold cW;rw[adE];exact⟨g,sO,by simp[this]⟩
     rw[h2]
    ·refine⟨⟨_,rfl⟩,rfl,?_⟩;have h1:¬1<cnt ((k:Int)+1) (g.map (aq fs)):=acT hc;rw[De,hr,abu];exact abF (by omega)
   ·rintro σ N ⟨⟨z,rfl⟩,rfl,hr⟩;refine⟨⟨_,_,_,rfl⟩,p.trans (pre_app _ _),?_⟩;rw[tk,List.all_append,ha];have:ox g fs s=true:=hr;simp[this]
  ·rintro σ M' ⟨⟨y1,y2,y3,rfl⟩,p,ha⟩;dsimp only;refine aR rfl ⟨?_,p⟩;have hl:G.take ws.length=G:=by rw[hA.len,aby]
   rw[hl] at ha;have:cW G fs s=true:=ha;rw[this]
 obtain⟨r,M',e,rfl,p⟩:=key;exact⟨M',e,p⟩
def lj(ss fs:List Int)(n:Nat):Bool:=(List.range n).all λj=>!decide (aq fs j=0)&&(decide (aq ss j=0)||decide (aq ss j=aq fs j))
def DQ(M:Mem)(vG vs vf:W)(G:List (List Int))(ss fs:List Int)(s:Nat)(hG:LL M vG G)(hv:aP M vs ss)(hf:aP M vf fs)(hl:ss.length=fs.length)(Zy:ss.length<=1000)(a7:∀g∈G,g.length<=9/\∀i∈g,0<=i/\i<(fs.length:Int))(hs:s<=9):
 ∃M',o3 kE [vG,vs,vf,.int s] M=.ok (.bl (lj ss fs ss.length&&cW G fs s)) M'/\M<+:M':=by
 have key:∃r M',o3 kE [vG,vs,vf,.int s] M=.ok r M'/\(r=.bl (lj ss fs ss.length&&cW G fs s)/\M<+:M'):=by
  refine bM rfl ?_;show(aj _ _ [some vG,some vs,some vf,some (.int s),none] M).Sat _;refine aB ?_;have r1:(ss.length:Int).natAbs<bJ:=dc (by omega) (by omega);refine gj (lo:=0) (n:=ss.length) (M1:=M) (by walk_at "ev";simp only[jS hv];rw[aaN r1,abf]) (λj σ M'=>(∃x,σ=[some vG,some vs,some vf,some (.int s),x])/\M<+:M'/\(List.range j).all (λj=>!decide (aq fs j=0)&&(decide (aq ss j=0)||decide (aq ss j=aq fs j)))=true) ⟨⟨_,rfl⟩,dv _,rfl⟩ ?_ ?_
  ·rintro j σ M' hj ⟨⟨x,rfl⟩,p,ha⟩;simp only[aaP,aaQ];have ez:(0:Int)+(j:Int)=(j:Int):=by omega
   have i1:=eA (aF.mono hf p) (i:=(j:Int)) (by omega) (by omega);have i2:=eA (aF.mono hv p) (i:=(j:Int)) (by omega) (by omega);have bad:(!decide (aq fs j=0)&&(decide (aq ss j=0)||decide (aq ss j=aq fs j)))=false->lj ss fs ss.length=false:=λe=>by unfold lj;rw[adE];exact⟨j,abk.mpr hj,by rw[e];simp⟩
   by_cases c0:aq fs j=0
   ·refine aM (c:=true) (M1:=M') (by walk_at "ev";simp only[ez,i1,eq_int,c0,ab8,aaW]) (λ_=>?_) λz=>nomatch z
    refine aR rfl ⟨?_,p⟩;rw[bad (by simp[c0]),abz]
   ·have N:M'<+:M'++[.lst [.int 0,.int (aq fs j)]]:=pre_app _ _;have hn:br [.int 0,.int (aq fs j)] M'=.ok (.ref M'.length) (M'++[.lst [.int 0,.int (aq fs j)]]):=b9 (by show 2<=16777216;decide);have L:=aF.new M' [.int 0,.int (aq fs j)];have Bc:l7 (.int (aq ss j)) (.ref M'.length) (M'++[.lst [.int 0,.int (aq fs j)]])=.ok (.bl (!(decide (aq ss j=0)||decide (aq ss j=aq fs j)))) (M'++[.lst [.int 0,.int (aq fs j)]]):=by
     unfold l7;rw[L.bK];have e1:((0:Int)==aq ss j)=decide (aq ss j=0):=by rw[abw];simp;omega
     have e2:(aq fs j==aq ss j)=decide (aq ss j=aq fs j):=by rw[abw];simp;omega
     simp only[flat,abX,List.all_nil,acj,aaW,lh,abB,adF,adi,gB,e1,e2]
    refine aM (c:=!(decide (aq ss j=0)||decide (aq ss j=aq fs j))) (M1:=M'++[.lst [.int 0,.int (aq fs j)]]) ?_ (λhc=>?_) λhc=>?_
    ·have i3:=eA (aF.mono hf p) (i:=(j:Int)) (by omega) (by omega)
     walk_at "ev"
     simp only[ez,i1,i2,eq_int,c0,acz,abi,aa_,hn,Bc]
    ·refine aR rfl ⟨?_,p.trans N⟩;have e:(decide (aq ss j=0)||decide (aq ss j=aq fs j))=false:=by rw[abg] at hc;exact hc
     rw[bad (by rw[e];simp),abz]
    ·refine⟨⟨_,rfl⟩,p.trans N,?_⟩;have e:(decide (aq ss j=0)||decide (aq ss j=aq fs j))=true:=by rw[abP] at hc;exact hc
     rw[De,ha,e];simp[c0]
  ·rintro σ M' ⟨⟨x,rfl⟩,p,ha⟩;dsimp only;obtain⟨M2,e,p2⟩:=E8 M' vG vf G fs s (hG.mono p) (aF.mono hf p) a7 hs;refine aR (v:=.bl (cW G fs s)) (M1:=M2) (by walk_at "ev";exact e) ⟨?_,p.trans p2⟩;have:lj ss fs ss.length=true:=ha;rw[this,abu]
 obtain⟨r,M',e,rfl,p⟩:=key;exact⟨M',e,p⟩
def fO(M:Mem)(ns:List Int):Prop:=M[0]? =some (.bf (ns.map .int))
def fO.mono{M M':Mem}{ns:List Int}(h:fO M ns)(p:M<+:M'):fO M' ns:=aD p h
def fO.bz{M:Mem}{ns:List Int}(h:fO M ns):bz M (.ref 0)=some (ns.map .int):=by unfold fO at h;simp only[VM.bz,h]
def fO.bK{M:Mem}{ns:List Int}(h:fO M ns):bK M (.ref 0)=some (ns.map .int):=by simp only[VM.bK,h.bz]
def fO.len{M:Mem}{ns:List Int}(h:fO M ns):bx [.ref 0] M=.ok (.int ns.length) M:=by unfold bx;simp only[h.bK,aaV]
def nP(ns:List Int)(M:Mem)(k:Int)(hM:fO M ns)(hl:ns.length<=63):
 ∃v M',iX [.ref 0,.int k] M=.ok (.int v) M'/\M<+:M':=by
 have key:∃r M',iX [.ref 0,.int k] M=.ok r M'/\((∃v:Int,r=.int v)/\M<+:M'):=by
  refine bM rfl ?_;show(aj _ _ [some (.ref 0),some (.int k)] M).Sat _;have hs:br [] M=.ok (.ref M.length) (M++[.lst []]):=rfl;have hS:=hM.mono (pre_app M [.lst []]);have L:=aF.new M [];have hq:VM.eE (.ref 0) (.ref M.length)=false:=rfl;refine aB (aM (c:=decide (ns=[])) (M1:=M++[.lst []]) ?_ (λhc=>?_) λhc=>?_)
  ·walk_at "ev"
   simp only[hs,oEq,eG,hq,hS.bz,L.bz,abi,aa_];cases ns with
   |nil=>rfl
   |cons n r=>
    have:nL ((n::r).map W.int) []=some false:=by unfold nL;rw[aaN (by simp)]
    rw[this];simp
  ·exact aR rfl ⟨⟨_,rfl⟩,pre_app _ _⟩
  ·refine bT ?_;dsimp only;have fw:ns≠[]:=acT hc;have kO:0<ns.length:=List.length_pos_iff.mpr fw;have hd:(0:Int)<(ns.length:Int):=by omega
   have m1:=dC (M:=M++[.lst []]) (i:=k) hd;have d1:=ff (M:=M++[.lst []]) (i:=k) hd (by omega);have e1:=acU k (show(ns.length:Int)≠0 by omega);have e2:=acV k hd;have i1:av (.ref 0) (.int (k % (ns.length:Int))) (M++[.lst []])=.ok (.int (aq ns (k % (ns.length:Int)))) (M++[.lst []]):=by simp only[av,hS.bK,FQ e1 e2]
   have u1:=dj (M:=M++[.lst []]) (i:=3) (j:=k / (ns.length:Int)) (by decide);refine aR (v:=.int (aq ns (k % (ns.length:Int))+3*(k / (ns.length:Int)))) (M1:=M++[.lst []]) ?_ ⟨⟨_,rfl⟩,pre_app _ _⟩
   walk_at "ev"
   simp only[hS.len,m1,d1,i1,u1]
 obtain⟨r,M',e,⟨v,rfl⟩,p⟩:=key;exact⟨v,M',e,p⟩
def tE:List (Int×Int)->AM
 |[]=>ag
 |p::r=>ae (cD (ae (eC (.int p.1)) (ae (eC (.int p.2)) ag))) (tE r)
theorem Av(σ:St):∀(ps:List (Int×Int)) (M:Mem),∃vs M',tE ps σ M=.ok vs M'/\M<+:M'/\a_ (λv p=>aT M' v [.int p.1,.int p.2]) vs ps
 |[],M=>⟨[],M,rfl,dv _,.nil⟩
 |p::r,M=>by
  have hn:iH [.int p.1,.int p.2] M=.ok (.ref M.length) (M++[.tup [.int p.1,.int p.2]]):=kH (by show 2<=16777216;decide);obtain⟨vs,M',e,q,a⟩:=Av σ r (M++[.tup [.int p.1,.int p.2]]);refine⟨.ref M.length::vs,M',?_,(pre_app _ _).trans q,.cons ((aT.new M _).mono q) a⟩;unfold tE
  walk_at "ev"
  simp only[hn,e]
def Kw(σ:St)(M:Mem)(ps:List (Int×Int))(BD:ps.length<=100)(hb:∀p∈ps,(∃h:Nat,p.1=h/\1<=h/\h<=3)/\∃w:Nat,p.2=w/\1<=w/\w<=3)(ei:EM)(i:Int)(h0:0<=i)(h1:i<ps.length)(hi:∀M',M<+:M'->ei σ M'=.ok (.int i) M'):
 ∃v M',af av (aS (tE ps)) ei σ M=.ok v M'/\M<+:M'/\∃h w:Nat,aT M' v [.int h,.int w]/\(1<=h/\h<=3)/\(1<=w/\w<=3):=by
 obtain⟨vs,M1,e1,p1,a⟩:=Av σ ps M;have hl:=a.len;have hn:br vs M1=.ok (.ref M1.length) (M1++[.lst vs]):=b9 (by omega);have L:=aF.new M1 vs;have hj:i.toNat<ps.length:=by omega
 have UW:ps[i.toNat]? =some ps[i.toNat]:=acJ hj;obtain⟨v,hv,ht⟩:=a.at' UW;obtain⟨⟨h,eh,bh⟩,w,ew,bw⟩:=hb _ (acy hj);refine⟨v,M1++[.lst vs],?_,p1.trans (pre_app _ _),h,w,?_,bh,bw⟩
 ·have jw:cR vs i=some v:=by unfold cR cK;rw[aaN h0,aaN (by omega)];exact hv
  unfold af aS;simp only[e1,R.bind,hn,hi _ (p1.trans (pre_app _ _)),av,L.bK,jw]
 ·rw[<-eh,<-ew];exact ht.mono (pre_app _ _)
def DR(f:CM):Prop:=∀(M:Mem) (ns:List Int),fO M ns->ns.length<=63->∃v M',f [.ref 0] M=.ok v M'/\M<+:M'/\∃h w:Nat,aT M' v [.int h,.int w]/\(1<=h/\h<=3)/\(1<=w/\w<=3)
def J9(c:Int)(M:Mem):∃v M',o7 [.int c] M=.ok v M'/\M<+:M'/\∃h w:Nat,aT M' v [.int h,.int w]/\(1<=h/\h<=3)/\(1<=w/\w<=3):=by
 refine bM rfl ?_;show(aH _ [some (.int c)] M).Sat _;obtain⟨v,M',e,r⟩:=Kw [some (.int c)] M [(2,2),(2,2),(1,3),(3,1),(2,1),(1,2),(2,2),(1,1)] (by decide) (by
  intro p hp;simp only[aaX,aa',aba] at hp;rcases hp with rfl|rfl|rfl|rfl|rfl|rfl|rfl|rfl<;>exact⟨⟨_,rfl,by decide⟩,_,rfl,by decide⟩)
  (af oMod (aa 0) (eC (.int 8))) (c % 8) (by omega) (by show c % 8<((8:Nat):Int);omega) (λM' _=>by
   have:=dC (M:=M') (i:=c) (j:=8) (by decide)
   walk_at "ev";exact this)
 exact aR e r
def Ow(ns:List Int)(lo hi:Option Int):cut (ns.map W.int) lo hi=(cut ns lo hi).map W.int:=by unfold cut;simp[List.map_drop,List.map_take]
def Ox(ns:List Int)(lo hi:Option Int):(cut ns lo hi).length<=ns.length:=by unfold cut;rw[acs,ac9];omega
def fO.cut{M:Mem}{ns:List Int}(h:fO M ns)(hl:ns.length<=63)(lo hi:Option Int):qk (.ref 0) lo hi M=.ok (.ref M.length) (M++[.lst ((VM.cut ns lo hi).map .int)]):=by unfold qk;rw[h.bz];simp only[Ow];exact b9 (by have:=Ox ns lo hi;simp;omega)
def fe(M J:Mem)(o:O):(M++o::J)[M.length]? =some o:=by simp
def nA(M J:Mem)(o o':O):(M++o::J).set M.length o'=M++o'::J:=by simp
def kI(M J J2:Mem)(o:O):(M++o::J)++J2=M++o::(J++J2):=by simp
def jQ(M J:Mem)(o:O):M<+:M++o::J:=⟨o::J,rfl⟩
def ma{σ:St}{M M1:Mem}{a:Nat}{xs:List W}{o arg:EM}{y:W}(ho:o σ M=.ok (.ref a) M)(h:M[a]? =some (.lst xs))(he:arg σ M=.ok y M1)(h1:M1[a]? =some (.lst xs))(hl:xs.length<16777216):
 b_ fI o (ae arg ag) σ M=.ok .ao (M1.set a (.lst (xs++[y]))):=by
 unfold b_;rw[ho];simp only[R.bind,fS h,ae,he,ag,um h1 hl]
def GU:EM:=af oMod (af bp (af bp (af bN (aa 1) (af oMod (aa 6) (aa 0))) (af oDiv (aa 6) (aa 0))) (aa 7)) (aa 3)
def GV:EM:=af bp (af oMod (af bp (af bN (aa 8) (af av (aS (ae (eC (.int 1)) (ae (af nU (aa 3) (eC (.int 1))) ag))) (af oMod (af oDiv (aa 2) (eC (.int 5))) (eC (.int 2))))) (aa 4)) (aa 3)) (eC (.int 1))
def Good(s:Nat)(l:List Int):Prop:=∀x∈l,1<=x/\x<=(s:Int)
def Good.app{s:Nat}{l:List Int}(h:Good s l){z:Int}(h1:1<=z)(h2:z<=s):Good s (l++[z]):=λx hx=>by
 rcases acd.mp hx with q|q
 ·exact h x q
 ·rw[ack] at q;subst q;exact⟨h1,h2⟩
def QG(h w s:Nat)(c t r k:Int)(f a b d:Option W)(hh:1<=h/\h<=3)(hw:1<=w/\w<=3)(hs:1<=s/\s<=9)(M:Mem):
 ∃z:Int,GU [some (.int h),some (.int w),some (.int c),some (.int s),some (.int t),f,some (.int r),some (.int k),a,b,d] M=.ok (.int z) M/\0<=z/\z<s:=by
 have h1:=dC (M:=M) (i:=r) (j:=h) (by omega);have h2:=dj (M:=M) (i:=(w:Int)) (j:=r % h) (by omega);have h3:=ff (M:=M) (i:=r) (j:=h) (by omega) (by omega);have h4:=dC (M:=M) (i:=(w:Int)*(r % h)+r / h+k) (j:=s) (by omega);refine⟨((w:Int)*(r % h)+r / h+k) % s,?_,acU _ (by omega),acV _ (by omega)⟩;unfold GU
 walk_at "ev"
 simp only[h1,h2,h3,h4]
def QH(h w s:Nat)(c t r k z:Int)(f b d:Option W)(hs:1<=s/\s<=9)(hz:0<=z/\z<s)(M:Mem):
 ∃y:Int,GV [some (.int h),some (.int w),some (.int c),some (.int s),some (.int t),f,some (.int r),some (.int k),some (.int z),b,d] M=.ok (.int y) (M++[.lst [.int 1,.int ((s:Int)-1)]])/\1<=y/\y<=s:=by
 have hn:br [.int 1,.int ((s:Int)-1)] M=.ok (.ref M.length) (M++[.lst [.int 1,.int ((s:Int)-1)]]):=b9 (by show 2<=16777216;decide);have L:aP (M++[.lst [.int 1,.int ((s:Int)-1)]]) (.ref M.length) [1,(s:Int)-1]:=aF.new M _;have h1:=ff (M:=M++[.lst [.int 1,.int ((s:Int)-1)]]) (i:=c) (j:=5) (by decide) (by decide);have h2:=dC (M:=M++[.lst [.int 1,.int ((s:Int)-1)]]) (i:=c / 5) (j:=2) (by decide);have i1:=eA L (i:=c / 5 % 2) (by omega) (by show c / 5 % 2<((2:Nat):Int);omega);have h3:=dj (M:=M++[.lst [.int 1,.int ((s:Int)-1)]]) (i:=z) (j:=aq [1,(s:Int)-1] (c / 5 % 2)) (by omega);have h4:=dC (M:=M++[.lst [.int 1,.int ((s:Int)-1)]]) (i:=z*aq [1,(s:Int)-1] (c / 5 % 2)+t) (j:=s) (by omega);refine⟨(z*aq [1,(s:Int)-1] (c / 5 % 2)+t) % s+1,?_,?_,?_⟩
 ·unfold GV
  walk_at "ev"
  simp only[hn,h1,h2,i1,h3,h4]
 ·have:=acU (z*aq [1,(s:Int)-1] (c / 5 % 2)+t) (show(s:Int)≠0 by omega);omega
 ·have:=acV (z*aq [1,(s:Int)-1] (c / 5 % 2)+t) (show(0:Int)<s by omega);omega
def MA(f:CM):Prop:=∀(h w:Nat) (c:Int) (M:Mem),1<=h/\h<=3->1<=w/\w<=3->∃v M',f [.int h,.int w,.int c] M=.ok v M'/\M<+:M'/\∃fs,aP M' v fs/\fs.length=h*w*(h*w)/\Good (h*w) fs
def Oy:MA o5:=by
 intro h w c M hh hw;refine bM rfl ?_;have dz:h*w<=9:=aa1 (abv hh.2 hw.2) (by decide);have qG:1<=h*w:=adj hh.1 hw.1;have m1:=dj (M:=M) (i:=(h:Int)) (j:=(w:Int)) (by omega);have es:(h:Int)*(w:Int)=((h*w:Nat):Int):=by simp
 show(aj _ _ [some (.int h),some (.int w),some (.int c),none,none,none,none,none,none,none,none] M).Sat _;refine aB (bL (v:=.int ((h:Int)*w)) (M1:=M) (by walk_at "ev";simp only[m1]) ?_);simp only[aaP,aaQ,es];generalize hsz:h*w=s at dz qG;have m2:=dC (M:=M) (i:=c) (j:=s) (by omega);refine aB (bL (v:=.int (c % s)) (M1:=M) (by walk_at "ev";simp only[m2]) ?_);simp only[aaP,aaQ];refine aB (bL (v:=.ref M.length) (M1:=M++[.lst []]) rfl ?_);simp only[aaP,aaQ];refine aB ?_;have r1:(s:Int).natAbs<bJ:=dc (by omega) (by omega);refine gj (lo:=0) (n:=s) (M1:=M++[.lst []]) (by walk_at "ev";rw[aaN r1,abf]) (λj σ M'=>(∃x y z,σ=[some (.int h),some (.int w),some (.int c),some (.int s),some (.int (c % s)),some (.ref M.length),x,y,z,none,none])/\∃l J,M'=M++.lst (l.map .int)::J/\l.length=j*s/\Good s l) ⟨⟨_,_,_,rfl⟩,[],[],rfl,by simp,λx hx=>by simp at hx⟩ ?_ ?_
 ·rintro j σ M' hj ⟨⟨x,y,z,rfl⟩,l,J,rfl,ll,lg⟩;simp only[aaP,aaQ];refine gj (lo:=0) (n:=s) (M1:=M++.lst (l.map .int)::J) (by walk_at "ev";rw[aaN r1,abf]) (λk σ M'=>(∃y z,σ=[some (.int h),some (.int w),some (.int c),some (.int s),some (.int (c % s)),some (.ref M.length),some (.int (0+(j:Int))),y,z,none,none])/\∃l J,M'=M++.lst (l.map .int)::J/\l.length=j*s+k/\Good s l) ⟨⟨_,_,rfl⟩,l,J,rfl,by simpa using ll,lg⟩ ?_ ?_
  ·rintro k σ M' hk ⟨⟨y,z,rfl⟩,l,J,rfl,ll,lg⟩;simp only[aaP,aaQ];obtain⟨zz,e1,z0,z1⟩:=QG h w s c (c % s) (0+(j:Int)) (0+(k:Int)) (some (.ref M.length)) z none none hh hw ⟨qG,dz⟩ (M++.lst (l.map .int)::J);refine aB (bL (v:=.int zz) (M1:=M++.lst (l.map .int)::J) e1 ?_);simp only[aaP,aaQ];obtain⟨yy,e2,y0,y1⟩:=QH h w s c (c % s) (0+(j:Int)) (0+(k:Int)) zz (some (.ref M.length)) none none ⟨qG,dz⟩ ⟨z0,z1⟩ (M++.lst (l.map .int)::J);have hlen:(l.map W.int).length<16777216:=by have:j*s<=9*9:=abv (by omega) dz;rw[aaV];omega
   have a1:=ma (σ:=[some (.int h),some (.int w),some (.int c),some (.int s),some (.int (c % s)),some (.ref M.length),some (.int (0+(j:Int))),some (.int (0+(k:Int))),some (.int zz),none,none]) (o:=aa 5) rfl (fe M J _) e2 (by rw[kI];exact fe M _ _) hlen;rw[kI,nA] at a1;refine e_ a1 ?_;refine⟨⟨_,_,rfl⟩,l++[yy],J++[.lst [.int 1,.int ((s:Int)-1)]],by simp,?_,lg.app y0 y1⟩;rw[abb,ll];simp only[abq,aca];omega
  ·rintro σ M' ⟨⟨y,z,rfl⟩,l,J,rfl,ll,lg⟩;exact⟨⟨_,_,_,rfl⟩,l,J,rfl,by rw[ll,adG],lg⟩
 ·rintro σ M' ⟨⟨x,y,z,rfl⟩,l,J,rfl,ll,lg⟩;dsimp only;generalize dU:M++O.lst (l.map .int)::J=M2;have p2:M<+:M2:=by rw[<-dU];exact jQ _ _ _
  have L2:aP M2 (.ref M.length) l:=⟨_,rfl,by rw[<-dU];exact fe M J _⟩;refine aB ?_;have d7:=ff (M:=M2) (i:=c) (j:=7) (by decide) (by decide);have q7:=dC (M:=M2) (i:=c / 7) (j:=2) (by decide);refine aM (c:=decide (c / 7 % 2=1)&&decide (h=w)) (M1:=M2) ?_ (λ_=>?_) λ_=>?_
  ·walk_at "ev"
   simp only[d7,q7,eq_int];have:decide ((h:Int)=w)=decide (h=w):=by rw[abw,abj,abj];omega
   rw[this];cases decide (c / 7 % 2=1)<;>rfl
  ·refine aB (bL (v:=.ref M2.length) (M1:=M2++[.lst []]) rfl ?_);simp only[aaP,aaQ];refine aB ?_;have m3:=dj (M:=M2++[.lst []]) (i:=(s:Int)) (j:=(s:Int)) (by omega);have BE:(s:Int)*(s:Int)=((s*s:Nat):Int):=by simp
   have mO:s*s<=9*9:=abv dz dz;have r2:((s*s:Nat):Int).natAbs<bJ:=dc (by omega) (by omega);refine gj (lo:=0) (n:=s*s) (M1:=M2++[.lst []]) (by walk_at "ev";simp only[m3];rw[BE,aaN r2,abf]) (λj σ M'=>(∃u,σ=[some (.int h),some (.int w),some (.int c),some (.int s),some (.int (c % s)),some (.ref M.length),x,y,z,some (.ref M2.length),u])/\∃l,M'=M2++[.lst (l.map .int)]/\l.length=j/\Good s l) ⟨⟨_,rfl⟩,[],rfl,rfl,λx hx=>by simp at hx⟩ ?_ ?_
   ·rintro j σ M' hj ⟨⟨u,rfl⟩,l2,rfl,BF,BG⟩;simp only[aaP,aaQ];have ez:(0:Int)+(j:Int)=(j:Int):=by omega
    have n1:=dC (M:=M2++[.lst (l2.map .int)]) (i:=(j:Int)) (j:=(s:Int)) (by omega);have n2:=dj (M:=M2++[.lst (l2.map .int)]) (i:=(j:Int) % (s:Int)) (j:=(s:Int)) (by have a:=acU (j:Int) (show(s:Int)≠0 by omega);have b:=acV (j:Int) (show(0:Int)<s by omega);omega)
    have n3:=ff (M:=M2++[.lst (l2.map .int)]) (i:=(j:Int)) (j:=(s:Int)) (by omega) (by omega);have e3:(j:Int) % (s:Int)*(s:Int)+(j:Int) / (s:Int)=((j % s*s+j / s:Nat):Int):=by simp
    have b3:j % s*s+j / s<s*s:=by have a:=Nat.mod_lt j qG;have b:j / s<s:=ad_ hj;have d:(j % s+1)*s<=s*s:=Nat.mul_le_mul_right s a;rw[adG] at d;omega
    have i3:=eA (L2.mono (pre_app M2 [.lst (l2.map .int)])) (i:=((j % s*s+j / s:Nat):Int)) (acW _) (by rw[ll];exact Int.ofNat_lt.mpr b3);have ge:af av (aa 5) (af bp (af bN (af oMod (aa 10) (aa 3)) (aa 3)) (af oDiv (aa 10) (aa 3))) [some (.int h),some (.int w),some (.int c),some (.int s),some (.int (c % s)),some (.ref M.length),x,y,z,some (.ref M2.length),some (.int (0+(j:Int)))] (M2++[.lst (l2.map .int)])=.ok (.int (aq l ((j % s*s+j / s:Nat):Int))) (M2++[.lst (l2.map .int)]):=by
     walk_at "ev"
     simp only[ez,n1,n2,n3,e3,i3]
    have a1:=ma (o:=aa 9) rfl (b8 M2 _) ge (b8 M2 _) (by rw[aaV];omega);rw[pF] at a1;refine e_ a1 ?_;have hm:=uR (fs:=l) (i:=((j % s*s+j / s:Nat):Int)) (acW _) (by rw[ll];exact Int.ofNat_lt.mpr b3);exact⟨⟨_,rfl⟩,l2++[aq l ((j % s*s+j / s:Nat):Int)],by simp,by rw[abb,BF];rfl,BG.app (lg _ hm).1 (lg _ hm).2⟩
   ·rintro σ M' ⟨⟨u,rfl⟩,l2,rfl,BF,BG⟩;dsimp only;refine bL (v:=.ref M2.length) (M1:=M2++[.lst (l2.map .int)]) rfl ?_;simp only[aaP,aaQ];refine aR (v:=.ref M2.length) (M1:=M2++[.lst (l2.map .int)]) rfl ?_;exact⟨p2.trans (pre_app _ _),l2,aF.new _ _,BF,BG⟩
  ·refine bT ?_;dsimp only;exact aR (v:=.ref M.length) (M1:=M2) rfl ⟨p2,l,L2,ll,lg⟩
def Sx(M:Mem)(vf vc:W)(fs cs:List Int)(sh:Int)(hf:aP M vf fs)(hc:aP M vc cs)(hl:fs.length<=81):∃ss:List Int,m8 [vf,vc,.int sh] M=.ok (.ref M.length) (M++[.lst (ss.map .int)])/\ss.length=fs.length/\∀j:Nat,j<fs.length->(aq ss j=0\/aq ss j=aq fs j):=by
 suffices key:∃v M',m8 [vf,vc,.int sh] M=.ok v M'/\∃ss:List Int,v=.ref M.length/\M'=M++[.lst (ss.map .int)]/\ss.length=fs.length/\∀j:Nat,j<fs.length->(aq ss j=0\/aq ss j=aq fs j) by obtain⟨v,M',e,ss,rfl,rfl,h⟩:=key;exact⟨ss,e,h⟩
 refine bM rfl ?_;show(aj _ _ [some vf,some vc,some (.int sh),none,none,none] M).Sat _;refine aB (bL (v:=.ref M.length) (M1:=M++[.lst []]) rfl ?_);simp only[aaP,aaQ];refine aB ?_;have r1:(fs.length:Int).natAbs<bJ:=dc (by omega) (by omega);refine gj (lo:=0) (n:=fs.length) (M1:=M++[.lst []]) (by walk_at "ev";simp only[jS (aF.mono hf (pre_app M _))];rw[aaN r1,abf]) (λj σ M'=>(∃x y,σ=[some vf,some vc,some (.int sh),some (.ref M.length),x,y])/\∃l,M'=M++[.lst (l.map .int)]/\l.length=j/\∀i:Nat,i<j->(aq l i=0\/aq l i=aq fs i)) ⟨⟨_,_,rfl⟩,[],rfl,rfl,λi hi=>by omega⟩ ?_ ?_
 ·rintro j σ M' hj ⟨⟨x,y,rfl⟩,l,rfl,ll,lg⟩;simp only[aaP,aaQ];have ez:(0:Int)+(j:Int)=(j:Int):=by omega
  have F:=aF.mono hf (pre_app M [.lst (l.map .int)]);have C:=aF.mono hc (pre_app M [.lst (l.map .int)]);refine aB (bL (v:=.int 0) (M1:=M++[.lst (l.map .int)]) rfl ?_);simp only[aaP,aaQ];have step:∀cell:Int,(cH (b_ fI (aa 3) (ae (af bN (af av (aa 0) (aa 4)) (ak gx (ae (af ju (af oMod (af bp (aa 5) (aa 4)) (eC (.int 7))) (aa 2)) ag))) ag)) [some vf,some vc,some (.int sh),some (.ref M.length),some (.int (0+(j:Int))),some (.int cell)] (M++[.lst (l.map .int)])).Sat {nx:=λσ M'=>(∃x y,σ=[some vf,some vc,some (.int sh),some (.ref M.length),x,y])/\∃l,M'=M++[.lst (l.map .int)]/\l.length=j+1/\∀i:Nat,i<j+1->(aq l i=0\/aq l i=aq fs i),rt:=λ_ _=>False}:=by
   intro cell;have i1:=eA F (i:=(j:Int)) (by omega) (by omega);have m1:=dC (M:=M++[.lst (l.map .int)]) (i:=cell+(j:Int)) (j:=7) (by decide);have T_:∀b:Bool,(if b then(1:Int) else 0).natAbs<=1000000:=λb=>by cases b<;>decide
   have m2:∀b:Bool,bN (.int (aq fs j)) (.int (if b then 1 else 0)) (M++[.lst (l.map .int)])=.ok (.int (aq fs j*(if b then 1 else 0))) (M++[.lst (l.map .int)]):=λb=>aaN (.inr (by have:=T_ b;unfold mn;omega))
   have ge:af bN (af av (aa 0) (aa 4)) (ak gx (ae (af ju (af oMod (af bp (aa 5) (aa 4)) (eC (.int 7))) (aa 2)) ag)) [some vf,some vc,some (.int sh),some (.ref M.length),some (.int (0+(j:Int))),some (.int cell)] (M++[.lst (l.map .int)])=.ok (.int (aq fs j*(if decide (sh<=(cell+(j:Int)) % 7) then 1 else 0))) (M++[.lst (l.map .int)]):=by
    walk_at "ev"
    simp only[ez,i1,m1,ge_int,gx,m2]
   have a1:=ma (o:=aa 3) rfl (b8 M _) ge (b8 M _) (by rw[aaV];omega);rw[pF] at a1;refine e_ a1 ⟨⟨_,_,rfl⟩,l++[aq fs j*(if decide (sh<=(cell+(j:Int)) % 7) then 1 else 0)],by simp,by rw[abb,ll];rfl,λi hi=>?_⟩;by_cases q:i<j
   ·have:=lg i q;have e:aq (l++[aq fs j*(if decide (sh<=(cell+(j:Int)) % 7) then 1 else 0)]) i=aq l i:=by
     have h1:i<l.length:=by omega
     rw[pV h1,pV (by rw[abb];omega),List.getElem_append_left h1]
    rw[e];exact this
   ·have q':i=l.length:=by omega
    subst q';rw[pV (j:=l.length) (by simp)];simp only[List.getElem_concat_length];rw[<-ll];split
    ·right;omega
    ·left;omega
  refine aB (aM (c:=decide ((j:Int)<(cs.length:Int))) (M1:=M++[.lst (l.map .int)]) ?_ (λfP=>?_) λ_=>?_)
  ·walk_at "ev"
   simp only[ez,jS C,lt_int]
  ·have hb:(j:Int)<(cs.length:Int):=abx fP;refine bL (v:=.int (aq cs j)) (M1:=M++[.lst (l.map .int)]) (by walk_at "ev";simp only[ez];exact eA C (by omega) hb) ?_;simp only[aaP,aaQ];exact RS.Sat.mono (step _) (λ_ _ q=>q) (λ_ _ q=>q.elim) (λ_ _ q=>q.elim) (λ_ _ q=>q.elim)
  ·refine bT ?_;dsimp only;exact RS.Sat.mono (step _) (λ_ _ q=>q) (λ_ _ q=>q.elim) (λ_ _ q=>q.elim) (λ_ _ q=>q.elim)
 ·rintro σ M' ⟨⟨x,y,rfl⟩,l,rfl,ll,lg⟩;dsimp only;refine aR (v:=.ref M.length) (M1:=M++[.lst (l.map .int)]) rfl ?_;exact⟨l,rfl,rfl,ll,lg⟩
theorem DS{i:Nat}:∀(xs:List W) (σ:St) (M:Mem) (acc:List W),comp [] (ar i) dD (aS ag) (xs.map .val) σ M acc=.ok (acc++(List.range' M.length xs.length).map .ref) (M++List.replicate xs.length (.lst []))
 |[],σ,M,acc=>by rw[abJ,comp,aaN (show b7.ok [] M=true from rfl)];simp
 |x::r,σ,M,acc=>by rw[aa8,comp,aaN (show b7.ok [] M=true from rfl)];have hn:br [] M=.ok (.ref M.length) (M++[.lst []]):=rfl;simp only[Src.get,R.bind,ar,dD,aaW,aS,ag,hn];have:=DS (i:=i) r (σ.set i (some x)) (M++[.lst []]) (acc++[.ref M.length]);unfold aS ag at this;simp only[R.bind] at this;refine this.trans ?_;simp[List.range'_succ,abY]
def enc(A:List (List Int)):Mem:=A.map λl=>O.lst (l.map .int)
def z8(M K:Mem)(A:List (List Int))(g:Nat)(hg:g<A.length):(M++(enc A++K))[M.length+g]? =some (.lst ((A[g]).map .int)):=by rw[abW (by omega),adH,abM (by simpa[enc] using hg)];simp[enc,hg]
def Oz(M K:Mem)(A:List (List Int))(g:Nat)(l:List Int)(hg:g<A.length):(M++(enc A++K)).set (M.length+g) (.lst (l.map .int))=M++(enc (A.set g l)++K):=by rw[adI _ _ (by omega),adH,adJ _ _ (by simpa[enc] using hg)];simp[enc,adk]
def hJ(p:Int)(A:List (List Int))(g:Nat):List (List Int):=A.set g (A.getD g []++[p])
def Lh(p:Int)(A:List (List Int))(g:Nat):(hJ p A g).length=A.length:=by simp[hJ]
def cF(h w p:Nat):List Nat:=[p / (h*w),h*w+p % (h*w),2*(h*w)+(p / (h*w) / h*h+p % (h*w) / w)]
def AG(h w n:Nat):List (List Int):=(List.range n).foldl (λA (p:Nat)=>(cF h w p).foldl (hJ (p:Int)) A) (List.replicate (3*(h*w)) [])
def E9(h w n:Nat):AG h w (n+1)=(cF h w n).foldl (hJ (n:Int)) (AG h w n):=by unfold AG;rw[ab6,adl];rfl
theorem rN(p:Int):∀(gs:List Nat) (A:List (List Int)),(gs.foldl (hJ p) A).length=A.length
 |[],_=>rfl
 |g::r,A=>by rw[acX,rN p r,Lh]
def QI(h w n:Nat):(AG h w n).length=3*(h*w):=by
 induction n with
 |zero=>simp[AG]
 |succ n ih=>rw[E9,rN,ih]
def OA{h w:Nat}(hh:1<=h/\h<=3)(hw:1<=w/\w<=3):AG h w (h*w*(h*w))=ah h w:=by rcases h3 hh with rfl|rfl|rfl<;>rcases h3 hw with rfl|rfl|rfl<;>decide+kernel
def sv{h w p:Nat}(hh:1<=h/\h<=3)(hw:1<=w/\w<=3)(hp:p<h*w*(h*w)):∀g∈cF h w p,g<3*(h*w):=by intro g hg;simp only[cF,aaX,aa',aba] at hg;rcases h3 hh with rfl|rfl|rfl<;>rcases h3 hw with rfl|rfl|rfl<;>simp at hp hg⊢<;>omega
theorem a_.of_get{α β:Type}{R:α->β->Prop}:∀{l:List α} {m:List β},l.length=m.length->(∀(i:Nat) x y,l[i]? =some x->m[i]? =some y->R x y)->a_ R l m
 |[],[],_,_=>.nil
 |x::l,y::m,h,f=>.cons (f 0 x y rfl rfl) (a_.of_get (by simpa using h) λi a b ha hb=>f (i+1) a b (by simpa using ha) (by simpa using hb))
 |[],_::_,h,_=>by simp at h
 |_::_,[],h,_=>by simp at h
def JA:yU o4:=by
 intro h w M hh hw;refine bM rfl ?_;have dz:h*w<=9:=aa1 (abv hh.2 hw.2) (by decide);have qG:1<=h*w:=adj hh.1 hw.1;have m1:=dj (M:=M) (i:=(h:Int)) (j:=(w:Int)) (by omega);have es:(h:Int)*(w:Int)=((h*w:Nat):Int):=by simp
 show(aj _ _ [some (.int h),some (.int w),none,none,none,none,none,none,none] M).Sat _;refine aB (bL (v:=.int ((h:Int)*w)) (M1:=M) (by walk_at "ev";simp only[m1]) ?_);simp only[aaP,aaQ,es];have gi:∀p,p<h*w*(h*w)->∀g∈cF h w p,g<3*(h*w):=λp hp=>sv hh hw hp
 have wx:=QI h w;have BH:=OA hh hw;have HE:=E9 h w;have BI:∀p,cF h w p=[p / (h*w),h*w+p % (h*w),2*(h*w)+(p / (h*w) / h*h+p % (h*w) / w)]:=λp=>rfl
 have BJ:AG h w 0=List.replicate (3*(h*w)) []:=rfl;generalize hsz:h*w=s at dz qG gi wx BH BI BJ;have m3:=dj (M:=M) (i:=(3:Int)) (j:=(s:Int)) (by decide);have e3:(3:Int)*(s:Int)=((3*s:Nat):Int):=by simp
 have r3:((3*s:Nat):Int).natAbs<bJ:=dc (by omega) (by omega);have hrefs:((List.range' M.length (3*s)).map W.ref).length=3*s:=by simp
 have hc:b5 1 [] (cg (af bN (eC (.int 3)) (aa 2))) (ar 9) dD (aS ag) [some (.int h),some (.int w),some (.int s),none,none,none,none,none,none] M=.ok (.ref (M.length+3*s)) (M++(enc (AG h w 0)++[.lst ((List.range' M.length (3*s)).map .ref)])):=by
  unfold b5;have hi:cg (af bN (eC (.int 3)) (aa 2)) [some (.int h),some (.int w),some (.int s),none,none,none,none,none,none] M=.ok (cJ 0 (3*s),[]) M:=by
   walk_at "ev"
   simp only[m3];rw[e3,aaN r3,abf]
  rw[hi];simp only[R.bind,pq];rw[DS];have hl:(i7 0 (3*s)).length=3*s:=by simp[i7]
  rw[hl];simp only[R.bind,R.eB,abl];rw[b9 (by omega),BJ];have e4:enc (List.replicate (3*s) [])=List.replicate (3*s) (.lst []):=by simp[enc]
  rw[e4,abb,ady,abZ]
 refine aB (bL hc ?_);simp only[aaP,aaQ];refine aB ?_;generalize i8:M++(enc (AG h w 0)++[.lst ((List.range' M.length (3*s)).map .ref)])=M1;have m4:=dj (M:=M1) (i:=(s:Int)) (j:=(s:Int)) (by omega);have e5:(s:Int)*(s:Int)=((s*s:Nat):Int):=by simp
 have mO:s*s<=9*9:=abv dz dz;have r5:((s*s:Nat):Int).natAbs<bJ:=dc (by omega) (by omega);have Gn:∀(A:List (List Int)) (J:Mem),A.length=3*s->(M++(enc A++.lst ((List.range' M.length (3*s)).map .ref)::J))[M.length+3*s]? =some (.lst ((List.range' M.length (3*s)).map .ref)):=λA J hA=>by rw[abW (by omega),adH,abW (by simp[enc,hA])];simp[enc,hA]
 refine gj (lo:=0) (n:=s*s) (M1:=M1) (by walk_at "ev";simp only[m4];rw[e5,aaN r5,abf]) (λp σ M'=>(∃a b c d e,σ=[some (.int h),some (.int w),some (.int s),some (.ref (M.length+3*s)),a,b,c,d,e])/\∃J,M'=M++(enc (AG h w p)++.lst ((List.range' M.length (3*s)).map .ref)::J)/\∀l∈AG h w p,l.length<=3*p) ⟨⟨_,_,_,_,_,rfl⟩,[],i8.symm,λl hl=>by rw[BJ] at hl;rw[List.eq_of_mem_replicate hl];simp⟩ ?_ ?_
 ·rintro p σ M' hp ⟨⟨a,b,c,d,e,rfl⟩,J,rfl,hlen⟩;simp only[aaP,aaQ];have ez:(0:Int)+(p:Int)=(p:Int):=by omega
  generalize dU:M++(enc (AG h w p)++.lst ((List.range' M.length (3*s)).map .ref)::J)=M2;have d1:=ff (M:=M2) (i:=(p:Int)) (j:=(s:Int)) (by omega) (by omega);have d2:=dC (M:=M2) (i:=(p:Int)) (j:=(s:Int)) (by omega);have c1:(p:Int) / (s:Int)=((p / s:Nat):Int):=by simp
  have c2:(p:Int) % (s:Int)=((p % s:Nat):Int):=by simp
  refine aB (bL (v:=.int (p / s:Nat)) (M1:=M2) (by walk_at "ev";simp only[ez,d1,c1]) ?_);simp only[aaP,aaQ];refine aB (bL (v:=.int (p % s:Nat)) (M1:=M2) (by walk_at "ev";simp only[ez,d2,c2]) ?_);simp only[aaP,aaQ];have d3:=ff (M:=M2) (i:=((p / s:Nat):Int)) (j:=(h:Int)) (by omega) (by omega);have d4:=ff (M:=M2) (i:=((p % s:Nat):Int)) (j:=(w:Int)) (by omega) (by omega);have d5:bN (.int (((p / s:Nat):Int) / (h:Int))) (.int h) M2=.ok (.int (((p / s:Nat):Int) / (h:Int)*h)) M2:=aaN (.inr (by unfold mn;omega));have c3:((p / s:Nat):Int) / (h:Int)*h+((p % s:Nat):Int) / (w:Int)=((p / s / h*h+p % s / w:Nat):Int):=by simp
  refine aB (bL (v:=.int (p / s / h*h+p % s / w:Nat)) (M1:=M2) (by walk_at "ev";simp only[d3,d4,d5,c3]) ?_);simp only[aaP,aaQ];have d6:=dj (M:=M2) (i:=2) (j:=(s:Int)) (by decide);have hn:br ((cF h w p).map λ(g:Nat)=>W.int g) M2=.ok (.ref M2.length) (M2++[.lst ((cF h w p).map λ(g:Nat)=>W.int g)]):=b9 (by rw[BI];show 3<=16777216;decide);have hle:aS (ae (aa 5) (ae (af bp (aa 2) (aa 6)) (ae (af bp (af bN (eC (.int 2)) (aa 2)) (aa 7)) ag))) [some (.int h),some (.int w),some (.int s),some (.ref (M.length+3*s)),some (.int (0+(p:Int))),some (.int (p / s:Nat)),some (.int (p % s:Nat)),some (.int (p / s / h*h+p % s / w:Nat)),e] M2=.ok (.ref M2.length) (M2++[.lst ((cF h w p).map λ(g:Nat)=>W.int g)]):=by
   rw[<-hn];unfold aS;have c4:(s:Int)+((p % s:Nat):Int)=((s+p % s:Nat):Int):=by simp
   have c5:(2:Int)*(s:Int)+((p / s / h*h+p % s / w:Nat):Int)=((2*s+(p / s / h*h+p % s / w):Nat):Int):=by simp
   walk_at "ev"
   simp only[d6,R.bind,c4,c5,BI,aa8,abJ]
  have eW:(cF h w p).length=3:=rfl;have BK:∀(k:Nat) (g:Nat),(cF h w p)[k]? =some g->g<3*s:=λk g hg=>gi p hp g (ab2 hg)
  have Gp:∀k g,(cF h w p)[k]? =some g->(((cF h w p).take (k+1)).foldl (hJ (p:Int)) (AG h w p))=hJ (p:Int) (((cF h w p).take k).foldl (hJ (p:Int)) (AG h w p)) g:=λk g hg=>by rw[acb,hg,adl];rfl
  refine fb (v:=.ref M2.length) (xs:=(cF h w p).map λ(g:Nat)=>W.int g) hle (aF.new _ _) (λk σ M'=>(∃e,σ=[some (.int h),some (.int w),some (.int s),some (.ref (M.length+3*s)),some (.int (0+(p:Int))),some (.int (p / s:Nat)),some (.int (p % s:Nat)),some (.int (p / s / h*h+p % s / w:Nat)),e])/\M'=M++(enc (((cF h w p).take k).foldl (hJ (p:Int)) (AG h w p))++.lst ((List.range' M.length (3*s)).map .ref)::(J++[.lst ((cF h w p).map λ(g:Nat)=>W.int g)]))/\∀l∈((cF h w p).take k).foldl (hJ (p:Int)) (AG h w p),l.length<=3*p+k)
   ⟨⟨_,rfl⟩,by rw[<-dU];simp,λl hl=>hlen l hl⟩ ?_ ?_ ?_
  ·rintro k σ M' hk ⟨_,rfl,_⟩;refine⟨_,rfl,?_⟩;rw[<-dU];have q1:M++(enc (((cF h w p).take k).foldl (hJ (p:Int)) (AG h w p))++.lst ((List.range' M.length (3*s)).map .ref)::(J++[.lst ((cF h w p).map λ(g:Nat)=>W.int g)]))=(M++(enc (((cF h w p).take k).foldl (hJ (p:Int)) (AG h w p))++.lst ((List.range' M.length (3*s)).map .ref)::J))++[.lst ((cF h w p).map λ(g:Nat)=>W.int g)]:=by simp
   rw[q1,abW (by simp[enc,rN])];simp[enc,rN]
  ·rintro k x σ M' hx ⟨⟨e,rfl⟩,rfl,mP⟩;simp only[aaP,aaQ];rw[abS] at hx;cases eg:(cF h w p)[k]? with
   |none=>rw[eg] at hx;cases hx
   |some g=>
    rw[eg] at hx;have ex:x=.int g:=(aa2 hx).symm;subst ex;have gl:=BK k g eg;have k3:k<3:=by have:=(aaZ.mp eg).1;omega
    generalize hA:((cF h w p).take k).foldl (hJ (p:Int)) (AG h w p)=A at mP;have UX:A.length=3*s:=by rw[<-hA,rN,wx]
    have gA:g<A.length:=by omega
    generalize hK:O.lst ((List.range' M.length (3*s)).map .ref)::(J++[.lst ((cF h w p).map λ(g:Nat)=>W.int g)])=K;have ix:av (.ref (M.length+3*s)) (.int g) (M++(enc A++K))=.ok (.ref (M.length+g)) (M++(enc A++K)):=by
     have q:=Gn A (J++[.lst ((cF h w p).map λ(g:Nat)=>W.int g)]) UX;rw[hK] at q;have jw:cR ((List.range' M.length (3*s)).map W.ref) (g:Int)=some (.ref (M.length+g)):=by unfold cR cK;rw[aaN (by omega),aaN (by rw[hrefs];omega)];simp[gl]
     simp only[av,lZ q,jw]
    have ZQ:A[g].length<=3*p+k:=mP _ (acy gA);have a1:=ma (σ:=[some (.int h),some (.int w),some (.int s),some (.ref (M.length+3*s)),some (.int (0+(p:Int))),some (.int (p / s:Nat)),some (.int (p % s:Nat)),some (.int (p / s / h*h+p % s / w:Nat)),some (.int g)]) (o:=af av (aa 3) (aa 8)) (arg:=aa 4) (by walk_at "ev";exact ix) (z8 M K A g gA) (show _=R.ok (.int (0+(p:Int))) _ from rfl) (z8 M K A g gA) (by rw[aaV];omega);have e6:(A[g].map W.int++[W.int (0+(p:Int))])=(A.getD g []++[(p:Int)]).map .int:=by simp[List.getD,gA]
    rw[e6,Oz M K A g _ gA] at a1;refine e_ a1 ?_;refine⟨⟨_,rfl⟩,?_,?_⟩
    ·rw[Gp k g eg,hA];rfl
    ·rw[Gp k g eg,hA];intro l hl;unfold hJ at hl;rcases acY hl with q|q
     ·have:=mP l q;omega
     ·subst q;simp[List.getD,gA];omega
  ·rintro σ M' ⟨⟨e,rfl⟩,rfl,mP⟩;have e7:(cF h w p).take ((cF h w p).map λ(g:Nat)=>W.int g).length=cF h w p:=by rw[aaV,aby]
   rw[e7] at mP;refine⟨⟨_,_,_,_,_,rfl⟩,J++[.lst ((cF h w p).map λ(g:Nat)=>W.int g)],by rw[e7,<-HE],?_⟩;rw[HE];intro l hl;have:=mP l hl;rw[aaV,eW] at this;omega
 ·rintro σ M' ⟨⟨a,b,c,d,e,rfl⟩,J,rfl,hlen⟩;dsimp only;refine aR (v:=.ref (M.length+3*s)) (M1:=M++(enc (AG h w (s*s))++.lst ((List.range' M.length (3*s)).map .ref)::J)) rfl ?_;refine⟨pre_app _ _,(List.range' M.length (3*s)).map .ref,⟨_,rfl,Gn _ J (wx _)⟩,?_⟩;have eW:(ah h w).length=3*s:=by rw[<-BH,wx]
  rw[BH];refine a_.of_get (by rw[hrefs,eW]) λi x y hx hy=>?_
  obtain⟨hi,ey⟩:=aaZ.mp hy;have ow:i<3*s:=by omega
  have ex:x=.ref (M.length+i):=by simp[ow] at hx;exact hx.symm
  subst ex;refine⟨_,rfl,?_⟩;rw[z8 M _ _ i hi,ey]
inductive Wk(M:Mem):List W->List W->Nat->Prop
 |nil:Wk M [] [] 0
 |flat {x:W} {ls rs:List W} {n:Nat}:VM.flat x=true->Wk M ls rs n->Wk M (ls++[x]) (rs++[x]) (n+1)
 |seq {a b:Nat} {xs ys ls rs:List W} {n:Nat}:M[a]? =some (.lst xs)->M[b]? =some (.lst ys)->xs.length=ys.length->Wk M (ls++xs) (rs++ys) n->Wk M (ls++[.ref a]) (rs++[.ref b]) (n+1)
 |tup {a b:Nat} {xs ys ls rs:List W} {n:Nat}:M[a]? =some (.tup xs)->M[b]? =some (.tup ys)->xs.length=ys.length->Wk M (ls++xs) (rs++ys) n->Wk M (ls++[.ref a]) (rs++[.ref b]) (n+1)
def Wk.len{M:Mem}{ls rs:List W}{n:Nat}(h:Wk M ls rs n):ls.length<=n/\rs.length<=n:=by
 induction h with
 |nil=>simp
 |flat _ _ ih=>simp;omega
 |seq _ _ _ _ ih=>simp at ih⊢;omega
 |tup _ _ _ _ ih=>simp at ih⊢;omega
def Wk.AN{M:Mem}{ls rs:List W}{n:Nat}(h:Wk M ls rs n):∀(zs:List W),zs.all VM.flat=true->Wk M (ls++zs) (rs++zs) (n+zs.length):=by
 intro zs;induction zs generalizing ls rs n with
 |nil=>intro _;simpa using h
 |cons z r ih=>intro hz;rw[abX,aaT] at hz;have:=ih (h.flat hz.1) hz.2;rw[abZ,abZ] at this;rw[abq,show n+(r.length+1)=n+1+r.length by omega];exact this
def gk(M J:Mem)(o p:O):(M++o::p::J)[M.length]? =some o/\(M++o::p::J)[M.length+1]? =some p:=by
 constructor
 ·simp
 ·rw[abW (by omega)];simp
def uF(M J:Mem)(o p o':O):(M++o::p::J).set M.length o'=M++o'::p::J:=by simp
def rV(M J:Mem)(o p p':O):(M++o::p::J).set (M.length+1) p'=M++o::p'::J:=by rw[adI _ _ (by omega)];simp
def FR{M:Mem}{a:Nat}{xs:List W}{x:W}(h:M[a]? =some (.lst (xs++[x]))):mB (.ref a) [] M=.ok x (M.set a (.lst xs)):=by
 unfold mB;rw[gW h];have e:(xs++[x])[(xs++[x]).length-1]? =some x:=by simp
 simp only[e];simp
def u_{M:Mem}{a b:Nat}{xs ys:List W}(h:M[a]? =some (.lst xs))(h2:M[b]? =some (.lst ys)\/M[b]? =some (.tup ys))(hl:xs.length+ys.length<=16777216):nv (.ref a) [.ref b] M=.ok .ao (M.set a (.lst (xs++ys))):=by
 have e:litOf M (.ref b)=some ys:=by rcases h2 with h2|h2<;>simp only[litOf,h2]
 simp only[nv,gW h,e];exact aaN hl
def E_{M:Mem}{a:Nat}{xs:List W}(h:M[a]? =some (.tup xs)):bK M (.ref a)=some xs:=by
 have e:bz M (.ref a)=none:=by simp only[VM.bz,h]
 simp only[VM.bK,e,VM.cL,h]
def DT(i:Int)(M:Mem):cZ [.int i] M=.ok (.bl true) M:=rfl
def OB(x:W)(M:Mem)(h:VM.flat x=true):bV x x M=.ok (.bl false) M:=by unfold bV eG;cases x<;>simp[VM.eE,VM.flat] at h⊢
def vB(a b:Bool)(M:Mem):bV (.bl a) (.bl b) M=.ok (.bl (!decide (a=b))) M:=by unfold bV eG;simp[VM.eE]
def mr:TM:=tB (af bV (aa 3) (aS (ag)))
def Gq(kG:CM):SM:=
 aN (tB (bW [.list,.tuple] (aa 5))) (
  aj (
   aN (tB (af bV (bW [.list] (aa 4)) (bW [.list] (aa 5)))) (
    aH (eC (.bl false))) (
    aV)) (
  aj (
   aN (bZ (tB (af bV (bW [.tuple] (aa 4)) (bW [.tuple] (aa 5)))) (tB (af bV (ak bx (ae (aa 4) ag)) (ak bx (ae (aa 5) ag))))) (
    aH (eC (.bl false))) (
    aV)) (
  aj (
   cH (b_ nv (aa 2) (ae (aa 4) ag))) (
  cH (b_ nv (aa 3) (ae (aa 5) ag)))))) (
  aN (tB (dQ (aa 5))) (
   aN (tB (mq (aa 4))) (
    aH (eC (.bl false))) (
    aV)) (
   aN (tB (bW [.bool] (aa 5))) (
    aN (bZ (b6 (tB (bW [.bool] (aa 4)))) (tB (af bV (aa 4) (aa 5)))) (
     aH (eC (.bl false))) (
     aV)) (
    aN (tB (bW [.str] (aa 5))) (
     aN (bZ (b6 (tB (bW [.str] (aa 4)))) (tB (af bV (aa 4) (aa 5)))) (
      aH (eC (.bl false))) (
      aV)) (
     aN (bZ (b6 (tB (ak kG (ae (aa 4) ag)))) (tB (af bV (aa 4) (aa 5)))) (
      aH (eC (.bl false))) (
      aV)))))
def sy(kG:CM):SM:=aj (aG (b_ mB (aa 2) (ag)) (ar 4)) (aj (aG (b_ mB (aa 3) (ag)) (ar 5)) (Gq kG))
def Li(M:Mem)(f d:W):∀(n:Nat) (k:Nat) (ls rs:List W) (J:Mem) (x y:Option W),Wk M ls rs n->n<k->n<=16000000-> (fJ mr (sy cZ) k [some f,some d,some (.ref M.length),some (.ref (M.length+1)),x,y] (M++.lst ls::.lst rs::J)).Sat {nx:=λ_ M'=>M<+:M',rt:=λ_ _=>False}:=by
 intro n;induction n with
 |zero=>
  intro k ls rs J x y hw hk _;obtain⟨k,rfl⟩:∃j,k=j+1:=⟨k-1,by omega⟩;cases hw;have t:mr [some f,some d,some (.ref M.length),some (.ref (M.length+1)),x,y] (M++.lst []::.lst []::J)=.ok false (M++.lst []::.lst []::J++[.lst []]):=by have hn:br [] (M++.lst []::.lst []::J)=.ok (.ref (M++O.lst []::.lst []::J).length) (M++.lst []::.lst []::J++[.lst []]):=rfl;have g1:=aD (pre_app (M++O.lst []::.lst []::J) [.lst []]) (gk M J (.lst []) (.lst [])).2;have g2:=aF.new (M++O.lst []::.lst []::J) [];unfold mr;simp only[tB,af,aa,aS,ag,aaU,aaR,R.bind,hn,bV,eG,VM.eE,abi,aa_,fS g1,g2.bz];rfl
  refine tZ t ?_;exact⟨.lst []::.lst []::J++[.lst []],by simp⟩
 |succ n ih=>
  intro k ls rs J x y hw hk eJ;obtain⟨k,rfl⟩:∃j,k=j+1:=⟨k-1,by omega⟩;have hl:=hw.len;have key:∀(l r:W) (cB cy:List W),ls=cB++[l]->rs=cy++[r]-> ((Gq cZ) [some f,some d,some (.ref M.length),some (.ref (M.length+1)),some l,some r] (M++.lst cB::.lst cy::(J++[.lst []]))).Sat {nx:=λaA M'=>(fJ mr (sy cZ) k aA M').Sat {nx:=λ_ M'=>M<+:M',rt:=λ_ _=>False},rt:=λ_ _=>False,ct:=λaA M'=>(fJ mr (sy cZ) k aA M').Sat {nx:=λ_ M'=>M<+:M',rt:=λ_ _=>False},bk:=λ_ M'=>M<+:M'}-> (fJ mr (sy cZ) (k+1) [some f,some d,some (.ref M.length),some (.ref (M.length+1)),x,y] (M++.lst ls::.lst rs::J)).Sat {nx:=λ_ M'=>M<+:M',rt:=λ_ _=>False}:=by
   rintro l r cB cy rfl rfl Sy;have t:mr [some f,some d,some (.ref M.length),some (.ref (M.length+1)),x,y] (M++.lst (cB++[l])::.lst (cy++[r])::J)=.ok true (M++.lst (cB++[l])::.lst (cy++[r])::(J++[.lst []])):=by
    have hn:br [] (M++.lst (cB++[l])::.lst (cy++[r])::J)=.ok (.ref (M++O.lst (cB++[l])::.lst (cy++[r])::J).length) (M++.lst (cB++[l])::.lst (cy++[r])::J++[.lst []]):=rfl;have g1:=aD (pre_app (M++O.lst (cB++[l])::.lst (cy++[r])::J) [.lst []]) (gk M J (.lst (cB++[l])) (.lst (cy++[r]))).2;have g2:=aF.new (M++O.lst (cB++[l])::.lst (cy++[r])::J) [];have e0:nL (cy++[r]) []=some false:=by unfold nL;rw[aaN (by simp)]
    unfold mr;simp only[tB,af,aa,aS,ag,aaU,aaR,R.bind,hn,bV,eG,VM.eE,abi,aa_,fS g1,g2.bz,e0];simp
   refine yE t ?_;unfold sy;obtain⟨g1,g2⟩:=gk M (J++[.lst []]) (.lst (cB++[l])) (.lst (cy++[r]));have p1:=FR g1;rw[uF] at p1;refine aB (bL (v:=l) (M1:=M++.lst cB::.lst (cy++[r])::(J++[.lst []])) ?_ ?_)
   ·simp only[b_,aa,ag,aaU,aaR,R.bind,fS g1];exact p1
   simp only[aaP,aaQ];obtain⟨g3,g4⟩:=gk M (J++[.lst []]) (.lst cB) (.lst (cy++[r]));have p2:=FR g4;rw[rV] at p2;refine aB (bL (v:=r) (M1:=M++.lst cB::.lst cy::(J++[.lst []])) ?_ ?_)
   ·simp only[b_,aa,ag,aaU,aaR,R.bind,fS g4];exact p2
   simp only[aaP,aaQ];exact Sy
  cases hw with
  | @flat l cB cy _ hf h'=>
    refine key l l cB cy rfl rfl ?_;have go:=ih k cB cy (J++[.lst []]) (some l) (some l) h' (by omega) (by omega);generalize M++O.lst cB::.lst cy::(J++[.lst []])=N at go;have fw:=OB l N hf;cases l with
    |ref a=>cases hf
    |ao=>
     refine aM (c:=false) (M1:=N) rfl (λz=>nomatch z) λ_=>?_
     refine aM (c:=true) (M1:=N) rfl (λ_=>?_) λz=>nomatch z
     exact aM (c:=false) (M1:=N) rfl (λz=>nomatch z) λ_=>go
    |bl b=>
     refine aM (c:=false) (M1:=N) rfl (λz=>nomatch z) λ_=>?_
     refine aM (c:=false) (M1:=N) rfl (λz=>nomatch z) λ_=>?_
     refine aM (c:=true) (M1:=N) rfl (λ_=>?_) λz=>nomatch z
     refine aM (c:=false) (M1:=N) ?_ (λz=>nomatch z) λ_=>go
     walk_at "ev"
     simp only[bW,c8,cQ,R.bind,aa,aaU,aaR,fw];simp
    |str b=>
     refine aM (c:=false) (M1:=N) rfl (λz=>nomatch z) λ_=>?_
     refine aM (c:=false) (M1:=N) rfl (λz=>nomatch z) λ_=>?_
     refine aM (c:=false) (M1:=N) rfl (λz=>nomatch z) λ_=>?_
     refine aM (c:=true) (M1:=N) rfl (λ_=>?_) λz=>nomatch z
     refine aM (c:=false) (M1:=N) ?_ (λz=>nomatch z) λ_=>go
     walk_at "ev"
     simp only[bW,c8,cQ,R.bind,aa,aaU,aaR,fw];simp
    |int b=>
     refine aM (c:=false) (M1:=N) rfl (λz=>nomatch z) λ_=>?_
     refine aM (c:=false) (M1:=N) rfl (λz=>nomatch z) λ_=>?_
     refine aM (c:=false) (M1:=N) rfl (λz=>nomatch z) λ_=>?_
     refine aM (c:=false) (M1:=N) rfl (λz=>nomatch z) λ_=>?_
     refine aM (c:=false) (M1:=N) ?_ (λz=>nomatch z) λ_=>go
     walk_at "ev"
     simp only[DT,R.bind,fw];simp
  | @seq a b xs ys cB cy _ ha hb BL h'=>
    refine key (.ref a) (.ref b) cB cy rfl rfl ?_;have go:=ih k (cB++xs) (cy++ys) (J++[.lst []]) (some (.ref a)) (some (.ref b)) h' (by omega) (by omega);have BM:=h'.len;rw[abb,abb] at BM;obtain⟨g1,g2⟩:=gk M (J++[.lst []]) (.lst cB) (.lst cy);have A:=aD (pre_app M (O.lst cB::.lst cy::(J++[.lst []]))) ha;have B:=aD (pre_app M (O.lst cB::.lst cy::(J++[.lst []]))) hb;have x1:=u_ g1 (.inl A) (by omega);rw[uF] at x1;obtain⟨g3,g4⟩:=gk M (J++[.lst []]) (.lst (cB++xs)) (.lst cy);have B2:=aD (pre_app M (O.lst (cB++xs)::.lst cy::(J++[.lst []]))) hb;have x2:=u_ g4 (.inl B2) (by omega);rw[rV] at x2;generalize hN:M++O.lst cB::.lst cy::(J++[.lst []])=N at A B x1 g1 g2;refine aM (c:=true) (M1:=N) ?_ (λ_=>?_) λz=>nomatch z
    ·simp only[tB,bW,aa,aaU,aaR,R.bind,c8,cQ,B];rfl
    refine aB (aM (c:=false) (M1:=N) ?_ (λz=>nomatch z) λ_=>?_)
    ·simp only[tB,af,bW,aa,aaU,aaR,R.bind,c8,cQ,A,B,vB];rfl
    refine bT ?_;dsimp only;refine aB (aM (c:=false) (M1:=N) ?_ (λz=>nomatch z) λ_=>?_)
    ·simp only[bZ,tB,af,bW,ak,ae,ag,aa,aaU,aaR,R.bind,c8,cQ,A,B,vB,bx,lZ A,lZ B,ne_int,BL];simp
    refine bT ?_;dsimp only;refine aB (e_ (v:=.ao) (M1:=M++O.lst (cB++xs)::.lst cy::(J++[.lst []])) ?_ ?_)
    ·simp only[b_,aa,ae,ag,aaU,aaR,R.bind,fS g1];exact x1
    refine e_ (v:=.ao) (M1:=M++O.lst (cB++xs)::.lst (cy++ys)::(J++[.lst []])) ?_ ?_
    ·simp only[b_,aa,ae,ag,aaU,aaR,R.bind,fS g4];exact x2
    exact go
  | @tup a b xs ys cB cy _ ha hb BL h'=>
    refine key (.ref a) (.ref b) cB cy rfl rfl ?_;have go:=ih k (cB++xs) (cy++ys) (J++[.lst []]) (some (.ref a)) (some (.ref b)) h' (by omega) (by omega);have BM:=h'.len;rw[abb,abb] at BM;obtain⟨g1,g2⟩:=gk M (J++[.lst []]) (.lst cB) (.lst cy);have A:=aD (pre_app M (O.lst cB::.lst cy::(J++[.lst []]))) ha;have B:=aD (pre_app M (O.lst cB::.lst cy::(J++[.lst []]))) hb;have x1:=u_ g1 (.inr A) (by omega);rw[uF] at x1;obtain⟨g3,g4⟩:=gk M (J++[.lst []]) (.lst (cB++xs)) (.lst cy);have B2:=aD (pre_app M (O.lst (cB++xs)::.lst cy::(J++[.lst []]))) hb;have x2:=u_ g4 (.inr B2) (by omega);rw[rV] at x2;generalize hN:M++O.lst cB::.lst cy::(J++[.lst []])=N at A B x1 g1 g2;refine aM (c:=true) (M1:=N) ?_ (λ_=>?_) λz=>nomatch z
    ·simp only[tB,bW,aa,aaU,aaR,R.bind,c8,cQ,B];rfl
    refine aB (aM (c:=false) (M1:=N) ?_ (λz=>nomatch z) λ_=>?_)
    ·simp only[tB,af,bW,aa,aaU,aaR,R.bind,c8,cQ,A,B,vB];rfl
    refine bT ?_;dsimp only;refine aB (aM (c:=false) (M1:=N) ?_ (λz=>nomatch z) λ_=>?_)
    ·simp only[bZ,tB,af,bW,ak,ae,ag,aa,aaU,aaR,R.bind,c8,cQ,A,B,vB,bx,E_ A,E_ B,ne_int,BL];simp
    refine bT ?_;dsimp only;refine aB (e_ (v:=.ao) (M1:=M++O.lst (cB++xs)::.lst cy::(J++[.lst []])) ?_ ?_)
    ·simp only[b_,aa,ae,ag,aaU,aaR,R.bind,fS g1];exact x1
    refine e_ (v:=.ao) (M1:=M++O.lst (cB++xs)::.lst (cy++ys)::(J++[.lst []])) ?_ ?_
    ·simp only[b_,aa,ae,ag,aaU,aaR,R.bind,fS g4];exact x2
    exact go
def Fb(M:Mem)(f d:W)(n:Nat)(h:Wk M [f] [d] n)(hn:n<=16000000):∃M',jM cZ [f,d] M=.ok (.bl true) M'/\M<+:M':=by
 have key:∃r M',jM cZ [f,d] M=.ok r M'/\(r=.bl true/\M<+:M'):=by
  refine bM rfl ?_;show(aj _ _ [some f,some d,none,none,none,none] M).Sat _;have n1:br [f] M=.ok (.ref M.length) (M++[.lst [f]]):=b9 (by show 1<=16777216;decide);have n2:br [d] (M++[.lst [f]])=.ok (.ref (M.length+1)) (M++.lst [f]::.lst [d]::[]):=by rw[b9 (by show 1<=16777216;decide)];simp
  refine aB (bL (v:=.ref M.length) (M1:=M++[.lst [f]]) (by walk_at "ev";exact n1) ?_);simp only[aaP,aaQ];refine aB (bL (v:=.ref (M.length+1)) (M1:=M++.lst [f]::.lst [d]::[]) (by walk_at "ev";exact n2) ?_);simp only[aaP,aaQ];refine aB ?_;refine RS.Sat.mono (Li M f d n 1000000000 [f] [d] [] none none h (by omega) hn) (λσ M' p=>?_) (λ_ _ z=>z.elim) (λ_ _ z=>z.elim) (λ_ _ z=>z.elim);dsimp only;refine aR (v:=.bl true) (M1:=M') rfl ?_;exact⟨rfl,p⟩
 obtain⟨r,M',e,rfl,p⟩:=key;exact⟨M',e,p⟩
def nk{M:Mem}{v:W}{fs:List Int}(h:aP M v fs)(hl:fs.length<=1000):fT [v] M=.ok (.ref M.length) (M++[.lst (fs.map .int)]):=by unfold fT;simp only[aF.bK h];exact b9 (by rw[aaV];omega)
def Sz(a b:Bool)(M:Mem):oEq (.bl a) (.bl b) M=.ok (.bl (decide (a=b))) M:=by unfold oEq eG;simp[VM.eE]
end LV
namespace VM
def Dg{e:EM}{k:Nat}{body:SM}{σ:St}{M M1:Mem}{v:W}{xs:List W}{q:ai}(he:e σ M=.ok v M1)(hv:aF M1 v xs)(F:St->Mem->Prop)(p:Nat->Bool)(Q:W->Mem->Prop)(h0:F σ M1)(hl:∀σ M,F σ M->aF M v xs)(hs:∀(j:Nat) x σ M,xs[j]? =some x->F σ M->(body (σ.set k (some x)) M).Sat {nx:=λσ M=>F σ M/\p j=false,ct:=λσ M=>F σ M/\p j=false,rt:=λv M=>p j=true/\Q v M})(hn:∀σ M,F σ M->(List.range xs.length).any p=false->q.nx σ M)(hr:∀v M,Q v M->(List.range xs.length).any p=true->q.rt v M):(bH (bF e) (ar k) body σ M).Sat q:=by
 refine fb he hv (λj σ M=>F σ M/\(List.range j).any p=false) ⟨h0,rfl⟩ (λj σ M _ h=>hl σ M h.1) ?_ ?_
 ·rintro j x σ M hx ⟨hf,ha⟩;have hj:j<xs.length:=(aaZ.mp hx).1;refine RS.Sat.mono (hs j x σ M hx hf) (λσ M h=>⟨h.1,?_⟩) (λv M h=>hr v M h.2 ?_) (λ_ _ z=>z.elim) (λσ M h=>⟨h.1,?_⟩)
  ·rw[ab6,acZ,ha];simp[h.2]
  ·rw[aa0];exact⟨j,abk.mpr hj,h.1⟩
  ·rw[ab6,acZ,ha];simp[h.2]
 ·rintro σ M ⟨hf,ha⟩;exact hn σ M hf ha
def t7{i:IM}{k:Nat}{body:SM}{σ:St}{M M1:Mem}{lo:Int}{n:Nat}{q:ai}(hi:i σ M=.ok (cJ lo n,[]) M1)(F:St->Mem->Prop)(p:Nat->Bool)(Q:W->Mem->Prop)(h0:F σ M1)(hs:∀(j:Nat) σ M,j<n->F σ M->(body (σ.set k (some (.int (lo+(j:Int))))) M).Sat {nx:=λσ M=>F σ M/\p j=false,ct:=λσ M=>F σ M/\p j=false,rt:=λv M=>p j=true/\Q v M})(hn:∀σ M,F σ M->(List.range n).any p=false->q.nx σ M)(hr:∀v M,Q v M->(List.range n).any p=true->q.rt v M):(bH i (ar k) body σ M).Sat q:=by
 refine gj hi (λj σ M=>F σ M/\(List.range j).any p=false) ⟨h0,rfl⟩ ?_ ?_
 ·rintro j σ M hj ⟨hf,ha⟩;refine RS.Sat.mono (hs j σ M hj hf) (λσ M h=>⟨h.1,?_⟩) (λv M h=>hr v M h.2 ?_) (λ_ _ z=>z.elim) (λσ M h=>⟨h.1,?_⟩)
  ·rw[ab6,acZ,ha];simp[h.2]
  ·rw[aa0];exact⟨j,abk.mpr hj,h.1⟩
  ·rw[ab6,acZ,ha];simp[h.2]
 ·rintro σ M ⟨hf,ha⟩;exact hn σ M hf ha
def aY{f:dh}{a b:EM}{σ:St}{M M1 M2:Mem}{x y:W}{r:R W}(ha:a σ M=.ok x M1)(hb:b σ M1=.ok y M2)(hf:f x y M2=r):af f a b σ M=r:=by unfold af;rw[ha];simp only[R.bind];rw[hb];exact hf
def bu{e:EM}{σ:St}{M M1:Mem}{b:Bool}(h:e σ M=.ok (.bl b) M1):tB e σ M=.ok b M1:=by unfold tB;rw[h];rfl
def any_range{α:Type}(l:List α)(d:α)(f:α->Bool):(List.range l.length).any (λj=>f (l.getD j d))=l.any f:=by
 induction l with
 |nil=>rfl
 |cons x r ih=>rw[abq,ad',abB,adh,abB,<-ih];rfl
end VM
namespace LV
open VM
local macro_rules| `(tactic|walk_at "ev")=> `(tactic|simp only[tB,eP,bZ,b6,dD,af,aa,eC,aS,cD,ag,ae,ak,dm,wo,mz,wq,dQ,mq,b_,R.bind,bp,nU,ar,eQ,fm,jU,cg,dM,List.length_cons,List.length_nil,List.map_cons,List.map_nil,List.cons_append,List.nil_append,List.append_nil,List.getElem?_cons_zero,List.getElem?_cons_succ,List.set_cons_zero,List.set_cons_succ,if_true,if_false,Bool.false_eq_true,Nat.reduceAdd,Nat.reduceSub,List.replicate_succ,List.replicate_zero,Nat.zero_add,Nat.add_zero,du,List.foldl_nil,List.foldl_cons,List.append_assoc])
def getD_at{α:Type}{l:List α}{j:Nat}{x d:α}(h:l[j]? =some x):l.getD j d=x:=by simp[List.getD,h]
def iI(ss g:List Int)(p n:Int):Bool:=g.any (·==p)&&g.any λq=>!decide (q=p)&&decide (aq ss q=n)
def dZ(G:List (List Int))(ss:List Int)(p n:Int):Bool:=G.any λg=>iI ss g p n
def Lj(M:Mem)(vG vs:W)(G:List (List Int))(ss:List Int)(p n:Int)(hG:LL M vG G)(hs:aP M vs ss)(a7:∀g∈G,∀i∈g,0<=i/\i<(ss.length:Int)):
 iT [vG,vs,.int p,.int n] M=.ok (.bl (dZ G ss p n)) M:=by
 have key:∃r M',iT [vG,vs,.int p,.int n] M=.ok r M'/\(r=.bl (dZ G ss p n)/\M'=M):=by
  refine bM rfl ?_;show(aj _ _ [some vG,some vs,some (.int p),some (.int n),none,none] M).Sat _;refine aB ?_;obtain⟨ws,hL,hA⟩:=hG;have hlen:=hA.len;have GW:(List.range ws.length).any (λj=>iI ss (G.getD j []) p n)=dZ G ss p n:=by rw[hlen];exact any_range G [] (λg=>iI ss g p n)
  refine Dg (v:=vG) (M1:=M) (xs:=ws) rfl hL (λσ M'=>(∃x y,σ=[some vG,some vs,some (.int p),some (.int n),x,y])/\M'=M) (λj=>iI ss (G.getD j []) p n) (λv M'=>v=.bl true/\M'=M) ⟨⟨_,_,rfl⟩,rfl⟩ (λσ M' ⟨_,e⟩=>by rw[e];exact hL) ?_ ?_ ?_
  ·rintro j x σ M' hx ⟨⟨y,z,rfl⟩,rfl⟩;obtain⟨g,hg,eW⟩:=hA.at hx;rw[getD_at hg];simp only[aaP,aaQ];have hi:=su p eW;refine aM (c:=g.any (·==p)) (M1:=M') (by walk_at "ev";simp only[hi]) (λhc=>?_) λhc=>?_
   ·have GX:(List.range g.length).any (λi=>!decide (g.getD i 0=p)&&decide (aq ss (g.getD i 0)=n))=g.any λq=>!decide (q=p)&&decide (aq ss q=n):=any_range g 0 (λq=>!decide (q=p)&&decide (aq ss q=n))
    refine Dg (v:=x) (M1:=M') (xs:=g.map .int) rfl eW (λσ N=>(∃z,σ=[some vG,some vs,some (.int p),some (.int n),some x,z])/\N=M') (λi=>!decide (g.getD i 0=p)&&decide (aq ss (g.getD i 0)=n)) (λv N=>v=.bl true/\N=M') ⟨⟨_,rfl⟩,rfl⟩ (λσ N ⟨_,e⟩=>by rw[e];exact eW) ?_ ?_ ?_
    ·rintro i w σ N hw ⟨⟨z,rfl⟩,rfl⟩;obtain⟨q,hq,rfl,BN⟩:=iU hw;rw[getD_at BN];simp only[aaP,aaQ];obtain⟨b0,b1⟩:=a7 g (ab2 hg) q hq;have i1:=eA hs b0 b1;refine aM (c:=!decide (q=p)&&decide (aq ss q=n)) (M1:=N) ?_ (λhc=>?_) λhc=>?_
     ·walk_at "ev"
      simp only[ne_int,i1,eq_int];cases decide (q=p)<;>simp
     ·exact aR rfl ⟨hc,rfl,rfl⟩
     ·exact⟨⟨⟨_,rfl⟩,rfl⟩,hc⟩
    ·rintro σ N ⟨⟨z,rfl⟩,rfl⟩ ha;rw[aaV,GX] at ha;exact⟨⟨⟨_,_,rfl⟩,rfl⟩,by unfold iI;rw[ha,abO]⟩
    ·rintro v N ⟨rfl,rfl⟩ ha;rw[aaV,GX] at ha;exact⟨by unfold iI;rw[hc,ha];rfl,rfl,rfl⟩
   ·exact⟨⟨⟨_,_,rfl⟩,rfl⟩,by unfold iI;rw[hc,abz]⟩
  ·rintro σ M' ⟨⟨y,z,rfl⟩,rfl⟩ ha;rw[GW] at ha;dsimp only;exact aR rfl ⟨by rw[ha],rfl⟩
  ·rintro v M' ⟨rfl,rfl⟩ ha;rw[GW] at ha;exact⟨by rw[ha],rfl⟩
 obtain⟨r,M',e,rfl,rfl⟩:=key;exact e
def nums(s:Nat):List Int:=(List.range s).map λ(k:Nat)=>(k:Int)+1
def rowOf(G:List (List Int))(ss:List Int)(s:Nat)(p:Int):List Int:=(nums s).filter λn=>decide (aq ss p=0)&& !dZ G ss p n
def tabOf(G:List (List Int))(ss:List Int)(s:Nat):List (List Int):=(List.range ss.length).map λ(p:Nat)=>rowOf G ss s (p:Int)
def px(G:List (List Int))(ss:List Int)(s:Nat)(p:Int):(rowOf G ss s p).length<=s:=by unfold rowOf;refine aa1 (abK _ _) ?_;simp[nums]
def DU(k:Nat):nums (k+1)=nums k++[(k:Int)+1]:=by unfold nums;rw[ab6,acI];rfl
def mE(a:Nat)(J:Mem)(ws:List W)(rows:List (List Int)):Prop:=a_ (λw r=>∃k,w=W.ref (a+1+k)/\J[k]? =some (O.lst (r.map .int))) ws rows
def Er(N J:Mem)(o:O)(k:Nat):(N++o::J)[N.length+1+k]? =J[k]? :=by rw[abW (by omega),show N.length+1+k-N.length=k+1 by omega];rfl
def mE.grow{a:Nat}{J:Mem}{ws:List W}{rows:List (List Int)}(h:mE a J ws rows)(K:Mem):mE a (J++K) ws rows:=h.imp λw r ⟨k,e,q⟩=>⟨k,e,aD (pre_app J K) q⟩
def mE.ll{N J:Mem}{ws:List W}{rows:List (List Int)}(h:mE N.length J ws rows):LL (N++.lst ws::J) (.ref N.length) rows:=
 ⟨ws,⟨_,rfl,fe _ _ _⟩,h.imp λw r ⟨k,e,q⟩=>⟨_,e,by rw[Er];exact q⟩⟩
def OC(f:CM):Prop:=∀(M:Mem) (vG vs:W) (G:List (List Int)) (ss:List Int) (s:Nat),LL M vG G->aP M vs ss->(∀g∈G,∀i∈g,0<=i/\i<(ss.length:Int))->ss.length<=81->s<=9->
 ∃ws J,f [vG,vs,.int s] M=.ok (.ref M.length) (M++.lst ws::J)/\mE M.length J ws (tabOf G ss s)
def Aw:OC (jJ iT):=by
 intro M vG vs G ss s hG hs a7 hl dz;have key:∃r M',jJ iT [vG,vs,.int s] M=.ok r M'/\(r=.ref M.length/\∃ws J,M'=M++.lst ws::J/\mE M.length J ws (tabOf G ss s)):=by
  refine bM rfl ?_;show(aj _ _ [some vG,some vs,some (.int s),none,none,none,none] M).Sat _;refine aB (bL (v:=.ref M.length) (M1:=M++[.lst []]) rfl ?_);simp only[aaP,aaQ];refine aB ?_;have r1:(ss.length:Int).natAbs<bJ:=dc (by omega) (by omega);refine gj (lo:=0) (n:=ss.length) (M1:=M++[.lst []]) (by walk_at "ev";simp only[jS (aF.mono hs (pre_app M _))];rw[aaN r1,abf]) (λj σ M'=>(∃x y z,σ=[some vG,some vs,some (.int s),some (.ref M.length),x,y,z])/\∃ws J,M'=M++.lst ws::J/\mE M.length J ws ((List.range j).map λ(p:Nat)=>rowOf G ss s (p:Int))) ⟨⟨_,_,_,rfl⟩,[],[],rfl,.nil⟩ ?_ ?_
  ·rintro j σ M' hj ⟨⟨x,y,z,rfl⟩,ws,J,rfl,hT⟩;simp only[aaP,aaQ];have ez:(0:Int)+(j:Int)=(j:Int):=by omega
   generalize hN:M++O.lst ws::J=N;have pN:M<+:N:=by rw[<-hN];exact jQ _ _ _
   refine aB (bL (v:=.ref N.length) (M1:=N++[.lst []]) rfl ?_);simp only[aaP,aaQ];refine aB ?_;have r2:(1:Int).natAbs<bJ/\((s:Int)+1).natAbs<bJ:=⟨dc (by omega) (by omega),dc (by omega) (by omega)⟩;have n2:((s:Int)+1-1).toNat=s:=by omega
   refine gj (lo:=1) (n:=s) (M1:=N++[.lst []]) (by walk_at "ev";rw[aaN r2,n2]) (λk σ M'=>(∃z,σ=[some vG,some vs,some (.int s),some (.ref M.length),some (.int (0+(j:Int))),some (.ref N.length),z])/\M'=N++[.lst (((nums k).filter λn=>decide (aq ss j=0)&& !dZ G ss j n).map .int)]) ⟨⟨_,rfl⟩,rfl⟩ ?_ ?_
   ·rintro k σ M' hk ⟨⟨z,rfl⟩,rfl⟩;simp only[aaP,aaQ];generalize Bd:(nums k).filter (λn=>decide (aq ss j=0)&& !dZ G ss j n)=cur;have tF:cur.length<=k:=by rw[<-Bd];exact aa1 (abK _ _) (by simp[nums])
    have P:=pN.trans (pre_app N [.lst (cur.map .int)]);have i1:=eA (aF.mono hs P) (i:=(j:Int)) (by omega) (by omega);have b1:=Lj _ vG vs G ss j (1+(k:Int)) (hG.mono P) (aF.mono hs P) a7;have ek:(1:Int)+(k:Int)=(k:Int)+1:=by omega
    refine aM (c:=decide (aq ss j=0)&& !dZ G ss j ((k:Int)+1)) (M1:=N++[.lst (cur.map .int)]) ?_ (λhc=>?_) λhc=>?_
    ·walk_at "ev"
     rw[ek] at b1⊢;simp only[ez,i1,eq_int,b1];cases decide (aq ss j=0)<;>simp
    ·have a1:=ma (σ:=[some vG,some vs,some (.int s),some (.ref M.length),some (.int (0+(j:Int))),some (.ref N.length),some (.int (1+(k:Int)))]) (o:=aa 5) (arg:=aa 6) rfl (b8 N (.lst (cur.map .int))) (show _=R.ok (.int (1+(k:Int))) _ from rfl) (b8 N (.lst (cur.map .int))) (by rw[aaV];omega);rw[pF] at a1;refine e_ a1 ⟨⟨_,rfl⟩,?_⟩;rw[DU,adK,Bd];simp[hc,ek]
    ·refine⟨⟨_,rfl⟩,?_⟩;rw[DU,adK,Bd];simp[hc]
   ·rintro σ M' ⟨⟨z,rfl⟩,rfl⟩;dsimp only;have UY:=hT.len;have kP:(nums s).filter (λn=>decide (aq ss j=0)&& !dZ G ss j n)=rowOf G ss s j:=rfl;rw[kP];have g0:(N++[.lst ((rowOf G ss s j).map .int)])[M.length]? =some (.lst ws):=aD (pre_app _ _) (by rw[<-hN];exact fe _ _ _);have dS:ws.length=j:=by rw[UY];simp
    have a1:=ma (σ:=[some vG,some vs,some (.int s),some (.ref M.length),some (.int (0+(j:Int))),some (.ref N.length),z]) (o:=aa 3) (arg:=aa 5) rfl g0 (show _=R.ok (.ref N.length) _ from rfl) g0 (by omega);refine e_ a1 ?_;refine⟨⟨_,_,_,rfl⟩,ws++[.ref N.length],J++[.lst ((rowOf G ss s j).map .int)],?_,?_⟩
    ·rw[<-hN];simp
    ·rw[ab6,acI];refine a_.app (hT.grow _) (.cons ⟨J.length,?_,by simp⟩ .nil);rw[<-hN];simp;omega
  ·rintro σ M' ⟨⟨x,y,z,rfl⟩,ws,J,rfl,hT⟩;dsimp only;exact aR (v:=.ref M.length) (M1:=M++.lst ws::J) rfl ⟨rfl,ws,J,rfl,hT⟩
 obtain⟨r,M',e,rfl,ws,J,rfl,h⟩:=key;exact⟨ws,J,e,h⟩
def iE{M:Mem}{v:W}{G:List (List Int)}(h:LL M v G){i:Int}(h0:0<=i)(h1:i<(G.length:Int)):∃w,av v (.int i) M=.ok w M/\aP M w (G.getD i.toNat []):=by
 obtain⟨ws,hL,hA⟩:=h;have hl:=hA.len;have hg:G[i.toNat]? =some (G.getD i.toNat []):=by
  have:i.toNat<G.length:=by omega
  simp[List.getD,this]
 obtain⟨w,hw,q⟩:=hA.at' hg;refine⟨w,?_,q⟩;have jw:cR ws i=some w:=by unfold cR cK;rw[aaN h0,aaN (by omega)];exact hw
 simp only[av,hL.bK,jw]
def si{M:Mem}{v:W}{G:List (List Int)}(h:LL M v G):bx [v] M=.ok (.int G.length) M:=by obtain⟨ws,hL,hA⟩:=h;unfold bx;simp only[hL.bK,hA.len]
def bY(G T:List (List Int))(g n:Int):List Int:=(G.getD g.toNat []).filter λp=>(T.getD p.toNat []).any (·==n)
def zA(M:Mem)(vG vT:W)(G T:List (List Int))(g n:Int)(hG:LL M vG G)(hT:LL M vT T)(h0:0<=g)(h1:g<(G.length:Int))(a7:∀i∈G.getD g.toNat [],0<=i/\i<(T.length:Int))(h9:(G.getD g.toNat []).length<=9):
 eM [vG,vT,.int g,.int n] M=.ok (.ref M.length) (M++[.lst ((bY G T g n).map .int)]):=by
 obtain⟨w,hw,eW⟩:=iE hG h0 h1;obtain⟨a,rfl,ha⟩:=eW;have e:b5 1 [] (bF (af av (aa 0) (aa 2))) (ar 4) (tB (af iN (aa 3) (af av (aa 1) (aa 4)))) (aa 4) [some vG,some vT,some (.int g),some (.int n)] M=.ok (.ref M.length) (M++[.lst ((bY G T g n).map .int)]):=by
  unfold b5;have hi:bF (af av (aa 0) (aa 2)) [some vG,some vT,some (.int g),some (.int n)] M=.ok (((G.getD g.toNat []).map W.int).map .val,[(a,.lst ((G.getD g.toNat []).map .int))]) M:=by
   unfold bF
   walk_at "ev"
   simp only[hw,R.bind,ha]
  rw[hi];simp only[R.bind,R.eB,du,acv,abY,ab7,ab0,abl];rw[jd (σ:=[some vG,some vT,some (.int g),some (.int n),none]) (λx=>match x with|.int i=>(T.getD i.toNat []).any (·==n)|_=>false) (λx=>x) _ _ _ (λ_=>rfl) (by simp[b7.ok,ha]) ?_]
  ·have ef:((G.getD g.toNat []).map W.int).filter (λx=>match x with|.int i=>(T.getD i.toNat []).any (·==n)|_=>false)=(bY G T g n).map .int:=by unfold bY;rw[ac0];rfl
   rw[ef];simp only[abl,List.map_id'];have hle:(bY G T g n).length<=9:=aa1 (abK _ _) h9;exact b9 (by rw[aaV];omega)
  ·intro x hx;obtain⟨i,ow,rfl⟩:=aa7.mp hx;obtain⟨b0,b1⟩:=a7 i ow;obtain⟨u,hu,UZ⟩:=iE hT b0 b1;have q:=su n UZ;refine⟨?_,λ_=>rfl⟩
   walk_at "ev"
   simp only[hu,q]
 have key:∃r M',eM [vG,vT,.int g,.int n] M=.ok r M'/\(r=.ref M.length/\M'=M++[.lst ((bY G T g n).map .int)]):=by refine bM rfl ?_;exact aR e ⟨rfl,rfl⟩
 obtain⟨r,M',e,rfl,rfl⟩:=key;exact e
def d_(G:List (List Int))(ss:List Int)(g n:Int)(s:Nat):Bool:=
 !(decide (g<0)||(decide ((G.length:Int)<=g)||(decide (n<1)||decide ((s:Int)<n))))&& !((G.getD g.toNat []).map (aq ss)).any (·==n)
def MB{M:Mem}{u:W}{fs:List Int}(x:Int)(h:aP M u fs):l7 (.int x) u M=.ok (.bl (!fs.any (·==x))) M:=by unfold l7;rw[aF.bK h];simp only[flat,pw,acj,aaW,Ep]
def zB(M:Mem)(vG vs:W)(G:List (List Int))(ss:List Int)(g n:Int)(s:Nat)(hG:LL M vG G)(hs:aP M vs ss)(a7:∀g∈G,g.length<=9/\∀i∈g,0<=i/\i<(ss.length:Int)):
 ∃M',eN [vG,vs,.int g,.int n,.int s] M=.ok (.bl (d_ G ss g n s)) M'/\M<+:M':=by
 have key:∃r M',eN [vG,vs,.int g,.int n,.int s] M=.ok r M'/\(r=.bl (d_ G ss g n s)/\M<+:M'):=by
  refine bM rfl ?_;show(aj _ _ [some vG,some vs,some (.int g),some (.int n),some (.int s)] M).Sat _;refine aB (aM (c:=decide (g<0)||(decide ((G.length:Int)<=g)||(decide (n<1)||decide ((s:Int)<n)))) (M1:=M) ?_ (λhc=>?_) λhc=>?_)
  ·walk_at "ev"
   simp only[lt_int,ge_int,gt_int,si hG];cases decide (g<0)<;>cases decide ((G.length:Int)<=g)<;>cases decide (n<1)<;>simp
  ·refine aR rfl ⟨?_,dv _⟩;unfold d_;rw[hc];rfl
  ·refine bT ?_;dsimp only;have aL:=hc;simp only[abQ,abG] at aL;obtain⟨c1,c2,c3,c4⟩:=aL;obtain⟨w,hw,eW⟩:=iE hG (i:=g) (by omega) (by omega);have hm:G.getD g.toNat []∈G:=by
    have:g.toNat<G.length:=by omega
    simp[List.getD,this]
   have e:=z7 (σ:=[some vG,some vs,some (.int g),some (.int n),some (.int s)]) (af av (aa 0) (aa 2)) (aa 1) 5 (M:=M) (vg:=w) (vf:=vs) (by walk_at "ev";exact hw) eW hs (a7 _ hm).2 (by have:=(a7 _ hm).1;omega) (λ_=>rfl) (λ_=>rfl);have L:aP (M++[.lst (((G.getD g.toNat []).map (aq ss)).map .int)]) (.ref M.length) ((G.getD g.toNat []).map (aq ss)):=aF.new _ _;have q:=MB n L;refine aR (v:=.bl (d_ G ss g n s)) (M1:=M++[.lst (((G.getD g.toNat []).map (aq ss)).map .int)]) ?_ ⟨rfl,pre_app _ _⟩;refine aY (x:=.int n) (M1:=M) rfl e ?_;rw[q];unfold d_;rw[hc];rfl
 obtain⟨r,M',e,rfl,p⟩:=key;exact⟨M',e,p⟩
inductive b4 where
 |fld (p n:Int)
 |di (p n g:Int)
 deriving DecidableEq
abbrev nG:W:=.str [102,105,101,108,100]
abbrev fK:W:=.str [103,114,111,117,112]
def b4.ws:b4->List W
 |.fld p n=>[nG,.int p,.int n]
 |.di p n g=>[fK,.int p,.int n,.int g]
def b4.place:b4->Int
 |.fld p _=>p
 |.di p _ _=>p
def b4.num:b4->Int
 |.fld _ n=>n
 |.di _ n _=>n
def eO(M:Mem)(v:W)(st:b4):Prop:=aT M v st.ws
theorem DV:∀(xs ys:List Int),gM (xs.map W.int) (ys.map W.int)=decide (xs=ys)
 |[],[]=>rfl
 |[],_::_=>rfl
 |_::_,[]=>rfl
 |x::xs,y::ys=>by show(gB (.int x) (.int y)&&gM (xs.map W.int) (ys.map W.int))=_;rw[DV xs ys,abw];show((x==y)&&_)=true↔_;simp
def Kx(xs ys:List Int):nL (xs.map W.int) (ys.map W.int)=some (decide (xs=ys)):=by
 unfold nL;by_cases h:xs.length=ys.length
 ·rw[aaO (by simpa using h)];simp only[pw,acj,aaW,DV]
 ·rw[aaN (by simpa using h),abm (λe=>h (by rw[e]))]
def zC{M:Mem}{u v:W}{xs ys:List Int}(h1:aP M u xs)(h2:aP M v ys):eG M u v=some (decide (xs=ys)):=by have l1:=aF.bz h1;have l2:=aF.bz h2;obtain⟨a,rfl,_⟩:=h1;obtain⟨b,rfl,_⟩:=h2;unfold eG;rw[aaO (by simp[VM.eE]),l1,l2];exact Kx xs ys
def nB{M:Mem}{u v:W}{xs ys:List Int}(h1:aP M u xs)(h2:aP M v ys):oEq u v M=.ok (.bl (decide (xs=ys))) M:=by unfold oEq;rw[zC h1 h2]
def OD{M:Mem}{u v:W}{xs ys:List Int}(h1:aP M u xs)(h2:aP M v ys):bV u v M=.ok (.bl (!decide (xs=ys))) M:=by unfold bV;rw[zC h1 h2]
def eq_str{M:Mem}(a b:List Nat):oEq (.str a) (.str b) M=.ok (.bl (decide (a=b))) M:=by unfold oEq eG;simp[VM.eE]
def cO{M:Mem}{v:W}{ws:List W}(h:aT M v ws)(i:Nat){x:W}(hx:ws[i]? =some x):av v (.int i) M=.ok x M:=by
 have jw:cR ws (i:Int)=some x:=by unfold cR cK;have hi:=(aaZ.mp hx).1;rw[aaN (by omega),aaN (by omega)];exact hx
 simp only[av,h.bK,jw]
def uS{e:EM}{σ:St}{M M1:Mem}{x:W}(h:e σ M=.ok x M1):aS (ae e ag) σ M=.ok (.ref M1.length) (M1++[.lst [x]]):=by unfold aS ae ag;rw[h];simp only[R.bind];exact b9 (by show 1<=16777216;decide)
def dI(ss:List Int)(p:Int):Bool:=!(decide (p<0)||(decide ((ss.length:Int)<=p)|| !decide (aq ss p=0)))
def jT(G:List (List Int))(ss:List Int)(T:List (List Int))(s:Nat):b4->Bool
 |.fld p n=>dI ss p&&decide (T.getD p.toNat []=[n])
 |.di p n g=>dI ss p&&(d_ G ss g n s&&decide (bY G T g n=[p]))
def pj(G:List (List Int))(ss:List Int)(T:List (List Int))(s:Nat)(p n:Int):jT G ss T s (.fld p n)=(dI ss p&&decide (T.getD p.toNat []=[n])):=rfl
def nh(G:List (List Int))(ss:List Int)(T:List (List Int))(s:Nat)(p n g:Int):jT G ss T s (.di p n g)=(dI ss p&&(d_ G ss g n s&&decide (bY G T g n=[p]))):=rfl
def pH{G:List (List Int)}{ss:List Int}{g n:Int}{s:Nat}(h:d_ G ss g n s=true):0<=g/\g<(G.length:Int)/\1<=n/\n<=(s:Int):=by unfold d_ at h;simp only[aaT,abg,abQ,abG] at h;omega
def Lk(f:CM):Prop:=∀(M:Mem) (vG vs vT bo:W) (G:List (List Int)) (ss:List Int) (T:List (List Int)) (s:Nat) (st:b4),LL M vG G->aP M vs ss->LL M vT T->eO M bo st->T.length=ss.length->(∀g∈G,g.length<=9/\∀i∈g,0<=i/\i<(ss.length:Int))->
 ∃M',f [vG,vs,vT,bo,.int s] M=.ok (.bl (jT G ss T s st)) M'/\M<+:M'
def MC:Lk (m5 eM eN):=by
 intro M vG vs vT bo G ss T s st hG hs hT bq hl a7;have key:∃r M',m5 eM eN [vG,vs,vT,bo,.int s] M=.ok r M'/\(r=.bl (jT G ss T s st)/\M<+:M'):=by
  refine bM rfl ?_;show(aj _ _ [some vG,some vs,some vT,some bo,some (.int s),none] M).Sat _;have i1:av bo (.int 1) M=.ok (.int st.place) M:=by cases st<;>exact cO bq 1 rfl
  refine aB (bL (v:=.int st.place) (M1:=M) (by walk_at "ev";exact i1) ?_);simp only[aaP,aaQ];generalize hp:st.place=p;refine aB (aM (c:=!dI ss p) (M1:=M) ?_ (λhc=>?_) λhc=>?_)
  ·unfold dI;rw[Bool.not_not]
   walk_at "ev"
   simp only[lt_int,ge_int,jS hs];by_cases c1:p<0
   ·simp[c1]
   ·by_cases c2:(ss.length:Int)<=p
    ·simp[c1,c2]
    ·simp only[c1,c2,acz,abi,aa_];have ix:=eA hs (i:=p) (by omega) (by omega);simp only[ix,ne_int,ab4]
  ·refine aR rfl ⟨?_,dv _⟩;rw[abg] at hc;cases st with
   |fld p' n=>cases hp;rw[pj,show dI ss p'=false from hc,abz]
   |di p' n g=>cases hp;rw[nh,show dI ss p'=false from hc,abz]
  ·refine bT ?_;dsimp only;rw[abP] at hc;have fP:=hc;unfold dI at fP;simp only[abg,abQ,abG,abP,abj] at fP;obtain⟨c1,c2,c3⟩:=fP;cases st with
   |fld p' n=>
    cases hp;have c1:¬p'<0:=c1;have c2:¬(ss.length:Int)<=p':=c2;have e0:=cO bq 0 (x:=nG) rfl;have e2:=cO bq 2 (x:=.int n) rfl;refine aB (aM (c:=true) (M1:=M) ?_ (λ_=>?_) λz=>nomatch z)
    ·walk_at "ev"
     rw[show av bo (.int 0) M=_ from e0];simp only[eq_str,ab8]
    ·obtain⟨w,hw,dS⟩:=iE hT (i:=p') (by omega) (by omega);have L:aP (M++[.lst [.int n]]) (.ref M.length) [n]:=aF.new _ _;refine aR (v:=.bl (decide (T.getD p'.toNat []=[n]))) (M1:=M++[.lst [.int n]]) ?_ ⟨?_,pre_app _ _⟩
     ·refine aY (x:=w) (M1:=M) (by walk_at "ev";exact hw) (uS (x:=.int n) (M1:=M) (by walk_at "ev";exact e2)) ?_;exact nB (aF.mono dS (pre_app _ _)) L
     ·rw[pj,show dI ss p'=true from hc,abu]
   |di p' n g=>
    cases hp;have e0:=cO bq 0 (x:=fK) rfl;have e2:=cO bq 2 (x:=.int n) rfl;have e3:=cO bq 3 (x:=.int g) rfl;refine aB (aM (c:=false) (M1:=M) ?_ (λz=>nomatch z) λ_=>?_)
    ·walk_at "ev"
     rw[show av bo (.int 0) M=_ from e0];simp only[eq_str];rfl
    refine bT ?_;dsimp only;obtain⟨M1,l1,p1⟩:=zB M vG vs G ss g n s hG hs a7;refine aB (aM (c:=!d_ G ss g n s) (M1:=M1) ?_ (λfQ=>?_) λfQ=>?_)
    ·walk_at "ev"
     rw[show av bo (.int 3) M=_ from e3];simp only[R.bind];rw[show av bo (.int 2) M=_ from e2];simp only[l1]
    ·refine aR rfl ⟨?_,p1⟩;rw[abg] at fQ;rw[nh,fQ,abz,abO]
    ·refine bT ?_;dsimp only;rw[abP] at fQ;obtain⟨g0,g1,n0,n1⟩:=pH fQ;have hm:G.getD g.toNat []∈G:=by
      have:g.toNat<G.length:=by omega
      simp[List.getD,this]
     have sp:=zA M1 vG vT G T g n (hG.mono p1) (hT.mono p1) g0 g1 (λi hi=>by rw[hl];exact(a7 _ hm).2 i hi) (a7 _ hm).1;have lp:=bq.mono p1;have U0:=cO lp 2 (x:=.int n) rfl;have U1:=cO lp 3 (x:=.int g) rfl;refine aR (v:=.bl (decide (bY G T g n=[p']))) (M1:=M1++[.lst ((bY G T g n).map .int)]++[.lst [.int p']]) ?_ ⟨?_,p1.trans ((pre_app _ _).trans (pre_app _ _))⟩
     ·refine aY (x:=.ref M1.length) (M1:=M1++[.lst ((bY G T g n).map .int)]) ?_ (uS (x:=.int p') (M1:=M1++[.lst ((bY G T g n).map .int)]) rfl) ?_
      ·walk_at "ev"
       rw[show av bo (.int 3) M1=_ from U1];simp only[R.bind];rw[show av bo (.int 2) M1=_ from U0];simp only[sp]
      ·have L1:aP (M1++[.lst ((bY G T g n).map .int)]) (.ref M1.length) (bY G T g n):=aF.new _ _;have L2:aP (M1++[.lst ((bY G T g n).map .int)]++[.lst [.int p']]) (.ref (M1++[O.lst ((bY G T g n).map .int)]).length) [p']:=aF.new _ _;exact nB (aF.mono L1 (pre_app _ _)) L2
     ·rw[nh,show dI ss p'=true from hc,fQ,abu,abu]
 obtain⟨r,M',e,rfl,p⟩:=key;exact⟨M',e,p⟩
def QJ(s r:Nat)(hs:s<=9)(hr:r<=9)(M:Mem):∃v M',PB.m9 [.int s,.int r] M=.ok v M'/\M<+:M'/\aP M' v (nW s r):=by
 refine bM rfl ?_;have tD:(s:Int).natAbs<bJ:=dc (by omega) (by omega);have e:b5 1 [] (cg (aa 0)) (ar 2) dD (af bp (af bN (aa 1) (aa 0)) (aa 2)) [some (.int s),some (.int r)] M=br ((nW s r).map .int) M:=by
  unfold b5
  walk_at "ev"
  rw[aaN tD];simp only[abf,pq];rw[jd (σ:=[some (.int s),some (.int r),none]) (λ_=>true) (λx=>match x with|.int i=>.int ((r:Int)*s+i)|_=>.ao) _ _ _ (λ_=>rfl) rfl ?_]
  ·simp only[filter_tt,abl,i7,nW,acw];congr 1;apply ac1;intro a _;simp
  ·intro x hx;obtain⟨k,_,rfl⟩:=aa7.mp hx;refine⟨rfl,λ_=>?_⟩;have hm:=dj (M:=M) (i:=(r:Int)) (j:=(s:Int)) (by omega)
   walk_at "ev"
   simp only[hm]
 have hl:((nW s r).map W.int).length<=16777216:=by simp[nW];omega
 rw[b9 hl] at e;refine aR e ?_;exact⟨pre_app _ _,aF.new _ _⟩
def QK(s c:Nat)(hs:s<=9)(hc:c<=9)(M:Mem):∃v M',PB.mZ [.int s,.int c] M=.ok v M'/\M<+:M'/\aP M' v (nX s c):=by
 refine bM rfl ?_;have tD:(s:Int).natAbs<bJ:=dc (by omega) (by omega);have e:b5 1 [] (cg (aa 0)) (ar 2) dD (af bp (af bN (aa 2) (aa 0)) (aa 1)) [some (.int s),some (.int c)] M=br ((nX s c).map .int) M:=by
  unfold b5
  walk_at "ev"
  rw[aaN tD];simp only[abf,pq];rw[jd (σ:=[some (.int s),some (.int c),none]) (λ_=>true) (λx=>match x with|.int i=>.int (i*s+c)|_=>.ao) _ _ _ (λ_=>rfl) rfl ?_]
  ·simp only[filter_tt,abl,i7,nX,acw];congr 1;apply ac1;intro a _;simp
  ·intro x hx;obtain⟨k,hk,rfl⟩:=aa7.mp hx;rw[abk] at hk;refine⟨rfl,λ_=>?_⟩;have hm:=dj (M:=M) (i:=(0+(k:Int))) (j:=(s:Int)) (by omega)
   walk_at "ev"
   simp only[hm]
 have hl:((nX s c).map W.int).length<=16777216:=by simp[nX];omega
 rw[b9 hl] at e;refine aR e ?_;exact⟨pre_app _ _,aF.new _ _⟩
def iA(h w b r n:Nat):List Int:=(List.range n).map λc=>((b / h*h+r:Nat):Int)*(h*w:Nat)+(b % h*w+c:Nat)
def gY(h w b n:Nat):List Int:=(List.range n).flatMap λr=>iA h w b r w
def J_(h w b n:Nat):(gY h w b n).length=n*w:=by
 induction n with
 |zero=>simp[gY]
 |succ n ih=>have e:gY h w b (n+1)=gY h w b n++iA h w b n w:=Dc n _;rw[e,abb,ih];simp[iA,adG]
def QL(h w b:Nat)(hh:1<=h/\h<=3)(hw:1<=w/\w<=3)(hb:b<9)(M:Mem):∃v M',PB.m_ [.int h,.int w,.int b] M=.ok v M'/\M<+:M'/\aP M' v (Bb h w b):=by
 refine bM rfl ?_;have U2:b / h<=9:=aa1 (Nat.div_le_self b h) (by omega);have HF:b % h<3:=aa9 (Nat.mod_lt b (by omega)) hh.2;have m1:=dj (M:=M) (i:=(h:Int)) (j:=(w:Int)) (by omega);have d1:=ff (M:=M) (i:=(b:Int)) (j:=(h:Int)) (by omega) (by omega);have e1:((b:Int) / (h:Int))=((b / h:Nat):Int):=rfl;have m2:=dj (M:=M) (i:=((b / h:Nat):Int)) (j:=(h:Int)) (by rw[adL];exact aa1 U2 (by decide));have d2:=dC (M:=M) (i:=(b:Int)) (j:=(h:Int)) (by omega);have e2:((b:Int) % (h:Int))=((b % h:Nat):Int):=rfl;have m3:=dj (M:=M) (i:=((b % h:Nat):Int)) (j:=(w:Int)) (by rw[adL];exact aa1 (acn HF) (by decide));show(aj _ _ [some (.int h),some (.int w),some (.int b),none,none,none,none,none,none] M).Sat _;refine aB (bL (v:=.int ((h:Int)*w)) (M1:=M) (by walk_at "ev";simp only[m1]) ?_);refine aB (bL (v:=.int (((b / h:Nat):Int)*h)) (M1:=M) (by walk_at "ev";simp only[d1,e1,m2]) ?_);refine aB (bL (v:=.int (((b % h:Nat):Int)*w)) (M1:=M) (by walk_at "ev";simp only[d2,e2,m3]) ?_);refine aB (bL (v:=.ref M.length) (M1:=M++[.lst []]) (by walk_at "ev";exact b9 (by simp)) ?_);refine aB ?_;have ht:(b / h*h:Nat)<=9:=aa1 (Nat.div_mul_le_self b h) (by omega);have hl:(b % h*w:Nat)<=9:=by have:=abv (acn HF) hw.2;omega
 have et:((b / h:Nat):Int)*(h:Int)=((b / h*h:Nat):Int):=by simp
 have el:((b % h:Nat):Int)*(w:Int)=((b % h*w:Nat):Int):=by simp
 have es:(h:Int)*(w:Int)=((h*w:Nat):Int):=by simp
 have dz:h*w<=9:=aa1 (abv hh.2 hw.2) (by decide);simp only[aaP,aaQ,et,el,es];have r1:((b / h*h:Nat):Int).natAbs<bJ/\(((b / h*h:Nat):Int)+(h:Int)).natAbs<bJ:=⟨dc (by omega) (by omega),dc (by omega) (by omega)⟩;have r2:((b % h*w:Nat):Int).natAbs<bJ/\(((b % h*w:Nat):Int)+(w:Int)).natAbs<bJ:=⟨dc (by omega) (by omega),dc (by omega) (by omega)⟩;have n1:(((b / h*h:Nat):Int)+(h:Int)-((b / h*h:Nat):Int)).toNat=h:=by omega
 have n2:(((b % h*w:Nat):Int)+(w:Int)-((b % h*w:Nat):Int)).toNat=w:=by omega
 refine gj (lo:=((b / h*h:Nat):Int)) (n:=h) (M1:=M++[.lst []]) (by walk_at "ev";rw[aaN r1,n1]) (λj σ M'=>∃x y,σ=[some (.int h),some (.int w),some (.int b),some (.int (h*w:Nat)),some (.int (b / h*h:Nat)),some (.int (b % h*w:Nat)),some (.ref M.length),x,y]/\M'=M++[.lst ((gY h w b j).map .int)]) ⟨none,none,rfl,rfl⟩ ?_ ?_
 ·rintro j σ M' hj ⟨x,y,rfl,rfl⟩;simp only[aaP,aaQ];refine gj (lo:=((b % h*w:Nat):Int)) (n:=w) (M1:=M++[.lst ((gY h w b j).map .int)]) (by walk_at "ev";rw[aaN r2,n2]) (λc σ M'=>∃y,σ=[some (.int h),some (.int w),some (.int b),some (.int (h*w:Nat)),some (.int (b / h*h:Nat)),some (.int (b % h*w:Nat)),some (.ref M.length),some (.int (((b / h*h:Nat):Int)+(j:Int))),y]/\M'=M++[.lst ((gY h w b j++iA h w b j c).map .int)]) ⟨y,rfl,by simp[iA]⟩ ?_ ?_
  ·rintro c σ M' hc ⟨y,rfl,rfl⟩;simp only[aaP,aaQ];have g:=b8 M (.lst ((gY h w b j++iA h w b j c).map .int));have lo:=fS g;have hlen:((gY h w b j++iA h w b j c).map W.int).length<16777216:=by rw[aaV,abb,J_];have:j*w<=3*3:=abv (by omega) hw.2;simp[iA];omega
   have m4:=dj (M:=M++[.lst ((gY h w b j++iA h w b j c).map .int)]) (i:=(((b / h*h:Nat):Int)+(j:Int))) (j:=((h*w:Nat):Int)) (by omega);refine e_ (v:=.ao) (M1:=M++[.lst ((gY h w b j++iA h w b j (c+1)).map .int)]) ?_ ⟨_,rfl,rfl⟩
   walk_at "ev"
   simp only[lo,m4];rw[um g hlen,pF];have e3:iA h w b j (c+1)=iA h w b j c++[((b / h*h+j:Nat):Int)*(h*w:Nat)+(b % h*w+c:Nat)]:=Jq c _;rw[e3];simp
  ·rintro σ M' ⟨y,rfl,rfl⟩;exact⟨_,_,rfl,by rw[show gY h w b (j+1)=gY h w b j++iA h w b j w from Dc j _]⟩
 ·rintro σ M' ⟨x,y,rfl,rfl⟩;dsimp only;refine aR (v:=.ref M.length) (M1:=M++[.lst ((gY h w b h).map .int)]) rfl ?_;exact⟨pre_app _ _,aF.new _ _⟩
def Ll:yU (PB.rJ PB.m9 PB.mZ PB.m_):=by
 intro h w M hh hw;refine bM rfl ?_;have dz:h*w<=9:=aa1 (abv hh.2 hw.2) (by decide);have m1:=dj (M:=M) (i:=(h:Int)) (j:=(w:Int)) (by omega);have es:(h:Int)*(w:Int)=((h*w:Nat):Int):=by simp
 show(aj _ _ [some (.int h),some (.int w),none,none,none,none] M).Sat _;refine aB (bL (v:=.int ((h:Int)*w)) (M1:=M) (by walk_at "ev";simp only[m1]) ?_);simp only[aaP,aaQ,es];obtain⟨v1,M1,e1,p1,L1⟩:=zx (σ:=[some (.int h),some (.int w),some (.int (h*w:Nat)),none,none,none]) (M:=M) (elt:=ak PB.m9 (ae (aa 2) (ae (aa 6) ag))) 6 (nW (h*w)) (aa 2) rfl dz (λj hj M' p=>by obtain⟨v,bP,a,b,c⟩:=QJ (h*w) j dz (by omega) M';exact⟨v,bP,by walk_at "ev";exact a,b,c⟩)
 refine aB (bL e1 ?_);simp only[aaP,aaQ];obtain⟨v2,M2,e2,p2,L2⟩:=zx (σ:=[some (.int h),some (.int w),some (.int (h*w:Nat)),some v1,none,none]) (M:=M1) (elt:=ak PB.mZ (ae (aa 2) (ae (aa 6) ag))) 6 (nX (h*w)) (aa 2) rfl dz (λj hj M' p=>by obtain⟨v,bP,a,b,c⟩:=QK (h*w) j dz (by omega) M';exact⟨v,bP,by walk_at "ev";exact a,b,c⟩)
 refine aB (bL e2 ?_);simp only[aaP,aaQ];obtain⟨v3,M3,e3,p3,L3⟩:=zx (σ:=[some (.int h),some (.int w),some (.int (h*w:Nat)),some v1,some v2,none]) (M:=M2) (elt:=ak PB.m_ (ae (aa 0) (ae (aa 1) (ae (aa 6) ag)))) 6 (Bb h w) (aa 2) rfl dz (λj hj M' p=>by obtain⟨v,bP,a,b,c⟩:=QL h w j hh hw (by omega) M';exact⟨v,bP,by walk_at "ev";exact a,b,c⟩)
 refine aB (bL e3 ?_);simp only[aaP,aaQ];obtain⟨v4,M4,e4,p4,L4⟩:=FP ((L1.mono p2).mono p3) (L2.mono p3) (by simp;omega);obtain⟨v5,M5,e5,p5,L5⟩:=FP L4 (L3.mono p4) (by simp;omega);refine aR (v:=v5) (M1:=M5) ?_ ?_
 ·simp only[af,aa,aaR,aaU,R.bind,e4,e5]
 ·exact⟨p1.trans (p2.trans (p3.trans (p4.trans p5))),L5⟩
def Lm(h w:Nat)(hh:1<=h/\h<=3)(hw:1<=w/\w<=3)(M:Mem)(v:W)(ns:List Int)(hv:aP M v ns)(hs:bC (h*w) ns):PB.o2 [.int h,.int w,v] M=.ok .ao M:=by
 have key:∃u M',PB.o2 [.int h,.int w,v] M=.ok u M'/\(u=.ao/\M'=M):=by
  refine bM rfl ?_;have dz:h*w<=9:=aa1 (abv hh.2 hw.2) (by decide);have m1:=dj (M:=M) (i:=(h:Int)) (j:=(w:Int)) (by omega);have es:(h:Int)*(w:Int)=((h*w:Nat):Int):=by simp
  have m2:=dj (M:=M) (i:=((h*w:Nat):Int)) (j:=((h*w:Nat):Int)) (by omega);have BE:((h*w:Nat):Int)*((h*w:Nat):Int)=((h*w*(h*w):Nat):Int):=by simp
  show(aj _ _ [some (.int h),some (.int w),some v,none,none] M).Sat _;refine aB (bL (v:=.int ((h:Int)*w)) (M1:=M) (by walk_at "ev";simp only[m1]) ?_);simp only[aaP,aaQ,es];refine aB (aM (c:=false) (M1:=M) ?_ (λz=>nomatch z) λ_=>?_)
  ·walk_at "ev"
   simp only[jS hv,m2,ne_int,hs.len,BE,ab8,acA]
  refine bT ?_;refine fb (v:=v) (M1:=M) (xs:=ns.map .int) rfl hv (λj σ M'=>(∃x,σ=[some (.int h),some (.int w),some v,some (.int (h*w:Nat)),x])/\M'=M) ⟨⟨_,rfl⟩,rfl⟩ (λj σ M' _ ⟨_,e⟩=>by subst e;exact hv) ?_ ?_
  ·rintro j x σ M' hx ⟨⟨y,rfl⟩,rfl⟩;obtain⟨n,hn,rfl,_⟩:=iU hx;have h1:=hs.lo n hn;have h2:=hs.hi n hn;simp only[aaP,aaQ];refine aM (c:=false) (M1:=M') ?_ (λz=>nomatch z) λ_=>?_
   ·walk_at "ev"
    have e1:decide (n<0)=false:=abm (by omega);have e2:decide (((h*w:Nat):Int)<n)=false:=abm (by omega);simp only[lt_int,gt_int,e1,e2,abi,aa_]
   ·exact⟨⟨_,rfl⟩,rfl⟩
  ·rintro σ M' ⟨⟨y,rfl⟩,rfl⟩;exact⟨trivial,rfl⟩
 obtain⟨u,M',e,rfl,rfl⟩:=key;exact e
def iV{p:Int×W}{r:List (Int×W)}{k:Int}(e:p.1=k):aW (p::r) k=some p.2:=by simp[aW,ab3,e]
def iu{p:Int×W}{r:List (Int×W)}{k:Int}(e:¬p.1=k):aW (p::r) k=aW r k:=by simp[aW,ab3,e]
theorem pI(k:Int):∀kvs:List (Int×W),(kvs.any λkv=>decide (kv.1=k))=(aW kvs k).isSome
 |[]=>rfl
 |p::r=>by
  rw[abB];by_cases e:p.1=k
  ·simp only[iV e,abF e,ach,adb]
  ·rw[iu e,abm e,ab4];exact pI k r
theorem Es(k j:Int)(y:W):∀kvs:List (Int×W),aW (kvs.map λkv=>if kv.1=k then(kv.1,y) else kv) j=(aW kvs j).map λx=>if j=k then y else x
 |[]=>rfl
 |p::r=>by
  have ih:=Es k j y r;rw[aa8];by_cases h:p.1=k
  ·rw[aaN h];by_cases e:p.1=j
   ·rw[iV (p:=(p.1,y)) e,iV e,ac2,aaN (e.symm.trans h)]
   ·rw[iu (p:=(p.1,y)) e,iu e,ih]
  ·rw[aaO h];by_cases e:p.1=j
   ·rw[iV (p:=p) e,iV e,ac2,aaO (λz=>h (e.trans z))]
   ·rw[iu (p:=p) e,iu e,ih]
theorem uo(k j:Int)(y:W):∀kvs:List (Int×W),aW kvs k=none->aW (kvs++[(k,y)]) j=if j=k then some y else aW kvs j
 |[],_=>by
  by_cases e:k=j
  ·rw[aaN e.symm];exact iV (p:=(k,y)) e
  ·rw[aaO (λz=>e z.symm)];exact iu (p:=(k,y)) e
 |p::r,hn=>by
  rw[ab0];have hk:¬p.1=k:=λz=>by rw[iV z] at hn;cases hn
  rw[iu hk] at hn;have ih:=uo k j y r hn;by_cases e:p.1=j
  ·rw[iV e,iV e,aaO (λz=>hk (e.trans z))]
  ·rw[iu e,iu e,ih]
def zD{kvs:List (Int×W)}{k:Int}(v:W)(h:aW kvs k=none):dput kvs k v=kvs++[(k,v)]:=by unfold dput;rw[pI,h];exact aaO (by decide)
def zF{kvs:List (Int×W)}{k:Int}{x:W}(v:W)(h:aW kvs k=some x):dput kvs k v=kvs.map (λkv=>if kv.1=k then(kv.1,v) else kv):=by unfold dput;rw[pI,h];exact aaN rfl
def pJ(kvs:List (Int×W))(k j:Int)(y:W):aW (dput kvs k y) j=if j=k then some y else aW kvs j:=by
 cases q:aW kvs k with
 |none=>rw[zD y q];exact uo k j y kvs q
 |some x=>
  rw[zF y q,Es];by_cases e:j=k
  ·rw[aaN e,e,q,ac2,aaN rfl]
  ·rw[aaO e];cases aW kvs j with
   |none=>rfl
   |some z=>rw[ac2,aaO e]
def uG(kvs:List (Int×W))(k:Int)(v:W):(dput kvs k v).length<=kvs.length+1:=by
 unfold dput;split
 ·rw[aaV];omega
 ·rw[abb,abq,aca];omega
def JO{kvs:List (Int×W)}{k:Int}{x:W}(v:W)(h:aW kvs k=some x):(dput kvs k v).length=kvs.length:=by rw[zF v h,aaV]
def JB{kvs:List (Int×W)}{k:Int}{x:W}(v:W)(h:aW kvs k=some x):(dput kvs k v).map (·.1)=kvs.map (·.1):=by
 rw[zF v h,acw];refine ac1 λp _=>?_
 show(if p.1=k then(p.1,v) else p).1=p.1;split<;>rfl
def MD{kvs:List (Int×W)}{k:Int}(h:aW kvs k=none):k∉kvs.map (·.1):=λm=>by obtain⟨p,hp,e⟩:=aa7.mp m;have q:(kvs.any λkv=>decide (kv.1=k))=true:=aa0.mpr ⟨p,hp,abF e⟩;rw[pI,h] at q;exact absurd q (by simp)
def Du{kvs:List (Int×W)}{k:Int}(v:W)(h:aW kvs k=none)(hn:(kvs.map (·.1)).Nodup):((kvs++[(k,v)]).map (·.1)).Nodup:=by rw[acI];refine List.nodup_append.mpr ⟨hn,by simp,λa ha b hb=>?_⟩;simp only[aa8,abJ,ack] at hb;rintro rfl;exact MD h (hb▸ha)
def Dv{kvs:List (Int×W)}{k:Int}(v:W)(hn:(kvs.map (·.1)).Nodup):((dput kvs k v).map (·.1)).Nodup:=by
 cases q:aW kvs k with
 |none=>rw[zD v q];exact Du v q hn
 |some x=>rw[JB v q];exact hn
theorem rW:∀{kvs:List (Int×W)} {k:Int} {v:W},(k,v)∈kvs->(kvs.map (·.1)).Nodup->aW kvs k=some v
 |p::r,k,v,hm,hn=>by
  rw[aa8,ab'] at hn;rcases aaX.mp hm with rfl|hm
  ·exact iV rfl
  ·have:¬p.1=k:=λe=>hn.1 (aa7.mpr ⟨_,hm,e.symm⟩)
   rw[iu this];exact rW hm hn.2
def zb{kvs:List (Int×W)}{k:Int}{v:W}(h:aW kvs k=some v):(k,v)∈kvs:=by
 unfold aW at h;cases e:kvs.find? (λkv=>decide (kv.1=k)) with
 |none=>rw[e] at h;cases h
 |some p=>
  rw[e] at h;have h1:=aea e;have h2:p.1=k:=by simpa using List.find?_some e
  have h3:p.2=v:=aa2 h;rw[<-h2,<-h3];exact h1
def DW(kvs:List (Int×W))(k j:Int):aW (iD kvs k) j=if j=k then none else aW kvs j:=by
 induction kvs with
 |nil=>unfold iD;simp[aW]
 |cons p r ih=>
  unfold iD at ih⊢;rw[ab5];by_cases e:p.1=k
  ·rw[aaO (by simp[e]),ih];by_cases e2:j=k
   ·rw[aaN e2,aaN e2]
   ·rw[aaO e2,aaO e2,iu (λz=>e2 (z.symm.trans e))]
  ·rw[aaN (by simp[e])];by_cases e2:p.1=j
   ·rw[iV e2,iV e2,aaO (λz=>e (e2.trans z))]
   ·rw[iu e2,iu e2,ih]
def Ka{kvs:List (Int×W)}(k:Int)(hn:(kvs.map (·.1)).Nodup):((iD kvs k).map (·.1)).Nodup:=by unfold iD;exact List.Nodup.sublist (List.Sublist.map _ List.filter_sublist) hn
def Ln(kvs:List (Int×W))(k:Int):(iD kvs k).length<=kvs.length:=abK _ _
def gX{M:Mem}{a:Nat}{kvs:List (Int×W)}(h:M[a]? =some (.aI kvs)):cp M (.ref a)=some (a,kvs):=by simp only[cp,h]
def nr{M:Mem}{a:Nat}{kvs:List (Int×W)}(h:M[a]? =some (.aI kvs)):qc M (.ref a)=true:=by simp only[qc,gX h,adb]
def FT{M:Mem}{a:Nat}{kvs:List (Int×W)}(neg:Bool)(k:Int)(h:M[a]? =some (.aI kvs)):mL neg (.int k) (.ref a) M=.ok (.bl ((aW kvs k).isSome != neg)) M:=by simp only[mL,gX h]
def OE{M:Mem}{a:Nat}{kvs:List (Int×W)}{σ:St}(k:Int)(v:W)(h:M[a]? =some (.aI kvs))(hl:kvs.length<16777216):qo (.ref a) (.int k) v σ M=.nx σ (M.set a (.aI (dput kvs k v))):=by simp only[qo,gX h];exact aaN hl
abbrev a8:List Nat:=[83,116,97,116,101]
abbrev fH:List Nat:=[104,105,103,104]
abbrev fW:List Nat:=[119,105,100,101]
abbrev fG:List Nat:=[103,114,111,117,112,115]
abbrev fN:List Nat:=[110,117,109,98,101,114,115]
abbrev fC:List Nat:=[99,97,110]
def uH{M:Mem}{a:Nat}{c:List Nat}{fs:List (List Nat×W)}(h:M[a]? =some (.ins c fs)):fU M (.ref a)=some (a,c,fs):=by simp only[fU,h]
def OF{M:Mem}{a:Nat}{c f:List Nat}{fs:List (List Nat×W)}{v:W}(h:M[a]? =some (.ins c fs))(hf:c9 f fs=some v):Ba c f (.ref a) M=.ok v M:=by simp only[Ba,uH h,hf,aaW]
def dk{σ:St}{M:Mem}{i a:Nat}{c f:List Nat}{fs:List (List Nat×W)}{v:W}(hi:σ[i]? =some (some (.ref a)))(h:M[a]? =some (.ins c fs))(hf:c9 f fs=some v):aZ c f (aa i) σ M=.ok v M:=by simp only[aZ,aa,hi,R.bind];exact OF h hf
abbrev lq(h w:Nat)(vG vN vC:W):List (List Nat×W):=[(fH,.int h),(fW,.int w),(fG,vG),(fN,vN),(fC,vC)]
def cE(h w p:Nat):List Int:=(cF h w p).map λ(g:Nat)=>(g:Int)
def z9(f:CM):Prop:=∀(h w p:Nat) (M:Mem),1<=h/\h<=3->1<=w/\w<=3->p<h*w*(h*w)->f [.int h,.int w,.int p] M=.ok (.ref M.length) (M++[.lst ((cE h w p).map .int)])
def Ax:z9 PB.o9:=by
 intro h w p M hh hw hp;have hs:1<=h*w/\h*w<=9:=by rcases h3 hh with rfl|rfl|rfl<;>rcases h3 hw with rfl|rfl|rfl<;>decide
 have key:∃r M',PB.o9 [.int h,.int w,.int p] M=.ok r M'/\(r=.ref M.length/\M'=M++[.lst ((cE h w p).map .int)]):=by
  refine bM rfl ?_;show(aj _ _ [some (.int h),some (.int w),some (.int p),none,none,none,none] M).Sat _;refine aB (bL (v:=.int ((h*w:Nat):Int)) (M1:=M) ?_ ?_)
  ·walk_at "ev"
   rw[dj (by omega),adm]
  simp only[aaP,aaQ];refine aB (bL (v:=.int ((p / (h*w):Nat):Int)) (M1:=M) ?_ ?_)
  ·walk_at "ev"
   rw[ff (by omega) (by omega),adM]
  simp only[aaP,aaQ];refine aB (bL (v:=.int ((p % (h*w):Nat):Int)) (M1:=M) ?_ ?_)
  ·walk_at "ev"
   rw[dC (by omega),Int.natCast_emod]
  simp only[aaP,aaQ];have q1:p / (h*w)<=9:=by have:p / (h*w)<h*w:=ad_ hp;omega
  refine aB (bL (v:=.int ((p / (h*w) / h*h+p % (h*w) / w:Nat):Int)) (M1:=M) ?_ ?_)
  ·have q2:p / (h*w) / h<=9:=aa1 (Nat.div_le_self _ _) q1;have e1:af oDiv (aa 4) (aa 0) [some (.int h),some (.int w),some (.int p),some (.int ((h*w:Nat):Int)),some (.int ((p / (h*w):Nat):Int)),some (.int ((p % (h*w):Nat):Int)),none] M=.ok (.int ((p / (h*w) / h:Nat):Int)) M:=
    aY rfl rfl (by rw[ff (by omega) (by omega),<-adM])
   have e2:=aY (f:=bN) (b:=aa 0) e1 rfl (dj (by rw[adL];exact aa1 q2 (by decide)));have e3:af oDiv (aa 5) (aa 1) [some (.int h),some (.int w),some (.int p),some (.int ((h*w:Nat):Int)),some (.int ((p / (h*w):Nat):Int)),some (.int ((p % (h*w):Nat):Int)),none] M=.ok (.int ((p % (h*w) / w:Nat):Int)) M:=
    aY rfl rfl (by rw[ff (by omega) (by omega),<-adM])
   refine aY e2 e3 ?_;show R.ok (W.int (_+_)) M=_;rw[Int.natCast_add,adm]
  simp only[aaP,aaQ];refine aR (v:=.ref M.length) (M1:=M++[.lst ((cE h w p).map .int)]) ?_ ⟨rfl,rfl⟩
  walk_at "ev"
  rw[dj (by omega)];simp only;rw[b9 (by show 3<=16777216;decide)];simp only[cE,cF,aa8,abJ,Int.natCast_add,adm];rfl
 obtain⟨r,M',e,rfl,rfl⟩:=key;exact e
def rX{d k e:EM}{σ:St}{M M1 M2 M3:Mem}{a:Nat}{i:Int}{v:W}{kvs:List (Int×W)}{q:ai}(he:e σ M=.ok v M1)(hd:d σ M1=.ok (.ref a) M2)(hk:k σ M2=.ok (.int i) M3)(hD:M3[a]? =some (.aI kvs))(hl:kvs.length<16777216)(h:q.nx σ (M3.set a (.aI (dput kvs i v)))):(jm d k e σ M).Sat q:=by unfold jm;rw[he];simp only[R.cz,hd,hk,OE i v hD hl];exact h
def md(G:List (List Int))(ss:List Int)(gs:List Int)(n:Int):Bool:=gs.any λg=>(G.getD g.toNat []).any λf=>decide (aq ss f=n)
def freeOf(G:List (List Int))(ss:List Int)(s:Nat)(gs:List Int):List Int:=(nums s).filter λn=>!md G ss gs n
def Dw(s:Nat):i7 1 s=(nums s).map .int:=by
 unfold i7 nums;rw[acw];refine ac1 λk _=>?_
 show W.int (1+(k:Int))=W.int ((k:Int)+1);rw[Int.add_comm]
def jx{h w:Nat}(hh:1<=h/\h<=3)(hw:1<=w/\w<=3):1<=h*w/\h*w<=9:=by rcases h3 hh with rfl|rfl|rfl<;>rcases h3 hw with rfl|rfl|rfl<;>decide
def nC(h w:Nat):(ah h w).length=3*(h*w):=by unfold ah;simp;omega
def t4{α:Type}(l:List α)(f:α->Bool)(j:Nat){x:α}(h:l[j]? =some x):(l.take (j+1)).any f=((l.take j).any f||f x):=by rw[acb,h];simp
def getD_mem{G:List (List Int)}{g:Int}(h0:0<=g)(h1:g<(G.length:Int)):G.getD g.toNat []∈G:=by
 have:g.toNat<G.length:=by omega
 simp[List.getD,this]
def Fc{σ:St}{M:Mem}{a:Nat}{fs:List (List Nat×W)}{h w:Nat}{f:CM}{p:Int}{r:R W}{e:EM}(hi:σ[0]? =some (some (.ref a)))(ho:M[a]? =some (.ins a8 fs))(f1:c9 fH fs=some (.int h))(f2:c9 fW fs=some (.int w))(he:e σ M=.ok (.int p) M)(hf:f [.int h,.int w,.int p] M=r):ak f (ae (aZ a8 fH (aa 0)) (ae (aZ a8 fW (aa 0)) (ae e ag))) σ M=r:=by simp only[ak,ae,ag,dk hi ho f1,dk hi ho f2,he,R.bind];exact hf
def Fd{σ:St}{M:Mem}{a:Nat}{fs:List (List Nat×W)}{h w:Nat}(ZR:h<=3)(hi:σ[0]? =some (some (.ref a)))(ho:M[a]? =some (.ins a8 fs))(f1:c9 fH fs=some (.int h))(f2:c9 fW fs=some (.int w)):
 af bN (aZ a8 fH (aa 0)) (aZ a8 fW (aa 0)) σ M=.ok (.int ((h*w:Nat):Int)) M:=
 aY (dk hi ho f1) (dk hi ho f2) (by rw[dj (by omega),adm])
def Lo{f:CM}(hf:z9 f){h w p:Nat}{M:Mem}{a:Nat}{fs:List (List Nat×W)}{vG vN:W}{ss:List Int}(hh:1<=h/\h<=3)(hw:1<=w/\w<=3)(hp:p<h*w*(h*w))(ho:M[a]? =some (.ins a8 fs))(f1:c9 fH fs=some (.int h))(f2:c9 fW fs=some (.int w))(f3:c9 fG fs=some vG)(f4:c9 fN fs=some vN)(hG:LL M vG (ah h w))(hN:aP M vN ss)(hl:ss.length=h*w*(h*w)):
 ∃k M',PB.oZ f [.ref a,.int p] M=.ok (.ref k) M'/\M<+:M'/\M.length<=k/\M'[k]? =some (.lst ((freeOf (ah h w) ss (h*w) (cE h w p)).map .int)):=by
 obtain⟨s1,s9⟩:=jx hh hw;have f_:=iz hh hw;have key:∃r M',PB.oZ f [.ref a,.int p] M=.ok r M'/\∃k,r=.ref k/\M<+:M'/\M.length<=k/\M'[k]? =some (.lst ((freeOf (ah h w) ss (h*w) (cE h w p)).map .int)):=by
  refine bM rfl ?_;show(aj _ _ [some (.ref a),some (.int p),none,none,none] M).Sat _;refine aB (bL (v:=.ref M.length) (M1:=M++[.aI []]) rfl ?_);simp only[aaP,aaQ];refine aB ?_;have gI:∀g∈cE h w p,0<=g/\g<((ah h w).length:Int):=λg hg=>by obtain⟨n,hn,rfl⟩:=aa7.mp hg;have:=sv hh hw hp n hn;rw[nC];exact⟨acW _,by omega⟩
  have gl:(cE h w p).length=3:=rfl;have pre:∀(kvs:List (Int×W)) (l:List W),M<+:M++[.aI kvs,.lst l]:=λkvs l=>pre_app _ _
  refine fb (v:=.ref (M.length+1)) (xs:=(cE h w p).map .int) (M1:=M++[.aI [],.lst ((cE h w p).map .int)]) ?_ ?_ (λj σ M'=>(∃x y,σ=[some (.ref a),some (.int p),some (.ref M.length),x,y])/\∃kvs,M'=M++[.aI kvs,.lst ((cE h w p).map .int)]/\kvs.length<=9*j/\∀n,(aW kvs n).isSome=md (ah h w) ss ((cE h w p).take j) n)
   ⟨⟨_,_,rfl⟩,[],rfl,by simp,λn=>rfl⟩ ?_ ?_ ?_
  ·have e:=hf h w p (M++[.aI []]) hh hw hp;refine Fc rfl (aD (pre_app _ _) ho) f1 f2 rfl (e.trans ?_);simp
  ·exact⟨_,rfl,(gk M [] _ _).2⟩
  ·rintro j σ M' hj ⟨_,kvs,rfl,_⟩;exact⟨_,rfl,(gk M [] _ _).2⟩
  ·rintro j x σ M' hx ⟨⟨x',y',rfl⟩,kvs,rfl,hk,hv⟩;obtain⟨g,hg,rfl,wy⟩:=iU hx;obtain⟨g0,g1⟩:=gI g hg;simp only[aaP,aaQ];obtain⟨w',e1,BO⟩:=iE (hG.mono (pre kvs ((cE h w p).map .int))) g0 g1;obtain⟨BP,Ua⟩:=f_ _ (getD_mem g0 g1);have hW:aP M w' ((ah h w).getD g.toNat []):=by
    obtain⟨w2,e2,qH⟩:=iE hG g0 g1;obtain⟨ws,hL,hA⟩:=hG;simp only[av,hL.bK,(aF.mono hL (pre kvs ((cE h w p).map .int))).bK] at e1 e2;cases q:cR ws g with
    |none=>rw[q] at e1;cases e1
    |some z=>rw[q] at e1 e2;cases e1;cases e2;exact qH
   refine fb (v:=w') (xs:=((ah h w).getD g.toNat []).map .int) (M1:=M++[O.aI kvs,O.lst ((cE h w p).map W.int)]) (aY (dk rfl (aD (pre _ _) ho) f3) rfl e1) BO (λi σ M'=>(∃y,σ=[some (.ref a),some (.int p),some (.ref M.length),some (.int g),y])/\∃kvs,M'=M++[.aI kvs,.lst ((cE h w p).map .int)]/\kvs.length<=9*j+i/\∀n,(aW kvs n).isSome=(md (ah h w) ss ((cE h w p).take j) n||(((ah h w).getD g.toNat []).take i).any λf=>decide (aq ss f=n)))
    ⟨⟨_,rfl⟩,kvs,rfl,by omega,λn=>by rw[hv n];simp⟩ ?_ ?_ ?_
   ·rintro i σ M' hi ⟨_,kvs,rfl,_⟩;exact aF.mono hW (pre _ _)
   ·rintro i x σ M' lr ⟨⟨y,rfl⟩,kvs,rfl,eJ,oy⟩;obtain⟨c,hc,rfl,HG⟩:=iU lr;simp only[aaP,aaQ];obtain⟨c0,c1⟩:=Ua c hc;have il:i<((ah h w).getD g.toNat []).length:=(aaZ.mp HG).1;have jl:j<3:=by rw[<-gl];exact(aaZ.mp wy).1
    refine rX (M1:=M++[.aI kvs,.lst ((cE h w p).map .int)]) (M2:=M++[.aI kvs,.lst ((cE h w p).map .int)]) (M3:=M++[.aI kvs,.lst ((cE h w p).map .int)]) (a:=M.length) (i:=aq ss c) (v:=.bl true) (kvs:=kvs) rfl rfl (aY (dk rfl (aD (pre _ _) ho) f4) rfl (eA (aF.mono hN (pre _ _)) c0 (by rw[hl];exact c1))) (gk M [] _ _).1 (by omega) ⟨⟨_,rfl⟩,dput kvs (aq ss c) (.bl true),uF _ _ _ _ _,?_,λn=>?_⟩
    ·have:=uG kvs (aq ss c) (.bl true);omega
    ·rw[pJ,t4 _ _ _ HG,<-adN,<-oy n];by_cases e:n=aq ss c
     ·rw[aaN e,abF e.symm];simp
     ·rw[aaO e,abm (λz=>e z.symm)];simp
   ·rintro σ M' ⟨⟨y,rfl⟩,kvs,rfl,eJ,oy⟩;refine⟨⟨_,_,rfl⟩,kvs,rfl,?_,λn=>?_⟩
    ·simp only[aaV] at eJ;omega
    ·rw[oy n,aaV,aby];unfold md;rw[t4 _ _ _ wy]
  ·rintro σ M' ⟨⟨x,y,rfl⟩,kvs,rfl,hk,hv⟩;dsimp only;generalize hK:M++[.aI kvs,.lst ((cE h w p).map .int)]=N;have pN:M<+:N:=by rw[<-hK];exact pre _ _
   have hD:N[M.length]? =some (.aI kvs):=by rw[<-hK];exact(gk M [] _ _).1
   have r2:(1:Int).natAbs<bJ/\(((h*w:Nat):Int)+1).natAbs<bJ:=⟨dc (by omega) (by omega),dc (by omega) (by omega)⟩;have n2:(((h*w:Nat):Int)+1-1).toNat=h*w:=by omega
   have ef:(freeOf (ah h w) ss (h*w) (cE h w p)).map W.int=((i7 1 (h*w)).filter λx=>match x with|.int n=>!md (ah h w) ss (cE h w p) n|_=>false).map id:=by rw[Dw,ac0,adO];rfl
   refine aR (v:=.ref N.length) (M1:=N++[.lst ((freeOf (ah h w) ss (h*w) (cE h w p)).map .int)]) ?_ ⟨N.length,rfl,pN.trans (pre_app _ _),?_,b8 _ _⟩
   ·have dn:=aD pN ho;have hsz:dM (eC (.int 1)) (af bp (af bN (aZ a8 fH (aa 0)) (aZ a8 fW (aa 0))) (eC (.int 1))) [some (.ref a),some (.int p),some (.ref M.length),x,y] N=.ok (cJ 1 (h*w),[]) N:=by have e1:af bp (af bN (aZ a8 fH (aa 0)) (aZ a8 fW (aa 0))) (eC (.int 1)) [some (.ref a),some (.int p),some (.ref M.length),x,y] N=.ok (.int (((h*w:Nat):Int)+1)) N:=aY (Fd hh.2 rfl dn f1 f2) rfl rfl;simp only[dM,e1,R.bind,eC];rw[aaN r2,n2]
    unfold b5;rw[hsz];simp only[R.bind,du,acv,abY,ab7,pq,ab0,abl];rw[jd (σ:=[some (.ref a),some (.int p),some (.ref M.length),x,y,none]) (λx=>match x with|.int n=>!md (ah h w) ss (cE h w p) n|_=>false) id _ _ _ (λ_=>rfl) rfl ?_]
    ·simp only[abl];rw[<-ef];refine b9 ?_;rw[aaV];refine aa1 (abK _ _) ?_;simp[nums];omega
    ·intro z hz;obtain⟨k,_,rfl⟩:=aa7.mp hz;refine⟨?_,λ_=>rfl⟩;have oh:=hv (1+(k:Int));rw[aaV,aby] at oh;show tB (nV true (aa 5) (aa 2)) [some (.ref a),some (.int p),some (.ref M.length),x,y,some (.int (1+(k:Int)))] N=_;simp only[tB,nV,af,aa,R.bind,aaU,aaR,FT true _ hD,oh];simp
   ·rw[<-hK];simp
 obtain⟨r,M',e,k,rfl,q⟩:=key;exact⟨k,M',e,q⟩
def GY(h w:Nat):Bool:=(List.range (h*w*(h*w))).all λp=>(List.range (3*(h*w))).all λi=>((ah h w).getD i []).any (·==(p:Int))==(cF h w p).contains i
def OG{h w:Nat}(hh:1<=h/\h<=3)(hw:1<=w/\w<=3):GY h w=true:=by rcases h3 hh with rfl|rfl|rfl<;>rcases h3 hw with rfl|rfl|rfl<;>decide+kernel
def uI{h w:Nat}(hh:1<=h/\h<=3)(hw:1<=w/\w<=3){p i:Nat}(hp:p<h*w*(h*w))(hi:i<3*(h*w)):(p:Int)∈(ah h w).getD i []↔i∈cF h w p:=by
 have h1:=OG hh hw;unfold GY at h1;have h2:=abC.mp (abC.mp h1 p (abk.mpr hp)) i (abk.mpr hi);rw[abA] at h2;constructor
 ·intro hm;have:((ah h w).getD i []).any (·==(p:Int))=true:=aa0.mpr ⟨_,hm,by simp⟩;rw[h2] at this;simpa using this
 ·intro hm;have:(cF h w p).contains i=true:=by simpa using hm
  rw[<-h2] at this;obtain⟨x,hx,e⟩:=aa0.mp this;have e':x=(p:Int):=by simpa using e
  rw[<-e'];exact hx
def ME{h w:Nat}(hh:1<=h/\h<=3)(hw:1<=w/\w<=3){p:Nat}(hp:p<h*w*(h*w)){ss:List Int}{n:Int}(h0:aq ss p≠n):dZ (ah h w) ss p n=md (ah h w) ss (cE h w p) n:=by
 rw[abw];unfold dZ md iI;rw[aa0,aa0];constructor
 ·rintro⟨g,hg,e⟩;rw[aaT,aa0,aa0] at e;obtain⟨⟨x,hx,ex⟩,q,hq,eq⟩:=e;have qx:x=(p:Int):=by simpa using ex
  subst qx;obtain⟨i,hi,rfl⟩:=adn hg;have gS:i<3*(h*w):=by rw[<-nC];exact hi
  have eg:(ah h w).getD i []=(ah h w)[i]:=by simp[List.getD,hi]
  have a7:=(uI hh hw hp gS).mp (by rw[eg];exact hx);refine⟨(i:Int),aa7.mpr ⟨i,a7,rfl⟩,?_⟩;rw[abf,eg];refine aa0.mpr ⟨q,hq,?_⟩;simp only[aaT] at eq;exact eq.2
 ·rintro⟨gi,U3,e⟩;obtain⟨i,hi,rfl⟩:=aa7.mp U3;rw[abf] at e;have gS:=sv hh hw hp i hi;have hl:i<(ah h w).length:=by rw[nC];exact gS
  have eg:(ah h w).getD i []=(ah h w)[i]:=by simp[List.getD,hl]
  have a7:=(uI hh hw hp gS).mpr hi;rw[eg] at e a7;refine⟨_,acy hl,?_⟩;rw[aaT,aa0,aa0];obtain⟨q,hq,eq⟩:=aa0.mp e;refine⟨⟨_,a7,by simp⟩,q,hq,?_⟩;rw[aaT];refine⟨?_,eq⟩;have:q≠(p:Int):=by rintro rfl;exact h0 (abx eq)
  simp[this]
def MF{h w:Nat}(hh:1<=h/\h<=3)(hw:1<=w/\w<=3){p:Nat}(hp:p<h*w*(h*w)){ss:List Int}(h0:aq ss p=0):freeOf (ah h w) ss (h*w) (cE h w p)=rowOf (ah h w) ss (h*w) p:=by
 unfold freeOf rowOf;refine adP λn hn=>?_
 obtain⟨k,_,rfl⟩:=aa7.mp hn;rw[abF h0,abu,ME hh hw hp (by rw[h0];omega)]
def z_{G:List (List Int)}{ss:List Int}{s:Nat}{p:Int}(h:aq ss p≠0):rowOf G ss s p=[]:=by unfold rowOf;rw[ac3];intro n _;simp[h]
def rY{c f:List Nat}{o e:EM}{σ:St}{M M1 M2:Mem}{a:Nat}{fs:List (List Nat×W)}{v:W}{q:ai}(he:e σ M=.ok v M1)(ho:o σ M1=.ok (.ref a) M2)(hi:M2[a]? =some (.ins c fs))(hl:fs.length<1000)(h:q.nx σ (M2.set a (.ins c (bU f v fs)))):(jX c f o e σ M).Sat q:=by unfold jX;rw[he];simp only[R.cz,ho,GS,uH hi,true_and];rw[aaN hl];exact h
def gD(ss:List Int)(p:Int):Prop:=0<=p/\p<(ss.length:Int)/\aq ss p=0
def SD(M:Mem)(n:Nat)(G:List (List Int))(ss:List Int)(s:Nat)(kvs:List (Int×W)):Prop:=
 kvs.length<=ss.length/\(kvs.map (·.1)).Nodup/\∀p:Int,(aW kvs p=none/\¬gD ss p)\/∃k,aW kvs p=some (.ref k)/\gD ss p/\n<k/\M[k]? =some (.lst ((rowOf G ss s p).map .int))
def i9(n:Nat)(M:Mem)(v:W)(G:List (List Int)):Prop:=∃ws,(∃a,v=.ref a/\a≠n/\M[a]? =some (.lst ws))/\a_ (λw ns=>∃b,w=.ref b/\b≠n/\M[b]? =some (.lst (ns.map .int))) ws G
def i9.ll{n:Nat}{M:Mem}{v:W}{G:List (List Int)}(h:i9 n M v G):LL M v G:=by obtain⟨ws,⟨a,e,_,q⟩,r⟩:=h;exact⟨ws,⟨a,e,q⟩,r.imp λw ns ⟨b,e,_,q⟩=>⟨b,e,q⟩⟩
def LL.U4{n:Nat}{M M':Mem}{v:W}{G:List (List Int)}(h:LL M v G)(hn:M.length<=n)(k:∀(b:Nat) (ws:List W),M[b]? =some (.lst ws)->M'[b]? =some (.lst ws)):i9 n M' v G:=by
 have lt:∀{b:Nat} {ws:List W},M[b]? =some (.lst ws)->b≠n:=λ{b ws} e=>by have:=(aaZ.mp e).1;omega
 obtain⟨ws,⟨a,e,q⟩,r⟩:=h;exact⟨ws,⟨a,e,lt q,k _ _ q⟩,r.imp λw ns ⟨b,e,q⟩=>⟨b,e,lt q,k _ _ q⟩⟩
structure cG(M:Mem)(a n c:Nat)(h w:Nat)(ss:List Int):Prop where
 ob:∃vG,M[a]? =some (.ins a8 (lq h w vG (.ref n) (.ref c)))/\i9 n M vG (ah h w)
 nm:M[n]? =some (.lst (ss.map .int))
 cn:∃kvs,M[c]? =some (.aI kvs)/\SD M n (ah h w) ss (h*w) kvs
def zG(f:CM):Prop:=∀(h w:Nat) (M0:Mem) (vs:W) (ss:List Int),1<=h/\h<=3->1<=w/\w<=3->aP M0 vs ss->bC (h*w) ss->
 ∃M' n c,f [.ref M0.length,.int h,.int w,vs] (M0++[.ins a8 []])=.ok .ao M'/\M0<+:M'/\cG M' M0.length n c h w ss/\M0.length<n/\M0.length<c
theorem pA:∀(xs:List W) (i j:Nat) (x:Src),(fV i xs)[j]? =some x->∃w,xs[j]? =some w/\x=.pair (.int ((i+j:Nat):Int)) w
 |[],_,_,_,h=>by simp[fV] at h
 |y::r,i,0,x,h=>by simp only[fV,aaR] at h;exact⟨y,rfl,(aa2 h).symm⟩
 |y::r,i,j+1,x,h=>by simp only[fV,aaU] at h;obtain⟨w,h1,h2⟩:=pA r (i+1) j x h;exact⟨w,by simpa using h1,by rw[h2,show i+1+j=i+(j+1) by omega]⟩
theorem pB:∀(xs:List W) (i:Nat),(fV i xs).length=xs.length
 |[],_=>rfl
 |_::r,i=>by simp[fV,pB r]
def vD{M:Mem}{x y:W}{i j:Nat}{σ:St}:fm [ar i,ar j] (.ref M.length) σ (M++[.tup [x,y]])=.ok ((σ.set i (some x)).set j (some y)) (M++[.tup [x,y]]):=by have h:cL (M++[.tup [x,y]]) (.ref M.length)=some [x,y]:=(aT.new M [x,y]).cL;simp only[fm,h,abq,aca,aaW,jU,ar,R.bind]
def OH{fg fr fn:CM}(hg:yU fg)(hr:∀(h w:Nat),1<=h/\h<=3->1<=w/\w<=3->∀(M:Mem) (v:W) (ns:List Int),aP M v ns->bC (h*w) ns->fr [.int h,.int w,v] M=.ok .ao M)(hn:∀{h w p:Nat} {M:Mem} {a:Nat} {fs:List (List Nat×W)} {vG vN:W} {ss:List Int},1<=h/\h<=3->1<=w/\w<=3->p<h*w*(h*w)->M[a]? =some (.ins a8 fs)->c9 fH fs=some (.int h)->c9 fW fs=some (.int w)->c9 fG fs=some vG->c9 fN fs=some vN->LL M vG (ah h w)->aP M vN ss->ss.length=h*w*(h*w)->
  ∃k M',fn [.ref a,.int p] M=.ok (.ref k) M'/\M<+:M'/\M.length<=k/\M'[k]? =some (.lst ((freeOf (ah h w) ss (h*w) (cE h w p)).map .int))):zG (PB.o8 fg fr fn):=by
 intro h w M0 vs ss hh hw hs sh;have sl:=sh.len;have key:∃r M',PB.o8 fg fr fn [.ref M0.length,.int h,.int w,vs] (M0++[.ins a8 []])=.ok r M'/\(r=.ao/\∃n c,M0<+:M'/\cG M' M0.length n c h w ss/\M0.length<n/\M0.length<c):=by
  refine bM rfl ?_;show(aj _ _ [some (.ref M0.length),some (.int h),some (.int w),some vs,none,none] _).Sat _;refine aB (e_ (v:=.ao) (M1:=M0++[.ins a8 []]) ?_ ?_)
  ·simp only[ak,ae,ag,aa,R.bind,aaU,aaR];exact hr h w hh hw _ _ _ (aF.mono hs (pre_app _ _)) sh
  refine aB (rY (v:=.int h) (a:=M0.length) (fs:=[]) (M1:=M0++[.ins a8 []]) (M2:=M0++[.ins a8 []]) rfl rfl (b8 _ _) (by decide) ?_);rw[pF];refine aB (rY (v:=.int w) (a:=M0.length) (fs:=[(fH,.int h)]) (M1:=M0++[.ins a8 [(fH,.int h)]]) (M2:=M0++[.ins a8 [(fH,.int h)]]) rfl rfl (b8 _ _) (by show 1<1000;decide) ?_);rw[pF];obtain⟨vG,M4,e4,⟨J,rfl⟩,hG⟩:=hg h w (M0++[.ins a8 [(fH,.int h),(fW,.int w)]]) hh hw;rw[abZ] at e4 hG;have wz:fg [.int h,.int w] (M0++[.ins a8 [(fH,.int h),(fW,.int w)]])=.ok vG (M0++.ins a8 [(fH,.int h),(fW,.int w)]::J):=e4;have U5:LL (M0++.ins a8 [(fH,.int h),(fW,.int w)]::J) vG (ah h w):=hG;refine aB (rY (v:=vG) (a:=M0.length) (fs:=[(fH,.int h),(fW,.int w)]) (M1:=M0++.ins a8 [(fH,.int h),(fW,.int w)]::J) (M2:=M0++.ins a8 [(fH,.int h),(fW,.int w)]::J) ?_ rfl (fe _ _ _) (by show 2<1000;decide) ?_)
  ·simp only[ak,ae,ag,aa,R.bind,aaU,aaR];exact wz
  rw[nA];generalize oA:M0++O.ins a8 (bU fG vG [(fH,.int h),(fW,.int w)])::J=N3;have p3:M0<+:N3:=by rw[<-oA];exact jQ _ _ _
  have l3:N3.length=M0.length+1+J.length:=by rw[<-oA];simp;omega
  refine aB (rY (v:=.ref N3.length) (a:=M0.length) (fs:=bU fG vG [(fH,.int h),(fW,.int w)]) (M1:=N3++[.lst (ss.map .int)]) (M2:=N3++[.lst (ss.map .int)]) ?_ rfl (aD (pre_app _ _) (by rw[<-oA];exact fe _ _ _)) (by show 3<1000;decide) ?_)
  ·simp only[ak,ae,ag,aa,R.bind,aaU,aaR];exact nk (aF.mono hs p3) (by rw[sl];obtain⟨a1,a2⟩:=jx hh hw;have:=abv a2 a2;omega)
  have e5:(N3++[O.lst (ss.map .int)]).set M0.length (.ins a8 (bU fN (.ref N3.length) (bU fG vG [(fH,.int h),(fW,.int w)])))=M0++.ins a8 (bU fN (.ref N3.length) (bU fG vG [(fH,.int h),(fW,.int w)]))::(J++[.lst (ss.map .int)]):=by rw[<-oA,kI,nA]
  rw[e5];refine aB (rY (v:=.ref (N3.length+1)) (a:=M0.length) (fs:=bU fN (.ref N3.length) (bU fG vG [(fH,.int h),(fW,.int w)])) (M1:=M0++.ins a8 (bU fN (.ref N3.length) (bU fG vG [(fH,.int h),(fW,.int w)]))::(J++[.lst (ss.map .int),.aI []])) (M2:=M0++.ins a8 (bU fN (.ref N3.length) (bU fG vG [(fH,.int h),(fW,.int w)]))::(J++[.lst (ss.map .int),.aI []])) ?_ rfl (fe _ _ _) (by show 4<1000;decide) ?_)
  ·show R.ok (W.ref _) _=_;rw[kI];simp[l3];omega
  rw[nA];have e6:M0++O.ins a8 (bU fC (.ref (N3.length+1)) (bU fN (.ref N3.length) (bU fG vG [(fH,.int h),(fW,.int w)])))::(J++[.lst (ss.map .int),.aI []])=(M0++O.ins a8 (lq h w vG (.ref N3.length) (.ref (N3.length+1)))::J)++.lst (ss.map .int)::.aI []::[]:=by simp[bU]
  rw[e6];generalize oB:M0++O.ins a8 (lq h w vG (.ref N3.length) (.ref (N3.length+1)))::J=N0;have l0:N0.length=N3.length:=by rw[<-oB,l3];simp;omega
  rw[<-l0] at oB;have p0:M0<+:N0:=by rw[<-oB];exact jQ _ _ _
  have mQ:N0[M0.length]? =some (.ins a8 (lq h w vG (.ref N0.length) (.ref (N0.length+1)))):=by
   conv=>lhs;rw[<-oB]
   exact fe _ _ _
  have eX:∀(b:Nat) (ws:List W),(M0++O.ins a8 [(fH,.int h),(fW,.int w)]::J)[b]? =some (.lst ws)->N0[b]? =some (.lst ws):=λb ws e=>by
   by_cases hb:b=M0.length
   ·subst hb;rw[fe] at e;cases e
   ·have e1:(M0++O.ins a8 [(fH,.int h),(fW,.int w)]::J).set M0.length (O.ins a8 (lq h w vG (.ref N0.length) (.ref (N0.length+1))))=N0:=by rw[nA];exact oB
    rw[<-e1,abe (abc hb)];exact e
  have lJ:(M0++O.ins a8 [(fH,.int h),(fW,.int w)]::J).length=N0.length:=by rw[l0,l3];simp;omega
  have HH:∀K:Mem,i9 N0.length (N0++K) vG (ah h w):=λK=>LL.U4 U5 (adu lJ) λb ws e=>aD (pre_app _ _) (eX b ws e)
  obtain⟨b,rfl,hb⟩:=hs;have BQ:∀K:Mem,(N0++K)[b]? =some (.lst (ss.map .int)):=λK=>aD (p0.trans (pre_app _ _)) hb
  refine uQ (aQ:=fV 0 (ss.map .int)) (c:=[(b,.lst (ss.map .int))]) (M1:=N0++.lst (ss.map .int)::.aI []::[]) ?_ (λj σ M'=>(∃x y,σ=[some (.ref M0.length),some (.int h),some (.int w),some (.ref b),x,y])/\∃kvs K,M'=N0++.lst (ss.map .int)::.aI kvs::K/\kvs.length<=j/\(kvs.map (·.1)).Nodup/\
    ∀p:Int,(aW kvs p=none/\¬(gD ss p/\p<(j:Int)))\/∃k,aW kvs p=some (.ref k)/\gD ss p/\p<(j:Int)/\N0.length<k/\(N0++.lst (ss.map .int)::.aI kvs::K)[k]? =some (.lst ((rowOf (ah h w) ss (h*w) p).map .int)))
   ⟨⟨_,_,rfl⟩,[],[],rfl,by simp,by simp,λp=>.inl ⟨rfl,λz=>by have:=z.1.1;have:=z.2;omega⟩⟩ ?_ ?_
  ·show(vA (aa 3)) _ _=_;simp only[vA,aa,R.bind,aaU,aaR,qd,BQ]
  ·rintro j x σ M' hx ⟨⟨x',y',rfl⟩,kvs,K,rfl,hk,j8,hv⟩;obtain⟨w',BO,rfl⟩:=pA _ _ _ _ hx;obtain⟨v,ZS,rfl,BR⟩:=iU BO;have hj:j<ss.length:=(aaZ.mp BR).1;have nj:aq ss (j:Int)=v:=by rw[pV hj];rw[acJ hj] at BR;exact aa2 BR
   refine⟨by simp[b7.ok,BQ],_,_,_,_,uE _ _ _,vD,?_⟩;simp only[aaP,aaQ,Nat.zero_add];generalize hN:N0++O.lst (ss.map .int)::.aI kvs::K=N at hv⊢;have pN:N0<+:N:=by rw[<-hN];exact pre_app _ _
   have nN:N[N0.length]? =some (.lst (ss.map .int)):=by rw[<-hN];exact(gk _ _ _ _).1
   have cN:N[N0.length+1]? =some (.aI kvs):=by rw[<-hN];exact(gk _ _ _ _).2
   refine aM (c:=decide (v=0)) (M1:=N++[.tup [.int (j:Int),.int v]]) ?_ (λhc=>?_) λhc=>?_
   ·exact bu (aY rfl rfl eq_int)
   ·have wA:v=0:=abx hc;have BS:=aD (pN.trans (pre_app N [.tup [.int (j:Int),.int v]])) mQ;obtain⟨k,M2,e2,⟨L,rfl⟩,eJ,HI⟩:=hn (p:=j) hh hw (by rw[<-sl];exact hj) BS rfl rfl rfl rfl (by rw[<-hN,abZ];exact(HH _).ll) ⟨_,rfl,aD (pre_app _ _) nN⟩ sl;rw[MF hh hw (by rw[<-sl];exact hj) (by rw[nj];exact wA)] at HI;have HJ:(N++[O.tup [.int (j:Int),.int v]]++L)[N0.length+1]? =some (.aI kvs):=aD ((pre_app _ _).trans (pre_app _ _)) cN;have Zu:aW kvs (j:Int)=none:=by
     rcases hv (j:Int) with⟨e,_⟩|⟨_,_,_,z,_⟩
     ·exact e
     ·omega
    refine rX (i:=(j:Int)) (v:=.ref k) (a:=N0.length+1) (kvs:=kvs) (M1:=N++[.tup [.int (j:Int),.int v]]++L) (M2:=N++[.tup [.int (j:Int),.int v]]++L) (M3:=N++[.tup [.int (j:Int),.int v]]++L) ?_ ?_ rfl HJ (by have dW:ss.length<=81:=(by rw[sl];obtain⟨a1,a2⟩:=jx hh hw;exact abv a2 a2);omega) ?_
    ·simp only[ji,aa,R.bind,aaU,aaR,nO,uH BS,ae,ag];exact e2
    ·exact dk rfl (aD (pre_app _ _) BS) rfl
    ·refine⟨⟨_,_,rfl⟩,dput kvs (j:Int) (.ref k),K++[.tup [.int (j:Int),.int v]]++L,?_,?_,Dv _ j8,λp=>?_⟩
     ·rw[<-hN];simp only[abZ,ab0,abl];exact rV _ _ _ _ _
     ·have:=uG kvs (j:Int) (.ref k);omega
     ·have hE:N0++O.lst (ss.map .int)::.aI (dput kvs (j:Int) (.ref k))::(K++[.tup [.int (j:Int),.int v]]++L)=(N++[O.tup [.int (j:Int),.int v]]++L).set (N0.length+1) (.aI (dput kvs (j:Int) (.ref k))):=by rw[<-hN];simp only[abZ,ab0,abl];exact(rV _ _ _ _ _).symm
      have mR:∀(k':Nat) (l:List W),(N++[O.tup [.int (j:Int),.int v]]++L)[k']? =some (.lst l)->((N++[O.tup [.int (j:Int),.int v]]++L).set (N0.length+1) (.aI (dput kvs (j:Int) (.ref k))))[k']? =some (.lst l):=λk' l e=>by
       have:k'≠N0.length+1:=by rintro rfl;rw[HJ] at e;cases e
       rw[abe (abc this)];exact e
      rw[pJ,hE];by_cases ep:p=(j:Int)
      ·subst ep;rw[aaN rfl];refine .inr ⟨k,rfl,⟨acW _,by omega,by rw[nj];exact wA⟩,by omega,?_,mR _ _ HI⟩;have:N.length=N0.length+2+K.length:=by rw[<-hN];simp;omega
       simp at eJ;omega
      ·rw[aaO ep];rcases hv p with⟨e,z⟩|⟨k',e,z1,z2,z3,z4⟩
       ·exact .inl ⟨e,λz'=>z ⟨z'.1,by have:=z'.2;omega⟩⟩
       ·exact .inr ⟨k',e,z1,by omega,z3,mR _ _ (aD ((pre_app _ _).trans (pre_app _ _)) z4)⟩
   ·have wA:v≠0:=acT hc;refine⟨⟨_,_,rfl⟩,kvs,K++[.tup [.int (j:Int),.int v]],?_,by omega,j8,λp=>?_⟩
    ·rw[<-hN];simp
    ·have hE:N0++O.lst (ss.map .int)::.aI kvs::(K++[.tup [.int (j:Int),.int v]])=N++[.tup [.int (j:Int),.int v]]:=by rw[<-hN];simp
     rw[hE];rcases hv p with⟨e,z⟩|⟨k',e,z1,z2,z3,z4⟩
     ·refine .inl ⟨e,λz'=>?_⟩;by_cases ep:p=(j:Int)
      ·subst ep;exact wA (by rw[<-nj];exact z'.1.2.2)
      ·exact z ⟨z'.1,by have:=z'.2;omega⟩
     ·exact .inr ⟨k',e,z1,by omega,z3,aD (pre_app _ _) z4⟩
  ·rintro σ M' ⟨⟨x,y,rfl⟩,kvs,K,rfl,hk,j8,hv⟩;refine⟨by simp[b7.ok,BQ],rfl,N0.length,N0.length+1,p0.trans (pre_app _ _),⟨⟨vG,aD (pre_app _ _) mQ,HH _⟩,(gk _ _ _ _).1,kvs,(gk _ _ _ _).2,?_,j8,λp=>?_⟩,?_,?_⟩
   ·rw[pB,aaV] at hk;exact hk
   ·rcases hv p with⟨e,z⟩|⟨k',e,z1,z2,z3,z4⟩
    ·refine .inl ⟨e,λz'=>z ⟨z',?_⟩⟩;rw[pB,aaV];exact z'.2.1
    ·exact .inr ⟨k',e,z1,z3,z4⟩
   ·rw[<-oB];simp
   ·rw[<-oB];simp;omega
 obtain⟨r,M',e,rfl,n,c,q⟩:=key;exact⟨M',n,c,e,q⟩
def uT{M M':Mem}(h:M<+:M'){a:Nat}(ha:M.length<=a)(o:O):M<+:M'.set a o:=by obtain⟨J,rfl⟩:=h;rw[adI _ _ ha];exact pre_app _ _
structure nE(M:Mem)(M':Mem)(kvs:List (Int×W))(F:Int->List Int):Prop where
 pre:M<+:M'
 at_:M'[M.length]? =some (.aI kvs)
 nd:(kvs.map (·.1)).Nodup
 val:∀m,(aW kvs m=none/\F m=[])\/∃k,aW kvs m=some (.ref k)/\F m≠[]/\M.length<k/\M'[k]? =some (.lst ((F m).map .int))
 inj:∀m m' k,aW kvs m=some (.ref k)->aW kvs m'=some (.ref k)->m=m'
def kQ(F:Int->List Int)(n f:Int):Int->List Int:=λm=>if m=n then F m++[f] else F m
def Lp{M M':Mem}{kvs:List (Int×W)}{F:Int->List Int}(I:nE M M' kvs F){σ:St}{n f:Int}(h2:σ[2]? =some (some (.ref M.length)))(h4:σ[4]? =some (some (.int n)))(h3:σ[3]? =some (some (.int f)))(hl:kvs.length<1000)(hF:(F n).length<1000):∃bP GZ,b_ fI (gC i5 (aa 2) (aa 4) (aS (ag))) (ae (aa 3) ag) σ M'=.ok .ao bP/\nE M bP GZ (kQ F n f)/\GZ.length<=kvs.length+1:=by
 have dG:M.length<M'.length:=(aaZ.mp I.at_).1;have hn:br [] M'=.ok (.ref M'.length) (M'++[.lst []]):=b9 (by decide);have BU:(M'++[O.lst []])[M.length]? =some (.aI kvs):=aD (pre_app _ _) I.at_;have ev:gC i5 (aa 2) (aa 4) (aS (ag)) σ M'=i5 (.ref M.length) (.int n) (.ref M'.length) (M'++[.lst []]):=by simp only[gC,aa,h2,h4,R.bind,nr I.at_,aaW,aS,ag,hn]
 rcases I.val n with⟨e,hz⟩|⟨k,e,hz,hk,hL⟩
 ·have wB:i5 (.ref M.length) (.int n) (.ref M'.length) (M'++[.lst []])=.ok (.ref M'.length) ((M'++[O.lst []]).set M.length (O.aI (kvs++[(n,W.ref M'.length)]))):=by simp only[i5,gX BU,e];rw[aaN (by show _<16777216;omega),zD _ e]
  generalize hN:(M'++[O.lst []]).set M.length (O.aI (kvs++[(n,W.ref M'.length)]))=N at wB;have gN:N[M'.length]? =some (.lst []):=by rw[<-hN,abe (by omega)];exact b8 _ _
  have dN:N[M.length]? =some (.aI (kvs++[(n,W.ref M'.length)])):=by rw[<-hN,abr (by simp;omega)]
  have wC:∀(b:Nat) (o:O),b≠M.length->M'[b]? =some o->N[b]? =some o:=λb o hb q=>by rw[<-hN,abe (abc hb)];exact aD (pre_app _ _) q
  have pN:M<+:N:=by rw[<-hN];exact uT (I.pre.trans (pre_app _ _)) (aaY _) _
  refine⟨N.set M'.length (.lst [.int f]),kvs++[(n,W.ref M'.length)],?_,⟨uT pN (by omega) _,?_,Du _ e I.nd,λm=>?_,λm m' k q1 q2=>?_⟩,by simp⟩
  ·simp only[b_,ev,wB,R.bind,fS gN,ae,ag,aa,h3];exact um gN (by decide)
  ·rw[abe (by omega)];exact dN
  ·rw[uo _ _ _ _ e];by_cases em:m=n
   ·subst em;refine .inr ⟨M'.length,aaN rfl,?_,dG,?_⟩
    ·unfold kQ;rw[aaN rfl];simp
    ·rw[abr (aaZ.mp gN).1];unfold kQ;rw[aaN rfl,hz];rfl
   ·rw[aaO em];unfold kQ;rw[aaO em];rcases I.val m with⟨e2,z2⟩|⟨k,e2,z2,k2,L2⟩
    ·exact .inl ⟨e2,z2⟩
    ·refine .inr ⟨k,e2,z2,k2,?_⟩;have:k<M'.length:=(aaZ.mp L2).1;rw[abe (by omega)];exact wC _ _ (by omega) L2
  ·rw[uo _ _ _ _ e] at q1 q2;have mR:∀m,aW kvs m≠some (.ref M'.length):=λm q=>by
    rcases I.val m with⟨e2,_⟩|⟨k,e2,_,_,L2⟩
    ·rw[e2] at q;cases q
    ·rw[e2] at q;cases q;have:M'.length<M'.length:=(aaZ.mp L2).1;omega
   by_cases e1:m=n
   ·by_cases e2:m'=n
    ·rw[e1,e2]
    ·rw[aaN e1] at q1;rw[aaO e2] at q2;cases q1;exact(mR m' q2).elim
   ·by_cases e2:m'=n
    ·rw[aaO e1] at q1;rw[aaN e2] at q2;cases q2;exact(mR m q1).elim
    ·rw[aaO e1] at q1;rw[aaO e2] at q2;exact I.inj m m' k q1 q2
 ·have wB:i5 (.ref M.length) (.int n) (.ref M'.length) (M'++[.lst []])=.ok (.ref k) (M'++[.lst []]):=by simp only[i5,gX BU,e]
  have gN:(M'++[O.lst []])[k]? =some (.lst ((F n).map .int)):=aD (pre_app _ _) hL;have ZT:k<M'.length:=(aaZ.mp hL).1;refine⟨(M'++[O.lst []]).set k (O.lst ((F n).map W.int++[W.int f])),kvs,?_,⟨uT (I.pre.trans (pre_app _ _)) (by omega) _,?_,I.nd,λm=>?_,I.inj⟩,by omega⟩
  ·simp only[b_,ev,wB,R.bind,fS gN,ae,ag,aa,h3];exact um gN (by rw[aaV];omega)
  ·rw[abe (by omega)];exact BU
  ·by_cases em:m=n
   ·subst em;refine .inr ⟨k,e,?_,hk,?_⟩
    ·unfold kQ;rw[aaN rfl];simp
    ·rw[abr (by simp;omega)];unfold kQ;rw[aaN rfl,acI];rfl
   ·unfold kQ;rw[aaO em];rcases I.val m with⟨e2,z2⟩|⟨k2,e2,z2,q2,L2⟩
    ·exact .inl ⟨e2,z2⟩
    ·refine .inr ⟨k2,e2,z2,q2,?_⟩;have:k2≠k:=by rintro rfl;exact em (I.inj m n k2 e2 e)
     rw[abe (abc this)];exact aD (pre_app _ _) L2
def Kb(G:List (List Int))(ss:List Int)(s:Nat)(p:Int):(rowOf G ss s p).Nodup:=by
 have h:(nums s).Nodup:=by unfold nums;rw[aeb,List.pairwise_map];refine List.Pairwise.imp ?_ (aeb.mp List.nodup_range);intro a b h e;have e:(a:Int)+1=(b:Int)+1:=e;omega
 exact List.Nodup.sublist List.filter_sublist h
def Ky(l:List Int)(hn:l.Nodup)(m f:Int):(l.filter (·==m)).map (λ_=>f)=if l.any (·==m) then[f] else[]:=by
 induction l with
 |nil=>rfl
 |cons x r ih=>
  rw[ab'] at hn;have ih:=ih hn.2;rw[ab5,abB];by_cases e:x=m
  ·subst e;have:r.any (·==x)=false:=by
    rw[abH];intro h;obtain⟨y,hy,ey⟩:=aa0.mp h;have:y=x:=by simpa using ey
    exact hn.1 (this▸hy)
   rw[this] at ih;simp only[acK,aaW,aa8,ih,ach];rfl
  ·have:(x==m)=false:=by simpa using e
   simp only[this,abi,aa_,ab4,ih]
def mf{G:List (List Int)}{ss:List Int}{s:Nat}{p:Int}(h0:0<=p)(h1:p<(ss.length:Int)):(tabOf G ss s).getD p.toNat []=rowOf G ss s p:=by
 have hp:p.toNat<ss.length:=by omega
 unfold tabOf;simp[List.getD,hp,Int.toNat_of_nonneg h0]
def Fe{e:EM}{k:Nat}{body:SM}{σ:St}{M M1:Mem}{v:W}{q:ai}(he:e σ M=.ok v M1)(hv:aF M1 v [])(h:q.nx σ M1):(bH (bF e) (ar k) body σ M).Sat q:=
 fb he hv (λj aA M'=>aA=σ/\M'=M1) ⟨rfl,rfl⟩ (λj aA M' _ ⟨_,e⟩=>e▸hv) (λj x aA M' hx _=>by simp at hx) λaA M' ⟨e1,e2⟩=>by rw[e1,e2];exact h
def q_{α:Type}(l:List α)(p:α->Bool)(j:Nat){x:α}(h:l[j]? =some x):(l.take (j+1)).filter p=(l.take j).filter p++if p x then[x] else[]:=by rw[acb,h,adK];cases e:p x<;>simp[e]
def zc(f:CM):Prop:=∀(M:Mem) (a n c h w:Nat) (ss:List Int) (g:Int),1<=h/\h<=3->1<=w/\w<=3->cG M a n c h w ss->bC (h*w) ss->0<=g->g<((ah h w).length:Int)->
 ∃M' kvs,f [.ref a,.int g] M=.ok (.ref M.length) M'/\nE M M' kvs (λm=>bY (ah h w) (tabOf (ah h w) ss (h*w)) g m)/\kvs.length<=81
def zH:zc PB.rL:=by
 intro M a n c h w ss g hh hw S sh g0 g1;have sl:=sh.len;obtain⟨s1,s9⟩:=jx hh hw;obtain⟨⟨vG,ob,eX⟩,hN,kc,hc,wD,j9,i_⟩:=S;have hG:=eX.ll;obtain⟨BP,f_⟩:=iz hh hw _ (getD_mem g0 g1);have key:∃r M',PB.rL [.ref a,.int g] M=.ok r M'/\(r=.ref M.length/\∃kvs,nE M M' kvs (λm=>bY (ah h w) (tabOf (ah h w) ss (h*w)) g m)/\kvs.length<=81):=by
  refine bM rfl ?_;show(aj _ _ [some (.ref a),some (.int g),none,none,none] M).Sat _;refine aB (bL (v:=.ref M.length) (M1:=M++[.aI []]) rfl ?_);simp only[aaP,aaQ];refine aB ?_;obtain⟨wg,ew,U6⟩:=iE (hG.mono (pre_app M [.aI []])) g0 g1;have U7:aP M wg ((ah h w).getD g.toNat []):=by
   obtain⟨w2,e2,qH⟩:=iE hG g0 g1;obtain⟨ws,hL,hA⟩:=hG;simp only[av,hL.bK,(aF.mono hL (pre_app M [.aI []])).bK] at ew e2;cases q:cR ws g with
   |none=>rw[q] at ew;cases ew
   |some z=>rw[q] at ew e2;cases ew;cases e2;exact qH
  generalize oE:(ah h w).getD g.toNat []=gr at*;refine fb (v:=wg) (xs:=gr.map .int) (M1:=M++[O.aI []]) (aY (dk rfl (aD (pre_app _ _) ob) rfl) rfl ew) U6 (λj σ M'=>(∃x y,σ=[some (.ref a),some (.int g),some (.ref M.length),x,y])/\∃kvs,nE M M' kvs (λm=>(gr.take j).filter λp=>(rowOf (ah h w) ss (h*w) p).any (·==m))/\kvs.length<=9*j)
   ⟨⟨_,_,rfl⟩,[],⟨pre_app _ _,b8 _ _,by simp,λm=>.inl ⟨rfl,rfl⟩,λm m' k q=>by cases q⟩,by simp⟩ ?_ ?_ ?_
  ·rintro j σ M' hj ⟨_,kvs,I,_⟩;exact aF.mono U7 I.pre
  ·rintro j x σ M' hx ⟨⟨x',y',rfl⟩,kvs,I,hk⟩;obtain⟨f,hf,rfl,qI⟩:=iU hx;obtain⟨f0,f1⟩:=f_ f hf;have jl:j<gr.length:=(aaZ.mp qI).1;simp only[aaP,aaQ];have wF:f<(ss.length:Int):=by rw[sl];exact f1
   have BV:=aD I.pre ob;have oF:=aD I.pre hc;have sP:br [] M'=.ok (.ref M'.length) (M'++[.lst []]):=b9 (by decide);have j_:=aD (pre_app M' [.lst []]) oF;have ev:gC dO (aZ a8 fC (aa 0)) (aa 3) (aS (ag)) [some (.ref a),some (.int g),some (.ref M.length),some (.int f),y'] M'=.ok ((aW kc f).getD (.ref M'.length)) (M'++[.lst []]):=by have e1:aZ a8 fC (aa 0) [some (.ref a),some (.int g),some (.ref M.length),some (.int f),y'] M'=.ok (.ref c) M':=dk rfl BV rfl;simp only[gC,e1,R.bind,nr oF,aaW,aa,aaU,aaR,aS,ag,sP,dO,gX j_]
   have In:nE M (M'++[.lst []]) kvs (λm=>(gr.take j).filter λp=>(rowOf (ah h w) ss (h*w) p).any (·==m)):=
    ⟨I.pre.trans (pre_app _ _),aD (pre_app _ _) I.at_,I.nd,λm=>by
     rcases I.val m with z|⟨k,q1,q2,q3,q4⟩
     ·exact .inl z
     ·exact .inr ⟨k,q1,q2,q3,aD (pre_app _ _) q4⟩,I.inj⟩
   rcases i_ f with⟨e,hE⟩|⟨k,e,hE,eJ,hL⟩
   ·rw[e] at ev;refine Fe ev ⟨_,rfl,b8 _ _⟩ ⟨⟨_,_,rfl⟩,kvs,?_,by omega⟩;have hz:aq ss f≠0:=λz=>hE ⟨f0,wF,z⟩
    have:(λm=>(gr.take (j+1)).filter λp=>(rowOf (ah h w) ss (h*w) p).any (·==m))=λm=>(gr.take j).filter λp=>(rowOf (ah h w) ss (h*w) p).any (·==m):=by funext m;rw[q_ _ _ _ qI,z_ hz];simp
    rw[this];exact In
   ·rw[e] at ev;refine fb ev ⟨k,rfl,aD In.pre hL⟩ (λi σ bP=>(∃y,σ=[some (.ref a),some (.int g),some (.ref M.length),some (.int f),y])/\∃kvs,nE M bP kvs (λm=>((gr.take j).filter λp=>(rowOf (ah h w) ss (h*w) p).any (·==m))++(((rowOf (ah h w) ss (h*w) f).take i).filter (·==m)).map (λ_=>f))/\kvs.length<=9*j+i)
     ⟨⟨_,rfl⟩,kvs,by simpa using In,by omega⟩ ?_ ?_ ?_
    ·rintro i σ bP hi ⟨_,kvs,I2,_⟩;exact⟨k,rfl,aD I2.pre hL⟩
    ·rintro i x σ bP lr ⟨⟨y,rfl⟩,kvs,I2,qJ⟩;obtain⟨m0,U8,rfl,tG⟩:=iU lr;simp only[aaP,aaQ];have il:i<(rowOf (ah h w) ss (h*w) f).length:=(aaZ.mp tG).1;have rl:=px (ah h w) ss (h*w) f;have fl:(((gr.take j).filter λp=>(rowOf (ah h w) ss (h*w) p).any (·==m0))++(((rowOf (ah h w) ss (h*w) f).take i).filter (·==m0)).map (λ_=>f)).length<1000:=by rw[abb,aaV];have a1:=abK (λp=>(rowOf (ah h w) ss (h*w) p).any (·==m0)) (gr.take j);have a2:=abK (·==m0) ((rowOf (ah h w) ss (h*w) f).take i);rw[acs] at a1 a2;omega
     obtain⟨M3,Ub,e3,I3,l3⟩:=Lp I2 (σ:=[some (.ref a),some (.int g),some (.ref M.length),some (.int f),some (.int m0)]) (n:=m0) (f:=f) rfl rfl rfl (by omega) fl;refine e_ e3 ⟨⟨_,rfl⟩,Ub,?_,by omega⟩;have:kQ (λm=>((gr.take j).filter λp=>(rowOf (ah h w) ss (h*w) p).any (·==m))++(((rowOf (ah h w) ss (h*w) f).take i).filter (·==m)).map (λ_=>f)) m0 f=λm=>((gr.take j).filter λp=>(rowOf (ah h w) ss (h*w) p).any (·==m))++(((rowOf (ah h w) ss (h*w) f).take (i+1)).filter (·==m)).map (λ_=>f):=by
      funext m;unfold kQ;rw[q_ _ _ _ tG];by_cases em:m=m0
      ·subst em;simp
      ·rw[aaO em];have:(m0==m)=false:=by simpa usingλz:m0=m=>em z.symm
       simp[this]
     rw[<-this];exact I3
    ·rintro σ bP ⟨⟨y,rfl⟩,kvs,I2,qJ⟩;have rl:=px (ah h w) ss (h*w) f;rw[aaV] at qJ;refine⟨⟨_,_,rfl⟩,kvs,?_,by omega⟩;have:(λm=>((gr.take j).filter λp=>(rowOf (ah h w) ss (h*w) p).any (·==m))++(((rowOf (ah h w) ss (h*w) f).take ((rowOf (ah h w) ss (h*w) f).map W.int).length).filter (·==m)).map (λ_=>f))=λm=>(gr.take (j+1)).filter λp=>(rowOf (ah h w) ss (h*w) p).any (·==m):=by funext m;rw[q_ _ _ _ qI,aaV,aby,Ky _ (Kb _ _ _ _)]
     rw[<-this];exact I2
  ·rintro σ M' ⟨⟨x,y,rfl⟩,kvs,I,hk⟩;dsimp only;refine aR (v:=.ref M.length) (M1:=M') rfl ⟨rfl,kvs,?_,by rw[aaV] at hk;omega⟩;have:(λm=>(gr.take (gr.map W.int).length).filter λp=>(rowOf (ah h w) ss (h*w) p).any (·==m))=λm=>bY (ah h w) (tabOf (ah h w) ss (h*w)) g m:=by
    funext m;rw[aaV,aby];unfold bY;rw[oE];refine adP λp hp=>?_
    obtain⟨p0,p1⟩:=f_ p hp;rw[mf p0 (by rw[sl];exact p1)]
   rw[<-this];exact I
 obtain⟨r,M',e,rfl,kvs,q⟩:=key;exact⟨M',kvs,e,q⟩
def cG.mono{M M':Mem}{a n c h w:Nat}{ss:List Int}(S:cG M a n c h w ss)(p:M<+:M'):cG M' a n c h w ss:=by
 obtain⟨⟨vG,ob,ws,⟨b,e,hb,q⟩,r⟩,nm,kvs,hc,c1,c2,c3⟩:=S;refine⟨⟨vG,aD p ob,ws,⟨b,e,hb,aD p q⟩,r.imp λw ns ⟨b,e,hb,q⟩=>⟨b,e,hb,aD p q⟩⟩,aD p nm,kvs,aD p hc,c1,c2,λx=>?_⟩;rcases c3 x with z|⟨k,e1,e2,e3,e4⟩
 ·exact .inl z
 ·exact .inr ⟨k,e1,e2,e3,aD p e4⟩
def Ff{M:Mem}{a:Nat}{ws:List W}(h:M[a]? =some (.lst ws)):oEq .ao (.ref a) M=.ok (.bl false) M:=by
 have e1:eG M .ao (.ref a)=none:=by unfold eG;simp only[eE,abi,aa_,bz,cL]
 have e2:qj M .ao (.ref a)=true:=by simp only[qj,iZ,fS h,adb,Bool.and_self]
 simp only[oEq,e1,e2,aaW]
def MG{M:Mem}{a n c h w:Nat}{ss:List Int}(S:cG M a n c h w ss)(g:Int):PB.kF [.ref a,.int g] M=.ok (.bl (decide (0<=g)&&decide (g<((ah h w).length:Int)))) M:=by
 obtain⟨⟨vG,ob,eX⟩,_,_⟩:=S;have e1:ak bx (ae (aZ a8 fG (aa 0)) ag) [some (.ref a),some (.int g)] M=.ok (.int (ah h w).length) M:=by have e0:aZ a8 fG (aa 0) [some (.ref a),some (.int g)] M=.ok vG M:=dk rfl ob rfl;simp only[ak,ae,ag,e0,R.bind,si eX.ll]
 have key:∃r M',PB.kF [.ref a,.int g] M=.ok r M'/\(r=.bl (decide (0<=g)&&decide (g<((ah h w).length:Int)))/\M'=M):=by
  refine bM rfl (aR (M1:=M) (v:=.bl (decide (0<=g)&&decide (g<((ah h w).length:Int)))) ?_ ⟨rfl,rfl⟩);show jR oLe oLt (eC (.int 0)) (aa 1) (ak bx (ae (aZ a8 fG (aa 0)) ag)) [some (.ref a),some (.int g)] M=_;simp only[jR,eC,aa,R.bind,aaU,aaR,le_int];cases decide (0<=g) with
  |true=>simp only[aaW,e1,lt_int,abu]
  |false=>simp only[abi,aa_,abz]
 obtain⟨r,M',e,rfl,rfl⟩:=key;exact e
def lX{ss:List Int}{p:Int}:dI ss p=true↔gD ss p:=by unfold dI gD;simp only[abg,abQ,abG,abP,abD];omega
def Aa{G:List (List Int)}{ss:List Int}{s:Nat}{p m:Int}(h:m∈rowOf G ss s p):aq ss p=0/\1<=m/\m<=(s:Int)/\dZ G ss p m=false:=by unfold rowOf at h;obtain⟨h1,h2⟩:=abR.mp h;obtain⟨k,hk,rfl⟩:=aa7.mp h1;have:=abk.mp hk;simp only[aaT,abD,abg] at h2;exact⟨h2.1,by omega,by omega,h2.2⟩
def Et{G:List (List Int)}{ss:List Int}{s:Nat}{g p m:Int}(g0:0<=g)(g1:g<(G.length:Int))(hp:p∈G.getD g.toNat [])(hm:m∈rowOf G ss s p):d_ G ss g m s=true:=by
 obtain⟨z,m1,m2,hb⟩:=Aa hm;have hg:=getD_mem g0 g1;have key:(G.getD g.toNat []).any (λq=>decide (aq ss q=m))=false:=by
  rw[abH];intro h;obtain⟨q,hq,e⟩:=aa0.mp h;have e':aq ss q=m:=abx e;by_cases HK:q=p
  ·subst HK;omega
  ·have:dZ G ss p m=true:=by unfold dZ iI;refine aa0.mpr ⟨_,hg,?_⟩;rw[aaT,aa0,aa0];exact⟨⟨p,hp,by simp⟩,q,hq,by simp[HK,e']⟩
   rw[hb] at this;cases this
 unfold d_;have hn:((G.getD g.toNat []).map (aq ss)).any (·==m)=false:=by rw[adh,<-key];congr 1
 simp only[hn];simp only[aaT,abg,abQ,abG,Bool.not_false,and_true];omega
def zI(f:CM):Prop:=∀(M:Mem) (a n c h w:Nat) (ss:List Int) (bo:W) (st:b4),1<=h/\h<=3->1<=w/\w<=3->cG M a n c h w ss->bC (h*w) ss->eO M bo st->
 ∃M',f [.ref a,bo] M=.ok (.bl (jT (ah h w) ss (tabOf (ah h w) ss (h*w)) (h*w) st)) M'/\M<+:M'
def Fh{fh:CM}(hH:zc fh):zI (PB.rj PB.kF fh):=by
 intro M a n c h w ss bo st hh hw S sh bq;have key:∃r M',PB.rj PB.kF fh [.ref a,bo] M=.ok r M'/\(r=.bl (jT (ah h w) ss (tabOf (ah h w) ss (h*w)) (h*w) st)/\M<+:M'):=by
  refine bM rfl ?_;show(aj _ _ [some (.ref a),some bo] M).Sat _;have S0:=S;obtain⟨⟨vG,ob,eX⟩,hN,kc,hc,wD,j9,i_⟩:=S0;cases st with
  |fld p m=>
   have i0:af av (aa 1) (eC (.int 0)) [some (.ref a),some bo] M=.ok nG M:=aY rfl rfl (cO bq 0 rfl);have i1:af av (aa 1) (eC (.int 1)) [some (.ref a),some bo] M=.ok (.int p) M:=aY rfl rfl (cO bq 1 rfl);refine aB (aM (c:=true) (M1:=M) (bu (aY i0 rfl (eq_str _ _))) (λ_=>?_) λz=>nomatch z);have e1:aZ a8 fC (aa 0) [some (.ref a),some bo] M=.ok (.ref c) M:=dk rfl ob rfl;have eg:jv (λx y=>dO x y .ao) (aZ a8 fC (aa 0)) (af av (aa 1) (eC (.int 1))) [some (.ref a),some bo] M=.ok ((aW kc p).getD .ao) M:=by simp only[jv,e1,R.bind,nr hc,aaW,i1,dO,gX hc]
   have i2:af av (aa 1) (eC (.int 2)) [some (.ref a),some bo] M=.ok (.int m) M:=aY rfl rfl (cO bq 2 rfl);have el:=uS i2;rw[pj];rcases i_ p with⟨e,hE⟩|⟨k,e,hE,eJ,hL⟩
   ·rw[e] at eg;refine aR (aY eg el (Ff (b8 _ _))) ⟨?_,pre_app _ _⟩;have:dI ss p=false:=by rw[abH];exactλz=>hE (lX.mp z)
    rw[this,abz]
   ·rw[e] at eg;have q:=nB (M:=M++[O.lst [W.int m]]) (u:=.ref k) (v:=.ref M.length) (xs:=rowOf (ah h w) ss (h*w) p) (ys:=[m]) ⟨k,rfl,aD (pre_app _ _) hL⟩ (aF.new M [.int m]);refine aR (aY eg el q) ⟨?_,pre_app _ _⟩;rw[lX.mpr hE,mf hE.1 hE.2.1,abu]
  |di p m g=>
   have i0:af av (aa 1) (eC (.int 0)) [some (.ref a),some bo] M=.ok fK M:=aY rfl rfl (cO bq 0 rfl);have i3:af av (aa 1) (eC (.int 3)) [some (.ref a),some bo] M=.ok (.int g) M:=aY rfl rfl (cO bq 3 rfl);refine aB (aM (c:=false) (M1:=M) (bu (aY i0 rfl (eq_str _ _))) (λz=>nomatch z) λ_=>?_);refine bT ?_;dsimp only;have eI:ak PB.kF (ae (aa 0) (ae (af av (aa 1) (eC (.int 3))) ag)) [some (.ref a),some bo] M=.ok (.bl (decide (0<=g)&&decide (g<((ah h w).length:Int)))) M:=by simp only[ak,ae,ag,i3,aa,R.bind,aaU,aaR,MG S g]
   rw[nh];by_cases hg:0<=g/\g<((ah h w).length:Int)
   ·obtain⟨g0,g1⟩:=hg;rw[abF g0,abF g1] at eI;obtain⟨M1,kvs,e1,I,hk⟩:=hH M a n c h w ss g hh hw S sh g0 g1;have p1:=I.pre;have lp:eO M1 bo (.di p m g):=aT.mono bq p1;have j2:af av (aa 1) (eC (.int 2)) [some (.ref a),some bo] M1=.ok (.int m) M1:=aY rfl rfl (cO lp 2 rfl);have j1:af av (aa 1) (eC (.int 1)) [some (.ref a),some bo] M1=.ok (.int p) M1:=aY rfl rfl (cO lp 1 rfl);have eH:ak fh (ae (aa 0) (ae (af av (aa 1) (eC (.int 3))) ag)) [some (.ref a),some bo] M=.ok (.ref M.length) M1:=by simp only[ak,ae,ag,i3,aa,R.bind,aaU,aaR,e1]
    have eg:jv (λx y=>dO x y .ao) (ak fh (ae (aa 0) (ae (af av (aa 1) (eC (.int 3))) ag))) (af av (aa 1) (eC (.int 2))) [some (.ref a),some bo] M=.ok ((aW kvs m).getD .ao) M1:=by simp only[jv,eH,R.bind,nr I.at_,aaW,j2,dO,gX I.at_]
    have el:=uS j1;have fin:∀{b:Bool},oEq ((aW kvs m).getD .ao) (.ref M1.length) (M1++[.lst [.int p]])=.ok (.bl b) (M1++[.lst [.int p]])->
     dm (ak PB.kF (ae (aa 0) (ae (af av (aa 1) (eC (.int 3))) ag))) (af oEq (jv (λx y=>dO x y .ao) (ak fh (ae (aa 0) (ae (af av (aa 1) (eC (.int 3))) ag))) (af av (aa 1) (eC (.int 2)))) (aS (ae (af av (aa 1) (eC (.int 1))) ag))) [some (.ref a),some bo] M=.ok (.bl b) (M1++[.lst [.int p]]):=λ{b} hb=>by
     have:=aY eg el hb;simp only[dm,eI,R.bind,Bool.and_self,aaW];exact this
    rcases I.val m with⟨e,hz⟩|⟨k,e,hz,eJ,hL⟩
    ·refine aR (fin (b:=false) (by rw[e];exact Ff (b8 _ _))) ⟨?_,p1.trans (pre_app _ _)⟩;have:decide (bY (ah h w) (tabOf (ah h w) ss (h*w)) g m=[p])=false:=abm (by rw[hz];simp);rw[this,abO,abO]
    ·have q:=nB (M:=M1++[O.lst [W.int p]]) (u:=.ref k) (v:=.ref M1.length) (xs:=bY (ah h w) (tabOf (ah h w) ss (h*w)) g m) (ys:=[p]) ⟨k,rfl,aD (pre_app _ _) hL⟩ (aF.new M1 [.int p]);refine aR (fin (by rw[e];exact q)) ⟨?_,p1.trans (pre_app _ _)⟩;congr 1;by_cases hs:bY (ah h w) (tabOf (ah h w) ss (h*w)) g m=[p]
     ·have hp:p∈bY (ah h w) (tabOf (ah h w) ss (h*w)) g m:=by rw[hs];simp
      unfold bY at hp;obtain⟨fA,gR⟩:=abR.mp hp;obtain⟨_,f_⟩:=iz hh hw _ (getD_mem g0 g1);obtain⟨p0,kf⟩:=f_ p fA;have qr:p<(ss.length:Int):=by rw[sh.len];exact kf
      rw[mf p0 qr] at gR;obtain⟨y,hy,ey⟩:=aa0.mp gR;have BW:y=m:=by simpa using ey
      subst BW;rw[abF hs,Et g0 g1 fA hy,lX.mpr ⟨p0,qr,(Aa hy).1⟩];rfl
     ·rw[abm hs,abO,abO]
   ·have hz:(decide (0<=g)&&decide (g<((ah h w).length:Int)))=false:=by rw[abH,Ne,aaT,abD,abD];exact hg
    rw[hz] at eI;refine aR (v:=.bl false) (M1:=M) ?_ ⟨?_,dv _⟩
    ·simp only[dm,eI,R.bind,abi,aa_]
    ·have:d_ (ah h w) ss g m (h*w)=false:=by rw[abH];intro z;obtain⟨z1,z2,_⟩:=pH z;exact hg ⟨z1,z2⟩
     rw[this,abz,abO]
 obtain⟨r,M',e,rfl,q⟩:=key;exact⟨M',e,q⟩
def uq(f:CM):Prop:=∀(h w:Nat) (M:Mem) (vs:W) (ss:List Int),1<=h/\h<=3->1<=w/\w<=3->aP M vs ss->bC (h*w) ss->
 ∃M' n c,f [.int h,.int w,vs] M=.ok (.ref M.length) M'/\M<+:M'/\cG M' M.length n c h w ss/\M.length<n/\M.length<c
def Eu{f:CM}(hf:zG f):uq (PB.zZ f):=by intro h w M vs ss hh hw hs sh;obtain⟨M',n,c,e,q⟩:=hf h w M vs ss hh hw hs sh;refine⟨M',n,c,?_,q⟩;show qF a8 f [.int h,.int w,vs] M=_;simp only[qF,e,R.bind]
def Ew:zG (PB.o8 (PB.rJ PB.m9 PB.mZ PB.m_) PB.o2 (PB.oZ PB.o9)):=
 OH Ll (λh w hh hw M v ns=>Lm h w hh hw M v ns) λhh hw hp ho f1 f2 f3 f4 hG hN hl=>Lo Ax hh hw hp ho f1 f2 f3 f4 hG hN hl
def nil_eq{M:Mem}{σ:St}{e:EM}{w:W}{xs:List Int}(h:e σ M=.ok w M)(hw:aP M w xs):af oEq e (aS ag) σ M=.ok (.bl (decide (xs=[]))) (M++[.lst []]):=
 aY h (show _=R.ok (.ref M.length) (M++[.lst []]) from rfl) (nB (ys:=[]) (aF.mono hw (pre_app _ _)) (aF.new M []))
def Fi(a:Int){n:Nat}(h:0<n):0<=a % (n:Int)/\a % (n:Int)<(n:Int):=⟨acU _ (by omega),acV _ (by omega)⟩
def sb(vG vs vT:W)(cell more:Int)(s:Nat)(x6 x7 x8 x9 lu ly lz lA lB lC:Option W):St:=[some vG,some vs,some vT,some (.int cell),some (.int more),some (.int s),x6,x7,x8,x9,lu,ly,lz,lA,lB,lC]
def qK{h w:Nat}(hh:1<=h/\h<=3)(hw:1<=w/\w<=3):h*w<=9/\1<=h*w/\h*w*(h*w)<=81:=by have a:h*w<=9:=aa1 (abv hh.2 hw.2) (by decide);exact⟨a,adj hh.1 hw.1,aa1 (abv a a) (by decide)⟩
def cU{e:EM}{i:Nat}{b:SM}{σ:St}{M M1:Mem}{v:W}{q:ai}(h1:e σ M=.ok v M1)(h:(b (σ.set i (some v)) M1).Sat q):(aj (aG e (ar i)) b σ M).Sat q:=aB (bL h1 h)
structure Start(h w:Nat)(M0:Mem)(vG vf:W)(fs:List Int)(M:Mem):Prop where
 hh:1<=h/\h<=3
 hw:1<=w/\w<=3
 pre:M0<+:M
 G:LL M vG (ah h w)
 F:aP M vf fs
 fl:fs.length=h*w*(h*w)
 fg:Good (h*w) fs
def Gr(shape at' all full:CM)(k:SM):SM:=aj (
 aG (ak shape (ae (aa 0) ag)) (fm [ar 1,ar 2])) (
 aj (
  aG (af bN (aa 1) (aa 2)) (ar 3)) (
 aj (
  aG (ak all (ae (aa 1) (ae (aa 2) ag))) (ar 4)) (
 aj (
  aG (ak full (ae (aa 1) (ae (aa 2) (ae (ak at' (ae (aa 0) (ae (eC (.int 1)) ag))) ag)))) (ar 5)) k)))
def OI{shape:CM}(BA:DR shape)(rest:St)(M0:Mem)(ns:List Int)(lD:fO M0 ns)(hl:ns.length<=63){k:SM}{q:ai}(H:∀h w vG vf fs M,Start h w M0 vG vf fs M->(k (some (.ref 0)::some (.int h)::some (.int w)::some (.int (h*w:Nat))::some vG::some vf::rest) M).Sat q): (Gr shape iX o4 o5 k (some (.ref 0)::none::none::none::none::none::rest) M0).Sat q:=by
 unfold Gr;obtain⟨v1,M1,e1,p1,h,w,T1,hh,hw⟩:=BA M0 ns lD hl;obtain⟨s9,s1,mO⟩:=qK hh hw;refine aB (pT (v:=v1) (M1:=M1) (M2:=M1) (bj:=some (.ref 0)::some (.int h)::some (.int w)::none::none::none::rest) (by walk_at "ev";exact e1) (by simp only[fm,T1.cL,jU,ar,R.bind,abq,aca,aaW,aaP,aaQ]) ?_);dsimp only;have m1:=dj (M:=M1) (i:=(h:Int)) (j:=(w:Int)) (by omega);have es:(h:Int)*(w:Int)=((h*w:Nat):Int):=by simp
 refine cU (v:=.int ((h:Int)*w)) (M1:=M1) (by walk_at "ev";simp only[m1]) ?_;simp only[aaP,aaQ,es];obtain⟨vG,M2,e2,p2,G2⟩:=JA h w M1 hh hw;refine cU (v:=vG) (M1:=M2) (by walk_at "ev";exact e2) ?_;simp only[aaP,aaQ];have S2:=(lD.mono p1).mono p2;obtain⟨c3,M3,e3,p3⟩:=nP ns M2 1 S2 hl;obtain⟨vf,M4,e4,p4,fs,F4,fl,fg⟩:=Oy h w c3 M3 hh hw;refine cU (v:=vf) (M1:=M4) (by walk_at "ev";simp only[e3,e4]) ?_;simp only[aaP,aaQ];exact H h w vG vf fs M4 ⟨hh,hw,p1.trans (p2.trans (p3.trans p4)),G2.mono (p3.trans p4),F4,fl,fg⟩
def MH{s:Nat}{fs ss:List Int}(fl:fs.length=s*s)(fg:Good s fs)(sl:ss.length=fs.length)(h:∀j:Nat,j<fs.length->(aq ss j=0\/aq ss j=aq fs j)):bC s ss:=by
 have key:∀x∈ss,x=0\/x∈fs:=by
  intro x hx;obtain⟨j,hj,rfl⟩:=adn hx;have:=h j (by omega);rw[pV hj,pV (fs:=fs) (by omega)] at this;rcases this with q|q
  ·exact .inl q
  ·rw[q];exact .inr (acy _)
 refine⟨by omega,λx hx=>?_,λx hx=>?_⟩
 ·rcases key x hx with rfl|q
  ·omega
  ·have:=(fg x q).1;omega
 ·rcases key x hx with rfl|q
  ·omega
  ·exact(fg x q).2
def FU(U9:CM):EM:=ak U9 (ae (aa 5) (ae (f9 (aa 0) (fi (eC (.int 3))) (fi (eC (.int 19)))) (ae (aa 6) ag)))
def Lq(M:Mem)(ns:List Int)(hM:fO M ns)(hl:ns.length<=63){vf:W}{fs:List Int}(F:aP M vf fs){s:Nat}(fl:fs.length=s*s)(dW:s*s<=81)(fg:Good s fs)(x1 x2 x3 x4:Option W)(sh:Int)(rest:St):
 ∃N ss,FU m8 (some (.ref 0)::x1::x2::x3::x4::some vf::some (.int sh)::rest) M=.ok (.ref N.length) (N++.lst (ss.map .int)::[])/\M<+:N/\bC s ss:=by
 have n7:=hM.cut hl (some 3) (some 19);have p7:M<+:M++[.lst ((VM.cut ns (some 3) (some 19)).map .int)]:=pre_app _ _;have L7:aP (M++[.lst ((VM.cut ns (some 3) (some 19)).map .int)]) (.ref M.length) (VM.cut ns (some 3) (some 19)):=aF.new _ _;generalize ZU:M++[O.lst ((VM.cut ns (some 3) (some 19)).map .int)]=M7 at n7 p7 L7;obtain⟨ss,e8,sl,sb⟩:=Sx M7 vf (.ref M.length) fs _ sh (aF.mono F p7) L7 (by omega);refine⟨M7,ss,?_,p7,MH fl fg sl sb⟩;unfold FU
 walk_at "ev"
 simp only[f9,fi,R.bind,aa,eC,aaR,n7,e8]
def bC.set{s:Nat}{ts:List Int}(h:bC s ts)(i:Nat){x:Int}(h0:0<=x)(h1:x<=s):bC s (ts.set i x) where
 len:=by rw[abN];exact h.len
 lo:=λy hy=>by
  rcases acY hy with q|q
  ·exact h.lo y q
  ·rw[q];exact h0
 hi:=λy hy=>by
  rcases acY hy with q|q
  ·exact h.hi y q
  ·rw[q];exact h1
def QM{σ:St}{N J:Mem}{ts:List Int}{i x:Int}{o ie:EM}(ho:o σ (N++.lst (ts.map .int)::J)=.ok (.ref N.length) (N++.lst (ts.map .int)::J))(hi:ie σ (N++.lst (ts.map .int)::J)=.ok (.int i) (N++.lst (ts.map .int)::J))(h0:0<=i)(h1:i<(ts.length:Int)):eQ o ie (.int x) σ (N++.lst (ts.map .int)::J)=.ok σ (N++.lst ((ts.set i.toNat x).map .int)::J):=by
 have hx:cK (ts.map W.int).length i=some i.toNat:=by unfold cK;rw[aaN h0,aaV,aaN h1]
 unfold eQ;simp only[ho,hi,R.bind,gW (fe N J _),hx,nA,adk]
def Ex{h w:Nat}:(ah h w).length=3*(h*w):=by unfold ah;simp;omega
def MI(G:List (List Int))(ss:List Int)(s:Nat)(hs:s<=9):∀r∈tabOf G ss s,r.length<=9:=by intro r hr;obtain⟨p,_,rfl⟩:=aa7.mp hr;exact aa1 (px _ _ _ _) hs
def iw(G:List (List Int))(ss:List Int)(s:Nat):(tabOf G ss s).length=ss.length:=by simp[tabOf]
def same_ints(M:Mem)(a b:W)(xs:List Int)(ha:aP M a xs)(hb:aP M b xs)(hl:xs.length<=81):∃M',jM cZ [a,b] M=.ok (.bl true) M'/\M<+:M':=by obtain⟨p,rfl,hp⟩:=ha;obtain⟨q,rfl,hq⟩:=hb;refine Fb M _ _ (0+(xs.map W.int).length+1) (Wk.seq (ls:=[]) (rs:=[]) hp hq rfl (Wk.AN Wk.nil _ (pw xs))) ?_;rw[aaV];omega
inductive eV where
 |fld (p:Int)
 |di (g n:Int)
 |kj (g n:Int)
 deriving DecidableEq
abbrev mj:W:=.str [116,119,105,99,101]
def eV.ws:eV->List W
 |.fld p=>[nG,.int p]
 |.di g n=>[fK,.int g,.int n]
 |.kj g n=>[mj,.int g,.int n]
def gL(M:Mem)(v:W)(c:eV):Prop:=aT M v c.ws
def dJ(G:List (List Int))(ss:List Int)(T:List (List Int))(s:Nat):eV->Bool
 |.fld p=>dI ss p&&decide (T.getD p.toNat []=[])
 |.di g n=>d_ G ss g n s&&decide (bY G T g n=[])
 |.kj g n=>!(decide (g<0)||(decide ((G.length:Int)<=g)||decide (n<1)))&&decide (1<cnt n ((G.getD g.toNat []).map (aq ss)))
def ud(G:List (List Int))(ss:List Int)(T:List (List Int))(s:Nat)(p:Int):dJ G ss T s (.fld p)=(dI ss p&&decide (T.getD p.toNat []=[])):=rfl
def ue(G:List (List Int))(ss:List Int)(T:List (List Int))(s:Nat)(g n:Int):dJ G ss T s (.di g n)=(d_ G ss g n s&&decide (bY G T g n=[])):=rfl
def uf(G:List (List Int))(ss:List Int)(T:List (List Int))(s:Nat)(g n:Int):dJ G ss T s (.kj g n)=(!(decide (g<0)||(decide ((G.length:Int)<=g)||decide (n<1)))&&decide (1<cnt n ((G.getD g.toNat []).map (aq ss)))):=rfl
def Kz{σ:St}{M:Mem}{vs:W}{ss:List Int}{p:Int}(i j:Nat)(hs:aP M vs ss)(ei:aa i σ=λM=>.ok vs M)(ej:aa j σ=λM=>.ok (.int p) M):
 bZ (tB (af oLt (aa j) (eC (.int 0)))) (bZ (tB (af ju (aa j) (ak bx (ae (aa i) ag)))) (tB (af bV (af av (aa i) (aa j)) (eC (.int 0))))) σ M=.ok (!dI ss p) M:=by
 unfold dI;rw[Bool.not_not];unfold bZ;have t1:tB (af oLt (aa j) (eC (.int 0))) σ M=.ok (decide (p<0)) M:=bu (aY (x:=.int p) (y:=.int 0) (M1:=M) (M2:=M) (by rw[ej]) rfl lt_int);have t2:tB (af ju (aa j) (ak bx (ae (aa i) ag))) σ M=.ok (decide ((ss.length:Int)<=p)) M:=bu (aY (x:=.int p) (y:=.int ss.length) (M1:=M) (M2:=M) (by rw[ej]) (by unfold ak ae ag;rw[ei];simp only[R.bind,jS hs]) ge_int);rw[t1];simp only[R.bind];rw[t2];by_cases c1:p<0
 ·simp[c1]
 ·by_cases c2:(ss.length:Int)<=p
  ·simp[c1,c2]
  ·have t3:tB (af bV (af av (aa i) (aa j)) (eC (.int 0))) σ M=.ok (!decide (aq ss p=0)) M:=bu (aY (x:=.int (aq ss p)) (y:=.int 0) (M1:=M) (M2:=M) (aY (x:=vs) (y:=.int p) (M1:=M) (M2:=M) (by rw[ei]) (by rw[ej]) (eA hs (by omega) (by omega))) rfl ne_int);simp only[c1,c2,acz,abi,aa_,ab4];exact t3
def jk{σ:St}{M:Mem}{v:W}{ws:List W}{x:W}(i:Nat)(k:Int)(h:aT M v ws)(ei:aa i σ=λM=>.ok v M)(hx:ws[k.toNat]? =some x)(hk:0<=k:=by decide):af av (aa i) (eC (.int k)) σ M=.ok x M:=by refine aY (x:=v) (y:=.int k) (M1:=M) (M2:=M) (by rw[ei]) rfl ?_;have:=cO h k.toNat hx;rw[show((k.toNat:Nat):Int)=k by omega] at this;exact this
def fF{t:TM}{σ:St}{M M1:Mem}{b:Bool}(h:t σ M=.ok b M1):b6 t σ M=.ok (!b) M1:=by unfold b6;rw[h];rfl
def jN{σ:St}{M:Mem}{v:W}{ws:List W}{a:List Nat}(i:Nat)(b:List Nat)(h:aT M v ws)(ei:aa i σ=λM=>.ok v M)(hx:ws[0]? =some (.str a)):af oEq (af av (aa i) (eC (.int 0))) (eC (.str b)) σ M=.ok (.bl (decide (a=b))) M:=
 aY (x:=.str a) (y:=.str b) (M1:=M) (M2:=M) (jk i 0 h ei hx) rfl (eq_str a b)
def mv{f:CM}{a b c d e:EM}{σ:St}{M:Mem}{x y z u v:W}{r:R W}(ha:a σ M=.ok x M)(hb:b σ M=.ok y M)(hc:c σ M=.ok z M)(hd:d σ M=.ok u M)(he:e σ M=.ok v M)(h:f [x,y,z,u,v] M=r):
 ak f (ae a (ae b (ae c (ae d (ae e ag))))) σ M=r:=by
 unfold ak ae ag;simp only[ha,hb,hc,hd,he,R.bind,h]
def qf{f:CM}{a b c d:EM}{σ:St}{M:Mem}{x y z u:W}{r:R W}(ha:a σ M=.ok x M)(hb:b σ M=.ok y M)(hc:c σ M=.ok z M)(hd:d σ M=.ok u M)(h:f [x,y,z,u] M=r):
 ak f (ae a (ae b (ae c (ae d ag)))) σ M=r:=by
 unfold ak ae ag;simp only[ha,hb,hc,hd,R.bind,h]
def mem_getD{G:List (List Int)}{g:Int}(h0:0<=g)(h1:g<(G.length:Int)):G.getD g.toNat []∈G:=by
 have:g.toNat<G.length:=by omega
 simp[List.getD,this]
def MJ{σ:St}{M:Mem}{vg vf:W}{g fs:List Int}(e:EM)(ef:EM)(k:Nat)(he:e σ M=.ok vg M)(hg:aP M vg g)(hf:aP M vf fs)(a7:∀i∈g,0<=i/\i<(fs.length:Int))(hl:g.length<=1000)(wu:∀x,ef ((du [k] (σ++List.replicate 0 none)).set k (some x)) M=.ok vf M)(hk:∀x,aa k ((du [k] (σ++List.replicate 0 none)).set k (some x)) M=.ok x M):
 b5 0 [k] (bF e) (ar k) dD (af av ef (aa k)) σ M=.ok (.ref M.length) (M++[.lst ((g.map (aq fs)).map .int)]):=by
 obtain⟨a,rfl,ha⟩:=hg;unfold b5;have hi:bF e σ M=.ok ((g.map W.int).map .val,[(a,.lst (g.map .int))]) M:=by unfold bF;rw[he];simp only[R.bind,ha]
 rw[hi];simp only[R.bind];generalize du [k] (σ++List.replicate 0 none)=aA at wu hk;rw[jd (σ:=aA) (λ_=>true) (λx=>match x with|.int i=>.int (aq fs i)|_=>.ao) _ _ _ (λ_=>rfl) (by simp[b7.ok,ha]) ?_]
 ·simp only[filter_tt,abl,acw];exact b9 (by simp;omega)
 ·intro x hx;obtain⟨i,ow,rfl⟩:=aa7.mp hx;obtain⟨h1,h2⟩:=a7 i ow;refine⟨rfl,λ_=>?_⟩;simp only[af,wu,hk,R.bind];exact eA hf h1 h2
def DX(f:CM):Prop:=∀(M:Mem) (vG vs vT vc:W) (G:List (List Int)) (ss:List Int) (T:List (List Int)) (s:Nat) (c:eV),LL M vG G->aP M vs ss->LL M vT T->gL M vc c->T.length=ss.length->(∀g∈G,g.length<=9/\∀i∈g,0<=i/\i<(ss.length:Int))->
 ∃M',f [vG,vs,vT,vc,.int s] M=.ok (.bl (dJ G ss T s c)) M'/\M<+:M'
def uJ:DX (jL eM eN):=by
 intro M vG vs vT vc G ss T s c hG hs hT hc hl a7;have key:∃r M',jL eM eN [vG,vs,vT,vc,.int s] M=.ok r M'/\(r=.bl (dJ G ss T s c)/\M<+:M'):=by
  refine bM rfl ?_;show(aj _ _ [some vG,some vs,some vT,some vc,some (.int s),none] M).Sat _;cases c with
  |fld p=>
   refine aB (aM (c:=true) (M1:=M) (bu (jN 3 _ hc rfl rfl)) (λ_=>?_) λz=>nomatch z);refine aB (bL (v:=.int p) (M1:=M) (jk 3 1 hc rfl rfl) ?_);simp only[aaP,aaQ];refine aB (aM (Kz 1 5 hs rfl rfl) (λhn=>?_) λhn=>?_)
   ·refine aR rfl ⟨?_,dv _⟩;rw[abg] at hn;rw[ud,hn,abz]
   ·refine bT ?_;dsimp only;rw[abP] at hn;have ic:=hn;unfold dI at ic;simp only[abg,abQ,abG,abP,abj] at ic;obtain⟨c1,c2,c3⟩:=ic;obtain⟨w,hw,dS⟩:=iE hT (i:=p) (by omega) (by omega);refine aR (nil_eq (w:=w) (aY (x:=vT) (y:=.int p) (M1:=M) (M2:=M) rfl rfl hw) dS) ⟨?_,pre_app _ _⟩;rw[ud,hn,abu]
  |di g n=>
   refine aB (aM (c:=false) (M1:=M) (bu (jN 3 _ hc rfl rfl)) (λz=>nomatch z) λ_=>?_);refine bT ?_;dsimp only;refine aB (aM (c:=true) (M1:=M) (bu (jN 3 _ hc rfl rfl)) (λ_=>?_) λz=>nomatch z);obtain⟨M1,l1,p1⟩:=zB M vG vs G ss g n s hG hs a7;refine aB (aM (c:=!d_ G ss g n s) (M1:=M1) ?_ (λfQ=>?_) λfQ=>?_)
   ·exact fF (bu (mv rfl rfl (jk 3 1 hc rfl rfl) (jk 3 2 hc rfl rfl) rfl l1))
   ·refine aR rfl ⟨?_,p1⟩;rw[abg] at fQ;rw[ue,fQ,abz]
   ·refine bT ?_;dsimp only;rw[abP] at fQ;obtain⟨g0,g1,n0,n1⟩:=pH fQ;have hm:=mem_getD g0 g1;have sp:=zA M1 vG vT G T g n (hG.mono p1) (hT.mono p1) g0 g1 (λi hi=>by rw[hl];exact(a7 _ hm).2 i hi) (a7 _ hm).1;have c1:=hc.mono p1;have L1:aP (M1++[.lst ((bY G T g n).map .int)]) (.ref M1.length) (bY G T g n):=aF.new _ _;refine aR (v:=.bl (decide (bY G T g n=[]))) (M1:=M1++[.lst ((bY G T g n).map .int)]++[.lst []]) ?_ ⟨?_,p1.trans ((pre_app _ _).trans (pre_app _ _))⟩
    ·exact aY (qf rfl rfl (jk 3 1 c1 rfl rfl) (jk 3 2 c1 rfl rfl) sp) (show _=R.ok (.ref _) _ from rfl) (nB (ys:=[]) (aF.mono L1 (pre_app _ _)) (aF.new _ []))
    ·rw[ue,fQ,abu]
  |kj g n=>
   refine aB (aM (c:=false) (M1:=M) (bu (jN 3 _ hc rfl rfl)) (λz=>nomatch z) λ_=>?_);refine bT ?_;dsimp only;refine aB (aM (c:=false) (M1:=M) (bu (jN 3 _ hc rfl rfl)) (λz=>nomatch z) λ_=>?_);refine bT ?_;dsimp only;have i1:∀σ:St,aa 3 σ=(λM=>.ok vc M)->af av (aa 3) (eC (.int 1)) σ M=.ok (.int g) M:=λσ e=>jk 3 1 hc e rfl
   have i2:∀σ:St,aa 3 σ=(λM=>.ok vc M)->af av (aa 3) (eC (.int 2)) σ M=.ok (.int n) M:=λσ e=>jk 3 2 hc e rfl
   refine aB (aM (c:=decide (g<0)||(decide ((G.length:Int)<=g)||decide (n<1))) (M1:=M) ?_ (λhn=>?_) λhn=>?_)
   ·unfold bZ;rw[bu (aY (y:=.int 0) (M2:=M) (i1 _ rfl) rfl lt_int)];simp only[R.bind];rw[bu (aY (y:=.int G.length) (M2:=M) (i1 _ rfl) (by walk_at "ev";exact si hG) ge_int)];simp only[R.bind];rw[bu (aY (y:=.int 1) (M2:=M) (i2 _ rfl) rfl lt_int)];cases decide (g<0)<;>cases decide ((G.length:Int)<=g)<;>cases decide (n<1)<;>rfl
   ·refine aR rfl ⟨?_,dv _⟩;rw[uf,hn];rfl
   ·refine bT ?_;dsimp only;have ic:=hn;simp only[abQ,abG] at ic;obtain⟨w,hw,eW⟩:=iE hG (i:=g) (by omega) (by omega);have hm:=mem_getD (G:=G) (g:=g) (by omega) (by omega);have e:=MJ (σ:=[some vG,some vs,some vT,some vc,some (.int s),none]) (af av (aa 0) (af av (aa 3) (eC (.int 1)))) (aa 1) 5 (M:=M) (vg:=w) (vf:=vs) (aY (x:=vG) (y:=.int g) (M1:=M) (M2:=M) rfl (i1 _ rfl) hw) eW hs (a7 _ hm).2 (by have:=(a7 _ hm).1;omega) (λ_=>rfl) (λ_=>rfl);have L:aP (M++[.lst (((G.getD g.toNat []).map (aq ss)).map .int)]) (.ref M.length) ((G.getD g.toNat []).map (aq ss)):=aF.new _ _;have U_:=jk (σ:=[some vG,some vs,some vT,some vc,some (.int s),none]) 3 2 (hc.mono (pre_app M [.lst (((G.getD g.toNat []).map (aq ss)).map .int)])) rfl rfl;refine aR (v:=.bl (decide (1<cnt n ((G.getD g.toNat []).map (aq ss))))) (M1:=M++[.lst (((G.getD g.toNat []).map (aq ss)).map .int)]) ?_ ⟨?_,pre_app _ _⟩
    ·refine aY (x:=.int (cnt n ((G.getD g.toNat []).map (aq ss)))) (y:=.int 1) (M1:=M++[.lst (((G.getD g.toNat []).map (aq ss)).map .int)]) (M2:=M++[.lst (((G.getD g.toNat []).map (aq ss)).map .int)]) ?_ rfl ?_
     ·unfold b_;rw[e];simp only[R.bind,aF.bz L];unfold ae ag;rw[U_];simp only[R.bind];exact zy n L
     ·rw[gt_int];congr 2;rw[abw,abj,abj];omega
    ·rw[uf,hn];rfl
 obtain⟨r,M',e,rfl,p⟩:=key;exact⟨M',e,p⟩
def pY(G:List (List Int))(ss:List Int)(T:List (List Int))(s:Nat)(g k:Nat):Bool:=d_ G ss (g:Int) ((k:Int)+1) s&&decide ((bY G T (g:Int) ((k:Int)+1)).length=1)
def gK(G:List (List Int))(ss:List Int)(T:List (List Int))(s:Nat):Bool:=
 (List.range ss.length).any (λ(p:Nat)=>decide ((T.getD p []).length=1))||(List.range G.length).any λg=>(List.range s).any λk=>pY G ss T s g k
def Ab(G:List (List Int))(ss:List Int)(T:List (List Int))(s:Nat)(g k:Nat):Bool:=dJ G ss T s (.di (g:Int) ((k:Int)+1))
def dH(G:List (List Int))(ss:List Int)(T:List (List Int))(s:Nat):Bool:=
 (List.range ss.length).any (λ(p:Nat)=>decide (aq ss p=0)&&decide (T.getD p []=[]))||(List.range G.length).any λg=>(List.range s).any λk=>Ab G ss T s g k
section
variable{M:Mem}{vG vs vT:W}{G:List (List Int)}{ss:List Int}{T:List (List Int)}{s:Nat}
def uU{σ:St}{M M1:Mem}{e:EM}{v:W}{xs:List Int}(h:e σ M=.ok v M1)(hv:aP M1 v xs):ak bx (ae e ag) σ M=.ok (.int xs.length) M1:=by unfold ak ae ag;rw[h];simp only[R.bind];exact jS hv
def Ac{σ:St}{M:Mem}{v:W}{xs:List Int}(i:Nat)(hv:aP M v xs)(ei:aa i σ=λM=>.ok v M)(hl:xs.length<=1000):cg (ak bx (ae (aa i) ag)) σ M=.ok (cJ 0 xs.length,[]) M:=by have r1:(xs.length:Int).natAbs<bJ:=dc (by omega) (by omega);unfold cg;rw[uU (M1:=M) (by rw[ei]) hv];simp only[R.bind];rw[aaN r1,abf]
def MK{σ:St}{M:Mem}{v:W}{xs:List (List Int)}(i:Nat)(hv:LL M v xs)(ei:aa i σ=λM=>.ok v M)(hl:xs.length<=1000):cg (ak bx (ae (aa i) ag)) σ M=.ok (cJ 0 xs.length,[]) M:=by have r1:(xs.length:Int).natAbs<bJ:=dc (by omega) (by omega);unfold cg ak ae ag;rw[ei];simp only[R.bind,si hv];rw[aaN r1,abf]
def ML{σ:St}{M:Mem}{s:Nat}(i:Nat)(ei:aa i σ=λM=>.ok (.int s) M)(hs:s<=9):dM (eC (.int 1)) (af bp (aa i) (eC (.int 1))) σ M=.ok (cJ 1 s,[]) M:=by
 have r2:(1:Int).natAbs<bJ/\((s:Int)+1).natAbs<bJ:=⟨dc (by omega) (by omega),dc (by omega) (by omega)⟩;have n2:((s:Int)+1-1).toNat=s:=by omega
 unfold dM;have e:af bp (aa i) (eC (.int 1)) σ M=.ok (.int ((s:Int)+1)) M:=aY (x:=.int s) (y:=.int 1) (M1:=M) (M2:=M) (by rw[ei]) rfl rfl;show((af bp (aa i) (eC (.int 1)) σ M).bind _)=_;rw[e];simp only[R.bind];rw[aaN r2,n2]
def DY{q:ai}{M0 M:Mem}{σ:St}{body:SM}(ps:Nat->Nat->Bool)(F:St->Mem->Prop)(Q:W->Mem->Prop)(hG:LL M0 vG G)(BX:G.length<=1000)(dz:s<=9)(hF:∀σ M,F σ M->M0<+:M/\aa 0 σ=(λM=>.ok vG M))(Va:∀σ M x,F σ M->F (σ.set 5 (some x)) M/\aa 3 (σ.set 5 (some x))=λM=>.ok (.int s) M)(h0:F σ M)(ho:∀σ M j,F σ M->∀x,x=(σ.set 5 (some (.int (0+(j:Int)))))->F x M)(hs:∀(j k:Nat) σ M,j<G.length->k<s->F σ M->σ[5]? =some (some (.int (0+(j:Int))))->(body (σ.set 6 (some (.int (1+(k:Int))))) M).Sat {nx:=λσ M=>F σ M/\σ[5]? =some (some (.int (0+(j:Int))))/\ps j k=false,ct:=λσ M=>F σ M/\σ[5]? =some (some (.int (0+(j:Int))))/\ps j k=false,rt:=λv M=>ps j k=true/\Q v M})(Vb:∀σ M,F σ M->5<σ.length)(hn:∀σ M,F σ M->((List.range G.length).any λg=>(List.range s).any λk=>ps g k)=false->q.nx σ M)(hr:∀v M,Q v M->((List.range G.length).any λg=>(List.range s).any λk=>ps g k)=true->q.rt v M): (bH (cg (ak bx (ae (aa 0) ag))) (ar 5) (bH (dM (eC (.int 1)) (af bp (aa 3) (eC (.int 1)))) (ar 6) body) σ M).Sat q:=by
 refine t7 (lo:=0) (n:=G.length) (M1:=M) (MK 0 (hG.mono (hF σ M h0).1) (hF σ M h0).2 BX) F (λg=>(List.range s).any λk=>ps g k) Q h0 ?_ hn hr;intro j σ M hj hf;obtain⟨f5,e3⟩:=Va σ M (.int (0+(j:Int))) hf;have g5:(σ.set 5 (some (.int (0+(j:Int)))))[5]? =some (some (.int (0+(j:Int)))):=by rw[abr (Vb σ M hf)]
 refine t7 (lo:=1) (n:=s) (M1:=M) (ML 3 e3 dz) (λσ M=>F σ M/\σ[5]? =some (some (.int (0+(j:Int))))) (λk=>ps j k) Q ⟨f5,g5⟩ ?_ ?_ ?_
 ·rintro k σ M hk ⟨hf,hg⟩;refine RS.Sat.mono (hs j k σ M hj hk hf hg) (λσ M h=>⟨⟨h.1,h.2.1⟩,h.2.2⟩) (λv M h=>h) (λ_ _ z=>z) (λσ M h=>⟨⟨h.1,h.2.1⟩,h.2.2⟩)
 ·rintro σ M ⟨hf,_⟩ ha;exact⟨hf,ha⟩
 ·intro v M hq ha;exact⟨ha,hq⟩
def FF(vG vs vT:W)(s:Nat)(M0:Mem)(σ:St)(M:Mem):Prop:=(∃x y z,σ=[some vG,some vs,some vT,some (.int s),x,y,z])/\M0<+:M
def Kc(M:Mem)(vG vs vT:W)(G:List (List Int))(ss:List Int)(T:List (List Int))(s:Nat)(hG:LL M vG G)(hs:aP M vs ss)(hT:LL M vT T)(hl:T.length=ss.length)(a7:∀g∈G,g.length<=9/\∀i∈g,0<=i/\i<(ss.length:Int))(dW:ss.length<=81)(BX:G.length<=27)(dz:s<=9):
 ∃M',m7 eM eN [vG,vs,vT,.int s] M=.ok (.bl (gK G ss T s)) M'/\M<+:M':=by
 have key:∃r M',m7 eM eN [vG,vs,vT,.int s] M=.ok r M'/\(r=.bl (gK G ss T s)/\M<+:M'):=by
  refine bM rfl ?_;show(aj _ _ [some vG,some vs,some vT,some (.int s),none,none,none] M).Sat _;refine aB ?_;refine t7 (lo:=0) (n:=ss.length) (M1:=M) (Ac 1 hs rfl (by omega)) (FF vG vs vT s M) (λ(p:Nat)=>decide ((T.getD p []).length=1)) (λv M'=>v=.bl true/\M<+:M') ⟨⟨_,_,_,rfl⟩,dv _⟩ ?_ ?_ ?_
  ·rintro j σ M' hj ⟨⟨x,y,z,rfl⟩,p⟩;simp only[aaP,aaQ];have ez:(0:Int)+(j:Int)=(j:Int):=by omega
   rw[ez];obtain⟨w,hw,dS⟩:=iE (hT.mono p) (i:=(j:Int)) (by omega) (by omega);rw[abf] at dS;refine aM (c:=decide ((T.getD j []).length=1)) (M1:=M') ?_ (λhc=>?_) λhc=>?_
   ·refine bu (aY (x:=.int (T.getD j []).length) (y:=.int 1) (M1:=M') (M2:=M') (uU (aY (x:=vT) (y:=.int j) (M1:=M') (M2:=M') rfl rfl hw) dS) rfl ?_);rw[eq_int];congr 2;rw[abw,abj,abj];omega
   ·exact aR rfl ⟨hc,rfl,p⟩
   ·exact⟨⟨⟨_,_,_,rfl⟩,p⟩,hc⟩
  ·rintro σ M' ⟨⟨x,y,z,rfl⟩,p⟩ ha;dsimp only;refine aB ?_;refine DY (vG:=vG) (G:=G) (s:=s) (λg k=>pY G ss T s g k) (FF vG vs vT s M) (λv M'=>v=.bl true/\M<+:M') hG (by omega) dz ?_ ?_ ⟨⟨_,_,_,rfl⟩,p⟩ ?_ ?_ ?_ ?_ ?_
   ·rintro σ N ⟨⟨x,y,z,rfl⟩,q⟩;exact⟨q,rfl⟩
   ·rintro σ N u ⟨⟨x,y,z,rfl⟩,q⟩;exact⟨⟨⟨_,_,_,rfl⟩,q⟩,rfl⟩
   ·rintro σ N j ⟨⟨x,y,z,rfl⟩,q⟩ _ rfl;exact⟨⟨_,_,_,rfl⟩,q⟩
   ·rintro j k σ N hj hk ⟨⟨x,y,z,rfl⟩,q⟩ h5;have ey:y=some (.int (0+(j:Int))):=aa2 h5;subst ey;simp only[aaP,aaQ];have ez:(0:Int)+(j:Int)=(j:Int):=by omega
    have ek:(1:Int)+(k:Int)=(k:Int)+1:=by omega
    rw[ez,ek];obtain⟨N1,l1,q1⟩:=zB N vG vs G ss j ((k:Int)+1) s (hG.mono q) (aF.mono hs q) a7;refine aM (c:=d_ G ss (j:Int) ((k:Int)+1) s) (M1:=N1) (bu (mv rfl rfl rfl rfl rfl l1)) (λhc=>?_) λhc=>?_
    ·have Q1:=q.trans q1;obtain⟨g0,g1,n0,n1⟩:=pH hc;have hm:=mem_getD g0 g1;have sp:=zA N1 vG vT G T j ((k:Int)+1) (hG.mono Q1) (hT.mono Q1) g0 g1 (λi hi=>by rw[hl];exact(a7 _ hm).2 i hi) (a7 _ hm).1;have L1:aP (N1++[.lst ((bY G T (j:Int) ((k:Int)+1)).map .int)]) (.ref N1.length) (bY G T (j:Int) ((k:Int)+1)):=aF.new _ _;refine aM (c:=decide ((bY G T (j:Int) ((k:Int)+1)).length=1)) (M1:=N1++[.lst ((bY G T (j:Int) ((k:Int)+1)).map .int)]) ?_ (λfP=>?_) λfP=>?_
     ·refine bu (aY (y:=.int 1) (uU (qf rfl rfl rfl rfl sp) L1) rfl ?_);rw[eq_int];congr 2;rw[abw,abj,abj];omega
     ·exact aR rfl ⟨by unfold pY;rw[hc,fP];rfl,rfl,Q1.trans (pre_app _ _)⟩
     ·exact⟨⟨⟨_,_,_,rfl⟩,Q1.trans (pre_app _ _)⟩,rfl,by unfold pY;rw[fP,abO]⟩
    ·exact⟨⟨⟨_,_,_,rfl⟩,q.trans q1⟩,rfl,by unfold pY;rw[hc,abz]⟩
   ·rintro σ N ⟨⟨x,y,z,rfl⟩,q⟩;show 5<7;decide
   ·rintro σ N ⟨⟨x,y,z,rfl⟩,q⟩ hb;dsimp only;refine aR rfl ⟨?_,q⟩;unfold gK;rw[ha,hb];rfl
   ·rintro v N ⟨rfl,q⟩ hb;refine⟨?_,q⟩;unfold gK;rw[hb,adQ]
  ·rintro v M' ⟨rfl,q⟩ ha;refine⟨?_,q⟩;unfold gK;rw[ha,ach]
 obtain⟨r,M',e,rfl,p⟩:=key;exact⟨M',e,p⟩
def zJ{a b c:EM}{σ:St}{M:Mem}{x y z:W}(ha:a σ M=.ok x M)(hb:b σ M=.ok y M)(hc:c σ M=.ok z M):cD (ae a (ae b (ae c ag))) σ M=.ok (.ref M.length) (M++[.tup [x,y,z]]):=by unfold cD ae ag;simp only[ha,hb,hc,R.bind];exact kH (by show 3<=16777216;decide)
def Dh{f:CM}(hf:DX f)(M:Mem)(vG vs vT:W)(G:List (List Int))(ss:List Int)(T:List (List Int))(s:Nat)(hG:LL M vG G)(hs:aP M vs ss)(hT:LL M vT T)(hl:T.length=ss.length)(a7:∀g∈G,g.length<=9/\∀i∈g,0<=i/\i<(ss.length:Int))(dW:ss.length<=81)(BX:G.length<=27)(dz:s<=9):
 ∃M',jI f [vG,vs,vT,.int s] M=.ok (.bl (dH G ss T s)) M'/\M<+:M':=by
 have key:∃r M',jI f [vG,vs,vT,.int s] M=.ok r M'/\(r=.bl (dH G ss T s)/\M<+:M'):=by
  refine bM rfl ?_;show(aj _ _ [some vG,some vs,some vT,some (.int s),none,none,none] M).Sat _;refine aB ?_;refine t7 (lo:=0) (n:=ss.length) (M1:=M) (Ac 1 hs rfl (by omega)) (FF vG vs vT s M) (λ(p:Nat)=>decide (aq ss p=0)&&decide (T.getD p []=[])) (λv M'=>v=.bl true/\M<+:M') ⟨⟨_,_,_,rfl⟩,dv _⟩ ?_ ?_ ?_
  ·rintro j σ M' hj ⟨⟨x,y,z,rfl⟩,p⟩;simp only[aaP,aaQ];have ez:(0:Int)+(j:Int)=(j:Int):=by omega
   rw[ez];obtain⟨w,hw,dS⟩:=iE (hT.mono p) (i:=(j:Int)) (by omega) (by omega);rw[abf] at dS;have i1:=eA (aF.mono hs p) (i:=(j:Int)) (by omega) (by omega);have t1:tB (af oEq (af av (aa 1) (aa 4)) (eC (.int 0))) [some vG,some vs,some vT,some (.int s),some (.int j),y,z] M'=.ok (decide (aq ss j=0)) M':=bu (aY (x:=.int (aq ss j)) (y:=.int 0) (M1:=M') (M2:=M') (aY (x:=vs) (y:=.int j) (M1:=M') (M2:=M') rfl rfl i1) rfl eq_int);have t2:tB (af oEq (af av (aa 2) (aa 4)) (aS ag)) [some vG,some vs,some vT,some (.int s),some (.int j),y,z] M'=.ok (decide (T.getD j []=[])) (M'++[.lst []]):=bu (nil_eq (w:=w) (aY (x:=vT) (y:=.int j) (M1:=M') (M2:=M') rfl rfl hw) dS);by_cases c0:aq ss j=0
   ·refine aM (c:=decide (aq ss j=0)&&decide (T.getD j []=[])) (M1:=M'++[.lst []]) ?_ (λhc=>?_) λhc=>?_
    ·unfold eP;rw[t1];simp only[R.bind,c0,ab8,aaW,abu];exact t2
    ·exact aR rfl ⟨hc,rfl,p.trans (pre_app _ _)⟩
    ·exact⟨⟨⟨_,_,_,rfl⟩,p.trans (pre_app _ _)⟩,hc⟩
   ·refine aM (c:=false) (M1:=M') ?_ (λz=>nomatch z) λ_=>?_
    ·unfold eP;rw[t1];simp only[R.bind,c0,acz,abi,aa_]
    ·exact⟨⟨⟨_,_,_,rfl⟩,p⟩,by simp[c0]⟩
  ·rintro σ M' ⟨⟨x,y,z,rfl⟩,p⟩ ha;dsimp only;refine aB ?_;refine DY (vG:=vG) (G:=G) (s:=s) (λg k=>Ab G ss T s g k) (FF vG vs vT s M) (λv M'=>v=.bl true/\M<+:M') hG (by omega) dz ?_ ?_ ⟨⟨_,_,_,rfl⟩,p⟩ ?_ ?_ ?_ ?_ ?_
   ·rintro σ N ⟨⟨x,y,z,rfl⟩,q⟩;exact⟨q,rfl⟩
   ·rintro σ N u ⟨⟨x,y,z,rfl⟩,q⟩;exact⟨⟨⟨_,_,_,rfl⟩,q⟩,rfl⟩
   ·rintro σ N j ⟨⟨x,y,z,rfl⟩,q⟩ _ rfl;exact⟨⟨_,_,_,rfl⟩,q⟩
   ·rintro j k σ N hj hk ⟨⟨x,y,z,rfl⟩,q⟩ h5;have ey:y=some (.int (0+(j:Int))):=aa2 h5;subst ey;simp only[aaP,aaQ];have ez:(0:Int)+(j:Int)=(j:Int):=by omega
    have ek:(1:Int)+(k:Int)=(k:Int)+1:=by omega
    rw[ez,ek];have p2:N<+:N++[.tup [fK,.int j,.int ((k:Int)+1)]]:=pre_app _ _;have Q2:=q.trans p2;obtain⟨N1,l1,q1⟩:=hf (N++[O.tup [fK,.int j,.int ((k:Int)+1)]]) vG vs vT (.ref N.length) G ss T s (.di j ((k:Int)+1)) (hG.mono Q2) (aF.mono hs Q2) (hT.mono Q2) (aT.new _ _) hl a7;refine aM (c:=Ab G ss T s j k) (M1:=N1) ?_ (λhc=>?_) λhc=>?_
    ·refine bu ?_;have tt:cD (ae (eC fK) (ae (aa 5) (ae (aa 6) ag))) [some vG,some vs,some vT,some (.int s),x,some (.int (j:Int)),some (.int ((k:Int)+1))] N=.ok (.ref N.length) (N++[.tup [fK,.int j,.int ((k:Int)+1)]]):=zJ rfl rfl rfl;unfold ak ae ag;rw[show aa 0 [some vG,some vs,some vT,some (.int s),x,some (.int (j:Int)),some (.int ((k:Int)+1))] N=.ok vG N from rfl];simp only[R.bind];rw[show aa 1 [some vG,some vs,some vT,some (.int s),x,some (.int (j:Int)),some (.int ((k:Int)+1))] N=.ok vs N from rfl];simp only[R.bind];rw[show aa 2 [some vG,some vs,some vT,some (.int s),x,some (.int (j:Int)),some (.int ((k:Int)+1))] N=.ok vT N from rfl];simp only[R.bind];have BY:=tt;unfold ae ag at BY;simp only[R.bind] at BY;rw[BY];exact l1
    ·exact aR rfl ⟨hc,rfl,Q2.trans q1⟩
    ·exact⟨⟨⟨_,_,_,rfl⟩,Q2.trans q1⟩,rfl,hc⟩
   ·rintro σ N ⟨⟨x,y,z,rfl⟩,q⟩;show 5<7;decide
   ·rintro σ N ⟨⟨x,y,z,rfl⟩,q⟩ hb;dsimp only;refine aR rfl ⟨?_,q⟩;unfold dH;rw[ha,hb];rfl
   ·rintro v N ⟨rfl,q⟩ hb;refine⟨?_,q⟩;unfold dH;rw[hb,adQ]
  ·rintro v M' ⟨rfl,q⟩ ha;refine⟨?_,q⟩;unfold dH;rw[ha,ach]
 obtain⟨r,M',e,rfl,p⟩:=key;exact⟨M',e,p⟩
end
end LV
namespace VM
def OJ{e:EM}{k:Nat}{body:SM}{σ:St}{M M1:Mem}{v:W}{xs:List W}{q:ai}(he:e σ M=.ok v M1)(hv:aT M1 v xs)(P:Nat->St->Mem->Prop)(h0:P 0 σ M1)(hl:∀(j:Nat) σ M,j<=xs.length->P j σ M->aT M v xs)(hs:∀(j:Nat) x σ M,xs[j]? =some x->P j σ M->(body (σ.set k (some x)) M).Sat {nx:=P (j+1),ct:=P (j+1),bk:=q.nx,rt:=q.rt})(hd:∀σ M,P xs.length σ M->q.nx σ M):(bH (bF e) (ar k) body σ M).Sat q:=by
 obtain⟨a,rfl,ha⟩:=hv;have hi:bF e σ M=.ok (xs.map .val,[(a,.tup xs)]) M1:=by unfold bF;rw[he];simp only[R.bind,ha]
 have hle:(xs.map Src.val).length=xs.length:=by simp
 have ck:∀{j:Nat} {σ:St} {M:Mem},j<=xs.length->P j σ M->b7.ok [(a,O.tup xs)] M=true:=λ{j σ M} hj hp=>by obtain⟨b,eb,hb⟩:=hl j σ M hj hp;cases eb;simp[b7.ok,hb]
 refine uQ hi P h0 (λj x σ M hx hp=>?_) λσ M hp=>?_
 ·have hj:j<xs.length:=by rw[<-hle];exact(aaZ.mp hx).1
  rw[abS] at hx;cases e2:xs[j]? with
  |none=>rw[e2] at hx;cases hx
  |some w=>rw[e2] at hx;have ex:x=.val w:=(aa2 hx).symm;subst ex;exact⟨ck (by omega) hp,_,M,_,M,rfl,rfl,hs j w σ M e2 hp⟩
 ·rw[hle] at hp;exact⟨ck (aaY _) hp,hd σ M hp⟩
end VM
namespace LV
open VM
local macro_rules| `(tactic|walk_at "ev")=> `(tactic|simp only[tB,eP,bZ,b6,dD,af,aa,eC,aS,cD,ag,ae,ak,dm,wo,mz,wq,dQ,mq,b_,R.bind,bp,nU,ar,eQ,fm,jU,cg,dM,List.length_cons,List.length_nil,List.map_cons,List.map_nil,List.cons_append,List.nil_append,List.append_nil,List.getElem?_cons_zero,List.getElem?_cons_succ,List.set_cons_zero,List.set_cons_succ,if_true,if_false,Bool.false_eq_true,Nat.reduceAdd,Nat.reduceSub,List.replicate_succ,List.replicate_zero,Nat.zero_add,Nat.add_zero,du,List.foldl_nil,List.foldl_cons,List.append_assoc])
def is_tup{M:Mem}{v:W}{ws:List W}{σ:St}(h:aT M v ws)(i:Nat)(ei:aa i σ=λM=>.ok v M):tB (bW [.tuple] (aa i)) σ M=.ok true M:=by obtain⟨a,rfl,ha⟩:=h;refine bu ?_;unfold bW;rw[ei];simp only[R.bind,c8,cQ,ha];rfl
def FW{M:Mem}{v:W}{ws:List W}{σ:St}(h:aF M v ws)(i:Nat)(ei:aa i σ=λM=>.ok v M):tB (bW [.list] (aa i)) σ M=.ok true M:=by obtain⟨a,rfl,ha⟩:=h;refine bu ?_;unfold bW;rw[ei];simp only[R.bind,c8,cQ,ha];rfl
def pK{M:Mem}{v:W}{ws:List W}{σ:St}(h:aT M v ws)(i:Nat)(ei:aa i σ=λM=>.ok v M):ak bx (ae (aa i) ag) σ M=.ok (.int ws.length) M:=by unfold ak ae ag;rw[ei];simp only[R.bind];unfold bx;simp only[h.bK]
def OK{M:Mem}{v:W}{ws:List W}{a:List Nat}{σ:St}(h:aT M v ws)(i:Nat)(ei:aa i σ=λM=>.ok v M)(hx:ws[0]? =some (.str a)):tB (bW [.str] (af av (aa i) (eC (.int 0)))) σ M=.ok true M:=by refine bu ?_;unfold bW;rw[jk i 0 h ei hx];rfl
def ur{M:Mem}{v:W}{ws:List W}{a:List Nat}{σ:St}{n:Int}(h:aT M v ws)(i:Nat)(ei:aa i σ=λM=>.ok v M)(hx:ws[0]? =some (.str a))(hn:n<=(ws.length:Int)):
 bZ (b6 (tB (bW [.tuple] (aa i)))) (bZ (tB (af oLt (ak bx (ae (aa i) ag)) (eC (.int n)))) (b6 (tB (bW [.str] (af av (aa i) (eC (.int 0))))))) σ M=.ok false M:=by
 unfold bZ;rw[fF (is_tup h i ei)];simp only[R.bind];rw[bu (aY (y:=.int n) (M2:=M) (pK h i ei) rfl lt_int)];simp only[R.bind];rw[fF (OK h i ei hx),abm (by omega)];rfl
def uu{q:ai}{M:Mem}{v:W}{x:W}{rs:List W}{σ:St}{x1:Option W}{body:SM}(h:aT M v (x::rs))(hlen:rs.length<=100)(ou:σ=[some v,x1])(hs:∀(r:W) (M':Mem),r∈rs->M<+:M'->(body [some v,some r] M').Sat {nx:=λσ N=>σ=[some v,some r]/\N=M',rt:=λ_ _=>False})(hd:∀σ M',(∃y,σ=[some v,y])->M<+:M'->q.nx σ M'):(bH (bF (f9 (aa 0) (fi (eC (.int 1))) g_)) (ar 1) body σ M).Sat q:=by
 subst ou;obtain⟨a,rfl,ha⟩:=h;have hc:VM.cut (x::rs) (some 1) none=rs:=by unfold VM.cut bg;simp
 have e:f9 (aa 0) (fi (eC (.int 1))) g_ [some (.ref a),x1] M=.ok (.ref M.length) (M++[.tup rs]):=by
  unfold f9 fi g_ aa eC;simp only[aaR,R.bind];unfold qk;have l0:VM.bz M (.ref a)=none:=by simp only[VM.bz,ha]
  have t0:VM.cL M (.ref a)=some (x::rs):=by simp only[VM.cL,ha]
  rw[l0,t0];simp only[hc];rw[aaO]
  ·exact kH (by omega)
  ·unfold bg;simp
 refine OJ e (aT.new _ _) (λj σ M'=>(∃y,σ=[some (.ref a),y])/\M'=M++[.tup rs]) ⟨⟨_,rfl⟩,rfl⟩ (λj σ M' _ ⟨_,e⟩=>by rw[e];exact aT.new _ _) ?_ ?_
 ·rintro j r σ M' hr ⟨⟨y,rfl⟩,rfl⟩;refine RS.Sat.mono (hs r _ (ab2 hr) (pre_app _ _)) (λσ N h=>⟨⟨_,h.1⟩,h.2⟩) (λ_ _ z=>z.elim) (λ_ _ z=>z.elim) (λ_ _ z=>z.elim)
 ·rintro σ M' ⟨hy,rfl⟩;exact hd _ _ hy (pre_app _ _)
def ug{v:W}{i:Int}{M:Mem}:((aN (b6 (tB (ak cZ (ae (aa 1) ag)))) (aH (eC (.bl false))) aV:SM) [some v,some (.int i)] M).Sat {nx:=λσ N=>σ=[some v,some (.int i)]/\N=M,rt:=λ_ _=>False}:=by
 refine aM (c:=false) (M1:=M) ?_ (λz=>nomatch z) λ_=>?_
 ·exact fF (bu (b:=true) (by unfold ak ae ag;exact DT i M))
 ·exact⟨rfl,rfl⟩
def Lr(M:Mem)(v:W)(st:b4)(h:eO M v st):∃M',lW cZ [v] M=.ok (.bl true) M'/\M<+:M':=by
 have key:∃r M',lW cZ [v] M=.ok r M'/\(r=.bl true/\M<+:M'):=by
  refine bM rfl ?_;show(aj _ _ [some v,none] M).Sat _;cases st with
  |fld p n=>
   refine aB (aM (ur h 0 rfl rfl (by show(3:Int)<=((3:Nat):Int);decide)) (λz=>nomatch z) λ_=>?_);refine bT ?_;dsimp only;refine aB (uu (x:=nG) (rs:=[.int p,.int n]) h (by show 2<=100;decide) rfl (λr M' hr _=>?_) λσ M' hy q=>?_)
   ·simp only[aaX,aa',aba] at hr;rcases hr with rfl|rfl<;>exact ug
   ·obtain⟨y,rfl⟩:=hy;dsimp only;have h':=h.mono q;refine aB (aM (c:=true) (M1:=M') (bu (jN 0 _ h' rfl rfl)) (λ_=>?_) λz=>nomatch z);refine aR (v:=.bl true) (M1:=M') (aY (y:=.int 3) (M2:=M') (pK h' 0 rfl) rfl ?_) ⟨rfl,q⟩;rw[eq_int];rfl
  |di p n g=>
   refine aB (aM (ur h 0 rfl rfl (by show(3:Int)<=((4:Nat):Int);decide)) (λz=>nomatch z) λ_=>?_);refine bT ?_;dsimp only;refine aB (uu (x:=fK) (rs:=[.int p,.int n,.int g]) h (by show 3<=100;decide) rfl (λr M' hr _=>?_) λσ M' hy q=>?_)
   ·simp only[aaX,aa',aba] at hr;rcases hr with rfl|rfl|rfl<;>exact ug
   ·obtain⟨y,rfl⟩:=hy;dsimp only;have h':=h.mono q;refine aB (aM (c:=false) (M1:=M') (bu (jN 0 _ h' rfl rfl)) (λz=>nomatch z) λ_=>?_);refine bT ?_;dsimp only;refine aR (v:=.bl true) (M1:=M') ?_ ⟨rfl,q⟩;unfold dm;rw[jN 0 _ h' rfl rfl];simp only[R.bind];refine aY (y:=.int 4) (M2:=M') (pK h' 0 rfl) rfl ?_;rw[eq_int];rfl
 obtain⟨r,M',e,rfl,p⟩:=key;exact⟨M',e,p⟩
def iJ(M:Mem)(v:W)(aJ:List b4):Prop:=∃ws,aF M v ws/\a_ (λw st=>eO M w st) ws aJ
def iJ.mono{M M':Mem}{v:W}{aJ:List b4}(h:iJ M v aJ)(p:M<+:M'):iJ M' v aJ:=by obtain⟨ws,h1,h2⟩:=h;exact⟨ws,h1.mono p,h2.imp λ_ _ q=>aT.mono q p⟩
def Ke(M:Mem)(v:W)(aJ:List b4)(h:iJ M v aJ):∃M',o6 (lW cZ) [v] M=.ok (.bl true) M'/\M<+:M':=by
 have key:∃r M',o6 (lW cZ) [v] M=.ok r M'/\(r=.bl true/\M<+:M'):=by
  refine bM rfl ?_;show(aj _ _ [some v,none] M).Sat _;obtain⟨ws,hL,hA⟩:=h;refine aB (aM (c:=false) (M1:=M) (fF (FW hL 0 rfl)) (λz=>nomatch z) λ_=>?_);refine bT ?_;dsimp only;refine aB ?_;refine fb (v:=v) (M1:=M) (xs:=ws) rfl hL (λj σ M'=>(∃y,σ=[some v,y])/\M<+:M') ⟨⟨_,rfl⟩,dv _⟩ (λj σ M' _ ⟨_,p⟩=>hL.mono p) ?_ ?_
  ·rintro j x σ M' hx ⟨⟨y,rfl⟩,p⟩;obtain⟨st,_,bq⟩:=hA.at hx;obtain⟨M2,e2,p2⟩:=Lr M' x st (aT.mono bq p);simp only[aaP,aaQ];refine aM (c:=false) (M1:=M2) (fF (bu (b:=true) (by walk_at "ev";exact e2))) (λz=>nomatch z) λ_=>?_
   exact⟨⟨_,rfl⟩,p.trans p2⟩
  ·rintro σ M' ⟨⟨y,rfl⟩,p⟩;dsimp only;exact aR rfl ⟨rfl,p⟩
 obtain⟨r,M',e,rfl,p⟩:=key;exact⟨M',e,p⟩
def Dp(M:Mem)(v:W)(a:List Nat)(g n:Int)(h:aT M v [.str a,.int g,.int n])(ha:a≠[102,105,101,108,100])(ho:a=[103,114,111,117,112]\/a=[116,119,105,99,101]):∃r M',kD cZ [v] M=.ok r M'/\(r=.bl true/\M<+:M'):=by
 refine bM rfl ?_;show(aj _ _ [some v,none] M).Sat _;refine aB (aM (ur h 0 rfl rfl (by show(2:Int)<=((3:Nat):Int);decide)) (λz=>nomatch z) λ_=>?_);refine bT ?_;dsimp only;refine aB (uu (x:=.str a) (rs:=[.int g,.int n]) h (by show 2<=100;decide) rfl (λr M' hr _=>?_) λσ M' hy q=>?_)
 ·simp only[aaX,aa',aba] at hr;rcases hr with rfl|rfl<;>exact ug
 ·obtain⟨y,rfl⟩:=hy;dsimp only;have h':=h.mono q;have t0:=bu (jN (σ:=[some v,y]) 0 [102,105,101,108,100] h' rfl rfl);rw[abm ha] at t0;refine aB (aM (c:=false) (M1:=M') t0 (λz=>nomatch z) λ_=>?_);refine bT ?_;dsimp only;have n1:aS (ae (eC fK) (ae (eC mj) ag)) [some v,y] M'=.ok (.ref M'.length) (M'++[.lst [fK,mj]]):=by unfold aS ae ag eC;simp only[R.bind];exact b9 (by show 2<=16777216;decide)
  have L:=aF.new M' [fK,mj];have a7:iN (.str a) (.ref M'.length) (M'++[.lst [fK,mj]])=.ok (.bl true) (M'++[.lst [fK,mj]]):=by unfold iN;rw[L.bK];rcases ho with rfl|rfl<;>rfl
  refine aR (v:=.bl true) (M1:=M'++[.lst [fK,mj]]) ?_ ⟨rfl,q.trans (pre_app _ _)⟩;unfold dm;rw[aY (x:=.str a) (M1:=M') (jk 0 0 h' rfl rfl) n1 a7];simp only[R.bind];refine aY (y:=.int 3) (M2:=M'++[.lst [fK,mj]]) (pK (h'.mono (pre_app _ _)) 0 rfl) rfl ?_;rw[eq_int];rfl
def Dx(M:Mem)(v:W)(c:eV)(h:gL M v c):∃M',kD cZ [v] M=.ok (.bl true) M'/\M<+:M':=by
 have key:∃r M',kD cZ [v] M=.ok r M'/\(r=.bl true/\M<+:M'):=by
  cases c with
  |fld p=>
   refine bM rfl ?_;show(aj _ _ [some v,none] M).Sat _;refine aB (aM (ur h 0 rfl rfl (by show(2:Int)<=((2:Nat):Int);decide)) (λz=>nomatch z) λ_=>?_);refine bT ?_;dsimp only;refine aB (uu (x:=nG) (rs:=[.int p]) h (by show 1<=100;decide) rfl (λr M' hr _=>?_) λσ M' hy q=>?_)
   ·simp only[aaX,aa',aba] at hr;subst hr;exact ug
   ·obtain⟨y,rfl⟩:=hy;dsimp only;have h':=h.mono q;refine aB (aM (c:=true) (M1:=M') (bu (jN 0 _ h' rfl rfl)) (λ_=>?_) λz=>nomatch z);refine aR (v:=.bl true) (M1:=M') (aY (y:=.int 2) (M2:=M') (pK h' 0 rfl) rfl ?_) ⟨rfl,q⟩;rw[eq_int];rfl
  |di g n=>exact Dp M v _ g n h (by decide) (.inl rfl)
  |kj g n=>exact Dp M v _ g n h (by decide) (.inr rfl)
 obtain⟨r,M',e,rfl,p⟩:=key;exact⟨M',e,p⟩
def gc(n:Int)(T:List (List Int))(q:Int):List (List Int):=T.set q.toNat ((T.getD q.toNat []).filter λm=>!decide (m=n))
def fq(p n:Int)(T:List (List Int))(g:List Int):List (List Int):=if g.any (·==p) then g.foldl (gc n) T else T
def mF(G T:List (List Int))(p n:Int):List (List Int):=G.foldl (fq p n) (T.set p.toNat [])
def OL(n:Int)(T:List (List Int))(q:Int):(gc n T q).length=T.length:=by simp[gc]
theorem zK(n:Int):∀(qs:List Int) (T:List (List Int)),(qs.foldl (gc n) T).length=T.length
 |[],_=>rfl
 |q::r,T=>by rw[acX,zK n r,OL]
def MM(p n:Int)(T:List (List Int))(g:List Int):(fq p n T g).length=T.length:=by
 unfold fq;split
 ·exact zK n g T
 ·rfl
theorem zd(p n:Int):∀(G T:List (List Int)),(G.foldl (fq p n) T).length=T.length
 |[],_=>rfl
 |g::r,T=>by rw[acX,zd p n r,MM]
def uK{α:Type}(T:List α)(q i:Nat)(x d:α):(T.set q x).getD i d=if i=q/\q<T.length then x else T.getD i d:=by
 by_cases h:i=q
 ·subst h;by_cases hl:i<T.length
  ·simp[List.getD,hl]
  ·simp[List.getD,hl]
 ·have:¬q=i:=λe=>h e.symm
  simp[List.getD,List.getElem?_set,this,h]
def MN(n:Int)(T:List (List Int))(q:Int)(i:Nat):(gc n T q).getD i []=if i=q.toNat then(T.getD i []).filter (λm=>!decide (m=n)) else T.getD i []:=by
 unfold gc;rw[uK];by_cases h:i=q.toNat
 ·subst h;by_cases hl:q.toNat<T.length
  ·simp[hl]
  ·have:T.getD q.toNat []=[]:=by simp[List.getD,hl]
   simp[hl,this]
 ·simp[h]
def Dy(l:List Int)(n:Int):(l.filter λm=>!decide (m=n)).filter (λm=>!decide (m=n))=l.filter λm=>!decide (m=n):=by rw[adR];congr 1;funext m;simp
theorem DZ(n:Int)(i:Nat):∀(qs:List Int) (T:List (List Int)),(qs.foldl (gc n) T).getD i []=if(qs.any λq=>decide (i=q.toNat))=true then(T.getD i []).filter (λm=>!decide (m=n)) else T.getD i []
 |[],T=>by simp
 |q::r,T=>by
  rw[acX,DZ n i r,MN,abB];by_cases h:i=q.toNat
  ·simp only[h,ab8,ach,aaW];split
   ·exact Dy _ _
   ·rfl
  ·simp only[h,acz,ab4,aa_]
def jV(G:List (List Int))(p:Int)(i:Nat):Bool:=G.any λg=>g.any (·==p)&&g.any λq=>decide (i=q.toNat)
theorem yV(p n:Int)(i:Nat):∀(G T:List (List Int)),(G.foldl (fq p n) T).getD i []=if jV G p i=true then(T.getD i []).filter (λm=>!decide (m=n)) else T.getD i []
 |[],T=>by simp[jV]
 |g::r,T=>by
  rw[acX,yV p n i r];have e:(fq p n T g).getD i []=if(g.any (·==p)&&g.any λq=>decide (i=q.toNat))=true then(T.getD i []).filter (λm=>!decide (m=n)) else T.getD i []:=by
   unfold fq;by_cases h:g.any (·==p)=true
   ·rw[aaN h,DZ,h,abu]
   ·rw[aaO h];have:g.any (·==p)=false:=by cases e:g.any (·==p) with|true=>exact absurd e h|false=>rfl
    rw[this,abz];simp
  rw[e];unfold jV;rw[abB];by_cases h1:(g.any (·==p)&&g.any λq=>decide (i=q.toNat))=true
  ·simp only[h1,aaW,ach];split
   ·exact Dy _ _
   ·rfl
  ·have fB:(g.any (·==p)&&g.any λq=>decide (i=q.toNat))=false:=by cases e:(g.any (·==p)&&g.any λq=>decide (i=q.toNat)) with|true=>exact absurd e h1|false=>rfl
   simp only[fB,ab4,abi,aa_]
def l4(ss:List Int)(p i:Int)(x:Int)(hp:0<=p)(fA:p<(ss.length:Int))(hi:0<=i):aq (ss.set p.toNat x) i=if i=p then x else aq ss i:=by
 unfold aq;rw[uK];by_cases h:i=p
 ·subst h;have:i.toNat<ss.length:=by omega
  simp[this]
 ·have:¬i.toNat=p.toNat:=by omega
  simp[h,this]
def OM{G:List (List Int)}{ss:List Int}{p n:Int}(hp:0<=p)(fA:p<(ss.length:Int))(h0:aq ss p=0)(a7:∀g∈G,∀i∈g,0<=i/\i<(ss.length:Int))(i:Nat)(hi:(i:Int)≠p)(m:Int)(hm:1<=m):
 dZ G (ss.set p.toNat n) i m=(dZ G ss i m||(jV G p i&&decide (m=n))):=by
 have each:∀g∈G,iI (ss.set p.toNat n) g i m=(iI ss g i m||((g.any (·==p)&&g.any λq=>decide (i=q.toNat))&&decide (m=n))):=by
  intro g hg;have e1:(g.any λq=>decide (i=q.toNat))=g.any (·==(i:Int)):=by
   rw[abw,aa0,aa0];constructor
   ·rintro⟨q,hq,e⟩;have:=a7 g hg q hq;refine⟨q,hq,?_⟩;have:=abx e;simp;omega
   ·rintro⟨q,hq,e⟩;refine⟨q,hq,?_⟩;simp at e;subst e;simp
  unfold iI;rw[e1,abw];simp only[aaT,acm,aa0,abg,abG,abj,abA,exists_eq_right];constructor
  ·rintro⟨a,q,hq,nq,e⟩;have hb:=a7 g hg q hq;rw[l4 ss p q n hp fA hb.1] at e;by_cases c:q=p
   ·subst c;rw[aaN rfl] at e;exact .inr ⟨⟨hq,a⟩,e.symm⟩
   ·rw[aaO c] at e;exact .inl ⟨a,q,hq,nq,e⟩
  ·rintro(⟨a,q,hq,nq,e⟩|⟨⟨a,b⟩,e⟩)
   ·have hb:=a7 g hg q hq;refine⟨a,q,hq,nq,?_⟩;rw[l4 ss p q n hp fA hb.1];by_cases c:q=p
    ·subst c;rw[h0] at e;omega
    ·rw[aaO c];exact e
   ·refine⟨b,p,a,λz=>hi z.symm,?_⟩;rw[l4 ss p p n hp fA hp,aaN rfl,e]
 unfold dZ jV;rw[abw];simp only[aa0,acm,aaT,abj];constructor
 ·rintro⟨g,hg,e⟩;rw[each g hg] at e;simp only[acm,aaT,abj,aa0] at e;rcases e with e|⟨e,f⟩
  ·exact .inl ⟨g,hg,e⟩
  ·exact .inr ⟨⟨g,hg,e⟩,f⟩
 ·rintro(⟨g,hg,e⟩|⟨⟨g,hg,e⟩,f⟩)
  ·refine⟨g,hg,?_⟩;rw[each g hg,e,ach]
  ·refine⟨g,hg,?_⟩;rw[each g hg];simp only[acm,aaT,abj,aa0];exact .inr ⟨e,f⟩
def pL{s:Nat}{m:Int}(h:m∈nums s):1<=m/\m<=(s:Int):=by obtain⟨k,hk,rfl⟩:=aa7.mp h;rw[abk] at hk;omega
def jc(G:List (List Int))(ss:List Int)(s i:Nat)(hi:i<ss.length):(tabOf G ss s).getD i []=rowOf G ss s i:=by unfold tabOf;simp[List.getD,hi]
def Fj{G:List (List Int)}{ss:List Int}{s:Nat}{p n:Int}(hp:0<=p)(fA:p<(ss.length:Int))(h0:aq ss p=0)(hn:n≠0)(a7:∀g∈G,∀i∈g,0<=i/\i<(ss.length:Int)):
 mF G (tabOf G ss s) p n=tabOf G (ss.set p.toNat n) s:=by
 apply List.ext_getElem
 ·unfold mF;rw[zd,abN,iw,iw,abN]
 ·intro i h1 h2;have hi:i<ss.length:=by rw[iw,abN] at h2;exact h2
  have e1:(mF G (tabOf G ss s) p n)[i]=(mF G (tabOf G ss s) p n).getD i []:=by simp[List.getD,h1]
  have e2:(tabOf G (ss.set p.toNat n) s)[i]=(tabOf G (ss.set p.toNat n) s).getD i []:=by simp[List.getD,h2]
  rw[e1,e2,jc _ _ _ _ (by rw[abN];exact hi)];unfold mF;rw[yV,uK,iw];by_cases c:(i:Int)=p
  ·have ci:i=p.toNat:=by omega
   have:i=p.toNat/\p.toNat<ss.length:=⟨ci,by omega⟩;rw[aaN this];have er:rowOf G (ss.set p.toNat n) s i=[]:=by unfold rowOf;rw[ac3];intro m _;rw[l4 ss p i n hp fA (by omega),aaN c];simp[hn]
   rw[er];simp
  ·have ci:¬(i=p.toNat/\p.toNat<ss.length):=by omega
   rw[aaO ci,jc _ _ _ _ hi];have em:∀m∈nums s,(decide (aq (ss.set p.toNat n) i=0)&& !dZ G (ss.set p.toNat n) i m)=((decide (aq ss i=0)&& !dZ G ss i m)&& !(jV G p i&&decide (m=n))):=by intro m hm;rw[l4 ss p i n hp fA (by omega),aaO c,OM hp fA h0 a7 i c m (pL hm).1];cases decide (aq ss i=0)<;>cases dZ G ss i m<;>simp
   have ef:rowOf G (ss.set p.toNat n) s i=(nums s).filter λm=>(decide (aq ss i=0)&& !dZ G ss i m)&& !(jV G p i&&decide (m=n)):=by unfold rowOf;exact adP em
   rw[ef];unfold rowOf;cases hb:jV G p i with
   |true=>simp only[aaW,abu];rw[adR];congr 1;funext m;rw[Bool.and_comm]
   |false=>simp
def aX(X:List Nat)(M M':Mem):Prop:=M.length<=M'.length/\∀c,c<M.length->c∉X->M'[c]? =M[c]?
def aX.refl(X:List Nat)(M:Mem):aX X M M:=⟨aaY _,λ_ _ _=>rfl⟩
def aX.trans{X:List Nat}{M M' bP:Mem}(h:aX X M M')(h':aX X M' bP):aX X M bP:=⟨aa1 h.1 h'.1,λc hc hx=>(h'.2 c (aa9 hc h.1) hx).trans (h.2 c hc hx)⟩
def aX.ee{X:List Nat}{M M':Mem}(p:M<+:M'):aX X M M':=by obtain⟨r,rfl⟩:=p;refine⟨by simp,λc hc _=>?_⟩;rw[abM hc]
def aX.mono{X Y:List Nat}{M M':Mem}(h:aX X M M')(hs:∀x∈X,x∈Y):aX Y M M':=⟨h.1,λc hc hy=>h.2 c hc λhx=>hy (hs c hx)⟩
def aX.set{X:List Nat}{M:Mem}{a:Nat}(o:O)(ha:a∈X):aX X M (M.set a o):=by refine⟨by simp,λc hc hx=>?_⟩;rw[abe];rintro rfl;exact hx ha
def aX.get{X:List Nat}{M M':Mem}(h:aX X M M'){c:Nat}{o:O}(e:M[c]? =some o)(hx:c∉X):M'[c]? =some o:=by rw[h.2 c (aaZ.mp e).1 hx];exact e
def aX.base{X:List Nat}{N M M':Mem}(h:aX X M M')(p:N<+:M)(hx:∀x∈X,N.length<=x):N<+:M':=by
 rw[List.prefix_iff_eq_take];have hl:N.length<=M'.length:=by have:=p.length_le;exact aa1 this h.1
 apply adS;intro c;by_cases hc:c<N.length
 ·obtain⟨r,rfl⟩:=p;rw[ad3 hc,h.2 c (by rw[abb];omega) (λz=>by have:=hx c z;omega),abM hc]
 ·have h1:N[c]? =none:=ac4 (by omega);have h2:(M'.take N.length)[c]? =none:=ac4 (by rw[acs];omega);rw[h1,h2]
def ve(X:List Nat)(M:Mem)(ws:List W)(T:List (List Int)):Prop:=a_ (λw r=>∃c,w=W.ref c/\c∉X/\M[c]? =some (O.lst (r.map .int))) ws T
def ve.keep{X Y:List Nat}{M M':Mem}{ws:List W}{T:List (List Int)}(h:ve X M ws T)(k:aX Y M M')(hy:∀y∈Y,y∈X):ve X M' ws T:=h.imp λw r ⟨c,e,hx,q⟩=>⟨c,e,hx,k.get q λz=>hx (hy c z)⟩
def TabAt(X:List Nat)(M:Mem)(b:Nat)(T:List (List Int)):Prop:=∃ws,M[b]? =some (.lst ws)/\ve X M ws T
def TabAt.ll{X:List Nat}{M:Mem}{b:Nat}{T:List (List Int)}(h:TabAt X M b T):LL M (.ref b) T:=by obtain⟨ws,h1,h2⟩:=h;exact⟨ws,⟨b,rfl,h1⟩,h2.imp λw r ⟨c,e,_,q⟩=>⟨c,e,q⟩⟩
theorem a_.Be{α β:Type}{R:α->β->Prop}{x:α}{y:β}(r:R x y):∀{l:List α} {m:List β} (i:Nat),a_ R l m->a_ R (l.set i x) (m.set i y)
 |_,_,_,.nil=>.nil
 |_,_,0,.cons _ t=>.cons r t
 |_,_,i+1,.cons q t=>.cons q (a_.Be r i t)
def QN{X:List Nat}{M:Mem}{σ:St}{b:Nat}{T:List (List Int)}{q n:Int}{e2 e6:EM}{k4:Nat}(hT:TabAt X M b T)(hb:b∈X)(hX:∀x∈X,x<M.length)(q0:0<=q)(q1:q<(T.length:Int))(hr:(T.getD q.toNat []).length<=9)(h2:∀M',e2 σ M'=.ok (.ref b) M')(h6:∀M',e6 σ M'=.ok (.int q) M')(h7:∀x M',aa 7 ((σ++[none]).set 7 (some x)) M'=.ok x M')(h4:∀x M',aa k4 ((σ++[none]).set 7 (some x)) M'=.ok (.int n) M'):
 ∃M',aG (b5 1 [] (bF (af av e2 e6)) (ar 7) (tB (af bV (aa 7) (aa k4))) (aa 7)) (eQ e2 e6) σ M=.nx σ M'/\aX [b] M M'/\TabAt X M' b (gc n T q):=by
 obtain⟨ws,hm,hA⟩:=hT;have hlen:=hA.len;have hg:T[q.toNat]? =some (T.getD q.toNat []):=by
  have:q.toNat<T.length:=by omega
  simp[List.getD,this]
 obtain⟨w,hw,c,rfl,hc,kP⟩:=hA.at' hg;generalize T.getD q.toNat []=row at hg kP hr;have jw:cR ws q=some (.ref c):=by unfold cR cK;rw[aaN q0,aaN (by omega)];exact hw
 have Vc:af av e2 e6 σ M=.ok (.ref c) M:=aY (h2 M) (h6 M) (by simp only[av,lZ hm,jw]);have hi:bF (af av e2 e6) σ M=.ok ((row.map W.int).map .val,[(c,.lst (row.map .int))]) M:=by unfold bF;rw[Vc];simp only[R.bind,kP]
 have Gs:b5 1 [] (bF (af av e2 e6)) (ar 7) (tB (af bV (aa 7) (aa k4))) (aa 7) σ M=.ok (.ref M.length) (M++[.lst ((row.filter λm=>!decide (m=n)).map .int)]):=by
  unfold b5;rw[hi];simp only[R.bind,R.eB,du,acv,abY,ab7];rw[jd (σ:=σ++[none]) (λx=>match x with|.int i=>!decide (i=n)|_=>false) (λx=>x) _ _ _ (λ_=>rfl) (by simp[b7.ok,kP]) ?_]
  ·have ef:(row.map W.int).filter (λx=>match x with|.int i=>!decide (i=n)|_=>false)=(row.filter λm=>!decide (m=n)).map .int:=by rw[ac0];rfl
   rw[ef];simp only[abl,List.map_id'];exact b9 (by rw[aaV];exact aa1 (abK _ _) (by omega))
  ·intro x hx;obtain⟨i,_,rfl⟩:=aa7.mp hx;exact⟨bu (aY (h7 _ M) (h4 _ M) ne_int),λ_=>h7 _ M⟩
 generalize SF:row.filter (λm=>!decide (m=n))=sQ at Gs;have Vd:b<M.length:=hX b hb;have Ve:(M++[O.lst (sQ.map .int)])[b]? =some (.lst ws):=aD (pre_app _ _) hm;have Uc:cK ws.length q=some q.toNat:=by unfold cK;rw[aaN q0,aaN (by omega)]
 have Ud:eQ e2 e6 (.ref M.length) σ (M++[O.lst (sQ.map .int)])=.ok σ ((M++[O.lst (sQ.map .int)]).set b (O.lst (ws.set q.toNat (.ref M.length)))):=by unfold eQ;simp only[h2,h6,R.bind,gW Ve,Uc]
 have k1:aX [b] M ((M++[O.lst (sQ.map .int)]).set b (O.lst (ws.set q.toNat (.ref M.length)))):=(aX.ee (pre_app _ _)).trans (aX.set _ (by simp));refine⟨_,?_,k1,ws.set q.toNat (.ref M.length),?_,?_⟩
 ·unfold aG;rw[Gs];simp only[R.cz,Ud]
 ·rw[abr (by rw[abb];omega)]
 ·unfold gc;have e:(T.getD q.toNat []).filter (λm=>!decide (m=n))=sQ:=by rw[<-SF,getD_at hg]
  rw[e];refine a_.Be ⟨M.length,rfl,λz=>by have:=hX _ z;omega,?_⟩ _ (hA.keep k1 (by simp only[ack];rintro y rfl;exact hb));rw[abe (by omega)];exact b8 _ _
def ON(f:CM):Prop:=∀(X:List Nat) (N M:Mem) (vG:W) (a b:Nat) (G:List (List Int)) (ss:List Int) (T:List (List Int)) (p n:Int),N<+:M->LL N vG G->N.length<=a->N.length<=b->a≠b->a∈X->b∈X->(∀x∈X,x<M.length)->
 M[a]? =some (.lst (ss.map .int))->TabAt X M b T->T.length=ss.length->(∀g∈G,∀i∈g,0<=i/\i<(ss.length:Int))->(∀r∈T,r.length<=9)->0<=p->p<(ss.length:Int)->
 ∃M',f [vG,.ref a,.ref b,.int p,.int n] M=.ok .ao M'/\aX [a,b] M M'/\M'[a]? =some (.lst ((ss.set p.toNat n).map .int))/\TabAt X M' b (mF G T p n)
def MO{n:Int}{T:List (List Int)}{q:Int}(h:∀r∈T,r.length<=9):∀r∈gc n T q,r.length<=9:=by
 intro r hr;unfold gc at hr;rcases acY hr with z|z
 ·exact h r z
 ·subst z;refine aa1 (abK _ _) ?_;by_cases hl:q.toNat<T.length
  ·have:T.getD q.toNat []∈T:=by simp[List.getD,hl]
   exact h _ this
  ·have:T.getD q.toNat []=[]:=by simp[List.getD,hl]
   rw[this];decide
theorem ze{n:Int}:∀(qs:List Int) {T:List (List Int)},(∀r∈T,r.length<=9)->∀r∈qs.foldl (gc n) T,r.length<=9
 |[],_,h=>h
 |q::r,_,h=>ze r (MO h)
def Ls{p n:Int}{T:List (List Int)}{g:List Int}(h:∀r∈T,r.length<=9):∀r∈fq p n T g,r.length<=9:=by
 unfold fq;split
 ·exact ze g h
 ·exact h
theorem Dz{p n:Int}:∀(G:List (List Int)) {T:List (List Int)},(∀r∈T,r.length<=9)->∀r∈G.foldl (fq p n) T,r.length<=9
 |[],_,h=>h
 |g::r,_,h=>Dz r (Ls h)
def OO:ON ny:=by
 intro X N M vG a b G ss T p n hN hG Vf Vg BZ HL tH hX ha hT Vh a7 SH p0 p1;have key:∃r M',ny [vG,.ref a,.ref b,.int p,.int n] M=.ok r M'/\(r=.ao/\aX [a,b] M M'/\M'[a]? =some (.lst ((ss.set p.toNat n).map .int))/\TabAt X M' b (mF G T p n)):=by
  refine bM rfl ?_;show(aj _ _ [some vG,some (.ref a),some (.ref b),some (.int p),some (.int n),none,none] M).Sat _;have Vi:a<M.length:=hX a HL;have Vd:b<M.length:=hX b tH;have kX:∀y∈[a,b],y∈X:=by
   intro y hy;simp only[aaX,aa',aba] at hy;rcases hy with rfl|rfl
   ·exact HL
   ·exact tH
  have Vj:cK (ss.map W.int).length p=some p.toNat:=by unfold cK;rw[aaN p0,aaV,aaN p1]
  refine aB (pT (v:=.int n) (M1:=M) (M2:=M.set a (O.lst ((ss.set p.toNat n).map .int))) (bj:=[some vG,some (.ref a),some (.ref b),some (.int p),some (.int n),none,none]) rfl (by unfold eQ;walk_at "ev";simp only[gW ha,Vj,adk]) ?_);dsimp only;have k1:aX [a,b] M (M.set a (O.lst ((ss.set p.toNat n).map .int))):=aX.set _ (by simp);have a1:(M.set a (O.lst ((ss.set p.toNat n).map .int)))[a]? =some (.lst ((ss.set p.toNat n).map .int)):=abr Vi;have T1:TabAt X (M.set a (O.lst ((ss.set p.toNat n).map .int))) b T:=by obtain⟨ws,h1,h2⟩:=hT;exact⟨ws,by rw[abe BZ];exact h1,h2.keep k1 kX⟩
  generalize i8:M.set a (O.lst ((ss.set p.toNat n).map .int))=M1 at k1 a1 T1;have l1:M1.length=M.length:=by rw[<-i8];simp
  obtain⟨ws,tI,qH⟩:=T1;have dS:=qH.len;have g1:(M1++[O.lst []])[b]? =some (.lst ws):=aD (pre_app _ _) tI;have Vk:cK ws.length p=some p.toNat:=by unfold cK;rw[aaN p0,aaN (by omega)]
  refine aB (pT (v:=.ref M1.length) (M1:=M1++[.lst []]) (M2:=(M1++[O.lst []]).set b (O.lst (ws.set p.toNat (.ref M1.length)))) (bj:=[some vG,some (.ref a),some (.ref b),some (.int p),some (.int n),none,none]) rfl (by unfold eQ;walk_at "ev";simp only[gW g1,Vk]) ?_);dsimp only;have k2:aX [a,b] M1 ((M1++[O.lst []]).set b (O.lst (ws.set p.toNat (.ref M1.length)))):=(aX.ee (pre_app _ _)).trans (aX.set _ (by simp));have a2:((M1++[O.lst []]).set b (O.lst (ws.set p.toNat (.ref M1.length))))[a]? =some (.lst ((ss.set p.toNat n).map .int)):=by rw[abe BZ.symm];exact aD (pre_app _ _) a1
  have T2:TabAt X ((M1++[O.lst []]).set b (O.lst (ws.set p.toNat (.ref M1.length)))) b (T.set p.toNat []):=by refine⟨ws.set p.toNat (.ref M1.length),abr (by rw[abb];omega),?_⟩;refine a_.Be ⟨M1.length,rfl,λz=>by have:=hX _ z;omega,?_⟩ _ (qH.keep k2 kX);rw[abe (by omega)];exact b8 _ _
  generalize (M1++[O.lst []]).set b (O.lst (ws.set p.toNat (.ref M1.length)))=M2 at k2 a2 T2;have K2:=k1.trans k2;have tJ:∀x∈[a,b],N.length<=x:=by
   intro x hx;simp only[aaX,aa',aba] at hx;rcases hx with rfl|rfl
   ·exact Vf
   ·exact Vg
  have rows0:∀r∈T.set p.toNat [],r.length<=9:=by
   intro r hr;rcases acY hr with z|z
   ·exact SH r z
   ·subst z;decide
  have eW:∀M',aX [a,b] M M'->LL M' vG G:=λM' k=>hG.mono (k.base hN tJ)
  obtain⟨gs,HM,HN⟩:=hG;have Ue:=HN.len;refine fb (v:=vG) (M1:=M2) (xs:=gs) rfl (HM.mono (K2.base hN tJ)) (λj σ M'=>(∃x y,σ=[some vG,some (.ref a),some (.ref b),some (.int p),some (.int n),x,y])/\aX [a,b] M M'/\M'[a]? =some (.lst ((ss.set p.toNat n).map .int))/\TabAt X M' b ((G.take j).foldl (fq p n) (T.set p.toNat []))) ⟨⟨_,_,rfl⟩,K2,a2,T2⟩ (λj σ M' _ h=>HM.mono (h.2.1.base hN tJ)) ?_ ?_
  ·rintro j x σ M' hx ⟨⟨y,z,rfl⟩,k,am,tm⟩;obtain⟨g,hg,G0⟩:=HN.at hx;have BK:=ab2 hg;have G1:aP M' x g:=aF.mono G0 (k.base hN tJ);have tk:G.take (j+1)=G.take j++[g]:=by rw[acb,hg];rfl
   simp only[aaP,aaQ];have tl:((G.take j).foldl (fq p n) (T.set p.toNat [])).length=ss.length:=by rw[zd,abN,Vh]
   have tr:=Dz (p:=p) (n:=n) (G.take j) rows0;rw[tk,adl];show RS.Sat _ {nx:=λσ bP=>_/\aX [a,b] M bP/\_/\TabAt X bP b (fq p n ((G.take j).foldl (fq p n) (T.set p.toNat [])) g),rt:=_,bk:=_,ct:=λσ bP=>_/\aX [a,b] M bP/\_/\TabAt X bP b (fq p n ((G.take j).foldl (fq p n) (T.set p.toNat [])) g)};generalize (G.take j).foldl (fq p n) (T.set p.toNat [])=T3 at tm tl tr;have hi:=su p G1;refine aM (c:=g.any (·==p)) (M1:=M') (bu (aY (x:=.int p) (y:=x) (M1:=M') (M2:=M') rfl rfl hi)) (λhc=>?_) λhc=>?_
   ·have ep:fq p n T3 g=g.foldl (gc n) T3:=aaN hc;rw[ep];refine fb (v:=x) (M1:=M') (xs:=g.map .int) rfl G1 (λi σ bP=>(∃z,σ=[some vG,some (.ref a),some (.ref b),some (.int p),some (.int n),some x,z])/\aX [a,b] M bP/\bP[a]? =some (.lst ((ss.set p.toNat n).map .int))/\TabAt X bP b ((g.take i).foldl (gc n) T3)) ⟨⟨_,rfl⟩,k,am,tm⟩ (λi σ bP _ h=>aF.mono G0 (h.2.1.base hN tJ)) ?_ ?_
    ·rintro i w σ bP hw ⟨⟨z,rfl⟩,k',B0,wG⟩;obtain⟨q,hq,rfl,BN⟩:=iU hw;obtain⟨b0,b1⟩:=a7 g BK q hq;have Vl:g.take (i+1)=g.take i++[q]:=by rw[acb,BN];rfl
     simp only[aaP,aaQ];have ZV:((g.take i).foldl (gc n) T3).length=ss.length:=by rw[zK,tl]
     have Vm:=ze (n:=n) (g.take i) tr;have kP:(((g.take i).foldl (gc n) T3).getD q.toNat []).length<=9:=by
      have:q.toNat<((g.take i).foldl (gc n) T3).length:=by omega
      refine Vm _ ?_;simp[List.getD,this]
     obtain⟨M3,e3,k3,t3⟩:=QN (σ:=[some vG,some (.ref a),some (.ref b),some (.int p),some (.int n),some x,some (.int q)]) (e2:=aa 2) (e6:=aa 6) (k4:=4) (n:=n) wG tH (λx hx=>aa9 (hX x hx) k'.1) b0 (by omega) kP (λ_=>rfl) (λ_=>rfl) (λ_ _=>rfl) (λ_ _=>rfl);rw[e3];refine⟨⟨_,rfl⟩,k'.trans (k3.mono (by simp)),k3.get B0 (by simp[BZ]),?_⟩;rw[Vl,adl];exact t3
    ·rintro σ bP ⟨⟨z,rfl⟩,k',B0,wG⟩;rw[aaV,aby] at wG;exact⟨⟨_,_,rfl⟩,k',B0,wG⟩
   ·have ep:fq p n T3 g=T3:=aaO (by rw[hc];decide);rw[ep];exact⟨⟨_,_,rfl⟩,k,am,tm⟩
  ·rintro σ M' ⟨⟨y,z,rfl⟩,k,am,tm⟩;rw[Ue,aby] at tm;exact⟨rfl,k,am,tm⟩
 obtain⟨r,M',e,rfl,h⟩:=key;exact⟨M',e,h⟩
def i9.keep{n:Nat}{X:List Nat}{M M':Mem}{v:W}{G:List (List Int)}(h:i9 n M v G)(k:aX X M M')(hX:∀(b:Nat) (ws:List W),M[b]? =some (.lst ws)->b≠n->b∉X):i9 n M' v G:=by obtain⟨ws,⟨b,e,hb,q⟩,r⟩:=h;exact⟨ws,⟨b,e,hb,k.get q (hX b _ q hb)⟩,r.imp λw ns ⟨b,e,hb,q⟩=>⟨b,e,hb,k.get q (hX b _ q hb)⟩⟩
def sA{M:Mem}{n c:Nat}{kvs:List (Int×W)}(hc:M[c]? =some (.aI kvs)):∀(b:Nat) (ws:List W),M[b]? =some (.lst ws)->b≠n->b∉[n,c]:=λb ws e hb z=>by
 simp only[aaX,aa',aba] at z;rcases z with z|z
 ·exact hb z
 ·rw[z,hc] at e;cases e
def Ay{n:Nat}{M:Mem}{v:W}{G:List (List Int)}(h:i9 n M v G){i:Int}(h0:0<=i)(h1:i<(G.length:Int)):∃b,av v (.int i) M=.ok (.ref b) M/\b≠n/\M[b]? =some (.lst ((G.getD i.toNat []).map .int)):=by
 obtain⟨ws,⟨a,rfl,ha,hL⟩,hA⟩:=h;have hl:=hA.len;have hg:G[i.toNat]? =some (G.getD i.toNat []):=by
  have:i.toNat<G.length:=by omega
  simp[List.getD,this]
 obtain⟨w,hw,b,rfl,hb,q⟩:=hA.at' hg;refine⟨b,?_,hb,q⟩;have jw:cR ws i=some (.ref b):=by unfold cR cK;rw[aaN h0,aaN (by omega)];exact hw
 simp only[av,lZ hL,jw]
def eF(G:List (List Int))(ss:List Int)(s:Nat)(m:Int)(L:List Int)(q:Int):List Int:=if L.any (·==q) then(rowOf G ss s q).filter (λx=>!decide (x=m)) else rowOf G ss s q
structure ml(kc:List (Int×W))(M3 M':Mem)(n c:Nat)(G:List (List Int))(ss aO:List Int)(s:Nat)(m:Int)(L:List Int):Prop where
 nw:∀kvs,M'[c]? =some (.aI kvs)->∀(q:Int) (k:Nat),aW kvs q=some (.ref k)->M3.length<=k\/aW kc q=some (.ref k)
 kp:aX [n,c] M3 M'
 nm:M'[n]? =some (.lst (aO.map .int))
 cn:∃kvs,M'[c]? =some (.aI kvs)/\kvs.length<=ss.length/\(kvs.map (·.1)).Nodup/\∀q:Int,(aW kvs q=none/\¬gD aO q)\/∃k,aW kvs q=some (.ref k)/\gD aO q/\n<k/\M'[k]? =some (.lst ((eF G ss s m L q).map .int))
def Lu{l:List Int}{m:Int}(h:l.any (·==m)=false):l.filter (λx=>!decide (x=m))=l:=by
 rw[List.filter_eq_self];intro x hx;have:¬x=m:=by rintro rfl;have:l.any (·==x)=true:=aa0.mpr ⟨x,hx,by simp⟩;rw[h] at this;cases this
 simp[this]
def Lv(l:List Int)(m:Int):(l.filter (λx=>!decide (x=m))).filter (λx=>!decide (x=m))=l.filter (λx=>!decide (x=m)):=by rw[adR];simp
def D0{G:List (List Int)}{ss:List Int}{s:Nat}{m:Int}{L:List Int}{f q:Int}:eF G ss s m (L++[f]) q=if f=q then(eF G ss s m L q).filter (λx=>!decide (x=m)) else eF G ss s m L q:=by
 unfold eF;rw[acZ];by_cases e:f=q
 ·subst e;simp only[abB,adF,acK,adi,adQ,aaW];split
  ·rw[Lv]
  ·rfl
 ·have:(f==q)=false:=by simpa using e
  simp only[abB,adF,this,adi,aaO e]
def Lw{kc:List (Int×W)}{M3 M':Mem}{a n c h w:Nat}{vG:W}{ss aO:List Int}{m f:Int}{L:List Int}{x3:Option W}(I:ml kc M3 M' n c (ah h w) ss aO (h*w) m L)(ZW:n<M3.length)(fQ:c<M3.length)(s9:h*w<=9)(dW:ss.length<=81)(ho:M'[a]? =some (.ins a8 (lq h w vG (.ref n) (.ref c)))){p:W}: ((aN (tB (af iN (aa 2) (gC dO (aZ a8 fC (aa 0)) (aa 4) (aS (ag))))) (
  jm (aZ a8 fC (aa 0)) (aa 4) (b5 1 [] (bF (nM (aZ a8 fC (aa 0)) (aa 4))) (ar 5) (tB (af bV (aa 5) (aa 2))) (aa 5))) (
  aV):SM) [some (.ref a),some p,some (.int m),x3,some (.int f)] M').Sat {nx:=λσ N=>σ=[some (.ref a),some p,some (.int m),x3,some (.int f)]/\ml kc M3 N n c (ah h w) ss aO (h*w) m (L++[f])/\aX [n,c] M' N,rt:=λ_ _=>False}:=by
 obtain⟨kvs,hc,hk,j8,hv⟩:=I.cn;have e1:aZ a8 fC (aa 0) [some (.ref a),some p,some (.int m),x3,some (.int f)] M'=.ok (.ref c) M':=dk rfl ho rfl;have sP:br [] M'=.ok (.ref M'.length) (M'++[.lst []]):=b9 (by decide);have j_:=aD (pre_app M' [.lst []]) hc;have tF:c<M'.length:=(aaZ.mp hc).1;have ev:gC dO (aZ a8 fC (aa 0)) (aa 4) (aS (ag)) [some (.ref a),some p,some (.int m),x3,some (.int f)] M'=.ok ((aW kvs f).getD (.ref M'.length)) (M'++[.lst []]):=by simp only[gC,e1,R.bind,nr hc,aaW,aa,aaU,aaR,aS,ag,sP,dO,gX j_]
 have HQ:∀kv,(M'++[O.lst []])[c]? =some (.aI kv)->∀(q:Int) (k:Nat),aW kv q=some (.ref k)->M3.length<=k\/aW kc q=some (.ref k):=λkv e=>by rw[j_] at e;cases e;exact I.nw kvs hc
 have grow:ml kc M3 (M'++[.lst []]) n c (ah h w) ss aO (h*w) m L:=⟨HQ,I.kp.trans (aX.ee (pre_app _ _)),aD (pre_app _ _) I.nm,kvs,j_,hk,j8,λq=>by
  rcases hv q with z|⟨k,q1,q2,q3,q4⟩
  ·exact .inl z
  ·exact .inr ⟨k,q1,q2,q3,aD (pre_app _ _) q4⟩⟩
 have same:∀(H:∀k,aW kvs f=some (.ref k)->(eF (ah h w) ss (h*w) m L f).filter (λx=>!decide (x=m))=eF (ah h w) ss (h*w) m L f),ml kc M3 (M'++[.lst []]) n c (ah h w) ss aO (h*w) m (L++[f]):=λH=>
  ⟨HQ,grow.kp,grow.nm,kvs,j_,hk,j8,λq=>by
   rcases hv q with z|⟨k,q1,q2,q3,q4⟩
   ·exact .inl z
   ·refine .inr ⟨k,q1,q2,q3,?_⟩;rw[D0];by_cases e:f=q
    ·subst e;rw[aaN rfl,H k q1];exact aD (pre_app _ _) q4
    ·rw[aaO e];exact aD (pre_app _ _) q4⟩
 rcases hv f with⟨e,hE⟩|⟨k,e,hE,wH,hL⟩
 ·rw[e] at ev;have a7:=su (M:=M'++[.lst []]) (u:=.ref M'.length) (fs:=[]) m ⟨_,rfl,b8 _ _⟩;refine aM (c:=false) (M1:=M'++[O.lst []]) (bu (aY rfl ev a7)) (λz=>nomatch z) λ_=>?_
  exact⟨rfl,same (λk q=>by rw[e] at q;cases q),aX.ee (pre_app _ _)⟩
 ·rw[e] at ev;have B1:=aD (pre_app M' [.lst []]) hL;have a7:=su (M:=M'++[.lst []]) (u:=.ref k) (fs:=eF (ah h w) ss (h*w) m L f) m ⟨_,rfl,B1⟩;refine aM (c:=(eF (ah h w) ss (h*w) m L f).any (·==m)) (M1:=M'++[O.lst []]) (bu (aY rfl ev a7)) (λhm=>?_) λhm=>?_
  ·generalize hN:M'++[O.lst []]=N at*;have pN:M'<+:N:=by rw[<-hN];exact pre_app _ _
   have HR:=aD pN ho;have e2:∀x,aZ a8 fC (aa 0) [some (.ref a),some p,some (.int m),x3,x] N=.ok (.ref c) N:=λx=>dk rfl HR rfl
   have eg:nM (aZ a8 fC (aa 0)) (aa 4) [some (.ref a),some p,some (.int m),x3,some (.int f)] N=.ok (.ref k) N:=by simp only[nM,e2,aa,R.bind,aaU,aaR,sJ,gX j_,e]
   have hi:bF (nM (aZ a8 fC (aa 0)) (aa 4)) [some (.ref a),some p,some (.int m),x3,some (.int f)] N=.ok (((eF (ah h w) ss (h*w) m L f).map W.int).map .val,[(k,.lst ((eF (ah h w) ss (h*w) m L f).map .int))]) N:=by unfold bF;rw[eg];simp only[R.bind,B1]
   have cl:(eF (ah h w) ss (h*w) m L f).length<=9:=by
    have:=px (ah h w) ss (h*w) f;unfold eF;split
    ·exact aa1 (abK _ _) (by omega)
    ·omega
   have ec:b5 1 [] (bF (nM (aZ a8 fC (aa 0)) (aa 4))) (ar 5) (tB (af bV (aa 5) (aa 2))) (aa 5) [some (.ref a),some p,some (.int m),x3,some (.int f)] N=.ok (.ref N.length) (N++[.lst (((eF (ah h w) ss (h*w) m L f).filter (λx=>!decide (x=m))).map .int)]):=by
    unfold b5;rw[hi];simp only[R.bind,du,acv,abY,ab7,ab0,abl];rw[jd (σ:=[some (.ref a),some p,some (.int m),x3,some (.int f),none]) (λx=>match x with|.int i=>!decide (i=m)|_=>false) id _ _ _ (λ_=>rfl) (by simp[b7.ok,B1]) ?_]
    ·simp only[abl,adO];have:List.filter (λx=>match x with|.int i=>!decide (i=m)|_=>false) ((eF (ah h w) ss (h*w) m L f).map W.int)=((eF (ah h w) ss (h*w) m L f).filter (λx=>!decide (x=m))).map W.int:=by rw[ac0];rfl
     rw[this];exact b9 (by rw[aaV];exact aa1 (abK _ _) (by omega))
    ·intro z hz;obtain⟨i,_,rfl⟩:=aa7.mp hz;exact⟨bu (aY rfl rfl ne_int),λ_=>rfl⟩
   have nl:N.length=M'.length+1:=by rw[<-hN];simp
   have G3:(N++[O.lst (((eF (ah h w) ss (h*w) m L f).filter (λx=>!decide (x=m))).map .int)])[c]? =some (.aI kvs):=aD (pre_app _ _) j_;refine rX (i:=f) (v:=.ref N.length) (a:=c) (kvs:=kvs) ec (dk rfl (aD (pre_app _ _) HR) rfl) rfl G3 (by omega) ?_;have Gu:((N++[O.lst (((eF (ah h w) ss (h*w) m L f).filter (λx=>!decide (x=m))).map .int)]).set c (.aI (dput kvs f (.ref N.length))))[c]? =some (.aI (dput kvs f (.ref N.length))):=by rw[abr];simp;omega
   refine⟨rfl,⟨λkv e q k z=>?_,?_,?_,dput kvs f (.ref N.length),?_,?_,Dv _ j8,λq=>?_⟩,?_⟩
   ·rw[Gu] at e;cases e;rw[pJ] at z;by_cases eq:q=f
    ·rw[aaN eq] at z;cases z;have:=I.kp.1;exact .inl (by omega)
    ·rw[aaO eq] at z;exact I.nw kvs hc q k z
   ·exact grow.kp.trans ((aX.ee (pre_app _ _)).trans (aX.set _ (by simp)))
   ·have:n≠c:=by rintro rfl;rw[I.nm] at hc;cases hc
    rw[abe (abc this)];exact aD (pre_app _ _) grow.nm
   ·exact Gu
   ·rw[JO _ e];exact hk
   ·have mR:∀(k':Nat) (l:List W),(N++[O.lst (((eF (ah h w) ss (h*w) m L f).filter (λx=>!decide (x=m))).map .int)])[k']? =some (.lst l)->((N++[O.lst (((eF (ah h w) ss (h*w) m L f).filter (λx=>!decide (x=m))).map .int)]).set c (.aI (dput kvs f (.ref N.length))))[k']? =some (.lst l):=λk' l z=>by
     have:k'≠c:=by rintro rfl;rw[G3] at z;cases z
     rw[abe (abc this)];exact z
    rw[pJ,D0];by_cases eq:q=f
    ·subst eq;rw[aaN rfl,aaN rfl];refine .inr ⟨N.length,rfl,hE,?_,mR _ _ (b8 _ _)⟩;have:=I.kp.1;omega
    ·rw[aaO eq,aaO (λz=>eq z.symm)];rcases hv q with z|⟨k',q1,q2,q3,q4⟩
     ·exact .inl z
     ·exact .inr ⟨k',q1,q2,q3,mR _ _ (aD (pN.trans (pre_app _ _)) q4)⟩
   ·exact(aX.ee (pN.trans (pre_app _ _))).trans (aX.set _ (by simp))
  ·exact⟨rfl,same (λk _=>Lu hm),aX.ee (pre_app _ _)⟩
def OP{h w:Nat}(hh:1<=h/\h<=3)(hw:1<=w/\w<=3){p:Nat}(hp:p<h*w*(h*w))(i:Nat):jV (ah h w) p i=((cE h w p).flatMap λg=>(ah h w).getD g.toNat []).any (·==(i:Int)):=by
 have a7:=iz hh hw;rw[abw];unfold jV;rw[aa0,aa0];constructor
 ·rintro⟨g,hg,e⟩;rw[aaT,aa0,aa0] at e;obtain⟨⟨x,hx,ex⟩,q,hq,eq⟩:=e;have qx:x=(p:Int):=by simpa using ex
  subst qx;obtain⟨j,hj,rfl⟩:=adn hg;have qL:j<3*(h*w):=by rw[<-nC];exact hj
  have eg:(ah h w).getD j []=(ah h w)[j]:=by simp[List.getD,hj]
  have Vn:=(uI hh hw hp qL).mp (by rw[eg];exact hx);have Vo:=((a7 _ hg).2 q hq).1;have Vp:i=q.toNat:=abx eq;refine⟨(i:Int),List.mem_flatMap.mpr ⟨(j:Int),aa7.mpr ⟨j,Vn,rfl⟩,?_⟩,by simp⟩;rw[abf,eg,Vp,Int.toNat_of_nonneg Vo];exact hq
 ·rintro⟨x,hx,ex⟩;have qx:x=(i:Int):=by simpa using ex
  subst qx;obtain⟨g,hg,B3⟩:=List.mem_flatMap.mp hx;obtain⟨j,hj,rfl⟩:=aa7.mp hg;rw[abf] at B3;have qL:=sv hh hw hp j hj;have hl:j<(ah h w).length:=by rw[nC];exact qL
  have eg:(ah h w).getD j []=(ah h w)[j]:=by simp[List.getD,hl]
  have vR:=(uI hh hw hp qL).mpr hj;rw[eg] at B3 vR;refine⟨_,acy hl,?_⟩;rw[aaT,aa0,aa0];exact⟨⟨_,vR,by simp⟩,_,B3,by simp⟩
def Fl{ss:List Int}{p q m:Int}(hp:0<=p)(fA:p<(ss.length:Int))(hm:m≠0):gD (ss.set p.toNat m) q↔gD ss q/\q≠p:=by
 unfold gD;rw[abN];constructor
 ·rintro⟨h0,h1,h2⟩;rw[l4 ss p q m hp fA h0] at h2;by_cases e:q=p
  ·rw[aaN e] at h2;exact(hm h2).elim
  ·rw[aaO e] at h2;exact⟨⟨h0,h1,h2⟩,e⟩
 ·rintro⟨⟨h0,h1,h2⟩,e⟩;refine⟨h0,h1,?_⟩;rw[l4 ss p q m hp fA h0,aaO e];exact h2
def OQ{h w:Nat}(hh:1<=h/\h<=3)(hw:1<=w/\w<=3){ss:List Int}(hl:ss.length=h*w*(h*w)){p:Nat}(hp:p<ss.length)(h0:aq ss p=0){m:Int}(hm:m≠0){q:Int}(hq:gD (ss.set p m) q):
 rowOf (ah h w) (ss.set p m) (h*w) q=eF (ah h w) ss (h*w) m ((cE h w p).flatMap λg=>(ah h w).getD g.toNat []) q:=by
 have hE:=(Fl (ss:=ss) (p:=(p:Int)) (by omega) (by omega) hm).mp (by rw[abf];exact hq);obtain⟨⟨q0,q1,q2⟩,qp⟩:=hE;have a7:=iz hh hw;obtain⟨i,rfl⟩:=aec q0;have hi:i<ss.length:=by have:(i:Int)<_:=q1;omega
 have t1:=jc (ah h w) (ss.set p m) (h*w) i (by rw[abN];exact hi);have hT:=Fj (G:=ah h w) (ss:=ss) (s:=h*w) (p:=(p:Int)) (n:=m) (by omega) (by omega) h0 hm (λg hg i hi=>by rw[hl];exact(a7 g hg).2 i hi);rw[abf] at hT;show rowOf (ah h w) (ss.set p m) (h*w) (i:Int)=_;rw[<-t1,<-hT];unfold mF;rw[yV,uK,iw,abf];have fw:¬(i=p/\p<ss.length):=λz=>qp (by rw[z.1])
 rw[aaO fw,jc _ _ _ _ hi,OP hh hw (by rw[<-hl];exact hp) i];rfl
def Ad(c:Nat)(M M':Mem):Prop:=∀kvs,M'[c]? =some (.aI kvs)->∀(q:Int) (k:Nat),aW kvs q=some (.ref k)->M.length<=k\/∃kc,M[c]? =some (.aI kc)/\aW kc q=some (.ref k)
def sC(f:CM):Prop:=∀(M:Mem) (a n c h w:Nat) (ss:List Int) (p m:Int),1<=h/\h<=3->1<=w/\w<=3->cG M a n c h w ss->bC (h*w) ss->gD ss p->m≠0->
 ∃M',f [.ref a,.int p,.int m] M=.ok .ao M'/\cG M' a n c h w (ss.set p.toNat m)/\aX [n,c] M M'/\Ad c M M'
def uh{α:Type}(l:List α)(j:Nat){x:α}(h:l[j]? =some x):l.take (j+1)=l.take j++[x]:=by rw[acb,h];rfl
def D1{f:CM}(hf:z9 f):sC (PB.o_ f):=by
 intro M a n c h w ss p m hh hw S sh hE hm;obtain⟨s1,s9⟩:=jx hh hw;have sl:=sh.len;have dW:ss.length<=81:=by rw[sl];exact abv s9 s9
 obtain⟨p0,p1,pz⟩:=hE;obtain⟨pn,rfl⟩:=aec p0;have p0:(0:Int)<=(pn:Int):=p0;have p1:(pn:Int)<(ss.length:Int):=p1;have pz:aq ss (pn:Int)=0:=pz;show∃M',PB.o_ f [.ref a,.int (pn:Int),.int m] M=.ok .ao M'/\cG M' a n c h w (ss.set (pn:Int).toNat m)/\aX [n,c] M M'/\Ad c M M';rw[abf];have B4:pn<ss.length:=by omega
 obtain⟨⟨vG,ob,eX⟩,nm,kvs,hc,c1,c2,c3⟩:=S;have f_:=iz hh hw;have wI:a∉[n,c]:=λz=>by
  simp only[aaX,aa',aba] at z;rcases z with z|z
  ·rw[z,nm] at ob;cases ob
  ·rw[z,hc] at ob;cases ob
 have nc:n≠c:=by rintro rfl;rw[nm] at hc;cases hc
 have HS:n<M.length:=(aaZ.mp nm).1;have Vq:c<M.length:=(aaZ.mp hc).1;have key:∃r M',PB.o_ f [.ref a,.int (pn:Int),.int m] M=.ok r M'/\(r=.ao/\cG M' a n c h w (ss.set pn m)/\aX [n,c] M M'/\Ad c M M'):=by
  refine bM rfl ?_;show(aj _ _ [some (.ref a),some (.int (pn:Int)),some (.int m),none,none] M).Sat _;generalize mO:ss.set pn m=aO;have Vr:(ss.map W.int).set pn (.int m)=aO.map .int:=by rw[<-mO,adk]
  refine aB (pT (v:=.int m) (M1:=M) (bj:=[some (.ref a),some (.int (pn:Int)),some (.int m),none,none]) (M2:=M.set n (.lst (aO.map .int))) rfl ?_ ?_)
  ·have e1:aZ a8 fN (aa 0) [some (.ref a),some (.int (pn:Int)),some (.int m),none,none] M=.ok (.ref n) M:=dk rfl ob rfl;have ix:cK ((ss.map W.int).length) (pn:Int)=some pn:=by unfold cK;rw[aaN p0,aaN (by rw[aaV];exact p1),abf]
   simp only[eQ,e1,aa,R.bind,aaU,aaR,gW nm,ix,Vr]
  generalize i8:M.set n (O.lst (aO.map .int))=M1;have k1:aX [n,c] M M1:=by rw[<-i8];exact aX.set _ (by simp)
  have Vs:M1[n]? =some (.lst (aO.map .int)):=by rw[<-i8];exact abr HS
  have B5:M1[c]? =some (.aI kvs):=by rw[<-i8,abe nc];exact hc
  have Vt:=k1.get ob wI;have pv:∃k,aW kvs (pn:Int)=some (.ref k):=by
   rcases c3 (pn:Int) with⟨_,z⟩|⟨k,e,_⟩
   ·exact(z ⟨p0,p1,pz⟩).elim
   ·exact⟨k,e⟩
  obtain⟨kp,Vu⟩:=pv;refine aB (e_ (v:=.ref kp) (M1:=M1.set c (.aI (iD kvs (pn:Int)))) ?_ ?_)
  ·have e1:aZ a8 fC (aa 0) [some (.ref a),some (.int (pn:Int)),some (.int m),none,none] M1=.ok (.ref c) M1:=dk rfl Vt rfl;simp only[jv,e1,R.bind,nr B5,aaW,aa,aaU,aaR,qm,gX B5,Vu]
  generalize dU:M1.set c (O.aI (iD kvs (pn:Int)))=M2;have k2:aX [n,c] M M2:=k1.trans (by rw[<-dU];exact aX.set _ (by simp));have l2:M2.length=M.length:=by rw[<-dU,<-i8];simp
  have Vv:M2[n]? =some (.lst (aO.map .int)):=by rw[<-dU,abe (abc nc)];exact Vs
  have fP:M2[c]? =some (.aI (iD kvs (pn:Int))):=by rw[<-dU];exact abr (aaZ.mp B5).1
  have wJ:=k2.get ob wI;have gI:∀g∈cE h w pn,0<=g/\g<((ah h w).length:Int):=λg hg=>by obtain⟨i,hi,rfl⟩:=aa7.mp hg;have:=sv hh hw (by rw[<-sl];exact B4) i hi;rw[nC];exact⟨acW _,by omega⟩
  have em:=λq=>Fl (ss:=ss) (p:=(pn:Int)) (q:=q) (m:=m) p0 p1 hm
  rw[abf,mO] at em;have eg:=hf h w pn M2 hh hw (by rw[<-sl];exact B4);generalize qM:M2++[O.lst ((cE h w pn).map .int)]=M3 at eg;have lE:M2<+:M3:=by rw[<-qM];exact pre_app _ _
  have k3:aX [n,c] M M3:=k2.trans (aX.ee lE);have l3:M3.length=M.length+1:=by rw[<-qM];simp[l2]
  have HU:M3[M2.length]? =some (.lst ((cE h w pn).map .int)):=by rw[<-qM];exact b8 _ _
  have I0:ml kvs M3 M3 n c (ah h w) ss aO (h*w) m []:=⟨λkv e q k z=>by rw[aD lE fP] at e;cases e;rw[DW] at z;split at z;cases z;exact .inr z,aX.refl _ _,aD lE Vv,_,aD lE fP,aa1 (Ln _ _) c1,Ka _ c2,λq=>by
   rw[DW];by_cases e:q=(pn:Int)
   ·rw[aaN e];exact .inl ⟨rfl,λz=>((em q).mp z).2 e⟩
   ·rw[aaO e];rcases c3 q with⟨z1,z2⟩|⟨k,z1,z2,z3,z4⟩
    ·exact .inl ⟨z1,λz=>z2 ((em q).mp z).1⟩
    ·refine .inr ⟨k,z1,(em q).mpr ⟨z2,e⟩,z3,?_⟩;refine k3.get z4 λz=>?_
     simp only[aaX,aa',aba] at z;rcases z with z|z
     ·omega
     ·rw[z,hc] at z4;cases z4⟩
  have G4:i9 n M3 vG (ah h w):=eX.keep k3 (sA hc);have Vw:M2.length∉[n,c]:=λz=>by simp only[aaX,aa',aba] at z;rcases z with z|z<;>omega
  have B6:∀{M':Mem} {L:List Int},ml kvs M3 M' n c (ah h w) ss aO (h*w) m L->M'[a]? =some (.ins a8 (lq h w vG (.ref n) (.ref c))):=λI=>I.kp.get (k3.get ob wI) wI
  refine fb (v:=.ref M2.length) (xs:=(cE h w pn).map .int) (M1:=M3) ?_ ⟨_,rfl,HU⟩ (λj σ M'=>(∃x y,σ=[some (.ref a),some (.int (pn:Int)),some (.int m),x,y])/\ml kvs M3 M' n c (ah h w) ss aO (h*w) m (((cE h w pn).take j).flatMap λg=>(ah h w).getD g.toNat []))
   ⟨⟨_,_,rfl⟩,I0⟩ ?_ ?_ ?_
  ·exact Fc rfl wJ rfl rfl rfl eg
  ·rintro j σ M' hj ⟨_,I⟩;exact⟨_,rfl,I.kp.get HU Vw⟩
  ·rintro j x σ M' hx ⟨⟨x',y',rfl⟩,I⟩;obtain⟨g,hg,rfl,wy⟩:=iU hx;obtain⟨g0,g1⟩:=gI g hg;simp only[aaP,aaQ];have Bf:∃kv,M3[c]? =some (.aI kv):=⟨_,aD lE fP⟩;obtain⟨ZX,Bf⟩:=Bf;obtain⟨b,eb,B7,hb⟩:=Ay (G4.keep I.kp (sA Bf)) g0 g1;obtain⟨HV,B8,_⟩:=I.cn;have tH:b∉[n,c]:=sA B8 b _ hb B7;refine fb (v:=.ref b) (xs:=((ah h w).getD g.toNat []).map .int) (M1:=M') (aY (dk rfl (B6 I) rfl) rfl eb) ⟨_,rfl,hb⟩ (λi σ bP=>(∃y,σ=[some (.ref a),some (.int (pn:Int)),some (.int m),some (.int g),y])/\ml kvs M3 bP n c (ah h w) ss aO (h*w) m ((((cE h w pn).take j).flatMap λg=>(ah h w).getD g.toNat [])++((ah h w).getD g.toNat []).take i)/\aX [n,c] M' bP)
    ⟨⟨_,rfl⟩,by simpa using I,aX.refl _ _⟩ ?_ ?_ ?_
   ·rintro i σ bP hi ⟨_,I2,k⟩;exact⟨_,rfl,k.get hb tH⟩
   ·rintro i x σ bP lr ⟨⟨y,rfl⟩,I2,k⟩;obtain⟨fd,HW,rfl,Vx⟩:=iU lr;simp only[aaP,aaQ];refine RS.Sat.mono (Lw (f:=fd) I2 (by omega) (by omega) s9 dW (B6 I2)) ?_ ?_ ?_ ?_
    ·rintro σ N ⟨rfl,I3,k'⟩;refine⟨⟨_,rfl⟩,?_,k.trans k'⟩;rw[uh _ _ Vx,<-abZ];exact I3
    ·exactλ_ _ z=>z.elim
    ·exactλ_ _ z=>z.elim
    ·exactλ_ _ z=>z.elim
   ·rintro σ bP ⟨⟨y,rfl⟩,I2,k⟩;refine⟨⟨_,_,rfl⟩,?_⟩;rw[aaV,aby] at I2;rw[uh _ _ wy,List.flatMap_append];simpa using I2
  ·rintro σ M' ⟨⟨x,y,rfl⟩,I⟩;rw[aaV,aby] at I;refine⟨rfl,?_,k3.trans I.kp,λkv e q k z=>?_⟩
   rotate_left
   ·rcases I.nw kv e q k z with z|z
    ·exact .inl (by omega)
    ·exact .inr ⟨kvs,hc,z⟩
   obtain⟨HV,B8,d1,d2,d3⟩:=I.cn;refine⟨⟨vG,B6 I,G4.keep I.kp (sA (aD lE fP))⟩,I.nm,HV,B8,by rw[<-mO,abN];exact d1,d2,λq=>?_⟩;rcases d3 q with z|⟨k,z1,z2,z3,z4⟩
   ·exact .inl z
   ·refine .inr ⟨k,z1,z2,z3,?_⟩;have:=OQ hh hw sl B4 pz hm (q:=q) (by rw[mO];exact z2);rw[mO] at this;rw[this];exact z4
 obtain⟨r,M',e,rfl,q⟩:=key;exact⟨M',e,q⟩
def MP{c:b7}{g:GM}{t:TM}{elt:EM}(aQ:List Src)(P:Nat->St->Mem->List W->Prop)(hs:∀(j:Nat) x σ M acc,aQ[j]? =some x->P j σ M acc->c.ok M=true/\∃v M1 bj M2 b M3,x.get M=.ok v M1/\g v σ M1=.ok bj M2/\t bj M2=.ok b M3/\(b=true->∃y M4,elt bj M3=.ok y M4/\P (j+1) bj M4 (acc++[y]))/\(b=false->P (j+1) bj M3 acc))(hd:∀σ M acc,P aQ.length σ M acc->c.ok M=true):∀(j:Nat) (σ:St) (M:Mem) (acc:List W),j<=aQ.length->P j σ M acc->∃aA M' ys,comp c g t elt (aQ.drop j) σ M acc=.ok ys M'/\P aQ.length aA M' ys:=by
 intro j;generalize hk:aQ.length-j=k;induction k generalizing j with
 |zero=>
  intro σ M acc hj hp;have e:j=aQ.length:=by omega
  subst e;refine⟨σ,M,acc,?_,hp⟩;rw[adf,comp,aaN (hd σ M acc hp)]
 |succ k ih=>
  intro σ M acc hj hp;have dG:j<aQ.length:=by omega
  obtain⟨h1,v,M1,bj,M2,b,M3,h2,h3,h4,h5,h6⟩:=hs j aQ[j] σ M acc (by simp[dG]) hp;rw[adg dG,comp,aaN h1];simp only[h2,R.bind,h3,h4];cases b with
  |true=>obtain⟨y,M4,h7,h8⟩:=h5 rfl;simp only[aaW,h7];exact ih (j+1) (by omega) bj M4 _ (by omega) h8
  |false=>simp only[abi,aa_];exact ih (j+1) (by omega) bj M3 _ (by omega) (h6 rfl)
def D2{σ:St}{M:Mem}{i:IM}{k:Nat}{t:TM}{cl:List Nat}(kk:Nat)(s:Nat)(hi:i σ M=.ok (cJ 1 s,[]) M)(p:Int->Bool)(hs:s<=9)(ht:∀n,t ((du cl (σ++List.replicate kk none)).set k (some (.int n))) M=.ok (p n) M)(hk:∀n,aa k ((du cl (σ++List.replicate kk none)).set k (some (.int n))) M=.ok (.int n) M):
 b5 kk cl i (ar k) t (aa k) σ M=.ok (.ref M.length) (M++[.lst (((nums s).filter p).map .int)]):=by
 unfold b5;rw[hi];simp only[R.bind,pq];rw[jd (σ:=du cl (σ++List.replicate kk none)) (λx=>match x with|.int n=>p n|_=>false) id _ _ _ (λ_=>rfl) rfl ?_]
 ·simp only[abl,adO];have:List.filter (λx=>match x with|.int n=>p n|_=>false) (i7 1 s)=((nums s).filter p).map W.int:=by rw[Dw,ac0];rfl
  rw[this];refine b9 ?_;rw[aaV];refine aa1 (abK _ _) ?_;simp[nums];omega
 ·intro z hz;obtain⟨j,_,rfl⟩:=aa7.mp hz;exact⟨ht _,λ_=>hk _⟩
def Ey{σ:St}{M:Mem}{a:Nat}{fs:List (List Nat×W)}{h w:Nat}(hh:1<=h/\h<=3)(hw:1<=w/\w<=3)(hi:σ[0]? =some (some (.ref a)))(ho:M[a]? =some (.ins a8 fs))(f1:c9 fH fs=some (.int h))(f2:c9 fW fs=some (.int w)):
 dM (eC (.int 1)) (af bp (af bN (aZ a8 fH (aa 0)) (aZ a8 fW (aa 0))) (eC (.int 1))) σ M=.ok (cJ 1 (h*w),[]) M:=by
 obtain⟨s1,s9⟩:=jx hh hw;have e1:af bp (af bN (aZ a8 fH (aa 0)) (aZ a8 fW (aa 0))) (eC (.int 1)) σ M=.ok (.int (((h*w:Nat):Int)+1)) M:=aY (Fd hh.2 hi ho f1 f2) rfl rfl;have r2:(1:Int).natAbs<bJ/\(((h*w:Nat):Int)+1).natAbs<bJ:=⟨dc (by omega) (by omega),dc (by omega) (by omega)⟩;have n2:(((h*w:Nat):Int)+1-1).toNat=h*w:=by omega
 simp only[dM,e1,R.bind,eC];rw[aaN r2,n2]
def lF(G:List (List Int))(ss:List Int)(s:Nat)(g:Int):List Int:=(nums s).filter λm=>decide (1<(cnt m ((G.getD g.toNat []).map (aq ss)):Int))
def zL(L:List (List Int)->List Int->Nat->Int->List Int)(f:CM):Prop:=∀(M:Mem) (a n c h w:Nat) (ss:List Int) (g:Int),1<=h/\h<=3->1<=w/\w<=3->cG M a n c h w ss->bC (h*w) ss->0<=g->g<((ah h w).length:Int)->
 ∃v M',f [.ref a,.int g] M=.ok v M'/\M<+:M'/\aP M' v (L (ah h w) ss (h*w) g)
def JC:zL lF PB.rg:=by
 intro M a n c h w ss g hh hw S sh g0 g1;obtain⟨s1,s9⟩:=jx hh hw;obtain⟨⟨vG,ob,eX⟩,nm,_⟩:=S;obtain⟨BP,f_⟩:=iz hh hw _ (getD_mem g0 g1);obtain⟨b,eb,B7,hb⟩:=Ay eX g0 g1;have key:∃r M',PB.rg [.ref a,.int g] M=.ok r M'/\(M<+:M'/\aP M' r (lF (ah h w) ss (h*w) g)):=by
  refine bM rfl ?_;show(aj _ _ [some (.ref a),some (.int g),none] M).Sat _;have e1:=z7 (σ:=[some (.ref a),some (.int g),none]) (M:=M) (vg:=.ref b) (vf:=.ref n) (g:=(ah h w).getD g.toNat []) (fs:=ss) (af av (aZ a8 fG (aa 0)) (aa 1)) (aZ a8 fN (aa 0)) 3 (aY (dk rfl ob rfl) rfl eb) ⟨_,rfl,hb⟩ ⟨_,rfl,nm⟩ (λi hi=>by rw[sh.len];exact f_ i hi) (by omega) (λx=>dk rfl ob rfl) (λx=>rfl)
  refine aB (bL e1 ?_);simp only[aaP,aaQ];generalize hN:M++[O.lst ((((ah h w).getD g.toNat []).map (aq ss)).map .int)]=N;have pN:M<+:N:=by rw[<-hN];exact pre_app _ _
  have hL:N[M.length]? =some (.lst ((((ah h w).getD g.toNat []).map (aq ss)).map .int)):=by rw[<-hN];exact b8 _ _
  have e2:=D2 (σ:=[some (.ref a),some (.int g),some (.ref M.length)]) (M:=N) (k:=3) (cl:=[]) (t:=tB (af jt (b_ kJ (aa 2) (ae (aa 3) ag)) (eC (.int 1)))) 1 (h*w) (Ey hh hw rfl (aD pN ob) rfl rfl) (λm=>decide (1<(cnt m (((ah h w).getD g.toNat []).map (aq ss)):Int))) s9 (λm=>?_) (λm=>rfl)
  ·exact aR e2 ⟨pN.trans (pre_app _ _),aF.new _ _⟩
  ·have ec:b_ kJ (aa 2) (ae (aa 3) ag) [some (.ref a),some (.int g),some (.ref M.length),some (.int m)] N=.ok (.int (cnt m (((ah h w).getD g.toNat []).map (aq ss)))) N:=by simp only[b_,aa,R.bind,aaU,aaR,fS hL,ae,ag,zy m ⟨_,rfl,hL⟩]
   exact bu (aY ec rfl gt_int)
 obtain⟨r,M',e,q⟩:=key;exact⟨r,M',e,q⟩
def jf(G:List (List Int))(ss:List Int)(s:Nat)(fs:List Int)(m:Int):Bool:=fs.any λf=>decide (aq ss f=m)||(rowOf G ss s f).any (·==m)
def mS(G:List (List Int))(ss:List Int)(s:Nat)(g:Int):List Int:=(nums s).filter λm=>!jf G ss s (G.getD g.toNat []) m
def FY{M M':Mem}{o o':O}(p:M<+:M')(h:M'[M.length]? =some o):M<+:M'.set M.length o'/\(M'.set M.length o')[M.length]? =some o':=⟨uT p (aaY _) _,abr (aaZ.mp h).1⟩
def Kf:zL mS PB.qX:=by
 intro M a n c h w ss g hh hw S sh g0 g1;obtain⟨s1,s9⟩:=jx hh hw;have sl:=sh.len;obtain⟨⟨vG,ob,eX⟩,nm,kc,hc,wD,j9,i_⟩:=S;obtain⟨BP,f_⟩:=iz hh hw _ (getD_mem g0 g1);obtain⟨b,eb,B7,hb⟩:=Ay eX g0 g1;have key:∃r M',PB.qX [.ref a,.int g] M=.ok r M'/\(M<+:M'/\aP M' r (mS (ah h w) ss (h*w) g)):=by
  refine bM rfl ?_;show(aj _ _ [some (.ref a),some (.int g),none,none,none] M).Sat _;refine aB (bL (v:=.ref M.length) (M1:=M++[.aI []]) rfl ?_);simp only[aaP,aaQ];refine aB ?_;have B9:av vG (.int g) (M++[.aI []])=.ok (.ref b) (M++[.aI []]):=by
   obtain⟨ws,⟨b2,rfl,_,q⟩,r⟩:=eX;have q':=aD (pre_app M [.aI []]) q;simp only[av,lZ q,lZ q'] at eb⊢;cases z:cR ws g with
   |none=>rw[z] at eb;cases eb
   |some y=>rw[z] at eb;cases eb;rfl
  generalize oE:(ah h w).getD g.toNat []=gr at*;refine fb (v:=.ref b) (xs:=gr.map .int) (M1:=M++[O.aI []]) (aY (dk rfl (aD (pre_app _ _) ob) rfl) rfl B9) ⟨_,rfl,aD (pre_app _ _) hb⟩ (λj σ M'=>(∃x y,σ=[some (.ref a),some (.int g),some (.ref M.length),x,y])/\M<+:M'/\∃kvs,M'[M.length]? =some (.aI kvs)/\kvs.length<=10*j/\∀m,(aW kvs m).isSome=jf (ah h w) ss (h*w) (gr.take j) m)
   ⟨⟨_,_,rfl⟩,pre_app _ _,[],b8 _ _,by simp,λm=>rfl⟩ ?_ ?_ ?_
  ·rintro j σ M' hj ⟨_,p,_⟩;exact⟨_,rfl,aD p hb⟩
  ·rintro j x σ M' hx ⟨⟨x',y',rfl⟩,p,kvs,hd,hk,hv⟩;obtain⟨f,hf,rfl,qI⟩:=iU hx;obtain⟨f0,f1⟩:=f_ f hf;have wF:f<(ss.length:Int):=by rw[sl];exact f1
   have jl:j<gr.length:=(aaZ.mp qI).1;simp only[aaP,aaQ];refine aB (rX (M1:=M') (M2:=M') (M3:=M') (a:=M.length) (i:=aq ss f) (v:=.bl true) (kvs:=kvs) rfl rfl (aY (dk rfl (aD p ob) rfl) rfl (eA ⟨_,rfl,aD p nm⟩ f0 wF)) hd (by omega) ?_);obtain⟨p1,B_⟩:=FY (o':=.aI (dput kvs (aq ss f) (.bl true))) p hd;generalize i8:M'.set M.length (.aI (dput kvs (aq ss f) (.bl true)))=M1 at p1 B_;have jy:∀m,(aW (dput kvs (aq ss f) (.bl true)) m).isSome=(jf (ah h w) ss (h*w) (gr.take j) m||decide (aq ss f=m)):=λm=>by
    rw[pJ,<-hv m];by_cases e:m=aq ss f
    ·rw[aaN e,abF e.symm];simp
    ·rw[aaO e,abm (λz=>e z.symm)];simp
   have wK:(dput kvs (aq ss f) (.bl true)).length<=10*j+1:=by have:=uG kvs (aq ss f) (.bl true);omega
   have BV:=aD p1 ob;have oF:=aD p1 hc;have sP:br [] M1=.ok (.ref M1.length) (M1++[.lst []]):=b9 (by decide);have j_:=aD (pre_app M1 [.lst []]) oF;have ev:gC dO (aZ a8 fC (aa 0)) (aa 3) (aS (ag)) [some (.ref a),some (.int g),some (.ref M.length),some (.int f),y'] M1=.ok ((aW kc f).getD (.ref M1.length)) (M1++[.lst []]):=by have e1:aZ a8 fC (aa 0) [some (.ref a),some (.int g),some (.ref M.length),some (.int f),y'] M1=.ok (.ref c) M1:=dk rfl BV rfl;simp only[gC,e1,R.bind,nr oF,aaW,aa,aaU,aaR,aS,ag,sP,dO,gX j_]
   have fin:∀m,jf (ah h w) ss (h*w) (gr.take (j+1)) m=(jf (ah h w) ss (h*w) (gr.take j) m||(decide (aq ss f=m)||(rowOf (ah h w) ss (h*w) f).any (·==m))):=λm=>by unfold jf;rw[t4 _ _ _ qI]
   rcases i_ f with⟨e,hE⟩|⟨k,e,hE,eJ,hL⟩
   ·rw[e] at ev;refine Fe ev ⟨_,rfl,b8 _ _⟩ ⟨⟨_,_,rfl⟩,p1.trans (pre_app _ _),_,aD (pre_app _ _) B_,by omega,λm=>?_⟩;have hz:aq ss f≠0:=λz=>hE ⟨f0,wF,z⟩
    rw[jy m,fin m,z_ hz];simp
   ·rw[e] at ev;refine fb ev ⟨k,rfl,aD (p1.trans (pre_app _ _)) hL⟩ (λi σ bP=>(∃y,σ=[some (.ref a),some (.int g),some (.ref M.length),some (.int f),y])/\M<+:bP/\∃kvs,bP[M.length]? =some (.aI kvs)/\kvs.length<=10*j+1+i/\∀m,(aW kvs m).isSome=((jf (ah h w) ss (h*w) (gr.take j) m||decide (aq ss f=m))||((rowOf (ah h w) ss (h*w) f).take i).any (·==m)))
     ⟨⟨_,rfl⟩,p1.trans (pre_app _ _),_,aD (pre_app _ _) B_,by omega,λm=>by rw[jy m];simp⟩ ?_ ?_ ?_
    ·rintro i σ bP hi ⟨_,p2,_⟩;exact⟨k,rfl,aD p2 hL⟩
    ·rintro i x σ bP lr ⟨⟨y,rfl⟩,p2,sR,hd2,qJ,oy⟩;obtain⟨m0,U8,rfl,tG⟩:=iU lr;simp only[aaP,aaQ];have il:i<(rowOf (ah h w) ss (h*w) f).length:=(aaZ.mp tG).1;have rl:=px (ah h w) ss (h*w) f;refine rX (M1:=bP) (M2:=bP) (M3:=bP) (a:=M.length) (i:=m0) (v:=.bl true) (kvs:=sR) rfl rfl rfl hd2 (by omega) ?_;obtain⟨p3,Vy⟩:=FY (o':=.aI (dput sR m0 (.bl true))) p2 hd2;refine⟨⟨_,rfl⟩,p3,_,Vy,?_,λm=>?_⟩
     ·have:=uG sR m0 (.bl true);omega
     ·rw[pJ,t4 _ _ _ tG,<-adN,<-oy m];by_cases e:m=m0
      ·rw[aaN e,e];simp
      ·have:(m0==m)=false:=by simpa usingλz:m0=m=>e z.symm
       rw[aaO e,this];simp
    ·rintro σ bP ⟨⟨y,rfl⟩,p2,sR,hd2,qJ,oy⟩;have rl:=px (ah h w) ss (h*w) f;rw[aaV] at qJ;refine⟨⟨_,_,rfl⟩,p2,sR,hd2,by omega,λm=>?_⟩;rw[oy m,aaV,aby,fin m,adN]
  ·rintro σ M' ⟨⟨x,y,rfl⟩,p,kvs,hd,hk,hv⟩;dsimp only;have e2:=D2 (σ:=[some (.ref a),some (.int g),some (.ref M.length),x,y]) (M:=M') (k:=4) (cl:=[4]) (t:=tB (nV true (aa 4) (aa 2))) 0 (h*w) (Ey hh hw rfl (aD p ob) rfl rfl) (λm=>!jf (ah h w) ss (h*w) gr m) s9 (λm=>?_) (λm=>rfl)
   ·have el:mS (ah h w) ss (h*w) g=(nums (h*w)).filter (λm=>!jf (ah h w) ss (h*w) gr m):=by unfold mS;rw[oE]
    rw[el];exact aR e2 ⟨p.trans (pre_app _ _),aF.new _ _⟩
   ·have oh:=hv m;rw[aaV,aby] at oh;show tB (nV true (aa 4) (aa 2)) [some (.ref a),some (.int g),some (.ref M.length),x,some (.int m)] M'=_;simp only[tB,nV,af,aa,R.bind,aaU,aaR,FT true _ hd,oh];simp
 obtain⟨r,M',e,q⟩:=key;exact⟨r,M',e,q⟩
def Ae{M:Mem}{a g:Nat}{kvs:List (Int×W)}(h:M[a]? =some (.a6 g kvs)):df [(a,.a6 g kvs)] M=some (M.set a (.aI kvs)):=aaN h
def rZ{M N:Mem}{a:Nat}{o o':O}(h:M[a]? =some o)(p:M.set a o'<+:N):M<+:N.set a o:=by
 obtain⟨J,rfl⟩:=p;have ha:a<M.length:=(aaZ.mp h).1;rw[adJ _ _ (by simpa using ha),List.set_set];have:M.set a o=M:=by
  apply adS;intro i;by_cases e:i=a
  ·subst e;rw[abr ha,h]
  ·rw[abe (abc e)]
 rw[this];exact pre_app _ _
def Az{M:Mem}{a b:Nat}{kvs:List (Int×W)}{l:List W}{o:O}(h:M[a]? =some (.aI kvs))(hb:M[b]? =some (.lst l)):(M.set a o)[b]? =some (.lst l):=by
 have:a≠b:=by rintro rfl;rw[h] at hb;cases hb
 rw[abe this];exact hb
def Af{M:Mem}{a:Nat}{o o':O}(h:M[a]? =some o):(M.set a o')[a]? =some o':=abr (aaZ.mp h).1
def D3(f:CM):Prop:=∀(M:Mem) (a n c h w:Nat) (ss:List Int),1<=h/\h<=3->1<=w/\w<=3->cG M a n c h w ss->bC (h*w) ss->
 ∃v M' ps,f [.ref a] M=.ok v M'/\M<+:M'/\aP M' v ps/\∀p,p∈ps↔gD ss p/\rowOf (ah h w) ss (h*w) p=[]
def Ez:D3 PB.rm:=by
 intro M a n c h w ss hh hw S sh;obtain⟨s1,s9⟩:=jx hh hw;have sl:=sh.len;have dW:ss.length<=81:=by rw[sl];exact abv s9 s9
 obtain⟨⟨vG,ob,eX⟩,nm,kvs,hc,wD,j9,i_⟩:=S;have hi:l_ (aZ a8 fC (aa 0)) [some (.ref a)] M=.ok (kvs.map (λkv=>.pair (.int kv.1) kv.2),[(c,.a6 M.length kvs)]) (M.set c (.a6 M.length kvs)++[.cw]):=by have e1:aZ a8 fC (aa 0) [some (.ref a)] M=.ok (.ref c) M:=dk rfl ob rfl;simp only[l_,e1,R.bind,gX hc]
 have lG:=aD (pre_app _ [O.cw]) (Af (o':=.a6 M.length kvs) hc);obtain⟨aA,M',ys,e,_,pM,rfl⟩:=MP (c:=[(c,.a6 M.length kvs)]) (g:=fm [ar 1,ar 2]) (t:=tB (af oEq (aa 2) (aS (ag)))) (elt:=aa 1) (kvs.map (λkv=>.pair (.int kv.1) kv.2)) (λj σ N acc=>(∃x y,σ=[some (.ref a),x,y])/\M.set c (.a6 M.length kvs)++[.cw]<+:N/\acc=(((kvs.take j).filter λkv=>decide (rowOf (ah h w) ss (h*w) kv.1=[])).map (·.1)).map .int) (by
   rintro j x σ N acc hx ⟨⟨x',y',rfl⟩,p,rfl⟩;rw[abS] at hx;cases q:kvs[j]? with
   |none=>rw[q] at hx;cases hx
   |some kv=>
    rw[q] at hx;have ex:x=.pair (.int kv.1) kv.2:=(aa2 hx).symm;subst ex;have hm:(kv.1,kv.2)∈kvs:=ab2 q;have gd:=rW hm j9;rcases i_ kv.1 with⟨z,_⟩|⟨k,z,hE,hk,hL⟩
    ·rw[z] at gd;cases gd
    ·rw[z] at gd;have ek:kv.2=.ref k:=(aa2 gd).symm;refine⟨by simp[b7.ok,aD p lG],_,_,_,_,decide (rowOf (ah h w) ss (h*w) kv.1=[]),N++[.tup [.int kv.1,kv.2]]++[.lst []],uE _ _ _,vD,?_,λhb=>?_,λhb=>?_⟩
     ·simp only[aaP,aaQ];have ic:aS ag [some (.ref a),some (.int kv.1),some kv.2] (N++[.tup [.int kv.1,kv.2]])=.ok (.ref (N++[O.tup [.int kv.1,kv.2]]).length) (N++[.tup [.int kv.1,kv.2]]++[.lst []]):=(show br [] (N++[O.tup [.int kv.1,kv.2]])=_ from b9 (by decide));refine bu (aY rfl ic ?_);exact nB (xs:=rowOf (ah h w) ss (h*w) kv.1) (ys:=[]) ⟨k,ek,aD (p.trans ((pre_app _ _).trans (pre_app _ _))) (aD (pre_app _ _) (Az hc hL))⟩ (aF.new _ _)
     ·refine⟨.int kv.1,_,rfl,⟨_,_,rfl⟩,p.trans ((pre_app _ _).trans (pre_app _ _)),?_⟩;rw[q_ _ _ _ q];simp only[hb,aaW,acI,aa8,abJ]
     ·refine⟨⟨_,_,rfl⟩,p.trans ((pre_app _ _).trans (pre_app _ _)),?_⟩;rw[q_ _ _ _ q];simp only[hb,abi,aa_,ab_])
  (by rintro σ N acc ⟨_,p,_⟩;simp[b7.ok,aD p lG]) 0 [some (.ref a),none,none] (M.set c (.a6 M.length kvs)++[.cw]) [] (abV _) ⟨⟨_,_,rfl⟩,dv _,rfl⟩
 rw[List.drop_zero] at e;rw[aaV,aby] at e;have hlen:((kvs.filter λkv=>decide (rowOf (ah h w) ss (h*w) kv.1=[])).map (·.1)).length<=81:=by rw[aaV];exact aa1 (abK _ _) (by omega)
 have oF:(M'++[O.lst (((kvs.filter λkv=>decide (rowOf (ah h w) ss (h*w) kv.1=[])).map (·.1)).map .int)])[c]? =some (.a6 M.length kvs):=aD (pM.trans (pre_app _ _)) lG;have ec:nF 2 [] (aZ a8 fC (aa 0)) (fm [ar 1,ar 2]) (tB (af oEq (aa 2) (aS (ag)))) (aa 1) [some (.ref a)] M=.ok (.ref M'.length) ((M'++[O.lst (((kvs.filter λkv=>decide (rowOf (ah h w) ss (h*w) kv.1=[])).map (·.1)).map .int)]).set c (.aI kvs)):=by unfold nF;rw[hi];have Vz:br (((kvs.filter λkv=>decide (rowOf (ah h w) ss (h*w) kv.1=[])).map (·.1)).map W.int) M'=.ok (.ref M'.length) (M'++[O.lst (((kvs.filter λkv=>decide (rowOf (ah h w) ss (h*w) kv.1=[])).map (·.1)).map .int)]):=b9 (by rw[aaV];omega);simp only[R.bind,du,acv,abY,ab7,ab0,abl,e,Vz,Ae oF]
 have key:∃r N,PB.rm [.ref a] M=.ok r N/\(r=.ref M'.length/\N=(M'++[O.lst (((kvs.filter λkv=>decide (rowOf (ah h w) ss (h*w) kv.1=[])).map (·.1)).map .int)]).set c (.aI kvs)):=bM rfl (aR ec ⟨rfl,rfl⟩);obtain⟨r,N,e2,rfl,rfl⟩:=key;have cl:c<M'.length:=by have:=(aaZ.mp (aD pM lG)).1;exact this
 refine⟨_,_,_,e2,rZ hc ((pre_app _ _).trans (pM.trans (pre_app _ _))),⟨_,rfl,by rw[abe (by omega)];exact b8 _ _⟩,λp=>?_⟩;constructor
 ·intro hp;obtain⟨kv,fD,rfl⟩:=aa7.mp hp;obtain⟨h1,h2⟩:=abR.mp fD;have gd:=rW (k:=kv.1) (v:=kv.2) h1 j9;rcases i_ kv.1 with⟨z,_⟩|⟨k,z,hE,_⟩
  ·rw[z] at gd;cases gd
  ·exact⟨hE,abx h2⟩
 ·rintro⟨hE,hr⟩;rcases i_ p with⟨_,z⟩|⟨k,z,_⟩
  ·exact(z hE).elim
  ·exact aa7.mpr ⟨(p,.ref k),abR.mpr ⟨zb z,abF hr⟩,rfl⟩
def DA{σ:St}{M:Mem}{a:Nat}{fs:List (List Nat×W)}{h w:Nat}{vG:W}(hh:1<=h/\h<=3)(hw:1<=w/\w<=3)(hi:σ[0]? =some (some (.ref a)))(ho:M[a]? =some (.ins a8 fs))(f3:c9 fG fs=some vG)(hG:LL M vG (ah h w)):
 cg (ak bx (ae (aZ a8 fG (aa 0)) ag)) σ M=.ok (cJ 0 (ah h w).length,[]) M:=by
 obtain⟨s1,s9⟩:=jx hh hw;have e0:aZ a8 fG (aa 0) σ M=.ok vG M:=dk hi ho f3;have r1:((ah h w).length:Int).natAbs<bJ:=dc (by omega) (by rw[nC];omega);simp only[cg,ak,ae,ag,e0,R.bind,si hG];rw[aaN r1,abf]
abbrev qN:List Nat:=[116,119,105,99,101,95,110,117,109,98,101,114,115]
abbrev qO:List Nat:=[104,111,109,101,108,101,115,115,95,110,117,109,98,101,114,115]
def rR(x:List Nat)(L:List (List Int)->List Int->Nat->Int->List Int)(f:CM):Prop:=∀(M:Mem) (a n c h w fn:Nat) (ss:List Int) (kd:List Nat),1<=h/\h<=3->1<=w/\w<=3->cG M a n c h w ss->bC (h*w) ss->M[fn]? =some (.d8 x)->
 ∃v M',f [.ref a,.str kd,.ref fn] M=.ok v M'/\M<+:M'/\((v=.ao/\∀g:Int,0<=g->g<((ah h w).length:Int)->L (ah h w) ss (h*w) g=[])\/∃g m:Int,0<=g/\g<((ah h w).length:Int)/\m∈L (ah h w) ss (h*w) g/\aT M' v [.str kd,.int g,.int m])
def FZ{M:Mem}{k:Nat}{l:List Int}{σ:St}{i:Nat}(h:M[k]? =some (.lst (l.map .int)))(hi:σ[i]? =some (some (.ref k))):tB (af bV (aa i) (aS (ag))) σ M=.ok (!decide (l=[])) (M++[.lst []]):=by
 have e0:aa i σ M=.ok (.ref k) M:=by simp only[aa,hi]
 have e1:aS ag σ M=.ok (.ref M.length) (M++[.lst []]):=(show br [] M=_ from b9 (by decide));exact bu (aY e0 e1 (OD (xs:=l) (ys:=[]) ⟨_,rfl,aD (pre_app _ _) h⟩ (aF.new _ _)))
def uV{M:Mem}{k:Nat}{m:Int}{l:List Int}{σ:St}{i:Nat}(h:M[k]? =some (.lst ((m::l).map .int)))(hi:σ[i]? =some (some (.ref k))):af av (aa i) (eC (.int 0)) σ M=.ok (.int m) M:=by
 have e0:aa i σ M=.ok (.ref k) M:=by simp only[aa,hi]
 exact aY e0 rfl (eA (fs:=m::l) ⟨_,rfl,h⟩ (by decide) (by show(0:Int)<((l.length+1:Nat):Int);omega))
def EA{ft fl:CM}{x:List Nat}{L:List (List Int)->List Int->Nat->Int->List Int}(hx:∃p,[(qN,ft),(qO,fl)].find? (λp=>decide (p.1=x))=some p/\zL L p.2):rR x L (PB.qY fl ft):=by
 intro M a n c h w fn ss kd hh hw S sh sZ;obtain⟨pr,SJ,hN⟩:=hx;have key:∃v M',PB.qY fl ft [.ref a,.str kd,.ref fn] M=.ok v M'/\(M<+:M'/\((v=.ao/\∀g:Int,0<=g->g<((ah h w).length:Int)->L (ah h w) ss (h*w) g=[])\/∃g m:Int,0<=g/\g<((ah h w).length:Int)/\m∈L (ah h w) ss (h*w) g/\aT M' v [.str kd,.int g,.int m])):=by
  refine bM rfl ?_;show(aj _ _ [some (.ref a),some (.str kd),some (.ref fn),none,none] M).Sat _;refine aB ?_;have S0:=S;obtain⟨⟨vG,ob,eX⟩,_⟩:=S0;refine gj (lo:=0) (n:=(ah h w).length) (M1:=M) (DA hh hw rfl ob rfl eX.ll) (λj σ M'=>(∃x y,σ=[some (.ref a),some (.str kd),some (.ref fn),x,y])/\M<+:M'/\∀g:Int,0<=g->g<(j:Int)->L (ah h w) ss (h*w) g=[])
   ⟨⟨_,_,rfl⟩,dv _,λg g0 g1=>by omega⟩ ?_ ?_
  ·rintro j σ M' hj ⟨⟨x',y',rfl⟩,p,hz⟩;simp only[aaP,aaQ];rw[adT];obtain⟨v,M1,e1,p1,hv⟩:=hN M' a n c h w ss (j:Int) hh hw (S.mono p) sh (by omega) (by omega);obtain⟨k,rfl,hk⟩:=hv;have ec:u9 [(qN,ft),(qO,fl)] (aa 2) (ae (aa 0) (ae (aa 3) ag)) [some (.ref a),some (.str kd),some (.ref fn),some (.int (j:Int)),y'] M'=.ok (.ref k) M1:=by
    have VA:fnOf M' (.ref fn)=some x:=by simp only[fnOf,aD p sZ]
    simp only[u9,aa,R.bind,aaU,aaR,pick,VA,ae,ag,SJ,ac2,e1]
   refine aB (bL ec ?_);simp only[aaP,aaQ];refine aM (FZ hk rfl) (λhc=>?_) λhc=>?_
   ·cases hl:L (ah h w) ss (h*w) (j:Int) with
    |nil=>rw[hl] at hc;simp at hc
    |cons m r=>rw[hl] at hk;have oG:=aD (pre_app M1 [.lst []]) hk;have et:=zJ (σ:=[some (.ref a),some (.str kd),some (.ref fn),some (.int (j:Int)),some (.ref k)]) (M:=M1++[.lst []]) (a:=aa 1) (b:=aa 3) rfl rfl (uV (i:=4) oG rfl);refine aR et ⟨p.trans (p1.trans ((pre_app _ _).trans (pre_app _ _))),.inr ⟨(j:Int),m,by omega,by omega,by rw[hl];simp,aT.new _ _⟩⟩
   ·refine⟨⟨_,_,rfl⟩,p.trans (p1.trans (pre_app _ _)),λg g0 g1=>?_⟩;by_cases e:g=(j:Int)
    ·subst e;simpa using hc
    ·exact hz g g0 (by omega)
  ·rintro σ M' ⟨⟨x',y',rfl⟩,p,hz⟩;dsimp only;exact aR (v:=.ao) (M1:=M') rfl ⟨p,.inl ⟨rfl,hz⟩⟩
 obtain⟨v,M',e,q⟩:=key;exact⟨v,M',e,q⟩
def MQ{G:List (List Int)}{ss:List Int}{s:Nat}{T:List (List Int)}{g m:Int}(g0:0<=g)(g1:g<(G.length:Int))(h:m∈lF G ss s g):dJ G ss T s (.kj g m)=true:=by unfold lF at h;obtain⟨h1,h2⟩:=abR.mp h;have hm:=pL h1;have jz:1<(cnt m ((G.getD g.toNat []).map (aq ss)):Int):=abx h2;rw[uf];simp only[aaT,abg,abQ,abG,abD];omega
def Fm{G:List (List Int)}{ss:List Int}{s:Nat}:(∀g:Int,0<=g->g<(G.length:Int)->lF G ss s g=[])↔cW G ss s=true:=by
 constructor
 ·intro h;unfold cW ox;refine abC.mpr λgr hg=>abC.mpr λk hk=>abF ?_
  obtain⟨i,hi,rfl⟩:=adn hg;have hz:=h (i:Int) (by omega) (by omega);unfold lF at hz;rw[ac3] at hz;have hn:=hz ((k:Int)+1) (aa7.mpr ⟨k,hk,rfl⟩);have eg:G.getD (i:Int).toNat []=G[i]:=by simp[List.getD,hi]
  rw[eg] at hn;simp only[abD] at hn;omega
 ·intro h g g0 g1;unfold lF;rw[ac3];intro m hm;obtain⟨k,hk,rfl⟩:=aa7.mp hm;unfold cW ox at h;have:=abx (abC.mp (abC.mp h _ (getD_mem g0 g1)) k hk);simp only[abD];omega
def EB{G:List (List Int)}{ss:List Int}{s:Nat}{g m:Int}(g0:0<=g)(g1:g<(G.length:Int))(a7:∀i∈G.getD g.toNat [],0<=i/\i<(ss.length:Int)):m∈mS G ss s g↔dJ G ss (tabOf G ss s) s (.di g m)=true:=by
 rw[ue];have j5:bY G (tabOf G ss s) g m=[]↔(G.getD g.toNat []).any (λf=>(rowOf G ss s f).any (·==m))=false:=by
  unfold bY;rw[ac3,abH,Ne,aa0];constructor
  ·rintro h ⟨f,hf,e⟩;obtain⟨f0,f1⟩:=a7 f hf;exact h f hf (by rw[mf f0 f1];exact e)
  ·intro h f hf e;obtain⟨f0,f1⟩:=a7 f hf;rw[mf f0 f1] at e;exact h ⟨f,hf,e⟩
 have VB:∀b:Bool,(((G.getD g.toNat []).map (aq ss)).any (·==m))=b↔(G.getD g.toNat []).any (λf=>decide (aq ss f=m))=b:=λb=>by rw[adh];exact Iff.rfl
 have HW:jf G ss s (G.getD g.toNat []) m=false↔(G.getD g.toNat []).any (λf=>decide (aq ss f=m))=false/\(G.getD g.toNat []).any (λf=>(rowOf G ss s f).any (·==m))=false:=by
  unfold jf;rw[abH,abH,abH,Ne,Ne,Ne,aa0,aa0,aa0];constructor
  ·intro h;exact⟨λ⟨f,hf,e⟩=>h ⟨f,hf,by rw[e];simp⟩,λ⟨f,hf,e⟩=>h ⟨f,hf,by rw[e];simp⟩⟩
  ·rintro⟨h1,h2⟩ ⟨f,hf,e⟩;rw[acm] at e;rcases e with e|e
   ·exact h1 ⟨f,hf,e⟩
   ·exact h2 ⟨f,hf,e⟩
 unfold mS d_;rw[abR,abg,HW];simp only[aaT,abg,abQ,abG,abD,j5];rw[VB false];constructor
 ·rintro⟨h1,h2,h3⟩;have:=pL h1;exact⟨⟨⟨by omega,by omega,by omega,by omega⟩,h2⟩,h3⟩
 ·rintro⟨⟨⟨z1,z2,z3,z4⟩,h2⟩,h3⟩;refine⟨?_,h2,h3⟩;refine aa7.mpr ⟨(m-1).toNat,abk.mpr (by omega),by omega⟩
def zf(f:CM):Prop:=∀(M:Mem) (a n c h w:Nat) (ss:List Int),1<=h/\h<=3->1<=w/\w<=3->cG M a n c h w ss->bC (h*w) ss->
 ∃v M',f [.ref a] M=.ok v M'/\M<+:M'/\((v=.ao/\cW (ah h w) ss (h*w)=true)\/∃g m,gL M' v (.kj g m)/\dJ (ah h w) ss (tabOf (ah h w) ss (h*w)) (h*w) (.kj g m)=true/\cW (ah h w) ss (h*w)=false)
def Lx{f:CM}(hf:rR qN lF f):zf (PB.rn f):=by
 intro M a n c h w ss hh hw S sh;obtain⟨v,M',e,p,hv⟩:=hf (M++[.d8 qN]) a n c h w M.length ss [116,119,105,99,101] hh hw (S.mono (pre_app _ _)) sh (b8 _ _);have key:∃r N,PB.rn f [.ref a] M=.ok r N/\(r=v/\N=M'):=by refine bM rfl (aR (M1:=M') (v:=v) ?_ ⟨rfl,rfl⟩);show ak f (ae (aa 0) (ae (eC (.str [116,119,105,99,101])) (ae (mM qN) ag))) [some (.ref a)] M=_;simp only[ak,ae,ag,aa,eC,mM,R.bind,aaU,aaR];exact e
 obtain⟨r,N,e2,rfl,rfl⟩:=key;refine⟨_,_,e2,(pre_app _ _).trans p,?_⟩;rcases hv with⟨z1,z2⟩|⟨g,m,g0,g1,hm,ht⟩
 ·exact .inl ⟨z1,Fm.mp z2⟩
 ·refine .inr ⟨g,m,ht,MQ g0 g1 hm,?_⟩;rw[abH];intro z;have:=Fm.mpr z g g0 g1;rw[this] at hm;cases hm
def pO(f:CM):Prop:=∀(M:Mem) (a n c h w:Nat) (ss:List Int),1<=h/\h<=3->1<=w/\w<=3->cG M a n c h w ss->bC (h*w) ss->
 ∃v M',f [.ref a] M=.ok v M'/\M<+:M'/\((v=.ao/\dH (ah h w) ss (tabOf (ah h w) ss (h*w)) (h*w)=false)\/∃c,gL M' v c/\dJ (ah h w) ss (tabOf (ah h w) ss (h*w)) (h*w) c=true)
def Fn{fs f:CM}(hs:D3 fs)(hf:rR qO mS f):pO (PB.qZ fs f):=by
 intro M a n c h w ss hh hw S sh;have sl:=sh.len;obtain⟨v1,M1,ps,e1,p1,⟨k,rfl,hk⟩,BD⟩:=hs M a n c h w ss hh hw S sh;have key:∃v M',PB.qZ fs f [.ref a] M=.ok v M'/\(M<+:M'/\((v=.ao/\dH (ah h w) ss (tabOf (ah h w) ss (h*w)) (h*w)=false)\/∃c,gL M' v c/\dJ (ah h w) ss (tabOf (ah h w) ss (h*w)) (h*w) c=true)):=by
  refine bM rfl ?_;show(aj _ _ [some (.ref a),none] M).Sat _;refine aB (bL (v:=.ref k) (M1:=M1) (by simp only[ak,ae,ag,aa,R.bind,aaR,e1]) ?_);simp only[aaP,aaQ];refine aB (aM (FZ (i:=1) hk rfl) (λhc=>?_) λhc=>?_)
  ·cases ps with
   |nil=>simp at hc
   |cons p r=>
    have oG:=aD (pre_app M1 [.lst []]) hk;obtain⟨hE,hr⟩:=(BD p).mp abL;have et:cD (ae (eC (.str [102,105,101,108,100])) (ae (af av (aa 1) (eC (.int 0))) ag)) [some (.ref a),some (.ref k)] (M1++[.lst []])=.ok (.ref (M1++[O.lst []]).length) (M1++[.lst []]++[.tup [nG,.int p]]):=by simp only[cD,ae,ag,uV (i:=1) (σ:=[some (.ref a),some (.ref k)]) oG rfl,eC,R.bind];exact kH (by show 2<=16777216;decide)
    refine aR et ⟨p1.trans ((pre_app _ _).trans (pre_app _ _)),.inr ⟨.fld p,aT.new _ _,?_⟩⟩;rw[ud,lX.mpr hE,mf hE.1 hE.2.1,hr];rfl
  ·have VC:ps=[]:=by simpa using hc
   subst VC;refine bT ?_;dsimp only;obtain⟨v,M',e,p,hv⟩:=hf (M1++[.lst []]++[.d8 qO]) a n c h w (M1++[O.lst []]).length ss [103,114,111,117,112] hh hw (S.mono (p1.trans ((pre_app _ _).trans (pre_app _ _)))) sh (b8 _ _);refine aR (M1:=M') (v:=v) ?_ ⟨p1.trans (((pre_app _ _).trans (pre_app _ _)).trans p),?_⟩
   ·show ak f (ae (aa 0) (ae (eC (.str [103,114,111,117,112])) (ae (mM qO) ag))) [some (.ref a),some (.ref k)] (M1++[.lst []])=_;simp only[ak,ae,ag,aa,eC,mM,R.bind,aaU,aaR];exact e
   ·have f_:=iz hh hw;rcases hv with⟨z1,z2⟩|⟨g,m,g0,g1,hm,ht⟩
    ·refine .inl ⟨z1,?_⟩;unfold dH;rw[abQ];constructor
     ·rw[abH,Ne,aa0];rintro⟨p,hp,Ca⟩;have hp:=abk.mp hp;rw[aaT,abD,abD,jc _ _ _ _ hp] at Ca;have:=(BD (p:Int)).mpr ⟨⟨by omega,by omega,Ca.1⟩,Ca.2⟩;cases this
     ·rw[abH,Ne,aa0];rintro⟨g,hg,tK⟩;have hg:=abk.mp hg;rw[aa0] at tK;obtain⟨k2,_,eJ⟩:=tK;have:=(EB (G:=ah h w) (ss:=ss) (s:=h*w) (g:=(g:Int)) (m:=(k2:Int)+1) (by omega) (by omega) (λi hi=>by rw[sl];exact(f_ _ (getD_mem (by omega) (by omega))).2 i hi)).mpr eJ;rw[z2 (g:Int) (by omega) (by omega)] at this;cases this
    ·exact .inr ⟨.di g m,ht,(EB g0 g1 (λi hi=>by rw[sl];exact(f_ _ (getD_mem g0 g1)).2 i hi)).mp hm⟩
 obtain⟨v,M',e,q⟩:=key;exact⟨v,M',e,q⟩
def yW(f:CM):Prop:=∀(M:Mem) (a n c h w:Nat) (ss:List Int),1<=h/\h<=3->1<=w/\w<=3->cG M a n c h w ss->bC (h*w) ss->
 ∃v M',f [.ref a] M=.ok v M'/\M<+:M'/\((v=.ao/\dH (ah h w) ss (tabOf (ah h w) ss (h*w)) (h*w)=false/\cW (ah h w) ss (h*w)=true)\/∃c,gL M' v c/\dJ (ah h w) ss (tabOf (ah h w) ss (h*w)) (h*w) c=true)
def Ly{ft fd:CM}(ht:zf ft)(hd:pO fd):yW (PB.rp ft fd):=by
 intro M a n c h w ss hh hw S sh;obtain⟨v1,M1,e1,p1,jy⟩:=ht M a n c h w ss hh hw S sh;have key:∃v M',PB.rp ft fd [.ref a] M=.ok v M'/\(M<+:M'/\((v=.ao/\dH (ah h w) ss (tabOf (ah h w) ss (h*w)) (h*w)=false/\cW (ah h w) ss (h*w)=true)\/∃c,gL M' v c/\dJ (ah h w) ss (tabOf (ah h w) ss (h*w)) (h*w) c=true)):=by
  refine bM rfl ?_;show(aj _ _ [some (.ref a),none] M).Sat _;refine aB (bL (v:=v1) (M1:=M1) (by simp only[ak,ae,ag,aa,R.bind,aaR,e1]) ?_);simp only[aaP,aaQ];rcases jy with⟨rfl,hz⟩|⟨g,m,hc,hb,_⟩
  ·refine aB (aM (c:=false) (M1:=M1) (bu rfl) (λz=>nomatch z) λ_=>?_);refine bT ?_;dsimp only;obtain⟨v,M',e,p,hv⟩:=hd M1 a n c h w ss hh hw (S.mono p1) sh;refine aR (M1:=M') (v:=v) (by simp only[ak,ae,ag,aa,R.bind,aaR,e]) ⟨p1.trans p,?_⟩;rcases hv with⟨z1,z2⟩|z
   ·exact .inl ⟨z1,z2,hz⟩
   ·exact .inr z
  ·obtain⟨b,rfl,lH⟩:=hc;refine aB (aM (c:=true) (M1:=M1) (bu rfl) (λ_=>?_) λz=>nomatch z);exact aR (M1:=M1) (v:=.ref b) rfl ⟨p1,.inr ⟨.kj g m,⟨b,rfl,lH⟩,hb⟩⟩
 obtain⟨v,M',e,q⟩:=key;exact⟨v,M',e,q⟩
def KA{h w:Nat}(hh:1<=h/\h<=3)(hw:1<=w/\w<=3){ss:List Int}(sh:bC (h*w) ss){g m p:Int}(g0:0<=g)(g1:g<((ah h w).length:Int))(hs:bY (ah h w) (tabOf (ah h w) ss (h*w)) g m=[p]):
 jT (ah h w) ss (tabOf (ah h w) ss (h*w)) (h*w) (.di p m g)=true:=by
 have hp:p∈bY (ah h w) (tabOf (ah h w) ss (h*w)) g m:=by rw[hs];simp
 unfold bY at hp;obtain⟨fA,gR⟩:=abR.mp hp;obtain⟨_,f_⟩:=iz hh hw _ (getD_mem g0 g1);obtain⟨p0,kf⟩:=f_ p fA;have qr:p<(ss.length:Int):=by rw[sh.len];exact kf
 rw[mf p0 qr] at gR;obtain⟨y,hy,ey⟩:=aa0.mp gR;have BW:y=m:=by simpa using ey
 subst BW;rw[nh,abF hs,Et g0 g1 fA hy,lX.mpr ⟨p0,qr,(Aa hy).1⟩];rfl
def uv(f:CM):Prop:=∀(M:Mem) (a n c h w:Nat) (ss:List Int),1<=h/\h<=3->1<=w/\w<=3->cG M a n c h w ss->bC (h*w) ss->
 ∃v M',f [.ref a] M=.ok v M'/\M<+:M'/\((v=.ao/\gK (ah h w) ss (tabOf (ah h w) ss (h*w)) (h*w)=false)\/∃st,eO M' v st/\jT (ah h w) ss (tabOf (ah h w) ss (h*w)) (h*w) st=true)
def D4{kvs:List (Int×W)}{j:Nat}{x:Src}(h:(kvs.map λkv=>Src.pair (.int kv.1) kv.2)[j]? =some x):∃kv,kvs[j]? =some kv/\x=.pair (.int kv.1) kv.2:=by
 rw[abS] at h;cases q:kvs[j]? with
 |none=>rw[q] at h;cases h
 |some kv=>rw[q] at h;exact⟨kv,rfl,(aa2 h).symm⟩
def G5{M:Mem}{k:Nat}{l:List Int}{σ:St}{i:Nat}(h:M[k]? =some (.lst (l.map .int)))(hi:σ[i]? =some (some (.ref k))):tB (af oEq (ak bx (ae (aa i) ag)) (eC (.int 1))) σ M=.ok (decide ((l.length:Int)=1)) M:=by
 have e0:aa i σ M=.ok (.ref k) M:=by simp only[aa,hi]
 exact bu (aY (uU e0 ⟨_,rfl,h⟩) rfl eq_int)
def EC{e:EM}{g:GM}{body:SM}{σ:St}{M M1:Mem}{a:Nat}{kvs:List (Int×W)}{q:ai}(he:e σ M=.ok (.ref a) M1)(ha:M1[a]? =some (.aI kvs))(P:Nat->St->Mem->Prop)(h0:P 0 σ (M1.set a (.a6 M1.length kvs)++[.cw]))(hs:∀(j:Nat) x σ N,(kvs.map λkv=>Src.pair (.int kv.1) kv.2)[j]? =some x->P j σ N->N[a]? =some (.a6 M1.length kvs)/\∃v N1 bj N2,x.get N=.ok v N1/\g v σ N1=.ok bj N2/\(body bj N2).Sat {nx:=P (j+1),ct:=P (j+1),bk:=λσ N=>N[a]? =some (.a6 M1.length kvs)/\q.nx σ (N.set a (.aI kvs)),rt:=λv N=>N[a]? =some (.a6 M1.length kvs)/\q.rt v (N.set a (.aI kvs))})(hd:∀σ N,P kvs.length σ N->N[a]? =some (.a6 M1.length kvs)/\q.nx σ (N.set a (.aI kvs))):(qe e g body σ M).Sat q:=by
 have hi:l_ e σ M=.ok (kvs.map (λkv=>.pair (.int kv.1) kv.2),[(a,.a6 M1.length kvs)]) (M1.set a (.a6 M1.length kvs)++[.cw]):=by unfold l_;rw[he];simp only[R.bind,gX ha]
 unfold qe;rw[hi];simp only[R.cz];have hl:=Eo (c:=[(a,.a6 M1.length kvs)]) (g:=g) (body:=body) (q:={nx:=λσ N=>N[a]? =some (.a6 M1.length kvs)/\q.nx σ (N.set a (.aI kvs)),rt:=λv N=>N[a]? =some (.a6 M1.length kvs)/\q.rt v (N.set a (.aI kvs))}) (kvs.map λkv=>Src.pair (.int kv.1) kv.2) P (λj x σ N hx hp=>by obtain⟨h1,h2⟩:=hs j x σ N hx hp;exact⟨by simp[b7.ok,h1],h2⟩)
  (λσ N hp=>by rw[aaV] at hp;obtain⟨h1,h2⟩:=hd σ N hp;exact⟨by simp[b7.ok,h1],h1,h2⟩) 0 σ (M1.set a (.a6 M1.length kvs)++[.cw]) (abV _) h0
 rw[List.drop_zero] at hl;cases er:loop [(a,.a6 M1.length kvs)] g body (kvs.map λkv=>Src.pair (.int kv.1) kv.2) σ (M1.set a (.a6 M1.length kvs)++[.cw]) with
 |nx aA N=>rw[er] at hl;obtain⟨h1,h2⟩:=hl;simp only[RS.df,Ae h1];exact h2
 |rt v N=>rw[er] at hl;obtain⟨h1,h2⟩:=hl;simp only[RS.df,Ae h1];exact h2
 |bk aA N=>rw[er] at hl;exact hl.elim
 |ct aA N=>rw[er] at hl;exact hl.elim
 |ex v N=>rw[er] at hl;exact hl.elim
 |bad=>rw[er] at hl;exact hl.elim
def ED{N:Mem}{a:Nat}{v:W}{us:List W}{g:Nat}{kvs:List (Int×W)}{o:O}(h:aT N v us)(ha:N[a]? =some (.a6 g kvs)):aT (N.set a o) v us:=by
 obtain⟨b,e,q⟩:=h;have:a≠b:=by rintro rfl;rw[ha] at q;cases q
 exact⟨b,e,by rw[abe this];exact q⟩
def MR{fh:CM}(hH:zc fh):uv (PB.rF fh):=by
 intro M a n c h w ss hh hw S sh;have sl:=sh.len;have f_:=iz hh hw;have S0:=S;obtain⟨⟨vG,ob,eX⟩,nm,kc,hc,wD,j9,i_⟩:=S0;have key:∃v M',PB.rF fh [.ref a] M=.ok v M'/\(M<+:M'/\((v=.ao/\gK (ah h w) ss (tabOf (ah h w) ss (h*w)) (h*w)=false)\/∃st,eO M' v st/\jT (ah h w) ss (tabOf (ah h w) ss (h*w)) (h*w) st=true)):=by
  refine bM rfl ?_;show(aj _ _ [some (.ref a),none,none,none,none,none] M).Sat _;refine aB ?_;have he:aZ a8 fC (aa 0) [some (.ref a),none,none,none,none,none] M=.ok (.ref c) M:=dk rfl ob rfl;have lG:=aD (pre_app _ [O.cw]) (Af (o':=.a6 M.length kc) hc);refine EC he hc (λj σ N=>(∃x y,σ=[some (.ref a),x,y,none,none,none])/\M.set c (.a6 M.length kc)++[.cw]<+:N/\∀kv∈kc.take j,(rowOf (ah h w) ss (h*w) kv.1).length≠1) ⟨⟨_,_,rfl⟩,dv _,by simp⟩ ?_ ?_
  ·rintro j x σ N hx ⟨⟨x',y',rfl⟩,p,hz⟩;obtain⟨kv,fD,rfl⟩:=D4 hx;refine⟨aD p lG,_,_,_,_,uE _ _ _,vD,?_⟩;simp only[aaP,aaQ];have hm:(kv.1,kv.2)∈kc:=ab2 fD;have gd:=rW hm j9;rcases i_ kv.1 with⟨z,_⟩|⟨k,z,hE,hk,hL⟩
   ·rw[z] at gd;cases gd
   ·rw[z] at gd;have ek:kv.2=.ref k:=(aa2 gd).symm;have oH:=aD (p.trans (pre_app N [.tup [.int kv.1,kv.2]])) (aD (pre_app _ _) (Az (o:=.a6 M.length kc) hc hL));refine aM (G5 (i:=2) oH (by rw[ek];rfl)) (λjA=>?_) λjA=>?_
    ·have lI:(rowOf (ah h w) ss (h*w) kv.1).length=1:=by have:=abx jA;omega
     cases hr:rowOf (ah h w) ss (h*w) kv.1 with
     |nil=>rw[hr] at lI;simp at lI
     |cons m r=>
      have Cb:r=[]:=by rw[hr] at lI;simpa using lI
      subst Cb;rw[hr] at oH;have et:=zJ (σ:=[some (.ref a),some (.int kv.1),some kv.2,none,none,none]) (M:=N++[.tup [.int kv.1,kv.2]]) (a:=eC (.str [102,105,101,108,100])) (b:=aa 1) rfl rfl (uV (i:=2) oH (by rw[ek];rfl));have pp:=p.trans ((pre_app N [O.tup [.int kv.1,kv.2]]).trans (pre_app _ [O.tup [W.str [102,105,101,108,100],W.int kv.1,W.int m]]));refine aR et ⟨aD pp lG,rZ hc ((pre_app _ _).trans pp),.inr ⟨.fld kv.1 m,ED (aT.new _ _) (aD pp lG),?_⟩⟩;rw[pj,lX.mpr hE,mf hE.1 hE.2.1,hr];simp
    ·refine⟨⟨_,_,rfl⟩,p.trans (pre_app _ _),λCc sS=>?_⟩;rw[uh _ _ fD] at sS;rcases acd.mp sS with q|q
     ·exact hz Cc q
     ·rw[ack.mp q];have:=acT jA;omega
  ·rintro σ N0 ⟨⟨x',y',rfl⟩,p0,hz⟩;refine⟨aD p0 lG,?_⟩;have p:=rZ hc ((pre_app _ _).trans p0);generalize N0.set c (O.aI kc)=N at p;rw[aby] at hz;dsimp only;refine aB ?_;refine gj (lo:=0) (n:=(ah h w).length) (M1:=N) (DA hh hw rfl (aD p ob) rfl (eX.ll.mono p)) (λj σ M'=>(∃x y z u v,σ=[some (.ref a),x,y,z,u,v])/\M<+:M'/\∀g:Int,0<=g->g<(j:Int)->∀m,(bY (ah h w) (tabOf (ah h w) ss (h*w)) g m).length≠1)
    ⟨⟨_,_,_,_,_,rfl⟩,p,λg g0 g1=>by omega⟩ ?_ ?_
   ·rintro j σ M' hj ⟨⟨x,y,z,u,v,rfl⟩,p',kn⟩;simp only[aaP,aaQ];rw[adT];obtain⟨M1,kvs,e1,I,hk⟩:=hH M' a n c h w ss (j:Int) hh hw (S.mono p') sh (by omega) (by omega);have p1:=I.pre;have gf:ak fh (ae (aa 0) (ae (aa 3) ag)) [some (.ref a),x,y,some (.int (j:Int)),u,v] M'=.ok (.ref M'.length) M1:=by simp only[ak,ae,ag,aa,R.bind,aaU,aaR,e1]
    have j7:=aD (pre_app _ [O.cw]) (Af (o':=.a6 M1.length kvs) I.at_);refine EC gf I.at_ (λi σ N=>(∃u v,σ=[some (.ref a),x,y,some (.int (j:Int)),u,v])/\M1.set M'.length (.a6 M1.length kvs)++[.cw]<+:N/\∀kv∈kvs.take i,(bY (ah h w) (tabOf (ah h w) ss (h*w)) (j:Int) kv.1).length≠1) ⟨⟨_,_,rfl⟩,dv _,by simp⟩ ?_ ?_
    ·rintro i sx σ N hx ⟨⟨x',y',rfl⟩,q,wL⟩;obtain⟨kv,fD,rfl⟩:=D4 hx;refine⟨aD q j7,_,_,_,_,uE _ _ _,vD,?_⟩;simp only[aaP,aaQ];have hm:(kv.1,kv.2)∈kvs:=ab2 fD;have gd:=rW hm I.nd;rcases I.val kv.1 with⟨zz,_⟩|⟨k,zz,fw,qJ,hL⟩
     ·rw[zz] at gd;cases gd
     ·rw[zz] at gd;have ek:kv.2=.ref k:=(aa2 gd).symm;have oH:=aD (q.trans (pre_app N [.tup [.int kv.1,kv.2]])) (aD (pre_app _ _) (Az (o:=.a6 M1.length kvs) I.at_ hL));refine aM (G5 (i:=5) oH (by rw[ek];rfl)) (λjA=>?_) λjA=>?_
      ·have lI:(bY (ah h w) (tabOf (ah h w) ss (h*w)) (j:Int) kv.1).length=1:=by have:=abx jA;omega
       cases hr:bY (ah h w) (tabOf (ah h w) ss (h*w)) (j:Int) kv.1 with
       |nil=>rw[hr] at lI;simp at lI
       |cons f r=>
        have Cb:r=[]:=by rw[hr] at lI;simpa using lI
        subst Cb;have VD:(N++[O.tup [.int kv.1,kv.2]])[k]? =some (.lst ([f].map .int)):=by rw[hr] at oH;exact oH
        have et:cD (ae (eC (.str [103,114,111,117,112])) (ae (af av (aa 5) (eC (.int 0))) (ae (aa 4) (ae (aa 3) ag)))) [some (.ref a),x,y,some (.int (j:Int)),some (.int kv.1),some kv.2] (N++[.tup [.int kv.1,kv.2]])=.ok (.ref (N++[O.tup [.int kv.1,kv.2]]).length) (N++[.tup [.int kv.1,kv.2]]++[.tup [fK,.int f,.int kv.1,.int (j:Int)]]):=by simp only[cD,ae,ag,uV (i:=5) (σ:=[some (.ref a),x,y,some (.int (j:Int)),some (.int kv.1),some kv.2]) VD (by rw[ek];rfl),eC,aa,R.bind,aaU,aaR];exact kH (by show 4<=16777216;decide)
        have pp:=q.trans ((pre_app N [O.tup [.int kv.1,kv.2]]).trans (pre_app _ [O.tup [fK,W.int f,W.int kv.1,W.int (j:Int)]]));refine aR et ⟨aD pp j7,p'.trans (p1.trans (rZ I.at_ ((pre_app _ _).trans pp))),.inr ⟨.di f kv.1 (j:Int),ED (aT.new _ _) (aD pp j7),KA hh hw sh (by omega) (by omega) hr⟩⟩
      ·refine⟨⟨_,_,rfl⟩,q.trans (pre_app _ _),λCc sS=>?_⟩;rw[uh _ _ fD] at sS;rcases acd.mp sS with qq|qq
       ·exact wL Cc qq
       ·rw[ack.mp qq];have:=acT jA;omega
    ·rintro σ N ⟨⟨x',y',rfl⟩,q,wL⟩;refine⟨aD q j7,⟨_,_,_,_,_,rfl⟩,p'.trans (p1.trans (rZ I.at_ ((pre_app _ _).trans q))),λg g0 g1 m=>?_⟩;rw[aby] at wL;by_cases e:g=(j:Int)
     ·subst e;rcases I.val m with⟨_,z0⟩|⟨k,z0,_⟩
      ·have z0:bY (ah h w) (tabOf (ah h w) ss (h*w)) (j:Int) m=[]:=z0;rw[z0];simp
      ·exact wL (m,.ref k) (zb z0)
     ·exact kn g g0 (by omega) m
   ·rintro σ M' ⟨⟨x,y,z,u,v,rfl⟩,p',kn⟩;dsimp only;refine aR (v:=.ao) (M1:=M') rfl ⟨p',.inl ⟨rfl,?_⟩⟩;unfold gK;rw[abQ];constructor
    ·rw[abH,Ne,aa0];rintro⟨q,hq,wM⟩;have hq:=abk.mp hq;rw[abD,jc _ _ _ _ hq] at wM;rcases i_ (q:Int) with⟨_,zE⟩|⟨k,zv,_⟩
     ·have:aq ss (q:Int)≠0:=λzz=>zE ⟨by omega,by omega,zz⟩
      rw[z_ this] at wM;simp at wM
     ·exact hz ((q:Int),.ref k) (zb zv) wM
    ·rw[abH,Ne,aa0];rintro⟨g,hg,tK⟩;have hg:=abk.mp hg;rw[aa0] at tK;obtain⟨k2,_,eJ⟩:=tK;unfold pY at eJ;rw[aaT,abD] at eJ;exact kn (g:Int) (by omega) (by omega) _ eJ.2
 obtain⟨v,M',e,q⟩:=key;exact⟨v,M',e,q⟩
mutual
inductive Tr where
 |mk (aJ:List b4) (e:En)
inductive En where
 |full
 |left
 |cls (c:eV)
 |ZY (p:Int) (bs:Bs)
inductive Bs where
 |nil
 |cons (n:Int) (t:Tr) (r:Bs)
end
abbrev gO:W:=.str [116,114,121]
def zM{ss:List Int}{p:Int}(h:dI ss p=true):0<=p/\p<(ss.length:Int)/\aq ss p=0:=by unfold dI at h;simp only[abg,abQ,abG,abP,abj] at h;obtain⟨h1,h2,h3⟩:=h;exact⟨by omega,by omega,h3⟩
def LL.keep{X:List Nat}{M:Mem}{b:Nat}{T:List (List Int)}{Y:List Nat}{M':Mem}(h:TabAt X M b T)(k:aX Y M M')(hy:∀y∈Y,y∈X)(hb:b∉Y):TabAt X M' b T:=by obtain⟨ws,h1,h2⟩:=h;exact⟨ws,k.get h1 hb,h2.keep k hy⟩
def cX(ss:List Int)(st:b4):List Int:=ss.set st.place.toNat st.num
def cb(G:List (List Int))(s:Nat)(ss:List Int)(st:b4):Bool:=jT G ss (tabOf G ss s) s st
def cI(G:List (List Int))(s:Nat):List Int->List b4->Option (List Int)
 |ss,[]=>some ss
 |ss,st::r=>if cb G s ss st then cI G s (cX ss st) r else none
def EE{G:List (List Int)}{ss:List Int}{s:Nat}{p n:Int}(h:n∈rowOf G ss s p):1<=n/\n<=(s:Int):=pL (abR.mp h).1
def lY{G:List (List Int)}{ss:List Int}{s:Nat}{st:b4}(h:cb G s ss st=true):0<=st.place/\st.place<(ss.length:Int)/\aq ss st.place=0/\1<=st.num/\st.num<=(s:Int):=by
 unfold cb at h;cases st with
 |fld p n=>
  rw[pj,aaT,abj] at h;obtain⟨p0,p1,p2⟩:=zM h.1;have hr:n∈rowOf G ss s (p.toNat:Nat):=by rw[<-jc G ss s p.toNat (by omega),h.2];simp
  obtain⟨n0,n1⟩:=EE hr;exact⟨p0,p1,p2,n0,n1⟩
 |di p n g=>rw[nh,aaT,aaT] at h;obtain⟨p0,p1,p2⟩:=zM h.1;obtain⟨_,_,n0,n1⟩:=pH h.2.1;exact⟨p0,p1,p2,n0,n1⟩
def t_{G:List (List Int)}{ss:List Int}{s:Nat}{st:b4}(hs:bC s ss)(h:cb G s ss st=true):bC s (cX ss st):=by obtain⟨_,_,_,n0,n1⟩:=lY h;exact hs.set _ (by omega) n1
theorem zg(G:List (List Int))(s:Nat)(st:b4):∀(l:List b4) (ss:List Int),cI G s ss (l++[st])=match cI G s ss l with
  |some s1=>if cb G s s1 st then some (cX s1 st) else none
  |none=>none
 |[],ss=>by show(if _ then _ else _)=_;rfl
 |x::r,ss=>by
  show(if cb G s ss x then cI G s (cX ss x) (r++[st]) else none)=_;rw[zg G s st r];show _=match(if cb G s ss x then cI G s (cX ss x) r else none) with|some s1=>_|none=>none
  by_cases h:cb G s ss x=true
  ·rw[aaN h,aaN h]
  ·rw[aaO h,aaO h]
theorem D5(G:List (List Int))(s:Nat):∀(l r:List b4) (ss:List Int),cI G s ss l=none->cI G s ss (l++r)=none
 |[],_,_,h=>by cases h
 |x::l,r,ss,h=>by
  show(if cb G s ss x then cI G s (cX ss x) (l++r) else none)=none;have h':(if cb G s ss x then cI G s (cX ss x) l else none)=none:=h;by_cases c:cb G s ss x=true
  ·rw[aaN c] at h'⊢;exact D5 G s l r _ h'
  ·rw[aaO c]
abbrev Ent:=Nat×Nat×List Int×Tr
abbrev Ug:=List (List Int×Tr)
def pd(P:List Ent):Ug:=P.map λq=>(q.2.2.1,q.2.2.2)
structure oI(G:List (List Int))(s:Nat):Prop where
 len:∀g∈G,g.length=s
 nd:∀g∈G,g.Nodup
 qP:∀g∈G,∀i∈g,0<=i/\i<((s*s:Nat):Int)
structure jo(G:List (List Int))(s:Nat)(ss f:List Int):Prop where
 sh:bC s f
 nz:∀i:Int,0<=i->i<((s*s:Nat):Int)->aq f i≠0
 kp:∀i:Int,0<=i->i<((s*s:Nat):Int)->aq ss i=0\/aq ss i=aq f i
 nt:cW G f s=true
def uW{s:Nat}{f:List Int}(h:bC s f){i:Int}(h0:0<=i)(h1:i<((s*s:Nat):Int)):0<=aq f i/\aq f i<=(s:Int):=by have hm:=uR (fs:=f) h0 (by rw[h.len];exact h1);exact⟨h.lo _ hm,h.hi _ hm⟩
def Fo{g ss:List Int}{p q n:Int}(hp:p∈g)(hq:q∈g)(Cd:p≠q)(h1:aq ss p=n)(h2:aq ss q=n):2<=cnt n (g.map (aq ss)):=by
 induction g with
 |nil=>simp at hp
 |cons x r ih=>
  rw[aa8,cnt_cons];rcases aaX.mp hp with e1|e1
  ·rcases aaX.mp hq with e2|e2
   ·exact absurd (e1.trans e2.symm) Cd
   ·subst e1;have:0<cnt n (r.map (aq ss)):=(pU _ _).mpr (aa7.mpr ⟨q,e2,h2⟩);rw[aaN h1];omega
  ·rcases aaX.mp hq with e2|e2
   ·subst e2;have:0<cnt n (r.map (aq ss)):=(pU _ _).mpr (aa7.mpr ⟨p,e1,h1⟩);rw[aaN h2];omega
   ·have:=ih e1 e2;omega
def QO{g ss:List Int}{n:Int}(j8:g.Nodup)(h:1<cnt n (g.map (aq ss))):∃p∈g,∃q∈g,p≠q/\aq ss p=n/\aq ss q=n:=by
 induction g with
 |nil=>simp[cnt] at h
 |cons x r ih=>
  rw[aa8,cnt_cons] at h;obtain⟨hx,hr⟩:=ab'.mp j8;by_cases e:aq ss x=n
  ·rw[aaN e] at h;have:0<cnt n (r.map (aq ss)):=by omega
   obtain⟨q,hq,e2⟩:=aa7.mp ((pU _ _).mp this);exact⟨x,abL,q,abo _ hq,λz=>hx (by rw[z];exact hq),e,e2⟩
  ·rw[aaO e] at h;obtain⟨p,hp,q,hq,z⟩:=ih hr (by omega);exact⟨p,abo _ hp,q,abo _ hq,z⟩
def zN{G:List (List Int)}{f:List Int}{s:Nat}(h:cW G f s=true){g:List Int}(hg:g∈G){k:Int}(k0:1<=k)(k1:k<=(s:Int)):cnt k (g.map (aq f))<=1:=by have h1:=abC.mp h g hg;have h2:=abC.mp h1 (k-1).toNat (abk.mpr (by omega));have h3:=abx h2;rw[show(((k-1).toNat:Nat):Int)+1=k by omega] at h3;exact h3
def zO{G:List (List Int)}{s:Nat}{ss f:List Int}(hG:oI G s)(h:jo G s ss f){p:Int}(p0:0<=p)(p1:p<((s*s:Nat):Int))(pz:aq ss p=0):aq f p∈rowOf G ss s p:=by
 obtain⟨r0,r1⟩:=uW h.sh p0 p1;have rz:=h.nz p p0 p1;refine abR.mpr ⟨?_,?_⟩
 ·refine aa7.mpr ⟨(aq f p-1).toNat,abk.mpr (by omega),by omega⟩
 ·rw[aaT,abj];refine⟨pz,?_⟩;rw[abg];cases hb:dZ G ss p (aq f p) with
  |false=>rfl
  |true=>
   exfalso;unfold dZ at hb;rw[aa0] at hb;obtain⟨g,hg,hb⟩:=hb;unfold iI at hb;rw[aaT,any_eq,aa0] at hb;obtain⟨hp,q,hq,hb⟩:=hb;rw[aaT,abg,abG,abj] at hb;obtain⟨q0,q1⟩:=hG.qP g hg q hq;have eq:aq f q=aq f p:=by
    rcases h.kp q q0 q1 with z|z
    ·rw[z] at hb;exact absurd hb.2.symm rz
    ·rw[<-z];exact hb.2
   have:=Fo hp hq (λz=>hb.1 z.symm) rfl eq;have:=zN h.nt hg (k:=aq f p) (by omega) r1;omega
theorem EF:∀{l m:List Int},l.Nodup->(∀x∈l,x∈m)->l.length<=m.length
 |[],_,_,_=>abV _
 |x::r,m,hn,hs=>by
  obtain⟨hx,hr⟩:=ab'.mp hn;have hm:x∈m:=hs x abL;have:=EF (l:=r) (m:=m.erase x) hr λy hy=>(aed (λz=>hx (by rw[<-z];exact hy))).mpr (hs y (abo _ hy))
  rw[aee hm] at this;have:0<m.length:=List.length_pos_of_mem hm;simp only[abq];omega
def EG(s:Nat):(nums s).length=s:=by simp[nums]
def Di{s:Nat}{m:Int}:m∈nums s↔1<=m/\m<=(s:Int):=by refine⟨pL,λh=>?_⟩;exact aa7.mpr ⟨(m-1).toNat,abk.mpr (by omega),by omega⟩
def QP{s:Nat}{l:List Int}(hl:l.length=s)(hn:l.Nodup)(hr:∀x∈l,1<=x/\x<=(s:Int)){n:Int}(n0:1<=n)(n1:n<=(s:Int)):n∈l:=by
 apply Classical.byContradiction;intro h;have hm:n∈nums s:=Di.mpr ⟨n0,n1⟩;have:=EF (l:=l) (m:=(nums s).erase n) hn λx hx=>(aed (λz=>h (by rw[<-z];exact hx))).mpr (Di.mpr (hr x hx))
 rw[aee hm,EG] at this;omega
def KC{G:List (List Int)}{s:Nat}{ss f:List Int}(hG:oI G s)(h:jo G s ss f){g:List Int}(hg:g∈G):(g.map (aq f)).Nodup:=by
 rw[Lg];intro k;by_cases hk:0<cnt k (g.map (aq f))
 ·obtain⟨i,hi,rfl⟩:=aa7.mp ((pU _ _).mp hk);obtain⟨i0,i1⟩:=hG.qP g hg i hi;obtain⟨r0,r1⟩:=uW h.sh i0 i1;have:=h.nz i i0 i1;exact zN h.nt hg (by omega) r1
 ·omega
def D6{G:List (List Int)}{s:Nat}{ss f:List Int}(hG:oI G s)(hs:bC s ss)(h:jo G s ss f){g n:Int}(hl:d_ G ss g n s=true):∃q,q∈bY G (tabOf G ss s) g n/\aq f q=n:=by
 obtain⟨g0,g1,n0,n1⟩:=pH hl;have hm:=mem_getD g0 g1;have hn:n∈(G.getD g.toNat []).map (aq f):=by refine QP (by rw[aaV];exact hG.len _ hm) (KC hG h hm) (λx hx=>?_) n0 n1;obtain⟨i,hi,rfl⟩:=aa7.mp hx;obtain⟨i0,i1⟩:=hG.qP _ hm i hi;obtain⟨r0,r1⟩:=uW h.sh i0 i1;have:=h.nz i i0 i1;omega
 obtain⟨q,hq,e⟩:=aa7.mp hn;obtain⟨q0,q1⟩:=hG.qP _ hm q hq;refine⟨q,abR.mpr ⟨hq,?_⟩,e⟩;have qz:aq ss q=0:=by
  rcases h.kp q q0 q1 with z|z
  ·exact z
  ·exfalso;unfold d_ at hl;rw[aaT] at hl;have:=hl.2;rw[abg] at this;have h2:((G.getD g.toNat []).map (aq ss)).any (·==n)=true:=(any_eq _ _).mpr (aa7.mpr ⟨q,hq,by rw[z];exact e⟩);rw[h2] at this;cases this
 rw[any_eq,jc G ss s q.toNat (by rw[hs.len];omega)];have:=zO hG h q0 q1 qz;rw[e] at this;rw[show((q.toNat:Nat):Int)=q by omega];exact this
def Lz{G:List (List Int)}{s:Nat}{ss f:List Int}(hG:oI G s)(hs:bC s ss)(h:jo G s ss f){st:b4}(hr:cb G s ss st=true):aq f st.place=st.num:=by
 obtain⟨p0,p1,pz,n0,n1⟩:=lY hr;have kf:st.place<((s*s:Nat):Int):=by rw[<-hs.len];exact p1
 have hc:=zO hG h p0 kf pz;unfold cb at hr;cases st with
 |fld p n=>rw[pj,aaT,abj] at hr;have ZZ:0<=p:=p0;have qr:p<((s*s:Nat):Int):=kf;have e:=hr.2;rw[jc G ss s p.toNat (by rw[hs.len];omega),show((p.toNat:Nat):Int)=p by omega] at e;have aL:aq f p∈rowOf G ss s p:=hc;rw[e] at aL;show aq f p=n;simpa using aL
 |di p n g=>
  rw[nh,aaT,aaT,abj] at hr;obtain⟨q,hq,e⟩:=D6 hG hs h hr.2.1;rw[hr.2.2] at hq;have:q=p:=by simpa using hq
  subst this;exact e
def MS{G:List (List Int)}{s:Nat}{ss f:List Int}(hs:bC s ss)(h:jo G s ss f){p:Int}(p0:0<=p)(p1:p<((s*s:Nat):Int)):jo G s (ss.set p.toNat (aq f p)) f:=by
 refine⟨h.sh,h.nz,λi i0 i1=>?_,h.nt⟩;rw[l4 ss p i _ p0 (by rw[hs.len];exact p1) i0];by_cases c:i=p
 ·subst c;rw[aaN rfl];exact .inr rfl
 ·rw[aaO c];exact h.kp i i0 i1
def JP{G:List (List Int)}{s:Nat}{ss f:List Int}(hG:oI G s)(hs:bC s ss)(h:jo G s ss f)(c:eV):dJ G ss (tabOf G ss s) s c=false:=by
 cases hc:dJ G ss (tabOf G ss s) s c with
 |false=>rfl
 |true=>
  exfalso;cases c with
  |fld p=>
   rw[ud,aaT,abj] at hc;obtain⟨p0,p1,pz⟩:=zM hc.1;have kf:p<((s*s:Nat):Int):=by rw[<-hs.len];exact p1
   have:=zO hG h p0 kf pz;have e:=hc.2;rw[jc G ss s p.toNat (by omega),show((p.toNat:Nat):Int)=p by omega] at e;rw[e] at this;simp at this
  |di g n=>rw[ue,aaT,abj] at hc;obtain⟨q,hq,_⟩:=D6 hG hs h hc.1;rw[hc.2] at hq;simp at hq
  |kj g n=>
   rw[uf,aaT,abj] at hc;obtain⟨h1,h2⟩:=hc;simp only[abg,abQ,abG] at h1;have hm:=mem_getD (G:=G) (g:=g) (by omega) (by omega);obtain⟨p,hp,q,hq,Cd,e1,e2⟩:=QO (hG.nd _ hm) h2;obtain⟨p0,p1⟩:=hG.qP _ hm p hp;obtain⟨q0,q1⟩:=hG.qP _ hm q hq;have f1:aq f p=n:=by
    rcases h.kp p p0 p1 with z|z
    ·omega
    ·rw[<-z];exact e1
   have f2:aq f q=n:=by
    rcases h.kp q q0 q1 with z|z
    ·omega
    ·rw[<-z];exact e2
   have:=Fo hp hq Cd f1 f2;obtain⟨r0,r1⟩:=uW h.sh p0 p1;have:=zN h.nt hm (k:=n) (by omega) (by omega);omega
theorem EH{G:List (List Int)}{s:Nat}{f:List Int}(hG:oI G s):∀(aJ:List b4) (ss aO:List Int),bC s ss->jo G s ss f->cI G s ss aJ=some aO->bC s aO/\jo G s aO f
 |[],ss,aO,hs,h,e=>by
  have:ss=aO:=by simpa[cI] using e
  subst this;exact⟨hs,h⟩
 |st::r,ss,aO,hs,h,e=>by
  have e':(if cb G s ss st then cI G s (cX ss st) r else none)=some aO:=e;by_cases hr:cb G s ss st=true
  ·rw[aaN hr] at e';obtain⟨p0,p1,pz,n0,n1⟩:=lY hr;have kf:st.place<((s*s:Nat):Int):=by rw[<-hs.len];exact p1
   refine EH hG r (cX ss st) aO (t_ hs hr) ?_ e';have:=MS hs h p0 kf;rw[Lz hG hs h hr] at this;exact this
  ·rw[aaO hr] at e';cases e'
def nz(ss:List Int):Nat:=ss.countP λx=>decide (x=0)
theorem F0:∀(ss:List Int) (p:Nat) (m:Int),ss[p]? =some 0->m≠0->nz (ss.set p m)+1=nz ss
 |[],p,m,h,_=>by simp at h
 |x::r,0,m,h,hm=>by simp at h;subst h;show nz (m::r)+1=nz (0::r);unfold nz;rw[List.countP_cons_of_neg (by simpa using hm),List.countP_cons_of_pos (by simp)]
 |x::r,p+1,m,h,hm=>by have ih:=F0 r p m (by simpa using h) hm;show nz (x::r.set p m)+1=nz (x::r);unfold nz at ih⊢;rw[acx,acx];omega
def AA{ss:List Int}{p m:Int}(hE:gD ss p)(hm:m≠0):nz (ss.set p.toNat m)+1=nz ss:=by
 obtain⟨p0,p1,pz⟩:=hE;refine F0 ss p.toNat m ?_ hm;have hp:p.toNat<ss.length:=by omega
 have:aq ss p=ss[p.toNat]:=by unfold aq;simp[List.getD,hp]
 rw[acJ hp,<-this,pz]
def Gv(ss:List Int):nz ss<=ss.length:=List.countP_le_length
def fL(G:List (List Int))(s:Nat)(ss:List Int):Bool:=!dH G ss (tabOf G ss s) s
def runK(G:List (List Int))(s:Nat):List Int->List b4->Option (List Int)
 |ss,[]=>some ss
 |ss,st::r=>if cb G s ss st&&fL G s ss then runK G s (cX ss st) r else none
theorem D7(G:List (List Int))(s:Nat)(st:b4):∀(l:List b4) (ss s1:List Int),runK G s ss l=some s1->cb G s s1 st=true->fL G s s1=true->runK G s ss (l++[st])=some (cX s1 st)
 |[],ss,s1,h,h1,h2=>by have e:ss=s1:=aa2 h;subst e;show(if _ then _ else _)=_;rw[h1,h2];rfl
 |x::r,ss,s1,h,h1,h2=>by
  have h':(if cb G s ss x&&fL G s ss then runK G s (cX ss x) r else none)=some s1:=h;show(if cb G s ss x&&fL G s ss then runK G s (cX ss x) (r++[st]) else none)=_;by_cases hc:(cb G s ss x&&fL G s ss)=true
  ·rw[aaN hc] at h'⊢;exact D7 G s st r _ s1 h' h1 h2
  ·rw[aaO hc] at h';cases h'
theorem uw(G:List (List Int))(s:Nat):∀(l:List b4) (ss s1:List Int),runK G s ss l=some s1->cI G s ss l=some s1
 |[],ss,s1,h=>h
 |x::r,ss,s1,h=>by
  have h':(if cb G s ss x&&fL G s ss then runK G s (cX ss x) r else none)=some s1:=h;show(if cb G s ss x then cI G s (cX ss x) r else none)=_;by_cases hc:(cb G s ss x&&fL G s ss)=true
  ·rw[aaN hc] at h';rw[aaT] at hc;rw[aaN hc.1];exact uw G s r _ s1 h'
  ·rw[aaO hc] at h';cases h'
def aT.keep{X:List Nat}{M M':Mem}{v:W}{ws:List W}(h:aT M v ws)(k:aX X M M')(hX:∀x∈X,∀us,M[x]? ≠some (.tup us)):aT M' v ws:=by obtain⟨b,e,q⟩:=h;exact⟨b,e,k.get q λz=>hX b z ws q⟩
def cG.fX{M:Mem}{a n c h w:Nat}{ss:List Int}(S:cG M a n c h w ss):∀x∈[n,c],∀us,M[x]? ≠some (.tup us):=λx hx us e=>by
 simp only[aaX,aa',aba] at hx;obtain⟨_,nm,kvs,hc,_⟩:=S;rcases hx with rfl|rfl
 ·rw[nm] at e;cases e
 ·rw[hc] at e;cases e
def cG.other{M M':Mem}{a n c h w b:Nat}{ss:List Int}(S:cG M a n c h w ss)(k:aX [b] M M')(ha:a≠b)(hn:n≠b)(hc:c≠b)(hr:∀kvs,M[c]? =some (.aI kvs)->∀(q:Int) (k:Nat),aW kvs q=some (.ref k)->k≠b)(hg:∀vG,M[a]? =some (.ins a8 (lq h w vG (.ref n) (.ref c)))->i9 n M vG (ah h w)->i9 n M' vG (ah h w)):cG M' a n c h w ss:=by
 obtain⟨⟨vG,ob,eX⟩,nm,kvs,s_,c1,c2,c3⟩:=S;refine⟨⟨vG,k.get ob (by simpa using ha),hg vG ob eX⟩,k.get nm (by simpa using hn),kvs,k.get s_ (by simpa using hc),c1,c2,λq=>?_⟩;rcases c3 q with z|⟨k',z1,z2,z3,z4⟩
 ·exact .inl z
 ·exact .inr ⟨k',z1,z2,z3,k.get z4 (by simpa using hr kvs s_ q k' z1)⟩
def zP(f:CM):Prop:=∀(M:Mem) (a n c h w:Nat) (ss:List Int),1<=h/\h<=3->1<=w/\w<=3->cG M a n c h w ss->bC (h*w) ss->
 ∃v M' vs vc aJ aO,f [.ref a] M=.ok v M'/\aT M' v [vs,vc]/\iJ M' vs aJ/\cG M' a n c h w aO/\bC (h*w) aO/\aX [n,c] M M'/\runK (ah h w) (h*w) ss aJ=some aO/\nz aO<=nz ss/\ ((vc=.ao/\fL (ah h w) (h*w) aO=true/\gK (ah h w) aO (tabOf (ah h w) aO (h*w)) (h*w)=false/\cW (ah h w) ss (h*w)=true)\/∃cl,gL M' vc cl/\dJ (ah h w) aO (tabOf (ah h w) aO (h*w)) (h*w) cl=true)/\ (cW (ah h w) ss (h*w)=false->aJ=[])/\(∃b,vs=.ref b/\M.length<=b)
def VE:TM:=tB (dQ (aa 2))
def VF(ng q9 yL:CM):SM:=
 aj (
  aG (ak yL (ae (aa 0) ag)) (ar 3)) (
 aj (
  aN (tB (dQ (aa 3))) (
   BC) (
   aV)) (
 aj (
  cH (ji [83,116,97,116,101] [112,117,116] ng (aa 0) (ae (af av (aa 3) (eC (.int 1))) (ae (af av (aa 3) (eC (.int 2))) ag)))) (
 aj (
  cH (b_ fI (aa 1) (ae (aa 3) ag))) (
 aG (ak q9 (ae (aa 0) ag)) (ar 2)))))
structure AO(M N:Mem)(a n c h w:Nat)(ss cur:List Int)(aJ:List b4)(vc:W):Prop where
 st:cG N a n c h w cur
 sh:bC (h*w) cur
 kp:aX [n,c] M N
 ls:∃ws,N[M.length]? =some (.lst ws)/\a_ (λw st=>eO N w st) ws aJ
 rk:runK (ah h w) (h*w) ss aJ=some cur
 nw:∀kvs,N[c]? =some (.aI kvs)->∀(q:Int) (k:Nat),aW kvs q=some (.ref k)->k≠M.length
 nl:aJ.length+nz cur<=nz ss
 cl:(vc=.ao/\fL (ah h w) (h*w) cur=true)\/∃cl,gL N vc cl/\dJ (ah h w) cur (tabOf (ah h w) cur (h*w)) (h*w) cl=true
def rS{c b:Nat}{N N':Mem}{kvs:List (Int×W)}(h:∀kvs,N[c]? =some (.aI kvs)->∀(q:Int) (k:Nat),aW kvs q=some (.ref k)->k≠b)(hc:N[c]? =some (.aI kvs))(aL:N'[c]? =some (.aI kvs)):
 ∀kvs,N'[c]? =some (.aI kvs)->∀(q:Int) (k:Nat),aW kvs q=some (.ref k)->k≠b:=λkv e q k z=>by
 rw[aL] at e;cases e;exact h kvs hc q k z
def LA{fp fd fs:CM}(hp:sC fp)(hd:pO fd)(hs:uv fs){M:Mem}{a n c h w:Nat}{ss:List Int}(hh:1<=h/\h<=3)(hw:1<=w/\w<=3)(S0:cG M a n c h w ss)(dW:nz ss<=81):
 ∀(z:Nat) (k:Nat) (N:Mem) (cur:List Int) (aJ:List b4) (vc:W) (x:Option W),nz cur<=z->z<k->AO M N a n c h w ss cur aJ vc-> (fJ VE (VF fp fd fs) k [some (.ref a),some (.ref M.length),some vc,x] N).Sat {nx:=λσ N'=>∃Ce Bg Uh x',σ=[some (.ref a),some (.ref M.length),some Ce,x']/\AO M N' a n c h w ss Bg Uh Ce/\(Ce=.ao->gK (ah h w) Bg (tabOf (ah h w) Bg (h*w)) (h*w)=false),rt:=λ_ _=>False}:=by
 have HS:n<M.length:=(aaZ.mp S0.nm).1;have Vq:c<M.length:=by obtain⟨kv,e,_⟩:=S0.cn;exact(aaZ.mp e).1
 have alt:a<M.length:=by obtain⟨vG,e,_⟩:=S0.ob;exact(aaZ.mp e).1
 intro z;induction z with
 |zero=>
  intro k N cur aJ vc x hz hk I;obtain⟨k,rfl⟩:∃k',k=k'+1:=⟨k-1,by omega⟩;rcases I.cl with⟨rfl,qC⟩|⟨cl,hc,hb⟩
  ·refine yE (M1:=N) (bu rfl) ?_;obtain⟨v1,N1,e1,p1,jy⟩:=hs N a n c h w cur hh hw I.st I.sh;refine aB (bL (v:=v1) (M1:=N1) (by simp only[ak,ae,ag,aa,R.bind,aaR,e1]) ?_);simp only[aaP,aaQ];rcases jy with⟨rfl,Bh⟩|⟨st,bq,hr⟩
   ·refine aB (aM (c:=true) (M1:=N1) (bu rfl) (λ_=>?_) λz=>nomatch z);obtain⟨ws,l1,l2⟩:=I.ls;obtain⟨kv,fD,_⟩:=I.st.cn;exact⟨_,_,_,_,rfl,⟨I.st.mono p1,I.sh,I.kp.trans (aX.ee p1),⟨ws,aD p1 l1,l2.imp λ_ _ t=>aT.mono t p1⟩,I.rk,rS I.nw fD (aD p1 fD),I.nl,.inl ⟨rfl,qC⟩⟩,λ_=>Bh⟩
   ·exfalso;have Cf:=lY (G:=ah h w) (s:=h*w) (ss:=cur) (st:=st) hr;have:=AA (ss:=cur) (p:=st.place) (m:=st.num) ⟨Cf.1,Cf.2.1,Cf.2.2.1⟩ (by omega);omega
  ·obtain⟨b,rfl,lH⟩:=hc;refine tZ (M1:=N) (bu rfl) ?_;exact⟨_,_,_,_,rfl,⟨I.st,I.sh,I.kp,I.ls,I.rk,I.nw,I.nl,.inr ⟨cl,⟨b,rfl,lH⟩,hb⟩⟩,λz=>by cases z⟩
 |succ z ih=>
  intro k N cur aJ vc x hz hk I;obtain⟨k,rfl⟩:∃k',k=k'+1:=⟨k-1,by omega⟩;rcases I.cl with⟨rfl,qC⟩|⟨cl,hc,hb⟩
  ·refine yE (M1:=N) (bu rfl) ?_;obtain⟨v1,N1,e1,p1,jy⟩:=hs N a n c h w cur hh hw I.st I.sh;refine aB (bL (v:=v1) (M1:=N1) (by simp only[ak,ae,ag,aa,R.bind,aaR,e1]) ?_);simp only[aaP,aaQ];obtain⟨ws,l1,l2⟩:=I.ls;obtain⟨kv,fD,_⟩:=I.st.cn;rcases jy with⟨rfl,Bh⟩|⟨st,bq,hr⟩
   ·refine aB (aM (c:=true) (M1:=N1) (bu rfl) (λ_=>?_) λz=>nomatch z);exact⟨_,_,_,_,rfl,⟨I.st.mono p1,I.sh,I.kp.trans (aX.ee p1),⟨ws,aD p1 l1,l2.imp λ_ _ t=>aT.mono t p1⟩,I.rk,rS I.nw fD (aD p1 fD),I.nl,.inl ⟨rfl,qC⟩⟩,λ_=>Bh⟩
   ·have Cg:cb (ah h w) (h*w) cur st=true:=hr;obtain⟨q0,q1,q2,n0,n1⟩:=lY Cg;have hE:gD cur st.place:=⟨q0,q1,q2⟩;obtain⟨bt,VG,ZG⟩:=id bq;subst VG;refine aB (aM (c:=false) (M1:=N1) (bu rfl) (λz=>nomatch z) λ_=>?_);refine bT ?_;dsimp only;have S1:=I.st.mono p1;obtain⟨N2,e2,S2,k2,VH⟩:=hp N1 a n c h w cur st.place st.num hh hw S1 I.sh hE (by omega);have ip:af av (aa 3) (eC (.int 1)) [some (.ref a),some (.ref M.length),some .ao,some (.ref bt)] N1=.ok (.int st.place) N1:=by
     cases st with
     |fld p m=>exact aY rfl rfl (cO bq 1 rfl)
     |di p m g=>exact aY rfl rfl (cO bq 1 rfl)
    have im:af av (aa 3) (eC (.int 2)) [some (.ref a),some (.ref M.length),some .ao,some (.ref bt)] N1=.ok (.int st.num) N1:=by
     cases st with
     |fld p m=>exact aY rfl rfl (cO bq 2 rfl)
     |di p m g=>exact aY rfl rfl (cO bq 2 rfl)
    have em:ji [83,116,97,116,101] [112,117,116] fp (aa 0) (ae (af av (aa 3) (eC (.int 1))) (ae (af av (aa 3) (eC (.int 2))) ag)) [some (.ref a),some (.ref M.length),some .ao,some (.ref bt)] N1=.ok .ao N2:=by obtain⟨vG,ob,_⟩:=S1.ob;simp only[ji,aa,R.bind,aaU,aaR,nO,uH ob,ae,ag,ip,im];exact e2
    refine aB (e_ em ?_);have bX:M.length∉[n,c]:=λzz=>by simp only[aaX,aa',aba] at zz;rcases zz with zz|zz<;>omega
    have wN:N2[M.length]? =some (.lst ws):=k2.get (aD p1 l1) bX;have nY:eO N2 (.ref bt) st:=aT.keep bq k2 S1.fX;have Z0:ws.length=aJ.length:=l2.len;have ea:=ma (σ:=[some (.ref a),some (.ref M.length),some .ao,some (.ref bt)]) (M:=N2) (o:=aa 1) (arg:=aa 3) rfl wN (show _=R.ok (.ref bt) _ from rfl) wN (by have:=I.nl;omega);refine aB (e_ ea ?_);generalize oA:N2.set M.length (.lst (ws++[.ref bt]))=N3;have k3:aX [M.length] N2 N3:=by rw[<-oA];exact aX.set _ (by simp)
    have VI:N3[M.length]? =some (.lst (ws++[.ref bt])):=by rw[<-oA];exact abr (aaZ.mp wN).1
    have wO:aX [n,c] M N2:=I.kp.trans ((aX.ee p1).trans k2);have HX:aX [n,c] M N3:=⟨aa1 wO.1 k3.1,λb hb hx=>by rw[k3.2 b (aa9 hb wO.1) (by simp;omega)];exact wO.2 b hb hx⟩
    have ZH:M.length<N1.length:=(aaZ.mp (aD p1 l1)).1;have Fp:∀kvs,N2[c]? =some (.aI kvs)->∀(q:Int) (k:Nat),aW kvs q=some (.ref k)->k≠M.length:=λkvs e q k' zz=>by
     rcases VH kvs e q k' zz with z1|⟨VJ,z1,z2⟩
     ·omega
     ·exact rS I.nw fD (aD p1 fD) VJ z1 q k' z2
    obtain⟨VL,G6,_⟩:=id S2.cn;have S3:cG N3 a n c h w (cur.set st.place.toNat st.num):=S2.other k3 (by omega) (by omega) (by omega) Fp λvG wJ _=>by
     obtain⟨VN,mQ,VO⟩:=S0.ob;have Ui:=wO.get mQ (λzz=>by
      simp only[aaX,aa',aba] at zz;rcases zz with zz|zz
      ·rw[zz,S0.nm] at mQ;cases mQ
      ·obtain⟨HY,e0,_⟩:=S0.cn;rw[zz,e0] at mQ;cases mQ)
     rw[Ui] at wJ;have ev:vG=VN:=by have:=aa2 wJ;simp only[O.ins.injEq,lq,List.cons.injEq,Prod.mk.injEq] at this;exact this.2.2.2.1.2.symm
     subst ev;obtain⟨HY,e0,_⟩:=S0.cn;exact VO.keep HX (sA e0)
    have fQ:N3[c]? =some (.aI VL):=k3.get G6 (by simp;omega);have wQ:bC (h*w) (cur.set st.place.toNat st.num):=t_ I.sh Cg;have l3:a_ (λw st=>eO N3 w st) (ws++[.ref bt]) (aJ++[st]):=by
     have G7:∀{w:W} {us:List W},aT N2 w us->aT N3 w us:=λt=>aT.keep t k3 λx hx us e=>by simp only[aaX,aa',aba] at hx;rw[hx,wN] at e;cases e
     exact a_.app (l2.imp λ_ _ t=>G7 (aT.keep (aT.mono t p1) k2 S1.fX)) (.cons (G7 nY) .nil)
    have VP:=D7 (ah h w) (h*w) st aJ ss cur I.rk Cg qC;have Z1:=AA (ss:=cur) hE (show st.num≠0 by omega);obtain⟨v4,N4,e4,p4,VQ⟩:=hd N3 a n c h w (cur.set st.place.toNat st.num) hh hw S3 wQ;refine bL (v:=v4) (M1:=N4) (by simp only[ak,ae,ag,aa,R.bind,aaR,e4]) ?_;simp only[aaP,aaQ];refine ih k N4 (cur.set st.place.toNat st.num) (aJ++[st]) v4 _ (by omega) (by omega) ⟨S3.mono p4,wQ,HX.trans (aX.ee p4),⟨_,aD p4 VI,l3.imp λ_ _ t=>aT.mono t p4⟩,VP,rS (rS Fp G6 fQ) fQ (aD p4 fQ),?_,?_⟩
    ·have:=I.nl;rw[abb];simp only[abq,aca];omega
    ·rcases VQ with⟨z1,z2⟩|zz
     ·exact .inl ⟨z1,by unfold fL;rw[z2];rfl⟩
     ·exact .inr zz
  ·obtain⟨b,rfl,lH⟩:=hc;refine tZ (M1:=N) (bu rfl) ?_;exact⟨_,_,_,_,rfl,⟨I.st,I.sh,I.kp,I.ls,I.rk,I.nw,I.nl,.inr ⟨cl,⟨b,rfl,lH⟩,hb⟩⟩,λz=>by cases z⟩
def OR{fp fd fs fc:CM}(hp:sC fp)(hd:pO fd)(hs:uv fs)(hc:yW fc):zP (PB.rG fp fd fs fc):=by
 intro M a n c h w ss hh hw S sh;obtain⟨s1,s9⟩:=jx hh hw;have dW:nz ss<=81:=by refine aa1 (Gv ss) ?_;rw[sh.len];exact abv s9 s9
 have key:∃v M',PB.rG fp fd fs fc [.ref a] M=.ok v M'/\∃vs vc aJ aO,(aT M' v [vs,vc]/\iJ M' vs aJ/\cG M' a n c h w aO/\bC (h*w) aO/\aX [n,c] M M'/\runK (ah h w) (h*w) ss aJ=some aO/\nz aO<=nz ss/\ ((vc=.ao/\fL (ah h w) (h*w) aO=true/\gK (ah h w) aO (tabOf (ah h w) aO (h*w)) (h*w)=false/\cW (ah h w) ss (h*w)=true)\/∃cl,gL M' vc cl/\dJ (ah h w) aO (tabOf (ah h w) aO (h*w)) (h*w) cl=true)/\ (cW (ah h w) ss (h*w)=false->aJ=[])/\(∃b,vs=.ref b/\M.length<=b)):=by
  refine bM rfl ?_;show(aj _ _ [some (.ref a),none,none,none] M).Sat _;refine aB (bL (v:=.ref M.length) (M1:=M++[.lst []]) rfl ?_);simp only[aaP,aaQ];have S1:=S.mono (pre_app M [.lst []]);obtain⟨v1,M1,e1,p1,jy⟩:=hc (M++[.lst []]) a n c h w ss hh hw S1 sh;refine aB (bL (v:=v1) (M1:=M1) (by simp only[ak,ae,ag,aa,R.bind,aaR,e1]) ?_);simp only[aaP,aaQ];have S2:=S1.mono p1;have lb:M1[M.length]? =some (.lst []):=aD p1 (b8 _ _);have pM:M<+:M1:=(pre_app _ _).trans p1;have I0:AO M M1 a n c h w ss ss [] v1:=⟨S2,sh,aX.ee pM,⟨[],lb,.nil⟩,rfl,λkvs e q k z=>by
   obtain⟨HY,e0,_,_,c3⟩:=S.cn;rw[aD pM e0] at e;cases e;rcases c3 q with⟨y,_⟩|⟨k0,y,_,_,y4⟩
   ·rw[y] at z;cases z
   ·rw[y] at z;cases z;have:=(aaZ.mp y4).1;omega,by simp,by
   rcases jy with⟨z1,z2,z3⟩|zz
   ·exact .inl ⟨z1,by unfold fL;rw[z2];rfl⟩
   ·exact .inr zz⟩
  refine aB ?_;by_cases wR:cW (ah h w) ss (h*w)=true
  ·refine RS.Sat.mono (LA hp hd hs hh hw S dW 81 1000000000 M1 ss [] v1 none dW (by decide) I0) ?_ (λ_ _ z=>z.elim) (λ_ _ z=>z.elim) (λ_ _ z=>z.elim);rintro σ N ⟨vc,cur,aJ,x,rfl,I,SK⟩;dsimp only;have et:cD (ae (aa 1) (ae (aa 2) ag)) [some (.ref a),some (.ref M.length),some vc,x] N=.ok (.ref N.length) (N++[.tup [.ref M.length,vc]]):=(show iH [.ref M.length,vc] N=_ from kH (by show 2<=16777216;decide));obtain⟨ws,l1,l2⟩:=I.ls;refine aR et ⟨.ref M.length,vc,aJ,cur,aT.new _ _,⟨ws,⟨_,rfl,aD (pre_app _ _) l1⟩,l2.imp λ_ _ t=>aT.mono t (pre_app _ _)⟩,I.st.mono (pre_app _ _),I.sh,I.kp.trans (aX.ee (pre_app _ _)),I.rk,by have:=I.nl;omega,?_,(λz=>by rw[wR] at z;cases z),M.length,rfl,aaY _⟩;rcases I.cl with⟨z1,z2⟩|⟨cl,z1,z2⟩
   ·exact .inl ⟨z1,z2,SK z1,wR⟩
   ·exact .inr ⟨cl,aT.mono z1 (pre_app _ _),z2⟩
  ·have ZI:cW (ah h w) ss (h*w)=false:=by simpa using wR
   rcases jy with⟨_,_,z3⟩|⟨cl,tF,hb⟩
   ·exact(wR z3).elim
   ·obtain⟨b,rfl,lH⟩:=tF;refine tZ (M1:=M1) (bu rfl) ?_;dsimp only;have et:cD (ae (aa 1) (ae (aa 2) ag)) [some (.ref a),some (.ref M.length),some (.ref b),none] M1=.ok (.ref M1.length) (M1++[.tup [.ref M.length,.ref b]]):=(show iH [.ref M.length,.ref b] M1=_ from kH (by show 2<=16777216;decide));exact aR et ⟨.ref M.length,.ref b,[],ss,aT.new _ _,⟨[],⟨_,rfl,aD (pre_app _ _) lb⟩,.nil⟩,S2.mono (pre_app _ _),sh,(aX.ee pM).trans (aX.ee (pre_app _ _)),rfl,aaY _,.inr ⟨cl,aT.mono ⟨b,rfl,lH⟩ (pre_app _ _),hb⟩,λ_=>rfl,M.length,rfl,aaY _⟩
 obtain⟨v,M',e,vs,vc,aJ,aO,q⟩:=key;exact⟨v,M',vs,vc,aJ,aO,e,q⟩
def G8(h w:Nat):Bool:=(ah h w).all λg=>decide (g.length=h*w)&&(decide g.Nodup&&g.all λi=>decide (0<=i)&&decide (i<((h*w*(h*w):Nat):Int)))
def HZ{h w:Nat}(hh:1<=h/\h<=3)(hw:1<=w/\w<=3):oI (ah h w) (h*w):=by
 have e:G8 h w=true:=by rcases h3 hh with rfl|rfl|rfl<;>rcases h3 hw with rfl|rfl|rfl<;>decide+kernel
 unfold G8 at e;have each:∀g∈ah h w,g.length=h*w/\g.Nodup/\∀i∈g,0<=i/\i<((h*w*(h*w):Nat):Int):=λg hg=>by have:=abC.mp e g hg;simp only[aaT,abD,abC] at this;exact⟨this.1,this.2.1,this.2.2⟩
 exact⟨λg hg=>(each g hg).1,λg hg=>(each g hg).2.1,λg hg=>(each g hg).2.2⟩
def Uj(h w c:Nat):List Int:=(ah h w).getD (h*w+c) []
def ec(h w:Nat)(ss:List Int)(c:Nat):Nat:=(Uj h w c).countP λi=>decide (aq ss i=0)
def Fq(f:CM):Prop:=∀(N M:Mem) (a n c h w:Nat) (ss:List Int) (bo:W) (aJ:List b4),1<=h/\h<=3->1<=w/\w<=3->N<+:M->N.length<=n->N.length<=c->cG M a n c h w ss->bC (h*w) ss->iJ N bo aJ->
 ∃v M',f [.ref a,bo] M=.ok v M'/\aX [n,c] M M'/\((v=.bl true/\∃aO,cI (ah h w) (h*w) ss aJ=some aO/\cG M' a n c h w aO/\bC (h*w) aO)\/(v=.bl false/\cI (ah h w) (h*w) ss aJ=none))
def QQ{fp fs:CM}(hp:sC fp)(hs:zI fs):Fq (PB.t6 fp fs):=by
 intro N M a n c h w ss bo aJ hh hw hN nn nc S sh bq;have lK:∀x∈[n,c],N.length<=x:=by
  intro x hx;simp only[aaX,aa',aba] at hx;rcases hx with rfl|rfl
  ·exact nn
  ·exact nc
 obtain⟨ws,hL,hA⟩:=bq;have dS:=hA.len;refine bM rfl ?_;refine aB (fb (v:=bo) (M1:=M) (xs:=ws) rfl (hL.mono hN) (λj σ M'=>(∃y,σ=[some (.ref a),some bo,y])/\aX [n,c] M M'/\∃s1,cI (ah h w) (h*w) ss (aJ.take j)=some s1/\cG M' a n c h w s1/\bC (h*w) s1)
  ⟨⟨_,rfl⟩,aX.refl _ _,ss,rfl,S,sh⟩ (λj σ M' _ h=>hL.mono (h.2.1.base hN lK)) ?_ ?_)
 ·rintro j x σ M' hx ⟨⟨y,rfl⟩,k,s1,h1,S1,iO⟩;obtain⟨st,Bi,nY⟩:=hA.at hx;have tk:aJ.take (j+1)=aJ.take j++[st]:=by rw[acb,Bi];rfl
  have tL:=k.base hN lK;show((aj _ _:SM) [some (.ref a),some bo,some x] M').Sat _;obtain⟨M2,e2,p2⟩:=hs M' a n c h w s1 x st hh hw S1 iO (aT.mono nY tL);refine aB (aM (c:=!cb (ah h w) (h*w) s1 st) (M1:=M2) (fF (bu ?_)) (λhc=>?_) λhc=>?_)
  ·simp only[ak,ae,ag,aa,R.bind,aaU,aaR,e2];rfl
  ·refine aR (v:=.bl false) (M1:=M2) rfl ⟨k.trans (aX.ee p2),.inr ⟨rfl,?_⟩⟩;have e3:cI (ah h w) (h*w) ss (aJ.take (j+1))=none:=by rw[tk,zg,h1];rw[abg] at hc;show(if cb (ah h w) (h*w) s1 st=true then _ else _)=_;rw[hc];rfl
   have:=D5 (ah h w) (h*w) (aJ.take (j+1)) (aJ.drop (j+1)) ss e3;rw[aef] at this;exact this
  ·refine bT ?_;dsimp only;rw[abP] at hc;obtain⟨p0,p1,pz,n0,n1⟩:=lY hc;have S2:=S1.mono p2;obtain⟨M3,e3,S3,k3,_⟩:=hp M2 a n c h w s1 st.place st.num hh hw S2 iO (lX.mp (by unfold dI;simp[p0,p1,pz])) (by omega);have G9:eO M2 x st:=(aT.mono nY tL).mono p2;have hi:nO a8 [112,117,116] M2 (.ref a)=true:=by obtain⟨vG,o,_⟩:=S2.ob;simp[nO,fU,o,c9]
   have r1:av x (.int 1) M2=.ok (.int st.place) M2:=cO G9 1 (by cases st<;>rfl);have r2:av x (.int 2) M2=.ok (.int st.num) M2:=cO G9 2 (by cases st<;>rfl);refine e_ (v:=.ao) (M1:=M3) ?_ ⟨⟨_,rfl⟩,(k.trans (aX.ee p2)).trans k3,cX s1 st,?_,S3,t_ iO hc⟩
   ·simp only[ji,ae,ag,aa,af,eC,R.bind,aaU,aaR,hi,r1,r2,aaW,e3]
   ·rw[tk,zg,h1];show(if cb (ah h w) (h*w) s1 st=true then _ else _)=_;rw[aaN hc]
 ·rintro σ M' ⟨⟨y,rfl⟩,k,s1,h1,S1,iO⟩;rw[dS,aby] at h1;dsimp only;exact aR (v:=.bl true) (M1:=M') rfl ⟨k,.inl ⟨rfl,s1,h1,S1,iO⟩⟩
abbrev iF:List Nat:=[78,111,83,116,101,112]
def pP(f:CM):Prop:=∀(h w:Nat) (M:Mem) (vs bo:W) (ss:List Int) (aJ:List b4),1<=h/\h<=3->1<=w/\w<=3->aP M vs ss->bC (h*w) ss->iJ M bo aJ-> (∃aO n M',cI (ah h w) (h*w) ss aJ=some aO/\bC (h*w) aO/\f [.int h,.int w,vs,bo] M=.ok (.ref n) M'/\M<+:M'/\M'[n]? =some (.lst (aO.map .int)))\/(cI (ah h w) (h*w) ss aJ=none/\∃M',f [.int h,.int w,vs,bo] M=.ex (.str iF) M'/\M<+:M')
def OS{fs fa:CM}(hs:uq fs)(ha:Fq fa):pP (PB.pX fs fa):=by
 intro h w M vs bo ss aJ hh hw hv sh bq;obtain⟨M1,n,c,e1,p1,S,ln,lc⟩:=hs h w M vs ss hh hw hv sh;obtain⟨v,M2,e2,k2,q⟩:=ha M M1 M.length n c h w ss bo aJ hh hw p1 (acn ln) (acn lc) S sh bq;have p2:M<+:M2:=k2.base p1 (by simp;omega);rcases q with⟨rfl,aO,q1,q2,q3⟩|⟨rfl,q1⟩
 ·obtain⟨vG,o,_⟩:=q2.ob;refine .inl ⟨aO,n,M2,q1,q3,?_,p2,q2.nm⟩;have:aZ a8 fN (aa 4) [some (.int h),some (.int w),some vs,some bo,some (.ref M.length)] M2=.ok (.ref n) M2:=dk rfl o rfl;simp only[PB.pX,fn,abq,aca,Nat.reduceAdd,aaW,aa_,abi,acA,aj,mD,aN,sM,b6,tB,aH,aG,ar,ak,ae,ag,aa,R.bind,R.cz,R.eB,RS.andThen,aa8,abJ,ab0,abl,abY,ab7,Nat.reduceSub,aaU,aaR,e1,aaQ,aaP,e2,aV,this]
 ·refine .inr ⟨q1,M2,?_,p2⟩;simp only[PB.pX,fn,abq,aca,Nat.reduceAdd,aaW,aa_,abi,Bool.not_false,aj,mD,aN,sM,b6,tB,aH,aG,ar,ak,ae,ag,aa,R.bind,R.cz,R.eB,RS.andThen,aa8,abJ,ab0,abl,abY,ab7,Nat.reduceSub,aaU,aaR,e1,aaQ,aaP,e2,Au]
theorem Ft{G:List (List Int)}{s:Nat}:∀{aJ:List b4} {ss aO:List Int},cI G s ss aJ=some aO->aJ.length+nz aO=nz ss
 |[],ss,aO,e=>by cases e;simp
 |st::r,ss,aO,e=>by
  have e:(if cb G s ss st=true then cI G s (cX ss st) r else none)=some aO:=e;by_cases hr:cb G s ss st=true
  ·rw[aaN hr] at e;have ih:=Ft e;obtain⟨p0,p1,pz,n0,n1⟩:=lY hr;have:=AA (ss:=ss) (p:=st.place) (m:=st.num) (lX.mp (by unfold dI;simp[p0,p1,pz])) (by omega);unfold cX at ih;simp only[abq];omega
  ·rw[aaO hr] at e;cases e
def zh(f:CM):Prop:=∀(h w:Nat) (M:Mem) (vs:W) (ss:List Int),1<=h/\h<=3->1<=w/\w<=3->aP M vs ss->bC (h*w) ss->
 ∃v M' us uc aJ aO,f [.int h,.int w,vs] M=.ok v M'/\M<+:M'/\aT M' v [us,uc]/\iJ M' us aJ/\bC (h*w) aO/\runK (ah h w) (h*w) ss aJ=some aO/\ ((uc=.ao/\fL (ah h w) (h*w) aO=true/\gK (ah h w) aO (tabOf (ah h w) aO (h*w)) (h*w)=false/\cW (ah h w) ss (h*w)=true)\/∃cl,gL M' uc cl/\dJ (ah h w) aO (tabOf (ah h w) aO (h*w)) (h*w) cl=true)/\ (cW (ah h w) ss (h*w)=false->aJ=[])/\aJ.length<=81
def KD{fs ft:CM}(hs:uq fs)(ht:zP ft):zh (PB.rM fs ft):=by
 intro h w M vs ss hh hw hv sh;obtain⟨M1,n,c,e1,p1,S,ln,lc⟩:=hs h w M vs ss hh hw hv sh;obtain⟨v,M2,us,uc,aJ,aO,e2,t2,l2,S2,VR,k2,r2,z2,q2,q3,_⟩:=ht M1 M.length n c h w ss hh hw S sh;have p2:M<+:M2:=k2.base p1 (by simp;omega);refine⟨v,M2,us,uc,aJ,aO,?_,p2,t2,l2,VR,r2,q2,q3,?_⟩
 ·simp only[PB.rM,fn,abq,aca,Nat.reduceAdd,aaW,aH,ak,ae,ag,aa,R.bind,R.cz,aa8,abJ,ab0,abl,abY,ab7,Nat.reduceSub,aaU,aaR,e1,e2]
 ·have z1:=Ft (uw _ _ _ _ _ r2);have z3:=Gv ss;have z4:=sh.len;have:=(qK hh hw).2.2;omega
end LV
namespace K4
open VM
abbrev m9:=PB.m9
abbrev mZ:=PB.mZ
abbrev m_:=PB.m_
abbrev rJ:=PB.rJ
abbrev o2:=PB.o2
abbrev o9:=PB.o9
abbrev o8:=PB.o8
abbrev oZ:=PB.oZ
abbrev o_:=PB.o_
def Dd:CM:=fn 3 3 (
 sL)
def zZ(yK:CM):CM:=qF [83,116,97,116,101] yK
abbrev kF:=PB.kF
abbrev rL:=PB.rL
abbrev rj:=PB.rj
abbrev t6:=PB.t6
abbrev rm:=PB.rm
abbrev qX:=PB.qX
abbrev rg:=PB.rg
abbrev qY:=PB.qY
abbrev rn:=PB.rn
abbrev qZ:=PB.qZ
abbrev rF:=PB.rF
abbrev rp:=PB.rp
abbrev rG:=PB.rG
abbrev pX:=PB.pX
abbrev rM:=PB.rM
abbrev cZ:=LV.cZ
abbrev iX:=LV.iX
abbrev jM:=LV.jM
abbrev o7:=LV.o7
abbrev o4:=LV.o4
abbrev o5:=LV.o5
abbrev m8:=LV.m8
abbrev iT:=LV.iT
abbrev jJ:=LV.jJ
abbrev ny:=LV.ny
abbrev eM:=LV.eM
abbrev eN:=LV.eN
abbrev m5:=LV.m5
abbrev jL:=LV.jL
abbrev m7:=LV.m7
abbrev lW:=LV.lW
abbrev o6:=LV.o6
abbrev kD:=LV.kD
abbrev kE:=LV.kE
abbrev o3:=LV.o3
abbrev jI:=LV.jI
def Dq(AB pG:CM):CM:=fn 4 7 (
 aj (
  aG (ak fT (ae (aa 2) ag)) (ar 4)) (
 aj (
  aG (ak fT (ae (aa 3) ag)) (ar 5)) (
 aj (
  aG (eC .ao) (ar 6)) (
 aj (
  gO (
   aG (gm AB (ae (aa 0) (ae (aa 1) (ae (aa 4) (ae (aa 5) ag))))) (ar 6)) [[78,111,83,116,101,112]] none (
   aG (eC .ao) (ar 6))) (
 aj (
  aN (b6 (tB (ak pG (ae (aS (ae (aa 4) (ae (aa 5) ag))) (ae (aS (ae (aa 2) (ae (aa 3) ag))) ag))))) (
   aH (eC (.str [99,104,97,110,103,101,100]))) (
   aV)) (
 aH (aa 6)))))))
def tY(AB yR Jr:CM):CM:=fn 5 9 (
 aj (
  aG (ak yR (ae (aa 0) (ae (aa 1) (ae (aa 2) (ae (aa 3) ag))))) (ar 5)) (
 aj (
  aG (eC (.bl false)) (ar 6)) (
 aj (
  gO (
   cH (gm AB (ae (aa 0) (ae (aa 1) (ae (ak fT (ae (aa 2) ag)) (ae (ak fT (ae (aa 3) ag)) ag)))))) [[78,111,83,116,101,112]] (some 7) (
   aj (
    aG (af bp (ak gx (ae (jY [] [[78,111,83,116,101,112]] (aa 7)) ag)) (ak gx (ae (jY [[78,111,83,116,101,112]] [] (aa 7)) ag))) (ar 8)) (
   aG (dm (af oEq (aa 8) (eC (.int 1))) (jY [[78,111,83,116,101,112]] [] (aa 7))) (ar 6)))) (
 aH (dm (af oEq (aa 6) (dQ (aa 4))) (ak Jr (ae (aa 5) (ae (aa 4) ag))))))))
abbrev rK:=LV.rK
abbrev rb:=LV.rb
abbrev m6:=LV.m6
abbrev rE:=LV.rE
def yG(kK JQ:CM):CM:=fn 1 1 (
 aj (
  aN (tB (af jt (ak bx (ae (aa 0) ag)) (eC (.int 63)))) (
   aH (af av (aS (ae (cD (ae (eC (.int 2)) (ae (eC (.int 3)) ag))) (ae (cD (ae (eC (.int 3)) (ae (eC (.int 2)) ag))) (ae (cD (ae (eC (.int 3)) (ae (eC (.int 3)) ag))) (ae (cD (ae (eC (.int 2)) (ae (eC (.int 2)) ag))) ag))))) (af oMod (ak kK (ae (aa 0) (ae (eC (.int 0)) ag))) (eC (.int 4))))) (
   aV)) (
 aj (
  aN (tB (af oEq (af oMod (ak vQ (ae (f9 (aa 0) g_ (fi (eC (.int 1)))) ag)) (eC (.int 32))) (eC (.int 9)))) (
   aH (af av (aS (ae (cD (ae (eC (.int 2)) (ae (eC (.int 3)) ag))) (ae (cD (ae (eC (.int 3)) (ae (eC (.int 2)) ag))) ag))) (af oMod (af oDiv (ak kK (ae (aa 0) (ae (eC (.int 0)) ag))) (eC (.int 32))) (eC (.int 2))))) (
   aV)) (
 aH (ak JQ (ae (ak kK (ae (aa 0) (ae (eC (.int 0)) ag))) ag)))))
abbrev rh:=LV.rh
def Gw(KG kK pG Js Jt JR rD rH JD yJ yI C_ yR Ju DB Jm JS JE Jv:CM):CM:=fn 1 20 (
 aj (
  aG (ak JE (ae (aa 0) ag)) (fm [ar 1,ar 2])) (
 aj (
  aG (af bN (aa 1) (aa 2)) (ar 3)) (
 aj (
  aG (ak Js (ae (aa 1) (ae (aa 2) ag))) (ar 4)) (
 aj (
  aG (ak Jt (ae (aa 1) (ae (aa 2) (ae (ak kK (ae (aa 0) (ae (eC (.int 1)) ag))) ag)))) (ar 5)) (
 aj (
  aG (af oMod (ak kK (ae (aa 0) (ae (eC (.int 2)) ag))) (af av (aS (ae (eC (.int 7)) (ae (eC (.int 3)) ag))) (ak gx (ae (af jt (aa 3) (eC (.int 4))) ag)))) (ar 6)) (
 aj (
  aG (ak JR (ae (aa 5) (ae (f9 (aa 0) (fi (eC (.int 3))) (fi (eC (.int 19)))) (ae (aa 6) ag)))) (ar 7)) (
 aj (
  aG (ak kK (ae (aa 0) (ae (eC (.int 19)) ag))) (ar 8)) (
 aj (
  aG (ak kK (ae (aa 0) (ae (eC (.int 20)) ag))) (ar 9)) (
 aj (
  aG (ak Jm (ae (aa 4) (ae (aa 7) (ae (aa 3) (ae (aa 8) (ae (aa 9) ag)))))) (ar 7)) (
 aj (
  aN (eP (tB (jR oLt oLt (eC (.int 1)) (aa 3) (eC (.int 9)))) (tB (af oEq (af oMod (af oDiv (ak kK (ae (aa 0) (ae (eC (.int 2)) ag))) (eC (.int 7))) (eC (.int 4))) (eC (.int 1))))) (
   aG (ak Jv (ae (aa 5) (ae (aa 3) (ae (aa 9) ag)))) (ar 7)) (
   aV)) (
 aj (
  aG (ak fT (ae (aa 7) ag)) (ar 10)) (
 aj (
  aG (ak KG (ae (aa 1) (ae (aa 2) (ae (aa 10) ag)))) (ar 11)) (
 aj (
  aN (bZ (b6 (tB (ak pG (ae (aa 10) (ae (aa 7) ag))))) (bZ (b6 (tB (bW [.tuple] (aa 11)))) (tB (af bV (ak bx (ae (aa 11) ag)) (eC (.int 2)))))) (
   aH (eC (.bl false))) (
   aV)) (
 aj (
  aN (b6 (tB (ak JD (ae (af av (aa 11) (eC (.int 0))) ag)))) (
   aH (eC (.bl false))) (
   aV)) (
 aj (
  aN (b6 (tB (ak yI (ae (aa 4) (ae (aa 7) (ae (aa 3) ag)))))) (
   aj (
    aN (bZ (tB (af bV (af av (aa 11) (eC (.int 0))) (aS (ag)))) (b6 (tB (ak yJ (ae (af av (aa 11) (eC (.int 1))) ag))))) (
     aH (eC (.bl false))) (
     aV)) (
   aj (
    aG (ak rD (ae (aa 4) (ae (aa 7) (ae (aa 3) ag)))) (ar 12)) (
   aH (ak rH (ae (aa 4) (ae (aa 7) (ae (aa 12) (ae (af av (aa 11) (eC (.int 1))) (ae (aa 3) ag))))))))) (
   aV)) (
 aj (
  aG (ak DB (ae (aa 4) (ae (aa 7) (ae (af av (aa 11) (eC (.int 0))) (ae (aa 3) (ae (eC (.bl true)) ag)))))) (ar 13)) (
 aj (
  aN (bZ (tB (dQ (aa 13))) (b6 (tB (ak JS (ae (aa 4) (ae (af av (aa 13) (eC (.int 0))) (ae (af av (aa 13) (eC (.int 1))) (ae (af av (aa 11) (eC (.int 1))) (ae (aa 3) ag))))))))) (
   aH (eC (.bl false))) (
   aV)) (
 aj (
  aG (ak yR (ae (aa 1) (ae (aa 2) (ae (ak fT (ae (aa 7) ag)) (ae (ak fT (ae (af av (aa 11) (eC (.int 0))) ag)) ag))))) (ar 14)) (
 aj (
  aN (bZ (b6 (tB (bW [.list] (aa 14)))) (b6 (tB (ak pG (ae (aa 14) (ae (af av (aa 13) (eC (.int 0))) ag)))))) (
   aH (eC (.bl false))) (
   aV)) (
 aj (
  aG (AK (af av (aa 11) (eC (.int 0)))) (ar 15)) (
 aj (
  aG (af oMod (af oDiv (aa 8) (eC (.int 4))) (af bp (ak bx (ae (af av (aa 11) (eC (.int 0))) ag)) (eC (.int 1)))) (ar 16)) (
 aj (
  aG (af bp (f9 (af av (aa 11) (eC (.int 0))) g_ (fi (aa 16))) (f9 (af av (aa 11) (eC (.int 0))) (fi (af bp (aa 16) (eC (.int 1)))) g_)) (ar 17)) (
 aj (
  bH (bF (aS (ae (af bp (af av (aa 11) (eC (.int 0))) (f9 (af av (aa 11) (eC (.int 0))) (fi (A_ (eC (.int 1)))) g_)) (ae (aa 15) (ae (aa 17) ag))))) (ar 18) (
   aj (
    aG (ak DB (ae (aa 4) (ae (aa 7) (ae (aa 18) (ae (aa 3) (ae (eC (.bl false)) ag)))))) (ar 19)) (
   aN (b6 (tB (ak Ju (ae (aa 1) (ae (aa 2) (ae (aa 7) (ae (aa 18) (ae (aa 19) ag)))))))) (
    aH (eC (.bl false))) (
    aV)))) (
 aj (
  aN (b6 (tB (ak C_ (ae (aa 4) (ae (aa 7) (ae (aa 5) (ae (aa 3) ag))))))) (
   aH (eC (.bl true))) (
   aV)) (
 aH (dm (dQ (af av (aa 11) (eC (.int 1)))) (ak C_ (ae (aa 4) (ae (af av (aa 13) (eC (.int 0))) (ae (aa 5) (ae (aa 3) ag)))))))))))))))))))))))))))))))
def tab(c:CE):CE
 |0=>m9
 |1=>mZ
 |2=>m_
 |3=>rJ (c 0) (c 1) (c 2)
 |4=>o2
 |5=>o9
 |6=>o8 (c 3) (c 4) (c 7)
 |7=>oZ (c 5)
 |8=>o_ (c 5)
 |9=>Dd
 |10=>zZ (c 6)
 |11=>kF
 |12=>rL
 |13=>rj (c 11) (c 12)
 |14=>t6 (c 8) (c 13)
 |15=>rm
 |16=>qX
 |17=>rg
 |18=>qY (c 16) (c 17)
 |19=>rn (c 18)
 |20=>qZ (c 15) (c 18)
 |21=>rF (c 12)
 |22=>rp (c 19) (c 20)
 |23=>rG (c 8) (c 20) (c 21) (c 22)
 |24=>pX (c 10) (c 14)
 |25=>rM (c 10) (c 23)
 |26=>cZ
 |27=>iX
 |28=>jM (c 26)
 |29=>o7
 |30=>o4
 |31=>o5
 |32=>m8
 |33=>iT
 |34=>jJ (c 33)
 |35=>ny
 |36=>eM
 |37=>eN
 |38=>m5 (c 36) (c 37)
 |39=>jL (c 36) (c 37)
 |40=>m7 (c 36) (c 37)
 |41=>lW (c 26)
 |42=>o6 (c 41)
 |43=>kD (c 26)
 |44=>kE
 |45=>o3 (c 44)
 |46=>jI (c 39)
 |47=>Dq (c 24) (c 28)
 |48=>tY (c 24) (c 47) (c 51)
 |49=>rK (c 34) (c 35) (c 38) (c 46)
 |50=>rb (c 34)
 |51=>m6 (c 28)
 |52=>rE (c 39) (c 40) (c 43) (c 46)
 |53=>yG (c 27) (c 29)
 |54=>rh
 |55=>Gw (c 25) (c 27) (c 28) (c 30) (c 31) (c 32) (c 34) (c 39) (c 42) (c 43) (c 44) (c 45) (c 47) (c 48) (c 49) (c 50) (c 52) (c 53) (c 54)
 |_=>λ_ _=>.bad
end K4
namespace LV
open VM
local macro_rules| `(tactic|walk_at "ev")=> `(tactic|simp only[tB,eP,bZ,b6,dD,af,aa,eC,aS,cD,ag,ae,ak,dm,wo,mz,wq,dQ,mq,b_,R.bind,bp,nU,ar,eQ,fm,jU,cg,dM,List.length_cons,List.length_nil,List.map_cons,List.map_nil,List.cons_append,List.nil_append,List.append_nil,List.getElem?_cons_zero,List.getElem?_cons_succ,List.set_cons_zero,List.set_cons_succ,if_true,if_false,Bool.false_eq_true,Nat.reduceAdd,Nat.reduceSub,List.replicate_succ,List.replicate_zero,Nat.zero_add,Nat.add_zero,du,List.foldl_nil,List.foldl_cons,List.append_assoc])
def runC(G:List (List Int))(s:Nat)(cl:Bool):List Int->List b4->Option (List Int)
 |ss,[]=>some ss
 |ss,st::r=>if cb G s ss st&& !(cl&&dH G ss (tabOf G ss s) s) then runC G s cl (cX ss st) r else none
theorem DC(G:List (List Int))(s:Nat):∀(l:List b4) (ss:List Int),runC G s false ss l=cI G s ss l
 |[],_=>rfl
 |st::r,ss=>by show(if cb G s ss st&&true then runC G s false (cX ss st) r else none)=(if cb G s ss st then cI G s (cX ss st) r else none);rw[acj,DC G s r]
theorem D8(G:List (List Int))(s:Nat):∀(l:List b4) (ss:List Int),runC G s true ss l=runK G s ss l
 |[],_=>rfl
 |st::r,ss=>by show(if cb G s ss st&& !(true&&dH G ss (tabOf G ss s) s) then runC G s true (cX ss st) r else none)=(if cb G s ss st&&fL G s ss then runK G s (cX ss st) r else none);rw[abu,D8 G s r];rfl
theorem zi(G:List (List Int))(s:Nat)(cl:Bool)(st:b4):∀(l:List b4) (ss s1:List Int),runC G s cl ss l=some s1->runC G s cl ss (l++[st])=if cb G s s1 st&& !(cl&&dH G s1 (tabOf G s1 s) s) then some (cX s1 st) else none
 |[],ss,s1,h=>by cases h;rfl
 |x::l,ss,s1,h=>by
  have h':(if cb G s ss x&& !(cl&&dH G ss (tabOf G ss s) s) then runC G s cl (cX ss x) l else none)=some s1:=h;show(if cb G s ss x&& !(cl&&dH G ss (tabOf G ss s) s) then runC G s cl (cX ss x) (l++[st]) else none)=_;by_cases c:(cb G s ss x&& !(cl&&dH G ss (tabOf G ss s) s))=true
  ·rw[aaN c] at h'⊢;exact zi G s cl st l _ _ h'
  ·rw[aaO c] at h';cases h'
theorem D9(G:List (List Int))(s:Nat)(cl:Bool):∀(l r:List b4) (ss:List Int),runC G s cl ss l=none->runC G s cl ss (l++r)=none
 |[],_,_,h=>by cases h
 |x::l,r,ss,h=>by
  have h':(if cb G s ss x&& !(cl&&dH G ss (tabOf G ss s) s) then runC G s cl (cX ss x) l else none)=none:=h;show(if cb G s ss x&& !(cl&&dH G ss (tabOf G ss s) s) then runC G s cl (cX ss x) (l++r) else none)=none;by_cases c:(cb G s ss x&& !(cl&&dH G ss (tabOf G ss s) s))=true
  ·rw[aaN c] at h'⊢;exact D9 G s cl l r _ h'
  ·rw[aaO c]
def KH(f:CM):Prop:=∀(M:Mem) (vG vs bo:W) (G:List (List Int)) (ss:List Int) (aJ:List b4) (s:Nat) (cl:Bool),LL M vG G->aP M vs ss->iJ M bo aJ->bC s ss->(∀g∈G,g.length<=9/\∀i∈g,0<=i/\i<(ss.length:Int))->G.length<=27->s<=9->ss.length<=81->
 ∃v M',f [vG,vs,bo,.int s,.bl cl] M=.ok v M'/\M<+:M'/\((v=.ao/\runC G s cl ss aJ=none)\/∃s1 a b,runC G s cl ss aJ=some s1/\bC s s1/\aT M' v [.ref a,.ref b]/\M'[a]? =some (.lst (s1.map .int))/\LL M' (.ref b) (tabOf G s1 s))
def DD:KH (rK (jJ iT) ny (m5 eM eN) (jI (jL eM eN))):=by
 intro M vG vs bo G ss aJ s cl hG hv bq sh a7 vS s9 dW;have Bc:∀g∈G,∀i∈g,0<=i/\i<(ss.length:Int):=λg hg=>(a7 g hg).2
 obtain⟨ws,J,ec,hT⟩:=Aw (M++[.lst (ss.map .int)]) vG vs G ss s (hG.mono (pre_app _ _)) (aF.mono hv (pre_app _ _)) Bc dW s9;have l1:(M++[O.lst (ss.map .int)]).length=M.length+1:=by simp
 rw[l1] at ec hT;obtain⟨xs,hL,hA⟩:=bq;have dS:=hA.len;have lK:∀x∈[M.length,M.length+1],M.length<=x:=by simp
 generalize dU:M++[O.lst (ss.map .int)]++.lst ws::J=M2 at ec;have p0:M<+:M2:=by rw[<-dU,abZ];exact pre_app _ _
 have ga:M2[M.length]? =some (.lst (ss.map .int)):=by rw[<-dU];exact aD (pre_app _ _) (b8 _ _)
 have gb:M2[M.length+1]? =some (.lst ws):=by rw[<-dU,<-l1];exact fe _ _ _
 have tab:TabAt [M.length,M.length+1] M2 (M.length+1) (tabOf G ss s):=by refine⟨ws,gb,hT.imp λw r ⟨k,e1,e2⟩=>⟨M.length+1+1+k,e1,by simp;omega,?_⟩⟩;have:=Er (M++[O.lst (ss.map .int)]) J (.lst ws) k;rw[l1] at this;rw[<-dU,this];exact e2
 have Z2:M.length+1<M2.length:=(aaZ.mp gb).1;refine bM rfl ?_;refine cU (v:=.ref M.length) (M1:=M++[.lst (ss.map .int)]) (by walk_at "ev";exact nk hv (by omega)) ?_;refine cU (v:=.ref (M.length+1)) (M1:=M2) (by walk_at "ev";exact ec) ?_;refine aB (fb (v:=bo) (M1:=M2) (xs:=xs) rfl (hL.mono p0) (λj σ M'=>(∃y,σ=[some vG,some vs,some bo,some (.int s),some (.bl cl),some (.ref M.length),some (.ref (M.length+1)),y])/\aX [M.length,M.length+1] M2 M'/\∃s1,runC G s cl ss (aJ.take j)=some s1/\M'[M.length]? =some (.lst (s1.map .int))/\TabAt [M.length,M.length+1] M' (M.length+1) (tabOf G s1 s)/\bC s s1)
  ⟨⟨_,rfl⟩,aX.refl _ _,ss,rfl,ga,tab,sh⟩ (λj σ M' _ h=>hL.mono (h.2.1.base p0 lK)) ?_ ?_)
 ·rintro j x σ M' hx ⟨⟨y,rfl⟩,k,s1,h1,h2,h3,h4⟩;obtain⟨st,Bi,nY⟩:=hA.at hx;have tk:aJ.take (j+1)=aJ.take j++[st]:=by rw[acb,Bi];rfl
  have tL:=k.base p0 lK;have sl:s1.length=ss.length:=by rw[h4.len,sh.len]
  have qt:∀g∈G,g.length<=9/\∀i∈g,0<=i/\i<(s1.length:Int):=by rw[sl];exact a7
  have stop:¬(cb G s s1 st&& !(cl&&dH G s1 (tabOf G s1 s) s))=true->runC G s cl ss aJ=none:=λhc=>by
   have e3:runC G s cl ss (aJ.take (j+1))=none:=by rw[tk,zi _ _ _ _ _ _ _ h1,aaO hc]
   have:=D9 G s cl (aJ.take (j+1)) (aJ.drop (j+1)) ss e3;rw[aef] at this;exact this
  show((aj _ _:SM) [some vG,some vs,some bo,some (.int s),some (.bl cl),some (.ref M.length),some (.ref (M.length+1)),some x] M').Sat _;obtain⟨M3,e3,p3⟩:=MC M' vG (.ref M.length) (.ref (M.length+1)) x G s1 (tabOf G s1 s) s st (hG.mono tL) ⟨_,rfl,h2⟩ h3.ll (aT.mono nY tL) (iw _ _ _) qt;have k3:=k.trans (aX.ee (X:=[M.length,M.length+1]) p3);refine aB (aM (c:=!cb G s s1 st) (M1:=M3) (fF (bu (mv rfl rfl rfl rfl rfl e3))) (λhc=>?_) λhc=>?_)
  ·refine aR (v:=.ao) (M1:=M3) rfl ⟨k3.base p0 lK,.inl ⟨rfl,stop λz=>?_⟩⟩;rw[abg] at hc;rw[hc] at z;cases z
  refine bT ?_;dsimp only;rw[abP] at hc;have VS:=k3.base p0 lK;obtain⟨M4,e4,p4⟩:∃M4,eP (tB (aa 4)) (tB (ak (jI (jL eM eN)) (ae (aa 0) (ae (aa 5) (ae (aa 6) (ae (aa 3) ag)))))) [some vG,some vs,some bo,some (.int s),some (.bl cl),some (.ref M.length),some (.ref (M.length+1)),some x] M3=.ok (cl&&dH G s1 (tabOf G s1 s) s) M4/\M3<+:M4:=by
   cases cl with
   |false=>exact⟨M3,rfl,dv _⟩
   |true=>obtain⟨M4,e4,p4⟩:=Dh uJ M3 vG (.ref M.length) (.ref (M.length+1)) G s1 (tabOf G s1 s) s (hG.mono VS) ⟨_,rfl,aD p3 h2⟩ (h3.ll.mono p3) (iw _ _ _) qt (by omega) vS s9;exact⟨M4,by walk_at "ev";simp only[e4,abu],p4⟩
  have k4:=k3.trans (aX.ee (X:=[M.length,M.length+1]) p4);have Ci:=k4.base p0 lK;refine aB (aM (M1:=M4) e4 (λfP=>?_) λfP=>?_)
  ·refine aR (v:=.ao) (M1:=M4) rfl ⟨Ci,.inl ⟨rfl,stop λz=>?_⟩⟩;rw[fP,acA,abO] at z;cases z
  refine bT ?_;dsimp only;obtain⟨q0,q1,qz,n0,n1⟩:=lY hc;have H8:eO M4 x st:=aT.mono nY Ci;obtain⟨M5,e5,k5,a5,t5⟩:=OO [M.length,M.length+1] M M4 vG M.length (M.length+1) G s1 (tabOf G s1 s) st.place st.num Ci hG (aaY _) (adw _) (by omega) (by simp) (by simp) (λx hx=>aa9 (by simp at hx;omega) k4.1) (aD (p3.trans p4) h2) (LL.keep h3 (aX.ee (X:=[]) (p3.trans p4)) (by simp) (by simp)) (iw _ _ _) (λg hg=>(qt g hg).2) (MI _ _ _ s9) q0 q1;have r1:af av (aa 7) (eC (.int 1)) [some vG,some vs,some bo,some (.int s),some (.bl cl),some (.ref M.length),some (.ref (M.length+1)),some x] M4=.ok (.int st.place) M4:=cO H8 1 (by cases st<;>rfl);have r2:af av (aa 7) (eC (.int 2)) [some vG,some vs,some bo,some (.int s),some (.bl cl),some (.ref M.length),some (.ref (M.length+1)),some x] M4=.ok (.int st.num) M4:=cO H8 2 (by cases st<;>rfl);refine e_ (v:=.ao) (M1:=M5) (mv rfl rfl rfl r1 r2 e5) ⟨⟨_,rfl⟩,k4.trans k5,cX s1 st,?_,a5,?_,t_ h4 hc⟩
  ·rw[tk,zi _ _ _ _ _ _ _ h1,aaN (by rw[hc,fP];rfl)]
  ·rw[Fj q0 q1 qz (by omega) (λg hg=>(qt g hg).2)] at t5;exact t5
 ·rintro σ M' ⟨⟨y,rfl⟩,k,s1,h1,h2,h3,h4⟩;rw[dS,aby] at h1;dsimp only;refine aR (v:=.ref M'.length) (M1:=M'++[.tup [.ref M.length,.ref (M.length+1)]]) (by walk_at "ev";exact kH (by show 2<=16777216;decide)) ⟨(k.base p0 lK).trans (pre_app _ _),.inr ⟨s1,M.length,M.length+1,h1,h4,aT.new _ _,aD (pre_app _ _) h2,h3.ll.mono (pre_app _ _)⟩⟩
def KI(M:Mem)(vG vh vt uc:W)(G:List (List Int))(s1:List Int)(s:Nat)(hG:LL M vG G)(hh:aP M vh s1)(hT:LL M vt (tabOf G s1 s))(a7:∀g∈G,g.length<=9/\∀i∈g,0<=i/\i<(s1.length:Int))(dW:s1.length<=81)(vS:G.length<=27)(s9:s<=9)(q:(uc=.ao/\fL G s s1=true/\gK G s1 (tabOf G s1 s) s=false)\/∃cl,gL M uc cl/\dJ G s1 (tabOf G s1 s) s cl=true):
 ∃r M',rE (jL eM eN) (m7 eM eN) (kD cZ) (jI (jL eM eN)) [vG,vh,vt,uc,.int s] M=.ok r M'/\(r=.bl true/\M<+:M'):=by
 refine bM rfl ?_;rcases q with⟨rfl,q1,q2⟩|⟨cl,⟨a,rfl,ha⟩,q2⟩
 ·refine aB (aM (c:=true) (M1:=M) rfl (λ_=>?_) λz=>nomatch z);obtain⟨M2,e2,p2⟩:=Dh uJ M vG vh vt G s1 (tabOf G s1 s) s hG hh hT (iw _ _ _) a7 dW vS s9;have z:dH G s1 (tabOf G s1 s) s=false:=by unfold fL at q1;simpa using q1
  rw[z] at e2;refine aB (aM (c:=false) (M1:=M2) (bu (qf rfl rfl rfl rfl e2)) (λz=>nomatch z) λ_=>bT ?_);dsimp only;obtain⟨M3,e3,p3⟩:=Kc M2 vG vh vt G s1 (tabOf G s1 s) s (hG.mono p2) (aF.mono hh p2) (hT.mono p2) (iw _ _ _) a7 dW vS s9;rw[q2] at e3;exact aR (v:=.bl true) (M1:=M3) (by unfold mz;rw[qf rfl rfl rfl rfl e3];rfl) ⟨rfl,p2.trans p3⟩
 ·refine aB (aM (c:=false) (M1:=M) rfl (λz=>nomatch z) λ_=>bT ?_);dsimp only;obtain⟨M2,e2,p2⟩:=Dx M (.ref a) cl ⟨a,rfl,ha⟩;obtain⟨M3,e3,p3⟩:=uJ M2 vG vh vt (.ref a) G s1 (tabOf G s1 s) s cl (hG.mono p2) (aF.mono hh p2) (hT.mono p2) ⟨a,rfl,aD p2 ha⟩ (iw _ _ _) a7;rw[q2] at e3;refine aR (v:=.bl true) (M1:=M3) ?_ ⟨rfl,p2.trans p3⟩
  walk_at "ev"
  simp only[e2,e3,aaW]
def Told(M:Mem)(G:List (List Int))(s:Nat)(v:W):Option (List Int)->Prop
 |none=>v=.ao
 |some s1=>∃a b,aT M v [.ref a,.ref b]/\M[a]? =some (.lst (s1.map .int))/\LL M (.ref b) (tabOf G s1 s)
def Made(M:Mem)(v:W):Option (List Int)->Prop
 |none=>v=.ao
 |some s1=>aP M v s1
def Told.mono{M M':Mem}{G:List (List Int)}{s:Nat}{v:W}{o:Option (List Int)}(h:Told M G s v o)(p:M<+:M'):Told M' G s v o:=by
 cases o with
 |none=>exact h
 |some s1=>obtain⟨a,b,h1,h2,h3⟩:=h;exact⟨a,b,h1.mono p,aD p h2,h3.mono p⟩
def Made.mono{M M':Mem}{v:W}{o:Option (List Int)}(h:Made M v o)(p:M<+:M'):Made M' v o:=by
 cases o with
 |none=>exact h
 |some s1=>exact aF.mono h p
def JT(M:Mem)(G:List (List Int))(s:Nat)(vm vd:W)(o:Option (List Int))(hm:Made M vm o)(hd:Told M G s vd o)(hl:∀s1,o=some s1->s1.length<=81):∃r M',m6 (jM cZ) [vm,vd] M=.ok r M'/\(r=.bl true/\M<+:M'):=by
 refine bM rfl ?_;cases o with
 |none=>cases hm;cases hd;refine aB (aM (c:=true) (M1:=M) rfl (λ_=>?_) λz=>nomatch z);exact aR (v:=.bl true) (M1:=M) rfl ⟨rfl,dv _⟩
 |some s1=>
  obtain⟨a,b,⟨d,rfl,hd⟩,h2,h3⟩:=hd;obtain⟨m,rfl,hm⟩:=hm;refine aB (aM (c:=false) (M1:=M) rfl (λz=>nomatch z) λ_=>bT ?_);dsimp only;obtain⟨M2,e2,p2⟩:=same_ints M (.ref m) (.ref a) s1 ⟨m,rfl,hm⟩ ⟨a,rfl,h2⟩ (hl _ rfl);refine aR (v:=.bl true) (M1:=M2) ?_ ⟨rfl,p2⟩;have i0:av (.ref d) (.int 0) M=.ok (.ref a) M:=cO ⟨d,rfl,hd⟩ 0 rfl;have il:bW [.list] (aa 0) [some (.ref m),some (.ref d)] M=.ok (.bl true) M:=by unfold bW;simp only[aa,R.bind,aaR,c8,cQ,hm,ab8,adi]
  show dm _ _ [some (.ref m),some (.ref d)] M=_;unfold dm;rw[il];simp only[R.bind,aaW,ak,ae,ag,aa,af,eC,aaR,aaU,i0,e2]
def Wk.Uk{M:Mem}{xs:List W}{aJ:List b4}(hA:a_ (λw st=>eO M w st) xs aJ):∀{ls rs:List W} {n:Nat},Wk M ls rs n->∃m,m<=n+5*xs.length/\Wk M (ls++xs) (rs++xs) m:=by
 induction hA with
 |nil=>exactλ{ls rs n} h=>⟨n,by simp,by simpa using h⟩
 | @cons x st xs aJ hx _ ih=>
   intro ls rs n h;obtain⟨a,rfl,ha⟩:=hx;have hf:st.ws.all VM.flat=true:=by cases st<;>rfl
   have hw:st.ws.length<=4:=by cases st<;>simp[b4.ws]
   obtain⟨m,h1,h2⟩:=ih (Wk.tup ha ha rfl (Wk.AN h _ hf));refine⟨m,by simp only[abq];omega,?_⟩;rw[abZ,abZ] at h2;exact h2
def zj{M:Mem}{v:W}{xs:List W}(h:aF M v xs)(hl:xs.length<=1000):fT [v] M=.ok (.ref M.length) (M++[.lst xs]):=by unfold fT;simp only[h.bK];exact b9 (by omega)
def rO(f:CM):Prop:=∀(h w:Nat) (M:Mem) (vs bo:W) (ss:List Int) (aJ:List b4),1<=h/\h<=3->1<=w/\w<=3->aP M vs ss->bC (h*w) ss->iJ M bo aJ->aJ.length<=1000->
 ∃v M',f [.int h,.int w,vs,bo] M=.ok v M'/\(M<+:M'/\Made M' v (cI (ah h w) (h*w) ss aJ)/\∀s1,cI (ah h w) (h*w) ss aJ=some s1->bC (h*w) s1)
def D_{f:CM}(hf:pP f):rO (K4.Dq f (jM cZ)):=by
 intro h w M vs bo ss aJ hh hw hv sh bq hl;obtain⟨xs,hL,hA⟩:=bq;have dS:=hA.len;have iP:ss.length<=81:=by rw[sh.len];exact(qK hh hw).2.2
 refine bM rfl ?_;refine cU (v:=.ref M.length) (M1:=M++[.lst (ss.map .int)]) (by walk_at "ev";exact nk hv (by omega)) ?_;generalize i8:M++[O.lst (ss.map .int)]=M1;have p1:M<+:M1:=by rw[<-i8];exact pre_app _ _
 have ga:M1[M.length]? =some (.lst (ss.map .int)):=by rw[<-i8];exact b8 _ _
 refine cU (v:=.ref M1.length) (M1:=M1++[.lst xs]) (by walk_at "ev";exact zj (hL.mono p1) (by omega)) ?_;refine cU (v:=.ao) (M1:=M1++[.lst xs]) rfl ?_;generalize dU:M1++[O.lst xs]=M2;have p2:M1<+:M2:=by rw[<-dU];exact pre_app _ _
 have gb:M2[M1.length]? =some (.lst xs):=by rw[<-dU];exact b8 _ _
 have H9:=aD p2 ga;have H_:a_ (λw st=>eO M2 w st) xs aJ:=hA.imp λa b q=>aT.mono q (p1.trans p2)
 obtain⟨va,rfl,VT⟩:=hv;obtain⟨vb,rfl,VU⟩:=hL;show((aj _ _:SM) [some (.int h),some (.int w),some (.ref va),some (.ref vb),some (.ref M.length),some (.ref M1.length),some .ao] M2).Sat _;have ht:∃v M3,VM.gO (aG (gm f (ae (aa 0) (ae (aa 1) (ae (aa 4) (ae (aa 5) ag))))) (ar 6)) [[78,111,83,116,101,112]] none (aG (eC .ao) (ar 6)) [some (.int h),some (.int w),some (.ref va),some (.ref vb),some (.ref M.length),some (.ref M1.length),some .ao] M2=.nx [some (.int h),some (.int w),some (.ref va),some (.ref vb),some (.ref M.length),some (.ref M1.length),some v] M3/\M2<+:M3/\Made M3 v (cI (ah h w) (h*w) ss aJ)/\∀s1,cI (ah h w) (h*w) ss aJ=some s1->bC (h*w) s1:=by
  rcases hf h w M2 (.ref M.length) (.ref M1.length) ss aJ hh hw ⟨_,rfl,H9⟩ sh ⟨xs,⟨_,rfl,gb⟩,H_⟩ with⟨s1,n,M3,r1,iO,e3,p3,g3⟩|⟨r1,M3,e3,p3⟩
  ·refine⟨.ref n,M3,?_,p3,by rw[r1];exact⟨n,rfl,g3⟩,λs2 z=>by rw[r1] at z;cases z;exact iO⟩;simp only[VM.gO,aG,gm,ae,ag,aa,R.bind,R.cz,R.eB,ar,aaR,aaU,e3,aaQ,aaP]
  ·refine⟨.ao,M3,?_,p3,by rw[r1];rfl,λs2 z=>by rw[r1] at z;cases z⟩;simp only[VM.gO,aG,gm,ae,ag,aa,eC,R.bind,R.cz,R.eB,ar,aaR,aaU,e3,aaQ,aaP];rfl
 obtain⟨v,M3,e3,p3,m3,wQ⟩:=ht;refine aB ?_;rw[e3];show((aj _ _:SM) _ M3).Sat _;have n1:br [.ref M.length,.ref M1.length] M3=.ok (.ref M3.length) (M3++[.lst [.ref M.length,.ref M1.length]]):=b9 (by show 2<=16777216;decide);have n2:br [.ref va,.ref vb] (M3++[.lst [.ref M.length,.ref M1.length]])=.ok (.ref (M3++[O.lst [.ref M.length,.ref M1.length]]).length) (M3++[.lst [.ref M.length,.ref M1.length]]++[.lst [.ref va,.ref vb]]):=b9 (by show 2<=16777216;decide);generalize Ia:M3++[O.lst [.ref M.length,.ref M1.length]]=M4 at n1 n2;have g4:M4[M3.length]? =some (.lst [.ref M.length,.ref M1.length]):=by rw[<-Ia];exact b8 _ _
 have p4:M3<+:M4:=by rw[<-Ia];exact pre_app _ _
 generalize Ie:M4++[O.lst [.ref va,.ref vb]]=M5 at n2;have g5:M5[M4.length]? =some (.lst [.ref va,.ref vb]):=by rw[<-Ie];exact b8 _ _
 have p5:M4<+:M5:=by rw[<-Ie];exact pre_app _ _
 have q5:M2<+:M5:=p3.trans (p4.trans p5);obtain⟨m,hm,hW⟩:=Wk.Uk (H_.imp λa b q=>aT.mono q q5) (Wk.seq (ls:=[]) (rs:=[]) (aD q5 H9) (aD (p1.trans (p2.trans q5)) VT) rfl (Wk.AN Wk.nil _ (pw ss)));rw[aaV] at hm;obtain⟨M6,e6,p6⟩:=Fb M5 (.ref M3.length) (.ref M4.length) (m+1+1) (Wk.seq (ls:=[]) (rs:=[]) (aD p5 g4) g5 rfl (Wk.seq (ls:=[.ref M.length]) (rs:=[.ref va]) (aD q5 gb) (aD (p1.trans (p2.trans q5)) VU) rfl hW)) (by omega);refine aB (aM (c:=false) (M1:=M6) ?_ (λz=>nomatch z) λ_=>bT ?_)
 ·walk_at "ev"
  simp only[n1,n2,e6,acA]
 ·dsimp only;refine aR (v:=v) (M1:=M6) rfl ⟨p1.trans (p2.trans (q5.trans p6)),m3.mono (p4.trans (p5.trans p6)),wQ⟩
def wU:SM:=aj (aG (af bp (ak gx (ae (jY [] [iF] (aa 7)) ag)) (ak gx (ae (jY [iF] [] (aa 7)) ag))) (ar 8)) (aG (dm (af oEq (aa 8) (eC (.int 1))) (jY [iF] [] (aa 7))) (ar 6))
def QR{x0 x1 x2 x3 x4 x5 x6 x8:Option W}{M:Mem}{e:Nat}(h:M[e]? =some (.dr iF)):wU [x0,x1,x2,x3,x4,x5,x6,some (.ref e),x8] M=.nx [x0,x1,x2,x3,x4,x5,some (.bl true),some (.ref e),some (.int 1)] M:=by
 have c1:([]:List (List Nat)).contains iF=false:=rfl;have c2:[iF].contains iF=true:=by decide
 simp only[wU,aj,aG,af,ak,ae,ag,jY,aa,eC,dm,R.bind,R.cz,ar,RS.andThen,gx,bp,aaR,aaU,h,c1,c2,aaW,aa_,abi,aaP,aaQ,adT,eq_int,ab8]
def JU{f g:CM}(hf:pP f)(hg:rO g)(h w:Nat)(M:Mem)(vs bo vd:W)(ss:List Int)(aJ:List b4)(hh:1<=h/\h<=3)(hw:1<=w/\w<=3)(hv:aP M vs ss)(sh:bC (h*w) ss)(bq:iJ M bo aJ)(hl:aJ.length<=1000)(hd:Told M (ah h w) (h*w) vd (cI (ah h w) (h*w) ss aJ)):
 ∃r M',K4.tY f g (m6 (jM cZ)) [.int h,.int w,vs,bo,vd] M=.ok r M'/\(r=.bl true/\M<+:M'):=by
 have iP:h*w*(h*w)<=81:=(qK hh hw).2.2;obtain⟨v,M1,e1,p1,m1,s1⟩:=hg h w M vs bo ss aJ hh hw hv sh bq hl;refine bM rfl ?_;refine cU (v:=v) (M1:=M1) (by walk_at "ev";exact e1) ?_;refine cU (v:=.bl false) (M1:=M1) rfl ?_;obtain⟨xs,hL,hA⟩:=bq;have dS:=hA.len;have VV:=hL.mono p1;have n1:=nk (aF.mono hv p1) (by rw[sh.len];omega);have n2:=zj (M:=M1++[.lst (ss.map .int)]) (VV.mono (pre_app _ _)) (by omega);generalize dU:M1++[O.lst (ss.map .int)]=M2 at n1 n2;have g2:M2[M1.length]? =some (.lst (ss.map .int)):=by rw[<-dU];exact b8 _ _
 have p2:M1<+:M2:=by rw[<-dU];exact pre_app _ _
 generalize qM:M2++[O.lst xs]=M3 at n2;have g3:M3[M2.length]? =some (.lst xs):=by rw[<-qM];exact b8 _ _
 have p3:M2<+:M3:=by rw[<-qM];exact pre_app _ _
 show((aj _ _:SM) [some (.int h),some (.int w),some vs,some bo,some vd,some v,some (.bl false),none,none] M1).Sat _;have q3:=p1.trans (p2.trans p3);have ht:∃b x7 x8 M4,VM.gO (cH (gm f (ae (aa 0) (ae (aa 1) (ae (ak fT (ae (aa 2) ag)) (ae (ak fT (ae (aa 3) ag)) ag)))))) [iF] (some 7) wU [some (.int h),some (.int w),some vs,some bo,some vd,some v,some (.bl false),none,none] M1=.nx [some (.int h),some (.int w),some vs,some bo,some vd,some v,some (.bl b),x7,x8] M4/\M1<+:M4/\b=(cI (ah h w) (h*w) ss aJ).isNone:=by
  rcases hf h w M3 (.ref M1.length) (.ref M2.length) ss aJ hh hw ⟨_,rfl,aD p3 g2⟩ sh ⟨xs,⟨_,rfl,g3⟩,hA.imp λa b q=>aT.mono q q3⟩ with⟨s1,n,M4,r1,iO,e4,p4,g4⟩|⟨r1,M4,e4,p4⟩
  ·refine⟨false,none,none,M4,?_,p2.trans (p3.trans p4),by rw[r1];rfl⟩;simp only[VM.gO,cH,gm,ak,ae,ag,aa,R.bind,R.cz,R.eB,aaR,aaU,n1,n2,e4]
  ·refine⟨true,none,some (.int 1),M4++[.dr iF],?_,p2.trans (p3.trans (p4.trans (pre_app _ _))),by rw[r1];rfl⟩;have hx:=QR (x0:=some (.int h)) (x1:=some (.int w)) (x2:=some vs) (x3:=some bo) (x4:=some vd) (x5:=some v) (x6:=some (.bl false)) (x8:=none) (b8 M4 (.dr iF));have c2:[iF].contains iF=true:=by decide
   simp only[VM.gO,cH,gm,ak,ae,ag,aa,R.bind,R.cz,R.eB,aaR,aaU,n1,n2,e4,c2,aaW,aaP,aaQ,hx,RS.unset]
 obtain⟨b,x7,x8,M4,e4,p4,rfl⟩:=ht;refine aB ?_;have wz:=e4;unfold wU at wz;rw[wz];dsimp only;obtain⟨r,M5,e5,rfl,p5⟩:=JT M4 (ah h w) (h*w) v vd _ (m1.mono p4) (hd.mono (p1.trans p4)) λs2 z=>by rw[(s1 s2 z).len];exact iP
 refine aR (v:=.bl true) (M1:=M5) ?_ ⟨rfl,p1.trans (p4.trans p5)⟩;have en:iZ vd=(cI (ah h w) (h*w) ss aJ).isNone:=by
  cases eo:cI (ah h w) (h*w) ss aJ with
  |none=>rw[eo] at hd;cases hd;rfl
  |some s2=>rw[eo] at hd;obtain⟨_,_,⟨d,rfl,_⟩,_⟩:=hd;rfl
 simp only[dm,af,aa,dQ,ak,ae,ag,R.bind,aaR,aaU,en,Sz,ab8,aaW,e5]
def JF(M:Mem)(vG vs:W)(G:List (List Int))(ss:List Int)(s:Nat)(c m:Int)(hG:LL M vG G)(hv:aP M vs ss)(sh:bC s ss)(a7:∀g∈G,g.length<=9/\∀i∈g,0<=i/\i<(ss.length:Int))(s1:1<=s)(s9:s<=9)(dW:ss.length<=81)(kO:0<ss.length):
 ∃v M',rb (jJ iT) [vG,vs,.int s,.int c,.int m] M=.ok v M'/\(M<+:M'/\∃ts,aP M' v ts/\bC s ts):=by
 refine bM rfl ?_;refine cU (v:=.ref M.length) (M1:=M++[.lst (ss.map .int)]) (by walk_at "ev";exact nk hv (by omega)) ?_;refine cU (v:=.int (c / 8)) (M1:=M++[.lst (ss.map .int)]) (by walk_at "ev";simp only[ff (M:=M++[.lst (ss.map .int)]) (i:=c) (j:=8) (by decide) (by decide)]) ?_;generalize c / 8=rest;have m4:0<=c % 4/\c % 4<4:=by omega
 refine aB (gj (lo:=0) (n:=(c % 4).toNat) (M1:=M++[.lst (ss.map .int)]) ?_ (λj σ M'=>∃ts J x7 x8 x9,σ=[some vG,some vs,some (.int s),some (.int c),some (.int m),some (.ref M.length),some (.int rest),x7,x8,x9]/\M'=M++.lst (ts.map .int)::J/\bC s ts/\ts.length=ss.length)
  ⟨ss,[],none,none,none,rfl,rfl,sh,rfl⟩ ?_ ?_)
 ·walk_at "ev"
  simp only[dC (M:=M++[.lst (ss.map .int)]) (i:=c) (j:=4) (by decide)];rw[aaN (show(c % 4).natAbs<bJ by unfold bJ;omega)]
 ·rintro j σ M' hj ⟨ts,J,x7,x8,x9,rfl,rfl,iO,tl⟩;have ej:(0:Int)+(j:Int)=j:=by omega
  rw[ej];show((aj _ _:SM) [some vG,some vs,some (.int s),some (.int c),some (.int m),some (.ref M.length),some (.int rest),some (.int j),x8,x9] _).Sat _;have LS:aP (M++.lst (ts.map .int)::J) (.ref M.length) ts:=⟨_,rfl,fe _ _ _⟩;have d1:=dj (M:=M++.lst (ts.map .int)::J) (i:=5) (j:=(j:Int)) (by decide);have d2:=dC (M:=M++.lst (ts.map .int)::J) (i:=rest+5*(j:Int)) (j:=(ts.length:Int)) (by omega);refine cU (v:=.int ((rest+5*(j:Int)) % (ts.length:Int))) (M1:=M++.lst (ts.map .int)::J) (by walk_at "ev";simp only[d1,jS LS,d2]) ?_;obtain⟨q0,q1⟩:=Fi (rest+5*(j:Int)) (n:=ts.length) (by omega);generalize (rest+5*(j:Int)) % (ts.length:Int)=nZ at q0 q1;have qt:∀g∈G,∀i∈g,0<=i/\i<(ts.length:Int):=by rw[tl];exactλg hg=>(a7 g hg).2
  obtain⟨ws,J2,ec,hT⟩:=Aw (M++.lst (ts.map .int)::J) vG (.ref M.length) G ts s (hG.mono (jQ _ _ _)) LS qt (by omega) s9;have wV:=hT.ll;obtain⟨w1,ei,tI⟩:=iE wV q0 (by rw[iw];exact q1);have kP:∀x∈(tabOf G ts s).getD nZ.toNat [],1<=x/\x<=(s:Int):=by rw[jc G ts s nZ.toNat (by omega)];exactλx hx=>EE hx
  refine cU (v:=w1) (M1:=M++.lst (ts.map .int)::J++.lst ws::J2) (aY (x:=.ref (M++O.lst (ts.map .int)::J).length) (M1:=M++.lst (ts.map .int)::J++.lst ws::J2) (by simp only[ak,ae,ag,aa,R.bind,aaP,aaQ,aaR,aaU,ec]) rfl ei) ?_;rw[kI] at tI⊢;generalize J++O.lst ws::J2=J3 at tI⊢;refine aB (RS.Sat.mono (q:={nx:=λσ M'=>∃vn ns J4,σ=[some vG,some vs,some (.int s),some (.int c),some (.int m),some (.ref M.length),some (.int rest),some (.int j),some (.int nZ),some vn]/\M'=M++.lst (ts.map .int)::J4/\aP M' vn ns/\∀x∈ns,1<=x/\x<=(s:Int),rt:=λ_ _=>False}) ?_ (λσ M' hI=>?_) (λ_ _ z=>z.elim) (λ_ _ z=>z.elim) (λ_ _ z=>z.elim))
  ·refine aM (c:=decide (c / 4 % 2=0)) (M1:=M++.lst (ts.map .int)::J3) ?_ (λ_=>?_) λ_=>⟨w1,_,J3,rfl,rfl,tI,kP⟩
   ·have z1:=ff (M:=M++.lst (ts.map .int)::J3) (i:=c) (j:=4) (by decide) (by decide);have z2:=dC (M:=M++.lst (ts.map .int)::J3) (i:=c / 4) (j:=2) (by decide)
    walk_at "ev"
    simp only[z1,z2,eq_int]
   ·refine bL (v:=.ref (M++.lst (ts.map .int)::J3).length) (M1:=M++.lst (ts.map .int)::J3++[.lst ((nums s).map .int)]) ?_ ⟨_,nums s,J3++[.lst ((nums s).map .int)],rfl,kI _ _ _ _,(show aP (M++.lst (ts.map .int)::J3++[.lst ((nums s).map .int)]) _ (nums s) from aF.new _ _),λx hx=>pL hx⟩;unfold AL;have t1:((s:Int)+1-1).toNat=s:=by omega
    have t2:(List.range s).map (λ(k:Nat)=>W.int (1+(k:Int)))=(nums s).map .int:=by unfold nums;rw[acw];exact ac1 λk _=>by simp[Int.add_comm]
    walk_at "ev"
    rw[aaN (show(1:Int).natAbs<bJ/\((s:Int)+1).natAbs<bJ by unfold bJ;omega),t1,t2];rw[<-kI];exact b9 (ws:=(nums s).map .int) (by rw[aaV,EG];omega)
  obtain⟨vn,ns,J4,rfl,rfl,hn,hr⟩:=hI;have VW:aP (M++.lst (ts.map .int)::J4) (.ref M.length) ts:=⟨_,rfl,fe _ _ _⟩;have i4:=eA VW q0 q1;have en:eG (M++.lst (ts.map .int)::J4++[.lst []]) vn (.ref (M++.lst (ts.map .int)::J4).length)=some (decide (ns=[])):=zC (aF.mono hn (pre_app _ _)) (ys:=[]) (aF.new _ []);have nn:br [] (M++.lst (ts.map .int)::J4)=.ok (.ref (M++.lst (ts.map .int)::J4).length) (M++.lst (ts.map .int)::J4++[.lst []]):=b9 (by decide);obtain⟨J5,eT,VX⟩:∃J5,eP (tB (af oEq (af av (aa 5) (aa 8)) (eC (.int 0)))) (tB (af bV (aa 9) (aS (ag)))) [some vG,some vs,some (.int s),some (.int c),some (.int m),some (.ref M.length),some (.int rest),some (.int j),some (.int nZ),some vn] (M++.lst (ts.map .int)::J4)=.ok (decide (aq ts nZ=0)&& !decide (ns=[])) (M++.lst (ts.map .int)::J5)/\M++.lst (ts.map .int)::J4<+:M++.lst (ts.map .int)::J5:=by
   by_cases z:aq ts nZ=0
   ·refine⟨J4++[.lst []],?_,by rw[<-kI];exact pre_app _ _⟩
    walk_at "ev"
    simp only[i4,eq_int,z,ab8,aaW,nn,bV,en,abu];rw[kI]
   ·refine⟨J4,?_,dv _⟩
    walk_at "ev"
    simp only[i4,eq_int,z,acz,abi,aa_,abz]
  refine aM eT (λhc=>?_) λ_=>⟨ts,J5,_,_,_,rfl,rfl,iO,tl⟩
  rw[aaT,abg,abG] at hc;have VY:0<ns.length:=List.length_pos_iff.mpr hc.2;have Ig:aP (M++.lst (ts.map .int)::J5) vn ns:=aF.mono hn VX;obtain⟨k0,k1⟩:=Fi (m+(j:Int)) VY;have z3:=dC (M:=M++.lst (ts.map .int)::J5) (i:=m+(j:Int)) (j:=(ns.length:Int)) (by omega);have z4:=eA Ig k0 k1;obtain⟨r0,r1⟩:=hr _ (uR k0 k1);generalize (m+(j:Int)) % (ns.length:Int)=kk at k0 k1 z3 z4 r0 r1;refine pT (v:=.int (aq ns kk)) (M1:=M++.lst (ts.map .int)::J5) (by walk_at "ev";simp only[jS Ig,z3,z4]) (QM rfl rfl q0 q1) ⟨ts.set nZ.toNat (aq ns kk),J5,_,_,_,rfl,rfl,iO.set _ (by omega) r1,by rw[abN];exact tl⟩
 ·rintro σ M' ⟨ts,J,x7,x8,x9,rfl,rfl,iO,tl⟩;dsimp only;exact aR (v:=.ref M.length) (M1:=M++.lst (ts.map .int)::J) rfl ⟨jQ _ _ _,ts,⟨_,rfl,fe _ _ _⟩,iO⟩
def JV(M:Mem)(vf:W)(fs:List Int)(s:Nat)(c:Int)(hf:aP M vf fs)(fg:Good s fs)(fl:fs.length=s*s)(s1:1<=s)(s9:s<=9):
 ∃v M',rh [vf,.int s,.int c] M=.ok v M'/\(M<+:M'/\∃ts,aP M' v ts/\bC s ts):=by
 have dW:s*s<=81:=abv s9 s9;refine bM rfl ?_;refine cU (v:=.ref M.length) (M1:=M++[.lst []]) (by walk_at "ev";exact b9 (by decide)) ?_;refine aB (gj (lo:=0) (n:=fs.length) (M1:=M++[.lst []]) (Ac 0 (aF.mono hf (pre_app _ _)) rfl (by omega)) (λj σ M'=>∃ts J x4 x5,σ=[some vf,some (.int s),some (.int c),some (.ref M.length),x4,x5]/\M'=M++.lst (ts.map .int)::J/\ts.length=j/\j<=fs.length/\∀x∈ts,0<=x/\x<=(s:Int))
  ⟨[],[],none,none,rfl,rfl,rfl,abV _,by simp⟩ ?_ ?_)
 ·rintro j σ M' hj ⟨ts,J,x4,x5,rfl,rfl,tl,jl,hr⟩;have ej:(0:Int)+(j:Int)=j:=by omega
  rw[ej];show((aj _ _:SM) [some vf,some (.int s),some (.int c),some (.ref M.length),some (.int j),x5] _).Sat _;have LF:aP (M++.lst (ts.map .int)::J) vf fs:=aF.mono hf (jQ _ _ _);have i1:=eA LF (i:=(j:Int)) (by omega) (by omega);have z1:=dC (M:=M++.lst (ts.map .int)::J) (i:=c) (j:=(s:Int)) (by omega);refine cU (v:=.bl (decide (aq fs j=1+c % (s:Int)))) (M1:=M++.lst (ts.map .int)::J) (by walk_at "ev";simp only[i1,z1,eq_int]) ?_;have z2:=ff (M:=M++.lst (ts.map .int)::J) (i:=(j:Int)) (j:=(s:Int)) (by omega) (by omega);have z3:=ff (M:=M++.lst (ts.map .int)::J) (i:=c) (j:=(s:Int)) (by omega) (by omega);have z4:=dC (M:=M++.lst (ts.map .int)::J) (i:=c / (s:Int)) (j:=(s:Int)) (by omega);refine aB (RS.Sat.mono (q:={nx:=λσ M'=>M'=M++.lst (ts.map .int)::J/\∃b,σ=[some vf,some (.int s),some (.int c),some (.ref M.length),some (.int j),some (.bl b)],rt:=λ_ _=>False}) ?_ (λσ M' hI=>?_) (λ_ _ z=>z.elim) (λ_ _ z=>z.elim) (λ_ _ z=>z.elim))
  ·refine aM (c:=decide ((j:Int) / (s:Int)=c / (s:Int) % (s:Int))) (M1:=M++.lst (ts.map .int)::J) (by walk_at "ev";simp only[z2,z3,z4,eq_int]) (λ_=>bL (v:=.bl false) (M1:=M++.lst (ts.map .int)::J) rfl ⟨rfl,_,rfl⟩) λ_=>bT ⟨rfl,_,rfl⟩
  obtain⟨rfl,b,rfl⟩:=hI;obtain⟨g0,g1⟩:=fg _ (uR (fs:=fs) (i:=(j:Int)) (by omega) (by omega));have z5:=dj (M:=M++.lst (ts.map .int)::J) (i:=aq fs j) (j:=(if b=true then 1 else 0)) (by omega);have VZ:=ma (σ:=[some vf,some (.int s),some (.int c),some (.ref M.length),some (.int j),some (.bl b)]) (M:=M++.lst (ts.map .int)::J) (M1:=M++.lst (ts.map .int)::J) (a:=M.length) (xs:=ts.map .int) (o:=aa 3) (arg:=af bN (af av (aa 0) (aa 4)) (ak gx (ae (aa 5) ag))) (y:=.int (aq fs j*(if b=true then 1 else 0))) rfl (fe _ _ _) (by walk_at "ev";simp only[i1,gx,z5]) (fe _ _ _) (by rw[aaV];omega);refine e_ VZ ⟨ts++[aq fs j*(if b=true then 1 else 0)],J,_,_,rfl,by rw[nA];simp,by simp[tl],by omega,λx hx=>?_⟩;rcases acd.mp hx with hx|hx
  ·exact hr x hx
  ·rw[ack.mp hx];cases b<;>simp<;>omega
 ·rintro σ M' ⟨ts,J,x4,x5,rfl,rfl,tl,jl,hr⟩;dsimp only;exact aR (v:=.ref M.length) (M1:=M++.lst (ts.map .int)::J) rfl ⟨jQ _ _ _,ts,⟨_,rfl,fe _ _ _⟩,⟨by rw[tl];exact fl,λx hx=>(hr x hx).1,λx hx=>(hr x hx).2⟩⟩
def LD:DR (K4.yG iX o7):=by
 intro M ns hM hl;refine bM rfl ?_;show(aj _ _ [some (.ref 0)] M).Sat _;refine aB (aM (c:=false) (M1:=M) ?_ (λz=>nomatch z) λ_=>?_)
 ·walk_at "ev"
  have e:decide ((63:Int)<(ns.length:Int))=false:=abm (by omega);simp only[hM.len,gt_int,e]
 refine bT ?_;dsimp only;have hc:=hM.cut hl none (some 1);have L:=aF.new M ((VM.cut ns none (some 1)).map .int);generalize hN:M++[O.lst ((VM.cut ns none (some 1)).map .int)]=N at hc L;have pN:M<+:N:=by rw[<-hN];exact pre_app _ _
 refine aB (aM (c:=decide ((VM.cut ns none (some 1)).sum % 32=9)) (M1:=N) ?_ (λhc=>?_) λhc=>?_)
 ·have m1:=dC (M:=N) (i:=(VM.cut ns none (some 1)).sum) (j:=32) (by decide);have Ul:vQ [.ref M.length] N=.ok (.int (VM.cut ns none (some 1)).sum) N:=by unfold vQ;simp only[L.bz,Option.bind,Kv]
  walk_at "ev"
  simp only[f9,g_,fi,R.bind,hc,Ul,m1,eq_int,aa,eC,aaR]
 ·obtain⟨vs,M1,e1,p1,a⟩:=Av [some (.ref 0)] [(2,3),(3,2)] N;have tw:=a.len;have hn:br vs M1=.ok (.ref M1.length) (M1++[.lst vs]):=b9 (by simp at tw;omega);have L2:=aF.new M1 vs;generalize dU:M1++[O.lst vs]=M2 at hn L2;have p2:M1<+:M2:=by rw[<-dU];exact pre_app _ _
  obtain⟨c,M3,e3,p3⟩:=nP ns M2 0 (hM.mono (pN.trans (p1.trans p2))) hl;have d1:=ff (M:=M3) (i:=c) (j:=32) (by decide) (by decide);have d2:=dC (M:=M3) (i:=c / 32) (j:=2) (by decide);have i0:0<=c / 32 % 2/\c / 32 % 2<2:=by omega
  generalize c / 32 % 2=i at d2 i0;obtain⟨x,y,rfl⟩:∃x y,vs=[x,y]:=by
   match vs,tw with
   |[x,y],_=>exact⟨x,y,rfl⟩
  cases a with
  |cons ax a=>
   cases a with
   |cons ay _=>
    have ei:i=0\/i=1:=by omega
    have hi:∃v,cR [x,y] i=some v/\∃h w:Nat,aT M1 v [.int h,.int w]/\(1<=h/\h<=3)/\(1<=w/\w<=3):=by
     rcases ei with rfl|rfl
     ·exact⟨x,rfl,2,3,ax,by decide,by decide⟩
     ·exact⟨y,rfl,3,2,ay,by decide,by decide⟩
    obtain⟨v,hv,h,w,ht,r⟩:=hi;refine aR (v:=v) (M1:=M3) ?_ ⟨pN.trans (p1.trans (p2.trans p3)),h,w,ht.mono (p2.trans p3),r⟩;show af av (aS (tE [(2,3),(3,2)])) _ [some (.ref 0)] N=_;refine aY (x:=.ref M1.length) (M1:=M2) (y:=.int i) (M2:=M3) (by unfold aS;rw[e1];exact hn) ?_ ?_
    ·simp only[af,R.bind,ak,ae,ag,aa,eC,aaR,aa8,abJ,ab0,e3,d1,d2]
    ·simp only[av,(L2.mono p3).bK,hv]
 ·refine bT ?_;dsimp only;obtain⟨c,M1,e1,p1⟩:=nP ns N 0 (hM.mono pN) hl;obtain⟨v,M2,e2,p2,r⟩:=J9 c M1;refine aR (v:=v) (M1:=M2) ?_ ⟨pN.trans (p1.trans p2),r⟩
  walk_at "ev"
  simp only[e1,e2]
def cM(h w:Nat)(vG vf:W)(x6 x7 x8 x9 lu ly lz lA lB lC oJ oK lL kq:Option W):St:=[some (.ref 0),some (.int h),some (.int w),some (.int (h*w:Nat)),some vG,some vf,x6,x7,x8,x9,lu,ly,lz,lA,lB,lC,oJ,oK,lL,kq]
def F1:EM:=af oMod (ak iX (ae (aa 0) (ae (eC (.int 2)) ag))) (af av (aS (ae (eC (.int 7)) (ae (eC (.int 3)) ag))) (ak gx (ae (af jt (aa 3) (eC (.int 4))) ag)))
def LH(M:Mem)(ns:List Int)(hM:fO M ns)(hl:ns.length<=63)(x1 x2:Option W)(s:Int)(rest:St):∃z M',F1 (some (.ref 0)::x1::x2::some (.int s)::rest) M=.ok (.int z) M'/\M<+:M':=by
 obtain⟨c5,M5,e5,p5⟩:=nP ns M 2 hM hl;have n6:br [.int 7,.int 3] M5=.ok (.ref M5.length) (M5++[.lst [.int 7,.int 3]]):=b9 (by show 2<=16777216;decide);have p6:M5<+:M5++[.lst [.int 7,.int 3]]:=pre_app _ _;have L6:aP (M5++[.lst [.int 7,.int 3]]) (.ref M5.length) [7,3]:=aF.new _ _;generalize Z3:M5++[O.lst [.int 7,.int 3]]=M6 at n6 p6 L6;have hi:∃i:Int,(if decide ((4:Int)<s)=true then(1:Int) else 0)=i/\0<=i/\i<2/\0<aq [7,3] i:=by
  by_cases z:(4:Int)<s
  ·exact⟨1,by simp[z],by decide,by decide,by decide⟩
  ·exact⟨0,by simp[z],by decide,by decide,by decide⟩
 obtain⟨i6,V0,V1,Z4,V2⟩:=hi;have x6:=eA L6 V1 (by show i6<((2:Nat):Int);omega);have y6:=dC (M:=M6) (i:=c5) (j:=aq [7,3] i6) V2;refine⟨c5 % aq [7,3] i6,M6,?_,p5.trans p6⟩;unfold F1
 walk_at "ev"
 simp only[e5,n6,gt_int,gx,V0,x6,y6]
def OT{h w:Nat}(hh:1<=h/\h<=3)(hw:1<=w/\w<=3){ss fs:List Int}(fl:fs.length=h*w*(h*w))(fg:Good (h*w) fs)(sh:bC (h*w) ss)(hf:(lj ss fs ss.length&&cW (ah h w) fs (h*w))=true):jo (ah h w) (h*w) ss fs:=by
 rw[aaT] at hf;obtain⟨h1,h2⟩:=hf;have each:∀i:Int,0<=i->i<((h*w*(h*w):Nat):Int)->aq fs i≠0/\(aq ss i=0\/aq ss i=aq fs i):=λi i0 i1=>by
  unfold lj at h1;have:=abC.mp h1 i.toNat (abk.mpr (by rw[sh.len];omega));have ei:((i.toNat:Nat):Int)=i:=by omega
  rw[ei] at this;simpa using this
 exact⟨⟨fl,λx hx=>by have:=(fg x hx).1;omega,λx hx=>(fg x hx).2⟩,λi i0 i1=>(each i i0 i1).1,λi i0 i1=>(each i i0 i1).2,h2⟩
def OU{h w:Nat}{ss fs:List Int}(sh:bC (h*w) ss)(hf:jo (ah h w) (h*w) ss fs):(lj ss fs ss.length&&cW (ah h w) fs (h*w))=true:=by rw[aaT];refine⟨abC.mpr λj hj=>?_,hf.nt⟩;have qL:=abk.mp hj;rw[sh.len] at qL;have z1:=hf.nz (j:Int) (by omega) (by omega);have z2:=hf.kp (j:Int) (by omega) (by omega);simp only[aaT,abg,abG,acm,abD];exact⟨z1,z2⟩
abbrev wW:CM:=jL eM eN
abbrev Ih:CM:=rK (jJ iT) ny (m5 eM eN) (jI wW)
abbrev V3:CM:=rE wW (m7 eM eN) (kD cZ) (jI wW)
abbrev Cj:CM:=jM cZ
theorem a_.Gx{α β:Type}{R:α->β->Prop}:∀{l:List α} {m:List β} (n:Nat),a_ R l m->a_ R (l.take n) (m.take n)
 |_,_,0,_=>.nil
 |_,_,_+1,.nil=>.nil
 |_,_,n+1,.cons r t=>.cons r (a_.Gx n t)
theorem a_.Gy{α β:Type}{R:α->β->Prop}:∀{l:List α} {m:List β} (n:Nat),a_ R l m->a_ R (l.drop n) (m.drop n)
 |_,_,0,r=>r
 |_,_,_+1,.nil=>.nil
 |_,_,n+1,.cons _ t=>a_.Gy n t
def a_.Um{α β:Type}{R:α->β->Prop}{l:List α}{m:List β}(h:a_ R l m):a_ R l.reverse m.reverse:=by
 induction h with
 |nil=>exact .nil
 |cons r _ ih=>rw[acL,acL];exact a_.app ih (.cons r .nil)
def a_.Bj{α β:Type}{R:α->β->Prop}{l:List α}{m:List β}(h:a_ R l m)(lo hi:Option Int):a_ R (cut l lo hi) (cut m lo hi):=by unfold cut;rw[h.len];exact a_.Gx _ (a_.Gy _ h)
def vi{α:Type}(l:List α)(lo hi:Option Int):(cut l lo hi).length<=l.length:=by unfold cut;rw[acs,ac9];omega
def Ag{M:Mem}{v:W}{xs:List W}(h:aF M v xs)(hl:xs.length<=1000)(lo hi:Option Int):qk v lo hi M=.ok (.ref M.length) (M++[.lst (cut xs lo hi)]):=by unfold qk;simp only[h.bz];exact b9 (by have:=vi xs lo hi;omega)
def Fu{M:Mem}{a b:Nat}{xs ys:List W}(h1:M[a]? =some (.lst xs))(h2:M[b]? =some (.lst ys))(hl:xs.length+ys.length<=3000):bp (.ref a) (.ref b) M=.ok (.ref M.length) (M++[.lst (xs++ys)]):=by unfold bp;simp only[gW h1,gW h2];exact b9 (by simp;omega)
def MT{fd g:CM}(hd:pP fd)(hg:rO g){h w:Nat}{vG vf vs:W}{ss:List Int}(hh:1<=h/\h<=3)(hw:1<=w/\w<=3)(sh:bC (h*w) ss){M:Mem}{e:EM}{Ck:St}{M1:Mem}{l:Nat}{us:List W}{stss:List (List b4)}{x6 x8 x9 lu ly lz lA lB lC oJ oK:Option W}{q:ai}(hG:LL M vG (ah h w))(hv:aP M vs ss)(he:e Ck M=.ok (.ref l) M1)(p1:M<+:M1)(gl:M1[l]? =some (.lst us))(Bz:a_ (λu aJ=>iJ M1 u aJ/\aJ.length<=1000) us stss)(ou:Ck=cM h w vG vf x6 (some vs) x8 x9 lu ly lz lA lB lC oJ oK none none)(hq:∀M' lL kq,M1<+:M'->q.nx (cM h w vG vf x6 (some vs) x8 x9 lu ly lz lA lB lC oJ oK lL kq) M'): ((bH (bF e) (ar 18) (
                                                                                                                                                                                                                                                                                                                                                                                                                                                                                                                                                                               aj (
                                                                                                                                                                                                                                                                                                                                                                                                                                                                                                                                                                                aG (ak Ih (ae (aa 4) (ae (aa 7) (ae (aa 18) (ae (aa 3) (ae (eC (.bl false)) ag)))))) (ar 19)) (
                                                                                                                                                                                                                                                                                                                                                                                                                                                                                                                                                                               aN (b6 (tB (ak (K4.tY fd g (m6 Cj)) (ae (aa 1) (ae (aa 2) (ae (aa 7) (ae (aa 18) (ae (aa 19) ag)))))))) (
                                                                                                                                                                                                                                                                                                                                                                                                                                                                                                                                                                                aH (eC (.bl false))) (
                                                                                                                                                                                                                                                                                                                                                                                                                                                                                                                                                                                aV))):SM) Ck M).Sat q:=by
 subst ou;obtain⟨s9,s1,dW⟩:=qK hh hw;have a7:∀g∈ah h w,g.length<=9/\∀i∈g,0<=i/\i<(ss.length:Int):=by rw[sh.len];exact iz hh hw
 refine fb (v:=.ref l) (M1:=M1) (xs:=us) he ⟨l,rfl,gl⟩ (λj σ M'=>(∃lL kq,σ=cM h w vG vf x6 (some vs) x8 x9 lu ly lz lA lB lC oJ oK lL kq)/\M1<+:M') ⟨⟨_,_,rfl⟩,dv _⟩ (λj σ M' _ hI=>⟨l,rfl,aD hI.2 gl⟩) ?_ ?_
 ·rintro j u σ M' hu ⟨⟨lL,kq,rfl⟩,p⟩;obtain⟨aJ,_,bq,hl⟩:=Bz.at hu;have P:=p1.trans p;show((aj _ _:SM) (cM h w vG vf x6 (some vs) x8 x9 lu ly lz lA lB lC oJ oK (some u) kq) M').Sat _;obtain⟨v,M2,e2,p2,q2⟩:=DD M' vG vs u (ah h w) ss aJ (h*w) false (hG.mono P) (aF.mono hv P) (bq.mono p) sh a7 (by rw[Ex];omega) s9 (by rw[sh.len];exact dW);refine cU (v:=v) (M1:=M2) (by unfold cM;walk_at "ev";exact e2) ?_;have told:Told M2 (ah h w) (h*w) v (cI (ah h w) (h*w) ss aJ):=by
   rw[<-DC];rcases q2 with⟨rfl,z⟩|⟨s1,a,b,z,_,t1,t2,t3⟩
   ·rw[z];rfl
   ·rw[z];exact⟨a,b,t1,t2,t3⟩
  obtain⟨r,M3,e3,rfl,p3⟩:=JU hd hg h w M2 vs u v ss aJ hh hw (aF.mono hv (P.trans p2)) sh (bq.mono (p.trans p2)) hl told;refine aM (c:=false) (M1:=M3) (fF (bu (b:=true) ?_)) (λz=>nomatch z) λ_=>bT ⟨⟨_,_,rfl⟩,p.trans (p2.trans p3)⟩
  show ak _ _ (cM h w vG vf x6 (some vs) x8 x9 lu ly lz lA lB lC oJ oK (some u) (some v)) M2=_;unfold cM;simp only[ak,ae,ag,aa,R.bind,aaR,aaU,e3]
 ·rintro σ M' ⟨⟨lL,kq,rfl⟩,p⟩;exact hq M' _ _ p
def iB{σ:St}{M:Mem}{v a b:W}(i:Nat)(h:aT M v [a,b])(ei:aa i σ=λM=>.ok v M):af av (aa i) (eC (.int 0)) σ M=.ok a M/\af av (aa i) (eC (.int 1)) σ M=.ok b M:=
 ⟨aY (x:=v) (M1:=M) (by rw[ei]) rfl (cO h 0 rfl),aY (x:=v) (M1:=M) (by rw[ei]) rfl (cO h 1 rfl)⟩
def vE{f:CM}{a b c:EM}{σ:St}{M:Mem}{x y z:W}{r:R W}(ha:a σ M=.ok x M)(hb:b σ M=.ok y M)(hc:c σ M=.ok z M)(h:f [x,y,z] M=r):ak f (ae a (ae b (ae c ag))) σ M=r:=by simp only[ak,ae,ag,R.bind,ha,hb,hc,h]
def vj{f:CM}{a:EM}{σ:St}{M:Mem}{x:W}{r:R W}(ha:a σ M=.ok x M)(h:f [x] M=r):ak f (ae a ag) σ M=r:=by simp only[ak,ae,ag,R.bind,ha,h]
def call2{f:CM}{a b:EM}{σ:St}{M:Mem}{x y:W}{r:R W}(ha:a σ M=.ok x M)(hb:b σ M=.ok y M)(h:f [x,y] M=r):ak f (ae a (ae b ag)) σ M=r:=by simp only[ak,ae,ag,R.bind,ha,hb,h]
def sj{a b:TM}{σ:St}{M M1:Mem}{r:R Bool}(ha:a σ M=.ok false M1)(hb:b σ M1=r):bZ a b σ M=r:=by unfold bZ;rw[ha];exact hb
def OV{fs fd g1 g2:CM}(hs:zh fs)(hd:pP fd)(V4:rO g1)(V5:rO g2)(ns:List Int)(hl:ns.length<=63)(M0:Mem)(lD:fO M0 ns):
 ∃v M,K4.Gw fs iX Cj o4 o5 m8 (jJ iT) wW (o6 (lW cZ)) (kD cZ) kE (o3 kE) g1 (K4.tY fd g2 (m6 Cj)) Ih (rb (jJ iT)) V3 (K4.yG iX o7) rh [.ref 0] M0=.ok v M/\v=.bl true:=by
 refine bM rfl ?_;refine OI LD (List.replicate 14 none) M0 ns lD hl λh w vG vf fl M S=>?_
 obtain⟨s9,s1,dW⟩:=qK S.hh S.hw;have hh:=S.hh;have hw:=S.hw;obtain⟨z6,M1,e1,p1⟩:=LH M ns (lD.mono S.pre) hl (some (.int h)) (some (.int w)) ((h*w:Nat):Int) (some vG::some vf::List.replicate 14 none);refine cU e1 ?_;have S1:=lD.mono (S.pre.trans p1);obtain⟨N,tM,e2,p2,tN⟩:=Lq M1 ns S1 hl (aF.mono S.F p1) S.fl dW S.fg (some (.int h)) (some (.int w)) (some (.int (h*w:Nat))) (some vG) z6 (List.replicate 13 none);refine cU e2 ?_;have v0:aP (N++.lst (tM.map .int)::[]) (.ref N.length) tM:=⟨_,rfl,fe _ _ _⟩;have P2:M<+:N++.lst (tM.map .int)::[]:=p1.trans (p2.trans (jQ _ _ _));generalize N++O.lst (tM.map .int)::[]=M2 at v0 P2;generalize W.ref N.length=wX at v0;obtain⟨c,M3,e3,p3⟩:=nP ns M2 19 (lD.mono (S.pre.trans P2)) hl;show(aj _ _ (cM h w vG vf (some (.int z6)) (some wX) none none none none none none none none none none none none) M2).Sat _;refine cU (v:=.int c) (M1:=M3) (by unfold cM;walk_at "ev";exact e3) ?_;obtain⟨m,M4,e4,p4⟩:=nP ns M3 20 (lD.mono (S.pre.trans (P2.trans p3))) hl;show(aj _ _ (cM h w vG vf (some (.int z6)) (some wX) (some (.int c)) none none none none none none none none none none none) M3).Sat _;refine cU (v:=.int m) (M1:=M4) (by unfold cM;walk_at "ev";exact e4) ?_;have P4:=P2.trans (p3.trans p4);have a7:∀{ss:List Int},bC (h*w) ss->∀g∈ah h w,g.length<=9/\∀i∈g,0<=i/\i<(ss.length:Int):=λsh=>by rw[sh.len];exact iz hh hw
 have iP:∀{ss:List Int},bC (h*w) ss->ss.length<=81:=λsh=>by rw[sh.len];exact dW
 have Ii:(ah h w).length<=27:=by rw[Ex];omega
 obtain⟨v5,M5,e5,p5,V6,f5,Ij⟩:=JF M4 vG wX (ah h w) tM (h*w) c m (S.G.mono P4) (aF.mono v0 (p3.trans p4)) tN (a7 tN) s1 s9 (iP tN) (by rw[tN.len];exact adj s1 s1);show(aj _ _ (cM h w vG vf (some (.int z6)) (some wX) (some (.int c)) (some (.int m)) none none none none none none none none none none) M4).Sat _;refine cU (v:=v5) (M1:=M5) (mv rfl rfl rfl rfl rfl e5) ?_;have P5:=P4.trans p5;show(aj _ _ (cM h w vG vf (some (.int z6)) (some v5) (some (.int c)) (some (.int m)) none none none none none none none none none none) M5).Sat _;refine aB (RS.Sat.mono (q:={nx:=λσ M'=>∃vs ss,σ=cM h w vG vf (some (.int z6)) (some vs) (some (.int c)) (some (.int m)) none none none none none none none none none none/\M5<+:M'/\aP M' vs ss/\bC (h*w) ss,rt:=λ_ _=>False}) ?_ (λσ M' hI=>?_) (λ_ _ z=>z.elim) (λ_ _ z=>z.elim) (λ_ _ z=>z.elim))
 ·obtain⟨b,M6,e6,p6⟩:∃b M6,eP (tB (jR oLt oLt (eC (.int 1)) (aa 3) (eC (.int 9)))) (tB (af oEq (af oMod (af oDiv (ak iX (ae (aa 0) (ae (eC (.int 2)) ag))) (eC (.int 7))) (eC (.int 4))) (eC (.int 1)))) (cM h w vG vf (some (.int z6)) (some v5) (some (.int c)) (some (.int m)) none none none none none none none none none none) M5=.ok b M6/\M5<+:M6:=by
   obtain⟨c6,M6,e6,p6⟩:=nP ns M5 2 (lD.mono (S.pre.trans P5)) hl;have d1:=ff (M:=M6) (i:=c6) (j:=7) (by decide) (by decide);have d2:=dC (M:=M6) (i:=c6 / 7) (j:=4) (by decide);have et:tB (af oEq (af oMod (af oDiv (ak iX (ae (aa 0) (ae (eC (.int 2)) ag))) (eC (.int 7))) (eC (.int 4))) (eC (.int 1))) (cM h w vG vf (some (.int z6)) (some v5) (some (.int c)) (some (.int m)) none none none none none none none none none none) M5=.ok (decide (c6 / 7 % 4=1)) M6:=by
    unfold cM
    walk_at "ev"
    simp only[e6,d1,d2,eq_int]
   have ec:tB (jR oLt oLt (eC (.int 1)) (aa 3) (eC (.int 9))) (cM h w vG vf (some (.int z6)) (some v5) (some (.int c)) (some (.int m)) none none none none none none none none none none) M5=.ok (decide ((1:Int)<((h*w:Nat):Int))&&decide (((h*w:Nat):Int)<9)) M5:=by
    unfold cM;simp only[tB,jR,eC,aa,R.bind,aaR,aaU,lt_int];by_cases z:(1:Int)<((h*w:Nat):Int)
    ·simp only[z,ab8,aaW,abu]
    ·simp only[z,acz,abi,aa_,abz]
   unfold eP;rw[ec];cases decide ((1:Int)<((h*w:Nat):Int))&&decide (((h*w:Nat):Int)<9) with
   |false=>exact⟨false,M5,rfl,dv _⟩
   |true=>exact⟨_,M6,et,p6⟩
  refine aM e6 (λ_=>?_) λ_=>bT ⟨v5,V6,rfl,p6,aF.mono f5 p6,Ij⟩
  obtain⟨v7,M7,e7,p7,V7,f7,V8⟩:=JV M6 vf fl (h*w) m (aF.mono S.F (P5.trans p6)) S.fg S.fl s1 s9;exact bL (v:=v7) (M1:=M7) (vE rfl rfl rfl e7) ⟨v7,V7,rfl,p6.trans p7,f7,V8⟩
 obtain⟨vs,ss,rfl,p6,f6,sh⟩:=hI;clear e1 e2 e3 e4 e5;have P6:=P5.trans p6;clear p1 p2 p3 p4 p5 p6 P2 P4 P5 f5 Ij tN v0;generalize M'=M6 at P6 f6;have hG:=S.G.mono P6;have hF:=aF.mono S.F P6;have n7:=nk f6 (by have:=iP sh;omega);refine cU (v:=.ref M6.length) (M1:=M6++[.lst (ss.map .int)]) (vj rfl n7) ?_;have f7:aP (M6++[.lst (ss.map .int)]) (.ref M6.length) ss:=aF.new _ _;have p7:M6<+:M6++[.lst (ss.map .int)]:=pre_app _ _;generalize M6++[O.lst (ss.map .int)]=M7 at f7 p7;generalize W.ref M6.length=vh at f7;obtain⟨v8,M8,us,uc,aJ,aO,e8,p8,t8,l8,mT,r8,q8,V9,Z5⟩:=hs h w M7 vh ss hh hw f7 sh;show(aj _ _ (cM h w vG vf (some (.int z6)) (some vs) (some (.int c)) (some (.int m)) (some vh) none none none none none none none none none) M7).Sat _;refine cU (v:=v8) (M1:=M8) (vE rfl rfl rfl e8) ?_;show(aj _ _ (cM h w vG vf (some (.int z6)) (some vs) (some (.int c)) (some (.int m)) (some vh) (some v8) none none none none none none none none) M8).Sat _;have P8:=p7.trans p8;obtain⟨M9,e9,p9⟩:=same_ints M8 vh vs ss (aF.mono f7 p8) (aF.mono f6 P8) (iP sh);have t9:=t8.mono p9;refine aB (aM (c:=false) (M1:=M9) (sj (fF (bu (b:=true) (call2 rfl rfl e9))) (sj (fF (is_tup t9 11 rfl)) (bu (b:=false) ?_))) (λz=>nomatch z) λ_=>bT ?_)
 ·exact aY (pK t9 11 rfl) rfl ne_int
 dsimp only;obtain⟨wY,Ik,wZ⟩:=Ke M9 us aJ (l8.mono p9);refine aB (aM (c:=false) (M1:=wY) (fF (bu (b:=true) (vj (iB 11 t9 rfl).1 Ik))) (λz=>nomatch z) λ_=>bT ?_);dsimp only;have w4:=P8.trans (p9.trans wZ);have Il:=t9.mono wZ;have Im:=l8.mono (p9.trans wZ);have Io:(uc=.ao/\fL (ah h w) (h*w) aO=true/\gK (ah h w) aO (tabOf (ah h w) aO (h*w)) (h*w)=false/\cW (ah h w) ss (h*w)=true)\/∃cl,gL wY uc cl/\dJ (ah h w) aO (tabOf (ah h w) aO (h*w)) (h*w) cl=true:=by
  rcases q8 with z|⟨cl,z1,z2⟩
  ·exact .inl z
  ·exact .inr ⟨cl,aT.mono z1 (p9.trans wZ),z2⟩
 obtain⟨ja,Ip,lM⟩:=E8 wY vG vs (ah h w) ss (h*w) (hG.mono w4) (aF.mono f6 w4) (a7 sh) s9;refine aB (aM (c:=!cW (ah h w) ss (h*w)) (M1:=ja) (fF (bu (vE rfl rfl rfl Ip))) (λhc=>?_) λhc=>bT ?_)
 ·
  rw[abg] at hc;have z:=V9 hc;subst z;have es:ss=aO:=by have:some ss=some aO:=r8;exact aa2 this
  subst es;have⟨cl,c1,c2⟩:∃cl,gL wY uc cl/\dJ (ah h w) ss (tabOf (ah h w) ss (h*w)) (h*w) cl=true:=by
   rcases Io with⟨_,_,_,z⟩|z
   ·rw[hc] at z;cases z
   ·exact z
  have tO:=Il.mono lM;obtain⟨xs,⟨b,eb,gb⟩,hA⟩:=Im.mono lM;cases hA;subst eb;have Iq:br [] ja=.ok (.ref ja.length) (ja++[.lst []]):=b9 (by decide);have jB:ja<+:ja++[.lst []]:=pre_app _ _;have Cm:(ja++[O.lst []])[ja.length]? =some (.lst []):=b8 _ _;generalize ja++[O.lst []]=iQ at Iq jB Cm;have en:bV (.ref b) (.ref ja.length) iQ=.ok (.bl false) iQ:=by unfold bV eG;rw[aaO (by simp[VM.eE]),fS (aD jB gb),fS Cm];rfl
  obtain⟨gE,w5,lN⟩:=Dx iQ uc cl (aT.mono c1 (lM.trans jB));have oM:=tO.mono jB;refine aB (aM (c:=false) (M1:=gE) (sj (bu (b:=false) (aY (iB 11 tO rfl).1 (show _=R.ok (.ref ja.length) iQ from Iq) en)) (fF (bu (b:=true) (vj (iB 11 oM rfl).2 w5)))) (λz=>nomatch z) λ_=>bT ?_);dsimp only;have oN:=w4.trans (lM.trans (jB.trans lN));obtain⟨ws,J,ec,hT⟩:=Aw gE vG vs (ah h w) ss (h*w) (hG.mono oN) (aF.mono f6 oN) (λg hg=>(a7 sh g hg).2) (iP sh) s9;refine cU (v:=.ref gE.length) (M1:=gE++.lst ws::J) (vE rfl rfl rfl ec) ?_;have gT:gE<+:gE++.lst ws::J:=jQ _ _ _;have ht:=hT.ll;generalize gE++O.lst ws::J=jC at gT ht;generalize W.ref gE.length=vT at ht;obtain⟨w6,Ir,lO⟩:=uJ jC vG vs vT uc (ah h w) ss (tabOf (ah h w) ss (h*w)) (h*w) cl (hG.mono (oN.trans gT)) (aF.mono f6 (oN.trans gT)) ht (aT.mono c1 (lM.trans (jB.trans (lN.trans gT)))) (iw _ _ _) (a7 sh);rw[c2] at Ir;exact aR (v:=.bl true) (M1:=w6) (mv rfl rfl rfl (iB 11 (oM.mono (lN.trans gT)) rfl).2 rfl Ir) rfl
 rw[abP] at hc;dsimp only;have Cn:=w4.trans lM;have tO:=Il.mono lM;have Iu:=Im.mono lM;obtain⟨kr,iQ,Iv,jB,Iw⟩:=DD ja vG vs us (ah h w) ss aJ (h*w) true (hG.mono Cn) (aF.mono f6 Cn) Iu sh (a7 sh) Ii s9 (iP sh);have Uo:∃a b,aT iQ kr [.ref a,.ref b]/\iQ[a]? =some (.lst (aO.map .int))/\LL iQ (.ref b) (tabOf (ah h w) aO (h*w)):=by
  rw[D8,r8] at Iw;rcases Iw with⟨_,z⟩|⟨s2,a,b,z,_,t1,t2,t3⟩
  ·cases z
  ·cases z;exact⟨a,b,t1,t2,t3⟩
 obtain⟨ta,tb,oM,ga,ht⟩:=Uo;refine cU (v:=kr) (M1:=iQ) (mv rfl rfl (iB 11 tO rfl).1 rfl rfl Iv) ?_;show(aj _ _ (cM h w vG vf (some (.int z6)) (some vs) (some (.int c)) (some (.int m)) (some vh) (some v8) none (some kr) none none none none none none) iQ).Sat _;have Iy:=Cn.trans jB;have Iz:=tO.mono jB;have G_:(uc=.ao/\fL (ah h w) (h*w) aO=true/\gK (ah h w) aO (tabOf (ah h w) aO (h*w)) (h*w)=false)\/∃cl,gL iQ uc cl/\dJ (ah h w) aO (tabOf (ah h w) aO (h*w)) (h*w) cl=true:=by
  rcases Io with⟨z1,z2,z3,_⟩|⟨cl,z1,z2⟩
  ·exact .inl ⟨z1,z2,z3⟩
  ·exact .inr ⟨cl,aT.mono z1 (lM.trans jB),z2⟩
 obtain⟨Z6,gE,w5,rfl,lN⟩:=KI iQ vG (.ref ta) (.ref tb) uc (ah h w) aO (h*w) (hG.mono Iy) ⟨ta,rfl,ga⟩ ht (a7 mT) (iP mT) Ii s9 G_;have nn:iZ kr=false:=by obtain⟨d,rfl,_⟩:=oM;rfl
 refine aB (aM (c:=false) (M1:=gE) (sj (M1:=iQ) (bu (by unfold cM;simp only[dQ,aa,R.bind,aaR,aaU,nn])) (fF (bu (b:=true) (mv rfl (iB 13 oM rfl).1 (iB 13 oM rfl).2 (iB 11 Iz rfl).2 rfl w5)))) (λz=>nomatch z) λ_=>bT ?_);dsimp only;have oN:=Iy.trans lN;have V_:=oM.mono lN;have IA:=Iz.mono lN;have Wa:=Iu.mono (jB.trans lN);obtain⟨xs,⟨ub,rfl,gu⟩,hA⟩:=Wa;have Z7:=hA.len;have Co:=nk (aF.mono f6 oN) (by have:=iP sh;omega);have gT:gE<+:gE++[.lst (ss.map .int)]:=pre_app _ _;have Cp:aP (gE++[.lst (ss.map .int)]) (.ref gE.length) ss:=aF.new _ _;generalize gE++[O.lst (ss.map .int)]=jC at Co gT Cp;have w8:=zj (M:=jC) (v:=.ref ub) (xs:=xs) ⟨ub,rfl,aD gT gu⟩ (by omega);have lO:jC<+:jC++[.lst xs]:=pre_app _ _;have Cq:(jC++[O.lst xs])[jC.length]? =some (.lst xs):=b8 _ _;generalize jC++[O.lst xs]=w6 at w8 lO Cq;have Ha:a_ (λw st=>eO w6 w st) xs aJ:=hA.imp λa b q=>aT.mono q (gT.trans lO)
 obtain⟨mU,w9,Cr,qQ,Cs,_⟩:=V4 h w w6 (.ref gE.length) (.ref jC.length) ss aJ hh hw (aF.mono Cp lO) sh ⟨xs,⟨_,rfl,Cq⟩,Ha⟩ (by omega);rw[uw _ _ _ _ _ r8] at Cs;refine cU (v:=mU) (M1:=w9) ?_ ?_
 ·unfold cM;have w_:=cO (IA.mono gT) 0 (x:=.ref ub) rfl;simp only[ak,af,eC,ae,ag,aa,R.bind,aaR,aaU,Co,w_,w8,Cr];have Up:av v8 (.int 0) jC=.ok (.ref ub) jC:=w_;simp only[Up,w8,Cr]
 show(aj _ _ (cM h w vG vf (some (.int z6)) (some vs) (some (.int c)) (some (.int m)) (some vh) (some v8) none (some kr) (some mU) none none none none none) w9).Sat _;have Wb:=oN.trans (gT.trans (lO.trans qQ));have IB:=V_.mono (gT.trans (lO.trans qQ));have Wc:=IA.mono (gT.trans (lO.trans qQ));have Uq:=aD (gT.trans (lO.trans qQ)) gu;have Hb:=aD (lN.trans (gT.trans (lO.trans qQ))) ga;have Ur:a_ (λw st=>eO w9 w st) xs aJ:=Ha.imp λa b q=>aT.mono q qQ
 obtain⟨iR,IC,qR⟩:=same_ints w9 mU (.ref ta) aO Cs ⟨ta,rfl,Hb⟩ (iP mT);refine aB (aM (c:=false) (M1:=iR) (sj (fF (FW Cs 14 rfl)) (fF (bu (b:=true) (call2 rfl (iB 13 IB rfl).1 IC)))) (λz=>nomatch z) λ_=>bT ?_);dsimp only;have Wd:=Wb.trans qR;have We:=IB.mono qR;have ID:=Wc.mono qR;have Hd:=aD qR Uq;have Us:a_ (λw st=>eO iR w st) xs aJ:=Ur.imp λa b q=>aT.mono q qR
 clear e8 e9 Ik Ip Iv w5 Cr IC n7 Co w8;have IE:br xs.reverse iR=.ok (.ref iR.length) (iR++[.lst xs.reverse]):=b9 (by simp;omega);refine cU (v:=.ref iR.length) (M1:=iR++[.lst xs.reverse]) ?_ ?_
 ·unfold AK;rw[(iB 11 ID rfl).1];simp only[R.bind,gW Hd,IE]
 have oO:iR<+:iR++[.lst xs.reverse]:=pre_app _ _;have xf:(iR++[O.lst xs.reverse])[iR.length]? =some (.lst xs.reverse):=b8 _ _;generalize iR++[O.lst xs.reverse]=fE at oO xf;generalize iR.length=iq at xf;have xg:=ID.mono oO;have vU:=aD oO Hd;show(aj _ _ (cM h w vG vf (some (.int z6)) (some vs) (some (.int c)) (some (.int m)) (some vh) (some v8) none (some kr) (some mU) (some (.ref iq)) none none none none) fE).Sat _;have IF:=ff (M:=fE) (i:=c) (j:=4) (by decide) (by decide);have IG:=dC (M:=fE) (i:=c / 4) (j:=(xs.length:Int)+1) (by omega);have IH:bx [.ref ub] fE=.ok (.int xs.length) fE:=by unfold bx;simp only[lZ vU]
 refine cU (v:=.int (c / 4 % ((xs.length:Int)+1))) (M1:=fE) ?_ ?_
 ·have w_:=(iB (σ:=cM h w vG vf (some (.int z6)) (some vs) (some (.int c)) (some (.int m)) (some vh) (some v8) none (some kr) (some mU) (some (.ref iq)) none none none none) 11 xg rfl).1;refine aY (x:=.int (c / 4)) (M1:=fE) (aY rfl rfl IF) (y:=.int ((xs.length:Int)+1)) (M2:=fE) (aY (x:=.int xs.length) (M1:=fE) (vj w_ IH) rfl rfl) IG
 generalize c / 4 % ((xs.length:Int)+1)=out;show(aj _ _ (cM h w vG vf (some (.int z6)) (some vs) (some (.int c)) (some (.int m)) (some vh) (some v8) none (some kr) (some mU) (some (.ref iq)) (some (.int out)) none none none) fE).Sat _;have Ct:=Ag (M:=fE) (v:=.ref ub) ⟨ub,rfl,vU⟩ (by omega) none (some out);have ku:fE<+:fE++[.lst (VM.cut xs none (some out))]:=pre_app _ _;have Cu:(fE++[O.lst (VM.cut xs none (some out))])[fE.length]? =some (.lst (VM.cut xs none (some out))):=b8 _ _;generalize fE++[O.lst (VM.cut xs none (some out))]=kx at Ct ku Cu;have Cv:=Ag (M:=kx) (v:=.ref ub) ⟨ub,rfl,aD ku vU⟩ (by omega) (some (out+1)) none;have lP:kx<+:kx++[.lst (VM.cut xs (some (out+1)) none)]:=pre_app _ _;have Cw:(kx++[O.lst (VM.cut xs (some (out+1)) none)])[kx.length]? =some (.lst (VM.cut xs (some (out+1)) none)):=b8 _ _;generalize kx++[O.lst (VM.cut xs (some (out+1)) none)]=mV at Cv lP Cw;have k1:=vi xs none (some out);have k2:=vi xs (some (out+1)) none;have Cy:=Fu (aD lP Cu) Cw (by omega);have mW:mV<+:mV++[.lst (VM.cut xs none (some out)++VM.cut xs (some (out+1)) none)]:=pre_app _ _;have xh:(mV++[O.lst (VM.cut xs none (some out)++VM.cut xs (some (out+1)) none)])[mV.length]? =some (.lst (VM.cut xs none (some out)++VM.cut xs (some (out+1)) none)):=b8 _ _;generalize mV++[O.lst (VM.cut xs none (some out)++VM.cut xs (some (out+1)) none)]=jD at Cy mW xh;refine cU (v:=.ref mV.length) (M1:=jD) ?_ ?_
 ·have j1:=cO xg 0 (x:=.ref ub) rfl;have j2:=cO (xg.mono ku) 0 (x:=.ref ub) rfl;have Wf:av v8 (.int 0) fE=.ok (.ref ub) fE:=j1;have Wg:av v8 (.int 0) kx=.ok (.ref ub) kx:=j2;unfold cM;refine aY (x:=.ref fE.length) (M1:=kx) (y:=.ref kx.length) (M2:=mV) ?_ ?_ Cy
  ·simp only[f9,g_,fi,af,eC,aa,R.bind,aaR,aaU,Wf,Ct]
  ·simp only[f9,g_,fi,af,eC,aa,R.bind,aaR,aaU,Wg,VM.bp,Cv]
 generalize mV.length=jE at xh;have Cz:=Wd.trans (oO.trans (ku.trans (lP.trans mW)));have II:=xg.mono (ku.trans (lP.trans mW));have He:=aD (ku.trans (lP.trans mW)) vU;have Ut:=aD (ku.trans (lP.trans mW)) xf;have Uu:a_ (λw st=>eO jD w st) xs aJ:=Us.imp λa b q=>aT.mono q (oO.trans (ku.trans (lP.trans mW)))
 have Wh:=We.mono (oO.trans (ku.trans (lP.trans mW)));have Uv:=aD (qR.trans (oO.trans (ku.trans (lP.trans mW)))) Hb;clear Ct Cv Cy IF IG IH IE;show(aj _ _ (cM h w vG vf (some (.int z6)) (some vs) (some (.int c)) (some (.int m)) (some vh) (some v8) none (some kr) (some mU) (some (.ref iq)) (some (.int out)) (some (.ref jE)) none none) jD).Sat _;have CA:=Ag (M:=jD) (v:=.ref ub) ⟨ub,rfl,He⟩ (by omega) (some (-1)) none;have CB:jD<+:jD++[.lst (VM.cut xs (some (-1)) none)]:=pre_app _ _;have CC:(jD++[O.lst (VM.cut xs (some (-1)) none)])[jD.length]? =some (.lst (VM.cut xs (some (-1)) none)):=b8 _ _;generalize jD++[O.lst (VM.cut xs (some (-1)) none)]=qS at CA CB CC;have k3:=vi xs (some (-1)) none;have xi:=Fu (aD CB He) CC (by omega);have lE:qS<+:qS++[.lst (xs++VM.cut xs (some (-1)) none)]:=pre_app _ _;have xj:(qS++[O.lst (xs++VM.cut xs (some (-1)) none)])[qS.length]? =some (.lst (xs++VM.cut xs (some (-1)) none)):=b8 _ _;generalize qS++[O.lst (xs++VM.cut xs (some (-1)) none)]=lQ at xi lE xj;generalize qS.length=lR at xi xj;have CD:br [.ref lR,.ref iq,.ref jE] lQ=.ok (.ref lQ.length) (lQ++[.lst [.ref lR,.ref iq,.ref jE]]):=b9 (by show 3<=16777216;decide);have CF:lQ<+:lQ++[.lst [.ref lR,.ref iq,.ref jE]]:=pre_app _ _;have CG:(lQ++[O.lst [.ref lR,.ref iq,.ref jE]])[lQ.length]? =some (.lst [.ref lR,.ref iq,.ref jE]):=b8 _ _;generalize lQ++[O.lst [.ref lR,.ref iq,.ref jE]]=CH at CD CF CG;have mX:=CB.trans (lE.trans CF);have sT:a_ (λw st=>eO CH w st) xs aJ:=Uu.imp λa b q=>aT.mono q mX
 have sl:∀{ys:List W} {zs:List b4},a_ (λw st=>eO CH w st) ys zs->ys.length<=1000->zs.length<=1000:=λh q=>by rw[<-h.len];exact q
 have b1:=a_.app sT (LV.a_.Bj sT (some (-1)) none);have b3:=a_.app (LV.a_.Bj sT none (some out)) (LV.a_.Bj sT (some (out+1)) none);refine aB (MT (vf:=vf) hd V5 hh hw sh (hG.mono Cz) (aF.mono f6 Cz) (l:=lQ.length) (M1:=CH) (us:=[.ref lR,.ref iq,.ref jE]) (stss:=[aJ++VM.cut aJ (some (-1)) none,aJ.reverse,VM.cut aJ none (some out)++VM.cut aJ (some (out+1)) none]) ?_ mX CG (.cons ⟨⟨_,⟨_,rfl,aD CF xj⟩,b1⟩,sl b1 (by simp;omega)⟩ (.cons ⟨⟨_,⟨_,rfl,aD mX Ut⟩,LV.a_.Um sT⟩,by simp;omega⟩ (.cons ⟨⟨_,⟨_,rfl,aD mX xh⟩,b3⟩,sl b3 (by simp;omega)⟩ .nil))) rfl ?_)
 ·have j1:av v8 (.int 0) jD=.ok (.ref ub) jD:=cO II 0 (x:=.ref ub) rfl;unfold cM;simp only[aS,ae,ag,af,f9,g_,fi,A_,eC,aa,R.bind,aaR,aaU,j1,CA,xi,CD]
 intro Wi lL kq xk;dsimp only;have tP:=Cz.trans (mX.trans xk);have Wj:=II.mono (mX.trans xk);have Wl:=Wh.mono (mX.trans xk);have Uw:=aD (mX.trans xk) Uv;clear CA xi CD;have Hf:ss.length=fl.length:=by rw[sh.len,S.fl]
 obtain⟨CI,Wm,tQ⟩:=DQ Wi vG vs vf (ah h w) ss fl (h*w) (hG.mono tP) (aF.mono f6 tP) (aF.mono hF tP) Hf (by have:=iP sh;omega) (by rw[<-Hf];exact a7 sh) s9;refine aB (aM (c:=!(lj ss fl ss.length&&cW (ah h w) fl (h*w))) (M1:=CI) (fF (bu (qf rfl rfl rfl rfl Wm))) (λ_=>?_) λhf=>bT ?_)
 ·exact aR (v:=.bl true) (M1:=CI) rfl rfl
 rw[abP] at hf;dsimp only;have F:=OT hh hw S.fl S.fg sh hf;obtain⟨_,F'⟩:=EH (HZ hh hw) aJ ss aO sh F (uw _ _ _ _ _ r8);have un:uc=.ao:=by
  rcases G_ with⟨z,_⟩|⟨cl,_,z⟩
  ·exact z
  ·rw[JP (HZ hh hw) mT F' cl] at z;cases z
 subst un;have Hg:aO.length=fl.length:=by rw[mT.len,S.fl]
 have Wn:=Wl.mono tQ;obtain⟨Wo,IJ,Z8⟩:=DQ CI vG (.ref ta) vf (ah h w) aO fl (h*w) (hG.mono (tP.trans tQ)) ⟨ta,rfl,aD tQ Uw⟩ (aF.mono hF (tP.trans tQ)) Hg (by have:=iP mT;omega) (by rw[<-Hg];exact a7 mT) s9;rw[OU mT F'] at IJ;refine aR (v:=.bl true) (M1:=Wo) ?_ rfl;have i1:=(iB (σ:=cM h w vG vf (some (.int z6)) (some vs) (some (.int c)) (some (.int m)) (some vh) (some v8) none (some kr) (some mU) (some (.ref iq)) (some (.int out)) (some (.ref jE)) lL kq) 11 (Wj.mono tQ) rfl).2;unfold dm dQ;rw[i1];simp only[R.bind,iZ,aaW];exact qf rfl (iB 13 Wn rfl).1 rfl rfl IJ
end LV
namespace K4
open VM LV
def MU(k:Nat):rR qN lF (bb tab (k+2) 18):=EA ⟨_,rfl,JC⟩
def EI(k:Nat):rR qO mS (bb tab (k+2) 18):=EA ⟨_,rfl,Kf⟩
def zQ(k:Nat):pP (bb tab (k+6) 24):=OS (Eu Ew) (QQ (D1 Ax) (Fh zH))
def math(ns:List Int)(hl:ns.length<=63):∃M,bb tab 40 55 [.ref 0] [.bf (ns.map .int)]=.ok (.bl true) M:=by have hS:uq (bb tab 38 10):=Eu Ew;have hp:sC (bb tab 37 8):=D1 Ax;have ht:zI (bb tab 37 13):=Fh zH;have h1:pO (bb tab 37 20):=Fn Ez (EI 34);have h2:pO (bb tab 36 20):=Fn Ez (EI 33);have h3:zf (bb tab 36 19):=Lx (MU 33);have h4:yW (bb tab 37 22):=Ly h3 h2;have h5:uv (bb tab 37 21):=MR zH;have h6:zP (bb tab 38 23):=OR hp h1 h5 h4;have h7:zh (bb tab 39 25):=KD hS h6;obtain⟨v,M,e,rfl⟩:=OV h7 (zQ 32) (g1:=bb tab 39 47) (g2:=bb tab 38 47) (D_ (zQ 32)) (D_ (zQ 31)) ns hl [.bf (ns.map .int)] rfl;exact⟨M,e⟩
end K4
namespace SV
open PySem L2
abbrev Fg:=PySem.W.Frag
def txt(x:List Nat):Str:=⟨x.toArray⟩
def uX{x y:List Nat}(h:txt x=txt y):x=y:=by have e:x.toArray=y.toArray:=abU Str.cps h;simpa using e
def RV(ι:List Addr):VM.W->V->Prop
 |.ao,v=>v=.ao
 |.bl b,v=>v=.bl b
 |.int i,v=>v=.int i
 |.str x,v=>v=.str (txt x)
 |.ref a,v=>∃p,ι[a]? =some p/\v=.ref p
abbrev bB(ι:List Addr):List VM.W->List V->Prop:=Paired (RV ι)
def jb(ι:List Addr):Option VM.W->Option V->Prop
 |none,_=>True
 |some w,q=>∃v,q=some v/\RV ι w v
abbrev bG(ι:List Addr):VM.St->L2.St->Prop:=Paired (jb ι)
def xl(K:Fg)(H:Hp)(p:Addr)(vs:List V):Prop:=
 (∃o,H p=some (.bf o (.lst vs)))\/
  ∃(o:Obj) (au:Array Value) (n:Nat),K.lookup p=some o/\o.cls=.type "list"/\o.dict=none/\o.data=.seq au n/\au.size<=sizeLine/\Vals vs au.toList
def xl.sq{K:Fg}{H:Hp}{p:Addr}{vs:List V}(h:xl K H p vs):cc K H p vs:=by
 rcases h with⟨o,h⟩|h
 ·exact .inl (.inr ⟨o,h⟩)
 ·exact .inr h
abbrev eK(ι:List Addr):List (Int×VM.W)->List (Key×V)->Prop:=Paired λp q=>q.1=Sum.inl p.1/\RV ι p.2 q.2
abbrev jF(ι:List Addr):List (List Nat×VM.W)->List (Str×V)->Prop:=Paired λp q=>q.1=txt p.1/\RV ι p.2 q.2
def excAt(p C:Addr)(h:Heap):Prop:=∃o vs,h.get? p=some o/\o.cls=.ref C/\o.data=.fields vs
def RO(K:Fg)(ι:List Addr)(H:Hp)(p:Addr):VM.O->Prop
 |.lst xs=>∃vs,H p=some (.lst vs)/\bB ι xs vs
 |.tup xs=>∃vs,H p=some (.tup vs)/\bB ι xs vs
 |.bf xs=>∃vs,xl K H p vs/\bB ι xs vs
 |.aI kvs=>∃ks,H p=some (.dK ks)/\eK ι kvs ks
 |.ins c fs=>∃C dx gs,PySem.W.nsIn K mainGlobals (txt c)=some (some (.ref C))/\H p=some (.ins C dx gs)/\jF ι fs gs
 |.d8 x=>PySem.W.nsIn K mainGlobals (txt x)=some (some (.ref p))
 |.a6 g kvs=>∃o es ks ep,ι[g]? =some ep/\H p=some (.bf o (.dK ks))/\o.data=.dict es ep/\eK ι kvs ks
 |.cw=>True
 |.dr c=>∃C,PySem.W.nsIn K mainGlobals (txt c)=some (some (.ref C))/\H p=some (.ext (excAt p C))
def live:VM.O->Bool
 |.lst _=>true
 |.tup _=>true
 |.bf _=>false
 |.aI _=>true
 |.ins _ _=>true
 |.d8 _=>false
 |.a6 _ _=>true
 |.cw=>false
 |.dr _=>true
structure Rel(K:Fg)(ι:List Addr)(M:VM.Mem)(H:Hp):Prop where
 len:ι.length=M.length
 obj:∀(a:Nat) (p:Addr) (o:VM.O),ι[a]? =some p->M[a]? =some o->RO K ι H p o
 inj:∀(a b:Nat) (p:Addr) (oa ob:VM.O),ι[a]? =some p->ι[b]? =some p->M[a]? =some oa->M[b]? =some ob->live oa=true->live ob=true->a=b
section
variable{ι aw:List Addr}
def gZ(h:ι<+:aw){a:Nat}{p:Addr}(e:ι[a]? =some p):aw[a]? =some p:=by obtain⟨r,rfl⟩:=h;have ha:a<ι.length:=(aaZ.mp e).1;rw[abM ha];exact e
def RV.mono(h:ι<+:aw){w:VM.W}{v:V}(r:RV ι w v):RV aw w v:=by
 cases w with
 |ref a=>obtain⟨p,e,q⟩:=r;exact⟨p,gZ h e,q⟩
 |ao=>exact r
 |bl _=>exact r
 |int _=>exact r
 |str _=>exact r
theorem Paired.sU{α β:Type}{F G:α->β->Prop}(f:∀a b,F a b->G a b):∀{l:List α} {m:List β},Paired F l m->Paired G l m
 |_,_,.nil=>.nil
 |_,_,.cons r t=>.cons (f _ _ r) (Paired.sU f t)
def bB.mono(h:ι<+:aw){ws:List VM.W}{vs:List V}(r:bB ι ws vs):bB aw ws vs:=Paired.sU (λ_ _ q=>RV.mono h q) r
def eK.mono(h:ι<+:aw){ws:List (Int×VM.W)}{vs:List (Key×V)}(r:eK ι ws vs):eK aw ws vs:=Paired.sU (λ_ _ q=>⟨q.1,RV.mono h q.2⟩) r
def jF.mono(h:ι<+:aw){ws:List (List Nat×VM.W)}{vs:List (Str×V)}(r:jF ι ws vs):jF aw ws vs:=Paired.sU (λ_ _ q=>⟨q.1,RV.mono h q.2⟩) r
def jb.mono(h:ι<+:aw){o:Option VM.W}{q:Option V}(r:jb ι o q):jb aw o q:=by
 cases o with
 |none=>exact r
 |some w=>obtain⟨v,e,q⟩:=r;exact⟨v,e,q.mono h⟩
def bG.mono(h:ι<+:aw){σ:VM.St}{τ:L2.St}(r:bG ι σ τ):bG aw σ τ:=Paired.sU (λ_ _ q=>jb.mono h q) r
def d9:ι<+:ι:=List.prefix_refl _
end
theorem Paired.len{α β:Type}{F:α->β->Prop}:∀{l:List α} {m:List β},Paired F l m->l.length=m.length
 |_,_,.nil=>rfl
 |_,_,.cons _ t=>by simp[Paired.len t]
theorem Paired.at{α β:Type}{F:α->β->Prop}:∀{l:List α} {m:List β} {i:Nat} {x:α},Paired F l m->l[i]? =some x->∃y,m[i]? =some y/\F x y
 |_,_,_,_,.nil,e=>by simp at e
 |_,_,0,_,.cons r _,e=>by simp at e;subst e;exact⟨_,rfl,r⟩
 |_,_,i+1,x,.cons _ t,e=>by obtain⟨y,h1,h2⟩:=Paired.at (i:=i) (x:=x) t (by simpa using e);exact⟨y,by simpa using h1,h2⟩
theorem Paired.kR{α β:Type}{F:α->β->Prop}{x:α}{y:β}(r:F x y):∀{l:List α} {m:List β} (i:Nat),Paired F l m->Paired F (l.set i x) (m.set i y)
 |_,_,_,.nil=>.nil
 |_,_,0,.cons _ t=>.cons r t
 |_,_,i+1,.cons q t=>.cons q (Paired.kR r i t)
theorem Paired.app{α β:Type}{F:α->β->Prop}:∀{l l2:List α} {m m2:List β},Paired F l m->Paired F l2 m2->Paired F (l++l2) (m++m2)
 |_,_,_,_,.nil,s=>s
 |_,_,_,_,.cons r t,s=>.cons r (Paired.app t s)
theorem Paired.AQ{α β:Type}{F:α->β->Prop}:∀{l:List α} {m:List β} (n:Nat),Paired F l m->Paired F (l.take n) (m.take n)
 |_,_,0,_=>.nil
 |_,_,_+1,.nil=>.nil
 |_,_,n+1,.cons r t=>.cons r (Paired.AQ n t)
theorem Paired.Gz{α β:Type}{F:α->β->Prop}:∀{l:List α} {m:List β} (n:Nat),Paired F l m->Paired F (l.drop n) (m.drop n)
 |_,_,0,r=>r
 |_,_,_+1,.nil=>.nil
 |_,_,n+1,.cons _ t=>Paired.Gz n t
def Paired.LI{α β:Type}{F:α->β->Prop}{l:List α}{m:List β}(h:Paired F l m):Paired F l.dropLast m.dropLast:=by rw[aeg,aeg,<-Paired.len h];exact Paired.AQ _ h
section
variable{K:Fg}{ι:List Addr}{M:VM.Mem}{H:Hp}
def RO.mono{aw:List Addr}(h:ι<+:aw){p:Addr}{o:VM.O}(r:RO K ι H p o):RO K aw H p o:=by
 cases o with
 |lst xs=>obtain⟨vs,e,q⟩:=r;exact⟨vs,e,bB.mono h q⟩
 |tup xs=>obtain⟨vs,e,q⟩:=r;exact⟨vs,e,bB.mono h q⟩
 |bf xs=>obtain⟨vs,e,q⟩:=r;exact⟨vs,e,bB.mono h q⟩
 |aI xs=>obtain⟨vs,e,q⟩:=r;exact⟨vs,e,eK.mono h q⟩
 |ins c xs=>obtain⟨C,dx,gs,n,e,q⟩:=r;exact⟨C,dx,gs,n,e,jF.mono h q⟩
 |d8 x=>exact r
 |a6 g xs=>obtain⟨o,es,vs,ep,e0,e,e1,q⟩:=r;exact⟨o,es,vs,ep,gZ h e0,e,e1,eK.mono h q⟩
 |cw=>exact r
 |dr c=>exact r
def RO.other{p q:Addr}{o:VM.O}{u:HO}(r:RO K ι H p o)(h:live o=true->p≠q)(hq:∀ob vs,H q≠some (.bf ob (.lst vs))):RO K ι (upd H q u) p o:=by
 cases o with
 |lst xs=>obtain⟨vs,e,z⟩:=r;exact⟨vs,by rw[ba (h rfl)];exact e,z⟩
 |tup xs=>obtain⟨vs,e,z⟩:=r;exact⟨vs,by rw[ba (h rfl)];exact e,z⟩
 |bf xs=>
  obtain⟨vs,e,z⟩:=r;refine⟨vs,?_,z⟩;rcases e with⟨ob,e⟩|e
  ·refine .inl ⟨ob,?_⟩;have hp:p≠q:=by rintro rfl;exact hq _ _ e
   rw[ba hp];exact e
  ·exact .inr e
 |aI xs=>obtain⟨vs,e,z⟩:=r;exact⟨vs,by rw[ba (h rfl)];exact e,z⟩
 |ins c xs=>obtain⟨C,dx,gs,n,e,z⟩:=r;exact⟨C,dx,gs,n,by rw[ba (h rfl)];exact e,z⟩
 |d8 x=>exact r
 |a6 g xs=>obtain⟨o,es,vs,ep,e0,e,e1,z⟩:=r;exact⟨o,es,vs,ep,e0,by rw[ba (h rfl)];exact e,e1,z⟩
 |cw=>exact r
 |dr c=>obtain⟨C,n,e⟩:=r;exact⟨C,n,by rw[ba (h rfl)];exact e⟩
def RO.none{p:Addr}{o:VM.O}(r:RO K ι H p o)(hl:live o=true)(hp:H p=none):False:=by
 cases o with
 |lst xs=>obtain⟨vs,e,_⟩:=r;rw[hp] at e;cases e
 |tup xs=>obtain⟨vs,e,_⟩:=r;rw[hp] at e;cases e
 |bf xs=>cases hl
 |aI xs=>obtain⟨vs,e,_⟩:=r;rw[hp] at e;cases e
 |ins c xs=>obtain⟨_,_,_,_,e,_⟩:=r;rw[hp] at e;cases e
 |d8 x=>cases hl
 |a6 g xs=>obtain⟨o,es,vs,ep,_,e,_⟩:=r;rw[hp] at e;cases e
 |cw=>cases hl
 |dr c=>obtain⟨C,_,e⟩:=r;rw[hp] at e;cases e
def RO.SN{p:Addr}{o:VM.O}(r:RO K ι H p o)(hl:live o=true)(ob:Obj)(vs:List V)(hp:H p=some (.bf ob (.lst vs))):False:=by
 cases o with
 |lst xs=>obtain⟨vs,e,_⟩:=r;rw[hp] at e;cases e
 |tup xs=>obtain⟨vs,e,_⟩:=r;rw[hp] at e;cases e
 |bf xs=>cases hl
 |aI xs=>obtain⟨vs,e,_⟩:=r;rw[hp] at e;cases e
 |ins c xs=>obtain⟨_,_,_,_,e,_⟩:=r;rw[hp] at e;cases e
 |d8 x=>cases hl
 |a6 g xs=>obtain⟨o,es,vs,ep,_,e,_⟩:=r;rw[hp] at e;cases e
 |cw=>cases hl
 |dr c=>obtain⟨C,_,e⟩:=r;rw[hp] at e;cases e
def Rel.new(R:Rel K ι M H){p:Addr}(hp:H p=none){o:VM.O}{u:HO}(hn:∀aw,ι<+:aw->RO K aw (upd H p u) p o):Rel K (ι++[p]) (M++[o]) (upd H p u):=by
 have pre:ι<+:ι++[p]:=⟨[p],rfl⟩;have old:∀a q x,ι[a]? =some q->M[a]? =some x->RO K (ι++[p]) (upd H p u) q x:=λa q x h1 h2=>by
  have r:=R.obj a q x h1 h2;refine RO.mono pre (RO.other r (λhl=>?_) λob vs e=>?_)
  ·rintro rfl;exact r.none hl hp
  ·rw[hp] at e;cases e
 have Hh:∀a x,ι[a]? =some p->M[a]? =some x->live x=true->False:=λa x h1 h2 hl=>by exact(R.obj a p x h1 h2).none hl hp
 have split:∀a q,(ι++[p])[a]? =some q->(a<ι.length/\ι[a]? =some q)\/(a=ι.length/\q=p):=λa q h=>by
  by_cases ha:a<ι.length
  ·rw[abM ha] at h;exact .inl ⟨ha,h⟩
  ·rw[abW (acP ha)] at h;have:a-ι.length=0:=by
    cases hk:a-ι.length with
    |zero=>rfl
    |succ k=>rw[hk] at h;simp at h
   rw[this] at h;simp at h;exact .inr ⟨by omega,h.symm⟩
 have splitM:∀a x,(M++[o])[a]? =some x->(a<ι.length->M[a]? =some x)/\(a=ι.length->x=o):=λa x h=>by
  refine⟨λha=>?_,λha=>?_⟩
  ·rw[abM (by rw[<-R.len];exact ha)] at h;exact h
  ·subst ha;rw[R.len] at h;simp at h;exact h.symm
 refine⟨by simp[R.len],λa q x h1 h2=>?_,λa b q xa xb h1 h2 h3 h4 l1 l2=>?_⟩
 ·rcases split a q h1 with⟨ha,h1⟩|⟨ha,rfl⟩
  ·exact old a q x h1 ((splitM a x h2).1 ha)
  ·rw[(splitM a x h2).2 ha];exact hn _ pre
 ·rcases split a q h1 with⟨ha,g1⟩|⟨ha,eq1⟩
  ·rcases split b q h2 with⟨hb,g2⟩|⟨hb,eq2⟩
   ·exact R.inj a b q xa xb g1 g2 ((splitM a xa h3).1 ha) ((splitM b xb h4).1 hb) l1 l2
   ·rw[eq2] at g1;exact(Hh a xa g1 ((splitM a xa h3).1 ha) l1).elim
  ·rcases split b q h2 with⟨hb,g2⟩|⟨hb,_⟩
   ·rw[eq1] at g2;exact(Hh b xb g2 ((splitM b xb h4).1 hb) l2).elim
   ·rw[ha,hb]
def Rel.n4(R:Rel K ι M H){a:Nat}{p:Addr}{o o':VM.O}{u:HO}(hp:ι[a]? =some p)(ha:M[a]? =some o)(l:live o=true)(l':live o'=true)(hu:RO K ι (upd H p u) p o'):Rel K ι (M.set a o') (upd H p u):=by
 have dG:a<M.length:=(aaZ.mp ha).1;have ra:=R.obj a p _ hp ha;have look:∀b x,(M.set a o')[b]? =some x->(b=a/\x=o')\/(b≠a/\M[b]? =some x):=λb x h=>by
  by_cases hb:b=a
  ·subst hb;rw[abr dG] at h;exact .inl ⟨rfl,(aa2 h).symm⟩
  ·rw[abe (abc hb)] at h;exact .inr ⟨hb,h⟩
 have GA:∀b x,(M.set a o')[b]? =some x->live x=true->∃y,M[b]? =some y/\live y=true:=λb x h lx=>by
  rcases look b x h with⟨rfl,rfl⟩|⟨_,h⟩
  ·exact⟨_,ha,l⟩
  ·exact⟨x,h,lx⟩
 refine⟨by simp[R.len],λb q x h1 h2=>?_,λb c q xb xc h1 h2 h3 h4 l1 l2=>?_⟩
 ·rcases look b x h2 with⟨rfl,rfl⟩|⟨hb,h2⟩
  ·rw[hp] at h1;cases h1;exact hu
  ·refine RO.other (R.obj b q x h1 h2) (λhl=>?_) λob Wq e=>ra.SN l ob Wq e
   rintro rfl;exact hb (R.inj b a q x _ h1 hp h2 ha hl l)
 ·obtain⟨yb,e1,z1⟩:=GA b xb h3 l1;obtain⟨yc,e2,z2⟩:=GA c xc h4 l2;exact R.inj b c q yb yc h1 h2 e1 e2 z1 z2
def Rel.set(R:Rel K ι M H){a:Nat}{p:Addr}{xs ys:List VM.W}{us:List V}(hp:ι[a]? =some p)(ha:M[a]? =some (.lst xs))(hu:bB ι ys us):Rel K ι (M.set a (.lst ys)) (upd H p (.lst us)):=
 R.n4 hp ha rfl rfl ⟨us,dA,hu⟩
def Rel.bz(R:Rel K ι M H){w:VM.W}{xs:List VM.W}{v:V}(e:VM.bz M w=some xs)(r:RV ι w v):∃p vs,v=.ref p/\cc K H p vs/\bB ι xs vs:=by
 cases w with
 |ref a=>
  obtain⟨p,hp,rfl⟩:=r;simp only[VM.bz] at e;cases hm:M[a]? with
  |none=>rw[hm] at e;cases e
  |some o=>
   rw[hm] at e;have ro:=R.obj a p o hp hm;cases o with
   |lst ys=>cases e;obtain⟨vs,h1,h2⟩:=ro;exact⟨p,vs,rfl,cc.of h1,h2⟩
   |bf ys=>cases e;obtain⟨vs,h1,h2⟩:=ro;exact⟨p,vs,rfl,h1.sq,h2⟩
   |tup ys=>cases e
   |aI ys=>cases e
   |ins c ys=>cases e
   |d8 x=>cases e
   |a6 g x=>cases e
   |cw=>cases e
   |dr c=>cases e
 |ao=>cases e
 |bl _=>cases e
 |int _=>cases e
 |str _=>cases e
def Rel.cL(R:Rel K ι M H){w:VM.W}{xs:List VM.W}{v:V}(e:VM.cL M w=some xs)(r:RV ι w v):∃p vs,v=.ref p/\H p=some (.tup vs)/\bB ι xs vs:=by
 cases w with
 |ref a=>
  obtain⟨p,hp,rfl⟩:=r;simp only[VM.cL] at e;cases hm:M[a]? with
  |none=>rw[hm] at e;cases e
  |some o=>
   rw[hm] at e;have ro:=R.obj a p o hp hm;cases o with
   |tup ys=>cases e;obtain⟨vs,h1,h2⟩:=ro;exact⟨p,vs,rfl,h1,h2⟩
   |bf ys=>cases e
   |lst ys=>cases e
   |aI ys=>cases e
   |ins c ys=>cases e
   |d8 x=>cases e
   |a6 g x=>cases e
   |cw=>cases e
   |dr c=>cases e
 |ao=>cases e
 |bl _=>cases e
 |int _=>cases e
 |str _=>cases e
def Rel.bK(R:Rel K ι M H){w:VM.W}{xs:List VM.W}{v:V}(e:VM.bK M w=some xs)(r:RV ι w v):∃p vs,v=.ref p/\(cc K H p vs\/d0 K H p vs)/\bB ι xs vs:=by
 unfold VM.bK at e;cases h:VM.bz M w with
 |some ys=>rw[h] at e;cases e;obtain⟨p,vs,a,b,c⟩:=R.bz h r;exact⟨p,vs,a,.inl b,c⟩
 |none=>rw[h] at e;obtain⟨p,vs,a,b,c⟩:=R.cL e r;exact⟨p,vs,a,.inr (d0.of b),c⟩
def Rel.cj(R:Rel K ι M H){w:VM.W}{a:Nat}{xs:List VM.W}{v:V}(e:VM.cj M w=some (a,xs))(r:RV ι w v):∃p vs,w=.ref a/\ι[a]? =some p/\M[a]? =some (.lst xs)/\v=.ref p/\H p=some (.lst vs)/\bB ι xs vs:=by
 cases w with
 |ref b=>
  obtain⟨p,hp,rfl⟩:=r;simp only[VM.cj] at e;cases hm:M[b]? with
  |none=>rw[hm] at e;cases e
  |some o=>
   rw[hm] at e;have ro:=R.obj b p o hp hm;cases o with
   |lst ys=>cases e;obtain⟨vs,h1,h2⟩:=ro;exact⟨p,vs,rfl,hp,hm,rfl,h1,h2⟩
   |bf ys=>cases e
   |tup ys=>cases e
   |aI ys=>cases e
   |ins c ys=>cases e
   |d8 x=>cases e
   |a6 g x=>cases e
   |cw=>cases e
   |dr c=>cases e
 |ao=>cases e
 |bl _=>cases e
 |int _=>cases e
 |str _=>cases e
end
def ai{α β:Type}(rel:List Addr->α->β->Prop)(K:Fg)(ι:List Addr)(r:VM.R α)(Q:β->Hp->Prop):Prop:=match r with
 |.ok a M'=>∀aw H' b,ι<+:aw->Rel K aw M' H'->rel aw a b->Q b H'
 |.ex _ _=>False
 |.bad=>False
def ai.seq{α β γ δ:Type}{rA:List Addr->α->β->Prop}{rC:List Addr->γ->δ->Prop}{K:Fg}{ι:List Addr}{r:VM.R α}{f:α->VM.Mem->VM.R γ}{Q:δ->Hp->Prop}{Q2:β->Hp->Prop}(h:ai rC K ι (r.bind f) Q)(k:∀aw H' a M' b,ι<+:aw->Rel K aw M' H'->rA aw a b->ai rC K aw (f a M') Q->Q2 b H'):ai rA K ι r Q2:=by
 cases r with
 |ok a M'=>
  intro aw H' b hp R rr;refine k aw H' a M' b hp R rr ?_;have h':ai rC K ι (f a M') Q:=h;cases e:f a M' with
  |ok c M2=>rw[e] at h';exactλaU H2 d p2 R2 r2=>h' aU H2 d (abt hp p2) R2 r2
  |ex _ _=>rw[e] at h';exact h'.elim
  |bad=>rw[e] at h';exact h'.elim
 |ex _ _=>exact(h:False).elim
 |bad=>exact(h:False).elim
def ai.up{α β:Type}{rel:List Addr->α->β->Prop}{K:Fg}{ι aw:List Addr}{r:VM.R α}{Q:β->Hp->Prop}(p:ι<+:aw)(h:ai rel K ι r Q):ai rel K aw r Q:=by
 cases r with
 |ok a M=>exactλaU H2 b p2 R2 r2=>h aU H2 b (abt p p2) R2 r2
 |ex _ _=>exact h
 |bad=>exact h
def ai.ok{α β:Type}{rel:List Addr->α->β->Prop}{K:Fg}{ι:List Addr}{a:α}{M:VM.Mem}{Q:β->Hp->Prop}{H:Hp}{b:β}(h:ai rel K ι (.ok a M) Q)(R:Rel K ι M H)(r:rel ι a b):Q b H:=h ι H b d9 R r
def bc(K:Fg)(ι:List Addr)(r:VM.RS)(D:Ends):Prop:=match r with
 |.nx aA M'=>∀aw H' cf,ι<+:aw->Rel K aw M' H'->bG aw aA cf->D.nx cf H'
 |.rt w M'=>∀aw H' v,ι<+:aw->Rel K aw M' H'->RV aw w v->D.rt v H'
 |.bk aA M'=>∀aw H' cf,ι<+:aw->Rel K aw M' H'->bG aw aA cf->D.bk cf H'
 |.ct aA M'=>∀aw H' cf,ι<+:aw->Rel K aw M' H'->bG aw aA cf->D.ct cf H'
 |.ex _ _=>False
 |.bad=>False
def bc.mono{K:Fg}{ι aw:List Addr}{r:VM.RS}{D:Ends}(p:ι<+:aw)(h:bc K ι r D):bc K aw r D:=by
 cases r with
 |nx σ M=>exactλaU H2 t p2 R2 r2=>h aU H2 t (abt p p2) R2 r2
 |rt w M=>exactλaU H2 t p2 R2 r2=>h aU H2 t (abt p p2) R2 r2
 |bk σ M=>exactλaU H2 t p2 R2 r2=>h aU H2 t (abt p p2) R2 r2
 |ct σ M=>exactλaU H2 t p2 R2 r2=>h aU H2 t (abt p p2) R2 r2
 |ex _ _=>exact h
 |bad=>exact h
def bc.seq{α β:Type}{rA:List Addr->α->β->Prop}{K:Fg}{ι:List Addr}{r:VM.R α}{f:α->VM.Mem->VM.RS}{D:Ends}{Q2:β->Hp->Prop}(h:bc K ι (r.cz f) D)(k:∀aw H' a M' b,ι<+:aw->Rel K aw M' H'->rA aw a b->bc K aw (f a M') D->Q2 b H'):ai rA K ι r Q2:=by
 cases r with
 |ok a M'=>exactλaw H' b hp R rr=>k aw H' a M' b hp R rr (bc.mono hp h)
 |ex _ _=>exact(h:False).elim
 |bad=>exact(h:False).elim
def SE(X:Cx)(e:Expr)(m:VM.EM):Prop:=∃te,PE X e te/\∀ι M H σ τ Q,Rel X.K ι M H->bG ι σ τ->ai RV X.K ι (m σ M) Q->te τ H Q
abbrev rB:List Addr->Bool->Bool->Prop:=λ_ a b=>a=b
def gF(X:Cx)(e:Expr)(m:VM.TM):Prop:=∃te,PT X e te/\∀ι M H σ τ Q,Rel X.K ι M H->bG ι σ τ->ai rB X.K ι (m σ M) Q->te τ H Q
def SW(X:Cx)(e:Expr)(m:VM.TM):Prop:=∃te,PW X e te/\∀ι M H σ τ Q,Rel X.K ι M H->bG ι σ τ->ai rB X.K ι (m σ M) Q->te τ H Q
def SA(X:Cx)(es:List Expr)(m:VM.AM):Prop:=∃te,PA X es te/\∀ι M H σ τ Q,Rel X.K ι M H->bG ι σ τ->ai bB X.K ι (m σ M) Q->te τ H Q
def SG(X:Cx)(tg:Expr)(m:VM.GM):Prop:=∃g,PG X tg g/\∀ι M H σ τ w v Q,Rel X.K ι M H->bG ι σ τ->RV ι w v->ai bG X.K ι (m w σ M) Q->g v τ H Q
def xm(X:Cx)(ts:List Expr)(ms:List VM.GM):Prop:=ts.length=ms.length/\∃g,tf X ts g/\∀ι M H σ τ ws vs Q,Rel X.K ι M H->bG ι σ τ->bB ι ws vs->ai bG X.K ι (VM.jU ms ws σ M) Q->g vs τ H Q
def SS(X:Cx)(st:Stmt)(m:VM.SM):Prop:=∃t,PS X st t/\∀ι M H σ τ D,Rel X.K ι M H->bG ι σ τ->bc X.K ι (m σ M) D->t D τ H
def gU(X:Cx)(st:List Stmt)(m:VM.SM):Prop:=∃t,gP X st t/\∀ι M H σ τ D,Rel X.K ι M H->bG ι σ τ->bc X.K ι (m σ M) D->t D τ H
def dX(X:Cx)(f:Value->Value->Sem Value)(m:VM.dh):Prop:=∃r,cu X f r/\∀ι M H x y v u Q,Rel X.K ι M H->RV ι x v->RV ι y u->ai RV X.K ι (m x y M) Q->r v u H Q
def SC(X:Cx)(f:Value)(m:VM.CM):Prop:=∃r,iY X f r/\∀ι M H ws vs Q,Rel X.K ι M H->bB ι ws vs->ai RV X.K ι (m ws M) Q->r vs H Q
section
variable{X:Cx}
def QS(i:Nat){x:Str}{pos:Pos}(hN:X.N[i]? =some x:=by rfl)(hv:qy X.env.scope x:=by first|exact Or.inl rfl|exact Or.inr (Or.inl rfl)|exact Or.inr (Or.inr rfl))(hd:(x==("__debug__":Str))=false:=by decide+kernel)(fM:(x==("__classdict__":Str))=false:=by decide+kernel):SE X (.Name x pos) (VM.aa i):=by
 refine⟨AZ i,An hN hv hd fM,λι M H σ τ Q R S h=>?_⟩;unfold VM.aa at h;cases e:σ[i]? with
 |none=>rw[e] at h;exact(h:False).elim
 |some o=>
  cases o with
  |none=>rw[e] at h;exact(h:False).elim
  |some w=>rw[e] at h;obtain⟨q,hq,v,rfl,rv⟩:=Paired.at S e;exact⟨v,hq,ai.ok h R rv⟩
def QT{i:Int}{j pos}:SE X (.Constant (.int i) j pos) (VM.eC (.int i)):=⟨_,PR,λι M H σ τ Q R S h=>ai.ok (b:=V.int i) h R rfl⟩
def SQ{b:Bool}{j pos}:SE X (.Constant (.bool b) j pos) (VM.eC (.bl b)):=⟨_,RQ,λι M H σ τ Q R S h=>ai.ok (b:=V.bl b) h R rfl⟩
def QU{j pos}:SE X (.Constant .none j pos) (VM.eC .ao):=⟨_,PU,λι M H σ τ Q R S h=>ai.ok (b:=V.ao) h R rfl⟩
def QV{x:Str}(cs:List Nat){j pos}(hx:x=txt cs:=by first|rfl|decide+kernel):SE X (.Constant (.str x) j pos) (VM.eC (.str cs)):=by subst hx;exact⟨_,FE,λι M H σ τ Q R S h=>ai.ok (b:=V.str (txt cs)) h R rfl⟩
def QW:SA X [] VM.ag:=⟨_,jh,λι M H σ τ Q R S h=>ai.ok (b:=[]) h R .nil⟩
def OW{e:Expr}{es:List Expr}{m:VM.EM}{n:VM.AM}(ha:SE X e m)(hr:SA X es n)(hs:starEach (e::es) X.env=(false,eval e X.env)::starEach es X.env:=by rfl):SA X (e::es) (VM.ae m n):=by obtain⟨te,pe,ke⟩:=ha;obtain⟨ta,pa,ka⟩:=hr;refine⟨_,gh pe pa hs,λι M H σ τ Q R S h=>?_⟩;refine ke ι M H σ τ _ R S (ai.seq h λaz H1 x M1 u p1 R1 r1 h1=>?_);refine ka az M1 H1 σ τ _ R1 (S.mono p1) (ai.seq h1 λaU H2 xs M2 us p2 R2 r2 h2=>?_);exact ai.ok h2 R2 (.cons (r1.mono p2) r2)
def ni{K:Fg}{ι:List Addr}{M:VM.Mem}{H:Hp}{ws:List VM.W}{vs:List V}{Q:V->Hp->Prop}(R:Rel K ι M H)(r:bB ι ws vs)(h:ai RV K ι (VM.br ws M) Q):
 vs.length<=sizeLine/\∀p,H p=none->Q (.ref p) (upd H p (.lst vs)):=by
 unfold VM.br at h;by_cases hl:ws.length<=VM.lim
 ·rw[aaN hl] at h;refine⟨by rw[<-Paired.len r];exact hl,λp hp=>?_⟩;refine h (ι++[p]) _ _ ⟨[p],rfl⟩ (R.new hp λaw pre=>⟨vs,dA,r.mono pre⟩) ⟨p,?_,rfl⟩;rw[<-R.len];simp
 ·rw[aaO hl] at h;exact(h:False).elim
def Ea{K:Fg}{ι:List Addr}{M:VM.Mem}{H:Hp}{ws:List VM.W}{vs:List V}{Q:V->Hp->Prop}(R:Rel K ι M H)(r:bB ι ws vs)(h:ai RV K ι (VM.iH ws M) Q):
 vs.length<=sizeLine/\∀p,H p=none->Q (.ref p) (upd H p (.tup vs)):=by
 unfold VM.iH at h;by_cases hl:ws.length<=VM.lim
 ·rw[aaN hl] at h;refine⟨by rw[<-Paired.len r];exact hl,λp hp=>?_⟩;refine h (ι++[p]) _ _ ⟨[p],rfl⟩ (R.new hp λaw pre=>⟨vs,dA,r.mono pre⟩) ⟨p,?_,rfl⟩;rw[<-R.len];simp
 ·rw[aaO hl] at h;exact(h:False).elim
def QX{es:List Expr}{n:VM.AM}{pos}(ha:SA X es n):SE X (.List es pos) (VM.aS n):=by obtain⟨ta,pa,ka⟩:=ha;refine⟨_,Qp pa,λι M H σ τ Q R S h=>?_⟩;exact ka ι M H σ τ _ R S (ai.seq h λaz H1 x M1 u p1 R1 r1 h1=>ni R1 r1 h1)
def QY{es:List Expr}{n:VM.AM}{x1 pos}(ha:SA X es n):SE X (.Tuple es x1 pos) (VM.cD n):=by obtain⟨ta,pa,ka⟩:=ha;refine⟨_,FL pa,λι M H σ τ Q R S h=>?_⟩;exact ka ι M H σ τ _ R S (ai.seq h λaz H1 x M1 u p1 R1 r1 h1=>Ea R1 r1 h1)
def SR{op:Operator}{a b:Expr}{f:VM.dh}{m n:VM.EM}{pos}(ho:dX X (binaryOp op) f)(ha:SE X a m)(hb:SE X b n):SE X (.BinOp a op b pos) (VM.af f m n):=by obtain⟨r,po,ko⟩:=ho;obtain⟨ta,pa,ka⟩:=ha;obtain⟨tb,pb,kb⟩:=hb;refine⟨_,R9 po pa pb,λι M H σ τ Q R S h=>?_⟩;refine ka ι M H σ τ _ R S (ai.seq h λaz H1 x M1 u p1 R1 r1 h1=>?_);refine kb az M1 H1 σ τ _ R1 (S.mono p1) (ai.seq h1 λaU H2 y M2 v p2 R2 r2 h2=>?_);exact ko aU M2 H2 x y u v Q R2 (r1.mono p2) r2 h2
def QZ{op:CmpOp}{a b:Expr}{f:VM.dh}{m n:VM.EM}{pos}(ho:dX X (compareOp op) f)(ha:SE X a m)(hb:SE X b n)(hm:behindInMarks op b=false):SE X (.Compare a [op] [b] pos) (VM.af f m n):=by obtain⟨r,po,ko⟩:=ho;obtain⟨ta,pa,ka⟩:=ha;obtain⟨tb,pb,kb⟩:=hb;refine⟨_,N8 po pa pb hm,λι M H σ τ Q R S h=>?_⟩;refine ka ι M H σ τ _ R S (ai.seq h λaz H1 x M1 u p1 R1 r1 h1=>?_);refine kb az M1 H1 σ τ _ R1 (S.mono p1) (ai.seq h1 λaU H2 y M2 v p2 R2 r2 h2=>?_);exact ko aU M2 H2 x y u v Q R2 (r1.mono p2) r2 h2
def Q0{op:CmpOp}{a b:Expr}{f:VM.dh}{m n:VM.EM}{pos}(ho:dX X (compareOp op) f)(ha:SE X a m)(hb:SE X b n)(hm:behindInMarks op b=false):gF X (.Compare a [op] [b] pos) (VM.tB (VM.af f m n)):=by
 obtain⟨r,po,ko⟩:=ho;obtain⟨ta,pa,ka⟩:=ha;obtain⟨tb,pb,kb⟩:=hb;refine⟨_,N9 po pa pb hm,λι M H σ τ Q R S h=>?_⟩;have h0:ai rB X.K ι ((m σ M).bind λx M1=>(n σ M1).bind λy M2=>(f x y M2).bind λz M3=>match z with|.bl b=>.ok b M3|_=>.bad) Q:=by
  unfold VM.tB VM.af at h;revert h;cases m σ M with
  |ok x M1=>
   show ai rB X.K ι (((n σ M1).bind λy M2=>f x y M2).bind _) Q->ai rB X.K ι ((n σ M1).bind _) Q;cases n σ M1 with
   |ok y M2=>exactλh=>h
   |ex _ _=>exactλh=>h
   |bad=>exactλh=>h
  |ex _ _=>exactλh=>h
  |bad=>exactλh=>h
 refine ka ι M H σ τ _ R S (ai.seq h0 λaz H1 x M1 u p1 R1 r1 h1=>?_);refine kb az M1 H1 σ τ _ R1 (S.mono p1) (ai.seq h1 λaU H2 y M2 v p2 R2 r2 h2=>?_);refine ko aU M2 H2 x y u v _ R2 (r1.mono p2) r2 (ai.seq h2 λcS H3 z M3 t p3 R3 r3 h3=>?_);cases z with
 |bl b=>cases r3;exact⟨b,rfl,ai.ok h3 R3 rfl⟩
 |ao=>exact(h3:False).elim
 |int _=>exact(h3:False).elim
 |str _=>exact(h3:False).elim
 |ref _=>exact(h3:False).elim
end
section
variable{X:Cx}
def sk{f:Value->Value->Sem Value}{g:Int->Int->V}{m:VM.dh}{gw:Int->Int->VM.W}(h:cu X f (k_ g))(hr:∀ι i j,RV ι (gw i j) (g i j))(hm:∀x y M,(∃i j,x=VM.W.int i/\y=VM.W.int j/\m x y M=.ok (gw i j) M)\/m x y M=.bad):dX X f m:=by
 refine⟨_,h,λι M H x y v u Q R rx ry q=>?_⟩;rcases hm x y M with⟨i,j,rfl,rfl,e⟩|e
 ·rw[e] at q;exact⟨i,j,rx,ry,ai.ok q R (hr ι i j)⟩
 ·rw[e] at q;exact(q:False).elim
def Q3:dX X (binaryOp .Sub) VM.nU:=sk Qj (gw:=λi j=>.int (i-j)) (λ_ _ _=>rfl) λx y M=>by cases x<;>cases y<;>first|exact .inl ⟨_,_,rfl,rfl,rfl⟩|exact .inr rfl
def SU:dX X (compareOp .Lt) VM.oLt:=sk Sd (gw:=λi j=>.bl (decide (i<j))) (λ_ _ _=>rfl) λx y M=>by cases x<;>cases y<;>first|exact .inl ⟨_,_,rfl,rfl,rfl⟩|exact .inr rfl
def SY:dX X (compareOp .LtE) VM.oLe:=sk Se (gw:=λi j=>.bl (decide (i<=j))) (λ_ _ _=>rfl) λx y M=>by cases x<;>cases y<;>first|exact .inl ⟨_,_,rfl,rfl,rfl⟩|exact .inr rfl
def S5:dX X (compareOp .Gt) VM.jt:=sk Sf (gw:=λi j=>.bl (decide (j<i))) (λ_ _ _=>rfl) λx y M=>by cases x<;>cases y<;>first|exact .inl ⟨_,_,rfl,rfl,rfl⟩|exact .inr rfl
def S6:dX X (compareOp .GtE) VM.ju:=sk Sg (gw:=λi j=>.bl (decide (j<=i))) (λ_ _ _=>rfl) λx y M=>by cases x<;>cases y<;>first|exact .inl ⟨_,_,rfl,rfl,rfl⟩|exact .inr rfl
def Ah{f:Value->Value->Sem Value}{C:Int->Int->Prop}{g:Int->Int->V}{m:VM.dh}{gw:Int->Int->VM.W}(h:cu X f (rI C g))(hr:∀ι i j,RV ι (gw i j) (g i j))(hm:∀x y M,(∃i j,x=VM.W.int i/\y=VM.W.int j/\C i j/\m x y M=.ok (gw i j) M)\/m x y M=.bad):dX X f m:=by
 refine⟨_,h,λι M H x y v u Q R rx ry q=>?_⟩;rcases hm x y M with⟨i,j,rfl,rfl,c,e⟩|e
 ·rw[e] at q;exact⟨i,j,rx,ry,c,ai.ok q R (hr ι i j)⟩
 ·rw[e] at q;exact(q:False).elim
def Q4:dX X (binaryOp .Mult) VM.bN:=Ah Qk (gw:=λi j=>.int (i*j)) (λ_ _ _=>rfl) λx y M=>by
 cases x<;>cases y<;>first
  |exact .inr rfl
  |(rename_i i j
    by_cases c:i.natAbs<VM.mn\/j.natAbs<VM.mn
    ·exact .inl ⟨i,j,rfl,rfl,by unfold vK;unfold VM.mn at c;omega,aaN c⟩
    ·exact .inr (aaO c))
def Q5:dX X (binaryOp .FloorDiv) VM.oDiv:=Ah N7 (gw:=λi j=>.int (i / j)) (λ_ _ _=>rfl) λx y M=>by
 cases x<;>cases y<;>first
  |exact .inr rfl
  |(rename_i i j
    by_cases c:0<j/\j.natAbs<1073741824
    ·exact .inl ⟨i,j,rfl,rfl,by unfold GR;omega,aaN c⟩
    ·exact .inr (aaO c))
def Q6:dX X (binaryOp .Mod) VM.oMod:=Ah Ql (gw:=λi j=>.int (i % j)) (λ_ _ _=>rfl) λx y M=>by
 cases x<;>cases y<;>first
  |exact .inr rfl
  |(rename_i i j
    by_cases c:0<j
    ·exact .inl ⟨i,j,rfl,rfl,c,aaN c⟩
    ·exact .inr (aaO c))
def Q7:dX X (binaryOp .Add) VM.bp:=by
 refine⟨_,cu.or Qi Qy,λι M H x y v u Q R rx ry q=>?_⟩;cases x with
 |int i=>
  cases y with
  |int j=>cases rx;cases ry;exact .inl ⟨i,j,rfl,rfl,ai.ok (b:=V.int (i+j)) q R rfl⟩
  |_=>exact(q:False).elim
 |ref a=>
  cases y with
  |ref b=>
   have q':ai RV X.K ι (match VM.cj M (.ref a),VM.cj M (.ref b) with|some (_,xs),some (_,ys)=>VM.br (xs++ys) M|_,_=>.bad) Q:=q;cases ea:VM.cj M (.ref a) with
   |none=>rw[ea] at q';exact(q':False).elim
   |some pa=>
    cases eb:VM.cj M (.ref b) with
    |none=>rw[ea,eb] at q';exact(q':False).elim
    |some pb=>obtain⟨a',xs⟩:=pa;obtain⟨b',ys⟩:=pb;rw[ea,eb] at q';obtain⟨p,vs,_,_,_,rfl,h1,r1⟩:=R.cj ea rx;obtain⟨p2,us,_,_,_,rfl,h2,r2⟩:=R.cj eb ry;have r:=Paired.app r1 r2;obtain⟨z,k⟩:=ni R r q';exact .inr ⟨p,p2,vs,us,rfl,rfl,h1,h2,by rw[abb] at z;exact z,k⟩
  |_=>exact(q:False).elim
 |_=>exact(q:False).elim
def RV.eE{ι:List Addr}{x y:VM.W}{v u:V}(rx:RV ι x v)(ry:RV ι y u)(h:VM.eE x y=true):L2.eE v u=true/\decide (v=u)=decide (x=y):=by
 cases x with
 |ref a=>cases y<;>exact absurd h aa4
 |ao=>
  cases rx;cases y with
  |ref a=>exact absurd h aa4
  |ao=>cases ry;exact⟨rfl,rfl⟩
  |bl j=>cases ry;exact⟨rfl,rfl⟩
  |int j=>cases ry;exact⟨rfl,rfl⟩
  |str j=>cases ry;exact⟨rfl,rfl⟩
 |bl i=>
  cases rx;cases y with
  |ref a=>exact absurd h aa4
  |ao=>cases ry;exact⟨rfl,rfl⟩
  |bl j=>cases ry;exact⟨rfl,by simp⟩
  |int j=>exact absurd h aa4
  |str j=>cases ry;exact⟨rfl,rfl⟩
 |int i=>
  cases rx;cases y with
  |ref a=>exact absurd h aa4
  |ao=>cases ry;exact⟨rfl,rfl⟩
  |bl j=>exact absurd h aa4
  |int j=>cases ry;exact⟨rfl,by simp⟩
  |str j=>cases ry;exact⟨rfl,rfl⟩
 |str i=>
  cases rx;cases y with
  |ref a=>exact absurd h aa4
  |ao=>cases ry;exact⟨rfl,rfl⟩
  |bl j=>cases ry;exact⟨rfl,rfl⟩
  |int j=>cases ry;exact⟨rfl,rfl⟩
  |str j=>
   cases ry;refine⟨rfl,?_⟩;by_cases e:i=j
   ·subst e;simp
   ·have h1:¬(V.str (txt i)=V.str (txt j)):=λz=>e (uX (by injection z))
    have h2:¬(VM.W.str i=VM.W.str j):=λz=>e (by injection z)
    rw[abm h1,abm h2]
def RV.flat{ι:List Addr}{x:VM.W}{v:V}(r:RV ι x v)(h:VM.flat x=true):eu v=true:=by cases x<;>first|exact absurd h aa4|(cases r;rfl)
def OX(i j:List Nat):(txt i==txt j)=(i==j):=by
 by_cases e:i=j
 ·subst e;simp
 ·have h:¬txt i=txt j:=λz=>e (uX z)
  rw[ab1.mpr h,ab1.mpr e]
def RV.gB{ι:List Addr}{x y:VM.W}{v u:V}(rx:RV ι x v)(ry:RV ι y u)(hx:VM.flat x=true)(hy:VM.flat y=true):dF v u=VM.gB x y:=by
 cases x<;>cases y<;>first
  |exact absurd hx aa4
  |exact absurd hy aa4
  |(cases rx;cases ry;first|rfl|exact OX _ _)
theorem bB.flat{ι:List Addr}:∀{xs:List VM.W} {vs:List V},bB ι xs vs->xs.all VM.flat=true->vs.all eu=true
 |_,_,.nil,_=>rfl
 |_,_,.cons r t,h=>by rw[abX,aaT] at h⊢;exact⟨r.flat h.1,bB.flat t h.2⟩
def iK:List V->List V->Bool
 |[],[]=>true
 |x::xs,y::ys=>dF x y&&iK xs ys
 |_,_=>false
theorem bB.gM{ι:List Addr}:∀{xs ys:List VM.W} {vs us:List V},bB ι xs vs->bB ι ys us->xs.all VM.flat=true->ys.all VM.flat=true->iK vs us=VM.gM xs ys
 |_,_,_,_,.nil,.nil,_,_=>rfl
 |_,_,_,_,.nil,.cons _ _,_,_=>rfl
 |_,_,_,_,.cons _ _,.nil,_,_=>rfl
 |_,_,_,_,.cons r t,.cons r' t',h,h'=>by rw[abX,aaT] at h h';show(dF _ _&&iK _ _)=(VM.gB _ _&&VM.gM _ _);rw[RV.gB r r' h.1 h'.1,bB.gM t t' h.2 h'.2]
theorem ui:∀{vs us:List V},vs.length=us.length->((List.range vs.length).all λj=>dF (vs.getD j .ao) (us.getD j .ao))=iK vs us
 |[],[],_=>rfl
 |[],_::_,h=>by simp at h
 |_::_,[],h=>by simp at h
 |x::xs,y::ys,h=>by have ih:=@ui xs ys (by simpa using h);rw[abq,ad',abX,List.all_map];show(dF x y&&_)=(dF x y&&iK xs ys);rw[<-ih];rfl
def Bk(K:Fg)(neg:Bool):R2:=λx y H Q=>∃p q xs ys,x=.ref p/\y=.ref q/\cc K H p xs/\cc K H q ys/\ ((xs.length≠ys.length/\Q (.bl (if neg then true else false)) H)\/(xs.length=ys.length/\xs.all eu=true/\ys.all eu=true/\Q (.bl (if neg then !iK xs ys else iK xs ys)) H))
def pC{xs:List V}{au:List Value}(r:Vals xs au){j:Nat}(h:j<au.length):RelV (xs.getD j .ao) au[j]:=by
 have hx:j<xs.length:=by rw[r.length];exact h
 obtain⟨u,e1,e2⟩:=r.get (i:=j) (x:=xs[j]) (by simp[hx]);have e3:au[j]=u:=by rw[acJ h] at e1;exact aa2 e1
 have e4:xs.getD j .ao=xs[j]:=by simp[List.getD,hx]
 rw[e3,e4];exact e2
def pQ{xs:List V}{j:Nat}(h:xs.all eu=true)(hj:j<xs.length):eu (xs.getD j .ao)=true:=by
 have e4:xs.getD j .ao=xs[j]:=by simp[List.getD,hj]
 rw[e4];exact abC.mp h _ (acy hj)
def KJ(hu:X.A.units<cLine):cu X (compareOp .Eq) (Bk X.K false):=by
 intro pins s σ H x y v u Q I rx ry h;obtain⟨p,q,xs,ys,rfl,rfl,h1,h2,hq⟩:=h;cases rx;cases ry;obtain⟨au,r,pl,hz⟩:=I.list h1;obtain⟨cP,r2,lS,kn⟩:=I.list h2;have l1:=r.length;have l2:=r2.length;rcases hq with⟨hl,q⟩|⟨hl,f1,f2,q⟩
 ·exact SeqAt.eq_list_lengthsAt pl.isList lS.isList (by simp only[aa6,bne_iff_ne];omega) hu ⟨.bl false,H,I,rfl,q⟩
 ·refine SeqAt.eq_listAt (e:=λj=>dF (xs.getD j .ao) (ys.getD j .ao)) pl.isList lS.isList (by simp only[aa6];omega) hu (λj h1 h2=>?_) ⟨.bl (iK xs ys),H,I,?_,q⟩
  ·have fB:j<au.length:=by simpa using h1
   have jz:j<cP.length:=by simpa using h2
   have e1:au.toArray[j]=au[j]:=by simp
   have e2:cP.toArray[j]=cP[j]:=by simp
   rw[e1,e2];exact u6 (pC r fB) (pC r2 jz) (pQ f1 (by omega)) (pQ f2 (by omega))
  ·show Value.bool _=Value.bool _;rw[aa6,<-l1,ui hl]
def KL(hu:X.A.units<cLine):cu X (compareOp .NotEq) (Bk X.K true):=by
 intro pins s σ H x y v u Q I rx ry h;obtain⟨p,q,xs,ys,rfl,rfl,h1,h2,hq⟩:=h;cases rx;cases ry;obtain⟨au,r,pl,hz⟩:=I.list h1;obtain⟨cP,r2,lS,kn⟩:=I.list h2;have l1:=r.length;have l2:=r2.length;rcases hq with⟨hl,q⟩|⟨hl,f1,f2,q⟩
 ·exact SeqAt.RcNeAt.lists_lengths pl.isList lS.isList (by simp only[aa6,bne_iff_ne];omega) hu _ _ _ _ ⟨.bl true,H,I,rfl,q⟩
 ·refine SeqAt.RcNeAt.lists (e:=λj=>dF (xs.getD j .ao) (ys.getD j .ao)) pl.isList lS.isList (by simp only[aa6];omega) hu (λj h1 h2=>?_) _ _ _ _ ⟨.bl (!iK xs ys),H,I,?_,q⟩
  ·have fB:j<au.length:=by simpa using h1
   have jz:j<cP.length:=by simpa using h2
   have e1:au.toArray[j]=au[j]:=by simp
   have e2:cP.toArray[j]=cP[j]:=by simp
   rw[e1,e2];exact u6 (pC r fB) (pC r2 jz) (pQ f1 (by omega)) (pQ f2 (by omega))
  ·show Value.bool _=Value.bool _;rw[aa6,<-l1,ui hl]
theorem EJ:∀{vs us:List V},vs.length≠us.length->iK vs us=false
 |[],[],h=>absurd rfl h
 |[],_::_,_=>rfl
 |_::_,[],_=>rfl
 |x::xs,y::ys,h=>by show(dF x y&&iK xs ys)=false;rw[EJ (by simpa using h),abO]
def vV(K:Fg)(neg:Bool):R2:=λx y H Q=>∃p q xs ys b,x=.ref p/\y=.ref q/\H p=some (.tup xs)/\H q=some (.tup ys)/\ ((xs.all eu=true/\ys.all eu=true/\b=iK xs ys)\/((xs.length=0\/ys.length=0)/\b=decide (xs.length=ys.length)))/\Q (.bl (if neg then !b else b)) H
def Inv.tupI{pins:List (Addr×Obj)}{σ:L2.St}{H:Hp}{s:Shared}{p:Addr}{xs:List V}(I:Inv X pins σ H s)(h:H p=some (.tup xs)):∃au:List Value,Vals xs au/\s.heap.IsTuple p au.toArray:=by obtain⟨_,au,r,o,h1,h2,h3⟩:=I.aE p _ h;exact⟨au,r,o,h1,h2,h3⟩
def EK{pins:List (Addr×Obj)}{σ:L2.St}{H:Hp}{s:Shared}{A:Around}{xs ys:List V}{au cP:List Value}{b:Bool}(r:Vals xs au)(r2:Vals ys cP)(hq:(xs.all eu=true/\ys.all eu=true/\b=iK xs ys)\/((xs.length=0\/ys.length=0)/\b=decide (xs.length=ys.length))): (∀j (h1:j<au.toArray.size) (h2:j<cP.toArray.size),SeqAt.EqAt A s au.toArray[j] cP.toArray[j] (dF (xs.getD j .ao) (ys.getD j .ao)))/\ ((List.range (min au.toArray.size cP.toArray.size)).all (λj=>dF (xs.getD j .ao) (ys.getD j .ao))&&au.toArray.size==cP.toArray.size)=b:=by
 have l1:=r.length;have l2:=r2.length;refine⟨λj h1 h2=>?_,?_⟩
 ·have fB:j<au.length:=by simpa using h1
  have jz:j<cP.length:=by simpa using h2
  have e1:au.toArray[j]=au[j]:=by simp
  have e2:cP.toArray[j]=cP[j]:=by simp
  rw[e1,e2];rcases hq with⟨f1,f2,q⟩|⟨hl,q⟩
  ·exact u6 (pC r fB) (pC r2 jz) (pQ f1 (by omega)) (pQ f2 (by omega))
  ·omega
 ·rw[aa6,aa6,<-l1,<-l2];rcases hq with⟨f1,f2,q⟩|⟨hl,q⟩
  ·by_cases hl:xs.length=ys.length
   ·rw[<-hl,Nat.min_self,ui hl,acK,acj,q]
   ·rw[ab1.mpr hl,abO,q,EJ hl]
  ·have hm:min xs.length ys.length=0:=by omega
   rw[hm,q];show(true&&_)=_;rw[abu];by_cases hl:xs.length=ys.length
   ·rw[abF hl,hl,acK]
   ·rw[abm hl,ab1.mpr hl]
def LJ(hu:X.A.units<cLine):cu X (compareOp .Eq) (vV X.K false):=by intro pins s σ H x y v u Q I rx ry h;obtain⟨p,q,xs,ys,b,rfl,rfl,h1,h2,hq,q⟩:=h;cases rx;cases ry;obtain⟨au,r,pl⟩:=Inv.tupI I h1;obtain⟨cP,r2,lS⟩:=Inv.tupI I h2;obtain⟨c1,c2⟩:=EK (pins:=pins) (σ:=σ) (H:=H) (s:=s) (A:=X.A.in1) r r2 hq;refine SeqAt.eq_tupleAt pl lS hu c1 ?_;rw[c2];exact⟨.bl b,H,I,rfl,q⟩
def LK(hu:X.A.units<cLine):cu X (compareOp .NotEq) (vV X.K true):=by intro pins s σ H x y v u Q I rx ry h;obtain⟨p,q,xs,ys,b,rfl,rfl,h1,h2,hq,q⟩:=h;cases rx;cases ry;obtain⟨au,r,pl⟩:=Inv.tupI I h1;obtain⟨cP,r2,lS⟩:=Inv.tupI I h2;obtain⟨c1,c2⟩:=EK (pins:=pins) (σ:=σ) (H:=H) (s:=s) (A:=X.A.in1) r r2 hq;refine SeqAt.RcNeAt.tuples pl lS hu c1 _ _ _ _ ?_;rw[c2];exact⟨.bl (!b),H,I,rfl,q⟩
def EL{ι:List Addr}{M:VM.Mem}{H:Hp}{x y:VM.W}{v u:V}{b:Bool}{neg:Bool}{Q:VK}(R:Rel X.K ι M H)(rx:RV ι x v)(ry:RV ι y u)(e:VM.eG M x y=some b)(q:Q (.bl (if neg then !b else b)) H): ((if neg then L2.Hw v u H Q else L2.Hv v u H Q)\/Bk X.K neg v u H Q)\/vV X.K neg v u H Q:=by
 unfold VM.eG at e;by_cases hs:VM.eE x y=true
 ·rw[aaN hs] at e;obtain⟨s1,s2⟩:=RV.eE rx ry hs;have e':decide (x=y)=b:=aa2 e;refine .inl (.inl ?_);cases neg with
  |true=>exact⟨s1,by rw[s2,e'];exact q⟩
  |false=>exact⟨s1,by rw[s2,e'];exact q⟩
 ·rw[aaO hs] at e;have Fv:(match VM.cL M x,VM.cL M y with|some xs,some ys=>VM.Gm xs ys|_,_=>none)=some b->vV X.K neg v u H Q:=λe=>by
   cases ea:VM.cL M x with
   |none=>rw[ea] at e;cases e
   |some xs=>
    cases eb:VM.cL M y with
    |none=>rw[ea,eb] at e;cases e
    |some ys=>
     rw[ea,eb] at e;obtain⟨p,vs,rfl,h1,r1⟩:=R.cL ea rx;obtain⟨p2,us,rfl,h2,r2⟩:=R.cL eb ry;have l1:=Paired.len r1;have l2:=Paired.len r2;have e':(if(xs.all VM.flat&&ys.all VM.flat)=true then some (VM.gM xs ys) else if xs.length=0\/ys.length=0 then some (decide (xs.length=ys.length)) else none)=some b:=e;refine⟨p,p2,vs,us,b,rfl,rfl,h1,h2,?_,q⟩;by_cases hf:(xs.all VM.flat&&ys.all VM.flat)=true
     ·rw[aaN hf] at e';rw[aaT] at hf;have e2:VM.gM xs ys=b:=aa2 e';exact .inl ⟨bB.flat r1 hf.1,bB.flat r2 hf.2,by rw[bB.gM r1 r2 hf.1 hf.2,e2]⟩
     ·rw[aaO hf] at e';by_cases hz:xs.length=0\/ys.length=0
      ·rw[aaN hz] at e';have e2:decide (xs.length=ys.length)=b:=aa2 e';exact .inr ⟨by omega,by rw[<-e2,l1,l2]⟩
      ·rw[aaO hz] at e';cases e'
  cases ea:VM.bz M x with
  |none=>rw[ea] at e;exact .inr (Fv e)
  |some xs=>
   cases eb:VM.bz M y with
   |none=>rw[ea,eb] at e;exact .inr (Fv e)
   |some ys=>
    refine .inl (.inr ?_);rw[ea,eb] at e;obtain⟨p,vs,rfl,h1,r1⟩:=R.bz ea rx;obtain⟨p2,us,rfl,h2,r2⟩:=R.bz eb ry;have l1:=Paired.len r1;have l2:=Paired.len r2;have e':(if xs.length≠ys.length then some false else if(xs.all VM.flat&&ys.all VM.flat)=true then some (VM.gM xs ys) else none)=some b:=e;by_cases hl:xs.length≠ys.length
    ·rw[aaN hl] at e';have e2:false=b:=aa2 e';subst e2;refine⟨p,p2,vs,us,rfl,rfl,h1,h2,.inl ⟨by omega,?_⟩⟩;cases neg<;>exact q
    ·rw[aaO hl] at e';by_cases hf:(xs.all VM.flat&&ys.all VM.flat)=true
     ·rw[aaN hf] at e';rw[aaT] at hf;have e2:VM.gM xs ys=b:=aa2 e';refine⟨p,p2,vs,us,rfl,rfl,h1,h2,.inr ⟨by omega,bB.flat r1 hf.1,bB.flat r2 hf.2,?_⟩⟩;rw[bB.gM r1 r2 hf.1 hf.2,e2];exact q
     ·rw[aaO hf] at e';cases e'
def LM(hu:X.A.units<cLine):cu X (compareOp .Eq) (λx y H Q=>∃p xs,x=.ao/\y=.ref p/\cc X.K H p xs/\Q (.bl false) H):=by intro pins s σ H x y v u Q I rx ry h;obtain⟨p,xs,rfl,rfl,h1,q⟩:=h;cases rx;cases ry;obtain⟨au,r,pl,hz⟩:=I.list h1;exact SeqAt.RcAt.none_list pl.isList hu _ _ _ _ ⟨.bl false,H,I,rfl,q⟩
def S8(hu:X.A.units<cLine):dX X (compareOp .Eq) VM.oEq:=by
 refine⟨_,cu.or (cu.or (cu.or Sa (KJ hu)) (LJ hu)) (LM hu),λι M H x y v u Q R rx ry q=>?_⟩;unfold VM.oEq at q;cases e:VM.eG M x y with
 |none=>
  rw[e] at q;have q2:ai RV X.K ι (if VM.qj M x y=true then .ok (.bl false) M else .bad) Q:=q;by_cases hn:VM.qj M x y=true
  ·rw[aaN hn] at q2;unfold VM.qj at hn;rw[aaT] at hn;cases x with
   |ao=>
    cases el:VM.bz M y with
    |none=>rw[el] at hn;cases hn.2
    |some ys=>obtain⟨p,us,rfl,h1,_⟩:=R.bz el ry;cases rx;exact .inr ⟨p,us,rfl,rfl,h1,ai.ok (b:=V.bl false) q2 R rfl⟩
   |bl _=>cases hn.1
   |int _=>cases hn.1
   |str _=>cases hn.1
   |ref _=>cases hn.1
  ·rw[aaO hn] at q2;exact(q2:False).elim
 |some b=>rw[e] at q;exact .inl (EL (neg:=false) R rx ry e (ai.ok (b:=V.bl b) q R rfl))
def S9(hu:X.A.units<cLine):dX X (compareOp .NotEq) VM.bV:=by
 refine⟨_,cu.or (cu.or Sb (KL hu)) (LK hu),λι M H x y v u Q R rx ry q=>?_⟩;unfold VM.bV at q;cases e:VM.eG M x y with
 |none=>rw[e] at q;exact(q:False).elim
 |some b=>rw[e] at q;exact EL (neg:=true) R rx ry e (ai.ok (b:=V.bl (!b)) q R rfl)
theorem AD{ι:List Addr}{x:VM.W}{v:V}(rx:RV ι x v)(hx:VM.flat x=true):∀{xs:List VM.W} {vs:List V},bB ι xs vs->xs.all VM.flat=true->qD v vs=VM.lh x xs
 |_,_,.nil,_=>rfl
 |_,_,.cons r t,h=>by rw[abX,aaT] at h;have ih:=AD rx hx t h.2;show(dF _ v||qD v _)=(VM.gB _ x||VM.lh x _);rw[RV.gB r rx h.1 hx,ih]
def S_:dX X (compareOp .In) VM.iN:=by
 refine⟨_,K',λι M H x y v u Q R rx ry q=>?_⟩;unfold VM.iN at q;cases e:VM.bK M y with
 |none=>rw[e] at q;exact(q:False).elim
 |some xs=>
  rw[e] at q;have q':ai RV X.K ι (if(VM.flat x&&xs.all VM.flat)=true then .ok (.bl (VM.lh x xs)) M else .bad) Q:=q;by_cases hf:(VM.flat x&&xs.all VM.flat)=true
  ·rw[aaN hf] at q';rw[aaT] at hf;obtain⟨p,vs,rfl,h1,r1⟩:=R.bK e ry;refine⟨p,vs,rfl,h1,rx.flat hf.1,bB.flat r1 hf.2,?_⟩;show Q (.bl (qD v vs)) H;rw[AD rx hf.1 r1 hf.2];exact ai.ok (b:=V.bl _) q' R rfl
  ·rw[aaO hf] at q';exact(q':False).elim
def MV:dX X (compareOp .NotIn) VM.l7:=by
 refine⟨_,JH,λι M H x y v u Q R rx ry q=>?_⟩;unfold VM.l7 at q;cases e:VM.bK M y with
 |none=>rw[e] at q;exact(q:False).elim
 |some xs=>
  rw[e] at q;have q':ai RV X.K ι (if(VM.flat x&&xs.all VM.flat)=true then .ok (.bl (!VM.lh x xs)) M else .bad) Q:=q;by_cases hf:(VM.flat x&&xs.all VM.flat)=true
  ·rw[aaN hf] at q';rw[aaT] at hf;obtain⟨p,vs,rfl,h1,r1⟩:=R.bK e ry;refine⟨p,vs,rfl,h1,rx.flat hf.1,bB.flat r1 hf.2,?_⟩;show Q (.bl (!qD v vs)) H;rw[AD rx hf.1 r1 hf.2];exact ai.ok (b:=V.bl _) q' R rfl
  ·rw[aaO hf] at q';exact(q':False).elim
def OY{ι:List Addr}{xs:List VM.W}{vs:List V}(r:bB ι xs vs){i:Int}{w:VM.W}(e:VM.cR xs i=some w):∃v,L2.cR vs i=some v/\RV ι w v:=by
 have hl:=Paired.len r;unfold VM.cR at e;unfold L2.cR;have e0:L2.cK vs.length i=VM.cK xs.length i:=by rw[<-hl];rfl
 rw[e0];cases h:VM.cK xs.length i with
 |none=>rw[h] at e;cases e
 |some j=>rw[h] at e;obtain⟨v,h1,h2⟩:=Paired.at r (show xs[j]? =some w from e);exact⟨v,h1,h2⟩
def Ta{a b:Expr}{m n:VM.EM}{pos}(ha:SE X a m)(hb:SE X b n)(hs:E6 b:=by intro _ _;rfl):SE X (.Subscript a b pos) (VM.af VM.av m n):=by
 obtain⟨ta,pa,ka⟩:=ha;obtain⟨tb,pb,kb⟩:=hb;refine⟨_,Sn (Oh.or Qt) pa pb hs,λι M H σ τ Q R S h=>?_⟩;refine ka ι M H σ τ _ R S (ai.seq h λaz H1 x M1 u p1 R1 r1 h1=>?_);refine kb az M1 H1 σ τ _ R1 (S.mono p1) (ai.seq h1 λaU H2 y M2 v p2 R2 r2 h2=>?_);have rx:=r1.mono p2;cases y with
 |int i=>
  cases r2;have q':ai RV X.K aU (match VM.bK M2 x with|some xs=>(match VM.cR xs i with|some v=>VM.R.ok v M2|none=>.bad)|none=>.bad) Q:=h2;cases e:VM.bK M2 x with
  |none=>rw[e] at q';exact(q':False).elim
  |some xs=>
   rw[e] at q';have q2:ai RV X.K aU (match VM.cR xs i with|some v=>VM.R.ok v M2|none=>.bad) Q:=q';cases e2:VM.cR xs i with
   |none=>rw[e2] at q2;exact(q2:False).elim
   |some w=>
    rw[e2] at q2;obtain⟨p,vs,rfl,eY,r3⟩:=R2.bK e rx;obtain⟨v,hv,rv⟩:=OY r3 e2;rcases eY with eY|eY
    ·exact .inl ⟨p,vs,i,v,rfl,rfl,eY,hv,ai.ok q2 R2 rv⟩
    ·exact .inr ⟨p,vs,i,v,rfl,rfl,eY,hv,ai.ok q2 R2 rv⟩
 |_=>cases x<;>exact(h2:False).elim
def SO(X:Cx)(e:Option Expr)(m:VM.PM):Prop:=∃t,PO X e t/\∀ι M H σ τ Q,Rel X.K ι M H->bG ι σ τ->ai (λ_ (a b:Option Int)=>a=b) X.K ι (m σ M) Q->t τ H Q
def OZ:SO X none VM.g_:=⟨_,Of,λι M H σ τ Q R S h=>ai.ok (b:=Option.none) h R rfl⟩
def O0{e:Expr}{m:VM.EM}(ha:SE X e m):SO X (some e) (VM.fi m):=by
 obtain⟨ta,pa,ka⟩:=ha;refine⟨_,Og pa,λι M H σ τ Q R S h=>?_⟩;refine ka ι M H σ τ _ R S (ai.seq h λaz H1 x M1 u p1 R1 r1 h1=>?_);cases x with
 |int i=>cases r1;exact⟨i,rfl,ai.ok (b:=some i) h1 R1 rfl⟩
 |_=>exact(h1:False).elim
def Fw{ι:List Addr}{xs:List VM.W}{vs:List V}(r:bB ι xs vs)(lo hi:Option Int):bB ι (VM.cut xs lo hi) (mx vs lo hi):=by
 have hl:=Paired.len r;unfold VM.cut mx;have e:∀n d o,HT.bg n d o=VM.bg n d o:=λn d o=>by cases o<;>rfl
 rw[e,e,<-hl];exact Paired.AQ _ (Paired.Gz _ r)
def Tb{a:Expr}{lo hi:Option Expr}{m:VM.EM}{l h:VM.PM}{p2 pos}(ha:SE X a m)(hl:SO X lo l)(hh:SO X hi h):SE X (.Subscript a (.Slice lo hi none p2) pos) (VM.f9 m l h):=by
 obtain⟨ta,pa,ka⟩:=ha;obtain⟨tl,pl,kl⟩:=hl;obtain⟨th,ph,kh⟩:=hh;refine⟨_,Mt (mK.or Oi Qs) pa pl ph,λι M H σ τ Q R S q=>?_⟩;refine ka ι M H σ τ _ R S (ai.seq q λaz H1 x M1 u p1 R1 r1 h1=>?_);refine kl az M1 H1 σ τ _ R1 (S.mono p1) (ai.seq h1 λaU H2 ky M2 ZJ p2 R2 r2 h2=>?_);refine kh aU M2 H2 σ τ _ R2 (S.mono (abt p1 p2)) (ai.seq h2 λcS H3 gS M3 ZK p3 R3 r3 h3=>?_);cases r2;cases r3;have rx:=(r1.mono p2).mono p3;have q':ai RV X.K cS (match VM.bz M3 x with|some xs=>VM.br (VM.cut xs ky gS) M3|none=>(match VM.cL M3 x with|some xs=>(if VM.bg xs.length 0 ky=0/\VM.bg xs.length xs.length gS=xs.length then .bad else VM.iH (VM.cut xs ky gS) M3)|none=>.bad)) Q:=h3;cases e:VM.bz M3 x with
 |some xs=>rw[e] at q';obtain⟨p,vs,rfl,hs,r⟩:=R3.bz e rx;exact .inl ⟨p,vs,rfl,hs,(ni R3 (Fw r ky gS) q').2⟩
 |none=>
  rw[e] at q';have q2:ai RV X.K cS (match VM.cL M3 x with|some xs=>(if VM.bg xs.length 0 ky=0/\VM.bg xs.length xs.length gS=xs.length then .bad else VM.iH (VM.cut xs ky gS) M3)|none=>.bad) Q:=q';cases e2:VM.cL M3 x with
  |none=>rw[e2] at q2;exact(q2:False).elim
  |some xs=>
   rw[e2] at q2;obtain⟨p,vs,rfl,hs,r⟩:=R3.cL e2 rx;have q3:ai RV X.K cS (if VM.bg xs.length 0 ky=0/\VM.bg xs.length xs.length gS=xs.length then .bad else VM.iH (VM.cut xs ky gS) M3) Q:=q2;by_cases hw:VM.bg xs.length 0 ky=0/\VM.bg xs.length xs.length gS=xs.length
   ·rw[aaN hw] at q3;exact(q3:False).elim
   ·rw[aaO hw] at q3;have hl:=Paired.len r;refine .inr ⟨p,vs,rfl,d0.of hs,?_,(Ea R3 (Fw r ky gS) q3).2⟩;have e3:∀n d o,HT.bg n d o=VM.bg n d o:=λn d o=>by cases o<;>rfl
    rw[e3,e3,<-hl];exact hw
end
section
variable{X:Cx}
def RV.iZ{ι:List Addr}{x:VM.W}{v:V}(r:RV ι x v):decide (v=.ao)=VM.iZ x:=by
 cases x with
 |ref a=>obtain⟨p,_,rfl⟩:=r;rfl
 |ao=>cases r;rfl
 |bl _=>cases r;rfl
 |int _=>cases r;rfl
 |str _=>cases r;rfl
def Q8{a:Expr}{m:VM.EM}{j p pos}(ha:SE X a m):SE X (.Compare a [.Is] [.Constant .none j p] pos) (VM.dQ m):=by obtain⟨ta,pa,ka⟩:=ha;refine⟨_,PV (FG pa),λι M H σ τ Q R S h=>?_⟩;refine ka ι M H σ τ _ R S (ai.seq h λaz H1 x M1 u p1 R1 r1 h1=>?_);show Q (.bl (decide (u=.ao))) H1;rw[r1.iZ];exact ai.ok (b:=V.bl _) h1 R1 rfl
def Ai{m:VM.EM}{ta:TE}{ι:List Addr}{M:VM.Mem}{H:Hp}{σ:VM.St}{τ:L2.St}{Q:Bool->Hp->Prop}(ka:∀ι M H σ τ Q,Rel X.K ι M H->bG ι σ τ->ai RV X.K ι (m σ M) Q->ta τ H Q)(R:Rel X.K ι M H)(S:bG ι σ τ)(h:ai rB X.K ι (VM.tB m σ M) Q):L2.tB ta τ H Q:=by
 refine ka ι M H σ τ _ R S (ai.seq h λaz H1 x M1 u p1 R1 r1 h1=>?_);cases x with
 |bl b=>cases r1;exact⟨b,rfl,ai.ok h1 R1 rfl⟩
 |_=>exact(h1:False).elim
def Q9{a:Expr}{m:VM.EM}{j p pos}(ha:SE X a m):gF X (.Compare a [.Is] [.Constant .none j p] pos) (VM.tB (VM.dQ m)):=by obtain⟨ta,pa,ka⟩:=ha;refine⟨_,FH (FG pa),λι M H σ τ Q R S h=>Ai (λι M H σ τ Q R S h=>?_) R S h⟩;refine ka ι M H σ τ _ R S (ai.seq h λaz H1 x M1 u p1 R1 r1 h1=>?_);show Q (.bl (decide (u=.ao))) H1;rw[r1.iZ];exact ai.ok (b:=V.bl _) h1 R1 rfl
def O1{a:Expr}{m:VM.EM}{j p pos}(ha:SE X a m):gF X (.Compare a [.IsNot] [.Constant .none j p] pos) (VM.tB (VM.mq m)):=by obtain⟨ta,pa,ka⟩:=ha;refine⟨_,FH (NX pa),λι M H σ τ Q R S h=>Ai (λι M H σ τ Q R S h=>?_) R S h⟩;refine ka ι M H σ τ _ R S (ai.seq h λaz H1 x M1 u p1 R1 r1 h1=>?_);show Q (.bl (!decide (u=.ao))) H1;rw[r1.iZ];exact ai.ok (b:=V.bl _) h1 R1 rfl
def Q_{e:Expr}{m:VM.EM}(ha:SE X e m)(he:∀whole,isTrue e X.env whole=(do let v<-whole;standAt e.pos;holding [v] (truthy v)):=by intro _;rfl):gF X e (VM.tB m):=by obtain⟨ta,pa,ka⟩:=ha;exact⟨_,PX pa he,λι M H σ τ Q R S h=>Ai ka R S h⟩
def O2{a:Expr}{m:VM.TM}{pos}(ha:gF X a m):SW X (.BoolOp .And [a] pos) m:=by obtain⟨ta,pa,ka⟩:=ha;exact⟨_,NY pa,ka⟩
def Ra{a:Expr}{m:VM.TM}{pos}(ha:gF X a m):SW X (.BoolOp .Or [a] pos) m:=by obtain⟨ta,pa,ka⟩:=ha;exact⟨_,PY pa,ka⟩
def Rb{a b:Expr}{rest:List Expr}{m n:VM.TM}{pos}(ha:gF X a m)(hb:SW X (.BoolOp .And (b::rest) pos) n):SW X (.BoolOp .And (a::b::rest) pos) (VM.eP m n):=by
 obtain⟨ta,pa,ka⟩:=ha;obtain⟨tb,pb,kb⟩:=hb;refine⟨_,PZ pa pb,λι M H σ τ Q R S h=>?_⟩;refine ka ι M H σ τ _ R S (ai.seq h λaz H1 x M1 u p1 R1 r1 h1=>?_);cases r1;cases x with
 |true=>exact kb az M1 H1 σ τ Q R1 (S.mono p1) h1
 |false=>exact ai.ok (b:=false) h1 R1 rfl
def Tc{a b:Expr}{rest:List Expr}{m n:VM.TM}{pos}(ha:gF X a m)(hb:SW X (.BoolOp .Or (b::rest) pos) n):SW X (.BoolOp .Or (a::b::rest) pos) (VM.bZ m n):=by
 obtain⟨ta,pa,ka⟩:=ha;obtain⟨tb,pb,kb⟩:=hb;refine⟨_,RU pa pb,λι M H σ τ Q R S h=>?_⟩;refine ka ι M H σ τ _ R S (ai.seq h λaz H1 x M1 u p1 R1 r1 h1=>?_);cases r1;cases x with
 |true=>exact ai.ok (b:=true) h1 R1 rfl
 |false=>exact kb az M1 H1 σ τ Q R1 (S.mono p1) h1
def O3{e:Expr}{m:VM.TM}(h:SW X e m):gF X e m:=by obtain⟨t,p,k⟩:=h;exact⟨t,p.pt,k⟩
def Rc{a:Expr}{m:VM.TM}{pos}(ha:gF X a m):gF X (.UnaryOp .Not a pos) (VM.b6 m):=by obtain⟨ta,pa,ka⟩:=ha;refine⟨_,P0 pa,λι M H σ τ Q R S h=>?_⟩;refine ka ι M H σ τ _ R S (ai.seq h λaz H1 x M1 u p1 R1 r1 h1=>?_);cases r1;exact ai.ok (b:=!x) h1 R1 rfl
def Rf{op}{a:Expr}{m:VM.EM}{pos}(ha:SE X a m):SE X (.BoolOp op [a] pos) m:=by obtain⟨ta,pa,ka⟩:=ha;exact⟨_,P1 pa,ka⟩
def Rg{a b:Expr}{rest:List Expr}{m n:VM.EM}{pos}(ha:SE X a m)(hb:SE X (.BoolOp .And (b::rest) pos) n):SE X (.BoolOp .And (a::b::rest) pos) (VM.dm m n):=by
 obtain⟨ta,pa,ka⟩:=ha;obtain⟨tb,pb,kb⟩:=hb;refine⟨_,P7 pa pb,λι M H σ τ Q R S h=>?_⟩;refine ka ι M H σ τ _ R S (ai.seq h λaz H1 x M1 u p1 R1 r1 h1=>?_);cases x with
 |bl c=>
  cases r1;refine⟨c,rfl,?_⟩;cases c with
  |true=>rw[aaN rfl];exact kb az M1 H1 σ τ Q R1 (S.mono p1) h1
  |false=>rw[aaO aa4];exact ai.ok (b:=V.bl false) h1 R1 rfl
 |_=>exact(h1:False).elim
def Rh{a:Expr}{m:VM.EM}{pos}(ha:SE X a m):SE X (.UnaryOp .Not a pos) (VM.mz m):=by
 obtain⟨ta,pa,ka⟩:=ha;refine⟨_,P9 pa,λι M H σ τ Q R S h=>?_⟩;refine ka ι M H σ τ _ R S (ai.seq h λaz H1 x M1 u p1 R1 r1 h1=>?_);cases x with
 |bl c=>cases r1;exact⟨c,rfl,ai.ok (b:=V.bl (!c)) h1 R1 rfl⟩
 |_=>exact(h1:False).elim
def Ri:SC X (.builtin "len") VM.bx:=by
 refine⟨_,JI,λι M H ws vs Q R r h=>?_⟩;cases r with
 |nil=>exact(h:False).elim
 |cons r1 t=>
  cases t with
  |cons _ _=>exact(h:False).elim
  |nil=>
   rename_i x v
   have q:ai RV X.K ι (match VM.bK M x with|some xs=>VM.R.ok (.int xs.length) M|none=>.bad) Q:=h;cases e:VM.bK M x with
   |none=>rw[e] at q;exact(q:False).elim
   |some xs=>rw[e] at q;obtain⟨p,us,rfl,hs,r2⟩:=R.bK e r1;exact⟨p,us,rfl,hs,by rw[<-Paired.len r2];exact ai.ok (b:=V.int _) q R rfl⟩
def O4:SC X (.type "list") VM.fT:=by
 refine⟨_,JJ,λι M H ws vs Q R r h=>?_⟩;cases r with
 |nil=>exact(h:False).elim
 |cons r1 t=>
  cases t with
  |cons _ _=>exact(h:False).elim
  |nil=>
   rename_i x v
   have q:ai RV X.K ι (match VM.bK M x with|some xs=>VM.br xs M|none=>.bad) Q:=h;cases e:VM.bK M x with
   |none=>rw[e] at q;exact(q:False).elim
   |some xs=>rw[e] at q;obtain⟨p,us,rfl,hs,r2⟩:=R.bK e r1;exact⟨p,us,rfl,hs,(ni R r2 q).2⟩
def Rj:SC X (.type "int") VM.gx:=by
 refine⟨_,K7,λι M H ws vs Q R r h=>?_⟩;cases r with
 |nil=>exact(h:False).elim
 |cons r1 t=>
  cases t with
  |cons _ _=>rename_i x _ _ _ _ _ _ _;cases x<;>exact(h:False).elim
  |nil=>
   rename_i x v
   cases x with
   |int i=>cases r1;exact .inl ⟨i,rfl,ai.ok (b:=V.int i) h R rfl⟩
   |bl b=>cases r1;exact .inr ⟨b,rfl,ai.ok (b:=V.int _) h R rfl⟩
   |_=>exact(h:False).elim
def EN{x:Str}{id:String}{f:VM.CM}{e:Expr}{es:List Expr}{a:VM.AM}{p pos:Pos}(hc:SC X (.builtin id) f)(hm:X.mg x=none)(ha:SA X (e::es) a)(hg:Gl X x:=by rfl)(hv:bootBuiltins x=some (.builtin id):=by rfl)(hn:x≠"__name__":=by decide+kernel)(bO:(x==("__debug__":Str))=false:=by decide+kernel)(he:starEach (e::es) X.env=(false,eval e X.env)::starEach es X.env:=by rfl)(bI:(backTo pos (starEach es X.env)).any (·.1)=false:=by rfl):SE X (.Call (.Name x p) (e::es) [] pos) (VM.ak f a):=by obtain⟨r,pc,kc⟩:=hc;obtain⟨ta,pa,ka⟩:=ha;refine⟨_,uB pc hg hm hv pa hn bO he bI,λι M H σ τ Q R S h=>?_⟩;exact ka ι M H σ τ _ R S (ai.seq h λaz H1 x M1 u p1 R1 r1 h1=>kc az M1 H1 x u Q R1 r1 h1)
def Eb{x:Str}{T:String}{f:VM.CM}{e:Expr}{es:List Expr}{a:VM.AM}{p pos:Pos}(hc:SC X (.type T) f)(hm:X.mg x=none)(ha:SA X (e::es) a)(hg:Gl X x:=by rfl)(hv:bootBuiltins x=some (.type T):=by rfl)(hn:x≠"__name__":=by decide+kernel)(bO:(x==("__debug__":Str))=false:=by decide+kernel)(he:starEach (e::es) X.env=(false,eval e X.env)::starEach es X.env:=by rfl)(bI:(backTo pos (starEach es X.env)).any (·.1)=false:=by rfl):SE X (.Call (.Name x p) (e::es) [] pos) (VM.ak f a):=by obtain⟨r,pc,kc⟩:=hc;obtain⟨ta,pa,ka⟩:=ha;refine⟨_,y_ pc hg hm hv pa hn bO he bI,λι M H σ τ Q R S h=>?_⟩;exact ka ι M H σ τ _ R S (ai.seq h λaz H1 x M1 u p1 R1 r1 h1=>kc az M1 H1 x u Q R1 r1 h1)
def oP(K:Fg)(n:Nat)(f:VM.CM):Sp:=λvs H Q _=>vs.length=n/\∃ι M ws,Rel K ι M H/\bB ι ws vs/\ai RV K ι (f ws M) Q
structure mY(P:Program)(w:World)(K:Fg)(mg:Str->Option Value)(base:Heap)(k:Nat)(x:Str)(f:Addr)(fd:FuncData)(ps:List Str)(c:VM.CM):Prop where
 ok:fo P w K mg base ik k f fd ps (oP K ps.length c)
 mg:mg x=some (.ref f)
 kp:PySem.W.keepIn K (.ref f)=true
 bi:Binds K fd ps []
 ln:∀ws M,ws.length≠ps.length->c ws M=.bad
def O5{x:Str}{k:Nat}{f:Addr}{fd:FuncData}{ps:List Str}{c:VM.CM}{e:Expr}{es:List Expr}{a:VM.AM}{p pos:Pos}(F:mY X.prog X.w X.K X.mg X.base k x f fd ps c)(hr:cq k X.A)(ha:SA X (e::es) a)(hg:Gl X x:=by rfl)(bO:(x==("__debug__":Str))=false:=by decide+kernel)(he:starEach (e::es) X.env=(false,eval e X.env)::starEach es X.env:=by rfl)(bI:(backTo pos (starEach es X.env)).any (·.1)=false:=by rfl):
 SE X (.Call (.Name x p) (e::es) [] pos) (VM.ak c a):=by
 obtain⟨ta,pa,ka⟩:=ha;refine⟨_,Ob F.ok hr hg F.mg F.kp F.bi .nil vy pa bO he bI,λι M H σ τ Q R S h=>?_⟩;refine ka ι M H σ τ _ R S (ai.seq h λaz H1 ws M1 vs p1 R1 r1 h1=>?_);show oP X.K ps.length c (vs++[]) H1 Q E0;rw[ab_];by_cases hw:ws.length=ps.length
 ·exact⟨by rw[<-Paired.len r1];exact hw,az,M1,ws,R1,r1,h1⟩
 ·rw[F.ln ws M1 hw] at h1;exact(h1:False).elim
end
section
variable{X:Cx}
def SM(X:Cx)(id:String)(f:VM.W->VM.CM):Prop:=∃r,j6 X id r/\∀ι M H x v ws vs Q,Rel X.K ι M H->RV ι x v->bB ι ws vs->ai RV X.K ι (f x ws M) Q->(∃p xs,v=.ref p/\cc X.K H p xs)/\r v vs H Q
def LO:SM X "list.append" VM.fI:=by
 refine⟨_,La,λι M H x v ws vs Q R rx r h=>?_⟩;cases r with
 |nil=>exact(h:False).elim
 |cons r1 t=>
  cases t with
  |cons _ _=>exact(h:False).elim
  |nil=>
   rename_i y u
   have q:ai RV X.K ι (match VM.cj M x with|some (a,xs)=>(if xs.length<VM.lim then .ok .ao (M.set a (.lst (xs++[y]))) else .bad)|none=>.bad) Q:=by
    unfold VM.fI at h;cases e:VM.cj M x with
    |none=>rw[e] at h;exact h
    |some z=>rw[e] at h;exact h
   cases e:VM.cj M x with
   |none=>rw[e] at q;exact(q:False).elim
   |some z=>
    obtain⟨a,xs⟩:=z;rw[e] at q;have q2:ai RV X.K ι (if xs.length<VM.lim then .ok .ao (M.set a (.lst (xs++[y]))) else .bad) Q:=q;obtain⟨p,us,rfl,hp,hm,rfl,h1,r2⟩:=R.cj e rx;by_cases hl:xs.length<VM.lim
    ·rw[aaN hl] at q2;refine⟨⟨p,us,rfl,cc.of h1⟩,p,us,u,rfl,rfl,h1,by rw[<-Paired.len r2];exact hl,?_⟩;exact ai.ok (b:=V.ao) q2 (R.set hp hm (Paired.app r2 (.cons r1 .nil))) rfl
    ·rw[aaO hl] at q2;exact(q2:False).elim
def Kg(la:Addr)(xa:Array Value)(k:Nat)(tb:Addr)(ya:Array Value)(j:Nat)(dd:Option Addr)(sl:Array (Option Value))(h0:¬(!xa.isEmpty&&Builtin.List.listTooLong (xa.size+ya.size))=true)(h1:xa.size<=sizeLine)(h2:xa.size+ya.size<=sizeLine+1):
 Meets (Builtin.«list.extend» ⟨[.ref la,.ref tb],[]⟩) (λ_ R s=>
  s.heap.get? la=some {cls:=.type "list",dict:=none,data:=.seq xa k,slots:= #[]}/\
  s.heap.get? tb=some {cls:=.type "tuple",dict:=dd,data:=.seq ya j,slots:=sl}/\
  R (.ok (.ret Value.none)) {s with heap:=s.heap.update la (Obj.mapSeq λx=>x++ya),toks:=s.toks}):=
 .of_wp λprog w A R s q=>by
  obtain⟨hp,gg,d,tk,os⟩:=s;obtain⟨ql,qb,q⟩:=q;have f1:=AutoSeq1.idx_int;have f2:=AutoSeq1.sub_tuple_tuple;have f3:=AutoSeq1.sub_list_list;have f4:=AutoSeq1.sub_tuple_list;have f5:=AutoSeq1.sub_list_tuple;have Wr:(xa++ya).size<=sizeLine+1:=by rw[Array.size_append];exact h2
  wp_walk using(wpAny_updateSeq ql rfl (hz:=h1) (_hz':=Wr)),wpAny_loadPart' ql,wpAny_loadPart' qb
  exact⟨_,rfl,q⟩
def MW:V->List V->Hp->VK->Prop:=λx vs H Q=>∃l b xs zs,x=.ref l/\vs=[.ref b]/\H l=some (.lst xs)/\H b=some (.tup zs)/\xs.length+zs.length<=sizeLine/\Q .ao (upd H l (.lst (xs++zs)))
def KN:j6 X "list.extend" MW:=by
 intro pins s σ H x vs v us Q I rx rv h;obtain⟨l,b,xs,zs,rfl,rfl,hH,hB,hz,q⟩:=h;cases rx;obtain⟨u,rfl,ru⟩:=rv.one;cases ru;obtain⟨z,au,n,r,hl,e⟩:=I.my hH;obtain⟨z2,cP,r2,o,ho,nR,n2,hd⟩:=I.aE b _ hB;have tw:=r2.length;obtain⟨cl,dd,dt,sl⟩:=o;simp only at nR hd;subst nR hd;have hsz:au.toArray.size+cP.toArray.size<=sizeLine:=by rw[aa6,aa6];omega
 have AJ:¬(!au.toArray.isEmpty&&Builtin.List.listTooLong (au.toArray.size+cP.toArray.size))=true:=by rw[El hsz,abO];exact aa4
 refine acG adB ⟨_,e,rfl⟩ F.entry_list_extend (F.args_list_extend_2 _ _) (Kg l au.toArray n b cP.toArray n2 dd sl AJ (by rw[aa6];omega) (by omega)) ⟨e,ho,?_⟩;refine⟨.ao,_,I.vL (its':=au++cP) hH e (by simp) (r.append r2) ?_,rfl,q⟩;rw[abb];omega
def Rel.litOf{K:Fg}{ι:List Addr}{M:VM.Mem}{H:Hp}(R:Rel K ι M H){w:VM.W}{xs:List VM.W}{v:V}(e:VM.litOf M w=some xs)(r:RV ι w v):∃p vs,v=.ref p/\(H p=some (.lst vs)\/H p=some (.tup vs))/\bB ι xs vs:=by
 cases w with
 |ref a=>
  obtain⟨p,hp,rfl⟩:=r;simp only[VM.litOf] at e;cases hm:M[a]? with
  |none=>rw[hm] at e;cases e
  |some o=>
   rw[hm] at e;have ro:=R.obj a p o hp hm;cases o with
   |lst ys=>cases e;obtain⟨vs,h1,h2⟩:=ro;exact⟨p,vs,rfl,.inl h1,h2⟩
   |tup ys=>cases e;obtain⟨vs,h1,h2⟩:=ro;exact⟨p,vs,rfl,.inr h1,h2⟩
   |bf ys=>cases e
   |aI ys=>cases e
   |ins c ys=>cases e
   |d8 x=>cases e
   |a6 g x=>cases e
   |cw=>cases e
   |dr c=>cases e
 |ao=>cases e
 |bl _=>cases e
 |int _=>cases e
 |str _=>cases e
def LP:SM X "list.extend" VM.nv:=by
 refine⟨_,j6.or Lb KN,λι M H x v ws vs Q R rx r h=>?_⟩;cases r with
 |nil=>exact(h:False).elim
 |cons r1 t=>
  cases t with
  |cons _ _=>exact(h:False).elim
  |nil=>
   rename_i y u
   have q:ai RV X.K ι (match VM.cj M x,VM.litOf M y with|some (a,xs),some ys=>(if xs.length+ys.length<=VM.lim then .ok .ao (M.set a (.lst (xs++ys))) else .bad)|_,_=>.bad) Q:=h;cases e:VM.cj M x with
   |none=>rw[e] at q;exact(q:False).elim
   |some z=>
    cases e2:VM.litOf M y with
    |none=>rw[e,e2] at q;exact(q:False).elim
    |some ys=>
     obtain⟨a,xs⟩:=z;rw[e,e2] at q;have q2:ai RV X.K ι (if xs.length+ys.length<=VM.lim then .ok .ao (M.set a (.lst (xs++ys))) else .bad) Q:=q;obtain⟨p,us,rfl,hp,hm,rfl,h1,r2⟩:=R.cj e rx;obtain⟨p2,CJ,rfl,kB,IK⟩:=R.litOf e2 r1;by_cases hl:xs.length+ys.length<=VM.lim
     ·rw[aaN hl] at q2;have fin:=ai.ok (b:=V.ao) q2 (R.set hp hm (Paired.app r2 IK)) rfl;have hlen:us.length+CJ.length<=sizeLine:=by rw[<-Paired.len r2,<-Paired.len IK];exact hl
      refine⟨⟨p,us,rfl,cc.of h1⟩,?_⟩;rcases kB with kB|kB
      ·exact .inl ⟨p,p2,us,CJ,rfl,rfl,h1,kB,hlen,fin⟩
      ·exact .inr ⟨p,p2,us,CJ,rfl,rfl,h1,kB,hlen,fin⟩
     ·rw[aaO hl] at q2;exact(q2:False).elim
def Rk:SM X "list.pop" VM.mB:=by
 refine⟨_,Qx,λι M H x v ws vs Q R rx r h=>?_⟩;cases r with
 |cons _ _=>exact(h:False).elim
 |nil=>
  have q:ai RV X.K ι (match VM.cj M x with|some (a,xs)=>(match xs[xs.length-1]? with|some y=>.ok y (M.set a (.lst xs.dropLast))|none=>.bad)|none=>.bad) Q:=by
   unfold VM.mB at h;cases e:VM.cj M x with
   |none=>rw[e] at h;exact h
   |some z=>rw[e] at h;exact h
  cases e:VM.cj M x with
  |none=>rw[e] at q;exact(q:False).elim
  |some z=>
   obtain⟨a,xs⟩:=z;rw[e] at q;have q2:ai RV X.K ι (match xs[xs.length-1]? with|some y=>.ok y (M.set a (.lst xs.dropLast))|none=>.bad) Q:=q;obtain⟨p,us,rfl,hp,hm,rfl,h1,r2⟩:=R.cj e rx;cases e3:xs[xs.length-1]? with
   |none=>rw[e3] at q2;exact(q2:False).elim
   |some y=>rw[e3] at q2;obtain⟨v,hv,rv⟩:=Paired.at r2 e3;refine⟨⟨p,us,rfl,cc.of h1⟩,p,us,v,rfl,rfl,h1,by rw[<-Paired.len r2];exact hv,?_⟩;exact ai.ok q2 (R.set hp hm (Paired.LI r2)) rv
def MX{o:Expr}{name:Str}{id:String}{f:VM.W->VM.CM}{m:VM.EM}{apos a9:Pos}(slot:Slot "list" name id)(oo:typeOf (.builtin id)=pure (.type "method_descriptor"))(hm:SM X id f)(ho:SE X o m)(nH:attributeBase o name X.env (eval o X.env)=eval o X.env:=by rfl)(nI:(apos.endLine==a9.line)=true:=by rfl):SE X (.Call (.Attribute o name apos) [] [] a9) (VM.b_ f m VM.ag):=by
 obtain⟨r,pm,km⟩:=hm;obtain⟨ta,pa,ka⟩:=ho;refine⟨_,Qw aeh slot oo pm pa nH nI,λι M H σ τ Q R S h=>?_⟩;refine ka ι M H σ τ _ R S (ai.seq h λaz H1 x M1 u p1 R1 r1 h1=>?_);have fB:ai RV X.K az (match VM.bz M1 x with|some _=>f x [] M1|none=>.bad) Q:=by
  cases el:VM.bz M1 x with
  |none=>rw[el] at h1;exact h1
  |some xs=>rw[el] at h1;exact h1
 cases el:VM.bz M1 x with
 |none=>rw[el] at fB;exact(fB:False).elim
 |some xs=>rw[el] at fB;obtain⟨⟨p,xs,e,hs⟩,q⟩:=km az M1 H1 x u [] [] Q R1 r1 .nil fB;subst e;exact⟨.inl ⟨rfl,xs,hs⟩,q⟩
def Aj{o e:Expr}{es:List Expr}{name:Str}{id:String}{f:VM.W->VM.CM}{m:VM.EM}{a:VM.AM}{apos a9:Pos}(slot:Slot "list" name id)(oo:typeOf (.builtin id)=pure (.type "method_descriptor"))(hm:SM X id f)(ho:SE X o m)(ha:SA X (e::es) a)(nH:attributeBase o name X.env (eval o X.env)=eval o X.env:=by rfl)(A5:((backTo a9 (starEach (e::es) X.env)).all (λx=>!x.1)&&(backToKw a9 (keywordEach [] X.env)).all (λx=>x.1.isSome)
  &&decide ((e::es).length+([]:List Keyword).length+(if([]:List Keyword).isEmpty then 0 else 1)<30))=true:=by rfl)
 (nI:(apos.endLine==a9.line)=true:=by rfl) (hs:starEach (e::es) X.env=(false,eval e X.env)::starEach es X.env:=by rfl) (Ar:(backTo a9 (starEach es X.env)).any (·.1)=false:=by rfl):
 SE X (.Call (.Attribute o name apos) (e::es) [] a9) (VM.b_ f m a):=by
 obtain⟨r,pm,km⟩:=hm;obtain⟨ta,pa,ka⟩:=ho;obtain⟨tb,pb,kb⟩:=ha;refine⟨_,Sq aeh slot oo pm pa pb nH A5 nI hs Ar,λι M H σ τ Q R S h=>?_⟩;refine ka ι M H σ τ _ R S (ai.seq h λaz H1 x M1 u p1 R1 r1 h1=>?_);have fB:ai RV X.K az (match VM.bz M1 x with|some _=>(a σ M1).bind λvs M2=>f x vs M2|none=>.bad) Q:=h1;cases el:VM.bz M1 x with
 |none=>rw[el] at fB;exact(fB:False).elim
 |some xs=>rw[el] at fB;obtain⟨p,us,e0,Ws,_⟩:=R1.bz el r1;subst e0;refine⟨.inl ⟨rfl,us,Ws⟩,kb az M1 H1 σ τ _ R1 (S.mono p1) (ai.seq fB λaU H2 ws M2 vs p2 R2 r2 h2=>?_)⟩;exact(km aU M2 H2 x _ ws vs Q R2 (r1.mono p2) r2 h2).2
def O6{i:Nat}{x:Str}{pos}(hN:X.N.Nodup)(hi:X.N[i]? =some x:=by rfl)(hx:Loc X.env.scope x:=by first|exact Or.inl rfl|exact Or.inr rfl)(hf:X.fn x=true\/X.env.scope.names.lookup x=some .local:=by first|exact .inl rfl|exact .inr rfl|assumption):SG X (.Name x pos) (VM.ar i):=by refine⟨_,EY hN hi hx hf,λι M H σ τ w v Q R S r h=>?_⟩;exact ai.ok h R (Paired.kR (F:=jb ι) (x:=some w) (y:=some v) ⟨v,rfl,r⟩ i S)
def O7:xm X [] []:=by
 refine⟨rfl,_,N5,λι M H σ τ ws vs Q R S r h=>?_⟩;cases r with
 |nil=>exact⟨rfl,ai.ok h R S⟩
 |cons _ _=>exact(h:False).elim
def MY{t:Expr}{ts:List Expr}{g:VM.GM}{gs:List VM.GM}(h1:SG X t g)(h2:xm X ts gs)(hs:(assignEach (t::ts) X.env).map (·.2)=assign t X.env::(assignEach ts X.env).map (·.2):=by rfl):xm X (t::ts) (g::gs):=by
 obtain⟨t1,p1,k1⟩:=h1;obtain⟨hl,t2,p2,k2⟩:=h2;refine⟨by simp[hl],_,Ml p1 p2 hs,λι M H σ τ ws vs Q R S r h=>?_⟩;cases r with
 |nil=>exact(h:False).elim
 |cons r1 r2=>
  rename_i w v ws vs
  refine⟨v,vs,rfl,k1 ι M H σ τ w v _ R S r1 (ai.seq h λaz H1 bj M1 tR q1 R1 S1 h1=>?_)⟩;exact k2 az M1 H1 bj tR ws vs Q R1 S1 (bB.mono q1 r2) h1
def Rl{es:List Expr}{k:Nat}{gs:List VM.GM}{pos}(hc:X.calm=true)(h:xm X es gs)(hn:(assignEach es X.env).length=es.length:=by rfl)(bq:(assignEach es X.env).findIdx? (·.1)=none:=by rfl):SG X (.Tuple es k pos) (VM.fm gs):=by
 obtain⟨hl,t2,p2,k2⟩:=h;refine⟨_,Qc hc p2 hn bq,λι M H σ τ w v Q R S r h=>?_⟩;unfold VM.fm at h;cases e:VM.cL M w with
 |none=>rw[e] at h;exact(h:False).elim
 |some xs=>
  rw[e] at h;have h':ai bG X.K ι (if xs.length=gs.length then VM.jU gs xs σ M else .bad) Q:=h;by_cases hx:xs.length=gs.length
  ·rw[aaN hx] at h';obtain⟨p,vs,rfl,hs,r2⟩:=R.cL e r;exact⟨p,vs,rfl,d0.of hs,by rw[<-Paired.len r2,hx,hl],k2 ι M H σ τ xs vs Q R S r2 h'⟩
  ·rw[aaO hx] at h';exact(h':False).elim
def Rm{o i:Expr}{m n:VM.EM}{pos}(ho:SE X o m)(hi:SE X i n)(ha:∀v,assign (.Subscript o i pos) X.env v=(do
  let ov<-holding [v] (eval o X.env)
  let iv<-holding [v,ov] (eval i X.env)
  standAt pos
  holding [v,ov,iv] (setItem ov iv v)
  release [v,ov,iv] []):=by intro _;rfl):SG X (.Subscript o i pos) (VM.eQ m n):=by
 obtain⟨t1,p1,k1⟩:=ho;obtain⟨t2,p2,k2⟩:=hi;refine⟨_,Qd p1 p2 set_list ha,λι M H σ τ w v Q R S r h=>?_⟩;refine k1 ι M H σ τ _ R S (ai.seq h λaz H1 x M1 u q1 R1 r1 h1=>?_);refine k2 az M1 H1 σ τ _ R1 (S.mono q1) (ai.seq h1 λaU H2 y M2 u2 q2 R2 r2 h2=>?_);cases y with
 |int k=>
  cases r2;have h3:ai bG X.K aU (match VM.cj M2 x with|some (a,xs)=>(match VM.cK xs.length k with|some j=>.ok σ (M2.set a (.lst (xs.set j w)))|none=>.bad)|none=>.bad) Q:=by
   cases e:VM.cj M2 x with
   |none=>rw[e] at h2;exact h2
   |some z=>rw[e] at h2;exact h2
  cases e:VM.cj M2 x with
  |none=>rw[e] at h3;exact(h3:False).elim
  |some z=>
   obtain⟨a,xs⟩:=z;rw[e] at h3;have h4:ai bG X.K aU (match VM.cK xs.length k with|some j=>.ok σ (M2.set a (.lst (xs.set j w)))|none=>.bad) Q:=h3;obtain⟨p,us,rfl,hp,hm,rfl,h5,r5⟩:=R2.cj e (r1.mono q2);cases ej:VM.cK xs.length k with
   |none=>rw[ej] at h4;exact(h4:False).elim
   |some j=>rw[ej] at h4;refine⟨p,us,k,j,rfl,rfl,h5,by rw[<-Paired.len r5];exact ej,?_⟩;exact ai.ok h4 (R2.set hp hm (Paired.kR (RV.mono q2 (RV.mono q1 r)) j r5)) (S.mono (abt q1 q2))
 |_=>exact(h2:False).elim
def bc.Ux{K:Fg}{ι:List Addr}{r:VM.RS}{f:VM.St->VM.Mem->VM.RS}{D:Ends}{N:L2.St->Hp->Prop}(h:bc K ι (r.andThen f) D)(k:∀aw H' aA M' cf,ι<+:aw->Rel K aw M' H'->bG aw aA cf->bc K aw (f aA M') D->N cf H'):bc K ι r {D with nx:=N}:=by
 cases r with
 |nx σ M=>exactλaw H' cf p R S=>k aw H' σ M cf p R S (bc.mono p h)
 |rt w M=>exact h
 |bk σ M=>exact h
 |ct σ M=>exact h
 |ex _ _=>exact h
 |bad=>exact h
def O8:gU X [] VM.aV:=⟨_,EX,λι M H σ τ D R S h=>h ι H τ d9 R S⟩
def O9{st:Stmt}{m:VM.SM}(h:SS X st m):gU X [st] m:=by obtain⟨t,p,k⟩:=h;exact⟨t,zX p,k⟩
def MZ{st:Stmt}{rest:List Stmt}{m n:VM.SM}(h:SS X st m)(hr:gU X rest n):gU X (st::rest) (VM.aj m n):=by obtain⟨t,p,k⟩:=h;obtain⟨u,q,l⟩:=hr;refine⟨_,zu p q,λι M H σ τ D R S h=>?_⟩;exact k ι M H σ τ _ R S (bc.Ux h λaz H1 bj M1 tR p1 R1 S1 h1=>l az M1 H1 bj tR D R1 S1 h1)
def Rn{tg e:Expr}{m:VM.EM}{g:VM.GM}{pos}(he:SE X e m)(hg:SG X tg g)(hs:swapsWithSole [tg] e pos.line X.env=pure false:=by rfl)(hw:swappedStores [tg] e X.env=pure none:=by rfl)(h1:(assignEach [tg] X.env).map (·.2)=[assign tg X.env]:=by rfl):SS X (.Assign [tg] e pos) (VM.aG m g):=by obtain⟨t,p,k⟩:=he;obtain⟨u,q,l⟩:=hg;refine⟨_,Qe p q hs hw h1,λι M H σ τ D R S h=>?_⟩;refine k ι M H σ τ _ R S (bc.seq h λaz H1 x M1 v p1 R1 r1 h1=>?_);exact l az M1 H1 σ τ x v D.nx R1 (S.mono p1) r1 (bc.seq h1 λaU H2 bS M2 xn p2 R2 S2 h2=>h2 aU H2 xn d9 R2 S2)
def Ro{i:Nat}{x:Str}{e:Expr}{m:VM.EM}{pos pos'}(hN:X.N.Nodup)(he:SE X e m)(hi:X.N[i]? =some x:=by rfl)(hx:Loc X.env.scope x:=by first|exact Or.inl rfl|exact Or.inr rfl)(hs:swapsWith e (some (.Name x pos')) pos.line X.env=pure false:=by rfl)(hf:X.fn x=true\/X.env.scope.names.lookup x=some .local:=by first|exact .inl rfl|exact .inr rfl|assumption):SS X (.Assign [.Name x pos'] e pos) (VM.aG m (VM.ar i)):=by obtain⟨t,p,k⟩:=he;refine⟨_,Qf hN hi hx p hs hf,λι M H σ τ D R S h=>?_⟩;refine k ι M H σ τ _ R S (bc.seq h λaz H1 w M1 v p1 R1 r1 h1=>?_);exact h1 az H1 _ d9 R1 (Paired.kR (F:=jb az) (x:=some w) (y:=some v) ⟨v,rfl,r1⟩ i (S.mono p1))
def O_{e:Expr}{m:VM.EM}{pos}(he:SE X e m)(hs:swapsWith e none pos.line X.env=pure false:=by rfl):SS X (.Expr e pos) (VM.cH m):=by obtain⟨t,p,k⟩:=he;refine⟨_,NZ p hs,λι M H σ τ D R S h=>?_⟩;exact k ι M H σ τ _ R S (bc.seq h λaz H1 x M1 v p1 R1 r1 h1=>h1 az H1 τ d9 R1 (S.mono p1))
def Rp{e:Expr}{m:VM.EM}{pos}(he:SE X e m):SS X (.Return (some e) pos) (VM.aH m):=by obtain⟨t,p,k⟩:=he;refine⟨_,Qa p,λι M H σ τ D R S h=>?_⟩;exact k ι M H σ τ _ R S (bc.seq h λaz H1 x M1 v p1 R1 r1 h1=>h1 az H1 v d9 R1 r1)
def M_{pos}:SS X (.Break pos) VM.BC:=⟨_,Mi,λι M H σ τ D R S h=>h ι H τ d9 R S⟩
def Na{st:Stmt}:SS X st VM.sL:=⟨_,Mj,λι M H σ τ D R S h=>h⟩
def Td{c:Expr}{a b:List Stmt}{t:VM.TM}{m n:VM.SM}{pos}(hc:gF X c t)(ha:gU X a m)(hb:gU X b n):SS X (.If c a b pos) (VM.aN t m n):=by
 obtain⟨tc,pc,kc⟩:=hc;obtain⟨ta,pa,ka⟩:=ha;obtain⟨tb,pb,kb⟩:=hb;refine⟨_,Gh pc pa pb,λι M H σ τ D R S h=>?_⟩;refine kc ι M H σ τ _ R S (bc.seq h λaz H1 x M1 u p1 R1 r1 h1=>?_);cases r1;cases x with
 |true=>rw[aaN rfl];exact ka az M1 H1 σ τ D R1 (S.mono p1) h1
 |false=>rw[aaO aa4];exact kb az M1 H1 σ τ D R1 (S.mono p1) h1
def Nb{n:Nat}{c:Expr}{body:List Stmt}{t:VM.TM}{m:VM.SM}{pos}(hp:PassesOwn (model X.prog X.w) X.A X.env X.xe)(hc:gF X c t)(hb:gU X body m):SS X (.While c body [] pos) (VM.As n t m):=by
 obtain⟨tc,pc,kc⟩:=hc;obtain⟨tb,pb,kb⟩:=hb;refine⟨_,Mm hp pc pb,λι M H σ τ D R S h=>?_⟩;refine⟨λk τ H=>∃ι M σ,Rel X.K ι M H/\bG ι σ τ/\bc X.K ι (VM.fJ t m k σ M) D,⟨n,ι,M,σ,R,S,h⟩,?_⟩;rintro k τ H ⟨ι,M,σ,R,S,h⟩;cases k with
 |zero=>exact(h:False).elim
 |succ k=>
  refine kc ι M H σ τ _ R S (bc.seq h λaz H1 x M1 u p1 R1 r1 h1=>?_);cases r1;cases x with
  |false=>rw[aaO aa4];exact h1 az H1 τ d9 R1 (S.mono p1)
  |true=>
   rw[aaN rfl];refine⟨λcf H'=>∃ι M σ,Rel X.K ι M H'/\bG ι σ cf/\bc X.K ι (VM.fJ t m k σ M) D,λcf H' q=>⟨k,adv _,q⟩,?_⟩;refine kb az M1 H1 σ τ _ R1 (S.mono p1) ?_;have h2:bc X.K az (match m σ M1 with
    |.nx bS M3=>VM.fJ t m k bS M3
    |.ct bS M3=>VM.fJ t m k bS M3
    |.bk bS M3=>.nx bS M3
    |.rt v M3=>.rt v M3
    |.ex v M3=>.ex v M3
    |.bad=>.bad) D:=h1
   cases e:m σ M1 with
   |nx bS M3=>rw[e] at h2;exactλaU H2 xn p2 R2 S2=>⟨aU,M3,bS,R2,S2,bc.mono p2 h2⟩
   |ct bS M3=>rw[e] at h2;exactλaU H2 xn p2 R2 S2=>⟨aU,M3,bS,R2,S2,bc.mono p2 h2⟩
   |bk bS M3=>rw[e] at h2;exact h2
   |rt v M3=>rw[e] at h2;exact h2
   |ex v M3=>rw[e] at h2;exact h2
   |bad=>rw[e] at h2;exact h2
end
structure jq(K:Fg)(ι:List Addr)(J:It)(aQ:List VM.Src)(bE:VM.b7):Prop where
 go:∀i aw M H x,ι<+:aw->Rel K aw M H->bE.ok M=true->aQ[i]? =some x->J.go i H
 n_:∀i aw M H x v H',ι<+:aw->Rel K aw M H->bE.ok M=true->aQ[i]? =some x->J.n_ i H v H'->∃aU w M2,aw<+:aU/\x.get M=.ok w M2/\Rel K aU M2 H'/\RV aU w v
 stop:∀i aw M H,ι<+:aw->Rel K aw M H->bE.ok M=true->aQ.length<=i->J.stop i H
abbrev rI(K:Fg):List Addr->(List VM.Src×VM.b7)->It->Prop:=λι a J=>jq K ι J a.1 a.2
def SI(X:Cx)(tg iter:Expr)(m:VM.IM):Prop:=∃wi,PI X tg iter wi/\∀ι M H σ τ Q,Rel X.K ι M H->bG ι σ τ->ai (rI X.K) X.K ι (m σ M) Q->wi τ H Q
section
variable{X:Cx}{tg:Expr}
def vW{a:Nat}{o:VM.O}{M:VM.Mem}(h:VM.b7.ok [(a,o)] M=true):M[a]? =some o:=by simpa[VM.b7.ok] using h
def uY{xs:List VM.W}{i:Nat}{x:VM.Src}(h:(xs.map VM.Src.val)[i]? =some x):∃w,xs[i]? =some w/\x=.val w:=by
 rw[abS] at h;cases e:xs[i]? with
 |none=>rw[e] at h;cases h
 |some w=>rw[e] at h;exact⟨w,rfl,(aa2 h).symm⟩
def F2{K:Fg}{ι:List Addr}{a:Nat}{p:Addr}{o:VM.O}{xs:List VM.W}(hp:ι[a]? =some p)(ho:o=.lst xs\/o=.bf xs):jq K ι (Bq K p) (xs.map .val) [(a,o)]:=by
 have look:∀{aw M H},ι<+:aw->Rel K aw M H->VM.b7.ok [(a,o)] M=true->∃vs,cc K H p vs/\bB aw xs vs:=λ{aw M H} q R hc=>by
  have hm:=vW hc;have ro:=R.obj a p o (gZ q hp) hm;rcases ho with rfl|rfl
  ·obtain⟨vs,h1,h2⟩:=ro;exact⟨vs,cc.of h1,h2⟩
  ·obtain⟨vs,h1,h2⟩:=ro;exact⟨vs,h1.sq,h2⟩
 refine⟨λi aw M H x q R hc hx=>?_,λi aw M H x v H' q R hc hx y=>?_,λi aw M H q R hc hi=>?_⟩
 ·obtain⟨vs,h1,h2⟩:=look q R hc;obtain⟨w,hw,rfl⟩:=uY hx;obtain⟨v,hv,_⟩:=Paired.at h2 hw;exact⟨vs,v,h1,hv⟩
 ·obtain⟨vs,h1,h2⟩:=look q R hc;obtain⟨w,hw,rfl⟩:=uY hx;obtain⟨rfl,y⟩:=y;obtain⟨v',hv,rv⟩:=Paired.at h2 hw;have e:=y vs h1;rw[hv] at e;cases e;exact⟨aw,w,M,d9,rfl,R,rv⟩
 ·obtain⟨vs,h1,h2⟩:=look q R hc;exact⟨vs,h1,by rw[<-Paired.len h2];simpa using hi⟩
def Rq{K:Fg}{ι:List Addr}{a:Nat}{p:Addr}{xs:List VM.W}(hp:ι[a]? =some p):jq K ι (Br K p) (xs.map .val) [(a,.tup xs)]:=by
 have look:∀{aw M H},ι<+:aw->Rel K aw M H->VM.b7.ok [(a,.tup xs)] M=true->∃vs,d0 K H p vs/\bB aw xs vs:=λ{aw M H} q R hc=>by have hm:=vW hc;obtain⟨vs,h1,h2⟩:=R.obj a p _ (gZ q hp) hm;exact⟨vs,d0.of h1,h2⟩
 refine⟨λi aw M H x q R hc hx=>?_,λi aw M H x v H' q R hc hx y=>?_,λi aw M H q R hc hi=>?_⟩
 ·obtain⟨vs,h1,h2⟩:=look q R hc;obtain⟨w,hw,rfl⟩:=uY hx;obtain⟨v,hv,_⟩:=Paired.at h2 hw;exact⟨vs,v,h1,hv⟩
 ·obtain⟨vs,h1,h2⟩:=look q R hc;obtain⟨w,hw,rfl⟩:=uY hx;obtain⟨rfl,y⟩:=y;obtain⟨v',hv,rv⟩:=Paired.at h2 hw;have e:=y vs h1;rw[hv] at e;cases e;exact⟨aw,w,M,d9,rfl,R,rv⟩
 ·obtain⟨vs,h1,h2⟩:=look q R hc;exact⟨vs,h1,by rw[<-Paired.len h2];simpa using hi⟩
def F3{K:Fg}{ι:List Addr}(lo:Int)(n:Nat):jq K ι (tq lo n) (VM.cJ lo n) []:=by
 have hl:(VM.cJ lo n).length=n:=by simp[VM.cJ]
 have look:∀{i:Nat} {x:VM.Src},(VM.cJ lo n)[i]? =some x->i<n/\x=.val (.int (lo+(i:Int))):=λ{i x} h=>by
  have hi:i<n:=by rw[<-hl];exact(aaZ.mp h).1
  unfold VM.cJ at h;rw[abS,List.getElem?_range hi] at h;exact⟨hi,(aa2 h).symm⟩
 refine⟨λi aw M H x q R hc hx=>(look hx).1,λi aw M H x v H' q R hc hx y=>?_,λi aw M H q R hc hi=>by rw[hl] at hi;exact hi⟩;obtain⟨rfl,rfl⟩:=y;obtain⟨_,rfl⟩:=look hx;exact⟨aw,.int (lo+i),M,d9,rfl,R,rfl⟩
def Te{iter:Expr}{w1 w2:TI}(h1:PI X tg iter w1)(h2:PI X tg iter w2):PI X tg iter (λσ H R=>w1 σ H R\/w2 σ H R):=by
 intro pins s σ H R I q;rcases q with q|q
 ·exact h1 pins s σ H R I q
 ·exact h2 pins s σ H R I q
end
section
variable{X:Cx}{tg:Expr}
def Rr{e:Expr}{m:VM.EM}(he:SE X e m):SI X tg e (VM.bF m):=by
 obtain⟨t,p,k⟩:=he;refine⟨_,Te (N6 p) (Qh p),λι M H σ τ Q R S h=>?_⟩;unfold VM.bF at h;cases em:m σ M with
 |ok x M1=>
  rw[em] at h;cases x with
  |ref a=>
   have h2:ai (rI X.K) X.K ι (match M1[a]? with|some (.lst xs)=>.ok (xs.map .val,[(a,.lst xs)]) M1|some (.bf xs)=>.ok (xs.map .val,[(a,.bf xs)]) M1|some (.tup xs)=>.ok (xs.map .val,[(a,.tup xs)]) M1|_=>.bad) Q:=h;cases e:M1[a]? with
   |none=>rw[e] at h2;exact(h2:False).elim
   |some o=>
    rw[e] at h2;cases o with
    |lst xs=>refine .inl (k ι M H σ τ _ R S ?_);rw[em];intro az H1 u p1 R1 r1;obtain⟨q,hq,rfl⟩:=r1;obtain⟨vs,hv,rv⟩:=R1.obj a q _ hq e;exact⟨q,rfl,⟨vs,cc.of hv⟩,h2 az H1 _ p1 R1 (F2 hq (.inl rfl))⟩
    |bf xs=>refine .inl (k ι M H σ τ _ R S ?_);rw[em];intro az H1 u p1 R1 r1;obtain⟨q,hq,rfl⟩:=r1;obtain⟨vs,hv,rv⟩:=R1.obj a q _ hq e;exact⟨q,rfl,⟨vs,hv.sq⟩,h2 az H1 _ p1 R1 (F2 hq (.inr rfl))⟩
    |tup xs=>refine .inr (k ι M H σ τ _ R S ?_);rw[em];intro az H1 u p1 R1 r1;obtain⟨q,hq,rfl⟩:=r1;obtain⟨vs,hv,rv⟩:=R1.obj a q _ hq e;exact⟨q,rfl,⟨vs,d0.of hv⟩,h2 az H1 _ p1 R1 (Rq hq)⟩
    |aI xs=>exact(h2:False).elim
    |ins c xs=>exact(h2:False).elim
    |d8 x=>exact(h2:False).elim
    |a6 g x=>exact(h2:False).elim
    |cw=>exact(h2:False).elim
    |dr c=>exact(h2:False).elim
  |_=>exact(h:False).elim
 |ex _ _=>rw[em] at h;exact(h:False).elim
 |bad=>rw[em] at h;exact(h:False).elim
def Pa{e:Expr}{m:VM.EM}{p pos:Pos}(hm:X.mg "range"=none)(he:SE X e m)(hg:Gl X "range":=by rfl)(hs:starEach [e] X.env=[(false,eval e X.env)]:=by rfl):SI X tg (.Call (.Name "range" p) [e] [] pos) (VM.cg m):=by
 obtain⟨t,pe,k⟩:=he;refine⟨_,K5 hg hm (gh pe jh hs) hs,λι M H σ τ Q R S h=>?_⟩;refine k ι M H σ τ _ R S (ai.seq h λaz H1 x M1 u p1 R1 r1 h1=>?_);cases x with
 |int j=>
  cases r1;have h2:ai (rI X.K) X.K az (if j.natAbs<VM.bJ then .ok (VM.cJ 0 j.toNat,[]) M1 else .bad) Q:=h1;by_cases hc:j.natAbs<VM.bJ
  ·rw[aaN hc] at h2;exact⟨j,rfl,by unfold VM.bJ at hc;omega,by unfold VM.bJ at hc;omega,ai.ok h2 R1 (F3 0 j.toNat)⟩
  ·rw[aaO hc] at h2;exact(h2:False).elim
 |_=>exact(h1:False).elim
def Pb{e f:Expr}{m n:VM.EM}{p pos:Pos}(hm:X.mg "range"=none)(he:SE X e m)(hf:SE X f n)(hg:Gl X "range":=by rfl)(hs:starEach [e,f] X.env=[(false,eval e X.env),(false,eval f X.env)]:=by rfl)(kZ:starEach [f] X.env=[(false,eval f X.env)]:=by rfl):SI X tg (.Call (.Name "range" p) [e,f] [] pos) (VM.dM m n):=by
 obtain⟨t,pe,k⟩:=he;obtain⟨u,pf,l⟩:=hf;refine⟨_,K6 hg hm (gh pe (gh pf jh kZ) (hs.trans (by rw[kZ]))) hs kZ,λι M H σ τ Q R S h=>?_⟩;refine k ι M H σ τ _ R S (ai.seq h λaz H1 x M1 u p1 R1 r1 h1=>?_);refine l az M1 H1 σ τ _ R1 (S.mono p1) (ai.seq h1 λaU H2 y M2 v p2 R2 r2 h2=>?_);have rx:=r1.mono p2;cases x with
 |int i=>
  cases y with
  |int j=>
   cases rx;cases r2;have h3:ai (rI X.K) X.K aU (if i.natAbs<VM.bJ/\j.natAbs<VM.bJ then .ok (VM.cJ i (j-i).toNat,[]) M2 else .bad) Q:=h2;by_cases hc:i.natAbs<VM.bJ/\j.natAbs<VM.bJ
   ·rw[aaN hc] at h3;exact⟨i,j,rfl,by unfold VM.bJ at hc;omega,ai.ok h3 R2 (F3 i (j-i).toNat)⟩
   ·rw[aaO hc] at h3;exact(h3:False).elim
  |_=>exact(h2:False).elim
 |_=>cases y<;>exact(h2:False).elim
def Ec{tS:TG}{tb:TS}{g:VM.GM}{m:VM.SM}(kg:∀ι M H σ τ w v Q,Rel X.K ι M H->bG ι σ τ->RV ι w v->ai bG X.K ι (g w σ M) Q->tS v τ H Q)(kb:∀ι M H σ τ D,Rel X.K ι M H->bG ι σ τ->bc X.K ι (m σ M) D->tb D τ H){az:List Addr}{M1:VM.Mem}{H1:Hp}{σ:VM.St}{τ:L2.St}{J:It}{aQ:List VM.Src}{bE:VM.b7}{D:Ends}(R1:Rel X.K az M1 H1)(S1:bG az σ τ)(J1:jq X.K az J aQ bE)(h1:bc X.K az (VM.loop bE g m aQ σ M1) D):
 ∃W:Nat->Nat->L2.St->Hp->Prop,(∃m,W 0 m τ H1)/\∀i m σ H,W i m σ H->(J.stop i H/\D.nx σ H)\/(J.go i H/\∃N:L2.St->Hp->Prop,(∀aA H',N aA H'->∃m',m'<m/\W (i+1) m' aA H')/\∀x H',J.n_ i H x H'->tS x σ H' λbS H2=>tb {D with nx:=N,ct:=N,bk:=D.nx} bS H2):=by
 refine⟨λi k τ H=>i<=aQ.length/\k=aQ.length-i/\∃aw M σ,az<+:aw/\Rel X.K aw M H/\bG aw σ τ/\bc X.K aw (VM.loop bE g m (aQ.drop i) σ M) D,
  ⟨aQ.length,abV _,rfl,az,M1,σ,d9,R1,S1,h1⟩,?_⟩
 rintro i k τ H ⟨hi,rfl,aw,M,σ,q,R,S,h⟩;by_cases dG:i<aQ.length
 ·have ex:aQ[i]? =some aQ[i]:=by simp[dG]
  rw[adg dG] at h;have h':bc X.K aw (if bE.ok M=true then (aQ[i].get M).cz λv M1=>(g v σ M1).cz λbj M2=>match m bj M2 with
    |.nx bS M3=>VM.loop bE g m (aQ.drop (i+1)) bS M3
    |.ct bS M3=>VM.loop bE g m (aQ.drop (i+1)) bS M3
    |.bk bS M3=>.nx bS M3
    |.rt v M3=>.rt v M3
    |.ex v M3=>.ex v M3
    |.bad=>.bad
   else .bad) D:=h
  by_cases eL:bE.ok M=true
  ·rw[aaN eL] at h';refine .inr ⟨J1.go i aw M H _ q R eL ex,λcf H'=>∃aU M σ,az<+:aU/\Rel X.K aU M H'/\bG aU σ cf/\bc X.K aU (VM.loop bE g m (aQ.drop (i+1)) σ M) D,λcf H' z=>⟨aQ.length-(i+1),by omega,dG,rfl,z⟩,λv H' y=>?_⟩;obtain⟨aU,w,M2,q2,eg,R2,rv⟩:=J1.n_ i aw M H _ v H' q R eL ex y;rw[eg] at h';have h2:bc X.K aU ((g w σ M2).cz λbj M2=>match m bj M2 with
    |.nx bS M3=>VM.loop bE g m (aQ.drop (i+1)) bS M3
    |.ct bS M3=>VM.loop bE g m (aQ.drop (i+1)) bS M3
    |.bk bS M3=>.nx bS M3
    |.rt v M3=>.rt v M3
    |.ex v M3=>.ex v M3
    |.bad=>.bad) D:=bc.mono q2 h'
   refine kg aU M2 H' σ τ w v _ R2 (S.mono q2) rv (bc.seq h2 λcS H3 cY M3 jG q3 R3 S3 h3=>?_);refine kb cS M3 H3 cY jG _ R3 S3 ?_;have IL:az<+:cS:=abt q (abt q2 q3);cases e:m cY M3 with
   |nx qT M4=>rw[e] at h3;have tT:bc X.K cS (VM.loop bE g m (aQ.drop (i+1)) qT M4) D:=h3;exactλgG H4 Wt q4 R4 S4=>⟨gG,M4,qT,abt IL q4,R4,S4,bc.mono q4 tT⟩
   |ct qT M4=>rw[e] at h3;have tT:bc X.K cS (VM.loop bE g m (aQ.drop (i+1)) qT M4) D:=h3;exactλgG H4 Wt q4 R4 S4=>⟨gG,M4,qT,abt IL q4,R4,S4,bc.mono q4 tT⟩
   |bk qT M4=>rw[e] at h3;exact h3
   |rt v M4=>rw[e] at h3;exact h3
   |ex v M4=>rw[e] at h3;exact h3
   |bad=>rw[e] at h3;exact h3
  ·rw[aaO eL] at h';exact(h':False).elim
 ·have hz:i=aQ.length:=by omega
  subst hz;rw[adf] at h;have h':bc X.K aw (if bE.ok M=true then .nx σ M else .bad) D:=h;by_cases eL:bE.ok M=true
  ·rw[aaN eL] at h';exact .inl ⟨J1.stop _ aw M H q R eL (aaY _),h' aw H τ d9 R S⟩
  ·rw[aaO eL] at h';exact(h':False).elim
def Rt{iter:Expr}{body:List Stmt}{mi:VM.IM}{g:VM.GM}{m:VM.SM}{pos}(hp:PassesOwn (model X.prog X.w) X.A X.env X.xe)(hc:X.calm=true)(hi:SI X tg iter mi)(hg:SG X tg g)(hb:gU X body m)(hs:∀x,foldedSetIterable iter X.env x=pure x:=by intro _;rfl):SS X (.For tg iter body [] pos) (VM.bH mi g m):=by obtain⟨wi,pi,ki⟩:=hi;obtain⟨tS,pg,kg⟩:=hg;obtain⟨tb,pb,kb⟩:=hb;refine⟨_,FI hp hc pi pg pb hs,λι M H σ τ D R S h=>?_⟩;refine ki ι M H σ τ _ R S (bc.seq h λaz H1 pr M1 J p1 R1 J1 h1=>?_);obtain⟨aQ,bE⟩:=pr;exact Ec kg kb R1 (S.mono p1) J1 h1
end
open PySem PySem.Spec PyProof.Rows L2
theorem JW{prog:Program}{w:World}{A:Around}{R:Result->Shared->Prop}{s:Shared}{elt target iter:Expr}{ifs:List Expr}{scope:Scope}{pos:Pos}{it acc:Value}{env:Env}(I:Nat->Shared->Prop)(turn:∀n s,I n s->wpAny (model prog w) A (pyNext it) (λr bD=>match r with
  |none=>R (.ok .next) bD
  |some v=>wpAny (model prog w) A (letOwnedTupleGo target it v) (λ_ GB=>wpAny (model prog w) A (assign target env v) (λ_ dy=>
   wpAny (model prog w) A (forIn ifs true λc r=>if r=true then do let ok<-isTrue c env (eval c env);pure (ForInStep.yield ok) else pure (ForInStep.yield r)) (λok gv=>
    if ok=true then wpAny (model prog w) A (eval elt env) (λx vX=>wpAny (model prog w) A (call (.builtin "list.append") [acc,x]) (λ_ Hi=>∃m,m<n/\I m Hi) (notedBy (model prog w) A env λe s'=>R (.error e) s') vX) (notedBy (model prog w) A env λe s'=>R (.error e) s') gv
    else∃m,m<n/\I m gv) (notedBy (model prog w) A env λe s'=>R (.error e) s') dy) (notedBy (model prog w) A env λe s'=>R (.error e) s') GB) (notedBy (model prog w) A env λe s'=>R (.error e) s') bD) (notedBy (model prog w) A env λe s'=>R (.error e) s') s)
 (n:Nat) (h:I n s):
 codeAny (model prog w) A (.compLoop (.ListComp elt [⟨target,iter,ifs,0⟩] scope pos) 0 it acc env) R s:=by
 refine codeAny_loop rfl I (λn s hI=>?_) n h;show wpAny _ A ((compTurn (.ListComp elt [⟨target,iter,ifs,0⟩] scope pos) 0 it acc env).onRaise (λx=>do noteFrame x env;theTreesLotGoes x)) _ _ s;refine wpAny_noted ?_;rw[compTurn_list];refine aaS (wpAny_standAt (aaS (abh (turn n s hI) (λr bD jn=>?_) λ_ _ h'=>h')));cases r with
 |none=>exact aa5 jn
 |some v=>
  refine aaS (abh jn (λ_ GB Tf=>?_) λ_ _ h'=>h');refine aaS (abh Tf (λ_ dy sI=>aaS (abh sI (λok gv vO=>?_) λ_ _ h'=>h')) λ_ _ h'=>h');cases ok with
  |false=>exact aa5 ⟨rfl,vO⟩
  |true=>exact aaS (aaS (abh vO (λx vX Uy=>aaS (abh Uy (λ_ Hi Uz=>aa5 (aa5 ⟨rfl,Uz⟩)) λ_ _ h'=>h')) λ_ _ h'=>h'))
def UA(ifs:List Expr)(env:Env):Sem Bool:=forIn ifs true λc r=>if r=true then do let ok<-isTrue c env (eval c env);pure (ForInStep.yield ok) else pure (ForInStep.yield r)
def kT(X:Cx)(ifs:List Expr)(m:VM.TM):Prop:=∃te:TT,(∀(pins:List (Addr×Obj)) (s:Shared) (σ:L2.St) (H:Hp) (Q:Bool->Hp->Prop),Inv X pins σ H s->te σ H Q->wpAny (model X.prog X.w) X.A (UA ifs X.env) (TP X pins σ Q) X.xe s)/\
 ∀ι M H σ τ Q,Rel X.K ι M H->bG ι σ τ->ai rB X.K ι (m σ M) Q->te τ H Q
def Nc{X:Cx}:kT X [] VM.dD:=by refine⟨λ_ H Q=>Q true H,λpins s σ H Q I h=>?_,λι M H σ τ Q R S h=>ai.ok (b:=true) h R rfl⟩;exact aa5 ⟨H,I,h⟩
def Nd{X:Cx}{c:Expr}{m:VM.TM}(h:gF X c m):kT X [c] m:=by obtain⟨t,p,k⟩:=h;exact⟨t,λpins s σ H Q I h=>wpAny_tests_one (p pins s σ H Q I h),k⟩
def dY(X:Cx)(N:List Str)(scope:Scope)(cl:List (Str×Addr))(C:Addr)(dy:Shared)(UB:Hp)(fp:List Addr):Cx:=
 {X with N:=N,dw:=dy,qh:=UB,env:=compEnvC scope cl C X.env,outer:=X.stack,stack:=X.stack,ex:=fp,fn:=λ_=>false,pn:=[],xe:=λ_ _=>False}
def cA(cells:List (Str×Addr)):List (Str×NameKind)->List (Str×Addr)->List (Str×Addr)
 |[],acc=>acc
 |(n,k)::r,acc=>if k==.free then(match cells.lookup n with|some c=>cA cells r ((n,c)::acc)|none=>cA cells r acc) else cA cells r acc
def freeOk(env:Env):List (Str×NameKind)->Bool
 |[]=>true
 |(n,k)::r=>(!(k==.free)||((env.cells.lookup n).isSome&&(env.kindOf n==some .cell||env.kindOf n==some .free)))&&freeOk env r
def Ed(cells:List (Str×Addr))(n:Str)(k:NameKind)(r:List (Str×NameKind))(acc:List (Str×Addr)):cA cells ((n,k)::r) acc=if k==.free then(match cells.lookup n with|some c=>cA cells r ((n,c)::acc)|none=>cA cells r acc) else cA cells r acc:=rfl
theorem yX{env:Env}:∀(names:List (Str×NameKind)) (acc:List (Str×Addr)),freeOk env names=true-> (forIn (m:=Sem) names acc λ(x:Str×NameKind) (cs:List (Str×Addr))=>if x.2==.free then do let a<-cellOf env x.1;pure (ForInStep.yield ((x.1,a)::cs)) else pure (ForInStep.yield cs))=pure (cA env.cells names acc)
 |[],acc,_=>by simp[cA]
 |(n,k)::r,acc,h=>by
  unfold freeOk at h;rw[aaT] at h;rw[List.forIn_cons];by_cases hk:(k==NameKind.free)=true
  ·have hc:=h.1;rw[hk] at hc;simp only[acA,ab4,aaT] at hc;cases e:env.cells.lookup n with
   |none=>rw[e] at hc;exact absurd hc.1 (by simp)
   |some c=>
    have ih:=yX r ((n,c)::acc) h.2;simp only[hk,aaW];have ec:cellOf env n=pure c:=by unfold cellOf;rw[e]
    rw[ec];show(forIn (m:=Sem) r ((n,c)::acc) _)=_;rw[ih];rw[Ed,aaN hk,e]
  ·have ih:=yX r acc h.2;have oG:(k==NameKind.free)=false:=by simpa using hk
   simp only[oG,abi,aa_];show(forIn (m:=Sem) r acc _)=_;rw[ih];rw[Ed,aaO hk]
def yH{scope:Scope}{env:Env}(h:freeOk env scope.names=true):closureFor scope env=pure (cA env.cells scope.names []):=by unfold closureFor;have e:=yX (env:=env) scope.names [] h;simp only[bind_pure];exact e
theorem pR{cells:List (Str×Addr)}:∀(names:List (Str×NameKind)) (acc:List (Str×Addr)) {x:Str} {c:Addr},(∀y d,(y,d)∈acc->cells.lookup y=some d)->(x,c)∈cA cells names acc->cells.lookup x=some c
 |[],acc,x,c,h,e=>h x c e
 |(n,k)::r,acc,x,c,h,e=>by
  unfold cA at e;by_cases hk:(k==NameKind.free)=true
  ·rw[aaN hk] at e;cases q:cells.lookup n with
   |none=>rw[q] at e;exact pR r acc h e
   |some d=>
    rw[q] at e;refine pR r ((n,d)::acc) (λy d' hy=>?_) e;rcases aaX.mp hy with z|z
    ·cases z;exact q
    ·exact h y d' z
  ·rw[aaO hk] at e;exact pR r acc h e
theorem uj{cells:List (Str×Addr)}:∀(names:List (Str×NameKind)) (acc:List (Str×Addr)) {p:Str×Addr},p∈acc->p∈cA cells names acc
 |[],acc,p,h=>h
 |(n,k)::r,acc,p,h=>by
  unfold cA;split
  ·split
   ·exact uj r _ (abo _ h)
   ·exact uj r _ h
  ·exact uj r _ h
theorem r6{cells:List (Str×Addr)}:∀(names:List (Str×NameKind)) (acc:List (Str×Addr)) {x:Str} {c:Addr},(x,NameKind.free)∈names->cells.lookup x=some c->(x,c)∈cA cells names acc
 |[],acc,x,c,h,e=>by simp at h
 |(n,k)::r,acc,x,c,h,e=>by
  unfold cA;rcases aaX.mp h with z|z
  ·cases z;rw[aaN (by rfl),e];exact uj r _ abL
  ·split
   ·split
    ·exact r6 r _ z e
    ·exact r6 r _ z e
   ·exact r6 r _ z e
theorem yz{α:Type}:∀{l:List (Str×α)} {x:Str} {c:α},(x,c)∈l->∃d,l.lookup x=some d
 |[],x,c,h=>by simp at h
 |(n,d)::r,x,c,h=>by
  rw[acB];cases hx:x==n with
  |true=>exact⟨d,rfl⟩
  |false=>
   rcases aaX.mp h with z|z
   ·cases z;simp at hx
   ·exact yz z
theorem Dj{env:Env}:∀{names:List (Str×NameKind)} {x:Str} {k:NameKind},(∀y∈names,y.2≠.cell)-> (names.map λ(n,k)=>if(k==NameKind.free&&env.scope.kind==.function&&env.kindOf n==some .cell) then(n,NameKind.cell) else(n,k)).lookup x=some k->k=.cell\/k=.free->(x,NameKind.free)∈names
 |[],x,k,_,h,_=>by simp at h
 |(n,k0)::r,x,k,hc,h,hk=>by
  have ih:=@Dj env r x k (λy hy=>hc y (abo _ hy));rw[aa8] at h;by_cases hb:(k0==NameKind.free&&env.scope.kind==.function&&env.kindOf n==some .cell)=true
  ·have e0:k0=.free:=by rw[aaT,aaT] at hb;exact abA.mp hb.1.1
   subst e0;have e1:(match((n,NameKind.free):Str×NameKind) with|(n,k)=>if(k==NameKind.free&&env.scope.kind==.function&&env.kindOf n==some .cell) then(n,NameKind.cell) else(n,k))=(n,NameKind.cell):=aaN hb;rw[e1,acB] at h;cases hx:x==n with
   |true=>rw[abA.mp hx];exact abL
   |false=>rw[hx] at h;exact abo _ (ih h hk)
  ·have e1:(match((n,k0):Str×NameKind) with|(n,k)=>if(k==NameKind.free&&env.scope.kind==.function&&env.kindOf n==some .cell) then(n,NameKind.cell) else(n,k))=(n,k0):=aaO hb;rw[e1,acB] at h;cases hx:x==n with
   |true=>
    rw[hx] at h;have e2:k0=k:=aa2 h;subst e2;rcases hk with z|z
    ·exact absurd z (hc (n,k0) abL)
    ·subst z;rw[abA.mp hx];exact abL
   |false=>rw[hx] at h;exact abo _ (ih h hk)
theorem yY{env:Env}:∀{names:List (Str×NameKind)} {x:Str},freeOk env names=true->(x,NameKind.free)∈names->(∃c,env.cells.lookup x=some c)/\(env.kindOf x=some .cell\/env.kindOf x=some .free)
 |[],x,_,h=>by simp at h
 |(n,k)::r,x,h,hm=>by
  unfold freeOk at h;rw[aaT] at h;rcases aaX.mp hm with z|z
  ·cases z;have h1:=h.1;simp only[acK,acA,ab4,aaT,acm] at h1;obtain⟨a,b⟩:=h1;refine⟨ad1.mp a,?_⟩;rcases b with b|b
   ·exact .inl (abA.mp b)
   ·exact .inr (abA.mp b)
  ·exact yY h.2 z
def qu(cl:List Nat)(τ:L2.St):L2.St:=cl.foldl (λτ j=>τ.set j none) τ
theorem Fx{ι:List Addr}:∀(cl:List Nat) {σ:VM.St} {τ:L2.St},bG ι σ τ->bG ι (VM.du cl σ) (qu cl τ)
 |[],_,_,h=>h
 |j::r,_,_,h=>Fx r (Paired.kR (F:=jb ι) (x:=none) (y:=none) trivial j h)
theorem EO:∀(cl:List Nat) (τ:L2.St),(qu cl τ).length=τ.length
 |[],_=>rfl
 |j::r,τ=>by show(qu r (τ.set j none)).length=_;rw[EO r,abN]
theorem ER:∀(cl:List Nat) (τ:L2.St) {i:Nat} {v:V},(qu cl τ)[i]? =some (some v)->i∉cl/\τ[i]? =some (some v)
 |[],_,i,v,h=>⟨by simp,h⟩
 |j::r,τ,i,v,h=>by
  obtain⟨h1,h2⟩:=ER r (τ.set j none) h;by_cases hj:i=j
  ·subst hj;by_cases hl:i<τ.length
   ·rw[abr hl] at h2;cases h2
   ·rw[ac4 (by rw[abN];omega)] at h2;cases h2
  ·rw[abe (abc hj)] at h2;exact⟨by simp[h1,hj],h2⟩
theorem Fy{ι:List Addr}:∀k:Nat,bG ι (List.replicate k none) (List.replicate k none)
 |0=>.nil
 |k+1=>.cons trivial (Fy k)
structure lT(X:Cx)(N:List Str)(k:Nat)(cl:List Nat)(scope:Scope):Prop where
 len:N.length=X.N.length+k
 pre:∀i,i<X.N.length->N[i]? =X.N[i]?
 free:freeOk X.env scope.names=true
 cell:∀y∈scope.names,y.2≠.cell
 kind:scope.kind=.function
 names:∀y∈scope.names,y.2=.local->scope.names.lookup y.1=some .local
 own:∀i x,N[i]? =some x->(relabel scope X.env).names.lookup x=some .local->i∈cl\/X.N.length<=i
def LQ{X:Cx}{N:List Str}{k:Nat}{cl:List Nat}{scope:Scope}{pins:List (Addr×Obj)}{τ:L2.St}{H:Hp}{s s4:Shared}{fp:List Addr}{C D:Addr}{oD:Obj}{mC:Str->Option Value}(B:lT X N k cl scope)(I:Inv X pins τ H s)(gH:∀b∈fp,jW X pins H b)(qU:∀b∈fp,b<s.heap.objs.size)(old:∀b o,s.heap.get? b=some o->s4.heap.get? b=some o)(oj:s4.os=s.os)(Tg:AllBare s4.gens)(hC:s.heap.objs.size<=C)(hD:s.heap.objs.size<=D)(oQ:D≠C)(hn:s4.heap.Ns C mC)(CK:s4.heap.get? D=some oD)(Wu:∀v,oD.data≠.cell v):
 Inv (dY X N scope (cA X.env.cells scope.names []) C s H fp) [(D,oD)] (qu cl (τ++List.replicate k none)) H s4:=by
 have sub:∀x c,(cA X.env.cells scope.names []).lookup x=some c->X.env.cells.lookup x=some c:=λx c e=>pR scope.names [] (λy d hy=>by simp at hy) (acg e)
 have lU:∀x kk,(relabel scope X.env).names.lookup x=some kk->kk=.cell\/kk=.free->(x,NameKind.free)∈scope.names:=λx kk h hk=>Dj B.cell h hk
 have UC:∀b∈dg X.stack,b<s.heap.objs.size:=λb hb=>by obtain⟨_,o,ho,_⟩:=I.stack.mem hb;exact aa3 ho
 refine⟨⟨I.ok.mod,B.kind,I.ok.glob,I.ok.blt,hC,λx y c h1 h2=>I.ok.inj x y c (sub x c h1) (sub y c h2),λx hx=>?_,λx c h _=>absurd (show false=true from h) (by decide),I.ok.hd,I.ok.frames,.inl rfl,λb hb=>⟨?_,λx c h=>?_⟩,I.bs,aa1 I.ok.j3 I.sz,λb o e hb=>?_,λb hb lH=>?_,I.stack,I.zV⟩,
  oj,Tg,Un.kept old,⟨mC,hn,λi x v h1 h2 h3=>?_⟩,λx c h=>?_,I.aE.fresh hC,λx c h=>I.gn x c (sub x c h),λp hp=>?_,I.aE.kept old,?_⟩
 ·have Wv:(relabel scope X.env).names.lookup x=some .cell\/(relabel scope X.env).names.lookup x=some .free:=hx;have hm:(x,NameKind.free)∈scope.names:=by
   rcases Wv with z|z
   ·exact lU x _ z (.inl rfl)
   ·exact lU x _ z (.inr rfl)
  obtain⟨⟨c,hc⟩,_⟩:=yY B.free hm;exact yz (r6 scope.names [] hm hc)
 ·exact abn (aa9 (qU b hb) hC)
 ·exact(gH b hb).2.2.2.2.1 x c (sub x c h)
 ·rcases(gH b hb).2.2.2.1 with z|z
  ·exact I.ok.eB b o e z
  ·exact absurd (aa9 (aa3 (I.ok.bs b o e).1) z) (abI _)
 ·rcases aaX.mp (I.u3 b lH) with z|z
  ·exact(gH b hb).2.1 z
  ·exact(gH b hb).2.2.1 z
 ·obtain⟨UD,h2⟩:=ER cl _ h2;have hi:i<τ.length:=by
   by_cases hi:i<τ.length
   ·exact hi
   ·rw[abW (acP hi),ad2] at h2;split at h2<;>cases h2
  rw[abM hi] at h2;have Ww:i<X.N.length:=by rw[<-I.len];exact hi
  have fB:X.N[i]? =some x:=by rw[<-B.pre i Ww];exact h1
  have tT:(relabel scope X.env).names.lookup x=some .local\/(relabel scope X.env).names.lookup x=some .cell\/(relabel scope X.env).names.lookup x=some .free:=h3;have Wx:∃kk,(relabel scope X.env).names.lookup x=some kk/\(kk=.cell\/kk=.free):=by
   rcases tT with z|z|z
   ·rcases B.own i x h1 z with q|q
    ·exact absurd q UD
    ·omega
   ·exact⟨_,z,.inl rfl⟩
   ·exact⟨_,z,.inr rfl⟩
  obtain⟨kk,wK,eJ⟩:=Wx;have hm:=lU x kk wK eJ;obtain⟨⟨c,hc⟩,vw⟩:=yY B.free hm;obtain⟨m,_,hl⟩:=I.loc;obtain⟨u,ru,lk⟩:=hl i x v fB h2 (by rcases vw with z|z;exact .inr (.inl z);exact .inr (.inr z));refine⟨u,ru,.inr ⟨by rcases eJ with z|z<;>subst z;exact .inl wK;exact .inr wK,?_⟩⟩;obtain⟨d,hd⟩:=yz (r6 scope.names [] hm hc);have ed:=sub x d hd;rcases lk with⟨q,_⟩|⟨_,c',aL,vq⟩
  ·rcases vw with z|z
   ·rw[z] at q;cases q
   ·rw[z] at q;cases q
  ·rw[aL] at ed;cases ed;refine⟨d,hd,?_⟩;obtain⟨o,ho,gJ⟩:=vq;exact⟨o,old _ o ho,gJ⟩
 ·obtain⟨v,o,ho,gJ⟩:=I.cell x c (sub x c h);exact⟨v,o,old _ o ho,gJ⟩
 ·have oR:p∈([]:List (Addr×Obj))++[(D,oD)]:=hp;have e:p=(D,oD):=by simpa using oR
  subst e;refine⟨CK,I.aE.fresh hD,oQ,λhb=>?_,Wu⟩;exact absurd (aa9 (UC D hb) hD) (abI _)
 ·show(qu cl (τ++List.replicate k none)).length=N.length;rw[EO,abb,ady,I.len,B.len]
def Pc{X:Cx}{N:List Str}{scope:Scope}{cells:List (Str×Addr)}{pins qg:List (Addr×Obj)}{τ Wy:L2.St}{H2 H:Hp}{s2 s':Shared}{fp:List Addr}{C D:Addr}{oC:Obj}{au:List Value}{vs:List V}{n:Nat}(I2:Inv X pins τ H2 s2)(gH:∀b∈fp,jW X pins H2 b)(Ic:Inv (dY X N scope cells C s2 H2 fp) qg Wy H s')(hC:s2.heap.objs.size<=C)(hD:s2.heap.objs.size<=D)(oQ:D≠C)(Wz:H D=none)(CK:s'.heap.get? D=some {cls:=.type "list",data:=.seq au.toArray n})(r:Vals vs au)(hz:vs.length<=sizeLine)(WA:s'.heap.get? C=some oC)(WB:∀v,oC.data≠.cell v):
 Inv X (pins++[(C,oC)]) τ (upd H D (.lst vs)) s':=by
 have tU:∀{b:Addr} {u:HO},H b=some u->b≠D:=λe=>eZ e Wz
 have u0:Un (dg X.stack) fp H2 H s2.heap s'.heap:=Ic.base;have WC:H C=none:=Ic.free;have u:Un (dg X.stack) fp H2 (upd H D (.lst vs)) s2.heap s'.heap:=⟨u0.keep,u0.slot,λb o e n' hx=>by rw[ba (abn (aa9 (aa3 e) hD))];exact u0.free b o e n' hx,u0.there,
  λb xs e=>by have e':=u0.fX b xs e;rw[ba (tU e')];exact e',λb o w e=>by have e':=u0.gp b o w e;rw[ba (tU e')];exact e',λb ps e=>by obtain⟨m,e'⟩:=u0.hV b ps e;exact⟨m,by rw[ba (tU e')];exact e'⟩⟩
 have aE:cC X.prog X.w (upd H D (.lst vs)) s'.heap:=λa o e=>by
  by_cases ha:a=D
  ·subst ha;rw[dA] at e;cases e;exact⟨hz,au,n,r,CK⟩
  ·rw[ba ha] at e;exact(Ic.aE a o e).hU (λb w _ q=>q) (λb q=>by rw[ba (tU q)];exact q) λb xs q=>by rw[ba (tU q)];exact q
 have I':Inv X pins τ (upd H D (.lst vs)) s':=I2.Gg (ch:=fp) Ic.os u aE Ic.bare λb hb=>⟨(gH b hb).2.2.2.1,(gH b hb).2.1,(gH b hb).2.2.2.2.1,(gH b hb).2.2.2.2.2⟩
 refine I'.r_ λp hp=>?_
 rcases acd.mp hp with z|z
 ·exact I'.pin p (abp _ z)
 ·have e:p=(C,oC):=by simpa using z
  subst e;exact⟨WA,by rw[ba (abc oQ)];exact WC,Nat.ne_of_gt (aa9 I2.lt hC),I2.GL hC,WB⟩
def zR{X:Cx}{pins:List (Addr×Obj)}{τ cf:L2.St}{H2 H:Hp}{s2 s':Shared}{C:Addr}{oC:Obj}{h':Heap}(I2:Inv X pins τ H2 s2)(hC:s2.heap.objs.size<=C)(I:Inv X (pins++[(C,oC)]) cf H s')(hs:Heap.SameBut C s'.heap h'):Inv X pins cf H {s' with heap:=h'}:=by
 obtain⟨_,e2,e3,_,_⟩:=I.pin (C,oC) (abp _ (abp _ (by simp)));refine Inv.turned (t':=s'.toks) (it:=C) I.rT (λb o hb e=>hs.extBut b o hb e) e2 e3 (.inr (aa1 I2.sz hC)) (λx c e z=>?_) λp hp z=>?_
 ·obtain⟨v,q⟩:=I2.cell x c e;exact absurd (aa9 q.lt (by rw[z];exact hC)) (abI _)
 ·exact absurd (aa9 (aa3 (I2.pin p hp).1) (by rw[z];exact hC)) (abI _)
def bind_assoc{α β γ:Type}(r:VM.R α)(f:α->VM.Mem->VM.R β)(h:β->VM.Mem->VM.R γ):(r.bind f).bind h=r.bind λa M=>(f a M).bind h:=by cases r<;>rfl
def LR(bE:VM.b7)(g:VM.GM)(t:VM.TM)(m:VM.EM)(x:VM.Src)(r:List VM.Src)(σ:VM.St)(M:VM.Mem)(ws:List VM.W)(h:bE.ok M=true): (VM.comp bE g t m (x::r) σ M ws).bind VM.br=(x.get M).bind λv M1=>(g v σ M1).bind λbj M2=>(t bj M2).bind λb M3=>if b then(m bj M3).bind λy M4=>(VM.comp bE g t m r bj M4 (ws++[y])).bind VM.br else(VM.comp bE g t m r bj M3 ws).bind VM.br:=by
 rw[VM.comp,aaN h,bind_assoc];congr 1;funext v M1;rw[bind_assoc];congr 1;funext bj M2;rw[bind_assoc];congr 1;funext b M3;cases b
 ·rfl
 ·exact bind_assoc _ _ _
theorem zS{bE:VM.b7}{g:VM.GM}{t:VM.TM}{m:VM.EM}:∀{aQ:List VM.Src} {σ:VM.St} {M:VM.Mem} {ws r:List VM.W} {M':VM.Mem},VM.comp bE g t m aQ σ M ws=.ok r M'->ws.length<=r.length
 |[],σ,M,ws,r,M',h=>by
  rw[VM.comp] at h;split at h
  ·cases h;exact aaY _
  ·cases h
 |x::rest,σ,M,ws,r,M',h=>by
  rw[VM.comp] at h;split at h
  ·cases e1:x.get M with
   |ok v M1=>
    rw[e1] at h;cases e2:g v σ M1 with
    |ok bj M2=>
     simp only[VM.R.bind,e2] at h;cases e3:t bj M2 with
     |ok b M3=>
      simp only[e3] at h;cases b with
      |true=>
       simp only[aaW] at h;cases e4:m bj M3 with
       |ok y M4=>simp only[e4] at h;have:=zS h;rw[abb,adA] at this;omega
       |ex _ _=>simp only[e4] at h;cases h
       |bad=>simp only[e4] at h;cases h
      |false=>simp only[abi,aa_] at h;exact zS h
     |ex _ _=>simp only[e3] at h;cases h
     |bad=>simp only[e3] at h;cases h
    |ex _ _=>simp only[VM.R.bind,e2] at h;cases h
    |bad=>simp only[VM.R.bind,e2] at h;cases h
   |ex _ _=>rw[e1] at h;cases h
   |bad=>rw[e1] at h;cases h
  ·cases h
def Nf{K:Fg}{ι:List Addr}{bE:VM.b7}{g:VM.GM}{t:VM.TM}{m:VM.EM}{aQ:List VM.Src}{σ:VM.St}{M:VM.Mem}{ws:List VM.W}{Q:VK}(h:ai RV K ι ((VM.comp bE g t m aQ σ M ws).bind VM.br) Q):ws.length<=sizeLine:=by
 cases e:VM.comp bE g t m aQ σ M ws with
 |ok r M'=>
  rw[e] at h;have h':ai RV K ι (VM.br r M') Q:=h;have hl:=zS e;unfold VM.br at h';by_cases hr:r.length<=VM.lim
  ·exact aa1 hl hr
  ·rw[aaO hr] at h';exact(h':False).elim
 |ex _ _=>rw[e] at h;exact(h:False).elim
 |bad=>rw[e] at h;exact(h:False).elim
def zk{X:Cx}{N:List Str}{k:Nat}{cl:List Nat}{scope:Scope}{tg iter elt:Expr}{ifs:List Expr}{pos:Pos}{g:VM.GM}{t:VM.TM}{m:VM.EM}{pins:List (Addr×Obj)}{τ:L2.St}{H2:Hp}{s2:Shared}{J:It}{fp:List Addr}{it:Addr}{tn:Nat->Heap->Prop}{ι:List Addr}{M:VM.Mem}{σ:VM.St}{aQ:List VM.Src}{bE:VM.b7}{Qv:VK}{RR:Value->Addr->Result->Shared->Prop}{E:Value->Shared->Prop}(B:lT X N k cl scope)(calm:X.calm=true)(hg:∀C s H fp,SG (dY X N scope (cA X.env.cells scope.names []) C s H fp) tg g)(ht:∀C s H fp,kT (dY X N scope (cA X.env.cells scope.names []) C s H fp) ifs t)(hm:∀C s H fp,SE (dY X N scope (cA X.env.cells scope.names []) C s H fp) elt m)(I2:Inv X pins τ H2 s2)(T:Turn X.prog X.w X.K tg J fp it tn)(st:tn 0 s2.heap)(gH:∀b∈fp,jW X pins H2 b)(R2:Rel X.K ι M H2)(S2:bG ι σ τ)(J2:jq X.K ι J aQ bE)(Th:ai RV X.K ι ((VM.comp bE g t m aQ (VM.du cl (σ++List.replicate k none)) M []).bind VM.br) Qv)(WD:∀D C oC mC s' H',s2.heap.objs.size<=C->s'.heap.Ns C mC->Inv X (pins++[(C,oC)]) τ H' s'->Qv (.ref D) H'->RR (.ref D) C (.ok .next) s'):
 wpAny (model X.prog X.w) X.A (newList []) (λacc gv=>wpAny (model X.prog X.w) X.A (newFunctionEnv scope X.env.globals (cA X.env.cells scope.names []) [] X.env.qual none .none (some X.env)) (λHj vX=>codeAny (model X.prog X.w) X.A (.compStart (.ListComp elt [⟨tg,iter,ifs,0⟩] scope pos) 0 (.ref it) acc {Hj with scope:=relabel scope X.env}) (RR acc Hj.locals) vX) E gv) E s2:=by
 refine acO (wpAny_newFunctionEnv B.cell (by intro y hy;simp at hy) (λjn sm pZ=>?_) B.kind);dsimp only at sm pZ⊢;generalize CL:s2.heap.push {cls:=.type "list",dict:=none,data:=.seq ([]:List Value).toArray}=HP at sm pZ⊢;generalize WE:HP.objs.size=C at sm pZ⊢;generalize IP:s2.heap.objs.size=D at sm pZ⊢;have hC:C=D+1:=by rw[<-WE,<-CL,ac8,IP]
 have oQ:D≠C:=by omega
 have xo:s2.heap.objs.size<=D:=by omega
 have CN:s2.heap.objs.size<=C:=by omega
 have below:∀b,b<s2.heap.objs.size->b≠C/\b≠D:=λb hb=>⟨by omega,by omega⟩
 have old:∀b o,s2.heap.get? b=some o->jn.get? b=some o:=λb o e=>pZ.extBut b o (below b (aa3 e)).1 (abd _ (CL▸abd _ e))
 have qv:jn.get? D=some {cls:=.type "list",data:=.seq ([]:List Value).toArray 0}:=pZ.extBut _ _ oQ (abd _ (by rw[<-CL,<-IP];exact abE _ rfl));have qU:∀b∈fp,b<s2.heap.objs.size:=λb hb=>by obtain⟨o,e,_⟩:=T.obj 0 _ st b hb;exact aa3 e
 have CO:∀{qg:List (Addr×Obj)} {H:Hp},(∀b∈fp,H b=none)->(∀p∈qg,p.1=D)->∀b∈fp,jW (dY X N scope (cA X.env.cells scope.names []) C s2 H2 fp) qg H b:=λ{qg H} hn hp b hb=>by
  refine⟨hn b hb,(below b (qU b hb)).1,λz=>?_,.inl hb,λx c e=>?_,λp oR z=>?_⟩
  ·rcases aaX.mp (I2.u3 b z) with q|q
   ·exact(gH b hb).2.1 q
   ·exact(gH b hb).2.2.1 q
  ·exact(gH b hb).2.2.2.2.1 x c (pR scope.names [] (λy d hy=>by simp at hy) (acg e))
  ·have gR:p∈([]:List (Addr×Obj))++qg:=oR;rw[abl] at gR;exact(below b (qU b hb)).2 (by rw[<-z,hp p gR])
 have loop:∀s3:Shared,s3={s2 with heap:=jn,toks:=s2.toks+([]:List (Str×Value)).length}->
  codeAny (model X.prog X.w) X.A (.compLoop (.ListComp elt [⟨tg,iter,ifs,0⟩] scope pos) 0 (.ref it) (.ref D) (compEnvC scope (cA X.env.cells scope.names []) C X.env)) (RR (.ref D) C) s3:=by
  rintro s3 rfl;have Ib:=LQ (s4:={s2 with heap:=jn,toks:=s2.toks+([]:List (Str×Value)).length}) B I2 gH qU old rfl I2.bare CN xo oQ sm qv (λv z=>nomatch z);refine JW (λn s=>∃i aw M' aA cf H' ws vs au nn,i<=aQ.length/\n=aQ.length+1-i/\Inv (dY X N scope (cA X.env.cells scope.names []) C s2 H2 fp) [(D,{cls:=.type "list",data:=.seq (au:List Value).toArray nn})] cf H' s/\tn i s.heap/\(∀b∈fp,H' b=none)/\
   ι<+:aw/\Rel X.K aw M' H'/\bG aw aA cf/\bB aw ws vs/\Vals vs au/\ai RV X.K aw ((VM.comp bE g t m (aQ.drop i) aA M' ws).bind VM.br) Qv) ?_ (aQ.length+1)
   ⟨0,ι,M,_,_,H2,[],[],[],0,abV _,rfl,Ib,T.keep _ _ _ st (λb hb o e=>old b o e),λb hb=>(gH b hb).1,d9,R2,Fx cl (Paired.app S2 (Fy k)),.nil,.nil,Th⟩
  rintro n s ⟨i,aw,M',aA,cf,H',ws,vs,au,nn,hi,rfl,I,IQ,hn,xp,R,S,dE,rv,hp⟩;by_cases dG:i<aQ.length
  ·have ex:aQ[i]? =some aQ[i]:=by simp[dG]
   rw[adg dG] at hp;have eL:bE.ok M'=true:=by
    by_cases eL:bE.ok M'=true
    ·exact eL
    ·rw[VM.comp,aaO eL] at hp;exact(hp:False).elim
   rw[LR _ _ _ _ _ _ _ _ _ eL] at hp;refine aK (T.item (dY X N scope (cA X.env.cells scope.names []) C s2 H2 fp) rfl rfl rfl calm i _ s cf H' _ I (CO hn (by simp)) IQ (J2.go i aw M' H' _ xp R eL ex)) λr s1 ⟨u,hr,h1⟩=>?_
   subst hr;refine aK h1 λ_ tV ⟨x,H1,I1,rx,y1,lp,WG⟩=>?_
   obtain⟨aU,w,M2,q2,eg,WH,WI⟩:=J2.n_ i aw M' H' _ x H1 xp R eL ex y1;rw[eg] at hp;have WJ:=I1.pinned (CO WG (by simp)) (T.obj _ _ lp);obtain⟨gt,pg,kg⟩:=hg C s2 H2 fp;obtain⟨tt,pt,kt⟩:=ht C s2 H2 fp;obtain⟨te,pe,ke⟩:=hm C s2 H2 fp;have fA:ai RV X.K aU ((g w aA M2).bind λbj M2=>(t bj M2).bind λb M3=>if b then(m bj M3).bind λy M4=>(VM.comp bE g t m (aQ.drop (i+1)) bj M4 (ws++[y])).bind VM.br else(VM.comp bE g t m (aQ.drop (i+1)) bj M3 ws).bind VM.br) Qv:=ai.up q2 hp
   have again:∀{n':Nat} {xq:L2.St} {H7:Hp} {s7:Shared} {oS:List Addr} {M7:VM.Mem} {gz:VM.St} {xr:List VM.W} {xt:List V} {vY:List Value},Inv (dY X N scope (cA X.env.cells scope.names []) C s2 H2 fp) ([(D,{cls:=.type "list",data:=.seq vY.toArray n'})]++l6 fp tV.heap) xq H7 s7->
    ι<+:oS->Rel X.K oS M7 H7->bG oS gz xq->bB oS xr xt->Vals xt vY->ai RV X.K oS ((VM.comp bE g t m (aQ.drop (i+1)) gz M7 xr).bind VM.br) Qv->
    ∃n,n<aQ.length+1-i/\∃i aw M' aA cf H' ws vs au nn,i<=aQ.length/\n=aQ.length+1-i/\Inv (dY X N scope (cA X.env.cells scope.names []) C s2 H2 fp) [(D,{cls:=.type "list",data:=.seq (au:List Value).toArray nn})] cf H' s7/\tn i s7.heap/\(∀b∈fp,H' b=none)/\
     ι<+:aw/\Rel X.K aw M' H'/\bG aw aA cf/\bB aw ws vs/\Vals vs au/\ai RV X.K aw ((VM.comp bE g t m (aQ.drop i) aA M' ws).bind VM.br) Qv:=by
    intro n' xq H7 s7 oS M7 gz xr xt vY I7 p7 R7 S7 WK WL WM;refine⟨aQ.length+1-(i+1),by omega,i+1,oS,M7,gz,xq,H7,xr,xt,vY,n',dG,rfl,I7.rT,T.keep _ _ _ lp λb hb o e=>(I7.pin (b,o) (abp _ (abp _ (ua hb e)))).1,λb hb=>?_,p7,R7,S7,WK,WL,WM⟩;obtain⟨o,e,d⟩:=T.obj _ _ lp b hb;exact(I7.pin (b,o) (abp _ (abp _ (ua hb e)))).2.1
   refine abh (pg _ tV cf H1 x u _ WJ rx (kg aU M2 H1 aA cf w x (λjG H3=>∃cS M3 cY,aU<+:cS/\Rel X.K cS M3 H3/\bG cS cY jG/\ai RV X.K cS ((t cY M3).bind λb M4=>if b then(m cY M4).bind λy M5=>(VM.comp bE g t m (aQ.drop (i+1)) cY M5 (ws++[y])).bind VM.br else(VM.comp bE g t m (aQ.drop (i+1)) cY M4 ws).bind VM.br) Qv) WH (S.mono q2) WI (ai.seq fA λcS H3 cY M3 jG q3 R3 S3 h3=>⟨cS,M3,cY,q3,R3,S3,h3⟩))) (λ_ s3 ⟨jG,H3,I3,cS,M3,cY,q3,R3,S3,h3⟩=>?_) λ_ _ f=>f.elim
   refine abh (pt _ s3 jG H3 (λb H4=>∃gG M4,cS<+:gG/\Rel X.K gG M4 H4/\ai RV X.K gG (if b then(m cY M4).bind λy M5=>(VM.comp bE g t m (aQ.drop (i+1)) cY M5 (ws++[y])).bind VM.br else(VM.comp bE g t m (aQ.drop (i+1)) cY M4 ws).bind VM.br) Qv)
    I3 (kt cS M3 H3 cY jG _ R3 S3 (ai.seq h3 λgG H4 b M4 b' q4 R4 e4 h4=>by cases e4;exact⟨gG,M4,q4,R4,h4⟩))) (λb s4 ⟨H4,I4,gG,M4,q4,R4,h4⟩=>?_) λ_ _ f=>f.elim
   have IS:ι<+:gG:=xp.trans (q2.trans (q3.trans q4));have IT:aw<+:gG:=q2.trans (q3.trans q4);cases b with
   |false=>rw[aaO aa4];exact again I4 IS R4 (S3.mono q4) (bB.mono IT dE) rv h4
   |true=>
    rw[aaN rfl];refine abh (pe _ s4 jG H4 (λv H5=>∃oU M5 y,gG<+:oU/\Rel X.K oU M5 H5/\RV oU y v/\ai RV X.K oU ((VM.comp bE g t m (aQ.drop (i+1)) cY M5 (ws++[y])).bind VM.br) Qv)
     I4 (ke gG M4 H4 cY jG _ R4 (S3.mono q4) (ai.seq h4 λoU H5 y M5 v q5 R5 r5 h5=>⟨oU,M5,y,q5,R5,r5,h5⟩))) (λyv s5 ⟨v,H5,I5,WN,oU,M5,y,q5,R5,r5,h5⟩=>?_) λ_ _ f=>f.elim
    have A8:=Nf h5;have dS:ws.length=au.length:=(Paired.len dE).trans rv.length;obtain⟨eD,nD,qB,IU,_⟩:=I5.pin (D,{cls:=.type "list",data:=.seq au.toArray nn}) (by show _∈([]:List (Addr×Obj))++_;simp);refine acG adz ⟨_,eD,rfl⟩ F.entry_list_append (F.args_list_append_2 _ _) (PySem.list_append D au.toArray nn yv (by rw[aa6,<-dS];rw[abb,adA] at A8;omega)) ⟨eD,?_⟩;obtain⟨n',WO⟩:∃n':Nat,(s5.heap.update D (Obj.mapSeq λoV=>oV.push yv)).get? D=some {cls:=.type "list",data:=.seq (au++[yv]).toArray n'}:=by
     have q:=PySem.IsL.update eD (λoV=>oV.push yv);have e3:au.toArray.push yv=(au++[yv]).toArray:=by simp
     rw[e3] at q;exact⟨_,q⟩
    have I6:Inv (dY X N scope (cA X.env.cells scope.names []) C s2 H2 fp) (l6 fp tV.heap) jG H5 {s5 with heap:=s5.heap.update D (Obj.mapSeq λoV=>oV.push yv),toks:=s5.toks}:=by
     refine Inv.turned (it:=D) (t':=s5.toks) (I5.r_ λp hp=>I5.pin p (abp _ (abp _ hp))) (λb o hb e=>(ac' _ _ (abc hb)).trans e) nD qB (.inr xo) (λx c e z=>?_) λp hp z=>?_
     ·obtain⟨vv,q⟩:=I2.cell x c (pR scope.names [] (λy d hy=>by simp at hy) (acg e));exact absurd (aa9 q.lt (by rw[z];exact xo)) (abI _)
     ·have gR:p∈([]:List (Addr×Obj))++l6 fp tV.heap:=hp;rw[abl] at gR;exact(below p.1 (qU p.1 (DJ gR).1)).2 z
    have I7:Inv (dY X N scope (cA X.env.cells scope.names []) C s2 H2 fp) ([(D,{cls:=.type "list",data:=.seq (au++[yv]).toArray n'})]++l6 fp tV.heap) jG H5 {s5 with heap:=s5.heap.update D (Obj.mapSeq λoV=>oV.push yv),toks:=s5.toks}:=by
     refine I6.r_ λp hp=>?_
     rcases acd.mp hp with z|z
     ·have e:p=(D,{cls:=.type "list",data:=.seq (au++[yv]).toArray n'}):=by simpa using z
      subst e;exact⟨WO,nD,qB,IU,λv z=>nomatch z⟩
     ·exact I6.pin p (abp _ z)
    refine again I7 (IS.trans q5) R5 (S3.mono (q4.trans q5)) (Paired.app (bB.mono (IT.trans q5) dE) (.cons r5 .nil)) (rv.append (.cons WN .nil)) h5
  ·have hz:i=aQ.length:=by omega
   subst hz;rw[adf] at hp;have eL:bE.ok M'=true:=by
    by_cases eL:bE.ok M'=true
    ·exact eL
    ·rw[VM.comp,aaO eL] at hp;exact(hp:False).elim
   have gR:ai RV X.K aw (VM.br ws M') Qv:=by rw[VM.comp,aaN eL] at hp;exact hp
   refine aK (T.done (dY X N scope (cA X.env.cells scope.names []) C s2 H2 fp) rfl rfl rfl calm aQ.length _ s cf H' _ I (CO hn (by simp)) IQ (J2.stop _ aw M' H' xp R eL (aaY _))) λr s1 ⟨hr,I1⟩=>?_
   subst hr;obtain⟨eD,nD,qB,IU,_⟩:=I1.pin (D,{cls:=.type "list",data:=.seq au.toArray nn}) (by show _∈([]:List (Addr×Obj))++_;simp);obtain⟨mC,kC,_⟩:=I1.loc;have kC:s1.heap.Ns C mC:=kC;obtain⟨oC,es,ep,WQ,WR,_⟩:=id kC;have fin:=ni R dE gR;refine WD D C oC mC s1 _ CN kC (Pc I2 gH I1 CN xo oQ nD eD rv fin.1 WQ λv z=>by rw[WR] at z;cases z) (fin.2 D nD)
 exact codeAny_compStart_list (loop _ rfl) (T.self _ 0 _ _ _ (T.keep _ _ _ st λb hb o e=>old b o e) (loop _ rfl))
theorem Df{env:Env}:∀{names:List (Str×NameKind)} {x:Str}, (names.map λ(n,k)=>if(k==NameKind.free&&env.scope.kind==.function&&env.kindOf n==some .cell) then(n,NameKind.cell) else(n,k)).lookup x=some .local->names.lookup x=some .local
 |[],x,h=>by simp at h
 |(n,k0)::r,x,h=>by
  have ih:=@Df env r x;rw[aa8] at h;by_cases hb:(k0==NameKind.free&&env.scope.kind==.function&&env.kindOf n==some .cell)=true
  ·have e1:(match((n,k0):Str×NameKind) with|(n,k)=>if(k==NameKind.free&&env.scope.kind==.function&&env.kindOf n==some .cell) then(n,NameKind.cell) else(n,k))=(n,NameKind.cell):=aaN hb;rw[e1,acB] at h;rw[acB];cases hx:x==n with
   |true=>rw[hx] at h;cases h
   |false=>rw[hx] at h;exact ih h
  ·have e1:(match((n,k0):Str×NameKind) with|(n,k)=>if(k==NameKind.free&&env.scope.kind==.function&&env.kindOf n==some .cell) then(n,NameKind.cell) else(n,k))=(n,k0):=aaO hb;rw[e1,acB] at h;rw[acB];cases hx:x==n with
   |true=>rw[hx] at h;exact h
   |false=>rw[hx] at h;exact ih h
def Ti(N:List Str)(cl:List Nat)(n:Nat)(names:List (Str×NameKind)):Bool:=(List.range N.length).all λi=>match N[i]? with
 |some x=>!(names.lookup x==some NameKind.local)||cl.contains i||decide (n<=i)
 |none=>true
def Ru{X:Cx}{ex:List Str}{cl:List Nat}{scope:Scope}(free:freeOk X.env scope.names=true)(cell:∀y∈scope.names,y.2≠.cell)(kind:scope.kind=.function)(names:∀y∈scope.names,y.2=.local->scope.names.lookup y.1=some .local)(own:Ti (X.N++ex) cl X.N.length scope.names=true):lT X (X.N++ex) ex.length cl scope:=by refine⟨by simp,λi hi=>by rw[abM hi],free,cell,kind,names,λi x h1 h2=>?_⟩;have h3:scope.names.lookup x=some .local:=Df h2;have hi:i<(X.N++ex).length:=(aaZ.mp h1).1;have h4:=abC.mp own i (abk.mpr hi);rw[h1] at h4;have h5:(!(scope.names.lookup x==some NameKind.local)||cl.contains i||decide (X.N.length<=i))=true:=h4;rw[h3] at h5;simp only[acK,acA,ab4,acm,List.contains_eq_mem,abD] at h5;exact h5
def Fz{X:Cx}{ex:List Str}{cl:List Nat}{scope:Scope}{tg iter elt:Expr}{ifs:List Expr}{pos:Pos}{mi:VM.IM}{g:VM.GM}{t:VM.TM}{m:VM.EM}(B:lT X (X.N++ex) ex.length cl scope)(calm:X.calm=true)(hi:SI X tg iter mi)(hg:∀C s H fp,SG (dY X (X.N++ex) scope (cA X.env.cells scope.names []) C s H fp) tg g)(ht:∀C s H fp,kT (dY X (X.N++ex) scope (cA X.env.cells scope.names []) C s H fp) ifs t)(hm:∀C s H fp,SE (dY X (X.N++ex) scope (cA X.env.cells scope.names []) C s H fp) elt m)(hs:∀x,foldedSetIterable iter X.env x=pure x:=by intro _;rfl):SE X (.ListComp elt [⟨tg,iter,ifs,0⟩] scope pos) (VM.b5 ex.length cl mi g t m):=by
 obtain⟨wi,pi,ki⟩:=hi;refine⟨λτ H Q=>∃ι M σ,Rel X.K ι M H/\bG ι σ τ/\ai RV X.K ι (VM.b5 ex.length cl mi g t m σ M) Q,λpins s τ H Q I h=>?_,λι M H σ τ Q R S h=>⟨ι,M,σ,R,S,h⟩⟩;obtain⟨ι,M,σ,R,S,h⟩:=h;rw[eval_ListComp];refine adU (use:=none) rfl hs (yH B.free) B.kind B.names (aK (pi pins s τ H (λJ H1=>∃az M1 aQ bE,ι<+:az/\Rel X.K az M1 H1/\jq X.K az J aQ bE/\ai RV X.K az ((VM.comp bE g t m aQ (VM.du cl (σ++List.replicate ex.length none)) M1 []).bind VM.br) Q) I (ki ι M H σ τ _ R S (ai.seq h λaz H1 pr M1 J p1 R1 J1 h1=>⟨az,M1,pr.1,pr.2,p1,R1,J1,h1⟩))) λv s1 h1=>aK h1 λtj s2 h2=>?_)
 obtain⟨it,fp,tn,J,H2,e,I2,T,og,f2,az,M1,aQ,bE,p1,R1,J1,hp⟩:=h2;subst e;exact zk (RR:=λacc C=>compPost (model X.prog X.w) X.A X.xe none (EP X pins τ Q) acc C) B calm hg ht hm I2 T og f2 R1 (S.mono p1) J1 hp λD C oC mC s' H' hC kC I' q=>⟨mC,kC,λh' eY=>⟨.ref D,H',zR I2 hC I' eY,rfl,q⟩⟩
def Pd{X:Cx}{ex:List Str}{cl:List Nat}{scope:Scope}{tg iter elt:Expr}{ifs:List Expr}{pos sV py:Pos}{y:Str}{i:Nat}{mi:VM.IM}{g:VM.GM}{t:VM.TM}{m:VM.EM}(hN:X.N.Nodup)(B:lT X (X.N++ex) ex.length cl scope)(calm:X.calm=true)(hi:SI X tg iter mi)(hg:∀C s H fp,SG (dY X (X.N++ex) scope (cA X.env.cells scope.names []) C s H fp) tg g)(ht:∀C s H fp,kT (dY X (X.N++ex) scope (cA X.env.cells scope.names []) C s H fp) ifs t)(hm:∀C s H fp,SE (dY X (X.N++ex) scope (cA X.env.cells scope.names []) C s H fp) elt m)(hy:X.N[i]? =some y:=by rfl)(hx:Loc X.env.scope y:=by first|exact Or.inl rfl|exact Or.inr rfl)(hf:X.fn y=true\/X.env.scope.names.lookup y=some .local:=by first|exact .inl rfl|exact .inr rfl|assumption)(CP:swapsWith (.ListComp elt [⟨tg,iter,ifs,0⟩] scope pos) (some (.Name y py)) sV.line X.env=pure true:=by rfl)(hs:∀x,foldedSetIterable iter X.env x=pure x:=by intro _;rfl):SS X (.Assign [.Name y py] (.ListComp elt [⟨tg,iter,ifs,0⟩] scope pos) sV) (VM.aG (VM.b5 ex.length cl mi g t m) (VM.ar i)):=by
 obtain⟨wi,pi,ki⟩:=hi;refine⟨λD τ H=>∃ι M σ,Rel X.K ι M H/\bG ι σ τ/\bc X.K ι (VM.aG (VM.b5 ex.length cl mi g t m) (VM.ar i) σ M) D,λpins s τ H D I h=>?_,λι M H σ τ D R S h=>⟨ι,M,σ,R,S,h⟩⟩;obtain⟨ι,M,σ,R,S,h⟩:=h;have h0:ai RV X.K ι (VM.b5 ex.length cl mi g t m σ M) (λv H1=>D.nx (τ.set i (some v)) H1):=bc.seq h λaz H1 w M1 v p1 R1 r1 h1=>h1 az H1 _ d9 R1 (Paired.kR (F:=jb az) (x:=some w) (y:=some v) ⟨v,rfl,r1⟩ i (S.mono p1))
 rw[exec_Assign_Name_used _ _ _ _ CP];refine aaS (wpAny_standAt (aaS ?_));show wpAny _ X.A (do let _<-comprehension (.ListComp elt [⟨tg,iter,ifs,0⟩] scope pos) scope X.env _ (newList []) false (eval iter X.env) (some (assign (.Name y py) X.env))) _ _ s;refine aaS (abh (adU (use:=some (assign (.Name y py) X.env)) (Q:=λ_ s'=>SP X pins D .next s') rfl hs (yH B.free) B.kind B.names (aK (pi pins s τ H (λJ H1=>∃az M1 aQ bE,ι<+:az/\Rel X.K az M1 H1/\jq X.K az J aQ bE/\ai RV X.K az ((VM.comp bE g t m aQ (VM.du cl (σ++List.replicate ex.length none)) M1 []).bind VM.br) (λv H1=>D.nx (τ.set i (some v)) H1)) I (ki ι M H σ τ _ R S (ai.seq h0 λaz H1 pr M1 J p1 R1 J1 h1=>⟨az,M1,pr.1,pr.2,p1,R1,J1,h1⟩))) λv s1 h1=>aK h1 λtj s2 h2=>?_)) (λ_ s' hq=>aa5 (aa5 hq)) λ_ _ e=>e)
 obtain⟨it,fp,tn,J,H2,e,I2,T,og,f2,az,M1,aQ,bE,p1,R1,J1,hp⟩:=h2;subst e;refine zk (RR:=λacc C=>compPost (model X.prog X.w) X.A X.xe (some (assign (.Name y py) X.env)) (λ_ s'=>SP X pins D .next s') acc C) B calm hg ht hm I2 T og f2 R1 (S.mono p1) J1 hp λA' C oC mC s' H' hC kC I' q=>?_
 obtain⟨eC,_⟩:=I'.pin (C,oC) (abp _ (abp _ (by simp)));refine aK (EY hN hy hx hf _ s' τ H' (.ref A') (.ref A') (λcf IV=>cf=τ.set i (some (.ref A'))/\IV=H') I' rfl ⟨rfl,rfl⟩) λ_ wj ⟨cf,IV,IW,e1,e2⟩=>?_
 subst e1 e2;obtain⟨WS,_⟩:=IW.pin (C,oC) (abp _ (abp _ (by simp)));refine⟨mC,?_,λh' eY=>⟨_,_,zR I2 hC IW eY,q⟩⟩;obtain⟨o,es,ep,ho,r⟩:=kC;rw[eC] at ho;cases ho;exact⟨oC,es,ep,WS,r⟩
def zl{ι:List Addr}{ws:List VM.W}{vs:List V}(r:bB ι ws vs)(N:List Str):bG ι (ws.map some++List.replicate (N.length-ws.length) none) (L2.start N vs):=by
 unfold L2.start;have hm:∀{ws:List VM.W} {vs:List V},bB ι ws vs->bG ι (ws.map some) (vs.map some):=by
  intro ws vs r;induction r with
  |nil=>exact .nil
  |cons h _ ih=>exact .cons ⟨_,rfl,h⟩ ih
 have hr:∀n:Nat,bG ι (List.replicate n none) (List.replicate n none):=by
  intro n;induction n with
  |zero=>exact .nil
  |succ n ih=>exact .cons trivial ih
 rw[Paired.len r];exact Paired.app (hm r) (hr _)
def F8{P:Program}{w:World}{K:Fg}{mg:Str->Option Value}{base:Heap}{k:Nat}{x qual:Str}{st:Stmt}{f:Addr}{fd:FuncData}{N ps:List Str}{np n:Nat}{body:VM.SM}(F:jr K x qual st f fd)(S:jP N ps (c_ st))(hm:mg x=some (.ref f))(hb:Binds K fd ps [])(D:∀(bA:Value) (A:Around) (outer:List Env) (s:Shared) (H:Hp) (E:XK),cq k (A.deeper (envOfC qual (c_ st) s.heap.objs.size f bA))->gU (dP ik P w K mg base N qual (c_ st) f bA A outer s H E).eU (iW st) body)(hn:N.length=n:=by rfl)(hp:ps.length=np:=by rfl):mY P w K mg base (k+1) x f fd ps (VM.fn np n body):=by
 subst hn hp;refine⟨F.ok S (λvs H Q E h=>h.1) (λbA A outer s H vs Q E hr h=>?_),hm,F.kp,hb,λws M hw=>aaO hw⟩;obtain⟨hl,ι,M,ws,R,r,h⟩:=h;obtain⟨t,pt,kt⟩:=D bA A outer s H E hr;refine⟨t,pt,kt ι M H _ _ _ R (zl r N) ?_⟩;have hw:ws.length=ps.length:=by rw[Paired.len r];exact hl
 have h2:ai RV K ι (match body (ws.map some++List.replicate (N.length-ps.length) none) M with
  |.rt v M'=>.ok v M'
  |.nx _ M'=>.ok .ao M'
  |.ex v M'=>.ex v M'
  |_=>.bad) Q:=by
  have h':ai RV K ι (if ws.length=ps.length then(match body (ws.map some++List.replicate (N.length-ps.length) none) M with
   |.rt v M'=>.ok v M'
   |.nx _ M'=>.ok .ao M'
   |.ex v M'=>.ex v M'
   |_=>.bad) else .bad) Q:=h
  rw[aaN hw] at h';exact h'
 rw[hw];cases e:body (ws.map some++List.replicate (N.length-ps.length) none) M with
 |nx aA M'=>rw[e] at h2;exactλaw H' cf p R' S'=>h2 aw H' .ao p R' rfl
 |rt v M'=>rw[e] at h2;exact h2
 |bk aA M'=>rw[e] at h2;exact(h2:False).elim
 |ct aA M'=>rw[e] at h2;exact(h2:False).elim
 |ex v M'=>rw[e] at h2;exact(h2:False).elim
 |bad=>rw[e] at h2;exact(h2:False).elim
def Ng{P:Program}{w:World}{K:Fg}{mg:Str->Option Value}{base:Heap}{x:Str}{f:Addr}{fd:FuncData}{ps:List Str}(hm:mg x=some (.ref f))(kp:PySem.W.keepIn K (.ref f)=true)(hb:Binds K fd ps []):
 mY P w K mg base 0 x f fd ps (λ_ _=>.bad):=by
 have no:∀vs H Q E,¬oP K ps.length (λ_ _=>.bad) vs H Q E:=λvs H Q E h=>by obtain⟨_,_,_,_,_,_,h⟩:=h;exact h
 exact⟨⟨λvs H Q E h=>absurd h (no vs H Q E),λA outer s H args us vs Q E _ _ _ _ h=>absurd h (no vs H Q E)⟩,hm,kp,hb,λ_ _ _=>rfl⟩
def sD(K:Fg):Sp:=λvs H Q _=>∃(a:Addr) (ns:List Int),vs=[.ref a]/\cc K H a (ns.map V.int)/\ns.length<=63/\(∀b,H b=none\/∃o xs,H b=some (.bf o (.lst xs)))/\∀H',Q (.bl true) H'
def Rv{P:Program}{w:World}{K:Fg}{mg:Str->Option Value}{base:Heap}{k:Nat}{x a0:Str}{f:Addr}{fd:FuncData}{c:VM.CM}(F:mY P w K mg base k x f fd [a0] c)(math:∀ns:List Int,ns.length<=63->∃M,c [.ref 0] [.bf (ns.map .int)]=.ok (.bl true) M):fo P w K mg base ik k f fd [a0] (sD K):=by
 refine F.ok.imp λvs H Q E h=>?_
 obtain⟨a,ns,rfl,hS,hl,hO,q⟩:=h;obtain⟨M',hm⟩:=math ns hl;have rs:bB [a] (ns.map VM.W.int) (ns.map V.int):=by
  clear hS hl q hm;induction ns with
  |nil=>exact .nil
  |cons n r ih=>exact .cons rfl ih
 have fz:xl K H a (ns.map V.int):=by
  rcases hS with(h|⟨o,h⟩)|h
  ·rcases hO a with z|⟨o,xs,z⟩
   ·rw[z] at h;cases h
   ·rw[z] at h;cases h
  ·exact .inl ⟨o,h⟩
  ·exact .inr h
 refine⟨rfl,[a],[.bf (ns.map .int)],[.ref 0],⟨rfl,λb p o h1 h2=>?_,λb b' p ob Z9 h1 h2 h3 h4 l1 l2=>?_⟩,.cons ⟨a,rfl,rfl⟩ .nil,?_⟩
 ·cases b with
  |zero=>cases h1;cases h2;exact⟨_,fz,rs⟩
  |succ b=>cases h2
 ·cases b with
  |zero=>cases h3;cases l1
  |succ b=>cases h3
 ·rw[hm];intro aw H' v _ _ rv;cases rv;exact q H'
def fj:VM.Kd->String
 |.int=>"int"
 |.bool=>"bool"
 |.str=>"str"
 |.list=>"list"
 |.tuple=>"tuple"
inductive jH where
 |ao|bl|int|str|lst|tup
def jH.name:jH->String
 |.ao=>"NoneType"
 |.bl=>"bool"
 |.int=>"int"
 |.str=>"str"
 |.lst=>"list"
 |.tup=>"tuple"
def jH.is:jH->VM.Kd->Bool
 |.ao,_=>false
 |.bl,k=>decide (k=.bool\/k=.int)
 |.int,k=>decide (k=.int)
 |.str,k=>decide (k=.str)
 |.lst,k=>decide (k=.list)
 |.tup,k=>decide (k=.tuple)
def ES(K:Fg)(t:jH)(k:VM.Kd):PySem.W.kitOne K (.type t.name) (.type (fj k))=some (t.is k):=by cases t<;>cases k<;>kernel_rfl
theorem Ee(K:Fg)(t:jH):∀ks:List VM.Kd,PySem.W.kitAny K (.type t.name) (ks.map λk=>.type (fj k))=some (ks.any t.is)
 |[]=>rfl
 |k::r=>by rw[aa8,PySem.W.kitAny,ES,Ee K t r,abB];cases t.is k<;>rfl
def GC{K:Fg}{ι:List Addr}{M:VM.Mem}{H:Hp}{w:VM.W}{v:V}{ks:List VM.Kd}{b:Bool}(R:Rel K ι M H)(r:RV ι w v)(e:VM.c8 M w ks=some b)(hk:ks≠[]):∃t:jH,eR K H v (.type t.name)/\ks.any t.is=b:=by
 have key:∃t:jH,eR K H v (.type t.name)/\∀k,VM.cQ M w k=some (t.is k):=by
  cases w with
  |ao=>cases r;exact⟨.ao,.ao,λk=>rfl⟩
  |bl x=>cases r;exact⟨.bl,.bl x,λk=>rfl⟩
  |int i=>cases r;exact⟨.int,.int i,λk=>rfl⟩
  |str x=>cases r;exact⟨.str,.str _,λk=>rfl⟩
  |ref a=>
   obtain⟨p,hp,rfl⟩:=r;cases hm:M[a]? with
   |none=>
    exfalso;cases ks with
    |nil=>exact hk rfl
    |cons k rest=>
     have:VM.cQ M (.ref a) k=none:=by unfold VM.cQ;simp only[hm]
     rw[VM.c8,this] at e;cases e
   |some o=>
    have ro:=R.obj a p o hp hm;cases o with
    |lst xs=>obtain⟨vs,h1,_⟩:=ro;exact⟨.lst,.lst h1,λk=>by unfold VM.cQ;simp only[hm]<;>rfl⟩
    |tup xs=>obtain⟨vs,h1,_⟩:=ro;exact⟨.tup,.tup h1,λk=>by unfold VM.cQ;simp only[hm]<;>rfl⟩
    |bf xs=>
     exfalso;cases ks with
     |nil=>exact hk rfl
     |cons k rest=>
      have:VM.cQ M (.ref a) k=none:=by unfold VM.cQ;simp only[hm]
      rw[VM.c8,this] at e;cases e
    |aI xs=>
     exfalso;cases ks with
     |nil=>exact hk rfl
     |cons k rest=>
      have:VM.cQ M (.ref a) k=none:=by unfold VM.cQ;simp only[hm]
      rw[VM.c8,this] at e;cases e
    |ins c xs=>
     exfalso;cases ks with
     |nil=>exact hk rfl
     |cons k rest=>
      have:VM.cQ M (.ref a) k=none:=by unfold VM.cQ;simp only[hm]
      rw[VM.c8,this] at e;cases e
    |d8 xs=>
     exfalso;cases ks with
     |nil=>exact hk rfl
     |cons k rest=>
      have:VM.cQ M (.ref a) k=none:=by unfold VM.cQ;simp only[hm]
      rw[VM.c8,this] at e;cases e
    |a6 g xs=>
     exfalso;cases ks with
     |nil=>exact hk rfl
     |cons k rest=>
      have:VM.cQ M (.ref a) k=none:=by unfold VM.cQ;simp only[hm]
      rw[VM.c8,this] at e;cases e
    |cw=>
     exfalso;cases ks with
     |nil=>exact hk rfl
     |cons k rest=>
      have:VM.cQ M (.ref a) k=none:=by unfold VM.cQ;simp only[hm]
      rw[VM.c8,this] at e;cases e
    |dr c=>
     exfalso;cases ks with
     |nil=>exact hk rfl
     |cons k rest=>
      have:VM.cQ M (.ref a) k=none:=by unfold VM.cQ;simp only[hm]
      rw[VM.c8,this] at e;cases e
 obtain⟨t,h1,h2⟩:=key;refine⟨t,h1,?_⟩;have all:∀ks,VM.c8 M w ks=some (ks.any t.is):=by
  intro ks;induction ks with
  |nil=>rfl
  |cons k r ih=>rw[VM.c8,h2 k,ih,abB]
 rw[all ks] at e;exact aa2 e
section
variable{X:Cx}{pins:List (Addr×Obj)}{σ:L2.St}{H:Hp}{s:Shared}
def GD{x:V}{u:Value}{t:jH}(I:Inv X pins σ H s)(rx:RelV x u)(ty:eR X.K H x (.type t.name)):∃Hc:Heap->Prop,PySem.W.KitX X.K u (.type t.name) Hc/\Hc s.heap/\u≠.builtin "__main__.__loader__#opaque":=by
 generalize ht:Value.type t.name=tv at ty;cases ty with
 |ao=>cases(show u=Value.none from rx);exact⟨_,PySem.W.kitx_none,trivial,λz=>nomatch z⟩
 |bl y=>cases(show u=Value.bool y from rx);exact⟨_,PySem.W.kitx_bool,trivial,λz=>nomatch z⟩
 |int i=>obtain⟨tk,q⟩:=(show∃t,u=Value.int i t from rx);cases q;exact⟨_,PySem.W.kitx_int,trivial,λz=>nomatch z⟩
 |str y=>obtain⟨tk,q⟩:=(show∃t,u=Value.str y t from rx);cases q;exact⟨_,PySem.W.kitx_str,trivial,λz=>nomatch z⟩
 |j0 y=>obtain⟨tk,q⟩:=(show∃t,u=Value.float y t from rx);cases q;exact⟨_,PySem.W.kitx_float,trivial,λz=>nomatch z⟩
 | @lst a xs ea=>cases(show u=Value.ref a from rx);obtain⟨_,_,n,_,h1⟩:=(show c7 X.prog X.w H s.heap a (.lst xs) from I.aE a _ ea);exact⟨_,PySem.W.kitx_list,⟨_,h1,rfl⟩,λz=>nomatch z⟩
 | @bf a ob xs ea=>cases(show u=Value.ref a from rx);obtain⟨_,_,_,n,_,h1⟩:=(show c7 X.prog X.w H s.heap a (.bf ob (.lst xs)) from I.aE a _ ea);exact⟨_,PySem.W.kitx_list,⟨_,h1,rfl⟩,λz=>nomatch z⟩
 | @tup a xs ea=>cases(show u=Value.ref a from rx);obtain⟨_,_,_,p⟩:=(show c7 X.prog X.w H s.heap a (.tup xs) from I.aE a _ ea);obtain⟨o,h1,h2,_⟩:=p;exact⟨_,PySem.W.kitx_tuple,⟨o,h1,h2⟩,λz=>nomatch z⟩
 |dK ea=>cases t<;>(injection ht with z;exact absurd z (by decide))
 |dT ea=>cases t<;>(injection ht with z;exact absurd z (by decide))
 |ins ea cl ha hn Bw hm=>cases ht
def LU:iY X (.builtin "isinstance") (λxs H Q=>∃(x:V) (t:jH) (k:VM.Kd),xs=[x,.ty (fj k)]/\eR X.K H x (.type t.name)/\Q (.bl (t.is k)) H):=by
 intro pins s σ H xs us Q I r h;obtain⟨x,t,k,rfl,ty,q⟩:=h;cases r with
 |cons rx r2=>
  cases r2 with
  |cons rc r3=>
   cases r3
   rename_i u c
   have ec:c=Value.type (fj k):=rc;subst ec;obtain⟨Hc,Z,hc,fw⟩:=GD I rx ty;exact PySem.W.kia_one Z I.eS hc (ES X.K t k) fw λtk=>⟨.bl (t.is k),H,I.tok _,rfl,q⟩
theorem FA:∀{ks:List VM.Kd} {us:List Value},Vals (ks.map λk=>V.ty (fj k)) us->us=ks.map λk=>Value.type (fj k)
 |[],_,.nil=>rfl
 |k::r,_,.cons h t=>by have e:_=Value.type (fj k):=h;rw[aa8,e,FA t]
def LW:iY X (.builtin "isinstance") (λxs H Q=>∃(x:V) (t:jH) (ks:List VM.Kd) (p:Addr),xs=[x,.ref p]/\H p=some (.tup (ks.map λk=>V.ty (fj k)))/\eR X.K H x (.type t.name)/\Q (.bl (ks.any t.is)) H):=by
 intro pins s σ H xs us Q I r h;obtain⟨x,t,ks,p,rfl,hp,ty,q⟩:=h;cases r with
 |cons rx r2=>
  cases r2 with
  |cons rc r3=>
   cases r3
   rename_i u c
   have ec:c=Value.ref p:=rc;subst ec;obtain⟨_,au,rv,o,ho,nR,n,hd⟩:=I.aE p _ hp;have ei:=FA rv;subst ei;obtain⟨cl,dd,dt,sl⟩:=o;simp only at nR hd;subst nR hd;obtain⟨Hc,Z,hc,fw⟩:=GD I rx ty;exact PySem.W.kia_tup Z I.eS hc ho (Ee X.K t ks) fw λtk=>⟨.bl (ks.any t.is),H,I.tok _,rfl,q⟩
end
def Rel.other{K:Fg}{ι:List Addr}{M:VM.Mem}{H:Hp}(R:Rel K ι M H){p:Addr}(hp:H p=none)(u:HO):Rel K ι M (upd H p u):=by
 refine⟨R.len,λa q o h1 h2=>?_,R.inj⟩;have r:=R.obj a q o h1 h2;refine RO.other r (λhl=>?_) λob vs e=>by rw[hp] at e;cases e
 rintro rfl;cases o with
 |lst xs=>obtain⟨vs,e,_⟩:=r;rw[hp] at e;cases e
 |tup xs=>obtain⟨vs,e,_⟩:=r;rw[hp] at e;cases e
 |bf xs=>cases hl
 |aI xs=>obtain⟨vs,e,_⟩:=r;rw[hp] at e;cases e
 |ins c xs=>obtain⟨_,_,_,_,e,_⟩:=r;rw[hp] at e;cases e
 |d8 x=>cases hl
 |a6 g xs=>obtain⟨o,es,vs,ep,_,e,_⟩:=r;rw[hp] at e;cases e
 |cw=>cases hl
 |dr c=>obtain⟨C,_,e⟩:=r;rw[hp] at e;cases e
def eR.other{K:Fg}{H:Hp}{v t:_}(h:eR K H v t){p:Addr}(hp:H p=none)(u:HO):eR K (upd H p u) v t:=by
 cases h with
 |ao=>exact .ao
 |bl x=>exact .bl x
 |int x=>exact .int x
 |str x=>exact .str x
 |j0 x=>exact .j0 x
 |lst e=>exact .lst (by rw[ba (eZ e hp)];exact e)
 |bf e=>exact .bf (by rw[ba (eZ e hp)];exact e)
 |tup e=>exact .tup (by rw[ba (eZ e hp)];exact e)
 |dK e=>exact .dK (by rw[ba (eZ e hp)];exact e)
 |dT e=>exact .dT (by rw[ba (eZ e hp)];exact e)
 |ins e cl ha hn Bw hm=>exact .ins (by rw[ba (eZ e hp)];exact e) cl ha hn Bw hm
section
variable{X:Cx}
def GF(k:VM.Kd):bootBuiltins (Str.ofString (fj k))=some (.type (fj k)):=by cases k<;>kernel_rfl
def Rw{a:Expr}{m:VM.EM}{x:Str}(k:VM.Kd){p p2 pos:Pos}(hm:X.mg "isinstance"=none)(CQ:X.mg x=none)(ha:SE X a m)(hx:x=Str.ofString (fj k):=by rfl)(hg:Gl X "isinstance":=by rfl)(CS:Gl X x:=by rfl)(hn:x≠"__name__":=by decide+kernel)(bO:(x==("__debug__":Str))=false:=by decide+kernel)(he:starEach [a,.Name x p2] X.env=(false,eval a X.env)::starEach [.Name x p2] X.env:=by rfl)(bI:(backTo pos (starEach [.Name x p2] X.env)).any (·.1)=false:=by rfl)(gf:starEach [.Name x p2] X.env=(false,eval (.Name x p2) X.env)::starEach [] X.env:=by rfl):
 SE X (.Call (.Name "isinstance" p) [a,.Name x p2] [] pos) (VM.bW [k] m):=by
 obtain⟨ta,pa,ka⟩:=ha;have pn:PE X (.Name x p2) (tC (.ty (fj k))):=zW CS CQ (by rw[hx];exact GF k) (show RelV (.ty (fj k)) (.type (fj k)) from rfl) hn bO;refine⟨_,uB LU hg hm (by kernel_rfl) (gh pa (gh pn jh gf) he) (by decide+kernel) (by decide+kernel) he bI,λι M H σ τ Q R S h=>?_⟩;refine ka ι M H σ τ _ R S (ai.seq h λaz H1 w M1 v p1 R1 r1 h1=>?_);have h2:ai RV X.K az (match VM.c8 M1 w [k] with|some b=>VM.R.ok (.bl b) M1|none=>.bad) Q:=h1;cases e:VM.c8 M1 w [k] with
 |none=>rw[e] at h2;exact(h2:False).elim
 |some b=>
  rw[e] at h2;obtain⟨t,ty,eb⟩:=GC R1 r1 e (by simp);refine⟨v,t,k,rfl,ty,?_⟩;have B9:t.is k=b:=by simpa using eb
  rw[B9];exact ai.ok (b:=V.bl b) h2 R1 rfl
def vZ(X:Cx)(es:List Expr)(ks:List VM.Kd):Prop:=PA X es (λ_ H Q=>Q (ks.map λk=>V.ty (fj k)) H)
def Nh:vZ X [] []:=jh
def LX{x:Str}(k:VM.Kd){p2:Pos}{es:List Expr}{ks:List VM.Kd}(CQ:X.mg x=none)(hr:vZ X es ks)(hx:x=Str.ofString (fj k):=by rfl)(CS:Gl X x:=by rfl)(hn:x≠"__name__":=by decide+kernel)(bO:(x==("__debug__":Str))=false:=by decide+kernel)(he:starEach (.Name x p2::es) X.env=(false,eval (.Name x p2) X.env)::starEach es X.env:=by rfl):
 vZ X (.Name x p2::es) (k::ks):=by
 have pn:PE X (.Name x p2) (tC (.ty (fj k))):=zW CS CQ (by rw[hx];exact GF k) (show RelV (.ty (fj k)) (.type (fj k)) from rfl) hn bO;exact gh pn hr he
def Pe{a:Expr}{m:VM.EM}{es:List Expr}{ks:List VM.Kd}{x1}{p p2 pos:Pos}(hm:X.mg "isinstance"=none)(ha:SE X a m)(hc:vZ X es ks)(hk:ks≠[]:=by simp)(hl:ks.length<=64:=by decide)(hg:Gl X "isinstance":=by rfl)(he:starEach [a,.Tuple es x1 p2] X.env=(false,eval a X.env)::starEach [.Tuple es x1 p2] X.env:=by rfl)(bI:(backTo pos (starEach [.Tuple es x1 p2] X.env)).any (·.1)=false:=by rfl)(gf:starEach [.Tuple es x1 p2] X.env=(false,eval (.Tuple es x1 p2) X.env)::starEach [] X.env:=by rfl):
 SE X (.Call (.Name "isinstance" p) [a,.Tuple es x1 p2] [] pos) (VM.bW ks m):=by
 obtain⟨ta,pa,ka⟩:=ha;refine⟨_,uB LW hg hm (by kernel_rfl) (gh pa (gh (FL hc) jh gf) he) (by decide+kernel) (by decide+kernel) he bI,λι M H σ τ Q R S h=>?_⟩;refine ka ι M H σ τ _ R S (ai.seq h λaz H1 w M1 v p1 R1 r1 h1=>?_);have h2:ai RV X.K az (match VM.c8 M1 w ks with|some b=>VM.R.ok (.bl b) M1|none=>.bad) Q:=h1;cases e:VM.c8 M1 w ks with
 |none=>rw[e] at h2;exact(h2:False).elim
 |some b=>rw[e] at h2;obtain⟨t,ty,eb⟩:=GC R1 r1 e hk;refine⟨by rw[aaV];exact aa1 hl (by decide),λq hq=>?_⟩;refine⟨v,t,ks,q,rfl,dA,eR.other ty hq _,?_⟩;rw[eb];exact ai.ok (b:=V.bl b) h2 (R1.other hq _) rfl
end
section
variable{X:Cx}{elts:List Expr}{x1:Nat}{tpos:Pos}
def LY{K:Fg}{ι:List Addr}{M:VM.Mem}{H:Hp}(R:Rel K ι M H){w:VM.W}{v:V}{a:Nat}{o:VM.O}{xs:List VM.W}(e:VM.qd M w=some (a,o,xs))(r:RV ι w v):
 ∃p vs,ι[a]? =some p/\v=.ref p/\cc K H p vs/\(o=.lst xs\/o=.bf xs):=by
 cases w with
 |ref b=>
  obtain⟨p,hp,rfl⟩:=r;simp only[VM.qd] at e;cases hm:M[b]? with
  |none=>rw[hm] at e;cases e
  |some ob=>
   rw[hm] at e;have ro:=R.obj b p ob hp hm;cases ob with
   |lst ys=>cases e;obtain⟨vs,h1,h2⟩:=ro;exact⟨p,vs,hp,rfl,cc.of h1,.inl rfl⟩
   |bf ys=>cases e;obtain⟨vs,h1,h2⟩:=ro;exact⟨p,vs,hp,rfl,h1.sq,.inr rfl⟩
   |tup ys=>cases e
   |aI ys=>cases e
   |ins c ys=>cases e
   |d8 x=>cases e
   |a6 g x=>cases e
   |cw=>cases e
   |dr c=>cases e
 |ao=>cases e
 |bl _=>cases e
 |int _=>cases e
 |str _=>cases e
end
theorem ET{ι:List Addr}:∀{ws:List VM.W} {vs:List V} {ns:List Int},bB ι ws vs->VM.intsOf ws=some ns->vs=ns.map V.int
 |_,_,_,.nil,e=>by cases e;rfl
 |_,_,ns,.cons (a:=w) r t,e=>by
  cases w with
  |int i=>
   cases r;simp only[VM.intsOf] at e;cases e2:VM.intsOf _ with
   |none=>rw[e2] at e;cases e
   |some ms=>rw[e2] at e;cases e;rw[ET t e2];rfl
  |ao=>cases e
  |bl _=>cases e
  |str _=>cases e
  |ref _=>cases e
theorem intsAre_of:∀{ns:List Int} {au:List Value},Vals (ns.map V.int) au->IntsAre au ns
 |[],_,.nil=>.nil
 |n::r,_,.cons h t=>by obtain⟨tk,rfl⟩:=(show∃t,_=Value.int n t from h);exact .cons n tk (intsAre_of t)
section
variable{X:Cx}
def LZ(hh:X.A.handled=none):iY X (.builtin "sum") (λxs H Q=>∃(p:Addr) (ns:List Int),xs=[.ref p]/\cc X.K H p (ns.map V.int)/\Q (.int ns.sum) H):=by
 intro pins s σ H xs us Q I r h;obtain⟨p,ns,rfl,hs,q⟩:=h;obtain⟨u,rfl,rx⟩:=vals1 r;cases rx;obtain⟨au,rv,pl,_⟩:=I.list hs;have ia:=intsAre_of rv;obtain⟨zs,ez⟩:=ia.allInts.items;have hn:numsOf au.toArray.toList=ns:=by rw[show au.toArray.toList=au from rfl];exact ia.numsOf
 have ic:(zs.toList.map (·.1))=ns:=by rw[<-nums_intItems,<-ez];exact hn
 have hl:s.heap.IsList p (intItems zs):=by rw[<-ez];exact pl.isList
 refine sum_intListG hh hl λh' tk t' hk=>?_
 refine⟨.int ns.sum,H,I.kept (t':=tk) hk,⟨t',?_⟩,q⟩;rw[preSum_eq,List.take_of_length_le (by simp),ic]
def Rx(hh:X.A.handled=none):SC X (.builtin "sum") VM.vQ:=by
 refine⟨_,LZ hh,λι M H ws vs Q R r h=>?_⟩;cases r with
 |nil=>exact(h:False).elim
 |cons r1 t=>
  cases t with
  |cons _ _=>exact(h:False).elim
  |nil=>
   rename_i x v
   have q:ai RV X.K ι (match(VM.bz M x).bind VM.intsOf with|some ns=>VM.R.ok (.int ns.sum) M|none=>.bad) Q:=h;cases e:VM.bz M x with
   |none=>rw[e] at q;exact(q:False).elim
   |some xs=>
    rw[e] at q;obtain⟨p,us,rfl,hs,r2⟩:=R.bz e r1;have q2:ai RV X.K ι (match VM.intsOf xs with|some ns=>VM.R.ok (.int ns.sum) M|none=>.bad) Q:=q;cases e2:VM.intsOf xs with
    |none=>rw[e2] at q2;exact(q2:False).elim
    |some ns=>rw[e2] at q2;have:=ET r2 e2;subst this;exact⟨p,ns,rfl,hs,ai.ok (b:=V.int _) q2 R rfl⟩
theorem DE{ι:List Addr}{x:VM.W}{v:V}(rx:RV ι x v)(hx:VM.flat x=true):∀{xs:List VM.W} {vs:List V},bB ι xs vs->xs.all VM.flat=true->(vs.countP λy=>dF y v)=xs.countP λz=>VM.gB z x
 |_,_,.nil,_=>rfl
 |_,_,.cons r t,h=>by rw[abX,aaT] at h;have ih:=DE rx hx t h.2;rw[acx,acx,ih,RV.gB r rx h.1 hx]
theorem DF{x:V}:∀{xs:List V} {us:List Value},Vals xs us->xs.all eu=true->us.countP (fZ x)=xs.countP λy=>dF y x
 |_,_,.nil,_=>rfl
 |_,_,.cons r t,f=>by rw[abX,aaT] at f;rw[acx,acx,DF t f.2,Aq r f.1]
def Ry(K:Fg):V->List V->Hp->VK->Prop:=λx vs H Q=>∃p xs y,x=.ref p/\vs=[y]/\H p=some (.lst xs)/\eu y=true/\xs.all eu=true/\Q (.int (xs.countP λz=>dF z y)) H
def Ni:j6 X "list.count" (Ry X.K):=by intro pins s σ H x vs v us Q I rx rv h;obtain⟨p,xs,y,rfl,rfl,hH,fy,fs,q⟩:=h;cases rx;obtain⟨u,rfl,ru⟩:=rv.one;obtain⟨z,au,n,r,hl,e⟩:=I.my hH;refine acG F.slot_list_count ⟨_,e,rfl⟩ F.entry_list_count (F.args_list_count_2 _ _) (SeqAt.list_countAt p au.toArray n none #[] u (fZ y)) ⟨e,λw' hw=>pE ru fy r fs w' (by simpa using hw),?_⟩;refine⟨.int (xs.countP λz=>dF z y),H,I.tok _,⟨s.toks,?_⟩,q⟩;rw[show au.toArray.toList=au from rfl,DF r fs]
def Nj:SM X "list.count" VM.kJ:=by
 refine⟨_,Ni,λι M H x v ws vs Q R rx r h=>?_⟩;cases r with
 |nil=>exact(h:False).elim
 |cons r1 t=>
  cases t with
  |cons _ _=>exact(h:False).elim
  |nil=>
   rename_i y u
   have q:ai RV X.K ι (match VM.cj M x with|some (_,xs)=>(if(VM.flat y&&xs.all VM.flat)=true then .ok (.int (xs.countP λz=>VM.gB z y)) M else .bad)|none=>.bad) Q:=by
    unfold VM.kJ at h;cases e:VM.cj M x with
    |none=>rw[e] at h;exact h
    |some z=>rw[e] at h;exact h
   cases e:VM.cj M x with
   |none=>rw[e] at q;exact(q:False).elim
   |some z=>
    obtain⟨a,xs⟩:=z;rw[e] at q;have q2:ai RV X.K ι (if(VM.flat y&&xs.all VM.flat)=true then .ok (.int (xs.countP λz=>VM.gB z y)) M else .bad) Q:=q;obtain⟨p,us,rfl,hp,hm,rfl,h1,r2⟩:=R.cj e rx;by_cases hf:(VM.flat y&&xs.all VM.flat)=true
    ·rw[aaN hf] at q2;rw[aaT] at hf;refine⟨⟨p,us,rfl,cc.of h1⟩,p,us,u,rfl,rfl,h1,r1.flat hf.1,bB.flat r2 hf.2,?_⟩;rw[DE r1 hf.1 r2 hf.2];exact ai.ok (b:=V.int _) q2 R rfl
    ·rw[aaO hf] at q2;exact(q2:False).elim
end
section
variable{X:Cx}
def Rz{a:Expr}{m:VM.EM}{pos}(ha:SE X a m):SE X (.UnaryOp .USub a pos) (VM.A_ m):=by
 obtain⟨ta,pa,ka⟩:=ha;refine⟨_,R_ Qm pa,λι M H σ τ Q R S h=>?_⟩;refine ka ι M H σ τ _ R S (ai.seq h λaz H1 x M1 u p1 R1 r1 h1=>?_);cases x with
 |int i=>cases r1;exact⟨i,rfl,ai.ok (b:=V.int (-i)) h1 R1 rfl⟩
 |_=>exact(h1:False).elim
def DG{a b c:Expr}{f g:VM.dh}{m n o:VM.EM}{op op':CmpOp}{r r':R2}{ta tb tc:TE}(ko:∀ι M H x y v u Q,Rel X.K ι M H->RV ι x v->RV ι y u->ai RV X.K ι (f x y M) Q->r v u H Q)(tW:∀ι M H x y v u Q,Rel X.K ι M H->RV ι x v->RV ι y u->ai RV X.K ι (g x y M) Q->r' v u H Q)(ka:∀ι M H σ τ Q,Rel X.K ι M H->bG ι σ τ->ai RV X.K ι (m σ M) Q->ta τ H Q)(kb:∀ι M H σ τ Q,Rel X.K ι M H->bG ι σ τ->ai RV X.K ι (n σ M) Q->tb τ H Q)(kc:∀ι M H σ τ Q,Rel X.K ι M H->bG ι σ τ->ai RV X.K ι (o σ M) Q->tc τ H Q):
 ∀ι M H σ τ Q,Rel X.K ι M H->bG ι σ τ->ai RV X.K ι (VM.jR f g m n o σ M) Q->Ao r r' ta tb tc τ H Q:=by
 intro ι M H σ τ Q R S h;refine ka ι M H σ τ _ R S (ai.seq h λaz H1 x M1 u p1 R1 r1 h1=>?_);refine kb az M1 H1 σ τ _ R1 (S.mono p1) (ai.seq h1 λaU H2 y M2 v p2 R2 r2 h2=>?_);refine ko aU M2 H2 x y u v _ R2 (r1.mono p2) r2 (ai.seq h2 λcS H3 z M3 t p3 R3 r3 h3=>?_);cases z with
 |bl k=>
  cases r3;refine⟨k,rfl,?_⟩;cases k with
  |false=>exact ai.ok (b:=V.bl false) h3 R3 rfl
  |true=>have h4:ai RV X.K cS ((o σ M3).bind λw M4=>g y w M4) Q:=h3;refine kc cS M3 H3 σ τ _ R3 (S.mono (abt p1 (abt p2 p3))) (ai.seq h4 λgG H4 w M4 q p4 R4 r4 h5=>?_);exact tW gG M4 H4 y w v q Q R4 ((r2.mono p3).mono p4) r4 h5
 |ao=>exact(h3:False).elim
 |int _=>exact(h3:False).elim
 |str _=>exact(h3:False).elim
 |ref _=>exact(h3:False).elim
def Nk{a b c:Expr}{f g:VM.dh}{m n o:VM.EM}{op op':CmpOp}{pos}(ho:dX X (compareOp op) f)(dn:dX X (compareOp op') g)(ha:SE X a m)(hb:SE X b n)(hc:SE X c o)(hm:lastMarks [op,op'] [b,c]=false:=by with_unfolding_all rfl):SE X (.Compare a [op,op'] [b,c] pos) (VM.jR f g m n o):=by obtain⟨r,po,ko⟩:=ho;obtain⟨r',CT,tW⟩:=dn;obtain⟨ta,pa,ka⟩:=ha;obtain⟨tb,pb,kb⟩:=hb;obtain⟨tc,pc,kc⟩:=hc;exact⟨_,Mn po CT pa pb pc hm,DG (a:=a) (b:=b) (c:=c) (op:=op) (op':=op') ko tW ka kb kc⟩
def Nl{a b c:Expr}{f g:VM.dh}{m n o:VM.EM}{op op':CmpOp}{pos}(ho:dX X (compareOp op) f)(dn:dX X (compareOp op') g)(ha:SE X a m)(hb:SE X b n)(hc:SE X c o)(hm:lastMarks [op,op'] [b,c]=false:=by with_unfolding_all rfl):gF X (.Compare a [op,op'] [b,c] pos) (VM.tB (VM.jR f g m n o)):=by
 obtain⟨r,po,ko⟩:=ho;obtain⟨r',CT,tW⟩:=dn;obtain⟨ta,pa,ka⟩:=ha;obtain⟨tb,pb,kb⟩:=hb;obtain⟨tc,pc,kc⟩:=hc;refine⟨_,Mo po CT pa pb pc hm,λι M H σ τ Q R S h=>?_⟩;refine DG (a:=a) (b:=b) (c:=c) (op:=op) (op':=op') ko tW ka kb kc ι M H σ τ _ R S (ai.seq h λaz H1 x M1 u p1 R1 r1 h1=>?_);cases x with
 |bl k=>cases r1;exact⟨k,rfl,ai.ok h1 R1 rfl⟩
 |ao=>exact(h1:False).elim
 |int _=>exact(h1:False).elim
 |str _=>exact(h1:False).elim
 |ref _=>exact(h1:False).elim
end
def eK.val{ι:List Addr}{kvs:List (Int×VM.W)}{ks:List (Key×V)}(r:eK ι kvs ks)(k:Int): (VM.aW kvs k=none/\de ks (Sum.inl k)=none)\/∃w v,VM.aW kvs k=some w/\de ks (Sum.inl k)=some v/\RV ι w v:=by
 induction r with
 |nil=>exact .inl ⟨rfl,rfl⟩
 | @cons p q ps qs h t ih=>
   obtain⟨h1,h2⟩:=h;by_cases e:p.1=k
   ·refine .inr ⟨p.2,q.2,by simp[VM.aW,ab3,e],uC (by rw[h1,e]),h2⟩
   ·have e1:VM.aW (p::ps) k=VM.aW ps k:=by simp[VM.aW,ab3,e]
    have e2:de (q::qs) (Sum.inl k:Key)=de qs (Sum.inl k):=uD (by rw[h1];intro z;exact e (ac6 z));rw[e1,e2];exact ih
def eK.sG{ι:List Addr}{kvs:List (Int×VM.W)}{ks:List (Key×V)}(r:eK ι kvs ks)(k:Int){w:VM.W}{v:V}(rv:RV ι w v):
 eK ι (kvs.map λkv=>if kv.1=k then(kv.1,w) else kv) (ks.map λkv=>if kv.1=(Sum.inl k:Key) then(kv.1,v) else kv):=by
 induction r with
 |nil=>exact .nil
 | @cons p q ps qs h t ih=>
   obtain⟨h1,h2⟩:=h;rw[aa8,aa8];refine .cons ?_ ih;by_cases e:p.1=k
   ·rw[aaN e,aaN (by rw[h1,e])];exact⟨h1,rv⟩
   ·rw[aaO e,aaO (by rw[h1];intro z;exact e (ac6 z))];exact⟨h1,h2⟩
def pI(k:Int)(kvs:List (Int×VM.W)):(kvs.any λkv=>decide (kv.1=k))=(VM.aW kvs k).isSome:=by unfold VM.aW;rw[adC,List.isSome_find?]
def eK.put{ι:List Addr}{kvs:List (Int×VM.W)}{ks:List (Key×V)}(r:eK ι kvs ks)(k:Int){w:VM.W}{v:V}(rv:RV ι w v):eK ι (VM.dput kvs k w) (putK ks (Sum.inl k) v):=by
 unfold VM.dput putK;rw[pI,zw];rcases r.val k with⟨e1,e2⟩|⟨_,_,e1,e2,_⟩
 ·rw[e1,e2];exact Paired.app r (.cons ⟨rfl,rv⟩ .nil)
 ·rw[e1,e2];exact r.sG k rv
def eK.drop{ι:List Addr}{kvs:List (Int×VM.W)}{ks:List (Key×V)}(r:eK ι kvs ks)(k:Int):eK ι (VM.iD kvs k) (mm ks (Sum.inl k)):=by
 induction r with
 |nil=>exact .nil
 | @cons p q ps qs h t ih=>
   unfold VM.iD mm at ih⊢;rw[ab5,ab5];by_cases e:p.1=k
   ·rw[aaO (by simp[e]),aaO (by simp[h.1,e])];exact ih
   ·have e':¬q.1=(Sum.inl k:Key):=by rw[h.1];intro z;exact e (ac6 z)
    rw[aaN (by simp[e]),aaN (by simp[e'])];exact .cons h ih
section
variable{K:Fg}{ι:List Addr}{M:VM.Mem}{H:Hp}
def Rel.cp(R:Rel K ι M H){w:VM.W}{a:Nat}{kvs:List (Int×VM.W)}{v:V}(e:VM.cp M w=some (a,kvs))(r:RV ι w v):∃p ks,w=.ref a/\ι[a]? =some p/\M[a]? =some (.aI kvs)/\v=.ref p/\H p=some (.dK ks)/\eK ι kvs ks:=by
 cases w with
 |ref b=>
  obtain⟨p,hp,rfl⟩:=r;simp only[VM.cp] at e;cases hm:M[b]? with
  |none=>rw[hm] at e;cases e
  |some o=>
   rw[hm] at e;have ro:=R.obj b p o hp hm;cases o with
   |aI ys=>cases e;obtain⟨vs,h1,h2⟩:=ro;exact⟨p,vs,rfl,hp,hm,rfl,h1,h2⟩
   |lst ys=>cases e
   |bf ys=>cases e
   |tup ys=>cases e
   |ins c ys=>cases e
   |d8 x=>cases e
   |a6 g x=>cases e
   |cw=>cases e
   |dr c=>cases e
 |ao=>cases e
 |bl _=>cases e
 |int _=>cases e
 |str _=>cases e
def Rel.fU(R:Rel K ι M H){w:VM.W}{a:Nat}{c:List Nat}{fs:List (List Nat×VM.W)}{v:V}(e:VM.fU M w=some (a,c,fs))(r:RV ι w v):
 ∃p C dx gs,w=.ref a/\ι[a]? =some p/\M[a]? =some (.ins c fs)/\v=.ref p/\PySem.W.nsIn K mainGlobals (txt c)=some (some (.ref C))/\H p=some (.ins C dx gs)/\jF ι fs gs:=by
 cases w with
 |ref b=>
  obtain⟨p,hp,rfl⟩:=r;simp only[VM.fU] at e;cases hm:M[b]? with
  |none=>rw[hm] at e;cases e
  |some o=>
   rw[hm] at e;have ro:=R.obj b p o hp hm;cases o with
   |ins c' ys=>cases e;obtain⟨C,dx,gs,n,h1,h2⟩:=ro;exact⟨p,C,dx,gs,rfl,hp,hm,rfl,n,h1,h2⟩
   |lst ys=>cases e
   |bf ys=>cases e
   |tup ys=>cases e
   |aI ys=>cases e
   |d8 x=>cases e
   |a6 g x=>cases e
   |cw=>cases e
   |dr c=>cases e
 |ao=>cases e
 |bl _=>cases e
 |int _=>cases e
 |str _=>cases e
def vk(R:Rel K ι M H){w:VM.W}{v:V}(e:VM.qc M w=true)(r:RV ι w v):∃p,v=.ref p/\qE H p:=by
 unfold VM.qc at e;cases h:VM.cp M w with
 |none=>rw[h] at e;cases e
 |some z=>obtain⟨a,kvs⟩:=z;obtain⟨p,ks,_,_,_,rfl,h1,_⟩:=R.cp h r;exact⟨p,rfl,.inl ⟨ks,.inl h1⟩⟩
end
def KO(x y:VM.W)(M:VM.Mem):(VM.sJ x y M=.bad)\/∃(i:Int) (a:Nat) (kvs:List (Int×VM.W)),y=.int i/\VM.cp M x=some (a,kvs)/\VM.sJ x y M=(match VM.aW kvs i with|some v=>.ok v M|none=>.bad):=by
 unfold VM.sJ;cases y with
 |int i=>cases e:VM.cp M x with
  |none=>exact .inl rfl
  |some q=>exact .inr ⟨i,q.1,q.2,rfl,rfl,rfl⟩
 |ao=>exact .inl rfl
 |bl _=>exact .inl rfl
 |str _=>exact .inl rfl
 |ref _=>exact .inl rfl
def Kh(x y:VM.W)(M:VM.Mem)(z:VM.W):(VM.dO x y z M=.bad)\/∃(i:Int) (a:Nat) (kvs:List (Int×VM.W)),y=.int i/\VM.cp M x=some (a,kvs)/\VM.dO x y z M=.ok ((VM.aW kvs i).getD z) M:=by
 unfold VM.dO;cases y with
 |int i=>cases e:VM.cp M x with
  |none=>exact .inl rfl
  |some q=>exact .inr ⟨i,q.1,q.2,rfl,rfl,rfl⟩
 |ao=>exact .inl rfl
 |bl _=>exact .inl rfl
 |str _=>exact .inl rfl
 |ref _=>exact .inl rfl
def Ki(x y:VM.W)(M:VM.Mem)(z:VM.W):(VM.i5 x y z M=.bad)\/∃(i:Int) (a:Nat) (kvs:List (Int×VM.W)),y=.int i/\VM.cp M x=some (a,kvs)/\VM.i5 x y z M=(match VM.aW kvs i with|some v=>.ok v M|none=>if kvs.length<VM.lim then .ok z (M.set a (.aI (VM.dput kvs i z))) else .bad):=by
 unfold VM.i5;cases y with
 |int i=>cases e:VM.cp M x with
  |none=>exact .inl rfl
  |some q=>exact .inr ⟨i,q.1,q.2,rfl,rfl,rfl⟩
 |ao=>exact .inl rfl
 |bl _=>exact .inl rfl
 |str _=>exact .inl rfl
 |ref _=>exact .inl rfl
def KP(x y:VM.W)(M:VM.Mem):(VM.qm x y M=.bad)\/∃(i:Int) (a:Nat) (kvs:List (Int×VM.W)),y=.int i/\VM.cp M x=some (a,kvs)/\VM.qm x y M=(match VM.aW kvs i with|some v=>.ok v (M.set a (.aI (VM.iD kvs i)))|none=>.bad):=by
 unfold VM.qm;cases y with
 |int i=>cases e:VM.cp M x with
  |none=>exact .inl rfl
  |some q=>exact .inr ⟨i,q.1,q.2,rfl,rfl,rfl⟩
 |ao=>exact .inl rfl
 |bl _=>exact .inl rfl
 |str _=>exact .inl rfl
 |ref _=>exact .inl rfl
def L8(x y:VM.W)(M:VM.Mem)(neg:Bool):(VM.mL neg y x M=.bad)\/∃(i:Int) (a:Nat) (kvs:List (Int×VM.W)),y=.int i/\VM.cp M x=some (a,kvs)/\VM.mL neg y x M=.ok (.bl ((VM.aW kvs i).isSome != neg)) M:=by
 unfold VM.mL;cases y with
 |int i=>cases e:VM.cp M x with
  |none=>exact .inl rfl
  |some q=>exact .inr ⟨i,q.1,q.2,rfl,rfl,rfl⟩
 |ao=>exact .inl rfl
 |bl _=>exact .inl rfl
 |str _=>exact .inl rfl
 |ref _=>exact .inl rfl
def KQ(x y:VM.W)(M:VM.Mem)(v:VM.W)(σ:VM.St):(VM.qo x y v σ M=.bad)\/∃(i:Int) (a:Nat) (kvs:List (Int×VM.W)),y=.int i/\VM.cp M x=some (a,kvs)/\VM.qo x y v σ M=(if kvs.length<VM.lim then .nx σ (M.set a (.aI (VM.dput kvs i v))) else .bad):=by
 unfold VM.qo;cases y with
 |int i=>cases e:VM.cp M x with
  |none=>exact .inl rfl
  |some q=>exact .inr ⟨i,q.1,q.2,rfl,rfl,rfl⟩
 |ao=>exact .inl rfl
 |bl _=>exact .inl rfl
 |str _=>exact .inl rfl
 |ref _=>exact .inl rfl
section
variable{X:Cx}
def Pf{pos}:SE X (.Dict [] [] pos) VM.sr:=by refine⟨_,Mw,λι M H σ τ Q R S h p hp=>?_⟩;refine h (ι++[p]) _ _ ⟨[p],rfl⟩ (R.new hp λaw pre=>⟨[],dA,.nil⟩) ⟨p,?_,rfl⟩;rw[<-R.len];simp
def Pg{o i:Expr}{d k:VM.EM}{pos}(hu:X.A.units+1<cLine)(ho:SE X o d)(hi:SE X i k)(hs:A9 i:=by intro _ _;rfl):SE X (.Subscript o i pos) (VM.nM d k):=by
 obtain⟨td,pd,kd⟩:=ho;obtain⟨tk,pk,kk⟩:=hi;refine⟨_,Ot hu pd pk hs,λι M H σ τ Q R S h=>?_⟩;refine kd ι M H σ τ _ R S (ai.seq h λaz H1 x M1 u p1 R1 r1 h1=>?_);refine kk az M1 H1 σ τ _ R1 (S.mono p1) (ai.seq h1 λaU H2 y M2 v p2 R2 r2 h2=>?_);rcases KO x y M2 with zz|⟨n,a,kvs,rfl,e,zz⟩
 ·rw[zz] at h2;exact(h2:False).elim
 rw[zz] at h2;have h3:=h2;obtain⟨p,ks,_,_,_,rfl,hp,rk⟩:=R2.cp e (r1.mono p2);cases r2;rcases rk.val n with⟨e1,_⟩|⟨w',v',e1,e2,rv⟩
 ·rw[e1] at h3;exact(h3:False).elim
 ·rw[e1] at h3;exact⟨p,v',rfl,by have:=gq.k (k:=(Sum.inl n:Key)) hp;rw[e2] at this;exact this,ai.ok h3 R2 rv⟩
def DH{ι:List Addr}{M:VM.Mem}{H:Hp}{x y z:VM.W}{p:Addr}{v u:V}{Q:VK}(R:Rel X.K ι M H)(rx:RV ι x (.ref p))(ry:RV ι y v)(rz:RV ι z u)(h:ai RV X.K ι (VM.dO x y z M) Q):∃o,gq H p v o/\Q (o.getD u) H:=by
 rcases Kh x y M z with zz|⟨n,a,kvs,rfl,e,zz⟩
 ·rw[zz] at h;exact(h:False).elim
 rw[zz] at h;have h3:=h;obtain⟨p',ks,_,_,_,ep,hp,rk⟩:=R.cp e rx;cases ep;cases ry;refine⟨de ks (Sum.inl n),gq.k (k:=(Sum.inl n:Key)) hp,?_⟩;rcases rk.val n with⟨e1,e2⟩|⟨w',v',e1,e2,rv⟩
 ·rw[e1] at h3;rw[e2];exact ai.ok h3 R rz
 ·rw[e1] at h3;rw[e2];exact ai.ok h3 R rv
def r9{α β:Type}{rel:List Addr->α->β->Prop}{K:Fg}{ι:List Addr}{c:Bool}{r:VM.R α}{Q:β->Hp->Prop}(h:ai rel K ι (if c=true then r else .bad) Q):c=true/\ai rel K ι r Q:=by
 cases c with
 |true=>rw[aaN rfl] at h;exact⟨rfl,h⟩
 |false=>rw[aaO aa4] at h;exact(h:False).elim
def Nm{o e:Expr}{d k:VM.EM}{apos a9}(hu:X.A.units+1<cLine)(ho:SE X o d)(he:SE X e k)(m:M1 X o "get" apos e a9):SE X (.Call (.Attribute o "get" apos) [e] [] a9) (VM.jv (λx y=>VM.dO x y .ao) d k):=by obtain⟨td,pd,kd⟩:=ho;obtain⟨tk,pk,kk⟩:=he;refine⟨_,Mx hu pd pk m,λι M H σ τ Q R S h=>?_⟩;refine kd ι M H σ τ _ R S (ai.seq h λaz H1 x M1 u p1 R1 r1 h1=>?_);obtain⟨hd,h1⟩:=r9 h1;obtain⟨p,rfl,hp⟩:=vk R1 hd r1;refine⟨p,rfl,hp,kk az M1 H1 σ τ _ R1 (S.mono p1) (ai.seq h1 λaU H2 y M2 v p2 R2 r2 h2=>?_)⟩;exact DH (z:=.ao) (u:=.ao) R2 (r1.mono p2) r2 rfl h2
def Nn{o e f:Expr}{d k z:VM.EM}{apos a9}(hu:X.A.units+1<cLine)(ho:SE X o d)(he:SE X e k)(hf:SE X f z)(m:M2 X o "get" apos e f a9):SE X (.Call (.Attribute o "get" apos) [e,f] [] a9) (VM.gC VM.dO d k z):=by obtain⟨td,pd,kd⟩:=ho;obtain⟨tk,pk,kk⟩:=he;obtain⟨tz,pz,kz⟩:=hf;refine⟨_,My hu pd pk pz m,λι M H σ τ Q R S h=>?_⟩;refine kd ι M H σ τ _ R S (ai.seq h λaz H1 x M1 u p1 R1 r1 h1=>?_);obtain⟨hd,h1⟩:=r9 h1;obtain⟨p,rfl,hp⟩:=vk R1 hd r1;refine⟨p,rfl,hp,kk az M1 H1 σ τ _ R1 (S.mono p1) (ai.seq h1 λaU H2 y M2 v p2 R2 r2 h2=>?_)⟩;refine kz aU M2 H2 σ τ _ R2 ((S.mono p1).mono p2) (ai.seq h2 λcS H3 w M3 t p3 R3 r3 h3=>?_);exact DH R3 ((r1.mono p2).mono p3) (r2.mono p3) r3 h3
def RA(td ty tx:TE):TE:=λσ H Q=>td σ H λx H1=>∃a,x=.ref a/\qE H1 a/\ty σ H1 λy H2=>tx σ H2 λz H3=>∃kvs k,H3 a=some (.dK kvs)/\y=kV k/\ (∀v,de kvs k=some v->Q v H3)/\(de kvs k=none->kvs.length<sizeLine/\Q z (upd H3 a (.dK (putK kvs k z))))
def Np{pins:List (Addr×Obj)}{σ:L2.St}{H:Hp}{s:Shared}{a:Addr}{kvs:List (Key×V)}{k:Key}{u r:Value}{z:V}{A:Around}{E:Value->Shared->Prop}{Q:Value->Shared->Prop}(I:Inv X pins σ H s)(e:H a=some (.dK kvs))(ry:RelV (kV k) u)(rz:RelV z r)(h1:∀v w' s',de kvs k=some v->Inv X pins σ H s'->RelV v w'->Q w' s')(h2:de kvs k=none->kvs.length<sizeLine/\∀s',Inv X pins σ (upd H a (.dK (putK kvs k z))) s'->Q r s'):wpAny (model X.prog X.w) A (call (.builtin "dict.setdefault") [.ref a,u,r]) Q E s:=by
 obtain⟨hz,hd,vs,rel,dd⟩:=so I.aE e;refine aci aei dd.typeIs PySem.F.entry_dict_setdefault (PySem.F.args_dict_setdefault_3 _ _ _) (kt_meets_setdefault (dB X.prog X.w) a (kM ry) hd r)
  ⟨vs,dd,by rw[<-rel.length];exact hz,λw' hw=>?_,λhn h' iM hs=>?_⟩
 ·have rl:=rel.val k;rw[hw] at rl;cases q:de kvs k with
  |none=>rw[q] at rl;exact(rl:False).elim
  |some v=>rw[q] at rl;exact h1 v w' _ q (I.tok _) rl
 ·have rl:=rel.val k;rw[hn] at rl;cases q:de kvs k with
  |some v=>rw[q] at rl;exact(rl:False).elim
  |none=>
   obtain⟨hl,hQ⟩:=h2 q;have he:∃q,h'.get? a=some q:=let⟨q,_,_,hq,_⟩:=iM;⟨q,hq⟩
   refine hQ _ (se I (by rw[e];exact True.intro) hs he (u7 ?_ hd (rel.put k rz) iM));have:=yP kvs k z;omega
def Nq{o e f:Expr}{apos a9:Pos}{td ty tx:TE}(ho:PE X o td)(he:PE X e ty)(hf:PE X f tx)(m:M2 X o "setdefault" apos e f a9):PE X (.Call (.Attribute o "setdefault" apos) [e,f] [] a9) (RA td ty tx):=by
 intro pins s σ H Q I h;refine acR m.base m.ot m.line acS aei PySem.F.type_dict_setdefault (aK (ho pins s σ H _ I h) λu s1 ⟨x,H1,I1,rx,a,ex,d,q1⟩=>?_);subst ex;obtain rfl:u=Value.ref a:=rx;obtain⟨t1,t2,_⟩:=sg I1 d;refine⟨t1,t2,?_⟩;rw[m.trees];refine acu rfl (acF (ab9 (aK (he pins s1 σ H1 _ I1 q1) λiv s2 ⟨y,H2,I2,ry,q2⟩=>ab9 (aK (hf pins s2 σ H2 _ I2 q2) λfv s3 ⟨z,H3,I3,rz,kvs,k,ea,ey,q3,q4⟩=>acr ?_))))
 subst ey;exact Np I3 ea ry rz (λv w' s4 l I4 dE=>⟨v,H3,I4,dE,q3 v l⟩) λl=>⟨(q4 l).1,λs4 I4=>⟨z,_,I4,rz,(q4 l).2⟩⟩
def Nr{o e f:Expr}{d k z:VM.EM}{apos a9}(ho:SE X o d)(he:SE X e k)(hf:SE X f z)(m:M2 X o "setdefault" apos e f a9):SE X (.Call (.Attribute o "setdefault" apos) [e,f] [] a9) (VM.gC VM.i5 d k z):=by
 obtain⟨td,pd,kd⟩:=ho;obtain⟨tk,pk,kk⟩:=he;obtain⟨tz,pz,kz⟩:=hf;refine⟨_,Nq pd pk pz m,λι M H σ τ Q R S h=>?_⟩;refine kd ι M H σ τ _ R S (ai.seq h λaz H1 x M1 u p1 R1 r1 h1=>?_);obtain⟨hd,h1⟩:=r9 h1;obtain⟨p,rfl,hp⟩:=vk R1 hd r1;refine⟨p,rfl,hp,kk az M1 H1 σ τ _ R1 (S.mono p1) (ai.seq h1 λaU H2 y M2 v p2 R2 r2 h2=>?_)⟩;refine kz aU M2 H2 σ τ _ R2 ((S.mono p1).mono p2) (ai.seq h2 λcS H3 w M3 t p3 R3 r3 h3=>?_);rcases Ki x y M3 w with zz|⟨n,a,kvs,rfl,e,zz⟩
 ·rw[zz] at h3;exact(h3:False).elim
 rw[zz] at h3;have h4:=h3;obtain⟨p',ks,_,ha,hm,ep,oR,rk⟩:=R3.cp e ((r1.mono p2).mono p3);cases ep;cases r2;refine⟨ks,Sum.inl n,oR,rfl,λv' l=>?_,λl=>?_⟩
 ·rcases rk.val n with⟨_,e2⟩|⟨w',v2,e1,e2,rv⟩
  ·rw[e2] at l;cases l
  ·rw[e2] at l;cases l;rw[e1] at h4;exact ai.ok h4 R3 rv
 ·rcases rk.val n with⟨e1,_⟩|⟨w',v2,e1,e2,rv⟩
  ·rw[e1] at h4;have h5:ai RV X.K cS (if kvs.length<VM.lim then .ok w (M3.set a (.aI (VM.dput kvs n w))) else .bad) Q:=h4;by_cases hl:kvs.length<VM.lim
   ·rw[aaN hl] at h5;refine⟨by rw[<-Paired.len rk];exact hl,?_⟩;exact h5 cS _ _ d9 (R3.n4 ha hm rfl rfl ⟨_,dA,rk.put n r3⟩) r3
   ·rw[aaO hl] at h5;exact(h5:False).elim
  ·rw[e2] at l;cases l
def Nt{o e:Expr}{d k:VM.EM}{apos a9}(ho:SE X o d)(he:SE X e k)(m:M1 X o "pop" apos e a9):SE X (.Call (.Attribute o "pop" apos) [e] [] a9) (VM.jv VM.qm d k):=by
 obtain⟨td,pd,kd⟩:=ho;obtain⟨tk,pk,kk⟩:=he;refine⟨_,Mz pd pk m,λι M H σ τ Q R S h=>?_⟩;refine kd ι M H σ τ _ R S (ai.seq h λaz H1 x M1 u p1 R1 r1 h1=>?_);obtain⟨hd,h1⟩:=r9 h1;obtain⟨p,rfl,hp⟩:=vk R1 hd r1;refine⟨p,rfl,hp,kk az M1 H1 σ τ _ R1 (S.mono p1) (ai.seq h1 λaU H2 y M2 v p2 R2 r2 h2=>?_)⟩;rcases KP x y M2 with zz|⟨n,a,kvs,rfl,e,zz⟩
 ·rw[zz] at h2;exact(h2:False).elim
 rw[zz] at h2;have h4:=h2;obtain⟨p',ks,_,ha,hm,ep,oR,rk⟩:=R2.cp e (r1.mono p2);cases ep;cases r2;rcases rk.val n with⟨e1,_⟩|⟨w',v2,e1,e2,rv⟩
 ·rw[e1] at h4;exact(h4:False).elim
 ·rw[e1] at h4;exact⟨ks,Sum.inl n,v2,oR,rfl,e2,h4 aU _ _ d9 (R2.n4 ha hm rfl rfl ⟨_,dA,rk.drop n⟩) rv⟩
def Nu{ι:List Addr}{M:VM.Mem}{H:Hp}{neg:Bool}{x y:VM.W}{u v:V}{Q:VK}(R:Rel X.K ι M H)(rx:RV ι x u)(ry:RV ι y v)(h:ai RV X.K ι (VM.mL neg y x M) Q):∃a o,u=.ref a/\gq H a v o/\Q (.bl (o.isSome != neg)) H:=by
 rcases L8 x y M neg with zz|⟨n,a,kvs,rfl,e,zz⟩
 ·rw[zz] at h;exact(h:False).elim
 rw[zz] at h;have h3:=h;obtain⟨p,ks,_,_,_,rfl,hp,rk⟩:=R.cp e rx;cases ry;refine⟨p,de ks (Sum.inl n),rfl,gq.k (k:=(Sum.inl n:Key)) hp,?_⟩;have es:(VM.aW kvs n).isSome=(de ks (Sum.inl n:Key)).isSome:=by rcases rk.val n with⟨e1,e2⟩|⟨w',v',e1,e2,rv⟩<;>rw[e1,e2]<;>rfl
 rw[es] at h3;exact ai.ok (b:=V.bl _) h3 R rfl
def L9(hu:X.A.units+1<cLine):dX X (compareOp .NotIn) (VM.mL true):=by
 refine⟨λx y H Q=>∃a o,y=.ref a/\gq H a x o/\Q (.bl (!o.isSome)) H,λpins s σ H x y v u Q I rx ry h=>?_,λι M H x y v u Q R rx ry h=>?_⟩
 ·obtain⟨a,o,rfl,g,q⟩:=h;obtain rfl:u=Value.ref a:=ry;exact Oo hu I g rx λs3 I3=>⟨.bl (!o.isSome),H,I3,rfl,q⟩
 ·obtain⟨a,o,e,g,q⟩:=Nu R ry rx h;exact⟨a,o,e,g,by simpa using q⟩
def Ph{o i value:Expr}{d k e:VM.EM}{pos pos'}(hu:X.A.units+1<cLine)(ho:SE X o d)(hi:SE X i k)(hv:SE X value e)(hs:swapsWith value (some (.Subscript o i pos')) pos.line X.env=pure false:=by rfl):
 SS X (.Assign [.Subscript o i pos'] value pos) (VM.jm d k e):=by
 obtain⟨td,pd,kd⟩:=ho;obtain⟨tk,pk,kk⟩:=hi;obtain⟨tv,pv,kv⟩:=hv;refine⟨_,Ou hu pd pk pv hs,λι M H σ τ D R S h=>?_⟩;refine kv ι M H σ τ _ R S (bc.seq h λaz H1 v M1 t p1 R1 r1 h1=>?_);refine kd az M1 H1 σ τ _ R1 (S.mono p1) (bc.seq h1 λaU H2 x M2 u p2 R2 r2 h2=>?_);refine kk aU M2 H2 σ τ _ R2 ((S.mono p1).mono p2) (bc.seq h2 λcS H3 y M3 z p3 R3 r3 h3=>?_);rcases KQ x y M3 v σ with zz|⟨n,a,kvs,rfl,e,zz⟩
 ·rw[zz] at h3;exact(h3:False).elim
 rw[zz] at h3;have h4:=h3;obtain⟨p,ks,_,ha,hm,rfl,hp,rk⟩:=R3.cp e (r2.mono p3);cases r3;have h5:bc X.K cS (if kvs.length<VM.lim then .nx σ (M3.set a (.aI (VM.dput kvs n v))) else .bad) D:=h4;by_cases hl:kvs.length<VM.lim
 ·rw[aaN hl] at h5;refine⟨p,_,rfl,sH.k (k:=(Sum.inl n:Key)) hp (by rw[<-Paired.len rk];exact hl),?_⟩;exact h5 cS _ _ d9 (R3.n4 ha hm rfl rfl ⟨_,dA,rk.put n ((r1.mono p2).mono p3)⟩) (((S.mono p1).mono p2).mono p3)
 ·rw[aaO hl] at h5;exact(h5:False).elim
def jF.get{ι:List Addr}{fs:List (List Nat×VM.W)}{gs:List (Str×V)}(r:jF ι fs gs)(f:List Nat):(VM.c9 f fs=none/\gs.lookup (txt f)=none)\/∃w v,VM.c9 f fs=some w/\gs.lookup (txt f)=some v/\RV ι w v:=by
 induction r with
 |nil=>exact .inl ⟨rfl,rfl⟩
 | @cons p q ps qs h t ih=>
   obtain⟨g,x⟩:=p;obtain⟨g',y⟩:=q;obtain⟨h1,h2⟩:=h;have h1:g'=txt g:=h1;subst h1;by_cases e:g=f
   ·subst e;refine .inr ⟨x,y,aaN rfl,?_,h2⟩;simp[List.lookup]
   ·have e1:VM.c9 f ((g,x)::ps)=VM.c9 f ps:=aaO e;have e2:List.lookup (txt f) ((txt g,y)::qs)=List.lookup (txt f) qs:=by
     have:(txt f==txt g)=false:=by rw[ab1];exactλz=>e (uX z).symm
     simp only[List.lookup,this]
    rw[e1,e2];exact ih
def jF.bU{ι:List Addr}{fs:List (List Nat×VM.W)}{gs:List (Str×V)}(r:jF ι fs gs)(f:List Nat){w:VM.W}{v:V}(rv:RV ι w v):jF ι (VM.bU f w fs) (L2.bU (txt f) v gs):=by
 induction r with
 |nil=>exact .cons ⟨rfl,rv⟩ .nil
 | @cons p q ps qs h t ih=>
   obtain⟨g,x⟩:=p;obtain⟨g',y⟩:=q;obtain⟨h1,h2⟩:=h;have h1:g'=txt g:=h1;subst h1;by_cases e:g=f
   ·subst e;have e1:VM.bU g w ((g,x)::ps)=(g,w)::ps:=aaN rfl;have e2:L2.bU (txt g) v ((txt g,y)::qs)=(txt g,v)::qs:=aaN rfl;rw[e1,e2];exact .cons ⟨rfl,rv⟩ t
   ·have e1:VM.bU f w ((g,x)::ps)=(g,x)::VM.bU f w ps:=aaO e;have e2:L2.bU (txt f) v ((txt g,y)::qs)=(txt g,y)::L2.bU (txt f) v qs:=aaO λz=>e (uX z)
    rw[e1,e2];exact .cons ⟨rfl,h2⟩ ih
structure mG(K:Fg)(c:List Nat)(C:Addr):Prop where
 at_:PySem.W.nsIn K mainGlobals (txt c)=some (some (.ref C))
 cl:eV K C
def RB{o:Expr}{m:VM.EM}{c f:List Nat}{g:Str}{C:Addr}{pos}(T:mG X.K c C)(hn:iy X.K C g)(ho:SE X o m)(hg:g=txt f:=by first|rfl|decide+kernel)(hb:attributeBase o g X.env (eval o X.env)=eval o X.env:=by rfl):SE X (.Attribute o g pos) (VM.aZ c f m):=by
 subst hg;obtain⟨to,po,ko⟩:=ho;refine⟨_,Qn po hb,λι M H σ τ Q R S h=>?_⟩;refine ko ι M H σ τ _ R S (ai.seq h λaz H1 x M1 u p1 R1 r1 h1=>?_);have h2:ai RV X.K az (match VM.fU M1 x with|some (_,c',fs)=>if c'=c then(match VM.c9 f fs with|some v=>.ok v M1|none=>.bad) else .bad|none=>.bad) Q:=h1;cases e:VM.fU M1 x with
 |none=>rw[e] at h2;exact(h2:False).elim
 |some z=>
  obtain⟨a,c',fs⟩:=z;rw[e] at h2;obtain⟨p,C',dx,gs,_,ha,hm,rfl,hC,hp,rf⟩:=R1.fU e r1;have h3:ai RV X.K az (if c'=c then(match VM.c9 f fs with|some v=>.ok v M1|none=>.bad) else .bad) Q:=h2;by_cases hc:c'=c
  ·subst hc;rw[aaN rfl] at h3;rw[T.at_] at hC;cases hC;rcases rf.get f with⟨e1,_⟩|⟨w,v,e1,e2,rv⟩
   ·rw[e1] at h3;exact(h3:False).elim
   ·rw[e1] at h3;exact⟨p,C,dx,gs,v,rfl,hp,T.cl,hn,e2,ai.ok h3 R1 rv⟩
  ·rw[aaO hc] at h3;exact(h3:False).elim
def RC{o value:Expr}{m e:VM.EM}{c f:List Nat}{g:Str}{C:Addr}{pos pos'}(T:mG X.K c C)(hn:iy X.K C g)(ho:SE X o m)(hv:SE X value e)(hg:g=txt f:=by first|rfl|decide+kernel)(hs:swapsWith value (some (.Attribute o g pos')) pos.line X.env=pure false:=by rfl):
 SS X (.Assign [.Attribute o g pos'] value pos) (VM.jX c f m e):=by
 subst hg;obtain⟨to,po,ko⟩:=ho;obtain⟨tv,pv,kv⟩:=hv;refine⟨_,Qo po pv hs,λι M H σ τ D R S h=>?_⟩;refine kv ι M H σ τ _ R S (bc.seq h λaz H1 v M1 t p1 R1 r1 h1=>?_);refine ko az M1 H1 σ τ _ R1 (S.mono p1) (bc.seq h1 λaU H2 x M2 u p2 R2 r2 h2=>?_);have jz:bc X.K aU (match VM.fU M2 x with|some (a,c',fs)=>if c'=c/\fs.length<1000 then .nx σ (M2.set a (.ins c (VM.bU f v fs))) else .bad|none=>.bad) D:=h2;cases e:VM.fU M2 x with
 |none=>rw[e] at jz;exact(jz:False).elim
 |some z=>
  obtain⟨a,c',fs⟩:=z;rw[e] at jz;obtain⟨p,C',dx,gs,_,ha,hm,rfl,hC,hp,rf⟩:=R2.fU e r2;have h3:bc X.K aU (if c'=c/\fs.length<1000 then .nx σ (M2.set a (.ins c (VM.bU f v fs))) else .bad) D:=jz;by_cases hc:c'=c/\fs.length<1000
  ·rw[aaN hc] at h3;obtain⟨rfl,hl⟩:=hc;have j9:=hC;rw[T.at_] at j9;cases j9;refine⟨p,C,dx,gs,rfl,hp,T.cl,hn,by rw[<-Paired.len rf];exact hl,?_⟩;exact h3 aU _ _ d9 (R2.n4 ha hm rfl rfl ⟨C,dx,_,hC,dA,rf.bU f (r1.mono p2)⟩) ((S.mono p1).mono p2)
  ·rw[aaO hc] at h3;exact(h3:False).elim
structure tX(P:Program)(w:World)(K:Fg)(mg:Str->Option Value)(base:Heap)(k:Nat)(f:Addr)(fd:FuncData)(ps:List Str)(c:VM.CM):Prop where
 ok:fo P w K mg base ik k f fd ps (oP K ps.length c)
 bi:Binds K fd ps []
 ln:∀ws M,ws.length≠ps.length->c ws M=.bad
def RD{P:Program}{w:World}{K:Fg}{mg:Str->Option Value}{base:Heap}{k:Nat}{x qual:Str}{st:Stmt}{f:Addr}{fd:FuncData}{N ps:List Str}{np n:Nat}{body:VM.SM}(F:jr K x qual st f fd)(S:jP N ps (c_ st))(hb:Binds K fd ps [])(D:∀(bA:Value) (A:Around) (outer:List Env) (s:Shared) (H:Hp) (E:XK),cq k (A.deeper (envOfC qual (c_ st) s.heap.objs.size f bA))->gU (dP ik P w K mg base N qual (c_ st) f bA A outer s H E).eU (iW st) body)(hn:N.length=n:=by rfl)(hp:ps.length=np:=by rfl):tX P w K mg base (k+1) f fd ps (VM.fn np n body):=by
 subst hn hp;refine⟨F.ok S (λvs H Q E h=>h.1) (λbA A outer s H vs Q E hr h=>?_),hb,λws M hw=>aaO hw⟩;obtain⟨hl,ι,M,ws,R,r,h⟩:=h;obtain⟨t,pt,kt⟩:=D bA A outer s H E hr;refine⟨t,pt,kt ι M H _ _ _ R (zl r N) ?_⟩;have hw:ws.length=ps.length:=by rw[Paired.len r];exact hl
 have h2:ai RV K ι (match body (ws.map some++List.replicate (N.length-ps.length) none) M with
  |.rt v M'=>.ok v M'
  |.nx _ M'=>.ok .ao M'
  |.ex v M'=>.ex v M'
  |_=>.bad) Q:=by
  have h':ai RV K ι (if ws.length=ps.length then(match body (ws.map some++List.replicate (N.length-ps.length) none) M with
   |.rt v M'=>.ok v M'
   |.nx _ M'=>.ok .ao M'
   |.ex v M'=>.ex v M'
   |_=>.bad) else .bad) Q:=h
  rw[aaN hw] at h';exact h'
 rw[hw];cases e:body (ws.map some++List.replicate (N.length-ps.length) none) M with
 |nx aA M'=>rw[e] at h2;exactλaw H' cf p R' S'=>h2 aw H' .ao p R' rfl
 |rt v M'=>rw[e] at h2;exact h2
 |bk aA M'=>rw[e] at h2;exact(h2:False).elim
 |ct aA M'=>rw[e] at h2;exact(h2:False).elim
 |ex v M'=>rw[e] at h2;exact(h2:False).elim
 |bad=>rw[e] at h2;exact(h2:False).elim
def Nv{P:Program}{w:World}{K:Fg}{mg:Str->Option Value}{base:Heap}{f:Addr}{fd:FuncData}{ps:List Str}(hb:Binds K fd ps []):tX P w K mg base 0 f fd ps (λ_ _=>.bad):=by
 have no:∀vs H Q E,¬oP K ps.length (λ_ _=>.bad) vs H Q E:=λvs H Q E h=>by obtain⟨_,_,_,_,_,_,h⟩:=h;exact h
 exact⟨⟨λvs H Q E h=>absurd h (no vs H Q E),λA outer s H args us vs Q E _ _ _ _ h=>absurd h (no vs H Q E)⟩,hb,λ_ _ _=>rfl⟩
def Nw{K:Fg}{ι:List Addr}{M:VM.Mem}{H:Hp}{c m:List Nat}{C:Addr}{w:VM.W}{v:V}(T:mG K c C)(R:Rel K ι M H)(e:VM.nO c m M w=true)(r:RV ι w v):∃p dx gs,v=.ref p/\H p=some (.ins C dx gs)/\gs.lookup (txt m)=none:=by
 unfold VM.nO at e;cases h:VM.fU M w with
 |none=>rw[h] at e;cases e
 |some z=>
  obtain⟨a,c',fs⟩:=z;rw[h] at e;have e:(decide (c'=c)&&(VM.c9 m fs).isNone)=true:=e;rw[aaT,abD] at e;obtain⟨rfl,e2⟩:=e;obtain⟨p,C',dx,gs,_,ha,hm,rfl,hC,hp,rf⟩:=R.fU h r;rw[T.at_] at hC;cases hC;refine⟨p,dx,gs,rfl,hp,?_⟩;rcases rf.get m with⟨_,q⟩|⟨w',v',q,_⟩
  ·exact q
  ·rw[q] at e2;cases e2
def AR{K:Fg}{ι:List Addr}{M:VM.Mem}{H:Hp}{ws:List VM.W}{vs:List V}{ps:List Str}{c:VM.CM}{Q:VK}(ln:∀ws M,ws.length≠ps.length->c ws M=.bad)(R:Rel K ι M H)(r:bB ι ws vs)(h:ai RV K ι (c ws M) Q)(E:XK):oP K ps.length c vs H Q E:=by
 by_cases hw:ws.length=ps.length
 ·exact⟨by rw[<-Paired.len r];exact hw,ι,M,ws,R,r,h⟩
 ·rw[ln ws M hw] at h;exact(h:False).elim
def Nx{k:Nat}{c mt:List Nat}{m:Str}{C f:Addr}{fd:FuncData}{ps:List Str}{cm:VM.CM}{o e:Expr}{es:List Expr}{mo:VM.EM}{a:VM.AM}{apos pos:Pos}{pl:Sem Bool}(T:mG X.K c C)(hm:Meth X.K C m f)(F:tX X.prog X.w X.K X.mg X.base k f fd ps cm)(hr:cq k X.A)(ho:SE X o mo)(ha:SA X (e::es) a)(hg:m=txt mt:=by first|rfl|decide+kernel)(bq:starEach (e::es) X.env=(false,eval e X.env)::starEach es X.env:=by rfl)(bI:(backTo pos (starEach es X.env)).any (·.1)=false:=by rfl)(ht:eval (.Call (.Attribute o m apos) (e::es) [] pos) X.env=(do
  let ov<-eval o X.env
  standAt apos.atName
  let(f,first)<-holding [ov] (getMethod ov m pl)
  callWith pos f first (backTo pos (starEach (e::es) X.env)) (backToKw pos (keywordEach [] X.env))):=by rfl):
 SE X (.Call (.Attribute o m apos) (e::es) [] pos) (VM.ji c mt cm mo a):=by
 subst hg;obtain⟨to,po,ko⟩:=ho;obtain⟨ta,pa,ka⟩:=ha;refine⟨_,Oc po T.cl hm F.ok hr F.bi .nil vy pa bq bI ht,λι M H σ τ Q R S h=>?_⟩;refine ko ι M H σ τ _ R S (ai.seq h λaz H1 x M1 u p1 R1 r1 h1=>?_);obtain⟨hi,h1⟩:=r9 h1;obtain⟨p,dx,gs,rfl,hp,hl⟩:=Nw T R1 hi r1;refine⟨p,dx,gs,rfl,hp,hl,ka az M1 H1 σ τ _ R1 (S.mono p1) (ai.seq h1 λaU H2 ws M2 vs p2 R2 r2 h2=>?_)⟩;rw[ab_];exact AR F.ln R2 (.cons (r1.mono p2) r2) h2 _
structure qV(P:Program)(w:World)(K:Fg)(mg:Str->Option Value)(base:Heap)(k:Nat)(x:Str)(np:Nat)(c:VM.CM):Prop where
 run:∀(X:Cx),X.prog=P->X.w=w->X.K=K->X.mg=mg->X.base=base->cq k X.A->∀(e:Expr) (es:List Expr) (a:VM.AM) (p pos:Pos),SA X (e::es) a->Gl X x->(x==("__debug__":Str))=false->
  starEach (e::es) X.env=(false,eval e X.env)::starEach es X.env->(backTo pos (starEach es X.env)).any (·.1)=false->SE X (.Call (.Name x p) (e::es) [] pos) (VM.ak c a)
def Ny{e:Expr}{m:VM.EM}(h:∀σ M,m σ M=.bad\/∃v M',m σ M=.ex v M'):SE X e m:=by
 refine⟨λ_ _ _=>False,λpins s σ H Q I h=>(h:False).elim,λι M H σ τ Q R S q=>?_⟩;rcases h σ M with z|⟨v,M',z⟩
 ·rw[z] at q;exact q
 ·rw[z] at q;exact q
def Nz{P:Program}{w:World}{K:Fg}{mg:Str->Option Value}{base:Heap}{x:Str}{np:Nat}:qV P w K mg base 0 x np (λ_ _=>.bad):=
 ⟨λX _ _ _ _ _ _ e es a p pos _ _ _ _ _=>Ny λσ M=>by
  unfold VM.ak;cases a σ M with
  |ok v M'=>exact .inl rfl
  |ex v M'=>exact .inr ⟨v,M',rfl⟩
  |bad=>exact .inl rfl⟩
def RE{P:Program}{w:World}{K:Fg}{mg:Str->Option Value}{base:Heap}{k:Nat}{x:Str}{cn:List Nat}{C f:Addr}{fd:FuncData}{ps:List Str}{c:VM.CM}(M:Mk K C f)(T:mG K cn C)(hm:mg x=some (.ref C))(F:tX P w K mg base k f fd ps c):qV P w K mg base (k+1) x (ps.length-1) (VM.qF cn c):=by
 refine⟨λX hP hw hK oq hb hr e es a p pos ha hg bO bq bI=>?_⟩;subst hP hw hK oq hb;obtain⟨ta,pa,ka⟩:=ha;refine⟨_,Od M F.ok hr hg hm F.bi .nil vy pa bO bq bI,λι M H σ τ Q R S h=>?_⟩;refine ka ι M H σ τ _ R S (ai.seq h λaz H1 ws M1 vs p1 R1 r1 h1=>?_);intro q dq hq WT fw;rw[ab_];have oi:upd H1 dq (.own q) q=none:=by rw[ba (abc fw)];exact hq
 have R2:Rel X.K az M1 (upd H1 dq (.own q)):=R1.other WT _;have R3:Rel X.K (az++[q]) (M1++[.ins cn []]) (upd (upd H1 dq (.own q)) q (.ins C dq [])):=R2.new oi λaw pre=>⟨C,dq,[],T.at_,dA,.nil⟩
 have rq:RV (az++[q]) (.ref M1.length) (.ref q):=⟨q,by rw[<-R1.len];simp,rfl⟩;refine AR F.ln R3 (.cons rq (r1.mono ⟨[q],rfl⟩)) ?_ _;have h2:ai RV X.K az ((c (.ref M1.length::ws) (M1++[.ins cn []])).bind λv M2=>match v with|.ao=>.ok (.ref M1.length) M2|_=>.bad) Q:=h1;refine ai.seq (h2.up ⟨[q],rfl⟩) λaU H2 v M2 t p2 R4 r4 h4=>?_
 cases v with
 |ao=>cases r4;exact⟨rfl,ai.ok h4 R4 (rq.mono p2)⟩
 |bl _=>exact(h4:False).elim
 |int _=>exact(h4:False).elim
 |str _=>exact(h4:False).elim
 |ref _=>exact(h4:False).elim
def Pj{k:Nat}{x:Str}{np:Nat}{c:VM.CM}{e:Expr}{es:List Expr}{a:VM.AM}{p pos:Pos}(F:qV X.prog X.w X.K X.mg X.base k x np c)(hr:cq k X.A)(ha:SA X (e::es) a)(hg:Gl X x:=by rfl)(bO:(x==("__debug__":Str))=false:=by decide+kernel)(he:starEach (e::es) X.env=(false,eval e X.env)::starEach es X.env:=by rfl)(bI:(backTo pos (starEach es X.env)).any (·.1)=false:=by rfl):SE X (.Call (.Name x p) (e::es) [] pos) (VM.ak c a):=
 F.run X rfl rfl rfl rfl rfl hr e es a p pos ha hg bO he bI
end
def CU(K:Fg)(l:Addr):It:=
 ⟨λi H=>∃xs x,cc K H l xs/\xs[i]? =some x,
  λi H v H'=>∃p x,H p=none/\v=.ref p/\H'=upd H p (.tup [.int i,x])/\∀xs,cc K H l xs->xs[i]? =some x,
  λi H=>∃xs,cc K H l xs/\xs.length<=i⟩
def L_{P:Program}{w:World}{K:Fg}{elts:List Expr}{x1:Nat}{pos:Pos}(l e it:Addr)(fw:e≠it):
 Turn P w K (.Tuple elts x1 pos) (CU K l) [e,it] e (λi h=>(∃old,IsEnum h e it i old)/\h.IsListIter it l i) where
 mem:=by simp
 obj:=λi h st c hc=>by
  obtain⟨⟨old,he⟩,h1⟩:=st;simp only[aaX,aa',aba] at hc;rcases hc with rfl|rfl
  ·exact⟨_,he,λv z=>nomatch z⟩
  ·obtain⟨o,e,c,d⟩:=h1;exact⟨o,e,λv z=>by rw[d] at z;cases z⟩
 keep:=λi h h' st k=>by obtain⟨⟨old,he⟩,h1⟩:=st;exact⟨⟨old,k e (by simp) _ he⟩,h1.at λo q=>k it (by simp) o q⟩
 item:=by
  intro X hP hw hK hc i pins s σ H E I hf st hg;subst hP hw hK;obtain⟨⟨old,he⟩,h1⟩:=st;obtain⟨xs,x,hq,hx⟩:=hg;obtain⟨au,rv,p,_⟩:=I.list hq;obtain⟨ux,CV,CW⟩:=rv.get hx;refine wpAny_pyNext_enum_item he h1 p.isList (x:=ux) (by simpa using CV) fw λh' a1 a2 a3 a4 kk=>?_
  refine⟨_,rfl,wpAny_letOwnedTupleGo_enum a1 λoW xu eY=>?_⟩;have fr:H s.heap.objs.size=none:=I.aE.fresh (aaY _);have lt:∀{c:Addr} {o:Obj},s.heap.get? c=some o->c≠s.heap.objs.size:=λe=>abn (aa3 e)
  have elt:e≠s.heap.objs.size:=lt he;have kp:∀c o,c∉([e,it]:List Addr)->s.heap.get? c=some o->oW.get? c=some o:=λc o aL q=>by simp only[aaX,aa',aba,not_or] at aL;exact eY.extBut c o aL.1 (kk c o aL.1 aL.2 q)
  have fY:∀{c:Addr} {o:HO},H c=some o->c∉([e,it]:List Addr):=λ{c o} q aL=>by rw[(hf c aL).1] at q;cases q
  have neT:∀{c:Addr} {o:HO},H c=some o->c≠s.heap.objs.size:=λq=>eZ q fr
  have aE:cC X.prog X.w (upd H s.heap.objs.size (.tup [.int i,x])) oW:=λc o q=>by
   by_cases gQ:c=s.heap.objs.size
   ·subst gQ;rw[dA] at q;cases q;exact⟨by show 2<=sizeLine;decide,[.int i s.toks,ux],.cons ⟨_,rfl⟩ (.cons CW .nil),⟨_,eY.extBut _ _ (abc elt) a3,rfl,_,rfl⟩⟩
   ·rw[ba gQ] at q;refine(I.aE c o q).hU (λd v hd z=>?_) (λd z=>by rw[ba (neT z)];exact z) λd zs z=>by rw[ba (neT z)];exact z
    rcases hd with rfl|hd
    ·exact kp _ v (fY q) z
    ·exact kp _ v (fY hd) z
  have I':Inv X pins σ (upd H s.heap.objs.size (.tup [.int i,x])) {s with heap:=oW,toks:=s.toks+1}:=by
   refine I.step (g':=s.gens) (d':=s.drawn) (t':=s.toks+1) (ch:=[e,it]) (λc aL=>⟨(hf c aL).2.2.2.1,(hf c aL).2.1,(hf c aL).2.2.2.2.1,(hf c aL).2.2.2.2.2⟩) (λc o _ _ aL q _=>kp c o aL q) (λc o _ _ aL q _=>⟨o.slots,kp c o aL q⟩) (λc o _ q n=>by rw[ba (lt q)];exact n) (λc o aL q=>⟨o,kp c o aL q⟩) (λc zs q=>by rw[ba (neT q)];exact q) (λc o u q=>by rw[ba (neT q)];exact q) (λc ps q=>⟨#[],by rw[ba (neT q),q];simp⟩) (λm hm=>?_) aE I.bare
   obtain⟨o,es,ep,ho,r⟩:=hm;refine⟨o,es,ep,kp _ o (λaL=>?_) ho,r⟩;exact(hf _ aL).2.1 rfl
  refine⟨.ref s.heap.objs.size,_,I',rfl,⟨s.heap.objs.size,x,fr,rfl,rfl,λzs kn=>by rw[I.Ei kn hq];exact hx⟩,?_,λc aL=>?_⟩
  ·exact⟨⟨_,xu⟩,a2.extBut eY.extBut (abc fw)⟩
  ·have jA:=(hf c aL).1;by_cases gQ:c=s.heap.objs.size
   ·exfalso;simp only[aaX,aa',aba] at aL;obtain⟨o1,e1,_⟩:=h1;rcases aL with q|q
    ·exact lt he (q▸gQ)
    ·exact lt e1 (q▸gQ)
   ·rw[ba gQ];exact jA
 done:=by
  intro X hP hw hK hc i pins s σ H E I hf st hg;subst hP hw hK;obtain⟨⟨old,he⟩,h1⟩:=st;obtain⟨xs,hq,hl⟩:=hg;obtain⟨au,rv,p,_⟩:=I.list hq;have l1:=rv.length;refine wpAny_pyNext_enum_end (I.ok.hd hc) he h1 p.isList (by simp;omega) λh' kk=>⟨rfl,?_⟩
  have kp:∀c o,c∉([it]:List Addr)->s.heap.get? c=some o->h'.get? c=some o:=λc o aL q=>by simp only[aaX,aa',aba] at aL;exact kk c o aL q
  have sub:∀c∈([it]:List Addr),c∈([e,it]:List Addr):=λc aL=>abo _ aL
  have fY:∀{c:Addr} {o:HO},H c=some o->c∉([it]:List Addr):=λ{c o} q aL=>by rw[(hf c (sub c aL)).1] at q;cases q
  refine I.step (g':=s.gens) (d':=s.drawn) (t':=s.toks) (ch:=[it]) (λc aL=>⟨(hf c (sub c aL)).2.2.2.1,(hf c (sub c aL)).2.1,(hf c (sub c aL)).2.2.2.2.1,(hf c (sub c aL)).2.2.2.2.2⟩) (λc o _ _ aL q _=>kp c o aL q) (λc o _ _ aL q _=>⟨o.slots,kp c o aL q⟩) (λc o _ q n=>n) (λc o aL q=>⟨o,kp c o aL q⟩) (λc zs q=>q) (λc o u q=>q) (λc ps q=>⟨#[],by rw[q];simp⟩) (λm hm=>?_) (λc o q=>?_) I.bare
  ·obtain⟨o,es,ep,ho,r⟩:=hm;refine⟨o,es,ep,kp _ o (λaL=>?_) ho,r⟩;exact(hf _ (sub _ aL)).2.1 rfl
  ·refine(I.aE c o q).hU (λd v hd z=>?_) (λd z=>z) λd zs z=>z
   rcases hd with rfl|hd
   ·exact kp _ v (fY q) z
   ·exact kp _ v (fY hd) z
 self:=λ_ _ _ _ _ st h=>let⟨⟨_,he⟩,_⟩:=st;wpAny_pyIter_enum he h
section
variable{X:Cx}{elts:List Expr}{x1:Nat}{tpos:Pos}
def RF(K:Fg)(ta:TA):TI:=λσ H R=>ta σ H λvs H1=>∃l,vs=[.ref l]/\(∃xs,cc K H1 l xs)/\R (CU K l) H1
def Ma:bootBuiltins "enumerate"=some (.type "enumerate"):=by kernel_rfl
def Pk{a:Expr}{ta:TA}{p pos:Pos}(hg:Gl X "enumerate")(hm:X.mg "enumerate"=none)(ha:PA X [a] ta)(hs:starEach [a] X.env=[(false,eval a X.env)]:=by rfl):
 PI X (.Tuple elts x1 tpos) (.Call (.Name "enumerate" p) [a] [] pos) (RF X.K ta):=by
 intro pins s σ H R I h;refine Call_ (l5 I hg hm Ma (acE (aK (ha pos pins s σ H _ I h) λus s1 ⟨vs,H1,I1,r1,q1⟩=>?_) (by rw[hs];rfl) (by rfl)) (by decide+kernel) (by decide+kernel));obtain⟨l1,e,⟨xs,hx⟩,q⟩:=q1;subst e;cases r1 with
 |cons r rr=>
  cases rr;have e1:_=Value.ref l1:=r;subst e1;obtain⟨au,rv,p1,_⟩:=I1.list hx;refine call_enumerate_list p1.isList λh' he hi hsz kp=>?_
  have I2:Inv X pins σ H1 {s1 with heap:=h'}:=I1.kept (t':=s1.toks) λc o e=>kp c o e
  refine wpAny_pyIter_enum he ?_;refine⟨s1.heap.objs.size+1,[s1.heap.objs.size+1,s1.heap.objs.size],_,_,H1,rfl,I2,
   L_ l1 (s1.heap.objs.size+1) s1.heap.objs.size (Nat.succ_ne_self _),⟨⟨_,he⟩,hi⟩,λc hc=>?_,q⟩
  have aL:s1.heap.objs.size<=c:=by simp only[aaX,aa',aba] at hc;rcases hc with q|q<;>rw[q]<;>first|exact aaY _|exact Nat.le_add_right _ _
  exact I1.sF aL (I1.aE.fresh aL)
theorem pA:∀(xs:List VM.W) (i j:Nat) (x:VM.Src),(VM.fV i xs)[j]? =some x->∃w,xs[j]? =some w/\x=.pair (.int ((i+j:Nat):Int)) w
 |[],_,_,_,h=>by simp[VM.fV] at h
 |y::r,i,0,x,h=>by simp only[VM.fV,aaR] at h;exact⟨y,rfl,(aa2 h).symm⟩
 |y::r,i,j+1,x,h=>by simp only[VM.fV,aaU] at h;obtain⟨w,h1,h2⟩:=pA r (i+1) j x h;exact⟨w,by simpa using h1,by rw[h2,show i+1+j=i+(j+1) by omega]⟩
theorem pB:∀(xs:List VM.W) (i:Nat),(VM.fV i xs).length=xs.length
 |[],_=>rfl
 |_::r,i=>by simp[VM.fV,pB r]
def RG{K:Fg}{ι:List Addr}{a:Nat}{p:Addr}{o:VM.O}{xs:List VM.W}(hp:ι[a]? =some p)(ho:o=.lst xs\/o=.bf xs):jq K ι (CU K p) (VM.fV 0 xs) [(a,o)]:=by
 have look:∀{aw M H},ι<+:aw->Rel K aw M H->VM.b7.ok [(a,o)] M=true->∃vs,cc K H p vs/\bB aw xs vs:=λ{aw M H} q R hc=>by
  have hm:=vW hc;have ro:=R.obj a p o (gZ q hp) hm;rcases ho with rfl|rfl
  ·obtain⟨vs,h1,h2⟩:=ro;exact⟨vs,cc.of h1,h2⟩
  ·obtain⟨vs,h1,h2⟩:=ro;exact⟨vs,h1.sq,h2⟩
 refine⟨λi aw M H x q R hc hx=>?_,λi aw M H x v H' q R hc hx y=>?_,λi aw M H q R hc hi=>?_⟩
 ·obtain⟨vs,h1,h2⟩:=look q R hc;obtain⟨w,hw,rfl⟩:=pA _ _ _ _ hx;obtain⟨v,hv,_⟩:=Paired.at h2 hw;exact⟨vs,v,h1,hv⟩
 ·obtain⟨vs,h1,h2⟩:=look q R hc;obtain⟨w,hw,rfl⟩:=pA _ _ _ _ hx;obtain⟨T,x',hT,rfl,rfl,k1⟩:=y;obtain⟨v',hv,rv⟩:=Paired.at h2 hw;have e:=k1 vs h1;rw[hv] at e;cases e;rw[Nat.zero_add];refine⟨aw++[T],.ref M.length,M++[.tup [.int (i:Int),w]],⟨[T],rfl⟩,rfl,R.new (o:=.tup [.int (i:Int),w]) hT λaU Bl=>⟨_,dA,.cons rfl (.cons (rv.mono Bl) .nil)⟩,T,?_,rfl⟩;rw[<-R.len];simp
 ·obtain⟨vs,h1,h2⟩:=look q R hc;rw[pB] at hi;exact⟨vs,h1,by rw[<-Paired.len h2];exact hi⟩
def Pl{a:Expr}{m:VM.EM}{p pos:Pos}(hm:X.mg "enumerate"=none)(ha:SE X a m)(hg:Gl X "enumerate":=by rfl)(hs:starEach [a] X.env=[(false,eval a X.env)]:=by rfl):
 SI X (.Tuple elts x1 tpos) (.Call (.Name "enumerate" p) [a] [] pos) (VM.vA m):=by
 obtain⟨ta,pa,ka⟩:=ha;refine⟨_,Pk hg hm (gh pa jh hs) hs,λι M H σ τ Q R S h=>?_⟩;refine ka ι M H σ τ _ R S (ai.seq h λaz H1 x M1 u p1 R1 r1 h1=>?_);have h3:ai (rI X.K) X.K az (match VM.qd M1 x with|some (a,o,xs)=>.ok (VM.fV 0 xs,[(a,o)]) M1|none=>.bad) Q:=h1;cases ex:VM.qd M1 x with
 |none=>rw[ex] at h3;exact(h3:False).elim
 |some z1=>obtain⟨a1,o1,xs⟩:=z1;rw[ex] at h3;obtain⟨q1,vs,WU,rfl,s1,d1⟩:=LY R1 ex r1;exact⟨q1,rfl,⟨vs,s1⟩,ai.ok h3 R1 (RG WU d1)⟩
end
def NF(X:Cx)(d:Addr):Prop:=∀o u,X.qh d≠some (.bf o u)
def Inv.swap{X:Cx}{pins:List (Addr×Obj)}{σ:L2.St}{H:Hp}{s:Shared}{d:Addr}{u u':HO}(I:Inv X pins σ H s)(h:H d=some u)(h1:∀xs,u≠.tup xs)(h2:∀ps,u≠.kU ps)(h3:∀y,u≠.own y)(nf:NF X d)(ok:c7 X.prog X.w (upd H d u') s.heap d u'):Inv X pins σ (upd H d u') s:=by
 have ne:∀{b:Addr} {o:HO},H b=some o->o≠u->b≠d:=λ{b o} e n z=>by subst z;rw[h] at e;exact n (aa2 e).symm
 have ao:∀{b:Addr},H b=none->b≠d:=λ{b} e z=>by subst z;rw[h] at e;cases e
 refine⟨I.ok,I.os,I.bare,⟨I.base.keep,I.base.slot,λb o e n hx=>?_,I.base.there,λb xs e=>?_,λb o v e=>?_,λb ps e=>?_⟩,I.loc,I.cell,?_,λx c e=>?_,λp hp=>?_,λb o e=>?_,I.len⟩
 ·have z:=I.base.free b o e n hx;rw[ba (ao z)];exact z
 ·have z:=I.base.fX b xs e;rw[ba (ne z (λq=>h1 xs q.symm))];exact z
 ·by_cases hb:b=d
  ·subst hb;exact(nf o v e).elim
  ·rw[ba hb];exact I.base.gp b o v e
 ·obtain⟨m,z⟩:=I.base.hV b ps e;exact⟨m,by rw[ba (ne z (λq=>h2 _ q.symm))];exact z⟩
 ·rw[ba (ao I.free)];exact I.free
 ·rw[ba (ao (I.gn x c e))];exact I.gn x c e
 ·obtain⟨a1,a2,a3⟩:=I.pin p hp;exact⟨a1,by rw[ba (ao a2)];exact a2,a3⟩
 ·by_cases hb:b=d
  ·subst hb;rw[dA] at e;cases e;exact ok
  ·rw[ba hb] at e;exact(I.aE b o e).hU (λc v _ q=>q) (λc q=>by rw[ba (ne q (λz=>h3 _ z.symm))];exact q) λc xs q=>by rw[ba (ne q (λz=>h1 xs z.symm))];exact q
def Inv.nf{X:Cx}{pins:List (Addr×Obj)}{σ:L2.St}{H:Hp}{s:Shared}{d:Addr}{ks:List (Key×V)}(I:Inv X pins σ H s)(h:H d=some (.dK ks)):NF X d:=λo u e=>by have:=I.base.gp d o u e;rw[h] at this;cases this
def Inv.freeze{X:Cx}{pins:List (Addr×Obj)}{σ:L2.St}{H:Hp}{s:Shared}{d:Addr}{ks:List (Key×V)}{o:Obj}(I:Inv X pins σ H s)(h:H d=some (.dK ks))(ho:s.heap.get? d=some o):Inv X pins σ (upd H d (.bf o (.dK ks))) s:=
 Inv.swap I h (λ_ z=>nomatch z) (λ_ z=>nomatch z) (λ_ z=>nomatch z) (Inv.nf I h) ⟨ho,I.aE d _ h⟩
def Inv.df{X:Cx}{pins:List (Addr×Obj)}{σ:L2.St}{H:Hp}{s:Shared}{d:Addr}{ks:List (Key×V)}{o:Obj}(I:Inv X pins σ H s)(h:H d=some (.bf o (.dK ks)))(nf:NF X d):Inv X pins σ (upd H d (.dK ks)) s:=
 Inv.swap I h (λ_ z=>nomatch z) (λ_ z=>nomatch z) (λ_ z=>nomatch z) nf (I.aE d _ h).2
def CY(d:Addr)(ep n:Nat):It:=
 ⟨λi H=>∃o es ks k v,H d=some (.bf o (.dK ks))/\o.data=.dict es ep/\ks.length=n/\ks[i]? =some (k,v),
  λi H x H'=>∃p k v,H p=none/\x=.ref p/\H'=upd H p (.tup [kV k,v])/\∀o ks,H d=some (.bf o (.dK ks))->ks[i]? =some (k,v),
  λi H=>∃o es ks,H d=some (.bf o (.dK ks))/\o.data=.dict es ep/\ks.length=n/\n<=i⟩
def RH{P:Program}{w:World}{k:Key}{u:Value}(h:(dB P w).is k u=true):RelV (kV k) u:=by
 rcases jK (k:=k) (v:=u) h with⟨i,t,rfl,rfl⟩|⟨x,t,rfl,rfl⟩
 ·exact⟨t,rfl⟩
 ·exact⟨t,rfl⟩
def KV.at{kvs:List (Key×V)}{vs:List (Key×Value)}(r:KV kvs vs):∀{i:Nat} {k:Key} {v:V},kvs[i]? =some (k,v)->∃u,vs[i]? =some (k,u)/\RelV v u:=by intro i k v h;obtain⟨q,e,h1,h2⟩:=Paired.at r h;exact⟨q.2,by rw[e,show k=q.1 from h1],h2⟩
def FC{P:Program}{w:World}{H:Hp}{h:Heap}{d:Addr}{o:Obj}{es:Array DictEntry}{ep:Nat}{ks:List (Key×V)}(gJ:o.data=.dict es ep)(x:c7 P w H h d (.bf o (.dK ks))):∃vs,KV ks vs/\h.DictAt (dB P w) d vs ep/\vs.length=ks.length:=by obtain⟨Hk,z,xv,vs,rel,o',wc,sX,g,c,dt,kk,pr,nd⟩:=x;rw[Hk] at g;cases g;rw[gJ] at dt;cases dt;exact⟨vs,rel,⟨o,es,Hk,c,gJ,kk,pr,nd⟩,rel.length.symm⟩
def KR{P:Program}{w:World}{K:Fg}{elts:List Expr}{x1:Nat}{pos:Pos}(d it:Addr)(ep n:Nat):
 Turn P w K (.Tuple elts x1 pos) (CY d ep n) [it] it (λi h=>∃ok ov,IsItemIter h it d i n ep ok ov) where
 mem:=by simp
 obj:=λi h st c hc=>by obtain⟨ok,ov,he⟩:=st;simp only[aaX,aa',aba] at hc;subst hc;exact⟨_,he,λv z=>nomatch z⟩
 keep:=λi h h' st k=>by obtain⟨ok,ov,he⟩:=st;exact⟨ok,ov,k it (by simp) _ he⟩
 item:=by
  intro X hP hw hK hc i pins s σ H E I hf st hg;subst hP hw hK;obtain⟨ok,ov,he⟩:=st;obtain⟨o0,es,ks,k,v,hd,gJ,wH,hk⟩:=hg;obtain⟨vs,rel,da,hn⟩:=FC gJ (I.aE d _ hd);rw[wH] at hn;obtain⟨ux,CV,CW⟩:=KV.at rel hk;rw[<-hn] at he;refine wpAny_pyNext_items_item he da CV λkey h' A3 a1 a3 a4 kk=>?_
  refine⟨_,rfl,wpAny_letOwnedTupleGo_items a1 λoW xu eY=>?_⟩;have fr:H s.heap.objs.size=none:=I.aE.fresh (aaY _);have lt:∀{c:Addr} {o:Obj},s.heap.get? c=some o->c≠s.heap.objs.size:=λe=>abn (aa3 e)
  have elt:it≠s.heap.objs.size:=lt he;have kp:∀c o,c∉([it]:List Addr)->s.heap.get? c=some o->oW.get? c=some o:=λc o aL q=>by simp only[aaX,aa',aba] at aL;exact eY.extBut c o aL (kk c o aL q)
  have fY:∀{c:Addr} {o:HO},H c=some o->c∉([it]:List Addr):=λ{c o} q aL=>by rw[(hf c aL).1] at q;cases q
  have neT:∀{c:Addr} {o:HO},H c=some o->c≠s.heap.objs.size:=λq=>eZ q fr
  have aE:cC X.prog X.w (upd H s.heap.objs.size (.tup [kV k,v])) oW:=λc o q=>by
   by_cases gQ:c=s.heap.objs.size
   ·subst gQ;rw[dA] at q;cases q;exact⟨by show 2<=sizeLine;decide,[key,ux],.cons (RH A3) (.cons CW .nil),⟨_,eY.extBut _ _ (abc elt) a3,rfl,_,rfl⟩⟩
   ·rw[ba gQ] at q;refine(I.aE c o q).hU (λd v hd z=>?_) (λd z=>by rw[ba (neT z)];exact z) λd zs z=>by rw[ba (neT z)];exact z
    rcases hd with rfl|hd
    ·exact kp _ v (fY q) z
    ·exact kp _ v (fY hd) z
  have I':Inv X pins σ (upd H s.heap.objs.size (.tup [kV k,v])) {s with heap:=oW}:=by
   refine I.step (g':=s.gens) (d':=s.drawn) (t':=s.toks) (ch:=[it]) (λc aL=>⟨(hf c aL).2.2.2.1,(hf c aL).2.1,(hf c aL).2.2.2.2.1,(hf c aL).2.2.2.2.2⟩) (λc o _ _ aL q _=>kp c o aL q) (λc o _ _ aL q _=>⟨o.slots,kp c o aL q⟩) (λc o _ q n=>by rw[ba (lt q)];exact n) (λc o aL q=>⟨o,kp c o aL q⟩) (λc zs q=>by rw[ba (neT q)];exact q) (λc o u q=>by rw[ba (neT q)];exact q) (λc ps q=>⟨#[],by rw[ba (neT q),q];simp⟩) (λm hm=>?_) aE I.bare
   obtain⟨o,es,ep,ho,r⟩:=hm;refine⟨o,es,ep,kp _ o (λaL=>?_) ho,r⟩;exact(hf _ aL).2.1 rfl
  refine⟨.ref s.heap.objs.size,_,I',rfl,⟨s.heap.objs.size,k,v,fr,rfl,rfl,λoz zs kn=>by rw[hd] at kn;cases kn;exact hk⟩,?_,λc aL=>?_⟩
  ·rw[hn] at xu;exact⟨_,_,xu⟩
  ·have jA:=(hf c aL).1;by_cases gQ:c=s.heap.objs.size
   ·exfalso;simp only[aaX,aa',aba] at aL;exact lt he (aL▸gQ)
   ·rw[ba gQ];exact jA
 done:=by
  intro X hP hw hK hc i pins s σ H E I hf st hg;subst hP hw hK;obtain⟨ok,ov,he⟩:=st;obtain⟨o0,es,ks,hd,gJ,wH,hl⟩:=hg;obtain⟨vs,rel,da,hn⟩:=FC gJ (I.aE d _ hd);rw[wH] at hn;rw[<-hn] at he;refine wpAny_pyNext_items_end (I.ok.hd hc) he da (by simp;omega) λh' kk=>⟨rfl,?_⟩
  have kp:∀c o,c∉([it]:List Addr)->s.heap.get? c=some o->h'.get? c=some o:=λc o aL q=>by simp only[aaX,aa',aba] at aL;exact kk c o aL q
  have fY:∀{c:Addr} {o:HO},H c=some o->c∉([it]:List Addr):=λ{c o} q aL=>by rw[(hf c aL).1] at q;cases q
  refine I.step (g':=s.gens) (d':=s.drawn) (t':=s.toks) (ch:=[it]) (λc aL=>⟨(hf c aL).2.2.2.1,(hf c aL).2.1,(hf c aL).2.2.2.2.1,(hf c aL).2.2.2.2.2⟩) (λc o _ _ aL q _=>kp c o aL q) (λc o _ _ aL q _=>⟨o.slots,kp c o aL q⟩) (λc o _ q n=>n) (λc o aL q=>⟨o,kp c o aL q⟩) (λc zs q=>q) (λc o u q=>q) (λc ps q=>⟨#[],by rw[q];simp⟩) (λm hm=>?_) (λc o q=>?_) I.bare
  ·obtain⟨o,es,ep,ho,r⟩:=hm;refine⟨o,es,ep,kp _ o (λaL=>?_) ho,r⟩;exact(hf _ aL).2.1 rfl
  ·refine(I.aE c o q).hU (λd v hd z=>?_) (λd z=>z) λd zs z=>z
   rcases hd with rfl|hd
   ·exact kp _ v (fY q) z
   ·exact kp _ v (fY hd) z
 self:=λ_ _ _ _ _ st h=>let⟨_,_,he⟩:=st;PySem.W.kcp_self he h
section
variable{X:Cx}{elts:List Expr}{x1:Nat}{tpos:Pos}
structure M0(X:Cx)(o:Expr)(m:Str)(apos a9:Pos):Prop where
 base:attributeBase o m X.env (eval o X.env)=eval o X.env
 ot:((backTo a9 (starEach [] X.env)).all (λx=>!x.1)&&(backToKw a9 (keywordEach [] X.env)).all (λx=>x.1.isSome)
  &&decide (([]:List Expr).length+([]:List Keyword).length+(if([]:List Keyword).isEmpty then 0 else 1)<30))=true
 line:(apos.endLine==a9.line)=true
 trees:backTo a9 (starEach [] X.env)=[]
def Hl(X:Cx)(td:TE):TI:=λσ H R=>td σ H λx H1=>∃d ks,x=.ref d/\H1 d=some (.dK ks)/\∀o es ep,o.data=.dict es ep->NF X d->R (CY d ep ks.length) (upd H1 d (.bf o (.dK ks)))
def EU{e:Expr}{td:TE}{apos a9:Pos}(he:PE X e td)(m:M0 X e "items" apos a9):PI X (.Tuple elts x1 tpos) (.Call (.Attribute e "items" apos) [] [] a9) (Hl X td):=by
 intro pins s σ H R I h;refine acR m.base m.ot m.line acS aej PySem.F.type_dict_items (aK (he pins s σ H _ I h) λu s1 ⟨x,H1,I1,rx,d,ks,ex,hd,q⟩=>?_);subst ex;obtain rfl:u=Value.ref d:=rx;obtain⟨t1,t2,xv⟩:=sg I1 (.inl ⟨ks,.inl hd⟩);refine⟨t1,t2,?_⟩;rw[m.trees];obtain⟨hz,_,vs,rel,dd⟩:=so I1.aE hd;refine acu rfl (PySem.evalArgs_none ?_);refine aci aej dd.typeIs PySem.F.entry_dict_items (PySem.F.args_dict_items_1 _) (meets_dict_items (dB X.prog X.w) d xv) ⟨⟨vs,dd⟩,?_⟩;obtain⟨o,es,ep,ho,c1,c2,c3,c4,c5⟩:=dd;have e1:=abd {cls:=.type "dict_items",data:=.fields #[.ref d]} ho;have hv:(s1.heap.push {cls:=.type "dict_items",data:=.fields #[.ref d]}).IsItemsView s1.heap.objs.size d:=⟨_,abE _ rfl,rfl,rfl⟩;refine wpAny_pyIter_items (knd:=dB X.prog X.w) (kvs:=vs) (ep:=ep) hv ⟨o,es,e1,c1,c2,c3,c4,c5⟩ ?_;have I2:=I1.kept (t':=s1.toks) (h':=((s1.heap.push {cls:=.type "dict_items",data:=.fields #[.ref d]}).push {cls:=.type "dict_itemiterator",data:=.fields #[.none,.bool false,.ref d,.int 0 0,.int vs.length 0,.int ep 0,.none,.none]})) λb u q=>abd _ (abd _ q)
 have I3:=Inv.freeze I2 hd (abd _ e1);have hn:vs.length=ks.length:=rel.length.symm;refine⟨(s1.heap.push {cls:=.type "dict_items",data:=.fields #[.ref d]}).objs.size,[(s1.heap.push {cls:=.type "dict_items",data:=.fields #[.ref d]}).objs.size],_,_,_,rfl,I3,KR d _ ep ks.length,⟨_,_,by rw[<-hn];exact abE _ rfl⟩,λc hc=>?_,q o es ep c2 (Inv.nf I1 hd)⟩;have aL:s1.heap.objs.size<=c:=by simp only[aaX,aa',aba] at hc;rw[hc,ac8];exact Nat.le_add_right _ _
 refine I1.sF aL ?_;have:H1 c=none:=I1.aE.fresh aL;rw[ba (λz=>by rw[z,hd] at this;cases this)];exact this
end
def Rel.ghost{K:Fg}{ι:List Addr}{M:VM.Mem}{H:Hp}(R:Rel K ι M H){p:Addr}{o:VM.O}(hl:live o=false)(ho:RO K (ι++[p]) H p o):Rel K (ι++[p]) (M++[o]) H:=by
 have pre:ι<+:ι++[p]:=⟨[p],rfl⟩;have split:∀a q x,(ι++[p])[a]? =some q->(M++[o])[a]? =some x->(ι[a]? =some q/\M[a]? =some x)\/(q=p/\x=o):=λa q x h h'=>by
  by_cases ha:a<ι.length
  ·rw[abM ha] at h;rw[abM (by rw[<-R.len];exact ha)] at h';exact .inl ⟨h,h'⟩
  ·rw[abW (acP ha)] at h;rw[abW (by rw[<-R.len];exact acP ha)] at h';rw[R.len] at h;cases hk:a-M.length with
   |zero=>rw[hk] at h h';simp at h h';exact .inr ⟨h.symm,h'.symm⟩
   |succ k=>rw[hk] at h;simp at h
 refine⟨by simp[R.len],λa q x h1 h2=>?_,λa b q xa xb h1 h2 h3 h4 l1 l2=>?_⟩
 ·rcases split a q x h1 h2 with⟨g1,g2⟩|⟨rfl,rfl⟩
  ·exact RO.mono pre (R.obj a q x g1 g2)
  ·exact ho
 ·rcases split a q xa h1 h3 with⟨g1,g3⟩|⟨_,rfl⟩
  ·rcases split b q xb h2 h4 with⟨g2,g4⟩|⟨_,rfl⟩
   ·exact R.inj a b q xa xb g1 g2 g3 g4 l1 l2
   ·rw[hl] at l2;cases l2
  ·rw[hl] at l1;cases l1
def Rel.freeze{K:Fg}{ι:List Addr}{M:VM.Mem}{H:Hp}(R:Rel K ι M H){a:Nat}{d:Addr}{kvs:List (Int×VM.W)}{ks:List (Key×V)}{o:Obj}{es:Array DictEntry}{ep:Nat}(ha:ι[a]? =some d)(hm:M[a]? =some (.aI kvs))(rk:eK ι kvs ks)(gJ:o.data=.dict es ep):
 Rel K (ι++[ep]) (M.set a (.a6 M.length kvs)++[VM.O.cw]) (upd H d (.bf o (.dK ks))):=by
 have dG:a<M.length:=(aaZ.mp hm).1;have pre:ι<+:ι++[ep]:=⟨[ep],rfl⟩;have R1:Rel K (ι++[ep]) (M++[VM.O.cw]) H:=R.ghost rfl trivial;have e:M.set a (.a6 M.length kvs)++[VM.O.cw]=(M++[VM.O.cw]).set a (.a6 M.length kvs):=by rw[adJ _ _ dG]
 have hg:(ι++[ep])[M.length]? =some ep:=by rw[<-R.len];simp
 have ro:RO K (ι++[ep]) (upd H d (.bf o (.dK ks))) d (.a6 M.length kvs):=⟨o,es,ks,ep,hg,dA,gJ,rk.mono pre⟩;have WV:(M++[VM.O.cw])[a]? =some (.aI kvs):=by rw[abM dG];exact hm
 have:=R1.n4 (u:=.bf o (.dK ks)) (o':=.a6 M.length kvs) (gZ pre ha) WV rfl rfl ro;rw[<-e] at this;exact this
def F9{K:Fg}{ι:List Addr}{a g:Nat}{d ep:Addr}{kvs:List (Int×VM.W)}(hp:ι[a]? =some d)(hg:ι[g]? =some ep):jq K ι (CY d ep kvs.length) (kvs.map λ(kv:Int×VM.W)=>VM.Src.pair (.int kv.1) kv.2) [(a,.a6 g kvs)]:=by
 have hu:∀{aw M H},ι<+:aw->Rel K aw M H->VM.b7.ok [(a,.a6 g kvs)] M=true->∃o es ks,H d=some (.bf o (.dK ks))/\o.data=.dict es ep/\eK aw kvs ks:=λ{aw M H} q R hc=>by obtain⟨o,es,ks,sX,e0,e1,e2,e3⟩:=R.obj a d _ (gZ q hp) (vW hc);rw[gZ q hg] at e0;cases e0;exact⟨o,es,ks,e1,e2,e3⟩
 have src:∀{i:Nat} {x:VM.Src},(kvs.map λ(kv:Int×VM.W)=>VM.Src.pair (.int kv.1) kv.2)[i]? =some x->∃kv,kvs[i]? =some kv/\x=.pair (.int kv.1) kv.2:=λ{i x} h=>by
  rw[abS] at h;cases q:kvs[i]? with
  |none=>rw[q] at h;cases h
  |some kv=>rw[q] at h;exact⟨kv,rfl,(aa2 h).symm⟩
 refine⟨λi aw M H x q R hc hx=>?_,λi aw M H x v H' q R hc hx y=>?_,λi aw M H q R hc hi=>?_⟩
 ·obtain⟨o,es,ks,h1,hd,h2⟩:=hu q R hc;obtain⟨kv,fD,rfl⟩:=src hx;obtain⟨⟨k,v⟩,hk,_⟩:=Paired.at h2 fD;exact⟨o,es,ks,k,v,h1,hd,(Paired.len h2).symm,hk⟩
 ·obtain⟨o,es,ks,h1,hd,h2⟩:=hu q R hc;obtain⟨kv,fD,rfl⟩:=src hx;obtain⟨T,k,v',hT,rfl,rfl,k1⟩:=y;obtain⟨⟨k2,v2⟩,hk,ek,rv⟩:=Paired.at h2 fD;have e:=k1 o ks h1;rw[hk] at e;cases e;have ek:k=Sum.inl kv.1:=ek;subst ek;refine⟨aw++[T],.ref M.length,M++[.tup [.int kv.1,kv.2]],⟨[T],rfl⟩,rfl,R.new (o:=.tup [.int kv.1,kv.2]) hT λaU Bl=>⟨_,dA,.cons rfl (.cons (rv.mono Bl) .nil)⟩,T,?_,rfl⟩;rw[<-R.len];simp
 ·obtain⟨o,es,ks,h1,hd,h2⟩:=hu q R hc;rw[aaV] at hi;exact⟨o,es,ks,h1,hd,(Paired.len h2).symm,hi⟩
section
variable{X:Cx}{elts:List Expr}{x1:Nat}{tpos:Pos}
def AS(X:Cx)(D:Ends):Ends where
 nx:=λσ H=>∃d o ks,NF X d/\H d=some (.bf o (.dK ks))/\D.nx σ (upd H d (.dK ks))
 rt:=λv H=>∃d o ks,NF X d/\H d=some (.bf o (.dK ks))/\D.rt v (upd H d (.dK ks))
 bk:=D.bk
 ct:=D.ct
def zT{K:Fg}{ι:List Addr}{M M':VM.Mem}{H:Hp}{a g:Nat}{d:Addr}{kvs:List (Int×VM.W)}(ha:ι[a]? =some d)(e:VM.df [(a,.a6 g kvs)] M=some M')(R:Rel K ι M H):∃o ks,H d=some (.bf o (.dK ks))/\Rel K ι M' (upd H d (.dK ks)):=by
 have e':(if M[a]? =some (.a6 g kvs) then some (M.set a (.aI kvs)) else none)=some M':=e;by_cases hm:M[a]? =some (.a6 g kvs)
 ·rw[aaN hm] at e';cases e';obtain⟨o,es,ks,ep,_,h1,_,rk⟩:=R.obj a d _ ha hm;exact⟨o,ks,h1,R.n4 ha hm rfl rfl ⟨ks,dA,rk⟩⟩
 ·rw[aaO hm] at e';cases e'
def bc.df{ι:List Addr}{r:VM.RS}{D:Ends}{a g:Nat}{d:Addr}{kvs:List (Int×VM.W)}(ha:ι[a]? =some d)(nf:NF X d)(h:bc X.K ι (r.df [(a,.a6 g kvs)]) D):bc X.K ι r (AS X D):=by
 cases r with
 |nx σ M=>
  intro aw H' cf p R S;cases e:VM.df [(a,.a6 g kvs)] M with
  |none=>simp only[VM.RS.df,e] at h;exact(h:False).elim
  |some M'=>simp only[VM.RS.df,e] at h;obtain⟨o,ks,h1,R2⟩:=zT (gZ p ha) e R;exact⟨d,o,ks,nf,h1,h aw _ cf p R2 S⟩
 |rt v M=>
  intro aw H' cf p R S;cases e:VM.df [(a,.a6 g kvs)] M with
  |none=>simp only[VM.RS.df,e] at h;exact(h:False).elim
  |some M'=>simp only[VM.RS.df,e] at h;obtain⟨o,ks,h1,R2⟩:=zT (gZ p ha) e R;exact⟨d,o,ks,nf,h1,h aw _ cf p R2 S⟩
 |bk σ M=>exact(h:False).elim
 |ct σ M=>exact(h:False).elim
 |ex v M=>exact(h:False).elim
 |bad=>exact(h:False).elim
def Dr(x:VM.W)(M:VM.Mem):(match VM.cp M x with|some (a,kvs)=>(.ok (kvs.map λ(kv:Int×VM.W)=>VM.Src.pair (.int kv.1) kv.2,[(a,.a6 M.length kvs)]) (M.set a (.a6 M.length kvs)++[VM.O.cw]):VM.R (List VM.Src×VM.b7))|none=>.bad)=.bad\/
 ∃a kvs,VM.cp M x=some (a,kvs)/\(match VM.cp M x with|some (a,kvs)=>(.ok (kvs.map λ(kv:Int×VM.W)=>VM.Src.pair (.int kv.1) kv.2,[(a,.a6 M.length kvs)]) (M.set a (.a6 M.length kvs)++[VM.O.cw]):VM.R (List VM.Src×VM.b7))|none=>.bad)=.ok (kvs.map λ(kv:Int×VM.W)=>VM.Src.pair (.int kv.1) kv.2,[(a,.a6 M.length kvs)]) (M.set a (.a6 M.length kvs)++[VM.O.cw]):=by
 cases VM.cp M x with
 |none=>exact .inl rfl
 |some z=>exact .inr ⟨z.1,z.2,rfl,rfl⟩
def KS{α β:Type}(r:VM.R α)(f:α->VM.Mem->VM.R β)(h:β->VM.Mem->VM.RS):(r.bind f).cz h=r.cz λa M=>(f a M).cz h:=by cases r<;>rfl
def Pm{e:Expr}{body:List Stmt}{me:VM.EM}{g:VM.GM}{m:VM.SM}{apos a9 pos:Pos}(hp:PassesOwn (model X.prog X.w) X.A X.env X.xe)(hc:X.calm=true)(he:SE X e me)(m0:M0 X e "items" apos a9)(hg:SG X (.Tuple elts x1 tpos) g)(hb:gU X body m)(hs:∀x,foldedSetIterable (.Call (.Attribute e "items" apos) [] [] a9) X.env x=pure x:=by intro _;rfl):SS X (.For (.Tuple elts x1 tpos) (.Call (.Attribute e "items" apos) [] [] a9) body [] pos) (VM.qe me g m):=by
 obtain⟨td,pe,ke⟩:=he;obtain⟨tS,pg,kg⟩:=hg;obtain⟨tb,pb,kb⟩:=hb;refine⟨λD=>GP (Hl X td) tS tb (AS X D),λpins s σ H D I h=>aK (FI hp hc (EU pe m0) pg pb hs pins s σ H (AS X D) I h) λfl s' q=>?_,λι M H σ τ D R S h=>?_⟩
 ·cases fl with
  |next=>obtain⟨aA,H',I',d,o,ks,nf,hd,q⟩:=q;exact⟨aA,_,Inv.df I' hd nf,q⟩
  |brk=>exact q
  |cont=>exact q
  |ret u=>obtain⟨v,aA,H',I',rv,d,o,ks,nf,hd,q⟩:=q;exact⟨v,aA,_,Inv.df I' hd nf,rv,q⟩
 ·have h0:bc X.K ι ((me σ M).cz λx M1=>((match VM.cp M1 x with|some (a,kvs)=>(.ok (kvs.map λ(kv:Int×VM.W)=>VM.Src.pair (.int kv.1) kv.2,[(a,.a6 M1.length kvs)]) (M1.set a (.a6 M1.length kvs)++[VM.O.cw]):VM.R (List VM.Src×VM.b7))|none=>.bad)).cz λp M1=>(VM.loop p.2 g m p.1 σ M1).df p.2) D:=by unfold VM.qe VM.l_ at h;rw[KS] at h;exact h
  refine ke ι M H σ τ _ R S (bc.seq h0 λaz H1 x M1 u p1 R1 r1 h1=>?_);rcases Dr x M1 with z|⟨a,kvs,ed,z⟩
  ·rw[z] at h1;exact(h1:False).elim
  ·rw[z] at h1;obtain⟨d,ks,_,ha,hm,rfl,hd,rk⟩:=R1.cp ed r1;refine⟨d,ks,rfl,hd,λo es ep gJ nf=>?_⟩;have h2:bc X.K az ((VM.loop [(a,.a6 M1.length kvs)] g m (kvs.map λ(kv:Int×VM.W)=>VM.Src.pair (.int kv.1) kv.2) σ (M1.set a (.a6 M1.length kvs)++[VM.O.cw])).df [(a,.a6 M1.length kvs)]) D:=h1;have pre:az<+:az++[ep]:=⟨[ep],rfl⟩;have R2:=R1.freeze ha hm rk gJ;rw[<-Paired.len rk];refine Ec kg kb R2 ((S.mono p1).mono pre) (F9 (gZ pre ha) (by rw[<-R1.len];simp)) (bc.df (gZ pre ha) nf (bc.mono pre h2))
def NA{ex:List Str}{cl:List Nat}{scope:Scope}{e elt:Expr}{ifs:List Expr}{pos apos a9:Pos}{me:VM.EM}{g:VM.GM}{t:VM.TM}{m:VM.EM}(B:lT X (X.N++ex) ex.length cl scope)(calm:X.calm=true)(he:SE X e me)(m0:M0 X e "items" apos a9)(hg:∀C s H fp,SG (dY X (X.N++ex) scope (cA X.env.cells scope.names []) C s H fp) (.Tuple elts x1 tpos) g)(ht:∀C s H fp,kT (dY X (X.N++ex) scope (cA X.env.cells scope.names []) C s H fp) ifs t)(hm:∀C s H fp,SE (dY X (X.N++ex) scope (cA X.env.cells scope.names []) C s H fp) elt m)(hs:∀x,foldedSetIterable (.Call (.Attribute e "items" apos) [] [] a9) X.env x=pure x:=by intro _;rfl):SE X (.ListComp elt [⟨.Tuple elts x1 tpos,.Call (.Attribute e "items" apos) [] [] a9,ifs,0⟩] scope pos) (VM.nF ex.length cl me g t m):=by
 obtain⟨td,pe,ke⟩:=he;refine⟨λτ H Q=>∃ι M σ,Rel X.K ι M H/\bG ι σ τ/\ai RV X.K ι (VM.nF ex.length cl me g t m σ M) Q,λpins s τ H Q I h=>?_,λι M H σ τ Q R S h=>⟨ι,M,σ,R,S,h⟩⟩;obtain⟨ι,M,σ,R,S,h⟩:=h;rw[eval_ListComp];refine adU (use:=none) rfl hs (yH B.free) B.kind B.names (aK (EU (elts:=elts) (x1:=x1) (tpos:=tpos) pe m0 pins s τ H (λJ H1=>∃d az M1 aQ bE,NF X d/\ι<+:az/\Rel X.K az M1 H1/\jq X.K az J aQ bE/\ai RV X.K az ((VM.comp bE g t m aQ (VM.du cl (σ++List.replicate ex.length none)) M1 []).bind VM.br) (λv H'=>∃o ks,H' d=some (.bf o (.dK ks))/\Q v (upd H' d (.dK ks)))) I ?_) λv s1 h1=>aK h1 λtj s2 h2=>?_)
 ·have h0:ai RV X.K ι ((me σ M).bind λx M1=>((match VM.cp M1 x with|some (a,kvs)=>(.ok (kvs.map λ(kv:Int×VM.W)=>VM.Src.pair (.int kv.1) kv.2,[(a,.a6 M1.length kvs)]) (M1.set a (.a6 M1.length kvs)++[VM.O.cw]):VM.R (List VM.Src×VM.b7))|none=>.bad)).bind λp M1=>((VM.comp p.2 g t m p.1 (VM.du cl (σ++List.replicate ex.length none)) M1 []).bind VM.br).bind λv M2=>match VM.df p.2 M2 with|some M3=>.ok v M3|none=>.bad) Q:=by unfold VM.nF VM.l_ at h;rw[bind_assoc] at h;exact h
  refine ke ι M H σ τ _ R S (ai.seq h0 λaz H1 x M1 u p1 R1 r1 h1=>?_);rcases Dr x M1 with z|⟨a,kvs,ed,z⟩
  ·rw[z] at h1;exact(h1:False).elim
  ·rw[z] at h1;obtain⟨d,ks,_,ha,WW,rfl,hd,rk⟩:=R1.cp ed r1;refine⟨d,ks,rfl,hd,λo es ep gJ nf=>?_⟩;have pre:az<+:az++[ep]:=⟨[ep],rfl⟩;have R2:=R1.freeze ha WW rk gJ;have IX:=gZ pre ha;rw[<-Paired.len rk];refine⟨d,az++[ep],_,_,_,nf,p1.trans pre,R2,F9 (g:=M1.length) IX (by rw[<-R1.len];simp),?_⟩;have h2:ai RV X.K az (((VM.comp [(a,.a6 M1.length kvs)] g t m (kvs.map λ(kv:Int×VM.W)=>VM.Src.pair (.int kv.1) kv.2) (VM.du cl (σ++List.replicate ex.length none)) (M1.set a (.a6 M1.length kvs)++[VM.O.cw]) []).bind VM.br).bind λv M2=>match VM.df [(a,.a6 M1.length kvs)] M2 with|some M3=>.ok v M3|none=>.bad) Q:=h1;refine ai.seq (h2.up pre) λcS H3 v M3 b p3 R3 r3 h3=>?_
   cases et:VM.df [(a,.a6 M1.length kvs)] M3 with
   |none=>rw[et] at h3;exact(h3:False).elim
   |some M4=>rw[et] at h3;obtain⟨o',WX,g1,R4⟩:=zT (gZ p3 IX) et R3;exact⟨o',WX,g1,h3 cS _ _ d9 R4 r3⟩
 ·obtain⟨it,fp,tn,J,H2,e',I2,T,og,f2,d,az,M1,aQ,bE,nf,p1,R1,J1,hp⟩:=h2;subst e';exact zk (RR:=λacc C=>compPost (model X.prog X.w) X.A X.xe none (EP X pins τ Q) acc C) B calm hg ht hm I2 T og f2 R1 (S.mono p1) J1 hp λD C oC mC s' H' hC kC I' ⟨o,ks,hd,q⟩=>⟨mC,kC,λh' eY=>⟨.ref D,_,Inv.df (zR I2 hC I' eY) hd nf,rfl,q⟩⟩
end
def y8{P:Program}{w:World}{H:Hp}{h:Heap}{a:Addr}{o:HO}(x:c7 P w H h a o):∃u,h.get? a=some u:=by
 cases o with
 |lst xs=>obtain⟨_,_,_,_,e⟩:=x;exact⟨_,e⟩
 |tup xs=>obtain⟨_,_,_,_,e,_⟩:=x;exact⟨_,e⟩
 |dK kvs=>obtain⟨_,_,_,_,_,_,_,e,_⟩:=x;exact⟨_,e⟩
 |dT kvs=>obtain⟨_,_,_,_,_,_,_,e,_⟩:=x;exact⟨_,e⟩
 |set S n=>obtain⟨_,_,_,_,e,_⟩:=x;exact⟨_,e⟩
 |ins C dx fs=>obtain⟨_,_,_,e,_⟩:=x;exact⟨_,e⟩
 |own y=>exact x
 |xd fs=>obtain⟨_,⟨_,_,_,e,_⟩,_⟩:=x;exact⟨_,e⟩
 |cJ lo hi=>obtain⟨_,_,_,e⟩:=x;exact⟨_,e⟩
 |bf ob u=>obtain⟨e,_⟩:=x;exact⟨_,e⟩
 |kU ps=>exact⟨_,x⟩
 |met f y=>exact⟨_,x⟩
 |ext φ=>exact x.2.1
def F_{P:Program}{w:World}{H:Hp}{h h':Heap}(x:cC P w H h)(k:∀b u,H b≠none->h.get? b=some u->h'.get? b=some u):cC P w H h':=λa o e=>(x a o e).hU (λb u hb q=>k b u (hb.elim (λz=>by rw[z,e];simp) λz=>by rw[z];simp) q) (λ_ q=>q) λ_ _ q=>q
def GG{fs:List Addr}{H H':Hp}{h h1 h':Heap}(u:Un fs [] H H' h h1)(k:∀b o o',h.get? b=some o->b∉fs->h1.get? b=some o'->h'.get? b=some o')(sl:∀b o,b∈fs->h1.get? b=some o->∃sl,h'.get? b=some {o with slots:=sl}):Un fs [] H H' h h' where
 keep:=λb o e n hb hx=>k b o o e hb (u.keep b o e n hb hx)
 slot:=λb o e n hb hx=>by obtain⟨s1,e1⟩:=u.slot b o e n hb hx;obtain⟨s2,e2⟩:=sl b _ hb e1;exact⟨s2,e2⟩
 free:=u.free
 there:=λb o e hx=>by
  obtain⟨o',e1⟩:=u.there b o e hx;by_cases hb:b∈fs
  ·obtain⟨_,e2⟩:=sl b _ hb e1;exact⟨_,e2⟩
  ·exact⟨o',k b o o' e hb e1⟩
 fX:=u.fX
 gp:=u.gp
 hV:=u.hV
def fR(P:Program)(w:World):ig:=λouter H s E e s'=>∃ea C a0 H' B,e=.ref ea/\s'.os=s.os/\AllBare s'.gens/\Un (dg outer) [] H H' s.heap s'.heap/\cC P w H' s'.heap/\
 Heap.FlyingW B outer ea (.ref C) a0 s'.heap/\(∀b o,s'.heap.get? b=some o->B.get? b=none->H' b=none/\(b∈dg outer\/s.heap.get? b=none))/\E (.ref C) none H'
def nQ(K:Fg)(ι:List Addr)(r:VM.R VM.W)(Q:VK)(E:XK):Prop:=match r with
 |.ok a M'=>∀aw H' b,ι<+:aw->Rel K aw M' H'->RV aw a b->Q b H'
 |.ex (.str c) M'=>∀aw H' C,ι<+:aw->Rel K aw M' H'->PySem.W.nsIn K mainGlobals (txt c)=some (some (.ref C))->E (.ref C) none H'
 |_=>False
def CZ(K:Fg)(n:Nat)(c:VM.CM):Sp:=λvs H Q E=>vs.length=n/\∃ι M ws,Rel K ι M H/\bB ι ws vs/\nQ K ι (c ws M) Q E
structure qW(P:Program)(w:World)(K:Fg)(mg:Str->Option Value)(base:Heap)(k:Nat)(x:Str)(f:Addr)(fd:FuncData)(ps:List Str)(c:VM.CM):Prop where
 ok:fo P w K mg base (fR P w) k f fd ps (CZ K ps.length c)
 mg:mg x=some (.ref f)
 kp:PySem.W.keepIn K (.ref f)=true
 bi:Binds K fd ps []
 ln:∀ws M,ws.length≠ps.length->c ws M=.bad
def Pn{K:Fg}{h:Heap}{C:Addr}{IY:List Value}{newId:String}(X:K.In h)(q:PySem.W.excIn K C IY newId=true):
 ∃bm N nm q bs hdct sn sub ab col dd k0 k1 k2 k3 k5 mN,h.get? C=some (excClassObj nm q C N bs bm hdct sn sub ab col dd k0 k1 k2 k3 k5 newId)/\h.Ns N mN/\mN "__init__"=none/\OwnTail h IY bm:=by
 unfold PySem.W.excIn at q;split at q
 ·rename_i dd cd sl ho
  split at q
  ·rename_i C' bm k0 k1 k2 k3 n k5 hm hs
   simp only[aaT,abA,abg] at q;obtain⟨⟨⟨⟨⟨rfl,rfl⟩,Hm⟩,ht⟩,aE⟩,xw⟩:=q;obtain⟨nm,bs,mro,ns,qn,hd,sn,sub,ab,col,del⟩:=cd;dsimp only at hm Hm aE xw;subst hm Hm;have WY:sl= #[k0,k1,k2,k3,some (.builtin n),k5]:=by obtain⟨l⟩:=sl;simp only at hs;rw[hs]
   subst WY;exact⟨bm,ns,nm,qn,bs,hd,sn,sub,ab,col,dd,k0,k1,k2,k3,k5,_,X _ _ ho,.of_isNs (PySem.W.isNs_of_in X aE),PySem.W.nsMap_none_of_in X aE xw,PySem.W.tail_of_in X ht⟩
  ·cases q
 ·cases q
abbrev xx:List Value:=[.type "ValueError",.type "Exception",.type "BaseException",.type "object"]
section
variable{P:Program}{w:World}{K:Fg}{mg:Str->Option Value}{base:Heap}{N:List Str}{qual:Str}{scope:Scope}{f:Addr}{cd:Value}{A:Around}{outer:List Env}{s0:Shared}{H0:Hp}{E:XK}
def NB{x:Str}{C:Addr}{msg:Str}{j np mp a9 pos}(hm:mg x=some (.ref C))(q:PySem.W.excIn K C xx "ValueError.__new__"=true)(hg:Gl (dP (fR P w) P w K mg base N qual scope f cd A outer s0 H0 E) x)(bO:(x==("__debug__":Str))=false)(he:starEach [.Constant (.str msg) j mp] (dP (fR P w) P w K mg base N qual scope f cd A outer s0 H0 E).env=(false,eval (.Constant (.str msg) j mp) (dP (fR P w) P w K mg base N qual scope f cd A outer s0 H0 E).env)::starEach [] (dP (fR P w) P w K mg base N qual scope f cd A outer s0 H0 E).env)(bI:(backTo a9 (starEach [.Constant (.str msg) j mp] (dP (fR P w) P w K mg base N qual scope f cd A outer s0 H0 E).env)).any (·.1)=false):
 PS (dP (fR P w) P w K mg base N qual scope f cd A outer s0 H0 E) (.Raise (some (.Call (.Name x np) [.Constant (.str msg) j mp] [] a9)) none pos) (λ_ _ H=>E (.ref C) none H):=by
 intro pins s σ H D I h;obtain⟨bm,N',nm,qn,bs,hdct,sn,sub,ab,col,dd,k0,k1,k2,k3,k5,mN,hC,hN,xw,T⟩:=Pn I.mod.mI q;refine wpAny_Raise_call_subT (C:=C) (N:=N') (nm:=nm) (q:=qn) (bs:=bs) (bm:=bm) (hdct:=hdct) (sn:=sn) (sub:=sub) (ab:=ab) (col:=col) (dd:=dd) (k0:=k0) (k1:=k1) (k2:=k2) (k3:=k3) (k5:=k5) PySem.F.excBase_ValueError (T.hasType rfl) (I.ok.hd rfl) bI xw ?_;refine pS I hg hm ⟨rfl,?_⟩ bO;have pa:=gh (X:=dP (fR P w) P w K mg base N qual scope f cd A outer s0 H0 E) (FE (x:=msg) (j:=j) (pos:=mp)) jh he;have h1:=pa a9 pins s σ H (λvs H1=>vs.length=1/\E (.ref C) none H1) I ⟨rfl,h⟩;rw[he] at h1⊢;refine acF (abh h1 (λus s2 ⟨vs,H2,I2,r,hl,e2⟩=>?_) λ_ _ y=>y);refine⟨rfl,by rw[<-r.length,hl];decide,I2.bk _ _ hC,hN.keeps I2.bk,T.keeps I2.bk,λh' e mk=>?_⟩;show wpAny _ _ (leaving _ _) _ _ _;have a7:∀env∈(envOfC qual scope s0.heap.objs.size f cd::outer),∀b,env.frame=some b->b∈dg (envOfC qual scope s0.heap.objs.size f cd::outer):=λenv he b hb=>acq.mpr ⟨env,he,hb⟩
 have Hn:=I2.stack;refine wpAny_leaves_madeW (base:=PySem.W.hideAll s2.heap (dg (envOfC qual scope s0.heap.objs.size f cd::outer))) (h:=s2.heap) I2.ok.frames rfl (λb o q=>PySem.W.of_hideAll _ q) (PySem.W.funFrames_hide Hn a7) mk λh2 t fl tup tn up=>?_
 have IZ:∀b∈dg (envOfC qual scope s0.heap.objs.size f cd::outer),H2 b=none:=I2.zV;have old:∀b u,b∉dg (envOfC qual scope s0.heap.objs.size f cd::outer)->s2.heap.get? b=some u->h2.get? b=some u:=λb u hb e=>fl.1 b u (adp _ e hb)
 have sub:∀b,b∈dg outer->b∈dg (envOfC qual scope s0.heap.objs.size f cd::outer):=λb hb=>by obtain⟨env,h1,h2⟩:=acq.mp hb;exact acq.mpr ⟨env,abo _ h1,h2⟩
 have sup:∀b,b∈dg (envOfC qual scope s0.heap.objs.size f cd::outer)->b=s0.heap.objs.size\/b∈dg outer:=λb hb=>by
  obtain⟨env,h1,h2⟩:=acq.mp hb;rcases aaX.mp h1 with rfl|h1
  ·exact .inl (aa2 h2).symm
  ·exact .inr (acq.mpr ⟨env,h1,h2⟩)
 refine⟨e,C,.ref t,H2,_,rfl,I2.os,I2.bare,GG I2.base (λb o o' h0 hb e1=>old b o' (λz=>?_) e1) (λb o hb e1=>?_),F_ I2.aE (λb u n e1=>old b u (λz=>n (IZ b z)) e1),fl,λb o e1 n=>?_,e2⟩
 ·rcases sup b z with rfl|z
  ·exact absurd (aa3 h0) (abI _)
  ·exact hb z
 ·obtain⟨_,o',dn,nf⟩:=Hn.mem (sub b hb);rw[e1] at dn;cases dn;exact up b o (mk.keeps b o e1) nf
 ·by_cases hb:b∈dg (envOfC qual scope s0.heap.objs.size f cd::outer)
  ·refine⟨IZ b hb,?_⟩;rcases sup b hb with rfl|z
   ·refine .inr (Heap.get?_none_of_le (aaY _))
   ·exact .inl z
  ·have n2:s2.heap.get? b=none:=by
    cases e3:s2.heap.get? b with
    |none=>rfl
    |some u=>rw[adp _ e3 hb] at n;cases n
   refine⟨?_,.inr ?_⟩
   ·cases e3:H2 b with
    |none=>rfl
    |some u=>obtain⟨_,e4⟩:=y8 (I2.aE b u e3);rw[n2] at e4;cases e4
   ·cases e3:s0.heap.get? b with
    |none=>rfl
    |some u=>obtain⟨_,e4⟩:=I2.base.there b u e3 (by show b∉[];simp);rw[n2] at e4;cases e4
end
def iC(K:Fg)(ι:List Addr)(r:VM.RS)(D:Ends)(E:XK):Prop:=match r with
 |.ex (.str c) M'=>∀aw H' C,ι<+:aw->Rel K aw M' H'->PySem.W.nsIn K mainGlobals (txt c)=some (some (.ref C))->E (.ref C) none H'
 |.ex _ _=>False
 |r=>bc K ι r D
def iC.mono{K:Fg}{ι aw:List Addr}{r:VM.RS}{D:Ends}{E:XK}(p:ι<+:aw)(h:iC K ι r D E):iC K aw r D E:=by
 cases r with
 |ex v M=>cases v with
  |str c=>exactλaU H2 C p2 R2 n=>h aU H2 C (abt p p2) R2 n
  |ao=>exact h
  |bl _=>exact h
  |int _=>exact h
  |ref _=>exact h
 |nx σ M=>exact bc.mono (r:=.nx σ M) p h
 |rt w M=>exact bc.mono (r:=.rt w M) p h
 |bk σ M=>exact bc.mono (r:=.bk σ M) p h
 |ct σ M=>exact bc.mono (r:=.ct σ M) p h
 |bad=>exact h
def iC.WZ{K:Fg}{ι:List Addr}{v:VM.W}{M':VM.Mem}{D D':Ends}{E:XK}(h:iC K ι (.ex v M') D E):iC K ι (.ex v M') D' E:=by cases v<;>exact h
def SX(X:Cx)(E:XK)(st:List Stmt)(m:VM.SM):Prop:=∃t,gP X st t/\∀ι M H σ τ D,Rel X.K ι M H->bG ι σ τ->iC X.K ι (m σ M) D E->t D τ H
section
variable{X:Cx}{E:XK}
def Ga{st:Stmt}{t:TS}(h:PS X.eU st t):PS X st t:=λpins s σ H D I hw=>abh (h pins s σ H D (I.iG _) hw) (λ_ _ q=>q.jg) λ_ _ z=>False.elim z
def RI{st:Stmt}{m:VM.SM}(h:SS X.eU st m):SX X E [st] (VM.mD m):=by
 obtain⟨t,p,k⟩:=h;refine⟨t,zX (Ga p),λι M H σ τ D R S h=>k ι M H σ τ D R S ?_⟩;unfold VM.mD at h;cases e:m σ M with
 |ex v M'=>rw[e] at h;exact(h:False).elim
 |nx aA M'=>rw[e] at h;exact h
 |rt w M'=>rw[e] at h;exact h
 |bk aA M'=>rw[e] at h;exact h
 |ct aA M'=>rw[e] at h;exact h
 |bad=>rw[e] at h;exact h
def Po{st:Stmt}{rest:List Stmt}{m n:VM.SM}(h:SS X.eU st m)(hr:SX X E rest n):SX X E (st::rest) (VM.aj (VM.mD m) n):=by
 obtain⟨t,p,k⟩:=h;obtain⟨u,q,l⟩:=hr;refine⟨_,zu (Ga p) q,λι M H σ τ D R S h=>k ι M H σ τ _ R S ?_⟩;unfold VM.aj VM.mD at h;cases e:m σ M with
 |nx bj M1=>rw[e] at h;exactλaz H1 tR p1 R1 S1=>l az M1 H1 bj tR D R1 S1 (h.mono p1)
 |rt w M'=>rw[e] at h;exact h
 |bk aA M'=>rw[e] at h;exact h
 |ct aA M'=>rw[e] at h;exact h
 |ex v M'=>rw[e] at h;exact(h:False).elim
 |bad=>rw[e] at h;exact h
def RJ{c:Expr}{a rest:List Stmt}{t:VM.TM}{m n:VM.SM}{pos}(hc:gF X.eU c t)(ha:SX X E a m)(hr:SX X E rest n)(hm:∀σ M,∃v M',m σ M=.ex v M'):SX X E (.If c a [] pos::rest) (VM.aj (VM.aN (VM.sM t) m VM.aV) n):=by
 obtain⟨tc,pc,kc⟩:=hc;obtain⟨ta,pa,ka⟩:=ha;obtain⟨u,q,l⟩:=hr;refine⟨_,zu (Gh pc.eU pa EX) q,λι M H σ τ D R S h=>kc ι M H σ τ _ R S ?_⟩;unfold VM.aj VM.aN VM.sM at h;cases e:t σ M with
 |ok b M1=>
  rw[e] at h;intro az H1 b' p1 R1 r1;cases r1;cases b with
  |true=>have h1:iC X.K ι ((m σ M1).andThen n) D E:=h;obtain⟨v,M',em⟩:=hm σ M1;rw[em] at h1;rw[aaN rfl];refine ka az M1 H1 σ τ _ R1 (S.mono p1) ?_;rw[em];exact iC.WZ (iC.mono p1 (show iC X.K ι (.ex v M') D E from h1))
  |false=>have h1:iC X.K ι (n σ M1) D E:=h;rw[aaO aa4];exact l az M1 H1 σ τ D R1 (S.mono p1) (h1.mono p1)
 |ex v M'=>rw[e] at h;exact(h:False).elim
 |bad=>rw[e] at h;exact(h:False).elim
end
section
variable{P:Program}{w:World}{K:Fg}{mg:Str->Option Value}{base:Heap}
def NC{N:List Str}{qual:Str}{scope:Scope}{f:Addr}{cd:Value}{A:Around}{outer:List Env}{s0:Shared}{H0:Hp}{E:XK}{x:Str}{C:Addr}{msg:Str}{j np mp a9 pos}{cn:List Nat}(hm:mg x=some (.ref C))(q:PySem.W.excIn K C xx "ValueError.__new__"=true)(hn:PySem.W.nsIn K mainGlobals (txt cn)=some (some (.ref C)))(hg:Gl (dP (fR P w) P w K mg base N qual scope f cd A outer s0 H0 E) x:=by rfl)(bO:(x==("__debug__":Str))=false:=by decide+kernel)(he:starEach [.Constant (.str msg) j mp] (dP (fR P w) P w K mg base N qual scope f cd A outer s0 H0 E).env=(false,eval (.Constant (.str msg) j mp) (dP (fR P w) P w K mg base N qual scope f cd A outer s0 H0 E).env)::starEach [] (dP (fR P w) P w K mg base N qual scope f cd A outer s0 H0 E).env:=by rfl)(bI:(backTo a9 (starEach [.Constant (.str msg) j mp] (dP (fR P w) P w K mg base N qual scope f cd A outer s0 H0 E).env)).any (·.1)=false:=by rfl):
 SX (dP (fR P w) P w K mg base N qual scope f cd A outer s0 H0 E) E [.Raise (some (.Call (.Name x np) [.Constant (.str msg) j mp] [] a9)) none pos] (VM.Au cn):=
 ⟨_,zX (NB hm q hg bO he bI),λι M H σ τ D R S h=>h ι H C d9 R hn⟩
def RK{k:Nat}{x qual:Str}{st:Stmt}{f:Addr}{fd:FuncData}{N ps:List Str}{np n:Nat}{body:VM.SM}(F:jr K x qual st f fd)(S:jP N ps (c_ st))(hm:mg x=some (.ref f))(hb:Binds K fd ps [])(D:∀(bA:Value) (A:Around) (outer:List Env) (s:Shared) (H:Hp) (E:XK),cq k (A.deeper (envOfC qual (c_ st) s.heap.objs.size f bA))->SX (dP (fR P w) P w K mg base N qual (c_ st) f bA A outer s H E) E (iW st) body)(hn:N.length=n:=by rfl)(hp:ps.length=np:=by rfl):qW P w K mg base (k+1) x f fd ps (VM.fn np n body):=by
 subst hn hp;obtain⟨oc,od,kV,doc,pm,an,bA,ct,ij,rfl,lk,fM⟩:=F.ex;refine⟨Gj lk fM S (λvs H Q E h=>h.1) (λA outer s H vs Q E hr h=>?_),hm,F.kp,hb,λws M hw=>aaO hw⟩;obtain⟨hl,ι,M,ws,R,r,h⟩:=h;obtain⟨t,pt,kt⟩:=D bA A outer s H E hr;refine⟨t,pt,kt ι M H _ _ _ R (zl r N) ?_⟩;have hw:ws.length=ps.length:=by rw[Paired.len r];exact hl
 have h':nQ K ι (if ws.length=ps.length then(match body (ws.map some++List.replicate (N.length-ps.length) none) M with
  |.rt v M'=>.ok v M'
  |.nx _ M'=>.ok .ao M'
  |.ex v M'=>.ex v M'
  |_=>.bad) else .bad) Q E:=h
 rw[aaN hw] at h';rw[hw];cases e:body (ws.map some++List.replicate (N.length-ps.length) none) M with
 |nx aA M'=>rw[e] at h';exactλaw H' cf p R' S'=>h' aw H' .ao p R' rfl
 |rt v M'=>rw[e] at h';exact h'
 |bk aA M'=>rw[e] at h';exact(h':False).elim
 |ct aA M'=>rw[e] at h';exact(h':False).elim
 |ex v M'=>
  rw[e] at h';cases v with
  |str c=>exact h'
  |ao=>exact h'
  |bl _=>exact h'
  |int _=>exact h'
  |ref _=>exact h'
 |bad=>rw[e] at h';exact(h':False).elim
def ND{x:Str}{f:Addr}{fd:FuncData}{ps:List Str}(hm:mg x=some (.ref f))(kp:PySem.W.keepIn K (.ref f)=true)(hb:Binds K fd ps []):
 qW P w K mg base 0 x f fd ps (λ_ _=>.bad):=by
 have no:∀vs H Q E,¬CZ K ps.length (λ_ _=>.bad) vs H Q E:=λvs H Q E h=>by obtain⟨_,_,_,_,_,_,h⟩:=h;exact h
 exact⟨⟨λvs H Q E h=>absurd h (no vs H Q E),λA outer s H args us vs Q E _ _ _ _ h=>absurd h (no vs H Q E)⟩,hm,kp,hb,λ_ _ _=>rfl⟩
end
abbrev Cx.mk'(X:Cx)(e:Value):Cx:={X with A:=X.A.mark (some e),calm:=false,xe:=λ_ _=>False}
section
variable{X:Cx}{pins:List (Addr×Obj)}{σ:L2.St}{H H':Hp}{s s':Shared}
def zU(I:Inv X pins σ H s)(e:Value):Inv (Cx.mk' X e) pins σ H s:=
 ⟨⟨I.ok.mod,I.ok.kind,I.ok.glob,I.ok.blt,I.ok.above,I.ok.inj,I.ok.has,I.ok.n8,λz=>Bool.noConfusion z,I.ok.frames,I.ok.qA,I.ok.wa,I.ok.bs,I.ok.j3,I.ok.eB,I.ok.qi,I.ok.hZ,I.ok.kW⟩,
   I.os,I.bare,I.base,I.loc,I.cell,I.free,I.gn,I.pin,I.aE,I.len⟩
def DI(hc:X.calm=true->X.A.handled=none){e:Value}(I:Inv (Cx.mk' X e) pins σ H s):Inv X pins σ H s:=
 ⟨⟨I.ok.mod,I.ok.kind,I.ok.glob,I.ok.blt,I.ok.above,I.ok.inj,I.ok.has,I.ok.n8,hc,I.ok.frames,I.ok.qA,I.ok.wa,I.ok.bs,I.ok.j3,I.ok.eB,I.ok.qi,I.ok.hZ,I.ok.kW⟩,
   I.os,I.bare,I.base,I.loc,I.cell,I.free,I.gn,I.pin,I.aE,I.len⟩
def Mb{p:Addr}{u:HO}(I:Inv X pins σ H s)(hp:H p=none)(h0:X.dw.heap.get? p=none)(hL:p≠X.env.locals)(hc:∀x c,X.env.cells.lookup x=some c->c≠p)(vR:∀q∈X.pn++pins,q.1≠p)(new:c7 X.prog X.w (upd H p u) s.heap p u):Inv X pins σ (upd H p u) s:=by
 refine⟨I.ok,I.os,I.bare,⟨I.base.keep,I.base.slot,λb o e n hx=>?_,I.base.there,λb xs e=>?_,λb o w' e=>?_,λb ps e=>?_⟩,I.loc,I.cell,?_,λx c e=>?_,λq hq=>?_,λb o e=>?_,I.len⟩
 ·have hb:b≠p:=by rintro rfl;rw[h0] at e;cases e
  rw[ba hb];exact I.base.free b o e n hx
 ·have:=I.base.fX b xs e;rw[ba (eZ this hp)];exact this
 ·have:=I.base.gp b o w' e;rw[ba (eZ this hp)];exact this
 ·obtain⟨m,this⟩:=I.base.hV b ps e;exact⟨m,by rw[ba (eZ this hp)];exact this⟩
 ·rw[ba (abc hL)];exact I.free
 ·rw[ba (hc x c e)];exact I.gn x c e
 ·obtain⟨z1,z2,z3⟩:=I.pin q hq;exact⟨z1,by rw[ba (vR q hq)];exact z2,z3⟩
 ·by_cases hb:b=p
  ·subst hb;rw[dA] at e;cases e;exact new
  ·rw[ba hb] at e;exact(I.aE b o e).hU (λc v _ q=>q) (λc q=>by rw[ba (eZ q hp)];exact q) λc xs q=>by rw[ba (eZ q hp)];exact q
def NG{i:Nat}{n:Str}{h':Heap}{v:Option Value}{t:Nat}{m:Str->Option Value}(I:Inv X pins σ H s)(hN:X.N.Nodup)(hi:X.N[i]? =some n)(hn:s.heap.Ns X.env.locals m)(hl:∀(i:Nat) (x:Str) (v:V),X.N[i]? =some x->σ[i]? =some (some v)->qy X.env.scope x->∃u,RelV v u/\Look X.env s.heap m x u)(sY:h'.Ns X.env.locals (λx=>if x=n then v else m x))(hs:Heap.SameBut X.env.locals s.heap h'):Inv X pins (σ.set i none) H {s with heap:=h',toks:=t}:=by
 obtain⟨oL,_,_,Hq,_⟩:=id hn;have vI:i<σ.length:=by rw[I.len];exact(aaZ.mp hi).1
 refine⟨I.ok,I.os,I.bare,⟨λb o e n hb hx=>?_,λb o e n hb hx=>?_,I.base.free,λb o e hx=>?_,I.base.fX,I.base.gp,I.base.hV⟩,⟨_,sY,λj y v' e1 e2 e3=>?_⟩,λy c e=>?_,I.free,I.gn,λp hp=>?_,λb ob e=>?_,by simpa using I.len⟩
 ·exact(hs.2 b (abn (aa9 (aa3 e) I.ok.above))).trans (I.base.keep b o e n hb hx)
 ·obtain⟨sl,e1⟩:=I.base.slot b o e n hb hx;exact⟨sl,(hs.2 b (abn (aa9 (aa3 e) I.ok.above))).trans e1⟩
 ·obtain⟨o',e1⟩:=I.base.there b o e hx;exact⟨o',(hs.2 b (abn (aa9 (aa3 e) I.ok.above))).trans e1⟩
 ·by_cases hj:j=i
  ·subst hj;rw[abr vI] at e2;cases e2
  ·rw[abe (abc hj)] at e2;obtain⟨u',r',q⟩:=hl j y v' e1 e2 e3;refine⟨u',r',?_⟩;rcases q with⟨k,e⟩|⟨k,c,e,z⟩
   ·refine .inl ⟨k,?_⟩;have:y≠n:=λe=>hj (zt hN e1 (e▸hi))
    simp[this,e]
   ·exact .inr ⟨k,c,e,z.sameBut hs (I.kY y c e)⟩
 ·obtain⟨v',z⟩:=I.cell y c e;exact⟨v',z.sameBut hs (I.kY y c e)⟩
 ·obtain⟨z1,z2,z3,z4⟩:=I.pin p hp;exact⟨(hs.2 p.1 z3).trans z1,z2,z3,z4⟩
 ·refine(I.aE b ob e).hU (λc w' hc q=>(hs.2 c ?_).trans q) (λ_ q=>q) λ_ _ q=>q
  rintro rfl;rcases hc with rfl|hc
  ·rw[I.free] at e;cases e
  ·rw[I.free] at hc;cases hc
end
def nQ.up{K:Fg}{ι aw:List Addr}{r:VM.R VM.W}{Q:VK}{E:XK}(p:ι<+:aw)(h:nQ K ι r Q E):nQ K aw r Q E:=by
 cases r with
 |ok a M=>exactλaU H2 b p2 R2 r2=>h aU H2 b (abt p p2) R2 r2
 |ex v M=>cases v with
  |str c=>exactλaU H2 C p2 R2 n=>h aU H2 C (abt p p2) R2 n
  |ao=>exact h
  |bl _=>exact h
  |int _=>exact h
  |ref _=>exact h
 |bad=>exact h
def iS(X:Cx)(H:Hp)(s:Shared)(ea C:Addr)(H':Hp)(h:Heap)(B:Heap)(a0:Value):Prop:=Un (dg X.stack) [] H H' s.heap h/\cC X.prog X.w H' h/\Heap.FlyingW B X.stack ea (.ref C) a0 h/\
 ∀b o,h.get? b=some o->B.get? b=none->H' b=none/\(b∈dg X.stack\/s.heap.get? b=none)
section
variable{X:Cx}{pins:List (Addr×Obj)}{τ:L2.St}{H H':Hp}{s s':Shared}{ea C:Addr}{h h2 B:Heap}{a0:Value}
def iS.on(F:iS X H s ea C H' h B a0)(fl:Heap.FlyingW B X.stack ea (.ref C) a0 h2)(up:h.UpToSlots h2):iS X H s ea C H' h2 B a0:=by
 obtain⟨un,aE,f0,big⟩:=F;have I_:∀b o,h.get? b=some o->B.get? b≠none->h2.get? b=some o:=λb o e n=>by
  cases q:B.get? b with
  |none=>exact absurd q n
  |some o'=>have:=f0.1 b o' q;rw[e] at this;cases this;exact fl.1 b o q
 refine⟨GG un (λb o o' e0 hb e1=>I_ b o' e1 λz=>?_) (λb o hb e1=>?_),F_ aE (λb u n e1=>I_ b u e1 λz=>n (big b u e1 z).1),fl,λb o e1 n=>?_⟩
 ·rcases(big b o' e1 z).2 with q|q
  ·exact hb q
  ·rw[q] at e0;cases e0
 ·obtain⟨_,o',dn,nf⟩:=f0.2.2.1.mem hb;rw[e1] at dn;cases dn;exact up b o e1 nf
 ·cases e3:h.get? b with
  |some u=>exact big b u e3 n
  |none=>
   refine⟨?_,.inr ?_⟩
   ·cases e4:H' b with
    |none=>rfl
    |some u=>obtain⟨_,e5⟩:=y8 (aE b u e4);rw[e3] at e5;cases e5
   ·cases e4:s.heap.get? b with
    |none=>rfl
    |some u=>obtain⟨_,e5⟩:=un.there b u e4 (by simp);rw[e3] at e5;cases e5
def iS.inv(F:iS X H s ea C H' s'.heap B a0)(I:Inv X pins τ H s)(os:s'.os=s.os)(bare:AllBare s'.gens):Inv X pins τ H' s':=
 I.Gg os F.1 F.2.1 bare λb z=>absurd z (by simp)
def iS.new(F:iS X H s ea C H' h B a0):H' ea=none/\s.heap.get? ea=none/\excAt ea C h:=by obtain⟨un,aE,⟨f1,f2,f3,oe,vs,T,oT,ts,he,hc,hd,r⟩,big⟩:=F;obtain⟨z1,z2⟩:=big ea oe he f2;refine⟨z1,z2.resolve_left λhb=>?_,oe,vs,he,hc.1,hd⟩;obtain⟨_,o',dn,nf⟩:=f3.mem hb;rw[he] at dn;cases dn;exact nf vs hd
theorem handled{cx:Str}{D:Addr}{np kO:Pos}{nm:Option Str}{mH:Stmt}{mw:List Stmt}{Q:Flow->Shared->Prop}{XE:Value->Shared->Prop}(bq:X.stack=X.env::X.outer)(lU:X.env.frame=some X.env.locals)(I:Inv X pins τ H s)(os:s'.os=s.os)(bare:AllBare s'.gens)(F:iS X H s ea C H' s'.heap B a0)(hg:Gl X cx)(hm:X.mg cx=some (.ref D))(hx:PySem.W.exmOne X.K (.ref C) (.ref D)=some true)(bO:(cx==("__debug__":Str))=false)(k:∀h6,iS X H s ea C H' h6 B a0->codeAny (model X.prog X.w) (X.A.mark (some (.ref ea))) (.handlers (.ref ea) [.ExceptHandler none nm (mH::mw) kO] X.env) (λr dy=>match r with
  |.ok f=>(match nm with
   |none=>Q f dy
   |some n=>wpAny (model X.prog X.w) X.A (do bindName X.env n .none;unbindBehindTheSuite X.env n kO) (λ_ gv=>Q f gv) XE dy)
  |.error x=>cameBackBy (model X.prog X.w) X.A X.env XE x dy) {s' with heap:=h6}):
 wpAny (model X.prog X.w) X.A (noteFrame (.ref ea) X.env) (λ_ dy=>wpAny (model X.prog X.w) X.A (setFlight (.ref ea) none) (λ_ gv=>wpAny (model X.prog X.w) X.A (handleBy (.ref ea) X.env [.ExceptHandler (some (.Name cx np)) nm (mH::mw) kO]) Q XE gv) XE dy) XE s':=by
 have fr:X.A.frames=some (X.env::X.outer):=I.ok.frames.trans (abU some bq);have f0:=F.2.2.1;rw[bq] at f0;refine wpAny_looks_onW fr lU f0 λh4 Tj W0=>?_
 refine wpAny_landsW Tj λh5 C0 W2=>?_
 rw[<-bq] at C0;have F5:=F.on C0 (W0.trans W2);have I5:Inv X pins τ H' {s' with heap:=h5}:=iS.inv (s':={s' with heap:=h5}) F5 I os bare;obtain⟨ob,W3,hc⟩:=C0.there;have LT:PySem.W.Looks (model X.prog X.w) h5 (typeOf (.ref ea)) (.ref C):=hc▸(ado W3).andThen .now;refine wpAny_handleBy_cons (codeAny_handlers_test (pS (X:=Cx.mk' X (.ref ea)) (zU I5 _) hg hm ?_ bO)) (by intro q;cases q);exact(PySem.W.exm_one I5.eS LT hx).here (k h5 F5)
end
def SB(X:Cx)(st:Stmt)(m:VM.SM):Prop:=∀(XE:Value->Shared->Prop) (pins:List (Addr×Obj)) (τ:L2.St) (J:XK),(∀H s e s',Inv X pins τ H s->fR X.prog X.w X.stack H s J e s'->XE e s')->
 ∀(ι:List Addr) (M:VM.Mem) (H:Hp) (σ:VM.St) (D:Ends) (s:Shared),Inv X pins τ H s->Rel X.K ι M H->bG ι σ τ->iC X.K ι (m σ M) D J->wpAny (model X.prog X.w) X.A (exec st X.env) (SP X pins D) XE s
section
variable{X:Cx}
def x_call{x:Str}{k:Nat}{f:Addr}{fd:FuncData}{ps:List Str}{c:VM.CM}{e:Expr}{es:List Expr}{a:VM.AM}{p pos:Pos}(F:qW X.prog X.w X.K X.mg X.base k x f fd ps c)(hr:cq k X.A)(ha:SA X.eU (e::es) a)(hg:Gl X x)(bO:(x==("__debug__":Str))=false)(he:starEach (e::es) X.env=(false,eval e X.env)::starEach es X.env)(bI:(backTo pos (starEach es X.env)).any (·.1)=false){XE:Value->Shared->Prop}{pins:List (Addr×Obj)}{τ:L2.St}{J:XK}(hx:∀H s e s',Inv X pins τ H s->fR X.prog X.w X.stack H s J e s'->XE e s'){ι:List Addr}{M:VM.Mem}{H:Hp}{σ:VM.St}{Q:VK}{s:Shared}(I:Inv X pins τ H s)(R:Rel X.K ι M H)(S:bG ι σ τ)(h:nQ X.K ι (VM.gm c a σ M) Q J):
 wpAny (model X.prog X.w) X.A (eval (.Call (.Name x p) (e::es) [] pos) X.env) (EP X pins τ Q) XE s:=by
 obtain⟨ta,pa,ka⟩:=ha;have h1:ta τ H (λvs H1=>CZ X.K ps.length c vs H1 Q J):=by
  refine ka ι M H σ τ _ R S ?_;unfold VM.gm at h;cases e1:a σ M with
  |ok ws M1=>
   rw[e1] at h;intro az H1 vs p1 R1 r1;have h2:nQ X.K ι (c ws M1) Q J:=h;by_cases hw:ws.length=ps.length
   ·exact⟨by rw[<-Paired.len r1];exact hw,az,M1,ws,R1,r1,h2.up p1⟩
   ·rw[F.ln ws M1 hw] at h2;exact(h2:False).elim
  |ex v M1=>rw[e1] at h;exact(h:False).elim
  |bad=>rw[e1] at h;exact(h:False).elim
 refine acf (pS I hg F.mg ?_ bO);refine acN (h₀:=X.base) I.ok.mod.mI F.kp (abh (pa pos pins s τ H _ (I.iG _) h1) (λus s1 ⟨vs,H1,I1,r,q⟩=>?_) λ_ _ z=>False.elim z) he bI;have I1:Inv X pins τ H1 s1:=I1.jg;refine⟨I1.eS,?_⟩;have hl:us.length=ps.length:=by rw[<-r.length];exact F.ok.len _ _ _ _ q
 have hb:=F.bi s1 us I1.eS (by rw[ab_];exact hl);rw[ab_] at hb;refine wpAny_call (acM (F.ok.run X.A X.stack s1 H1 ⟨us,[]⟩ us vs Q J hr I1.A4 hb r q) λr s' hq=>?_);cases r with
 |error e=>exact hx H1 s1 e s' I1 hq
 |ok fl=>
  cases fl with
  |ret u=>exact I1.after hq
  |next=>exact False.elim hq
  |brk=>exact False.elim hq
  |cont=>exact False.elim hq
def RL{x y:Str}{k i:Nat}{f:Addr}{fd:FuncData}{ps:List Str}{c:VM.CM}{e:Expr}{es:List Expr}{a:VM.AM}{p pos pos' dR:Pos}(hN:X.N.Nodup)(F:qW X.prog X.w X.K X.mg X.base k x f fd ps c)(hr:cq k X.A)(ha:SA X.eU (e::es) a)(hi:X.N[i]? =some y:=by rfl)(hy:Loc X.env.scope y:=by first|exact Or.inl rfl|exact Or.inr rfl)(hg:Gl X x:=by rfl)(bO:(x==("__debug__":Str))=false:=by decide+kernel)(he:starEach (e::es) X.env=(false,eval e X.env)::starEach es X.env:=by rfl)(bI:(backTo pos (starEach es X.env)).any (·.1)=false:=by rfl)(hs:swapsWith (.Call (.Name x p) (e::es) [] pos) (some (.Name y pos')) dR.line X.env=pure false:=by rfl)(hf:X.fn y=true\/X.env.scope.names.lookup y=some .local:=by first|exact .inl rfl|exact .inr rfl):
 SB X (.Assign [.Name y pos'] (.Call (.Name x p) (e::es) [] pos) dR) (VM.aG (VM.gm c a) (VM.ar i)):=by
 intro XE pins τ J hx ι M H σ D s I R S h;refine wpAny_Assign_Name (abh (x_call F hr ha hg bO he bI hx I R S (Q:=λv H1=>D.nx (τ.set i (some v)) H1) ?_) (λv s1 ⟨w,H1,I1,r1,q1⟩=>?_) λ_ _ z=>z) hs
 ·unfold VM.aG at h;cases e1:VM.gm c a σ M with
  |ok w M1=>rw[e1] at h;intro az H1 v p1 R1 r1;have h2:bc X.K ι (.nx (σ.set i (some w)) M1) D:=h;exact h2 az H1 _ p1 R1 (Paired.kR (F:=jb az) (x:=some w) (y:=some v) ⟨v,rfl,r1⟩ i (S.mono p1))
  |ex v M1=>rw[e1] at h;cases v<;>exact h
  |bad=>rw[e1] at h;exact h
 ·exact uA I1 hN hi hy r1 (λs2 I2=>⟨_,H1,I2,q1⟩) hf
def Pp{x:Str}{k:Nat}{f:Addr}{fd:FuncData}{ps:List Str}{c:VM.CM}{e:Expr}{es:List Expr}{a:VM.AM}{p pos dR:Pos}(F:qW X.prog X.w X.K X.mg X.base k x f fd ps c)(hr:cq k X.A)(ha:SA X.eU (e::es) a)(hg:Gl X x:=by rfl)(bO:(x==("__debug__":Str))=false:=by decide+kernel)(he:starEach (e::es) X.env=(false,eval e X.env)::starEach es X.env:=by rfl)(bI:(backTo pos (starEach es X.env)).any (·.1)=false:=by rfl)(hs:swapsWith (.Call (.Name x p) (e::es) [] pos) none dR.line X.env=pure false:=by rfl):
 SB X (.Expr (.Call (.Name x p) (e::es) [] pos) dR) (VM.cH (VM.gm c a)):=by
 intro XE pins τ J hx ι M H σ D s I R S h;refine wpAny_Expr_any (abh (x_call F hr ha hg bO he bI hx I R S (Q:=λv H1=>D.nx τ H1) ?_) (λv s1 ⟨w,H1,I1,r1,q1⟩=>⟨τ,H1,I1,q1⟩) λ_ _ z=>z) I.quiet hs;unfold VM.cH at h;cases e1:VM.gm c a σ M with
 |ok w M1=>rw[e1] at h;intro az H1 v p1 R1 r1;have h2:bc X.K ι (.nx σ M1) D:=h;exact h2 az H1 _ p1 R1 (S.mono p1)
 |ex v M1=>rw[e1] at h;cases v<;>exact h
 |bad=>rw[e1] at h;exact h
def sE(K:Fg)(D:Addr)(cs:List (List Nat)):Prop:=∀c∈cs,∃C,PySem.W.nsIn K mainGlobals (txt c)=some (some (.ref C))/\PySem.W.exmOne K (.ref C) (.ref D)=some true
def EV{st:Stmt}{mb:VM.SM}{hs:List ExceptHandler}{h0:ExceptHandler}{pos:Pos}{pins:List (Addr×Obj)}{s:Shared}{τ:L2.St}{H:Hp}{D:Ends}{ι:List Addr}{M:VM.Mem}{σ:VM.St}(hb:SB X st mb)(I:Inv X pins τ H s)(R:Rel X.K ι M H)(S:bG ι σ τ)(hn:∀aA M',mb σ M=.nx aA M'->bc X.K ι (.nx aA M') D)(ho:(∃aA M',mb σ M=.nx aA M')\/∃c M',mb σ M=.ex (.str c) M')(hx:∀c M' C H1 s1 ea s' a0 B H',mb σ M=.ex (.str c) M'->PySem.W.nsIn X.K mainGlobals (txt c)=some (some (.ref C))->Inv X pins τ H1 s1->s'.os=s1.os->AllBare s'.gens->iS X H1 s1 ea C H' s'.heap B a0->(∃aw,ι<+:aw/\Rel X.K aw M' H')->
  wpAny (model X.prog X.w) X.A (noteFrame (.ref ea) X.env) (λ_ dy=>wpAny (model X.prog X.w) X.A (setFlight (.ref ea) none) (λ_ gv=>wpAny (model X.prog X.w) X.A (handleBy (.ref ea) X.env (h0::hs)) (SP X pins D) X.xe gv) X.xe dy) X.xe s'):
 wpAny (model X.prog X.w) X.A (exec (.Try [st] (h0::hs) [] [] pos) X.env) (SP X pins D) X.xe s:=by
 refine wpAny_Try_except (ads (abh (hb (λe bD=>wpAny (model X.prog X.w) X.A (noteFrame e X.env) (λ_ dy=>wpAny (model X.prog X.w) X.A (setFlight e none) (λ_ gv=>wpAny (model X.prog X.w) X.A (handleBy e X.env (h0::hs)) (SP X pins D) X.xe gv) X.xe dy) X.xe bD) pins τ (λv _ H'=>∃c M' aw,mb σ M=.ex (.str c) M'/\PySem.W.nsIn X.K mainGlobals (txt c)=some (some v)/\ι<+:aw/\Rel X.K aw M' H') (λH1 s1 e s' I1 q=>?_) ι M H σ {nx:=D.nx,rt:=λ_ _=>False} s I R S ?_) (λfl s1 q=>?_) λ_ _ z=>z))
 ·obtain⟨ea,C,a0,H',B,rfl,os,bare,un,aE,fl,big,c,M',aw,e1,e2,e3,e4⟩:=q;exact hx c M' C H1 s1 ea s' a0 B H' e1 e2 I1 os bare ⟨un,aE,fl,big⟩ ⟨aw,e3,e4⟩
 ·rcases ho with⟨aA,M',e⟩|⟨c,M',e⟩
  ·rw[e];exact hn aA M' e
  ·rw[e];exactλaw H' C p R' n=>⟨c,M',aw,rfl,n,p,R'⟩
 ·cases fl with
  |next=>exact acC (acC q)
  |brk=>obtain⟨_,_,_,z⟩:=q;exact z.elim
  |cont=>obtain⟨_,_,_,z⟩:=q;exact z.elim
  |ret u=>obtain⟨_,_,_,_,_,z⟩:=q;exact z.elim
def Pq{cx:Str}{D:Addr}{np kO pos:Pos}{st mH:Stmt}{mw:List Stmt}{cs:List (List Nat)}{mb mh:VM.SM}(hb:SB X st mb)(hm:X.mg cx=some (.ref D))(ht:sE X.K D cs)(hh:∀e,gU (Cx.mk' X e) (mH::mw) mh)(bq:X.stack=X.env::X.outer:=by rfl)(lU:X.env.frame=some X.env.locals:=by rfl)(hg:Gl X cx:=by rfl)(bO:(cx==("__debug__":Str))=false:=by decide+kernel):
 SS X (.Try [st] [.ExceptHandler (some (.Name cx np)) none (mH::mw) kO] [] [] pos) (VM.gO mb cs none mh):=by
 refine⟨λD τ H=>∃ι M σ,Rel X.K ι M H/\bG ι σ τ/\bc X.K ι (VM.gO mb cs none mh σ M) D,λpins s τ H Dn I h=>?_,λι M H σ τ D R S h=>⟨ι,M,σ,R,S,h⟩⟩;obtain⟨ι,M,σ,R,S,h⟩:=h;unfold VM.gO at h;refine EV hb I R S (λaA M' e=>by rw[e] at h;exact h) ?_ λc M' C H1 s1 ea s' a0 B H' e1 e2 I1 os bare F ⟨aw,p,R'⟩=>?_
 ·cases e:mb σ M with
  |nx aA M'=>exact .inl ⟨_,_,rfl⟩
  |ex v M'=>cases v with
   |str c=>exact .inr ⟨_,_,rfl⟩
   |ao=>rw[e] at h;exact(h:False).elim
   |bl _=>rw[e] at h;exact(h:False).elim
   |int _=>rw[e] at h;exact(h:False).elim
   |ref _=>rw[e] at h;exact(h:False).elim
  |rt v M'=>rw[e] at h;exact(h:False).elim
  |bk aA M'=>rw[e] at h;exact(h:False).elim
  |ct aA M'=>rw[e] at h;exact(h:False).elim
  |bad=>rw[e] at h;exact(h:False).elim
 ·rw[e1] at h;have h1:bc X.K ι (if cs.contains c then(match mh σ M' with
   |.nx bS M2=>.nx bS M2
   |_=>.bad) else .bad) Dn:=h
  by_cases hc:cs.contains c=true
  ·rw[aaN hc] at h1;obtain⟨C',n1,n2⟩:=ht c (by simpa using hc);rw[e2] at n1;cases n1;refine handled bq lU I1 os bare F hg hm n2 bO λh6 F6=>?_
   refine codeAny_handlers_suite (lands_againW F6.2.2.1 λh7 C1 C2=>?_);have F7:=F6.on C1 C2;have I7:Inv X pins τ H' {s' with heap:=h7}:=iS.inv (s':={s' with heap:=h7}) F7 I1 os bare;obtain⟨th,ph,kh⟩:=hh (.ref ea);have q:th {nx:=Dn.nx,rt:=λ_ _=>False} τ H':=by
    refine kh aw M' H' σ τ _ R' (S.mono p) ?_;cases e:mh σ M' with
    |nx bS M2=>rw[e] at h1;exact bc.mono p h1
    |rt v M2=>rw[e] at h1;exact(h1:False).elim
    |ex v M2=>rw[e] at h1;exact(h1:False).elim
    |bk bS M2=>rw[e] at h1;exact(h1:False).elim
    |ct bS M2=>rw[e] at h1;exact(h1:False).elim
    |bad=>rw[e] at h1;exact(h1:False).elim
   refine abh (ph pins _ τ H' _ (zU I7 _) q) (λfl s8 z=>?_) λ_ _ z=>z.elim
   cases fl with
   |next=>obtain⟨aA,H2,I8,z⟩:=z;exact⟨aA,H2,DI I.ok.hd I8,z⟩
   |brk=>obtain⟨_,_,_,z⟩:=z;exact z.elim
   |cont=>obtain⟨_,_,_,z⟩:=z;exact z.elim
   |ret u=>obtain⟨_,_,_,_,_,z⟩:=z;exact z.elim
  ·rw[aaO hc] at h1;exact(h1:False).elim
def Pr{cx n:Str}{D:Addr}{np kO pos:Pos}{st mH:Stmt}{mw:List Stmt}{cs:List (List Nat)}{i:Nat}{mb mh:VM.SM}(hN:X.N.Nodup)(hb:SB X st mb)(hm:X.mg cx=some (.ref D))(ht:sE X.K D cs)(hh:∀e,gU (Cx.mk' X e) (mH::mw) mh)(hi:X.N[i]? =some n:=by rfl)(hl:X.env.scope.names.lookup n=some .local:=by rfl)(hex:X.ex=[]:=by rfl)(bq:X.stack=X.env::X.outer:=by rfl)(lU:X.env.frame=some X.env.locals:=by rfl)(hg:Gl X cx:=by rfl)(bO:(cx==("__debug__":Str))=false:=by decide+kernel):
 SS X (.Try [st] [.ExceptHandler (some (.Name cx np)) (some n) (mH::mw) kO] [] [] pos) (VM.gO mb cs (some i) mh):=by
 refine⟨λD τ H=>∃ι M σ,Rel X.K ι M H/\bG ι σ τ/\bc X.K ι (VM.gO mb cs (some i) mh σ M) D,λpins s τ H Dn I h=>?_,λι M H σ τ D R S h=>⟨ι,M,σ,R,S,h⟩⟩;obtain⟨ι,M,σ,R,S,h⟩:=h;unfold VM.gO at h;refine EV hb I R S (λaA M' e=>by rw[e] at h;exact h) ?_ λc M' C H1 s1 ea s' a0 B H' e1 e2 I1 os bare F ⟨aw,p,R'⟩=>?_
 ·cases e:mb σ M with
  |nx aA M'=>exact .inl ⟨_,_,rfl⟩
  |ex v M'=>cases v with
   |str c=>exact .inr ⟨_,_,rfl⟩
   |ao=>rw[e] at h;exact(h:False).elim
   |bl _=>rw[e] at h;exact(h:False).elim
   |int _=>rw[e] at h;exact(h:False).elim
   |ref _=>rw[e] at h;exact(h:False).elim
  |rt v M'=>rw[e] at h;exact(h:False).elim
  |bk aA M'=>rw[e] at h;exact(h:False).elim
  |ct aA M'=>rw[e] at h;exact(h:False).elim
  |bad=>rw[e] at h;exact(h:False).elim
 ·rw[e1] at h;have h1:bc X.K ι (if cs.contains c then(mh (σ.set i (some (.ref M'.length))) (M'++[.dr c])).unset i else .bad) Dn:=h;by_cases hc:cs.contains c=true
  ·rw[aaN hc] at h1;obtain⟨C',n1,n2⟩:=ht c (by simpa using hc);rw[e2] at n1;cases n1;refine handled bq lU I1 os bare F hg hm n2 bO λh6 F6=>?_
   refine codeAny_handlers_suite_as (lands_againW F6.2.2.1 λh7 C1 C2=>?_);have F7:=F6.on C1 C2;have I7:Inv X pins τ H' {s' with heap:=h7}:=iS.inv (s':={s' with heap:=h7}) F7 I1 os bare;obtain⟨g1,g2,g3⟩:=F7.new;have I8:Inv X pins τ (upd H' ea (.ext (excAt ea C))) {s' with heap:=h7}:=by
    refine Mb I7 g1 ?_ ?_ ?_ ?_ ?_
    ·cases q:X.dw.heap.get? ea with
     |none=>rfl
     |some o=>obtain⟨_,z⟩:=I1.base.there ea o q (by rw[hex];simp);rw[g2] at z;cases z
    ·rintro rfl;obtain⟨m,⟨o,_,_,ho,_⟩,_⟩:=I1.loc;rw[g2] at ho;cases ho
    ·rintro x c q rfl;obtain⟨_,o,ho,_⟩:=I1.cell x c q;rw[g2] at ho;cases ho
    ·rintro q hq rfl;have:=(I1.pin q hq).1;rw[g2] at this;cases this
    ·obtain⟨o,vs,ho,tF,hd⟩:=g3;exact⟨⟨o,vs,ho,tF,hd⟩,⟨o,ho⟩,λa b ⟨o,vs,q1,q2,q3⟩ k=>⟨o,vs,k o q1,q2,q3⟩⟩
   have R8:Rel X.K (aw++[ea]) (M'++[.dr c]) (upd H' ea (.ext (excAt ea C))):=R'.new g1 λaU _=>⟨C,e2,dA⟩
   have p8:ι<+:aw++[ea]:=abt p ⟨[ea],rfl⟩;obtain⟨th,ph,kh⟩:=hh (.ref ea);refine uA (X:=Cx.mk' X (.ref ea)) (v:=.ref ea) (zU I8 _) hN hi (.inl hl) rfl (λs9 I9=>?_) (.inr hl);have q:th {nx:=λaA H'=>Dn.nx (aA.set i none) H',rt:=λ_ _=>False} (τ.set i (some (.ref ea))) (upd H' ea (.ext (excAt ea C))):=by
    refine kh (aw++[ea]) _ _ (σ.set i (some (.ref M'.length))) _ _ R8 (Paired.kR (F:=jb (aw++[ea])) (x:=some (.ref M'.length)) (y:=some (.ref ea)) ⟨.ref ea,rfl,ea,?_,rfl⟩ i (S.mono p8)) ?_
    ·rw[<-R'.len];simp
    ·cases e:mh (σ.set i (some (.ref M'.length))) (M'++[.dr c]) with
     |nx bS M2=>rw[e] at h1;intro aU H2 xn p2 R2 S2;exact h1 aU H2 _ (abt p8 p2) R2 (Paired.kR (F:=jb aU) (x:=none) (y:=none) trivial i S2)
     |rt v M2=>rw[e] at h1;exact(h1:False).elim
     |ex v M2=>rw[e] at h1;exact(h1:False).elim
     |bk bS M2=>rw[e] at h1;exact(h1:False).elim
     |ct bS M2=>rw[e] at h1;exact(h1:False).elim
     |bad=>rw[e] at h1;exact(h1:False).elim
   refine abh (ph pins s9 _ _ _ I9 q) (λfl Z_ z=>?_) λ_ _ z=>z.elim
   cases fl with
   |next=>obtain⟨aA,H2,W4,z⟩:=z;have Ja:=DI I.ok.hd W4;obtain⟨m,hn,mP⟩:=id Ja.loc;exact wpAny_nameGoes_keeps hl hn (by rw[I.ok.kind];rfl) λh' v sY eY=>⟨_,H2,NG Ja hN hi hn mP sY eY,z⟩
   |brk=>obtain⟨_,_,_,z⟩:=z;exact z.elim
   |cont=>obtain⟨_,_,_,z⟩:=z;exact z.elim
   |ret u=>obtain⟨_,_,_,_,_,z⟩:=z;exact z.elim
  ·rw[aaO hc] at h1;exact(h1:False).elim
end
structure jZ(K:Fg)(C:Addr):Prop where
 ga:PySem.W.findIn K (.ref C) "__getattribute__"=some (some (.builtin "BaseException.__getattribute__"))
 hk:PySem.W.findIn K (.ref C) "__getattr__"=some none
 ca:PySem.W.findIn K (.ref C) "__class__"=some (some (.builtin "object.__class__"))
 ob:PySem.W.mroIn K C (.type "object")=some true
 be:PySem.W.mroIn K C (.type "BaseException")=some true
section
variable{prog:Program}{w:World}{A:Around}{E:Value->Shared->Prop}{h:Heap}{g:Array GenState}{d:Drawn}{t:Nat}{os:OsState}{a C:Addr}{o:Obj}{K:Fg}
open Builtin Builtin.ObjectAttr Builtin.Getset_descriptor in
def Pt{R:Result->Shared->Prop}(Z:jZ K C)(X:K.In h)(hx:h.get? a=some o)(hc:o.cls=.ref C)(hq:R (.ok (.ret (.ref C))) ⟨h,g,d,t,os⟩):
 codeAny (model prog w) A (.call (.builtin "getset_descriptor.__get__") ⟨[.builtin "object.__class__",.ref a,.ref C],[]⟩) R ⟨h,g,d,t,os⟩:=by
 have W5:(⟨h,g,d,t,os⟩:Shared).TypeIs (.builtin "object.__class__") "getset_descriptor":=adV;have L0:PySem.W.Looks (model prog w) h (typeOf (.ref a)) (.ref C):=hc▸(ado hx).andThen .now;have L1:=PySem.W.looks_mroIn (M:=model prog w) X Z.ob;refine codeAny_call_builtin PySem.W.KF.slot_gs.plain PySem.W.KF.entry_gs (PySem.W.KF.slot_gs.check _ _ _ _ _ _ _ _ PySem.W.KF.type_class (PySem.W.KF.args_gs _ _ _) ?_);unfold Builtin.«getset_descriptor.__get__» descrGet;rw[PySem.W.dga_obj];refine aaS (aa5 ?_);unfold descrGetter descrCheckInstance descrNameAndClass isInstance;simp only[PySem.W.KF.owner_class];repeat lk
 refine⟨Code.quiet_builtin _ (by decide+kernel),codeAny_builtin PySem.W.KF.entry_class ?_⟩;unfold Builtin.«object.__class__» shownTypeOf;repeat lk
 exact hq
def Mc{tk:Tok}{Q:Fin->Shared->Prop}(Z:jZ K C)(X:K.In h)(hx:h.get? a=some o)(hc:o.cls=.ref C)(hq:Q (.done (.ret (.ref C))) ⟨h,g,d,t,os⟩):
 wpAny (model prog w) A (Builtin.«object.__getattribute__» ⟨[.ref a,.str "__class__" tk],[]⟩) Q E ⟨h,g,d,t,os⟩:=by
 have W5:(⟨h,g,d,t,os⟩:Shared).TypeIs (.builtin "object.__class__") "getset_descriptor":=adV;have f5:=adV;have f6:=F.slot_gs_get.lookup;have f7:=F.slot_gs_set.lookup;have LC:=ac7 (M:=model prog w) X Z.ca;repeat (any_goals (first|assumption|(with_reducible refine wpAny_loadPart_at hx ?_;rw[hc])|with_reducible refine LC.at ?_|wp_step))
 refine Pt Z X hx hc ?_;repeat (any_goals (first|assumption|wp_step))
def Md{GH:Value}{Q:Unit->Shared->Prop}(Z:jZ K C)(X:K.In h)(hx:h.get? a=some o)(hc:o.cls=.ref C)(hq:Q () ⟨h,g,d,t,os⟩):
 wpAny (model prog w) A (checkBuiltinCall "BaseException.__getattribute__" ⟨[.ref a,GH],[]⟩) Q E ⟨h,g,d,t,os⟩:=by
 have hk:builtinKind "BaseException.__getattribute__"=some .slot:=by decide+kernel
 have RM:splitId "BaseException.__getattribute__"=some ("BaseException","__getattribute__"):=by decide+kernel
 have LB:=PySem.W.looks_mroIn (M:=model prog w) X Z.be;have ha:=F.args_bexc_ga (.ref a) GH;simp only[checkBuiltinCall,hk,RM];refine aaS ?_
 ·unfold isInstance;repeat (first|(with_reducible refine wpAny_loadPart_at hx ?_;rw[hc])|with_reducible refine LB.at ?_|wp_step)
  exact hq
def NH{tk:Tok}{R:Result->Shared->Prop}(Z:jZ K C)(X:K.In h)(hx:h.get? a=some o)(hc:o.cls=.ref C)(hq:R (.ok (.ret (.ref C))) ⟨h,g,d,t,os⟩):
 codeAny (model prog w) A (.call (.builtin "BaseException.__getattribute__") ⟨[.ref a,.str "__class__" tk],[]⟩) R ⟨h,g,d,t,os⟩:=
 codeAny_call_builtin F.attrBase_ValueError.ga.plain F.entry_bexc_ga (Md Z X hx hc (Mc Z X hx hc hq))
def NI{Q:Option Value->Shared->Prop}(Z:jZ K C)(X:K.In h)(hx:h.get? a=some o)(hc:o.cls=.ref C)(hq:Q (some (.ref C)) ⟨h,g,d,t+1,os⟩):
 wpAny (model prog w) A (getAttr? (.ref a) "__class__") Q E ⟨h,g,d,t,os⟩:=by
 have L0:PySem.W.Looks (model prog w) h (typeOf (.ref a)) (.ref C):=hc▸(ado hx).andThen .now;have LG:=ac7 (M:=model prog w) X Z.ga;have LN:=ac7 (M:=model prog w) X Z.hk;have f3:=F.attrBase_ValueError.ga.bind (.ref a);unfold getAttr? getAttrBy? getAttrBy;refine aaS (wpAny_mkText (aaS (wpAny_attempt (acD (aaS (L0.at (aaS (LG.at ?_))))))));have lr:(Value.builtin "BaseException.__getattribute__"==Value.builtin "object.__getattribute__")=false:=by decide+kernel
 have hx1:(onTheHeap (Value.ref C)&&Value.builtin "BaseException.__getattribute__"==Value.builtin "object.__getattribute__")=false:=by rw[lr];rfl
 have hx0:(false&&onTheHeap (Value.builtin "BaseException.__getattribute__"))=false:=rfl;repeat (any_goals (first|assumption|with_reducible refine LN.at ?_|wp_step))
 refine NH Z X hx hc ?_;repeat (any_goals (first|assumption|wp_step))
def NJ(Z:jZ K C)(hC:(PySem.W.clsIn K C).isSome=true):PySem.W.KitX K (.ref a) (.ref C) (excAt a C) where
 ty:=λM h _ ⟨o,vs,e,hc,_⟩=>hc▸(ado e).andThen .now
 it:=λ_ _ X _=>by
  unfold PySem.W.clsIn at hC;split at hC
  ·rename_i c' d' W6 Bp ho
   intro A' Q' E' s' k q;unfold isType loadHead;exact aaS (wpAny_loadPart (k _ _ (X _ _ ho)) (aa5 q))
  ·cases hC
 ne:=λh tp dd au n sl X W7=>by
  refine abH.mpr λq=>?_
  have e:C=tp:=Value.ref.inj (abA.mp q);subst e;unfold PySem.W.clsIn at hC;split at hC
  ·rename_i c' d' W6 Bp ho
   have z:=(X _ _ ho).symm.trans W7;cases z
  ·cases hC
 ca:=λ{_ _ _ _ _ s} X ⟨o,vs,e,hc,_⟩ k=>by obtain⟨h,g,d,t,os⟩:=s;exact NI Z X e hc k
end
def UE(K:Fg):List V->Hp->VK->Prop:=λvs H Q=>∃ea C cv b,vs=[.ref ea,cv]/\H ea=some (.ext (excAt ea C))/\jZ K C/\(PySem.W.clsIn K C).isSome=true/\(∀u,RelV cv u->PySem.W.kitOne K (.ref C) u=some b)/\Q (.bl b) H
def gy(K:Fg)(cv:V)(b:Bool)(cs:List (List Nat)):Prop:=∀c∈cs,∃C,PySem.W.nsIn K mainGlobals (txt c)=some (some (.ref C))/\jZ K C/\(PySem.W.clsIn K C).isSome=true/\∀u,RelV cv u->PySem.W.kitOne K (.ref C) u=some b
section
variable{X:Cx}
def NK:iY X (.builtin "isinstance") (UE X.K):=by
 intro pins s σ H xs us Q I r h;obtain⟨ea,C,cv,b,rfl,hp,Z,hC,hk,q⟩:=h;cases r with
 |cons r1 r=>
  cases r with
  |cons r2 r=>cases r;cases r1;exact PySem.W.kia_one (NJ Z hC) I.eS (I.aE ea _ hp).1 (hk _ r2) (by intro z;cases z) λtk=>⟨.bl b,H,I.tok _,rfl,q⟩
def Gb{a:Expr}{m:VM.EM}{x:Str}{cv:V}{ys ns:List (List Nat)}{p p2 pos:Pos}(pn:PE X (.Name x p2) (tC cv))(hy:gy X.K cv true ys)(hn:gy X.K cv false ns)(hm:X.mg "isinstance"=none)(ha:SE X a m)(hg:Gl X "isinstance":=by rfl)(he:starEach [a,.Name x p2] X.env=(false,eval a X.env)::starEach [.Name x p2] X.env:=by rfl)(bI:(backTo pos (starEach [.Name x p2] X.env)).any (·.1)=false:=by rfl)(gf:starEach [.Name x p2] X.env=(false,eval (.Name x p2) X.env)::starEach [] X.env:=by rfl):
 SE X (.Call (.Name "isinstance" p) [a,.Name x p2] [] pos) (VM.jY ys ns m):=by
 obtain⟨ta,pa,ka⟩:=ha;refine⟨_,uB NK hg hm (by kernel_rfl) (gh pa (gh pn jh gf) he) (by decide+kernel) (by decide+kernel) he bI,λι M H σ τ Q R S h=>?_⟩;refine ka ι M H σ τ _ R S (ai.seq h λaz H1 w M1 v p1 R1 r1 h1=>?_);cases w with
 |ref b=>
  obtain⟨ea,hb,rfl⟩:=r1;have h2:ai RV X.K az (match M1[b]? with
   |some (.dr c)=>if ys.contains c then .ok (.bl true) M1 else if ns.contains c then .ok (.bl false) M1 else .bad
   |_=>.bad) Q:=h1
  cases e:M1[b]? with
  |none=>rw[e] at h2;exact(h2:False).elim
  |some o=>
   rw[e] at h2;have ro:=R1.obj b ea o hb e;cases o with
   |dr c=>
    obtain⟨C,n1,n2⟩:=ro;have h3:ai RV X.K az (if ys.contains c then .ok (.bl true) M1 else if ns.contains c then .ok (.bl false) M1 else .bad) Q:=h2;by_cases c1:ys.contains c=true
    ·rw[aaN c1] at h3;obtain⟨C',z1,z2,z3,z4⟩:=hy c (by simpa using c1);rw[n1] at z1;cases z1;exact⟨ea,C,cv,true,rfl,n2,z2,z3,z4,ai.ok (b:=V.bl true) h3 R1 rfl⟩
    ·rw[aaO c1] at h3;by_cases c2:ns.contains c=true
     ·rw[aaN c2] at h3;obtain⟨C',z1,z2,z3,z4⟩:=hn c (by simpa using c2);rw[n1] at z1;cases z1;exact⟨ea,C,cv,false,rfl,n2,z2,z3,z4,ai.ok (b:=V.bl false) h3 R1 rfl⟩
     ·rw[aaO c2] at h3;exact(h3:False).elim
   |lst _=>exact(h2:False).elim
   |bf _=>exact(h2:False).elim
   |tup _=>exact(h2:False).elim
   |aI _=>exact(h2:False).elim
   |ins _ _=>exact(h2:False).elim
   |d8 _=>exact(h2:False).elim
   |a6 _ _=>exact(h2:False).elim
   |cw=>exact(h2:False).elim
 |ao=>exact(h1:False).elim
 |bl _=>exact(h1:False).elim
 |int _=>exact(h1:False).elim
 |str _=>exact(h1:False).elim
end
section
variable{X:Cx}
def Tn{x:Str}{f:Addr}(cs:List Nat){pos:Pos}(hm:X.mg x=some (.ref f))(hn:PySem.W.nsIn X.K mainGlobals (txt cs)=some (some (.ref f)))(hg:Gl X x:=by rfl)(bO:(x==("__debug__":Str))=false:=by decide+kernel):SE X (.Name x pos) (VM.mM cs):=by refine⟨_,EW (v:=.ref f) hg hm rfl bO,λι M H σ τ Q R S h=>?_⟩;refine h (ι++[f]) H (.ref f) ⟨[f],rfl⟩ (R.ghost rfl hn) ⟨f,?_,rfl⟩;rw[<-R.len];simp
def xy(X:Cx)(k:Nat)(tab:List (List Nat×VM.CM)):Prop:=∀e∈tab,∃x f fd ps,mY X.prog X.w X.K X.mg X.base k x f fd ps e.2/\PySem.W.nsIn X.K mainGlobals (txt e.1)=some (some (.ref f))
def NL{y:Str}{i k:Nat}{tab:List (List Nat×VM.CM)}{e:Expr}{es:List Expr}{a:VM.AM}{p pos:Pos}(ht:xy X k tab)(hr:cq k X.A)(ha:SA X (e::es) a)(hN:X.N[i]? =some y:=by rfl)(hv:qy X.env.scope y:=by first|exact Or.inl rfl|exact Or.inr (Or.inl rfl)|exact Or.inr (Or.inr rfl))(hd:(y==("__debug__":Str))=false:=by decide+kernel)(fM:(y==("__classdict__":Str))=false:=by decide+kernel)(he:starEach (e::es) X.env=(false,eval e X.env)::starEach es X.env:=by rfl)(bI:(backTo pos (starEach es X.env)).any (·.1)=false:=by rfl):
 SE X (.Call (.Name y p) (e::es) [] pos) (VM.u9 tab (VM.aa i) a):=by
 obtain⟨ta,pa,ka⟩:=ha;refine⟨λτ H Q=>∃x f fd ps c,mY X.prog X.w X.K X.mg X.base k x f fd ps c/\τ[i]? =some (some (.ref f))/\ta τ H λvs H1=>oP X.K ps.length c vs H1 Q E0,λpins s τ H Q I h=>?_,λι M H σ τ Q R S h=>?_⟩
 ·obtain⟨x,f,fd,ps,c,F,W8,h⟩:=h;refine acf (aK (An hN hv hd fM pins s τ H (λw H1=>w=.ref f/\H1=H) I ⟨_,W8,rfl,rfl⟩) λu s1 ⟨w,H1,I1,r,e1,e2⟩=>?_);subst e1 e2;cases r;refine acN (h₀:=X.base) I1.ok.mod.mI F.kp (aK (pa pos pins s1 τ H1 _ I1 h) λus s2 ⟨vs,H2,I2,r2,q⟩=>⟨I2.eS,?_⟩) he bI;refine Ap F.ok hr F.bi .nil vy I2 r2 ?_;rw[ab_];exact q
 ·have h0:ai RV X.K ι ((VM.aa i σ M).bind λx M1=>match VM.pick tab x M1 with|some c=>(a σ M1).bind c|none=>.bad) Q:=h;unfold VM.aa at h0;cases e1:σ[i]? with
  |none=>rw[e1] at h0;exact(h0:False).elim
  |some o=>
   cases o with
   |none=>rw[e1] at h0;exact(h0:False).elim
   |some w=>
    rw[e1] at h0;have h1:ai RV X.K ι (match VM.pick tab w M with|some c=>(a σ M).bind c|none=>.bad) Q:=h0;cases e2:VM.pick tab w M with
    |none=>rw[e2] at h1;exact(h1:False).elim
    |some c=>
     rw[e2] at h1;have h2:ai RV X.K ι ((a σ M).bind c) Q:=h1;unfold VM.pick at e2;cases e3:VM.fnOf M w with
     |none=>rw[e3] at e2;cases e2
     |some n=>
      rw[e3] at e2;have e2:(tab.find? λp=>decide (p.1=n)).map (·.2)=some c:=e2;obtain⟨en,et,rfl⟩:=ad4.mp e2;obtain⟨x,f,fd,ps,F,nf⟩:=ht en (aea et);have W9:en.1=n:=by simpa using List.find?_some et
      obtain⟨q,hq,v,rfl,rv⟩:=Paired.at S e1;have hv:v=.ref f:=by
       cases w with
       |ref b=>
        obtain⟨fp,hb,rfl⟩:=rv;unfold VM.fnOf at e3;cases e4:M[b]? with
        |none=>simp only[e4] at e3;cases e3
        |some o=>
         simp only[e4] at e3;have ro:=R.obj b fp o hb e4;cases o<;>first|cases e3|skip
         have ro:PySem.W.nsIn X.K mainGlobals (txt n)=some (some (.ref fp)):=ro;rw[W9,ro] at nf;cases nf;rfl
       |ao=>cases e3
       |bl _=>cases e3
       |int _=>cases e3
       |str _=>cases e3
      subst hv;refine⟨x,f,fd,ps,en.2,F,hq,ka ι M H σ τ _ R S (ai.seq h2 λaz H1 ws M1 vs p1 R1 r1 h3=>?_)⟩;exact AR F.ln R1 r1 h3 _
end
def Pu{vs:List V}{acc:List Value}(hl:vs.length=acc.length)(h:∀(j:Nat) (v:Value),acc[j]? =some v->∃x,vs[j]? =some x/\RelV x v):Vals vs acc:=by
 induction acc generalizing vs with
 |nil=>cases vs with
  |nil=>exact .nil
  |cons _ _=>simp at hl
 |cons a r ih=>
  cases vs with
  |nil=>simp at hl
  |cons x t=>
   obtain⟨y,e,q⟩:=h 0 a rfl;have e:x=y:=by simpa using e
   subst e;exact .cons q (ih (by simpa using hl) λj v hj=>by obtain⟨y,e,q⟩:=h (j+1) v (by simpa using hj);exact⟨y,by simpa using e,q⟩)
section
variable{X:Cx}
def Me:iY X (.type "range") (λxs H Q=>∃i j,xs=[.int i,.int j]/\∀q,H q=none->Q (.ref q) (upd H q (.cJ i j))):=by
 intro pins s σ H xs us Q I r h;obtain⟨i,j,rfl,q⟩:=h;cases r with
 |cons r1 r=>
  cases r with
  |cons r2 r=>cases r;obtain⟨t,rfl⟩:=r1;obtain⟨u,rfl⟩:=r2;refine call_range_2 ⟨.ref s.heap.objs.size,_,I.laid (t':=s.toks+1) (o:=.cJ i j) (λb u e=>abd _ e) (aaY _) ⟨_,_,_,abE _ rfl⟩,rfl,q _ (I.aE.fresh (aaY _))⟩
def JX(hh:X.A.handled=none):iY X (.type "list") (λxs H Q=>∃p i j,xs=[.ref p]/\H p=some (.cJ i j)/\i.natAbs<VM.bJ/\j.natAbs<VM.bJ/\(j-i).toNat<=sizeLine/\∀q,H q=none->Q (.ref q) (upd H q (.lst ((List.range (j-i).toNat).map λ(k:Nat)=>V.int (i+(k:Int)))))):=by
 intro pins s σ H xs us Q I r h;obtain⟨p,i,j,rfl,hp,hi,hj,hl,q⟩:=h;obtain⟨u,rfl,rx⟩:=vals1 r;cases rx;obtain⟨t,u,v,ho⟩:=I.aE p _ hp;have xv:Builtin.Range.small i j 1=true:=by unfold VM.bJ at hi hj;exact small_one (by omega) (by omega) (by omega) (by omega)
 have hn:Builtin.Range.rangeSize i j 1=(((j-i).toNat:Nat):Int):=by rw[rangeSize_one];split<;>omega
 refine call_list_range hh ho xv hn (by rw[sizeLine_eq] at hl;exact hl) λh' tk acc c hk hD hI=>?_
 have hv:Vals ((List.range (j-i).toNat).map λ(k:Nat)=>V.int (i+(k:Int))) acc.toList:=by
  refine Pu (by simp[hI.1]) λk v oG=>?_
  have eJ:acc[k]? =some v:=by rw[<-oG,ada]
  obtain⟨t,rfl⟩:=hI.2 k v eJ;have dG:k<(j-i).toNat:=by rw[<-hI.1];exact(Array.getElem?_eq_some_iff.mp eJ).1
  exact⟨.int (i+(k:Int)),by simp[dG],t,by simp⟩
 refine⟨.ref s.heap.objs.size,_,I.laid (t':=tk) hk (aaY _) (o:=.lst _) ⟨by simpa using hl,acc.toList,c,hv,?_⟩,rfl,q _ (I.aE.fresh (aaY _))⟩;rw[hD]
def Pw{a b:Expr}{m n:VM.EM}{k:Nat}{p p2 pos dR:Pos}(hr:cq k X.A)(C3:X.mg "list"=none)(C4:X.mg "range"=none)(ha:SE X a m)(hb:SE X b n)(eW:Gl X "list":=by rfl)(oE:Gl X "range":=by rfl)(he:starEach [a,b] X.env=(false,eval a X.env)::starEach [b] X.env:=by rfl)(W_:starEach [b] X.env=(false,eval b X.env)::starEach [] X.env:=by rfl)(bI:(backTo dR (starEach [b] X.env)).any (·.1)=false:=by rfl)(gf:starEach [.Call (.Name "range" p2) [a,b] [] dR] X.env=(false,eval (.Call (.Name "range" p2) [a,b] [] dR) X.env)::starEach [] X.env:=by rfl)(Bm:(backTo pos (starEach [] X.env)).any (·.1)=false:=by rfl):
 SE X (.Call (.Name "list" p) [.Call (.Name "range" p2) [a,b] [] dR] [] pos) (VM.AL m n):=by
 obtain⟨ta,pa,ka⟩:=ha;obtain⟨tb,pb,kb⟩:=hb;refine⟨_,y_ (JX hr.hd) eW C3 (by kernel_rfl) (gh (y_ Me oE C4 (by kernel_rfl) (gh pa (gh pb jh W_) he) (by decide+kernel) (by decide+kernel) he bI) jh gf) (by decide+kernel) (by decide+kernel) gf Bm,λι M H σ τ Q R S h=>?_⟩;refine ka ι M H σ τ _ R S (ai.seq h λaz H1 x M1 u p1 R1 r1 h1=>?_);refine kb az M1 H1 σ τ _ R1 (S.mono p1) (ai.seq h1 λaU H2 y M2 v p2 R2 r2 h2=>?_);cases x with
 |int i=>
  cases y with
  |int j=>
   cases r1;cases r2;have h3:ai RV X.K aU (if i.natAbs<VM.bJ/\j.natAbs<VM.bJ then VM.br ((List.range (j-i).toNat).map λ(k:Nat)=>.int (i+(k:Int))) M2 else .bad) Q:=h2;by_cases hc:i.natAbs<VM.bJ/\j.natAbs<VM.bJ
   ·rw[aaN hc] at h3;refine⟨i,j,rfl,λq hq=>?_⟩;have rs:bB aU ((List.range (j-i).toNat).map λ(k:Nat)=>VM.W.int (i+(k:Int))) ((List.range (j-i).toNat).map λ(k:Nat)=>V.int (i+(k:Int))):=by
     generalize List.range (j-i).toNat=l;induction l with
     |nil=>exact .nil
     |cons a r ih=>exact .cons rfl ih
    obtain⟨z1,z2⟩:=ni (R2.other hq _) rs h3;exact⟨q,i,j,rfl,dA,hc.1,hc.2,by simpa using z1,z2⟩
   ·rw[aaO hc] at h3;exact(h3:False).elim
  |ao=>exact(h2:False).elim
  |bl _=>exact(h2:False).elim
  |str _=>exact(h2:False).elim
  |ref _=>exact(h2:False).elim
 |ao=>cases y<;>exact(h2:False).elim
 |bl _=>cases y<;>exact(h2:False).elim
 |str _=>cases y<;>exact(h2:False).elim
 |ref _=>cases y<;>exact(h2:False).elim
def Mf:typeLookup (.type "list_reverseiterator") "__len__"=pure none:=by rw[typeLookup_type,builtinLookup_eq_fast];kernel_rfl
def NM:typeLookup (.type "list_reverseiterator") "__length_hint__"=pure (some (.builtin "list_reverseiterator.__length_hint__")):=by rw[typeLookup_type,builtinLookup_eq_fast];kernel_rfl
section
variable{prog:Program}{w:World}{A:Around}{s:Shared}{R:Result->Shared->Prop}{I:Addr}{fp wr:List Addr}{G:Array GenState->Array GenState->Prop}{n:Nat}{P:Nat->Value->Prop}{St:Nat->Shared->Prop}
def KU(W:WalksS prog w A.in1 I fp wr G n P St)(hT:∀i s,St i s->s.TypeIs (.ref I) "list_reverseiterator")(S:Addr)(res:Value)(c₀:Nat)(bq:St 0 s)(oX:S∉fp)(hI:I∈fp)(hS:s.heap.get? S=some {cls:=.type "list",data:=.seq #[] c₀})(hR:∀s' ib c',Moved (S::wr) G s s'->s'.heap.get? S=some {cls:=.type "list",dict:=none,data:=.seq ib c',slots:= #[]}->ItemsOf P ib n->R (.ok (.ret res)) s')(hn:n<=sizeLine):
 wpAny (model prog w) A.in1 (Builtin.List.listExtendWith (.ref S) (.ref I) res) (λfin s'=>match fin with|.done f=>R (.ok f) s'|.again c'=>c'.quiet=true/\codeAny (model prog w) A c' R s') (λe s'=>R (.error e) s') s:=by
 have Xa:S≠I:=λe=>oX (e▸hI)
 unfold Builtin.List.listExtendWith;refine aaS (wpAny_typeOf (hT 0 _ bq) ?_);have h1:Builtin.List.listSameRef (.ref S) (.ref I)=false:=by simp[Builtin.List.listSameRef,Xa]
 rw[aaO (by rw[h1];decide)];refine aaS (W.self 0 _ _ _ bq ?_);refine aaS (acD ?_);unfold Builtin.List.listLengthHint;refine aaS (adD (hT 0 _ bq) Mf ?_);show wpAny _ A.in1 (specialOf (Value.ref I) (Str.ofString "__length_hint__") >>= _) _ _ _;refine aaS (adD (hT 0 _ bq) NM ?_);generalize Jb:("list_reverseiterator.__length_hint__":String)=Xb
 wp_delta
 rw[show splitId Xb=some ("list_reverseiterator","__length_hint__") from by subst Jb;decide+kernel];subst Jb;refine aaS (wpAny_isInstance (b:=true) (hT 0 _ bq) (by rw[isSubtype_type];kernel_rfl) ?_);refine aa5 ?_;rw[aaO (by decide)];exact aa5 ⟨plainId_quiet F.plain_extend_loop _,codeAny_extend_loopS W hn _ oX _ n 0 _ _ _ rfl (abV _) bq hS (ItemsOf.nil P) hR⟩
def NN(W:WalksS prog w A.in1 I fp wr G n P St)(hT:∀i s,St i s->s.TypeIs (.ref I) "list_reverseiterator")(S:Addr)(bq:St 0 s)(oX:S∉fp)(hI:I∈fp)(hS:s.heap.get? S=some {cls:=.type "list",data:=.seq #[]})(hR:∀s' ib c',Moved (S::wr) G s s'->s'.heap.get? S=some {cls:=.type "list",dict:=none,data:=.seq ib c',slots:= #[]}->ItemsOf P ib n->R (.ok (.ret .none)) s')(hn:n<=sizeLine):
 wpAny (model prog w) A.in1 (Builtin.«list.__init__» ⟨[.ref S,.ref I],[]⟩) (λfin s'=>match fin with|.done f=>R (.ok f) s'|.again c'=>c'.quiet=true/\codeAny (model prog w) A c' R s') (λe s'=>R (.error e) s') s:=by
 show wpAny _ A.in1 (do let old<-Builtin.List.listItems (.ref S);Builtin.List.listUpdate (.ref S) (λ_=> #[]);letGo old.toList.reverse;Builtin.List.listExtendWith (.ref S) (.ref I) .none) _ _ s;refine aaS ?_;unfold Builtin.List.listItems;refine aaS (wpAny_seqItems hS rfl (aa5 ?_));show wpAny _ A.in1 (updateSeq S (λ_=> #[]) >>= λ_=>letGo (#[]:Array Value).toList.reverse >>= λ_=>Builtin.List.listExtendWith (.ref S) (.ref I) .none) _ _ s;refine aaS (wpAny_updateSeq hS rfl ?_);have To:=Heap.get?_update_self (Obj.mapSeq (λ_=>(#[]:Array Value))) hS rfl;have wC:∀b o,b≠S->s.heap.get? b=some o->(s.heap.update S (Obj.mapSeq (λ_=>(#[]:Array Value)))).get? b=some o:=
  λb o hb e=>(ac' _ _ (abc hb)).trans e
 refine aaS (wpAny_letGo ?_);refine KU (hn:=hn) W hT S .none _ (W.frame 0 s _ s.toks bq (aaY _) λb hb o e=>wC b o (λh=>oX (h▸hb)) e) oX hI To λs' ib c' hm C5 qv=>?_
 exact hR s' ib c' (Moved.trans W.gtrans ((Moved.refl W.grefl).then_heap (aaY _) λb o hb e=>wC b o (λh=>hb (h▸abL)) e) hm) C5 qv
end
def NO{prog:Program}{w:World}{A:Around}{E:Value->Shared->Prop}{s:Shared}{I l:Addr}{items:Array Value}{Q:Value->Shared->Prop}(hh:A.handled=none)(fw:l≠I)(hit:s.heap.IsRevIter I l ((items.size:Int)-1))(hl:s.heap.IsList l items)(hn:items.size<=sizeLine)(hQ:∀h' tk ib c',(∀b o,b≠I->s.heap.get? b=some o->h'.get? b=some o)->h'.get? s.heap.objs.size=some {cls:=.type "list",dict:=none,data:=.seq ib c',slots:= #[]}->ib.toList=items.toList.reverse->Q (.ref s.heap.objs.size) {s with heap:=h',toks:=tk}):
 wpAny (model prog w) A (call (.type "list") [.ref I]) Q E s:=by
 have Jc:I<s.heap.objs.size:=let⟨o,e,_⟩:=hit;aa3 e
 have wV:l<s.heap.objs.size:=let⟨o,e,_⟩:=hl;aa3 e
 have oX:s.heap.objs.size∉[I,l]:=λhm=>by
  simp only[aaX,aa',aba] at hm;rcases hm with e|e
  ·rw[e] at Jc;exact abI _ Jc
  ·rw[e] at wV;exact abI _ wV
 have W:=(Walks.listRev (prog:=prog) (w:=w) (A:=A.in1.in1) hh I l fw items).toS;refine callType_codes (Q₁:=λobj bD=>obj=.ref s.heap.objs.size/\bD={s with heap:=s.heap.push {cls:=.type "list",data:=.seq #[]}}) F.called_list (F.typeCall_list_1 _) F.entry_list_init (code_list_new _ ⟨rfl,rfl⟩) λobj bD jn=>?_
 obtain⟨rfl,rfl⟩:=jn;have hS:(s.heap.push {cls:=.type "list",data:=.seq #[]}).get? s.heap.objs.size=some {cls:=.type "list",data:=.seq #[]}:=abE _ rfl;refine⟨⟨_,hS,rfl⟩,F.args_list_init_2 _ _,NN (A:=A.in1) W (λi s h=>h.2.1.typeIs) _ ?_ oX (by simp) hS (λs' ib c' hm C5 qv=>?_) hn⟩
 ·refine⟨abV _,?_,?_⟩
  ·have e:(items.size:Int)-1-((0:Nat):Int)=(items.size:Int)-1:=by omega
   rw[e];exact hit.at λo e=>abd _ e
  ·exact hl.at λo e=>abd _ e
 ·refine⟨rfl,?_⟩;rw[Moved.eq_with hm];refine hQ s'.heap s'.toks ib c' (λb o hb e=>hm.heap b o (λsO=>?_) (abd _ e)) C5 ?_
  ·simp only[aaX,aa',aba] at sO;rcases sO with e'|e'
   ·exact absurd (aa3 e) (by rw[e'];exact abI _)
   ·exact hb e'
  ·refine adS λk=>?_
   have hsz:ib.toList.length=items.size:=by rw[aco];exact qv.1
   by_cases hk:k<items.size
   ·obtain⟨v,hv⟩:∃v,ib.toList[k]? =some v:=⟨_,acJ (by omega)⟩;rw[hv,List.getElem?_reverse (by rw[aco];exact hk),aco];have:=qv.2 k v (by rw[<-ada];exact hv);rw[<-this,ada]
   ·rw[ac4 (by omega),ac4 (by rw[List.length_reverse,aco];omega)]
def Px{a:Expr}{m:VM.EM}{k:Nat}{p p2 pos dR:Pos}(hr:cq k X.A)(C3:X.mg "list"=none)(C4:X.mg "reversed"=none)(ha:SE X a m)(eW:Gl X "list":=by rfl)(oE:Gl X "reversed":=by rfl)(he:starEach [a] X.env=(false,eval a X.env)::starEach [] X.env:=by rfl)(bI:(backTo dR (starEach [] X.env)).any (·.1)=false:=by rfl)(gf:starEach [.Call (.Name "reversed" p2) [a] [] dR] X.env=(false,eval (.Call (.Name "reversed" p2) [a] [] dR) X.env)::starEach [] X.env:=by rfl)(Bm:(backTo pos (starEach [] X.env)).any (·.1)=false:=by rfl):
 SE X (.Call (.Name "list" p) [.Call (.Name "reversed" p2) [a] [] dR] [] pos) (VM.AK m):=by
 obtain⟨ta,pa,ka⟩:=ha;refine⟨λτ H Q=>ta τ H λx H1=>∃l vs,x=.ref l/\H1 l=some (.lst vs)/\∀q,H1 q=none->Q (.ref q) (upd H1 q (.lst vs.reverse)),λpins s σ H Q I h=>?_,λι M H σ τ Q R S h=>?_⟩
 ·refine acf (l5 I eW C3 (u:=.type "list") (by kernel_rfl) ?_ (by decide+kernel) (by decide+kernel));refine acE ?_ gf Bm;rw[gf];show wpAny _ _ (spliced ((false,eval (.Call (.Name "reversed" p2) [a] [] dR) X.env)::backTo pos (starEach [] X.env))) _ _ s;refine ab9 ?_;refine acf (l5 I oE C4 (u:=.type "reversed") (by kernel_rfl) ?_ (by decide+kernel) (by decide+kernel));refine acE ?_ he bI;rw[he];show wpAny _ _ (spliced ((false,eval a X.env)::backTo dR (starEach [] X.env))) _ _ s;refine ab9 (aK (pa pins s σ H _ I h) λu s1 ⟨x,H1,I1,r1,l,vs,e,hl,q⟩=>?_);refine acr ?_;subst e;cases r1;obtain⟨z,au,n,rv,ho⟩:=I1.aE l _ hl;have hL:s1.heap.IsList l au.toArray:=⟨_,ho,rfl,_,rfl⟩;refine call_reversed_list hL (acr ?_);have dG:l<s1.heap.objs.size:=aa3 ho;refine NO (items:=au.toArray) hr.hd (abn dG) ⟨_,abE _ rfl,rfl,rfl⟩ (hL.at λo e=>abd _ e) ?_ λh' tk acc c hk hD ea=>?_
  ·rw[aa6,<-rv.length];exact z
  ·have k:∀b u,s1.heap.get? b=some u->h'.get? b=some u:=λb u e=>hk b u (abn (aa3 e)) (abd _ e)
   have C6:s1.heap.objs.size<=(s1.heap.push (revObj l ((au.toArray.size:Int)-1))).objs.size:=by rw[size_push'];exact adw _
   refine⟨.ref _,_,I1.laid (t':=tk) k C6 (o:=.lst vs.reverse) ⟨by simpa using z,acc.toList,c,?_,?_⟩,rfl,q _ (I1.aE.fresh C6)⟩
   ·rw[ea];show Vals vs.reverse au.reverse;clear ea hD hk ho hL z hl q C6;induction rv with
    |nil=>exact .nil
    |cons r _ ih=>rw[acL,acL];exact Vals.append ih (.cons r .nil)
   ·rw[hD]
 ·refine ka ι M H σ τ _ R S (ai.seq h λaz H1 x M1 u p1 R1 r1 h1=>?_);have h2:ai RV X.K az (match VM.cj M1 x with|some (_,xs)=>VM.br xs.reverse M1|none=>.bad) Q:=h1;cases e:VM.cj M1 x with
  |none=>rw[e] at h2;exact(h2:False).elim
  |some z=>
   obtain⟨a,xs⟩:=z;rw[e] at h2;obtain⟨p,vs,_,hp,hm,rfl,hv,rv⟩:=R1.cj e r1;have rr:bB az xs.reverse vs.reverse:=by
    clear h2 e hm hv h1;induction rv with
    |nil=>exact .nil
    |cons r _ ih=>rw[acL,acL];exact Paired.app ih (.cons r .nil)
   exact⟨p,vs,rfl,hv,(ni R1 rr h2).2⟩
end
abbrev p_(K:Fg)(x:Str)(f:Addr):Prop:=PySem.W.nsIn K mainGlobals x=some (some (.ref f))
section
variable{P:Program}{w:World}{K:Fg}{mg:Str->Option Value}{base:Heap}{k:Nat}{x q:Str}{st:Stmt}{ps N:List Str}{np n:Nat}{body:VM.SM}{C:Addr}
def FK(K:Fg)(mg:Str->Option Value)(x:Str)(st:Stmt)(ps:List Str):Prop:=∃f fd,jr K x x st f fd/\mg x=some (.ref f)/\Binds K fd ps []/\p_ K x f
def oY(K:Fg)(J:Addr->Prop)(x q:Str)(st:Stmt)(ps:List Str):Prop:=∃f fd,jr K x q st f fd/\J f/\Binds K fd ps []
abbrev FD(x q:Str)(st:Stmt)(ps:List Str):Prop:=∀(kV doc pm:Value) (an:Option Addr) (bA ct:Value) (us:List Value),us.length=ps.length->bindArgs (PySem.W.fnOf x q (nu st) (iW st) (c_ st) .none kV doc pm an bA ct) ⟨us,[]⟩=pure (ps.zip us)
def Tp{h:Heap}{f:Addr}{oc:Value}{od an:Option Addr}{ij:Array (Option Value)}{kV doc pm bA ct:Value}(X:K.In h)(G:h.Ns mainGlobals mg)(a:p_ K x f)(l:K.lookup f=some ⟨oc,od,.func (PySem.W.fnOf x x (nu st) (iW st) (c_ st) .none kV doc pm an bA ct),ij⟩)(c:PySem.W.codeIn K bA x=true)(kp:PySem.W.keepIn K (.ref f)=true)(hb:FD x x st ps):FK K mg x st ps:=
 have F:=FO (st:=st) l c kp
 ⟨f,_,F,ac5 X G a,F.binds hb,a⟩
def Gd{J:Addr->Prop}{f:Addr}{oc:Value}{od an:Option Addr}{ij:Array (Option Value)}{kV doc pm bA ct:Value}(a:J f)(l:K.lookup f=some ⟨oc,od,.func (PySem.W.fnOf x q (nu st) (iW st) (c_ st) .none kV doc pm an bA ct),ij⟩)(c:PySem.W.codeIn K bA q=true)(kp:PySem.W.keepIn K (.ref f)=true)(hb:FD x q st ps):oY K J x q st ps:=
 have F:=FO (st:=st) l c kp
 ⟨f,_,F,a,F.binds hb⟩
def FV(P:Program)(w:World)(K:Fg)(mg:Str->Option Value)(base:Heap)(k:Nat)(c:VM.CM)(x:Str)(ps:List Str):Prop:=∃f fd,mY P w K mg base k x f fd ps c/\p_ K x f
def FX(P:Program)(w:World)(K:Fg)(mg:Str->Option Value)(base:Heap)(k:Nat)(c:VM.CM)(x:Str)(ps:List Str):Prop:=∃f fd,qW P w K mg base k x f fd ps c
def FM(P:Program)(w:World)(K:Fg)(mg:Str->Option Value)(base:Heap)(k:Nat)(c:VM.CM)(J:Addr->Prop)(ps:List Str):Prop:=∃f fd,J f/\tX P w K mg base k f fd ps c
abbrev Bn(CX:ig)(P:Program)(w:World)(K:Fg)(mg:Str->Option Value)(base:Heap)(k:Nat)(N:List Str)(q:Str)(st:Stmt)(J:Cx->XK->List Stmt->Prop):Prop:=
 ∀(f:Addr) (bA:Value) (A:Around) (outer:List Env) (s:Shared) (H:Hp) (E:XK),N.Nodup->cq k (A.deeper (envOfC q (c_ st) s.heap.objs.size f bA))->(A.deeper (envOfC q (c_ st) s.heap.objs.size f bA)).units<cLine->(A.deeper (envOfC q (c_ st) s.heap.objs.size f bA)).units+1<cLine->J (dP CX P w K mg base N q (c_ st) f bA A outer s H E) E (iW st)
def bR(h:FK K mg x st ps)(S:jP N ps (c_ st))(D:Bn ik P w K mg base k N x st λX _ b=>gU X.eU b body)(hn:N.length=n:=by rfl)(hp:ps.length=np:=by rfl):FV P w K mg base (k+1) (VM.fn np n body) x ps:=by obtain⟨f,fd,F,hm,hb,hi⟩:=h;exact⟨f,fd,F8 F S hm hb (λbA A outer s H E hr=>D f bA A outer s H E S.nd hr hr.u5 (vz hr)) hn hp,hi⟩
def bQ(h:FK K mg x st ps):FV P w K mg base 0 (λ_ _=>.bad) x ps:=by obtain⟨f,fd,F,hm,hb,hi⟩:=h;exact⟨f,fd,Ng hm F.kp hb,hi⟩
def Tq(h:FK K mg x st ps)(S:jP N ps (c_ st))(D:Bn (fR P w) P w K mg base k N x st λX E b=>SX X E b body)(hn:N.length=n:=by rfl)(hp:ps.length=np:=by rfl):FX P w K mg base (k+1) (VM.fn np n body) x ps:=by obtain⟨f,fd,F,hm,hb,hi⟩:=h;exact⟨f,fd,RK F S hm hb (λbA A outer s H E hr=>D f bA A outer s H E S.nd hr hr.u5 (vz hr)) hn hp⟩
def Py(h:FK K mg x st ps):FX P w K mg base 0 (λ_ _=>.bad) x ps:=by obtain⟨f,fd,F,hm,hb,hi⟩:=h;exact⟨f,fd,ND hm F.kp hb⟩
def vF{J:Addr->Prop}(h:oY K J x q st ps)(S:jP N ps (c_ st))(D:Bn ik P w K mg base k N q st λX _ b=>gU X.eU b body)(hn:N.length=n:=by rfl)(hp:ps.length=np:=by rfl):FM P w K mg base (k+1) (VM.fn np n body) J ps:=by obtain⟨f,fd,F,hm,hb⟩:=h;exact⟨f,fd,hm,RD F S hb (λbA A outer s H E hr=>D f bA A outer s H E S.nd hr hr.u5 (vz hr)) hn hp⟩
def uZ{J:Addr->Prop}(h:oY K J x q st ps):FM P w K mg base 0 (λ_ _=>.bad) J ps:=by obtain⟨f,fd,F,hm,hb⟩:=h;exact⟨f,fd,hm,Nv hb⟩
def Ts{cn:List Nat}{c:VM.CM}(h:FM P w K mg base k c (Mk K C) ps)(T:mG K cn C)(hm:mg x=some (.ref C)):qV P w K mg base (k+1) x (ps.length-1) (VM.qF cn c):=by obtain⟨f,fd,hM,F⟩:=h;exact RE hM T hm F
end
section
variable{X:Cx}
def Pz{i j:Int}{jj pos}(h:i=j):SE X (.Constant (.int i) jj pos) (VM.eC (.int j)):=h▸QT
def NP{x:Str}{k:Nat}{ps:List Str}{c:VM.CM}{e:Expr}{es:List Expr}{a:VM.AM}{p pos:Pos}(F:FV X.prog X.w X.K X.mg X.base k c x ps)(hr:cq k X.A)(ha:SA X (e::es) a)(hg:Gl X x)(bO:(x==("__debug__":Str))=false)(he:starEach (e::es) X.env=(false,eval e X.env)::starEach es X.env)(bI:(backTo pos (starEach es X.env)).any (·.1)=false):
 SE X (.Call (.Name x p) (e::es) [] pos) (VM.ak c a):=by
 obtain⟨f,fd,F,_⟩:=F;exact O5 F hr ha hg bO he bI
def NQ{k:Nat}{c mt:List Nat}{m:Str}{C:Addr}{ps:List Str}{cm:VM.CM}{o e:Expr}{es:List Expr}{mo:VM.EM}{a:VM.AM}{apos pos:Pos}{pl:Sem Bool}(T:mG X.K c C)(F:FM X.prog X.w X.K X.mg X.base k cm (Meth X.K C m) ps)(hr:cq k X.A)(ho:SE X o mo)(ha:SA X (e::es) a)(hg:m=txt mt)(bq:starEach (e::es) X.env=(false,eval e X.env)::starEach es X.env)(bI:(backTo pos (starEach es X.env)).any (·.1)=false)(ht:eval (.Call (.Attribute o m apos) (e::es) [] pos) X.env=(do
  let ov<-eval o X.env
  standAt apos.atName
  let(f,first)<-holding [ov] (getMethod ov m pl)
  callWith pos f first (backTo pos (starEach (e::es) X.env)) (backToKw pos (keywordEach [] X.env)))):
 SE X (.Call (.Attribute o m apos) (e::es) [] pos) (VM.ji c mt cm mo a):=by
 obtain⟨f,fd,hm,F⟩:=F;exact Nx T hm F hr ho ha hg bq bI ht
def RN{x:Str}{k:Nat}{ps:List Str}{c:VM.CM}{cs:List Nat}{pos:Pos}(F:FV X.prog X.w X.K X.mg X.base k c x ps)(hx:x=txt cs)(hg:Gl X x)(bO:(x==("__debug__":Str))=false):SE X (.Name x pos) (VM.mM cs):=by obtain⟨f,fd,F,hi⟩:=F;exact Tn cs F.mg (by rw[<-hx];exact hi) hg bO
def PD{a:Expr}{m:VM.EM}{x:Str}{D:Addr}{ys ns:List (List Nat)}{p p2 pos:Pos}(hx:X.mg x=some (.ref D))(hy:gy X.K (.ref D) true ys)(hn:gy X.K (.ref D) false ns)(hm:X.mg "isinstance"=none)(ha:SE X a m)(C7:Gl X x)(bO:(x==("__debug__":Str))=false)(hg:Gl X "isinstance")(he:starEach [a,.Name x p2] X.env=(false,eval a X.env)::starEach [.Name x p2] X.env)(bI:(backTo pos (starEach [.Name x p2] X.env)).any (·.1)=false)(gf:starEach [.Name x p2] X.env=(false,eval (.Name x p2) X.env)::starEach [] X.env):
 SE X (.Call (.Name "isinstance" p) [a,.Name x p2] [] pos) (VM.jY ys ns m):=Gb (EW (v:=.ref D) C7 hx rfl bO) hy hn hm ha hg he bI gf
def PF{a:Expr}{m:VM.EM}{x:Str}{T:String}{ys ns:List (List Nat)}{p p2 pos:Pos}(hy:gy X.K (.ty T) true ys)(hn:gy X.K (.ty T) false ns)(hx:X.mg x=none)(hb:bootBuiltins x=some (.type T))(hm:X.mg "isinstance"=none)(ha:SE X a m)(C7:Gl X x)(Xc:x≠"__name__")(bO:(x==("__debug__":Str))=false)(hg:Gl X "isinstance")(he:starEach [a,.Name x p2] X.env=(false,eval a X.env)::starEach [.Name x p2] X.env)(bI:(backTo pos (starEach [.Name x p2] X.env)).any (·.1)=false)(gf:starEach [.Name x p2] X.env=(false,eval (.Name x p2) X.env)::starEach [] X.env):
 SE X (.Call (.Name "isinstance" p) [a,.Name x p2] [] pos) (VM.jY ys ns m):=Gb (zW C7 hx hb (show RelV (.ty T) (.type T) from rfl) Xc bO) hy hn hm ha hg he bI gf
def uL{K:Fg}{cv:V}{b:Bool}:gy K cv b []:=λ_ h=>nomatch h
def uM{K:Fg}{cv:V}{u:Value}{b:Bool}{c:List Nat}{C:Addr}(n:p_ K (txt c) C)(Z:jZ K C)(h:(PySem.W.clsIn K C).isSome=true)(hu:∀v,RelV cv v->v=u)(hk:PySem.W.kitOne K (.ref C) u=some b):gy K cv b [c]:=λc' hc=>by rw[ack.mp hc];exact⟨C,n,Z,h,λv r=>by rw[hu v r];exact hk⟩
def Ef{K:Fg}{D C:Addr}{c:List Nat}(n:p_ K (txt c) C)(h:PySem.W.exmOne K (.ref C) (.ref D)=some true):sE K D [c]:=λc' hc=>by rw[ack.mp hc];exact⟨C,n,h⟩
def PH{k:Nat}:xy X k []:=λ_ h=>nomatch h
def NR{k:Nat}{cs:List Nat}{c:VM.CM}{t:List (List Nat×VM.CM)}{x:Str}{ps:List Str}(F:FV X.prog X.w X.K X.mg X.base k c x ps)(hx:x=txt cs)(h:xy X k t):xy X k ((cs,c)::t):=λe he=>by
 rcases aaX.mp he with rfl|he
 ·obtain⟨f,fd,F,hi⟩:=F;exact⟨x,f,fd,ps,F,by rw[<-hx];exact hi⟩
 ·exact h e he
def PJ{x y:Str}{k i:Nat}{ps:List Str}{c:VM.CM}{e:Expr}{es:List Expr}{a:VM.AM}{p pos pos' dR:Pos}(hN:X.N.Nodup)(F:FX X.prog X.w X.K X.mg X.base k c x ps)(hr:cq k X.A)(ha:SA X.eU (e::es) a)(hi:X.N[i]? =some y)(hy:Loc X.env.scope y)(hg:Gl X x)(bO:(x==("__debug__":Str))=false)(he:starEach (e::es) X.env=(false,eval e X.env)::starEach es X.env)(bI:(backTo pos (starEach es X.env)).any (·.1)=false)(hs:swapsWith (.Call (.Name x p) (e::es) [] pos) (some (.Name y pos')) dR.line X.env=pure false)(hf:X.fn y=true\/X.env.scope.names.lookup y=some .local):
 SB X (.Assign [.Name y pos'] (.Call (.Name x p) (e::es) [] pos) dR) (VM.aG (VM.gm c a) (VM.ar i)):=by
 obtain⟨f,fd,F⟩:=F;exact RL hN F hr ha hi hy hg bO he bI hs hf
def NS{x:Str}{k:Nat}{ps:List Str}{c:VM.CM}{e:Expr}{es:List Expr}{a:VM.AM}{p pos dR:Pos}(F:FX X.prog X.w X.K X.mg X.base k c x ps)(hr:cq k X.A)(ha:SA X.eU (e::es) a)(hg:Gl X x)(bO:(x==("__debug__":Str))=false)(he:starEach (e::es) X.env=(false,eval e X.env)::starEach es X.env)(bI:(backTo pos (starEach es X.env)).any (·.1)=false)(hs:swapsWith (.Call (.Name x p) (e::es) [] pos) none dR.line X.env=pure false):
 SB X (.Expr (.Call (.Name x p) (e::es) [] pos) dR) (VM.cH (VM.gm c a)):=by
 obtain⟨f,fd,F⟩:=F;exact Pp F hr ha hg bO he bI hs
end
section
variable{X:Cx}{x y:Str}{cl:List Nat}{scope:Scope}{iter elt e:Expr}{ifs:List Expr}{pos tp Jd apos a9:Pos}{x1:Nat}{mi:VM.IM}{me:VM.EM}{g:VM.GM}{t:VM.TM}{m:VM.EM}
abbrev lV(X:Cx)(ex:List Str)(scope:Scope)(C:Addr)(s:Shared)(H:Hp)(fp:List Addr):Cx:=dY X (X.N++ex) scope (cA X.env.cells scope.names []) C s H fp
def NT(B:lT X (X.N++[x]) 1 cl scope)(calm:X.calm=true)(hi:SI X (.Name x tp) iter mi)(hg:∀C s H fp,SG (lV X [x] scope C s H fp) (.Name x tp) g)(ht:∀C s H fp,kT (lV X [x] scope C s H fp) ifs t)(hm:∀C s H fp,SE (lV X [x] scope C s H fp) elt m)(hs:∀x,foldedSetIterable iter X.env x=pure x:=by intro _;rfl):SE X (.ListComp elt [⟨.Name x tp,iter,ifs,0⟩] scope pos) (VM.b5 1 cl mi g t m):=Fz (ex:=[x]) B calm hi hg ht hm hs
def Mg{C8:Pos}(B:lT X (X.N++[x,y]) 2 cl scope)(calm:X.calm=true)(he:SE X e me)(m0:M0 X e "items" C8 a9)(hg:∀C s H fp,SG (lV X [x,y] scope C s H fp) (.Tuple [.Name x tp,.Name y Jd] x1 apos) g)(ht:∀C s H fp,kT (lV X [x,y] scope C s H fp) ifs t)(hm:∀C s H fp,SE (lV X [x,y] scope C s H fp) elt m)(hs:∀x,foldedSetIterable (.Call (.Attribute e "items" C8) [] [] a9) X.env x=pure x:=by intro _;rfl):SE X (.ListComp elt [⟨.Tuple [.Name x tp,.Name y Jd] x1 apos,.Call (.Attribute e "items" C8) [] [] a9,ifs,0⟩] scope pos) (VM.nF 2 cl me g t m):=NA (ex:=[x,y]) B calm he m0 hg ht hm hs
def NU{i:Nat}{z:Str}{sV py:Pos}(hN:X.N.Nodup)(B:lT X (X.N++[x]) 1 cl scope)(calm:X.calm=true)(hi:SI X (.Name x tp) iter mi)(hg:∀C s H fp,SG (lV X [x] scope C s H fp) (.Name x tp) g)(ht:∀C s H fp,kT (lV X [x] scope C s H fp) ifs t)(hm:∀C s H fp,SE (lV X [x] scope C s H fp) elt m)(hy:X.N[i]? =some z:=by rfl)(hx:Loc X.env.scope z:=by first|exact Or.inl rfl|exact Or.inr rfl)(hf:X.fn z=true\/X.env.scope.names.lookup z=some .local:=by first|exact .inl rfl|exact .inr rfl|assumption)(CP:swapsWith (.ListComp elt [⟨.Name x tp,iter,ifs,0⟩] scope pos) (some (.Name z py)) sV.line X.env=pure true:=by rfl)(hs:∀x,foldedSetIterable iter X.env x=pure x:=by intro _;rfl):SS X (.Assign [.Name z py] (.ListComp elt [⟨.Name x tp,iter,ifs,0⟩] scope pos) sV) (VM.aG (VM.b5 1 cl mi g t m) (VM.ar i)):=Pd (ex:=[x]) hN B calm hi hg ht hm hy hx hf CP hs
end
end SV
namespace v9
open PySem PySem.Spec PyProof.Rows L2 SV
local macro_rules| `(tactic|walk_at "sc")=> `(tactic|exact⟨rfl,rfl,rfl,by decide+kernel,rfl,by decide+kernel,by decide+kernel⟩)
local macro_rules| `(tactic|walk_at "bl")=> `(tactic|exact Ru (by kernel_rfl) (by decide+kernel) rfl (by decide+kernel) (by kernel_rfl))
local macro_rules| `(tactic|walk_at "in")=> `(tactic|(conv=>arg 2;whnf))
local macro_rules| `(tactic|walk_at "ix")=> `(tactic|(conv=>arg 3;whnf))
local macro_rules| `(tactic|walk_at $s:str)=>do
 let z::l:=s.getString.toList|Lean.Macro.throwUnsupported
 if z≠ '~' /\z≠ '!' /\z≠ '^' then Lean.Macro.throwUnsupported
 let a<-l.toArray.mapM λc=>match c with
  | 'e'=> `(tactic|refine O9 ?_)
  | 'k'=> `(tactic|refine Rp ?_)
  | 'Ê' => `(tactic|refine Pa ‹_› ?_)
  | 'a'=> `(tactic|exact QS _)
  | 'Ç' => `(tactic|exact O6 (by first|assumption|exact abx (by kernel_rfl)))
  | 'Ð' => `(tactic|exact Nc)
  | 'H'=> `(tactic|refine SR ?_ ?_ ?_)
  | 'Ô' => `(tactic|exact Q7)
  | 'Ö' => `(tactic|exact Q4)
  | 'æ' => `(tactic|refine NT (by walk_at "bl") rfl ?_ (λ_ _ _ _=>?_) (λ_ _ _ _=>?_) (λ_ _ _ _=>?_))
  | 'd'=> `(tactic|refine MZ ?_ ?_)
  | 'n'=> `(tactic|refine Ro ‹_› ?_)
  | 'Ø' => `(tactic|exact Q5)
  | 'Ù' => `(tactic|exact Q6)
  | 'S'=> `(tactic|refine QX ?_)
  | 'c'=> `(tactic|exact QW)
  | 'x'=> `(tactic|refine Rt adW rfl ?_ ?_ ?_)
  | 'Ë' => `(tactic|refine Pb ‹_› ?_ ?_)
  | 'v'=> `(tactic|refine O_ ?_)
  | '5' => `(tactic|refine Aj adz PySem.F.type_list_append LO ?_ ?_)
  | 'b'=> `(tactic|refine OW ?_ ?_)
  | '?' => `(tactic|refine NP ‹_› ‹_› ?_ rfl (by decide+kernel) rfl rfl)
  | 'ë' => `(tactic|refine NU ‹_› (by walk_at "bl") rfl ?_ (λ_ _ _ _=>?_) (λ_ _ _ _=>?_) (λ_ _ _ _=>?_))
  | 'm'=> `(tactic|refine Td ?_ ?_ ?_)
  | '_'=> `(tactic|refine Q0 ?_ ?_ ?_ rfl)
  | 'â' => `(tactic|exact S9 ‹_›)
  | ',' => `(tactic|refine EN Ri ‹_› ?_)
  | 'o'=> `(tactic|exact Na)
  | 'f'=> `(tactic|exact O8)
  | 'Î' => `(tactic|refine Rr ?_)
  | 'À' => `(tactic|refine O3 ?_)
  | 'Â' => `(tactic|refine Tc ?_ ?_)
  | 'Û' => `(tactic|exact SU)
  | 'g'=> `(tactic|exact Pz (by first|rfl|decide+kernel))
  | 'Ä' => `(tactic|refine Ra ?_)
  | 'Ý' => `(tactic|exact S5)
  | 's'=> `(tactic|refine RC ‹_› ‹_› ?_ ?_)
  | '.' => `(tactic|refine Eb O4 ‹_› ?_)
  | 'U'=> `(tactic|exact Pf)
  | 'Ì' => `(tactic|refine Pl ‹_› ?_)
  | 'È' => `(tactic|refine Rl rfl ?_)
  | 'Æ' => `(tactic|refine MY ?_ ?_)
  | 'Å' => `(tactic|exact O7)
  | 'á' => `(tactic|exact S8 ‹_›)
  | 't'=> `(tactic|refine Ph ‹_› ?_ ?_ ?_)
  | 'Y'=> `(tactic|refine RB ‹_› ‹_› ?_)
  | '4' => `(tactic|refine NQ ‹_› ‹_› ‹_› ?_ ?_ (by first|rfl|decide+kernel) rfl rfl rfl)
  | 'X'=> `(tactic|refine Ta ?_ ?_)
  | 'i'=> `(tactic|exact SQ)
  | 'Ñ' => `(tactic|refine Nd ?_)
  | 'ä' => `(tactic|exact L9 ‹_›)
  | 'u'=> `(tactic|refine Rn ?_ ?_)
  | 'É' => `(tactic|refine Rm ?_ ?_)
  | '3' => `(tactic|refine Nt ?_ ?_ (by constructor<;>rfl))
  | 'ß' => `(tactic|exact S_)
  | '1' => `(tactic|refine Nn ‹_› ?_ ?_ ?_ (by constructor<;>rfl))
  | 'W'=> `(tactic|refine Pg ‹_› ?_ ?_)
  | 'L'=> `(tactic|refine Nk ?_ ?_ ?_ ?_ ?_)
  | 'Ü' => `(tactic|exact SY)
  | '2' => `(tactic|refine Nr ?_ ?_ ?_ (by constructor<;>rfl))
  | 'h'=> `(tactic|exact QV _)
  | 'I'=> `(tactic|refine QZ ?_ ?_ ?_ rfl)
  | '0' => `(tactic|refine Nm ‹_› ?_ ?_ (by constructor<;>rfl))
  | 'M'=> `(tactic|refine Rg ?_ ?_)
  | 'O'=> `(tactic|refine Rf ?_)
  | '^' => `(tactic|refine Rc ?_)
  | '~' => `(tactic|refine Q_ ?_)
  | 'é' => `(tactic|refine Mg (by walk_at "bl") rfl ?_ (by constructor<;>rfl) (λ_ _ _ _=>?_) (λ_ _ _ _=>?_) (λ_ _ _ _=>?_))
  | 'å' => `(tactic|refine Fz (ex:=[]) (by walk_at "bl") rfl ?_ (λ_ _ _ _=>?_) (λ_ _ _ _=>?_) (λ_ _ _ _=>?_))
  | '7' => `(tactic|refine Aj PySem.F.slot_list_count PySem.F.type_list_count Nj ?_ ?_)
  | '[' => `(tactic|exact PH)
  | ']' => `(tactic|refine NR ‹_› (by first|rfl|decide+kernel) ?_)
  | '+' => `(tactic|refine NL ?_ ‹_› ?_)
  | 'T'=> `(tactic|refine QY ?_)
  | 'j'=> `(tactic|exact QU)
  | 'Z'=> `(tactic|exact RN ‹_› (by first|rfl|decide+kernel) rfl (by decide+kernel))
  | 'w'=> `(tactic|refine Pm adW rfl ?_ (by constructor<;>rfl) ?_ ?_)
  | '|' => `(tactic|refine O1 ?_)
  | 'y'=> `(tactic|refine Nb adW ?_ ?_)
  | '{' => `(tactic|refine Q9 ?_)
  | 'q'=> `(tactic|exact M_)
  | 'E'=> `(tactic|refine Po ?_ ?_)
  | '@' => `(tactic|refine Pj ‹_› ‹_› ?_)
  | 'D'=> `(tactic|refine RJ ?_ ?_ ?_ (λ_ _=>⟨_,_,rfl⟩))
  | 'G'=> `(tactic|exact NC ‹_› ‹_› ‹_›)
  | 'F'=> `(tactic|refine RI ?_)
  | '#' => `(tactic|refine Rw _ ‹_› ‹_› ?_)
  | 'P'=> `(tactic|refine Rh ?_)
  | '8' => `(tactic|refine MX PySem.F.slot_list_pop PySem.F.type_list_pop Rk ?_)
  | '!' => `(tactic|refine Pe ‹_› ?_ ?_)
  | '$' => `(tactic|refine LX _ ‹_› ?_)
  | '%' => `(tactic|exact Nh)
  | '6' => `(tactic|refine Aj adB PySem.F.type_list_extend LP ?_ ?_)
  | 'Õ' => `(tactic|exact Q3)
  | 'Á' => `(tactic|refine Rb ?_ ?_)
  | 'Ã' => `(tactic|refine O2 ?_)
  | ';' => `(tactic|refine Eb Rj ‹_› ?_)
  | 'Þ' => `(tactic|exact S6)
  | 'à' => `(tactic|exact MV)
  | 'V'=> `(tactic|refine Tb ?_ ?_ ?_)
  | 'Ó' => `(tactic|refine O0 ?_)
  | 'Ò' => `(tactic|exact OZ)
  | 'B'=> `(tactic|refine PJ ‹_› ‹_› ‹_› ?_ rfl (by first|exact Or.inl rfl|exact Or.inr rfl) rfl (by decide+kernel) rfl rfl rfl (by first|exact Or.inl rfl|exact Or.inr rfl))
  | 'z'=> `(tactic|refine Pq ?_ ‹_› ‹_› (λ_=>?_))
  | 'C'=> `(tactic|refine NS ‹_› ‹_› ?_ rfl (by decide+kernel) rfl rfl rfl)
  | 'A'=> `(tactic|refine Pr ‹_› ?_ ‹_› ‹_› (λ_=>?_))
  | '&' => `(tactic|refine PD ‹_› ‹_› ‹_› ‹_› ?_ rfl (by decide+kernel) rfl rfl rfl rfl)
  | '(' => `(tactic|refine PF ‹_› ‹_› ‹_› (by kernel_rfl) ‹_› ?_ rfl (by decide+kernel) (by decide+kernel) rfl rfl rfl rfl)
  | 'J'=> `(tactic|refine Q8 ?_)
  | '*' => `(tactic|refine Pw ‹_› ‹_› ‹_› ?_ ?_)
  | '<' => `(tactic|refine EN (Rx (cq.hd ‹_›)) ‹_› ?_)
  | '}' => `(tactic|refine Nl ?_ ?_ ?_ ?_ ?_)
  | ')' => `(tactic|refine Px ‹_› ‹_› ‹_› ?_)
  | 'Q'=> `(tactic|refine Rz ?_)
  |_=>Lean.Macro.throwUnsupported
 let p<-if z= '^' then `(tactic|walk_at "ix") else `(tactic|walk_at "in")
 if z= '~' then `(tactic|($[$a];*)) else `(tactic|((·walk_at "sc");intro _ _ _ _ _ _ _ _ _ _ _;$p;($[$a];*)))
def top(i:Nat):Stmt:=PySem.Challenge.pw_bedsheet_k04_whole_steps_alone.main.body.getD i (.Pass ⟨0,0,0,0⟩)
structure Fs(K:Fg)(mg:Str->Option Value)(C:Addr):Prop where
 h0:FK K mg "row_fields" (top 6) ["size","row"]
 h1:FK K mg "column_fields" (top 7) ["size","column"]
 h2:FK K mg "box_fields" (top 8) ["high","wide","box"]
 h3:FK K mg "groups_of" (top 9) ["high","wide"]
 h4:FK K mg "refuse_no_sheet" (top 10) ["high","wide","sheet"]
 h5:FK K mg "groups_at" (top 12) ["high","wide","place"]
 h6:oY K (Mk K C) "__init__" "State.__init__" (inClass (top 13) 0) ["self","high","wide","sheet"]
 h7:oY K (Meth K C "numbers_for") "numbers_for" "State.numbers_for" (inClass (top 13) 1) ["self","place"]
 h8:oY K (Meth K C "put") "put" "State.put" (inClass (top 13) 2) ["self","place","number"]
 h9:oY K (Meth K C "behind") "behind" "State.behind" (inClass (top 13) 3) ["self","place","number"]
 xA:FK K mg "is_group" (top 15) ["state","group"]
 kB:FK K mg "homes_in" (top 16) ["state","group"]
 xB:FK K mg "step_follows" (top 17) ["state","step"]
 xC:FK K mg "all_follow" (top 18) ["state","steps"]
 xD:FK K mg "stuck_fields" (top 19) ["state"]
 xE:FK K mg "homeless_numbers" (top 20) ["state","group"]
 xF:FK K mg "twice_numbers" (top 21) ["state","group"]
 xG:FK K mg "first_in_groups" (top 22) ["state","kind","numbers_in"]
 xH:FK K mg "first_twice" (top 23) ["state"]
 xI:FK K mg "first_dead_end" (top 24) ["state"]
 xJ:FK K mg "first_step" (top 25) ["state"]
 xK:FK K mg "first_clash" (top 26) ["state"]
 xM:FK K mg "take_steps" (top 27) ["state"]
 xN:FK K mg "done" (top 28) ["high","wide","sheet","steps"]
 xO:FK K mg "steps_of" (top 29) ["high","wide","sheet"]
 xP:FK K mg "_law_whole" (top 31) ["_law_found"]
 xQ:FK K mg "_law_at" (top 32) ["_law_script","_law_k"]
 xR:FK K mg "_law_same" (top 33) ["_law_found","_law_due"]
 xS:FK K mg "_law_shape_of" (top 34) ["_law_cell"]
 xT:FK K mg "_law_all_groups" (top 35) ["_law_high","_law_wide"]
 xU:FK K mg "_law_full_sheet" (top 36) ["_law_high","_law_wide","_law_cell"]
 xV:FK K mg "_law_sheet_by" (top 37) ["_law_filled","_law_cells","_law_share"]
 xW:FK K mg "_law_barred" (top 38) ["_law_groups","_law_sheet","_law_place","_law_number"]
 xX:FK K mg "_law_can_have" (top 39) ["_law_groups","_law_sheet","_law_size"]
 xY:FK K mg "_law_put" (top 40) ["_law_groups","_law_sheet","_law_table","_law_place","_law_number"]
 xZ:FK K mg "_law_spots" (top 41) ["_law_groups","_law_table","_law_group","_law_number"]
 x_:FK K mg "_law_lacks" (top 42) ["_law_groups","_law_sheet","_law_group","_law_number","_law_size"]
 yd:FK K mg "_law_step_right" (top 43) ["_law_groups","_law_sheet","_law_table","_law_step","_law_size"]
 ye:FK K mg "_law_clashes" (top 44) ["_law_groups","_law_sheet","_law_table","_law_clash","_law_size"]
 yf:FK K mg "_law_some_step" (top 45) ["_law_groups","_law_sheet","_law_table","_law_size"]
 yg:FK K mg "_law_is_step" (top 46) ["_law_found"]
 yh:FK K mg "_law_are_steps" (top 47) ["_law_found"]
 yi:FK K mg "_law_is_clash" (top 48) ["_law_found"]
 yj:FK K mg "_law_no_twice" (top 49) ["_law_groups","_law_sheet","_law_size"]
 yk:FK K mg "_law_is_filled_by" (top 50) ["_law_groups","_law_sheet","_law_filled","_law_size"]
 yl:FK K mg "_law_some_clash" (top 51) ["_law_groups","_law_sheet","_law_table","_law_size"]
 ym:FK K mg "_law_done_by" (top 52) ["_law_high","_law_wide","_law_sheet","_law_steps"]
 yn:FK K mg "_law_done_right" (top 53) ["_law_high","_law_wide","_law_sheet","_law_steps","_law_due"]
 yo:FK K mg "_law_behind" (top 54) ["_law_groups","_law_sheet","_law_steps","_law_size","_law_clear"]
 yp:FK K mg "_law_more_filled" (top 55) ["_law_groups","_law_sheet","_law_size","_law_cell","_law_more"]
 yq:FK K mg "_law_sheet_told" (top 56) ["_law_made","_law_due"]
 yr:FK K mg "_law_end_told" (top 57) ["_law_groups","_law_here","_law_table","_law_clash","_law_size"]
 yt:FK K mg "_law_shape_for" (top 58) ["_law_script"]
 yu:FK K mg "_law_one_number" (top 59) ["_law_filled","_law_size","_law_cell"]
 C9:FK K mg "law" (top 60) ["_law_script"]
structure Bs(K:Fg)(mg:Str->Option Value)(C:Addr)(cT:Addr)(ir:Addr)(je:Addr):Prop where
 cl:mG K [83,116,97,116,101] C
 mC:mg "State"=some (.ref C)
 vo:iy K C "high"
 vp:iy K C "wide"
 uN:iy K C "groups"
 uy:iy K C "numbers"
 vH:iy K C "can"
 Zr:mg "range"=none
 Zz:mg "len"=none
 Zg:mg "enumerate"=none
 Zv:mg "list"=none
 Y_:mg "isinstance"=none
 Zw:mg "bool"=none
 ZA:mg "int"=none
 Zs:mg "tuple"=none
 ZC:mg "str"=none
 ZD:mg "sum"=none
 Zh:mg "reversed"=none
 Za:mg "ValueError"=none
 Zm:mg "NoStep"=some (.ref cT)
 uO:PySem.W.excIn K cT xx "ValueError.__new__"=true
 Zn:PySem.W.nsIn K mainGlobals (txt [78,111,83,116,101,112])=some (some (.ref cT))
 Zb:mg "SheetError"=some (.ref ir)
 Zj:mg "NoSheet"=some (.ref je)
 Zo:sE K cT [[78,111,83,116,101,112]]
 Zp:gy K (.ref cT) true [[78,111,83,116,101,112]]
 Zq:gy K (.ref cT) false []
 Zc:sE K ir [[78,111,83,116,101,112]]
 Zd:gy K (.ref ir) true [[78,111,83,116,101,112]]
 Ze:gy K (.ref ir) false []
 Zk:gy K (.ref je) true []
 Zl:gy K (.ref je) false [[78,111,83,116,101,112]]
 y_V:gy K (.ty "ValueError") true [[78,111,83,116,101,112]]
 z_V:gy K (.ty "ValueError") false []
section
variable{P:Program}{w:World}{K:Fg}{mg:Str->Option Value}{base:Heap}{C:Addr}{k:Nat}
structure Al(P:Program)(w:World)(K:Fg)(mg:Str->Option Value)(base:Heap)(C:Addr)(k:Nat)(c:VM.CE):Prop where
 g0:FV P w K mg base k (c 0) "row_fields" ["size","row"]
 g1:FV P w K mg base k (c 1) "column_fields" ["size","column"]
 g2:FV P w K mg base k (c 2) "box_fields" ["high","wide","box"]
 g3:FV P w K mg base k (c 3) "groups_of" ["high","wide"]
 g4:FV P w K mg base k (c 4) "refuse_no_sheet" ["high","wide","sheet"]
 g5:FV P w K mg base k (c 5) "groups_at" ["high","wide","place"]
 g6:FM P w K mg base k (c 6) (Mk K C) ["self","high","wide","sheet"]
 g7:FM P w K mg base k (c 7) (Meth K C "numbers_for") ["self","place"]
 g8:FM P w K mg base k (c 8) (Meth K C "put") ["self","place","number"]
 g9:FM P w K mg base k (c 9) (Meth K C "behind") ["self","place","number"]
 g10:qV P w K mg base k "State" 3 (c 10)
 g11:FV P w K mg base k (c 11) "is_group" ["state","group"]
 Cm:FV P w K mg base k (c 12) "homes_in" ["state","group"]
 g13:FV P w K mg base k (c 13) "step_follows" ["state","step"]
 Cp:FV P w K mg base k (c 14) "all_follow" ["state","steps"]
 Cq:FV P w K mg base k (c 15) "stuck_fields" ["state"]
 g16:FV P w K mg base k (c 16) "homeless_numbers" ["state","group"]
 g17:FV P w K mg base k (c 17) "twice_numbers" ["state","group"]
 xf:FV P w K mg base k (c 18) "first_in_groups" ["state","kind","numbers_in"]
 Cu:FV P w K mg base k (c 19) "first_twice" ["state"]
 Cw:FV P w K mg base k (c 20) "first_dead_end" ["state"]
 xh:FV P w K mg base k (c 21) "first_step" ["state"]
 CC:FV P w K mg base k (c 22) "first_clash" ["state"]
 xj:FV P w K mg base k (c 23) "take_steps" ["state"]
 CG:FX P w K mg base k (c 24) "done" ["high","wide","sheet","steps"]
 g25:FV P w K mg base k (c 25) "steps_of" ["high","wide","sheet"]
 g26:FV P w K mg base k (c 26) "_law_whole" ["_law_found"]
 g27:FV P w K mg base k (c 27) "_law_at" ["_law_script","_law_k"]
 g28:FV P w K mg base k (c 28) "_law_same" ["_law_found","_law_due"]
 g29:FV P w K mg base k (c 29) "_law_shape_of" ["_law_cell"]
 g30:FV P w K mg base k (c 30) "_law_all_groups" ["_law_high","_law_wide"]
 g31:FV P w K mg base k (c 31) "_law_full_sheet" ["_law_high","_law_wide","_law_cell"]
 g32:FV P w K mg base k (c 32) "_law_sheet_by" ["_law_filled","_law_cells","_law_share"]
 g33:FV P w K mg base k (c 33) "_law_barred" ["_law_groups","_law_sheet","_law_place","_law_number"]
 g34:FV P w K mg base k (c 34) "_law_can_have" ["_law_groups","_law_sheet","_law_size"]
 g35:FV P w K mg base k (c 35) "_law_put" ["_law_groups","_law_sheet","_law_table","_law_place","_law_number"]
 g36:FV P w K mg base k (c 36) "_law_spots" ["_law_groups","_law_table","_law_group","_law_number"]
 g37:FV P w K mg base k (c 37) "_law_lacks" ["_law_groups","_law_sheet","_law_group","_law_number","_law_size"]
 g38:FV P w K mg base k (c 38) "_law_step_right" ["_law_groups","_law_sheet","_law_table","_law_step","_law_size"]
 g39:FV P w K mg base k (c 39) "_law_clashes" ["_law_groups","_law_sheet","_law_table","_law_clash","_law_size"]
 g40:FV P w K mg base k (c 40) "_law_some_step" ["_law_groups","_law_sheet","_law_table","_law_size"]
 g41:FV P w K mg base k (c 41) "_law_is_step" ["_law_found"]
 g42:FV P w K mg base k (c 42) "_law_are_steps" ["_law_found"]
 g43:FV P w K mg base k (c 43) "_law_is_clash" ["_law_found"]
 g44:FV P w K mg base k (c 44) "_law_no_twice" ["_law_groups","_law_sheet","_law_size"]
 g45:FV P w K mg base k (c 45) "_law_is_filled_by" ["_law_groups","_law_sheet","_law_filled","_law_size"]
 g46:FV P w K mg base k (c 46) "_law_some_clash" ["_law_groups","_law_sheet","_law_table","_law_size"]
 g47:FV P w K mg base k (c 47) "_law_done_by" ["_law_high","_law_wide","_law_sheet","_law_steps"]
 g48:FV P w K mg base k (c 48) "_law_done_right" ["_law_high","_law_wide","_law_sheet","_law_steps","_law_due"]
 g49:FV P w K mg base k (c 49) "_law_behind" ["_law_groups","_law_sheet","_law_steps","_law_size","_law_clear"]
 g50:FV P w K mg base k (c 50) "_law_more_filled" ["_law_groups","_law_sheet","_law_size","_law_cell","_law_more"]
 g51:FV P w K mg base k (c 51) "_law_sheet_told" ["_law_made","_law_due"]
 g52:FV P w K mg base k (c 52) "_law_end_told" ["_law_groups","_law_here","_law_table","_law_clash","_law_size"]
 g53:FV P w K mg base k (c 53) "_law_shape_for" ["_law_script"]
 g54:FV P w K mg base k (c 54) "_law_one_number" ["_law_filled","_law_size","_law_cell"]
variable{cT:Addr}{ir:Addr}{je:Addr}(h:Fs K mg C)(B:Bs K mg C cT ir je)(A:Al P w K mg base C k (VM.bb K4.tab k))
include h B A
theorem kS:Al P w K mg base C (k+1) (VM.bb K4.tab (k+1)):=by have x:qV P w K mg base (k+1) "State" 3 (VM.bb K4.tab (k+1) 10):=Ts A.g6 B.cl B.mC;cases B;cases A;exact⟨by refine bR (N:=["size","row"]) h.h0 ?_ ?_;walk_at "!ekæÊaÇÐHÔHÖaaa",by refine bR (N:=["size","column"]) h.h1 ?_ ?_;walk_at "!ekæÊaÇÐHÔHÖaaa",by refine bR (N:=["high","wide","box","size","top","left","fields","row","column"]) h.h2 ?_ ?_;walk_at "!dnHÖaadnHÖHØaaadnHÖHÙaaadnScdxËaHÔaaÇexËaHÔaaÇev5abHÔHÖaaaceka",by refine bR (N:=["high","wide","size","rows","columns","boxes"]) h.h3 ?_ ?_;walk_at "!dnHÖaadëÊaÇÐ?babacdëÊaÇÐ?babacdëÊaÇÐ?bababacekHÔHÔaaa",by refine bR (N:=["high","wide","sheet","size","number"]) h.h4 ?_ ?_;walk_at "!dnHÖaadm_â,bacHÖaaeofexÎaÇemÀÂ_ÛagÄ_Ýaaeof",by refine bR (N:=["high","wide","place","size","row","column","box"]) h.h5 ?_ ?_;walk_at "!dnHÖaadnHØaadnHÙaadnHÔHÖHØaaaHØaaekSbabHÔaabHÔHÖgaac",by refine vF (N:=["self","high","wide","sheet","place","number"]) h.h6 ?_ ?_;walk_at "!dv?bababacdsaadsaadsa?babacdsa.bacdsaUexÌaÈÆÇÆÇÅem_áagetYaa4abacf",by refine vF (N:=["self","place","seen","group","field"]) h.h7 ?_ ?_;walk_at "!dnUdxÎ?bYabYabacÇexÎXYaaÇetaXYaaiekæËgHÔHÖYaYagÇÑ_äaaa",by refine vF (N:=["self","place","number","group","field"]) h.h8 ?_ ?_;walk_at "!duaÉYaadv3YaaexÎ?bYabYabacÇexÎXYaaÇem_ßa1YaaScetYaaæÎWYaaÇÑ_âaaaf",by refine vF (body:=VM.sL) (np:=3) (n:=3) (N:=["self","place","number"]) h.h9 ?_ ?_;walk_at "!eo",x,by refine bR (N:=["state","group"]) h.xA ?_ ?_;walk_at "!ekLÜÛga,bYac",by refine bR (N:=["state","group","homes","field","number"]) h.kB ?_ ?_;walk_at "!dnUdxÎXYaaÇexÎ1YaaScÇev52aaScbaceka",by refine bR (N:=["state","step"]) h.xB ?_ ?_;walk_at "!dm_áXaghekIá0YaXagSbXagcfekM?babXagcOIá0?babXagcXagSbXagc",by refine bR (N:=["state","steps","step"]) h.xC ?_ ?_;walk_at "!dxÎaÇdm^~?babacekifev4abXagbXagceki",by refine bR (N:=["state"]) h.xD ?_ ?_;walk_at "!ekéYaÈÆÇÆÇÅÑ_áaSca",by refine bR (N:=["state","group","found","field","number"]) h.xE ?_ ?_;walk_at "!dnUdxÎXYaaÇdtaXYaaiexÎ1YaaScÇetaaiekåËgHÔHÖYaYagÇÑ_äaaa",by refine bR (N:=["state","group","numbers"]) h.xF ?_ ?_;walk_at "!dnæÎXYaaÇÐXYaaekæËgHÔHÖYaYagÇÑ_Ý7abacga",by refine bR (N:=["state","kind","numbers_in","group","numbers"]) h.xG ?_ ?_;walk_at "!dxÊ,bYacÇdn+]][babacem_âaScekTbababXagcfekj",by refine bR (N:=["state"]) h.xH ?_ ?_;walk_at "!ek?babhbZc",by refine bR (N:=["state","fields"]) h.xI ?_ ?_;walk_at "!dn?bacdm_âaScekTbhbXagcfek?babhbZc",by refine bR (N:=["state","place","numbers","group","number","fields"]) h.xJ ?_ ?_;walk_at "!dwYaÈÆÇÆÇÅem_á,bacgekTbhbabXagcfdxÊ,bYacÇew?babacÈÆÇÆÇÅem_á,bacgekTbhbXagbabacfekj",by refine bR (N:=["state","twice"]) h.xK ?_ ?_;walk_at "!dn?bacdm|aekafek?bac",by refine bR (N:=["state","steps","clash","step"]) h.xM ?_ ?_;walk_at "!dnScdn?bacdy{adn?bacdm{aeqfdv4abXagbXagcdv5abacen?bacekTbabac",by refine Tq (N:=["high","wide","sheet","steps","state"]) h.xN ?_ ?_;walk_at "^En@bababacD^~?babacGFkYa",by refine bR (N:=["high","wide","sheet"]) h.xO ?_ ?_;walk_at "!ek?b@bababacc",by refine bR (N:=["_law_found"]) h.xP ?_ ?_;walk_at "!ekM#aOP#a",by refine bR (N:=["_law_script","_law_k"]) h.xQ ?_ ?_;walk_at "!dm_áaScekgfekHÔXaHÙa,bacHÖgHØa,bac",by refine bR (N:=["_law_found","_law_due","_law_left","_law_right","_law_one","_law_two"]) h.xR ?_ ?_;walk_at "!dnSbacdnSbacdy_âaScdn8adn8aem~!a$$%dm_â#a#aekifdmÀÂ_â#a#aÄ_â,bac,bacekifdv6abacev6abacem{aem|aekifem~#aemÀÂ^~#aÄ_âaaekifem~#aemÀÂ^~#aÄ_âaaekifemÀÂ^~?bacÄ_âaaekifeki",by refine bR (N:=["_law_cell"]) h.xS ?_ ?_;walk_at "!ekXSbTbgbgcbTbgbgcbTbgbgcbTbgbgcbTbgbgcbTbgbgcbTbgbgcbTbgbgccHÙag",by refine bR (N:=["_law_high","_law_wide","_law_size","_law_groups","_law_place","_law_row","_law_column","_law_box","_law_group"]) h.xT ?_ ?_;walk_at "!dnHÖaadëÊHÖgaÇÐScdxÊHÖaaÇdnHØaadnHÙaadnHÔHÖHØaaaHØaaexÎSbabHÔaabHÔHÖgaacÇev5Xaabaceka",by refine bR (N:=["_law_high","_law_wide","_law_cell","_law_size","_law_turn","_law_filled","_law_row","_law_column","_law_number","_law_told","_law_place"]) h.xU ?_ ?_;walk_at "!dnHÖaadnHÙaadnScdxÊaÇexÊaÇdnHÙHÔHÔHÖaHÙaaHØaaaaev5abHÔHÙHÔHÖaXSbgbHÕagcHÙHØaggaagcdmÀÁ_áHÙHØagggÃ_áaadnScdxÊHÖaaÇev5abXaHÔHÖHÙaaaHØaacenafeka",by refine bR (N:=["_law_filled","_law_cells","_law_share","_law_sheet","_law_place","_law_cell"]) h.xV ?_ ?_;walk_at "!dnScdxÊ,bacÇdngdm_Ûa,bacenXaafev5abHÖXaa;bIÞHÙHÔaagacceka",by refine bR (N:=["_law_groups","_law_sheet","_law_place","_law_number","_law_group","_law_one"]) h.xW ?_ ?_;walk_at "!dxÎaÇem_ßaaexÎaÇemÀÁ_âaaÃ_áXaaaekiffeki",by refine bR (N:=["_law_groups","_law_sheet","_law_size","_law_table","_law_place","_law_row","_law_number"]) h.xX ?_ ?_;walk_at "!dnScdxÊ,bacÇdnScdxËgHÔagÇemÀÁ_áXaagÃ^~?babababacev5abacfev5abaceka",by refine bR (N:=["_law_groups","_law_sheet","_law_table","_law_place","_law_number","_law_group","_law_one"]) h.xY ?_ ?_;walk_at "!duaÉaaduScÉaaexÎaÇem_ßaaexÎaÇeuæÎXaaÇÑ_âaaaÉaaf",by refine bR (N:=["_law_groups","_law_table","_law_group","_law_number"]) h.xZ ?_ ?_;walk_at "!ekæÎXaaÇÑ_ßaXaaa",by refine bR (N:=["_law_groups","_law_sheet","_law_group","_law_number","_law_size"]) h.x_ ?_ ?_;walk_at "!dmÀÂ_ÛagÂ_Þa,bacÂ_ÛagÄ_ÝaaekifekIàaæÎXaaÇÐXaa",by refine bR (N:=["_law_groups","_law_sheet","_law_table","_law_step","_law_size","_law_place"]) h.yd ?_ ?_;walk_at "!dnXagdmÀÂ_ÛagÂ_Þa,bacÄ_âXaagekifdm_áXaghekIáXaaSbXagcfdm^~?bababXagbXagbacekifekIá?bababXagbXagcSbac",by refine bR (N:=["_law_groups","_law_sheet","_law_table","_law_clash","_law_size","_law_place"]) h.ye ?_ ?_;walk_at "!dm_áXaghdnXagdmÀÂ_ÛagÂ_Þa,bacÄ_âXaagekifekIáXaaScfdm_áXaghdm^~?bababXagbXagbacekifekIá?bababXagbXagcScfdmÀÂ_ÛXaggÂ_ÞXag,bacÄ_ÛXaggekifekIÝ7åÎXaXagÇÐXaabXagcg",by refine bR (N:=["_law_groups","_law_sheet","_law_table","_law_size","_law_place","_law_group","_law_number"]) h.yf ?_ ?_;walk_at "!dxÊ,bacÇem_á,bXaacgekifdxÊ,bacÇexËgHÔagÇem~?bababababacem_á,b?babababaccgekiffeki",by refine bR (N:=["_law_found","_law_part"]) h.yg ?_ ?_;walk_at "!dmÀÂ^~#aÂ_Û,bacgÄ^~#XagekifdxÎVaÓgÒÇem^~?bacekifdm_áXaghekIá,bacgfekMIáXaghOIá,bacg",by refine bR (N:=["_law_found","_law_one"]) h.yh ?_ ?_;walk_at "!dm^~#aekifdxÎaÇem^~?bacekifeki",by refine bR (N:=["_law_found","_law_part"]) h.yi ?_ ?_;walk_at "!dmÀÂ^~#aÂ_Û,bacgÄ^~#XagekifdxÎVaÓgÒÇem^~?bacekifdm_áXaghekIá,bacgfekMIßXagSbhbhcOIá,bacg",by refine bR (N:=["_law_groups","_law_sheet","_law_size","_law_group","_law_row","_law_number"]) h.yj ?_ ?_;walk_at "!dxÎaÇdëÎaÇÐXaaexËgHÔagÇem_Ý7abacgekifeki",by refine bR (N:=["_law_groups","_law_sheet","_law_filled","_law_size","_law_place"]) h.yk ?_ ?_;walk_at "!dxÊ,bacÇemÀÂ_áXaagÄ_àXaaSbgbXaacekifek?bababac",by refine bR (N:=["_law_groups","_law_sheet","_law_table","_law_size","_law_place","_law_group","_law_number"]) h.yl ?_ ?_;walk_at "!dxÊ,bacÇemÀÁ_áXaagÃ_áXaaScekifdxÊ,bacÇexËgHÔagÇem~?babababTbhbabacbacekifeki",by refine bR (N:=["_law_high","_law_wide","_law_sheet","_law_steps","_law_handed","_law_given","_law_made"]) h.ym ?_ ?_;walk_at "!dn.bacdn.bacdnjdzBbabababacenjdm^~?bSbabacbSbabaccekhfeka",by refine bR (N:=["_law_high","_law_wide","_law_sheet","_law_steps","_law_due","_law_made","_law_refused","e","_law_kinds"]) h.yn ?_ ?_;walk_at "!dn?babababacdnidACbabab.bacb.baccdnHÔ;b&ac;b&acenMIáagO(aekMIáaJaO?babac",by refine bR (N:=["_law_groups","_law_sheet","_law_steps","_law_size","_law_clear","_law_here","_law_table","_law_step"]) h.yo ?_ ?_;walk_at "!dn.bacdn?bababacdxÎaÇdm^~?bababababacekjfdmÀÁ~aÃ~?babababacekjfev?babababXagbXagcekTbabac",by refine bR (N:=["_law_groups","_law_sheet","_law_size","_law_cell","_law_more","_law_here","_law_rest","_law_turn","_law_spot","_law_numbers"]) h.yp ?_ ?_;walk_at "!dn.bacdnHØagdxÊHÙagÇdnHÙHÔaHÖga,bacdnX?bababacadm_áHÙHØagggen*gHÔagfemÀÁ_áXaagÃ_âaSceuXaHÙHÔaa,bacÉaafeka",by refine bR (N:=["_law_made","_law_due"]) h.yq ?_ ?_;walk_at "!dmÀÂ{aÄ{aekMJaOJafekM#aO?babXagc",by refine bR (N:=["_law_groups","_law_here","_law_table","_law_clash","_law_size"]) h.yr ?_ ?_;walk_at "!dm{adm~?babababacekifekP?babababacfekM?bacO?bababababac",by refine bR (N:=["_law_script"]) h.yt ?_ ?_;walk_at "!dm_Ý,bacgekXSbTbgbgcbTbgbgcbTbgbgcbTbgbgccHÙ?babgcgfdm_áHÙ<bVaÒÓgcggekXSbTbgbgcbTbgbgccHÙHØ?babgcggfek?b?babgcc",by refine bR (N:=["_law_filled","_law_size","_law_cell","_law_made","_law_place","_law_good"]) h.yu ?_ ?_;walk_at "!dnScdxÊ,bacÇdnIáXaaHÔgHÙaadm_áHØaaHÙHØaaaenifev5abHÖXaa;bacceka"⟩
omit A
theorem kA:∀k,Al P w K mg base C k (VM.bb K4.tab k)
 |0=>⟨bQ h.h0,bQ h.h1,bQ h.h2,bQ h.h3,bQ h.h4,bQ h.h5,uZ h.h6,uZ h.h7,uZ h.h8,uZ h.h9,Nz,bQ h.xA,bQ h.kB,bQ h.xB,bQ h.xC,bQ h.xD,bQ h.xE,bQ h.xF,bQ h.xG,bQ h.xH,bQ h.xI,bQ h.xJ,bQ h.xK,bQ h.xM,Py h.xN,bQ h.xO,bQ h.xP,bQ h.xQ,bQ h.xR,bQ h.xS,bQ h.xT,bQ h.xU,bQ h.xV,bQ h.xW,bQ h.xX,bQ h.xY,bQ h.xZ,bQ h.x_,bQ h.yd,bQ h.ye,bQ h.yf,bQ h.yg,bQ h.yh,bQ h.yi,bQ h.yj,bQ h.yk,bQ h.yl,bQ h.ym,bQ h.yn,bQ h.yo,bQ h.yp,bQ h.yq,bQ h.yr,bQ h.yt,bQ h.yu⟩
 |k+1=>kS h B (kA k)
def kL{f:Addr}{fd:FuncData}(F:jr K "law" "law" (top 60) f fd)(hm:mg "law"=some (.ref f))(hb:Binds K fd ["_law_script"] []):fo P w K mg base ik 40 f fd ["_law_script"] (sD K):=by
 have A:=kA (P:=P) (w:=w) (base:=base) h B 39;have S:jP ["_law_script","_law_high","_law_wide","_law_size","_law_groups","_law_filled","_law_share","_law_sheet","_law_cell","_law_more","_law_handed","_law_found","_law_table","_law_told","_law_made","_law_some","_law_out","_law_odd","_law_steps","_law_due"] ["_law_script"] (c_ (top 60)):=by walk_at "sc"
 have nd:=S.nd;have V:mY P w K mg base 40 "law" f fd ["_law_script"] (VM.bb K4.tab 40 55):=by
  cases B;cases A;refine F8 F S hm hb λbA A outer s H E hr=>?_
  have hu:=hr.u5;have hv:=vz hr
  walk_at "in"
  walk_at "~du?bacÈÆÇÆÇÅdnHÖaadn?babacdn?babab?babgccdnHÙ?babgcXSbgbgc;bIÝagcdn?babVaÓgÓgbacdn?babgcdn?babgcdn?bababababacdmÀÁ}ÛÛgagÃ_áHÙHØ?babgcgggen?bababacfdn.bacdn?bababacdmÀÂ^~?babacÂ^~#aÄ_â,bacgekifdm^~?bXagcekifdm^~?bababacdmÀÂ_âXagScÄ^~?bXagcekifdn?bababacek?babababXagbacfdn?bababXagbabicdmÀÂ{aÄ^~?babXagbXagbXagbacekifdn?babab.bacb.bXagccdmÀÂ^~#aÄ^~?babXagcekifdn)XagdnHÙHØagHÔ,bXagcgdnHÔVXagÒÓaVXagÓHÔagÒdxÎSbHÔXagVXagÓQgÒbabacÇdn?bababababicem^~?bababababacekifdm^~?babababacekifekMJXagO?babXagbabac"
 exact Rv V K4.math
end
def all_mk{l:PySem.W.OpenLaw}{w:World}{K:Fg}{mg:Str->Option Value}{fa C cT ir je:Addr}(h:Fs K mg C)(B:Bs K mg C cT ir je)(XY:mg "law"=some (.ref fa)):∃fd:FuncData,(∀(s:Shared) (v:Value),BindsTo s fd ⟨[v],[]⟩ [("_law_script",v)])/\∀base:Heap,K.In base->base.Ns mainGlobals mg->fo l.prog w K mg base ik 40 fa fd ["_law_script"] (sD K):=by obtain⟨f,fd,F,hm,hb,_⟩:=h.C9;have e:=XY.symm.trans hm;cases e;refine⟨fd,λs v=>?_,λbase _ _=>kL h B F hm hb⟩;obtain⟨oc,od,kV,doc,pm,an,bA,ct,ij,rfl,lk,fM⟩:=F.ex;exact .of_eq rfl
def walk{l:PySem.W.OpenLaw}{q:Program}{loose:List Str}{XP:(Str->Option Value)->Heap->Prop}{YP:World->Heap->Prop}{d:DefRec}{K:Params->Fg}(hn:l.most=some 63)(j7:d.params.defaults=[])(hY:∀(w:World) (h:Heap),YP w h->(K w.params).In h)(F:∀(w:World) (mg:Str->Option Value) (fa:Addr) (h:Heap),(K w.params).In h->h.Ns mainGlobals mg->mg d.name=some (.ref fa)->
  ∃fd:FuncData,(∀(s:Shared) (u:Value),BindsTo s fd ⟨[u],[]⟩ [("_law_script",u)])/\∀base:Heap,(K w.params).In base->base.Ns mainGlobals mg->fo l.prog w (K w.params) mg base ik 40 fa fd ["_law_script"] (sD (K w.params))):
 PySem.W.WalkO q loose XP YP l.row.toRowW d [] (λf vs=>PySem.call f vs):=
 L2.Om (n:=63) (k:=40) (x:="_law_script") (CX:=λ_=>ik) (sp:=λw=>sD (K w.params)) hn (by decide) j7 ⟨rfl,by decide,by decide⟩ hY F (λ_ _ a ns hl hO hS=>⟨a,ns,rfl,hS,hl,hO,λ_=>rfl⟩) λ_ _ _ _ _ z=>z
def Tt{K:Fg}{h:Heap}{mg:Str->Option Value}{C cT ir je:Addr}(X:K.In h)(G:h.Ns mainGlobals mg)(aC:PySem.W.nsIn K mainGlobals "State"=some (some (.ref C)))(pg:PySem.W.plainGet K C Str.empty=true)(hd:PySem.W.hasDictIn K C=true)(po:PySem.W.plainOver K C=true)(sa:PySem.W.findIn K (.ref C) "__setattr__"=some (some (.builtin "object.__setattr__")))(vo:PySem.W.findIn K (.ref C) "high"=some none)(vp:PySem.W.findIn K (.ref C) "wide"=some none)(uN:PySem.W.findIn K (.ref C) "groups"=some none)(uy:PySem.W.findIn K (.ref C) "numbers"=some none)(vH:PySem.W.findIn K (.ref C) "can"=some none)(Ak:PySem.W.nsIn K mainGlobals "range"=some none)(AU:PySem.W.nsIn K mainGlobals "len"=some none)(yS:PySem.W.nsIn K mainGlobals "enumerate"=some none)(AE:PySem.W.nsIn K mainGlobals "list"=some none)(yM:PySem.W.nsIn K mainGlobals "isinstance"=some none)(AF:PySem.W.nsIn K mainGlobals "bool"=some none)(AV:PySem.W.nsIn K mainGlobals "int"=some none)(Am:PySem.W.nsIn K mainGlobals "tuple"=some none)(AW:PySem.W.nsIn K mainGlobals "str"=some none)(AX:PySem.W.nsIn K mainGlobals "sum"=some none)(yZ:PySem.W.nsIn K mainGlobals "reversed"=some none)(yN:PySem.W.nsIn K mainGlobals "ValueError"=some none)(jO:PySem.W.nsIn K mainGlobals "NoStep"=some (some (.ref cT)))(yO:PySem.W.nsIn K mainGlobals "SheetError"=some (some (.ref ir)))(zm:PySem.W.nsIn K mainGlobals "NoSheet"=some (some (.ref je)))(uO:PySem.W.excIn K cT xx "ValueError.__new__"=true)(zo:PySem.W.findIn K (.ref cT) "__getattribute__"=some (some (.builtin "BaseException.__getattribute__")))(zp:PySem.W.findIn K (.ref cT) "__getattr__"=some none)(zq:PySem.W.findIn K (.ref cT) "__class__"=some (some (.builtin "object.__class__")))(pD:PySem.W.mroIn K cT (.type "object")=some true)(zr:PySem.W.mroIn K cT (.type "BaseException")=some true)(yC:PySem.W.exmOne K (.ref cT) (.ref cT)=some true)(yD:PySem.W.kitOne K (.ref cT) (.ref cT)=some true)(yw:PySem.W.exmOne K (.ref cT) (.ref ir)=some true)(yx:PySem.W.kitOne K (.ref cT) (.ref ir)=some true)(yB:PySem.W.kitOne K (.ref cT) (.ref je)=some false)(y7:PySem.W.kitOne K (.ref cT) (.type "ValueError")=some true):Bs K mg C cT ir je:=by
 have uP:jZ K cT:=⟨zo,zp,zq,pD,zr⟩;have uz:(PySem.W.clsIn K cT).isSome=true:=by
  unfold PySem.W.mroIn at pD;cases e:PySem.W.clsIn K cT with
  |some x=>rfl
  |none=>rw[e] at pD;cases pD
 exact⟨⟨aC,⟨pg,hd,po,sa⟩⟩,ac5 X G aC,vo,vp,uN,uy,vH,abT X G Ak,abT X G AU,abT X G yS,abT X G AE,abT X G yM,abT X G AF,abT X G AV,abT X G Am,abT X G AW,abT X G AX,abT X G yZ,abT X G yN,ac5 X G jO,uO,jO,ac5 X G yO,ac5 X G zm,Ef jO yC,uM jO uP uz (λ_ r=>r) yD,uL,Ef jO yw,uM jO uP uz (λ_ r=>r) yx,uL,uL,uM jO uP uz (λ_ r=>r) yB,uM jO uP uz (λ_ r=>r) y7,uL⟩
end v9
namespace PySem.W.Fast
def tw6044559744950397315:=trivial
def tw850039736189661734:=trivial
def tw9561233714572610744:=trivial
def tw14131761780042642091:=trivial
def tw5912101180622283833:=trivial
def tw4975031660897930218:=trivial
def tw3655891220987169982:=trivial
def tw17209141006220361751:=trivial
def tw11836873620489233141:=trivial
def tw1241480346276483384:=trivial
def tw4014157447873015506:=trivial
def tw10051897334912961794:=trivial
def tw1781146763533219765:=trivial
def tw823854525410670517:=trivial
def tw4517577111282343960:=trivial
def tw558166061191502478:=trivial
def tw12404483385776365901:=trivial
def tw16570984207266397798:=trivial
def tw9030909784749036674:=trivial
def tw14130257236717332294:=trivial
def tw14661100826062092061:=trivial
def tw408528845785674215:=trivial
def tw17100049595208211372:=trivial
def tw5819470549930232742:=trivial
def tw13899323668048167484:=trivial
def tw12422968765054436766:=trivial
def tw1927202464114818499:=trivial
def tw8414666051143078938:=trivial
def tw9041027501315178187:=trivial
def tw2362459999693803906:=trivial
def tw7326853840265667046:=trivial
def tw9764038161555959333:=trivial
def tw5217288622176277360:=trivial
def tw16882245747421485021:=trivial
def tw9952971316041223739:=trivial
def tw8422596408410043331:=trivial
def tw16334527510475024827:=trivial
def tw6348415243671513246:=trivial
def tw10600363225687726855:=trivial
def tw198902400560986858:=trivial
def tw10506451029888424334:=trivial
def tw11981808033252228791:=trivial
def tw9915208261985600959:=trivial
def tw1035945219154251899:=trivial
def tw12138730974481218748:=trivial
def tw15882637006227655340:=trivial
def tw8669457101684602078:=trivial
def tw18429520652334242203:=trivial
def tw7690443958780908114:=trivial
def tw16221504226593898536:=trivial
def tw11374453091020748211:=trivial
def tw11842436583560220683:=trivial
def tw16567194847178145821:=trivial
def tw4560222705858617883:=trivial
def tw163582343702779396:=trivial
def tw8381020800201352035:=trivial
def tw16467825524352482341:=trivial
def tw6902357989110193706:=trivial
def tw6855552774679435323:=trivial
def tw3257848256424490125:=trivial
def tw12244713030007058022:=trivial
def tw13034706015368048642:=trivial
def tw8433259632161913696:=trivial
def tw8062837496680322475:=trivial
def tw10640253243778553311:=trivial
def tw17563098417805942892:=trivial
def tw12395620987289728372:=trivial
def tw17238196808031335998:=trivial
def tw13750250013169045048:=trivial
def tw5338325137042034026:=trivial
def tw13034809118935127190:=trivial
def tw3075985477263860775:=trivial
def tw3140112159693611965:=trivial
def tw2713468669683804562:=trivial
def tw9858363381290815501:=trivial
def tw12712433975293554830:=trivial
def tw8825696236151230923:=trivial
def tw6079953841729998247:=trivial
def tw2012127317711778150:=trivial
def tw7371166499607409105:=trivial
def tw9773911612161940499:=trivial
def tw10631046963146272872:=trivial
def tw10513994171464239388:=trivial
def tw7316014706006744187:=trivial
def tw17227764323148193083:=trivial
def tw13391144776864328434:=trivial
def tw9701671131695318632:=trivial
def tw16506706096664567902:=trivial
def tw16048019354181197139:=trivial
def tw13032363665040864437:=trivial
def tw13823706261450166491:=trivial
def tw17986806850221729286:=trivial
def tw7804945672354655436:=trivial
def tw12637586957346622329:=trivial
def tw6862842873028300740:=trivial
def tw2082002861946515601:=trivial
def tw11543638555210373426:=trivial
def tw11948360907179224654:=trivial
def tw1885850601986053538:=trivial
def tw2059739731194768541:=trivial
def tw15604320446268209819:=trivial
def tw4384296068480368039:=trivial
def tw6678357422434853113:=trivial
def tw10472411528774248300:=trivial
def tw9847149592008236219:=trivial
def tw6748837020020579449:=trivial
def tw8144385454559360423:=trivial
def tw13237817158470533318:=trivial
def tw17261647438256775330:=trivial
def tw3659503727889414330:=trivial
def tw589312516666046733:=trivial
def tw1446712084326856525:=trivial
def tw1472688183147723588:=trivial
def tw16982231129341454016:=trivial
def tw4182990032352675698:=trivial
def tw11883530835192372788:=trivial
def tw3230707669918140834:=trivial
def tw6805205122054644443:=trivial
def tw3585648414980114661:=trivial
def tw9577468644230403693:=trivial
def tw12810446020860883133:=trivial
def tw15808844715324493098:=trivial
def tw16054833642243531753:=trivial
def tw18436048849895073001:=trivial
def tw17862425397160099645:=trivial
def tw10939701132369906669:=trivial
def tw17955988213787966689:=trivial
def tw4352924225693148687:=trivial
def tw16303436553394851671:=trivial
def tw9945687692674196827:=trivial
def tw3219036143963952569:=trivial
def tw4357907921377781658:=trivial
def tw2688365221850358593:=trivial
def tw5624953837346201478:=trivial
def tw2391885649076899279:=trivial
def tw12279708288331911710:=trivial
def tw16667155118329107298:=trivial
def tw16945965481226611120:=trivial
def tw15206235174415035968:=trivial
def tw2787383448986663381:=trivial
def tw13987121938998671826:=trivial
def tw8561490017933925025:=trivial
end PySem.W.Fast
open PySem PySem.W PyProof.Rows SV
local macro_rules| `(tactic|walk_at "bi")=> `(tactic|(intro _ _ _ _ _ _ us hl;(iterate 8 (try (rcases us with _|⟨u,us⟩;·first|rfl|(simp at hl;done))));simp at hl))
local macro_rules| `(tactic|walk_at "fk")=> `(tactic|(refine' Tp (by assumption) (by assumption) ?a ?l ?c ?k ?b;(case a=>unfold p_;k_is);(case l=>k_is);(case c=>k_is);(case k=>k_is);(case b=>walk_at "bi")))
local macro_rules| `(tactic|walk_at "fm")=> `(tactic|(refine' Gd ⟨?a,?i,?k0⟩ ?l ?c ?k ?b;(case a=>k_is);(case i=>k_is);(case k0=>k_is);(case l=>k_is);(case c=>k_is);(case k=>k_is);(case b=>walk_at "bi")))
local macro_rules| `(tactic|walk_at "fi")=> `(tactic|(refine' Gd ⟨?m,?a,?i,?kc⟩ ?l ?c ?k ?b;(case m=>k_is);(case a=>k_is);(case i=>k_is);(case kc=>k_is);(case l=>k_is);(case c=>k_is);(case k=>k_is);(case b=>walk_at "bi")))
set_option maxRecDepth 100000 in
set_option maxHeartbeats 0 in
theorem PySem.Challenge.cw_bedsheet_k04_whole_steps_alone_holds : PySem.Challenge.rw_bedsheet_k04_whole_steps_alone.Holds := by
 w_on;o_law;k_head;(case hw=>w_witness2)
 k_fill
 refine v9.walk (l:=PySem.Challenge.rw_bedsheet_k04_whole_steps_alone) rfl rfl (λw h Y=>PySem.W.kIn_of Y) ?F
 case F=>
  intro w mg fa h KX G oq;refine' v9.all_mk ?fs ?bs oq
  (case bs=>refine' v9.Tt KX G ?aC ?pg ?hd ?po ?sa ?vo ?vp ?uN ?uy ?vH ?Ak ?AU ?yS ?AE ?yM ?AF ?AV ?Am ?AW ?AX ?yZ ?yN ?jO ?yO ?zm ?uO ?zo ?zp ?zq ?pD ?zr ?yC ?yD ?yw ?yx ?yB ?y7;(case aC=>k_is);(case pg=>k_is);(case hd=>k_is);(case po=>k_is);(case sa=>k_is);(case vo=>k_is);(case vp=>k_is);(case uN=>k_is);(case uy=>k_is);(case vH=>k_is);(case Ak=>k_is);(case AU=>k_is);(case yS=>k_is);(case AE=>k_is);(case yM=>k_is);(case AF=>k_is);(case AV=>k_is);(case Am=>k_is);(case AW=>k_is);(case AX=>k_is);(case yZ=>k_is);(case yN=>k_is);(case jO=>k_is);(case yO=>k_is);(case zm=>k_is);(case uO=>kernel_rfl);(case zo=>k_is);(case zp=>k_is);(case zq=>k_is);(case pD=>k_is);(case zr=>k_is);(case yC=>kernel_rfl);(case yD=>kernel_rfl);(case yw=>kernel_rfl);(case yx=>kernel_rfl);(case yB=>kernel_rfl);(case y7=>kernel_rfl))
  (case fs=>refine'⟨?h0,?h1,?h2,?h3,?h4,?h5,?h6,?h7,?h8,?h9,?xA,?kB,?xB,?xC,?xD,?xE,?xF,?xG,?xH,?xI,?xJ,?xK,?xM,?xN,?xO,?xP,?xQ,?xR,?xS,?xT,?xU,?xV,?xW,?xX,?xY,?xZ,?x_,?yd,?ye,?yf,?yg,?yh,?yi,?yj,?yk,?yl,?ym,?yn,?yo,?yp,?yq,?yr,?yt,?yu,?C9⟩;(case h0=>walk_at "fk");(case h1=>walk_at "fk");(case h2=>walk_at "fk");(case h3=>walk_at "fk");(case h4=>walk_at "fk");(case h5=>walk_at "fk");(case h6=>walk_at "fi");(case h7=>walk_at "fm");(case h8=>walk_at "fm");(case h9=>walk_at "fm");(case xA=>walk_at "fk");(case kB=>walk_at "fk");(case xB=>walk_at "fk");(case xC=>walk_at "fk");(case xD=>walk_at "fk");(case xE=>walk_at "fk");(case xF=>walk_at "fk");(case xG=>walk_at "fk");(case xH=>walk_at "fk");(case xI=>walk_at "fk");(case xJ=>walk_at "fk");(case xK=>walk_at "fk");(case xM=>walk_at "fk");(case xN=>walk_at "fk");(case xO=>walk_at "fk");(case xP=>walk_at "fk");(case xQ=>walk_at "fk");(case xR=>walk_at "fk");(case xS=>walk_at "fk");(case xT=>walk_at "fk");(case xU=>walk_at "fk");(case xV=>walk_at "fk");(case xW=>walk_at "fk");(case xX=>walk_at "fk");(case xY=>walk_at "fk");(case xZ=>walk_at "fk");(case x_=>walk_at "fk");(case yd=>walk_at "fk");(case ye=>walk_at "fk");(case yf=>walk_at "fk");(case yg=>walk_at "fk");(case yh=>walk_at "fk");(case yi=>walk_at "fk");(case yj=>walk_at "fk");(case yk=>walk_at "fk");(case yl=>walk_at "fk");(case ym=>walk_at "fk");(case yn=>walk_at "fk");(case yo=>walk_at "fk");(case yp=>walk_at "fk");(case yq=>walk_at "fk");(case yr=>walk_at "fk");(case yt=>walk_at "fk");(case yu=>walk_at "fk");(case C9=>walk_at "fk"))
