import PyProof.Rows.All
import Wide.All
import OpenK.AllK
import Wide.FinOn
import Lean
import PyProof.EqAt
import PyProof.EqKinds
import PyProof.TupleCall
import PyProof.NeKinds
import PyProof.FactsAll.range_2
import PyProof.FactsAll.tuple_2
import PyProof.FactsAll.tuple
import PyProof.ListRange
import PyProof.ExcInit
import PySem.Challenge.RW_starsieve_k03_forms_within_and_both
set_option compiler.extract_closed false
set_option bootstrap.genMatcherCode false
set_option genSizeOf false
set_option Elab.async false
set_option maxRecDepth 100000
noncomputable section
local macro_rules|`(tactic|rfl')=>`(tactic|kernel_rfl)
local macro_rules|`(tactic|ac_rfl)=>`(tactic|decide +kernel)
abbrev PF:=PySem.W.Frag
set_option linter.all false
namespace L2
open PySem PySem.Spec PyProof.Rows
def ae:=@PySem.wpAny_bind
def ag:=@And.intro
def ah:=@Bool.and_eq_true
def al:=@PySem.Heap.get?_push_of_some
def am:=@PySem.wpAny_pure
def ap:=@List.size_toArray
def av:=@Nat.le_refl
def aw:=@PySem.Heap.lt_size
def ax:=@List.length_map
def ay:=@PySem.Heap.get?_push_size
def aE:=@beq_iff_eq
def aI:=@List.mem_append_right
def aS:=@List.mem_cons_self
def aT:=@List.mem_cons_of_mem
def a7:=@Option.some.injEq
def a8:=@List.getElem?_eq_getElem
def a9:=@List.getElem?_eq_some_iff
def ba:=@List.mem_cons
def bb:=@Nat.lt_of_lt_of_le
def bd:=@List.mem_singleton
def bg:=@List.contains_iff_mem
def bi:=@Option.map_eq_some_iff
def bn:=@List.drop_eq_getElem_cons
def bo:=@Bool.false_ne_true
def bp:=@List.length_append
def bq:=@PySem.Heap.SameBut.update
def br:=@PySem.Heap.size_push
def bv:=@Nat.ne_of_lt
def bP:=@List.getElem?_map
def bS:=@List.all_eq_true
theorem bX:type_of% @List.replicate_succ:=@List.replicate_succ
theorem b6:type_of% @Array.length_toList:=@Array.length_toList
def b9:=@PySem.wpAny_mono
def ca:=@Nat.le_trans
def cb:=@List.mem_map
def ce:=@List.length_eq_zero_iff
def cf:=@PySem.wpAny_holding
def ci:=@Option.isSome_iff_exists
def ck:=@decide_eq_false
def cm:=@List.mem_append
def cp:=@Option.some.inj
def cq:=@Bool.or_eq_true
def cr:=@decide_eq_true_iff
def cw:=@List.mem_of_getElem?
def cx:=@Nat.lt_irrefl
def cy:=@List.map_cons
def cK:=@PySem.W.kia_one
def cS:=@PySem.wpAny_field
def c6:=@congrArg
def c8:=@Nat.le_succ
def c9:=@Nat.le_add_right
def de:=@List.length_take
def df:=@Int.eq_ofNat_of_zero_le
def dk:=@Nat.lt_succ_of_lt
def dn:=@List.getD_eq_getElem?_getD
def dr:=@List.drop_eq_nil_of_le
def dv:=@PySem.mem_of_lookup
def dy:=@PySem.wpAny_seqItems
def dA:=@PySem.F.called_set
def dE:=@List.not_mem_nil
def dL:=@Nat.ne_of_gt
def dP:=@List.map_map
def dQ:=@PySem.wpAny_call_entry
def dS:=@PySem.F.plainAttrs_list
def d3:=@List.dropLast_concat_getLast
def d4:=@List.take_of_length_le
def d5:=@PySem.wpAny_truthy_bool
def d6:=@PySem.wpAny_setState_of
def eh:=@PySem.wpAny_newObj_type
def ei:=@PySem.wpAny_callSpecial?_slot
def ej:=@Array.getElem?_toList
def er:=@PySem.sizeLine_eq
def et:=@List.getElem?_append_left
def eA:=@Array.getElem?_eq_getElem
def eI:=@Bool.eq_iff_iff
def eJ:=@PySem.wpAny_setField_rec
def eK:=@List.mem_append_left
def eL:=@PySem.Heap.get?_update_self
def eM:=@PyProof.Rows.slot_tuple_getitem
def eP:=@decide_eq_true
def eR:=@Nat.lt_succ_self
def eS:=@List.length_drop
def eT:=@List.drop_length
def eW:=@List.Perm.refl
def e8:=@Nat.zero_le
def e9:=@PySem.wpAny_setField
def fb:=@List.nodup_cons
def fe:=@List.append_nil
def ff:=@PyProof.Rows.callWith_type1
theorem fg:type_of% @List.flatten_cons:=@List.flatten_cons
def fh:=@Bool.not_eq_true'
theorem fi:type_of% @List.length_cons:=@List.length_cons
def fk:=@beq_eq_false_iff_ne
def fm:=@PyProof.Rows.F.plain_set_update_loop
def fo:=@PySem.call_meets
def fq:=@PySem.F.slot_tuple_iterator_next
def fv:=@PySem.Around.under_plainId
def fw:=@Int.emod_nonneg
def fx:=@Int.emod_lt_of_pos
def fy:=@PySem.wpAny_standAt
def fA:=@of_decide_eq_true
def fE:=@bne_self_eq_false
def fF:=@List.take_add_one
def fN:=@List.map_nil
def fR:=@List.length_range
def fS:=@Bool.and_false
def fT:=@PySem.codeAny_builtin
def gc:=@PySem.wpAny_rule
def gd:=@PySem.wpAny_Call_Name_kw
def ge:=@List.getElem?_toArray
def gi:=@Nat.min_eq_right
def gl:=@List.take_length
def gp:=@List.mem_flatMap
def gs:=@PySem.wpAny_loadPart_at
abbrev Key:=Sum Int Str
def u5:Key->Value->Bool
 |.inl k,v=>Value.isInt k v
 |.inr x,v=>Value.isStrOf x v
def JZ(w:World):Key->Int
 |.inl k=>hashInt k
 |.inr x=>hashStr w x
theorem dW:∀{k:Key}{v:Value},u5 k v=true->(∃i t,k=Sum.inl i/\v=Value.int i t)\/(∃x t,k=Sum.inr x/\v=Value.str x t)
 |.inl i,v,h=>by
  obtain ⟨t,e⟩:=Value.isInt_shape (k:=i) (v:=v) h;exact .inl ⟨i,t,rfl,e⟩
 |.inr x,v,h=>by
  obtain ⟨t,e⟩:=Value.isStrOf_shape (x:=x) (v:=v) h;exact .inr ⟨x,t,rfl,e⟩
theorem J0(a b:Int):decide ((Sum.inl a:Key)=Sum.inl b)=(a==b):=by
 by_cases e:a=b
 ·subst e;simp
 ·have h:¬(Sum.inl a:Key)=Sum.inl b:=λq=>e (Sum.inl.inj q);rw[ck h];exact (fk.mpr e).symm
theorem J1(a b:Str):decide ((Sum.inr a:Key)=Sum.inr b)=decide (a=b):=by
 by_cases e:a=b
 ·subst e;simp
 ·have h:¬(Sum.inr a:Key)=Sum.inr b:=λq=>e (Sum.inr.inj q);rw[ck h,ck e]
theorem J2(a:Int)(b:Str):decide ((Sum.inl a:Key)=Sum.inr b)=false:=ck (λq=>nomatch q)
theorem J3(a:Str)(b:Int):decide ((Sum.inr a:Key)=Sum.inl b)=false:=ck (λq=>nomatch q)
def pX(prog:Program)(w:World):PySem.KeyKind prog w Key where
 is:=u5
 hash:=JZ w
 inj:=λv a b ha hb=>by
  rcases dW ha with ⟨i,t,rfl,rfl⟩ |⟨x,t,rfl,rfl⟩
  ·rcases dW hb with ⟨j,u,rfl,e⟩ |⟨y,u,rfl,e⟩
   ·injection e with e1 _;rw[e1]
   ·exact nomatch e
  ·rcases dW hb with ⟨j,u,rfl,e⟩ |⟨y,u,rfl,e⟩
   ·exact nomatch e
   ·injection e with e1 _;rw[e1]
 byValue:=λk v h=>by
  rcases dW h with ⟨i,t,rfl,rfl⟩ |⟨x,t,rfl,rfl⟩ <;> rfl
 pyHash:=λhv h=>by
  rcases dW hv with ⟨i,t,rfl,rfl⟩ |⟨x,t,rfl,rfl⟩
  ·exact wpAny_pyHash_int h
  ·exact wpAny_pyHash_str h
 eqBool:=λhu hv h=>by
  rcases dW hu with ⟨i,t,rfl,rfl⟩ |⟨x,t,rfl,rfl⟩
  ·rcases dW hv with ⟨j,u,rfl,rfl⟩ |⟨y,u,rfl,rfl⟩
   ·rw[J0]at h;exact wpAny_eqBool_int h
   ·rw[J2]at h;exact SeqAt.EqAt.int_str i t y u _ _ _ _ h
  ·rcases dW hv with ⟨j,u,rfl,rfl⟩ |⟨y,u,rfl,rfl⟩
   ·rw[J3]at h;exact SeqAt.EqAt.str_int x t j u _ _ _ _ h
   ·rw[J1]at h;exact wpAny_eqBool_str h
 «strs»:=λk x t v h=>by
  rcases dW h with ⟨i,u,rfl,e⟩ |⟨y,u,rfl,e⟩
  ·exact nomatch e
  ·injection e with e1 _;subst e1;cases v <;> rfl
inductive V where
 |non |bl (b:Bool) |int (i:Int) |str (x:Str) |byt (b:Array UInt8) |flt (b:UInt64) |ref (a:Addr) |ty (n:String)
 deriving DecidableEq
def RelV:V->Value->Prop
 |.non,u=>u=Value.none
 |.bl b,u=>u=Value.bool b
 |.int i,u=>∃t,u=Value.int i t
 |.str x,u=>∃t,u=Value.str x t
 |.byt b,u=>∃t,u=Value.bytes b t
 |.flt b,u=>∃t,u=Value.float b t
 |.ref a,u=>u=Value.ref a
 |.ty n,u=>u=Value.type n
abbrev Vals:List V->List Value->Prop:=Paired RelV
theorem Vals.length{xs:List V}{us:List Value}(r:Vals xs us):xs.length=us.length:=Paired.length r
theorem Vals.get:∀{xs:List V}{us:List Value}{i:Nat}{x:V},Vals xs us->xs[i]?=some x->∃u,us[i]?=some u/\RelV x u
 |_,_,_,_,.nil,e=>by simp at e
 |_,_,0,_,.cons r _,e=>by simp at e;subst e;exact ⟨_,rfl,r⟩
 |_,_,i+1,x,.cons _ t,e=>by
  obtain ⟨u,h1,h2⟩:=Vals.get (i:=i) (x:=x) t (by simpa using e);exact ⟨u,by simpa using h1,h2⟩
theorem Vals.set{x:V}{u:Value}(r:RelV x u):∀{xs:List V}{us:List Value}(i:Nat),Vals xs us->Vals (xs.set i x) (us.set i u)
 |_,_,_,.nil=>.nil
 |_,_,0,.cons _ t=>.cons r t
 |_,_,i+1,.cons q t=>.cons q (Vals.set r i t)
theorem Vals.append:∀{xs ys:List V}{us ws:List Value},Vals xs us->Vals ys ws->Vals (xs++ys) (us++ws)
 |_,_,_,_,.nil,s=>s
 |_,_,_,_,.cons r t,s=>.cons r (Vals.append t s)
theorem Vals.take:∀{xs:List V}{us:List Value}(n:Nat),Vals xs us->Vals (xs.take n) (us.take n)
 |_,_,0,_=>.nil
 |_,_,_+1,.nil=>.nil
 |_,_,n+1,.cons r t=>.cons r (Vals.take n t)
theorem Vals.drop:∀{xs:List V}{us:List Value}(n:Nat),Vals xs us->Vals (xs.drop n) (us.drop n)
 |_,_,0,r=>r
 |_,_,_+1,.nil=>.nil
 |_,_,n+1,.cons _ t=>Vals.drop n t
def RelO:Option V->Option Value->Prop
 |some v,some u=>RelV v u
 |none,none=>True
 |_,_=>False
def KV{κ:Type}:List (κ×V)->List (κ×Value)->Prop:=Paired λ(p:κ×V) (q:κ×Value)=>p.1=q.1/\RelV p.2 q.2
def kV:Key->V
 |.inl i=>.int i
 |.inr x=>.str x
inductive HO where
 |lst (xs:List V)
 |tup (xs:List V)
 |dK (kvs:List (Key×V)) |dT (kvs:List (List Key×V))
 |set (S:Int->Bool) (n:Nat)
 |ins (C dx:Addr) (fs:List (Str×V))
 |own (x:Addr)
 |xd (fs:List (Str×V))
 |met (f x:Addr)
 |rng (lo hi:Int)
 |frz (o:Obj) (u:HO)
 |tbl (ps:Array Value)
 |ext (φ:Heap->Prop)
abbrev Hp:=Addr->Option HO
def upd(H:Hp)(a:Addr)(o:HO):Hp:=λb=>if b=a then some o else H b
theorem bZ{H:Hp}{a:Addr}{o:HO}:upd H a o a=some o:=by unfold upd;rw[if_pos rfl]
theorem az{H:Hp}{a b:Addr}{o:HO}(h:b≠a):upd H a o b=H b:=by unfold upd;rw[if_neg h]
theorem u6{H:Hp}{a b:Addr}{o u:HO}(h:H a=some o)(h':H b=some u)(d:o≠u):a≠b:=by intro e;subst e;rw[h]at h';exact d (cp h')
theorem aQ{H:Hp}{a b:Addr}{o:HO}(h:H a=some o)(h':H b=none):a≠b:=by intro e;subst e;rw[h]at h';cases h'
section
variable (P:Program) (w:World)
def ObjOk(H:Hp)(h:Heap)(a:Addr):HO->Prop
 |.lst xs=>xs.length<=sizeLine/\∃(its:List Value) (n:Nat),Vals xs its/\h.get? a=some { cls:=.type "list",data:=.seq its.toArray n }
 |.tup xs=>xs.length<=sizeLine/\∃its:List Value,Vals xs its/\IsTup h a its.toArray
 |.dK kvs=>kvs.length<=sizeLine/\(a==sysModules)=false/\∃vs,KV kvs vs/\h.DictOf (pX P w) a vs
 |.dT kvs=>kvs.length<=sizeLine/\(a==sysModules)=false/\∃xs:List (List Key×Addr×Value),
   Paired (λ(p:List Key×V) (q:List Key×Addr×Value)=>p.1=q.1/\H q.2.1=some (.tup (p.1.map kV))/\RelV p.2 q.2.2) kvs xs/\
   ∃o es ep,h.get? a=some o/\o.ExactDict/\o.data=.dict es ep/\es.toList=xs.map (entryOfKey (tupleKind (pX P w)))/\(xs.map (·.1)).Nodup
 |.set S n=>h.SetOf (intKind P w) a S n
 |.ins C dx fs=>H dx=some (.own a)/\fs.length<=1000/\dx≠a/\h.get? a=some (PySem.W.instObj C dx)/\
   ∃mA,h.Ns1 dx mA/\(∀f,RelO (fs.lookup f) (mA f))/\PySem.Within mA (fs.map (·.1))
 |.own _=>∃o,h.get? a=some o
 |.xd fs=>∃mA,h.Ns1 a mA/\∀f,RelO (fs.lookup f) (mA f)
 |.rng lo hi=>∃t u v,h.get? a=some { cls:=.type "range",data:=.fields #[.int lo t,.int hi u,.int 1 v] }
 |.frz o u=>h.get? a=some o/\ObjOk H h a u
 |.tbl ps=>h.get? a=some { cls:=.none,data:=.fields ps }
 |.met f x=>h.get? a=some (PySem.W.methodObj (.ref f) (.ref x))
 |.ext φ=>φ h/\(∃o,h.get? a=some o)/\∀h1 h2:Heap,φ h1->(∀o,h1.get? a=some o->h2.get? a=some o)->φ h2
def HOk(H:Hp)(h:Heap):Prop:=∀a o,H a=some o->ObjOk P w H h a o
end
section
variable {P:Program} {w:World} {H H':Hp} {h h':Heap} {a:Addr} {o:HO}
theorem ObjOk.lt(x:ObjOk P w H h a o):a < h.objs.size:=by
 cases o with
 |lst xs=>obtain ⟨_,_,_,_,e⟩:=x;exact aw e
 |tup xs=>obtain ⟨_,_,_,p⟩:=x;exact p.lt
 |dK kvs=>obtain ⟨_,_,_,_,o,_,_,e,_⟩:=x;exact aw e
 |dT kvs=>obtain ⟨_,_,_,_,o,_,_,e,_⟩:=x;exact aw e
 |set S n=>obtain ⟨o,_,_,_,e,_⟩:=x;exact aw e
 |ins C dx fs=>obtain ⟨_,_,_,e,_⟩:=x;exact aw e
 |own y=>obtain ⟨_,e⟩:=x;exact aw e
 |xd fs=>obtain ⟨_,⟨_,_,_,e,_⟩,_⟩:=x;exact aw e
 |rng lo hi=>obtain ⟨_,_,_,e⟩:=x;exact aw e
 |frz ob u=>obtain ⟨e,_⟩:=x;exact aw e
 |tbl ps=>exact aw (show h.get? a=some _ from x)
 |met f y=>exact aw (show h.get? a=some _ from x)
 |ext φ=>obtain ⟨_,⟨_,e⟩,_⟩:=x;exact aw e
theorem Paired.mapP{α β:Type}{F G:α->β->Prop}:∀{l₁:List α}{l₂:List β},Paired F l₁ l₂->(∀a b,F a b->G a b)->Paired G l₁ l₂
 |_,_,.nil,_=>.nil
 |_,_,.cons r t,f=>.cons (f _ _ r) (Paired.mapP t f)
theorem ObjOk.stay(x:ObjOk P w H h a o)(k:∀b u,(b=a\/H b=some (.own a))->h.get? b=some u->h'.get? b=some u)
  (ho:∀b,H b=some (.own a)->H' b=some (.own a)) (ht:∀b xs,H b=some (.tup xs)->H' b=some (.tup xs)):ObjOk P w H' h' a o:=by
 induction o with
 |lst xs=>obtain ⟨z,its,n,r,e⟩:=x;exact ⟨z,its,n,r,k _ _ (.inl rfl) e⟩
 |tup xs=>obtain ⟨z,its,r,ob,e,c⟩:=x;exact ⟨z,its,r,ob,k _ _ (.inl rfl) e,c⟩
 |dK kvs=>obtain ⟨z,y,vs,r,ob,es,ep,e,c⟩:=x;exact ⟨z,y,vs,r,ob,es,ep,k _ _ (.inl rfl) e,c⟩
 |dT kvs=>
  obtain ⟨z,y,xs,r,ob,es,ep,e,c⟩:=x;exact ⟨z,y,xs,Paired.mapP r λp q z=>⟨z.1,ht _ _ z.2.1,z.2.2⟩,ob,es,ep,k _ _ (.inl rfl) e,c⟩
 |set S n=>obtain ⟨ob,es,ep,t,e,c⟩:=x;exact ⟨ob,es,ep,t,k _ _ (.inl rfl) e,c⟩
 |ins C dx fs=>
  obtain ⟨d,z,ne,e,mA,⟨od,es,ep,e2,c⟩,r⟩:=x;exact ⟨ho _ d,z,ne,k _ _ (.inl rfl) e,mA,⟨od,es,ep,k _ _ (.inr d) e2,c⟩,r⟩
 |own y=>obtain ⟨ob,e⟩:=x;exact ⟨ob,k _ _ (.inl rfl) e⟩
 |xd fs=>obtain ⟨mA,⟨od,es,ep,e,c⟩,r⟩:=x;exact ⟨mA,⟨od,es,ep,k _ _ (.inl rfl) e,c⟩,r⟩
 |rng lo hi=>obtain ⟨t,u,v,e⟩:=x;exact ⟨t,u,v,k _ _ (.inl rfl) e⟩
 |frz ob u ih=>obtain ⟨e,q⟩:=x;exact ⟨k _ _ (.inl rfl) e,ih q⟩
 |tbl ps=>
  have e:h.get? a=some { cls:=.none,data:=.fields ps }:=x;show h'.get? a=some { cls:=.none,data:=.fields ps };exact k a _ (.inl rfl) e
 |met f y=>
  have e:h.get? a=some (PySem.W.methodObj (.ref f) (.ref y)):=x;show h'.get? a=some (PySem.W.methodObj (.ref f) (.ref y));exact k a _ (.inl rfl) e
 |ext φ=>obtain ⟨p,⟨o,e⟩,st⟩:=x;exact ⟨st _ _ p λo q=>k _ _ (.inl rfl) q,⟨o,k _ _ (.inl rfl) e⟩,st⟩
theorem HOk.lt(x:HOk P w H h)(e:H a=some o):a < h.objs.size:=(x a o e).lt
theorem HOk.fresh(x:HOk P w H h)(e:h.objs.size<=a):H a=none:=by
 cases q:H a with
 |none=>rfl
 |some u=>exact absurd (bb (x.lt q) e) (cx _)
theorem HOk.kept(x:HOk P w H h)(k:∀b u,h.get? b=some u->h'.get? b=some u):HOk P w H h':=λa o e=>
 (x a o e).stay (λb u _ q=>k b u q) (λ_ q=>q) λ_ _ q=>q
theorem HOk.laid(x:HOk P w H h)(k:∀b u,h.get? b=some u->h'.get? b=some u)(hp:h.objs.size<=a)(new:ObjOk P w (upd H a o) h' a o):HOk P w (upd H a o) h':=λb u e=>by
 have hn:=x.fresh hp;by_cases hb:b=a
 ·subst hb;rw[bZ]at e;cases e;exact new
 ·rw[az hb]at e;exact (x b u e).stay (λc v _ q=>k c v q) (λc q=>by rw[az (aQ q hn)];exact q) λc xs q=>by rw[az (aQ q hn)];exact q
end
def Rd(H:Hp)(a:Addr)(u:HO):Prop:=H a=some u\/∃o,H a=some (.frz o u)
theorem Rd.ok{P:Program}{w:World}{H:Hp}{h:Heap}{a:Addr}{u:HO}(r:Rd H a u)(x:HOk P w H h):ObjOk P w H h a u:=by
 rcases r with r |⟨o,r⟩
 ·exact x a u r
 ·obtain ⟨_,q⟩:=x a _ r;exact q
noncomputable def Mut:Option HO->Prop
 |some (.lst _)=>True
 |some (.dK _)=>True
 |some (.dT _)=>True
 |some (.set _ _)=>True
 |some (.ins _ _ _)=>True
 |some (.ext _)=>True
 |_=>False
section
variable {P:Program} {w:World} {H:Hp} {h h':Heap} {x e:Addr} {o':HO}
theorem HOk.write(ok:HOk P w H h)(mu:Mut (H x))(he:e=x\/H e=some (.own x))(k:∀b u,b≠e->h.get? b=some u->h'.get? b=some u)(heo:∃u,h'.get? e=some u)
  (new:ObjOk P w (upd H x o') h' x o'):HOk P w (upd H x o') h':=λb u q=>by
 have nown:∀c y,H c=some (.own y)->c≠x:=λc y r z=>by subst z;rw[r]at mu;exact mu
 have ntup:∀c xs,H c=some (.tup xs)->c≠x:=λc xs r z=>by subst z;rw[r]at mu;exact mu
 by_cases hb:b=x
 ·subst hb;rw[bZ]at q;cases q;exact new
 ·rw[az hb]at q;by_cases hbe:b=e
  ·have q':H b=some (.own x):=by
    rcases he with z |z
    ·exact absurd (hbe.trans z) hb
    ·rw[hbe];exact z
   rw[q]at q';cases q';obtain ⟨v,hv⟩:=heo;exact ⟨v,by rw[hbe];exact hv⟩
  ·refine (ok b u q).stay (λc v hc r=>k c v ?_ r) (λc r=>by rw[az (nown c b r)];exact r) λc xs r=>by rw[az (ntup c xs r)];exact r
   rcases hc with rfl |hc
   ·exact hbe
   ·rintro rfl;rcases he with z |z
    ·exact nown c b hc z
    ·rw[hc]at z;cases z;exact hb rfl
end
structure Un(fs ex:List Addr)(H H':Hp)(h h':Heap):Prop where
 keep:∀b o,h.get? b=some o->H b=none->b∉fs->b∉ex->h'.get? b=some o
 slot:∀b o,h.get? b=some o->H b=none->b∈fs->b∉ex->∃sl,h'.get? b=some { o with slots:=sl }
 free:∀b o,h.get? b=some o->H b=none->b∉ex->H' b=none
 there:∀b o,h.get? b=some o->b∉ex->∃o',h'.get? b=some o'
 tups:∀b xs,H b=some (.tup xs)->H' b=some (.tup xs)
 frzs:∀b o u,H b=some (.frz o u)->H' b=some (.frz o u)
 tbls:∀b ps,H b=some (.tbl ps)->∃more,H' b=some (.tbl (ps++more))
section
variable {fs fs' ex ex':List Addr} {H H1 H2:Hp} {h h1 h2 h':Heap} {a x e:Addr} {o:HO}
theorem Un.any(u:Un fs ex H H1 h h1){b:Addr}{ob:Obj}(q:h.get? b=some ob)(n:H b=none)(hx:b∉ex):∃sl,h1.get? b=some { ob with slots:=sl }:=by
 by_cases hb:b∈fs
 ·exact u.slot b ob q n hb hx
 ·exact ⟨ob.slots,u.keep b ob q n hb hx⟩
theorem Un.kept(k:∀b u,h.get? b=some u->h'.get? b=some u):Un fs ex H H h h':=
 ⟨λb ob q _ _ _=>k b ob q,λb ob q _ _ _=>⟨ob.slots,k b ob q⟩,λ_ _ _ n _=>n,λb ob q _=>⟨ob,k b ob q⟩,λ_ _ q=>q,λ_ _ _ q=>q,λ_ ps q=>⟨#[],by rw[q];simp⟩⟩
theorem Un.refl:Un fs ex H H h h:=Un.kept λ_ _ q=>q
theorem Un.laid(k:∀b u,h.get? b=some u->h'.get? b=some u)(hp:h.objs.size<=a)(hn:H a=none):Un fs ex H (upd H a o) h h' where
 keep:=λb u q _ _ _=>k b u q
 slot:=λb u q _ _ _=>⟨u.slots,k b u q⟩
 free:=λb u q n _=>by rw[az (bv (bb (aw q) hp))];exact n
 there:=λb u q _=>⟨u,k b u q⟩
 tups:=λb xs q=>by rw[az (aQ q hn)];exact q
 frzs:=λb u xs q=>by rw[az (aQ q hn)];exact q
 tbls:=λb ps q=>⟨#[],by rw[az (aQ q hn),q];simp⟩
theorem Un.write(mu:Mut (H x))(he:e=x\/H e=some (.own x))(k:∀b u,b≠e->h.get? b=some u->h'.get? b=some u)(heo:∃u,h'.get? e=some u):Un fs ex H (upd H x o) h h':=by
 have hx:∀b,H b=none->b≠x:=λb n z=>by subst z;rw[n]at mu;exact mu
 have hb:∀b,H b=none->b≠e:=λb n z=>by
  subst z;rcases he with r |r
  ·exact hx b n r
  ·rw[n]at r;cases r
 have hm:∀b u,H b=some u->¬Mut (some u)->b≠x:=λb u q nm z=>by subst z;rw[q]at mu;exact nm mu
 refine ⟨λb u q n _ _=>k b u (hb b n) q,λb u q n _ _=>⟨u.slots,k b u (hb b n) q⟩,λb u q n _=>by rw[az (hx b n)];exact n,λb u q _=>?_,
  λb xs q=>by rw[az (hm b _ q λz=>z)];exact q,λb u xs q=>by rw[az (hm b _ q λz=>z)];exact q,λb ps q=>⟨#[],by rw[az (hm b _ q λz=>z),q];simp⟩⟩
 by_cases hbe:b=e
 ·subst hbe;exact heo
 ·exact ⟨u,k b u hbe q⟩
end
def trk(h:Heap)(H:Hp):List Addr:=(List.range h.objs.size).filter λa=>(H a).isSome
def dX(h:Heap)(H:Hp):Heap:=PySem.W.hideAll h (trk h H)
theorem J4(h:Heap)(H:Hp):(dX h H).objs.size=h.objs.size:=PySem.W.hideAll_size _ _
theorem J5{h:Heap}{H:Hp}{b:Addr}{o:Obj}(e:h.get? b=some o)(n:H b=none):(dX h H).get? b=some o:=
 PySem.W.hideAll_get _ e λhm=>by
  have q:(H b).isSome=true:=(List.mem_filter.mp hm).2;rw[n]at q;simp at q
theorem J6{h:Heap}{H:Hp}{b:Addr}{o:Obj}(e:(dX h H).get? b=some o):h.get? b=some o/\H b=none:=by
 have e':h.get? b=some o:=PySem.W.of_hideAll (trk h H) e;refine ⟨e',?_⟩;cases q:H b with
 |none=>rfl
 |some x=>
  have hm:b∈trk h H:=List.mem_filter.mpr ⟨List.mem_range.mpr (aw e'),by simp[q]⟩;have z:(dX h H).get? b=none:=PySem.W.hideAll_none (trk h H) hm;rw[z]at e;cases e
noncomputable def J7(g h:Heap)(L:Addr):List (Addr×Obj):=(List.range h.objs.size).filterMap λa=>if a=L\/(g.get? a).isSome=true then none else (h.get? a).map λo=>(a,o)
def rest(g h:Heap)(L d:Addr):List (Addr×Obj):=(J7 g h L).filter λp=>decide (p.1≠d)
structure Mod(K:PF)(mg:Str->Option Value)(base:Heap):Prop where
 kin:K.In base
 glob:base.Ns mainGlobals mg
 blt:∃mb,base.Ns builtinsNs mb/\∀x:Str,x≠"__name__"->mb x=bootBuiltins x
 nolimit:base.NoLimit
structure Cx where
 prog:Program
 w:World
 K:PF
 mg:Str->Option Value
 base:Heap
 A:Around
 N:List Str
 s₀:Shared
 H₀:Hp
 env:Env
 outer:List Env
 stack:List Env
 ex:List Addr
 fn:Str->Bool
 calm:Bool
 pn:List (Addr×Obj)
 xe:Value->Shared->Prop
def frs(l:List Env):List Addr:=l.filterMap (·.frame)
abbrev Cx.fs(X:Cx):List Addr:=frs X.outer
def Vis(sc:Scope)(x:Str):Prop:=sc.names.lookup x=some .local\/sc.names.lookup x=some .cell\/sc.names.lookup x=some .free
def Loc(sc:Scope)(x:Str):Prop:=sc.names.lookup x=some .local\/sc.names.lookup x=some .cell
def Look(env:Env)(h:Heap)(m:Str->Option Value)(x:Str)(u:Value):Prop:=
 (env.kindOf x=some .local/\m x=some u)\/((env.kindOf x=some .cell\/env.kindOf x=some .free)/\∃c,env.cells.lookup x=some c/\h.IsCell c (some u))
structure Cx.Ok(X:Cx):Prop where
 mod:Mod X.K X.mg X.base
 kind:X.env.scope.kind=.function
 glob:X.env.globals=mainGlobals
 blt:X.env.builtins=builtinsNs
 above:X.s₀.heap.objs.size<=X.env.locals
 inj:∀x y c,X.env.cells.lookup x=some c->X.env.cells.lookup y=some c->x=y
 has:∀x,(X.env.kindOf x=some .cell\/X.env.kindOf x=some .free)->∃c,X.env.cells.lookup x=some c
 cab:∀x c,X.fn x=true->X.env.cells.lookup x=some c->X.s₀.heap.objs.size<=c
 hd:X.calm=true->X.A.handled=none
 frames:X.A.frames=some X.stack
 stk:X.stack=X.outer\/(X.stack=X.env::X.outer/\X.env.frame=some X.env.locals)
 exf:∀b∈X.ex,b≠X.env.locals/\∀x c,X.env.cells.lookup x=some c->c≠b
 bs:∀b o,X.base.get? b=some o->X.s₀.heap.get? b=some o/\X.H₀ b=none
 bsz:X.base.objs.size<=X.s₀.heap.objs.size
 noex:∀b o,X.base.get? b=some o->b∉X.ex
 exfs:∀b∈X.ex,b∉X.fs
 funs:X.s₀.heap.FunFrames X.base X.outer
 frf:∀b∈X.fs,X.H₀ b=none
structure Inv(X:Cx)(pins:List (Addr×Obj))(σ:List (Option V))(H:Hp)(s:Shared):Prop where
 ok:X.Ok
 os:s.os=X.s₀.os
 bare:AllBare s.gens
 base:Un X.fs X.ex X.H₀ H X.s₀.heap s.heap
 loc:∃m,s.heap.Ns X.env.locals m/\∀(i:Nat)(x:Str)(v:V),X.N[i]?=some x->σ[i]?=some (some v)->Vis X.env.scope x->∃u,RelV v u/\Look X.env s.heap m x u
 cell:∀x c,X.env.cells.lookup x=some c->∃v,s.heap.IsCell c v
 free:H X.env.locals=none
 freeC:∀x c,X.env.cells.lookup x=some c->H c=none
 pin:∀p∈X.pn++pins,s.heap.get? p.1=some p.2/\H p.1=none/\p.1≠X.env.locals/\p.1∉X.fs/\∀v,p.2.data≠.cell v
 hok:HOk X.prog X.w H s.heap
 len:σ.length=X.N.length
section
variable {X:Cx} {pins:List (Addr×Obj)} {σ:List (Option V)} {H H':Hp} {s:Shared} {h':Heap}
theorem Cx.Ok.nofr(ok:X.Ok){b:Addr}{o:Obj}(e:X.base.get? b=some o):b∉X.fs:=λhb=>by
 have:=(ok.funs.mem hb).1;rw[e]at this;cases this
theorem Inv.bs(I:Inv X pins σ H s):∀b o,X.base.get? b=some o->s.heap.get? b=some o/\H b=none:=λb o e=>
 ⟨I.base.keep b o (I.ok.bs b o e).1 (I.ok.bs b o e).2 (I.ok.nofr e) (I.ok.noex b o e),I.base.free b o (I.ok.bs b o e).1 (I.ok.bs b o e).2 (I.ok.noex b o e)⟩
theorem Inv.bk(I:Inv X pins σ H s):∀b o,X.base.get? b=some o->s.heap.get? b=some o:=λb o e=>(I.bs b o e).1
theorem Inv.mod(I:Inv X pins σ H s):Mod X.K X.mg X.base:=I.ok.mod
theorem Inv.kIn(I:Inv X pins σ H s):X.K.In s.heap:=I.ok.mod.kin.keeps I.bk
theorem Inv.lt(I:Inv X pins σ H s):X.env.locals < s.heap.objs.size:=let ⟨_,hn,_⟩:=I.loc;hn.lt
theorem Inv.sz(I:Inv X pins σ H s):X.s₀.heap.objs.size<=s.heap.objs.size:=ca I.ok.above (Nat.le_of_lt I.lt)
theorem Inv.nofs(I:Inv X pins σ H s){a:Addr}(h:s.heap.objs.size<=a):a∉X.fs:=λhb=>by
 obtain ⟨_,o,ho,_⟩:=I.ok.funs.mem hb;exact absurd (bb (aw ho) (ca I.sz h)) (cx _)
theorem Inv.cne(I:Inv X pins σ H s):∀x c,X.env.cells.lookup x=some c->c≠X.env.locals:=λx c e z=>by
 obtain ⟨v,o,ho,hd⟩:=I.cell x c e;obtain ⟨m,⟨o',es,ep,ho',hd',_⟩,_⟩:=I.loc;rw[z,ho']at ho;cases ho;rw[hd']at hd;cases hd
theorem Inv.funs(I:Inv X pins σ H s):s.heap.FunFrames X.base X.outer:=by
 have all:∀(l:List Env),(∀b∈frs l,b∈X.fs)->X.s₀.heap.FunFrames X.base l->s.heap.FunFrames X.base l:=by
  intro l;induction l with
  |nil=>intro _ _;trivial
  |cons env r ih=>
   intro hs hl;obtain ⟨hk,⟨L,o,hf,hn,ho,hd⟩,hr⟩:=hl;have hL:L∈X.fs:=hs L (by unfold frs;rw[List.filterMap_cons,hf];exact aS);obtain ⟨sl,e⟩:=I.base.slot L o ho (I.ok.frf L hL) hL λz=>I.ok.exfs L z hL;exact ⟨hk,⟨L,_,hf,hn,e,hd⟩,ih (λb hb=>hs b (by unfold frs;rw[List.filterMap_cons,hf];exact aT _ hb)) hr⟩
 exact all X.outer (λ_ hb=>hb) I.ok.funs
theorem Inv.stack(I:Inv X pins σ H s):s.heap.FunFrames X.base X.stack:=by
 rcases I.ok.stk with e |⟨e,hf⟩
 ·rw[e];exact I.funs
 ·rw[e];obtain ⟨m,hn,_⟩:=I.loc;refine .cons (by rw[I.ok.kind];decide) hf hn ?_ I.funs;exact Heap.get?_none_of_le (ca I.ok.bsz I.ok.above)
theorem Inv.stkSub(I:Inv X pins σ H s):∀b∈frs X.stack,b∈X.env.locals::X.fs:=λb hb=>by
 rcases I.ok.stk with e |⟨e,hf⟩
 ·rw[e]at hb;exact aT _ hb
 ·rw[e]at hb;unfold frs at hb;rw[List.filterMap_cons,hf]at hb;exact hb
theorem Inv.stkFree(I:Inv X pins σ H s):∀b∈frs X.stack,H b=none:=λb hb=>by
 rcases ba.mp (I.stkSub b hb) with e |hb
 ·rw[e];exact I.free
 ·obtain ⟨_,o,ho,_⟩:=I.ok.funs.mem hb;exact I.base.free b o ho (I.ok.frf b hb) λz=>I.ok.exfs b z hb
theorem Inv.step{g':Array GenState}{t':Nat}{d':Drawn}{ch:List Addr}(I:Inv X pins σ H s)
  (hch:∀b∈ch,(b∈X.ex\/X.s₀.heap.objs.size<=b)/\b≠X.env.locals/\(∀x c,X.env.cells.lookup x=some c->c≠b)/\∀p∈X.pn++pins,p.1≠b)
  (keep:∀b o,b≠X.env.locals->b∉X.fs->b∉ch->s.heap.get? b=some o->H b=none->h'.get? b=some o)
  (slot:∀b o,b≠X.env.locals->b∈X.fs->b∉ch->s.heap.get? b=some o->H b=none->∃sl,h'.get? b=some { o with slots:=sl }) (free:∀b o,b∉ch->s.heap.get? b=some o->H b=none->H' b=none)
  (there:∀b o,b∉ch->s.heap.get? b=some o->∃o',h'.get? b=some o')
  (tups:∀b xs,H b=some (.tup xs)->H' b=some (.tup xs)) (frzs:∀b o u,H b=some (.frz o u)->H' b=some (.frz o u)) (tbls:∀b ps,H b=some (.tbl ps)->∃more,H' b=some (.tbl (ps++more)))
  (ns:∀m,s.heap.Ns X.env.locals m->h'.Ns X.env.locals m) (hok:HOk X.prog X.w H' h') (hg:AllBare g'):
  Inv X pins σ H' { s with heap:=h',gens:=g',drawn:=d',toks:=t' }:=by
 have neL:∀b o,X.s₀.heap.get? b=some o->b≠X.env.locals:=λb o e=>bv (bb (aw e) I.ok.above);have neC:∀b o,X.s₀.heap.get? b=some o->b∉X.ex->b∉ch:=λb o e hx hb=>by
  rcases (hch b hb).1 with z |z
  ·exact hx z
  ·exact absurd (bb (aw e) z) (cx _)
 have cellK:∀x c,X.env.cells.lookup x=some c->∀v,s.heap.IsCell c v->h'.IsCell c v:=λx c e v ⟨o,ho,hd⟩=>by
  have nch:c∉ch:=λz=>(hch c z).2.2.1 x c e rfl;by_cases hc:c∈X.fs
  ·obtain ⟨sl,q⟩:=slot c o (I.cne x c e) hc nch ho (I.freeC x c e);exact ⟨_,q,hd⟩
  ·exact ⟨o,keep c o (I.cne x c e) hc nch ho (I.freeC x c e),hd⟩
 refine ⟨I.ok,I.os,hg,⟨λb o e n hb hx=>?_,λb o e n hb hx=>?_,λb o e n hx=>?_,λb o e hx=>?_,λb xs e=>tups b xs (I.base.tups b xs e),λb o xs e=>frzs b o xs (I.base.frzs b o xs e),λb ps e=>?_⟩,?_,λx c e=>?_,?_,λx c e=>?_,λp hp=>?_,hok,I.len⟩
 ·exact keep b o (neL b o e) hb (neC b o e hx) (I.base.keep b o e n hb hx) (I.base.free b o e n hx)
 ·obtain ⟨sl,e1⟩:=I.base.slot b o e n hb hx;obtain ⟨sl',e2⟩:=slot b _ (neL b o e) hb (neC b o e hx) e1 (I.base.free b o e n hx);exact ⟨sl',e2⟩
 ·obtain ⟨o',e1⟩:=I.base.there b o e hx;exact free b o' (neC b o e hx) e1 (I.base.free b o e n hx)
 ·obtain ⟨o',e1⟩:=I.base.there b o e hx;exact there b o' (neC b o e hx) e1
 ·obtain ⟨m1,e1⟩:=I.base.tbls b ps e;obtain ⟨m2,e2⟩:=tbls b _ e1;exact ⟨m1++m2,by rw[e2,Array.append_assoc]⟩
 ·obtain ⟨m,hn,hl⟩:=I.loc;refine ⟨m,ns m hn,λi x v e1 e2 e3=>?_⟩;obtain ⟨u,r,l⟩:=hl i x v e1 e2 e3;refine ⟨u,r,?_⟩;rcases l with l |⟨k,c,e,z⟩
  ·exact .inl l
  ·exact .inr ⟨k,c,e,cellK x c e _ z⟩
 ·obtain ⟨v,z⟩:=I.cell x c e;exact ⟨v,cellK x c e v z⟩
 ·obtain ⟨m,⟨o,_,_,ho,_⟩,_⟩:=I.loc;exact free _ o (λz=>(hch _ z).2.1 rfl) ho I.free
 ·obtain ⟨v,o,ho,hd⟩:=I.cell x c e;exact free c o (λz=>(hch c z).2.2.1 x c e rfl) ho (I.freeC x c e)
 ·obtain ⟨e,n,ne,nf,d⟩:=I.pin p hp;have nch:p.1∉ch:=λz=>(hch p.1 z).2.2.2 p hp rfl;exact ⟨keep p.1 p.2 ne nf nch e n,free p.1 p.2 nch e n,ne,nf,d⟩
theorem Inv.un{t':Nat}(I:Inv X pins σ H s)(u:Un X.fs [] H H' s.heap h')(hok:HOk X.prog X.w H' h'):Inv X pins σ H' { s with heap:=h',toks:=t' }:=by
 obtain ⟨m,⟨o,es,ep,ho,r⟩,_⟩:=id I.loc;obtain ⟨sl,hL⟩:=u.any ho I.free (by simp);exact I.step (g':=s.gens) (d':=s.drawn) (ch:=[]) (λ_ z=>nomatch z) (λb o _ hb _ e n=>u.keep b o e n hb (by simp)) (λb o _ hb _ e n=>u.slot b o e n hb (by simp)) (λb o _ e n=>u.free b o e n (by simp)) (λb o _ e=>u.there b o e (by simp)) u.tups u.frzs u.tbls (λm' hm=>by
  obtain ⟨o',es',ep',ho',r'⟩:=hm;rw[ho]at ho';cases ho';exact ⟨_,es',ep',hL,r'⟩) hok I.bare
theorem Inv.call{g':Array GenState}{t':Nat}{d':Drawn}{ch:List Addr}(I:Inv X pins σ H s)(u:Un (frs X.stack) ch H H' s.heap h')(hok:HOk X.prog X.w H' h')(hg:AllBare g')
  (hch:∀b∈ch,(b∈X.ex\/X.s₀.heap.objs.size<=b)/\b≠X.env.locals/\(∀x c,X.env.cells.lookup x=some c->c≠b)/\∀p∈X.pn++pins,p.1≠b):
  Inv X pins σ H' { s with heap:=h',gens:=g',drawn:=d',toks:=t' }:=by
 obtain ⟨m,⟨o,es,ep,ho,r⟩,_⟩:=id I.loc;obtain ⟨sl,hL⟩:=u.any ho I.free λz=>(hch _ z).2.1 rfl;exact I.step (ch:=ch) hch (λb o hL hb hc e n=>u.keep b o e n (λz=>(ba.mp (I.stkSub b z)).elim hL hb) hc) (λb o _ _ hc e n=>u.any e n hc) (λb o hc e n=>u.free b o e n hc) (λb o hc e=>u.there b o e hc) u.tups u.frzs u.tbls (λm' hm=>by
  obtain ⟨o',es',ep',ho',r'⟩:=hm;rw[ho]at ho';cases ho';exact ⟨_,es',ep',hL,r'⟩) hok hg
theorem Inv.turned{t':Nat}{it:Addr}(I:Inv X pins σ H s)(k:∀b o,b≠it->s.heap.get? b=some o->h'.get? b=some o)(hn:H it=none)(hL:it≠X.env.locals)
  (h1:it∈X.ex\/X.s₀.heap.objs.size<=it) (h2:∀x c,X.env.cells.lookup x=some c->c≠it) (h3:∀p∈X.pn++pins,p.1≠it):Inv X pins σ H { s with heap:=h',toks:=t' }:=by
 have nit:∀b u,H b=some u->b≠it:=λb u e z=>by rw[z,hn]at e;cases e
 refine I.step (g':=s.gens) (d':=s.drawn) (ch:=[it]) (λb hb=>?_) (λb o _ _ hc e _=>k b o (λz=>hc (by simp[z])) e) (λb o _ _ hc e _=>⟨o.slots,k b o (λz=>hc (by simp[z])) e⟩) (λ_ _ _ _ n=>n)
  (λb o hc e=>⟨o,k b o (λz=>hc (by simp[z])) e⟩) (λ_ _ e=>e) (λ_ _ _ e=>e) (λb ps e=>⟨#[],by rw[e];simp⟩) (λm hm=>?_) (λb u e=>?_) I.bare
 ·have e:b=it:=by simpa using hb
  subst e;exact ⟨h1,hL,h2,h3⟩
 ·obtain ⟨o,es,ep,ho,r⟩:=hm;exact ⟨o,es,ep,k _ o (Ne.symm hL) ho,r⟩
 ·refine (I.hok b u e).stay (λc v hc q=>k c v ?_ q) (λ_ q=>q) λ_ _ q=>q;rcases hc with z |z
  ·rw[z];exact nit b u e
  ·exact nit c _ z
theorem Inv.tok(I:Inv X pins σ H s)(t:Nat):Inv X pins σ H { s with toks:=t }:=I.un (h':=s.heap) (t':=t) Un.refl I.hok
theorem Inv.kept{t':Nat}(I:Inv X pins σ H s)(k:∀b u,s.heap.get? b=some u->h'.get? b=some u):Inv X pins σ H { s with heap:=h',toks:=t' }:=I.un (Un.kept k) (I.hok.kept k)
theorem Inv.laid{a:Addr}{o:HO}{t':Nat}(I:Inv X pins σ H s)(k:∀b u,s.heap.get? b=some u->h'.get? b=some u)(hp:s.heap.objs.size<=a)(new:ObjOk X.prog X.w (upd H a o) h' a o):
  Inv X pins σ (upd H a o) { s with heap:=h',toks:=t' }:=I.un (Un.laid k hp (I.hok.fresh hp)) (I.hok.laid k hp new)
theorem Inv.write{x e:Addr}{o:HO}{t':Nat}(I:Inv X pins σ H s)(mu:Mut (H x))(he:e=x\/H e=some (.own x))(k:∀b u,b≠e->s.heap.get? b=some u->h'.get? b=some u)(heo:∃u,h'.get? e=some u)
  (new:ObjOk X.prog X.w (upd H x o) h' x o):Inv X pins σ (upd H x o) { s with heap:=h',toks:=t' }:=I.un (Un.write mu he k heo) (I.hok.write mu he k heo new)
theorem Inv.pins_of{pins':List (Addr×Obj)}(I:Inv X pins σ H s)(h:∀p∈pins',s.heap.get? p.1=some p.2/\H p.1=none/\p.1≠X.env.locals/\p.1∉X.fs/\∀v,p.2.data≠.cell v):Inv X pins' σ H s:=
 ⟨I.ok,I.os,I.bare,I.base,I.loc,I.cell,I.free,I.freeC,λp hp=>(cm.mp hp).elim (λz=>I.pin p (eK _ z)) (h p),I.hok,I.len⟩
theorem u9{N:List Str}(hN:N.Nodup){i j:Nat}{x:Str}(a:N[i]?=some x)(b:N[j]?=some x):i=j:=by obtain ⟨h1,e1⟩:=a9.mp a;obtain ⟨h2,e2⟩:=a9.mp b;exact (List.getElem_inj hN).mp (e1.trans e2.symm)
theorem J8{M:Model}{A:Around}{E:Value->Shared->Prop}{i:Nat}{x:Str}{v:V}{u:Value}{Q:Unit->Shared->Prop}(I:Inv X pins σ H s)(hN:X.N.Nodup)(hi:X.N[i]?=some x)(hx:Loc X.env.scope x)(r:RelV v u)
  (h:∀s',Inv X pins (σ.set i (some v)) H s'->(∃a,Heap.SameBut a s.heap s'.heap/\(a=X.env.locals\/X.env.cells.lookup x=some a))->Q () s') (hf:X.fn x=true\/X.env.scope.names.lookup x=some .local:=by first |exact .inl rfl |exact .inr rfl |assumption):wpAny M A (storeName X.env x u) Q E s:=by
 obtain ⟨m,hn,hl⟩:=id I.loc;have hcls:(X.env.scope.kind==.class||(X.env.scope.kind==.module&&X.env.locals != X.env.globals))=false:=by rw[I.ok.kind];rfl
 have hiσ:i < σ.length:=by rw[I.len];exact (a9.mp hi).1
 have cne:=I.cne;have tracked:∀{a:Addr}{h':Heap},(∃o,s.heap.get? a=some o/\H a=none)->Heap.SameBut a s.heap h'->HOk X.prog X.w H h':=λ{a h'} ha hs b ob e=>by
  obtain ⟨_,_,hfree⟩:=ha;refine (I.hok b ob e).stay (λc w' hc q=>(hs.2 c ?_).trans q) (λ_ q=>q) λ_ _ q=>q;rintro rfl;rcases hc with rfl |hc
  ·rw[hfree]at e;cases e
  ·rw[hfree]at hc;cases hc
 rcases hx with hk |hk
 ·refine wpAny_storeName_local hk hn (λh' hn' hs=>?_) hcls;obtain ⟨oL,_,_,hoL,_⟩:=id hn;refine h _ ⟨I.ok,I.os,I.bare,⟨λb o e n hb hx=>?_,λb o e n hb hx=>?_,I.base.free,λb o e hx=>?_,I.base.tups,I.base.frzs,I.base.tbls⟩,⟨_,hn',λj y v' e1 e2 e3=>?_⟩,λy c e=>?_,I.free,I.freeC,λp hp=>?_,tracked ⟨oL,hoL,I.free⟩ hs,by simpa using I.len⟩ ⟨_,hs,.inl rfl⟩
  ·exact (hs.2 b (bv (bb (aw e) I.ok.above))).trans (I.base.keep b o e n hb hx)
  ·obtain ⟨sl,e1⟩:=I.base.slot b o e n hb hx;exact ⟨sl,(hs.2 b (bv (bb (aw e) I.ok.above))).trans e1⟩
  ·obtain ⟨o',e1⟩:=I.base.there b o e hx;exact ⟨o',(hs.2 b (bv (bb (aw e) I.ok.above))).trans e1⟩
  ·by_cases hj:j=i
   ·subst hj;rw[hi]at e1;cases e1;rw[List.getElem?_set_self hiσ]at e2;cases e2;exact ⟨u,r,.inl ⟨hk,by simp⟩⟩
   ·rw[List.getElem?_set_ne (Ne.symm hj)]at e2;obtain ⟨u',r',q⟩:=hl j y v' e1 e2 e3;refine ⟨u',r',?_⟩;rcases q with ⟨k,e⟩ |⟨k,c,e,z⟩
    ·refine .inl ⟨k,?_⟩;have:y≠x:=λe=>hj (u9 hN e1 (e ▸ hi));simp[this,e]
    ·exact .inr ⟨k,c,e,z.sameBut hs (cne y c e)⟩
  ·obtain ⟨w',z⟩:=I.cell y c e;exact ⟨w',z.sameBut hs (cne y c e)⟩
  ·obtain ⟨e,n,ne,nf,d⟩:=I.pin p hp;exact ⟨(hs.2 p.1 ne).trans e,n,ne,nf,d⟩
 ·have hfn:X.fn x=true:=by
   rcases hf with z |z
   ·exact z
   ·rw[z]at hk;cases hk
  obtain ⟨c,hc⟩:=I.ok.has x (.inl hk);obtain ⟨w',z⟩:=I.cell x c hc;refine wpAny_storeName_cell I.ok.kind hk hc z (λh' hc' hs=>?_);obtain ⟨oc,hoc,hocd⟩:=id z;refine h { s with heap:=h' } ⟨I.ok,I.os,I.bare,⟨λb o e n hb hx=>?_,λb o e n hb hx=>?_,I.base.free,λb o e hx=>?_,I.base.tups,I.base.frzs,I.base.tbls⟩,⟨m,hn.sameBut hs (Ne.symm (cne x c hc)),λj y v' e1 e2 e3=>?_⟩,λy c' e=>?_,I.free,I.freeC,λp hp=>?_,tracked ⟨oc,hoc,I.freeC x c hc⟩ hs,by simpa using I.len⟩ ⟨c,hs,.inr hc⟩
  ·exact (hs.2 b (bv (bb (aw e) (I.ok.cab x c hfn hc)))).trans (I.base.keep b o e n hb hx)
  ·obtain ⟨sl,e1⟩:=I.base.slot b o e n hb hx;exact ⟨sl,(hs.2 b (bv (bb (aw e) (I.ok.cab x c hfn hc)))).trans e1⟩
  ·obtain ⟨o',e1⟩:=I.base.there b o e hx;exact ⟨o',(hs.2 b (bv (bb (aw e) (I.ok.cab x c hfn hc)))).trans e1⟩
  ·by_cases hj:j=i
   ·subst hj;rw[hi]at e1;cases e1;rw[List.getElem?_set_self hiσ]at e2;cases e2;exact ⟨u,r,.inr ⟨.inl hk,c,hc,hc'⟩⟩
   ·rw[List.getElem?_set_ne (Ne.symm hj)]at e2;obtain ⟨u',r',q⟩:=hl j y v' e1 e2 e3;refine ⟨u',r',?_⟩;rcases q with q |⟨k,c',e,z'⟩
    ·exact .inl q
    ·refine .inr ⟨k,c',e,z'.sameBut hs ?_⟩;rintro rfl;exact hj (u9 hN e1 (I.ok.inj _ _ _ e hc ▸ hi))
  ·by_cases hcc:c'=c
   ·subst hcc;exact ⟨_,hc'⟩
   ·obtain ⟨w2,z2⟩:=I.cell y c' e;exact ⟨w2,z2.sameBut hs hcc⟩
  ·obtain ⟨e,n,ne,nf,d⟩:=I.pin p hp;refine ⟨(hs.2 p.1 ?_).trans e,n,ne,nf,d⟩;intro q;rw[q,hoc]at e;have q':oc=p.2:=cp e;exact d w' (by rw[<-q'];exact hocd)
theorem lq{M:Model}{A:Around}{E:Value->Shared->Prop}{i:Nat}{x:Str}{v:V}{u:Value}{Q:Unit->Shared->Prop}(I:Inv X pins σ H s)(hN:X.N.Nodup)(hi:X.N[i]?=some x)(hx:Loc X.env.scope x)(r:RelV v u)
  (h:∀s',Inv X pins (σ.set i (some v)) H s'->Q () s') (hf:X.fn x=true\/X.env.scope.names.lookup x=some .local:=by first |exact .inl rfl |exact .inr rfl |assumption):wpAny M A (storeName X.env x u) Q E s:=
 J8 I hN hi hx r (λs' I' _=>h s' I') hf
theorem Inv.call'{s':Shared}{ch:List Addr}(I:Inv X pins σ H s)(ho:s'.os=s.os)(u:Un (frs X.stack) ch H H' s.heap s'.heap)(hok:HOk X.prog X.w H' s'.heap)(hg:AllBare s'.gens)
  (hch:∀b∈ch,(b∈X.ex\/X.s₀.heap.objs.size<=b)/\b≠X.env.locals/\(∀x c,X.env.cells.lookup x=some c->c≠b)/\∀p∈X.pn++pins,p.1≠b):Inv X pins σ H' s':=by
 obtain ⟨h',g',d',t',o'⟩:=s';have e:o'=s.os:=ho;subst e;exact I.call (g':=g') (t':=t') (d':=d') u hok hg hch
end
abbrev XK:=Value->Option Addr->Hp->Prop
abbrev St:=List (Option V)
abbrev VK:=V->Hp->Prop
abbrev TE:=St->Hp->VK->Prop
abbrev TT:=St->Hp->(Bool->Hp->Prop)->Prop
abbrev TA:=St->Hp->(List V->Hp->Prop)->Prop
structure Ends where
 nx:St->Hp->Prop
 rt:VK
 bk:St->Hp->Prop:=λ_ _=>False
 ct:St->Hp->Prop:=λ_ _=>False
abbrev TS:=Ends->St->Hp->Prop
def EP(X:Cx)(pins:List (Addr×Obj))(σ:St)(Q:VK)(u:Value)(s':Shared):Prop:=∃v H',Inv X pins σ H' s'/\RelV v u/\Q v H'
def TP(X:Cx)(pins:List (Addr×Obj))(σ:St)(Q:Bool->Hp->Prop)(b:Bool)(s':Shared):Prop:=∃H',Inv X pins σ H' s'/\Q b H'
def AP(X:Cx)(pins:List (Addr×Obj))(σ:St)(Q:List V->Hp->Prop)(us:List Value)(s':Shared):Prop:=∃vs H',Inv X pins σ H' s'/\Vals vs us/\Q vs H'
def SP(X:Cx)(pins:List (Addr×Obj))(D:Ends)(f:Flow)(s':Shared):Prop:=
 match f with
 |.next=>∃σ' H',Inv X pins σ' H' s'/\D.nx σ' H'
 |.brk=>∃σ' H',Inv X pins σ' H' s'/\D.bk σ' H'
 |.cont=>∃σ' H',Inv X pins σ' H' s'/\D.ct σ' H'
 |.ret u=>∃v σ' H',Inv X pins σ' H' s'/\RelV v u/\D.rt v H'
def PE(X:Cx)(e:Expr)(t:TE):Prop:=
 ∀(pins:List (Addr×Obj))(s:Shared)(σ:St)(H:Hp)(Q:VK),Inv X pins σ H s->t σ H Q->wpAny (model X.prog X.w) X.A (eval e X.env) (EP X pins σ Q) X.xe s
def PT(X:Cx)(e:Expr)(t:TT):Prop:=
 ∀(pins:List (Addr×Obj))(s:Shared)(σ:St)(H:Hp)(Q:Bool->Hp->Prop),Inv X pins σ H s->t σ H Q->wpAny (model X.prog X.w) X.A (isTrue e X.env (eval e X.env)) (TP X pins σ Q) X.xe s
def PW(X:Cx)(e:Expr)(t:TT):Prop:=
 ∀(whole:Sem Value)(pins:List (Addr×Obj))(s:Shared)(σ:St)(H:Hp)(Q:Bool->Hp->Prop),Inv X pins σ H s->t σ H Q->wpAny (model X.prog X.w) X.A (isTrue e X.env whole) (TP X pins σ Q) X.xe s
theorem PW.pt{X:Cx}{e:Expr}{t:TT}(h:PW X e t):PT X e t:=h _
def PA(X:Cx)(es:List Expr)(t:TA):Prop:=
 ∀(pos:Pos)(pins:List (Addr×Obj))(s:Shared)(σ:St)(H:Hp)(Q:List V->Hp->Prop),Inv X pins σ H s->t σ H Q->wpAny (model X.prog X.w) X.A (spliced (backTo pos (starEach es X.env))) (AP X pins σ Q) X.xe s
def PS(X:Cx)(st:Stmt)(t:TS):Prop:=
 ∀(pins:List (Addr×Obj))(s:Shared)(σ:St)(H:Hp)(D:Ends),Inv X pins σ H s->t D σ H->wpAny (model X.prog X.w) X.A (exec st X.env) (SP X pins D) X.xe s
def PSs(X:Cx)(st:List Stmt)(t:TS):Prop:=
 ∀(pins:List (Addr×Obj))(s:Shared)(σ:St)(H:Hp)(D:Ends),Inv X pins σ H s->t D σ H->wpAny (model X.prog X.w) X.A (execs st X.env) (SP X pins D) X.xe s
theorem thn{α:Type}{t:Sem α}{Q Q':α->Shared->Prop}{M:Model}{A:Around}{E:Value->Shared->Prop}{s:Shared}(h:wpAny M A t Q E s)(hQ:∀a s,Q a s->Q' a s):wpAny M A t Q' E s:=b9 h hQ λ_ _ x=>x
section
variable {X:Cx}
theorem bin{a b:Expr}{ta tb:TE}(ha:PE X a ta)(hb:PE X b tb){pins:List (Addr×Obj)}{s:Shared}{σ:St}{H:Hp}{R:V->V->Hp->Prop}(I:Inv X pins σ H s)(h:ta σ H λx H1=>tb σ H1 λy H2=>R x y H2)
  {α:Type} {Q:α->Shared->Prop} {f:Value->Value->Sem α}
  (hf:∀v u s2 x y H2,Inv X pins σ H2 s2->RelV x v->RelV y u->R x y H2->wpAny (model X.prog X.w) X.A (f v u) Q X.xe s2):
  wpAny (model X.prog X.w) X.A (eval a X.env) (λv s₁=>wpAny (model X.prog X.w) X.A (eval b X.env) (λu s₂=>wpAny (model X.prog X.w) X.A (f v u) Q X.xe s₂) X.xe s₁) X.xe s:=by
 refine thn (ha pins s σ H _ I h) λv s1 ⟨x,H1,I1,r1,q1⟩=>?_;refine thn (hb pins s1 σ H1 _ I1 q1) λu s2 ⟨y,H2,I2,r2,q2⟩=>?_;exact hf v u s2 x y H2 I2 r1 r2 q2
def J9(i:Nat):TE:=λσ H Q=>∃v,σ[i]?=some (some v)/\Q v H
def tC(v:V):TE:=λ_ H Q=>Q v H
theorem Ka {i:Nat} {x:Str} {pos:Pos} (hN:X.N[i]?=some x) (hv:Vis X.env.scope x) (hd:(x==("__debug__":Str))=false:=by decide) (hcd:(x==("__classdict__":Str))=false:=by decide):PE X (.Name x pos) (J9 i):=by
 intro pins s σ H Q I h;obtain ⟨v,e,h⟩:=h;obtain ⟨m,hn,hl⟩:=I.loc;obtain ⟨u,r,l⟩:=hl i x v hN e hv;have fin:EP X pins σ Q u s:=⟨v,H,I,r,h⟩;rcases l with ⟨hk,hm⟩ |⟨hk,c,hc,hcell⟩
 ·exact wpAny_Name (wpAny_loadName_local I.ok.kind hk hn hm fin) hd
 ·rcases hk with hk |hk
  ·exact wpAny_Name (wpAny_loadName_cell I.ok.kind hk hc hcell fin) hd
  ·exact wpAny_Name (wpAny_loadName_free I.ok.kind hk hc hcell fin hcd) hd
theorem Kc{i j pos}:PE X (.Constant (.int i) j pos) (tC (.int i)):=λ_ _ _ H _ I h=>wpAny_Constant_int ⟨.int i,H,I.tok _,⟨_,rfl⟩,h⟩
theorem Kd{b j pos}:PE X (.Constant (.bool b) j pos) (tC (.bl b)):=λ_ _ _ H _ I h=>Constant_bool ⟨.bl b,H,I,rfl,h⟩
theorem Ke{j pos}:PE X (.Constant .none j pos) (tC .non):=λ_ _ _ H _ I h=>Constant_none ⟨.non,H,I,rfl,h⟩
theorem Kf{x j pos}:PE X (.Constant (.str x) j pos) (tC (.str x)):=λ_ _ _ H _ I h=>Calls.Constant_str ⟨.str x,H,I.tok _,⟨_,rfl⟩,h⟩
def Gl(X:Cx)(x:Str):Prop:=X.env.kindOf x=some .globalImplicit
theorem pY{E:Value->Shared->Prop}{pins:List (Addr×Obj)}{s:Shared}{σ:St}{H:Hp}{x:Str}{u:Value}{pos:Pos}{Q:Value->Shared->Prop}(I:Inv X pins σ H s)(hg:Gl X x)(hm:X.mg x=some u)(h:Q u s)
  (hd:(x==("__debug__":Str))=false:=by decide):wpAny (model X.prog X.w) X.A (eval (.Name x pos) X.env) Q E s:=
 Calls.Name_function_global I.ok.kind hg (Calls.loadGlobal_global (by rw[I.ok.glob];exact I.mod.glob.keeps I.bk) hm h) hd
theorem fQ{E:Value->Shared->Prop}{pins:List (Addr×Obj)}{s:Shared}{σ:St}{H:Hp}{x:Str}{u:Value}{pos:Pos}{Q:Value->Shared->Prop}(I:Inv X pins σ H s)(hg:Gl X x)(hm:X.mg x=none)(hv:bootBuiltins x=some u)(h:Q u s)
  (hn:x≠"__name__":=by decide) (hd:(x==("__debug__":Str))=false:=by decide):wpAny (model X.prog X.w) X.A (eval (.Name x pos) X.env) Q E s:=by
 obtain ⟨mb,h1,h2⟩:=I.mod.blt;exact Calls.Name_function_global I.ok.kind hg (Calls.loadGlobal_builtin (by rw[I.ok.glob];exact I.mod.glob.keeps I.bk) hm (by rw[I.ok.blt];exact h1.keeps I.bk) ((h2 x hn).trans hv) h) hd
theorem Kg {x:Str} {v:V} {u:Value} {pos:Pos} (hg:Gl X x) (hm:X.mg x=none) (hv:bootBuiltins x=some u) (r:RelV v u) (hn:x≠"__name__":=by decide) (hd:(x==("__debug__":Str))=false:=by decide):PE X (.Name x pos) (tC v):=
 λ_ _ _ H _ I h=>fQ I hg hm hv ⟨v,H,I,r,h⟩ hn hd
variable {a b:Expr} {ta tb:TE} {pos:Pos}
variable {tA tB':TT} {rest:List Expr}
def Kh(t u:TT):TT:=λσ H Q=>t σ H λc H1=>if c=true then u σ H1 Q else Q false H1
def tOr(t u:TT):TT:=λσ H Q=>t σ H λc H1=>if c=true then Q true H1 else u σ H1 Q
def Kl(t:TT):TT:=λσ H Q=>t σ H λc H1=>Q (!c) H1
theorem Km(ha:PT X a tA):PW X (.BoolOp .And [a] pos) tA:=by
 intro wh pins s σ H Q I h;refine isTrue_and (thn (ha pins s σ H Q I h) λc s1 e=>?_);cases c with
 |true=>exact isTrue_and_nil e
 |false=>exact e
theorem Ko(ha:PT X a tA):PW X (.BoolOp .Or [a] pos) tA:=by
 intro wh pins s σ H Q I h;refine isTrue_or (thn (ha pins s σ H Q I h) λc s1 e=>?_);cases c with
 |false=>exact isTrue_or_nil e
 |true=>exact e
theorem Kp(ha:PT X a tA)(hb:PW X (.BoolOp .And (b::rest) pos) tB'):PW X (.BoolOp .And (a::b::rest) pos) (Kh tA tB'):=by
 intro wh pins s σ H Q I h;refine isTrue_and (thn (ha pins s σ H _ I h) λc s1 ⟨H1,I1,q1⟩=>?_);cases c with
 |true=>exact hb wh pins s1 σ H1 Q I1 q1
 |false=>exact ⟨H1,I1,q1⟩
theorem Kq(ha:PT X a tA)(hb:PW X (.BoolOp .Or (b::rest) pos) tB'):PW X (.BoolOp .Or (a::b::rest) pos) (tOr tA tB'):=by
 intro wh pins s σ H Q I h;refine isTrue_or (thn (ha pins s σ H _ I h) λc s1 ⟨H1,I1,q1⟩=>?_);cases c with
 |true=>exact ⟨H1,I1,q1⟩
 |false=>exact hb wh pins s1 σ H1 Q I1 q1
theorem Kr(ha:PT X a tA):PT X (.UnaryOp .Not a pos) (Kl tA):=by intro pins s σ H Q I h;exact isTrue_not (ha pins s σ H (λc H1=>Q (!c) H1) I h)
def Ks(ta tb:TE):TE:=λσ H Q=>ta σ H λx H1=>∃c,x=.bl c/\if c=true then tb σ H1 Q else Q (.bl false) H1
def Ku(ta tb:TE):TE:=λσ H Q=>ta σ H λx H1=>∃c,x=.bl c/\if c=true then Q (.bl true) H1 else tb σ H1 Q
theorem Kv{op}{t:TE}(h:PE X a t):PE X (.BoolOp op [a] pos) t:=λpins s σ H Q I hw=>BoolOp_one (h pins s σ H Q I hw)
theorem Kw(ha:PE X a ta)(hb:PE X (.BoolOp .And (b::rest) pos) tb):PE X (.BoolOp .And (a::b::rest) pos) (Ks ta tb):=by
 intro pins s σ H Q I h;refine BoolOp_and (thn (ha pins s σ H _ I h) λv s1 ⟨x,H1,I1,r1,q1⟩=>?_);obtain ⟨c,rfl,q1⟩:=q1;cases r1;refine d5 ?_;cases c with
 |true=>exact hb pins s1 σ H1 Q I1 q1
 |false=>exact ⟨.bl false,H1,I1,rfl,q1⟩
theorem Ky(ha:PE X a ta)(hb:PE X (.BoolOp .Or (b::rest) pos) tb):PE X (.BoolOp .Or (a::b::rest) pos) (Ku ta tb):=by
 intro pins s σ H Q I h;refine BoolOp_or (thn (ha pins s σ H _ I h) λv s1 ⟨x,H1,I1,r1,q1⟩=>?_);obtain ⟨c,rfl,q1⟩:=q1;cases r1;refine d5 ?_;cases c with
 |false=>exact hb pins s1 σ H1 Q I1 q1
 |true=>exact ⟨.bl true,H1,I1,rfl,q1⟩
end
def SqL(K:PF)(H:Hp)(a:Addr)(xs:List V):Prop:=
 Rd H a (.lst xs)\/
  ∃(o:Obj) (its:Array Value) (n:Nat),K.lookup a=some o/\o.cls=.type "list"/\o.dict=none/\o.data=.seq its n/\its.size<=sizeLine/\Vals xs its.toList
def SqT(K:PF)(H:Hp)(a:Addr)(xs:List V):Prop:=
 Rd H a (.tup xs)\/
  ∃(o:Obj) (its:Array Value) (n:Nat),K.lookup a=some o/\o.cls=.type "tuple"/\o.data=.seq its n/\its.size<=sizeLine/\Vals xs its.toList
noncomputable def Kz:Value->Option V
 |.none=>some .non
 |.bool b=>some (.bl b)
 |.int i _=>some (.int i)
 |.str x _=>some (.str x)
 |.bytes b _=>some (.byt b)
 |.float b _=>some (.flt b)
 |.ref a=>some (.ref a)
 |.type n=>some (.ty n)
 |_=>none
theorem RelV.abs{x:V}{u:Value}(r:RelV x u):Kz u=some x:=by
 cases x with
 |non=>cases r;rfl
 |bl _=>cases r;rfl
 |int _=>obtain ⟨t,rfl⟩:=r;rfl
 |str _=>obtain ⟨t,rfl⟩:=r;rfl
 |byt _=>obtain ⟨t,rfl⟩:=r;rfl
 |flt _=>obtain ⟨t,rfl⟩:=r;rfl
 |ref _=>cases r;rfl
 |ty _=>cases r;rfl
theorem RelV.inj{x y:V}{u:Value}(r:RelV x u)(q:RelV y u):x=y:=cp (r.abs.symm.trans q.abs)
theorem Vals.inj:∀{xs ys:List V}{us:List Value},Vals xs us->Vals ys us->xs=ys
 |_,_,_,.nil,.nil=>rfl
 |_,_,_,.cons r t,.cons r' t'=>by rw[r.inj r',Vals.inj t t']
section
variable {X:Cx} {pins:List (Addr×Obj)} {σ:St} {H:Hp} {s:Shared} {a:Addr} {xs ys:List V}
theorem SqL.of{K:PF}(h:H a=some (.lst xs)):SqL K H a xs:=.inl (.inl h)
theorem SqT.of{K:PF}(h:H a=some (.tup xs)):SqT K H a xs:=.inl (.inl h)
theorem Inv.list(I:Inv X pins σ H s)(h:SqL X.K H a xs):∃its:List Value,Vals xs its/\PlainL s.heap a its.toArray/\xs.length<=sizeLine:=by
 rcases h with h |⟨o,its,n,hk,hc,hd,hs,hz,r⟩
 ·obtain ⟨z,its,n,r,e⟩:=h.ok I.hok;exact ⟨its,r,⟨_,n,e,rfl,rfl,rfl⟩,z⟩
 ·refine ⟨its.toList,r,⟨o,n,I.kIn a o hk,hc,hd,by simpa using hs⟩,?_⟩;have e:=r.length;simp only[b6]at e;omega
theorem Inv.tuple(I:Inv X pins σ H s)(h:SqT X.K H a xs):∃its:List Value,Vals xs its/\IsTup s.heap a its.toArray/\xs.length<=sizeLine:=by
 rcases h with h |⟨o,its,n,hk,hc,hs,hz,r⟩
 ·obtain ⟨z,its,r,p⟩:=h.ok I.hok;exact ⟨its,r,p,z⟩
 ·refine ⟨its.toList,r,⟨o,I.kIn a o hk,hc,n,by simpa using hs⟩,?_⟩;have e:=r.length;simp only[b6]at e;omega
theorem Inv.list_inj(I:Inv X pins σ H s)(h:SqL X.K H a xs)(h':SqL X.K H a ys):xs=ys:=by
 obtain ⟨its,r,⟨o,n,e,_,_,d⟩,_⟩:=I.list h;obtain ⟨its',r',⟨o',n',e',_,_,d'⟩,_⟩:=I.list h';rw[e]at e';cases e';rw[d]at d';injection d' with d1 _;have:its=its':=by simpa using c6 Array.toList d1
 subst this;exact r.inj r'
theorem Inv.tuple_inj(I:Inv X pins σ H s)(h:SqT X.K H a xs)(h':SqT X.K H a ys):xs=ys:=by
 obtain ⟨its,r,⟨o,e,_,n,d⟩,_⟩:=I.tuple h;obtain ⟨its',r',⟨o',e',_,n',d'⟩,_⟩:=I.tuple h';rw[e]at e';cases e';rw[d]at d';injection d' with d1 _;have:its=its':=by simpa using c6 Array.toList d1
 subst this;exact r.inj r'
end
abbrev Cx.wish(X:Cx)(E:Value->Shared->Prop):Cx:={ X with xe:=E }
abbrev Cx.nox(X:Cx):Cx:=X.wish λ_ _=>False
theorem Cx.Ok.wish{X:Cx}(ok:X.Ok)(E:Value->Shared->Prop):(X.wish E).Ok:=
 ⟨ok.mod,ok.kind,ok.glob,ok.blt,ok.above,ok.inj,ok.has,ok.cab,ok.hd,ok.frames,ok.stk,ok.exf,ok.bs,ok.bsz,ok.noex,ok.exfs,ok.funs,ok.frf⟩
theorem Cx.Ok.unwish{X:Cx}{E:Value->Shared->Prop}(ok:(X.wish E).Ok):X.Ok:=
 ⟨ok.mod,ok.kind,ok.glob,ok.blt,ok.above,ok.inj,ok.has,ok.cab,ok.hd,ok.frames,ok.stk,ok.exf,ok.bs,ok.bsz,ok.noex,ok.exfs,ok.funs,ok.frf⟩
section
variable {X:Cx} {pins:List (Addr×Obj)} {σ:St} {H:Hp} {s:Shared} {E:Value->Shared->Prop}
theorem Inv.wish(I:Inv X pins σ H s)(E:Value->Shared->Prop):Inv (X.wish E) pins σ H s:=⟨I.ok.wish E,I.os,I.bare,I.base,I.loc,I.cell,I.free,I.freeC,I.pin,I.hok,I.len⟩
theorem Inv.unwish(I:Inv (X.wish E) pins σ H s):Inv X pins σ H s:=⟨I.ok.unwish,I.os,I.bare,I.base,I.loc,I.cell,I.free,I.freeC,I.pin,I.hok,I.len⟩
theorem SP.unwish{D:Ends}{f:Flow}{s':Shared}(h:SP (X.wish E) pins D f s'):SP X pins D f s':=by
 cases f with
 |next=>obtain ⟨σ',H',I,q⟩:=h;exact ⟨σ',H',I.unwish,q⟩
 |brk=>obtain ⟨σ',H',I,q⟩:=h;exact ⟨σ',H',I.unwish,q⟩
 |cont=>obtain ⟨σ',H',I,q⟩:=h;exact ⟨σ',H',I.unwish,q⟩
 |ret u=>obtain ⟨v,σ',H',I,r,q⟩:=h;exact ⟨v,σ',H',I.unwish,r,q⟩
theorem PSs.nox{st:List Stmt}{t:TS}(h:PSs X.nox st t):PSs X st t:=λpins s σ H D I hw=>
 b9 (h pins s σ H D (I.wish _) hw) (λ_ _ q=>q.unwish) λ_ _ z=>False.elim z
end
section
variable {X:Cx} {st:Stmt} {rest:List Stmt} {t u:TS} {e:Expr} {te:TE} {pos:Pos}
def vd:TS:=λD σ H=>D.nx σ H
def KC(t u:TS):TS:=λD σ H=>t { D with nx:=u D } σ H
theorem KD:PSs X [] vd:=λ_ _ σ H _ I h=>wpAny_execs_nil ⟨σ,H,I,h⟩
theorem KH(h1:PS X st t)(h2:PSs X rest u):PSs X (st::rest) (KC t u):=by
 intro pins s σ H D I h;refine wpAny_execs_cons (thn (h1 pins s σ H { D with nx:=u D } I h) λf s1 q=>?_);cases f with
 |next=>
  obtain ⟨σ',H',I',q⟩:=q;exact h2 pins s1 σ' H' D I' q
 |ret v=>exact q
 |brk=>exact q
 |cont=>exact q
def KJ:TS:=λD σ H=>D.bk σ H
def KN:TS:=λD σ H=>D.ct σ H
theorem KQ:PS X (.Pass pos) vd:=λ_ _ σ H _ I h=>wpAny_Pass ⟨σ,H,I,h⟩
theorem KR:PS X (.Break pos) KJ:=λ_ _ σ H _ I h=>wpAny_Break ⟨σ,H,I,h⟩
theorem KY:PS X (.Continue pos) KN:=λ_ _ σ H _ I h=>wpAny_Continue ⟨σ,H,I,h⟩
theorem Inv.quiet{pins:List (Addr×Obj)}{σ:St}{H:Hp}{s:Shared}(I:Inv X pins σ H s):interactive X.env=false:=by simp[interactive,I.ok.kind]
def KZ(te:TE):TS:=λD σ H=>te σ H λ_ H1=>D.nx σ H1
theorem K1(he:PE X e te)(hs:swapsWith e none pos.line X.env=pure false:=by rfl):PS X (.Expr e pos) (KZ te):=by intro pins s σ H D I h;exact wpAny_Expr_any (thn (he pins s σ H _ I h) λv s1 ⟨x,H1,I1,r1,q1⟩=>⟨σ,H1,I1,q1⟩) I.quiet hs
def K3(te:TE):TS:=λD σ H=>te σ H D.rt
theorem K4(he:PE X e te):PS X (.Return (some e) pos) (K3 te):=by intro pins s σ H D I h;exact wpAny_Return_some (thn (he pins s σ H _ I h) λv s1 ⟨x,H1,I1,r1,q1⟩=>⟨x,σ,H1,I1,r1,q1⟩)
def K5:TS:=λD _ H=>D.rt .non H
theorem K6:PS X (.Return none pos) K5:=λ_ _ σ H _ I h=>wpAny_Return_none ⟨.non,σ,H,I,rfl,h⟩
def K7(c:TT)(t u:TS):TS:=λD σ H=>c σ H λb H1=>if b=true then t D σ H1 else u D σ H1
theorem K8{c:Expr}{a b:List Stmt}{tc:TT}(hc:PT X c tc)(ha:PSs X a t)(hb:PSs X b u):PS X (.If c a b pos) (K7 tc t u):=by
 intro pins s σ H D I h;refine wpAny_If (thn (hc pins s σ H _ I h) λd s1 ⟨H1,I1,q1⟩=>?_);cases d with
 |true=>exact ha pins s1 σ H1 D I1 q1
 |false=>exact hb pins s1 σ H1 D I1 q1
def K9:TS:=λ_ _ _=>False
theorem La:PS X st K9:=λ_ _ _ _ _ _ h=>h.elim
end
abbrev TG:=V->St->Hp->(St->Hp->Prop)->Prop
abbrev TGs:=List V->St->Hp->(St->Hp->Prop)->Prop
def PG(X:Cx)(target:Expr)(t:TG):Prop:=
 ∀(pins:List (Addr×Obj))(s:Shared)(σ:St)(H:Hp)(v:V)(u:Value)(Q:St->Hp->Prop),Inv X pins σ H s->RelV v u->t v σ H Q->
  wpAny (model X.prog X.w) X.A (assign target X.env u) (λ_ s'=>∃σ' H',Inv X pins σ' H' s'/\Q σ' H') X.xe s
def PGs(X:Cx)(ts:List Expr)(t:TGs):Prop:=
 ∀(pins:List (Addr×Obj))(s:Shared)(σ:St)(H:Hp)(vs:List V)(us:List Value)(Q:St->Hp->Prop),Inv X pins σ H s->Vals vs us->t vs σ H Q->
  wpAny (model X.prog X.w) X.A (assignInOrder ((assignEach ts X.env).map (·.2)) us) (λ_ s'=>∃σ' H',Inv X pins σ' H' s'/\Q σ' H') X.xe s
abbrev pZ:=V->V->V->Hp->(Hp->Prop)->Prop
def p6(X:Cx)(t:pZ):Prop:=
 ∀(pins:List (Addr×Obj))(s:Shared)(σ:St)(H:Hp)(o i v:V)(ov iv u:Value)(Q:Hp->Prop),Inv X pins σ H s->RelV o ov->RelV i iv->RelV v u->t o i v H Q->
  wpAny (model X.prog X.w) X.A (setItem ov iv u) (λ_ s'=>∃H',Inv X pins σ H' s'/\Q H') X.xe s
abbrev TIp:=V->V->Hp->VK->Prop
def PIp(X:Cx)(op:Operator)(t:TIp):Prop:=
 ∀(pins:List (Addr×Obj))(s:Shared)(σ:St)(H:Hp)(x y:V)(v u:Value)(Q:VK),Inv X pins σ H s->RelV x v->RelV y u->t x y H Q->
  wpAny (model X.prog X.w) X.A (inplaceOp op v u) (EP X pins σ Q) X.xe s
section
variable {X:Cx} {pos:Pos}
def lr(i:Nat):TG:=λv σ H Q=>Q (σ.set i (some v)) H
theorem p7{i:Nat}{x:Str}(hN:X.N.Nodup)(hi:X.N[i]?=some x)(hx:Loc X.env.scope x)(hf:X.fn x=true\/X.env.scope.names.lookup x=some .local:=by first |exact .inl rfl |exact .inr rfl |assumption):PG X (.Name x pos) (lr i):=by intro pins s σ H v u Q I r h;exact wpAny_assign_Name (lq I hN hi hx r (λs' I'=>⟨_,H,I',h⟩) hf)
def Lb:TGs:=λvs σ H Q=>vs=[]/\Q σ H
def Ld(t:TG)(u:TGs):TGs:=λvs σ H Q=>∃v r,vs=v::r/\t v σ H λσ' H'=>u r σ' H' Q
theorem vf:PGs X [] Lb:=by intro pins s σ H vs us Q I r h;obtain ⟨e,h⟩:=h;subst e;cases r;exact assignInOrder_nil ⟨σ,H,I,h⟩
theorem p8{e:Expr}{es:List Expr}{t:TG}{u:TGs}(h1:PG X e t)(h2:PGs X es u)
  (hs:(assignEach (e::es) X.env).map (·.2)=assign e X.env::(assignEach es X.env).map (·.2):=by rfl):PGs X (e::es) (Ld t u):=by
 intro pins s σ H vs us Q I r h;obtain ⟨v,vr,e1,h⟩:=h;subst e1;cases r with
 |cons r rr=>
  rw[hs];refine assignInOrder_cons (thn (h1 pins s σ H _ _ _ I r h) λ_ s1 ⟨σ1,H1,I1,q1⟩=>?_);exact h2 pins s1 σ1 H1 _ _ Q I1 rr q1
def Lg(K:PF)(n:Nat)(t:TGs):TG:=λv σ H Q=>∃a xs,v=.ref a/\SqT K H a xs/\xs.length=n/\t xs σ H Q
theorem Lh{es:List Expr}{k:Nat}{t:TGs}{n:Nat}(hc:X.calm=true)(h:PGs X es t)
  (hn:(assignEach es X.env).length=n:=by rfl) (hst:(assignEach es X.env).findIdx? (·.1)=none:=by rfl):PG X (.Tuple es k pos) (Lg X.K n t):=by
 intro pins s σ H v u Q I r hw;obtain ⟨a,xs,e1,hq,hl,hw⟩:=hw;subst e1;cases r;obtain ⟨its,rv,ht,hz⟩:=I.tuple hq;refine assign_Tuple_tuple (I.ok.hd hc) ht (by simp[hn,<-hl,rv.length]) hst λh' hx=>?_;have I1:Inv X pins σ H { s with heap:=h' }:=I.kept (t':=s.toks) λb o e=>hx b o (bv (aw e)) e;exact h pins _ σ H xs _ Q I1 (by simpa using rv) hw
def Li(to ti:TE)(t:pZ):TG:=λv σ H Q=>to σ H λo H1=>ti σ H1 λi H2=>t o i v H2 λH3=>Q σ H3
theorem Lj{o i:Expr}{to ti:TE}{t:pZ}(ho:PE X o to)(hi:PE X i ti)(hs:p6 X t)
  (ha:∀v,assign (.Subscript o i pos) X.env v=(do
   let ov <-holding [v] (eval o X.env)
   let iv <-holding [v,ov] (eval i X.env)
   standAt pos
   holding [v,ov,iv] (setItem ov iv v)
   release [v,ov,iv] []):=by intro _;rfl):PG X (.Subscript o i pos) (Li to ti t):=by
 intro pins s σ H v u Q I r h;rw[ha];refine ae (cf (thn (ho pins s σ H _ I h) λov s1 ⟨x,H1,I1,r1,q1⟩=>?_));refine ae (cf (thn (hi pins s1 σ H1 _ I1 q1) λiv s2 ⟨y,H2,I2,r2,q2⟩=>?_));refine ae (fy (ae (cf (thn (hs pins s2 σ H2 x y v ov iv u _ I2 r1 r2 r q2) λ_ s3 ⟨H3,I3,q3⟩=>?_))));exact wpAny_release ⟨σ,H3,I3,q3⟩
def lu(te:TE)(g:TG):TS:=λD σ H=>te σ H λx H1=>g x σ H1 D.nx
theorem qb{tg e:Expr}{te:TE}{g:TG}(he:PE X e te)(hg:PG X tg g)(hs:swapsWithSole [tg] e pos.line X.env=pure false:=by rfl)(hw:swappedStores [tg] e X.env=pure none:=by rfl)
  (h1:(assignEach [tg] X.env).map (·.2)=[assign tg X.env]:=by rfl):PS X (.Assign [tg] e pos) (lu te g):=by
 intro pins s σ H D I h;refine wpAny_Assign_stores (thn (he pins s σ H _ I h) λv s1 ⟨x,H1,I1,r1,q1⟩=>?_) hs hw;rw[h1];exact thn (hg pins s1 σ H1 x v _ I1 r1 q1) λ_ s2 q=>q
theorem vg{i:Nat}{x:Str}{e:Expr}{te:TE}{pos':Pos}(hN:X.N.Nodup)(hi:X.N[i]?=some x)(hx:Loc X.env.scope x)(he:PE X e te)(hs:swapsWith e (some (.Name x pos')) pos.line X.env=pure false:=by rfl)(hf:X.fn x=true\/X.env.scope.names.lookup x=some .local:=by first |exact .inl rfl |exact .inr rfl |assumption):
  PS X (.Assign [.Name x pos'] e pos) (lu te (lr i)):=by
 intro pins s σ H D I h;refine wpAny_Assign_Name (thn (he pins s σ H _ I h) λv s1 ⟨y,H1,I1,r1,q1⟩=>?_) hs;exact lq I1 hN hi hx r1 (λs2 I2=>⟨_,H1,I2,q1⟩) hf
def Lk(i:Nat)(te:TE)(ti:TIp):TS:=λD σ H=>∃x,σ[i]?=some (some x)/\te σ H λy H1=>ti x y H1 λz H2=>D.nx (σ.set i (some z)) H2
theorem Ln{i:Nat}{x:Str}{e:Expr}{te:TE}{op:Operator}{ti:TIp}{pos':Pos}(hN:X.N.Nodup)(hi:X.N[i]?=some x)(hx:Loc X.env.scope x)(he:PE X e te)(ho:PIp X op ti)(hf:X.fn x=true\/X.env.scope.names.lookup x=some .local:=by first |exact .inl rfl |exact .inr rfl |assumption):
  PS X (.AugAssign (.Name x pos') op e pos) (Lk i te ti):=by
 intro pins s σ H D I h;obtain ⟨v,e1,h⟩:=h;obtain ⟨m,hn,hl⟩:=I.loc;have vis:Vis X.env.scope x:=by rcases hx with k |k;exact .inl k;exact .inr (.inl k)
 obtain ⟨u,r,l⟩:=hl i x v hi e1 vis;refine wpAny_AugAssign_Name ?_;have go:wpAny (model X.prog X.w) X.A (eval e X.env) (λw s₂=>wpAny (model X.prog X.w) X.A (inplaceOp op u w) (λr s₃=>wpAny (model X.prog X.w) X.A (storeName X.env x r) (λ_=>SP X pins D .next) X.xe s₃) X.xe s₂) X.xe s:=by refine thn (he pins s σ H _ I h) λw s1 ⟨y,H1,I1,r1,q1⟩=>?_;refine thn (ho pins s1 σ H1 v y u w _ I1 r r1 q1) λz s2 ⟨zv,H2,I2,r2,q2⟩=>?_;exact lq I2 hN hi hx r2 (λs3 I3=>⟨_,H2,I3,q2⟩) hf
 rcases l with ⟨hk,hm⟩ |⟨hk,c,hc,hcell⟩
 ·exact wpAny_loadName_local I.ok.kind hk hn hm go
 ·rcases hk with hk |hk
  ·exact wpAny_loadName_cell I.ok.kind hk hc hcell go
  ·rcases hx with k |k
   ·have:X.env.scope.names.lookup x=some .free:=hk;rw[k]at this;cases this
   ·have:X.env.scope.names.lookup x=some .free:=hk;rw[k]at this;cases this
end
structure It where
 go:Nat->Hp->Prop
 yld:Nat->Hp->V->Hp->Prop
 stop:Nat->Hp->Prop
def c7(X:Cx)(pins:List (Addr×Obj))(H:Hp)(b:Addr):Prop:=
 H b=none/\b≠X.env.locals/\b∉X.fs/\(b∈X.ex\/X.s₀.heap.objs.size<=b)/\(∀x c,X.env.cells.lookup x=some c->c≠b)/\∀p∈X.pn++pins,p.1≠b
theorem Inv.fpOk{X:Cx}{pins:List (Addr×Obj)}{σ:St}{H H':Hp}{s:Shared}{b:Addr}(I:Inv X pins σ H s)(hb:s.heap.objs.size<=b)(hn:H' b=none):c7 X pins H' b:=by
 refine ⟨hn,dL (bb I.lt hb),I.nofs hb,.inr (ca I.sz hb),λx c e z=>?_,λp hp z=>?_⟩
 ·obtain ⟨v,q⟩:=I.cell x c e;exact absurd (bb q.lt (by rw[z];exact hb)) (cx _)
 ·exact absurd (bb (aw (I.pin p hp).1) (by rw[z];exact hb)) (cx _)
structure Turn(P:Program)(w:World)(K:PF)(tg:Expr)(J:It)(fp:List Addr)(it:Addr)(tn:Nat->Heap->Prop):Prop where
 mem:it∈fp
 obj:∀i h,tn i h->∀b∈fp,∃o,h.get? b=some o/\∀v,o.data≠.cell v
 keep:∀i h h',tn i h->(∀b∈fp,∀o,h.get? b=some o->h'.get? b=some o)->tn i h'
 item:∀(X:Cx),X.prog=P->X.w=w->X.K=K->X.calm=true->∀(i:Nat)(pins:List (Addr×Obj))(s:Shared)(σ:St)(H:Hp)(E:Value->Shared->Prop),Inv X pins σ H s->(∀b∈fp,c7 X pins H b)->tn i s.heap->J.go i H->
  wpAny (model P w) X.A (pyNext (.ref it)) (λr s1=>∃u,r=some u/\
   wpAny (model P w) X.A (letOwnedTupleGo tg (.ref it) u) (λ_ s2=>∃x H',Inv X pins σ H' s2/\RelV x u/\J.yld i H x H'/\tn (i+1) s2.heap/\∀b∈fp,H' b=none) E s1) E s
 done:∀(X:Cx),X.prog=P->X.w=w->X.K=K->X.calm=true->∀(i:Nat)(pins:List (Addr×Obj))(s:Shared)(σ:St)(H:Hp)(E:Value->Shared->Prop),Inv X pins σ H s->(∀b∈fp,c7 X pins H b)->tn i s.heap->J.stop i H->
  wpAny (model P w) X.A (pyNext (.ref it)) (λr s1=>r=none/\Inv X pins σ H s1) E s
 self:∀(A:Around)(i:Nat)(s:Shared)(Q:Value->Shared->Prop)(E:Value->Shared->Prop),tn i s.heap->Q (.ref it) s->wpAny (model P w) A (pyIter (.ref it)) Q E s
abbrev TI:=St->Hp->(It->Hp->Prop)->Prop
def PIE(X:Cx)(pins:List (Addr×Obj))(σ:St)(tg:Expr)(R:It->Hp->Prop)(itv:Value)(s2:Shared):Prop:=
 ∃(it:Addr)(fp:List Addr)(tn:Nat->Heap->Prop)(J:It)(H':Hp),itv=.ref it/\Inv X pins σ H' s2/\Turn X.prog X.w X.K tg J fp it tn/\tn 0 s2.heap/\(∀b∈fp,c7 X pins H' b)/\R J H'
def PI(X:Cx)(tg iter:Expr)(wi:TI):Prop:=
 ∀(pins:List (Addr×Obj))(s:Shared)(σ:St)(H:Hp)(R:It->Hp->Prop),Inv X pins σ H s->wi σ H R->
  wpAny (model X.prog X.w) X.A (eval iter X.env) (λv s1=>wpAny (model X.prog X.w) X.A (pyIter v) (PIE X pins σ tg R) X.xe s1) X.xe s
theorem lw{M:Model}{A:Around}{E:Value->Shared->Prop}{s:Shared}{tg:Expr}{it:Addr}{u:Value}{o:Obj}{n:String}{vs:Array Value}{Q:Unit->Shared->Prop}(ho:s.heap.get? it=some o)(hc:o.cls=.type n)(hd:o.data=.fields vs)
  (hn:["enumerate","zip","dict_itemiterator","dict_reverseitemiterator","odict_iterator","itertools.zip_longest","itertools.pairwise"].contains n=false) (hQ:Q () s):wpAny M A (letOwnedTupleGo tg (.ref it) u) Q E s:=by
 unfold letOwnedTupleGo;cases tg <;> first
  |exact am hQ
  | (cases u <;> first
    |exact am hQ
    | (refine ae (wpAny_load ho ?_)
       rw[hc,hd];show wpAny M A (if (["enumerate","zip","dict_itemiterator","dict_reverseitemiterator","odict_iterator","itertools.zip_longest","itertools.pairwise"].contains n&&vs[0]?==some (rawInt _))=true then _ else _) Q E s;rw[if_neg (by intro h;rw[hn,Bool.false_and]at h;cases h)];exact am hQ))
def Itl(K:PF)(a:Addr):It:=
 ⟨λi H=>∃xs x,SqL K H a xs/\xs[i]?=some x,λi H x H'=>H'=H/\∀xs,SqL K H a xs->xs[i]?=some x,λi H=>∃xs,SqL K H a xs/\xs.length<=i⟩
def Itt(K:PF)(a:Addr):It:=
 ⟨λi H=>∃xs x,SqT K H a xs/\xs[i]?=some x,λi H x H'=>H'=H/\∀xs,SqT K H a xs->xs[i]?=some x,λi H=>∃xs,SqT K H a xs/\xs.length<=i⟩
def Itr(lo:Int)(n:Nat):It:=⟨λi _=>i < n,λi H x H'=>H'=H/\x=.int (lo+i),λi _=>n<=i⟩
theorem vh{P:Program}{w:World}{K:PF}{tg:Expr}(a it:Addr):Turn P w K tg (Itl K a) [it] it (λi h=>h.IsListIter it a i) where
 mem:=by simp
 obj:=λi h st b hb=>by
  have e:b=it:=by simpa using hb
  subst e;obtain ⟨o,e,c,d⟩:=st;exact ⟨o,e,λv z=>by rw[d]at z;cases z⟩
 keep:=λi h h' st k=>st.at λo e=>k it (by simp) o e
 item:=by intro X hP hw hK hc i pins s σ H E I hf st hg;subst hP hw hK;obtain ⟨xs,x,hq,hx⟩:=hg;obtain ⟨its,rv,p,hz⟩:=I.list hq;obtain ⟨u,hu,ru⟩:=rv.get hx;obtain ⟨f0,f1,f2,f3,f4,f5⟩:=hf it (by simp);refine wpAny_pyNext_list_item st p.isList (x:=u) (by simpa using hu) λh' st' sb=>?_;have I1:Inv X pins σ H { s with heap:=h' }:=I.turned (t':=s.toks) (λb o hb e=>(sb.2 b hb).trans e) f0 f1 f3 f4 f5;obtain ⟨o,e,c,d⟩:=id st';exact ⟨u,rfl,lw (s:={ s with heap:=h' }) e c d (by decide) ⟨x,H,I1,ru,⟨rfl,λys hy=>by rw[I.list_inj hy hq];exact hx⟩,st',λb hb=>(hf b hb).1⟩⟩
 done:=by intro X hP hw hK hc i pins s σ H E I hf st hg;subst hP hw hK;obtain ⟨xs,hq,hx⟩:=hg;obtain ⟨its,rv,p,hz⟩:=I.list hq;obtain ⟨f0,f1,f2,f3,f4,f5⟩:=hf it (by simp);have hl:=rv.length;exact wpAny_pyNext_list_end (I.ok.hd hc) st p.isList (by simp;omega) λh' eb=>⟨rfl,I.turned (t':=s.toks) (λb o hb e=>eb b o hb e) f0 f1 f3 f4 f5⟩
 self:=λ_ _ _ _ _ st h=>wpAny_pyIter_listiter st h
theorem vm{P:Program}{w:World}{K:PF}{tg:Expr}(a it:Addr):Turn P w K tg (Itt K a) [it] it (λi h=>h.IsTupleIter it a i) where
 mem:=by simp
 obj:=λi h st b hb=>by
  have e:b=it:=by simpa using hb
  subst e;obtain ⟨o,e,c,d⟩:=st;exact ⟨o,e,λv z=>by rw[d]at z;cases z⟩
 keep:=λi h h' st k=>st.at λo e=>k it (by simp) o e
 item:=by intro X hP hw hK hc i pins s σ H E I hf st hg;subst hP hw hK;obtain ⟨xs,x,hq,hx⟩:=hg;obtain ⟨its,rv,p,hz⟩:=I.tuple hq;obtain ⟨u,hu,ru⟩:=rv.get hx;obtain ⟨f0,f1,f2,f3,f4,f5⟩:=hf it (by simp);refine wpAny_pyNext_tuple_item st (show s.heap.IsTuple a its.toArray from p) (x:=u) (by simpa using hu) λh' st' sb=>?_;have I1:Inv X pins σ H { s with heap:=h' }:=I.turned (t':=s.toks) (λb o hb e=>(sb.2 b hb).trans e) f0 f1 f3 f4 f5;obtain ⟨o,e,c,d⟩:=id st';exact ⟨u,rfl,lw (s:={ s with heap:=h' }) e c d (by decide) ⟨x,H,I1,ru,⟨rfl,λys hy=>by rw[I.tuple_inj hy hq];exact hx⟩,st',λb hb=>(hf b hb).1⟩⟩
 done:=by intro X hP hw hK hc i pins s σ H E I hf st hg;subst hP hw hK;obtain ⟨xs,hq,hx⟩:=hg;obtain ⟨its,rv,p,hz⟩:=I.tuple hq;obtain ⟨f0,f1,f2,f3,f4,f5⟩:=hf it (by simp);have hl:=rv.length;exact wpAny_pyNext_tuple_end (I.ok.hd hc) st (show s.heap.IsTuple a its.toArray from p) (by simp;omega) λh' eb=>⟨rfl,I.turned (t':=s.toks) (λb o hb e=>eb b o hb e) f0 f1 f3 f4 f5⟩
 self:=λ_ _ _ _ _ st h=>wpAny_pyIter_tupleiter st h
theorem Lp{P:Program}{w:World}{K:PF}{tg:Expr}(it:Addr)(lo:Int)(n:Nat):Turn P w K tg (Itr lo n) [it] it (λi h=>IsRangeIter h it (lo+(i:Nat) * 1) ((n:Int) - (i:Nat)) 1) where
 mem:=by simp
 obj:=λi h st b hb=>by
  have e:b=it:=by simpa using hb
  subst e;exact ⟨_,st,λv z=>by
   have z':Data.fields _=Data.cell v:=z;cases z'⟩
 keep:=λi h h' st k=>k it (by simp) _ st
 item:=by intro X hP hw hK hc i pins s σ H E I hf st hg;subst hP hw hK;obtain ⟨f0,f1,f2,f3,f4,f5⟩:=hf it (by simp);have W:=Walks.range (prog:=X.prog) (w:=X.w) (I.ok.hd hc) it lo 1 n;refine W.item i s _ _ hg st λv h' tk hv st' kk=>?_;obtain ⟨t,rfl⟩:=hv;have I1:Inv X pins σ H { s with heap:=h',toks:=tk }:=I.turned (λb o hb e=>kk b o (by simpa using hb) e) f0 f1 f3 f4 f5;refine ⟨_,rfl,lw (s:={ s with heap:=h',toks:=tk }) (n:="range_iterator") st' rfl rfl (by decide) ⟨.int (lo+i),H,I1,⟨t,?_⟩,⟨rfl,rfl⟩,st',λb hb=>(hf b hb).1⟩⟩;rw[Int.mul_one]
 done:=by intro X hP hw hK hc i pins s σ H E I hf st hg;subst hP hw hK;obtain ⟨f0,f1,f2,f3,f4,f5⟩:=hf it (by simp);exact wpAny_pyNext_range_end (I.ok.hd hc) st (by have:n<=i:=hg;omega) λh' eb=>⟨rfl,I.turned (t':=s.toks) (λb o hb e=>eb b o hb e) f0 f1 f3 f4 f5⟩
 self:=λ_ _ _ _ _ st h=>wpAny_pyIter_rangeiter st h
section
variable {X:Cx} {tg:Expr}
theorem Lq{pins:List (Addr×Obj)}{σ:St}{H:Hp}{s:Shared}{R:It->Hp->Prop}{E:Value->Shared->Prop}{lo hi:Int}{t u v:Tok}{tk:Nat}(I:Inv X pins σ H s)(h1:-(2 ^ 62)<=lo)(h2:lo < 2 ^ 62)(h3:-(2 ^ 62)<=hi)(h4:hi < 2 ^ 62)
  (q:R (Itr lo (hi - lo).toNat) H):wpAny (model X.prog X.w) X.A (pyIter (.ref s.heap.objs.size)) (PIE X pins σ tg R) E { s with heap:=s.heap.push { cls:=.type "range",data:=.fields #[.int lo t,.int hi u,.int 1 v] },toks:=tk }:=by
 refine wpAny_pyIter_range (IsRange.new ..) (small_one h1 h2 h3 h4) ?_;have I1:Inv X pins σ H { s with heap:=s.heap.push { cls:=.type "range",data:=.fields #[.int lo t,.int hi u,.int 1 v] },toks:=tk }:=I.kept λb o e=>al _ e;refine ⟨(s.heap.push { cls:=.type "range",data:=.fields #[.int lo t,.int hi u,.int 1 v] }).objs.size,[(s.heap.push { cls:=.type "range",data:=.fields #[.int lo t,.int hi u,.int 1 v] }).objs.size],_,_,H,rfl,
  I1.kept (t':=tk) λb o e=>al _ e,Lp _ lo (hi - lo).toNat,?_,λb hb=>?_,q⟩
 ·have e1:lo+((0:Nat):Int) * 1=lo:=by simp
  have e2:(((hi - lo).toNat:Nat):Int) - ((0:Nat):Int)=Builtin.Range.rangeSize lo hi 1:=by rw[rangeSize_one];split <;> omega
  show IsRangeIter _ _ (lo+((0:Nat):Int) * 1) ((((hi - lo).toNat:Nat):Int) - ((0:Nat):Int)) 1;rw[e1,e2];exact ay _ rfl
 ·have e:b=(s.heap.push { cls:=.type "range",data:=.fields #[.int lo t,.int hi u,.int 1 v] }).objs.size:=by simpa using hb
  subst e;exact I1.fpOk (av _) (I1.hok.fresh (av _))
def Lr(ta:TA):TI:=λσ H R=>ta σ H λvs H1=>∃j:Int,vs=[.int j]/\-(2 ^ 62)<=j/\j < 2 ^ 62/\R (Itr 0 j.toNat) H1
theorem Ls {a:Expr} {ta:TA} {p pos:Pos} (hg:Gl X "range") (hm:X.mg "range"=none) (ha:PA X [a] ta) (hs:starEach [a] X.env=[(false,eval a X.env)]:=by rfl):PI X tg (.Call (.Name "range" p) [a] [] pos) (Lr ta):=by
 intro pins s σ H R I h;refine Call_ (fQ I hg hm boot_range (ff (thn (ha pos pins s σ H _ I h) λus s1 ⟨vs,H1,I1,r1,q1⟩=>?_) hs rfl));obtain ⟨j,e,q1,q2,q⟩:=q1;subst e;cases r1 with
 |cons r rr=>
  cases rr;obtain ⟨t,rfl⟩:=r;exact call_range_1 (Lq I1 (by omega) (by omega) q1 q2 (by simpa using q))
def Lw(wi:TI)(g:TG)(tb:TS):TS:=λD σ H=>wi σ H λJ H1=>∃W:Nat->Nat->St->Hp->Prop,(∃m,W 0 m σ H1)/\∀i m σ H,W i m σ H->
 (J.stop i H/\D.nx σ H)\/(J.go i H/\∃N:St->Hp->Prop,(∀σ' H',N σ' H'->∃m',m' < m/\W (i+1) m' σ' H')/\∀x H',J.yld i H x H'->g x σ H' λσ2 H2=>tb { D with nx:=N,ct:=N,bk:=D.nx } σ2 H2)
def gF(fp:List Addr)(h:Heap):List (Addr×Obj):=fp.filterMap λb=>(h.get? b).map λo=>(b,o)
theorem gG{fp:List Addr}{h:Heap}{b:Addr}{o:Obj}(hb:b∈fp)(e:h.get? b=some o):(b,o)∈gF fp h:=List.mem_filterMap.mpr ⟨b,hb,by rw[e];rfl⟩
theorem qe{fp:List Addr}{h:Heap}{p:Addr×Obj}(hp:p∈gF fp h):p.1∈fp/\h.get? p.1=some p.2:=by
 obtain ⟨b,hb,e⟩:=List.mem_filterMap.mp hp;cases q:h.get? b with
 |none=>rw[q]at e;cases e
 |some o=>
  rw[q]at e;have e':(b,o)=p:=cp e;subst e';exact ⟨hb,q⟩
theorem Inv.pinned{pins:List (Addr×Obj)}{σ:St}{H:Hp}{s:Shared}{fp:List Addr}(I:Inv X pins σ H s)(hf:∀b∈fp,c7 X pins H b)(ho:∀b∈fp,∃o,s.heap.get? b=some o/\∀v,o.data≠.cell v):Inv X (pins++gF fp s.heap) σ H s:=
 I.pins_of λp hp=>(cm.mp hp).elim (λz=>I.pin p (aI _ z)) λz=>by
  obtain ⟨hb,e⟩:=qe z;obtain ⟨f0,f1,f2,_⟩:=hf p.1 hb;obtain ⟨o,e',d⟩:=ho p.1 hb;rw[e]at e';cases e';exact ⟨e,f0,f1,f2,d⟩
theorem Inv.unpinned{pins pl:List (Addr×Obj)}{σ:St}{H:Hp}{s:Shared}(I:Inv X (pins++pl) σ H s):Inv X pins σ H s:=I.pins_of λp hp=>I.pin p (aI _ (eK _ hp))
theorem Lx{iter:Expr}{body:List Stmt}{wi:TI}{g:TG}{tb:TS}{pos:Pos}(hp:PassesOwn (model X.prog X.w) X.A X.env X.xe)(hc:X.calm=true)(hi:PI X tg iter wi)(hg:PG X tg g)(hb:PSs X body tb)
  (hs:∀x,foldedSetIterable iter X.env x=pure x:=by intro _;rfl):PS X (.For tg iter body [] pos) (Lw wi g tb):=by
 intro pins s σ H D I h;refine wpAny_For (thn (hi pins s σ H _ I h) λv s1 h1=>thn h1 λitv s2 h2=>?_) hs;obtain ⟨it,fp,tn,J,H2,e,I2,T,st2,f2,W,⟨m0,w0⟩,turn⟩:=h2;subst e
 -- what stays true of the iterator's objects through the loop
 have stat:∀{H':Hp},(∀b∈fp,H' b=none)->∀b∈fp,c7 X pins H' b:=λhn b hb=>⟨hn b hb,(f2 b hb).2⟩;refine codeAny_forLoop_any (λn s'=>∃i σ' H',Inv X pins σ' H' s'/\tn i s'.heap/\(∀b∈fp,H' b=none)/\W i n σ' H') ?_ m0 ⟨0,σ,H2,I2,st2,λb hb=>(f2 b hb).1,w0⟩;rintro n s3 ⟨i,σ3,H3,I3,st3,fr3,w3⟩;rcases turn i n σ3 H3 w3 with ⟨stop,qn⟩ |⟨go,N,hN,step⟩
 ·refine wpAny_passesOwn hp (thn (T.done X rfl rfl rfl hc i pins s3 σ3 H3 X.xe I3 (stat fr3) st3 stop) λr s4 ⟨hr,I4⟩=>?_);subst hr;exact wpAny_execs_nil ⟨σ3,H3,I4,qn⟩
 ·refine wpAny_passesOwn hp (thn (T.item X rfl rfl rfl hc i pins s3 σ3 H3 X.xe I3 (stat fr3) st3 go) λr s4 ⟨u,hr,h4⟩=>?_);subst hr;refine wpAny_passesOwn hp (thn h4 λ_ s5 ⟨x,H5,I5,r5,y5,st5,fr5⟩=>?_);have I5':=I5.pinned (stat fr5) (T.obj _ _ st5);refine wpAny_passesOwn hp (thn (hg _ s5 σ3 H5 x u _ I5' r5 (step x H5 y5)) λ_ s6 ⟨σ6,H6,I6,q6⟩=>?_);refine wpAny_passesOwn hp (thn (hb _ s6 σ6 H6 _ I6 q6) λf s7 q7=>?_);have again:∀{σ7:St}{H7:Hp},Inv X (pins++gF fp s5.heap) σ7 H7 s7->N σ7 H7->∃m,m < n/\∃i σ' H',Inv X pins σ' H' s7/\tn i s7.heap/\(∀b∈fp,H' b=none)/\W i m σ' H':=λ{σ7 H7} I7 n7=>by
   obtain ⟨m',hm,w7⟩:=hN σ7 H7 n7;refine ⟨m',hm,i+1,σ7,H7,I7.unpinned,T.keep _ _ _ st5 λb hb o e=>(I7.pin (b,o) (aI _ (aI _ (gG hb e)))).1,λb hb=>?_,w7⟩;obtain ⟨o,e,d⟩:=T.obj _ _ st5 b hb;exact (I7.pin (b,o) (aI _ (aI _ (gG hb e)))).2.1
  cases f with
  |next=>obtain ⟨σ7,H7,I7,n7⟩:=q7;exact again I7 n7
  |cont=>obtain ⟨σ7,H7,I7,n7⟩:=q7;exact again I7 n7
  |brk=>obtain ⟨σ7,H7,I7,q7⟩:=q7;exact ⟨σ7,H7,I7.unpinned,q7⟩
  |ret v=>obtain ⟨x7,σ7,H7,I7,r7,q7⟩:=q7;exact ⟨x7,σ7,H7,I7.unpinned,r7,q7⟩
end
abbrev R2:=V->V->Hp->VK->Prop
def OpR(X:Cx)(f:Value->Value->Sem Value)(r:R2):Prop:=
 ∀(pins:List (Addr×Obj))(s:Shared)(σ:St)(H:Hp)(x y:V)(v u:Value)(Q:VK),Inv X pins σ H s->RelV x v->RelV y u->r x y H Q->
  wpAny (model X.prog X.w) X.A (f v u) (EP X pins σ Q) X.xe s
def bA(X:Cx)(f:Value)(r:List V->Hp->VK->Prop):Prop:=
 ∀(pins:List (Addr×Obj))(s:Shared)(σ:St)(H:Hp)(xs:List V)(us:List Value)(Q:VK),Inv X pins σ H s->Vals xs us->r xs H Q->
  wpAny (model X.prog X.w) X.A (call f us) (EP X pins σ Q) X.xe s
def Lz(X:Cx)(r:V->Hp->(Bool->Hp->Prop)->Prop):Prop:=
 ∀(pins:List (Addr×Obj))(s:Shared)(σ:St)(H:Hp)(x:V)(v:Value)(Q:Bool->Hp->Prop),Inv X pins σ H s->RelV x v->r x H Q->
  wpAny (model X.prog X.w) X.A (truthy v) (TP X pins σ Q) X.xe s
def tOp(r:R2)(ta tb:TE):TE:=λσ H Q=>ta σ H λx H1=>tb σ H1 λy H2=>r x y H2 Q
def rI(C:Int->Int->Prop)(g:Int->Int->V):R2:=λx y H Q=>∃i j,x=.int i/\y=.int j/\C i j/\Q (g i j) H
def rI0(g:Int->Int->V):R2:=λx y H Q=>∃i j,x=.int i/\y=.int j/\Q (g i j) H
section
variable {X:Cx} {a b c:Expr} {ta tb tc:TE} {pos:Pos}
theorem qg(ha:PE X a ta)(hb:PE X b tb){pins:List (Addr×Obj)}{s:Shared}{σ:St}{H:Hp}{R:V->V->Hp->Prop}(I:Inv X pins σ H s)
  (h:ta σ H λx H1=>tb σ H1 λy H2=>R x y H2) {Q:Value->Shared->Prop} {f:Value->Value->Sem Value}
  (hf:∀v u s2 x y H2,Inv X pins σ H2 s2->RelV x v->RelV y u->R x y H2->wpAny (model X.prog X.w) X.A (f v u) Q X.xe s2):
  wpAny (model X.prog X.w) X.A (eval a X.env) (λv s₁=>wpAny (model X.prog X.w) X.A (eval b X.env) (λu s₂=>wpAny (model X.prog X.w) X.A (f v u) Q X.xe s₂) X.xe s₁) X.xe s:=by
 refine thn (ha pins s σ H _ I h) λv s1 ⟨x,H1,I1,r1,q1⟩=>?_;refine thn (hb pins s1 σ H1 _ I1 q1) λu s2 ⟨y,H2,I2,r2,q2⟩=>?_;exact hf v u s2 x y H2 I2 r1 r2 q2
theorem LC{op:Operator}{r:R2}(ho:OpR X (binaryOp op) r)(ha:PE X a ta)(hb:PE X b tb):PE X (.BinOp a op b pos) (tOp r ta tb):=by intro pins s σ H Q I h;exact wpAny_BinOp (qg ha hb I h λv u s2 x y H2 I2 rx ry q=>ho pins s2 σ H2 x y v u Q I2 rx ry q)
theorem opI{f:Value->Value->Sem Value}{C:Int->Int->Prop}{g:Int->Int->Int}
  (rule:∀(i j:Int)(t u:Tok)(s:Shared)(Q:Value->Shared->Prop)(E:Value->Shared->Prop),C i j->Q (.int (g i j) s.toks) { s with toks:=s.toks+1 }->wpAny (model X.prog X.w) X.A (f (.int i t) (.int j u)) Q E s):
  OpR X f (rI C λi j=>.int (g i j)):=by
 intro pins s σ H x y v u Q I rx ry h;obtain ⟨i,j,rfl,rfl,hc,q⟩:=h;obtain ⟨t,rfl⟩:=rx;obtain ⟨t',rfl⟩:=ry;exact rule i j t t' s _ _ hc ⟨.int (g i j),H,I.tok _,⟨_,rfl⟩,q⟩
theorem lz{f:Value->Value->Sem Value}{g:Int->Int->Int}
  (rule:∀(i j:Int)(t u:Tok)(s:Shared)(Q:Value->Shared->Prop)(E:Value->Shared->Prop),Q (.int (g i j) s.toks) { s with toks:=s.toks+1 }->wpAny (model X.prog X.w) X.A (f (.int i t) (.int j u)) Q E s):
  OpR X f (rI0 λi j=>.int (g i j)):=by
 intro pins s σ H x y v u Q I rx ry h;obtain ⟨i,j,rfl,rfl,q⟩:=h;obtain ⟨t,rfl⟩:=rx;obtain ⟨t',rfl⟩:=ry;exact rule i j t t' s _ _ ⟨.int (g i j),H,I.tok _,⟨_,rfl⟩,q⟩
def lA(i j:Int):Prop:=0<=j/\j<=1000000/\i.natAbs < 2 ^ 64
def CMul(i j:Int):Prop:=(-(2 ^ 64) < i/\i < 2 ^ 64)\/(-(2 ^ 64) < j/\j < 2 ^ 64)
theorem CMul.ok{i j:Int}(h:CMul i j):IntMulOk i j:=by
 rcases h with ⟨h1,h2⟩ |⟨h1,h2⟩
 ·exact .of_left (intBits_le_64 h1 h2)
 ·exact .of_right (intBits_le_64 h1 h2)
theorem LK:OpR X (binaryOp .Add) (rI0 λi j=>.int (i+j)):=lz λ_ _ _ _ _ _ _ q=>add_int q
theorem LQ:OpR X (binaryOp .Sub) (rI0 λi j=>.int (i - j)):=lz λ_ _ _ _ _ _ _ q=>sub_int q
theorem LR:OpR X (binaryOp .Mult) (rI CMul λi j=>.int (i * j)):=opI λ_ _ _ _ _ _ _ hc q=>mul_int q hc.ok
theorem Ma:OpR X (binaryOp .Mod) (rI (λ_ j=>0 < j) λi j=>.int (i % j)):=opI λi j _ _ _ _ _ hc q=>by
 have h1:(0:Int) < j:=hc;exact mod_int' (by omega) (by rw[Int.fmod_eq_emod_of_nonneg i (by omega)];exact q)
theorem Mg:OpR X (binaryOp .Pow) (rI lA λi j=>.int (i ^ j.toNat)):=opI λ_ _ _ _ _ _ _ hc q=>pow_int_small hc.1 hc.2.1 hc.2.2 q
theorem Mh:OpR X (inplaceOp .Add) (rI0 λi j=>.int (i+j)):=lz λ_ _ _ _ _ _ _ q=>iadd_int q
theorem Mi:OpR X (inplaceOp .Sub) (rI0 λi j=>.int (i - j)):=lz λ_ _ _ _ _ _ _ q=>isub_int q
end
section
variable {X:Cx} {a b c:Expr} {ta tb tc:TE} {pos:Pos}
theorem vo{pins:List (Addr×Obj)}{σ:St}{H:Hp}{s:Shared}{Q:VK}{k k':Bool}(I:Inv X pins σ H s)(q:Q (.bl k) H)(e:k=k'):EP X pins σ Q (.bool k') s:=by subst e;exact ⟨.bl k,H,I,rfl,q⟩
theorem Mj:OpR X (compareOp .Is) (λx y H Q=>y=.non/\Q (.bl (decide (x=.non))) H):=by
 intro pins s σ H x y v u Q I rx ry h;obtain ⟨rfl,q⟩:=h;cases ry;refine is_none_gen (vo I q ?_);cases x <;> first
  | (cases rx;rfl)
  | (obtain ⟨t,rfl⟩:=rx;rfl)
theorem Ml:OpR X (compareOp .IsNot) (λx y H Q=>y=.non/\Q (.bl (!decide (x=.non))) H):=by
 intro pins s σ H x y v u Q I rx ry h;obtain ⟨rfl,q⟩:=h;cases ry;refine isnot_none_gen (vo I q ?_);cases x <;> first
  | (cases rx;rfl)
  | (obtain ⟨t,rfl⟩:=rx;rfl)
theorem Mm{op:CmpOp}{r:R2}(ho:OpR X (compareOp op) r)(ha:PE X a ta)(hb:PE X b tb)(hm:behindInMarks op b=false):PE X (.Compare a [op] [b] pos) (tOp r ta tb):=by intro pins s σ H Q I h;exact wpAny_Compare1 (qg ha hb I h λv u s2 x y H2 I2 rx ry q=>ho pins s2 σ H2 x y v u Q I2 rx ry q) hm
def vp(t:TE):TT:=λσ H Q=>t σ H λx H'=>∃k,x=.bl k/\Q k H'
theorem Mp{op:CmpOp}{r:R2}(ho:OpR X (compareOp op) r)(ha:PE X a ta)(hb:PE X b tb)(hm:behindInMarks op b=false):PT X (.Compare a [op] [b] pos) (vp (tOp r ta tb)):=by
 intro pins s σ H Q I h;refine wpAny_isTrue_Compare1 (thn (ha pins s σ H _ I h) λv s1 ⟨x,H1,I1,r1,q1⟩=>thn (hb pins s1 σ H1 _ I1 q1) λu s2 ⟨y,H2,I2,r2,q2⟩=>
  thn (ho pins s2 σ H2 x y v u _ I2 r1 r2 q2) λc s3 ⟨z,H3,I3,r3,k,e,q3⟩=>?_) hm
 subst e;cases r3;exact d5 ⟨H3,I3,q3⟩
def qi(r r':R2)(ta tb tc:TE):TE:=λσ H Q=>ta σ H λx H1=>tb σ H1 λy H2=>r x y H2 λz H3=>∃k,z=.bl k/\
 (if k=true then tc σ H3 λw' H4=>r' y w' H4 Q else Q (.bl false) H3)
theorem Mq{op op':CmpOp}{r r':R2}(ho:OpR X (compareOp op) r)(ho':OpR X (compareOp op') r')(ha:PE X a ta)(hb:PE X b tb)(hc:PE X c tc)
  (hm:lastMarks [op,op'] [b,c]=false:=by with_unfolding_all rfl):PE X (.Compare a [op,op'] [b,c] pos) (qi r r' ta tb tc):=by
 intro pins s σ H Q I h;refine Compare_chain (thn (ha pins s σ H _ I h) λv s1 ⟨x,H1,I1,r1,q1⟩=>chain_link (thn (hb pins s1 σ H1 _ I1 q1) λu s2 ⟨y,H2,I2,r2,q2⟩=>
  thn (ho pins s2 σ H2 x y v u _ I2 r1 r2 q2) λd s3 ⟨z,H3,I3,r3,k,e,q3⟩=>?_)) hm
 subst e;cases r3;refine d5 ?_;cases k with
 |false=>exact ite_ff ⟨.bl false,H3,I3,rfl,q3⟩
 |true=>exact ite_tt (chain_last (thn (hc pins s3 σ H3 _ I3 q3) λw' s4 ⟨z',H4,I4,r4,q4⟩=>ho' pins s4 σ H4 y z' u w' Q I4 r2 r4 q4))
theorem Mr{op op':CmpOp}{r r':R2}(ho:OpR X (compareOp op) r)(ho':OpR X (compareOp op') r')(ha:PE X a ta)(hb:PE X b tb)(hc:PE X c tc)
  (hm:lastMarks [op,op'] [b,c]=false:=by with_unfolding_all rfl):PT X (.Compare a [op,op'] [b,c] pos) (vp (qi r r' ta tb tc)):=by
 intro pins s σ H Q I h;refine isTrue_chain (thn (ha pins s σ H _ I h) λv s1 ⟨x,H1,I1,r1,q1⟩=>test_link (thn (hb pins s1 σ H1 _ I1 q1) λu s2 ⟨y,H2,I2,r2,q2⟩=>
  thn (ho pins s2 σ H2 x y v u _ I2 r1 r2 q2) λd s3 ⟨z,H3,I3,r3,k,e,q3⟩=>?_)) hm
 subst e;cases r3;refine d5 ?_;cases k with
 |false=>
  obtain ⟨k',e',q'⟩:=q3;cases e';exact ite_ff ⟨H3,I3,q'⟩
 |true=>
  refine ite_tt (test_last (thn (hc pins s3 σ H3 _ I3 q3) λw' s4 ⟨z',H4,I4,r4,q4⟩=>thn (ho' pins s4 σ H4 y z' u w' _ I4 r2 r4 q4) λd' s5 ⟨z2,H5,I5,r5,k2,e2,q5⟩=>?_));subst e2;cases r5;exact d5 ⟨H5,I5,q5⟩
def qj(K:PF)(x:V)(H:Hp)(k:Bool):Prop:=
 match x with
 |.non=>k=false
 |.bl b=>k=b
 |.int i=>k=(i != 0)
 |.str y=>y.length<=sizeLine/\k=((y.length:Int) != 0)
 |.byt y=>y.size<=sizeLine/\k=((y.size:Int) != 0)
 |.ref p=>(∃xs,SqL K H p xs/\k=!xs.isEmpty)\/(∃xs,SqT K H p xs/\k=!xs.isEmpty)\/∃kvs,H p=some (.dK kvs)/\k=!kvs.isEmpty
 |_=>False
theorem Ms{κ:Type}{kvs:List (κ×V)}{vs:List (κ×Value)}(r:KV kvs vs):(!vs.isEmpty)=!kvs.isEmpty:=by cases r <;> rfl
theorem vq{xs:List V}{its:List Value}(r:Vals xs its):(!its.toArray.isEmpty)=!xs.isEmpty:=by cases r <;> simp
theorem fU:(sizeLine:Nat) < 2 ^ 63:=by rw[er];decide
theorem Mt:Lz X (λx H Q=>∃k,qj X.K x H k/\Q k H):=by
 intro pins s σ H x v Q I rx h;obtain ⟨k,e,q⟩:=h;have hl:=fU;have hs:sizeLine=16777216:=er;cases x with
 |non=>
  cases rx;have e':k=false:=e;subst e';exact truthy_none ⟨H,I,q⟩
 |bl b=>
  cases rx;have e':k=b:=e;subst e';exact d5 ⟨H,I,q⟩
 |int i=>
  obtain ⟨t,rfl⟩:=rx;have e':k=(i != 0):=e;subst e';exact PySem.P.truthy_int ⟨H,I,q⟩
 |str y=>
  obtain ⟨t,rfl⟩:=rx;obtain ⟨hy,e'⟩:y.length<=sizeLine/\k=((y.length:Int) != 0):=e;subst e';exact PySem.P.truthy_str (by omega) ⟨H,I.tok _,q⟩
 |byt y=>
  obtain ⟨t,rfl⟩:=rx;obtain ⟨hy,e'⟩:y.size<=sizeLine/\k=((y.size:Int) != 0):=e;subst e';exact PySem.W.truthy_bytes (by omega) ⟨H,I.tok _,q⟩
 |ref p=>
  cases rx;have e':(∃xs,SqL X.K H p xs/\k=!xs.isEmpty)\/(∃xs,SqT X.K H p xs/\k=!xs.isEmpty)\/∃kvs,H p=some (.dK kvs)/\k=!kvs.isEmpty:=e;rcases e' with ⟨xs,hx,e'⟩ |⟨xs,hx,e'⟩ |⟨kvs,hx,e'⟩
  ·subst e';obtain ⟨its,r,pl,hz⟩:=I.list hx;have hlen:=r.length;exact wpAny_truthy_list pl.isList (by simp only[ap];omega) ⟨H,I.tok _,by rw[vq r];exact q⟩
  ·subst e';obtain ⟨its,r,pl,hz⟩:=I.tuple hx;have hlen:=r.length;exact truthy_tuple pl (by simp only[ap];omega) ⟨H,I.tok _,by rw[vq r];exact q⟩
  ·subst e';obtain ⟨hz,hS,vs,r,m⟩:kvs.length<=sizeLine/\(p==sysModules)=false/\∃vs,KV kvs vs/\s.heap.DictOf (pX X.prog X.w) p vs:=I.hok p _ hx;have hlen:kvs.length=vs.length:=Paired.length r;exact wpAny_truthy_dict hS m (by omega) ⟨H,I.tok _,by rw[Ms r];exact q⟩
 |_=>exact (show False from e).elim
theorem Mu(ha:PE X a ta)(he:∀whole,isTrue a X.env whole=(do let v <-whole;standAt a.pos;holding [v] (truthy v))):
  PT X a (λσ H Q=>ta σ H λx H'=>∃k,qj X.K x H' k/\Q k H'):=by
 intro pins s σ H Q I h;exact isTrue_plain (thn (ha pins s σ H _ I h) λv s1 ⟨x,H1,I1,r1,q1⟩=>Mt pins s1 σ H1 x v Q I1 r1 q1) (he _)
theorem Mv:OpR X (binaryOp .Add) (λx y H Q=>∃i j,x=.str i/\y=.str j/\i.length+j.length<=sizeLine/\Q (.str (i++j)) H):=by intro pins s σ H x y v u Q I rx ry h;obtain ⟨i,j,rfl,rfl,hz,q⟩:=h;obtain ⟨t,rfl⟩:=rx;obtain ⟨t',rfl⟩:=ry;exact add_str (λt' tk=>⟨.str (i++j),H,I.tok _,⟨_,rfl⟩,q⟩) hz
theorem Mw:OpR X (inplaceOp .Add) (λx y H Q=>∃i j,x=.str i/\y=.str j/\i.length+j.length<=sizeLine/\Q (.str (i++j)) H):=by intro pins s σ H x y v u Q I rx ry h;obtain ⟨i,j,rfl,rfl,hz,q⟩:=h;obtain ⟨t,rfl⟩:=rx;obtain ⟨t',rfl⟩:=ry;exact iadd_str (λt' tk=>⟨.str (i++j),H,I.tok _,⟨_,rfl⟩,q⟩) hz
theorem vals1{x:V}{us:List Value}(r:Vals [x] us):∃u,us=[u]/\RelV x u:=by
 cases r with
 |cons r1 r2=>cases r2;exact ⟨_,rfl,r1⟩
theorem vals2{x y:V}{us:List Value}(r:Vals [x,y] us):∃u w',us=[u,w']/\RelV x u/\RelV y w':=by
 cases r with
 |cons r1 r2=>
  cases r2 with
  |cons r3 r4=>cases r4;exact ⟨_,_,rfl,r1,r3⟩
theorem vy:bA X (.type "int") (λxs H Q=>(∃i,xs=[.int i]/\Q (.int i) H)\/∃k,xs=[.bl k]/\Q (.int (if k then 1 else 0)) H):=by
 intro pins s σ H xs us Q I r h;rcases h with ⟨i,rfl,q⟩ |⟨k,rfl,q⟩
 ·obtain ⟨u,rfl,t,rfl⟩:=vals1 r;exact call_int_int ⟨.int i,H,I,⟨_,rfl⟩,q⟩
 ·obtain ⟨u,rfl,r1⟩:=vals1 r;cases r1;exact call_int_bool ⟨.int (if k then 1 else 0),H,I.tok _,⟨_,rfl⟩,q⟩
end
structure ObjM(h:Heap)(x dx C:Addr)(mA:Str->Option Value):Prop where
 obj:h.get? x=some (PySem.W.instObj C dx)
 ns:h.Ns1 dx mA
 ne:dx≠x
theorem vz{h:Heap}{dx:Addr}{mA:Str->Option Value}(n:h.Ns1 dx mA):∃od,h.get? dx=some od/\∀name,PySem.W.lookIn name od=some (mA name):=by
 obtain ⟨o,es,ep,ho,hd,hk,_,hm⟩:=n;refine ⟨o,ho,λname=>?_⟩;have e:=hm name;unfold nsFind findBy at e;rw[<-Array.find?_toList]at e;unfold PySem.W.lookIn;rw[hd];dsimp only;split
 ·rename_i y q;rw[q]at e;exact c6 some e
 ·rename_i q;rw[q]at e;have a:es.toList.any (·.refKey)=false:=by
   rw[List.any_eq_false];intro y hy;obtain ⟨z,t,hkey⟩:=hk y (Array.mem_toList_iff.mp hy);simp[DictEntry.refKey,hkey]
  have a':¬es.toList.any (·.refKey)=true:=by rw[a];exact bo
  rw[if_neg a'];exact c6 some e
theorem ObjM.look{h:Heap}{x dx C:Addr}{mA:Str->Option Value}(I:ObjM h x dx C mA):∃od,PySem.W.InstAt h x (PySem.W.instObj C dx) C (some od)/\∀name,PySem.W.lookIn name od=some (mA name):=
 let ⟨od,ho,hl⟩:=vz I.ns
 ⟨od,⟨I.obj,rfl,rfl,ho⟩,hl⟩
theorem RelO.some_of{v:V}{o:Option Value}(r:RelO (some v) o):∃u,o=some u/\RelV v u:=by
 cases o with
 |none=>exact (show False from r).elim
 |some u=>exact ⟨u,rfl,r⟩
theorem Mx{v:V}{u:Value}(r:RelV v u):PySem.W.handedIn u=true:=by
 cases v with
 |non=>cases (show u=Value.none from r);rfl
 |bl b=>cases (show u=Value.bool b from r);rfl
 |int i=>obtain ⟨t,e⟩:=(show ∃t,u=Value.int i t from r);cases e;rfl
 |str x=>obtain ⟨t,e⟩:=(show ∃t,u=Value.str x t from r);cases e;rfl
 |byt b=>obtain ⟨t,e⟩:=(show ∃t,u=Value.bytes b t from r);cases e;rfl
 |flt b=>obtain ⟨t,e⟩:=(show ∃t,u=Value.float b t from r);cases e;rfl
 |ref a=>cases (show u=Value.ref a from r);rfl
 |ty n=>cases (show u=Value.type n from r);rfl
section
variable {P:Program} {w:World} {H H':Hp} {h h':Heap} {a C dx:Addr} {fs fs':List (Str×V)}
theorem My(hok:HOk P w H h)(e:H a=some (.ins C dx fs)):∃mA,ObjM h a dx C mA/\(∀f,RelO (fs.lookup f) (mA f))/\PySem.Within mA (fs.map (·.1))/\fs.length<=1000/\H dx=some (.own a):=by obtain ⟨d,z,ne,ob,mA,n,r,q⟩:=(show ObjOk P w H h a (.ins C dx fs) from hok a _ e);exact ⟨mA,⟨ob,n,ne⟩,r,q,z,d⟩
end
structure Cls(K:PF)(C:Addr):Prop where
 pg:PySem.W.plainGet K C Str.empty=true
 hd:PySem.W.hasDictIn K C=true
 po:PySem.W.plainOver K C=true
 sa:PySem.W.findIn K (.ref C) "__setattr__"=some (some (.builtin "object.__setattr__"))
theorem Cls.get{K:PF}{C:Addr}(c:Cls K C)(f:Str):PySem.W.plainGet K C f=true:=c.pg
def Mz(K:PF)(C:Addr)(f:Str):Prop:=PySem.W.findIn K (.ref C) f=some none
structure Meth(K:PF)(C:Addr)(m:Str)(f:Addr):Prop where
 at_:PySem.W.findIn K (.ref C) m=some (some (.ref f))
 fn:PySem.W.isFn K (.ref f)=true
 kp:PySem.W.keepIn K (.ref f)=true
section
variable {X:Cx} {pins:List (Addr×Obj)} {σ:St} {H:Hp} {s:Shared} {a C dx:Addr} {fs:List (Str×V)} {f:Str} {v:V} {A:Around} {E:Value->Shared->Prop}
theorem MF{prog:Program}{w:World}{env:Env}{e:Expr}{f:Str}{pos:Pos}{s:Shared}{Q:Value->Shared->Prop}(hb:attributeBase e f env (eval e env)=eval e env)
  (h:wpAny (model prog w) A (eval e env) (λo s₁=>wpAny (model prog w) A (getAttr o f true) Q E s₁) E s):wpAny (model prog w) A (eval (.Attribute e f pos) env) Q E s:=
 Attribute_any_ h (by rw[arm_eval_Attribute,hb])
end
section
variable {X:Cx} {pins:List (Addr×Obj)} {σ:St} {H:Hp} {s:Shared} {A:Around} {E:Value->Shared->Prop} {Q:Value->Shared->Prop} {c:Value} {b:Bool}
inductive TyOf (K:PF) (H:Hp):V->Value->Prop where
 |non:TyOf K H .non (.type "NoneType")
 |bl (x:Bool):TyOf K H (.bl x) (.type "bool")
 |int (i:Int):TyOf K H (.int i) (.type "int")
 |str (x:Str):TyOf K H (.str x) (.type "str")
 |flt (x:UInt64):TyOf K H (.flt x) (.type "float")
 |lst {a:Addr} {xs:List V} (e:H a=some (.lst xs)):TyOf K H (.ref a) (.type "list")
 |frz {a:Addr} {o:Obj} {xs:List V} (e:H a=some (.frz o (.lst xs))):TyOf K H (.ref a) (.type "list")
 |tup {a:Addr} {xs:List V} (e:H a=some (.tup xs)):TyOf K H (.ref a) (.type "tuple")
 |dK {a:Addr} {kvs:List (Key×V)} (e:H a=some (.dK kvs)):TyOf K H (.ref a) (.type "dict")
 |dT {a:Addr} {kvs:List (List Key×V)} (e:H a=some (.dT kvs)):TyOf K H (.ref a) (.type "dict")
 |ins {a C dx:Addr} {fs:List (Str×V)} (e:H a=some (.ins C dx fs)) (cl:Cls K C) (ha:PySem.W.findIn K (.ref C) "__class__"=some (some (.builtin "object.__class__")))
   (hn:PySem.W.specialIn K (.builtin "object.__class__") "__get__"=some (some (.builtin "getset_descriptor.__get__"))) (htk:PySem.W.takesIn K (.builtin "object.__class__")=some true)
   (hm:PySem.W.mroIn K C (.type "object")=some true):TyOf K H (.ref a) (.ref C)
theorem MJ{x:V}{u t:Value}(I:Inv X pins σ H s)(rx:RelV x u)(ty:TyOf X.K H x t)(e:PySem.W.kitOne X.K t c=some b)(h:∀tk,Q (.bool b) { s with toks:=tk }):
  wpAny (model X.prog X.w) A (call (.builtin "isinstance") [u,c]) Q E s:=by
 cases ty with
 |non=>cases (show u=Value.none from rx);exact cK PySem.W.kitx_none I.kIn True.intro e (λz=>nomatch z) h
 |bl y=>cases (show u=Value.bool y from rx);exact cK PySem.W.kitx_bool I.kIn True.intro e (λz=>nomatch z) h
 |int i=>obtain ⟨t,q⟩:=(show ∃t,u=Value.int i t from rx);cases q;exact cK PySem.W.kitx_int I.kIn True.intro e (λz=>nomatch z) h
 |str y=>obtain ⟨t,q⟩:=(show ∃t,u=Value.str y t from rx);cases q;exact cK PySem.W.kitx_str I.kIn True.intro e (λz=>nomatch z) h
 |flt y=>obtain ⟨t,q⟩:=(show ∃t,u=Value.float y t from rx);cases q;exact cK PySem.W.kitx_float I.kIn True.intro e (λz=>nomatch z) h
 | @lst a xs ea=>
  cases (show u=Value.ref a from rx);obtain ⟨_,_,n,_,h1⟩:=(show ObjOk X.prog X.w H s.heap a (.lst xs) from I.hok a _ ea);exact cK PySem.W.kitx_list I.kIn ⟨_,h1,rfl⟩ e (λz=>nomatch z) h
 | @frz a ob xs ea=>
  cases (show u=Value.ref a from rx);obtain ⟨_,_,_,n,_,h1⟩:=(show ObjOk X.prog X.w H s.heap a (.frz ob (.lst xs)) from I.hok a _ ea);exact cK PySem.W.kitx_list I.kIn ⟨_,h1,rfl⟩ e (λz=>nomatch z) h
 | @tup a xs ea=>
  cases (show u=Value.ref a from rx);obtain ⟨_,_,_,p⟩:=(show ObjOk X.prog X.w H s.heap a (.tup xs) from I.hok a _ ea);obtain ⟨o,h1,h2,_⟩:=p;exact cK PySem.W.kitx_tuple I.kIn ⟨o,h1,h2⟩ e (λz=>nomatch z) h
 | @dK a kvs ea=>
  cases (show u=Value.ref a from rx);obtain ⟨_,_,vs,_,p⟩:=(show ObjOk X.prog X.w H s.heap a (.dK kvs) from I.hok a _ ea);obtain ⟨o,es,ep,h1,h2,_⟩:=p;exact cK PySem.W.kitx_dict I.kIn ⟨o,h1,h2.1⟩ e (λz=>nomatch z) h
 | @dT a kvs ea=>
  cases (show u=Value.ref a from rx);obtain ⟨_,_,xs,_,o,es,ep,h1,h2,_⟩:=(show ObjOk X.prog X.w H s.heap a (.dT kvs) from I.hok a _ ea);exact cK PySem.W.kitx_dict I.kIn ⟨o,h1,h2.1⟩ e (λz=>nomatch z) h
 | @ins a C dx fs ea cl ha hn htk hm=>
  cases (show u=Value.ref a from rx);obtain ⟨mA,O,_⟩:=My I.hok ea;obtain ⟨od,J,_⟩:=O.look;exact cK (PySem.W.kitx_own (cl.get _) cl.hd ha hn htk hm) I.kIn J e (λz=>nomatch z) h
end
structure Room(k:Nat)(A:Around):Prop where
 hd:A.handled=none
 dp:A.depth+3 * k+5 < recursionLimit
 un:A.units+16 * k+200 < cLine
theorem Room.mono{j k:Nat}{A:Around}(r:Room k A)(h:j<=k):Room j A:=⟨r.hd,by have:=r.dp;omega,by have:=r.un;omega⟩
theorem Room.deeper{k:Nat}{A:Around}(r:Room (k+1) A)(env:Env):Room k (A.deeper env):=
 ⟨r.hd,by have:=r.dp;show A.depth+1+3 * k+5 < _;omega,by have:=r.un;show A.units+3+16 * k+200 < _;omega⟩
theorem MK {A:Around} {C:Addr} {us:List Value} {kw:List (Str×Value)}:(A.under (.builtin "type.__call__" ⟨.ref C::us,kw⟩)).depth=A.depth+1:=by first |rfl |simp[Around.under,Code.weight,Code.isCreation,Code.isGuard,Code.isCaller,Code.frames,Code.isFrame,guardIds]
theorem MN {A:Around} {C:Addr} {us:List Value} {kw:List (Str×Value)}:(A.under (.builtin "type.__call__" ⟨.ref C::us,kw⟩)).units=A.units+1:=by first |rfl |simp[Around.under,Code.cUnits,Code.frames,Code.isFrame]
theorem Room.make {k:Nat} {A:Around} (r:Room (k+1) A) (C:Addr) (us:List Value) (kw:List (Str×Value)):Room k (A.under (.builtin "type.__call__" ⟨.ref C::us,kw⟩)):=
 ⟨r.hd,by have:=r.dp;rw[MK];omega,by have:=r.un;rw[MN];omega⟩
theorem Room.depth{k:Nat}{A:Around}(r:Room k A):A.depth < recursionLimit:=by have:=r.dp;omega
def MP:TA:=λ_ H Q=>Q [] H
def MT(ta:TE)(tr:TA):TA:=λσ H Q=>ta σ H λx H1=>tr σ H1 λxs H2=>Q (x::xs) H2
section
variable {X:Cx} {e:Expr} {es:List Expr} {te:TE} {t:TA} {pos:Pos}
theorem fV:PA X [] MP:=λ_ _ _ _ H Q I h=>Calls.spliced_nil ⟨[],H,I,.nil,h⟩
theorem eV(ha:PE X e te)(hr:PA X es t)(hs:starEach (e::es) X.env=(false,eval e X.env)::starEach es X.env:=by rfl):PA X (e::es) (MT te t):=by intro pos pins s σ H Q I h;rw[hs];show wpAny _ _ (spliced ((false,eval e X.env)::backTo pos (starEach es X.env))) _ _ s;refine Calls.spliced_cons (thn (ha pins s σ H _ I h) λu s1 ⟨x,H1,I1,r1,q1⟩=>?_);exact thn (hr pos pins s1 σ H1 _ I1 q1) λus s2 ⟨xs,H2,I2,r2,q2⟩=>⟨x::xs,H2,I2,.cons r1 r2,q2⟩
def M3(t:TA):TE:=λσ H Q=>t σ H λxs H1=>xs.length<=sizeLine/\∀p,H1 p=none->Q (.ref p) (upd H1 p (.tup xs))
def M4(t:TA):TE:=λσ H Q=>t σ H λxs H1=>xs.length<=sizeLine/\∀p,H1 p=none->Q (.ref p) (upd H1 p (.lst xs))
theorem M5{x1}(h:PA X es t):PE X (.Tuple es x1 pos) (M3 t):=by intro pins s σ H Q I hq;refine wpAny_Tuple_spliced (thn (h pos pins s σ H _ I hq) λus s1 ⟨xs,H1,I1,r,z,q⟩=>⟨by rw[<-r.length];exact z,?_⟩);have hf:H1 s1.heap.objs.size=none:=I1.hok.fresh (av _);refine ⟨.ref s1.heap.objs.size,upd H1 s1.heap.objs.size (.tup xs),I1.laid (t':=s1.toks) (λb u e=>al _ e) (av _) ?_,rfl,q _ hf⟩;exact ⟨z,us,r,⟨_,ay _ rfl,rfl,_,rfl⟩⟩
theorem M6(h:PA X es t):PE X (.List es pos) (M4 t):=by intro pins s σ H Q I hq;refine wpAny_List_spliced (thn (h pos pins s σ H _ I hq) λus s1 ⟨xs,H1,I1,r,z,q⟩=>⟨by rw[<-r.length];exact z,?_⟩);have hf:H1 s1.heap.objs.size=none:=I1.hok.fresh (av _);refine ⟨.ref s1.heap.objs.size,upd H1 s1.heap.objs.size (.lst xs),I1.laid (t':=s1.toks) (λb u e=>al _ e) (av _) ?_,rfl,q _ hf⟩;exact ⟨z,us,0,r,ay _ rfl⟩
end
abbrev Sp:=List V->Hp->VK->XK->Prop
abbrev CXT:=List Env->Hp->Shared->XK->Value->Shared->Prop
structure Env0(P:Program)(w:World)(K:PF)(mg:Str->Option Value)(base:Heap)(A:Around)(outer:List Env)(s:Shared)(H:Hp):Prop where
 frames:A.frames=some outer
 mod:Mod K mg base
 bs:∀b o,base.get? b=some o->s.heap.get? b=some o/\H b=none
 bsz:base.objs.size<=s.heap.objs.size
 funs:s.heap.FunFrames base outer
 frf:∀b∈frs outer,H b=none
 hok:HOk P w H s.heap
 bare:AllBare s.gens
def CE(outer:List Env)(P:Program)(w:World)(H:Hp)(s:Shared)(Q:VK)(u:Value)(s':Shared):Prop:=
 ∃v H',s'.os=s.os/\AllBare s'.gens/\Un (frs outer) [] H H' s.heap s'.heap/\HOk P w H' s'.heap/\RelV v u/\Q v H'
def CR(CX:CXT)(outer:List Env)(P:Program)(w:World)(H:Hp)(s:Shared)(Q:VK)(E:XK)(r:Result)(s':Shared):Prop:=
 match r with
 |.ok (.ret u)=>CE outer P w H s Q u s'
 |.ok _=>False
 |.error e=>CX outer H s E e s'
structure FnOk(P:Program)(w:World)(K:PF)(mg:Str->Option Value)(base:Heap)(CX:CXT)(k:Nat)(f:Addr)(fd:FuncData)(ps:List Str)(sp:Sp):Prop where
 len:∀vs H Q E,sp vs H Q E->vs.length=ps.length
 run:∀(A:Around)(outer:List Env)(s:Shared)(H:Hp)(args:Args)(us:List Value)(vs:List V)(Q:VK)(E:XK),Room k A->Env0 P w K mg base A outer s H->BindsTo s fd args (ps.zip us)->Vals vs us->sp vs H Q E->
  codeAny (model P w) A (.call (.ref f) args) (CR CX outer P w H s Q E) s
theorem FnOk.mono{P:Program}{w:World}{K:PF}{mg:Str->Option Value}{base:Heap}{CX:CXT}{j k:Nat}{f:Addr}{fd:FuncData}{ps:List Str}{sp:Sp}(F:FnOk P w K mg base CX j f fd ps sp)(h:j<=k):
  FnOk P w K mg base CX k f fd ps sp:=⟨F.len,λA outer s H args us vs Q E hr=>F.run A outer s H args us vs Q E (hr.mono h)⟩
theorem Env0.make{P:Program}{w:World}{K:PF}{mg:Str->Option Value}{base:Heap}{A:Around}{outer:List Env}{s:Shared}{H:Hp}(e:Env0 P w K mg base A outer s H)(C:Addr)(us:List Value)(kw:List (Str×Value)):
  Env0 P w K mg base (A.under (.builtin "type.__call__" ⟨.ref C::us,kw⟩)) outer s H:=⟨by first |exact e.frames | (simpa [Around.under,Code.envs,Code.isFrame,pushEnvs] using e.frames),e.mod,e.bs,e.bsz,e.funs,e.frf,e.hok,e.bare⟩
section
variable {X:Cx} {pins:List (Addr×Obj)} {σ:St} {H:Hp} {s s':Shared}
theorem Inv.env0(I:Inv X pins σ H s):Env0 X.prog X.w X.K X.mg X.base X.A X.stack s H:=
 ⟨I.ok.frames,I.ok.mod,I.bs,ca I.ok.bsz I.sz,I.stack,I.stkFree,I.hok,I.bare⟩
theorem Inv.after{Q:VK}{u:Value}(I:Inv X pins σ H s)(h:CE X.stack X.prog X.w H s Q u s'):EP X pins σ Q u s':=by obtain ⟨v,H',os,bare,un,hok,r,q⟩:=h;obtain ⟨hh,g,d,t,os'⟩:=s';obtain rfl:os'=s.os:=os;exact ⟨v,H',I.call (h':=hh) (g':=g) (d':=d) (t':=t) (ch:=[]) un hok bare (λb z=>absurd z (by simp)),r,q⟩
end
def M7(sp:Sp)(dvs:List V)(E:XK)(t:TA):TE:=λσ H Q=>t σ H λvs H1=>sp (vs++dvs) H1 Q E
def Binds(K:PF)(fd:FuncData)(ps:List Str)(ds:List Value):Prop:=
 ∀(s:Shared)(us:List Value),K.In s.heap->(us++ds).length=ps.length->BindsTo s fd ⟨us,[]⟩ (ps.zip (us++ds))
theorem Binds.all{K:PF}{fd:FuncData}{ps:List Str}(h:∀us:List Value,us.length=ps.length->bindArgs fd ⟨us,[]⟩=pure (ps.zip us)):Binds K fd ps []:=λs us _ hl=>by
 rw[fe]at hl ⊢;exact .of_eq (h us hl)
def fW(CX:CXT)(X:Cx)(E:XK):Prop:=∀(pins:List (Addr×Obj))(σ:St)(H:Hp)(s:Shared)(e:Value)(s':Shared),Inv X pins σ H s->CX X.stack H s E e s'->X.xe e s'
section
variable {X:Cx} {CX:CXT} {k:Nat} {f C:Addr} {fd:FuncData} {ps:List Str} {sp:Sp} {dvs:List V} {ds:List Value} {E:XK} {x m:Str} {p pos apos:Pos} {e o:Expr} {es:List Expr} {ta:TE} {t:TA}
theorem M8{pins:List (Addr×Obj)}{σ:St}{H:Hp}{s:Shared}{Q:VK}{us:List Value}{vs:List V}(F:FnOk X.prog X.w X.K X.mg X.base CX k f fd ps sp)(hr:Room k X.A)(hb:Binds X.K fd ps ds)(hd:Vals dvs ds)(hx:fW CX X E)
  (I:Inv X pins σ H s) (r:Vals vs us) (h:sp (vs++dvs) H Q E):wpAny (model X.prog X.w) X.A (call (.ref f) us) (EP X pins σ Q) X.xe s:=by
 have r2:Vals (vs++dvs) (us++ds):=r.append hd;have hl:(us++ds).length=ps.length:=by rw[<-r2.length];exact F.len _ _ _ _ h
 refine wpAny_call (codeAny_mono (F.run X.A X.stack s H ⟨us,[]⟩ (us++ds) (vs++dvs) Q E hr I.env0 (hb s us I.kIn hl) r2 h) λr s' hq=>?_);cases r with
 |error e=>exact hx pins σ H s e s' I hq
 |ok fl=>
  cases fl with
  |ret u=>exact I.after hq
  |next=>exact False.elim hq
  |brk=>exact False.elim hq
  |cont=>exact False.elim hq
theorem M9(F:FnOk X.prog X.w X.K X.mg X.base CX k f fd ps sp)(hr:Room k X.A)(hg:Gl X x)(hm:X.mg x=some (.ref f))(hk:PySem.W.keepIn X.K (.ref f)=true)(hb:Binds X.K fd ps ds)(hd:Vals dvs ds)(hx:fW CX X E)
  (ha:PA X (e::es) t) (hdb:(x==("__debug__":Str))=false:=by decide) (he:starEach (e::es) X.env=(false,eval e X.env)::starEach es X.env:=by rfl) (hpl:(backTo pos (starEach es X.env)).any (·.1)=false:=by rfl):
  PE X (.Call (.Name x p) (e::es) [] pos) (M7 sp dvs E t):=by
 intro pins s σ H Q I h;refine gd (pY I hg hm ?_ hdb);refine PySem.W.callWith_K (h₀:=X.base) I.ok.mod.kin hk (thn (ha pos pins s σ H _ I h) λus s1 ⟨vs,H1,I1,r,q⟩=>⟨I1.kIn,?_⟩) he hpl;exact M8 F hr hb hd hx I1 r q
structure Mk(K:PF)(C f:Addr):Prop where
 makes:PySem.W.makesIn K C=true
 init:PySem.W.findIn K (.ref C) "__init__"=some (some (.ref f))
 fn:PySem.W.isFn K (.ref f)=true
 kp:PySem.W.keepIn K (.ref C)=true
end
structure FnScope(N P:List Str)(sc:Scope):Prop where
 kind:sc.kind=.function
 co:sc.isCoroutine=false
 gen:sc.isGenerator=false
 nd:N.Nodup
 pre:N.take P.length=P
 par:∀x∈P,sc.names.lookup x=some .local\/sc.names.lookup x=some .cell
 nofree:∀y∈sc.names,y.2≠.free
theorem vA{kindOf:Str->Option NameKind}{x:Str}:∀{binds:List (Str×Value)}{m:Str->Option Value},(∀v,(x,v)∉binds)->bindL kindOf binds m x=m x
 |[],_,_=>rfl
 | (n,v)::r,m,h=>by
  unfold bindL;rw[vA λw hw=>h w (aT _ hw)];split
  ·have:x≠n:=by rintro rfl;exact h v aS
   simp[this]
  ·rfl
theorem vB{kindOf:Str->Option NameKind}{x:Str}:∀{binds:List (Str×Value)}{m:Str->Option Value},(∀v,(x,v)∉binds)->bindC kindOf binds m x=m x
 |[],_,_=>rfl
 | (n,v)::r,m,h=>by
  unfold bindC;rw[vB λw hw=>h w (aT _ hw)];split
  ·rfl
  ·have:x≠n:=by rintro rfl;exact h v aS
   simp[this]
theorem vC{kindOf:Str->Option NameKind}{x:Str}{v:Value}:∀{P:List Str}{vs:List Value}{i:Nat}{m:Str->Option Value},P.Nodup->P[i]?=some x->vs[i]?=some v->kindOf x=some .local->
  bindL kindOf (P.zip vs) m x=some v
 |[],_,_,_,_,h,_,_=>by simp at h
 |_::_,[],_,_,_,_,h,_=>by simp at h
 |p::P,w::vs,0,m,nd,h1,h2,hk=>by
  simp at h1 h2;subst h1;subst h2;show bindL kindOf ((p,w)::P.zip vs) m p=_;unfold bindL;rw[vA λv hv=>(fb.mp nd).1 (List.of_mem_zip hv).1,if_pos hk];simp
 |p::P,w::vs,i+1,m,nd,h1,h2,hk=>by
  show bindL kindOf ((p,w)::P.zip vs) m x=_;unfold bindL;exact vC (i:=i) (fb.mp nd).2 (by simpa using h1) (by simpa using h2) hk
theorem vD{kindOf:Str->Option NameKind}{x:Str}{v:Value}:∀{P:List Str}{vs:List Value}{i:Nat}{m:Str->Option Value},P.Nodup->P[i]?=some x->vs[i]?=some v->kindOf x≠some .local->
  bindC kindOf (P.zip vs) m x=some v
 |[],_,_,_,_,h,_,_=>by simp at h
 |_::_,[],_,_,_,_,h,_=>by simp at h
 |p::P,w::vs,0,m,nd,h1,h2,hk=>by
  simp at h1 h2;subst h1;subst h2;show bindC kindOf ((p,w)::P.zip vs) m p=_;unfold bindC;rw[vB λv hv=>(fb.mp nd).1 (List.of_mem_zip hv).1,if_neg hk];simp
 |p::P,w::vs,i+1,m,nd,h1,h2,hk=>by
  show bindC kindOf ((p,w)::P.zip vs) m x=_;unfold bindC;exact vD (i:=i) (fb.mp nd).2 (by simpa using h1) (by simpa using h2) hk
def start(N:List Str)(vs:List V):St:=vs.map some++List.replicate (N.length - vs.length) none
def eX(CX:CXT)(P:Program)(w:World)(K:PF)(mg:Str->Option Value)(base:Heap)(N:List Str)(qual:Str)(scope:Scope)(f:Addr)(cd:Value)(A:Around)(outer:List Env)(s:Shared)(H:Hp)(E:XK):Cx where
 prog:=P
 w:=w
 K:=K
 mg:=mg
 base:=base
 A:=A.deeper (envOfC qual scope s.heap.objs.size f cd)
 N:=N
 s₀:=s
 H₀:=H
 env:=envOfC qual scope s.heap.objs.size f cd
 outer:=outer
 stack:=envOfC qual scope s.heap.objs.size f cd::outer
 ex:=[]
 calm:=true
 fn:=λ_=>true
 pn:=[]
 xe:=λe s'=>wpAny (model P w) (A.deeper (envOfC qual scope s.heap.objs.size f cd)) (leaving (envOfC qual scope s.heap.objs.size f cd) e) (λ_ s''=>CX outer H s E e s'') (λe' s''=>CX outer H s E e' s'') s'
theorem vG{sc:Scope}{n:Nat}{x:Str}(h:sc.names.lookup x=some .cell):∃c,(cellsFrom n sc.names []).lookup x=some c:=by have q:=PySem.W.cellsFrom_some sc.names n [] (.inl h);exact ci.mp q
theorem Nb{CX:CXT}{P:Program}{w:World}{K:PF}{mg:Str->Option Value}{base:Heap}{N ps:List Str}{qual:Str}{scope:Scope}{f:Addr}{cd:Value}{A:Around}{outer:List Env}{s s1:Shared}{H:Hp}{E:XK}{us:List Value}{vs:List V}
  (S:FnScope N ps scope) (hd:A.handled=none) (e0:Env0 P w K mg base A outer s H) (hl:vs.length=ps.length) (r:Vals vs us)
  (x:InCallC s s.heap.objs.size (bindL (envOfC qual scope s.heap.objs.size f cd).kindOf (ps.zip us) λ_=>none) (cellsFrom (s.heap.objs.size+1) scope.names []) (bindC (envOfC qual scope s.heap.objs.size f cd).kindOf (ps.zip us) λ_=>none) s1):
  Inv (eX CX P w K mg base N qual scope f cd A outer s H E) [] (start N vs) H s1:=by
 have hpl:ps.length<=N.length:=by have:=c6 List.length S.pre;rw[de]at this;omega
 obtain ⟨h1,tk,rfl,hk⟩:=x.done;have noA:∀b:Addr,b∉(eX CX P w K mg base N qual scope f cd A outer s H E).ex:=λb z=>absurd (show b∈([]:List Addr) from z) (by simp);refine ⟨⟨e0.mod,S.kind,rfl,rfl,av _,λy z c h1 h2=>?_,λy hy=>?_,λy c _ h=>?_,λ_=>hd,Around.frames_deeper e0.frames,.inr ⟨rfl,rfl⟩,λb z=>absurd z (noA b),e0.bs,e0.bsz,λb _ _=>noA b,λb z=>absurd z (noA b),e0.funs,e0.frf⟩,
  rfl,e0.bare,Un.kept hk,⟨_,x.toInCall.ns,λi y v h1 h2 h3=>?_⟩,λy c h=>⟨_,x.cell y c h⟩,e0.hok.fresh (av _),λy c h=>?_,λp hp=>absurd (show p∈([]:List (Addr×Obj)) from hp) (by simp),e0.hok.kept hk,?_⟩
 ·exact name_of_addr x.apart (dv h1) (dv h2)
 ·have hy:scope.names.lookup y=some .cell\/scope.names.lookup y=some .free:=hy;rcases hy with hy |hy
  ·exact vG hy
  ·exact absurd rfl (S.nofree _ (dv hy))
 ·exact Nat.le_of_lt (x.above y c (dv h))
 ·have hi:i < vs.length:=by
   unfold start at h2;by_cases hi:i < vs.length
   ·exact hi
   ·rw[List.getElem?_append_right (by simpa using hi)]at h2;rw[List.getElem?_replicate]at h2;split at h2 <;> cases h2
  have ha:vs[i]?=some v:=by
   unfold start at h2;rw[et (by simpa using hi),bP]at h2;cases e:vs[i]? with
   |none=>rw[e]at h2;cases h2
   |some a=>rw[e]at h2;cases h2;rfl
  obtain ⟨u,hu,rv⟩:=r.get ha;have hp:ps[i]?=some y:=by rw[<-S.pre,List.getElem?_take_of_lt (by omega)];exact h1
  have ndP:ps.Nodup:=by rw[<-S.pre];exact S.nd.sublist (List.take_sublist _ _)
  refine ⟨u,rv,?_⟩;rcases S.par y (cw hp) with k |k
  ·exact .inl ⟨k,vC ndP hp hu k⟩
  ·obtain ⟨c,e⟩:=vG (n:=s.heap.objs.size+1) k;refine .inr ⟨.inl k,c,e,?_⟩;have q:=x.cell y c e;rw[vD ndP hp hu (by show scope.names.lookup y≠_;rw[k];decide)]at q;exact q
 ·exact e0.hok.fresh (Nat.le_of_lt (x.above y c (dv h)))
 ·unfold start;show _=N.length;rw[bp,ax,List.length_replicate];omega
theorem Nf{CX:CXT}{P:Program}{w:World}{K:PF}{mg:Str->Option Value}{base:Heap}{k:Nat}{f:Addr}{name qual:Str}{params:Arguments}{body:List Stmt}{scope:Scope}{dV kV doc pm cdv ct oc:Value}{an od:Option Addr}
  {osl:Array (Option Value)} {N ps:List Str} {sp:Sp} (lk:K.lookup f=some ⟨oc,od,.func (PySem.W.fnOf name qual params body scope dV kV doc pm an cdv ct),osl⟩) (hcd:PySem.W.codeIn K cdv qual=true) (S:FnScope N ps scope)
  (len:∀vs H Q E,sp vs H Q E->vs.length=ps.length)
  (hbody:∀(A:Around)(outer:List Env)(s:Shared)(H:Hp)(vs:List V)(Q:VK)(E:XK),Room k (A.deeper (envOfC qual scope s.heap.objs.size f cdv))->sp vs H Q E->
   ∃t,PSs (eX CX P w K mg base N qual scope f cdv A outer s H E) body t/\t { nx:=λ_ H'=>Q .non H',rt:=Q } (start N vs) H):
  FnOk P w K mg base CX (k+1) f (PySem.W.fnOf name qual params body scope dV kV doc pm an cdv ct) ps sp:=by
 refine ⟨len,λA outer s H args us vs Q E hr e0 hb r hsp=>?_⟩;have hl:=len _ _ _ _ hsp;have KX:K.In s.heap:=e0.mod.kin.keeps λb o e=>(e0.bs b o e).1;have lim:s.heap.NoLimit:=e0.mod.nolimit.keeps λb o e=>(e0.bs b o e).1;have hkind:∀y∈ps.zip us,scope.names.lookup y.1=some .local\/(scope.names.lookup y.1=some .cell/\((cellsFrom (s.heap.objs.size+1) scope.names []).lookup y.1).isSome=true):=λ⟨n,v⟩ hy=>by
  rcases S.par n (List.of_mem_zip hy).1 with q |q
  ·exact .inl q
  ·exact .inr ⟨q,PySem.W.cellsFrom_some _ _ _ (.inl q)⟩
 refine codeAny_call_function hr.depth (KX _ _ lk) rfl S.co S.gen rfl (PySem.W.codeRec_of KX hcd) (hb _ _ _ _ ?_);refine wpAny_newFunctionEnv_cells S.kind hkind λenv he s1 x=>?_;subst he;refine ⟨lim.keeps x.toInCall.keep,codeAny_func ?_⟩;obtain ⟨t,ht,hq⟩:=hbody A outer s H vs Q E (hr.deeper _) hsp;have I:Inv (eX CX P w K mg base N qual scope f cdv A outer s H E) [] (start N vs) H s1:=Nb S hr.hd e0 hl r x;refine b9 (ht [] s1 (start N vs) H _ I hq) (λfl s' hs=>?_) λe s' hs=>hs;have fin:∀{σ':St}{H':Hp}{v:V}{u:Value},Inv (eX CX P w K mg base N qual scope f cdv A outer s H E) [] σ' H' s'->RelV v u->Q v H'->CE outer P w H s Q u s':=
  λ{σ' H' v u} J rv q=>⟨v,H',J.os,J.bare,J.base,J.hok,rv,q⟩
 cases fl with
 |ret u=>
  obtain ⟨v,σ',H',J,rv,q⟩:=hs;exact fin J rv q
 |next=>
  obtain ⟨σ',H',J,q⟩:=hs;exact fin (v:=V.non) (u:=Value.none) J rfl q
 |brk=>
  obtain ⟨_,_,_,q⟩:=hs;exact False.elim q
 |cont=>
  obtain ⟨_,_,_,q⟩:=hs;exact False.elim q
section
variable {X:Cx} {x:Str} {p pos:Pos} {e:Expr} {es:List Expr} {t:TA} {id T:String} {r:List V->Hp->VK->Prop}
def tCB(r:List V->Hp->VK->Prop)(t:TA):TE:=λσ H Q=>t σ H λvs H1=>r vs H1 Q
theorem lB (hc:bA X (.builtin id) r) (hg:Gl X x) (hm:X.mg x=none) (hv:bootBuiltins x=some (.builtin id)) (ha:PA X (e::es) t) (hn:x≠"__name__":=by decide) (hdb:(x==("__debug__":Str))=false:=by decide)
  (he:starEach (e::es) X.env=(false,eval e X.env)::starEach es X.env:=by rfl) (hpl:(backTo pos (starEach es X.env)).any (·.1)=false:=by rfl):PE X (.Call (.Name x p) (e::es) [] pos) (tCB r t):=by
 intro pins s σ H Q I h;refine gd (fQ I hg hm hv ?_ hn hdb);exact PyProof.Rows.callWith_builtin1 (thn (ha pos pins s σ H _ I h) λus s1 ⟨vs,H1,I1,r1,q1⟩=>hc pins s1 σ H1 vs us Q I1 r1 q1) he hpl
theorem iV (hc:bA X (.type T) r) (hg:Gl X x) (hm:X.mg x=none) (hv:bootBuiltins x=some (.type T)) (ha:PA X (e::es) t) (hn:x≠"__name__":=by decide) (hdb:(x==("__debug__":Str))=false:=by decide)
  (he:starEach (e::es) X.env=(false,eval e X.env)::starEach es X.env:=by rfl) (hpl:(backTo pos (starEach es X.env)).any (·.1)=false:=by rfl):PE X (.Call (.Name x p) (e::es) [] pos) (tCB r t):=by
 intro pins s σ H Q I h;refine gd (fQ I hg hm hv ?_ hn hdb);exact ff (thn (ha pos pins s σ H _ I h) λus s1 ⟨vs,H1,I1,r1,q1⟩=>hc pins s1 σ H1 vs us Q I1 r1 q1) he hpl
end
end L2
namespace HT
open PySem PyProof.Rows
section
variable {prog:Program} {w:World} {A:Around} {E:Value->Shared->Prop} {s:Shared}
theorem Ng{t b:Addr}{vs ws:List Value}{Q:Value->Shared->Prop}(ht:IsTup s.heap t vs.toArray)(hb:IsTup s.heap b ws.toArray)(hv:vs≠[])
  (h1:ws=[]->Q (.ref t) s) (h2:ws≠[]->Q (.ref s.heap.objs.size) { s with heap:=s.heap.push { cls:=.type "tuple",data:=.seq (vs++ws).toArray } })
  (hsz:vs.length+ws.length<=sizeLine):wpAny (model prog w) A (binaryOp .Add (.ref t) (.ref b)) Q E s:=by
 obtain ⟨⟨cls,dd,data,sl⟩,ho,hc,n,hd⟩:=id ht;obtain ⟨⟨cls2,dd2,data2,sl2⟩,ho2,hc2,n2,hd2⟩:=id hb;simp only at hc hd hc2 hd2;subst hc hd hc2 hd2;have e:vs.toArray++ws.toArray=(vs++ws).toArray:=by simp
 by_cases hw:ws=[]
 ·exact concat_meets ⟨_,ho,rfl⟩ ⟨_,ho2,rfl⟩ noFill_tuple_add seq_tuple_add PySem.F.slot_tuple_add PySem.F.entry_tuple_add (PySem.F.args_tuple_add_2 _ _)
   (tuple_addW1 t b vs.toArray ws.toArray n n2 dd dd2 sl sl2 (by simpa using hv) (by simp[hw])) ⟨ho,ho2,h1 hw⟩
 ·refine concat_meets ⟨_,ho,rfl⟩ ⟨_,ho2,rfl⟩ noFill_tuple_add seq_tuple_add PySem.F.slot_tuple_add PySem.F.entry_tuple_add (PySem.F.args_tuple_add_2 _ _)
   (tuple_addW2 t b vs.toArray ws.toArray n n2 dd dd2 sl sl2 (by simpa using hv) (by simpa using hw) (by rw[List.size_toArray,List.size_toArray];exact hsz)) ⟨ho,ho2,?_⟩
  rw[e];exact h2 hw
noncomputable def sIx(n d:Nat):Option Int->Nat
 |none=>d
 |some v=>if v < 0 then (v+(n:Int)).toNat else min v.toNat n
theorem vH(n d k:Nat):sIx n d (some (k:Int))=min k n:=by show (if (k:Int) < 0 then ((k:Int)+(n:Int)).toNat else min (k:Int).toNat n)=min k n;rw[if_neg (by omega),Int.toNat_natCast]
theorem vI(n d:Nat)(hd:d<=n)(o:Option Int):sIx n d o<=n:=by
 cases o with
 |none=>exact hd
 |some v=>
  show (if v < 0 then (v+(n:Int)).toNat else min v.toNat n)<=n;by_cases hv:v < 0
  ·rw[if_pos hv];omega
  ·rw[if_neg hv];exact Nat.min_le_right _ _
theorem vJ(v:Int)(n d:Nat):(if v < 0 then max (v+(n:Int)) 0 else min v (n:Int))=((sIx n d (some v):Nat):Int):=by
 show (if v < 0 then max (v+(n:Int)) 0 else min v (n:Int))=(((if v < 0 then (v+(n:Int)).toNat else min v.toNat n):Nat):Int);by_cases hv:v < 0
 ·simp only[if_pos hv];omega
 ·simp only[if_neg hv];omega
theorem Nh(lo hi:Option Int)(n:Nat):Builtin.Slice.sliceAdjust lo hi 1 (n:Int)=(((sIx n 0 lo:Nat):Int),((sIx n n hi:Nat):Int)):=by
 have h1:¬((1:Int) < 0):=by omega
 unfold Builtin.Slice.sliceAdjust;simp only[h1,if_false];refine Prod.ext ?_ ?_
 ·cases lo with
  |none=>rfl
  |some v=>exact vJ v n 0
 ·cases hi with
  |none=>rfl
  |some v=>exact vJ v n n
theorem Ni(i j:Nat):Builtin.Slice.slicePlaces (i:Int) (j:Int) 1=j - i:=by
 unfold Builtin.Slice.slicePlaces;have h1:(1:Int) > 0:=by omega
 simp only[h1,if_true,Int.ediv_one];split <;> omega
theorem vK{v:Value}{o:Option Int}{Q:Option Int->Shared->Prop}(p:IsPart v o)(h:Q o s):wpAny (model prog w) A (Builtin.Slice.slicePartIndex v) Q E s:=by
 cases p with
 |none=>exact slicePart_none h
 |int i t=>exact slicePart_int h
theorem vL{sl:Addr}{vl vu:Value}{lo hi:Option Int}{n:Nat}{Q:Int×Int×Nat->Shared->Prop}(hs:s.heap.IsSliceOf sl vl vu .none)(pl:IsPart vl lo)(pu:IsPart vu hi)
  (h:Q (((sIx n 0 lo:Nat):Int),1,sIx n n hi - sIx n 0 lo) s):wpAny (model prog w) A (Builtin.Slice.sliceApplied (.ref sl) (pure (n:Int))) Q E s:=by
 obtain ⟨os,hos,hcs,hds⟩:=id hs;unfold Builtin.Slice.sliceApplied Builtin.Slice.sliceFields;refine wpAny_bind (wpAny_bind (wpAny_field hos hds (x:=vl) rfl (wpAny_bind (wpAny_field hos hds (x:=vu) rfl (wpAny_bind (wpAny_field hos hds (x:=.none) rfl (wpAny_pure ?_)))))));refine wpAny_bind (slicePart_none ?_);show wpAny _ _ (if ((1:Int)==0)=true then _ else _) _ _ s;rw[if_neg (by decide)];refine wpAny_bind (vK pl (wpAny_bind (vK pu (wpAny_bind (wpAny_pure ?_)))));show wpAny _ _ (match Builtin.Slice.sliceAdjust lo hi 1 (n:Int) with | (lo,hi)=>pure (lo,(1:Int),Builtin.Slice.slicePlaces lo hi 1)) _ _ s;rw[Nh lo hi n];show wpAny _ _ (pure (((sIx n 0 lo:Nat):Int),(1:Int),Builtin.Slice.slicePlaces ((sIx n 0 lo:Nat):Int) ((sIx n n hi:Nat):Int) 1)) _ _ s;rw[Ni];exact wpAny_pure h
theorem Nj(xs:Array Value)(i k:Nat):((List.range k).filterMap λ(m:Nat)=>xs[((i:Int)+(m:Int) * 1).toNat]?).toArray=((xs.toList.drop i).take k).toArray:=by
 have e:(λ(m:Nat)=>xs[((i:Int)+(m:Int) * 1).toNat]?)=λm=>xs[i+m]?:=by
  funext m;have:((i:Int)+(m:Int) * 1).toNat=i+m:=by omega
  rw[this]
 rw[e];have:=pick_run xs i k;rw[List.filterMap_map]at this;have e2:((λx=>xs[x]?)∘λx=>i+x)=λm=>xs[i+m]?:=rfl;rw[e2]at this;rw[this]
theorem Nk{t sl:Addr}{items:Array Value}{vl vu:Value}{lo hi:Option Int}{Q:Value->Shared->Prop}(ht:IsTup s.heap t items)(hs:s.heap.IsSliceOf sl vl vu .none)(pl:IsPart vl lo)(pu:IsPart vu hi)
  (hw:¬(sIx items.size 0 lo=0/\sIx items.size items.size hi=items.size))
  (h:Q (.ref s.heap.objs.size) { s with heap:=s.heap.push { cls:=.type "tuple",data:=.seq ((items.toList.drop (sIx items.size 0 lo)).take (sIx items.size items.size hi - sIx items.size 0 lo)).toArray } })
  (hsz:items.size<=sizeLine):wpAny (model prog w) A (getItem (.ref t) (.ref sl)) Q E s:=by
 have htake:sizeOk (.seq ((items.toList.drop (sIx items.size 0 lo)).take (sIx items.size items.size hi - sIx items.size 0 lo)).toArray):=by show ((items.toList.drop (sIx items.size 0 lo)).take (sIx items.size items.size hi - sIx items.size 0 lo)).toArray.size<=sizeLine;rw[List.size_toArray,List.length_take,List.length_drop,Array.length_toList];omega
 have hj:sIx items.size items.size hi<=items.size:=vI _ _ (Nat.le_refl _) hi;obtain ⟨os,hos,hcs,hds⟩:=id hs;have hTs:s.TypeIs (.ref sl) "slice":=⟨os,hos,hcs⟩;unfold getItem;try with_reducible refine wpAny_holding ?_
 first |refine wpAny_bind (wpAny_pure ?_) |skip
 refine wpAny_bind (wpAny_sequenceKey ht.typeIs (by decide) ?_);refine wpAny_bind (wpAny_callSpecial?_slot (name:=Str.ofString "__getitem__") ht.typeIs PyProof.Rows.slot_tuple_getitem
  (wpAny_call_entry PyProof.Rows.slot_tuple_getitem ht.typeIs entry_tuple_getitem ?_ (args_tuple_getitem _ _)))
 show wpAny _ _ (Builtin.Tuple.tupleItemsOf (.ref t) >>= _) _ _ s;refine wpAny_bind (tupleItemsOf_ ht ?_);refine wpAny_bind (wpAny_typeOf hTs ?_);rw[if_pos (by decide)];refine wpAny_bind (vL hs pl pu ?_);have hno:¬((((sIx items.size 0 lo:Nat):Int)==0&&(1:Int)==1&&(sIx items.size items.size hi - sIx items.size 0 lo)==items.size)=true):=by intro q;rw[Bool.and_eq_true,Bool.and_eq_true]at q;have q1:((sIx items.size 0 lo:Nat):Int)=0:=eq_of_beq q.1.1;have q2:sIx items.size items.size hi - sIx items.size 0 lo=items.size:=eq_of_beq q.2;exact hw ⟨by omega,by omega⟩
 show wpAny _ _ (if (((sIx items.size 0 lo:Nat):Int)==0&&(1:Int)==1&&(sIx items.size items.size hi - sIx items.size 0 lo)==items.size)=true then _ else _) _ _ s;rw[if_neg hno,Nj];first
  |exact wpAny_bind (m:=Builtin.Tuple.tupleExact _) (wpAny_newObj_type (wpAny_pure ⟨_,rfl,wpAny_pure h⟩) htake)
  |exact wpAny_bind (m:=Builtin.Tuple.tupleExact _) (wpAny_newObj_type (wpAny_bind (wpAny_pure (wpAny_pure ⟨_,rfl,wpAny_pure h⟩))) htake)
  |exact wpAny_bind (wpAny_bind (m:=Builtin.Tuple.tupleExact _) (wpAny_newObj_type (wpAny_pure (wpAny_pure ⟨_,rfl,wpAny_pure h⟩)) htake))
  |exact wpAny_bind (wpAny_bind (m:=Builtin.Tuple.tupleExact _) (wpAny_newObj_type (wpAny_pure ⟨_,rfl,wpAny_pure h⟩) htake))
end
end HT
namespace L2
open PySem PySem.Spec PyProof.Rows
abbrev TO:=St->Hp->(Option Int->Hp->Prop)->Prop
def PO(X:Cx)(e:Option Expr)(t:TO):Prop:=
 ∀(pins:List (Addr×Obj))(s:Shared)(σ:St)(H:Hp)(Q:Option Int->Hp->Prop),Inv X pins σ H s->t σ H Q->
  wpAny (model X.prog X.w) X.A (evalPart e X.env) (λu s'=>∃o H',Inv X pins σ H' s'/\IsPart u o/\Q o H') X.xe s
def Nm:TO:=λ_ H Q=>Q none H
def Np(t:TE):TO:=λσ H Q=>t σ H λx H1=>∃i,x=.int i/\Q (some i) H1
theorem intsAre_of{ns:List Int}:∀{us:List Value},Vals (ns.map V.int) us->IntsAre us ns:=by
 induction ns with
 |nil=>intro us r;rw[fN]at r;cases r;exact .nil
 |cons n ns ih=>
  intro us r;rw[cy]at r;cases r with
  |cons r1 r2=>
   obtain ⟨t,e⟩:=r1;subst e;exact .cons n t (ih r2)
section
variable {X:Cx} {e:Expr} {te:TE} {lo hi:Option Expr} {tl th:TO} {pos p2:Pos}
theorem Nq:PO X none Nm:=by intro pins s σ H Q I h;rw[evalPart_none];exact am ⟨none,H,I,.none,h⟩
theorem Nr(h:PE X e te):PO X (some e) (Np te):=by intro pins s σ H Q I hw;rw[evalPart_some];refine thn (h pins s σ H _ I hw) λu s1 ⟨x,H1,I1,r1,q1⟩=>?_;obtain ⟨i,rfl,q⟩:=q1;obtain ⟨t,rfl⟩:=r1;exact ⟨some i,H1,I1,.int i t,q⟩
def SlR(X:Cx)(r:V->Option Int->Option Int->Hp->VK->Prop):Prop:=
 ∀(pins:List (Addr×Obj))(s:Shared)(σ:St)(H:Hp)(x:V)(v vl vu:Value)(lo hi:Option Int)(sl:Addr)(Q:VK),Inv X pins σ H s->RelV x v->s.heap.IsSliceOf sl vl vu .none->IsPart vl lo->IsPart vu hi->r x lo hi H Q->
  ∃T id,typeLookup (.type T) "__getitem__"=pure (some (.builtin id))/\s.TypeIs v T/\wpAny (model X.prog X.w) X.A (getItem v (.ref sl)) (EP X pins σ Q) X.xe s
def tSl(r:V->Option Int->Option Int->Hp->VK->Prop)(te:TE)(tl th:TO):TE:=λσ H Q=>te σ H λx H1=>tl σ H1 λl H2=>th σ H2 λu H3=>r x l u H3 Q
theorem Nt{r:V->Option Int->Option Int->Hp->VK->Prop}(hr:SlR X r)(he:PE X e te)(hl:PO X lo tl)(hu:PO X hi th):PE X (.Subscript e (.Slice lo hi none p2) pos) (tSl r te tl th):=by intro pins s σ H Q I h;refine Subscript_ (thn (he pins s σ H _ I h) λv s1 ⟨x,H1,I1,r1,q1⟩=>?_);refine wpAny_Slice (thn (hl pins s1 σ H1 _ I1 q1) λvl s2 ⟨l,H2,I2,pl,q2⟩=>thn (hu pins s2 σ H2 _ I2 q2) λvu s3 ⟨u,H3,I3,pu,q3⟩=>?_);rw[evalPart_none];refine am ?_;have I4:Inv X pins σ H3 { s3 with heap:=s3.heap.push { cls:=.type "slice",data:=.fields #[vl,vu,.none] } }:=I3.kept (t':=s3.toks) λb ob q=>al _ q;obtain ⟨T,id,hT,ht,hg⟩:=hr pins { s3 with heap:=s3.heap.push { cls:=.type "slice",data:=.fields #[vl,vu,.none] } } σ H3 x v vl vu l u s3.heap.objs.size Q I4 r1 (Heap.IsSliceOf.new ..) pl pu q3;show wpAny (model X.prog X.w) X.A (subscriptTail e (.Slice lo hi none p2) v (.ref s3.heap.objs.size)) (EP X pins σ Q) X.xe { s3 with heap:=s3.heap.push { cls:=.type "slice",data:=.fields #[vl,vu,.none] } };exact tail_any (ops:=[.ref s3.heap.objs.size,v]) ht hT hg (by with_unfolding_all rfl)
noncomputable def dg(xs:List V)(lo hi:Option Int):List V:=(xs.drop (HT.sIx xs.length 0 lo)).take (HT.sIx xs.length xs.length hi - HT.sIx xs.length 0 lo)
theorem vM(xs:List V)(lo hi:Option Int):(dg xs lo hi).length<=xs.length:=by unfold dg;rw[de,eS];omega
noncomputable def Nu(K:PF):V->Option Int->Option Int->Hp->VK->Prop:=λx lo hi H Q=>∃a xs,x=.ref a/\SqT K H a xs/\
 ¬(HT.sIx xs.length 0 lo=0/\HT.sIx xs.length xs.length hi=xs.length)/\∀p,H p=none->Q (.ref p) (upd H p (.tup (dg xs lo hi)))
theorem Nv:SlR X (Nu X.K):=by
 intro pins s σ H x v vl vu lo hi sl Q I rx hs pl pu h;obtain ⟨a,xs,rfl,hx,hw,q⟩:=h;cases rx;obtain ⟨its,r,ht,hz⟩:=I.tuple hx;have hlen:its.toArray.size=xs.length:=by rw[ap];exact r.length.symm
 refine ⟨"tuple",_,eM.lookup,ht.typeIs,?_⟩;refine HT.Nk ht hs pl pu (by rw[hlen];exact hw) ?_ (by rw[hlen];exact hz);rw[hlen];refine ⟨.ref s.heap.objs.size,_,I.laid (t':=s.toks) (o:=.tup (dg xs lo hi)) (λb ob q=>al _ q) (av _) ?_,rfl,q _ (I.hok.fresh (av _))⟩;exact ⟨ca (vM xs lo hi) hz,_,(r.drop (HT.sIx xs.length 0 lo)).take (HT.sIx xs.length xs.length hi - HT.sIx xs.length 0 lo),IsTup.new _ _⟩
def Nx(K:PF):R2:=λx y H Q=>∃a b xs ys,x=.ref a/\y=.ref b/\SqT K H a xs/\SqT K H b ys/\xs≠[]/\xs.length+ys.length<=sizeLine/\
 (ys=[]->Q (.ref a) H)/\(ys≠[]->∀p,H p=none->Q (.ref p) (upd H p (.tup (xs++ys))))
theorem Vals.nil_iff{xs:List V}{us:List Value}(r:Vals xs us):us=[]↔xs=[]:=by
 cases r with
 |nil=>simp
 |cons _ _=>simp
theorem Ny:OpR X (binaryOp .Add) (Nx X.K):=by intro pins s σ H x y v u Q I rx ry h;obtain ⟨a,b,xs,ys,rfl,rfl,ha,hb,hx,hz,q1,q2⟩:=h;cases rx;cases ry;obtain ⟨its,r1,p1,_⟩:=I.tuple ha;obtain ⟨its2,r2,p2,_⟩:=I.tuple hb;refine HT.Ng p1 p2 (λz=>hx (r1.nil_iff.mp z)) (λz=>⟨.ref a,H,I,rfl,q1 (r2.nil_iff.mp z)⟩) (λz=>?_) (by rw[<-r1.length,<-r2.length];exact hz);refine ⟨.ref s.heap.objs.size,_,I.laid (t':=s.toks) (o:=.tup (xs++ys)) (λb ob q=>al _ q) (av _) ?_,rfl,q2 (λw=>z (r2.nil_iff.mpr w)) _ (I.hok.fresh (av _))⟩;exact ⟨by rw[bp];exact hz,_,r1.append r2,IsTup.new _ _⟩
end
noncomputable def ixN(n:Nat)(i:Int):Option Nat:=if 0<=i then (if i < n then some i.toNat else none) else if -(n:Int)<=i then some (i+n).toNat else none
def atI{α:Type}(xs:List α)(i:Int):Option α:=(ixN xs.length i).bind λj=>xs[j]?
theorem vN{n:Nat}{i:Int}{j:Nat}(h:ixN n i=some j):seqIndex? i n=some j/\j < n/\-(n:Int)<=i/\i < n:=by
 unfold ixN at h;by_cases h0:0<=i
 ·rw[if_pos h0]at h;by_cases h1:i < n
  ·rw[if_pos h1]at h;have e:i.toNat=j:=cp h;exact ⟨by rw[seqIndex_of h0 h1,e],by omega,by omega,h1⟩
  ·rw[if_neg h1]at h;cases h
 ·rw[if_neg h0]at h;by_cases h1:-(n:Int)<=i
  ·rw[if_pos h1]at h;have e:(i+n).toNat=j:=cp h;exact ⟨by rw[seqIndex_neg (by omega) h1,e],by omega,h1,by omega⟩
  ·rw[if_neg h1]at h;cases h
theorem ql{α:Type}{xs:List α}{i:Int}{v:α}(h:atI xs i=some v):∃j,seqIndex? i xs.length=some j/\xs[j]?=some v/\j < xs.length/\-(xs.length:Int)<=i/\i < xs.length:=by
 unfold atI at h;cases e:ixN xs.length i with
 |none=>rw[e]at h;cases h
 |some j=>
  rw[e]at h;obtain ⟨h1,h2,h3,h4⟩:=vN e;exact ⟨j,h1,h,h2,h3,h4⟩
theorem dh{α:Type}{xs:List α}{j:Nat}{v:α}(h:xs[j]?=some v):atI xs (j:Int)=some v:=by
 have hj:j < xs.length:=(a9.mp h).1;have e:ixN xs.length (j:Int)=some j:=by unfold ixN;rw[if_pos (by omega),if_pos (by omega)];simp
 unfold atI;rw[e];exact h
def vO(b:Expr):Prop:=∀o i,subscripted b false o i=operate [o,i] (getItem o i)
def IxR(X:Cx)(r:R2):Prop:=
 ∀(value slice:Expr)(pins:List (Addr×Obj))(s:Shared)(σ:St)(H:Hp)(x y:V)(v u:Value)(Q:VK),Inv X pins σ H s->RelV x v->RelV y u->r x y H Q->
  subscripted slice false v u=operate [v,u] (getItem v u)->wpAny (model X.prog X.w) X.A (subscriptTail value slice v u) (EP X pins σ Q) X.xe s
def MtR(X:Cx)(id:String)(r:V->List V->Hp->VK->Prop):Prop:=
 ∀(pins:List (Addr×Obj))(s:Shared)(σ:St)(H:Hp)(x:V)(xs:List V)(v:Value)(us:List Value)(Q:VK),Inv X pins σ H s->RelV x v->Vals xs us->r x xs H Q->
  wpAny (model X.prog X.w) X.A (call (.builtin id) (v::us)) (EP X pins σ Q) X.xe s
section
variable {X:Cx} {a b:Expr} {ta tb:TE} {pos:Pos}
theorem Nz{r:R2}(hr:IxR X r)(ha:PE X a ta)(hb:PE X b tb)(hs:vO b):PE X (.Subscript a b pos) (tOp r ta tb):=by intro pins s σ H Q I h;exact Subscript_ (qg ha hb I h λv u s2 x y H2 I2 rx ry q=>hr a b pins s2 σ H2 x y v u Q I2 rx ry q (hs _ _))
def NB(K:PF):R2:=λx y H Q=>∃p xs i v,x=.ref p/\y=.int i/\SqL K H p xs/\atI xs i=some v/\Q v H
def NK(K:PF):R2:=λx y H Q=>∃p xs i v,x=.ref p/\y=.int i/\SqT K H p xs/\atI xs i=some v/\Q v H
def NP:R2:=λx y H Q=>∃z i c,x=.str z/\y=.int i/\z.length<=sizeLine/\atI z.cps.toList i=some c/\Q (.str ⟨#[c]⟩) H
theorem NQ:IxR X (NB X.K):=by
 intro value slice pins s σ H x y v u Q I rx ry h hs;obtain ⟨p,xs,i,z,rfl,rfl,hq,he,q⟩:=h;cases rx;obtain ⟨t,rfl⟩:=ry;obtain ⟨its,r,pl,hz⟩:=I.list hq;obtain ⟨j,h1,h2,h3,h4,h5⟩:=ql he;obtain ⟨w,ew,rw'⟩:=r.get h2;have hl:=r.length;have hn:=fU;have fin:EP X pins σ Q w s:=⟨z,H,I,rw',q⟩;by_cases h0:0<=i
 ·have hj:i.toNat=j:=by
   rw[seqIndex_of h0 h5]at h1;exact cp h1
  exact item_listR pl.isList h0 (by omega) (by rw[hj];simpa using ew) fin hs
 ·have hj:(i+(its.toArray.size:Int)).toNat=j:=by
   rw[seqIndex_neg (by omega) h4]at h1;rw[ap,<-hl];exact cp h1
  exact subscriptTail_builtinR (x:=w) pl.isList.typeIs slot_list_getitem.lookup
   (wpAny_getItem_list_neg (Q:=λr s'=>r=w/\EP X pins σ Q r s') pl.isList (by omega) (by rw[ap] <;> omega) (by omega) (by rw[hj];simpa using ew) ⟨rfl,fin⟩) hs
theorem NT:IxR X (NK X.K):=by
 intro value slice pins s σ H x y v u Q I rx ry h hs;obtain ⟨p,xs,i,z,rfl,rfl,hq,he,q⟩:=h;cases rx;obtain ⟨t,rfl⟩:=ry;obtain ⟨its,r,pl,hz⟩:=I.tuple hq;obtain ⟨j,h1,h2,h3,h4,h5⟩:=ql he;obtain ⟨w,ew,rw'⟩:=r.get h2;have hl:=r.length;have hn:=fU;have fin:EP X pins σ Q w s:=⟨z,H,I,rw',q⟩;exact subscriptTail_builtinR (x:=w) pl.typeIs slot_tuple_getitem.lookup
  (getItem_tuple (j:=j) (Q:=λr s'=>r=w/\EP X pins σ Q r s') pl (by omega) (by omega) (by rw[ap,<-hl];exact h1) (by simpa using ew) ⟨rfl,fin⟩) hs
theorem NZ:IxR X NP:=by
 intro value slice pins s σ H x y v u Q I rx ry h hs;obtain ⟨z,i,c,rfl,rfl,hz,he,q⟩:=h;obtain ⟨t,rfl⟩:=rx;obtain ⟨t',rfl⟩:=ry;obtain ⟨j,h1,h2,h3,h4,h5⟩:=ql he;have hl:z.cps.toList.length=z.length:=by simp[Str.length]
 rw[hl]at h1 h4 h5;have hn:=fU;exact tail_any (typeIs_str s z t) slot_str_getitem.lookup (getItem_str (c:=c) (by
  have e1:decide (i < -(2 ^ 63:Int))=false:=ck (by omega);have e2:decide (i≥2 ^ 63)=false:=ck (by omega);rw[e1,e2,Bool.or_false]) (by rw[h1];simpa using h2) ⟨.str ⟨#[c]⟩,H,I.tok _,⟨_,rfl⟩,q⟩) hs
theorem N5 (its:List Value) (n j:Nat) (u:Value):Obj.mapSeq (·.setIfInBounds j u) { cls:=.type "list",data:=.seq its.toArray n }={ cls:=.type "list",data:=.seq (its.set j u).toArray n }:=by simp[Obj.mapSeq]
theorem Inv.lst{pins:List (Addr×Obj)}{σ:St}{H:Hp}{s:Shared}{p:Addr}{xs:List V}(I:Inv X pins σ H s)(h:H p=some (.lst xs)):
  ∃(its:List Value) (n:Nat),Vals xs its/\s.heap.get? p=some { cls:=.type "list",data:=.seq its.toArray n }/\xs.length<=sizeLine:=by
 obtain ⟨z,its,n,r,e⟩:=I.hok p _ h;exact ⟨its,n,r,e,z⟩
theorem Inv.lstUpd{pins:List (Addr×Obj)}{σ:St}{H:Hp}{s:Shared}{p:Addr}{xs ys:List V}{its its':List Value}{n n':Nat}{f:Obj->Obj}(I:Inv X pins σ H s)(h:H p=some (.lst xs))
  (ho:s.heap.get? p=some { cls:=.type "list",data:=.seq its.toArray n }) (hf:f { cls:=.type "list",data:=.seq its.toArray n }={ cls:=.type "list",data:=.seq its'.toArray n' }) (r:Vals ys its') (hz:ys.length<=sizeLine) (t:Nat):
  Inv X pins σ (upd H p (.lst ys)) { s with heap:=s.heap.update p f,toks:=t }:=by
 have e:(s.heap.update p f).get? p=some { cls:=.type "list",data:=.seq its'.toArray n' }:=by rw[eL f ho (by rw[hf] <;> rfl),hf]
 refine I.write (x:=p) (e:=p) (by rw[h];trivial) (.inl rfl) (λb u hb q=>(Heap.get?_update_other _ _ (Ne.symm hb)).trans q) ⟨_,e⟩ ?_;exact ⟨hz,its',n',r,e⟩
def N6:V->V->V->Hp->(Hp->Prop)->Prop:=λo i v H Q=>∃p xs k j,o=.ref p/\i=.int k/\H p=some (.lst xs)/\ixN xs.length k=some j/\Q (upd H p (.lst (xs.set j v)))
theorem set_list:p6 X N6:=by
 intro pins s σ H o i v ov iv u Q I ro ri rv h;obtain ⟨p,xs,k,j,rfl,rfl,hp,hj,q⟩:=h;cases ro;obtain ⟨t,rfl⟩:=ri;obtain ⟨its,n,r,ho,hz⟩:=I.lst hp;obtain ⟨h1,h2,h3,h4⟩:=vN hj;have hl:=r.length;have hn:=fU;have I':Inv X pins σ (upd H p (.lst (xs.set j v))) { s with heap:=s.heap.update p (Obj.mapSeq (·.setIfInBounds j u)) }:=
  I.lstUpd hp ho (N5 its n j u) (r.set rv j) (by rw[List.length_set];exact hz) s.toks
 by_cases h0:0<=k
 ·have hk:k.toNat=j:=by
   rw[seqIndex_of h0 h4]at h1;exact cp h1
  exact PySem.W.ki_setAt ho h0 (by omega) (by rw[ap,<-hl];exact h4) (by rw[hk];exact ⟨_,I',q⟩)
 ·have hk:(k+(its.toArray.size:Int)).toNat=j:=by
   rw[seqIndex_neg (by omega) h3]at h1;rw[ap,<-hl];exact cp h1
  exact PySem.W.ki_setBack ho (by omega) (by rw[ap,<-hl];exact h3) (by omega) (by rw[hk];exact ⟨_,I',q⟩)
theorem vP(lo hi:Option Int)(n:Nat):(sliceBounds lo hi none n).1=((HT.sIx n 0 lo:Nat):Int)/\(sliceBounds lo hi none n).2.1=((HT.sIx n n hi:Nat):Int)/\(sliceBounds lo hi none n).2.2=1:=by
 refine ⟨?_,?_,rfl⟩
 ·cases lo with
  |none=>simp[sliceBounds,HT.sIx]
  |some i=>
   simp only[sliceBounds,HT.sIx,Option.getD_none,show (1:Int) > 0 by decide,if_true];by_cases h:i < 0
   ·simp only[h,if_true] <;> omega
   ·simp only[h,if_false] <;> omega
 ·cases hi with
  |none=>simp[sliceBounds,HT.sIx]
  |some i=>
   simp only[sliceBounds,HT.sIx,Option.getD_none,show (1:Int) > 0 by decide,if_true];by_cases h:i < 0
   ·simp only[h,if_true] <;> omega
   ·simp only[h,if_false] <;> omega
theorem N7(its:List Value)(lo hi:Option Int):slicePick its.toArray lo hi none=((its.drop (HT.sIx its.length 0 lo)).take (HT.sIx its.length its.length hi - HT.sIx its.length 0 lo)).toArray:=by obtain ⟨h1,h2,h3⟩:=vP lo hi its.toArray.size;unfold slicePick;rw[h1,h2,h3];simp only[sliceRange_one,pick_run,ap] <;> rfl
noncomputable def N8(K:PF):V->Option Int->Option Int->Hp->VK->Prop:=λx lo hi H Q=>∃a xs,x=.ref a/\SqL K H a xs/\∀p,H p=none->Q (.ref p) (upd H p (.lst (dg xs lo hi)))
theorem vQ:SlR X (N8 X.K):=by intro pins s σ H x v vl vu lo hi sl Q I rx hs pl pu h;obtain ⟨a,xs,rfl,hx,q⟩:=h;cases rx;obtain ⟨its,r,ht,hz⟩:=I.list hx;have hlen:=r.length;refine ⟨"list",_,slot_list_getitem.lookup,ht.isList.typeIs,?_⟩;refine wpAny_getItem_list_slice ht.isList hs pl pu .none (by simp) ?_ (by rw[ap] <;> omega);rw[N7,<-hlen];refine ⟨.ref s.heap.objs.size,_,I.laid (t':=s.toks) (o:=.lst (dg xs lo hi)) (λb ob q=>al _ q) (av _) ?_,rfl,q _ (I.hok.fresh (av _))⟩;exact ⟨ca (vM xs lo hi) hz,_,0,(r.drop (HT.sIx xs.length 0 lo)).take (HT.sIx xs.length xs.length hi - HT.sIx xs.length 0 lo),ay _ rfl⟩
theorem vR:bA X (.builtin "len") (λxs H Q=>∃p ys,xs=[.ref p]/\(SqL X.K H p ys\/SqT X.K H p ys)/\Q (.int ys.length) H):=by
 intro pins s σ H xs us Q I r h;obtain ⟨p,ys,rfl,hq,q⟩:=h;obtain ⟨u,rfl,rx⟩:=vals1 r;cases rx;have hn:=fU;rcases hq with hq |hq
 ·obtain ⟨its,r',pl,hz⟩:=I.list hq;have hlen:=r'.length;exact Calls.call_len_list pl.isList (by simp only[ap] <;> omega) ⟨.int ys.length,H,I.tok _,⟨s.toks+1,by rw[ap,hlen]⟩,q⟩
 ·obtain ⟨its,r',pl,hz⟩:=I.tuple hq;have hlen:=r'.length;exact len_tuple pl (by simp only[ap] <;> omega) ⟨.int ys.length,H,I.tok _,⟨s.toks+1,by rw[ap,hlen]⟩,q⟩
theorem Oa:bA X (.builtin "len") (λxs H Q=>∃z,xs=[.str z]/\z.length<=sizeLine/\Q (.int z.length) H):=by intro pins s σ H xs us Q I r h;obtain ⟨z,rfl,hz,q⟩:=h;obtain ⟨u,rfl,t,rfl⟩:=vals1 r;have hn:=fU;exact len_str (by omega) ⟨.int z.length,H,I.tok _,⟨_,rfl⟩,q⟩
theorem vU:bA X (.type "list") (λxs H Q=>∃p ys,xs=[.ref p]/\(SqL X.K H p ys\/SqT X.K H p ys)/\∀l,H l=none->Q (.ref l) (upd H l (.lst ys))):=by
 intro pins s σ H xs us Q I r h;obtain ⟨p,ys,rfl,hq,q⟩:=h;obtain ⟨u,rfl,rx⟩:=vals1 r;cases rx;have fin:∀(its:List Value),Vals ys its->ys.length<=sizeLine->∀(h':Heap)(c':Nat),(∀b o',s.heap.get? b=some o'->h'.get? b=some o')->
   h'.get? s.heap.objs.size=some { cls:=.type "list",dict:=none,data:=.seq its.toArray c',slots:=#[] }->EP X pins σ Q (.ref s.heap.objs.size) { s with heap:=h' }:=λits r' hz h' c' kp e=>
  ⟨.ref s.heap.objs.size,_,I.laid (t':=s.toks) kp (av _) (show ObjOk X.prog X.w _ h' _ (.lst ys) from ⟨hz,its,c',r',e⟩),rfl,q _ (I.hok.fresh (av _))⟩
 rcases hq with hq |hq
 ·obtain ⟨its,r',pl,hz⟩:=I.list hq;have hlen:=r'.length;obtain ⟨o,ho,hc,n,hd⟩:=pl.isList;exact call_list_seq p (.inl rfl) ho hc hd (λh' c' kp e=>fin its r' hz h' c' kp e) (by simp only[ap] <;> omega)
 ·obtain ⟨its,r',pl,hz⟩:=I.tuple hq;have hlen:=r'.length;obtain ⟨o,ho,hc,n,hd⟩:=pl;exact call_list_seq p (.inr rfl) ho hc hd (λh' c' kp e=>fin its r' hz h' c' kp e) (by simp only[ap] <;> omega)
theorem vV:bA X (.type "tuple") (λxs H Q=>∃p ys,xs=[.ref p]/\((SqL X.K H p ys/\∀l,H l=none->Q (.ref l) (upd H l (.tup ys)))\/(SqT X.K H p ys/\Q (.ref p) H))):=by
 intro pins s σ H xs us Q I r h;obtain ⟨p,ys,rfl,h⟩:=h;obtain ⟨u,rfl,rx⟩:=vals1 r;cases rx;rcases h with ⟨hq,q⟩ |⟨hq,q⟩
 ·obtain ⟨its,r',pl,hz⟩:=I.list hq;have hlen:=r'.length;refine call_tuple_list pl.isList (λh' kp=>?_) (by simp only[ap] <;> omega);have I1:Inv X pins σ H { s with heap:=h' }:=I.kept (t':=s.toks) kp;have I2:Inv X pins σ (upd H h'.objs.size (.tup ys)) { s with heap:=h'.push { cls:=.type "tuple",data:=.seq its.toArray } }:=
   I1.laid (t':=s.toks) (λb o e=>al _ e) (av _) (show ObjOk X.prog X.w _ _ _ (.tup ys) from ⟨hz,its,r',IsTup.new _ _⟩)
  exact ⟨.ref h'.objs.size,_,I2,rfl,q _ (I1.hok.fresh (av _))⟩
 ·obtain ⟨its,r',pl,hz⟩:=I.tuple hq;exact call_tuple_same pl ⟨.ref p,H,I,rfl,q⟩
def tyV(K:PF)(T:String)(x:V)(H:Hp):Prop:=match x with
 |.str _=>T="str"
 |.int _=>T="int"
 |.ref p=>(T="list"/\∃xs,SqL K H p xs)\/(T="tuple"/\∃o,K.lookup p=some o/\o.cls=.type "tuple"/\o.dict=none)\/
   (T="dict"/\((∃kvs,H p=some (.dK kvs))\/∃kvs,H p=some (.dT kvs)))\/(T="set"/\∃S n,H p=some (.set S n))
 |_=>False
theorem Ob{pins:List (Addr×Obj)}{σ:St}{H:Hp}{s:Shared}{T:String}{x:V}{v:Value}(I:Inv X pins σ H s)(r:RelV x v)(ty:tyV X.K T x H):
  s.TypeIs v T/\∀a,v=.ref a->∃ob,s.heap.get? a=some ob/\ob.dict=none:=by
 cases x with
 |str z=>
  obtain ⟨t,rfl⟩:=r;cases (show T="str" from ty);exact ⟨typeIs_str s z t,λ_ e=>nomatch e⟩
 |int i=>
  obtain ⟨t,rfl⟩:=r;cases (show T="int" from ty);exact ⟨typeIs_int s i t,λ_ e=>nomatch e⟩
 |ref p=>
  cases r;rcases ty with ⟨rfl,xs,hq⟩ |⟨rfl,o,hk,hc,hd⟩ |⟨rfl,hk⟩ |⟨rfl,S,n,hk⟩
  ·obtain ⟨its,_,pl,_⟩:=I.list hq;refine ⟨pl.isList.typeIs,λa e=>?_⟩;cases e;obtain ⟨o,n,e,c,hd,_⟩:=pl;exact ⟨o,e,hd⟩
  ·refine ⟨⟨o,I.kIn p o hk,hc⟩,λa e=>?_⟩;cases e;exact ⟨o,I.kIn _ o hk,hd⟩
  ·have z:∃o,s.heap.get? p=some o/\o.ExactDict:=by
    rcases hk with ⟨kvs,hk⟩ |⟨kvs,hk⟩
    ·obtain ⟨_,_,_,_,o,_,_,e,ex,_⟩:=I.hok p _ hk;exact ⟨o,e,ex⟩
    ·obtain ⟨_,_,_,_,o,_,_,e,ex,_⟩:=I.hok p _ hk;exact ⟨o,e,ex⟩
   obtain ⟨o,e,ex⟩:=z;refine ⟨⟨o,e,ex.1⟩,λa e2=>?_⟩;cases e2;exact ⟨o,e,ex.2.1⟩
  ·obtain ⟨o,_,_,_,e,ex,_⟩:=I.hok p _ hk;refine ⟨⟨o,e,ex.1⟩,λa e2=>?_⟩;cases e2;exact ⟨o,e,ex.2.1⟩
 |_=>exact False.elim ty
def tBM(K:PF)(T:String)(r:V->List V->Hp->VK->Prop)(to:TE)(t:TA):TE:=λσ H Q=>to σ H λx H1=>tyV K T x H1/\t σ H1 λxs H2=>r x xs H2 Q
variable {o e:Expr} {es:List Expr} {to:TE} {t:TA} {name:Str} {apos cpos:Pos} {T id:String} {r:V->List V->Hp->VK->Prop}
theorem dY (pa:PlainAttrs T) (slot:Slot T name id) (hty:typeOf (.builtin id)=pure (.type "method_descriptor")) (hm:MtR X id r) (ho:PE X o to) (ha:PA X (e::es) t)
  (hbase:attributeBase o name X.env (eval o X.env)=eval o X.env:=by rfl)
  (hfew:((backTo cpos (starEach (e::es) X.env)).all (λx=>!x.1)&&(backToKw cpos (keywordEach [] X.env)).all (λx=>x.1.isSome)
  &&decide ((e::es).length+([]:List Keyword).length+(if ([]:List Keyword).isEmpty then 0 else 1) < 30))=true:=by rfl)
  (hline:(apos.endLine==cpos.line)=true:=by rfl) (hs:starEach (e::es) X.env=(false,eval e X.env)::starEach es X.env:=by rfl) (hplain:(backTo cpos (starEach es X.env)).any (·.1)=false:=by rfl):
  PE X (.Call (.Attribute o name apos) (e::es) [] cpos) (tBM X.K T r to t):=by
 intro pins s σ H Q I h;refine wpAny_Call_method_late hbase hfew hline rfl (thn (ho pins s σ H _ I h) λv s1 ⟨x,H1,I1,r1,ty,q1⟩=>?_);obtain ⟨h1,h2⟩:=Ob I1 r1 ty;refine ⟨T,id,pa,slot,hty,h1,h2,?_⟩;have hA:=ha cpos pins s1 σ H1 _ I1 q1;rw[hs]at hA ⊢;refine Calls.callWith_builtin (by show (false||(backTo cpos (starEach es X.env)).any (·.1))=false;rw[hplain] <;> rfl) (Calls.evalArgs_plain ?_);exact thn hA λus s2 ⟨vs,H2,I2,r2,q2⟩=>hm pins s2 σ H2 x vs v us Q I2 r1 r2 q2
end
def MtM(X:Cx)(id:String)(r:V->List V->Hp->VK->Prop):Prop:=
 ∀(pins:List (Addr×Obj))(s:Shared)(σ:St)(H:Hp)(x:V)(xs:List V)(v:Value)(us:List Value)(Q:VK),Inv X pins σ H s->RelV x v->Vals xs us->r x xs H Q->
  wpAny (model X.prog X.w) X.A (call (.builtin id) (v::us)) (EP X pins σ Q) X.xe s
theorem Vals.one:∀{x:V}{us:List Value},Vals [x] us->∃u,us=[u]/\RelV x u
 |_,_,.cons r .nil=>⟨_,rfl,r⟩
theorem Vals.eraseIdx:∀{xs:List V}{us:List Value}(i:Nat),Vals xs us->Vals (xs.eraseIdx i) (us.eraseIdx i)
 |_,_,_,.nil=>.nil
 |_,_,0,.cons _ t=>t
 |_,_,i+1,.cons r t=>.cons r (Vals.eraseIdx i t)
theorem Vals.rep{xs:List V}{us:List Value}(h:Vals xs us):∀k:Nat,Vals (List.replicate k xs).flatten (List.replicate k us).flatten
 |0=>.nil
 |k+1=>by
  rw[bX,bX,fg,fg];exact Vals.append h (Vals.rep h k)
theorem vW{α:Type}:∀(l:List α)(i:Nat),(l.eraseIdx i).length<=l.length
 |[],_=>av _
 |_::_,0=>c8 _
 |_::r,i+1=>Nat.succ_le_succ (vW r i)
theorem foldl_rep(its:List Value):∀(k:Nat)(acc:List Value),
  List.foldl (λx1 x2=>x1++x2) acc.toArray (List.replicate k its.toArray)=(acc++(List.replicate k its).flatten).toArray
 |0,acc=>by simp
 |k+1,acc=>by
  have e:acc.toArray++its.toArray=(acc++its).toArray:=by simp
  have e2:(acc++its)++(List.replicate k its).flatten=acc++(List.replicate (k+1) its).flatten:=by rw[bX,fg,List.append_assoc]
  rw[<-e2,<-foldl_rep its k (acc++its),<-e,bX,List.foldl_cons]
section
variable {X:Cx} {pins:List (Addr×Obj)} {σ:St} {H:Hp} {s:Shared} {l b:Addr} {xs ys zs:List V}
theorem Inv.lset{its its':List Value}{n:Nat}{f:Array Value->Array Value}{t':Nat}(I:Inv X pins σ H s)(hH:H l=some (.lst xs))
  (e:s.heap.get? l=some { cls:=.type "list",data:=.seq its.toArray n }) (hf:f its.toArray=its'.toArray) (hv:Vals ys its') (hz:ys.length<=sizeLine):
  Inv X pins σ (upd H l (.lst ys)) { s with heap:=s.heap.update l (Obj.mapSeq f),toks:=t' }:=by
 have q:=PySem.IsL.update e f;rw[hf]at q;refine I.write (x:=l) (e:=l) (by rw[hH];exact trivial) (.inl rfl) (λb' u hb hu=>(Heap.get?_update_other s.heap (Obj.mapSeq f) (Ne.symm hb)).trans hu) ⟨_,q⟩ ?_;exact ⟨hz,its',_,hv,q⟩
theorem Inv.lnew{its:List Value}{t':Nat}(I:Inv X pins σ H s)(hv:Vals ys its)(hz:ys.length<=sizeLine):
  Inv X pins σ (upd H s.heap.objs.size (.lst ys)) { s with heap:=s.heap.push { cls:=.type "list",data:=.seq its.toArray },toks:=t' }:=
 I.laid (λ_ _ q=>al _ q) (av _) ⟨hz,its,0,hv,ay _ rfl⟩
theorem Inv.fresh(I:Inv X pins σ H s):H s.heap.objs.size=none:=I.hok.fresh (av _)
theorem Inv.lstM (I:Inv X pins σ H s) (hH:H l=some (.lst xs)):xs.length<=sizeLine/\∃(its:List Value) (n:Nat),Vals xs its/\xs.length=its.length/\s.heap.get? l=some { cls:=.type "list",data:=.seq its.toArray n }:=by obtain ⟨z,its,n,r,e⟩:=I.hok l _ hH;exact ⟨z,its,n,r,r.length,e⟩
theorem vX{n:Nat}(h:n<=sizeLine):Builtin.List.listTooLong n=false:=by unfold Builtin.List.listTooLong;exact ck (by omega)
end
section
variable {X:Cx}
noncomputable def Oc:V->List V->Hp->VK->Prop:=λx vs H Q=>∃l xs y,x=.ref l/\vs=[y]/\H l=some (.lst xs)/\xs.length < sizeLine/\Q .non (upd H l (.lst (xs++[y])))
theorem Od:MtM X "list.append" Oc:=by intro pins s σ H x vs v us Q I rx rv h;obtain ⟨l,xs,y,rfl,rfl,hH,hz,q⟩:=h;cases rx;obtain ⟨u,rfl,ru⟩:=rv.one;obtain ⟨z,its,n,r,hl,e⟩:=I.lstM hH;refine fo F.slot_list_append ⟨_,e,rfl⟩ F.entry_list_append (F.args_list_append_2 _ _) (PySem.list_append l its.toArray n u (by rw[ap];omega)) ⟨e,?_⟩;refine ⟨.non,_,I.lset (its':=its++[u]) hH e (by simp) (r.append (.cons ru .nil)) ?_,rfl,q⟩;rw[bp,List.length_singleton];omega
noncomputable def Oe:V->List V->Hp->VK->Prop:=λx vs H Q=>∃l b xs zs,x=.ref l/\vs=[.ref b]/\H l=some (.lst xs)/\H b=some (.lst zs)/\xs.length+zs.length<=sizeLine/\Q .non (upd H l (.lst (xs++zs)))
theorem Og:MtM X "list.extend" Oe:=by
 intro pins s σ H x vs v us Q I rx rv h;obtain ⟨l,b,xs,zs,rfl,rfl,hH,hB,hz,q⟩:=h;cases rx;obtain ⟨u,rfl,ru⟩:=rv.one;cases ru;obtain ⟨z,its,n,r,hl,e⟩:=I.lstM hH;obtain ⟨z2,its2,n2,r2,hl2,e2⟩:=I.lstM hB;have hsz:its.toArray.size+its2.toArray.size<=sizeLine:=by rw[ap,ap];omega
 have hlong:¬(!its.toArray.isEmpty&&Builtin.List.listTooLong (its.toArray.size+its2.toArray.size))=true:=by rw[vX hsz,fS];exact bo
 refine fo F.slot_list_extend ⟨_,e,rfl⟩ F.entry_list_extend (F.args_list_extend_2 _ _)
  (AutoSeq1.list_extend_list_list_0 l its.toArray n b its2.toArray n2 hlong (by rw[ap];omega) (by omega)) ⟨e,e2,?_⟩
 refine ⟨.non,_,I.lset (its':=its++its2) hH e (by simp) (r.append r2) ?_,rfl,q⟩;rw[bp];omega
noncomputable def Oh:V->List V->Hp->VK->Prop:=λx vs H Q=>∃l xs i k y,x=.ref l/\vs=[.int i]/\H l=some (.lst xs)/\-(2 ^ 63)<=i/\i < 2 ^ 63/\seqIndex? i xs.length=some k/\xs[k]?=some y/\Q y (upd H l (.lst (xs.eraseIdx k)))
theorem Oi:MtM X "list.pop" Oh:=by
 intro pins s σ H x vs v us Q I rx rv h;obtain ⟨l,xs,i,k,y,rfl,rfl,hH,h1,h2,hk,hy,q⟩:=h;cases rx;obtain ⟨u,rfl,ru⟩:=rv.one;obtain ⟨t,rfl⟩:=ru;obtain ⟨z,its,n,r,hl,e⟩:=I.lstM hH;obtain ⟨w,hw,rw'⟩:=r.get hy;refine fo F.slot_list_pop ⟨_,e,rfl⟩ F.entry_list_pop (F.args_list_pop_2 _ _)
  (MeetsSeq.list_pop_at l its.toArray n i t k w (fitsIndex_both h1 h2) (by rw[ap,<-hl];exact hk) (by rw[<-ej];exact hw) (by rw[ap];omega)) ⟨e,?_⟩
 refine ⟨y,_,I.lset (its':=its.eraseIdx k) hH e ?_ (r.eraseIdx k) ?_,rw',q⟩
 ·show its.toArray.eraseIdxIfInBounds k=(its.eraseIdx k).toArray;rw[List.eraseIdxIfInBounds_toArray]
 ·have:=vW xs k;omega
theorem len_rep{α:Type}(xs:List α)(k:Nat):(List.replicate k xs).flatten.length=k * xs.length:=by
 induction k with
 |zero=>simp
 |succ k ih=>rw[bX,fg,bp,ih,Nat.succ_mul,Nat.add_comm]
end
end L2
namespace Att
open PySem PySem.W PySem.Calls PyProof.Rows
theorem Oj{P:Params}{h:Heap}:∀(ns:List Int)(vs:List Value),WellAll P h vs (ns.map WData.int)->IntsAre vs ns:=by
 intro ns;induction ns with
 |nil=>
  intro vs w;rw[List.map_nil]at w;cases w;exact .nil
 |cons n ns ih=>
  intro vs w;rw[List.map_cons]at w;cases w with
  |cons a b=>
   cases a;exact .cons _ _ (ih _ b)
theorem Ol{l:OpenLaw}{n:Nat}(hn:l.most=some n){P:Params}{h:Heap}{args:List WData}{vals:List Value}
  (hpre:l.row.toRowW.claim.pre args=true) (hwl:WellAll P h vals args):
  ∃a vs ns,vals=[Value.ref a]/\args=[WData.list (ns.map WData.int)]/\h.get? a=some { cls:=.type "list",data:=.seq vs.toArray }/\IntsAre vs ns/\ns.length<=n:=by
 have hsh:WShape.hasAll [] args [.list .int]=true:=(pre_splitW hpre).1;have hc:l.pre.holds [] { args:=args }=true:=(pre_splitW hpre).2;obtain ⟨d,r,rfl,h1,h2⟩:=hasAllW_cons hsh;obtain rfl:=hasAllW_nil h2;obtain ⟨xs,rfl,h3⟩:=hasW_list h1;obtain ⟨ns,rfl⟩:=items_int h3;have hlen:ns.length<=n:=by
  unfold OpenLaw.pre at hc;have h4:(WTm.not (.lt (.lit (.int (n:Int))) (.len (.arg 0)))).holds [] { args:=[.list (ns.map .int)] }=true:=by have h4:=(holds_andW hc).1;rw[hn]at h4;exact h4
  have h5:=condW_of h4 (w_not (w_lt w_lit (w_len_list (w_arg rfl))));rw[List.length_map]at h5;refine Nat.le_of_not_lt λq=>?_;have q':(n:Int) < ((ns.length:Nat):Int):=by omega
  first
   | (rw[decide_eq_true q']at h5;exact absurd h5 (by decide))
   | (simp at h5;omega)
 cases hwl with
 |cons w1 w2=>
  cases w2;cases w1 with
  |list ho hall=>exact ⟨_,_,ns,rfl,rfl,ho,Oj ns _ hall,hlen⟩
theorem Om(l:OpenLaw)(args:List WData):l.row.toRowW.claim.post args (.bool true) args=true:=
 postW_of (r:=l.row.toRowW) (X:=(true==true))
  (show WShape.has [] (.bool true) .bool=true by first |rfl |decide |simp[WShape.has,WShape.arms,WShape.armsAll])
  (show (WTm.eq .res (.lit (.bool true))).value [] { args:=args,res:=some (.bool true),after:=args }=some (.bool (true==true)) from w_eq_bool (w_res rfl) w_lit) rfl
theorem attach_call{l:OpenLaw}{n:Nat}{q:Program}{loose:List Str}{XP:(Str->Option Value)->Heap->Prop}{YP:World->Heap->Prop}{d:DefRec}
  (hn:l.most=some n) (hdf:d.params.defaults=[])
  (call:∀(w:World)(s₀ s₁:Shared)(mg mb:Str->Option Value)(fa:Addr)(o:Obj)(pm cd doc:Value)(a:Addr)(vs:List Value)(ns:List Int),
   Ground q loose [] XP w s₀ mg mb s₁.heap->YP w s₁.heap->
   s₁.heap.get? fa=some o->o.data=.func (docDef d.name d.params d.body d.scope pm cd doc)->s₁.heap.CodeRec cd d.name->mg d.name=some (.ref fa)->
   s₁.heap.get? a=some { cls:=.type "list",data:=.seq vs.toArray }->IntsAre vs ns->ns.length<=n->s₁.gens=#[]->
   codeAny (model l.prog w) callerA (.call (.ref fa) ⟨[.ref a],[]⟩) (λr s'=>r=.ok (.ret (.bool true))/\OldK s₁.heap s'.heap/\s'.os=s₁.os/\AllBare s'.gens) s₁):
  WalkO q loose XP YP l.row.toRowW d [] (λf vs=>PySem.call f vs):=by
 intro w s₀ s₁ mg mb G Y fa o pm cd doc dV kV ho hd hcd hD hmg hg args vals as hpre hlay hrd hwl hlo;obtain rfl:dV=.none:=Dflts.none hD hdf;obtain rfl:kV=.none:=Dflts.noKw hD;obtain ⟨a,vs,ns,rfl,rfl,hobj,hints,hlen⟩:=Ol hn hpre hwl;refine enter_call (codeAny_mono (call w s₀ s₁ mg mb fa o pm cd doc a vs ns G Y ho (fd_plain hd) hcd hmg hobj hints hlen hg) λr s' hq=>?_);obtain ⟨rfl,h2,h3,h4⟩:=hq;exact ⟨.inl ⟨.bool true,.bool true,[],rfl,λ_=>rfl,.bool true,Om l _,λ_=>⟨List.Pairwise.nil,λ_ hm=>(nomatch hm)⟩⟩,h2,h3,h4⟩
end Att
namespace L2
open PySem PySem.Spec PyProof.Rows
theorem qm:∀{vs:List Value}{ns:List Int},IntsAre vs ns->Vals (ns.map V.int) vs
 |_,_,.nil=>.nil
 |_,_,.cons n t h=>.cons ⟨t,rfl⟩ (qm h)
def Only(H:Hp):Prop:=∀b,H b=none\/∃o xs,H b=some (.frz o (.lst xs))
theorem Oo{P:Program}{w:World}{K:PF}{mg mb:Str->Option Value}{CX:CXT}{k:Nat}{fa a:Addr}{fd:FuncData}{x:Str}{sp:Sp}{s₁:Shared}{vs:List Value}{ns:List Int}
  (KX:K.In s₁.heap) (hns:s₁.heap.Ns mainGlobals mg) (hb:s₁.heap.Ns builtinsNs mb) (hbb:∀x:Str,x≠"__name__"->mb x=bootBuiltins x) (hlim:s₁.heap.NoLimit) (hg:s₁.gens=#[])
  (ha:s₁.heap.get? a=some { cls:=.type "list",data:=.seq vs.toArray }) (hi:IntsAre vs ns) (hl:ns.length<=sizeLine) (hr:Room k callerA)
  (F:∀base:Heap,K.In base->base.Ns mainGlobals mg->FnOk P w K mg base CX k fa fd [x] sp) (hbind:∀(s:Shared)(u:Value),BindsTo s fd ⟨[u],[]⟩ [(x,u)])
  (hsp:∀H:Hp,Only H->SqL K H a (ns.map V.int)->sp [.ref a] H (λv _=>v=.bl true) λ_ _ _=>False)
  (hCX:∀H e s',CX [] H s₁ (λ_ _ _=>False) e s'->False):
  codeAny (model P w) callerA (.call (.ref fa) ⟨[.ref a],[]⟩) (λr s'=>r=.ok (.ret (.bool true))/\OldK s₁.heap s'.heap/\s'.os=s₁.os/\AllBare s'.gens) s₁:=by
 have rv:=qm hi;have lenV:=hi.length
 -- from an abstract heap in which nothing but the script may be tracked
 have core:∀H:Hp,Only H->SqL K H a (ns.map V.int)->HOk P w H s₁.heap->(∀b,H b≠none->b=a)->(H a≠none->K.lookup a=none)->
   codeAny (model P w) callerA (.call (.ref fa) ⟨[.ref a],[]⟩) (λr s'=>r=.ok (.ret (.bool true))/\OldK s₁.heap s'.heap/\s'.os=s₁.os/\AllBare s'.gens) s₁:=by
  intro H hO hS hok hA hK;have base_of:∀{b:Addr}{o:Obj},s₁.heap.get? b=some o->H b=none->(dX s₁.heap H).get? b=some o:=λe n=>J5 e n;have noA:∀{b:Addr}{o:Obj}{es:Array DictEntry}{ep:Nat},s₁.heap.get? b=some o->o.data=.dict es ep->H b=none:=λ{b o es ep} e d=>by
   cases q:H b with
   |none=>rfl
   |some u=>
    have e':b=a:=hA b (by rw[q];simp);subst e';rw[ha]at e;cases e;have d':Data.seq vs.toArray _=Data.dict es ep:=d;cases d'
  have nsK:∀{b:Addr}{m:Str->Option Value},s₁.heap.Ns b m->(dX s₁.heap H).Ns b m:=λ{b m} ⟨o,es,ep,e,d,r⟩=>⟨o,es,ep,base_of e (noA e d),d,r⟩;have hKb:K.In (dX s₁.heap H):=λb o e=>base_of (KX b o e) (by
   cases q:H b with
   |none=>rfl
   |some u=>
    have e':b=a:=hA b (by rw[q];simp);subst e';rw[hK (by rw[q];simp)]at e;cases e)
  have hM:Mod K mg (dX s₁.heap H):=⟨hKb,nsK hns,⟨mb,nsK hb,hbb⟩,let ⟨mc,h1,h2⟩:=hlim;⟨mc,nsK h1,h2⟩⟩;have e0:Env0 P w K mg (dX s₁.heap H) callerA [] s₁ H:=⟨rfl,hM,λb o e=>J6 e,Nat.le_of_eq (J4 _ _),trivial,λb hb=>absurd (show b∈([]:List Addr) from hb) (by simp),hok,.of_eq hg⟩;refine codeAny_mono ((F _ hKb (nsK hns)).run callerA [] s₁ H ⟨[.ref a],[]⟩ [.ref a] [.ref a] _ _ hr e0 (hbind s₁ (.ref a)) (.cons rfl .nil) (hsp H hO hS)) λr s' h=>?_;cases r with
  |error e=>exact (hCX H e s' h).elim
  |ok fl=>
   cases fl with
   |next=>exact False.elim h
   |brk=>exact False.elim h
   |cont=>exact False.elim h
   |ret u=>
    obtain ⟨v,H',os,bare,un,hok',r',q⟩:=h;have q':v=.bl true:=q;subst q';obtain rfl:u=Value.bool true:=r';refine ⟨rfl,OldK.of_keep λb o e=>?_,os,bare⟩;cases q:H b with
    |none=>exact un.keep b o e q (by intro z;exact absurd (show b∈([]:List Addr) from z) (by simp)) (by simp)
    |some u=>
     rcases hO b with z |⟨ob,xs,z⟩
     ·rw[q]at z;cases z
     ·have z2:=un.frzs b ob _ z;obtain ⟨e1,_⟩:=hok b _ z;obtain ⟨e2,_⟩:=hok' b _ z2;rw[e]at e1;cases e1;exact e2
 cases hk:K.lookup a with
 |some o=>
  -- the script is one of the module's own objects
  have e:=KX a o hk;rw[ha]at e;cases e;refine core (λ_=>none) (λ_=>.inl rfl) (.inr ⟨_,vs.toArray,_,hk,rfl,rfl,rfl,by rw[ap,lenV];exact hl,by simpa using rv⟩) (λb u z=>by have z':(none:Option HO)=some u:=z;cases z') (λb z=>absurd rfl z) λz=>absurd rfl z
 |none=>
  refine core (λb=>if b=a then some (.frz { cls:=.type "list",data:=.seq vs.toArray } (.lst (ns.map V.int))) else none) (λb=>?_) (.inl (.inr ⟨{ cls:=.type "list",data:=.seq vs.toArray },if_pos rfl⟩)) (λb u z=>?_) (λb z=>?_) λ_=>hk
  ·by_cases hb:b=a
   ·exact .inr ⟨_,_,if_pos hb⟩
   ·exact .inl (if_neg hb)
  ·by_cases hb:b=a
   ·have z':=(if_pos hb).symm.trans z;cases z';subst hb;exact ⟨ha,by rw[ax];exact hl,vs,_,rv,ha⟩
   ·have z':=(if_neg hb).symm.trans z;cases z'
  ·by_cases hb:b=a
   ·exact hb
   ·exact absurd (if_neg hb) z
theorem Oq{l:PySem.W.OpenLaw}{n k:Nat}{q:Program}{loose:List Str}{XP:(Str->Option Value)->Heap->Prop}{YP:World->Heap->Prop}{d:DefRec}{K:Params->PF}{CX:World->CXT}{sp:World->Sp}{x:Str}
  (hn:l.most=some n) (hn2:n<=sizeLine) (hdf:d.params.defaults=[]) (hr:Room k callerA)
  (hY:∀(w:World)(h:Heap),YP w h->(K w.params).In h)
  (F:∀(w:World)(mg:Str->Option Value)(fa:Addr)(h:Heap),(K w.params).In h->h.Ns mainGlobals mg->mg d.name=some (.ref fa)->
   ∃fd:FuncData,(∀(s:Shared)(u:Value),BindsTo s fd ⟨[u],[]⟩ [(x,u)])/\
    ∀base:Heap,(K w.params).In base->base.Ns mainGlobals mg->FnOk l.prog w (K w.params) mg base (CX w) k fa fd [x] (sp w))
  (hsp:∀(w:World)(H:Hp)(a:Addr)(ns:List Int),ns.length<=n->Only H->SqL (K w.params) H a (ns.map V.int)->sp w [.ref a] H (λv _=>v=.bl true) λ_ _ _=>False)
  (hCX:∀(w:World)(H:Hp)(s:Shared)(e:Value)(s':Shared),CX w [] H s (λ_ _ _=>False) e s'->False):
  PySem.W.WalkO q loose XP YP l.row.toRowW d [] (λf vs=>PySem.call f vs):=by
 refine Att.attach_call hn hdf λw s₀ s₁ mg mb fa o pm cd doc a vs ns G Y ho hd hcd hmg hobj hints hlen hg=>?_;have KX:=hY w _ Y;obtain ⟨fd,hb,hF⟩:=F w mg fa _ KX G.T.g hmg;exact Oo KX G.T.g G.T.b G.T.builtins G.T.nolimit hg hobj hints (ca hlen hn2) hr hF hb (λH hO hS=>hsp w H a ns hlen hO hS) λH e s'=>hCX w H s₁ e s'
def iW(s:Stmt):Arguments:=match s with
 |.FunctionDef _ a _ _ _ _ _ _ _ _=>a
 |_=>{ posonlyargs:=[],args:=[],vararg:=none,kwonlyargs:=[],kw_defaults:=[],kwarg:=none,defaults:=[] }
def aW(s:Stmt):List Stmt:=match s with
 |.FunctionDef _ _ b _ _ _ _ _ _ _=>b
 |_=>[]
def aB(s:Stmt):Scope:=match s with
 |.FunctionDef _ _ _ _ _ _ sc _ _ _=>sc
 |_=>{ kind:=.function,names:=[],isGenerator:=false,isCoroutine:=false }
structure Fun(K:PF)(x qual:Str)(st:Stmt)(f:Addr)(fd:FuncData):Prop where
 ex:∃(oc:Value)(od:Option Addr)(kV doc pm:Value)(an:Option Addr)(cdv ct:Value)(osl:Array (Option Value)),
  fd=PySem.W.fnOf x qual (iW st) (aW st) (aB st) .none kV doc pm an cdv ct/\K.lookup f=some ⟨oc,od,.func fd,osl⟩/\PySem.W.codeIn K cdv qual=true
 kp:PySem.W.keepIn K (.ref f)=true
section
variable {P:Program} {w:World} {K:PF} {mg:Str->Option Value} {base:Heap}
theorem Fun.binds{x qual:Str}{st:Stmt}{f:Addr}{fd:FuncData}{ps:List Str}(F:Fun K x qual st f fd)
  (h:∀(kV doc pm:Value)(an:Option Addr)(cdv ct:Value)(us:List Value),us.length=ps.length->bindArgs (PySem.W.fnOf x qual (iW st) (aW st) (aB st) .none kV doc pm an cdv ct) ⟨us,[]⟩=pure (ps.zip us)):Binds K fd ps []:=by
 obtain ⟨oc,od,kV,doc,pm,an,cdv,ct,osl,rfl,lk,hcd⟩:=F.ex;exact .all (h kV doc pm an cdv ct)
theorem Ot{x qual:Str}{st:Stmt}{f:Addr}{oc:Value}{od an:Option Addr}{osl:Array (Option Value)}{kV doc pm cdv ct:Value}(l:K.lookup f=some ⟨oc,od,.func (PySem.W.fnOf x qual (iW st) (aW st) (aB st) .none kV doc pm an cdv ct),osl⟩)
  (c:PySem.W.codeIn K cdv qual=true) (k:PySem.W.keepIn K (.ref f)=true):Fun K x qual st f (PySem.W.fnOf x qual (iW st) (aW st) (aB st) .none kV doc pm an cdv ct):=⟨⟨oc,od,kV,doc,pm,an,cdv,ct,osl,rfl,l,c⟩,k⟩
end
end L2
set_option maxHeartbeats 4000000
namespace L2
open PySem PySem.Spec PyProof.Rows
section
variable {X:Cx} {pins:List (Addr×Obj)} {σ:St} {H:Hp} {s:Shared} {h':Heap}
theorem Inv.turnedL{t':Nat}{ch:List Addr}(I:Inv X pins σ H s)(hf:∀b∈ch,c7 X pins H b)(k:∀b o,b∉ch->s.heap.get? b=some o->h'.get? b=some o):
  Inv X pins σ H { s with heap:=h',toks:=t' }:=by
 have nit:∀b u,H b=some u->b∉ch:=λb u e z=>by
  have q:=(hf b z).1;rw[q]at e;cases e
 refine I.step (g':=s.gens) (d':=s.drawn) (ch:=ch) (λb hb=>?_) (λb o _ _ hc e _=>k b o hc e) (λb o _ _ hc e _=>⟨o.slots,k b o hc e⟩) (λ_ _ _ _ n=>n)
  (λb o hc e=>⟨o,k b o hc e⟩) (λ_ _ e=>e) (λ_ _ _ e=>e) (λb ps e=>⟨#[],by rw[e];simp⟩) (λm hm=>?_) (λb u e=>?_) I.bare
 ·obtain ⟨_,f1,_,f3,f4,f5⟩:=hf b hb;exact ⟨f3,f1,f4,f5⟩
 ·obtain ⟨o,es,ep,ho,r⟩:=hm;exact ⟨o,es,ep,k _ o (λz=>(hf _ z).2.1 rfl) ho,r⟩
 ·refine (I.hok b u e).stay (λc v hc q=>k c v ?_ q) (λ_ q=>q) λ_ _ q=>q;rcases hc with z |z
  ·rw[z];exact nit b u e
  ·exact nit c _ z
theorem Inv.track{T:Addr}{o:HO}(I:Inv X pins σ H s)(hT:c7 X pins H T)(new:ObjOk X.prog X.w (upd H T o) s.heap T o):Inv X pins σ (upd H T o) s:=by
 have hn:=hT.1;have hok:HOk X.prog X.w (upd H T o) s.heap:=λb u e=>by
  by_cases hb:b=T
  ·subst hb;rw[bZ]at e;cases e;exact new
  ·rw[az hb]at e;exact (I.hok b u e).stay (λc v _ q=>q) (λc q=>by rw[az (aQ q hn)];exact q) λc xs q=>by rw[az (aQ q hn)];exact q
 obtain ⟨hp,g,d,tk,os⟩:=s;refine I.step (h':=hp) (g':=g) (d':=d) (t':=tk) (ch:=[T]) (λb hb=>?_) (λb o _ _ _ e _=>e) (λb o _ _ _ e _=>⟨o.slots,e⟩) (λb u hc _ n=>?_)
  (λb o _ e=>⟨o,e⟩) (λb xs e=>by rw[az (aQ e hn)];exact e) (λb u v e=>by rw[az (aQ e hn)];exact e) (λb ps e=>⟨#[],by rw[az (aQ e hn),e];simp⟩) (λm hm=>hm) hok I.bare
 ·have e:b=T:=by simpa using hb
  subst e;obtain ⟨_,f1,_,f3,f4,f5⟩:=hT;exact ⟨f3,f1,f4,f5⟩
 ·rw[az (by simpa using hc)];exact n
end
def Its(x:Str):It:=⟨λi _=>i < x.cps.size,λi H v H'=>H'=H/\∃c,x.cps[i]?=some c/\v=.str ⟨#[c]⟩,λi _=>i=x.cps.size⟩
theorem vY{prog:Program}{w:World}{A:Around}(hh:A.handled=none)(I:Addr)(x:Str)(t:Tok):
  Walks prog w A I [I] [I] x.cps.size (SignAt x) (λi h=>h.IsStrIter I (strIterType x) x t i):=by
 unfold strIterType;split
 ·exact Walks.strAscii hh I x t
 ·exact Walks.strWide hh I x t
theorem qp{P:Program}{w:World}{K:PF}{tg:Expr}(it:Addr)(x:Str)(t:Tok):Turn P w K tg (Its x) [it] it (λi h=>h.IsStrIter it (strIterType x) x t i) where
 mem:=by simp
 obj:=λi h st b hb=>by
  have e:b=it:=by simpa using hb
  subst e;obtain ⟨o,e,c,d⟩:=st;exact ⟨o,e,λv z=>by rw[d]at z;cases z⟩
 keep:=λi h h' st k=>let ⟨o,ho,r⟩:=st;⟨o,k it (by simp) o ho,r⟩
 item:=by intro X hP hw hK hc i pins s σ H E I hf st hg;subst hP hw hK;obtain ⟨f0,f1,f2,f3,f4,f5⟩:=hf it (by simp);have W:=vY (prog:=X.prog) (w:=X.w) (I.ok.hd hc) it x t;refine W.item i s _ _ hg st λv h' tk hv st' kk=>?_;obtain ⟨c,u,e,rfl⟩:=hv;have I1:Inv X pins σ H { s with heap:=h',toks:=tk }:=I.turned (λb o hb e=>kk b o (by simpa using hb) e) f0 f1 f3 f4 f5;obtain ⟨o,eo,cc,d⟩:=id st';exact ⟨_,rfl,lw (s:={ s with heap:=h',toks:=tk }) (n:=strIterType x) eo cc d (by unfold strIterType;split <;> decide) ⟨.str ⟨#[c]⟩,H,I1,⟨u,rfl⟩,⟨rfl,c,e,rfl⟩,st',λb hb=>(hf b hb).1⟩⟩
 done:=by intro X hP hw hK hc i pins s σ H E I hf st hg;subst hP hw hK;obtain ⟨f0,f1,f2,f3,f4,f5⟩:=hf it (by simp);have W:=vY (prog:=X.prog) (w:=X.w) (I.ok.hd hc) it x t;have hg':i=x.cps.size:=hg;subst hg';exact W.done s _ _ st λh' tk kk=>⟨rfl,I.turned (λb o hb e=>kk b o (by simpa using hb) e) f0 f1 f3 f4 f5⟩
 self:=λA i s Q E st h=>by
  unfold strIterType at st;split at st
  ·exact wpAny_pyIter_striter_ascii st h
  ·exact wpAny_pyIter_striter_wide st h
noncomputable def b7(env:Env):List (Str×NameKind)->List (Str×Addr)->List (Str×Addr)
 |[],cs=>cs
 | (n,k)::r,cs=>b7 env r (if (k==.free)=true then (match env.cells.lookup n with |some c=>(n,c)::cs |none=>cs) else cs)
theorem vZ{env:Env}:∀{l:List (Str×NameKind)}{cs:List (Str×Addr)},(∀x c,cs.lookup x=some c->env.cells.lookup x=some c)->∀x c,(b7 env l cs).lookup x=some c->env.cells.lookup x=some c
 |[],_,h,x,c,e=>h x c e
 | (n,k)::r,cs,h,x,c,e=>by
  refine vZ (l:=r) (cs:=_) ?_ x c e;intro y d q;by_cases hk:(k==NameKind.free)=true
  ·rw[if_pos hk]at q;cases hn:env.cells.lookup n with
   |none=>rw[hn]at q;exact h y d q
   |some c'=>
    rw[hn]at q;simp only[List.lookup_cons]at q;cases hy:y==n with
    |true=>
     rw[hy]at q;have e1:y=n:=eq_of_beq hy;rw[e1,hn];exact q
    |false=>rw[hy]at q;exact h y d q
  ·rw[if_neg hk]at q;exact h y d q
theorem v6{env:Env}{x:Str}:∀{l:List (Str×NameKind)}{cs:List (Str×Addr)},(cs.lookup x).isSome=true->((b7 env l cs).lookup x).isSome=true
 |[],_,h=>h
 | (n,k)::r,cs,h=>by
  refine v6 (l:=r) (cs:=_) ?_;by_cases hk:(k==NameKind.free)=true
  ·rw[if_pos hk];cases hn:env.cells.lookup n with
   |none=>exact h
   |some c'=>
    simp only[List.lookup_cons];cases hy:x==n with
    |true=>rfl
    |false=>exact h
  ·rw[if_neg hk];exact h
theorem v7{env:Env}{x:Str}(hx:(env.cells.lookup x).isSome=true):∀{l:List (Str×NameKind)}{cs:List (Str×Addr)},(x,NameKind.free)∈l->((b7 env l cs).lookup x).isSome=true
 | (n,k)::r,cs,h=>by
  rcases ba.mp h with e |h
  ·cases e;refine v6 (l:=r) (cs:=_) ?_;rw[if_pos (show (NameKind.free==NameKind.free)=true by decide)];obtain ⟨c,hc⟩:=ci.mp hx;rw[hc];simp
  ·exact v7 hx (l:=r) h
theorem v8{scope:Scope}{env:Env}(h:∀y∈scope.names,y.2=NameKind.free->(env.cells.lookup y.1).isSome=true):closureFor scope env=pure (b7 env scope.names []):=by
 simp only[closureFor];generalize ([]:List (Str×Addr))=cs;generalize scope.names=l at h;induction l generalizing cs with
 |nil=>rfl
 |cons y r ih=>
  obtain ⟨n,k⟩:=y;have ih':=λcs=>ih cs λy hy=>h y (aT _ hy);rw[List.forIn_cons];by_cases hk:(k==NameKind.free)=true
  ·have hk':k=NameKind.free:=eq_of_beq hk;obtain ⟨c,hc⟩:=ci.mp (h (n,k) aS hk');have e1:b7 env ((n,k)::r) cs=b7 env r ((n,c)::cs):=by
    rw[b7,if_pos hk];show b7 env r (match env.cells.lookup n with |some c=>(n,c)::cs |none=>cs)=_;have hc':env.cells.lookup n=some c:=hc;rw[hc']
   have e2:cellOf env n=pure c:=by unfold cellOf;have hc':env.cells.lookup n=some c:=hc;rw[hc']
   rw[e1,<-ih' ((n,c)::cs)];simp only[hk,if_true,e2];rfl
  ·have e1:b7 env ((n,k)::r) cs=b7 env r cs:=by rw[b7,if_neg hk]
   rw[e1,<-ih' cs];simp only[hk,if_false];rfl
theorem qt{env:Env}{x:Str}:∀{names:List (Str×NameKind)},
  (names.map λ(n,k)=>if (k==NameKind.free&&env.scope.kind==.function&&env.kindOf n==some .cell) then (n,NameKind.cell) else (n,k)).lookup x=
   (names.lookup x).map λk=>if (k==NameKind.free&&env.scope.kind==.function&&env.kindOf x==some .cell)=true then NameKind.cell else k
 |[]=>rfl
 | (n,k)::r=>by
  have ih:=@qt env x r;rw[cy];have hh:∀(c:Prop)[Decidable c],(if c then (n,NameKind.cell) else (n,k))=(n,if c then NameKind.cell else k):=λc _=>by split <;> rfl
  show List.lookup x ((if (k==NameKind.free&&env.scope.kind==.function&&env.kindOf n==some .cell)=true then (n,NameKind.cell) else (n,k))::_)=_;rw[hh];simp only[List.lookup_cons];cases hx:x==n with
  |true=>
   have e1:x=n:=eq_of_beq hx;subst e1;rfl
  |false=>exact ih
abbrev Cx.comp(X:Cx)(N':List Str)(scope:Scope)(cl:List (Str×Addr))(C:Addr)(s₁:Shared)(H₁:Hp)(fp:List Addr)(pn:List (Addr×Obj)):Cx where
 prog:=X.prog
 w:=X.w
 K:=X.K
 mg:=X.mg
 base:=X.base
 A:=X.A
 N:=N'
 s₀:=s₁
 H₀:=H₁
 env:=compEnvC scope cl C X.env
 outer:=X.stack
 stack:=X.stack
 ex:=fp
 fn:=λ_=>false
 calm:=X.calm
 pn:=pn
 xe:=λ_ _=>False
def PIf(X:Cx)(ifs:List Expr)(t:TT):Prop:=
 ∀(pins:List (Addr×Obj))(s:Shared)(σ:St)(H:Hp)(Q:Bool->Hp->Prop),Inv X pins σ H s->t σ H Q->
  wpAny (model X.prog X.w) X.A (forIn ifs true λc r=>if r=true then do let ok <-isTrue c X.env (eval c X.env);pure (ForInStep.yield ok) else pure (ForInStep.yield r)) (TP X pins σ Q) X.xe s
def Ou:TT:=λ_ H Q=>Q true H
theorem Ov{X:Cx}:PIf X [] Ou:=λ_ _ _ H _ I h=>wpAny_tests_nil ⟨H,I,h⟩
theorem Ow{X:Cx}{c:Expr}{t:TT}(h:PT X c t):PIf X [c] t:=λpins s σ H Q I q=>wpAny_tests_one (h pins s σ H Q I q)
def cT(cap:List (Option Nat))(σ:St):St:=cap.map λo=>match o with |none=>none |some j=>(σ[j]?).join
noncomputable def Caps(X:Cx)(scope:Scope):List Str->List (Option Nat)->Prop
 |[],[]=>True
 |_::N',none::cap=>Caps X scope N' cap
 |x::N',some j::cap=>(X.N[j]?=some x/\scope.names.lookup x=some NameKind.free)/\Caps X scope N' cap
 |_,_=>False
theorem Caps.len{X:Cx}{scope:Scope}:∀{N':List Str}{cap:List (Option Nat)},Caps X scope N' cap->cap.length=N'.length
 |[],[],_=>rfl
 |_::N',none::cap,h=>by
  have:=Caps.len (N':=N') (cap:=cap) h;simp[this]
 |_::N',some _::cap,h=>by
  have:=Caps.len (N':=N') (cap:=cap) h.2;simp[this]
 |[],_::_,h=>False.elim h
 |_::_,[],h=>False.elim h
theorem Caps.at{X:Cx}{scope:Scope}:∀{N':List Str}{cap:List (Option Nat)}{i:Nat}{x:Str}{v:V}{σ:St},Caps X scope N' cap->N'[i]?=some x->(cT cap σ)[i]?=some (some v)->
  ∃j:Nat,X.N[j]?=some x/\scope.names.lookup x=some NameKind.free/\σ[j]?=some (some v)
 |[],[],i,x,v,σ,_,e,_=>by simp at e
 |y::N',none::cap,0,x,v,σ,h,e,q=>by simp[cT]at q
 |y::N',some j::cap,0,x,v,σ,h,e,q=>by
  have e1:y=x:=by simpa using e
  subst e1;have q1:(σ[j]?).join=some v:=by simpa [cT] using q
  refine ⟨j,h.1.1,h.1.2,?_⟩;cases z:σ[j]? with
  |none=>rw[z]at q1;cases q1
  |some o=>rw[z]at q1;exact c6 some q1
 |y::N',none::cap,i+1,x,v,σ,h,e,q=>Caps.at (N':=N') (cap:=cap) (i:=i) h (by simpa using e) (by simpa [cT] using q)
 |y::N',some _::cap,i+1,x,v,σ,h,e,q=>Caps.at (N':=N') (cap:=cap) (i:=i) h.2 (by simpa using e) (by simpa [cT] using q)
 |[],_::_,_,_,_,_,h,_,_=>False.elim h
 |_::_,[],_,_,_,_,h,_,_=>False.elim h
abbrev tx(l:List Nat):Str:=⟨l.toArray⟩
theorem bD(l:List Nat):(tx l).length=l.length:=by simp[Str.length]
theorem lC(a b:List Nat):tx a++tx b=tx (a++b):=by show (⟨a.toArray++b.toArray⟩:Str)=⟨(a++b).toArray⟩;simp
theorem v9{a b:List Nat}(h:tx a=tx b):a=b:=by have:=c6 (λx:Str=>x.cps.toList) h;simpa using this
theorem qu(x:Str):x=tx x.cps.toList:=by cases x;simp
section
variable {X:Cx}
theorem wg:∀{ys:List Str}{us:List Value},Vals (ys.map V.str) us->StrsAre us ys
 |[],us,r=>by
  rw[fN]at r;cases r;exact .nil
 |y::ys,us,r=>by
  rw[cy]at r;cases r with
  |cons r1 r2=>
   obtain ⟨t,e⟩:=r1;subst e;exact .cons y t (wg r2)
noncomputable def rJoin(K:PF):V->List V->Hp->VK->Prop:=λx vs H Q=>∃z p ys,x=.str z/\vs=[.ref p]/\SqL K H p (ys.map V.str)/\(ys.map (·.length)).sum+ys.length * z.length<=16777216/\Q (.str (Str.join z ys)) H
theorem Oz:MtR X "str.join" (rJoin X.K):=by intro pins s σ H x xs v us Q I rx rs h;obtain ⟨z,p,ys,rfl,rfl,hq,hb,q⟩:=h;obtain ⟨t,rfl⟩:=rx;obtain ⟨u,rfl,ru⟩:=vals1 rs;cases ru;obtain ⟨its,rv,pl,hz⟩:=I.list hq;refine join_list pl.isList (by simpa using wg rv) hb λt' k=>⟨.str _,H,I.tok _,⟨_,rfl⟩,?_⟩;have e:Txt.join z ys=Str.join z ys:=StrLaws.glued_eq_join z ys;rw[e];exact q
noncomputable def OD(K:PF):List V->Hp->VK->Prop:=λxs H Q=>∃x n t b,xs=[x,.ty n]/\TyOf K H x t/\PySem.W.kitOne K t (.type n)=some b/\Q (.bl b) H
theorem OJ:bA X (.builtin "isinstance") (OD X.K):=by intro pins s σ H xs us Q I r h;obtain ⟨x,n,t,b,rfl,ty,e,q⟩:=h;obtain ⟨u,w',rfl,rx,ry⟩:=vals2 r;cases ry;exact MJ I rx ty e λtk=>⟨.bl b,H,I.tok _,rfl,q⟩
theorem O1:bootBuiltins "bool"=some (.type "bool"):=by ac_rfl
theorem wj:bootBuiltins "int"=some (.type "int"):=by ac_rfl
theorem wk:bootBuiltins "str"=some (.type "str"):=by ac_rfl
theorem wu:bootBuiltins "list"=some (.type "list"):=by ac_rfl
theorem O2:bootBuiltins "isinstance"=some (.builtin "isinstance"):=by ac_rfl
theorem O3 {x:Str} {T:String} {pos:Pos} (hg:Gl X x) (hm:X.mg x=none) (hv:bootBuiltins x=some (.type T)) (hn:x≠"__name__":=by decide) (hd:(x==("__debug__":Str))=false:=by decide):PE X (.Name x pos) (tC (.ty T)):=
 Kg hg hm hv (v:=.ty T) rfl hn hd
theorem O4:OpR X (binaryOp .Mult) (λx y H Q=>∃i n,x=.str i/\y=.int n/\MulOk i n/\Q (.str (Txt.mul i n)) H):=by intro pins s σ H x y v u Q I rx ry h;obtain ⟨i,n,rfl,rfl,hok,q⟩:=h;obtain ⟨t,rfl⟩:=rx;obtain ⟨t',rfl⟩:=ry;exact SB.mul hok λt' k=>⟨.str _,H,I.tok _,⟨_,rfl⟩,q⟩
end
open Builtin Builtin.Str
theorem O5{prog:Program}{w:World}{A:Around}(hh:A.handled=none)(it:Addr)(x:Str)(t:Tok):
  Draws prog w A it [it] x.cps.size (λi v=>∃c u,x.cps[i]?=some c/\v=.str ⟨#[c]⟩ u) (λi h=>h.IsStrIter it (strIterType x) x t i):=by
 unfold strIterType;split
 ·exact Draws.strAscii hh it x t
 ·exact Draws.strWide hh it x t
structure ZApart(z TI TO i1 i2:Addr):Prop where
 TIz:TI≠z
 TOz:TO≠z
 i1z:i1≠z
 i2z:i2≠z
 TITO:TI≠TO
 TIi1:TI≠i1
 TIi2:TI≠i2
 TOi1:TO≠i1
 TOi2:TO≠i2
 i12:i1≠i2
section
variable {X:Cx}
theorem ww:∀{bs:List Bool}{us:List Value}{i:Nat}{v:Value},Vals (bs.map V.bl) us->us[i]?=some v->∃b,bs[i]?=some b/\v=.bool b
 |[],us,i,v,r,e=>by
  rw[fN]at r;cases r;simp at e
 |b::bs,us,i,v,r,e=>by
  rw[cy]at r;cases r with
  |cons r1 r2=>
   cases i with
   |zero=>
    cases (show _=Value.bool b from r1);exact ⟨b,rfl,by simpa using e.symm⟩
   |succ i=>exact ww (i:=i) r2 (by simpa using e)
theorem O6:bootBuiltins "all"=some (.builtin "all"):=by ac_rfl
theorem O7:bootBuiltins "zip"=some (.type "zip"):=by ac_rfl
theorem all_range(bs:List Bool)(n:Nat)(hn:n=bs.length):((List.range n).all λi=>(bs[i]?).getD true)=bs.all id:=by
 subst hn;rw[eI,bS,bS];constructor
 ·intro h b hb;obtain ⟨i,hi,e⟩:=List.mem_iff_getElem.mp hb;have:=h i (List.mem_range.mpr hi);rw[a8 hi,e]at this;simpa using this
 ·intro h i hi;have hi':=List.mem_range.mp hi;rw[a8 hi'];simpa using h _ (List.getElem_mem hi')
theorem O8 (hc:X.calm=true):bA X (.builtin "all") (λxs H Q=>∃(p:Addr) (bs:List Bool),xs=[.ref p]/\SqL X.K H p (bs.map V.bl)/\Q (.bl (bs.all id)) H):=by
 intro pins s σ H xs us Q I r h;obtain ⟨p,bs,rfl,hq,q⟩:=h;obtain ⟨u,rfl,ru⟩:=vals1 r;cases ru;obtain ⟨its,rv,pl,hz⟩:=I.list hq;have hl:=pl.isList;have hlt:p < s.heap.objs.size:=by obtain ⟨_,e,_⟩:=hl;exact aw e
 refine call_all_walk (wpAny_pyIter_list hl ?_);refine ⟨s.heap.objs.size,[s.heap.objs.size,p],[s.heap.objs.size],its.toArray.size,_,_,λi=>(bs[i]?).getD true,rfl,Walks.list (A:=X.A.in1) (I.ok.hd hc) _ p (bv hlt) its.toArray,
  ⟨⟨_,ay _ rfl,rfl,rfl⟩,hl.push _⟩,λi v s' Q' E' hP hQ=>?_,λh' tk hk=>?_⟩
 ·obtain ⟨b,e,rfl⟩:=ww rv (i:=i) (v:=v) (by simpa using hP);simp only[e,Option.getD_some]at hQ;exact d5 hQ
 ·have e:=all_range bs its.toArray.size (by rw[ap,<-rv.length,ax]);rw[e];exact ⟨.bl _,H,I.kept (λb o q=>hk b o (λhm=>by rw[bd.mp hm]at q;exact cx _ (aw q)) (al _ q)),rfl,q⟩
theorem O9:OpR X (compareOp .Is) (λx y H Q=>∃i j,x=.bl i/\y=.bl j/\Q (.bl (i==j)) H):=by intro pins s σ H x y v u Q I rx ry h;obtain ⟨i,j,rfl,rfl,q⟩:=h;cases rx;cases ry;exact is_bool ⟨.bl _,H,I,rfl,q⟩
theorem Pa:bA X (.type "int") (λxs H Q=>∃z n,xs=[.str z]/\PySem.intText? z=some n/\z.length<=640/\Q (.int n) H):=by intro pins s σ H xs us Q I r h;obtain ⟨z,n,rfl,hn,hl,q⟩:=h;obtain ⟨u,rfl,t,rfl⟩:=vals1 r;exact PySem.W.KIN.call_text hn hl ⟨.int n,H,I.tok _,⟨_,rfl⟩,q⟩
noncomputable def Pb:V->Option Int->Option Int->Hp->VK->Prop:=λx lo hi H Q=>∃z,x=.str z/\z.length<=sizeLine/\Q (.str (Txt.slice z lo hi)) H
theorem Pg:SlR X Pb:=by
 intro pins s σ H x v vl vu lo hi sl Q I rx hs pl pu h;obtain ⟨z,rfl,hz,q⟩:=h;obtain ⟨t,rfl⟩:=rx;refine ⟨"str",_,slot_str_getitem.lookup,typeIs_str _ _ _,?_⟩;obtain ⟨l,el,e1⟩:∃l:Option (Int×Tok),vl=partValue l/\l.map (·.1)=lo:=by
  cases pl with
  |none=>exact ⟨none,rfl,rfl⟩
  |int i t=>exact ⟨some (i,t),rfl,rfl⟩
 obtain ⟨u,eu,e2⟩:∃u:Option (Int×Tok),vu=partValue u/\u.map (·.1)=hi:=by
  cases pu with
  |none=>exact ⟨none,rfl,rfl⟩
  |int i t=>exact ⟨some (i,t),rfl,rfl⟩
 subst el eu e1 e2;refine wpAny_getItem_str_slice (l:=l) (u:=u) (st:=none) hs rfl ?_;unfold sliceMade;unfold Txt.slice at q;show (if ((1:Int)==1&&(slicePicked z l u none).length==z.length)=true then Made.val (.str z t) else Made.str ⟨((slicePicked z l u none).filterMap (z.cps[·]?)).toArray⟩).post _ _;have ep:slicePicked z l u none=Builtin.Str.strSliceIndices (l.map (·.1)) (u.map (·.1)) 1 z.length:=rfl;rw[ep];by_cases hc:((1:Int)==1&&(Builtin.Str.strSliceIndices (l.map (·.1)) (u.map (·.1)) 1 z.length).length==z.length)=true
 ·rw[if_pos hc]at q ⊢;exact ⟨.str z,H,I,⟨t,rfl⟩,q⟩
 ·rw[if_neg hc]at q ⊢;refine ⟨?_,⟨.str _,H,I.tok _,⟨_,rfl⟩,q⟩⟩;show (List.filterMap _ _).toArray.size<=sizeLine;rw[ap];have h1:=sliceIndices_le (l.map (·.1)) (u.map (·.1)) z.length;have h2:=List.length_filterMap_le (λx=>z.cps[x]?) (Builtin.Str.strSliceIndices (l.map (·.1)) (u.map (·.1)) 1 z.length);omega
end
section
variable {X:Cx}
theorem Ph:OpR X (compareOp .IsNot) (λx y H Q=>∃i j,x=.bl i/\y=.bl j/\Q (.bl (i != j)) H):=by intro pins s σ H x y v u Q I rx ry h;obtain ⟨i,j,rfl,rfl,q⟩:=h;cases rx;cases ry;exact isnot_bool ⟨.bl _,H,I,rfl,q⟩
end
def noStar:Expr->Bool
 |.Starred ..=>false
 |_=>true
theorem bF(e:Expr)(es:List Expr)(env:Env)(h:noStar e=true):starEach (e::es) env=(false,eval e env)::starEach es env:=by cases e <;> first |rfl |cases h
variable {X:Cx} {e st:Expr} {te ts:TE} {p2 pos:Pos}
theorem ObjOk.at{P:Program}{w:World}{H:Hp}{h:Heap}{a:Addr}{o:HO}(x:ObjOk P w H h a o):∃u,h.get? a=some u:=by
 cases o with
 |lst xs=>obtain ⟨_,_,_,_,e⟩:=x;exact ⟨_,e⟩
 |tup xs=>obtain ⟨_,_,_,o,e,_⟩:=x;exact ⟨_,e⟩
 |dK kvs=>obtain ⟨_,_,_,_,o,_,_,e,_⟩:=x;exact ⟨_,e⟩
 |dT kvs=>obtain ⟨_,_,_,_,o,_,_,e,_⟩:=x;exact ⟨_,e⟩
 |set S n=>obtain ⟨o,_,_,_,e,_⟩:=x;exact ⟨_,e⟩
 |ins C dx fs=>obtain ⟨_,_,_,e,_⟩:=x;exact ⟨_,e⟩
 |own y=>exact x
 |xd fs=>obtain ⟨_,⟨_,_,_,e,_⟩,_⟩:=x;exact ⟨_,e⟩
 |rng lo hi=>obtain ⟨_,_,_,e⟩:=x;exact ⟨_,e⟩
 |frz ob u=>obtain ⟨e,_⟩:=x;exact ⟨_,e⟩
 |tbl ps=>exact ⟨_,(show h.get? a=some _ from x)⟩
 |met f y=>exact ⟨_,(show h.get? a=some _ from x)⟩
 |ext φ=>obtain ⟨_,e,_⟩:=x;exact e
theorem HOk.gone{P:Program}{w:World}{H:Hp}{h:Heap}{a:Addr}(x:HOk P w H h)(e:h.get? a=none):H a=none:=by
 cases q:H a with
 |none=>rfl
 |some u=>obtain ⟨o,ho⟩:=(x a u q).at;rw[ho]at e;cases e
def Tr(h0:Heap)(H:Hp)(h:Heap)(a:Addr)(c:Value):Prop:=
 ∃oe vs T oT ts,h.get? a=some oe/\oe.cls=c/\oe.data=.fields vs/\vs[1]?=some (.ref T)/\T≠a/\h.get? T=some oT/\oT.data=.fields ts/\ts[3]?=some .none/\
  h0.get? a=none/\h0.get? T=none/\H a=none/\H T=none
def CX1(P:Program)(w:World):CXT:=λouter H s E e s'=>
 ∃(a:Addr)(c:Value)(H':Hp),e=.ref a/\s'.os=s.os/\AllBare s'.gens/\Un (frs outer) [] H H' s.heap s'.heap/\HOk P w H' s'.heap/\Tr s.heap H' s'.heap a c/\E c none H'
section
variable {X:Cx} {pins:List (Addr×Obj)} {σ:St} {H:Hp} {s:Shared}
theorem wy{P:Program}{w:World}(Y:Cx):fW (CX1 P w) Y λ_ _ _=>False:=λ_ _ _ _ _ _ _ h=>by
 obtain ⟨_,_,_,_,_,_,_,_,_,q⟩:=h;exact q.elim
end
abbrev veM:List Value:=[.type "ValueError",.type "Exception",.type "BaseException",.type "object"]
noncomputable def qw:List Value->Bool
 |[.type a,.type b,.type c,.type d]=>a=="ValueError"&&b=="Exception"&&c=="BaseException"&&d=="object"
 |_=>false
theorem Pj{l:List Value}(h:qw l=true):l=veM:=by
 unfold qw at h;split at h
 ·simp only[ah,aE]at h;obtain ⟨⟨⟨rfl,rfl⟩,rfl⟩,rfl⟩:=h;rfl
 ·cases h
def lE:Value->Bool
 |.str _ _=>true
 |_=>false
noncomputable def nsB(K:PF)(N:Addr):Bool:=match K.lookup N with
 |some ⟨_,_,.dict es _,_⟩=>es.toList.all (λe=>lE e.key)&&quietNames.all λn=>(nsFind es n).isNone
 |_=>false
theorem wz{K:PF}{N:Addr}{h:Heap}(KX:K.In h)(b:nsB K N=true):∃m,h.Ns N m/\∀n∈quietNames,m n=none:=by
 unfold nsB at b;split at b
 ·rename_i c d es ep sl e;rw[ah,bS,bS]at b;refine ⟨nsFind es,⟨_,es,ep,KX _ _ e,rfl,λx hx=>?_,λ_=>rfl⟩,λn hn=>by simpa using b.2 n hn⟩;have:=b.1 x (Array.mem_toList_iff.mpr hx);unfold lE at this;split at this
  ·rename_i y t e;exact ⟨_,_,e⟩
  ·cases this
 ·cases b
noncomputable def wA(K:PF)(A:Addr):Bool:=match K.lookup A with
 |some ⟨_,_,.cls cd,_⟩=>nsB K cd.ns
 |_=>false
noncomputable def iY(K:PF):List Value->Bool
 |[]=>false
 |v::tl=>(match v with |.ref A=>wA K A&&iY K tl |_=>qw (v::tl))
theorem qx{K:PF}{h:Heap}(KX:K.In h):∀{l:List Value},iY K l=true->OwnTailQ h veM l
 |[],b=>by cases b
 |v::tl,b=>by
  unfold iY at b;split at b
  ·rename_i A;rw[ah]at b;have b1:=b.1;unfold wA at b1;split at b1
   ·rename_i c d cd sl e;obtain ⟨m,hm,hq⟩:=wz KX b1;exact .own (KX _ _ e) hm hq (qx KX b.2)
   ·cases b1
  ·rw[Pj b];exact .base
def isRef(C:Addr):Value->Bool
 |.ref a=>a==C
 |_=>false
def isNew:Option Value->Bool
 |some (.builtin s)=>s=="ValueError.__new__"
 |_=>false
def iZ:Value->Bool
 |.type s=>s=="type"
 |_=>false
noncomputable def dZ(K:PF)(C:Addr):Bool:=match K.lookup C with
 |some ⟨ty,_,.cls cd,⟨[_,_,_,_,k,_]⟩⟩=>iZ ty&&isNew k&&nsB K cd.ns&&!cd.hasDel&&(match cd.mro with |v::tl=>isRef C v&&iY K tl |[]=>false)
 |_=>false
theorem Pk {K:PF} {C:Addr} {h:Heap} {mg:Str->Option Value} {x:Str} (KX:K.In h) (b:dZ K C=true) (hm:mg x=some (.ref C)):OwnClsQ x C veM "ValueError.__new__" mg h:=by
 unfold dZ at b;split at b
 ·rename_i ty dd cd k0 k1 k2 k3 k k5 e;simp only[ah]at b;obtain ⟨⟨⟨⟨b1,b2⟩,b3⟩,b5⟩,b4⟩:=b;obtain ⟨m,hns,hq⟩:=wz KX b3;have e1:ty=.type "type":=by
   unfold iZ at b1;split at b1
   ·rw[aE]at b1;rw[b1]
   ·cases b1
  have e2:k=some (.builtin "ValueError.__new__"):=by
   unfold isNew at b2;split at b2
   ·rw[aE]at b2;rw[b2]
   ·cases b2
  obtain ⟨nm,bs,mro,ns,q,hd,sn,sub,ab,col,del⟩:=cd;dsimp only at b4 hns b5;have e4:del=false:=by simpa using b5
  subst e4;split at b4
  ·rename_i v tl;rw[ah]at b4;have e3:v=.ref C:=by
    have:=b4.1;unfold isRef at this;split at this
    ·rw[aE]at this;rw[this]
    ·cases this
   subst e1 e2 e3;exact ⟨hm,tl,ns,nm,q,bs,hd,sn,sub,ab,col,dd,k0,k1,k2,k3,k5,m,KX _ _ e,hns,hq,qx KX b4.2⟩
  ·cases b4
 ·cases b
theorem wB{h h':Heap}(k:∀b o,h.get? b=some o->h'.get? b=some o){N:Addr}{m:Str->Option Value}(n:h.Ns N m):h'.Ns N m:=by obtain ⟨o,es,ep,e,r⟩:=n;exact ⟨o,es,ep,k _ _ e,r⟩
theorem Pn{h h':Heap}(k:∀b o,h.get? b=some o->h'.get? b=some o){bmB bm:List Value}(t:OwnTail h bmB bm):OwnTail h' bmB bm:=by
 induction t with
 |base=>exact .base
 |own e n i _ ih=>exact .own (k _ _ e) (wB k n) i ih
section
variable {X:Cx}
theorem digits_le:∀n:Fin 100,(Str.ofString (toString (n.val:Int))).length<=3:=by ac_rfl
def Throws(X:Cx)(E:XK):Prop:=∀(pins:List (Addr×Obj))(σ:St)(H:Hp)(s:Shared)(h':Heap)(a:Addr)(c:Value)(args:List Value),Inv X pins σ H s->s.heap.MadeExcOf h' a c args->E c none H->X.xe (.ref a) { s with heap:=h' }
end
section
variable {X:Cx}
variable {pins:List (Addr×Obj)} {σ:St} {H:Hp} {s:Shared}
structure Caught(X:Cx)(H:Hp)(s:Shared)(H':Hp)(a:Addr)(c:Value)(s':Shared):Prop where
 os:s'.os=s.os
 bare:AllBare s'.gens
 un:Un (frs X.stack) [] H H' s.heap s'.heap
 hok:HOk X.prog X.w H' s'.heap
 tr:Tr s.heap H' s'.heap a c
variable {H':Hp} {a:Addr} {c:Value} {s':Shared}
end
open Builtin.ObjectAttr Builtin.Getset_descriptor
open PySem.W (findIn mroIn clsIn typeIn Looks InstAt looks_findIn looks_mroIn looks_typeIn)
noncomputable def gH(K:PF)(D:Addr):Bool:=
 findIn K (.ref D) "__class__"==some (some (.builtin "object.__class__"))&&findIn K (.ref D) "__getattribute__"==some (some (.builtin "BaseException.__getattribute__"))&&findIn K (.ref D) "__getattr__"==some none &&
  mroIn K D (.type "object")==some true&&mroIn K D (.type "BaseException")==some true&&(clsIn K D).isSome
structure Xin(K:PF)(D:Addr):Prop where
 c:findIn K (.ref D) "__class__"=some (some (.builtin "object.__class__"))
 ga:findIn K (.ref D) "__getattribute__"=some (some (.builtin "BaseException.__getattribute__"))
 g:findIn K (.ref D) "__getattr__"=some none
 o:mroIn K D (.type "object")=some true
 b:mroIn K D (.type "BaseException")=some true
 d:(clsIn K D).isSome=true
theorem Pq{K:PF}{D:Addr}(h:gH K D=true):Xin K D:=by unfold gH at h;simp only[ah,aE]at h;obtain ⟨⟨⟨⟨⟨h1,h2⟩,h3⟩,h4⟩,h5⟩,h6⟩:=h;exact ⟨h1,h2,h3,h4,h5,h6⟩
section
variable {prog:Program} {w:World} {A:Around} {E:Value->Shared->Prop} {h:Heap} {g:Array GenState} {d:Drawn} {t:Nat} {os:OsState} {a:Addr} {o:Obj} {K:PF} {D:Addr}
theorem Pr{M:Model}{nameV:Value}{Q:Unit->Shared->Prop}(X:K.In h)(x:Xin K D)(hx:h.get? a=some o)(hc:o.cls=.ref D)(hq:Q () ⟨h,g,d,t,os⟩):
  wpAny M A (checkBuiltinCall "BaseException.__getattribute__" ⟨[.ref a,nameV],[]⟩) Q E ⟨h,g,d,t,os⟩:=by
 have hk:builtinKind "BaseException.__getattribute__"=some .slot:=by ac_rfl
 have hsplit:splitId "BaseException.__getattribute__"=some ("BaseException","__getattribute__"):=by ac_rfl
 have L1:=looks_mroIn (M:=M) X x.b;have ha:=F.args_bexc_ga (.ref a) nameV;simp only[checkBuiltinCall,hk,hsplit];refine ae ?_
 ·unfold isInstance;repeat (first | (with_reducible refine gs hx ?_;rw[hc]) |with_reducible refine L1.at ?_ |wp_step)
  exact hq
end
open PySem.W (findIn mroIn clsIn typeIn Looks looks_findIn looks_mroIn looks_typeIn)
section
variable {X:Cx}
def XO(H:Hp)(a c:Addr):Prop:=∃o y,H a=some (.frz o (.own y))/\o.cls=.ref c
def valOf:V->Value
 |.ref a=>.ref a
 |.ty n=>.type n
 |_=>.none
end
section
variable {X:Cx} {pins:List (Addr×Obj)} {σ:St} {H:Hp} {s:Shared}
theorem Inv.tell(I:Inv X pins σ H s){a:Addr}{o:Obj}{vs:Array Value}(h0:X.s₀.heap.get? a=none)(hH:H a=none)(ho:s.heap.get? a=some o)(hd:o.data=.fields vs)(hp:∀p∈X.pn++pins,p.1≠a):
  Inv X pins σ (upd H a (.frz o (.own a))) s:=by
 have nl:X.env.locals≠a:=by intro e;obtain ⟨m,⟨o',es,ep,e1,e2,_⟩,_⟩:=I.loc;rw[e,ho]at e1;cases e1;rw[hd]at e2;cases e2
 have nc:∀x c,X.env.cells.lookup x=some c->c≠a:=by intro x c hc e;obtain ⟨v,o',e1,e2⟩:=I.cell x c hc;rw[e,ho]at e1;cases e1;rw[hd]at e2;cases e2
 refine ⟨I.ok,I.os,I.bare,⟨I.base.keep,I.base.slot,λb u q n hx=>?_,I.base.there,λb xs q=>?_,λb u v q=>?_,λb ps q=>?_⟩,I.loc,I.cell,by rw[az nl];exact I.free,λx c e=>by rw[az (nc x c e)];exact I.freeC x c e,λp hpp=>?_,λb u q=>?_,I.len⟩
 ·rw[az (λe=>by rw[e,h0]at q;cases q)];exact I.base.free b u q n hx
 ·have q':=I.base.tups b xs q;rw[az (aQ q' hH)];exact q'
 ·have q':=I.base.frzs b u v q;rw[az (aQ q' hH)];exact q'
 ·obtain ⟨m,q'⟩:=I.base.tbls b ps q;exact ⟨m,by rw[az (aQ q' hH)];exact q'⟩
 ·obtain ⟨p1,p2,p3⟩:=I.pin p hpp;exact ⟨p1,by rw[az (hp p hpp)];exact p2,p3⟩
 ·by_cases hb:b=a
  ·subst hb;rw[bZ]at q;cases q;exact ⟨ho,o,ho⟩
  ·rw[az hb]at q;exact (I.hok b u q).stay (λ_ _ _ z=>z) (λc z=>by rw[az (aQ z hH)];exact z) λc xs z=>by rw[az (aQ z hH)];exact z
end
section
variable {X:Cx}
def XP(X:Cx)(pins:List (Addr×Obj))(ex:Value->St->Hp->Prop)(σ:St)(e:Value)(s1:Shared):Prop:=∃a c H1 s0 H',e=.ref a/\Inv X pins σ H1 s0/\Caught X H1 s0 H' a c s1/\ex c σ H'
noncomputable def wC (K:PF) (C:Addr):Bool:=typeIn K (.ref C)==some (.type "type")&&(clsIn K C).isSome&&mroIn K C (.type "BaseException")==some true
end
open PySem.SeqAt
section
variable {X:Cx}
theorem qy:∀{bs:List Bool}{us:List Value},Vals (bs.map V.bl) us->us=bs.map Value.bool
 |[],us,r=>by cases r;rfl
 |b::bs,us,r=>by
  cases r with
  |cons r1 r2=>
   have e:_=Value.bool b:=r1;rw[e,qy r2];rfl
theorem wD(k:Bool){bs:List Bool}:∀y,y∈(bs.map Value.bool)->∀(A:Around)(s:Shared),EqAt A s y (.bool k) (isBoolOf k y):=by intro y hy A s;obtain ⟨b,_,rfl⟩:=cb.mp hy;exact EqAt.bool_bool b k
theorem Pu(k:Bool)(bs:List Bool):(bs.map Value.bool).countP (isBoolOf k)=bs.count k:=by
 induction bs with
 |nil=>rfl
 |cons b bs ih=>
  rw[cy,List.countP_cons,ih,List.count_cons];rfl
noncomputable def Px(K:PF):V->List V->Hp->VK->Prop:=λx vs H Q=>∃(p:Addr)(bs:List Bool),x=.ref p/\vs=[.bl true]/\SqL K H p (bs.map V.bl)/\Q (.int (bs.count true:Nat)) H
theorem Py:MtR X "list.count" (Px X.K):=by intro pins s σ H x xs v us Q I rx rs h;obtain ⟨p,bs,rfl,rfl,hq,q⟩:=h;cases rx;obtain ⟨u,rfl,ru⟩:=vals1 rs;cases ru;obtain ⟨its,rv,⟨o,n,ho,hc,hd,hdd⟩,hz⟩:=I.list hq;obtain ⟨cls,dd,data,sl⟩:=o;simp only at hc hd hdd;subst hc hd hdd;have e:=qy rv;subst e;refine fo PySem.F.slot_list_count ⟨_,ho,rfl⟩ PySem.F.entry_list_count (PySem.F.args_list_count_2 _ _) (list_countAt p _ n _ sl (.bool true) (isBoolOf true)) ⟨ho,λy hy=>wD true y (by simpa using hy) _ _,?_⟩;refine ⟨.int _,H,I.tok _,⟨_,rfl⟩,?_⟩;rw[show ((bs.map Value.bool).toArray).toList=bs.map Value.bool from rfl,Pu];exact q
noncomputable def Pz(K:PF):V->List V->Hp->VK->Prop:=λx vs H Q=>∃(p:Addr)(bs:List Bool),x=.ref p/\vs=[.bl true]/\SqL K H p (bs.map V.bl)/\true∈bs/\Q (.int (bs.idxOf true:Nat)) H
theorem wF(bs:List Bool)(j:Nat)(h:j < (bs.map Value.bool).length)(h':j < bs.length):isBoolOf true (bs.map Value.bool)[j]=(bs[j]==true):=by rw[List.getElem_map];rfl
theorem PJ:MtR X "list.index" (Pz X.K):=by
 intro pins s σ H x xs v us Q I rx rs h;obtain ⟨p,bs,rfl,rfl,hq,hin,q⟩:=h;cases rx;obtain ⟨u,rfl,ru⟩:=vals1 rs;cases ru;obtain ⟨its,rv,⟨o,n,ho,hc,hd,hdd⟩,hz⟩:=I.list hq;obtain ⟨cls,dd,data,sl⟩:=o;simp only at hc hd hdd;subst hc hd hdd;have e:=qy rv;subst e;have hj:bs.idxOf true < bs.length:=List.idxOf_lt_length_iff.mpr hin;have hz':bs.length<=sizeLine:=by rw[ax]at hz;exact hz
 have hs:sizeLine < 2 ^ 63 - 1:=by decide
 refine fo PySem.F.slot_list_index ⟨_,ho,rfl⟩ PySem.F.entry_list_index (PySem.F.args_list_index_2 _ _) (list_indexAt p _ n _ sl (.bool true) (isBoolOf true) (bs.idxOf true) (by simpa using hj) (by omega) ?_ ?_) ⟨ho,λy hy=>wD true y (by simpa using hy) _ _,?_⟩
 ·have h3:bs.idxOf true < (bs.map Value.bool).length:=by rw[ax];exact hj
  show isBoolOf true ((bs.map Value.bool)[bs.idxOf true]'h3)=true;rw[wF bs _ h3 hj];simpa using List.getElem_idxOf hj
 ·intro j hjs hlt;have h2:j < bs.length:=by omega
  have h3:j < (bs.map Value.bool).length:=by rw[ax];exact h2
  show isBoolOf true ((bs.map Value.bool)[j]'h3)=false;rw[wF bs j h3 h2];have h4:j < bs.findIdx (·==true):=hlt;simpa using List.not_of_lt_findIdx h4
 ·exact ⟨.int _,H,I.tok _,⟨_,rfl⟩,q⟩
end
section
variable {X:Cx}
theorem PK:OpR X (binaryOp .FloorDiv) (rI (λ_ j=>0 < j/\j < 1152921504606846976) λi j=>.int (i / j)):=opI λi j _ _ _ _ _ hc q=>by
 have h1:(0:Int) < j:=hc.1;have h2:j < 1152921504606846976:=hc.2;refine floordiv_int (by omega) (by rw[Int.fdiv_eq_ediv_of_nonneg i (by omega)];exact q) (.inl (PyProof.noPylong_of_log2 ?_));have:j.natAbs.log2 < 60:=(Nat.log2_lt (by omega)).mpr (by show j.natAbs < 1152921504606846976;omega);omega
def qz(m:Nat):Str:=Str.ofString (toString (m:Int))
theorem PL{m:Nat}(h:m < 100):(m:Int).natAbs.log2 < 1920:=by have:(m:Int).natAbs=m:=Int.natAbs_natCast m;rw[this];exact Nat.lt_of_le_of_lt (Nat.log2_le_self m) (by omega)
theorem PN:bA X (.type "str") (λxs H Q=>∃m:Nat,xs=[.int m]/\m < 100/\Q (.str (qz m)) H):=by intro pins s σ H xs us Q I r h;obtain ⟨m,rfl,hm,q⟩:=h;obtain ⟨u,rfl,ru⟩:=vals1 r;obtain ⟨t,rfl⟩:=ru;exact PySem.P.str_of_int (PL hm) ⟨.str _,H,I.tok _,⟨_,rfl⟩,q⟩
end
end L2
namespace HT
open PySem PySem.Spec PyProof.Rows Builtin
theorem PP:fillsNumberSlot (.type "tuple") "mul"=pure false:=
 PySem.fillsNumberSlot_seq (id:="tuple.__mul__") (r:=some (.builtin "tuple.__rmul__")) PySem.F.slot_tuple_mul.lookup (by ac_rfl) PySem.F.slot_tuple_rmul.lookup (by ac_rfl)
theorem PQ:seqRepeat? (.type "tuple")=pure (some (.builtin "tuple.__mul__")):=by unfold seqRepeat?;rw[PySem.seqSlot_of (T:="tuple") (name:="__mul__") (id:="tuple.__mul__") PySem.F.slot_tuple_mul.lookup (by ac_rfl),PySem.seqSlot_of (T:="tuple") (name:="__rmul__") (id:="tuple.__rmul__") PySem.F.slot_tuple_rmul.lookup (by ac_rfl)];rfl
theorem P0(a:Int)(t:Tok)(l:Addr)(items:Array Value)(n:Nat)(dd:Option Addr)(sl:Array (Option Value)):
  Meets (Builtin.«int.__rmul__» ⟨[.int a t,.ref l],[]⟩) (λ_ R s=>s.heap.get? l=some { cls:=.type "tuple",dict:=dd,data:=.seq items n,slots:=sl }/\R (.ok (.ret Value.notImplemented)) s):=
 .of_wp λprog w A R s h=>by obtain ⟨hp,g,d,tk,os⟩:=s;obtain ⟨hl,h⟩:=h;wp_walk;exact ⟨_,rfl,h⟩
theorem Qa(l:Addr)(items:Array Value)(n:Nat)(dd:Option Addr)(sl:Array (Option Value))(k:Int)(t:Tok)(h2:2<=k)(hk:k<=1000)(hne:items.isEmpty=false)(hz:items.size * k.toNat<=sizeLine)(hz2:(List.foldl (λx1 x2=>x1++x2) #[] (List.replicate k.toNat items)).size<=sizeLine):
  Meets (Builtin.«tuple.__mul__» ⟨[.ref l,.int k t],[]⟩) (λ_ R s=>s.heap.get? l=some { cls:=.type "tuple",dict:=dd,data:=.seq items n,slots:=sl }/\
   R (.ok (.ret (.ref s.heap.objs.size))) { s with heap:=s.heap.push { cls:=.type "tuple",data:=.seq ((List.replicate k.toNat items).foldl (· ++ ·) #[]) } }):=
 .of_wp λprog w A R s h=>by
  obtain ⟨hp,g,d,tk,os⟩:=s;obtain ⟨hl,h⟩:=h;have a1:(decide (k < -(2 ^ 63))||decide (k≥2 ^ 63))=false:=by rw[decide_eq_false (by omega),decide_eq_false (by omega)];rfl
  have a2:(items.isEmpty||k==1)=false:=by rw[hne,Bool.false_or,beq_eq_false_iff_ne];omega
  have a3:(decide (k<=0)||items.isEmpty)=false:=by rw[decide_eq_false (by omega),hne];rfl
  have hs:(items.size:Int) * k=((items.size * k.toNat:Nat):Int):=by rw[Int.natCast_mul,Int.toNat_of_nonneg (by omega)]
  have hsl:sizeLine<=1152921504606846975:=by decide
  have a4:¬((items.size:Int) * k > (2 ^ 63 - 1) / 8):=by rw[hs];omega
  have a5:¬(Tuple.tupleTooMany ((items.size:Int) * k)=true):=by unfold Tuple.tupleTooMany;rw[decide_eq_true_iff,hs];omega
  wp_walk
  rw[if_neg (by rw[a1];exact Bool.false_ne_true)];wp_walk
  rw[if_neg (by rw[a2];exact Bool.false_ne_true)];dsimp only;rw[if_neg (by rw[a3];exact Bool.false_ne_true),if_neg a4,if_neg a5];unfold Tuple.tupleExact;wp_walk
  exact ⟨_,rfl,h⟩
end HT
namespace L2
open PySem PySem.Spec PyProof.Rows
section
variable {X:Cx}
def Qc(K:PF):R2:=λx y H Q=>∃(l:Addr)(k:Int)(xs:List V),x=.ref l/\y=.int k/\SqT K H l xs/\xs≠[]/\2<=k/\k<=1000/\xs.length * k.toNat<=sizeLine/\∀p,H p=none->Q (.ref p) (upd H p (.tup (List.replicate k.toNat xs).flatten))
theorem Qd:OpR X (binaryOp .Mult) (Qc X.K):=by
 intro pins s σ H x y v u Q I rx ry h;obtain ⟨l,k,xs,rfl,rfl,hT,hne,h2,hk,hz,q⟩:=h;cases rx;obtain ⟨t,rfl⟩:=ry;obtain ⟨its,r,pt,_⟩:=I.tuple hT;obtain ⟨⟨cls,dd,data,sl⟩,ho,hc,n,hd⟩:=id pt;simp only at hc hd;subst hc hd;have hl:=r.length;have hz':its.toArray.size * k.toNat<=sizeLine:=by rw[ap,<-hl];exact hz
 have he:its.toArray.isEmpty=false:=by
  cases its with
  |nil=>exact absurd (ce.mp hl) hne
  |cons _ _=>rfl
 have hnew:List.foldl (λx1 x2=>x1++x2) #[] (List.replicate k.toNat its.toArray)=(List.replicate k.toNat its).flatten.toArray:=by have:=foldl_rep its k.toNat [];rw[List.nil_append]at this;exact this
 refine wpAny_binaryOp_repeat_ref (T:="tuple") (U:="int") (by decide) ⟨_,ho,rfl⟩ (λs'=>typeIs_int s' k t) HT.PP F.fills_int_mul F.slot_int_rmul HT.PQ F.slot_int_index.lookup
  (fo F.slot_int_rmul (typeIs_int s k t) F.entry_int_rmul (F.args_int_rmul_2 _ _) (HT.P0 k t l its.toArray n dd sl)
   ⟨ho,rfl,⟨_,ho,rfl⟩,fo PySem.F.slot_tuple_mul ⟨_,ho,rfl⟩ PySem.F.entry_tuple_mul (PySem.F.args_tuple_mul_2 _ _) (HT.Qa l its.toArray n dd sl k t h2 hk he hz' (by rw[hnew,ap,len_rep,Nat.mul_comm,<-hl];exact hz)) ⟨ho,?_⟩⟩)
 rw[hnew];refine ⟨.ref s.heap.objs.size,_,I.laid (t':=s.toks) (o:=.tup (List.replicate k.toNat xs).flatten) (λb ob q=>al _ q) (av _) ?_,rfl,q _ (I.hok.fresh (av _))⟩;exact ⟨by rw[len_rep,Nat.mul_comm];exact hz,_,r.rep k.toNat,IsTup.new _ _⟩
end
end L2
namespace HT
open PySem PySem.Spec PyProof.Rows Builtin
theorem Qe(a:Int)(t:Tok)(l:Addr)(items:Array Value)(n:Nat)(dd:Option Addr)(sl:Array (Option Value)):
  Meets (Builtin.«int.__rmul__» ⟨[.int a t,.ref l],[]⟩) (λ_ R s=>s.heap.get? l=some { cls:=.type "list",dict:=dd,data:=.seq items n,slots:=sl }/\R (.ok (.ret Value.notImplemented)) s):=
 .of_wp λprog w A R s h=>by obtain ⟨hp,g,d,tk,os⟩:=s;obtain ⟨hl,h⟩:=h;wp_walk;exact ⟨_,rfl,h⟩
theorem Qf(l:Addr)(items:Array Value)(n:Nat)(dd:Option Addr)(sl:Array (Option Value))(x:Int)(u:Tok)(hc0:¬(!Builtin.List.listFitsIndex x)=true)(hc1:¬items.size * x.toNat > (2 ^ 63 - 1) / 8)(hc2:¬Builtin.List.listTooLong (items.size * x.toNat)=true):
  Meets (Builtin.«list.__mul__» ⟨[.ref l,.int x u],[]⟩) (λ_ R s=>s.heap.get? l=some { cls:=.type "list",dict:=dd,data:=.seq items n,slots:=sl }/\R (.ok (.ret (Value.ref s.heap.objs.size))) { s with heap:=s.heap.push { cls:=Value.type "list",data:=Data.seq (List.foldl (λx1 x2=>x1++x2) #[] (List.replicate (if items.isEmpty=true then 0 else x.toNat) items)) },toks:=s.toks }):=
 .of_wp λprog w A R s h=>by
  obtain ⟨hp,g,d,tk,os⟩:=s;obtain ⟨hl,h⟩:=h;have hsz:=AutoListH.joined_fits hc2;wp_walk;refine wpAny_ite_false (decide_eq_false (Nat.not_lt.mpr hsz)) ?_;wp_walk;exact ⟨_,rfl,h⟩
end HT
namespace L2
open PySem PySem.Spec PyProof.Rows
section
variable {X:Cx}
def Qg(K:PF):R2:=λx y H Q=>∃(l:Addr)(k:Int)(xs:List V),x=.ref l/\y=.int k/\SqL K H l xs/\0<=k/\k<=1000/\xs.length * k.toNat<=sizeLine/\∀p,H p=none->Q (.ref p) (upd H p (.lst (List.replicate k.toNat xs).flatten))
theorem Qh:OpR X (binaryOp .Mult) (Qg X.K):=by
 intro pins s σ H x y v u Q I rx ry h;obtain ⟨l,k,xs,rfl,rfl,hH,h1,h2,hz,q⟩:=h;cases rx;obtain ⟨t,rfl⟩:=ry;obtain ⟨its,r,⟨⟨cls,dd,data,sl⟩,n,e,c1,c2,c3⟩,_⟩:=I.list hH;simp only at c1 c2 c3;have hl:=r.length;have hlen:its.toArray.size * k.toNat<=sizeLine:=by rw[ap,<-hl];exact hz
 have hcap:¬its.toArray.size * k.toNat > (2 ^ 63 - 1) / 8:=by
  have:(sizeLine:Nat)<=(2 ^ 63 - 1) / 8:=by decide
  omega
 have hfit:¬(!Builtin.List.listFitsIndex k)=true:=by rw[fitsIndex_both (by omega) (by omega)];exact bo
 have hlong:¬Builtin.List.listTooLong (its.toArray.size * k.toNat)=true:=by rw[vX hlen];exact bo
 have hnew:List.foldl (λx1 x2=>x1++x2) #[] (List.replicate (if its.toArray.isEmpty=true then 0 else k.toNat) its.toArray)=(List.replicate k.toNat its).flatten.toArray:=by
  have f0:∀m:Nat,List.foldl (λx1 x2=>x1++x2) #[] (List.replicate m its.toArray)=(List.replicate m its).flatten.toArray:=λm=>by
   have:=foldl_rep its m [];rw[List.nil_append]at this;exact this
  rw[f0];cases its with
  |nil=>simp
  |cons a r'=>rw[if_neg (by simp)]
 subst c1 c3;refine wpAny_binaryOp_repeat_ref (T:="list") (U:="int") (by decide) ⟨_,e,rfl⟩ (λs'=>typeIs_int s' k t) noFill_list_mul F.fills_int_mul F.slot_int_rmul repeat_list F.slot_int_index.lookup
  (fo F.slot_int_rmul (typeIs_int s k t) F.entry_int_rmul (F.args_int_rmul_2 _ _) (HT.Qe k t l its.toArray n dd sl)
   ⟨e,rfl,⟨_,e,rfl⟩,fo F.slot_list_mul ⟨_,e,rfl⟩ F.entry_list_mul (F.args_list_mul_2 _ _) (HT.Qf l its.toArray n dd sl k t hfit hcap hlong) ⟨e,?_⟩⟩)
 rw[hnew];exact ⟨.ref _,_,I.lnew (t':=s.toks) (r.rep k.toNat) (by rw[len_rep,Nat.mul_comm];exact hz),rfl,q _ I.fresh⟩
end
end L2
namespace PySem
end PySem
namespace L2
open PySem PySem.Spec PyProof.Rows
end L2
namespace PyProof.Rows
open PySem
theorem Qi {prog:Program} {w:World} {A:Around} {E:Value->Shared->Prop} {s:Shared} {it:Addr} {T:String} {o:Obj} {items:List Value} {n:Nat} {ns:List Int} {Q:Value->Shared->Prop} (hT:T="list"\/T="tuple")
  (ho:s.heap.get? it=some o) (hc:o.cls=.type T) (hd:o.data=.seq items.toArray n) (hI:IntsAre items ns) (h64:items.length < 64)
  (h:∀(h1 h':Heap) (e:Nat) (out:Array Value) (ns':List Int),IntsAre out.toList ns'->ns'.Perm ns->ns'.Pairwise (·<=·)->(∀b o',s.heap.get? b=some o'->h1.get? b=some o')->(∀b o',h1.get? b=some o'->h'.get? b=some o')->h'.get? h1.objs.size=some (seqObj "list" out e)->Q (.ref h1.objs.size) { s with heap:=h' }):
  wpAny (model prog w) A (call (.builtin "sorted") [.ref it]) Q E s:=by
 refine Calls.call_function_entry kind_sorted plain_sorted entry_sorted (args_sorted1 _) ?_;unfold Builtin.«sorted»;refine wpAny_bind (m:=checkCount "sorted" 1 1 _) (wpAny_pure ?_);refine wpAny_bind (wpAny_collect_seq it hT ho hc hd (λh1 k1=>?_) (by rw[List.size_toArray,sizeLine_eq];omega));refine wpAny_bind (wpAny_newList ?_);have e1:items.toArray.toList=items:=by simp
 rw[e1];have hoL:(h1.push (seqObj "list" items.toArray 0)).get? h1.objs.size=some (seqObj "list" items.toArray 0):=Heap.get?_push_size _ rfl;show wpAny _ _ _ _ _ { s with heap:=h1.push (seqObj "list" items.toArray 0) };refine wpAny_bind (wpAny_holding (wpAny_call_entry slot_list_sort ⟨_,hoL,rfl⟩ entry_list_sort (list_sort_tree hoL hI h64 λout ns' a1 a2 a3=>⟨_,rfl,?_⟩) (args_list_sort _)));obtain ⟨e,he⟩:=sortedHeap_at (vs:=items) (out:=out) hoL;refine wpAny_pure ⟨_,rfl,h h1 _ e out ns' a1 a2 a3 k1 (λb o' hb1=>?_) he⟩;rw[sortedHeap_old (Nat.ne_of_lt (Heap.lt_size hb1)) (by rw[size_push'];exact Nat.lt_succ_of_lt (Heap.lt_size hb1))];exact Heap.get?_push_of_some _ hb1
end PyProof.Rows
namespace L2
open PySem PySem.Spec PyProof.Rows
theorem aab {X:Cx}:bA X (.builtin "sorted") (λxs H Q=>∃(p:Addr) (ns:List Int),xs=[.ref p]/\SqT X.K H p (ns.map V.int)/\ns.length < 64/\∀ns':List Int,ns'.Perm ns->ns'.Pairwise (·<=·)->∀l,H l=none->Q (.ref l) (upd H l (.lst (ns'.map V.int)))):=by
 intro pins s σ H xs us Q I r h;obtain ⟨p,ns,rfl,hq,h64,q⟩:=h;obtain ⟨u,rfl,ru⟩:=vals1 r;cases ru;obtain ⟨its,rv,⟨o,ho,hc,n,hd⟩,hz⟩:=I.tuple hq;have hlen:its.length=ns.length:=by rw[<-rv.length];simp
 refine Qi (.inr rfl) ho hc hd (intsAre_of rv) (by omega) λh1 h' e out ns' a1 a2 a3 k1 k2 he=>?_;have I1:Inv X pins σ H { s with heap:=h1 }:=I.kept (t':=s.toks) k1;have hsz:(ns'.map V.int).length<=sizeLine:=by rw[ax,a2.length_eq,er];omega
 exact ⟨.ref h1.objs.size,_,I1.laid (t':=s.toks) k2 (av _) (show ObjOk X.prog X.w _ _ _ (.lst (ns'.map V.int)) from ⟨hsz,out.toList,e,qm a1,by rw[Array.toArray_toList];exact he⟩),rfl,q ns' a2 a3 _ (I1.hok.fresh (av _))⟩
section
variable {prog:Program} {w:World} {A:Around} {R:Result->Shared->Prop} {s:Shared}
def d7(e:Expr)(d:Nat)(target iter:Expr)(em:Value->Env->Sem Fin->Sem Fin):Prop:=
 ∀it acc env,compTurn e d it acc env=(standAt iter.pos >>= λ_=>pyNext it >>= λr=>match r with
   |none=>pure (.done .next)
   |some v=>letOwnedTupleGo target it v >>= λ_=>assign target env v >>= λ_=>em acc env (again (.compLoop e d it acc env)))
def emE (elt:Expr) (acc:Value) (env:Env) (k:Sem Fin):Sem Fin:=(eval elt env >>= λx=>call (.builtin "list.append") [acc,x] >>= λ_=>pure ()) >>= λ_=>k
def emG(e:Expr)(d:Nat)(iter:Expr)(acc:Value)(env:Env)(k:Sem Fin):Sem Fin:=
 eval iter env >>= λx=>standAt iter.pos >>= λ_=>foldedSetIterable iter env x >>= λx=>holding [x] (pyIter x) >>= λit=>runOwn (.compStart e d it acc env) env >>= λ_=>k
theorem Qj(elt t1 i1 t2 i2 t3 i3:Expr)(scope:Scope)(pos:Pos):d7 (.ListComp elt [⟨t1,i1,[],0⟩,⟨t2,i2,[],0⟩,⟨t3,i3,[],0⟩] scope pos) 2 t3 i3 (emE elt):=λ_ _ _=>rfl
theorem Qk(elt t1 i1 t2 i2 t3 i3:Expr)(scope:Scope)(pos:Pos):d7 (.ListComp elt [⟨t1,i1,[],0⟩,⟨t2,i2,[],0⟩,⟨t3,i3,[],0⟩] scope pos) 1 t2 i2 (emG (.ListComp elt [⟨t1,i1,[],0⟩,⟨t2,i2,[],0⟩,⟨t3,i3,[],0⟩] scope pos) 2 i3):=λ_ _ _=>rfl
theorem aac(elt t1 i1 t2 i2 t3 i3:Expr)(scope:Scope)(pos:Pos):d7 (.ListComp elt [⟨t1,i1,[],0⟩,⟨t2,i2,[],0⟩,⟨t3,i3,[],0⟩] scope pos) 0 t1 i1 (emG (.ListComp elt [⟨t1,i1,[],0⟩,⟨t2,i2,[],0⟩,⟨t3,i3,[],0⟩] scope pos) 1 i2):=λ_ _ _=>rfl
theorem wG{elt:Expr}{gens:List Comprehension}{scope:Scope}{pos:Pos}{d:Nat}{target iter:Expr}{em:Value->Env->Sem Fin->Sem Fin}{it acc:Value}{env:Env}(hT:d7 (.ListComp elt gens scope pos) d target iter em)(I:Nat->Shared->Prop)
  (turn:∀n s,I n s->wpAny (model prog w) A (pyNext it) (λr s₁=>match r with
   |none=>R (.ok .next) s₁
   |some v=>wpAny (model prog w) A (letOwnedTupleGo target it v) (λ_ s₁'=>wpAny (model prog w) A (assign target env v) (λ_ s₂=>
     ∀(k:Sem Fin)(Q:Fin->Shared->Prop)(E:Value->Shared->Prop),(∀s₅,(∃m,m < n/\I m s₅)->wpAny (model prog w) A k Q E s₅)->wpAny (model prog w) A (em acc env k) Q E s₂) (λ_ _=>False) s₁') (λ_ _=>False) s₁) (λ_ _=>False) s)
  (n:Nat) (h:I n s):codeAny (model prog w) A (.compLoop (.ListComp elt gens scope pos) d it acc env) R s:=by
 refine codeAny_loop rfl I (λn s hI=>?_) n h;show wpAny _ A ((compTurn (.ListComp elt gens scope pos) d it acc env).onRaise (λx=>do noteFrame x env;theTreesLotGoes x)) _ _ s;refine wpAny_noted ?_;rw[hT];refine ae (fy (ae (b9 (turn n s hI) (λr s₁ h₁=>?_) λ_ _ h'=>False.elim h')));cases r with
 |none=>exact am h₁
 |some v=>
  refine ae (b9 h₁ (λ_ s₁' h₁'=>?_) λ_ _ h'=>False.elim h');exact ae (b9 h₁' (λ_ s₂ h₂=>h₂ _ _ _ λs₃ h₃=>am ⟨rfl,h₃⟩) λ_ _ h'=>False.elim h')
theorem Ql{elt:Expr}{gens:List Comprehension}{scope:Scope}{pos:Pos}{d:Nat}{t i:Expr}{it acc:Value}{env:Env}(hg:gens[d]?=some ⟨t,i,[],0⟩)
  (h0:codeAny (model prog w) A (.compLoop (.ListComp elt gens scope pos) d it acc env) R s)
  (h:wpAny (model prog w) A (pyIter it) (λit' s'=>codeAny (model prog w) A (.compLoop (.ListComp elt gens scope pos) d it' acc env) R s') (λ_ _=>False) s):
  codeAny (model prog w) A (.compStart (.ListComp elt gens scope pos) d it acc env) R s:=by
 refine codeAny_of_tree ?_;show wpAny _ _ ((compStart (.ListComp elt gens scope pos) d it acc env).onRaise (λx=>do noteFrame x env;standAt theWindowsPlace)) _ _ s;refine wpAny_notedAt ?_;unfold compStart;have e:(clausesOf (.ListComp elt gens scope pos))[d]?=some ⟨t,i,[],0⟩:=hg;rw[e];show wpAny _ _ (ask >>= _) _ _ s;refine ae (wpAny_askSetting (wpAny_ite ?_));split
 ·exact am (ag rfl h0)
 ·refine ae (gc ?_);show wpAny _ _ (standAt i.pos >>= _) _ _ s;exact ae (fy (ae (b9 h (λit' s' h'=>am (ag rfl h')) λ_ _ x=>False.elim x)))
end
abbrev TM:=List V->St->Hp->(List V->St->Hp->Prop)->Prop
def lob (its:List Value) (n:Nat):Obj:={ cls:=.type "list",data:=.seq its.toArray n }
structure AccOk(X:Cx)(a:Addr):Prop where
 new:a∈X.ex\/X.s₀.heap.objs.size<=a
 cel:∀x c,X.env.cells.lookup x=some c->c≠a
 pin:∀p∈X.pn,p.1≠a
def PM(X:Cx)(lim:Bool)(a:Addr)(em:Sem Fin->Sem Fin)(t:TM):Prop:=
 ∀(pins:List (Addr×Obj))(its:List Value)(n:Nat)(ys:List V)(σ:St)(H:Hp)(s:Shared)(K:List V->St->Hp->Prop),Inv X ((a,lob its n)::pins) σ H s->(∀p∈pins,p.1≠a)->Vals ys its->(lim=true->ys.length < sizeLine)->t ys σ H K->
  ∀(k:Sem Fin)(Q:Fin->Shared->Prop)(E:Value->Shared->Prop),(∀s' its' n' ys' σ' H',Inv X ((a,lob its' n')::pins) σ' H' s'->Vals ys' its'->K ys' σ' H'->wpAny (model X.prog X.w) X.A k Q E s')->wpAny (model X.prog X.w) X.A (em k) Q E s
def tmE(te:TE):TM:=λys σ H K=>ys.length < sizeLine/\te σ H λy H'=>K (ys++[y]) σ H'
theorem wH{X:Cx}{a:Addr}{elt:Expr}{te:TE}(hx:X.xe=λ_ _=>False)(ha:AccOk X a)(he:PE X elt te):PM X false a (emE elt (.ref a) X.env) (tmE te):=by
 intro pins its n ys σ H s K I hp rv _ h kk Q E hk;obtain ⟨hz,h⟩:=h;have h0:=he _ s σ H _ I h;rw[hx]at h0;refine ae (ae (b9 h0 (λv s8 h8=>?_) λ_ _ z=>False.elim z));obtain ⟨y,H8,I8,r8,k8⟩:=h8;obtain ⟨pD,nD,lD,fD,cD⟩:=I8.pin (a,lob its n) (aI _ aS);have hl:=rv.length;refine ae (append_at (hsz:=by rw[ap];omega) pD λh9 hs9 hD9=>am ?_);have I8a:Inv X pins σ H8 s8:=I8.pins_of λp hp=>I8.pin p (aI _ (aT _ hp));have I9:Inv X pins σ H8 { s8 with heap:=h9 }:=I8a.turned (t':=s8.toks) (it:=a) (λb o hb e=>hs9.extBut b o hb e) nD lD ha.new ha.cel (λp hp'=>by
  rcases cm.mp hp' with z |z
  ·exact ha.pin p z
  ·exact hp p z)
 have hD9':h9.get? a=some (lob (its++[v]) (n+1)):=by rw[hD9,List.push_toArray];rfl
 refine hk _ (its++[v]) (n+1) (ys++[y]) σ H8 (I9.pins_of λp hp'=>?_) (rv.append (.cons r8 .nil)) k8;rcases ba.mp hp' with e |z
 ·subst e;exact ⟨hD9',nD,lD,fD,λv z=>by have z':Data.seq _ _=Data.cell v:=z;cases z'⟩
 ·exact I9.pin p (aI _ z)
def emT(ifs:List Expr)(elt:Expr)(acc:Value)(env:Env)(k:Sem Fin):Sem Fin:=
 (forIn ifs true λc r=>if r=true then do let ok <-isTrue c env (eval c env);pure (ForInStep.yield ok) else pure (ForInStep.yield r)) >>= λok=>if ok=true then emE elt acc env k else k
theorem wI(elt tg iter:Expr)(ifs:List Expr)(scope:Scope)(pos:Pos):d7 (.ListComp elt [⟨tg,iter,ifs,0⟩] scope pos) 0 tg iter (emT ifs elt):=λ_ _ _=>rfl
def tmT(tt:TT)(te:TE):TM:=λys σ H K=>tt σ H λb H4=>if b=true then te σ H4 λy H5=>K (ys++[y]) σ H5 else K ys σ H4
theorem Qm{X:Cx}{a:Addr}{elt:Expr}{ifs:List Expr}{tt:TT}{te:TE}(hx:X.xe=λ_ _=>False)(ha:AccOk X a)(ht:PIf X ifs tt)(he:PE X elt te):PM X true a (emT ifs elt (.ref a) X.env) (tmT tt te):=by
 intro pins its n ys σ H s K I hp rv hl h kk Q E hk;have h0:=ht _ s σ H _ I h;rw[hx]at h0;refine ae (b9 h0 (λb s4 h4=>?_) λ_ _ z=>False.elim z);obtain ⟨H4,I4,q4⟩:=h4;cases b with
 |false=>exact hk s4 its n ys σ H4 I4 rv q4
 |true=>exact wH hx ha he pins its n ys σ H4 s4 K I4 hp rv (λz=>nomatch z) ⟨hl rfl,q4⟩ kk Q E hk
def wJ(J:It)(g:TG)(tm:TM)(ys:List V)(σ0:St)(H1:Hp)(K:List V->St->Hp->Prop):Prop:=
 ∃W:Nat->Nat->List V->St->Hp->Prop,(∃m,W 0 m ys σ0 H1)/\∀i m ys σ' H',W i m ys σ' H'->
  (J.stop i H'/\K ys σ' H')\/(J.go i H'/\∀x H2,J.yld i H' x H2->g x σ' H2 λσ3 H3=>tm ys σ3 H3 λys' σ4 H4=>∃m',m' < m/\W (i+1) m' ys' σ4 H4)
def tmG(wi:TI)(g:TG)(tm:TM):TM:=λys σ H K=>wi σ H λJ H1=>wJ J g tm ys σ H1 K
theorem wK{X:Cx}{a:Addr}{elt:Expr}{gens:List Comprehension}{scope:Scope}{pos:Pos}{d:Nat}{t i:Expr}{em:Value->Env->Sem Fin->Sem Fin}{wi:TI}{g:TG}{tm:TM}(hx:X.xe=λ_ _=>False)(hc:X.calm=true)
  (hg:gens[d]?=some ⟨t,i,[],0⟩) (hT:d7 (.ListComp elt gens scope pos) d t i em) (hi:PI X t i wi) (hG:PG X t g) (hs:∀x,foldedSetIterable i X.env x=pure x) (hm:PM X false a (em (.ref a) X.env) tm):
  PM X false a (emG (.ListComp elt gens scope pos) d i (.ref a) X.env) (tmG wi g tm):=by
 intro pins its n ys σ H s K I hp rv _ h kk Q E hk;have h0:=hi _ s σ H _ I h;rw[hx]at h0;refine ae (b9 h0 (λxv s1 h1=>?_) λ_ _ z=>False.elim z);refine ae (fy (ae (wpAny_of_eq (hs xv) ?_)));refine ae (cf (b9 h1 (λitv s2 h2=>?_) λ_ _ z=>False.elim z));obtain ⟨it,fp,tn,J,H2,e,I2,T,st2,f2,W,⟨m0,w0⟩,turn⟩:=h2;subst e;have fpok:∀{H':Hp}{o:Obj},(∀b∈fp,H' b=none)->∀b∈fp,c7 X ((a,o)::pins) H' b:=λhn b hb=>by
  obtain ⟨_,q1,q2,q3,q4,q5⟩:=f2 b hb;refine ⟨hn b hb,q1,q2,q3,q4,λp hp=>?_⟩;rcases cm.mp hp with z |z
  ·exact q5 p (eK _ z)
  ·rcases ba.mp z with z |z
   ·subst z;exact q5 (a,lob its n) (aI _ aS)
   ·exact q5 p (aI _ (aT _ z))
 have hap:∀b∈fp,a≠b:=λb hb=>(f2 b hb).2.2.2.2.2 (a,lob its n) (aI _ aS);have loop:codeAny (model X.prog X.w) X.A (.compLoop (.ListComp elt gens scope pos) d (.ref it) (.ref a) X.env) (λr s'=>match r with |.ok f=>wpAny (model X.prog X.w) X.A kk Q E s' |.error e=>cameBackBy (model X.prog X.w) X.A X.env E e s') s2:=by
  refine wG hT (λm s'=>∃(i:Nat)(ys:List V)(its:List Value)(n:Nat)(σ':St)(H':Hp),Inv X ((a,lob its n)::pins) σ' H' s'/\Vals ys its/\tn i s'.heap/\(∀b∈fp,H' b=none)/\W i m ys σ' H') ?_ m0 ⟨0,ys,its,n,σ,H2,I2,rv,st2,λb hb=>(f2 b hb).1,w0⟩;rintro m s3 ⟨i,ys,its,n,σ3,H3,I3,rv3,st3,fr3,w3⟩;rcases turn i m ys σ3 H3 w3 with ⟨stop,qn⟩ |⟨go,step⟩
  ·refine thn (T.done X rfl rfl rfl hc i _ s3 σ3 H3 _ I3 (fpok fr3) st3 stop) λr s4 ⟨hr,I4⟩=>?_;subst hr;exact hk s4 its n ys σ3 H3 I4 rv3 qn
  ·refine thn (T.item X rfl rfl rfl hc i _ s3 σ3 H3 _ I3 (fpok fr3) st3 go) λr s4 ⟨u,hr,h4⟩=>?_;subst hr;refine thn h4 λ_ s5 ⟨x,H5,I5,r5,y5,st5,fr5⟩=>?_;have I5':=I5.pinned (fpok fr5) (T.obj _ _ st5);have h6:=hG _ s5 σ3 H5 x u _ I5' r5 (step x H5 y5);rw[hx]at h6;refine thn h6 λ_ s6 ⟨σ6,H6,I6,q6⟩=>?_;intro k Q' E' hk';refine hm (pins++gF fp s5.heap) its n ys σ6 H6 s6 _ I6 (λp hp'=>?_) rv3 (λz=>nomatch z) q6 k Q' E' λs7 its' n' ys' σ7 H7 I7 rv7 ⟨m',hm',w7⟩=>hk' s7 ⟨m',hm',i+1,ys',its',n',σ7,H7,I7.pins_of λp hp'=>?_,rv7,?_,λb hb=>?_,w7⟩
   ·rcases cm.mp hp' with z |z
    ·exact hp p z
    ·exact λe=>hap p.1 (qe z).1 e.symm
   ·refine I7.pin p (aI _ ?_);rcases ba.mp hp' with z |z
    ·rw[z];exact aS
    ·exact aT _ (eK _ z)
   ·exact T.keep _ _ _ st5 λb hb o e=>(I7.pin (b,o) (aI _ (aT _ (aI _ (gG hb e))))).1
   ·obtain ⟨o,e,_⟩:=T.obj _ _ st5 b hb;exact (I7.pin (b,o) (aI _ (aT _ (aI _ (gG hb e))))).2.1
 exact ae (wpAny_runOwn (Ql hg loop (T.self X.A 0 _ _ _ st2 loop)))
def qC(lim:Bool)(X:Cx)(N':List Str)(scope:Scope)(tg:Expr)(em:Value->Env->Sem Fin->Sem Fin)(J:It)(σ0:St)(H1:Hp)(Q:VK):Prop:=
 ∃W:Nat->Nat->List V->St->Hp->Prop,(∃m,W 0 m [] σ0 H1)/\∀i m ys σ' H',W i m ys σ' H'->
  (J.stop i H'/\ys.length<=sizeLine/\∀D,H' D=none->Q (.ref D) (upd H' D (.lst ys)))\/
  (J.go i H'/\(lim=true->ys.length < sizeLine)/\∀cl C s₁ H₁ fp pn,∃g tm,PG (X.comp N' scope cl C s₁ H₁ fp pn) tg g/\(∀a,AccOk (X.comp N' scope cl C s₁ H₁ fp pn) a->PM (X.comp N' scope cl C s₁ H₁ fp pn) lim a (em (.ref a) (X.comp N' scope cl C s₁ H₁ fp pn).env) tm)/\
   ∀x H2,J.yld i H' x H2->g x σ' H2 λσ3 H3=>tm ys σ3 H3 λys' σ4 H4=>∃m',m' < m/\W (i+1) m' ys' σ4 H4)
def qD(lim:Bool)(X:Cx)(N':List Str)(scope:Scope)(tg:Expr)(em:Value->Env->Sem Fin->Sem Fin)(wi:TI)(cap:List (Option Nat)):TE:=λσ H Q=>wi σ H λJ H1=>qC lim X N' scope tg em J (cT cap σ) H1 Q
theorem wL{X:Cx}{elt tg iter:Expr}{ifs:List Expr}{lim:Bool}{rest:List Comprehension}{em:Value->Env->Sem Fin->Sem Fin}{scope:Scope}{pos:Pos}{wi:TI}{pins:List (Addr×Obj)}{s:Shared}{σ:St}{H:Hp}{Q:VK}{RR:Value->Addr->Result->Shared->Prop}(N':List Str)(cap:List (Option Nat))(hc:X.calm=true)(hi:PI X tg iter wi)(hcap:Caps X scope N' cap)
  (hcell:scope.names.all (λy=>y.2 != NameKind.cell)=true)
  (hfr:scope.names.all (λy=>y.2 != NameKind.free||(X.env.kindOf y.1==some NameKind.cell||X.env.kindOf y.1==some NameKind.free))=true)
  (hkind:scope.kind=.function) (hT:d7 (.ListComp elt (⟨tg,iter,ifs,0⟩::rest) scope pos) 0 tg iter em) (I:Inv X pins σ H s) (h:qD lim X N' scope tg em wi cap σ H Q)
  (fin:∀(D C:Addr)(H':Hp)(s4:Shared)(m:Str->Option Value),Inv X pins σ H' s4->Q (.ref D) H'->s4.heap.Ns C m->c7 X pins H' C->RR (.ref D) C (.ok .next) s4):
  wpAny (model X.prog X.w) X.A (eval iter X.env) (λx s₁=>wpAny (model X.prog X.w) X.A (pyIter x) (λit s₂=>wpAny (model X.prog X.w) X.A (newList []) (λacc s₃=>
   wpAny (model X.prog X.w) X.A (newFunctionEnv scope X.env.globals (b7 X.env scope.names []) [] X.env.qual none .none (some X.env)) (λcenv s₄=>
    codeAny (model X.prog X.w) X.A (.compStart (.ListComp elt (⟨tg,iter,ifs,0⟩::rest) scope pos) 0 it acc { cenv with scope:=relabel scope X.env }) (RR acc cenv.locals) s₄) X.xe s₃) X.xe s₂) X.xe s₁) X.xe s:=by
 have hcell':∀y∈scope.names,y.2≠NameKind.cell:=λy hy=>by
  have:=bS.mp hcell y hy;simpa using this
 have hfr':∀y∈scope.names,y.2=NameKind.free->(X.env.kindOf y.1=some NameKind.cell\/X.env.kindOf y.1=some NameKind.free):=λy hy hl=>by
  have:=bS.mp hfr y hy;simpa [hl] using this
 have hcs:∀y∈scope.names,y.2=NameKind.free->(X.env.cells.lookup y.1).isSome=true:=λy hy hl=>by
  obtain ⟨c,e⟩:=I.ok.has y.1 (hfr' y hy hl);rw[e];rfl
 have clsub:∀x c,(b7 X.env scope.names []).lookup x=some c->X.env.cells.lookup x=some c:=vZ (λx c e=>by simp at e);have clhas:∀x,scope.names.lookup x=some NameKind.free->∃c,(b7 X.env scope.names []).lookup x=some c:=λx e=>by
  have hm:=dv e;exact ci.mp (v7 (hcs _ hm rfl) hm)
 have rel:∀x,(relabel scope X.env).names.lookup x=(scope.names.lookup x).map λk=>if (k==NameKind.free&&X.env.scope.kind==.function&&X.env.kindOf x==some .cell)=true then NameKind.cell else k:=λx=>qt
 have relfree:∀x,((relabel scope X.env).names.lookup x=some NameKind.cell\/(relabel scope X.env).names.lookup x=some NameKind.free)->scope.names.lookup x=some NameKind.free:=λx e=>by
  rw[rel x]at e;cases z:scope.names.lookup x with
  |none=>rw[z]at e;rcases e with e |e <;> cases e
  |some k=>
   have nk:=hcell' _ (dv z);rw[z]at e;cases k with
   |free=>rfl
   |cell=>exact absurd rfl nk
   | «local»=>rcases e with e |e <;> simp[show (NameKind.«local»==NameKind.free)=false by decide]at e
   |globalExplicit=>rcases e with e |e <;> simp[show (NameKind.globalExplicit==NameKind.free)=false by decide]at e
   |globalImplicit=>rcases e with e |e <;> simp[show (NameKind.globalImplicit==NameKind.free)=false by decide]at e
 generalize hcl:b7 X.env scope.names []=cl at clsub clhas;refine thn (hi pins s σ H _ I h) λxv s0 h0=>thn h0 λitv s2 h2=>?_;obtain ⟨it,fp,tn,J,H2,e,I2,T,st2,f2,W,⟨m0,w0⟩,turn⟩:=h2;subst e;refine eh (wpAny_newFunctionEnv hcell' (by intro y hy;simp at hy) (λh₁ hns₁ hsb₁=>?_) hkind);dsimp only at hns₁ hsb₁ ⊢;generalize hH2:s2.heap.push { cls:=.type "list",dict:=none,data:=.seq ([]:List Value).toArray }=HP at hns₁ hsb₁ ⊢;have hC:HP.objs.size=s2.heap.objs.size+1:=by rw[<-hH2,br]
 have hDC:s2.heap.objs.size≠HP.objs.size:=by rw[hC];exact bv (eR _)
 have below:∀b,b < s2.heap.objs.size->b≠HP.objs.size/\b≠s2.heap.objs.size:=λb hb=>⟨by rw[hC];exact bv (dk hb),bv hb⟩;have old:∀b o,s2.heap.get? b=some o->h₁.get? b=some o:=λb o e=>hsb₁.extBut b o (below b (aw e)).1 (al _ (hH2 ▸ al _ e));have hacc:h₁.get? s2.heap.objs.size=some { cls:=.type "list",data:=.seq ([]:List Value).toArray 0 }:=hsb₁.extBut _ _ hDC (al _ (hH2 ▸ ay _ rfl));have hst₁:tn 0 h₁:=T.keep _ _ _ st2 λb _ o e=>old b o e;have fplt:∀b∈fp,b < s2.heap.objs.size:=λb hb=>by
  obtain ⟨o,e,_⟩:=T.obj _ _ st2 b hb;exact aw e
 have fslt:∀b∈frs X.stack,b < s2.heap.objs.size:=λb hb=>by
  obtain ⟨_,o,e,_⟩:=I2.stack.mem hb;exact aw e
 have celllt:∀x c,cl.lookup x=some c->c < s2.heap.objs.size:=λx c e=>by
  obtain ⟨v,q⟩:=I2.cell x c (clsub x c e);exact q.lt
 have hDf:H2 s2.heap.objs.size=none:=I2.hok.fresh (av _);have hCf:H2 HP.objs.size=none:=I2.hok.fresh (by rw[hC];exact c8 _);have nofs:∀b∈fp,b∉frs X.stack:=λb hb z=>by
  obtain ⟨_,f1,f2',_⟩:=f2 b hb;rcases ba.mp (I2.stkSub b z) with e |e
  ·exact f1 e
  ·exact f2' e
 have ok':(X.comp N' scope cl HP.objs.size s2 H2 fp (X.pn++pins)).Ok:=
  ⟨I2.ok.mod,hkind,I2.ok.glob,I2.ok.blt,(by show s2.heap.objs.size<=HP.objs.size;rw[hC];exact c8 _),
   λx y c e1 e2=>I2.ok.inj x y c (clsub x c e1) (clsub y c e2),λx hx=>clhas x (relfree x hx),λx c hf _=>(by cases hf),I2.ok.hd,I2.ok.frames,.inl rfl,
   λb hb=>⟨(below b (fplt b hb)).1,λx c e=>(f2 b hb).2.2.2.2.1 x c (clsub x c e)⟩,I2.bs,ca I2.ok.bsz I2.sz,
   λb o e hb=>(by
    rcases (f2 b hb).2.2.2.1 with z |z
    ·exact I2.ok.noex b o e z
    ·exact absurd (bb (aw e) (ca I2.ok.bsz z)) (cx _)),
   nofs,I2.stack,I2.stkFree⟩
 have pnOk:∀p∈X.pn++pins,p.1 < s2.heap.objs.size/\p.1∉frs X.stack:=λp hp=>by
  obtain ⟨e,_,n1,n2,_⟩:=I2.pin p hp;refine ⟨aw e,λz=>?_⟩;rcases ba.mp (I2.stkSub _ z) with e |e
  ·exact n1 e
  ·exact n2 e
 have I0:∀t,Inv (X.comp N' scope cl HP.objs.size s2 H2 fp (X.pn++pins)) [(s2.heap.objs.size,{ cls:=.type "list",data:=.seq ([]:List Value).toArray 0 })] (cT cap σ) H2 { s2 with heap:=h₁,toks:=t }:=λt=>
  ⟨ok',rfl,I2.bare,Un.kept old,⟨_,hns₁,λi x v e1 e2 _=>by
    obtain ⟨j,nj,fr,sj⟩:=hcap.at e1 e2;obtain ⟨m,_,hl⟩:=I2.loc;have hk:=hfr' (x,NameKind.free) (dv fr) rfl;obtain ⟨u,r,l⟩:=hl j x v nj sj (by rcases hk with hk |hk;exact .inr (.inl hk);exact .inr (.inr hk));refine ⟨u,r,.inr ⟨?_,?_⟩⟩
    ·show (relabel scope X.env).names.lookup x=some .cell\/(relabel scope X.env).names.lookup x=some .free;rw[rel x,fr,Option.map_some];by_cases hh:(NameKind.free==NameKind.free&&X.env.scope.kind==ScopeKind.function&&X.env.kindOf x==some NameKind.cell)=true
     ·exact .inl (by rw[if_pos hh])
     ·exact .inr (by rw[if_neg hh])
    ·obtain ⟨c,ec⟩:=clhas x fr;have ec':=clsub x c ec;rcases l with ⟨k1,_⟩ |⟨_,c',e',q⟩
     ·rcases hk with hk |hk <;> (rw[hk]at k1;cases k1)
     ·have ecc:X.env.cells.lookup x=some c:=ec';rw[e']at ecc;cases ecc;obtain ⟨o,ho,hd⟩:=q;exact ⟨_,ec,o,old _ _ ho,hd⟩⟩,
   λx c e=>(by obtain ⟨v,o,ho,hd⟩:=I2.cell x c (clsub x c e);exact ⟨v,o,old _ _ ho,hd⟩),hCf,λx c e=>I2.freeC x c (clsub x c e),
   λp hp=>by
    rcases cm.mp hp with z |z
    ·obtain ⟨e,n0,_,_,d⟩:=I2.pin p z;exact ⟨old _ _ e,n0,(below _ (pnOk p z).1).1,(pnOk p z).2,d⟩
    ·have e:p=_:=bd.mp z;subst e;exact ⟨hacc,hDf,hDC,λz=>absurd (fslt _ z) (cx _),λv z=>by have z':Data.seq _ _=Data.cell v:=z;cases z'⟩,
   I2.hok.kept old,by show (cT cap σ).length=N'.length;unfold cT;rw[ax];exact hcap.len⟩
 have fpok:∀{H':Hp}{o:Obj},(∀b∈fp,H' b=none)->∀b∈fp,c7 (X.comp N' scope cl HP.objs.size s2 H2 fp (X.pn++pins)) [(s2.heap.objs.size,o)] H' b:=λhn b hb=>
  ⟨hn b hb,(below b (fplt b hb)).1,nofs b hb,.inl hb,λx c e=>(f2 b hb).2.2.2.2.1 x c (clsub x c e),λp hp=>by
   rcases cm.mp hp with z |z
   ·exact (f2 b hb).2.2.2.2.2 p z
   ·have e:p=_:=bd.mp z;subst e;exact Ne.symm (below b (fplt b hb)).2⟩
 have loop:∀s₃:Shared,s₃={ s2 with heap:=h₁,toks:=s2.toks+([]:List (Str×Value)).length }->
   codeAny (model X.prog X.w) X.A (.compLoop (.ListComp elt (⟨tg,iter,ifs,0⟩::rest) scope pos) 0 (.ref it) (.ref s2.heap.objs.size) (compEnvC scope cl HP.objs.size X.env))
    (RR (.ref s2.heap.objs.size) HP.objs.size) s₃:=by
  rintro s₃ rfl;refine wG hT
   (λk s'=>∃(i:Nat) (ys:List V) (its:List Value) (n:Nat) (σ':St) (H':Hp),Inv (X.comp N' scope cl HP.objs.size s2 H2 fp (X.pn++pins)) [(s2.heap.objs.size,{ cls:=.type "list",data:=.seq its.toArray n })] σ' H' s'/\Vals ys its/\
    tn i s'.heap/\(∀b∈fp,H' b=none)/\W i k ys σ' H') ?_ m0 ⟨0,[],[],0,_,H2,I0 _,.nil,hst₁,λb hb=>(f2 b hb).1,w0⟩
  rintro k s3 ⟨i,ys,its,n,σ3,H3,I3,rv3,st3,fr3,w3⟩;rcases turn i k ys σ3 H3 w3 with ⟨stop,hz,qn⟩ |⟨go,hlim,step⟩
  ·refine thn (T.done (X.comp N' scope cl HP.objs.size s2 H2 fp (X.pn++pins)) rfl rfl rfl hc i _ s3 σ3 H3 _ I3 (fpok fr3) st3 stop) λr s4 ⟨hr,I4⟩=>?_;subst hr;obtain ⟨m,hn,_⟩:=I4.loc;obtain ⟨pD,nD,_,_,_⟩:=I4.pin (s2.heap.objs.size,{ cls:=.type "list",data:=.seq its.toArray n }) (aI _ (bd.mpr rfl));have nC:H3 HP.objs.size=none:=I4.free;have u:Un (frs X.stack) fp H2 H3 s2.heap s4.heap:=I4.base;refine fin s2.heap.objs.size HP.objs.size (upd H3 s2.heap.objs.size (.lst ys)) s4 m ?_ (qn _ nD) hn ?_
   ·refine I2.call' (s':=s4) (ch:=fp) I4.os ?_ ?_ I4.bare λb hb=>⟨(f2 b hb).2.2.2.1,(f2 b hb).2.1,(f2 b hb).2.2.2.2.1,(f2 b hb).2.2.2.2.2⟩
    ·refine ⟨λb o e n0 hb hx=>u.keep b o e n0 hb hx,λb o e n0 hb hx=>u.slot b o e n0 hb hx,λb o e n0 hx=>?_,λb o e hx=>u.there b o e hx,λb xs e=>?_,λb o v e=>?_,λb ps e=>?_⟩
     ·rw[az (below b (aw e)).2];exact u.free b o e n0 hx
     ·rw[az (aQ e hDf)];exact u.tups b xs e
     ·rw[az (aQ e hDf)];exact u.frzs b o v e
     ·rw[az (aQ e hDf)];exact u.tbls b ps e
    ·intro b o e;by_cases hb:b=s2.heap.objs.size
     ·subst hb;rw[bZ]at e;cases e;exact ⟨hz,its,n,rv3,pD⟩
     ·rw[az hb]at e;exact (I4.hok b o e).stay (λc v _ q=>q) (λc q=>by rw[az (aQ q nD)];exact q) λc xs q=>by rw[az (aQ q nD)];exact q
   ·have hle:s2.heap.objs.size<=HP.objs.size:=by rw[hC];exact c8 _
    exact I2.fpOk hle (by rw[az (Ne.symm hDC)];exact nC)
  ·refine thn (T.item (X.comp N' scope cl HP.objs.size s2 H2 fp (X.pn++pins)) rfl rfl rfl hc i _ s3 σ3 H3 _ I3 (fpok fr3) st3 go) λr s4 ⟨u,hr,h4⟩=>?_;subst hr;refine thn h4 λ_ s5 ⟨x,H5,I5,r5,y5,st5,fr5⟩=>?_;obtain ⟨g,tm,hg,hm,body⟩:=step cl HP.objs.size s2 H2 fp (X.pn++pins);have acc:AccOk (X.comp N' scope cl HP.objs.size s2 H2 fp (X.pn++pins)) s2.heap.objs.size:=
    ⟨.inr (av _),λx c e z=>absurd (celllt x c e) (by rw[z];exact cx _),λp hp z=>absurd (pnOk p hp).1 (by rw[z];exact cx _)⟩
   have I5':=I5.pinned (fpok fr5) (T.obj _ _ st5);refine thn (hg _ s5 σ3 H5 x u _ I5' r5 (body x H5 y5)) λ_ s6 ⟨σ6,H6,I6,q6⟩=>?_;intro kk Q' E' hk';refine hm _ acc (gF fp s5.heap) its n ys σ6 H6 s6 _ I6 (λp hp' e=>?_) rv3 hlim q6 kk Q' E' λs7 its' n' ys' σ7 H7 I7 rv7 ⟨m',hm',w7⟩=>hk' s7 ⟨m',hm',i+1,ys',its',n',σ7,H7,I7.pins_of λp hp'=>?_,rv7,?_,λb hb=>?_,w7⟩
   ·exact (below p.1 (fplt p.1 (qe hp').1)).2 e
   ·refine I7.pin p (aI _ ?_);rw[bd.mp hp'];exact aS
   ·exact T.keep _ _ _ st5 λb hb o e=>(I7.pin (b,o) (aI _ (aT _ (gG hb e)))).1
   ·obtain ⟨o,e,_⟩:=T.obj _ _ st5 b hb;exact (I7.pin (b,o) (aI _ (aT _ (gG hb e)))).2.1
 exact codeAny_compStart_list (loop _ rfl) (T.self X.A 0 _ _ _ hst₁ (loop _ rfl))
theorem Qn{X:Cx}{elt tg iter:Expr}{ifs:List Expr}{lim:Bool}{rest:List Comprehension}{em:Value->Env->Sem Fin->Sem Fin}{scope:Scope}{pos:Pos}{wi:TI}(N':List Str)(cap:List (Option Nat))(hc:X.calm=true)(hi:PI X tg iter wi)(hcap:Caps X scope N' cap)
  (hcell:scope.names.all (λy=>y.2 != NameKind.cell)=true) (hnames:scope.names.all (λy=>y.2 != NameKind.local||scope.names.lookup y.1==some NameKind.local)=true)
  (hfr:scope.names.all (λy=>y.2 != NameKind.free||(X.env.kindOf y.1==some NameKind.cell||X.env.kindOf y.1==some NameKind.free))=true)
  (hkind:scope.kind=.function) (hs:∀x,foldedSetIterable iter X.env x=pure x) (hT:d7 (.ListComp elt (⟨tg,iter,ifs,0⟩::rest) scope pos) 0 tg iter em):
  PE X (.ListComp elt (⟨tg,iter,ifs,0⟩::rest) scope pos) (qD lim X N' scope tg em wi cap):=by
 intro pins s σ H Q I h;have hnames':∀y∈scope.names,y.2=NameKind.local->scope.names.lookup y.1=some NameKind.local:=λy hy hl=>by
  have:=bS.mp hnames y hy;simpa [hl] using this
 have hcs:∀y∈scope.names,y.2=NameKind.free->(X.env.cells.lookup y.1).isSome=true:=λy hy hl=>by
  have:=bS.mp hfr y hy;obtain ⟨c,e⟩:=I.ok.has y.1 (by simpa [hl] using this);rw[e];rfl
 rw[eval_ListComp];refine wpAny_comprehension_free (use:=none) (Q:=EP X pins σ Q) rfl hs (v8 hcs) hkind hnames'
  (wL (RR:=λacc C=>compPost (model X.prog X.w) X.A X.xe none (EP X pins σ Q) acc C) N' cap hc hi hcap hcell hfr hkind hT I h λL C H' s4 m I4 q hn fC=>?_)
 obtain ⟨f0,f1,f2,f3,f4,f5⟩:=fC;exact ⟨m,hn,λh' hs'=>⟨.ref L,H',I4.turned (t':=s4.toks) (it:=C) (λb o hb e=>hs'.extBut b o hb e) f0 f1 f3 f4 f5,rfl,q⟩⟩
theorem Qo{X:Cx}{elt tg iter:Expr}{ifs:List Expr}{lim:Bool}{rest:List Comprehension}{em:Value->Env->Sem Fin->Sem Fin}{scope:Scope}{pos py spos:Pos}{wi:TI}{i:Nat}{y:Str}(hT:d7 (.ListComp elt (⟨tg,iter,ifs,0⟩::rest) scope pos) 0 tg iter em)(hN:X.N.Nodup)(hiy:X.N[i]?=some y)(hy:Loc X.env.scope y)(N':List Str)(cap:List (Option Nat))(hc:X.calm=true)(hi:PI X tg iter wi)(hcap:Caps X scope N' cap)
  (hcell:scope.names.all (λy=>y.2 != NameKind.cell)=true:=by rfl) (hnames:scope.names.all (λy=>y.2 != NameKind.local||scope.names.lookup y.1==some NameKind.local)=true:=by rfl)
  (hfr:scope.names.all (λy=>y.2 != NameKind.free||(X.env.kindOf y.1==some NameKind.cell||X.env.kindOf y.1==some NameKind.free))=true:=by rfl)
  (hkind:scope.kind=.function:=by rfl) (hs:∀x,foldedSetIterable iter X.env x=pure x:=by intro _;rfl)
  (hsw:swapsWith (.ListComp elt (⟨tg,iter,ifs,0⟩::rest) scope pos) (some (.Name y py)) spos.line X.env=pure true:=by rfl)
  (hf:X.fn y=true\/X.env.scope.names.lookup y=some .local:=by first |exact .inl rfl |exact .inr rfl |assumption):
  PS X (.Assign [.Name y py] (.ListComp elt (⟨tg,iter,ifs,0⟩::rest) scope pos) spos) (lu (qD lim X N' scope tg em wi cap) (lr i)):=by
 intro pins s σ H D I h;have hnames':∀y∈scope.names,y.2=NameKind.local->scope.names.lookup y.1=some NameKind.local:=λy hy hl=>by
  have:=bS.mp hnames y hy;simpa [hl] using this
 have hcs:∀y∈scope.names,y.2=NameKind.free->(X.env.cells.lookup y.1).isSome=true:=λy hy hl=>by
  have:=bS.mp hfr y hy;obtain ⟨c,e⟩:=I.ok.has y.1 (by simpa [hl] using this);rw[e];rfl
 rw[exec_Assign_Name_used _ _ _ _ hsw];refine ae (fy (ae ?_));show wpAny _ X.A (do let _ <-comprehension (.ListComp elt (⟨tg,iter,ifs,0⟩::rest) scope pos) scope X.env _ (newList []) false (eval iter X.env) (some (assign (.Name y py) X.env))) _ _ s;refine ae (b9 (wpAny_comprehension_free (use:=some (assign (.Name y py) X.env)) (Q:=λ_ s'=>SP X pins D .next s') rfl hs (v8 hcs) hkind hnames'
  (wL (RR:=λacc C=>compPost (model X.prog X.w) X.A X.xe (some (assign (.Name y py) X.env)) (λ_ s'=>SP X pins D .next s') acc C) N' cap hc hi hcap hcell hfr hkind hT I h λL C H' s4 m I4 q hn fC=>?_)) (λ_ s' hq=>am (am hq)) λ_ _ e=>e)
 obtain ⟨oC,es,ep,eC,rC⟩:=id hn;obtain ⟨f0,f1,f2,f3,f4,f5⟩:=fC;have ncell:∀v,oC.data≠.cell v:=λv z=>by rw[rC.1]at z;cases z
 have I5:Inv X (pins++[(C,oC)]) σ H' s4:=I4.pins_of λp hp=>by
  rcases cm.mp hp with z |z
  ·exact I4.pin p (aI _ z)
  ·have e:p=_:=bd.mp z;subst e;exact ⟨eC,f0,f1,f2,ncell⟩
 refine wpAny_assign_Name (lq I5 hN hiy hy (v:=.ref L) (u:=.ref L) rfl (λs5 I6=>?_) hf);have eC5:s5.heap.get? C=some oC:=(I6.pin (C,oC) (aI _ (aI _ (bd.mpr rfl)))).1;have I7:Inv X pins (σ.set i (some (.ref L))) H' s5:=I6.pins_of λp hp=>I6.pin p (aI _ (eK _ hp));refine ⟨m,⟨oC,es,ep,eC5,rC⟩,λh'' hs''=>?_⟩;exact ⟨_,H',I7.turned (t':=s5.toks) (it:=C) (λb o hb e=>hs''.extBut b o hb e) f0 f1 f3 f4 f5,q⟩
open HT
end L2
namespace PySem
open Sem (wp)
open Builtin Builtin.Str
open AutoSeq1 (wpAny_loadPart')
section
variable {prog:Program} {w:World} {A:Around} {E:Value->Shared->Prop} {s:Shared}
theorem Qp(x y:Str):(occurrences x y 0 x.length (x.length+1)).length<=x.length+1:=StrLaws.occ_length_le _ _ _ _ _
theorem Qq(x y:Str):(partsBetween x (occurrences x y 0 x.length (x.length+1)) y.length).length<=x.length+2:=by have h:=Qp x y;unfold partsBetween;simp only[List.length_map,List.length_zip,List.length_cons,List.length_append,List.length_nil];omega
theorem call_split{x y:Str}{t u:Tok}{Q:Value->Shared->Prop}(hy:(y.length==0)=false)(hz:x.length+2<=sizeLine)
  (h:∀l tk,l.map (·.1)=Txt.split x y->Q (.ref s.heap.objs.size) { s with heap:=s.heap.push { cls:=.type "list",data:=.seq (strValues l).toArray },toks:=tk }):
  wpAny (model prog w) A (call (.builtin "str.split") [.str x t,.str y u]) Q E s:=by
 have sl:=F.slot_str_split;have ar:=F.args_str_split_2 (.str x t) (.str y u);by_cases c1:(decide (x.length < y.length)||decide (Builtin.Str.strKind x < Builtin.Str.strKind y))=true
 ·exact call_meets sl (typeIs_str _ _ _) F.entry_str_split ar (meets_str_split_cannot_occur x y t u c1) (h [(x,t)] s.toks (by unfold Txt.split;rw[if_pos c1];rfl))
 ·have c1':=eq_false_of_ne_true c1;by_cases c2:(occurrences x y 0 x.length (x.length+1)).isEmpty=true
  ·exact call_meets sl (typeIs_str _ _ _) F.entry_str_split ar (meets_str_split_not_found x y t u c1' hy c2) (h [(x,t)] s.toks (by unfold Txt.split;rw[if_neg c1,if_pos c2];rfl))
  ·refine call_meets sl (typeIs_str _ _ _) F.entry_str_split ar (meets_str_split_sep x y t u c1' hy (eq_false_of_ne_true c2) (by omega) (Nat.le_trans (Qq x y) hz)) ?_;have q:=h (numbered s.toks (partsBetween x (occurrences x y 0 x.length (x.length+1)) y.length)) (s.toks+(partsBetween x (occurrences x y 0 x.length (x.length+1)) y.length).length) (by
    rw[numbered_texts];unfold Txt.split;rw[if_neg c1,if_neg c2])
   rw[<-strsFrom_eq]at q;exact q
theorem Qs{t:Addr}{items:Array Value}{Q:List Value->Shared->Prop}(hh:A.handled=none)(ht:s.heap.IsList t items)(hz:items.size<=sizeLine)(hn:0 < items.size)
  (h:∀(h':Heap)(tk:Nat),(∀b o,s.heap.get? b=some o->h'.get? b=some o)->
   Q (.ref h'.objs.size::items.toList.drop (items.size - 1)) { s with heap:=h'.push { cls:=.type "list",data:=.seq (items.toList.take (items.size - 1)).toArray },toks:=tk }):
  wpAny (model prog w) A (unpackItems (.ref t) 2 (some 0)) Q E s:=by
 have hlt:t≠s.heap.objs.size:=by obtain ⟨o,e,_⟩:=id ht;exact Nat.ne_of_lt (Heap.lt_size e)
 have hlt':t < s.heap.objs.size:=by obtain ⟨o,e,_⟩:=id ht;exact Heap.lt_size e
 unfold unpackItems;unfold notIterableAtAll;refine wpAny_bind (wpAny_bind (wpAny_specialOf ht.typeIs F.slot_list_iter.lookup ?_));refine wpAny_pure ?_;simp only[Bool.false_eq_true,if_false];refine wpAny_bind (wpAny_holding (wpAny_pyIter_list ht ?_));refine wpAny_bind (wpAny_holding (wpAny_pure ?_));simp only[List.length_nil,Nat.not_lt_zero,if_false];refine wpAny_bind (wpAny_holding (wpAny_collect_iter (.inr (.inr (.inl rfl))) (Walks.list (A:=A.in1) hh s.heap.objs.size t hlt items).toS (λ_ _ st=>let ⟨o,ho,hc,_⟩:=st.1;⟨o,ho,hc⟩)
  ⟨⟨_,Heap.get?_push_size _ rfl,rfl,rfl⟩,ht.push _⟩ (λb hb=>?_) (by simp) (λs' acc hm ha=>?_) hz))
 ·have hb':b=s.heap.objs.size\/b=t:=by simpa using hb
  show b < (s.heap.push _).objs.size;rw[Heap.size_push];rcases hb' with rfl |rfl
  ·exact Nat.lt_succ_self _
  ·exact Nat.lt_succ_of_lt hlt'
 ·have e1:acc.toList=items.toList:=by
   refine List.ext_getElem? λi=>?_;rw[Array.getElem?_toList,Array.getElem?_toList];by_cases hi:i < acc.size
   ·have:=ha.2 i acc[i] (by simp[hi]);rw[this];simp[hi]
   ·rw[Array.getElem?_eq_none (by omega),Array.getElem?_eq_none (by have:=ha.1;omega)]
  have e2:acc.toList.length=items.size:=by rw[e1];simp
  rw[if_neg (by rw[e2];omega)];obtain ⟨h',g',d',tk',os'⟩:=s';have eg:g'=s.gens:=hm.gens;have ed:d'=s.drawn:=hm.drawn;have eo:os'=s.os:=hm.os;subst eg;subst ed;subst eo;refine wpAny_bind (wpAny_newList (wpAny_pure ?_) (by rw[List.length_take];omega));have q:=h h' tk' λb o e=>hm.heap b o (by
   intro hb;have hl:=Heap.lt_size e;rw[List.mem_singleton.mp hb]at hl;exact Nat.lt_irrefl _ hl) (Heap.get?_push_of_some _ e)
  rw[e1];have e3:items.toList.length - (2 - 1 - 0)=items.size - 1:=by simp
  rw[e3];exact q
theorem Qt{env:Env}{elts:List Expr}{x1}{pos:Pos}{t:Addr}{items:Array Value}{Q:Unit->Shared->Prop}(hh:A.handled=none)(ht:s.heap.IsList t items)(hz:items.size<=sizeLine)(hn:0 < items.size)
  (hl:(assignEach elts env).length=2) (hs:(assignEach elts env).findIdx? (·.1)=some 0)
  (h:∀(h':Heap)(tk:Nat),(∀b o,s.heap.get? b=some o->h'.get? b=some o)->
   wpAny (model prog w) A (assignInOrder ((assignEach elts env).map (·.2)) (.ref h'.objs.size::items.toList.drop (items.size - 1))) Q E { s with heap:=h'.push { cls:=.type "list",data:=.seq (items.toList.take (items.size - 1)).toArray },toks:=tk }):
  wpAny (model prog w) A (assign (.Tuple elts x1 pos) env (.ref t)) Q E s:=by
 rw[PyProof.Rows.assign_Tuple];refine wpAny_bind (wpAny_standAt ?_);unfold unpack;rw[hl,hs];exact wpAny_bind (wpAny_holding (Qs hh ht hz hn h))
end
def gJ (v:Value):List (Str×Value):=[(Str.ofString "start",v)]
theorem Qu(l:Addr)(items:Array Value)(n:Nat)(dc:Option Addr)(sl)(u:Tok):
  Meets (Builtin.«enumerate.__new__» ⟨[.type "enumerate",.ref l],gJ (.int 1 u)⟩) (λ_ R s=>s.heap.get? l=some { cls:=.type "list",dict:=dc,data:=.seq items n,slots:=sl }/\
   R (.ok (.ret (.ref (s.heap.push { cls:=.type "list_iterator",data:=.fields #[.ref l,.int 0 0] }).objs.size)))
    { s with heap:=(s.heap.push { cls:=.type "list_iterator",data:=.fields #[.ref l,.int 0 0] }).push { cls:=.type "enumerate",data:=.fields #[.none,.bool false,.ref s.heap.objs.size,rawInt 1,.none,.none] } }):=
 .of_wp λprog w A R s h=>by
  obtain ⟨hp,g,d,tk,os⟩:=s;obtain ⟨hl,h⟩:=h;have sb:=sub_enumerate;have hL:Heap.IsList (Shared.heap ⟨hp,g,d,tk,os⟩) l items:=⟨_,hl,rfl,n,rfl⟩;unfold gJ;wp_walk using wpAny_loadPart' hl
  refine wpAny_stack_any λst=>wpAny_pure ?_;have go:∀m:Sem (Value×Option Value),m=pure (Value.ref l,some (Value.int 1 u))->∀(K:Value×Option Value->Sem Fin),K (Value.ref l,some (Value.int 1 u))=(do
    let it <-pyIter (.ref l)
    let r <-Builtin.SmallTypes.newRecord (.type "enumerate") (Builtin.SmallTypes.ownedTupleFields++[it,rawInt 1,.none,.none])
    ret r)->wpAny (model prog w) A.in1 (m >>= K) (λfin s'=>∃v,fin=Fin.done (Flow.ret v)/\R (Except.ok (Flow.ret v)) s') (λe s'=>R (Except.error e) s') ⟨hp,g,d,tk,os⟩:=by
   intro m e K e2;refine wpAny_bind (wpAny_of_eq e ?_);rw[e2];wp_walk using wpAny_loadPart' hl,wpAny_pyIter_list hL
   exact ⟨_,rfl,h⟩
  split
  ·rename_i c _ _ _ _ _;cases (c==Value.type "enumerate")
   ·exact go _ (by rfl') _ (by rfl')
   ·exact go _ (by rfl') _ (by rfl')
  ·exact go _ (by rfl') _ (by rfl')
theorem Qv (l:Addr) (u:Tok):checkTypeCall "enumerate" ⟨[.ref l],gJ (.int 1 u)⟩=pure ():=by rfl'
theorem Qw (l:Addr) (u:Tok):checkBuiltinCall "enumerate.__new__" ⟨[.type "enumerate",.ref l],gJ (.int 1 u)⟩=pure ():=by rfl'
theorem Qx (o:Value) (l:Addr) (u:Tok):argsOk "object.__init__" ⟨[o,.ref l],gJ (.int 1 u)⟩:=by unfold argsOk;rfl'
section
variable {prog:Program} {w:World} {A:Around} {E:Value->Shared->Prop} {s:Shared}
theorem Qy{self:Value}{rest:List Value}{kw:List (Str×Value)}:
  Meets (Builtin.«object.__init__» ⟨self::rest,kw⟩) (λ_ R s=>s.TypeIs self "enumerate"/\R (.ok (.ret .none)) s):=by
 refine Meets.of_wp λprog w A R s hs=>?_;obtain ⟨hT,hq⟩:=hs;have hl:=F.called_enumerate.init.lookup;have hm:=F.called_enumerate.made;cases rest with
 |nil=>
  cases kw with
  |nil=>exact wpAny_pure ⟨_,rfl,hq⟩
  |cons a kw=>
   repeat (any_goals (first |assumption |wp_step))
   exact ⟨_,rfl,hq⟩
 |cons a rest=>
  repeat (any_goals (first |assumption |wp_step))
  exact ⟨_,rfl,hq⟩
theorem Qz{l:Addr}{u:Tok}{items:Array Value}{Q:Value->Shared->Prop}(hL:s.heap.IsList l items)
  (h:∀h',IsEnum h' (s.heap.objs.size+1) s.heap.objs.size 1 .none->h'.IsListIter s.heap.objs.size l 0->h'.objs.size=s.heap.objs.size+2->
   (∀b o,s.heap.get? b=some o->h'.get? b=some o)->Q (.ref (s.heap.objs.size+1)) { s with heap:=h' }):
  wpAny (model prog w) A (call (.type "enumerate") [.ref l] (gJ (.int 1 u))) Q E s:=by
 obtain ⟨⟨cl,dc,dt,sl⟩,hl,hcl,n,hd⟩:=hL;replace hcl:cl=.type "list":=hcl;replace hd:dt=.seq items n:=hd;subst hcl hd;have ft:=F.called_enumerate;have hct:=Qv l u;obtain ⟨c,tl,hmro⟩:=ft.mro;have hmade:=ft.made;have hsub:=ft.sub;refine wpAny_call (codeAny_of_tree ?_);show wpAny _ _ (callAny (.type "enumerate") _) _ _ _;refine wpAny_pure ⟨Code.quiet_builtin _ (by ac_rfl),codeAny_builtin F.entry_type_call ?_⟩;rw[Around.under_plain (weight_type_call_type "enumerate" [.ref l] _) (units_type_call_type "enumerate" [.ref l] _)];have h1:=ft.notType;have h2:=ft.canCreate;repeat (any_goals (first |assumption |wp_step))
 have hz:(s.heap.push { cls:=.type "list_iterator",data:=.fields #[.ref l,.int 0 0] }).objs.size=s.heap.objs.size+1:=Heap.size_push ..;have he:IsEnum ((s.heap.push { cls:=.type "list_iterator",data:=.fields #[.ref l,.int 0 0] }).push { cls:=.type "enumerate",data:=.fields #[.none,.bool false,.ref s.heap.objs.size,rawInt 1,.none,.none] }) (s.heap.objs.size+1) s.heap.objs.size 1 .none:=by have z:=Heap.get?_push_size (s.heap.push { cls:=.type "list_iterator",data:=.fields #[.ref l,.int 0 0] }) (o:={ cls:=.type "enumerate",data:=.fields #[.none,.bool false,.ref s.heap.objs.size,rawInt 1,.none,.none] }) rfl;rw[hz]at z;exact z
 have hq:=h _ he ⟨_,Heap.get?_push_of_some _ (Heap.get?_push_size _ rfl),rfl,rfl⟩ (by rw[Heap.size_push,hz]) λb o x=>Heap.get?_push_of_some _ (Heap.get?_push_of_some _ x);rw[<-hz]at hq;refine codeAny_mono (codeAny_call_builtin ft.plain F.entry_enumerate_new (wpAny_of_eq (Qw l u) (Qu l items n dc sl u prog w A.in1
  (wants (λobj s₁=>obj=.ref (s.heap.push { cls:=.type "list_iterator",data:=.fields #[.ref l,.int 0 0] }).objs.size/\s₁.TypeIs obj "enumerate"/\Q obj s₁) E) s ⟨hl,rfl,⟨_,(by rw[hz];exact he),rfl⟩,hq⟩))) λr s₁ hr=>?_
 cases r with
 |error e=>exact hr
 |ok fl=>
  cases fl with
  |ret obj=>
   obtain ⟨_,hT,hq1⟩:=hr;have hli:=ft.init.lookup;have hbi:=ft.init.bind obj;repeat (any_goals (first |assumption |wp_step))
   refine codeAny_mono (codeAny_call_builtin ft.init.plain F.entry_object_init (ft.init.check _ _ _ _ _ _ _ _ hT (Qx obj l u) (Qy prog w A.in1 (wants (λr s₂=>r=.none/\Q obj s₂) E) s₁ ⟨hT,rfl,hq1⟩))) λr₂ s₂ hr₂=>?_;cases r₂ with
   |error e=>exact hr₂
   |ok fl₂=>
    cases fl₂ with
    |ret r=>
     obtain ⟨rfl,hq⟩:=hr₂;repeat (any_goals (first |assumption |wp_step))
    |_=>exact hr₂.elim
  |_=>exact hr.elim
end
end PySem
namespace RF
open PySem L2 PySem.Builtin PySem.Builtin.Str PySem.StrLaws
noncomputable def aY(c:Nat):List Nat->List (List Nat)
 |[]=>[[]]
 |x::r=>if x=c then []::aY c r else (x::(aY c r).headD [])::(aY c r).tail
noncomputable def posN(c:Nat):Nat->List Nat->List Nat
 |_,[]=>[]
 |k,x::r=>if x=c then k::posN c (k+1) r else posN c (k+1) r
theorem sub_one(l:List Nat)(c i:Nat):subAt ⟨l.toArray⟩ ⟨#[c]⟩ i=(l[i]?==some c):=by
 unfold subAt;have e:(⟨#[c]⟩:Str).length=1:=rfl;rw[e,eI,aE,aE];have e2:(l.toArray.extract i (i+1)).toList=(l.drop i).take 1:=by rw[Array.toList_extract];simp[List.extract]
 constructor
 ·intro h;have h2:(l.toArray.extract i (i+1)).toList=[c]:=c6 Array.toList h;rw[e2]at h2;have h3:=c6 (·[0]?) h2;simpa [List.getElem?_take,List.getElem?_drop] using h3
 ·intro h;apply Array.ext';rw[e2];show _=[c];obtain ⟨hi,he⟩:=a9.mp h;rw[bn hi,he];rfl
theorem lF(l:List Nat)(c:Nat):∀(n k:Nat)(acc:Array Nat)(free:Nat),k+n=l.length+1->acc.size<=k->free<=k->
  (forIn (List.range' k n) (acc,free) (occBody ⟨l.toArray⟩ ⟨#[c]⟩ l.length (l.length+1))).run.fst.toList=acc.toList++posN c k (l.drop k)
 |0,k,acc,free,hn,ha,hf=>by
  have:l.drop k=[]:=dr (by omega);rw[this];show acc.toList=acc.toList++[];simp
 |n+1,k,acc,free,hn,ha,hf=>by
  rw[List.range'_succ,List.forIn_cons];unfold occBody;have e1:(⟨#[c]⟩:Str).length=1:=rfl;by_cases hk:k < l.length
  ·have ed:l.drop k=l[k]::l.drop (k+1):=bn hk;by_cases hc:l[k]=c
   ·have hs:subAt ⟨l.toArray⟩ ⟨#[c]⟩ k=true:=by rw[sub_one,a8 hk,hc];simp
    rw[if_pos ⟨⟨⟨show acc.size < _ by omega,hf⟩,by rw[e1];omega⟩,hs⟩];have ih:=lF l c n (k+1) (acc.push k) (k+1) (by omega) (by rw[Array.size_push];omega) (av _);have hp:posN c k (l.drop k)=k::posN c (k+1) (l.drop (k+1)):=by rw[ed];conv=>lhs;unfold posN;rw[if_pos hc]
    rw[hp];rw[Array.toList_push,List.append_assoc]at ih;exact ih
   ·have hs:¬subAt ⟨l.toArray⟩ ⟨#[c]⟩ k=true:=by rw[sub_one,a8 hk];simpa using hc
    rw[if_neg λz=>hs z.2];have ih:=lF l c n (k+1) acc free (by omega) (by omega) (by omega);have hp:posN c k (l.drop k)=posN c (k+1) (l.drop (k+1)):=by rw[ed];conv=>lhs;unfold posN;rw[if_neg hc]
    rw[hp];exact ih
  ·have e2:l.drop k=[]:=dr (by omega);rw[if_neg λz=>by have:=z.1.2;rw[e1]at this;omega];have ih:=lF l c n (k+1) acc free (by omega) (by omega) (by omega);have e3:l.drop (k+1)=[]:=dr (by omega);rw[e3]at ih;rw[e2];exact ih
theorem QB(l:List Nat)(c:Nat):occurrences ⟨l.toArray⟩ ⟨#[c]⟩ 0 l.length (l.length+1)=posN c 0 l:=by rw[occ_eq];have h:=lF l c (l.length+1) 0 #[] 0 (by omega) (by simp) (by omega);rw[List.drop_zero]at h;simpa using h
theorem wM(l:List Nat)(a b:Nat):strSub ⟨l.toArray⟩ a b=⟨((l.drop a).take (b - a)).toArray⟩:=by unfold strSub;congr 1;apply Array.ext';simp
theorem lG(c:Nat):∀l,∃h t,aY c l=h::t
 |[]=>⟨_,_,rfl⟩
 |x::r=>by
  unfold aY;split
  ·exact ⟨_,_,rfl⟩
  ·exact ⟨_,_,rfl⟩
theorem qF(l:List Nat)(c:Nat):∀(n k a:Nat),k+n=l.length->a<=k->
  partsFrom ⟨l.toArray⟩ 1 a (posN c k (l.drop k))=(⟨((l.drop a).take (k - a)++(aY c (l.drop k)).headD []).toArray⟩:Str)::(aY c (l.drop k)).tail.map λp=>⟨p.toArray⟩
 |0,k,a,hn,ha=>by
  have:l.drop k=[]:=dr (by omega);rw[this];show [strSub ⟨l.toArray⟩ a l.toArray.size]=_;rw[wM];have:k=l.length:=by omega
  subst this;simp[aY]
 |n+1,k,a,hn,ha=>by
  have hk:k < l.length:=by omega
  have ed:l.drop k=l[k]::l.drop (k+1):=bn hk;by_cases hc:l[k]=c
  ·have hp:posN c k (l.drop k)=k::posN c (k+1) (l.drop (k+1)):=by rw[ed];conv=>lhs;unfold posN;rw[if_pos hc]
   have hs:aY c (l.drop k)=[]::aY c (l.drop (k+1)):=by rw[ed];conv=>lhs;unfold aY;rw[if_pos hc]
   rw[hp,hs];show strSub _ a k::partsFrom _ 1 (k+1) _=_;rw[qF l c n (k+1) (k+1) (by omega) (av _),wM];obtain ⟨h,t,e⟩:=lG c (l.drop (k+1));simp[e]
  ·have hp:posN c k (l.drop k)=posN c (k+1) (l.drop (k+1)):=by rw[ed];conv=>lhs;unfold posN;rw[if_neg hc]
   have hs:aY c (l.drop k)=(l[k]::(aY c (l.drop (k+1))).headD [])::(aY c (l.drop (k+1))).tail:=by rw[ed];conv=>lhs;unfold aY;rw[if_neg hc]
   rw[hp,hs,qF l c n (k+1) a (by omega) (by omega)];have e5:(l.drop a).take (k+1 - a)=(l.drop a).take (k - a)++[l[k]]:=by rw[show k+1 - a=(k - a)+1 by omega,fF];congr 1;rw[List.getElem?_drop,show a+(k - a)=k by omega,a8 hk];rfl
   rw[e5];simp
theorem wN(c:Nat):∀l,posN c k l=[]->aY c l=[l]
 |[],_=>rfl
 |x::r,h=>by
  unfold posN at h;unfold aY;split at h
  ·cases h
  ·rename_i hx;rw[if_neg hx];have:=wN c r (k:=k+1) h;rw[this];rfl
theorem QC(l:List Nat)(c:Nat)(hc:c < 256):Txt.split ⟨l.toArray⟩ ⟨#[c]⟩=(aY c l).map λp=>(⟨p.toArray⟩:Str):=by
 unfold Txt.split;have e1:(⟨#[c]⟩:Str).length=1:=rfl;have e2:(⟨l.toArray⟩:Str).length=l.length:=by show l.toArray.size=_;simp
 rw[e1,e2,QB];split
 ·rename_i h;have hl:l=[]:=by
   have k1:Str.strKind (⟨#[c]⟩:Str)=1:=by unfold Str.strKind;rw[if_pos (by simpa using hc)]
   have k2:1<=Str.strKind (⟨l.toArray⟩:Str):=by unfold Str.strKind;split <;> (try split) <;> omega
   rw[k1]at h;simp only[cq,decide_eq_true_eq]at h;have:l.length=0:=by omega
   exact ce.mp this
  subst hl;rfl
 ·split
  ·rename_i h;have:=wN c l (k:=0) (List.isEmpty_iff.mp h);rw[this];rfl
  ·rw[partsBetween_eq];have h:=qF l c l.length 0 0 (by omega) (av _);rw[List.drop_zero]at h;rw[h];obtain ⟨p,t,e⟩:=lG c l;simp[e]
theorem split_len(c:Nat):∀(l:List Nat)(p:List Nat),p∈aY c l->p.length<=l.length
 |[],p,h=>by rw[bd.mp h];exact av _
 |x::r,p,h=>by
  obtain ⟨q,t,e⟩:=lG c r;have ih:=split_len c r;unfold aY at h;rw[e]at h ih;split at h
  ·rcases ba.mp h with z |z
   ·rw[z];simp
   ·have:=ih p z;simp;omega
  ·rcases ba.mp h with z |z
   ·rw[z];have:=ih q (aS ..);simpa using this
   ·have:=ih p (aT _ z);simp;omega
theorem wO(c:Nat):∀l:List Nat,(aY c l).length<=l.length+1
 |[]=>av _
 |x::r=>by
  have ih:=wO c r;obtain ⟨q,t,e⟩:=lG c r;unfold aY;split
  ·simpa using ih
  ·rw[e]at ih ⊢;simp at ih ⊢;omega
end RF
namespace L2
open PySem PySem.Spec PyProof.Rows
section
variable {X:Cx}
def QD(C:Addr)(ta:TA):TE:=λσ H Q=>ta σ H λvs H1=>vs.length<=sizeLine/\∀a o,H1 a=none->o.cls=.ref C->Q (.ref a) (upd H1 a (.frz o (.own a)))
theorem QF{x:Str}{C:Addr}{np cpos:Pos}{e:Expr}{es:List Expr}{ta:TA}(hex:X.ex=[])(hg:Gl X x)(hm:X.mg x=some (.ref C))(hb:dZ X.K C=true)(hk:PySem.W.keepIn X.K (.ref C)=true)(ha:PA X (e::es) ta)
  (hdb:(x==("__debug__":Str))=false:=by decide) (he:starEach (e::es) X.env=(false,eval e X.env)::starEach es X.env:=by rfl) (hpl:(backTo cpos (starEach es X.env)).any (·.1)=false:=by rfl):
  PE X (.Call (.Name x np) (e::es) [] cpos) (QD C ta):=by
 intro pins s σ H Q I h;obtain ⟨bm,N,nm,q0,bs,hd,sn,sub,ab,col,dd,k0,k1,k2,k3,k5,mN,b1,b2,b3,b4⟩:=(Pk I.ok.mod.kin hb hm:OwnClsQ x C veM "ValueError.__new__" X.mg X.base).own.obj;refine gd (pY I hg hm ?_ hdb);refine PySem.W.callWith_K (h₀:=X.base) I.ok.mod.kin hk (thn (ha cpos pins s σ H _ I h) λus s1 hy=>?_) he hpl;obtain ⟨vs,H1,I1,r,hl,q⟩:=hy;refine ⟨I1.kIn,?_⟩;have c1:=I1.bk _ _ b1;have c2:=wB I1.bk b2;have c4:=Pn I1.bk b4;have hl':us.length<=sizeLine:=by rw[<-r.length];exact hl
 have fin:∀h' a,s1.heap.MadeExcOf h' a (.ref C) us->EP X pins σ Q (.ref a) { s1 with heap:=h' }:=λh' a m=>by
  have J:Inv X pins σ H1 { s1 with heap:=h' }:=I1.kept (t':=s1.toks) m.keeps;obtain ⟨t,e,_,_⟩:=m.there;have n1:X.s₀.heap.get? a=none:=by
   cases e:X.s₀.heap.get? a with
   |none=>rfl
   |some o=>
    obtain ⟨o',e'⟩:=I1.base.there a o e (by rw[hex];simp);rw[m.new]at e';cases e'
  have hH:=I1.hok.gone m.new;refine ⟨.ref a,_,J.tell n1 hH e rfl (λp hp ee=>?_),rfl,q a _ hH rfl⟩;have:=I1.pin p hp;rw[ee]at this;rw[m.new]at this;simp at this
 obtain ⟨hp,g,d,t,os⟩:=s1;exact wpAny_call_exc_subT F.excBase_ValueError c4 c1 c2 b3 fin hl'
end
section
variable {prog:Program} {w:World} {A:Around} {E:Value->Shared->Prop} {h:Heap} {g:Array GenState} {d:Drawn} {t:Nat} {os:OsState}
variable {nm q:Str} {C N fI:Addr} {oI:Obj} {us bs bm bB:List Value} {hd:Bool} {sn:List Str} {sub:List Value} {ab:Bool} {col:Option Bool} {dd:Option Addr} {k0 k1 k2 k3 k5:Option Value} {B nw ini:String}
noncomputable def exH (h:Heap) (C:Addr) (us:List Value):Heap:=(h.push ⟨.type "tuple",none,.seq us.toArray 0,#[]⟩).push ⟨.ref C,none,.fields #[.ref h.objs.size,.none,.none,.none,.bool false,.none],#[]⟩
theorem jb{b:Addr}{o:Obj}(e:h.get? b=some o):(exH h C us).get? b=some o:=al _ (al _ e)
theorem wQ:(exH h C us).get? (h.objs.size+1)=some ⟨.ref C,none,.fields #[.ref h.objs.size,.none,.none,.none,.bool false,.none],#[]⟩:=by
 unfold exH
 heap_get
theorem QG {m:Str->Option Value} {Q:Fin->Shared->Prop} (F:ExcBaseFacts B nw ini bB) (T:OwnTail h bB bm) (hC:h.get? C=some (excClassObj nm q C N bs bm hd sn sub ab col dd k0 k1 k2 k3 k5 nw)) (hn:h.Ns N m) (hi:m "__init__"=some (.ref fI))
  (hf:h.get? fI=some oI) (hfc:oI.cls=.type "function") (hl:us.length<=sizeLine)
  (hq:wpAny (model prog w) A (call (.ref fI) (.ref (h.objs.size+1)::us)) (λr s'=>r=.none/\Q (.done (.ret (.ref (h.objs.size+1)))) s') E ⟨exH h C us,g,d,t,os⟩):
  wpAny (model prog w) A (Builtin.«type.__call__» ⟨.ref C::us,[]⟩) Q E ⟨h,g,d,t,os⟩:=by
 repeat (first |with_reducible refine wpAny_madeBy_exc hC ?_ |with_reducible refine gs hC ?_ |wp_step)
 refine codeAny_call_builtin_code (Code.quiet_builtin _ F.quiet) (wpAny_check_new_subT F T hC (codeAny_exc_new_subT F T hC ?_ hl));have c1:=jb (C:=C) (us:=us) hC;have c2:(exH h C us).Ns N m:=hn.keeps λ_ _=>jb;have c3:=T.keeps (h':=exH h C us) λ_ _=>jb;have c4:=wQ (h:=h) (C:=C) (us:=us);have c5:=jb (C:=C) (us:=us) hf;have hin:(Value.ref C::bm).contains (.ref C)=true:=by simp
 change wpAny _ _ _ _ _ ⟨exH h C us,g,d,t,os⟩;unfold isInstance;repeat (first | (with_reducible refine wpAny_isSubtype_exc c1 ?_;rw[hin]) |with_reducible refine gs c4 ?_ |wp_step)
 change wpAny _ _ (typeLookup (.ref C) _) _ _ _;refine wpAny_typeLookup_tail c1 c2 c3 F.mroIs F.init.lookup ?_;rw[hi];refine cf (ae ?_);unfold bindSpecial;refine ae (wpAny_typeOf (T:="function") ⟨_,c5,hfc⟩ ?_);rw[if_pos (by decide)];refine am (ae (b9 hq (λr s' hr=>?_) λ_ _ z=>z));obtain ⟨rfl,z⟩:=hr;wp_walk
 exact z
end
section
variable {prog:Program} {w:World} {A:Around} {E:Value->Shared->Prop} {h:Heap} {g:Array GenState} {d:Drawn} {t:Nat} {os:OsState}
variable {nm q:Str} {C N fI:Addr} {oI:Obj} {us bs bm bB:List Value} {hd:Bool} {sn:List Str} {sub:List Value} {ab:Bool} {col:Option Bool} {dd:Option Addr} {k0 k1 k2 k3 k5:Option Value} {B nw ini:String}
theorem QH {m:Str->Option Value} {Q:Value->Shared->Prop} (F:ExcBaseFacts B nw ini bB) (T:OwnTail h bB bm) (hC:h.get? C=some (excClassObj nm q C N bs bm hd sn sub ab col dd k0 k1 k2 k3 k5 nw)) (hn:h.Ns N m) (hi:m "__init__"=some (.ref fI))
  (hf:h.get? fI=some oI) (hfc:oI.cls=.type "function") (hl:us.length<=sizeLine)
  (hq:wpAny (model prog w) (A.under (.builtin "type.__call__" ⟨.ref C::us,[]⟩)) (call (.ref fI) (.ref (h.objs.size+1)::us)) (λr s'=>r=.none/\Q (.ref (h.objs.size+1)) s') E ⟨exH h C us,g,d,t,os⟩):
  wpAny (model prog w) A (call (.ref C) us) Q E ⟨h,g,d,t,os⟩:=by
 have f1:=tc_bind (.ref C);have f2:=tc_lookup;have f3:(⟨h,g,d,t,os⟩:Shared).TypeIs (.ref C) "type":=⟨_,hC,rfl⟩;refine wpAny_call (codeAny_of_tree ?_);change wpAny _ _ (callAny (.ref C) _) _ _ _;repeat (any_goals (first |assumption |with_reducible refine gs hC ?_ |wp_step))
 refine ⟨rfl,codeAny_call_builtin_at (Code.quiet_builtin _ (by ac_rfl)) entry_typeCall (wpAny_check_type_call_sub hC (QG F T hC hn hi hf hfc hl ?_))⟩;exact hq
end
open Builtin Builtin.ObjectAttr
open PySem.W (findIn mroIn clsIn typeIn Looks InstAt looks_findIn looks_mroIn looks_typeIn looks_clsIn takerIn takesIn hasDictIn looks_takesIn check_slot osa_eq)
noncomputable def exO(C l:Addr)(dx:Option Addr):Obj:=⟨.ref C,dx,.fields #[.ref l,.none,.none,.none,.bool false,.none],#[]⟩
section
variable {prog:Program} {w:World} {A:Around} {E:Value->Shared->Prop} {s:Shared} {x C l:Addr} {K:PF} {name:Str} {v:Value} {cd:ClassData}
theorem QJ{h:Heap}{g:Array GenState}{d:Drawn}{t:Nat}{os:OsState}{tk:Tok}{ox:Obj}{od:Option Obj}{Q:Fin->Shared->Prop}(KX:K.In h)(I:InstAt h x ox C od)(hf:PySem.W.findObj K C od name=some (.value v))(hq:Q (.done (.ret v)) ⟨h,g,d,t,os⟩):
  wpAny (model prog w) A (Builtin.«object.__getattribute__» ⟨[.ref x,.str name tk],[]⟩) Q E ⟨h,g,d,t,os⟩:=by
 have L0:=I.type (M:=model prog w);have L1:=PySem.W.looks_find (M:=model prog w) KX I hf;exact ae (am (ae (am (ae (L0.at (ae (L1.at (am hq))))))))
theorem QK{h:Heap}{g:Array GenState}{d:Drawn}{t:Nat}{os:OsState}{ox:Obj}{od:Option Obj}{expr:Bool}{Q:Value->Shared->Prop}(KX:K.In h)(xi:Xin K C)(I:InstAt h x ox C od)(hf:PySem.W.findObj K C od name=some (.value v))(hv:PySem.W.handedIn v=true)
  (hq:Q v ⟨h,g,d,t+1,os⟩):wpAny (model prog w) A (getAttr (.ref x) name expr) Q E ⟨h,g,d,t,os⟩:=by
 have hx:=I.at_;have hc:=I.cls;have L1:=looks_findIn (M:=model prog w) KX xi.ga;have L2:=looks_findIn (M:=model prog w) KX xi.g;have f3:bindSpecial (.builtin "BaseException.__getattribute__") (.ref x)=pure (.builtin "BaseException.__getattribute__",[.ref x]):=(PySem.F.excAttr_ValueError).ga.bind (.ref x);have hx2:(Value.builtin "BaseException.__getattribute__"==Value.builtin "object.__getattribute__")=false:=by ac_rfl
 have hx1:(onTheHeap (Value.ref C)&&Value.builtin "BaseException.__getattribute__"==Value.builtin "object.__getattribute__")=false:=by rw[hx2];rfl
 have ho:=PySem.W.handedOut_of hv;unfold getAttr getAttrBy;repeat (any_goals (first |assumption | (with_reducible refine gs hx ?_;rw[hc]) |with_reducible refine L1.at ?_ |with_reducible refine L2.at ?_ |wp_step))
 rw[show (expr&&onTheHeap (Value.builtin "BaseException.__getattribute__"))=false from fS _,if_neg (by decide)];repeat (any_goals (first |assumption |wp_step))
 refine codeAny_call_builtin (by ac_rfl) F.entry_bexc_ga (Pr KX xi hx hc (QJ KX I hf ?_));repeat (any_goals (first |assumption |wp_step))
end
open PySem.W (findIn mroIn clsIn typeIn takerIn specialIn findCls readsIn)
def wR(f:Addr):Option Value->Bool
 |some (.ref a)=>a==f
 |_=>false
noncomputable def qG(K:PF)(N f:Addr):Bool:=match K.lookup N with
 |some ⟨_,_,.dict es _,_⟩=>es.toList.all (λe=>lE e.key)&&wR f (nsFind es "__init__")
 |_=>false
theorem QL {K:PF} {N f:Addr} {h:Heap} (KX:K.In h) (b:qG K N f=true):∃m,h.Ns N m/\m "__init__"=some (.ref f):=by
 unfold qG at b;split at b
 ·rename_i c d es ep sl e;rw[ah,bS]at b;refine ⟨nsFind es,⟨_,es,ep,KX _ _ e,rfl,λx hx=>?_,λ_=>rfl⟩,?_⟩
  ·have:=b.1 x (Array.mem_toList_iff.mpr hx);unfold lE at this;split at this
   ·rename_i y t e;exact ⟨_,_,e⟩
   ·cases this
  ·have h2:=b.2;unfold wR at h2;split at h2
   ·rename_i a ea;rw[aE]at h2;rw[ea,h2]
   ·cases h2
 ·cases b
noncomputable def jc(K:PF)(C f:Addr):Bool:=match K.lookup C with
 |some ⟨ty,_,.cls cd,⟨[_,_,_,_,k,_]⟩⟩=>iZ ty&&isNew k&&qG K cd.ns f&&!cd.hasDel&&(match cd.mro with |v::tl=>isRef C v&&iY K tl |[]=>false)
 |_=>false
def QM (h:Heap) (C f:Addr):Prop:=∃nm q N bs bm hd sn sub ab col dd k0 k1 k2 k3 k5 m,h.get? C=some (excClassObj nm q C N bs bm hd sn sub ab col dd k0 k1 k2 k3 k5 "ValueError.__new__")/\h.Ns N m/\m "__init__"=some (.ref f)/\OwnTail h veM bm
theorem QQ{K:PF}{C f:Addr}{h:Heap}(KX:K.In h)(b:jc K C f=true):QM h C f:=by
 unfold jc at b;split at b
 ·rename_i ty dd cd k0 k1 k2 k3 k k5 e;simp only[ah]at b;obtain ⟨⟨⟨⟨b1,b2⟩,b3⟩,b5⟩,b4⟩:=b;obtain ⟨m,hns,hq⟩:=QL KX b3;have e1:ty=.type "type":=by
   unfold iZ at b1;split at b1
   ·rw[aE]at b1;rw[b1]
   ·cases b1
  have e2:k=some (.builtin "ValueError.__new__"):=by
   unfold isNew at b2;split at b2
   ·rw[aE]at b2;rw[b2]
   ·cases b2
  obtain ⟨nm,bs,mro,ns,q,hd,sn,sub,ab,col,del⟩:=cd;dsimp only at b4 hns b5;have e4:del=false:=by simpa using b5
  subst e4;split at b4
  ·rename_i v tl;rw[ah]at b4;have e3:v=.ref C:=by
    have:=b4.1;unfold isRef at this;split at this
    ·rw[aE]at this;rw[this]
    ·cases this
   subst e1 e2 e3;exact ⟨nm,q,ns,bs,tl,hd,sn,sub,ab,col,dd,k0,k1,k2,k3,k5,m,KX _ _ e,hns,hq,(qx KX b4.2).tail⟩
  ·cases b4
 ·cases b
def eY(e C l:Addr)(dx:Option Addr):Heap->Prop:=λh=>h.get? e=some (exO C l dx)
theorem QR{P:Program}{w:World}{H:Hp}{h:Heap}{e C l:Addr}{dx:Option Addr}(he:h.get? e=some (exO C l dx)):ObjOk P w H h e (.ext (eY e C l dx)):=
 ⟨he,⟨_,he⟩,λh1 h2 a k=>k _ a⟩
theorem QS{h:Heap}{C:Addr}{us:List Value}:(exH h C us).get? (h.objs.size+1)=some (exO C h.objs.size none):=wQ
section
variable {X:Cx} {CX:CXT} {k:Nat} {f C:Addr} {fd:FuncData} {ps:List Str} {sp:Sp} {E:XK} {x:Str} {p pos apos:Pos} {e:Expr} {es:List Expr} {t:TA}
theorem QT {pins:List (Addr×Obj)} {σ:St} {H:Hp} {s:Shared} {Q:VK} {us:List Value} {vs:List V} (hC:jc X.K C f=true) (hfn:typeIn X.K (.ref f)=some (.type "function")) (F0:FnOk X.prog X.w X.K X.mg X.base CX k f fd ps sp) (hr:Room (k+1) X.A) (hb:Binds X.K fd ps [])
  (hx:fW CX X E) (I:Inv X pins σ H s) (r:Vals vs us) (hl:us.length<=sizeLine)
  (h:∀a l,H a=none->sp (.ref a::vs) (upd H a (.ext (eY a C l none))) (λv H2=>v=.non/\Q (.ref a) H2) E):
  wpAny (model X.prog X.w) X.A (call (.ref C) us) (EP X pins σ Q) X.xe s:=by
 obtain ⟨nm,q,N,bs,bm,hd,sn,sub,ab,col,dd,k0,k1,k2,k3,k5,m,a1,a2,a3,a4⟩:=QQ I.kIn hC;have hq:=h (s.heap.objs.size+1) s.heap.objs.size (I.hok.fresh (c8 _));have kp:∀b o,s.heap.get? b=some o->(exH s.heap C us).get? b=some o:=λb o e=>jb e;have I2:Inv X pins σ (upd H (s.heap.objs.size+1) (.ext (eY (s.heap.objs.size+1) C s.heap.objs.size none))) { s with heap:=exH s.heap C us,toks:=s.toks }:=I.laid (t':=s.toks) kp (c8 _) (QR QS);have r2:Vals (V.ref (s.heap.objs.size+1)::vs) (Value.ref (s.heap.objs.size+1)::us):=.cons rfl r;have hlen:(Value.ref (s.heap.objs.size+1)::us).length=ps.length:=by have e:=r2.length;rw[F0.len _ _ _ _ hq]at e;exact e.symm
 have hb2:=hb _ (Value.ref (s.heap.objs.size+1)::us) I2.kIn (by rw[fe];exact hlen);rw[fe]at hb2;obtain ⟨of,hof,hfc⟩:∃o,s.heap.get? f=some o/\o.cls=.type "function":=by obtain ⟨o,eo,ec⟩:=bi.mp (show (X.K.lookup f).map (·.cls)=some (.type "function") from hfn);exact ⟨o,I.kIn _ _ eo,ec⟩
 obtain ⟨hp,g,d,tk,os⟩:=s;refine QH (h:=hp) F.excBase_ValueError a4 a1 a2 a3 hof hfc hl ?_;refine wpAny_call (codeAny_mono (F0.run _ X.stack _ _ ⟨Value.ref (hp.objs.size+1)::us,[]⟩ (Value.ref (hp.objs.size+1)::us) _ _ E (hr.make C us [])
  (I2.env0.make C us []) hb2 r2 hq) λr s' hq'=>?_)
 cases r with
 |error e=>exact hx pins σ _ _ e s' I2 hq'
 |ok fl=>
  cases fl with
  |ret u=>
   obtain ⟨v,H',I3,rv,ev,q3⟩:=I2.after hq';subst ev;exact ⟨rv,⟨V.ref (hp.objs.size+1),H',I3,rfl,q3⟩⟩
  |next=>exact False.elim hq'
  |brk=>exact False.elim hq'
  |cont=>exact False.elim hq'
theorem QV (hC:jc X.K C f=true) (hfn:typeIn X.K (.ref f)=some (.type "function")) (hk:PySem.W.keepIn X.K (.ref C)=true) (F0:FnOk X.prog X.w X.K X.mg X.base CX k f fd ps sp) (hr:Room (k+1) X.A) (hg:Gl X x) (hm:X.mg x=some (.ref C)) (hb:Binds X.K fd ps []) (hx:fW CX X E)
  (ha:PA X (e::es) t) (hdb:(x==("__debug__":Str))=false:=by decide) (he:starEach (e::es) X.env=(false,eval e X.env)::starEach es X.env:=by rfl) (hpl:(backTo pos (starEach es X.env)).any (·.1)=false:=by rfl):
  PE X (.Call (.Name x p) (e::es) [] pos) (λσ H Q=>t σ H λvs H1=>vs.length<=sizeLine/\∀a l,H1 a=none->sp (.ref a::vs) (upd H1 a (.ext (eY a C l none))) (λv H2=>v=.non/\Q (.ref a) H2) E):=by
 intro pins s σ H Q I h;refine gd (pY I hg hm ?_ hdb);refine PySem.W.callWith_K (h₀:=X.base) I.ok.mod.kin hk (thn (ha pos pins s σ H _ I h) λus s1 ⟨vs,H1,I1,r,hl,q⟩=>⟨I1.kIn,?_⟩) he hpl;exact QT hC hfn F0 hr hb hx I1 r (by show us.length<=sizeLine;rw[<-r.length];exact hl) q
theorem QW{o:Expr}{ta:TE}{g:Str}(he:PE X o ta)(hb:attributeBase o g X.env (eval o X.env)=eval o X.env):
  PE X (.Attribute o g pos) (λσ H Q=>ta σ H λx H1=>∃a C dx ob od y v,x=.ref a/\H1 a=some (.frz ob y)/\ob.cls=.ref C/\ob.dict=some dx/\PySem.W.notCls ob=true/\H1 dx=some (.frz od (.xd [(g,v)]))/\
   gH X.K C=true/\PySem.W.hasDictIn X.K C=true/\findIn X.K (.ref C) g=some none/\Q v H1):=by
 intro pins s σ H Q I h;refine MF hb (thn (he pins s σ H _ I h) λu s1 ⟨x,H1,I1,rx,a,C,dx,ob,od,y,v,ex,ea,hc,hd,hn,ed,x1,x2,x3,q⟩=>?_);subst ex;obtain rfl:u=Value.ref a:=rx;have ha:s1.heap.get? a=some ob:=(show ObjOk X.prog X.w H1 s1.heap a (.frz ob y) from I1.hok a _ ea).1;obtain ⟨hdx,mA,hns,rl⟩:=(show ObjOk X.prog X.w H1 s1.heap dx (.frz od (.xd [(g,v)])) from I1.hok dx _ ed);have rg:=rl g;rw[show List.lookup g [(g,v)]=some v by simp[List.lookup]]at rg;obtain ⟨u',hu,ru⟩:=RelO.some_of (v:=v) (o:=mA g) rg;have J:PySem.W.InstAt s1.heap a ob C (some od):=⟨ha,hc,hn,by rw[hd];exact hdx⟩;obtain ⟨od',ho',hl'⟩:=vz hns;have eo:od'=od:=by rw[hdx]at ho';exact (cp ho').symm
 subst eo;have hl:PySem.W.lookIn g od'=some (some u'):=by rw[hl' g,hu]
 obtain ⟨hp,gg,dd,tk,os⟩:=s1;exact QK I1.kIn (Pq x1) J (PySem.W.findObj_own x2 x3 rfl hl) (Mx ru) ⟨v,H1,I1.tok _,ru,q⟩
end
theorem QX(t:SetTable)(es:Array (Int×Value))(h:Int)(x:Value):(layNew t es h x).2.1.led=t.led:=by
 unfold layNew;split
 ·unfold SetTable.orStandIn;dsimp only;split <;> rfl
 ·rfl
theorem QZ(t:SetTable)(es:Array (Int×Value))(n:Nat):(relayAll t es n).2.1.led=t.led/\((relayAll t es n).2.1.plain=true->t.plain=true):=by
 unfold relayAll;split
 ·rename_i t' order e;dsimp only;unfold SetTable.relaid SetTable.laid at e;split
  ·cases hc:SetTable.layClean (SetTable.sizeAbove n - 1) (es.map (·.1)) with
   |none=>rw[hc]at e;cases e
   |some ow=>rw[hc]at e;cases e;exact ⟨rfl,λz=>z⟩
  ·exact ⟨rfl,λz=>nomatch (show false=true from z)⟩
 ·exact ⟨rfl,λz=>nomatch (show false=true from z)⟩
def isTx(prog:Program)(w:World)(e:Int×Value):Prop:=∃k tk,e=((strKind prog w).hash k,.str k tk)
def gK(e:Int×Value):Str:=match e.2 with |.str k _=>k |_=>⟨#[]⟩
def SetL(prog:Program)(w:World)(h:Heap)(a:Addr)(ks:List Str)(L:Bool):Prop:=
 ∃es ep t,h.get? a=some ⟨.type "set",none,.set es ep t,#[]⟩/\(∀e∈es.toList,isTx prog w e)/\(es.toList.map gK).Perm ks/\es.size < scanBound/\t.fits es.size=true/\t.led=L/\(t.plain=true->es.size=0)
theorem isTx.el{prog:Program}{w:World}{l:List (Int×Value)}(h:∀e∈l,isTx prog w e):ElemsOf (strKind prog w) l:=λe he=>by
 obtain ⟨k,tk,rfl⟩:=h e he;exact ⟨⟨k,strKind_is prog w k tk,rfl⟩,rfl⟩
theorem isTx.is{prog:Program}{w:World}{e:Int×Value}(h:isTx prog w e)(k:Str):(strKind prog w).is k e.2=decide (gK e=k):=by obtain ⟨k',tk,rfl⟩:=h;have:=KeyKind.is_eq_decide (knd:=strKind prog w) (strKind_is prog w k' tk) k;rw[this];show decide (k=k')=decide (k'=k);rw[eI,cr,cr];exact eq_comm
section
variable {prog:Program} {w:World} {A:Around} {E:Value->Shared->Prop} {s:Shared} {a:Addr} {ks:List Str} {L:Bool} {k:Str} {tk:Tok}
def putK(ks:List Str)(k:Str):List Str:=if k∈ks then ks else ks++[k]
theorem SetL.store {h:Heap} {es es':Array (Int×Value)} {ep:Nat} {t t':SetTable} (ho:h.get? a=some ⟨.type "set",none,.set es ep t,#[]⟩):
  (h.update a (Obj.putSet es' t')).get? a=some ⟨.type "set",none,.set es' (ep+1) t',#[]⟩:=by
 have:=eL (Obj.putSet es' t') ho (by rw[putSet_of es' t' rfl];rfl);rw[putSet_of es' t' rfl]at this;exact this
theorem Q0{Q:Bool->Shared->Prop}(hS:SetL prog w s.heap a ks L)(hr:ks.length+1 < scanBound)
  (h:∀h' b,Heap.SameBut a s.heap h'->SetL prog w h' a (putK ks k) L->Q b { s with heap:=h' }):
  wpAny (model prog w) A (setAddHashed a (.str k tk) ((strKind prog w).hash k)) Q E s:=by
 obtain ⟨es,ep,t,ho,hel,hp,hb,hf,hL,hpl⟩:=hS;have hE:=isTx.el hel;have hn:es.size=ks.length:=by rw[<-hp.length_eq,ax,b6]
 have hsc:(Value.str k tk).scannable=true:=rfl;have hkey:=strKind_is prog w k tk;unfold setAddHashed setAddHashedIn;refine cf (ae (d6 ho rfl hf ?_));dsimp only;rw[byScan_of hsc hb hE];simp only[↓reduceIte];unfold setAddByScan;refine ae ?_;refine ae (gc ?_);refine ae (wpAny_setScan_of hkey ho rfl hf hE ?_);cases hr':List.findIdx? (λe=>(strKind prog w).is k e.2) es.toList with
 |some j=>
  dsimp only;obtain ⟨hj,hpj,_⟩:=List.findIdx?_eq_some_iff_getElem.mp hr';have hin:k∈ks:=by have hm:=List.getElem_mem hj;rw[(hel _ hm).is k,cr]at hpj;exact hp.mem_iff.mp (cb.mpr ⟨_,hm,hpj⟩)
  refine am (am ?_);have e:s={ s with heap:=s.heap }:=by cases s;rfl
  have q:=h s.heap false (Heap.SameBut.refl a s.heap) (by unfold putK;rw[if_pos hin];exact ⟨es,ep,t,ho,hel,hp,hb,hf,hL,hpl⟩);rw[e];exact q
 |none=>
  dsimp only;have hnin:k∉ks:=λhin=>by
   obtain ⟨e,he,ek⟩:=cb.mp (hp.mem_iff.mpr hin);have:=List.findIdx?_eq_none_iff.mp hr' e he;rw[(hel e he).is k,eP ek]at this;cases this
  have hgw:∀(b:Bool) {s₁:Shared} {Q':Unit->Shared->Prop},Q' () s₁->wpAny (model prog w) A (match b with |true=>rule "set.scan.the-table-gave-way" |false=>pure ()) Q' E s₁:=
   λb s₁ Q' hq=>by cases b <;> first |exact am hq |exact gc hq
  have hperm:=layNew_perm t es ((strKind prog w).hash k) (.str k tk);have hfits:=layNew_fits t es ((strKind prog w).hash k) (.str k tk);have hled:=QX t es ((strKind prog w).hash k) (.str k tk);generalize hLy:layNew t es ((strKind prog w).hash k) (.str k tk)=Ly at hperm hfits hled ⊢;obtain ⟨es1,t1,wd,gv⟩:=Ly;dsimp only at hperm hfits hled ⊢;rw[Array.toList_push]at hperm;have hel1:∀e∈es1.toList,isTx prog w e:=λe he=>by
   rcases cm.mp (hperm.mem_iff.mp he) with z |z
   ·exact hel e z
   ·rw[bd.mp z];exact ⟨k,tk,rfl⟩
  have hp1:(es1.toList.map gK).Perm (putK ks k):=by unfold putK;rw[if_neg hnin];refine (hperm.map gK).trans ?_;rw[List.map_append];exact hp.append_right [k]
  have hz1:es1.size=ks.length+1:=by rw[<-b6,hperm.length_eq,bp,b6,hn];rfl
  have hb1:es1.size < scanBound:=by omega
  refine ae (hgw _ ?_);have tail:∀t2:SetTable,t2.fits es1.size=true->t2.led=L->t2.plain=false->wpAny (model prog w) A (do
    storeSet a es1 t2
    if (!wd&&t2.tooFull)=true then do
      (match (relayAll t2 es1 (SetTable.grown es1.size)).2.2 with |true=>rule "set.scan.the-table-gave-way" |false=>pure ())
      storeSet a (relayAll t2 es1 (SetTable.grown es1.size)).1 (relayAll t2 es1 (SetTable.grown es1.size)).2.1
      pure (some true)
     else pure (some true)) (λo s'=>o=some true/\∃h',s'={ s with heap:=h' }/\Heap.SameBut a s.heap h'/\SetL prog w h' a (putK ks k) L) E s:=by
   intro t2 f2 l2 p2;refine ae (wpAny_storeSet_of ho rfl ?_ (fits_of_scanBound hb1));have g1:=SetL.store (es':=es1) (t':=t2) ho;have sb1:=bq s.heap a (Obj.putSet es1 t2);split
   ·have rp:=relayAll_perm t2 es1 (SetTable.grown es1.size);have rf':=relayAll_fits t2 es1 (SetTable.grown es1.size);have rl:=QZ t2 es1 (SetTable.grown es1.size);generalize relayAll t2 es1 (SetTable.grown es1.size)=Rl at rp rf' rl ⊢;obtain ⟨es2,t3,gv2⟩:=Rl;dsimp only at rp rf' rl ⊢;have hz2:es2.size=es1.size:=by rw[<-b6,rp.length_eq,b6]
    refine ae (hgw _ ?_);refine ae (wpAny_storeSet_of g1 rfl ?_ (fits_of_scanBound (by rw[hz2];exact hb1)));have g2:=SetL.store (es':=es2) (t':=t3) g1;refine am ⟨rfl,_,rfl,sb1.trans (bq _ a _),es2,_,t3,g2,λe he=>hel1 e (rp.mem_iff.mp he),(rp.map gK).trans hp1,by rw[hz2];exact hb1,rf',rl.1.trans l2,λz=>?_⟩;rw[p2]at rl;cases rl.2 z
   ·exact am ⟨rfl,_,rfl,sb1,es1,_,t2,g1,hel1,hp1,hb1,f2,l2,λz=>by rw[p2]at z;cases z⟩
  split
  ·refine ae ?_;rw[hashByValue_scannable 8 hsc];refine am ?_;refine b9 (tail { t1 with plain:=false } (SetTable.fits_plain_off hfits) (hled.trans hL) rfl) (λo s' z=>?_) λ_ _ z=>z;obtain ⟨rfl,h',rfl,sb,sl⟩:=z;exact am (h h' true sb sl)
  ·rename_i hnp;refine ae (am ?_);simp only[↓reduceIte];refine b9 (tail t1 hfits (hled.trans hL) (by simpa using hnp)) (λo s' z=>?_) λ_ _ z=>z;obtain ⟨rfl,h',rfl,sb,sl⟩:=z;exact am (h h' true sb sl)
end
def met(val:Nat->Str)(i:Nat):List Str:=(List.range i).foldl (λks j=>putK ks (val j)) []
theorem qH(val:Nat->Str)(i:Nat):met val (i+1)=putK (met val i) (val i):=by unfold met;rw[List.range_succ,List.foldl_append];rfl
theorem Q3(ks:List Str)(k:Str):(putK ks k).length<=ks.length+1:=by
 unfold putK;split
 ·omega
 ·rw[bp];exact av _
theorem wU(val:Nat->Str):∀i,(met val i).length<=i
 |0=>av _
 |i+1=>by
  rw[qH];have:=Q3 (met val i) (val i);have:=wU val i;omega
def bL (w:World):Bool:=w.params.followText "set-order"
section
variable {prog:Program} {w:World} {A:Around} {E:Value->Shared->Prop} {R:Result->Shared->Prop} {I:Addr} {fp wr:List Addr} {GG:Array GenState->Array GenState->Prop} {n:Nat} {P:Nat->Value->Prop} {St:Nat->Shared->Prop} {L:Bool}
theorem Q4(W:WalksS prog w A.in1 I fp wr GG n P St)(S:Addr)(hSf:S∉fp)(val:Nat->Str)(hval:∀i v,P i v->∃t,v=.str (val i) t)(hb:n+1 < scanBound):
  ∀(j i:Nat)(s:Shared),n - i=j->i<=n->St i s->SetL prog w s.heap S (met val i) L->
   (∀s',Moved (S::wr) GG s s'->SetL prog w s'.heap S (met val n) L->R (.ok (.ret .none)) s')->
   codeAny (model prog w) A (.builtin "set.update.loop" ⟨[.ref S,.ref I],[]⟩) R s:=by
 have hSw:S∉wr:=λh=>hSf (W.sub _ h);have sub:∀b∈wr,b∈S::wr:=λb hb=>aT _ hb;have keepS:∀{s s':Shared}{ks:List Str},Moved wr GG s s'->SetL prog w s.heap S ks L->SetL prog w s'.heap S ks L:=λm hS=>by
  obtain ⟨es,ep,t,ho,r⟩:=hS;exact ⟨es,ep,t,m.heap S _ hSw ho,r⟩
 intro j;induction j with
 |zero=>
  intro i s hj hi st hS hR;obtain rfl:i=n:=by omega
  refine fT PyProof.Rows.F.entry_set_update_loop ?_;rw[fv fm _];show wpAny _ A.in1 (pyNext (.ref I) >>= _) _ _ s;refine ae (W.done s _ _ st λs' m=>?_);show wpAny _ A.in1 (ret Value.none) _ _ s';exact am (hR s' (m.mono sub) (keepS m hS))
 |succ j ih=>
  intro i s hj hi st hS hR;have hlt:i < n:=by omega
  refine fT PyProof.Rows.F.entry_set_update_loop ?_;rw[fv fm _];show wpAny _ A.in1 (pyNext (.ref I) >>= _) _ _ s;refine ae (W.item i s _ _ hlt st λv s' hP st' m=>?_);obtain ⟨t,rfl⟩:=hval i v hP;have hS':=keepS m hS;show wpAny _ A.in1 (holding [Value.str (val i) t] (setAdd S (.str (val i) t)) >>= _) _ _ s';refine ae (cf ?_);unfold setAdd;refine cf ?_;refine ae ((strKind prog w).pyHash (k:=val i) (strKind_is prog w _ _) ?_);have hroom:(met val i).length+1 < scanBound:=by have:=wU val i;omega
  refine Q0 (s:={ s' with toks:=s'.toks+1 }) hS' hroom λh' b sb hS2=>?_;rw[<-qH]at hS2;refine am ⟨plainId_quiet fm _,ih (i+1) _ (by omega) hlt (W.frame _ s' _ _ st' (c8 _) λb hb o e=>?_) hS2 λs'' m'' hS''=>?_⟩
  ·rw[sb.2 b (λh:b=S=>hSf (by rw[<-h];exact hb))];exact e
  ·refine hR s'' (Moved.trans W.gtrans ((m.mono sub).then_heap (c8 _) λb o hb e=>?_) m'') hS'';rw[sb.2 b (λh:b=S=>hb (by rw[h];exact aS))];exact e
end
section
variable {prog:Program} {w:World} {A:Around} {E:Value->Shared->Prop} {s:Shared}
def di (w:World):Obj:={ cls:=.type "set",dict:=none,data:=.set #[] 0 (.fresh 0 0 (!bL w)) }
theorem Q5(a:Value){Q₁:Value->Shared->Prop}(h:Q₁ (.ref s.heap.objs.size) { s with heap:=s.heap.push (di w) }):
  codeAny (model prog w) A (.call (.builtin "set.__new__") ⟨[.type "set",a],[]⟩) (wants Q₁ E) s:=by
 refine codeAny_of_tree ?_;show wpAny _ A.in1 (do checkBuiltinCall "set.__new__" ⟨[.type "set",a],[]⟩;again (.builtin "set.__new__" ⟨[.type "set",a],[]⟩)) _ _ s;refine ae (wpAny_of_eq (PySem.F.newCall_set_1 a) (am ⟨plainId_quiet PySem.F.plain_set_new _,fT PySem.F.entry_set_new ?_⟩));rw[fv PySem.F.plain_set_new _];unfold Builtin.«set.__new__» Builtin.Frozenset.newClass;have hsub:=sub_set_self;obtain ⟨hp,g,d,tk,os⟩:=s;dsimp only;wp_walk
 refine wpAny_askSetting (am ?_);dsimp only;simp only[newObj];refine ae (wpAny_alloc (am ?_));exact am h
theorem Q6{l:Addr}{items:Array Value}{val:Nat->Str}{Q:Value->Shared->Prop}(hh:A.handled=none)(hl:s.heap.IsList l items)(hv:∀(i:Nat)(v:Value),items[i]?=some v->∃t,v=Value.str (val i) t)(hb:items.size+1 < scanBound)
  (h:∀(h':Heap)(tk:Nat),SetL prog w h' s.heap.objs.size (met val items.size) (!bL w)->(∀b o,b < s.heap.objs.size->s.heap.get? b=some o->h'.get? b=some o)->Q (.ref s.heap.objs.size) { s with heap:=h',toks:=tk }):
  wpAny (model prog w) A (call (.type "set") [.ref l]) Q E s:=by
 obtain ⟨c,tl,hmro⟩:=dA.mro;have hmade:=dA.made;have hsub:=dA.sub;refine wpAny_call (codeAny_of_tree ?_);show wpAny _ _ (callAny (.type "set") _) _ _ _;refine am ⟨Code.quiet_builtin _ (by ac_rfl),fT PySem.F.entry_type_call ?_⟩;rw[Around.under_plain (weight_type_call_type "set" [.ref l] []) rfl];have h1:=dA.notType;have h2:=dA.canCreate;have hct:=PySem.F.typeCall_set_1 (.ref l);repeat (any_goals (first |assumption |wp_step))
 refine codeAny_mono (Q5 (.ref l) (E:=E) (Q₁:=λobj s₁=>obj=.ref s.heap.objs.size/\s₁={ s with heap:=s.heap.push (di w) }) ⟨rfl,rfl⟩) λr s₁ hr=>?_;cases r with
 |error e=>exact hr
 |ok fl=>
  cases fl with
  |ret obj=>
   obtain ⟨rfl,rfl⟩:=hr;have hS:(s.heap.push (di w)).get? s.heap.objs.size=some (di w):=ay _ rfl;have hT:Shared.TypeIs { s with heap:=s.heap.push (di w) } (.ref s.heap.objs.size) "set":=⟨_,hS,rfl⟩;have hli:=dA.init.lookup;have hbi:=dA.init.bind (.ref s.heap.objs.size);repeat (any_goals (first |assumption |wp_step))
   refine codeAny_mono (codeAny_call_builtin (R:=wants (λr s₂=>r=.none/\∃h' tk,s₂={ s with heap:=h',toks:=tk }/\SetL prog w h' s.heap.objs.size (met val items.size) (!bL w)/\
     (∀b o,b < s.heap.objs.size->s.heap.get? b=some o->h'.get? b=some o)) E) dA.init.plain PySem.F.entry_set_init (check_set_init_1 hT ?_)) λr₂ s₂ hr₂=>?_
   ·obtain ⟨ol,hol,hcl,nl,hdl⟩:=hl;obtain ⟨ocls,odict,odata,oslots⟩:=ol;simp only at hcl hdl;subst hcl;subst hdl;have hol':(s.heap.push (di w)).get? l=some { cls:=.type "list",dict:=odict,data:=.seq items nl,slots:=oslots }:=al _ hol;have hsls:=PySem.F.sub_list_set;have hslf:=PySem.F.sub_list_frozenset;have hne:(Value.type "list"==Value.type "dict")=false:=by decide
    have hl1:(s.heap.push (di w)).IsList l items:=⟨_,hol',rfl,nl,rfl⟩;unfold Builtin.«set.__init__» noKeywords Builtin.Frozenset.updateFrom;generalize hPI:pyIter=PI;unfold di at hS;wp_walk
    subst hPI;refine wpAny_pyIter_list hl1 ?_;refine ae (wpAny_runValue ?_);have hlS:l < s.heap.objs.size:=aw hol;have hh3:A.in1.in1.in1.handled=none:=by simp[hh]
    have hneI:l≠(s.heap.push (di w)).objs.size:=by rw[br];exact bv (dk hlS)
    have hSf:s.heap.objs.size∉[(s.heap.push (di w)).objs.size,l]:=by rw[br];simp only[ba,bd,dE,or_false,not_or];exact ⟨bv (eR _),dL hlS⟩
    refine Q4 (L:=!bL w) ((Walks.list hh3 _ l hneI items).toS) s.heap.objs.size
     hSf val hv hb (items.size - 0) 0 _ (by omega) (e8 _)
     ⟨⟨_,ay _ rfl,rfl,rfl⟩,(hl1.push _)⟩ ?hS0 ?hR
    case hS0=>
     have hget:=al { cls:=.type "list_iterator",data:=.fields #[.ref l,.int 0 0] } hS;exact ⟨#[],0,.fresh 0 0 (!bL w),hget,λe he=>(nomatch he),eW _,by unfold scanBound;exact Nat.zero_lt_succ _,(by cases (!bL w) <;> rfl),rfl,λ_=>rfl⟩
    case hR=>
     intro s' hm hS';obtain ⟨h',g',d',tk',os'⟩:=s';have eg:g'=s.gens:=hm.gens;have ed:d'=s.drawn:=hm.drawn;have eo:os'=s.os:=hm.os;subst eg;subst ed;subst eo;show wpAny _ _ _ _ _ _;refine am ?_;show wpAny _ _ (ret Value.none) _ _ _;refine am ⟨rfl,h',tk',rfl,hS',λb o hb e=>?_⟩;have hb1:b≠s.heap.objs.size:=bv hb;have hb2:b≠(s.heap.push (di w)).objs.size:=by rw[br];exact bv (dk hb)
     exact hm.heap b o (by simp only[ba,bd,dE,or_false,not_or];exact ⟨hb1,hb2⟩) (al _ (al _ e))
   ·cases r₂ with
    |error e=>exact hr₂
    |ok fl₂=>
     cases fl₂ with
     |ret r=>
      obtain ⟨rfl,h',tk,rfl,hS',hk'⟩:=hr₂;repeat (any_goals (first |assumption |wp_step))
      exact h _ _ hS' hk'
     |_=>exact hr₂.elim
  |_=>exact hr.elim
end
theorem wV:Slot "set" "__iter__" "set.__iter__":=
 .of (owner:="set") (n:="__iter__") (by rw[typeLookup_type,builtinLookup_eq_fast];rfl') (by ac_rfl) (by ac_rfl) (by ac_rfl)
  (by first |exact .inl (by ac_rfl) |exact .inr (by ac_rfl)) (by rw[isSubtype_type];rfl')
theorem jd:Slot "set_iterator" "__next__" "set_iterator.__next__":=
 .of (owner:="set_iterator") (n:="__next__") (by rw[typeLookup_type,builtinLookup_eq_fast];rfl') (by ac_rfl) (by ac_rfl) (by ac_rfl)
  (by first |exact .inl (by ac_rfl) |exact .inr (by ac_rfl)) (by rw[isSubtype_type];rfl')
theorem wW:Slot "set_iterator" "__iter__" "set_iterator.__iter__":=
 .of (owner:="set_iterator") (n:="__iter__") (by rw[typeLookup_type,builtinLookup_eq_fast];rfl') (by ac_rfl) (by ac_rfl) (by ac_rfl)
  (by first |exact .inl (by ac_rfl) |exact .inr (by ac_rfl)) (by rw[isSubtype_type];rfl')
theorem Q7:entryFor table "set.__iter__"=some Builtin.«frozenset.__iter__»:=
 entryFor_alias (id':="frozenset.__iter__") (by rfl') rfl (by ac_rfl) (by rfl')
theorem Q8:entryFor table "set_iterator.__next__"=some Builtin.«set_iterator.__next__»:=entryFor_of_fast (by rfl')
theorem Q9:entryFor table "set_iterator.__iter__"=some Builtin.«dict_keyiterator.__iter__»:=
 entryFor_alias (id':="dict_keyiterator.__iter__") (by rfl') rfl (by ac_rfl) (by rfl')
theorem Ra (a:Value):argsOk "set.__iter__" ⟨[a],[]⟩:=by unfold argsOk;rfl'
theorem Rb (a:Value):argsOk "set_iterator.__next__" ⟨[a],[]⟩:=by unfold argsOk;rfl'
theorem Rc (a:Value):argsOk "set_iterator.__iter__" ⟨[a],[]⟩:=by unfold argsOk;rfl'
noncomputable def siO (f:Value) (i:Nat) (S:Addr) (n ep:Nat):Obj:={ cls:=.type "set_iterator",data:=.fields #[f,rawInt i,.ref S,rawInt n,rawInt ep] }
def cU (es:Array (Int×Value)) (ep:Nat) (t:SetTable):Obj:=⟨.type "set",none,.set es ep t,#[]⟩
section
variable {prog:Program} {w:World} {A:Around} {E:Value->Shared->Prop} {s:Shared} {I S T:Addr} {es:Array (Int×Value)} {ep:Nat} {t:SetTable}
theorem ite_no{α:Type}{c:Prop}[Decidable c]{a b:Sem α}{Q:α->Shared->Prop}(hc:¬c)(h:wpAny (model prog w) A b Q E s):wpAny (model prog w) A (if c then a else b) Q E s:=by rw[if_neg hc];exact h
theorem ite_yes{α:Type}{c:Prop}[Decidable c]{a b:Sem α}{Q:α->Shared->Prop}(hc:c)(h:wpAny (model prog w) A a Q E s):wpAny (model prog w) A (if c then a else b) Q E s:=by rw[if_pos hc];exact h
theorem wX{f:Value}{i n:Nat}{Q:Value->Shared->Prop}(hi:s.heap.get? I=some (siO f i S n ep))(h:Q (.ref I) s):wpAny (model prog w) A (pyIter (.ref I)) Q E s:=by have hT:s.TypeIs (.ref I) "set_iterator":=⟨_,hi,rfl⟩;refine wpAny_pyIter_slot hT wW (dQ wW hT Q9 ?_ (Rc _));show wpAny _ _ (ret (.ref I)) _ _ s;exact am ⟨_,rfl,"set_iterator",_,hT,jd.lookup,h⟩
theorem lH{f:Value}{i:Nat}{Q:Option Value->Shared->Prop}(hi:s.heap.get? I=some (siO f i S es.size ep))(ho:s.heap.get? S=some (cU es ep t))(hf:t.fits es.size=true)
  (h:wpAny (model prog w) A.in1 (if let .int slot _:=f then do
   match <-setNext S slot.toNat i ep with
   |some (x,next)=>
    setField (.ref I) 0 (rawInt next)
    setField (.ref I) 1 (rawInt ((i:Int)+1))
    ret x
   |none=>setField (.ref I) 2 .none;raiseNew (<-newExc (.type "StopIteration") [])
   else do
   let some places <-seqItems? f |unsupported "internal:set_iterator"
   match places[i]? with
   |some (.int place _)=>
    let x <-setNextDrawn S place.toNat ep
    setField (.ref I) 1 (rawInt ((i:Int)+1))
    ret x
   |some _=>unsupported "internal:set_iterator"
   |none=>setField (.ref I) 0 (rawInt 0);setField (.ref I) 2 .none;raiseNew (<-newExc (.type "StopIteration") [])) (λfin s'=>∃v,fin=.done (.ret v)/\Q (some v) s') (λe s'=>s'.TypeIs e "StopIteration"/\Q none s') s):
  wpAny (model prog w) A (pyNext (.ref I)) Q E s:=by
 have hT:s.TypeIs (.ref I) "set_iterator":=⟨_,hi,rfl⟩;unfold pyNext;refine ae (wpAny_attempt (ei (name:=Str.ofString "__next__") hT jd
  (dQ jd hT Q8 ?_ (Rb _))))
 unfold Builtin.«set_iterator.__next__»;refine ae (am ?_);refine ae (wpAny_fieldsOf hi rfl ?_);dsimp only[siO,rawInt];refine ae (wpAny_setEntries_of ho rfl hf ?_);refine ite_no (by simp) ?_;refine b9 h (λfin s' z=>?_) λe s' z=>?_
 ·obtain ⟨v,rfl,q⟩:=z;exact ⟨v,rfl,am q⟩
 ·exact ae (wpAny_isInstance z.1 isSubtype_stop (am z.2))
theorem wY {Q:Fin->Shared->Prop} {E':Value->Shared->Prop} (hh:A.handled=none) (h:∀e s',s'.TypeIs e "StopIteration"->(∀b o,s.heap.get? b=some o->s'.heap.get? b=some o)->s'={ s with heap:=s'.heap }->E' e s'):
  wpAny (model prog w) A (do raiseNew (<-newExc (.type "StopIteration") [])) Q E' s:=by
 refine ae ?_;simp only[newExc,newTuple];refine ae (eh ?_ (by size_fits));refine ae (m:=firstArgMember _ _) (wpAny_of_eq (a:=Value.none) (by first |rfl | (simp only[firstArgMember];rfl)) ?_);refine eh ?_ (by size_fits);simp only[raiseNew];refine ae (wpAny_handled ?_);rw[hh];refine ae (am (wpAny_throw ?_));exact h _ _ ⟨_,ay _ rfl,rfl⟩ (λb o e=>al _ (al _ e)) rfl
theorem lJ{f:Value}{i n:Nat}{h:Heap}{k:Nat}{v:Value}(hi:h.get? I=some (siO f i S n ep)):
  (h.update I (Obj.mapFields (·.setIfInBounds k v))).get? I=some { cls:=.type "set_iterator",data:=.fields (#[f,rawInt i,.ref S,rawInt n,rawInt ep].setIfInBounds k v) }:=by
 have:=eL (Obj.mapFields (·.setIfInBounds k v)) hi (Obj.isFreed_of_fields (Obj.data_mapFields rfl _));exact this
theorem Rf(hh:A.handled=none)(hne:S≠I)(hf:t.fits es.size=true)(slot:Nat->Nat)(ord:Nat->Value)
  (hn:∀(i:Nat)(s:Shared)(Q:Option (Value×Nat)->Shared->Prop)(E:Value->Shared->Prop),i < es.size->s.heap.get? S=some (cU es ep t)->Q (some (ord i,slot (i+1))) s->wpAny (model prog w) A.in1 (setNext S (slot i) i ep) Q E s)
  (he:∀(s:Shared)(Q:Option (Value×Nat)->Shared->Prop)(E:Value->Shared->Prop),s.heap.get? S=some (cU es ep t)->Q none s->wpAny (model prog w) A.in1 (setNext S (slot es.size) es.size ep) Q E s):
  Walks prog w A I [I,S] [I] es.size (λi v=>v=ord i) (λi h=>h.get? I=some (siO (rawInt (slot i)) i S es.size ep)/\h.get? S=some (cU es ep t)) where
 sub:=λb hb=>by simp at hb;simp[hb]
 frame:=λ_ _ _ st hk=>⟨hk I (by simp) _ st.1,hk S (by simp) _ st.2⟩
 item:=λi s Q E hi st hQ=>by
  refine lH st.1 st.2 hf ?_;refine ae (hn i s _ _ hi st.2 ?_);dsimp only;refine ae (e9 st.1 rfl (by simp) ?_);have g1:=lJ (k:=0) (v:=rawInt (slot (i+1))) st.1;have g1':(s.heap.update I (Obj.mapFields (·.setIfInBounds 0 (rawInt (slot (i+1)))))).get? I=some (siO (rawInt (slot (i+1))) i S es.size ep):=g1;refine ae (e9 g1' rfl (by simp) ?_);have g2:=lJ (k:=1) (v:=rawInt ((i:Int)+1)) g1';refine am ⟨_,rfl,hQ _ _ s.toks rfl ⟨g2,?_⟩ λb o hb e=>?_⟩
  ·exact (bq ..).extBut _ _ hne ((bq ..).extBut _ _ hne st.2)
  ·have hb':b≠I:=λz=>hb (by simp[z]);exact (bq ..).extBut _ _ hb' ((bq ..).extBut _ _ hb' e)
 done:=λs Q E st hQ=>by
  refine lH st.1 st.2 hf ?_;refine ae (he s _ _ st.2 ?_);dsimp only;refine ae (e9 st.1 rfl (by simp) ?_);refine wY (by simpa using hh) λe s' hT hk es'=>⟨hT,?_⟩;rw[es'];refine hQ _ s.toks λb o hb e=>?_;have hb':b≠I:=λz=>hb (by simp[z]);exact hk _ _ ((bq ..).extBut _ _ hb' e)
 self:=λ_ _ _ _ st hQ=>wX st.1 hQ
theorem Rg(hh:A.handled=none)(hne:S≠I)(hTI:T≠I)(hf:t.fits es.size=true)(ps:List Nat)(hl:ps.length=es.size)(ord:Nat->Int×Value)(ho:∀i p,ps[i]?=some p->es[p]?=some (ord i)):
  Walks prog w A I [I,S,T] [I] es.size (λi v=>v=(ord i).2) (λi h=>h.get? I=some (siO (.ref T) i S es.size ep)/\h.get? S=some (cU es ep t)/\h.get? T=some { cls:=.type "tuple",data:=.seq (ps.map λ(i:Nat)=>rawInt i).toArray }) where
 sub:=λb hb=>by simp at hb;simp[hb]
 frame:=λ_ _ _ st hk=>⟨hk I (by simp) _ st.1,hk S (by simp) _ st.2.1,hk T (by simp) _ st.2.2⟩
 item:=λi s Q E hi st hQ=>by
  refine lH st.1 st.2.1 hf ?_;have hp:ps[i]?=some (ps[i]'(by omega)):=a8 _;generalize ps[i]'(by omega)=p at hp;refine ae (dy st.2.2 rfl ?_);dsimp only;have e1:(ps.map λ(i:Nat)=>rawInt i).toArray[i]?=some (rawInt (p:Nat)):=by rw[ge,bP,hp];rfl
  rw[e1];dsimp only[rawInt];refine ae ?_;unfold setNextDrawn;refine ae (d6 st.2.1 rfl hf ?_);dsimp only;refine ite_no (by simp) ?_;rw[show ((p:Nat):Int).toNat=p from rfl,ho i p hp];refine am ?_;refine ae (e9 st.1 rfl (by simp) ?_);have g2:=lJ (k:=1) (v:=rawInt ((i:Int)+1)) st.1;refine am ⟨_,rfl,hQ _ _ s.toks rfl ⟨g2,(bq ..).extBut _ _ hne st.2.1,(bq ..).extBut _ _ hTI st.2.2⟩ λb o hb e=>?_⟩;exact (bq ..).extBut _ _ (λz=>hb (by simp[z])) e
 done:=λs Q E st hQ=>by
  refine lH st.1 st.2.1 hf ?_;refine ae (dy st.2.2 rfl ?_);dsimp only;have e1:(ps.map λ(i:Nat)=>rawInt i).toArray[es.size]?=none:=by rw[ge,bP,List.getElem?_eq_none (by omega)];rfl
  rw[e1];dsimp only;refine ae (e9 st.1 rfl (by simp) ?_);have g1:(s.heap.update I (Obj.mapFields (·.setIfInBounds 0 (rawInt 0)))).get? I=some (siO (rawInt 0) es.size S es.size ep):=lJ (k:=0) (v:=rawInt 0) st.1;refine ae (e9 g1 rfl (by simp) ?_);refine wY (by simpa using hh) λe s' hT hk es'=>⟨hT,?_⟩;rw[es'];refine hQ _ s.toks λb o hb e=>?_;have hb':b≠I:=λz=>hb (by simp[z]);exact hk _ _ ((bq ..).extBut _ _ hb' ((bq ..).extBut _ _ hb' e))
 self:=λ_ _ _ _ st hQ=>wX st.1 hQ
end
theorem qI{α:Type}:∀{l:List α}{i:Nat}(h:i < l.length),(l[i]::l.eraseIdx i).Perm l
 |x::l,0,_=>eW _
 |x::l,i+1,h=>(List.Perm.swap _ _ _).trans ((qI (l:=l) (i:=i) (Nat.lt_of_succ_lt_succ h)).cons x)
theorem wZ{α:Type}(next:Nat->Nat):∀(fuel k:Nat)(left:List α)(out:Array α),left.length=fuel->(pickOrder.go next fuel k left out).toList.Perm (out.toList++left)
 |0,k,left,out,h=>by
  have:left=[]:=ce.mp h;subst this;unfold pickOrder.go;rw[fe]
 |fuel+1,k,left,out,h=>by
  have hp:0 < left.length:=by omega
  have hlt:next k % left.length < left.length:=Nat.mod_lt _ hp;unfold pickOrder.go;rw[a8 hlt];dsimp only;refine (wZ next fuel (k+1) _ _ (by rw[List.length_eraseIdx_of_lt hlt];omega)).trans ?_;rw[Array.toList_push,List.append_assoc];exact (qI hlt).append_left _
theorem Rh{α:Type}(next:Nat->Nat)(xs:Array α):(pickOrder next xs).toList.Perm xs.toList:=by have:=wZ next xs.size 0 xs.toList #[] (by simp);exact this
section
variable {prog:Program} {w:World} {A:Around} {E:Value->Shared->Prop} {s:Shared} {I S T:Addr} {es:Array (Int×Value)} {ep:Nat} {t:SetTable}
theorem Ri{src:Source}{n:Nat}{Q:Nat->Shared->Prop}(h0:n≠0)(h:∀k,k < n->∀d,Q k { s with drawn:=d }):wpAny (model prog w) A (choose src n) Q E s:=λ_ _ _=>by
 unfold choose;rw[Sem.wp_choose];exact ⟨h0,by first |exact h _ (Nat.mod_lt _ (Nat.pos_of_ne_zero h0)) _ | (rw[Sem.wp_pure'];exact h _ (Nat.mod_lt _ (Nat.pos_of_ne_zero h0)) _)⟩
theorem w5{α:Type}:∀(n:Nat)(xs:List α){s:Shared}{Q:List α->Shared->Prop},xs.length=n->(∀ys d,ys.Perm xs->Q ys { s with drawn:=d })->wpAny (model prog w) A (drawOrder n xs) Q E s
 |0,xs,s,Q,e,h=>by
  have:xs=[]:=ce.mp e;subst this;unfold drawOrder;exact am (h [] s.drawn (eW _))
 |n+1,x::xs,s,Q,e,h=>by
  unfold drawOrder;refine ae (Ri (by simp) λk hk d=>?_);rw[a8 hk];dsimp only;refine ae (w5 n _ (by rw[List.length_eraseIdx_of_lt hk];simp only[fi]at e ⊢;omega) λys d' hp=>am ?_);exact h _ d' ((hp.cons _).trans (qI hk))
theorem lK{Q:Bool->Shared->Prop}(h:Q (bL w) s):wpAny (model prog w) A setsByText Q E s:=by unfold setsByText;exact ae (wpAny_askSetting (am h))
theorem xf(hb:bL w=true)(hf:t.fits es.size=true){i k:Nat}{Q:Option (Value×Nat)->Shared->Prop}(ho:s.heap.get? S=some (cU es ep t))
  (h:Q (((pickOrder (w.params.setOrder S ep) es)[i]?).map λe=>(e.2,k)) s):wpAny (model prog w) A (setNext S k i ep) Q E s:=by
 unfold setNext;refine ae (d6 ho rfl hf ?_);dsimp only;refine ae (lK ?_);refine ite_yes hb ?_;refine ite_no (by simp) ?_;refine ae ?_;unfold setWalk;refine ae (d6 ho rfl hf ?_);dsimp only;refine ae (lK ?_);refine ite_yes hb ?_;refine ae (wpAny_askSetting (am ?_));exact am h
theorem qJ(hb:bL w=false)(hf:t.fits es.size=true)(hL:t.led=true)(h1:es.size<=1){i k:Nat}{Q:Option (Value×Nat)->Shared->Prop}(ho:s.heap.get? S=some (cU es ep t))
  (h:Q (match es[SetTable.below t.place k]?,t.place[SetTable.below t.place k]? with
  |some (_,x),some j=>some (x,j+1)
  |_,_=>none) s):wpAny (model prog w) A (setNext S k i ep) Q E s:=by
 unfold setNext;refine ae (d6 ho rfl hf ?_);dsimp only;refine ae (lK ?_);refine ite_no (by rw[hb];exact bo) ?_;refine ite_no (show ¬(!t.plain&&decide (es.size > 1))=true from by rw[ck (by omega),fS];exact bo) ?_;refine ae ?_;refine ite_no (show ¬(!t.led&&!es.isEmpty)=true from by rw[hL];exact bo) ?_;exact am (am h)
theorem Rj(h:t.fits es.size=true):t.place.size=es.size:=by unfold SetTable.fits at h;simp only[ah,aE]at h;exact h.1
theorem xg{α:Type}(d:α)(xs:List α):(List.range xs.length).map (λi=>xs[i]?.getD d)=xs:=by refine List.ext_getElem (by simp) λi h1 h2=>?_;rw[List.getElem_map,List.getElem_range,a8 h2];rfl
theorem xj(po:Array (Int×Value))(hp:po.toList.Perm es.toList)(ps:List Nat)(hps:ps.Perm (List.range es.size)):(ps.map λi=>(po[i]?.getD (0,.none)).2).Perm (es.toList.map (·.2)):=by
 refine (hps.map _).trans ?_;have e:es.size=po.toList.length:=by rw[hp.length_eq,b6]
 rw[e];have:=c6 (List.map (·.2)) (xg (0,Value.none) po.toList);rw[dP]at this;have e2:(List.range po.toList.length).map (λi=>(po[i]?.getD (0,Value.none)).2)=po.toList.map (·.2):=by rw[<-this];refine List.map_congr_left λi _=>?_;show _=(po.toList[i]?.getD (0,Value.none)).2;rw[ej]
 rw[e2];exact hp.map _
def xm(es:Array (Int×Value))(n:Nat)(ord:Nat->Value):Prop:=n=es.size/\((List.range n).map ord).Perm (es.toList.map (·.2))
theorem Rk(hh:A.handled=none){L:Bool}(hL:L=!bL w){Q:Value->Shared->Prop}(ho:s.heap.get? S=some (cU es ep t))(hf:t.fits es.size=true)(hl:t.led=L)(hpl:t.plain=true->es.size=0)(hz:es.size<=sizeLine)
  (h:∀(h':Heap) d I fp (ord:Nat->Value) (St:Nat->Heap->Prop),(∀b o,s.heap.get? b=some o->h'.get? b=some o)->xm es es.size ord->Walks prog w A I fp [I] es.size (λi v=>v=ord i) St->St 0 h'->(∀b∈fp,b < h'.objs.size)->I∈fp->s.heap.objs.size<=I->(∀b∈fp,b=S\/s.heap.objs.size<=b)->Q (.ref I) { s with heap:=h',drawn:=d }):
  wpAny (model prog w) A (pyIter (.ref S)) Q E s:=by
 have hT:s.TypeIs (.ref S) "set":=⟨_,ho,rfl⟩;have hS:S < s.heap.objs.size:=aw ho;refine wpAny_pyIter_slot hT wV (dQ wV hT Q7 ?_ (Ra _));unfold Builtin.«frozenset.__iter__» Builtin.Frozenset.slot0;refine ae (am ?_);unfold Builtin.Frozenset.sizeOf;refine ae (ae (wpAny_setEntries_of ho rfl hf (am ?_)));refine ae ?_;unfold setDrawn;refine ae (d6 ho rfl hf ?_);dsimp only;refine ae (lK (am ?_));by_cases hd:bL w=false/\1 < es.size
 ·have hp:t.plain=false:=by cases hp:t.plain with |false=>rfl |true=>have:=hpl hp;omega
  refine ite_yes (show (!bL w&&(!t.plain&&decide (es.size > 1)))=true from by rw[hd.1,hp,eP hd.2];rfl) ?_;refine ae (w5 es.size (List.range es.size) fR λps d hps=>?_);have hlen:ps.length=es.size:=by rw[hps.length_eq,fR]
  refine ae (wpAny_newTuple ?_ (by rw[ax,hlen];exact hz));unfold setEpoch;have ho1:=al { cls:=.type "tuple",data:=.seq (ps.map λ(i:Nat)=>rawInt i).toArray } ho;refine ae (ae (d6 (s:={ s with drawn:=d,heap:=_ }) ho1 rfl hf (am ?_)));refine ae (eh (am ⟨_,rfl,"set_iterator",_,⟨_,ay _ rfl,rfl⟩,jd.lookup,?_⟩));have hlt:∀(i p:Nat),ps[i]?=some p->p < es.size:=λi p e=>List.mem_range.mp (hps.mem_iff.mp (cw e));refine h _ d _ _ (λi=>((ps[i]?.bind λp=>es[p]?).getD (0,.none)).2) _ (λb o e=>al _ (al _ e)) ⟨rfl,?_⟩ (Rg (T:=s.heap.objs.size) hh ?_ ?_ hf ps hlen (λi=>(ps[i]?.bind λp=>es[p]?).getD (0,.none)) ?_) ⟨ay _ rfl,al _ ho1,al _ (ay _ rfl)⟩ ?_ ?_ ?_ ?_
  ·have e:=xj es (eW _) ps hps;refine List.Perm.trans (List.Perm.of_eq ?_) e;have e3:(List.range es.size).map (λi=>ps[i]?.getD 0)=ps:=by rw[<-hlen];exact xg 0 ps
   conv=>rhs;rw[<-e3]
   rw[dP];refine List.map_congr_left λi hi=>?_;have hi':i < ps.length:=by rw[hlen];exact List.mem_range.mp hi
   show ((ps[i]?.bind λp=>es[p]?).getD (0,Value.none)).2=(es[ps[i]?.getD 0]?.getD (0,Value.none)).2;rw[a8 hi'];rfl
  ·rw[br];exact bv (dk hS)
  ·rw[br];exact bv (eR _)
  ·intro i p e;rw[e];show es[p]?=some (es[p]?.getD (0,.none));rw[eA (hlt i p e)];rfl
  ·intro b hb;rw[br,br];simp only[ba,dE,or_false,br]at hb;rcases hb with rfl |rfl |rfl
   ·exact eR _
   ·exact dk (dk hS)
   ·exact dk (eR _)
  ·simp
  ·rw[br];exact c8 _
  ·intro b hb;simp only[ba,dE,or_false,br]at hb;rcases hb with rfl |rfl |rfl
   ·exact .inr (c8 _)
   ·exact .inl rfl
   ·exact .inr (av _)
 ·refine ite_no (show ¬(!bL w&&(!t.plain&&decide (es.size > 1)))=true from ?_) ?_
  ·cases hb:bL w with
   |true=>exact bo
   |false=>rw[ck (λz=>hd ⟨hb,z⟩),fS];exact bo
  refine ae (am ?_);unfold setEpoch;refine ae (ae (d6 ho rfl hf (am ?_)));refine ae (eh (am ⟨_,rfl,"set_iterator",_,⟨_,ay _ rfl,rfl⟩,jd.lookup,?_⟩));have key:∃(slot:Nat->Nat)(ord:Nat->Value),slot 0=0/\xm es es.size ord/\
    (∀(i:Nat)(s:Shared)(Q:Option (Value×Nat)->Shared->Prop)(E:Value->Shared->Prop),i < es.size->s.heap.get? S=some (cU es ep t)->Q (some (ord i,slot (i+1))) s->wpAny (model prog w) A.in1 (setNext S (slot i) i ep) Q E s)/\
    (∀(s:Shared)(Q:Option (Value×Nat)->Shared->Prop)(E:Value->Shared->Prop),s.heap.get? S=some (cU es ep t)->Q none s->wpAny (model prog w) A.in1 (setNext S (slot es.size) es.size ep) Q E s):=by
   cases hb:bL w with
   |true=>
    have pp:=Rh (w.params.setOrder S ep) es;have pl:(pickOrder (w.params.setOrder S ep) es).size=es.size:=by rw[<-b6,pp.length_eq,b6]
    generalize hpo:pickOrder (w.params.setOrder S ep) es=po at pp pl;refine ⟨λ_=>0,λi=>(po[i]?.getD (0,.none)).2,rfl,⟨rfl,?_⟩,λi s Q E hi ho hq=>xf hb hf ho ?_,λs Q E ho hq=>xf hb hf ho ?_⟩
    ·exact xj po pp _ (eW _)
    ·rw[hpo,eA (by omega)];have:po[i]?.getD (0,.none)=po[i]'(by omega):=by rw[eA (by omega)];rfl
     have hq':Q (some ((po[i]?.getD (0,.none)).2,0)) s:=hq;rw[this]at hq';exact hq'
    ·rw[hpo,Array.getElem?_eq_none (by omega)];exact hq
   |false=>
    have h1:es.size<=1:=Nat.not_lt.mp λz=>hd ⟨hb,z⟩;have hlt:t.led=true:=by rw[hl,hL,hb];rfl
    have fl:=Rj hf;generalize hpc:t.place=pc at fl;rcases Nat.lt_or_ge es.size 1 with h0 |h0
    ·have e0:es=#[]:=Array.size_eq_zero_iff.mp (by omega);subst e0;refine ⟨λ_=>0,λ_=>.none,rfl,⟨rfl,eW _⟩,λi s Q E hi=>absurd hi (Nat.not_lt_zero i),λs Q E ho hq=>qJ hb hf hlt h1 ho ?_⟩;exact hq
    ·have e1:es.size=1:=by omega
     obtain ⟨e,rfl⟩:∃e,es=#[e]:=Array.size_eq_one_iff.mp e1;obtain ⟨j,rfl⟩:∃j,pc=#[j]:=Array.size_eq_one_iff.mp (by omega);have b0:SetTable.below #[j] 0=0:=by show SetTable.below.go #[j] 0 1 0 1=0;unfold SetTable.below.go;show (if j < 0 then SetTable.below.go #[j] 0 0 1 1 else SetTable.below.go #[j] 0 0 0 0)=0;rw[if_neg (Nat.not_lt_zero j)];rfl
     have b1:SetTable.below #[j] (j+1)=1:=by show SetTable.below.go #[j] (j+1) 1 0 1=1;unfold SetTable.below.go;show (if j < j+1 then SetTable.below.go #[j] (j+1) 0 1 1 else SetTable.below.go #[j] (j+1) 0 0 0)=1;rw[if_pos (eR j)];rfl
     refine ⟨λi=>match i with |0=>0 |_=>j+1,λ_=>e.2,rfl,⟨rfl,eW _⟩,λi s Q E hi ho hq=>qJ hb hf hlt h1 ho ?_,λs Q E ho hq=>qJ hb hf hlt h1 ho ?_⟩
     ·have hi0:i=0:=by simp at hi;exact hi
      subst hi0;rw[hpc];show Q (match #[e][SetTable.below #[j] 0]?,#[j][SetTable.below #[j] 0]? with |some (_,x),some j=>some (x,j+1) |_,_=>none) s;rw[b0];exact hq
     ·rw[hpc];show Q (match #[e][SetTable.below #[j] (j+1)]?,#[j][SetTable.below #[j] (j+1)]? with |some (_,x),some j=>some (x,j+1) |_,_=>none) s;rw[b1];exact hq
  obtain ⟨slot,ord,e0,od,k1,k2⟩:=key;refine h _ s.drawn _ _ ord _ (λb o e=>al _ e) od (Rf hh ?_ hf slot ord k1 k2) ⟨?_,al _ ho⟩ ?_ ?_ ?_ ?_
  ·exact bv hS
  ·rw[e0];exact ay _ rfl
  ·intro b hb;rw[br];simp only[ba,dE,or_false]at hb;rcases hb with rfl |rfl
   ·exact eR _
   ·exact dk hS
  ·simp
  ·exact av _
  ·intro b hb;simp only[ba,dE,or_false]at hb;rcases hb with rfl |rfl
   ·exact .inr (av _)
   ·exact .inl rfl
end
section
variable {prog:Program} {w:World} {A:Around} {E:Value->Shared->Prop} {s:Shared} {S:Addr} {es:Array (Int×Value)} {ep:Nat} {t:SetTable}
theorem Rm{Q:Bool->Shared->Prop}(ho:s.heap.get? S=some (cU es ep t))(h:Q false s):wpAny (model prog w) A (Builtin.List.listLengthHint (.ref S)) Q E s:=by
 have hT:s.TypeIs (.ref S) "set":=⟨_,ho,rfl⟩;unfold Builtin.List.listLengthHint;refine ae (wpAny_specialOf hT PySem.F.slot_set_len.lookup ?_)
 (generalize hid:("set.__len__":String)=id0;(fail_if_success (clear hid id0));wp_delta;rw[show splitId id0=some ("set","__len__") from by subst hid;ac_rfl];subst hid)
 refine ae (wpAny_isInstance (b:=true) hT (by rw[isSubtype_type];rfl') ?_);refine ae (wpAny_typeOf hT ?_);exact am h
theorem touch {L:Addr} {Q:Unit->Shared->Prop} (ho:s.heap.get? L=some { cls:=.type "list",dict:=none,data:=.seq #[] 0,slots:=#[] }) (h:∀h' c,h'.get? L=some { cls:=.type "list",dict:=none,data:=.seq #[] c,slots:=#[] }->(∀b o,b≠L->s.heap.get? b=some o->h'.get? b=some o)->h'.objs.size=s.heap.objs.size->Q () { s with heap:=h' }):
  wpAny (model prog w) A (Builtin.List.listTouch (.ref L)) Q E s:=by
 unfold Builtin.List.listTouch Builtin.List.listUpdate;refine ae (wpAny_updateSeq ho rfl ?_ (by size_fits) (by show 1<=sizeLine+1;omega));have g1:=eL (Obj.mapSeq (·.push Value.none)) ho (by rfl);refine wpAny_updateSeq (s:={ s with heap:=_ }) g1 rfl ?_ (by rw[er];decide) (by show 0<=sizeLine+1;omega);have g2:=eL (Obj.mapSeq (·.pop)) g1 (by rfl);refine h _ _ g2 (λb o hb e=>(bq ..).extBut _ _ hb ((bq ..).extBut _ _ hb e)) ?_;rw[Heap.size_update,Heap.size_update]
theorem Rn(hh:A.handled=none){L:Bool}(hL:L=!bL w){Q:List Value->Shared->Prop}(ho:s.heap.get? S=some (cU es ep t))(hf:t.fits es.size=true)(hl:t.led=L)(hpl:t.plain=true->es.size=0)(hz:es.size<=sizeLine)
  (h:∀h' d tk acc,(∀b o,s.heap.get? b=some o->h'.get? b=some o)->s.toks<=tk->acc.Perm (es.toList.map (·.2))->Q acc { s with heap:=h',drawn:=d,toks:=tk }):
  wpAny (model prog w) A (collect (.ref S)) Q E s:=by
 have hS:S < s.heap.objs.size:=aw ho;have hSI:s.heap.objs.size≠S:=dL hS;unfold collect;refine ae (wpAny_runValue (fT PySem.F.entry_proto_collect ?_));rw[fv PySem.F.plain_proto_collect _];show wpAny _ A.in1 (newList [] >>= λl=>again (.builtin "list.__iadd__" ⟨[l,.ref S],[]⟩)) _ _ s;refine ae (eh ?_);refine am ⟨plainId_quiet PySem.F.plain_list_iadd _,fT PySem.F.entry_list_iadd ?_⟩;rw[fv PySem.F.plain_list_iadd _];have hS₁:(s.heap.push { cls:=.type "list",data:=.seq ([]:List Value).toArray }).get? s.heap.objs.size=some { cls:=.type "list",data:=.seq ([]:List Value).toArray }:=ay _ rfl;have ho₁:=al { cls:=.type "list",data:=.seq ([]:List Value).toArray } ho;have hT₁:Shared.TypeIs { s with heap:=s.heap.push { cls:=.type "list",data:=.seq ([]:List Value).toArray } } (.ref S) "set":=⟨_,ho₁,rfl⟩;have h1:Builtin.List.listSameRef (.ref s.heap.objs.size) (.ref S)=false:=by simp[Builtin.List.listSameRef,hSI]
 show wpAny _ A.in1 (Builtin.List.listExtendWith (.ref s.heap.objs.size) (.ref S) (.ref s.heap.objs.size)) _ _ _;unfold Builtin.List.listExtendWith;refine ae (wpAny_typeOf hT₁ ?_);rw[if_neg (by rw[h1];decide)];refine ae (Rk (by simpa using hh) hL ho₁ hf hl hpl hz λh2 d I fp ord St k2 od W hst hfp hI hge hfo=>?_);refine ae (cf (Rm (k2 _ _ ho₁) ?_));have hLf:s.heap.objs.size∉fp:=λz=>by
  rcases hfo _ z with e |e
  ·exact hSI e
  ·rw[br]at e;exact cx _ e
 have hIL:I≠s.heap.objs.size:=λe=>hLf (e ▸ hI);refine ite_yes (by rfl) ?_;refine ae (gc ?_);refine ae (touch (k2 _ _ hS₁) λh3 c g3 k3 z3=>?_);have hst₃:=W.frame 0 _ h3 hst λb hb o e=>k3 b o (λz=>hLf (z ▸ hb)) e;refine am ⟨plainId_quiet PySem.F.plain_extend_loop _,codeAny_extend_loopS W.toS hz _ hLf _ es.size 0 _ _ _ rfl (e8 _) hst₃ g3 (ItemsOf.nil _) λs' acc' c' hm hS' hacc=>?_⟩;show wpAny _ A (load s.heap.objs.size >>= _) _ _ s';refine ae (wpAny_load hS' ?_);refine am ?_;obtain ⟨h',g',d',tk',os'⟩:=s';have eg:g'=s.gens:=hm.gens;have ed:d'=d:=hm.drawn;have eo:os'=s.os:=hm.os;subst eg;subst ed;subst eo;refine h h' d' tk' acc'.toList (λb o e=>?_) hm.toks ?_
 ·have hb:=aw e;have hb1:b≠s.heap.objs.size:=bv hb;have hb2:b≠I:=λz=>by rw[br]at hge;rw[z]at hb;exact cx _ (bb hb (Nat.le_of_succ_le hge))
  exact hm.heap b o (by simp only[ba,dE,or_false,not_or];exact ⟨hb1,hb2⟩) (k3 _ _ hb1 (k2 _ _ (al _ e)))
 ·refine List.Perm.trans (List.Perm.of_eq ?_) od.2;refine List.ext_getElem? λi=>?_;rw[bP,ej];rcases Nat.lt_or_ge i es.size with hi |hi
  ·rw[List.getElem?_range hi,eA (by rw[hacc.1];exact hi)];exact c6 some (hacc.2 i _ (eA (by rw[hacc.1];exact hi)))
  ·rw[List.getElem?_eq_none (by simpa using hi),Array.getElem?_eq_none (by rw[hacc.1];exact hi)];rfl
theorem Ro{ks:List Str}{Q:Value->Shared->Prop}(hh:A.handled=none)(hS:SetL prog w s.heap S ks (!bL w))(h64:ks.length < 64)
  (h:∀(h1 h':Heap) d tk e (out:Array Value) (ss':List Str),StrsAre out.toList ss'->ss'.Perm ks->sortedS ss'=true->(∀b o',s.heap.get? b=some o'->h1.get? b=some o')->(∀b o',h1.get? b=some o'->h'.get? b=some o')->s.toks<=tk->h'.get? h1.objs.size=some (seqObj "list" out e)->Q (.ref h1.objs.size) { s with heap:=h',drawn:=d,toks:=tk }):
  wpAny (model prog w) A (call (.builtin "sorted") [.ref S]) Q E s:=by
 obtain ⟨es,ep,t,ho,hel,hp,hb,hf,hl,hpl⟩:=hS;refine Calls.call_function_entry kind_sorted plain_sorted entry_sorted (args_sorted1 _) ?_;unfold Builtin.«sorted»;refine ae (m:=checkCount "sorted" 1 1 _) (am ?_);refine ae (Rn (by simpa using hh) rfl ho hf hl hpl (by rw[er];unfold scanBound at hb;omega) λh1 d tk acc k1 htk hacc=>?_);have hall:∀v,v∈acc->∃x u,v=Value.str x u:=λv hv=>by
  obtain ⟨e,he,rfl⟩:=cb.mp (hacc.mem_iff.mp hv);obtain ⟨k,tk,rfl⟩:=hel e he;exact ⟨k,tk,rfl⟩
 have hSA:=strsAre_map acc hall;have hlen:acc.length < 64:=by rw[hacc.length_eq,ax,<-ax (f:=gK),hp.length_eq];exact h64
 refine ae (wpAny_newList ?_ (by rw[er];omega));have hoL:(h1.push (seqObj "list" acc.toArray 0)).get? h1.objs.size=some (seqObj "list" acc.toArray 0):=ay _ rfl;show wpAny _ _ _ _ _ { s with heap:=h1.push (seqObj "list" acc.toArray 0),drawn:=d,toks:=tk };have hpk:(acc.map strOf).Perm ks:=by refine (hacc.map strOf).trans (List.Perm.trans (List.Perm.of_eq ?_) hp);rw[dP];refine List.map_congr_left λe he=>?_;obtain ⟨k,tk,rfl⟩:=hel e he;rfl
 refine ae (cf (dQ slot_list_sort ⟨_,hoL,rfl⟩ entry_list_sort (list_sort_treeK strKind_oneLt hoL hSA.keysOf (λv₁ v₂ rest e=>keyKind_strs (by rw[<-e];exact hSA)) hlen λst' hp' hs'=>⟨_,rfl,?_⟩) (args_list_sort _)));obtain ⟨ss',a1,a2,a3⟩:=sorted_out_str hSA hp' hs';generalize (arrOf st').map (·.2)=out at a1;obtain ⟨e,he⟩:=sortedHeap_at (vs:=acc) (out:=out) hoL;refine am ⟨_,rfl,h h1 _ d tk e out ss' a1 (a2.trans hpk) a3 k1 (λb o' hb1=>?_) htk he⟩;rw[sortedHeap_old (bv (aw hb1)) (by rw[size_push'];exact dk (aw hb1))];exact al _ hb1
end
end L2
namespace RF
open PySem PySem.Spec PyProof.Rows L2
inductive D where
 |non |bl (b:Bool) |int (i:Int) |str (l:List Nat) |tup (xs:List D) |lst (xs:List D) |ref (a:Addr) |scr (ns:List Int) |exn (C:String) |exa (C f:String) (d:D) |obj (C f:String) (q:Addr)
 deriving Inhabited
inductive DO where
 |lst (xs:List D)
 deriving Inhabited
abbrev DH:=Addr->Option DO
def aX(G:DH)(a:Addr)(o:DO):DH:=λb=>if b=a then some o else G b
def fX(G:DH)(a:Addr):DH:=λb=>if b=a then none else G b
theorem cC{G:DH}{a:Addr}{o:DO}:aX G a o a=some o:=if_pos rfl
theorem fY{G:DH}{a b:Addr}{o:DO}(h:b≠a):aX G a o b=G b:=if_neg h
theorem qK{G:DH}{a:Addr}:fX G a a=none:=if_pos rfl
theorem qL{G:DH}{a b:Addr}(h:b≠a):fX G a b=G b:=if_neg h
theorem Rp{G:DH}{a:Addr}{o u:DO}:aX (aX G a o) a u=aX G a u:=by funext b;unfold aX;split <;> rfl
theorem xq{G:DH}{a:Addr}{o:DO}(h:G a=none):fX (aX G a o) a=G:=by
 funext b;unfold aX fX;split
 ·rename_i e;rw[e,h]
 ·rename_i e;exact if_neg e
theorem Rq{G:DH}{a b:Addr}{o:DO}(h:G a=some o)(h':G b=none):a≠b:=by intro e;subst e;rw[h]at h';cases h'
abbrev sz:Nat:=1000000
abbrev FZ:=Addr->Prop
def FzL(H:Hp)(F:FZ)(a:Addr)(vs:List V):Prop:=F a/\H a=some (.lst vs)
theorem FzL.sq{K:PF}{H:Hp}{F:FZ}{a:Addr}{vs:List V}(h:FzL H F a vs):SqL K H a vs:=.inl (.inl h.2)
structure TpT(K:PF)(H:Hp)(a:Addr)(vs:List V):Prop where
 it:H a=some (.tup vs)
theorem TpT.sq{K:PF}{H:Hp}{a:Addr}{vs:List V}(h:TpT K H a vs):SqT K H a vs:=.inl (.inl h.it)
def ScL(K:PF)(H:Hp)(a:Addr)(vs:List V):Prop:=
 (∃o,H a=some (.frz o (.lst vs)))\/
  ∃(o:Obj) (its:Array Value) (n:Nat),K.lookup a=some o/\o.cls=.type "list"/\o.dict=none/\o.data=.seq its n/\its.size<=sizeLine/\Vals vs its.toList
theorem ScL.sq{K:PF}{H:Hp}{a:Addr}{vs:List V}(h:ScL K H a vs):SqL K H a vs:=by
 rcases h with ⟨o,h⟩ |h
 ·exact .inl (.inr ⟨o,h⟩)
 ·exact .inr h
def FzO(H:Hp)(F:FZ)(a c dx:Addr)(f:Str)(q:Addr):Prop:=F a/\H a=some (.ins c dx [(f,.ref q)])
mutual
noncomputable def Rep(K:PF)(H:Hp)(F:FZ):D->V->Prop
 |.non,v=>v=.non
 |.bl b,v=>v=.bl b
 |.int i,v=>v=.int i
 |.str l,v=>v=.str (tx l)/\l.length<=sz
 |.tup ds,v=>∃a vs,v=.ref a/\TpT K H a vs/\Reps K H F ds vs
 |.lst ds,v=>∃a vs,v=.ref a/\FzL H F a vs/\Reps K H F ds vs
 |.ref a,v=>v=.ref a
 |.scr ns,v=>∃a,v=.ref a/\ScL K H a (ns.map V.int)
 |.obj C f q,v=>∃a c dx,v=.ref a/\FzO H F a c dx (Str.ofString f) q/\PySem.W.nsIn K mainGlobals (Str.ofString C)=some (some (.ref c))
 |.exa C f d,v=>∃a c dx ob od,∃(y:Addr)(u:V),v=.ref a/\(H a=some (.frz ob (.own y))/\ob.cls=.ref c/\ob.dict=some dx/\PySem.W.notCls ob=true)/\H dx=some (.frz od (.xd [(Str.ofString f,u)]))/\Rep K H F d u/\PySem.W.nsIn K mainGlobals (Str.ofString C)=some (some (.ref c))
 |.exn C,v=>∃a c,v=.ref a/\XO H a c/\PySem.W.nsIn K mainGlobals (Str.ofString C)=some (some (.ref c))
noncomputable def Reps(K:PF)(H:Hp)(F:FZ):List D->List V->Prop
 |[],vs=>vs=[]
 |d::ds,vs=>∃v r,vs=v::r/\Rep K H F d v/\Reps K H F ds r
end
structure Ext(H:Hp)(F:FZ)(H':Hp)(F':FZ):Prop where
 sub:∀a,F a->F' a
 keep:∀a,F a->H' a=H a
 tups:∀a xs,H a=some (.tup xs)->H' a=some (.tup xs)
 frzs:∀a o u,H a=some (.frz o u)->H' a=some (.frz o u)
theorem Ext.refl(H:Hp)(F:FZ):Ext H F H F:=⟨λ_ h=>h,λ_ _=>rfl,λ_ _ h=>h,λ_ _ _ h=>h⟩
theorem Ext.trans{H H1 H2:Hp}{F F1 F2:FZ}(a:Ext H F H1 F1)(b:Ext H1 F1 H2 F2):Ext H F H2 F2:=
 ⟨λc h=>b.sub c (a.sub c h),λc h=>(b.keep c (a.sub c h)).trans (a.keep c h),λc xs h=>b.tups c xs (a.tups c xs h),λc o u h=>b.frzs c o u (a.frzs c o u h)⟩
section
variable {K:PF} {H H':Hp} {F F':FZ}
theorem TpT.ext{a:Addr}{vs:List V}(x:Ext H F H' F')(h:TpT K H a vs):TpT K H' a vs:=⟨x.tups _ _ h.it⟩
theorem FzL.ext{a:Addr}{vs:List V}(x:Ext H F H' F')(h:FzL H F a vs):FzL H' F' a vs:=⟨x.sub _ h.1,(x.keep _ h.1).trans h.2⟩
theorem ScL.ext{a:Addr}{vs:List V}(x:Ext H F H' F')(h:ScL K H a vs):ScL K H' a vs:=by
 rcases h with ⟨o,h⟩ |h
 ·exact .inl ⟨o,x.frzs _ _ _ h⟩
 ·exact .inr h
mutual
theorem Rep.ext(x:Ext H F H' F'):∀{d:D}{v:V},Rep K H F d v->Rep K H' F' d v
 |.non,_,h=>h
 |.bl _,_,h=>h
 |.int _,_,h=>h
 |.str _,_,h=>h
 |.tup _,_,⟨a,vs,e,q,r⟩=>⟨a,vs,e,TpT.ext x q,Reps.ext x r⟩
 |.lst _,_,⟨a,vs,e,q,r⟩=>⟨a,vs,e,FzL.ext x q,Reps.ext x r⟩
 |.ref _,_,h=>h
 |.scr _,_,⟨a,e,q⟩=>⟨a,e,ScL.ext x q⟩
 |.obj _ _ _,_,⟨a,c,dx,e,⟨hf,hh⟩,n⟩=>⟨a,c,dx,e,⟨x.sub _ hf,(x.keep _ hf).trans hh⟩,n⟩
 |.exn _,_,⟨a,c,e,⟨o,y,q,hc⟩,n⟩=>⟨a,c,e,⟨o,y,x.frzs _ _ _ q,hc⟩,n⟩
 |.exa _ _ _,_,⟨a,c,dx,ob,od,y,u,e,⟨q,h1,h2,h3⟩,qd,r,n⟩=>⟨a,c,dx,ob,od,y,u,e,⟨x.frzs _ _ _ q,h1,h2,h3⟩,x.frzs _ _ _ qd,Rep.ext x r,n⟩
theorem Reps.ext(x:Ext H F H' F'):∀{ds:List D}{vs:List V},Reps K H F ds vs->Reps K H' F' ds vs
 |[],_,h=>h
 |_::_,_,⟨v,r,e,h,t⟩=>⟨v,r,e,Rep.ext x h,Reps.ext x t⟩
end
theorem Reps.nil:Reps K H F [] []:=rfl
theorem Reps.cons{d:D}{v:V}{ds:List D}{vs:List V}(h:Rep K H F d v)(t:Reps K H F ds vs):Reps K H F (d::ds) (v::vs):=⟨v,vs,rfl,h,t⟩
theorem Reps.length:∀{ds:List D}{vs:List V},Reps K H F ds vs->ds.length=vs.length
 |[],_,h=>by cases h;rfl
 |_::_,_,⟨v,r,e,_,t⟩=>by subst e;simp[Reps.length t]
theorem Reps.append:∀{ds es:List D}{vs us:List V},Reps K H F ds vs->Reps K H F es us->Reps K H F (ds++es) (vs++us)
 |[],_,_,_,h,t=>by cases h;exact t
 |_::_,_,_,_,⟨v,r,e,h,t⟩,t'=>by subst e;exact ⟨v,_,rfl,h,Reps.append t t'⟩
theorem Reps.get:∀{ds:List D}{vs:List V}{i:Nat}{d:D},Reps K H F ds vs->ds[i]?=some d->∃v,vs[i]?=some v/\Rep K H F d v
 |[],_,_,_,_,e=>by simp at e
 |_::_,_,0,_,⟨v,r,e,h,t⟩,q=>by subst e;simp at q;subst q;exact ⟨v,rfl,h⟩
 |_::_,_,i+1,d,⟨v,r,e,h,t⟩,q=>by
  subst e;obtain ⟨u,h1,h2⟩:=Reps.get (i:=i) (d:=d) t (by simpa using q);exact ⟨u,by simpa using h1,h2⟩
theorem Reps.set{d:D}{v:V}(r:Rep K H F d v):∀{ds:List D}{vs:List V}(i:Nat),Reps K H F ds vs->Reps K H F (ds.set i d) (vs.set i v)
 |[],_,_,h=>by cases h;exact rfl
 |_::_,_,0,⟨v',r',e,h,t⟩=>by subst e;exact ⟨_,_,rfl,r,t⟩
 |_::_,_,i+1,⟨v',r',e,h,t⟩=>by subst e;exact ⟨_,_,rfl,h,Reps.set r i t⟩
theorem Reps.take:∀{ds:List D}{vs:List V}(n:Nat),Reps K H F ds vs->Reps K H F (ds.take n) (vs.take n)
 |_,_,0,_=>rfl
 |[],_,_+1,h=>by cases h;exact rfl
 |_::_,_,n+1,⟨v',r',e,h,t⟩=>by subst e;exact ⟨_,_,rfl,h,Reps.take n t⟩
theorem Reps.drop:∀{ds:List D}{vs:List V}(n:Nat),Reps K H F ds vs->Reps K H F (ds.drop n) (vs.drop n)
 |_,_,0,h=>h
 |[],_,_+1,h=>by cases h;exact rfl
 |_::_,_,n+1,⟨v',r',e,h,t⟩=>by subst e;exact Reps.drop n t
theorem Reps.cut{ds:List D}{vs:List V}(h:Reps K H F ds vs)(lo hi:Option Int):
  Reps K H F ((ds.drop (HT.sIx ds.length 0 lo)).take (HT.sIx ds.length ds.length hi - HT.sIx ds.length 0 lo)) (dg vs lo hi):=by
 unfold dg;rw[<-h.length];exact (h.drop _).take _
theorem Reps.rep{ds:List D}{vs:List V}(h:Reps K H F ds vs):∀k:Nat,Reps K H F (List.replicate k ds).flatten (List.replicate k vs).flatten
 |0=>rfl
 |k+1=>by
  rw[bX,bX,fg,fg];exact Reps.append h (Reps.rep h k)
end
def Rt(K:PF)(H:Hp)(F:FZ)(a:Addr):DO->Prop
 |.lst ds=>∃vs,H a=some (.lst vs)/\Reps K H F ds vs
structure R(K:PF)(H:Hp)(F:FZ)(G:DH):Prop where
 fz:∀a,F a->G a=none/\∃o,H a=some o
 ob:∀a o,G a=some o->Rt K H F a o
section
variable {K:PF} {H:Hp} {F:FZ} {G:DH} {p:Addr} {vs:List V} {ds:List D}
theorem R.lst(r:R K H F G)(h:G p=some (.lst ds)):∃vs,H p=some (.lst vs)/\Reps K H F ds vs:=r.ob p _ h
theorem R.free(r:R K H F G)(h:H p=none):G p=none:=by
 cases e:G p with
 |none=>rfl
 |some o=>
  cases o with
  |lst ds=>obtain ⟨vs,q,_⟩:=r.lst e;rw[h]at q;cases q
theorem R.notF(r:R K H F G)(h:H p=none):¬F p:=λf=>by
 obtain ⟨_,vs,q⟩:=r.fz p f;rw[h]at q;cases q
theorem cu{o:HO}(r:R K H F G)(h:H p=none):Ext H F (upd H p o) F:=
 ⟨λ_ f=>f,λa f=>az λe=>r.notF h (by rw[<-e];exact f),λa xs q=>by rw[az (aQ q h)];exact q,λa ob u q=>by rw[az (aQ q h)];exact q⟩
theorem R.new{o:HO}(r:R K H F G)(h:H p=none):R K (upd H p o) F G:=by
 have x:Ext H F (upd H p o) F:=cu r h;refine ⟨λa f=>⟨(r.fz a f).1,?_⟩,λa u e=>?_⟩
 ·obtain ⟨_,vs,q⟩:=r.fz a f;exact ⟨vs,by rw[x.keep a f];exact q⟩
 ·cases u with
  |lst ds=>
   obtain ⟨vs,q,t⟩:=r.lst e;exact ⟨vs,by rw[az (aQ q h)];exact q,Reps.ext x t⟩
theorem R.newL(r:R K H F G)(h:H p=none)(t:Reps K H F ds vs):R K (upd H p (.lst vs)) F (aX G p (.lst ds)):=by
 have x:Ext H F (upd H p (.lst vs)) F:=cu r h;have r':R K (upd H p (.lst vs)) F G:=r.new h;refine ⟨λa f=>⟨?_,(r'.fz a f).2⟩,λa u e=>?_⟩
 ·rw[fY λe=>r.notF h (by rw[<-e];exact f)];exact (r.fz a f).1
 ·by_cases ha:a=p
  ·subst ha;rw[cC]at e;cases e;exact ⟨vs,bZ,Reps.ext x t⟩
  ·rw[fY ha]at e;exact r'.ob a u e
theorem lL(r:R K H F G)(h:H p=none):Ext H F (upd H p (.lst vs)) (λa=>F a\/a=p):=
 ⟨λ_ f=>.inl f,(cu r h).keep,(cu r h).tups,(cu r h).frzs⟩
theorem R.newF(r:R K H F G)(h:H p=none):R K (upd H p (.lst vs)) (λa=>F a\/a=p) G:=by
 have x:Ext H F (upd H p (.lst vs)) (λa=>F a\/a=p):=lL r h;refine ⟨λa f=>?_,λa u e=>?_⟩
 ·rcases f with f |f
  ·obtain ⟨g,vs',q⟩:=r.fz a f;exact ⟨g,vs',by rw[x.keep a f];exact q⟩
  ·subst f;exact ⟨r.free h,_,bZ⟩
 ·cases u with
  |lst ds=>
   obtain ⟨vs',q,t⟩:=r.lst e;exact ⟨vs',by rw[az (aQ q h)];exact q,Reps.ext x t⟩
theorem xr(r:R K H F G)(h:H p=none)(t:Reps K H F ds vs):Rep K (upd H p (.lst vs)) (λa=>F a\/a=p) (.lst ds) (.ref p):=
 ⟨p,vs,rfl,⟨.inr rfl,bZ⟩,Reps.ext (lL r h) t⟩
theorem xu:∀{xs:List D}{z:D}{vs:List V},Reps K H F (xs++[z]) vs->∃us u,vs=us++[u]/\Reps K H F xs us/\Rep K H F z u
 |[],z,vs,h=>by
  obtain ⟨u,r,e,h1,h2⟩:=h;have h2:r=[]:=h2;subst h2;exact ⟨[],u,e,rfl,h1⟩
 |x::xs,z,vs,h=>by
  obtain ⟨u,r,e,h1,h2⟩:=h;obtain ⟨us,u',e',h3,h4⟩:=xu h2;subst e';exact ⟨u::us,u',e,⟨u,us,rfl,h1,h3⟩,h4⟩
theorem lM(r:R K H F G)(h:H p=none)(t:Reps K H F ds vs):Rep K (upd H p (.tup vs)) F (.tup ds) (.ref p):=
 ⟨p,vs,rfl,⟨bZ⟩,Reps.ext (cu r h) t⟩
theorem dF{H:Hp}{a x:Addr}{u:HO}{φ:Heap->Prop}(h:H a=some u)(hx:H x=some (.ext φ))(hu:u≠.ext φ):a≠x:=λe=>hu (by subst e;rw[h]at hx;exact cp hx)
mutual
theorem Rep.setX{x:Addr}{φ:Heap->Prop}{ho:HO}(hx:H x=some (.ext φ)):∀{d:D}{v:V},Rep K H F d v->Rep K (upd H x ho) F d v
 |.non,_,h=>h
 |.bl _,_,h=>h
 |.int _,_,h=>h
 |.str _,_,h=>h
 |.tup _,_,⟨a,vs,e,q,r⟩=>⟨a,vs,e,⟨by rw[az (dF q.it hx (by intro w;cases w))];exact q.it⟩,Reps.setX hx r⟩
 |.lst _,_,⟨a,vs,e,q,r⟩=>⟨a,vs,e,⟨q.1,by rw[az (dF q.2 hx (by intro w;cases w))];exact q.2⟩,Reps.setX hx r⟩
 |.ref _,_,h=>h
 |.scr _,_,⟨a,e,q⟩=>⟨a,e,by
   rcases q with ⟨o,q⟩ |q
   ·exact .inl ⟨o,by rw[az (dF q hx (by intro w;cases w))];exact q⟩
   ·exact .inr q⟩
 |.obj _ _ _,_,⟨a,c',dx',e,⟨hf,hh⟩,n⟩=>⟨a,c',dx',e,⟨hf,by rw[az (dF hh hx (by intro w;cases w))];exact hh⟩,n⟩
 |.exn _,_,⟨a,c',e,⟨o,y,q,hc⟩,n⟩=>⟨a,c',e,⟨o,y,by rw[az (dF q hx (by intro w;cases w))];exact q,hc⟩,n⟩
 |.exa _ _ _,_,⟨a,c',dx',ob,od,y,u,e,⟨q,h1,h2,h3⟩,qd,r,n⟩=>⟨a,c',dx',ob,od,y,u,e,⟨by rw[az (dF q hx (by intro w;cases w))];exact q,h1,h2,h3⟩,by rw[az (dF qd hx (by intro w;cases w))];exact qd,Rep.setX hx r,n⟩
theorem Reps.setX{x:Addr}{φ:Heap->Prop}{ho:HO}(hx:H x=some (.ext φ)):∀{ds:List D}{vs:List V},Reps K H F ds vs->Reps K (upd H x ho) F ds vs
 |[],_,h=>h
 |_::_,_,⟨v,r,e,h,t⟩=>⟨v,r,e,Rep.setX hx h,Reps.setX hx t⟩
end
theorem R.setX{x:Addr}{φ:Heap->Prop}{ho:HO}(r:R K H F G)(hx:H x=some (.ext φ)):R K (upd H x ho) F G:=by
 refine ⟨λa f=>⟨(r.fz a f).1,?_⟩,λa u e=>?_⟩
 ·by_cases h:a=x
  ·exact ⟨_,by rw[h,bZ]⟩
  ·rw[az h];exact (r.fz a f).2
 ·cases u with
  |lst ds=>
   obtain ⟨vs,q,t⟩:=r.lst e;exact ⟨vs,by rw[az (dF q hx (by intro w;cases w))];exact q,Reps.setX hx t⟩
theorem fZ{ds0:List D}{o:HO}(r:R K H F G)(h:G p=some (.lst ds0)):Ext H F (upd H p o) F:=by
 obtain ⟨vs0,q,_⟩:=r.lst h;refine ⟨λ_ f=>f,λa f=>az λe=>?_,λa xs z=>?_,λa ob u z=>?_⟩
 ·subst e;rw[(r.fz a f).1]at h;cases h
 ·rw[az (u6 z q (by intro w;cases w))];exact z
 ·rw[az (u6 z q (by intro w;cases w))];exact z
theorem R.write{ds0:List D}(r:R K H F G)(h:G p=some (.lst ds0))(t:Reps K H F ds vs):R K (upd H p (.lst vs)) F (aX G p (.lst ds)):=by
 have x:Ext H F (upd H p (.lst vs)) F:=fZ r h;refine ⟨λa f=>⟨?_,?_⟩,λa u e=>?_⟩
 ·rw[fY λe=>by subst e;rw[(r.fz a f).1]at h;cases h];exact (r.fz a f).1
 ·obtain ⟨_,vs',q⟩:=r.fz a f;exact ⟨vs',by rw[x.keep a f];exact q⟩
 ·by_cases ha:a=p
  ·subst ha;rw[cC]at e;cases e;exact ⟨vs,bZ,Reps.ext x t⟩
  ·rw[fY ha]at e;cases u with
   |lst ds'=>
    obtain ⟨vs',q,t'⟩:=r.lst e;exact ⟨vs',by rw[az ha];exact q,Reps.ext x t'⟩
theorem qM:Ext H F H (λa=>F a\/a=p):=⟨λ_ f=>.inl f,λ_ _=>rfl,λ_ _ h=>h,λ_ _ _ h=>h⟩
theorem R.frz(r:R K H F G)(h:G p=some (.lst ds)):R K H (λa=>F a\/a=p) (fX G p):=by
 have x:Ext H F H (λa=>F a\/a=p):=qM;refine ⟨λa f=>?_,λa u e=>?_⟩
 ·rcases f with f |f
  ·obtain ⟨g,vs',q⟩:=r.fz a f;refine ⟨?_,vs',q⟩;by_cases ha:a=p
   ·rw[ha];exact qK
   ·rw[qL ha];exact g
  ·subst f;obtain ⟨vs,q,_⟩:=r.lst h;exact ⟨qK,_,q⟩
 ·by_cases ha:a=p
  ·rw[ha,qK]at e;cases e
  ·rw[qL ha]at e;cases u with
   |lst ds'=>
    obtain ⟨vs',q,t'⟩:=r.lst e;exact ⟨vs',q,Reps.ext x t'⟩
theorem Ru(r:R K H F G)(h:G p=some (.lst ds)):Rep K H (λa=>F a\/a=p) (.lst ds) (.ref p):=by obtain ⟨vs,q,t⟩:=r.lst h;exact ⟨p,vs,rfl,⟨.inr rfl,q⟩,Reps.ext qM t⟩
end
def view(G:DH):D->D
 |.ref p=>match G p with |some (.lst ds)=>.lst ds |none=>.ref p
 |d=>d
theorem Rep.list{K:PF}{H:Hp}{F:FZ}{G:DH}{d:D}{v:V}{ds:List D}(r:R K H F G)(h:Rep K H F d v)(e:view G d=.lst ds):∃a vs,v=.ref a/\SqL K H a vs/\Reps K H F ds vs:=by
 cases d with
 |lst xs=>
  have e':D.lst xs=.lst ds:=e;cases e';obtain ⟨a,vs,e1,q,t⟩:=h;exact ⟨a,vs,e1,q.sq,t⟩
 |ref p=>
  have hv:v=.ref p:=h;unfold view at e;cases g:G p with
  |none=>simp only[g]at e;cases e
  |some o=>
   cases o with
   |lst xs=>
    simp only[g]at e;cases e;obtain ⟨vs,q,t⟩:=r.lst g;exact ⟨p,vs,hv,.inl (.inl q),t⟩
 |_=>cases (show _=D.lst ds from e)
theorem dG{G:DH}{d:D}{ds:List D}(e:view G d=.tup ds):d=.tup ds:=by
 cases d with
 |ref p=>
  unfold view at e;cases g:G p with
  |none=>simp only[g]at e;cases e
  |some o=>cases o;simp only[g]at e;cases e
 |_=>exact e
theorem dH{G:DH}{d:D}{l:List Nat}(e:view G d=.str l):d=.str l:=by
 cases d with
 |ref p=>
  unfold view at e;cases g:G p with
  |none=>simp only[g]at e;cases e
  |some o=>cases o;simp only[g]at e;cases e
 |_=>exact e
theorem cH{G:DH}{d:D}{l:Int}(e:view G d=.int l):d=.int l:=by
 cases d with
 |ref p=>
  unfold view at e;cases g:G p with
  |none=>simp only[g]at e;cases e
  |some o=>cases o;simp only[g]at e;cases e
 |_=>exact e
theorem qN{G:DH}{d:D}{l:Bool}(e:view G d=.bl l):d=.bl l:=by
 cases d with
 |ref p=>
  unfold view at e;cases g:G p with
  |none=>simp only[g]at e;cases e
  |some o=>cases o;simp only[g]at e;cases e
 |_=>exact e
theorem xF{G:DH}{d:D}(e:view G d=.non):d=.non:=by
 cases d with
 |ref p=>
  unfold view at e;cases g:G p with
  |none=>simp only[g]at e;cases e
  |some o=>cases o;simp only[g]at e;cases e
 |_=>exact e
abbrev aj:=List (Option D)
def EnvR(K:PF)(H:Hp)(F:FZ):aj->L2.St->Prop
 |[],σ=>σ=[]
 |o::ρ,σ=>∃u τ,σ=u::τ/\(∀d,o=some d->∃v,u=some v/\Rep K H F d v)/\EnvR K H F ρ τ
section
variable {K:PF} {H H':Hp} {F F':FZ}
theorem EnvR.ext(x:Ext H F H' F'):∀{ρ:aj}{σ:L2.St},EnvR K H F ρ σ->EnvR K H' F' ρ σ
 |[],_,h=>h
 |_::_,_,⟨u,τ,e,h,t⟩=>⟨u,τ,e,λd q=>by obtain ⟨v,e1,r⟩:=h d q;exact ⟨v,e1,Rep.ext x r⟩,EnvR.ext x t⟩
theorem EnvR.get:∀{ρ:aj}{σ:L2.St}{i:Nat}{d:D},EnvR K H F ρ σ->ρ[i]?=some (some d)->∃v,σ[i]?=some (some v)/\Rep K H F d v
 |[],_,_,_,_,e=>by simp at e
 |_::_,_,0,d,⟨u,τ,e,h,t⟩,q=>by
  subst e;obtain ⟨v,e1,r⟩:=h d (by simpa using q);exact ⟨v,by simp[e1],r⟩
 |_::_,_,i+1,d,⟨u,τ,e,h,t⟩,q=>by
  subst e;obtain ⟨v,e1,r⟩:=EnvR.get (i:=i) (d:=d) t (by simpa using q);exact ⟨v,by simpa using e1,r⟩
theorem EnvR.set{d:D}{v:V}(r:Rep K H F d v):∀{ρ:aj}{σ:L2.St}(i:Nat),EnvR K H F ρ σ->EnvR K H F (ρ.set i (some d)) (σ.set i (some v))
 |[],_,_,h=>by cases h;exact rfl
 |_::_,_,0,⟨u,τ,e,h,t⟩=>by subst e;exact ⟨_,_,rfl,λd' q=>⟨v,rfl,by cases q;exact r⟩,t⟩
 |_::_,_,i+1,⟨u,τ,e,h,t⟩=>by subst e;exact ⟨_,_,rfl,h,EnvR.set r i t⟩
theorem EnvR.none:∀(n:Nat),EnvR K H F (List.replicate n Option.none) (List.replicate n Option.none)
 |0=>rfl
 |n+1=>⟨_,_,rfl,λd q=>(nomatch q),EnvR.none n⟩
theorem EnvR.start:∀{ds:List D}{vs:List V}(n:Nat),Reps K H F ds vs->EnvR K H F (ds.map some++List.replicate n Option.none) (vs.map some++List.replicate n Option.none)
 |[],_,n,h=>by cases h;exact EnvR.none n
 |d::ds,_,n,⟨v,r,e,h,t⟩=>by
  subst e;exact ⟨_,_,rfl,λd' q=>⟨v,rfl,by cases q;exact h⟩,EnvR.start n t⟩
theorem EnvR.cap{ρ:aj}{σ:L2.St}(h:EnvR K H F ρ σ):∀(cap:List (Option Nat)),EnvR K H F (cap.map λo=>match o with |Option.none=>Option.none |some j=>(ρ[j]?).join) (cT cap σ)
 |[]=>rfl
 |Option.none::cap=>⟨_,_,rfl,λd q=>(nomatch q),EnvR.cap h cap⟩
 |some j::cap=>by
  refine ⟨_,_,rfl,λd q=>?_,EnvR.cap h cap⟩;have q':(ρ[j]?).join=some d:=q;have z:ρ[j]?=some (some d):=by
   cases e:ρ[j]? with
   |none=>rw[e]at q';cases q'
   |some o=>rw[e]at q';exact c6 some q'
  obtain ⟨v,e1,r⟩:=h.get z;exact ⟨v,by show (σ[j]?).join=some v;rw[e1];rfl,r⟩
end
mutual
noncomputable def deq:D->D->Bool
 |.non,.non=>true
 |.bl a,.bl b=>a==b
 |.bl a,.int b=>(if a then 1 else 0)==b
 |.int a,.bl b=>a==(if b then 1 else 0)
 |.int a,.int b=>a==b
 |.str a,.str b=>a==b
 |.tup a,.tup b=>bG a b
 |.lst a,.lst b=>bG a b
 |_,_=>false
noncomputable def bG:List D->List D->Bool
 |[],[]=>true
 |a::as,b::bs=>deq a b&&bG as bs
 |_,_=>false
end
mutual
/-- no tracked object within -/
noncomputable def nr:D->Bool
 |.tup a=>nrs a
 |.lst a=>nrs a
 |.ref _=>false
 |.scr _=>false
 |.exn _=>false
 |.exa _ _ _=>false
 |.obj _ _ _=>false
 |_=>true
noncomputable def nrs:List D->Bool
 |[]=>true
 |a::as=>nr a&&nrs as
end
mutual
def dpt:D->Nat
 |.tup a=>aO a+1
 |.lst a=>aO a+1
 |_=>0
def aO:List D->Nat
 |[]=>0
 |a::as=>max (dpt a) (aO as)
end
noncomputable def truth:D->Option Bool
 |.non=>some false
 |.bl b=>some b
 |.int i=>some (i != 0)
 |.str l=>some (!l.isEmpty)
 |.tup l=>some (!l.isEmpty)
 |.lst l=>some (!l.isEmpty)
 |_=>none
noncomputable def cut{α:Type}(xs:List α)(lo hi:Option Int):List α:=(xs.drop (HT.sIx xs.length 0 lo)).take (HT.sIx xs.length xs.length hi - HT.sIx xs.length 0 lo)
def reps{α:Type}(xs:List α)(n:Nat):List α:=(List.replicate n xs).flatten
def mk(fz:Bool)(xs:List D)(G:DH)(k:D->DH->Prop):Prop:=
 match fz with
 |true=>k (.lst xs) G
 |false=>∀p,G p=none->k (.ref p) (aX G p (.lst xs))
def gM(fz:Bool)(a b:D)(G:DH)(k:D->DH->Prop):Prop:=
 match a with
 |.int i=>(match b with |.int j=>k (.int (i+j)) G |_=>False)
 |.str x=>(match b with |.str y=>x.length+y.length<=sz/\k (.str (x++y)) G |_=>False)
 |.lst x=>(match b with |.lst y=>x.length+y.length<=sz/\mk fz (x++y) G k |_=>False)
 |.tup x=>(match b with |.tup y=>x.length+y.length<=sz/\k (.tup (x++y)) G |_=>False)
 |_=>False
def eZ(a b:D)(p:Int->Int->Prop):Prop:=
 match a with
 |.int i=>(match b with |.int j=>p i j |_=>False)
 |_=>False
def gO(fz:Bool)(a b:D)(G:DH)(k:D->DH->Prop):Prop:=
 match b with
 |.int n=>(match a with |.int i=>CMul i n/\k (.int (i * n)) G |.str x=>0<=n/\n<=1000/\x.length * n.toNat<=sz/\k (.str (reps x n.toNat)) G |.tup x=>2<=n/\n<=1000/\x≠[]/\x.length * n.toNat<=sz/\k (.tup (reps x n.toNat)) G |.lst x=>0<=n/\n<=1000/\x.length * n.toNat<=sz/\mk fz (reps x n.toNat) G k |_=>False)
 |_=>False
def bN(op:Operator)(fz:Bool)(a b:D)(G:DH)(k:D->DH->Prop):Prop:=
 match op with
 |.Add=>gM fz a b G k
 |.Sub=>eZ a b λi j=>k (.int (i - j)) G
 |.Mult=>gO fz a b G k
 |.FloorDiv=>eZ a b λi j=>(0 < j/\j < 1152921504606846976)/\k (.int (i / j)) G
 |.Mod=>eZ a b λi j=>0 < j/\k (.int (i % j)) G
 |.Pow=>eZ a b λi j=>lA i j/\k (.int (i ^ j.toNat)) G
 |_=>False
def isIn(x:D)(ys:List D):Bool:=ys.any λy=>deq y x
def xG(a b:D):Prop:=nr a=true/\nr b=true/\min (dpt a) (dpt b)<=60
def inG(a:D)(l:List D):Prop:=nr a=true/\nrs l=true/\aO l<=60
def gP(a b:D)(k:Bool->Prop):Prop:=
 match a,b with
 |.int i,.int j=>k (decide (i < j))
 |.str i,.str j=>k (decide (i < j))
 |_,_=>False
def gQ(a b:D)(k:Bool->Prop):Prop:=
 match a,b with
 |.int i,.int j=>k (decide (i<=j))
 |.str i,.str j=>k (!decide (j < i))
 |_,_=>False
def gR(a b:D)(k:Bool->Prop):Prop:=
 match a,b with
 |.int i,.int j=>k (decide (j < i))
 |_,_=>False
def gU(a b:D)(k:Bool->Prop):Prop:=
 match a,b with
 |.int i,.int j=>k (decide (j<=i))
 |_,_=>False
def lN(a:D):Bool:=match a with |.non=>true |_=>false
def gW(a b:D)(k:Bool->Prop):Prop:=
 match b with
 |.non=>k (lN a)
 |.bl b=>(match a with |.bl a=>k (a==b) |_=>False)
 |_=>False
def gY(a b:D)(k:Bool->Prop):Prop:=
 match b with
 |.non=>k (!lN a)
 |.bl b=>(match a with |.bl a=>k (a != b) |_=>False)
 |_=>False
def d8(a b:D)(k:Bool->Prop):Prop:=
 match b with
 |.str l=>(match a with |.str [c]=>k (l.contains c) |_=>False)
 |.lst l=>inG a l/\k (isIn a l)
 |.tup l=>inG a l/\k (isIn a l)
 |_=>False
def aP(op:CmpOp)(a b:D)(k:Bool->Prop):Prop:=
 match op with
 |.Eq=>xG a b/\k (deq a b)
 |.NotEq=>xG a b/\k (!deq a b)
 |.Lt=>gP a b k
 |.LtE=>gQ a b k
 |.Gt=>gR a b k
 |.GtE=>gU a b k
 |.Is=>gW a b k
 |.IsNot=>gY a b k
 |.In=>d8 a b k
 |.NotIn=>d8 a b λc=>k (!c)
def bO(a i:D)(k:D->Prop):Prop:=
 match a,i with
 |.lst ds,.int i=>match atI ds i with |some d=>k d |none=>False
 |.tup ds,.int i=>match atI ds i with |some d=>k d |none=>False
 |.str l,.int i=>match atI l i with |some c=>k (.str [c]) |none=>False
 |_,_=>False
def dj(fz:Bool)(a:D)(lo hi:Option Int)(G:DH)(k:D->DH->Prop):Prop:=
 match a with
 |.lst ds=>mk fz (cut ds lo hi) G k
 |.scr ns=>mk fz ((cut ns lo hi).map .int) G k
 |.tup ds=>k (.tup (cut ds lo hi)) G
 |.str l=>k (.str (cut l lo hi)) G
 |_=>False
def gZ(fz:Bool)(a y:D)(G:DH)(k:D->DH->Prop):Prop:=
 match a with
 |.lst ds=>y=.int (-1)/\mk fz ds.reverse G k
 |.tup ds=>y=.int (-1)/\k (.tup ds.reverse) G
 |_=>False
noncomputable def bools:List D->Option (List Bool)
 |[]=>some []
 |.bl b::r=>match bools r with |some s=>some (b::s) |none=>none
 |_=>none
noncomputable def dI:List D->Option (List Int)
 |[]=>some []
 |.int b::r=>match dI r with |some s=>some (b::s) |none=>none
 |_=>none
noncomputable def aR:List D->Option (List (List Nat))
 |[]=>some []
 |.str b::r=>match aR r with |some s=>some (b::s) |none=>none
 |_=>none
def dm(s:List Nat):List (List Nat)->List Nat
 |[]=>[]
 |[x]=>x
 |x::y::r=>x++s++dm s (y::r)
inductive Bf where
 |len |all |int |tuple |sum |min |max |str |abs |min2
inductive Lf where
 |list |sorted
inductive Mf where
 |join |append |extend |insert |count |index |pop |find |split
def qO(as:List D)(k:D->Prop):Prop:=
 match as with
 |[.lst ds]=>k (.int ds.length)
 |[.tup ds]=>k (.int ds.length)
 |[.str l]=>k (.int l.length)
 |_=>False
def lO(as:List D)(k:D->Prop):Prop:=
 match as with
 |[.lst ds]=>match bools ds with |some bs=>k (.bl (bs.all id)) |none=>False
 |_=>False
def lQ(as:List D)(k:D->Prop):Prop:=
 match as with
 |[.bl b]=>k (.int (if b then 1 else 0))
 |[.int i]=>k (.int i)
 |[.str l]=>match PySem.intText? (tx l) with |some n=>l.length<=640/\k (.int n) |none=>False
 |_=>False
def qP(as:List D)(k:D->Prop):Prop:=
 match as with
 |[.lst ds]=>k (.tup ds)
 |[.tup ds]=>k (.tup ds)
 |_=>False
def qQ(as:List D)(k:D->Prop):Prop:=
 match as with
 |[.lst ds]=>match dI ds with |some ns=>k (.int ns.sum) |none=>False
 |_=>False
def xH(as:List D)(k:D->Prop):Prop:=
 match as with
 |[.lst ds]=>match dI ds with
  |some ns=>ns≠[]/\∀m,m∈ns->(∀a,a∈ns->m<=a)->k (.int m)
  |none=>match aR ds with
   |some ls=>∀m,m∈ls->(∀a,a∈ls->¬a < m)->k (.str m)
   |none=>False
 |_=>False
def xJ(as:List D)(k:D->Prop):Prop:=match as with
 |[.int a]=>k (.int (if a < 0 then -a else a))
 |_=>False
def xK(as:List D)(k:D->Prop):Prop:=match as with
 |[.int a,.int b]=>k (.int (if b < a then b else a))
 |_=>False
def xM(as:List D)(k:D->Prop):Prop:=
 match as with
 |[.int a,.int b]=>k (.int (if b > a then b else a))
 |_=>False
def fj(m:Nat):List Nat:=(qz m).cps.toList
def qR(as:List D)(k:D->Prop):Prop:=
 match as with
 |[.int i]=>(0<=i/\i < 100)/\k (.str (fj i.toNat))
 |_=>False
noncomputable def opB:Bf->List D->(D->Prop)->Prop
 |.len=>qO
 |.all=>lO
 |.int=>lQ
 |.tuple=>qP
 |.sum=>qQ
 |.min=>xH
 |.max=>xM
 |.abs=>xJ
 |.min2=>xK
 |.str=>qR
def qT(as:List D)(k:List D->Prop):Prop:=
 match as with
 |[.lst ds]=>k ds
 |[.tup ds]=>k ds
 |[.str l]=>k (l.map λc=>.str [c])
 |_=>False
def lR(as:List D)(k:List D->Prop):Prop:=
 match as with
 |[.lst ds]=>match aR ds with |some ls=>ls.length < 64/\∀ls':List (List Nat),ls'.Perm ls->PyProof.Rows.sortedS (ls'.map tx)=true->k (ls'.map D.str) |none=>False
 |[.tup ds]=>match dI ds with |some ns=>ns.length < 64/\∀ns':List Int,ns'.Perm ns->ns'.Pairwise (·<=·)->k (ns'.map D.int) |none=>False
 |_=>False
def putN(ks:List (List Nat))(k:List Nat):List (List Nat):=if k∈ks then ks else ks++[k]
def bI(ls:List (List Nat)):List (List Nat):=ls.foldl putN []
def fu(d:D)(k:List D->Prop):Prop:=
 match d with
 |.lst ds=>match aR ds with |some ls=>(ls.length<=1000/\(bI ls).length < 64)/\∀ls':List (List Nat),ls'.Perm (bI ls)->PyProof.Rows.sortedS (ls'.map tx)=true->k (ls'.map D.str) |none=>False
 |_=>False
def cz:Lf->List D->(List D->Prop)->Prop
 |.list=>qT
 |.sorted=>lR
noncomputable def isT(t:String)(d:D):Option Bool:=
 match d with
 |.non=>some false
 |.bl _=>some (t=="bool"||t=="int")
 |.int _=>some (t=="int")
 |.str _=>some (t=="str")
 |.tup _=>some (t=="tuple")
 |.lst _=>some (t=="list")
 |_=>none
def d9 (t:String):Bool:=t=="bool"||t=="int"||t=="str"||t=="tuple"||t=="list"
def lU(o:D)(as:List D)(G:DH)(k:D->DH->Prop):Prop:=
 match o,as with
 |.str s,[.lst ds]=>match aR ds with |some ls=>((ls.map (·.length)).sum+ls.length * s.length<=sz)/\k (.str (dm s ls)) G |none=>False
 |_,_=>False
def lV(o:D)(as:List D)(G:DH)(k:D->DH->Prop):Prop:=
 match o,as with
 |.ref p,[x]=>match G p with |some (.lst ds)=>ds.length < sz/\k .non (aX G p (.lst (ds++[x]))) |none=>False
 |_,_=>False
def lW(o:D)(as:List D)(G:DH)(k:D->DH->Prop):Prop:=
 match o,as with
 |.ref p,[.lst xs]=>match G p with |some (.lst ds)=>ds.length+xs.length < sz/\k .non (aX G p (.lst (ds++xs))) |none=>False
 |_,_=>False
def lX(o:D)(as:List D)(G:DH)(k:D->DH->Prop):Prop:=
 match o,as with
 |.ref p,[.int i,x]=>match G p with |some (.lst ds)=>ds.length < sz/\0<=i/\i<=1000000/\k .non (aX G p (.lst (ds.take i.toNat++x::ds.drop i.toNat))) |none=>False
 |_,_=>False
def qU(o:D)(as:List D)(G:DH)(k:D->DH->Prop):Prop:=
 match o,as with
 |.ref p,[.int i]=>match G p with |some (.lst ds)=>0<=i/\i<=1000000/\(match ds[i.toNat]? with |some y=>k y (aX G p (.lst (ds.eraseIdx i.toNat))) |none=>False) |none=>False
 |_,_=>False
def lY(o:D)(as:List D)(G:DH)(k:D->DH->Prop):Prop:=
 match o,as with
 |.lst ds,[.bl true]=>match bools ds with |some bs=>k (.int (bs.count true:Nat)) G |none=>False
 |_,_=>False
def lZ(o:D)(as:List D)(G:DH)(k:D->DH->Prop):Prop:=
 match o,as with
 |.lst ds,[.bl true]=>match bools ds with |some bs=>true∈bs/\k (.int (bs.idxOf true:Nat)) G |none=>False
 |_,_=>False
def qW(o:D)(as:List D)(G:DH)(k:D->DH->Prop):Prop:=
 match o,as with
 |.str l,[.str [c]]=>k (.int (-1)) G/\∀i:Nat,l[i]?=some c->k (.int (i:Int)) G
 |_,_=>False
def qX(o:D)(as:List D)(G:DH)(k:D->DH->Prop):Prop:=
 match o,as with
 |.str l,[.str [c]]=>(c < 256/\l.length+2<=sz)/\k (.lst ((aY c l).map .str)) G
 |_,_=>False
def qY:D->Prop
 |.lst _=>True
 |_=>False
def recv(m:Mf)(o:D)(G:DH):Prop:=
 match m,o with
 |.join,.str _=>True
 |.find,.str _=>True
 |.split,.str _=>True
 |.append,.ref p=>match G p with |some (.lst _)=>True |none=>False
 |.extend,.ref p=>match G p with |some (.lst _)=>True |none=>False
 |.insert,.ref p=>match G p with |some (.lst _)=>True |none=>False
 |.pop,.ref p=>match G p with |some (.lst _)=>True |none=>False
 |.count,o=>qY (view G o)
 |.index,o=>qY (view G o)
 |_,_=>False
noncomputable def opM:Mf->D->List D->DH->(D->DH->Prop)->Prop
 |.join,o,as,G,k=>lU o (as.map (view G)) G k
 |.append,o,as,G,k=>lV o as G k
 |.find,o,as,G,k=>qW o as G k
 |.split,o,as,G,k=>qX o as G k
 |.extend,o,as,G,k=>lW o (as.map (view G)) G k
 |.insert,o,as,G,k=>lX o as G k
 |.pop,o,as,G,k=>qU o as G k
 |.count,o,as,G,k=>lY (view G o) as G k
 |.index,o,as,G,k=>lZ (view G o) as G k
def dJ (C C':String):Bool:=C==C'||C'=="SieveError"||C'=="ValueError"
def je(C:String)(xs:List String)(d:D)(k:Bool->Prop):Prop:=match d with
 |.exn c=>xs.contains c=true/\k (dJ c C)
 |.exa c _ _=>xs.contains c=true/\k (dJ c C)
 |_=>False
def okA(d:D):Prop:=match d with
 |.int i=>0<=i/\i < 100
 |.str l=>l.length<=1000
 |_=>False
def g8(C f:String)(d:D)(k:D->Prop):Prop:=match d with
 |.exa C' f' v=>C'=C/\f'=f/\k v
 |_=>False
mutual
inductive Tg where
 |nm (i:Nat)
 |tp (ts:Tgs)
inductive Tgs where
 |nil
 |cons (t:Tg) (r:Tgs)
end
mutual
inductive Ex where
 |var (i:Nat)
 |cst (d:D)
 |glb (x:String) (d:D)
 |bin (op:Operator) (fz:Bool) (a b:Ex)
 |neg (a:Ex)
 |cmp (op:CmpOp) (a b:Ex)
 |chn (op op':CmpOp) (a b c:Ex)
 |not (a:Ex)
 |boo (isAnd:Bool) (e:Ex) (es:Exs)
 |ife (c:Tx) (a b:Ex)
 |tup (es:Exs)
 |lst (fz:Bool) (es:Exs)
 |idx (a i:Ex)
 |slc (fz:Bool) (a:Ex) (lo hi:Ox)
 |rvs (fz:Bool) (a s:Ex)
 |call (f:String) (es:Exs)
 |bcl (f:Bf) (es:Exs)
 |lcl (fz:Bool) (f:Lf) (es:Exs)
 |isi (a:Ex) (t:String)
 |isx (a:Ex) (C:String) (xs:List String)
 |fst (es:Exs)
 |rgl (fz:Bool) (a:Ex)
 |srs (fz:Bool) (a:Ex)
 |rgt (a:Ex)
 |rpl (f:String) (a b ix:Ex)
 |fld (C f:String) (o:Ex)
 |mcl (f C m:String) (o:Ex) (es:Exs)
 |mko (C:String) (es:Exs)
 |mkx (C:String) (a:Ex)
 |mki (C f:String) (a:Ex)
 |xat (C f:String) (a:Ex)
 |pp0 (o:Ex)
 |mth (m:Mf) (o:Ex) (es:Exs)
 |comp (fz:Bool) (elt:Ex) (tg:Tg) (it:It') (cond:Tx) (N:List String) (cap:List (Option Nat))
 |cm3 (elt:Ex) (t1:Tg) (i1:It') (t2:Tg) (i2:It') (t3:Tg) (i3:It') (N:List String) (cap:List (Option Nat))
 |frz (a:Ex)
inductive Exs where
 |nil
 |cons (e:Ex) (es:Exs)
/-- a test -/
inductive Tx where
 |val (e:Ex)
 |not (t:Tx)
 |boo (isAnd:Bool) (t:Tx) (ts:Txs)
 |yes
inductive Txs where
 |nil
 |cons (t:Tx) (ts:Txs)
/-- a bound of a slice -/
inductive Ox where
 |no
 |ob (e:Ex)
/-- what a loop walks -/
inductive It' where
 |seq (e:Ex)
 |rng (a:Ex)
 |rng2 (a b:Ex)
 |rev (a:Ex)
 |dwn (a b c:Ex)
 |enm (e:Ex)
 |en1 (e:Ex)
 |zip (a b:Ex)
end
inductive Tb where
 |call (f:String) (es:Exs)
 |asg (i:Nat) (f:String) (es:Exs)
 |pick (f g:String) (i:Nat) (es:Exs)
 |ite (c:Tx) (a b:Tb)
 |mcl (f C m:String) (o:Ex) (es:Exs)
 |mko (C:String) (es:Exs)
inductive Hd where
 |flag (i:Nat) (b:Bool)
 |bind (n i:Nat)
mutual
inductive Sx where
 |exp (e:Ex)
 |asg (t:Tg) (e:Ex)
 |star (i j:Nat) (e:Ex)
 |set (o i e:Ex)
 |aug (i:Nat) (op:Operator) (e:Ex)
 |augs (o i:Ex) (op:Operator) (e:Ex)
 |ret (e:Ex)
 |rtn
 |ite (c:Tx) (a b:Sxs)
 |for_ (t:Tg) (it:It') (body:Sxs)
 |whl (c:Tx) (body:Sxs)
 |pas
 |brk
 |cnt
 |nev
 |rse (C:String) (es:Exs)
 |tryc (f:String) (es:Exs) (C:String) (i:Nat) (b:Bool)
 |tryx (b:Tb) (C:String) (h:Hd) (xs:List String)
inductive Sxs where
 |nil
 |cons (s:Sx) (r:Sxs)
end
structure Xn where
 cls:String
 fld:D
structure Spec where
 A:Type
 pre:List D->DH->A->Prop
 post:A->D->DH->Prop
 exc:A->Xn->DH->Prop
abbrev EK:=Xn->DH->Prop
def Spec.t(S:Spec)(ds:List D)(G:DH)(Q:D->DH->Prop)(E:EK):Prop:=
 ∃a,S.pre ds G a/\(∀d G',S.post a d G'->Q d G')/\∀x G',S.exc a x G'->E x G'
theorem Spec.mono{S:Spec}{ds:List D}{G:DH}{Q Q':D->DH->Prop}{E E':EK}(h:S.t ds G Q E)(hq:∀d G',Q d G'->Q' d G')(he:∀x G',E x G'->E' x G'):S.t ds G Q' E':=by obtain ⟨a,h1,h2,h3⟩:=h;exact ⟨a,h1,λd G' q=>hq _ _ (h2 d G' q),λx G' q=>he _ _ (h3 x G' q)⟩
abbrev ak:=String->Spec
def qZ(C f:String)(d:D)(k:Addr->Prop):Prop:=match d with |.obj C' f' q=>C'=C/\f'=f/\k q |_=>False
def mj(C m:String)(d:D):Prop:=match d with |.obj C' f' _=>C'=C/\(Str.ofString m==Str.ofString f')=false |_=>False
def q8(d:D)(G:DH)(k:D->DH->Prop):Prop:=match d with |.ref p=>(match G p with |some (.lst ds)=>(match ds[ds.length - 1]? with |some y=>k y (aX G p (.lst ds.dropLast)) |none=>False) |none=>False) |_=>False
def q9(d:D)(k:List Nat->Prop):Prop:=match d with |.str l=>l.length<=1000/\k l |_=>False
def rm(i:D)(l:List Nat)(k:List Nat->Prop):Prop:=match i with |.int n=>(match atI [48,49] n with |some c=>k (l.map λa=>if a=42 then c else a) |none=>False) |_=>False
def jf(i j:Nat)(d:D)(ρ:aj)(G:DH)(k:aj->DH->Prop):Prop:=
 match d with
 |.lst ds=>ds≠[]/\∀xs y,ds=xs++[y]->k ((ρ.set i (some (.lst xs))).set j (some y)) G
 |_=>False
mutual
noncomputable def aJ:Tg->D->aj->DH->(aj->Prop)->Prop
 |.nm i,d,ρ,_,k=>k (ρ.set i (some d))
 |.tp ts,d,ρ,G,k=>match d with |.tup ds=>bu ts ds ρ G k |.lst ds=>bu ts ds ρ G k |_=>False
noncomputable def bu:Tgs->List D->aj->DH->(aj->Prop)->Prop
 |.nil,ds,ρ,_,k=>match ds with |[]=>k ρ |_=>False
 |.cons t r,ds,ρ,G,k=>match ds with |d::ds=>aJ t d ρ G (λρ'=>bu r ds ρ' G k) |[]=>False
end
abbrev Hld:=List (Addr×List D)
def held:Hld->DH->Prop
 |[],_=>True
 | (a,ds)::r,G=>G a=some (.lst ds)/\held r G
noncomputable def compLoop(step:D->aj->DH->(Option D->aj->DH->Prop)->Prop)(g:Hld):List D->List D->aj->DH->(List D->DH->Prop)->Prop
 |[],acc,_,G,k=>held g G/\acc.length<=sz/\k acc G
 |d::ds,acc,ρ,G,k=>held g G/\acc.length < sz/\step d ρ G (λo ρ' G'=>match o with |some y=>compLoop step g ds (acc++[y]) ρ' G' k |none=>compLoop step g ds acc ρ' G' k)
noncomputable def cV(step:D->List D->aj->DH->(List D->aj->DH->Prop)->Prop)(g:Hld):List D->List D->aj->DH->(List D->aj->DH->Prop)->Prop
 |[],acc,ρ,G,k=>held g G/\k acc ρ G
 |d::ds,acc,ρ,G,k=>held g G/\step d acc ρ G (λacc' ρ' G'=>cV step g ds acc' ρ' G' k)
def bQ:Nat->List D->List D
 |_,[]=>[]
 |i,d::ds=>.tup [.int i,d]::bQ (i+1) ds
def bx:List D->List D->List D
 |a::as,b::bs=>.tup [a,b]::bx as bs
 |_,_=>[]
noncomputable def itemsOf(G:DH):D->Option (List D×Hld)
 |.lst ds=>some (ds,[])
 |.tup ds=>some (ds,[])
 |.str l=>some (l.map λc=>.str [c],[])
 |.ref p=>match G p with |some (.lst ds)=>some (ds,[(p,ds)]) |none=>none
 |_=>none
def bR(lo:Int)(n:Nat):List D:=(List.range n).map λi=>.int (lo+(i:Nat))
def mq(lo:Int)(n:Nat):List D:=(List.range n).map λi=>.int (lo - (i:Nat))
def noE:EK:=λ_ _=>False
mutual
def wpE(Φ:ak):Ex->EK->aj->DH->(D->DH->Prop)->Prop
 |.var i,_,ρ,G,k=>match ρ[i]? with |some (some d)=>k d G |_=>False
 |.cst d,_,_,G,k=>k d G
 |.glb _ d,_,_,G,k=>k d G
 |.bin op fz a b,E,ρ,G,k=>wpE Φ a E ρ G λx G1=>wpE Φ b E ρ G1 λy G2=>bN op fz (view G2 x) (view G2 y) G2 k
 |.neg a,E,ρ,G,k=>wpE Φ a E ρ G λx G1=>match x with |.int i=>k (.int (-i)) G1 |_=>False
 |.cmp op a b,E,ρ,G,k=>wpE Φ a E ρ G λx G1=>wpE Φ b E ρ G1 λy G2=>aP op (view G2 x) (view G2 y) λc=>k (.bl c) G2
 |.chn op op' a b c,E,ρ,G,k=>wpE Φ a E ρ G λx G1=>wpE Φ b E ρ G1 λy G2=>aP op (view G2 x) (view G2 y) λt=>
   match t with
   |true=>wpE Φ c E ρ G2 λz G3=>aP op' (view G3 y) (view G3 z) λt'=>k (.bl t') G3
   |false=>k (.bl false) G2
 |.not a,E,ρ,G,k=>wpE Φ a E ρ G λx G1=>match truth (view G1 x) with |some b=>k (.bl (!b)) G1 |none=>False
 |.boo isAnd e es,E,ρ,G,k=>wpE Φ e E ρ G λd G1=>match d with |.bl b=>wpB Φ es isAnd b E ρ G1 (λc G2=>k (.bl c) G2) |_=>False
 |.ife c a b,E,ρ,G,k=>wpT Φ c E ρ G λt G1=>match t with |true=>wpE Φ a E ρ G1 k |false=>wpE Φ b E ρ G1 k
 |.tup es,E,ρ,G,k=>aD Φ es E ρ G λds G1=>ds.length<=sz/\k (.tup ds) G1
 |.lst fz es,E,ρ,G,k=>aD Φ es E ρ G λds G1=>ds.length<=sz/\mk fz ds G1 k
 |.idx a i,E,ρ,G,k=>wpE Φ a E ρ G λx G1=>wpE Φ i E ρ G1 λy G2=>bO (view G2 x) y λd=>k d G2
 |.slc fz a lo hi,E,ρ,G,k=>wpE Φ a E ρ G λx G1=>wpO Φ lo E ρ G1 λl G2=>wpO Φ hi E ρ G2 λh G3=>dj fz (view G3 x) l h G3 k
 |.rvs fz a s,E,ρ,G,k=>wpE Φ a E ρ G λx G1=>wpE Φ s E ρ G1 λy G2=>gZ fz (view G2 x) y G2 k
 |.call f es,E,ρ,G,k=>aD Φ es E ρ G λds G1=>(Φ f).t ds G1 k E
 |.bcl f es,E,ρ,G,k=>aD Φ es E ρ G λds G1=>opB f (ds.map (view G1)) λd=>k d G1
 |.lcl fz f es,E,ρ,G,k=>aD Φ es E ρ G λds G1=>cz f (ds.map (view G1)) λxs=>mk fz xs G1 k
 |.isi a t,E,ρ,G,k=>wpE Φ a E ρ G λx G1=>match isT t (view G1 x) with |some b=>k (.bl b) G1 |none=>False
 |.isx a C xs,E,ρ,G,k=>wpE Φ a E ρ G λx G1=>je C xs x λb=>k (.bl b) G1
 |.fst es,E,ρ,G,k=>wpF Φ es E ρ G λl G1=>l.length<=sz/\k (.str l) G1
 |.srs fz a,E,ρ,G,k=>wpE Φ a E ρ G λd G1=>fu (view G1 d) λxs=>mk fz xs G1 k
 |.rgl fz a,E,ρ,G,k=>wpE Φ a E ρ G λd G1=>match d with |.int n=>(0<=n/\n<=1000)/\mk fz (bR 0 n.toNat) G1 k |_=>False
 |.rpl f a b ix,E,ρ,G,k=>wpE Φ a E ρ G λda G1=>wpE Φ b E ρ G1 λdb G2=>bO (view G2 db) (.int 0) λd0=>(Φ f).t [da,d0] G2 (λd G3=>q9 d λl=>wpE Φ ix E ρ G3 λi G4=>rm i l λm=>k (.str m) G4) E
 |.fld C f o,E,ρ,G,k=>wpE Φ o E ρ G λd G1=>qZ C f d λq=>k (.ref q) G1
 |.mcl f C m o es,E,ρ,G,k=>wpE Φ o E ρ G λd G1=>mj C m d/\aD Φ es E ρ G1 λds G2=>(Φ f).t (d::ds) G2 k E
 |.mko C es,E,ρ,G,k=>aD Φ es E ρ G λds G1=>(Φ C).t ds G1 k E
 |.mkx C a,E,ρ,G,k=>wpE Φ a E ρ G λ_ G1=>k (.exn C) G1
 |.mki C f a,E,ρ,G,k=>wpE Φ a E ρ G λd G1=>okA d/\k (.exa C f d) G1
 |.xat C f a,E,ρ,G,k=>wpE Φ a E ρ G λd G1=>g8 C f d λv=>k v G1
 |.pp0 o,E,ρ,G,k=>wpE Φ o E ρ G λd G1=>q8 d G1 k
 |.rgt a,E,ρ,G,k=>wpE Φ a E ρ G λd G1=>match d with |.int n=>(0<=n/\n<=1000)/\k (.tup (bR 0 n.toNat)) G1 |_=>False
 |.mth m o es,E,ρ,G,k=>wpE Φ o E ρ G λx G1=>recv m x G1/\aD Φ es E ρ G1 λds G2=>opM m x ds G2 k
 |.comp fz elt tg it cond _ cap,E,ρ,G,k=>wpI Φ it E ρ G λitems g G1=>
   compLoop (λd ρ' G' k'=>aJ tg d ρ' G' λρ1=>wpT Φ cond noE ρ1 G' λb G2=>match b with |true=>wpE Φ elt noE ρ1 G2 λy G3=>k' (some y) ρ1 G3 |false=>k' none ρ1 G2)
    g items [] (cap.map λo=>match o with |none=>none |some j=>(ρ[j]?).join) G1 λds G2=>mk fz ds G2 k
 |.cm3 elt t1 i1 t2 i2 t3 i3 _ cap,E,ρ,G,k=>wpI Φ i1 E ρ G λitems g G1=>cV (λd acc ρ' G' k1=>aJ t1 d ρ' G' λρ1=>wpI Φ i2 noE ρ1 G' λitems2 g2 G2=>cV (λd acc ρ' G' k2=>aJ t2 d ρ' G' λρ1=>wpI Φ i3 noE ρ1 G' λitems3 g3 G3=>cV (λd acc ρ' G' k3=>aJ t3 d ρ' G' λρ1=>acc.length < sz/\wpE Φ elt noE ρ1 G' λy G4=>k3 (acc++[y]) ρ1 G4) g3 items3 acc ρ1 G3 k2) g2 items2 acc ρ1 G2 k1) g items [] (cap.map λo=>match o with |none=>none |some j=>(ρ[j]?).join) G1 λds _ G2=>ds.length<=sz/\mk true ds G2 k
 |.frz a,E,ρ,G,k=>wpE Φ a E ρ G λx G1=>match x with |.ref p=>(match G1 p with |some (.lst ds)=>k (.lst ds) (fX G1 p) |none=>False) |d=>k d G1
/-- a test -/
def wpT(Φ:ak):Tx->EK->aj->DH->(Bool->DH->Prop)->Prop
 |.not a,E,ρ,G,k=>wpT Φ a E ρ G λb G1=>k (!b) G1
 |.boo isAnd e es,E,ρ,G,k=>wpT Φ e E ρ G λb G1=>eE Φ es isAnd b E ρ G1 k
 |.yes,_,_,G,k=>k true G
 |.val x,E,ρ,G,k=>wpE Φ x E ρ G λd G1=>match truth (view G1 d) with |some b=>k b G1 |none=>False
def wpF(Φ:ak):Exs->EK->aj->DH->(List Nat->DH->Prop)->Prop
 |.nil,_,_,G,k=>k [] G
 |.cons e es,E,ρ,G,k=>wpE Φ e E ρ G λd G1=>match d with
  |.str l=>l.length<=1000/\wpF Φ es E ρ G1 λx G2=>k (l++x) G2
  |.int i=>(0<=i/\i < 100)/\wpF Φ es E ρ G1 λx G2=>k (fj i.toNat++x) G2
  |_=>False
def aD(Φ:ak):Exs->EK->aj->DH->(List D->DH->Prop)->Prop
 |.nil,_,_,G,k=>k [] G
 |.cons e es,E,ρ,G,k=>wpE Φ e E ρ G λd G1=>aD Φ es E ρ G1 λds G2=>k (d::ds) G2
/-- and,or as values:truths alone;b:the one ahead -/
def wpB(Φ:ak):Exs->Bool->Bool->EK->aj->DH->(Bool->DH->Prop)->Prop
 |.nil,_,b,_,_,G,k=>k b G
 |.cons e es,isAnd,b,E,ρ,G,k=>match isAnd,b with
  |true,false=>k false G
  |false,true=>k true G
  |_,_=>wpE Φ e E ρ G λd G1=>match d with |.bl b'=>wpB Φ es isAnd b' E ρ G1 k |_=>False
def eE(Φ:ak):Txs->Bool->Bool->EK->aj->DH->(Bool->DH->Prop)->Prop
 |.nil,_,b,_,_,G,k=>k b G
 |.cons e es,isAnd,b,E,ρ,G,k=>match isAnd,b with
  |true,false=>k false G
  |false,true=>k true G
  |_,_=>wpT Φ e E ρ G λb' G1=>eE Φ es isAnd b' E ρ G1 k
/-- a bound of a slice -/
def wpO(Φ:ak):Ox->EK->aj->DH->(Option Int->DH->Prop)->Prop
 |.no,_,_,G,k=>k none G
 |.ob x,E,ρ,G,k=>wpE Φ x E ρ G λd G1=>match d with |.int i=>k (some i) G1 |_=>False
def wpI(Φ:ak):It'->EK->aj->DH->(List D->Hld->DH->Prop)->Prop
 |.seq e,E,ρ,G,k=>wpE Φ e E ρ G λd G1=>match itemsOf G1 d with |some ds=>k ds.1 ds.2 G1 |none=>False
 |.rng a,E,ρ,G,k=>wpE Φ a E ρ G λd G1=>match d with |.int n=>(-(2 ^ 62)<=n/\n < 2 ^ 62)/\k (bR 0 n.toNat) [] G1 |_=>False
 |.rng2 a b,E,ρ,G,k=>wpE Φ a E ρ G λx G1=>wpE Φ b E ρ G1 λy G2=>match x,y with
  |.int m,.int n=>(-(2 ^ 62)<=m/\m < 2 ^ 62/\-(2 ^ 62)<=n/\n < 2 ^ 62)/\k (bR m (n - m).toNat) [] G2
  |_,_=>False
 |.rev a,E,ρ,G,k=>wpE Φ a E ρ G λd G1=>match d with |.int n=>(-(2 ^ 62)<=n/\n < 2 ^ 62)/\k (mq ((n.toNat:Int) - 1) n.toNat) [] G1 |_=>False
 |.dwn a b c,E,ρ,G,k=>wpE Φ a E ρ G λx G1=>wpE Φ b E ρ G1 λy G2=>wpE Φ c E ρ G2 λz G3=>match x,y,z with
  |.int m,.int n,.int s=>(s=-1/\-(2 ^ 62)<=m/\m < 2 ^ 62/\-(2 ^ 62)<=n/\n < 2 ^ 62)/\k (mq m (m - n).toNat) [] G3
  |_,_,_=>False
 |.enm e,E,ρ,G,k=>wpE Φ e E ρ G λd G1=>match itemsOf G1 d with |some ds=>k (bQ 0 ds.1) ds.2 G1 |none=>False
 |.en1 e,E,ρ,G,k=>wpE Φ e E ρ G λd G1=>match d with |.lst ds=>k (bQ 1 ds) [] G1 |_=>False
 |.zip a b,E,ρ,G,k=>wpE Φ a E ρ G λx G1=>wpE Φ b E ρ G1 λy G2=>match itemsOf G2 x,itemsOf G2 y with |some ds,some es=>k (bx ds.1 es.1) (ds.2++es.2) G2 |_,_=>False
end
structure En where
 nx:aj->DH->Prop
 rt:D->DH->Prop
 bk:aj->DH->Prop
 ct:aj->DH->Prop
noncomputable def forLoop(step:D->aj->DH->(aj->DH->Prop)->Prop)(g:Hld):List D->aj->DH->(aj->DH->Prop)->Prop
 |[],ρ,G,k=>held g G/\k ρ G
 |d::ds,ρ,G,k=>held g G/\step d ρ G λρ' G'=>forLoop step g ds ρ' G' k
def whileLoop(test:aj->DH->(Bool->DH->Prop)->Prop)(body:aj->DH->(aj->DH->Prop)->Prop):Nat->aj->DH->(aj->DH->Prop)->Prop
 |0,_,_,_=>False
 |n+1,ρ,G,k=>test ρ G λb G1=>match b with |true=>body ρ G1 λρ' G'=>whileLoop test body n ρ' G' k |false=>k ρ G1
def dq(o i x:D)(G:DH)(k:DH->Prop):Prop:=
 match o,i with
 |.ref p,.int i=>match G p with |some (.lst ds)=>(match ixN ds.length i with |some j=>k (aX G p (.lst (ds.set j x))) |none=>False) |none=>False
 |_,_=>False
def cW(op:Operator)(a b:D)(k:D->Prop):Prop:=
 match op,a,b with
 |.Add,.int i,.int j=>k (.int (i+j))
 |.Add,.str x,.str y=>x.length+y.length<=sz/\k (.str (x++y))
 |.Sub,.int i,.int j=>k (.int (i - j))
 |_,_,_=>False
def xN:D->Bool
 |.int i=>decide (0<=i)&&decide (i < 100)
 |_=>false
def wpM(Φ:ak):Exs->EK->aj->DH->(DH->Prop)->Prop
 |.nil,_,_,G,k=>k G
 |.cons e es,E,ρ,G,k=>wpE Φ e E ρ G λd G1=>xN d=true/\wpM Φ es E ρ G1 k
def wpX(Φ:ak):Tb->aj->DH->(aj->DH->Prop)->(Xn->aj->DH->Prop)->Prop
 |.call f es,ρ,G,nx,ex=>aD Φ es noE ρ G λds G1=>(Φ f).t ds G1 (λ_ G2=>nx ρ G2) λx G2=>ex x ρ G2
 |.asg i f es,ρ,G,nx,ex=>aD Φ es noE ρ G λds G1=>(Φ f).t ds G1 (λd G2=>nx (ρ.set i (some d)) G2) λx G2=>ex x ρ G2
 |.pick f g i es,ρ,G,nx,ex=>wpE Φ (.var i) noE ρ G λd G1=>∃b:Bool,d=.int (if b then 1 else 0)/\aD Φ es noE ρ G1 λds G2=>(Φ (if b then g else f)).t ds G2 (λ_ G3=>nx ρ G3) λx G3=>ex x ρ G3
 |.ite c a b,ρ,G,nx,ex=>wpT Φ c noE ρ G λt G1=>match t with |true=>wpX Φ a ρ G1 nx ex |false=>wpX Φ b ρ G1 nx ex
 |.mcl f C m o es,ρ,G,nx,ex=>wpE Φ o noE ρ G λd G1=>mj C m d/\aD Φ es noE ρ G1 λds G2=>(Φ f).t (d::ds) G2 (λ_ G3=>nx ρ G3) λx G3=>ex x ρ G3
 |.mko C es,ρ,G,nx,ex=>aD Φ es noE ρ G λds G1=>(Φ C).t ds G1 (λ_ G2=>nx ρ G2) λx G2=>ex x ρ G2
def caught(h:Hd)(C:String)(ρ:aj):aj:=match h with
 |.flag i b=>ρ.set i (some (.bl b))
 |.bind n i=>((ρ.set n (some (.exn C))).set i (some (.exn C))).set n none
mutual
def wpS(Φ:ak):Sx->EK->aj->DH->En->Prop
 |.exp e,E,ρ,G,D=>wpE Φ e E ρ G λ_ G1=>D.nx ρ G1
 |.star i j e,E,ρ,G,D=>wpE Φ e E ρ G λd G1=>jf i j d ρ G1 D.nx
 |.asg t e,E,ρ,G,D=>wpE Φ e E ρ G λd G1=>aJ t d ρ G1 λρ'=>D.nx ρ' G1
 |.set o i e,E,ρ,G,D=>wpE Φ e E ρ G λx G1=>wpE Φ o E ρ G1 λa G2=>wpE Φ i E ρ G2 λy G3=>dq a y x G3 λG4=>D.nx ρ G4
 |.aug i op e,E,ρ,G,D=>match ρ[i]? with
  |some (some a)=>wpE Φ e E ρ G λb G1=>cW op a b λc=>D.nx (ρ.set i (some c)) G1
  |_=>False
 |.augs o i op e,E,ρ,G,D=>wpE Φ o E ρ G λa G1=>wpE Φ i E ρ G1 λy G2=>bO (view G2 a) y λold=>wpE Φ e E ρ G2 λb G3=>cW op old b λc=>dq a y c G3 λG4=>D.nx ρ G4
 |.ret e,E,ρ,G,D=>wpE Φ e E ρ G D.rt
 |.rtn,_,_,G,D=>D.rt .non G
 |.ite c a b,E,ρ,G,D=>wpT Φ c E ρ G λt G1=>match t with |true=>aA Φ a E ρ G1 D |false=>aA Φ b E ρ G1 D
 |.for_ t it body,E,ρ,G,D=>wpI Φ it E ρ G λitems g G1=>
   forLoop (λd ρ' G' k=>aJ t d ρ' G' λρ1=>aA Φ body E ρ1 G' { D with nx:=k,ct:=k,bk:=D.nx }) g items ρ G1 D.nx
 |.whl c body,E,ρ,G,D=>∃n,whileLoop (λρ' G' k=>wpT Φ c E ρ' G' k) (λρ' G' k=>aA Φ body E ρ' G' { D with nx:=k,ct:=k,bk:=D.nx }) n ρ G D.nx
 |.pas,_,ρ,G,D=>D.nx ρ G
 |.brk,_,ρ,G,D=>D.bk ρ G
 |.cnt,_,ρ,G,D=>D.ct ρ G
 |.nev,_,_,_,_=>False
 |.rse C es,E,ρ,G,_=>wpM Φ es E ρ G λG1=>E ⟨C,.non⟩ G1
 |.tryc f es C i b,_,ρ,G,D=>aD Φ es noE ρ G λds G1=>(Φ f).t ds G1 (λ_ G2=>D.nx ρ G2) λx G2=>x.cls=C/\x.fld=.non/\D.nx (ρ.set i (some (.bl b))) G2
 |.tryx b C h xs,_,ρ,G,D=>wpX Φ b ρ G D.nx λx ρ' G'=>x.fld=.non/\xs.contains x.cls=true/\dJ x.cls C=true/\D.nx (caught h x.cls ρ') G'
def aA(Φ:ak):Sxs->EK->aj->DH->En->Prop
 |.nil,_,ρ,G,D=>D.nx ρ G
 |.cons s r,E,ρ,G,D=>wpS Φ s E ρ G { D with nx:=λρ' G'=>aA Φ r E ρ' G' D }
end
theorem my{Φ:ak}{a}{E}{ρ}{G}{k}:wpT Φ (.not a) E ρ G k=(wpT Φ a E ρ G λb G1=>k (!b) G1):=rfl
theorem mz{Φ:ak}{isAnd}{e}{es}{E}{ρ}{G}{k}:wpT Φ (.boo isAnd e es) E ρ G k=(wpT Φ e E ρ G λb G1=>eE Φ es isAnd b E ρ G1 k):=rfl
theorem mC{Φ:ak}{E}{ρ}{G}{k}:wpT Φ .yes E ρ G k=(k true G):=rfl
theorem ie{Φ:ak}{x}{E}{ρ}{G}{k}:wpT Φ (.val x) E ρ G k=(wpE Φ x E ρ G λd G1=>match truth (view G1 d) with |some b=>k b G1 |none=>False):=rfl
theorem fB{Φ:ak}{E}{ρ}{G}{k}:aD Φ .nil E ρ G k=(k [] G):=rfl
theorem eF{Φ:ak}{e}{es}{E}{ρ}{G}{k}:aD Φ (.cons e es) E ρ G k=(wpE Φ e E ρ G λd G1=>aD Φ es E ρ G1 λds G2=>k (d::ds) G2):=rfl
theorem mD{Φ:ak}{isAnd:Bool}{b:Bool}{E}{ρ}{G}{k}:wpB Φ .nil isAnd b E ρ G k=(k b G):=rfl
theorem jg{Φ:ak}{e}{es}{isAnd:Bool}{b:Bool}{E}{ρ}{G}{k}:wpB Φ (.cons e es) isAnd b E ρ G k=(match isAnd,b with
  |true,false=>k false G
  |false,true=>k true G
  |_,_=>wpE Φ e E ρ G λd G1=>match d with |.bl b'=>wpB Φ es isAnd b' E ρ G1 k |_=>False):=rfl
theorem mF{Φ:ak}{isAnd:Bool}{b:Bool}{E}{ρ}{G}{k}:eE Φ .nil isAnd b E ρ G k=(k b G):=rfl
theorem jh{Φ:ak}{e}{es}{isAnd:Bool}{b:Bool}{E}{ρ}{G}{k}:eE Φ (.cons e es) isAnd b E ρ G k=(match isAnd,b with
  |true,false=>k false G
  |false,true=>k true G
  |_,_=>wpT Φ e E ρ G λb' G1=>eE Φ es isAnd b' E ρ G1 k):=rfl
theorem mG{Φ:ak}{E}{ρ}{G}{k}:wpO Φ .no E ρ G k=(k none G):=rfl
theorem mH{Φ:ak}{x}{E}{ρ}{G}{k}:wpO Φ (.ob x) E ρ G k=(wpE Φ x E ρ G λd G1=>match d with |.int i=>k (some i) G1 |_=>False):=rfl
theorem mJ{Φ:ak}{e}{E}{ρ}{G}{k}:wpI Φ (.seq e) E ρ G k=(wpE Φ e E ρ G λd G1=>match itemsOf G1 d with |some ds=>k ds.1 ds.2 G1 |none=>False):=rfl
theorem mK{Φ:ak}{a}{E}{ρ}{G}{k}:wpI Φ (.rng a) E ρ G k=(wpE Φ a E ρ G λd G1=>match d with |.int n=>(-(2 ^ 62)<=n/\n < 2 ^ 62)/\k (bR 0 n.toNat) [] G1 |_=>False):=rfl
theorem rn{Φ:ak}{a}{b}{E}{ρ}{G}{k}:wpI Φ (.rng2 a b) E ρ G k=(wpE Φ a E ρ G λx G1=>wpE Φ b E ρ G1 λy G2=>match x,y with
  |.int m,.int n=>(-(2 ^ 62)<=m/\m < 2 ^ 62/\-(2 ^ 62)<=n/\n < 2 ^ 62)/\k (bR m (n - m).toNat) [] G2
  |_,_=>False):=rfl
theorem rz{Φ:ak}{a}{E}{ρ}{G}{k}:wpI Φ (.rev a) E ρ G k=(wpE Φ a E ρ G λd G1=>match d with |.int n=>(-(2 ^ 62)<=n/\n < 2 ^ 62)/\k (mq ((n.toNat:Int) - 1) n.toNat) [] G1 |_=>False):=rfl
theorem rA{Φ:ak}{a}{b}{c}{E}{ρ}{G}{k}:wpI Φ (.dwn a b c) E ρ G k=(wpE Φ a E ρ G λx G1=>wpE Φ b E ρ G1 λy G2=>wpE Φ c E ρ G2 λz G3=>match x,y,z with
  |.int m,.int n,.int s=>(s=-1/\-(2 ^ 62)<=m/\m < 2 ^ 62/\-(2 ^ 62)<=n/\n < 2 ^ 62)/\k (mq m (m - n).toNat) [] G3
  |_,_,_=>False):=rfl
theorem mL{Φ:ak}{e}{E}{ρ}{G}{k}:wpI Φ (.enm e) E ρ G k=(wpE Φ e E ρ G λd G1=>match itemsOf G1 d with |some ds=>k (bQ 0 ds.1) ds.2 G1 |none=>False):=rfl
theorem mO{Φ:ak}{a}{b}{E}{ρ}{G}{k}:wpI Φ (.zip a b) E ρ G k=(wpE Φ a E ρ G λx G1=>wpE Φ b E ρ G1 λy G2=>match itemsOf G2 x,itemsOf G2 y with |some ds,some es=>k (bx ds.1 es.1) (ds.2++es.2) G2 |_,_=>False):=rfl
theorem ji{Φ:ak}{E}{ρ}{G}{D}:aA Φ .nil E ρ G D=(D.nx ρ G):=rfl
theorem ig{Φ:ak}{s}{r}{E}{ρ}{G}{D}:aA Φ (.cons s r) E ρ G D=(wpS Φ s E ρ G { D with nx:=λρ' G'=>aA Φ r E ρ' G' D }):=rfl
theorem mQ{Φ:ak}{i E ρ G k}:wpE Φ (.var i) E ρ G k=(match ρ[i]? with |some (some d)=>k d G |_=>False):=rfl
theorem fG{Φ:ak}{d E ρ G k}:wpE Φ (.cst d) E ρ G k=(k d G):=rfl
theorem rB{Φ:ak}{u0 d E ρ G k}:wpE Φ (.glb u0 d) E ρ G k=(k d G):=rfl
theorem mR{Φ:ak}{op fz a b E ρ G k}:wpE Φ (.bin op fz a b) E ρ G k=(wpE Φ a E ρ G λx G1=>wpE Φ b E ρ G1 λy G2=>bN op fz (view G2 x) (view G2 y) G2 k):=rfl
theorem rD{Φ:ak}{a E ρ G k}:wpE Φ (.neg a) E ρ G k=(wpE Φ a E ρ G λx G1=>match x with |.int i=>k (.int (-i)) G1 |_=>False):=rfl
theorem jj{Φ:ak}{op a b E ρ G k}:wpE Φ (.cmp op a b) E ρ G k=(wpE Φ a E ρ G λx G1=>wpE Φ b E ρ G1 λy G2=>aP op (view G2 x) (view G2 y) λc=>k (.bl c) G2):=rfl
theorem jk{Φ:ak}{op op' a b c E ρ G k}:wpE Φ (.chn op op' a b c) E ρ G k=(wpE Φ a E ρ G λx G1=>wpE Φ b E ρ G1 λy G2=>aP op (view G2 x) (view G2 y) λt=>
   match t with
   |true=>wpE Φ c E ρ G2 λz G3=>aP op' (view G3 y) (view G3 z) λt'=>k (.bl t') G3
   |false=>k (.bl false) G2):=rfl
theorem rE{Φ:ak}{a E ρ G k}:wpE Φ (.not a) E ρ G k=(wpE Φ a E ρ G λx G1=>match truth (view G1 x) with |some b=>k (.bl (!b)) G1 |none=>False):=rfl
theorem mU{Φ:ak}{isAnd e es E ρ G k}:wpE Φ (.boo isAnd e es) E ρ G k=(wpE Φ e E ρ G λd G1=>match d with |.bl b=>wpB Φ es isAnd b E ρ G1 (λc G2=>k (.bl c) G2) |_=>False):=rfl
theorem rF{Φ:ak}{c a b E ρ G k}:wpE Φ (.ife c a b) E ρ G k=(wpT Φ c E ρ G λt G1=>match t with |true=>wpE Φ a E ρ G1 k |false=>wpE Φ b E ρ G1 k):=rfl
theorem mV{Φ:ak}{es E ρ G k}:wpE Φ (.tup es) E ρ G k=(aD Φ es E ρ G λds G1=>ds.length<=sz/\k (.tup ds) G1):=rfl
theorem mW{Φ:ak}{fz es E ρ G k}:wpE Φ (.lst fz es) E ρ G k=(aD Φ es E ρ G λds G1=>ds.length<=sz/\mk fz ds G1 k):=rfl
theorem mX{Φ:ak}{a i E ρ G k}:wpE Φ (.idx a i) E ρ G k=(wpE Φ a E ρ G λx G1=>wpE Φ i E ρ G1 λy G2=>bO (view G2 x) y λd=>k d G2):=rfl
theorem rG{Φ:ak}{fz a s E ρ G k}:wpE Φ (.rvs fz a s) E ρ G k=(wpE Φ a E ρ G λx G1=>wpE Φ s E ρ G1 λy G2=>gZ fz (view G2 x) y G2 k):=rfl
theorem mY{Φ:ak}{fz a lo hi E ρ G k}:wpE Φ (.slc fz a lo hi) E ρ G k=(wpE Φ a E ρ G λx G1=>wpO Φ lo E ρ G1 λl G2=>wpO Φ hi E ρ G2 λh G3=>dj fz (view G3 x) l h G3 k):=rfl
theorem mZ{Φ:ak}{f es E ρ G k}:wpE Φ (.call f es) E ρ G k=(aD Φ es E ρ G λds G1=>(Φ f).t ds G1 k E):=rfl
theorem m5{Φ:ak}{f es E ρ G k}:wpE Φ (.bcl f es) E ρ G k=(aD Φ es E ρ G λds G1=>opB f (ds.map (view G1)) λd=>k d G1):=rfl
theorem m7{Φ:ak}{fz f es E ρ G k}:wpE Φ (.lcl fz f es) E ρ G k=(aD Φ es E ρ G λds G1=>cz f (ds.map (view G1)) λxs=>mk fz xs G1 k):=rfl
theorem m8{Φ:ak}{a t E ρ G k}:wpE Φ (.isi a t) E ρ G k=(wpE Φ a E ρ G λx G1=>match isT t (view G1 x) with |some b=>k (.bl b) G1 |none=>False):=rfl
theorem rH{Φ:ak}{a C xs E ρ G k}:wpE Φ (.isx a C xs) E ρ G k=(wpE Φ a E ρ G λx G1=>je C xs x λb=>k (.bl b) G1):=rfl
theorem m9{Φ:ak}{fz a E ρ G k}:wpE Φ (.srs fz a) E ρ G k=(wpE Φ a E ρ G λd G1=>fu (view G1 d) λxs=>mk fz xs G1 k):=rfl
theorem rJ{Φ:ak}{fz a E ρ G k}:wpE Φ (.rgl fz a) E ρ G k=(wpE Φ a E ρ G λd G1=>match d with |.int n=>(0<=n/\n<=1000)/\mk fz (bR 0 n.toNat) G1 k |_=>False):=rfl
theorem Rv{Φ:ak}{f a b ix E ρ G k}:wpE Φ (.rpl f a b ix) E ρ G k=(wpE Φ a E ρ G λda G1=>wpE Φ b E ρ G1 λdb G2=>bO (view G2 db) (.int 0) λd0=>(Φ f).t [da,d0] G2 (λd G3=>q9 d λl=>wpE Φ ix E ρ G3 λi G4=>rm i l λm=>k (.str m) G4) E):=rfl
theorem rK{Φ:ak}{C f o E ρ G k}:wpE Φ (.fld C f o) E ρ G k=(wpE Φ o E ρ G λd G1=>qZ C f d λq=>k (.ref q) G1):=rfl
theorem rM{Φ:ak}{f C m o es E ρ G k}:wpE Φ (.mcl f C m o es) E ρ G k=(wpE Φ o E ρ G λd G1=>mj C m d/\aD Φ es E ρ G1 λds G2=>(Φ f).t (d::ds) G2 k E):=rfl
theorem ni{Φ:ak}{C a E ρ G k}:wpE Φ (.mkx C a) E ρ G k=(wpE Φ a E ρ G λ_ G1=>k (.exn C) G1):=rfl
theorem nq{Φ:ak}{C f a E ρ G k}:wpE Φ (.mki C f a) E ρ G k=(wpE Φ a E ρ G λd G1=>okA d/\k (.exa C f d) G1):=rfl
theorem nu{Φ:ak}{C f a E ρ G k}:wpE Φ (.xat C f a) E ρ G k=(wpE Φ a E ρ G λd G1=>g8 C f d λv=>k v G1):=rfl
theorem rN{Φ:ak}{C es E ρ G k}:wpE Φ (.mko C es) E ρ G k=(aD Φ es E ρ G λds G1=>(Φ C).t ds G1 k E):=rfl
theorem rO{Φ:ak}{o E ρ G k}:wpE Φ (.pp0 o) E ρ G k=(wpE Φ o E ρ G λd G1=>q8 d G1 k):=rfl
theorem rP{Φ:ak}{a E ρ G k}:wpE Φ (.rgt a) E ρ G k=(wpE Φ a E ρ G λd G1=>match d with |.int n=>(0<=n/\n<=1000)/\k (.tup (bR 0 n.toNat)) G1 |_=>False):=rfl
theorem rQ{Φ:ak}{es E ρ G k}:wpE Φ (.fst es) E ρ G k=(wpF Φ es E ρ G λl G1=>l.length<=sz/\k (.str l) G1):=rfl
theorem rR{Φ:ak}{E ρ G k}:wpF Φ .nil E ρ G k=k [] G:=rfl
theorem rT{Φ:ak}{e es E ρ G k}:wpF Φ (.cons e es) E ρ G k=(wpE Φ e E ρ G λd G1=>match d with
  |.str l=>l.length<=1000/\wpF Φ es E ρ G1 λx G2=>k (l++x) G2
  |.int i=>(0<=i/\i < 100)/\wpF Φ es E ρ G1 λx G2=>k (fj i.toNat++x) G2
  |_=>False):=rfl
theorem cX{Φ:ak}{m o es E ρ G k}:wpE Φ (.mth m o es) E ρ G k=(wpE Φ o E ρ G λx G1=>recv m x G1/\aD Φ es E ρ G1 λds G2=>opM m x ds G2 k):=rfl
theorem nA{Φ:ak}{a E ρ G k}:wpE Φ (.frz a) E ρ G k=(wpE Φ a E ρ G λx G1=>match x with |.ref p=>(match G1 p with |some (.lst ds)=>k (.lst ds) (fX G1 p) |none=>False) |d=>k d G1):=rfl
theorem nF{Φ:ak}{e E ρ G D}:wpS Φ (.exp e) E ρ G D=(wpE Φ e E ρ G λ_ G1=>D.nx ρ G1):=rfl
theorem nG{Φ:ak}{i j e E ρ G D}:wpS Φ (.star i j e) E ρ G D=(wpE Φ e E ρ G λd G1=>jf i j d ρ G1 D.nx):=rfl
theorem nH{Φ:ak}{e}{E}{ρ}{G}{k}:wpI Φ (.en1 e) E ρ G k=(wpE Φ e E ρ G λd G1=>match d with |.lst ds=>k (bQ 1 ds) [] G1 |_=>False):=rfl
theorem ik{Φ:ak}{t e E ρ G D}:wpS Φ (.asg t e) E ρ G D=(wpE Φ e E ρ G λd G1=>aJ t d ρ G1 λρ'=>D.nx ρ' G1):=rfl
theorem nJ{Φ:ak}{o i e E ρ G D}:wpS Φ (.set o i e) E ρ G D=(wpE Φ e E ρ G λx G1=>wpE Φ o E ρ G1 λa G2=>wpE Φ i E ρ G2 λy G3=>dq a y x G3 λG4=>D.nx ρ G4):=rfl
theorem nM{Φ:ak}{i op e E ρ G D}:wpS Φ (.aug i op e) E ρ G D=(match ρ[i]? with
  |some (some a)=>wpE Φ e E ρ G λb G1=>cW op a b λc=>D.nx (ρ.set i (some c)) G1
  |_=>False):=rfl
theorem rU{Φ:ak}{o i op e E ρ G D}:wpS Φ (.augs o i op e) E ρ G D=(wpE Φ o E ρ G λa G1=>wpE Φ i E ρ G1 λy G2=>bO (view G2 a) y λold=>wpE Φ e E ρ G2 λb G3=>cW op old b λc=>dq a y c G3 λG4=>D.nx ρ G4):=rfl
theorem nO{Φ:ak}{e E ρ G D}:wpS Φ (.ret e) E ρ G D=(wpE Φ e E ρ G D.rt):=rfl
theorem nP{Φ:ak}{E ρ G D}:wpS Φ .rtn E ρ G D=(D.rt .non G):=rfl
theorem nQ{Φ:ak}{c a b E ρ G D}:wpS Φ (.ite c a b) E ρ G D=(wpT Φ c E ρ G λt G1=>match t with |true=>aA Φ a E ρ G1 D |false=>aA Φ b E ρ G1 D):=rfl
theorem nR{Φ:ak}{E ρ G D}:wpS Φ .pas E ρ G D=(D.nx ρ G):=rfl
theorem nT{Φ:ak}{E ρ G D}:wpS Φ .brk E ρ G D=(D.bk ρ G):=rfl
theorem nU{Φ:ak}{E ρ G D}:wpS Φ .cnt E ρ G D=(D.ct ρ G):=rfl
theorem rW{Φ:ak}{C es E ρ G D}:wpS Φ (.rse C es) E ρ G D=(wpM Φ es E ρ G λG1=>E ⟨C,.non⟩ G1):=rfl
theorem xO{Φ:ak}{E ρ G k}:wpM Φ .nil E ρ G k=k G:=rfl
theorem xP{Φ:ak}{e es E ρ G k}:wpM Φ (.cons e es) E ρ G k=(wpE Φ e E ρ G λd G1=>xN d=true/\wpM Φ es E ρ G1 k):=rfl
theorem rY{Φ:ak}{f es C i b E ρ G D}:wpS Φ (.tryc f es C i b) E ρ G D=(aD Φ es noE ρ G λds G1=>(Φ f).t ds G1 (λ_ G2=>D.nx ρ G2) λx G2=>x.cls=C/\x.fld=.non/\D.nx (ρ.set i (some (.bl b))) G2):=rfl
theorem rZ{Φ:ak}{b C h xs E ρ G D}:wpS Φ (.tryx b C h xs) E ρ G D=(wpX Φ b ρ G D.nx λx ρ' G'=>x.fld=.non/\xs.contains x.cls=true/\dJ x.cls C=true/\D.nx (caught h x.cls ρ') G'):=rfl
theorem sr{Φ:ak}{f g i es ρ G nx ex}:wpX Φ (.pick f g i es) ρ G nx ex=(wpE Φ (.var i) noE ρ G λd G1=>∃b:Bool,d=.int (if b then 1 else 0)/\aD Φ es noE ρ G1 λds G2=>(Φ (if b then g else f)).t ds G2 (λ_ G3=>nx ρ G3) λx G3=>ex x ρ G3):=rfl
theorem su{Φ:ak}{f C m o es ρ G nx ex}:wpX Φ (.mcl f C m o es) ρ G nx ex=(wpE Φ o noE ρ G λd G1=>mj C m d/\aD Φ es noE ρ G1 λds G2=>(Φ f).t (d::ds) G2 (λ_ G3=>nx ρ G3) λx G3=>ex x ρ G3):=rfl
theorem sy{Φ:ak}{C es ρ G nx ex}:wpX Φ (.mko C es) ρ G nx ex=(aD Φ es noE ρ G λds G1=>(Φ C).t ds G1 (λ_ G2=>nx ρ G2) λx G2=>ex x ρ G2):=rfl
theorem sE{Φ:ak}{f es ρ G nx ex}:wpX Φ (.call f es) ρ G nx ex=(aD Φ es noE ρ G λds G1=>(Φ f).t ds G1 (λ_ G2=>nx ρ G2) λx G2=>ex x ρ G2):=rfl
theorem sG{Φ:ak}{i f es ρ G nx ex}:wpX Φ (.asg i f es) ρ G nx ex=(aD Φ es noE ρ G λds G1=>(Φ f).t ds G1 (λd G2=>nx (ρ.set i (some d)) G2) λx G2=>ex x ρ G2):=rfl
theorem sH{Φ:ak}{c a b ρ G nx ex}:wpX Φ (.ite c a b) ρ G nx ex=(wpT Φ c noE ρ G λt G1=>match t with |true=>wpX Φ a ρ G1 nx ex |false=>wpX Φ b ρ G1 nx ex):=rfl
theorem nW{Φ:ak}{E ρ G D}:wpS Φ .nev E ρ G D=(False):=rfl
theorem sI{Φ:ak}{fz elt tg it cond N cap E ρ G k}:wpE Φ (.comp fz elt tg it cond N cap) E ρ G k=(wpI Φ it E ρ G λitems g G1=>
   compLoop (λd ρ' G' k'=>aJ tg d ρ' G' λρ1=>wpT Φ cond noE ρ1 G' λb G2=>match b with |true=>wpE Φ elt noE ρ1 G2 λy G3=>k' (some y) ρ1 G3 |false=>k' none ρ1 G2)
    g items [] (cap.map λo=>match o with |none=>none |some j=>(ρ[j]?).join) G1 λds G2=>mk fz ds G2 k):=rfl
theorem xQ{Φ:ak}{elt t1 i1 t2 i2 t3 i3 N cap E ρ G k}:wpE Φ (.cm3 elt t1 i1 t2 i2 t3 i3 N cap) E ρ G k=(wpI Φ i1 E ρ G λitems g G1=>cV (λd acc ρ' G' k1=>aJ t1 d ρ' G' λρ1=>wpI Φ i2 noE ρ1 G' λitems2 g2 G2=>cV (λd acc ρ' G' k2=>aJ t2 d ρ' G' λρ1=>wpI Φ i3 noE ρ1 G' λitems3 g3 G3=>cV (λd acc ρ' G' k3=>aJ t3 d ρ' G' λρ1=>acc.length < sz/\wpE Φ elt noE ρ1 G' λy G4=>k3 (acc++[y]) ρ1 G4) g3 items3 acc ρ1 G3 k2) g2 items2 acc ρ1 G2 k1) g items [] (cap.map λo=>match o with |none=>none |some j=>(ρ[j]?).join) G1 λds _ G2=>ds.length<=sz/\mk true ds G2 k):=rfl
theorem xR{Φ:ak}{t it body E ρ G D}:wpS Φ (.for_ t it body) E ρ G D=(wpI Φ it E ρ G λitems g G1=>
   forLoop (λd ρ' G' k=>aJ t d ρ' G' λρ1=>aA Φ body E ρ1 G' { D with nx:=k,ct:=k,bk:=D.nx }) g items ρ G1 D.nx):=rfl
theorem Rw{Φ:ak}{c body E ρ G D}:wpS Φ (.whl c body) E ρ G D=(∃n,whileLoop (λρ' G' k=>wpT Φ c E ρ' G' k) (λρ' G' k=>aA Φ body E ρ' G' { D with nx:=k,ct:=k,bk:=D.nx }) n ρ G D.nx):=rfl
section
variable {k k':D->DH->Prop} {G:DH}
theorem b8{fz:Bool}{xs:List D}(h:∀d G',k d G'->k' d G')(q:mk fz xs G k):mk fz xs G k':=by
 cases fz with
 |true=>exact h _ _ q
 |false=>exact λp hp=>h _ _ (q p hp)
theorem xT{a b:D}{p:Int->Int->Prop}(h:eZ a b p):∃i j,a=.int i/\b=.int j/\p i j:=by
 cases a with
 |int i=>cases b with
  |int j=>exact ⟨i,j,rfl,rfl,h⟩
  |_=>exact h.elim
 |_=>exact h.elim
theorem nY{a b:D}{p q:Int->Int->Prop}(h:∀i j,p i j->q i j)(z:eZ a b p):eZ a b q:=by obtain ⟨i,j,rfl,rfl,z⟩:=xT z;exact h i j z
theorem xU{op:Operator}{fz:Bool}{a b:D}(h:∀d G',k d G'->k' d G')(q:bN op fz a b G k):bN op fz a b G k':=by
 cases op with
 |Add=>
  have q:gM fz a b G k:=q;show gM fz a b G k';unfold gM at q ⊢;cases a with
  |int i=>cases b <;> first |exact h _ _ q |exact q
  |str i=>cases b <;> first |exact ⟨q.1,h _ _ q.2⟩ |exact q
  |lst i=>cases b <;> first |exact ⟨q.1,b8 h q.2⟩ |exact q
  |tup i=>cases b <;> first |exact ⟨q.1,h _ _ q.2⟩ |exact q
  |_=>exact q
 |Sub=>exact nY (λ_ _ z=>h _ _ z) q
 |Mult=>
  have q:gO fz a b G k:=q;show gO fz a b G k';unfold gO at q ⊢;cases b with
  |int n=>cases a <;> first |exact ⟨q.1,h _ _ q.2⟩ |exact ⟨q.1,q.2.1,q.2.2.1,h _ _ q.2.2.2⟩ |exact ⟨q.1,q.2.1,q.2.2.1,b8 h q.2.2.2⟩ |exact ⟨q.1,q.2.1,q.2.2.1,q.2.2.2.1,h _ _ q.2.2.2.2⟩ |exact q
  |_=>exact q
 |FloorDiv=>exact nY (λ_ _ z=>⟨z.1,h _ _ z.2⟩) q
 |Mod=>exact nY (λ_ _ z=>⟨z.1,h _ _ z.2⟩) q
 |Pow=>exact nY (λ_ _ z=>⟨z.1,h _ _ z.2⟩) q
 |_=>exact q
theorem xV{a b:D}{k k':Bool->Prop}(h:∀c,k c->k' c)(q:d8 a b k):d8 a b k':=by
 unfold d8 at q ⊢;split at q
 ·split at q
  ·exact h _ q
  ·exact q
 ·exact ⟨q.1,h _ q.2⟩
 ·exact ⟨q.1,h _ q.2⟩
 ·exact q
theorem gb{op:CmpOp}{a b:D}{k k':Bool->Prop}(h:∀c,k c->k' c)(q:aP op a b k):aP op a b k':=by
 cases op with
 |Eq=>exact ⟨q.1,h _ q.2⟩
 |NotEq=>exact ⟨q.1,h _ q.2⟩
 |Lt=>have q:gP a b k:=q;show gP a b k';unfold gP at q ⊢;split at q <;> first |exact h _ q |exact q
 |LtE=>have q:gQ a b k:=q;show gQ a b k';unfold gQ at q ⊢;split at q <;> first |exact h _ q |exact q
 |Gt=>have q:gR a b k:=q;show gR a b k';unfold gR at q ⊢;split at q <;> first |exact h _ q |exact q
 |GtE=>have q:gU a b k:=q;show gU a b k';unfold gU at q ⊢;split at q <;> first |exact h _ q |exact q
 |Is=>
  have q:gW a b k:=q;show gW a b k';unfold gW at q ⊢;split at q
  ·exact h _ q
  ·split at q
   ·exact h _ q
   ·exact q
  ·exact q
 |IsNot=>
  have q:gY a b k:=q;show gY a b k';unfold gY at q ⊢;split at q
  ·exact h _ q
  ·split at q
   ·exact h _ q
   ·exact q
  ·exact q
 |In=>exact xV h q
 |NotIn=>exact xV (λc=>h _) q
theorem nZ{a i:D}{k k':D->Prop}(h:∀c,k c->k' c)(q:bO a i k):bO a i k':=by
 unfold bO at q ⊢;split at q
 ·split at q
  ·exact h _ q
  ·exact q
 ·split at q
  ·exact h _ q
  ·exact q
 ·split at q
  ·exact h _ q
  ·exact q
 ·exact q
theorem xW{fz:Bool}{a:D}{lo hi:Option Int}(h:∀d G',k d G'->k' d G')(q:dj fz a lo hi G k):dj fz a lo hi G k':=by
 unfold dj at q ⊢;split at q <;> first
  |exact b8 h q
  |exact h _ _ q
  |exact q.elim
theorem Rx{fz:Bool}{a y:D}(h:∀d G',k d G'->k' d G')(q:gZ fz a y G k):gZ fz a y G k':=by
 unfold gZ at q ⊢;split at q
 ·exact ⟨q.1,b8 h q.2⟩
 ·exact ⟨q.1,h _ _ q.2⟩
 ·exact q.elim
theorem xX{f:Bf}{as:List D}{k k':D->Prop}(h:∀c,k c->k' c)(q:opB f as k):opB f as k':=by
 cases f with
 |len=>simp only[opB,qO]at q ⊢;split at q <;> first |exact h _ q |exact q.elim
 |all=>
  simp only[opB,lO]at q ⊢;split at q
  ·split at q
   ·exact h _ q
   ·exact q
  ·exact q
 |int=>
  simp only[opB,lQ]at q ⊢;split at q
  ·exact h _ q
  ·exact h _ q
  ·split at q
   ·exact ⟨q.1,h _ q.2⟩
   ·exact q
  ·exact q
 |tuple=>simp only[opB,qP]at q ⊢;split at q <;> first |exact h _ q |exact q.elim
 |sum=>
  simp only[opB,qQ]at q ⊢;split at q
  ·split at q
   ·exact h _ q
   ·exact q
  ·exact q
 |min=>
  simp only[opB,xH]at q ⊢;split at q
  ·split at q
   ·exact ⟨q.1,λm h1 h2=>h _ (q.2 m h1 h2)⟩
   ·split at q
    ·exact λm h1 h2=>h _ (q m h1 h2)
    ·exact q
  ·exact q
 |max=>simp only[opB,xM]at q ⊢;split at q <;> first |exact h _ q |exact q.elim
 |abs=>simp only[opB,xJ]at q ⊢;split at q <;> first |exact h _ q |exact q.elim
 |min2=>simp only[opB,xK]at q ⊢;split at q <;> first |exact h _ q |exact q.elim
 |str=>
  simp only[opB,qR]at q ⊢;split at q
  ·exact ⟨q.1,h _ q.2⟩
  ·exact q
theorem Ry{d:D}{k k':List D->Prop}(h:∀c,k c->k' c)(q:fu d k):fu d k':=by
 unfold fu at q ⊢;split at q
 ·split at q
  ·exact ⟨q.1,λls p z=>h _ (q.2 ls p z)⟩
  ·exact q
 ·exact q
theorem xY{f:Lf}{as:List D}{k k':List D->Prop}(h:∀c,k c->k' c)(q:cz f as k):cz f as k':=by
 cases f with
 |list=>simp only[cz,qT]at q ⊢;split at q <;> first |exact h _ q |exact q.elim
 |sorted=>
  simp only[cz,lR]at q ⊢;split at q
  ·split at q
   ·exact ⟨q.1,λls p z=>h _ (q.2 ls p z)⟩
   ·exact q
  ·split at q
   ·exact ⟨q.1,λls p z=>h _ (q.2 ls p z)⟩
   ·exact q
  ·exact q
theorem dM{m:Mf}{o:D}{as:List D}(h:∀d G',k d G'->k' d G')(q:opM m o as G k):opM m o as G k':=by
 cases m with
 |join=>
  simp only[opM,lU]at q ⊢;split at q
  ·split at q
   ·exact ⟨q.1,h _ _ q.2⟩
   ·exact q
  ·exact q
 |find=>
  simp only[opM,qW]at q ⊢;split at q
  ·exact ⟨h _ _ q.1,λi hi=>h _ _ (q.2 i hi)⟩
  ·exact q
 |split=>
  simp only[opM,qX]at q ⊢;split at q
  ·exact ⟨q.1,h _ _ q.2⟩
  ·exact q
 |append=>
  simp only[opM,lV]at q ⊢;split at q
  ·split at q
   ·exact ⟨q.1,h _ _ q.2⟩
   ·exact q
  ·exact q
 |extend=>
  simp only[opM,lW]at q ⊢;split at q
  ·split at q
   ·exact ⟨q.1,h _ _ q.2⟩
   ·exact q
  ·exact q
 |insert=>
  simp only[opM,lX]at q ⊢;split at q
  ·split at q
   ·exact ⟨q.1,q.2.1,q.2.2.1,h _ _ q.2.2.2⟩
   ·exact q
  ·exact q
 |pop=>
  simp only[opM,qU]at q ⊢;split at q
  ·split at q
   ·refine ⟨q.1,q.2.1,?_⟩;have q2:=q.2.2;split at q2
    ·exact h _ _ q2
    ·exact q2
   ·exact q
  ·exact q
 |count=>
  simp only[opM,lY]at q ⊢;split at q
  ·split at q
   ·exact h _ _ q
   ·exact q
  ·exact q
 |index=>
  simp only[opM,lZ]at q ⊢;split at q
  ·split at q
   ·exact ⟨q.1,h _ _ q.2⟩
   ·exact q
  ·exact q
theorem sJ{o i x:D}{k k':DH->Prop}(h:∀G',k G'->k' G')(q:dq o i x G k):dq o i x G k':=by
 unfold dq at q ⊢;split at q
 ·split at q
  ·split at q
   ·exact h _ q
   ·exact q
  ·exact q
 ·exact q
theorem sO{op:Operator}{a b:D}{k k':D->Prop}(h:∀c,k c->k' c)(q:cW op a b k):cW op a b k':=by
 unfold cW at q ⊢;split at q <;> first
  |exact h _ q
  |exact ⟨q.1,h _ q.2⟩
  |exact q.elim
mutual
theorem cI{k k':aj->Prop}(h:∀ρ,k ρ->k' ρ):∀(t:Tg){d:D}{ρ:aj},aJ t d ρ G k->aJ t d ρ G k'
 |.nm i,d,ρ,q=>h _ q
 |.tp ts,d,ρ,q=>by
  unfold aJ at q ⊢;split at q
  ·exact sS h ts q
  ·exact sS h ts q
  ·exact q
theorem sS{k k':aj->Prop}(h:∀ρ,k ρ->k' ρ):∀(ts:Tgs){ds:List D}{ρ:aj},bu ts ds ρ G k->bu ts ds ρ G k'
 |.nil,ds,ρ,q=>by
  unfold bu at q ⊢;split at q
  ·exact h _ q
  ·exact q
 |.cons t r,ds,ρ,q=>by
  unfold bu at q ⊢;split at q
  ·exact cI (λρ' q'=>sS h r q') t q
  ·exact q
end
theorem n6{step step':D->aj->DH->(Option D->aj->DH->Prop)->Prop}(hs:∀d ρ G (k k':Option D->aj->DH->Prop),(∀o ρ' G',k o ρ' G'->k' o ρ' G')->step d ρ G k->step' d ρ G k')
  {g:Hld} {k k':List D->DH->Prop} (h:∀ds G',k ds G'->k' ds G'):∀(ds acc:List D)(ρ:aj)(G:DH),compLoop step g ds acc ρ G k->compLoop step' g ds acc ρ G k'
 |[],acc,ρ,G,q=>⟨q.1,q.2.1,h _ _ q.2.2⟩
 |d::ds,acc,ρ,G,q=>by
  refine ⟨q.1,q.2.1,hs d ρ G _ _ (λo ρ' G' z=>?_) q.2.2⟩;cases o with
  |some y=>exact n6 hs h ds (acc++[y]) ρ' G' z
  |none=>exact n6 hs h ds acc ρ' G' z
theorem n8{step step':D->List D->aj->DH->(List D->aj->DH->Prop)->Prop}(hs:∀d acc ρ G (k k':List D->aj->DH->Prop),(∀a ρ' G',k a ρ' G'->k' a ρ' G')->step d acc ρ G k->step' d acc ρ G k')
  {g:Hld} {k k':List D->aj->DH->Prop} (h:∀a ρ G',k a ρ G'->k' a ρ G'):∀(ds acc:List D)(ρ:aj)(G:DH),cV step g ds acc ρ G k->cV step' g ds acc ρ G k'
 |[],acc,ρ,G,q=>⟨q.1,h _ _ _ q.2⟩
 |d::ds,acc,ρ,G,q=>⟨q.1,hs d acc ρ G _ _ (λa ρ' G' z=>n8 hs h ds a ρ' G' z) q.2⟩
theorem xZ{step step':D->aj->DH->(aj->DH->Prop)->Prop}(hs:∀d ρ G (k k':aj->DH->Prop),(∀ρ' G',k ρ' G'->k' ρ' G')->step d ρ G k->step' d ρ G k')
  {g:Hld} {k k':aj->DH->Prop} (h:∀ρ G',k ρ G'->k' ρ G'):∀(ds:List D)(ρ:aj)(G:DH),forLoop step g ds ρ G k->forLoop step' g ds ρ G k'
 |[],ρ,G,q=>⟨q.1,h _ _ q.2⟩
 |d::ds,ρ,G,q=>⟨q.1,hs d ρ G _ _ (λρ' G' z=>xZ hs h ds ρ' G' z) q.2⟩
theorem yc{test test':aj->DH->(Bool->DH->Prop)->Prop}{body body':aj->DH->(aj->DH->Prop)->Prop}
  (ht:∀ρ G (k k':Bool->DH->Prop),(∀b G',k b G'->k' b G')->test ρ G k->test' ρ G k') (hb:∀ρ G (k k':aj->DH->Prop),(∀ρ' G',k ρ' G'->k' ρ' G')->body ρ G k->body' ρ G k')
  {k k':aj->DH->Prop} (h:∀ρ G',k ρ G'->k' ρ G'):∀(n:Nat)(ρ:aj)(G:DH),whileLoop test body n ρ G k->whileLoop test' body' n ρ G k'
 |0,ρ,G,q=>q
 |n+1,ρ,G,q=>ht ρ G _ _ (λb G' z=>by
   cases b with
   |true=>exact hb ρ G' _ _ (λρ' G'' z'=>yc ht hb h n ρ' G'' z') z
   |false=>exact h _ _ z) q
end
section
variable {Φ:ak} {G:DH}
mutual
theorem au{E:EK}{ρ:aj}:∀(x:Ex){G:DH}{k k':D->DH->Prop},(∀d G',k d G'->k' d G')->wpE Φ x E ρ G k->wpE Φ x E ρ G k'
 |.var i,G,k,k',h,q=>by
  rw[mQ]at q ⊢;split at q
  ·exact h _ _ q
  ·exact q
 |.cst d,G,k,k',h,q=>by rw[fG]at q ⊢;exact h _ _ q
 |.glb x d,G,k,k',h,q=>by rw[rB]at q ⊢;exact h _ _ q
 |.bin op fz a b,G,k,k',h,q=>by
  rw[mR]at q ⊢;exact au a (λ_ _ q=>au b (λ_ _ q=>xU h q) q) q
 |.neg a,G,k,k',h,q=>by
  rw[rD]at q ⊢;refine au a (λx _ q=>?_) q;split at q
  ·exact h _ _ q
  ·exact q
 |.cmp op a b,G,k,k',h,q=>by
  rw[jj]at q ⊢;exact au a (λ_ _ q=>au b (λ_ _ q=>gb (λ_ q=>h _ _ q) q) q) q
 |.chn op op' a b c,G,k,k',h,q=>by
  rw[jk]at q ⊢;refine au a (λ_ _ q=>au b (λ_ _ q=>gb (λt q=>?_) q) q) q;cases t with
  |true=>exact au c (λ_ _ q=>gb (λ_ q=>h _ _ q) q) q
  |false=>exact h _ _ q
 |.not a,G,k,k',h,q=>by
  rw[rE]at q ⊢;refine au a (λx _ q=>?_) q;split at q
  ·exact h _ _ q
  ·exact q
 |.boo isAnd e es,G,k,k',h,q=>by
  rw[mU]at q ⊢;refine au e (λx _ q=>?_) q;split at q
  ·exact oh es (λ_ _ q=>h _ _ q) q
  ·exact q
 |.ife c a b,G,k,k',h,q=>by
  rw[rF]at q ⊢;refine cJ c (λt _ q=>?_) q;cases t with
  |true=>exact au a h q
  |false=>exact au b h q
 |.tup es,G,k,k',h,q=>by
  rw[mV]at q ⊢;exact bT es (λ_ _ q=>⟨q.1,h _ _ q.2⟩) q
 |.lst fz es,G,k,k',h,q=>by
  rw[mW]at q ⊢;exact bT es (λ_ _ q=>⟨q.1,b8 h q.2⟩) q
 |.idx a i,G,k,k',h,q=>by
  rw[mX]at q ⊢;exact au a (λ_ _ q=>au i (λ_ _ q=>nZ (λ_ q=>h _ _ q) q) q) q
 |.slc fz a lo hi,G,k,k',h,q=>by
  rw[mY]at q ⊢;exact au a (λ_ _ q=>sV lo (λ_ _ q=>sV hi (λ_ _ q=>xW h q) q) q) q
 |.rvs fz a s,G,k,k',h,q=>by
  rw[rG]at q ⊢;exact au a (λ_ _ q=>au s (λ_ _ q=>Rx h q) q) q
 |.call f es,G,k,k',h,q=>by
  rw[mZ]at q ⊢;exact bT es (λ_ _ q=>Spec.mono q h λ_ _ z=>z) q
 |.bcl f es,G,k,k',h,q=>by
  rw[m5]at q ⊢;exact bT es (λ_ _ q=>xX (λ_ q=>h _ _ q) q) q
 |.lcl fz f es,G,k,k',h,q=>by
  rw[m7]at q ⊢;exact bT es (λ_ _ q=>xY (λ_ q=>b8 h q) q) q
 |.isi a t,G,k,k',h,q=>by
  rw[m8]at q ⊢;refine au a (λx _ q=>?_) q;split at q
  ·exact h _ _ q
  ·exact q
 |.isx a C xs,G,k,k',h,q=>by
  rw[rH]at q ⊢;refine au a (λx _ q=>?_) q;unfold je at q ⊢;split at q
  ·exact ⟨q.1,h _ _ q.2⟩
  ·exact ⟨q.1,h _ _ q.2⟩
  ·exact q
 |.srs fz a,G,k,k',h,q=>by
  rw[m9]at q ⊢;exact au a (λd _ q=>Ry (λ_ z=>b8 h z) q) q
 |.rgl fz a,G,k,k',h,q=>by
  rw[rJ]at q ⊢;refine au a (λd _ q=>?_) q;split at q
  ·exact ⟨q.1,b8 h q.2⟩
  ·exact q
 |.rpl f a b ix,G,k,k',h,q=>by
  rw[Rv]at q ⊢;refine au a (λ_ _ q=>au b (λ_ _ q=>nZ (λ_ q=>Spec.mono q (λd G3 q=>?_) λ_ _ z=>z) q) q) q;unfold q9 at q ⊢;split at q
  ·refine ⟨q.1,au ix (λi G4 q=>?_) q.2⟩;unfold rm at q ⊢;split at q
   ·split at q
    ·exact h _ _ q
    ·exact q
   ·exact q
  ·exact q
 |.fld C f o,G,k,k',h,q=>by
  rw[rK]at q ⊢;refine au o (λd _ q=>?_) q;unfold qZ at q ⊢;split at q
  ·exact ⟨q.1,q.2.1,h _ _ q.2.2⟩
  ·exact q
 |.mcl f C m o es,G,k,k',h,q=>by
  rw[rM]at q ⊢;exact au o (λd _ q=>⟨q.1,bT es (λ_ _ q=>Spec.mono q h λ_ _ z=>z) q.2⟩) q
 |.mkx C a,G,k,k',h,q=>by
  rw[ni]at q ⊢;exact au a (λd _ q=>h _ _ q) q
 |.mki C f a,G,k,k',h,q=>by
  rw[nq]at q ⊢;exact au a (λd _ q=>⟨q.1,h _ _ q.2⟩) q
 |.xat C f a,G,k,k',h,q=>by
  rw[nu]at q ⊢;refine au a (λd _ q=>?_) q;unfold g8 at q ⊢;split at q
  ·exact ⟨q.1,q.2.1,h _ _ q.2.2⟩
  ·exact q
 |.mko C es,G,k,k',h,q=>by
  rw[rN]at q ⊢;exact bT es (λ_ _ q=>Spec.mono q h λ_ _ z=>z) q
 |.pp0 o,G,k,k',h,q=>by
  rw[rO]at q ⊢;refine au o (λd _ q=>?_) q;unfold q8 at q ⊢;split at q
  ·split at q
   ·split at q
    ·exact h _ _ q
    ·exact q
   ·exact q
  ·exact q
 |.rgt a,G,k,k',h,q=>by
  rw[rP]at q ⊢;refine au a (λd _ q=>?_) q;split at q
  ·exact ⟨q.1,h _ _ q.2⟩
  ·exact q
 |.fst es,G,k,k',h,q=>by
  rw[rQ]at q ⊢;exact sU es (λ_ _ q=>⟨q.1,h _ _ q.2⟩) q
 |.mth m o es,G,k,k',h,q=>by
  rw[cX]at q ⊢;exact au o (λ_ _ q=>⟨q.1,bT es (λ_ _ q=>dM h q) q.2⟩) q
 |.comp fz elt tg it cond N cap,G,k,k',h,q=>by
  rw[sI]at q ⊢;refine dN it (λitems g G1 q=>?_) q;refine n6 ?_ (λds G2 z=>b8 h z) items [] _ G1 q;intro d ρ' G' k k' hk z;refine cI (λρ1 z=>?_) tg z;refine cJ cond (λb G2 z=>?_) z;cases b with
  |true=>exact au elt (λy G3 z=>hk _ _ _ z) z
  |false=>exact hk _ _ _ z
 |.cm3 elt t1 i1 t2 i2 t3 i3 N cap,G,k,k',h,q=>by
  rw[xQ]at q ⊢;refine dN i1 (λitems g G1 q=>?_) q;refine n8 ?_ (λds _ G2 z=>⟨z.1,b8 h z.2⟩) items [] _ G1 q;intro d acc ρ' G' k k' hk z;refine cI (λρ1 z=>dN i2 (λitems g G1 q=>?_) z) t1 z;refine n8 ?_ hk items _ _ G1 q;intro d acc ρ' G' k k' hk z;refine cI (λρ1 z=>dN i3 (λitems g G1 q=>?_) z) t2 z;refine n8 ?_ hk items _ _ G1 q;intro d acc ρ' G' k k' hk z;exact cI (λρ1 z=>⟨z.1,au elt (λy G3 z=>hk _ _ _ z) z.2⟩) t3 z
 |.frz a,G,k,k',h,q=>by
  rw[nA]at q ⊢;refine au a (λx G1 q=>?_) q;split at q
  ·split at q
   ·exact h _ _ q
   ·exact q
  ·exact h _ _ q
theorem cJ{E:EK}{ρ:aj}:∀(x:Tx){G:DH}{k k':Bool->DH->Prop},(∀d G',k d G'->k' d G')->wpT Φ x E ρ G k->wpT Φ x E ρ G k'
 |.not a,G,k,k',h,q=>by rw[my]at q ⊢;exact cJ a (λ_ _ q=>h _ _ q) q
 |.boo isAnd e es,G,k,k',h,q=>by rw[mz]at q ⊢;exact cJ e (λ_ _ q=>ou es h q) q
 |.yes,G,k,k',h,q=>by rw[mC]at q ⊢;exact h _ _ q
 |.val a,G,k,k',h,q=>by
  rw[ie]at q ⊢;refine au a (λx _ q=>?_) q;split at q
  ·exact h _ _ q
  ·exact q
theorem sU{E:EK}{ρ:aj}:∀(x:Exs){G:DH}{k k':List Nat->DH->Prop},(∀d G',k d G'->k' d G')->wpF Φ x E ρ G k->wpF Φ x E ρ G k'
 |.nil,G,k,k',h,q=>by rw[rR]at q ⊢;exact h _ _ q
 |.cons e es,G,k,k',h,q=>by
  rw[rT]at q ⊢;refine au e (λd _ q=>?_) q;split at q
  ·exact ⟨q.1,sU es (λ_ _ q=>h _ _ q) q.2⟩
  ·exact ⟨q.1,sU es (λ_ _ q=>h _ _ q) q.2⟩
  ·exact q
theorem bT{E:EK}{ρ:aj}:∀(x:Exs){G:DH}{k k':List D->DH->Prop},(∀d G',k d G'->k' d G')->aD Φ x E ρ G k->aD Φ x E ρ G k'
 |.nil,G,k,k',h,q=>by rw[fB]at q ⊢;exact h _ _ q
 |.cons e es,G,k,k',h,q=>by rw[eF]at q ⊢;exact au e (λ_ _ q=>bT es (λ_ _ q=>h _ _ q) q) q
theorem oh{E:EK}{ρ:aj}:∀(x:Exs){isAnd b:Bool}{G:DH}{k k':Bool->DH->Prop},(∀d G',k d G'->k' d G')->wpB Φ x isAnd b E ρ G k->wpB Φ x isAnd b E ρ G k'
 |.nil,_,_,G,k,k',h,q=>by rw[mD]at q ⊢;exact h _ _ q
 |.cons e es,isAnd,b,G,k,k',h,q=>by
  rw[jg]at q ⊢;cases isAnd <;> cases b <;> first
   |exact h _ _ q
   | (refine au e (λd _ q=>?_) q
      split at q
      ·exact oh es h q
      ·exact q)
theorem ou{E:EK}{ρ:aj}:∀(x:Txs){isAnd b:Bool}{G:DH}{k k':Bool->DH->Prop},(∀d G',k d G'->k' d G')->eE Φ x isAnd b E ρ G k->eE Φ x isAnd b E ρ G k'
 |.nil,_,_,G,k,k',h,q=>by rw[mF]at q ⊢;exact h _ _ q
 |.cons e es,isAnd,b,G,k,k',h,q=>by
  rw[jh]at q ⊢;cases isAnd <;> cases b <;> first
   |exact h _ _ q
   |exact cJ e (λd _ q=>ou es h q) q
theorem sV{E:EK}{ρ:aj}:∀(x:Ox){G:DH}{k k':Option Int->DH->Prop},(∀d G',k d G'->k' d G')->wpO Φ x E ρ G k->wpO Φ x E ρ G k'
 |.no,G,k,k',h,q=>by rw[mG]at q ⊢;exact h _ _ q
 |.ob a,G,k,k',h,q=>by
  rw[mH]at q ⊢;refine au a (λx _ q=>?_) q;split at q
  ·exact h _ _ q
  ·exact q
theorem dN{E:EK}{ρ:aj}:∀(x:It'){G:DH}{k k':List D->Hld->DH->Prop},(∀d g G',k d g G'->k' d g G')->wpI Φ x E ρ G k->wpI Φ x E ρ G k'
 |.seq a,G,k,k',h,q=>by
  rw[mJ]at q ⊢;refine au a (λx _ q=>?_) q;split at q
  ·exact h _ _ _ q
  ·exact q
 |.rng a,G,k,k',h,q=>by
  rw[mK]at q ⊢;refine au a (λx _ q=>?_) q;split at q
  ·exact ⟨q.1,h _ _ _ q.2⟩
  ·exact q
 |.rev a,G,k,k',h,q=>by
  rw[rz]at q ⊢;refine au a (λx _ q=>?_) q;split at q
  ·exact ⟨q.1,h _ _ _ q.2⟩
  ·exact q
 |.dwn a b d,G,k,k',h,q=>by
  rw[rA]at q ⊢;refine au a (λx _ q=>au b (λy _ q=>au d (λz _ q=>?_) q) q) q;split at q
  ·exact ⟨q.1,h _ _ _ q.2⟩
  ·exact q
 |.rng2 a b,G,k,k',h,q=>by
  rw[rn]at q ⊢;refine au a (λx _ q=>au b (λy _ q=>?_) q) q;split at q
  ·exact ⟨q.1,h _ _ _ q.2⟩
  ·exact q
 |.enm a,G,k,k',h,q=>by
  rw[mL]at q ⊢;refine au a (λx _ q=>?_) q;split at q
  ·exact h _ _ _ q
  ·exact q
 |.en1 a,G,k,k',h,q=>by
  rw[nH]at q ⊢;refine au a (λx _ q=>?_) q;split at q
  ·exact h _ _ _ q
  ·exact q
 |.zip a b,G,k,k',h,q=>by
  rw[mO]at q ⊢;refine au a (λx _ q=>au b (λy _ q=>?_) q) q;split at q
  ·exact h _ _ _ q
  ·exact q
end
structure En.Le(D D':En):Prop where
 nx:∀ρ G,D.nx ρ G->D'.nx ρ G
 rt:∀d G,D.rt d G->D'.rt d G
 bk:∀ρ G,D.bk ρ G->D'.bk ρ G
 ct:∀ρ G,D.ct ρ G->D'.ct ρ G
theorem sW:∀(b:Tb){ρ:aj}{G:DH}{nx nx':aj->DH->Prop}{ex ex':Xn->aj->DH->Prop},(∀ρ G,nx ρ G->nx' ρ G)->(∀x ρ G,ex x ρ G->ex' x ρ G)->wpX Φ b ρ G nx ex->wpX Φ b ρ G nx' ex'
 |.call f es,ρ,G,nx,nx',ex,ex',h,h',q=>by rw[sE]at q ⊢;exact bT es (λ_ _ q=>Spec.mono q (λ_ _ z=>h _ _ z) λ_ _ z=>h' _ _ _ z) q
 |.pick f g i es,ρ,G,nx,nx',ex,ex',h,h',q=>by
  rw[sr]at q ⊢;exact au (.var i) (λ_ _ q=>let ⟨b,e,q⟩:=q;⟨b,e,bT es (λ_ _ q=>Spec.mono q (λ_ _ z=>h _ _ z) λ_ _ z=>h' _ _ _ z) q⟩) q
 |.mcl f C m o es,ρ,G,nx,nx',ex,ex',h,h',q=>by
  rw[su]at q ⊢;exact au o (λ_ _ q=>⟨q.1,bT es (λ_ _ q=>Spec.mono q (λ_ _ z=>h _ _ z) λ_ _ z=>h' _ _ _ z) q.2⟩) q
 |.mko C es,ρ,G,nx,nx',ex,ex',h,h',q=>by rw[sy]at q ⊢;exact bT es (λ_ _ q=>Spec.mono q (λ_ _ z=>h _ _ z) λ_ _ z=>h' _ _ _ z) q
 |.asg i f es,ρ,G,nx,nx',ex,ex',h,h',q=>by rw[sG]at q ⊢;exact bT es (λ_ _ q=>Spec.mono q (λ_ _ z=>h _ _ z) λ_ _ z=>h' _ _ _ z) q
 |.ite c a b,ρ,G,nx,nx',ex,ex',h,h',q=>by
  rw[sH]at q ⊢;refine cJ c (λt _ q=>?_) q;cases t with
  |true=>exact sW a h h' q
  |false=>exact sW b h h' q
mutual
theorem wpS_mono{E:EK}:∀(x:Sx){ρ:aj}{G:DH}{D D':En},D.Le D'->wpS Φ x E ρ G D->wpS Φ x E ρ G D'
 |.exp e,ρ,G,D,D',h,q=>by rw[nF]at q ⊢;exact au e (λ_ _ q=>h.nx _ _ q) q
 |.star i j e,ρ,G,D,D',h,q=>by
  rw[nG]at q ⊢;refine au e (λd _ q=>?_) q;unfold jf at q ⊢;split at q
  ·exact ⟨q.1,λxs y z=>h.nx _ _ (q.2 xs y z)⟩
  ·exact q
 |.asg t e,ρ,G,D,D',h,q=>by rw[ik]at q ⊢;exact au e (λ_ _ q=>cI (λ_ q=>h.nx _ _ q) t q) q
 |.set o i e,ρ,G,D,D',h,q=>by rw[nJ]at q ⊢;exact au e (λ_ _ q=>au o (λ_ _ q=>au i (λ_ _ q=>sJ (λ_ q=>h.nx _ _ q) q) q) q) q
 |.aug i op e,ρ,G,D,D',h,q=>by
  rw[nM]at q ⊢;split at q
  ·exact au e (λ_ _ q=>sO (λ_ q=>h.nx _ _ q) q) q
  ·exact q
 |.augs o i op e,ρ,G,D,D',h,q=>by
  rw[rU]at q ⊢;exact au o (λ_ _ q=>au i (λ_ _ q=>nZ (λ_ q=>au e (λ_ _ q=>sO (λ_ q=>sJ (λ_ q=>h.nx _ _ q) q) q) q) q) q) q
 |.ret e,ρ,G,D,D',h,q=>by rw[nO]at q ⊢;exact au e (λ_ _ q=>h.rt _ _ q) q
 |.rtn,ρ,G,D,D',h,q=>by rw[nP]at q ⊢;exact h.rt _ _ q
 |.ite c a b,ρ,G,D,D',h,q=>by
  rw[nQ]at q ⊢;refine cJ c (λt _ q=>?_) q;cases t with
  |true=>exact du a h q
  |false=>exact du b h q
 |.for_ t it body,ρ,G,D,D',h,q=>by
  rw[xR]at q ⊢;exact dN it (λitems g G1 q=>xZ (λd ρ' G' k k' hk z=>cI (λρ1 z=>du body (D:={ D with nx:=k,ct:=k,bk:=D.nx }) (D':={ D' with nx:=k',ct:=k',bk:=D'.nx }) ⟨hk,h.rt,h.nx,hk⟩ z) t z) h.nx items ρ G1 q) q
 |.whl c body,ρ,G,D,D',h,q=>by
  rw[Rw]at q ⊢;obtain ⟨n,q⟩:=q;refine ⟨n,?_⟩;refine yc ?_ ?_ h.nx n ρ G q
  ·exact λρ' G' k k' hk z=>cJ c hk z
  ·exact λρ' G' k k' hk z=>du body (D:={ D with nx:=k,ct:=k,bk:=D.nx }) (D':={ D' with nx:=k',ct:=k',bk:=D'.nx }) ⟨hk,h.rt,h.nx,hk⟩ z
 |.pas,ρ,G,D,D',h,q=>by rw[nR]at q ⊢;exact h.nx _ _ q
 |.brk,ρ,G,D,D',h,q=>by rw[nT]at q ⊢;exact h.bk _ _ q
 |.cnt,ρ,G,D,D',h,q=>by rw[nU]at q ⊢;exact h.ct _ _ q
 |.nev,ρ,G,D,D',h,q=>by rw[nW]at q;exact q.elim
 |.rse C es,ρ,G,D,D',h,q=>by rw[rW]at q ⊢;exact q
 |.tryc f es C i b,ρ,G,D,D',h,q=>by rw[rY]at q ⊢;exact bT es (λ_ _ q=>Spec.mono q (λ_ _ z=>h.nx _ _ z) λ_ _ z=>⟨z.1,z.2.1,h.nx _ _ z.2.2⟩) q
 |.tryx b C hd xs,ρ,G,D,D',h,q=>by rw[rZ]at q ⊢;exact sW b (λ_ _ z=>h.nx _ _ z) (λ_ _ _ z=>⟨z.1,z.2.1,z.2.2.1,h.nx _ _ z.2.2.2⟩) q
theorem du{E:EK}:∀(x:Sxs){ρ:aj}{G:DH}{D D':En},D.Le D'->aA Φ x E ρ G D->aA Φ x E ρ G D'
 |.nil,ρ,G,D,D',h,q=>by rw[ji]at q ⊢;exact h.nx _ _ q
 |.cons s r,ρ,G,D,D',h,q=>by rw[ig]at q ⊢;exact wpS_mono s (D:={ D with nx:=λρ' G'=>aA Φ r E ρ' G' D }) (D':={ D' with nx:=λρ' G'=>aA Φ r E ρ' G' D' }) ⟨λ_ _ z=>du r h z,h.rt,h.bk,h.ct⟩ q
end
end
def PV(K:PF)(H:Hp)(F:FZ)(Q:VK):D->DH->Prop:=λd G'=>∀H' F' v,Ext H F H' F'->R K H' F' G'->Rep K H' F' d v->Q v H'
def PB(K:PF)(H:Hp)(F:FZ)(Q:Bool->Hp->Prop):Bool->DH->Prop:=λb G'=>∀H' F',Ext H F H' F'->R K H' F' G'->Q b H'
noncomputable def PLs(K:PF)(H:Hp)(F:FZ)(Q:List V->Hp->Prop):List D->DH->Prop:=λds G'=>∀H' F' vs,Ext H F H' F'->R K H' F' G'->Reps K H' F' ds vs->Q vs H'
section
variable {K:PF} {H:Hp} {F:FZ} {G:DH} {Q:VK}
theorem PV.now{d:D}{v:V}(h:PV K H F Q d G)(r:R K H F G)(q:Rep K H F d v):Q v H:=h H F v (Ext.refl H F) r q
theorem cY{fz:Bool}{ds:List D}{vs:List V}(h:mk fz ds G (PV K H F Q))(r:R K H F G)(t:Reps K H F ds vs)(p:Addr)(hp:H p=none):Q (.ref p) (upd H p (.lst vs)):=by
 cases fz with
 |true=>exact h _ _ _ (lL r hp) (r.newF hp) (xr r hp t)
 |false=>exact h p (r.free hp) _ _ _ (cu r hp) (r.newL hp t) rfl
theorem jl{ds:List D}{vs:List V}(h:PV K H F Q (.tup ds) G)(r:R K H F G)(t:Reps K H F ds vs)(p:Addr)(hp:H p=none):Q (.ref p) (upd H p (.tup vs)):=
 h _ _ _ (cu r hp) (r.new hp) (lM r hp t)
end
theorem szl:sz<=sizeLine:=by rw[er];decide
theorem bU{n:Nat}(h:n<=sz):n<=sizeLine:=ca h szl
def rB2(K:PF)(f:D->D->DH->(D->DH->Prop)->Prop):R2:=λx y H Q=>∃F G a b,R K H F G/\Rep K H F a x/\Rep K H F b y/\f (view G a) (view G b) G (PV K H F Q)
section
variable {X:Cx}
theorem Rz:OpR X (binaryOp .Add) (λx y H Q=>∃a b xs ys,x=.ref a/\y=.ref b/\SqL X.K H a xs/\SqL X.K H b ys/\xs.length+ys.length<=sizeLine/\∀p,H p=none->Q (.ref p) (upd H p (.lst (xs++ys)))):=by
 intro pins s σ H x y v u Q I rx ry h;obtain ⟨a,b,xs,ys,rfl,rfl,ha,hb,hz,q⟩:=h;cases rx;cases ry;obtain ⟨its,r1,p1,_⟩:=I.list ha;obtain ⟨its2,r2,p2,_⟩:=I.list hb;obtain ⟨⟨cls,dd,data,sl⟩,ho,hc,n,hd⟩:=p1.isList;obtain ⟨⟨cls2,dd2,data2,sl2⟩,ho2,hc2,n2,hd2⟩:=p2.isList;simp only at hc hd hc2 hd2;subst hc hd hc2 hd2;have e:its.toArray++its2.toArray=(its++its2).toArray:=by simp
 refine concat_meets ⟨_,ho,rfl⟩ ⟨_,ho2,rfl⟩ noFill_list_add seq_list_add PySem.F.slot_list_add PySem.F.entry_list_add (PySem.F.args_list_add_2 _ _)
  (list_addW a b its.toArray its2.toArray n n2 dd dd2 sl sl2 (by rw[ap,ap,<-r1.length,<-r2.length];exact hz)) ⟨ho,ho2,?_⟩
 rw[e];exact ⟨.ref _,_,I.lnew (t':=s.toks) (r1.append r2) (by rw[bp];exact hz),rfl,q _ I.fresh⟩
theorem RB:OpR X (binaryOp .Add) (λx y H Q=>∃a b ys,x=.ref a/\y=.ref b/\SqT X.K H a []/\SqT X.K H b ys/\Q (.ref b) H):=by
 intro pins s σ H x y v u Q I rx ry h;obtain ⟨a,b,ys,rfl,rfl,ha,hb,q⟩:=h;cases rx;cases ry;obtain ⟨its,r1,p1,_⟩:=I.tuple ha;obtain ⟨its2,r2,p2,_⟩:=I.tuple hb;obtain ⟨⟨cls,dd,data,sl⟩,ho,hc,n,hd⟩:=id p1;obtain ⟨⟨cls2,dd2,data2,sl2⟩,ho2,hc2,n2,hd2⟩:=id p2;simp only at hc hd hc2 hd2;subst hc hd hc2 hd2;cases r1;exact concat_meets ⟨_,ho,rfl⟩ ⟨_,ho2,rfl⟩ noFill_tuple_add seq_tuple_add PySem.F.slot_tuple_add PySem.F.entry_tuple_add (PySem.F.args_tuple_add_2 _ _)
   (tuple_addW0 a b _ its2.toArray n n2 dd dd2 sl sl2 (by simp)) ⟨ho,ho2,⟨.ref b,H,I,rfl,q⟩⟩
theorem sX{K:PF}{H:Hp}{F:FZ}{ds:List D}{vs:List V}(t:Reps K H F ds vs):ds=[]↔vs=[]:=by
 have:=t.length;constructor
 ·intro e;subst e;exact ce.mp this.symm
 ·intro e;subst e;exact ce.mp this
theorem RC{x:Str}{n:Nat}(h1:n<=1000)(h:x.length * n<=sz):MulOk x (n:Int):=by
 have h2:((x.length * n:Nat):Int)<=((1000000:Nat):Int):=Int.ofNat_le.mpr h;rw[Int.natCast_mul]at h2;refine ⟨?_,?_,?_⟩
 ·rw[ck (by omega),ck (by omega)];rfl
 ·intro hn _ hh;have hp:(0:Int) < n:=by omega
  have h3:(x.length:Int)<=(2 ^ 63 - 1) / n:=(Int.le_ediv_iff_mul_le hp).mpr (Int.le_trans h2 (by decide));exact absurd hh (Int.not_lt.mpr h3)
 ·intro _ _;unfold Builtin.Str.tooLong;rw[er,Int.toNat_natCast];exact ck (by have:sz=1000000:=rfl;omega)
theorem yd(l:List Nat):∀(n:Nat)(acc:List Nat),(List.replicate n l.toArray).foldl (· ++ ·) acc.toArray=(acc++reps l n).toArray
 |0,acc=>by simp[reps]
 |n+1,acc=>by
  rw[bX,List.foldl_cons];have e:acc.toArray++l.toArray=(acc++l).toArray:=by simp
  rw[e,yd l n (acc++l)];unfold reps;rw[bX,fg,List.append_assoc]
theorem RD(n:Nat):reps ([]:List Nat) n=[]:=by
 unfold reps;induction n with
 |zero=>rfl
 |succ n ih=>rw[bX,fg,ih];rfl
theorem RG{α:Type}(l:List α)(n:Nat):(reps l n).length=n * l.length:=len_rep l n
theorem RJ(l:List Nat)(n:Nat):Txt.mul (tx l) (n:Int)=tx (reps l n):=by
 unfold Txt.mul;by_cases h:(n:Int) < 1
 ·rw[if_pos h];have:n=0:=by omega
  subst this;rfl
 ·rw[if_neg h];by_cases h2:((n:Int)==1||(tx l).length==0)=true
  ·rw[if_pos h2];rw[cq]at h2;rcases h2 with h2 |h2
   ·have:n=1:=by have:=eq_of_beq h2;omega
    subst this;simp[reps]
   ·have h3:=eq_of_beq h2;rw[bD]at h3;have:l=[]:=ce.mp h3;subst this;rw[RD]
  ·rw[if_neg h2];have e:=yd l n [];rw[List.nil_append]at e;exact c6 Str.mk (by simpa using e)
theorem RK(op:Operator)(fz:Bool):OpR X (binaryOp op) (rB2 X.K (bN op fz)):=by
 intro pins s σ H x y v u Q I rx ry h;obtain ⟨F,G,a,b,r,ra,rb,h⟩:=h;generalize ea:view G a=va at h;generalize eb:view G b=vb at h;have twoI:∀{p:Int->Int->Prop},eZ va vb p->∃i j,x=.int i/\y=.int j/\p i j:=λ{p} h=>by
  obtain ⟨i,j,rfl,rfl,h⟩:=xT h;cases cH ea;cases cH eb;exact ⟨i,j,ra,rb,h⟩
 cases op with
 |Add=>
  have h:gM fz va vb G _:=h;unfold gM at h;cases va with
  |int _=>cases vb with
   |int _=>
    cases cH ea;cases cH eb;have ha:x=.int _:=ra;have hb:y=.int _:=rb;subst ha;subst hb;exact LK pins s σ H _ _ v u Q I rx ry ⟨_,_,rfl,rfl,h.now r rfl⟩
   |_=>exact h.elim
  |str _=>cases vb with
   |str _=>
    cases dH ea;cases dH eb;obtain ⟨ha,la⟩:=ra;obtain ⟨hb,lb⟩:=rb;subst ha;subst hb;refine Mv pins s σ H _ _ v u Q I rx ry ⟨_,_,rfl,rfl,?_,?_⟩
    ·rw[bD,bD];exact bU h.1
    ·rw[lC];exact h.2.now r ⟨rfl,by rw[bp];exact h.1⟩
   |_=>exact h.elim
  |lst _=>cases vb with
   |lst _=>
    obtain ⟨p,vs,rfl,q1,t1⟩:=Rep.list r ra ea;obtain ⟨p',vs',rfl,q2,t2⟩:=Rep.list r rb eb;exact Rz pins s σ H _ _ v u Q I rx ry ⟨p,p',vs,vs',rfl,rfl,q1,q2,by rw[<-t1.length,<-t2.length];exact bU h.1,cY h.2 r (t1.append t2)⟩
   |_=>exact h.elim
  |tup xs=>cases vb with
   |tup ys=>
    cases dG ea;cases dG eb;obtain ⟨p,vs,rfl,q1,t1⟩:=id ra;obtain ⟨p',vs',rfl,q2,t2⟩:=id rb;by_cases hx:vs=[]
    ·subst hx;have:xs=[]:=(sX t1).mpr rfl;subst this;exact RB pins s σ H _ _ v u Q I rx ry ⟨p,p',vs',rfl,rfl,q1.sq,q2.sq,h.2.now r rb⟩
    ·refine Ny pins s σ H _ _ v u Q I rx ry ⟨p,p',vs,vs',rfl,rfl,q1.sq,q2.sq,hx,by rw[<-t1.length,<-t2.length];exact bU h.1,λe=>?_,λ_=>jl h.2 r (t1.append t2)⟩;subst e;have:ys=[]:=(sX t2).mpr rfl;subst this;have h2:=h.2;rw[fe]at h2;exact h2.now r ra
   |_=>exact h.elim
  |_=>exact h.elim
 |Sub=>
  obtain ⟨i,j,rfl,rfl,h⟩:=twoI h;exact LQ pins s σ H _ _ v u Q I rx ry ⟨_,_,rfl,rfl,h.now r rfl⟩
 |Mult=>
  have h:gO fz va vb G _:=h;unfold gO at h;cases vb with
  |int _=>cases va with
   |int _=>
    cases cH ea;cases cH eb;have ha:x=.int _:=ra;have hb:y=.int _:=rb;subst ha;subst hb;exact LR pins s σ H _ _ v u Q I rx ry ⟨_,_,rfl,rfl,h.1,h.2.now r rfl⟩
   |str _=>
    cases dH ea;cases cH eb;obtain ⟨ha,la⟩:=ra;have hb:y=.int _:=rb;subst ha;subst hb;obtain ⟨h0,h1,h2,h3⟩:=h;obtain ⟨n,rfl⟩:=df h0;rw[Int.toNat_natCast]at h2 h3;refine O4 pins s σ H _ _ v u Q I rx ry ⟨_,_,rfl,rfl,RC (by omega) (by rw[bD];exact h2),?_⟩;rw[RJ];exact h3.now r ⟨rfl,by rw[RG,Nat.mul_comm];exact h2⟩
   |tup _=>
    cases dG ea;cases cH eb;obtain ⟨p,vs,rfl,q1,t1⟩:=ra;have hb:y=.int _:=rb;subst hb;obtain ⟨h0,h1,h2,h3,h4⟩:=h;refine Qd pins s σ H _ _ v u Q I rx ry ⟨p,_,vs,rfl,rfl,q1.sq,λe=>h2 ((sX t1).mpr e),h0,h1,by rw[<-t1.length];exact bU h3,?_⟩;exact jl h4 r (t1.rep _)
   |lst _=>
    cases cH eb;have hb:y=.int _:=rb;subst hb;obtain ⟨p,vs,rfl,q1,t1⟩:=ra.list r ea;obtain ⟨h0,h1,h2,h3⟩:=h;exact Qh pins s σ H _ _ v u Q I rx ry ⟨p,_,vs,rfl,rfl,q1,h0,h1,by rw[<-t1.length];exact bU h2,cY h3 r (t1.rep _)⟩
   |_=>exact h.elim
  |_=>exact h.elim
 |FloorDiv=>
  obtain ⟨i,j,rfl,rfl,h⟩:=twoI h;exact PK pins s σ H _ _ v u Q I rx ry ⟨_,_,rfl,rfl,h.1,h.2.now r rfl⟩
 |Mod=>
  obtain ⟨i,j,rfl,rfl,h⟩:=twoI h;exact Ma pins s σ H _ _ v u Q I rx ry ⟨_,_,rfl,rfl,h.1,h.2.now r rfl⟩
 |Pow=>
  obtain ⟨i,j,rfl,rfl,h⟩:=twoI h;exact Mg pins s σ H _ _ v u Q I rx ry ⟨_,_,rfl,rfl,h.1,h.2.now r rfl⟩
 |_=>exact h.elim
end
mutual
theorem sY:∀{d:D},nr d=true->deq d d=true
 |.non,_=>rfl
 |.bl b,_=>by simp[deq]
 |.int i,_=>by simp[deq]
 |.str l,_=>by simp[deq]
 |.tup xs,h=>by rw[deq];exact sZ (by rw[nr]at h;exact h)
 |.lst xs,h=>by rw[deq];exact sZ (by rw[nr]at h;exact h)
 |.ref a,h=>by rw[nr]at h;cases h
 |.scr a,h=>by rw[nr]at h;cases h
 |.exn a,h=>by rw[nr]at h;cases h
 |.exa _ _ _,h=>by rw[nr]at h;cases h
 |.obj _ _ _,h=>by rw[nr]at h;cases h
theorem sZ:∀{ds:List D},nrs ds=true->bG ds ds=true
 |[],_=>rfl
 |d::ds,h=>by
  rw[nrs,ah]at h;rw[bG,sY h.1,sZ h.2];rfl
end
theorem oA:∀(xs ys:List D),bG xs ys=((List.range (min xs.length ys.length)).all (λj=>deq (xs.getD j .non) (ys.getD j .non))&&xs.length==ys.length)
 |[],[]=>rfl
 |[],y::ys=>by simp[bG]
 |x::xs,[]=>by simp[bG]
 |x::xs,y::ys=>by
  have e:min (x::xs).length (y::ys).length=(min xs.length ys.length)+1:=by simp only[fi];omega
  rw[bG,oA xs ys,e,List.range_succ_eq_map,List.all_cons,List.all_map];simp only[List.getD_cons_zero,fi,Bool.and_assoc];congr 1;congr 1;rw[eI];simp
theorem RL{xs ys:List D}(h:xs.length≠ys.length):bG xs ys=false:=by rw[oA];rw[show (xs.length==ys.length)=false from fk.mpr h,fS]
theorem jm:∀{xs:List D}{i:Nat},nrs xs=true->nr (xs.getD i .non)=true
 |[],_,_=>rfl
 |x::xs,0,h=>by rw[nrs,ah]at h;exact h.1
 |x::xs,i+1,h=>by rw[nrs,ah]at h;rw[List.getD_cons_succ];exact jm h.2
theorem jn:∀{xs:List D}{i:Nat},dpt (xs.getD i .non)<=aO xs
 |[],_=>e8 _
 |x::xs,0=>by rw[aO,List.getD_cons_zero];omega
 |x::xs,i+1=>by rw[aO,List.getD_cons_succ];have:=@jn xs i;omega
section
variable {X:Cx} {pins:List (Addr×Obj)} {σ:L2.St} {H:Hp} {s:Shared} {F:FZ}
mutual
theorem oE(I:Inv X pins σ H s):∀{d d':D}{v:V},nr d=true->nr d'=true->Rep X.K H F d v->Rep X.K H F d' v->d=d'
 |.non,d',v,_,n',h,h'=>by
  have h:v=.non:=h;subst h;cases d' with
  |non=>rfl
  |bl _=>simp only[Rep]at h';cases h'
  |int _=>simp only[Rep]at h';cases h'
  |ref _=>simp only[Rep]at h';cases h'
  |scr _=>rw[nr]at n';cases n'
  |exn _=>rw[nr]at n';cases n'
  |exa _ _ _=>rw[nr]at n';cases n'
  |obj _ _ _=>rw[nr]at n';cases n'
  |str _=>simp only[Rep]at h';obtain ⟨e,_⟩:=h';cases e
  |tup _=>simp only[Rep]at h';obtain ⟨_,_,e,_⟩:=h';cases e
  |lst _=>simp only[Rep]at h';obtain ⟨_,_,e,_⟩:=h';cases e
 |.bl b,d',v,_,n',h,h'=>by
  have h:v=.bl b:=h;subst h;cases d' with
  |non=>simp only[Rep]at h';cases h'
  |bl _=>simp only[Rep]at h';cases h';rfl
  |int _=>simp only[Rep]at h';cases h'
  |ref _=>simp only[Rep]at h';cases h'
  |scr _=>rw[nr]at n';cases n'
  |exn _=>rw[nr]at n';cases n'
  |exa _ _ _=>rw[nr]at n';cases n'
  |obj _ _ _=>rw[nr]at n';cases n'
  |str _=>simp only[Rep]at h';obtain ⟨e,_⟩:=h';cases e
  |tup _=>simp only[Rep]at h';obtain ⟨_,_,e,_⟩:=h';cases e
  |lst _=>simp only[Rep]at h';obtain ⟨_,_,e,_⟩:=h';cases e
 |.int b,d',v,_,n',h,h'=>by
  have h:v=.int b:=h;subst h;cases d' with
  |non=>simp only[Rep]at h';cases h'
  |bl _=>simp only[Rep]at h';cases h'
  |int _=>simp only[Rep]at h';cases h';rfl
  |ref _=>simp only[Rep]at h';cases h'
  |scr _=>rw[nr]at n';cases n'
  |exn _=>rw[nr]at n';cases n'
  |exa _ _ _=>rw[nr]at n';cases n'
  |obj _ _ _=>rw[nr]at n';cases n'
  |str _=>simp only[Rep]at h';obtain ⟨e,_⟩:=h';cases e
  |tup _=>simp only[Rep]at h';obtain ⟨_,_,e,_⟩:=h';cases e
  |lst _=>simp only[Rep]at h';obtain ⟨_,_,e,_⟩:=h';cases e
 |.str l,d',v,_,n',h,h'=>by
  obtain ⟨h,_⟩:=h;subst h;cases d' with
  |str l'=>
   obtain ⟨e,_⟩:=h';injection e with e;rw[v9 e]
  |non=>simp only[Rep]at h';cases h'
  |bl _=>simp only[Rep]at h';cases h'
  |int _=>simp only[Rep]at h';cases h'
  |ref _=>simp only[Rep]at h';cases h'
  |scr _=>rw[nr]at n';cases n'
  |exn _=>rw[nr]at n';cases n'
  |exa _ _ _=>rw[nr]at n';cases n'
  |obj _ _ _=>rw[nr]at n';cases n'
  |tup _=>simp only[Rep]at h';obtain ⟨_,_,e,_⟩:=h';cases e
  |lst _=>simp only[Rep]at h';obtain ⟨_,_,e,_⟩:=h';cases e
 |.tup xs,d',v,n,n',h,h'=>by
  obtain ⟨a,vs,e,q,t⟩:=h;subst e;cases d' with
  |tup ys=>
   obtain ⟨a',vs',e,q',t'⟩:=h';injection e with e;subst e;have:=I.tuple_inj q.sq q'.sq;subst this;rw[nr]at n n';rw[tB I n n' t t']
  |lst ys=>
   obtain ⟨a',vs',e,q',t'⟩:=h';injection e with e;subst e;obtain ⟨its,_,⟨o,e1,c1,_⟩,_⟩:=I.tuple q.sq;obtain ⟨its',_,⟨o',n',e2,c2,_⟩,_⟩:=I.list q'.sq;rw[e1]at e2;cases e2;rw[c1]at c2;exact absurd c2 (by ac_rfl)
  |ref _=>rw[nr]at n';cases n'
  |scr _=>rw[nr]at n';cases n'
  |exn _=>rw[nr]at n';cases n'
  |exa _ _ _=>rw[nr]at n';cases n'
  |obj _ _ _=>rw[nr]at n';cases n'
  |str _=>simp only[Rep]at h';obtain ⟨e,_⟩:=h';cases e
  |non=>simp only[Rep]at h';cases h'
  |bl _=>simp only[Rep]at h';cases h'
  |int _=>simp only[Rep]at h';cases h'
 |.lst xs,d',v,n,n',h,h'=>by
  obtain ⟨a,vs,e,q,t⟩:=h;subst e;cases d' with
  |lst ys=>
   obtain ⟨a',vs',e,q',t'⟩:=h';injection e with e;subst e;have:=I.list_inj q.sq q'.sq;subst this;rw[nr]at n n';rw[tB I n n' t t']
  |tup ys=>
   obtain ⟨a',vs',e,q',t'⟩:=h';injection e with e;subst e;obtain ⟨its,_,⟨o,e1,c1,_⟩,_⟩:=I.tuple q'.sq;obtain ⟨its',_,⟨o',n',e2,c2,_⟩,_⟩:=I.list q.sq;rw[e1]at e2;cases e2;rw[c1]at c2;exact absurd c2 (by ac_rfl)
  |ref _=>rw[nr]at n';cases n'
  |scr _=>rw[nr]at n';cases n'
  |exn _=>rw[nr]at n';cases n'
  |exa _ _ _=>rw[nr]at n';cases n'
  |obj _ _ _=>rw[nr]at n';cases n'
  |str _=>simp only[Rep]at h';obtain ⟨e,_⟩:=h';cases e
  |non=>simp only[Rep]at h';cases h'
  |bl _=>simp only[Rep]at h';cases h'
  |int _=>simp only[Rep]at h';cases h'
 |.ref a,d',v,n,_,_,_=>by rw[nr]at n;cases n
 |.scr a,d',v,n,_,_,_=>by rw[nr]at n;cases n
 |.exn a,d',v,n,_,_,_=>by rw[nr]at n;cases n
 |.exa _ _ _,d',v,n,_,_,_=>by rw[nr]at n;cases n
 |.obj _ _ _,d',v,n,_,_,_=>by rw[nr]at n;cases n
theorem tB(I:Inv X pins σ H s):∀{ds ds':List D}{vs:List V},nrs ds=true->nrs ds'=true->Reps X.K H F ds vs->Reps X.K H F ds' vs->ds=ds'
 |[],[],_,_,_,_,_=>rfl
 |[],_::_,_,_,_,h,⟨v,r,e,_⟩=>by have h:_=[]:=h;rw[h]at e;cases e
 |_::_,[],_,_,_,⟨v,r,e,_⟩,h=>by have h:_=[]:=h;rw[h]at e;cases e
 |d::ds,d'::ds',_,n,n',⟨v,r,e,h,t⟩,⟨v',r',e',h',t'⟩=>by
  subst e;injection e' with e1 e2;subst e1;subst e2;rw[nrs,ah]at n n';rw[oE I n.1 n'.1 h h',tB I n.2 n'.2 t t']
end
theorem oF{I:Inv X pins σ H s}{ds:List D}{vs:List V}{its:List Value}(t:Reps X.K H F ds vs)(r:Vals vs its)(j:Nat)(h:j < its.length):∃v,Rep X.K H F (ds.getD j .non) v/\RelV v its[j]:=by
 have hl:j < ds.length:=by rw[t.length,r.length];exact h
 have e1:ds[j]?=some (ds.getD j .non):=by rw[dn,a8 hl];rfl
 obtain ⟨v,e2,r2⟩:=t.get e1;obtain ⟨u,e3,r3⟩:=r.get e2;rw[a8 h]at e3;cases e3;exact ⟨v,r2,r3⟩
theorem RM(a b:List Nat):(tx a==tx b)=(a==b):=by rw[eI,aE,aE];exact ⟨λh=>v9 h,λh=>by rw[h]⟩
theorem RN(I:Inv X pins σ H s){n:Nat}{A:Around}{xs ys:List D}{a a':Addr}{vs vs':List V}{its its':List Value}
  (ih:∀m,m < n->∀(A:Around)(d d':D)(v v':V)(u u':Value),A.units+m < cLine->min (dpt d) (dpt d')<=m->nr d=true->nr d'=true->Rep X.K H F d v->Rep X.K H F d' v'->RelV v u->RelV v' u'->
   SeqAt.RcAt A s u u' (deq d d')/\SeqAt.EqAt A s u u' (deq d d')/\SeqAt.RcNeAt A s u u' (!deq d d'))
  (hu:A.units+n < cLine) (hd:min (dpt (.tup xs)) (dpt (.tup ys))<=n) (n1:nr (.tup xs)=true) (n2:nr (.tup ys)=true) (h:Rep X.K H F (.tup xs) (.ref a)) (h':Rep X.K H F (.tup ys) (.ref a'))
  (pt:s.heap.IsTuple a its.toArray) (pt':s.heap.IsTuple a' its'.toArray) (rv:Vals vs its) (rv':Vals vs' its') (tt:Reps X.K H F xs vs) (tt':Reps X.K H F ys vs'):
  SeqAt.RcAt A s (.ref a) (.ref a') (deq (.tup xs) (.tup ys))/\SeqAt.EqAt A s (.ref a) (.ref a') (deq (.tup xs) (.tup ys))/\SeqAt.RcNeAt A s (.ref a) (.ref a') (!deq (.tup xs) (.tup ys)):=by
 have hd':min (aO xs+1) (aO ys+1)<=n:=by rw[dpt,dpt]at hd;exact hd
 have hn1:nrs xs=true:=by rw[nr]at n1;exact n1
 have hn2:nrs ys=true:=by rw[nr]at n2;exact n2
 have l1:its.toArray.size=xs.length:=by rw[ap,<-rv.length,tt.length]
 have l2:its'.toArray.size=ys.length:=by rw[ap,<-rv'.length,tt'.length]
 have he:∀j (h1:j < its.toArray.size) (h2:j < its'.toArray.size),SeqAt.EqAt A.in1 s its.toArray[j] its'.toArray[j] (deq (xs.getD j .non) (ys.getD j .non)):=by intro j h1 h2;obtain ⟨w1,q1,q2⟩:=oF (I:=I) tt rv j (by simpa using h1);obtain ⟨w2,q3,q4⟩:=oF (I:=I) tt' rv' j (by simpa using h2);have d1:=@jn xs j;have d2:=@jn ys j;exact (ih (n - 1) (by omega) A.in1 _ _ w1 w2 _ _ (by show A.units+1+(n - 1) < cLine;omega) (by omega) (jm hn1) (jm hn2) q1 q3 (by simpa using q2) (by simpa using q4)).2.1
 have e:deq (.tup xs) (.tup ys)=((List.range (min its.toArray.size its'.toArray.size)).all (λj=>deq (xs.getD j .non) (ys.getD j .non))&&its.toArray.size==its'.toArray.size):=by rw[deq,oA,l1,l2]
 have rc:SeqAt.RcAt A s (.ref a) (.ref a') (deq (.tup xs) (.tup ys)):=by rw[e];exact .tuples pt pt' (by omega) he
 refine ⟨rc,?_,by rw[e];exact .tuples pt pt' (by omega) he⟩;by_cases z:a=a'
 ·subst z;have:=oE I n1 n2 h h';rw[<-this,sY n1];exact .same _
 ·exact .of_refs z rc
theorem RP(I:Inv X pins σ H s){n:Nat}{A:Around}{xs ys:List D}{a a':Addr}{vs vs':List V}{its its':List Value}
  (ih:∀m,m < n->∀(A:Around)(d d':D)(v v':V)(u u':Value),A.units+m < cLine->min (dpt d) (dpt d')<=m->nr d=true->nr d'=true->Rep X.K H F d v->Rep X.K H F d' v'->RelV v u->RelV v' u'->
   SeqAt.RcAt A s u u' (deq d d')/\SeqAt.EqAt A s u u' (deq d d')/\SeqAt.RcNeAt A s u u' (!deq d d'))
  (hu:A.units+n < cLine) (hd:min (dpt (.lst xs)) (dpt (.lst ys))<=n) (n1:nr (.lst xs)=true) (n2:nr (.lst ys)=true) (h:a=a'->xs=ys)
  (pt:s.heap.IsList a its.toArray) (pt':s.heap.IsList a' its'.toArray) (rv:Vals vs its) (rv':Vals vs' its') (tt:Reps X.K H F xs vs) (tt':Reps X.K H F ys vs'):
  SeqAt.RcAt A s (.ref a) (.ref a') (deq (.lst xs) (.lst ys))/\SeqAt.EqAt A s (.ref a) (.ref a') (deq (.lst xs) (.lst ys))/\SeqAt.RcNeAt A s (.ref a) (.ref a') (!deq (.lst xs) (.lst ys)):=by
 have hd':min (aO xs+1) (aO ys+1)<=n:=by rw[dpt,dpt]at hd;exact hd
 have hn1:nrs xs=true:=by rw[nr]at n1;exact n1
 have hn2:nrs ys=true:=by rw[nr]at n2;exact n2
 have l1:its.toArray.size=xs.length:=by rw[ap,<-rv.length,tt.length]
 have l2:its'.toArray.size=ys.length:=by rw[ap,<-rv'.length,tt'.length]
 have eqs:∀(rc:SeqAt.RcAt A s (.ref a) (.ref a') (deq (.lst xs) (.lst ys))),SeqAt.EqAt A s (.ref a) (.ref a') (deq (.lst xs) (.lst ys)):=λrc=>by
  by_cases z:a=a'
  ·have:=h z;subst z;subst this;rw[sY n1];exact .same _
  ·exact .of_refs z rc
 by_cases hl:xs.length=ys.length
 ·have he:∀j (h1:j < its.toArray.size) (h2:j < its'.toArray.size),SeqAt.EqAt A.in1 s its.toArray[j] its'.toArray[j] (deq (xs.getD j .non) (ys.getD j .non)):=by
   intro j h1 h2;obtain ⟨w1,q1,q2⟩:=oF (I:=I) tt rv j (by simpa using h1);obtain ⟨w2,q3,q4⟩:=oF (I:=I) tt' rv' j (by simpa using h2);have d1:=@jn xs j;have d2:=@jn ys j;exact (ih (n - 1) (by omega) A.in1 _ _ w1 w2 _ _ (by show A.units+1+(n - 1) < cLine;omega) (by omega) (jm hn1) (jm hn2) q1 q3 (by simpa using q2) (by simpa using q4)).2.1
  have e:deq (.lst xs) (.lst ys)=(List.range its.toArray.size).all (λj=>deq (xs.getD j .non) (ys.getD j .non)):=by rw[deq,oA,l1,hl,Nat.min_self];simp
  have rc:SeqAt.RcAt A s (.ref a) (.ref a') (deq (.lst xs) (.lst ys)):=by rw[e];exact .lists pt pt' (by rw[l1,l2];exact hl) (by omega) he
  exact ⟨rc,eqs rc,by rw[e];exact .lists pt pt' (by rw[l1,l2];exact hl) (by omega) he⟩
 ·have e:deq (.lst xs) (.lst ys)=false:=by rw[deq];exact RL hl
  have hne:(its.toArray.size != its'.toArray.size)=true:=by rw[l1,l2];simpa using hl
  have rc:SeqAt.RcAt A s (.ref a) (.ref a') (deq (.lst xs) (.lst ys)):=by rw[e];exact .lists_lengths pt pt' hne (by omega)
  exact ⟨rc,eqs rc,by rw[e];exact .lists_lengths pt pt' hne (by omega)⟩
theorem tD(I:Inv X pins σ H s):∀(n:Nat)(A:Around)(d d':D)(v v':V)(u u':Value),A.units+n < cLine->min (dpt d) (dpt d')<=n->nr d=true->nr d'=true->Rep X.K H F d v->Rep X.K H F d' v'->RelV v u->RelV v' u'->
  SeqAt.RcAt A s u u' (deq d d')/\SeqAt.EqAt A s u u' (deq d d')/\SeqAt.RcNeAt A s u u' (!deq d d'):=by
 intro n;induction n using Nat.strongRecOn with
 |_ n ih=>
  intro A d d' v v' u u' hu hd n1 n2 h h' r r';have hu0:A.units < cLine:=by omega
  cases d with
  |ref a=>rw[nr]at n1;cases n1
  |scr a=>rw[nr]at n1;cases n1
  |exn a=>rw[nr]at n1;cases n1
  |exa _ _ _=>rw[nr]at n1;cases n1
  |obj _ _ _=>rw[nr]at n1;cases n1
  |non=>
   have hv:v=.non:=h;subst hv;have hr:u=Value.none:=r;subst hr;cases d' with
   |ref a=>rw[nr]at n2;cases n2
   |scr a=>rw[nr]at n2;cases n2
   |exn a=>rw[nr]at n2;cases n2
   |exa _ _ _=>rw[nr]at n2;cases n2
   |obj _ _ _=>rw[nr]at n2;cases n2
   |non=>
    have hv:v'=.non:=h';subst hv;have hr:u'=Value.none:=r';subst hr;exact ⟨.none_none,.same _,.none_none⟩
   |bl b'=>
    have hv:v'=.bl b':=h';subst hv;have hr:u'=Value.bool b':=r';subst hr;exact ⟨.none_bool b',.none_bool b',.none_bool b'⟩
   |int i'=>
    have hv:v'=.int i':=h';subst hv;obtain ⟨t',hr⟩:∃t',u'=Value.int i' t':=r';subst hr;exact ⟨.none_int i' t',.none_int i' t',.none_int i' t'⟩
   |str l'=>
    obtain ⟨hv,_⟩:=h';subst hv;obtain ⟨t',hr⟩:∃t',u'=Value.str (tx l') t':=r';subst hr;exact ⟨.none_str (tx l') t',.none_str (tx l') t',.none_str (tx l') t'⟩
   |tup ys=>
    obtain ⟨a',vs',hv,q',tt'⟩:=id h';subst hv;have hr:u'=Value.ref a':=r';subst hr;obtain ⟨its',rv',pt',_⟩:=I.tuple q'.sq;have pt':s.heap.IsTuple a' its'.toArray:=pt';exact ⟨.none_tuple pt' hu0,.none_tuple pt' hu0,.none_tuple pt' hu0⟩
   |lst ys=>
    obtain ⟨a',vs',hv,q',tt'⟩:=id h';subst hv;have hr:u'=Value.ref a':=r';subst hr;obtain ⟨its',rv',pl',_⟩:=I.list q'.sq;have pt':s.heap.IsList a' its'.toArray:=pl'.isList;exact ⟨.none_list pt' hu0,.none_list pt' hu0,.none_list pt' hu0⟩
  |bl b=>
   have hv:v=.bl b:=h;subst hv;have hr:u=Value.bool b:=r;subst hr;cases d' with
   |ref a=>rw[nr]at n2;cases n2
   |scr a=>rw[nr]at n2;cases n2
   |exn a=>rw[nr]at n2;cases n2
   |exa _ _ _=>rw[nr]at n2;cases n2
   |obj _ _ _=>rw[nr]at n2;cases n2
   |non=>
    have hv:v'=.non:=h';subst hv;have hr:u'=Value.none:=r';subst hr;exact ⟨.bool_none b,.bool_none b,.bool_none b⟩
   |bl b'=>
    have hv:v'=.bl b':=h';subst hv;have hr:u'=Value.bool b':=r';subst hr;exact ⟨.bool_bool b b',.bool_bool b b',.bool_bool b b'⟩
   |int i'=>
    have hv:v'=.int i':=h';subst hv;obtain ⟨t',hr⟩:∃t',u'=Value.int i' t':=r';subst hr;exact ⟨.bool_int b i' t',.bool_int b i' t',.bool_int b i' t'⟩
   |str l'=>
    obtain ⟨hv,_⟩:=h';subst hv;obtain ⟨t',hr⟩:∃t',u'=Value.str (tx l') t':=r';subst hr;exact ⟨.bool_str b (tx l') t',.bool_str b (tx l') t',.bool_str b (tx l') t'⟩
   |tup ys=>
    obtain ⟨a',vs',hv,q',tt'⟩:=id h';subst hv;have hr:u'=Value.ref a':=r';subst hr;obtain ⟨its',rv',pt',_⟩:=I.tuple q'.sq;have pt':s.heap.IsTuple a' its'.toArray:=pt';exact ⟨.bool_tuple b pt' hu0,.bool_tuple b pt' hu0,.bool_tuple b pt' hu0⟩
   |lst ys=>
    obtain ⟨a',vs',hv,q',tt'⟩:=id h';subst hv;have hr:u'=Value.ref a':=r';subst hr;obtain ⟨its',rv',pl',_⟩:=I.list q'.sq;have pt':s.heap.IsList a' its'.toArray:=pl'.isList;exact ⟨.bool_list b pt' hu0,.bool_list b pt' hu0,.bool_list b pt' hu0⟩
  |int i=>
   have hv:v=.int i:=h;subst hv;obtain ⟨t,hr⟩:∃t,u=Value.int i t:=r;subst hr;cases d' with
   |ref a=>rw[nr]at n2;cases n2
   |scr a=>rw[nr]at n2;cases n2
   |exn a=>rw[nr]at n2;cases n2
   |exa _ _ _=>rw[nr]at n2;cases n2
   |obj _ _ _=>rw[nr]at n2;cases n2
   |non=>
    have hv:v'=.non:=h';subst hv;have hr:u'=Value.none:=r';subst hr;exact ⟨.int_none i t,.int_none i t,.int_none i t⟩
   |bl b'=>
    have hv:v'=.bl b':=h';subst hv;have hr:u'=Value.bool b':=r';subst hr;exact ⟨.int_bool i t b',.int_bool i t b',.int_bool i t b'⟩
   |int i'=>
    have hv:v'=.int i':=h';subst hv;obtain ⟨t',hr⟩:∃t',u'=Value.int i' t':=r';subst hr;exact ⟨.int_int i t i' t',.int_int i t i' t',.int_int i t i' t'⟩
   |str l'=>
    obtain ⟨hv,_⟩:=h';subst hv;obtain ⟨t',hr⟩:∃t',u'=Value.str (tx l') t':=r';subst hr;exact ⟨.int_str i t (tx l') t',.int_str i t (tx l') t',.int_str i t (tx l') t'⟩
   |tup ys=>
    obtain ⟨a',vs',hv,q',tt'⟩:=id h';subst hv;have hr:u'=Value.ref a':=r';subst hr;obtain ⟨its',rv',pt',_⟩:=I.tuple q'.sq;have pt':s.heap.IsTuple a' its'.toArray:=pt';exact ⟨.int_tuple i t pt' hu0,.int_tuple i t pt' hu0,.int_tuple i t pt' hu0⟩
   |lst ys=>
    obtain ⟨a',vs',hv,q',tt'⟩:=id h';subst hv;have hr:u'=Value.ref a':=r';subst hr;obtain ⟨its',rv',pl',_⟩:=I.list q'.sq;have pt':s.heap.IsList a' its'.toArray:=pl'.isList;exact ⟨.int_list i t pt' hu0,.int_list i t pt' hu0,.int_list i t pt' hu0⟩
  |str l=>
   obtain ⟨hv,_⟩:=h;subst hv;obtain ⟨t,hr⟩:∃t,u=Value.str (tx l) t:=r;subst hr;cases d' with
   |ref a=>rw[nr]at n2;cases n2
   |scr a=>rw[nr]at n2;cases n2
   |exn a=>rw[nr]at n2;cases n2
   |exa _ _ _=>rw[nr]at n2;cases n2
   |obj _ _ _=>rw[nr]at n2;cases n2
   |non=>
    have hv:v'=.non:=h';subst hv;have hr:u'=Value.none:=r';subst hr;exact ⟨.str_none (tx l) t,.str_none (tx l) t,.str_none (tx l) t⟩
   |bl b'=>
    have hv:v'=.bl b':=h';subst hv;have hr:u'=Value.bool b':=r';subst hr;exact ⟨.str_bool (tx l) t b',.str_bool (tx l) t b',.str_bool (tx l) t b'⟩
   |int i'=>
    have hv:v'=.int i':=h';subst hv;obtain ⟨t',hr⟩:∃t',u'=Value.int i' t':=r';subst hr;exact ⟨.str_int (tx l) t i' t',.str_int (tx l) t i' t',.str_int (tx l) t i' t'⟩
   |str l'=>
    obtain ⟨hv,_⟩:=h';subst hv;obtain ⟨t',hr⟩:∃t',u'=Value.str (tx l') t':=r';subst hr;rw[deq,<-RM];exact ⟨.str_str (tx l) t (tx l') t',.str_str (tx l) t (tx l') t',.str_str (tx l) t (tx l') t'⟩
   |tup ys=>
    obtain ⟨a',vs',hv,q',tt'⟩:=id h';subst hv;have hr:u'=Value.ref a':=r';subst hr;obtain ⟨its',rv',pt',_⟩:=I.tuple q'.sq;have pt':s.heap.IsTuple a' its'.toArray:=pt';exact ⟨.str_tuple (tx l) t pt' hu0,.str_tuple (tx l) t pt' hu0,.str_tuple (tx l) t pt' hu0⟩
   |lst ys=>
    obtain ⟨a',vs',hv,q',tt'⟩:=id h';subst hv;have hr:u'=Value.ref a':=r';subst hr;obtain ⟨its',rv',pl',_⟩:=I.list q'.sq;have pt':s.heap.IsList a' its'.toArray:=pl'.isList;exact ⟨.str_list (tx l) t pt' hu0,.str_list (tx l) t pt' hu0,.str_list (tx l) t pt' hu0⟩
  |tup xs=>
   obtain ⟨a,vs,hv,q,tt⟩:=id h;subst hv;have hr:u=Value.ref a:=r;subst hr;obtain ⟨its,rv,pt,_⟩:=I.tuple q.sq;have pt:s.heap.IsTuple a its.toArray:=pt;cases d' with
   |ref a=>rw[nr]at n2;cases n2
   |scr a=>rw[nr]at n2;cases n2
   |exn a=>rw[nr]at n2;cases n2
   |exa _ _ _=>rw[nr]at n2;cases n2
   |obj _ _ _=>rw[nr]at n2;cases n2
   |non=>
    have hv:v'=.non:=h';subst hv;have hr:u'=Value.none:=r';subst hr;exact ⟨.tuple_none pt hu0,.tuple_none pt hu0,.tuple_none pt hu0⟩
   |bl b'=>
    have hv:v'=.bl b':=h';subst hv;have hr:u'=Value.bool b':=r';subst hr;exact ⟨.tuple_bool b' pt hu0,.tuple_bool b' pt hu0,.tuple_bool b' pt hu0⟩
   |int i'=>
    have hv:v'=.int i':=h';subst hv;obtain ⟨t',hr⟩:∃t',u'=Value.int i' t':=r';subst hr;exact ⟨.tuple_int i' t' pt hu0,.tuple_int i' t' pt hu0,.tuple_int i' t' pt hu0⟩
   |str l'=>
    obtain ⟨hv,_⟩:=h';subst hv;obtain ⟨t',hr⟩:∃t',u'=Value.str (tx l') t':=r';subst hr;exact ⟨.tuple_str (tx l') t' pt hu0,.tuple_str (tx l') t' pt hu0,.tuple_str (tx l') t' pt hu0⟩
   |tup ys=>
    obtain ⟨a',vs',hv,q',tt'⟩:=id h';subst hv;have hr:u'=Value.ref a':=r';subst hr;obtain ⟨its',rv',pt',_⟩:=I.tuple q'.sq;have pt':s.heap.IsTuple a' its'.toArray:=pt';exact RN I ih hu hd n1 n2 h h' pt pt' rv rv' tt tt'
   |lst ys=>
    obtain ⟨a',vs',hv,q',tt'⟩:=id h';subst hv;have hr:u'=Value.ref a':=r';subst hr;obtain ⟨its',rv',pl',_⟩:=I.list q'.sq;have pt':s.heap.IsList a' its'.toArray:=pl'.isList;exact ⟨.tuple_list pt pt' hu0,.tuple_list pt pt' hu0,.tuple_list pt pt' hu0⟩
  |lst xs=>
   obtain ⟨a,vs,hv,q,tt⟩:=id h;subst hv;have hr:u=Value.ref a:=r;subst hr;obtain ⟨its,rv,pl,_⟩:=I.list q.sq;have pt:s.heap.IsList a its.toArray:=pl.isList;cases d' with
   |ref a=>rw[nr]at n2;cases n2
   |scr a=>rw[nr]at n2;cases n2
   |exn a=>rw[nr]at n2;cases n2
   |exa _ _ _=>rw[nr]at n2;cases n2
   |obj _ _ _=>rw[nr]at n2;cases n2
   |non=>
    have hv:v'=.non:=h';subst hv;have hr:u'=Value.none:=r';subst hr;exact ⟨.list_none pt hu0,.list_none pt hu0,.list_none pt hu0⟩
   |bl b'=>
    have hv:v'=.bl b':=h';subst hv;have hr:u'=Value.bool b':=r';subst hr;exact ⟨.list_bool b' pt hu0,.list_bool b' pt hu0,.list_bool b' pt hu0⟩
   |int i'=>
    have hv:v'=.int i':=h';subst hv;obtain ⟨t',hr⟩:∃t',u'=Value.int i' t':=r';subst hr;exact ⟨.list_int i' t' pt hu0,.list_int i' t' pt hu0,.list_int i' t' pt hu0⟩
   |str l'=>
    obtain ⟨hv,_⟩:=h';subst hv;obtain ⟨t',hr⟩:∃t',u'=Value.str (tx l') t':=r';subst hr;exact ⟨.list_str (tx l') t' pt hu0,.list_str (tx l') t' pt hu0,.list_str (tx l') t' pt hu0⟩
   |tup ys=>
    obtain ⟨a',vs',hv,q',tt'⟩:=id h';subst hv;have hr:u'=Value.ref a':=r';subst hr;obtain ⟨its',rv',pt',_⟩:=I.tuple q'.sq;have pt':s.heap.IsTuple a' its'.toArray:=pt';exact ⟨.list_tuple pt pt' hu0,.list_tuple pt pt' hu0,.list_tuple pt pt' hu0⟩
   |lst ys=>
    obtain ⟨a',vs',hv,q',tt'⟩:=id h';subst hv;have hr:u'=Value.ref a':=r';subst hr;obtain ⟨its',rv',pl',_⟩:=I.list q'.sq;have pt':s.heap.IsList a' its'.toArray:=pl'.isList;exact RP I ih hu hd n1 n2 (λz=>by subst z;have e:=oE I n1 n2 h h';injection e) pt pt' rv rv' tt tt'
end
def FA(F:FZ)(G:DH):FZ:=λa=>F a\/∃o,G a=some o
theorem ye{H:Hp}{F:FZ}{G:DH}:Ext H F H (FA F G):=⟨λ_ f=>.inl f,λ_ _=>rfl,λ_ _ h=>h,λ_ _ _ h=>h⟩
theorem oG{K:PF}{H:Hp}{F:FZ}{G:DH}{d:D}{v:V}(r:R K H F G)(h:Rep K H F d v):Rep K H (FA F G) (view G d) v:=by
 cases d with
 |ref p=>
  have hv:v=.ref p:=h;cases g:G p with
  |none=>
   have e:view G (.ref p)=.ref p:=by simp only[view,g]
   rw[e];exact hv
  |some o=>
   cases o with
   |lst ds=>
    have e:view G (.ref p)=.lst ds:=by simp only[view,g]
    rw[e];obtain ⟨vs,q,t⟩:=r.lst g;exact ⟨p,vs,hv,⟨.inr ⟨_,g⟩,q⟩,Reps.ext ye t⟩
 |_=>exact Rep.ext ye h
def rC2(K:PF)(f:D->D->(Bool->Prop)->Prop):R2:=λx y H Q=>∃F G a b,R K H F G/\Rep K H F a x/\Rep K H F b y/\f (view G a) (view G b) (λc=>PV K H F Q (.bl c) G)
section
variable {X:Cx}
theorem yf(c:Nat)(l:List Nat):(!(Builtin.Str.occurrences (tx l) (tx [c]) 0 (tx l).length 1).isEmpty)=l.contains c:=by have:=StrLaws.found_one (tx l) c;rw[this,eI];simp
theorem RQ{pins:List (Addr×Obj)}{σ:L2.St}{H:Hp}{s:Shared}{F:FZ}(I:Inv X pins σ H s){A:Around}{x:D}{v:V}{u:Value}(hu:A.units+64 < cLine)(hx:nr x=true)(rx:Rep X.K H F x v)(ru:RelV v u):
  ∀{ds:List D}{vs:List V}{us:List Value},nrs ds=true->aO ds<=60->Reps X.K H F ds vs->Vals vs us->∃e:Value->Bool,(∀y∈us,SeqAt.EqAt A s y u (e y))/\us.any e=isIn x ds:=by
 intro ds vs us hn hd t r;let P:Value->D->Prop:=λy d=>nr d=true/\∃v,Rep X.K H F d v/\RelV v y
 have one:∀y d d',P y d->P y d'->d=d':=λy d d' ⟨n,v,q,z⟩ ⟨n',v',q',z'⟩=>by
  have e:=z.inj z';subst e;exact oE I n n' q q'
 have ⟨f,hf⟩:∃f:Value->D,∀y d,P y d->f y=d:=by refine ⟨λy=>Classical.epsilon (P y),λy d h=>?_⟩;exact one y _ _ (Classical.epsilon_spec ⟨d,h⟩) h
 refine ⟨λy=>deq (f y) x,?_,?_⟩
 ·skip;have key:∀{ds:List D}{vs:List V}{us:List Value},nrs ds=true->aO ds<=60->Reps X.K H F ds vs->Vals vs us->∀y∈us,SeqAt.EqAt A s y u (deq (f y) x):=by
   intro ds;induction ds with
   |nil=>
    intro vs us _ _ t r y hy;have t:vs=[]:=t;subst t;cases r;cases hy
   |cons d ds ih=>
    intro vs us hn hd t r y hy;obtain ⟨v1,r1,e,h1,t1⟩:=t;subst e;rw[nrs,ah]at hn;rw[aO]at hd;cases r with
    |cons p q=>
     rcases ba.mp hy with e |hy
     ·subst e;rw[hf _ d ⟨hn.1,_,h1,p⟩];exact (tD I 60 A d x v1 v _ u (by omega) (by omega) hn.1 hx h1 rx p ru).2.1
     ·exact ih hn.2 (by omega) t1 q y hy
  exact key hn hd t r
 ·have key:∀{ds:List D}{vs:List V}{us:List Value},nrs ds=true->Reps X.K H F ds vs->Vals vs us->us.any (λy=>deq (f y) x)=isIn x ds:=by
   intro ds;induction ds with
   |nil=>
    intro vs us _ t r;have t:vs=[]:=t;subst t;cases r;rfl
   |cons d ds ih=>
    intro vs us hn t r;obtain ⟨v1,r1,e,h1,t1⟩:=t;subst e;rw[nrs,ah]at hn;cases r with
    |cons p q=>
     rw[List.any_cons,hf _ d ⟨hn.1,_,h1,p⟩,ih hn.2 t1 q];rfl
  exact key hn t r
theorem il(op:CmpOp)(hu:X.A.units+100 < cLine):OpR X (compareOp op) (rC2 X.K (aP op)):=by
 intro pins s σ H x y v u Q I rx ry h;obtain ⟨F,G,a,b,r,ra,rb,h⟩:=h;have ra':=oG r ra;have rb':=oG r rb;generalize ea:view G a=va at h ra';generalize eb:view G b=vb at h rb';have fin:∀c:Bool,PV X.K H F Q (.bl c) G->EP X pins σ Q (.bool c) s:=λc q=>⟨.bl c,H,I,rfl,q.now r rfl⟩;have hin:∀(l:List D)(k:Bool->Prop),(nr va=true/\nrs l=true/\aO l<=60)->∀{vs:List V}{us:List Value},Reps X.K H (FA F G) l vs->Vals vs us->
   ∃e:Value->Bool,(∀z∈us,SeqAt.EqAt X.A.in1 s z v (e z))/\us.any e=isIn va l:=λl k hh {vs us} t rv=>
  RQ I (A:=X.A.in1) (by show X.A.units+1+64 < cLine;omega) hh.1 ra' rx hh.2.1 hh.2.2 t rv
 cases op with
 |Eq=>
  obtain ⟨⟨n1,n2,n3⟩,q⟩:=h;exact (tD I 60 X.A _ _ x y v u (by omega) n3 n1 n2 ra' rb' rx ry).1 _ _ _ _ (fin _ q)
 |NotEq=>
  obtain ⟨⟨n1,n2,n3⟩,q⟩:=h;exact (tD I 60 X.A _ _ x y v u (by omega) n3 n1 n2 ra' rb' rx ry).2.2 _ _ _ _ (fin _ q)
 |Lt=>
  have h:gP va vb (λc=>PV X.K H F Q (.bl c) G):=h;unfold gP at h;split at h
  ·have e1:x=.int _:=ra';have e2:y=.int _:=rb';subst e1;subst e2;obtain ⟨t,rfl⟩:=rx;obtain ⟨t',rfl⟩:=ry;exact lt_int (fin _ h)
  ·obtain ⟨e1,_⟩:=ra';obtain ⟨e2,_⟩:=rb';subst e1;subst e2;obtain ⟨t,rfl⟩:=rx;obtain ⟨t',rfl⟩:=ry;exact lt_str (fin _ h)
  ·exact h.elim
 |LtE=>
  have h:gQ va vb (λc=>PV X.K H F Q (.bl c) G):=h;unfold gQ at h;split at h
  ·have e1:x=.int _:=ra';have e2:y=.int _:=rb';subst e1;subst e2;obtain ⟨t,rfl⟩:=rx;obtain ⟨t',rfl⟩:=ry;exact le_int (fin _ h)
  ·obtain ⟨e1,_⟩:=ra';obtain ⟨e2,_⟩:=rb';subst e1;subst e2;obtain ⟨t,rfl⟩:=rx;obtain ⟨t',rfl⟩:=ry;exact PySem.P.le_str (fin _ h)
  ·exact h.elim
 |Gt=>
  have h:gR va vb (λc=>PV X.K H F Q (.bl c) G):=h;unfold gR at h;split at h
  ·have e1:x=.int _:=ra';have e2:y=.int _:=rb';subst e1;subst e2;obtain ⟨t,rfl⟩:=rx;obtain ⟨t',rfl⟩:=ry;exact gt_int (fin _ h)
  ·exact h.elim
 |GtE=>
  have h:gU va vb (λc=>PV X.K H F Q (.bl c) G):=h;unfold gU at h;split at h
  ·have e1:x=.int _:=ra';have e2:y=.int _:=rb';subst e1;subst e2;obtain ⟨t,rfl⟩:=rx;obtain ⟨t',rfl⟩:=ry;exact ge_int (fin _ h)
  ·exact h.elim
 |Is=>
  have h:gW va vb (λc=>PV X.K H F Q (.bl c) G):=h;unfold gW at h;split at h
  ·have e2:y=.non:=rb';subst e2;have q:∀c,(c=decide (x=.non))->PV X.K H F Q (.bl c) G->wpAny (model X.prog X.w) X.A (compareOp .Is v u) (EP X pins σ Q) X.xe s:=λc e q=>
    Mj pins s σ H _ _ v u Q I rx ry ⟨rfl,by rw[<-e];exact q.now r rfl⟩
   refine q _ ?_ h;have:lN va=decide (x=.non):=by
    cases va with
    |non=>have e1:x=.non:=ra';subst e1;rfl
    |bl _=>have e1:x=.bl _:=ra';subst e1;rfl
    |int _=>have e1:x=.int _:=ra';subst e1;rfl
    |str _=>obtain ⟨e1,_⟩:=ra';subst e1;rfl
    |tup _=>obtain ⟨_,_,e1,_⟩:=ra';subst e1;rfl
    |lst _=>obtain ⟨_,_,e1,_⟩:=ra';subst e1;rfl
    |ref _=>have e1:x=.ref _:=ra';subst e1;rfl
    |scr _=>obtain ⟨_,e1,_⟩:=ra';subst e1;rfl
    |exn _=>obtain ⟨_,_,e1,_⟩:=ra';subst e1;rfl
    |exa _ _ _=>obtain ⟨_,_,_,_,_,_,_,e1,_⟩:=ra';subst e1;rfl
    |obj _ _ _=>obtain ⟨_,_,_,e1,_⟩:=ra';subst e1;rfl
   rw[this]
  ·split at h
   ·have e1:x=.bl _:=ra';have e2:y=.bl _:=rb';subst e1;subst e2;exact O9 pins s σ H _ _ v u Q I rx ry ⟨_,_,rfl,rfl,h.now r rfl⟩
   ·exact h.elim
  ·exact h.elim
 |IsNot=>
  have h:gY va vb (λc=>PV X.K H F Q (.bl c) G):=h;unfold gY at h;split at h
  ·have e2:y=.non:=rb';subst e2;have q:∀c,(c=!decide (x=.non))->PV X.K H F Q (.bl c) G->wpAny (model X.prog X.w) X.A (compareOp .IsNot v u) (EP X pins σ Q) X.xe s:=λc e q=>
    Ml pins s σ H _ _ v u Q I rx ry ⟨rfl,by rw[<-e];exact q.now r rfl⟩
   refine q _ ?_ h;have:lN va=decide (x=.non):=by
    cases va with
    |non=>have e1:x=.non:=ra';subst e1;rfl
    |bl _=>have e1:x=.bl _:=ra';subst e1;rfl
    |int _=>have e1:x=.int _:=ra';subst e1;rfl
    |str _=>obtain ⟨e1,_⟩:=ra';subst e1;rfl
    |tup _=>obtain ⟨_,_,e1,_⟩:=ra';subst e1;rfl
    |lst _=>obtain ⟨_,_,e1,_⟩:=ra';subst e1;rfl
    |ref _=>have e1:x=.ref _:=ra';subst e1;rfl
    |scr _=>obtain ⟨_,e1,_⟩:=ra';subst e1;rfl
    |exn _=>obtain ⟨_,_,e1,_⟩:=ra';subst e1;rfl
    |exa _ _ _=>obtain ⟨_,_,_,_,_,_,_,e1,_⟩:=ra';subst e1;rfl
    |obj _ _ _=>obtain ⟨_,_,_,e1,_⟩:=ra';subst e1;rfl
   rw[this]
  ·split at h
   ·have e1:x=.bl _:=ra';have e2:y=.bl _:=rb';subst e1;subst e2;exact Ph pins s σ H _ _ v u Q I rx ry ⟨_,_,rfl,rfl,h.now r rfl⟩
   ·exact h.elim
  ·exact h.elim
 |In=>
  have h:d8 va vb (λc=>PV X.K H F Q (.bl c) G):=h;unfold d8 at h;split at h
  ·split at h
   ·obtain ⟨e1,_⟩:=ra';obtain ⟨e2,_⟩:=rb';subst e1;subst e2;obtain ⟨t,rfl⟩:=rx;obtain ⟨t',rfl⟩:=ry;exact in_str (by rw[yf];exact fin _ h)
   ·exact h.elim
  ·obtain ⟨hh,q⟩:=h;obtain ⟨p,vs,e2,q2,t⟩:=rb';subst e2;cases ry;obtain ⟨its,rv,pl,hz⟩:=I.list q2.sq;obtain ⟨e,he,hany⟩:=hin _ (λ_=>True) hh t rv;refine SeqAt.in_listAt e pl.isList (λw hw=>he w (by simpa using hw)) ?_;rw[show its.toArray.any e=its.any e by simp,hany];exact fin _ q
  ·obtain ⟨hh,q⟩:=h;obtain ⟨p,vs,e2,q2,t⟩:=rb';subst e2;cases ry;obtain ⟨its,rv,pl,hz⟩:=I.tuple q2.sq;obtain ⟨e,he,hany⟩:=hin _ (λ_=>True) hh t rv;refine SeqAt.in_tupleAt e pl (λw hw=>he w (by simpa using hw)) ?_;rw[show its.toArray.any e=its.any e by simp,hany];exact fin _ q
  ·exact h.elim
 |NotIn=>
  have h:d8 va vb (λc=>PV X.K H F Q (.bl (!c)) G):=h;unfold d8 at h;split at h
  ·split at h
   ·obtain ⟨e1,_⟩:=ra';obtain ⟨e2,_⟩:=rb';subst e1;subst e2;obtain ⟨t,rfl⟩:=rx;obtain ⟨t',rfl⟩:=ry;exact notIn_str (by rw[yf];exact fin _ h)
   ·exact h.elim
  ·obtain ⟨hh,q⟩:=h;obtain ⟨p,vs,e2,q2,t⟩:=rb';subst e2;cases ry;obtain ⟨its,rv,pl,hz⟩:=I.list q2.sq;obtain ⟨e,he,hany⟩:=hin _ (λ_=>True) hh t rv;refine SeqAt.notIn_listAt e pl.isList (λw hw=>he w (by simpa using hw)) ?_;rw[show its.toArray.any e=its.any e by simp,hany];exact fin _ q
  ·obtain ⟨hh,q⟩:=h;obtain ⟨p,vs,e2,q2,t⟩:=rb';subst e2;cases ry;obtain ⟨its,rv,pl,hz⟩:=I.tuple q2.sq;obtain ⟨e,he,hany⟩:=hin _ (λ_=>True) hh t rv;refine SeqAt.notIn_tupleAt e pl (λw hw=>he w (by simpa using hw)) ?_;rw[show its.toArray.any e=its.any e by simp,hany];exact fin _ q
  ·exact h.elim
end
section
variable {X:Cx}
def RT(K:PF):R2:=λx y H Q=>∃F G a b,R K H F G/\Rep K H F a x/\Rep K H F b y/\bO (view G a) b (λd=>PV K H F Q d G)
theorem yg{K:PF}{H:Hp}{F:FZ}{ds:List D}{vs:List V}{i:Int}{d:D}(t:Reps K H F ds vs)(h:atI ds i=some d):∃v,atI vs i=some v/\Rep K H F d v:=by
 unfold atI at h ⊢;rw[<-t.length];cases e:ixN ds.length i with
 |none=>rw[e]at h;cases h
 |some j=>
  rw[e]at h;obtain ⟨v,e1,r⟩:=t.get (show ds[j]?=some d from h);exact ⟨v,e1,r⟩
theorem RV:IxR X (RT X.K):=by
 intro value slice pins s σ H x y v u Q I rx ry h hs;obtain ⟨F,G,a,b,r,ra,rb,h⟩:=h;generalize ea:view G a=va at h;unfold bO at h;split at h
 ·obtain ⟨p,vs,e,q,t⟩:=Rep.list r ra ea;subst e;have e2:y=.int _:=rb;subst e2;split at h
  ·rename_i d hd;obtain ⟨w,hw,rw'⟩:=yg t hd;exact NQ value slice pins s σ H _ _ v u Q I rx ry ⟨p,vs,_,w,rfl,rfl,q,hw,h.now r rw'⟩ hs
  ·exact h.elim
 ·cases dG ea;obtain ⟨p,vs,e,q,t⟩:=ra;subst e;have e2:y=.int _:=rb;subst e2;split at h
  ·rename_i d hd;obtain ⟨w,hw,rw'⟩:=yg t hd;exact NT value slice pins s σ H _ _ v u Q I rx ry ⟨p,vs,_,w,rfl,rfl,q.sq,hw,h.now r rw'⟩ hs
  ·exact h.elim
 ·cases dH ea;obtain ⟨e,hl⟩:=ra;subst e;have e2:y=.int _:=rb;subst e2;split at h
  ·rename_i c hc;exact NZ value slice pins s σ H _ _ v u Q I rx ry ⟨_,_,c,rfl,rfl,by rw[bD];exact bU hl,hc,h.now r ⟨rfl,by show 1<=sz;decide⟩⟩ hs
  ·exact h.elim
 ·exact h.elim
theorem RW(l:List Nat)(lo hi:Option Int):Txt.slice (tx l) lo hi=tx (cut l lo hi):=by
 have e:Builtin.Str.strSliceIndices lo hi 1 (tx l).length=sliceRange (sliceBounds lo hi none (tx l).length).1 (sliceBounds lo hi none (tx l).length).2.1 1:=by unfold Builtin.Str.strSliceIndices sliceBounds;cases lo <;> cases hi <;> rfl
 obtain ⟨h1,h2,h3⟩:=vP lo hi (tx l).length;rw[h1,h2,sliceRange_one]at e;have e2:((Builtin.Str.strSliceIndices lo hi 1 (tx l).length).filterMap ((tx l).cps[·]?))=cut l lo hi:=by rw[e,pick_run];unfold cut;rw[bD]
 unfold Txt.slice;split
 ·rename_i hh;rw[ah]at hh;have hl:=eq_of_beq hh.2;rw[e,ax,fR,bD]at hl;have b1:HT.sIx l.length l.length hi<=l.length:=HT.vI _ _ (av _) hi;unfold cut;by_cases hz:l=[]
  ·subst hz;simp
  ·have hp:0 < l.length:=List.length_pos_iff.mpr hz;have e3:HT.sIx l.length 0 lo=0:=by omega
   have e4:HT.sIx l.length l.length hi=l.length:=by omega
   rw[e3,e4];simp
 ·rw[e2]
theorem RX{α:Type}(xs:List α)(lo hi:Option Int):(cut xs lo hi).length<=xs.length:=by unfold cut;rw[de,eS];omega
theorem RZ{prog:Program}{w:World}{A:Around}{E:Value->Shared->Prop}{s:Shared}{t sl:Addr}{items:Array Value}{vl vu:Value}{lo hi:Option Int}{Q:Value->Shared->Prop}(ht:IsTup s.heap t items)(hs:s.heap.IsSliceOf sl vl vu .none)(pl:IsPart vl lo)(pu:IsPart vu hi)
  (hw:HT.sIx items.size 0 lo=0/\HT.sIx items.size items.size hi=items.size) (h:Q (.ref t) s):wpAny (model prog w) A (getItem (.ref t) (.ref sl)) Q E s:=by
 obtain ⟨os,hos,hcs,hds⟩:=id hs;have hTs:s.TypeIs (.ref sl) "slice":=⟨os,hos,hcs⟩;unfold getItem;try with_reducible refine cf ?_
 first |refine ae (am ?_) |skip
 refine ae (wpAny_sequenceKey ht.typeIs (by decide) ?_);refine ae (ei (name:=Str.ofString "__getitem__") ht.typeIs eM
  (dQ eM ht.typeIs entry_tuple_getitem ?_ (args_tuple_getitem _ _)))
 show wpAny _ _ (Builtin.Tuple.tupleItemsOf (.ref t) >>= _) _ _ s;refine ae (tupleItemsOf_ ht ?_);refine ae (wpAny_typeOf hTs ?_);rw[if_pos (by decide)];refine ae (HT.vL hs pl pu ?_);have hyes:(((HT.sIx items.size 0 lo:Nat):Int)==0&&(1:Int)==1&&(HT.sIx items.size items.size hi - HT.sIx items.size 0 lo)==items.size)=true:=by rw[hw.1,hw.2];simp
 show wpAny _ _ (if (((HT.sIx items.size 0 lo:Nat):Int)==0&&(1:Int)==1&&(HT.sIx items.size items.size hi - HT.sIx items.size 0 lo)==items.size)=true then _ else _) _ _ s;rw[if_pos hyes];refine ae (m:=Builtin.Tuple.tupleIsExact _) (ae (wpAny_typeOf ht.typeIs (am ?_)));rw[if_pos (by decide)];exact ae (gc (am ⟨_,rfl,am h⟩))
theorem R0:SlR X (λx lo hi H Q=>∃a xs,x=.ref a/\SqT X.K H a xs/\(HT.sIx xs.length 0 lo=0/\HT.sIx xs.length xs.length hi=xs.length)/\Q (.ref a) H):=by
 intro pins s σ H x v vl vu lo hi sl Q I rx hs pl pu h;obtain ⟨a,xs,rfl,hx,hw,q⟩:=h;cases rx;obtain ⟨its,r,ht,hz⟩:=I.tuple hx;have hlen:its.toArray.size=xs.length:=by rw[ap];exact r.length.symm
 exact ⟨"tuple",_,eM.lookup,ht.typeIs,RZ ht hs pl pu (by rw[hlen];exact hw) ⟨.ref a,H,I,rfl,q⟩⟩
theorem yh{K:PF}{H:Hp}{F:FZ}:∀ns:List Int,Reps K H F (ns.map D.int) (ns.map V.int)
 |[]=>rfl
 |n::ns=>⟨_,_,rfl,rfl,yh ns⟩
noncomputable def R1(K:PF)(fz:Bool):V->Option Int->Option Int->Hp->VK->Prop:=λx lo hi H Q=>∃F G a,R K H F G/\Rep K H F a x/\dj fz (view G a) lo hi G (PV K H F Q)
theorem yj{K:PF}{H:Hp}{F:FZ}{ds:List D}{vs:List V}(t:Reps K H F ds vs)(lo hi:Option Int):Reps K H F (cut ds lo hi) (dg vs lo hi):=t.cut lo hi
theorem R4(fz:Bool):SlR X (R1 X.K fz):=by
 intro pins s σ H x v vl vu lo hi sl Q I rx hs pl pu h;obtain ⟨F,G,a,r,ra,h⟩:=h;generalize ea:view G a=va at h;unfold dj at h;split at h
 ·obtain ⟨p,vs,e,q,t⟩:=Rep.list r ra ea;subst e;exact vQ pins s σ H _ v vl vu lo hi sl Q I rx hs pl pu ⟨p,vs,rfl,q,cY h r (yj t lo hi)⟩
 ·rename_i ns;have ea':a=.scr ns:=by
   cases a with
   |ref p=>
    unfold view at ea;cases g:G p with
    |none=>simp only[g]at ea;cases ea
    |some o=>cases o;simp only[g]at ea;cases ea
   |_=>exact ea
  subst ea';obtain ⟨p,e,q⟩:=ra;subst e;refine vQ pins s σ H _ v vl vu lo hi sl Q I rx hs pl pu ⟨p,_,rfl,q.sq,cY h r ?_⟩;have e2:dg (ns.map V.int) lo hi=(cut ns lo hi).map V.int:=by unfold dg cut;rw[ax,List.map_take,List.map_drop]
  rw[e2];exact yh (cut ns lo hi)
 ·cases dG ea;obtain ⟨p,vs,e,q,t⟩:=id ra;subst e;by_cases hw:HT.sIx vs.length 0 lo=0/\HT.sIx vs.length vs.length hi=vs.length
  ·refine R0 pins s σ H _ v vl vu lo hi sl Q I rx hs pl pu ⟨p,vs,rfl,q.sq,hw,?_⟩;refine h.now r ?_;rename_i ds;have:cut ds lo hi=ds:=by
    unfold cut;rw[t.length,hw.1,hw.2];simp[<-t.length]
   rw[this];exact ra
  ·exact Nv pins s σ H _ v vl vu lo hi sl Q I rx hs pl pu ⟨p,vs,rfl,q.sq,hw,jl h r (yj t lo hi)⟩
 ·cases dH ea;obtain ⟨e,hl⟩:=ra;subst e;refine Pg pins s σ H _ v vl vu lo hi sl Q I rx hs pl pu ⟨_,rfl,by rw[bD];exact bU hl,?_⟩;rw[RW];exact h.now r ⟨rfl,ca (RX _ _ _) hl⟩
 ·exact h.elim
theorem R5{K:PF}{H:Hp}{F:FZ}{G:DH}{d:D}{v:V}{b:Bool}(r:R K H F G)(h:Rep K H F d v)(e:truth (view G d)=some b):qj K v H b:=by
 have h':=oG r h;generalize view G d=w at e h';cases w with
 |non=>have e1:v=.non:=h';subst e1;simp only[truth,a7]at e;exact e.symm
 |bl x=>have e1:v=.bl x:=h';subst e1;simp only[truth,a7]at e;exact e.symm
 |int i=>have e1:v=.int i:=h';subst e1;simp only[truth,a7]at e;exact e.symm
 |str l=>
  obtain ⟨e1,hl⟩:=h';subst e1;simp only[truth,a7]at e;refine ⟨by rw[bD];exact bU hl,?_⟩;rw[bD,<-e];cases l with
  |nil=>rfl
  |cons c l=>simp;omega
 |tup l=>
  obtain ⟨a,vs,e1,q,t⟩:=h';subst e1;simp only[truth,a7]at e;refine .inr (.inl ⟨vs,q.sq,?_⟩);rw[<-e];cases l with
  |nil=>have t:vs=[]:=t;subst t;rfl
  |cons c l=>obtain ⟨_,_,e2,_⟩:=t;subst e2;rfl
 |lst l=>
  obtain ⟨a,vs,e1,q,t⟩:=h';subst e1;simp only[truth,a7]at e;refine .inl ⟨vs,q.sq,?_⟩;rw[<-e];cases l with
  |nil=>have t:vs=[]:=t;subst t;rfl
  |cons c l=>obtain ⟨_,_,e2,_⟩:=t;subst e2;rfl
 |ref a=>simp[truth]at e
 |scr a=>simp[truth]at e
 |exn a=>simp[truth]at e
 |exa _ _ _=>simp[truth]at e
 |obj _ _ _=>simp[truth]at e
theorem oH{K:PF}{H:Hp}{F:FZ}:∀{ds:List D}{vs:List V}{bs:List Bool},bools ds=some bs->Reps K H F ds vs->vs=bs.map V.bl
 |[],_,bs,e,h=>by
  simp only[bools,a7]at e;subst e;exact h
 |d::ds,_,bs,e,⟨v,w,e1,h,t⟩=>by
  cases d with
  |bl b=>
   simp only[bools]at e;cases q:bools ds with
   |none=>rw[q]at e;cases e
   |some s=>
    rw[q]at e;cases e;have hv:v=.bl b:=h;rw[e1,hv,oH q t];rfl
  |_=>simp[bools]at e
theorem bc{K:PF}{H:Hp}{F:FZ}{d:D}{vs:List V}(t:Reps K H F [d] vs):∃v,vs=[v]/\Rep K H F d v:=by obtain ⟨v,r,e,h,t⟩:=t;have t:r=[]:=t;subst t;exact ⟨v,e,h⟩
noncomputable def ir(K:PF)(f:Bf):List V->Hp->VK->Prop:=λvs H Q=>∃F G ds,R K H F G/\Reps K H F ds vs/\opB f (ds.map (view G)) (λd=>PV K H F Q d G)
theorem map_one{G:DH}{ds:List D}{x:D}(h:ds.map (view G)=[x]):∃d,ds=[d]/\view G d=x:=by
 match ds,h with
 |[d],h=>exact ⟨d,rfl,by simpa using h⟩
theorem R6:bA X (.builtin "len") (ir X.K .len):=by
 intro pins s σ H xs us Q I rs h;obtain ⟨F,G,ds,r,t,h⟩:=h;generalize ea:ds.map (view G)=va at h;simp only[opB,qO]at h;split at h
 ·obtain ⟨d,rfl,ev⟩:=map_one ea;obtain ⟨v,rfl,rv⟩:=bc t;obtain ⟨a,vs,e,q,t'⟩:=Rep.list r rv ev;subst e;exact vR pins s σ H _ us Q I rs ⟨a,vs,rfl,.inl q,by rw[<-t'.length];exact h.now r rfl⟩
 ·obtain ⟨d,rfl,ev⟩:=map_one ea;obtain ⟨v,rfl,rv⟩:=bc t;cases dG ev;obtain ⟨a,vs,e,q,t'⟩:=rv;subst e;exact vR pins s σ H _ us Q I rs ⟨a,vs,rfl,.inr q.sq,by rw[<-t'.length];exact h.now r rfl⟩
 ·obtain ⟨d,rfl,ev⟩:=map_one ea;obtain ⟨v,rfl,rv⟩:=bc t;cases dH ev;obtain ⟨e,hl⟩:=rv;subst e;exact Oa pins s σ H _ us Q I rs ⟨_,rfl,by rw[bD];exact bU hl,by rw[bD];exact h.now r rfl⟩
 ·exact h.elim
theorem R7 (hc:X.calm=true):bA X (.builtin "all") (ir X.K .all):=by
 intro pins s σ H xs us Q I rs h;obtain ⟨F,G,ds,r,t,h⟩:=h;generalize ea:ds.map (view G)=va at h;simp only[opB,lO]at h;split at h
 ·obtain ⟨d,rfl,ev⟩:=map_one ea;obtain ⟨v,rfl,rv⟩:=bc t;obtain ⟨a,vs,e,q,t'⟩:=Rep.list r rv ev;subst e;split at h
  ·rename_i bs hb;have e2:=oH hb t';subst e2;exact O8 hc pins s σ H _ us Q I rs ⟨a,bs,rfl,q,h.now r rfl⟩
  ·exact h.elim
 ·exact h.elim
theorem R8:bA X (.type "int") (ir X.K .int):=by
 intro pins s σ H xs us Q I rs h;obtain ⟨F,G,ds,r,t,h⟩:=h;generalize ea:ds.map (view G)=va at h;simp only[opB,lQ]at h;split at h
 ·obtain ⟨d,rfl,ev⟩:=map_one ea;obtain ⟨v,rfl,rv⟩:=bc t;cases qN ev;have e:v=.bl _:=rv;subst e;exact vy pins s σ H _ us Q I rs (.inr ⟨_,rfl,h.now r rfl⟩)
 ·obtain ⟨d,rfl,ev⟩:=map_one ea;obtain ⟨v,rfl,rv⟩:=bc t;cases cH ev;have e:v=.int _:=rv;subst e;exact vy pins s σ H _ us Q I rs (.inl ⟨_,rfl,h.now r rfl⟩)
 ·obtain ⟨d,rfl,ev⟩:=map_one ea;obtain ⟨v,rfl,rv⟩:=bc t;cases dH ev;obtain ⟨e,hl⟩:=rv;subst e;split at h
  ·rename_i n hn;exact Pa pins s σ H _ us Q I rs ⟨_,n,rfl,hn,by rw[bD];exact h.1,h.2.now r rfl⟩
  ·exact h.elim
 ·exact h.elim
theorem R9:bA X (.type "tuple") (ir X.K .tuple):=by
 intro pins s σ H xs us Q I rs h;obtain ⟨F,G,ds,r,t,h⟩:=h;generalize ea:ds.map (view G)=va at h;simp only[opB,qP]at h;split at h
 ·obtain ⟨d,rfl,ev⟩:=map_one ea;obtain ⟨v,rfl,rv⟩:=bc t;obtain ⟨a,vs,e,q,t'⟩:=Rep.list r rv ev;subst e;exact vV pins s σ H _ us Q I rs ⟨a,vs,rfl,.inl ⟨q,jl h r t'⟩⟩
 ·obtain ⟨d,rfl,ev⟩:=map_one ea;obtain ⟨v,rfl,rv⟩:=bc t;cases dG ev;obtain ⟨a,vs,e,q,t'⟩:=id rv;subst e;exact vV pins s σ H _ us Q I rs ⟨a,vs,rfl,.inr ⟨q.sq,h.now r rv⟩⟩
 ·exact h.elim
noncomputable def yl(K:PF)(fz:Bool)(f:Lf):List V->Hp->VK->Prop:=λvs H Q=>∃F G ds,R K H F G/\Reps K H F ds vs/\cz f (ds.map (view G)) (λxs=>mk fz xs G (PV K H F Q))
theorem Sd(l:List Nat):∀(us:List Value),us.length=l.length->(∀(j:Nat)(v:Value),us[j]?=some v->∃(c:Nat)(u:Tok),l[j]?=some c/\v=Value.str ⟨#[c]⟩ u)->Vals (l.map λc=>V.str (tx [c])) us:=by
 induction l with
 |nil=>intro us h _;cases us with |nil=>exact .nil |cons _ _=>cases h
 |cons c l ih=>
  intro us h q;cases us with
  |nil=>cases h
  |cons u us=>
   obtain ⟨c',t,e1,e2⟩:=q 0 u (by simp);have e1:c=c':=by simpa using e1
   subst e1;exact .cons ⟨t,e2⟩ (ih us (by simpa using h) λj v hv=>by simpa using q (j+1) v (by simpa using hv))
theorem Sg (hc:X.calm=true):bA X (.type "list") (λxs H Q=>∃l:List Nat,xs=[.str (tx l)]/\l.length<=sizeLine/\∀p,H p=none->Q (.ref p) (upd H p (.lst (l.map λc=>V.str (tx [c]))))):=by
 intro pins s σ H xs us Q I r h;obtain ⟨l,rfl,hz,q⟩:=h;obtain ⟨u,rfl,t,rfl⟩:=vals1 r;have hz':(tx l).cps.size<=sizeLine:=by simpa using hz
 refine call_list_str (hn:=hz') (I.ok.hd hc) (tx l) t λh' tk acc' c' kp e hi=>?_;have hv:Vals (l.map λc=>V.str (tx [c])) acc'.toList:=by
  refine Sd l _ ?_ λj v hv=>?_
  ·rw[b6,hi.1];simp
  ·obtain ⟨c,u,e1,e2⟩:=hi.2 j v (by rw[<-ej];exact hv);exact ⟨c,u,by simpa using e1,e2⟩
 exact ⟨.ref s.heap.objs.size,_,I.laid (t':=tk) kp (av _) (show ObjOk X.prog X.w _ h' _ (.lst _) from ⟨by rw[ax];exact hz,acc'.toList,c',hv,by rw[Array.toArray_toList];exact e⟩),rfl,q _ (I.hok.fresh (av _))⟩
theorem tH{K:PF}{H:Hp}{F:FZ}:∀l:List Nat,Reps K H F (l.map λc=>D.str [c]) (l.map λc=>V.str (tx [c]))
 |[]=>rfl
 |c::l=>⟨_,_,rfl,⟨rfl,by show 1<=sz;decide⟩,tH l⟩
theorem Sh (hc:X.calm=true) (fz:Bool):bA X (.type "list") (yl X.K fz .list):=by
 intro pins s σ H xs us Q I rs h;obtain ⟨F,G,ds,r,t,h⟩:=h;generalize ea:ds.map (view G)=va at h;simp only[cz,qT]at h;split at h
 ·obtain ⟨d,rfl,ev⟩:=map_one ea;obtain ⟨v,rfl,rv⟩:=bc t;obtain ⟨a,vs,e,q,t'⟩:=Rep.list r rv ev;subst e;exact vU pins s σ H _ us Q I rs ⟨a,vs,rfl,.inl q,cY h r t'⟩
 ·obtain ⟨d,rfl,ev⟩:=map_one ea;obtain ⟨v,rfl,rv⟩:=bc t;cases dG ev;obtain ⟨a,vs,e,q,t'⟩:=id rv;subst e;exact vU pins s σ H _ us Q I rs ⟨a,vs,rfl,.inr q.sq,cY h r t'⟩
 ·obtain ⟨d,rfl,ev⟩:=map_one ea;obtain ⟨v,rfl,rv⟩:=bc t;cases dH ev;obtain ⟨e,hl⟩:=rv;subst e;exact Sg hc pins s σ H _ us Q I rs ⟨_,rfl,bU hl,cY h r (tH _)⟩
 ·exact h.elim
theorem tM{K:PF}{H:Hp}{F:FZ}:∀{ds:List D}{vs:List V}{ls:List (List Nat)},aR ds=some ls->Reps K H F ds vs->vs=(ls.map tx).map V.str
 |[],_,bs,e,h=>by
  simp only[aR,a7]at e;subst e;exact h
 |d::ds,_,bs,e,⟨v,w,e1,h,t⟩=>by
  cases d with
  |str b=>
   simp only[aR]at e;cases q:aR ds with
   |none=>rw[q]at e;cases e
   |some s=>
    rw[q]at e;cases e;obtain ⟨hv,_⟩:=h;rw[e1,hv,tM q t];rfl
  |_=>simp[aR]at e
theorem Sq:bootBuiltins "sorted"=some (.builtin "sorted"):=by ac_rfl
theorem ym:∀{ls:List (List Nat)}{its:List Value},Vals ((ls.map tx).map V.str) its->StrsAre its (ls.map tx)
 |[],its,h=>by cases h;exact .nil
 |n::ns,its,h=>by
  cases h with
  |cons a b=>
   obtain ⟨t,rfl⟩:=a;exact .cons _ t (ym b)
theorem yo:∀{ss:List Str}{its:List Value},StrsAre its ss->Vals (ss.map V.str) its
 |_,_,.nil=>.nil
 |_,_,.cons y t h=>.cons ⟨t,rfl⟩ (yo h)
theorem Ss{ss:List Str}{ls:List (List Nat)}(h:ss.Perm (ls.map tx)):∃ls':List (List Nat),ss=ls'.map tx/\ls'.Perm ls:=by
 refine ⟨ss.map λs=>s.cps.toList,?_,?_⟩
 ·rw[dP];refine (List.map_id ss).symm.trans (List.map_congr_left λs _=>?_);show s=tx s.cps.toList;exact qu s
 ·have:=h.map λs=>s.cps.toList;rw[dP]at this;have e:(λs:Str=>s.cps.toList)∘tx=id:=by funext l;rfl
  rw[e,List.map_id]at this;exact this
theorem txe{a b:List Nat}(h:tx a=tx b):a=b:=c6 (λs:Str=>s.cps.toList) h
theorem Su(ks:List (List Nat))(k:List Nat):putK (ks.map tx) (tx k)=(putN ks k).map tx:=by
 unfold putK putN;by_cases h:k∈ks
 ·rw[if_pos h,if_pos (List.mem_map_of_mem h)]
 ·rw[if_neg h,if_neg (λz=>by obtain ⟨y,hy,e⟩:=cb.mp z;exact h (txe e ▸ hy)),List.map_append];rfl
def jo(X:Cx)(l:Addr)(ks:List (List Nat)):HO:=.ext λh=>SetL X.prog X.w h l (ks.map tx) (!bL X.w)
theorem yp:∀(ls ks:List (List Nat))(y:List Nat),y∈ls.foldl putN ks->y∈ks\/y∈ls
 |[],ks,y,h=>.inl h
 |x::ls,ks,y,h=>by
  rcases yp ls (putN ks x) y h with z |z
  ·unfold putN at z;split at z
   ·exact .inl z
   ·rcases cm.mp z with z |z
    ·exact .inl z
    ·exact .inr (by rw[bd.mp z];exact aS)
  ·exact .inr (aT _ z)
theorem yq(ls:List (List Nat)){y:List Nat}(h:y∈bI ls):y∈ls:=by
 rcases yp ls [] y h with z |z
 ·cases z
 ·exact z
theorem Sv(ls:List (List Nat)):met (λi=>tx (ls.getD i [])) ls.length=(bI ls).map tx:=by
 have go:∀n,n<=ls.length->met (λi=>tx (ls.getD i [])) n=(bI (ls.take n)).map tx:=by
  intro n;induction n with
  |zero=>intro _;rfl
  |succ n ih=>
   intro hn;have hlt:n < ls.length:=hn;rw[qH,ih (Nat.le_of_succ_le hn),Su,List.take_succ_eq_append_getElem hlt];unfold bI;rw[List.foldl_append];show _=(putN _ ls[n]).map tx;rw[dn,a8 hlt];rfl
 have:=go ls.length (av _);rw[gl]at this;exact this
theorem Sw (hc:X.calm=true):bA X (.type "set") (λxs H Q=>∃(p:Addr) (ls:List (List Nat)),xs=[.ref p]/\SqL X.K H p ((ls.map tx).map V.str)/\ls.length<=1000/\∀l,H l=none->Q (.ref l) (upd H l (jo X l (bI ls)))):=by
 intro pins s σ H xs us Q I r h;obtain ⟨p,ls,rfl,hq,hz,q⟩:=h;obtain ⟨u,rfl,ru⟩:=vals1 r;cases ru;obtain ⟨its,rv,pl,_⟩:=I.list hq;have hlen:its.length=ls.length:=by rw[<-rv.length];simp
 have hsa:=ym rv;refine Q6 (val:=λi=>tx (ls.getD i [])) (I.ok.hd hc) pl.isList (λi v e=>?_) (by rw[ap];unfold scanBound;omega) λh' tk hS hk=>?_
 ·have hi:i < its.length:=by
   rcases Nat.lt_or_ge i its.length with z |z
   ·exact z
   ·rw[ge,List.getElem?_eq_none z]at e;cases e
  have e2:its[i]?=some v:=by rw[ge]at e;exact e
  obtain ⟨x,t,rfl⟩:=hsa.all v (cw e2);have e3:=c6 (·[i]?) hsa.strs;simp only[bP,e2]at e3;rw[a8 (by omega)]at e3;refine ⟨t,?_⟩;rw[dn,a8 (by omega)];have e4:x=tx (ls[i]'(by omega)):=cp e3;rw[e4];rfl
 ·have ez:its.toArray.size=ls.length:=by rw[ap];exact hlen
  rw[ez,Sv]at hS;obtain ⟨es,ep,t,ho,rest⟩:=hS;refine ⟨.ref s.heap.objs.size,_,I.laid (t':=tk) (λb o e=>hk b o (aw e) e) (av _) (show ObjOk X.prog X.w _ _ _ (jo X s.heap.objs.size (bI ls)) from ⟨⟨es,ep,t,ho,rest⟩,⟨_,ho⟩,λh1 h2 z k=>?_⟩),rfl,q _ (I.hok.fresh (av _))⟩;obtain ⟨es1,ep1,t1,ho1,rest1⟩:=z;exact ⟨es1,ep1,t1,k _ ho1,rest1⟩
theorem Sy{pins:List (Addr×Obj)}{σ:L2.St}{H:Hp}{s:Shared}{d:Drawn}(I:L2.Inv X pins σ H s):L2.Inv X pins σ H { s with drawn:=d }:=by cases I;constructor <;> assumption
theorem SJ (hc:X.calm=true):bA X (.builtin "sorted") (λxs H Q=>∃(p:Addr) (ks:List (List Nat)),xs=[.ref p]/\H p=some (jo X p ks)/\ks.length < 64/\∀ls':List (List Nat),ls'.Perm ks->PyProof.Rows.sortedS (ls'.map tx)=true->∀l,H l=none->Q (.ref l) (upd H l (.lst ((ls'.map tx).map V.str)))):=by
 intro pins s σ H xs us Q I r h;obtain ⟨p,ks,rfl,hq,h64,q⟩:=h;obtain ⟨u,rfl,ru⟩:=vals1 r;cases ru;have hS:=(show ObjOk X.prog X.w H s.heap p (jo X p ks) from I.hok p _ hq).1;refine Ro (I.ok.hd hc) hS (by rw[ax];exact h64) λh1 h' d tk e out ss' a1 a2 a3 k1 k2 htk he=>?_;obtain ⟨ls',rfl,pm⟩:=Ss a2;have hsz:((ls'.map tx).map V.str).length<=sizeLine:=by rw[ax,ax,pm.length_eq];exact ca (Nat.le_of_lt h64) (by decide)
 have I1:Inv X pins σ H { s with heap:=h1,drawn:=d,toks:=tk }:=Sy (I.kept (t':=tk) k1);exact ⟨.ref h1.objs.size,_,I1.laid k2 (av _) (show ObjOk X.prog X.w _ _ _ (.lst ((ls'.map tx).map V.str)) from ⟨hsz,out.toList,e,yo a1,by rw[Array.toArray_toList];exact he⟩),rfl,q ls' pm a3 _ (I1.hok.fresh (av _))⟩
theorem yr{K:PF}{H:Hp}{F:FZ}:∀{ls:List (List Nat)},(∀l∈ls,l.length<=sz)->Reps K H F (ls.map D.str) ((ls.map tx).map V.str)
 |[],_=>rfl
 |l::ls,h=>⟨_,_,rfl,⟨rfl,h l aS⟩,yr λx hx=>h x (aT _ hx)⟩
theorem yt{K:PF}{H:Hp}{F:FZ}:∀{ds:List D}{vs:List V}{ls:List (List Nat)},aR ds=some ls->Reps K H F ds vs->∀l∈ls,l.length<=sz
 |[],vs,ls,e,t=>by simp only[aR,a7]at e;subst e;intro l hl;cases hl
 |d::ds,vs,ls,e,t=>by
  obtain ⟨v,r,e1,h,t⟩:=t;cases d with
  |str b=>
   simp only[aR]at e;cases q:aR ds with
   |none=>rw[q]at e;cases e
   |some s=>
    rw[q]at e;cases e;intro l hl;rcases ba.mp hl with e |hl
    ·rw[e];exact h.2
    ·exact yt q t l hl
  |_=>simp[aR]at e
theorem aad{ds:List D}{ls:List (List Nat)}(h0:dI ds=none)(h1:aR ds=some ls):ls≠[]:=by
 rintro rfl;cases ds with
 |nil=>simp[dI]at h0
 |cons x y=>cases x <;> simp only[aR]at h1 <;> first | (cases h1;done) | (cases hd:aR y <;> rw[hd]at h1 <;> cases h1)
theorem SM:bA X (.type "str") (ir X.K .str):=by
 intro pins s σ H xs us Q I r h;obtain ⟨F,G,ds,rr,t,h⟩:=h;generalize ea:ds.map (view G)=va at h;simp only[opB,qR]at h;split at h
 ·rename_i i;obtain ⟨d',rfl,ev⟩:=map_one ea;obtain ⟨v',rfl,rv⟩:=bc t;have e1:=cH ev;subst e1;have e2:v'=.int i:=rv;subst e2;obtain ⟨⟨h0,h1⟩,h2⟩:=h;have hm:(i.toNat:Int)=i:=Int.toNat_of_nonneg h0;have hl:(fj i.toNat).length<=3:=by
   have:=digits_le ⟨i.toNat,by omega⟩;unfold fj;rw[b6];exact this
  have hs:=h2.now rr (v:=.str (tx (fj i.toNat))) ⟨rfl,by have hz:sz=1000000:=rfl;omega⟩;have ht:tx (fj i.toNat)=qz i.toNat:=(qu _).symm;rw[ht]at hs;exact PN pins s σ H _ us Q I r ⟨i.toNat,by rw[hm],by omega,hs⟩
 ·exact h.elim
noncomputable def cL:D->Option String
 |.non=>some "NoneType"
 |.bl _=>some "bool"
 |.int _=>some "int"
 |.str _=>some "str"
 |.tup _=>some "tuple"
 |.lst _=>some "list"
 |_=>none
theorem SN{K:PF}{H:Hp}{F:FZ}{G:DH}{d:D}{v:V}{T:String}(r:R K H F G)(h:Rep K H F d v)(e:cL (view G d)=some T):TyOf K H v (.type T):=by
 have h':=oG r h;generalize view G d=w at e h';cases w with
 |non=>have e1:v=.non:=h';subst e1;simp only[cL,a7]at e;subst e;exact .non
 |bl x=>have e1:v=.bl x:=h';subst e1;simp only[cL,a7]at e;subst e;exact .bl x
 |int i=>have e1:v=.int i:=h';subst e1;simp only[cL,a7]at e;subst e;exact .int i
 |str l=>obtain ⟨e1,hl⟩:=h';subst e1;simp only[cL,a7]at e;subst e;exact .str _
 |tup l=>obtain ⟨a,vs,e1,q,t⟩:=h';subst e1;simp only[cL,a7]at e;subst e;exact .tup q.it
 |lst l=>obtain ⟨a,vs,e1,q,t⟩:=h';subst e1;simp only[cL,a7]at e;subst e;exact .lst q.2
 |ref a=>simp[cL]at e
 |scr a=>simp[cL]at e
 |exn a=>simp[cL]at e
 |exa _ _ _=>simp[cL]at e
 |obj _ _ _=>simp[cL]at e
def SQ (K:PF):Prop:=∀T t:String,T∈["NoneType","bool","int","str","tuple","list"]->d9 t=true->PySem.W.kitOne K (.type T) (.type t)=some (T==t||(T=="bool"&&t=="int"))
theorem SX{K:PF}:SQ K:=by intro T t hT ht;simp only[ba,dE,or_false]at hT;simp only[d9,cq,aE]at ht;rcases hT with rfl |rfl |rfl |rfl |rfl |rfl <;> rcases ht with (((rfl |rfl) |rfl) |rfl) |rfl <;> (with_unfolding_all rfl)
theorem S5 {d:D} {t:String} {b:Bool} (e:isT t d=some b):∃T,cL d=some T/\T∈["NoneType","bool","int","str","tuple","list"]/\(d9 t=true->b=(T==t||(T=="bool"&&t=="int"))):=by
 have comm:∀a b:String,(a==b)=(b==a):=λa b=>by rw[eI,aE,aE];exact ⟨Eq.symm,Eq.symm⟩
 cases d with
 |non=>
  refine ⟨"NoneType",rfl,by simp,λht=>?_⟩;simp only[isT,a7]at e;simp only[d9,cq,aE]at ht;subst e;rcases ht with (((rfl |rfl) |rfl) |rfl) |rfl <;> rfl
 |bl _=>
  refine ⟨"bool",rfl,by simp,λht=>?_⟩;simp only[isT,a7]at e;rw[<-e,comm t "bool"];rfl
 |int _=>
  refine ⟨"int",rfl,by simp,λht=>?_⟩;simp only[isT,a7]at e;rw[<-e,comm t "int"];simp
 |str _=>
  refine ⟨"str",rfl,by simp,λht=>?_⟩;simp only[isT,a7]at e;rw[<-e,comm t "str"];simp
 |tup _=>
  refine ⟨"tuple",rfl,by simp,λht=>?_⟩;simp only[isT,a7]at e;rw[<-e,comm t "tuple"];simp
 |lst _=>
  refine ⟨"list",rfl,by simp,λht=>?_⟩;simp only[isT,a7]at e;rw[<-e,comm t "list"];simp
 |ref a=>simp[isT]at e
 |scr a=>simp[isT]at e
 |exn a=>simp[isT]at e
 |exa _ _ _=>simp[isT]at e
 |obj _ _ _=>simp[isT]at e
theorem yu(s:List Nat):∀ls:List (List Nat),Str.join (tx s) (ls.map tx)=tx (dm s ls)
 |[]=>rfl
 |[x]=>rfl
 |x::y::r=>by
  have ih:=yu s (y::r);show tx x++tx s++Str.join (tx s) ((y::r).map tx)=_;rw[ih,lC,lC];rfl
theorem yw(s:List Nat):∀ls:List (List Nat),(dm s ls).length<=(ls.map (·.length)).sum+ls.length * s.length
 |[]=>by simp[dm]
 |[x]=>by simp[dm]
 |x::y::r=>by
  have ih:=yw s (y::r);simp only[dm,bp,cy,List.sum_cons,fi]at ih ⊢;have:(r.length+1+1) * s.length=(r.length+1) * s.length+s.length:=by rw[Nat.succ_mul]
  omega
noncomputable def eG(K:PF)(m:Mf):V->List V->Hp->VK->Prop:=λx vs H Q=>∃F G d ds,R K H F G/\Rep K H F d x/\Reps K H F ds vs/\opM m d ds G (PV K H F Q)
theorem S6:MtR X "str.join" (eG X.K .join):=by
 intro pins s σ H x xs v us Q I rx rs h;obtain ⟨F,G,d,ds,r,rd,t,h⟩:=h;simp only[opM]at h;generalize ea:ds.map (view G)=va at h;simp only[lU]at h;split at h
 ·obtain ⟨d',rfl,ev⟩:=map_one ea;obtain ⟨v',rfl,rv⟩:=bc t;obtain ⟨a,vs,e,q,t'⟩:=Rep.list r rv ev;subst e;obtain ⟨e1,hl⟩:=rd;subst e1;split at h
  ·rename_i ls hls;have e2:=tM hls t';subst e2;refine Oz pins s σ H _ _ v us Q I rx rs ⟨_,a,_,rfl,rfl,q,?_,?_⟩
   ·have hz:=h.1;rw[dP,ax,bD,show (λx:Str=>x.length)∘tx=λl=>l.length from funext bD];have:sz=1000000:=rfl;omega
   ·rw[yu];exact h.2.now r ⟨rfl,ca (yw _ _) h.1⟩
  ·exact h.elim
 ·exact h.elim
theorem S7{l:List Nat}{c i:Nat}(h1:i+(tx [c]).length<=(tx l).length)(h:PySem.Builtin.Str.strSub (tx l) i (i+(tx [c]).length)=tx [c]):l[i]?=some c:=by
 have e:(⟨(tx l).cps.extract i (i+1)⟩:Str)=⟨#[c]⟩:=h;have e2:(tx l).cps.extract i (i+1)=#[c]:=c6 Str.cps e;have h1':i+1<=l.length:=by have:=h1;rw[bD,bD]at this;exact this
 have e3:((tx l).cps.extract i (i+1)).toList=[c]:=c6 Array.toList e2;rw[Array.toList_extract]at e3;have e4:(tx l).cps.toList=l:=rfl;rw[e4]at e3;have e5:=c6 (·[0]?) e3;simpa [List.extract,List.getElem?_take,List.getElem?_drop] using e5
theorem m_find:MtR X "str.find" (eG X.K .find):=by
 intro pins s σ H x xs v us Q I rx rs h;obtain ⟨F,G,d,ds,r,rd,t,h⟩:=h;simp only[opM,qW]at h;split at h
 ·rename_i l c;obtain ⟨v',rfl,rv⟩:=bc t;obtain ⟨e1,_⟩:=rd;subst e1;obtain ⟨e2,_⟩:=rv;subst e2;obtain ⟨tt,rfl⟩:=rx;obtain ⟨u,rfl,ru⟩:=vals1 rs;obtain ⟨tu,rfl⟩:=ru;refine SC.find ?_;rcases find_spec (tx l) (tx [c]) with e |⟨i,e,hl,hs⟩
  ·rw[e];exact ⟨.int (-1),H,I.tok _,⟨_,rfl⟩,h.1.now r rfl⟩
  ·rw[e];exact ⟨.int i,H,I.tok _,⟨_,rfl⟩,(h.2 i (S7 hl hs)).now r rfl⟩
 ·exact h.elim
theorem yx:∀(ls:List (Str×Tok))(ps:List (List Nat)),(ls.map (·.1))=ps.map tx->Vals (ps.map λp=>V.str (tx p)) (strValues ls)
 |[],[],_=>.nil
 |[],_::_,h=>nomatch h
 |_::_,[],h=>nomatch h
 | (a,t)::ls,p::ps,h=>by
  have h1:a=tx p:=(List.cons.inj h).1;have h2:ls.map (·.1)=ps.map tx:=(List.cons.inj h).2;subst h1;exact .cons ⟨t,rfl⟩ (yx ls ps h2)
theorem yz{K:PF}{H:Hp}{F:FZ}:∀(ps:List (List Nat)),(∀p∈ps,p.length<=sz)->Reps K H F (ps.map D.str) (ps.map λp=>V.str (tx p))
 |[],_=>rfl
 |p::ps,h=>⟨_,_,rfl,⟨rfl,h p (aS ..)⟩,yz ps λq hq=>h q (aT _ hq)⟩
theorem m_split:MtR X "str.split" (eG X.K .split):=by
 intro pins s σ H x xs v us Q I rx rs h;obtain ⟨F,G,d,ds,r,rd,t,h⟩:=h;simp only[opM,qX]at h;split at h
 ·rename_i l c;obtain ⟨v',rfl,rv⟩:=bc t;obtain ⟨e1,_⟩:=rd;subst e1;obtain ⟨e2,_⟩:=rv;subst e2;obtain ⟨tt,rfl⟩:=rx;obtain ⟨u,rfl,ru⟩:=vals1 rs;obtain ⟨tu,rfl⟩:=ru;have hl:(tx l).length+2<=sizeLine:=by rw[bD];exact bU h.1.2
  refine PySem.call_split rfl hl λls tk e=>?_;have hv:=yx ls (aY c l) (e.trans (QC l c h.1.1));have hn:((aY c l).map λp=>V.str (tx p)).length<=sizeLine:=by rw[ax];have:=wO c l;have:=h.1.2;exact bU (by omega)
  exact ⟨.ref s.heap.objs.size,_,I.laid (t':=tk) (λb o e=>al _ e) (av _) (show ObjOk X.prog X.w _ _ _ (.lst _) from ⟨hn,strValues ls,0,hv,ay _ rfl⟩),rfl,
   cY (fz:=true) h.2 r (yz _ λp hp=>by have:=split_len c l p hp;have:=h.1.2;omega) _ (I.hok.fresh (av _))⟩
 ·exact h.elim
theorem S8:MtM X "list.append" (eG X.K .append):=by
 intro pins s σ H x xs v us Q I rx rs h;obtain ⟨F,G,d,ds,r,rd,t,h⟩:=h;simp only[opM,lV]at h;split at h
 ·obtain ⟨v',rfl,rv⟩:=bc t;have e1:x=.ref _:=rd;subst e1;split at h
  ·rename_i ds0 hg;obtain ⟨vs,q,t'⟩:=r.lst hg;refine Od pins s σ H _ _ v us Q I rx rs ⟨_,vs,v',rfl,rfl,q,?_,?_⟩
   ·rw[<-t'.length];exact bb h.1 szl
   ·exact h.2 _ _ _ (fZ r hg) (r.write hg (t'.append (Reps.cons rv Reps.nil))) rfl
  ·exact h.elim
 ·exact h.elim
theorem S9:MtR X "list.count" (eG X.K .count):=by
 intro pins s σ H x xs v us Q I rx rs h;obtain ⟨F,G,d,ds,r,rd,t,h⟩:=h;simp only[opM]at h;generalize ea:view G d=va at h;simp only[lY]at h;split at h
 ·obtain ⟨a,vs,e,q,t'⟩:=Rep.list r rd ea;subst e;obtain ⟨v',rfl,rv⟩:=bc t;have e2:v'=.bl true:=rv;subst e2;split at h
  ·rename_i bs hbs;have e3:=oH hbs t';subst e3;exact Py pins s σ H _ _ v us Q I rx rs ⟨a,bs,rfl,rfl,q,h.now r rfl⟩
  ·exact h.elim
 ·exact h.elim
theorem Tc:MtR X "list.index" (eG X.K .index):=by
 intro pins s σ H x xs v us Q I rx rs h;obtain ⟨F,G,d,ds,r,rd,t,h⟩:=h;simp only[opM]at h;generalize ea:view G d=va at h;simp only[lZ]at h;split at h
 ·obtain ⟨a,vs,e,q,t'⟩:=Rep.list r rd ea;subst e;obtain ⟨v',rfl,rv⟩:=bc t;have e2:v'=.bl true:=rv;subst e2;split at h
  ·rename_i bs hbs;have e3:=oH hbs t';subst e3;exact PJ pins s σ H _ _ v us Q I rx rs ⟨a,bs,rfl,rfl,q,h.1,h.2.now r rfl⟩
  ·exact h.elim
 ·exact h.elim
noncomputable def Td:V->List V->Hp->VK->Prop:=λx vs H Q=>∃(l:Addr)(xs:List V)(i:Int)(y:V),x=.ref l/\vs=[.int i,y]/\H l=some (.lst xs)/\xs.length < sizeLine/\0<=i/\i<=1000000/\Q .non (upd H l (.lst (xs.take i.toNat++y::xs.drop i.toNat)))
theorem Te{its:List Value}{i:Int}{u:Value}(h:0<=i):(its.toArray.extract 0 (if i < 0 then (i+(its.toArray.size:Int)).toNat else min i.toNat its.toArray.size)).push u++its.toArray.extract (if i < 0 then (i+(its.toArray.size:Int)).toNat else min i.toNat its.toArray.size)=(its.take i.toNat++u::its.drop i.toNat).toArray:=by
 rw[if_neg (by omega),PySem.W.kl_ins_eq,ap];by_cases hc:i.toNat<=its.length
 ·rw[Nat.min_eq_left hc]
 ·rw[gi (by omega),d4 (av _),List.drop_of_length_le (av _),d4 (by omega),List.drop_of_length_le (by omega)]
theorem Tf{i:Int}(h0:0<=i)(h1:i<=1000000):¬(!Builtin.List.listFitsIndex i)=true:=by
 have:Builtin.List.listFitsIndex i=true:=by unfold Builtin.List.listFitsIndex;rw[ah];exact ⟨eP (by omega),eP (by omega)⟩
 rw[this];decide
theorem Th:MtM X "list.insert" Td:=by
 intro pins s σ H x vs v us Q I rx rv h;obtain ⟨l,xs,i,y,rfl,rfl,hH,hz,h0,h1,q⟩:=h;cases rx;cases rv with
 |cons r1 rv=>
  obtain ⟨t,rfl⟩:=r1;obtain ⟨u,rfl,ru⟩:=L2.Vals.one rv;obtain ⟨z,its,m,r,hl,e⟩:=I.lstM hH;refine fo PySem.F.slot_list_insert ⟨_,e,rfl⟩ PySem.F.entry_list_insert (PySem.F.args_list_insert_3 _ _ _) (PySem.AutoSeq1.list_insert_list_int_val_1 l its.toArray m i t u (Tf h0 h1) (by rw[ap];omega)) ⟨e,?_⟩;refine ⟨.non,_,I.lset (its':=its.take i.toNat++u::its.drop i.toNat) hH e (Te h0) ((r.take _).append (.cons ru (r.drop _))) ?_,rfl,q⟩;rw[bp,fi,de,eS];omega
theorem Ti:MtM X "list.insert" (eG X.K .insert):=by
 intro pins s σ H x xs v us Q I rx rs h;obtain ⟨F,G,d,ds,r,rd,t,h⟩:=h;simp only[opM,lX]at h;split at h
 ·rename_i i y;obtain ⟨v1,r1,rfl,rv1,t⟩:=t;obtain ⟨v',rfl,rv⟩:=bc t;have e1:x=.ref _:=rd;subst e1;have e2:v1=.int i:=rv1;subst e2;split at h
  ·rename_i ds0 hg;obtain ⟨h1,h2,h3,h4⟩:=h;obtain ⟨vs,q,t'⟩:=r.lst hg;refine Th pins s σ H _ _ v us Q I rx rs ⟨_,vs,i,v',rfl,rfl,q,?_,h2,h3,?_⟩
   ·rw[<-t'.length];exact bb h1 szl
   ·exact h4 _ _ _ (fZ r hg) (r.write hg ((t'.take _).append (Reps.cons rv (t'.drop _)))) rfl
  ·exact h.elim
 ·exact h.elim
theorem Tj:MtM X "list.pop" (eG X.K .pop):=by
 intro pins s σ H x xs v us Q I rx rs h;obtain ⟨F,G,d,ds,r,rd,t,h⟩:=h;simp only[opM,qU]at h;split at h
 ·rename_i i;obtain ⟨v',rfl,rv⟩:=bc t;have e1:x=.ref _:=rd;subst e1;have e2:v'=.int i:=rv;subst e2;split at h
  ·rename_i ds0 hg;obtain ⟨h1,h2,h3⟩:=h;obtain ⟨vs,q,t'⟩:=r.lst hg;split at h3
   ·rename_i y hy;obtain ⟨u,hu,ru⟩:=t'.get hy;have hlt:i.toNat < vs.length:=(a9.mp hu).1;refine Oi pins s σ H _ _ v us Q I rx rs ⟨_,vs,i,i.toNat,u,rfl,rfl,q,by omega,by omega,?_,hu,?_⟩
    ·unfold seqIndex?;have e3:¬i < 0:=by omega
     simp[e3];omega
    ·rw[List.eraseIdx_eq_take_drop_succ];rw[List.eraseIdx_eq_take_drop_succ]at h3;have rw2:=r.write hg ((t'.take i.toNat).append (t'.drop (i.toNat+1)));exact h3 _ _ _ (fZ r hg) rw2 (Rep.ext (fZ r hg) ru)
   ·exact h3.elim
  ·exact h.elim
 ·exact h.elim
theorem Tn{K:PF}{H:Hp}{F:FZ}{G:DH}{d:D}{v:V}{ds:List D}(r:R K H F G)(h:Rep K H F d v)(e:view G d=.lst ds):∃a vs,v=.ref a/\H a=some (.lst vs)/\Reps K H F ds vs:=by
 cases d with
 |lst xs=>
  have e':D.lst xs=.lst ds:=e;cases e';obtain ⟨a,vs,e1,q,t⟩:=h;exact ⟨a,vs,e1,q.2,t⟩
 |ref p=>
  have hv:v=.ref p:=h;unfold view at e;cases g:G p with
  |none=>simp only[g]at e;cases e
  |some o=>
   cases o with
   |lst xs=>
    simp only[g]at e;cases e;obtain ⟨vs,q,t⟩:=r.lst g;exact ⟨p,vs,hv,q,t⟩
 |_=>cases (show _=D.lst ds from e)
theorem Tp:MtM X "list.extend" (eG X.K .extend):=by
 intro pins s σ H x xs v us Q I rx rs h;obtain ⟨F,G,d,ds,r,rd,t,h⟩:=h;simp only[opM]at h;generalize ea:ds.map (view G)=va at h;simp only[lW]at h;split at h
 ·obtain ⟨d',rfl,ev⟩:=map_one ea;obtain ⟨v',rfl,rv⟩:=bc t;obtain ⟨b,vs2,e2,q2,t2⟩:=Tn r rv ev;subst e2;have e1:x=.ref _:=rd;subst e1;split at h
  ·rename_i ds0 hg;obtain ⟨vs,q,t'⟩:=r.lst hg;refine Og pins s σ H _ _ v us Q I rx rs ⟨_,b,vs,vs2,rfl,rfl,q,q2,?_,?_⟩
   ·rw[<-t'.length,<-t2.length];exact Nat.le_of_lt (bb h.1 szl)
   ·exact h.2 _ _ _ (fZ r hg) (r.write hg (t'.append t2)) rfl
  ·exact h.elim
 ·exact h.elim
theorem Tq:p6 X (λo i x H Q=>∃F G a b c,R X.K H F G/\Rep X.K H F a o/\Rep X.K H F b i/\Rep X.K H F c x/\dq a b c G (λG'=>∀H' F',Ext H F H' F'->R X.K H' F' G'->Q H')):=by
 intro pins s σ H o i v ov iv u Q I ro ri rv h;obtain ⟨F,G,a,b,c,r,ra,rb,rc,h⟩:=h;unfold dq at h;split at h
 ·have e1:o=.ref _:=ra;have e2:i=.int _:=rb;subst e1;subst e2;split at h
  ·rename_i ds hg;obtain ⟨vs,q,t⟩:=r.lst hg;split at h
   ·rename_i j hj;refine set_list pins s σ H _ _ v ov iv u Q I ro ri rv ⟨_,vs,_,j,rfl,rfl,q,by rw[<-t.length];exact hj,?_⟩;exact h _ _ (fZ r hg) (r.write hg (t.set rc j))
   ·exact h.elim
  ·exact h.elim
 ·exact h.elim
theorem Tt(op:Operator):PIp X op (λx y H Q=>∃F G a b,R X.K H F G/\Rep X.K H F a x/\Rep X.K H F b y/\cW op a b (λd=>PV X.K H F Q d G)):=by
 intro pins s σ H x y v u Q I rx ry h;obtain ⟨F,G,a,b,r,ra,rb,h⟩:=h;unfold cW at h;split at h
 ·have e1:x=.int _:=ra;have e2:y=.int _:=rb;subst e1;subst e2;exact Mh pins s σ H _ _ v u Q I rx ry ⟨_,_,rfl,rfl,h.now r rfl⟩
 ·obtain ⟨e1,l1⟩:=ra;obtain ⟨e2,l2⟩:=rb;subst e1;subst e2;refine Mw pins s σ H _ _ v u Q I rx ry ⟨_,_,rfl,rfl,by rw[bD,bD];exact bU h.1,?_⟩;rw[lC];exact h.2.now r ⟨rfl,by rw[bp];exact h.1⟩
 ·have e1:x=.int _:=ra;have e2:y=.int _:=rb;subst e1;subst e2;exact Mi pins s σ H _ _ v u Q I rx ry ⟨_,_,rfl,rfl,h.now r rfl⟩
 ·exact h.elim
end
inductive SK where
 |lst (a:Addr) |tup (a:Addr) |str (x:Str) (t:Tok)
def SK.val:SK->Value
 |.lst a=>.ref a
 |.tup a=>.ref a
 |.str x t=>.str x t
def SK.cls:SK->String
 |.lst _=>"list_iterator"
 |.tup _=>"tuple_iterator"
 |.str x _=>strIterType x
def SK.obj(k:SK):Obj:={ cls:=.type k.cls,data:=.fields #[k.val,.int 0 0] }
def SK.pos(k:SK)(it:Addr)(i:Nat)(h:Heap):Prop:=∃o,h.get? it=some o/\o.cls=.type k.cls/\o.data=.fields #[k.val,.int i 0]
def SK.Sat(H:Hp)(vs:List V):SK->Prop
 |.lst a=>H a=some (.lst vs)
 |.tup a=>H a=some (.tup vs)
 |.str x _=>vs=x.cps.toList.map λc=>V.str ⟨#[c]⟩
def SK.No(e:Addr):SK->Prop
 |.lst a=>a≠e
 |.tup a=>a≠e
 |.str _ _=>True
theorem SK.Sat.no{H:Hp}{vs:List V}{k:SK}{e:Addr}(h:k.Sat H vs)(he:H e=none):k.No e:=by
 cases k with
 |lst a=>exact aQ (show H a=some _ from h) he
 |tup a=>exact aQ (show H a=some _ from h) he
 |str x t=>trivial
def SK.On(its:Array Value)(h:Heap):SK->Prop
 |.lst a=>h.IsList a its
 |.tup a=>h.IsTuple a its
 |.str _ _=>True
theorem SK.On.keeps{its:Array Value}{h h':Heap}{k:SK}(x:k.On its h)(kk:∀b o,k.val=.ref b->h.get? b=some o->h'.get? b=some o):k.On its h':=by
 cases k with
 |lst a=>obtain ⟨o,e,r⟩:=x;exact ⟨o,kk a o rfl e,r⟩
 |tup a=>obtain ⟨o,e,r⟩:=x;exact ⟨o,kk a o rfl e,r⟩
 |str _ _=>trivial
section
variable {prog:Program} {w:World} {A:Around} {E:Value->Shared->Prop} {s:Shared}
theorem SK.iter{k:SK}{its:Array Value}{Q:Value->Shared->Prop}(h:k.On its s.heap)(q:Q (.ref s.heap.objs.size) { s with heap:=s.heap.push k.obj }):wpAny (model prog w) A (pyIter k.val) Q E s:=by
 cases k with
 |lst a=>exact wpAny_pyIter_list h q
 |tup a=>exact wpAny_pyIter_tuple h q
 |str x t=>exact wpAny_pyIter_strU q
theorem SK.pos0{k:SK}{h:Heap}:k.pos h.objs.size 0 (h.push k.obj):=⟨_,ay _ rfl,rfl,rfl⟩
theorem SK.pos.keep{k:SK}{it:Addr}{i:Nat}{h h':Heap}(x:k.pos it i h)(kk:∀o,h.get? it=some o->h'.get? it=some o):k.pos it i h':=let ⟨o,e,r⟩:=x;⟨o,kk o e,r⟩
theorem Tu{it t:Addr}{i:Nat}{items}{x:Value}{Q:Value->Shared->Prop}(hit:s.heap.IsTupleIter it t i)
  (ht:s.heap.IsTuple t items) (hx:items[i]?=some x)
  (hQ:∀h',h'.IsTupleIter it t (i+1)->Heap.SameBut it s.heap h'->Q x { s with heap:=h' }):
  wpAny (model prog w) A (Builtin.SmallTypes.nextOf (.ref it)) Q E s:=by
 obtain ⟨o,ho,hc,hd⟩:=id hit;obtain ⟨ol,hol,_,nl,hdl⟩:=ht;unfold Builtin.SmallTypes.nextOf;refine ae (ei (name:=Str.ofString "__next__") hit.typeIs fq
  (dQ fq hit.typeIs F.entry_tuple_iterator_next ?_ (F.args_tuple_iterator_next_1 _)))
 show wpAny _ _ (field (.ref it) 0 >>= _) _ _ s;refine ae (cS ho hd (x:=.ref t) rfl ?_);show wpAny _ _ (if (Value.ref t==Value.none)=true then _ else _) _ _ s;rw[if_neg (show ¬((Value.ref t==Value.none)=true) from bo)];show wpAny _ _ (field (.ref it) 1 >>= _) _ _ s;refine ae (cS ho hd (x:=.int i 0) rfl ?_);show wpAny _ _ (seqItems? (.ref t) >>= _) _ _ s;refine ae (dy hol hdl ?_);simp only[Int.toNat_natCast,hx];refine ae (e9 ho hd (by simp) (am ⟨x,rfl,am (hQ _ ?_ (bq ..))⟩));exact ⟨_,eL _ ho (Obj.isFreed_of_fields (Obj.data_mapFields hd _)),(Obj.cls_mapFields ..).trans hc,by
  rw[Obj.data_mapFields hd];simp[rawInt]⟩
theorem Tv{it t:Addr}{i:Nat}{items}{Q:Value->Shared->Prop}(hh:A.handled=none)
  (hit:s.heap.IsTupleIter it t i) (ht:s.heap.IsTuple t items) (hx:items[i]?=none)
  (hE:∀h' e,Heap.ExtBut it s.heap h'->(∃o,h'.get? e=some o/\o.cls=.type "StopIteration")->E (.ref e) { s with heap:=h' }):
  wpAny (model prog w) A (Builtin.SmallTypes.nextOf (.ref it)) Q E s:=by
 obtain ⟨o,ho,hc,hd⟩:=id hit;obtain ⟨ol,hol,_,nl,hdl⟩:=ht;unfold Builtin.SmallTypes.nextOf;refine ae (ei (name:=Str.ofString "__next__") hit.typeIs fq
  (dQ fq hit.typeIs F.entry_tuple_iterator_next ?_ (F.args_tuple_iterator_next_1 _)))
 show wpAny _ _ (field (.ref it) 0 >>= _) _ _ s;refine ae (cS ho hd (x:=.ref t) rfl ?_);show wpAny _ _ (if (Value.ref t==Value.none)=true then _ else _) _ _ s;rw[if_neg (show ¬((Value.ref t==Value.none)=true) from bo)];show wpAny _ _ (field (.ref it) 1 >>= _) _ _ s;refine ae (cS ho hd (x:=.int i 0) rfl ?_);show wpAny _ _ (seqItems? (.ref t) >>= _) _ _ s;refine ae (dy hol hdl ?_);simp only[Int.toNat_natCast,hx];refine ae (gc (ae (e9 ho hd (by simp) ?_)));show wpAny _ _ (newExc (.type "StopIteration") [] >>= _) _ _ _;refine ae ?_;simp only[newExc,newTuple];refine ae (eh ?_ (by size_fits));refine ae (m:=firstArgMember _ _) (wpAny_of_eq (a:=Value.none) (by first |rfl | (simp only[firstArgMember];rfl)) ?_);refine eh ?_ (by size_fits);simp only[raiseNew];refine ae (wpAny_handled ?_);first |rw[show A.in1.handled=none from hh] |rw[hh]
 refine ae (am (wpAny_throw ?_));exact hE _ _ (((bq ..).extBut.push _).push _) ⟨_,ay _ rfl,rfl⟩
theorem Tw(hh:A.handled=none)(it l:Addr)(hne:l≠it)(items:Array Value):
  Draws prog w A it [it,l] items.size (λi v=>items[i]?=some v) (λi h=>h.IsTupleIter it l i/\h.IsTuple l items) where
 live:=λ_ _ st=>let ⟨o,ho,_⟩:=st.1;⟨o,ho⟩
 frame:=λ_ _ _ st hk=>⟨let ⟨o,e,r⟩:=st.1;⟨o,hk it (by simp) o e,r⟩,let ⟨o,e,r⟩:=st.2;⟨o,hk l (by simp) o e,r⟩⟩
 item:=λi s Q E hi st hQ=>by
  refine Tu st.1 st.2 (x:=items[i]) (by simp[hi]) λh' hit' hs'=>?_;exact hQ _ h' s.toks (by simp[hi]) ⟨hit',let ⟨o,e,r⟩:=st.2;⟨o,hs'.extBut l o hne e,r⟩⟩ hs'
 done:=λs Q E st hE=>Tv hh st.1 st.2 (by simp) hE
end
structure Drawn(P:Program)(w:World)(A:Around)(k:SK)(it:Addr)(i:Nat)(vs:List V)(h:Heap)(fp:List Addr)(Pd:Nat->Value->Prop)(S:Nat->Heap->Prop):Prop where
 D:Draws P w A it fp vs.length Pd S
 st:S i h
 val:∀j v,Pd j v->∃x,vs[j]?=some x/\RelV x v
 pos:∀j h,S j h->k.pos it j h
 fp:∀b∈fp,b=it\/k.val=.ref b
theorem drawn{X:Cx}{pins:List (Addr×Obj)}{σ:L2.St}{H:Hp}{s:Shared}{A:Around}(hh:A.handled=none)(I:Inv X pins σ H s){k:SK}{it:Addr}{i:Nat}{vs:List V}(sat:k.Sat H vs)(hit:H it=none)(p:k.pos it i s.heap):
  ∃fp Pd S,Drawn X.prog X.w A k it i vs s.heap fp Pd S:=by
 cases k with
 |lst a=>
  have sat:H a=some (.lst vs):=sat;obtain ⟨its,r,pl,_⟩:=I.list (SqL.of sat);refine ⟨[it,a],λj v=>its.toArray[j]?=some v,λj h=>h.IsListIter it a j/\h.IsList a its.toArray,?_,⟨p,pl.isList⟩,?_,λj h st=>st.1,?_⟩
  ·have D:=Draws.list (prog:=X.prog) (w:=X.w) hh it a (aQ sat hit) its.toArray;rw[ap,<-r.length]at D;exact D
  ·intro j v e;have e:its.toArray[j]?=some v:=e;have hj:j < vs.length:=by
    rw[r.length];have:=(Array.getElem?_eq_some_iff.mp e).1;simpa using this
   obtain ⟨u,e2,r2⟩:=r.get (show vs[j]?=some vs[j] by simp[hj]);refine ⟨vs[j],by simp[hj],?_⟩;have:its[j]?=some v:=by simpa using e
   rw[this]at e2;cases e2;exact r2
  ·intro b hb;have hb:b=it\/b=a:=by simpa using hb
   rcases hb with e |e
   ·exact .inl e
   ·exact .inr (by rw[e];rfl)
 |tup a=>
  have sat:H a=some (.tup vs):=sat;obtain ⟨its,r,pl,_⟩:=I.tuple (SqT.of sat);refine ⟨[it,a],λj v=>its.toArray[j]?=some v,λj h=>h.IsTupleIter it a j/\h.IsTuple a its.toArray,?_,⟨p,pl⟩,?_,λj h st=>st.1,?_⟩
  ·have D:=Tw (prog:=X.prog) (w:=X.w) hh it a (aQ sat hit) its.toArray;rw[ap,<-r.length]at D;exact D
  ·intro j v e;have e:its.toArray[j]?=some v:=e;have hj:j < vs.length:=by
    rw[r.length];have:=(Array.getElem?_eq_some_iff.mp e).1;simpa using this
   obtain ⟨u,e2,r2⟩:=r.get (show vs[j]?=some vs[j] by simp[hj]);refine ⟨vs[j],by simp[hj],?_⟩;have:its[j]?=some v:=by simpa using e
   rw[this]at e2;cases e2;exact r2
  ·intro b hb;have hb:b=it\/b=a:=by simpa using hb
   rcases hb with e |e
   ·exact .inl e
   ·exact .inr (by rw[e];rfl)
 |str x t=>
  have sat:vs=x.cps.toList.map λc=>V.str ⟨#[c]⟩:=sat;refine ⟨[it],λi v=>∃c u,x.cps[i]?=some c/\v=.str ⟨#[c]⟩ u,λi h=>h.IsStrIter it (strIterType x) x t i,?_,p,?_,λj h st=>st,?_⟩
  ·have D:=O5 (prog:=X.prog) (w:=X.w) hh it x t;have e:x.cps.size=vs.length:=by rw[sat,ax,b6]
   rw[e]at D;exact D
  ·rintro j v ⟨c,u,e1,e2⟩;refine ⟨V.str ⟨#[c]⟩,?_,u,e2⟩;rw[sat,bP,ej,e1];rfl
  ·intro b hb;exact .inl (by simpa using hb)
def Jk(k:SK):It:=⟨λi H=>∃vs,k.Sat H vs/\i < vs.length,λi H x H'=>H'=H/\∀vs,k.Sat H vs->vs[i]?=some x,λi H=>∃vs,k.Sat H vs/\vs.length=i⟩
def Je(k:SK):It:=⟨λi H=>∃vs,k.Sat H vs/\i < vs.length,λi H x H'=>∃T y,H T=none/\x=.ref T/\H'=upd H T (.tup [.int i,y])/\∀vs,k.Sat H vs->vs[i]?=some y,λi H=>∃vs,k.Sat H vs/\vs.length=i⟩
theorem oJ{H:Hp}{k:SK}{vs ws:List V}(h:k.Sat H vs)(h':k.Sat H ws):vs=ws:=by
 cases k with
 |lst a=>have e:=(show H a=some _ from h).symm.trans h';cases e;rfl
 |tup a=>have e:=(show H a=some _ from h).symm.trans h';cases e;rfl
 |str x t=>exact (show vs=_ from h).trans (show ws=_ from h').symm
theorem Tz{P:Program}{w:World}{K:PF}{elts:List Expr}{x1:Nat}{pos:Pos}(k:SK)(e it:Addr)(hne:e≠it):
  Turn P w K (.Tuple elts x1 pos) (Je k) [e,it] e (λi h=>(∃old,IsEnum h e it i old)/\k.pos it i h) where
 mem:=by simp
 obj:=λi h st b hb=>by
  obtain ⟨⟨old,he⟩,o,ho,c,d⟩:=st;have hb:b=e\/b=it:=by simpa using hb
  rcases hb with rfl |rfl
  ·exact ⟨_,he,λv z=>by have z':Data.fields _=Data.cell v:=z;cases z'⟩
  ·exact ⟨o,ho,λv z=>by rw[d]at z;cases z⟩
 keep:=λi h h' st kk=>⟨let ⟨old,he⟩:=st.1;⟨old,kk e (by simp) _ he⟩,st.2.keep λo ho=>kk it (by simp) o ho⟩
 item:=by
  intro X hP hw hK hc i pins s σ H E I hf st hg;subst hP hw hK;obtain ⟨vs,sat,hi⟩:=hg;obtain ⟨⟨old,he⟩,hit⟩:=st;have hfe:=hf e (by simp);have hfi:=hf it (by simp);obtain ⟨fp,Pd,S,Dr⟩:=drawn (A:=X.A.in1) (I.ok.hd hc) I sat hfi.1 hit;have helt:e < s.heap.objs.size:=aw he;have hef:e∉fp:=λhb=>by
   rcases Dr.fp e hb with z |z
   ·exact hne z
   ·have:=sat.no hfe.1;cases k with
    |lst a=>cases z;exact this rfl
    |tup a=>cases z;exact this rfl
    |str _ _=>cases z
  refine wpAny_pyNext_enum_itemD Dr.D he Dr.st hi hne hef λu h1 tk hu heo hit1 ht1 hz1 hk1=>?_;obtain ⟨x,hx,ru⟩:=Dr.val _ _ hu;refine ⟨_,rfl,?_⟩;refine wpAny_letOwnedTupleGo_enum heo λh2 he2 hs2=>?_;have hs2':Heap.SameBut e h1 h2:=hs2;have hn:H s.heap.objs.size=none:=I.hok.fresh (av _);have k2:∀b o,b∉[e,it]->s.heap.get? b=some o->h2.get? b=some o:=λb o hb q=>by
   have hb':b≠e/\b≠it:=by simpa using hb
   exact hs2'.extBut b o hb'.1 (hk1 b o hb'.1 hb'.2 q)
  have I2:Inv X pins σ H { s with heap:=h2,toks:=tk+1 }:=I.turnedL hf k2;have ht2:h2.get? s.heap.objs.size=some { cls:=.type "tuple",data:=.seq #[.int i tk,u] }:=hs2'.extBut _ _ (dL helt) ht1;have ob:ObjOk X.prog X.w (upd H s.heap.objs.size (.tup [.int i,x])) h2 s.heap.objs.size (.tup [.int i,x]):=
   ⟨by rw[er];simp,[.int i tk,u],.cons ⟨_,rfl⟩ (.cons ru .nil),⟨_,ht2,rfl,_,rfl⟩⟩
  have I3:=I2.track (I.fpOk (av _) hn) ob;have nee:s.heap.objs.size≠e:=dL helt;have nei:s.heap.objs.size≠it:=by obtain ⟨o,ho,_⟩:=hit;exact dL (aw ho)
  refine ⟨.ref s.heap.objs.size,_,I3,rfl,⟨s.heap.objs.size,x,hn,rfl,rfl,λys hy=>by rw[oJ hy sat];exact hx⟩,⟨⟨u,?_⟩,?_⟩,λb hb=>?_⟩
  ·show IsEnum h2 e it (((i+1:Nat)):Int) u;rw[show (((i+1:Nat):Int))=(i:Int)+1 by omega];exact he2
  ·exact (Dr.pos _ _ hit1).keep λo ho=>hs2'.extBut _ _ (Ne.symm hne) ho
  ·have hb':b=e\/b=it:=by simpa using hb
   rw[az (by rcases hb' with rfl |rfl;exact Ne.symm nee;exact Ne.symm nei)];exact (hf b hb).1
 done:=by
  intro X hP hw hK hc i pins s σ H E I hf st hg;subst hP hw hK;obtain ⟨vs,sat,hi⟩:=hg;subst hi;obtain ⟨⟨old,he⟩,hit⟩:=st;have hfi:=hf it (by simp);obtain ⟨fp,Pd,S,Dr⟩:=drawn (A:=X.A.in1) (I.ok.hd hc) I sat hfi.1 hit;refine wpAny_pyNext_enum_endD Dr.D he Dr.st λh' eb=>⟨rfl,I.turnedL (t':=s.toks) hf λb o hb q=>?_⟩;have hb':b≠e/\b≠it:=by simpa using hb
  exact eb b o hb'.2 q
 self:=λA i s Q E st h=>by
  obtain ⟨⟨old,he⟩,_⟩:=st;exact wpAny_pyIter_enum he h
theorem TF{P:Program}{w:World}{A:Around}{it:Addr}{fp:List Addr}{n:Nat}{Pd:Nat->Value->Prop}{S:Nat->Heap->Prop}(D:Draws P w A it fp n Pd S):
  Draws P w A it fp (n+1) (λi v=>∃j,i=j+1/\Pd j v) (λi h=>∃j,i=j+1/\S j h) where
 live:=λi h st=>by obtain ⟨j,_,st⟩:=st;exact D.live j h st
 frame:=λi h h' st k=>by obtain ⟨j,e,st⟩:=st;exact ⟨j,e,D.frame j h h' st k⟩
 item:=λi s Q E hi st hQ=>by
  obtain ⟨j,e,st⟩:=st;subst e;exact D.item j s Q E (Nat.lt_of_succ_lt_succ hi) st λx h' tk p st' sb=>hQ x h' tk ⟨j,rfl,p⟩ ⟨j+1,rfl,st'⟩ sb
 done:=λs Q E st hE=>by
  obtain ⟨j,e,st⟩:=st;have e':n=j:=Nat.succ.inj e;subst e';exact D.done s Q E st hE
def Je1(k:SK):It:=⟨λi H=>∃vs,k.Sat H vs/\i < vs.length,λi H x H'=>∃T y,H T=none/\x=.ref T/\H'=upd H T (.tup [.int ((i+1:Nat):Int),y])/\∀vs,k.Sat H vs->vs[i]?=some y,λi H=>∃vs,k.Sat H vs/\vs.length=i⟩
theorem TJ{P:Program}{w:World}{K:PF}{elts:List Expr}{x1:Nat}{pos:Pos}(k:SK)(e it:Addr)(hne:e≠it):
  Turn P w K (.Tuple elts x1 pos) (Je1 k) [e,it] e (λi h=>(∃old,IsEnum h e it ((i+1:Nat):Int) old)/\k.pos it i h) where
 mem:=by simp
 obj:=λi h st b hb=>by
  obtain ⟨⟨old,he⟩,o,ho,c,d⟩:=st;have hb:b=e\/b=it:=by simpa using hb
  rcases hb with rfl |rfl
  ·exact ⟨_,he,λv z=>by have z':Data.fields _=Data.cell v:=z;cases z'⟩
  ·exact ⟨o,ho,λv z=>by rw[d]at z;cases z⟩
 keep:=λi h h' st kk=>⟨let ⟨old,he⟩:=st.1;⟨old,kk e (by simp) _ he⟩,st.2.keep λo ho=>kk it (by simp) o ho⟩
 item:=by
  intro X hP hw hK hc i pins s σ H E I hf st hg;subst hP hw hK;obtain ⟨vs,sat,hi⟩:=hg;obtain ⟨⟨old,he⟩,hit⟩:=st;have hfe:=hf e (by simp);have hfi:=hf it (by simp);obtain ⟨fp,Pd,S,Dr⟩:=drawn (A:=X.A.in1) (I.ok.hd hc) I sat hfi.1 hit;have helt:e < s.heap.objs.size:=aw he;have hef:e∉fp:=λhb=>by
   rcases Dr.fp e hb with z |z
   ·exact hne z
   ·have:=sat.no hfe.1;cases k with
    |lst a=>cases z;exact this rfl
    |tup a=>cases z;exact this rfl
    |str _ _=>cases z
  refine wpAny_pyNext_enum_itemD (i:=i+1) (TF Dr.D) he ⟨i,rfl,Dr.st⟩ (Nat.succ_lt_succ hi) hne hef λu h1 tk hu heo hit1 ht1 hz1 hk1=>?_;obtain ⟨i1,z1,hu⟩:=hu;cases z1;obtain ⟨i2,z2,hit1⟩:=hit1;cases z2;obtain ⟨x,hx,ru⟩:=Dr.val _ _ hu;refine ⟨_,rfl,?_⟩;refine wpAny_letOwnedTupleGo_enum heo λh2 he2 hs2=>?_;have hs2':Heap.SameBut e h1 h2:=hs2;have hn:H s.heap.objs.size=none:=I.hok.fresh (av _);have k2:∀b o,b∉[e,it]->s.heap.get? b=some o->h2.get? b=some o:=λb o hb q=>by
   have hb':b≠e/\b≠it:=by simpa using hb
   exact hs2'.extBut b o hb'.1 (hk1 b o hb'.1 hb'.2 q)
  have I2:Inv X pins σ H { s with heap:=h2,toks:=tk+1 }:=I.turnedL hf k2;have ht2:h2.get? s.heap.objs.size=some { cls:=.type "tuple",data:=.seq #[.int ((i+1:Nat):Int) tk,u] }:=hs2'.extBut _ _ (dL helt) ht1;have ob:ObjOk X.prog X.w (upd H s.heap.objs.size (.tup [.int ((i+1:Nat):Int),x])) h2 s.heap.objs.size (.tup [.int ((i+1:Nat):Int),x]):=
   ⟨by rw[er];simp,[.int ((i+1:Nat):Int) tk,u],.cons ⟨_,rfl⟩ (.cons ru .nil),⟨_,ht2,rfl,_,rfl⟩⟩
  have I3:=I2.track (I.fpOk (av _) hn) ob;have nee:s.heap.objs.size≠e:=dL helt;have nei:s.heap.objs.size≠it:=by obtain ⟨o,ho,_⟩:=hit;exact dL (aw ho)
  refine ⟨.ref s.heap.objs.size,_,I3,rfl,⟨s.heap.objs.size,x,hn,rfl,rfl,λys hy=>by rw[oJ hy sat];exact hx⟩,⟨⟨u,?_⟩,?_⟩,λb hb=>?_⟩
  ·show IsEnum h2 e it (((i+1+1:Nat)):Int) u;rw[show (((i+1+1:Nat):Int))=((i+1:Nat):Int)+1 by omega];exact he2
  ·exact (Dr.pos _ _ hit1).keep λo ho=>hs2'.extBut _ _ (Ne.symm hne) ho
  ·have hb':b=e\/b=it:=by simpa using hb
   rw[az (by rcases hb' with rfl |rfl;exact Ne.symm nee;exact Ne.symm nei)];exact (hf b hb).1
 done:=by
  intro X hP hw hK hc i pins s σ H E I hf st hg;subst hP hw hK;obtain ⟨vs,sat,hi⟩:=hg;subst hi;obtain ⟨⟨old,he⟩,hit⟩:=st;have hfi:=hf it (by simp);obtain ⟨fp,Pd,S,Dr⟩:=drawn (A:=X.A.in1) (I.ok.hd hc) I sat hfi.1 hit;refine wpAny_pyNext_enum_endD Dr.D he Dr.st λh' eb=>⟨rfl,I.turnedL (t':=s.toks) hf λb o hb q=>?_⟩;have hb':b≠e/\b≠it:=by simpa using hb
  exact eb b o hb'.2 q
 self:=λA i s Q E st h=>by
  obtain ⟨⟨old,he⟩,_⟩:=st;exact wpAny_pyIter_enum he h
theorem TQ{P:Program}{w:World}{K:PF}{tg:Expr}(k:SK)(it:Addr):Turn P w K tg (Jk k) [it] it (λi h=>k.pos it i h) where
 mem:=by simp
 obj:=λi h st b hb=>by
  have e:b=it:=by simpa using hb
  subst e;obtain ⟨o,e,c,d⟩:=st;exact ⟨o,e,λv z=>by rw[d]at z;cases z⟩
 keep:=λi h h' st kk=>st.keep λo e=>kk it (by simp) o e
 item:=by
  intro X hP hw hK hc i pins s σ H E I hf st hg;obtain ⟨vs,sat,hi⟩:=hg;have hfi:=hf it (by simp);cases k with
  |lst a=>
   have sat':H a=some (.lst vs):=sat;refine b9 ((vh (tg:=tg) a it).item X hP hw hK hc i pins s σ H E I hf st ⟨vs,vs[i],SqL.of sat',by simp[hi]⟩) ?_ (λ_ _ e=>e);rintro r s1 ⟨u,hr,h1⟩;refine ⟨u,hr,b9 h1 ?_ (λ_ _ e=>e)⟩;rintro _ s2 ⟨x,H',I',rx,⟨e1,e2⟩,st',fr⟩;exact ⟨x,H',I',rx,⟨e1,λws hw'=>e2 ws (SqL.of (show H a=some (.lst ws) from hw'))⟩,st',fr⟩
  |tup a=>
   have sat':H a=some (.tup vs):=sat;refine b9 ((vm (tg:=tg) a it).item X hP hw hK hc i pins s σ H E I hf st ⟨vs,vs[i],SqT.of sat',by simp[hi]⟩) ?_ (λ_ _ e=>e);rintro r s1 ⟨u,hr,h1⟩;refine ⟨u,hr,b9 h1 ?_ (λ_ _ e=>e)⟩;rintro _ s2 ⟨x,H',I',rx,⟨e1,e2⟩,st',fr⟩;exact ⟨x,H',I',rx,⟨e1,λws hw'=>e2 ws (SqT.of (show H a=some (.tup ws) from hw'))⟩,st',fr⟩
  |str y t=>
   have sat':vs=y.cps.toList.map λc=>V.str ⟨#[c]⟩:=sat;have hlen:vs.length=y.cps.size:=by rw[sat',ax,b6]
   refine b9 ((qp (tg:=tg) it y t).item X hP hw hK hc i pins s σ H E I hf st (show i < y.cps.size by omega)) ?_ (λ_ _ e=>e);rintro r s1 ⟨u,hr,h1⟩;refine ⟨u,hr,b9 h1 ?_ (λ_ _ e=>e)⟩;rintro _ s2 ⟨x,H',I',rx,⟨e1,c,e2,e3⟩,st',fr⟩;refine ⟨x,H',I',rx,⟨e1,λws hw'=>?_⟩,st',fr⟩;have hw':ws=y.cps.toList.map λc=>V.str ⟨#[c]⟩:=hw';rw[hw',e3,bP,ej,e2];rfl
 done:=by
  intro X hP hw hK hc i pins s σ H E I hf st hg;obtain ⟨vs,sat,hi⟩:=hg;cases k with
  |lst a=>exact (vh (tg:=tg) a it).done X hP hw hK hc i pins s σ H E I hf st ⟨vs,SqL.of (show H a=some (.lst vs) from sat),by omega⟩
  |tup a=>exact (vm (tg:=tg) a it).done X hP hw hK hc i pins s σ H E I hf st ⟨vs,SqT.of (show H a=some (.tup vs) from sat),by omega⟩
  |str y t=>
   have sat':vs=y.cps.toList.map λc=>V.str ⟨#[c]⟩:=sat;have hlen:vs.length=y.cps.size:=by rw[sat',ax,b6]
   exact (qp (tg:=tg) it y t).done X hP hw hK hc i pins s σ H E I hf st (show i=y.cps.size by omega)
 self:=λA i s Q E st h=>by
  cases k with
  |lst a=>exact wpAny_pyIter_listiter st h
  |tup a=>exact wpAny_pyIter_tupleiter st h
  |str y t=>exact (qp (K:=K) (tg:=tg) it y t).self A i s Q E st h
open Builtin Builtin.Str
section
variable {prog:Program} {w:World} {A:Around} {E:Value->Shared->Prop} {s:Shared}
theorem TV{z TI TO i1 i2:Addr}{k n1 n2:Nat}{fp1 fp2:List Addr}{P1 P2:Nat->Value->Prop}{S1 S2:Nat->Heap->Prop}{a b:Value}{Q:Value->Shared->Prop}(D:ZApart z TI TO i1 i2)
  (D1:Draws prog w A i1 fp1 n1 P1 S1) (D2:Draws prog w A i2 fp2 n2 P2 S2) (f1:∀c∈fp1,c≠z/\c≠TO/\c≠i2) (f2:∀c∈fp2,c≠z/\c≠TO/\c≠i1)
  (hz:IsZip s.heap z TI TO .none) (hTI:IsPair s.heap TI (.ref i1) (.ref i2)) (hTO:IsPair s.heap TO a b)
  (h1:S1 k s.heap) (h2:S2 k s.heap) (hx:k < n1) (hy:k < n2)
  (hQ:∀h' tk c d,P1 k c->P2 k d->IsZip h' z TI TO (rawInt s.heap.objs.size)->IsPair h' TO c d->S1 (k+1) h'->S2 (k+1) h'->
   IsPair h' s.heap.objs.size c d->h'.objs.size=s.heap.objs.size+1->
   (∀c o,c≠z->c≠TO->c≠i1->c≠i2->s.heap.get? c=some o->h'.get? c=some o)->Q (.ref s.heap.objs.size) { s with heap:=h',toks:=tk }):
  wpAny (model prog w) A (Builtin.«zip.__next__» ⟨[.ref z],[]⟩) (λfin s'=>∃v,fin=.done (.ret v)/\Q v s') E s:=by
 have e1:∀{h h':Heap}{c:Addr}{j:Nat},S1 j h->Heap.ExtBut c h h'->(∀b∈fp1,b≠c)->S1 j h':=λq e n=>D1.frame _ _ _ q λb hb o y=>e b o (n b hb) y;have e2:∀{h h':Heap}{c:Addr}{j:Nat},S2 j h->Heap.ExtBut c h h'->(∀b∈fp2,b≠c)->S2 j h':=λq e n=>D2.frame _ _ _ q λb hb o y=>e b o (n b hb) y;have z1:∀b∈fp1,b≠z:=λb hb=>(f1 b hb).1;have t1:∀b∈fp1,b≠TO:=λb hb=>(f1 b hb).2.1;have j1:∀b∈fp1,b≠i2:=λb hb=>(f1 b hb).2.2;have z2:∀b∈fp2,b≠z:=λb hb=>(f2 b hb).1;have t2:∀b∈fp2,b≠TO:=λb hb=>(f2 b hb).2.1;have j2:∀b∈fp2,b≠i1:=λb hb=>(f2 b hb).2.2;show wpAny _ _ (field (.ref z) 2 >>= _) _ _ _;refine ae (cS hz rfl (x:=.bool false) rfl ?_);show wpAny _ _ (field (.ref z) 3 >>= _) _ _ _;refine ae (cS hz rfl (x:=.ref TI) rfl ?_);refine ae (dy hTI rfl ?_);show wpAny _ _ (Builtin.SmallTypes.ownedTupleIsFree (.ref z) >>= _) _ _ _;refine ae ?_;unfold Builtin.SmallTypes.ownedTupleIsFree;refine ae (cS hz rfl (x:=.none) rfl (am ?_));simp only[if_true];refine ae (gc ?_);refine ae (cS hz rfl (x:=.ref TO) rfl ?_);refine ae (eJ hz (by simp) λh₁ hz₁ hs₁=>?_);replace hz₁:IsZip h₁ z TI TO .ellipsis:=hz₁;replace hs₁:Heap.SameBut z s.heap h₁:=hs₁;refine ae ?_;simp only[List.zipIdx_cons,List.zipIdx_nil,List.forIn_cons,List.forIn_nil];refine ae (ae (wpAny_onRaise ?_));show wpAny _ _ (Builtin.SmallTypes.nextOf (.ref i1) >>= _) _ _ _;refine ae (D1.item k _ _ _ hx (e1 h1 hs₁.extBut z1) λc h₂ tk₂ hc h1₂ hs₂=>am ?_);replace hs₂:Heap.SameBut i1 h₁ h₂:=hs₂;have hTO₂:IsPair h₂ TO a b:=hs₂.extBut _ _ D.TOi1 (hs₁.extBut _ _ D.TOz hTO);refine ae (dy hTO₂ rfl ?_);refine ae (wpAny_updateSeq_pair hTO₂ λh₃ hTO₃ hs₃=>?_);replace hTO₃:IsPair h₃ TO c b:=hTO₃;replace hs₃:Heap.SameBut TO h₂ h₃:=hs₃;refine ae (wpAny_letGo (am ?_));refine ae (ae (wpAny_onRaise ?_));show wpAny _ _ (Builtin.SmallTypes.nextOf (.ref i2) >>= _) _ _ _;refine ae (D2.item k _ _ _ hy (e2 (e2 (e2 h2 hs₁.extBut z2) hs₂.extBut j2) hs₃.extBut t2) λd h₄ tk₄ hd h2₄ hs₄=>am ?_);replace hs₄:Heap.SameBut i2 h₃ h₄:=hs₄;have hTO₄:IsPair h₄ TO c b:=hs₄.extBut _ _ D.TOi2 hTO₃;refine ae (dy hTO₄ rfl ?_);refine ae (wpAny_updateSeq_pair hTO₄ λh₅ hTO₅ hs₅=>?_);replace hTO₅:IsPair h₅ TO c d:=hTO₅;replace hs₅:Heap.SameBut TO h₄ h₅:=hs₅;refine ae (wpAny_letGo (am (am ?_)));refine ae (dy hTO₅ rfl ?_);refine ae (wpAny_newTuple ?_);have hsz:h₅.objs.size=s.heap.objs.size:=by rw[hs₅.1,hs₄.1,hs₃.1,hs₂.1,hs₁.1]
 have hz₅:IsZip h₅ z TI TO .ellipsis:=hs₅.extBut _ _ D.TOz.symm (hs₄.extBut _ _ D.i2z.symm (hs₃.extBut _ _ D.TOz.symm (hs₂.extBut _ _ D.i1z.symm hz₁)));have hk₅:∀c o,c≠z->c≠TO->c≠i1->c≠i2->s.heap.get? c=some o->h₅.get? c=some o:=λc o c1 c2 c3 c4 e=>
  hs₅.extBut _ _ c2 (hs₄.extBut _ _ c4 (hs₃.extBut _ _ c2 (hs₂.extBut _ _ c3 (hs₁.extBut _ _ c1 e))))
 have h1₅:S1 (k+1) h₅:=e1 (e1 (e1 h1₂ hs₃.extBut t1) hs₄.extBut j1) hs₅.extBut t1;have h2₅:S2 (k+1) h₅:=e2 h2₄ hs₅.extBut t2;have hzlt:z < h₅.objs.size:=aw hz₅;show wpAny _ _ (Builtin.SmallTypes.ownedTupleHandOut (.ref z) (.ref h₅.objs.size) >>= _) _ _ _;refine ae ?_;unfold Builtin.SmallTypes.ownedTupleHandOut;have hz₆:IsZip (h₅.push { cls:=.type "tuple",data:=.seq #[c,d] }) z TI TO .ellipsis:=al _ hz₅;refine ae (eJ hz₆ (by simp) λh₇ hz₇ hs₇=>?_);replace hz₇:IsZip h₇ z TI TO (rawInt h₅.objs.size):=hz₇;refine eJ hz₇ (by simp) λh₈ hz₈ hs₈=>?_;replace hz₈:IsZip h₈ z TI TO (rawInt h₅.objs.size):=hz₈;have up:∀c o,c≠z->h₅.get? c=some o->h₈.get? c=some o:=λc o c1 e=>hs₈.extBut _ _ c1 (hs₇.extBut _ _ c1 (al _ e));have hT₈:IsPair h₈ h₅.objs.size c d:=hs₈.extBut _ _ (dL hzlt) (hs₇.extBut _ _ (dL hzlt) (ay _ rfl));have hz8:h₈.objs.size=h₅.objs.size+1:=by rw[hs₈.1,hs₇.1,br]
 rw[hsz]at hz₈ hT₈ hz8;refine am ⟨_,rfl,?_⟩;show Q (.ref h₅.objs.size) _;rw[hsz];exact hQ h₈ tk₄ c d hc hd hz₈ (up _ _ D.TOz hTO₅) (D1.frame _ _ _ h1₅ λb hb o y=>up b o (z1 b hb) y) (D2.frame _ _ _ h2₅ λb hb o y=>up b o (z2 b hb) y) hT₈ hz8 λc o c1 c2 c3 c4 e=>up c o c1 (hk₅ c o c1 c2 c3 c4 e)
theorem TX{z TI TO i1 i2:Addr}{n1:Nat}{fp1:List Addr}{P1:Nat->Value->Prop}{S1:Nat->Heap->Prop}{a b:Value}{Q:Fin->Shared->Prop}(D:ZApart z TI TO i1 i2)
  (D1:Draws prog w A i1 fp1 n1 P1 S1) (f1:∀c∈fp1,c≠z)
  (hz:IsZip s.heap z TI TO .none) (hTI:IsPair s.heap TI (.ref i1) (.ref i2)) (hTO:IsPair s.heap TO a b) (h1:S1 n1 s.heap)
  (hE:∀h' e,(∀c o,c≠z->c≠TO->c≠i1->c≠i2->s.heap.get? c=some o->h'.get? c=some o)->(∃o,h'.get? e=some o/\o.cls=.type "StopIteration")->E (.ref e) { s with heap:=h' }):
  wpAny (model prog w) A (Builtin.«zip.__next__» ⟨[.ref z],[]⟩) Q E s:=by
 show wpAny _ _ (field (.ref z) 2 >>= _) _ _ _;refine ae (cS hz rfl (x:=.bool false) rfl ?_);show wpAny _ _ (field (.ref z) 3 >>= _) _ _ _;refine ae (cS hz rfl (x:=.ref TI) rfl ?_);refine ae (dy hTI rfl ?_);show wpAny _ _ (Builtin.SmallTypes.ownedTupleIsFree (.ref z) >>= _) _ _ _;refine ae ?_;unfold Builtin.SmallTypes.ownedTupleIsFree;refine ae (cS hz rfl (x:=.none) rfl (am ?_));simp only[if_true];refine ae (gc ?_);refine ae (cS hz rfl (x:=.ref TO) rfl ?_);refine ae (eJ hz (by simp) λh₁ hz₁ hs₁=>?_);replace hz₁:IsZip h₁ z TI TO .ellipsis:=hz₁;replace hs₁:Heap.SameBut z s.heap h₁:=hs₁;refine ae ?_;simp only[List.zipIdx_cons,List.zipIdx_nil,List.forIn_cons,List.forIn_nil];refine ae (ae (wpAny_onRaise ?_));show wpAny _ _ (Builtin.SmallTypes.nextOf (.ref i1) >>= _) _ _ _;refine ae (D1.done _ _ _ (D1.frame _ _ _ h1 λb hb o y=>hs₁.extBut b o (f1 b hb) y) λh₂ e hs₂ he=>?_);obtain ⟨oe,hoe,hce⟩:=he;have hz₂:IsZip h₂ z TI TO .ellipsis:=hs₂ _ _ D.i1z.symm hz₁;have hez:e≠z:=λx=>by subst x;rw[hz₂]at hoe;cases hoe;simp at hce
 refine eJ hz₂ (by simp) λh₃ _ hs₃=>hE h₃ e (λc o c1 _ c3 _ x=>hs₃.extBut _ _ c1 (hs₂ _ _ c3 (hs₁.extBut _ _ c1 x))) ⟨oe,hs₃.extBut _ _ hez hoe,hce⟩
theorem TY{z TI TO i1 i2:Addr}{k n1 n2:Nat}{fp1 fp2:List Addr}{P1 P2:Nat->Value->Prop}{S1 S2:Nat->Heap->Prop}{a b:Value}{Q:Fin->Shared->Prop}(D:ZApart z TI TO i1 i2)
  (D1:Draws prog w A i1 fp1 n1 P1 S1) (D2:Draws prog w A i2 fp2 n2 P2 S2) (f1:∀c∈fp1,c≠z/\c≠TO/\c≠i2) (f2:∀c∈fp2,c≠z/\c≠TO/\c≠i1)
  (hz:IsZip s.heap z TI TO .none) (hTI:IsPair s.heap TI (.ref i1) (.ref i2)) (hTO:IsPair s.heap TO a b) (h1:S1 k s.heap) (h2:S2 k s.heap) (hx:k < n1) (hy:k=n2)
  (hE:∀h' tk e,(∀c o,c≠z->c≠TO->c≠i1->c≠i2->s.heap.get? c=some o->h'.get? c=some o)->(∃o,h'.get? e=some o/\o.cls=.type "StopIteration")->E (.ref e) { s with heap:=h',toks:=tk }):
  wpAny (model prog w) A (Builtin.«zip.__next__» ⟨[.ref z],[]⟩) Q E s:=by
 have e1:∀{h h':Heap}{c:Addr}{j:Nat},S1 j h->Heap.ExtBut c h h'->(∀b∈fp1,b≠c)->S1 j h':=λq e n=>D1.frame _ _ _ q λb hb o y=>e b o (n b hb) y;have e2:∀{h h':Heap}{c:Addr}{j:Nat},S2 j h->Heap.ExtBut c h h'->(∀b∈fp2,b≠c)->S2 j h':=λq e n=>D2.frame _ _ _ q λb hb o y=>e b o (n b hb) y;have z1:∀b∈fp1,b≠z:=λb hb=>(f1 b hb).1;have z2:∀b∈fp2,b≠z:=λb hb=>(f2 b hb).1;have t2:∀b∈fp2,b≠TO:=λb hb=>(f2 b hb).2.1;have j2:∀b∈fp2,b≠i1:=λb hb=>(f2 b hb).2.2;show wpAny _ _ (field (.ref z) 2 >>= _) _ _ _;refine ae (cS hz rfl (x:=.bool false) rfl ?_);show wpAny _ _ (field (.ref z) 3 >>= _) _ _ _;refine ae (cS hz rfl (x:=.ref TI) rfl ?_);refine ae (dy hTI rfl ?_);show wpAny _ _ (Builtin.SmallTypes.ownedTupleIsFree (.ref z) >>= _) _ _ _;refine ae ?_;unfold Builtin.SmallTypes.ownedTupleIsFree;refine ae (cS hz rfl (x:=.none) rfl (am ?_));simp only[if_true];refine ae (gc ?_);refine ae (cS hz rfl (x:=.ref TO) rfl ?_);refine ae (eJ hz (by simp) λh₁ hz₁ hs₁=>?_);replace hz₁:IsZip h₁ z TI TO .ellipsis:=hz₁;replace hs₁:Heap.SameBut z s.heap h₁:=hs₁;refine ae ?_;simp only[List.zipIdx_cons,List.zipIdx_nil,List.forIn_cons,List.forIn_nil];refine ae (ae (wpAny_onRaise ?_));show wpAny _ _ (Builtin.SmallTypes.nextOf (.ref i1) >>= _) _ _ _;refine ae (D1.item k _ _ _ hx (e1 h1 hs₁.extBut z1) λc h₂ tk₂ hc h1₂ hs₂=>am ?_);replace hs₂:Heap.SameBut i1 h₁ h₂:=hs₂;have hTO₂:IsPair h₂ TO a b:=hs₂.extBut _ _ D.TOi1 (hs₁.extBut _ _ D.TOz hTO);refine ae (dy hTO₂ rfl ?_);refine ae (wpAny_updateSeq_pair hTO₂ λh₃ hTO₃ hs₃=>?_);replace hs₃:Heap.SameBut TO h₂ h₃:=hs₃;refine ae (wpAny_letGo (am ?_));refine ae (ae (wpAny_onRaise ?_));show wpAny _ _ (Builtin.SmallTypes.nextOf (.ref i2) >>= _) _ _ _;subst hy;refine ae (D2.done _ _ _ (e2 (e2 (e2 h2 hs₁.extBut z2) hs₂.extBut j2) hs₃.extBut t2) λh₄ e hs₄ he=>?_);obtain ⟨oe,hoe,hce⟩:=he;have hz₄:IsZip h₄ z TI TO .ellipsis:=hs₄ _ _ D.i2z.symm (hs₃.extBut _ _ D.TOz.symm (hs₂.extBut _ _ D.i1z.symm hz₁));have hez:e≠z:=λx=>by subst x;rw[hz₄]at hoe;cases hoe;simp at hce
 refine eJ hz₄ (by simp) λh₅ _ hs₅=>hE h₅ tk₂ e (λc o c1 c2 c3 c4 x=>hs₅.extBut _ _ c1 (hs₄ _ _ c4 (hs₃.extBut _ _ c2 (hs₂.extBut _ _ c3 (hs₁.extBut _ _ c1 x))))) ⟨oe,hs₅.extBut _ _ hez hoe,hce⟩
end
def Jz(k l:SK):It:=⟨λi H=>∃vs ws,k.Sat H vs/\l.Sat H ws/\i < vs.length/\i < ws.length,
 λi H x H'=>∃T y z,H T=none/\x=.ref T/\H'=upd H T (.tup [y,z])/\(∀vs,k.Sat H vs->vs[i]?=some y)/\(∀ws,l.Sat H ws->ws[i]?=some z),
 λi H=>∃vs ws,k.Sat H vs/\l.Sat H ws/\(vs.length=i/\i<=ws.length\/i < vs.length/\ws.length=i)⟩
theorem T3{P:Program}{w:World}{K:PF}{elts:List Expr}{x1:Nat}{pos:Pos}(k l:SK)(z TI TO i1 i2:Addr)(D:ZApart z TI TO i1 i2):
  Turn P w K (.Tuple elts x1 pos) (Jz k l) [z,TI,TO,i1,i2] z
   (λi h=>IsZip h z TI TO .none/\IsPair h TI (.ref i1) (.ref i2)/\(∃a b,IsPair h TO a b)/\k.pos i1 i h/\l.pos i2 i h) where
 mem:=by simp
 obj:=λi h st b hb=>by
  obtain ⟨hz,hTI,⟨a,c,hTO⟩,⟨o1,e1,_,d1⟩,⟨o2,e2,_,d2⟩⟩:=st;have hb':b=z\/b=TI\/b=TO\/b=i1\/b=i2:=by simpa using hb
  rcases hb' with rfl |rfl |rfl |rfl |rfl
  ·exact ⟨_,hz,λv q=>by have q':Data.fields _=Data.cell v:=q;cases q'⟩
  ·exact ⟨_,hTI,λv q=>by have q':Data.seq _ _=Data.cell v:=q;cases q'⟩
  ·exact ⟨_,hTO,λv q=>by have q':Data.seq _ _=Data.cell v:=q;cases q'⟩
  ·exact ⟨o1,e1,λv q=>by rw[d1]at q;cases q⟩
  ·exact ⟨o2,e2,λv q=>by rw[d2]at q;cases q⟩
 keep:=λi h h' st kk=>by
  obtain ⟨hz,hTI,⟨a,c,hTO⟩,p1,p2⟩:=st;exact ⟨kk z (by simp) _ hz,kk TI (by simp) _ hTI,⟨a,c,kk TO (by simp) _ hTO⟩,p1.keep λo e=>kk i1 (by simp) o e,p2.keep λo e=>kk i2 (by simp) o e⟩
 item:=by
  intro X hP hw hK hc i pins s σ H E I hf st hg;subst hP hw hK;obtain ⟨vs,ws,sat1,sat2,l1,l2⟩:=hg;obtain ⟨hz,hTI,⟨a,b,hTO⟩,h1,h2⟩:=st;have hT:s.TypeIs (.ref z) "zip":=⟨_,hz,rfl⟩;have fz:=hf z (by simp);have fTO:=hf TO (by simp);have fi1:=hf i1 (by simp);have fi2:=hf i2 (by simp);obtain ⟨fp1,P1,S1,Dr1⟩:=drawn (A:=X.A.in1) (I.ok.hd hc) I sat1 fi1.1 h1;obtain ⟨fp2,P2,S2,Dr2⟩:=drawn (A:=X.A.in1) (I.ok.hd hc) I sat2 fi2.1 h2;have no1:∀e,H e=none->e≠i1->∀c∈fp1,c≠e:=λe he hei c hc z=>by
   rcases Dr1.fp c hc with q |q
   ·exact hei (z.symm.trans q)
   ·have:=sat1.no he;cases k with
    |lst a=>injection q with q;exact this (q.trans z)
    |tup a=>injection q with q;exact this (q.trans z)
    |str _ _=>cases q
  have no2:∀e,H e=none->e≠i2->∀c∈fp2,c≠e:=λe he hei c hc z=>by
   rcases Dr2.fp c hc with q |q
   ·exact hei (z.symm.trans q)
   ·have:=sat2.no he;cases l with
    |lst a=>injection q with q;exact this (q.trans z)
    |tup a=>injection q with q;exact this (q.trans z)
    |str _ _=>cases q
  have f1:∀c∈fp1,c≠z/\c≠TO/\c≠i2:=λc hc=>⟨no1 z fz.1 D.i1z.symm c hc,no1 TO fTO.1 D.TOi1 c hc,no1 i2 fi2.1 D.i12.symm c hc⟩;have f2:∀c∈fp2,c≠z/\c≠TO/\c≠i1:=λc hc=>⟨no2 z fz.1 D.i2z.symm c hc,no2 TO fTO.1 D.TOi2 c hc,no2 i1 fi1.1 D.i12 c hc⟩;have ltz:z < s.heap.objs.size:=aw hz;have ltTI:TI < s.heap.objs.size:=aw hTI;have ltTO:TO < s.heap.objs.size:=aw hTO;have lti1:i1 < s.heap.objs.size:=by obtain ⟨_,e,_⟩:=h1;exact aw e
  have lti2:i2 < s.heap.objs.size:=by obtain ⟨_,e,_⟩:=h2;exact aw e
  unfold pyNext;refine ae (wpAny_attempt (ei (name:=Str.ofString "__next__") hT F.slot_zip_next
   (dQ F.slot_zip_next hT F.entry_zip_next (TV D Dr1.D Dr2.D f1 f2 hz hTI hTO Dr1.st Dr2.st l1 l2 λh' tk c d pc pd a1 a2 a3 a4 a5 a6 hk=>am ?_) (F.args_zip_next_1 _))))
  obtain ⟨y,hy,ry⟩:=Dr1.val _ _ pc;obtain ⟨y',hy',ry'⟩:=Dr2.val _ _ pd;refine ⟨_,rfl,?_⟩;refine wpAny_letOwnedTupleGo_zip a1 λh2' hz2 hs2=>?_;have hs2':Heap.SameBut z h' h2':=hs2;have hn:H s.heap.objs.size=none:=I.hok.fresh (av _);have k2:∀b o,b∉[z,TI,TO,i1,i2]->s.heap.get? b=some o->h2'.get? b=some o:=λb o hb q=>by
   have hb':b≠z/\b≠TI/\b≠TO/\b≠i1/\b≠i2:=by simpa using hb
   exact hs2'.extBut b o hb'.1 (hk b o hb'.1 hb'.2.2.1 hb'.2.2.2.1 hb'.2.2.2.2 q)
  have I2:Inv X pins σ H { s with heap:=h2',toks:=tk }:=I.turnedL hf k2;have ht2:h2'.get? s.heap.objs.size=some { cls:=.type "tuple",data:=.seq #[c,d] }:=hs2'.extBut _ _ (dL ltz) a5;have ob:ObjOk X.prog X.w (upd H s.heap.objs.size (.tup [y,y'])) h2' s.heap.objs.size (.tup [y,y']):=
   ⟨by rw[er];simp,[c,d],.cons ry (.cons ry' .nil),⟨_,ht2,rfl,_,rfl⟩⟩
  have I3:=I2.track (I.fpOk (av _) hn) ob;refine ⟨.ref s.heap.objs.size,_,I3,rfl,⟨s.heap.objs.size,y,y',hn,rfl,rfl,λus hu=>by rw[oJ hu sat1];exact hy,λus hu=>by rw[oJ hu sat2];exact hy'⟩,
   ⟨hz2,hs2'.extBut _ _ D.TIz (hk _ _ D.TIz D.TITO D.TIi1 D.TIi2 hTI),⟨_,_,hs2'.extBut _ _ D.TOz a2⟩,(Dr1.pos _ _ a3).keep λo e=>hs2'.extBut _ _ D.i1z e,(Dr2.pos _ _ a4).keep λo e=>hs2'.extBut _ _ D.i2z e⟩,λb hb=>?_⟩
  have hb':b=z\/b=TI\/b=TO\/b=i1\/b=i2:=by simpa using hb
  rw[az (by rcases hb' with rfl |rfl |rfl |rfl |rfl <;> exact bv ‹_›)];exact (hf b hb).1
 done:=by
  intro X hP hw hK hc i pins s σ H E I hf st hg;subst hP hw hK;obtain ⟨vs,ws,sat1,sat2,hend⟩:=hg;obtain ⟨hz,hTI,⟨a,b,hTO⟩,h1,h2⟩:=st;have hT:s.TypeIs (.ref z) "zip":=⟨_,hz,rfl⟩;have fz:=hf z (by simp);have fTO:=hf TO (by simp);have fi1:=hf i1 (by simp);have fi2:=hf i2 (by simp);obtain ⟨fp1,P1,S1,Dr1⟩:=drawn (A:=X.A.in1) (I.ok.hd hc) I sat1 fi1.1 h1;obtain ⟨fp2,P2,S2,Dr2⟩:=drawn (A:=X.A.in1) (I.ok.hd hc) I sat2 fi2.1 h2;have no1:∀e,H e=none->e≠i1->∀c∈fp1,c≠e:=λe he hei c hc z=>by
   rcases Dr1.fp c hc with q |q
   ·exact hei (z.symm.trans q)
   ·have:=sat1.no he;cases k with
    |lst a=>injection q with q;exact this (q.trans z)
    |tup a=>injection q with q;exact this (q.trans z)
    |str _ _=>cases q
  have no2:∀e,H e=none->e≠i2->∀c∈fp2,c≠e:=λe he hei c hc z=>by
   rcases Dr2.fp c hc with q |q
   ·exact hei (z.symm.trans q)
   ·have:=sat2.no he;cases l with
    |lst a=>injection q with q;exact this (q.trans z)
    |tup a=>injection q with q;exact this (q.trans z)
    |str _ _=>cases q
  have f1:∀c∈fp1,c≠z/\c≠TO/\c≠i2:=λc hc=>⟨no1 z fz.1 D.i1z.symm c hc,no1 TO fTO.1 D.TOi1 c hc,no1 i2 fi2.1 D.i12.symm c hc⟩;have f2:∀c∈fp2,c≠z/\c≠TO/\c≠i1:=λc hc=>⟨no2 z fz.1 D.i2z.symm c hc,no2 TO fTO.1 D.TOi2 c hc,no2 i1 fi1.1 D.i12 c hc⟩;have fin:∀(h':Heap)(tk:Nat)(e:Addr),(∀c o,c≠z->c≠TO->c≠i1->c≠i2->s.heap.get? c=some o->h'.get? c=some o)->Inv X pins σ H { s with heap:=h',toks:=tk }:=λh' tk e hk=>I.turnedL (t':=tk) hf λb o hb q=>by
   have hb':b≠z/\b≠TI/\b≠TO/\b≠i1/\b≠i2:=by simpa using hb
   exact hk b o hb'.1 hb'.2.2.1 hb'.2.2.2.1 hb'.2.2.2.2 q
  unfold pyNext;refine ae (wpAny_attempt (ei (name:=Str.ofString "__next__") hT F.slot_zip_next
   (dQ F.slot_zip_next hT F.entry_zip_next ?_ (F.args_zip_next_1 _))))
  rcases hend with ⟨e1,_⟩ |⟨e1,e2⟩
  ·subst e1;refine TX D Dr1.D (λc hc=>(f1 c hc).1) hz hTI hTO Dr1.st λh' e hk he=>?_;obtain ⟨o,ho,hc'⟩:=he;refine ae (wpAny_isInstance (T:="StopIteration") (b:=true) ⟨o,ho,hc'⟩ isSubtype_stop ?_);exact am ⟨rfl,fin h' s.toks e hk⟩
  ·refine TY D Dr1.D Dr2.D f1 f2 hz hTI hTO Dr1.st Dr2.st e1 e2.symm λh' tk e hk he=>?_;obtain ⟨o,ho,hc'⟩:=he;refine ae (wpAny_isInstance (T:="StopIteration") (b:=true) ⟨o,ho,hc'⟩ isSubtype_stop ?_);exact am ⟨rfl,fin h' tk e hk⟩
 self:=λA i s Q E st h=>wpAny_pyIter_zip st.1 h
open Sem (wp)
open AutoSeq1 (wpAny_loadPart')
set_option maxHeartbeats 1000000 in
theorem T4(l:Addr)(items:Array Value)(n:Nat)(dct:Option Addr)(sl:Array (Option Value)):
  Meets (Builtin.«enumerate.__new__» ⟨[.type "enumerate",.ref l],[]⟩) (λ_ R s=>s.heap.get? l=some { cls:=.type "tuple",dict:=dct,data:=.seq items n,slots:=sl }/\
   R (.ok (.ret (.ref (s.heap.push { cls:=.type "tuple_iterator",data:=.fields #[.ref l,.int 0 0] }).objs.size)))
    { s with heap:=(s.heap.push { cls:=.type "tuple_iterator",data:=.fields #[.ref l,.int 0 0] }).push { cls:=.type "enumerate",data:=.fields #[.none,.bool false,.ref s.heap.objs.size,rawInt 0,.none,.none] } }):=
 .of_wp λprog w A R s h=>by
  obtain ⟨hp,g,d,tk,os⟩:=s;obtain ⟨hl,h⟩:=h;have hsub:=sub_enumerate;have hL:Heap.IsTuple (Shared.heap ⟨hp,g,d,tk,os⟩) l items:=⟨_,hl,rfl,n,rfl⟩;wp_walk using wpAny_loadPart' hl
  refine wpAny_stack_any λst=>am ?_;split
  ·rename_i c _ _ _ _ _;cases (c==Value.type "enumerate")
   ·wp_walk using wpAny_loadPart' hl,wpAny_pyIter_tuple hL
    exact ⟨_,rfl,h⟩
   ·wp_walk using wpAny_loadPart' hl,wpAny_pyIter_tuple hL
    exact ⟨_,rfl,h⟩
  ·wp_walk using wpAny_loadPart' hl,wpAny_pyIter_tuple hL
   exact ⟨_,rfl,h⟩
abbrev oK(h:Heap)(k:SK):Heap:=h.push k.obj
abbrev oM(h:Heap)(k l:SK):Heap:=(oK h k).push l.obj
abbrev oN (h:Heap) (k l:SK):Heap:=(oM h k l).push { cls:=.type "tuple",data:=.seq #[.ref h.objs.size,.ref (oK h k).objs.size] }
abbrev oO (h:Heap) (k l:SK):Heap:=(oN h k l).push { cls:=.type "tuple",data:=.seq #[.none,.none] }
abbrev gf (h:Heap) (k l:SK):Heap:=(oO h k l).push { cls:=.type "zip",data:=.fields #[.none,.bool false,.bool false,.ref (oM h k l).objs.size,.ref (oN h k l).objs.size] }
theorem T5(k l:SK)(xs ys:Array Value):
  Meets (Builtin.«zip.__new__» ⟨[.type "zip",k.val,l.val],[]⟩) (λ_ R s=>k.On xs s.heap/\l.On ys s.heap/\R (.ok (.ret (.ref (oO s.heap k l).objs.size))) { s with heap:=gf s.heap k l }):=
 .of_wp λprog w A R s h=>by
  obtain ⟨hp,g,d,tk,os⟩:=s;obtain ⟨h1,h2,h⟩:=h;have hsub:=sub_zip;have h1':k.On xs (Shared.heap ⟨hp,g,d,tk,os⟩):=h1;have h2':l.On ys (Shared.heap ⟨hp.push k.obj,g,d,tk,os⟩):=SK.On.keeps h2 λb o _ e=>al _ e;wp_walk using SK.iter h1',SK.iter h2'
  exact ⟨_,rfl,h⟩
section
variable {prog:Program} {w:World} {A:Around} {E:Value->Shared->Prop} {s:Shared}
theorem T6{k l:SK}{xs ys:Array Value}{Q:Value->Shared->Prop}(h1:k.On xs s.heap)(h2:l.On ys s.heap)
  (h:∀h',IsZip h' (s.heap.objs.size+4) (s.heap.objs.size+2) (s.heap.objs.size+3) .none->IsPair h' (s.heap.objs.size+2) (.ref s.heap.objs.size) (.ref (s.heap.objs.size+1))->
   IsPair h' (s.heap.objs.size+3) .none .none->k.pos s.heap.objs.size 0 h'->l.pos (s.heap.objs.size+1) 0 h'->h'.objs.size=s.heap.objs.size+5->
   (∀c o,s.heap.get? c=some o->h'.get? c=some o)->Q (.ref (s.heap.objs.size+4)) { s with heap:=h' }):
  wpAny (model prog w) A (call (.type "zip") [k.val,l.val]) Q E s:=by
 refine callType_new F.called_zip (by decide) (F.typeCall_zip_2 _ _) (F.newCall_zip_2 _ _) (λobj=>F.args_object_init_3 obj _ _) F.entry_zip_new
  (T5 k l xs ys) ⟨h1,h2,?_⟩
 have z1:(oK s.heap k).objs.size=s.heap.objs.size+1:=br ..;have z2:(oM s.heap k l).objs.size=s.heap.objs.size+2:=by rw[br,z1]
 have z3:(oN s.heap k l).objs.size=s.heap.objs.size+3:=by rw[br,z2]
 have z4:(oO s.heap k l).objs.size=s.heap.objs.size+4:=by rw[br,z3]
 have z5:(gf s.heap k l).objs.size=s.heap.objs.size+5:=by rw[br,z4]
 have g5:(gf s.heap k l).get? (oO s.heap k l).objs.size=some _:=ay _ rfl;have g4:(gf s.heap k l).get? (oN s.heap k l).objs.size=some _:=al _ (ay _ rfl);have g3:(gf s.heap k l).get? (oM s.heap k l).objs.size=some _:=al _ (al _ (ay _ rfl));have g2:(gf s.heap k l).get? (oK s.heap k).objs.size=some _:=al _ (al _ (al _ (ay _ rfl)));have g1:(gf s.heap k l).get? s.heap.objs.size=some _:=al _ (al _ (al _ (al _ (ay _ rfl))));show _/\_;rw[z2,z3,z4]at g5;rw[z1,z2]at g3;rw[z3]at g4;rw[z1]at g2;rw[z4];exact ⟨⟨_,g5,rfl⟩,h _ g5 g3 g4 ⟨_,g1,rfl,rfl⟩ ⟨_,g2,rfl,rfl⟩ z5 λc o x=>
  al _ (al _ (al _ (al _ (al _ x))))⟩
theorem T7{l:Addr}{items:Array Value}{Q:Value->Shared->Prop}(hL:s.heap.IsTuple l items)
  (h:∀h',IsEnum h' (s.heap.objs.size+1) s.heap.objs.size 0 .none->h'.IsTupleIter s.heap.objs.size l 0->h'.objs.size=s.heap.objs.size+2->
   (∀b o,s.heap.get? b=some o->h'.get? b=some o)->Q (.ref (s.heap.objs.size+1)) { s with heap:=h' }):
  wpAny (model prog w) A (call (.type "enumerate") [.ref l]) Q E s:=by
 obtain ⟨⟨c,dct,dt,sl⟩,hl,hc,n,hd⟩:=hL;replace hc:c=.type "tuple":=hc;replace hd:dt=.seq items n:=hd;subst hc hd;refine callType_new F.called_enumerate (by decide) (F.typeCall_enumerate_1 _) (F.newCall_enumerate_1 _) (λobj=>F.args_object_init_2 obj _) F.entry_enumerate_new
  (T4 l items n dct sl) ⟨hl,?_⟩
 have hz:(s.heap.push { cls:=.type "tuple_iterator",data:=.fields #[.ref l,.int 0 0] }).objs.size=s.heap.objs.size+1:=br ..;show _/\_;rw[hz];have he:IsEnum ((s.heap.push { cls:=.type "tuple_iterator",data:=.fields #[.ref l,.int 0 0] }).push
   { cls:=.type "enumerate",data:=.fields #[.none,.bool false,.ref s.heap.objs.size,rawInt 0,.none,.none] }) (s.heap.objs.size+1) s.heap.objs.size 0 .none:=by
  have:=ay (s.heap.push { cls:=.type "tuple_iterator",data:=.fields #[.ref l,.int 0 0] })
   (o:={ cls:=.type "enumerate",data:=.fields #[.none,.bool false,.ref s.heap.objs.size,rawInt 0,.none,.none] }) rfl
  rw[hz]at this;exact this
 refine ⟨⟨_,he,rfl⟩,h _ he ⟨_,al _ (ay _ rfl),rfl,rfl⟩ (by rw[br,hz]) λb o x=>al _ (al _ x)⟩
theorem T8{k:SK}{xs:Array Value}{Q:Value->Shared->Prop}(h1:k.On xs s.heap)
  (h:∀h',IsEnum h' (s.heap.objs.size+1) s.heap.objs.size 0 .none->k.pos s.heap.objs.size 0 h'->h'.objs.size=s.heap.objs.size+2->
   (∀b o,s.heap.get? b=some o->h'.get? b=some o)->Q (.ref (s.heap.objs.size+1)) { s with heap:=h' }):
  wpAny (model prog w) A (call (.type "enumerate") [k.val]) Q E s:=by
 cases k with
 |lst a=>exact call_enumerate_list h1 h
 |tup a=>exact T7 h1 h
 |str x t=>exact call_enumerate_str h
end
structure OT where
 ms:List (String×String×String×Nat):=[]
 ks:List (String×Nat):=[]
 fl:List (String×String):=[]
 xk:List (String×String):=[]
structure CT where
 N:List Str
 kd:List (Str×NameKind)
 fn:Bool
 fs:List (String×Nat)
 bt:List String
 cn:List (String×D)
 xs:List (String×Bool):=[]
 ot:OT:={}
def gh:Option NameKind->Bool
 |some .local=>true
 |some .cell=>true
 |some .free=>true
 |_=>false
def CT.sto(c:CT)(x:Str):Bool:=c.kd.lookup x==some .local||(c.fn&&c.kd.lookup x==some .cell)
def okN (x:Str):Bool:=!(x==("__debug__":Str))&&!(x==("__classdict__":Str))&&!(x==("__name__":Str))
def CT.glo(c:CT)(x:Str):Bool:=c.kd.lookup x==some .globalImplicit&&okN x
noncomputable def sEq:D->D->Bool
 |.non,.non=>true
 |.bl a,.bl b=>a==b
 |.int a,.int b=>a==b
 |.str a,.str b=>a==b
 |_,_=>false
noncomputable def iu(d:D)(k:Const):Bool:=
 match d,k with
 |.non,.none=>true
 |.bl a,.bool b=>a==b
 |.int a,.int b=>a==b
 |.str a,.str b=>a==b.cps.toList&&decide (a.length<=sz)
 |_,_=>false
noncomputable def Bf.name:Bf->String
 |.len=>"len"
 |.all=>"all"
 |.int=>"int"
 |.tuple=>"tuple"
 |.sum=>"sum"
 |.min=>"min"
 |.max=>"max"
 |.abs=>"abs"
 |.min2=>"min"
 |.str=>"str"
noncomputable def tO:Bf->Bool
 |.sum=>false
 |.min=>false
 |.max=>false
 |.abs=>false
 |.min2=>false
 |.str=>true
 |_=>true
def tQ:Lf->Bool
 |.sorted=>false
 |_=>true
def Lf.name:Lf->String
 |.list=>"list"
 |.sorted=>"sorted"
noncomputable def Mf.name:Mf->String
 |.join=>"join"
 |.find=>"find"
 |.split=>"split"
 |.append=>"append"
 |.extend=>"extend"
 |.insert=>"insert"
 |.pop=>"pop"
 |.count=>"count"
 |.index=>"index"
def oR:Expr->Bool
 |.Name _ _=>true
 |.Subscript _ _ _=>true
 |_=>false
theorem T9{v:Expr}(h:oR v=true)(name:Str)(env:Env):attributeBase v name env (eval v env)=eval v env:=by cases v <;> first |rfl |cases h
def oU:Expr->Bool
 |.Call (.Name _ _) [] [] _=>true
 |_=>false
def cg:Expr->Bool
 |.ListComp ..=>true
 |.SetComp ..=>true
 |.DictComp ..=>true
 |_=>false
noncomputable def gj:Expr->Bool
 |.UnaryOp .Not _ _=>false
 |.BoolOp ..=>false
 |.IfExp ..=>false
 |.Compare ..=>false
 |_=>true
noncomputable def fH(N:List Str)(scope:Scope):List Str->List (Option Nat)->Bool
 |[],[]=>true
 |_::N',none::cap=>fH N scope N' cap
 |x::N',some j::cap=>(N[j]?==some x)&&(scope.names.lookup x==some NameKind.free)&&fH N scope N' cap
 |_,_=>false
noncomputable def iw(c:CT)(scope:Scope):Bool:=
 scope.names.all (λy=>y.2 != NameKind.cell)&&scope.names.all (λy=>y.2 != NameKind.local||scope.names.lookup y.1==some NameKind.local) &&
 scope.names.all (λy=>y.2 != NameKind.free||(c.kd.lookup y.1==some NameKind.cell||c.kd.lookup y.1==some NameKind.free))&&decide (scope.kind=.function)&&decide (c.kd=c.kd)
def CT.comp(c:CT)(N:List Str)(scope:Scope):CT:={ N:=N,kd:=scope.names,fn:=false,fs:=c.fs,bt:=c.bt,cn:=c.cn,ot:=c.ot }
def dw:List Str->Bool
 |[]=>true
 |x::r=>!r.contains x&&dw r
noncomputable def asName(e:Expr):Option { t:Str×Pos // e=.Name t.1 t.2 }:=match e with
 |.Name a0 a1=>some ⟨(a0,a1),rfl⟩
 |_=>none
noncomputable def yC(e:Expr):Option { t:Expr×Pos // e=.Starred t.1 t.2 }:=match e with
 |.Starred a0 a1=>some ⟨(a0,a1),rfl⟩
 |_=>none
noncomputable def iy(e:Expr):Option { t:Const×Nat×Pos // e=.Constant t.1 t.2.1 t.2.2 }:=match e with
 |.Constant a0 a1 a2=>some ⟨(a0,a1,a2),rfl⟩
 |_=>none
noncomputable def yD(e:Expr):Option { t:Expr×Operator×Expr×Pos // e=.BinOp t.1 t.2.1 t.2.2.1 t.2.2.2 }:=match e with
 |.BinOp a0 a1 a2 a3=>some ⟨(a0,a1,a2,a3),rfl⟩
 |_=>none
noncomputable def yE(e:Expr):Option { t:UnaryOp×Expr×Pos // e=.UnaryOp t.1 t.2.1 t.2.2 }:=match e with
 |.UnaryOp a0 a1 a2=>some ⟨(a0,a1,a2),rfl⟩
 |_=>none
noncomputable def jq(e:Expr):Option { t:Expr×List CmpOp×List Expr×Pos // e=.Compare t.1 t.2.1 t.2.2.1 t.2.2.2 }:=match e with
 |.Compare a0 a1 a2 a3=>some ⟨(a0,a1,a2,a3),rfl⟩
 |_=>none
noncomputable def oV(e:Expr):Option { t:BoolOp×List Expr×Pos // e=.BoolOp t.1 t.2.1 t.2.2 }:=match e with
 |.BoolOp a0 a1 a2=>some ⟨(a0,a1,a2),rfl⟩
 |_=>none
noncomputable def aae(e:Expr):Option { t:Expr×Expr×Expr×Pos // e=.IfExp t.1 t.2.1 t.2.2.1 t.2.2.2 }:=match e with
 |.IfExp a0 a1 a2 a3=>some ⟨(a0,a1,a2,a3),rfl⟩
 |_=>none
noncomputable def cZ(e:Expr):Option { t:List Expr×Nat×Pos // e=.Tuple t.1 t.2.1 t.2.2 }:=match e with
 |.Tuple a0 a1 a2=>some ⟨(a0,a1,a2),rfl⟩
 |_=>none
noncomputable def asList(e:Expr):Option { t:List Expr×Pos // e=.List t.1 t.2 }:=match e with
 |.List a0 a1=>some ⟨(a0,a1),rfl⟩
 |_=>none
noncomputable def iz(e:Expr):Option { t:Expr×Expr×Pos // e=.Subscript t.1 t.2.1 t.2.2 }:=match e with
 |.Subscript a0 a1 a2=>some ⟨(a0,a1,a2),rfl⟩
 |_=>none
noncomputable def yF(e:Expr):Option { t:Option Expr×Option Expr×Option Expr×Pos // e=.Slice t.1 t.2.1 t.2.2.1 t.2.2.2 }:=match e with
 |.Slice a0 a1 a2 a3=>some ⟨(a0,a1,a2,a3),rfl⟩
 |_=>none
noncomputable def oW(e:Expr):Option { t:Expr×List Expr×List Keyword×Pos // e=.Call t.1 t.2.1 t.2.2.1 t.2.2.2 }:=match e with
 |.Call a0 a1 a2 a3=>some ⟨(a0,a1,a2,a3),rfl⟩
 |_=>none
noncomputable def oX(e:Expr):Option { t:Expr×Str×Pos // e=.Attribute t.1 t.2.1 t.2.2 }:=match e with
 |.Attribute a0 a1 a2=>some ⟨(a0,a1,a2),rfl⟩
 |_=>none
noncomputable def yG(e:Expr):Option { t:Expr×List Comprehension×Scope×Pos // e=.ListComp t.1 t.2.1 t.2.2.1 t.2.2.2 }:=match e with
 |.ListComp a0 a1 a2 a3=>some ⟨(a0,a1,a2,a3),rfl⟩
 |_=>none
noncomputable def jr(e:Stmt):Option { t:Expr×Pos // e=.Expr t.1 t.2 }:=match e with
 |.Expr a0 a1=>some ⟨(a0,a1),rfl⟩
 |_=>none
noncomputable def gk(e:Stmt):Option { t:List Expr×Expr×Pos // e=.Assign t.1 t.2.1 t.2.2 }:=match e with
 |.Assign a0 a1 a2=>some ⟨(a0,a1,a2),rfl⟩
 |_=>none
noncomputable def yH(e:Stmt):Option { t:Expr×Operator×Expr×Pos // e=.AugAssign t.1 t.2.1 t.2.2.1 t.2.2.2 }:=match e with
 |.AugAssign a0 a1 a2 a3=>some ⟨(a0,a1,a2,a3),rfl⟩
 |_=>none
noncomputable def aaf(e:Stmt):Option { t:Option Expr×Option Expr×Pos // e=.Raise t.1 t.2.1 t.2.2 }:=match e with
 |.Raise a0 a1 a2=>some ⟨(a0,a1,a2),rfl⟩
 |_=>none
noncomputable def aag(e:Stmt):Option { t:List Stmt×List ExceptHandler×List Stmt×List Stmt×Pos // e=.Try t.1 t.2.1 t.2.2.1 t.2.2.2.1 t.2.2.2.2 }:=match e with
 |.Try a0 a1 a2 a3 a4=>some ⟨(a0,a1,a2,a3,a4),rfl⟩
 |_=>none
noncomputable def aah(e:ExceptHandler):Option { t:Option Expr×Option Str×List Stmt×Pos // e=.ExceptHandler t.1 t.2.1 t.2.2.1 t.2.2.2 }:=match e with
 |.ExceptHandler a0 a1 a2 a3=>some ⟨(a0,a1,a2,a3),rfl⟩
noncomputable def tR(e:Expr):Option { t:Expr×Int×Option Expr×Pos // e=.FormattedValue t.1 t.2.1 t.2.2.1 t.2.2.2 }:=match e with
 |.FormattedValue a0 a1 a2 a3=>some ⟨(a0,a1,a2,a3),rfl⟩
 |_=>none
noncomputable def Ua(e:Expr):Option { t:List Expr×Pos // e=.JoinedStr t.1 t.2 }:=match e with
 |.JoinedStr a0 a1=>some ⟨(a0,a1),rfl⟩
 |_=>none
def Ub(k:Const):Option { x:Str // k=.str x }:=match k with
 |.str x=>some ⟨x,rfl⟩
 |_=>none
def aai(b:Bool)(k:Const):Bool:=match k with
 |.bool c=>c==b
 |_=>false
noncomputable def oY(e:Stmt):Option { t:Option Expr×Pos // e=.Return t.1 t.2 }:=match e with
 |.Return a0 a1=>some ⟨(a0,a1),rfl⟩
 |_=>none
noncomputable def tU(e:Stmt):Option { t:Expr×List Stmt×List Stmt×Pos // e=.If t.1 t.2.1 t.2.2.1 t.2.2.2 }:=match e with
 |.If a0 a1 a2 a3=>some ⟨(a0,a1,a2,a3),rfl⟩
 |_=>none
noncomputable def yI(e:Stmt):Option { t:Expr×Expr×List Stmt×List Stmt×Pos // e=.For t.1 t.2.1 t.2.2.1 t.2.2.2.1 t.2.2.2.2 }:=match e with
 |.For a0 a1 a2 a3 a4=>some ⟨(a0,a1,a2,a3,a4),rfl⟩
 |_=>none
noncomputable def aaj(e:Stmt):Option { t:Expr×List Stmt×List Stmt×Pos // e=.While t.1 t.2.1 t.2.2.1 t.2.2.2 }:=match e with
 |.While a0 a1 a2 a3=>some ⟨(a0,a1,a2,a3),rfl⟩
 |_=>none
def yJ(e:Stmt):Option { t:Pos // e=.Pass t }:=match e with
 |.Pass a0=>some ⟨a0,rfl⟩
 |_=>none
def yK(e:Stmt):Option { t:Pos // e=.Break t }:=match e with
 |.Break a0=>some ⟨a0,rfl⟩
 |_=>none
def yL(e:Stmt):Option { t:Pos // e=.Continue t }:=match e with
 |.Continue a0=>some ⟨a0,rfl⟩
 |_=>none
def one{α:Type}:List α->Option α
 |[a]=>some a
 |_=>none
def three{α:Type}:List α->Option (α×α×α)
 |[x,y,z]=>some (x,y,z)
 |_=>none
theorem aak{α:Type}{l:List α}{v:α×α×α}(h:three l=some v):l=[v.1,v.2.1,v.2.2]:=by
 unfold three at h;split at h
 ·cases h;rfl
 ·cases h
def two{α:Type}:List α->Option (α×α)
 |[a,b]=>some (a,b)
 |_=>none
def hdT{α:Type}:List α->Option (α×List α)
 |a::r=>some (a,r)
 |[]=>none
theorem cA{α:Type}{l:List α}{a:α}(h:one l=some a):l=[a]:=by
 cases l with
 |nil=>cases h
 |cons x r=>cases r with
  |nil=>cases h;rfl
  |cons _ _=>cases h
theorem jt{α:Type}{l:List α}{a:α×α}(h:two l=some a):l=[a.1,a.2]:=by
 cases l with
 |nil=>cases h
 |cons x r=>cases r with
  |nil=>cases h
  |cons y r=>cases r with
   |nil=>cases h;rfl
   |cons _ _=>cases h
theorem yM{α:Type}{l:List α}{a:α×List α}(h:hdT l=some a):l=a.1::a.2:=by
 cases l with
 |nil=>cases h
 |cons x r=>cases h;rfl
theorem aM{α:Type}{o:Option α}{p:α->Bool}(h:o.any p=true):∃t,o=some t/\p t=true:=by
 cases o with
 |none=>cases h
 |some t=>exact ⟨t,rfl,h⟩
def Uc:UnaryOp->Bool
 |.USub=>true
 |_=>false
def tV:UnaryOp->Bool
 |.Not=>true
 |_=>false
theorem aal{o:UnaryOp}(h:Uc o=true):o=.USub:=by cases o <;> first |rfl |cases h
theorem Ud{o:UnaryOp}(h:tV o=true):o=.Not:=by cases o <;> first |rfl |cases h
noncomputable def bf(e:Expr):Option (Str×Pos×List Expr×Pos):=(oW e).bind λt=>(asName t.1.1).bind λn=>match t.1.2.2.1 with |[]=>some (n.1.1,n.1.2,t.1.2.1,t.1.2.2.2) |_::_=>none
noncomputable def aq{α:Type}{q:α->Prop}(o:Option { t:α // q t })(P:α->Bool):Bool:=match o with |some t=>P t.1 |none=>false
theorem aK{α:Type}{q:α->Prop}{o:Option { t:α // q t }}{P:α->Bool}(h:aq o P=true):∃t,q t/\P t=true:=by
 cases o with
 |none=>cases h
 |some t=>exact ⟨t.1,t.2,h⟩
theorem iB{α β:Type}{o:Option α}{f:α->Option β}{b:β}(h:o.bind f=some b):∃t,o=some t/\f t=some b:=by
 cases o with
 |none=>cases h
 |some t=>exact ⟨t,rfl,h⟩
theorem dz{e:Expr}{t:Str×Pos×List Expr×Pos}(h:bf e=some t):e=.Call (.Name t.1 t.2.1) t.2.2.1 [] t.2.2.2:=by
 obtain ⟨⟨⟨f,as,ks,p⟩,hu⟩,_,h⟩:=iB h;obtain ⟨⟨⟨x,p'⟩,hn⟩,_,h⟩:=iB h;dsimp only at h hn hu;cases ks with
 |nil=>cases h;rw[hu,hn]
 |cons _ _=>cases h
noncomputable def tW (e:Expr):Option (Str×Pos×Expr×Expr×Pos×Pos):=(oW e).bind λt=>(asName t.1.1).bind λn=>(one t.1.2.1).bind λv=>(one t.1.2.2.1).bind λkw=>if kw.arg=some (Str.ofString "start") then some (n.1.1,n.1.2,v,kw.value,kw.pos,t.1.2.2.2) else none
theorem Ue {e:Expr} {t:Str×Pos×Expr×Expr×Pos×Pos} (h:tW e=some t):e=.Call (.Name t.1 t.2.1) [t.2.2.1] [⟨some (Str.ofString "start"),t.2.2.2.1,t.2.2.2.2.1⟩] t.2.2.2.2.2:=by
 obtain ⟨⟨⟨f,as,ks,p⟩,hu⟩,_,h⟩:=iB h;obtain ⟨⟨⟨x,p'⟩,hn⟩,_,h⟩:=iB h;dsimp only at h hn hu;obtain ⟨v,hv,h⟩:=iB h;obtain ⟨⟨ka,kv,kp⟩,hk,h⟩:=iB h;dsimp only at h;split at h
 ·rename_i he;cases h;rw[hu,hn,cA hv,cA hk,he]
 ·cases h
def ju(e:Expr):Bool:=(jq e).isSome
def yN:Ex->Bool
 |.frz _=>false
 |_=>true
def tX:Tx->Bool
 |.yes=>true
 |_=>false
mutual
noncomputable def bJ(c:CT):Tg->Expr->Bool
 |.nm i,e=>aq (asName e) λt=>(c.N[i]?==some t.1)&&c.sto t.1
 |.tp ts,e=>aq (cZ e) λt=>bV c ts t.1
noncomputable def bV(c:CT):Tgs->List Expr->Bool
 |.nil,es=>es.isEmpty
 |.cons t r,es=>match es with
  |e::es=>bJ c t e&&bV c r es
  |[]=>false
end
def yO(e:Expr):Bool:=aq (iy e) λt=>aq (Ub t.1) λx=>decide (x.length<=1000)
def unF(e:Expr):Expr:=match tR e with |some t=>t.1.1 |none=>e
def Ug:Ex->Bool
 |.cst (.str _)=>true
 |_=>false
noncomputable def Uh:Exs->List Expr->Bool
 |.cons x xs,p::ps=>(match tR p with |some t=>decide (t.1.2.1=-1)&&t.1.2.2.1.isNone |none=>Ug x)&&Uh xs ps
 |.nil,ps=>ps.isEmpty
 |_,[]=>false
mutual
noncomputable def aa(c:CT):Ex->Expr->Bool
 |.var i,e=>aq (asName e) λt=>(c.N[i]?==some t.1)&&gh (c.kd.lookup t.1)&&okN t.1
 |.cst d,e=>aq (iy e) λt=>iu d t.1
 |.glb _ _,_=>false
 |.bin op _ a b,e=>aq (yD e) λt=>t.2.1==op&&aa c a t.1&&aa c b t.2.2.1
 |.neg _,_=>false
 |.cmp op a b,e=>aq (jq e) λt=>(one t.2.1).any λo=>(one t.2.2.1).any λr=>o==op&&aa c a t.1&&aa c b r
 |.chn op op' a b d,e=>aq (jq e) λt=>(two t.2.1).any λo=>(two t.2.2.1).any λr=>o.1==op&&o.2==op'&&aa c a t.1&&aa c b r.1&&aa c d r.2
 |.not _,_=>false
 |.boo isAnd x es,e=>aq (oV e) λt=>(hdT t.2.1).any λv=>t.1==(if isAnd then .And else .Or)&&aa c x v.1&&aC c es v.2
 |.ife _ _ _,_=>false
 |.tup es,e=>aq (cZ e) λt=>aC c es t.1
 |.lst _ es,e=>aq (asList e) λt=>aC c es t.1
 |.idx a i,e=>aq (iz e) λt=>aa c a t.1&&aa c i t.2.1
 |.slc _ a lo hi,e=>aq (iz e) λt=>aq (yF t.2.1) λs=>s.2.2.1.isNone&&(aa c a t.1&&eH c lo s.1&&eH c hi s.2.1)
 |.rvs _ _ _,_=>false
 |.call f es,e=>(bf e).any λt=>t.1==Str.ofString f&&c.glo t.1&&(c.fs.any λp=>p.1==f&&p.2==t.2.2.1.length)&&!t.2.2.1.isEmpty&&aC c es t.2.2.1
 |.bcl f es,e=>(bf e).any λt=>t.1==Str.ofString f.name&&tO f&&c.glo t.1&&c.bt.contains f.name&&!t.2.2.1.isEmpty&&aC c es t.2.2.1
 |.lcl _ f es,e=>(bf e).any λt=>t.1==Str.ofString f.name&&tQ f&&c.glo t.1&&c.bt.contains f.name&&!t.2.2.1.isEmpty&&aC c es t.2.2.1
 |.isi a t,e=>(bf e).any λu=>(two u.2.2.1).any λv=>aq (asName v.2) λy=>u.1==Str.ofString "isinstance"&&c.glo u.1&&c.bt.contains "isinstance"&&aa c a v.1&&y.1==Str.ofString t&&c.glo y.1&&c.bt.contains t&&d9 t
 |.isx _ _ _,_=>false
 |.fst _,_=>false
 |.rgl _ _,_=>false
 |.srs _ a,e=>(bf e).any λt=>(one t.2.2.1).any λe1=>(bf e1).any λu=>(one u.2.2.1).any λe2=>t.1==Str.ofString "sorted"&&c.glo t.1&&c.bt.contains "sorted"&&u.1==Str.ofString "set"&&c.glo u.1&&c.bt.contains "set"&&aa c a e2
 |.rgt _,_=>false
 |.rpl _ _ _ _,_=>false
 |.fld _ _ _,_=>false
 |.mcl _ _ _ _ _,_=>false
 |.mkx C a,e=>(bf e).any λt=>(one t.2.2.1).any λv=>t.1==Str.ofString C&&c.glo t.1&&c.xs.contains (C,true)&&aa c a v
 |.mki C f a,e=>(bf e).any λt=>(one t.2.2.1).any λv=>t.1==Str.ofString C&&c.glo t.1&&c.ot.xk.contains (C,f)&&aa c a v
 |.xat C f a,e=>aq (oX e) λt=>oR t.1&&(t.2.1==Str.ofString f&&c.ot.xk.contains (C,f)&&aa c a t.1)
 |.mko _ _,_=>false
 |.pp0 _,_=>false
 |.mth m o es,e=>aq (oW e) λt=>aq (oX t.1) λv=>t.2.2.1.isEmpty&&(v.2.1==Str.ofString m.name&&aa c o v.1&&!oU v.1&&(v.2.2.endLine==t.2.2.2.line)&&decide (t.2.1.length < 29)&&!t.2.1.isEmpty&&aC c es t.2.1)
 |.comp _ elt tg it cond N cap,e=>aq (yG e) λt=>(one t.2.1).any λg=>decide (g.is_async=0)&&bh c it g.target g.iter&&fH c.N t.2.2.1 (N.map Str.ofString) cap&&iw c t.2.2.1&&dw (N.map Str.ofString) &&
    bJ (c.comp (N.map Str.ofString) t.2.2.1) tg g.target&&((tX cond&&g.ifs.isEmpty)||(one g.ifs).any λf=>bC (c.comp (N.map Str.ofString) t.2.2.1) cond f)&&aa (c.comp (N.map Str.ofString) t.2.2.1) elt t.1
 |.cm3 _ _ _ _ _ _ _ _ _,_=>false
 |.frz a,e=>aa c a e
noncomputable def bC(c:CT):Tx->Expr->Bool
 |.val x,e=>(gj e||ju e)&&aa c x e&&yN x
 |.not t,e=>aq (yE e) λu=>tV u.1&&bC c t u.2.1
 |.boo isAnd t ts,e=>aq (oV e) λu=>(hdT u.2.1).any λv=>u.1==(if isAnd then .And else .Or)&&bC c t v.1&&gm c ts v.2
 |.yes,_=>false
noncomputable def gm(c:CT):Txs->List Expr->Bool
 |.nil,es=>es.isEmpty
 |.cons t r,es=>match es with
  |e::es=>bC c t e&&gm c r es
  |[]=>false
noncomputable def aC(c:CT):Exs->List Expr->Bool
 |.nil,es=>es.isEmpty
 |.cons t r,es=>match es with
  |e::es=>aa c t e&&aC c r es
  |[]=>false
noncomputable def eH(c:CT):Ox->Option Expr->Bool
 |.no,e=>e.isNone
 |.ob x,e=>match e with
  |some e=>aa c x e
  |none=>false
noncomputable def bh(c:CT):It'->Expr->Expr->Bool
 |.seq x,_,e=>aa c x e
 |.rng a,_,e=>(bf e).any λt=>(one t.2.2.1).any λv=>t.1==Str.ofString "range"&&c.glo t.1&&c.bt.contains "range"&&aa c a v
 |.rng2 _ _,_,_=>false
 |.rev _,_,_=>false
 |.dwn _ _ _,_,_=>false
 |.enm a,tg,e=>aq (cZ tg) λ_=>(bf e).any λt=>(one t.2.2.1).any λv=>t.1==Str.ofString "enumerate"&&c.glo t.1&&c.bt.contains "enumerate"&&aa c a v
 |.en1 a,tg,e=>aq (cZ tg) λ_=>(tW e).any λt=>t.1==Str.ofString "enumerate"&&c.glo t.1&&c.bt.contains "enumerate"&&aa c a t.2.2.1&&(aq (iy t.2.2.2.1) λu=>iu (.int 1) u.1)
 |.zip a b,tg,e=>aq (cZ tg) λ_=>(bf e).any λt=>(two t.2.2.1).any λv=>t.1==Str.ofString "zip"&&c.glo t.1&&c.bt.contains "zip"&&aa c a v.1&&aa c b v.2
end
def jw(c:CT)(cond:Tx)(ifs:List Expr):Bool:=(tX cond&&ifs.isEmpty)||(one ifs).any λf=>bC c cond f
def yP:Ex->Bool
 |.comp ..=>true
 |.cm3 ..=>true
 |_=>false
def jx:Expr->Bool
 |.Tuple ..=>true
 |_=>false
def tY(g:Tg)(x:Ex)(e:Expr):Bool:=match g with |.nm _=>!cg e||yP x |.tp _=>!jx e&&!cg e
noncomputable def tZ(c:CT):Exs->List Expr->Bool
 |es,[]=>(match es with |.nil=>true |_=>false)
 |es,p::ps=>match yO p with
  |true=>tZ c es ps
  |false=>(match es with |.cons x r=>(aq (tR p) λt=>decide (t.2.1=-1)&&t.2.2.1.isNone&&aa c x t.1)&&tZ c r ps |.nil=>false)
noncomputable def aam(c:CT)(es:Exs)(e:Expr):Bool:=(match es with |.nil=>yO e |_=>false)||aq (Ua e) λt=>decide (2<=t.1.length)&&decide (t.1.length<=50)&&tZ c es t.1
noncomputable def yQ(c:CT):Tb->List Stmt->Bool
 |.call f es,sts=>(one sts).any λs0=>aq (jr s0) λe0=>(bf e0.1).any λu=>(u.1==Str.ofString f&&c.glo u.1&&(c.fs.any λp=>p.1==f&&p.2==u.2.2.1.length)&&!u.2.2.1.isEmpty&&aC c es u.2.2.1)
 |.pick _ _ _ _,_=>false
 |.asg i f es,sts=>(one sts).any λs0=>aq (gk s0) λa=>(one a.1).any λtg=>aq (asName tg) λy=>(bf a.2.1).any λu=>(c.N[i]?==some y.1&&c.sto y.1&&okN y.1)&&(u.1==Str.ofString f&&c.glo u.1&&(c.fs.any λp=>p.1==f&&p.2==u.2.2.1.length)&&!u.2.2.1.isEmpty&&aC c es u.2.2.1)
 |.ite t a b,sts=>(one sts).any λs0=>aq (tU s0) λu=>bC c t u.1&&yQ c a u.2.1&&yQ c b u.2.2.1
 |.mcl f C m o es,sts=>(one sts).any λs0=>aq (jr s0) λe0=>aa c (.mcl f C m o es) e0.1
 |.mko C es,sts=>(one sts).any λs0=>aq (jr s0) λe0=>aa c (.mko C es) e0.1
def Ui(b:Bool):Const->Bool
 |.bool x=>x==b
 |_=>false
noncomputable def aan(c:CT)(h:Hd)(nm:Option Str)(y:Str)(e:Expr):Bool:=(match h with
 |.flag i b=>nm.isNone&&(c.N[i]?==some y)&&aq (iy e) λk=>Ui b k.1
 |.bind n i=>nm.any λx=>(c.N[i]?==some y)&&(c.N[n]?==some x)&&(c.kd.lookup x==some .local)&&okN x&&aq (asName e) λz=>z.1==x)&&c.sto y&&okN y
mutual
noncomputable def aU(c:CT):Sx->Stmt->Bool
 |.exp x,st=>aq (jr st) λt=>!cg t.1&&aa c x t.1
 |.star i j x,st=>aq (gk st) λt=>(one t.1).any λtg=>aq (cZ tg) λu=>(two u.1).any λv=>aq (yC v.1) λw=>aq (asName w.1) λy=>aq (asName v.2) λz=>(c.N[i]?==some y.1)&&c.sto y.1&&(c.N[j]?==some z.1)&&c.sto z.1&&aa c x t.2.1&&!jx t.2.1&&!cg t.2.1
 |.asg g x,st=>aq (gk st) λt=>(one t.1).any λtg=>bJ c g tg&&aa c x t.2.1&&tY g x t.2.1
 |.set o i x,st=>aq (gk st) λt=>(one t.1).any λtg=>aq (iz tg) λu=>aa c o u.1&&aa c i u.2.1&&aa c x t.2.1&&!cg t.2.1
 |.aug i op x,st=>aq (yH st) λt=>aq (asName t.1) λy=>t.2.1==op&&(c.N[i]?==some y.1)&&c.sto y.1&&okN y.1&&aa c x t.2.2.1
 |.augs _ _ _ _,_=>false
 |.ret x,st=>aq (oY st) λt=>t.1.any λe=>aa c x e
 |.rtn,st=>aq (oY st) λt=>t.1.isNone
 |.ite t a b,st=>aq (tU st) λu=>bC c t u.1&&aL c a u.2.1&&aL c b u.2.2.1
 |.for_ g it b,st=>aq (yI st) λt=>t.2.2.2.1.isEmpty&&(bJ c g t.1&&bh c it t.1 t.2.1&&aL c b t.2.2.1)
 |.whl _ _,_=>false
 |.pas,st=>(yJ st).isSome
 |.brk,st=>(yK st).isSome
 |.cnt,st=>(yL st).isSome
 |.nev,_=>true
 |.rse _ _,_=>false
 |.tryc _ _ _ _ _,_=>false
 |.tryx _ _ _ _,_=>false
noncomputable def aL(c:CT):Sxs->List Stmt->Bool
 |.nil,es=>es.isEmpty
 |.cons t r,es=>match es with
  |e::es=>aU c t e&&aL c r es
  |[]=>false
end
theorem t6{c:CT}{i:Nat}{e:Expr}(h:bJ c (.nm i) e=true):∃x p,e=.Name x p/\((c.N[i]?==some x)&&c.sto x)=true:=by have h:(aq (asName e) λt=>(c.N[i]?==some t.1)&&c.sto t.1)=true:=h;obtain ⟨t,ht,h⟩:=aK h;exact ⟨_,_,ht,h⟩
theorem t7{c:CT}{ts:Tgs}{e:Expr}(h:bJ c (.tp ts) e=true):∃es k p,e=.Tuple es k p/\(bV c ts es)=true:=by have h:(aq (cZ e) λt=>bV c ts t.1)=true:=h;obtain ⟨t,ht,h⟩:=aK h;exact ⟨_,_,_,ht,h⟩
theorem yR{c:CT}{i:Nat}{e:Expr}(h:aa c (.var i) e=true):∃x p,e=.Name x p/\((c.N[i]?==some x)&&gh (c.kd.lookup x)&&okN x)=true:=by have h:(aq (asName e) λt=>(c.N[i]?==some t.1)&&gh (c.kd.lookup t.1)&&okN t.1)=true:=h;obtain ⟨t,ht,h⟩:=aK h;exact ⟨_,_,ht,h⟩
theorem yS{c:CT}{d:D}{e:Expr}(h:aa c (.cst d) e=true):∃k n p,e=.Constant k n p/\(iu d k)=true:=by have h:(aq (iy e) λt=>iu d t.1)=true:=h;obtain ⟨t,ht,h⟩:=aK h;exact ⟨_,_,_,ht,h⟩
theorem yU{c:CT}{op:Operator}{fz:Bool}{a b:Ex}{e:Expr}(h:aa c (.bin op fz a b) e=true):∃l o r p,e=.BinOp l o r p/\(o==op&&aa c a l&&aa c b r)=true:=by have h:(aq (yD e) λt=>t.2.1==op&&aa c a t.1&&aa c b t.2.2.1)=true:=h;obtain ⟨t,ht,h⟩:=aK h;exact ⟨_,_,_,_,ht,h⟩
theorem yV{c:CT}{op:CmpOp}{a b:Ex}{e:Expr}(h:aa c (.cmp op a b) e=true):∃l o r p,e=.Compare l [o] [r] p/\(o==op&&aa c a l&&aa c b r)=true:=by have h:(aq (jq e) λt=>(one t.2.1).any λo=>(one t.2.2.1).any λr=>o==op&&aa c a t.1&&aa c b r)=true:=h;obtain ⟨t,ht,h⟩:=aK h;obtain ⟨o,ho,h⟩:=aM h;obtain ⟨r,hr,h⟩:=aM h;exact ⟨_,_,_,_,by rw[ht,cA ho,cA hr],h⟩
theorem yW{c:CT}{op op':CmpOp}{a b d:Ex}{e:Expr}(h:aa c (.chn op op' a b d) e=true):∃l o o' m r p,e=.Compare l [o,o'] [m,r] p/\(o==op&&o'==op'&&aa c a l&&aa c b m&&aa c d r)=true:=by have h:(aq (jq e) λt=>(two t.2.1).any λo=>(two t.2.2.1).any λr=>o.1==op&&o.2==op'&&aa c a t.1&&aa c b r.1&&aa c d r.2)=true:=h;obtain ⟨t,ht,h⟩:=aK h;obtain ⟨o,ho,h⟩:=aM h;obtain ⟨r,hr,h⟩:=aM h;exact ⟨_,_,_,_,_,_,by rw[ht,jt ho,jt hr],h⟩
theorem yX{c:CT}{isAnd:Bool}{x:Ex}{es:Exs}{e:Expr}(h:aa c (.boo isAnd x es) e=true):∃op v vs p,e=.BoolOp op (v::vs) p/\(op==(if isAnd then .And else .Or)&&aa c x v&&aC c es vs)=true:=by have h:(aq (oV e) λt=>(hdT t.2.1).any λv=>t.1==(if isAnd then .And else .Or)&&aa c x v.1&&aC c es v.2)=true:=h;obtain ⟨t,ht,h⟩:=aK h;obtain ⟨v,hv,h⟩:=aM h;exact ⟨_,_,_,_,by rw[ht,yM hv],h⟩
theorem yZ{c:CT}{es:Exs}{e:Expr}(h:aa c (.tup es) e=true):∃vs k p,e=.Tuple vs k p/\(aC c es vs)=true:=by have h:(aq (cZ e) λt=>aC c es t.1)=true:=h;obtain ⟨t,ht,h⟩:=aK h;exact ⟨_,_,_,ht,h⟩
theorem za{c:CT}{fz:Bool}{es:Exs}{e:Expr}(h:aa c (.lst fz es) e=true):∃vs p,e=.List vs p/\(aC c es vs)=true:=by have h:(aq (asList e) λt=>aC c es t.1)=true:=h;obtain ⟨t,ht,h⟩:=aK h;exact ⟨_,_,ht,h⟩
theorem zb{c:CT}{a i:Ex}{e:Expr}(h:aa c (.idx a i) e=true):∃v s p,e=.Subscript v s p/\(aa c a v&&aa c i s)=true:=by have h:(aq (iz e) λt=>aa c a t.1&&aa c i t.2.1)=true:=h;obtain ⟨t,ht,h⟩:=aK h;exact ⟨_,_,_,ht,h⟩
theorem zc{c:CT}{fz:Bool}{a:Ex}{lo hi:Ox}{e:Expr}(h:aa c (.slc fz a lo hi) e=true):∃v l u p' p,e=.Subscript v (.Slice l u none p') p/\(aa c a v&&eH c lo l&&eH c hi u)=true:=by have h:(aq (iz e) λt=>aq (yF t.2.1) λs=>s.2.2.1.isNone&&(aa c a t.1&&eH c lo s.1&&eH c hi s.2.1))=true:=h;obtain ⟨t,ht,h⟩:=aK h;obtain ⟨s,hs,h⟩:=aK h;rw[ah,Option.isNone_iff_eq_none]at h;exact ⟨_,_,_,_,_,by rw[ht,hs,h.1],h.2⟩
theorem zf{c:CT}{f:String}{es:Exs}{e:Expr}(h:aa c (.call f es) e=true):∃x p args pos,e=.Call (.Name x p) args [] pos/\(x==Str.ofString f&&c.glo x&&(c.fs.any λp=>p.1==f&&p.2==args.length)&&!args.isEmpty&&aC c es args)=true:=by have h:((bf e).any λt=>t.1==Str.ofString f&&c.glo t.1&&(c.fs.any λp=>p.1==f&&p.2==t.2.2.1.length)&&!t.2.2.1.isEmpty&&aC c es t.2.2.1)=true:=h;obtain ⟨t,ht,h⟩:=aM h;exact ⟨_,_,_,_,dz ht,h⟩
theorem zg{c:CT}{f:Bf}{es:Exs}{e:Expr}(h:aa c (.bcl f es) e=true):∃x p args pos,e=.Call (.Name x p) args [] pos/\(x==Str.ofString f.name&&tO f&&c.glo x&&c.bt.contains f.name&&!args.isEmpty&&aC c es args)=true:=by have h:((bf e).any λt=>t.1==Str.ofString f.name&&tO f&&c.glo t.1&&c.bt.contains f.name&&!t.2.2.1.isEmpty&&aC c es t.2.2.1)=true:=h;obtain ⟨t,ht,h⟩:=aM h;exact ⟨_,_,_,_,dz ht,h⟩
theorem zj{c:CT}{fz:Bool}{f:Lf}{es:Exs}{e:Expr}(h:aa c (.lcl fz f es) e=true):∃x p args pos,e=.Call (.Name x p) args [] pos/\(x==Str.ofString f.name&&tQ f&&c.glo x&&c.bt.contains f.name&&!args.isEmpty&&aC c es args)=true:=by have h:((bf e).any λt=>t.1==Str.ofString f.name&&tQ f&&c.glo t.1&&c.bt.contains f.name&&!t.2.2.1.isEmpty&&aC c es t.2.2.1)=true:=h;obtain ⟨t,ht,h⟩:=aM h;exact ⟨_,_,_,_,dz ht,h⟩
theorem zm {c:CT} {a:Ex} {t:String} {e:Expr} (h:aa c (.isi a t) e=true):∃x p v y p' pos,e=.Call (.Name x p) [v,.Name y p'] [] pos/\(x==Str.ofString "isinstance"&&c.glo x&&c.bt.contains "isinstance"&&aa c a v&&y==Str.ofString t&&c.glo y&&c.bt.contains t&&d9 t)=true:=by have h:((bf e).any λu=>(two u.2.2.1).any λv=>aq (asName v.2) λy=>u.1==Str.ofString "isinstance"&&c.glo u.1&&c.bt.contains "isinstance"&&aa c a v.1&&y.1==Str.ofString t&&c.glo y.1&&c.bt.contains t&&d9 t)=true:=h;obtain ⟨u,hu,h⟩:=aM h;obtain ⟨v,hv,h⟩:=aM h;obtain ⟨y,hy,h⟩:=aK h;exact ⟨_,_,_,_,_,_,by rw[dz hu,jt hv,hy],h⟩
theorem zp {c:CT} {fz:Bool} {a:Ex} {e:Expr} (h:aa c (.srs fz a) e=true):∃x p x' p' e2 pos' pos,e=.Call (.Name x p) [.Call (.Name x' p') [e2] [] pos'] [] pos/\(x==Str.ofString "sorted"&&c.glo x&&c.bt.contains "sorted"&&x'==Str.ofString "set"&&c.glo x'&&c.bt.contains "set"&&aa c a e2)=true:=by have h:((bf e).any λt=>(one t.2.2.1).any λe1=>(bf e1).any λu=>(one u.2.2.1).any λe2=>t.1==Str.ofString "sorted"&&c.glo t.1&&c.bt.contains "sorted"&&u.1==Str.ofString "set"&&c.glo u.1&&c.bt.contains "set"&&aa c a e2)=true:=h;obtain ⟨t,ht,h⟩:=aM h;obtain ⟨e1,he1,h⟩:=aM h;obtain ⟨u,hu,h⟩:=aM h;obtain ⟨e2,he2,h⟩:=aM h;exact ⟨_,_,_,_,_,_,_,by rw[dz ht,cA he1,dz hu,cA he2],h⟩
theorem zq{c:CT}{C:String}{a:Ex}{e:Expr}(h:aa c (.mkx C a) e=true):∃x p v pos,e=.Call (.Name x p) [v] [] pos/\(x==Str.ofString C&&c.glo x&&c.xs.contains (C,true)&&aa c a v)=true:=by have h:((bf e).any λt=>(one t.2.2.1).any λv=>t.1==Str.ofString C&&c.glo t.1&&c.xs.contains (C,true)&&aa c a v)=true:=h;obtain ⟨t,ht,h⟩:=aM h;obtain ⟨v,hv,h⟩:=aM h;exact ⟨_,_,_,_,by rw[dz ht,cA hv],h⟩
theorem zr{c:CT}{C f:String}{a:Ex}{e:Expr}(h:aa c (.mki C f a) e=true):∃x p v pos,e=.Call (.Name x p) [v] [] pos/\(x==Str.ofString C&&c.glo x&&c.ot.xk.contains (C,f)&&aa c a v)=true:=by have h:((bf e).any λt=>(one t.2.2.1).any λv=>t.1==Str.ofString C&&c.glo t.1&&c.ot.xk.contains (C,f)&&aa c a v)=true:=h;obtain ⟨t,ht,h⟩:=aM h;obtain ⟨v,hv,h⟩:=aM h;exact ⟨_,_,_,_,by rw[dz ht,cA hv],h⟩
theorem zu{c:CT}{C f:String}{a:Ex}{e:Expr}(h:aa c (.xat C f a) e=true):∃v n pos,e=.Attribute v n pos/\oR v=true/\(n==Str.ofString f&&c.ot.xk.contains (C,f)&&aa c a v)=true:=by have h:(aq (oX e) λt=>oR t.1&&(t.2.1==Str.ofString f&&c.ot.xk.contains (C,f)&&aa c a t.1))=true:=h;obtain ⟨t,ht,h⟩:=aK h;rw[ah]at h;exact ⟨_,_,_,ht,h.1,h.2⟩
theorem zx{c:CT}{m:Mf}{o:Ex}{es:Exs}{e:Expr}(h:aa c (.mth m o es) e=true):∃v x apos args cpos,e=.Call (.Attribute v x apos) args [] cpos/\(x==Str.ofString m.name&&aa c o v&&!oU v&&(apos.endLine==cpos.line)&&decide (args.length < 29)&&!args.isEmpty&&aC c es args)=true:=by have h:(aq (oW e) λt=>aq (oX t.1) λv=>t.2.2.1.isEmpty&&(v.2.1==Str.ofString m.name&&aa c o v.1&&!oU v.1&&(v.2.2.endLine==t.2.2.2.line)&&decide (t.2.1.length < 29)&&!t.2.1.isEmpty&&aC c es t.2.1))=true:=h;obtain ⟨t,ht,h⟩:=aK h;obtain ⟨v,hv,h⟩:=aK h;rw[ah,List.isEmpty_iff]at h;exact ⟨_,_,_,_,_,by rw[ht,hv,h.1],h.2⟩
theorem zy{c:CT}{fz:Bool}{elt:Ex}{tg:Tg}{it:It'}{cond:Tx}{N:List String}{cap:List (Option Nat)}{e:Expr}(h:aa c (.comp fz elt tg it cond N cap) e=true):∃elt' tg' iter ifs as scope pos,e=.ListComp elt' [⟨tg',iter,ifs,as⟩] scope pos/\(decide (as=0)&&bh c it tg' iter&&fH c.N scope (N.map Str.ofString) cap&&iw c scope&&dw (N.map Str.ofString)&&bJ (c.comp (N.map Str.ofString) scope) tg tg'&&jw (c.comp (N.map Str.ofString) scope) cond ifs&&aa (c.comp (N.map Str.ofString) scope) elt elt')=true:=by have h:(aq (yG e) λt=>(one t.2.1).any λg=>decide (g.is_async=0)&&bh c it g.target g.iter&&fH c.N t.2.2.1 (N.map Str.ofString) cap&&iw c t.2.2.1&&dw (N.map Str.ofString)&&bJ (c.comp (N.map Str.ofString) t.2.2.1) tg g.target&&((tX cond&&g.ifs.isEmpty)||(one g.ifs).any λf=>bC (c.comp (N.map Str.ofString) t.2.2.1) cond f)&&aa (c.comp (N.map Str.ofString) t.2.2.1) elt t.1)=true:=h;obtain ⟨t,ht,h⟩:=aK h;obtain ⟨⟨tg',iter,ifs,as⟩,hg,h⟩:=aM h;exact ⟨t.1,tg',iter,ifs,as,t.2.2.1,t.2.2.2,(ht).trans (by rw[cA hg]),h⟩
theorem Uj{c:CT}{t:Tx}{e:Expr}(h:bC c (.not t) e=true):∃x p,e=.UnaryOp .Not x p/\(bC c t x)=true:=by have h:(aq (yE e) λu=>tV u.1&&bC c t u.2.1)=true:=h;obtain ⟨u,ht,h⟩:=aK h;rw[ah]at h;exact ⟨_,_,by rw[ht,Ud h.1],h.2⟩
theorem Uk{c:CT}{isAnd:Bool}{x:Tx}{es:Txs}{e:Expr}(h:bC c (.boo isAnd x es) e=true):∃op v vs p,e=.BoolOp op (v::vs) p/\(op==(if isAnd then .And else .Or)&&bC c x v&&gm c es vs)=true:=by have h:(aq (oV e) λu=>(hdT u.2.1).any λv=>u.1==(if isAnd then .And else .Or)&&bC c x v.1&&gm c es v.2)=true:=h;obtain ⟨t,ht,h⟩:=aK h;obtain ⟨v,hv,h⟩:=aM h;exact ⟨_,_,_,_,by rw[ht,yM hv],h⟩
theorem zz {c:CT} {a:Ex} {tg e:Expr} (h:bh c (.rng a) tg e=true):∃x p v pos,e=.Call (.Name x p) [v] [] pos/\(x==Str.ofString "range"&&c.glo x&&c.bt.contains "range"&&aa c a v)=true:=by have h:((bf e).any λt=>(one t.2.2.1).any λv=>t.1==Str.ofString "range"&&c.glo t.1&&c.bt.contains "range"&&aa c a v)=true:=h;obtain ⟨t,ht,h⟩:=aM h;obtain ⟨v,hv,h⟩:=aM h;exact ⟨_,_,_,_,by rw[dz ht,cA hv],h⟩
theorem zA {c:CT} {a:Ex} {tg e:Expr} (h:bh c (.enm a) tg e=true):∃ts k p0 x p v pos,tg=.Tuple ts k p0/\e=.Call (.Name x p) [v] [] pos/\(x==Str.ofString "enumerate"&&c.glo x&&c.bt.contains "enumerate"&&aa c a v)=true:=by have h:(aq (cZ tg) λ_=>(bf e).any λt=>(one t.2.2.1).any λv=>t.1==Str.ofString "enumerate"&&c.glo t.1&&c.bt.contains "enumerate"&&aa c a v)=true:=h;obtain ⟨g,hg,h⟩:=aK h;obtain ⟨t,ht,h⟩:=aM h;obtain ⟨v,hv,h⟩:=aM h;exact ⟨_,_,_,_,_,_,_,hg,by rw[dz ht,cA hv],h⟩
theorem zB {c:CT} {a:Ex} {tg e:Expr} (h:bh c (.en1 a) tg e=true):∃ts k p0 x p v w kp pos,tg=.Tuple ts k p0/\e=.Call (.Name x p) [v] [⟨some (Str.ofString "start"),w,kp⟩] pos/\(x==Str.ofString "enumerate"&&c.glo x&&c.bt.contains "enumerate"&&aa c a v&&aa c (.cst (.int 1)) w)=true:=by have h:(aq (cZ tg) λ_=>(tW e).any λt=>t.1==Str.ofString "enumerate"&&c.glo t.1&&c.bt.contains "enumerate"&&aa c a t.2.2.1&&(aq (iy t.2.2.2.1) λu=>iu (.int 1) u.1))=true:=h;obtain ⟨g,hg,h⟩:=aK h;obtain ⟨t,ht,h⟩:=aM h;exact ⟨_,_,_,_,_,_,_,_,_,hg,Ue ht,h⟩
theorem zE {c:CT} {a b:Ex} {tg e:Expr} (h:bh c (.zip a b) tg e=true):∃ts k p0 x p v v' pos,tg=.Tuple ts k p0/\e=.Call (.Name x p) [v,v'] [] pos/\(x==Str.ofString "zip"&&c.glo x&&c.bt.contains "zip"&&aa c a v&&aa c b v')=true:=by have h:(aq (cZ tg) λ_=>(bf e).any λt=>(two t.2.2.1).any λv=>t.1==Str.ofString "zip"&&c.glo t.1&&c.bt.contains "zip"&&aa c a v.1&&aa c b v.2)=true:=h;obtain ⟨g,hg,h⟩:=aK h;obtain ⟨t,ht,h⟩:=aM h;obtain ⟨v,hv,h⟩:=aM h;exact ⟨_,_,_,_,_,_,_,_,hg,by rw[dz ht,jt hv],h⟩
theorem Ul{c:CT}{x:Ex}{st:Stmt}(h:aU c (.exp x) st=true):∃e pos,st=.Expr e pos/\(!cg e&&aa c x e)=true:=by have h:(aq (jr st) λt=>!cg t.1&&aa c x t.1)=true:=h;obtain ⟨t,ht,h⟩:=aK h;exact ⟨_,_,ht,h⟩
theorem Um{c:CT}{i j:Nat}{x:Ex}{st:Stmt}(h:aU c (.star i j x) st=true):∃y py sp z pz k p e pos,st=.Assign [.Tuple [.Starred (.Name y py) sp,.Name z pz] k p] e pos/\((c.N[i]?==some y)&&c.sto y&&(c.N[j]?==some z)&&c.sto z&&aa c x e&&!jx e&&!cg e)=true:=by have h:(aq (gk st) λt=>(one t.1).any λtg=>aq (cZ tg) λu=>(two u.1).any λv=>aq (yC v.1) λw=>aq (asName w.1) λy=>aq (asName v.2) λz=>(c.N[i]?==some y.1)&&c.sto y.1&&(c.N[j]?==some z.1)&&c.sto z.1&&aa c x t.2.1&&!jx t.2.1&&!cg t.2.1)=true:=h;obtain ⟨t,ht,h⟩:=aK h;obtain ⟨tg,hg,h⟩:=aM h;obtain ⟨u,hu,h⟩:=aK h;obtain ⟨v,hv,h⟩:=aM h;obtain ⟨w,hw,h⟩:=aK h;obtain ⟨y,hy,h⟩:=aK h;obtain ⟨z,hz,h⟩:=aK h;exact ⟨_,_,_,_,_,_,_,_,_,by rw[ht,cA hg,hu,jt hv,hw,hy,hz],h⟩
theorem zF{c:CT}{g:Tg}{x:Ex}{st:Stmt}(h:aU c (.asg g x) st=true):∃tg e pos,st=.Assign [tg] e pos/\(bJ c g tg&&aa c x e&&tY g x e)=true:=by have h:(aq (gk st) λt=>(one t.1).any λtg=>bJ c g tg&&aa c x t.2.1&&tY g x t.2.1)=true:=h;obtain ⟨t,ht,h⟩:=aK h;obtain ⟨g,hg,h⟩:=aM h;exact ⟨_,_,_,by rw[ht,cA hg],h⟩
theorem Uo{c:CT}{o i x:Ex}{st:Stmt}(h:aU c (.set o i x) st=true):∃o' i' tpos e pos,st=.Assign [.Subscript o' i' tpos] e pos/\(aa c o o'&&aa c i i'&&aa c x e&&!cg e)=true:=by have h:(aq (gk st) λt=>(one t.1).any λtg=>aq (iz tg) λu=>aa c o u.1&&aa c i u.2.1&&aa c x t.2.1&&!cg t.2.1)=true:=h;obtain ⟨t,ht,h⟩:=aK h;obtain ⟨g,hg,h⟩:=aM h;obtain ⟨u,hu,h⟩:=aK h;exact ⟨_,_,_,_,_,by rw[ht,cA hg,hu],h⟩
theorem Up{c:CT}{i:Nat}{op:Operator}{x:Ex}{st:Stmt}(h:aU c (.aug i op x) st=true):∃y py o e pos,st=.AugAssign (.Name y py) o e pos/\(o==op&&(c.N[i]?==some y)&&c.sto y&&okN y&&aa c x e)=true:=by have h:(aq (yH st) λt=>aq (asName t.1) λy=>t.2.1==op&&(c.N[i]?==some y.1)&&c.sto y.1&&okN y.1&&aa c x t.2.2.1)=true:=h;obtain ⟨t,ht,h⟩:=aK h;obtain ⟨u,hu,h⟩:=aK h;exact ⟨_,_,_,_,_,by rw[ht,hu],h⟩
theorem Uq{c:CT}{x:Ex}{st:Stmt}(h:aU c (.ret x) st=true):∃e pos,st=.Return (some e) pos/\(aa c x e)=true:=by have h:(aq (oY st) λt=>t.1.any λe=>aa c x e)=true:=h;obtain ⟨t,ht,h⟩:=aK h;obtain ⟨e,he,h⟩:=aM h;exact ⟨_,_,by rw[ht,he],h⟩
theorem Ur{c:CT}{st:Stmt}(h:aU c .rtn st=true):∃pos,st=.Return none pos/\(true)=true:=by have h:(aq (oY st) λt=>t.1.isNone)=true:=h;obtain ⟨t,ht,h⟩:=aK h;rw[Option.isNone_iff_eq_none]at h;exact ⟨_,by rw[ht,h],rfl⟩
theorem Us{c:CT}{t:Tx}{a b:Sxs}{st:Stmt}(h:aU c (.ite t a b) st=true):∃t' a' b' pos,st=.If t' a' b' pos/\(bC c t t'&&aL c a a'&&aL c b b')=true:=by have h:(aq (tU st) λu=>bC c t u.1&&aL c a u.2.1&&aL c b u.2.2.1)=true:=h;obtain ⟨u,ht,h⟩:=aK h;exact ⟨_,_,_,_,ht,h⟩
theorem Ut{c:CT}{g:Tg}{it:It'}{b:Sxs}{st:Stmt}(h:aU c (.for_ g it b) st=true):∃tg iter body pos,st=.For tg iter body [] pos/\(bJ c g tg&&bh c it tg iter&&aL c b body)=true:=by have h:(aq (yI st) λt=>t.2.2.2.1.isEmpty&&(bJ c g t.1&&bh c it t.1 t.2.1&&aL c b t.2.2.1))=true:=h;obtain ⟨t,ht,h⟩:=aK h;rw[ah,List.isEmpty_iff]at h;exact ⟨_,_,_,_,by rw[ht,h.1],h.2⟩
theorem Uu{c:CT}{st:Stmt}(h:aU c .pas st=true):∃pos,st=.Pass pos/\(true)=true:=by obtain ⟨⟨t,ht⟩,_⟩:=ci.mp (show (yJ st).isSome=true from h);exact ⟨t,ht,rfl⟩
theorem Uv{c:CT}{st:Stmt}(h:aU c .brk st=true):∃pos,st=.Break pos/\(true)=true:=by obtain ⟨⟨t,ht⟩,_⟩:=ci.mp (show (yK st).isSome=true from h);exact ⟨t,ht,rfl⟩
theorem Uw{c:CT}{st:Stmt}(h:aU c .cnt st=true):∃pos,st=.Continue pos/\(true)=true:=by obtain ⟨⟨t,ht⟩,_⟩:=ci.mp (show (yL st).isSome=true from h);exact ⟨t,ht,rfl⟩
def jy:Expr->Bool
 |.Starred ..=>false
 |.Set ..=>false
 |.Slice ..=>false
 |_=>true
theorem bz{c:CT}:∀(x:Ex){e:Expr},aa c x e=true->jy e=true
 |.frz a,e,h=>bz a (show aa c a e=true from h)
 |.var _,e,h=>by obtain ⟨_,_,rfl,_⟩:=yR h;rfl
 |.cst _,e,h=>by obtain ⟨_,_,_,rfl,_⟩:=yS h;rfl
 |.glb _ _,_,h=>nomatch (show false=true from h)
 |.bin _ _ _ _,e,h=>by obtain ⟨_,_,_,_,rfl,_⟩:=yU h;rfl
 |.neg _,_,h=>nomatch (show false=true from h)
 |.cmp _ _ _,e,h=>by obtain ⟨_,_,_,_,rfl,_⟩:=yV h;rfl
 |.chn _ _ _ _ _,e,h=>by obtain ⟨_,_,_,_,_,_,rfl,_⟩:=yW h;rfl
 |.not _,_,h=>nomatch (show false=true from h)
 |.boo _ _ _,e,h=>by obtain ⟨_,_,_,_,rfl,_⟩:=yX h;rfl
 |.ife _ _ _,_,h=>nomatch (show false=true from h)
 |.tup _,e,h=>by obtain ⟨_,_,_,rfl,_⟩:=yZ h;rfl
 |.lst _ _,e,h=>by obtain ⟨_,_,rfl,_⟩:=za h;rfl
 |.idx _ _,e,h=>by obtain ⟨_,_,_,rfl,_⟩:=zb h;rfl
 |.slc _ _ _ _,e,h=>by obtain ⟨_,_,_,_,_,rfl,_⟩:=zc h;rfl
 |.rvs _ _ _,_,h=>nomatch (show false=true from h)
 |.call _ _,e,h=>by obtain ⟨_,_,_,_,rfl,_⟩:=zf h;rfl
 |.bcl _ _,e,h=>by obtain ⟨_,_,_,_,rfl,_⟩:=zg h;rfl
 |.lcl _ _ _,e,h=>by obtain ⟨_,_,_,_,rfl,_⟩:=zj h;rfl
 |.isi _ _,e,h=>by obtain ⟨_,_,_,_,_,_,rfl,_⟩:=zm h;rfl
 |.rgl _ _,_,h=>nomatch (show false=true from h)
 |.srs _ _,e,h=>by obtain ⟨_,_,_,_,_,_,_,rfl,_⟩:=zp h;rfl
 |.rgt _,_,h=>nomatch (show false=true from h)
 |.fst _,_,h=>nomatch (show false=true from h)
 |.isx _ _ _,_,h=>nomatch (show false=true from h)
 |.rpl _ _ _ _,_,h=>nomatch (show false=true from h)
 |.fld _ _ _,_,h=>nomatch (show false=true from h)
 |.mcl _ _ _ _ _,_,h=>nomatch (show false=true from h)
 |.mko _ _,_,h=>nomatch (show false=true from h)
 |.mkx _ _,e,h=>by obtain ⟨_,_,_,_,rfl,_⟩:=zq h;rfl
 |.mki _ _ _,e,h=>by obtain ⟨_,_,_,_,rfl,_⟩:=zr h;rfl
 |.xat _ _ _,e,h=>by obtain ⟨_,_,_,rfl,_⟩:=zu h;rfl
 |.pp0 _,_,h=>nomatch (show false=true from h)
 |.mth _ _ _,e,h=>by obtain ⟨_,_,_,_,_,rfl,_⟩:=zx h;rfl
 |.comp _ _ _ _ _ _ _,e,h=>by obtain ⟨_,_,_,_,_,_,_,rfl,_⟩:=zy h;rfl
 |.cm3 _ _ _ _ _ _ _ _ _,_,h=>nomatch (show false=true from h)
theorem cj{e:Expr}(h:jy e=true):noStar e=true:=by cases e <;> first |rfl |exact nomatch (show false=true from h)
theorem zG{e:Expr}(h:jy e=true)(op:CmpOp):behindInMarks op e=false:=by cases e <;> first |rfl |exact nomatch (show false=true from h)
theorem Ux{e:Expr}(h:jy e=true)(env:Env)(x:Value):foldedSetIterable e env x=pure x:=by cases e <;> first |rfl |exact nomatch (show false=true from h)
theorem Uy{e:Expr}(h:jy e=true):vO e:=by intro o i;cases e <;> first |rfl |exact nomatch (show false=true from h)
theorem Uz{e:Expr}(h:gj e=true)(env:Env)(whole:Sem Value):isTrue e env whole=(do let v <-whole;standAt e.pos;holding [v] (truthy v)):=by
 cases e with
 |UnaryOp op x p=>cases op <;> first |rfl |exact nomatch (show false=true from h)
 |_=>first |rfl |exact nomatch (show false=true from h)
def XV(K:PF)(H:Hp)(F:FZ)(x:Xn)(cv:Value)(od:Option Addr):Prop:=
 ∃C,cv=.ref C/\PySem.W.nsIn K mainGlobals (Str.ofString x.cls)=some (some (.ref C))/\
  match x.fld with
  |.non=>True
  |d=>∃a f v,od=some a/\H a=some (.xd [(f,v)])/\Rep K H F d v
def XR(K:PF)(H:Hp)(F:FZ)(x:Xn)(EX:XK):Prop:=∀cv od,XV K H F x cv od->EX cv od H
def PX(K:PF)(H:Hp)(F:FZ)(EX:XK):EK:=λx G'=>∀H' F',Ext H F H' F'->R K H' F' G'->XR K H' F' x EX
theorem el{α β γ:Type}{p q r s:α->β->γ->Prop}{C:Prop}(h:∃x y z,p x y z/\q x y z/\r x y z/\s x y z)(k:∀x y z,p x y z->q x y z->r x y z->s x y z->C):C:=by obtain ⟨x,y,z,h1,h2,h3,h4⟩:=h;exact k x y z h1 h2 h3 h4
def lift(K:PF)(n:Nat)(S:RF.Spec):Sp:=λvs H Q EX=>vs.length=n/\∃F G ds,R K H F G/\Reps K H F ds vs/\S.t ds G (PV K H F Q) (PX K H F EX)
def CV(K:PF)(mg:Str->Option Value)(C':String)(cv:V):Prop:=
 (∃a,cv=.ref a/\mg (Str.ofString C')=some (.ref a)/\wC K a=true)\/(C'="ValueError"/\cv=.ty "ValueError"/\mg (Str.ofString C')=none)
def XI(K:PF)(C C':String)(cv:V):Prop:=
 ∃c,PySem.W.nsIn K mainGlobals (Str.ofString C)=some (some (.ref c))/\gH K c=true/\PySem.W.mroIn K c (valOf cv)=some (dJ C C')/\(dJ C C'=false->(Value.ref c==valOf cv)=false)
structure Bs where
 H:Hp
 F:FZ
def zH(K:PF)(C f:String):Prop:=∃c,PySem.W.nsIn K mainGlobals (Str.ofString C)=some (some (.ref c))/\Cls K c/\Mz K c (Str.ofString f)
def MthOk(Φ:ak)(P:Program)(w:World)(K:PF)(mg:Str->Option Value)(base:Heap)(CX:CXT)(k:Nat)(f C m:String)(n:Nat):Prop:=
 ∃c fa fd ps,PySem.W.nsIn K mainGlobals (Str.ofString C)=some (some (.ref c))/\Cls K c/\Meth K c (Str.ofString m) fa/\Binds K fd ps []/\FnOk P w K mg base CX k fa fd ps (lift K n (Φ f))
def MkoOk(Φ:ak)(P:Program)(w:World)(K:PF)(mg:Str->Option Value)(base:Heap)(CX:CXT)(k:Nat)(C:String)(n:Nat):Prop:=
 ∃c fa fd ps sp j,j+1<=k/\mg (Str.ofString C)=some (.ref c)/\Mk K c fa/\Binds K fd ps []/\FnOk P w K mg base CX j fa fd ps sp/\
  ∀vs H Q E,lift K n (Φ C) vs H Q E->∀x dx,H x=none->H dx=none->dx≠x->sp (.ref x::vs) (upd (upd H dx (.own x)) x (.ins c dx [])) (λv H2=>v=.non/\Q (.ref x) H2) E
def UG(K:PF)(c:Addr)(f:String):Sp:=λvs H Q _=>∃a b l d F G,vs=[.ref a,b]/\H a=some (.ext (eY a c l none))/\¬F a/\R K H F G/\Rep K H F d b/\okA d/\
 ∀H2 F2 dx od ob l',Ext H F H2 F2->R K H2 F2 G->H2 a=some (.ext (eY a c l' none))->H2 dx=none->dx≠a->ob.cls=.ref c->ob.dict=some dx->PySem.W.notCls ob=true->Q .non (upd (upd H2 a (.frz ob (.own a))) dx (.frz od (.xd [(Str.ofString f,b)])))
def UJ(P:Program)(w:World)(K:PF)(mg:Str->Option Value)(base:Heap)(CX:CXT)(k:Nat)(C f:String):Prop:=
 ∃c fa fd ps j,j+1<=k/\mg (Str.ofString C)=some (.ref c)/\PySem.W.nsIn K mainGlobals (Str.ofString C)=some (some (.ref c))/\jc K c fa=true/\PySem.W.typeIn K (.ref fa)=some (.type "function")/\PySem.W.keepIn K (.ref c)=true/\
  (gH K c=true/\PySem.W.hasDictIn K c=true/\PySem.W.findIn K (.ref c) (Str.ofString f)=some none)/\Binds K fd ps []/\FnOk P w K mg base CX j fa fd ps (UG K c f)
def XkoX(P:Program)(w:World)(K:PF)(mg:Str->Option Value)(base:Heap)(CX:CXT)(k:Nat)(xs:List (String×Bool))(C f:String):Prop:=
 UJ P w K mg base CX k C f/\∀C' cv,xs.contains (C',false)=true->CV K mg C' cv->XI K C C' cv
structure Stat(Φ:ak)(CX:CXT)(k:Nat)(c:CT)(E:EK)(B:Bs)(X:Cx):Prop where
 N:X.N=c.N
 nd:X.N.Nodup
 calm:X.calm=true
 own:PassesOwn (model X.prog X.w) X.A X.env X.xe
 kd:X.env.kindOf=λx=>X.env.scope.names.lookup x
 vis:∀x,gh (c.kd.lookup x)=true->Vis X.env.scope x
 cel:∀x,(c.kd.lookup x=some .cell\/c.kd.lookup x=some .free)->(X.env.kindOf x=some .cell\/X.env.kindOf x=some .free)
 glo:∀x,c.kd.lookup x=some .globalImplicit->Gl X x
 sto:∀x,c.sto x=true->Loc X.env.scope x/\(X.fn x=true\/X.env.scope.names.lookup x=some .local)
 room:Room k X.A
 call:∀f n,(f,n)∈c.fs->∃fa fd ps,FnOk X.prog X.w X.K X.mg X.base CX k fa fd ps (lift X.K n (Φ f))/\PySem.W.keepIn X.K (.ref fa)=true/\Binds X.K fd ps []/\X.mg (Str.ofString f)=some (.ref fa)
 blt:∀f,f∈c.bt->X.mg (Str.ofString f)=none
 con:∀x d,(x,d)∈c.cn->∃u v,X.mg (Str.ofString x)=some u/\RelV v u/\∀H F,Rep X.K H F d v
 exc:∃EX,fW CX X EX/\Throws X EX/\∀x G' H' F',E x G'->Ext B.H B.F H' F'->R X.K H' F' G'->XR X.K H' F' x EX
 nox:∀(Y:Cx),fW CX Y λ_ _ _=>False
 xcl:∀C,c.xs.contains (C,true)=true->∃a,X.mg (Str.ofString C)=some (.ref a)/\dZ X.K a=true/\PySem.W.nsIn X.K mainGlobals (Str.ofString C)=some (some (.ref a))
 loc:∀x,c.kd.lookup x=some .local->X.env.scope.names.lookup x=some .local
 xis:∀C',c.xs.contains (C',false)=true->∃cv,CV X.K X.mg C' cv/\∀C,c.xs.contains (C,true)=true->XI X.K C C' cv
 mth:∀f C m n,(f,C,m,n)∈c.ot.ms->MthOk Φ X.prog X.w X.K X.mg X.base CX k f C m n
 mko:∀C n,(C,n)∈c.ot.ks->MkoOk Φ X.prog X.w X.K X.mg X.base CX k C n
 fld:∀C f,(C,f)∈c.ot.fl->zH X.K C f
 xko:∀C f,(C,f)∈c.ot.xk->XkoX X.prog X.w X.K X.mg X.base CX k c.xs C f
 trc:c.xs≠[]->CX=CX1 X.prog X.w/\X.stack=X.env::X.outer/\X.ex=[]
def tE(K:PF)(B:Bs)(w:aj->DH->(D->DH->Prop)->Prop):TE:=λσ H Q=>∃ρ F G,Ext B.H B.F H F/\EnvR K H F ρ σ/\R K H F G/\w ρ G (PV K H F Q)
def tB'(K:PF)(B:Bs)(w:aj->DH->(Bool->DH->Prop)->Prop):TT:=λσ H Q=>∃ρ F G,Ext B.H B.F H F/\EnvR K H F ρ σ/\R K H F G/\w ρ G (PB K H F Q)
def tL(K:PF)(B:Bs)(w:aj->DH->(List D->DH->Prop)->Prop):TA:=λσ H Q=>∃ρ F G,Ext B.H B.F H F/\EnvR K H F ρ σ/\R K H F G/\w ρ G (PLs K H F Q)
noncomputable def POp(K:PF)(H:Hp)(F:FZ)(Q:Option Int->Hp->Prop):Option Int->DH->Prop:=λb G'=>∀H' F',Ext H F H' F'->R K H' F' G'->Q b H'
def zJ(K:PF)(B:Bs)(w:aj->DH->(Option Int->DH->Prop)->Prop):TO:=λσ H Q=>∃ρ F G,Ext B.H B.F H F/\EnvR K H F ρ σ/\R K H F G/\w ρ G (POp K H F Q)
theorem peI{X:Cx}{e:Expr}{t t':TE}(h:PE X e t)(i:∀σ H Q,t' σ H Q->t σ H Q):PE X e t':=λpins s σ H Q I q=>h pins s σ H Q I (i σ H Q q)
theorem ptI{X:Cx}{e:Expr}{t t':TT}(h:PT X e t)(i:∀σ H Q,t' σ H Q->t σ H Q):PT X e t':=λpins s σ H Q I q=>h pins s σ H Q I (i σ H Q q)
theorem pwI{X:Cx}{e:Expr}{t t':TT}(h:PW X e t)(i:∀σ H Q,t' σ H Q->t σ H Q):PW X e t':=λwh pins s σ H Q I q=>h wh pins s σ H Q I (i σ H Q q)
theorem paI{X:Cx}{e:List Expr}{t t':TA}(h:PA X e t)(i:∀σ H Q,t' σ H Q->t σ H Q):PA X e t':=λpos pins s σ H Q I q=>h pos pins s σ H Q I (i σ H Q q)
section
variable {Φ:ak} {CX:CXT} {k:Nat} {c:CT} {E:EK} {B:Bs} {X:Cx}
theorem aF{K:PF}{x:Ex}{σ:L2.St}{H:Hp}{F:FZ}{G:DH}{ρ:aj}{W:D->DH->Prop}{Q:VK}(e0:Ext B.H B.F H F)(he:EnvR K H F ρ σ)(r:R K H F G)(hw:wpE Φ x E ρ G W)
  (h:∀d G1 H1 F1 v,W d G1->Ext B.H B.F H1 F1->Ext H F H1 F1->EnvR K H1 F1 ρ σ->R K H1 F1 G1->Rep K H1 F1 d v->Q v H1):tE K B (wpE Φ x E) σ H Q:=
 ⟨ρ,F,G,e0,he,r,au x (λd G1 q H1 F1 v x1 r1 rv=>h d G1 H1 F1 v q (e0.trans x1) x1 (he.ext x1) r1 rv) hw⟩
theorem bM{K:PF}{x:Exs}{σ:L2.St}{H:Hp}{F:FZ}{G:DH}{ρ:aj}{W:List D->DH->Prop}{Q:List V->Hp->Prop}(e0:Ext B.H B.F H F)(he:EnvR K H F ρ σ)(r:R K H F G)(hw:aD Φ x E ρ G W)
  (h:∀d G1 H1 F1 v,W d G1->Ext B.H B.F H1 F1->Ext H F H1 F1->EnvR K H1 F1 ρ σ->R K H1 F1 G1->Reps K H1 F1 d v->Q v H1):tL K B (aD Φ x E) σ H Q:=
 ⟨ρ,F,G,e0,he,r,bT x (λd G1 q H1 F1 v x1 r1 rv=>h d G1 H1 F1 v q (e0.trans x1) x1 (he.ext x1) r1 rv) hw⟩
theorem jz{K:PF}{x:Tx}{σ:L2.St}{H:Hp}{F:FZ}{G:DH}{ρ:aj}{W:Bool->DH->Prop}{Q:Bool->Hp->Prop}(e0:Ext B.H B.F H F)(he:EnvR K H F ρ σ)(r:R K H F G)(hw:wpT Φ x E ρ G W)
  (h:∀d G1 H1 F1,W d G1->Ext B.H B.F H1 F1->Ext H F H1 F1->EnvR K H1 F1 ρ σ->R K H1 F1 G1->Q d H1):tB' K B (wpT Φ x E) σ H Q:=
 ⟨ρ,F,G,e0,he,r,cJ x (λd G1 q H1 F1 x1 r1=>h d G1 H1 F1 q (e0.trans x1) x1 (he.ext x1) r1) hw⟩
theorem zK{K:PF}{x:Ox}{σ:L2.St}{H:Hp}{F:FZ}{G:DH}{ρ:aj}{W:Option Int->DH->Prop}{Q:Option Int->Hp->Prop}(e0:Ext B.H B.F H F)(he:EnvR K H F ρ σ)(r:R K H F G)(hw:wpO Φ x E ρ G W)
  (h:∀d G1 H1 F1,W d G1->Ext B.H B.F H1 F1->Ext H F H1 F1->EnvR K H1 F1 ρ σ->R K H1 F1 G1->Q d H1):zJ K B (wpO Φ x E) σ H Q:=
 ⟨ρ,F,G,e0,he,r,sV x (λd G1 q H1 F1 x1 r1=>h d G1 H1 F1 q (e0.trans x1) x1 (he.ext x1) r1) hw⟩
theorem PV.later{K:PF}{H H1:Hp}{F F1:FZ}{Q:VK}{d:D}{G:DH}(h:PV K H F Q d G)(x:Ext H F H1 F1):PV K H1 F1 Q d G:=λH' F' v x1=>h H' F' v (x.trans x1)
theorem PB.later{K:PF}{H H1:Hp}{F F1:FZ}{Q:Bool->Hp->Prop}{d:Bool}{G:DH}(h:PB K H F Q d G)(x:Ext H F H1 F1):PB K H1 F1 Q d G:=λH' F' x1=>h H' F' (x.trans x1)
theorem PB.now{K:PF}{H:Hp}{F:FZ}{Q:Bool->Hp->Prop}{d:Bool}{G:DH}(h:PB K H F Q d G)(r:R K H F G):Q d H:=h H F (Ext.refl H F) r
theorem iC(S:Stat Φ CX k c E B X):X.A.units+100 < cLine:=by have:=S.room.un;omega
theorem bW {x:Str} (h:okN x=true):(x==("__debug__":Str))=false:=by
 unfold okN at h;cases e:x==("__debug__":Str) with
 |false=>rfl
 |true=>rw[e]at h;simp at h
theorem UL {x:Str} (h:okN x=true):(x==("__classdict__":Str))=false:=by
 unfold okN at h;cases e:x==("__classdict__":Str) with
 |false=>rfl
 |true=>rw[e]at h;simp at h
theorem cM {x:Str} (h:okN x=true):x≠"__name__":=by unfold okN at h;intro e;rw[aE.mpr e]at h;simp at h
theorem cN{x:Str}(h:c.glo x=true):c.kd.lookup x=some .globalImplicit/\okN x=true:=by unfold CT.glo at h;rw[ah,aE]at h;exact h
theorem UT(S:Stat Φ CX k c E B X){i:Nat}{e:Expr}(h:aa c (.var i) e=true):PE X e (tE X.K B (wpE Φ (.var i) E)):=by
 replace h:=yR h;obtain ⟨x,pos,rfl,h⟩:=h
 ·rw[ah,ah,aE]at h;refine peI (Ka (i:=i) (by rw[S.N];exact h.1.1) (S.vis x h.1.2) (bW h.2) (UL h.2)) λσ H Q q=>?_;obtain ⟨ρ,F,G,_,he,r,hw⟩:=q;rw[mQ]at hw;split at hw
  ·rename_i d hd;obtain ⟨v,e1,rv⟩:=he.get hd;exact ⟨v,e1,hw.now r rv⟩
  ·exact hw.elim
theorem zL(S:Stat Φ CX k c E B X){d:D}{e:Expr}(h:aa c (.cst d) e=true):PE X e (tE X.K B (wpE Φ (.cst d) E)):=by
 replace h:=yS h;obtain ⟨kk,_,_,rfl,h⟩:=h
 ·unfold iu at h;split at h
  ·exact peI Ke λσ H Q hq=>el hq λρ F G _ he r hw=>by rw[fG]at hw;exact hw.now r rfl
  ·rw[aE]at h;subst h;exact peI Kd λσ H Q hq=>el hq λρ F G _ he r hw=>by rw[fG]at hw;exact hw.now r rfl
  ·rw[aE]at h;subst h;exact peI Kc λσ H Q hq=>el hq λρ F G _ he r hw=>by rw[fG]at hw;exact hw.now r rfl
  ·rename_i l b;rw[ah,aE,cr]at h;refine peI Kf λσ H Q hq=>el hq λρ F G _ he r hw=>?_;rw[fG]at hw;refine hw.now r ⟨?_,h.2⟩;rw[h.1,<-qu]
  ·cases h
theorem UV(S:Stat Φ CX k c E B X){x:String}{d:D}{e:Expr}(h:aa c (.glb x d) e=true):PE X e (tE X.K B (wpE Φ (.glb x d) E)):=nomatch (show false=true from h)
theorem UW(S:Stat Φ CX k c E B X){op:Operator}{fz:Bool}{a b:Ex}(iha:∀{e},aa c a e=true->PE X e (tE X.K B (wpE Φ a E)))(ihb:∀{e},aa c b e=true->PE X e (tE X.K B (wpE Φ b E))){e:Expr}
  (h:aa c (.bin op fz a b) e=true):PE X e (tE X.K B (wpE Φ (.bin op fz a b) E)):=by
 replace h:=yU h;obtain ⟨l,o,r,pos,rfl,h⟩:=h
 ·rw[ah,ah,aE]at h;obtain ⟨⟨e1,h1⟩,h2⟩:=h;subst e1;refine peI (LC (RK _ fz) (iha h1) (ihb h2)) λσ H Q hq=>el hq λρ F G e0 he r hw=>?_;rw[mR]at hw;refine aF e0 he r hw λx G1 H1 F1 v q e1 x1 he1 r1 rv=>aF e1 he1 r1 q λy G2 H2 F2 u q e2 x2 he2 r2 ru=>?_;exact ⟨F2,G2,x,y,r2,Rep.ext x2 rv,ru,xU (λd G' z=>PV.later z (x1.trans x2)) q⟩
theorem U0(S:Stat Φ CX k c E B X){a:Ex}(iha:∀{e},aa c a e=true->PE X e (tE X.K B (wpE Φ a E))){e:Expr}(h:aa c (.neg a) e=true):PE X e (tE X.K B (wpE Φ (.neg a) E)):=nomatch (show false=true from h)
theorem zM(S:Stat Φ CX k c E B X){op:CmpOp}{a b:Ex}(iha:∀{e},aa c a e=true->PE X e (tE X.K B (wpE Φ a E)))(ihb:∀{e},aa c b e=true->PE X e (tE X.K B (wpE Φ b E))){e:Expr}
  (h:aa c (.cmp op a b) e=true):PE X e (tE X.K B (wpE Φ (.cmp op a b) E))/\PT X e (tB' X.K B (wpT Φ (.val (.cmp op a b)) E)):=by
 replace h:=yV h;obtain ⟨l,o,r,pos,rfl,h⟩:=h
 ·rw[ah,ah,aE]at h;obtain ⟨⟨e1,h1⟩,h2⟩:=h;subst e1;have hm:=zG (bz b h2) o;refine ⟨peI (Mm (il _ (iC S)) (iha h1) (ihb h2) hm) λσ H Q hq=>el hq λρ F G e0 he r hw=>?_,ptI (Mp (il _ (iC S)) (iha h1) (ihb h2) hm) λσ H Q hq=>el hq λρ F G e0 he r hw=>?_⟩
  ·rw[jj]at hw;refine aF e0 he r hw λx G1 H1 F1 v q e1 x1 he1 r1 rv=>aF e1 he1 r1 q λy G2 H2 F2 u q e2 x2 he2 r2 ru=>?_;exact ⟨F2,G2,x,y,r2,Rep.ext x2 rv,ru,gb (λd z=>PV.later z (x1.trans x2)) q⟩
  ·rw[ie,jj]at hw;refine aF e0 he r hw λx G1 H1 F1 v q e1 x1 he1 r1 rv=>aF e1 he1 r1 q λy G2 H2 F2 u q e2 x2 he2 r2 ru=>?_;refine ⟨F2,G2,x,y,r2,Rep.ext x2 rv,ru,gb (λd z=>?_) q⟩;intro H' F' v' x' r' rv';have e3:v'=.bl d:=rv';exact ⟨d,e3,z H' F' ((x1.trans x2).trans x') r'⟩
theorem zN(S:Stat Φ CX k c E B X){op op':CmpOp}{a b d:Ex}(iha:∀{e},aa c a e=true->PE X e (tE X.K B (wpE Φ a E)))(ihb:∀{e},aa c b e=true->PE X e (tE X.K B (wpE Φ b E)))(ihd:∀{e},aa c d e=true->PE X e (tE X.K B (wpE Φ d E))){e:Expr}
  (h:aa c (.chn op op' a b d) e=true):PE X e (tE X.K B (wpE Φ (.chn op op' a b d) E))/\PT X e (tB' X.K B (wpT Φ (.val (.chn op op' a b d)) E)):=by
 replace h:=yW h;obtain ⟨l,o,o',m,r,pos,rfl,h⟩:=h
 ·simp only[ah,aE]at h;obtain ⟨⟨⟨⟨e1,e2⟩,h1⟩,h2⟩,h3⟩:=h;subst e1 e2;have hm:lastMarks [o,o'] [m,r]=false:=zG (bz d h3) o';have go:∀{σ H Q ρ F G}{W:Bool->DH->Prop},Ext B.H B.F H F->EnvR X.K H F ρ σ->R X.K H F G->
    wpE Φ a E ρ G (λx G1=>wpE Φ b E ρ G1 λy G2=>aP o (view G2 x) (view G2 y) λt=>match t with |true=>wpE Φ d E ρ G2 λz G3=>aP o' (view G3 y) (view G3 z) λt'=>W t' G3 |false=>W false G2)->
    (∀t G' H' F',W t G'->Ext H F H' F'->R X.K H' F' G'->Q (.bl t) H')->
    qi (rC2 X.K (aP o)) (rC2 X.K (aP o')) (tE X.K B (wpE Φ a E)) (tE X.K B (wpE Φ b E)) (tE X.K B (wpE Φ d E)) σ H Q:=by
   intro σ H Q ρ F G W e0 he r hw fin;refine aF e0 he r hw λx G1 H1 F1 v q e1 x1 he1 r1 rv=>aF e1 he1 r1 q λy G2 H2 F2 u q e2 x2 he2 r2 ru=>?_;refine ⟨F2,G2,x,y,r2,Rep.ext x2 rv,ru,gb (λt q=>?_) q⟩;intro H3 F3 v3 x3 r3 rv3;have e3:v3=.bl t:=rv3;refine ⟨t,e3,?_⟩;cases t with
   |true=>
    rw[if_pos rfl];refine aF (e2.trans x3) (he2.ext x3) r3 q λz G4 H4 F4 v4 q e4 x4 he4 r4 rv4=>?_;refine ⟨F4,G4,y,z,r4,Rep.ext (x3.trans x4) ru,rv4,gb (λt' q=>?_) q⟩;intro H5 F5 v5 x5 r5 rv5;have e5:v5=.bl t':=rv5;subst e5;exact fin _ _ _ _ q ((((x1.trans x2).trans x3).trans x4).trans x5) r5
   |false=>
    rw[if_neg bo];exact fin _ _ _ _ q ((x1.trans x2).trans x3) r3
  refine ⟨peI (Mq (il _ (iC S)) (il _ (iC S)) (iha h1) (ihb h2) (ihd h3) hm) λσ H Q hq=>el hq λρ F G e0 he r hw=>?_,ptI (Mr (il _ (iC S)) (il _ (iC S)) (iha h1) (ihb h2) (ihd h3) hm) λσ H Q hq=>el hq λρ F G e0 he r hw=>?_⟩
  ·rw[jk]at hw;exact go (W:=λt G'=>PV X.K H F Q (.bl t) G') e0 he r hw λt G' H' F' z x' r'=>z H' F' _ x' r' rfl
  ·rw[ie,jk]at hw;refine go (W:=λt G'=>PB X.K H F Q t G') e0 he r hw λt G' H' F' z x' r'=>⟨t,rfl,z H' F' x' r'⟩
end
section
variable {Φ:ak} {CX:CXT} {k:Nat} {c:CT} {E:EK} {B:Bs} {X:Cx}
abbrev OkE(Φ:ak)(c:CT)(E:EK)(B:Bs)(X:Cx)(x:Ex):Prop:=∀{e:Expr},aa c x e=true->PE X e (tE X.K B (wpE Φ x E))
abbrev dO(Φ:ak)(c:CT)(E:EK)(B:Bs)(X:Cx)(x:Exs):Prop:=∀{es:List Expr},aC c x es=true->PA X es (tL X.K B (aD Φ x E))
abbrev OkT(Φ:ak)(c:CT)(E:EK)(B:Bs)(X:Cx)(x:Tx):Prop:=∀{e:Expr},bC c x e=true->PT X e (tB' X.K B (wpT Φ x E))
theorem U3(S:Stat Φ CX k c E B X){a:Ex}(iha:OkE Φ c E B X a){e:Expr}(h:aa c (.not a) e=true):PE X e (tE X.K B (wpE Φ (.not a) E)):=nomatch (show false=true from h)
theorem oZ{es:List Expr}(h:aC c .nil es=true):PA X es (tL X.K B (aD Φ .nil E)):=by
 unfold aC at h;cases es with
 |nil=>exact paI fV λσ H Q hq=>el hq λρ F G e0 he r hw=>by rw[fB]at hw;exact hw H F [] (Ext.refl _ _) r rfl
 |cons _ _=>cases h
theorem jA{x:Ex}{xs:Exs}(ih:OkE Φ c E B X x)(ihs:dO Φ c E B X xs){es:List Expr}(h:aC c (.cons x xs) es=true):PA X es (tL X.K B (aD Φ (.cons x xs) E)):=by
 unfold aC at h;split at h
 ·rename_i e es;rw[ah]at h;refine paI (eV (ih h.1) (ihs h.2) (bF e es X.env (cj (bz x h.1)))) λσ H Q hq=>el hq λρ F G e0 he r hw=>?_;rw[eF]at hw;refine aF e0 he r hw λd G1 H1 F1 v q e1 x1 he1 r1 rv=>bM e1 he1 r1 q λds G2 H2 F2 vs q e2 x2 he2 r2 rvs=>?_;exact q H2 F2 _ (x1.trans x2) r2 ⟨v,vs,rfl,Rep.ext x2 rv,rvs⟩
 ·cases h
theorem U4(S:Stat Φ CX k c E B X){es:Exs}(ih:dO Φ c E B X es){e:Expr}(h:aa c (.tup es) e=true):PE X e (tE X.K B (wpE Φ (.tup es) E)):=by
 replace h:=yZ h;obtain ⟨_,_,_,rfl,h⟩:=h
 ·refine peI (M5 (ih h)) λσ H Q hq=>el hq λρ F G e0 he r hw=>?_;rw[mV]at hw;refine bM e0 he r hw λds G1 H1 F1 vs q e1 x1 he1 r1 rvs=>⟨by rw[<-rvs.length];exact bU q.1,jl (PV.later q.2 x1) r1 rvs⟩
theorem U5(S:Stat Φ CX k c E B X){fz:Bool}{es:Exs}(ih:dO Φ c E B X es){e:Expr}(h:aa c (.lst fz es) e=true):PE X e (tE X.K B (wpE Φ (.lst fz es) E)):=by
 replace h:=za h;obtain ⟨_,_,rfl,h⟩:=h
 ·refine peI (M6 (ih h)) λσ H Q hq=>el hq λρ F G e0 he r hw=>?_;rw[mW]at hw;refine bM e0 he r hw λds G1 H1 F1 vs q e1 x1 he1 r1 rvs=>⟨by rw[<-rvs.length];exact bU q.1,cY (b8 (λd G' z=>PV.later z x1) q.2) r1 rvs⟩
theorem U6(S:Stat Φ CX k c E B X){a i:Ex}(iha:OkE Φ c E B X a)(ihi:OkE Φ c E B X i){e:Expr}(h:aa c (.idx a i) e=true):PE X e (tE X.K B (wpE Φ (.idx a i) E)):=by
 replace h:=zb h;obtain ⟨_,_,_,rfl,h⟩:=h
 ·rw[ah]at h;refine peI (Nz RV (iha h.1) (ihi h.2) (Uy (bz i h.2))) λσ H Q hq=>el hq λρ F G e0 he r hw=>?_;rw[mX]at hw;refine aF e0 he r hw λx G1 H1 F1 v q e1 x1 he1 r1 rv=>aF e1 he1 r1 q λy G2 H2 F2 u q e2 x2 he2 r2 ru=>?_;exact ⟨F2,G2,x,y,r2,Rep.ext x2 rv,ru,nZ (λd z=>PV.later z (x1.trans x2)) q⟩
theorem zO{lo:Ox}(ih:∀x,lo=.ob x->OkE Φ c E B X x){l:Option Expr}(h:eH c lo l=true):PO X l (zJ X.K B (wpO Φ lo E)):=by
 cases lo with
 |no=>
  unfold eH at h;cases l with
  |none=>
   intro pins s σ H Q I q;refine Nq pins s σ H Q I ?_;obtain ⟨ρ,F,G,e0,he,r,hw⟩:=q;rw[mG]at hw;exact hw H F (Ext.refl _ _) r
  |some _=>cases h
 |ob x=>
  unfold eH at h;split at h
  ·intro pins s σ H Q I q;refine Nr (ih x rfl h) pins s σ H Q I ?_;obtain ⟨ρ,F,G,e0,he,r,hw⟩:=q;rw[mH]at hw;refine aF e0 he r hw λd G1 H1 F1 v q e1 x1 he1 r1 rv=>?_;split at q
   ·have e2:v=.int _:=rv;exact ⟨_,e2,q H1 F1 x1 r1⟩
   ·exact q.elim
  ·cases h
theorem U7(S:Stat Φ CX k c E B X){fz:Bool}{a:Ex}{lo hi:Ox}(iha:OkE Φ c E B X a)(ihl:∀x,lo=.ob x->OkE Φ c E B X x)(ihh:∀x,hi=.ob x->OkE Φ c E B X x){e:Expr}(h:aa c (.slc fz a lo hi) e=true):
  PE X e (tE X.K B (wpE Φ (.slc fz a lo hi) E)):=by
 replace h:=zc h;obtain ⟨_,_,_,_,_,rfl,h⟩:=h
 ·rw[ah,ah]at h;refine peI (Nt (R4 fz) (iha h.1.1) (zO ihl h.1.2) (zO ihh h.2)) λσ H Q hq=>el hq λρ F G e0 he r hw=>?_;rw[mY]at hw;refine aF e0 he r hw λx G1 H1 F1 v q e1 x1 he1 r1 rv=>zK e1 he1 r1 q λl G2 H2 F2 q e2 x2 he2 r2=>zK e2 he2 r2 q λu G3 H3 F3 q e3 x3 he3 r3=>?_;exact ⟨F3,G3,x,r3,Rep.ext (x2.trans x3) rv,xW (λd G' z=>PV.later z ((x1.trans x2).trans x3)) q⟩
theorem U8(S:Stat Φ CX k c E B X){fz:Bool}{a s:Ex}(iha:OkE Φ c E B X a)(ihs:OkE Φ c E B X s){e:Expr}(h:aa c (.rvs fz a s) e=true):PE X e (tE X.K B (wpE Φ (.rvs fz a s) E)):=nomatch (show false=true from h)
theorem U9(S:Stat Φ CX k c E B X){a:Ex}(iha:OkE Φ c E B X a){e:Expr}(h:aa c (.frz a) e=true):PE X e (tE X.K B (wpE Φ (.frz a) E)):=by
 have h:aa c a e=true:=h;refine peI (iha h) λσ H Q hq=>el hq λρ F G e0 he r hw=>?_;rw[nA]at hw;refine aF e0 he r hw λx G1 H1 F1 v q e1 x1 he1 r1 rv=>?_;split at q
 ·rename_i p;have e2:v=.ref p:=rv;subst e2;split at q
  ·rename_i ds hg;exact q _ _ _ (x1.trans qM) (r1.frz hg) (Ru r1 hg)
  ·exact q.elim
 ·exact q _ _ _ x1 r1 rv
theorem o5{es:List Expr}{xs:Exs}(h:aC c xs es=true)(env:Env)(pos:Pos):(backTo pos (starEach es env)).any (·.1)=false:=by
 induction es generalizing xs with
 |nil=>rfl
 |cons e es ih=>
  cases xs with
  |nil=>unfold aC at h;cases h
  |cons x xs=>
   unfold aC at h;rw[ah]at h;rw[bF e es env (cj (bz x h.1))];show (false||(backTo pos (starEach es env)).any (·.1))=false;rw[ih h.2];rfl
theorem jB{e:Expr}{es:List Expr}{xs:Exs}(h:aC c xs (e::es)=true):∃x xs',xs=.cons x xs'/\aa c x e=true/\aC c xs' es=true:=by
 cases xs with
 |nil=>unfold aC at h;cases h
 |cons x xs'=>
  unfold aC at h;rw[ah]at h;exact ⟨x,xs',rfl,h.1,h.2⟩
theorem zP{ρ:aj}:∀(xs:Exs){es:List Expr}{G:DH}{Q:List D->DH->Prop},aC c xs es=true->aD Φ xs E ρ G Q->aD Φ xs E ρ G (λds G'=>ds.length=es.length/\Q ds G')
 |.nil,es,G,Q,h,q=>by
  unfold aC at h;rw[fB]at q ⊢;cases es with
  |nil=>exact ⟨rfl,q⟩
  |cons _ _=>cases h
 |.cons x xs,es,G,Q,h,q=>by
  unfold aC at h;split at h
  ·rename_i e es;rw[ah]at h;rw[eF]at q ⊢;refine au x (λd G1 q=>bT xs (λds G2 z=>?_) (zP xs h.2 q)) q;exact ⟨by simp[z.1],z.2⟩
  ·cases h
theorem Va(S:Stat Φ CX k c E B X){f:String}{xs:Exs}(ih:dO Φ c E B X xs){e:Expr}(h:aa c (.call f xs) e=true):PE X e (tE X.K B (wpE Φ (.call f xs) E)):=by
 replace h:=zf h;obtain ⟨x,p,args,pos,rfl,h⟩:=h
 ·simp only[ah,aE,List.any_eq_true]at h;obtain ⟨⟨⟨⟨e1,h1⟩,⟨f',n⟩,hm,e2,e3⟩,h2⟩,h3⟩:=h;simp only at e2 e3;subst e1 e2 e3;obtain ⟨g1,g2⟩:=cN h1;obtain ⟨fa,fd,ps,F0,hk,hb,hmg⟩:=S.call _ _ hm;obtain ⟨EX,hpass,_,hEX⟩:=S.exc;cases args with
  |nil=>cases h2
  |cons e es=>
   obtain ⟨x0,xs',rfl,c1,c2⟩:=jB h3;refine peI (M9 F0 S.room (S.glo _ g1) hmg hk hb .nil hpass (ih h3) (bW g2) (bF e es X.env (cj (bz x0 c1))) (o5 c2 X.env pos)) λσ H Q hq=>el hq λρ F G e0 he r hw=>?_;rw[mZ]at hw;refine bM e0 he r (zP _ h3 hw) λds G1 H1 F1 vs q e1 x1 he1 r1 rvs=>?_;rw[fe];refine ⟨by rw[<-rvs.length];exact q.1,F1,G1,ds,r1,rvs,Spec.mono q.2 (λd G' z=>PV.later z x1) λx G' z H' F' x' r'=>?_⟩;exact hEX x G' H' F' z (e1.trans x') r'
theorem Vb(S:Stat Φ CX k c E B X){f:Bf}{xs:Exs}(ih:dO Φ c E B X xs){e:Expr}(h:aa c (.bcl f xs) e=true):PE X e (tE X.K B (wpE Φ (.bcl f xs) E)):=by
 replace h:=zg h;obtain ⟨x,p,args,pos,rfl,h⟩:=h
 ·simp only[ah,aE]at h;obtain ⟨⟨⟨⟨⟨e1,hok⟩,h1⟩,hm⟩,h2⟩,h3⟩:=h;subst e1;obtain ⟨g1,g2⟩:=cN h1;have hmg:=S.blt _ (bg.mp hm);cases args with
  |nil=>cases h2
  |cons e es=>
   obtain ⟨x0,xs',rfl,c1,c2⟩:=jB h3;have hs:=bF e es X.env (cj (bz x0 c1));have ha:=o5 c2 X.env pos;have go:∀σ H Q,tE X.K B (wpE Φ (.bcl f (.cons x0 xs')) E) σ H Q->tCB (ir X.K f) (tL X.K B (aD Φ (.cons x0 xs') E)) σ H Q:=λσ H Q hq=>el hq λρ F G e0 he r hw=>by
    rw[m5]at hw;refine bM e0 he r hw λds G1 H1 F1 vs q e1 x1 he1 r1 rvs=>?_;exact ⟨F1,G1,ds,r1,rvs,xX (λd z=>PV.later z x1) q⟩
   cases f with
   |len=>exact peI (lB R6 (S.glo _ g1) hmg PySem.boot_len (ih h3) (cM g2) (bW g2) hs ha) go
   |all=>exact peI (lB (R7 S.calm) (S.glo _ g1) hmg O6 (ih h3) (cM g2) (bW g2) hs ha) go
   |int=>exact peI (iV R8 (S.glo _ g1) hmg wj (ih h3) (cM g2) (bW g2) hs ha) go
   |tuple=>exact peI (iV R9 (S.glo _ g1) hmg (by ac_rfl) (ih h3) (cM g2) (bW g2) hs ha) go
   |sum=>cases hok
   |min=>cases hok
   |max=>cases hok
   |abs=>cases hok
   |min2=>cases hok
   |str=>exact peI (iV SM (S.glo _ g1) hmg wk (ih h3) (cM g2) (bW g2) hs ha) go
theorem Vc(S:Stat Φ CX k c E B X){fz:Bool}{f:Lf}{xs:Exs}(ih:dO Φ c E B X xs){e:Expr}(h:aa c (.lcl fz f xs) e=true):PE X e (tE X.K B (wpE Φ (.lcl fz f xs) E)):=by
 replace h:=zj h;obtain ⟨x,p,args,pos,rfl,h⟩:=h
 ·simp only[ah,aE]at h;obtain ⟨⟨⟨⟨⟨e1,hok⟩,h1⟩,hm⟩,h2⟩,h3⟩:=h;subst e1;obtain ⟨g1,g2⟩:=cN h1;have hmg:=S.blt _ (bg.mp hm);cases args with
  |nil=>cases h2
  |cons e es=>
   obtain ⟨x0,xs',rfl,c1,c2⟩:=jB h3;have hs:=bF e es X.env (cj (bz x0 c1));have ha:=o5 c2 X.env pos;have go:∀σ H Q,tE X.K B (wpE Φ (.lcl fz f (.cons x0 xs')) E) σ H Q->tCB (yl X.K fz f) (tL X.K B (aD Φ (.cons x0 xs') E)) σ H Q:=λσ H Q hq=>el hq λρ F G e0 he r hw=>by
    rw[m7]at hw;refine bM e0 he r hw λds G1 H1 F1 vs q e1 x1 he1 r1 rvs=>?_;exact ⟨F1,G1,ds,r1,rvs,xY (λd z=>b8 (λd G' z=>PV.later z x1) z) q⟩
   cases f with
   |list=>exact peI (iV (Sh S.calm fz) (S.glo _ g1) hmg wu (ih h3) (cM g2) (bW g2) hs ha) go
   |sorted=>cases hok
theorem Vd:bootBuiltins "set"=some (.type "set"):=by ac_rfl
theorem Ve(S:Stat Φ CX k c E B X){fz:Bool}{a:Ex}(iha:OkE Φ c E B X a){e:Expr}(h:aa c (.srs fz a) e=true):PE X e (tE X.K B (wpE Φ (.srs fz a) E)):=by
 obtain ⟨x,p,x',p',e2,pos',pos,rfl,h'⟩:=zp h;simp only[ah,aE]at h';obtain ⟨⟨⟨⟨⟨⟨e1,h1⟩,hm⟩,e3⟩,h2⟩,hr⟩,h3⟩:=h';subst e1 e3;obtain ⟨g1,g2⟩:=cN h1;obtain ⟨g1',g2'⟩:=cN h2;have hmg:=S.blt _ (bg.mp hm);have hmr:=S.blt _ (bg.mp hr);have hs:=bF e2 [] X.env (cj (bz a h3));refine peI (lB (SJ S.calm) (S.glo _ g1) hmg Sq (eV (iV (Sw S.calm) (S.glo _ g1') hmr Vd (eV (iha h3) fV hs) (cM g2') (bW g2') hs rfl) fV rfl) (cM g2) (bW g2) rfl rfl) λσ H Q hq=>el hq λρ F G e0 he r hw=>?_;rw[m9]at hw;refine aF e0 he r hw λd G1 H1 F1 v q e1 x1 he1 r1 rv=>?_;unfold fu at q;split at q
 ·rename_i ds ev;obtain ⟨p,vs,e,sq,t'⟩:=Rep.list r1 rv ev;subst e;split at q
  ·rename_i ls hb;have e2:=tM hb t';have hsz:=yt hb t';subst e2;obtain ⟨⟨hz,h64⟩,q⟩:=q;refine ⟨p,ls,rfl,sq,hz,λl hl=>⟨l,bI ls,rfl,bZ,h64,λls' pm so l2 hl2=>?_⟩⟩;have xn:=cu (o:=jo X l (bI ls)) r1 hl;refine cY (b8 (λd G' z=>PV.later z (x1.trans xn)) (q ls' pm so)) (r1.new hl) (yr λy hy=>?_) l2 hl2;exact hsz y (yq _ (pm.mem_iff.mp hy))
  ·exact q.elim
 ·exact q.elim
theorem Vf(S:Stat Φ CX k c E B X){fz:Bool}{a:Ex}(iha:OkE Φ c E B X a){e:Expr}(h:aa c (.rgl fz a) e=true):PE X e (tE X.K B (wpE Φ (.rgl fz a) E)):=nomatch (show false=true from h)
theorem Vg(S:Stat Φ CX k c E B X){a:Ex}(iha:OkE Φ c E B X a){e:Expr}(h:aa c (.rgt a) e=true):PE X e (tE X.K B (wpE Φ (.rgt a) E)):=nomatch (show false=true from h)
theorem Vh{t:String}(h:d9 t=true):bootBuiltins (Str.ofString t)=some (.type t):=by
 simp only[d9,cq,aE]at h;rcases h with (((rfl |rfl) |rfl) |rfl) |rfl
 ·exact O1
 ·exact wj
 ·exact wk
 ·ac_rfl
 ·exact wu
theorem Vi(S:Stat Φ CX k c E B X){a:Ex}{t:String}(iha:OkE Φ c E B X a){e:Expr}(h:aa c (.isi a t) e=true):PE X e (tE X.K B (wpE Φ (.isi a t) E)):=by
 replace h:=zm h;obtain ⟨x,p,v,y,p2,pos,rfl,h⟩:=h
 ·simp only[ah,aE]at h;obtain ⟨⟨⟨⟨⟨⟨⟨e1,h1⟩,hm1⟩,h2⟩,e2⟩,h3⟩,hm2⟩,h4⟩:=h;subst e1 e2;obtain ⟨g1,g2⟩:=cN h1;obtain ⟨g3,g4⟩:=cN h3;have hmg:=S.blt _ (bg.mp hm1);have hmt:=S.blt _ (bg.mp hm2);have hty:PE X (.Name (Str.ofString t) p2) (tC (.ty t)):=O3 (S.glo _ g3) hmt (Vh h4) (cM g4) (bW g4);have sv:=cj (bz a h2);refine peI (lB OJ (S.glo _ g1) hmg O2 (eV (iha h2) (eV hty fV (bF _ _ _ rfl)) (bF _ _ _ sv)) (cM g2) (bW g2) (bF _ _ _ sv) rfl) λσ H Q hq=>el hq λρ F G e0 he r hw=>?_;rw[m8]at hw;refine aF e0 he r hw λd G1 H1 F1 v q e1 x1 he1 r1 rv=>?_;split at q
  ·rename_i b hb;obtain ⟨T,hk,hT,hb'⟩:=S5 hb;refine ⟨v,t,.type T,b,rfl,SN r1 rv hk,?_,q _ _ _ x1 r1 rfl⟩;rw[SX T t hT h4,hb' h4]
  ·exact q.elim
theorem Vj(S:Stat Φ CX k c E B X){a:Ex}{C:String}{xs:List String}(iha:OkE Φ c E B X a){e:Expr}(h:aa c (.isx a C xs) e=true):PE X e (tE X.K B (wpE Φ (.isx a C xs) E)):=nomatch (show false=true from h)
theorem Vk{v:Expr}(h:(!oU v)=true)(name:Str)(env:Env):attributeBase v name env (eval v env)=eval v env:=by
 cases v with
 |Call f args kw pos=>
  cases f with
  |Name id p=>
   cases args with
   |nil=>
    cases kw with
    |nil=>cases h
    |cons _ _=>rfl
   |cons _ _=>rfl
  |_=>rfl
 |_=>rfl
theorem all_plain{es:List Expr}{xs:Exs}(h:aC c xs es=true)(env:Env)(pos:Pos):(backTo pos (starEach es env)).all (λx=>!x.1)=true:=by
 induction es generalizing xs with
 |nil=>rfl
 |cons e es ih=>
  obtain ⟨x0,xs',rfl,c1,c2⟩:=jB h;rw[bF e es env (cj (bz x0 c1))];show (!false&&(backTo pos (starEach es env)).all (λx=>!x.1))=true;rw[ih c2];rfl
theorem Vl(S:Stat Φ CX k c E B X){f:String}{a b ix:Ex}(iha:OkE Φ c E B X a)(ihb:OkE Φ c E B X b)(ihx:OkE Φ c E B X ix){e:Expr}(h:aa c (.rpl f a b ix) e=true):PE X e (tE X.K B (wpE Φ (.rpl f a b ix) E)):=nomatch (show false=true from h)
theorem Vm(S:Stat Φ CX k c E B X){C f:String}{o:Ex}(iho:OkE Φ c E B X o){e:Expr}(h:aa c (.fld C f o) e=true):PE X e (tE X.K B (wpE Φ (.fld C f o) E)):=nomatch (show false=true from h)
theorem Vn(S:Stat Φ CX k c E B X){f C m:String}{o:Ex}{xs:Exs}(iho:OkE Φ c E B X o)(ih:dO Φ c E B X xs){e:Expr}(h:aa c (.mcl f C m o xs) e=true):PE X e (tE X.K B (wpE Φ (.mcl f C m o xs) E)):=nomatch (show false=true from h)
theorem Vo(S:Stat Φ CX k c E B X){C:String}{xs:Exs}(ih:dO Φ c E B X xs){e:Expr}(h:aa c (.mko C xs) e=true):PE X e (tE X.K B (wpE Φ (.mko C xs) E)):=nomatch (show false=true from h)
theorem Vp{K:PF}{C:Addr}(b:dZ K C=true):PySem.W.keepIn K (.ref C)=true:=by
 unfold dZ at b;split at b
 ·rename_i ty dd cd k0 k1 k2 k3 k k5 e;simp only[ah]at b;have e1:ty=.type "type":=by
   have b1:=b.1.1.1.1;unfold iZ at b1;split at b1
   ·rw[aE]at b1;rw[b1]
   ·cases b1
  subst e1;unfold PySem.W.keepIn;simp only[e];have e2:PySem.W.typeIn K (.ref C)=some (.type "type"):=by show (K.lookup C).map (·.cls)=_;rw[e];rfl
  have e3:PySem.W.findIn K (.type "type") "__call__"=some (some (.builtin "type.__call__")):=(by ac_rfl:PySem.W.findIn [] (.type "type") "__call__"=some (some (.builtin "type.__call__")));unfold PySem.W.specialIn;rw[e2];simp only[Option.bind_some,e3,BEq.rfl]
 ·cases b
theorem one_le:1<=sizeLine:=by rw[er];decide
theorem Vq(S:Stat Φ CX k c E B X){C:String}{a:Ex}(iha:OkE Φ c E B X a){e:Expr}(h:aa c (.mkx C a) e=true):PE X e (tE X.K B (wpE Φ (.mkx C a) E)):=by obtain ⟨x,p,v,pos,rfl,hh⟩:=zq h;simp only[ah,aE]at hh;obtain ⟨⟨⟨ex,hg⟩,hx⟩,ha⟩:=hh;subst ex;obtain ⟨g1,g2⟩:=cN hg;obtain ⟨c0,hm,hb,hn⟩:=S.xcl C hx;have hex:=(S.trc (by intro z;rw[z]at hx;cases hx)).2.2;have sv:=cj (bz a ha);refine peI (QF hex (S.glo _ g1) hm hb (Vp hb) (eV (iha ha) fV (bF _ _ _ sv)) (bW g2) (bF _ _ _ sv) rfl) λσ H Q hq=>el hq λρ F G e0 he r hw=>?_;rw[ni]at hw;refine aF e0 he r hw λd G1 H1 F1 v q e1 x1 he1 r1 rv=>⟨one_le,λa o hn0 hc=>?_⟩;exact q _ F1 _ (x1.trans (cu r1 hn0)) (r1.new hn0) ⟨a,c0,rfl,⟨o,a,bZ,hc⟩,hn⟩
theorem Vr(S:Stat Φ CX k c E B X){C f:String}{a:Ex}(iha:OkE Φ c E B X a){e:Expr}(h:aa c (.mki C f a) e=true):PE X e (tE X.K B (wpE Φ (.mki C f a) E)):=by
 obtain ⟨x,p,v,pos,rfl,hh⟩:=zr h;simp only[ah,aE]at hh;obtain ⟨⟨⟨ex,hg⟩,hx⟩,ha⟩:=hh;subst ex;obtain ⟨g1,g2⟩:=cN hg;obtain ⟨⟨c0,fa,fd,ps,j,hj,hm,hn,hcl,hfn,hk,hxi,hb,F0⟩,_⟩:=S.xko C f (bg.mp hx);have sv:=cj (bz a ha);refine peI (QV hcl hfn hk F0 (S.room.mono hj) (S.glo _ g1) hm hb (S.nox X) (eV (iha ha) fV (bF _ _ _ sv)) (bW g2) (bF _ _ _ sv) rfl) λσ H Q hq=>el hq λρ F G e0 he r hw=>?_;rw[nq]at hw;refine aF e0 he r hw λd G1 H1 F1 v q e1 x1 he1 r1 rv=>⟨one_le,λa l hn0=>?_⟩;obtain ⟨qa,q⟩:=q;have x2:=cu (o:=.ext (eY a c0 l none)) r1 hn0;have r2:=r1.new (o:=.ext (eY a c0 l none)) hn0;refine ⟨a,v,l,d,F1,G1,rfl,bZ,r1.notF hn0,r2,rv.ext x2,qa,λH2 F2 dx od ob l' x3 r3 h2 hdx hne hc hd hnc=>⟨rfl,?_⟩⟩;have x23:=x2.trans x3;have hdx':(upd H2 a (.frz ob (.own a))) dx=none:=by rw[az hne];exact hdx
 have r4:=r3.setX (ho:=.frz ob (.own a)) h2;have r5:=r4.new (o:=.frz od (.xd [(Str.ofString f,v)])) hdx';have x5:Ext H1 F1 (upd (upd H2 a (.frz ob (.own a))) dx (.frz od (.xd [(Str.ofString f,v)]))) F2:=by
  refine ⟨λb hb=>x23.sub b hb,λb hb=>?_,λb ys hb=>?_,λb o u hb=>?_⟩
  ·rw[az λe=>?_,az λe=>?_]
   ·exact x23.keep b hb
   ·subst e;exact r1.notF hn0 hb
   ·subst e;have z:=x23.keep b hb;rw[hdx]at z;exact r1.notF z.symm hb
  ·have z:=x23.tups b ys hb;rw[az (aQ z hdx),az (dF z h2 (by intro w;cases w))];exact z
  ·have z:=x23.frzs b o u hb;rw[az (aQ z hdx),az (dF z h2 (by intro w;cases w))];exact z
 exact q _ F2 _ (x1.trans x5) r5 ⟨a,c0,dx,ob,od,a,v,rfl,⟨by rw[az (Ne.symm hne),bZ],hc,hd,hnc⟩,bZ,(((rv.ext x2).ext x3).setX h2).ext (cu r4 hdx'),hn⟩
theorem Vs(S:Stat Φ CX k c E B X){C f:String}{a:Ex}(iha:OkE Φ c E B X a){e:Expr}(h:aa c (.xat C f a) e=true):PE X e (tE X.K B (wpE Φ (.xat C f a) E)):=by
 obtain ⟨v,n,pos,rfl,hns,hh⟩:=zu h;simp only[ah,aE]at hh;obtain ⟨⟨en,hx⟩,ha⟩:=hh;subst en;obtain ⟨⟨c0,fa,fd,ps,j,hj,hm,hn,hcl,hfn,hk,⟨hx1,hx2,hx3⟩,hb,F0⟩,_⟩:=S.xko C f (bg.mp hx);refine peI (QW (iha ha) (T9 hns _ _)) λσ H Q hq=>el hq λρ F G e0 he r hw=>?_;rw[nu]at hw;refine aF e0 he r hw λd G1 H1 F1 v q e1 x1 he1 r1 rv=>?_;unfold g8 at q;split at q
 ·rename_i C1 g1 d1;obtain ⟨rfl,rfl,q⟩:=q;obtain ⟨a,c1,dx,ob,od,y,u,e2,⟨q1,q2,q3,q4⟩,qd,ru,hn1⟩:=rv;have ec:c1=c0:=by rw[hn]at hn1;cases hn1;rfl
  subst ec;exact ⟨a,c1,dx,ob,od,.own y,u,e2,q1,q2,q3,q4,qd,hx1,hx2,hx3,q _ _ _ x1 r1 ru⟩
 ·exact q.elim
theorem Vt(S:Stat Φ CX k c E B X){o:Ex}(iho:OkE Φ c E B X o){e:Expr}(h:aa c (.pp0 o) e=true):PE X e (tE X.K B (wpE Φ (.pp0 o) E)):=nomatch (show false=true from h)
theorem Vu(S:Stat Φ CX k c E B X){m:Mf}{o:Ex}{xs:Exs}(iho:OkE Φ c E B X o)(ih:dO Φ c E B X xs){e:Expr}(h:aa c (.mth m o xs) e=true):PE X e (tE X.K B (wpE Φ (.mth m o xs) E)):=by
 replace h:=zx h;obtain ⟨v,x,apos,args,cpos,rfl,h⟩:=h
 ·simp only[ah,aE,cr]at h;obtain ⟨⟨⟨⟨⟨⟨e1,h1⟩,hb⟩,hl⟩,hn⟩,h2⟩,h3⟩:=h;subst e1;cases args with
  |nil=>cases h2
  |cons e es=>
   obtain ⟨x0,xs',rfl,c1,c2⟩:=jB h3;have hs:=bF e es X.env (cj (bz x0 c1));have ha:=o5 c2 X.env cpos;have hbase:=Vk hb (Str.ofString m.name) X.env;have hfew:((backTo cpos (starEach (e::es) X.env)).all (λx=>!x.1)&&(backToKw cpos (keywordEach [] X.env)).all (λx=>x.1.isSome)
    &&decide ((e::es).length+([]:List Keyword).length+(if ([]:List Keyword).isEmpty then 0 else 1) < 30))=true:=by
    rw[all_plain h3 X.env cpos];have:(e::es).length+([]:List Keyword).length+(if ([]:List Keyword).isEmpty then 0 else 1) < 30:=by have e0:(if ([]:List Keyword).isEmpty=true then 0 else 1)=0:=rfl;rw[e0];show (e::es).length+0+0 < 30;omega
    rw[eP this];rfl
   have hline:(apos.endLine==cpos.line)=true:=by rw[aE];exact hl
   have lst:∀{d:D} {u:V} {G1:DH} {H1:Hp} {F1:FZ},(match d with |.ref p=>(match G1 p with |some (.lst _)=>True |none=>False) |_=>False)->R X.K H1 F1 G1->Rep X.K H1 F1 d u->tyV X.K "list" u H1:=λ{d u G1 H1 F1} q r1 ru=>by
    split at q
    ·rename_i p;split at q
     ·rename_i ds hg;obtain ⟨vs,hv,_⟩:=r1.lst hg;have e2:u=.ref p:=ru;subst e2;exact .inl ⟨rfl,vs,SqL.of hv⟩
     ·exact q.elim
    ·exact q.elim
   have lstV:∀{d:D} {u:V} {G1:DH} {H1:Hp} {F1:FZ},qY (view G1 d)->R X.K H1 F1 G1->Rep X.K H1 F1 d u->tyV X.K "list" u H1:=λ{d u G1 H1 F1} q r1 ru=>by
    generalize hv:view G1 d=w at q;cases w with
    |lst ds=>
     obtain ⟨a,vs,rfl,sq,_⟩:=Rep.list r1 ru hv;exact .inl ⟨rfl,vs,sq⟩
    |_=>exact (show False from q).elim
   cases m with
   |join=>
    refine peI (dY PySem.F.plainAttrs_str PySem.F.slot_str_join PySem.F.type_str_join S6 (iho h1) (ih h3) hbase hfew hline hs ha) λσ H Q hq=>el hq λρ F G e0 he r hw=>?_;rw[cX]at hw;refine aF e0 he r hw λd G1 H1 F1 u q e1 x1 he1 r1 ru=>⟨?_,bM e1 he1 r1 q.2 λds G2 H2 F2 vs q e2 x2 he2 r2 rvs=>?_⟩
    ·have q1:=q.1;cases d with
     |str l=>obtain ⟨e2,_⟩:=ru;subst e2;exact rfl
     |_=>exact (show False from q1).elim
    ·exact ⟨F2,G2,d,ds,r2,Rep.ext x2 ru,rvs,dM (λd G' z=>PV.later z (x1.trans x2)) q⟩
   |find=>
    refine peI (dY PySem.F.plainAttrs_str PySem.F.slot_str_find PySem.F.type_str_find m_find (iho h1) (ih h3) hbase hfew hline hs ha) λσ H Q hq=>el hq λρ F G e0 he r hw=>?_;rw[cX]at hw;refine aF e0 he r hw λd G1 H1 F1 u q e1 x1 he1 r1 ru=>⟨?_,bM e1 he1 r1 q.2 λds G2 H2 F2 vs q e2 x2 he2 r2 rvs=>?_⟩
    ·have q1:=q.1;cases d with
     |str l=>obtain ⟨e2,_⟩:=ru;subst e2;exact rfl
     |_=>exact (show False from q1).elim
    ·exact ⟨F2,G2,d,ds,r2,Rep.ext x2 ru,rvs,dM (λd G' z=>PV.later z (x1.trans x2)) q⟩
   |split=>
    refine peI (dY PySem.F.plainAttrs_str PySem.F.slot_str_split PySem.F.type_str_split m_split (iho h1) (ih h3) hbase hfew hline hs ha) λσ H Q hq=>el hq λρ F G e0 he r hw=>?_;rw[cX]at hw;refine aF e0 he r hw λd G1 H1 F1 u q e1 x1 he1 r1 ru=>⟨?_,bM e1 he1 r1 q.2 λds G2 H2 F2 vs q e2 x2 he2 r2 rvs=>?_⟩
    ·have q1:=q.1;cases d with
     |str l=>obtain ⟨e2,_⟩:=ru;subst e2;exact rfl
     |_=>exact (show False from q1).elim
    ·exact ⟨F2,G2,d,ds,r2,Rep.ext x2 ru,rvs,dM (λd G' z=>PV.later z (x1.trans x2)) q⟩
   |append=>
    refine peI (dY dS PySem.F.slot_list_append PySem.F.type_list_append S8 (iho h1) (ih h3) hbase hfew hline hs ha) λσ H Q hq=>el hq λρ F G e0 he r hw=>?_;rw[cX]at hw;refine aF e0 he r hw λd G1 H1 F1 u q e1 x1 he1 r1 ru=>⟨?_,bM e1 he1 r1 q.2 λds G2 H2 F2 vs q e2 x2 he2 r2 rvs=>?_⟩
    ·refine lst (d:=d) (G1:=G1) ?_ r1 ru;have q1:=q.1;cases d <;> first |exact q1 |exact (show False from q1).elim
    ·exact ⟨F2,G2,d,ds,r2,Rep.ext x2 ru,rvs,dM (λd G' z=>PV.later z (x1.trans x2)) q⟩
   |extend=>
    refine peI (dY dS PySem.F.slot_list_extend PySem.F.type_list_extend Tp (iho h1) (ih h3) hbase hfew hline hs ha) λσ H Q hq=>el hq λρ F G e0 he r hw=>?_;rw[cX]at hw;refine aF e0 he r hw λd G1 H1 F1 u q e1 x1 he1 r1 ru=>⟨?_,bM e1 he1 r1 q.2 λds G2 H2 F2 vs q e2 x2 he2 r2 rvs=>?_⟩
    ·refine lst (d:=d) (G1:=G1) ?_ r1 ru;have q1:=q.1;cases d <;> first |exact q1 |exact (show False from q1).elim
    ·exact ⟨F2,G2,d,ds,r2,Rep.ext x2 ru,rvs,dM (λd G' z=>PV.later z (x1.trans x2)) q⟩
   |insert=>
    refine peI (dY dS PySem.F.slot_list_insert PySem.F.type_list_insert Ti (iho h1) (ih h3) hbase hfew hline hs ha) λσ H Q hq=>el hq λρ F G e0 he r hw=>?_;rw[cX]at hw;refine aF e0 he r hw λd G1 H1 F1 u q e1 x1 he1 r1 ru=>⟨?_,bM e1 he1 r1 q.2 λds G2 H2 F2 vs q e2 x2 he2 r2 rvs=>?_⟩
    ·refine lst (d:=d) (G1:=G1) ?_ r1 ru;have q1:=q.1;cases d <;> first |exact q1 |exact (show False from q1).elim
    ·exact ⟨F2,G2,d,ds,r2,Rep.ext x2 ru,rvs,dM (λd G' z=>PV.later z (x1.trans x2)) q⟩
   |pop=>
    refine peI (dY dS PySem.F.slot_list_pop PySem.F.type_list_pop Tj (iho h1) (ih h3) hbase hfew hline hs ha) λσ H Q hq=>el hq λρ F G e0 he r hw=>?_;rw[cX]at hw;refine aF e0 he r hw λd G1 H1 F1 u q e1 x1 he1 r1 ru=>⟨?_,bM e1 he1 r1 q.2 λds G2 H2 F2 vs q e2 x2 he2 r2 rvs=>?_⟩
    ·refine lst (d:=d) (G1:=G1) ?_ r1 ru;have q1:=q.1;cases d <;> first |exact q1 |exact (show False from q1).elim
    ·exact ⟨F2,G2,d,ds,r2,Rep.ext x2 ru,rvs,dM (λd G' z=>PV.later z (x1.trans x2)) q⟩
   |count=>
    refine peI (dY dS PySem.F.slot_list_count PySem.F.type_list_count S9 (iho h1) (ih h3) hbase hfew hline hs ha) λσ H Q hq=>el hq λρ F G e0 he r hw=>?_;rw[cX]at hw;refine aF e0 he r hw λd G1 H1 F1 u q e1 x1 he1 r1 ru=>⟨lstV q.1 r1 ru,bM e1 he1 r1 q.2 λds G2 H2 F2 vs q e2 x2 he2 r2 rvs=>?_⟩;exact ⟨F2,G2,d,ds,r2,Rep.ext x2 ru,rvs,dM (λd G' z=>PV.later z (x1.trans x2)) q⟩
   |index=>
    refine peI (dY dS PySem.F.slot_list_index PySem.F.type_list_index Tc (iho h1) (ih h3) hbase hfew hline hs ha) λσ H Q hq=>el hq λρ F G e0 he r hw=>?_;rw[cX]at hw;refine aF e0 he r hw λd G1 H1 F1 u q e1 x1 he1 r1 ru=>⟨lstV q.1 r1 ru,bM e1 he1 r1 q.2 λds G2 H2 F2 vs q e2 x2 he2 r2 rvs=>?_⟩;exact ⟨F2,G2,d,ds,r2,Rep.ext x2 ru,rvs,dM (λd G' z=>PV.later z (x1.trans x2)) q⟩
end
section
variable {Φ:ak} {CX:CXT} {k:Nat} {c:CT} {E:EK} {B:Bs} {X:Cx}
def EachE(Φ:ak)(c:CT)(E:EK)(B:Bs)(X:Cx):Exs->Prop
 |.nil=>True
 |.cons e es=>OkE Φ c E B X e/\EachE Φ c E B X es
def o6(Φ:ak)(c:CT)(E:EK)(B:Bs)(X:Cx):Txs->Prop
 |.nil=>True
 |.cons e es=>OkT Φ c E B X e/\o6 Φ c E B X es
theorem Vv(S:Stat Φ CX k c E B X){es:Exs}(ih:EachE Φ c E B X es){e:Expr}(h:aa c (.fst es) e=true):PE X e (tE X.K B (wpE Φ (.fst es) E)):=nomatch (show false=true from h)
theorem EachE.oks:∀{xs:Exs},EachE Φ c E B X xs->dO Φ c E B X xs
 |.nil,_=>by intro h;exact oZ h
 |.cons x xs,hh=>by intro h;exact jA hh.1 (EachE.oks hh.2) h
def o7(Φ:ak)(E:EK)(isAnd:Bool)(x:Ex)(xs:Exs):aj->DH->(D->DH->Prop)->Prop:=λρ G kk=>wpE Φ x E ρ G λd G1=>match d with |.bl b=>wpB Φ xs isAnd b E ρ G1 (λc G2=>kk (.bl c) G2) |_=>False
theorem zQ{isAnd:Bool}{pos:Pos}:∀(xs:Exs){x:Ex},OkE Φ c E B X x->EachE Φ c E B X xs->∀{v:Expr}{vs:List Expr},aa c x v=true->aC c xs vs=true->
  PE X (.BoolOp (if isAnd then .And else .Or) (v::vs) pos) (tE X.K B (o7 Φ E isAnd x xs))
 |.nil,x,ih,_,v,vs,h1,h2=>by
  unfold aC at h2;cases vs with
  |nil=>
   refine peI (Kv (ih h1)) λσ H Q hq=>el hq λρ F G e0 he r hw=>?_;unfold o7 at hw;refine aF e0 he r hw λd G1 H1 F1 u q e1 x1 he1 r1 ru=>?_;split at q
   ·rw[mD]at q;exact q _ _ _ x1 r1 ru
   ·exact q.elim
  |cons _ _=>cases h2
 |.cons y ys,x,ih,hh,v,vs,h1,h2=>by
  unfold aC at h2;split at h2
  ·rename_i w ws;rw[ah]at h2;have rest:=zQ (isAnd:=isAnd) (pos:=pos) ys hh.1 hh.2 h2.1 h2.2;cases isAnd with
   |true=>
    refine peI (Kw (ih h1) rest) λσ H Q hq=>el hq λρ F G e0 he r hw=>?_;unfold o7 at hw;refine aF e0 he r hw λd G1 H1 F1 u q e1 x1 he1 r1 ru=>?_;split at q
    ·rename_i b;refine ⟨b,ru,?_⟩;rw[jg]at q;cases b with
     |true=>
      rw[if_pos rfl];exact ⟨ρ,F1,G1,e1,he1,r1,au y (λd G' z=>by
       cases d <;> first |exact (show False from z).elim |exact oh ys (λc G2 z=>PV.later z x1) z) q⟩
     |false=>
      rw[if_neg bo];exact q _ _ _ x1 r1 rfl
    ·exact q.elim
   |false=>
    refine peI (Ky (ih h1) rest) λσ H Q hq=>el hq λρ F G e0 he r hw=>?_;unfold o7 at hw;refine aF e0 he r hw λd G1 H1 F1 u q e1 x1 he1 r1 ru=>?_;split at q
    ·rename_i b;refine ⟨b,ru,?_⟩;rw[jg]at q;cases b with
     |false=>
      rw[if_neg bo];exact ⟨ρ,F1,G1,e1,he1,r1,au y (λd G' z=>by
       cases d <;> first |exact (show False from z).elim |exact oh ys (λc G2 z=>PV.later z x1) z) q⟩
     |true=>
      rw[if_pos rfl];exact q _ _ _ x1 r1 rfl
    ·exact q.elim
  ·cases h2
theorem Vw{isAnd:Bool}{x:Ex}{xs:Exs}(ih:OkE Φ c E B X x)(hh:EachE Φ c E B X xs){e:Expr}(h:aa c (.boo isAnd x xs) e=true):PE X e (tE X.K B (wpE Φ (.boo isAnd x xs) E)):=by
 replace h:=yX h;obtain ⟨_,_,_,_,rfl,h⟩:=h
 ·simp only[ah,aE]at h;obtain ⟨⟨e1,h1⟩,h2⟩:=h;subst e1;refine peI (zQ xs ih hh h1 h2) λσ H Q hq=>el hq λρ F G e0 he r hw=>⟨ρ,F,G,e0,he,r,?_⟩;rw[mU]at hw;exact hw
theorem Vx{t:Tx}{a b:Ex}(iht:OkT Φ c E B X t)(iha:OkE Φ c E B X a)(ihb:OkE Φ c E B X b){e:Expr}(h:aa c (.ife t a b) e=true):PE X e (tE X.K B (wpE Φ (.ife t a b) E)):=nomatch (show false=true from h)
theorem Vy{x:Ex}(ih:OkE Φ c E B X x){e:Expr}(hp:gj e=true)(h:aa c x e=true):PT X e (tB' X.K B (wpT Φ (.val x) E)):=by
 refine ptI (Mu (ih h) (Uz hp X.env)) λσ H Q hq=>el hq λρ F G e0 he r hw=>?_;rw[ie]at hw;refine aF e0 he r hw λd G1 H1 F1 u q e1 x1 he1 r1 ru=>?_;split at q
 ·rename_i b hb;exact ⟨b,R5 r1 ru hb,q _ _ x1 r1⟩
 ·exact q.elim
theorem Vz{t:Tx}(ih:OkT Φ c E B X t){e:Expr}(h:bC c (.not t) e=true):PT X e (tB' X.K B (wpT Φ (.not t) E)):=by
 replace h:=Uj h;obtain ⟨_,_,rfl,h⟩:=h
 ·refine ptI (Kr (ih h)) λσ H Q hq=>el hq λρ F G e0 he r hw=>?_;rw[my]at hw;exact jz e0 he r hw λb G1 H1 F1 q e1 x1 he1 r1=>q _ _ x1 r1
def jC(Φ:ak)(E:EK)(isAnd:Bool)(x:Tx)(xs:Txs):aj->DH->(Bool->DH->Prop)->Prop:=λρ G kk=>wpT Φ x E ρ G λb G1=>eE Φ xs isAnd b E ρ G1 kk
theorem zR{isAnd:Bool}{pos:Pos}:∀(xs:Txs){x:Tx},OkT Φ c E B X x->o6 Φ c E B X xs->∀{v:Expr}{vs:List Expr},bC c x v=true->gm c xs vs=true->
  PW X (.BoolOp (if isAnd then .And else .Or) (v::vs) pos) (tB' X.K B (jC Φ E isAnd x xs))
 |.nil,x,ih,_,v,vs,h1,h2=>by
  unfold gm at h2;cases vs with
  |nil=>
   have go:∀σ H Q,tB' X.K B (jC Φ E isAnd x .nil) σ H Q->tB' X.K B (wpT Φ x E) σ H Q:=λσ H Q hq=>el hq λρ F G e0 he r hw=>by
    unfold jC at hw;refine ⟨ρ,F,G,e0,he,r,cJ x (λb G1 q=>?_) hw⟩;rw[mF]at q;exact q
   cases isAnd with
   |true=>exact pwI (Km (ih h1)) go
   |false=>exact pwI (Ko (ih h1)) go
  |cons _ _=>cases h2
 |.cons y ys,x,ih,hh,v,vs,h1,h2=>by
  unfold gm at h2;split at h2
  ·rename_i w ws;rw[ah]at h2;have rest:=zR (isAnd:=isAnd) (pos:=pos) ys hh.1 hh.2 h2.1 h2.2;cases isAnd with
   |true=>
    refine pwI (Kp (ih h1) rest) λσ H Q hq=>el hq λρ F G e0 he r hw=>?_;unfold jC at hw;refine jz e0 he r hw λb G1 H1 F1 q e1 x1 he1 r1=>?_;rw[jh]at q;cases b with
    |true=>
     rw[if_pos rfl];exact ⟨ρ,F1,G1,e1,he1,r1,cJ y (λb' G' z=>ou ys (λc G2 z=>PB.later z x1) z) q⟩
    |false=>
     rw[if_neg bo];exact q _ _ x1 r1
   |false=>
    refine pwI (Kq (ih h1) rest) λσ H Q hq=>el hq λρ F G e0 he r hw=>?_;unfold jC at hw;refine jz e0 he r hw λb G1 H1 F1 q e1 x1 he1 r1=>?_;rw[jh]at q;cases b with
    |false=>
     rw[if_neg bo];exact ⟨ρ,F1,G1,e1,he1,r1,cJ y (λb' G' z=>ou ys (λc G2 z=>PB.later z x1) z) q⟩
    |true=>
     rw[if_pos rfl];exact q _ _ x1 r1
  ·cases h2
theorem VB{isAnd:Bool}{x:Tx}{xs:Txs}(ih:OkT Φ c E B X x)(hh:o6 Φ c E B X xs){e:Expr}(h:bC c (.boo isAnd x xs) e=true):PT X e (tB' X.K B (wpT Φ (.boo isAnd x xs) E)):=by
 replace h:=Uk h;obtain ⟨_,_,_,_,rfl,h⟩:=h
 ·simp only[ah,aE]at h;obtain ⟨⟨e1,h1⟩,h2⟩:=h;subst e1;refine ptI (PW.pt (zR xs ih hh h1 h2)) λσ H Q hq=>el hq λρ F G e0 he r hw=>⟨ρ,F,G,e0,he,r,?_⟩;rw[mz]at hw;exact hw
def tG(K:PF)(B:Bs)(t:Tg):TG:=λv σ H Q=>∃ρ F G d,Ext B.H B.F H F/\EnvR K H F ρ σ/\R K H F G/\Rep K H F d v/\aJ t d ρ G (λρ'=>∀σ',EnvR K H F ρ' σ'->Q σ' H)
def tGs(K:PF)(B:Bs)(t:Tgs):TGs:=λvs σ H Q=>∃ρ F G ds,Ext B.H B.F H F/\EnvR K H F ρ σ/\R K H F G/\Reps K H F ds vs/\bu t ds ρ G (λρ'=>∀σ',EnvR K H F ρ' σ'->Q σ' H)
theorem o8:∀{ts:Tgs}{es:List Expr}{env:Env},bV c ts es=true->(assignEach es env).length=es.length/\(assignEach es env).findIdx? (·.1)=none/\(assignEach es env).map (·.2)=es.map λe=>assign e env
 |.nil,[],env,_=>⟨rfl,rfl,rfl⟩
 |.nil,_::_,env,h=>by unfold bV at h;cases h
 |.cons t r,[],env,h=>by unfold bV at h;cases h
 |.cons t r,e::es,env,h=>by
  unfold bV at h;rw[ah]at h;obtain ⟨h1,h2,h3⟩:=o8 (env:=env) h.2;have hs:assignEach (e::es) env=(false,assign e env)::assignEach es env:=by
   cases t with
   |nm i=>
    have h':=h.1;obtain ⟨_,_,rfl,_⟩:=t6 h';rfl
   |tp ts=>
    have h':=h.1;obtain ⟨_,_,_,rfl,_⟩:=t7 h';rfl
  rw[hs];refine ⟨by simp[h1],?_,by simp[h3]⟩;rw[List.findIdx?_cons];simp[h2]
section
variable {prog:Program} {w:World} {A:Around} {E:Value->Shared->Prop} {s:Shared}
theorem zT{it t:Addr}{items:Array Value}(hne:t≠it):∀(n i:Nat)(s:Shared)(Q:List Value->Shared->Prop),s.heap.IsListIter it t i->s.heap.IsList t items->i+n<=items.size->
  (∀h',h'.IsListIter it t (i+n)->Heap.SameBut it s.heap h'->Q ((items.toList.drop i).take n) { s with heap:=h' })->wpAny (model prog w) A (draw (.ref it) n) Q E s
 |0,i,s,Q,hit,_,_,hQ=>by
  show wpAny _ _ (pure []) Q E s;exact am (by simpa using hQ s.heap hit (Heap.SameBut.refl ..))
 |n+1,i,s,Q,hit,ht,hle,hQ=>by
  have hlt:i < items.size:=by omega
  show wpAny _ _ (pyNext (.ref it) >>= _) Q E s;refine ae (wpAny_pyNext_list_item hit ht (x:=items[i]) (by simp[hlt]) λh₁ hit₁ hs₁=>?_);refine ae (cf (zT hne n (i+1) _ _ hit₁ (ht.extBut hs₁.extBut hne) (by omega) λh₂ hit₂ hs₂=>am ?_));have hd:items.toList.drop i=items[i]::items.toList.drop (i+1):=by simp[bn,hlt]
  have:=hQ h₂ (by rw[show i+(n+1)=i+1+n by omega];exact hit₂) (hs₁.trans hs₂);rw[hd,List.take_succ_cons]at this;exact this
theorem VD{t:Addr}{items:Array Value}{Q:List Value->Shared->Prop}(hh:A.handled=none)(ht:s.heap.IsList t items)
  (hQ:∀h',Heap.ExtBut s.heap.objs.size s.heap h'->Q items.toList { s with heap:=h' }):wpAny (model prog w) A (unpackItems (.ref t) items.size none) Q E s:=by
 have hlt:t≠s.heap.objs.size:=by obtain ⟨o,ho,_⟩:=ht;exact bv (aw ho)
 unfold unpackItems;refine ae ?_;unfold notIterableAtAll;refine ae (wpAny_specialOf ht.typeIs PySem.F.slot_list_iter.lookup ?_);refine am ?_;simp only[Bool.false_eq_true,if_false];refine ae (cf (wpAny_pyIter_list ht ?_));refine ae (cf (zT hlt items.size 0 _ _ ⟨_,ay _ rfl,rfl,rfl⟩ (ht.push _) (by omega) λh₁ hit₁ hs₁=>?_));have hall:List.take items.size (List.drop 0 items.toList)=items.toList:=by rw[List.drop_zero];exact d4 (by simp)
 rw[hall];rw[if_neg (by simp)];have ht₁:h₁.IsList t items:=(ht.push _).extBut hs₁.extBut hlt;refine ae (cf (wpAny_pyNext_list_end hh hit₁ ht₁ (by simp) λh₂ he₂=>?_));simp only[Option.isSome_none,Bool.false_eq_true,if_false];refine am (hQ h₂ λb o hb e=>he₂ b o hb (hs₁.extBut b o hb (al _ e)))
theorem VF{env:Env}{elts:List Expr}{x1}{pos:Pos}{t:Addr}{items:Array Value}{Q:Unit->Shared->Prop}(hh:A.handled=none)(ht:s.heap.IsList t items)
  (hn:(assignEach elts env).length=items.size) (hstar:(assignEach elts env).findIdx? (·.1)=none)
  (h:∀h',Heap.ExtBut s.heap.objs.size s.heap h'->wpAny (model prog w) A (assignInOrder ((assignEach elts env).map (·.2)) items.toList) Q E { s with heap:=h' }):
  wpAny (model prog w) A (assign (.Tuple elts x1 pos) env (.ref t)) Q E s:=by
 rw[assign_Tuple];refine ae (fy ?_);unfold unpack;rw[hn,hstar];exact ae (cf (VD hh ht h))
end
section
variable {X:Cx} {pos:Pos}
def VG(K:PF)(n:Nat)(t:TGs):TG:=λv σ H Q=>∃a xs,v=.ref a/\SqL K H a xs/\xs.length=n/\t xs σ H Q
theorem VH{es:List Expr}{k:Nat}{t:TGs}{n:Nat}(hc:X.calm=true)(h:PGs X es t)
  (hn:(assignEach es X.env).length=n:=by rfl) (hst:(assignEach es X.env).findIdx? (·.1)=none:=by rfl):PG X (.Tuple es k pos) (VG X.K n t):=by
 intro pins s σ H v u Q I r hw;obtain ⟨a,xs,e1,hq,hl,hw⟩:=hw;subst e1;cases r;obtain ⟨its,rv,pl,hz⟩:=I.list hq;refine VF (I.ok.hd hc) pl.isList (by simp[hn,<-hl,rv.length]) hst λh' hx=>?_;have I1:Inv X pins σ H { s with heap:=h' }:=I.kept (t':=s.toks) λb o e=>hx b o (bv (aw e)) e;exact h pins _ σ H xs _ Q I1 (by simpa using rv) hw
end
section
variable {X:Cx} {pos:Pos}
theorem zU:∀{xs:List V}{z:V}{us:List Value},Vals (xs++[z]) us->∃vs u,us=vs++[u]/\Vals xs vs/\RelV z u
 |[],_,_,.cons r .nil=>⟨[],_,rfl,.nil,r⟩
 |x::xs,z,_,.cons r rr=>by
  obtain ⟨vs,u,e,h1,h2⟩:=zU (xs:=xs) rr;subst e;exact ⟨_::vs,u,rfl,.cons r h1,h2⟩
def VJ(K:PF)(t:TGs):TG:=λv σ H Q=>∃a xs z,v=.ref a/\SqL K H a (xs++[z])/\∀l,H l=none->t [.ref l,z] σ (upd H l (.lst xs)) Q
theorem VL{x y:Str}{px py sp:Pos}{k:Nat}{t:TGs}(hc:X.calm=true)(h:PGs X [.Name x px,.Name y py] t):PG X (.Tuple [.Starred (.Name x px) sp,.Name y py] k pos) (VJ X.K t):=by
 intro pins s σ H v u Q I r hw;obtain ⟨a,xs,z,e1,hq,hw⟩:=hw;subst e1;cases r;obtain ⟨its,rv,pl,hz⟩:=I.list hq;obtain ⟨vs,w,e,h1,h2⟩:=zU rv;subst e;have hn:(vs++[w]).toArray.size=vs.length+1:=by simp
 have hz':(vs++[w]).toArray.size<=sizeLine:=by rw[hn,<-h1.length];simpa using hz
 refine Qt (I.ok.hd hc) pl.isList hz' (by rw[hn];omega) rfl rfl λh' tk kp=>?_;have e2:(vs++[w]).toArray.toList.take ((vs++[w]).toArray.size - 1)=vs:=by rw[hn];simp
 have e3:(vs++[w]).toArray.toList.drop ((vs++[w]).toArray.size - 1)=[w]:=by rw[hn];simp
 rw[e2,e3];have I1:Inv X pins σ H { s with heap:=h',toks:=tk }:=I.kept (t':=tk) kp;have hl:xs.length<=sizeLine:=by rw[hn]at hz';rw[h1.length];omega
 have I2:Inv X pins σ (upd H h'.objs.size (.lst xs)) { s with heap:=h'.push { cls:=.type "list",data:=.seq vs.toArray },toks:=tk }:=
  I1.laid (t':=tk) (λb o e=>al _ e) (av _) (show ObjOk X.prog X.w _ _ _ (.lst _) from ⟨hl,vs,0,h1,ay _ rfl⟩)
 have hv2:Vals [V.ref h'.objs.size,z] [Value.ref h'.objs.size,w]:=.cons (show RelV (.ref h'.objs.size) (.ref h'.objs.size) from rfl) (.cons h2 .nil);exact h pins _ σ _ _ _ Q I2 hv2 (hw _ (I1.hok.fresh (av _)))
end
mutual
theorem gn(S:Stat Φ CX k c E B X):∀(t:Tg){e:Expr},bJ c t e=true->PG X e (tG X.K B t)
 |.nm i,e,h=>by
  replace h:=t6 h;obtain ⟨x,pos,rfl,h⟩:=h
  ·skip;rw[ah,aE]at h;obtain ⟨l,f⟩:=S.sto x h.2;intro pins s σ H v u Q I rv q;refine p7 (i:=i) S.nd (by rw[S.N];exact h.1) l f pins s σ H v u Q I rv ?_;obtain ⟨ρ,F,G,d,e0,he,r,rd,hw⟩:=q;unfold aJ at hw;exact hw _ (he.set rd i)
 |.tp ts,e,h=>by
  replace h:=t7 h;obtain ⟨es,kk,pos,rfl,h⟩:=h
  ·skip;obtain ⟨h1,h2,h3⟩:=o8 (env:=X.env) h;intro pins s σ H v u Q I rv q;obtain ⟨ρ,F,G,d,e0,he,r,rd,hw⟩:=q;unfold aJ at hw;split at hw
   ·rename_i ds;refine Lh (n:=es.length) S.calm (t8 S ts h) h1 h2 pins s σ H v u Q I rv ?_;obtain ⟨a,vs,e1,q,t⟩:=rd;refine ⟨a,vs,e1,q.sq,?_,ρ,F,G,ds,e0,he,r,t,hw⟩;rw[<-t.length];exact uc ts h hw
   ·rename_i ds;refine VH (n:=es.length) S.calm (t8 S ts h) h1 h2 pins s σ H v u Q I rv ?_;obtain ⟨a,vs,e1,q,t⟩:=rd;refine ⟨a,vs,e1,q.sq,?_,ρ,F,G,ds,e0,he,r,t,hw⟩;rw[<-t.length];exact uc ts h hw
   ·exact hw.elim
theorem t8(S:Stat Φ CX k c E B X):∀(ts:Tgs){es:List Expr},bV c ts es=true->PGs X es (tGs X.K B ts)
 |.nil,es,h=>by
  unfold bV at h;cases es with
  |nil=>
   intro pins s σ H vs us Q I rv q;refine vf pins s σ H vs us Q I rv ?_;obtain ⟨ρ,F,G,ds,e0,he,r,rd,hw⟩:=q;unfold bu at hw;split at hw
   ·exact ⟨rd,hw _ he⟩
   ·exact hw.elim
  |cons _ _=>cases h
 |.cons t r,es,h=>by
  unfold bV at h;split at h
  ·rename_i e es;rw[ah]at h;intro pins s σ H vs us Q I rv q;have hs:(assignEach (e::es) X.env).map (·.2)=assign e X.env::(assignEach es X.env).map (·.2):=by
    have hh:bV c (.cons t r) (e::es)=true:=by unfold bV;show (bJ c t e&&bV c r es)=true;rw[h.1,h.2];rfl
    rw[(o8 (env:=X.env) hh).2.2,(o8 (env:=X.env) h.2).2.2];rfl
   refine p8 (gn S t h.1) (t8 S r h.2) hs pins s σ H vs us Q I rv ?_;obtain ⟨ρ,F,G,ds,e0,he,rr,rd,hw⟩:=q;unfold bu at hw;split at hw
   ·rename_i d ds;obtain ⟨v,vs',e1,rd1,rds⟩:=rd;refine ⟨v,vs',e1,ρ,F,G,d,e0,he,rr,rd1,cI (λρ' z σ' he'=>?_) t hw⟩;exact ⟨ρ',F,G,ds,e0,he',rr,rds,z⟩
   ·exact hw.elim
  ·cases h
theorem uc{G:DH}:∀(ts:Tgs){es:List Expr}{ds:List D}{ρ:aj}{Q:aj->Prop},bV c ts es=true->bu ts ds ρ G Q->ds.length=es.length
 |.nil,es,ds,ρ,Q,h,q=>by
  unfold bV at h;unfold bu at q;split at q
  ·cases es with
   |nil=>rfl
   |cons _ _=>cases h
  ·exact q.elim
 |.cons t r,es,ds,ρ,Q,h,q=>by
  unfold bV at h;split at h
  ·rw[ah]at h;unfold bu at q;split at q
   ·rename_i d ds;have:∃ρ',bu r ds ρ' G Q:=zV t q;obtain ⟨ρ',q'⟩:=this;have:=uc r h.2 q';simp[this]
   ·exact q.elim
  ·cases h
theorem zV{G:DH}:∀(t:Tg){d:D}{ρ:aj}{Q:aj->Prop},aJ t d ρ G Q->∃ρ',Q ρ'
 |.nm i,d,ρ,Q,q=>⟨_,q⟩
 |.tp ts,d,ρ,Q,q=>by
  unfold aJ at q;split at q
  ·exact ud ts q
  ·exact ud ts q
  ·exact q.elim
theorem ud{G:DH}:∀(ts:Tgs){ds:List D}{ρ:aj}{Q:aj->Prop},bu ts ds ρ G Q->∃ρ',Q ρ'
 |.nil,ds,ρ,Q,q=>by
  unfold bu at q;split at q
  ·exact ⟨_,q⟩
  ·exact q.elim
 |.cons t r,ds,ρ,Q,q=>by
  unfold bu at q;split at q
  ·obtain ⟨ρ',q'⟩:=zV t q;exact ud r q'
  ·exact q.elim
end
end
structure WalkJ(K:PF)(H:Hp)(F:FZ)(items:List D)(g:Hld)(J:It):Prop where
 go:∀H' F' G i,Ext H F H' F'->R K H' F' G->held g G->i < items.length->J.go i H'
 stop:∀H' F' G,Ext H F H' F'->R K H' F' G->held g G->J.stop items.length H'
 yld:∀H' F' i x H'' d G,Ext H F H' F'->R K H' F' G->held g G->items[i]?=some d->J.yld i H' x H''->Ext H' F' H'' F'/\R K H'' F' G/\Rep K H'' F' d x
section
variable {K:PF} {H:Hp} {F:FZ}
structure Src(K:PF)(H:Hp)(F:FZ)(u:Value)(ds:List D)(g:Hld)(k:SK):Prop where
 val:k.val=u
 sat:∀H' F' G,Ext H F H' F'->R K H' F' G->held g G->∃vs,k.Sat H' vs/\Reps K H' F' ds vs
theorem jD{d:D}{v:V}{u:Value}{G:DH}{ds:List D×Hld}(h:Rep K H F d v)(r:RelV v u)(e:itemsOf G d=some ds):∃k,Src K H F u ds.1 ds.2 k:=by
 cases d with
 |lst xs=>
  simp only[itemsOf,a7]at e;subst e;obtain ⟨a,vs,e1,q,t⟩:=h;subst e1;have hu:u=Value.ref a:=r;subst hu;exact ⟨.lst a,rfl,λH' F' G' x _ _=>⟨vs,(FzL.ext x q).2,Reps.ext x t⟩⟩
 |tup xs=>
  simp only[itemsOf,a7]at e;subst e;obtain ⟨a,vs,e1,q,t⟩:=h;subst e1;have hu:u=Value.ref a:=r;subst hu;exact ⟨.tup a,rfl,λH' F' G' x _ _=>⟨vs,(TpT.ext (K:=K) x q).it,Reps.ext x t⟩⟩
 |str l=>
  simp only[itemsOf,a7]at e;subst e;obtain ⟨e1,hl⟩:=h;subst e1;obtain ⟨t,hu⟩:∃t,u=Value.str (tx l) t:=r;subst hu;exact ⟨.str (tx l) t,rfl,λH' F' G' x _ _=>⟨_,rfl,by simpa using tH l⟩⟩
 |ref p=>
  simp only[itemsOf]at e;split at e
  ·rename_i xs hg;simp only[a7]at e;subst e;have e1:v=.ref p:=h;subst e1;have hu:u=Value.ref p:=r;subst hu;exact ⟨.lst p,rfl,λH' F' G' x r' hh=>r'.lst hh.1⟩
  ·cases e
 |_=>cases e
theorem o9{G:DH}{d:D}{ds:List D×Hld}(e:itemsOf G d=some ds):held ds.2 G:=by
 cases d with
 |ref p=>
  simp only[itemsOf]at e;split at e
  ·rename_i xs hg;simp only[a7]at e;subst e;exact ⟨hg,trivial⟩
  ·cases e
 |_=>simp only[itemsOf]at e;first | (cases e;done) | (simp only[a7]at e;subst e;exact trivial)
theorem VM{u:Value}{ds:List D}{g:Hld}{k:SK}(s:Src K H F u ds g k):WalkJ K H F ds g (Jk k) where
 go:=λH' F' G i x r hh hi=>by
  obtain ⟨vs,h1,h2⟩:=s.sat H' F' G x r hh;exact ⟨vs,h1,by rw[<-h2.length];exact hi⟩
 stop:=λH' F' G x r hh=>by
  obtain ⟨vs,h1,h2⟩:=s.sat H' F' G x r hh;exact ⟨vs,h1,h2.length.symm⟩
 yld:=λH' F' i v H'' d G x r hh hd y=>by
  obtain ⟨e,hv⟩:=y;subst e;obtain ⟨vs,h1,h2⟩:=s.sat _ F' G x r hh;obtain ⟨w,e1,rw'⟩:=h2.get hd;have e2:=hv vs h1;rw[e1]at e2;cases e2;exact ⟨Ext.refl _ _,r,rw'⟩
theorem jE:∀(n:Nat)(ds:List D),(bQ n ds).length=ds.length
 |_,[]=>rfl
 |n,d::ds=>by simp[bQ,jE (n+1) ds]
theorem ph:∀(n:Nat)(ds:List D)(i:Nat),(bQ n ds)[i]?=(ds[i]?).map λd=>.tup [.int ((n+i:Nat):Int),d]
 |_,[],_=>by simp[bQ]
 |n,d::ds,0=>by simp[bQ]
 |n,d::ds,i+1=>by
  simp only[bQ,List.getElem?_cons_succ];rw[ph (n+1) ds i];congr 1;funext d;rw[show n+1+i=n+(i+1) by omega]
theorem pq:∀(as bs:List D),(bx as bs).length=min as.length bs.length
 |[],bs=>by simp[bx]
 |a::as,[]=>by simp[bx]
 |a::as,b::bs=>by simp[bx,pq as bs]
theorem ue:∀(as bs:List D)(i:Nat)(d:D),(bx as bs)[i]?=some d->∃a b,as[i]?=some a/\bs[i]?=some b/\d=.tup [a,b]
 |[],bs,i,d,h=>by simp[bx]at h
 |a::as,[],i,d,h=>by simp[bx]at h
 |a::as,b::bs,0,d,h=>by simp[bx]at h;exact ⟨a,b,rfl,rfl,h.symm⟩
 |a::as,b::bs,i+1,d,h=>by
  simp only[bx,List.getElem?_cons_succ]at h;obtain ⟨x,y,h1,h2,h3⟩:=ue as bs i d h;exact ⟨x,y,by simpa using h1,by simpa using h2,h3⟩
theorem VN{u:Value}{ds:List D}{g:Hld}{k:SK}(s:Src K H F u ds g k):WalkJ K H F (bQ 0 ds) g (Je k) where
 go:=λH' F' G i x r hh hi=>by
  obtain ⟨vs,h1,h2⟩:=s.sat H' F' G x r hh;exact ⟨vs,h1,by rw[<-h2.length,<-jE 0];exact hi⟩
 stop:=λH' F' G x r hh=>by
  obtain ⟨vs,h1,h2⟩:=s.sat H' F' G x r hh;exact ⟨vs,h1,by rw[jE];exact h2.length.symm⟩
 yld:=λH' F' i v H'' d G x r hh hd y=>by
  obtain ⟨vs,h1,h2⟩:=s.sat H' F' G x r hh;obtain ⟨T,y,hT,e1,e2,hv⟩:=y;subst e1 e2;rw[ph]at hd;obtain ⟨d',hd',e3⟩:=bi.mp hd;subst e3;obtain ⟨w,e1,rw'⟩:=h2.get hd';have e2:=hv vs h1;rw[e1]at e2;cases e2;refine ⟨cu r hT,r.new hT,?_⟩;rw[Nat.zero_add];exact lM r hT (Reps.cons rfl (Reps.cons rw' Reps.nil))
theorem VP{u:Value}{ds:List D}{g:Hld}{k:SK}(s:Src K H F u ds g k):WalkJ K H F (bQ 1 ds) g (Je1 k) where
 go:=λH' F' G i x r hh hi=>by
  obtain ⟨vs,h1,h2⟩:=s.sat H' F' G x r hh;exact ⟨vs,h1,by rw[<-h2.length,<-jE 1];exact hi⟩
 stop:=λH' F' G x r hh=>by
  obtain ⟨vs,h1,h2⟩:=s.sat H' F' G x r hh;exact ⟨vs,h1,by rw[jE];exact h2.length.symm⟩
 yld:=λH' F' i v H'' d G x r hh hd y=>by
  obtain ⟨vs,h1,h2⟩:=s.sat H' F' G x r hh;obtain ⟨T,y,hT,e1,e2,hv⟩:=y;subst e1 e2;rw[ph]at hd;obtain ⟨d',hd',e3⟩:=bi.mp hd;subst e3;obtain ⟨w,e1,rw'⟩:=h2.get hd';have e2:=hv vs h1;rw[e1]at e2;cases e2;refine ⟨cu r hT,r.new hT,?_⟩;rw[Nat.add_comm 1];exact lM r hT (Reps.cons rfl (Reps.cons rw' Reps.nil))
theorem iD{g g':Hld}{G:DH}:held (g++g') G->held g G/\held g' G:=by
 induction g with
 |nil=>exact λh=>⟨trivial,h⟩
 |cons p r ih=>
  intro h;obtain ⟨h1,h2⟩:=ih h.2;exact ⟨⟨h.1,h1⟩,h2⟩
theorem VR{u u':Value}{ds es:List D}{g g':Hld}{k l:SK}(s:Src K H F u ds g k)(s':Src K H F u' es g' l):WalkJ K H F (bx ds es) (g++g') (Jz k l) where
 go:=λH' F' G i x r hh hi=>by
  obtain ⟨vs,h1,h2⟩:=s.sat H' F' G x r (iD hh).1;obtain ⟨ws,h3,h4⟩:=s'.sat H' F' G x r (iD hh).2;rw[pq]at hi;exact ⟨vs,ws,h1,h3,by rw[<-h2.length];omega,by rw[<-h4.length];omega⟩
 stop:=λH' F' G x r hh=>by
  obtain ⟨vs,h1,h2⟩:=s.sat H' F' G x r (iD hh).1;obtain ⟨ws,h3,h4⟩:=s'.sat H' F' G x r (iD hh).2;exact ⟨vs,ws,h1,h3,by rw[pq,<-h2.length,<-h4.length];omega⟩
 yld:=λH' F' i v H'' d G x r hh hd y=>by
  obtain ⟨T,y,z,hT,e1,e2,hv,hz⟩:=y;subst e1 e2;obtain ⟨a,b,ha,hb,e3⟩:=ue _ _ _ _ hd;subst e3;obtain ⟨vs,h1,h2⟩:=s.sat H' F' G x r (iD hh).1;obtain ⟨ws,h3,h4⟩:=s'.sat H' F' G x r (iD hh).2;obtain ⟨w,e1,rw'⟩:=h2.get ha;obtain ⟨w2,e3,rw2⟩:=h4.get hb;have e2:=hv vs h1;have e4:=hz ws h3;rw[e1]at e2;cases e2;rw[e3]at e4;cases e4;exact ⟨cu r hT,r.new hT,lM r hT (Reps.cons rw' (Reps.cons rw2 Reps.nil))⟩
theorem VV(lo:Int)(n:Nat):WalkJ K H F (bR lo n) [] (Itr lo n) where
 go:=λH' F' G i x _ _ hi=>by show i < n;simpa [bR] using hi
 stop:=λH' F' G x _ _=>by show n<=(bR lo n).length;simp[bR]
 yld:=λH' F' i v H'' d G x r _ hd y=>by
  obtain ⟨e1,e2⟩:=y;subst e1 e2;refine ⟨Ext.refl _ _,r,?_⟩;unfold bR at hd;rw[bP]at hd;obtain ⟨j,hj,e3⟩:=bi.mp hd;have:j=i:=by have:=a9.mp hj;obtain ⟨h1,h2⟩:=this;simpa using h2.symm
  subst this;subst e3;rfl
end
def tI(K:PF)(B:Bs)(w:aj->DH->(List D->Hld->DH->Prop)->Prop):TI:=λσ H Rr=>∃ρ F G,Ext B.H B.F H F/\EnvR K H F ρ σ/\R K H F G/\
 w ρ G (λitems g G'=>∀H' F' J,Ext H F H' F'->R K H' F' G'->WalkJ K H' F' items g J->Rr J H')
section
variable {Φ:ak} {CX:CXT} {k:Nat} {c:CT} {E:EK} {B:Bs} {X:Cx}
theorem jF{pins:List (Addr×Obj)}{σ:L2.St}{H:Hp}{s:Shared}(I:Inv X pins σ H s){kk:SK}{vs:List V}(h:kk.Sat H vs):∃its:Array Value,kk.On its s.heap:=by
 cases kk with
 |lst a=>obtain ⟨its,_,pl,_⟩:=I.list (SqL.of (show H a=some _ from h));exact ⟨its.toArray,pl.isList⟩
 |tup a=>obtain ⟨its,_,pl,_⟩:=I.tuple (SqT.of (show H a=some _ from h));exact ⟨its.toArray,pl⟩
 |str x t=>exact ⟨#[],trivial⟩
theorem V0{x:Ex}(ih:OkE Φ c E B X x){tg e:Expr}(h:aa c x e=true):PI X tg e (tI X.K B (wpI Φ (.seq x) E)):=by
 intro pins s σ H Rr I q;obtain ⟨ρ,F,G,e0,he,r,hw⟩:=q;rw[mJ]at hw;have q':tE X.K B (wpE Φ x E) σ H (λv H1=>∃F1 G1 d items,R X.K H1 F1 G1/\Rep X.K H1 F1 d v/\itemsOf G1 d=some items/\∀J,WalkJ X.K H1 F1 items.1 items.2 J->Rr J H1):=
  aF e0 he r hw λd G1 H1 F1 u q e1 x1 he1 r1 ru=>by
   split at q
   ·rename_i ds hd;exact ⟨F1,G1,d,ds,r1,ru,hd,λJ w=>q H1 F1 J x1 r1 w⟩
   ·exact q.elim
 refine thn (ih h pins s σ H _ I q') λu s1 ⟨v,H1,I1,rv,F1,G1,d,items,r1,rd,hd,q1⟩=>?_;obtain ⟨kk,src⟩:=jD rd rv hd;obtain ⟨vs,sat,_⟩:=src.sat H1 F1 G1 (Ext.refl _ _) r1 (o9 hd);obtain ⟨its,on⟩:=jF I1 sat;rw[<-src.val];refine SK.iter on ?_;refine ⟨s1.heap.objs.size,[s1.heap.objs.size],_,_,H1,rfl,I1.kept (t':=s1.toks) λb o e=>al _ e,TQ kk _,SK.pos0,λb hb=>?_,q1 _ (VM src)⟩;have e:b=s1.heap.objs.size:=by simpa using hb
 subst e;exact I1.fpOk (av _) (I1.hok.fresh (av _))
theorem V1(S:Stat Φ CX k c E B X){a:Ex}(ih:OkE Φ c E B X a){tg e:Expr}(h:bh c (.rng a) tg e=true):PI X tg e (tI X.K B (wpI Φ (.rng a) E)):=by
 replace h:=zz h;obtain ⟨_,_,_,_,rfl,h⟩:=h
 ·simp only[ah,aE]at h;obtain ⟨⟨⟨e1,h1⟩,hm⟩,h2⟩:=h;subst e1;obtain ⟨g1,g2⟩:=cN h1;have hmg:=S.blt _ (bg.mp hm);have hs:=bF _ [] X.env (cj (bz a h2));intro pins s σ H Rr I q;refine Ls (S.glo _ g1) hmg (eV (ih h2) fV hs) hs pins s σ H Rr I ?_;obtain ⟨ρ,F,G,e0,he,r,hw⟩:=q;rw[mK]at hw;refine aF e0 he r hw λd G1 H1 F1 u q e1 x1 he1 r1 ru=>?_;split at q
  ·rename_i n;have e2:u=.int n:=ru;subst e2;exact ⟨n,rfl,q.1.1,q.1.2,q.2 H1 F1 _ x1 r1 (VV 0 n.toNat)⟩
  ·exact q.elim
theorem V2(S:Stat Φ CX k c E B X){a:Ex}(ih:OkE Φ c E B X a){tg e:Expr}(h:bh c (.rev a) tg e=true):PI X tg e (tI X.K B (wpI Φ (.rev a) E)):=nomatch (show false=true from h)
theorem V3(S:Stat Φ CX k c E B X){a b d:Ex}(iha:OkE Φ c E B X a)(ihb:OkE Φ c E B X b)(ihd:OkE Φ c E B X d){tg e:Expr}(h:bh c (.dwn a b d) tg e=true):PI X tg e (tI X.K B (wpI Φ (.dwn a b d) E)):=nomatch (show false=true from h)
theorem V4(S:Stat Φ CX k c E B X){a b:Ex}(iha:OkE Φ c E B X a)(ihb:OkE Φ c E B X b){tg e:Expr}(h:bh c (.rng2 a b) tg e=true):PI X tg e (tI X.K B (wpI Φ (.rng2 a b) E)):=nomatch (show false=true from h)
theorem V5(S:Stat Φ CX k c E B X){a:Ex}(ih:OkE Φ c E B X a){tg e:Expr}(h:bh c (.enm a) tg e=true):PI X tg e (tI X.K B (wpI Φ (.enm a) E)):=by
 replace h:=zA h;obtain ⟨_,_,_,_,_,_,_,rfl,rfl,h⟩:=h
 ·skip
  ·simp only[ah,aE]at h;obtain ⟨⟨⟨e1,h1⟩,hm⟩,h2⟩:=h;subst e1;obtain ⟨g1,g2⟩:=cN h1;have hmg:=S.blt _ (bg.mp hm);have hs:=bF _ [] X.env (cj (bz a h2));intro pins s σ H Rr I q;obtain ⟨ρ,F,G,e0,he,r,hw⟩:=q;rw[mL]at hw;have q':tL X.K B (aD Φ (.cons a .nil) E) σ H (λvs H1=>∃v F1 G1 d items,vs=[v]/\R X.K H1 F1 G1/\Rep X.K H1 F1 d v/\itemsOf G1 d=some items/\∀J,WalkJ X.K H1 F1 (bQ 0 items.1) items.2 J->Rr J H1):=by
    refine bM (W:=λds G1=>∃d items,ds=[d]/\itemsOf G1 d=some items/\∀H' F' J,Ext H F H' F'->R X.K H' F' G1->WalkJ X.K H' F' (bQ 0 items.1) items.2 J->Rr J H') e0 he r ?_ λds G1 H1 F1 vs q e1 x1 he1 r1 rvs=>?_
    ·rw[eF];refine au a (λd G1 q=>?_) hw;rw[fB];split at q
     ·rename_i items hd;exact ⟨d,items,rfl,hd,q⟩
     ·exact q.elim
    ·obtain ⟨d,items,e2,hd,q⟩:=q;subst e2;obtain ⟨v,e3,rv⟩:=bc rvs;exact ⟨v,F1,G1,d,items,e3,r1,rv,hd,λJ w=>q H1 F1 J x1 r1 w⟩
   refine Call_ (fQ I (S.glo _ g1) hmg (u:=.type "enumerate") boot_enumerate (ff (thn (jA ih (λh=>oZ h) (c:=c) (es:=[_]) (by unfold aC;show (aa c a _&&true)=true;rw[h2];rfl) _ pins s σ H _ I q') λus s1 ⟨vs,H1,I1,r1v,q1⟩=>?_) hs rfl) (cM g2) (bW g2));obtain ⟨v,F1,G1,d,items,e1,r1,rd,hd,q1⟩:=q1;subst e1;obtain ⟨u,rfl,ru⟩:=vals1 r1v;obtain ⟨kk,src⟩:=jD rd ru hd;obtain ⟨vs,sat,_⟩:=src.sat H1 F1 G1 (Ext.refl _ _) r1 (o9 hd);obtain ⟨its,on⟩:=jF I1 sat;rw[<-src.val];refine T8 on λh' hen hit hsz hk=>?_;refine wpAny_pyIter_enum hen ?_;have n1:H1 s1.heap.objs.size=none:=I1.hok.fresh (av _);have n2:H1 (s1.heap.objs.size+1)=none:=I1.hok.fresh (c8 _);refine ⟨s1.heap.objs.size+1,[s1.heap.objs.size+1,s1.heap.objs.size],_,_,H1,rfl,I1.kept (t':=s1.toks) hk,Tz kk _ _ (Nat.succ_ne_self _),⟨⟨_,hen⟩,hit⟩,λb hb=>?_,q1 _ (VN src)⟩;have hb':b=s1.heap.objs.size+1\/b=s1.heap.objs.size:=by simpa using hb
   rcases hb' with rfl |rfl
   ·exact I1.fpOk (c8 _) n2
   ·exact I1.fpOk (av _) n1
theorem V6{M:Model}{A:Around}{E:Value->Shared->Prop}{s:Shared}{env:Env}{pos:Pos}{T:String}{e w:Expr}{kn:Str}{kp:Pos}{Q:Value->Shared->Prop}
  (h:wpAny M A (spliced (backTo pos (starEach [e] env))) (λvs s1=>wpAny M A (eval w env) (λu s2=>wpAny M A (call (.type T) vs [(kn,u)]) Q E s2) E s1) E s)
  (he:starEach [e] env=[(false,eval e env)]):
  wpAny M A (callWith pos (.type T) [] (backTo pos (starEach [e] env)) (backToKw pos (keywordEach [⟨some kn,w,kp⟩] env))) Q E s:=by
 rw[he]at h ⊢;have hb:backTo pos [(false,eval e env)]=[(false,eval e env)]:=rfl;rw[hb]at h ⊢;unfold callWith;have hz:wpAny M A (evalArgs (.type T) true [(false,eval e env)] (backToKw pos (keywordEach [⟨some kn,w,kp⟩] env))) (λa s1=>wpAny M A (call (.type T) a.pos a.kw) Q E s1) E s:=
  evalArgs_kwB rfl (b9 h (λvs s1 h1=>kws_cons (b9 h1 (λu s2 h2=>kws_nil h2) λ_ _ x=>x)) λ_ _ x=>x)
 refine ae (cf (b9 hz (λa s1 h1=>ae (fy ?_)) λ_ _ x=>x));refine ae (am ?_);exact ae (b9 h1 (λr s2 hr=>ae (cf (wpAny_point (am hr)))) λ_ _ x=>x)
theorem V7(S:Stat Φ CX k c E B X){a:Ex}(ih:OkE Φ c E B X a)(ih1:OkE Φ c E B X (.cst (.int 1))){tg e:Expr}(h:bh c (.en1 a) tg e=true):PI X tg e (tI X.K B (wpI Φ (.en1 a) E)):=by
 replace h:=zB h;obtain ⟨_,_,_,nm,np,v0,w0,kp,pos0,rfl,rfl,h⟩:=h;simp only[ah,aE]at h;obtain ⟨⟨⟨⟨e1,h1⟩,hm⟩,h2⟩,h3⟩:=h;subst e1;obtain ⟨g1,g2⟩:=cN h1;have hmg:=S.blt _ (bg.mp hm);have hs:=bF _ [] X.env (cj (bz a h2));intro pins s σ H Rr I q;obtain ⟨ρ,F,G,e0,he,r,hw⟩:=q;rw[nH]at hw;have q':tL X.K B (aD Φ (.cons a .nil) E) σ H (λvs H1=>∃v F1 G1 ds,vs=[v]/\Ext B.H B.F H1 F1/\EnvR X.K H1 F1 ρ σ/\R X.K H1 F1 G1/\Rep X.K H1 F1 (.lst ds) v/\∀H2 F2 J,Ext H1 F1 H2 F2->R X.K H2 F2 G1->WalkJ X.K H2 F2 (bQ 1 ds) [] J->Rr J H2):=by
  refine bM (W:=λds G1=>∃xs,ds=[.lst xs]/\∀H' F' J,Ext H F H' F'->R X.K H' F' G1->WalkJ X.K H' F' (bQ 1 xs) [] J->Rr J H') e0 he r ?_ λds G1 H1 F1 vs q e1 x1 he1 r1 rvs=>?_
  ·rw[eF];refine au a (λd G1 q=>?_) hw;rw[fB];split at q
   ·exact ⟨_,rfl,q⟩
   ·exact q.elim
  ·obtain ⟨xs,e2,q⟩:=q;subst e2;obtain ⟨v,e3,rv⟩:=bc rvs;exact ⟨v,F1,G1,xs,e3,e1,he1,r1,rv,λH2 F2 J x2 r2 w=>q H2 F2 J (x1.trans x2) r2 w⟩
 have hce:eval (.Call (.Name (Str.ofString "enumerate") np) [v0] [⟨some (Str.ofString "start"),w0,kp⟩] pos0) X.env=(do callWith pos0 (<-eval (.Name (Str.ofString "enumerate") np) X.env) [] (backTo pos0 (starEach [v0] X.env)) (backToKw pos0 (keywordEach [⟨some (Str.ofString "start"),w0,kp⟩] X.env))):=rfl;rw[hce];refine ae (fQ I (S.glo _ g1) hmg (u:=.type "enumerate") boot_enumerate (V6 (thn (jA ih (λh=>oZ h) (c:=c) (es:=[_]) (by unfold aC;show (aa c a _&&true)=true;rw[h2];rfl) _ pins s σ H _ I q') λus s1 ⟨vs,H1,I1,r1v,q1⟩=>?_) hs) (cM g2) (bW g2));obtain ⟨v,F1,G1,xs,e1,eB,he1,r1,rd,q1⟩:=q1;subst e1;obtain ⟨u,rfl,ru⟩:=vals1 r1v;refine thn (ih1 h3 pins s1 σ H1 (λv2 H2=>∃F2,v2=.int 1/\Ext H1 F1 H2 F2/\R X.K H2 F2 G1) I1 ⟨ρ,F1,G1,eB,he1,r1,by rw[fG];exact λH2 F2 v2 x2 r2 rv2=>⟨F2,rv2,x2,r2⟩⟩) λw2 s2 ⟨v2,H2,I2,rw2,q2⟩=>?_;obtain ⟨F2,e2,x2,r2⟩:=q2;subst e2;obtain ⟨tk,rfl⟩:=rw2;obtain ⟨kk,src⟩:=jD (G:=G1) (rd.ext x2) ru (rfl:itemsOf G1 (.lst xs)=some (xs,[]));obtain ⟨a0,vs0,ev,fz,rr⟩:=rd.ext x2;subst ev;have hu:u=Value.ref a0:=ru;subst hu;have sat:(SK.lst a0).Sat H2 vs0:=fz.2;obtain ⟨its,on⟩:=jF I2 sat;have src':Src X.K H2 F2 (Value.ref a0) xs [] (.lst a0):=⟨rfl,λH' F' G' x _ _=>⟨vs0,(FzL.ext x fz).2,Reps.ext x rr⟩⟩;refine Qz on λh' hen hit hsz hk=>?_;refine wpAny_pyIter_enum hen ?_;have n1:H2 s2.heap.objs.size=none:=I2.hok.fresh (av _);have n2:H2 (s2.heap.objs.size+1)=none:=I2.hok.fresh (c8 _);refine ⟨s2.heap.objs.size+1,[s2.heap.objs.size+1,s2.heap.objs.size],_,_,H2,rfl,I2.kept (t':=s2.toks) hk,TJ (.lst a0) _ _ (Nat.succ_ne_self _),⟨⟨_,hen⟩,hit⟩,λb hb=>?_,q1 H2 F2 _ x2 r2 (VP src')⟩;have hb':b=s2.heap.objs.size+1\/b=s2.heap.objs.size:=by simpa using hb
 rcases hb' with rfl |rfl
 ·exact I2.fpOk (c8 _) n2
 ·exact I2.fpOk (av _) n1
theorem zap(n:Nat):ZApart (n+4) (n+2) (n+3) n (n+1):=
 ⟨(by omega:(n+2:Nat)≠n+4),(by omega:(n+3:Nat)≠n+4),(by omega:(n:Nat)≠n+4),(by omega:(n+1:Nat)≠n+4),(by omega:(n+2:Nat)≠n+3),(by omega:(n+2:Nat)≠n),(by omega:(n+2:Nat)≠n+1),(by omega:(n+3:Nat)≠n),(by omega:(n+3:Nat)≠n+1),(by omega:(n:Nat)≠n+1)⟩
theorem V8(S:Stat Φ CX k c E B X){a b:Ex}(iha:OkE Φ c E B X a)(ihb:OkE Φ c E B X b){tg e:Expr}(h:bh c (.zip a b) tg e=true):PI X tg e (tI X.K B (wpI Φ (.zip a b) E)):=by
 replace h:=zE h;obtain ⟨_,_,_,_,_,v,v',pos,rfl,rfl,h⟩:=h
 ·skip
  ·simp only[ah,aE]at h;obtain ⟨⟨⟨⟨e1,h1⟩,hm⟩,h2⟩,h3⟩:=h;subst e1;obtain ⟨g1,g2⟩:=cN h1;have hmg:=S.blt _ (bg.mp hm);have hs2:=bF v' [] X.env (cj (bz b h3));have hs:=bF v [v'] X.env (cj (bz a h2));intro pins s σ H Rr I q;obtain ⟨ρ,F,G,e0,he,r,hw⟩:=q;rw[mO]at hw;have hA:aC c (.cons a (.cons b .nil)) [v,v']=true:=by
    unfold aC aC aC;show (aa c a v&&(aa c b v'&&true))=true;rw[h2,h3];rfl
   have q':tL X.K B (aD Φ (.cons a (.cons b .nil)) E) σ H (λvs H1=>∃v v' F1 G1 d d' items items',vs=[v,v']/\R X.K H1 F1 G1/\Rep X.K H1 F1 d v/\Rep X.K H1 F1 d' v'/\itemsOf G1 d=some items/\itemsOf G1 d'=some items'/\∀J,WalkJ X.K H1 F1 (bx items.1 items'.1) (items.2++items'.2) J->Rr J H1):=by
    refine bM (W:=λds G1=>∃d d' items items',ds=[d,d']/\itemsOf G1 d=some items/\itemsOf G1 d'=some items'/\∀H' F' J,Ext H F H' F'->R X.K H' F' G1->WalkJ X.K H' F' (bx items.1 items'.1) (items.2++items'.2) J->Rr J H') e0 he r ?_ λds G1 H1 F1 vs q e1 x1 he1 r1 rvs=>?_
    ·rw[eF];refine au a (λd G1 q=>?_) hw;rw[eF];refine au b (λd' G2 q=>?_) q;rw[fB];split at q
     ·rename_i items items' hd hd';exact ⟨d,d',items,items',rfl,hd,hd',q⟩
     ·exact q.elim
    ·obtain ⟨d,d',items,items',e2,hd,hd',q⟩:=q;subst e2;obtain ⟨w1,r2,e3,rw1,t2⟩:=rvs;obtain ⟨w2,e4,rw2⟩:=bc t2;subst e4;exact ⟨w1,w2,F1,G1,d,d',items,items',e3,r1,rw1,rw2,hd,hd',λJ w=>q H1 F1 J x1 r1 w⟩
   refine Call_ (fQ I (S.glo _ g1) hmg (u:=.type "zip") O7 (ff (thn (jA iha (λh=>jA ihb (λh=>oZ h) h) (c:=c) (es:=[v,v']) hA _ pins s σ H _ I q') λus s1 ⟨vs,H1,I1,r1v,q1⟩=>?_) hs (by rw[hs2];rfl)) (cM g2) (bW g2));obtain ⟨w1,w2,F1,G1,d,d',items,items',e1,r1,rd,rd',hd,hd',q1⟩:=q1;subst e1;obtain ⟨u,u',rfl,ru,ru'⟩:=vals2 r1v;obtain ⟨kk,src⟩:=jD rd ru hd;obtain ⟨ll,src'⟩:=jD rd' ru' hd';obtain ⟨vs,sat,_⟩:=src.sat H1 F1 G1 (Ext.refl _ _) r1 (o9 hd);obtain ⟨ws,sat',_⟩:=src'.sat H1 F1 G1 (Ext.refl _ _) r1 (o9 hd');obtain ⟨its,on⟩:=jF I1 sat;obtain ⟨its',on'⟩:=jF I1 sat';rw[<-src.val,<-src'.val];refine T6 on on' λh' hz hTI hTO p1 p2 hsz hk=>?_;refine wpAny_pyIter_zip hz ?_;have fr:∀j,H1 (s1.heap.objs.size+j)=none:=λj=>I1.hok.fresh (c9 _ _);refine ⟨s1.heap.objs.size+4,[s1.heap.objs.size+4,s1.heap.objs.size+2,s1.heap.objs.size+3,s1.heap.objs.size,s1.heap.objs.size+1],_,_,H1,rfl,I1.kept (t':=s1.toks) hk,
    T3 kk ll (s1.heap.objs.size+4) (s1.heap.objs.size+2) (s1.heap.objs.size+3) s1.heap.objs.size (s1.heap.objs.size+1) (zap s1.heap.objs.size),⟨hz,hTI,⟨_,_,hTO⟩,p1,p2⟩,λb hb=>?_,q1 _ (VR src src')⟩
   have hb':b=s1.heap.objs.size+4\/b=s1.heap.objs.size+2\/b=s1.heap.objs.size+3\/b=s1.heap.objs.size\/b=s1.heap.objs.size+1:=by simpa using hb
   rcases hb' with rfl |rfl |rfl |rfl |rfl
   ·exact I1.fpOk (c9 _ _) (fr 4)
   ·exact I1.fpOk (c9 _ _) (fr 2)
   ·exact I1.fpOk (c9 _ _) (fr 3)
   ·exact I1.fpOk (av _) (fr 0)
   ·exact I1.fpOk (c9 _ _) (fr 1)
end
section
variable {Φ:ak} {CX:CXT} {k:Nat} {c:CT} {E:EK} {B:Bs} {X:Cx}
theorem uf:∀{l:List Str},dw l=true->l.Nodup
 |[],_=>List.nodup_nil
 |x::r,h=>by
  unfold dw at h;rw[ah]at h;refine fb.mpr ⟨λhm=>?_,uf h.2⟩;have:=h.1;rw[bg.mpr hm]at this;cases this
theorem pA{N:List Str}{scope:Scope}:∀{N':List Str}{cap:List (Option Nat)},X.N=N->fH N scope N' cap=true->Caps X scope N' cap
 |[],[],_,_=>trivial
 |_::N',none::cap,e,h=>pA (N':=N') (cap:=cap) e h
 |x::N',some j::cap,e,h=>by
  unfold fH at h;simp only[ah,aE]at h;exact ⟨⟨by rw[e];exact h.1.1,h.1.2⟩,pA (N':=N') (cap:=cap) e h.2⟩
 |[],_::_,_,h=>by cases h
 |_::_,[],_,h=>by cases h
theorem jG{scope:Scope}{env:Env}(x:Str):(relabel scope env).names.lookup x=(scope.names.lookup x).map λkk=>if (kk==NameKind.free&&env.scope.kind==.function&&env.kindOf x==some .cell)=true then NameKind.cell else kk:=qt
theorem Stat.comp(S:Stat Φ CX k c E B X){N':List Str}{scope:Scope}(hn:dw N'=true)(cl:List (Str×Addr))(C:Addr)(s₁:Shared)(H₁:Hp)(fp:List Addr)(pn:List (Addr×Obj)):
  Stat Φ CX k (c.comp N' scope) noE B (X.comp N' scope cl C s₁ H₁ fp pn) where
 N:=rfl
 nd:=uf hn
 calm:=S.calm
 own:=PassesOwn.never
 kd:=rfl
 vis:=λx h=>by
  have h:gh (scope.names.lookup x)=true:=h;show (relabel scope X.env).names.lookup x=_\/(relabel scope X.env).names.lookup x=_\/(relabel scope X.env).names.lookup x=_;rw[jG];cases e:scope.names.lookup x with
  |none=>rw[e]at h;cases h
  |some kk=>
   rw[e]at h;cases kk with
   | «local»=>exact .inl (by simp[show (NameKind.«local»==NameKind.free)=false by decide])
   |cell=>exact .inr (.inl (by simp[show (NameKind.cell==NameKind.free)=false by decide]))
   |free=>
    by_cases q:(NameKind.free==NameKind.free&&X.env.scope.kind==ScopeKind.function&&X.env.kindOf x==some NameKind.cell)=true
    ·exact .inr (.inl (by simp only[Option.map_some,if_pos q]))
    ·exact .inr (.inr (by simp only[Option.map_some,if_neg q]))
   |globalExplicit=>cases h
   |globalImplicit=>cases h
 cel:=λx h=>by
  have h:scope.names.lookup x=some .cell\/scope.names.lookup x=some .free:=h;show (relabel scope X.env).names.lookup x=_\/(relabel scope X.env).names.lookup x=_;rw[jG];rcases h with h |h
  ·exact .inl (by rw[h];simp[show (NameKind.cell==NameKind.free)=false by decide])
  ·rw[h];by_cases q:(NameKind.free==NameKind.free&&X.env.scope.kind==ScopeKind.function&&X.env.kindOf x==some NameKind.cell)=true
   ·exact .inl (by simp only[Option.map_some,if_pos q])
   ·exact .inr (by simp only[Option.map_some,if_neg q])
 glo:=λx h=>by
  have h:scope.names.lookup x=some .globalImplicit:=h;show (relabel scope X.env).names.lookup x=_;rw[jG,h];simp[show (NameKind.globalImplicit==NameKind.free)=false by decide]
 sto:=λx h=>by
  have h:(scope.names.lookup x==some .local||(false&&scope.names.lookup x==some .cell))=true:=h;rw[Bool.false_and,Bool.or_false,aE]at h;have e:(relabel scope X.env).names.lookup x=some .local:=by rw[jG,h];simp[show (NameKind.«local»==NameKind.free)=false by decide]
  exact ⟨.inl e,.inr e⟩
 room:=S.room
 call:=S.call
 blt:=S.blt
 con:=S.con
 exc:=⟨_,S.nox _,λ_ _ _ _ _ _ _ _ _ _ q=>q.elim,λx G' H' F' h=>h.elim⟩
 nox:=S.nox
 xcl:=λC h=>nomatch (show false=true from h)
 loc:=λx h=>by show (relabel scope X.env).names.lookup x=_;rw[jG,show scope.names.lookup x=some .local from h];simp[show (NameKind.«local»==NameKind.free)=false by decide]
 xis:=λC h=>nomatch (show false=true from h)
 mth:=S.mth
 mko:=S.mko
 fld:=S.fld
 xko:=λC f h=>⟨(S.xko C f h).1,λ_ _ z=>nomatch (show false=true from z)⟩
 trc:=λh=>absurd rfl h
theorem V9(S:Stat Φ CX k c E B X){t:Tx}(ih:OkT Φ c E B X t){ifs:List Expr}(h:jw c t ifs=true):PIf X ifs (tB' X.K B (wpT Φ t E)):=by
 unfold jw at h;rw[cq]at h;rcases h with h |h
 ·rw[ah,List.isEmpty_iff]at h;obtain ⟨hy,rfl⟩:=h;cases t with
  |yes=>
   intro pins s σ H Q I q;refine Ov pins s σ H Q I ?_;obtain ⟨ρ,F,G,e0,he,r,hw⟩:=q;rw[mC]at hw;exact hw.now r
  |_=>cases hy
 ·obtain ⟨e,he,h⟩:=aM h;rw[cA he];exact Ow (ih h)
theorem zW(S:Stat Φ CX k c E B X){fz:Bool}{elt:Ex}{tg:Tg}{it:It'}{cond:Tx}{N':List Str}{cap:List (Option Nat)}{scope:Scope}{elt' tg':Expr}{ifs:List Expr}(hn:dw N'=true)
  (ihe:∀{X':Cx},Stat Φ CX k (c.comp N' scope) noE B X'->OkE Φ (c.comp N' scope) noE B X' elt) (iht:∀{X':Cx},Stat Φ CX k (c.comp N' scope) noE B X'->OkT Φ (c.comp N' scope) noE B X' cond)
  (hg:bJ (c.comp N' scope) tg tg'=true) (hi:jw (c.comp N' scope) cond ifs=true) (he:aa (c.comp N' scope) elt elt'=true)
  {σ:L2.St} {H:Hp} {Q:VK} {ρ:aj} {F:FZ} {G:DH} (e0:Ext B.H B.F H F) (henv:EnvR X.K H F ρ σ) (r:R X.K H F G)
  (hw:wpI Φ it E ρ G λitems g G1=>
   compLoop (λd ρ' G' k'=>aJ tg d ρ' G' λρ1=>wpT Φ cond noE ρ1 G' λb G2=>match b with |true=>wpE Φ elt noE ρ1 G2 λy G3=>k' (some y) ρ1 G3 |false=>k' none ρ1 G2)
    g items [] (cap.map λo=>match o with |none=>none |some j=>(ρ[j]?).join) G1 λds G2=>mk fz ds G2 (PV X.K H F Q)):
  tI X.K B (wpI Φ it E) σ H (λJ H1=>qC true X N' scope tg' (emT ifs elt') J (cT cap σ) H1 Q):=by
 refine ⟨ρ,F,G,e0,henv,r,dN it (λitems g G1 q H1 F1 J x1 r1 W=>?_) hw⟩;let step:D->aj->DH->(Option D->aj->DH->Prop)->Prop:=λd ρ' G' k'=>aJ tg d ρ' G' λρ1=>wpT Φ cond noE ρ1 G' λb G2=>match b with |true=>wpE Φ elt noE ρ1 G2 λy G3=>k' (some y) ρ1 G3 |false=>k' none ρ1 G2
 let fin:List D->DH->Prop:=λds G2=>mk fz ds G2 (PV X.K H F Q)
 refine ⟨λi m ys σ' H'=>m=items.length - i/\i<=items.length/\∃ρ' F' G' acc,Ext B.H B.F H' F'/\Ext H1 F1 H' F'/\EnvR X.K H' F' ρ' σ'/\R X.K H' F' G'/\Reps X.K H' F' acc ys/\compLoop step g (items.drop i) acc ρ' G' fin,
  ⟨items.length,by simp,e8 _,_,F1,G1,[],e0.trans x1,Ext.refl _ _,(henv.ext x1).cap cap,r1,rfl,q⟩,?_⟩
 rintro i m ys σ' H' ⟨rfl,hle,ρ',F',G',acc,eB,e1,he',r',ra,hl⟩;by_cases hlt:i < items.length
 ·have hd:items.drop i=items[i]::items.drop (i+1):=bn hlt;rw[hd]at hl;obtain ⟨hh,hz,hl⟩:=hl;refine .inr ⟨W.go H' F' G' i e1 r' hh hlt,λ_=>by rw[<-ra.length];exact bb hz szl,λcl C s₁ H₁ fp pn=>?_⟩;have S':=S.comp (scope:=scope) hn cl C s₁ H₁ fp pn;refine ⟨_,tmT _ _,gn S' tg hg,λa ha=>Qm rfl ha (V9 S' (iht S') hi) (ihe S' he),λx H2 hy=>?_⟩;obtain ⟨xy,ry,rx⟩:=W.yld H' F' i x H2 items[i] G' e1 r' hh (by simp[hlt]) hy;refine ⟨ρ',F',G',items[i],eB.trans xy,he'.ext xy,ry,rx,cI (λρ1 z σ1 hσ1=>?_) tg hl⟩;unfold tmT;refine jz (eB.trans xy) hσ1 ry z λb G2 H3 F3 z e3 x3 he3 r3=>?_;cases b with
  |true=>
   rw[if_pos rfl];refine aF e3 he3 r3 z λy G4 H4 F4 v z e4 x4 he4 r4 rv=>?_;exact ⟨items.length - (i+1),by omega,rfl,hlt,ρ1,F4,G4,acc++[y],e4,e1.trans (xy.trans (x3.trans x4)),he4,r4,(Reps.ext (xy.trans (x3.trans x4)) ra).append (Reps.cons rv Reps.nil),z⟩
  |false=>
   rw[if_neg bo];exact ⟨items.length - (i+1),by omega,rfl,hlt,ρ1,F3,G2,acc,e3,e1.trans (xy.trans x3),he3,r3,Reps.ext (xy.trans x3) ra,z⟩
 ·have hi':i=items.length:=by omega
  subst hi';rw[eT]at hl;obtain ⟨hh,hz,hl⟩:=hl;refine .inl ⟨W.stop H' F' G' e1 r' hh,by rw[<-ra.length];exact bU hz,λp hp=>?_⟩;exact cY (b8 (λd G' z=>PV.later z (x1.trans e1)) hl) r' ra p hp
structure CompC(c:CT)(elt:Ex)(tg:Tg)(it:It')(cond:Tx)(N':List Str)(cap:List (Option Nat))(elt' tg' iter:Expr)(ifs:List Expr)(scope:Scope):Prop where
 it:bh c it tg' iter=true
 cap:fH c.N scope N' cap=true
 sc:iw c scope=true
 nd:dw N'=true
 tg:bJ (c.comp N' scope) tg tg'=true
 cd:jw (c.comp N' scope) cond ifs=true
 el:aa (c.comp N' scope) elt elt'=true
theorem zX(S:Stat Φ CX k c E B X){scope:Scope}(h:iw c scope=true):scope.names.all (λy=>y.2 != NameKind.cell)=true/\scope.names.all (λy=>y.2 != NameKind.local||scope.names.lookup y.1==some NameKind.local)=true/\
  scope.names.all (λy=>y.2 != NameKind.free||(X.env.kindOf y.1==some NameKind.cell||X.env.kindOf y.1==some NameKind.free))=true/\scope.kind=.function:=by
 unfold iw at h;simp only[ah,cr]at h;obtain ⟨⟨⟨⟨h1,h2⟩,h3⟩,h4⟩,_⟩:=h;refine ⟨h1,h2,?_,h4⟩;rw[bS]at h3 ⊢;intro y hy;have:=h3 y hy;rw[cq,cq,aE,aE]at this;rw[cq,cq,aE,aE];rcases this with q |q
 ·exact .inl q
 ·exact .inr (S.cel y.1 q)
theorem zY{fz:Bool}{elt:Ex}{tg:Tg}{it:It'}{cond:Tx}{N:List String}{cap:List (Option Nat)}{e:Expr}(h:aa c (.comp fz elt tg it cond N cap) e=true):
  ∃elt' tg' iter ifs scope pos,e=.ListComp elt' [⟨tg',iter,ifs,0⟩] scope pos/\CompC c elt tg it cond (N.map Str.ofString) cap elt' tg' iter ifs scope:=by
 replace h:=zy h;obtain ⟨_,_,_,_,_,_,_,rfl,h⟩:=h;simp only[ah,cr]at h;obtain ⟨⟨⟨⟨⟨⟨⟨h1,h2⟩,h3⟩,h4⟩,h5⟩,h6⟩,h7⟩,h8⟩:=h;subst h1;exact ⟨_,_,_,_,_,_,rfl,h2,h3,h4,h5,h6,h7,h8⟩
theorem ug{it:It'}{tg' iter:Expr}(h:bh c it tg' iter=true)(env:Env)(x:Value):foldedSetIterable iter env x=pure x:=by
 cases it with
 |seq y=>exact Ux (bz y (show aa c y iter=true from h)) env x
 |rng a=>obtain ⟨_,_,_,_,rfl,_⟩:=zz h;rfl
 |rng2 _ _=>exact nomatch (show false=true from h)
 |rev _=>exact nomatch (show false=true from h)
 |dwn _ _ _=>exact nomatch (show false=true from h)
 |enm a=>obtain ⟨_,_,_,_,_,_,_,_,rfl,_⟩:=zA h;rfl
 |en1 a=>obtain ⟨_,_,_,_,_,_,_,_,_,_,rfl,_⟩:=zB h;rfl
 |zip a b=>obtain ⟨_,_,_,_,_,_,_,_,_,rfl,_⟩:=zE h;rfl
theorem Wa(S:Stat Φ CX k c E B X){fz:Bool}{elt:Ex}{tg:Tg}{it:It'}{cond:Tx}{N:List String}{cap:List (Option Nat)}
  (ihe:∀{c':CT}{X':Cx},Stat Φ CX k c' noE B X'->OkE Φ c' noE B X' elt) (iht:∀{c':CT}{X':Cx},Stat Φ CX k c' noE B X'->OkT Φ c' noE B X' cond)
  (ihi:∀{tg' iter:Expr},bh c it tg' iter=true->PI X tg' iter (tI X.K B (wpI Φ it E))) {e:Expr} (h:aa c (.comp fz elt tg it cond N cap) e=true):
  PE X e (tE X.K B (wpE Φ (.comp fz elt tg it cond N cap) E)):=by
 obtain ⟨elt',tg',iter,ifs,scope,pos,rfl,C⟩:=zY h;obtain ⟨s1,s2,s3,s4⟩:=zX S C.sc;refine peI (Qn (lim:=true) (N.map Str.ofString) cap S.calm (ihi C.it) (pA S.N C.cap) s1 s2 s3 s4 (ug C.it X.env) (wI _ _ _ _ _ _)) λσ H Q hq=>el hq λρ F G e0 he r hw=>?_;rw[sI]at hw;exact zW S C.nd (λS'=>ihe S') (λS'=>iht S') C.tg C.cd C.el e0 he r hw
def RelM(K:PF)(B:Bs)(eD:List D->aj->DH->(List D->aj->DH->Prop)->Prop)(tm:TM):Prop:=
 ∀(σ:L2.St)(H:Hp)(ρ:aj)(F:FZ)(G:DH)(acc:List D)(ys:List V)(W:List D->aj->DH->Prop)(Q:List V->L2.St->Hp->Prop),Ext B.H B.F H F->EnvR K H F ρ σ->R K H F G->Reps K H F acc ys->eD acc ρ G W->
  (∀acc' ρ' G' H' F' σ' ys',W acc' ρ' G'->Ext H F H' F'->EnvR K H' F' ρ' σ'->R K H' F' G'->Reps K H' F' acc' ys'->Q ys' σ' H')->tm ys σ H Q
theorem Wb{K:PF}{elt:Ex}:RelM K B (λacc ρ G k=>acc.length < sz/\wpE Φ elt noE ρ G λy G'=>k (acc++[y]) ρ G') (tmE (tE K B (wpE Φ elt noE))):=by intro σ H ρ F G acc ys W Q e0 he r ra hw hk;refine ⟨by rw[<-ra.length];exact bb hw.1 szl,aF e0 he r hw.2 λy G1 H1 F1 v q e1 x1 he1 r1 rv=>?_⟩;exact hk _ _ _ H1 F1 _ _ q x1 he1 r1 ((Reps.ext x1 ra).append (Reps.cons rv Reps.nil))
theorem zZ{K:PF}{t:Tg}{eD:List D->aj->DH->(List D->aj->DH->Prop)->Prop}{tm:TM}(hr:RelM K B eD tm){items:List D}{g:Hld}{ρ:aj}{G:DH}{acc:List D}{ys:List V}{σ:L2.St}{H:Hp}{F:FZ}{J:It}{W:List D->aj->DH->Prop}{Q:List V->L2.St->Hp->Prop}
  (e0:Ext B.H B.F H F) (he:EnvR K H F ρ σ) (r:R K H F G) (ra:Reps K H F acc ys) (Wk:WalkJ K H F items g J) (hw:cV (λd acc ρ' G' k=>aJ t d ρ' G' λρ1=>eD acc ρ1 G' k) g items acc ρ G W)
  (hk:∀acc' ρ' G' H' F' σ' ys',W acc' ρ' G'->Ext H F H' F'->EnvR K H' F' ρ' σ'->R K H' F' G'->Reps K H' F' acc' ys'->Q ys' σ' H'):wJ J (tG K B t) tm ys σ H Q:=by
 refine ⟨λi m ys σ' H'=>m=items.length - i/\i<=items.length/\∃ρ' F' G' acc,Ext B.H B.F H' F'/\Ext H F H' F'/\EnvR K H' F' ρ' σ'/\R K H' F' G'/\Reps K H' F' acc ys/\cV (λd acc ρ' G' k=>aJ t d ρ' G' λρ1=>eD acc ρ1 G' k) g (items.drop i) acc ρ' G' W,
  ⟨items.length,by simp,e8 _,ρ,F,G,acc,e0,Ext.refl _ _,he,r,ra,hw⟩,?_⟩
 rintro i m ys σ' H' ⟨rfl,hle,ρ',F',G',acc,eB,e1,he',r',ra,hl⟩;by_cases hlt:i < items.length
 ·have hd:items.drop i=items[i]::items.drop (i+1):=bn hlt;rw[hd]at hl;obtain ⟨hh,hl⟩:=hl;refine .inr ⟨Wk.go H' F' G' i e1 r' hh hlt,λx H2 hy=>?_⟩;obtain ⟨xy,ry,rx⟩:=Wk.yld H' F' i x H2 items[i] G' e1 r' hh (by simp[hlt]) hy;refine ⟨ρ',F',G',items[i],eB.trans xy,he'.ext xy,ry,rx,cI (λρ1 z σ1 hσ1=>?_) t hl⟩;refine hr _ _ _ _ _ _ _ _ _ (eB.trans xy) hσ1 ry (Reps.ext xy ra) z λacc' ρ2 G2 H3 F3 σ3 ys3 q x3 he3 r3 ra3=>?_;exact ⟨items.length - (i+1),by omega,rfl,hlt,ρ2,F3,G2,acc',(eB.trans xy).trans x3,e1.trans (xy.trans x3),he3,r3,ra3,q⟩
 ·have hi':i=items.length:=by omega
  subst hi';rw[eT]at hl;exact .inl ⟨Wk.stop H' F' G' e1 r' hl.1,hk _ _ _ _ _ _ _ hl.2 e1 he' r' ra⟩
theorem z6{K:PF}{t:Tg}{it:It'}{eD:List D->aj->DH->(List D->aj->DH->Prop)->Prop}{tm:TM}(hr:RelM K B eD tm):
  RelM K B (λacc ρ G k=>wpI Φ it noE ρ G λitems g G1=>cV (λd acc ρ' G' k=>aJ t d ρ' G' λρ1=>eD acc ρ1 G' k) g items acc ρ G1 k) (tmG (tI K B (wpI Φ it noE)) (tG K B t) tm):=by
 intro σ H ρ F G acc ys W Q e0 he r ra hw hk;refine ⟨ρ,F,G,e0,he,r,dN it (λitems g G1 q H1 F1 J x1 r1 Wk=>?_) hw⟩;exact zZ hr (e0.trans x1) (he.ext x1) r1 (Reps.ext x1 ra) Wk q λacc' ρ' G' H' F' σ' ys' z x2 he2 r2 ra2=>hk _ _ _ _ _ _ _ z (x1.trans x2) he2 r2 ra2
theorem aao(S:Stat Φ CX k c E B X){elt:Ex}{t1 t2 t3:Tg}{i1 i2 i3:It'}{N':List Str}{cap:List (Option Nat)}{scope:Scope}{elt' a1 b1 a2 b2 a3 b3:Expr}{pos:Pos}(hn:dw N'=true)
  (ihe:∀{X':Cx},Stat Φ CX k (c.comp N' scope) noE B X'->OkE Φ (c.comp N' scope) noE B X' elt)
  (ih2:∀{X':Cx},Stat Φ CX k (c.comp N' scope) noE B X'->PI X' a2 b2 (tI X'.K B (wpI Φ i2 noE))) (ih3:∀{X':Cx},Stat Φ CX k (c.comp N' scope) noE B X'->PI X' a3 b3 (tI X'.K B (wpI Φ i3 noE)))
  (f2:∀env x,foldedSetIterable b2 env x=pure x) (f3:∀env x,foldedSetIterable b3 env x=pure x)
  (hg1:bJ (c.comp N' scope) t1 a1=true) (hg2:bJ (c.comp N' scope) t2 a2=true) (hg3:bJ (c.comp N' scope) t3 a3=true) (he:aa (c.comp N' scope) elt elt'=true)
  {σ:L2.St} {H:Hp} {Q:VK} {ρ:aj} {F:FZ} {G:DH} (e0:Ext B.H B.F H F) (henv:EnvR X.K H F ρ σ) (r:R X.K H F G)
  (hw:wpE Φ (.cm3 elt t1 i1 t2 i2 t3 i3 N0 cap) E ρ G (PV X.K H F Q)):
  tI X.K B (wpI Φ i1 E) σ H (λJ H1=>qC false X N' scope a1 (emG (.ListComp elt' [⟨a1,b1,[],0⟩,⟨a2,b2,[],0⟩,⟨a3,b3,[],0⟩] scope pos) 1 b2) J (cT cap σ) H1 Q):=by
 rw[xQ]at hw;refine ⟨ρ,F,G,e0,henv,r,dN i1 (λitems g G1 q H1 F1 J x1 r1 W=>?_) hw⟩;have rel:=z6 (Φ:=Φ) (K:=X.K) (B:=B) (t:=t2) (it:=i2) (z6 (Φ:=Φ) (t:=t3) (it:=i3) (Wb (Φ:=Φ) (elt:=elt)));obtain ⟨WW,⟨m0,w0⟩,turn⟩:=zZ (t:=t1) (Q:=λys _ H'=>ys.length<=sizeLine/\∀D,H' D=none->Q (.ref D) (upd H' D (.lst ys))) rel (e0.trans x1) ((henv.ext x1).cap cap) r1 (Reps.nil) W q λacc' ρ' G' H' F' σ' ys' z x2 he2 r2 ra2=>
  ⟨by rw[<-ra2.length];exact bU z.1,λp hp=>cY (b8 (λd G' z=>PV.later z (x1.trans x2)) z.2) r2 ra2 p hp⟩
 refine ⟨WW,⟨m0,w0⟩,λi m ys σ' H' w=>?_⟩;rcases turn i m ys σ' H' w with ⟨st,z1,z2⟩ |⟨go,step⟩
 ·exact .inl ⟨st,z1,z2⟩
 ·refine .inr ⟨go,(λz=>nomatch z),λcl C s₁ H₁ fp pn=>?_⟩;have S':=S.comp (scope:=scope) hn cl C s₁ H₁ fp pn;exact ⟨_,_,gn S' t1 hg1,λa ha=>wK rfl S'.calm rfl (Qk _ _ _ _ _ _ _ _ _) (ih2 S') (gn S' t2 hg2) (f2 _) (wK rfl S'.calm rfl (Qj _ _ _ _ _ _ _ _ _) (ih3 S') (gn S' t3 hg3) (f3 _) (wH rfl ha (ihe S' he))),step⟩
theorem Wc(S:Stat Φ CX k c E B X){elt:Ex}{t1 t2 t3:Tg}{i1 i2 i3:It'}{N:List String}{cap:List (Option Nat)}
  (ihe:∀{c':CT}{X':Cx},Stat Φ CX k c' noE B X'->OkE Φ c' noE B X' elt) (ih1:∀{tg' iter:Expr},bh c i1 tg' iter=true->PI X tg' iter (tI X.K B (wpI Φ i1 E)))
  (ih2:∀{c':CT}{X':Cx},Stat Φ CX k c' noE B X'->∀{tg' iter:Expr},bh c' i2 tg' iter=true->PI X' tg' iter (tI X'.K B (wpI Φ i2 noE)))
  (ih3:∀{c':CT}{X':Cx},Stat Φ CX k c' noE B X'->∀{tg' iter:Expr},bh c' i3 tg' iter=true->PI X' tg' iter (tI X'.K B (wpI Φ i3 noE))) {e:Expr} (h:aa c (.cm3 elt t1 i1 t2 i2 t3 i3 N cap) e=true):
  PE X e (tE X.K B (wpE Φ (.cm3 elt t1 i1 t2 i2 t3 i3 N cap) E)):=nomatch (show false=true from h)
theorem aN{x:Ex}(ih:OkE Φ c E B X x)(hn:∀l os rs pos,aa c x (.Compare l os rs pos)=true->False){e:Expr}(h:bC c (.val x) e=true):PT X e (tB' X.K B (wpT Φ (.val x) E)):=by
 have h:((gj e||ju e)&&aa c x e&&yN x)=true:=h;simp only[ah,cq]at h;obtain ⟨⟨h1,h2⟩,h3⟩:=h;rcases h1 with h1 |h1
 ·exact Vy ih h1 h2
 ·obtain ⟨⟨t,ht⟩,_⟩:=ci.mp h1;rw[ht]at h2;exact (hn _ _ _ _ h2).elim
end
mutual
theorem ao{Φ:ak}{CX:CXT}{k:Nat}{B:Bs}:∀(x:Ex){c:CT}{E:EK}{X:Cx},Stat Φ CX k c E B X->OkE Φ c E B X x
 |.var i,c,E,X,S=>by intro h;exact UT S h
 |.cst d,c,E,X,S=>by intro h;exact zL S h
 |.glb x d,c,E,X,S=>by intro h;exact UV S h
 |.bin op fz a b,c,E,X,S=>by intro h;exact UW S (ao a S) (ao b S) h
 |.neg a,c,E,X,S=>by intro h;exact U0 S (ao a S) h
 |.cmp op a b,c,E,X,S=>by intro h;exact (zM S (ao a S) (ao b S) h).1
 |.chn op op' a b d,c,E,X,S=>by intro h;exact (zN S (ao a S) (ao b S) (ao d S) h).1
 |.not a,c,E,X,S=>by intro h;exact U3 S (ao a S) h
 |.boo isAnd e es,c,E,X,S=>by intro h;exact Vw (ao e S) (dB es S) h
 |.ife t a b,c,E,X,S=>by intro h;exact Vx (gq t S) (ao a S) (ao b S) h
 |.tup es,c,E,X,S=>by intro h;exact U4 S (EachE.oks (dB es S)) h
 |.lst fz es,c,E,X,S=>by intro h;exact U5 S (EachE.oks (dB es S)) h
 |.idx a i,c,E,X,S=>by intro h;exact U6 S (ao a S) (ao i S) h
 |.slc fz a lo hi,c,E,X,S=>by intro h;exact U7 S (ao a S) (z8 lo S) (z8 hi S) h
 |.rvs fz a s,c,E,X,S=>by intro h;exact U8 S (ao a S) (ao s S) h
 |.call f es,c,E,X,S=>by intro h;exact Va S (EachE.oks (dB es S)) h
 |.bcl f es,c,E,X,S=>by intro h;exact Vb S (EachE.oks (dB es S)) h
 |.lcl fz f es,c,E,X,S=>by intro h;exact Vc S (EachE.oks (dB es S)) h
 |.isi a t,c,E,X,S=>by intro h;exact Vi S (ao a S) h
 |.isx a C xs,c,E,X,S=>by intro h;exact Vj S (ao a S) h
 |.fst es,c,E,X,S=>by intro h;exact Vv S (dB es S) h
 |.rgl fz a,c,E,X,S=>by intro h;exact Vf S (ao a S) h
 |.srs fz a,c,E,X,S=>by intro h;exact Ve S (ao a S) h
 |.rgt a,c,E,X,S=>by intro h;exact Vg S (ao a S) h
 |.fld C f o,c,E,X,S=>by intro h;exact Vm S (ao o S) h
 |.mcl f C m o es,c,E,X,S=>by intro h;exact Vn S (ao o S) (EachE.oks (dB es S)) h
 |.mko C es,c,E,X,S=>by intro h;exact Vo S (EachE.oks (dB es S)) h
 |.mkx C a,c,E,X,S=>by intro h;exact Vq S (ao a S) h
 |.mki C f a,c,E,X,S=>by intro h;exact Vr S (ao a S) h
 |.xat C f a,c,E,X,S=>by intro h;exact Vs S (ao a S) h
 |.pp0 o,c,E,X,S=>by intro h;exact Vt S (ao o S) h
 |.rpl f a b ix,c,E,X,S=>by intro h;exact Vl S (ao a S) (ao b S) (ao ix S) h
 |.mth m o es,c,E,X,S=>by intro h;exact Vu S (ao o S) (EachE.oks (dB es S)) h
 |.comp fz elt tg it cond N cap,c,E,X,S=>by intro h;exact Wa S (λS'=>ao elt S') (λS'=>gq cond S') (iG it S) h
 |.cm3 elt t1 i1 t2 i2 t3 i3 N cap,c,E,X,S=>by intro h;exact Wc S (λS'=>ao elt S') (iG i1 S) (λS'=>iG i2 S') (λS'=>iG i3 S') h
 |.frz a,c,E,X,S=>by intro h;exact U9 S (ao a S) h
theorem dB{Φ:ak}{CX:CXT}{k:Nat}{B:Bs}:∀(x:Exs){c:CT}{E:EK}{X:Cx},Stat Φ CX k c E B X->EachE Φ c E B X x
 |.nil,_,_,_,_=>trivial
 |.cons e es,c,E,X,S=>⟨ao e S,dB es S⟩
theorem gq{Φ:ak}{CX:CXT}{k:Nat}{B:Bs}:∀(x:Tx){c:CT}{E:EK}{X:Cx},Stat Φ CX k c E B X->OkT Φ c E B X x
 |.not t,c,E,X,S=>by intro h;exact Vz (gq t S) h
 |.boo isAnd t ts,c,E,X,S=>by intro h;exact VB (gq t S) (z7 ts S) h
 |.yes,c,E,X,S=>by intro h;exact nomatch (show false=true from h)
 |.val (.cmp op a b),c,E,X,S=>by
  intro h;have h:((gj _||ju _)&&aa c (.cmp op a b) _&&true)=true:=h;simp only[ah]at h;exact (zM S (ao a S) (ao b S) h.1.2).2
 |.val (.chn op op' a b d),c,E,X,S=>by
  intro h;have h:((gj _||ju _)&&aa c (.chn op op' a b d) _&&true)=true:=h;simp only[ah]at h;exact (zN S (ao a S) (ao b S) (ao d S) h.1.2).2
 |.val (.frz a),c,E,X,S=>by
  intro h;have h:((gj _||ju _)&&aa c (.frz a) _&&false)=true:=h;rw[fS]at h;cases h
 |.val (.var i),c,E,X,S=>by intro h;exact aN (ao (.var i) S) (λ_ _ _ _ h=>nomatch (show false=true from h)) h
 |.val (.cst d),c,E,X,S=>by intro h;exact aN (ao (.cst d) S) (λ_ _ _ _ h=>nomatch (show false=true from h)) h
 |.val (.glb x d),c,E,X,S=>by intro h;exact aN (ao (.glb x d) S) (λ_ _ _ _ h=>nomatch (show false=true from h)) h
 |.val (.bin op fz a b),c,E,X,S=>by intro h;exact aN (ao (.bin op fz a b) S) (λ_ _ _ _ h=>nomatch (show false=true from h)) h
 |.val (.neg a),c,E,X,S=>by intro h;exact aN (ao (.neg a) S) (λ_ _ _ _ h=>nomatch (show false=true from h)) h
 |.val (.not a),c,E,X,S=>by intro h;exact aN (ao (.not a) S) (λ_ _ _ _ h=>nomatch (show false=true from h)) h
 |.val (.boo isAnd e es),c,E,X,S=>by intro h;exact aN (ao (.boo isAnd e es) S) (λ_ _ _ _ h=>nomatch (show false=true from h)) h
 |.val (.ife t a b),c,E,X,S=>by intro h;exact aN (ao (.ife t a b) S) (λ_ _ _ _ h=>nomatch (show false=true from h)) h
 |.val (.tup es),c,E,X,S=>by intro h;exact aN (ao (.tup es) S) (λ_ _ _ _ h=>nomatch (show false=true from h)) h
 |.val (.lst fz es),c,E,X,S=>by intro h;exact aN (ao (.lst fz es) S) (λ_ _ _ _ h=>nomatch (show false=true from h)) h
 |.val (.idx a i),c,E,X,S=>by intro h;exact aN (ao (.idx a i) S) (λ_ _ _ _ h=>nomatch (show false=true from h)) h
 |.val (.slc fz a lo hi),c,E,X,S=>by intro h;exact aN (ao (.slc fz a lo hi) S) (λ_ _ _ _ h=>nomatch (show false=true from h)) h
 |.val (.rvs fz a s),c,E,X,S=>by intro h;exact aN (ao (.rvs fz a s) S) (λ_ _ _ _ h=>nomatch (show false=true from h)) h
 |.val (.call f es),c,E,X,S=>by intro h;exact aN (ao (.call f es) S) (λ_ _ _ _ h=>nomatch (show false=true from h)) h
 |.val (.bcl f es),c,E,X,S=>by intro h;exact aN (ao (.bcl f es) S) (λ_ _ _ _ h=>nomatch (show false=true from h)) h
 |.val (.lcl fz f es),c,E,X,S=>by intro h;exact aN (ao (.lcl fz f es) S) (λ_ _ _ _ h=>nomatch (show false=true from h)) h
 |.val (.isx a C xs),c,E,X,S=>by intro h;exact aN (ao (.isx a C xs) S) (λ_ _ _ _ h=>nomatch (show false=true from h)) h
 |.val (.rgl fz a),c,E,X,S=>by intro h;exact aN (ao (.rgl fz a) S) (λ_ _ _ _ h=>nomatch (show false=true from h)) h
 |.val (.srs fz a),c,E,X,S=>by intro h;exact aN (ao (.srs fz a) S) (λ_ _ _ _ h=>nomatch (show false=true from h)) h
 |.val (.rpl f a b ix),c,E,X,S=>by intro h;exact aN (ao (.rpl f a b ix) S) (λ_ _ _ _ h=>nomatch (show false=true from h)) h
 |.val (.fld C f o),c,E,X,S=>by intro h;exact aN (ao (.fld C f o) S) (λ_ _ _ _ h=>nomatch (show false=true from h)) h
 |.val (.mcl f C m o es),c,E,X,S=>by intro h;exact aN (ao (.mcl f C m o es) S) (λ_ _ _ _ h=>nomatch (show false=true from h)) h
 |.val (.mkx C a),c,E,X,S=>by intro h;exact aN (ao (.mkx C a) S) (λ_ _ _ _ h=>nomatch (show false=true from h)) h
 |.val (.mki C f a),c,E,X,S=>by intro h;exact aN (ao (.mki C f a) S) (λ_ _ _ _ h=>nomatch (show false=true from h)) h
 |.val (.xat C f a),c,E,X,S=>by intro h;exact aN (ao (.xat C f a) S) (λ_ _ _ _ h=>nomatch (show false=true from h)) h
 |.val (.mko C es),c,E,X,S=>by intro h;exact aN (ao (.mko C es) S) (λ_ _ _ _ h=>nomatch (show false=true from h)) h
 |.val (.pp0 o),c,E,X,S=>by intro h;exact aN (ao (.pp0 o) S) (λ_ _ _ _ h=>nomatch (show false=true from h)) h
 |.val (.rgt a),c,E,X,S=>by intro h;exact aN (ao (.rgt a) S) (λ_ _ _ _ h=>nomatch (show false=true from h)) h
 |.val (.fst es),c,E,X,S=>by intro h;exact aN (ao (.fst es) S) (λ_ _ _ _ h=>nomatch (show false=true from h)) h
 |.val (.isi a t),c,E,X,S=>by intro h;exact aN (ao (.isi a t) S) (λ_ _ _ _ h=>nomatch (show false=true from h)) h
 |.val (.mth m o es),c,E,X,S=>by intro h;exact aN (ao (.mth m o es) S) (λ_ _ _ _ h=>nomatch (show false=true from h)) h
 |.val (.comp fz elt tg it cond N cap),c,E,X,S=>by intro h;exact aN (ao (.comp fz elt tg it cond N cap) S) (λ_ _ _ _ h=>nomatch (show false=true from h)) h
 |.val (.cm3 elt t1 i1 t2 i2 t3 i3 N cap),c,E,X,S=>by intro h;exact aN (ao (.cm3 elt t1 i1 t2 i2 t3 i3 N cap) S) (λ_ _ _ _ h=>nomatch (show false=true from h)) h
theorem z7{Φ:ak}{CX:CXT}{k:Nat}{B:Bs}:∀(x:Txs){c:CT}{E:EK}{X:Cx},Stat Φ CX k c E B X->o6 Φ c E B X x
 |.nil,_,_,_,_=>trivial
 |.cons e es,c,E,X,S=>⟨gq e S,z7 es S⟩
theorem z8{Φ:ak}{CX:CXT}{k:Nat}{B:Bs}:∀(x:Ox){c:CT}{E:EK}{X:Cx},Stat Φ CX k c E B X->∀y,x=.ob y->OkE Φ c E B X y
 |.no,c,E,X,S,y,e=>by cases e
 |.ob z,c,E,X,S,y,e=>by injection e with e;subst e;exact ao z S
theorem iG{Φ:ak}{CX:CXT}{k:Nat}{B:Bs}:∀(x:It'){c:CT}{E:EK}{X:Cx},Stat Φ CX k c E B X->∀{tg e:Expr},bh c x tg e=true->PI X tg e (tI X.K B (wpI Φ x E))
 |.seq y,c,E,X,S,tg,e,h=>V0 (ao y S) (show aa c y e=true from h)
 |.rng a,c,E,X,S,tg,e,h=>V1 S (ao a S) h
 |.rng2 a b,c,E,X,S,tg,e,h=>V4 S (ao a S) (ao b S) h
 |.rev a,c,E,X,S,tg,e,h=>V2 S (ao a S) h
 |.dwn a b d,c,E,X,S,tg,e,h=>V3 S (ao a S) (ao b S) (ao d S) h
 |.enm a,c,E,X,S,tg,e,h=>V5 S (ao a S) h
 |.en1 a,c,E,X,S,tg,e,h=>V7 S (ao a S) (λh=>zL S h) h
 |.zip a b,c,E,X,S,tg,e,h=>V8 S (ao a S) (ao b S) h
end
def EnD(K:PF)(H:Hp)(F:FZ)(D:Ends):En where
 nx:=λρ G'=>∀H' F' σ',Ext H F H' F'->EnvR K H' F' ρ σ'->R K H' F' G'->D.nx σ' H'
 rt:=PV K H F D.rt
 bk:=λρ G'=>∀H' F' σ',Ext H F H' F'->EnvR K H' F' ρ σ'->R K H' F' G'->D.bk σ' H'
 ct:=λρ G'=>∀H' F' σ',Ext H F H' F'->EnvR K H' F' ρ σ'->R K H' F' G'->D.ct σ' H'
theorem EnD.later{K:PF}{H H1:Hp}{F F1:FZ}{D:Ends}(x:Ext H F H1 F1):(EnD K H F D).Le (EnD K H1 F1 D):=
 ⟨λ_ _ h H' F' σ' x1=>h H' F' σ' (x.trans x1),λ_ _ h=>PV.later h x,λ_ _ h H' F' σ' x1=>h H' F' σ' (x.trans x1),λ_ _ h H' F' σ' x1=>h H' F' σ' (x.trans x1)⟩
def tS(K:PF)(B:Bs)(w:aj->DH->En->Prop):TS:=λD σ H=>∃ρ F G,Ext B.H B.F H F/\EnvR K H F ρ σ/\R K H F G/\w ρ G (EnD K H F D)
theorem psI{X:Cx}{st:Stmt}{t t':TS}(h:PS X st t)(i:∀D σ H,t' D σ H->t D σ H):PS X st t':=λpins s σ H D I q=>h pins s σ H D I (i D σ H q)
theorem z9{X:Cx}{st:List Stmt}{t t':TS}(h:PSs X st t)(i:∀D σ H,t' D σ H->t D σ H):PSs X st t':=λpins s σ H D I q=>h pins s σ H D I (i D σ H q)
theorem uh{e:Expr}(h:cg e=false)(t:Option Expr)(n:Nat)(env:Env):swapsWith e t n env=pure false:=by cases e <;> first |rfl |exact nomatch (show true=false from h)
theorem ul{e:Expr}(h:cg e=false)(t:Expr)(n:Nat)(env:Env):swapsWithSole [t] e n env=pure false:=uh h _ _ _
section
variable {Φ:ak} {CX:CXT} {k:Nat} {c:CT} {E:EK} {B:Bs} {X:Cx}
abbrev OkS(Φ:ak)(c:CT)(E:EK)(B:Bs)(X:Cx)(x:Sx):Prop:=∀{st:Stmt},aU c x st=true->PS X st (tS X.K B (wpS Φ x E))
abbrev iH(Φ:ak)(c:CT)(E:EK)(B:Bs)(X:Cx)(x:Sxs):Prop:=∀{st:List Stmt},aL c x st=true->PSs X st (tS X.K B (aA Φ x E))
theorem Wd(S:Stat Φ CX k c E B X){x:Ex}{st:Stmt}(h:aU c (.exp x) st=true):PS X st (tS X.K B (wpS Φ (.exp x) E)):=by
 replace h:=Ul h;obtain ⟨_,_,rfl,h⟩:=h
 ·rw[ah]at h;refine psI (K1 (ao x S h.2) (uh (by simpa using h.1) _ _ _)) λD σ H hq=>el hq λρ F G e0 he r hw=>?_;rw[nF]at hw;exact aF e0 he r hw λd G1 H1 F1 v q e1 x1 he1 r1 rv=>q _ _ _ x1 he1 r1
theorem We(S:Stat Φ CX k c E B X){i:Nat}{x:Ex}{st:Stmt}(h:aU c (.asg (.nm i) x) st=true):PS X st (tS X.K B (wpS Φ (.asg (.nm i) x) E)):=by
 replace h:=zF h;obtain ⟨tg,e,pos,rfl,h⟩:=h
 ·simp only[ah]at h;obtain ⟨⟨h1,h2⟩,h3⟩:=h;have h3:(!cg e||yP x)=true:=h3;replace h1:=t6 h1;obtain ⟨y,py,rfl,h1⟩:=h1
  ·rw[ah,aE]at h1;obtain ⟨l,f⟩:=S.sto y h1.2;have hi:X.N[i]?=some y:=by rw[S.N];exact h1.1
   have go:∀(D:Ends)(σ:L2.St)(H:Hp),tS X.K B (wpS Φ (.asg (.nm i) x) E) D σ H->lu (tE X.K B (wpE Φ x E)) (lr i) D σ H:=λD σ H hq=>el hq λρ F G e0 he r hw=>by
    rw[ik]at hw;refine aF e0 he r hw λd G1 H1 F1 v q e1 x1 he1 r1 rv=>?_;unfold aJ at q;exact q _ _ _ x1 (he1.set rv i) r1
   cases hc:cg e with
   |false=>exact psI (vg S.nd hi l (ao x S h2) (uh hc _ _ _) f) go
   |true=>
    rw[hc,Bool.not_true,Bool.false_or]at h3;cases x with
    |comp fz elt tg it cond N cap=>
     obtain ⟨elt',tg',iter,ifs,scope,pos',rfl,C⟩:=zY h2;obtain ⟨s1,s2,s3,s4⟩:=zX S C.sc;have hb:∃b:Bool,swapsWith (.ListComp elt' [⟨tg',iter,ifs,0⟩] scope pos') (some (.Name y py)) pos.line X.env=pure b:=⟨_,rfl⟩;obtain ⟨b,hb⟩:=hb;cases b with
     |false=>exact psI (vg S.nd hi l (ao _ S h2) hb f) go
     |true=>
      refine psI (Qo (lim:=true) (wI _ _ _ _ _ _) S.nd hi l (N.map Str.ofString) cap S.calm (iG it S C.it) (pA S.N C.cap) s1 s2 s3 s4 (ug C.it X.env) hb f) λD σ H hq=>el hq λρ F G e0 he r hw=>?_;rw[ik]at hw;rw[sI]at hw;refine zW (fz:=fz) (Q:=λv H1=>D.nx (σ.set i (some v)) H1) S C.nd (λS'=>ao elt S') (λS'=>gq cond S') C.tg C.cd C.el e0 he r (dN it (λitems g G1 q=>?_) hw);refine n6 (λd ρ' G' k1 k2 hk z=>cI (λρ1 z=>cJ cond (λb G2 z=>by
       cases b with
       |true=>exact au elt (λy G3 z=>hk _ _ _ z) z
       |false=>exact hk _ _ _ z) z) tg z) ?_ _ _ _ _ q
      ·intro ds G2 q;refine b8 (λd G3 q=>?_) q;intro H1 F1 v x1 r1 rv;unfold aJ at q;exact q _ _ _ x1 ((he.ext x1).set rv i) r1
    |cm3 _ _ _ _ _ _ _ _ _=>exact nomatch (show false=true from h2)
    |_=>cases h3
theorem Wf(S:Stat Φ CX k c E B X){ts:Tgs}{x:Ex}{st:Stmt}(h:aU c (.asg (.tp ts) x) st=true):PS X st (tS X.K B (wpS Φ (.asg (.tp ts) x) E)):=by
 replace h:=zF h;obtain ⟨tg,e,pos,rfl,h⟩:=h
 ·rw[ah,ah]at h;have h34:(!jx e&&!cg e)=true:=h.2;obtain ⟨h1,h2⟩:=h.1;rw[ah,fh,fh]at h34;obtain ⟨h3,h4⟩:=h34;have hg:=gn S (.tp ts) h1;replace h1:=t7 h1;obtain ⟨_,_,_,rfl,h1⟩:=h1
  ·refine psI (qb (ao x S h2) hg (ul h4 _ _ _) ?_ rfl) λD σ H hq=>el hq λρ F G e0 he r hw=>?_
   ·cases e <;> first |rfl |exact nomatch (show true=false from h3)
   ·rw[ik]at hw;refine aF e0 he r hw λd G1 H1 F1 v q e1 x1 he1 r1 rv=>?_;exact ⟨ρ,F1,G1,d,e1,he1,r1,rv,cI (λρ' z σ' hσ=>z H1 F1 σ' x1 hσ r1) (.tp ts) q⟩
theorem Wg(S:Stat Φ CX k c E B X){i j:Nat}{x:Ex}{st:Stmt}(h:aU c (.star i j x) st=true):PS X st (tS X.K B (wpS Φ (.star i j x) E)):=by
 replace h:=Um h;obtain ⟨y,py,sp,z,pz,kk,p,e,pos,rfl,h⟩:=h;simp only[ah,aE,fh]at h;obtain ⟨⟨⟨⟨⟨⟨h1,h2⟩,h3⟩,h4⟩,h5⟩,h6⟩,h7⟩:=h;obtain ⟨l1,f1⟩:=S.sto y h2;obtain ⟨l2,f2⟩:=S.sto z h4;have hg:=VL (sp:=sp) (k:=kk) (pos:=p) S.calm (p8 (p7 (pos:=py) (i:=i) S.nd (by rw[S.N];exact h1) l1 f1) (p8 (p7 (pos:=pz) (i:=j) S.nd (by rw[S.N];exact h3) l2 f2) vf rfl) rfl);refine psI (qb (ao x S h5) hg (ul h7 _ _ _) ?_ rfl) λD σ H hq=>el hq λρ F G e0 he r hw=>?_
 ·cases e <;> first |rfl |exact nomatch (show true=false from h6)
 ·rw[nG]at hw;refine aF e0 he r hw λd G1 H1 F1 v q e1 x1 he1 r1 rv=>?_;unfold jf at q;split at q
  ·rename_i ds;obtain ⟨hne,q⟩:=q;obtain ⟨a,vs,rfl,fz,t⟩:=rv;have hd:ds=ds.dropLast++[ds.getLast hne]:=(d3 hne).symm;obtain ⟨us,u,ev,t1,t2⟩:=xu (hd ▸ t);subst ev;refine ⟨a,us,u,rfl,fz.sq,λl hl=>?_⟩;have xx:=lL (vs:=us) r1 hl;have rl:=xr r1 hl t1;have q1:=q _ _ hd _ _ ((σ.set i (some (.ref l))).set j (some u)) (x1.trans xx) (((he1.ext xx).set rl i).set (t2.ext xx) j) (r1.newF hl);exact ⟨_,_,rfl,_,_,rfl,rfl,q1⟩
  ·exact q.elim
theorem Wh(S:Stat Φ CX k c E B X){o i x:Ex}{st:Stmt}(h:aU c (.set o i x) st=true):PS X st (tS X.K B (wpS Φ (.set o i x) E)):=by
 replace h:=Uo h;obtain ⟨o',i',tpos,e,pos,rfl,h⟩:=h
 ·simp only[ah,fh]at h;obtain ⟨⟨⟨h1,h2⟩,h3⟩,h4⟩:=h;have hi:=bz i h2;refine psI (qb (ao x S h3) (Lj (ao o S h1) (ao i S h2) Tq ?_) (ul h4 _ _ _) ?_ rfl) λD σ H hq=>el hq λρ F G e0 he r hw=>?_
  ·intro v;cases i' <;> first |rfl |exact nomatch (show false=true from hi)
  ·cases e <;> rfl
  ·rw[nJ]at hw;refine aF e0 he r hw λd G1 H1 F1 v q e1 x1 he1 r1 rv=>?_;refine aF e1 he1 r1 q λa G2 H2 F2 w q e2 x2 he2 r2 rw'=>?_;refine aF e2 he2 r2 q λy G3 H3 F3 u q e3 x3 he3 r3 ru=>?_;refine ⟨F3,G3,a,y,d,r3,rw'.ext x3,ru,rv.ext (x2.trans x3),sJ (λG4 q=>?_) q⟩;intro H4 F4 x4 r4;exact q _ _ _ (x1.trans (x2.trans (x3.trans x4))) (he3.ext x4) r4
theorem Wi(S:Stat Φ CX k c E B X){i:Nat}{op:Operator}{x:Ex}{st:Stmt}(h:aU c (.aug i op x) st=true):PS X st (tS X.K B (wpS Φ (.aug i op x) E)):=by
 replace h:=Up h;obtain ⟨y,py,o,e,pos,rfl,h⟩:=h
 ·simp only[ah,aE]at h;obtain ⟨⟨⟨⟨rfl,h1⟩,h2⟩,h3⟩,h4⟩:=h;obtain ⟨l,f⟩:=S.sto y h2;refine psI (Ln S.nd (by rw[S.N];exact h1) l (ao x S h4) (Tt o) f) λD σ H hq=>el hq λρ F G e0 he r hw=>?_;rw[nM]at hw;split at hw
  ·rename_i a ha;obtain ⟨v,e1,rv⟩:=he.get ha;refine ⟨v,e1,aF e0 he r hw λb G1 H1 F1 u q e1 x1 he1 r1 ru=>?_⟩;refine ⟨F1,G1,a,b,r1,rv.ext x1,ru,sO (λd q=>?_) q⟩;intro H2 F2 w x2 r2 rw';exact q _ _ _ (x1.trans x2) ((he1.ext x2).set rw' i) r2
  ·exact hw.elim
theorem Wj(S:Stat Φ CX k c E B X){o i:Ex}{op:Operator}{x:Ex}{st:Stmt}(h:aU c (.augs o i op x) st=true):PS X st (tS X.K B (wpS Φ (.augs o i op x) E)):=nomatch (show false=true from h)
theorem Wl(S:Stat Φ CX k c E B X){x:Ex}{st:Stmt}(h:aU c (.ret x) st=true):PS X st (tS X.K B (wpS Φ (.ret x) E)):=by
 replace h:=Uq h;obtain ⟨_,_,rfl,h⟩:=h
 ·refine psI (K4 (ao x S h)) λD σ H hq=>el hq λρ F G e0 he r hw=>?_;rw[nO]at hw;exact ⟨ρ,F,G,e0,he,r,hw⟩
theorem Wm{st:Stmt}(h:aU c .rtn st=true):PS X st (tS X.K B (wpS Φ .rtn E)):=by
 replace h:=Ur h;obtain ⟨_,rfl,h⟩:=h
 ·refine psI K6 λD σ H hq=>el hq λρ F G e0 he r hw=>?_;rw[nP]at hw;exact hw.now r rfl
theorem Wn(S:Stat Φ CX k c E B X){t:Tx}{a b:Sxs}(iha:iH Φ c E B X a)(ihb:iH Φ c E B X b){st:Stmt}(h:aU c (.ite t a b) st=true):PS X st (tS X.K B (wpS Φ (.ite t a b) E)):=by
 replace h:=Us h;obtain ⟨_,_,_,_,rfl,h⟩:=h
 ·simp only[ah]at h;obtain ⟨⟨h1,h2⟩,h3⟩:=h;refine psI (K8 (gq t S h1) (iha h2) (ihb h3)) λD σ H hq=>el hq λρ F G e0 he r hw=>?_;rw[nQ]at hw;refine jz e0 he r hw λb' G1 H1 F1 q e1 x1 he1 r1=>?_;cases b' with
  |true=>
   rw[if_pos rfl];exact ⟨ρ,F1,G1,e1,he1,r1,du a (EnD.later x1) q⟩
  |false=>
   rw[if_neg bo];exact ⟨ρ,F1,G1,e1,he1,r1,du b (EnD.later x1) q⟩
theorem Wo(S:Stat Φ CX k c E B X){t:Tg}{it:It'}{b:Sxs}(ihb:iH Φ c E B X b){st:Stmt}(h:aU c (.for_ t it b) st=true):PS X st (tS X.K B (wpS Φ (.for_ t it b) E)):=by
 replace h:=Ut h;obtain ⟨tg,iter,body,pos,rfl,h⟩:=h
 ·simp only[ah]at h;obtain ⟨⟨h1,h2⟩,h3⟩:=h;refine psI (Lx S.own S.calm (iG it S h2) (gn S t h1) (ihb h3) (ug h2 X.env)) λD σ H hq=>el hq λρ F G e0 he r hw=>?_;rw[xR]at hw;refine ⟨ρ,F,G,e0,he,r,dN it (λitems g G1 q H1 F1 J x1 r1 W=>?_) hw⟩;let step:RF.D->aj->DH->(aj->DH->Prop)->Prop:=λd ρ' G' k=>aJ t d ρ' G' λρ1=>aA Φ b E ρ1 G' { EnD X.K H F D with nx:=k,ct:=k,bk:=(EnD X.K H F D).nx }
  let P:Nat->L2.St->Hp->Prop:=λi σ' H'=>∃ρ' F' G',Ext B.H B.F H' F'/\Ext H1 F1 H' F'/\EnvR X.K H' F' ρ' σ'/\R X.K H' F' G'/\forLoop step g (items.drop i) ρ' G' (EnD X.K H F D).nx
  refine ⟨λi m σ' H'=>m=items.length - i/\i<=items.length/\P i σ' H',⟨items.length,by simp,e8 _,ρ,F1,G1,e0.trans x1,Ext.refl _ _,he.ext x1,r1,q⟩,?_⟩;rintro i m σ' H' ⟨rfl,hle,ρ',F',G',eB,e1,he',r',hl⟩;by_cases hlt:i < items.length
  ·have hd:items.drop i=items[i]::items.drop (i+1):=bn hlt;rw[hd]at hl;obtain ⟨hh,hl⟩:=hl;refine .inr ⟨W.go H' F' G' i e1 r' hh hlt,P (i+1),λσ2 H2 p=>⟨items.length - (i+1),by omega,rfl,hlt,p⟩,λx H2 hy=>?_⟩;obtain ⟨xy,ry,rx⟩:=W.yld H' F' i x H2 items[i] G' e1 r' hh (by simp[hlt]) hy;refine ⟨ρ',F',G',items[i],eB.trans xy,he'.ext xy,ry,rx,cI (λρ1 z σ1 hσ1=>?_) t hl⟩;refine ⟨ρ1,F',G',eB.trans xy,hσ1,ry,du b (D:={ EnD X.K H F D with nx:=λρ' G'=>forLoop step g (items.drop (i+1)) ρ' G' (EnD X.K H F D).nx,ct:=λρ' G'=>forLoop step g (items.drop (i+1)) ρ' G' (EnD X.K H F D).nx,bk:=(EnD X.K H F D).nx }) ⟨λρ2 G2 z H3 F3 σ3 x3 he3 r3=>?_,λd G2 z=>PV.later z (x1.trans (e1.trans xy)),λρ2 G2 z H3 F3 σ3 x3=>z H3 F3 σ3 (x1.trans (e1.trans (xy.trans x3))),λρ2 G2 z H3 F3 σ3 x3 he3 r3=>?_⟩ z⟩
   ·exact ⟨ρ2,F3,G2,eB.trans (xy.trans x3),e1.trans (xy.trans x3),he3,r3,z⟩
   ·exact ⟨ρ2,F3,G2,eB.trans (xy.trans x3),e1.trans (xy.trans x3),he3,r3,z⟩
  ·have hi':i=items.length:=by omega
   subst hi';rw[eT]at hl;exact .inl ⟨W.stop H' F' G' e1 r' hl.1,hl.2 _ _ _ (x1.trans e1) he' r'⟩
theorem Wq(S:Stat Φ CX k c E B X){t:Tx}{b:Sxs}(ihb:iH Φ c E B X b){st:Stmt}(h:aU c (.whl t b) st=true):PS X st (tS X.K B (wpS Φ (.whl t b) E)):=nomatch (show false=true from h)
theorem Wr(S:Stat Φ CX k c E B X){C:String}{es:Exs}{st:Stmt}(h:aU c (.rse C es) st=true):PS X st (tS X.K B (wpS Φ (.rse C es) E)):=nomatch (show false=true from h)
theorem Ws(S:Stat Φ CX k c E B X){f:String}{es:Exs}{C:String}{i:Nat}{b:Bool}{st:Stmt}(h:aU c (.tryc f es C i b) st=true):PS X st (tS X.K B (wpS Φ (.tryc f es C i b) E)):=nomatch (show false=true from h)
theorem Wt(S:Stat Φ CX k c E B X){b:Tb}{C:String}{hd:Hd}{xs:List String}{st:Stmt}(h:aU c (.tryx b C hd xs) st=true):PS X st (tS X.K B (wpS Φ (.tryx b C hd xs) E)):=nomatch (show false=true from h)
theorem Wu{st:List Stmt}(h:aL c .nil st=true):PSs X st (tS X.K B (aA Φ .nil E)):=by
 unfold aL at h;cases st with
 |nil=>exact z9 KD λD σ H hq=>el hq λρ F G e0 he r hw=>by rw[ji]at hw;exact hw _ _ _ (Ext.refl _ _) he r
 |cons _ _=>cases h
theorem Wv{x:Sx}{xs:Sxs}(ih:OkS Φ c E B X x)(ihs:iH Φ c E B X xs){st:List Stmt}(h:aL c (.cons x xs) st=true):PSs X st (tS X.K B (aA Φ (.cons x xs) E)):=by
 unfold aL at h;split at h
 ·rw[ah]at h;refine z9 (KH (ih h.1) (ihs h.2)) λD σ H hq=>el hq λρ F G e0 he r hw=>?_;rw[ig]at hw;refine ⟨ρ,F,G,e0,he,r,wpS_mono x (D:={ EnD X.K H F D with nx:=λρ' G'=>aA Φ xs E ρ' G' (EnD X.K H F D) }) ⟨λρ1 G1 q H1 F1 σ1 x1 he1 r1=>?_,λ_ _ z=>z,λ_ _ z=>z,λ_ _ z=>z⟩ hw⟩;exact ⟨ρ1,F1,G1,e0.trans x1,he1,r1,du xs (EnD.later x1) q⟩
 ·cases h
end
mutual
theorem Ww{Φ:ak}{CX:CXT}{k:Nat}{B:Bs}{c:CT}{E:EK}{X:Cx}(S:Stat Φ CX k c E B X):∀(x:Sx),OkS Φ c E B X x
 |.exp e=>by intro h;exact Wd S h
 |.star i j e=>by intro h;exact Wg S h
 |.asg (.nm i) e=>by intro h;exact We S h
 |.asg (.tp ts) e=>by intro h;exact Wf S h
 |.set o i e=>by intro h;exact Wh S h
 |.aug i op e=>by intro h;exact Wi S h
 |.augs o i op e=>by intro h;exact Wj S h
 |.ret e=>by intro h;exact Wl S h
 |.rtn=>by intro h;exact Wm h
 |.ite t a b=>by intro h;exact Wn S (iI S a) (iI S b) h
 |.for_ t it b=>by intro h;exact Wo S (iI S b) h
 |.whl t b=>by intro h;exact Wq S (iI S b) h
 |.pas=>by
  intro h;obtain ⟨_,rfl,_⟩:=Uu h;exact psI KQ λD σ H hq=>el hq λρ F G e0 he r hw=>by rw[nR]at hw;exact hw _ _ _ (Ext.refl _ _) he r
 |.brk=>by
  intro h;obtain ⟨_,rfl,_⟩:=Uv h;exact psI KR λD σ H hq=>el hq λρ F G e0 he r hw=>by rw[nT]at hw;exact hw _ _ _ (Ext.refl _ _) he r
 |.cnt=>by
  intro h;obtain ⟨_,rfl,_⟩:=Uw h;exact psI KY λD σ H hq=>el hq λρ F G e0 he r hw=>by rw[nU]at hw;exact hw _ _ _ (Ext.refl _ _) he r
 |.rse C es=>by intro h;exact Wr S h
 |.tryc f es C i b=>by intro h;exact Ws S h
 |.tryx b C h xs=>by intro hh;exact Wt S hh
 |.nev=>by
  intro h;exact psI La λD σ H hq=>el hq λρ F G e0 he r hw=>by rw[nW]at hw;exact hw.elim
theorem iI{Φ:ak}{CX:CXT}{k:Nat}{B:Bs}{c:CT}{E:EK}{X:Cx}(S:Stat Φ CX k c E B X):∀(x:Sxs),iH Φ c E B X x
 |.nil=>by intro h;exact Wu h
 |.cons s r=>by intro h;exact Wv (Ww S s) (iI S r) h
end
end RF
namespace L2
open PySem PySem.Spec PyProof.Rows
theorem Fun.okX{P:Program}{w:World}{K:PF}{mg:Str->Option Value}{base:Heap}{CX:CXT}{x qual:Str}{st:Stmt}{f:Addr}{fd:FuncData}{N ps:List Str}{k:Nat}{sp:Sp}(F:Fun K x qual st f fd)(S:FnScope N ps (aB st))(len:∀vs H Q E,sp vs H Q E->vs.length=ps.length)
  (hbody:∀(cdv:Value)(A:Around)(outer:List Env)(s:Shared)(H:Hp)(vs:List V)(Q:VK)(E:XK),Room k (A.deeper (envOfC qual (aB st) s.heap.objs.size f cdv))->sp vs H Q E->
   ∃t,PSs (eX CX P w K mg base N qual (aB st) f cdv A outer s H E) (aW st) t/\t { nx:=λ_ H'=>Q .non H',rt:=Q } (start N vs) H):FnOk P w K mg base CX (k+1) f fd ps sp:=by
 obtain ⟨oc,od,kV,doc,pm,an,cdv,ct,osl,rfl,lk,hcd⟩:=F.ex;exact Nf lk hcd S len λA outer s H vs Q E hr hsp=>hbody cdv A outer s H vs Q E hr hsp
end L2
namespace RF
open PySem PySem.Spec PyProof.Rows L2
noncomputable def fnB(N ps:List Str)(sc:Scope):Bool:=
 decide (sc.kind=.function)&&!sc.isCoroutine&&!sc.isGenerator&&dw N&&(N.take ps.length==ps)&&ps.all (λx=>sc.names.lookup x==some .local||sc.names.lookup x==some .cell)&&sc.names.all (λy=>y.2 != .free)
theorem Aa{N ps:List Str}{sc:Scope}(h:fnB N ps sc=true):FnScope N ps sc:=by unfold fnB at h;simp only[ah,fh,cr,aE,bS,cq,bne_iff_ne]at h;obtain ⟨⟨⟨⟨⟨⟨h1,h2⟩,h3⟩,h4⟩,h5⟩,h6⟩,h7⟩:=h;exact ⟨h1,h2,h3,uf h4,h5,h6,λy hy=>h7 y hy⟩
structure Bse(Φ:ak)(P:Program)(w:World)(K:PF)(mg:Str->Option Value)(base:Heap)(CX:CXT)(k:Nat)(fs:List (String×Nat))(bt:List String)(cn:List (String×D))(xs:List (String×Bool))(ot:OT):Prop where
 call:∀f n,(f,n)∈fs->∃fa fd ps,FnOk P w K mg base CX k fa fd ps (lift K n (Φ f))/\PySem.W.keepIn K (.ref fa)=true/\Binds K fd ps []/\mg (Str.ofString f)=some (.ref fa)
 blt:∀f,f∈bt->mg (Str.ofString f)=none
 con:∀x d,(x,d)∈cn->∃u v,mg (Str.ofString x)=some u/\RelV v u/\∀H F,Rep K H F d v
 xcl:∀C,xs.contains (C,true)=true->∃a,mg (Str.ofString C)=some (.ref a)/\dZ K a=true/\PySem.W.nsIn K mainGlobals (Str.ofString C)=some (some (.ref a))
 xis:∀C',xs.contains (C',false)=true->∃cv,CV K mg C' cv/\∀C,xs.contains (C,true)=true->XI K C C' cv
 mth:∀f C m n,(f,C,m,n)∈ot.ms->MthOk Φ P w K mg base CX k f C m n
 mko:∀C n,(C,n)∈ot.ks->MkoOk Φ P w K mg base CX k C n
 fld:∀C f,(C,f)∈ot.fl->zH K C f
 xko:∀C f,(C,f)∈ot.xk->XkoX P w K mg base CX k xs C f
def bj(N:List Str)(sc:Scope)(fs:List (String×Nat))(bt:List String)(cn:List (String×D))(xs:List (String×Bool))(ot:OT):CT:={ N:=N,kd:=sc.names,fn:=true,fs:=fs,bt:=bt,cn:=cn,xs:=xs,ot:=ot }
section
variable {Φ:ak} {P:Program} {w:World} {K:PF} {mg:Str->Option Value} {base:Heap} {k:Nat} {fs:List (String×Nat)} {bt:List String} {cn:List (String×D)} {xs:List (String×Bool)} {ot:OT}
theorem Wx{N ps:List Str}{sc:Scope}{qual:Str}{f:Addr}{cdv:Value}{A:Around}{outer:List Env}{s:Shared}{H:Hp}{EX:XK}{B:Bs}(T:Bse Φ P w K mg base (CX1 P w) k fs bt cn xs ot)(hs:fnB N ps sc=true)
  (hr:Room k (A.deeper (envOfC qual sc s.heap.objs.size f cdv))):Stat Φ (CX1 P w) k (bj N sc fs bt cn xs ot) noE B (eX (CX1 P w) P w K mg base N qual sc f cdv A outer s H EX).nox where
 N:=rfl
 nd:=(Aa hs).nd
 calm:=rfl
 own:=PassesOwn.never
 kd:=rfl
 vis:=λx h=>by
  have h:gh (sc.names.lookup x)=true:=h;show sc.names.lookup x=_\/sc.names.lookup x=_\/sc.names.lookup x=_;unfold gh at h;split at h <;> first | (cases h;done) |simp_all
 cel:=λx h=>h
 glo:=λx h=>h
 sto:=λx h=>by
  have h:(sc.names.lookup x==some .local||(true&&sc.names.lookup x==some .cell))=true:=h;rw[Bool.true_and,cq,aE,aE]at h;exact ⟨h,.inl rfl⟩
 room:=hr
 call:=T.call
 blt:=T.blt
 con:=T.con
 exc:=⟨_,wy _,λ_ _ _ _ _ _ _ _ _ _ q=>q.elim,λ_ _ _ _ h=>h.elim⟩
 nox:=λY=>wy Y
 xcl:=T.xcl
 loc:=λx h=>h
 xis:=T.xis
 mth:=T.mth
 mko:=T.mko
 fld:=T.fld
 xko:=T.xko
 trc:=λ_=>⟨rfl,rfl,rfl⟩
theorem Wy{outer:List Env}{H:Hp}{s s':Shared}{e:Value}(h:CX1 P w outer H s (λ_ _ _=>False) e s'):False:=by obtain ⟨_,_,_,_,_,_,_,_,_,q⟩:=h;exact q
def ends(Q:D->DH->Prop):En:={ nx:=λ_ G=>Q .non G,rt:=Q,bk:=λ_ _=>False,ct:=λ_ _=>False }
def env0(ds:List D)(n:Nat):aj:=ds.map some++List.replicate n none
theorem um{x qual:Str}{st:Stmt}{f:Addr}{fd:FuncData}(Fu:Fun K x qual st f fd)(T:Bse Φ P w K mg base (CX1 P w) k fs bt cn xs ot){N ps:List Str}{body:Sxs}(S:RF.Spec)(n m:Nat)(hs:fnB N ps (aB st)=true)
  (hc:aL (bj N (aB st) fs bt cn xs ot) body (aW st)=true) (hn:ps.length=n) (hm:N.length=n+m)
  (hw:∀ds G a,ds.length=n->S.pre ds G a->aA Φ body noE (env0 ds m) G (ends (S.post a))):FnOk P w K mg base (CX1 P w) (k+1) f fd ps (lift K n S):=by
 refine Fu.okX (Aa hs) (λvs H Q E h=>by rw[hn];exact h.1) λcdv A outer s H vs Q EX hr hsp=>?_;obtain ⟨hl,F,G,ds,r,rs,a,h1,h2,h3⟩:=hsp;have St:Stat Φ (CX1 P w) k (bj N (aB st) fs bt cn xs ot) noE ⟨H,F⟩ (eX (CX1 P w) P w K mg base N qual (aB st) f cdv A outer s H EX).nox:=Wx T hs hr;refine ⟨_,(iI St body hc).nox,?_⟩;refine ⟨env0 ds m,F,G,Ext.refl _ _,?_,r,du body (D:=ends (S.post a)) ⟨λρ G' q=>?_,λd G' q=>h2 d G' q,λ_ _ q=>False.elim q,λ_ _ q=>False.elim q⟩ (hw ds G a (by rw[rs.length];exact hl) h1)⟩
 ·unfold L2.start;rw[show N.length - vs.length=m by omega];exact EnvR.start m rs
 ·intro H' F' σ' x1 _ r1;exact h2 .non G' q H' F' .non x1 r1 rfl
end
def bK(pre:List D->DH->Prop)(post:List D->DH->D->DH->Prop):RF.Spec where
 A:=List D×DH
 pre:=λds G a=>a=(ds,G)/\pre ds G
 post:=λa d G'=>post a.1 a.2 d G'
 exc:=λ_ _ _=>False
theorem cF{pre:List D->DH->Prop}{post:List D->DH->D->DH->Prop}{ds:List D}{G:DH}{k:D->DH->Prop}{E:EK}(h:pre ds G)(hk:∀d G',post ds G d G'->k d G'):(bK pre post).t ds G k E:=
 ⟨(ds,G),⟨rfl,h⟩,hk,λ_ _ z=>z.elim⟩
theorem cO{Φ:ak}{body:Sxs}{m n:Nat}{pre:List D->DH->Prop}{post:List D->DH->D->DH->Prop}(h:∀ds G,pre ds G->aA Φ body noE (env0 ds m) G (ends (post ds G))):
  ∀ds G a,ds.length=n->(bK pre post).pre ds G a->aA Φ body noE (env0 ds m) G (ends ((bK pre post).post a)):=by
 rintro ds G a _ ⟨rfl,h1⟩;exact h ds G h1
def bY(f:List D->Option D):RF.Spec:=bK (λds _=>(f ds).isSome=true) (λds G d G'=>G'=G/\f ds=some d)
theorem pB{f:List D->Option D}{ds:List D}{d:D}{G:DH}{k:D->DH->Prop}{E:EK}(h:f ds=some d)(hk:k d G):(bY f).t ds G k E:=
 cF (by rw[h];rfl) λd' G' ⟨e1,e2⟩=>by rw[h]at e2;cases e2;rw[e1];exact hk
theorem pC{Φ:ak}{body:Sxs}{m n:Nat}{f:List D->Option D}(h:∀ds G d,f ds=some d->aA Φ body noE (env0 ds m) G (ends λd' G'=>G'=G/\d'=d)):
  ∀ds G a,ds.length=n->(bY f).pre ds G a->aA Φ body noE (env0 ds m) G (ends ((bY f).post a)):=by
 refine cO λds G hf=>?_;obtain ⟨d,e⟩:=ci.mp hf;refine du body (D:=ends λd' G'=>G'=G/\d'=d) ⟨λρ G' q=>?_,λd' G' q=>?_,λ_ _ q=>q,λ_ _ q=>q⟩ (h ds G d e)
 ·exact ⟨q.1,by rw[e];exact c6 some q.2.symm⟩
 ·exact ⟨q.1,by rw[e];exact c6 some q.2.symm⟩
theorem Wz{step:D->aj->DH->(aj->DH->Prop)->Prop}{g:Hld}{items:List D}{ρ:aj}{G:DH}{k:aj->DH->Prop}(P:Nat->aj->DH->Prop)(h0:P 0 ρ G)(hh:∀i ρ G,P i ρ G->held g G)
  (hs:∀i d ρ G,items[i]?=some d->P i ρ G->∀kk:aj->DH->Prop,(∀ρ' G',P (i+1) ρ' G'->kk ρ' G')->step d ρ G kk) (he:∀ρ G,P items.length ρ G->k ρ G):forLoop step g items ρ G k:=by
 have go:∀(l:List D)(i:Nat)(ρ:aj)(G:DH),items.drop i=l->i<=items.length->P i ρ G->forLoop step g l ρ G k:=by
  intro l;induction l with
  |nil=>
   intro i ρ G e hi p;have:i=items.length:=by have:=c6 List.length e;rw[eS]at this;simp at this;omega
   subst this;exact ⟨hh _ _ _ p,he _ _ p⟩
  |cons d l ih=>
   intro i ρ G e hi p;have hl:i < items.length:=by
    by_cases h:i < items.length
    ·exact h
    ·rw[dr (by omega)]at e;cases e
   rw[bn hl]at e;injection e with e1 e2;refine ⟨hh _ _ _ p,hs i d ρ G (by rw[a8 hl,e1]) p _ λρ' G' p'=>ih (i+1) ρ' G' e2 hl p'⟩
 exact go _ 0 ρ G (by simp) (e8 _) h0
theorem Ab{step:D->aj->DH->(Option D->aj->DH->Prop)->Prop}{g:Hld}{items acc:List D}{ρ:aj}{G:DH}{k:List D->DH->Prop}(P:Nat->List D->aj->DH->Prop)(h0:P 0 acc ρ G)(hh:∀i acc ρ G,P i acc ρ G->held g G)
  (hl:acc.length+items.length<=sz)
  (hs:∀i d acc ρ G,items[i]?=some d->P i acc ρ G->∀kk:Option D->aj->DH->Prop,(∀o ρ' G',P (i+1) (acc++o.toList) ρ' G'->kk o ρ' G')->step d ρ G kk) (he:∀acc ρ G,P items.length acc ρ G->k acc G):compLoop step g items acc ρ G k:=by
 have go:∀(l:List D)(i:Nat)(acc:List D)(ρ:aj)(G:DH),items.drop i=l->i<=items.length->acc.length+l.length<=sz->P i acc ρ G->compLoop step g l acc ρ G k:=by
  intro l;induction l with
  |nil=>
   intro i acc ρ G e hi ha p;have:i=items.length:=by have:=c6 List.length e;rw[eS]at this;simp at this;omega
   subst this;exact ⟨hh _ _ _ _ p,by simpa using ha,he _ _ _ p⟩
  |cons d l ih=>
   intro i acc ρ G e hi ha p;have hl:i < items.length:=by
    by_cases h:i < items.length
    ·exact h
    ·rw[dr (by omega)]at e;cases e
   rw[bn hl]at e;injection e with e1 e2;have ha':acc.length+(l.length+1)<=sz:=ha;refine ⟨hh _ _ _ _ p,by omega,hs i d acc ρ G (by rw[a8 hl,e1]) p _ λo ρ' G' p'=>?_⟩;cases o with
   |some y=>exact ih (i+1) (acc++[y]) ρ' G' e2 hl (by rw[bp];simp;omega) p'
   |none=>exact ih (i+1) acc ρ' G' e2 hl (by omega) (by simpa using p')
 exact go _ 0 acc ρ G (by simp) (e8 _) hl h0
theorem Ac{step:D->aj->DH->(Option D->aj->DH->Prop)->Prop}{items:List D}{ρ:aj}{G:DH}{k:List D->DH->Prop}(g:Hld)(f:D->Option D)(I:aj->Prop)(h0:I ρ)(hg:held g G)(hl:items.length<=sz)
  (hs:∀d ρ,d∈items->I ρ->∀kk:Option D->aj->DH->Prop,(∀ρ',I ρ'->kk (f d) ρ' G)->step d ρ G kk) (he:k (items.filterMap f) G):compLoop step g items [] ρ G k:=by
 refine Ab (λi acc ρ' G'=>I ρ'/\G'=G/\acc=(items.take i).filterMap f) ⟨h0,rfl,rfl⟩ (λi acc ρ' G' p=>by rw[p.2.1];exact hg) (by simpa using hl) ?_ ?_
 ·rintro i d acc ρ' G' hd ⟨p1,rfl,rfl⟩ kk hk;refine hs d ρ' (cw hd) p1 kk λρ2 i2=>hk _ _ _ ⟨i2,rfl,?_⟩;rw[fF,hd,List.filterMap_append];congr 1
 ·rintro acc ρ' G' ⟨_,rfl,rfl⟩;rw[gl];exact he
theorem WD{step:D->aj->DH->(Option D->aj->DH->Prop)->Prop}{items:List D}{ρ:aj}{G:DH}{k:List D->DH->Prop}(g:Hld)(f:D->D)(I:aj->Prop)(h0:I ρ)(hg:held g G)(hl:items.length<=sz)
  (hs:∀d ρ,d∈items->I ρ->∀kk:Option D->aj->DH->Prop,(∀ρ',I ρ'->kk (some (f d)) ρ' G)->step d ρ G kk) (he:k (items.map f) G):compLoop step g items [] ρ G k:=
 Ac g (λd=>some (f d)) I h0 hg hl hs (by rw[<-List.filterMap_eq_map]at he;exact he)
theorem Ad{α:Type}(f:α->Bool):∀l:List α,bools (l.map λx=>D.bl (f x))=some (l.map f)
 |[]=>rfl
 |x::l=>by simp[bools,Ad f l]
theorem strs_map{α:Type}(f:α->List Nat):∀l:List α,aR (l.map λx=>D.str (f x))=some (l.map f)
 |[]=>rfl
 |x::l=>by simp[aR,strs_map f l]
theorem Ae:∀l:List (List Nat),dm [] l=l.flatten
 |[]=>rfl
 |[x]=>by simp[dm]
 |x::y::r=>by simp[dm,Ae (y::r)]
def Sa(G G':DH):Prop:=∀b o,G b=some o->G' b=some o
def Sb(p:Addr)(G G':DH):Prop:=∀b o,G b=some o->b≠p->G' b=some o
theorem Sa.refl(G:DH):Sa G G:=λ_ _ h=>h
theorem Sb.refl(p:Addr)(G:DH):Sb p G G:=λ_ _ h _=>h
theorem Sa.trans{G G1 G2:DH}(a:Sa G G1)(b:Sa G1 G2):Sa G G2:=λc o h=>b c o (a c o h)
theorem Sb.trans{p:Addr}{G G1 G2:DH}(a:Sb p G G1)(b:Sb p G1 G2):Sb p G G2:=λc o h n=>b c o (a c o h n) n
theorem Sa.new{G:DH}{p:Addr}{o:DO}(h:G p=none):Sa G (aX G p o):=λb u e=>by rw[fY (Rq e h)];exact e
theorem Sb.upd{G:DH}{p:Addr}{o:DO}:Sb p G (aX G p o):=λb u e n=>by rw[fY n];exact e
theorem Af{α:Type}{a:α}{l:List α}:atI (a::l) 0=some a:=dh (j:=0) rfl
theorem Ag{α:Type}{a b:α}{l:List α}:atI (a::b::l) 1=some b:=dh (j:=1) rfl
theorem Ah{α:Type}{a b c:α}{l:List α}:atI (a::b::c::l) 2=some c:=dh (j:=2) rfl
theorem Ai{α:Type}{a b c d:α}{l:List α}:atI (a::b::c::d::l) 3=some d:=dh (j:=3) rfl
theorem WF{n j:Nat}(h:j < n):ixN n (j:Int)=some j:=by unfold ixN;rw[if_pos (by omega),if_pos (by omega)];simp
theorem Aj{n:Nat}:ixN (n+1) 0=some 0:=by unfold ixN;rw[if_pos (by omega),if_pos (by omega)];rfl
theorem Ak{n:Nat}:ixN (n+2) 1=some 1:=by unfold ixN;rw[if_pos (by omega),if_pos (by omega)];rfl
theorem Al{n:Nat}:ixN (n+3) 2=some 2:=by unfold ixN;rw[if_pos (by omega),if_pos (by omega)];rfl
theorem Am{α:Type}(xs:List α)(lo hi:Option Int):(cut xs lo hi).length<=xs.length:=by unfold cut;rw[de,eS];omega
theorem WK{l:List D}:bG l []=l.isEmpty:=by cases l <;> rfl
theorem WL{α:Type}(l:List α)(n:Nat):cut l none (some (n:Int))=l.take n:=by
 unfold cut;rw[show HT.sIx l.length 0 none=0 from rfl,HT.vH,List.drop_zero,Nat.sub_zero];by_cases h:n<=l.length
 ·rw[Nat.min_eq_left h]
 ·rw[gi (by omega),d4 (av _),d4 (by omega)]
theorem WM{α:Type}(l:List α)(n:Nat):cut l (some (n:Int)) none=l.drop n:=by
 unfold cut;rw[show HT.sIx l.length l.length none=l.length from rfl,HT.vH];by_cases h:n<=l.length
 ·rw[Nat.min_eq_left h,d4 (by rw[eS];exact av _)]
 ·rw[gi (by omega),Nat.sub_self,List.take_zero,dr (by omega)]
theorem WN{α:Type}(l:List α)(n:Nat):cut l (some ((n:Int)+1)) none=l.drop (n+1):=WM l (n+1)
theorem An:∀{l:List D},(∀d∈l,nr d=true)->nrs l=true
 |[],_=>rfl
 |a::l,h=>by rw[nrs,h a aS,An λd hd=>h d (aT _ hd)];rfl
theorem Ao{α:Type}{motive:List α->Prop}(l:List α)(nil:motive [])(snoc:∀(l:List α)(a:α),motive l->motive (l++[a])):motive l:=by
 have go:∀(n:Nat)(l:List α),l.length=n->motive l:=by
  intro n;induction n with
  |zero=>intro l h;rw[ce.mp h];exact nil
  |succ n ih=>
   intro l h;have hne:l≠[]:=by rintro rfl;simp at h
   rw[<-d3 hne];exact snoc _ _ (ih _ (by rw[List.length_dropLast];omega))
 exact go _ l rfl
section
variable {G:DH} {k:D->DH->Prop} {fz:Bool} {kb:Bool->Prop} {kd:D->Prop} {p:Addr}
theorem Aq{i j:Int}:bN .Add fz (.int i) (.int j) G k=k (.int (i+j)) G:=rfl
theorem Ar{x y:List Nat}:bN .Add fz (.str x) (.str y) G k=(x.length+y.length<=sz/\k (.str (x++y)) G):=rfl
theorem Av{x y:List D}:bN .Add fz (.lst x) (.lst y) G k=(x.length+y.length<=sz/\mk fz (x++y) G k):=rfl
theorem Aw{x y:List D}:bN .Add fz (.tup x) (.tup y) G k=(x.length+y.length<=sz/\k (.tup (x++y)) G):=rfl
theorem Ax{i j:Int}:bN .Sub fz (.int i) (.int j) G k=k (.int (i - j)) G:=rfl
theorem Ay{i j:Int}:bN .Mult fz (.int i) (.int j) G k=(CMul i j/\k (.int (i * j)) G):=rfl
theorem Az{x:List D}{n:Int}:bN .Mult fz (.tup x) (.int n) G k=(2<=n/\n<=1000/\x≠[]/\x.length * n.toNat<=sz/\k (.tup (reps x n.toNat)) G):=rfl
theorem Ba{x:List D}{n:Int}:bN .Mult fz (.lst x) (.int n) G k=(0<=n/\n<=1000/\x.length * n.toNat<=sz/\mk fz (reps x n.toNat) G k):=rfl
theorem Bb{x:List Nat}{n:Int}:bN .Mult fz (.str x) (.int n) G k=(0<=n/\n<=1000/\x.length * n.toNat<=sz/\k (.str (reps x n.toNat)) G):=rfl
theorem Bc{i j:Int}:bN .FloorDiv fz (.int i) (.int j) G k=((0 < j/\j < 1152921504606846976)/\k (.int (i / j)) G):=rfl
theorem Bd{i j:Int}:bN .Mod fz (.int i) (.int j) G k=(0 < j/\k (.int (i % j)) G):=rfl
theorem Be{i j:Int}:bN .Pow fz (.int i) (.int j) G k=(lA i j/\k (.int (i ^ j.toNat)) G):=rfl
def eN:D->Bool
 |.non=>true
 |_=>false
theorem Bg{a b:D}:aP .Eq a b kb=((nr a=true/\nr b=true/\min (dpt a) (dpt b)<=60)/\kb (deq a b)):=rfl
theorem Bh{a b:D}:aP .NotEq a b kb=((nr a=true/\nr b=true/\min (dpt a) (dpt b)<=60)/\kb (!deq a b)):=rfl
theorem Bj{i j:Int}:aP .Lt (.int i) (.int j) kb=kb (decide (i < j)):=rfl
theorem Bk{i j:Int}:aP .LtE (.int i) (.int j) kb=kb (decide (i<=j)):=rfl
theorem Bl{i j:Int}:aP .Gt (.int i) (.int j) kb=kb (decide (j < i)):=rfl
theorem Bm{i j:Int}:aP .GtE (.int i) (.int j) kb=kb (decide (j<=i)):=rfl
theorem Bo{i j:List Nat}:aP .Lt (.str i) (.str j) kb=kb (decide (i < j)):=rfl
theorem Bp{i j:List Nat}:aP .LtE (.str i) (.str j) kb=kb (!decide (j < i)):=rfl
theorem Bq{a:D}:aP .Is a .non kb=kb (eN a):=by cases a <;> rfl
theorem Br{a:D}:aP .IsNot a .non kb=kb (!eN a):=by cases a <;> rfl
theorem Bt{a b:Bool}:aP .Is (.bl a) (.bl b) kb=kb (a==b):=rfl
theorem Bu{a b:Bool}:aP .IsNot (.bl a) (.bl b) kb=kb (a != b):=rfl
theorem Bv{c:Nat}{l:List Nat}:aP .In (.str [c]) (.str l) kb=kb (l.contains c):=rfl
theorem Bw{c:Nat}{l:List Nat}:aP .NotIn (.str [c]) (.str l) kb=kb (!l.contains c):=rfl
theorem Bx{a:D}{l:List D}:aP .In a (.lst l) kb=((nr a=true/\nrs l=true/\aO l<=60)/\kb (isIn a l)):=rfl
theorem By{a:D}{l:List D}:aP .In a (.tup l) kb=((nr a=true/\nrs l=true/\aO l<=60)/\kb (isIn a l)):=rfl
theorem BJ{a:D}{l:List D}:aP .NotIn a (.lst l) kb=((nr a=true/\nrs l=true/\aO l<=60)/\kb (!isIn a l)):=rfl
theorem BK{a:D}{l:List D}:aP .NotIn a (.tup l) kb=((nr a=true/\nrs l=true/\aO l<=60)/\kb (!isIn a l)):=rfl
theorem BL{i:Int}:eN (.int i)=false:=rfl
theorem BP{i:Bool}:eN (.bl i)=false:=rfl
theorem BR{i:List Nat}:eN (.str i)=false:=rfl
theorem BV{i:List D}:eN (.tup i)=false:=rfl
theorem BW{i:List D}:eN (.lst i)=false:=rfl
theorem BX{i:Addr}:eN (.ref i)=false:=rfl
theorem BZ:eN .non=true:=rfl
def aV{α:Type}(o:Option α)(k:α->Prop):Prop:=match o with |some a=>k a |none=>False
theorem Ca{α:Type}{a:α}{k:α->Prop}:aV (some a) k=k a:=rfl
theorem dR{α:Type}{o:Option α}{a:α}{k:α->Prop}(e:o=some a)(h:k a):aV o k:=by rw[e];exact h
theorem Cd{ds:List D}{i:Int}:bO (.lst ds) (.int i) kd=aV (atI ds i) kd:=by unfold bO aV;(try dsimp only) <;> (cases atI ds i <;> rfl)
theorem Ce{ds:List D}{i:Int}:bO (.tup ds) (.int i) kd=aV (atI ds i) kd:=by unfold bO aV;(try dsimp only) <;> (cases atI ds i <;> rfl)
theorem Cg{l:List Nat}{i:Int}:bO (.str l) (.int i) kd=aV (atI l i) (λc=>kd (.str [c])):=by unfold bO aV;(try dsimp only) <;> (cases atI l i <;> rfl)
theorem Ci{ds:List D}{lo hi:Option Int}:dj fz (.lst ds) lo hi G k=mk fz (cut ds lo hi) G k:=rfl
theorem Cj{ds:List D}{y:D}:gZ fz (.lst ds) y G k=(y=.int (-1)/\mk fz ds.reverse G k):=rfl
theorem Ck{ds:List Int}{lo hi:Option Int}:dj fz (.scr ds) lo hi G k=mk fz ((cut ds lo hi).map .int) G k:=rfl
theorem Cm{ds:List D}{lo hi:Option Int}:dj fz (.tup ds) lo hi G k=k (.tup (cut ds lo hi)) G:=rfl
theorem Cp{ds:List Nat}{lo hi:Option Int}:dj fz (.str ds) lo hi G k=k (.str (cut ds lo hi)) G:=rfl
theorem Cq{ds:List D}:opB .len [.lst ds] kd=kd (.int ds.length):=rfl
theorem Cr{ds:List D}:opB .len [.tup ds] kd=kd (.int ds.length):=rfl
theorem Cu{ds:List Nat}:opB .len [.str ds] kd=kd (.int ds.length):=rfl
theorem Cv{ds:List D}:opB .all [.lst ds] kd=aV (bools ds) (λbs=>kd (.bl (bs.all id))):=by unfold opB lO aV;(try dsimp only) <;> (cases bools ds <;> rfl)
theorem Cw{b:Bool}:opB .int [.bl b] kd=kd (.int (if b then 1 else 0)):=rfl
theorem Cy{b:Int}:opB .int [.int b] kd=kd (.int b):=rfl
theorem Cz{l:List Nat}:opB .int [.str l] kd=aV (PySem.intText? (tx l)) (λn=>l.length<=640/\kd (.int n)):=by unfold opB lQ aV;(try dsimp only) <;> (cases PySem.intText? (tx l) <;> rfl)
theorem CG{ds:List D}:opB .sum [.lst ds] kd=aV (dI ds) (λns=>kd (.int ns.sum)):=by unfold opB qQ aV;(try dsimp only) <;> (cases dI ds <;> rfl)
theorem CJ{a:Int}:opB .str [.int a] kd=((0<=a/\a < 100)/\kd (.str (fj a.toNat))):=rfl
theorem CK{a:Int}:opB .abs [.int a] kd=kd (.int (if a < 0 then -a else a)):=rfl
theorem CN{a b:Int}:opB .min2 [.int a,.int b] kd=kd (.int (if b < a then b else a)):=rfl
theorem CP{a b:Int}:opB .max [.int a,.int b] kd=kd (.int (if b > a then b else a)):=rfl
theorem CQ{ds:List D}{kl:List D->Prop}:cz .sorted [.tup ds] kl=aV (dI ds) (λns=>ns.length < 64/\∀ns':List Int,ns'.Perm ns->ns'.Pairwise (·<=·)->kl (ns'.map D.int)):=by unfold cz lR aV;(try dsimp only) <;> (cases dI ds <;> rfl)
theorem CW{ds:List D}{kl:List D->Prop}:fu (.lst ds) kl=aV (aR ds) (λls=>(ls.length<=1000/\(bI ls).length < 64)/\∀ls':List (List Nat),ls'.Perm (bI ls)->PyProof.Rows.sortedS (ls'.map tx)=true->kl (ls'.map D.str)):=by unfold fu aV;(try dsimp only) <;> (cases aR ds <;> rfl)
theorem CZ{ds:List D}{kl:List D->Prop}:cz .sorted [.lst ds] kl=aV (aR ds) (λls=>ls.length < 64/\∀ls':List (List Nat),ls'.Perm ls->PyProof.Rows.sortedS (ls'.map tx)=true->kl (ls'.map D.str)):=by unfold cz lR aV;(try dsimp only) <;> (cases aR ds <;> rfl)
theorem Dc{ds:List D}:opB .tuple [.lst ds] kd=kd (.tup ds):=rfl
theorem Dd{ds:List D}:opB .tuple [.tup ds] kd=kd (.tup ds):=rfl
theorem De{ds:List D}{kl:List D->Prop}:cz .list [.lst ds] kl=kl ds:=rfl
theorem Df{ds:List D}{kl:List D->Prop}:cz .list [.tup ds] kl=kl ds:=rfl
theorem Dg{l:List Nat}{kl:List D->Prop}:cz .list [.str l] kl=kl (l.map λc=>.str [c]):=rfl
theorem Dh{s:List Nat}{ds:List D}:opM .join (.str s) [.lst ds] G k=aV (aR ds) (λls=>((ls.map (·.length)).sum+ls.length * s.length<=sz)/\k (.str (dm s ls)) G):=by unfold opM lU aV;(simp only[cy,fN,view]) <;> (cases aR ds <;> rfl)
def trk(G:DH)(p:Addr)(k:List D->Prop):Prop:=match G p with |some (.lst ds)=>k ds |none=>False
theorem eO{ds:List D}{k:List D->Prop}(e:G p=some (.lst ds)):trk G p k=k ds:=by unfold trk;rw[e]
theorem Di{x:D}:opM .append (.ref p) [x] G k=trk G p (λds=>ds.length < sz/\k .non (aX G p (.lst (ds++[x])))):=by unfold opM lV trk;(try dsimp only) <;> (cases G p <;> first |rfl | (rename_i o;cases o;rfl))
theorem Dj{x:D}{i:Int}:opM .insert (.ref p) [.int i,x] G k=trk G p (λds=>ds.length < sz/\0<=i/\i<=1000000/\k .non (aX G p (.lst (ds.take i.toNat++x::ds.drop i.toNat)))):=by unfold opM lX trk;(try dsimp only) <;> (cases G p <;> first |rfl | (rename_i o;cases o;rfl))
theorem Dk:recv .insert (.ref p) G=trk G p (λ_=>True):=by unfold recv trk;(try dsimp only) <;> (cases G p <;> first |rfl | (rename_i o;cases o;rfl))
theorem Dl{xs:List D}:opM .extend (.ref p) [.lst xs] G k=trk G p (λds=>ds.length+xs.length < sz/\k .non (aX G p (.lst (ds++xs)))):=by unfold opM lW trk;(simp only[cy,fN,view]) <;> (cases G p <;> first |rfl | (rename_i o;cases o;rfl))
theorem Dm{ds:List D}:opM .count (.lst ds) [.bl true] G k=aV (bools ds) (λbs=>k (.int (bs.count true:Nat)) G):=by unfold opM lY aV;(try dsimp only[view]) <;> (cases bools ds <;> rfl)
theorem Dn{ds:List D}:opM .index (.lst ds) [.bl true] G k=aV (bools ds) (λbs=>true∈bs/\k (.int (bs.idxOf true:Nat)) G):=by unfold opM lZ aV;(try dsimp only[view]) <;> (cases bools ds <;> rfl)
theorem Do{ds:List D}:recv .count (.lst ds) G=True:=rfl
theorem Dp{ds:List D}:recv .index (.lst ds) G=True:=rfl
theorem Dq{l:List Nat}{c:Nat}:opM .split (.str l) [.str [c]] G k=((c < 256/\l.length+2<=sz)/\k (.lst ((aY c l).map .str)) G):=rfl
theorem Ds{s:List Nat}:recv .split (.str s) G=True:=rfl
theorem Dt{i j:Nat}{ds:List D}{ρ:aj}{kk:aj->DH->Prop}:jf i j (.lst ds) ρ G kk=(ds≠[]/\∀xs y,ds=xs++[y]->kk ((ρ.set i (some (.lst xs))).set j (some y)) G):=rfl
theorem Du{C c:String}{xs:List String}{kk:Bool->Prop}:je C xs (.exn c) kk=(xs.contains c=true/\kk (dJ c C)):=rfl
theorem Dv{C c f:String}{d:D}{xs:List String}{kk:Bool->Prop}:je C xs (.exa c f d) kk=(xs.contains c=true/\kk (dJ c C)):=rfl
theorem x_at{C f:String}{v:D}{kk:D->Prop}:g8 C f (.exa C f v) kk=kk v:=by simp[g8]
theorem Dw{b f:String}{d:D}:view G (.exa b f d)=.exa b f d:=rfl
theorem Dy{s:List Nat}:recv .join (.str s) G=True:=rfl
theorem Dz:recv .append (.ref p) G=trk G p (λ_=>True):=by unfold recv trk;(try dsimp only) <;> (cases G p <;> first |rfl | (rename_i o;cases o;rfl))
theorem DG:recv .extend (.ref p) G=trk G p (λ_=>True):=by unfold recv trk;(try dsimp only) <;> (cases G p <;> first |rfl | (rename_i o;cases o;rfl))
theorem DK{i:Int}{x:D}{kg:DH->Prop}:dq (.ref p) (.int i) x G kg=trk G p (λds=>aV (ixN ds.length i) (λj=>kg (aX G p (.lst (ds.set j x))))):=by
 unfold dq trk aV
 (try dsimp only) <;> (cases G p <;> first |rfl | (rename_i o;cases o;(try dsimp only) <;> (rename_i ds;cases ixN ds.length i <;> rfl)))
theorem DN{i j:Int}:cW .Add (.int i) (.int j) kd=kd (.int (i+j)):=rfl
theorem DP{x y:List Nat}:cW .Add (.str x) (.str y) kd=(x.length+y.length<=sz/\kd (.str (x++y))):=rfl
theorem DQ{i j:Int}:cW .Sub (.int i) (.int j) kd=kd (.int (i - j)):=rfl
theorem DR{xs:List D}:mk true xs G k=k (.lst xs) G:=rfl
theorem DW{xs:List D}:mk false xs G k=∀p,G p=none->k (.ref p) (aX G p (.lst xs)):=rfl
theorem DX:view G .non=.non:=rfl
theorem DY{b:Bool}:view G (.bl b)=.bl b:=rfl
theorem Ea{b:Int}:view G (.int b)=.int b:=rfl
theorem Eb{b:List Nat}:view G (.str b)=.str b:=rfl
theorem Ec{b:List D}:view G (.tup b)=.tup b:=rfl
theorem Ed{b:List D}:view G (.lst b)=.lst b:=rfl
theorem Ef{C f:String}{q:Addr}:view G (.obj C f q)=.obj C f q:=rfl
theorem Eg{b:String}:view G (.exn b)=.exn b:=rfl
theorem Eh{b:List Int}:view G (.scr b)=.scr b:=rfl
theorem cP{ds:List D}(e:G p=some (.lst ds)):view G (.ref p)=.lst ds:=by unfold view;dsimp only;rw[e]
theorem Ei:truth .non=some false:=rfl
theorem Ej{b:Bool}:truth (.bl b)=some b:=rfl
theorem Ek{i:Int}:truth (.int i)=some (i != 0):=rfl
theorem El{l:List Nat}:truth (.str l)=some (!l.isEmpty):=rfl
theorem Em{l:List D}:truth (.tup l)=some (!l.isEmpty):=rfl
theorem Eo{l:List D}:truth (.lst l)=some (!l.isEmpty):=rfl
theorem Ep{l:List D}:itemsOf G (.lst l)=some (l,[]):=rfl
theorem Er{l:List D}:itemsOf G (.tup l)=some (l,[]):=rfl
theorem Es{l:List Nat}:itemsOf G (.str l)=some (l.map λc=>.str [c],[]):=rfl
theorem fJ{ds:List D}(e:G p=some (.lst ds)):itemsOf G (.ref p)=some (ds,[(p,ds)]):=by unfold itemsOf;dsimp only;rw[e]
theorem Et{t:String}:isT t .non=some false:=rfl
theorem Eu {t:String} {b:Bool}:isT t (.bl b)=some (t=="bool"||t=="int"):=rfl
theorem Ew {t:String} {b:Int}:isT t (.int b)=some (t=="int"):=rfl
theorem Ey {t:String} {b:List Nat}:isT t (.str b)=some (t=="str"):=rfl
theorem is_tup {t:String} {b:List D}:isT t (.tup b)=some (t=="tuple"):=rfl
theorem Ez {t:String} {b:List D}:isT t (.lst b)=some (t=="list"):=rfl
theorem EY{i:Nat}{d:D}{ρ:aj}{kr:aj->Prop}:aJ (.nm i) d ρ G kr=kr (ρ.set i (some d)):=rfl
theorem Fb{ts:Tgs}{ds:List D}{ρ:aj}{kr:aj->Prop}:aJ (.tp ts) (.lst ds) ρ G kr=bu ts ds ρ G kr:=rfl
theorem Fd{ts:Tgs}{ds:List D}{ρ:aj}{kr:aj->Prop}:aJ (.tp ts) (.tup ds) ρ G kr=bu ts ds ρ G kr:=rfl
theorem Fe{ρ:aj}{kr:aj->Prop}:bu .nil [] ρ G kr=kr ρ:=rfl
theorem Ff{t:Tg}{r:Tgs}{d:D}{ds:List D}{ρ:aj}{kr:aj->Prop}:bu (.cons t r) (d::ds) ρ G kr=aJ t d ρ G (λρ'=>bu r ds ρ' G kr):=rfl
theorem Fg:deq .non .non=true:=rfl
theorem Fi  {y:Bool}:deq .non (.bl y)=false:=rfl
theorem Fj  {y:Int}:deq .non (.int y)=false:=rfl
theorem Fl  {y:List Nat}:deq .non (.str y)=false:=rfl
theorem Fp  {y:List D}:deq .non (.tup y)=false:=rfl
theorem Fq  {y:List D}:deq .non (.lst y)=false:=rfl
theorem Ft{x:Bool} :deq (.bl x) .non=false:=rfl
theorem Fv{x:Bool}{y:Bool}:deq (.bl x) (.bl y)=(x==y):=by rw[deq]
theorem Fw{x:Bool}{y:List Nat}:deq (.bl x) (.str y)=false:=rfl
theorem Fx{x:Bool}{y:List D}:deq (.bl x) (.tup y)=false:=rfl
theorem Fy{x:Bool}{y:List D}:deq (.bl x) (.lst y)=false:=rfl
theorem Fz{x:Int} :deq (.int x) .non=false:=rfl
theorem FJ{x:Int}{y:Int}:deq (.int x) (.int y)=(x==y):=by rw[deq]
theorem FN{x:Int}{y:List Nat}:deq (.int x) (.str y)=false:=rfl
theorem FP{x:Int}{y:List D}:deq (.int x) (.tup y)=false:=rfl
theorem FQ{x:Int}{y:List D}:deq (.int x) (.lst y)=false:=rfl
theorem FT{x:List Nat} :deq (.str x) .non=false:=rfl
theorem FW{x:List Nat}{y:Bool}:deq (.str x) (.bl y)=false:=rfl
theorem Ga{x:List Nat}{y:Int}:deq (.str x) (.int y)=false:=rfl
theorem Gb{x:List Nat}{y:List Nat}:deq (.str x) (.str y)=(x==y):=by rw[deq]
theorem Gd{x:List Nat}{y:List D}:deq (.str x) (.tup y)=false:=rfl
theorem Ge{x:List Nat}{y:List D}:deq (.str x) (.lst y)=false:=rfl
theorem Gf{x:List D} :deq (.tup x) .non=false:=rfl
theorem Gg{x:List D}{y:Bool}:deq (.tup x) (.bl y)=false:=rfl
theorem Gi{x:List D}{y:Int}:deq (.tup x) (.int y)=false:=rfl
theorem Gj{x:List D}{y:List Nat}:deq (.tup x) (.str y)=false:=rfl
theorem Gk{x:List D}{y:List D}:deq (.tup x) (.tup y)=bG x y:=by rw[deq]
theorem Gm{x:List D}{y:List D}:deq (.tup x) (.lst y)=false:=rfl
theorem Gn{x:List D} :deq (.lst x) .non=false:=rfl
theorem Gp{x:List D}{y:Bool}:deq (.lst x) (.bl y)=false:=rfl
theorem Gq{x:List D}{y:Int}:deq (.lst x) (.int y)=false:=rfl
theorem Gr{x:List D}{y:List Nat}:deq (.lst x) (.str y)=false:=rfl
theorem Gs{x:List D}{y:List D}:deq (.lst x) (.tup y)=false:=rfl
theorem Gu{x:List D}{y:List D}:deq (.lst x) (.lst y)=bG x y:=by rw[deq]
theorem Gv:bG [] []=true:=rfl
theorem Gw{a b:D}{as bs:List D}:bG (a::as) (b::bs)=(deq a b&&bG as bs):=by rw[bG]
theorem Gx{b:D}{bs:List D}:bG [] (b::bs)=false:=rfl
theorem Gy{b:D}{bs:List D}:bG (b::bs) []=false:=rfl
theorem Gz :nr .non=true:=rfl
theorem GC :dpt .non=0:=rfl
theorem GD{x:Bool}:nr (.bl x)=true:=rfl
theorem GF{x:Bool}:dpt (.bl x)=0:=rfl
theorem GJ{x:Int}:nr (.int x)=true:=rfl
theorem GK{x:Int}:dpt (.int x)=0:=rfl
theorem GP{x:List Nat}:nr (.str x)=true:=rfl
theorem GQ{x:List Nat}:dpt (.str x)=0:=rfl
theorem GR{x:List D}:nr (.tup x)=nrs x:=by rw[nr]
theorem GX{x:List D}:dpt (.tup x)=aO x+1:=by rw[dpt]
theorem GZ{x:List D}:nr (.lst x)=nrs x:=by rw[nr]
theorem G8{x:List D}:dpt (.lst x)=aO x+1:=by rw[dpt]
theorem G9:nrs []=true:=rfl
theorem Ha{a:D}{l:List D}:nrs (a::l)=(nr a&&nrs l):=by rw[nrs]
theorem Hb:aO []=0:=rfl
theorem Hc{a:D}{l:List D}:aO (a::l)=max (dpt a) (aO l):=by rw[aO]
end
theorem seq{Φ:ak}{s:Sx}{r:Sxs}{E:EK}{ρ:aj}{G:DH}{D:En}(h:∀M:aj->DH->Prop,(∀ρ' G',aA Φ r E ρ' G' D->M ρ' G')->wpS Φ s E ρ G { D with nx:=M }):aA Φ (.cons s r) E ρ G D:=by rw[ig];exact h _ λ_ _ x=>x
theorem last{Φ:ak}{s:Sx}{E:EK}{ρ:aj}{G:DH}{D:En}(h:wpS Φ s E ρ G D):aA Φ (.cons s .nil) E ρ G D:=by rw[ig];exact wpS_mono s (D:=D) (D':={ D with nx:=λρ' G'=>aA Φ .nil E ρ' G' D }) ⟨λρ' G' q=>(show aA Φ .nil E ρ' G' D from by rw[ji];exact q),λ_ _ q=>q,λ_ _ q=>q,λ_ _ q=>q⟩ h
section
variable {Φ:ak} {E:EK} {ρ:aj} {G:DH}
def ForG(Φ:ak)(t:Tg)(body:Sxs)(E:EK)(D:En)(items:List RF.D)(g:Hld)(ρ:aj)(G:DH):Prop:=
 forLoop (λd ρ' G' k=>aJ t d ρ' G' λρ1=>aA Φ body E ρ1 G' { D with nx:=k,ct:=k,bk:=D.nx }) g items ρ G D.nx
theorem Hf{t:Tg}{it:It'}{body:Sxs}{D:En}:wpS Φ (.for_ t it body) E ρ G D=wpI Φ it E ρ G λitems g G1=>ForG Φ t body E D items g ρ G1:=rfl
theorem ForG.inv{t:Tg}{body:Sxs}{D:En}{items:List RF.D}{g:Hld}(P:Nat->aj->DH->Prop)(h0:P 0 ρ G)(hh:∀i ρ G,P i ρ G->held g G)
  (hs:∀i d ρ G,items[i]?=some d->P i ρ G->∀kk:aj->DH->Prop,(∀ρ' G',P (i+1) ρ' G'->kk ρ' G')->aJ t d ρ G λρ1=>aA Φ body E ρ1 G { D with nx:=kk,ct:=kk,bk:=D.nx })
  (he:∀ρ G,P items.length ρ G->D.nx ρ G):ForG Φ t body E D items g ρ G:=Wz P h0 hh hs he
def CompG(Φ:ak)(elt:Ex)(tg:Tg)(cond:Tx)(items:List D)(g:Hld)(ρ:aj)(G:DH)(k:List D->DH->Prop):Prop:=
 compLoop (λd ρ' G' k'=>aJ tg d ρ' G' λρ1=>wpT Φ cond noE ρ1 G' λb G2=>match b with |true=>wpE Φ elt noE ρ1 G2 λy G3=>k' (some y) ρ1 G3 |false=>k' none ρ1 G2) g items [] ρ G k
def iJ(cap:List (Option Nat))(ρ:aj):aj:=cap.map λo=>match o with |none=>none |some j=>(ρ[j]?).join
theorem Hg{ρ:aj}:iJ [] ρ=[]:=rfl
theorem Hh{cap:List (Option Nat)}{ρ:aj}:iJ (none::cap) ρ=none::iJ cap ρ:=rfl
theorem Hi{cap:List (Option Nat)}{ρ:aj}{j:Nat}:iJ (some j::cap) ρ=(ρ[j]?).join::iJ cap ρ:=rfl
theorem Hj{fz:Bool}{elt:Ex}{tg:Tg}{it:It'}{cond:Tx}{N:List String}{cap:List (Option Nat)}{k:D->DH->Prop}:
  wpE Φ (.comp fz elt tg it cond N cap) E ρ G k=wpI Φ it E ρ G λitems g G1=>CompG Φ elt tg cond items g (iJ cap ρ) G1 λds G2=>mk fz ds G2 k:=rfl
theorem CompG.inv{elt:Ex}{tg:Tg}{cond:Tx}{items:List D}{g:Hld}{k:List D->DH->Prop}(P:Nat->List D->aj->DH->Prop)(h0:P 0 [] ρ G)(hh:∀i acc ρ G,P i acc ρ G->held g G)(hl:items.length<=sz)
  (hs:∀i d acc ρ G,items[i]?=some d->P i acc ρ G->∀kk:Option D->aj->DH->Prop,(∀o ρ' G',P (i+1) (acc++o.toList) ρ' G'->kk o ρ' G')->
   aJ tg d ρ G λρ1=>wpT Φ cond noE ρ1 G λb G2=>match b with |true=>wpE Φ elt noE ρ1 G2 λy G3=>kk (some y) ρ1 G3 |false=>kk none ρ1 G2)
  (he:∀acc ρ G,P items.length acc ρ G->k acc G):CompG Φ elt tg cond items g ρ G k:=Ab P h0 hh (by simpa using hl) hs he
theorem CompG.pure{elt:Ex}{tg:Tg}{cond:Tx}{items:List D}{g:Hld}{k:List D->DH->Prop}(f:D->Option D)(I:aj->Prop)(h0:I ρ)(hg:held g G)(hl:items.length<=sz)
  (hs:∀d ρ,d∈items->I ρ->∀kk:Option D->aj->DH->Prop,(∀ρ',I ρ'->kk (f d) ρ' G)->aJ tg d ρ G λρ1=>wpT Φ cond noE ρ1 G λb G2=>match b with |true=>wpE Φ elt noE ρ1 G2 λy G3=>kk (some y) ρ1 G3 |false=>kk none ρ1 G2)
  (he:k (items.filterMap f) G):CompG Φ elt tg cond items g ρ G k:=Ac g f I h0 hg hl hs he
theorem CompG.map{elt:Ex}{tg:Tg}{cond:Tx}{items:List D}{g:Hld}{k:List D->DH->Prop}(f:D->D)(I:aj->Prop)(h0:I ρ)(hg:held g G)(hl:items.length<=sz)
  (hs:∀d ρ,d∈items->I ρ->∀kk:Option D->aj->DH->Prop,(∀ρ',I ρ'->kk (some (f d)) ρ' G)->aJ tg d ρ G λρ1=>wpT Φ cond noE ρ1 G λb G2=>match b with |true=>wpE Φ elt noE ρ1 G2 λy G3=>kk (some y) ρ1 G3 |false=>kk none ρ1 G2)
  (he:k (items.map f) G):CompG Φ elt tg cond items g ρ G k:=WD g f I h0 hg hl hs he
def WP(Φ:ak)(c:Tx)(body:Sxs)(E:EK)(D:En)(n:Nat)(ρ:aj)(G:DH):Prop:=
 whileLoop (λρ' G' k=>wpT Φ c E ρ' G' k) (λρ' G' k=>aA Φ body E ρ' G' { D with nx:=k,ct:=k,bk:=D.nx }) n ρ G D.nx
theorem Hk{c:Tx}{body:Sxs}{D:En}:wpS Φ (.whl c body) E ρ G D=∃n,WP Φ c body E D n ρ G:=rfl
end
theorem len0{α:Type}{l:List α}(h:l.length=0):l=[]:=ce.mp h
theorem uo{α:Type}{n:Nat}{l:List α}(h:l.length=n+1):∃a r,l=a::r/\r.length=n:=by
 cases l with
 |nil=>cases h
 |cons a r=>exact ⟨a,r,rfl,Nat.succ.inj h⟩
theorem jH{α:Type}{l:List α}(h:l.length=1):∃a,l=[a]:=by obtain ⟨a,r,rfl,h2⟩:=uo h;cases len0 h2;exact ⟨a,rfl⟩
theorem cQ{α:Type}{l:List α}(h:l.length=2):∃a b,l=[a,b]:=by obtain ⟨a,r,rfl,h2⟩:=uo h;obtain ⟨b,rfl⟩:=jH h2;exact ⟨a,b,rfl⟩
theorem Hl{α:Type}{l:List α}(h:l.length=3):∃a b c,l=[a,b,c]:=by obtain ⟨a,r,rfl,h2⟩:=uo h;obtain ⟨b,c,rfl⟩:=cQ h2;exact ⟨a,b,c,rfl⟩
structure Fo(Φ:ak)(P:Program)(w:World)(K:PF)(mg:Str->Option Value)(base:Heap)(k:Nat)(f:String)(n:Nat):Prop where
 ex:∃fa fd ps,FnOk P w K mg base (CX1 P w) k fa fd ps (lift K n (Φ f))/\PySem.W.keepIn K (.ref fa)=true/\Binds K fd ps []/\mg (Str.ofString f)=some (.ref fa)
section
variable {Φ:ak} {P:Program} {w:World} {K:PF} {mg:Str->Option Value} {base:Heap} {k:Nat} {xs:List (String×Bool)} {ot:OT}
noncomputable def AllF(Φ:ak)(P:Program)(w:World)(K:PF)(mg:Str->Option Value)(base:Heap)(k:Nat):List (String×Nat)->Prop
 |[]=>True
 | (f,n)::r=>Fo Φ P w K mg base k f n/\AllF Φ P w K mg base k r
noncomputable def AllB(mg:Str->Option Value):List String->Prop
 |[]=>True
 |f::r=>mg (Str.ofString f)=none/\AllB mg r
noncomputable def AllC(K:PF)(mg:Str->Option Value):List (String×D)->Prop
 |[]=>True
 | (x,d)::r=>(∃u v,mg (Str.ofString x)=some u/\RelV v u/\∀H F,Rep K H F d v)/\AllC K mg r
theorem AllF.get:∀{fs:List (String×Nat)}{f:String}{n:Nat},AllF Φ P w K mg base k fs->(f,n)∈fs->Fo Φ P w K mg base k f n
 | (f',n')::r,f,n,h,m=>by
  rcases ba.mp m with e |m
  ·cases e;exact h.1
  ·exact AllF.get h.2 m
theorem AllB.get:∀{fs:List String}{f:String},AllB mg fs->f∈fs->mg (Str.ofString f)=none
 |f'::r,f,h,m=>by
  rcases ba.mp m with e |m
  ·cases e;exact h.1
  ·exact AllB.get h.2 m
theorem AllC.get:∀{fs:List (String×D)}{x:String}{d:D},AllC K mg fs->(x,d)∈fs->∃u v,mg (Str.ofString x)=some u/\RelV v u/\∀H F,Rep K H F d v
 | (f',n')::r,f,n,h,m=>by
  rcases ba.mp m with e |m
  ·cases e;exact h.1
  ·exact AllC.get h.2 m
noncomputable def cvB(K:PF)(C':String):Option V:=match PySem.W.nsIn K mainGlobals (Str.ofString C') with
 |some (some (.ref a))=>if wC K a then some (.ref a) else none
 |some none=>if C'=="ValueError" then some (.ty "ValueError") else none
 |_=>none
noncomputable def xiB(K:PF)(C C':String)(cv:V):Bool:=match PySem.W.nsIn K mainGlobals (Str.ofString C) with
 |some (some (.ref c))=>gH K c&&PySem.W.mroIn K c (valOf cv)==some (dJ C C')&&(dJ C C'||!(Value.ref c==valOf cv))
 |_=>false
noncomputable def uq(K:PF)(C:String):Bool:=match PySem.W.nsIn K mainGlobals (Str.ofString C) with
 |some (some (.ref c))=>dZ K c
 |_=>false
noncomputable def xsB(K:PF)(xs:List (String×Bool)):Bool:=xs.all λp=>match p.2 with
 |true=>uq K p.1
 |false=>(cvB K p.1).any λcv=>xs.all λq=>!q.2||xiB K q.1 p.1 cv
theorem WQ{h:Heap}(X:K.In h)(Gh:h.Ns mainGlobals mg){xs:List (String×Bool)}(e:xsB K xs=true)(C:String)(hC:xs.contains (C,true)=true):∃a,mg (Str.ofString C)=some (.ref a)/\dZ K a=true/\PySem.W.nsIn K mainGlobals (Str.ofString C)=some (some (.ref a)):=by
 have e1:uq K C=true:=bS.mp e _ (bg.mp hC);unfold uq at e1;split at e1
 ·rename_i a hn;exact ⟨a,PySem.W.mg_of X Gh hn,e1,hn⟩
 ·cases e1
theorem WR{h:Heap}(X:K.In h)(Gh:h.Ns mainGlobals mg){xs:List (String×Bool)}(e:xsB K xs=true)(C':String)(hC:xs.contains (C',false)=true):∃cv,CV K mg C' cv/\∀C,xs.contains (C,true)=true->XI K C C' cv:=by
 have e1:((cvB K C').any λcv=>xs.all λq=>!q.2||xiB K q.1 C' cv)=true:=bS.mp e _ (bg.mp hC);obtain ⟨cv,hcv,h2⟩:=aM e1;refine ⟨cv,?_,λC hC=>?_⟩
 ·unfold cvB at hcv;split at hcv
  ·rename_i a hn;split at hcv
   ·rename_i hb;cases hcv;exact .inl ⟨a,rfl,PySem.W.mg_of X Gh hn,hb⟩
   ·cases hcv
  ·rename_i hn;split at hcv
   ·rename_i hb;cases hcv;exact .inr ⟨aE.mp hb,rfl,PySem.W.mg_none_of X Gh hn⟩
   ·cases hcv
  ·cases hcv
 ·have e3:(!true||xiB K C C' cv)=true:=bS.mp h2 _ (bg.mp hC);have e3:xiB K C C' cv=true:=e3;unfold xiB at e3;split at e3
  ·rename_i c hn;rw[ah,ah,aE]at e3;refine ⟨c,hn,e3.1.1,e3.1.2,λhs=>?_⟩;have:=e3.2;rw[hs,Bool.false_or,fh]at this;exact this
  ·cases e3
theorem bse{h:Heap}{fs:List (String×Nat)}{bt:List String}{cn:List (String×D)}(h1:AllF Φ P w K mg base k fs)(h2:AllB mg bt)(h3:AllC K mg cn)(X:K.In h)(Gh:h.Ns mainGlobals mg)(e:xsB K xs=true):Bse Φ P w K mg base (CX1 P w) k fs bt cn xs {}:=
 ⟨λ_ _ m=>(h1.get m).ex,λ_ m=>h2.get m,λ_ _ m=>h3.get m,WQ X Gh e,WR X Gh e,(λ_ _ _ _ h=>(nomatch h)),(λ_ _ h=>(nomatch h)),(λ_ _ h=>(nomatch h)),(λ_ _ h=>(nomatch h))⟩
theorem WT{n:Nat}{S:RF.Spec}{fa:Addr}{fd:FuncData}{ps:List Str}(h:∀ds G a,¬S.pre ds G a):FnOk P w K mg base (CX1 P w) k fa fd ps (lift K n S):=
 ⟨λ_ _ _ _ ⟨_,_,_,_,_,_,a,hp,_⟩=>absurd hp (h _ _ a),λ_ _ _ _ _ _ _ _ _ _ _ _ _ ⟨_,_,_,_,_,_,a,hp,_⟩=>absurd hp (h _ _ a)⟩
end
section
variable {Φ:ak} {P:Program} {w:World} {K:PF} {mg:Str->Option Value} {base:Heap} {k j n:Nat} {fs:List (String×Nat)} {bt:List String} {cn:List (String×D)} {xs:List (String×Bool)} {ot:OT} {x:String} {S:RF.Spec} {fa:Addr} {fd:FuncData} {ps:List Str}
theorem MthOk.mono{f C m:String}(h:MthOk Φ P w K mg base (CX1 P w) k f C m n)(hk:k<=j):MthOk Φ P w K mg base (CX1 P w) j f C m n:=by obtain ⟨c,fa,fd,ps,h1,h2,h3,h4,h5⟩:=h;exact ⟨c,fa,fd,ps,h1,h2,h3,h4,h5.mono hk⟩
theorem MkoOk.mono{C:String}(h:MkoOk Φ P w K mg base (CX1 P w) k C n)(hk:k<=j):MkoOk Φ P w K mg base (CX1 P w) j C n:=by obtain ⟨c,fa,fd,ps,sp,i,h0,h⟩:=h;exact ⟨c,fa,fd,ps,sp,i,ca h0 hk,h⟩
theorem XkoX.mono{C f:String}(h:XkoX P w K mg base (CX1 P w) k xs C f)(hk:k<=j):XkoX P w K mg base (CX1 P w) j xs C f:=by obtain ⟨⟨c,fa,fd,ps,i,h0,h⟩,h2⟩:=h;exact ⟨⟨c,fa,fd,ps,i,ca h0 hk,h⟩,h2⟩
theorem Bse.add(B:Bse Φ P w K mg base (CX1 P w) k fs bt cn xs ot)(e:Φ x=S)(o:FnOk P w K mg base (CX1 P w) (k+j) fa fd ps (lift K n S))(h2:PySem.W.keepIn K (.ref fa)=true)(h3:Binds K fd ps [])(h4:mg (Str.ofString x)=some (.ref fa)):Bse Φ P w K mg base (CX1 P w) (k+j) ((x,n)::fs) bt cn xs ot:=by
 refine ⟨λf m hm=>?_,B.blt,B.con,B.xcl,B.xis,λf C m n h=>(B.mth f C m n h).mono (c9 _ _),λC n h=>(B.mko C n h).mono (c9 _ _),B.fld,λC f h=>(B.xko C f h).mono (c9 _ _)⟩;rcases ba.mp hm with e' |hm
 ·cases e';exact ⟨fa,fd,ps,by rw[e];exact o,h2,h3,h4⟩
 ·obtain ⟨fa,fd,ps,h1,h⟩:=B.call f m hm;exact ⟨fa,fd,ps,h1.mono (c9 _ _),h⟩
theorem Bse.step{qual:Str}{st:Stmt}{N:List Str}{body:Sxs}(B:Bse Φ P w K mg base (CX1 P w) k fs bt cn xs ot)(F:Fun K (Str.ofString x) qual st fa fd)(h3:Binds K fd ps [])(h4:mg (Str.ofString x)=some (.ref fa))(e:Φ x=S)(m:Nat)
  (hs:fnB N ps (aB st)=true) (hc:aL (bj N (aB st) fs bt cn xs ot) body (aW st)=true) (hn:ps.length=n) (hm:N.length=n+m)
  (hw:∀ds G a,ds.length=n->S.pre ds G a->aA Φ body noE (env0 ds m) G (ends (S.post a))):Bse Φ P w K mg base (CX1 P w) (k+1) ((x,n)::fs) bt cn xs ot:=
 B.add e (um F B S n m hs hc hn hm hw) F.kp h3 h4
def pF(Φ:ak)(x:String)(S:RF.Spec):ak:=λf=>if f=x then S else Φ f
theorem Bse.self(B:Bse Φ P w K mg base (CX1 P w) k fs bt cn xs {})(hx:(fs.map (·.1)).contains x=false)(o:FnOk P w K mg base (CX1 P w) (k+j) fa fd ps (lift K n S))(h2:PySem.W.keepIn K (.ref fa)=true)(h3:Binds K fd ps [])(h4:mg (Str.ofString x)=some (.ref fa)):Bse (pF Φ x S) P w K mg base (CX1 P w) (k+j) ((x,n)::fs) bt cn xs {}:=by
 refine ⟨λf m hm=>?_,B.blt,B.con,B.xcl,B.xis,(λ_ _ _ _ h=>(nomatch h)),(λ_ _ h=>(nomatch h)),(λ_ _ h=>(nomatch h)),(λ_ _ h=>(nomatch h))⟩;rcases ba.mp hm with e' |hm'
 ·cases e';exact ⟨fa,fd,ps,by unfold pF;rw[if_pos rfl];exact o,h2,h3,h4⟩
 ·obtain ⟨fa,fd,ps,h1,h⟩:=B.call f m hm';have hf:f≠x:=by
   rintro rfl;rw[<-Bool.not_eq_true,bg]at hx;exact hx (cb.mpr ⟨(f,m),hm',rfl⟩)
  exact ⟨fa,fd,ps,by unfold pF;rw[if_neg hf];exact h1.mono (c9 _ _),h⟩
end
theorem WX{S:RF.Spec}(hS:∀(ns:List Int)(G:DH),ns.length<=63->∃a,S.pre [.scr ns] G a/\(∀d G',S.post a d G'->d=.bl true)/\∀x G',¬S.exc a x G')(K:PF)(H:Hp)(a:Addr)(ns:List Int)(hl:ns.length<=63)(hO:Only H)(hs:SqL K H a (ns.map V.int)):
  lift K 1 S [.ref a] H (λv _=>v=.bl true) λ_ _ _=>False:=by
 obtain ⟨b,h1,h2,h3⟩:=hS ns (λ_=>none) hl;refine ⟨rfl,λ_=>False,λ_=>none,[.scr ns],⟨λ_ f=>f.elim,λ_ _ e=>by cases e⟩,⟨.ref a,[],rfl,⟨a,rfl,?_⟩,rfl⟩,b,h1,λd G' q H' F' v _ _ rv=>?_,λx G' q=>absurd q (h3 x G')⟩
 ·rcases hs with (h |h) |h
  ·exfalso;rcases hO a with z |⟨o,u,z⟩
   ·rw[z]at h;cases h
   ·rw[z]at h;cases h
  ·exact .inl h
  ·exact .inr h
 ·rw[h2 d G' q]at rv;exact rv
theorem WY{pre:List D->DH->Prop}(h:∀(ns:List Int)(G:DH),ns.length<=63->pre [.scr ns] G):∀(ns:List Int)(G:DH),ns.length<=63->∃a,(bK pre (λ_ _ d _=>d=.bl true)).pre [.scr ns] G a/\(∀d G',(bK pre (λ_ _ d _=>d=.bl true)).post a d G'->d=.bl true)/\∀x G',¬(bK pre (λ_ _ d _=>d=.bl true)).exc a x G':=
 λns G hl=>⟨([.scr ns],G),⟨rfl,h ns G hl⟩,λ_ _ q=>q,λ_ _ z=>z⟩
def ghS{A:Type}(pre:A->List D->DH->Prop)(post:A->DH->D->DH->Prop):RF.Spec where
 A:=A×DH
 pre:=λds G a=>a.2=G/\pre a.1 ds G
 post:=λa d G'=>post a.1 a.2 d G'
 exc:=λ_ _ _=>False
theorem ur{A:Type}{pre:A->List D->DH->Prop}{post:A->DH->D->DH->Prop}{ds:List D}{G:DH}{k:D->DH->Prop}{E:EK}(a:A)(h:pre a ds G)(hk:∀d G',post a G d G'->k d G'):(ghS pre post).t ds G k E:=
 ⟨(a,G),⟨rfl,h⟩,hk,λ_ _ z=>z.elim⟩
theorem ut{A:Type}{Φ:ak}{body:Sxs}{m n:Nat}{pre:A->List D->DH->Prop}{post:A->DH->D->DH->Prop}(h:∀a ds G,pre a ds G->aA Φ body noE (env0 ds m) G (ends (post a G))):
  ∀ds G a,ds.length=n->(ghS pre post).pre ds G a->aA Φ body noE (env0 ds m) G (ends ((ghS pre post).post a)):=by
 rintro ds G ⟨a,G0⟩ _ ⟨rfl,h1⟩;exact h a ds _ h1
def pG{A:Type}(args:A->List D)(ok:A->Prop)(val:A->D):RF.Spec:=ghS (λa ds _=>ds=args a/\ok a) (λa G d G'=>G'=G/\d=val a)
theorem W0{A:Type}{args:A->List D}{ok:A->Prop}{val:A->D}{ds:List D}{G:DH}{k:D->DH->Prop}{E:EK}(a:A)(e:ds=args a)(h:ok a)(hk:k (val a) G):(pG args ok val).t ds G k E:=
 ur a ⟨e,h⟩ λd G' ⟨e1,e2⟩=>by subst e1 e2;exact hk
theorem W2{A:Type}{Φ:ak}{body:Sxs}{m n:Nat}{args:A->List D}{ok:A->Prop}{val:A->D}(h:∀a G,ok a->aA Φ body noE (env0 (args a) m) G (ends λd G'=>G'=G/\d=val a)):
  ∀ds G a,ds.length=n->(pG args ok val).pre ds G a->aA Φ body noE (env0 ds m) G (ends ((pG args ok val).post a)):=
 ut λa ds G ⟨e,h1⟩=>by subst e;exact h a G h1
theorem ai{a b:Prop}(x:a)(y:b):a/\b:=⟨x,y⟩
def Hm:=ai @nF (ai @ik (ai @nJ (ai @nM (ai @rU (ai @nO (ai @nP (ai @nQ (ai @nR (ai @nT (ai @nU (ai (ai @nW (ai @rW (ai @rY (ai @rZ (ai (ai @sE (ai @sr (ai @su @sy))) (ai @sG (ai @sH (ai (ai @rH (ai (ai (ai @rK (ai @rM (ai @rN @rO))) (ai @m9 (ai @rJ @rP))) (ai @rQ (ai @rR @rT)))) (ai @xO @xP))))))))) (ai @Hf (ai @Hk (ai (ai @mQ (ai @my (ai @mz (ai @mC (ai @ie (ai @fB (ai @eF (ai @mD (ai @jg (ai @mF (ai @jh (ai @mG (ai @mH (ai @mJ (ai @mK (ai @rn (ai @rz (ai @rA (ai @mL (ai @mO (ai @nH (ai @nG (ai @Dq (ai @Ds (ai @Dt (ai @ni (ai @nq (ai @nu (ai @x_at (ai @Dw (ai @Du @Dv))))))))))))))))))))))))))))))) (ai @fG (ai @rB (ai @mR (ai @rD (ai @jj (ai @jk (ai @rE (ai @mU (ai @rF (ai @mV (ai @mW (ai @mX (ai (ai @mY @rG) (ai @mZ (ai @m5 (ai @m7 (ai @m8 (ai @cX (ai @nA (ai @Hj (ai @Aq (ai @Ar (ai @Av (ai @Aw (ai @Ax (ai @Ay (ai (ai @Bb (ai @Ba @Az)) (ai @Bc (ai @Bd (ai @Be (ai @Bg (ai @Bh (ai @Bj (ai @Bk (ai @Bl (ai @Bm (ai @Bo (ai @Bp (ai @Bq (ai @Br (ai @Bt (ai @Bu (ai @Bv (ai @Bw (ai @Bx (ai @By (ai @BJ (ai @BK (ai @BL (ai @BP (ai @BR (ai @BV (ai @BW (ai @BX (ai @BZ (ai @Cd (ai @Ce (ai @Cg (ai @Ci (ai (ai @Ck @Cj) (ai @Cm (ai @Cp (ai @Cq (ai @Cr (ai @Cu (ai @Cv (ai @Cw (ai @Cy (ai @Cz (ai @CG (ai (ai @CW (ai @CZ @CQ)) (ai (ai @Dc (ai (ai @CP (ai @CK @CN)) @CJ)) (ai @Dd (ai @De (ai @Df (ai @Dg (ai (ai @Dh (ai @Dm (ai @Dn (ai @Do (ai @Dp (ai @Eg @Ef)))))) (ai @Di (ai (ai @Dl (ai @Dj @Dk)) (ai @Dy (ai @Dz (ai @DG (ai @DK (ai @DN (ai @DP (ai @DQ (ai @DR (ai @DW (ai @DX (ai @DY (ai @Ea (ai @Eb (ai @Ec (ai @Ed (ai @Eh (ai @Ei (ai @Ej (ai @Ek (ai @El (ai @Em (ai @Eo (ai @Ep (ai @Er (ai @Es (ai @Et (ai @Eu (ai @Ew (ai @Ey (ai @is_tup (ai @Ez (ai @EY (ai (ai @Fd @Fb) (ai @Fe (ai @Ff (@Ca)))))))))))))))))))))))))))))))))))))))))))))))))))))))))))))))))))))))))))))))))))))))))))))))))))))))))))))))))))))))))))))))))
theorem W3:type_of% (ag @ji @ig):=ag @ji @ig
theorem Hn:type_of% (ag @Hg (ag @Hh (ag @Hi (ag @Option.join_some.{0} (ag @cy.{0,0} (ag @fN.{0,0} (ag @List.cons_append.{0} (ag @List.nil_append.{0} (ag @bX.{0} (ag @List.replicate_zero.{0} (ag @List.getElem?_cons_zero.{0} (ag @List.getElem?_cons_succ.{0} (ag @List.set_cons_zero.{0} (ag @List.set_cons_succ.{0} (ag @fi.{0} (ag @List.length_nil.{0} (ag @Af (ag @Ag (ag @Ah (ag @Ai (ag @Aj (ag @Ak (ag @Al (ag @true_and (ag @and_true (ag @Nat.min_self (ag @Nat.zero_min (ag @Nat.min_zero (ag @e8 (ag @Bool.or_false (ag @Bool.or_true (ag @Bool.false_or (ag @Bool.true_or (ag @Bool.not_true (ag @Bool.not_false (ag @Fg (ag @Fi (ag @Fj (ag @Fl (ag @Fp (ag @Fq (ag @Ft (ag @Fv (ag @Fw (ag @Fx (ag @Fy (ag @Fz (ag @FJ (ag @FN (ag @FP (ag @FQ (ag @FT (ag @FW (ag @Ga (ag @Gb (ag @Gd (ag @Ge (ag @Gf (ag @Gg (ag @Gi (ag @Gj (ag @Gk (ag @Gm (ag @Gn (ag @Gp (ag @Gq (ag @Gr (ag @Gs (ag @Gu (ag @Gv (ag @Gw (ag @Gx (ag @Gy (ag @Gz (ag @GC (ag @GD (ag @GF (ag @GJ (ag @GK (ag @GP (ag @GQ (ag @GR (ag @GX (ag @GZ (ag @G8 (ag @G9 (ag @Ha (ag @Hb (@Hc))))))))))))))))))))))))))))))))))))))))))))))))))))))))))))))))))))))))))))))))))))))))):=ag @Hg (ag @Hh (ag @Hi (ag @Option.join_some.{0} (ag @cy.{0,0} (ag @fN.{0,0} (ag @List.cons_append.{0} (ag @List.nil_append.{0} (ag @bX.{0} (ag @List.replicate_zero.{0} (ag @List.getElem?_cons_zero.{0} (ag @List.getElem?_cons_succ.{0} (ag @List.set_cons_zero.{0} (ag @List.set_cons_succ.{0} (ag @fi.{0} (ag @List.length_nil.{0} (ag @Af (ag @Ag (ag @Ah (ag @Ai (ag @Aj (ag @Ak (ag @Al (ag @true_and (ag @and_true (ag @Nat.min_self (ag @Nat.zero_min (ag @Nat.min_zero (ag @e8 (ag @Bool.or_false (ag @Bool.or_true (ag @Bool.false_or (ag @Bool.true_or (ag @Bool.not_true (ag @Bool.not_false (ag @Fg (ag @Fi (ag @Fj (ag @Fl (ag @Fp (ag @Fq (ag @Ft (ag @Fv (ag @Fw (ag @Fx (ag @Fy (ag @Fz (ag @FJ (ag @FN (ag @FP (ag @FQ (ag @FT (ag @FW (ag @Ga (ag @Gb (ag @Gd (ag @Ge (ag @Gf (ag @Gg (ag @Gi (ag @Gj (ag @Gk (ag @Gm (ag @Gn (ag @Gp (ag @Gq (ag @Gr (ag @Gs (ag @Gu (ag @Gv (ag @Gw (ag @Gx (ag @Gy (ag @Gz (ag @GC (ag @GD (ag @GF (ag @GJ (ag @GK (ag @GP (ag @GQ (ag @GR (ag @GX (ag @GZ (ag @G8 (ag @G9 (ag @Ha (ag @Hb (@Hc))))))))))))))))))))))))))))))))))))))))))))))))))))))))))))))))))))))))))))))))))))))))
section
local macro_rules|`(#[])=>`(.nil)|`(#[$x])=>`(.cons $x .nil)|`(#[$x,$y,*])=>`(.cons $x #[$y,*])
local macro_rules|`(-$x)=>`(.var $x)
local macro_rules|`(¬$x)=>`(.cst (.int $x))
local macro_rules|`(!$x)=>`(.cst (.str $x))
local macro_rules|`($x<|$y)=>`(.call $x $y)
def uv:Sxs:=#[.set (-0) (¬2) (¬0),.ret (-0)]
noncomputable def uw:Sxs:=#[.asg (.nm 1) (.lcl false .list #[.slc true (-0) .no (.ob (¬12))]),.for_ (.tp #[.nm 2,.nm 3]) (.enm (.slc true (-0) (.ob (¬12)) (.ob (¬63)))) #[.set (-1) (.bin .Mod true (-2) (¬12)) (.bin .Add true (.idx (-1) (.bin .Mod true (-2) (¬12))) (-3))],.ret (.lst false #[.frz (-1),¬0,¬0])]
noncomputable def ux:Sxs:=#[.ite (.val (.cmp .GtE (-0) (.bin .Pow true (¬10) (¬18)))) #[.ret (-0)] #[],.asg (.nm 2) (.bin .Mod true (.bin .Add true (.bin .Add true (.bin .Mult true (.bin .Mod true (-0) (¬1000000007)) (¬69069)) (.bin .Mult true (-1) (¬40503))) (¬977)) (¬2147483629)),.asg (.nm 3) (.bin .Mod true (.bin .Add true (.bin .Add true (.bin .Mult true (-2) (-2)) (.bin .Mult true (-1) (¬7919))) (.bin .Mod true (-0) (¬65537))) (¬2147483587)),.asg (.nm 4) (.bin .Mod true (.bin .Add true (.bin .Add true (.bin .Mult true (-3) (-3)) (.bin .Mult true (-2) (¬31))) (¬5)) (¬2147483563)),.ret (.bin .Add true (.bin .Mult true (.bin .Add true (.bin .Mult true (-2) (¬2147483659)) (-3)) (¬2147483693)) (-4))]
noncomputable def uy:Sxs:=#[.ite (.val (.cmp .Lt (.idx (-0) (¬2)) (-1))) #[.asg (.nm 2) (.idx (-0) (¬1)),.asg (.nm 3) (¬0),.ite (.val (.cmp .Lt (-2) (.bcl .len #[.idx (-0) (¬0)]))) #[.asg (.nm 3) (.idx (.idx (-0) (¬0)) (-2))] #[.ite (.val (.cmp .Gt (.bcl .len #[.idx (-0) (¬0)]) (¬0))) #[.asg (.nm 3) (.bin .Mod true (.idx (.idx (-0) (¬0)) (.bin .Mod true (.bin .Add true (.bin .Mult true (-2) (¬5)) (¬3)) (.bcl .len #[.idx (-0) (¬0)]))) (.bin .Add true (.bin .Pow true (¬10) (¬17)) (-2)))] #[]],.set (-0) (¬1) (.bin .Add true (-2) (¬1)),.set (-0) (¬2) ("_law_spread"<|#[-3,-2])] #[],.asg (.nm 4) (.bin .Mod true (.idx (-0) (¬2)) (-1)),.set (-0) (¬2) (.bin .FloorDiv true (.idx (-0) (¬2)) (-1)),.ret (-4)]
noncomputable def uz:Sxs:=#[.ret (.mth .join (![]) #[.comp true (.idx (-1) ("_law_take"<|#[-2,.bcl .len #[-1]])) (.nm 0) (.rng (-1)) .yes ["at","signs","pen"] [none,some 2,some 0]])]
noncomputable def uA:Sxs:=#[.ret ("_law_signs"<|#[-0,-1,.idx (.lst true #[![48,49,42],![48,49,42,42],![48,49,42,42,42,42],![48,42],![48,49]]) ("_law_take"<|#[-0,¬5])])]
noncomputable def uB:Sxs:=#[.asg (.nm 2) (![]),.for_ (.nm 3) (.seq (-1)) #[.ite (.val (.cmp .Eq ("_law_take"<|#[-0,¬3]) (¬0))) #[.asg (.nm 3) (![42])] #[],.asg (.nm 2) (.bin .Add true (-2) (-3))],.ret (-2)]
noncomputable def uC:Sxs:=#[.asg (.nm 2) (![]),.for_ (.nm 3) (.seq (-1)) #[.ite (.boo true (.val (.cmp .Eq (-3) (![42]))) #[.val (.cmp .Eq ("_law_take"<|#[-0,¬2]) (¬0))]) #[.asg (.nm 3) (.idx (![48,49]) ("_law_take"<|#[-0,¬2]))] #[],.asg (.nm 2) (.bin .Add true (-2) (-3))],.ret (-2)]
noncomputable def uD:Sxs:=#[.asg (.nm 3) ("_law_take"<|#[-0,¬7]),.ite (.boo false (.val (.cmp .Eq (-2) (.lst true #[]))) #[.val (.cmp .Lt (-3) (¬2))]) #[.ret ("_law_form"<|#[-0,-1])] #[],.asg (.nm 4) (.idx (-2) ("_law_take"<|#[-0,.bcl .len #[-2]])),.ite (.val (.cmp .Eq (-3) (¬2))) #[.ret (-4)] #[],.ite (.val (.cmp .Lt (-3) (¬5))) #[.asg (.nm 5) ("_law_take"<|#[-0,-1]),.ret (.bin .Add true (.bin .Add true (.slc true (-4) .no (.ob (-5))) (.idx (![48,49,42]) ("_law_take"<|#[-0,¬3]))) (.slc true (-4) (.ob (.bin .Add true (-5) (¬1))) .no))] #[],.ite (.val (.cmp .Eq (-3) (¬5))) #[.ret ("_law_within"<|#[-0,-4])] #[],.ret ("_law_wider"<|#[-0,-4])]
noncomputable def uE:Sxs:=#[.asg (.nm 2) (.bin .Add true (¬1) ("_law_take"<|#[-0,-1])),.asg (.nm 3) ("_law_form"<|#[-0,-2]),.ret (.tup #[-3,"_law_form_like"<|#[-0,-2,.lst true #[-3]]])]
noncomputable def uF:Sxs:=#[.for_ (.tp #[.nm 2,.nm 3]) (.zip (-0) (-1)) #[.ite (.boo true (.val (.cmp .NotEq (-2) (![42]))) #[.val (.cmp .NotEq (-2) (-3))]) #[.ret (.cst (.bl false))] #[]],.ret (.cst (.bl true))]
noncomputable def uG:Sxs:=#[.asg (.nm 1) (![]),.for_ (.nm 2) (.rng (.bcl .len #[.idx (-0) (¬0)])) #[.asg (.nm 3) (.srs true (.comp true (.idx (-0) (-1)) (.nm 0) (.seq (-0)) .yes ["word","at"] [none,some 2])),.asg (.nm 1) (.bin .Add true (-1) (.idx (.lst true #[![42],.idx (-3) (¬0)]) (.bcl .int #[.cmp .Eq (.bcl .len #[-3]) (¬1)])))],.ret (-1)]
noncomputable def dC:Sxs:=#[.ite (.val (.cmp .Is (-1) (.cst .non))) #[.ret (.cmp .Is (-0) (.cst .non))] #[],.ite (.boo false (.val (.isi (-1) "bool")) #[.val (.isi (-0) "bool")]) #[.ret (.boo true (.isi (-1) "bool") #[.isi (-0) "bool",.cmp .Eq (-0) (-1)])] #[],.ite (.val (.isi (-1) "int")) #[.ret (.boo true (.isi (-0) "int") #[.cmp .Eq (-0) (-1)])] #[],.ite (.val (.isi (-1) "str")) #[.ret (.boo true (.isi (-0) "str") #[.cmp .Eq (-0) (-1)])] #[],.ite (.boo false (.val (.cmp .NotEq (.isi (-1) "tuple") (.isi (-0) "tuple"))) #[.val (.cmp .NotEq (.isi (-1) "list") (.isi (-0) "list"))]) #[.ret (.cst (.bl false))] #[],.ite (.val (.cmp .NotEq (.bcl .len #[-0]) (.bcl .len #[-1]))) #[.ret (.cst (.bl false))] #[],.ret (.cmp .NotIn (.cst (.bl false)) (.comp true ("_law_same"<|#[-0,-1]) (.tp #[.nm 0,.nm 1]) (.zip (-0) (-1)) .yes ["one","other"] [none,none]))]
noncomputable def uH:Sxs:=#[.asg (.nm 1) (.lst true #[![]]),.for_ (.nm 2) (.seq (-0)) #[.asg (.nm 3) (.lst false #[]),.for_ (.nm 4) (.seq (-1)) #[.exp (.mth .extend (-3) #[.comp true (.bin .Add true (-1) (-0)) (.nm 0) (.seq (.idx (.lst true #[![48,49],-2]) (.bcl .int #[.cmp .NotEq (-2) (![42])]))) .yes ["one","text"] [none,some 4]])],.asg (.nm 1) (.frz (-3))],.ret (-1)]
noncomputable def jJ:Sxs:=#[.asg (.nm 2) (![]),.for_ (.tp #[.nm 3,.nm 4]) (.zip (-0) (-1)) #[.ite (.val (.cmp .Eq (-3) (![42]))) #[.aug 2 .Add (-4)] #[.ite (.boo false (.val (.cmp .Eq (-4) (![42]))) #[.val (.cmp .Eq (-4) (-3))]) #[.aug 2 .Add (-3)] #[.ret (.cst .non)]]],.ret (-2)]
noncomputable def jK:Sxs:=#[.ite (.val (.cmp .NotEq (.bcl .len #[-0]) (.bcl .len #[-1]))) #[.ret (.cst (.bl false))] #[],.ret (.bcl .all #[.comp true (.boo false (.cmp .Eq (-0) (![42])) #[.cmp .Eq (-0) (-1)]) (.tp #[.nm 0,.nm 1]) (.zip (-0) (-1)) .yes ["sign","given"] [none,none]])]
def jL:Sxs:=#[.ret ("fits"<|#[-1,-0])]
noncomputable def uI:Sxs:=#[.asg (.nm 2) ("_law_words"<|#[-0]),.asg (.nm 3) (.comp true (-0) (.nm 0) (.seq (-2)) (.val ("_law_fits"<|#[-1,-0])) ["word","other"] [none,some 1]),.ite (.not (.val ("_law_same"<|#["lies_in"<|#[-0,-1],.cmp .Eq (.bcl .len #[-3]) (.bcl .len #[-2])]))) #[.ret (.cst (.bl false))] #[],.asg (.nm 4) (.cst .non),.ite (.val (.cmp .NotEq (-3) (.lst true #[]))) #[.asg (.nm 4) ("_law_form_of"<|#[-3])] #[],.ret ("_law_same"<|#["both"<|#[-0,-1],-4])]
noncomputable def uJ:Sxs:=#[.asg (.nm 1) ("_law_open"<|#[-0]),.for_ (.nm 2) (.rng (¬16)) #[.asg (.tp #[.nm 3,.nm 4]) ("_law_pair"<|#["_law_anew"<|#[-1],¬6]),.ite (.boo false (.not (.val ("_law_right"<|#[-3,-4]))) #[.not (.val ("_law_right"<|#[-4,-3])),.not (.val ("_law_right"<|#[-3,-3]))]) #[.ret (.cst (.bl false))] #[]],.ret (.cst (.bl true))]
end
end RF
local macro_rules | `(tactic| simp_arith [$l,*] $[$c:location]?) => `(tactic| simp -implicitDefEqProofs only [↓RF.W3, ↓RF.Hm, RF.Hn, RF.env0, RF.ends, String.reduceBEq, $l,*] $[$c:location]?)
local macro_rules | `(tactic| simp_arith! [$l,*] $[$c:location]?) => `(tactic| simp -implicitDefEqProofs only [↓RF.Hm, RF.Hn, RF.env0, RF.ends, String.reduceBEq, $l,*] $[$c:location]?)
local macro_rules | `(tactic| simp_all_arith [$l,*]) => `(tactic| simp -implicitDefEqProofs only [RF.env0, RF.ends, List.map_cons, List.map_nil, List.cons_append, List.nil_append, List.replicate_succ, List.replicate_zero, $l,*])
namespace RF
open PySem L2
theorem gr{i j:Int}(h:-(2 ^ 64) < j/\j < 2 ^ 64):CMul i j:=.inr h
theorem Ho{i j:Int}(h:-(2 ^ 64) < i/\i < 2 ^ 64):CMul i j:=.inl h
theorem Hq{j:Int}(h:0<=j/\j<=1000):lA 10 j:=⟨h.1,by omega,by decide⟩
def pH:RF.Spec:=bK (λds _=>∃c k:Int,ds=[.int c,.int k]/\0<=k) (λ_ G d G'=>G'=G/\∃r:Int,d=.int r/\0<=r)
theorem W4(Φ:ak)(ds:List D)(G:DH)(h:∃c k:Int,ds=[.int c,.int k]/\0<=k):aA Φ ux noE (env0 ds 3) G (ends λd G'=>G'=G/\∃r:Int,d=.int r/\0<=r):=by
 obtain ⟨c,k,rfl,hk⟩:=h;simp_arith[ux];refine ⟨Hq (by decide),?_⟩;cases hc:decide (10 ^ Int.toNat 18<=c) with
 |true=>
  refine ⟨c,rfl,?_⟩;have:=fA hc;have h2:(0:Int)<=(10:Int) ^ (18:Int).toNat:=by decide
  exact Int.le_trans h2 this
 |false=>
  generalize hone:(c % 1000000007 * 69069+k * 40503+977) % 2147483629=one;have o1:0<=one:=by rw[<-hone];exact fw _ (by decide)
  have o2:one < 2147483629:=by rw[<-hone];exact fx _ (by decide)
  generalize htwo:(one * one+k * 7919+c % 65537) % 2147483587=two;have t1:0<=two:=by rw[<-htwo];exact fw _ (by decide)
  have t2:two < 2147483587:=by rw[<-htwo];exact fx _ (by decide)
  generalize hthree:(two * two+one * 31+5) % 2147483563=three;have h1:0<=three:=by rw[<-hthree];exact fw _ (by decide)
  clear hone htwo hthree;refine ⟨by decide,gr (by decide),gr (by decide),by decide,Ho (by omega),gr (by decide),by decide,by decide,Ho (by omega),gr (by decide),by decide,gr (by decide),gr (by decide),_,rfl,?_⟩;omega
def Pen(G:DH)(p:Addr):Prop:=∃(ns:List Int)(k st:Int),G p=some (.lst [.lst (ns.map D.int),.int k,.int st])/\0<=k/\0<=st
theorem Pen.sa{G G':DH}{p:Addr}(h:Pen G p)(s:Sa G G'):Pen G' p:=by obtain ⟨ns,k,st,e,h1⟩:=h;exact ⟨ns,k,st,s _ _ e,h1⟩
def pI:RF.Spec:=bK (λds G=>∃p,ds=[.ref p]/\Pen G p) (λds G d G'=>∃p,ds=[.ref p]/\d=.ref p/\Pen G' p/\Sb p G G')
theorem W5(Φ:ak)(ds:List D)(G:DH)(h:∃p,ds=[.ref p]/\Pen G p):aA Φ uv noE (env0 ds 0) G (ends λd G'=>∃p,ds=[.ref p]/\d=.ref p/\Pen G' p/\Sb p G G'):=by obtain ⟨p,rfl,ns,k,st,e,h1,h2⟩:=h;simp_arith[uv,eO e];exact ⟨p,rfl,rfl,⟨ns,k,0,cC,h1,by decide⟩,Sb.upd⟩
def eQ:RF.Spec:=bK (λds G=>∃p,∃m:Int,ds=[.ref p,.int m]/\Pen G p/\0 < m/\m < 1152921504606846976) (λds G d G'=>∃p,∃m r:Int,ds=[.ref p,.int m]/\d=.int r/\0<=r/\r < m/\Pen G' p/\Sb p G G')
theorem W6 (Φ:ak) (hΦ:Φ "_law_spread"=pH) (ds:List D) (G:DH) (h:∃p,∃m:Int,ds=[.ref p,.int m]/\Pen G p/\0 < m/\m < 1152921504606846976):
  aA Φ uy noE (env0 ds 3) G (ends λd G'=>∃p,∃m r:Int,ds=[.ref p,.int m]/\d=.int r/\0<=r/\r < m/\Pen G' p/\Sb p G G'):=by
 obtain ⟨p,m,rfl,⟨ns,k,st,e,h1,h2⟩,h3,h4⟩:=h;simp_all_arith[uy];refine seq λM hM=>?_;have fin:∀(ρ2 ρ3 ρ4:Option D)(G1:DH)(k1 s1:Int),0<=k1->0<=s1->G1 p=some (.lst [.lst (ns.map D.int),.int k1,.int s1])->Sb p G G1->M [some (.ref p),some (.int m),ρ2,ρ3,ρ4] G1:=by intro ρ2 ρ3 ρ4 G1 k1 s1 q1 q2 e1 sb;refine hM _ _ ?_;simp_arith[cP e1,eO e1];refine ⟨h3,⟨h3,h4⟩,p,m,_,rfl,rfl,fw _ (by omega),fx _ h3,⟨ns,k1,_,cC,q1,?_⟩,sb.trans Sb.upd⟩;exact Int.ediv_nonneg q2 (by omega)
 simp_arith[cP e,eO e,hΦ];have draw:∀c:Int,pH.t [.int c,.int k] (aX G p (.lst [.lst (ns.map D.int),.int (k+1),.int st])) (λx G1=>trk G1 p λds=>aV (ixN ds.length 2) λj=>M [some (.ref p),some (.int m),some (.int k),some (.int c),none] (aX G1 p (.lst (ds.set j x)))) noE:=by intro c;refine cF ⟨c,k,rfl,h1⟩ λd G' hx=>?_;obtain ⟨e1,r,e2,hr⟩:=hx;subst e1 e2;simp_arith[eO cC];refine fin _ _ _ _ (k+1) r (by omega) hr cC (Sb.trans Sb.upd Sb.upd)
 cases hc:decide (st < m) with
 |false=>exact fin _ _ _ _ k st h1 h2 e (Sb.refl _ _)
 |true=>
  cases hk:decide (k < ((ns.map D.int).length:Int)) with
  |true=>
   have hk:=fA hk;rw[ax]at hk;refine dR (a:=.int ns[k.toNat]) ?_ ?_
   ·obtain ⟨n,rfl⟩:=df h1;exact dh (by simp at hk ⊢)
   ·exact draw _
  |false=>
   cases hz:decide (0 < ((ns.map D.int).length:Int)) with
   |false=>exact draw 0
   |true=>
    have hz:=fA hz;have j1:0<=(k * 5+3) % ((ns.map D.int).length:Int):=fw _ (by omega);have j2:(k * 5+3) % ((ns.map D.int).length:Int) < ((ns.map D.int).length:Int):=fx _ hz;obtain ⟨j,hj⟩:=df j1;rw[hj]at j2;have j3:j < ns.length:=by rw[ax]at j2;omega
    refine ⟨gr (by decide),hz,dR (a:=.int ns[j]) ?_ ⟨Hq (by decide),?_⟩⟩
    ·rw[hj];exact dh (by simp[j3])
    ·simp_arith[eO e];refine ⟨?_,draw _⟩;have:(0:Int) < 10 ^ Int.toNat 17:=by decide
     omega
def uK:RF.Spec:=bK (λds G=>∃p,∃n:Nat,∃cs:List Nat,ds=[.ref p,.int n,.str cs]/\Pen G p/\n<=1000/\cs≠[]/\cs.length<=1000)
 (λds G d G'=>∃p,∃n:Nat,∃cs l:List Nat,ds=[.ref p,.int n,.str cs]/\d=.str l/\l.length=n/\(∀c∈l,c∈cs)/\Pen G' p/\Sb p G G')
theorem W7(l:List Nat):((l.map λc=>[c]).map (·.length)).sum=l.length:=by
 induction l with
 |nil=>rfl
 |cons a l ih=>simp at ih ⊢;omega
theorem W8(l:List Nat):(l.map λc=>[c]).flatten=l:=by
 induction l with
 |nil=>rfl
 |cons a l ih=>simp at ih ⊢;exact ih
theorem W9 (Φ:ak) (hΦ:Φ "_law_take"=eQ) (ds:List D) (G:DH) (h:∃p,∃n:Nat,∃cs:List Nat,ds=[.ref p,.int n,.str cs]/\Pen G p/\n<=1000/\cs≠[]/\cs.length<=1000):
  aA Φ uz noE (env0 ds 0) G (ends λd G'=>∃p,∃n:Nat,∃cs l:List Nat,ds=[.ref p,.int n,.str cs]/\d=.str l/\l.length=n/\(∀c∈l,c∈cs)/\Pen G' p/\Sb p G G'):=by
 obtain ⟨p,n,cs,rfl,hp,hn,hc,hl⟩:=h;have hc1:0 < cs.length:=List.length_pos_iff.mpr hc;simp_arith[uz,hΦ];refine ⟨by omega,CompG.inv (P:=λi acc ρ G'=>(∃o,ρ=[o,some (.str cs),some (.ref p)])/\Pen G' p/\Sb p G G'/\∃l:List Nat,acc=l.map (λc=>D.str [c])/\l.length=i/\∀c∈l,c∈cs) (h0:=⟨⟨_,rfl⟩,hp,Sb.refl _ _,[],rfl,rfl,by simp⟩) (hh:=λ_ _ _ _ _=>trivial) (hl:=by simp[bR];have hsz:sz=1000000:=rfl;omega) (hs:=?_) (he:=?_)⟩
 ·rintro i d acc ρ G' hd ⟨⟨o,rfl⟩,hp',sb,l,rfl,hl',hm⟩ kk hk;simp_arith[hΦ];refine cF ⟨p,_,rfl,hp',by omega,by omega⟩ λd' G2 hx=>?_;obtain ⟨p2,m2,r,e1,e2,r0,r1,pp2,sb2⟩:=hx;cases e1;subst e2;obtain ⟨j,rfl⟩:=df r0;have hj:j < cs.length:=by omega
  simp_arith[ends];refine dR (a:=cs[j]) (dh (by simp[hj])) (hk _ _ _ ⟨⟨_,rfl⟩,pp2,sb.trans sb2,l++[cs[j]],by simp,by simp[hl'],?_⟩);intro c hc;rcases cm.mp hc with h |h
  ·exact hm c h
  ·rw[bd.mp h];exact List.getElem_mem _
 ·rintro acc ρ G' ⟨_,hp',sb,l,rfl,hl',hm⟩;simp_arith[strs_map];have hl2:l.length=n:=by rw[hl'];simp[bR]
  refine ⟨?_,p,n,cs,l,rfl,?_,hl2,hm,hp',sb⟩
  ·rw[W7];simp;have hsz:sz=1000000:=rfl;omega
  ·rw[Ae,W8]
def isF(c:Nat):Prop:=c=48\/c=49\/c=42
def jM:RF.Spec:=bK (λds G=>∃p,∃n:Nat,ds=[.ref p,.int n]/\Pen G p/\n<=1000) (λds G d G'=>∃p,∃n:Nat,∃l:List Nat,ds=[.ref p,.int n]/\d=.str l/\l.length=n/\(∀c∈l,isF c)/\Pen G' p/\Sb p G G')
theorem Xa (Φ:ak) (h1:Φ "_law_take"=eQ) (h2:Φ "_law_signs"=uK) (ds:List D) (G:DH) (h:∃p,∃n:Nat,ds=[.ref p,.int n]/\Pen G p/\n<=1000):
  aA Φ uA noE (env0 ds 0) G (ends λd G'=>∃p,∃n:Nat,∃l:List Nat,ds=[.ref p,.int n]/\d=.str l/\l.length=n/\(∀c∈l,isF c)/\Pen G' p/\Sb p G G'):=by
 obtain ⟨p,n,rfl,hp,hn⟩:=h;simp_arith[uA,h1,h2];refine ⟨by decide,cF ⟨p,_,rfl,hp,by decide,by decide⟩ λd' G2 ⟨p2,m2,r,e1,e2,r0,r1,pp2,sb2⟩=>?_⟩;cases e1;subst e2;obtain ⟨j,rfl⟩:=df r0;simp_arith[ends];have:∃cs:List Nat,atI [D.str [48,49,42],D.str [48,49,42,42],D.str [48,49,42,42,42,42],D.str [48,42],D.str [48,49]] ((j:Nat):Int)=some (.str cs)/\cs≠[]/\cs.length<=1000/\∀c∈cs,isF c:=by
  have hj:j=0\/j=1\/j=2\/j=3\/j=4:=by omega
  rcases hj with rfl |rfl |rfl |rfl |rfl <;> exact ⟨_,rfl,by decide,by decide,by simp[isF]⟩
 obtain ⟨cs,e,c1,c2,c3⟩:=this;refine dR e (cF ⟨p,n,cs,rfl,pp2,hn,c1,c2⟩ λd G3 ⟨p3,n3,cs3,l,e1,e2,q1,q2,q3,q4⟩=>?_);cases e1;exact ⟨p,n,l,rfl,e2,q1,λc hc=>c3 c (q2 c hc),q3,sb2.trans q4⟩
def uL:RF.Spec:=bK (λds _=>∃ns:List Int,ds=[.scr ns]/\ns.length<=63) (λ_ G d G'=>∃p,d=.ref p/\G p=none/\Pen G' p/\Sa G G')
theorem Xb(Φ:ak)(ds:List D)(G:DH)(h:∃ns:List Int,ds=[.scr ns]/\ns.length<=63):aA Φ uw noE (env0 ds 3) G (ends λd G'=>∃p,d=.ref p/\G p=none/\Pen G' p/\Sa G G'):=by
 obtain ⟨ns,rfl,hl⟩:=h;simp_all_arith[uw];refine seq λM hM=>?_;simp_arith[ends];intro c hc;refine hM _ _ ?_;refine seq λM hM=>?_;simp_arith[ends];refine ForG.inv (λi ρ G'=>∃(o2 o3:Option D)(xs:List Int),ρ=[some (.scr ns),some (.ref c),o2,o3]/\G'=aX G c (.lst (xs.map D.int))/\(12<=xs.length\/cut ns (some 12) (some 63)=[])) ⟨_,_,cut ns none (some 12),rfl,rfl,?_⟩ (λ_ _ _ _=>trivial) ?_ ?_
 ·by_cases h12:12<=ns.length
  ·left;simp[cut,HT.sIx];omega
  ·right;simp[cut,HT.sIx];omega
 ·rintro i d ρ G' hd ⟨o2,o3,xs,rfl,rfl,hx⟩ kk hk;rw[ph]at hd;obtain ⟨d',hd',e3⟩:=bi.mp hd;subst e3;rw[bP]at hd';obtain ⟨x,hx',e4⟩:=bi.mp hd';subst e4;have h12:12<=xs.length:=by
   rcases hx with h |h
   ·exact h
   ·rw[h]at hx';simp at hx'
  obtain ⟨j,hj⟩:=df (fw ((0+i:Nat):Int) (by decide:(12:Int)≠0));have hj12:j < 12:=by have:=fx ((0+i:Nat):Int) (by decide:(0:Int) < 12);omega
  have hjx:j < xs.length:=by omega
  simp_arith[hj,cP cC,eO cC];refine ⟨by decide,dR (a:=.int xs[j]) (dh (by simp[hjx])) ?_⟩;simp_arith[hj,cP cC,eO cC,ax,WF hjx];refine ⟨by decide,hk _ _ ⟨_,_,xs.set j (xs[j]+x),rfl,?_,by simp[h12]⟩⟩;rw[Rp,List.map_set]
 ·rintro ρ G' ⟨o2,o3,xs,rfl,rfl,hx⟩;refine hM _ _ ?_;simp_arith[cC];refine ⟨by have hsz:sz=1000000:=rfl;omega,λp hp=>⟨p,rfl,?_,⟨xs,0,0,cC,by decide,by decide⟩,?_⟩⟩
  ·rw[xq hc]at hp;exact hp
  ·rw[xq hc]at hp ⊢;exact Sa.new hp
def jN:RF.Spec:=bK (λds _=>∃ns:List Int,ds=[.scr ns]/\ns.length<=63) (λ_ _ d _=>d=.bl true)
mutual
/-- no list within that is too long -/
noncomputable def gw:D->Bool
 |.tup l=>decide (l.length<=100000)&&iK l
 |.lst l=>decide (l.length<=100000)&&iK l
 |_=>true
noncomputable def iK:List D->Bool
 |[]=>true
 |a::as=>gw a&&iK as
end
theorem Hr:∀{l:List D}{d:D},nrs l=true->d∈l->nr d=true
 |a::as,d,h,m=>by
  rw[nrs,ah]at h;rcases ba.mp m with e |m
  ·rw[e];exact h.1
  ·exact Hr h.2 m
theorem Hs:∀{l:List D}{d:D},iK l=true->d∈l->gw d=true
 |a::as,d,h,m=>by
  rw[iK,ah]at h;rcases ba.mp m with e |m
  ·rw[e];exact h.1
  ·exact Hs h.2 m
theorem Ht:∀{l:List D}{d:D},d∈l->dpt d<=aO l
 |a::as,d,m=>by
  rw[aO];rcases ba.mp m with e |m
  ·rw[e];exact Nat.le_max_left _ _
  ·exact ca (Ht m) (Nat.le_max_right _ _)
theorem jO{n:Nat}:isIn (.bl false) (List.replicate n (.bl true))=false:=by
 induction n with
 |zero=>rfl
 |succ n ih=>simp only[isIn,bX,List.any_cons,deq]at ih ⊢;rw[ih];rfl
theorem jP{n:Nat}{b:Bool}:nrs (List.replicate n (.bl b))=true:=by
 induction n with
 |zero=>rfl
 |succ n ih=>rw[bX,nrs,ih];rfl
theorem jQ{n:Nat}{b:Bool}:aO (List.replicate n (.bl b))=0:=by
 induction n with
 |zero=>rfl
 |succ n ih=>rw[bX,aO,ih];rfl
theorem Xc:∀(l:List D)(i:Nat)(d:D),(bx l l)[i]?=some d->∃a,a∈l/\d=.tup [a,a]
 |l,i,d,h=>by
  obtain ⟨a,b,h1,h2,rfl⟩:=ue l l i d h;rw[h1]at h2;cases h2;exact ⟨a,cw h1,rfl⟩
def Hu(n:Nat)(ds:List D)(G:DH):Prop:=∃x y v,ds=[x,y]/\view G x=v/\view G y=v/\nr v=true/\dpt v < n/\gw v=true
def cR(n:Nat):RF.Spec:=bK (Hu n) (λ_ G d G'=>G'=G/\d=.bl true)
theorem Xd{n:Nat}{x y v:D}{G:DH}{k:D->DH->Prop}{E:EK}(hx:view G x=v)(hy:view G y=v)(h1:nr v=true)(h2:dpt v < n)(h3:gw v=true)(hk:k (.bl true) G):(cR n).t [x,y] G k E:=
 cF ⟨x,y,v,rfl,hx,hy,h1,h2,h3⟩ λd G' ⟨e1,e2⟩=>by subst e1 e2;exact hk
theorem Hv{x:D}{G:DH}(h1:nr x=true):view G x=x:=by cases x <;> first |rfl | (simp[nr]at h1)
theorem pJ{n:Nat}{x:D}{G:DH}{k:D->DH->Prop}{E:EK}(h1:nr x=true)(h2:dpt x < n)(h3:gw x=true)(hk:k (.bl true) G):(cR n).t [x,x] G k E:=
 Xd (Hv h1) (Hv h1) h1 h2 h3 hk
theorem Xe{n:Nat}[NeZero n]{b:Bool}{G:DH}{k:D->DH->Prop}{E:EK}(hk:k (.bl true) G):(cR n).t [.bl b,.bl b] G k E:=pJ rfl (Nat.pos_of_ne_zero (NeZero.ne n)) rfl hk
theorem jR (Φ:ak) (n:Nat) (h1:Φ "_law_same"=cR n) {l:List D} {G:DH} {g:Hld} {k:List D->DH->Prop} (hg:held g G) (hn:nrs l=true) (hd:aO l < n) (hs:iK l=true) (hl:l.length<=100000)
  (he:k (List.replicate (bx l l).length (.bl true)) G):
  CompG Φ (Ex.call "_law_same" (Exs.cons (Ex.var 0) (Exs.cons (Ex.var 1) Exs.nil))) (Tg.tp (Tgs.cons (Tg.nm 0) (Tgs.cons (Tg.nm 1) Tgs.nil))) Tx.yes (bx l l) g [none,none] G k:=by
 refine CompG.inv (P:=λi acc ρ G'=>(∃o1 o2,ρ=[o1,o2])/\G'=G/\acc=List.replicate i (.bl true)) ⟨⟨_,_,rfl⟩,rfl,rfl⟩ (λ_ _ _ _ p=>by rw[p.2.1];exact hg) (by rw[pq];have hsz:sz=1000000:=rfl;omega) ?_ ?_
 ·rintro i d acc ρ G' hd' ⟨⟨o1,o2,rfl⟩,rfl,rfl⟩ kk hk;obtain ⟨a,ha,rfl⟩:=Xc l i d hd';simp_arith[h1];refine pJ (Hr hn ha) (Nat.lt_of_le_of_lt (Ht ha) hd) (Hs hs ha) (hk _ _ _ ⟨⟨_,_,rfl⟩,rfl,?_⟩);simp[List.replicate_succ']
 ·rintro acc ρ G' ⟨_,rfl,rfl⟩;exact he
theorem uM{G:DH}{x:D}{l:List D}(hv:view G x=.lst l):x=.lst l\/∃p,x=.ref p/\G p=some (.lst l):=by
 cases x with
 |lst l'=>cases hv;exact .inl rfl
 |ref p=>
  refine .inr ⟨p,rfl,?_⟩;unfold view at hv;cases g:G p with
  |none=>simp only[g]at hv;cases hv
  |some o=>cases o;simp only[g]at hv;cases hv;rfl
 |_=>cases hv
theorem Xf (Φ:ak) (n:Nat) (h1:Φ "_law_same"=cR n) (ds:List D) (G:DH) (h:Hu (n+1) ds G):aA Φ dC noE (env0 ds 0) G (ends λd G'=>G'=G/\d=.bl true):=by
 obtain ⟨x,y,v,rfl,hx,hy,hn,hd,hs⟩:=h;cases v with
 |non=>cases xF hx;cases xF hy;simp_arith[dC]
 |bl b=>cases qN hx;cases qN hy;simp_arith[dC];simp
 |int i=>cases cH hx;cases cH hy;simp_arith[dC];simp
 |str l=>cases dH hx;cases dH hy;simp_arith[dC];simp
 |ref p=>simp[nr]at hn
 |scr p=>simp[nr]at hn
 |exn p=>simp[nr]at hn
 |exa _ _ _=>simp[nr]at hn
 |obj _ _ _=>simp[nr]at hn
 |tup l=>
  cases dG hx;cases dG hy;rw[nr]at hn;rw[dpt]at hd;rw[gw,ah,cr]at hs;simp_arith[dC];simp_arith[fE,BEq.rfl];refine jR Φ n h1 (by first |trivial | (unfold held;simp)) hn (by omega) hs.2 hs.1 ?_;rw[jO,jP,jQ];simp
 |lst l=>
  rw[nr]at hn;rw[dpt]at hd;rw[gw,ah,cr]at hs;rcases uM hx with rfl |⟨p,rfl,ex⟩
  ·rcases uM hy with rfl |⟨q,rfl,ey⟩
   ·simp_arith[dC];simp_arith[fE,BEq.rfl];refine jR Φ n h1 (by trivial) hn (by omega) hs.2 hs.1 ?_;rw[jO,jP,jQ];simp
   ·simp_arith[dC,cP ey,fJ ey];simp_arith[fE,BEq.rfl,cP ey,fJ ey];refine jR Φ n h1 (by exact ⟨ey,trivial⟩) hn (by omega) hs.2 hs.1 ?_;rw[jO,jP,jQ];simp
  ·rcases uM hy with rfl |⟨q,rfl,ey⟩
   ·simp_arith[dC,cP ex,fJ ex];simp_arith[fE,BEq.rfl,cP ex,fJ ex];refine jR Φ n h1 (by exact ⟨ex,trivial⟩) hn (by omega) hs.2 hs.1 ?_;rw[jO,jP,jQ];simp
   ·simp_arith[dC,cP ex,fJ ex,cP ey,fJ ey];simp_arith[fE,BEq.rfl,cP ex,fJ ex,cP ey,fJ ey];refine jR Φ n h1 (by exact ⟨ex,ey,trivial⟩) hn (by omega) hs.2 hs.1 ?_;rw[jO,jP,jQ];simp
theorem Xg(ds:List D)(G:DH)(a:(cR 0).A):¬(cR 0).pre ds G a:=λ⟨_,_,_,_,_,_,_,_,h,_⟩=>by omega
def okF(w:Nat)(l:List Nat):Prop:=l.length=w/\∀c∈l,isF c
theorem okF.app{w v:Nat}{l m:List Nat}(h:okF w l)(h':okF v m):okF (w+v) (l++m):=⟨by rw[bp,h.1,h'.1],λc hc=>(cm.mp hc).elim (h.2 c) (h'.2 c)⟩
theorem okF.one{c:Nat}(h:isF c):okF 1 [c]:=⟨rfl,λd hd=>by rw[bd.mp hd];exact h⟩
theorem fK{p:Addr}{m:Int}{G:DH}{k:D->DH->Prop}{E:EK}(hp:Pen G p)(h1:0 < m)(h2:m < 1152921504606846976)(hk:∀(r:Nat)(G':DH),(r:Int) < m->Pen G' p->Sb p G G'->k (.int r) G'):eQ.t [.ref p,.int m] G k E:=by refine cF ⟨p,m,rfl,hp,h1,h2⟩ λd G' hx=>?_;obtain ⟨p2,m2,r,e1,e2,r0,r1,hp',sb⟩:=hx;cases e1;subst e2;obtain ⟨n,rfl⟩:=df r0;exact hk n G' r1 hp' sb
theorem Xh{n:Nat}(h:(n:Int) < 2):∃c,atI [48,49] (n:Int)=some c/\isF c:=by
 have:n=0\/n=1:=by omega
 rcases this with rfl |rfl
 ·exact ⟨48,rfl,.inl rfl⟩
 ·exact ⟨49,rfl,.inr (.inl rfl)⟩
theorem Xi{n:Nat}(h:(n:Int) < 3):∃c,atI [48,49,42] (n:Int)=some c/\isF c:=by
 have:n=0\/n=1\/n=2:=by omega
 rcases this with rfl |rfl |rfl
 ·exact ⟨48,rfl,.inl rfl⟩
 ·exact ⟨49,rfl,.inr (.inl rfl)⟩
 ·exact ⟨42,rfl,.inr (.inr rfl)⟩
def uN(ds:List D)(G:DH):Prop:=∃p l,ds=[.ref p,.str l]/\Pen G p/\(∀c∈l,isF c)/\l.length<=1000
def uO(ds:List D)(G:DH)(d:D)(G':DH):Prop:=∃p l m,ds=[.ref p,.str l]/\d=.str m/\okF l.length m/\Pen G' p/\Sb p G G'
def gA:RF.Spec:=bK uN uO
theorem Hw{p:Addr}{l:List Nat}{G:DH}{k:D->DH->Prop}{E:EK}(hp:Pen G p)(hl:∀c∈l,isF c)(h2:l.length<=1000)(hk:∀(m:List Nat)(G':DH),okF l.length m->Pen G' p->Sb p G G'->k (.str m) G'):gA.t [.ref p,.str l] G k E:=by refine cF ⟨p,l,rfl,hp,hl,h2⟩ λd G' hx=>?_;obtain ⟨p2,l2,m,e1,e2,h,hp',sb⟩:=hx;cases e1;subst e2;exact hk m G' h hp' sb
theorem Xj (Φ:ak) (h1:Φ "_law_take"=eQ) (ds:List D) (G:DH) (h:uN ds G):aA Φ uC noE (env0 ds 2) G (ends (uO ds G)):=by
 obtain ⟨p,l,rfl,hp,hl,hl2⟩:=h;simp_all_arith[uC];refine seq λM hM=>?_;simp_arith[ends];refine hM _ _ (seq λM hM=>?_);simp_arith![ends];refine ForG.inv (P:=λi ρ G'=>(∃o m,ρ=[some (.ref p),some (.str l),some (.str m),o]/\okF i m)/\Pen G' p/\Sb p G G') ⟨⟨_,_,rfl,rfl,by simp⟩,hp,Sb.refl _ _⟩ (λ_ _ _ _=>trivial) ?_ ?_
 ·rintro i d ρ G2 hd ⟨⟨o,m,rfl,hm⟩,hp2,sb2⟩ kk hk;rw[bP]at hd;obtain ⟨c,hc,rfl⟩:=bi.mp hd;have hi:i < l.length:=(a9.mp hc).1;have fc:=hl c (cw hc);have l1:=hm.1;simp_arith![ends];refine seq λM hM=>?_;have fin:∀(c:Nat)(G3:DH),isF c->Pen G3 p->Sb p G2 G3->M [some (.ref p),some (.str l),some (.str m),some (.str [c])] G3:=by
   intro c G3 fc hp3 sb3;refine hM _ _ (last ?_);simp_arith[ends];exact ⟨by have hsz:sz=1000000:=rfl;omega,hk _ _ ⟨⟨_,_,rfl,hm.app (okF.one fc)⟩,hp3,sb2.trans sb3⟩⟩
  simp_arith[h1];cases ht:([c]==[42]) with
  |false=>exact fin c G2 fc hp2 (Sb.refl _ _)
  |true=>
   refine fK hp2 (by decide) (by decide) λr G3 hr hp3 sb3=>?_;simp_arith[ends];cases hr0:((r:Int)==0) with
   |false=>exact fin c G3 fc hp3 sb3
   |true=>
    refine fK hp3 (by decide) (by decide) λr' G4 hr' hp4 sb4=>?_;obtain ⟨c',e,fc'⟩:=Xh hr';simp_arith[e];exact fin c' G4 fc' hp4 (sb3.trans sb4)
 ·rintro ρ G2 ⟨⟨o,m,rfl,hm⟩,hp2,sb2⟩;refine hM _ _ ?_;simp_arith[ends];exact ⟨p,l,m,rfl,rfl,by simpa using hm,hp2,sb2⟩
theorem Xk (Φ:ak) (h1:Φ "_law_take"=eQ) (ds:List D) (G:DH) (h:uN ds G):aA Φ uB noE (env0 ds 2) G (ends (uO ds G)):=by
 obtain ⟨p,l,rfl,hp,hl,hl2⟩:=h;simp_all_arith[uB];refine seq λM hM=>?_;simp_arith[ends];refine hM _ _ (seq λM hM=>?_);simp_arith![ends];refine ForG.inv (P:=λi ρ G'=>(∃o m,ρ=[some (.ref p),some (.str l),some (.str m),o]/\okF i m)/\Pen G' p/\Sb p G G') ⟨⟨_,_,rfl,rfl,by simp⟩,hp,Sb.refl _ _⟩ (λ_ _ _ _=>trivial) ?_ ?_
 ·rintro i d ρ G2 hd ⟨⟨o,m,rfl,hm⟩,hp2,sb2⟩ kk hk;rw[bP]at hd;obtain ⟨c,hc,rfl⟩:=bi.mp hd;have hi:i < l.length:=(a9.mp hc).1;have fc:=hl c (cw hc);have l1:=hm.1;simp_arith![ends];refine seq λM hM=>?_;have fin:∀(c:Nat)(G3:DH),isF c->Pen G3 p->Sb p G2 G3->M [some (.ref p),some (.str l),some (.str m),some (.str [c])] G3:=by
   intro c G3 fc hp3 sb3;refine hM _ _ (last ?_);simp_arith[ends];exact ⟨by have hsz:sz=1000000:=rfl;omega,hk _ _ ⟨⟨_,_,rfl,hm.app (okF.one fc)⟩,hp3,sb2.trans sb3⟩⟩
  simp_arith[h1];refine fK hp2 (by decide) (by decide) λr G3 hr hp3 sb3=>?_;simp_arith[ends];cases hr0:((r:Int)==0) with
  |false=>exact fin c G3 fc hp3 sb3
  |true=>exact fin 42 G3 (.inr (.inr rfl)) hp3 sb3
 ·rintro ρ G2 ⟨⟨o,m,rfl,hm⟩,hp2,sb2⟩;refine hM _ _ ?_;simp_arith[ends];exact ⟨p,l,m,rfl,rfl,by simpa using hm,hp2,sb2⟩
theorem Hx{G G':DH}{p:Addr}{x:D}{fs:List (List Nat)}(hv:view G x=.lst (fs.map D.str))(hp:Pen G p)(sb:Sb p G G'):view G' x=.lst (fs.map D.str):=by
 cases x with
 |ref q=>
  unfold view at hv;dsimp only at hv;cases g:G q with
  |none=>rw[g]at hv;cases hv
  |some o=>
   cases o with
   |lst ds=>
    rw[g]at hv;have e:ds=fs.map D.str:=by simpa using hv
    have hn:q≠p:=by
     rintro rfl;obtain ⟨ns,k,st,e1,_⟩:=hp;rw[g,e]at e1;cases fs with
     |nil=>simp at e1
     |cons a r=>simp at e1
    rw[cP (sb q _ g hn),e]
 |lst l=>exact hv
 |_=>cases hv
def Hy(ds:List D)(G:DH):Prop:=∃p,∃w:Nat,∃x,∃fs:List (List Nat),ds=[.ref p,.int w,x]/\Pen G p/\0 < w/\w<=1000/\view G x=.lst (fs.map D.str)/\fs.length<=1000/\∀f∈fs,okF w f
def uP(ds:List D)(G:DH)(d:D)(G':DH):Prop:=∃p,∃w:Nat,∃x m,ds=[.ref p,.int w,x]/\d=.str m/\okF w m/\Pen G' p/\Sb p G G'
def pK:RF.Spec:=bK Hy uP
theorem Xl{p:Addr}{w:Nat}{x:D}{fs:List (List Nat)}{G:DH}{k:D->DH->Prop}{E:EK}(hp:Pen G p)(h1:0 < w)(h2:w<=1000)(hv:view G x=.lst (fs.map D.str))(h3:fs.length<=1000)(h4:∀f∈fs,okF w f)
  (hk:∀(m:List Nat)(G':DH),okF w m->Pen G' p->Sb p G G'->k (.str m) G'):pK.t [.ref p,.int w,x] G k E:=by
 refine cF ⟨p,w,x,fs,rfl,hp,h1,h2,hv,h3,h4⟩ λd G' hx=>?_;obtain ⟨p2,w2,x2,m,e1,e2,h,hp',sb⟩:=hx;simp only[List.cons.injEq,D.ref.injEq,D.int.injEq,Int.ofNat_inj,and_true]at e1;obtain ⟨rfl,rfl,rfl⟩:=e1;subst e2;exact hk m G' h hp' sb
theorem Xm(fs:List (List Nat)):nrs (fs.map D.str)=true:=by
 induction fs with
 |nil=>rfl
 |cons a l ih=>rw[cy,nrs,ih];rfl
theorem Xo(fs:List (List Nat)):aO (fs.map D.str)=0:=by
 induction fs with
 |nil=>rfl
 |cons a l ih=>rw[cy,aO,ih];rfl
theorem Xp{w n:Nat}{l:List Nat}{c:Nat}(h:okF w l)(hn:n < w)(fc:isF c):okF w (cut l none (some (n:Int))++[c]++cut l (some ((n:Int)+1)) none):=by
 have h1:=h.1;rw[WL,WN];refine ⟨?_,λd hd=>?_⟩
 ·simp;omega
 ·rcases cm.mp hd with hd |hd
  ·rcases cm.mp hd with hd |hd
   ·exact h.2 d (List.mem_of_mem_take hd)
   ·rw[bd.mp hd];exact fc
  ·exact h.2 d (List.mem_of_mem_drop hd)
theorem Xq (Φ:ak) (h1:Φ "_law_take"=eQ) (h2:Φ "_law_form"=jM) (h3:Φ "_law_within"=gA) (h4:Φ "_law_wider"=gA) (ds:List D) (G:DH) (h:Hy ds G):aA Φ uD noE (env0 ds 3) G (ends (uP ds G)):=by
 obtain ⟨p,w,x,fs,rfl,hp,w1,w2,hv,hf,hfs⟩:=h;simp_all_arith[uD];refine seq λM hM=>?_;simp_arith[h1];refine fK hp (by decide) (by decide) λkd G2 hkd hp2 sb2=>?_;have hv2:=Hx hv hp sb2;refine hM _ _ (seq λM hM=>?_);have drawn:∀(ρ:aj) (G3:DH),Pen G3 p->Sb p G G3->aA Φ (.cons (.ret (.call "_law_form" (.cons (.var 0) (.cons (.var 1) .nil)))) .nil) noE (some (.ref p)::some (.int w)::ρ) G3 { nx:=M,rt:=uP [.ref p,.int w,x] G,bk:=λ_ _=>False,ct:=λ_ _=>False }:=by intro ρ G3 hp3 sb3;simp_arith[h2];refine cF ⟨p,w,rfl,hp3,w2⟩ λd G4 hx=>?_;obtain ⟨p4,n4,l,e1,e2,l1,l2,hp4,sb4⟩:=hx;simp only[List.cons.injEq,D.ref.injEq,D.int.injEq,Int.ofNat_inj,and_true]at e1;obtain ⟨rfl,rfl⟩:=e1;exact ⟨p,w,x,l,rfl,e2,⟨l1,l2⟩,hp4,sb3.trans sb4⟩
 simp_arith![hv2,WK,Xo,Xm];refine ⟨by decide,?_⟩;cases he:(fs.map D.str).isEmpty with
 |true=>exact drawn _ _ hp2 sb2
 |false=>
  have hlen:0 < fs.length:=by
   cases fs with
   |nil=>simp at he
   |cons a r=>simp
  simp_arith![ends];cases hk2:decide ((kd:Int) < 2) with
  |true=>exact drawn _ _ hp2 sb2
  |false=>
   simp_arith[ends];refine hM _ _ (seq λM hM=>?_);simp_arith[h1,hv2,ax];refine fK hp2 (by omega) (by omega) λr G3 hr hp3 sb3=>?_;have hv3:=Hx hv2 hp2 sb3;simp_arith[hv3];have hr':r < fs.length:=by omega
   refine dR (a:=.str fs[r]) (dh (by simp[hr'])) ?_;have fok:=hfs fs[r] (List.getElem_mem _);generalize fs[r]=f at fok;refine hM _ _ (seq λM hM=>?_);have sb':=sb2.trans sb3;simp_arith[ends];cases hk3:((kd:Int)==2) with
   |true=>exact ⟨p,w,x,f,rfl,rfl,fok,hp3,sb'⟩
   |false=>
    refine hM _ _ (seq λM hM=>?_);simp_arith![ends];cases hk5:decide ((kd:Int) < 5) with
    |true=>
     simp_arith[h1];refine fK hp3 (by omega) (by omega) λat' G4 hat hp4 sb4=>?_;refine fK hp4 (by decide) (by decide) λs G5 hs hp5 sb5=>?_;obtain ⟨c,e,fc⟩:=Xi hs;have c1:=Am f none (some (at':Int));have c2:=Am f (some ((at':Int)+1)) none;have f1:=fok.1;simp_arith[e,bp];exact ⟨by have hsz:sz=1000000:=rfl;omega,by have hsz:sz=1000000:=rfl;omega,p,w,x,_,rfl,rfl,Xp fok (by omega) fc,hp5,sb'.trans (sb4.trans sb5)⟩
    |false=>
     simp_arith[ends];refine hM _ _ (seq λM hM=>?_);have f1:=fok.1;simp_arith[h3];cases hk6:((kd:Int)==5) with
     |true=>
      refine Hw hp3 fok.2 (by omega) λm G4 hm hp4 sb4=>?_;rw[f1]at hm;exact ⟨p,w,x,m,rfl,rfl,hm,hp4,sb'.trans sb4⟩
     |false=>
      refine hM _ _ ?_;simp_arith[h4];refine Hw hp3 fok.2 (by omega) λm G4 hm hp4 sb4=>?_;rw[f1]at hm;exact ⟨p,w,x,m,rfl,rfl,hm,hp4,sb'.trans sb4⟩
def alt(c:Nat):List Nat:=if c=42 then [48,49] else [c]
def step1(acc:List (List Nat))(c:Nat):List (List Nat):=acc.flatMap λt=>(alt c).map λs=>t++[s]
def aH(f:List Nat):List (List Nat):=f.foldl step1 [[]]
def Fits(f w:List Nat):Prop:=f.length=w.length/\∀(i c s:Nat),f[i]?=some c->w[i]?=some s->s∈alt c
theorem uQ(f:List Nat)(c:Nat):aH (f++[c])=step1 (aH f) c:=by unfold aH;rw[List.foldl_append];rfl
theorem Xr{acc:List (List Nat)}{c:Nat}{w:List Nat}:w∈step1 acc c↔∃t s,t∈acc/\s∈alt c/\w=t++[s]:=by
 unfold step1;rw[gp];constructor
 ·rintro ⟨t,ht,h⟩;obtain ⟨s,hs,rfl⟩:=cb.mp h;exact ⟨t,s,ht,hs,rfl⟩
 ·rintro ⟨t,s,ht,hs,rfl⟩;exact ⟨t,ht,cb.mpr ⟨s,hs,rfl⟩⟩
theorem uR{f w:List Nat}{c s:Nat}:Fits (f++[c]) (w++[s])↔Fits f w/\s∈alt c:=by
 constructor
 ·rintro ⟨h1,h2⟩;have hl:f.length=w.length:=by simpa using h1
  refine ⟨⟨hl,λi c' s' hc hs=>?_⟩,?_⟩
  ·have i1:=(a9.mp hc).1;exact h2 i c' s' (by rw[et i1];exact hc) (by rw[et (by omega)];exact hs)
  ·exact h2 f.length c s (by simp) (by rw[hl];simp)
 ·rintro ⟨⟨h1,h2⟩,h3⟩;refine ⟨by simp[h1],λi c' s' hc hs=>?_⟩;by_cases hi:i < f.length
  ·rw[et hi]at hc;rw[et (by omega)]at hs;exact h2 i c' s' hc hs
  ·have i2:=(a9.mp hc).1;simp at i2;have e:i=f.length:=by omega
   subst e;simp at hc;rw[h1]at hs;simp at hs;subst hc hs;exact h3
theorem Xu{f w:List Nat}:w∈aH f↔Fits f w:=by
 induction f using Ao generalizing w with
 |nil=>
  simp[aH,Fits];constructor
  ·rintro rfl;simp
  ·intro h;exact ce.mp h.symm
 |snoc f c ih=>
  rw[uQ,Xr];constructor
  ·rintro ⟨t,s,ht,hs,rfl⟩;exact uR.mpr ⟨ih.mp ht,hs⟩
  ·intro h;have hl:=h.1;simp at hl;have hne:w≠[]:=by rintro rfl;simp at hl
   refine ⟨w.dropLast,w.getLast hne,?_,?_,(d3 hne).symm⟩
   ·rw[<-d3 hne]at h;exact ih.mpr (uR.mp h).1
   ·rw[<-d3 hne]at h;exact (uR.mp h).2
theorem uT{f w:List Nat}(h:w∈aH f):w.length=f.length:=(Xu.mp h).1.symm
theorem Hz{acc:List (List Nat)}{c:Nat}:(step1 acc c).length<=2 * acc.length:=by
 unfold step1;induction acc with
 |nil=>simp
 |cons a r ih=>
  rw[List.flatMap_cons,bp,ax,fi];have:(alt c).length<=2:=by unfold alt;split <;> simp
  omega
theorem HB(f:List Nat):(aH f).length<=2 ^ f.length:=by
 induction f using Ao with
 |nil=>simp[aH]
 |snoc f c ih=>
  rw[uQ,bp,List.length_singleton,Nat.pow_succ];have:=@Hz (aH f) c;omega
theorem Xv{a b:List (List Nat)}{c:Nat}:step1 (a++b) c=step1 a c++step1 b c:=by unfold step1;rw[List.flatMap_append]
def HF(ds:List D)(_:DH):Prop:=∃f:List Nat,ds=[.str f]/\f.length<=12
def HH(ds:List D)(G:DH)(d:D)(G':DH):Prop:=∃f:List Nat,ds=[.str f]/\d=.lst ((aH f).map D.str)/\Sa G G'
def pL:RF.Spec:=bK HF HH
theorem Xw{f:List Nat}{G:DH}{k:D->DH->Prop}{E:EK}(h:f.length<=12)(hk:∀G',Sa G G'->k (.lst ((aH f).map D.str)) G'):pL.t [.str f] G k E:=by refine cF ⟨f,rfl,h⟩ λd G' hx=>?_;obtain ⟨f2,e1,e2,sa⟩:=hx;cases e1;subst e2;exact hk G' sa
theorem Xx(Φ:ak)(ds:List D)(G:DH)(h:HF ds G):aA Φ uH noE (env0 ds 4) G (ends (HH ds G)):=by
 obtain ⟨f,rfl,hf⟩:=h;simp_all_arith[uH];refine seq λM hM=>?_;simp_arith[ends];refine ⟨by decide,hM _ _ (seq λM hM=>?_)⟩;simp_arith![ends];refine ForG.inv (P:=λi ρ G'=>(∃o2 o3 o4,ρ=[some (.str f),some (.lst ((aH (f.take i)).map D.str)),o2,o3,o4])/\Sa G G') ⟨⟨_,_,_,rfl⟩,Sa.refl G⟩ (λ_ _ _ _=>trivial) ?_ ?_
 ·rintro i d ρ G2 hd ⟨⟨o2,o3,o4,rfl⟩,sa⟩ kk hk;rw[bP]at hd;obtain ⟨c,hc,rfl⟩:=bi.mp hd;have hi:=(a9.mp hc).1;have ht:f.take (i+1)=f.take i++[c]:=by rw[fF,hc];rfl
  have hcard:(aH (f.take i)).length<=4096:=by
   have h1:=HB (f.take i);have h2:(f.take i).length<=12:=by rw[de];omega
   have h3:=Nat.pow_le_pow_right (show 0 < 2 by decide) h2;have h4:2 ^ 12=4096:=by decide
   omega
  simp_arith![ends];refine seq λM hM=>?_;simp_arith[ends];refine λq hq=>hM _ _ (seq λM hM=>?_);simp_arith![ends];refine ForG.inv (P:=λj ρ G'=>(∃o4,ρ=[some (.str f),some (.lst ((aH (f.take i)).map D.str)),some (.str [c]),some (.ref q),o4])/\Sa G G'/\G' q=some (.lst ((step1 ((aH (f.take i)).take j) c).map D.str))) ⟨⟨_,rfl⟩,sa.trans (Sa.new hq),cC⟩ (λ_ _ _ _=>trivial) ?_ ?_
  ·rintro j d ρ G3 hd3 ⟨⟨o4,rfl⟩,sa3,g3⟩ kk' hk';rw[bP]at hd3;obtain ⟨t,htt,rfl⟩:=bi.mp hd3;have hj:=(a9.mp htt).1;have tlen:t.length<=12:=by rw[uT (cw htt),de];omega
   have tk:(aH (f.take i)).take (j+1)=(aH (f.take i)).take j++[t]:=by rw[fF,htt];rfl
   have st:step1 [t] c=(alt c).map λs=>t++[s]:=by simp[step1]
   have l1:(step1 ((aH (f.take i)).take j) c).length<=8192:=by
    have:=@Hz ((aH (f.take i)).take j) c;have:((aH (f.take i)).take j).length<=4096:=by rw[de];omega
    omega
   have al2:(alt c).length<=2:=by unfold alt;split <;> simp
   simp_arith![ends];refine last ?_;simp_arith[eO g3];refine ⟨by decide,?_⟩;have ix:atI [D.str [48,49],D.str [c]] (if (!([c]==[42]))=true then 1 else 0)=some (.str (alt c)):=by
    unfold alt;by_cases h42:c=42
    ·subst h42;rfl
    ·have:([c]==[42])=false:=by simp[h42]
     rw[this,if_neg h42];rfl
   simp_arith[ix];refine CompG.map (f:=λd=>match d with |.str [s]=>.str (t++[s]) |_=>.non) (I:=λρ=>∃o,ρ=[o,some (.str t)]) ⟨_,rfl⟩ trivial (by simp;have hsz:sz=1000000:=rfl;omega) ?_ ?_
   ·rintro d ρ hd ⟨o,rfl⟩ kk2 hk2;obtain ⟨s,_,rfl⟩:=cb.mp hd;simp_arith[ends];exact ⟨by have hsz:sz=1000000:=rfl;omega,hk2 _ ⟨_,rfl⟩⟩
   ·rw[dP];simp_arith[Function.comp_def,eO g3,ax];refine ⟨by have hsz:sz=1000000:=rfl;omega,hk' _ _ ⟨⟨_,rfl⟩,?_,?_⟩⟩
    ·intro b ob hb;by_cases hbq:b=q
     ·subst hbq;exfalso;have:=sa b _ hb;rw[hq]at this;cases this
     ·rw[fY hbq];exact sa3 b _ hb
    ·rw[cC,tk,Xv,st,List.map_append,dP];rfl
  ·rintro ρ G3 ⟨⟨o4,rfl⟩,sa3,g3⟩;rw[ax,gl]at g3;refine hM _ _ (last ?_);simp_arith[g3];refine hk _ _ ⟨⟨_,_,_,by rw[ht,uQ]⟩,?_⟩;intro b ob hb;have hbq:b≠q:=by
    rintro rfl;have:=sa b _ hb;rw[hq]at this;cases this
   rw[qL hbq];exact sa3 b _ hb
 ·rintro ρ G2 ⟨⟨o2,o3,o4,rfl⟩,sa⟩;rw[ax,gl];refine hM _ _ ?_;simp_arith[ends];exact ⟨f,rfl,rfl,sa⟩
def cB(c s:Nat):Bool:=c==42||c==s
def aG:List Nat->List Nat->Bool
 |c::f,s::w=>cB c s&&aG f w
 |_,_=>true
def fL(f w:List Nat):Bool:=decide (f.length=w.length)&&aG f w
noncomputable def jT:List D->Option D
 |[.str f,.str w]=>if decide (f.length<=100000) then some (.bl (fL f w)) else none
 |_=>none
theorem pM:∀(f w:List Nat),bx (f.map λc=>D.str [c]) (w.map λc=>D.str [c])=(f.zip w).map λp=>D.tup [.str [p.1],.str [p.2]]
 |[],w=>by simp[bx]
 |c::f,[]=>by simp[bx]
 |c::f,s::w=>by simp[bx,pM f w]
theorem HJ:∀(f w:List Nat),((f.zip w).map λp=>cB p.1 p.2).all id=aG f w
 |[],w=>by simp[aG]
 |c::f,[]=>by simp[aG]
 |c::f,s::w=>by simp[aG,HJ f w]
theorem iM{c s:Nat}:(([c]==[s]):Bool)=(c==s):=by
 by_cases h:c=s
 ·subst h;simp
 ·rw[fk.mpr h,fk.mpr (by simp[h])]
theorem Xy{a b:Nat}:((((a:Nat):Int)==((b:Nat):Int)):Bool)=decide (a=b):=by
 by_cases h:a=b
 ·subst h;simp
 ·rw[ck h,fk];omega
theorem Xz(Φ:ak)(ds:List D)(G:DH)(d:D)(h:jT ds=some d):aA Φ jK noE (env0 ds 0) G (ends λd' G'=>G'=G/\d'=d):=by
 unfold jT at h;split at h
 ·rename_i f w;split at h
  ·rename_i hl;have hl:=fA hl;cases h;simp_arith[jK,Xy,fL];cases he:decide (f.length=w.length) with
   |false=>simp_arith[Bool.false_and]
   |true=>
    simp_arith[pM,Bool.true_and];refine CompG.map (f:=λd=>match d with |.tup [.str [c],.str [s]]=>.bl (cB c s) |_=>.non) (I:=λρ=>∃o o',ρ=[o,o']) ⟨_,_,rfl⟩ trivial (by simp;have hsz:sz=1000000:=rfl;omega) ?_ ?_
    ·rintro d ρ hd ⟨o,o',rfl⟩ kk hk;obtain ⟨⟨c,s⟩,_,rfl⟩:=cb.mp hd;simp_arith[iM];have:=hk [some (.str [c]),some (.str [s])] ⟨_,_,rfl⟩;unfold cB at this;cases hc:(c==42) with
     |true=>simp_arith[hc]at this ⊢;exact this
     |false=>simp_arith[hc]at this ⊢;exact this
    ·rw[dP];simp_arith[Function.comp_def,Ad,HJ,and_self]
  ·cases h
 ·cases h
theorem XC{p:Addr}{G:DH}{k:D->DH->Prop}{E:EK}(hp:Pen G p)(hk:∀G',Pen G' p->Sb p G G'->k (.ref p) G'):pI.t [.ref p] G k E:=
 cF ⟨p,rfl,hp⟩ λd G' hx=>by obtain ⟨p2,e1,e2,hp',sb⟩:=hx;cases e1;subst e2;exact hk G' hp' sb
def cG(a b:Nat):Option Nat:=if a=42 then some b else if b=42\/b=a then some a else none
noncomputable def bH:List Nat->List Nat->Option (List Nat)
 |a::f,b::g=>match cG a b with |some c=>(bH f g).map (c::·) |none=>none
 |_,_=>some []
def jU:Option (List Nat)->D
 |some l=>.str l
 |none=>.non
noncomputable def iQ:List D->Option D
 |[.str f,.str g]=>if decide (f.length<=100000) then some (jU (bH f g)) else none
 |_=>none
theorem XD{f g:List Nat}{i a b:Nat}(h:(f.zip g)[i]?=some (a,b)):bH (f.drop i) (g.drop i)=match cG a b with |some c=>(bH (f.drop (i+1)) (g.drop (i+1))).map (c::·) |none=>none:=by
 have hz:=a9.mp h;obtain ⟨hl,he⟩:=hz;rw[List.length_zip]at hl;have h1:i < f.length:=by omega
 have h2:i < g.length:=by omega
 rw[List.getElem_zip]at he;rw[bn h1,bn h2];simp only[Prod.mk.injEq]at he;rw[he.1,he.2];rfl
theorem XF{f g:List Nat}:bH (f.drop (f.zip g).length) (g.drop (f.zip g).length)=some []:=by
 rw[List.length_zip];by_cases h:f.length<=g.length
 ·rw[Nat.min_eq_left h,eT];cases g.drop f.length <;> rfl
 ·rw[gi (by omega),eT];cases f.drop g.length <;> rfl
theorem XH(Φ:ak)(ds:List D)(G:DH)(d:D)(h:iQ ds=some d):aA Φ jJ noE (env0 ds 3) G (ends λd' G'=>G'=G/\d'=d):=by
 unfold iQ at h;split at h
 ·rename_i f g;split at h
  ·rename_i hl;have hl:=fA hl;cases h;simp_all_arith[jJ];refine seq λM hM=>?_;simp_arith[ends];refine hM _ _ (seq λM hM=>?_);simp_arith![pM];refine ForG.inv (P:=λi ρ G'=>(∃o3 o4 m,ρ=[some (.str f),some (.str g),some (.str m),o3,o4]/\m.length=i/\bH f g=(bH (f.drop i) (g.drop i)).map (m ++ ·))/\G'=G) ⟨⟨_,_,[],rfl,rfl,by simp⟩,rfl⟩ (λ_ _ _ _=>trivial) ?_ ?_
   ·rintro i d ρ G' hd ⟨⟨o3,o4,m,rfl,hm,hb⟩,rfl⟩ kk hk;rw[bP]at hd;obtain ⟨⟨a,b⟩,hab,rfl⟩:=bi.mp hd;have hi:=(a9.mp hab).1;rw[List.length_zip]at hi;rw[XD hab]at hb;simp_arith![ends];refine last ?_;have put:∀(c:Nat)(o3 o4:Option D),cG a b=some c->m.length+1<=sz/\kk [some (.str f),some (.str g),some (.str (m++[c])),o3,o4] G':=by
     intro c o3 o4 hc;rw[hc]at hb;refine ⟨by have hsz:sz=1000000:=rfl;omega,hk _ _ ⟨⟨_,_,_,rfl,by simp[hm],?_⟩,rfl⟩⟩;rw[hb,Option.map_map];congr 1;funext x;simp
    simp_arith[iM];by_cases h42:a=42
    ·have:((a==42):Bool)=true:=by simp[h42]
     simp_arith[this];exact put b _ _ (if_pos h42)
    ·have h0:((a==42):Bool)=false:=by simp[h42]
     simp_arith[h0,iM];by_cases hb42:b=42
     ·have:((b==42):Bool)=true:=by simp[hb42]
      simp_arith[this];exact put a _ _ (by unfold cG;rw[if_neg h42,if_pos (.inl hb42)])
     ·have h1:((b==42):Bool)=false:=by simp[hb42]
      simp_arith[h1,iM];by_cases hba:b=a
      ·have:((b==a):Bool)=true:=by simp[hba]
       simp_arith[this];exact put a _ _ (by unfold cG;rw[if_neg h42,if_pos (.inr hba)])
      ·have:((b==a):Bool)=false:=by simp[hba]
       simp_arith[this];have hn:cG a b=none:=by unfold cG;rw[if_neg h42,if_neg (by rintro (h |h);exact hb42 h;exact hba h)]
       rw[hn]at hb;rw[hb];rfl
   ·rintro ρ G' ⟨⟨o3,o4,m,rfl,hm,hb⟩,rfl⟩;rw[ax,XF]at hb;refine hM _ _ ?_;simp_arith[ends];rw[hb];simp[jU]
  ·cases h
 ·cases h
def stc(b:List Nat):Nat:=b.countP (·==42)
theorem XJ{f w:List Nat}{i a b:Nat}(h:(f.zip w)[i]?=some (a,b)):aG (f.drop i) (w.drop i)=(cB a b&&aG (f.drop (i+1)) (w.drop (i+1))):=by
 have hz:=a9.mp h;obtain ⟨hl,he⟩:=hz;rw[List.length_zip]at hl;have h1:i < f.length:=by omega
 have h2:i < w.length:=by omega
 rw[List.getElem_zip]at he;rw[bn h1,bn h2];simp only[Prod.mk.injEq]at he;rw[he.1,he.2];rfl
theorem XM{f w:List Nat}:aG (f.drop (f.zip w).length) (w.drop (f.zip w).length)=true:=by
 rw[List.length_zip];by_cases h:f.length<=w.length
 ·rw[Nat.min_eq_left h,eT];rfl
 ·rw[gi (by omega),eT];cases f.drop w.length <;> rfl
def jV:List D->Option D
 |[.str f,.str w]=>some (.bl (aG f w))
 |_=>none
theorem XN(Φ:ak)(ds:List D)(G:DH)(d:D)(h:jV ds=some d):aA Φ uF noE (env0 ds 2) G (ends λd' G'=>G'=G/\d'=d):=by
 unfold jV at h;split at h
 ·rename_i f w;cases h;simp_all_arith[uF];refine seq λM hM=>?_;simp_arith![pM];refine ForG.inv (P:=λi ρ G'=>(∃o2 o3,ρ=[some (.str f),some (.str w),o2,o3])/\G'=G/\aG f w=aG (f.drop i) (w.drop i)) ⟨⟨_,_,rfl⟩,rfl,by simp⟩ (λ_ _ _ _=>trivial) ?_ ?_
  ·rintro i d ρ G' hd ⟨⟨o2,o3,rfl⟩,rfl,hb⟩ kk hk;rw[bP]at hd;obtain ⟨⟨a,b⟩,hab,rfl⟩:=bi.mp hd;rw[XJ hab]at hb;unfold cB at hb;simp_arith![ends];refine last ?_;simp_arith[iM];cases h42:(a==42) with
   |true=>
    simp_arith[ends];exact hk _ _ ⟨⟨_,_,rfl⟩,rfl,by rw[hb,h42];rfl⟩
   |false=>
    simp_arith[iM];cases hs:(a==b) with
    |true=>
     simp_arith[ends];exact hk _ _ ⟨⟨_,_,rfl⟩,rfl,by rw[hb,hs];simp⟩
    |false=>
     simp_arith[ends];rw[hb,h42,hs];simp
  ·rintro ρ G' ⟨⟨o2,o3,rfl⟩,rfl,hb⟩;rw[ax,XM]at hb;refine hM _ _ ?_;simp_arith[hb]
 ·cases h
theorem XQ{f l:List Nat}(h:f.length=l.length):fL f l=aG f l:=by unfold fL;rw[eP h];rfl
theorem HN{c s:Nat}:cB c s=true↔c=42\/c=s:=by unfold cB;simp
theorem XS{a b c:Nat}(h:cG a b=some c):cB a c=true/\cB b c=true:=by
 unfold cG at h;rw[HN,HN];split at h
 ·cases h;rename_i h;exact ⟨.inl h,.inr rfl⟩
 ·split at h
  ·cases h;rename_i h;exact ⟨.inr rfl,h⟩
  ·cases h
theorem HQ:∀{f g c:List Nat},f.length=g.length->bH f g=some c->c.length=f.length/\aG f c=true/\aG g c=true
 |[],[],c,_,h=>by cases h;exact ⟨rfl,rfl,rfl⟩
 |[],b::g,c,e,_=>by simp at e
 |a::f,[],c,e,_=>by simp at e
 |a::f,b::g,c,e,h=>by
  rw[bH]at h;cases h1:cG a b with
  |none=>rw[h1]at h;cases h
  |some x=>
   rw[h1]at h;obtain ⟨y,hy,rfl⟩:=bi.mp h;obtain ⟨i1,i2,i3⟩:=HQ (by simpa using e) hy;obtain ⟨j1,j2⟩:=XS h1;exact ⟨by simp[i1],by rw[aG,j1,i2];rfl,by rw[aG,j2,i3];rfl⟩
theorem HR:∀{f g c:List Nat},(∀x∈f,isF x)->(∀x∈g,isF x)->bH f g=some c->∀x∈c,isF x
 |[],g,c,_,_,h=>by cases g <;> (cases h;intro x hx;cases hx)
 |a::f,[],c,_,_,h=>by cases h;intro x hx;cases hx
 |a::f,b::g,c,hf,hg,h=>by
  rw[bH]at h;cases h1:cG a b with
  |none=>rw[h1]at h;cases h
  |some y=>
   rw[h1]at h;obtain ⟨z,hz,rfl⟩:=bi.mp h;intro x hx;rcases ba.mp hx with e |hx
   ·unfold cG at h1;split at h1
    ·cases h1;rw[e];exact hg _ aS
    ·split at h1
     ·cases h1;rw[e];exact hf _ aS
     ·cases h1
   ·exact HR (λx hx=>hf x (aT _ hx)) (λx hx=>hg x (aT _ hx)) hz x hx
noncomputable def iR:List D->Option D
 |[.str f,.str g]=>if decide (g.length<=100000) then some (.bl (fL g f)) else none
 |_=>none
theorem XX (Φ:ak) (h1:Φ "fits"=bY jT) (ds:List D) (G:DH) (d:D) (h:iR ds=some d):aA Φ jL noE (env0 ds 0) G (ends λd' G'=>G'=G/\d'=d):=by
 unfold iR at h;split at h
 ·rename_i f g;split at h
  ·rename_i hl;cases h;simp_arith[jL,h1];exact pB (d:=.bl (fL g f)) (if_pos hl) ⟨rfl,rfl⟩
  ·cases h
 ·cases h
theorem X3{f g:List Nat}{G:DH}{k:D->DH->Prop}{E:EK}(h:g.length<=1000)(hk:k (.bl (fL g f)) G):(bY iR).t [.str f,.str g] G k E:=pB (if_pos (eP (by omega))) hk
theorem HS{f g:List Nat}{G:DH}{k:D->DH->Prop}{E:EK}(h:f.length<=1000)(hk:k (jU (bH f g)) G):(bY iQ).t [.str f,.str g] G k E:=pB (if_pos (eP (by omega))) hk
theorem X4{p:Addr}{n:Nat}{G:DH}{k:D->DH->Prop}{E:EK}(hp:Pen G p)(hn:n<=1000)(hk:∀(l:List Nat)(G':DH),okF n l->Pen G' p->Sb p G G'->k (.str l) G'):jM.t [.ref p,.int n] G k E:=by refine cF ⟨p,n,rfl,hp,hn⟩ λd G' ⟨p2,n2,l,e1,e2,l1,l2,hp',sb⟩=>?_;simp only[List.cons.injEq,D.ref.injEq,D.int.injEq,Int.ofNat_inj,and_true]at e1;obtain ⟨rfl,rfl⟩:=e1;subst e2;exact hk l G' ⟨l1,l2⟩ hp' sb
def pN:RF.Spec:=ghS (A:=Addr×Nat) (λa ds G=>ds=[.ref a.1,.int a.2]/\Pen G a.1/\0 < a.2/\a.2<=6) (λa G d G'=>∃(w:Nat)(f g:List Nat),d=.tup [.str f,.str g]/\1<=w/\w<=6/\okF w f/\okF w g/\Pen G' a.1/\Sb a.1 G G')
theorem X5{p:Addr}{m:Nat}{G:DH}{k:D->DH->Prop}{E:EK}(h1:Pen G p)(h2:0 < m)(h3:m<=6)(hk:∀(w:Nat)(f g:List Nat)(G':DH),1<=w->w<=6->okF w f->okF w g->Pen G' p->Sb p G G'->k (.tup [.str f,.str g]) G'):pN.t [.ref p,.int m] G k E:=
 ur (p,m) ⟨rfl,h1,h2,h3⟩ λd G' ⟨w,f,g,e1,e2,e3,e4,e5,e6,e7⟩=>by subst e1;exact hk w f g G' e2 e3 e4 e5 e6 e7
theorem X6 (Φ:ak) (h1:Φ "_law_take"=eQ) (h2:Φ "_law_form"=jM) (h3:Φ "_law_form_like"=pK) (a:Addr×Nat) (ds:List D) (G:DH) (h:ds=[.ref a.1,.int a.2]/\Pen G a.1/\0 < a.2/\a.2<=6):
  aA Φ uE noE (env0 ds 2) G (ends λd G'=>∃(w:Nat)(f g:List Nat),d=.tup [.str f,.str g]/\1<=w/\w<=6/\okF w f/\okF w g/\Pen G' a.1/\Sb a.1 G G'):=by
 obtain ⟨p,m⟩:=a;obtain ⟨rfl,hp,m0,m6⟩:=h;dsimp only at hp m0 m6 ⊢;simp_all_arith[uE];refine seq λM hM=>?_;simp_arith[h1];refine fK hp (by omega) (by omega) λn G1 hn hp1 sb1=>?_;simp_arith[ends];refine hM _ _ (seq λM hM=>?_);have ew:(1:Int)+(n:Int)=((1+n:Nat):Int):=by omega
 simp_arith[h2,ew];refine X4 hp1 (by omega) λf G2 hf hp2 sb2=>hM _ _ (last ?_);simp_arith[h3];refine ⟨by decide,Xl (fs:=[f]) hp2 (by omega) (by omega) rfl (by simp) (λx hx=>by rw[bd.mp hx];exact hf) λg G3 hg hp3 sb3=>?_⟩;exact ⟨by decide,1+n,f,g,rfl,by omega,by omega,hf,hg,hp3,(sb1.trans sb2).trans sb3⟩
def aZ:List Nat->List (List Nat)
 |[]=>[[]]
 |c::f=>(alt c).flatMap λs=>(aZ f).map (s::·)
theorem HW:∀(f:List Nat)(acc:List (List Nat)),f.foldl step1 acc=acc.flatMap λt=>(aZ f).map (t ++ ·)
 |[],acc=>by simp[aZ]
 |c::f,acc=>by
  rw[List.foldl_cons,HW f,step1,List.flatMap_assoc];congr 1;funext t;rw[aZ,List.flatMap_map,List.map_flatMap];congr 1;funext s;rw[dP];congr 1;funext x;simp
theorem iT(f:List Nat):aH f=aZ f:=by unfold aH;rw[HW];simp
theorem HX:∀(b:List Nat),(aZ b).length=2 ^ stc b
 |[]=>rfl
 |c::b=>by
  have ih:=HX b;rw[aZ];unfold alt stc;unfold stc at ih;split
  ·rename_i h;subst h;simp[ih,Nat.pow_succ];omega
  ·rename_i h;simp[ih,h]
theorem eU{c:Nat}{f:List Nat}(h:c≠42):aZ (c::f)=(aZ f).map (c::·):=by rw[aZ];unfold alt;rw[if_neg h];simp
theorem jW{f:List Nat}:aZ (42::f)=(aZ f).map (48::·)++(aZ f).map (49::·):=by rw[aZ];unfold alt;rw[if_pos rfl];simp
theorem pO(f:List Nat):aZ f≠[]:=λh=>by
 have:=HX f;rw[h]at this;have h1:0 < 2 ^ stc f:=Nat.two_pow_pos _;rw[<-this]at h1;exact absurd h1 (cx _)
theorem fM{b s:Nat}{g:List Nat}(ls:List (List Nat))(h:cB b s=true):(ls.map (s::·)).filter (aG (b::g))=(ls.filter (aG g)).map (s::·):=by rw[List.filter_map];congr 1;congr 1;funext l;simp[aG,h]
theorem pP{b s:Nat}{g:List Nat}(ls:List (List Nat))(h:cB b s=false):(ls.map (s::·)).filter (aG (b::g))=[]:=by rw[List.filter_eq_nil_iff];intro x hx;obtain ⟨l,_,rfl⟩:=cb.mp hx;simp[aG,h]
def gB:Option (List Nat)->List (List Nat)
 |some c=>aZ c
 |none=>[]
theorem iU{s:Nat}(hs:s≠42)(o:Option (List Nat)):gB (o.map (s::·))=(gB o).map (s::·):=by
 cases o with
 |none=>rfl
 |some c=>exact eU hs
theorem X7(o:Option (List Nat)):gB (o.map (42::·))=(gB o).map (48::·)++(gB o).map (49::·):=by
 cases o with
 |none=>rfl
 |some c=>exact jW
theorem gC{a b c:Nat}{f g:List Nat}(h:cG a b=some c):bH (a::f) (b::g)=(bH f g).map (c::·):=by rw[bH,h]
theorem HY{a b:Nat}{f g:List Nat}(h:cG a b=none):bH (a::f) (b::g)=none:=by rw[bH,h]
theorem H9:∀{f g:List Nat},f.length=g.length->(∀x∈f,isF x)->(∀x∈g,isF x)->(aZ f).filter (aG g)=gB (bH f g)
 |[],[],_,_,_=>by simp[aZ,aG,bH,gB]
 |[],b::g,e,_,_=>by simp at e
 |a::f,[],e,_,_=>by simp at e
 |a::f,b::g,e,hf,hg=>by
  have ih:=H9 (f:=f) (g:=g) (by simpa using e) (λx hx=>hf x (aT _ hx)) (λx hx=>hg x (aT _ hx));rcases hf a aS with rfl |rfl |rfl <;> rcases hg b aS with rfl |rfl |rfl
  ·rw[eU (by decide),fM _ rfl,gC (c:=48) rfl,iU (by decide),ih]
  ·rw[eU (by decide),pP _ rfl,HY rfl];rfl
  ·rw[eU (by decide),fM _ rfl,gC (c:=48) rfl,iU (by decide),ih]
  ·rw[eU (by decide),pP _ rfl,HY rfl];rfl
  ·rw[eU (by decide),fM _ rfl,gC (c:=49) rfl,iU (by decide),ih]
  ·rw[eU (by decide),fM _ rfl,gC (c:=49) rfl,iU (by decide),ih]
  ·rw[jW,List.filter_append,fM _ rfl,pP _ rfl,gC (c:=48) rfl,iU (by decide),ih,fe]
  ·rw[jW,List.filter_append,pP _ rfl,fM _ rfl,gC (c:=49) rfl,iU (by decide),ih,List.nil_append]
  ·rw[jW,List.filter_append,fM _ rfl,fM _ rfl,gC (c:=42) rfl,X7,ih]
theorem Ia:∀{f g:List Nat},f.length=g.length->(∀x∈f,isF x)->(∀x∈g,isF x)->(aZ f).all (aG g)=aG g f
 |[],[],_,_,_=>by simp[aZ,aG]
 |[],b::g,e,_,_=>by simp at e
 |a::f,[],e,_,_=>by simp at e
 |a::f,b::g,e,hf,hg=>by
  have ih:=Ia (f:=f) (g:=g) (by simpa using e) (λx hx=>hf x (aT _ hx)) (λx hx=>hg x (aT _ hx));have hm:∀s,((aZ f).map (s::·)).all (aG (b::g))=(cB b s&&aG g f):=λs=>by
   rw[List.all_map,<-ih];cases hs:cB b s with
   |true=>
    rw[Bool.true_and];congr 1;funext l;simp[aG,hs]
   |false=>
    rw[Bool.false_and,List.all_eq_false];obtain ⟨l,hl⟩:=List.exists_mem_of_ne_nil _ (pO f);exact ⟨l,hl,by simp[aG,hs]⟩
  show _=(cB b a&&aG g f);rcases hf a aS with rfl |rfl |rfl
  ·rw[eU (by decide),hm]
  ·rw[eU (by decide),hm]
  ·rw[jW,List.all_append,hm,hm];rcases hg b aS with rfl |rfl |rfl <;> cases aG g f <;> rfl
theorem Ib:∀{m:List Nat}{j c:Nat},m[j]?=some c->(∀w∈aZ m,∃s,w[j]?=some s/\s∈alt c)/\∀s∈alt c,∃w∈aZ m,w[j]?=some s
 |[],j,c,h=>by simp at h
 |a::m,0,c,h=>by
  have e:a=c:=by simpa using h
  subst e;rw[aZ];refine ⟨λw hw=>?_,λs hs=>?_⟩
  ·obtain ⟨s,hs,hw⟩:=gp.mp hw;obtain ⟨l,_,rfl⟩:=cb.mp hw;exact ⟨s,rfl,hs⟩
  ·obtain ⟨l,hl⟩:=List.exists_mem_of_ne_nil _ (pO m);exact ⟨s::l,gp.mpr ⟨s,hs,cb.mpr ⟨l,hl,rfl⟩⟩,rfl⟩
 |a::m,j+1,c,h=>by
  have ih:=Ib (m:=m) (j:=j) (c:=c) (by simpa using h);rw[aZ];refine ⟨λw hw=>?_,λs hs=>?_⟩
  ·obtain ⟨s,hs,hw⟩:=gp.mp hw;obtain ⟨l,hl,rfl⟩:=cb.mp hw;obtain ⟨x,e,hx⟩:=ih.1 l hl;exact ⟨x,by simpa using e,hx⟩
  ·obtain ⟨l,hl,e⟩:=ih.2 s hs;have ha:∃y,y∈alt a:=by
    unfold alt;split
    ·exact ⟨48,aS⟩
    ·exact ⟨a,aS⟩
   obtain ⟨y,hy⟩:=ha;exact ⟨y::l,gp.mpr ⟨y,hy,cb.mpr ⟨l,hl,rfl⟩⟩,by simpa using e⟩
theorem uU:∀(ls ks:List (List Nat)),ks.Nodup->(ls.foldl putN ks).Nodup/\∀y,(y∈ks\/y∈ls)->y∈ls.foldl putN ks
 |[],ks,hn=>⟨hn,λy h=>by rcases h with h |h;exact h;cases h⟩
 |x::ls,ks,hn=>by
  have hp:(putN ks x).Nodup/\x∈putN ks x/\∀y∈ks,y∈putN ks x:=by
   unfold putN;split
   ·rename_i hx;exact ⟨hn,hx,λy hy=>hy⟩
   ·rename_i hx;refine ⟨List.nodup_append.mpr ⟨hn,List.pairwise_singleton _ _,λa ha b hb e=>?_⟩,aI _ aS,λy hy=>eK _ hy⟩;rw[bd.mp hb]at e;exact hx (e ▸ ha)
  obtain ⟨h1,h2⟩:=uU ls (putN ks x) hp.1;refine ⟨h1,λy h=>?_⟩;rcases h with h |h
  ·exact h2 y (.inl (hp.2.2 y h))
  ·rcases ba.mp h with rfl |h
   ·exact h2 _ (.inl hp.2.1)
   ·exact h2 y (.inr h)
theorem X8{ls:List (List Nat)}{y:List Nat}(h:y∈ls):y∈bI ls:=(uU ls [] List.Pairwise.nil).2 y (.inr h)
theorem Yb(ls:List (List Nat)):(bI ls).Nodup:=(uU ls [] List.Pairwise.nil).1
theorem Yc{a b:List Nat}:∀{l:List (List Nat)},l.Nodup->(∀x∈l,x=a\/x=b)->l.length<=2
 |[],_,_=>by decide
 |[x],_,_=>c8 1
 |[x,y],_,_=>av 2
 |x::y::z::l,hn,h=>by
  have hx:=h x (by simp);have hy:=h y (by simp);have hz:=h z (by simp);simp only[fb,ba,not_or]at hn;obtain ⟨⟨n1,n2,_⟩,⟨n3,_⟩,_⟩:=hn;rcases hx with rfl |rfl <;> rcases hy with rfl |rfl <;> rcases hz with rfl |rfl <;> first |exact absurd rfl n1 |exact absurd rfl n2 |exact absurd rfl n3
def dD(m:List Nat)(j:Nat):List (List Nat):=(aZ m).map λw=>[w.getD j 0]
theorem signs_at{m ls':List (List Nat)}{f:List Nat}{j c:Nat}(hc:isF c)(h:f[j]?=some c)(hm:m=dD f j)(hp:ls'.Perm (bI m)):(bI m).length < 64/\((c≠42/\ls'=[[c]])\/(c=42/\∃a b,ls'=[a,b])):=by
 subst hm;obtain ⟨w1,w2⟩:=Ib h;have hmem:∀y∈bI (dD f j),∃s∈alt c,y=[s]:=λy hy=>by
  obtain ⟨w,hw,rfl⟩:=cb.mp (yq _ hy);obtain ⟨s,e,hs⟩:=w1 w hw;exact ⟨s,hs,by rw[dn,e];rfl⟩
 have hin:∀s∈alt c,[s]∈bI (dD f j):=λs hs=>by
  obtain ⟨w,hw,e⟩:=w2 s hs;exact X8 (cb.mpr ⟨w,hw,by rw[dn,e];rfl⟩)
 have hnd:=Yb (dD f j);generalize bI (dD f j)=U at hp hmem hin hnd;by_cases h42:c=42
 ·subst h42;have ha:alt 42=[48,49]:=rfl;rw[ha]at hmem hin;have hle:=Yc (a:=[48]) (b:=[49]) hnd λx hx=>by
   obtain ⟨s,hs,rfl⟩:=hmem x hx;simp only[ba,dE,or_false]at hs;rcases hs with rfl |rfl
   ·exact .inl rfl
   ·exact .inr rfl
  have h48:=hin 48 (by simp);have h49:=hin 49 (by simp);refine ⟨by omega,.inr ⟨rfl,?_⟩⟩;have h48':=hp.mem_iff.mpr h48;have h49':=hp.mem_iff.mpr h49;have hl:ls'.length<=2:=by rw[hp.length_eq];exact hle
  match ls',h48',h49',hl with
  |[],h,_,_=>cases h
  |[x],h,h',_=>
   have e1:=bd.mp h;have e2:=bd.mp h';rw[<-e1]at e2;cases e2
  |[a,b],_,_,_=>exact ⟨a,b,rfl⟩
  |_::_::_::_,_,_,hl=>simp at hl
 ·have ha:alt c=[c]:=by unfold alt;rw[if_neg h42]
  rw[ha]at hmem hin;have hU:∀x∈U,x=[c]:=λx hx=>by
   obtain ⟨s,hs,rfl⟩:=hmem x hx;rw[bd.mp hs]
  have hc':=hin c aS;have e:U=[[c]]:=by
   match U,hnd,hU,hc' with
   |[],_,_,h=>cases h
   |[x],_,h,_=>rw[h x aS]
   |x::y::l,hn,h,_=>
    have hx:=h x (by simp);have hy:=h y (by simp);simp only[fb,ba,not_or]at hn;exact absurd (hx.trans hy.symm) hn.1.1
  subst e;exact ⟨(show 1 < 64 from by decide),.inl ⟨h42,List.perm_singleton.mp hp⟩⟩
theorem Yd(l:List (List Nat)):nrs (l.map D.str)=true:=An λd hd=>by obtain ⟨_,_,rfl⟩:=cb.mp hd;rfl
theorem Ie:∀ls:List (List Nat),aR (ls.map D.str)=some ls
 |[]=>rfl
 |l::ls=>by rw[cy,aR,Ie ls]
def okM(m:List Nat):Prop:=m.length<=6/\∀x∈m,isF x
def sFO:RF.Spec:=pG (λm:List Nat=>[.lst ((aH m).map D.str)]) okM (λm=>.str m)
theorem Ig{m:List Nat}(h:m.length<=6):(aH m).length<=64:=by have h6:2 ^ m.length<=2 ^ 6:=Nat.pow_le_pow_right (by decide) h;exact ca (HB m) h6
theorem Ye(Φ:ak)(m:List Nat)(G:DH)(h:okM m):aA Φ uG noE (env0 [.lst ((aH m).map D.str)] 3) G (ends λd G'=>G'=G/\d=.str m):=by
 obtain ⟨hl,hm⟩:=h;have h64:=Ig hl;obtain ⟨w0,ws,ew⟩:∃w0 ws,aH m=w0::ws:=by
  cases e:aH m with
  |nil=>rw[iT]at e;exact absurd e (pO m)
  |cons a l=>exact ⟨a,l,rfl⟩
 have hw0:w0.length=m.length:=uT (by rw[ew];exact aS);have e0:((aH m).map D.str)[0]?=some (.str w0):=by rw[ew];rfl
 simp_all_arith[uG];refine seq λM hM=>?_;simp_arith[ends];refine hM _ _ (seq λM hM=>?_);simp_arith![ends];refine dR (a:=.str w0) (dh (j:=0) e0) ?_;simp_arith![ends];refine ⟨⟨by omega,by omega⟩,ForG.inv (P:=λi ρ G'=>(∃o2 o3,ρ=[some (.lst ((aH m).map D.str)),some (.str (m.take i)),o2,o3])/\G'=G) ⟨⟨_,_,rfl⟩,rfl⟩ (λ_ _ _ _=>trivial) ?_ ?_⟩
 ·rintro i d ρ G' hd ⟨⟨o2,o3,rfl⟩,rfl⟩ kk hk;unfold bR at hd;rw[bP]at hd;obtain ⟨j,hj,rfl⟩:=bi.mp hd;have hji:j=i/\i < m.length:=by
   have:=a9.mp hj;obtain ⟨q1,q2⟩:=this;rw[List.getElem_range]at q2;rw[fR]at q1;exact ⟨q2.symm,by omega⟩
  obtain ⟨rfl,hif⟩:=hji;have hx:m[j]?=some m[j]:=by simp[hif]
  generalize m[j]=c at hx;have hcF:=hm c (cw hx);have tm:m.take (j+1)=m.take j++[c]:=by rw[fF,hx];rfl
  have ezj:(0:Int)+(j:Int)=((j:Nat):Int):=by omega
  simp_arith![ezj];refine seq λM hM=>?_;simp_arith![ends];refine CompG.map (f:=λd=>match d with |.str l=>.str [l.getD j 0] |_=>.non) (I:=λρ=>∃o,ρ=[o,some (.int j)]) ⟨_,rfl⟩ trivial (by rw[ax];have hsz:sz=1000000:=rfl;omega) ?_ ?_
  ·rintro d ρ hd ⟨o,rfl⟩ kk hk;obtain ⟨l,hl,rfl⟩:=cb.mp hd;have hll:l.length=m.length:=uT hl;have hlj:l[j]?=some (l.getD j 0):=by rw[dn,a8 (by omega)];rfl
   simp_arith[ends];refine dR (a:=l.getD j 0) (dh hlj) ?_;exact hk _ ⟨_,rfl⟩
  ·have el:((aH m).map D.str).map (λd=>match d with |.str l=>D.str [l.getD j 0] |_=>.non)=(dD m j).map D.str:=by
    unfold dD;rw[dP,dP,iT];rfl
   rw[el];have ed:aR ((dD m j).map D.str)=some (dD m j):=Ie _;simp_arith![ed];have hs:=@signs_at (dD m j);refine ⟨⟨by unfold dD;rw[ax,<-iT];omega,(hs hcF hx rfl (eW _)).1⟩,λls' pm _=>hM _ _ (last ?_)⟩;rcases (hs hcF hx rfl pm).2 with ⟨h42,rfl⟩ |⟨rfl,a,b,rfl⟩
   ·simp_arith[ends];refine ⟨by decide,dR (a:=.str [c]) rfl ?_⟩;simp_arith[ends];refine ⟨by rw[de];have hsz:sz=1000000:=rfl;omega,hk _ _ ⟨⟨some (.int j),_,by rw[tm]⟩,rfl⟩⟩
   ·simp_arith[ends];refine ⟨by decide,dR (a:=.str [42]) rfl ?_⟩;simp_arith[ends];refine ⟨by rw[de];have hsz:sz=1000000:=rfl;omega,hk _ _ ⟨⟨some (.int j),_,by rw[tm]⟩,rfl⟩⟩
 ·rintro ρ G' ⟨⟨o2,o3,rfl⟩,rfl⟩;refine hM _ _ ?_;simp_arith[ends];unfold bR;rw[ax,fR,hw0];show D.str (m.take m.length)=_;rw[gl]
structure R3(Φ:ak):Prop where
 words:Φ "_law_words"=pL
 fits:Φ "_law_fits"=bY jV
 same:Φ "_law_same"=cR 9
 lies:Φ "lies_in"=bY iR
 both:Φ "both"=bY iQ
 form:Φ "_law_form_of"=sFO
def Ih(a:Nat×List Nat×List Nat)(ds:List D)(_:DH):Prop:=ds=[.str a.2.1,.str a.2.2]/\a.1<=6/\okF a.1 a.2.1/\okF a.1 a.2.2
def pQ:RF.Spec:=ghS Ih (λ_ G d G'=>Sa G G'/\d=.bl true)
theorem uV{w:Nat}{f g:List Nat}{G:DH}{k:D->DH->Prop}{E:EK}(h1:w<=6)(h2:okF w f)(h3:okF w g)(hk:∀G',Sa G G'->k (.bl true) G'):pQ.t [.str f,.str g] G k E:=
 ur (w,f,g) ⟨rfl,h1,h2,h3⟩ λd G' ⟨e1,e2⟩=>by subst e2;exact hk G' e1
theorem Yg(Φ:ak)(F:R3 Φ)(a:Nat×List Nat×List Nat)(ds:List D)(G:DH)(h:Ih a ds G):aA Φ uI noE (env0 ds 3) G (ends λd G'=>Sa G G'/\d=.bl true):=by
 obtain ⟨w,f,g⟩:=a;obtain ⟨rfl,hw,hf,hg⟩:=h;dsimp only at hw hf hg;have hl:f.length=g.length:=hf.1.trans hg.1.symm;have hfl:=hf.1;have wc:=Ig (m:=f) (by omega);have bw:=H9 hl hf.2 hg.2;have af:=Ia hl hf.2 hg.2;rw[<-iT]at bw af;simp_all_arith[uI];refine seq λM hM=>?_;simp_arith[F.words];refine Xw (by omega) λG1 sa1=>hM _ _ (seq λM hM=>?_);simp_arith![ends];refine CompG.pure (f:=λd=>match d with |.str l=>if aG g l=true then some (.str l) else none |_=>none) (I:=λρ=>∃o,ρ=[o,some (.str g)]) ⟨_,rfl⟩ trivial (by rw[ax];have hsz:sz=1000000:=rfl;omega) ?_ ?_
 ·rintro d2 ρ hd2 ⟨o,rfl⟩ kk2 hk2;obtain ⟨l,_,rfl⟩:=cb.mp hd2;simp_arith[F.fits];refine pB (d:=.bl (aG g l)) rfl ?_;have go:=hk2 [some (.str l),some (.str g)] ⟨_,rfl⟩;cases hz:aG g l with
  |true=>simp_arith[hz]at go ⊢;exact go
  |false=>simp_arith[hz]at go ⊢;exact go
 ·have ef:((aH f).map D.str).filterMap (λd=>match d with |.str l=>if aG g l=true then some (.str l) else none |_=>none)=((aH f).filter (aG g)).map D.str:=by
   rw[List.filterMap_map];induction aH f with
   |nil=>rfl
   |cons x l ih=>
    rw[List.filterMap_cons,List.filter_cons,ih];by_cases hx:aG g x=true
    ·simp[hx]
    ·simp[hx]
  have hcl:((aH f).filter (aG g)).length<=(aH f).length:=List.length_filter_le _ _;have eq:((((aH f).filter (aG g)).length:Int)==((aH f).length:Int))=fL g f:=by rw[XQ hl.symm,<-af,eI,aE,Int.ofNat_inj,List.length_filter_eq_length_iff,bS]
  rw[ef];refine hM _ _ (seq λM hM=>?_);simp_arith[F.lies,F.same,ax];refine X3 (by omega) ?_;simp_arith[ax,eq];refine Xe ?_;simp_arith[ends];refine hM _ _ (seq λM hM=>?_);simp_arith[ends];refine hM _ _ (seq λM hM=>?_);have sz1:((aH f).filter (aG g)).length<=64:=ca hcl wc;cases hb:bH f g with
  |none=>
   rw[hb]at bw;have e0:(aH f).filter (aG g)=[]:=bw;rw[e0];simp_arith[ends];refine ⟨by decide,hM _ _ (last ?_)⟩;simp_arith[F.both,F.same];refine HS (by omega) ?_;rw[hb];simp_arith[jU];refine pJ rfl (by decide) rfl ?_;exact ⟨sa1,rfl⟩
  |some c=>
   rw[hb]at bw;have e0:(aH f).filter (aG g)=aH c:=by rw[bw,iT];rfl
   rw[e0];have hcF:okM c:=⟨by have:=(HQ hl hb).1;omega,HR hf.2 hg.2 hb⟩;have hd:bG ((aH c).map D.str) []=false:=by
    cases e:aH c with
    |nil=>rw[iT]at e;exact absurd e (pO c)
    |cons a l=>rfl
   have hcz:=hcF.1;simp_arith[hd,F.form];refine ⟨⟨Yd _,ca (Nat.min_le_right _ _) (by decide)⟩,?_⟩;refine W0 c rfl hcF (hM _ _ (last ?_));simp_arith[F.both,F.same];refine HS (by omega) ?_;rw[hb];simp_arith[jU];refine pJ rfl (show 0 < 9 by decide) rfl ?_;exact ⟨sa1,rfl⟩
structure F03(Φ:ak):Prop where
 opn:Φ "_law_open"=uL
 anew:Φ "_law_anew"=pI
 pair:Φ "_law_pair"=pN
 right:Φ "_law_right"=pQ
theorem Yh(Φ:ak)(F:F03 Φ)(ds:List D)(G:DH)(h:∃ns:List Int,ds=[.scr ns]/\ns.length<=63):aA Φ uJ noE (env0 ds 4) G (ends λd _=>d=.bl true):=by
 obtain ⟨ns,rfl,hl⟩:=h;simp_all_arith[uJ];refine seq λM hM=>?_;simp_arith[F.opn];refine cF ⟨ns,rfl,hl⟩ λd' G1 ⟨p,e1,_,hp,_⟩=>?_;subst e1;refine hM _ _ (seq λM hM=>?_);simp_arith![ends];refine ⟨by decide,ForG.inv (P:=λi ρ G'=>(∃o2 o3 o4,ρ=[some (.scr ns),some (.ref p),o2,o3,o4])/\Pen G' p) ⟨⟨_,_,_,rfl⟩,hp⟩ (λ_ _ _ _=>trivial) ?_ ?_⟩
 ·rintro i d ρ G2 hd ⟨⟨o2,o3,o4,rfl⟩,hp2⟩ kk hk;simp_arith![ends];refine seq λM hM=>?_;simp_arith[F.anew,F.pair];refine XC hp2 λG3 hp3 _=>?_;refine X5 (m:=6) hp3 (by decide) (by decide) λw f g G4 w1 w6 hf hg hp4 _=>?_;simp_arith[ends];refine hM _ _ (last ?_);simp_arith[F.right];refine uV w6 hf hg λG5 sa5=>?_;simp_arith[F.right];refine uV w6 hg hf λG6 sa6=>?_;simp_arith[F.right];refine uV w6 hf hf λG7 sa7=>?_;simp_arith[ends];exact hk _ _ ⟨⟨_,_,_,rfl⟩,((hp4.sa sa5).sa sa6).sa sa7⟩
 ·rintro ρ G2 ⟨_,hp2⟩;refine hM _ _ ?_;simp_arith[ends]
end RF
namespace HD
open PySem PySem.W
def sv(x:Str)(t:Nat):Value:=.str x t
def ri(n:Nat):Value:=.int n 0
def fO (l:List Value):Obj:=⟨.type "tuple",none,.seq ⟨l⟩ 0,⟨[]⟩⟩
def dU(c:Value)(l:List Value):Obj:=⟨c,none,.fields ⟨l⟩,⟨[]⟩⟩
def jX:Str:="/claim/cut.py"
noncomputable def uW(n q:Str)(ln ac fl a b:Nat)(isf:Bool)(l1 l2 tm:Value)(t t2:Nat):Obj:=
 dU (.type "code") [sv n t,sv q (t+1),sv jX (t+2),ri ln,ri ac,ri 0,ri 0,ri fl,.ref a,.bool isf,ri 181,.ref b,.none,l1,l2,tm,ri t2,ri ln,sv jX (t2+1)]
def toks(t:Nat):List Str->List Value
 |[]=>[]
 |x::r=>sv x t::toks (t+1) r
def fdO(n q:Str)(p:Arguments)(b:List Stmt)(sc:Scope)(g:Nat)(md cd:Value):Data:=
 .func { name:=n,qualname:=q,params:=p,body:=.stmts b,scope:=sc,globals:=g,closure:=[],defaults:=.none,kwdefaults:=.none,pyModule:=md,code:=cd }
def enO(P:Params)(k:Str)(t:Nat)(v:Value):DictEntry:={ hash:=PyData.keyHash P k,key:=sv k t,val:=v }
def jY (l:List DictEntry) (e:Nat):Obj:=⟨.type "dict",none,.dict ⟨l⟩ e,⟨[]⟩⟩
noncomputable def frO (c l:Nat) (md:Value):Obj:=⟨.type "frame",none,.plain,⟨[some (.ref c),some (.ref 3),some (.ref l),none,some md,none,some (.ref 0)]⟩⟩
def bfO (s:String) (v:Value):Obj:=dU (.type "builtin_function_or_method") [.builtin s,v]
def veM:List Value:=[.type "ValueError",.type "Exception",.type "BaseException",.type "object"]
def pR (b:Expr):Bool:=match b with |.Name n _=>n==("ValueError":Str) |_=>false
noncomputable def fnO(q:Str)(a t:Nat)(md:Value)(n:Str)(p:Arguments)(b:List Stmt)(sc:Scope)(ln:Nat):List Obj:=match localNames p sc (.stmts b) with
 |some l=>[fO [],dU .none [],fO (toks (t+3) l.1),fO [],⟨.none,none,fdO n q p b sc 0 .none .none,⟨[]⟩⟩,
   uW n q ln p.args.length 3 a (a+1) true (.ref (a+2)) (.ref (a+3)) (.ref (a+4)) t (t+3+l.1.length),⟨.type "function",none,fdO n q p b sc 3 md (.ref (a+5)),⟨[]⟩⟩]
 |none=>[fO [],dU .none [],⟨.none,none,fdO n q p b sc 0 .none .none,⟨[]⟩⟩,
   uW n q ln p.args.length 3 a (a+1) true .none .none (.ref (a+2)) t (t+3),⟨.type "function",none,fdO n q p b sc 3 md (.ref (a+3)),⟨[]⟩⟩]
noncomputable def fnA(p:Arguments)(b:List Stmt)(sc:Scope):Nat:=match localNames p sc (.stmts b) with |some _=>7 |none=>5
noncomputable def fnT(p:Arguments)(b:List Stmt)(sc:Scope):Nat:=match localNames p sc (.stmts b) with |some l=>l.1.length+5 |none=>5
def dot:Str:="."
structure MO where
 os:List Obj
 es:List DictEntry
 cs:List Value
 a:Nat
 t:Nat
noncomputable def pU(P:Params)(c:Str)(md:Value):List Stmt->Nat->Nat->MO
 |.FunctionDef n p b _ _ _ sc _ _ pos::r,a,t=>
  let m:=pU P c md r (a+fnA p b sc) (t+fnT p b sc+1)
  ⟨fnO (c++dot++n) a t md n p b sc pos.line++m.os,enO P n (t+fnT p b sc) (.ref (a+fnA p b sc - 1))::m.es,ri pos.line::ri pos.col::.ref (a+fnA p b sc - 2)::m.cs,m.a,m.t⟩
 |_::r,a,t=>pU P c md r a t
 |[],a,t=>⟨[],[],[],a,t⟩
def clA(P:Params)(a:Nat)(b:List Stmt):Nat:=(pU P dot .none b (a+7) 0).a+2
noncomputable def stO(P:Params)(r:Nat)(sub:List Value)(a t:Nat)(md:Value)(s:Stmt):List Obj:=match s with
 |.FunctionDef n p b _ _ _ sc _ _ pos=>fnO n a t md n p b sc pos.line
 |.ClassDef n bs _ body _ _ _ _ _ st pos=>
  let m:=pU P n md body (a+7) (t+12)
  let c:=m.a+2
  let u:=m.t+st.length
  let d1:=[enO P "__module__" (t+7) md]
  let d2:=enO P "__firstlineno__" (t+11) (.int pos.line (t+10))::m.es++[enO P "__static_attributes__" u (.ref m.a)]
  let b:List Value:=match bs with |b::_=>(match pR b with |true=>[.type "ValueError"] |false=>[.ref r]) |[]=>[]
  let own:Bool:=match bs with |[]=>true |_=>false
  let ve:Bool:=match bs with |b::_=>pR b |[]=>false
  let wr (v:Nat):Obj:=dU (.type "getset_descriptor") [sv "__weakref__" v,.ref c,.builtin "ExceptionGroup.__weakref__",.none]
  let typ (mro:List Value) (sub:List Value) (nw:String):Obj:=
   ⟨.type "type",none,.cls { name:=n,bases:=(match own with |true=>[.type "object"] |false=>b),mro:=.ref c::mro,ns:=m.a+1,qualname:=n,subclasses:=sub },
    ⟨[(match own with |true=>none |false=>some (.ref a)),none,some (sv n t),some (sv n (t+8)),some (.builtin nw),some (.bool true)]⟩⟩
  [fO b,bfO "type.__prepare__" (.type "type"),jY (d1++enO P "__qualname__" (t+9) (sv n (t+8))::d2) (4+m.es.length),fO [],dU .none m.cs,
   uW n n pos.line 0 0 (a+3) (a+4) false .none .none .none (t+2) (t+5),frO (a+5) (a+2) md]++m.os++[fO (toks m.t st)] ++
  (match own with
  |true=>[jY (d1++d2++[enO P "__dict__" (u+2) (.ref (c+1)),enO P "__weakref__" (u+4) (.ref (c+2)),enO P "__doc__" (u+5) .none]) 4,typ [.type "object"] [] "object.__new__",
    dU (.type "getset_descriptor") [sv "__dict__" (u+1),.ref c,.builtin "function.__dict__",.builtin "function.__dict__#set"],wr (u+3)]
  |false=>(match ve with
   |true=>[jY (d1++d2++[enO P "__weakref__" (u+2) (.ref (c+1)),enO P "__doc__" (u+3) .none]) 3,typ veM sub "ValueError.__new__",wr (u+1)]
   |false=>[jY (d1++d2++[enO P "__doc__" (u+1) .none]) 2,typ (.ref r::veM) [] "ValueError.__new__"])) ++
  [dU (.type "super") [.ref c,.ref c,.ref c],bfO "object.__init_subclass__" (.ref c)]
 |_=>[]
noncomputable def mdO(t:Nat)(md:Value)(s:Stmt):Value:=match s with
 |.Assign [.Name n _] (.Constant (.str x) _ _) _=>(match n==("__name__":Str) with |true=>sv x t |false=>md)
 |_=>md
noncomputable def enS(P:Params)(lk:Str->Value)(t u a a':Nat)(s:Stmt):List DictEntry:=match s with
 |.Assign [.Name n _] (.Name y _) _=>[enO P n t (lk y)]
 |.FunctionDef n _ _ _ _ _ _ _ _ _=>[enO P n (u-1) (.ref (a'-1))]
 |.ClassDef n _ _ b _ _ _ _ _ _ _=>[enO P n (u-1) (.ref (clA P a b))]
 |.Assign [.Name n _] (.Constant c _ _) _=>(match n==("__name__":Str) with
  |true=>[]
  |false=>[enO P n (t+1) (match c with |.int i=>.int i t |.str x=>sv x t |_=>.none)])
 |_=>[]
noncomputable def fnS(a':Nat)(s:Stmt):List (Str×Value):=match s with
 |.FunctionDef n _ _ _ _ _ _ _ _ _=>[(n,.ref (a'-1))]
 |_=>[]
noncomputable def cdS(a a':Nat)(s:Stmt):List Value:=match s with
 |.FunctionDef _ _ _ _ _ _ _ _ _ pos=>[ri pos.line,ri pos.col,.ref (a'-2)]
 |.ClassDef _ _ _ _ _ _ _ _ _ _ pos=>[ri pos.line,ri pos.col,.ref (a+5)]
 |_=>[]
noncomputable def sbS(P:Params)(a:Nat)(s:Stmt):List Value:=match s with
 |.ClassDef _ bs _ b0 _ _ _ _ _ _ _=>(match bs with |b::_=>(match pR b with |true=>[] |false=>[.ref (clA P a b0)]) |[]=>[])
 |_=>[]
noncomputable def Yi(P:Params)(a:Nat)(s:Stmt):List Nat:=match s with
 |.ClassDef _ bs _ b0 _ _ _ _ _ _ _=>(match bs with |b::_=>(match pR b with |true=>[clA P a b0] |false=>[]) |[]=>[])
 |_=>[]
noncomputable def fold{α:Type}(f:Nat->Nat->Nat->Nat->Value->Stmt->List α):List (Nat×Nat)->Value->List Stmt->List α
 | (a,t)::(a',u)::r,md,s::ss=>f a a' t u md s++fold f ((a',u)::r) (mdO t md s) ss
 |_,_,_=>[]
def Ii:List (Nat×Nat)->Value->List Stmt->Value
 | (_,t)::r,md,s::ss=>Ii r (mdO t md s) ss
 |_,md,_=>md
def fP:Value:=sv "__main__" 164
noncomputable def Yj(P:Params)(v:Value):List DictEntry:=
 [enO P "__name__" 165 v,enO P "__doc__" 166 .none,enO P "__package__" 167 .none,enO P "__loader__" 168 (.builtin "__main__.__loader__#opaque"),enO P "__spec__" 169 .none,
  enO P "__annotations__" 170 (.ref 6),enO P "__builtins__" 171 (.ref 4),enO P "__file__" 173 (sv jX 172),enO P "__cached__" 174 .none]
noncomputable def ents(N:List (Nat×Nat))(b:List Stmt)(P:Params):List DictEntry:=Yj P (Ii N fP b)++fold (λa a' t u _ s=>enS P (λy=>((fold (λ_ a' _ _ _ s=>fnS a' s) N fP b).lookup y).getD .none) t u a a' s) N fP b
def put{α:Type}:Nat->α->List α->List α
 |_,_,[]=>[]
 |0,x,_::r=>x::r
 |n+1,x,y::r=>y::put n x r
noncomputable def Ij(cs:List Value):List Obj:=[fO [],dU .none cs,
 dU (.type "code") [sv "<module>" 182,sv "<module>" 183,sv jX 184,ri 1,ri 0,ri 0,ri 0,ri 0,.ref 11,.bool false,ri 181,.ref 12,.none,.none,.none,.none,ri 185,ri 1,sv jX 186],frO 13 3 fP]
def Yk(B:List Obj):List Obj:=B++Ij []
noncomputable def objs(B:List Obj)(N:List (Nat×Nat))(b:List Stmt)(P:Params):List Obj:=
 let es:=ents N b P
 put 3 (jY es es.length) (B++Ij (fold (λa a' _ _ _ s=>cdS a a' s) N fP b) ++
  fold (λa _ t _ md s=>stO P ((fold (λa _ _ _ _ s=>Yi P a s) N fP b).headD 0) (fold (λa _ _ _ _ s=>sbS P a s) N fP b) a t md s) N fP b)
def evs{α:Type}:List α->List α
 |[]=>[]
 |[x]=>[x]
 |x::_::r=>x::evs r
noncomputable def bt:Nat->List Obj->BT
 |0,_=>.nil
 |_,[]=>.nil
 |n+1,x::r=>.node x (bt n (evs r)) (bt n (evs r.tail))
def nameless(s:Stmt):Bool:=match s with
 |.Assign [.Name n _] _ _=>!(n==("__name__":Str))
 |_=>true
noncomputable def pick:Nat->List Nat->List Obj->Frag
 |i,a::r,o::os=>(match Nat.beq a i with |true=>(a,o)::pick (i+1) r os |false=>pick (i+1) (a::r) os)
 |_,_,_=>[]
end HD
def PySem.W.Fast.tw4346939660091751440:PySem.Program:=PySem.Challenge.pw_starsieve_k03_forms_within_and_both
theorem PySem.W.Fast.te4346939660091751440:PySem.Challenge.pw_starsieve_k03_forms_within_and_both=PySem.W.Fast.tw4346939660091751440:=rfl
namespace HK
open PySem PySem.W PySem.W.Fast
def pw:Program:=PySem.Challenge.pw_starsieve_k03_forms_within_and_both
def rl:OpenLaw:=PySem.Challenge.rw_starsieve_k03_forms_within_and_both
noncomputable def NN:List (Nat×Nat):=[(15,187),(15,189),(20,195),(27,203),(34,214),(34,216),(41,227),(48,237),(55,244),(62,255),(67,261),(74,269),(81,279),(88,289),(95,301),(100,307),(107,317),(112,323),(117,329),(124,339),(129,345),(136,356)]
def L1(P:Params):List Obj:=HD.objs (boot_heap P).objs.toList NN pw.main.body P
def H1(P:Params):Heap:=⟨⟨L1 P⟩,{}⟩
def T1(P:Params):BT:=HD.bt 12 (L1 P)
def LA(P:Params):List Obj:=HD.Yk (boot_heap P).objs.toList
def HA(P:Params):Heap:=⟨⟨LA P⟩,{}⟩
def T0(P:Params):BT:=HD.bt 5 (LA P)
def env:Env:={ scope:=pw.main.scope,locals:=mainNs,globals:=mainNs,cells:=[],code:=.ref 13,frame:=some 14 }
def bE:List Stmt:=behindTheImports pw
def cE:Code:=.body bE env
def p0:Pos:=⟨0,0,0,0⟩
def B:List Frame:=[topFrame p0]
def ann:Option Value:=some (.ref 6)
def qv:Program:={ pw with main:={ pw.main with body:=pw.main.body.filter HD.nameless } }
noncomputable def as:List Nat:=[3,18,19,25,26,32,33,39,40,46,47,53,54,60,61,65,66,72,73,79,80,86,87,93,94,98,99,105,106,110,111,115,116,122,123,127,128,134,135]
def K(P:Params):Frag:=HD.pick 0 as (L1 P)
def Xt(s:Shared):Bool:=xlAt qv [] s&&recOk (RowW.records rl.row.toRowW) s
def see{α:Type}(_:α):Bool:=true
theorem primed:(see T1&&see T0&&see H1&&see HA&&see cE&&see B&&see env&&see bE&&see qv&&see K&&see Xt)=true:=by k_qdec
theorem pre(w:World)(os:OsState):topGo treeTable pw w 11 ann 12 ⟨boot_heap w.params,⟨[]⟩,boot_drawn,boot_toks,os⟩ (topStub pw)=some (⟨HA w.params,⟨[]⟩,{},187,os⟩,⟨denote treeTable cE,cE,p0,B⟩):=by have _:=primed;rw[PySem.W.Fast.te15667345088766844465,PySem.W.Fast.te14364793385576792824,PySem.W.Fast.te1032975242618825031,PySem.W.Fast.te8093259214132618727,PySem.W.Fast.te1718297227530528222,PySem.W.Fast.te11892475500146522536];rfl'
theorem block(w:World)(os:OsState):segRun treeTable pw w 11 ann 1 2 ⟨HA w.params,⟨[]⟩,{},187,os⟩ (blockOf bE env cE p0 B)=some (.next,SharedT.abs ⟨T0 w.params,15,{},⟨[]⟩,{},187,os⟩,cE,p0):=by rw[PySem.W.Fast.te14374325043358763698,PySem.W.Fast.te14364793385576792824,PySem.W.Fast.te1032975242618825031,PySem.W.Fast.te8093259214132618727,PySem.W.Fast.te1718297227530528222,PySem.W.Fast.te14938417808399470215,PySem.W.Fast.te16330338443398637341,PySem.W.Fast.te10239294469119128424];rfl'
theorem piece(w:World)(os:OsState):segRunT treeTable pw w 11 ann 1 9000 ⟨T0 w.params,15,{},⟨[]⟩,{},187,os⟩ (piecesOf bE env cE p0 B)=some (.next,⟨T1 w.params,136,{},⟨[]⟩,{},356,os⟩,cE,⟨124,0,130,15⟩):=by rw[PySem.W.Fast.te10110043849684766642,PySem.W.Fast.te14364793385576792824,PySem.W.Fast.te1032975242618825031,PySem.W.Fast.te13069687644243786066,PySem.W.Fast.te14938417808399470215,PySem.W.Fast.te1718297227530528222,PySem.W.Fast.te16330338443398637341,PySem.W.Fast.te10239294469119128424];rfl'
theorem fin(w:World)(os:OsState):topRun treeTable pw w 11 ann 3 (SharedT.abs ⟨T1 w.params,136,{},⟨[]⟩,{},356,os⟩) ⟨doneF .next,cE,⟨124,0,130,15⟩,B⟩=some ⟨H1 w.params,⟨[]⟩,{},356,os⟩:=by rw[PySem.W.Fast.te14082659384304107361,PySem.W.Fast.te14364793385576792824,PySem.W.Fast.te1032975242618825031,PySem.W.Fast.te13069687644243786066,PySem.W.Fast.te1718297227530528222,PySem.W.Fast.te14158929756966004236];rfl'
theorem run(w:World)(os:OsState):topRun treeTable pw w 11 ann (12+(2+(9000+3))) ⟨boot_heap w.params,⟨[]⟩,boot_drawn,boot_toks,os⟩ (topStub pw)=some ⟨H1 w.params,⟨[]⟩,{},356,os⟩:=by refine go_top (pre w os) (piece_block (block w os) ?_);have h:=piece_app (rest:=[]) (segRun_of (piece w os)) (piece_nil (fin w os));rw[List.append_nil]at h;exact h
theorem size (w:World):((boot_heap w.params).isNs mainGlobals&&(Array.mk []:Array GenState).size==0,(boot_heap w.params).objs.size,(boot_heap w.params).nsMap mainGlobals "__annotations__")=(true,11,ann):=by rfl'
theorem Yl(w:World)(os:OsState):(staticsOk (importedModules pw.main.body) (boot_heap w.params) (H1 w.params)&&namesBound pw (H1 w.params)&&gensDone ⟨H1 w.params,⟨[]⟩,{},356,os⟩&&laidKept (boot_heap w.params) (H1 w.params))=true:=by rw[PySem.W.Fast.te1032975242618825031,PySem.W.Fast.te14158929756966004236,PySem.W.Fast.te5923862056798008813];rfl'
theorem Ym(w:World)(os:OsState):openSeen qv [] (importedModules pw.main.body) Xt true ⟨H1 w.params,⟨[]⟩,{},356,os⟩=openGood qv []:=by rw[PySem.W.Fast.te1032975242618825031,PySem.W.Fast.te14158929756966004236,PySem.W.Fast.te5923862056798008813,PySem.W.Fast.te3994408356199485718,PySem.W.Fast.te3154452736318265832,PySem.W.Fast.te4187177175401517315];rfl'
theorem Yn(w:World):as.map (H1 w.params).get?=(K w.params).map (λp=>some p.2):=by rw[PySem.W.Fast.te14158929756966004236,PySem.W.Fast.te538113369711794958];rfl'
theorem eAs(P:Params):as=(K P).map (·.1):=by rw[PySem.W.Fast.te538113369711794958];rfl'
def hook:Hook:=kHook K as eAs
theorem left:LeftO pw qv [] Xt hook.obs hook.val 12000:=by refine LeftO.of_pieces (boot_open (by rfl') (by decide) (λs=>by rfl')) size run (by decide) λw=>funext λos=>?_;exact Prod.ext (Yl w os) (Prod.ext (Ym w os) (Yn w))
end HK
namespace Lk03
open PySem PySem.Spec PyProof.Rows L2 RF
open PySem.W (mg_of mg_none_of)
def Φ:ak:=λf=>if f="_law_anew" then pI else if f="_law_open" then uL else if f="_law_spread" then pH else if f="_law_take" then eQ else if f="_law_signs" then uK else if f="_law_form" then jM else if f="_law_wider" then gA else if f="_law_within" then gA else if f="_law_form_like" then pK else if f="_law_pair" then pN else if f="_law_fits" then bY jV else if f="_law_form_of" then sFO else if f="_law_same" then cR 9 else if f="_law_words" then pL else if f="both" then bY iQ else if f="fits" then bY jT else if f="lies_in" then bY iR else if f="_law_right" then pQ else if f="law" then jN else bK (λ_ _=>False) (λ_ _ _ _=>False)
def Ik:Φ "_law_anew"=pI:=by rfl'
def Il:Φ "_law_open"=uL:=by rfl'
def Im:Φ "_law_spread"=pH:=by rfl'
def gD:Φ "_law_take"=eQ:=by rfl'
def Io:Φ "_law_signs"=uK:=by rfl'
def uX:Φ "_law_form"=jM:=by rfl'
def Ip:Φ "_law_wider"=gA:=by rfl'
def Ir:Φ "_law_within"=gA:=by rfl'
def Iu:Φ "_law_form_like"=pK:=by rfl'
def Iv:Φ "_law_pair"=pN:=by rfl'
def Iw:Φ "_law_fits"=bY jV:=by rfl'
def Iz:Φ "_law_form_of"=sFO:=by rfl'
def IK:Φ "_law_same"=cR 9:=by rfl'
def IV:Φ "_law_words"=pL:=by rfl'
def IW:Φ "both"=bY iQ:=by rfl'
def Ja:Φ "fits"=bY jT:=by rfl'
def Jb:Φ "lies_in"=bY iR:=by rfl'
def Jc:Φ "_law_right"=pQ:=by rfl'
noncomputable def bt:List String:=["all","bool","enumerate","int","isinstance","len","list","range","set","sorted","str","tuple","zip"]
def cn:List (String×D):=[]
def xs:List (String×Bool):=[]
abbrev CK:=λN s f o b=>aL (bj N (aB s) f bt cn xs o) b (aW s)=true
abbrev BB:=λ(l:PySem.W.OpenLaw) (w:World) (mg:Str->Option Value) (base:Heap) k f o=>Bse Φ l.prog w (HK.K w.params) mg base (CX1 l.prog w) k f bt cn xs o
abbrev NQ:=λP (s:Str) (n:Nat)=>PySem.W.nsIn (HK.K P) mainGlobals s=some (some (.ref n))
abbrev BQ:=λP fd ps=>Binds (HK.K P) fd ps []
abbrev LN:Str:="law_starsieve_k03_forms_within_and_both"
def f0:List (String×Nat):=[]
def f1:=("_law_anew",1)::f0
def f2:=("_law_open",1)::f1
def f3:=("_law_spread",2)::f2
def f4:=("_law_take",2)::f3
def f5:=("_law_signs",3)::f4
def f6:=("_law_form",2)::f5
def f7:=("_law_wider",2)::f6
def f8:=("_law_within",2)::f7
def f9:=("_law_form_like",3)::f8
def f10:=("_law_pair",2)::f9
def f11:=("_law_fits",2)::f10
def f12:=("_law_form_of",1)::f11
def f13:=("_law_same",2)::f12
def f14:=("_law_words",1)::f13
def f15:=("both",2)::f14
def f16:=("fits",2)::f15
def f17:=("lies_in",2)::f16
def f18:=("_law_right",2)::f17
def S(i:Nat):Stmt:=HK.pw.main.body.getD i (.Pass ⟨0,0,0,0⟩)
def jZ:Stmt:=S 7
theorem Yo:fnB ["pen"] ["pen"] (aB jZ)=true:=by ac_rfl
theorem Yp:CK ["pen"] jZ f0 {} uv:=by ac_rfl
def j0:Stmt:=S 6
theorem Yq:fnB ["script","cells","k","cell"] ["script"] (aB j0)=true:=by ac_rfl
theorem Yr:CK ["script","cells","k","cell"] j0 f1 {} uw:=by ac_rfl
def j4:Stmt:=S 5
theorem Ys:fnB ["cell","at","one","two","three"] ["cell","at"] (aB j4)=true:=by ac_rfl
theorem Yt:CK ["cell","at","one","two","three"] j4 f2 {} ux:=by ac_rfl
def j5:Stmt:=S 8
theorem Yu:fnB ["pen","many","at","cell","found"] ["pen","many"] (aB j5)=true:=by ac_rfl
theorem Yv:CK ["pen","many","at","cell","found"] j5 f3 {} uy:=by ac_rfl
def j6:Stmt:=S 9
theorem Yw:fnB ["pen","width","signs"] ["pen","width","signs"] (aB j6)=true:=by ac_rfl
theorem Yx:CK ["pen","width","signs"] j6 f4 {} uz:=by ac_rfl
def j7:Stmt:=S 10
theorem Yy:fnB ["pen","width"] ["pen","width"] (aB j7)=true:=by ac_rfl
theorem Yz:CK ["pen","width"] j7 f5 {} uA:=by ac_rfl
def j8:Stmt:=S 12
theorem YB:fnB ["pen","form","found","sign"] ["pen","form"] (aB j8)=true:=by ac_rfl
theorem YC:CK ["pen","form","found","sign"] j8 f6 {} uB:=by ac_rfl
def j9:Stmt:=S 11
theorem YD:fnB ["pen","form","found","sign"] ["pen","form"] (aB j9)=true:=by ac_rfl
theorem YF:CK ["pen","form","found","sign"] j9 f7 {} uC:=by ac_rfl
def kh:Stmt:=S 13
theorem YG:fnB ["pen","width","forms","kind","form","at"] ["pen","width","forms"] (aB kh)=true:=by ac_rfl
theorem YH:CK ["pen","width","forms","kind","form","at"] kh f8 {} uD:=by ac_rfl
def kj:Stmt:=S 18
theorem YJ:fnB ["pen","widest","width","form"] ["pen","widest"] (aB kj)=true:=by ac_rfl
theorem YK:CK ["pen","widest","width","form"] kj f9 {} uE:=by ac_rfl
def km:Stmt:=S 15
theorem YL:fnB ["form","word","sign","other"] ["form","word"] (aB km)=true:=by ac_rfl
theorem YM:CK ["form","word","sign","other"] km f10 {} uF:=by ac_rfl
def kE:Stmt:=S 17
theorem YQ:fnB ["words","found","at","signs"] ["words"] (aB kE)=true:=by ac_rfl
theorem YS:CK ["words","found","at","signs"] kE f11 {} uG:=by ac_rfl
def kI:Stmt:=S 16
theorem YT:fnB ["found","due"] ["found","due"] (aB kI)=true:=by ac_rfl
theorem YW:CK ["found","due"] kI f13 {} dC:=by ac_rfl
def kJ:Stmt:=S 14
theorem YX:fnB ["form","found","sign","longer","text"] ["form"] (aB kJ)=true:=by ac_rfl
theorem YZ:CK ["form","found","sign","longer","text"] kJ f13 {} uH:=by ac_rfl
def kO:Stmt:=S 3
theorem Y0:fnB ["form","other","shared","one","two"] ["form","other"] (aB kO)=true:=by ac_rfl
theorem Y4:CK ["form","other","shared","one","two"] kO f14 {} jJ:=by ac_rfl
def kW:Stmt:=S 1
theorem Y5:fnB ["form","word"] ["form","word"] (aB kW)=true:=by ac_rfl
theorem Y6:CK ["form","word"] kW f15 {} jK:=by ac_rfl
def kY:Stmt:=S 2
theorem Y7:fnB ["form","other"] ["form","other"] (aB kY)=true:=by ac_rfl
theorem Y8:CK ["form","other"] kY f16 {} jL:=by ac_rfl
def kZ:Stmt:=S 19
theorem Y9:fnB ["form","other","ones","common","due"] ["form","other"] (aB kZ)=true:=by ac_rfl
theorem Za:CK ["form","other","ones","common","due"] kZ f17 {} uI:=by ac_rfl
def lg:Stmt:=S 20
theorem Zb:fnB ["script","pen","turn","form","other"] ["script"] (aB lg)=true:=by ac_rfl
theorem Zc:CK ["script","pen","turn","form","other"] lg f18 {} uJ:=by ac_rfl
noncomputable def fdM(n:Str)(st:Stmt)(m:Str)(t c:Nat):FuncData:=PySem.W.fnOf n n (iW st) (aW st) (aB st) .none .none .none (.str m t) none (.ref c) .none
theorem mkF {K:PF} {n m:Str} {st:Stmt} {a t c:Nat}(l:K.lookup a=some ⟨.type "function",none,.func (fdM n st m t c),⟨[]⟩⟩:=by rfl')(h1:PySem.W.codeIn K (.ref c) n=true:=by eq_refl)(h2:PySem.W.keepIn K (.ref a)=true:=by eq_refl):Fun K n n st a (fdM n st m t c):=Ot l h1 h2
theorem tK:type_of% @PySem.W.Fast.te538113369711794958:=PySem.W.Fast.te538113369711794958
local macro_rules|`(tactic|ac_nf)=>`(tactic|(intro _ _ _ _ _ _ us hl;first|(obtain ⟨_,h⟩:=jH hl;subst h;rfl)|(obtain ⟨_,_,h⟩:=cQ hl;subst h;rfl)|(obtain ⟨_,_,_,h⟩:=Hl hl;subst h;rfl)))
local macro_rules|`(tactic|eq_refl)=>`(tactic|(first|rw[tK]|(unfold NQ;rw[tK]));rfl')
section
variable {P:Params}
def Jd:FuncData:=fdM "_law_anew" jZ LN 214 53
theorem Jf:Fun (HK.K P) "_law_anew" "_law_anew" jZ 54 Jd:=mkF
theorem Zd:NQ P "_law_anew" 54:=by eq_refl
theorem Ze:BQ P Jd ["pen"]:=Jf.binds (by ac_nf)
def Jg:FuncData:=fdM "_law_open" j0 LN 214 46
theorem Jh:Fun (HK.K P) "_law_open" "_law_open" j0 47 Jg:=mkF
theorem Zf:NQ P "_law_open" 47:=by eq_refl
theorem Zg:BQ P Jg ["script"]:=Jh.binds (by ac_nf)
def Ji:FuncData:=fdM "_law_spread" j4 LN 214 39
theorem Jj:Fun (HK.K P) "_law_spread" "_law_spread" j4 40 Ji:=mkF
theorem Zh:NQ P "_law_spread" 40:=by eq_refl
theorem Zi:BQ P Ji ["cell","at"]:=Jj.binds (by ac_nf)
def Jl:FuncData:=fdM "_law_take" j5 LN 214 60
theorem Jm:Fun (HK.K P) "_law_take" "_law_take" j5 61 Jl:=mkF
theorem Zj:NQ P "_law_take" 61:=by eq_refl
theorem Zk:BQ P Jl ["pen","many"]:=Jm.binds (by ac_nf)
def Jo:FuncData:=fdM "_law_signs" j6 LN 214 65
theorem Jp:Fun (HK.K P) "_law_signs" "_law_signs" j6 66 Jo:=mkF
theorem Zm:NQ P "_law_signs" 66:=by eq_refl
theorem Zn:BQ P Jo ["pen","width","signs"]:=Jp.binds (by ac_nf)
def Jq:FuncData:=fdM "_law_form" j7 LN 214 72
theorem Jr:Fun (HK.K P) "_law_form" "_law_form" j7 73 Jq:=mkF
theorem Zo:NQ P "_law_form" 73:=by eq_refl
theorem Zq:BQ P Jq ["pen","width"]:=Jr.binds (by ac_nf)
def Js:FuncData:=fdM "_law_wider" j8 LN 214 86
theorem Jt:Fun (HK.K P) "_law_wider" "_law_wider" j8 87 Js:=mkF
theorem Zr:NQ P "_law_wider" 87:=by eq_refl
theorem Zt:BQ P Js ["pen","form"]:=Jt.binds (by ac_nf)
def Ju:FuncData:=fdM "_law_within" j9 LN 214 79
theorem Jv:Fun (HK.K P) "_law_within" "_law_within" j9 80 Ju:=mkF
theorem Zu:NQ P "_law_within" 80:=by eq_refl
theorem Zv:BQ P Ju ["pen","form"]:=Jv.binds (by ac_nf)
def Jw:FuncData:=fdM "_law_form_like" kh LN 214 93
theorem Jx:Fun (HK.K P) "_law_form_like" "_law_form_like" kh 94 Jw:=mkF
theorem Zw:NQ P "_law_form_like" 94:=by eq_refl
theorem Zx:BQ P Jw ["pen","width","forms"]:=Jx.binds (by ac_nf)
def Jy:FuncData:=fdM "_law_pair" kj LN 214 122
theorem JB:Fun (HK.K P) "_law_pair" "_law_pair" kj 123 Jy:=mkF
theorem Zy:NQ P "_law_pair" 123:=by eq_refl
theorem Zz:BQ P Jy ["pen","widest"]:=JB.binds (by ac_nf)
def JC:FuncData:=fdM "_law_fits" km LN 214 105
theorem JD:Fun (HK.K P) "_law_fits" "_law_fits" km 106 JC:=mkF
theorem ZC:NQ P "_law_fits" 106:=by eq_refl
theorem ZD:BQ P JC ["form","word"]:=JD.binds (by ac_nf)
def JF:FuncData:=fdM "_law_form_of" kE LN 214 115
theorem JG:Fun (HK.K P) "_law_form_of" "_law_form_of" kE 116 JF:=mkF
theorem ZF:NQ P "_law_form_of" 116:=by eq_refl
theorem ZG:BQ P JF ["words"]:=JG.binds (by ac_nf)
def uY:FuncData:=fdM "_law_same" kI LN 214 110
theorem pW:Fun (HK.K P) "_law_same" "_law_same" kI 111 uY:=mkF
theorem JH:NQ P "_law_same" 111:=by eq_refl
theorem JK:BQ P uY ["found","due"]:=pW.binds (by ac_nf)
def JL:FuncData:=fdM "_law_words" kJ LN 214 98
theorem JM:Fun (HK.K P) "_law_words" "_law_words" kJ 99 JL:=mkF
theorem ZJ:NQ P "_law_words" 99:=by eq_refl
theorem ZK:BQ P JL ["form"]:=JM.binds (by ac_nf)
def JN:FuncData:=fdM "both" kO "starsieve.forms" 187 32
theorem JP:Fun (HK.K P) "both" "both" kO 33 JN:=mkF
theorem ZL:NQ P "both" 33:=by eq_refl
theorem jJ:BQ P JN ["form","other"]:=JP.binds (by ac_nf)
def JQ:FuncData:=fdM "fits" kW "starsieve.forms" 187 18
theorem JR:Fun (HK.K P) "fits" "fits" kW 19 JQ:=mkF
theorem ZM:NQ P "fits" 19:=by eq_refl
theorem jK:BQ P JQ ["form","word"]:=JR.binds (by ac_nf)
def JS:FuncData:=fdM "lies_in" kY "starsieve.forms" 187 25
theorem JT:Fun (HK.K P) "lies_in" "lies_in" kY 26 JS:=mkF
theorem ZP:NQ P "lies_in" 26:=by eq_refl
theorem jL:BQ P JS ["form","other"]:=JT.binds (by ac_nf)
def JV:FuncData:=fdM "_law_right" kZ LN 214 127
theorem JW:Fun (HK.K P) "_law_right" "_law_right" kZ 128 JV:=mkF
theorem ZQ:NQ P "_law_right" 128:=by eq_refl
theorem ZR:BQ P JV ["form","other"]:=JW.binds (by ac_nf)
def uZ:FuncData:=fdM "law" lg LN 214 134
theorem ZS:Fun (HK.K P) "law" "law" lg 135 uZ:=mkF
theorem ZV:NQ P "law" 135:=by eq_refl
theorem ZW:PySem.W.nsIn (HK.K P) mainGlobals "all"=some none:=by eq_refl
theorem ZX:PySem.W.nsIn (HK.K P) mainGlobals "bool"=some none:=by eq_refl
theorem ZZ:PySem.W.nsIn (HK.K P) mainGlobals "enumerate"=some none:=by eq_refl
theorem Z0:PySem.W.nsIn (HK.K P) mainGlobals "int"=some none:=by eq_refl
theorem Z1:PySem.W.nsIn (HK.K P) mainGlobals "isinstance"=some none:=by eq_refl
theorem Z2:PySem.W.nsIn (HK.K P) mainGlobals "len"=some none:=by eq_refl
theorem Z3:PySem.W.nsIn (HK.K P) mainGlobals "list"=some none:=by eq_refl
theorem Z4:PySem.W.nsIn (HK.K P) mainGlobals "range"=some none:=by eq_refl
theorem Z5:PySem.W.nsIn (HK.K P) mainGlobals "set"=some none:=by eq_refl
theorem Z6:PySem.W.nsIn (HK.K P) mainGlobals "sorted"=some none:=by eq_refl
theorem Z7:PySem.W.nsIn (HK.K P) mainGlobals "str"=some none:=by eq_refl
theorem Z8:PySem.W.nsIn (HK.K P) mainGlobals "tuple"=some none:=by eq_refl
theorem Z9:PySem.W.nsIn (HK.K P) mainGlobals "zip"=some none:=by eq_refl
theorem x_s:xsB (HK.K P) xs=true:=by eq_refl
end
section
variable {l:PySem.W.OpenLaw} {w:World} {h:Heap} {mg:Str->Option Value} {base:Heap} (X:(HK.K w.params).In h) (G:h.Ns mainGlobals mg)
include X G
theorem B0:BB l w mg base 0 f0 {}:=bse trivial ⟨mg_none_of X G ZW,mg_none_of X G ZX,mg_none_of X G ZZ,mg_none_of X G Z0,mg_none_of X G Z1,mg_none_of X G Z2,mg_none_of X G Z3,mg_none_of X G Z4,mg_none_of X G Z5,mg_none_of X G Z6,mg_none_of X G Z7,mg_none_of X G Z8,mg_none_of X G Z9,trivial⟩ trivial X G x_s
theorem B1:BB l w mg base 1 f1 {}:=(B0 X G).step Jf Ze (mg_of X G Zd) Ik 0 Yo Yp rfl rfl (cO (λds G h=>W5 Φ  ds G h))
theorem B2:BB l w mg base 2 f2 {}:=(B1 X G).step Jh Zg (mg_of X G Zf) Il 3 Yq Yr rfl rfl (cO (λds G h=>Xb Φ  ds G h))
theorem B3:BB l w mg base 3 f3 {}:=(B2 X G).step Jj Zi (mg_of X G Zh) Im 3 Ys Yt rfl rfl (cO (λds G h=>W4 Φ  ds G h))
theorem B4:BB l w mg base 4 f4 {}:=(B3 X G).step Jm Zk (mg_of X G Zj) gD 3 Yu Yv rfl rfl (cO (λds G h=>W6 Φ Im ds G h))
theorem B5:BB l w mg base 5 f5 {}:=(B4 X G).step Jp Zn (mg_of X G Zm) Io 0 Yw Yx rfl rfl (cO (λds G h=>W9 Φ gD ds G h))
theorem B6:BB l w mg base 6 f6 {}:=(B5 X G).step Jr Zq (mg_of X G Zo) uX 0 Yy Yz rfl rfl (cO (λds G h=>Xa Φ gD Io ds G h))
theorem B7:BB l w mg base 7 f7 {}:=(B6 X G).step Jt Zt (mg_of X G Zr) Ip 2 YB YC rfl rfl (cO (λds G h=>Xk Φ gD ds G h))
theorem B8:BB l w mg base 8 f8 {}:=(B7 X G).step Jv Zv (mg_of X G Zu) Ir 2 YD YF rfl rfl (cO (λds G h=>Xj Φ gD ds G h))
theorem B9:BB l w mg base 9 f9 {}:=(B8 X G).step Jx Zx (mg_of X G Zw) Iu 3 YG YH rfl rfl (cO (λds G h=>Xq Φ gD uX Ir Ip ds G h))
theorem B10:BB l w mg base 10 f10 {}:=(B9 X G).step JB Zz (mg_of X G Zy) Iv 2 YJ YK rfl rfl (ut (λa ds G h=>X6 Φ gD uX Iu a ds G h))
theorem B11:BB l w mg base 11 f11 {}:=(B10 X G).step JD ZD (mg_of X G ZC) Iw 2 YL YM rfl rfl (pC (λds G d h=>XN Φ  ds G d h))
theorem B12:BB l w mg base 12 f12 {}:=(B11 X G).step JG ZG (mg_of X G ZF) Iz 3 YQ YS rfl rfl (W2 (λa G h=>Ye Φ  a G h))
theorem JX:∀n:Nat,FnOk l.prog w (HK.K w.params) mg base (CX1 l.prog w) (12+n) 111 uY ["found","due"] (lift (HK.K w.params) 2 (cR n))
 |0=>WT Xg
 |n+1=>um (fs:=f13) pW ((B12 X G).self (by ac_rfl) (JX n) pW.kp JK (mg_of X G JH)) (cR (n+1)) 2 0 YT YW rfl rfl (cO (λds G h=>Xf (pF Φ "_law_same" (cR n)) n (if_pos rfl) ds G h))
theorem B13:BB l w mg base 21 f13 {}:=(B12 X G).add (j:=9) IK (JX X G 9) pW.kp JK (mg_of X G JH)
theorem B14:BB l w mg base 22 f14 {}:=(B13 X G).step JM ZK (mg_of X G ZJ) IV 4 YX YZ rfl rfl (cO (λds G h=>Xx Φ  ds G h))
theorem B15:BB l w mg base 23 f15 {}:=(B14 X G).step JP jJ (mg_of X G ZL) IW 3 Y0 Y4 rfl rfl (pC (λds G d h=>XH Φ  ds G d h))
theorem B16:BB l w mg base 24 f16 {}:=(B15 X G).step JR jK (mg_of X G ZM) Ja 0 Y5 Y6 rfl rfl (pC (λds G d h=>Xz Φ  ds G d h))
theorem B17:BB l w mg base 25 f17 {}:=(B16 X G).step JT jL (mg_of X G ZP) Jb 0 Y7 Y8 rfl rfl (pC (λds G d h=>XX Φ Ja ds G d h))
theorem B18:BB l w mg base 26 f18 {}:=(B17 X G).step JW ZR (mg_of X G ZQ) Jc 3 Y9 Za rfl rfl (ut (λa ds G h=>Yg Φ ⟨IV,Iw,IK,Jb,IW,Iz⟩ a ds G h))
theorem aaa:FnOk l.prog w (HK.K w.params) mg base (CX1 l.prog w) 27 135 uZ ["script"] (lift (HK.K w.params) 1 (jN)):=um ZS (B18 X G) (jN) 1 4 Zb Zc rfl rfl (cO (λds G h=>Yh Φ ⟨Il,Ik,Iv,Jc⟩ ds G h))
omit X G in
theorem all (fa:Addr) (X:(HK.K w.params).In h) (G:h.Ns mainGlobals mg) (hfa:mg "law"=some (.ref fa)):∃fd:FuncData,(∀(s:Shared) (v:Value),BindsTo s fd ⟨[v],[]⟩ [("script",v)])/\∀base:Heap,(HK.K w.params).In base->base.Ns mainGlobals mg->FnOk l.prog w (HK.K w.params) mg base (CX1 l.prog w) 27 fa fd ["script"] (lift (HK.K w.params) 1 (jN)):=by have e:=hfa.symm.trans (PySem.W.mg_of X G ZV);cases e;exact ⟨uZ,λs v=>.of_eq rfl,λbase _ _=>aaa X G⟩
end
theorem walk {l:PySem.W.OpenLaw} {q:Program} {loose:List Str} {XP:(Str->Option Value)->Heap->Prop} {d:DefRec} (hn:l.most=some 63) (hdf:d.params.defaults=[]) (hdn:d.name="law"):
  PySem.W.WalkO q loose XP HK.hook.says l.row.toRowW d [] (λf vs=>PySem.call f vs):=
 L2.Oq (n:=63) (k:=27) (x:="script") (K:=HK.K) (CX:=λw=>CX1 l.prog w) (sp:=λw=>lift (HK.K w.params) 1 (jN)) hn (by decide) hdf ⟨rfl,by decide,by decide⟩ (λ_ _ Y=>Y) (λw mg fa h X G hmg=>all fa X G (hdn ▸ hmg)) (λw H a ns hl hO hS=>WX (WY λns _ hl=>⟨ns,rfl,hl⟩) (HK.K w.params) H a ns hl hO hS) λ_ _ _ _ _ z=>Wy z
end Lk03
open PySem PySem.W PyProof.Rows
set_option maxHeartbeats 0 in
theorem PySem.Challenge.cw_starsieve_k03_forms_within_and_both_holds : PySem.Challenge.rw_starsieve_k03_forms_within_and_both.Holds := by
 have said:PySem.Challenge.rw_starsieve_k03_forms_within_and_both.row.wellSaid=true:=by ac_rfl
 refine ⟨by ac_rfl,?_⟩;refine PySem.W.holds_open (q:=HK.qv) (loose:=[]) (Xt:=HK.Xt) (XP:=XL HK.qv []) (Yf:=HK.hook.obs) (Ya:=HK.hook.val) (YP:=HK.hook.says) (N:=12000) HK.left HK.hook.of HK.hook.keeps
  (λs e=>xl_of s (Bool.and_eq_true_iff.mp e).1) XL.keeps (by rfl) (by rfl) (by rfl) (λs e=>recFacts_of (Bool.and_eq_true_iff.mp e).2) (by rfl) (by assumption) (by ac_rfl) ⟨rfl,rfl,rfl,rfl,rfl,by ac_rfl⟩ ?hw ?hc
 case hw=>exact ⟨[.list []],by ac_rfl,by ac_rfl⟩
 exact Lk03.walk rfl rfl rfl
