import PyProof.Rows.All
import Wide.All
import OpenK.AllK
import Wide.FinOn
import Lean
import PyProof.EqAt
import PyProof.EqKinds
import PyProof.TupleCall
import PyProof.NeKinds
import PyProof.FactsAll.range_2
import PyProof.FactsAll.tuple_2
import PyProof.FactsAll.tuple
import PyProof.ListRange
import PySem.Challenge.RW_starsieve_k61_what_a_sieve_tells
set_option compiler.extract_closed false
set_option bootstrap.genMatcherCode false
set_option genSizeOf false
set_option genSizeOfSpec false
set_option Elab.async false
set_option maxRecDepth 100000
noncomputable section
local macro_rules|`(tactic|rfl')=>`(tactic|kernel_rfl)
local macro_rules|`(tactic|ac_rfl)=>`(tactic|decide +kernel)
abbrev PF:=PySem.W.Frag
set_option Elab.async false
set_option linter.all false
set_option maxRecDepth 100000
namespace L2
open PySem PySem.Spec PyProof.Rows
def ae:=@Bool.and_eq_true
def af:=@And.intro
def ag:=@List.length_map
def ah:=@PySem.wpAny_bind
def al:=@PySem.Heap.get?_push_of_some
def am:=@List.getElem?_eq_some_iff
def ar:=@List.size_toArray
def av:=@List.length_append
def aw:=@beq_iff_eq
def ax:=@Option.map_eq_some_iff
def ay:=@Nat.le_refl
def aE:=@List.getElem?_map
def aI:=@PySem.Heap.lt_size
def aS:=@List.getElem?_eq_getElem
def aT:=@List.mem_singleton
def a7:=@Option.some.injEq
def a8:=@decide_eq_true
def a9:=@List.contains_iff_mem
def ba:=@List.mem_append
def bb:=@List.length_take
def bd:=@PySem.Heap.get?_push_size
def bg:=@List.mem_append_right
def bi:=@List.mem_cons
def bn:=@PySem.wpAny_pure
def bo:=@List.map_cons
def bp:=@List.drop_eq_getElem_cons
def bq:=@Nat.lt_of_lt_of_le
def br:=@Bool.false_ne_true
def bv:=@Nat.le_trans
def bP:=@List.mem_of_getElem?
def bS:=@List.length_drop
def bX:=@List.all_eq_true
def b6:=@List.mem_map
theorem b9:type_of% @List.replicate_succ:=@List.replicate_succ
def ca:=@List.mem_cons_of_mem
def cb:=@List.map_append
theorem ce:type_of% @List.length_singleton:=@List.length_singleton
theorem cf:type_of% @List.length_cons:=@List.length_cons
def ci:=@decide_eq_true_iff
def ck:=@decide_eq_false
def cm:=@Nat.le_add_right
def cp:=@List.mem_cons_self
def cq:=@Nat.ne_of_lt
def cr:=@List.length_replicate
def cw:=@List.getElem_mem
theorem cy:type_of% @Int.toNat_natCast:=@Int.toNat_natCast
def cK:=@Option.isSome_iff_exists
def cS:=@PySem.wpAny_mono
def c5:=@beq_eq_false_iff_ne
def c6:=@Int.eq_ofNat_of_zero_le
def c8:=@of_decide_eq_true
def c9:=@List.cons.injEq
def dc:=@Bool.or_eq_true
def de:=@List.length_eq_zero_iff
def df:=@List.mem_append_left
def dk:=@List.map_nil
def dn:=@List.length_pos_iff
def dr:=@PySem.W.kia_one
def dv:=@Option.some.inj
def dy:=@List.dropLast_concat_getLast
def dA:=@List.append_nil
def dE:=@PySem.wpAny_field
def dL:=@PySem.F.plainAttrs_list
def dP:=@List.drop_length
def dQ:=@PySem.Heap.size_push
theorem dS:type_of% @Array.length_toList:=@Array.length_toList
def d3:=@PySem.mem_of_lookup
def d4:=@List.mem_filter
def d5:=@List.length_set
def d6:=@Nat.min_le_right
def ee:=@Nat.lt_irrefl
def eg:=@List.take_add_one
def eh:=@List.take_of_length_le
def ej:=@PySem.wpAny_truthy_bool
def et:=@List.take_length
def ey:=@List.getD_eq_getElem?_getD
def ez:=@List.filter_append
def eA:=@Option.isNone_iff_eq_none
def eD:=@List.getElem?_append_left
def eI:=@PySem.wpAny_setField_rec
def eJ:=@PySem.wpAny_seqItems
def eK:=@Nat.pow_le_pow_right
def eL:=@List.mem_of_mem_take
def eM:=@List.map_map
theorem eP:type_of% @List.flatten_cons:=@List.flatten_cons
def eS:=@Bool.not_eq_true'
def eT:=@PyProof.Rows.slot_tuple_getitem
def eW:=@List.isEmpty_iff
def e6:=@PySem.wpAny_holding
def e7:=@Nat.zero_le
def e8:=@Int.emod_lt_of_pos
def e9:=@PySem.wpAny_callSpecial?_slot
def fb:=@congrArg
def fe:=@and_true
def ff:=@Int.emod_nonneg
def fg:=@Array.getElem?_toList
def fh:=@PyProof.Rows.callWith_type1
def fi:=@PySem.call_meets
def fk:=@Array.getElem?_eq_some_iff
theorem fo:type_of% @List.filterMap_cons:=@List.filterMap_cons
def fq:=@PySem.F.slot_tuple_iterator_next
def ft:=@Bool.true_and
def fv:=@List.length_zip
def fw:=@List.findIdx?_cons
def fy:=@Nat.le_succ
def fA:=@List.findIdx?_eq_some_iff_getElem
def fE:=@and_self
def fF:=@Option.map_map
def fI:=@Nat.ne_of_gt
def fN:=@List.filter_eq_nil_iff
def fR:=@PySem.wpAny_execs_nil
def fS:=@PySem.sizeLine_eq
def fT:=@PySem.W.methodCall_KW
def ga:=@List.cons_lt_cons_iff
def gc:=@Nat.min_eq_right
def gd:=@PySem.wpAny_execs_cons
def gg:=@PySem.wpAny_call_entry
abbrev Key:=Sum Int Str
def BX:Key->Value->Bool
 |.inl k,v=>Value.isInt k v
 |.inr x,v=>Value.isStrOf x v
def V4(w:World):Key->Int
 |.inl k=>hashInt k
 |.inr x=>hashStr w x
theorem fL:∀{k:Key}{v:Value},BX k v=true->(∃i t,k=Sum.inl i/\v=Value.int i t)\/(∃x t,k=Sum.inr x/\v=Value.str x t)
 |.inl i,v,h=>by
  obtain ⟨t,e⟩:=Value.isInt_shape (k:=i) (v:=v) h;exact .inl ⟨i,t,rfl,e⟩
 |.inr x,v,h=>by
  obtain ⟨t,e⟩:=Value.isStrOf_shape (x:=x) (v:=v) h;exact .inr ⟨x,t,rfl,e⟩
theorem V5(a b:Int):decide ((Sum.inl a:Key)=Sum.inl b)=(a==b):=by
 by_cases e:a=b
 ·subst e;simp
 ·have h:¬(Sum.inl a:Key)=Sum.inl b:=λq=>e (Sum.inl.inj q);rw[ck h];exact (c5.mpr e).symm
theorem V6(a b:Str):decide ((Sum.inr a:Key)=Sum.inr b)=decide (a=b):=by
 by_cases e:a=b
 ·subst e;simp
 ·have h:¬(Sum.inr a:Key)=Sum.inr b:=λq=>e (Sum.inr.inj q);rw[ck h,ck e]
theorem V7(a:Int)(b:Str):decide ((Sum.inl a:Key)=Sum.inr b)=false:=ck (λq=>nomatch q)
theorem V8(a:Str)(b:Int):decide ((Sum.inr a:Key)=Sum.inl b)=false:=ck (λq=>nomatch q)
def v7(prog:Program)(w:World):PySem.KeyKind prog w Key where
 is:=BX
 hash:=V4 w
 inj:=λv a b ha hb=>by
  rcases fL ha with ⟨i,t,rfl,rfl⟩ |⟨x,t,rfl,rfl⟩
  ·rcases fL hb with ⟨j,u,rfl,e⟩ |⟨y,u,rfl,e⟩
   ·injection e with e1 _;rw[e1]
   ·exact nomatch e
  ·rcases fL hb with ⟨j,u,rfl,e⟩ |⟨y,u,rfl,e⟩
   ·exact nomatch e
   ·injection e with e1 _;rw[e1]
 byValue:=λk v h=>by
  rcases fL h with ⟨i,t,rfl,rfl⟩ |⟨x,t,rfl,rfl⟩ <;> rfl
 pyHash:=λhv h=>by
  rcases fL hv with ⟨i,t,rfl,rfl⟩ |⟨x,t,rfl,rfl⟩
  ·exact wpAny_pyHash_int h
  ·exact wpAny_pyHash_str h
 eqBool:=λhu hv h=>by
  rcases fL hu with ⟨i,t,rfl,rfl⟩ |⟨x,t,rfl,rfl⟩
  ·rcases fL hv with ⟨j,u,rfl,rfl⟩ |⟨y,u,rfl,rfl⟩
   ·rw[V5]at h;exact wpAny_eqBool_int h
   ·rw[V7]at h;exact SeqAt.EqAt.int_str i t y u _ _ _ _ h
  ·rcases fL hv with ⟨j,u,rfl,rfl⟩ |⟨y,u,rfl,rfl⟩
   ·rw[V8]at h;exact SeqAt.EqAt.str_int x t j u _ _ _ _ h
   ·rw[V6]at h;exact wpAny_eqBool_str h
 «strs»:=λk x t v h=>by
  rcases fL h with ⟨i,u,rfl,e⟩ |⟨y,u,rfl,e⟩
  ·exact nomatch e
  ·injection e with e1 _;subst e1;cases v <;> rfl
inductive V where
 |non |bl (b:Bool) |int (i:Int) |str (x:Str) |byt (b:Array UInt8) |flt (b:UInt64) |ref (a:Addr) |ty (n:String)
 deriving DecidableEq
def RelV:V->Value->Prop
 |.non,u=>u=Value.none
 |.bl b,u=>u=Value.bool b
 |.int i,u=>∃t,u=Value.int i t
 |.str x,u=>∃t,u=Value.str x t
 |.byt b,u=>∃t,u=Value.bytes b t
 |.flt b,u=>∃t,u=Value.float b t
 |.ref a,u=>u=Value.ref a
 |.ty n,u=>u=Value.type n
abbrev Vals:List V->List Value->Prop:=Paired RelV
theorem Vals.length{xs:List V}{us:List Value}(r:Vals xs us):xs.length=us.length:=Paired.length r
theorem Vals.get:∀{xs:List V}{us:List Value}{i:Nat}{x:V},Vals xs us->xs[i]?=some x->∃u,us[i]?=some u/\RelV x u
 |_,_,_,_,.nil,e=>by simp at e
 |_,_,0,_,.cons r _,e=>by simp at e;subst e;exact ⟨_,rfl,r⟩
 |_,_,i+1,x,.cons _ t,e=>by
  obtain ⟨u,h1,h2⟩:=Vals.get (i:=i) (x:=x) t (by simpa using e);exact ⟨u,by simpa using h1,h2⟩
theorem Vals.set{x:V}{u:Value}(r:RelV x u):∀{xs:List V}{us:List Value}(i:Nat),Vals xs us->Vals (xs.set i x) (us.set i u)
 |_,_,_,.nil=>.nil
 |_,_,0,.cons _ t=>.cons r t
 |_,_,i+1,.cons q t=>.cons q (Vals.set r i t)
theorem Vals.append:∀{xs ys:List V}{us ws:List Value},Vals xs us->Vals ys ws->Vals (xs++ys) (us++ws)
 |_,_,_,_,.nil,s=>s
 |_,_,_,_,.cons r t,s=>.cons r (Vals.append t s)
theorem Vals.take:∀{xs:List V}{us:List Value}(n:Nat),Vals xs us->Vals (xs.take n) (us.take n)
 |_,_,0,_=>.nil
 |_,_,_+1,.nil=>.nil
 |_,_,n+1,.cons r t=>.cons r (Vals.take n t)
theorem Vals.drop:∀{xs:List V}{us:List Value}(n:Nat),Vals xs us->Vals (xs.drop n) (us.drop n)
 |_,_,0,r=>r
 |_,_,_+1,.nil=>.nil
 |_,_,n+1,.cons _ t=>Vals.drop n t
def RelO:Option V->Option Value->Prop
 |some v,some u=>RelV v u
 |none,none=>True
 |_,_=>False
def KV{κ:Type}:List (κ×V)->List (κ×Value)->Prop:=Paired λ(p:κ×V) (q:κ×Value)=>p.1=q.1/\RelV p.2 q.2
def kV:Key->V
 |.inl i=>.int i
 |.inr x=>.str x
inductive HO where
 |lst (xs:List V)
 |tup (xs:List V)
 |dK (kvs:List (Key×V)) |dT (kvs:List (List Key×V))
 |set (S:Int->Bool) (n:Nat)
 |ins (C dx:Addr) (fs:List (Str×V))
 |own (x:Addr)
 |xd (fs:List (Str×V))
 |met (f x:Addr)
 |rng (lo hi:Int)
 |frz (o:Obj) (u:HO)
 |tbl (ps:Array Value)
 |ext (φ:Heap->Prop)
abbrev Hp:=Addr->Option HO
def upd(H:Hp)(a:Addr)(o:HO):Hp:=λb=>if b=a then some o else H b
theorem cP{H:Hp}{a:Addr}{o:HO}:upd H a o a=some o:=by unfold upd;rw[if_pos rfl]
theorem aJ{H:Hp}{a b:Addr}{o:HO}(h:b≠a):upd H a o b=H b:=by unfold upd;rw[if_neg h]
theorem BZ{H:Hp}{a b:Addr}{o u:HO}(h:H a=some o)(h':H b=some u)(d:o≠u):a≠b:=by intro e;subst e;rw[h]at h';exact d (dv h')
theorem bw{H:Hp}{a b:Addr}{o:HO}(h:H a=some o)(h':H b=none):a≠b:=by intro e;subst e;rw[h]at h';cases h'
section
variable (P:Program) (w:World)
def ObjOk(H:Hp)(h:Heap)(a:Addr):HO->Prop
 |.lst xs=>xs.length<=sizeLine/\∃(its:List Value) (n:Nat),Vals xs its/\h.get? a=some { cls:=.type "list",data:=.seq its.toArray n }
 |.tup xs=>xs.length<=sizeLine/\∃its:List Value,Vals xs its/\IsTup h a its.toArray
 |.dK kvs=>kvs.length<=sizeLine/\(a==sysModules)=false/\∃vs,KV kvs vs/\h.DictOf (v7 P w) a vs
 |.dT kvs=>kvs.length<=sizeLine/\(a==sysModules)=false/\∃xs:List (List Key×Addr×Value),
   Paired (λ(p:List Key×V) (q:List Key×Addr×Value)=>p.1=q.1/\H q.2.1=some (.tup (p.1.map kV))/\RelV p.2 q.2.2) kvs xs/\
   ∃o es ep,h.get? a=some o/\o.ExactDict/\o.data=.dict es ep/\es.toList=xs.map (entryOfKey (tupleKind (v7 P w)))/\(xs.map (·.1)).Nodup
 |.set S n=>h.SetOf (intKind P w) a S n
 |.ins C dx fs=>H dx=some (.own a)/\fs.length<=1000/\dx≠a/\h.get? a=some (PySem.W.instObj C dx)/\
   ∃mA,h.Ns1 dx mA/\(∀f,RelO (fs.lookup f) (mA f))/\PySem.Within mA (fs.map (·.1))
 |.own _=>∃o,h.get? a=some o
 |.xd fs=>∃mA,h.Ns1 a mA/\∀f,RelO (fs.lookup f) (mA f)
 |.rng lo hi=>∃t u v,h.get? a=some { cls:=.type "range",data:=.fields #[.int lo t,.int hi u,.int 1 v] }
 |.frz o u=>h.get? a=some o/\ObjOk H h a u
 |.tbl ps=>h.get? a=some { cls:=.none,data:=.fields ps }
 |.met f x=>h.get? a=some (PySem.W.methodObj (.ref f) (.ref x))
 |.ext φ=>φ h/\(∃o,h.get? a=some o)/\∀h1 h2:Heap,φ h1->(∀o,h1.get? a=some o->h2.get? a=some o)->φ h2
def HOk(H:Hp)(h:Heap):Prop:=∀a o,H a=some o->ObjOk P w H h a o
end
section
variable {P:Program} {w:World} {H H':Hp} {h h':Heap} {a:Addr} {o:HO}
theorem ObjOk.lt(x:ObjOk P w H h a o):a < h.objs.size:=by
 cases o with
 |lst xs=>obtain ⟨_,_,_,_,e⟩:=x;exact aI e
 |tup xs=>obtain ⟨_,_,_,p⟩:=x;exact p.lt
 |dK kvs=>obtain ⟨_,_,_,_,o,_,_,e,_⟩:=x;exact aI e
 |dT kvs=>obtain ⟨_,_,_,_,o,_,_,e,_⟩:=x;exact aI e
 |set S n=>obtain ⟨o,_,_,_,e,_⟩:=x;exact aI e
 |ins C dx fs=>obtain ⟨_,_,_,e,_⟩:=x;exact aI e
 |own y=>obtain ⟨_,e⟩:=x;exact aI e
 |xd fs=>obtain ⟨_,⟨_,_,_,e,_⟩,_⟩:=x;exact aI e
 |rng lo hi=>obtain ⟨_,_,_,e⟩:=x;exact aI e
 |frz ob u=>obtain ⟨e,_⟩:=x;exact aI e
 |tbl ps=>exact aI (show h.get? a=some _ from x)
 |met f y=>exact aI (show h.get? a=some _ from x)
 |ext φ=>obtain ⟨_,⟨_,e⟩,_⟩:=x;exact aI e
theorem Paired.mapP{α β:Type}{F G:α->β->Prop}:∀{l₁:List α}{l₂:List β},Paired F l₁ l₂->(∀a b,F a b->G a b)->Paired G l₁ l₂
 |_,_,.nil,_=>.nil
 |_,_,.cons r t,f=>.cons (f _ _ r) (Paired.mapP t f)
theorem ObjOk.stay(x:ObjOk P w H h a o)(k:∀b u,(b=a\/H b=some (.own a))->h.get? b=some u->h'.get? b=some u)
  (ho:∀b,H b=some (.own a)->H' b=some (.own a)) (ht:∀b xs,H b=some (.tup xs)->H' b=some (.tup xs)):ObjOk P w H' h' a o:=by
 induction o with
 |lst xs=>obtain ⟨z,its,n,r,e⟩:=x;exact ⟨z,its,n,r,k _ _ (.inl rfl) e⟩
 |tup xs=>obtain ⟨z,its,r,ob,e,c⟩:=x;exact ⟨z,its,r,ob,k _ _ (.inl rfl) e,c⟩
 |dK kvs=>obtain ⟨z,y,vs,r,ob,es,ep,e,c⟩:=x;exact ⟨z,y,vs,r,ob,es,ep,k _ _ (.inl rfl) e,c⟩
 |dT kvs=>
  obtain ⟨z,y,xs,r,ob,es,ep,e,c⟩:=x;exact ⟨z,y,xs,Paired.mapP r λp q z=>⟨z.1,ht _ _ z.2.1,z.2.2⟩,ob,es,ep,k _ _ (.inl rfl) e,c⟩
 |set S n=>obtain ⟨ob,es,ep,t,e,c⟩:=x;exact ⟨ob,es,ep,t,k _ _ (.inl rfl) e,c⟩
 |ins C dx fs=>
  obtain ⟨d,z,ne,e,mA,⟨od,es,ep,e2,c⟩,r⟩:=x;exact ⟨ho _ d,z,ne,k _ _ (.inl rfl) e,mA,⟨od,es,ep,k _ _ (.inr d) e2,c⟩,r⟩
 |own y=>obtain ⟨ob,e⟩:=x;exact ⟨ob,k _ _ (.inl rfl) e⟩
 |xd fs=>obtain ⟨mA,⟨od,es,ep,e,c⟩,r⟩:=x;exact ⟨mA,⟨od,es,ep,k _ _ (.inl rfl) e,c⟩,r⟩
 |rng lo hi=>obtain ⟨t,u,v,e⟩:=x;exact ⟨t,u,v,k _ _ (.inl rfl) e⟩
 |frz ob u ih=>obtain ⟨e,q⟩:=x;exact ⟨k _ _ (.inl rfl) e,ih q⟩
 |tbl ps=>
  have e:h.get? a=some { cls:=.none,data:=.fields ps }:=x;show h'.get? a=some { cls:=.none,data:=.fields ps };exact k a _ (.inl rfl) e
 |met f y=>
  have e:h.get? a=some (PySem.W.methodObj (.ref f) (.ref y)):=x;show h'.get? a=some (PySem.W.methodObj (.ref f) (.ref y));exact k a _ (.inl rfl) e
 |ext φ=>obtain ⟨p,⟨o,e⟩,st⟩:=x;exact ⟨st _ _ p λo q=>k _ _ (.inl rfl) q,⟨o,k _ _ (.inl rfl) e⟩,st⟩
theorem HOk.lt(x:HOk P w H h)(e:H a=some o):a < h.objs.size:=(x a o e).lt
theorem HOk.fresh(x:HOk P w H h)(e:h.objs.size<=a):H a=none:=by
 cases q:H a with
 |none=>rfl
 |some u=>exact absurd (bq (x.lt q) e) (ee _)
theorem HOk.kept(x:HOk P w H h)(k:∀b u,h.get? b=some u->h'.get? b=some u):HOk P w H h':=λa o e=>
 (x a o e).stay (λb u _ q=>k b u q) (λ_ q=>q) λ_ _ q=>q
theorem HOk.laid(x:HOk P w H h)(k:∀b u,h.get? b=some u->h'.get? b=some u)(hp:h.objs.size<=a)(new:ObjOk P w (upd H a o) h' a o):HOk P w (upd H a o) h':=λb u e=>by
 have hn:=x.fresh hp;by_cases hb:b=a
 ·subst hb;rw[cP]at e;cases e;exact new
 ·rw[aJ hb]at e;exact (x b u e).stay (λc v _ q=>k c v q) (λc q=>by rw[aJ (bw q hn)];exact q) λc xs q=>by rw[aJ (bw q hn)];exact q
end
def Rd(H:Hp)(a:Addr)(u:HO):Prop:=H a=some u\/∃o,H a=some (.frz o u)
theorem Rd.ok{P:Program}{w:World}{H:Hp}{h:Heap}{a:Addr}{u:HO}(r:Rd H a u)(x:HOk P w H h):ObjOk P w H h a u:=by
 rcases r with r |⟨o,r⟩
 ·exact x a u r
 ·obtain ⟨_,q⟩:=x a _ r;exact q
noncomputable def Mut:Option HO->Prop
 |some (.lst _)=>True
 |some (.dK _)=>True
 |some (.dT _)=>True
 |some (.set _ _)=>True
 |some (.ins _ _ _)=>True
 |some (.ext _)=>True
 |_=>False
section
variable {P:Program} {w:World} {H:Hp} {h h':Heap} {x e:Addr} {o':HO}
theorem HOk.write(ok:HOk P w H h)(mu:Mut (H x))(he:e=x\/H e=some (.own x))(k:∀b u,b≠e->h.get? b=some u->h'.get? b=some u)(heo:∃u,h'.get? e=some u)
  (new:ObjOk P w (upd H x o') h' x o'):HOk P w (upd H x o') h':=λb u q=>by
 have nown:∀c y,H c=some (.own y)->c≠x:=λc y r z=>by subst z;rw[r]at mu;exact mu
 have ntup:∀c xs,H c=some (.tup xs)->c≠x:=λc xs r z=>by subst z;rw[r]at mu;exact mu
 by_cases hb:b=x
 ·subst hb;rw[cP]at q;cases q;exact new
 ·rw[aJ hb]at q;by_cases hbe:b=e
  ·have q':H b=some (.own x):=by
    rcases he with z |z
    ·exact absurd (hbe.trans z) hb
    ·rw[hbe];exact z
   rw[q]at q';cases q';obtain ⟨v,hv⟩:=heo;exact ⟨v,by rw[hbe];exact hv⟩
  ·refine (ok b u q).stay (λc v hc r=>k c v ?_ r) (λc r=>by rw[aJ (nown c b r)];exact r) λc xs r=>by rw[aJ (ntup c xs r)];exact r
   rcases hc with rfl |hc
   ·exact hbe
   ·rintro rfl;rcases he with z |z
    ·exact nown c b hc z
    ·rw[hc]at z;cases z;exact hb rfl
end
structure Un(fs ex:List Addr)(H H':Hp)(h h':Heap):Prop where
 keep:∀b o,h.get? b=some o->H b=none->b∉fs->b∉ex->h'.get? b=some o
 slot:∀b o,h.get? b=some o->H b=none->b∈fs->b∉ex->∃sl,h'.get? b=some { o with slots:=sl }
 free:∀b o,h.get? b=some o->H b=none->b∉ex->H' b=none
 there:∀b o,h.get? b=some o->b∉ex->∃o',h'.get? b=some o'
 tups:∀b xs,H b=some (.tup xs)->H' b=some (.tup xs)
 frzs:∀b o u,H b=some (.frz o u)->H' b=some (.frz o u)
 tbls:∀b ps,H b=some (.tbl ps)->∃more,H' b=some (.tbl (ps++more))
section
variable {fs fs' ex ex':List Addr} {H H1 H2:Hp} {h h1 h2 h':Heap} {a x e:Addr} {o:HO}
theorem Un.any(u:Un fs ex H H1 h h1){b:Addr}{ob:Obj}(q:h.get? b=some ob)(n:H b=none)(hx:b∉ex):∃sl,h1.get? b=some { ob with slots:=sl }:=by
 by_cases hb:b∈fs
 ·exact u.slot b ob q n hb hx
 ·exact ⟨ob.slots,u.keep b ob q n hb hx⟩
theorem Un.kept(k:∀b u,h.get? b=some u->h'.get? b=some u):Un fs ex H H h h':=
 ⟨λb ob q _ _ _=>k b ob q,λb ob q _ _ _=>⟨ob.slots,k b ob q⟩,λ_ _ _ n _=>n,λb ob q _=>⟨ob,k b ob q⟩,λ_ _ q=>q,λ_ _ _ q=>q,λ_ ps q=>⟨#[],by rw[q];simp⟩⟩
theorem Un.refl:Un fs ex H H h h:=Un.kept λ_ _ q=>q
theorem Un.laid(k:∀b u,h.get? b=some u->h'.get? b=some u)(hp:h.objs.size<=a)(hn:H a=none):Un fs ex H (upd H a o) h h' where
 keep:=λb u q _ _ _=>k b u q
 slot:=λb u q _ _ _=>⟨u.slots,k b u q⟩
 free:=λb u q n _=>by rw[aJ (cq (bq (aI q) hp))];exact n
 there:=λb u q _=>⟨u,k b u q⟩
 tups:=λb xs q=>by rw[aJ (bw q hn)];exact q
 frzs:=λb u xs q=>by rw[aJ (bw q hn)];exact q
 tbls:=λb ps q=>⟨#[],by rw[aJ (bw q hn),q];simp⟩
theorem Un.write(mu:Mut (H x))(he:e=x\/H e=some (.own x))(k:∀b u,b≠e->h.get? b=some u->h'.get? b=some u)(heo:∃u,h'.get? e=some u):Un fs ex H (upd H x o) h h':=by
 have hx:∀b,H b=none->b≠x:=λb n z=>by subst z;rw[n]at mu;exact mu
 have hb:∀b,H b=none->b≠e:=λb n z=>by
  subst z;rcases he with r |r
  ·exact hx b n r
  ·rw[n]at r;cases r
 have hm:∀b u,H b=some u->¬Mut (some u)->b≠x:=λb u q nm z=>by subst z;rw[q]at mu;exact nm mu
 refine ⟨λb u q n _ _=>k b u (hb b n) q,λb u q n _ _=>⟨u.slots,k b u (hb b n) q⟩,λb u q n _=>by rw[aJ (hx b n)];exact n,λb u q _=>?_,
  λb xs q=>by rw[aJ (hm b _ q λz=>z)];exact q,λb u xs q=>by rw[aJ (hm b _ q λz=>z)];exact q,λb ps q=>⟨#[],by rw[aJ (hm b _ q λz=>z),q];simp⟩⟩
 by_cases hbe:b=e
 ·subst hbe;exact heo
 ·exact ⟨u,k b u hbe q⟩
end
def trk(h:Heap)(H:Hp):List Addr:=(List.range h.objs.size).filter λa=>(H a).isSome
def dz(h:Heap)(H:Hp):Heap:=PySem.W.hideAll h (trk h H)
theorem V9(h:Heap)(H:Hp):(dz h H).objs.size=h.objs.size:=PySem.W.hideAll_size _ _
theorem Wa{h:Heap}{H:Hp}{b:Addr}{o:Obj}(e:h.get? b=some o)(n:H b=none):(dz h H).get? b=some o:=
 PySem.W.hideAll_get _ e λhm=>by
  have q:(H b).isSome=true:=(d4.mp hm).2;rw[n]at q;simp at q
theorem Wb{h:Heap}{H:Hp}{b:Addr}{o:Obj}(e:(dz h H).get? b=some o):h.get? b=some o/\H b=none:=by
 have e':h.get? b=some o:=PySem.W.of_hideAll (trk h H) e;refine ⟨e',?_⟩;cases q:H b with
 |none=>rfl
 |some x=>
  have hm:b∈trk h H:=d4.mpr ⟨List.mem_range.mpr (aI e'),by simp[q]⟩;have z:(dz h H).get? b=none:=PySem.W.hideAll_none (trk h H) hm;rw[z]at e;cases e
noncomputable def Wc(g h:Heap)(L:Addr):List (Addr×Obj):=(List.range h.objs.size).filterMap λa=>if a=L\/(g.get? a).isSome=true then none else (h.get? a).map λo=>(a,o)
def rest(g h:Heap)(L d:Addr):List (Addr×Obj):=(Wc g h L).filter λp=>decide (p.1≠d)
structure Mod(K:PF)(mg:Str->Option Value)(base:Heap):Prop where
 kin:K.In base
 glob:base.Ns mainGlobals mg
 blt:∃mb,base.Ns builtinsNs mb/\∀x:Str,x≠"__name__"->mb x=bootBuiltins x
 nolimit:base.NoLimit
structure Cx where
 prog:Program
 w:World
 K:PF
 mg:Str->Option Value
 base:Heap
 A:Around
 N:List Str
 s₀:Shared
 H₀:Hp
 env:Env
 outer:List Env
 stack:List Env
 ex:List Addr
 fn:Str->Bool
 calm:Bool
 pn:List (Addr×Obj)
 xe:Value->Shared->Prop
def frs(l:List Env):List Addr:=l.filterMap (·.frame)
abbrev Cx.fs(X:Cx):List Addr:=frs X.outer
def Vis(sc:Scope)(x:Str):Prop:=sc.names.lookup x=some .local\/sc.names.lookup x=some .cell\/sc.names.lookup x=some .free
def Loc(sc:Scope)(x:Str):Prop:=sc.names.lookup x=some .local\/sc.names.lookup x=some .cell
def Look(env:Env)(h:Heap)(m:Str->Option Value)(x:Str)(u:Value):Prop:=
 (env.kindOf x=some .local/\m x=some u)\/((env.kindOf x=some .cell\/env.kindOf x=some .free)/\∃c,env.cells.lookup x=some c/\h.IsCell c (some u))
structure Cx.Ok(X:Cx):Prop where
 mod:Mod X.K X.mg X.base
 kind:X.env.scope.kind=.function
 glob:X.env.globals=mainGlobals
 blt:X.env.builtins=builtinsNs
 above:X.s₀.heap.objs.size<=X.env.locals
 inj:∀x y c,X.env.cells.lookup x=some c->X.env.cells.lookup y=some c->x=y
 has:∀x,(X.env.kindOf x=some .cell\/X.env.kindOf x=some .free)->∃c,X.env.cells.lookup x=some c
 cab:∀x c,X.fn x=true->X.env.cells.lookup x=some c->X.s₀.heap.objs.size<=c
 hd:X.calm=true->X.A.handled=none
 frames:X.A.frames=some X.stack
 stk:X.stack=X.outer\/(X.stack=X.env::X.outer/\X.env.frame=some X.env.locals)
 exf:∀b∈X.ex,b≠X.env.locals/\∀x c,X.env.cells.lookup x=some c->c≠b
 bs:∀b o,X.base.get? b=some o->X.s₀.heap.get? b=some o/\X.H₀ b=none
 bsz:X.base.objs.size<=X.s₀.heap.objs.size
 noex:∀b o,X.base.get? b=some o->b∉X.ex
 exfs:∀b∈X.ex,b∉X.fs
 funs:X.s₀.heap.FunFrames X.base X.outer
 frf:∀b∈X.fs,X.H₀ b=none
structure Inv(X:Cx)(pins:List (Addr×Obj))(σ:List (Option V))(H:Hp)(s:Shared):Prop where
 ok:X.Ok
 os:s.os=X.s₀.os
 bare:AllBare s.gens
 base:Un X.fs X.ex X.H₀ H X.s₀.heap s.heap
 loc:∃m,s.heap.Ns X.env.locals m/\∀(i:Nat)(x:Str)(v:V),X.N[i]?=some x->σ[i]?=some (some v)->Vis X.env.scope x->∃u,RelV v u/\Look X.env s.heap m x u
 cell:∀x c,X.env.cells.lookup x=some c->∃v,s.heap.IsCell c v
 free:H X.env.locals=none
 freeC:∀x c,X.env.cells.lookup x=some c->H c=none
 pin:∀p∈X.pn++pins,s.heap.get? p.1=some p.2/\H p.1=none/\p.1≠X.env.locals/\p.1∉X.fs/\∀v,p.2.data≠.cell v
 hok:HOk X.prog X.w H s.heap
 len:σ.length=X.N.length
section
variable {X:Cx} {pins:List (Addr×Obj)} {σ:List (Option V)} {H H':Hp} {s:Shared} {h':Heap}
theorem Cx.Ok.nofr(ok:X.Ok){b:Addr}{o:Obj}(e:X.base.get? b=some o):b∉X.fs:=λhb=>by
 have:=(ok.funs.mem hb).1;rw[e]at this;cases this
theorem Inv.bs(I:Inv X pins σ H s):∀b o,X.base.get? b=some o->s.heap.get? b=some o/\H b=none:=λb o e=>
 ⟨I.base.keep b o (I.ok.bs b o e).1 (I.ok.bs b o e).2 (I.ok.nofr e) (I.ok.noex b o e),I.base.free b o (I.ok.bs b o e).1 (I.ok.bs b o e).2 (I.ok.noex b o e)⟩
theorem Inv.bk(I:Inv X pins σ H s):∀b o,X.base.get? b=some o->s.heap.get? b=some o:=λb o e=>(I.bs b o e).1
theorem Inv.mod(I:Inv X pins σ H s):Mod X.K X.mg X.base:=I.ok.mod
theorem Inv.kIn(I:Inv X pins σ H s):X.K.In s.heap:=I.ok.mod.kin.keeps I.bk
theorem Inv.lt(I:Inv X pins σ H s):X.env.locals < s.heap.objs.size:=let ⟨_,hn,_⟩:=I.loc;hn.lt
theorem Inv.sz(I:Inv X pins σ H s):X.s₀.heap.objs.size<=s.heap.objs.size:=bv I.ok.above (Nat.le_of_lt I.lt)
theorem Inv.nofs(I:Inv X pins σ H s){a:Addr}(h:s.heap.objs.size<=a):a∉X.fs:=λhb=>by
 obtain ⟨_,o,ho,_⟩:=I.ok.funs.mem hb;exact absurd (bq (aI ho) (bv I.sz h)) (ee _)
theorem Inv.cne(I:Inv X pins σ H s):∀x c,X.env.cells.lookup x=some c->c≠X.env.locals:=λx c e z=>by
 obtain ⟨v,o,ho,hd⟩:=I.cell x c e;obtain ⟨m,⟨o',es,ep,ho',hd',_⟩,_⟩:=I.loc;rw[z,ho']at ho;cases ho;rw[hd']at hd;cases hd
theorem Inv.funs(I:Inv X pins σ H s):s.heap.FunFrames X.base X.outer:=by
 have all:∀(l:List Env),(∀b∈frs l,b∈X.fs)->X.s₀.heap.FunFrames X.base l->s.heap.FunFrames X.base l:=by
  intro l;induction l with
  |nil=>intro _ _;trivial
  |cons env r ih=>
   intro hs hl;obtain ⟨hk,⟨L,o,hf,hn,ho,hd⟩,hr⟩:=hl;have hL:L∈X.fs:=hs L (by unfold frs;rw[fo,hf];exact cp);obtain ⟨sl,e⟩:=I.base.slot L o ho (I.ok.frf L hL) hL λz=>I.ok.exfs L z hL;exact ⟨hk,⟨L,_,hf,hn,e,hd⟩,ih (λb hb=>hs b (by unfold frs;rw[fo,hf];exact ca _ hb)) hr⟩
 exact all X.outer (λ_ hb=>hb) I.ok.funs
theorem Inv.stack(I:Inv X pins σ H s):s.heap.FunFrames X.base X.stack:=by
 rcases I.ok.stk with e |⟨e,hf⟩
 ·rw[e];exact I.funs
 ·rw[e];obtain ⟨m,hn,_⟩:=I.loc;refine .cons (by rw[I.ok.kind];decide) hf hn ?_ I.funs;exact Heap.get?_none_of_le (bv I.ok.bsz I.ok.above)
theorem Inv.stkSub(I:Inv X pins σ H s):∀b∈frs X.stack,b∈X.env.locals::X.fs:=λb hb=>by
 rcases I.ok.stk with e |⟨e,hf⟩
 ·rw[e]at hb;exact ca _ hb
 ·rw[e]at hb;unfold frs at hb;rw[fo,hf]at hb;exact hb
theorem Inv.stkFree(I:Inv X pins σ H s):∀b∈frs X.stack,H b=none:=λb hb=>by
 rcases bi.mp (I.stkSub b hb) with e |hb
 ·rw[e];exact I.free
 ·obtain ⟨_,o,ho,_⟩:=I.ok.funs.mem hb;exact I.base.free b o ho (I.ok.frf b hb) λz=>I.ok.exfs b z hb
theorem Inv.step{g':Array GenState}{t':Nat}{d':Drawn}{ch:List Addr}(I:Inv X pins σ H s)
  (hch:∀b∈ch,(b∈X.ex\/X.s₀.heap.objs.size<=b)/\b≠X.env.locals/\(∀x c,X.env.cells.lookup x=some c->c≠b)/\∀p∈X.pn++pins,p.1≠b)
  (keep:∀b o,b≠X.env.locals->b∉X.fs->b∉ch->s.heap.get? b=some o->H b=none->h'.get? b=some o)
  (slot:∀b o,b≠X.env.locals->b∈X.fs->b∉ch->s.heap.get? b=some o->H b=none->∃sl,h'.get? b=some { o with slots:=sl }) (free:∀b o,b∉ch->s.heap.get? b=some o->H b=none->H' b=none)
  (there:∀b o,b∉ch->s.heap.get? b=some o->∃o',h'.get? b=some o')
  (tups:∀b xs,H b=some (.tup xs)->H' b=some (.tup xs)) (frzs:∀b o u,H b=some (.frz o u)->H' b=some (.frz o u)) (tbls:∀b ps,H b=some (.tbl ps)->∃more,H' b=some (.tbl (ps++more)))
  (ns:∀m,s.heap.Ns X.env.locals m->h'.Ns X.env.locals m) (hok:HOk X.prog X.w H' h') (hg:AllBare g'):
  Inv X pins σ H' { s with heap:=h',gens:=g',drawn:=d',toks:=t' }:=by
 have neL:∀b o,X.s₀.heap.get? b=some o->b≠X.env.locals:=λb o e=>cq (bq (aI e) I.ok.above);have neC:∀b o,X.s₀.heap.get? b=some o->b∉X.ex->b∉ch:=λb o e hx hb=>by
  rcases (hch b hb).1 with z |z
  ·exact hx z
  ·exact absurd (bq (aI e) z) (ee _)
 have cellK:∀x c,X.env.cells.lookup x=some c->∀v,s.heap.IsCell c v->h'.IsCell c v:=λx c e v ⟨o,ho,hd⟩=>by
  have nch:c∉ch:=λz=>(hch c z).2.2.1 x c e rfl;by_cases hc:c∈X.fs
  ·obtain ⟨sl,q⟩:=slot c o (I.cne x c e) hc nch ho (I.freeC x c e);exact ⟨_,q,hd⟩
  ·exact ⟨o,keep c o (I.cne x c e) hc nch ho (I.freeC x c e),hd⟩
 refine ⟨I.ok,I.os,hg,⟨λb o e n hb hx=>?_,λb o e n hb hx=>?_,λb o e n hx=>?_,λb o e hx=>?_,λb xs e=>tups b xs (I.base.tups b xs e),λb o xs e=>frzs b o xs (I.base.frzs b o xs e),λb ps e=>?_⟩,?_,λx c e=>?_,?_,λx c e=>?_,λp hp=>?_,hok,I.len⟩
 ·exact keep b o (neL b o e) hb (neC b o e hx) (I.base.keep b o e n hb hx) (I.base.free b o e n hx)
 ·obtain ⟨sl,e1⟩:=I.base.slot b o e n hb hx;obtain ⟨sl',e2⟩:=slot b _ (neL b o e) hb (neC b o e hx) e1 (I.base.free b o e n hx);exact ⟨sl',e2⟩
 ·obtain ⟨o',e1⟩:=I.base.there b o e hx;exact free b o' (neC b o e hx) e1 (I.base.free b o e n hx)
 ·obtain ⟨o',e1⟩:=I.base.there b o e hx;exact there b o' (neC b o e hx) e1
 ·obtain ⟨m1,e1⟩:=I.base.tbls b ps e;obtain ⟨m2,e2⟩:=tbls b _ e1;exact ⟨m1++m2,by rw[e2,Array.append_assoc]⟩
 ·obtain ⟨m,hn,hl⟩:=I.loc;refine ⟨m,ns m hn,λi x v e1 e2 e3=>?_⟩;obtain ⟨u,r,l⟩:=hl i x v e1 e2 e3;refine ⟨u,r,?_⟩;rcases l with l |⟨k,c,e,z⟩
  ·exact .inl l
  ·exact .inr ⟨k,c,e,cellK x c e _ z⟩
 ·obtain ⟨v,z⟩:=I.cell x c e;exact ⟨v,cellK x c e v z⟩
 ·obtain ⟨m,⟨o,_,_,ho,_⟩,_⟩:=I.loc;exact free _ o (λz=>(hch _ z).2.1 rfl) ho I.free
 ·obtain ⟨v,o,ho,hd⟩:=I.cell x c e;exact free c o (λz=>(hch c z).2.2.1 x c e rfl) ho (I.freeC x c e)
 ·obtain ⟨e,n,ne,nf,d⟩:=I.pin p hp;have nch:p.1∉ch:=λz=>(hch p.1 z).2.2.2 p hp rfl;exact ⟨keep p.1 p.2 ne nf nch e n,free p.1 p.2 nch e n,ne,nf,d⟩
theorem Inv.un{t':Nat}(I:Inv X pins σ H s)(u:Un X.fs [] H H' s.heap h')(hok:HOk X.prog X.w H' h'):Inv X pins σ H' { s with heap:=h',toks:=t' }:=by
 obtain ⟨m,⟨o,es,ep,ho,r⟩,_⟩:=id I.loc;obtain ⟨sl,hL⟩:=u.any ho I.free (by simp);exact I.step (g':=s.gens) (d':=s.drawn) (ch:=[]) (λ_ z=>nomatch z) (λb o _ hb _ e n=>u.keep b o e n hb (by simp)) (λb o _ hb _ e n=>u.slot b o e n hb (by simp)) (λb o _ e n=>u.free b o e n (by simp)) (λb o _ e=>u.there b o e (by simp)) u.tups u.frzs u.tbls (λm' hm=>by
  obtain ⟨o',es',ep',ho',r'⟩:=hm;rw[ho]at ho';cases ho';exact ⟨_,es',ep',hL,r'⟩) hok I.bare
theorem Inv.call{g':Array GenState}{t':Nat}{d':Drawn}{ch:List Addr}(I:Inv X pins σ H s)(u:Un (frs X.stack) ch H H' s.heap h')(hok:HOk X.prog X.w H' h')(hg:AllBare g')
  (hch:∀b∈ch,(b∈X.ex\/X.s₀.heap.objs.size<=b)/\b≠X.env.locals/\(∀x c,X.env.cells.lookup x=some c->c≠b)/\∀p∈X.pn++pins,p.1≠b):
  Inv X pins σ H' { s with heap:=h',gens:=g',drawn:=d',toks:=t' }:=by
 obtain ⟨m,⟨o,es,ep,ho,r⟩,_⟩:=id I.loc;obtain ⟨sl,hL⟩:=u.any ho I.free λz=>(hch _ z).2.1 rfl;exact I.step (ch:=ch) hch (λb o hL hb hc e n=>u.keep b o e n (λz=>(bi.mp (I.stkSub b z)).elim hL hb) hc) (λb o _ _ hc e n=>u.any e n hc) (λb o hc e n=>u.free b o e n hc) (λb o hc e=>u.there b o e hc) u.tups u.frzs u.tbls (λm' hm=>by
  obtain ⟨o',es',ep',ho',r'⟩:=hm;rw[ho]at ho';cases ho';exact ⟨_,es',ep',hL,r'⟩) hok hg
theorem Inv.turned{t':Nat}{it:Addr}(I:Inv X pins σ H s)(k:∀b o,b≠it->s.heap.get? b=some o->h'.get? b=some o)(hn:H it=none)(hL:it≠X.env.locals)
  (h1:it∈X.ex\/X.s₀.heap.objs.size<=it) (h2:∀x c,X.env.cells.lookup x=some c->c≠it) (h3:∀p∈X.pn++pins,p.1≠it):Inv X pins σ H { s with heap:=h',toks:=t' }:=by
 have nit:∀b u,H b=some u->b≠it:=λb u e z=>by rw[z,hn]at e;cases e
 refine I.step (g':=s.gens) (d':=s.drawn) (ch:=[it]) (λb hb=>?_) (λb o _ _ hc e _=>k b o (λz=>hc (by simp[z])) e) (λb o _ _ hc e _=>⟨o.slots,k b o (λz=>hc (by simp[z])) e⟩) (λ_ _ _ _ n=>n)
  (λb o hc e=>⟨o,k b o (λz=>hc (by simp[z])) e⟩) (λ_ _ e=>e) (λ_ _ _ e=>e) (λb ps e=>⟨#[],by rw[e];simp⟩) (λm hm=>?_) (λb u e=>?_) I.bare
 ·have e:b=it:=by simpa using hb
  subst e;exact ⟨h1,hL,h2,h3⟩
 ·obtain ⟨o,es,ep,ho,r⟩:=hm;exact ⟨o,es,ep,k _ o (Ne.symm hL) ho,r⟩
 ·refine (I.hok b u e).stay (λc v hc q=>k c v ?_ q) (λ_ q=>q) λ_ _ q=>q;rcases hc with z |z
  ·rw[z];exact nit b u e
  ·exact nit c _ z
theorem Inv.tok(I:Inv X pins σ H s)(t:Nat):Inv X pins σ H { s with toks:=t }:=I.un (h':=s.heap) (t':=t) Un.refl I.hok
theorem Inv.kept{t':Nat}(I:Inv X pins σ H s)(k:∀b u,s.heap.get? b=some u->h'.get? b=some u):Inv X pins σ H { s with heap:=h',toks:=t' }:=I.un (Un.kept k) (I.hok.kept k)
theorem Inv.laid{a:Addr}{o:HO}{t':Nat}(I:Inv X pins σ H s)(k:∀b u,s.heap.get? b=some u->h'.get? b=some u)(hp:s.heap.objs.size<=a)(new:ObjOk X.prog X.w (upd H a o) h' a o):
  Inv X pins σ (upd H a o) { s with heap:=h',toks:=t' }:=I.un (Un.laid k hp (I.hok.fresh hp)) (I.hok.laid k hp new)
theorem Inv.write{x e:Addr}{o:HO}{t':Nat}(I:Inv X pins σ H s)(mu:Mut (H x))(he:e=x\/H e=some (.own x))(k:∀b u,b≠e->s.heap.get? b=some u->h'.get? b=some u)(heo:∃u,h'.get? e=some u)
  (new:ObjOk X.prog X.w (upd H x o) h' x o):Inv X pins σ (upd H x o) { s with heap:=h',toks:=t' }:=I.un (Un.write mu he k heo) (I.hok.write mu he k heo new)
theorem Inv.pins_of{pins':List (Addr×Obj)}(I:Inv X pins σ H s)(h:∀p∈pins',s.heap.get? p.1=some p.2/\H p.1=none/\p.1≠X.env.locals/\p.1∉X.fs/\∀v,p.2.data≠.cell v):Inv X pins' σ H s:=
 ⟨I.ok,I.os,I.bare,I.base,I.loc,I.cell,I.free,I.freeC,λp hp=>(ba.mp hp).elim (λz=>I.pin p (df _ z)) (h p),I.hok,I.len⟩
theorem Ca{N:List Str}(hN:N.Nodup){i j:Nat}{x:Str}(a:N[i]?=some x)(b:N[j]?=some x):i=j:=by obtain ⟨h1,e1⟩:=am.mp a;obtain ⟨h2,e2⟩:=am.mp b;exact (List.getElem_inj hN).mp (e1.trans e2.symm)
theorem Wd{M:Model}{A:Around}{E:Value->Shared->Prop}{i:Nat}{x:Str}{v:V}{u:Value}{Q:Unit->Shared->Prop}(I:Inv X pins σ H s)(hN:X.N.Nodup)(hi:X.N[i]?=some x)(hx:Loc X.env.scope x)(r:RelV v u)
  (h:∀s',Inv X pins (σ.set i (some v)) H s'->(∃a,Heap.SameBut a s.heap s'.heap/\(a=X.env.locals\/X.env.cells.lookup x=some a))->Q () s') (hf:X.fn x=true\/X.env.scope.names.lookup x=some .local:=by first |exact .inl rfl |exact .inr rfl |assumption):wpAny M A (storeName X.env x u) Q E s:=by
 obtain ⟨m,hn,hl⟩:=id I.loc;have hcls:(X.env.scope.kind==.class||(X.env.scope.kind==.module&&X.env.locals != X.env.globals))=false:=by rw[I.ok.kind];rfl
 have hiσ:i < σ.length:=by rw[I.len];exact (am.mp hi).1
 have cne:=I.cne;have tracked:∀{a:Addr}{h':Heap},(∃o,s.heap.get? a=some o/\H a=none)->Heap.SameBut a s.heap h'->HOk X.prog X.w H h':=λ{a h'} ha hs b ob e=>by
  obtain ⟨_,_,hfree⟩:=ha;refine (I.hok b ob e).stay (λc w' hc q=>(hs.2 c ?_).trans q) (λ_ q=>q) λ_ _ q=>q;rintro rfl;rcases hc with rfl |hc
  ·rw[hfree]at e;cases e
  ·rw[hfree]at hc;cases hc
 rcases hx with hk |hk
 ·refine wpAny_storeName_local hk hn (λh' hn' hs=>?_) hcls;obtain ⟨oL,_,_,hoL,_⟩:=id hn;refine h _ ⟨I.ok,I.os,I.bare,⟨λb o e n hb hx=>?_,λb o e n hb hx=>?_,I.base.free,λb o e hx=>?_,I.base.tups,I.base.frzs,I.base.tbls⟩,⟨_,hn',λj y v' e1 e2 e3=>?_⟩,λy c e=>?_,I.free,I.freeC,λp hp=>?_,tracked ⟨oL,hoL,I.free⟩ hs,by simpa using I.len⟩ ⟨_,hs,.inl rfl⟩
  ·exact (hs.2 b (cq (bq (aI e) I.ok.above))).trans (I.base.keep b o e n hb hx)
  ·obtain ⟨sl,e1⟩:=I.base.slot b o e n hb hx;exact ⟨sl,(hs.2 b (cq (bq (aI e) I.ok.above))).trans e1⟩
  ·obtain ⟨o',e1⟩:=I.base.there b o e hx;exact ⟨o',(hs.2 b (cq (bq (aI e) I.ok.above))).trans e1⟩
  ·by_cases hj:j=i
   ·subst hj;rw[hi]at e1;cases e1;rw[List.getElem?_set_self hiσ]at e2;cases e2;exact ⟨u,r,.inl ⟨hk,by simp⟩⟩
   ·rw[List.getElem?_set_ne (Ne.symm hj)]at e2;obtain ⟨u',r',q⟩:=hl j y v' e1 e2 e3;refine ⟨u',r',?_⟩;rcases q with ⟨k,e⟩ |⟨k,c,e,z⟩
    ·refine .inl ⟨k,?_⟩;have:y≠x:=λe=>hj (Ca hN e1 (e ▸ hi));simp[this,e]
    ·exact .inr ⟨k,c,e,z.sameBut hs (cne y c e)⟩
  ·obtain ⟨w',z⟩:=I.cell y c e;exact ⟨w',z.sameBut hs (cne y c e)⟩
  ·obtain ⟨e,n,ne,nf,d⟩:=I.pin p hp;exact ⟨(hs.2 p.1 ne).trans e,n,ne,nf,d⟩
 ·have hfn:X.fn x=true:=by
   rcases hf with z |z
   ·exact z
   ·rw[z]at hk;cases hk
  obtain ⟨c,hc⟩:=I.ok.has x (.inl hk);obtain ⟨w',z⟩:=I.cell x c hc;refine wpAny_storeName_cell I.ok.kind hk hc z (λh' hc' hs=>?_);obtain ⟨oc,hoc,hocd⟩:=id z;refine h { s with heap:=h' } ⟨I.ok,I.os,I.bare,⟨λb o e n hb hx=>?_,λb o e n hb hx=>?_,I.base.free,λb o e hx=>?_,I.base.tups,I.base.frzs,I.base.tbls⟩,⟨m,hn.sameBut hs (Ne.symm (cne x c hc)),λj y v' e1 e2 e3=>?_⟩,λy c' e=>?_,I.free,I.freeC,λp hp=>?_,tracked ⟨oc,hoc,I.freeC x c hc⟩ hs,by simpa using I.len⟩ ⟨c,hs,.inr hc⟩
  ·exact (hs.2 b (cq (bq (aI e) (I.ok.cab x c hfn hc)))).trans (I.base.keep b o e n hb hx)
  ·obtain ⟨sl,e1⟩:=I.base.slot b o e n hb hx;exact ⟨sl,(hs.2 b (cq (bq (aI e) (I.ok.cab x c hfn hc)))).trans e1⟩
  ·obtain ⟨o',e1⟩:=I.base.there b o e hx;exact ⟨o',(hs.2 b (cq (bq (aI e) (I.ok.cab x c hfn hc)))).trans e1⟩
  ·by_cases hj:j=i
   ·subst hj;rw[hi]at e1;cases e1;rw[List.getElem?_set_self hiσ]at e2;cases e2;exact ⟨u,r,.inr ⟨.inl hk,c,hc,hc'⟩⟩
   ·rw[List.getElem?_set_ne (Ne.symm hj)]at e2;obtain ⟨u',r',q⟩:=hl j y v' e1 e2 e3;refine ⟨u',r',?_⟩;rcases q with q |⟨k,c',e,z'⟩
    ·exact .inl q
    ·refine .inr ⟨k,c',e,z'.sameBut hs ?_⟩;rintro rfl;exact hj (Ca hN e1 (I.ok.inj _ _ _ e hc ▸ hi))
  ·by_cases hcc:c'=c
   ·subst hcc;exact ⟨_,hc'⟩
   ·obtain ⟨w2,z2⟩:=I.cell y c' e;exact ⟨w2,z2.sameBut hs hcc⟩
  ·obtain ⟨e,n,ne,nf,d⟩:=I.pin p hp;refine ⟨(hs.2 p.1 ?_).trans e,n,ne,nf,d⟩;intro q;rw[q,hoc]at e;have q':oc=p.2:=dv e;exact d w' (by rw[<-q'];exact hocd)
theorem qw{M:Model}{A:Around}{E:Value->Shared->Prop}{i:Nat}{x:Str}{v:V}{u:Value}{Q:Unit->Shared->Prop}(I:Inv X pins σ H s)(hN:X.N.Nodup)(hi:X.N[i]?=some x)(hx:Loc X.env.scope x)(r:RelV v u)
  (h:∀s',Inv X pins (σ.set i (some v)) H s'->Q () s') (hf:X.fn x=true\/X.env.scope.names.lookup x=some .local:=by first |exact .inl rfl |exact .inr rfl |assumption):wpAny M A (storeName X.env x u) Q E s:=
 Wd I hN hi hx r (λs' I' _=>h s' I') hf
theorem Inv.call'{s':Shared}{ch:List Addr}(I:Inv X pins σ H s)(ho:s'.os=s.os)(u:Un (frs X.stack) ch H H' s.heap s'.heap)(hok:HOk X.prog X.w H' s'.heap)(hg:AllBare s'.gens)
  (hch:∀b∈ch,(b∈X.ex\/X.s₀.heap.objs.size<=b)/\b≠X.env.locals/\(∀x c,X.env.cells.lookup x=some c->c≠b)/\∀p∈X.pn++pins,p.1≠b):Inv X pins σ H' s':=by
 obtain ⟨h',g',d',t',o'⟩:=s';have e:o'=s.os:=ho;subst e;exact I.call (g':=g') (t':=t') (d':=d') u hok hg hch
end
abbrev XK:=Value->Option Addr->Hp->Prop
abbrev St:=List (Option V)
abbrev VK:=V->Hp->Prop
abbrev TE:=St->Hp->VK->Prop
abbrev TT:=St->Hp->(Bool->Hp->Prop)->Prop
abbrev TA:=St->Hp->(List V->Hp->Prop)->Prop
structure Ends where
 nx:St->Hp->Prop
 rt:VK
 bk:St->Hp->Prop:=λ_ _=>False
 ct:St->Hp->Prop:=λ_ _=>False
abbrev TS:=Ends->St->Hp->Prop
def EP(X:Cx)(pins:List (Addr×Obj))(σ:St)(Q:VK)(u:Value)(s':Shared):Prop:=∃v H',Inv X pins σ H' s'/\RelV v u/\Q v H'
def TP(X:Cx)(pins:List (Addr×Obj))(σ:St)(Q:Bool->Hp->Prop)(b:Bool)(s':Shared):Prop:=∃H',Inv X pins σ H' s'/\Q b H'
def AP(X:Cx)(pins:List (Addr×Obj))(σ:St)(Q:List V->Hp->Prop)(us:List Value)(s':Shared):Prop:=∃vs H',Inv X pins σ H' s'/\Vals vs us/\Q vs H'
def SP(X:Cx)(pins:List (Addr×Obj))(D:Ends)(f:Flow)(s':Shared):Prop:=
 match f with
 |.next=>∃σ' H',Inv X pins σ' H' s'/\D.nx σ' H'
 |.brk=>∃σ' H',Inv X pins σ' H' s'/\D.bk σ' H'
 |.cont=>∃σ' H',Inv X pins σ' H' s'/\D.ct σ' H'
 |.ret u=>∃v σ' H',Inv X pins σ' H' s'/\RelV v u/\D.rt v H'
def PE(X:Cx)(e:Expr)(t:TE):Prop:=
 ∀(pins:List (Addr×Obj))(s:Shared)(σ:St)(H:Hp)(Q:VK),Inv X pins σ H s->t σ H Q->wpAny (model X.prog X.w) X.A (eval e X.env) (EP X pins σ Q) X.xe s
def PT(X:Cx)(e:Expr)(t:TT):Prop:=
 ∀(pins:List (Addr×Obj))(s:Shared)(σ:St)(H:Hp)(Q:Bool->Hp->Prop),Inv X pins σ H s->t σ H Q->wpAny (model X.prog X.w) X.A (isTrue e X.env (eval e X.env)) (TP X pins σ Q) X.xe s
def PW(X:Cx)(e:Expr)(t:TT):Prop:=
 ∀(whole:Sem Value)(pins:List (Addr×Obj))(s:Shared)(σ:St)(H:Hp)(Q:Bool->Hp->Prop),Inv X pins σ H s->t σ H Q->wpAny (model X.prog X.w) X.A (isTrue e X.env whole) (TP X pins σ Q) X.xe s
theorem PW.pt{X:Cx}{e:Expr}{t:TT}(h:PW X e t):PT X e t:=h _
def PA(X:Cx)(es:List Expr)(t:TA):Prop:=
 ∀(pos:Pos)(pins:List (Addr×Obj))(s:Shared)(σ:St)(H:Hp)(Q:List V->Hp->Prop),Inv X pins σ H s->t σ H Q->wpAny (model X.prog X.w) X.A (spliced (backTo pos (starEach es X.env))) (AP X pins σ Q) X.xe s
def PS(X:Cx)(st:Stmt)(t:TS):Prop:=
 ∀(pins:List (Addr×Obj))(s:Shared)(σ:St)(H:Hp)(D:Ends),Inv X pins σ H s->t D σ H->wpAny (model X.prog X.w) X.A (exec st X.env) (SP X pins D) X.xe s
def PSs(X:Cx)(st:List Stmt)(t:TS):Prop:=
 ∀(pins:List (Addr×Obj))(s:Shared)(σ:St)(H:Hp)(D:Ends),Inv X pins σ H s->t D σ H->wpAny (model X.prog X.w) X.A (execs st X.env) (SP X pins D) X.xe s
theorem thn{α:Type}{t:Sem α}{Q Q':α->Shared->Prop}{M:Model}{A:Around}{E:Value->Shared->Prop}{s:Shared}(h:wpAny M A t Q E s)(hQ:∀a s,Q a s->Q' a s):wpAny M A t Q' E s:=cS h hQ λ_ _ x=>x
section
variable {X:Cx}
theorem bin{a b:Expr}{ta tb:TE}(ha:PE X a ta)(hb:PE X b tb){pins:List (Addr×Obj)}{s:Shared}{σ:St}{H:Hp}{R:V->V->Hp->Prop}(I:Inv X pins σ H s)(h:ta σ H λx H1=>tb σ H1 λy H2=>R x y H2)
  {α:Type} {Q:α->Shared->Prop} {f:Value->Value->Sem α}
  (hf:∀v u s2 x y H2,Inv X pins σ H2 s2->RelV x v->RelV y u->R x y H2->wpAny (model X.prog X.w) X.A (f v u) Q X.xe s2):
  wpAny (model X.prog X.w) X.A (eval a X.env) (λv s₁=>wpAny (model X.prog X.w) X.A (eval b X.env) (λu s₂=>wpAny (model X.prog X.w) X.A (f v u) Q X.xe s₂) X.xe s₁) X.xe s:=by
 refine thn (ha pins s σ H _ I h) λv s1 ⟨x,H1,I1,r1,q1⟩=>?_;refine thn (hb pins s1 σ H1 _ I1 q1) λu s2 ⟨y,H2,I2,r2,q2⟩=>?_;exact hf v u s2 x y H2 I2 r1 r2 q2
def Cd(i:Nat):TE:=λσ H Q=>∃v,σ[i]?=some (some v)/\Q v H
def tC(v:V):TE:=λ_ H Q=>Q v H
theorem Ce {i:Nat} {x:Str} {pos:Pos} (hN:X.N[i]?=some x) (hv:Vis X.env.scope x) (hd:(x==("__debug__":Str))=false:=by decide) (hcd:(x==("__classdict__":Str))=false:=by decide):PE X (.Name x pos) (Cd i):=by
 intro pins s σ H Q I h;obtain ⟨v,e,h⟩:=h;obtain ⟨m,hn,hl⟩:=I.loc;obtain ⟨u,r,l⟩:=hl i x v hN e hv;have fin:EP X pins σ Q u s:=⟨v,H,I,r,h⟩;rcases l with ⟨hk,hm⟩ |⟨hk,c,hc,hcell⟩
 ·exact wpAny_Name (wpAny_loadName_local I.ok.kind hk hn hm fin) hd
 ·rcases hk with hk |hk
  ·exact wpAny_Name (wpAny_loadName_cell I.ok.kind hk hc hcell fin) hd
  ·exact wpAny_Name (wpAny_loadName_free I.ok.kind hk hc hcell fin hcd) hd
theorem We{i j pos}:PE X (.Constant (.int i) j pos) (tC (.int i)):=λ_ _ _ H _ I h=>wpAny_Constant_int ⟨.int i,H,I.tok _,⟨_,rfl⟩,h⟩
theorem Cg{b j pos}:PE X (.Constant (.bool b) j pos) (tC (.bl b)):=λ_ _ _ H _ I h=>Constant_bool ⟨.bl b,H,I,rfl,h⟩
theorem Wf{j pos}:PE X (.Constant .none j pos) (tC .non):=λ_ _ _ H _ I h=>Constant_none ⟨.non,H,I,rfl,h⟩
theorem Ci{x j pos}:PE X (.Constant (.str x) j pos) (tC (.str x)):=λ_ _ _ H _ I h=>Calls.Constant_str ⟨.str x,H,I.tok _,⟨_,rfl⟩,h⟩
def Gl(X:Cx)(x:Str):Prop:=X.env.kindOf x=some .globalImplicit
theorem j7{E:Value->Shared->Prop}{pins:List (Addr×Obj)}{s:Shared}{σ:St}{H:Hp}{x:Str}{u:Value}{pos:Pos}{Q:Value->Shared->Prop}(I:Inv X pins σ H s)(hg:Gl X x)(hm:X.mg x=some u)(h:Q u s)
  (hd:(x==("__debug__":Str))=false:=by decide):wpAny (model X.prog X.w) X.A (eval (.Name x pos) X.env) Q E s:=
 Calls.Name_function_global I.ok.kind hg (Calls.loadGlobal_global (by rw[I.ok.glob];exact I.mod.glob.keeps I.bk) hm h) hd
theorem jh{E:Value->Shared->Prop}{pins:List (Addr×Obj)}{s:Shared}{σ:St}{H:Hp}{x:Str}{u:Value}{pos:Pos}{Q:Value->Shared->Prop}(I:Inv X pins σ H s)(hg:Gl X x)(hm:X.mg x=none)(hv:bootBuiltins x=some u)(h:Q u s)
  (hn:x≠"__name__":=by decide) (hd:(x==("__debug__":Str))=false:=by decide):wpAny (model X.prog X.w) X.A (eval (.Name x pos) X.env) Q E s:=by
 obtain ⟨mb,h1,h2⟩:=I.mod.blt;exact Calls.Name_function_global I.ok.kind hg (Calls.loadGlobal_builtin (by rw[I.ok.glob];exact I.mod.glob.keeps I.bk) hm (by rw[I.ok.blt];exact h1.keeps I.bk) ((h2 x hn).trans hv) h) hd
theorem Wg {x:Str} {v:V} {u:Value} {pos:Pos} (hg:Gl X x) (hm:X.mg x=some u) (r:RelV v u) (hd:(x==("__debug__":Str))=false:=by decide):PE X (.Name x pos) (tC v):=
 λ_ _ _ H _ I h=>j7 I hg hm ⟨v,H,I,r,h⟩ hd
theorem Wh {x:Str} {v:V} {u:Value} {pos:Pos} (hg:Gl X x) (hm:X.mg x=none) (hv:bootBuiltins x=some u) (r:RelV v u) (hn:x≠"__name__":=by decide) (hd:(x==("__debug__":Str))=false:=by decide):PE X (.Name x pos) (tC v):=
 λ_ _ _ H _ I h=>jh I hg hm hv ⟨v,H,I,r,h⟩ hn hd
variable {a b:Expr} {ta tb:TE} {pos:Pos}
variable {tA tB':TT} {rest:List Expr}
def Wi(t u:TT):TT:=λσ H Q=>t σ H λc H1=>if c=true then u σ H1 Q else Q false H1
def tOr(t u:TT):TT:=λσ H Q=>t σ H λc H1=>if c=true then Q true H1 else u σ H1 Q
def Wj(t:TT):TT:=λσ H Q=>t σ H λc H1=>Q (!c) H1
theorem Wk(ha:PT X a tA):PW X (.BoolOp .And [a] pos) tA:=by
 intro wh pins s σ H Q I h;refine isTrue_and (thn (ha pins s σ H Q I h) λc s1 e=>?_);cases c with
 |true=>exact isTrue_and_nil e
 |false=>exact e
theorem Wl(ha:PT X a tA):PW X (.BoolOp .Or [a] pos) tA:=by
 intro wh pins s σ H Q I h;refine isTrue_or (thn (ha pins s σ H Q I h) λc s1 e=>?_);cases c with
 |false=>exact isTrue_or_nil e
 |true=>exact e
theorem Wm(ha:PT X a tA)(hb:PW X (.BoolOp .And (b::rest) pos) tB'):PW X (.BoolOp .And (a::b::rest) pos) (Wi tA tB'):=by
 intro wh pins s σ H Q I h;refine isTrue_and (thn (ha pins s σ H _ I h) λc s1 ⟨H1,I1,q1⟩=>?_);cases c with
 |true=>exact hb wh pins s1 σ H1 Q I1 q1
 |false=>exact ⟨H1,I1,q1⟩
theorem Wn(ha:PT X a tA)(hb:PW X (.BoolOp .Or (b::rest) pos) tB'):PW X (.BoolOp .Or (a::b::rest) pos) (tOr tA tB'):=by
 intro wh pins s σ H Q I h;refine isTrue_or (thn (ha pins s σ H _ I h) λc s1 ⟨H1,I1,q1⟩=>?_);cases c with
 |true=>exact ⟨H1,I1,q1⟩
 |false=>exact hb wh pins s1 σ H1 Q I1 q1
theorem Wo(ha:PT X a tA):PT X (.UnaryOp .Not a pos) (Wj tA):=by intro pins s σ H Q I h;exact isTrue_not (ha pins s σ H (λc H1=>Q (!c) H1) I h)
def Wq(ta tb:TE):TE:=λσ H Q=>ta σ H λx H1=>∃c,x=.bl c/\if c=true then tb σ H1 Q else Q (.bl false) H1
def Wr(ta tb:TE):TE:=λσ H Q=>ta σ H λx H1=>∃c,x=.bl c/\if c=true then Q (.bl true) H1 else tb σ H1 Q
theorem Ws{op}{t:TE}(h:PE X a t):PE X (.BoolOp op [a] pos) t:=λpins s σ H Q I hw=>BoolOp_one (h pins s σ H Q I hw)
theorem Wt(ha:PE X a ta)(hb:PE X (.BoolOp .And (b::rest) pos) tb):PE X (.BoolOp .And (a::b::rest) pos) (Wq ta tb):=by
 intro pins s σ H Q I h;refine BoolOp_and (thn (ha pins s σ H _ I h) λv s1 ⟨x,H1,I1,r1,q1⟩=>?_);obtain ⟨c,rfl,q1⟩:=q1;cases r1;refine ej ?_;cases c with
 |true=>exact hb pins s1 σ H1 Q I1 q1
 |false=>exact ⟨.bl false,H1,I1,rfl,q1⟩
theorem Wu(ha:PE X a ta)(hb:PE X (.BoolOp .Or (b::rest) pos) tb):PE X (.BoolOp .Or (a::b::rest) pos) (Wr ta tb):=by
 intro pins s σ H Q I h;refine BoolOp_or (thn (ha pins s σ H _ I h) λv s1 ⟨x,H1,I1,r1,q1⟩=>?_);obtain ⟨c,rfl,q1⟩:=q1;cases r1;refine ej ?_;cases c with
 |false=>exact hb pins s1 σ H1 Q I1 q1
 |true=>exact ⟨.bl true,H1,I1,rfl,q1⟩
def tIf(t:TT)(ta tb:TE):TE:=λσ H Q=>t σ H λc H1=>if c=true then ta σ H1 Q else tb σ H1 Q
theorem Wv{c:Expr}(hc:PT X c tA)(ha:PE X a ta)(hb:PE X b tb):PE X (.IfExp c a b pos) (tIf tA ta tb):=by
 intro pins s σ H Q I h;refine wpAny_IfExp (thn (hc pins s σ H _ I h) λd s1 ⟨H1,I1,q1⟩=>?_);cases d with
 |true=>exact ha pins s1 σ H1 Q I1 q1
 |false=>exact hb pins s1 σ H1 Q I1 q1
end
def SqL(K:PF)(H:Hp)(a:Addr)(xs:List V):Prop:=
 Rd H a (.lst xs)\/
  ∃(o:Obj) (its:Array Value) (n:Nat),K.lookup a=some o/\o.cls=.type "list"/\o.dict=none/\o.data=.seq its n/\its.size<=sizeLine/\Vals xs its.toList
def SqT(K:PF)(H:Hp)(a:Addr)(xs:List V):Prop:=
 Rd H a (.tup xs)\/
  ∃(o:Obj) (its:Array Value) (n:Nat),K.lookup a=some o/\o.cls=.type "tuple"/\o.data=.seq its n/\its.size<=sizeLine/\Vals xs its.toList
noncomputable def Ww:Value->Option V
 |.none=>some .non
 |.bool b=>some (.bl b)
 |.int i _=>some (.int i)
 |.str x _=>some (.str x)
 |.bytes b _=>some (.byt b)
 |.float b _=>some (.flt b)
 |.ref a=>some (.ref a)
 |.type n=>some (.ty n)
 |_=>none
theorem RelV.abs{x:V}{u:Value}(r:RelV x u):Ww u=some x:=by
 cases x with
 |non=>cases r;rfl
 |bl _=>cases r;rfl
 |int _=>obtain ⟨t,rfl⟩:=r;rfl
 |str _=>obtain ⟨t,rfl⟩:=r;rfl
 |byt _=>obtain ⟨t,rfl⟩:=r;rfl
 |flt _=>obtain ⟨t,rfl⟩:=r;rfl
 |ref _=>cases r;rfl
 |ty _=>cases r;rfl
theorem RelV.inj{x y:V}{u:Value}(r:RelV x u)(q:RelV y u):x=y:=dv (r.abs.symm.trans q.abs)
theorem Vals.inj:∀{xs ys:List V}{us:List Value},Vals xs us->Vals ys us->xs=ys
 |_,_,_,.nil,.nil=>rfl
 |_,_,_,.cons r t,.cons r' t'=>by rw[r.inj r',Vals.inj t t']
section
variable {X:Cx} {pins:List (Addr×Obj)} {σ:St} {H:Hp} {s:Shared} {a:Addr} {xs ys:List V}
theorem SqL.of{K:PF}(h:H a=some (.lst xs)):SqL K H a xs:=.inl (.inl h)
theorem SqT.of{K:PF}(h:H a=some (.tup xs)):SqT K H a xs:=.inl (.inl h)
theorem Inv.list(I:Inv X pins σ H s)(h:SqL X.K H a xs):∃its:List Value,Vals xs its/\PlainL s.heap a its.toArray/\xs.length<=sizeLine:=by
 rcases h with h |⟨o,its,n,hk,hc,hd,hs,hz,r⟩
 ·obtain ⟨z,its,n,r,e⟩:=h.ok I.hok;exact ⟨its,r,⟨_,n,e,rfl,rfl,rfl⟩,z⟩
 ·refine ⟨its.toList,r,⟨o,n,I.kIn a o hk,hc,hd,by simpa using hs⟩,?_⟩;have e:=r.length;simp only[dS]at e;omega
theorem Inv.tuple(I:Inv X pins σ H s)(h:SqT X.K H a xs):∃its:List Value,Vals xs its/\IsTup s.heap a its.toArray/\xs.length<=sizeLine:=by
 rcases h with h |⟨o,its,n,hk,hc,hs,hz,r⟩
 ·obtain ⟨z,its,r,p⟩:=h.ok I.hok;exact ⟨its,r,p,z⟩
 ·refine ⟨its.toList,r,⟨o,I.kIn a o hk,hc,n,by simpa using hs⟩,?_⟩;have e:=r.length;simp only[dS]at e;omega
theorem Inv.list_inj(I:Inv X pins σ H s)(h:SqL X.K H a xs)(h':SqL X.K H a ys):xs=ys:=by
 obtain ⟨its,r,⟨o,n,e,_,_,d⟩,_⟩:=I.list h;obtain ⟨its',r',⟨o',n',e',_,_,d'⟩,_⟩:=I.list h';rw[e]at e';cases e';rw[d]at d';injection d' with d1 _;have:its=its':=by simpa using fb Array.toList d1
 subst this;exact r.inj r'
theorem Inv.tuple_inj(I:Inv X pins σ H s)(h:SqT X.K H a xs)(h':SqT X.K H a ys):xs=ys:=by
 obtain ⟨its,r,⟨o,e,_,n,d⟩,_⟩:=I.tuple h;obtain ⟨its',r',⟨o',e',_,n',d'⟩,_⟩:=I.tuple h';rw[e]at e';cases e';rw[d]at d';injection d' with d1 _;have:its=its':=by simpa using fb Array.toList d1
 subst this;exact r.inj r'
end
abbrev Cx.wish(X:Cx)(E:Value->Shared->Prop):Cx:={ X with xe:=E }
abbrev Cx.nox(X:Cx):Cx:=X.wish λ_ _=>False
theorem Cx.Ok.wish{X:Cx}(ok:X.Ok)(E:Value->Shared->Prop):(X.wish E).Ok:=
 ⟨ok.mod,ok.kind,ok.glob,ok.blt,ok.above,ok.inj,ok.has,ok.cab,ok.hd,ok.frames,ok.stk,ok.exf,ok.bs,ok.bsz,ok.noex,ok.exfs,ok.funs,ok.frf⟩
theorem Cx.Ok.unwish{X:Cx}{E:Value->Shared->Prop}(ok:(X.wish E).Ok):X.Ok:=
 ⟨ok.mod,ok.kind,ok.glob,ok.blt,ok.above,ok.inj,ok.has,ok.cab,ok.hd,ok.frames,ok.stk,ok.exf,ok.bs,ok.bsz,ok.noex,ok.exfs,ok.funs,ok.frf⟩
section
variable {X:Cx} {pins:List (Addr×Obj)} {σ:St} {H:Hp} {s:Shared} {E:Value->Shared->Prop}
theorem Inv.wish(I:Inv X pins σ H s)(E:Value->Shared->Prop):Inv (X.wish E) pins σ H s:=⟨I.ok.wish E,I.os,I.bare,I.base,I.loc,I.cell,I.free,I.freeC,I.pin,I.hok,I.len⟩
theorem Inv.unwish(I:Inv (X.wish E) pins σ H s):Inv X pins σ H s:=⟨I.ok.unwish,I.os,I.bare,I.base,I.loc,I.cell,I.free,I.freeC,I.pin,I.hok,I.len⟩
theorem SP.unwish{D:Ends}{f:Flow}{s':Shared}(h:SP (X.wish E) pins D f s'):SP X pins D f s':=by
 cases f with
 |next=>obtain ⟨σ',H',I,q⟩:=h;exact ⟨σ',H',I.unwish,q⟩
 |brk=>obtain ⟨σ',H',I,q⟩:=h;exact ⟨σ',H',I.unwish,q⟩
 |cont=>obtain ⟨σ',H',I,q⟩:=h;exact ⟨σ',H',I.unwish,q⟩
 |ret u=>obtain ⟨v,σ',H',I,r,q⟩:=h;exact ⟨v,σ',H',I.unwish,r,q⟩
theorem PSs.nox{st:List Stmt}{t:TS}(h:PSs X.nox st t):PSs X st t:=λpins s σ H D I hw=>
 cS (h pins s σ H D (I.wish _) hw) (λ_ _ q=>q.unwish) λ_ _ z=>False.elim z
end
section
variable {X:Cx} {st:Stmt} {rest:List Stmt} {t u:TS} {e:Expr} {te:TE} {pos:Pos}
def Cj:TS:=λD σ H=>D.nx σ H
def Wx(t u:TS):TS:=λD σ H=>t { D with nx:=u D } σ H
theorem Wy:PSs X [] Cj:=λ_ _ σ H _ I h=>fR ⟨σ,H,I,h⟩
theorem Ck(h1:PS X st t)(h2:PSs X rest u):PSs X (st::rest) (Wx t u):=by
 intro pins s σ H D I h;refine gd (thn (h1 pins s σ H { D with nx:=u D } I h) λf s1 q=>?_);cases f with
 |next=>
  obtain ⟨σ',H',I',q⟩:=q;exact h2 pins s1 σ' H' D I' q
 |ret v=>exact q
 |brk=>exact q
 |cont=>exact q
theorem Cm(h1:PS X st t):PSs X [st] t:=by
 intro pins s σ H D I h;refine gd (thn (h1 pins s σ H D I h) λf s1 q=>?_);cases f with
 |next=>exact fR q
 |ret v=>exact q
 |brk=>exact q
 |cont=>exact q
def Wz:TS:=λD σ H=>D.bk σ H
def WD:TS:=λD σ H=>D.ct σ H
theorem WF:PS X (.Pass pos) Cj:=λ_ _ σ H _ I h=>wpAny_Pass ⟨σ,H,I,h⟩
theorem WK:PS X (.Break pos) Wz:=λ_ _ σ H _ I h=>wpAny_Break ⟨σ,H,I,h⟩
theorem WL:PS X (.Continue pos) WD:=λ_ _ σ H _ I h=>wpAny_Continue ⟨σ,H,I,h⟩
theorem Inv.quiet{pins:List (Addr×Obj)}{σ:St}{H:Hp}{s:Shared}(I:Inv X pins σ H s):interactive X.env=false:=by simp[interactive,I.ok.kind]
def WM(te:TE):TS:=λD σ H=>te σ H λ_ H1=>D.nx σ H1
theorem WN(he:PE X e te)(hs:swapsWith e none pos.line X.env=pure false:=by rfl):PS X (.Expr e pos) (WM te):=by intro pins s σ H D I h;exact wpAny_Expr_any (thn (he pins s σ H _ I h) λv s1 ⟨x,H1,I1,r1,q1⟩=>⟨σ,H1,I1,q1⟩) I.quiet hs
def Cp(te:TE):TS:=λD σ H=>te σ H D.rt
theorem WP(he:PE X e te):PS X (.Return (some e) pos) (Cp te):=by intro pins s σ H D I h;exact wpAny_Return_some (thn (he pins s σ H _ I h) λv s1 ⟨x,H1,I1,r1,q1⟩=>⟨x,σ,H1,I1,r1,q1⟩)
def WQ:TS:=λD _ H=>D.rt .non H
theorem WR:PS X (.Return none pos) WQ:=λ_ _ σ H _ I h=>wpAny_Return_none ⟨.non,σ,H,I,rfl,h⟩
def WT(c:TT)(t u:TS):TS:=λD σ H=>c σ H λb H1=>if b=true then t D σ H1 else u D σ H1
theorem WW{c:Expr}{a b:List Stmt}{tc:TT}(hc:PT X c tc)(ha:PSs X a t)(hb:PSs X b u):PS X (.If c a b pos) (WT tc t u):=by
 intro pins s σ H D I h;refine wpAny_If (thn (hc pins s σ H _ I h) λd s1 ⟨H1,I1,q1⟩=>?_);cases d with
 |true=>exact ha pins s1 σ H1 D I1 q1
 |false=>exact hb pins s1 σ H1 D I1 q1
def WX:TS:=λ_ _ _=>False
theorem WY:PS X st WX:=λ_ _ _ _ _ _ h=>h.elim
end
abbrev TG:=V->St->Hp->(St->Hp->Prop)->Prop
abbrev TGs:=List V->St->Hp->(St->Hp->Prop)->Prop
def PG(X:Cx)(target:Expr)(t:TG):Prop:=
 ∀(pins:List (Addr×Obj))(s:Shared)(σ:St)(H:Hp)(v:V)(u:Value)(Q:St->Hp->Prop),Inv X pins σ H s->RelV v u->t v σ H Q->
  wpAny (model X.prog X.w) X.A (assign target X.env u) (λ_ s'=>∃σ' H',Inv X pins σ' H' s'/\Q σ' H') X.xe s
def PGs(X:Cx)(ts:List Expr)(t:TGs):Prop:=
 ∀(pins:List (Addr×Obj))(s:Shared)(σ:St)(H:Hp)(vs:List V)(us:List Value)(Q:St->Hp->Prop),Inv X pins σ H s->Vals vs us->t vs σ H Q->
  wpAny (model X.prog X.w) X.A (assignInOrder ((assignEach ts X.env).map (·.2)) us) (λ_ s'=>∃σ' H',Inv X pins σ' H' s'/\Q σ' H') X.xe s
abbrev v8:=V->V->V->Hp->(Hp->Prop)->Prop
def v9(X:Cx)(t:v8):Prop:=
 ∀(pins:List (Addr×Obj))(s:Shared)(σ:St)(H:Hp)(o i v:V)(ov iv u:Value)(Q:Hp->Prop),Inv X pins σ H s->RelV o ov->RelV i iv->RelV v u->t o i v H Q->
  wpAny (model X.prog X.w) X.A (setItem ov iv u) (λ_ s'=>∃H',Inv X pins σ H' s'/\Q H') X.xe s
abbrev TIp:=V->V->Hp->VK->Prop
def PIp(X:Cx)(op:Operator)(t:TIp):Prop:=
 ∀(pins:List (Addr×Obj))(s:Shared)(σ:St)(H:Hp)(x y:V)(v u:Value)(Q:VK),Inv X pins σ H s->RelV x v->RelV y u->t x y H Q->
  wpAny (model X.prog X.w) X.A (inplaceOp op v u) (EP X pins σ Q) X.xe s
section
variable {X:Cx} {pos:Pos}
def qx(i:Nat):TG:=λv σ H Q=>Q (σ.set i (some v)) H
theorem W0{i:Nat}{x:Str}(hN:X.N.Nodup)(hi:X.N[i]?=some x)(hx:Loc X.env.scope x)(hf:X.fn x=true\/X.env.scope.names.lookup x=some .local:=by first |exact .inl rfl |exact .inr rfl |assumption):PG X (.Name x pos) (qx i):=by intro pins s σ H v u Q I r h;exact wpAny_assign_Name (qw I hN hi hx r (λs' I'=>⟨_,H,I',h⟩) hf)
def W2:TGs:=λvs σ H Q=>vs=[]/\Q σ H
def W3(t:TG)(u:TGs):TGs:=λvs σ H Q=>∃v r,vs=v::r/\t v σ H λσ' H'=>u r σ' H' Q
theorem W4:PGs X [] W2:=by intro pins s σ H vs us Q I r h;obtain ⟨e,h⟩:=h;subst e;cases r;exact assignInOrder_nil ⟨σ,H,I,h⟩
theorem W5{e:Expr}{es:List Expr}{t:TG}{u:TGs}(h1:PG X e t)(h2:PGs X es u)
  (hs:(assignEach (e::es) X.env).map (·.2)=assign e X.env::(assignEach es X.env).map (·.2):=by rfl):PGs X (e::es) (W3 t u):=by
 intro pins s σ H vs us Q I r h;obtain ⟨v,vr,e1,h⟩:=h;subst e1;cases r with
 |cons r rr=>
  rw[hs];refine assignInOrder_cons (thn (h1 pins s σ H _ _ _ I r h) λ_ s1 ⟨σ1,H1,I1,q1⟩=>?_);exact h2 pins s1 σ1 H1 _ _ Q I1 rr q1
def W6(K:PF)(n:Nat)(t:TGs):TG:=λv σ H Q=>∃a xs,v=.ref a/\SqT K H a xs/\xs.length=n/\t xs σ H Q
theorem W7{es:List Expr}{k:Nat}{t:TGs}{n:Nat}(hc:X.calm=true)(h:PGs X es t)
  (hn:(assignEach es X.env).length=n:=by rfl) (hst:(assignEach es X.env).findIdx? (·.1)=none:=by rfl):PG X (.Tuple es k pos) (W6 X.K n t):=by
 intro pins s σ H v u Q I r hw;obtain ⟨a,xs,e1,hq,hl,hw⟩:=hw;subst e1;cases r;obtain ⟨its,rv,ht,hz⟩:=I.tuple hq;refine assign_Tuple_tuple (I.ok.hd hc) ht (by simp[hn,<-hl,rv.length]) hst λh' hx=>?_;have I1:Inv X pins σ H { s with heap:=h' }:=I.kept (t':=s.toks) λb o e=>hx b o (cq (aI e)) e;exact h pins _ σ H xs _ Q I1 (by simpa using rv) hw
def W8(to ti:TE)(t:v8):TG:=λv σ H Q=>to σ H λo H1=>ti σ H1 λi H2=>t o i v H2 λH3=>Q σ H3
theorem W9{o i:Expr}{to ti:TE}{t:v8}(ho:PE X o to)(hi:PE X i ti)(hs:v9 X t)
  (ha:∀v,assign (.Subscript o i pos) X.env v=(do
   let ov <-holding [v] (eval o X.env)
   let iv <-holding [v,ov] (eval i X.env)
   standAt pos
   holding [v,ov,iv] (setItem ov iv v)
   release [v,ov,iv] []):=by intro _;rfl):PG X (.Subscript o i pos) (W8 to ti t):=by
 intro pins s σ H v u Q I r h;rw[ha];refine ah (e6 (thn (ho pins s σ H _ I h) λov s1 ⟨x,H1,I1,r1,q1⟩=>?_));refine ah (e6 (thn (hi pins s1 σ H1 _ I1 q1) λiv s2 ⟨y,H2,I2,r2,q2⟩=>?_));refine ah (wpAny_standAt (ah (e6 (thn (hs pins s2 σ H2 x y v ov iv u _ I2 r1 r2 r q2) λ_ s3 ⟨H3,I3,q3⟩=>?_))));exact wpAny_release ⟨σ,H3,I3,q3⟩
def qy(te:TE)(g:TG):TS:=λD σ H=>te σ H λx H1=>g x σ H1 D.nx
theorem Cq{tg e:Expr}{te:TE}{g:TG}(he:PE X e te)(hg:PG X tg g)(hs:swapsWithSole [tg] e pos.line X.env=pure false:=by rfl)(hw:swappedStores [tg] e X.env=pure none:=by rfl)
  (h1:(assignEach [tg] X.env).map (·.2)=[assign tg X.env]:=by rfl):PS X (.Assign [tg] e pos) (qy te g):=by
 intro pins s σ H D I h;refine wpAny_Assign_stores (thn (he pins s σ H _ I h) λv s1 ⟨x,H1,I1,r1,q1⟩=>?_) hs hw;rw[h1];exact thn (hg pins s1 σ H1 x v _ I1 r1 q1) λ_ s2 q=>q
theorem wg{i:Nat}{x:Str}{e:Expr}{te:TE}{pos':Pos}(hN:X.N.Nodup)(hi:X.N[i]?=some x)(hx:Loc X.env.scope x)(he:PE X e te)(hs:swapsWith e (some (.Name x pos')) pos.line X.env=pure false:=by rfl)(hf:X.fn x=true\/X.env.scope.names.lookup x=some .local:=by first |exact .inl rfl |exact .inr rfl |assumption):
  PS X (.Assign [.Name x pos'] e pos) (qy te (qx i)):=by
 intro pins s σ H D I h;refine wpAny_Assign_Name (thn (he pins s σ H _ I h) λv s1 ⟨y,H1,I1,r1,q1⟩=>?_) hs;exact qw I1 hN hi hx r1 (λs2 I2=>⟨_,H1,I2,q1⟩) hf
def Xa(i:Nat)(te:TE)(ti:TIp):TS:=λD σ H=>∃x,σ[i]?=some (some x)/\te σ H λy H1=>ti x y H1 λz H2=>D.nx (σ.set i (some z)) H2
theorem Xb{i:Nat}{x:Str}{e:Expr}{te:TE}{op:Operator}{ti:TIp}{pos':Pos}(hN:X.N.Nodup)(hi:X.N[i]?=some x)(hx:Loc X.env.scope x)(he:PE X e te)(ho:PIp X op ti)(hf:X.fn x=true\/X.env.scope.names.lookup x=some .local:=by first |exact .inl rfl |exact .inr rfl |assumption):
  PS X (.AugAssign (.Name x pos') op e pos) (Xa i te ti):=by
 intro pins s σ H D I h;obtain ⟨v,e1,h⟩:=h;obtain ⟨m,hn,hl⟩:=I.loc;have vis:Vis X.env.scope x:=by rcases hx with k |k;exact .inl k;exact .inr (.inl k)
 obtain ⟨u,r,l⟩:=hl i x v hi e1 vis;refine wpAny_AugAssign_Name ?_;have go:wpAny (model X.prog X.w) X.A (eval e X.env) (λw s₂=>wpAny (model X.prog X.w) X.A (inplaceOp op u w) (λr s₃=>wpAny (model X.prog X.w) X.A (storeName X.env x r) (λ_=>SP X pins D .next) X.xe s₃) X.xe s₂) X.xe s:=by refine thn (he pins s σ H _ I h) λw s1 ⟨y,H1,I1,r1,q1⟩=>?_;refine thn (ho pins s1 σ H1 v y u w _ I1 r r1 q1) λz s2 ⟨zv,H2,I2,r2,q2⟩=>?_;exact qw I2 hN hi hx r2 (λs3 I3=>⟨_,H2,I3,q2⟩) hf
 rcases l with ⟨hk,hm⟩ |⟨hk,c,hc,hcell⟩
 ·exact wpAny_loadName_local I.ok.kind hk hn hm go
 ·rcases hk with hk |hk
  ·exact wpAny_loadName_cell I.ok.kind hk hc hcell go
  ·rcases hx with k |k
   ·have:X.env.scope.names.lookup x=some .free:=hk;rw[k]at this;cases this
   ·have:X.env.scope.names.lookup x=some .free:=hk;rw[k]at this;cases this
end
structure It where
 go:Nat->Hp->Prop
 yld:Nat->Hp->V->Hp->Prop
 stop:Nat->Hp->Prop
def eO(X:Cx)(pins:List (Addr×Obj))(H:Hp)(b:Addr):Prop:=
 H b=none/\b≠X.env.locals/\b∉X.fs/\(b∈X.ex\/X.s₀.heap.objs.size<=b)/\(∀x c,X.env.cells.lookup x=some c->c≠b)/\∀p∈X.pn++pins,p.1≠b
theorem Inv.fpOk{X:Cx}{pins:List (Addr×Obj)}{σ:St}{H H':Hp}{s:Shared}{b:Addr}(I:Inv X pins σ H s)(hb:s.heap.objs.size<=b)(hn:H' b=none):eO X pins H' b:=by
 refine ⟨hn,fI (bq I.lt hb),I.nofs hb,.inr (bv I.sz hb),λx c e z=>?_,λp hp z=>?_⟩
 ·obtain ⟨v,q⟩:=I.cell x c e;exact absurd (bq q.lt (by rw[z];exact hb)) (ee _)
 ·exact absurd (bq (aI (I.pin p hp).1) (by rw[z];exact hb)) (ee _)
structure Turn(P:Program)(w:World)(K:PF)(tg:Expr)(J:It)(fp:List Addr)(it:Addr)(tn:Nat->Heap->Prop):Prop where
 mem:it∈fp
 obj:∀i h,tn i h->∀b∈fp,∃o,h.get? b=some o/\∀v,o.data≠.cell v
 keep:∀i h h',tn i h->(∀b∈fp,∀o,h.get? b=some o->h'.get? b=some o)->tn i h'
 item:∀(X:Cx),X.prog=P->X.w=w->X.K=K->X.calm=true->∀(i:Nat)(pins:List (Addr×Obj))(s:Shared)(σ:St)(H:Hp)(E:Value->Shared->Prop),Inv X pins σ H s->(∀b∈fp,eO X pins H b)->tn i s.heap->J.go i H->
  wpAny (model P w) X.A (pyNext (.ref it)) (λr s1=>∃u,r=some u/\
   wpAny (model P w) X.A (letOwnedTupleGo tg (.ref it) u) (λ_ s2=>∃x H',Inv X pins σ H' s2/\RelV x u/\J.yld i H x H'/\tn (i+1) s2.heap/\∀b∈fp,H' b=none) E s1) E s
 done:∀(X:Cx),X.prog=P->X.w=w->X.K=K->X.calm=true->∀(i:Nat)(pins:List (Addr×Obj))(s:Shared)(σ:St)(H:Hp)(E:Value->Shared->Prop),Inv X pins σ H s->(∀b∈fp,eO X pins H b)->tn i s.heap->J.stop i H->
  wpAny (model P w) X.A (pyNext (.ref it)) (λr s1=>r=none/\Inv X pins σ H s1) E s
 self:∀(A:Around)(i:Nat)(s:Shared)(Q:Value->Shared->Prop)(E:Value->Shared->Prop),tn i s.heap->Q (.ref it) s->wpAny (model P w) A (pyIter (.ref it)) Q E s
abbrev TI:=St->Hp->(It->Hp->Prop)->Prop
def PIE(X:Cx)(pins:List (Addr×Obj))(σ:St)(tg:Expr)(R:It->Hp->Prop)(itv:Value)(s2:Shared):Prop:=
 ∃(it:Addr)(fp:List Addr)(tn:Nat->Heap->Prop)(J:It)(H':Hp),itv=.ref it/\Inv X pins σ H' s2/\Turn X.prog X.w X.K tg J fp it tn/\tn 0 s2.heap/\(∀b∈fp,eO X pins H' b)/\R J H'
def PI(X:Cx)(tg iter:Expr)(wi:TI):Prop:=
 ∀(pins:List (Addr×Obj))(s:Shared)(σ:St)(H:Hp)(R:It->Hp->Prop),Inv X pins σ H s->wi σ H R->
  wpAny (model X.prog X.w) X.A (eval iter X.env) (λv s1=>wpAny (model X.prog X.w) X.A (pyIter v) (PIE X pins σ tg R) X.xe s1) X.xe s
theorem qz{M:Model}{A:Around}{E:Value->Shared->Prop}{s:Shared}{tg:Expr}{it:Addr}{u:Value}{o:Obj}{n:String}{vs:Array Value}{Q:Unit->Shared->Prop}(ho:s.heap.get? it=some o)(hc:o.cls=.type n)(hd:o.data=.fields vs)
  (hn:["enumerate","zip","dict_itemiterator","dict_reverseitemiterator","odict_iterator","itertools.zip_longest","itertools.pairwise"].contains n=false) (hQ:Q () s):wpAny M A (letOwnedTupleGo tg (.ref it) u) Q E s:=by
 unfold letOwnedTupleGo;cases tg <;> first
  |exact bn hQ
  | (cases u <;> first
    |exact bn hQ
    | (refine ah (wpAny_load ho ?_)
       rw[hc,hd];show wpAny M A (if (["enumerate","zip","dict_itemiterator","dict_reverseitemiterator","odict_iterator","itertools.zip_longest","itertools.pairwise"].contains n&&vs[0]?==some (rawInt _))=true then _ else _) Q E s;rw[if_neg (by intro h;rw[hn,Bool.false_and]at h;cases h)];exact bn hQ))
def Itl(K:PF)(a:Addr):It:=
 ⟨λi H=>∃xs x,SqL K H a xs/\xs[i]?=some x,λi H x H'=>H'=H/\∀xs,SqL K H a xs->xs[i]?=some x,λi H=>∃xs,SqL K H a xs/\xs.length<=i⟩
def Itt(K:PF)(a:Addr):It:=
 ⟨λi H=>∃xs x,SqT K H a xs/\xs[i]?=some x,λi H x H'=>H'=H/\∀xs,SqT K H a xs->xs[i]?=some x,λi H=>∃xs,SqT K H a xs/\xs.length<=i⟩
def Itr(lo:Int)(n:Nat):It:=⟨λi _=>i < n,λi H x H'=>H'=H/\x=.int (lo+i),λi _=>n<=i⟩
theorem Cr{P:Program}{w:World}{K:PF}{tg:Expr}(a it:Addr):Turn P w K tg (Itl K a) [it] it (λi h=>h.IsListIter it a i) where
 mem:=by simp
 obj:=λi h st b hb=>by
  have e:b=it:=by simpa using hb
  subst e;obtain ⟨o,e,c,d⟩:=st;exact ⟨o,e,λv z=>by rw[d]at z;cases z⟩
 keep:=λi h h' st k=>st.at λo e=>k it (by simp) o e
 item:=by intro X hP hw hK hc i pins s σ H E I hf st hg;subst hP hw hK;obtain ⟨xs,x,hq,hx⟩:=hg;obtain ⟨its,rv,p,hz⟩:=I.list hq;obtain ⟨u,hu,ru⟩:=rv.get hx;obtain ⟨f0,f1,f2,f3,f4,f5⟩:=hf it (by simp);refine wpAny_pyNext_list_item st p.isList (x:=u) (by simpa using hu) λh' st' sb=>?_;have I1:Inv X pins σ H { s with heap:=h' }:=I.turned (t':=s.toks) (λb o hb e=>(sb.2 b hb).trans e) f0 f1 f3 f4 f5;obtain ⟨o,e,c,d⟩:=id st';exact ⟨u,rfl,qz (s:={ s with heap:=h' }) e c d (by decide) ⟨x,H,I1,ru,⟨rfl,λys hy=>by rw[I.list_inj hy hq];exact hx⟩,st',λb hb=>(hf b hb).1⟩⟩
 done:=by intro X hP hw hK hc i pins s σ H E I hf st hg;subst hP hw hK;obtain ⟨xs,hq,hx⟩:=hg;obtain ⟨its,rv,p,hz⟩:=I.list hq;obtain ⟨f0,f1,f2,f3,f4,f5⟩:=hf it (by simp);have hl:=rv.length;exact wpAny_pyNext_list_end (I.ok.hd hc) st p.isList (by simp;omega) λh' eb=>⟨rfl,I.turned (t':=s.toks) (λb o hb e=>eb b o hb e) f0 f1 f3 f4 f5⟩
 self:=λ_ _ _ _ _ st h=>wpAny_pyIter_listiter st h
theorem Cu{P:Program}{w:World}{K:PF}{tg:Expr}(a it:Addr):Turn P w K tg (Itt K a) [it] it (λi h=>h.IsTupleIter it a i) where
 mem:=by simp
 obj:=λi h st b hb=>by
  have e:b=it:=by simpa using hb
  subst e;obtain ⟨o,e,c,d⟩:=st;exact ⟨o,e,λv z=>by rw[d]at z;cases z⟩
 keep:=λi h h' st k=>st.at λo e=>k it (by simp) o e
 item:=by intro X hP hw hK hc i pins s σ H E I hf st hg;subst hP hw hK;obtain ⟨xs,x,hq,hx⟩:=hg;obtain ⟨its,rv,p,hz⟩:=I.tuple hq;obtain ⟨u,hu,ru⟩:=rv.get hx;obtain ⟨f0,f1,f2,f3,f4,f5⟩:=hf it (by simp);refine wpAny_pyNext_tuple_item st (show s.heap.IsTuple a its.toArray from p) (x:=u) (by simpa using hu) λh' st' sb=>?_;have I1:Inv X pins σ H { s with heap:=h' }:=I.turned (t':=s.toks) (λb o hb e=>(sb.2 b hb).trans e) f0 f1 f3 f4 f5;obtain ⟨o,e,c,d⟩:=id st';exact ⟨u,rfl,qz (s:={ s with heap:=h' }) e c d (by decide) ⟨x,H,I1,ru,⟨rfl,λys hy=>by rw[I.tuple_inj hy hq];exact hx⟩,st',λb hb=>(hf b hb).1⟩⟩
 done:=by intro X hP hw hK hc i pins s σ H E I hf st hg;subst hP hw hK;obtain ⟨xs,hq,hx⟩:=hg;obtain ⟨its,rv,p,hz⟩:=I.tuple hq;obtain ⟨f0,f1,f2,f3,f4,f5⟩:=hf it (by simp);have hl:=rv.length;exact wpAny_pyNext_tuple_end (I.ok.hd hc) st (show s.heap.IsTuple a its.toArray from p) (by simp;omega) λh' eb=>⟨rfl,I.turned (t':=s.toks) (λb o hb e=>eb b o hb e) f0 f1 f3 f4 f5⟩
 self:=λ_ _ _ _ _ st h=>wpAny_pyIter_tupleiter st h
theorem Xc{P:Program}{w:World}{K:PF}{tg:Expr}(it:Addr)(lo:Int)(n:Nat):Turn P w K tg (Itr lo n) [it] it (λi h=>IsRangeIter h it (lo+(i:Nat) * 1) ((n:Int) - (i:Nat)) 1) where
 mem:=by simp
 obj:=λi h st b hb=>by
  have e:b=it:=by simpa using hb
  subst e;exact ⟨_,st,λv z=>by
   have z':Data.fields _=Data.cell v:=z;cases z'⟩
 keep:=λi h h' st k=>k it (by simp) _ st
 item:=by intro X hP hw hK hc i pins s σ H E I hf st hg;subst hP hw hK;obtain ⟨f0,f1,f2,f3,f4,f5⟩:=hf it (by simp);have W:=Walks.range (prog:=X.prog) (w:=X.w) (I.ok.hd hc) it lo 1 n;refine W.item i s _ _ hg st λv h' tk hv st' kk=>?_;obtain ⟨t,rfl⟩:=hv;have I1:Inv X pins σ H { s with heap:=h',toks:=tk }:=I.turned (λb o hb e=>kk b o (by simpa using hb) e) f0 f1 f3 f4 f5;refine ⟨_,rfl,qz (s:={ s with heap:=h',toks:=tk }) (n:="range_iterator") st' rfl rfl (by decide) ⟨.int (lo+i),H,I1,⟨t,?_⟩,⟨rfl,rfl⟩,st',λb hb=>(hf b hb).1⟩⟩;rw[Int.mul_one]
 done:=by intro X hP hw hK hc i pins s σ H E I hf st hg;subst hP hw hK;obtain ⟨f0,f1,f2,f3,f4,f5⟩:=hf it (by simp);exact wpAny_pyNext_range_end (I.ok.hd hc) st (by have:n<=i:=hg;omega) λh' eb=>⟨rfl,I.turned (t':=s.toks) (λb o hb e=>eb b o hb e) f0 f1 f3 f4 f5⟩
 self:=λ_ _ _ _ _ st h=>wpAny_pyIter_rangeiter st h
section
variable {X:Cx} {tg:Expr}
theorem Xd{pins:List (Addr×Obj)}{σ:St}{H:Hp}{s:Shared}{R:It->Hp->Prop}{E:Value->Shared->Prop}{lo hi:Int}{t u v:Tok}{tk:Nat}(I:Inv X pins σ H s)(h1:-(2 ^ 62)<=lo)(h2:lo < 2 ^ 62)(h3:-(2 ^ 62)<=hi)(h4:hi < 2 ^ 62)
  (q:R (Itr lo (hi - lo).toNat) H):wpAny (model X.prog X.w) X.A (pyIter (.ref s.heap.objs.size)) (PIE X pins σ tg R) E { s with heap:=s.heap.push { cls:=.type "range",data:=.fields #[.int lo t,.int hi u,.int 1 v] },toks:=tk }:=by
 refine wpAny_pyIter_range (IsRange.new ..) (small_one h1 h2 h3 h4) ?_;have I1:Inv X pins σ H { s with heap:=s.heap.push { cls:=.type "range",data:=.fields #[.int lo t,.int hi u,.int 1 v] },toks:=tk }:=I.kept λb o e=>al _ e;refine ⟨(s.heap.push { cls:=.type "range",data:=.fields #[.int lo t,.int hi u,.int 1 v] }).objs.size,[(s.heap.push { cls:=.type "range",data:=.fields #[.int lo t,.int hi u,.int 1 v] }).objs.size],_,_,H,rfl,
  I1.kept (t':=tk) λb o e=>al _ e,Xc _ lo (hi - lo).toNat,?_,λb hb=>?_,q⟩
 ·have e1:lo+((0:Nat):Int) * 1=lo:=by simp
  have e2:(((hi - lo).toNat:Nat):Int) - ((0:Nat):Int)=Builtin.Range.rangeSize lo hi 1:=by rw[rangeSize_one];split <;> omega
  show IsRangeIter _ _ (lo+((0:Nat):Int) * 1) ((((hi - lo).toNat:Nat):Int) - ((0:Nat):Int)) 1;rw[e1,e2];exact bd _ rfl
 ·have e:b=(s.heap.push { cls:=.type "range",data:=.fields #[.int lo t,.int hi u,.int 1 v] }).objs.size:=by simpa using hb
  subst e;exact I1.fpOk (ay _) (I1.hok.fresh (ay _))
def Xe(ta:TA):TI:=λσ H R=>ta σ H λvs H1=>∃j:Int,vs=[.int j]/\-(2 ^ 62)<=j/\j < 2 ^ 62/\R (Itr 0 j.toNat) H1
theorem Xf {a:Expr} {ta:TA} {p pos:Pos} (hg:Gl X "range") (hm:X.mg "range"=none) (ha:PA X [a] ta) (hs:starEach [a] X.env=[(false,eval a X.env)]:=by rfl):PI X tg (.Call (.Name "range" p) [a] [] pos) (Xe ta):=by
 intro pins s σ H R I h;refine Call_ (jh I hg hm boot_range (fh (thn (ha pos pins s σ H _ I h) λus s1 ⟨vs,H1,I1,r1,q1⟩=>?_) hs rfl));obtain ⟨j,e,q1,q2,q⟩:=q1;subst e;cases r1 with
 |cons r rr=>
  cases rr;obtain ⟨t,rfl⟩:=r;exact call_range_1 (Xd I1 (by omega) (by omega) q1 q2 (by simpa using q))
def Xg(wi:TI)(g:TG)(tb:TS):TS:=λD σ H=>wi σ H λJ H1=>∃W:Nat->Nat->St->Hp->Prop,(∃m,W 0 m σ H1)/\∀i m σ H,W i m σ H->
 (J.stop i H/\D.nx σ H)\/(J.go i H/\∃N:St->Hp->Prop,(∀σ' H',N σ' H'->∃m',m' < m/\W (i+1) m' σ' H')/\∀x H',J.yld i H x H'->g x σ H' λσ2 H2=>tb { D with nx:=N,ct:=N,bk:=D.nx } σ2 H2)
def j8(fp:List Addr)(h:Heap):List (Addr×Obj):=fp.filterMap λb=>(h.get? b).map λo=>(b,o)
theorem qC{fp:List Addr}{h:Heap}{b:Addr}{o:Obj}(hb:b∈fp)(e:h.get? b=some o):(b,o)∈j8 fp h:=List.mem_filterMap.mpr ⟨b,hb,by rw[e];rfl⟩
theorem Xh{fp:List Addr}{h:Heap}{p:Addr×Obj}(hp:p∈j8 fp h):p.1∈fp/\h.get? p.1=some p.2:=by
 obtain ⟨b,hb,e⟩:=List.mem_filterMap.mp hp;cases q:h.get? b with
 |none=>rw[q]at e;cases e
 |some o=>
  rw[q]at e;have e':(b,o)=p:=dv e;subst e';exact ⟨hb,q⟩
theorem Inv.pinned{pins:List (Addr×Obj)}{σ:St}{H:Hp}{s:Shared}{fp:List Addr}(I:Inv X pins σ H s)(hf:∀b∈fp,eO X pins H b)(ho:∀b∈fp,∃o,s.heap.get? b=some o/\∀v,o.data≠.cell v):Inv X (pins++j8 fp s.heap) σ H s:=
 I.pins_of λp hp=>(ba.mp hp).elim (λz=>I.pin p (bg _ z)) λz=>by
  obtain ⟨hb,e⟩:=Xh z;obtain ⟨f0,f1,f2,_⟩:=hf p.1 hb;obtain ⟨o,e',d⟩:=ho p.1 hb;rw[e]at e';cases e';exact ⟨e,f0,f1,f2,d⟩
theorem Inv.unpinned{pins pl:List (Addr×Obj)}{σ:St}{H:Hp}{s:Shared}(I:Inv X (pins++pl) σ H s):Inv X pins σ H s:=I.pins_of λp hp=>I.pin p (bg _ (df _ hp))
theorem Xi{iter:Expr}{body:List Stmt}{wi:TI}{g:TG}{tb:TS}{pos:Pos}(hp:PassesOwn (model X.prog X.w) X.A X.env X.xe)(hc:X.calm=true)(hi:PI X tg iter wi)(hg:PG X tg g)(hb:PSs X body tb)
  (hs:∀x,foldedSetIterable iter X.env x=pure x:=by intro _;rfl):PS X (.For tg iter body [] pos) (Xg wi g tb):=by
 intro pins s σ H D I h;refine wpAny_For (thn (hi pins s σ H _ I h) λv s1 h1=>thn h1 λitv s2 h2=>?_) hs;obtain ⟨it,fp,tn,J,H2,e,I2,T,st2,f2,W,⟨m0,w0⟩,turn⟩:=h2;subst e
 -- what stays true of the iterator's objects through the loop
 have stat:∀{H':Hp},(∀b∈fp,H' b=none)->∀b∈fp,eO X pins H' b:=λhn b hb=>⟨hn b hb,(f2 b hb).2⟩;refine codeAny_forLoop_any (λn s'=>∃i σ' H',Inv X pins σ' H' s'/\tn i s'.heap/\(∀b∈fp,H' b=none)/\W i n σ' H') ?_ m0 ⟨0,σ,H2,I2,st2,λb hb=>(f2 b hb).1,w0⟩;rintro n s3 ⟨i,σ3,H3,I3,st3,fr3,w3⟩;rcases turn i n σ3 H3 w3 with ⟨stop,qn⟩ |⟨go,N,hN,step⟩
 ·refine wpAny_passesOwn hp (thn (T.done X rfl rfl rfl hc i pins s3 σ3 H3 X.xe I3 (stat fr3) st3 stop) λr s4 ⟨hr,I4⟩=>?_);subst hr;exact fR ⟨σ3,H3,I4,qn⟩
 ·refine wpAny_passesOwn hp (thn (T.item X rfl rfl rfl hc i pins s3 σ3 H3 X.xe I3 (stat fr3) st3 go) λr s4 ⟨u,hr,h4⟩=>?_);subst hr;refine wpAny_passesOwn hp (thn h4 λ_ s5 ⟨x,H5,I5,r5,y5,st5,fr5⟩=>?_);have I5':=I5.pinned (stat fr5) (T.obj _ _ st5);refine wpAny_passesOwn hp (thn (hg _ s5 σ3 H5 x u _ I5' r5 (step x H5 y5)) λ_ s6 ⟨σ6,H6,I6,q6⟩=>?_);refine wpAny_passesOwn hp (thn (hb _ s6 σ6 H6 _ I6 q6) λf s7 q7=>?_);have again:∀{σ7:St}{H7:Hp},Inv X (pins++j8 fp s5.heap) σ7 H7 s7->N σ7 H7->∃m,m < n/\∃i σ' H',Inv X pins σ' H' s7/\tn i s7.heap/\(∀b∈fp,H' b=none)/\W i m σ' H':=λ{σ7 H7} I7 n7=>by
   obtain ⟨m',hm,w7⟩:=hN σ7 H7 n7;refine ⟨m',hm,i+1,σ7,H7,I7.unpinned,T.keep _ _ _ st5 λb hb o e=>(I7.pin (b,o) (bg _ (bg _ (qC hb e)))).1,λb hb=>?_,w7⟩;obtain ⟨o,e,d⟩:=T.obj _ _ st5 b hb;exact (I7.pin (b,o) (bg _ (bg _ (qC hb e)))).2.1
  cases f with
  |next=>obtain ⟨σ7,H7,I7,n7⟩:=q7;exact again I7 n7
  |cont=>obtain ⟨σ7,H7,I7,n7⟩:=q7;exact again I7 n7
  |brk=>obtain ⟨σ7,H7,I7,q7⟩:=q7;exact ⟨σ7,H7,I7.unpinned,q7⟩
  |ret v=>obtain ⟨x7,σ7,H7,I7,r7,q7⟩:=q7;exact ⟨x7,σ7,H7,I7.unpinned,r7,q7⟩
end
abbrev R2:=V->V->Hp->VK->Prop
def OpR(X:Cx)(f:Value->Value->Sem Value)(r:R2):Prop:=
 ∀(pins:List (Addr×Obj))(s:Shared)(σ:St)(H:Hp)(x y:V)(v u:Value)(Q:VK),Inv X pins σ H s->RelV x v->RelV y u->r x y H Q->
  wpAny (model X.prog X.w) X.A (f v u) (EP X pins σ Q) X.xe s
def UnR(X:Cx)(f:Value->Sem Value)(r:V->Hp->VK->Prop):Prop:=
 ∀(pins:List (Addr×Obj))(s:Shared)(σ:St)(H:Hp)(x:V)(v:Value)(Q:VK),Inv X pins σ H s->RelV x v->r x H Q->
  wpAny (model X.prog X.w) X.A (f v) (EP X pins σ Q) X.xe s
def bJ(X:Cx)(f:Value)(r:List V->Hp->VK->Prop):Prop:=
 ∀(pins:List (Addr×Obj))(s:Shared)(σ:St)(H:Hp)(xs:List V)(us:List Value)(Q:VK),Inv X pins σ H s->Vals xs us->r xs H Q->
  wpAny (model X.prog X.w) X.A (call f us) (EP X pins σ Q) X.xe s
def Xj(X:Cx)(r:V->Hp->(Bool->Hp->Prop)->Prop):Prop:=
 ∀(pins:List (Addr×Obj))(s:Shared)(σ:St)(H:Hp)(x:V)(v:Value)(Q:Bool->Hp->Prop),Inv X pins σ H s->RelV x v->r x H Q->
  wpAny (model X.prog X.w) X.A (truthy v) (TP X pins σ Q) X.xe s
def tOp(r:R2)(ta tb:TE):TE:=λσ H Q=>ta σ H λx H1=>tb σ H1 λy H2=>r x y H2 Q
def tUn(r:V->Hp->VK->Prop)(ta:TE):TE:=λσ H Q=>ta σ H λx H1=>r x H1 Q
def rI(C:Int->Int->Prop)(g:Int->Int->V):R2:=λx y H Q=>∃i j,x=.int i/\y=.int j/\C i j/\Q (g i j) H
def rI0(g:Int->Int->V):R2:=λx y H Q=>∃i j,x=.int i/\y=.int j/\Q (g i j) H
def rU(g:Int->V):V->Hp->VK->Prop:=λx H Q=>∃i,x=.int i/\Q (g i) H
section
variable {X:Cx} {a b c:Expr} {ta tb tc:TE} {pos:Pos}
theorem wj(ha:PE X a ta)(hb:PE X b tb){pins:List (Addr×Obj)}{s:Shared}{σ:St}{H:Hp}{R:V->V->Hp->Prop}(I:Inv X pins σ H s)
  (h:ta σ H λx H1=>tb σ H1 λy H2=>R x y H2) {Q:Value->Shared->Prop} {f:Value->Value->Sem Value}
  (hf:∀v u s2 x y H2,Inv X pins σ H2 s2->RelV x v->RelV y u->R x y H2->wpAny (model X.prog X.w) X.A (f v u) Q X.xe s2):
  wpAny (model X.prog X.w) X.A (eval a X.env) (λv s₁=>wpAny (model X.prog X.w) X.A (eval b X.env) (λu s₂=>wpAny (model X.prog X.w) X.A (f v u) Q X.xe s₂) X.xe s₁) X.xe s:=by
 refine thn (ha pins s σ H _ I h) λv s1 ⟨x,H1,I1,r1,q1⟩=>?_;refine thn (hb pins s1 σ H1 _ I1 q1) λu s2 ⟨y,H2,I2,r2,q2⟩=>?_;exact hf v u s2 x y H2 I2 r1 r2 q2
theorem Xk{op:Operator}{r:R2}(ho:OpR X (binaryOp op) r)(ha:PE X a ta)(hb:PE X b tb):PE X (.BinOp a op b pos) (tOp r ta tb):=by intro pins s σ H Q I h;exact wpAny_BinOp (wj ha hb I h λv u s2 x y H2 I2 rx ry q=>ho pins s2 σ H2 x y v u Q I2 rx ry q)
theorem Xl{op:UnaryOp}{r:V->Hp->VK->Prop}(ho:UnR X (unaryOp op) r)(ha:PE X a ta):PE X (.UnaryOp op a pos) (tUn r ta):=by intro pins s σ H Q I h;exact UnaryOp_ (thn (ha pins s σ H _ I h) λv s1 ⟨x,H1,I1,r1,q1⟩=>ho pins s1 σ H1 x v Q I1 r1 q1)
theorem opI{f:Value->Value->Sem Value}{C:Int->Int->Prop}{g:Int->Int->Int}
  (rule:∀(i j:Int)(t u:Tok)(s:Shared)(Q:Value->Shared->Prop)(E:Value->Shared->Prop),C i j->Q (.int (g i j) s.toks) { s with toks:=s.toks+1 }->wpAny (model X.prog X.w) X.A (f (.int i t) (.int j u)) Q E s):
  OpR X f (rI C λi j=>.int (g i j)):=by
 intro pins s σ H x y v u Q I rx ry h;obtain ⟨i,j,rfl,rfl,hc,q⟩:=h;obtain ⟨t,rfl⟩:=rx;obtain ⟨t',rfl⟩:=ry;exact rule i j t t' s _ _ hc ⟨.int (g i j),H,I.tok _,⟨_,rfl⟩,q⟩
theorem qD{f:Value->Value->Sem Value}{g:Int->Int->Int}
  (rule:∀(i j:Int)(t u:Tok)(s:Shared)(Q:Value->Shared->Prop)(E:Value->Shared->Prop),Q (.int (g i j) s.toks) { s with toks:=s.toks+1 }->wpAny (model X.prog X.w) X.A (f (.int i t) (.int j u)) Q E s):
  OpR X f (rI0 λi j=>.int (g i j)):=by
 intro pins s σ H x y v u Q I rx ry h;obtain ⟨i,j,rfl,rfl,q⟩:=h;obtain ⟨t,rfl⟩:=rx;obtain ⟨t',rfl⟩:=ry;exact rule i j t t' s _ _ ⟨.int (g i j),H,I.tok _,⟨_,rfl⟩,q⟩
def qF(i j:Int):Prop:=0<=j/\j<=1000000/\i.natAbs < 2 ^ 64
def CMul(i j:Int):Prop:=(-(2 ^ 64) < i/\i < 2 ^ 64)\/(-(2 ^ 64) < j/\j < 2 ^ 64)
theorem CMul.ok{i j:Int}(h:CMul i j):IntMulOk i j:=by
 rcases h with ⟨h1,h2⟩ |⟨h1,h2⟩
 ·exact .of_left (intBits_le_64 h1 h2)
 ·exact .of_right (intBits_le_64 h1 h2)
theorem Xm:OpR X (binaryOp .Add) (rI0 λi j=>.int (i+j)):=qD λ_ _ _ _ _ _ _ q=>add_int q
theorem Xo:OpR X (binaryOp .Sub) (rI0 λi j=>.int (i - j)):=qD λ_ _ _ _ _ _ _ q=>sub_int q
theorem Xp:OpR X (binaryOp .Mult) (rI CMul λi j=>.int (i * j)):=opI λ_ _ _ _ _ _ _ hc q=>mul_int q hc.ok
theorem Xq:OpR X (binaryOp .Mod) (rI (λ_ j=>0 < j) λi j=>.int (i % j)):=opI λi j _ _ _ _ _ hc q=>by
 have h1:(0:Int) < j:=hc;exact mod_int' (by omega) (by rw[Int.fmod_eq_emod_of_nonneg i (by omega)];exact q)
theorem Xr:OpR X (binaryOp .Pow) (rI qF λi j=>.int (i ^ j.toNat)):=opI λ_ _ _ _ _ _ _ hc q=>pow_int_small hc.1 hc.2.1 hc.2.2 q
theorem Xu:OpR X (inplaceOp .Add) (rI0 λi j=>.int (i+j)):=qD λ_ _ _ _ _ _ _ q=>iadd_int q
theorem Xv:OpR X (inplaceOp .Sub) (rI0 λi j=>.int (i - j)):=qD λ_ _ _ _ _ _ _ q=>isub_int q
theorem unI{f:Value->Sem Value}{g:Int->Int}
  (rule:∀(i:Int)(t:Tok)(s:Shared)(Q:Value->Shared->Prop)(E:Value->Shared->Prop),Q (.int (g i) s.toks) { s with toks:=s.toks+1 }->wpAny (model X.prog X.w) X.A (f (.int i t)) Q E s):
  UnR X f (rU λi=>.int (g i)):=by
 intro pins s σ H x v Q I rx h;obtain ⟨i,rfl,q⟩:=h;obtain ⟨t,rfl⟩:=rx;exact rule i t s _ _ ⟨.int (g i),H,I.tok _,⟨_,rfl⟩,q⟩
theorem Xw:UnR X (unaryOp .USub) (rU λi=>.int (-i)):=unI λ_ _ _ _ _ q=>neg_int q
end
section
variable {X:Cx} {a b c:Expr} {ta tb tc:TE} {pos:Pos}
theorem Cv{pins:List (Addr×Obj)}{σ:St}{H:Hp}{s:Shared}{Q:VK}{k k':Bool}(I:Inv X pins σ H s)(q:Q (.bl k) H)(e:k=k'):EP X pins σ Q (.bool k') s:=by subst e;exact ⟨.bl k,H,I,rfl,q⟩
theorem Xx:OpR X (compareOp .Is) (λx y H Q=>y=.non/\Q (.bl (decide (x=.non))) H):=by
 intro pins s σ H x y v u Q I rx ry h;obtain ⟨rfl,q⟩:=h;cases ry;refine is_none_gen (Cv I q ?_);cases x <;> first
  | (cases rx;rfl)
  | (obtain ⟨t,rfl⟩:=rx;rfl)
theorem Xy:OpR X (compareOp .IsNot) (λx y H Q=>y=.non/\Q (.bl (!decide (x=.non))) H):=by
 intro pins s σ H x y v u Q I rx ry h;obtain ⟨rfl,q⟩:=h;cases ry;refine isnot_none_gen (Cv I q ?_);cases x <;> first
  | (cases rx;rfl)
  | (obtain ⟨t,rfl⟩:=rx;rfl)
theorem Xz{op:CmpOp}{r:R2}(ho:OpR X (compareOp op) r)(ha:PE X a ta)(hb:PE X b tb)(hm:behindInMarks op b=false):PE X (.Compare a [op] [b] pos) (tOp r ta tb):=by intro pins s σ H Q I h;exact wpAny_Compare1 (wj ha hb I h λv u s2 x y H2 I2 rx ry q=>ho pins s2 σ H2 x y v u Q I2 rx ry q) hm
def Cw(t:TE):TT:=λσ H Q=>t σ H λx H'=>∃k,x=.bl k/\Q k H'
theorem XC{op:CmpOp}{r:R2}(ho:OpR X (compareOp op) r)(ha:PE X a ta)(hb:PE X b tb)(hm:behindInMarks op b=false):PT X (.Compare a [op] [b] pos) (Cw (tOp r ta tb)):=by
 intro pins s σ H Q I h;refine wpAny_isTrue_Compare1 (thn (ha pins s σ H _ I h) λv s1 ⟨x,H1,I1,r1,q1⟩=>thn (hb pins s1 σ H1 _ I1 q1) λu s2 ⟨y,H2,I2,r2,q2⟩=>
  thn (ho pins s2 σ H2 x y v u _ I2 r1 r2 q2) λc s3 ⟨z,H3,I3,r3,k,e,q3⟩=>?_) hm
 subst e;cases r3;exact ej ⟨H3,I3,q3⟩
def wk(r r':R2)(ta tb tc:TE):TE:=λσ H Q=>ta σ H λx H1=>tb σ H1 λy H2=>r x y H2 λz H3=>∃k,z=.bl k/\
 (if k=true then tc σ H3 λw' H4=>r' y w' H4 Q else Q (.bl false) H3)
theorem XD{op op':CmpOp}{r r':R2}(ho:OpR X (compareOp op) r)(ho':OpR X (compareOp op') r')(ha:PE X a ta)(hb:PE X b tb)(hc:PE X c tc)
  (hm:lastMarks [op,op'] [b,c]=false:=by with_unfolding_all rfl):PE X (.Compare a [op,op'] [b,c] pos) (wk r r' ta tb tc):=by
 intro pins s σ H Q I h;refine Compare_chain (thn (ha pins s σ H _ I h) λv s1 ⟨x,H1,I1,r1,q1⟩=>chain_link (thn (hb pins s1 σ H1 _ I1 q1) λu s2 ⟨y,H2,I2,r2,q2⟩=>
  thn (ho pins s2 σ H2 x y v u _ I2 r1 r2 q2) λd s3 ⟨z,H3,I3,r3,k,e,q3⟩=>?_)) hm
 subst e;cases r3;refine ej ?_;cases k with
 |false=>exact ite_ff ⟨.bl false,H3,I3,rfl,q3⟩
 |true=>exact ite_tt (chain_last (thn (hc pins s3 σ H3 _ I3 q3) λw' s4 ⟨z',H4,I4,r4,q4⟩=>ho' pins s4 σ H4 y z' u w' Q I4 r2 r4 q4))
theorem XF{op op':CmpOp}{r r':R2}(ho:OpR X (compareOp op) r)(ho':OpR X (compareOp op') r')(ha:PE X a ta)(hb:PE X b tb)(hc:PE X c tc)
  (hm:lastMarks [op,op'] [b,c]=false:=by with_unfolding_all rfl):PT X (.Compare a [op,op'] [b,c] pos) (Cw (wk r r' ta tb tc)):=by
 intro pins s σ H Q I h;refine isTrue_chain (thn (ha pins s σ H _ I h) λv s1 ⟨x,H1,I1,r1,q1⟩=>test_link (thn (hb pins s1 σ H1 _ I1 q1) λu s2 ⟨y,H2,I2,r2,q2⟩=>
  thn (ho pins s2 σ H2 x y v u _ I2 r1 r2 q2) λd s3 ⟨z,H3,I3,r3,k,e,q3⟩=>?_)) hm
 subst e;cases r3;refine ej ?_;cases k with
 |false=>
  obtain ⟨k',e',q'⟩:=q3;cases e';exact ite_ff ⟨H3,I3,q'⟩
 |true=>
  refine ite_tt (test_last (thn (hc pins s3 σ H3 _ I3 q3) λw' s4 ⟨z',H4,I4,r4,q4⟩=>thn (ho' pins s4 σ H4 y z' u w' _ I4 r2 r4 q4) λd' s5 ⟨z2,H5,I5,r5,k2,e2,q5⟩=>?_));subst e2;cases r5;exact ej ⟨H5,I5,q5⟩
def qG(K:PF)(x:V)(H:Hp)(k:Bool):Prop:=
 match x with
 |.non=>k=false
 |.bl b=>k=b
 |.int i=>k=(i != 0)
 |.str y=>y.length<=sizeLine/\k=((y.length:Int) != 0)
 |.byt y=>y.size<=sizeLine/\k=((y.size:Int) != 0)
 |.ref p=>(∃xs,SqL K H p xs/\k=!xs.isEmpty)\/(∃xs,SqT K H p xs/\k=!xs.isEmpty)\/∃kvs,H p=some (.dK kvs)/\k=!kvs.isEmpty
 |_=>False
theorem XH{κ:Type}{kvs:List (κ×V)}{vs:List (κ×Value)}(r:KV kvs vs):(!vs.isEmpty)=!kvs.isEmpty:=by cases r <;> rfl
theorem Cy{xs:List V}{its:List Value}(r:Vals xs its):(!its.toArray.isEmpty)=!xs.isEmpty:=by cases r <;> simp
theorem ig:(sizeLine:Nat) < 2 ^ 63:=by rw[fS];decide
theorem Cz:Xj X (λx H Q=>∃k,qG X.K x H k/\Q k H):=by
 intro pins s σ H x v Q I rx h;obtain ⟨k,e,q⟩:=h;have hl:=ig;have hs:sizeLine=16777216:=fS;cases x with
 |non=>
  cases rx;have e':k=false:=e;subst e';exact truthy_none ⟨H,I,q⟩
 |bl b=>
  cases rx;have e':k=b:=e;subst e';exact ej ⟨H,I,q⟩
 |int i=>
  obtain ⟨t,rfl⟩:=rx;have e':k=(i != 0):=e;subst e';exact PySem.P.truthy_int ⟨H,I,q⟩
 |str y=>
  obtain ⟨t,rfl⟩:=rx;obtain ⟨hy,e'⟩:y.length<=sizeLine/\k=((y.length:Int) != 0):=e;subst e';exact PySem.P.truthy_str (by omega) ⟨H,I.tok _,q⟩
 |byt y=>
  obtain ⟨t,rfl⟩:=rx;obtain ⟨hy,e'⟩:y.size<=sizeLine/\k=((y.size:Int) != 0):=e;subst e';exact PySem.W.truthy_bytes (by omega) ⟨H,I.tok _,q⟩
 |ref p=>
  cases rx;have e':(∃xs,SqL X.K H p xs/\k=!xs.isEmpty)\/(∃xs,SqT X.K H p xs/\k=!xs.isEmpty)\/∃kvs,H p=some (.dK kvs)/\k=!kvs.isEmpty:=e;rcases e' with ⟨xs,hx,e'⟩ |⟨xs,hx,e'⟩ |⟨kvs,hx,e'⟩
  ·subst e';obtain ⟨its,r,pl,hz⟩:=I.list hx;have hlen:=r.length;exact wpAny_truthy_list pl.isList (by simp only[ar];omega) ⟨H,I.tok _,by rw[Cy r];exact q⟩
  ·subst e';obtain ⟨its,r,pl,hz⟩:=I.tuple hx;have hlen:=r.length;exact truthy_tuple pl (by simp only[ar];omega) ⟨H,I.tok _,by rw[Cy r];exact q⟩
  ·subst e';obtain ⟨hz,hS,vs,r,m⟩:kvs.length<=sizeLine/\(p==sysModules)=false/\∃vs,KV kvs vs/\s.heap.DictOf (v7 X.prog X.w) p vs:=I.hok p _ hx;have hlen:kvs.length=vs.length:=Paired.length r;exact wpAny_truthy_dict hS m (by omega) ⟨H,I.tok _,by rw[XH r];exact q⟩
 |_=>exact (show False from e).elim
theorem XJ(ha:PE X a ta)(he:∀whole,isTrue a X.env whole=(do let v <-whole;standAt a.pos;holding [v] (truthy v))):
  PT X a (λσ H Q=>ta σ H λx H'=>∃k,qG X.K x H' k/\Q k H'):=by
 intro pins s σ H Q I h;exact isTrue_plain (thn (ha pins s σ H _ I h) λv s1 ⟨x,H1,I1,r1,q1⟩=>Cz pins s1 σ H1 x v Q I1 r1 q1) (he _)
theorem XM:OpR X (binaryOp .Add) (λx y H Q=>∃i j,x=.str i/\y=.str j/\i.length+j.length<=sizeLine/\Q (.str (i++j)) H):=by intro pins s σ H x y v u Q I rx ry h;obtain ⟨i,j,rfl,rfl,hz,q⟩:=h;obtain ⟨t,rfl⟩:=rx;obtain ⟨t',rfl⟩:=ry;exact add_str (λt' tk=>⟨.str (i++j),H,I.tok _,⟨_,rfl⟩,q⟩) hz
theorem XN:OpR X (inplaceOp .Add) (λx y H Q=>∃i j,x=.str i/\y=.str j/\i.length+j.length<=sizeLine/\Q (.str (i++j)) H):=by intro pins s σ H x y v u Q I rx ry h;obtain ⟨i,j,rfl,rfl,hz,q⟩:=h;obtain ⟨t,rfl⟩:=rx;obtain ⟨t',rfl⟩:=ry;exact iadd_str (λt' tk=>⟨.str (i++j),H,I.tok _,⟨_,rfl⟩,q⟩) hz
theorem vals1{x:V}{us:List Value}(r:Vals [x] us):∃u,us=[u]/\RelV x u:=by
 cases r with
 |cons r1 r2=>cases r2;exact ⟨_,rfl,r1⟩
theorem vals2{x y:V}{us:List Value}(r:Vals [x,y] us):∃u w',us=[u,w']/\RelV x u/\RelV y w':=by
 cases r with
 |cons r1 r2=>
  cases r2 with
  |cons r3 r4=>cases r4;exact ⟨_,_,rfl,r1,r3⟩
theorem CG:bJ X (.type "int") (λxs H Q=>(∃i,xs=[.int i]/\Q (.int i) H)\/∃k,xs=[.bl k]/\Q (.int (if k then 1 else 0)) H):=by
 intro pins s σ H xs us Q I r h;rcases h with ⟨i,rfl,q⟩ |⟨k,rfl,q⟩
 ·obtain ⟨u,rfl,t,rfl⟩:=vals1 r;exact call_int_int ⟨.int i,H,I,⟨_,rfl⟩,q⟩
 ·obtain ⟨u,rfl,r1⟩:=vals1 r;cases r1;exact call_int_bool ⟨.int (if k then 1 else 0),H,I.tok _,⟨_,rfl⟩,q⟩
end
structure ObjM(h:Heap)(x dx C:Addr)(mA:Str->Option Value):Prop where
 obj:h.get? x=some (PySem.W.instObj C dx)
 ns:h.Ns1 dx mA
 ne:dx≠x
theorem XQ{h:Heap}{dx:Addr}{mA:Str->Option Value}(n:h.Ns1 dx mA):∃od,h.get? dx=some od/\∀name,PySem.W.lookIn name od=some (mA name):=by
 obtain ⟨o,es,ep,ho,hd,hk,_,hm⟩:=n;refine ⟨o,ho,λname=>?_⟩;have e:=hm name;unfold nsFind findBy at e;rw[<-Array.find?_toList]at e;unfold PySem.W.lookIn;rw[hd];dsimp only;split
 ·rename_i y q;rw[q]at e;exact fb some e
 ·rename_i q;rw[q]at e;have a:es.toList.any (·.refKey)=false:=by
   rw[List.any_eq_false];intro y hy;obtain ⟨z,t,hkey⟩:=hk y (Array.mem_toList_iff.mp hy);simp[DictEntry.refKey,hkey]
  have a':¬es.toList.any (·.refKey)=true:=by rw[a];exact br
  rw[if_neg a'];exact fb some e
theorem ObjM.look{h:Heap}{x dx C:Addr}{mA:Str->Option Value}(I:ObjM h x dx C mA):∃od,PySem.W.InstAt h x (PySem.W.instObj C dx) C (some od)/\∀name,PySem.W.lookIn name od=some (mA name):=
 let ⟨od,ho,hl⟩:=XQ I.ns
 ⟨od,⟨I.obj,rfl,rfl,ho⟩,hl⟩
section
variable {prog:Program} {w:World} {A:Around} {E:Value->Shared->Prop} {s:Shared} {K:PF} {x dx C f:Addr} {mA:Str->Option Value} {name:Str} {v:Value}
theorem XS{expr:Bool}{Q:Value->Shared->Prop}(X:K.In s.heap)(I:ObjM s.heap x dx C mA)(hg:PySem.W.plainGet K C name=true)(hh:PySem.W.hasDictIn K C=true)
  (ha:PySem.W.findIn K (.ref C) name=some none) (hv:mA name=some v) (hv':PySem.W.handedIn v=true) (h:Q v { s with toks:=s.toks+1 }):
  wpAny (model prog w) A (getAttr (.ref x) name expr) Q E s:=by
 obtain ⟨od,J,hl⟩:=I.look;exact PySem.W.get_value X J (PySem.W.plainGet_of hg).1 (PySem.W.findObj_own hh ha rfl (by rw[hl,hv])) hv' h
theorem XX{pl:Sem Bool}{Q:Value×List Value->Shared->Prop}(X:K.In s.heap)(I:ObjM s.heap x dx C mA)(hg:PySem.W.plainGet K C name=true)
  (hf:PySem.W.findIn K (.ref C) name=some (some (.ref f))) (ht:PySem.W.isFn K (.ref f)=true) (hv:mA name=none) (h:Q (.ref f,[.ref x]) s):
  wpAny (model prog w) A (getMethod (.ref x) name pl) Q E s:=by
 obtain ⟨od,J,hl⟩:=I.look;exact PySem.W.method_fn X J (PySem.W.plainGet_of hg).1 (PySem.W.plainGet_of hg).2 hf (aw.mp ht) (by show (PySem.W.lookIn name od).map (·.isSome)=some false;rw[hl,hv];rfl) h
theorem X3{ns:List Str}{Q:Unit->Shared->Prop}(X:K.In s.heap)(I:ObjM s.heap x dx C mA)
  (hs:PySem.W.findIn K (.ref C) "__setattr__"=some (some (.builtin "object.__setattr__"))) (hp:PySem.W.plainOver K C=true) (ht:PySem.W.takerIn K C name=some none) (hh:PySem.W.hasDictIn K C=true)
  (hw:PySem.Within mA ns) (hsz:ns.length<=sizeLine)
  (h:∀h',ObjM h' x dx C (λy=>if y=name then some v else mA y)->Heap.SameBut dx s.heap h'->Q () { s with heap:=h',toks:=s.toks+2 }):
  wpAny (model prog w) A (setAttr (.ref x) name v) Q E s:=by
 obtain ⟨od,J,hl⟩:=I.look;refine PySem.W.set_plain X J hs (PySem.W.osa_open (s:={ s with toks:=s.toks+1 }) (r:=none) X J hp ht λb=>?_);obtain ⟨cd,hc,hd'⟩:=PySem.W.any_some hh;have hx:s.heap.get? x=some ⟨.ref C,some dx,.plain,#[]⟩:=I.obj;refine ah (bn (ah (ah (wpAny_loadPart hx (ah (PySem.W.Looks.here (s:={ s with toks:=s.toks+1 }) (PySem.W.looks_clsIn X hc) ?_))))));rw[hd'];refine bn (a:=some dx) (ah (bn (ah ?_)));refine wpAny_nsSet1 (s:={ s with toks:=s.toks+1 }) I.ns λh' hn2 hs2=>?_;obtain ⟨oD,esD,epD,hoD,hdD,hcD⟩:=hn2.count (PySem.Within.cons name v hw);refine ah (wpAny_lookBehind hoD (by rw[hdD];exact pastItsLine_dict (bv hcD (by rw[cf];omega))) ?_);exact bn (h _ ⟨(hs2.2 _ (Ne.symm I.ne)).trans I.obj,hn2,I.ne⟩ hs2)
theorem X4{R:Result->Shared->Prop}{vs:List Value}{kw:List (Str×Value)}(X:K.In s.heap)(hm:PySem.W.makesIn K C=true)
  (hi:PySem.W.findIn K (.ref C) "__init__"=some (some (.ref f))) (hf:PySem.W.typeIn K (.ref f)=some (.type "function"))
  (h:codeAny (model prog w) (A.under (.builtin "type.__call__" ⟨.ref C::vs,kw⟩)) (.call (.ref f) ⟨.ref (s.heap.objs.size+1)::vs,kw⟩) (PySem.W.InitBack (s.heap.objs.size+1) R)
   { s with heap:=(s.heap.push PySem.W.emptyDict).push (PySem.W.instObj C s.heap.objs.size) }):
  codeAny (model prog w) A (.call (.ref C) ⟨vs,kw⟩) R s:=by
 obtain ⟨hh,g,d,t,os⟩:=s;exact PySem.W.make_core (PySem.W.makes_of X hm) (PySem.W.looks_findIn X hi) (λself=>PySem.W.bind_fn X self hf) (.inl rfl) h
end
noncomputable def cL(f:Str)(v:V):List (Str×V)->List (Str×V)
 |[]=>[(f,v)]
 | (g,x)::r=>if g=f then (g,v)::r else (g,x)::cL f v r
theorem CJ(f g:Str)(v:V):∀fs:List (Str×V),(cL f v fs).lookup g=if g=f then some v else fs.lookup g
 |[]=>by
  show List.lookup g [(f,v)]=_;by_cases h:g=f
  ·have hb:(g==f)=true:=aw.mpr h;simp only[List.lookup,hb,if_pos h]
  ·have hb:(g==f)=false:=c5.mpr h;simp only[List.lookup,hb,if_neg h]
 | (k,x)::r=>by
  have ih:=CJ f g v r;rw[show cL f v ((k,x)::r)=(if k=f then (k,v)::r else (k,x)::cL f v r) from rfl];by_cases hk:k=f
  ·rw[if_pos hk];by_cases h:g=k
   ·have hb:(g==k)=true:=aw.mpr h;simp only[List.lookup,hb,if_pos (h.trans hk)]
   ·have hb:(g==k)=false:=c5.mpr h;simp only[List.lookup,hb,if_neg (λe:g=f=>h (e.trans hk.symm))]
  ·rw[if_neg hk];by_cases h:g=k
   ·have hb:(g==k)=true:=aw.mpr h;simp only[List.lookup,hb,if_neg (λe:g=f=>hk (h.symm.trans e))]
   ·have hb:(g==k)=false:=c5.mpr h;simp only[List.lookup,hb];exact ih
theorem wu(f:Str)(v:V):∀fs:List (Str×V),f∈(cL f v fs).map (·.1)/\∀g,g∈fs.map (·.1)->g∈(cL f v fs).map (·.1)
 |[]=>⟨by simp[cL],λg h=>by simp at h⟩
 | (k,x)::r=>by
  obtain ⟨i1,i2⟩:=wu f v r;rw[show cL f v ((k,x)::r)=(if k=f then (k,v)::r else (k,x)::cL f v r) from rfl];by_cases hk:k=f
  ·rw[if_pos hk];subst hk;exact ⟨by simp,λg h=>by simpa using h⟩
  ·rw[if_neg hk];refine ⟨?_,λg h=>?_⟩
   ·rw[bo];exact ca _ i1
   ·rw[bo]at h ⊢;rcases bi.mp h with e |e
    ·exact bi.mpr (.inl e)
    ·exact ca _ (i2 g e)
theorem CK(f:Str)(v:V):∀fs:List (Str×V),(cL f v fs).length<=fs.length+1
 |[]=>by simp[cL]
 | (k,x)::r=>by
  have ih:=CK f v r;rw[show cL f v ((k,x)::r)=(if k=f then (k,v)::r else (k,x)::cL f v r) from rfl];by_cases hk:k=f
  ·rw[if_pos hk,cf,cf];omega
  ·rw[if_neg hk,cf,cf];omega
theorem RelO.some_of{v:V}{o:Option Value}(r:RelO (some v) o):∃u,o=some u/\RelV v u:=by
 cases o with
 |none=>exact (show False from r).elim
 |some u=>exact ⟨u,rfl,r⟩
theorem RelO.none_of{o:Option Value}(r:RelO none o):o=none:=by
 cases o with
 |none=>rfl
 |some u=>exact (show False from r).elim
theorem X5{v:V}{u:Value}(r:RelV v u):PySem.W.handedIn u=true:=by
 cases v with
 |non=>cases (show u=Value.none from r);rfl
 |bl b=>cases (show u=Value.bool b from r);rfl
 |int i=>obtain ⟨t,e⟩:=(show ∃t,u=Value.int i t from r);cases e;rfl
 |str x=>obtain ⟨t,e⟩:=(show ∃t,u=Value.str x t from r);cases e;rfl
 |byt b=>obtain ⟨t,e⟩:=(show ∃t,u=Value.bytes b t from r);cases e;rfl
 |flt b=>obtain ⟨t,e⟩:=(show ∃t,u=Value.float b t from r);cases e;rfl
 |ref a=>cases (show u=Value.ref a from r);rfl
 |ty n=>cases (show u=Value.type n from r);rfl
section
variable {P:Program} {w:World} {H H':Hp} {h h':Heap} {a C dx:Addr} {fs fs':List (Str×V)}
theorem qH(hok:HOk P w H h)(e:H a=some (.ins C dx fs)):∃mA,ObjM h a dx C mA/\(∀f,RelO (fs.lookup f) (mA f))/\PySem.Within mA (fs.map (·.1))/\fs.length<=1000/\H dx=some (.own a):=by obtain ⟨d,z,ne,ob,mA,n,r,q⟩:=(show ObjOk P w H h a (.ins C dx fs) from hok a _ e);exact ⟨mA,⟨ob,n,ne⟩,r,q,z,d⟩
end
structure Cls(K:PF)(C:Addr):Prop where
 pg:PySem.W.plainGet K C Str.empty=true
 hd:PySem.W.hasDictIn K C=true
 po:PySem.W.plainOver K C=true
 sa:PySem.W.findIn K (.ref C) "__setattr__"=some (some (.builtin "object.__setattr__"))
theorem Cls.get{K:PF}{C:Addr}(c:Cls K C)(f:Str):PySem.W.plainGet K C f=true:=c.pg
def NoAttr(K:PF)(C:Addr)(f:Str):Prop:=PySem.W.findIn K (.ref C) f=some none
theorem NoAttr.taker{K:PF}{C:Addr}{f:Str}(n:NoAttr K C f):PySem.W.takerIn K C f=some none:=by unfold PySem.W.takerIn;rw[show PySem.W.findIn K (.ref C) f=some none from n];rfl
structure Meth(K:PF)(C:Addr)(m:Str)(f:Addr):Prop where
 at_:PySem.W.findIn K (.ref C) m=some (some (.ref f))
 fn:PySem.W.isFn K (.ref f)=true
 kp:PySem.W.keepIn K (.ref f)=true
section
variable {X:Cx} {pins:List (Addr×Obj)} {σ:St} {H:Hp} {s:Shared} {a C dx:Addr} {fs:List (Str×V)} {f:Str} {v:V} {A:Around} {E:Value->Shared->Prop}
theorem X6{b:Bool}{Q:Value->Shared->Prop}(I:Inv X pins σ H s)(e:H a=some (.ins C dx fs))(c:Cls X.K C)(n:NoAttr X.K C f)(l:fs.lookup f=some v)
  (h:∀u s',Inv X pins σ H s'->RelV v u->Q u s'):wpAny (model X.prog X.w) A (getAttr (.ref a) f b) Q E s:=by
 obtain ⟨mA,O,r,_,_,_⟩:=qH I.hok e;obtain ⟨u,hu,ru⟩:=RelO.some_of (v:=v) (o:=mA f) (by rw[<-l];exact r f);exact XS I.kIn O (c.get f) c.hd n hu (X5 ru) (h u _ (I.tok _) ru)
theorem qI{m:Str}{g:Addr}{pl:Sem Bool}{Q:Value×List Value->Shared->Prop}(I:Inv X pins σ H s)(e:H a=some (.ins C dx fs))(c:Cls X.K C)(k:Meth X.K C m g)(l:fs.lookup m=none)
  (h:Q (.ref g,[.ref a]) s):wpAny (model X.prog X.w) A (getMethod (.ref a) m pl) Q E s:=by
 obtain ⟨mA,O,r,_,_,_⟩:=qH I.hok e;have hn:mA m=none:=RelO.none_of (by rw[<-l];exact r m);exact XX I.kIn O (c.get m) k.at_ k.fn hn h
theorem X7{y:V}{u:Value}{Q:Unit->Shared->Prop}(I:Inv X pins σ H s)(e:H a=some (.ins C dx fs))(c:Cls X.K C)(n:NoAttr X.K C f)(hl:fs.length < 1000)(ry:RelV y u)
  (h:∀s',Inv X pins σ (upd H a (.ins C dx (cL f y fs))) s'->Q () s'):wpAny (model X.prog X.w) A (setAttr (.ref a) f u) Q E s:=by
 obtain ⟨mA,O,r,wi,_,ho⟩:=qH I.hok e;have hz:(fs.map (·.1)).length<=sizeLine:=by rw[ag,fS];omega
 refine X3 I.kIn O c.sa c.po n.taker c.hd wi hz λh' O' sb=>h _ ?_;have hd:∃o,h'.get? dx=some o:=let ⟨o,_,_,e',_⟩:=O'.ns;⟨o,e'⟩;refine I.write (x:=a) (e:=dx) (by rw[e];exact True.intro) (.inr ho) (λb q hb z=>(sb.2 b hb).trans z) hd ?_;refine ⟨by rw[aJ O.ne];exact ho,?_,O.ne,O'.obj,_,O'.ns,λg=>?_,λg hg=>?_⟩
 ·have:=CK f y fs;omega
 ·show RelO ((cL f y fs).lookup g) (if g=f then some u else mA g);rw[CJ];by_cases q:g=f
  ·rw[if_pos q,if_pos q];exact ry
  ·rw[if_neg q,if_neg q];exact r g
 ·by_cases q:g=f
  ·rw[q];exact (wu f y fs).1
  ·refine (wu f y fs).2 g (wi g λz=>hg ?_);show (if g=f then some u else mA g)=none;rw[if_neg q];exact z
theorem Inv.made(I:Inv X pins σ H s):Inv X pins σ (upd (upd H s.heap.objs.size (.own (s.heap.objs.size+1))) (s.heap.objs.size+1) (.ins C s.heap.objs.size []))
  { s with heap:=(s.heap.push PySem.W.emptyDict).push (PySem.W.instObj C s.heap.objs.size) }:=by
 have e1:(s.heap.push PySem.W.emptyDict).get? s.heap.objs.size=some PySem.W.emptyDict:=bd s.heap rfl;have e2:((s.heap.push PySem.W.emptyDict).push (PySem.W.instObj C s.heap.objs.size)).get? (s.heap.objs.size+1)=some (PySem.W.instObj C s.heap.objs.size):=by have:=bd (s.heap.push PySem.W.emptyDict) (o:=PySem.W.instObj C s.heap.objs.size) rfl;rwa [dQ]at this
 have e3:(s.heap.push PySem.W.emptyDict).Ns s.heap.objs.size (λ_=>none):=⟨PySem.W.emptyDict,#[],_,e1,rfl,(λe he=>absurd he (by simp)),λ_=>rfl⟩;have I1:=I.laid (a:=s.heap.objs.size) (o:=.own (s.heap.objs.size+1)) (h':=s.heap.push PySem.W.emptyDict) (t':=s.toks) (λb u q=>al _ q) (ay _) ⟨_,e1⟩;refine I1.laid (a:=s.heap.objs.size+1) (o:=.ins C s.heap.objs.size []) (t':=s.toks) (λb u q=>al _ q) (Nat.le_of_eq (dQ _ _)) ?_;have ne:s.heap.objs.size≠s.heap.objs.size+1:=cq (Nat.lt_succ_self _);refine ⟨by rw[aJ ne,cP],e7 _,ne,e2,λ_=>none,(Heap.Ns1.of_empty e3).at λo q=>al _ q,λ_=>True.intro,λy hy=>absurd rfl hy⟩
theorem X8{prog:Program}{w:World}{env:Env}{e:Expr}{f:Str}{pos:Pos}{s:Shared}{Q:Value->Shared->Prop}(hb:attributeBase e f env (eval e env)=eval e env)
  (h:wpAny (model prog w) A (eval e env) (λo s₁=>wpAny (model prog w) A (getAttr o f true) Q E s₁) E s):wpAny (model prog w) A (eval (.Attribute e f pos) env) Q E s:=
 Attribute_any_ h (by rw[arm_eval_Attribute,hb])
end
def Yb(K:PF)(ta:TE)(f:Str):TE:=λσ H Q=>ta σ H λx H1=>∃a C dx fs v,x=.ref a/\H1 a=some (.ins C dx fs)/\Cls K C/\NoAttr K C f/\fs.lookup f=some v/\Q v H1
def Yc(K:PF)(ta tv:TE)(f:Str):TS:=λD σ H=>tv σ H λy H1=>ta σ H1 λx H2=>∃a C dx fs,x=.ref a/\H2 a=some (.ins C dx fs)/\Cls K C/\NoAttr K C f/\fs.length < 1000/\
 D.nx σ (upd H2 a (.ins C dx (cL f y fs)))
section
variable {X:Cx} {o e value:Expr} {f:Str} {pos pos' tpos:Pos} {ta tv:TE}
theorem Yd(he:PE X e ta)(hb:attributeBase e f X.env (eval e X.env)=eval e X.env):PE X (.Attribute e f pos) (Yb X.K ta f):=by intro pins s σ H Q I h;refine X8 hb (thn (he pins s σ H _ I h) λu s1 ⟨x,H1,I1,rx,a,C,dx,fs,v,ex,ea,c,n,l,q⟩=>?_);subst ex;obtain rfl:u=Value.ref a:=rx;exact X6 I1 ea c n l λu' s2 I2 ru=>⟨v,H1,I2,ru,q⟩
theorem Ye(ha:PE X o ta)(hv:PE X value tv)(hs:swapsWith value (some (.Attribute o f pos')) pos.line X.env=pure false):PS X (.Assign [.Attribute o f pos'] value pos) (Yc X.K ta tv f):=by intro pins s σ H D I h;refine plainObj_wpAny_Assign_Attribute (thn (hv pins s σ H _ I h) λu s1 ⟨y,H1,I1,ry,q⟩=>thn (ha pins s1 σ H1 _ I1 q) λov s2 ⟨x,H2,I2,rx,a,C,dx,fs,ex,ea,c,n,l,q2⟩=>?_) hs;subst ex;obtain rfl:ov=Value.ref a:=rx;exact X7 I2 ea c n l ry λs3 I3=>⟨σ,_,I3,q2⟩
end
section
variable {X:Cx} {pins:List (Addr×Obj)} {σ:St} {H:Hp} {s:Shared} {A:Around} {E:Value->Shared->Prop} {Q:Value->Shared->Prop} {c:Value} {b:Bool}
inductive TyOf (K:PF) (H:Hp):V->Value->Prop where
 |non:TyOf K H .non (.type "NoneType")
 |bl (x:Bool):TyOf K H (.bl x) (.type "bool")
 |int (i:Int):TyOf K H (.int i) (.type "int")
 |str (x:Str):TyOf K H (.str x) (.type "str")
 |flt (x:UInt64):TyOf K H (.flt x) (.type "float")
 |lst {a:Addr} {xs:List V} (e:H a=some (.lst xs)):TyOf K H (.ref a) (.type "list")
 |frz {a:Addr} {o:Obj} {xs:List V} (e:H a=some (.frz o (.lst xs))):TyOf K H (.ref a) (.type "list")
 |tup {a:Addr} {xs:List V} (e:H a=some (.tup xs)):TyOf K H (.ref a) (.type "tuple")
 |dK {a:Addr} {kvs:List (Key×V)} (e:H a=some (.dK kvs)):TyOf K H (.ref a) (.type "dict")
 |dT {a:Addr} {kvs:List (List Key×V)} (e:H a=some (.dT kvs)):TyOf K H (.ref a) (.type "dict")
 |ins {a C dx:Addr} {fs:List (Str×V)} (e:H a=some (.ins C dx fs)) (cl:Cls K C) (ha:PySem.W.findIn K (.ref C) "__class__"=some (some (.builtin "object.__class__")))
   (hn:PySem.W.specialIn K (.builtin "object.__class__") "__get__"=some (some (.builtin "getset_descriptor.__get__"))) (htk:PySem.W.takesIn K (.builtin "object.__class__")=some true)
   (hm:PySem.W.mroIn K C (.type "object")=some true):TyOf K H (.ref a) (.ref C)
theorem Yg{x:V}{u t:Value}(I:Inv X pins σ H s)(rx:RelV x u)(ty:TyOf X.K H x t)(e:PySem.W.kitOne X.K t c=some b)(h:∀tk,Q (.bool b) { s with toks:=tk }):
  wpAny (model X.prog X.w) A (call (.builtin "isinstance") [u,c]) Q E s:=by
 cases ty with
 |non=>cases (show u=Value.none from rx);exact dr PySem.W.kitx_none I.kIn True.intro e (λz=>nomatch z) h
 |bl y=>cases (show u=Value.bool y from rx);exact dr PySem.W.kitx_bool I.kIn True.intro e (λz=>nomatch z) h
 |int i=>obtain ⟨t,q⟩:=(show ∃t,u=Value.int i t from rx);cases q;exact dr PySem.W.kitx_int I.kIn True.intro e (λz=>nomatch z) h
 |str y=>obtain ⟨t,q⟩:=(show ∃t,u=Value.str y t from rx);cases q;exact dr PySem.W.kitx_str I.kIn True.intro e (λz=>nomatch z) h
 |flt y=>obtain ⟨t,q⟩:=(show ∃t,u=Value.float y t from rx);cases q;exact dr PySem.W.kitx_float I.kIn True.intro e (λz=>nomatch z) h
 | @lst a xs ea=>
  cases (show u=Value.ref a from rx);obtain ⟨_,_,n,_,h1⟩:=(show ObjOk X.prog X.w H s.heap a (.lst xs) from I.hok a _ ea);exact dr PySem.W.kitx_list I.kIn ⟨_,h1,rfl⟩ e (λz=>nomatch z) h
 | @frz a ob xs ea=>
  cases (show u=Value.ref a from rx);obtain ⟨_,_,_,n,_,h1⟩:=(show ObjOk X.prog X.w H s.heap a (.frz ob (.lst xs)) from I.hok a _ ea);exact dr PySem.W.kitx_list I.kIn ⟨_,h1,rfl⟩ e (λz=>nomatch z) h
 | @tup a xs ea=>
  cases (show u=Value.ref a from rx);obtain ⟨_,_,_,p⟩:=(show ObjOk X.prog X.w H s.heap a (.tup xs) from I.hok a _ ea);obtain ⟨o,h1,h2,_⟩:=p;exact dr PySem.W.kitx_tuple I.kIn ⟨o,h1,h2⟩ e (λz=>nomatch z) h
 | @dK a kvs ea=>
  cases (show u=Value.ref a from rx);obtain ⟨_,_,vs,_,p⟩:=(show ObjOk X.prog X.w H s.heap a (.dK kvs) from I.hok a _ ea);obtain ⟨o,es,ep,h1,h2,_⟩:=p;exact dr PySem.W.kitx_dict I.kIn ⟨o,h1,h2.1⟩ e (λz=>nomatch z) h
 | @dT a kvs ea=>
  cases (show u=Value.ref a from rx);obtain ⟨_,_,xs,_,o,es,ep,h1,h2,_⟩:=(show ObjOk X.prog X.w H s.heap a (.dT kvs) from I.hok a _ ea);exact dr PySem.W.kitx_dict I.kIn ⟨o,h1,h2.1⟩ e (λz=>nomatch z) h
 | @ins a C dx fs ea cl ha hn htk hm=>
  cases (show u=Value.ref a from rx);obtain ⟨mA,O,_⟩:=qH I.hok ea;obtain ⟨od,J,_⟩:=O.look;exact dr (PySem.W.kitx_own (cl.get _) cl.hd ha hn htk hm) I.kIn J e (λz=>nomatch z) h
end
structure Room(k:Nat)(A:Around):Prop where
 hd:A.handled=none
 dp:A.depth+3 * k+5 < recursionLimit
 un:A.units+16 * k+200 < cLine
theorem Room.mono{j k:Nat}{A:Around}(r:Room k A)(h:j<=k):Room j A:=⟨r.hd,by have:=r.dp;omega,by have:=r.un;omega⟩
theorem Room.deeper{k:Nat}{A:Around}(r:Room (k+1) A)(env:Env):Room k (A.deeper env):=
 ⟨r.hd,by have:=r.dp;show A.depth+1+3 * k+5 < _;omega,by have:=r.un;show A.units+3+16 * k+200 < _;omega⟩
theorem Yh {A:Around} {C:Addr} {us:List Value} {kw:List (Str×Value)}:(A.under (.builtin "type.__call__" ⟨.ref C::us,kw⟩)).depth=A.depth+1:=by first |rfl |simp[Around.under,Code.weight,Code.isCreation,Code.isGuard,Code.isCaller,Code.frames,Code.isFrame,guardIds]
theorem Yi {A:Around} {C:Addr} {us:List Value} {kw:List (Str×Value)}:(A.under (.builtin "type.__call__" ⟨.ref C::us,kw⟩)).units=A.units+1:=by first |rfl |simp[Around.under,Code.cUnits,Code.frames,Code.isFrame]
theorem Room.make {k:Nat} {A:Around} (r:Room (k+1) A) (C:Addr) (us:List Value) (kw:List (Str×Value)):Room k (A.under (.builtin "type.__call__" ⟨.ref C::us,kw⟩)):=
 ⟨r.hd,by have:=r.dp;rw[Yh];omega,by have:=r.un;rw[Yi];omega⟩
theorem Room.depth{k:Nat}{A:Around}(r:Room k A):A.depth < recursionLimit:=by have:=r.dp;omega
def CN:TA:=λ_ H Q=>Q [] H
def Yj(ta:TE)(tr:TA):TA:=λσ H Q=>ta σ H λx H1=>tr σ H1 λxs H2=>Q (x::xs) H2
section
variable {X:Cx} {e:Expr} {es:List Expr} {te:TE} {t:TA} {pos:Pos}
theorem j9:PA X [] CN:=λ_ _ _ _ H Q I h=>Calls.spliced_nil ⟨[],H,I,.nil,h⟩
theorem ji(ha:PE X e te)(hr:PA X es t)(hs:starEach (e::es) X.env=(false,eval e X.env)::starEach es X.env:=by rfl):PA X (e::es) (Yj te t):=by intro pos pins s σ H Q I h;rw[hs];show wpAny _ _ (spliced ((false,eval e X.env)::backTo pos (starEach es X.env))) _ _ s;refine Calls.spliced_cons (thn (ha pins s σ H _ I h) λu s1 ⟨x,H1,I1,r1,q1⟩=>?_);exact thn (hr pos pins s1 σ H1 _ I1 q1) λus s2 ⟨xs,H2,I2,r2,q2⟩=>⟨x::xs,H2,I2,.cons r1 r2,q2⟩
def Yk(t:TA):TE:=λσ H Q=>t σ H λxs H1=>xs.length<=sizeLine/\∀p,H1 p=none->Q (.ref p) (upd H1 p (.tup xs))
def Yl(t:TA):TE:=λσ H Q=>t σ H λxs H1=>xs.length<=sizeLine/\∀p,H1 p=none->Q (.ref p) (upd H1 p (.lst xs))
theorem Ym{x1}(h:PA X es t):PE X (.Tuple es x1 pos) (Yk t):=by intro pins s σ H Q I hq;refine wpAny_Tuple_spliced (thn (h pos pins s σ H _ I hq) λus s1 ⟨xs,H1,I1,r,z,q⟩=>⟨by rw[<-r.length];exact z,?_⟩);have hf:H1 s1.heap.objs.size=none:=I1.hok.fresh (ay _);refine ⟨.ref s1.heap.objs.size,upd H1 s1.heap.objs.size (.tup xs),I1.laid (t':=s1.toks) (λb u e=>al _ e) (ay _) ?_,rfl,q _ hf⟩;exact ⟨z,us,r,⟨_,bd _ rfl,rfl,_,rfl⟩⟩
theorem Yn(h:PA X es t):PE X (.List es pos) (Yl t):=by intro pins s σ H Q I hq;refine wpAny_List_spliced (thn (h pos pins s σ H _ I hq) λus s1 ⟨xs,H1,I1,r,z,q⟩=>⟨by rw[<-r.length];exact z,?_⟩);have hf:H1 s1.heap.objs.size=none:=I1.hok.fresh (ay _);refine ⟨.ref s1.heap.objs.size,upd H1 s1.heap.objs.size (.lst xs),I1.laid (t':=s1.toks) (λb u e=>al _ e) (ay _) ?_,rfl,q _ hf⟩;exact ⟨z,us,0,r,bd _ rfl⟩
end
abbrev Sp:=List V->Hp->VK->XK->Prop
abbrev CXT:=List Env->Hp->Shared->XK->Value->Shared->Prop
structure Env0(P:Program)(w:World)(K:PF)(mg:Str->Option Value)(base:Heap)(A:Around)(outer:List Env)(s:Shared)(H:Hp):Prop where
 frames:A.frames=some outer
 mod:Mod K mg base
 bs:∀b o,base.get? b=some o->s.heap.get? b=some o/\H b=none
 bsz:base.objs.size<=s.heap.objs.size
 funs:s.heap.FunFrames base outer
 frf:∀b∈frs outer,H b=none
 hok:HOk P w H s.heap
 bare:AllBare s.gens
def CE(outer:List Env)(P:Program)(w:World)(H:Hp)(s:Shared)(Q:VK)(u:Value)(s':Shared):Prop:=
 ∃v H',s'.os=s.os/\AllBare s'.gens/\Un (frs outer) [] H H' s.heap s'.heap/\HOk P w H' s'.heap/\RelV v u/\Q v H'
def CR(CX:CXT)(outer:List Env)(P:Program)(w:World)(H:Hp)(s:Shared)(Q:VK)(E:XK)(r:Result)(s':Shared):Prop:=
 match r with
 |.ok (.ret u)=>CE outer P w H s Q u s'
 |.ok _=>False
 |.error e=>CX outer H s E e s'
structure FnOk(P:Program)(w:World)(K:PF)(mg:Str->Option Value)(base:Heap)(CX:CXT)(k:Nat)(f:Addr)(fd:FuncData)(ps:List Str)(sp:Sp):Prop where
 len:∀vs H Q E,sp vs H Q E->vs.length=ps.length
 run:∀(A:Around)(outer:List Env)(s:Shared)(H:Hp)(args:Args)(us:List Value)(vs:List V)(Q:VK)(E:XK),Room k A->Env0 P w K mg base A outer s H->BindsTo s fd args (ps.zip us)->Vals vs us->sp vs H Q E->
  codeAny (model P w) A (.call (.ref f) args) (CR CX outer P w H s Q E) s
theorem FnOk.mono{P:Program}{w:World}{K:PF}{mg:Str->Option Value}{base:Heap}{CX:CXT}{j k:Nat}{f:Addr}{fd:FuncData}{ps:List Str}{sp:Sp}(F:FnOk P w K mg base CX j f fd ps sp)(h:j<=k):
  FnOk P w K mg base CX k f fd ps sp:=⟨F.len,λA outer s H args us vs Q E hr=>F.run A outer s H args us vs Q E (hr.mono h)⟩
theorem FnOk.imp{P:Program}{w:World}{K:PF}{mg:Str->Option Value}{base:Heap}{CX:CXT}{k:Nat}{f:Addr}{fd:FuncData}{ps:List Str}{sp sp':Sp}(F:FnOk P w K mg base CX k f fd ps sp)
  (h:∀vs H Q E,sp' vs H Q E->sp vs H Q E):FnOk P w K mg base CX k f fd ps sp':=
 ⟨λvs H Q E q=>F.len vs H Q E (h _ _ _ _ q),λA outer s H args us vs Q E hr he hb hv hs=>F.run A outer s H args us vs Q E hr he hb hv (h _ _ _ _ hs)⟩
theorem Env0.make{P:Program}{w:World}{K:PF}{mg:Str->Option Value}{base:Heap}{A:Around}{outer:List Env}{s:Shared}{H:Hp}(e:Env0 P w K mg base A outer s H)(C:Addr)(us:List Value)(kw:List (Str×Value)):
  Env0 P w K mg base (A.under (.builtin "type.__call__" ⟨.ref C::us,kw⟩)) outer s H:=⟨by first |exact e.frames | (simpa [Around.under,Code.envs,Code.isFrame,pushEnvs] using e.frames),e.mod,e.bs,e.bsz,e.funs,e.frf,e.hok,e.bare⟩
section
variable {X:Cx} {pins:List (Addr×Obj)} {σ:St} {H:Hp} {s s':Shared}
theorem Inv.env0(I:Inv X pins σ H s):Env0 X.prog X.w X.K X.mg X.base X.A X.stack s H:=
 ⟨I.ok.frames,I.ok.mod,I.bs,bv I.ok.bsz I.sz,I.stack,I.stkFree,I.hok,I.bare⟩
theorem Inv.after{Q:VK}{u:Value}(I:Inv X pins σ H s)(h:CE X.stack X.prog X.w H s Q u s'):EP X pins σ Q u s':=by obtain ⟨v,H',os,bare,un,hok,r,q⟩:=h;obtain ⟨hh,g,d,t,os'⟩:=s';obtain rfl:os'=s.os:=os;exact ⟨v,H',I.call (h':=hh) (g':=g) (d':=d) (t':=t) (ch:=[]) un hok bare (λb z=>absurd z (by simp)),r,q⟩
end
def Yo(sp:Sp)(dvs:List V)(E:XK)(t:TA):TE:=λσ H Q=>t σ H λvs H1=>sp (vs++dvs) H1 Q E
def kh(C:Addr)(m:Str)(sp:Sp)(dvs:List V)(E:XK)(ta:TE)(t:TA):TE:=λσ H Q=>ta σ H λx H1=>∃a dx fs,x=.ref a/\H1 a=some (.ins C dx fs)/\fs.lookup m=none/\
 t σ H1 λvs H2=>sp (x::(vs++dvs)) H2 Q E
def Yp(C:Addr)(sp:Sp)(dvs:List V)(E:XK)(t:TA):TE:=λσ H Q=>t σ H λvs H1=>∀x dx,H1 x=none->H1 dx=none->dx≠x->
 sp (.ref x::(vs++dvs)) (upd (upd H1 dx (.own x)) x (.ins C dx [])) (λv H2=>v=.non/\Q (.ref x) H2) E
def Binds(K:PF)(fd:FuncData)(ps:List Str)(ds:List Value):Prop:=
 ∀(s:Shared)(us:List Value),K.In s.heap->(us++ds).length=ps.length->BindsTo s fd ⟨us,[]⟩ (ps.zip (us++ds))
theorem Binds.all{K:PF}{fd:FuncData}{ps:List Str}(h:∀us:List Value,us.length=ps.length->bindArgs fd ⟨us,[]⟩=pure (ps.zip us)):Binds K fd ps []:=λs us _ hl=>by
 rw[dA]at hl ⊢;exact .of_eq (h us hl)
def eQ(CX:CXT)(X:Cx)(E:XK):Prop:=∀(pins:List (Addr×Obj))(σ:St)(H:Hp)(s:Shared)(e:Value)(s':Shared),Inv X pins σ H s->CX X.stack H s E e s'->X.xe e s'
section
variable {X:Cx} {CX:CXT} {k:Nat} {f C:Addr} {fd:FuncData} {ps:List Str} {sp:Sp} {dvs:List V} {ds:List Value} {E:XK} {x m:Str} {p pos apos:Pos} {e o:Expr} {es:List Expr} {ta:TE} {t:TA}
theorem ww{pins:List (Addr×Obj)}{σ:St}{H:Hp}{s:Shared}{Q:VK}{us:List Value}{vs:List V}(F:FnOk X.prog X.w X.K X.mg X.base CX k f fd ps sp)(hr:Room k X.A)(hb:Binds X.K fd ps ds)(hd:Vals dvs ds)(hx:eQ CX X E)
  (I:Inv X pins σ H s) (r:Vals vs us) (h:sp (vs++dvs) H Q E):wpAny (model X.prog X.w) X.A (call (.ref f) us) (EP X pins σ Q) X.xe s:=by
 have r2:Vals (vs++dvs) (us++ds):=r.append hd;have hl:(us++ds).length=ps.length:=by rw[<-r2.length];exact F.len _ _ _ _ h
 refine wpAny_call (codeAny_mono (F.run X.A X.stack s H ⟨us,[]⟩ (us++ds) (vs++dvs) Q E hr I.env0 (hb s us I.kIn hl) r2 h) λr s' hq=>?_);cases r with
 |error e=>exact hx pins σ H s e s' I hq
 |ok fl=>
  cases fl with
  |ret u=>exact I.after hq
  |next=>exact False.elim hq
  |brk=>exact False.elim hq
  |cont=>exact False.elim hq
theorem Yq(F:FnOk X.prog X.w X.K X.mg X.base CX k f fd ps sp)(hr:Room k X.A)(hg:Gl X x)(hm:X.mg x=some (.ref f))(hk:PySem.W.keepIn X.K (.ref f)=true)(hb:Binds X.K fd ps ds)(hd:Vals dvs ds)(hx:eQ CX X E)
  (ha:PA X (e::es) t) (hdb:(x==("__debug__":Str))=false:=by decide) (he:starEach (e::es) X.env=(false,eval e X.env)::starEach es X.env:=by rfl) (hpl:(backTo pos (starEach es X.env)).any (·.1)=false:=by rfl):
  PE X (.Call (.Name x p) (e::es) [] pos) (Yo sp dvs E t):=by
 intro pins s σ H Q I h;refine wpAny_Call_Name_kw (j7 I hg hm ?_ hdb);refine PySem.W.callWith_K (h₀:=X.base) I.ok.mod.kin hk (thn (ha pos pins s σ H _ I h) λus s1 ⟨vs,H1,I1,r,q⟩=>⟨I1.kIn,?_⟩) he hpl;exact ww F hr hb hd hx I1 r q
theorem Yr{pl:Sem Bool}(he:PE X o ta)(c:Cls X.K C)(hm:Meth X.K C m f)(F:FnOk X.prog X.w X.K X.mg X.base CX k f fd ps sp)(hr:Room k X.A)(hb:Binds X.K fd ps ds)(hd:Vals dvs ds)(hx:eQ CX X E)(ha:PA X (e::es) t)
  (hst:starEach (e::es) X.env=(false,eval e X.env)::starEach es X.env:=by rfl) (hpl:(backTo pos (starEach es X.env)).any (·.1)=false:=by rfl)
  (ht:eval (.Call (.Attribute o m apos) (e::es) [] pos) X.env=(do
   let ov <-eval o X.env
   standAt apos.atName
   let (f,first) <-holding [ov] (getMethod ov m pl)
   callWith pos f first (backTo pos (starEach (e::es) X.env)) (backToKw pos (keywordEach [] X.env))):=by rfl):
  PE X (.Call (.Attribute o m apos) (e::es) [] pos) (kh C m sp dvs E ta t):=by
 intro pins s σ H Q I h;refine fT (pl:=pl) (thn (he pins s σ H _ I h) λu s1 ⟨x,H1,I1,rx,a,dx,fs,ex,ea,l,q⟩=>?_) ht;subst ex;obtain rfl:u=Value.ref a:=rx;refine qI I1 ea c hm l ?_;refine PySem.W.callWith_K (first:=[.ref a]) (h₀:=X.base) I.ok.mod.kin hm.kp (thn (ha pos pins s1 σ H1 _ I1 q) λus s2 ⟨vs,H2,I2,r,q2⟩=>⟨I2.kIn,?_⟩) hst hpl;exact ww (us:=.ref a::us) (vs:=.ref a::vs) F hr hb hd hx I2 (.cons rfl r) q2
theorem Ys{pl:Sem Bool}(he:PE X o ta)(c:Cls X.K C)(hm:Meth X.K C m f)(F:FnOk X.prog X.w X.K X.mg X.base CX k f fd ps sp)(hr:Room k X.A)(hb:Binds X.K fd ps ds)(hd:Vals dvs ds)(hx:eQ CX X E)
  (ht:eval (.Call (.Attribute o m apos) [] [] pos) X.env=(do
   let ov <-eval o X.env
   standAt apos.atName
   let (f,first) <-holding [ov] (getMethod ov m pl)
   callWith pos f first (backTo pos (starEach [] X.env)) (backToKw pos (keywordEach [] X.env))):=by rfl):
  PE X (.Call (.Attribute o m apos) [] [] pos) (kh C m sp dvs E ta CN):=by
 intro pins s σ H Q I h;refine fT (pl:=pl) (thn (he pins s σ H _ I h) λu s1 ⟨x,H1,I1,rx,a,dx,fs,ex,ea,l,q⟩=>?_) ht;subst ex;obtain rfl:u=Value.ref a:=rx;refine qI I1 ea c hm l ?_;exact PySem.W.callWith_K0 (first:=[.ref a]) I1.kIn hm.kp (ww (us:=[.ref a]) (vs:=[.ref a]) F hr hb hd hx I1 (.cons rfl .nil) q)
structure Mk(K:PF)(C f:Addr):Prop where
 makes:PySem.W.makesIn K C=true
 init:PySem.W.findIn K (.ref C) "__init__"=some (some (.ref f))
 fn:PySem.W.isFn K (.ref f)=true
 kp:PySem.W.keepIn K (.ref C)=true
theorem Yt{pins:List (Addr×Obj)}{σ:St}{H:Hp}{s:Shared}{Q:VK}{us:List Value}{vs:List V}(M:Mk X.K C f)(F:FnOk X.prog X.w X.K X.mg X.base CX k f fd ps sp)(hr:Room (k+1) X.A)(hb:Binds X.K fd ps ds)(hd:Vals dvs ds)
  (hx:eQ CX X E) (I:Inv X pins σ H s) (r:Vals vs us)
  (h:∀x dx,H x=none->H dx=none->dx≠x->sp (.ref x::(vs++dvs)) (upd (upd H dx (.own x)) x (.ins C dx [])) (λv H2=>v=.non/\Q (.ref x) H2) E):
  wpAny (model X.prog X.w) X.A (call (.ref C) us) (EP X pins σ Q) X.xe s:=by
 have hq:=h (s.heap.objs.size+1) s.heap.objs.size (I.hok.fresh (fy _)) (I.hok.fresh (ay _)) (cq (Nat.lt_succ_self _));have I2:=Inv.made (C:=C) I;have r2:Vals (V.ref (s.heap.objs.size+1)::(vs++dvs)) (Value.ref (s.heap.objs.size+1)::(us++ds)):=.cons rfl (r.append hd);have hl:(Value.ref (s.heap.objs.size+1)::us++ds).length=ps.length:=by have e:=r2.length;rw[F.len _ _ _ _ hq]at e;exact e.symm
 refine wpAny_call (X4 (f:=f) I.kIn M.makes M.init (aw.mp M.fn) (codeAny_mono (F.run _ X.stack _ _ ⟨Value.ref (s.heap.objs.size+1)::us,[]⟩ (Value.ref (s.heap.objs.size+1)::(us++ds)) _ _ E (hr.make C us [])
  (I2.env0.make C us []) (hb _ (Value.ref (s.heap.objs.size+1)::us) I2.kIn hl) r2 hq) λr s' hq'=>?_))
 cases r with
 |error e=>exact hx pins σ _ _ e s' I2 hq'
 |ok fl=>
  cases fl with
  |ret u=>
   obtain ⟨v,H',I3,rv,ev,q3⟩:=I2.after hq';subst ev;exact ⟨rv,⟨V.ref (s.heap.objs.size+1),H',I3,rfl,q3⟩⟩
  |next=>exact False.elim hq'
  |brk=>exact False.elim hq'
  |cont=>exact False.elim hq'
theorem Yu(M:Mk X.K C f)(F:FnOk X.prog X.w X.K X.mg X.base CX k f fd ps sp)(hr:Room (k+1) X.A)(hg:Gl X x)(hm:X.mg x=some (.ref C))(hb:Binds X.K fd ps ds)(hd:Vals dvs ds)(hx:eQ CX X E)
  (ha:PA X (e::es) t) (hdb:(x==("__debug__":Str))=false:=by decide) (he:starEach (e::es) X.env=(false,eval e X.env)::starEach es X.env:=by rfl) (hpl:(backTo pos (starEach es X.env)).any (·.1)=false:=by rfl):
  PE X (.Call (.Name x p) (e::es) [] pos) (Yp C sp dvs E t):=by
 intro pins s σ H Q I h;refine wpAny_Call_Name_kw (j7 I hg hm ?_ hdb);refine PySem.W.callWith_K (h₀:=X.base) I.ok.mod.kin M.kp (thn (ha pos pins s σ H _ I h) λus s1 ⟨vs,H1,I1,r,q⟩=>⟨I1.kIn,?_⟩) he hpl;exact Yt M F hr hb hd hx I1 r q
end
structure FnScope(N P:List Str)(sc:Scope):Prop where
 kind:sc.kind=.function
 co:sc.isCoroutine=false
 gen:sc.isGenerator=false
 nd:N.Nodup
 pre:N.take P.length=P
 par:∀x∈P,sc.names.lookup x=some .local\/sc.names.lookup x=some .cell
 nofree:∀y∈sc.names,y.2≠.free
theorem CP{kindOf:Str->Option NameKind}{x:Str}:∀{binds:List (Str×Value)}{m:Str->Option Value},(∀v,(x,v)∉binds)->bindL kindOf binds m x=m x
 |[],_,_=>rfl
 | (n,v)::r,m,h=>by
  unfold bindL;rw[CP λw hw=>h w (ca _ hw)];split
  ·have:x≠n:=by rintro rfl;exact h v cp
   simp[this]
  ·rfl
theorem CQ{kindOf:Str->Option NameKind}{x:Str}:∀{binds:List (Str×Value)}{m:Str->Option Value},(∀v,(x,v)∉binds)->bindC kindOf binds m x=m x
 |[],_,_=>rfl
 | (n,v)::r,m,h=>by
  unfold bindC;rw[CQ λw hw=>h w (ca _ hw)];split
  ·rfl
  ·have:x≠n:=by rintro rfl;exact h v cp
   simp[this]
theorem CW{kindOf:Str->Option NameKind}{x:Str}{v:Value}:∀{P:List Str}{vs:List Value}{i:Nat}{m:Str->Option Value},P.Nodup->P[i]?=some x->vs[i]?=some v->kindOf x=some .local->
  bindL kindOf (P.zip vs) m x=some v
 |[],_,_,_,_,h,_,_=>by simp at h
 |_::_,[],_,_,_,_,h,_=>by simp at h
 |p::P,w::vs,0,m,nd,h1,h2,hk=>by
  simp at h1 h2;subst h1;subst h2;show bindL kindOf ((p,w)::P.zip vs) m p=_;unfold bindL;rw[CP λv hv=>(List.nodup_cons.mp nd).1 (List.of_mem_zip hv).1,if_pos hk];simp
 |p::P,w::vs,i+1,m,nd,h1,h2,hk=>by
  show bindL kindOf ((p,w)::P.zip vs) m x=_;unfold bindL;exact CW (i:=i) (List.nodup_cons.mp nd).2 (by simpa using h1) (by simpa using h2) hk
theorem CZ{kindOf:Str->Option NameKind}{x:Str}{v:Value}:∀{P:List Str}{vs:List Value}{i:Nat}{m:Str->Option Value},P.Nodup->P[i]?=some x->vs[i]?=some v->kindOf x≠some .local->
  bindC kindOf (P.zip vs) m x=some v
 |[],_,_,_,_,h,_,_=>by simp at h
 |_::_,[],_,_,_,_,h,_=>by simp at h
 |p::P,w::vs,0,m,nd,h1,h2,hk=>by
  simp at h1 h2;subst h1;subst h2;show bindC kindOf ((p,w)::P.zip vs) m p=_;unfold bindC;rw[CQ λv hv=>(List.nodup_cons.mp nd).1 (List.of_mem_zip hv).1,if_neg hk];simp
 |p::P,w::vs,i+1,m,nd,h1,h2,hk=>by
  show bindC kindOf ((p,w)::P.zip vs) m x=_;unfold bindC;exact CZ (i:=i) (List.nodup_cons.mp nd).2 (by simpa using h1) (by simpa using h2) hk
def start(N:List Str)(vs:List V):St:=vs.map some++List.replicate (N.length - vs.length) none
def cQ(CX:CXT)(P:Program)(w:World)(K:PF)(mg:Str->Option Value)(base:Heap)(N:List Str)(qual:Str)(scope:Scope)(f:Addr)(cd:Value)(A:Around)(outer:List Env)(s:Shared)(H:Hp)(E:XK):Cx where
 prog:=P
 w:=w
 K:=K
 mg:=mg
 base:=base
 A:=A.deeper (envOfC qual scope s.heap.objs.size f cd)
 N:=N
 s₀:=s
 H₀:=H
 env:=envOfC qual scope s.heap.objs.size f cd
 outer:=outer
 stack:=envOfC qual scope s.heap.objs.size f cd::outer
 ex:=[]
 calm:=true
 fn:=λ_=>true
 pn:=[]
 xe:=λe s'=>wpAny (model P w) (A.deeper (envOfC qual scope s.heap.objs.size f cd)) (leaving (envOfC qual scope s.heap.objs.size f cd) e) (λ_ s''=>CX outer H s E e s'') (λe' s''=>CX outer H s E e' s'') s'
theorem Dc{sc:Scope}{n:Nat}{x:Str}(h:sc.names.lookup x=some .cell):∃c,(cellsFrom n sc.names []).lookup x=some c:=by have q:=PySem.W.cellsFrom_some sc.names n [] (.inl h);exact cK.mp q
theorem Dd{CX:CXT}{P:Program}{w:World}{K:PF}{mg:Str->Option Value}{base:Heap}{N ps:List Str}{qual:Str}{scope:Scope}{f:Addr}{cd:Value}{A:Around}{outer:List Env}{s s1:Shared}{H:Hp}{E:XK}{us:List Value}{vs:List V}
  (S:FnScope N ps scope) (hd:A.handled=none) (e0:Env0 P w K mg base A outer s H) (hl:vs.length=ps.length) (r:Vals vs us)
  (x:InCallC s s.heap.objs.size (bindL (envOfC qual scope s.heap.objs.size f cd).kindOf (ps.zip us) λ_=>none) (cellsFrom (s.heap.objs.size+1) scope.names []) (bindC (envOfC qual scope s.heap.objs.size f cd).kindOf (ps.zip us) λ_=>none) s1):
  Inv (cQ CX P w K mg base N qual scope f cd A outer s H E) [] (start N vs) H s1:=by
 have hpl:ps.length<=N.length:=by have:=fb List.length S.pre;rw[bb]at this;omega
 obtain ⟨h1,tk,rfl,hk⟩:=x.done;have noA:∀b:Addr,b∉(cQ CX P w K mg base N qual scope f cd A outer s H E).ex:=λb z=>absurd (show b∈([]:List Addr) from z) (by simp);refine ⟨⟨e0.mod,S.kind,rfl,rfl,ay _,λy z c h1 h2=>?_,λy hy=>?_,λy c _ h=>?_,λ_=>hd,Around.frames_deeper e0.frames,.inr ⟨rfl,rfl⟩,λb z=>absurd z (noA b),e0.bs,e0.bsz,λb _ _=>noA b,λb z=>absurd z (noA b),e0.funs,e0.frf⟩,
  rfl,e0.bare,Un.kept hk,⟨_,x.toInCall.ns,λi y v h1 h2 h3=>?_⟩,λy c h=>⟨_,x.cell y c h⟩,e0.hok.fresh (ay _),λy c h=>?_,λp hp=>absurd (show p∈([]:List (Addr×Obj)) from hp) (by simp),e0.hok.kept hk,?_⟩
 ·exact name_of_addr x.apart (d3 h1) (d3 h2)
 ·have hy:scope.names.lookup y=some .cell\/scope.names.lookup y=some .free:=hy;rcases hy with hy |hy
  ·exact Dc hy
  ·exact absurd rfl (S.nofree _ (d3 hy))
 ·exact Nat.le_of_lt (x.above y c (d3 h))
 ·have hi:i < vs.length:=by
   unfold start at h2;by_cases hi:i < vs.length
   ·exact hi
   ·rw[List.getElem?_append_right (by simpa using hi)]at h2;rw[List.getElem?_replicate]at h2;split at h2 <;> cases h2
  have ha:vs[i]?=some v:=by
   unfold start at h2;rw[eD (by simpa using hi),aE]at h2;cases e:vs[i]? with
   |none=>rw[e]at h2;cases h2
   |some a=>rw[e]at h2;cases h2;rfl
  obtain ⟨u,hu,rv⟩:=r.get ha;have hp:ps[i]?=some y:=by rw[<-S.pre,List.getElem?_take_of_lt (by omega)];exact h1
  have ndP:ps.Nodup:=by rw[<-S.pre];exact S.nd.sublist (List.take_sublist _ _)
  refine ⟨u,rv,?_⟩;rcases S.par y (bP hp) with k |k
  ·exact .inl ⟨k,CW ndP hp hu k⟩
  ·obtain ⟨c,e⟩:=Dc (n:=s.heap.objs.size+1) k;refine .inr ⟨.inl k,c,e,?_⟩;have q:=x.cell y c e;rw[CZ ndP hp hu (by show scope.names.lookup y≠_;rw[k];decide)]at q;exact q
 ·exact e0.hok.fresh (Nat.le_of_lt (x.above y c (d3 h)))
 ·unfold start;show _=N.length;rw[av,ag,cr];omega
theorem Yv{CX:CXT}{P:Program}{w:World}{K:PF}{mg:Str->Option Value}{base:Heap}{k:Nat}{f:Addr}{name qual:Str}{params:Arguments}{body:List Stmt}{scope:Scope}{dV kV doc pm cdv ct oc:Value}{an od:Option Addr}
  {osl:Array (Option Value)} {N ps:List Str} {sp:Sp} (lk:K.lookup f=some ⟨oc,od,.func (PySem.W.fnOf name qual params body scope dV kV doc pm an cdv ct),osl⟩) (hcd:PySem.W.codeIn K cdv qual=true) (S:FnScope N ps scope)
  (len:∀vs H Q E,sp vs H Q E->vs.length=ps.length)
  (hbody:∀(A:Around)(outer:List Env)(s:Shared)(H:Hp)(vs:List V)(Q:VK)(E:XK),Room k (A.deeper (envOfC qual scope s.heap.objs.size f cdv))->sp vs H Q E->
   ∃t,PSs (cQ CX P w K mg base N qual scope f cdv A outer s H E) body t/\t { nx:=λ_ H'=>Q .non H',rt:=Q } (start N vs) H):
  FnOk P w K mg base CX (k+1) f (PySem.W.fnOf name qual params body scope dV kV doc pm an cdv ct) ps sp:=by
 refine ⟨len,λA outer s H args us vs Q E hr e0 hb r hsp=>?_⟩;have hl:=len _ _ _ _ hsp;have KX:K.In s.heap:=e0.mod.kin.keeps λb o e=>(e0.bs b o e).1;have lim:s.heap.NoLimit:=e0.mod.nolimit.keeps λb o e=>(e0.bs b o e).1;have hkind:∀y∈ps.zip us,scope.names.lookup y.1=some .local\/(scope.names.lookup y.1=some .cell/\((cellsFrom (s.heap.objs.size+1) scope.names []).lookup y.1).isSome=true):=λ⟨n,v⟩ hy=>by
  rcases S.par n (List.of_mem_zip hy).1 with q |q
  ·exact .inl q
  ·exact .inr ⟨q,PySem.W.cellsFrom_some _ _ _ (.inl q)⟩
 refine codeAny_call_function hr.depth (KX _ _ lk) rfl S.co S.gen rfl (PySem.W.codeRec_of KX hcd) (hb _ _ _ _ ?_);refine wpAny_newFunctionEnv_cells S.kind hkind λenv he s1 x=>?_;subst he;refine ⟨lim.keeps x.toInCall.keep,codeAny_func ?_⟩;obtain ⟨t,ht,hq⟩:=hbody A outer s H vs Q E (hr.deeper _) hsp;have I:Inv (cQ CX P w K mg base N qual scope f cdv A outer s H E) [] (start N vs) H s1:=Dd S hr.hd e0 hl r x;refine cS (ht [] s1 (start N vs) H _ I hq) (λfl s' hs=>?_) λe s' hs=>hs;have fin:∀{σ':St}{H':Hp}{v:V}{u:Value},Inv (cQ CX P w K mg base N qual scope f cdv A outer s H E) [] σ' H' s'->RelV v u->Q v H'->CE outer P w H s Q u s':=
  λ{σ' H' v u} J rv q=>⟨v,H',J.os,J.bare,J.base,J.hok,rv,q⟩
 cases fl with
 |ret u=>
  obtain ⟨v,σ',H',J,rv,q⟩:=hs;exact fin J rv q
 |next=>
  obtain ⟨σ',H',J,q⟩:=hs;exact fin (v:=V.non) (u:=Value.none) J rfl q
 |brk=>
  obtain ⟨_,_,_,q⟩:=hs;exact False.elim q
 |cont=>
  obtain ⟨_,_,_,q⟩:=hs;exact False.elim q
section
variable {X:Cx} {x:Str} {p pos:Pos} {e:Expr} {es:List Expr} {t:TA} {id T:String} {r:List V->Hp->VK->Prop}
def tCB(r:List V->Hp->VK->Prop)(t:TA):TE:=λσ H Q=>t σ H λvs H1=>r vs H1 Q
theorem qJ (hc:bJ X (.builtin id) r) (hg:Gl X x) (hm:X.mg x=none) (hv:bootBuiltins x=some (.builtin id)) (ha:PA X (e::es) t) (hn:x≠"__name__":=by decide) (hdb:(x==("__debug__":Str))=false:=by decide)
  (he:starEach (e::es) X.env=(false,eval e X.env)::starEach es X.env:=by rfl) (hpl:(backTo pos (starEach es X.env)).any (·.1)=false:=by rfl):PE X (.Call (.Name x p) (e::es) [] pos) (tCB r t):=by
 intro pins s σ H Q I h;refine wpAny_Call_Name_kw (jh I hg hm hv ?_ hn hdb);exact PyProof.Rows.callWith_builtin1 (thn (ha pos pins s σ H _ I h) λus s1 ⟨vs,H1,I1,r1,q1⟩=>hc pins s1 σ H1 vs us Q I1 r1 q1) he hpl
theorem qK (hc:bJ X (.type T) r) (hg:Gl X x) (hm:X.mg x=none) (hv:bootBuiltins x=some (.type T)) (ha:PA X (e::es) t) (hn:x≠"__name__":=by decide) (hdb:(x==("__debug__":Str))=false:=by decide)
  (he:starEach (e::es) X.env=(false,eval e X.env)::starEach es X.env:=by rfl) (hpl:(backTo pos (starEach es X.env)).any (·.1)=false:=by rfl):PE X (.Call (.Name x p) (e::es) [] pos) (tCB r t):=by
 intro pins s σ H Q I h;refine wpAny_Call_Name_kw (jh I hg hm hv ?_ hn hdb);exact fh (thn (ha pos pins s σ H _ I h) λus s1 ⟨vs,H1,I1,r1,q1⟩=>hc pins s1 σ H1 vs us Q I1 r1 q1) he hpl
end
end L2
namespace HT
open PySem PyProof.Rows
section
variable {prog:Program} {w:World} {A:Around} {E:Value->Shared->Prop} {s:Shared}
theorem Yw{t b:Addr}{vs ws:List Value}{Q:Value->Shared->Prop}(ht:IsTup s.heap t vs.toArray)(hb:IsTup s.heap b ws.toArray)(hv:vs≠[])
  (h1:ws=[]->Q (.ref t) s) (h2:ws≠[]->Q (.ref s.heap.objs.size) { s with heap:=s.heap.push { cls:=.type "tuple",data:=.seq (vs++ws).toArray } })
  (hsz:vs.length+ws.length<=sizeLine):wpAny (model prog w) A (binaryOp .Add (.ref t) (.ref b)) Q E s:=by
 obtain ⟨⟨cls,dd,data,sl⟩,ho,hc,n,hd⟩:=id ht;obtain ⟨⟨cls2,dd2,data2,sl2⟩,ho2,hc2,n2,hd2⟩:=id hb;simp only at hc hd hc2 hd2;subst hc hd hc2 hd2;have e:vs.toArray++ws.toArray=(vs++ws).toArray:=by simp
 by_cases hw:ws=[]
 ·exact concat_meets ⟨_,ho,rfl⟩ ⟨_,ho2,rfl⟩ noFill_tuple_add seq_tuple_add PySem.F.slot_tuple_add PySem.F.entry_tuple_add (PySem.F.args_tuple_add_2 _ _)
   (tuple_addW1 t b vs.toArray ws.toArray n n2 dd dd2 sl sl2 (by simpa using hv) (by simp[hw])) ⟨ho,ho2,h1 hw⟩
 ·refine concat_meets ⟨_,ho,rfl⟩ ⟨_,ho2,rfl⟩ noFill_tuple_add seq_tuple_add PySem.F.slot_tuple_add PySem.F.entry_tuple_add (PySem.F.args_tuple_add_2 _ _)
   (tuple_addW2 t b vs.toArray ws.toArray n n2 dd dd2 sl sl2 (by simpa using hv) (by simpa using hw) (by rw[List.size_toArray,List.size_toArray];exact hsz)) ⟨ho,ho2,?_⟩
  rw[e];exact h2 hw
noncomputable def sIx(n d:Nat):Option Int->Nat
 |none=>d
 |some v=>if v < 0 then (v+(n:Int)).toNat else min v.toNat n
theorem De(n d k:Nat):sIx n d (some (k:Int))=min k n:=by show (if (k:Int) < 0 then ((k:Int)+(n:Int)).toNat else min (k:Int).toNat n)=min k n;rw[if_neg (by omega),Int.toNat_natCast]
theorem Df(n d:Nat)(hd:d<=n)(o:Option Int):sIx n d o<=n:=by
 cases o with
 |none=>exact hd
 |some v=>
  show (if v < 0 then (v+(n:Int)).toNat else min v.toNat n)<=n;by_cases hv:v < 0
  ·rw[if_pos hv];omega
  ·rw[if_neg hv];exact Nat.min_le_right _ _
theorem Dg(v:Int)(n d:Nat):(if v < 0 then max (v+(n:Int)) 0 else min v (n:Int))=((sIx n d (some v):Nat):Int):=by
 show (if v < 0 then max (v+(n:Int)) 0 else min v (n:Int))=(((if v < 0 then (v+(n:Int)).toNat else min v.toNat n):Nat):Int);by_cases hv:v < 0
 ·simp only[if_pos hv];omega
 ·simp only[if_neg hv];omega
theorem Yx(lo hi:Option Int)(n:Nat):Builtin.Slice.sliceAdjust lo hi 1 (n:Int)=(((sIx n 0 lo:Nat):Int),((sIx n n hi:Nat):Int)):=by
 have h1:¬((1:Int) < 0):=by omega
 unfold Builtin.Slice.sliceAdjust;simp only[h1,if_false];refine Prod.ext ?_ ?_
 ·cases lo with
  |none=>rfl
  |some v=>exact Dg v n 0
 ·cases hi with
  |none=>rfl
  |some v=>exact Dg v n n
theorem Yy(i j:Nat):Builtin.Slice.slicePlaces (i:Int) (j:Int) 1=j - i:=by
 unfold Builtin.Slice.slicePlaces;have h1:(1:Int) > 0:=by omega
 simp only[h1,if_true,Int.ediv_one];split <;> omega
theorem Dh{v:Value}{o:Option Int}{Q:Option Int->Shared->Prop}(p:IsPart v o)(h:Q o s):wpAny (model prog w) A (Builtin.Slice.slicePartIndex v) Q E s:=by
 cases p with
 |none=>exact slicePart_none h
 |int i t=>exact slicePart_int h
theorem Di{sl:Addr}{vl vu:Value}{lo hi:Option Int}{n:Nat}{Q:Int×Int×Nat->Shared->Prop}(hs:s.heap.IsSliceOf sl vl vu .none)(pl:IsPart vl lo)(pu:IsPart vu hi)
  (h:Q (((sIx n 0 lo:Nat):Int),1,sIx n n hi - sIx n 0 lo) s):wpAny (model prog w) A (Builtin.Slice.sliceApplied (.ref sl) (pure (n:Int))) Q E s:=by
 obtain ⟨os,hos,hcs,hds⟩:=id hs;unfold Builtin.Slice.sliceApplied Builtin.Slice.sliceFields;refine wpAny_bind (wpAny_bind (wpAny_field hos hds (x:=vl) rfl (wpAny_bind (wpAny_field hos hds (x:=vu) rfl (wpAny_bind (wpAny_field hos hds (x:=.none) rfl (wpAny_pure ?_)))))));refine wpAny_bind (slicePart_none ?_);show wpAny _ _ (if ((1:Int)==0)=true then _ else _) _ _ s;rw[if_neg (by decide)];refine wpAny_bind (Dh pl (wpAny_bind (Dh pu (wpAny_bind (wpAny_pure ?_)))));show wpAny _ _ (match Builtin.Slice.sliceAdjust lo hi 1 (n:Int) with | (lo,hi)=>pure (lo,(1:Int),Builtin.Slice.slicePlaces lo hi 1)) _ _ s;rw[Yx lo hi n];show wpAny _ _ (pure (((sIx n 0 lo:Nat):Int),(1:Int),Builtin.Slice.slicePlaces ((sIx n 0 lo:Nat):Int) ((sIx n n hi:Nat):Int) 1)) _ _ s;rw[Yy];exact wpAny_pure h
theorem Yz(xs:Array Value)(i k:Nat):((List.range k).filterMap λ(m:Nat)=>xs[((i:Int)+(m:Int) * 1).toNat]?).toArray=((xs.toList.drop i).take k).toArray:=by
 have e:(λ(m:Nat)=>xs[((i:Int)+(m:Int) * 1).toNat]?)=λm=>xs[i+m]?:=by
  funext m;have:((i:Int)+(m:Int) * 1).toNat=i+m:=by omega
  rw[this]
 rw[e];have:=pick_run xs i k;rw[List.filterMap_map]at this;have e2:((λx=>xs[x]?)∘λx=>i+x)=λm=>xs[i+m]?:=rfl;rw[e2]at this;rw[this]
theorem YB{t sl:Addr}{items:Array Value}{vl vu:Value}{lo hi:Option Int}{Q:Value->Shared->Prop}(ht:IsTup s.heap t items)(hs:s.heap.IsSliceOf sl vl vu .none)(pl:IsPart vl lo)(pu:IsPart vu hi)
  (hw:¬(sIx items.size 0 lo=0/\sIx items.size items.size hi=items.size))
  (h:Q (.ref s.heap.objs.size) { s with heap:=s.heap.push { cls:=.type "tuple",data:=.seq ((items.toList.drop (sIx items.size 0 lo)).take (sIx items.size items.size hi - sIx items.size 0 lo)).toArray } })
  (hsz:items.size<=sizeLine):wpAny (model prog w) A (getItem (.ref t) (.ref sl)) Q E s:=by
 have htake:sizeOk (.seq ((items.toList.drop (sIx items.size 0 lo)).take (sIx items.size items.size hi - sIx items.size 0 lo)).toArray):=by show ((items.toList.drop (sIx items.size 0 lo)).take (sIx items.size items.size hi - sIx items.size 0 lo)).toArray.size<=sizeLine;rw[List.size_toArray,List.length_take,List.length_drop,Array.length_toList];omega
 have hj:sIx items.size items.size hi<=items.size:=Df _ _ (Nat.le_refl _) hi;obtain ⟨os,hos,hcs,hds⟩:=id hs;have hTs:s.TypeIs (.ref sl) "slice":=⟨os,hos,hcs⟩;unfold getItem;try with_reducible refine wpAny_holding ?_
 first |refine wpAny_bind (wpAny_pure ?_) |skip
 refine wpAny_bind (wpAny_sequenceKey ht.typeIs (by decide) ?_);refine wpAny_bind (wpAny_callSpecial?_slot (name:=Str.ofString "__getitem__") ht.typeIs PyProof.Rows.slot_tuple_getitem
  (wpAny_call_entry PyProof.Rows.slot_tuple_getitem ht.typeIs entry_tuple_getitem ?_ (args_tuple_getitem _ _)))
 show wpAny _ _ (Builtin.Tuple.tupleItemsOf (.ref t) >>= _) _ _ s;refine wpAny_bind (tupleItemsOf_ ht ?_);refine wpAny_bind (wpAny_typeOf hTs ?_);rw[if_pos (by decide)];refine wpAny_bind (Di hs pl pu ?_);have hno:¬((((sIx items.size 0 lo:Nat):Int)==0&&(1:Int)==1&&(sIx items.size items.size hi - sIx items.size 0 lo)==items.size)=true):=by intro q;rw[Bool.and_eq_true,Bool.and_eq_true]at q;have q1:((sIx items.size 0 lo:Nat):Int)=0:=eq_of_beq q.1.1;have q2:sIx items.size items.size hi - sIx items.size 0 lo=items.size:=eq_of_beq q.2;exact hw ⟨by omega,by omega⟩
 show wpAny _ _ (if (((sIx items.size 0 lo:Nat):Int)==0&&(1:Int)==1&&(sIx items.size items.size hi - sIx items.size 0 lo)==items.size)=true then _ else _) _ _ s;rw[if_neg hno,Yz];first
  |exact wpAny_bind (m:=Builtin.Tuple.tupleExact _) (wpAny_newObj_type (wpAny_pure ⟨_,rfl,wpAny_pure h⟩) htake)
  |exact wpAny_bind (m:=Builtin.Tuple.tupleExact _) (wpAny_newObj_type (wpAny_bind (wpAny_pure (wpAny_pure ⟨_,rfl,wpAny_pure h⟩))) htake)
  |exact wpAny_bind (wpAny_bind (m:=Builtin.Tuple.tupleExact _) (wpAny_newObj_type (wpAny_pure (wpAny_pure ⟨_,rfl,wpAny_pure h⟩)) htake))
  |exact wpAny_bind (wpAny_bind (m:=Builtin.Tuple.tupleExact _) (wpAny_newObj_type (wpAny_pure ⟨_,rfl,wpAny_pure h⟩) htake))
end
end HT
namespace L2
open PySem PySem.Spec PyProof.Rows
abbrev TO:=St->Hp->(Option Int->Hp->Prop)->Prop
def PO(X:Cx)(e:Option Expr)(t:TO):Prop:=
 ∀(pins:List (Addr×Obj))(s:Shared)(σ:St)(H:Hp)(Q:Option Int->Hp->Prop),Inv X pins σ H s->t σ H Q->
  wpAny (model X.prog X.w) X.A (evalPart e X.env) (λu s'=>∃o H',Inv X pins σ H' s'/\IsPart u o/\Q o H') X.xe s
def YC:TO:=λ_ H Q=>Q none H
def YD(t:TE):TO:=λσ H Q=>t σ H λx H1=>∃i,x=.int i/\Q (some i) H1
theorem intsAre_of{ns:List Int}:∀{us:List Value},Vals (ns.map V.int) us->IntsAre us ns:=by
 induction ns with
 |nil=>intro us r;rw[dk]at r;cases r;exact .nil
 |cons n ns ih=>
  intro us r;rw[bo]at r;cases r with
  |cons r1 r2=>
   obtain ⟨t,e⟩:=r1;subst e;exact .cons n t (ih r2)
section
variable {X:Cx} {e:Expr} {te:TE} {lo hi:Option Expr} {tl th:TO} {pos p2:Pos}
theorem YF:PO X none YC:=by intro pins s σ H Q I h;rw[evalPart_none];exact bn ⟨none,H,I,.none,h⟩
theorem YG(h:PE X e te):PO X (some e) (YD te):=by intro pins s σ H Q I hw;rw[evalPart_some];refine thn (h pins s σ H _ I hw) λu s1 ⟨x,H1,I1,r1,q1⟩=>?_;obtain ⟨i,rfl,q⟩:=q1;obtain ⟨t,rfl⟩:=r1;exact ⟨some i,H1,I1,.int i t,q⟩
def SlR(X:Cx)(r:V->Option Int->Option Int->Hp->VK->Prop):Prop:=
 ∀(pins:List (Addr×Obj))(s:Shared)(σ:St)(H:Hp)(x:V)(v vl vu:Value)(lo hi:Option Int)(sl:Addr)(Q:VK),Inv X pins σ H s->RelV x v->s.heap.IsSliceOf sl vl vu .none->IsPart vl lo->IsPart vu hi->r x lo hi H Q->
  ∃T id,typeLookup (.type T) "__getitem__"=pure (some (.builtin id))/\s.TypeIs v T/\wpAny (model X.prog X.w) X.A (getItem v (.ref sl)) (EP X pins σ Q) X.xe s
def tSl(r:V->Option Int->Option Int->Hp->VK->Prop)(te:TE)(tl th:TO):TE:=λσ H Q=>te σ H λx H1=>tl σ H1 λl H2=>th σ H2 λu H3=>r x l u H3 Q
theorem YH{r:V->Option Int->Option Int->Hp->VK->Prop}(hr:SlR X r)(he:PE X e te)(hl:PO X lo tl)(hu:PO X hi th):PE X (.Subscript e (.Slice lo hi none p2) pos) (tSl r te tl th):=by intro pins s σ H Q I h;refine Subscript_ (thn (he pins s σ H _ I h) λv s1 ⟨x,H1,I1,r1,q1⟩=>?_);refine wpAny_Slice (thn (hl pins s1 σ H1 _ I1 q1) λvl s2 ⟨l,H2,I2,pl,q2⟩=>thn (hu pins s2 σ H2 _ I2 q2) λvu s3 ⟨u,H3,I3,pu,q3⟩=>?_);rw[evalPart_none];refine bn ?_;have I4:Inv X pins σ H3 { s3 with heap:=s3.heap.push { cls:=.type "slice",data:=.fields #[vl,vu,.none] } }:=I3.kept (t':=s3.toks) λb ob q=>al _ q;obtain ⟨T,id,hT,ht,hg⟩:=hr pins { s3 with heap:=s3.heap.push { cls:=.type "slice",data:=.fields #[vl,vu,.none] } } σ H3 x v vl vu l u s3.heap.objs.size Q I4 r1 (Heap.IsSliceOf.new ..) pl pu q3;show wpAny (model X.prog X.w) X.A (subscriptTail e (.Slice lo hi none p2) v (.ref s3.heap.objs.size)) (EP X pins σ Q) X.xe { s3 with heap:=s3.heap.push { cls:=.type "slice",data:=.fields #[vl,vu,.none] } };exact tail_any (ops:=[.ref s3.heap.objs.size,v]) ht hT hg (by with_unfolding_all rfl)
noncomputable def dO(xs:List V)(lo hi:Option Int):List V:=(xs.drop (HT.sIx xs.length 0 lo)).take (HT.sIx xs.length xs.length hi - HT.sIx xs.length 0 lo)
theorem Dj(xs:List V)(lo hi:Option Int):(dO xs lo hi).length<=xs.length:=by unfold dO;rw[bb,bS];omega
noncomputable def YJ(K:PF):V->Option Int->Option Int->Hp->VK->Prop:=λx lo hi H Q=>∃a xs,x=.ref a/\SqT K H a xs/\
 ¬(HT.sIx xs.length 0 lo=0/\HT.sIx xs.length xs.length hi=xs.length)/\∀p,H p=none->Q (.ref p) (upd H p (.tup (dO xs lo hi)))
theorem YK:SlR X (YJ X.K):=by
 intro pins s σ H x v vl vu lo hi sl Q I rx hs pl pu h;obtain ⟨a,xs,rfl,hx,hw,q⟩:=h;cases rx;obtain ⟨its,r,ht,hz⟩:=I.tuple hx;have hlen:its.toArray.size=xs.length:=by rw[ar];exact r.length.symm
 refine ⟨"tuple",_,eT.lookup,ht.typeIs,?_⟩;refine HT.YB ht hs pl pu (by rw[hlen];exact hw) ?_ (by rw[hlen];exact hz);rw[hlen];refine ⟨.ref s.heap.objs.size,_,I.laid (t':=s.toks) (o:=.tup (dO xs lo hi)) (λb ob q=>al _ q) (ay _) ?_,rfl,q _ (I.hok.fresh (ay _))⟩;exact ⟨bv (Dj xs lo hi) hz,_,(r.drop (HT.sIx xs.length 0 lo)).take (HT.sIx xs.length xs.length hi - HT.sIx xs.length 0 lo),IsTup.new _ _⟩
def YL(K:PF):R2:=λx y H Q=>∃a b xs ys,x=.ref a/\y=.ref b/\SqT K H a xs/\SqT K H b ys/\xs≠[]/\xs.length+ys.length<=sizeLine/\
 (ys=[]->Q (.ref a) H)/\(ys≠[]->∀p,H p=none->Q (.ref p) (upd H p (.tup (xs++ys))))
theorem Vals.nil_iff{xs:List V}{us:List Value}(r:Vals xs us):us=[]↔xs=[]:=by
 cases r with
 |nil=>simp
 |cons _ _=>simp
theorem YM:OpR X (binaryOp .Add) (YL X.K):=by intro pins s σ H x y v u Q I rx ry h;obtain ⟨a,b,xs,ys,rfl,rfl,ha,hb,hx,hz,q1,q2⟩:=h;cases rx;cases ry;obtain ⟨its,r1,p1,_⟩:=I.tuple ha;obtain ⟨its2,r2,p2,_⟩:=I.tuple hb;refine HT.Yw p1 p2 (λz=>hx (r1.nil_iff.mp z)) (λz=>⟨.ref a,H,I,rfl,q1 (r2.nil_iff.mp z)⟩) (λz=>?_) (by rw[<-r1.length,<-r2.length];exact hz);refine ⟨.ref s.heap.objs.size,_,I.laid (t':=s.toks) (o:=.tup (xs++ys)) (λb ob q=>al _ q) (ay _) ?_,rfl,q2 (λw=>z (r2.nil_iff.mpr w)) _ (I.hok.fresh (ay _))⟩;exact ⟨by rw[av];exact hz,_,r1.append r2,IsTup.new _ _⟩
end
noncomputable def ixN(n:Nat)(i:Int):Option Nat:=if 0<=i then (if i < n then some i.toNat else none) else if -(n:Int)<=i then some (i+n).toNat else none
def atI{α:Type}(xs:List α)(i:Int):Option α:=(ixN xs.length i).bind λj=>xs[j]?
theorem Dk{n:Nat}{i:Int}{j:Nat}(h:ixN n i=some j):seqIndex? i n=some j/\j < n/\-(n:Int)<=i/\i < n:=by
 unfold ixN at h;by_cases h0:0<=i
 ·rw[if_pos h0]at h;by_cases h1:i < n
  ·rw[if_pos h1]at h;have e:i.toNat=j:=dv h;exact ⟨by rw[seqIndex_of h0 h1,e],by omega,by omega,h1⟩
  ·rw[if_neg h1]at h;cases h
 ·rw[if_neg h0]at h;by_cases h1:-(n:Int)<=i
  ·rw[if_pos h1]at h;have e:(i+n).toNat=j:=dv h;exact ⟨by rw[seqIndex_neg (by omega) h1,e],by omega,h1,by omega⟩
  ·rw[if_neg h1]at h;cases h
theorem wy{α:Type}{xs:List α}{i:Int}{v:α}(h:atI xs i=some v):∃j,seqIndex? i xs.length=some j/\xs[j]?=some v/\j < xs.length/\-(xs.length:Int)<=i/\i < xs.length:=by
 unfold atI at h;cases e:ixN xs.length i with
 |none=>rw[e]at h;cases h
 |some j=>
  rw[e]at h;obtain ⟨h1,h2,h3,h4⟩:=Dk e;exact ⟨j,h1,h,h2,h3,h4⟩
theorem bB{α:Type}{xs:List α}{j:Nat}{v:α}(h:xs[j]?=some v):atI xs (j:Int)=some v:=by
 have hj:j < xs.length:=(am.mp h).1;have e:ixN xs.length (j:Int)=some j:=by unfold ixN;rw[if_pos (by omega),if_pos (by omega)];simp
 unfold atI;rw[e];exact h
theorem qL{α:Type}(xs:List α)(v:α):atI (xs++[v]) (-1)=some v:=by
 have hl:(xs++[v]).length=xs.length+1:=by simp
 have e:ixN (xs++[v]).length (-1)=some xs.length:=by unfold ixN;rw[hl,if_neg (by decide),if_pos (by omega)];congr 1;omega
 unfold atI;rw[e];show (xs++[v])[xs.length]?=some v;simp
def Dl(b:Expr):Prop:=∀o i,subscripted b false o i=operate [o,i] (getItem o i)
def IxR(X:Cx)(r:R2):Prop:=
 ∀(value slice:Expr)(pins:List (Addr×Obj))(s:Shared)(σ:St)(H:Hp)(x y:V)(v u:Value)(Q:VK),Inv X pins σ H s->RelV x v->RelV y u->r x y H Q->
  subscripted slice false v u=operate [v,u] (getItem v u)->wpAny (model X.prog X.w) X.A (subscriptTail value slice v u) (EP X pins σ Q) X.xe s
def MtR(X:Cx)(id:String)(r:V->List V->Hp->VK->Prop):Prop:=
 ∀(pins:List (Addr×Obj))(s:Shared)(σ:St)(H:Hp)(x:V)(xs:List V)(v:Value)(us:List Value)(Q:VK),Inv X pins σ H s->RelV x v->Vals xs us->r x xs H Q->
  wpAny (model X.prog X.w) X.A (call (.builtin id) (v::us)) (EP X pins σ Q) X.xe s
section
variable {X:Cx} {a b:Expr} {ta tb:TE} {pos:Pos}
theorem YQ{r:R2}(hr:IxR X r)(ha:PE X a ta)(hb:PE X b tb)(hs:Dl b):PE X (.Subscript a b pos) (tOp r ta tb):=by intro pins s σ H Q I h;exact Subscript_ (wj ha hb I h λv u s2 x y H2 I2 rx ry q=>hr a b pins s2 σ H2 x y v u Q I2 rx ry q (hs _ _))
def YS(K:PF):R2:=λx y H Q=>∃p xs i v,x=.ref p/\y=.int i/\SqL K H p xs/\atI xs i=some v/\Q v H
def YT(K:PF):R2:=λx y H Q=>∃p xs i v,x=.ref p/\y=.int i/\SqT K H p xs/\atI xs i=some v/\Q v H
def YW:R2:=λx y H Q=>∃z i c,x=.str z/\y=.int i/\z.length<=sizeLine/\atI z.cps.toList i=some c/\Q (.str ⟨#[c]⟩) H
theorem YX:IxR X (YS X.K):=by
 intro value slice pins s σ H x y v u Q I rx ry h hs;obtain ⟨p,xs,i,z,rfl,rfl,hq,he,q⟩:=h;cases rx;obtain ⟨t,rfl⟩:=ry;obtain ⟨its,r,pl,hz⟩:=I.list hq;obtain ⟨j,h1,h2,h3,h4,h5⟩:=wy he;obtain ⟨w,ew,rw'⟩:=r.get h2;have hl:=r.length;have hn:=ig;have fin:EP X pins σ Q w s:=⟨z,H,I,rw',q⟩;by_cases h0:0<=i
 ·have hj:i.toNat=j:=by
   rw[seqIndex_of h0 h5]at h1;exact dv h1
  exact item_listR pl.isList h0 (by omega) (by rw[hj];simpa using ew) fin hs
 ·have hj:(i+(its.toArray.size:Int)).toNat=j:=by
   rw[seqIndex_neg (by omega) h4]at h1;rw[ar,<-hl];exact dv h1
  exact subscriptTail_builtinR (x:=w) pl.isList.typeIs slot_list_getitem.lookup
   (wpAny_getItem_list_neg (Q:=λr s'=>r=w/\EP X pins σ Q r s') pl.isList (by omega) (by rw[ar] <;> omega) (by omega) (by rw[hj];simpa using ew) ⟨rfl,fin⟩) hs
theorem YZ:IxR X (YT X.K):=by
 intro value slice pins s σ H x y v u Q I rx ry h hs;obtain ⟨p,xs,i,z,rfl,rfl,hq,he,q⟩:=h;cases rx;obtain ⟨t,rfl⟩:=ry;obtain ⟨its,r,pl,hz⟩:=I.tuple hq;obtain ⟨j,h1,h2,h3,h4,h5⟩:=wy he;obtain ⟨w,ew,rw'⟩:=r.get h2;have hl:=r.length;have hn:=ig;have fin:EP X pins σ Q w s:=⟨z,H,I,rw',q⟩;exact subscriptTail_builtinR (x:=w) pl.typeIs slot_tuple_getitem.lookup
  (getItem_tuple (j:=j) (Q:=λr s'=>r=w/\EP X pins σ Q r s') pl (by omega) (by omega) (by rw[ar,<-hl];exact h1) (by simpa using ew) ⟨rfl,fin⟩) hs
theorem Y0:IxR X YW:=by
 intro value slice pins s σ H x y v u Q I rx ry h hs;obtain ⟨z,i,c,rfl,rfl,hz,he,q⟩:=h;obtain ⟨t,rfl⟩:=rx;obtain ⟨t',rfl⟩:=ry;obtain ⟨j,h1,h2,h3,h4,h5⟩:=wy he;have hl:z.cps.toList.length=z.length:=by simp[Str.length]
 rw[hl]at h1 h4 h5;have hn:=ig;exact tail_any (typeIs_str s z t) slot_str_getitem.lookup (getItem_str (c:=c) (by
  have e1:decide (i < -(2 ^ 63:Int))=false:=ck (by omega);have e2:decide (i≥2 ^ 63)=false:=ck (by omega);rw[e1,e2,Bool.or_false]) (by rw[h1];simpa using h2) ⟨.str ⟨#[c]⟩,H,I.tok _,⟨_,rfl⟩,q⟩) hs
theorem Y4 (its:List Value) (n j:Nat) (u:Value):Obj.mapSeq (·.setIfInBounds j u) { cls:=.type "list",data:=.seq its.toArray n }={ cls:=.type "list",data:=.seq (its.set j u).toArray n }:=by simp[Obj.mapSeq]
theorem Inv.lst{pins:List (Addr×Obj)}{σ:St}{H:Hp}{s:Shared}{p:Addr}{xs:List V}(I:Inv X pins σ H s)(h:H p=some (.lst xs)):
  ∃(its:List Value) (n:Nat),Vals xs its/\s.heap.get? p=some { cls:=.type "list",data:=.seq its.toArray n }/\xs.length<=sizeLine:=by
 obtain ⟨z,its,n,r,e⟩:=I.hok p _ h;exact ⟨its,n,r,e,z⟩
theorem Inv.lstUpd{pins:List (Addr×Obj)}{σ:St}{H:Hp}{s:Shared}{p:Addr}{xs ys:List V}{its its':List Value}{n n':Nat}{f:Obj->Obj}(I:Inv X pins σ H s)(h:H p=some (.lst xs))
  (ho:s.heap.get? p=some { cls:=.type "list",data:=.seq its.toArray n }) (hf:f { cls:=.type "list",data:=.seq its.toArray n }={ cls:=.type "list",data:=.seq its'.toArray n' }) (r:Vals ys its') (hz:ys.length<=sizeLine) (t:Nat):
  Inv X pins σ (upd H p (.lst ys)) { s with heap:=s.heap.update p f,toks:=t }:=by
 have e:(s.heap.update p f).get? p=some { cls:=.type "list",data:=.seq its'.toArray n' }:=by rw[Heap.get?_update_self f ho (by rw[hf] <;> rfl),hf]
 refine I.write (x:=p) (e:=p) (by rw[h];trivial) (.inl rfl) (λb u hb q=>(Heap.get?_update_other _ _ (Ne.symm hb)).trans q) ⟨_,e⟩ ?_;exact ⟨hz,its',n',r,e⟩
def Y5:V->V->V->Hp->(Hp->Prop)->Prop:=λo i v H Q=>∃p xs k j,o=.ref p/\i=.int k/\H p=some (.lst xs)/\ixN xs.length k=some j/\Q (upd H p (.lst (xs.set j v)))
theorem set_list:v9 X Y5:=by
 intro pins s σ H o i v ov iv u Q I ro ri rv h;obtain ⟨p,xs,k,j,rfl,rfl,hp,hj,q⟩:=h;cases ro;obtain ⟨t,rfl⟩:=ri;obtain ⟨its,n,r,ho,hz⟩:=I.lst hp;obtain ⟨h1,h2,h3,h4⟩:=Dk hj;have hl:=r.length;have hn:=ig;have I':Inv X pins σ (upd H p (.lst (xs.set j v))) { s with heap:=s.heap.update p (Obj.mapSeq (·.setIfInBounds j u)) }:=
  I.lstUpd hp ho (Y4 its n j u) (r.set rv j) (by rw[d5];exact hz) s.toks
 by_cases h0:0<=k
 ·have hk:k.toNat=j:=by
   rw[seqIndex_of h0 h4]at h1;exact dv h1
  exact PySem.W.ki_setAt ho h0 (by omega) (by rw[ar,<-hl];exact h4) (by rw[hk];exact ⟨_,I',q⟩)
 ·have hk:(k+(its.toArray.size:Int)).toNat=j:=by
   rw[seqIndex_neg (by omega) h3]at h1;rw[ar,<-hl];exact dv h1
  exact PySem.W.ki_setBack ho (by omega) (by rw[ar,<-hl];exact h3) (by omega) (by rw[hk];exact ⟨_,I',q⟩)
theorem Dm(lo hi:Option Int)(n:Nat):(sliceBounds lo hi none n).1=((HT.sIx n 0 lo:Nat):Int)/\(sliceBounds lo hi none n).2.1=((HT.sIx n n hi:Nat):Int)/\(sliceBounds lo hi none n).2.2=1:=by
 refine ⟨?_,?_,rfl⟩
 ·cases lo with
  |none=>simp[sliceBounds,HT.sIx]
  |some i=>
   simp only[sliceBounds,HT.sIx,Option.getD_none,show (1:Int) > 0 by decide,if_true];by_cases h:i < 0
   ·simp only[h,if_true] <;> omega
   ·simp only[h,if_false] <;> omega
 ·cases hi with
  |none=>simp[sliceBounds,HT.sIx]
  |some i=>
   simp only[sliceBounds,HT.sIx,Option.getD_none,show (1:Int) > 0 by decide,if_true];by_cases h:i < 0
   ·simp only[h,if_true] <;> omega
   ·simp only[h,if_false] <;> omega
theorem Y6(its:List Value)(lo hi:Option Int):slicePick its.toArray lo hi none=((its.drop (HT.sIx its.length 0 lo)).take (HT.sIx its.length its.length hi - HT.sIx its.length 0 lo)).toArray:=by obtain ⟨h1,h2,h3⟩:=Dm lo hi its.toArray.size;unfold slicePick;rw[h1,h2,h3];simp only[sliceRange_one,pick_run,ar] <;> rfl
noncomputable def Y7(K:PF):V->Option Int->Option Int->Hp->VK->Prop:=λx lo hi H Q=>∃a xs,x=.ref a/\SqL K H a xs/\∀p,H p=none->Q (.ref p) (upd H p (.lst (dO xs lo hi)))
theorem Do:SlR X (Y7 X.K):=by intro pins s σ H x v vl vu lo hi sl Q I rx hs pl pu h;obtain ⟨a,xs,rfl,hx,q⟩:=h;cases rx;obtain ⟨its,r,ht,hz⟩:=I.list hx;have hlen:=r.length;refine ⟨"list",_,slot_list_getitem.lookup,ht.isList.typeIs,?_⟩;refine wpAny_getItem_list_slice ht.isList hs pl pu .none (by simp) ?_ (by rw[ar] <;> omega);rw[Y6,<-hlen];refine ⟨.ref s.heap.objs.size,_,I.laid (t':=s.toks) (o:=.lst (dO xs lo hi)) (λb ob q=>al _ q) (ay _) ?_,rfl,q _ (I.hok.fresh (ay _))⟩;exact ⟨bv (Dj xs lo hi) hz,_,0,(r.drop (HT.sIx xs.length 0 lo)).take (HT.sIx xs.length xs.length hi - HT.sIx xs.length 0 lo),bd _ rfl⟩
theorem Dp:bJ X (.builtin "len") (λxs H Q=>∃p ys,xs=[.ref p]/\(SqL X.K H p ys\/SqT X.K H p ys)/\Q (.int ys.length) H):=by
 intro pins s σ H xs us Q I r h;obtain ⟨p,ys,rfl,hq,q⟩:=h;obtain ⟨u,rfl,rx⟩:=vals1 r;cases rx;have hn:=ig;rcases hq with hq |hq
 ·obtain ⟨its,r',pl,hz⟩:=I.list hq;have hlen:=r'.length;exact Calls.call_len_list pl.isList (by simp only[ar] <;> omega) ⟨.int ys.length,H,I.tok _,⟨s.toks+1,by rw[ar,hlen]⟩,q⟩
 ·obtain ⟨its,r',pl,hz⟩:=I.tuple hq;have hlen:=r'.length;exact len_tuple pl (by simp only[ar] <;> omega) ⟨.int ys.length,H,I.tok _,⟨s.toks+1,by rw[ar,hlen]⟩,q⟩
theorem Y8:bJ X (.builtin "len") (λxs H Q=>∃z,xs=[.str z]/\z.length<=sizeLine/\Q (.int z.length) H):=by intro pins s σ H xs us Q I r h;obtain ⟨z,rfl,hz,q⟩:=h;obtain ⟨u,rfl,t,rfl⟩:=vals1 r;have hn:=ig;exact len_str (by omega) ⟨.int z.length,H,I.tok _,⟨_,rfl⟩,q⟩
theorem Dq:bJ X (.type "list") (λxs H Q=>∃p ys,xs=[.ref p]/\(SqL X.K H p ys\/SqT X.K H p ys)/\∀l,H l=none->Q (.ref l) (upd H l (.lst ys))):=by
 intro pins s σ H xs us Q I r h;obtain ⟨p,ys,rfl,hq,q⟩:=h;obtain ⟨u,rfl,rx⟩:=vals1 r;cases rx;have fin:∀(its:List Value),Vals ys its->ys.length<=sizeLine->∀(h':Heap)(c':Nat),(∀b o',s.heap.get? b=some o'->h'.get? b=some o')->
   h'.get? s.heap.objs.size=some { cls:=.type "list",dict:=none,data:=.seq its.toArray c',slots:=#[] }->EP X pins σ Q (.ref s.heap.objs.size) { s with heap:=h' }:=λits r' hz h' c' kp e=>
  ⟨.ref s.heap.objs.size,_,I.laid (t':=s.toks) kp (ay _) (show ObjOk X.prog X.w _ h' _ (.lst ys) from ⟨hz,its,c',r',e⟩),rfl,q _ (I.hok.fresh (ay _))⟩
 rcases hq with hq |hq
 ·obtain ⟨its,r',pl,hz⟩:=I.list hq;have hlen:=r'.length;obtain ⟨o,ho,hc,n,hd⟩:=pl.isList;exact call_list_seq p (.inl rfl) ho hc hd (λh' c' kp e=>fin its r' hz h' c' kp e) (by simp only[ar] <;> omega)
 ·obtain ⟨its,r',pl,hz⟩:=I.tuple hq;have hlen:=r'.length;obtain ⟨o,ho,hc,n,hd⟩:=pl;exact call_list_seq p (.inr rfl) ho hc hd (λh' c' kp e=>fin its r' hz h' c' kp e) (by simp only[ar] <;> omega)
theorem Ds:bJ X (.type "tuple") (λxs H Q=>∃p ys,xs=[.ref p]/\((SqL X.K H p ys/\∀l,H l=none->Q (.ref l) (upd H l (.tup ys)))\/(SqT X.K H p ys/\Q (.ref p) H))):=by
 intro pins s σ H xs us Q I r h;obtain ⟨p,ys,rfl,h⟩:=h;obtain ⟨u,rfl,rx⟩:=vals1 r;cases rx;rcases h with ⟨hq,q⟩ |⟨hq,q⟩
 ·obtain ⟨its,r',pl,hz⟩:=I.list hq;have hlen:=r'.length;refine call_tuple_list pl.isList (λh' kp=>?_) (by simp only[ar] <;> omega);have I1:Inv X pins σ H { s with heap:=h' }:=I.kept (t':=s.toks) kp;have I2:Inv X pins σ (upd H h'.objs.size (.tup ys)) { s with heap:=h'.push { cls:=.type "tuple",data:=.seq its.toArray } }:=
   I1.laid (t':=s.toks) (λb o e=>al _ e) (ay _) (show ObjOk X.prog X.w _ _ _ (.tup ys) from ⟨hz,its,r',IsTup.new _ _⟩)
  exact ⟨.ref h'.objs.size,_,I2,rfl,q _ (I1.hok.fresh (ay _))⟩
 ·obtain ⟨its,r',pl,hz⟩:=I.tuple hq;exact call_tuple_same pl ⟨.ref p,H,I,rfl,q⟩
def tyV(K:PF)(T:String)(x:V)(H:Hp):Prop:=match x with
 |.str _=>T="str"
 |.int _=>T="int"
 |.ref p=>(T="list"/\∃xs,SqL K H p xs)\/(T="tuple"/\∃o,K.lookup p=some o/\o.cls=.type "tuple"/\o.dict=none)\/
   (T="dict"/\((∃kvs,H p=some (.dK kvs))\/∃kvs,H p=some (.dT kvs)))\/(T="set"/\∃S n,H p=some (.set S n))
 |_=>False
theorem Dt{pins:List (Addr×Obj)}{σ:St}{H:Hp}{s:Shared}{T:String}{x:V}{v:Value}(I:Inv X pins σ H s)(r:RelV x v)(ty:tyV X.K T x H):
  s.TypeIs v T/\∀a,v=.ref a->∃ob,s.heap.get? a=some ob/\ob.dict=none:=by
 cases x with
 |str z=>
  obtain ⟨t,rfl⟩:=r;cases (show T="str" from ty);exact ⟨typeIs_str s z t,λ_ e=>nomatch e⟩
 |int i=>
  obtain ⟨t,rfl⟩:=r;cases (show T="int" from ty);exact ⟨typeIs_int s i t,λ_ e=>nomatch e⟩
 |ref p=>
  cases r;rcases ty with ⟨rfl,xs,hq⟩ |⟨rfl,o,hk,hc,hd⟩ |⟨rfl,hk⟩ |⟨rfl,S,n,hk⟩
  ·obtain ⟨its,_,pl,_⟩:=I.list hq;refine ⟨pl.isList.typeIs,λa e=>?_⟩;cases e;obtain ⟨o,n,e,c,hd,_⟩:=pl;exact ⟨o,e,hd⟩
  ·refine ⟨⟨o,I.kIn p o hk,hc⟩,λa e=>?_⟩;cases e;exact ⟨o,I.kIn _ o hk,hd⟩
  ·have z:∃o,s.heap.get? p=some o/\o.ExactDict:=by
    rcases hk with ⟨kvs,hk⟩ |⟨kvs,hk⟩
    ·obtain ⟨_,_,_,_,o,_,_,e,ex,_⟩:=I.hok p _ hk;exact ⟨o,e,ex⟩
    ·obtain ⟨_,_,_,_,o,_,_,e,ex,_⟩:=I.hok p _ hk;exact ⟨o,e,ex⟩
   obtain ⟨o,e,ex⟩:=z;refine ⟨⟨o,e,ex.1⟩,λa e2=>?_⟩;cases e2;exact ⟨o,e,ex.2.1⟩
  ·obtain ⟨o,_,_,_,e,ex,_⟩:=I.hok p _ hk;refine ⟨⟨o,e,ex.1⟩,λa e2=>?_⟩;cases e2;exact ⟨o,e,ex.2.1⟩
 |_=>exact False.elim ty
def Y9(K:PF)(T:String)(r:V->List V->Hp->VK->Prop)(to:TE):TE:=λσ H Q=>to σ H λx H1=>tyV K T x H1/\r x [] H1 Q
def tBM(K:PF)(T:String)(r:V->List V->Hp->VK->Prop)(to:TE)(t:TA):TE:=λσ H Q=>to σ H λx H1=>tyV K T x H1/\t σ H1 λxs H2=>r x xs H2 Q
variable {o e:Expr} {es:List Expr} {to:TE} {t:TA} {name:Str} {apos cpos:Pos} {T id:String} {r:V->List V->Hp->VK->Prop}
theorem Za (pa:PlainAttrs T) (slot:Slot T name id) (hty:typeOf (.builtin id)=pure (.type "method_descriptor")) (hm:MtR X id r) (ho:PE X o to)
  (hbase:attributeBase o name X.env (eval o X.env)=eval o X.env:=by rfl) (hline:(apos.endLine==cpos.line)=true:=by rfl):PE X (.Call (.Attribute o name apos) [] [] cpos) (Y9 X.K T r to):=by
 intro pins s σ H Q I h;refine wpAny_Call_method0_late hbase hline (thn (ho pins s σ H _ I h) λv s1 ⟨x,H1,I1,r1,ty,q1⟩=>?_);obtain ⟨h1,h2⟩:=Dt I1 r1 ty;exact ⟨T,id,pa,slot,hty,h1,h2,Calls.callWith_builtin rfl (PySem.evalArgs_none (hm pins s1 σ H1 x [] v [] Q I1 r1 .nil q1))⟩
theorem ik (pa:PlainAttrs T) (slot:Slot T name id) (hty:typeOf (.builtin id)=pure (.type "method_descriptor")) (hm:MtR X id r) (ho:PE X o to) (ha:PA X (e::es) t)
  (hbase:attributeBase o name X.env (eval o X.env)=eval o X.env:=by rfl)
  (hfew:((backTo cpos (starEach (e::es) X.env)).all (λx=>!x.1)&&(backToKw cpos (keywordEach [] X.env)).all (λx=>x.1.isSome)
  &&decide ((e::es).length+([]:List Keyword).length+(if ([]:List Keyword).isEmpty then 0 else 1) < 30))=true:=by rfl)
  (hline:(apos.endLine==cpos.line)=true:=by rfl) (hs:starEach (e::es) X.env=(false,eval e X.env)::starEach es X.env:=by rfl) (hplain:(backTo cpos (starEach es X.env)).any (·.1)=false:=by rfl):
  PE X (.Call (.Attribute o name apos) (e::es) [] cpos) (tBM X.K T r to t):=by
 intro pins s σ H Q I h;refine wpAny_Call_method_late hbase hfew hline rfl (thn (ho pins s σ H _ I h) λv s1 ⟨x,H1,I1,r1,ty,q1⟩=>?_);obtain ⟨h1,h2⟩:=Dt I1 r1 ty;refine ⟨T,id,pa,slot,hty,h1,h2,?_⟩;have hA:=ha cpos pins s1 σ H1 _ I1 q1;rw[hs]at hA ⊢;refine Calls.callWith_builtin (by show (false||(backTo cpos (starEach es X.env)).any (·.1))=false;rw[hplain] <;> rfl) (Calls.evalArgs_plain ?_);exact thn hA λus s2 ⟨vs,H2,I2,r2,q2⟩=>hm pins s2 σ H2 x vs v us Q I2 r1 r2 q2
end
def MtM(X:Cx)(id:String)(r:V->List V->Hp->VK->Prop):Prop:=
 ∀(pins:List (Addr×Obj))(s:Shared)(σ:St)(H:Hp)(x:V)(xs:List V)(v:Value)(us:List Value)(Q:VK),Inv X pins σ H s->RelV x v->Vals xs us->r x xs H Q->
  wpAny (model X.prog X.w) X.A (call (.builtin id) (v::us)) (EP X pins σ Q) X.xe s
theorem Vals.one:∀{x:V}{us:List Value},Vals [x] us->∃u,us=[u]/\RelV x u
 |_,_,.cons r .nil=>⟨_,rfl,r⟩
theorem Vals.zero:∀{us:List Value},Vals [] us->us=[]
 |_,.nil=>rfl
theorem Vals.dropLast{xs:List V}{us:List Value}(h:Vals xs us):Vals xs.dropLast us.dropLast:=by
 induction h with
 |nil=>exact .nil
 |cons r t ih=>
  cases t with
  |nil=>exact .nil
  |cons q t'=>exact .cons r ih
theorem Vals.eraseIdx:∀{xs:List V}{us:List Value}(i:Nat),Vals xs us->Vals (xs.eraseIdx i) (us.eraseIdx i)
 |_,_,_,.nil=>.nil
 |_,_,0,.cons _ t=>t
 |_,_,i+1,.cons r t=>.cons r (Vals.eraseIdx i t)
theorem Vals.rep{xs:List V}{us:List Value}(h:Vals xs us):∀k:Nat,Vals (List.replicate k xs).flatten (List.replicate k us).flatten
 |0=>.nil
 |k+1=>by
  rw[b9,b9,eP,eP];exact Vals.append h (Vals.rep h k)
theorem Zb{α:Type}(l:List α):l.eraseIdx (l.length - 1)=l.dropLast:=by
 induction l with
 |nil=>rfl
 |cons a r ih=>
  cases r with
  |nil=>rfl
  |cons b r=>
   have e:(a::b::r).length - 1=((b::r).length - 1)+1:=by have h1:(a::b::r).length=r.length+2:=rfl;have h2:(b::r).length=r.length+1:=rfl;omega
   rw[e,List.eraseIdx_cons_succ,ih];all_goals rfl
theorem Du{α:Type}:∀(l:List α)(i:Nat),(l.eraseIdx i).length<=l.length
 |[],_=>ay _
 |_::_,0=>fy _
 |_::r,i+1=>Nat.succ_le_succ (Du r i)
theorem foldl_rep(its:List Value):∀(k:Nat)(acc:List Value),
  List.foldl (λx1 x2=>x1++x2) acc.toArray (List.replicate k its.toArray)=(acc++(List.replicate k its).flatten).toArray
 |0,acc=>by simp
 |k+1,acc=>by
  have e:acc.toArray++its.toArray=(acc++its).toArray:=by simp
  have e2:(acc++its)++(List.replicate k its).flatten=acc++(List.replicate (k+1) its).flatten:=by rw[b9,eP,List.append_assoc]
  rw[<-e2,<-foldl_rep its k (acc++its),<-e,b9,List.foldl_cons]
section
variable {X:Cx} {pins:List (Addr×Obj)} {σ:St} {H:Hp} {s:Shared} {l b:Addr} {xs ys zs:List V}
theorem Inv.lset{its its':List Value}{n:Nat}{f:Array Value->Array Value}{t':Nat}(I:Inv X pins σ H s)(hH:H l=some (.lst xs))
  (e:s.heap.get? l=some { cls:=.type "list",data:=.seq its.toArray n }) (hf:f its.toArray=its'.toArray) (hv:Vals ys its') (hz:ys.length<=sizeLine):
  Inv X pins σ (upd H l (.lst ys)) { s with heap:=s.heap.update l (Obj.mapSeq f),toks:=t' }:=by
 have q:=PySem.IsL.update e f;rw[hf]at q;refine I.write (x:=l) (e:=l) (by rw[hH];exact trivial) (.inl rfl) (λb' u hb hu=>(Heap.get?_update_other s.heap (Obj.mapSeq f) (Ne.symm hb)).trans hu) ⟨_,q⟩ ?_;exact ⟨hz,its',_,hv,q⟩
theorem Inv.lnew{its:List Value}{t':Nat}(I:Inv X pins σ H s)(hv:Vals ys its)(hz:ys.length<=sizeLine):
  Inv X pins σ (upd H s.heap.objs.size (.lst ys)) { s with heap:=s.heap.push { cls:=.type "list",data:=.seq its.toArray },toks:=t' }:=
 I.laid (λ_ _ q=>al _ q) (ay _) ⟨hz,its,0,hv,bd _ rfl⟩
theorem Inv.fresh(I:Inv X pins σ H s):H s.heap.objs.size=none:=I.hok.fresh (ay _)
theorem Inv.lstM (I:Inv X pins σ H s) (hH:H l=some (.lst xs)):xs.length<=sizeLine/\∃(its:List Value) (n:Nat),Vals xs its/\xs.length=its.length/\s.heap.get? l=some { cls:=.type "list",data:=.seq its.toArray n }:=by obtain ⟨z,its,n,r,e⟩:=I.hok l _ hH;exact ⟨z,its,n,r,r.length,e⟩
theorem Dv{n:Nat}(h:n<=sizeLine):Builtin.List.listTooLong n=false:=by unfold Builtin.List.listTooLong;exact ck (by omega)
end
section
variable {X:Cx}
noncomputable def Zc:V->List V->Hp->VK->Prop:=λx vs H Q=>∃l xs y,x=.ref l/\vs=[y]/\H l=some (.lst xs)/\xs.length < sizeLine/\Q .non (upd H l (.lst (xs++[y])))
theorem Zd:MtM X "list.append" Zc:=by intro pins s σ H x vs v us Q I rx rv h;obtain ⟨l,xs,y,rfl,rfl,hH,hz,q⟩:=h;cases rx;obtain ⟨u,rfl,ru⟩:=rv.one;obtain ⟨z,its,n,r,hl,e⟩:=I.lstM hH;refine fi F.slot_list_append ⟨_,e,rfl⟩ F.entry_list_append (F.args_list_append_2 _ _) (PySem.list_append l its.toArray n u (by rw[ar];omega)) ⟨e,?_⟩;refine ⟨.non,_,I.lset (its':=its++[u]) hH e (by simp) (r.append (.cons ru .nil)) ?_,rfl,q⟩;rw[av,ce];omega
noncomputable def Ze:V->List V->Hp->VK->Prop:=λx vs H Q=>∃l b xs zs,x=.ref l/\vs=[.ref b]/\H l=some (.lst xs)/\H b=some (.lst zs)/\xs.length+zs.length<=sizeLine/\Q .non (upd H l (.lst (xs++zs)))
theorem Zf:MtM X "list.extend" Ze:=by
 intro pins s σ H x vs v us Q I rx rv h;obtain ⟨l,b,xs,zs,rfl,rfl,hH,hB,hz,q⟩:=h;cases rx;obtain ⟨u,rfl,ru⟩:=rv.one;cases ru;obtain ⟨z,its,n,r,hl,e⟩:=I.lstM hH;obtain ⟨z2,its2,n2,r2,hl2,e2⟩:=I.lstM hB;have hsz:its.toArray.size+its2.toArray.size<=sizeLine:=by rw[ar,ar];omega
 have hlong:¬(!its.toArray.isEmpty&&Builtin.List.listTooLong (its.toArray.size+its2.toArray.size))=true:=by rw[Dv hsz,Bool.and_false];exact br
 refine fi F.slot_list_extend ⟨_,e,rfl⟩ F.entry_list_extend (F.args_list_extend_2 _ _)
  (AutoSeq1.list_extend_list_list_0 l its.toArray n b its2.toArray n2 hlong (by rw[ar];omega) (by omega)) ⟨e,e2,?_⟩
 refine ⟨.non,_,I.lset (its':=its++its2) hH e (by simp) (r.append r2) ?_,rfl,q⟩;rw[av];omega
noncomputable def Zg:V->List V->Hp->VK->Prop:=λx vs H Q=>∃l xs y,x=.ref l/\vs=[]/\H l=some (.lst xs)/\xs[xs.length - 1]?=some y/\Q y (upd H l (.lst xs.dropLast))
theorem Zh:MtM X "list.pop" Zg:=by
 intro pins s σ H x vs v us Q I rx rv h;obtain ⟨l,xs,y,rfl,rfl,hH,hy,q⟩:=h;cases rx;have hus:=rv.zero;subst hus;obtain ⟨z,its,n,r,hl,e⟩:=I.lstM hH;obtain ⟨u,hu,ru⟩:=r.get hy;have hy':its.toArray[its.toArray.size - 1]?=some u:=by show its.toArray[its.length - 1]?=some u;rw[<-fg,<-hl];exact hu
 refine fi F.slot_list_pop ⟨_,e,rfl⟩ F.entry_list_pop (F.args_list_pop_1 _) (MeetsSeq.list_pop_last l its.toArray n u hy' (by rw[ar];omega)) ⟨e,?_⟩;refine ⟨y,_,I.lset (its':=its.dropLast) hH e ?_ r.dropLast ?_,ru,q⟩
 ·show its.toArray.eraseIdxIfInBounds (its.toArray.size - 1)=its.dropLast.toArray;rw[ar,List.eraseIdxIfInBounds_toArray,Zb]
 ·rw[List.length_dropLast];omega
noncomputable def Zi:V->List V->Hp->VK->Prop:=λx vs H Q=>∃l xs i k y,x=.ref l/\vs=[.int i]/\H l=some (.lst xs)/\-(2 ^ 63)<=i/\i < 2 ^ 63/\seqIndex? i xs.length=some k/\xs[k]?=some y/\Q y (upd H l (.lst (xs.eraseIdx k)))
theorem Zj:MtM X "list.pop" Zi:=by
 intro pins s σ H x vs v us Q I rx rv h;obtain ⟨l,xs,i,k,y,rfl,rfl,hH,h1,h2,hk,hy,q⟩:=h;cases rx;obtain ⟨u,rfl,ru⟩:=rv.one;obtain ⟨t,rfl⟩:=ru;obtain ⟨z,its,n,r,hl,e⟩:=I.lstM hH;obtain ⟨w,hw,rw'⟩:=r.get hy;refine fi F.slot_list_pop ⟨_,e,rfl⟩ F.entry_list_pop (F.args_list_pop_2 _ _)
  (MeetsSeq.list_pop_at l its.toArray n i t k w (fitsIndex_both h1 h2) (by rw[ar,<-hl];exact hk) (by rw[<-fg];exact hw) (by rw[ar];omega)) ⟨e,?_⟩
 refine ⟨y,_,I.lset (its':=its.eraseIdx k) hH e ?_ (r.eraseIdx k) ?_,rw',q⟩
 ·show its.toArray.eraseIdxIfInBounds k=(its.eraseIdx k).toArray;rw[List.eraseIdxIfInBounds_toArray]
 ·have:=Du xs k;omega
theorem len_rep{α:Type}(xs:List α)(k:Nat):(List.replicate k xs).flatten.length=k * xs.length:=by
 induction k with
 |zero=>simp
 |succ k ih=>rw[b9,eP,av,ih,Nat.succ_mul,Nat.add_comm]
end
end L2
namespace Att
open PySem PySem.W PySem.Calls PyProof.Rows
theorem Zk{P:Params}{h:Heap}:∀(ns:List Int)(vs:List Value),WellAll P h vs (ns.map WData.int)->IntsAre vs ns:=by
 intro ns;induction ns with
 |nil=>
  intro vs w;rw[List.map_nil]at w;cases w;exact .nil
 |cons n ns ih=>
  intro vs w;rw[List.map_cons]at w;cases w with
  |cons a b=>
   cases a;exact .cons _ _ (ih _ b)
theorem Zm{l:OpenLaw}{n:Nat}(hn:l.most=some n){P:Params}{h:Heap}{args:List WData}{vals:List Value}
  (hpre:l.row.toRowW.claim.pre args=true) (hwl:WellAll P h vals args):
  ∃a vs ns,vals=[Value.ref a]/\args=[WData.list (ns.map WData.int)]/\h.get? a=some { cls:=.type "list",data:=.seq vs.toArray }/\IntsAre vs ns/\ns.length<=n:=by
 have hsh:WShape.hasAll [] args [.list .int]=true:=(pre_splitW hpre).1;have hc:l.pre.holds [] { args:=args }=true:=(pre_splitW hpre).2;obtain ⟨d,r,rfl,h1,h2⟩:=hasAllW_cons hsh;obtain rfl:=hasAllW_nil h2;obtain ⟨xs,rfl,h3⟩:=hasW_list h1;obtain ⟨ns,rfl⟩:=items_int h3;have hlen:ns.length<=n:=by
  unfold OpenLaw.pre at hc;have h4:(WTm.not (.lt (.lit (.int (n:Int))) (.len (.arg 0)))).holds [] { args:=[.list (ns.map .int)] }=true:=by have h4:=(holds_andW hc).1;rw[hn]at h4;exact h4
  have h5:=condW_of h4 (w_not (w_lt w_lit (w_len_list (w_arg rfl))));rw[List.length_map]at h5;refine Nat.le_of_not_lt λq=>?_;have q':(n:Int) < ((ns.length:Nat):Int):=by omega
  first
   | (rw[decide_eq_true q']at h5;exact absurd h5 (by decide))
   | (simp at h5;omega)
 cases hwl with
 |cons w1 w2=>
  cases w2;cases w1 with
  |list ho hall=>exact ⟨_,_,ns,rfl,rfl,ho,Zk ns _ hall,hlen⟩
theorem Zn(l:OpenLaw)(args:List WData):l.row.toRowW.claim.post args (.bool true) args=true:=
 postW_of (r:=l.row.toRowW) (X:=(true==true))
  (show WShape.has [] (.bool true) .bool=true by first |rfl |decide |simp[WShape.has,WShape.arms,WShape.armsAll])
  (show (WTm.eq .res (.lit (.bool true))).value [] { args:=args,res:=some (.bool true),after:=args }=some (.bool (true==true)) from w_eq_bool (w_res rfl) w_lit) rfl
theorem attach_call{l:OpenLaw}{n:Nat}{q:Program}{loose:List Str}{XP:(Str->Option Value)->Heap->Prop}{YP:World->Heap->Prop}{d:DefRec}
  (hn:l.most=some n) (hdf:d.params.defaults=[])
  (call:∀(w:World)(s₀ s₁:Shared)(mg mb:Str->Option Value)(fa:Addr)(o:Obj)(pm cd doc:Value)(a:Addr)(vs:List Value)(ns:List Int),
   Ground q loose [] XP w s₀ mg mb s₁.heap->YP w s₁.heap->
   s₁.heap.get? fa=some o->o.data=.func (docDef d.name d.params d.body d.scope pm cd doc)->s₁.heap.CodeRec cd d.name->mg d.name=some (.ref fa)->
   s₁.heap.get? a=some { cls:=.type "list",data:=.seq vs.toArray }->IntsAre vs ns->ns.length<=n->s₁.gens=#[]->
   codeAny (model l.prog w) callerA (.call (.ref fa) ⟨[.ref a],[]⟩) (λr s'=>r=.ok (.ret (.bool true))/\OldK s₁.heap s'.heap/\s'.os=s₁.os/\AllBare s'.gens) s₁):
  WalkO q loose XP YP l.row.toRowW d [] (λf vs=>PySem.call f vs):=by
 intro w s₀ s₁ mg mb G Y fa o pm cd doc dV kV ho hd hcd hD hmg hg args vals as hpre hlay hrd hwl hlo;obtain rfl:dV=.none:=Dflts.none hD hdf;obtain rfl:kV=.none:=Dflts.noKw hD;obtain ⟨a,vs,ns,rfl,rfl,hobj,hints,hlen⟩:=Zm hn hpre hwl;refine enter_call (codeAny_mono (call w s₀ s₁ mg mb fa o pm cd doc a vs ns G Y ho (fd_plain hd) hcd hmg hobj hints hlen hg) λr s' hq=>?_);obtain ⟨rfl,h2,h3,h4⟩:=hq;exact ⟨.inl ⟨.bool true,.bool true,[],rfl,λ_=>rfl,.bool true,Zn l _,λ_=>⟨List.Pairwise.nil,λ_ hm=>(nomatch hm)⟩⟩,h2,h3,h4⟩
end Att
namespace L2
open PySem PySem.Spec PyProof.Rows
theorem wz:∀{vs:List Value}{ns:List Int},IntsAre vs ns->Vals (ns.map V.int) vs
 |_,_,.nil=>.nil
 |_,_,.cons n t h=>.cons ⟨t,rfl⟩ (wz h)
def Only(H:Hp):Prop:=∀b,H b=none\/∃o xs,H b=some (.frz o (.lst xs))
theorem Zo{P:Program}{w:World}{K:PF}{mg mb:Str->Option Value}{CX:CXT}{k:Nat}{fa a:Addr}{fd:FuncData}{x:Str}{sp:Sp}{s₁:Shared}{vs:List Value}{ns:List Int}
  (KX:K.In s₁.heap) (hns:s₁.heap.Ns mainGlobals mg) (hb:s₁.heap.Ns builtinsNs mb) (hbb:∀x:Str,x≠"__name__"->mb x=bootBuiltins x) (hlim:s₁.heap.NoLimit) (hg:s₁.gens=#[])
  (ha:s₁.heap.get? a=some { cls:=.type "list",data:=.seq vs.toArray }) (hi:IntsAre vs ns) (hl:ns.length<=sizeLine) (hr:Room k callerA)
  (F:∀base:Heap,K.In base->base.Ns mainGlobals mg->FnOk P w K mg base CX k fa fd [x] sp) (hbind:∀(s:Shared)(u:Value),BindsTo s fd ⟨[u],[]⟩ [(x,u)])
  (hsp:∀H:Hp,Only H->SqL K H a (ns.map V.int)->sp [.ref a] H (λv _=>v=.bl true) λ_ _ _=>False)
  (hCX:∀H e s',CX [] H s₁ (λ_ _ _=>False) e s'->False):
  codeAny (model P w) callerA (.call (.ref fa) ⟨[.ref a],[]⟩) (λr s'=>r=.ok (.ret (.bool true))/\OldK s₁.heap s'.heap/\s'.os=s₁.os/\AllBare s'.gens) s₁:=by
 have rv:=wz hi;have lenV:=hi.length
 -- from an abstract heap in which nothing but the script may be tracked
 have core:∀H:Hp,Only H->SqL K H a (ns.map V.int)->HOk P w H s₁.heap->(∀b,H b≠none->b=a)->(H a≠none->K.lookup a=none)->
   codeAny (model P w) callerA (.call (.ref fa) ⟨[.ref a],[]⟩) (λr s'=>r=.ok (.ret (.bool true))/\OldK s₁.heap s'.heap/\s'.os=s₁.os/\AllBare s'.gens) s₁:=by
  intro H hO hS hok hA hK;have base_of:∀{b:Addr}{o:Obj},s₁.heap.get? b=some o->H b=none->(dz s₁.heap H).get? b=some o:=λe n=>Wa e n;have noA:∀{b:Addr}{o:Obj}{es:Array DictEntry}{ep:Nat},s₁.heap.get? b=some o->o.data=.dict es ep->H b=none:=λ{b o es ep} e d=>by
   cases q:H b with
   |none=>rfl
   |some u=>
    have e':b=a:=hA b (by rw[q];simp);subst e';rw[ha]at e;cases e;have d':Data.seq vs.toArray _=Data.dict es ep:=d;cases d'
  have nsK:∀{b:Addr}{m:Str->Option Value},s₁.heap.Ns b m->(dz s₁.heap H).Ns b m:=λ{b m} ⟨o,es,ep,e,d,r⟩=>⟨o,es,ep,base_of e (noA e d),d,r⟩;have hKb:K.In (dz s₁.heap H):=λb o e=>base_of (KX b o e) (by
   cases q:H b with
   |none=>rfl
   |some u=>
    have e':b=a:=hA b (by rw[q];simp);subst e';rw[hK (by rw[q];simp)]at e;cases e)
  have hM:Mod K mg (dz s₁.heap H):=⟨hKb,nsK hns,⟨mb,nsK hb,hbb⟩,let ⟨mc,h1,h2⟩:=hlim;⟨mc,nsK h1,h2⟩⟩;have e0:Env0 P w K mg (dz s₁.heap H) callerA [] s₁ H:=⟨rfl,hM,λb o e=>Wb e,Nat.le_of_eq (V9 _ _),trivial,λb hb=>absurd (show b∈([]:List Addr) from hb) (by simp),hok,.of_eq hg⟩;refine codeAny_mono ((F _ hKb (nsK hns)).run callerA [] s₁ H ⟨[.ref a],[]⟩ [.ref a] [.ref a] _ _ hr e0 (hbind s₁ (.ref a)) (.cons rfl .nil) (hsp H hO hS)) λr s' h=>?_;cases r with
  |error e=>exact (hCX H e s' h).elim
  |ok fl=>
   cases fl with
   |next=>exact False.elim h
   |brk=>exact False.elim h
   |cont=>exact False.elim h
   |ret u=>
    obtain ⟨v,H',os,bare,un,hok',r',q⟩:=h;have q':v=.bl true:=q;subst q';obtain rfl:u=Value.bool true:=r';refine ⟨rfl,OldK.of_keep λb o e=>?_,os,bare⟩;cases q:H b with
    |none=>exact un.keep b o e q (by intro z;exact absurd (show b∈([]:List Addr) from z) (by simp)) (by simp)
    |some u=>
     rcases hO b with z |⟨ob,xs,z⟩
     ·rw[q]at z;cases z
     ·have z2:=un.frzs b ob _ z;obtain ⟨e1,_⟩:=hok b _ z;obtain ⟨e2,_⟩:=hok' b _ z2;rw[e]at e1;cases e1;exact e2
 cases hk:K.lookup a with
 |some o=>
  -- the script is one of the module's own objects
  have e:=KX a o hk;rw[ha]at e;cases e;refine core (λ_=>none) (λ_=>.inl rfl) (.inr ⟨_,vs.toArray,_,hk,rfl,rfl,rfl,by rw[ar,lenV];exact hl,by simpa using rv⟩) (λb u z=>by have z':(none:Option HO)=some u:=z;cases z') (λb z=>absurd rfl z) λz=>absurd rfl z
 |none=>
  refine core (λb=>if b=a then some (.frz { cls:=.type "list",data:=.seq vs.toArray } (.lst (ns.map V.int))) else none) (λb=>?_) (.inl (.inr ⟨{ cls:=.type "list",data:=.seq vs.toArray },if_pos rfl⟩)) (λb u z=>?_) (λb z=>?_) λ_=>hk
  ·by_cases hb:b=a
   ·exact .inr ⟨_,_,if_pos hb⟩
   ·exact .inl (if_neg hb)
  ·by_cases hb:b=a
   ·have z':=(if_pos hb).symm.trans z;cases z';subst hb;exact ⟨ha,by rw[ag];exact hl,vs,_,rv,ha⟩
   ·have z':=(if_neg hb).symm.trans z;cases z'
  ·by_cases hb:b=a
   ·exact hb
   ·exact absurd (if_neg hb) z
theorem Zq{l:PySem.W.OpenLaw}{n k:Nat}{q:Program}{loose:List Str}{XP:(Str->Option Value)->Heap->Prop}{YP:World->Heap->Prop}{d:DefRec}{K:Params->PF}{CX:World->CXT}{sp:World->Sp}{x:Str}
  (hn:l.most=some n) (hn2:n<=sizeLine) (hdf:d.params.defaults=[]) (hr:Room k callerA)
  (hY:∀(w:World)(h:Heap),YP w h->(K w.params).In h)
  (F:∀(w:World)(mg:Str->Option Value)(fa:Addr)(h:Heap),(K w.params).In h->h.Ns mainGlobals mg->mg d.name=some (.ref fa)->
   ∃fd:FuncData,(∀(s:Shared)(u:Value),BindsTo s fd ⟨[u],[]⟩ [(x,u)])/\
    ∀base:Heap,(K w.params).In base->base.Ns mainGlobals mg->FnOk l.prog w (K w.params) mg base (CX w) k fa fd [x] (sp w))
  (hsp:∀(w:World)(H:Hp)(a:Addr)(ns:List Int),ns.length<=n->Only H->SqL (K w.params) H a (ns.map V.int)->sp w [.ref a] H (λv _=>v=.bl true) λ_ _ _=>False)
  (hCX:∀(w:World)(H:Hp)(s:Shared)(e:Value)(s':Shared),CX w [] H s (λ_ _ _=>False) e s'->False):
  PySem.W.WalkO q loose XP YP l.row.toRowW d [] (λf vs=>PySem.call f vs):=by
 refine Att.attach_call hn hdf λw s₀ s₁ mg mb fa o pm cd doc a vs ns G Y ho hd hcd hmg hobj hints hlen hg=>?_;have KX:=hY w _ Y;obtain ⟨fd,hb,hF⟩:=F w mg fa _ KX G.T.g hmg;exact Zo KX G.T.g G.T.b G.T.builtins G.T.nolimit hg hobj hints (bv hlen hn2) hr hF hb (λH hO hS=>hsp w H a ns hlen hO hS) λH e s'=>hCX w H s₁ e s'
def jj(s:Stmt):Arguments:=match s with
 |.FunctionDef _ a _ _ _ _ _ _ _ _=>a
 |_=>{ posonlyargs:=[],args:=[],vararg:=none,kwonlyargs:=[],kw_defaults:=[],kwarg:=none,defaults:=[] }
def aD(s:Stmt):List Stmt:=match s with
 |.FunctionDef _ _ b _ _ _ _ _ _ _=>b
 |_=>[]
def ak(s:Stmt):Scope:=match s with
 |.FunctionDef _ _ _ _ _ _ sc _ _ _=>sc
 |_=>{ kind:=.function,names:=[],isGenerator:=false,isCoroutine:=false }
abbrev CX0:CXT:=λ_ _ _ _ _ _=>False
structure Fun(K:PF)(x qual:Str)(st:Stmt)(f:Addr)(fd:FuncData):Prop where
 ex:∃(oc:Value)(od:Option Addr)(kV doc pm:Value)(an:Option Addr)(cdv ct:Value)(osl:Array (Option Value)),
  fd=PySem.W.fnOf x qual (jj st) (aD st) (ak st) .none kV doc pm an cdv ct/\K.lookup f=some ⟨oc,od,.func fd,osl⟩/\PySem.W.codeIn K cdv qual=true
 kp:PySem.W.keepIn K (.ref f)=true
section
variable {P:Program} {w:World} {K:PF} {mg:Str->Option Value} {base:Heap}
theorem Fun.binds{x qual:Str}{st:Stmt}{f:Addr}{fd:FuncData}{ps:List Str}(F:Fun K x qual st f fd)
  (h:∀(kV doc pm:Value)(an:Option Addr)(cdv ct:Value)(us:List Value),us.length=ps.length->bindArgs (PySem.W.fnOf x qual (jj st) (aD st) (ak st) .none kV doc pm an cdv ct) ⟨us,[]⟩=pure (ps.zip us)):Binds K fd ps []:=by
 obtain ⟨oc,od,kV,doc,pm,an,cdv,ct,osl,rfl,lk,hcd⟩:=F.ex;exact .all (h kV doc pm an cdv ct)
theorem Dw{x qual:Str}{st:Stmt}{f:Addr}{oc:Value}{od an:Option Addr}{osl:Array (Option Value)}{kV doc pm cdv ct:Value}(l:K.lookup f=some ⟨oc,od,.func (PySem.W.fnOf x qual (jj st) (aD st) (ak st) .none kV doc pm an cdv ct),osl⟩)
  (c:PySem.W.codeIn K cdv qual=true) (k:PySem.W.keepIn K (.ref f)=true):Fun K x qual st f (PySem.W.fnOf x qual (jj st) (aD st) (ak st) .none kV doc pm an cdv ct):=⟨⟨oc,od,kV,doc,pm,an,cdv,ct,osl,rfl,l,c⟩,k⟩
end
section
variable {X:Cx}
theorem pv (i:Nat) {x:Str} {pos:Pos} (hN:X.N[i]?=some x:=by rfl) (hv:Vis X.env.scope x:=by first |exact Or.inl rfl |exact Or.inr (Or.inl rfl) |exact Or.inr (Or.inr rfl)) (hd:(x==("__debug__":Str))=false:=by decide)
  (hcd:(x==("__classdict__":Str))=false:=by decide):PE X (.Name x pos) (Cd i):=Ce hN hv hd hcd
end
end L2
set_option maxHeartbeats 4000000
namespace L2
open PySem PySem.Spec PyProof.Rows
section
variable {X:Cx} {pins:List (Addr×Obj)} {σ:St} {H:Hp} {s:Shared} {h':Heap}
theorem Inv.turnedL{t':Nat}{ch:List Addr}(I:Inv X pins σ H s)(hf:∀b∈ch,eO X pins H b)(k:∀b o,b∉ch->s.heap.get? b=some o->h'.get? b=some o):
  Inv X pins σ H { s with heap:=h',toks:=t' }:=by
 have nit:∀b u,H b=some u->b∉ch:=λb u e z=>by
  have q:=(hf b z).1;rw[q]at e;cases e
 refine I.step (g':=s.gens) (d':=s.drawn) (ch:=ch) (λb hb=>?_) (λb o _ _ hc e _=>k b o hc e) (λb o _ _ hc e _=>⟨o.slots,k b o hc e⟩) (λ_ _ _ _ n=>n)
  (λb o hc e=>⟨o,k b o hc e⟩) (λ_ _ e=>e) (λ_ _ _ e=>e) (λb ps e=>⟨#[],by rw[e];simp⟩) (λm hm=>?_) (λb u e=>?_) I.bare
 ·obtain ⟨_,f1,_,f3,f4,f5⟩:=hf b hb;exact ⟨f3,f1,f4,f5⟩
 ·obtain ⟨o,es,ep,ho,r⟩:=hm;exact ⟨o,es,ep,k _ o (λz=>(hf _ z).2.1 rfl) ho,r⟩
 ·refine (I.hok b u e).stay (λc v hc q=>k c v ?_ q) (λ_ q=>q) λ_ _ q=>q;rcases hc with z |z
  ·rw[z];exact nit b u e
  ·exact nit c _ z
theorem Inv.track{T:Addr}{o:HO}(I:Inv X pins σ H s)(hT:eO X pins H T)(new:ObjOk X.prog X.w (upd H T o) s.heap T o):Inv X pins σ (upd H T o) s:=by
 have hn:=hT.1;have hok:HOk X.prog X.w (upd H T o) s.heap:=λb u e=>by
  by_cases hb:b=T
  ·subst hb;rw[cP]at e;cases e;exact new
  ·rw[aJ hb]at e;exact (I.hok b u e).stay (λc v _ q=>q) (λc q=>by rw[aJ (bw q hn)];exact q) λc xs q=>by rw[aJ (bw q hn)];exact q
 obtain ⟨hp,g,d,tk,os⟩:=s;refine I.step (h':=hp) (g':=g) (d':=d) (t':=tk) (ch:=[T]) (λb hb=>?_) (λb o _ _ _ e _=>e) (λb o _ _ _ e _=>⟨o.slots,e⟩) (λb u hc _ n=>?_)
  (λb o _ e=>⟨o,e⟩) (λb xs e=>by rw[aJ (bw e hn)];exact e) (λb u v e=>by rw[aJ (bw e hn)];exact e) (λb ps e=>⟨#[],by rw[aJ (bw e hn),e];simp⟩) (λm hm=>hm) hok I.bare
 ·have e:b=T:=by simpa using hb
  subst e;obtain ⟨_,f1,_,f3,f4,f5⟩:=hT;exact ⟨f3,f1,f4,f5⟩
 ·rw[aJ (by simpa using hc)];exact n
end
def Its(x:Str):It:=⟨λi _=>i < x.cps.size,λi H v H'=>H'=H/\∃c,x.cps[i]?=some c/\v=.str ⟨#[c]⟩,λi _=>i=x.cps.size⟩
theorem Dy{prog:Program}{w:World}{A:Around}(hh:A.handled=none)(I:Addr)(x:Str)(t:Tok):
  Walks prog w A I [I] [I] x.cps.size (SignAt x) (λi h=>h.IsStrIter I (strIterType x) x t i):=by
 unfold strIterType;split
 ·exact Walks.strAscii hh I x t
 ·exact Walks.strWide hh I x t
theorem wA{P:Program}{w:World}{K:PF}{tg:Expr}(it:Addr)(x:Str)(t:Tok):Turn P w K tg (Its x) [it] it (λi h=>h.IsStrIter it (strIterType x) x t i) where
 mem:=by simp
 obj:=λi h st b hb=>by
  have e:b=it:=by simpa using hb
  subst e;obtain ⟨o,e,c,d⟩:=st;exact ⟨o,e,λv z=>by rw[d]at z;cases z⟩
 keep:=λi h h' st k=>let ⟨o,ho,r⟩:=st;⟨o,k it (by simp) o ho,r⟩
 item:=by intro X hP hw hK hc i pins s σ H E I hf st hg;subst hP hw hK;obtain ⟨f0,f1,f2,f3,f4,f5⟩:=hf it (by simp);have W:=Dy (prog:=X.prog) (w:=X.w) (I.ok.hd hc) it x t;refine W.item i s _ _ hg st λv h' tk hv st' kk=>?_;obtain ⟨c,u,e,rfl⟩:=hv;have I1:Inv X pins σ H { s with heap:=h',toks:=tk }:=I.turned (λb o hb e=>kk b o (by simpa using hb) e) f0 f1 f3 f4 f5;obtain ⟨o,eo,cc,d⟩:=id st';exact ⟨_,rfl,qz (s:={ s with heap:=h',toks:=tk }) (n:=strIterType x) eo cc d (by unfold strIterType;split <;> decide) ⟨.str ⟨#[c]⟩,H,I1,⟨u,rfl⟩,⟨rfl,c,e,rfl⟩,st',λb hb=>(hf b hb).1⟩⟩
 done:=by intro X hP hw hK hc i pins s σ H E I hf st hg;subst hP hw hK;obtain ⟨f0,f1,f2,f3,f4,f5⟩:=hf it (by simp);have W:=Dy (prog:=X.prog) (w:=X.w) (I.ok.hd hc) it x t;have hg':i=x.cps.size:=hg;subst hg';exact W.done s _ _ st λh' tk kk=>⟨rfl,I.turned (λb o hb e=>kk b o (by simpa using hb) e) f0 f1 f3 f4 f5⟩
 self:=λA i s Q E st h=>by
  unfold strIterType at st;split at st
  ·exact wpAny_pyIter_striter_ascii st h
  ·exact wpAny_pyIter_striter_wide st h
noncomputable def cM(env:Env):List (Str×NameKind)->List (Str×Addr)->List (Str×Addr)
 |[],cs=>cs
 | (n,k)::r,cs=>cM env r (if (k==.free)=true then (match env.cells.lookup n with |some c=>(n,c)::cs |none=>cs) else cs)
theorem Dz{env:Env}:∀{l:List (Str×NameKind)}{cs:List (Str×Addr)},(∀x c,cs.lookup x=some c->env.cells.lookup x=some c)->∀x c,(cM env l cs).lookup x=some c->env.cells.lookup x=some c
 |[],_,h,x,c,e=>h x c e
 | (n,k)::r,cs,h,x,c,e=>by
  refine Dz (l:=r) (cs:=_) ?_ x c e;intro y d q;by_cases hk:(k==NameKind.free)=true
  ·rw[if_pos hk]at q;cases hn:env.cells.lookup n with
   |none=>rw[hn]at q;exact h y d q
   |some c'=>
    rw[hn]at q;simp only[List.lookup_cons]at q;cases hy:y==n with
    |true=>
     rw[hy]at q;have e1:y=n:=eq_of_beq hy;rw[e1,hn];exact q
    |false=>rw[hy]at q;exact h y d q
  ·rw[if_neg hk]at q;exact h y d q
theorem DG{env:Env}{x:Str}:∀{l:List (Str×NameKind)}{cs:List (Str×Addr)},(cs.lookup x).isSome=true->((cM env l cs).lookup x).isSome=true
 |[],_,h=>h
 | (n,k)::r,cs,h=>by
  refine DG (l:=r) (cs:=_) ?_;by_cases hk:(k==NameKind.free)=true
  ·rw[if_pos hk];cases hn:env.cells.lookup n with
   |none=>exact h
   |some c'=>
    simp only[List.lookup_cons];cases hy:x==n with
    |true=>rfl
    |false=>exact h
  ·rw[if_neg hk];exact h
theorem DK{env:Env}{x:Str}(hx:(env.cells.lookup x).isSome=true):∀{l:List (Str×NameKind)}{cs:List (Str×Addr)},(x,NameKind.free)∈l->((cM env l cs).lookup x).isSome=true
 | (n,k)::r,cs,h=>by
  rcases bi.mp h with e |h
  ·cases e;refine DG (l:=r) (cs:=_) ?_;rw[if_pos (show (NameKind.free==NameKind.free)=true by decide)];obtain ⟨c,hc⟩:=cK.mp hx;rw[hc];simp
  ·exact DK hx (l:=r) h
theorem DN{scope:Scope}{env:Env}(h:∀y∈scope.names,y.2=NameKind.free->(env.cells.lookup y.1).isSome=true):closureFor scope env=pure (cM env scope.names []):=by
 simp only[closureFor];generalize ([]:List (Str×Addr))=cs;generalize scope.names=l at h;induction l generalizing cs with
 |nil=>rfl
 |cons y r ih=>
  obtain ⟨n,k⟩:=y;have ih':=λcs=>ih cs λy hy=>h y (ca _ hy);rw[List.forIn_cons];by_cases hk:(k==NameKind.free)=true
  ·have hk':k=NameKind.free:=eq_of_beq hk;obtain ⟨c,hc⟩:=cK.mp (h (n,k) cp hk');have e1:cM env ((n,k)::r) cs=cM env r ((n,c)::cs):=by
    rw[cM,if_pos hk];show cM env r (match env.cells.lookup n with |some c=>(n,c)::cs |none=>cs)=_;have hc':env.cells.lookup n=some c:=hc;rw[hc']
   have e2:cellOf env n=pure c:=by unfold cellOf;have hc':env.cells.lookup n=some c:=hc;rw[hc']
   rw[e1,<-ih' ((n,c)::cs)];simp only[hk,if_true,e2];rfl
  ·have e1:cM env ((n,k)::r) cs=cM env r cs:=by rw[cM,if_neg hk]
   rw[e1,<-ih' cs];simp only[hk,if_false];rfl
theorem wB{env:Env}{x:Str}:∀{names:List (Str×NameKind)},
  (names.map λ(n,k)=>if (k==NameKind.free&&env.scope.kind==.function&&env.kindOf n==some .cell) then (n,NameKind.cell) else (n,k)).lookup x=
   (names.lookup x).map λk=>if (k==NameKind.free&&env.scope.kind==.function&&env.kindOf x==some .cell)=true then NameKind.cell else k
 |[]=>rfl
 | (n,k)::r=>by
  have ih:=@wB env x r;rw[bo];have hh:∀(c:Prop)[Decidable c],(if c then (n,NameKind.cell) else (n,k))=(n,if c then NameKind.cell else k):=λc _=>by split <;> rfl
  show List.lookup x ((if (k==NameKind.free&&env.scope.kind==.function&&env.kindOf n==some .cell)=true then (n,NameKind.cell) else (n,k))::_)=_;rw[hh];simp only[List.lookup_cons];cases hx:x==n with
  |true=>
   have e1:x=n:=eq_of_beq hx;subst e1;rfl
  |false=>exact ih
abbrev Cx.comp(X:Cx)(N':List Str)(scope:Scope)(cl:List (Str×Addr))(C:Addr)(s₁:Shared)(H₁:Hp)(fp:List Addr)(pn:List (Addr×Obj)):Cx where
 prog:=X.prog
 w:=X.w
 K:=X.K
 mg:=X.mg
 base:=X.base
 A:=X.A
 N:=N'
 s₀:=s₁
 H₀:=H₁
 env:=compEnvC scope cl C X.env
 outer:=X.stack
 stack:=X.stack
 ex:=fp
 fn:=λ_=>false
 calm:=X.calm
 pn:=pn
 xe:=λ_ _=>False
def PIf(X:Cx)(ifs:List Expr)(t:TT):Prop:=
 ∀(pins:List (Addr×Obj))(s:Shared)(σ:St)(H:Hp)(Q:Bool->Hp->Prop),Inv X pins σ H s->t σ H Q->
  wpAny (model X.prog X.w) X.A (forIn ifs true λc r=>if r=true then do let ok <-isTrue c X.env (eval c X.env);pure (ForInStep.yield ok) else pure (ForInStep.yield r)) (TP X pins σ Q) X.xe s
def Zr:TT:=λ_ H Q=>Q true H
theorem Zt{X:Cx}:PIf X [] Zr:=λ_ _ _ H _ I h=>wpAny_tests_nil ⟨H,I,h⟩
theorem Zu{X:Cx}{c:Expr}{t:TT}(h:PT X c t):PIf X [c] t:=λpins s σ H Q I q=>wpAny_tests_one (h pins s σ H Q I q)
def dR(cap:List (Option Nat))(σ:St):St:=cap.map λo=>match o with |none=>none |some j=>(σ[j]?).join
noncomputable def Caps(X:Cx)(scope:Scope):List Str->List (Option Nat)->Prop
 |[],[]=>True
 |_::N',none::cap=>Caps X scope N' cap
 |x::N',some j::cap=>(X.N[j]?=some x/\scope.names.lookup x=some NameKind.free)/\Caps X scope N' cap
 |_,_=>False
theorem Caps.len{X:Cx}{scope:Scope}:∀{N':List Str}{cap:List (Option Nat)},Caps X scope N' cap->cap.length=N'.length
 |[],[],_=>rfl
 |_::N',none::cap,h=>by
  have:=Caps.len (N':=N') (cap:=cap) h;simp[this]
 |_::N',some _::cap,h=>by
  have:=Caps.len (N':=N') (cap:=cap) h.2;simp[this]
 |[],_::_,h=>False.elim h
 |_::_,[],h=>False.elim h
theorem Caps.at{X:Cx}{scope:Scope}:∀{N':List Str}{cap:List (Option Nat)}{i:Nat}{x:Str}{v:V}{σ:St},Caps X scope N' cap->N'[i]?=some x->(dR cap σ)[i]?=some (some v)->
  ∃j:Nat,X.N[j]?=some x/\scope.names.lookup x=some NameKind.free/\σ[j]?=some (some v)
 |[],[],i,x,v,σ,_,e,_=>by simp at e
 |y::N',none::cap,0,x,v,σ,h,e,q=>by simp[dR]at q
 |y::N',some j::cap,0,x,v,σ,h,e,q=>by
  have e1:y=x:=by simpa using e
  subst e1;have q1:(σ[j]?).join=some v:=by simpa [dR] using q
  refine ⟨j,h.1.1,h.1.2,?_⟩;cases z:σ[j]? with
  |none=>rw[z]at q1;cases q1
  |some o=>rw[z]at q1;exact fb some q1
 |y::N',none::cap,i+1,x,v,σ,h,e,q=>Caps.at (N':=N') (cap:=cap) (i:=i) h (by simpa using e) (by simpa [dR] using q)
 |y::N',some _::cap,i+1,x,v,σ,h,e,q=>Caps.at (N':=N') (cap:=cap) (i:=i) h.2 (by simpa using e) (by simpa [dR] using q)
 |[],_::_,_,_,_,_,h,_,_=>False.elim h
 |_::_,[],_,_,_,_,h,_,_=>False.elim h
def DP(X:Cx)(N':List Str)(scope:Scope)(tg:Expr)(ifs:List Expr)(elt:Expr)(J:It)(σ0:St)(H1:Hp)(Q:VK):Prop:=
 ∃W:Nat->Nat->List V->St->Hp->Prop,(∃m,W 0 m [] σ0 H1)/\∀i m ys σ' H',W i m ys σ' H'->
  (J.stop i H'/\ys.length<=sizeLine/\∀D,H' D=none->Q (.ref D) (upd H' D (.lst ys)))\/
  (J.go i H'/\ys.length < sizeLine/\∀cl C s₁ H₁ fp pn,∃g tt te,PG (X.comp N' scope cl C s₁ H₁ fp pn) tg g/\PIf (X.comp N' scope cl C s₁ H₁ fp pn) ifs tt/\PE (X.comp N' scope cl C s₁ H₁ fp pn) elt te/\
   ∀x H2,J.yld i H' x H2->g x σ' H2 λσ3 H3=>tt σ3 H3 λb H4=>if b=true then te σ3 H4 λy H5=>∃m',m' < m/\W (i+1) m' (ys++[y]) σ3 H5 else ∃m',m' < m/\W (i+1) m' ys σ3 H4)
def wC(X:Cx)(N':List Str)(scope:Scope)(tg:Expr)(ifs:List Expr)(elt:Expr)(wi:TI)(cap:List (Option Nat)):TE:=λσ H Q=>wi σ H λJ H1=>DP X N' scope tg ifs elt J (dR cap σ) H1 Q
section
variable {prog:Program} {w:World} {A:Around} {R:Result->Shared->Prop} {s:Shared}
theorem Zv{elt target iter:Expr}{ifs:List Expr}{scope:Scope}{pos:Pos}{it acc:Value}{env:Env}(I:Nat->Shared->Prop)
  (turn:∀n s,I n s->wpAny (model prog w) A (pyNext it) (λr s₁=>match r with
   |none=>R (.ok .next) s₁
   |some v=>wpAny (model prog w) A (letOwnedTupleGo target it v) (λ_ s₁'=>wpAny (model prog w) A (assign target env v) (λ_ s₂=>
     wpAny (model prog w) A (forIn ifs true λc r=>if r=true then do let ok <-isTrue c env (eval c env);pure (ForInStep.yield ok) else pure (ForInStep.yield r)) (λok s₃=>
      if ok=true then wpAny (model prog w) A (eval elt env) (λx s₄=>
       wpAny (model prog w) A (call (.builtin "list.append") [acc,x]) (λ_ s₅=>∃m,m < n/\I m s₅) (λ_ _=>False) s₄) (λ_ _=>False) s₃
      else ∃m,m < n/\I m s₃) (λ_ _=>False) s₂) (λ_ _=>False) s₁') (λ_ _=>False) s₁) (λ_ _=>False) s)
  (n:Nat) (h:I n s):codeAny (model prog w) A (.compLoop (.ListComp elt [⟨target,iter,ifs,0⟩] scope pos) 0 it acc env) R s:=by
 refine codeAny_loop rfl I (λn s hI=>?_) n h;show wpAny _ A ((compTurn (.ListComp elt [⟨target,iter,ifs,0⟩] scope pos) 0 it acc env).onRaise (λx=>do noteFrame x env;theTreesLotGoes x)) _ _ s;refine wpAny_noted ?_;rw[compTurn_list];refine ah (wpAny_standAt (ah (cS (turn n s hI) (λr s₁ h₁=>?_) λ_ _ h'=>False.elim h')));cases r with
 |none=>exact bn h₁
 |some v=>
  refine ah (cS h₁ (λ_ s₁' h₁'=>?_) λ_ _ h'=>False.elim h');refine ah (cS h₁' (λ_ s₂ h₂=>ah (cS h₂ (λok s₃ h₃=>?_) λ_ _ h'=>False.elim h')) λ_ _ h'=>False.elim h');cases ok with
  |false=>exact bn ⟨rfl,h₃⟩
  |true=>
   exact ah (ah (cS h₃ (λx s₄ h₄=>ah (cS h₄ (λ_ s₅ h₅=>bn (bn ⟨rfl,h₅⟩)) λ_ _ h'=>False.elim h')) λ_ _ h'=>False.elim h'))
end
abbrev tx(l:List Nat):Str:=⟨l.toArray⟩
theorem bU(l:List Nat):(tx l).length=l.length:=by simp[Str.length]
theorem qM(a b:List Nat):tx a++tx b=tx (a++b):=by show (⟨a.toArray++b.toArray⟩:Str)=⟨(a++b).toArray⟩;simp
theorem DQ{a b:List Nat}(h:tx a=tx b):a=b:=by have:=fb (λx:Str=>x.cps.toList) h;simpa using this
theorem wD(x:Str):x=tx x.cps.toList:=by cases x;simp
section
variable {X:Cx}
theorem DR:∀{ys:List Str}{us:List Value},Vals (ys.map V.str) us->StrsAre us ys
 |[],us,r=>by
  rw[dk]at r;cases r;exact .nil
 |y::ys,us,r=>by
  rw[bo]at r;cases r with
  |cons r1 r2=>
   obtain ⟨t,e⟩:=r1;subst e;exact .cons y t (DR r2)
noncomputable def rJoin(K:PF):V->List V->Hp->VK->Prop:=λx vs H Q=>∃z p ys,x=.str z/\vs=[.ref p]/\SqL K H p (ys.map V.str)/\(ys.map (·.length)).sum+ys.length * z.length<=16777216/\Q (.str (Str.join z ys)) H
theorem Zw:MtR X "str.join" (rJoin X.K):=by intro pins s σ H x xs v us Q I rx rs h;obtain ⟨z,p,ys,rfl,rfl,hq,hb,q⟩:=h;obtain ⟨t,rfl⟩:=rx;obtain ⟨u,rfl,ru⟩:=vals1 rs;cases ru;obtain ⟨its,rv,pl,hz⟩:=I.list hq;refine join_list pl.isList (by simpa using DR rv) hb λt' k=>⟨.str _,H,I.tok _,⟨_,rfl⟩,?_⟩;have e:Txt.join z ys=Str.join z ys:=StrLaws.glued_eq_join z ys;rw[e];exact q
noncomputable def Zx(K:PF):List V->Hp->VK->Prop:=λxs H Q=>∃x n t b,xs=[x,.ty n]/\TyOf K H x t/\PySem.W.kitOne K t (.type n)=some b/\Q (.bl b) H
theorem Zy:bJ X (.builtin "isinstance") (Zx X.K):=by intro pins s σ H xs us Q I r h;obtain ⟨x,n,t,b,rfl,ty,e,q⟩:=h;obtain ⟨u,w',rfl,rx,ry⟩:=vals2 r;cases ry;exact Yg I rx ty e λtk=>⟨.bl b,H,I.tok _,rfl,q⟩
theorem Zz:bootBuiltins "bool"=some (.type "bool"):=by ac_rfl
theorem DW:bootBuiltins "int"=some (.type "int"):=by ac_rfl
theorem DX:bootBuiltins "str"=some (.type "str"):=by ac_rfl
theorem DY:bootBuiltins "list"=some (.type "list"):=by ac_rfl
theorem ZC:bootBuiltins "isinstance"=some (.builtin "isinstance"):=by ac_rfl
theorem ZD {x:Str} {T:String} {pos:Pos} (hg:Gl X x) (hm:X.mg x=none) (hv:bootBuiltins x=some (.type T)) (hn:x≠"__name__":=by decide) (hd:(x==("__debug__":Str))=false:=by decide):PE X (.Name x pos) (tC (.ty T)):=
 Wh hg hm hv (v:=.ty T) rfl hn hd
theorem ZF:OpR X (binaryOp .Mult) (λx y H Q=>∃i n,x=.str i/\y=.int n/\MulOk i n/\Q (.str (Txt.mul i n)) H):=by intro pins s σ H x y v u Q I rx ry h;obtain ⟨i,n,rfl,rfl,hok,q⟩:=h;obtain ⟨t,rfl⟩:=rx;obtain ⟨t',rfl⟩:=ry;exact SB.mul hok λt' k=>⟨.str _,H,I.tok _,⟨_,rfl⟩,q⟩
end
def wF(X:Cx)(st:List Stmt)(t:TS):Prop:=
 ∀(pins:List (Addr×Obj))(s:Shared)(σ:St)(H:Hp)(D:Ends),1<=s.toks->Inv X pins σ H s->t D σ H->wpAny (model X.prog X.w) X.A (execs st X.env) (SP X pins D) X.xe s
def PE1(X:Cx)(e:Expr)(t:TE):Prop:=
 ∀(pins:List (Addr×Obj))(s:Shared)(σ:St)(H:Hp)(Q:VK),1<=s.toks->Inv X pins σ H s->t σ H Q->wpAny (model X.prog X.w) X.A (eval e X.env) (EP X pins σ Q) X.xe s
theorem ZG{X:Cx}{e:Expr}{te:TE}{pos:Pos}(he:PE1 X e te):wF X [.Return (some e) pos] (Cp te):=by intro pins s σ H D h1 I h;refine gd (wpAny_Return_some (thn (he pins s σ H _ h1 I h) λv s1 ⟨x,H1,I1,r1,q1⟩=>?_));exact ⟨x,σ,H1,I1,r1,q1⟩
theorem wG{c d:Nat}:∀l:List Nat,c∉l->l.map (λa=>if a=c then d else a)=l
 |[],_=>rfl
 |a::r,h=>by
  have h1:a≠c:=λe=>h (by rw[e];exact cp);rw[bo,if_neg h1,wG r λz=>h (ca _ z)]
theorem Ea(c d:Nat):∀parts:List Str,(∀p∈parts,c∉p.cps.toList)->(Str.join ⟨#[c]⟩ parts).cps.toList.map (λa=>if a=c then d else a)=(Str.join ⟨#[d]⟩ parts).cps.toList
 |[],_=>rfl
 |[x],h=>by
  simp only[Str.join];exact wG _ (h x cp)
 |x::y::r,h=>by
  have ih:=Ea c d (y::r) λp hp=>h p (ca _ hp);have e:∀z:Str,Str.join z (x::y::r)=x++z++Str.join z (y::r):=λz=>by simp only[Str.join]
  have ap:∀u v:Str,(u++v).cps.toList=u.cps.toList++v.cps.toList:=λu v=>by
   show (u.cps++v.cps).toList=_;simp
  rw[e,e,ap,ap,ap,ap,cb,cb,ih,wG _ (h x cp)];simp
theorem ZJ(l:List Nat)(c d:Nat):Txt.replace (tx l) (tx [c]) (tx [d])=tx (l.map λa=>if a=c then d else a):=by
 have e:(Txt.replace (tx l) ⟨#[c]⟩ ⟨#[d]⟩).cps.toList=l.map λa=>if a=c then d else a:=by rw[StrLaws.replace_one,<-Ea c d _ (StrLaws.split_free (tx l) c),StrLaws.join_split]
 rw[wD (Txt.replace (tx l) (tx [c]) (tx [d]))];exact fb tx e
section
variable {X:Cx}
theorem ZK{o:Expr}{to:TE}{y z:Str}{ky kz:Nat}{py pz apos cpos:Pos}(ho:PE X o to)(hyz:(y==z)=false)
  (hbase:attributeBase o "replace" X.env (eval o X.env)=eval o X.env:=by rfl)
  (hfew:((backTo cpos (starEach [.Constant (.str y) ky py,.Constant (.str z) kz pz] X.env)).all (λx=>!x.1)&&(backToKw cpos (keywordEach [] X.env)).all (λx=>x.1.isSome)
  &&decide (([.Constant (.str y) ky py,.Constant (.str z) kz pz]:List Expr).length+([]:List Keyword).length+(if ([]:List Keyword).isEmpty then 0 else 1) < 30))=true:=by rfl)
  (hline:(apos.endLine==cpos.line)=true:=by rfl):
  PE1 X (.Call (.Attribute o "replace" apos) [.Constant (.str y) ky py,.Constant (.str z) kz pz] [] cpos)
   (λσ H Q=>to σ H λv H1=>∃x,v=.str x/\x.length+(x.length+1) * z.length<=16777216/\Q (.str (Txt.replace x y z)) H1):=by
 intro pins s σ H Q h1 I h;refine wpAny_Call_method_late hbase hfew hline rfl (cS (wpAny_toks_of (n:=1) h1 (ho pins s σ H _ I h)) (λv s1 h2=>?_) (λ_ _ e=>e.2));obtain ⟨t1,v',H1,I1,r1,x,e,hb,q⟩:=h2;subst e;obtain ⟨t,rfl⟩:=r1;refine ⟨"str","str.replace",F.plainAttrs_str,F.slot_str_replace,F.type_str_replace,typeIs_str _ _ _,(λ_ e=>nomatch e),?_⟩;refine Calls.callWith_builtin (by rfl) (Calls.evalArgs_plain ?_);show wpAny _ _ (spliced [(false,eval (.Constant (.str y) ky py) X.env),(false,eval (.Constant (.str z) kz pz) X.env)]) _ _ s1;refine Calls.spliced_cons (Calls.Constant_str (Calls.spliced_cons (Calls.Constant_str (Calls.spliced_nil ?_))));exact SC.replace (by show @Ne Nat s1.toks 0;omega) (by show @Ne Nat (s1.toks+1) 0;omega) (by show @Ne Nat s1.toks (s1.toks+1);omega) hyz hb λt' k=>⟨.str _,H1,I1.tok _,⟨_,rfl⟩,q⟩
end
theorem ZL{CX:CXT}{P:Program}{w:World}{K:PF}{mg:Str->Option Value}{base:Heap}{k:Nat}{f:Addr}{name qual:Str}{params:Arguments}{body:List Stmt}{scope:Scope}{dV kV doc pm cdv ct oc:Value}{an od:Option Addr}
  {osl:Array (Option Value)} {N:List Str} {x:Str} {sp:Sp} (lk:K.lookup f=some ⟨oc,od,.func (PySem.W.fnOf name qual params body scope dV kV doc pm an cdv ct),osl⟩) (hcd:PySem.W.codeIn K cdv qual=true) (S:FnScope N [x] scope)
  (hx:scope.names.lookup x=some .local) (hnc:∀y∈scope.names,y.2≠NameKind.cell) (hcf:∀n,cellsFrom n scope.names []=[])
  (len:∀vs H Q E,sp vs H Q E->vs.length=[x].length)
  (hbody:∀(A:Around)(outer:List Env)(s:Shared)(H:Hp)(vs:List V)(Q:VK)(E:XK),Room k (A.deeper (envOfC qual scope s.heap.objs.size f cdv))->sp vs H Q E->
   ∃t,wF (cQ CX P w K mg base N qual scope f cdv A outer s H E) body t/\t { nx:=λ_ H'=>Q .non H',rt:=Q } (start N vs) H):
  FnOk P w K mg base CX (k+1) f (PySem.W.fnOf name qual params body scope dV kV doc pm an cdv ct) [x] sp:=by
 refine ⟨len,λA outer s H args us vs Q E hr e0 hb r hsp=>?_⟩;have hl:=len _ _ _ _ hsp;have KX:K.In s.heap:=e0.mod.kin.keeps λb o e=>(e0.bs b o e).1;have lim:s.heap.NoLimit:=e0.mod.nolimit.keeps λb o e=>(e0.bs b o e).1;obtain ⟨u,rfl⟩:∃u,us=[u]:=by
  have h2:=r.length;rw[hl]at h2;match us,h2 with
  |[u],_=>exact ⟨u,rfl⟩
 refine codeAny_call_function hr.depth (KX _ _ lk) rfl S.co S.gen rfl (PySem.W.codeRec_of KX hcd) (hb _ _ _ _ ?_);refine wpAny_newFunctionEnv (binds:=[x].zip [u]) hnc (λy hy=>?_) (λh' hns hsb=>?_) S.kind
 ·have e:y=(x,u):=by simpa using hy
  rw[e];exact hx
 have envEq:newEnv scope s.heap.objs.size mainGlobals [] (qual++Str.ofString ".<locals>.") (some f) cdv none builtinsNs=envOfC qual scope s.heap.objs.size f cdv:=by unfold envOfC newEnv;rw[hcf]
 have kp:∀b o,s.heap.get? b=some o->h'.get? b=some o:=λb o e=>hsb.extBut b o (cq (aI e)) (al _ e);have mEq:bindL (envOfC qual scope s.heap.objs.size f cdv).kindOf ([x].zip [u]) (λ_=>none)=λy=>(([x].zip [u]).reverse).lookup y:=by
  funext y;have hk:(envOfC qual scope s.heap.objs.size f cdv).kindOf x=some .local:=hx;show bindL (envOfC qual scope s.heap.objs.size f cdv).kindOf [(x,u)] (λ_=>none) y=List.lookup y [(x,u)];unfold bindL;rw[if_pos hk];unfold bindL;by_cases hy:y=x
  ·subst hy;simp
  ·have:(y==x)=false:=by simpa using hy
   simp[hy,List.lookup_cons,this]
 have xx:InCallC s s.heap.objs.size (bindL (envOfC qual scope s.heap.objs.size f cdv).kindOf ([x].zip [u]) λ_=>none) (cellsFrom (s.heap.objs.size+1) scope.names []) (bindC (envOfC qual scope s.heap.objs.size f cdv).kindOf ([x].zip [u]) λ_=>none)
   { s with heap:=h',toks:=s.toks+([x].zip [u]).length }:=by
  rw[mEq,hcf];exact ⟨⟨⟨h',_,rfl⟩,hns,kp,ay _⟩,(λn c e=>by simp at e),List.Pairwise.nil,(λn c e=>nomatch e)⟩
 show _/\codeAny (model P w) A (.func body (newEnv scope s.heap.objs.size mainGlobals [] (qual++Str.ofString ".<locals>.") (some f) cdv none builtinsNs)) _ _;rw[envEq];refine ⟨lim.keeps kp,codeAny_func ?_⟩;obtain ⟨t,ht,hq⟩:=hbody A outer s H vs Q E (hr.deeper _) hsp;have I:Inv (cQ CX P w K mg base N qual scope f cdv A outer s H E) [] (start N vs) H { s with heap:=h',toks:=s.toks+([x].zip [u]).length }:=Dd S hr.hd e0 hl r xx;refine cS (ht [] _ (start N vs) H _ (Nat.le_add_left 1 s.toks) I hq) (λfl s' hs=>?_) λe s' hs=>hs;have fin:∀{σ':St}{H':Hp}{v:V}{u:Value},Inv (cQ CX P w K mg base N qual scope f cdv A outer s H E) [] σ' H' s'->RelV v u->Q v H'->CE outer P w H s Q u s':=
  λ{σ' H' v u} J rv q=>⟨v,H',J.os,J.bare,J.base,J.hok,rv,q⟩
 cases fl with
 |ret u=>
  obtain ⟨v,σ',H',J,rv,q⟩:=hs;exact fin J rv q
 |next=>
  obtain ⟨σ',H',J,q⟩:=hs;exact fin (v:=V.non) (u:=Value.none) J rfl q
 |brk=>
  obtain ⟨_,_,_,q⟩:=hs;exact False.elim q
 |cont=>
  obtain ⟨_,_,_,q⟩:=hs;exact False.elim q
theorem Fun.ok1{P:Program}{w:World}{K:PF}{mg:Str->Option Value}{base:Heap}{x qual:Str}{st:Stmt}{f:Addr}{fd:FuncData}{N:List Str}{y:Str}{k:Nat}{sp:Sp}(F:Fun K x qual st f fd)(S:FnScope N [y] (ak st))
  (hx:(ak st).names.lookup y=some .local) (hnc:∀z∈(ak st).names,z.2≠NameKind.cell) (hcf:∀n,cellsFrom n (ak st).names []=[]) (len:∀vs H Q E,sp vs H Q E->vs.length=[y].length)
  (hbody:∀(cdv:Value)(A:Around)(outer:List Env)(s:Shared)(H:Hp)(vs:List V)(Q:VK)(E:XK),Room k (A.deeper (envOfC qual (ak st) s.heap.objs.size f cdv))->sp vs H Q E->
   ∃t,wF (cQ CX0 P w K mg base N qual (ak st) f cdv A outer s H E) (aD st) t/\t { nx:=λ_ H'=>Q .non H',rt:=Q } (start N vs) H):FnOk P w K mg base CX0 (k+1) f fd [y] sp:=by
 obtain ⟨oc,od,kV,doc,pm,an,cdv,ct,osl,rfl,lk,hcd⟩:=F.ex;exact ZL lk hcd S hx hnc hcf len λA outer s H vs Q E hr hsp=>hbody cdv A outer s H vs Q E hr hsp
open Builtin Builtin.Str
theorem ZM{prog:Program}{w:World}{A:Around}(hh:A.handled=none)(it:Addr)(x:Str)(t:Tok):
  Draws prog w A it [it] x.cps.size (λi v=>∃c u,x.cps[i]?=some c/\v=.str ⟨#[c]⟩ u) (λi h=>h.IsStrIter it (strIterType x) x t i):=by
 unfold strIterType;split
 ·exact Draws.strAscii hh it x t
 ·exact Draws.strWide hh it x t
structure ZApart(z TI TO i1 i2:Addr):Prop where
 TIz:TI≠z
 TOz:TO≠z
 i1z:i1≠z
 i2z:i2≠z
 TITO:TI≠TO
 TIi1:TI≠i1
 TIi2:TI≠i2
 TOi1:TO≠i1
 TOi2:TO≠i2
 i12:i1≠i2
section
variable {X:Cx}
theorem Eb:∀{bs:List Bool}{us:List Value}{i:Nat}{v:Value},Vals (bs.map V.bl) us->us[i]?=some v->∃b,bs[i]?=some b/\v=.bool b
 |[],us,i,v,r,e=>by
  rw[dk]at r;cases r;simp at e
 |b::bs,us,i,v,r,e=>by
  rw[bo]at r;cases r with
  |cons r1 r2=>
   cases i with
   |zero=>
    cases (show _=Value.bool b from r1);exact ⟨b,rfl,by simpa using e.symm⟩
   |succ i=>exact Eb (i:=i) r2 (by simpa using e)
theorem ZP:bootBuiltins "all"=some (.builtin "all"):=by ac_rfl
theorem ZQ:bootBuiltins "zip"=some (.type "zip"):=by ac_rfl
theorem all_range(bs:List Bool)(n:Nat)(hn:n=bs.length):((List.range n).all λi=>(bs[i]?).getD true)=bs.all id:=by
 subst hn;rw[Bool.eq_iff_iff,bX,bX];constructor
 ·intro h b hb;obtain ⟨i,hi,e⟩:=List.mem_iff_getElem.mp hb;have:=h i (List.mem_range.mpr hi);rw[aS hi,e]at this;simpa using this
 ·intro h i hi;have hi':=List.mem_range.mp hi;rw[aS hi'];simpa using h _ (cw hi')
theorem ZR (hc:X.calm=true):bJ X (.builtin "all") (λxs H Q=>∃(p:Addr) (bs:List Bool),xs=[.ref p]/\SqL X.K H p (bs.map V.bl)/\Q (.bl (bs.all id)) H):=by
 intro pins s σ H xs us Q I r h;obtain ⟨p,bs,rfl,hq,q⟩:=h;obtain ⟨u,rfl,ru⟩:=vals1 r;cases ru;obtain ⟨its,rv,pl,hz⟩:=I.list hq;have hl:=pl.isList;have hlt:p < s.heap.objs.size:=by obtain ⟨_,e,_⟩:=hl;exact aI e
 refine call_all_walk (wpAny_pyIter_list hl ?_);refine ⟨s.heap.objs.size,[s.heap.objs.size,p],[s.heap.objs.size],its.toArray.size,_,_,λi=>(bs[i]?).getD true,rfl,Walks.list (A:=X.A.in1) (I.ok.hd hc) _ p (cq hlt) its.toArray,
  ⟨⟨_,bd _ rfl,rfl,rfl⟩,hl.push _⟩,λi v s' Q' E' hP hQ=>?_,λh' tk hk=>?_⟩
 ·obtain ⟨b,e,rfl⟩:=Eb rv (i:=i) (v:=v) (by simpa using hP);simp only[e,Option.getD_some]at hQ;exact ej hQ
 ·have e:=all_range bs its.toArray.size (by rw[ar,<-rv.length,ag]);rw[e];exact ⟨.bl _,H,I.kept (λb o q=>hk b o (λhm=>by rw[aT.mp hm]at q;exact ee _ (aI q)) (al _ q)),rfl,q⟩
theorem ZS:OpR X (compareOp .Is) (λx y H Q=>∃i j,x=.bl i/\y=.bl j/\Q (.bl (i==j)) H):=by intro pins s σ H x y v u Q I rx ry h;obtain ⟨i,j,rfl,rfl,q⟩:=h;cases rx;cases ry;exact is_bool ⟨.bl _,H,I,rfl,q⟩
theorem ZV:bJ X (.type "int") (λxs H Q=>∃z n,xs=[.str z]/\PySem.intText? z=some n/\z.length<=640/\Q (.int n) H):=by intro pins s σ H xs us Q I r h;obtain ⟨z,n,rfl,hn,hl,q⟩:=h;obtain ⟨u,rfl,t,rfl⟩:=vals1 r;exact PySem.W.KIN.call_text hn hl ⟨.int n,H,I.tok _,⟨_,rfl⟩,q⟩
noncomputable def ZW:V->Option Int->Option Int->Hp->VK->Prop:=λx lo hi H Q=>∃z,x=.str z/\z.length<=sizeLine/\Q (.str (Txt.slice z lo hi)) H
theorem ZX:SlR X ZW:=by
 intro pins s σ H x v vl vu lo hi sl Q I rx hs pl pu h;obtain ⟨z,rfl,hz,q⟩:=h;obtain ⟨t,rfl⟩:=rx;refine ⟨"str",_,slot_str_getitem.lookup,typeIs_str _ _ _,?_⟩;obtain ⟨l,el,e1⟩:∃l:Option (Int×Tok),vl=partValue l/\l.map (·.1)=lo:=by
  cases pl with
  |none=>exact ⟨none,rfl,rfl⟩
  |int i t=>exact ⟨some (i,t),rfl,rfl⟩
 obtain ⟨u,eu,e2⟩:∃u:Option (Int×Tok),vu=partValue u/\u.map (·.1)=hi:=by
  cases pu with
  |none=>exact ⟨none,rfl,rfl⟩
  |int i t=>exact ⟨some (i,t),rfl,rfl⟩
 subst el eu e1 e2;refine wpAny_getItem_str_slice (l:=l) (u:=u) (st:=none) hs rfl ?_;unfold sliceMade;unfold Txt.slice at q;show (if ((1:Int)==1&&(slicePicked z l u none).length==z.length)=true then Made.val (.str z t) else Made.str ⟨((slicePicked z l u none).filterMap (z.cps[·]?)).toArray⟩).post _ _;have ep:slicePicked z l u none=Builtin.Str.strSliceIndices (l.map (·.1)) (u.map (·.1)) 1 z.length:=rfl;rw[ep];by_cases hc:((1:Int)==1&&(Builtin.Str.strSliceIndices (l.map (·.1)) (u.map (·.1)) 1 z.length).length==z.length)=true
 ·rw[if_pos hc]at q ⊢;exact ⟨.str z,H,I,⟨t,rfl⟩,q⟩
 ·rw[if_neg hc]at q ⊢;refine ⟨?_,⟨.str _,H,I.tok _,⟨_,rfl⟩,q⟩⟩;show (List.filterMap _ _).toArray.size<=sizeLine;rw[ar];have h1:=sliceIndices_le (l.map (·.1)) (u.map (·.1)) z.length;have h2:=List.length_filterMap_le (λx=>z.cps[x]?) (Builtin.Str.strSliceIndices (l.map (·.1)) (u.map (·.1)) 1 z.length);omega
end
theorem Ec{X:Cx}{elt tg iter:Expr}{ifs:List Expr}{scope:Scope}{pos:Pos}{wi:TI}{pins:List (Addr×Obj)}{s:Shared}{σ:St}{H:Hp}{Q:VK}{RR:Value->Addr->Result->Shared->Prop}(N':List Str)(cap:List (Option Nat))(hc:X.calm=true)(hi:PI X tg iter wi)(hcap:Caps X scope N' cap)
  (hcell:scope.names.all (λy=>y.2 != NameKind.cell)=true)
  (hfr:scope.names.all (λy=>y.2 != NameKind.free||(X.env.kindOf y.1==some NameKind.cell||X.env.kindOf y.1==some NameKind.free))=true)
  (hkind:scope.kind=.function) (I:Inv X pins σ H s) (h:wC X N' scope tg ifs elt wi cap σ H Q)
  (fin:∀(D C:Addr)(H':Hp)(s4:Shared)(m:Str->Option Value),Inv X pins σ H' s4->Q (.ref D) H'->s4.heap.Ns C m->eO X pins H' C->RR (.ref D) C (.ok .next) s4):
  wpAny (model X.prog X.w) X.A (eval iter X.env) (λx s₁=>wpAny (model X.prog X.w) X.A (pyIter x) (λit s₂=>wpAny (model X.prog X.w) X.A (newList []) (λacc s₃=>
   wpAny (model X.prog X.w) X.A (newFunctionEnv scope X.env.globals (cM X.env scope.names []) [] X.env.qual none .none (some X.env)) (λcenv s₄=>
    codeAny (model X.prog X.w) X.A (.compStart (.ListComp elt [⟨tg,iter,ifs,0⟩] scope pos) 0 it acc { cenv with scope:=relabel scope X.env }) (RR acc cenv.locals) s₄) X.xe s₃) X.xe s₂) X.xe s₁) X.xe s:=by
 have hcell':∀y∈scope.names,y.2≠NameKind.cell:=λy hy=>by
  have:=bX.mp hcell y hy;simpa using this
 have hfr':∀y∈scope.names,y.2=NameKind.free->(X.env.kindOf y.1=some NameKind.cell\/X.env.kindOf y.1=some NameKind.free):=λy hy hl=>by
  have:=bX.mp hfr y hy;simpa [hl] using this
 have hcs:∀y∈scope.names,y.2=NameKind.free->(X.env.cells.lookup y.1).isSome=true:=λy hy hl=>by
  obtain ⟨c,e⟩:=I.ok.has y.1 (hfr' y hy hl);rw[e];rfl
 have clsub:∀x c,(cM X.env scope.names []).lookup x=some c->X.env.cells.lookup x=some c:=Dz (λx c e=>by simp at e);have clhas:∀x,scope.names.lookup x=some NameKind.free->∃c,(cM X.env scope.names []).lookup x=some c:=λx e=>by
  have hm:=d3 e;exact cK.mp (DK (hcs _ hm rfl) hm)
 have rel:∀x,(relabel scope X.env).names.lookup x=(scope.names.lookup x).map λk=>if (k==NameKind.free&&X.env.scope.kind==.function&&X.env.kindOf x==some .cell)=true then NameKind.cell else k:=λx=>wB
 have relfree:∀x,((relabel scope X.env).names.lookup x=some NameKind.cell\/(relabel scope X.env).names.lookup x=some NameKind.free)->scope.names.lookup x=some NameKind.free:=λx e=>by
  rw[rel x]at e;cases z:scope.names.lookup x with
  |none=>rw[z]at e;rcases e with e |e <;> cases e
  |some k=>
   have nk:=hcell' _ (d3 z);rw[z]at e;cases k with
   |free=>rfl
   |cell=>exact absurd rfl nk
   | «local»=>rcases e with e |e <;> simp[show (NameKind.«local»==NameKind.free)=false by decide]at e
   |globalExplicit=>rcases e with e |e <;> simp[show (NameKind.globalExplicit==NameKind.free)=false by decide]at e
   |globalImplicit=>rcases e with e |e <;> simp[show (NameKind.globalImplicit==NameKind.free)=false by decide]at e
 generalize hcl:cM X.env scope.names []=cl at clsub clhas;refine thn (hi pins s σ H _ I h) λxv s0 h0=>thn h0 λitv s2 h2=>?_;obtain ⟨it,fp,tn,J,H2,e,I2,T,st2,f2,W,⟨m0,w0⟩,turn⟩:=h2;subst e;refine wpAny_newObj_type (wpAny_newFunctionEnv hcell' (by intro y hy;simp at hy) (λh₁ hns₁ hsb₁=>?_) hkind);dsimp only at hns₁ hsb₁ ⊢;generalize hH2:s2.heap.push { cls:=.type "list",dict:=none,data:=.seq ([]:List Value).toArray }=HP at hns₁ hsb₁ ⊢;have hC:HP.objs.size=s2.heap.objs.size+1:=by rw[<-hH2,dQ]
 have hDC:s2.heap.objs.size≠HP.objs.size:=by rw[hC];exact cq (Nat.lt_succ_self _)
 have below:∀b,b < s2.heap.objs.size->b≠HP.objs.size/\b≠s2.heap.objs.size:=λb hb=>⟨by rw[hC];exact cq (Nat.lt_succ_of_lt hb),cq hb⟩;have old:∀b o,s2.heap.get? b=some o->h₁.get? b=some o:=λb o e=>hsb₁.extBut b o (below b (aI e)).1 (al _ (hH2 ▸ al _ e));have hacc:h₁.get? s2.heap.objs.size=some { cls:=.type "list",data:=.seq ([]:List Value).toArray 0 }:=hsb₁.extBut _ _ hDC (al _ (hH2 ▸ bd _ rfl));have hst₁:tn 0 h₁:=T.keep _ _ _ st2 λb _ o e=>old b o e;have fplt:∀b∈fp,b < s2.heap.objs.size:=λb hb=>by
  obtain ⟨o,e,_⟩:=T.obj _ _ st2 b hb;exact aI e
 have fslt:∀b∈frs X.stack,b < s2.heap.objs.size:=λb hb=>by
  obtain ⟨_,o,e,_⟩:=I2.stack.mem hb;exact aI e
 have celllt:∀x c,cl.lookup x=some c->c < s2.heap.objs.size:=λx c e=>by
  obtain ⟨v,q⟩:=I2.cell x c (clsub x c e);exact q.lt
 have hDf:H2 s2.heap.objs.size=none:=I2.hok.fresh (ay _);have hCf:H2 HP.objs.size=none:=I2.hok.fresh (by rw[hC];exact fy _);have nofs:∀b∈fp,b∉frs X.stack:=λb hb z=>by
  obtain ⟨_,f1,f2',_⟩:=f2 b hb;rcases bi.mp (I2.stkSub b z) with e |e
  ·exact f1 e
  ·exact f2' e
 have ok':(X.comp N' scope cl HP.objs.size s2 H2 fp (X.pn++pins)).Ok:=
  ⟨I2.ok.mod,hkind,I2.ok.glob,I2.ok.blt,(by show s2.heap.objs.size<=HP.objs.size;rw[hC];exact fy _),
   λx y c e1 e2=>I2.ok.inj x y c (clsub x c e1) (clsub y c e2),λx hx=>clhas x (relfree x hx),λx c hf _=>(by cases hf),I2.ok.hd,I2.ok.frames,.inl rfl,
   λb hb=>⟨(below b (fplt b hb)).1,λx c e=>(f2 b hb).2.2.2.2.1 x c (clsub x c e)⟩,I2.bs,bv I2.ok.bsz I2.sz,
   λb o e hb=>(by
    rcases (f2 b hb).2.2.2.1 with z |z
    ·exact I2.ok.noex b o e z
    ·exact absurd (bq (aI e) (bv I2.ok.bsz z)) (ee _)),
   nofs,I2.stack,I2.stkFree⟩
 have pnOk:∀p∈X.pn++pins,p.1 < s2.heap.objs.size/\p.1∉frs X.stack:=λp hp=>by
  obtain ⟨e,_,n1,n2,_⟩:=I2.pin p hp;refine ⟨aI e,λz=>?_⟩;rcases bi.mp (I2.stkSub _ z) with e |e
  ·exact n1 e
  ·exact n2 e
 have I0:∀t,Inv (X.comp N' scope cl HP.objs.size s2 H2 fp (X.pn++pins)) [(s2.heap.objs.size,{ cls:=.type "list",data:=.seq ([]:List Value).toArray 0 })] (dR cap σ) H2 { s2 with heap:=h₁,toks:=t }:=λt=>
  ⟨ok',rfl,I2.bare,Un.kept old,⟨_,hns₁,λi x v e1 e2 _=>by
    obtain ⟨j,nj,fr,sj⟩:=hcap.at e1 e2;obtain ⟨m,_,hl⟩:=I2.loc;have hk:=hfr' (x,NameKind.free) (d3 fr) rfl;obtain ⟨u,r,l⟩:=hl j x v nj sj (by rcases hk with hk |hk;exact .inr (.inl hk);exact .inr (.inr hk));refine ⟨u,r,.inr ⟨?_,?_⟩⟩
    ·show (relabel scope X.env).names.lookup x=some .cell\/(relabel scope X.env).names.lookup x=some .free;rw[rel x,fr,Option.map_some];by_cases hh:(NameKind.free==NameKind.free&&X.env.scope.kind==ScopeKind.function&&X.env.kindOf x==some NameKind.cell)=true
     ·exact .inl (by rw[if_pos hh])
     ·exact .inr (by rw[if_neg hh])
    ·obtain ⟨c,ec⟩:=clhas x fr;have ec':=clsub x c ec;rcases l with ⟨k1,_⟩ |⟨_,c',e',q⟩
     ·rcases hk with hk |hk <;> (rw[hk]at k1;cases k1)
     ·have ecc:X.env.cells.lookup x=some c:=ec';rw[e']at ecc;cases ecc;obtain ⟨o,ho,hd⟩:=q;exact ⟨_,ec,o,old _ _ ho,hd⟩⟩,
   λx c e=>(by obtain ⟨v,o,ho,hd⟩:=I2.cell x c (clsub x c e);exact ⟨v,o,old _ _ ho,hd⟩),hCf,λx c e=>I2.freeC x c (clsub x c e),
   λp hp=>by
    rcases ba.mp hp with z |z
    ·obtain ⟨e,n0,_,_,d⟩:=I2.pin p z;exact ⟨old _ _ e,n0,(below _ (pnOk p z).1).1,(pnOk p z).2,d⟩
    ·have e:p=_:=aT.mp z;subst e;exact ⟨hacc,hDf,hDC,λz=>absurd (fslt _ z) (ee _),λv z=>by have z':Data.seq _ _=Data.cell v:=z;cases z'⟩,
   I2.hok.kept old,by show (dR cap σ).length=N'.length;unfold dR;rw[ag];exact hcap.len⟩
 have fpok:∀{H':Hp}{o:Obj},(∀b∈fp,H' b=none)->∀b∈fp,eO (X.comp N' scope cl HP.objs.size s2 H2 fp (X.pn++pins)) [(s2.heap.objs.size,o)] H' b:=λhn b hb=>
  ⟨hn b hb,(below b (fplt b hb)).1,nofs b hb,.inl hb,λx c e=>(f2 b hb).2.2.2.2.1 x c (clsub x c e),λp hp=>by
   rcases ba.mp hp with z |z
   ·exact (f2 b hb).2.2.2.2.2 p z
   ·have e:p=_:=aT.mp z;subst e;exact Ne.symm (below b (fplt b hb)).2⟩
 have loop:∀s₃:Shared,s₃={ s2 with heap:=h₁,toks:=s2.toks+([]:List (Str×Value)).length }->
   codeAny (model X.prog X.w) X.A (.compLoop (.ListComp elt [⟨tg,iter,ifs,0⟩] scope pos) 0 (.ref it) (.ref s2.heap.objs.size) (compEnvC scope cl HP.objs.size X.env))
    (RR (.ref s2.heap.objs.size) HP.objs.size) s₃:=by
  rintro s₃ rfl;refine Zv
   (λk s'=>∃(i:Nat) (ys:List V) (its:List Value) (n:Nat) (σ':St) (H':Hp),Inv (X.comp N' scope cl HP.objs.size s2 H2 fp (X.pn++pins)) [(s2.heap.objs.size,{ cls:=.type "list",data:=.seq its.toArray n })] σ' H' s'/\Vals ys its/\
    tn i s'.heap/\(∀b∈fp,H' b=none)/\W i k ys σ' H') ?_ m0 ⟨0,[],[],0,_,H2,I0 _,.nil,hst₁,λb hb=>(f2 b hb).1,w0⟩
  rintro k s3 ⟨i,ys,its,n,σ3,H3,I3,rv3,st3,fr3,w3⟩;rcases turn i k ys σ3 H3 w3 with ⟨stop,hz,qn⟩ |⟨go,hz,step⟩
  ·refine thn (T.done (X.comp N' scope cl HP.objs.size s2 H2 fp (X.pn++pins)) rfl rfl rfl hc i _ s3 σ3 H3 _ I3 (fpok fr3) st3 stop) λr s4 ⟨hr,I4⟩=>?_;subst hr;obtain ⟨m,hn,_⟩:=I4.loc;obtain ⟨pD,nD,_,_,_⟩:=I4.pin (s2.heap.objs.size,{ cls:=.type "list",data:=.seq its.toArray n }) (bg _ (aT.mpr rfl));have nC:H3 HP.objs.size=none:=I4.free;have u:Un (frs X.stack) fp H2 H3 s2.heap s4.heap:=I4.base;refine fin s2.heap.objs.size HP.objs.size (upd H3 s2.heap.objs.size (.lst ys)) s4 m ?_ (qn _ nD) hn ?_
   ·refine I2.call' (s':=s4) (ch:=fp) I4.os ?_ ?_ I4.bare λb hb=>⟨(f2 b hb).2.2.2.1,(f2 b hb).2.1,(f2 b hb).2.2.2.2.1,(f2 b hb).2.2.2.2.2⟩
    ·refine ⟨λb o e n0 hb hx=>u.keep b o e n0 hb hx,λb o e n0 hb hx=>u.slot b o e n0 hb hx,λb o e n0 hx=>?_,λb o e hx=>u.there b o e hx,λb xs e=>?_,λb o v e=>?_,λb ps e=>?_⟩
     ·rw[aJ (below b (aI e)).2];exact u.free b o e n0 hx
     ·rw[aJ (bw e hDf)];exact u.tups b xs e
     ·rw[aJ (bw e hDf)];exact u.frzs b o v e
     ·rw[aJ (bw e hDf)];exact u.tbls b ps e
    ·intro b o e;by_cases hb:b=s2.heap.objs.size
     ·subst hb;rw[cP]at e;cases e;exact ⟨hz,its,n,rv3,pD⟩
     ·rw[aJ hb]at e;exact (I4.hok b o e).stay (λc v _ q=>q) (λc q=>by rw[aJ (bw q nD)];exact q) λc xs q=>by rw[aJ (bw q nD)];exact q
   ·have hle:s2.heap.objs.size<=HP.objs.size:=by rw[hC];exact fy _
    exact I2.fpOk hle (by rw[aJ (Ne.symm hDC)];exact nC)
  ·refine thn (T.item (X.comp N' scope cl HP.objs.size s2 H2 fp (X.pn++pins)) rfl rfl rfl hc i _ s3 σ3 H3 _ I3 (fpok fr3) st3 go) λr s4 ⟨u,hr,h4⟩=>?_;subst hr;refine thn h4 λ_ s5 ⟨x,H5,I5,r5,y5,st5,fr5⟩=>?_;obtain ⟨g,tt,te,hg,ht,he,body⟩:=step cl HP.objs.size s2 H2 fp (X.pn++pins);have I5':=I5.pinned (fpok fr5) (T.obj _ _ st5);have tail:∀{σ7:St}{H7:Hp}{s7:Shared}{po:Obj},Inv (X.comp N' scope cl HP.objs.size s2 H2 fp (X.pn++pins)) ([(s2.heap.objs.size,po)]++j8 fp s5.heap) σ7 H7 s7->tn (i+1) s7.heap/\∀b∈fp,H7 b=none:=λ{σ7 H7 s7 po} I7=>by
    refine ⟨T.keep _ _ _ st5 λb hb o e=>(I7.pin (b,o) (bg _ (bg _ (qC hb e)))).1,λb hb=>?_⟩;obtain ⟨o,e,d⟩:=T.obj _ _ st5 b hb;exact (I7.pin (b,o) (bg _ (bg _ (qC hb e)))).2.1
   refine thn (hg _ s5 σ3 H5 x u _ I5' r5 (body x H5 y5)) λ_ s6 ⟨σ6,H6,I6,q6⟩=>?_;refine thn (ht _ s6 σ6 H6 _ I6 q6) λok s7 ⟨H7,I7,q7⟩=>?_;cases ok with
   |false=>
    obtain ⟨m',hm,w7⟩:=q7;obtain ⟨t7,n7⟩:=tail I7;exact ⟨m',hm,i+1,ys,its,n,σ6,H7,I7.unpinned,rv3,t7,n7,w7⟩
   |true=>
    refine thn (he _ s7 σ6 H7 _ I7 q7) λv s8 ⟨y,H8,I8,r8,m',hm,w8⟩=>?_;obtain ⟨t8,n8⟩:=tail I8;obtain ⟨pD,nD,_,_,_⟩:=I8.pin (s2.heap.objs.size,{ cls:=.type "list",data:=.seq its.toArray n }) (bg _ (df _ (aT.mpr rfl)));have hl:=rv3.length;refine append_at (hsz:=by rw[ar];omega) pD λh9 hs9 hD9=>?_;have I8a:Inv (X.comp N' scope cl HP.objs.size s2 H2 fp (X.pn++pins)) [] σ6 H8 s8:=I8.pins_of λp hp=>nomatch hp;have I9:Inv (X.comp N' scope cl HP.objs.size s2 H2 fp (X.pn++pins)) [] σ6 H8 { s8 with heap:=h9 }:=I8a.turned (t':=s8.toks) (it:=s2.heap.objs.size) (λb o hb e=>hs9.extBut b o hb e) nD hDC (.inr (ay _))
     (λx c e z=>absurd (celllt x c e) (by rw[z];exact ee _)) (λp hp z=>by
      rcases ba.mp hp with hp |hp
      ·exact absurd (pnOk p hp).1 (by rw[z];exact ee _)
      ·exact nomatch hp)
    have hD9':h9.get? s2.heap.objs.size=some { cls:=.type "list",data:=.seq (its++[v]).toArray (n+1) }:=by rw[hD9,List.push_toArray]
    refine ⟨m',hm,i+1,ys++[y],its++[v],n+1,σ6,H8,I9.pins_of λp hp=>?_,rv3.append (.cons r8 .nil),T.keep _ _ _ t8 λb hb o e=>hs9.extBut b o (below b (fplt b hb)).2 e,n8,w8⟩;have e:p=_:=aT.mp hp;subst e;exact ⟨hD9',nD,hDC,λz=>absurd (fslt _ z) (ee _),λv z=>by have z':Data.seq _ _=Data.cell v:=z;cases z'⟩
 exact codeAny_compStart_list (loop _ rfl) (T.self X.A 0 _ _ _ hst₁ (loop _ rfl))
theorem ZZ{X:Cx}{elt tg iter:Expr}{ifs:List Expr}{scope:Scope}{pos:Pos}{wi:TI}(N':List Str)(cap:List (Option Nat))(hc:X.calm=true)(hi:PI X tg iter wi)(hcap:Caps X scope N' cap)
  (hcell:scope.names.all (λy=>y.2 != NameKind.cell)=true) (hnames:scope.names.all (λy=>y.2 != NameKind.local||scope.names.lookup y.1==some NameKind.local)=true)
  (hfr:scope.names.all (λy=>y.2 != NameKind.free||(X.env.kindOf y.1==some NameKind.cell||X.env.kindOf y.1==some NameKind.free))=true)
  (hkind:scope.kind=.function) (hs:∀x,foldedSetIterable iter X.env x=pure x):
  PE X (.ListComp elt [⟨tg,iter,ifs,0⟩] scope pos) (wC X N' scope tg ifs elt wi cap):=by
 intro pins s σ H Q I h;have hnames':∀y∈scope.names,y.2=NameKind.local->scope.names.lookup y.1=some NameKind.local:=λy hy hl=>by
  have:=bX.mp hnames y hy;simpa [hl] using this
 have hcs:∀y∈scope.names,y.2=NameKind.free->(X.env.cells.lookup y.1).isSome=true:=λy hy hl=>by
  have:=bX.mp hfr y hy;obtain ⟨c,e⟩:=I.ok.has y.1 (by simpa [hl] using this);rw[e];rfl
 rw[eval_ListComp];refine wpAny_comprehension_free (use:=none) (Q:=EP X pins σ Q) rfl hs (DN hcs) hkind hnames'
  (Ec (RR:=λacc C=>compPost (model X.prog X.w) X.A X.xe none (EP X pins σ Q) acc C) N' cap hc hi hcap hcell hfr hkind I h λL C H' s4 m I4 q hn fC=>?_)
 obtain ⟨f0,f1,f2,f3,f4,f5⟩:=fC;exact ⟨m,hn,λh' hs'=>⟨.ref L,H',I4.turned (t':=s4.toks) (it:=C) (λb o hb e=>hs'.extBut b o hb e) f0 f1 f3 f4 f5,rfl,q⟩⟩
theorem Z0{X:Cx}{elt tg iter:Expr}{ifs:List Expr}{scope:Scope}{pos py spos:Pos}{wi:TI}{i:Nat}{y:Str}(hN:X.N.Nodup)(hiy:X.N[i]?=some y)(hy:Loc X.env.scope y)(N':List Str)(cap:List (Option Nat))(hc:X.calm=true)(hi:PI X tg iter wi)(hcap:Caps X scope N' cap)
  (hcell:scope.names.all (λy=>y.2 != NameKind.cell)=true:=by rfl) (hnames:scope.names.all (λy=>y.2 != NameKind.local||scope.names.lookup y.1==some NameKind.local)=true:=by rfl)
  (hfr:scope.names.all (λy=>y.2 != NameKind.free||(X.env.kindOf y.1==some NameKind.cell||X.env.kindOf y.1==some NameKind.free))=true:=by rfl)
  (hkind:scope.kind=.function:=by rfl) (hs:∀x,foldedSetIterable iter X.env x=pure x:=by intro _;rfl)
  (hsw:swapsWith (.ListComp elt [⟨tg,iter,ifs,0⟩] scope pos) (some (.Name y py)) spos.line X.env=pure true:=by rfl)
  (hf:X.fn y=true\/X.env.scope.names.lookup y=some .local:=by first |exact .inl rfl |exact .inr rfl |assumption):
  PS X (.Assign [.Name y py] (.ListComp elt [⟨tg,iter,ifs,0⟩] scope pos) spos) (qy (wC X N' scope tg ifs elt wi cap) (qx i)):=by
 intro pins s σ H D I h;have hnames':∀y∈scope.names,y.2=NameKind.local->scope.names.lookup y.1=some NameKind.local:=λy hy hl=>by
  have:=bX.mp hnames y hy;simpa [hl] using this
 have hcs:∀y∈scope.names,y.2=NameKind.free->(X.env.cells.lookup y.1).isSome=true:=λy hy hl=>by
  have:=bX.mp hfr y hy;obtain ⟨c,e⟩:=I.ok.has y.1 (by simpa [hl] using this);rw[e];rfl
 rw[exec_Assign_Name_used _ _ _ _ hsw];refine ah (wpAny_standAt (ah ?_));show wpAny _ X.A (do let _ <-comprehension (.ListComp elt [⟨tg,iter,ifs,0⟩] scope pos) scope X.env _ (newList []) false (eval iter X.env) (some (assign (.Name y py) X.env))) _ _ s;refine ah (cS (wpAny_comprehension_free (use:=some (assign (.Name y py) X.env)) (Q:=λ_ s'=>SP X pins D .next s') rfl hs (DN hcs) hkind hnames'
  (Ec (RR:=λacc C=>compPost (model X.prog X.w) X.A X.xe (some (assign (.Name y py) X.env)) (λ_ s'=>SP X pins D .next s') acc C) N' cap hc hi hcap hcell hfr hkind I h λL C H' s4 m I4 q hn fC=>?_)) (λ_ s' hq=>bn (bn hq)) λ_ _ e=>e)
 obtain ⟨oC,es,ep,eC,rC⟩:=id hn;obtain ⟨f0,f1,f2,f3,f4,f5⟩:=fC;have ncell:∀v,oC.data≠.cell v:=λv z=>by rw[rC.1]at z;cases z
 have I5:Inv X (pins++[(C,oC)]) σ H' s4:=I4.pins_of λp hp=>by
  rcases ba.mp hp with z |z
  ·exact I4.pin p (bg _ z)
  ·have e:p=_:=aT.mp z;subst e;exact ⟨eC,f0,f1,f2,ncell⟩
 refine wpAny_assign_Name (qw I5 hN hiy hy (v:=.ref L) (u:=.ref L) rfl (λs5 I6=>?_) hf);have eC5:s5.heap.get? C=some oC:=(I6.pin (C,oC) (bg _ (bg _ (aT.mpr rfl)))).1;have I7:Inv X pins (σ.set i (some (.ref L))) H' s5:=I6.pins_of λp hp=>I6.pin p (bg _ (df _ hp));refine ⟨m,⟨oC,es,ep,eC5,rC⟩,λh'' hs''=>?_⟩;exact ⟨_,H',I7.turned (t':=s5.toks) (it:=C) (λb o hb e=>hs''.extBut b o hb e) f0 f1 f3 f4 f5,q⟩
section
variable {X:Cx}
theorem Z1:OpR X (compareOp .IsNot) (λx y H Q=>∃i j,x=.bl i/\y=.bl j/\Q (.bl (i != j)) H):=by intro pins s σ H x y v u Q I rx ry h;obtain ⟨i,j,rfl,rfl,q⟩:=h;cases rx;cases ry;exact isnot_bool ⟨.bl _,H,I,rfl,q⟩
end
def noStar:Expr->Bool
 |.Starred ..=>false
 |_=>true
theorem cB(e:Expr)(es:List Expr)(env:Env)(h:noStar e=true):starEach (e::es) env=(false,eval e env)::starEach es env:=by cases e <;> first |rfl |cases h
variable {X:Cx} {e st:Expr} {te ts:TE} {p2 pos:Pos}
noncomputable def holes(h:Heap)(l:List Addr):Heap:={ h with objs:=h.objs.mapIdx λi o=>if l.contains i then { o with data:=.freed } else o }
theorem Ed{h:Heap}{l:List Addr}{b:Addr}:(holes h l).get? b=if l.contains b then none else h.get? b:=by
 unfold holes Heap.get?;simp only[Array.getElem?_mapIdx];cases hb:h.objs[b]? with
 |none=>simp
 |some o=>
  cases hc:l.contains b with
  |true=>simp[hc]
  |false=>simp[hc]
theorem gn{h:Heap}{l:List Addr}{b:Addr}(hb:b∈l):(holes h l).get? b=none:=by rw[Ed,a9.mpr hb];rfl
theorem wH{h:Heap}{l:List Addr}{b:Addr}(hb:b∉l):(holes h l).get? b=h.get? b:=by
 rw[Ed];cases hc:l.contains b with
 |true=>exact absurd (a9.mp hc) hb
 |false=>rfl
theorem qN{h:Heap}{l:List Addr}:(holes h l).StaysIn h:=λb o e=>by
 by_cases hb:b∈l
 ·rw[gn hb]at e;cases e
 ·rw[wH hb]at e;exact e
theorem ObjOk.at{P:Program}{w:World}{H:Hp}{h:Heap}{a:Addr}{o:HO}(x:ObjOk P w H h a o):∃u,h.get? a=some u:=by
 cases o with
 |lst xs=>obtain ⟨_,_,_,_,e⟩:=x;exact ⟨_,e⟩
 |tup xs=>obtain ⟨_,_,_,o,e,_⟩:=x;exact ⟨_,e⟩
 |dK kvs=>obtain ⟨_,_,_,_,o,_,_,e,_⟩:=x;exact ⟨_,e⟩
 |dT kvs=>obtain ⟨_,_,_,_,o,_,_,e,_⟩:=x;exact ⟨_,e⟩
 |set S n=>obtain ⟨o,_,_,_,e,_⟩:=x;exact ⟨_,e⟩
 |ins C dx fs=>obtain ⟨_,_,_,e,_⟩:=x;exact ⟨_,e⟩
 |own y=>exact x
 |xd fs=>obtain ⟨_,⟨_,_,_,e,_⟩,_⟩:=x;exact ⟨_,e⟩
 |rng lo hi=>obtain ⟨_,_,_,e⟩:=x;exact ⟨_,e⟩
 |frz ob u=>obtain ⟨e,_⟩:=x;exact ⟨_,e⟩
 |tbl ps=>exact ⟨_,(show h.get? a=some _ from x)⟩
 |met f y=>exact ⟨_,(show h.get? a=some _ from x)⟩
 |ext φ=>obtain ⟨_,e,_⟩:=x;exact e
theorem HOk.gone{P:Program}{w:World}{H:Hp}{h:Heap}{a:Addr}(x:HOk P w H h)(e:h.get? a=none):H a=none:=by
 cases q:H a with
 |none=>rfl
 |some u=>obtain ⟨o,ho⟩:=(x a u q).at;rw[ho]at e;cases e
theorem wI{h base:Heap}:∀{l:List Env},h.FunFrames base l->∀b∈frs l,∃o,h.get? b=some o/\∀vs,o.data≠.fields vs
 |[],_,b,hb=>by cases hb
 |env::l,hf,b,hb=>by
  unfold Heap.FunFrames at hf;obtain ⟨_,⟨L,o,e1,_,e3,e4⟩,hr⟩:=hf;unfold frs at hb;rw[fo,e1]at hb;rcases bi.mp hb with rfl |hb
  ·exact ⟨o,e3,e4⟩
  ·exact wI hr b hb
theorem kj{h base:Heap}{x:List Addr}:∀{l:List Env},h.FunFrames base l->(∀b∈frs l,b∈x)->h.FunFrames (holes h x) l
 |[],_,_=>by unfold Heap.FunFrames;trivial
 |env::l,hf,hx=>by
  unfold Heap.FunFrames at hf ⊢;obtain ⟨h1,⟨L,o,e1,_,e3,e4⟩,hr⟩:=hf;have hL:L∈frs (env::l):=by unfold frs;rw[fo,e1];exact cp
  refine ⟨h1,⟨L,o,e1,gn (hx L hL),e3,e4⟩,kj hr λb hb=>hx b ?_⟩;unfold frs at hb ⊢;rw[fo,e1];exact ca _ hb
theorem wJ{h base:Heap}{env:Env}{l:List Env}(hf:h.FunFrames base (env::l)):∃L,env.frame=some L:=by unfold Heap.FunFrames at hf;obtain ⟨_,⟨L,o,e1,_⟩,_⟩:=hf;exact ⟨L,e1⟩
def Tr(h0:Heap)(H:Hp)(h:Heap)(a:Addr)(c:Value):Prop:=
 ∃oe vs T oT ts,h.get? a=some oe/\oe.cls=c/\oe.data=.fields vs/\vs[1]?=some (.ref T)/\T≠a/\h.get? T=some oT/\oT.data=.fields ts/\ts[3]?=some .none/\
  h0.get? a=none/\h0.get? T=none/\H a=none/\H T=none
def CX1(P:Program)(w:World):CXT:=λouter H s E e s'=>
 ∃(a:Addr)(c:Value)(H':Hp),e=.ref a/\s'.os=s.os/\AllBare s'.gens/\Un (frs outer) [] H H' s.heap s'.heap/\HOk P w H' s'.heap/\Tr s.heap H' s'.heap a c/\E c none H'
theorem Ef{P:Program}{w:World}{fs st:List Addr}{H0 H:Hp}{h0 h h':Heap}{l:List Env}{a:Addr}{xs:List Addr}{c:Value}(un:Un fs [] H0 H h0 h)(hok:HOk P w H h)
  (up:∀b∈fs,b∈st) (old:∀b o,h0.get? b=some o->b∉fs->b∉st) (fr:∀b∈st,H b=none/\∃o,h.get? b=some o/\∀vs,o.data≠.fields vs)
  (ha:h0.get? a=none) (hHa:H a=none) (hxs:∀x∈xs,h0.get? x=none/\H x=none)
  (L:(holes h (st++a::xs)).Left l a c h h'):Un fs [] H0 H h0 h'/\HOk P w H h'/\Tr h0 H h' a c:=by
 obtain ⟨stay,_,tr,slots⟩:=L;have old:∀b o,h0.get? b=some o->b∉fs->b∉st++a::xs:=by
  intro b o hb hf hin;rcases ba.mp hin with hin |hin
  ·exact old b o hb hf hin
  ·rcases bi.mp hin with e |e
   ·rw[e,ha]at hb;cases hb
   ·rw[(hxs b e).1]at hb;cases hb
 have kept:∀b o,h.get? b=some o->b∉st++a::xs->h'.get? b=some o:=λb o e hn=>stay b o (by rw[wH hn];exact e);have trk:∀b o,H b=some o->b∉st++a::xs:=by
  intro b o hb hin;rcases ba.mp hin with hin |hin
  ·rw[(fr b hin).1]at hb;cases hb
  ·rcases bi.mp hin with e |e
   ·rw[e,hHa]at hb;cases hb
   ·rw[(hxs b e).2]at hb;cases hb
 have noex:∀b:Addr,b∉([]:List Addr):=λb hb=>by cases hb
 have frd:∀b∈st,∀o,h.get? b=some o->∀vs,o.data≠.fields vs:=by intro b hb o ho vs;obtain ⟨_,o',e1,e2⟩:=fr b hb;rw[e1]at ho;cases ho;exact e2 vs
 refine ⟨⟨?_,?_,?_,?_,un.tups,un.frzs,un.tbls⟩,?_,?_⟩
 ·intro b o hb hn hf _;exact kept b o (un.keep b o hb hn hf (noex b)) (old b o hb hf)
 ·intro b o hb hn hf _;obtain ⟨sl,e⟩:=un.slot b o hb hn hf (noex b);obtain ⟨sl',e'⟩:=slots b _ e (frd b (up b hf) _ e);exact ⟨sl',e'⟩
 ·intro b o hb hn _;exact un.free b o hb hn (noex b)
 ·intro b o hb _;obtain ⟨o',e⟩:=un.there b o hb (noex b);by_cases hin:b∈st++a::xs
  ·rcases ba.mp hin with h1 |h1
   ·obtain ⟨sl',e'⟩:=slots b _ e (frd b h1 _ e);exact ⟨_,e'⟩
   ·rcases bi.mp h1 with e2 |e2
    ·rw[e2,ha]at hb;cases hb
    ·rw[(hxs b e2).1]at hb;cases hb
  ·exact ⟨_,kept b o' e hin⟩
 ·intro b o hb;refine (hok b o hb).stay (λb' u hb' e=>kept b' u e ?_) (λ_ z=>z) λ_ _ z=>z;rcases hb' with rfl |hb'
  ·exact trk _ _ hb
  ·exact trk _ _ hb'
 ·obtain ⟨oe,vs,T,oT,ts,t1,t2,t3,t4,t5,t6,t7,t8,t9⟩:=tr;have hT:T∈xs\/h.get? T=none:=by
   by_cases hin:T∈st++a::xs
   ·rcases ba.mp hin with h1 |h1
    ·exfalso;obtain ⟨_,o,e1,e2⟩:=fr T h1;obtain ⟨sl,e3⟩:=slots T o e1 e2;rw[e3]at t7;cases t7;exact e2 ts t8
    ·rcases bi.mp h1 with e2 |e2
     ·exact absurd e2 t6
     ·exact .inl e2
   ·rw[wH hin]at t5;exact .inr t5
  refine ⟨oe,vs,T,oT,ts,t1,t2,t3,t4,t6,t7,t8,t9,ha,?_,hHa,?_⟩
  ·rcases hT with h1 |h1
   ·exact (hxs T h1).1
   ·cases e:h0.get? T with
    |none=>rfl
    |some o=>obtain ⟨o',e'⟩:=un.there T o e (noex T);rw[e']at h1;cases h1
  ·rcases hT with h1 |h1
   ·exact (hxs T h1).2
   ·exact hok.gone h1
section
variable {X:Cx} {pins:List (Addr×Obj)} {σ:St} {H:Hp} {s:Shared}
theorem Eg(J:Inv X pins σ H s)(hst:X.stack=X.env::X.outer)(hex:X.ex=[]){a:Addr}{xs:List Addr}{c:Value}{E:XK}
  (ha:X.s₀.heap.get? a=none) (hHa:H a=none) (hxs:∀x∈xs,X.s₀.heap.get? x=none/\H x=none)
  {h':Heap} (L:(holes s.heap (frs X.stack++a::xs)).Left (X.env::X.outer) a c s.heap h') (q:E c none H):
  CX1 X.prog X.w X.outer X.H₀ X.s₀ E (.ref a) { s with heap:=h' }:=by
 have sub:=J.stkSub;have hb0:=J.base;rw[hex]at hb0;have up:∀b∈X.fs,b∈frs X.stack:=by
  intro b hb;rw[hst];unfold Cx.fs at hb;unfold frs at hb ⊢;rw[fo];split
  ·exact hb
  ·exact ca _ hb
 have old:∀b o,X.s₀.heap.get? b=some o->b∉X.fs->b∉frs X.stack:=by
  intro b o hb hf hin;rcases bi.mp (sub b hin) with e |e
  ·have h1:=aI hb;have h2:=J.ok.above;rw[e]at h1;exact absurd h1 (Nat.not_lt.mpr h2)
  ·exact hf e
 obtain ⟨u,k,t⟩:=Ef hb0 J.hok up old (λb hb=>⟨J.stkFree b hb,wI J.stack b hb⟩) ha hHa hxs L;exact ⟨a,c,H,rfl,J.os,J.bare,u,k,t,q⟩
theorem Z2(J:Inv X pins σ H s)(hst:X.stack=X.env::X.outer)(hex:X.ex=[]){a:Addr}{c:Value}{E:XK}(t:Tr X.s₀.heap H s.heap a c)(q:E c none H){E':Value->Shared->Prop}:
  wpAny (model X.prog X.w) X.A (leaving X.env (.ref a)) (λ_ s''=>CX1 X.prog X.w X.outer X.H₀ X.s₀ E (.ref a) s'') E' s:=by
 obtain ⟨oe,vs,T,oT,ts,t1,t2,t3,t4,t6,t7,t8,t9,n1,n2,n3,n4⟩:=t;have hfr:=J.stack;rw[hst]at hfr;obtain ⟨L,hL⟩:=wJ hfr;have sub:∀b∈frs (X.env::X.outer),b∈frs X.stack++a::[T]:=λb hb=>by rw[hst];exact df _ hb
 refine wpAny_leaving_next (base:=holes s.heap (frs X.stack++a::[T])) (cls:=c) (by rw[J.ok.frames,hst]) (kj hfr sub) hL ?_ qN (gn (by simp)) λh' hl=>?_
 ·exact ⟨oe,vs,T,oT,ts,t1,t2,t3,t4,gn (by simp),t6,t7,t8,t9⟩
 ·exact Eg J hst hex n1 n3 (λx hx=>by rw[aT.mp hx];exact ⟨n2,n4⟩) hl q
theorem Z3{h':Heap}(I:Inv X pins σ H s)(hst:X.stack=X.env::X.outer)(hex:X.ex=[]){a:Addr}{c:Value}{args:List Value}{E:XK}(m:s.heap.MadeExcOf h' a c args)(q:E c none H){E':Value->Shared->Prop}:
  wpAny (model X.prog X.w) X.A (leaving X.env (.ref a)) (λ_ s''=>CX1 X.prog X.w X.outer X.H₀ X.s₀ E (.ref a) s'') E' { s with heap:=h' }:=by
 have J:Inv X pins σ H { s with heap:=h' }:=I.kept (t':=s.toks) m.keeps;have hfr:=J.stack;rw[hst]at hfr;obtain ⟨L,hL⟩:=wJ hfr;have sub:∀b∈frs (X.env::X.outer),b∈frs X.stack++a::[]:=λb hb=>by rw[hst];exact df _ hb
 obtain ⟨t,e,_,_⟩:=m.there;have n1:X.s₀.heap.get? a=none:=by
  cases e:X.s₀.heap.get? a with
  |none=>rfl
  |some o=>
   obtain ⟨o',e'⟩:=I.base.there a o e (by rw[hex];simp);rw[m.new]at e';cases e'
 refine wpAny_leaving_first (base:=holes h' (frs X.stack++a::[])) (by rw[J.ok.frames,hst]) (kj hfr sub) hL e qN (gn (by simp)) rfl rfl λh'' hl=>?_;exact Eg J hst hex n1 (I.hok.gone m.new) (λx hx=>by cases hx) hl q
theorem Z4{E:XK}(hst:X.stack=X.env::X.outer)(hex:X.ex=[])(hxe:∀e s',wpAny (model X.prog X.w) X.A (leaving X.env e) (λ_ s''=>CX1 X.prog X.w X.outer X.H₀ X.s₀ E e s'') (λe' s''=>CX1 X.prog X.w X.outer X.H₀ X.s₀ E e' s'') s'->X.xe e s'):
  eQ (CX1 X.prog X.w) X E:=by
 intro pins σ H s e s' I h;obtain ⟨a,c,H',rfl,ho,hg,un,hok,tr,q⟩:=h;have J:Inv X pins σ H' s':=I.call' (ch:=[]) ho un hok hg (λb z=>absurd z (by simp));refine hxe _ _ (Z2 J hst hex ?_ q);obtain ⟨oe,vs,T,oT,ts,t1,t2,t3,t4,t6,t7,t8,t9,n1,n2,n3,n4⟩:=tr;have old:∀b,s.heap.get? b=none->X.s₀.heap.get? b=none:=λb hb=>by
  cases e:X.s₀.heap.get? b with
  |none=>rfl
  |some o=>
   obtain ⟨o',e'⟩:=I.base.there b o e (by rw[hex];simp);rw[hb]at e';cases e'
 exact ⟨oe,vs,T,oT,ts,t1,t2,t3,t4,t6,t7,t8,t9,old a n1,old T n2,n3,n4⟩
theorem Eh{P:Program}{w:World}(Y:Cx):eQ (CX1 P w) Y λ_ _ _=>False:=λ_ _ _ _ _ _ _ h=>by
 obtain ⟨_,_,_,_,_,_,_,_,_,q⟩:=h;exact q.elim
end
abbrev veM:List Value:=[.type "ValueError",.type "Exception",.type "BaseException",.type "object"]
noncomputable def wK:List Value->Bool
 |[.type a,.type b,.type c,.type d]=>a=="ValueError"&&b=="Exception"&&c=="BaseException"&&d=="object"
 |_=>false
theorem Z5{l:List Value}(h:wK l=true):l=veM:=by
 unfold wK at h;split at h
 ·simp only[ae,aw]at h;obtain ⟨⟨⟨rfl,rfl⟩,rfl⟩,rfl⟩:=h;rfl
 ·cases h
def Ei:Value->Bool
 |.str _ _=>true
 |_=>false
noncomputable def nsB(K:PF)(N:Addr):Bool:=match K.lookup N with
 |some ⟨_,_,.dict es _,_⟩=>es.toList.all (λe=>Ei e.key)&&quietNames.all λn=>(nsFind es n).isNone
 |_=>false
theorem Ej{K:PF}{N:Addr}{h:Heap}(KX:K.In h)(b:nsB K N=true):∃m,h.Ns N m/\∀n∈quietNames,m n=none:=by
 unfold nsB at b;split at b
 ·rename_i c d es ep sl e;rw[ae,bX,bX]at b;refine ⟨nsFind es,⟨_,es,ep,KX _ _ e,rfl,λx hx=>?_,λ_=>rfl⟩,λn hn=>by simpa using b.2 n hn⟩;have:=b.1 x (Array.mem_toList_iff.mpr hx);unfold Ei at this;split at this
  ·rename_i y t e;exact ⟨_,_,e⟩
  ·cases this
 ·cases b
noncomputable def Ek(K:PF)(A:Addr):Bool:=match K.lookup A with
 |some ⟨_,_,.cls cd,_⟩=>nsB K cd.ns
 |_=>false
noncomputable def qO(K:PF):List Value->Bool
 |[]=>false
 |v::tl=>(match v with |.ref A=>Ek K A&&qO K tl |_=>wK (v::tl))
theorem El{K:PF}{h:Heap}(KX:K.In h):∀{l:List Value},qO K l=true->OwnTailQ h veM l
 |[],b=>by cases b
 |v::tl,b=>by
  unfold qO at b;split at b
  ·rename_i A;rw[ae]at b;have b1:=b.1;unfold Ek at b1;split at b1
   ·rename_i c d cd sl e;obtain ⟨m,hm,hq⟩:=Ej KX b1;exact .own (KX _ _ e) hm hq (El KX b.2)
   ·cases b1
  ·rw[Z5 b];exact .base
def isRef(C:Addr):Value->Bool
 |.ref a=>a==C
 |_=>false
def isNew:Option Value->Bool
 |some (.builtin s)=>s=="ValueError.__new__"
 |_=>false
def Em:Value->Bool
 |.type s=>s=="type"
 |_=>false
noncomputable def il(K:PF)(C:Addr):Bool:=match K.lookup C with
 |some ⟨ty,_,.cls cd,⟨[_,_,_,_,k,_]⟩⟩=>Em ty&&isNew k&&nsB K cd.ns&&!cd.hasDel&&(match cd.mro with |v::tl=>isRef C v&&qO K tl |[]=>false)
 |_=>false
theorem Z6 {K:PF} {C:Addr} {h:Heap} {mg:Str->Option Value} {x:Str} (KX:K.In h) (b:il K C=true) (hm:mg x=some (.ref C)):OwnClsQ x C veM "ValueError.__new__" mg h:=by
 unfold il at b;split at b
 ·rename_i ty dd cd k0 k1 k2 k3 k k5 e;simp only[ae]at b;obtain ⟨⟨⟨⟨b1,b2⟩,b3⟩,b5⟩,b4⟩:=b;obtain ⟨m,hns,hq⟩:=Ej KX b3;have e1:ty=.type "type":=by
   unfold Em at b1;split at b1
   ·rw[aw]at b1;rw[b1]
   ·cases b1
  have e2:k=some (.builtin "ValueError.__new__"):=by
   unfold isNew at b2;split at b2
   ·rw[aw]at b2;rw[b2]
   ·cases b2
  obtain ⟨nm,bs,mro,ns,q,hd,sn,sub,ab,col,del⟩:=cd;dsimp only at b4 hns b5;have e4:del=false:=by simpa using b5
  subst e4;split at b4
  ·rename_i v tl;rw[ae]at b4;have e3:v=.ref C:=by
    have:=b4.1;unfold isRef at this;split at this
    ·rw[aw]at this;rw[this]
    ·cases this
   subst e1 e2 e3;exact ⟨hm,tl,ns,nm,q,bs,hd,sn,sub,ab,col,dd,k0,k1,k2,k3,k5,m,KX _ _ e,hns,hq,El KX b4.2⟩
  ·cases b4
 ·cases b
theorem Z7{h:Heap}{bmB bm:List Value}(t:OwnTail h bmB bm){v:Value}(hv:bmB.contains v=true):bm.contains v=true:=by
 induction t with
 |base=>exact hv
 |own _ _ _ _ ih=>rw[List.contains_cons,ih,Bool.or_true]
theorem Eo{h h':Heap}(k:∀b o,h.get? b=some o->h'.get? b=some o){N:Addr}{m:Str->Option Value}(n:h.Ns N m):h'.Ns N m:=by obtain ⟨o,es,ep,e,r⟩:=n;exact ⟨o,es,ep,k _ _ e,r⟩
theorem Z8{h h':Heap}(k:∀b o,h.get? b=some o->h'.get? b=some o){bmB bm:List Value}(t:OwnTail h bmB bm):OwnTail h' bmB bm:=by
 induction t with
 |base=>exact .base
 |own e n i _ ih=>exact .own (k _ _ e) (Eo k n) i ih
section
variable {X:Cx}
abbrev TJ:=St->Hp->(Hp->Prop)->Prop
def PJ(X:Cx)(es:List Expr)(t:TJ)(n:Nat):Prop:=∀(pins:List (Addr×Obj))(s:Shared)(σ:St)(H:Hp)(Q:Hp->Prop)(out:Str),Inv X pins σ H s->out.length+n<=100000->t σ H Q->
 wpAny (model X.prog X.w) X.A (joinParts out (evalEach es X.env)) (EP X pins σ λv H'=>(∃x,v=.str x)/\Q H') X.xe s
theorem Z9:PJ X [] (λ_ H Q=>Q H) 0:=λpins s σ H Q out I hl q=>by
 refine joinParts_nil ⟨.str out,H,I.tok _,⟨_,rfl⟩,⟨_,rfl⟩,q⟩ ?_;have:sizeLine≥100000:=by decide
 omega
theorem qP(x y:Str):(x++y).length=x.length+y.length:=by show (x.cps++y.cps).size=_;rw[Array.size_append];rfl
theorem aaa{y:Str}{k:Nat}{p:Pos}{es:List Expr}{t:TJ}{n:Nat}(h:PJ X es t n):PJ X (.Constant (.str y) k p::es) t (y.length+n):=λpins s σ H Q out I hl q=>by
 have hz:sizeLine≥100000:=by decide
 refine joinParts_consE (joinParts_cons (Calls.Constant_str ?_));dsimp only;refine ⟨by rw[qP];omega,h pins _ σ H Q _ (I.tok _) (by rw[qP];omega) q⟩
theorem digits_le:∀n:Fin 100,(Str.ofString (toString (n.val:Int))).length<=3:=by ac_rfl
theorem aab{e:Expr}{te:TE}{p:Pos}{es:List Expr}{t:TJ}{n:Nat}(he:PE X e te)(h:PJ X es t n):PJ X (.FormattedValue e (-1) none p::es) (λσ H Q=>te σ H λv H1=>(∃m:Nat,v=.int m/\m < 100)/\t σ H1 Q) (3+n):=λpins s σ H Q out I hl q=>by
 have hz:sizeLine≥100000:=by decide
 refine joinParts_consE (joinParts_cons (FormattedValue_plain (thn (he pins s σ H _ I q) λv s1 hy=>?_)));obtain ⟨x,H1,I1,r1,⟨m,rfl,hm⟩,q1⟩:=hy;obtain ⟨tk,rfl⟩:=r1;have hd:(Str.ofString (toString (m:Int))).length<=3:=digits_le ⟨m,hm⟩;refine formatField_int_small ?_ ?_
 ·have:(m:Int).natAbs=m:=Int.natAbs_natCast m;rw[this];exact Nat.lt_of_le_of_lt (Nat.log2_le_self m) (by omega)
 ·dsimp only;exact ⟨by rw[qP];omega,h pins _ σ H1 Q _ ((I1.tok _)) (by rw[qP];omega) q1⟩
theorem aac{v1 v2:Expr}{es:List Expr}{t:TJ}{n:Nat}{pos:Pos}(h:PJ X (v1::v2::es) t n)(hn:n<=100000):PE X (.JoinedStr (v1::v2::es) pos) (λσ H Q=>t σ H λH1=>∀x,Q (.str x) H1):=λpins s σ H Q I q=>by
 refine JoinedStr_many ?_;refine cS (h pins s σ H _ Str.empty I (by show 0+n<=_;omega) q) (λv s1 hy=>?_) λ_ _ z=>z;obtain ⟨x,H1,I1,r1,⟨y,rfl⟩,q1⟩:=hy;exact ⟨_,H1,I1,r1,q1 y⟩
def Throws(X:Cx)(E:XK):Prop:=∀(pins:List (Addr×Obj))(σ:St)(H:Hp)(s:Shared)(h':Heap)(a:Addr)(c:Value)(args:List Value),Inv X pins σ H s->s.heap.MadeExcOf h' a c args->E c none H->X.xe (.ref a) { s with heap:=h' }
theorem aad{E:XK}(hst:X.stack=X.env::X.outer)(hex:X.ex=[])(hxe:∀e s',wpAny (model X.prog X.w) X.A (leaving X.env e) (λ_ s''=>CX1 X.prog X.w X.outer X.H₀ X.s₀ E e s'') (λe' s''=>CX1 X.prog X.w X.outer X.H₀ X.s₀ E e' s'') s'->X.xe e s'):Throws X E:=
 λ_ _ _ _ _ _ _ _ I m q=>hxe _ _ (Z3 I hst hex m q)
theorem Ep{x:Str}{C:Addr}{np cpos pos:Pos}{e:Expr}{es:List Expr}{ta:TA}{E:XK}(hc:X.calm=true)(hg:Gl X x)(hm:X.mg x=some (.ref C))(hb:il X.K C=true)(hE:Throws X E)(ha:PA X (e::es) ta)
  (hdb:(x==("__debug__":Str))=false:=by decide) (he:starEach (e::es) X.env=(false,eval e X.env)::starEach es X.env:=by rfl) (hpl:(backTo cpos (starEach es X.env)).any (·.1)=false:=by rfl):
  PS X (.Raise (some (.Call (.Name x np) (e::es) [] cpos)) none pos) (λ_ σ H=>ta σ H λvs H1=>vs.length<=sizeLine/\E (.ref C) none H1):=by
 intro pins s σ H D I h;have kb:=I.ok.mod.kin;obtain ⟨bm,N,nm,q,bs,hd,sn,sub,ab,col,dd,k0,k1,k2,k3,k5,mN,b1,b2,b3,b4⟩:=(Z6 kb hb hm:OwnClsQ x C veM "ValueError.__new__" X.mg X.base).own.obj;refine wpAny_Raise_call_subT (nm:=nm) (q:=q) (N:=N) (bs:=bs) (hdct:=hd) (sn:=sn) (sub:=sub) (ab:=ab) (col:=col) (dd:=dd) (k0:=k0) (k1:=k1) (k2:=k2) (k3:=k3) (k5:=k5) (F.excBase_ValueError) (Z7 b4 (by decide)) (I.ok.hd hc) ?_ b3 (j7 I hg hm ⟨rfl,?_⟩ hdb)
 ·rw[he];exact hpl
 ·have hsp:=ha cpos pins s σ H _ I h;rw[he]at hsp ⊢;refine Calls.evalArgs_plain (cS hsp (λvs s2 hy=>?_) λ_ _ z=>z);obtain ⟨ws,H2,I2,r2,hl,q2⟩:=hy;refine ⟨rfl,by rw[<-r2.length];exact hl,I2.bk _ _ b1,Eo I2.bk b2,Z8 I2.bk b4,λh' a m=>hE pins σ H2 s2 h' a _ _ I2 m q2⟩
end
section
variable {X:Cx}
abbrev Cx.marked(X:Cx)(a:Addr)(E:Value->Shared->Prop):Cx:={ X with A:=X.A.mark (some (.ref a)),calm:=false,xe:=E }
theorem Cx.Ok.marked{X:Cx}(ok:X.Ok)(a:Addr)(E:Value->Shared->Prop):(X.marked a E).Ok:=
 ⟨ok.mod,ok.kind,ok.glob,ok.blt,ok.above,ok.inj,ok.has,ok.cab,λh=>(by cases h),ok.frames,ok.stk,ok.exf,ok.bs,ok.bsz,ok.noex,ok.exfs,ok.funs,ok.frf⟩
variable {pins:List (Addr×Obj)} {σ:St} {H:Hp} {s:Shared}
theorem Inv.marked(I:Inv X pins σ H s)(a:Addr)(E:Value->Shared->Prop):Inv (X.marked a E) pins σ H s:=⟨I.ok.marked a E,I.os,I.bare,I.base,I.loc,I.cell,I.free,I.freeC,I.pin,I.hok,I.len⟩
theorem Inv.unmarked{a:Addr}{E:Value->Shared->Prop}(I:Inv (X.marked a E) pins σ H s)(ok:X.Ok):Inv X pins σ H s:=⟨ok,I.os,I.bare,I.base,I.loc,I.cell,I.free,I.freeC,I.pin,I.hok,I.len⟩
theorem SP.unmarked{a:Addr}{E:Value->Shared->Prop}{D:Ends}{f:Flow}{s':Shared}(ok:X.Ok)(h:SP (X.marked a E) pins D f s'):SP X pins D f s':=by
 cases f with
 |next=>obtain ⟨σ',H',I,q⟩:=h;exact ⟨σ',H',I.unmarked ok,q⟩
 |brk=>obtain ⟨σ',H',I,q⟩:=h;exact ⟨σ',H',I.unmarked ok,q⟩
 |cont=>obtain ⟨σ',H',I,q⟩:=h;exact ⟨σ',H',I.unmarked ok,q⟩
 |ret u=>obtain ⟨v,σ',H',I,r,q⟩:=h;exact ⟨v,σ',H',I.unmarked ok,r,q⟩
structure Caught(X:Cx)(H:Hp)(s:Shared)(H':Hp)(a:Addr)(c:Value)(s':Shared):Prop where
 os:s'.os=s.os
 bare:AllBare s'.gens
 un:Un (frs X.stack) [] H H' s.heap s'.heap
 hok:HOk X.prog X.w H' s'.heap
 tr:Tr s.heap H' s'.heap a c
variable {H':Hp} {a:Addr} {c:Value} {s':Shared}
theorem Caught.inv(K:Caught X H s H' a c s')(I:Inv X pins σ H s):Inv X pins σ H' s':=I.call' (ch:=[]) K.os K.un K.hok K.bare (λb z=>absurd z (by simp))
theorem Caught.left(K:Caught X H s H' a c s')(I:Inv X pins σ H s){T:Addr}{h':Heap}{l:List Env}(hT:s.heap.get? T=none/\H' T=none)(L:(holes s'.heap (frs X.stack++a::[T])).Left l a c s'.heap h'):Caught X H s H' a c { s' with heap:=h' }:=by have J:=K.inv I;obtain ⟨_,_,_,_,_,_,_,_,_,_,_,_,_,n1,_,n3,_⟩:=K.tr;obtain ⟨u,k,t⟩:=Ef K.un K.hok (λb hb=>hb) (λb o _ hn=>hn) (λb hb=>⟨J.stkFree b hb,wI J.stack b hb⟩) n1 n3 (λx hx=>by rw[aT.mp hx];exact hT) L;exact ⟨K.os,K.bare,u,k,t⟩
theorem Caught.note(K:Caught X H s H' a c s')(I:Inv X pins σ H s)(hst:X.stack=X.env::X.outer){Q:Shared->Prop}{E1 E2:Value->Shared->Prop}(hQ:∀h2,Caught X H s H' a c { s' with heap:=h2 }->Q { s' with heap:=h2 }):
  wpAny (model X.prog X.w) X.A (noteFrame (.ref a) X.env) (λ_ s2=>wpAny (model X.prog X.w) X.A (setFlight (.ref a) none) (λ_ s3=>Q s3) E1 s2) E2 s':=by
 have J:=K.inv I;obtain ⟨oe,vs,T,oT,ts,t1,t2,t3,t4,t6,t7,t8,t9,n1,n2,n3,n4⟩:=K.tr;have hfr:=J.stack;rw[hst]at hfr;obtain ⟨L,hL⟩:=wJ hfr;have sub:∀b∈frs (X.env::X.outer),b∈frs X.stack++a::[T]:=λb hb=>by rw[hst];exact df _ hb
 obtain ⟨a0,h0⟩:∃a0,vs[0]?=some a0:=by obtain ⟨hi,_⟩:=fk.mp t4;exact ⟨vs[0],Array.getElem?_eq_getElem (by omega)⟩
 refine wpAny_noteFrame_onW (base:=holes s'.heap (frs X.stack++a::[T])) (cls:=c) (a0:=a0) (by rw[J.ok.frames,hst]) (kj hfr sub) hL ?_ qN (gn (by simp)) λh1 hn=>?_
 ·exact ⟨oe,vs,T,oT,ts,t1,⟨t2,h0⟩,t3,t4,gn (by simp),t6,t7,t8,t9⟩
 ·obtain ⟨m1,m2,m3,m4⟩:=hn;refine wpAny_setFlight_noneW m1 m2 m3 λh2 p1 p2 p3 p4=>?_;refine hQ h2 (K.left I ⟨n2,n4⟩ (l:=X.env::X.outer) ⟨p1,p2,?_,λb o e d=>?_⟩)
  ·obtain ⟨oe,vs,T,oT,ts,t1,⟨t2,_⟩,r⟩:=p3;exact ⟨oe,vs,T,oT,ts,t1,t2,r⟩
  ·obtain ⟨sl,e'⟩:=m4 b o e d;exact ⟨sl,p4 b _ e' d⟩
theorem Caught.flight(K:Caught X H s H' a c s')(I:Inv X pins σ H s){A:Around}{Q:Shared->Prop}{E1:Value->Shared->Prop}(hQ:∀h2,Caught X H s H' a c { s' with heap:=h2 }->Q { s' with heap:=h2 }):
  wpAny (model X.prog X.w) A (setFlight (.ref a) none) (λ_ s3=>Q s3) E1 s':=by
 have J:=K.inv I;obtain ⟨oe,vs,T,oT,ts,t1,t2,t3,t4,t6,t7,t8,t9,n1,n2,n3,n4⟩:=K.tr;obtain ⟨a0,h0⟩:∃a0,vs[0]?=some a0:=by obtain ⟨hi,_⟩:=fk.mp t4;exact ⟨vs[0],Array.getElem?_eq_getElem (by omega)⟩
 refine wpAny_setFlight_noneW (base:=holes s'.heap (frs X.stack++a::[T])) (l:=X.stack) (cls:=c) (a0:=a0) (fl:=.none) qN (kj J.stack λb hb=>df _ hb) ?_ λh2 p1 p2 p3 p4=>?_
 ·exact ⟨oe,vs,T,oT,ts,t1,⟨t2,h0⟩,t3,t4,gn (by simp),t6,t7,t8,t9⟩
 ·refine hQ h2 (K.left I ⟨n2,n4⟩ (l:=X.stack) ⟨p1,p2,?_,λb o e d=>⟨o.slots,p4 b o e d⟩⟩);obtain ⟨oe,vs,T,oT,ts,t1,⟨t2,_⟩,r⟩:=p3;exact ⟨oe,vs,T,oT,ts,t1,t2,r⟩
end
open Builtin.ObjectAttr Builtin.Getset_descriptor
open PySem.W (findIn mroIn clsIn typeIn Looks InstAt looks_findIn looks_mroIn looks_typeIn)
noncomputable def Er(K:PF)(D:Addr):Bool:=
 findIn K (.ref D) "__class__"==some (some (.builtin "object.__class__"))&&findIn K (.ref D) "__getattribute__"==some (some (.builtin "BaseException.__getattribute__"))&&findIn K (.ref D) "__getattr__"==some none &&
  mroIn K D (.type "object")==some true&&mroIn K D (.type "BaseException")==some true&&(clsIn K D).isSome
open PySem.W (findIn mroIn clsIn typeIn Looks looks_findIn looks_mroIn looks_typeIn)
section
variable {X:Cx}
def XO(H:Hp)(a c:Addr):Prop:=∃o y,H a=some (.frz o (.own y))/\o.cls=.ref c
def valOf:V->Value
 |.ref a=>.ref a
 |.ty n=>.type n
 |_=>.none
end
section
variable {M:Model} {A:Around} {E:Value->Shared->Prop} {h:Heap} {g:Array GenState} {d:Drawn} {t:Nat} {os:OsState} {e:Addr} {oe:Obj} {K:PF} {D C:Addr}
theorem aae {Q:Bool->Shared->Prop} (X:K.In h) (he:h.get? e=some oe) (hcls:oe.cls=.ref D) (hC:typeIn K (.ref C)=some (.type "type")) (hk:(clsIn K C).isSome=true) (hB:mroIn K C (.type "BaseException")=some true) (hm:mroIn K D (.ref C)=some true)
  (hq:Q true ⟨h,g,d,t,os⟩):wpAny M A (excMatches (.ref e) (.ref C)) Q E ⟨h,g,d,t,os⟩:=by
 have f:=tc_notTuple;have L0:=looks_typeIn (M:=M) X hC;have L1:=looks_mroIn (M:=M) X hB;have L2:=looks_mroIn (M:=M) X hm;unfold clsIn at hk;split at hk
 ·rename_i c' d' cd' sl' ho;have hoC:=X _ _ ho;unfold excMatches;have hC2:(K.lookup C).map (·.cls)=some (.type "type"):=hC;rw[ho]at hC2;have ec:c'=.type "type":=by simpa using hC2
  subst ec;repeat (first | (with_reducible refine wpAny_loadPart_at he ?_;rw[hcls]) |with_reducible refine wpAny_loadPart_at hoC ?_ |with_reducible refine L1.at ?_ |with_reducible refine L2.at ?_ |wp_step)
  exact hq
 ·cases hk
end
section
variable {X:Cx}
abbrev TX:=(St->Hp->Prop)->(Value->St->Hp->Prop)->St->Hp->Prop
def XP(X:Cx)(pins:List (Addr×Obj))(ex:Value->St->Hp->Prop)(σ:St)(e:Value)(s1:Shared):Prop:=∃a c H1 s0 H',e=.ref a/\Inv X pins σ H1 s0/\Caught X H1 s0 H' a c s1/\ex c σ H'
def NP(X:Cx)(pins:List (Addr×Obj))(nx:St->Hp->Prop)(f:Flow)(s1:Shared):Prop:=f=.next/\∃σ' H',Inv X pins σ' H' s1/\nx σ' H'
def PXs(X:Cx)(sts:List Stmt)(t:TX):Prop:=
 ∀(pins:List (Addr×Obj))(s:Shared)(σ:St)(H:Hp)(nx:St->Hp->Prop)(ex:Value->St->Hp->Prop)(E':Value->Shared->Prop),Inv X pins σ H s->PassesOwn (model X.prog X.w) X.A X.env E'->(∀e s1,XP X pins ex σ e s1->E' e s1)->t nx ex σ H->
  wpAny (model X.prog X.w) X.A (execs sts X.env) (NP X pins nx) E' s
theorem aaf{prog:Program}{w:World}{A:Around}{E:Value->Shared->Prop}{s:Shared}{env:Env}{K:PF}{e C D:Addr}{t:Expr}{b₀:Stmt}{suite:List Stmt}{pos:Pos}{rest:List ExceptHandler}{Q:Flow->Shared->Prop}
  (hC:typeIn K (.ref C)=some (.type "type")) (hk:(clsIn K C).isSome=true) (hB:mroIn K C (.type "BaseException")=some true) (hm:mroIn K D (.ref C)=some true)
  (h:wpAny (model prog w) (A.mark (some (.ref e))) (eval t env) (λc s₁=>c=.ref C/\K.In s₁.heap/\(∃oe,s₁.heap.get? e=some oe/\oe.cls=.ref D)/\
   wpAny (model prog w) (A.mark (some (.ref e))) (setFlight (.ref e) none) (λ_ s₂=>wpAny (model prog w) (A.mark (some (.ref e))) (execs (b₀::suite) env) Q (notedBy (model prog w) (A.mark (some (.ref e))) env (cameBackBy (model prog w) A env E)) s₂) (notedBy (model prog w) (A.mark (some (.ref e))) env (cameBackBy (model prog w) A env E)) s₁) (notedBy (model prog w) (A.mark (some (.ref e))) env (cameBackBy (model prog w) A env E)) s):
  wpAny (model prog w) A (handleBy (.ref e) env (.ExceptHandler (some t) none (b₀::suite) pos::rest)) Q E s:=by
 refine wpAny_handleBy_cons (codeAny_handlers_test (cS h (λc s₁ h₁=>?_) λ_ _ y=>y)) (by intro q;cases q);obtain ⟨rfl,O,⟨oe,he,hcls⟩,hkk⟩:=h₁;obtain ⟨hh,g,d,tk,os⟩:=s₁;exact aae O he hcls hC hk hB hm (codeAny_handlers_suite hkk)
structure Cat(K:PF)(C:Addr):Prop where
 t:typeIn K (.ref C)=some (.type "type")
 c:(clsIn K C).isSome=true
 b:mroIn K C (.type "BaseException")=some true
noncomputable def qQ (K:PF) (C:Addr):Bool:=typeIn K (.ref C)==some (.type "type")&&(clsIn K C).isSome&&mroIn K C (.type "BaseException")==some true
theorem aag{K:PF}{C:Addr}(h:qQ K C=true):Cat K C:=by unfold qQ at h;rw[ae,ae,aw,aw]at h;exact ⟨h.1.1,h.1.2,h.2⟩
theorem aah{C:Addr}{cx y:Str}{i:Nat}{b:Bool}{j:Nat}{p1 p2 p3 p4 p5 pos:Pos}{body:List Stmt}{t:TX}(hb:PXs X body t)(hst:X.stack=X.env::X.outer)
  (hcg:Gl X cx) (hcm:X.mg cx=some (.ref C)) (hcb:Cat X.K C) (hN:X.N.Nodup) (hi:X.N[i]?=some y) (hx:Loc X.env.scope y) (hf:X.fn y=true\/X.env.scope.names.lookup y=some .local)
  (hs2:swapsWith (.Constant (.bool b) j p3) (some (.Name y p2)) p4.line X.env=pure false:=by rfl) (hdc:(cx==("__debug__":Str))=false:=by decide):
  PS X (.Try body [.ExceptHandler (some (.Name cx p1)) none [.Assign [.Name y p2] (.Constant (.bool b) j p3) p4] p5] [] [] pos)
   (λD σ H=>t D.nx (λc σ' H2=>∃d,c=.ref d/\mroIn X.K d (.ref C)=some true/\D.nx (σ'.set i (some (.bl b))) H2) σ H):=by
 intro pins s σ H D I h;refine wpAny_Try_except (cS (hb pins s σ H _ _ _ I PassesOwn.looking (λe s1 q=>?_) h) (λf s1 q=>?_) λ_ _ q=>q)
 ·obtain ⟨a,c,H1,s0,H2,rfl,I1,K,d,rfl,hm,qn⟩:=q;refine K.note I1 hst λh3 K3=>aaf (K:=X.K) (C:=C) (D:=d) hcb.t hcb.c hcb.b hm ?_;have J3:=K3.inv I1;have hcl:∃oe,h3.get? a=some oe/\oe.cls=.ref d:=by
   obtain ⟨oe,_,_,_,_,t1,t2,_⟩:=K3.tr;exact ⟨oe,t1,t2⟩
  refine j7 (X:=X.marked a X.xe) (J3.marked a X.xe) hcg hcm ⟨rfl,J3.kIn,hcl,?_⟩ hdc;refine K3.flight I1 λh4 K4=>?_;have J4:=K4.inv I1;exact cS (Cm (wg (X:=X.marked a _) hN hi hx Cg hs2 hf) pins _ σ H2 D (J4.marked a _) qn) (λf s5 z=>z.unmarked J4.ok) λ_ _ z=>z
 ·obtain ⟨rfl,σ',H',I',q'⟩:=q;exact fR ⟨σ',H',I',q'⟩
end
open PySem.SeqAt
section
variable {X:Cx}
theorem wL:∀{bs:List Bool}{us:List Value},Vals (bs.map V.bl) us->us=bs.map Value.bool
 |[],us,r=>by cases r;rfl
 |b::bs,us,r=>by
  cases r with
  |cons r1 r2=>
   have e:_=Value.bool b:=r1;rw[e,wL r2];rfl
theorem Es(k:Bool){bs:List Bool}:∀y,y∈(bs.map Value.bool)->∀(A:Around)(s:Shared),EqAt A s y (.bool k) (isBoolOf k y):=by intro y hy A s;obtain ⟨b,_,rfl⟩:=b6.mp hy;exact EqAt.bool_bool b k
theorem aai(k:Bool)(bs:List Bool):(bs.map Value.bool).countP (isBoolOf k)=bs.count k:=by
 induction bs with
 |nil=>rfl
 |cons b bs ih=>
  rw[bo,List.countP_cons,ih,List.count_cons];rfl
noncomputable def aaj(K:PF):V->List V->Hp->VK->Prop:=λx vs H Q=>∃(p:Addr)(bs:List Bool),x=.ref p/\vs=[.bl true]/\SqL K H p (bs.map V.bl)/\Q (.int (bs.count true:Nat)) H
theorem aak:MtR X "list.count" (aaj X.K):=by intro pins s σ H x xs v us Q I rx rs h;obtain ⟨p,bs,rfl,rfl,hq,q⟩:=h;cases rx;obtain ⟨u,rfl,ru⟩:=vals1 rs;cases ru;obtain ⟨its,rv,⟨o,n,ho,hc,hd,hdd⟩,hz⟩:=I.list hq;obtain ⟨cls,dd,data,sl⟩:=o;simp only at hc hd hdd;subst hc hd hdd;have e:=wL rv;subst e;refine fi PySem.F.slot_list_count ⟨_,ho,rfl⟩ PySem.F.entry_list_count (PySem.F.args_list_count_2 _ _) (list_countAt p _ n _ sl (.bool true) (isBoolOf true)) ⟨ho,λy hy=>Es true y (by simpa using hy) _ _,?_⟩;refine ⟨.int _,H,I.tok _,⟨_,rfl⟩,?_⟩;rw[show ((bs.map Value.bool).toArray).toList=bs.map Value.bool from rfl,aai];exact q
noncomputable def aal(K:PF):V->List V->Hp->VK->Prop:=λx vs H Q=>∃(p:Addr)(bs:List Bool),x=.ref p/\vs=[.bl true]/\SqL K H p (bs.map V.bl)/\true∈bs/\Q (.int (bs.idxOf true:Nat)) H
theorem Et(bs:List Bool)(j:Nat)(h:j < (bs.map Value.bool).length)(h':j < bs.length):isBoolOf true (bs.map Value.bool)[j]=(bs[j]==true):=by rw[List.getElem_map];rfl
theorem aam:MtR X "list.index" (aal X.K):=by
 intro pins s σ H x xs v us Q I rx rs h;obtain ⟨p,bs,rfl,rfl,hq,hin,q⟩:=h;cases rx;obtain ⟨u,rfl,ru⟩:=vals1 rs;cases ru;obtain ⟨its,rv,⟨o,n,ho,hc,hd,hdd⟩,hz⟩:=I.list hq;obtain ⟨cls,dd,data,sl⟩:=o;simp only at hc hd hdd;subst hc hd hdd;have e:=wL rv;subst e;have hj:bs.idxOf true < bs.length:=List.idxOf_lt_length_iff.mpr hin;have hz':bs.length<=sizeLine:=by rw[ag]at hz;exact hz
 have hs:sizeLine < 2 ^ 63 - 1:=by decide
 refine fi PySem.F.slot_list_index ⟨_,ho,rfl⟩ PySem.F.entry_list_index (PySem.F.args_list_index_2 _ _) (list_indexAt p _ n _ sl (.bool true) (isBoolOf true) (bs.idxOf true) (by simpa using hj) (by omega) ?_ ?_) ⟨ho,λy hy=>Es true y (by simpa using hy) _ _,?_⟩
 ·have h3:bs.idxOf true < (bs.map Value.bool).length:=by rw[ag];exact hj
  show isBoolOf true ((bs.map Value.bool)[bs.idxOf true]'h3)=true;rw[Et bs _ h3 hj];simpa using List.getElem_idxOf hj
 ·intro j hjs hlt;have h2:j < bs.length:=by omega
  have h3:j < (bs.map Value.bool).length:=by rw[ag];exact h2
  show isBoolOf true ((bs.map Value.bool)[j]'h3)=false;rw[Et bs j h3 h2];have h4:j < bs.findIdx (·==true):=hlt;simpa using List.not_of_lt_findIdx h4
 ·exact ⟨.int _,H,I.tok _,⟨_,rfl⟩,q⟩
end
section
variable {X:Cx}
theorem aan:OpR X (binaryOp .FloorDiv) (rI (λ_ j=>0 < j/\j < 1152921504606846976) λi j=>.int (i / j)):=opI λi j _ _ _ _ _ hc q=>by
 have h1:(0:Int) < j:=hc.1;have h2:j < 1152921504606846976:=hc.2;refine floordiv_int (by omega) (by rw[Int.fdiv_eq_ediv_of_nonneg i (by omega)];exact q) (.inl (PyProof.noPylong_of_log2 ?_));have:j.natAbs.log2 < 60:=(Nat.log2_lt (by omega)).mpr (by show j.natAbs < 1152921504606846976;omega);omega
def wM(m:Nat):Str:=Str.ofString (toString (m:Int))
theorem aao{m:Nat}(h:m < 100):(m:Int).natAbs.log2 < 1920:=by have:(m:Int).natAbs=m:=Int.natAbs_natCast m;rw[this];exact Nat.lt_of_le_of_lt (Nat.log2_le_self m) (by omega)
theorem aap:bJ X (.type "str") (λxs H Q=>∃m:Nat,xs=[.int m]/\m < 100/\Q (.str (wM m)) H):=by intro pins s σ H xs us Q I r h;obtain ⟨m,rfl,hm,q⟩:=h;obtain ⟨u,rfl,ru⟩:=vals1 r;obtain ⟨t,rfl⟩:=ru;exact PySem.P.str_of_int (aao hm) ⟨.str _,H,I.tok _,⟨_,rfl⟩,q⟩
end
end L2
namespace HT
open PySem PySem.Spec PyProof.Rows Builtin
theorem aaq:fillsNumberSlot (.type "tuple") "mul"=pure false:=
 PySem.fillsNumberSlot_seq (id:="tuple.__mul__") (r:=some (.builtin "tuple.__rmul__")) PySem.F.slot_tuple_mul.lookup (by ac_rfl) PySem.F.slot_tuple_rmul.lookup (by ac_rfl)
theorem aar:seqRepeat? (.type "tuple")=pure (some (.builtin "tuple.__mul__")):=by unfold seqRepeat?;rw[PySem.seqSlot_of (T:="tuple") (name:="__mul__") (id:="tuple.__mul__") PySem.F.slot_tuple_mul.lookup (by ac_rfl),PySem.seqSlot_of (T:="tuple") (name:="__rmul__") (id:="tuple.__rmul__") PySem.F.slot_tuple_rmul.lookup (by ac_rfl)];rfl
theorem aas(a:Int)(t:Tok)(l:Addr)(items:Array Value)(n:Nat)(dd:Option Addr)(sl:Array (Option Value)):
  Meets (Builtin.«int.__rmul__» ⟨[.int a t,.ref l],[]⟩) (λ_ R s=>s.heap.get? l=some { cls:=.type "tuple",dict:=dd,data:=.seq items n,slots:=sl }/\R (.ok (.ret Value.notImplemented)) s):=
 .of_wp λprog w A R s h=>by obtain ⟨hp,g,d,tk,os⟩:=s;obtain ⟨hl,h⟩:=h;wp_walk;exact ⟨_,rfl,h⟩
theorem aat(l:Addr)(items:Array Value)(n:Nat)(dd:Option Addr)(sl:Array (Option Value))(k:Int)(t:Tok)(h2:2<=k)(hk:k<=1000)(hne:items.isEmpty=false)(hz:items.size * k.toNat<=sizeLine)(hz2:(List.foldl (λx1 x2=>x1++x2) #[] (List.replicate k.toNat items)).size<=sizeLine):
  Meets (Builtin.«tuple.__mul__» ⟨[.ref l,.int k t],[]⟩) (λ_ R s=>s.heap.get? l=some { cls:=.type "tuple",dict:=dd,data:=.seq items n,slots:=sl }/\
   R (.ok (.ret (.ref s.heap.objs.size))) { s with heap:=s.heap.push { cls:=.type "tuple",data:=.seq ((List.replicate k.toNat items).foldl (· ++ ·) #[]) } }):=
 .of_wp λprog w A R s h=>by
  obtain ⟨hp,g,d,tk,os⟩:=s;obtain ⟨hl,h⟩:=h;have a1:(decide (k < -(2 ^ 63))||decide (k≥2 ^ 63))=false:=by rw[decide_eq_false (by omega),decide_eq_false (by omega)];rfl
  have a2:(items.isEmpty||k==1)=false:=by rw[hne,Bool.false_or,beq_eq_false_iff_ne];omega
  have a3:(decide (k<=0)||items.isEmpty)=false:=by rw[decide_eq_false (by omega),hne];rfl
  have hs:(items.size:Int) * k=((items.size * k.toNat:Nat):Int):=by rw[Int.natCast_mul,Int.toNat_of_nonneg (by omega)]
  have hsl:sizeLine<=1152921504606846975:=by decide
  have a4:¬((items.size:Int) * k > (2 ^ 63 - 1) / 8):=by rw[hs];omega
  have a5:¬(Tuple.tupleTooMany ((items.size:Int) * k)=true):=by unfold Tuple.tupleTooMany;rw[decide_eq_true_iff,hs];omega
  wp_walk
  rw[if_neg (by rw[a1];exact Bool.false_ne_true)];wp_walk
  rw[if_neg (by rw[a2];exact Bool.false_ne_true)];dsimp only;rw[if_neg (by rw[a3];exact Bool.false_ne_true),if_neg a4,if_neg a5];unfold Tuple.tupleExact;wp_walk
  exact ⟨_,rfl,h⟩
end HT
namespace L2
open PySem PySem.Spec PyProof.Rows
section
variable {X:Cx}
def aau(K:PF):R2:=λx y H Q=>∃(l:Addr)(k:Int)(xs:List V),x=.ref l/\y=.int k/\SqT K H l xs/\xs≠[]/\2<=k/\k<=1000/\xs.length * k.toNat<=sizeLine/\∀p,H p=none->Q (.ref p) (upd H p (.tup (List.replicate k.toNat xs).flatten))
theorem aav:OpR X (binaryOp .Mult) (aau X.K):=by
 intro pins s σ H x y v u Q I rx ry h;obtain ⟨l,k,xs,rfl,rfl,hT,hne,h2,hk,hz,q⟩:=h;cases rx;obtain ⟨t,rfl⟩:=ry;obtain ⟨its,r,pt,_⟩:=I.tuple hT;obtain ⟨⟨cls,dd,data,sl⟩,ho,hc,n,hd⟩:=id pt;simp only at hc hd;subst hc hd;have hl:=r.length;have hz':its.toArray.size * k.toNat<=sizeLine:=by rw[ar,<-hl];exact hz
 have he:its.toArray.isEmpty=false:=by
  cases its with
  |nil=>exact absurd (de.mp hl) hne
  |cons _ _=>rfl
 have hnew:List.foldl (λx1 x2=>x1++x2) #[] (List.replicate k.toNat its.toArray)=(List.replicate k.toNat its).flatten.toArray:=by have:=foldl_rep its k.toNat [];rw[List.nil_append]at this;exact this
 refine wpAny_binaryOp_repeat_ref (T:="tuple") (U:="int") (by decide) ⟨_,ho,rfl⟩ (λs'=>typeIs_int s' k t) HT.aaq F.fills_int_mul F.slot_int_rmul HT.aar F.slot_int_index.lookup
  (fi F.slot_int_rmul (typeIs_int s k t) F.entry_int_rmul (F.args_int_rmul_2 _ _) (HT.aas k t l its.toArray n dd sl)
   ⟨ho,rfl,⟨_,ho,rfl⟩,fi PySem.F.slot_tuple_mul ⟨_,ho,rfl⟩ PySem.F.entry_tuple_mul (PySem.F.args_tuple_mul_2 _ _) (HT.aat l its.toArray n dd sl k t h2 hk he hz' (by rw[hnew,ar,len_rep,Nat.mul_comm,<-hl];exact hz)) ⟨ho,?_⟩⟩)
 rw[hnew];refine ⟨.ref s.heap.objs.size,_,I.laid (t':=s.toks) (o:=.tup (List.replicate k.toNat xs).flatten) (λb ob q=>al _ q) (ay _) ?_,rfl,q _ (I.hok.fresh (ay _))⟩;exact ⟨by rw[len_rep,Nat.mul_comm];exact hz,_,r.rep k.toNat,IsTup.new _ _⟩
end
end L2
namespace HT
open PySem PySem.Spec PyProof.Rows Builtin
theorem aaw(a:Int)(t:Tok)(l:Addr)(items:Array Value)(n:Nat)(dd:Option Addr)(sl:Array (Option Value)):
  Meets (Builtin.«int.__rmul__» ⟨[.int a t,.ref l],[]⟩) (λ_ R s=>s.heap.get? l=some { cls:=.type "list",dict:=dd,data:=.seq items n,slots:=sl }/\R (.ok (.ret Value.notImplemented)) s):=
 .of_wp λprog w A R s h=>by obtain ⟨hp,g,d,tk,os⟩:=s;obtain ⟨hl,h⟩:=h;wp_walk;exact ⟨_,rfl,h⟩
theorem aax(l:Addr)(items:Array Value)(n:Nat)(dd:Option Addr)(sl:Array (Option Value))(x:Int)(u:Tok)(hc0:¬(!Builtin.List.listFitsIndex x)=true)(hc1:¬items.size * x.toNat > (2 ^ 63 - 1) / 8)(hc2:¬Builtin.List.listTooLong (items.size * x.toNat)=true):
  Meets (Builtin.«list.__mul__» ⟨[.ref l,.int x u],[]⟩) (λ_ R s=>s.heap.get? l=some { cls:=.type "list",dict:=dd,data:=.seq items n,slots:=sl }/\R (.ok (.ret (Value.ref s.heap.objs.size))) { s with heap:=s.heap.push { cls:=Value.type "list",data:=Data.seq (List.foldl (λx1 x2=>x1++x2) #[] (List.replicate (if items.isEmpty=true then 0 else x.toNat) items)) },toks:=s.toks }):=
 .of_wp λprog w A R s h=>by
  obtain ⟨hp,g,d,tk,os⟩:=s;obtain ⟨hl,h⟩:=h;have hsz:=AutoListH.joined_fits hc2;wp_walk;refine wpAny_ite_false (decide_eq_false (Nat.not_lt.mpr hsz)) ?_;wp_walk;exact ⟨_,rfl,h⟩
end HT
namespace L2
open PySem PySem.Spec PyProof.Rows
section
variable {X:Cx}
def aay(K:PF):R2:=λx y H Q=>∃(l:Addr)(k:Int)(xs:List V),x=.ref l/\y=.int k/\SqL K H l xs/\0<=k/\k<=1000/\xs.length * k.toNat<=sizeLine/\∀p,H p=none->Q (.ref p) (upd H p (.lst (List.replicate k.toNat xs).flatten))
theorem aaz:OpR X (binaryOp .Mult) (aay X.K):=by
 intro pins s σ H x y v u Q I rx ry h;obtain ⟨l,k,xs,rfl,rfl,hH,h1,h2,hz,q⟩:=h;cases rx;obtain ⟨t,rfl⟩:=ry;obtain ⟨its,r,⟨⟨cls,dd,data,sl⟩,n,e,c1,c2,c3⟩,_⟩:=I.list hH;simp only at c1 c2 c3;have hl:=r.length;have hlen:its.toArray.size * k.toNat<=sizeLine:=by rw[ar,<-hl];exact hz
 have hcap:¬its.toArray.size * k.toNat > (2 ^ 63 - 1) / 8:=by
  have:(sizeLine:Nat)<=(2 ^ 63 - 1) / 8:=by decide
  omega
 have hfit:¬(!Builtin.List.listFitsIndex k)=true:=by rw[fitsIndex_both (by omega) (by omega)];exact br
 have hlong:¬Builtin.List.listTooLong (its.toArray.size * k.toNat)=true:=by rw[Dv hlen];exact br
 have hnew:List.foldl (λx1 x2=>x1++x2) #[] (List.replicate (if its.toArray.isEmpty=true then 0 else k.toNat) its.toArray)=(List.replicate k.toNat its).flatten.toArray:=by
  have f0:∀m:Nat,List.foldl (λx1 x2=>x1++x2) #[] (List.replicate m its.toArray)=(List.replicate m its).flatten.toArray:=λm=>by
   have:=foldl_rep its m [];rw[List.nil_append]at this;exact this
  rw[f0];cases its with
  |nil=>simp
  |cons a r'=>rw[if_neg (by simp)]
 subst c1 c3;refine wpAny_binaryOp_repeat_ref (T:="list") (U:="int") (by decide) ⟨_,e,rfl⟩ (λs'=>typeIs_int s' k t) noFill_list_mul F.fills_int_mul F.slot_int_rmul repeat_list F.slot_int_index.lookup
  (fi F.slot_int_rmul (typeIs_int s k t) F.entry_int_rmul (F.args_int_rmul_2 _ _) (HT.aaw k t l its.toArray n dd sl)
   ⟨e,rfl,⟨_,e,rfl⟩,fi F.slot_list_mul ⟨_,e,rfl⟩ F.entry_list_mul (F.args_list_mul_2 _ _) (HT.aax l its.toArray n dd sl k t hfit hcap hlong) ⟨e,?_⟩⟩)
 rw[hnew];exact ⟨.ref _,_,I.lnew (t':=s.toks) (r.rep k.toNat) (by rw[len_rep,Nat.mul_comm];exact hz),rfl,q _ I.fresh⟩
end
end L2
namespace PySem
end PySem
namespace L2
open PySem PySem.Spec PyProof.Rows
end L2
namespace PyProof.Rows
open PySem
theorem aaA {prog:Program} {w:World} {A:Around} {E:Value->Shared->Prop} {s:Shared} {it:Addr} {T:String} {o:Obj} {items:List Value} {n:Nat} {ns:List Int} {Q:Value->Shared->Prop} (hT:T="list"\/T="tuple")
  (ho:s.heap.get? it=some o) (hc:o.cls=.type T) (hd:o.data=.seq items.toArray n) (hI:IntsAre items ns) (h64:items.length < 64)
  (h:∀(h1 h':Heap) (e:Nat) (out:Array Value) (ns':List Int),IntsAre out.toList ns'->ns'.Perm ns->ns'.Pairwise (·<=·)->(∀b o',s.heap.get? b=some o'->h1.get? b=some o')->(∀b o',h1.get? b=some o'->h'.get? b=some o')->h'.get? h1.objs.size=some (seqObj "list" out e)->Q (.ref h1.objs.size) { s with heap:=h' }):
  wpAny (model prog w) A (call (.builtin "sorted") [.ref it]) Q E s:=by
 refine Calls.call_function_entry kind_sorted plain_sorted entry_sorted (args_sorted1 _) ?_;unfold Builtin.«sorted»;refine wpAny_bind (m:=checkCount "sorted" 1 1 _) (wpAny_pure ?_);refine wpAny_bind (wpAny_collect_seq it hT ho hc hd (λh1 k1=>?_) (by rw[List.size_toArray,sizeLine_eq];omega));refine wpAny_bind (wpAny_newList ?_);have e1:items.toArray.toList=items:=by simp
 rw[e1];have hoL:(h1.push (seqObj "list" items.toArray 0)).get? h1.objs.size=some (seqObj "list" items.toArray 0):=Heap.get?_push_size _ rfl;show wpAny _ _ _ _ _ { s with heap:=h1.push (seqObj "list" items.toArray 0) };refine wpAny_bind (wpAny_holding (wpAny_call_entry slot_list_sort ⟨_,hoL,rfl⟩ entry_list_sort (list_sort_tree hoL hI h64 λout ns' a1 a2 a3=>⟨_,rfl,?_⟩) (args_list_sort _)));obtain ⟨e,he⟩:=sortedHeap_at (vs:=items) (out:=out) hoL;refine wpAny_pure ⟨_,rfl,h h1 _ e out ns' a1 a2 a3 k1 (λb o' hb1=>?_) he⟩;rw[sortedHeap_old (Nat.ne_of_lt (Heap.lt_size hb1)) (by rw[size_push'];exact Nat.lt_succ_of_lt (Heap.lt_size hb1))];exact Heap.get?_push_of_some _ hb1
end PyProof.Rows
namespace L2
open PySem PySem.Spec PyProof.Rows
theorem aj8 {X:Cx}:bJ X (.builtin "sorted") (λxs H Q=>∃(p:Addr) (ns:List Int),xs=[.ref p]/\SqT X.K H p (ns.map V.int)/\ns.length < 64/\∀ns':List Int,ns'.Perm ns->ns'.Pairwise (·<=·)->∀l,H l=none->Q (.ref l) (upd H l (.lst (ns'.map V.int)))):=by
 intro pins s σ H xs us Q I r h;obtain ⟨p,ns,rfl,hq,h64,q⟩:=h;obtain ⟨u,rfl,ru⟩:=vals1 r;cases ru;obtain ⟨its,rv,⟨o,ho,hc,n,hd⟩,hz⟩:=I.tuple hq;have hlen:its.length=ns.length:=by rw[<-rv.length];simp
 refine aaA (.inr rfl) ho hc hd (intsAre_of rv) (by omega) λh1 h' e out ns' a1 a2 a3 k1 k2 he=>?_;have I1:Inv X pins σ H { s with heap:=h1 }:=I.kept (t':=s.toks) k1;have hsz:(ns'.map V.int).length<=sizeLine:=by rw[ag,a2.length_eq,fS];omega
 exact ⟨.ref h1.objs.size,_,I1.laid (t':=s.toks) k2 (ay _) (show ObjOk X.prog X.w _ _ _ (.lst (ns'.map V.int)) from ⟨hsz,out.toList,e,wz a1,by rw[Array.toArray_toList];exact he⟩),rfl,q ns' a2 a3 _ (I1.hok.fresh (ay _))⟩
end L2
namespace RF
open PySem PySem.Spec PyProof.Rows L2
inductive D where
 |non |bl (b:Bool) |int (i:Int) |str (l:List Nat) |tup (xs:List D) |lst (xs:List D) |ref (a:Addr) |scr (ns:List Int) |exn (C:String) |obj (C f:String) (q:Addr)
 deriving Inhabited
inductive DO where
 |lst (xs:List D)
 deriving Inhabited
abbrev DH:=Addr->Option DO
def aK(G:DH)(a:Addr)(o:DO):DH:=λb=>if b=a then some o else G b
def ir(G:DH)(a:Addr):DH:=λb=>if b=a then none else G b
theorem bf{G:DH}{a:Addr}{o:DO}:aK G a o a=some o:=if_pos rfl
theorem cW{G:DH}{a b:Addr}{o:DO}(h:b≠a):aK G a o b=G b:=if_neg h
theorem wN{G:DH}{a:Addr}:ir G a a=none:=if_pos rfl
theorem wO{G:DH}{a b:Addr}(h:b≠a):ir G a b=G b:=if_neg h
theorem aaB{G:DH}{a:Addr}{o u:DO}:aK (aK G a o) a u=aK G a u:=by funext b;unfold aK;split <;> rfl
theorem Eu{G:DH}{a:Addr}{o:DO}(h:G a=none):ir (aK G a o) a=G:=by
 funext b;unfold aK ir;split
 ·rename_i e;rw[e,h]
 ·rename_i e;exact if_neg e
theorem wQ{G:DH}{a b:Addr}{o:DO}(h:G a=some o)(h':G b=none):a≠b:=by intro e;subst e;rw[h]at h';cases h'
abbrev sz:Nat:=1000000
abbrev FZ:=Addr->Prop
def FzL(H:Hp)(F:FZ)(a:Addr)(vs:List V):Prop:=F a/\H a=some (.lst vs)
theorem FzL.sq{K:PF}{H:Hp}{F:FZ}{a:Addr}{vs:List V}(h:FzL H F a vs):SqL K H a vs:=.inl (.inl h.2)
structure TpT(K:PF)(H:Hp)(a:Addr)(vs:List V):Prop where
 it:H a=some (.tup vs)
theorem TpT.sq{K:PF}{H:Hp}{a:Addr}{vs:List V}(h:TpT K H a vs):SqT K H a vs:=.inl (.inl h.it)
def ScL(K:PF)(H:Hp)(a:Addr)(vs:List V):Prop:=
 (∃o,H a=some (.frz o (.lst vs)))\/
  ∃(o:Obj) (its:Array Value) (n:Nat),K.lookup a=some o/\o.cls=.type "list"/\o.dict=none/\o.data=.seq its n/\its.size<=sizeLine/\Vals vs its.toList
theorem ScL.sq{K:PF}{H:Hp}{a:Addr}{vs:List V}(h:ScL K H a vs):SqL K H a vs:=by
 rcases h with ⟨o,h⟩ |h
 ·exact .inl (.inr ⟨o,h⟩)
 ·exact .inr h
def FzO(H:Hp)(F:FZ)(a c dx:Addr)(f:Str)(q:Addr):Prop:=F a/\H a=some (.ins c dx [(f,.ref q)])
mutual
noncomputable def Rep(K:PF)(H:Hp)(F:FZ):D->V->Prop
 |.non,v=>v=.non
 |.bl b,v=>v=.bl b
 |.int i,v=>v=.int i
 |.str l,v=>v=.str (tx l)/\l.length<=sz
 |.tup ds,v=>∃a vs,v=.ref a/\TpT K H a vs/\Reps K H F ds vs
 |.lst ds,v=>∃a vs,v=.ref a/\FzL H F a vs/\Reps K H F ds vs
 |.ref a,v=>v=.ref a
 |.scr ns,v=>∃a,v=.ref a/\ScL K H a (ns.map V.int)
 |.obj C f q,v=>∃a c dx,v=.ref a/\FzO H F a c dx (Str.ofString f) q/\PySem.W.nsIn K mainGlobals (Str.ofString C)=some (some (.ref c))
 |.exn C,v=>∃a c,v=.ref a/\XO H a c/\PySem.W.nsIn K mainGlobals (Str.ofString C)=some (some (.ref c))
noncomputable def Reps(K:PF)(H:Hp)(F:FZ):List D->List V->Prop
 |[],vs=>vs=[]
 |d::ds,vs=>∃v r,vs=v::r/\Rep K H F d v/\Reps K H F ds r
end
structure Ext(H:Hp)(F:FZ)(H':Hp)(F':FZ):Prop where
 sub:∀a,F a->F' a
 keep:∀a,F a->H' a=H a
 tups:∀a xs,H a=some (.tup xs)->H' a=some (.tup xs)
 frzs:∀a o u,H a=some (.frz o u)->H' a=some (.frz o u)
theorem Ext.refl(H:Hp)(F:FZ):Ext H F H F:=⟨λ_ h=>h,λ_ _=>rfl,λ_ _ h=>h,λ_ _ _ h=>h⟩
theorem Ext.trans{H H1 H2:Hp}{F F1 F2:FZ}(a:Ext H F H1 F1)(b:Ext H1 F1 H2 F2):Ext H F H2 F2:=
 ⟨λc h=>b.sub c (a.sub c h),λc h=>(b.keep c (a.sub c h)).trans (a.keep c h),λc xs h=>b.tups c xs (a.tups c xs h),λc o u h=>b.frzs c o u (a.frzs c o u h)⟩
section
variable {K:PF} {H H':Hp} {F F':FZ}
theorem TpT.ext{a:Addr}{vs:List V}(x:Ext H F H' F')(h:TpT K H a vs):TpT K H' a vs:=⟨x.tups _ _ h.it⟩
theorem FzL.ext{a:Addr}{vs:List V}(x:Ext H F H' F')(h:FzL H F a vs):FzL H' F' a vs:=⟨x.sub _ h.1,(x.keep _ h.1).trans h.2⟩
theorem ScL.ext{a:Addr}{vs:List V}(x:Ext H F H' F')(h:ScL K H a vs):ScL K H' a vs:=by
 rcases h with ⟨o,h⟩ |h
 ·exact .inl ⟨o,x.frzs _ _ _ h⟩
 ·exact .inr h
mutual
theorem Rep.ext(x:Ext H F H' F'):∀{d:D}{v:V},Rep K H F d v->Rep K H' F' d v
 |.non,_,h=>h
 |.bl _,_,h=>h
 |.int _,_,h=>h
 |.str _,_,h=>h
 |.tup _,_,⟨a,vs,e,q,r⟩=>⟨a,vs,e,TpT.ext x q,Reps.ext x r⟩
 |.lst _,_,⟨a,vs,e,q,r⟩=>⟨a,vs,e,FzL.ext x q,Reps.ext x r⟩
 |.ref _,_,h=>h
 |.scr _,_,⟨a,e,q⟩=>⟨a,e,ScL.ext x q⟩
 |.obj _ _ _,_,⟨a,c,dx,e,⟨hf,hh⟩,n⟩=>⟨a,c,dx,e,⟨x.sub _ hf,(x.keep _ hf).trans hh⟩,n⟩
 |.exn _,_,⟨a,c,e,⟨o,y,q,hc⟩,n⟩=>⟨a,c,e,⟨o,y,x.frzs _ _ _ q,hc⟩,n⟩
theorem Reps.ext(x:Ext H F H' F'):∀{ds:List D}{vs:List V},Reps K H F ds vs->Reps K H' F' ds vs
 |[],_,h=>h
 |_::_,_,⟨v,r,e,h,t⟩=>⟨v,r,e,Rep.ext x h,Reps.ext x t⟩
end
theorem Reps.nil:Reps K H F [] []:=rfl
theorem Reps.cons{d:D}{v:V}{ds:List D}{vs:List V}(h:Rep K H F d v)(t:Reps K H F ds vs):Reps K H F (d::ds) (v::vs):=⟨v,vs,rfl,h,t⟩
theorem Reps.length:∀{ds:List D}{vs:List V},Reps K H F ds vs->ds.length=vs.length
 |[],_,h=>by cases h;rfl
 |_::_,_,⟨v,r,e,_,t⟩=>by subst e;simp[Reps.length t]
theorem Reps.append:∀{ds es:List D}{vs us:List V},Reps K H F ds vs->Reps K H F es us->Reps K H F (ds++es) (vs++us)
 |[],_,_,_,h,t=>by cases h;exact t
 |_::_,_,_,_,⟨v,r,e,h,t⟩,t'=>by subst e;exact ⟨v,_,rfl,h,Reps.append t t'⟩
theorem Reps.get:∀{ds:List D}{vs:List V}{i:Nat}{d:D},Reps K H F ds vs->ds[i]?=some d->∃v,vs[i]?=some v/\Rep K H F d v
 |[],_,_,_,_,e=>by simp at e
 |_::_,_,0,_,⟨v,r,e,h,t⟩,q=>by subst e;simp at q;subst q;exact ⟨v,rfl,h⟩
 |_::_,_,i+1,d,⟨v,r,e,h,t⟩,q=>by
  subst e;obtain ⟨u,h1,h2⟩:=Reps.get (i:=i) (d:=d) t (by simpa using q);exact ⟨u,by simpa using h1,h2⟩
theorem Reps.set{d:D}{v:V}(r:Rep K H F d v):∀{ds:List D}{vs:List V}(i:Nat),Reps K H F ds vs->Reps K H F (ds.set i d) (vs.set i v)
 |[],_,_,h=>by cases h;exact rfl
 |_::_,_,0,⟨v',r',e,h,t⟩=>by subst e;exact ⟨_,_,rfl,r,t⟩
 |_::_,_,i+1,⟨v',r',e,h,t⟩=>by subst e;exact ⟨_,_,rfl,h,Reps.set r i t⟩
theorem Reps.take:∀{ds:List D}{vs:List V}(n:Nat),Reps K H F ds vs->Reps K H F (ds.take n) (vs.take n)
 |_,_,0,_=>rfl
 |[],_,_+1,h=>by cases h;exact rfl
 |_::_,_,n+1,⟨v',r',e,h,t⟩=>by subst e;exact ⟨_,_,rfl,h,Reps.take n t⟩
theorem Reps.drop:∀{ds:List D}{vs:List V}(n:Nat),Reps K H F ds vs->Reps K H F (ds.drop n) (vs.drop n)
 |_,_,0,h=>h
 |[],_,_+1,h=>by cases h;exact rfl
 |_::_,_,n+1,⟨v',r',e,h,t⟩=>by subst e;exact Reps.drop n t
theorem Reps.cut{ds:List D}{vs:List V}(h:Reps K H F ds vs)(lo hi:Option Int):
  Reps K H F ((ds.drop (HT.sIx ds.length 0 lo)).take (HT.sIx ds.length ds.length hi - HT.sIx ds.length 0 lo)) (dO vs lo hi):=by
 unfold dO;rw[<-h.length];exact (h.drop _).take _
theorem Reps.rep{ds:List D}{vs:List V}(h:Reps K H F ds vs):∀k:Nat,Reps K H F (List.replicate k ds).flatten (List.replicate k vs).flatten
 |0=>rfl
 |k+1=>by
  rw[b9,b9,eP,eP];exact Reps.append h (Reps.rep h k)
end
def aaC(K:PF)(H:Hp)(F:FZ)(a:Addr):DO->Prop
 |.lst ds=>∃vs,H a=some (.lst vs)/\Reps K H F ds vs
structure R(K:PF)(H:Hp)(F:FZ)(G:DH):Prop where
 fz:∀a,F a->G a=none/\∃o,H a=some o
 ob:∀a o,G a=some o->aaC K H F a o
section
variable {K:PF} {H:Hp} {F:FZ} {G:DH} {p:Addr} {vs:List V} {ds:List D}
theorem R.lst(r:R K H F G)(h:G p=some (.lst ds)):∃vs,H p=some (.lst vs)/\Reps K H F ds vs:=r.ob p _ h
theorem R.free(r:R K H F G)(h:H p=none):G p=none:=by
 cases e:G p with
 |none=>rfl
 |some o=>
  cases o with
  |lst ds=>obtain ⟨vs,q,_⟩:=r.lst e;rw[h]at q;cases q
theorem R.notF(r:R K H F G)(h:H p=none):¬F p:=λf=>by
 obtain ⟨_,vs,q⟩:=r.fz p f;rw[h]at q;cases q
theorem dq{o:HO}(r:R K H F G)(h:H p=none):Ext H F (upd H p o) F:=
 ⟨λ_ f=>f,λa f=>aJ λe=>r.notF h (by rw[<-e];exact f),λa xs q=>by rw[aJ (bw q h)];exact q,λa ob u q=>by rw[aJ (bw q h)];exact q⟩
theorem R.new{o:HO}(r:R K H F G)(h:H p=none):R K (upd H p o) F G:=by
 have x:Ext H F (upd H p o) F:=dq r h;refine ⟨λa f=>⟨(r.fz a f).1,?_⟩,λa u e=>?_⟩
 ·obtain ⟨_,vs,q⟩:=r.fz a f;exact ⟨vs,by rw[x.keep a f];exact q⟩
 ·cases u with
  |lst ds=>
   obtain ⟨vs,q,t⟩:=r.lst e;exact ⟨vs,by rw[aJ (bw q h)];exact q,Reps.ext x t⟩
theorem R.newL(r:R K H F G)(h:H p=none)(t:Reps K H F ds vs):R K (upd H p (.lst vs)) F (aK G p (.lst ds)):=by
 have x:Ext H F (upd H p (.lst vs)) F:=dq r h;have r':R K (upd H p (.lst vs)) F G:=r.new h;refine ⟨λa f=>⟨?_,(r'.fz a f).2⟩,λa u e=>?_⟩
 ·rw[cW λe=>r.notF h (by rw[<-e];exact f)];exact (r.fz a f).1
 ·by_cases ha:a=p
  ·subst ha;rw[bf]at e;cases e;exact ⟨vs,cP,Reps.ext x t⟩
  ·rw[cW ha]at e;exact r'.ob a u e
theorem wR(r:R K H F G)(h:H p=none):Ext H F (upd H p (.lst vs)) (λa=>F a\/a=p):=
 ⟨λ_ f=>.inl f,(dq r h).keep,(dq r h).tups,(dq r h).frzs⟩
theorem R.newF(r:R K H F G)(h:H p=none):R K (upd H p (.lst vs)) (λa=>F a\/a=p) G:=by
 have x:Ext H F (upd H p (.lst vs)) (λa=>F a\/a=p):=wR r h;refine ⟨λa f=>?_,λa u e=>?_⟩
 ·rcases f with f |f
  ·obtain ⟨g,vs',q⟩:=r.fz a f;exact ⟨g,vs',by rw[x.keep a f];exact q⟩
  ·subst f;exact ⟨r.free h,_,cP⟩
 ·cases u with
  |lst ds=>
   obtain ⟨vs',q,t⟩:=r.lst e;exact ⟨vs',by rw[aJ (bw q h)];exact q,Reps.ext x t⟩
theorem wU{o:HO}(r:R K H F G)(h:H p=none):Ext H F (upd H p o) (λa=>F a\/a=p):=
 ⟨λ_ f=>.inl f,(dq r h).keep,(dq r h).tups,(dq r h).frzs⟩
theorem R.newO{o:HO}(r:R K H F G)(h:H p=none):R K (upd H p o) (λa=>F a\/a=p) G:=by
 have x:Ext H F (upd H p o) (λa=>F a\/a=p):=wU r h;refine ⟨λa f=>?_,λa u e=>?_⟩
 ·rcases f with f |f
  ·obtain ⟨g,vs',q⟩:=r.fz a f;exact ⟨g,vs',by rw[x.keep a f];exact q⟩
  ·subst f;exact ⟨r.free h,_,cP⟩
 ·cases u with
  |lst ds=>
   obtain ⟨vs',q,t⟩:=r.lst e;exact ⟨vs',by rw[aJ (bw q h)];exact q,Reps.ext x t⟩
theorem aaD(r:R K H F G)(h:H p=none)(t:Reps K H F ds vs):Rep K (upd H p (.lst vs)) (λa=>F a\/a=p) (.lst ds) (.ref p):=
 ⟨p,vs,rfl,⟨.inr rfl,cP⟩,Reps.ext (wR r h) t⟩
theorem wV(r:R K H F G)(h:H p=none)(t:Reps K H F ds vs):Rep K (upd H p (.tup vs)) F (.tup ds) (.ref p):=
 ⟨p,vs,rfl,⟨cP⟩,Reps.ext (dq r h) t⟩
theorem jk{H:Hp}{a x c dx:Addr}{u:HO}{fs:List (Str×V)}(h:H a=some u)(hx:H x=some (.ins c dx []))(hu:u≠.ins c dx []):a≠x:=λe=>hu (by subst e;rw[h]at hx;exact dv hx)
mutual
theorem Rep.setO{x c dx:Addr}{fs:List (Str×V)}(hx:H x=some (.ins c dx [])):∀{d:D}{v:V},Rep K H F d v->Rep K (upd H x (.ins c dx fs)) F d v
 |.non,_,h=>h
 |.bl _,_,h=>h
 |.int _,_,h=>h
 |.str _,_,h=>h
 |.tup _,_,⟨a,vs,e,q,r⟩=>⟨a,vs,e,⟨by rw[aJ (jk (fs:=fs) q.it hx (by intro w;cases w))];exact q.it⟩,Reps.setO hx r⟩
 |.lst _,_,⟨a,vs,e,q,r⟩=>⟨a,vs,e,⟨q.1,by rw[aJ (jk (fs:=fs) q.2 hx (by intro w;cases w))];exact q.2⟩,Reps.setO hx r⟩
 |.ref _,_,h=>h
 |.scr _,_,⟨a,e,q⟩=>⟨a,e,by
   rcases q with ⟨o,q⟩ |q
   ·exact .inl ⟨o,by rw[aJ (jk (fs:=fs) q hx (by intro w;cases w))];exact q⟩
   ·exact .inr q⟩
 |.obj _ _ _,_,⟨a,c',dx',e,⟨hf,hh⟩,n⟩=>⟨a,c',dx',e,⟨hf,by rw[aJ (jk (fs:=fs) hh hx (by intro w;cases w))];exact hh⟩,n⟩
 |.exn _,_,⟨a,c',e,⟨o,y,q,hc⟩,n⟩=>⟨a,c',e,⟨o,y,by rw[aJ (jk (fs:=fs) q hx (by intro w;cases w))];exact q,hc⟩,n⟩
theorem Reps.setO{x c dx:Addr}{fs:List (Str×V)}(hx:H x=some (.ins c dx [])):∀{ds:List D}{vs:List V},Reps K H F ds vs->Reps K (upd H x (.ins c dx fs)) F ds vs
 |[],_,h=>h
 |_::_,_,⟨v,r,e,h,t⟩=>⟨v,r,e,Rep.setO hx h,Reps.setO hx t⟩
end
theorem R.setO{x c dx:Addr}{fs:List (Str×V)}(r:R K H F G)(hx:H x=some (.ins c dx [])):R K (upd H x (.ins c dx fs)) F G:=by
 refine ⟨λa f=>⟨(r.fz a f).1,?_⟩,λa u e=>?_⟩
 ·by_cases h:a=x
  ·exact ⟨_,by rw[h,cP]⟩
  ·rw[aJ h];exact (r.fz a f).2
 ·cases u with
  |lst ds=>
   obtain ⟨vs,q,t⟩:=r.lst e;exact ⟨vs,by rw[aJ (jk (fs:=fs) q hx (by intro w;cases w))];exact q,Reps.setO hx t⟩
theorem fM{ds0:List D}{o:HO}(r:R K H F G)(h:G p=some (.lst ds0)):Ext H F (upd H p o) F:=by
 obtain ⟨vs0,q,_⟩:=r.lst h;refine ⟨λ_ f=>f,λa f=>aJ λe=>?_,λa xs z=>?_,λa ob u z=>?_⟩
 ·subst e;rw[(r.fz a f).1]at h;cases h
 ·rw[aJ (BZ z q (by intro w;cases w))];exact z
 ·rw[aJ (BZ z q (by intro w;cases w))];exact z
theorem R.write{ds0:List D}(r:R K H F G)(h:G p=some (.lst ds0))(t:Reps K H F ds vs):R K (upd H p (.lst vs)) F (aK G p (.lst ds)):=by
 have x:Ext H F (upd H p (.lst vs)) F:=fM r h;refine ⟨λa f=>⟨?_,?_⟩,λa u e=>?_⟩
 ·rw[cW λe=>by subst e;rw[(r.fz a f).1]at h;cases h];exact (r.fz a f).1
 ·obtain ⟨_,vs',q⟩:=r.fz a f;exact ⟨vs',by rw[x.keep a f];exact q⟩
 ·by_cases ha:a=p
  ·subst ha;rw[bf]at e;cases e;exact ⟨vs,cP,Reps.ext x t⟩
  ·rw[cW ha]at e;cases u with
   |lst ds'=>
    obtain ⟨vs',q,t'⟩:=r.lst e;exact ⟨vs',by rw[aJ ha];exact q,Reps.ext x t'⟩
theorem wW:Ext H F H (λa=>F a\/a=p):=⟨λ_ f=>.inl f,λ_ _=>rfl,λ_ _ h=>h,λ_ _ _ h=>h⟩
theorem R.frz(r:R K H F G)(h:G p=some (.lst ds)):R K H (λa=>F a\/a=p) (ir G p):=by
 have x:Ext H F H (λa=>F a\/a=p):=wW;refine ⟨λa f=>?_,λa u e=>?_⟩
 ·rcases f with f |f
  ·obtain ⟨g,vs',q⟩:=r.fz a f;refine ⟨?_,vs',q⟩;by_cases ha:a=p
   ·rw[ha];exact wN
   ·rw[wO ha];exact g
  ·subst f;obtain ⟨vs,q,_⟩:=r.lst h;exact ⟨wN,_,q⟩
 ·by_cases ha:a=p
  ·rw[ha,wN]at e;cases e
  ·rw[wO ha]at e;cases u with
   |lst ds'=>
    obtain ⟨vs',q,t'⟩:=r.lst e;exact ⟨vs',q,Reps.ext x t'⟩
theorem aaE(r:R K H F G)(h:G p=some (.lst ds)):Rep K H (λa=>F a\/a=p) (.lst ds) (.ref p):=by obtain ⟨vs,q,t⟩:=r.lst h;exact ⟨p,vs,rfl,⟨.inr rfl,q⟩,Reps.ext wW t⟩
end
def view(G:DH):D->D
 |.ref p=>match G p with |some (.lst ds)=>.lst ds |none=>.ref p
 |d=>d
theorem Rep.list{K:PF}{H:Hp}{F:FZ}{G:DH}{d:D}{v:V}{ds:List D}(r:R K H F G)(h:Rep K H F d v)(e:view G d=.lst ds):∃a vs,v=.ref a/\SqL K H a vs/\Reps K H F ds vs:=by
 cases d with
 |lst xs=>
  have e':D.lst xs=.lst ds:=e;cases e';obtain ⟨a,vs,e1,q,t⟩:=h;exact ⟨a,vs,e1,q.sq,t⟩
 |ref p=>
  have hv:v=.ref p:=h;unfold view at e;cases g:G p with
  |none=>simp only[g]at e;cases e
  |some o=>
   cases o with
   |lst xs=>
    simp only[g]at e;cases e;obtain ⟨vs,q,t⟩:=r.lst g;exact ⟨p,vs,hv,.inl (.inl q),t⟩
 |_=>cases (show _=D.lst ds from e)
theorem gw{G:DH}{d:D}{ds:List D}(e:view G d=.tup ds):d=.tup ds:=by
 cases d with
 |ref p=>
  unfold view at e;cases g:G p with
  |none=>simp only[g]at e;cases e
  |some o=>cases o;simp only[g]at e;cases e
 |_=>exact e
theorem gA{G:DH}{d:D}{l:List Nat}(e:view G d=.str l):d=.str l:=by
 cases d with
 |ref p=>
  unfold view at e;cases g:G p with
  |none=>simp only[g]at e;cases e
  |some o=>cases o;simp only[g]at e;cases e
 |_=>exact e
theorem dU{G:DH}{d:D}{l:Int}(e:view G d=.int l):d=.int l:=by
 cases d with
 |ref p=>
  unfold view at e;cases g:G p with
  |none=>simp only[g]at e;cases e
  |some o=>cases o;simp only[g]at e;cases e
 |_=>exact e
theorem aaF{G:DH}{d:D}{l:Bool}(e:view G d=.bl l):d=.bl l:=by
 cases d with
 |ref p=>
  unfold view at e;cases g:G p with
  |none=>simp only[g]at e;cases e
  |some o=>cases o;simp only[g]at e;cases e
 |_=>exact e
abbrev ao:=List (Option D)
def EnvR(K:PF)(H:Hp)(F:FZ):ao->L2.St->Prop
 |[],σ=>σ=[]
 |o::ρ,σ=>∃u τ,σ=u::τ/\(∀d,o=some d->∃v,u=some v/\Rep K H F d v)/\EnvR K H F ρ τ
section
variable {K:PF} {H H':Hp} {F F':FZ}
theorem EnvR.ext(x:Ext H F H' F'):∀{ρ:ao}{σ:L2.St},EnvR K H F ρ σ->EnvR K H' F' ρ σ
 |[],_,h=>h
 |_::_,_,⟨u,τ,e,h,t⟩=>⟨u,τ,e,λd q=>by obtain ⟨v,e1,r⟩:=h d q;exact ⟨v,e1,Rep.ext x r⟩,EnvR.ext x t⟩
theorem EnvR.get:∀{ρ:ao}{σ:L2.St}{i:Nat}{d:D},EnvR K H F ρ σ->ρ[i]?=some (some d)->∃v,σ[i]?=some (some v)/\Rep K H F d v
 |[],_,_,_,_,e=>by simp at e
 |_::_,_,0,d,⟨u,τ,e,h,t⟩,q=>by
  subst e;obtain ⟨v,e1,r⟩:=h d (by simpa using q);exact ⟨v,by simp[e1],r⟩
 |_::_,_,i+1,d,⟨u,τ,e,h,t⟩,q=>by
  subst e;obtain ⟨v,e1,r⟩:=EnvR.get (i:=i) (d:=d) t (by simpa using q);exact ⟨v,by simpa using e1,r⟩
theorem EnvR.set{d:D}{v:V}(r:Rep K H F d v):∀{ρ:ao}{σ:L2.St}(i:Nat),EnvR K H F ρ σ->EnvR K H F (ρ.set i (some d)) (σ.set i (some v))
 |[],_,_,h=>by cases h;exact rfl
 |_::_,_,0,⟨u,τ,e,h,t⟩=>by subst e;exact ⟨_,_,rfl,λd' q=>⟨v,rfl,by cases q;exact r⟩,t⟩
 |_::_,_,i+1,⟨u,τ,e,h,t⟩=>by subst e;exact ⟨_,_,rfl,h,EnvR.set r i t⟩
theorem EnvR.unset:∀{ρ:ao}{σ:L2.St}(i:Nat),EnvR K H F ρ σ->EnvR K H F (ρ.set i Option.none) (σ.set i Option.none)
 |[],_,_,h=>by cases h;exact rfl
 |_::_,_,0,⟨u,τ,e,h,t⟩=>by subst e;exact ⟨_,_,rfl,λd' q=>(nomatch q),t⟩
 |_::_,_,i+1,⟨u,τ,e,h,t⟩=>by subst e;exact ⟨_,_,rfl,h,EnvR.unset i t⟩
theorem EnvR.none:∀(n:Nat),EnvR K H F (List.replicate n Option.none) (List.replicate n Option.none)
 |0=>rfl
 |n+1=>⟨_,_,rfl,λd q=>(nomatch q),EnvR.none n⟩
theorem EnvR.start:∀{ds:List D}{vs:List V}(n:Nat),Reps K H F ds vs->EnvR K H F (ds.map some++List.replicate n Option.none) (vs.map some++List.replicate n Option.none)
 |[],_,n,h=>by cases h;exact EnvR.none n
 |d::ds,_,n,⟨v,r,e,h,t⟩=>by
  subst e;exact ⟨_,_,rfl,λd' q=>⟨v,rfl,by cases q;exact h⟩,EnvR.start n t⟩
theorem EnvR.cap{ρ:ao}{σ:L2.St}(h:EnvR K H F ρ σ):∀(cap:List (Option Nat)),EnvR K H F (cap.map λo=>match o with |Option.none=>Option.none |some j=>(ρ[j]?).join) (dR cap σ)
 |[]=>rfl
 |Option.none::cap=>⟨_,_,rfl,λd q=>(nomatch q),EnvR.cap h cap⟩
 |some j::cap=>by
  refine ⟨_,_,rfl,λd q=>?_,EnvR.cap h cap⟩;have q':(ρ[j]?).join=some d:=q;have z:ρ[j]?=some (some d):=by
   cases e:ρ[j]? with
   |none=>rw[e]at q';cases q'
   |some o=>rw[e]at q';exact fb some q'
  obtain ⟨v,e1,r⟩:=h.get z;exact ⟨v,by show (σ[j]?).join=some v;rw[e1];rfl,r⟩
end
mutual
noncomputable def deq:D->D->Bool
 |.non,.non=>true
 |.bl a,.bl b=>a==b
 |.bl a,.int b=>(if a then 1 else 0)==b
 |.int a,.bl b=>a==(if b then 1 else 0)
 |.int a,.int b=>a==b
 |.str a,.str b=>a==b
 |.tup a,.tup b=>bO a b
 |.lst a,.lst b=>bO a b
 |_,_=>false
noncomputable def bO:List D->List D->Bool
 |[],[]=>true
 |a::as,b::bs=>deq a b&&bO as bs
 |_,_=>false
end
mutual
/-- no tracked object within -/
noncomputable def nr:D->Bool
 |.tup a=>nrs a
 |.lst a=>nrs a
 |.ref _=>false
 |.scr _=>false
 |.exn _=>false
 |.obj _ _ _=>false
 |_=>true
noncomputable def nrs:List D->Bool
 |[]=>true
 |a::as=>nr a&&nrs as
end
mutual
def dpt:D->Nat
 |.tup a=>aX a+1
 |.lst a=>aX a+1
 |_=>0
def aX:List D->Nat
 |[]=>0
 |a::as=>max (dpt a) (aX as)
end
noncomputable def truth:D->Option Bool
 |.non=>some false
 |.bl b=>some b
 |.int i=>some (i != 0)
 |.str l=>some (!l.isEmpty)
 |.tup l=>some (!l.isEmpty)
 |.lst l=>some (!l.isEmpty)
 |_=>none
noncomputable def cut{α:Type}(xs:List α)(lo hi:Option Int):List α:=(xs.drop (HT.sIx xs.length 0 lo)).take (HT.sIx xs.length xs.length hi - HT.sIx xs.length 0 lo)
def reps{α:Type}(xs:List α)(n:Nat):List α:=(List.replicate n xs).flatten
def mk(fz:Bool)(xs:List D)(G:DH)(k:D->DH->Prop):Prop:=
 match fz with
 |true=>k (.lst xs) G
 |false=>∀p,G p=none->k (.ref p) (aK G p (.lst xs))
def jl(fz:Bool)(a b:D)(G:DH)(k:D->DH->Prop):Prop:=
 match a with
 |.int i=>(match b with |.int j=>k (.int (i+j)) G |_=>False)
 |.str x=>(match b with |.str y=>x.length+y.length<=sz/\k (.str (x++y)) G |_=>False)
 |.lst x=>(match b with |.lst y=>x.length+y.length<=sz/\mk fz (x++y) G k |_=>False)
 |.tup x=>(match b with |.tup y=>x.length+y.length<=sz/\k (.tup (x++y)) G |_=>False)
 |_=>False
def gB(a b:D)(p:Int->Int->Prop):Prop:=
 match a with
 |.int i=>(match b with |.int j=>p i j |_=>False)
 |_=>False
def jm(fz:Bool)(a b:D)(G:DH)(k:D->DH->Prop):Prop:=
 match b with
 |.int n=>(match a with |.int i=>CMul i n/\k (.int (i * n)) G |.str x=>0<=n/\n<=1000/\x.length * n.toNat<=sz/\k (.str (reps x n.toNat)) G |.tup x=>2<=n/\n<=1000/\x≠[]/\x.length * n.toNat<=sz/\k (.tup (reps x n.toNat)) G |.lst x=>0<=n/\n<=1000/\x.length * n.toNat<=sz/\mk fz (reps x n.toNat) G k |_=>False)
 |_=>False
def cC(op:Operator)(fz:Bool)(a b:D)(G:DH)(k:D->DH->Prop):Prop:=
 match op with
 |.Add=>jl fz a b G k
 |.Sub=>gB a b λi j=>k (.int (i - j)) G
 |.Mult=>jm fz a b G k
 |.FloorDiv=>gB a b λi j=>(0 < j/\j < 1152921504606846976)/\k (.int (i / j)) G
 |.Mod=>gB a b λi j=>0 < j/\k (.int (i % j)) G
 |.Pow=>gB a b λi j=>qF i j/\k (.int (i ^ j.toNat)) G
 |_=>False
def isIn(x:D)(ys:List D):Bool:=ys.any λy=>deq y x
def Ew(a b:D):Prop:=nr a=true/\nr b=true/\min (dpt a) (dpt b)<=60
def inG(a:D)(l:List D):Prop:=nr a=true/\nrs l=true/\aX l<=60
def jn(a b:D)(k:Bool->Prop):Prop:=
 match a,b with
 |.int i,.int j=>k (decide (i < j))
 |.str i,.str j=>k (decide (i < j))
 |_,_=>False
def jo(a b:D)(k:Bool->Prop):Prop:=
 match a,b with
 |.int i,.int j=>k (decide (i<=j))
 |.str i,.str j=>k (!decide (j < i))
 |_,_=>False
def jq(a b:D)(k:Bool->Prop):Prop:=
 match a,b with
 |.int i,.int j=>k (decide (j < i))
 |_,_=>False
def jr(a b:D)(k:Bool->Prop):Prop:=
 match a,b with
 |.int i,.int j=>k (decide (j<=i))
 |_,_=>False
def qR(a:D):Bool:=match a with |.non=>true |_=>false
def jt(a b:D)(k:Bool->Prop):Prop:=
 match b with
 |.non=>k (qR a)
 |.bl b=>(match a with |.bl a=>k (a==b) |_=>False)
 |_=>False
def ju(a b:D)(k:Bool->Prop):Prop:=
 match b with
 |.non=>k (!qR a)
 |.bl b=>(match a with |.bl a=>k (a != b) |_=>False)
 |_=>False
def fO(a b:D)(k:Bool->Prop):Prop:=
 match b with
 |.str l=>(match a with |.str [c]=>k (l.contains c) |_=>False)
 |.lst l=>inG a l/\k (isIn a l)
 |.tup l=>inG a l/\k (isIn a l)
 |_=>False
def aY(op:CmpOp)(a b:D)(k:Bool->Prop):Prop:=
 match op with
 |.Eq=>Ew a b/\k (deq a b)
 |.NotEq=>Ew a b/\k (!deq a b)
 |.Lt=>jn a b k
 |.LtE=>jo a b k
 |.Gt=>jq a b k
 |.GtE=>jr a b k
 |.Is=>jt a b k
 |.IsNot=>ju a b k
 |.In=>fO a b k
 |.NotIn=>fO a b λc=>k (!c)
def cD(a i:D)(k:D->Prop):Prop:=
 match a,i with
 |.lst ds,.int i=>match atI ds i with |some d=>k d |none=>False
 |.tup ds,.int i=>match atI ds i with |some d=>k d |none=>False
 |.str l,.int i=>match atI l i with |some c=>k (.str [c]) |none=>False
 |_,_=>False
def dW(fz:Bool)(a:D)(lo hi:Option Int)(G:DH)(k:D->DH->Prop):Prop:=
 match a with
 |.lst ds=>mk fz (cut ds lo hi) G k
 |.scr ns=>mk fz ((cut ns lo hi).map .int) G k
 |.tup ds=>k (.tup (cut ds lo hi)) G
 |.str l=>k (.str (cut l lo hi)) G
 |_=>False
def jw(fz:Bool)(a y:D)(G:DH)(k:D->DH->Prop):Prop:=
 match a with
 |.lst ds=>y=.int (-1)/\mk fz ds.reverse G k
 |_=>False
noncomputable def bools:List D->Option (List Bool)
 |[]=>some []
 |.bl b::r=>match bools r with |some s=>some (b::s) |none=>none
 |_=>none
noncomputable def cj:List D->Option (List Int)
 |[]=>some []
 |.int b::r=>match cj r with |some s=>some (b::s) |none=>none
 |_=>none
noncomputable def bx:List D->Option (List (List Nat))
 |[]=>some []
 |.str b::r=>match bx r with |some s=>some (b::s) |none=>none
 |_=>none
def dX(s:List Nat):List (List Nat)->List Nat
 |[]=>[]
 |[x]=>x
 |x::y::r=>x++s++dX s (y::r)
inductive Bf where
 |len |all |int |tuple |sum |min |max |str |abs |min2
inductive Lf where
 |list |sorted
inductive Mf where
 |join |append |extend |insert |count |index |pop
def wX(as:List D)(k:D->Prop):Prop:=
 match as with
 |[.lst ds]=>k (.int ds.length)
 |[.tup ds]=>k (.int ds.length)
 |[.str l]=>k (.int l.length)
 |_=>False
def qT(as:List D)(k:D->Prop):Prop:=
 match as with
 |[.lst ds]=>match bools ds with |some bs=>k (.bl (bs.all id)) |none=>False
 |_=>False
def qU(as:List D)(k:D->Prop):Prop:=
 match as with
 |[.bl b]=>k (.int (if b then 1 else 0))
 |[.int i]=>k (.int i)
 |[.str l]=>match PySem.intText? (tx l) with |some n=>l.length<=640/\k (.int n) |none=>False
 |_=>False
def wY(as:List D)(k:D->Prop):Prop:=
 match as with
 |[.lst ds]=>k (.tup ds)
 |[.tup ds]=>k (.tup ds)
 |_=>False
def wZ(as:List D)(k:D->Prop):Prop:=
 match as with
 |[.lst ds]=>match cj ds with |some ns=>k (.int ns.sum) |none=>False
 |_=>False
def km(as:List D)(k:D->Prop):Prop:=
 match as with
 |[.lst ds]=>match cj ds with
  |some ns=>ns≠[]/\∀m,m∈ns->(∀a,a∈ns->m<=a)->k (.int m)
  |none=>match bx ds with
   |some ls=>∀m,m∈ls->(∀a,a∈ls->¬a < m)->k (.str m)
   |none=>False
 |_=>False
def Ey(as:List D)(k:D->Prop):Prop:=match as with
 |[.int a]=>k (.int (if a < 0 then -a else a))
 |_=>False
def Ez(as:List D)(k:D->Prop):Prop:=match as with
 |[.int a,.int b]=>k (.int (if b < a then b else a))
 |_=>False
def EY(as:List D)(k:D->Prop):Prop:=
 match as with
 |[.int a,.int b]=>k (.int (if b > a then b else a))
 |_=>False
def gC(m:Nat):List Nat:=(wM m).cps.toList
def w5(as:List D)(k:D->Prop):Prop:=
 match as with
 |[.int i]=>(0<=i/\i < 100)/\k (.str (gC i.toNat))
 |_=>False
noncomputable def opB:Bf->List D->(D->Prop)->Prop
 |.len=>wX
 |.all=>qT
 |.int=>qU
 |.tuple=>wY
 |.sum=>wZ
 |.min=>km
 |.max=>EY
 |.abs=>Ey
 |.min2=>Ez
 |.str=>w5
def xf(as:List D)(k:List D->Prop):Prop:=
 match as with
 |[.lst ds]=>k ds
 |[.tup ds]=>k ds
 |[.str l]=>k (l.map λc=>.str [c])
 |_=>False
def qW(as:List D)(k:List D->Prop):Prop:=
 match as with
 |[.lst ds]=>match bx ds with |some ls=>ls.length < 64/\∀ls':List (List Nat),ls'.Perm ls->PyProof.Rows.sortedS (ls'.map tx)=true->k (ls'.map D.str) |none=>False
 |[.tup ds]=>match cj ds with |some ns=>ns.length < 64/\∀ns':List Int,ns'.Perm ns->ns'.Pairwise (·<=·)->k (ns'.map D.int) |none=>False
 |_=>False
def cR:Lf->List D->(List D->Prop)->Prop
 |.list=>xf
 |.sorted=>qW
noncomputable def isT(t:String)(d:D):Option Bool:=
 match d with
 |.non=>some false
 |.bl _=>some (t=="bool"||t=="int")
 |.int _=>some (t=="int")
 |.str _=>some (t=="str")
 |.tup _=>some (t=="tuple")
 |.lst _=>some (t=="list")
 |_=>none
def fP (t:String):Bool:=t=="bool"||t=="int"||t=="str"||t=="tuple"||t=="list"
def qX(o:D)(as:List D)(G:DH)(k:D->DH->Prop):Prop:=
 match o,as with
 |.str s,[.lst ds]=>match bx ds with |some ls=>((ls.map (·.length)).sum+ls.length * s.length<=sz)/\k (.str (dX s ls)) G |none=>False
 |_,_=>False
def qY(o:D)(as:List D)(G:DH)(k:D->DH->Prop):Prop:=
 match o,as with
 |.ref p,[x]=>match G p with |some (.lst ds)=>ds.length < sz/\k .non (aK G p (.lst (ds++[x]))) |none=>False
 |_,_=>False
def qZ(o:D)(as:List D)(G:DH)(k:D->DH->Prop):Prop:=
 match o,as with
 |.ref p,[.lst xs]=>match G p with |some (.lst ds)=>ds.length+xs.length < sz/\k .non (aK G p (.lst (ds++xs))) |none=>False
 |_,_=>False
def q8(o:D)(as:List D)(G:DH)(k:D->DH->Prop):Prop:=
 match o,as with
 |.ref p,[.int i,x]=>match G p with |some (.lst ds)=>ds.length < sz/\0<=i/\i<=1000000/\k .non (aK G p (.lst (ds.take i.toNat++x::ds.drop i.toNat))) |none=>False
 |_,_=>False
def xg(o:D)(as:List D)(G:DH)(k:D->DH->Prop):Prop:=
 match o,as with
 |.ref p,[.int i]=>match G p with |some (.lst ds)=>0<=i/\i<=1000000/\(match ds[i.toNat]? with |some y=>k y (aK G p (.lst (ds.eraseIdx i.toNat))) |none=>False) |none=>False
 |_,_=>False
def q9(o:D)(as:List D)(G:DH)(k:D->DH->Prop):Prop:=
 match o,as with
 |.lst ds,[.bl true]=>match bools ds with |some bs=>k (.int (bs.count true:Nat)) G |none=>False
 |_,_=>False
def rm(o:D)(as:List D)(G:DH)(k:D->DH->Prop):Prop:=
 match o,as with
 |.lst ds,[.bl true]=>match bools ds with |some bs=>true∈bs/\k (.int (bs.idxOf true:Nat)) G |none=>False
 |_,_=>False
def xj:D->Prop
 |.lst _=>True
 |_=>False
def recv(m:Mf)(o:D)(G:DH):Prop:=
 match m,o with
 |.join,.str _=>True
 |.append,.ref p=>match G p with |some (.lst _)=>True |none=>False
 |.extend,.ref p=>match G p with |some (.lst _)=>True |none=>False
 |.insert,.ref p=>match G p with |some (.lst _)=>True |none=>False
 |.pop,.ref p=>match G p with |some (.lst _)=>True |none=>False
 |.count,o=>xj (view G o)
 |.index,o=>xj (view G o)
 |_,_=>False
noncomputable def opM:Mf->D->List D->DH->(D->DH->Prop)->Prop
 |.join,o,as,G,k=>qX o (as.map (view G)) G k
 |.append,o,as,G,k=>qY o as G k
 |.extend,o,as,G,k=>qZ o (as.map (view G)) G k
 |.insert,o,as,G,k=>q8 o as G k
 |.pop,o,as,G,k=>xg o as G k
 |.count,o,as,G,k=>q9 (view G o) as G k
 |.index,o,as,G,k=>rm (view G o) as G k
def fQ (C C':String):Bool:=C==C'||C'=="SieveError"||C'=="ValueError"
mutual
inductive Tg where
 |nm (i:Nat)
 |tp (ts:Tgs)
inductive Tgs where
 |nil
 |cons (t:Tg) (r:Tgs)
end
mutual
inductive Ex where
 |var (i:Nat)
 |cst (d:D)
 |glb (x:String) (d:D)
 |bin (op:Operator) (fz:Bool) (a b:Ex)
 |neg (a:Ex)
 |cmp (op:CmpOp) (a b:Ex)
 |chn (op op':CmpOp) (a b c:Ex)
 |not (a:Ex)
 |boo (isAnd:Bool) (e:Ex) (es:Exs)
 |ife (c:Tx) (a b:Ex)
 |tup (es:Exs)
 |lst (fz:Bool) (es:Exs)
 |idx (a i:Ex)
 |slc (fz:Bool) (a:Ex) (lo hi:Ox)
 |rvs (fz:Bool) (a s:Ex)
 |call (f:String) (es:Exs)
 |bcl (f:Bf) (es:Exs)
 |lcl (fz:Bool) (f:Lf) (es:Exs)
 |isi (a:Ex) (t:String)
 |isx (a:Ex) (C:String) (xs:List String)
 |fst (es:Exs)
 |rgl (fz:Bool) (a:Ex)
 |rgt (a:Ex)
 |rpl (f:String) (a b ix:Ex)
 |fld (C f:String) (o:Ex)
 |mcl (f C m:String) (o:Ex) (es:Exs)
 |mko (C:String) (es:Exs)
 |pp0 (o:Ex)
 |mth (m:Mf) (o:Ex) (es:Exs)
 |comp (fz:Bool) (elt:Ex) (tg:Tg) (it:It') (cond:Tx) (N:List String) (cap:List (Option Nat))
 |frz (a:Ex)
inductive Exs where
 |nil
 |cons (e:Ex) (es:Exs)
/-- a test -/
inductive Tx where
 |val (e:Ex)
 |not (t:Tx)
 |boo (isAnd:Bool) (t:Tx) (ts:Txs)
 |yes
inductive Txs where
 |nil
 |cons (t:Tx) (ts:Txs)
/-- a bound of a slice -/
inductive Ox where
 |no
 |ob (e:Ex)
/-- what a loop walks -/
inductive It' where
 |seq (e:Ex)
 |rng (a:Ex)
 |rng2 (a b:Ex)
 |rev (a:Ex)
 |dwn (a b c:Ex)
 |enm (e:Ex)
 |zip (a b:Ex)
end
inductive Tb where
 |call (f:String) (es:Exs)
 |asg (i:Nat) (f:String) (es:Exs)
 |pick (f g:String) (i:Nat) (es:Exs)
 |ite (c:Tx) (a b:Tb)
 |mcl (f C m:String) (o:Ex) (es:Exs)
 |mko (C:String) (es:Exs)
inductive Hd where
 |flag (i:Nat) (b:Bool)
 |bind (n i:Nat)
mutual
inductive Sx where
 |exp (e:Ex)
 |asg (t:Tg) (e:Ex)
 |set (o i e:Ex)
 |aug (i:Nat) (op:Operator) (e:Ex)
 |augs (o i:Ex) (op:Operator) (e:Ex)
 |ret (e:Ex)
 |rtn
 |ite (c:Tx) (a b:Sxs)
 |for_ (t:Tg) (it:It') (body:Sxs)
 |whl (c:Tx) (body:Sxs)
 |pas
 |brk
 |cnt
 |nev
 |rse (C:String) (es:Exs)
 |tryc (f:String) (es:Exs) (C:String) (i:Nat) (b:Bool)
 |tryx (b:Tb) (C:String) (h:Hd) (xs:List String)
inductive Sxs where
 |nil
 |cons (s:Sx) (r:Sxs)
end
structure Xn where
 cls:String
 fld:D
structure Spec where
 A:Type
 pre:List D->DH->A->Prop
 post:A->D->DH->Prop
 exc:A->Xn->DH->Prop
abbrev EK:=Xn->DH->Prop
def Spec.t(S:Spec)(ds:List D)(G:DH)(Q:D->DH->Prop)(E:EK):Prop:=
 ∃a,S.pre ds G a/\(∀d G',S.post a d G'->Q d G')/\∀x G',S.exc a x G'->E x G'
theorem Spec.mono{S:Spec}{ds:List D}{G:DH}{Q Q':D->DH->Prop}{E E':EK}(h:S.t ds G Q E)(hq:∀d G',Q d G'->Q' d G')(he:∀x G',E x G'->E' x G'):S.t ds G Q' E':=by obtain ⟨a,h1,h2,h3⟩:=h;exact ⟨a,h1,λd G' q=>hq _ _ (h2 d G' q),λx G' q=>he _ _ (h3 x G' q)⟩
abbrev aa:=String->Spec
def gD(C f:String)(d:D)(k:Addr->Prop):Prop:=match d with |.obj C' f' q=>C'=C/\f'=f/\k q |_=>False
def cX(C m:String)(d:D):Prop:=match d with |.obj C' f' _=>C'=C/\(Str.ofString m==Str.ofString f')=false |_=>False
def gF(d:D)(G:DH)(k:D->DH->Prop):Prop:=match d with |.ref p=>(match G p with |some (.lst ds)=>(match ds[ds.length - 1]? with |some y=>k y (aK G p (.lst ds.dropLast)) |none=>False) |none=>False) |_=>False
def xm(d:D)(k:List Nat->Prop):Prop:=match d with |.str l=>l.length<=1000/\k l |_=>False
def xq(i:D)(l:List Nat)(k:List Nat->Prop):Prop:=match i with |.int n=>(match atI [48,49] n with |some c=>k (l.map λa=>if a=42 then c else a) |none=>False) |_=>False
mutual
noncomputable def bc:Tg->D->ao->DH->(ao->Prop)->Prop
 |.nm i,d,ρ,_,k=>k (ρ.set i (some d))
 |.tp ts,d,ρ,G,k=>match d with |.tup ds=>bK ts ds ρ G k |.lst ds=>bK ts ds ρ G k |_=>False
noncomputable def bK:Tgs->List D->ao->DH->(ao->Prop)->Prop
 |.nil,ds,ρ,_,k=>match ds with |[]=>k ρ |_=>False
 |.cons t r,ds,ρ,G,k=>match ds with |d::ds=>bc t d ρ G (λρ'=>bK r ds ρ' G k) |[]=>False
end
abbrev Hld:=List (Addr×List D)
def held:Hld->DH->Prop
 |[],_=>True
 | (a,ds)::r,G=>G a=some (.lst ds)/\held r G
noncomputable def compLoop(step:D->ao->DH->(Option D->ao->DH->Prop)->Prop)(g:Hld):List D->List D->ao->DH->(List D->DH->Prop)->Prop
 |[],acc,_,G,k=>held g G/\acc.length<=sz/\k acc G
 |d::ds,acc,ρ,G,k=>held g G/\acc.length < sz/\step d ρ G (λo ρ' G'=>match o with |some y=>compLoop step g ds (acc++[y]) ρ' G' k |none=>compLoop step g ds acc ρ' G' k)
def dB:Nat->List D->List D
 |_,[]=>[]
 |i,d::ds=>.tup [.int i,d]::dB (i+1) ds
def bV:List D->List D->List D
 |a::as,b::bs=>.tup [a,b]::bV as bs
 |_,_=>[]
noncomputable def itemsOf(G:DH):D->Option (List D×Hld)
 |.lst ds=>some (ds,[])
 |.tup ds=>some (ds,[])
 |.str l=>some (l.map λc=>.str [c],[])
 |.ref p=>match G p with |some (.lst ds)=>some (ds,[(p,ds)]) |none=>none
 |_=>none
def aW(lo:Int)(n:Nat):List D:=(List.range n).map λi=>.int (lo+(i:Nat))
def rn(lo:Int)(n:Nat):List D:=(List.range n).map λi=>.int (lo - (i:Nat))
def noE:EK:=λ_ _=>False
mutual
def wpE(Φ:aa):Ex->EK->ao->DH->(D->DH->Prop)->Prop
 |.var i,_,ρ,G,k=>match ρ[i]? with |some (some d)=>k d G |_=>False
 |.cst d,_,_,G,k=>k d G
 |.glb _ d,_,_,G,k=>k d G
 |.bin op fz a b,E,ρ,G,k=>wpE Φ a E ρ G λx G1=>wpE Φ b E ρ G1 λy G2=>cC op fz (view G2 x) (view G2 y) G2 k
 |.neg a,E,ρ,G,k=>wpE Φ a E ρ G λx G1=>match x with |.int i=>k (.int (-i)) G1 |_=>False
 |.cmp op a b,E,ρ,G,k=>wpE Φ a E ρ G λx G1=>wpE Φ b E ρ G1 λy G2=>aY op (view G2 x) (view G2 y) λc=>k (.bl c) G2
 |.chn op op' a b c,E,ρ,G,k=>wpE Φ a E ρ G λx G1=>wpE Φ b E ρ G1 λy G2=>aY op (view G2 x) (view G2 y) λt=>
   match t with
   |true=>wpE Φ c E ρ G2 λz G3=>aY op' (view G3 y) (view G3 z) λt'=>k (.bl t') G3
   |false=>k (.bl false) G2
 |.not a,E,ρ,G,k=>wpE Φ a E ρ G λx G1=>match truth (view G1 x) with |some b=>k (.bl (!b)) G1 |none=>False
 |.boo isAnd e es,E,ρ,G,k=>wpE Φ e E ρ G λd G1=>match d with |.bl b=>wpB Φ es isAnd b E ρ G1 (λc G2=>k (.bl c) G2) |_=>False
 |.ife c a b,E,ρ,G,k=>wpT Φ c E ρ G λt G1=>match t with |true=>wpE Φ a E ρ G1 k |false=>wpE Φ b E ρ G1 k
 |.tup es,E,ρ,G,k=>aN Φ es E ρ G λds G1=>ds.length<=sz/\k (.tup ds) G1
 |.lst fz es,E,ρ,G,k=>aN Φ es E ρ G λds G1=>ds.length<=sz/\mk fz ds G1 k
 |.idx a i,E,ρ,G,k=>wpE Φ a E ρ G λx G1=>wpE Φ i E ρ G1 λy G2=>cD (view G2 x) y λd=>k d G2
 |.slc fz a lo hi,E,ρ,G,k=>wpE Φ a E ρ G λx G1=>wpO Φ lo E ρ G1 λl G2=>wpO Φ hi E ρ G2 λh G3=>dW fz (view G3 x) l h G3 k
 |.rvs fz a s,E,ρ,G,k=>wpE Φ a E ρ G λx G1=>wpE Φ s E ρ G1 λy G2=>jw fz (view G2 x) y G2 k
 |.call f es,E,ρ,G,k=>aN Φ es E ρ G λds G1=>(Φ f).t ds G1 k E
 |.bcl f es,E,ρ,G,k=>aN Φ es E ρ G λds G1=>opB f (ds.map (view G1)) λd=>k d G1
 |.lcl fz f es,E,ρ,G,k=>aN Φ es E ρ G λds G1=>cR f (ds.map (view G1)) λxs=>mk fz xs G1 k
 |.isi a t,E,ρ,G,k=>wpE Φ a E ρ G λx G1=>match isT t (view G1 x) with |some b=>k (.bl b) G1 |none=>False
 |.isx a C xs,E,ρ,G,k=>wpE Φ a E ρ G λx G1=>match x with |.exn c=>xs.contains c=true/\k (.bl (fQ c C)) G1 |_=>False
 |.fst es,E,ρ,G,k=>wpF Φ es E ρ G λl G1=>l.length<=sz/\k (.str l) G1
 |.rgl fz a,E,ρ,G,k=>wpE Φ a E ρ G λd G1=>match d with |.int n=>(0<=n/\n<=1000)/\mk fz (aW 0 n.toNat) G1 k |_=>False
 |.rpl f a b ix,E,ρ,G,k=>wpE Φ a E ρ G λda G1=>wpE Φ b E ρ G1 λdb G2=>cD (view G2 db) (.int 0) λd0=>(Φ f).t [da,d0] G2 (λd G3=>xm d λl=>wpE Φ ix E ρ G3 λi G4=>xq i l λm=>k (.str m) G4) E
 |.fld C f o,E,ρ,G,k=>wpE Φ o E ρ G λd G1=>gD C f d λq=>k (.ref q) G1
 |.mcl f C m o es,E,ρ,G,k=>wpE Φ o E ρ G λd G1=>cX C m d/\aN Φ es E ρ G1 λds G2=>(Φ f).t (d::ds) G2 k E
 |.mko C es,E,ρ,G,k=>aN Φ es E ρ G λds G1=>(Φ C).t ds G1 k E
 |.pp0 o,E,ρ,G,k=>wpE Φ o E ρ G λd G1=>gF d G1 k
 |.rgt a,E,ρ,G,k=>wpE Φ a E ρ G λd G1=>match d with |.int n=>(0<=n/\n<=1000)/\k (.tup (aW 0 n.toNat)) G1 |_=>False
 |.mth m o es,E,ρ,G,k=>wpE Φ o E ρ G λx G1=>recv m x G1/\aN Φ es E ρ G1 λds G2=>opM m x ds G2 k
 |.comp fz elt tg it cond _ cap,E,ρ,G,k=>wpI Φ it E ρ G λitems g G1=>
   compLoop (λd ρ' G' k'=>bc tg d ρ' G' λρ1=>wpT Φ cond noE ρ1 G' λb G2=>match b with |true=>wpE Φ elt noE ρ1 G2 λy G3=>k' (some y) ρ1 G3 |false=>k' none ρ1 G2)
    g items [] (cap.map λo=>match o with |none=>none |some j=>(ρ[j]?).join) G1 λds G2=>mk fz ds G2 k
 |.frz a,E,ρ,G,k=>wpE Φ a E ρ G λx G1=>match x with |.ref p=>(match G1 p with |some (.lst ds)=>k (.lst ds) (ir G1 p) |none=>False) |d=>k d G1
/-- a test -/
def wpT(Φ:aa):Tx->EK->ao->DH->(Bool->DH->Prop)->Prop
 |.not a,E,ρ,G,k=>wpT Φ a E ρ G λb G1=>k (!b) G1
 |.boo isAnd e es,E,ρ,G,k=>wpT Φ e E ρ G λb G1=>fU Φ es isAnd b E ρ G1 k
 |.yes,_,_,G,k=>k true G
 |.val x,E,ρ,G,k=>wpE Φ x E ρ G λd G1=>match truth (view G1 d) with |some b=>k b G1 |none=>False
def wpF(Φ:aa):Exs->EK->ao->DH->(List Nat->DH->Prop)->Prop
 |.nil,_,_,G,k=>k [] G
 |.cons e es,E,ρ,G,k=>wpE Φ e E ρ G λd G1=>match d with
  |.str l=>l.length<=1000/\wpF Φ es E ρ G1 λx G2=>k (l++x) G2
  |.int i=>(0<=i/\i < 100)/\wpF Φ es E ρ G1 λx G2=>k (gC i.toNat++x) G2
  |_=>False
def aN(Φ:aa):Exs->EK->ao->DH->(List D->DH->Prop)->Prop
 |.nil,_,_,G,k=>k [] G
 |.cons e es,E,ρ,G,k=>wpE Φ e E ρ G λd G1=>aN Φ es E ρ G1 λds G2=>k (d::ds) G2
/-- and,or as values:truths alone;b:the one ahead -/
def wpB(Φ:aa):Exs->Bool->Bool->EK->ao->DH->(Bool->DH->Prop)->Prop
 |.nil,_,b,_,_,G,k=>k b G
 |.cons e es,isAnd,b,E,ρ,G,k=>match isAnd,b with
  |true,false=>k false G
  |false,true=>k true G
  |_,_=>wpE Φ e E ρ G λd G1=>match d with |.bl b'=>wpB Φ es isAnd b' E ρ G1 k |_=>False
def fU(Φ:aa):Txs->Bool->Bool->EK->ao->DH->(Bool->DH->Prop)->Prop
 |.nil,_,b,_,_,G,k=>k b G
 |.cons e es,isAnd,b,E,ρ,G,k=>match isAnd,b with
  |true,false=>k false G
  |false,true=>k true G
  |_,_=>wpT Φ e E ρ G λb' G1=>fU Φ es isAnd b' E ρ G1 k
/-- a bound of a slice -/
def wpO(Φ:aa):Ox->EK->ao->DH->(Option Int->DH->Prop)->Prop
 |.no,_,_,G,k=>k none G
 |.ob x,E,ρ,G,k=>wpE Φ x E ρ G λd G1=>match d with |.int i=>k (some i) G1 |_=>False
def wpI(Φ:aa):It'->EK->ao->DH->(List D->Hld->DH->Prop)->Prop
 |.seq e,E,ρ,G,k=>wpE Φ e E ρ G λd G1=>match itemsOf G1 d with |some ds=>k ds.1 ds.2 G1 |none=>False
 |.rng a,E,ρ,G,k=>wpE Φ a E ρ G λd G1=>match d with |.int n=>(-(2 ^ 62)<=n/\n < 2 ^ 62)/\k (aW 0 n.toNat) [] G1 |_=>False
 |.rng2 a b,E,ρ,G,k=>wpE Φ a E ρ G λx G1=>wpE Φ b E ρ G1 λy G2=>match x,y with
  |.int m,.int n=>(-(2 ^ 62)<=m/\m < 2 ^ 62/\-(2 ^ 62)<=n/\n < 2 ^ 62)/\k (aW m (n - m).toNat) [] G2
  |_,_=>False
 |.rev a,E,ρ,G,k=>wpE Φ a E ρ G λd G1=>match d with |.int n=>(-(2 ^ 62)<=n/\n < 2 ^ 62)/\k (rn ((n.toNat:Int) - 1) n.toNat) [] G1 |_=>False
 |.dwn a b c,E,ρ,G,k=>wpE Φ a E ρ G λx G1=>wpE Φ b E ρ G1 λy G2=>wpE Φ c E ρ G2 λz G3=>match x,y,z with
  |.int m,.int n,.int s=>(s=-1/\-(2 ^ 62)<=m/\m < 2 ^ 62/\-(2 ^ 62)<=n/\n < 2 ^ 62)/\k (rn m (m - n).toNat) [] G3
  |_,_,_=>False
 |.enm e,E,ρ,G,k=>wpE Φ e E ρ G λd G1=>match itemsOf G1 d with |some ds=>k (dB 0 ds.1) ds.2 G1 |none=>False
 |.zip a b,E,ρ,G,k=>wpE Φ a E ρ G λx G1=>wpE Φ b E ρ G1 λy G2=>match itemsOf G2 x,itemsOf G2 y with |some ds,some es=>k (bV ds.1 es.1) (ds.2++es.2) G2 |_,_=>False
end
structure En where
 nx:ao->DH->Prop
 rt:D->DH->Prop
 bk:ao->DH->Prop
 ct:ao->DH->Prop
noncomputable def forLoop(step:D->ao->DH->(ao->DH->Prop)->Prop)(g:Hld):List D->ao->DH->(ao->DH->Prop)->Prop
 |[],ρ,G,k=>held g G/\k ρ G
 |d::ds,ρ,G,k=>held g G/\step d ρ G λρ' G'=>forLoop step g ds ρ' G' k
def whileLoop(test:ao->DH->(Bool->DH->Prop)->Prop)(body:ao->DH->(ao->DH->Prop)->Prop):Nat->ao->DH->(ao->DH->Prop)->Prop
 |0,_,_,_=>False
 |n+1,ρ,G,k=>test ρ G λb G1=>match b with |true=>body ρ G1 λρ' G'=>whileLoop test body n ρ' G' k |false=>k ρ G1
def dY(o i x:D)(G:DH)(k:DH->Prop):Prop:=
 match o,i with
 |.ref p,.int i=>match G p with |some (.lst ds)=>(match ixN ds.length i with |some j=>k (aK G p (.lst (ds.set j x))) |none=>False) |none=>False
 |_,_=>False
def dC(op:Operator)(a b:D)(k:D->Prop):Prop:=
 match op,a,b with
 |.Add,.int i,.int j=>k (.int (i+j))
 |.Add,.str x,.str y=>x.length+y.length<=sz/\k (.str (x++y))
 |.Sub,.int i,.int j=>k (.int (i - j))
 |_,_,_=>False
def rz:D->Bool
 |.int i=>decide (0<=i)&&decide (i < 100)
 |_=>false
def wpM(Φ:aa):Exs->EK->ao->DH->(DH->Prop)->Prop
 |.nil,_,_,G,k=>k G
 |.cons e es,E,ρ,G,k=>wpE Φ e E ρ G λd G1=>rz d=true/\wpM Φ es E ρ G1 k
def wpX(Φ:aa):Tb->ao->DH->(ao->DH->Prop)->(Xn->ao->DH->Prop)->Prop
 |.call f es,ρ,G,nx,ex=>aN Φ es noE ρ G λds G1=>(Φ f).t ds G1 (λ_ G2=>nx ρ G2) λx G2=>ex x ρ G2
 |.asg i f es,ρ,G,nx,ex=>aN Φ es noE ρ G λds G1=>(Φ f).t ds G1 (λd G2=>nx (ρ.set i (some d)) G2) λx G2=>ex x ρ G2
 |.pick f g i es,ρ,G,nx,ex=>wpE Φ (.var i) noE ρ G λd G1=>∃b:Bool,d=.int (if b then 1 else 0)/\aN Φ es noE ρ G1 λds G2=>(Φ (if b then g else f)).t ds G2 (λ_ G3=>nx ρ G3) λx G3=>ex x ρ G3
 |.ite c a b,ρ,G,nx,ex=>wpT Φ c noE ρ G λt G1=>match t with |true=>wpX Φ a ρ G1 nx ex |false=>wpX Φ b ρ G1 nx ex
 |.mcl f C m o es,ρ,G,nx,ex=>wpE Φ o noE ρ G λd G1=>cX C m d/\aN Φ es noE ρ G1 λds G2=>(Φ f).t (d::ds) G2 (λ_ G3=>nx ρ G3) λx G3=>ex x ρ G3
 |.mko C es,ρ,G,nx,ex=>aN Φ es noE ρ G λds G1=>(Φ C).t ds G1 (λ_ G2=>nx ρ G2) λx G2=>ex x ρ G2
def caught(h:Hd)(C:String)(ρ:ao):ao:=match h with
 |.flag i b=>ρ.set i (some (.bl b))
 |.bind n i=>((ρ.set n (some (.exn C))).set i (some (.exn C))).set n none
mutual
def wpS(Φ:aa):Sx->EK->ao->DH->En->Prop
 |.exp e,E,ρ,G,D=>wpE Φ e E ρ G λ_ G1=>D.nx ρ G1
 |.asg t e,E,ρ,G,D=>wpE Φ e E ρ G λd G1=>bc t d ρ G1 λρ'=>D.nx ρ' G1
 |.set o i e,E,ρ,G,D=>wpE Φ e E ρ G λx G1=>wpE Φ o E ρ G1 λa G2=>wpE Φ i E ρ G2 λy G3=>dY a y x G3 λG4=>D.nx ρ G4
 |.aug i op e,E,ρ,G,D=>match ρ[i]? with
  |some (some a)=>wpE Φ e E ρ G λb G1=>dC op a b λc=>D.nx (ρ.set i (some c)) G1
  |_=>False
 |.augs o i op e,E,ρ,G,D=>wpE Φ o E ρ G λa G1=>wpE Φ i E ρ G1 λy G2=>cD (view G2 a) y λold=>wpE Φ e E ρ G2 λb G3=>dC op old b λc=>dY a y c G3 λG4=>D.nx ρ G4
 |.ret e,E,ρ,G,D=>wpE Φ e E ρ G D.rt
 |.rtn,_,_,G,D=>D.rt .non G
 |.ite c a b,E,ρ,G,D=>wpT Φ c E ρ G λt G1=>match t with |true=>aq Φ a E ρ G1 D |false=>aq Φ b E ρ G1 D
 |.for_ t it body,E,ρ,G,D=>wpI Φ it E ρ G λitems g G1=>
   forLoop (λd ρ' G' k=>bc t d ρ' G' λρ1=>aq Φ body E ρ1 G' { D with nx:=k,ct:=k,bk:=D.nx }) g items ρ G1 D.nx
 |.whl c body,E,ρ,G,D=>∃n,whileLoop (λρ' G' k=>wpT Φ c E ρ' G' k) (λρ' G' k=>aq Φ body E ρ' G' { D with nx:=k,ct:=k,bk:=D.nx }) n ρ G D.nx
 |.pas,_,ρ,G,D=>D.nx ρ G
 |.brk,_,ρ,G,D=>D.bk ρ G
 |.cnt,_,ρ,G,D=>D.ct ρ G
 |.nev,_,_,_,_=>False
 |.rse C es,E,ρ,G,_=>wpM Φ es E ρ G λG1=>E ⟨C,.non⟩ G1
 |.tryc f es C i b,_,ρ,G,D=>aN Φ es noE ρ G λds G1=>(Φ f).t ds G1 (λ_ G2=>D.nx ρ G2) λx G2=>x.cls=C/\x.fld=.non/\D.nx (ρ.set i (some (.bl b))) G2
 |.tryx b C h xs,_,ρ,G,D=>wpX Φ b ρ G D.nx λx ρ' G'=>x.fld=.non/\xs.contains x.cls=true/\fQ x.cls C=true/\D.nx (caught h x.cls ρ') G'
def aq(Φ:aa):Sxs->EK->ao->DH->En->Prop
 |.nil,_,ρ,G,D=>D.nx ρ G
 |.cons s r,E,ρ,G,D=>wpS Φ s E ρ G { D with nx:=λρ' G'=>aq Φ r E ρ' G' D }
end
theorem rA{Φ:aa}{a}{E}{ρ}{G}{k}:wpT Φ (.not a) E ρ G k=(wpT Φ a E ρ G λb G1=>k (!b) G1):=rfl
theorem rB{Φ:aa}{isAnd}{e}{es}{E}{ρ}{G}{k}:wpT Φ (.boo isAnd e es) E ρ G k=(wpT Φ e E ρ G λb G1=>fU Φ es isAnd b E ρ G1 k):=rfl
theorem rD{Φ:aa}{E}{ρ}{G}{k}:wpT Φ .yes E ρ G k=(k true G):=rfl
theorem jx{Φ:aa}{x}{E}{ρ}{G}{k}:wpT Φ (.val x) E ρ G k=(wpE Φ x E ρ G λd G1=>match truth (view G1 d) with |some b=>k b G1 |none=>False):=rfl
theorem fV{Φ:aa}{E}{ρ}{G}{k}:aN Φ .nil E ρ G k=(k [] G):=rfl
theorem gG{Φ:aa}{e}{es}{E}{ρ}{G}{k}:aN Φ (.cons e es) E ρ G k=(wpE Φ e E ρ G λd G1=>aN Φ es E ρ G1 λds G2=>k (d::ds) G2):=rfl
theorem rE{Φ:aa}{isAnd:Bool}{b:Bool}{E}{ρ}{G}{k}:wpB Φ .nil isAnd b E ρ G k=(k b G):=rfl
theorem kE{Φ:aa}{e}{es}{isAnd:Bool}{b:Bool}{E}{ρ}{G}{k}:wpB Φ (.cons e es) isAnd b E ρ G k=(match isAnd,b with
  |true,false=>k false G
  |false,true=>k true G
  |_,_=>wpE Φ e E ρ G λd G1=>match d with |.bl b'=>wpB Φ es isAnd b' E ρ G1 k |_=>False):=rfl
theorem rF{Φ:aa}{isAnd:Bool}{b:Bool}{E}{ρ}{G}{k}:fU Φ .nil isAnd b E ρ G k=(k b G):=rfl
theorem kI{Φ:aa}{e}{es}{isAnd:Bool}{b:Bool}{E}{ρ}{G}{k}:fU Φ (.cons e es) isAnd b E ρ G k=(match isAnd,b with
  |true,false=>k false G
  |false,true=>k true G
  |_,_=>wpT Φ e E ρ G λb' G1=>fU Φ es isAnd b' E ρ G1 k):=rfl
theorem rG{Φ:aa}{E}{ρ}{G}{k}:wpO Φ .no E ρ G k=(k none G):=rfl
theorem rH{Φ:aa}{x}{E}{ρ}{G}{k}:wpO Φ (.ob x) E ρ G k=(wpE Φ x E ρ G λd G1=>match d with |.int i=>k (some i) G1 |_=>False):=rfl
theorem rJ{Φ:aa}{e}{E}{ρ}{G}{k}:wpI Φ (.seq e) E ρ G k=(wpE Φ e E ρ G λd G1=>match itemsOf G1 d with |some ds=>k ds.1 ds.2 G1 |none=>False):=rfl
theorem rK{Φ:aa}{a}{E}{ρ}{G}{k}:wpI Φ (.rng a) E ρ G k=(wpE Φ a E ρ G λd G1=>match d with |.int n=>(-(2 ^ 62)<=n/\n < 2 ^ 62)/\k (aW 0 n.toNat) [] G1 |_=>False):=rfl
theorem xr{Φ:aa}{a}{b}{E}{ρ}{G}{k}:wpI Φ (.rng2 a b) E ρ G k=(wpE Φ a E ρ G λx G1=>wpE Φ b E ρ G1 λy G2=>match x,y with
  |.int m,.int n=>(-(2 ^ 62)<=m/\m < 2 ^ 62/\-(2 ^ 62)<=n/\n < 2 ^ 62)/\k (aW m (n - m).toNat) [] G2
  |_,_=>False):=rfl
theorem xu{Φ:aa}{a}{E}{ρ}{G}{k}:wpI Φ (.rev a) E ρ G k=(wpE Φ a E ρ G λd G1=>match d with |.int n=>(-(2 ^ 62)<=n/\n < 2 ^ 62)/\k (rn ((n.toNat:Int) - 1) n.toNat) [] G1 |_=>False):=rfl
theorem xF{Φ:aa}{a}{b}{c}{E}{ρ}{G}{k}:wpI Φ (.dwn a b c) E ρ G k=(wpE Φ a E ρ G λx G1=>wpE Φ b E ρ G1 λy G2=>wpE Φ c E ρ G2 λz G3=>match x,y,z with
  |.int m,.int n,.int s=>(s=-1/\-(2 ^ 62)<=m/\m < 2 ^ 62/\-(2 ^ 62)<=n/\n < 2 ^ 62)/\k (rn m (m - n).toNat) [] G3
  |_,_,_=>False):=rfl
theorem rM{Φ:aa}{e}{E}{ρ}{G}{k}:wpI Φ (.enm e) E ρ G k=(wpE Φ e E ρ G λd G1=>match itemsOf G1 d with |some ds=>k (dB 0 ds.1) ds.2 G1 |none=>False):=rfl
theorem rN{Φ:aa}{a}{b}{E}{ρ}{G}{k}:wpI Φ (.zip a b) E ρ G k=(wpE Φ a E ρ G λx G1=>wpE Φ b E ρ G1 λy G2=>match itemsOf G2 x,itemsOf G2 y with |some ds,some es=>k (bV ds.1 es.1) (ds.2++es.2) G2 |_,_=>False):=rfl
theorem jy{Φ:aa}{E}{ρ}{G}{D}:aq Φ .nil E ρ G D=(D.nx ρ G):=rfl
theorem jz{Φ:aa}{s}{r}{E}{ρ}{G}{D}:aq Φ (.cons s r) E ρ G D=(wpS Φ s E ρ G { D with nx:=λρ' G'=>aq Φ r E ρ' G' D }):=rfl
theorem rO{Φ:aa}{i E ρ G k}:wpE Φ (.var i) E ρ G k=(match ρ[i]? with |some (some d)=>k d G |_=>False):=rfl
theorem iu{Φ:aa}{d E ρ G k}:wpE Φ (.cst d) E ρ G k=(k d G):=rfl
theorem rP{Φ:aa}{u0 d E ρ G k}:wpE Φ (.glb u0 d) E ρ G k=(k d G):=rfl
theorem rQ{Φ:aa}{op fz a b E ρ G k}:wpE Φ (.bin op fz a b) E ρ G k=(wpE Φ a E ρ G λx G1=>wpE Φ b E ρ G1 λy G2=>cC op fz (view G2 x) (view G2 y) G2 k):=rfl
theorem rR{Φ:aa}{a E ρ G k}:wpE Φ (.neg a) E ρ G k=(wpE Φ a E ρ G λx G1=>match x with |.int i=>k (.int (-i)) G1 |_=>False):=rfl
theorem kJ{Φ:aa}{op a b E ρ G k}:wpE Φ (.cmp op a b) E ρ G k=(wpE Φ a E ρ G λx G1=>wpE Φ b E ρ G1 λy G2=>aY op (view G2 x) (view G2 y) λc=>k (.bl c) G2):=rfl
theorem kO{Φ:aa}{op op' a b c E ρ G k}:wpE Φ (.chn op op' a b c) E ρ G k=(wpE Φ a E ρ G λx G1=>wpE Φ b E ρ G1 λy G2=>aY op (view G2 x) (view G2 y) λt=>
   match t with
   |true=>wpE Φ c E ρ G2 λz G3=>aY op' (view G3 y) (view G3 z) λt'=>k (.bl t') G3
   |false=>k (.bl false) G2):=rfl
theorem rT{Φ:aa}{a E ρ G k}:wpE Φ (.not a) E ρ G k=(wpE Φ a E ρ G λx G1=>match truth (view G1 x) with |some b=>k (.bl (!b)) G1 |none=>False):=rfl
theorem rW{Φ:aa}{isAnd e es E ρ G k}:wpE Φ (.boo isAnd e es) E ρ G k=(wpE Φ e E ρ G λd G1=>match d with |.bl b=>wpB Φ es isAnd b E ρ G1 (λc G2=>k (.bl c) G2) |_=>False):=rfl
theorem rY{Φ:aa}{c a b E ρ G k}:wpE Φ (.ife c a b) E ρ G k=(wpT Φ c E ρ G λt G1=>match t with |true=>wpE Φ a E ρ G1 k |false=>wpE Φ b E ρ G1 k):=rfl
theorem rZ{Φ:aa}{es E ρ G k}:wpE Φ (.tup es) E ρ G k=(aN Φ es E ρ G λds G1=>ds.length<=sz/\k (.tup ds) G1):=rfl
theorem sr{Φ:aa}{fz es E ρ G k}:wpE Φ (.lst fz es) E ρ G k=(aN Φ es E ρ G λds G1=>ds.length<=sz/\mk fz ds G1 k):=rfl
theorem su{Φ:aa}{a i E ρ G k}:wpE Φ (.idx a i) E ρ G k=(wpE Φ a E ρ G λx G1=>wpE Φ i E ρ G1 λy G2=>cD (view G2 x) y λd=>k d G2):=rfl
theorem xG{Φ:aa}{fz a s E ρ G k}:wpE Φ (.rvs fz a s) E ρ G k=(wpE Φ a E ρ G λx G1=>wpE Φ s E ρ G1 λy G2=>jw fz (view G2 x) y G2 k):=rfl
theorem sy{Φ:aa}{fz a lo hi E ρ G k}:wpE Φ (.slc fz a lo hi) E ρ G k=(wpE Φ a E ρ G λx G1=>wpO Φ lo E ρ G1 λl G2=>wpO Φ hi E ρ G2 λh G3=>dW fz (view G3 x) l h G3 k):=rfl
theorem sE{Φ:aa}{f es E ρ G k}:wpE Φ (.call f es) E ρ G k=(aN Φ es E ρ G λds G1=>(Φ f).t ds G1 k E):=rfl
theorem sG{Φ:aa}{f es E ρ G k}:wpE Φ (.bcl f es) E ρ G k=(aN Φ es E ρ G λds G1=>opB f (ds.map (view G1)) λd=>k d G1):=rfl
theorem sH{Φ:aa}{fz f es E ρ G k}:wpE Φ (.lcl fz f es) E ρ G k=(aN Φ es E ρ G λds G1=>cR f (ds.map (view G1)) λxs=>mk fz xs G1 k):=rfl
theorem sI{Φ:aa}{a t E ρ G k}:wpE Φ (.isi a t) E ρ G k=(wpE Φ a E ρ G λx G1=>match isT t (view G1 x) with |some b=>k (.bl b) G1 |none=>False):=rfl
theorem xH{Φ:aa}{a C xs E ρ G k}:wpE Φ (.isx a C xs) E ρ G k=(wpE Φ a E ρ G λx G1=>match x with |.exn c=>xs.contains c=true/\k (.bl (fQ c C)) G1 |_=>False):=rfl
theorem xJ{Φ:aa}{fz a E ρ G k}:wpE Φ (.rgl fz a) E ρ G k=(wpE Φ a E ρ G λd G1=>match d with |.int n=>(0<=n/\n<=1000)/\mk fz (aW 0 n.toNat) G1 k |_=>False):=rfl
theorem aaG{Φ:aa}{f a b ix E ρ G k}:wpE Φ (.rpl f a b ix) E ρ G k=(wpE Φ a E ρ G λda G1=>wpE Φ b E ρ G1 λdb G2=>cD (view G2 db) (.int 0) λd0=>(Φ f).t [da,d0] G2 (λd G3=>xm d λl=>wpE Φ ix E ρ G3 λi G4=>xq i l λm=>k (.str m) G4) E):=rfl
theorem sJ{Φ:aa}{C f o E ρ G k}:wpE Φ (.fld C f o) E ρ G k=(wpE Φ o E ρ G λd G1=>gD C f d λq=>k (.ref q) G1):=rfl
theorem sO{Φ:aa}{f C m o es E ρ G k}:wpE Φ (.mcl f C m o es) E ρ G k=(wpE Φ o E ρ G λd G1=>cX C m d/\aN Φ es E ρ G1 λds G2=>(Φ f).t (d::ds) G2 k E):=rfl
theorem sS{Φ:aa}{C es E ρ G k}:wpE Φ (.mko C es) E ρ G k=(aN Φ es E ρ G λds G1=>(Φ C).t ds G1 k E):=rfl
theorem sU{Φ:aa}{o E ρ G k}:wpE Φ (.pp0 o) E ρ G k=(wpE Φ o E ρ G λd G1=>gF d G1 k):=rfl
theorem xK{Φ:aa}{a E ρ G k}:wpE Φ (.rgt a) E ρ G k=(wpE Φ a E ρ G λd G1=>match d with |.int n=>(0<=n/\n<=1000)/\k (.tup (aW 0 n.toNat)) G1 |_=>False):=rfl
theorem xM{Φ:aa}{es E ρ G k}:wpE Φ (.fst es) E ρ G k=(wpF Φ es E ρ G λl G1=>l.length<=sz/\k (.str l) G1):=rfl
theorem xN{Φ:aa}{E ρ G k}:wpF Φ .nil E ρ G k=k [] G:=rfl
theorem xO{Φ:aa}{e es E ρ G k}:wpF Φ (.cons e es) E ρ G k=(wpE Φ e E ρ G λd G1=>match d with
  |.str l=>l.length<=1000/\wpF Φ es E ρ G1 λx G2=>k (l++x) G2
  |.int i=>(0<=i/\i < 100)/\wpF Φ es E ρ G1 λx G2=>k (gC i.toNat++x) G2
  |_=>False):=rfl
theorem eU{Φ:aa}{m o es E ρ G k}:wpE Φ (.mth m o es) E ρ G k=(wpE Φ o E ρ G λx G1=>recv m x G1/\aN Φ es E ρ G1 λds G2=>opM m x ds G2 k):=rfl
theorem sV{Φ:aa}{a E ρ G k}:wpE Φ (.frz a) E ρ G k=(wpE Φ a E ρ G λx G1=>match x with |.ref p=>(match G1 p with |some (.lst ds)=>k (.lst ds) (ir G1 p) |none=>False) |d=>k d G1):=rfl
theorem sW{Φ:aa}{e E ρ G D}:wpS Φ (.exp e) E ρ G D=(wpE Φ e E ρ G λ_ G1=>D.nx ρ G1):=rfl
theorem jA{Φ:aa}{t e E ρ G D}:wpS Φ (.asg t e) E ρ G D=(wpE Φ e E ρ G λd G1=>bc t d ρ G1 λρ'=>D.nx ρ' G1):=rfl
theorem sX{Φ:aa}{o i e E ρ G D}:wpS Φ (.set o i e) E ρ G D=(wpE Φ e E ρ G λx G1=>wpE Φ o E ρ G1 λa G2=>wpE Φ i E ρ G2 λy G3=>dY a y x G3 λG4=>D.nx ρ G4):=rfl
theorem sY{Φ:aa}{i op e E ρ G D}:wpS Φ (.aug i op e) E ρ G D=(match ρ[i]? with
  |some (some a)=>wpE Φ e E ρ G λb G1=>dC op a b λc=>D.nx (ρ.set i (some c)) G1
  |_=>False):=rfl
theorem xP{Φ:aa}{o i op e E ρ G D}:wpS Φ (.augs o i op e) E ρ G D=(wpE Φ o E ρ G λa G1=>wpE Φ i E ρ G1 λy G2=>cD (view G2 a) y λold=>wpE Φ e E ρ G2 λb G3=>dC op old b λc=>dY a y c G3 λG4=>D.nx ρ G4):=rfl
theorem sZ{Φ:aa}{e E ρ G D}:wpS Φ (.ret e) E ρ G D=(wpE Φ e E ρ G D.rt):=rfl
theorem tu{Φ:aa}{E ρ G D}:wpS Φ .rtn E ρ G D=(D.rt .non G):=rfl
theorem tB{Φ:aa}{c a b E ρ G D}:wpS Φ (.ite c a b) E ρ G D=(wpT Φ c E ρ G λt G1=>match t with |true=>aq Φ a E ρ G1 D |false=>aq Φ b E ρ G1 D):=rfl
theorem tD{Φ:aa}{E ρ G D}:wpS Φ .pas E ρ G D=(D.nx ρ G):=rfl
theorem tH{Φ:aa}{E ρ G D}:wpS Φ .brk E ρ G D=(D.bk ρ G):=rfl
theorem tM{Φ:aa}{E ρ G D}:wpS Φ .cnt E ρ G D=(D.ct ρ G):=rfl
theorem kW{Φ:aa}{C es E ρ G D}:wpS Φ (.rse C es) E ρ G D=(wpM Φ es E ρ G λG1=>E ⟨C,.non⟩ G1):=rfl
theorem xQ{Φ:aa}{E ρ G k}:wpM Φ .nil E ρ G k=k G:=rfl
theorem tQ{Φ:aa}{e es E ρ G k}:wpM Φ (.cons e es) E ρ G k=(wpE Φ e E ρ G λd G1=>rz d=true/\wpM Φ es E ρ G1 k):=rfl
theorem xR{Φ:aa}{f es C i b E ρ G D}:wpS Φ (.tryc f es C i b) E ρ G D=(aN Φ es noE ρ G λds G1=>(Φ f).t ds G1 (λ_ G2=>D.nx ρ G2) λx G2=>x.cls=C/\x.fld=.non/\D.nx (ρ.set i (some (.bl b))) G2):=rfl
theorem tR{Φ:aa}{b C h xs E ρ G D}:wpS Φ (.tryx b C h xs) E ρ G D=(wpX Φ b ρ G D.nx λx ρ' G'=>x.fld=.non/\xs.contains x.cls=true/\fQ x.cls C=true/\D.nx (caught h x.cls ρ') G'):=rfl
theorem xT{Φ:aa}{f g i es ρ G nx ex}:wpX Φ (.pick f g i es) ρ G nx ex=(wpE Φ (.var i) noE ρ G λd G1=>∃b:Bool,d=.int (if b then 1 else 0)/\aN Φ es noE ρ G1 λds G2=>(Φ (if b then g else f)).t ds G2 (λ_ G3=>nx ρ G3) λx G3=>ex x ρ G3):=rfl
theorem tU{Φ:aa}{f C m o es ρ G nx ex}:wpX Φ (.mcl f C m o es) ρ G nx ex=(wpE Φ o noE ρ G λd G1=>cX C m d/\aN Φ es noE ρ G1 λds G2=>(Φ f).t (d::ds) G2 (λ_ G3=>nx ρ G3) λx G3=>ex x ρ G3):=rfl
theorem xU{Φ:aa}{C es ρ G nx ex}:wpX Φ (.mko C es) ρ G nx ex=(aN Φ es noE ρ G λds G1=>(Φ C).t ds G1 (λ_ G2=>nx ρ G2) λx G2=>ex x ρ G2):=rfl
theorem xV{Φ:aa}{f es ρ G nx ex}:wpX Φ (.call f es) ρ G nx ex=(aN Φ es noE ρ G λds G1=>(Φ f).t ds G1 (λ_ G2=>nx ρ G2) λx G2=>ex x ρ G2):=rfl
theorem xW{Φ:aa}{i f es ρ G nx ex}:wpX Φ (.asg i f es) ρ G nx ex=(aN Φ es noE ρ G λds G1=>(Φ f).t ds G1 (λd G2=>nx (ρ.set i (some d)) G2) λx G2=>ex x ρ G2):=rfl
theorem xX{Φ:aa}{c a b ρ G nx ex}:wpX Φ (.ite c a b) ρ G nx ex=(wpT Φ c noE ρ G λt G1=>match t with |true=>wpX Φ a ρ G1 nx ex |false=>wpX Φ b ρ G1 nx ex):=rfl
theorem tV{Φ:aa}{E ρ G D}:wpS Φ .nev E ρ G D=(False):=rfl
theorem xY{Φ:aa}{fz elt tg it cond N cap E ρ G k}:wpE Φ (.comp fz elt tg it cond N cap) E ρ G k=(wpI Φ it E ρ G λitems g G1=>
   compLoop (λd ρ' G' k'=>bc tg d ρ' G' λρ1=>wpT Φ cond noE ρ1 G' λb G2=>match b with |true=>wpE Φ elt noE ρ1 G2 λy G3=>k' (some y) ρ1 G3 |false=>k' none ρ1 G2)
    g items [] (cap.map λo=>match o with |none=>none |some j=>(ρ[j]?).join) G1 λds G2=>mk fz ds G2 k):=rfl
theorem Fb{Φ:aa}{t it body E ρ G D}:wpS Φ (.for_ t it body) E ρ G D=(wpI Φ it E ρ G λitems g G1=>
   forLoop (λd ρ' G' k=>bc t d ρ' G' λρ1=>aq Φ body E ρ1 G' { D with nx:=k,ct:=k,bk:=D.nx }) g items ρ G1 D.nx):=rfl
theorem aaH{Φ:aa}{c body E ρ G D}:wpS Φ (.whl c body) E ρ G D=(∃n,whileLoop (λρ' G' k=>wpT Φ c E ρ' G' k) (λρ' G' k=>aq Φ body E ρ' G' { D with nx:=k,ct:=k,bk:=D.nx }) n ρ G D.nx):=rfl
section
variable {k k':D->DH->Prop} {G:DH}
theorem dD{fz:Bool}{xs:List D}(h:∀d G',k d G'->k' d G')(q:mk fz xs G k):mk fz xs G k':=by
 cases fz with
 |true=>exact h _ _ q
 |false=>exact λp hp=>h _ _ (q p hp)
theorem Fd{a b:D}{p:Int->Int->Prop}(h:gB a b p):∃i j,a=.int i/\b=.int j/\p i j:=by
 cases a with
 |int i=>cases b with
  |int j=>exact ⟨i,j,rfl,rfl,h⟩
  |_=>exact h.elim
 |_=>exact h.elim
theorem tW{a b:D}{p q:Int->Int->Prop}(h:∀i j,p i j->q i j)(z:gB a b p):gB a b q:=by obtain ⟨i,j,rfl,rfl,z⟩:=Fd z;exact h i j z
theorem Fe{op:Operator}{fz:Bool}{a b:D}(h:∀d G',k d G'->k' d G')(q:cC op fz a b G k):cC op fz a b G k':=by
 cases op with
 |Add=>
  have q:jl fz a b G k:=q;show jl fz a b G k';unfold jl at q ⊢;cases a with
  |int i=>cases b <;> first |exact h _ _ q |exact q
  |str i=>cases b <;> first |exact ⟨q.1,h _ _ q.2⟩ |exact q
  |lst i=>cases b <;> first |exact ⟨q.1,dD h q.2⟩ |exact q
  |tup i=>cases b <;> first |exact ⟨q.1,h _ _ q.2⟩ |exact q
  |_=>exact q
 |Sub=>exact tW (λ_ _ z=>h _ _ z) q
 |Mult=>
  have q:jm fz a b G k:=q;show jm fz a b G k';unfold jm at q ⊢;cases b with
  |int n=>cases a <;> first |exact ⟨q.1,h _ _ q.2⟩ |exact ⟨q.1,q.2.1,q.2.2.1,h _ _ q.2.2.2⟩ |exact ⟨q.1,q.2.1,q.2.2.1,dD h q.2.2.2⟩ |exact ⟨q.1,q.2.1,q.2.2.1,q.2.2.2.1,h _ _ q.2.2.2.2⟩ |exact q
  |_=>exact q
 |FloorDiv=>exact tW (λ_ _ z=>⟨z.1,h _ _ z.2⟩) q
 |Mod=>exact tW (λ_ _ z=>⟨z.1,h _ _ z.2⟩) q
 |Pow=>exact tW (λ_ _ z=>⟨z.1,h _ _ z.2⟩) q
 |_=>exact q
theorem Ff{a b:D}{k k':Bool->Prop}(h:∀c,k c->k' c)(q:fO a b k):fO a b k':=by
 unfold fO at q ⊢;split at q
 ·split at q
  ·exact h _ q
  ·exact q
 ·exact ⟨q.1,h _ q.2⟩
 ·exact ⟨q.1,h _ q.2⟩
 ·exact q
theorem iw{op:CmpOp}{a b:D}{k k':Bool->Prop}(h:∀c,k c->k' c)(q:aY op a b k):aY op a b k':=by
 cases op with
 |Eq=>exact ⟨q.1,h _ q.2⟩
 |NotEq=>exact ⟨q.1,h _ q.2⟩
 |Lt=>have q:jn a b k:=q;show jn a b k';unfold jn at q ⊢;split at q <;> first |exact h _ q |exact q
 |LtE=>have q:jo a b k:=q;show jo a b k';unfold jo at q ⊢;split at q <;> first |exact h _ q |exact q
 |Gt=>have q:jq a b k:=q;show jq a b k';unfold jq at q ⊢;split at q <;> first |exact h _ q |exact q
 |GtE=>have q:jr a b k:=q;show jr a b k';unfold jr at q ⊢;split at q <;> first |exact h _ q |exact q
 |Is=>
  have q:jt a b k:=q;show jt a b k';unfold jt at q ⊢;split at q
  ·exact h _ q
  ·split at q
   ·exact h _ q
   ·exact q
  ·exact q
 |IsNot=>
  have q:ju a b k:=q;show ju a b k';unfold ju at q ⊢;split at q
  ·exact h _ q
  ·split at q
   ·exact h _ q
   ·exact q
  ·exact q
 |In=>exact Ff h q
 |NotIn=>exact Ff (λc=>h _) q
theorem tX{a i:D}{k k':D->Prop}(h:∀c,k c->k' c)(q:cD a i k):cD a i k':=by
 unfold cD at q ⊢;split at q
 ·split at q
  ·exact h _ q
  ·exact q
 ·split at q
  ·exact h _ q
  ·exact q
 ·split at q
  ·exact h _ q
  ·exact q
 ·exact q
theorem Fg{fz:Bool}{a:D}{lo hi:Option Int}(h:∀d G',k d G'->k' d G')(q:dW fz a lo hi G k):dW fz a lo hi G k':=by
 unfold dW at q ⊢;split at q <;> first
  |exact dD h q
  |exact h _ _ q
  |exact q.elim
theorem aaI{fz:Bool}{a y:D}(h:∀d G',k d G'->k' d G')(q:jw fz a y G k):jw fz a y G k':=by
 unfold jw at q ⊢;split at q
 ·exact ⟨q.1,dD h q.2⟩
 ·exact q.elim
theorem Fi{f:Bf}{as:List D}{k k':D->Prop}(h:∀c,k c->k' c)(q:opB f as k):opB f as k':=by
 cases f with
 |len=>simp only[opB,wX]at q ⊢;split at q <;> first |exact h _ q |exact q.elim
 |all=>
  simp only[opB,qT]at q ⊢;split at q
  ·split at q
   ·exact h _ q
   ·exact q
  ·exact q
 |int=>
  simp only[opB,qU]at q ⊢;split at q
  ·exact h _ q
  ·exact h _ q
  ·split at q
   ·exact ⟨q.1,h _ q.2⟩
   ·exact q
  ·exact q
 |tuple=>simp only[opB,wY]at q ⊢;split at q <;> first |exact h _ q |exact q.elim
 |sum=>
  simp only[opB,wZ]at q ⊢;split at q
  ·split at q
   ·exact h _ q
   ·exact q
  ·exact q
 |min=>
  simp only[opB,km]at q ⊢;split at q
  ·split at q
   ·exact ⟨q.1,λm h1 h2=>h _ (q.2 m h1 h2)⟩
   ·split at q
    ·exact λm h1 h2=>h _ (q m h1 h2)
    ·exact q
  ·exact q
 |max=>simp only[opB,EY]at q ⊢;split at q <;> first |exact h _ q |exact q.elim
 |abs=>simp only[opB,Ey]at q ⊢;split at q <;> first |exact h _ q |exact q.elim
 |min2=>simp only[opB,Ez]at q ⊢;split at q <;> first |exact h _ q |exact q.elim
 |str=>
  simp only[opB,w5]at q ⊢;split at q
  ·exact ⟨q.1,h _ q.2⟩
  ·exact q
theorem Fj{f:Lf}{as:List D}{k k':List D->Prop}(h:∀c,k c->k' c)(q:cR f as k):cR f as k':=by
 cases f with
 |list=>simp only[cR,xf]at q ⊢;split at q <;> first |exact h _ q |exact q.elim
 |sorted=>
  simp only[cR,qW]at q ⊢;split at q
  ·split at q
   ·exact ⟨q.1,λls p z=>h _ (q.2 ls p z)⟩
   ·exact q
  ·split at q
   ·exact ⟨q.1,λls p z=>h _ (q.2 ls p z)⟩
   ·exact q
  ·exact q
theorem gH{m:Mf}{o:D}{as:List D}(h:∀d G',k d G'->k' d G')(q:opM m o as G k):opM m o as G k':=by
 cases m with
 |join=>
  simp only[opM,qX]at q ⊢;split at q
  ·split at q
   ·exact ⟨q.1,h _ _ q.2⟩
   ·exact q
  ·exact q
 |append=>
  simp only[opM,qY]at q ⊢;split at q
  ·split at q
   ·exact ⟨q.1,h _ _ q.2⟩
   ·exact q
  ·exact q
 |extend=>
  simp only[opM,qZ]at q ⊢;split at q
  ·split at q
   ·exact ⟨q.1,h _ _ q.2⟩
   ·exact q
  ·exact q
 |insert=>
  simp only[opM,q8]at q ⊢;split at q
  ·split at q
   ·exact ⟨q.1,q.2.1,q.2.2.1,h _ _ q.2.2.2⟩
   ·exact q
  ·exact q
 |pop=>
  simp only[opM,xg]at q ⊢;split at q
  ·split at q
   ·refine ⟨q.1,q.2.1,?_⟩;have q2:=q.2.2;split at q2
    ·exact h _ _ q2
    ·exact q2
   ·exact q
  ·exact q
 |count=>
  simp only[opM,q9]at q ⊢;split at q
  ·split at q
   ·exact h _ _ q
   ·exact q
  ·exact q
 |index=>
  simp only[opM,rm]at q ⊢;split at q
  ·split at q
   ·exact ⟨q.1,h _ _ q.2⟩
   ·exact q
  ·exact q
theorem xZ{o i x:D}{k k':DH->Prop}(h:∀G',k G'->k' G')(q:dY o i x G k):dY o i x G k':=by
 unfold dY at q ⊢;split at q
 ·split at q
  ·split at q
   ·exact h _ q
   ·exact q
  ·exact q
 ·exact q
theorem yc{op:Operator}{a b:D}{k k':D->Prop}(h:∀c,k c->k' c)(q:dC op a b k):dC op a b k':=by
 unfold dC at q ⊢;split at q <;> first
  |exact h _ q
  |exact ⟨q.1,h _ q.2⟩
  |exact q.elim
mutual
theorem fW{k k':ao->Prop}(h:∀ρ,k ρ->k' ρ):∀(t:Tg){d:D}{ρ:ao},bc t d ρ G k->bc t d ρ G k'
 |.nm i,d,ρ,q=>h _ q
 |.tp ts,d,ρ,q=>by
  unfold bc at q ⊢;split at q
  ·exact yd h ts q
  ·exact yd h ts q
  ·exact q
theorem yd{k k':ao->Prop}(h:∀ρ,k ρ->k' ρ):∀(ts:Tgs){ds:List D}{ρ:ao},bK ts ds ρ G k->bK ts ds ρ G k'
 |.nil,ds,ρ,q=>by
  unfold bK at q ⊢;split at q
  ·exact h _ q
  ·exact q
 |.cons t r,ds,ρ,q=>by
  unfold bK at q ⊢;split at q
  ·exact fW (λρ' q'=>yd h r q') t q
  ·exact q
end
theorem tY{step step':D->ao->DH->(Option D->ao->DH->Prop)->Prop}(hs:∀d ρ G (k k':Option D->ao->DH->Prop),(∀o ρ' G',k o ρ' G'->k' o ρ' G')->step d ρ G k->step' d ρ G k')
  {g:Hld} {k k':List D->DH->Prop} (h:∀ds G',k ds G'->k' ds G'):∀(ds acc:List D)(ρ:ao)(G:DH),compLoop step g ds acc ρ G k->compLoop step' g ds acc ρ G k'
 |[],acc,ρ,G,q=>⟨q.1,q.2.1,h _ _ q.2.2⟩
 |d::ds,acc,ρ,G,q=>by
  refine ⟨q.1,q.2.1,hs d ρ G _ _ (λo ρ' G' z=>?_) q.2.2⟩;cases o with
  |some y=>exact tY hs h ds (acc++[y]) ρ' G' z
  |none=>exact tY hs h ds acc ρ' G' z
theorem Fl{step step':D->ao->DH->(ao->DH->Prop)->Prop}(hs:∀d ρ G (k k':ao->DH->Prop),(∀ρ' G',k ρ' G'->k' ρ' G')->step d ρ G k->step' d ρ G k')
  {g:Hld} {k k':ao->DH->Prop} (h:∀ρ G',k ρ G'->k' ρ G'):∀(ds:List D)(ρ:ao)(G:DH),forLoop step g ds ρ G k->forLoop step' g ds ρ G k'
 |[],ρ,G,q=>⟨q.1,h _ _ q.2⟩
 |d::ds,ρ,G,q=>⟨q.1,hs d ρ G _ _ (λρ' G' z=>Fl hs h ds ρ' G' z) q.2⟩
theorem Fp{test test':ao->DH->(Bool->DH->Prop)->Prop}{body body':ao->DH->(ao->DH->Prop)->Prop}
  (ht:∀ρ G (k k':Bool->DH->Prop),(∀b G',k b G'->k' b G')->test ρ G k->test' ρ G k') (hb:∀ρ G (k k':ao->DH->Prop),(∀ρ' G',k ρ' G'->k' ρ' G')->body ρ G k->body' ρ G k')
  {k k':ao->DH->Prop} (h:∀ρ G',k ρ G'->k' ρ G'):∀(n:Nat)(ρ:ao)(G:DH),whileLoop test body n ρ G k->whileLoop test' body' n ρ G k'
 |0,ρ,G,q=>q
 |n+1,ρ,G,q=>ht ρ G _ _ (λb G' z=>by
   cases b with
   |true=>exact hb ρ G' _ _ (λρ' G'' z'=>Fp ht hb h n ρ' G'' z') z
   |false=>exact h _ _ z) q
end
section
variable {Φ:aa} {G:DH}
mutual
theorem aG{E:EK}{ρ:ao}:∀(x:Ex){G:DH}{k k':D->DH->Prop},(∀d G',k d G'->k' d G')->wpE Φ x E ρ G k->wpE Φ x E ρ G k'
 |.var i,G,k,k',h,q=>by
  rw[rO]at q ⊢;split at q
  ·exact h _ _ q
  ·exact q
 |.cst d,G,k,k',h,q=>by rw[iu]at q ⊢;exact h _ _ q
 |.glb x d,G,k,k',h,q=>by rw[rP]at q ⊢;exact h _ _ q
 |.bin op fz a b,G,k,k',h,q=>by
  rw[rQ]at q ⊢;exact aG a (λ_ _ q=>aG b (λ_ _ q=>Fe h q) q) q
 |.neg a,G,k,k',h,q=>by
  rw[rR]at q ⊢;refine aG a (λx _ q=>?_) q;split at q
  ·exact h _ _ q
  ·exact q
 |.cmp op a b,G,k,k',h,q=>by
  rw[kJ]at q ⊢;exact aG a (λ_ _ q=>aG b (λ_ _ q=>iw (λ_ q=>h _ _ q) q) q) q
 |.chn op op' a b c,G,k,k',h,q=>by
  rw[kO]at q ⊢;refine aG a (λ_ _ q=>aG b (λ_ _ q=>iw (λt q=>?_) q) q) q;cases t with
  |true=>exact aG c (λ_ _ q=>iw (λ_ q=>h _ _ q) q) q
  |false=>exact h _ _ q
 |.not a,G,k,k',h,q=>by
  rw[rT]at q ⊢;refine aG a (λx _ q=>?_) q;split at q
  ·exact h _ _ q
  ·exact q
 |.boo isAnd e es,G,k,k',h,q=>by
  rw[rW]at q ⊢;refine aG e (λx _ q=>?_) q;split at q
  ·exact tZ es (λ_ _ q=>h _ _ q) q
  ·exact q
 |.ife c a b,G,k,k',h,q=>by
  rw[rY]at q ⊢;refine du c (λt _ q=>?_) q;cases t with
  |true=>exact aG a h q
  |false=>exact aG b h q
 |.tup es,G,k,k',h,q=>by
  rw[rZ]at q ⊢;exact cF es (λ_ _ q=>⟨q.1,h _ _ q.2⟩) q
 |.lst fz es,G,k,k',h,q=>by
  rw[sr]at q ⊢;exact cF es (λ_ _ q=>⟨q.1,dD h q.2⟩) q
 |.idx a i,G,k,k',h,q=>by
  rw[su]at q ⊢;exact aG a (λ_ _ q=>aG i (λ_ _ q=>tX (λ_ q=>h _ _ q) q) q) q
 |.slc fz a lo hi,G,k,k',h,q=>by
  rw[sy]at q ⊢;exact aG a (λ_ _ q=>yf lo (λ_ _ q=>yf hi (λ_ _ q=>Fg h q) q) q) q
 |.rvs fz a s,G,k,k',h,q=>by
  rw[xG]at q ⊢;exact aG a (λ_ _ q=>aG s (λ_ _ q=>aaI h q) q) q
 |.call f es,G,k,k',h,q=>by
  rw[sE]at q ⊢;exact cF es (λ_ _ q=>Spec.mono q h λ_ _ z=>z) q
 |.bcl f es,G,k,k',h,q=>by
  rw[sG]at q ⊢;exact cF es (λ_ _ q=>Fi (λ_ q=>h _ _ q) q) q
 |.lcl fz f es,G,k,k',h,q=>by
  rw[sH]at q ⊢;exact cF es (λ_ _ q=>Fj (λ_ q=>dD h q) q) q
 |.isi a t,G,k,k',h,q=>by
  rw[sI]at q ⊢;refine aG a (λx _ q=>?_) q;split at q
  ·exact h _ _ q
  ·exact q
 |.isx a C xs,G,k,k',h,q=>by
  rw[xH]at q ⊢;refine aG a (λx _ q=>?_) q;split at q
  ·exact ⟨q.1,h _ _ q.2⟩
  ·exact q
 |.rgl fz a,G,k,k',h,q=>by
  rw[xJ]at q ⊢;refine aG a (λd _ q=>?_) q;split at q
  ·exact ⟨q.1,dD h q.2⟩
  ·exact q
 |.rpl f a b ix,G,k,k',h,q=>by
  rw[aaG]at q ⊢;refine aG a (λ_ _ q=>aG b (λ_ _ q=>tX (λ_ q=>Spec.mono q (λd G3 q=>?_) λ_ _ z=>z) q) q) q;unfold xm at q ⊢;split at q
  ·refine ⟨q.1,aG ix (λi G4 q=>?_) q.2⟩;unfold xq at q ⊢;split at q
   ·split at q
    ·exact h _ _ q
    ·exact q
   ·exact q
  ·exact q
 |.fld C f o,G,k,k',h,q=>by
  rw[sJ]at q ⊢;refine aG o (λd _ q=>?_) q;unfold gD at q ⊢;split at q
  ·exact ⟨q.1,q.2.1,h _ _ q.2.2⟩
  ·exact q
 |.mcl f C m o es,G,k,k',h,q=>by
  rw[sO]at q ⊢;exact aG o (λd _ q=>⟨q.1,cF es (λ_ _ q=>Spec.mono q h λ_ _ z=>z) q.2⟩) q
 |.mko C es,G,k,k',h,q=>by
  rw[sS]at q ⊢;exact cF es (λ_ _ q=>Spec.mono q h λ_ _ z=>z) q
 |.pp0 o,G,k,k',h,q=>by
  rw[sU]at q ⊢;refine aG o (λd _ q=>?_) q;unfold gF at q ⊢;split at q
  ·split at q
   ·split at q
    ·exact h _ _ q
    ·exact q
   ·exact q
  ·exact q
 |.rgt a,G,k,k',h,q=>by
  rw[xK]at q ⊢;refine aG a (λd _ q=>?_) q;split at q
  ·exact ⟨q.1,h _ _ q.2⟩
  ·exact q
 |.fst es,G,k,k',h,q=>by
  rw[xM]at q ⊢;exact ye es (λ_ _ q=>⟨q.1,h _ _ q.2⟩) q
 |.mth m o es,G,k,k',h,q=>by
  rw[eU]at q ⊢;exact aG o (λ_ _ q=>⟨q.1,cF es (λ_ _ q=>gH h q) q.2⟩) q
 |.comp fz elt tg it cond N cap,G,k,k',h,q=>by
  rw[xY]at q ⊢;refine kY it (λitems g G1 q=>?_) q;refine tY ?_ (λds G2 z=>dD h z) items [] _ G1 q;intro d ρ' G' k k' hk z;refine fW (λρ1 z=>?_) tg z;refine du cond (λb G2 z=>?_) z;cases b with
  |true=>exact aG elt (λy G3 z=>hk _ _ _ z) z
  |false=>exact hk _ _ _ z
 |.frz a,G,k,k',h,q=>by
  rw[sV]at q ⊢;refine aG a (λx G1 q=>?_) q;split at q
  ·split at q
   ·exact h _ _ q
   ·exact q
  ·exact h _ _ q
theorem du{E:EK}{ρ:ao}:∀(x:Tx){G:DH}{k k':Bool->DH->Prop},(∀d G',k d G'->k' d G')->wpT Φ x E ρ G k->wpT Φ x E ρ G k'
 |.not a,G,k,k',h,q=>by rw[rA]at q ⊢;exact du a (λ_ _ q=>h _ _ q) q
 |.boo isAnd e es,G,k,k',h,q=>by rw[rB]at q ⊢;exact du e (λ_ _ q=>uc es h q) q
 |.yes,G,k,k',h,q=>by rw[rD]at q ⊢;exact h _ _ q
 |.val a,G,k,k',h,q=>by
  rw[jx]at q ⊢;refine aG a (λx _ q=>?_) q;split at q
  ·exact h _ _ q
  ·exact q
theorem ye{E:EK}{ρ:ao}:∀(x:Exs){G:DH}{k k':List Nat->DH->Prop},(∀d G',k d G'->k' d G')->wpF Φ x E ρ G k->wpF Φ x E ρ G k'
 |.nil,G,k,k',h,q=>by rw[xN]at q ⊢;exact h _ _ q
 |.cons e es,G,k,k',h,q=>by
  rw[xO]at q ⊢;refine aG e (λd _ q=>?_) q;split at q
  ·exact ⟨q.1,ye es (λ_ _ q=>h _ _ q) q.2⟩
  ·exact ⟨q.1,ye es (λ_ _ q=>h _ _ q) q.2⟩
  ·exact q
theorem cF{E:EK}{ρ:ao}:∀(x:Exs){G:DH}{k k':List D->DH->Prop},(∀d G',k d G'->k' d G')->aN Φ x E ρ G k->aN Φ x E ρ G k'
 |.nil,G,k,k',h,q=>by rw[fV]at q ⊢;exact h _ _ q
 |.cons e es,G,k,k',h,q=>by rw[gG]at q ⊢;exact aG e (λ_ _ q=>cF es (λ_ _ q=>h _ _ q) q) q
theorem tZ{E:EK}{ρ:ao}:∀(x:Exs){isAnd b:Bool}{G:DH}{k k':Bool->DH->Prop},(∀d G',k d G'->k' d G')->wpB Φ x isAnd b E ρ G k->wpB Φ x isAnd b E ρ G k'
 |.nil,_,_,G,k,k',h,q=>by rw[rE]at q ⊢;exact h _ _ q
 |.cons e es,isAnd,b,G,k,k',h,q=>by
  rw[kE]at q ⊢;cases isAnd <;> cases b <;> first
   |exact h _ _ q
   | (refine aG e (λd _ q=>?_) q
      split at q
      ·exact tZ es h q
      ·exact q)
theorem uc{E:EK}{ρ:ao}:∀(x:Txs){isAnd b:Bool}{G:DH}{k k':Bool->DH->Prop},(∀d G',k d G'->k' d G')->fU Φ x isAnd b E ρ G k->fU Φ x isAnd b E ρ G k'
 |.nil,_,_,G,k,k',h,q=>by rw[rF]at q ⊢;exact h _ _ q
 |.cons e es,isAnd,b,G,k,k',h,q=>by
  rw[kI]at q ⊢;cases isAnd <;> cases b <;> first
   |exact h _ _ q
   |exact du e (λd _ q=>uc es h q) q
theorem yf{E:EK}{ρ:ao}:∀(x:Ox){G:DH}{k k':Option Int->DH->Prop},(∀d G',k d G'->k' d G')->wpO Φ x E ρ G k->wpO Φ x E ρ G k'
 |.no,G,k,k',h,q=>by rw[rG]at q ⊢;exact h _ _ q
 |.ob a,G,k,k',h,q=>by
  rw[rH]at q ⊢;refine aG a (λx _ q=>?_) q;split at q
  ·exact h _ _ q
  ·exact q
theorem kY{E:EK}{ρ:ao}:∀(x:It'){G:DH}{k k':List D->Hld->DH->Prop},(∀d g G',k d g G'->k' d g G')->wpI Φ x E ρ G k->wpI Φ x E ρ G k'
 |.seq a,G,k,k',h,q=>by
  rw[rJ]at q ⊢;refine aG a (λx _ q=>?_) q;split at q
  ·exact h _ _ _ q
  ·exact q
 |.rng a,G,k,k',h,q=>by
  rw[rK]at q ⊢;refine aG a (λx _ q=>?_) q;split at q
  ·exact ⟨q.1,h _ _ _ q.2⟩
  ·exact q
 |.rev a,G,k,k',h,q=>by
  rw[xu]at q ⊢;refine aG a (λx _ q=>?_) q;split at q
  ·exact ⟨q.1,h _ _ _ q.2⟩
  ·exact q
 |.dwn a b d,G,k,k',h,q=>by
  rw[xF]at q ⊢;refine aG a (λx _ q=>aG b (λy _ q=>aG d (λz _ q=>?_) q) q) q;split at q
  ·exact ⟨q.1,h _ _ _ q.2⟩
  ·exact q
 |.rng2 a b,G,k,k',h,q=>by
  rw[xr]at q ⊢;refine aG a (λx _ q=>aG b (λy _ q=>?_) q) q;split at q
  ·exact ⟨q.1,h _ _ _ q.2⟩
  ·exact q
 |.enm a,G,k,k',h,q=>by
  rw[rM]at q ⊢;refine aG a (λx _ q=>?_) q;split at q
  ·exact h _ _ _ q
  ·exact q
 |.zip a b,G,k,k',h,q=>by
  rw[rN]at q ⊢;refine aG a (λx _ q=>aG b (λy _ q=>?_) q) q;split at q
  ·exact h _ _ _ q
  ·exact q
end
structure En.Le(D D':En):Prop where
 nx:∀ρ G,D.nx ρ G->D'.nx ρ G
 rt:∀d G,D.rt d G->D'.rt d G
 bk:∀ρ G,D.bk ρ G->D'.bk ρ G
 ct:∀ρ G,D.ct ρ G->D'.ct ρ G
theorem ud:∀(b:Tb){ρ:ao}{G:DH}{nx nx':ao->DH->Prop}{ex ex':Xn->ao->DH->Prop},(∀ρ G,nx ρ G->nx' ρ G)->(∀x ρ G,ex x ρ G->ex' x ρ G)->wpX Φ b ρ G nx ex->wpX Φ b ρ G nx' ex'
 |.call f es,ρ,G,nx,nx',ex,ex',h,h',q=>by rw[xV]at q ⊢;exact cF es (λ_ _ q=>Spec.mono q (λ_ _ z=>h _ _ z) λ_ _ z=>h' _ _ _ z) q
 |.pick f g i es,ρ,G,nx,nx',ex,ex',h,h',q=>by
  rw[xT]at q ⊢;exact aG (.var i) (λ_ _ q=>let ⟨b,e,q⟩:=q;⟨b,e,cF es (λ_ _ q=>Spec.mono q (λ_ _ z=>h _ _ z) λ_ _ z=>h' _ _ _ z) q⟩) q
 |.mcl f C m o es,ρ,G,nx,nx',ex,ex',h,h',q=>by
  rw[tU]at q ⊢;exact aG o (λ_ _ q=>⟨q.1,cF es (λ_ _ q=>Spec.mono q (λ_ _ z=>h _ _ z) λ_ _ z=>h' _ _ _ z) q.2⟩) q
 |.mko C es,ρ,G,nx,nx',ex,ex',h,h',q=>by rw[xU]at q ⊢;exact cF es (λ_ _ q=>Spec.mono q (λ_ _ z=>h _ _ z) λ_ _ z=>h' _ _ _ z) q
 |.asg i f es,ρ,G,nx,nx',ex,ex',h,h',q=>by rw[xW]at q ⊢;exact cF es (λ_ _ q=>Spec.mono q (λ_ _ z=>h _ _ z) λ_ _ z=>h' _ _ _ z) q
 |.ite c a b,ρ,G,nx,nx',ex,ex',h,h',q=>by
  rw[xX]at q ⊢;refine du c (λt _ q=>?_) q;cases t with
  |true=>exact ud a h h' q
  |false=>exact ud b h h' q
mutual
theorem wpS_mono{E:EK}:∀(x:Sx){ρ:ao}{G:DH}{D D':En},D.Le D'->wpS Φ x E ρ G D->wpS Φ x E ρ G D'
 |.exp e,ρ,G,D,D',h,q=>by rw[sW]at q ⊢;exact aG e (λ_ _ q=>h.nx _ _ q) q
 |.asg t e,ρ,G,D,D',h,q=>by rw[jA]at q ⊢;exact aG e (λ_ _ q=>fW (λ_ q=>h.nx _ _ q) t q) q
 |.set o i e,ρ,G,D,D',h,q=>by rw[sX]at q ⊢;exact aG e (λ_ _ q=>aG o (λ_ _ q=>aG i (λ_ _ q=>xZ (λ_ q=>h.nx _ _ q) q) q) q) q
 |.aug i op e,ρ,G,D,D',h,q=>by
  rw[sY]at q ⊢;split at q
  ·exact aG e (λ_ _ q=>yc (λ_ q=>h.nx _ _ q) q) q
  ·exact q
 |.augs o i op e,ρ,G,D,D',h,q=>by
  rw[xP]at q ⊢;exact aG o (λ_ _ q=>aG i (λ_ _ q=>tX (λ_ q=>aG e (λ_ _ q=>yc (λ_ q=>xZ (λ_ q=>h.nx _ _ q) q) q) q) q) q) q
 |.ret e,ρ,G,D,D',h,q=>by rw[sZ]at q ⊢;exact aG e (λ_ _ q=>h.rt _ _ q) q
 |.rtn,ρ,G,D,D',h,q=>by rw[tu]at q ⊢;exact h.rt _ _ q
 |.ite c a b,ρ,G,D,D',h,q=>by
  rw[tB]at q ⊢;refine du c (λt _ q=>?_) q;cases t with
  |true=>exact dF a h q
  |false=>exact dF b h q
 |.for_ t it body,ρ,G,D,D',h,q=>by
  rw[Fb]at q ⊢;exact kY it (λitems g G1 q=>Fl (λd ρ' G' k k' hk z=>fW (λρ1 z=>dF body (D:={ D with nx:=k,ct:=k,bk:=D.nx }) (D':={ D' with nx:=k',ct:=k',bk:=D'.nx }) ⟨hk,h.rt,h.nx,hk⟩ z) t z) h.nx items ρ G1 q) q
 |.whl c body,ρ,G,D,D',h,q=>by
  rw[aaH]at q ⊢;obtain ⟨n,q⟩:=q;refine ⟨n,?_⟩;refine Fp ?_ ?_ h.nx n ρ G q
  ·exact λρ' G' k k' hk z=>du c hk z
  ·exact λρ' G' k k' hk z=>dF body (D:={ D with nx:=k,ct:=k,bk:=D.nx }) (D':={ D' with nx:=k',ct:=k',bk:=D'.nx }) ⟨hk,h.rt,h.nx,hk⟩ z
 |.pas,ρ,G,D,D',h,q=>by rw[tD]at q ⊢;exact h.nx _ _ q
 |.brk,ρ,G,D,D',h,q=>by rw[tH]at q ⊢;exact h.bk _ _ q
 |.cnt,ρ,G,D,D',h,q=>by rw[tM]at q ⊢;exact h.ct _ _ q
 |.nev,ρ,G,D,D',h,q=>by rw[tV]at q;exact q.elim
 |.rse C es,ρ,G,D,D',h,q=>by rw[kW]at q ⊢;exact q
 |.tryc f es C i b,ρ,G,D,D',h,q=>by rw[xR]at q ⊢;exact cF es (λ_ _ q=>Spec.mono q (λ_ _ z=>h.nx _ _ z) λ_ _ z=>⟨z.1,z.2.1,h.nx _ _ z.2.2⟩) q
 |.tryx b C hd xs,ρ,G,D,D',h,q=>by rw[tR]at q ⊢;exact ud b (λ_ _ z=>h.nx _ _ z) (λ_ _ _ z=>⟨z.1,z.2.1,z.2.2.1,h.nx _ _ z.2.2.2⟩) q
theorem dF{E:EK}:∀(x:Sxs){ρ:ao}{G:DH}{D D':En},D.Le D'->aq Φ x E ρ G D->aq Φ x E ρ G D'
 |.nil,ρ,G,D,D',h,q=>by rw[jy]at q ⊢;exact h.nx _ _ q
 |.cons s r,ρ,G,D,D',h,q=>by rw[jz]at q ⊢;exact wpS_mono s (D:={ D with nx:=λρ' G'=>aq Φ r E ρ' G' D }) (D':={ D' with nx:=λρ' G'=>aq Φ r E ρ' G' D' }) ⟨λ_ _ z=>dF r h z,h.rt,h.bk,h.ct⟩ q
end
end
def PV(K:PF)(H:Hp)(F:FZ)(Q:VK):D->DH->Prop:=λd G'=>∀H' F' v,Ext H F H' F'->R K H' F' G'->Rep K H' F' d v->Q v H'
def PB(K:PF)(H:Hp)(F:FZ)(Q:Bool->Hp->Prop):Bool->DH->Prop:=λb G'=>∀H' F',Ext H F H' F'->R K H' F' G'->Q b H'
noncomputable def PLs(K:PF)(H:Hp)(F:FZ)(Q:List V->Hp->Prop):List D->DH->Prop:=λds G'=>∀H' F' vs,Ext H F H' F'->R K H' F' G'->Reps K H' F' ds vs->Q vs H'
section
variable {K:PF} {H:Hp} {F:FZ} {G:DH} {Q:VK}
theorem PV.now{d:D}{v:V}(h:PV K H F Q d G)(r:R K H F G)(q:Rep K H F d v):Q v H:=h H F v (Ext.refl H F) r q
theorem fX{fz:Bool}{ds:List D}{vs:List V}(h:mk fz ds G (PV K H F Q))(r:R K H F G)(t:Reps K H F ds vs)(p:Addr)(hp:H p=none):Q (.ref p) (upd H p (.lst vs)):=by
 cases fz with
 |true=>exact h _ _ _ (wR r hp) (r.newF hp) (aaD r hp t)
 |false=>exact h p (r.free hp) _ _ _ (dq r hp) (r.newL hp t) rfl
theorem kZ{ds:List D}{vs:List V}(h:PV K H F Q (.tup ds) G)(r:R K H F G)(t:Reps K H F ds vs)(p:Addr)(hp:H p=none):Q (.ref p) (upd H p (.tup vs)):=
 h _ _ _ (dq r hp) (r.new hp) (wV r hp t)
end
theorem szl:sz<=sizeLine:=by rw[fS];decide
theorem cY{n:Nat}(h:n<=sz):n<=sizeLine:=bv h szl
def rB2(K:PF)(f:D->D->DH->(D->DH->Prop)->Prop):R2:=λx y H Q=>∃F G a b,R K H F G/\Rep K H F a x/\Rep K H F b y/\f (view G a) (view G b) G (PV K H F Q)
section
variable {X:Cx}
theorem aaJ:OpR X (binaryOp .Add) (λx y H Q=>∃a b xs ys,x=.ref a/\y=.ref b/\SqL X.K H a xs/\SqL X.K H b ys/\xs.length+ys.length<=sizeLine/\∀p,H p=none->Q (.ref p) (upd H p (.lst (xs++ys)))):=by
 intro pins s σ H x y v u Q I rx ry h;obtain ⟨a,b,xs,ys,rfl,rfl,ha,hb,hz,q⟩:=h;cases rx;cases ry;obtain ⟨its,r1,p1,_⟩:=I.list ha;obtain ⟨its2,r2,p2,_⟩:=I.list hb;obtain ⟨⟨cls,dd,data,sl⟩,ho,hc,n,hd⟩:=p1.isList;obtain ⟨⟨cls2,dd2,data2,sl2⟩,ho2,hc2,n2,hd2⟩:=p2.isList;simp only at hc hd hc2 hd2;subst hc hd hc2 hd2;have e:its.toArray++its2.toArray=(its++its2).toArray:=by simp
 refine concat_meets ⟨_,ho,rfl⟩ ⟨_,ho2,rfl⟩ noFill_list_add seq_list_add PySem.F.slot_list_add PySem.F.entry_list_add (PySem.F.args_list_add_2 _ _)
  (list_addW a b its.toArray its2.toArray n n2 dd dd2 sl sl2 (by rw[ar,ar,<-r1.length,<-r2.length];exact hz)) ⟨ho,ho2,?_⟩
 rw[e];exact ⟨.ref _,_,I.lnew (t':=s.toks) (r1.append r2) (by rw[av];exact hz),rfl,q _ I.fresh⟩
theorem aaK:OpR X (binaryOp .Add) (λx y H Q=>∃a b ys,x=.ref a/\y=.ref b/\SqT X.K H a []/\SqT X.K H b ys/\Q (.ref b) H):=by
 intro pins s σ H x y v u Q I rx ry h;obtain ⟨a,b,ys,rfl,rfl,ha,hb,q⟩:=h;cases rx;cases ry;obtain ⟨its,r1,p1,_⟩:=I.tuple ha;obtain ⟨its2,r2,p2,_⟩:=I.tuple hb;obtain ⟨⟨cls,dd,data,sl⟩,ho,hc,n,hd⟩:=id p1;obtain ⟨⟨cls2,dd2,data2,sl2⟩,ho2,hc2,n2,hd2⟩:=id p2;simp only at hc hd hc2 hd2;subst hc hd hc2 hd2;cases r1;exact concat_meets ⟨_,ho,rfl⟩ ⟨_,ho2,rfl⟩ noFill_tuple_add seq_tuple_add PySem.F.slot_tuple_add PySem.F.entry_tuple_add (PySem.F.args_tuple_add_2 _ _)
   (tuple_addW0 a b _ its2.toArray n n2 dd dd2 sl sl2 (by simp)) ⟨ho,ho2,⟨.ref b,H,I,rfl,q⟩⟩
theorem yg{K:PF}{H:Hp}{F:FZ}{ds:List D}{vs:List V}(t:Reps K H F ds vs):ds=[]↔vs=[]:=by
 have:=t.length;constructor
 ·intro e;subst e;exact de.mp this.symm
 ·intro e;subst e;exact de.mp this
theorem aaL{x:Str}{n:Nat}(h1:n<=1000)(h:x.length * n<=sz):MulOk x (n:Int):=by
 have h2:((x.length * n:Nat):Int)<=((1000000:Nat):Int):=Int.ofNat_le.mpr h;rw[Int.natCast_mul]at h2;refine ⟨?_,?_,?_⟩
 ·rw[ck (by omega),ck (by omega)];rfl
 ·intro hn _ hh;have hp:(0:Int) < n:=by omega
  have h3:(x.length:Int)<=(2 ^ 63 - 1) / n:=(Int.le_ediv_iff_mul_le hp).mpr (Int.le_trans h2 (by decide));exact absurd hh (Int.not_lt.mpr h3)
 ·intro _ _;unfold Builtin.Str.tooLong;rw[fS,cy];exact ck (by have:sz=1000000:=rfl;omega)
theorem Fq(l:List Nat):∀(n:Nat)(acc:List Nat),(List.replicate n l.toArray).foldl (· ++ ·) acc.toArray=(acc++reps l n).toArray
 |0,acc=>by simp[reps]
 |n+1,acc=>by
  rw[b9,List.foldl_cons];have e:acc.toArray++l.toArray=(acc++l).toArray:=by simp
  rw[e,Fq l n (acc++l)];unfold reps;rw[b9,eP,List.append_assoc]
theorem aaM(n:Nat):reps ([]:List Nat) n=[]:=by
 unfold reps;induction n with
 |zero=>rfl
 |succ n ih=>rw[b9,eP,ih];rfl
theorem aaN{α:Type}(l:List α)(n:Nat):(reps l n).length=n * l.length:=len_rep l n
theorem aaO(l:List Nat)(n:Nat):Txt.mul (tx l) (n:Int)=tx (reps l n):=by
 unfold Txt.mul;by_cases h:(n:Int) < 1
 ·rw[if_pos h];have:n=0:=by omega
  subst this;rfl
 ·rw[if_neg h];by_cases h2:((n:Int)==1||(tx l).length==0)=true
  ·rw[if_pos h2];rw[dc]at h2;rcases h2 with h2 |h2
   ·have:n=1:=by have:=eq_of_beq h2;omega
    subst this;simp[reps]
   ·have h3:=eq_of_beq h2;rw[bU]at h3;have:l=[]:=de.mp h3;subst this;rw[aaM]
  ·rw[if_neg h2];have e:=Fq l n [];rw[List.nil_append]at e;exact fb Str.mk (by simpa using e)
theorem aaP(op:Operator)(fz:Bool):OpR X (binaryOp op) (rB2 X.K (cC op fz)):=by
 intro pins s σ H x y v u Q I rx ry h;obtain ⟨F,G,a,b,r,ra,rb,h⟩:=h;generalize ea:view G a=va at h;generalize eb:view G b=vb at h;have twoI:∀{p:Int->Int->Prop},gB va vb p->∃i j,x=.int i/\y=.int j/\p i j:=λ{p} h=>by
  obtain ⟨i,j,rfl,rfl,h⟩:=Fd h;cases dU ea;cases dU eb;exact ⟨i,j,ra,rb,h⟩
 cases op with
 |Add=>
  have h:jl fz va vb G _:=h;unfold jl at h;cases va with
  |int _=>cases vb with
   |int _=>
    cases dU ea;cases dU eb;have ha:x=.int _:=ra;have hb:y=.int _:=rb;subst ha;subst hb;exact Xm pins s σ H _ _ v u Q I rx ry ⟨_,_,rfl,rfl,h.now r rfl⟩
   |_=>exact h.elim
  |str _=>cases vb with
   |str _=>
    cases gA ea;cases gA eb;obtain ⟨ha,la⟩:=ra;obtain ⟨hb,lb⟩:=rb;subst ha;subst hb;refine XM pins s σ H _ _ v u Q I rx ry ⟨_,_,rfl,rfl,?_,?_⟩
    ·rw[bU,bU];exact cY h.1
    ·rw[qM];exact h.2.now r ⟨rfl,by rw[av];exact h.1⟩
   |_=>exact h.elim
  |lst _=>cases vb with
   |lst _=>
    obtain ⟨p,vs,rfl,q1,t1⟩:=Rep.list r ra ea;obtain ⟨p',vs',rfl,q2,t2⟩:=Rep.list r rb eb;exact aaJ pins s σ H _ _ v u Q I rx ry ⟨p,p',vs,vs',rfl,rfl,q1,q2,by rw[<-t1.length,<-t2.length];exact cY h.1,fX h.2 r (t1.append t2)⟩
   |_=>exact h.elim
  |tup xs=>cases vb with
   |tup ys=>
    cases gw ea;cases gw eb;obtain ⟨p,vs,rfl,q1,t1⟩:=id ra;obtain ⟨p',vs',rfl,q2,t2⟩:=id rb;by_cases hx:vs=[]
    ·subst hx;have:xs=[]:=(yg t1).mpr rfl;subst this;exact aaK pins s σ H _ _ v u Q I rx ry ⟨p,p',vs',rfl,rfl,q1.sq,q2.sq,h.2.now r rb⟩
    ·refine YM pins s σ H _ _ v u Q I rx ry ⟨p,p',vs,vs',rfl,rfl,q1.sq,q2.sq,hx,by rw[<-t1.length,<-t2.length];exact cY h.1,λe=>?_,λ_=>kZ h.2 r (t1.append t2)⟩;subst e;have:ys=[]:=(yg t2).mpr rfl;subst this;have h2:=h.2;rw[dA]at h2;exact h2.now r ra
   |_=>exact h.elim
  |_=>exact h.elim
 |Sub=>
  obtain ⟨i,j,rfl,rfl,h⟩:=twoI h;exact Xo pins s σ H _ _ v u Q I rx ry ⟨_,_,rfl,rfl,h.now r rfl⟩
 |Mult=>
  have h:jm fz va vb G _:=h;unfold jm at h;cases vb with
  |int _=>cases va with
   |int _=>
    cases dU ea;cases dU eb;have ha:x=.int _:=ra;have hb:y=.int _:=rb;subst ha;subst hb;exact Xp pins s σ H _ _ v u Q I rx ry ⟨_,_,rfl,rfl,h.1,h.2.now r rfl⟩
   |str _=>
    cases gA ea;cases dU eb;obtain ⟨ha,la⟩:=ra;have hb:y=.int _:=rb;subst ha;subst hb;obtain ⟨h0,h1,h2,h3⟩:=h;obtain ⟨n,rfl⟩:=c6 h0;rw[cy]at h2 h3;refine ZF pins s σ H _ _ v u Q I rx ry ⟨_,_,rfl,rfl,aaL (by omega) (by rw[bU];exact h2),?_⟩;rw[aaO];exact h3.now r ⟨rfl,by rw[aaN,Nat.mul_comm];exact h2⟩
   |tup _=>
    cases gw ea;cases dU eb;obtain ⟨p,vs,rfl,q1,t1⟩:=ra;have hb:y=.int _:=rb;subst hb;obtain ⟨h0,h1,h2,h3,h4⟩:=h;refine aav pins s σ H _ _ v u Q I rx ry ⟨p,_,vs,rfl,rfl,q1.sq,λe=>h2 ((yg t1).mpr e),h0,h1,by rw[<-t1.length];exact cY h3,?_⟩;exact kZ h4 r (t1.rep _)
   |lst _=>
    cases dU eb;have hb:y=.int _:=rb;subst hb;obtain ⟨p,vs,rfl,q1,t1⟩:=ra.list r ea;obtain ⟨h0,h1,h2,h3⟩:=h;exact aaz pins s σ H _ _ v u Q I rx ry ⟨p,_,vs,rfl,rfl,q1,h0,h1,by rw[<-t1.length];exact cY h2,fX h3 r (t1.rep _)⟩
   |_=>exact h.elim
  |_=>exact h.elim
 |FloorDiv=>
  obtain ⟨i,j,rfl,rfl,h⟩:=twoI h;exact aan pins s σ H _ _ v u Q I rx ry ⟨_,_,rfl,rfl,h.1,h.2.now r rfl⟩
 |Mod=>
  obtain ⟨i,j,rfl,rfl,h⟩:=twoI h;exact Xq pins s σ H _ _ v u Q I rx ry ⟨_,_,rfl,rfl,h.1,h.2.now r rfl⟩
 |Pow=>
  obtain ⟨i,j,rfl,rfl,h⟩:=twoI h;exact Xr pins s σ H _ _ v u Q I rx ry ⟨_,_,rfl,rfl,h.1,h.2.now r rfl⟩
 |_=>exact h.elim
end
mutual
theorem yh:∀{d:D},nr d=true->deq d d=true
 |.non,_=>rfl
 |.bl b,_=>by simp[deq]
 |.int i,_=>by simp[deq]
 |.str l,_=>by simp[deq]
 |.tup xs,h=>by rw[deq];exact yj (by rw[nr]at h;exact h)
 |.lst xs,h=>by rw[deq];exact yj (by rw[nr]at h;exact h)
 |.ref a,h=>by rw[nr]at h;cases h
 |.scr a,h=>by rw[nr]at h;cases h
 |.exn a,h=>by rw[nr]at h;cases h
 |.obj _ _ _,h=>by rw[nr]at h;cases h
theorem yj:∀{ds:List D},nrs ds=true->bO ds ds=true
 |[],_=>rfl
 |d::ds,h=>by
  rw[nrs,ae]at h;rw[bO,yh h.1,yj h.2];rfl
end
theorem ue:∀(xs ys:List D),bO xs ys=((List.range (min xs.length ys.length)).all (λj=>deq (xs.getD j .non) (ys.getD j .non))&&xs.length==ys.length)
 |[],[]=>rfl
 |[],y::ys=>by simp[bO]
 |x::xs,[]=>by simp[bO]
 |x::xs,y::ys=>by
  have e:min (x::xs).length (y::ys).length=(min xs.length ys.length)+1:=by simp only[cf];omega
  rw[bO,ue xs ys,e,List.range_succ_eq_map,List.all_cons,List.all_map];simp only[List.getD_cons_zero,cf,Bool.and_assoc];congr 1;congr 1;rw[Bool.eq_iff_iff];simp
theorem aaQ{xs ys:List D}(h:xs.length≠ys.length):bO xs ys=false:=by rw[ue];rw[show (xs.length==ys.length)=false from c5.mpr h,Bool.and_false]
theorem lg:∀{xs:List D}{i:Nat},nrs xs=true->nr (xs.getD i .non)=true
 |[],_,_=>rfl
 |x::xs,0,h=>by rw[nrs,ae]at h;exact h.1
 |x::xs,i+1,h=>by rw[nrs,ae]at h;rw[List.getD_cons_succ];exact lg h.2
theorem lq:∀{xs:List D}{i:Nat},dpt (xs.getD i .non)<=aX xs
 |[],_=>e7 _
 |x::xs,0=>by rw[aX,List.getD_cons_zero];omega
 |x::xs,i+1=>by rw[aX,List.getD_cons_succ];have:=@lq xs i;omega
section
variable {X:Cx} {pins:List (Addr×Obj)} {σ:L2.St} {H:Hp} {s:Shared} {F:FZ}
mutual
theorem uf(I:Inv X pins σ H s):∀{d d':D}{v:V},nr d=true->nr d'=true->Rep X.K H F d v->Rep X.K H F d' v->d=d'
 |.non,d',v,_,n',h,h'=>by
  have h:v=.non:=h;subst h;cases d' with
  |non=>rfl
  |bl _=>simp only[Rep]at h';cases h'
  |int _=>simp only[Rep]at h';cases h'
  |ref _=>simp only[Rep]at h';cases h'
  |scr _=>rw[nr]at n';cases n'
  |exn _=>rw[nr]at n';cases n'
  |obj _ _ _=>rw[nr]at n';cases n'
  |str _=>simp only[Rep]at h';obtain ⟨e,_⟩:=h';cases e
  |tup _=>simp only[Rep]at h';obtain ⟨_,_,e,_⟩:=h';cases e
  |lst _=>simp only[Rep]at h';obtain ⟨_,_,e,_⟩:=h';cases e
 |.bl b,d',v,_,n',h,h'=>by
  have h:v=.bl b:=h;subst h;cases d' with
  |non=>simp only[Rep]at h';cases h'
  |bl _=>simp only[Rep]at h';cases h';rfl
  |int _=>simp only[Rep]at h';cases h'
  |ref _=>simp only[Rep]at h';cases h'
  |scr _=>rw[nr]at n';cases n'
  |exn _=>rw[nr]at n';cases n'
  |obj _ _ _=>rw[nr]at n';cases n'
  |str _=>simp only[Rep]at h';obtain ⟨e,_⟩:=h';cases e
  |tup _=>simp only[Rep]at h';obtain ⟨_,_,e,_⟩:=h';cases e
  |lst _=>simp only[Rep]at h';obtain ⟨_,_,e,_⟩:=h';cases e
 |.int b,d',v,_,n',h,h'=>by
  have h:v=.int b:=h;subst h;cases d' with
  |non=>simp only[Rep]at h';cases h'
  |bl _=>simp only[Rep]at h';cases h'
  |int _=>simp only[Rep]at h';cases h';rfl
  |ref _=>simp only[Rep]at h';cases h'
  |scr _=>rw[nr]at n';cases n'
  |exn _=>rw[nr]at n';cases n'
  |obj _ _ _=>rw[nr]at n';cases n'
  |str _=>simp only[Rep]at h';obtain ⟨e,_⟩:=h';cases e
  |tup _=>simp only[Rep]at h';obtain ⟨_,_,e,_⟩:=h';cases e
  |lst _=>simp only[Rep]at h';obtain ⟨_,_,e,_⟩:=h';cases e
 |.str l,d',v,_,n',h,h'=>by
  obtain ⟨h,_⟩:=h;subst h;cases d' with
  |str l'=>
   obtain ⟨e,_⟩:=h';injection e with e;rw[DQ e]
  |non=>simp only[Rep]at h';cases h'
  |bl _=>simp only[Rep]at h';cases h'
  |int _=>simp only[Rep]at h';cases h'
  |ref _=>simp only[Rep]at h';cases h'
  |scr _=>rw[nr]at n';cases n'
  |exn _=>rw[nr]at n';cases n'
  |obj _ _ _=>rw[nr]at n';cases n'
  |tup _=>simp only[Rep]at h';obtain ⟨_,_,e,_⟩:=h';cases e
  |lst _=>simp only[Rep]at h';obtain ⟨_,_,e,_⟩:=h';cases e
 |.tup xs,d',v,n,n',h,h'=>by
  obtain ⟨a,vs,e,q,t⟩:=h;subst e;cases d' with
  |tup ys=>
   obtain ⟨a',vs',e,q',t'⟩:=h';injection e with e;subst e;have:=I.tuple_inj q.sq q'.sq;subst this;rw[nr]at n n';rw[yl I n n' t t']
  |lst ys=>
   obtain ⟨a',vs',e,q',t'⟩:=h';injection e with e;subst e;obtain ⟨its,_,⟨o,e1,c1,_⟩,_⟩:=I.tuple q.sq;obtain ⟨its',_,⟨o',n',e2,c2,_⟩,_⟩:=I.list q'.sq;rw[e1]at e2;cases e2;rw[c1]at c2;exact absurd c2 (by ac_rfl)
  |ref _=>rw[nr]at n';cases n'
  |scr _=>rw[nr]at n';cases n'
  |exn _=>rw[nr]at n';cases n'
  |obj _ _ _=>rw[nr]at n';cases n'
  |str _=>simp only[Rep]at h';obtain ⟨e,_⟩:=h';cases e
  |non=>simp only[Rep]at h';cases h'
  |bl _=>simp only[Rep]at h';cases h'
  |int _=>simp only[Rep]at h';cases h'
 |.lst xs,d',v,n,n',h,h'=>by
  obtain ⟨a,vs,e,q,t⟩:=h;subst e;cases d' with
  |lst ys=>
   obtain ⟨a',vs',e,q',t'⟩:=h';injection e with e;subst e;have:=I.list_inj q.sq q'.sq;subst this;rw[nr]at n n';rw[yl I n n' t t']
  |tup ys=>
   obtain ⟨a',vs',e,q',t'⟩:=h';injection e with e;subst e;obtain ⟨its,_,⟨o,e1,c1,_⟩,_⟩:=I.tuple q'.sq;obtain ⟨its',_,⟨o',n',e2,c2,_⟩,_⟩:=I.list q.sq;rw[e1]at e2;cases e2;rw[c1]at c2;exact absurd c2 (by ac_rfl)
  |ref _=>rw[nr]at n';cases n'
  |scr _=>rw[nr]at n';cases n'
  |exn _=>rw[nr]at n';cases n'
  |obj _ _ _=>rw[nr]at n';cases n'
  |str _=>simp only[Rep]at h';obtain ⟨e,_⟩:=h';cases e
  |non=>simp only[Rep]at h';cases h'
  |bl _=>simp only[Rep]at h';cases h'
  |int _=>simp only[Rep]at h';cases h'
 |.ref a,d',v,n,_,_,_=>by rw[nr]at n;cases n
 |.scr a,d',v,n,_,_,_=>by rw[nr]at n;cases n
 |.exn a,d',v,n,_,_,_=>by rw[nr]at n;cases n
 |.obj _ _ _,d',v,n,_,_,_=>by rw[nr]at n;cases n
theorem yl(I:Inv X pins σ H s):∀{ds ds':List D}{vs:List V},nrs ds=true->nrs ds'=true->Reps X.K H F ds vs->Reps X.K H F ds' vs->ds=ds'
 |[],[],_,_,_,_,_=>rfl
 |[],_::_,_,_,_,h,⟨v,r,e,_⟩=>by have h:_=[]:=h;rw[h]at e;cases e
 |_::_,[],_,_,_,⟨v,r,e,_⟩,h=>by have h:_=[]:=h;rw[h]at e;cases e
 |d::ds,d'::ds',_,n,n',⟨v,r,e,h,t⟩,⟨v',r',e',h',t'⟩=>by
  subst e;injection e' with e1 e2;subst e1;subst e2;rw[nrs,ae]at n n';rw[uf I n.1 n'.1 h h',yl I n.2 n'.2 t t']
end
theorem ug{I:Inv X pins σ H s}{ds:List D}{vs:List V}{its:List Value}(t:Reps X.K H F ds vs)(r:Vals vs its)(j:Nat)(h:j < its.length):∃v,Rep X.K H F (ds.getD j .non) v/\RelV v its[j]:=by
 have hl:j < ds.length:=by rw[t.length,r.length];exact h
 have e1:ds[j]?=some (ds.getD j .non):=by rw[ey,aS hl];rfl
 obtain ⟨v,e2,r2⟩:=t.get e1;obtain ⟨u,e3,r3⟩:=r.get e2;rw[aS h]at e3;cases e3;exact ⟨v,r2,r3⟩
theorem aaR(a b:List Nat):(tx a==tx b)=(a==b):=by rw[Bool.eq_iff_iff,aw,aw];exact ⟨λh=>DQ h,λh=>by rw[h]⟩
theorem aaS(I:Inv X pins σ H s){n:Nat}{A:Around}{xs ys:List D}{a a':Addr}{vs vs':List V}{its its':List Value}
  (ih:∀m,m < n->∀(A:Around)(d d':D)(v v':V)(u u':Value),A.units+m < cLine->min (dpt d) (dpt d')<=m->nr d=true->nr d'=true->Rep X.K H F d v->Rep X.K H F d' v'->RelV v u->RelV v' u'->
   SeqAt.RcAt A s u u' (deq d d')/\SeqAt.EqAt A s u u' (deq d d')/\SeqAt.RcNeAt A s u u' (!deq d d'))
  (hu:A.units+n < cLine) (hd:min (dpt (.tup xs)) (dpt (.tup ys))<=n) (n1:nr (.tup xs)=true) (n2:nr (.tup ys)=true) (h:Rep X.K H F (.tup xs) (.ref a)) (h':Rep X.K H F (.tup ys) (.ref a'))
  (pt:s.heap.IsTuple a its.toArray) (pt':s.heap.IsTuple a' its'.toArray) (rv:Vals vs its) (rv':Vals vs' its') (tt:Reps X.K H F xs vs) (tt':Reps X.K H F ys vs'):
  SeqAt.RcAt A s (.ref a) (.ref a') (deq (.tup xs) (.tup ys))/\SeqAt.EqAt A s (.ref a) (.ref a') (deq (.tup xs) (.tup ys))/\SeqAt.RcNeAt A s (.ref a) (.ref a') (!deq (.tup xs) (.tup ys)):=by
 have hd':min (aX xs+1) (aX ys+1)<=n:=by rw[dpt,dpt]at hd;exact hd
 have hn1:nrs xs=true:=by rw[nr]at n1;exact n1
 have hn2:nrs ys=true:=by rw[nr]at n2;exact n2
 have l1:its.toArray.size=xs.length:=by rw[ar,<-rv.length,tt.length]
 have l2:its'.toArray.size=ys.length:=by rw[ar,<-rv'.length,tt'.length]
 have he:∀j (h1:j < its.toArray.size) (h2:j < its'.toArray.size),SeqAt.EqAt A.in1 s its.toArray[j] its'.toArray[j] (deq (xs.getD j .non) (ys.getD j .non)):=by intro j h1 h2;obtain ⟨w1,q1,q2⟩:=ug (I:=I) tt rv j (by simpa using h1);obtain ⟨w2,q3,q4⟩:=ug (I:=I) tt' rv' j (by simpa using h2);have d1:=@lq xs j;have d2:=@lq ys j;exact (ih (n - 1) (by omega) A.in1 _ _ w1 w2 _ _ (by show A.units+1+(n - 1) < cLine;omega) (by omega) (lg hn1) (lg hn2) q1 q3 (by simpa using q2) (by simpa using q4)).2.1
 have e:deq (.tup xs) (.tup ys)=((List.range (min its.toArray.size its'.toArray.size)).all (λj=>deq (xs.getD j .non) (ys.getD j .non))&&its.toArray.size==its'.toArray.size):=by rw[deq,ue,l1,l2]
 have rc:SeqAt.RcAt A s (.ref a) (.ref a') (deq (.tup xs) (.tup ys)):=by rw[e];exact .tuples pt pt' (by omega) he
 refine ⟨rc,?_,by rw[e];exact .tuples pt pt' (by omega) he⟩;by_cases z:a=a'
 ·subst z;have:=uf I n1 n2 h h';rw[<-this,yh n1];exact .same _
 ·exact .of_refs z rc
theorem aaT(I:Inv X pins σ H s){n:Nat}{A:Around}{xs ys:List D}{a a':Addr}{vs vs':List V}{its its':List Value}
  (ih:∀m,m < n->∀(A:Around)(d d':D)(v v':V)(u u':Value),A.units+m < cLine->min (dpt d) (dpt d')<=m->nr d=true->nr d'=true->Rep X.K H F d v->Rep X.K H F d' v'->RelV v u->RelV v' u'->
   SeqAt.RcAt A s u u' (deq d d')/\SeqAt.EqAt A s u u' (deq d d')/\SeqAt.RcNeAt A s u u' (!deq d d'))
  (hu:A.units+n < cLine) (hd:min (dpt (.lst xs)) (dpt (.lst ys))<=n) (n1:nr (.lst xs)=true) (n2:nr (.lst ys)=true) (h:a=a'->xs=ys)
  (pt:s.heap.IsList a its.toArray) (pt':s.heap.IsList a' its'.toArray) (rv:Vals vs its) (rv':Vals vs' its') (tt:Reps X.K H F xs vs) (tt':Reps X.K H F ys vs'):
  SeqAt.RcAt A s (.ref a) (.ref a') (deq (.lst xs) (.lst ys))/\SeqAt.EqAt A s (.ref a) (.ref a') (deq (.lst xs) (.lst ys))/\SeqAt.RcNeAt A s (.ref a) (.ref a') (!deq (.lst xs) (.lst ys)):=by
 have hd':min (aX xs+1) (aX ys+1)<=n:=by rw[dpt,dpt]at hd;exact hd
 have hn1:nrs xs=true:=by rw[nr]at n1;exact n1
 have hn2:nrs ys=true:=by rw[nr]at n2;exact n2
 have l1:its.toArray.size=xs.length:=by rw[ar,<-rv.length,tt.length]
 have l2:its'.toArray.size=ys.length:=by rw[ar,<-rv'.length,tt'.length]
 have eqs:∀(rc:SeqAt.RcAt A s (.ref a) (.ref a') (deq (.lst xs) (.lst ys))),SeqAt.EqAt A s (.ref a) (.ref a') (deq (.lst xs) (.lst ys)):=λrc=>by
  by_cases z:a=a'
  ·have:=h z;subst z;subst this;rw[yh n1];exact .same _
  ·exact .of_refs z rc
 by_cases hl:xs.length=ys.length
 ·have he:∀j (h1:j < its.toArray.size) (h2:j < its'.toArray.size),SeqAt.EqAt A.in1 s its.toArray[j] its'.toArray[j] (deq (xs.getD j .non) (ys.getD j .non)):=by
   intro j h1 h2;obtain ⟨w1,q1,q2⟩:=ug (I:=I) tt rv j (by simpa using h1);obtain ⟨w2,q3,q4⟩:=ug (I:=I) tt' rv' j (by simpa using h2);have d1:=@lq xs j;have d2:=@lq ys j;exact (ih (n - 1) (by omega) A.in1 _ _ w1 w2 _ _ (by show A.units+1+(n - 1) < cLine;omega) (by omega) (lg hn1) (lg hn2) q1 q3 (by simpa using q2) (by simpa using q4)).2.1
  have e:deq (.lst xs) (.lst ys)=(List.range its.toArray.size).all (λj=>deq (xs.getD j .non) (ys.getD j .non)):=by rw[deq,ue,l1,hl,Nat.min_self];simp
  have rc:SeqAt.RcAt A s (.ref a) (.ref a') (deq (.lst xs) (.lst ys)):=by rw[e];exact .lists pt pt' (by rw[l1,l2];exact hl) (by omega) he
  exact ⟨rc,eqs rc,by rw[e];exact .lists pt pt' (by rw[l1,l2];exact hl) (by omega) he⟩
 ·have e:deq (.lst xs) (.lst ys)=false:=by rw[deq];exact aaQ hl
  have hne:(its.toArray.size != its'.toArray.size)=true:=by rw[l1,l2];simpa using hl
  have rc:SeqAt.RcAt A s (.ref a) (.ref a') (deq (.lst xs) (.lst ys)):=by rw[e];exact .lists_lengths pt pt' hne (by omega)
  exact ⟨rc,eqs rc,by rw[e];exact .lists_lengths pt pt' hne (by omega)⟩
theorem ym(I:Inv X pins σ H s):∀(n:Nat)(A:Around)(d d':D)(v v':V)(u u':Value),A.units+n < cLine->min (dpt d) (dpt d')<=n->nr d=true->nr d'=true->Rep X.K H F d v->Rep X.K H F d' v'->RelV v u->RelV v' u'->
  SeqAt.RcAt A s u u' (deq d d')/\SeqAt.EqAt A s u u' (deq d d')/\SeqAt.RcNeAt A s u u' (!deq d d'):=by
 intro n;induction n using Nat.strongRecOn with
 |_ n ih=>
  intro A d d' v v' u u' hu hd n1 n2 h h' r r';have hu0:A.units < cLine:=by omega
  cases d with
  |ref a=>rw[nr]at n1;cases n1
  |scr a=>rw[nr]at n1;cases n1
  |exn a=>rw[nr]at n1;cases n1
  |obj _ _ _=>rw[nr]at n1;cases n1
  |non=>
   have hv:v=.non:=h;subst hv;have hr:u=Value.none:=r;subst hr;cases d' with
   |ref a=>rw[nr]at n2;cases n2
   |scr a=>rw[nr]at n2;cases n2
   |exn a=>rw[nr]at n2;cases n2
   |obj _ _ _=>rw[nr]at n2;cases n2
   |non=>
    have hv:v'=.non:=h';subst hv;have hr:u'=Value.none:=r';subst hr;exact ⟨.none_none,.same _,.none_none⟩
   |bl b'=>
    have hv:v'=.bl b':=h';subst hv;have hr:u'=Value.bool b':=r';subst hr;exact ⟨.none_bool b',.none_bool b',.none_bool b'⟩
   |int i'=>
    have hv:v'=.int i':=h';subst hv;obtain ⟨t',hr⟩:∃t',u'=Value.int i' t':=r';subst hr;exact ⟨.none_int i' t',.none_int i' t',.none_int i' t'⟩
   |str l'=>
    obtain ⟨hv,_⟩:=h';subst hv;obtain ⟨t',hr⟩:∃t',u'=Value.str (tx l') t':=r';subst hr;exact ⟨.none_str (tx l') t',.none_str (tx l') t',.none_str (tx l') t'⟩
   |tup ys=>
    obtain ⟨a',vs',hv,q',tt'⟩:=id h';subst hv;have hr:u'=Value.ref a':=r';subst hr;obtain ⟨its',rv',pt',_⟩:=I.tuple q'.sq;have pt':s.heap.IsTuple a' its'.toArray:=pt';exact ⟨.none_tuple pt' hu0,.none_tuple pt' hu0,.none_tuple pt' hu0⟩
   |lst ys=>
    obtain ⟨a',vs',hv,q',tt'⟩:=id h';subst hv;have hr:u'=Value.ref a':=r';subst hr;obtain ⟨its',rv',pl',_⟩:=I.list q'.sq;have pt':s.heap.IsList a' its'.toArray:=pl'.isList;exact ⟨.none_list pt' hu0,.none_list pt' hu0,.none_list pt' hu0⟩
  |bl b=>
   have hv:v=.bl b:=h;subst hv;have hr:u=Value.bool b:=r;subst hr;cases d' with
   |ref a=>rw[nr]at n2;cases n2
   |scr a=>rw[nr]at n2;cases n2
   |exn a=>rw[nr]at n2;cases n2
   |obj _ _ _=>rw[nr]at n2;cases n2
   |non=>
    have hv:v'=.non:=h';subst hv;have hr:u'=Value.none:=r';subst hr;exact ⟨.bool_none b,.bool_none b,.bool_none b⟩
   |bl b'=>
    have hv:v'=.bl b':=h';subst hv;have hr:u'=Value.bool b':=r';subst hr;exact ⟨.bool_bool b b',.bool_bool b b',.bool_bool b b'⟩
   |int i'=>
    have hv:v'=.int i':=h';subst hv;obtain ⟨t',hr⟩:∃t',u'=Value.int i' t':=r';subst hr;exact ⟨.bool_int b i' t',.bool_int b i' t',.bool_int b i' t'⟩
   |str l'=>
    obtain ⟨hv,_⟩:=h';subst hv;obtain ⟨t',hr⟩:∃t',u'=Value.str (tx l') t':=r';subst hr;exact ⟨.bool_str b (tx l') t',.bool_str b (tx l') t',.bool_str b (tx l') t'⟩
   |tup ys=>
    obtain ⟨a',vs',hv,q',tt'⟩:=id h';subst hv;have hr:u'=Value.ref a':=r';subst hr;obtain ⟨its',rv',pt',_⟩:=I.tuple q'.sq;have pt':s.heap.IsTuple a' its'.toArray:=pt';exact ⟨.bool_tuple b pt' hu0,.bool_tuple b pt' hu0,.bool_tuple b pt' hu0⟩
   |lst ys=>
    obtain ⟨a',vs',hv,q',tt'⟩:=id h';subst hv;have hr:u'=Value.ref a':=r';subst hr;obtain ⟨its',rv',pl',_⟩:=I.list q'.sq;have pt':s.heap.IsList a' its'.toArray:=pl'.isList;exact ⟨.bool_list b pt' hu0,.bool_list b pt' hu0,.bool_list b pt' hu0⟩
  |int i=>
   have hv:v=.int i:=h;subst hv;obtain ⟨t,hr⟩:∃t,u=Value.int i t:=r;subst hr;cases d' with
   |ref a=>rw[nr]at n2;cases n2
   |scr a=>rw[nr]at n2;cases n2
   |exn a=>rw[nr]at n2;cases n2
   |obj _ _ _=>rw[nr]at n2;cases n2
   |non=>
    have hv:v'=.non:=h';subst hv;have hr:u'=Value.none:=r';subst hr;exact ⟨.int_none i t,.int_none i t,.int_none i t⟩
   |bl b'=>
    have hv:v'=.bl b':=h';subst hv;have hr:u'=Value.bool b':=r';subst hr;exact ⟨.int_bool i t b',.int_bool i t b',.int_bool i t b'⟩
   |int i'=>
    have hv:v'=.int i':=h';subst hv;obtain ⟨t',hr⟩:∃t',u'=Value.int i' t':=r';subst hr;exact ⟨.int_int i t i' t',.int_int i t i' t',.int_int i t i' t'⟩
   |str l'=>
    obtain ⟨hv,_⟩:=h';subst hv;obtain ⟨t',hr⟩:∃t',u'=Value.str (tx l') t':=r';subst hr;exact ⟨.int_str i t (tx l') t',.int_str i t (tx l') t',.int_str i t (tx l') t'⟩
   |tup ys=>
    obtain ⟨a',vs',hv,q',tt'⟩:=id h';subst hv;have hr:u'=Value.ref a':=r';subst hr;obtain ⟨its',rv',pt',_⟩:=I.tuple q'.sq;have pt':s.heap.IsTuple a' its'.toArray:=pt';exact ⟨.int_tuple i t pt' hu0,.int_tuple i t pt' hu0,.int_tuple i t pt' hu0⟩
   |lst ys=>
    obtain ⟨a',vs',hv,q',tt'⟩:=id h';subst hv;have hr:u'=Value.ref a':=r';subst hr;obtain ⟨its',rv',pl',_⟩:=I.list q'.sq;have pt':s.heap.IsList a' its'.toArray:=pl'.isList;exact ⟨.int_list i t pt' hu0,.int_list i t pt' hu0,.int_list i t pt' hu0⟩
  |str l=>
   obtain ⟨hv,_⟩:=h;subst hv;obtain ⟨t,hr⟩:∃t,u=Value.str (tx l) t:=r;subst hr;cases d' with
   |ref a=>rw[nr]at n2;cases n2
   |scr a=>rw[nr]at n2;cases n2
   |exn a=>rw[nr]at n2;cases n2
   |obj _ _ _=>rw[nr]at n2;cases n2
   |non=>
    have hv:v'=.non:=h';subst hv;have hr:u'=Value.none:=r';subst hr;exact ⟨.str_none (tx l) t,.str_none (tx l) t,.str_none (tx l) t⟩
   |bl b'=>
    have hv:v'=.bl b':=h';subst hv;have hr:u'=Value.bool b':=r';subst hr;exact ⟨.str_bool (tx l) t b',.str_bool (tx l) t b',.str_bool (tx l) t b'⟩
   |int i'=>
    have hv:v'=.int i':=h';subst hv;obtain ⟨t',hr⟩:∃t',u'=Value.int i' t':=r';subst hr;exact ⟨.str_int (tx l) t i' t',.str_int (tx l) t i' t',.str_int (tx l) t i' t'⟩
   |str l'=>
    obtain ⟨hv,_⟩:=h';subst hv;obtain ⟨t',hr⟩:∃t',u'=Value.str (tx l') t':=r';subst hr;rw[deq,<-aaR];exact ⟨.str_str (tx l) t (tx l') t',.str_str (tx l) t (tx l') t',.str_str (tx l) t (tx l') t'⟩
   |tup ys=>
    obtain ⟨a',vs',hv,q',tt'⟩:=id h';subst hv;have hr:u'=Value.ref a':=r';subst hr;obtain ⟨its',rv',pt',_⟩:=I.tuple q'.sq;have pt':s.heap.IsTuple a' its'.toArray:=pt';exact ⟨.str_tuple (tx l) t pt' hu0,.str_tuple (tx l) t pt' hu0,.str_tuple (tx l) t pt' hu0⟩
   |lst ys=>
    obtain ⟨a',vs',hv,q',tt'⟩:=id h';subst hv;have hr:u'=Value.ref a':=r';subst hr;obtain ⟨its',rv',pl',_⟩:=I.list q'.sq;have pt':s.heap.IsList a' its'.toArray:=pl'.isList;exact ⟨.str_list (tx l) t pt' hu0,.str_list (tx l) t pt' hu0,.str_list (tx l) t pt' hu0⟩
  |tup xs=>
   obtain ⟨a,vs,hv,q,tt⟩:=id h;subst hv;have hr:u=Value.ref a:=r;subst hr;obtain ⟨its,rv,pt,_⟩:=I.tuple q.sq;have pt:s.heap.IsTuple a its.toArray:=pt;cases d' with
   |ref a=>rw[nr]at n2;cases n2
   |scr a=>rw[nr]at n2;cases n2
   |exn a=>rw[nr]at n2;cases n2
   |obj _ _ _=>rw[nr]at n2;cases n2
   |non=>
    have hv:v'=.non:=h';subst hv;have hr:u'=Value.none:=r';subst hr;exact ⟨.tuple_none pt hu0,.tuple_none pt hu0,.tuple_none pt hu0⟩
   |bl b'=>
    have hv:v'=.bl b':=h';subst hv;have hr:u'=Value.bool b':=r';subst hr;exact ⟨.tuple_bool b' pt hu0,.tuple_bool b' pt hu0,.tuple_bool b' pt hu0⟩
   |int i'=>
    have hv:v'=.int i':=h';subst hv;obtain ⟨t',hr⟩:∃t',u'=Value.int i' t':=r';subst hr;exact ⟨.tuple_int i' t' pt hu0,.tuple_int i' t' pt hu0,.tuple_int i' t' pt hu0⟩
   |str l'=>
    obtain ⟨hv,_⟩:=h';subst hv;obtain ⟨t',hr⟩:∃t',u'=Value.str (tx l') t':=r';subst hr;exact ⟨.tuple_str (tx l') t' pt hu0,.tuple_str (tx l') t' pt hu0,.tuple_str (tx l') t' pt hu0⟩
   |tup ys=>
    obtain ⟨a',vs',hv,q',tt'⟩:=id h';subst hv;have hr:u'=Value.ref a':=r';subst hr;obtain ⟨its',rv',pt',_⟩:=I.tuple q'.sq;have pt':s.heap.IsTuple a' its'.toArray:=pt';exact aaS I ih hu hd n1 n2 h h' pt pt' rv rv' tt tt'
   |lst ys=>
    obtain ⟨a',vs',hv,q',tt'⟩:=id h';subst hv;have hr:u'=Value.ref a':=r';subst hr;obtain ⟨its',rv',pl',_⟩:=I.list q'.sq;have pt':s.heap.IsList a' its'.toArray:=pl'.isList;exact ⟨.tuple_list pt pt' hu0,.tuple_list pt pt' hu0,.tuple_list pt pt' hu0⟩
  |lst xs=>
   obtain ⟨a,vs,hv,q,tt⟩:=id h;subst hv;have hr:u=Value.ref a:=r;subst hr;obtain ⟨its,rv,pl,_⟩:=I.list q.sq;have pt:s.heap.IsList a its.toArray:=pl.isList;cases d' with
   |ref a=>rw[nr]at n2;cases n2
   |scr a=>rw[nr]at n2;cases n2
   |exn a=>rw[nr]at n2;cases n2
   |obj _ _ _=>rw[nr]at n2;cases n2
   |non=>
    have hv:v'=.non:=h';subst hv;have hr:u'=Value.none:=r';subst hr;exact ⟨.list_none pt hu0,.list_none pt hu0,.list_none pt hu0⟩
   |bl b'=>
    have hv:v'=.bl b':=h';subst hv;have hr:u'=Value.bool b':=r';subst hr;exact ⟨.list_bool b' pt hu0,.list_bool b' pt hu0,.list_bool b' pt hu0⟩
   |int i'=>
    have hv:v'=.int i':=h';subst hv;obtain ⟨t',hr⟩:∃t',u'=Value.int i' t':=r';subst hr;exact ⟨.list_int i' t' pt hu0,.list_int i' t' pt hu0,.list_int i' t' pt hu0⟩
   |str l'=>
    obtain ⟨hv,_⟩:=h';subst hv;obtain ⟨t',hr⟩:∃t',u'=Value.str (tx l') t':=r';subst hr;exact ⟨.list_str (tx l') t' pt hu0,.list_str (tx l') t' pt hu0,.list_str (tx l') t' pt hu0⟩
   |tup ys=>
    obtain ⟨a',vs',hv,q',tt'⟩:=id h';subst hv;have hr:u'=Value.ref a':=r';subst hr;obtain ⟨its',rv',pt',_⟩:=I.tuple q'.sq;have pt':s.heap.IsTuple a' its'.toArray:=pt';exact ⟨.list_tuple pt pt' hu0,.list_tuple pt pt' hu0,.list_tuple pt pt' hu0⟩
   |lst ys=>
    obtain ⟨a',vs',hv,q',tt'⟩:=id h';subst hv;have hr:u'=Value.ref a':=r';subst hr;obtain ⟨its',rv',pl',_⟩:=I.list q'.sq;have pt':s.heap.IsList a' its'.toArray:=pl'.isList;exact aaT I ih hu hd n1 n2 (λz=>by subst z;have e:=uf I n1 n2 h h';injection e) pt pt' rv rv' tt tt'
end
def FA(F:FZ)(G:DH):FZ:=λa=>F a\/∃o,G a=some o
theorem Ft{H:Hp}{F:FZ}{G:DH}:Ext H F H (FA F G):=⟨λ_ f=>.inl f,λ_ _=>rfl,λ_ _ h=>h,λ_ _ _ h=>h⟩
theorem uh{K:PF}{H:Hp}{F:FZ}{G:DH}{d:D}{v:V}(r:R K H F G)(h:Rep K H F d v):Rep K H (FA F G) (view G d) v:=by
 cases d with
 |ref p=>
  have hv:v=.ref p:=h;cases g:G p with
  |none=>
   have e:view G (.ref p)=.ref p:=by simp only[view,g]
   rw[e];exact hv
  |some o=>
   cases o with
   |lst ds=>
    have e:view G (.ref p)=.lst ds:=by simp only[view,g]
    rw[e];obtain ⟨vs,q,t⟩:=r.lst g;exact ⟨p,vs,hv,⟨.inr ⟨_,g⟩,q⟩,Reps.ext Ft t⟩
 |_=>exact Rep.ext Ft h
def rC2(K:PF)(f:D->D->(Bool->Prop)->Prop):R2:=λx y H Q=>∃F G a b,R K H F G/\Rep K H F a x/\Rep K H F b y/\f (view G a) (view G b) (λc=>PV K H F Q (.bl c) G)
section
variable {X:Cx}
theorem Fv(c:Nat)(l:List Nat):(!(Builtin.Str.occurrences (tx l) (tx [c]) 0 (tx l).length 1).isEmpty)=l.contains c:=by have:=StrLaws.found_one (tx l) c;rw[this,Bool.eq_iff_iff];simp
theorem aaU{pins:List (Addr×Obj)}{σ:L2.St}{H:Hp}{s:Shared}{F:FZ}(I:Inv X pins σ H s){A:Around}{x:D}{v:V}{u:Value}(hu:A.units+64 < cLine)(hx:nr x=true)(rx:Rep X.K H F x v)(ru:RelV v u):
  ∀{ds:List D}{vs:List V}{us:List Value},nrs ds=true->aX ds<=60->Reps X.K H F ds vs->Vals vs us->∃e:Value->Bool,(∀y∈us,SeqAt.EqAt A s y u (e y))/\us.any e=isIn x ds:=by
 intro ds vs us hn hd t r;let P:Value->D->Prop:=λy d=>nr d=true/\∃v,Rep X.K H F d v/\RelV v y
 have one:∀y d d',P y d->P y d'->d=d':=λy d d' ⟨n,v,q,z⟩ ⟨n',v',q',z'⟩=>by
  have e:=z.inj z';subst e;exact uf I n n' q q'
 have ⟨f,hf⟩:∃f:Value->D,∀y d,P y d->f y=d:=by refine ⟨λy=>Classical.epsilon (P y),λy d h=>?_⟩;exact one y _ _ (Classical.epsilon_spec ⟨d,h⟩) h
 refine ⟨λy=>deq (f y) x,?_,?_⟩
 ·skip;have key:∀{ds:List D}{vs:List V}{us:List Value},nrs ds=true->aX ds<=60->Reps X.K H F ds vs->Vals vs us->∀y∈us,SeqAt.EqAt A s y u (deq (f y) x):=by
   intro ds;induction ds with
   |nil=>
    intro vs us _ _ t r y hy;have t:vs=[]:=t;subst t;cases r;cases hy
   |cons d ds ih=>
    intro vs us hn hd t r y hy;obtain ⟨v1,r1,e,h1,t1⟩:=t;subst e;rw[nrs,ae]at hn;rw[aX]at hd;cases r with
    |cons p q=>
     rcases bi.mp hy with e |hy
     ·subst e;rw[hf _ d ⟨hn.1,_,h1,p⟩];exact (ym I 60 A d x v1 v _ u (by omega) (by omega) hn.1 hx h1 rx p ru).2.1
     ·exact ih hn.2 (by omega) t1 q y hy
  exact key hn hd t r
 ·have key:∀{ds:List D}{vs:List V}{us:List Value},nrs ds=true->Reps X.K H F ds vs->Vals vs us->us.any (λy=>deq (f y) x)=isIn x ds:=by
   intro ds;induction ds with
   |nil=>
    intro vs us _ t r;have t:vs=[]:=t;subst t;cases r;rfl
   |cons d ds ih=>
    intro vs us hn t r;obtain ⟨v1,r1,e,h1,t1⟩:=t;subst e;rw[nrs,ae]at hn;cases r with
    |cons p q=>
     rw[List.any_cons,hf _ d ⟨hn.1,_,h1,p⟩,ih hn.2 t1 q];rfl
  exact key hn t r
theorem jB(op:CmpOp)(hu:X.A.units+100 < cLine):OpR X (compareOp op) (rC2 X.K (aY op)):=by
 intro pins s σ H x y v u Q I rx ry h;obtain ⟨F,G,a,b,r,ra,rb,h⟩:=h;have ra':=uh r ra;have rb':=uh r rb;generalize ea:view G a=va at h ra';generalize eb:view G b=vb at h rb';have fin:∀c:Bool,PV X.K H F Q (.bl c) G->EP X pins σ Q (.bool c) s:=λc q=>⟨.bl c,H,I,rfl,q.now r rfl⟩;have hin:∀(l:List D)(k:Bool->Prop),(nr va=true/\nrs l=true/\aX l<=60)->∀{vs:List V}{us:List Value},Reps X.K H (FA F G) l vs->Vals vs us->
   ∃e:Value->Bool,(∀z∈us,SeqAt.EqAt X.A.in1 s z v (e z))/\us.any e=isIn va l:=λl k hh {vs us} t rv=>
  aaU I (A:=X.A.in1) (by show X.A.units+1+64 < cLine;omega) hh.1 ra' rx hh.2.1 hh.2.2 t rv
 cases op with
 |Eq=>
  obtain ⟨⟨n1,n2,n3⟩,q⟩:=h;exact (ym I 60 X.A _ _ x y v u (by omega) n3 n1 n2 ra' rb' rx ry).1 _ _ _ _ (fin _ q)
 |NotEq=>
  obtain ⟨⟨n1,n2,n3⟩,q⟩:=h;exact (ym I 60 X.A _ _ x y v u (by omega) n3 n1 n2 ra' rb' rx ry).2.2 _ _ _ _ (fin _ q)
 |Lt=>
  have h:jn va vb (λc=>PV X.K H F Q (.bl c) G):=h;unfold jn at h;split at h
  ·have e1:x=.int _:=ra';have e2:y=.int _:=rb';subst e1;subst e2;obtain ⟨t,rfl⟩:=rx;obtain ⟨t',rfl⟩:=ry;exact lt_int (fin _ h)
  ·obtain ⟨e1,_⟩:=ra';obtain ⟨e2,_⟩:=rb';subst e1;subst e2;obtain ⟨t,rfl⟩:=rx;obtain ⟨t',rfl⟩:=ry;exact lt_str (fin _ h)
  ·exact h.elim
 |LtE=>
  have h:jo va vb (λc=>PV X.K H F Q (.bl c) G):=h;unfold jo at h;split at h
  ·have e1:x=.int _:=ra';have e2:y=.int _:=rb';subst e1;subst e2;obtain ⟨t,rfl⟩:=rx;obtain ⟨t',rfl⟩:=ry;exact le_int (fin _ h)
  ·obtain ⟨e1,_⟩:=ra';obtain ⟨e2,_⟩:=rb';subst e1;subst e2;obtain ⟨t,rfl⟩:=rx;obtain ⟨t',rfl⟩:=ry;exact PySem.P.le_str (fin _ h)
  ·exact h.elim
 |Gt=>
  have h:jq va vb (λc=>PV X.K H F Q (.bl c) G):=h;unfold jq at h;split at h
  ·have e1:x=.int _:=ra';have e2:y=.int _:=rb';subst e1;subst e2;obtain ⟨t,rfl⟩:=rx;obtain ⟨t',rfl⟩:=ry;exact gt_int (fin _ h)
  ·exact h.elim
 |GtE=>
  have h:jr va vb (λc=>PV X.K H F Q (.bl c) G):=h;unfold jr at h;split at h
  ·have e1:x=.int _:=ra';have e2:y=.int _:=rb';subst e1;subst e2;obtain ⟨t,rfl⟩:=rx;obtain ⟨t',rfl⟩:=ry;exact ge_int (fin _ h)
  ·exact h.elim
 |Is=>
  have h:jt va vb (λc=>PV X.K H F Q (.bl c) G):=h;unfold jt at h;split at h
  ·have e2:y=.non:=rb';subst e2;have q:∀c,(c=decide (x=.non))->PV X.K H F Q (.bl c) G->wpAny (model X.prog X.w) X.A (compareOp .Is v u) (EP X pins σ Q) X.xe s:=λc e q=>
    Xx pins s σ H _ _ v u Q I rx ry ⟨rfl,by rw[<-e];exact q.now r rfl⟩
   refine q _ ?_ h;have:qR va=decide (x=.non):=by
    cases va with
    |non=>have e1:x=.non:=ra';subst e1;rfl
    |bl _=>have e1:x=.bl _:=ra';subst e1;rfl
    |int _=>have e1:x=.int _:=ra';subst e1;rfl
    |str _=>obtain ⟨e1,_⟩:=ra';subst e1;rfl
    |tup _=>obtain ⟨_,_,e1,_⟩:=ra';subst e1;rfl
    |lst _=>obtain ⟨_,_,e1,_⟩:=ra';subst e1;rfl
    |ref _=>have e1:x=.ref _:=ra';subst e1;rfl
    |scr _=>obtain ⟨_,e1,_⟩:=ra';subst e1;rfl
    |exn _=>obtain ⟨_,_,e1,_⟩:=ra';subst e1;rfl
    |obj _ _ _=>obtain ⟨_,_,_,e1,_⟩:=ra';subst e1;rfl
   rw[this]
  ·split at h
   ·have e1:x=.bl _:=ra';have e2:y=.bl _:=rb';subst e1;subst e2;exact ZS pins s σ H _ _ v u Q I rx ry ⟨_,_,rfl,rfl,h.now r rfl⟩
   ·exact h.elim
  ·exact h.elim
 |IsNot=>
  have h:ju va vb (λc=>PV X.K H F Q (.bl c) G):=h;unfold ju at h;split at h
  ·have e2:y=.non:=rb';subst e2;have q:∀c,(c=!decide (x=.non))->PV X.K H F Q (.bl c) G->wpAny (model X.prog X.w) X.A (compareOp .IsNot v u) (EP X pins σ Q) X.xe s:=λc e q=>
    Xy pins s σ H _ _ v u Q I rx ry ⟨rfl,by rw[<-e];exact q.now r rfl⟩
   refine q _ ?_ h;have:qR va=decide (x=.non):=by
    cases va with
    |non=>have e1:x=.non:=ra';subst e1;rfl
    |bl _=>have e1:x=.bl _:=ra';subst e1;rfl
    |int _=>have e1:x=.int _:=ra';subst e1;rfl
    |str _=>obtain ⟨e1,_⟩:=ra';subst e1;rfl
    |tup _=>obtain ⟨_,_,e1,_⟩:=ra';subst e1;rfl
    |lst _=>obtain ⟨_,_,e1,_⟩:=ra';subst e1;rfl
    |ref _=>have e1:x=.ref _:=ra';subst e1;rfl
    |scr _=>obtain ⟨_,e1,_⟩:=ra';subst e1;rfl
    |exn _=>obtain ⟨_,_,e1,_⟩:=ra';subst e1;rfl
    |obj _ _ _=>obtain ⟨_,_,_,e1,_⟩:=ra';subst e1;rfl
   rw[this]
  ·split at h
   ·have e1:x=.bl _:=ra';have e2:y=.bl _:=rb';subst e1;subst e2;exact Z1 pins s σ H _ _ v u Q I rx ry ⟨_,_,rfl,rfl,h.now r rfl⟩
   ·exact h.elim
  ·exact h.elim
 |In=>
  have h:fO va vb (λc=>PV X.K H F Q (.bl c) G):=h;unfold fO at h;split at h
  ·split at h
   ·obtain ⟨e1,_⟩:=ra';obtain ⟨e2,_⟩:=rb';subst e1;subst e2;obtain ⟨t,rfl⟩:=rx;obtain ⟨t',rfl⟩:=ry;exact in_str (by rw[Fv];exact fin _ h)
   ·exact h.elim
  ·obtain ⟨hh,q⟩:=h;obtain ⟨p,vs,e2,q2,t⟩:=rb';subst e2;cases ry;obtain ⟨its,rv,pl,hz⟩:=I.list q2.sq;obtain ⟨e,he,hany⟩:=hin _ (λ_=>True) hh t rv;refine SeqAt.in_listAt e pl.isList (λw hw=>he w (by simpa using hw)) ?_;rw[show its.toArray.any e=its.any e by simp,hany];exact fin _ q
  ·obtain ⟨hh,q⟩:=h;obtain ⟨p,vs,e2,q2,t⟩:=rb';subst e2;cases ry;obtain ⟨its,rv,pl,hz⟩:=I.tuple q2.sq;obtain ⟨e,he,hany⟩:=hin _ (λ_=>True) hh t rv;refine SeqAt.in_tupleAt e pl (λw hw=>he w (by simpa using hw)) ?_;rw[show its.toArray.any e=its.any e by simp,hany];exact fin _ q
  ·exact h.elim
 |NotIn=>
  have h:fO va vb (λc=>PV X.K H F Q (.bl (!c)) G):=h;unfold fO at h;split at h
  ·split at h
   ·obtain ⟨e1,_⟩:=ra';obtain ⟨e2,_⟩:=rb';subst e1;subst e2;obtain ⟨t,rfl⟩:=rx;obtain ⟨t',rfl⟩:=ry;exact notIn_str (by rw[Fv];exact fin _ h)
   ·exact h.elim
  ·obtain ⟨hh,q⟩:=h;obtain ⟨p,vs,e2,q2,t⟩:=rb';subst e2;cases ry;obtain ⟨its,rv,pl,hz⟩:=I.list q2.sq;obtain ⟨e,he,hany⟩:=hin _ (λ_=>True) hh t rv;refine SeqAt.notIn_listAt e pl.isList (λw hw=>he w (by simpa using hw)) ?_;rw[show its.toArray.any e=its.any e by simp,hany];exact fin _ q
  ·obtain ⟨hh,q⟩:=h;obtain ⟨p,vs,e2,q2,t⟩:=rb';subst e2;cases ry;obtain ⟨its,rv,pl,hz⟩:=I.tuple q2.sq;obtain ⟨e,he,hany⟩:=hin _ (λ_=>True) hh t rv;refine SeqAt.notIn_tupleAt e pl (λw hw=>he w (by simpa using hw)) ?_;rw[show its.toArray.any e=its.any e by simp,hany];exact fin _ q
  ·exact h.elim
end
section
variable {X:Cx}
def aaV(K:PF):R2:=λx y H Q=>∃F G a b,R K H F G/\Rep K H F a x/\Rep K H F b y/\cD (view G a) b (λd=>PV K H F Q d G)
theorem Fw{K:PF}{H:Hp}{F:FZ}{ds:List D}{vs:List V}{i:Int}{d:D}(t:Reps K H F ds vs)(h:atI ds i=some d):∃v,atI vs i=some v/\Rep K H F d v:=by
 unfold atI at h ⊢;rw[<-t.length];cases e:ixN ds.length i with
 |none=>rw[e]at h;cases h
 |some j=>
  rw[e]at h;obtain ⟨v,e1,r⟩:=t.get (show ds[j]?=some d from h);exact ⟨v,e1,r⟩
theorem aaW:IxR X (aaV X.K):=by
 intro value slice pins s σ H x y v u Q I rx ry h hs;obtain ⟨F,G,a,b,r,ra,rb,h⟩:=h;generalize ea:view G a=va at h;unfold cD at h;split at h
 ·obtain ⟨p,vs,e,q,t⟩:=Rep.list r ra ea;subst e;have e2:y=.int _:=rb;subst e2;split at h
  ·rename_i d hd;obtain ⟨w,hw,rw'⟩:=Fw t hd;exact YX value slice pins s σ H _ _ v u Q I rx ry ⟨p,vs,_,w,rfl,rfl,q,hw,h.now r rw'⟩ hs
  ·exact h.elim
 ·cases gw ea;obtain ⟨p,vs,e,q,t⟩:=ra;subst e;have e2:y=.int _:=rb;subst e2;split at h
  ·rename_i d hd;obtain ⟨w,hw,rw'⟩:=Fw t hd;exact YZ value slice pins s σ H _ _ v u Q I rx ry ⟨p,vs,_,w,rfl,rfl,q.sq,hw,h.now r rw'⟩ hs
  ·exact h.elim
 ·cases gA ea;obtain ⟨e,hl⟩:=ra;subst e;have e2:y=.int _:=rb;subst e2;split at h
  ·rename_i c hc;exact Y0 value slice pins s σ H _ _ v u Q I rx ry ⟨_,_,c,rfl,rfl,by rw[bU];exact cY hl,hc,h.now r ⟨rfl,by show 1<=sz;decide⟩⟩ hs
  ·exact h.elim
 ·exact h.elim
theorem aaX(l:List Nat)(lo hi:Option Int):Txt.slice (tx l) lo hi=tx (cut l lo hi):=by
 have e:Builtin.Str.strSliceIndices lo hi 1 (tx l).length=sliceRange (sliceBounds lo hi none (tx l).length).1 (sliceBounds lo hi none (tx l).length).2.1 1:=by unfold Builtin.Str.strSliceIndices sliceBounds;cases lo <;> cases hi <;> rfl
 obtain ⟨h1,h2,h3⟩:=Dm lo hi (tx l).length;rw[h1,h2,sliceRange_one]at e;have e2:((Builtin.Str.strSliceIndices lo hi 1 (tx l).length).filterMap ((tx l).cps[·]?))=cut l lo hi:=by rw[e,pick_run];unfold cut;rw[bU]
 unfold Txt.slice;split
 ·rename_i hh;rw[ae]at hh;have hl:=eq_of_beq hh.2;rw[e,ag,List.length_range,bU]at hl;have b1:HT.sIx l.length l.length hi<=l.length:=HT.Df _ _ (ay _) hi;unfold cut;by_cases hz:l=[]
  ·subst hz;simp
  ·have hp:0 < l.length:=dn.mpr hz;have e3:HT.sIx l.length 0 lo=0:=by omega
   have e4:HT.sIx l.length l.length hi=l.length:=by omega
   rw[e3,e4];simp
 ·rw[e2]
theorem aaY{α:Type}(xs:List α)(lo hi:Option Int):(cut xs lo hi).length<=xs.length:=by unfold cut;rw[bb,bS];omega
theorem aaZ{prog:Program}{w:World}{A:Around}{E:Value->Shared->Prop}{s:Shared}{t sl:Addr}{items:Array Value}{vl vu:Value}{lo hi:Option Int}{Q:Value->Shared->Prop}(ht:IsTup s.heap t items)(hs:s.heap.IsSliceOf sl vl vu .none)(pl:IsPart vl lo)(pu:IsPart vu hi)
  (hw:HT.sIx items.size 0 lo=0/\HT.sIx items.size items.size hi=items.size) (h:Q (.ref t) s):wpAny (model prog w) A (getItem (.ref t) (.ref sl)) Q E s:=by
 obtain ⟨os,hos,hcs,hds⟩:=id hs;have hTs:s.TypeIs (.ref sl) "slice":=⟨os,hos,hcs⟩;unfold getItem;try with_reducible refine e6 ?_
 first |refine ah (bn ?_) |skip
 refine ah (wpAny_sequenceKey ht.typeIs (by decide) ?_);refine ah (e9 (name:=Str.ofString "__getitem__") ht.typeIs eT
  (gg eT ht.typeIs entry_tuple_getitem ?_ (args_tuple_getitem _ _)))
 show wpAny _ _ (Builtin.Tuple.tupleItemsOf (.ref t) >>= _) _ _ s;refine ah (tupleItemsOf_ ht ?_);refine ah (wpAny_typeOf hTs ?_);rw[if_pos (by decide)];refine ah (HT.Di hs pl pu ?_);have hyes:(((HT.sIx items.size 0 lo:Nat):Int)==0&&(1:Int)==1&&(HT.sIx items.size items.size hi - HT.sIx items.size 0 lo)==items.size)=true:=by rw[hw.1,hw.2];simp
 show wpAny _ _ (if (((HT.sIx items.size 0 lo:Nat):Int)==0&&(1:Int)==1&&(HT.sIx items.size items.size hi - HT.sIx items.size 0 lo)==items.size)=true then _ else _) _ _ s;rw[if_pos hyes];refine ah (m:=Builtin.Tuple.tupleIsExact _) (ah (wpAny_typeOf ht.typeIs (bn ?_)));rw[if_pos (by decide)];exact ah (wpAny_rule (bn ⟨_,rfl,bn h⟩))
theorem aa0:SlR X (λx lo hi H Q=>∃a xs,x=.ref a/\SqT X.K H a xs/\(HT.sIx xs.length 0 lo=0/\HT.sIx xs.length xs.length hi=xs.length)/\Q (.ref a) H):=by
 intro pins s σ H x v vl vu lo hi sl Q I rx hs pl pu h;obtain ⟨a,xs,rfl,hx,hw,q⟩:=h;cases rx;obtain ⟨its,r,ht,hz⟩:=I.tuple hx;have hlen:its.toArray.size=xs.length:=by rw[ar];exact r.length.symm
 exact ⟨"tuple",_,eT.lookup,ht.typeIs,aaZ ht hs pl pu (by rw[hlen];exact hw) ⟨.ref a,H,I,rfl,q⟩⟩
theorem Fx{K:PF}{H:Hp}{F:FZ}:∀ns:List Int,Reps K H F (ns.map D.int) (ns.map V.int)
 |[]=>rfl
 |n::ns=>⟨_,_,rfl,rfl,Fx ns⟩
noncomputable def aa1(K:PF)(fz:Bool):V->Option Int->Option Int->Hp->VK->Prop:=λx lo hi H Q=>∃F G a,R K H F G/\Rep K H F a x/\dW fz (view G a) lo hi G (PV K H F Q)
theorem Fy{K:PF}{H:Hp}{F:FZ}{ds:List D}{vs:List V}(t:Reps K H F ds vs)(lo hi:Option Int):Reps K H F (cut ds lo hi) (dO vs lo hi):=t.cut lo hi
theorem aa2(fz:Bool):SlR X (aa1 X.K fz):=by
 intro pins s σ H x v vl vu lo hi sl Q I rx hs pl pu h;obtain ⟨F,G,a,r,ra,h⟩:=h;generalize ea:view G a=va at h;unfold dW at h;split at h
 ·obtain ⟨p,vs,e,q,t⟩:=Rep.list r ra ea;subst e;exact Do pins s σ H _ v vl vu lo hi sl Q I rx hs pl pu ⟨p,vs,rfl,q,fX h r (Fy t lo hi)⟩
 ·rename_i ns;have ea':a=.scr ns:=by
   cases a with
   |ref p=>
    unfold view at ea;cases g:G p with
    |none=>simp only[g]at ea;cases ea
    |some o=>cases o;simp only[g]at ea;cases ea
   |_=>exact ea
  subst ea';obtain ⟨p,e,q⟩:=ra;subst e;refine Do pins s σ H _ v vl vu lo hi sl Q I rx hs pl pu ⟨p,_,rfl,q.sq,fX h r ?_⟩;have e2:dO (ns.map V.int) lo hi=(cut ns lo hi).map V.int:=by unfold dO cut;rw[ag,List.map_take,List.map_drop]
  rw[e2];exact Fx (cut ns lo hi)
 ·cases gw ea;obtain ⟨p,vs,e,q,t⟩:=id ra;subst e;by_cases hw:HT.sIx vs.length 0 lo=0/\HT.sIx vs.length vs.length hi=vs.length
  ·refine aa0 pins s σ H _ v vl vu lo hi sl Q I rx hs pl pu ⟨p,vs,rfl,q.sq,hw,?_⟩;refine h.now r ?_;rename_i ds;have:cut ds lo hi=ds:=by
    unfold cut;rw[t.length,hw.1,hw.2];simp[<-t.length]
   rw[this];exact ra
  ·exact YK pins s σ H _ v vl vu lo hi sl Q I rx hs pl pu ⟨p,vs,rfl,q.sq,hw,kZ h r (Fy t lo hi)⟩
 ·cases gA ea;obtain ⟨e,hl⟩:=ra;subst e;refine ZX pins s σ H _ v vl vu lo hi sl Q I rx hs pl pu ⟨_,rfl,by rw[bU];exact cY hl,?_⟩;rw[aaX];exact h.now r ⟨rfl,bv (aaY _ _ _) hl⟩
 ·exact h.elim
theorem FJ{K:PF}{H:Hp}{F:FZ}{G:DH}{d:D}{v:V}{b:Bool}(r:R K H F G)(h:Rep K H F d v)(e:truth (view G d)=some b):qG K v H b:=by
 have h':=uh r h;generalize view G d=w at e h';cases w with
 |non=>have e1:v=.non:=h';subst e1;simp only[truth,a7]at e;exact e.symm
 |bl x=>have e1:v=.bl x:=h';subst e1;simp only[truth,a7]at e;exact e.symm
 |int i=>have e1:v=.int i:=h';subst e1;simp only[truth,a7]at e;exact e.symm
 |str l=>
  obtain ⟨e1,hl⟩:=h';subst e1;simp only[truth,a7]at e;refine ⟨by rw[bU];exact cY hl,?_⟩;rw[bU,<-e];cases l with
  |nil=>rfl
  |cons c l=>simp;omega
 |tup l=>
  obtain ⟨a,vs,e1,q,t⟩:=h';subst e1;simp only[truth,a7]at e;refine .inr (.inl ⟨vs,q.sq,?_⟩);rw[<-e];cases l with
  |nil=>have t:vs=[]:=t;subst t;rfl
  |cons c l=>obtain ⟨_,_,e2,_⟩:=t;subst e2;rfl
 |lst l=>
  obtain ⟨a,vs,e1,q,t⟩:=h';subst e1;simp only[truth,a7]at e;refine .inl ⟨vs,q.sq,?_⟩;rw[<-e];cases l with
  |nil=>have t:vs=[]:=t;subst t;rfl
  |cons c l=>obtain ⟨_,_,e2,_⟩:=t;subst e2;rfl
 |ref a=>simp[truth]at e
 |scr a=>simp[truth]at e
 |exn a=>simp[truth]at e
 |obj _ _ _=>simp[truth]at e
theorem ul{K:PF}{H:Hp}{F:FZ}:∀{ds:List D}{vs:List V}{bs:List Bool},bools ds=some bs->Reps K H F ds vs->vs=bs.map V.bl
 |[],_,bs,e,h=>by
  simp only[bools,a7]at e;subst e;exact h
 |d::ds,_,bs,e,⟨v,w,e1,h,t⟩=>by
  cases d with
  |bl b=>
   simp only[bools]at e;cases q:bools ds with
   |none=>rw[q]at e;cases e
   |some s=>
    rw[q]at e;cases e;have hv:v=.bl b:=h;rw[e1,hv,ul q t];rfl
  |_=>simp[bools]at e
theorem bC{K:PF}{H:Hp}{F:FZ}{d:D}{vs:List V}(t:Reps K H F [d] vs):∃v,vs=[v]/\Rep K H F d v:=by obtain ⟨v,r,e,h,t⟩:=t;have t:r=[]:=t;subst t;exact ⟨v,e,h⟩
noncomputable def iy(K:PF)(f:Bf):List V->Hp->VK->Prop:=λvs H Q=>∃F G ds,R K H F G/\Reps K H F ds vs/\opB f (ds.map (view G)) (λd=>PV K H F Q d G)
theorem map_one{G:DH}{ds:List D}{x:D}(h:ds.map (view G)=[x]):∃d,ds=[d]/\view G d=x:=by
 match ds,h with
 |[d],h=>exact ⟨d,rfl,by simpa using h⟩
theorem aa3:bJ X (.builtin "len") (iy X.K .len):=by
 intro pins s σ H xs us Q I rs h;obtain ⟨F,G,ds,r,t,h⟩:=h;generalize ea:ds.map (view G)=va at h;simp only[opB,wX]at h;split at h
 ·obtain ⟨d,rfl,ev⟩:=map_one ea;obtain ⟨v,rfl,rv⟩:=bC t;obtain ⟨a,vs,e,q,t'⟩:=Rep.list r rv ev;subst e;exact Dp pins s σ H _ us Q I rs ⟨a,vs,rfl,.inl q,by rw[<-t'.length];exact h.now r rfl⟩
 ·obtain ⟨d,rfl,ev⟩:=map_one ea;obtain ⟨v,rfl,rv⟩:=bC t;cases gw ev;obtain ⟨a,vs,e,q,t'⟩:=rv;subst e;exact Dp pins s σ H _ us Q I rs ⟨a,vs,rfl,.inr q.sq,by rw[<-t'.length];exact h.now r rfl⟩
 ·obtain ⟨d,rfl,ev⟩:=map_one ea;obtain ⟨v,rfl,rv⟩:=bC t;cases gA ev;obtain ⟨e,hl⟩:=rv;subst e;exact Y8 pins s σ H _ us Q I rs ⟨_,rfl,by rw[bU];exact cY hl,by rw[bU];exact h.now r rfl⟩
 ·exact h.elim
theorem aa4 (hc:X.calm=true):bJ X (.builtin "all") (iy X.K .all):=by
 intro pins s σ H xs us Q I rs h;obtain ⟨F,G,ds,r,t,h⟩:=h;generalize ea:ds.map (view G)=va at h;simp only[opB,qT]at h;split at h
 ·obtain ⟨d,rfl,ev⟩:=map_one ea;obtain ⟨v,rfl,rv⟩:=bC t;obtain ⟨a,vs,e,q,t'⟩:=Rep.list r rv ev;subst e;split at h
  ·rename_i bs hb;have e2:=ul hb t';subst e2;exact ZR hc pins s σ H _ us Q I rs ⟨a,bs,rfl,q,h.now r rfl⟩
  ·exact h.elim
 ·exact h.elim
theorem aa5:bJ X (.type "int") (iy X.K .int):=by
 intro pins s σ H xs us Q I rs h;obtain ⟨F,G,ds,r,t,h⟩:=h;generalize ea:ds.map (view G)=va at h;simp only[opB,qU]at h;split at h
 ·obtain ⟨d,rfl,ev⟩:=map_one ea;obtain ⟨v,rfl,rv⟩:=bC t;cases aaF ev;have e:v=.bl _:=rv;subst e;exact CG pins s σ H _ us Q I rs (.inr ⟨_,rfl,h.now r rfl⟩)
 ·obtain ⟨d,rfl,ev⟩:=map_one ea;obtain ⟨v,rfl,rv⟩:=bC t;cases dU ev;have e:v=.int _:=rv;subst e;exact CG pins s σ H _ us Q I rs (.inl ⟨_,rfl,h.now r rfl⟩)
 ·obtain ⟨d,rfl,ev⟩:=map_one ea;obtain ⟨v,rfl,rv⟩:=bC t;cases gA ev;obtain ⟨e,hl⟩:=rv;subst e;split at h
  ·rename_i n hn;exact ZV pins s σ H _ us Q I rs ⟨_,n,rfl,hn,by rw[bU];exact h.1,h.2.now r rfl⟩
  ·exact h.elim
 ·exact h.elim
theorem aa6:bJ X (.type "tuple") (iy X.K .tuple):=by
 intro pins s σ H xs us Q I rs h;obtain ⟨F,G,ds,r,t,h⟩:=h;generalize ea:ds.map (view G)=va at h;simp only[opB,wY]at h;split at h
 ·obtain ⟨d,rfl,ev⟩:=map_one ea;obtain ⟨v,rfl,rv⟩:=bC t;obtain ⟨a,vs,e,q,t'⟩:=Rep.list r rv ev;subst e;exact Ds pins s σ H _ us Q I rs ⟨a,vs,rfl,.inl ⟨q,kZ h r t'⟩⟩
 ·obtain ⟨d,rfl,ev⟩:=map_one ea;obtain ⟨v,rfl,rv⟩:=bC t;cases gw ev;obtain ⟨a,vs,e,q,t'⟩:=id rv;subst e;exact Ds pins s σ H _ us Q I rs ⟨a,vs,rfl,.inr ⟨q.sq,h.now r rv⟩⟩
 ·exact h.elim
noncomputable def FN(K:PF)(fz:Bool)(f:Lf):List V->Hp->VK->Prop:=λvs H Q=>∃F G ds,R K H F G/\Reps K H F ds vs/\cR f (ds.map (view G)) (λxs=>mk fz xs G (PV K H F Q))
theorem aa7(l:List Nat):∀(us:List Value),us.length=l.length->(∀(j:Nat)(v:Value),us[j]?=some v->∃(c:Nat)(u:Tok),l[j]?=some c/\v=Value.str ⟨#[c]⟩ u)->Vals (l.map λc=>V.str (tx [c])) us:=by
 induction l with
 |nil=>intro us h _;cases us with |nil=>exact .nil |cons _ _=>cases h
 |cons c l ih=>
  intro us h q;cases us with
  |nil=>cases h
  |cons u us=>
   obtain ⟨c',t,e1,e2⟩:=q 0 u (by simp);have e1:c=c':=by simpa using e1
   subst e1;exact .cons ⟨t,e2⟩ (ih us (by simpa using h) λj v hv=>by simpa using q (j+1) v (by simpa using hv))
theorem aa8 (hc:X.calm=true):bJ X (.type "list") (λxs H Q=>∃l:List Nat,xs=[.str (tx l)]/\l.length<=sizeLine/\∀p,H p=none->Q (.ref p) (upd H p (.lst (l.map λc=>V.str (tx [c]))))):=by
 intro pins s σ H xs us Q I r h;obtain ⟨l,rfl,hz,q⟩:=h;obtain ⟨u,rfl,t,rfl⟩:=vals1 r;have hz':(tx l).cps.size<=sizeLine:=by simpa using hz
 refine call_list_str (hn:=hz') (I.ok.hd hc) (tx l) t λh' tk acc' c' kp e hi=>?_;have hv:Vals (l.map λc=>V.str (tx [c])) acc'.toList:=by
  refine aa7 l _ ?_ λj v hv=>?_
  ·rw[dS,hi.1];simp
  ·obtain ⟨c,u,e1,e2⟩:=hi.2 j v (by rw[<-fg];exact hv);exact ⟨c,u,by simpa using e1,e2⟩
 exact ⟨.ref s.heap.objs.size,_,I.laid (t':=tk) kp (ay _) (show ObjOk X.prog X.w _ h' _ (.lst _) from ⟨by rw[ag];exact hz,acc'.toList,c',hv,by rw[Array.toArray_toList];exact e⟩),rfl,q _ (I.hok.fresh (ay _))⟩
theorem yo{K:PF}{H:Hp}{F:FZ}:∀l:List Nat,Reps K H F (l.map λc=>D.str [c]) (l.map λc=>V.str (tx [c]))
 |[]=>rfl
 |c::l=>⟨_,_,rfl,⟨rfl,by show 1<=sz;decide⟩,yo l⟩
theorem aa9 (hc:X.calm=true) (fz:Bool):bJ X (.type "list") (FN X.K fz .list):=by
 intro pins s σ H xs us Q I rs h;obtain ⟨F,G,ds,r,t,h⟩:=h;generalize ea:ds.map (view G)=va at h;simp only[cR,xf]at h;split at h
 ·obtain ⟨d,rfl,ev⟩:=map_one ea;obtain ⟨v,rfl,rv⟩:=bC t;obtain ⟨a,vs,e,q,t'⟩:=Rep.list r rv ev;subst e;exact Dq pins s σ H _ us Q I rs ⟨a,vs,rfl,.inl q,fX h r t'⟩
 ·obtain ⟨d,rfl,ev⟩:=map_one ea;obtain ⟨v,rfl,rv⟩:=bC t;cases gw ev;obtain ⟨a,vs,e,q,t'⟩:=id rv;subst e;exact Dq pins s σ H _ us Q I rs ⟨a,vs,rfl,.inr q.sq,fX h r t'⟩
 ·obtain ⟨d,rfl,ev⟩:=map_one ea;obtain ⟨v,rfl,rv⟩:=bC t;cases gA ev;obtain ⟨e,hl⟩:=rv;subst e;exact aa8 hc pins s σ H _ us Q I rs ⟨_,rfl,cY hl,fX h r (yo _)⟩
 ·exact h.elim
theorem yp{K:PF}{H:Hp}{F:FZ}:∀{ds:List D}{vs:List V}{ls:List (List Nat)},bx ds=some ls->Reps K H F ds vs->vs=(ls.map tx).map V.str
 |[],_,bs,e,h=>by
  simp only[bx,a7]at e;subst e;exact h
 |d::ds,_,bs,e,⟨v,w,e1,h,t⟩=>by
  cases d with
  |str b=>
   simp only[bx]at e;cases q:bx ds with
   |none=>rw[q]at e;cases e
   |some s=>
    rw[q]at e;cases e;obtain ⟨hv,_⟩:=h;rw[e1,hv,yp q t];rfl
  |_=>simp[bx]at e
theorem FP{K:PF}{H:Hp}{F:FZ}:∀{ds:List D}{vs:List V}{ns:List Int},cj ds=some ns->Reps K H F ds vs->vs=ns.map V.int
 |[],vs,ns,e,t=>by
  simp only[cj,a7]at e;subst e;have t:vs=[]:=t;rw[t];rfl
 |d::ds,vs,ns,e,t=>by
  obtain ⟨v,r,e1,h,t⟩:=t;cases d with
  |int b=>
   simp only[cj]at e;cases q:cj ds with
   |none=>rw[q]at e;cases e
   |some s=>
    rw[q]at e;cases e;have hv:v=.int b:=h;rw[e1,hv,FP q t];rfl
  |_=>simp[cj]at e
theorem FQ:∀{ns:List Int}{its:List Value},Vals (ns.map V.int) its->IntsAre its ns
 |[],its,h=>by cases h;exact .nil
 |n::ns,its,h=>by
  cases h with
  |cons a b=>
   obtain ⟨t,rfl⟩:=a;exact .cons n t (FQ b)
theorem FT:∀{ls:List (List Nat)}{its:List Value},Vals ((ls.map tx).map V.str) its->StrsAre its (ls.map tx)
 |[],its,h=>by cases h;exact .nil
 |n::ns,its,h=>by
  cases h with
  |cons a b=>
   obtain ⟨t,rfl⟩:=a;exact .cons _ t (FT b)
theorem FW{K:PF}{H:Hp}{F:FZ}:∀{ds:List D}{vs:List V}{ls:List (List Nat)},bx ds=some ls->Reps K H F ds vs->∀l∈ls,l.length<=sz
 |[],vs,ls,e,t=>by simp only[bx,a7]at e;subst e;intro l hl;cases hl
 |d::ds,vs,ls,e,t=>by
  obtain ⟨v,r,e1,h,t⟩:=t;cases d with
  |str b=>
   simp only[bx]at e;cases q:bx ds with
   |none=>rw[q]at e;cases e
   |some s=>
    rw[q]at e;cases e;intro l hl;rcases bi.mp hl with e |hl
    ·rw[e];exact h.2
    ·exact FW q t l hl
  |_=>simp[bx]at e
theorem Gd(val:Nat->List Nat):∀k,argBest (λi j=>decide (val i < val j)) k<=k/\∀j,j<=k->¬val j < val (argBest (λi j=>decide (val i < val j)) k)
 |0=>⟨ay _,λj hj=>by
  have:j=0:=by omega
  subst this;exact List.lt_irrefl _⟩
 |k+1=>by
  obtain ⟨h1,h2⟩:=Gd val k;simp only[argBest];by_cases hc:val (k+1) < val (argBest (λi j=>decide (val i < val j)) k)
  ·rw[if_pos (by simpa using hc)];refine ⟨ay _,λj hj=>?_⟩;rcases Nat.lt_or_ge j (k+1) with hlt |hge
   ·exact λh=>h2 j (by omega) (List.lt_trans h hc)
   ·have:j=k+1:=by omega
    subst this;exact List.lt_irrefl _
  ·rw[if_neg (by simpa using hc)];refine ⟨by omega,λj hj=>?_⟩;rcases Nat.lt_or_ge j (k+1) with hlt |hge
   ·exact h2 j (by omega)
   ·have:j=k+1:=by omega
    subst this;exact hc
section
variable {prog:Program} {w:World} {A:Around} {E:Value->Shared->Prop} {s:Shared} {l:Addr}
theorem um:∀{its:List Value}{ls:List (List Nat)}{i:Nat}{v:Value},StrsAre its (ls.map tx)->its[i]?=some v->∃t,v=.str (tx (ls.getD i [])) t
 |[],ls,i,v,_,h=>by simp at h
 |x::its,[],i,v,hs,h=>by cases hs
 |x::its,a::ls,0,v,hs,h=>by
  cases hs with
  |cons y t q=>exact ⟨t,by simpa using h.symm⟩
 |x::its,a::ls,i+1,v,hs,h=>by
  cases hs with
  |cons y t q=>
   have:=um (i:=i) (v:=v) q (by simpa using h);simpa using this
theorem aba{Q:Value->Shared->Prop}{its:List Value}{ls:List (List Nat)}(hh:A.handled=none)(hl:s.heap.IsList l its.toArray)(hs:StrsAre its (ls.map tx))(hn:its.length=ls.length)(hne:0 < ls.length)
  (h:∀(m:List Nat)(t:Tok)(h':Heap)(tk:Nat),m∈ls->(∀a,a∈ls->¬a < m)->(∀b o,s.heap.get? b=some o->h'.get? b=some o)->Q (.str (tx m) t) { s with heap:=h',toks:=tk }):
  wpAny (model prog w) A (call (.builtin "min") [.ref l]) Q E s:=by
 have hlt:l < s.heap.objs.size:=by obtain ⟨_,e,_⟩:=hl;exact aI e
 refine call_min_walk (wpAny_pyIter_list hl ?_);refine ⟨_,_,_,_,_,_,λi j=>decide (ls.getD i [] < ls.getD j []),rfl,Walks.list (A:=A.in1) hh _ l (cq hlt) its.toArray,⟨⟨_,bd _ rfl,rfl,rfl⟩,hl.push _⟩,?_,?_,?_,?_⟩
 ·intro b hb;show b < (s.heap.push _).objs.size;rw[dQ];rcases bi.mp hb with rfl |hb
  ·exact Nat.lt_succ_self _
  ·rcases bi.mp hb with rfl |hb
   ·exact Nat.lt_succ_of_lt hlt
   ·cases hb
 ·simpa [hn] using hne
 ·intro i j vi vj s Q E hi hj h;obtain ⟨t,rfl⟩:=um hs (by simpa using hi);obtain ⟨u,rfl⟩:=um hs (by simpa using hj);exact richCompare_gives (op:=.Lt) (typeIs_str s _ t) (typeIs_str s _ u) F.slot_str_lt F.entry_str_lt (F.args_str_lt_2 _ _) (gives_str_lt _ _ t u) (λe=>nomatch e) h
 ·intro v h' tk hP hk;obtain ⟨t,rfl⟩:=um hs (show its[_]?=some v by rw[<-List.getElem?_toArray];exact hP);obtain ⟨b1,b2⟩:=Gd (λi=>ls.getD i []) (its.toArray.size - 1);have hsz:its.toArray.size=ls.length:=by simpa using hn
  refine h _ t h' tk ?_ (λa ha=>?_) (old_kept hk)
  ·rw[ey,aS (by omega)];exact cw _
  ·obtain ⟨j,hj,rfl⟩:=List.getElem_of_mem ha;have:=b2 j (by omega);rwa [show ls.getD j []=ls[j] by rw[ey,aS hj];rfl]at this
end
theorem abb (hc:X.calm=true):bJ X (.builtin "min") (λxs H Q=>∃(p:Addr) (ns:List Int),xs=[.ref p]/\SqL X.K H p (ns.map V.int)/\ns≠[]/\∀m,m∈ns->(∀a,a∈ns->m<=a)->Q (.int m) H):=by
 intro pins s σ H xs us Q I r h;obtain ⟨p,ns,rfl,hq,hne,q⟩:=h;obtain ⟨u,rfl,ru⟩:=vals1 r;cases ru;obtain ⟨its,rv,pl,hz⟩:=I.list hq;have hi:=FQ rv;obtain ⟨xs,ex⟩:=hi.allInts.items;have hl:=pl.isList;rw[ex]at hl;have e1:xs.toList.map (·.1)=ns:=by rw[<-PySem.nums_intItems,<-ex];exact hi.numsOf
 have hsz:0 < xs.size:=by have:=dn.mpr hne;rw[<-e1,ag,dS]at this;exact this
 refine PySem.min_intList (I.ok.hd hc) hl hsz λv h' tk hv hk=>?_;obtain ⟨t,rfl⟩:=PySem.intItems_at hv;obtain ⟨b1,b2⟩:=PySem.argBest_lt (PySem.numAt xs) (xs.size - 1);refine ⟨.int _,H,I.kept hk,⟨t,rfl⟩,q _ ?_ λa ha=>?_⟩
 ·rw[<-e1,PySem.numAt_eq];exact PySem.getD_mem (by rw[ag,dS];omega)
 ·rw[<-e1]at ha;obtain ⟨j,hj,rfl⟩:=PySem.mem_getD ha;rw[ag,dS]at hj;rw[<-PySem.numAt_eq];exact b2 j (by omega)
theorem abd (hc:X.calm=true):bJ X (.builtin "min") (λxs H Q=>∃(p:Addr) (ls:List (List Nat)),xs=[.ref p]/\SqL X.K H p ((ls.map tx).map V.str)/\ls≠[]/\∀m,m∈ls->(∀a,a∈ls->¬a < m)->Q (.str (tx m)) H):=by
 intro pins s σ H xs us Q I r h;obtain ⟨p,ls,rfl,hq,hne,q⟩:=h;obtain ⟨u,rfl,ru⟩:=vals1 r;cases ru;obtain ⟨its,rv,pl,hz⟩:=I.list hq;have hlen:its.length=ls.length:=by rw[<-rv.length];simp
 refine aba (I.ok.hd hc) pl.isList (FT rv) hlen (dn.mpr hne) λm t h' tk h1 h2 hk=>?_;exact ⟨.str (tx m),H,I.kept hk,⟨t,rfl⟩,q m h1 h2⟩
theorem abe{ds:List D}{ls:List (List Nat)}(h0:cj ds=none)(h1:bx ds=some ls):ls≠[]:=by
 rintro rfl;cases ds with
 |nil=>simp[cj]at h0
 |cons x y=>cases x <;> simp only[bx]at h1 <;> first | (cases h1;done) | (cases hd:bx y <;> rw[hd]at h1 <;> cases h1)
theorem abf (hc:X.calm=true):bJ X (.builtin "min") (iy X.K .min):=by
 intro pins s σ H xs us Q I rs h;obtain ⟨F,G,ds,r,t,h⟩:=h;generalize ea:ds.map (view G)=va at h;simp only[opB,km]at h;split at h
 ·obtain ⟨d,rfl,ev⟩:=map_one ea;obtain ⟨v,rfl,rv⟩:=bC t;obtain ⟨a,vs,e,q,t'⟩:=Rep.list r rv ev;subst e;split at h
  ·rename_i ns hb;have e2:=FP hb t';subst e2;exact abb hc pins s σ H _ us Q I rs ⟨a,ns,rfl,q,h.1,λm h1 h2=>(h.2 m h1 h2).now r rfl⟩
  ·split at h
   ·rename_i hb0 _ ls hb;have e2:=yp hb t';have hsz:=FW hb t';subst e2;refine abd hc pins s σ H _ us Q I rs ⟨a,ls,rfl,q,?_,λm h1 h2=>(h m h1 h2).now r ⟨rfl,hsz m h1⟩⟩;exact abe (by assumption) hb
   ·exact h.elim
 ·exact h.elim
theorem abg:bootBuiltins "min"=some (.builtin "min"):=by ac_rfl
theorem abh:bJ X (.type "str") (iy X.K .str):=by
 intro pins s σ H xs us Q I r h;obtain ⟨F,G,ds,rr,t,h⟩:=h;generalize ea:ds.map (view G)=va at h;simp only[opB,w5]at h;split at h
 ·rename_i i;obtain ⟨d',rfl,ev⟩:=map_one ea;obtain ⟨v',rfl,rv⟩:=bC t;have e1:=dU ev;subst e1;have e2:v'=.int i:=rv;subst e2;obtain ⟨⟨h0,h1⟩,h2⟩:=h;have hm:(i.toNat:Int)=i:=Int.toNat_of_nonneg h0;have hl:(gC i.toNat).length<=3:=by
   have:=digits_le ⟨i.toNat,by omega⟩;unfold gC;rw[dS];exact this
  have hs:=h2.now rr (v:=.str (tx (gC i.toNat))) ⟨rfl,by have hz:sz=1000000:=rfl;omega⟩;have ht:tx (gC i.toNat)=wM i.toNat:=(wD _).symm;rw[ht]at hs;exact aap pins s σ H _ us Q I r ⟨i.toNat,by rw[hm],by omega,hs⟩
 ·exact h.elim
noncomputable def dG:D->Option String
 |.non=>some "NoneType"
 |.bl _=>some "bool"
 |.int _=>some "int"
 |.str _=>some "str"
 |.tup _=>some "tuple"
 |.lst _=>some "list"
 |_=>none
theorem abi{K:PF}{H:Hp}{F:FZ}{G:DH}{d:D}{v:V}{T:String}(r:R K H F G)(h:Rep K H F d v)(e:dG (view G d)=some T):TyOf K H v (.type T):=by
 have h':=uh r h;generalize view G d=w at e h';cases w with
 |non=>have e1:v=.non:=h';subst e1;simp only[dG,a7]at e;subst e;exact .non
 |bl x=>have e1:v=.bl x:=h';subst e1;simp only[dG,a7]at e;subst e;exact .bl x
 |int i=>have e1:v=.int i:=h';subst e1;simp only[dG,a7]at e;subst e;exact .int i
 |str l=>obtain ⟨e1,hl⟩:=h';subst e1;simp only[dG,a7]at e;subst e;exact .str _
 |tup l=>obtain ⟨a,vs,e1,q,t⟩:=h';subst e1;simp only[dG,a7]at e;subst e;exact .tup q.it
 |lst l=>obtain ⟨a,vs,e1,q,t⟩:=h';subst e1;simp only[dG,a7]at e;subst e;exact .lst q.2
 |ref a=>simp[dG]at e
 |scr a=>simp[dG]at e
 |exn a=>simp[dG]at e
 |obj _ _ _=>simp[dG]at e
def abj (K:PF):Prop:=∀T t:String,T∈["NoneType","bool","int","str","tuple","list"]->fP t=true->PySem.W.kitOne K (.type T) (.type t)=some (T==t||(T=="bool"&&t=="int"))
theorem abk{K:PF}:abj K:=by intro T t hT ht;simp only[bi,List.not_mem_nil,or_false]at hT;simp only[fP,dc,aw]at ht;rcases hT with rfl |rfl |rfl |rfl |rfl |rfl <;> rcases ht with (((rfl |rfl) |rfl) |rfl) |rfl <;> (with_unfolding_all rfl)
theorem abl {d:D} {t:String} {b:Bool} (e:isT t d=some b):∃T,dG d=some T/\T∈["NoneType","bool","int","str","tuple","list"]/\(fP t=true->b=(T==t||(T=="bool"&&t=="int"))):=by
 have comm:∀a b:String,(a==b)=(b==a):=λa b=>by rw[Bool.eq_iff_iff,aw,aw];exact ⟨Eq.symm,Eq.symm⟩
 cases d with
 |non=>
  refine ⟨"NoneType",rfl,by simp,λht=>?_⟩;simp only[isT,a7]at e;simp only[fP,dc,aw]at ht;subst e;rcases ht with (((rfl |rfl) |rfl) |rfl) |rfl <;> rfl
 |bl _=>
  refine ⟨"bool",rfl,by simp,λht=>?_⟩;simp only[isT,a7]at e;rw[<-e,comm t "bool"];rfl
 |int _=>
  refine ⟨"int",rfl,by simp,λht=>?_⟩;simp only[isT,a7]at e;rw[<-e,comm t "int"];simp
 |str _=>
  refine ⟨"str",rfl,by simp,λht=>?_⟩;simp only[isT,a7]at e;rw[<-e,comm t "str"];simp
 |tup _=>
  refine ⟨"tuple",rfl,by simp,λht=>?_⟩;simp only[isT,a7]at e;rw[<-e,comm t "tuple"];simp
 |lst _=>
  refine ⟨"list",rfl,by simp,λht=>?_⟩;simp only[isT,a7]at e;rw[<-e,comm t "list"];simp
 |ref a=>simp[isT]at e
 |scr a=>simp[isT]at e
 |exn a=>simp[isT]at e
 |obj _ _ _=>simp[isT]at e
theorem Ge(s:List Nat):∀ls:List (List Nat),Str.join (tx s) (ls.map tx)=tx (dX s ls)
 |[]=>rfl
 |[x]=>rfl
 |x::y::r=>by
  have ih:=Ge s (y::r);show tx x++tx s++Str.join (tx s) ((y::r).map tx)=_;rw[ih,qM,qM];rfl
theorem Gf(s:List Nat):∀ls:List (List Nat),(dX s ls).length<=(ls.map (·.length)).sum+ls.length * s.length
 |[]=>by simp[dX]
 |[x]=>by simp[dX]
 |x::y::r=>by
  have ih:=Gf s (y::r);simp only[dX,av,bo,List.sum_cons,cf]at ih ⊢;have:(r.length+1+1) * s.length=(r.length+1) * s.length+s.length:=by rw[Nat.succ_mul]
  omega
noncomputable def iz(K:PF)(m:Mf):V->List V->Hp->VK->Prop:=λx vs H Q=>∃F G d ds,R K H F G/\Rep K H F d x/\Reps K H F ds vs/\opM m d ds G (PV K H F Q)
theorem abm:MtR X "str.join" (iz X.K .join):=by
 intro pins s σ H x xs v us Q I rx rs h;obtain ⟨F,G,d,ds,r,rd,t,h⟩:=h;simp only[opM]at h;generalize ea:ds.map (view G)=va at h;simp only[qX]at h;split at h
 ·obtain ⟨d',rfl,ev⟩:=map_one ea;obtain ⟨v',rfl,rv⟩:=bC t;obtain ⟨a,vs,e,q,t'⟩:=Rep.list r rv ev;subst e;obtain ⟨e1,hl⟩:=rd;subst e1;split at h
  ·rename_i ls hls;have e2:=yp hls t';subst e2;refine Zw pins s σ H _ _ v us Q I rx rs ⟨_,a,_,rfl,rfl,q,?_,?_⟩
   ·have hz:=h.1;rw[eM,ag,bU,show (λx:Str=>x.length)∘tx=λl=>l.length from funext bU];have:sz=1000000:=rfl;omega
   ·rw[Ge];exact h.2.now r ⟨rfl,bv (Gf _ _) h.1⟩
  ·exact h.elim
 ·exact h.elim
theorem abn:MtM X "list.append" (iz X.K .append):=by
 intro pins s σ H x xs v us Q I rx rs h;obtain ⟨F,G,d,ds,r,rd,t,h⟩:=h;simp only[opM,qY]at h;split at h
 ·obtain ⟨v',rfl,rv⟩:=bC t;have e1:x=.ref _:=rd;subst e1;split at h
  ·rename_i ds0 hg;obtain ⟨vs,q,t'⟩:=r.lst hg;refine Zd pins s σ H _ _ v us Q I rx rs ⟨_,vs,v',rfl,rfl,q,?_,?_⟩
   ·rw[<-t'.length];exact bq h.1 szl
   ·exact h.2 _ _ _ (fM r hg) (r.write hg (t'.append (Reps.cons rv Reps.nil))) rfl
  ·exact h.elim
 ·exact h.elim
theorem abo:MtR X "list.count" (iz X.K .count):=by
 intro pins s σ H x xs v us Q I rx rs h;obtain ⟨F,G,d,ds,r,rd,t,h⟩:=h;simp only[opM]at h;generalize ea:view G d=va at h;simp only[q9]at h;split at h
 ·obtain ⟨a,vs,e,q,t'⟩:=Rep.list r rd ea;subst e;obtain ⟨v',rfl,rv⟩:=bC t;have e2:v'=.bl true:=rv;subst e2;split at h
  ·rename_i bs hbs;have e3:=ul hbs t';subst e3;exact aak pins s σ H _ _ v us Q I rx rs ⟨a,bs,rfl,rfl,q,h.now r rfl⟩
  ·exact h.elim
 ·exact h.elim
theorem abp:MtR X "list.index" (iz X.K .index):=by
 intro pins s σ H x xs v us Q I rx rs h;obtain ⟨F,G,d,ds,r,rd,t,h⟩:=h;simp only[opM]at h;generalize ea:view G d=va at h;simp only[rm]at h;split at h
 ·obtain ⟨a,vs,e,q,t'⟩:=Rep.list r rd ea;subst e;obtain ⟨v',rfl,rv⟩:=bC t;have e2:v'=.bl true:=rv;subst e2;split at h
  ·rename_i bs hbs;have e3:=ul hbs t';subst e3;exact aam pins s σ H _ _ v us Q I rx rs ⟨a,bs,rfl,rfl,q,h.1,h.2.now r rfl⟩
  ·exact h.elim
 ·exact h.elim
noncomputable def abq:V->List V->Hp->VK->Prop:=λx vs H Q=>∃(l:Addr)(xs:List V)(i:Int)(y:V),x=.ref l/\vs=[.int i,y]/\H l=some (.lst xs)/\xs.length < sizeLine/\0<=i/\i<=1000000/\Q .non (upd H l (.lst (xs.take i.toNat++y::xs.drop i.toNat)))
theorem abr{its:List Value}{i:Int}{u:Value}(h:0<=i):(its.toArray.extract 0 (if i < 0 then (i+(its.toArray.size:Int)).toNat else min i.toNat its.toArray.size)).push u++its.toArray.extract (if i < 0 then (i+(its.toArray.size:Int)).toNat else min i.toNat its.toArray.size)=(its.take i.toNat++u::its.drop i.toNat).toArray:=by
 rw[if_neg (by omega),PySem.W.kl_ins_eq,ar];by_cases hc:i.toNat<=its.length
 ·rw[Nat.min_eq_left hc]
 ·rw[gc (by omega),eh (ay _),List.drop_of_length_le (ay _),eh (by omega),List.drop_of_length_le (by omega)]
theorem abt{i:Int}(h0:0<=i)(h1:i<=1000000):¬(!Builtin.List.listFitsIndex i)=true:=by
 have:Builtin.List.listFitsIndex i=true:=by unfold Builtin.List.listFitsIndex;rw[ae];exact ⟨a8 (by omega),a8 (by omega)⟩
 rw[this];decide
theorem abu:MtM X "list.insert" abq:=by
 intro pins s σ H x vs v us Q I rx rv h;obtain ⟨l,xs,i,y,rfl,rfl,hH,hz,h0,h1,q⟩:=h;cases rx;cases rv with
 |cons r1 rv=>
  obtain ⟨t,rfl⟩:=r1;obtain ⟨u,rfl,ru⟩:=L2.Vals.one rv;obtain ⟨z,its,m,r,hl,e⟩:=I.lstM hH;refine fi PySem.F.slot_list_insert ⟨_,e,rfl⟩ PySem.F.entry_list_insert (PySem.F.args_list_insert_3 _ _ _) (PySem.AutoSeq1.list_insert_list_int_val_1 l its.toArray m i t u (abt h0 h1) (by rw[ar];omega)) ⟨e,?_⟩;refine ⟨.non,_,I.lset (its':=its.take i.toNat++u::its.drop i.toNat) hH e (abr h0) ((r.take _).append (.cons ru (r.drop _))) ?_,rfl,q⟩;rw[av,cf,bb,bS];omega
theorem abv:MtM X "list.insert" (iz X.K .insert):=by
 intro pins s σ H x xs v us Q I rx rs h;obtain ⟨F,G,d,ds,r,rd,t,h⟩:=h;simp only[opM,q8]at h;split at h
 ·rename_i i y;obtain ⟨v1,r1,rfl,rv1,t⟩:=t;obtain ⟨v',rfl,rv⟩:=bC t;have e1:x=.ref _:=rd;subst e1;have e2:v1=.int i:=rv1;subst e2;split at h
  ·rename_i ds0 hg;obtain ⟨h1,h2,h3,h4⟩:=h;obtain ⟨vs,q,t'⟩:=r.lst hg;refine abu pins s σ H _ _ v us Q I rx rs ⟨_,vs,i,v',rfl,rfl,q,?_,h2,h3,?_⟩
   ·rw[<-t'.length];exact bq h1 szl
   ·exact h4 _ _ _ (fM r hg) (r.write hg ((t'.take _).append (Reps.cons rv (t'.drop _)))) rfl
  ·exact h.elim
 ·exact h.elim
theorem abw:MtM X "list.pop" (iz X.K .pop):=by
 intro pins s σ H x xs v us Q I rx rs h;obtain ⟨F,G,d,ds,r,rd,t,h⟩:=h;simp only[opM,xg]at h;split at h
 ·rename_i i;obtain ⟨v',rfl,rv⟩:=bC t;have e1:x=.ref _:=rd;subst e1;have e2:v'=.int i:=rv;subst e2;split at h
  ·rename_i ds0 hg;obtain ⟨h1,h2,h3⟩:=h;obtain ⟨vs,q,t'⟩:=r.lst hg;split at h3
   ·rename_i y hy;obtain ⟨u,hu,ru⟩:=t'.get hy;have hlt:i.toNat < vs.length:=(am.mp hu).1;refine Zj pins s σ H _ _ v us Q I rx rs ⟨_,vs,i,i.toNat,u,rfl,rfl,q,by omega,by omega,?_,hu,?_⟩
    ·unfold seqIndex?;have e3:¬i < 0:=by omega
     simp[e3];omega
    ·rw[List.eraseIdx_eq_take_drop_succ];rw[List.eraseIdx_eq_take_drop_succ]at h3;have rw2:=r.write hg ((t'.take i.toNat).append (t'.drop (i.toNat+1)));exact h3 _ _ _ (fM r hg) rw2 (Rep.ext (fM r hg) ru)
   ·exact h3.elim
  ·exact h.elim
 ·exact h.elim
noncomputable def abx(K:PF):V->List V->Hp->VK->Prop:=λx xs H Q=>∃F G d,R K H F G/\Rep K H F d x/\xs=[]/\gF d G (PV K H F Q)
theorem aby:MtM X "list.pop" (abx X.K):=by
 intro pins s σ H x xs v us Q I rx rs h;obtain ⟨F,G,d,r,rd,rfl,h⟩:=h;unfold gF at h;split at h
 ·have e1:x=.ref _:=rd;subst e1;split at h
  ·rename_i ds0 hg;obtain ⟨vs,q,t'⟩:=r.lst hg;split at h
   ·rename_i y hy;obtain ⟨u,hu,ru⟩:=t'.get hy;refine Zh pins s σ H _ _ v us Q I rx rs ⟨_,vs,u,rfl,rfl,q,by rw[<-t'.length];exact hu,?_⟩;rw[List.dropLast_eq_take];rw[List.dropLast_eq_take]at h;have e2:=t'.length;have rw2:=r.write hg (t'.take (ds0.length - 1));rw[<-e2];exact h _ _ _ (fM r hg) rw2 (Rep.ext (fM r hg) ru)
   ·exact h.elim
  ·exact h.elim
 ·exact h.elim
theorem abz{K:PF}{H:Hp}{F:FZ}{G:DH}{d:D}{v:V}{ds:List D}(r:R K H F G)(h:Rep K H F d v)(e:view G d=.lst ds):∃a vs,v=.ref a/\H a=some (.lst vs)/\Reps K H F ds vs:=by
 cases d with
 |lst xs=>
  have e':D.lst xs=.lst ds:=e;cases e';obtain ⟨a,vs,e1,q,t⟩:=h;exact ⟨a,vs,e1,q.2,t⟩
 |ref p=>
  have hv:v=.ref p:=h;unfold view at e;cases g:G p with
  |none=>simp only[g]at e;cases e
  |some o=>
   cases o with
   |lst xs=>
    simp only[g]at e;cases e;obtain ⟨vs,q,t⟩:=r.lst g;exact ⟨p,vs,hv,q,t⟩
 |_=>cases (show _=D.lst ds from e)
theorem abA:MtM X "list.extend" (iz X.K .extend):=by
 intro pins s σ H x xs v us Q I rx rs h;obtain ⟨F,G,d,ds,r,rd,t,h⟩:=h;simp only[opM]at h;generalize ea:ds.map (view G)=va at h;simp only[qZ]at h;split at h
 ·obtain ⟨d',rfl,ev⟩:=map_one ea;obtain ⟨v',rfl,rv⟩:=bC t;obtain ⟨b,vs2,e2,q2,t2⟩:=abz r rv ev;subst e2;have e1:x=.ref _:=rd;subst e1;split at h
  ·rename_i ds0 hg;obtain ⟨vs,q,t'⟩:=r.lst hg;refine Zf pins s σ H _ _ v us Q I rx rs ⟨_,b,vs,vs2,rfl,rfl,q,q2,?_,?_⟩
   ·rw[<-t'.length,<-t2.length];exact Nat.le_of_lt (bq h.1 szl)
   ·exact h.2 _ _ _ (fM r hg) (r.write hg (t'.append t2)) rfl
  ·exact h.elim
 ·exact h.elim
theorem abB:v9 X (λo i x H Q=>∃F G a b c,R X.K H F G/\Rep X.K H F a o/\Rep X.K H F b i/\Rep X.K H F c x/\dY a b c G (λG'=>∀H' F',Ext H F H' F'->R X.K H' F' G'->Q H')):=by
 intro pins s σ H o i v ov iv u Q I ro ri rv h;obtain ⟨F,G,a,b,c,r,ra,rb,rc,h⟩:=h;unfold dY at h;split at h
 ·have e1:o=.ref _:=ra;have e2:i=.int _:=rb;subst e1;subst e2;split at h
  ·rename_i ds hg;obtain ⟨vs,q,t⟩:=r.lst hg;split at h
   ·rename_i j hj;refine set_list pins s σ H _ _ v ov iv u Q I ro ri rv ⟨_,vs,_,j,rfl,rfl,q,by rw[<-t.length];exact hj,?_⟩;exact h _ _ (fM r hg) (r.write hg (t.set rc j))
   ·exact h.elim
  ·exact h.elim
 ·exact h.elim
theorem abC(op:Operator):PIp X op (λx y H Q=>∃F G a b,R X.K H F G/\Rep X.K H F a x/\Rep X.K H F b y/\dC op a b (λd=>PV X.K H F Q d G)):=by
 intro pins s σ H x y v u Q I rx ry h;obtain ⟨F,G,a,b,r,ra,rb,h⟩:=h;unfold dC at h;split at h
 ·have e1:x=.int _:=ra;have e2:y=.int _:=rb;subst e1;subst e2;exact Xu pins s σ H _ _ v u Q I rx ry ⟨_,_,rfl,rfl,h.now r rfl⟩
 ·obtain ⟨e1,l1⟩:=ra;obtain ⟨e2,l2⟩:=rb;subst e1;subst e2;refine XN pins s σ H _ _ v u Q I rx ry ⟨_,_,rfl,rfl,by rw[bU,bU];exact cY h.1,?_⟩;rw[qM];exact h.2.now r ⟨rfl,by rw[av];exact h.1⟩
 ·have e1:x=.int _:=ra;have e2:y=.int _:=rb;subst e1;subst e2;exact Xv pins s σ H _ _ v u Q I rx ry ⟨_,_,rfl,rfl,h.now r rfl⟩
 ·exact h.elim
end
inductive SK where
 |lst (a:Addr) |tup (a:Addr) |str (x:Str) (t:Tok)
def SK.val:SK->Value
 |.lst a=>.ref a
 |.tup a=>.ref a
 |.str x t=>.str x t
def SK.cls:SK->String
 |.lst _=>"list_iterator"
 |.tup _=>"tuple_iterator"
 |.str x _=>strIterType x
def SK.obj(k:SK):Obj:={ cls:=.type k.cls,data:=.fields #[k.val,.int 0 0] }
def SK.pos(k:SK)(it:Addr)(i:Nat)(h:Heap):Prop:=∃o,h.get? it=some o/\o.cls=.type k.cls/\o.data=.fields #[k.val,.int i 0]
def SK.Sat(H:Hp)(vs:List V):SK->Prop
 |.lst a=>H a=some (.lst vs)
 |.tup a=>H a=some (.tup vs)
 |.str x _=>vs=x.cps.toList.map λc=>V.str ⟨#[c]⟩
def SK.No(e:Addr):SK->Prop
 |.lst a=>a≠e
 |.tup a=>a≠e
 |.str _ _=>True
theorem SK.Sat.no{H:Hp}{vs:List V}{k:SK}{e:Addr}(h:k.Sat H vs)(he:H e=none):k.No e:=by
 cases k with
 |lst a=>exact bw (show H a=some _ from h) he
 |tup a=>exact bw (show H a=some _ from h) he
 |str x t=>trivial
def SK.On(its:Array Value)(h:Heap):SK->Prop
 |.lst a=>h.IsList a its
 |.tup a=>h.IsTuple a its
 |.str _ _=>True
theorem SK.On.keeps{its:Array Value}{h h':Heap}{k:SK}(x:k.On its h)(kk:∀b o,k.val=.ref b->h.get? b=some o->h'.get? b=some o):k.On its h':=by
 cases k with
 |lst a=>obtain ⟨o,e,r⟩:=x;exact ⟨o,kk a o rfl e,r⟩
 |tup a=>obtain ⟨o,e,r⟩:=x;exact ⟨o,kk a o rfl e,r⟩
 |str _ _=>trivial
section
variable {prog:Program} {w:World} {A:Around} {E:Value->Shared->Prop} {s:Shared}
theorem SK.iter{k:SK}{its:Array Value}{Q:Value->Shared->Prop}(h:k.On its s.heap)(q:Q (.ref s.heap.objs.size) { s with heap:=s.heap.push k.obj }):wpAny (model prog w) A (pyIter k.val) Q E s:=by
 cases k with
 |lst a=>exact wpAny_pyIter_list h q
 |tup a=>exact wpAny_pyIter_tuple h q
 |str x t=>exact wpAny_pyIter_strU q
theorem SK.pos0{k:SK}{h:Heap}:k.pos h.objs.size 0 (h.push k.obj):=⟨_,bd _ rfl,rfl,rfl⟩
theorem SK.pos.keep{k:SK}{it:Addr}{i:Nat}{h h':Heap}(x:k.pos it i h)(kk:∀o,h.get? it=some o->h'.get? it=some o):k.pos it i h':=let ⟨o,e,r⟩:=x;⟨o,kk o e,r⟩
theorem abD{it t:Addr}{i:Nat}{items}{x:Value}{Q:Value->Shared->Prop}(hit:s.heap.IsTupleIter it t i)
  (ht:s.heap.IsTuple t items) (hx:items[i]?=some x)
  (hQ:∀h',h'.IsTupleIter it t (i+1)->Heap.SameBut it s.heap h'->Q x { s with heap:=h' }):
  wpAny (model prog w) A (Builtin.SmallTypes.nextOf (.ref it)) Q E s:=by
 obtain ⟨o,ho,hc,hd⟩:=id hit;obtain ⟨ol,hol,_,nl,hdl⟩:=ht;unfold Builtin.SmallTypes.nextOf;refine ah (e9 (name:=Str.ofString "__next__") hit.typeIs fq
  (gg fq hit.typeIs F.entry_tuple_iterator_next ?_ (F.args_tuple_iterator_next_1 _)))
 show wpAny _ _ (field (.ref it) 0 >>= _) _ _ s;refine ah (dE ho hd (x:=.ref t) rfl ?_);show wpAny _ _ (if (Value.ref t==Value.none)=true then _ else _) _ _ s;rw[if_neg (show ¬((Value.ref t==Value.none)=true) from br)];show wpAny _ _ (field (.ref it) 1 >>= _) _ _ s;refine ah (dE ho hd (x:=.int i 0) rfl ?_);show wpAny _ _ (seqItems? (.ref t) >>= _) _ _ s;refine ah (eJ hol hdl ?_);simp only[cy,hx];refine ah (wpAny_setField ho hd (by simp) (bn ⟨x,rfl,bn (hQ _ ?_ (Heap.SameBut.update ..))⟩));exact ⟨_,Heap.get?_update_self _ ho (Obj.isFreed_of_fields (Obj.data_mapFields hd _)),(Obj.cls_mapFields ..).trans hc,by
  rw[Obj.data_mapFields hd];simp[rawInt]⟩
theorem abE{it t:Addr}{i:Nat}{items}{Q:Value->Shared->Prop}(hh:A.handled=none)
  (hit:s.heap.IsTupleIter it t i) (ht:s.heap.IsTuple t items) (hx:items[i]?=none)
  (hE:∀h' e,Heap.ExtBut it s.heap h'->(∃o,h'.get? e=some o/\o.cls=.type "StopIteration")->E (.ref e) { s with heap:=h' }):
  wpAny (model prog w) A (Builtin.SmallTypes.nextOf (.ref it)) Q E s:=by
 obtain ⟨o,ho,hc,hd⟩:=id hit;obtain ⟨ol,hol,_,nl,hdl⟩:=ht;unfold Builtin.SmallTypes.nextOf;refine ah (e9 (name:=Str.ofString "__next__") hit.typeIs fq
  (gg fq hit.typeIs F.entry_tuple_iterator_next ?_ (F.args_tuple_iterator_next_1 _)))
 show wpAny _ _ (field (.ref it) 0 >>= _) _ _ s;refine ah (dE ho hd (x:=.ref t) rfl ?_);show wpAny _ _ (if (Value.ref t==Value.none)=true then _ else _) _ _ s;rw[if_neg (show ¬((Value.ref t==Value.none)=true) from br)];show wpAny _ _ (field (.ref it) 1 >>= _) _ _ s;refine ah (dE ho hd (x:=.int i 0) rfl ?_);show wpAny _ _ (seqItems? (.ref t) >>= _) _ _ s;refine ah (eJ hol hdl ?_);simp only[cy,hx];refine ah (wpAny_rule (ah (wpAny_setField ho hd (by simp) ?_)));show wpAny _ _ (newExc (.type "StopIteration") [] >>= _) _ _ _;refine ah ?_;simp only[newExc,newTuple];refine ah (wpAny_newObj_type ?_ (by size_fits));refine ah (m:=firstArgMember _ _) (wpAny_of_eq (a:=Value.none) (by first |rfl | (simp only[firstArgMember];rfl)) ?_);refine wpAny_newObj_type ?_ (by size_fits);simp only[raiseNew];refine ah (wpAny_handled ?_);first |rw[show A.in1.handled=none from hh] |rw[hh]
 refine ah (bn (wpAny_throw ?_));exact hE _ _ (((Heap.SameBut.update ..).extBut.push _).push _) ⟨_,bd _ rfl,rfl⟩
theorem abF(hh:A.handled=none)(it l:Addr)(hne:l≠it)(items:Array Value):
  Draws prog w A it [it,l] items.size (λi v=>items[i]?=some v) (λi h=>h.IsTupleIter it l i/\h.IsTuple l items) where
 live:=λ_ _ st=>let ⟨o,ho,_⟩:=st.1;⟨o,ho⟩
 frame:=λ_ _ _ st hk=>⟨let ⟨o,e,r⟩:=st.1;⟨o,hk it (by simp) o e,r⟩,let ⟨o,e,r⟩:=st.2;⟨o,hk l (by simp) o e,r⟩⟩
 item:=λi s Q E hi st hQ=>by
  refine abD st.1 st.2 (x:=items[i]) (by simp[hi]) λh' hit' hs'=>?_;exact hQ _ h' s.toks (by simp[hi]) ⟨hit',let ⟨o,e,r⟩:=st.2;⟨o,hs'.extBut l o hne e,r⟩⟩ hs'
 done:=λs Q E st hE=>abE hh st.1 st.2 (by simp) hE
end
structure Drawn(P:Program)(w:World)(A:Around)(k:SK)(it:Addr)(i:Nat)(vs:List V)(h:Heap)(fp:List Addr)(Pd:Nat->Value->Prop)(S:Nat->Heap->Prop):Prop where
 D:Draws P w A it fp vs.length Pd S
 st:S i h
 val:∀j v,Pd j v->∃x,vs[j]?=some x/\RelV x v
 pos:∀j h,S j h->k.pos it j h
 fp:∀b∈fp,b=it\/k.val=.ref b
theorem drawn{X:Cx}{pins:List (Addr×Obj)}{σ:L2.St}{H:Hp}{s:Shared}{A:Around}(hh:A.handled=none)(I:Inv X pins σ H s){k:SK}{it:Addr}{i:Nat}{vs:List V}(sat:k.Sat H vs)(hit:H it=none)(p:k.pos it i s.heap):
  ∃fp Pd S,Drawn X.prog X.w A k it i vs s.heap fp Pd S:=by
 cases k with
 |lst a=>
  have sat:H a=some (.lst vs):=sat;obtain ⟨its,r,pl,_⟩:=I.list (SqL.of sat);refine ⟨[it,a],λj v=>its.toArray[j]?=some v,λj h=>h.IsListIter it a j/\h.IsList a its.toArray,?_,⟨p,pl.isList⟩,?_,λj h st=>st.1,?_⟩
  ·have D:=Draws.list (prog:=X.prog) (w:=X.w) hh it a (bw sat hit) its.toArray;rw[ar,<-r.length]at D;exact D
  ·intro j v e;have e:its.toArray[j]?=some v:=e;have hj:j < vs.length:=by
    rw[r.length];have:=(fk.mp e).1;simpa using this
   obtain ⟨u,e2,r2⟩:=r.get (show vs[j]?=some vs[j] by simp[hj]);refine ⟨vs[j],by simp[hj],?_⟩;have:its[j]?=some v:=by simpa using e
   rw[this]at e2;cases e2;exact r2
  ·intro b hb;have hb:b=it\/b=a:=by simpa using hb
   rcases hb with e |e
   ·exact .inl e
   ·exact .inr (by rw[e];rfl)
 |tup a=>
  have sat:H a=some (.tup vs):=sat;obtain ⟨its,r,pl,_⟩:=I.tuple (SqT.of sat);refine ⟨[it,a],λj v=>its.toArray[j]?=some v,λj h=>h.IsTupleIter it a j/\h.IsTuple a its.toArray,?_,⟨p,pl⟩,?_,λj h st=>st.1,?_⟩
  ·have D:=abF (prog:=X.prog) (w:=X.w) hh it a (bw sat hit) its.toArray;rw[ar,<-r.length]at D;exact D
  ·intro j v e;have e:its.toArray[j]?=some v:=e;have hj:j < vs.length:=by
    rw[r.length];have:=(fk.mp e).1;simpa using this
   obtain ⟨u,e2,r2⟩:=r.get (show vs[j]?=some vs[j] by simp[hj]);refine ⟨vs[j],by simp[hj],?_⟩;have:its[j]?=some v:=by simpa using e
   rw[this]at e2;cases e2;exact r2
  ·intro b hb;have hb:b=it\/b=a:=by simpa using hb
   rcases hb with e |e
   ·exact .inl e
   ·exact .inr (by rw[e];rfl)
 |str x t=>
  have sat:vs=x.cps.toList.map λc=>V.str ⟨#[c]⟩:=sat;refine ⟨[it],λi v=>∃c u,x.cps[i]?=some c/\v=.str ⟨#[c]⟩ u,λi h=>h.IsStrIter it (strIterType x) x t i,?_,p,?_,λj h st=>st,?_⟩
  ·have D:=ZM (prog:=X.prog) (w:=X.w) hh it x t;have e:x.cps.size=vs.length:=by rw[sat,ag,dS]
   rw[e]at D;exact D
  ·rintro j v ⟨c,u,e1,e2⟩;refine ⟨V.str ⟨#[c]⟩,?_,u,e2⟩;rw[sat,aE,fg,e1];rfl
  ·intro b hb;exact .inl (by simpa using hb)
def Jk(k:SK):It:=⟨λi H=>∃vs,k.Sat H vs/\i < vs.length,λi H x H'=>H'=H/\∀vs,k.Sat H vs->vs[i]?=some x,λi H=>∃vs,k.Sat H vs/\vs.length=i⟩
def Je(k:SK):It:=⟨λi H=>∃vs,k.Sat H vs/\i < vs.length,λi H x H'=>∃T y,H T=none/\x=.ref T/\H'=upd H T (.tup [.int i,y])/\∀vs,k.Sat H vs->vs[i]?=some y,λi H=>∃vs,k.Sat H vs/\vs.length=i⟩
theorem yq{H:Hp}{k:SK}{vs ws:List V}(h:k.Sat H vs)(h':k.Sat H ws):vs=ws:=by
 cases k with
 |lst a=>have e:=(show H a=some _ from h).symm.trans h';cases e;rfl
 |tup a=>have e:=(show H a=some _ from h).symm.trans h';cases e;rfl
 |str x t=>exact (show vs=_ from h).trans (show ws=_ from h').symm
theorem abG{P:Program}{w:World}{K:PF}{elts:List Expr}{x1:Nat}{pos:Pos}(k:SK)(e it:Addr)(hne:e≠it):
  Turn P w K (.Tuple elts x1 pos) (Je k) [e,it] e (λi h=>(∃old,IsEnum h e it i old)/\k.pos it i h) where
 mem:=by simp
 obj:=λi h st b hb=>by
  obtain ⟨⟨old,he⟩,o,ho,c,d⟩:=st;have hb:b=e\/b=it:=by simpa using hb
  rcases hb with rfl |rfl
  ·exact ⟨_,he,λv z=>by have z':Data.fields _=Data.cell v:=z;cases z'⟩
  ·exact ⟨o,ho,λv z=>by rw[d]at z;cases z⟩
 keep:=λi h h' st kk=>⟨let ⟨old,he⟩:=st.1;⟨old,kk e (by simp) _ he⟩,st.2.keep λo ho=>kk it (by simp) o ho⟩
 item:=by
  intro X hP hw hK hc i pins s σ H E I hf st hg;subst hP hw hK;obtain ⟨vs,sat,hi⟩:=hg;obtain ⟨⟨old,he⟩,hit⟩:=st;have hfe:=hf e (by simp);have hfi:=hf it (by simp);obtain ⟨fp,Pd,S,Dr⟩:=drawn (A:=X.A.in1) (I.ok.hd hc) I sat hfi.1 hit;have helt:e < s.heap.objs.size:=aI he;have hef:e∉fp:=λhb=>by
   rcases Dr.fp e hb with z |z
   ·exact hne z
   ·have:=sat.no hfe.1;cases k with
    |lst a=>cases z;exact this rfl
    |tup a=>cases z;exact this rfl
    |str _ _=>cases z
  refine wpAny_pyNext_enum_itemD Dr.D he Dr.st hi hne hef λu h1 tk hu heo hit1 ht1 hz1 hk1=>?_;obtain ⟨x,hx,ru⟩:=Dr.val _ _ hu;refine ⟨_,rfl,?_⟩;refine wpAny_letOwnedTupleGo_enum heo λh2 he2 hs2=>?_;have hs2':Heap.SameBut e h1 h2:=hs2;have hn:H s.heap.objs.size=none:=I.hok.fresh (ay _);have k2:∀b o,b∉[e,it]->s.heap.get? b=some o->h2.get? b=some o:=λb o hb q=>by
   have hb':b≠e/\b≠it:=by simpa using hb
   exact hs2'.extBut b o hb'.1 (hk1 b o hb'.1 hb'.2 q)
  have I2:Inv X pins σ H { s with heap:=h2,toks:=tk+1 }:=I.turnedL hf k2;have ht2:h2.get? s.heap.objs.size=some { cls:=.type "tuple",data:=.seq #[.int i tk,u] }:=hs2'.extBut _ _ (fI helt) ht1;have ob:ObjOk X.prog X.w (upd H s.heap.objs.size (.tup [.int i,x])) h2 s.heap.objs.size (.tup [.int i,x]):=
   ⟨by rw[fS];simp,[.int i tk,u],.cons ⟨_,rfl⟩ (.cons ru .nil),⟨_,ht2,rfl,_,rfl⟩⟩
  have I3:=I2.track (I.fpOk (ay _) hn) ob;have nee:s.heap.objs.size≠e:=fI helt;have nei:s.heap.objs.size≠it:=by obtain ⟨o,ho,_⟩:=hit;exact fI (aI ho)
  refine ⟨.ref s.heap.objs.size,_,I3,rfl,⟨s.heap.objs.size,x,hn,rfl,rfl,λys hy=>by rw[yq hy sat];exact hx⟩,⟨⟨u,?_⟩,?_⟩,λb hb=>?_⟩
  ·show IsEnum h2 e it (((i+1:Nat)):Int) u;rw[show (((i+1:Nat):Int))=(i:Int)+1 by omega];exact he2
  ·exact (Dr.pos _ _ hit1).keep λo ho=>hs2'.extBut _ _ (Ne.symm hne) ho
  ·have hb':b=e\/b=it:=by simpa using hb
   rw[aJ (by rcases hb' with rfl |rfl;exact Ne.symm nee;exact Ne.symm nei)];exact (hf b hb).1
 done:=by
  intro X hP hw hK hc i pins s σ H E I hf st hg;subst hP hw hK;obtain ⟨vs,sat,hi⟩:=hg;subst hi;obtain ⟨⟨old,he⟩,hit⟩:=st;have hfi:=hf it (by simp);obtain ⟨fp,Pd,S,Dr⟩:=drawn (A:=X.A.in1) (I.ok.hd hc) I sat hfi.1 hit;refine wpAny_pyNext_enum_endD Dr.D he Dr.st λh' eb=>⟨rfl,I.turnedL (t':=s.toks) hf λb o hb q=>?_⟩;have hb':b≠e/\b≠it:=by simpa using hb
  exact eb b o hb'.2 q
 self:=λA i s Q E st h=>by
  obtain ⟨⟨old,he⟩,_⟩:=st;exact wpAny_pyIter_enum he h
theorem abH{P:Program}{w:World}{K:PF}{tg:Expr}(k:SK)(it:Addr):Turn P w K tg (Jk k) [it] it (λi h=>k.pos it i h) where
 mem:=by simp
 obj:=λi h st b hb=>by
  have e:b=it:=by simpa using hb
  subst e;obtain ⟨o,e,c,d⟩:=st;exact ⟨o,e,λv z=>by rw[d]at z;cases z⟩
 keep:=λi h h' st kk=>st.keep λo e=>kk it (by simp) o e
 item:=by
  intro X hP hw hK hc i pins s σ H E I hf st hg;obtain ⟨vs,sat,hi⟩:=hg;have hfi:=hf it (by simp);cases k with
  |lst a=>
   have sat':H a=some (.lst vs):=sat;refine cS ((Cr (tg:=tg) a it).item X hP hw hK hc i pins s σ H E I hf st ⟨vs,vs[i],SqL.of sat',by simp[hi]⟩) ?_ (λ_ _ e=>e);rintro r s1 ⟨u,hr,h1⟩;refine ⟨u,hr,cS h1 ?_ (λ_ _ e=>e)⟩;rintro _ s2 ⟨x,H',I',rx,⟨e1,e2⟩,st',fr⟩;exact ⟨x,H',I',rx,⟨e1,λws hw'=>e2 ws (SqL.of (show H a=some (.lst ws) from hw'))⟩,st',fr⟩
  |tup a=>
   have sat':H a=some (.tup vs):=sat;refine cS ((Cu (tg:=tg) a it).item X hP hw hK hc i pins s σ H E I hf st ⟨vs,vs[i],SqT.of sat',by simp[hi]⟩) ?_ (λ_ _ e=>e);rintro r s1 ⟨u,hr,h1⟩;refine ⟨u,hr,cS h1 ?_ (λ_ _ e=>e)⟩;rintro _ s2 ⟨x,H',I',rx,⟨e1,e2⟩,st',fr⟩;exact ⟨x,H',I',rx,⟨e1,λws hw'=>e2 ws (SqT.of (show H a=some (.tup ws) from hw'))⟩,st',fr⟩
  |str y t=>
   have sat':vs=y.cps.toList.map λc=>V.str ⟨#[c]⟩:=sat;have hlen:vs.length=y.cps.size:=by rw[sat',ag,dS]
   refine cS ((wA (tg:=tg) it y t).item X hP hw hK hc i pins s σ H E I hf st (show i < y.cps.size by omega)) ?_ (λ_ _ e=>e);rintro r s1 ⟨u,hr,h1⟩;refine ⟨u,hr,cS h1 ?_ (λ_ _ e=>e)⟩;rintro _ s2 ⟨x,H',I',rx,⟨e1,c,e2,e3⟩,st',fr⟩;refine ⟨x,H',I',rx,⟨e1,λws hw'=>?_⟩,st',fr⟩;have hw':ws=y.cps.toList.map λc=>V.str ⟨#[c]⟩:=hw';rw[hw',e3,aE,fg,e2];rfl
 done:=by
  intro X hP hw hK hc i pins s σ H E I hf st hg;obtain ⟨vs,sat,hi⟩:=hg;cases k with
  |lst a=>exact (Cr (tg:=tg) a it).done X hP hw hK hc i pins s σ H E I hf st ⟨vs,SqL.of (show H a=some (.lst vs) from sat),by omega⟩
  |tup a=>exact (Cu (tg:=tg) a it).done X hP hw hK hc i pins s σ H E I hf st ⟨vs,SqT.of (show H a=some (.tup vs) from sat),by omega⟩
  |str y t=>
   have sat':vs=y.cps.toList.map λc=>V.str ⟨#[c]⟩:=sat;have hlen:vs.length=y.cps.size:=by rw[sat',ag,dS]
   exact (wA (tg:=tg) it y t).done X hP hw hK hc i pins s σ H E I hf st (show i=y.cps.size by omega)
 self:=λA i s Q E st h=>by
  cases k with
  |lst a=>exact wpAny_pyIter_listiter st h
  |tup a=>exact wpAny_pyIter_tupleiter st h
  |str y t=>exact (wA (K:=K) (tg:=tg) it y t).self A i s Q E st h
open Builtin Builtin.Str
section
variable {prog:Program} {w:World} {A:Around} {E:Value->Shared->Prop} {s:Shared}
theorem abI{z TI TO i1 i2:Addr}{k n1 n2:Nat}{fp1 fp2:List Addr}{P1 P2:Nat->Value->Prop}{S1 S2:Nat->Heap->Prop}{a b:Value}{Q:Value->Shared->Prop}(D:ZApart z TI TO i1 i2)
  (D1:Draws prog w A i1 fp1 n1 P1 S1) (D2:Draws prog w A i2 fp2 n2 P2 S2) (f1:∀c∈fp1,c≠z/\c≠TO/\c≠i2) (f2:∀c∈fp2,c≠z/\c≠TO/\c≠i1)
  (hz:IsZip s.heap z TI TO .none) (hTI:IsPair s.heap TI (.ref i1) (.ref i2)) (hTO:IsPair s.heap TO a b)
  (h1:S1 k s.heap) (h2:S2 k s.heap) (hx:k < n1) (hy:k < n2)
  (hQ:∀h' tk c d,P1 k c->P2 k d->IsZip h' z TI TO (rawInt s.heap.objs.size)->IsPair h' TO c d->S1 (k+1) h'->S2 (k+1) h'->
   IsPair h' s.heap.objs.size c d->h'.objs.size=s.heap.objs.size+1->
   (∀c o,c≠z->c≠TO->c≠i1->c≠i2->s.heap.get? c=some o->h'.get? c=some o)->Q (.ref s.heap.objs.size) { s with heap:=h',toks:=tk }):
  wpAny (model prog w) A (Builtin.«zip.__next__» ⟨[.ref z],[]⟩) (λfin s'=>∃v,fin=.done (.ret v)/\Q v s') E s:=by
 have e1:∀{h h':Heap}{c:Addr}{j:Nat},S1 j h->Heap.ExtBut c h h'->(∀b∈fp1,b≠c)->S1 j h':=λq e n=>D1.frame _ _ _ q λb hb o y=>e b o (n b hb) y;have e2:∀{h h':Heap}{c:Addr}{j:Nat},S2 j h->Heap.ExtBut c h h'->(∀b∈fp2,b≠c)->S2 j h':=λq e n=>D2.frame _ _ _ q λb hb o y=>e b o (n b hb) y;have z1:∀b∈fp1,b≠z:=λb hb=>(f1 b hb).1;have t1:∀b∈fp1,b≠TO:=λb hb=>(f1 b hb).2.1;have j1:∀b∈fp1,b≠i2:=λb hb=>(f1 b hb).2.2;have z2:∀b∈fp2,b≠z:=λb hb=>(f2 b hb).1;have t2:∀b∈fp2,b≠TO:=λb hb=>(f2 b hb).2.1;have j2:∀b∈fp2,b≠i1:=λb hb=>(f2 b hb).2.2;show wpAny _ _ (field (.ref z) 2 >>= _) _ _ _;refine ah (dE hz rfl (x:=.bool false) rfl ?_);show wpAny _ _ (field (.ref z) 3 >>= _) _ _ _;refine ah (dE hz rfl (x:=.ref TI) rfl ?_);refine ah (eJ hTI rfl ?_);show wpAny _ _ (Builtin.SmallTypes.ownedTupleIsFree (.ref z) >>= _) _ _ _;refine ah ?_;unfold Builtin.SmallTypes.ownedTupleIsFree;refine ah (dE hz rfl (x:=.none) rfl (bn ?_));simp only[if_true];refine ah (wpAny_rule ?_);refine ah (dE hz rfl (x:=.ref TO) rfl ?_);refine ah (eI hz (by simp) λh₁ hz₁ hs₁=>?_);replace hz₁:IsZip h₁ z TI TO .ellipsis:=hz₁;replace hs₁:Heap.SameBut z s.heap h₁:=hs₁;refine ah ?_;simp only[List.zipIdx_cons,List.zipIdx_nil,List.forIn_cons,List.forIn_nil];refine ah (ah (wpAny_onRaise ?_));show wpAny _ _ (Builtin.SmallTypes.nextOf (.ref i1) >>= _) _ _ _;refine ah (D1.item k _ _ _ hx (e1 h1 hs₁.extBut z1) λc h₂ tk₂ hc h1₂ hs₂=>bn ?_);replace hs₂:Heap.SameBut i1 h₁ h₂:=hs₂;have hTO₂:IsPair h₂ TO a b:=hs₂.extBut _ _ D.TOi1 (hs₁.extBut _ _ D.TOz hTO);refine ah (eJ hTO₂ rfl ?_);refine ah (wpAny_updateSeq_pair hTO₂ λh₃ hTO₃ hs₃=>?_);replace hTO₃:IsPair h₃ TO c b:=hTO₃;replace hs₃:Heap.SameBut TO h₂ h₃:=hs₃;refine ah (wpAny_letGo (bn ?_));refine ah (ah (wpAny_onRaise ?_));show wpAny _ _ (Builtin.SmallTypes.nextOf (.ref i2) >>= _) _ _ _;refine ah (D2.item k _ _ _ hy (e2 (e2 (e2 h2 hs₁.extBut z2) hs₂.extBut j2) hs₃.extBut t2) λd h₄ tk₄ hd h2₄ hs₄=>bn ?_);replace hs₄:Heap.SameBut i2 h₃ h₄:=hs₄;have hTO₄:IsPair h₄ TO c b:=hs₄.extBut _ _ D.TOi2 hTO₃;refine ah (eJ hTO₄ rfl ?_);refine ah (wpAny_updateSeq_pair hTO₄ λh₅ hTO₅ hs₅=>?_);replace hTO₅:IsPair h₅ TO c d:=hTO₅;replace hs₅:Heap.SameBut TO h₄ h₅:=hs₅;refine ah (wpAny_letGo (bn (bn ?_)));refine ah (eJ hTO₅ rfl ?_);refine ah (wpAny_newTuple ?_);have hsz:h₅.objs.size=s.heap.objs.size:=by rw[hs₅.1,hs₄.1,hs₃.1,hs₂.1,hs₁.1]
 have hz₅:IsZip h₅ z TI TO .ellipsis:=hs₅.extBut _ _ D.TOz.symm (hs₄.extBut _ _ D.i2z.symm (hs₃.extBut _ _ D.TOz.symm (hs₂.extBut _ _ D.i1z.symm hz₁)));have hk₅:∀c o,c≠z->c≠TO->c≠i1->c≠i2->s.heap.get? c=some o->h₅.get? c=some o:=λc o c1 c2 c3 c4 e=>
  hs₅.extBut _ _ c2 (hs₄.extBut _ _ c4 (hs₃.extBut _ _ c2 (hs₂.extBut _ _ c3 (hs₁.extBut _ _ c1 e))))
 have h1₅:S1 (k+1) h₅:=e1 (e1 (e1 h1₂ hs₃.extBut t1) hs₄.extBut j1) hs₅.extBut t1;have h2₅:S2 (k+1) h₅:=e2 h2₄ hs₅.extBut t2;have hzlt:z < h₅.objs.size:=aI hz₅;show wpAny _ _ (Builtin.SmallTypes.ownedTupleHandOut (.ref z) (.ref h₅.objs.size) >>= _) _ _ _;refine ah ?_;unfold Builtin.SmallTypes.ownedTupleHandOut;have hz₆:IsZip (h₅.push { cls:=.type "tuple",data:=.seq #[c,d] }) z TI TO .ellipsis:=al _ hz₅;refine ah (eI hz₆ (by simp) λh₇ hz₇ hs₇=>?_);replace hz₇:IsZip h₇ z TI TO (rawInt h₅.objs.size):=hz₇;refine eI hz₇ (by simp) λh₈ hz₈ hs₈=>?_;replace hz₈:IsZip h₈ z TI TO (rawInt h₅.objs.size):=hz₈;have up:∀c o,c≠z->h₅.get? c=some o->h₈.get? c=some o:=λc o c1 e=>hs₈.extBut _ _ c1 (hs₇.extBut _ _ c1 (al _ e));have hT₈:IsPair h₈ h₅.objs.size c d:=hs₈.extBut _ _ (fI hzlt) (hs₇.extBut _ _ (fI hzlt) (bd _ rfl));have hz8:h₈.objs.size=h₅.objs.size+1:=by rw[hs₈.1,hs₇.1,dQ]
 rw[hsz]at hz₈ hT₈ hz8;refine bn ⟨_,rfl,?_⟩;show Q (.ref h₅.objs.size) _;rw[hsz];exact hQ h₈ tk₄ c d hc hd hz₈ (up _ _ D.TOz hTO₅) (D1.frame _ _ _ h1₅ λb hb o y=>up b o (z1 b hb) y) (D2.frame _ _ _ h2₅ λb hb o y=>up b o (z2 b hb) y) hT₈ hz8 λc o c1 c2 c3 c4 e=>up c o c1 (hk₅ c o c1 c2 c3 c4 e)
theorem abJ{z TI TO i1 i2:Addr}{n1:Nat}{fp1:List Addr}{P1:Nat->Value->Prop}{S1:Nat->Heap->Prop}{a b:Value}{Q:Fin->Shared->Prop}(D:ZApart z TI TO i1 i2)
  (D1:Draws prog w A i1 fp1 n1 P1 S1) (f1:∀c∈fp1,c≠z)
  (hz:IsZip s.heap z TI TO .none) (hTI:IsPair s.heap TI (.ref i1) (.ref i2)) (hTO:IsPair s.heap TO a b) (h1:S1 n1 s.heap)
  (hE:∀h' e,(∀c o,c≠z->c≠TO->c≠i1->c≠i2->s.heap.get? c=some o->h'.get? c=some o)->(∃o,h'.get? e=some o/\o.cls=.type "StopIteration")->E (.ref e) { s with heap:=h' }):
  wpAny (model prog w) A (Builtin.«zip.__next__» ⟨[.ref z],[]⟩) Q E s:=by
 show wpAny _ _ (field (.ref z) 2 >>= _) _ _ _;refine ah (dE hz rfl (x:=.bool false) rfl ?_);show wpAny _ _ (field (.ref z) 3 >>= _) _ _ _;refine ah (dE hz rfl (x:=.ref TI) rfl ?_);refine ah (eJ hTI rfl ?_);show wpAny _ _ (Builtin.SmallTypes.ownedTupleIsFree (.ref z) >>= _) _ _ _;refine ah ?_;unfold Builtin.SmallTypes.ownedTupleIsFree;refine ah (dE hz rfl (x:=.none) rfl (bn ?_));simp only[if_true];refine ah (wpAny_rule ?_);refine ah (dE hz rfl (x:=.ref TO) rfl ?_);refine ah (eI hz (by simp) λh₁ hz₁ hs₁=>?_);replace hz₁:IsZip h₁ z TI TO .ellipsis:=hz₁;replace hs₁:Heap.SameBut z s.heap h₁:=hs₁;refine ah ?_;simp only[List.zipIdx_cons,List.zipIdx_nil,List.forIn_cons,List.forIn_nil];refine ah (ah (wpAny_onRaise ?_));show wpAny _ _ (Builtin.SmallTypes.nextOf (.ref i1) >>= _) _ _ _;refine ah (D1.done _ _ _ (D1.frame _ _ _ h1 λb hb o y=>hs₁.extBut b o (f1 b hb) y) λh₂ e hs₂ he=>?_);obtain ⟨oe,hoe,hce⟩:=he;have hz₂:IsZip h₂ z TI TO .ellipsis:=hs₂ _ _ D.i1z.symm hz₁;have hez:e≠z:=λx=>by subst x;rw[hz₂]at hoe;cases hoe;simp at hce
 refine eI hz₂ (by simp) λh₃ _ hs₃=>hE h₃ e (λc o c1 _ c3 _ x=>hs₃.extBut _ _ c1 (hs₂ _ _ c3 (hs₁.extBut _ _ c1 x))) ⟨oe,hs₃.extBut _ _ hez hoe,hce⟩
theorem abK{z TI TO i1 i2:Addr}{k n1 n2:Nat}{fp1 fp2:List Addr}{P1 P2:Nat->Value->Prop}{S1 S2:Nat->Heap->Prop}{a b:Value}{Q:Fin->Shared->Prop}(D:ZApart z TI TO i1 i2)
  (D1:Draws prog w A i1 fp1 n1 P1 S1) (D2:Draws prog w A i2 fp2 n2 P2 S2) (f1:∀c∈fp1,c≠z/\c≠TO/\c≠i2) (f2:∀c∈fp2,c≠z/\c≠TO/\c≠i1)
  (hz:IsZip s.heap z TI TO .none) (hTI:IsPair s.heap TI (.ref i1) (.ref i2)) (hTO:IsPair s.heap TO a b) (h1:S1 k s.heap) (h2:S2 k s.heap) (hx:k < n1) (hy:k=n2)
  (hE:∀h' tk e,(∀c o,c≠z->c≠TO->c≠i1->c≠i2->s.heap.get? c=some o->h'.get? c=some o)->(∃o,h'.get? e=some o/\o.cls=.type "StopIteration")->E (.ref e) { s with heap:=h',toks:=tk }):
  wpAny (model prog w) A (Builtin.«zip.__next__» ⟨[.ref z],[]⟩) Q E s:=by
 have e1:∀{h h':Heap}{c:Addr}{j:Nat},S1 j h->Heap.ExtBut c h h'->(∀b∈fp1,b≠c)->S1 j h':=λq e n=>D1.frame _ _ _ q λb hb o y=>e b o (n b hb) y;have e2:∀{h h':Heap}{c:Addr}{j:Nat},S2 j h->Heap.ExtBut c h h'->(∀b∈fp2,b≠c)->S2 j h':=λq e n=>D2.frame _ _ _ q λb hb o y=>e b o (n b hb) y;have z1:∀b∈fp1,b≠z:=λb hb=>(f1 b hb).1;have z2:∀b∈fp2,b≠z:=λb hb=>(f2 b hb).1;have t2:∀b∈fp2,b≠TO:=λb hb=>(f2 b hb).2.1;have j2:∀b∈fp2,b≠i1:=λb hb=>(f2 b hb).2.2;show wpAny _ _ (field (.ref z) 2 >>= _) _ _ _;refine ah (dE hz rfl (x:=.bool false) rfl ?_);show wpAny _ _ (field (.ref z) 3 >>= _) _ _ _;refine ah (dE hz rfl (x:=.ref TI) rfl ?_);refine ah (eJ hTI rfl ?_);show wpAny _ _ (Builtin.SmallTypes.ownedTupleIsFree (.ref z) >>= _) _ _ _;refine ah ?_;unfold Builtin.SmallTypes.ownedTupleIsFree;refine ah (dE hz rfl (x:=.none) rfl (bn ?_));simp only[if_true];refine ah (wpAny_rule ?_);refine ah (dE hz rfl (x:=.ref TO) rfl ?_);refine ah (eI hz (by simp) λh₁ hz₁ hs₁=>?_);replace hz₁:IsZip h₁ z TI TO .ellipsis:=hz₁;replace hs₁:Heap.SameBut z s.heap h₁:=hs₁;refine ah ?_;simp only[List.zipIdx_cons,List.zipIdx_nil,List.forIn_cons,List.forIn_nil];refine ah (ah (wpAny_onRaise ?_));show wpAny _ _ (Builtin.SmallTypes.nextOf (.ref i1) >>= _) _ _ _;refine ah (D1.item k _ _ _ hx (e1 h1 hs₁.extBut z1) λc h₂ tk₂ hc h1₂ hs₂=>bn ?_);replace hs₂:Heap.SameBut i1 h₁ h₂:=hs₂;have hTO₂:IsPair h₂ TO a b:=hs₂.extBut _ _ D.TOi1 (hs₁.extBut _ _ D.TOz hTO);refine ah (eJ hTO₂ rfl ?_);refine ah (wpAny_updateSeq_pair hTO₂ λh₃ hTO₃ hs₃=>?_);replace hs₃:Heap.SameBut TO h₂ h₃:=hs₃;refine ah (wpAny_letGo (bn ?_));refine ah (ah (wpAny_onRaise ?_));show wpAny _ _ (Builtin.SmallTypes.nextOf (.ref i2) >>= _) _ _ _;subst hy;refine ah (D2.done _ _ _ (e2 (e2 (e2 h2 hs₁.extBut z2) hs₂.extBut j2) hs₃.extBut t2) λh₄ e hs₄ he=>?_);obtain ⟨oe,hoe,hce⟩:=he;have hz₄:IsZip h₄ z TI TO .ellipsis:=hs₄ _ _ D.i2z.symm (hs₃.extBut _ _ D.TOz.symm (hs₂.extBut _ _ D.i1z.symm hz₁));have hez:e≠z:=λx=>by subst x;rw[hz₄]at hoe;cases hoe;simp at hce
 refine eI hz₄ (by simp) λh₅ _ hs₅=>hE h₅ tk₂ e (λc o c1 c2 c3 c4 x=>hs₅.extBut _ _ c1 (hs₄ _ _ c4 (hs₃.extBut _ _ c2 (hs₂.extBut _ _ c3 (hs₁.extBut _ _ c1 x))))) ⟨oe,hs₅.extBut _ _ hez hoe,hce⟩
end
def Jz(k l:SK):It:=⟨λi H=>∃vs ws,k.Sat H vs/\l.Sat H ws/\i < vs.length/\i < ws.length,
 λi H x H'=>∃T y z,H T=none/\x=.ref T/\H'=upd H T (.tup [y,z])/\(∀vs,k.Sat H vs->vs[i]?=some y)/\(∀ws,l.Sat H ws->ws[i]?=some z),
 λi H=>∃vs ws,k.Sat H vs/\l.Sat H ws/\(vs.length=i/\i<=ws.length\/i < vs.length/\ws.length=i)⟩
theorem abL{P:Program}{w:World}{K:PF}{elts:List Expr}{x1:Nat}{pos:Pos}(k l:SK)(z TI TO i1 i2:Addr)(D:ZApart z TI TO i1 i2):
  Turn P w K (.Tuple elts x1 pos) (Jz k l) [z,TI,TO,i1,i2] z
   (λi h=>IsZip h z TI TO .none/\IsPair h TI (.ref i1) (.ref i2)/\(∃a b,IsPair h TO a b)/\k.pos i1 i h/\l.pos i2 i h) where
 mem:=by simp
 obj:=λi h st b hb=>by
  obtain ⟨hz,hTI,⟨a,c,hTO⟩,⟨o1,e1,_,d1⟩,⟨o2,e2,_,d2⟩⟩:=st;have hb':b=z\/b=TI\/b=TO\/b=i1\/b=i2:=by simpa using hb
  rcases hb' with rfl |rfl |rfl |rfl |rfl
  ·exact ⟨_,hz,λv q=>by have q':Data.fields _=Data.cell v:=q;cases q'⟩
  ·exact ⟨_,hTI,λv q=>by have q':Data.seq _ _=Data.cell v:=q;cases q'⟩
  ·exact ⟨_,hTO,λv q=>by have q':Data.seq _ _=Data.cell v:=q;cases q'⟩
  ·exact ⟨o1,e1,λv q=>by rw[d1]at q;cases q⟩
  ·exact ⟨o2,e2,λv q=>by rw[d2]at q;cases q⟩
 keep:=λi h h' st kk=>by
  obtain ⟨hz,hTI,⟨a,c,hTO⟩,p1,p2⟩:=st;exact ⟨kk z (by simp) _ hz,kk TI (by simp) _ hTI,⟨a,c,kk TO (by simp) _ hTO⟩,p1.keep λo e=>kk i1 (by simp) o e,p2.keep λo e=>kk i2 (by simp) o e⟩
 item:=by
  intro X hP hw hK hc i pins s σ H E I hf st hg;subst hP hw hK;obtain ⟨vs,ws,sat1,sat2,l1,l2⟩:=hg;obtain ⟨hz,hTI,⟨a,b,hTO⟩,h1,h2⟩:=st;have hT:s.TypeIs (.ref z) "zip":=⟨_,hz,rfl⟩;have fz:=hf z (by simp);have fTO:=hf TO (by simp);have fi1:=hf i1 (by simp);have fi2:=hf i2 (by simp);obtain ⟨fp1,P1,S1,Dr1⟩:=drawn (A:=X.A.in1) (I.ok.hd hc) I sat1 fi1.1 h1;obtain ⟨fp2,P2,S2,Dr2⟩:=drawn (A:=X.A.in1) (I.ok.hd hc) I sat2 fi2.1 h2;have no1:∀e,H e=none->e≠i1->∀c∈fp1,c≠e:=λe he hei c hc z=>by
   rcases Dr1.fp c hc with q |q
   ·exact hei (z.symm.trans q)
   ·have:=sat1.no he;cases k with
    |lst a=>injection q with q;exact this (q.trans z)
    |tup a=>injection q with q;exact this (q.trans z)
    |str _ _=>cases q
  have no2:∀e,H e=none->e≠i2->∀c∈fp2,c≠e:=λe he hei c hc z=>by
   rcases Dr2.fp c hc with q |q
   ·exact hei (z.symm.trans q)
   ·have:=sat2.no he;cases l with
    |lst a=>injection q with q;exact this (q.trans z)
    |tup a=>injection q with q;exact this (q.trans z)
    |str _ _=>cases q
  have f1:∀c∈fp1,c≠z/\c≠TO/\c≠i2:=λc hc=>⟨no1 z fz.1 D.i1z.symm c hc,no1 TO fTO.1 D.TOi1 c hc,no1 i2 fi2.1 D.i12.symm c hc⟩;have f2:∀c∈fp2,c≠z/\c≠TO/\c≠i1:=λc hc=>⟨no2 z fz.1 D.i2z.symm c hc,no2 TO fTO.1 D.TOi2 c hc,no2 i1 fi1.1 D.i12 c hc⟩;have ltz:z < s.heap.objs.size:=aI hz;have ltTI:TI < s.heap.objs.size:=aI hTI;have ltTO:TO < s.heap.objs.size:=aI hTO;have lti1:i1 < s.heap.objs.size:=by obtain ⟨_,e,_⟩:=h1;exact aI e
  have lti2:i2 < s.heap.objs.size:=by obtain ⟨_,e,_⟩:=h2;exact aI e
  unfold pyNext;refine ah (wpAny_attempt (e9 (name:=Str.ofString "__next__") hT F.slot_zip_next
   (gg F.slot_zip_next hT F.entry_zip_next (abI D Dr1.D Dr2.D f1 f2 hz hTI hTO Dr1.st Dr2.st l1 l2 λh' tk c d pc pd a1 a2 a3 a4 a5 a6 hk=>bn ?_) (F.args_zip_next_1 _))))
  obtain ⟨y,hy,ry⟩:=Dr1.val _ _ pc;obtain ⟨y',hy',ry'⟩:=Dr2.val _ _ pd;refine ⟨_,rfl,?_⟩;refine wpAny_letOwnedTupleGo_zip a1 λh2' hz2 hs2=>?_;have hs2':Heap.SameBut z h' h2':=hs2;have hn:H s.heap.objs.size=none:=I.hok.fresh (ay _);have k2:∀b o,b∉[z,TI,TO,i1,i2]->s.heap.get? b=some o->h2'.get? b=some o:=λb o hb q=>by
   have hb':b≠z/\b≠TI/\b≠TO/\b≠i1/\b≠i2:=by simpa using hb
   exact hs2'.extBut b o hb'.1 (hk b o hb'.1 hb'.2.2.1 hb'.2.2.2.1 hb'.2.2.2.2 q)
  have I2:Inv X pins σ H { s with heap:=h2',toks:=tk }:=I.turnedL hf k2;have ht2:h2'.get? s.heap.objs.size=some { cls:=.type "tuple",data:=.seq #[c,d] }:=hs2'.extBut _ _ (fI ltz) a5;have ob:ObjOk X.prog X.w (upd H s.heap.objs.size (.tup [y,y'])) h2' s.heap.objs.size (.tup [y,y']):=
   ⟨by rw[fS];simp,[c,d],.cons ry (.cons ry' .nil),⟨_,ht2,rfl,_,rfl⟩⟩
  have I3:=I2.track (I.fpOk (ay _) hn) ob;refine ⟨.ref s.heap.objs.size,_,I3,rfl,⟨s.heap.objs.size,y,y',hn,rfl,rfl,λus hu=>by rw[yq hu sat1];exact hy,λus hu=>by rw[yq hu sat2];exact hy'⟩,
   ⟨hz2,hs2'.extBut _ _ D.TIz (hk _ _ D.TIz D.TITO D.TIi1 D.TIi2 hTI),⟨_,_,hs2'.extBut _ _ D.TOz a2⟩,(Dr1.pos _ _ a3).keep λo e=>hs2'.extBut _ _ D.i1z e,(Dr2.pos _ _ a4).keep λo e=>hs2'.extBut _ _ D.i2z e⟩,λb hb=>?_⟩
  have hb':b=z\/b=TI\/b=TO\/b=i1\/b=i2:=by simpa using hb
  rw[aJ (by rcases hb' with rfl |rfl |rfl |rfl |rfl <;> exact cq ‹_›)];exact (hf b hb).1
 done:=by
  intro X hP hw hK hc i pins s σ H E I hf st hg;subst hP hw hK;obtain ⟨vs,ws,sat1,sat2,hend⟩:=hg;obtain ⟨hz,hTI,⟨a,b,hTO⟩,h1,h2⟩:=st;have hT:s.TypeIs (.ref z) "zip":=⟨_,hz,rfl⟩;have fz:=hf z (by simp);have fTO:=hf TO (by simp);have fi1:=hf i1 (by simp);have fi2:=hf i2 (by simp);obtain ⟨fp1,P1,S1,Dr1⟩:=drawn (A:=X.A.in1) (I.ok.hd hc) I sat1 fi1.1 h1;obtain ⟨fp2,P2,S2,Dr2⟩:=drawn (A:=X.A.in1) (I.ok.hd hc) I sat2 fi2.1 h2;have no1:∀e,H e=none->e≠i1->∀c∈fp1,c≠e:=λe he hei c hc z=>by
   rcases Dr1.fp c hc with q |q
   ·exact hei (z.symm.trans q)
   ·have:=sat1.no he;cases k with
    |lst a=>injection q with q;exact this (q.trans z)
    |tup a=>injection q with q;exact this (q.trans z)
    |str _ _=>cases q
  have no2:∀e,H e=none->e≠i2->∀c∈fp2,c≠e:=λe he hei c hc z=>by
   rcases Dr2.fp c hc with q |q
   ·exact hei (z.symm.trans q)
   ·have:=sat2.no he;cases l with
    |lst a=>injection q with q;exact this (q.trans z)
    |tup a=>injection q with q;exact this (q.trans z)
    |str _ _=>cases q
  have f1:∀c∈fp1,c≠z/\c≠TO/\c≠i2:=λc hc=>⟨no1 z fz.1 D.i1z.symm c hc,no1 TO fTO.1 D.TOi1 c hc,no1 i2 fi2.1 D.i12.symm c hc⟩;have f2:∀c∈fp2,c≠z/\c≠TO/\c≠i1:=λc hc=>⟨no2 z fz.1 D.i2z.symm c hc,no2 TO fTO.1 D.TOi2 c hc,no2 i1 fi1.1 D.i12 c hc⟩;have fin:∀(h':Heap)(tk:Nat)(e:Addr),(∀c o,c≠z->c≠TO->c≠i1->c≠i2->s.heap.get? c=some o->h'.get? c=some o)->Inv X pins σ H { s with heap:=h',toks:=tk }:=λh' tk e hk=>I.turnedL (t':=tk) hf λb o hb q=>by
   have hb':b≠z/\b≠TI/\b≠TO/\b≠i1/\b≠i2:=by simpa using hb
   exact hk b o hb'.1 hb'.2.2.1 hb'.2.2.2.1 hb'.2.2.2.2 q
  unfold pyNext;refine ah (wpAny_attempt (e9 (name:=Str.ofString "__next__") hT F.slot_zip_next
   (gg F.slot_zip_next hT F.entry_zip_next ?_ (F.args_zip_next_1 _))))
  rcases hend with ⟨e1,_⟩ |⟨e1,e2⟩
  ·subst e1;refine abJ D Dr1.D (λc hc=>(f1 c hc).1) hz hTI hTO Dr1.st λh' e hk he=>?_;obtain ⟨o,ho,hc'⟩:=he;refine ah (wpAny_isInstance (T:="StopIteration") (b:=true) ⟨o,ho,hc'⟩ isSubtype_stop ?_);exact bn ⟨rfl,fin h' s.toks e hk⟩
  ·refine abK D Dr1.D Dr2.D f1 f2 hz hTI hTO Dr1.st Dr2.st e1 e2.symm λh' tk e hk he=>?_;obtain ⟨o,ho,hc'⟩:=he;refine ah (wpAny_isInstance (T:="StopIteration") (b:=true) ⟨o,ho,hc'⟩ isSubtype_stop ?_);exact bn ⟨rfl,fin h' tk e hk⟩
 self:=λA i s Q E st h=>wpAny_pyIter_zip st.1 h
open Sem (wp)
open AutoSeq1 (wpAny_loadPart')
set_option maxRecDepth 100000
set_option maxHeartbeats 1000000 in
theorem abM(l:Addr)(items:Array Value)(n:Nat)(dct:Option Addr)(sl:Array (Option Value)):
  Meets (Builtin.«enumerate.__new__» ⟨[.type "enumerate",.ref l],[]⟩) (λ_ R s=>s.heap.get? l=some { cls:=.type "tuple",dict:=dct,data:=.seq items n,slots:=sl }/\
   R (.ok (.ret (.ref (s.heap.push { cls:=.type "tuple_iterator",data:=.fields #[.ref l,.int 0 0] }).objs.size)))
    { s with heap:=(s.heap.push { cls:=.type "tuple_iterator",data:=.fields #[.ref l,.int 0 0] }).push { cls:=.type "enumerate",data:=.fields #[.none,.bool false,.ref s.heap.objs.size,rawInt 0,.none,.none] } }):=
 .of_wp λprog w A R s h=>by
  obtain ⟨hp,g,d,tk,os⟩:=s;obtain ⟨hl,h⟩:=h;have hsub:=sub_enumerate;have hL:Heap.IsTuple (Shared.heap ⟨hp,g,d,tk,os⟩) l items:=⟨_,hl,rfl,n,rfl⟩;wp_walk using wpAny_loadPart' hl
  refine wpAny_stack_any λst=>bn ?_;split
  ·rename_i c _ _ _ _ _;cases (c==Value.type "enumerate")
   ·wp_walk using wpAny_loadPart' hl,wpAny_pyIter_tuple hL
    exact ⟨_,rfl,h⟩
   ·wp_walk using wpAny_loadPart' hl,wpAny_pyIter_tuple hL
    exact ⟨_,rfl,h⟩
  ·wp_walk using wpAny_loadPart' hl,wpAny_pyIter_tuple hL
   exact ⟨_,rfl,h⟩
abbrev uo(h:Heap)(k:SK):Heap:=h.push k.obj
abbrev uq(h:Heap)(k l:SK):Heap:=(uo h k).push l.obj
abbrev ur (h:Heap) (k l:SK):Heap:=(uq h k l).push { cls:=.type "tuple",data:=.seq #[.ref h.objs.size,.ref (uo h k).objs.size] }
abbrev ut (h:Heap) (k l:SK):Heap:=(ur h k l).push { cls:=.type "tuple",data:=.seq #[.none,.none] }
abbrev iB (h:Heap) (k l:SK):Heap:=(ut h k l).push { cls:=.type "zip",data:=.fields #[.none,.bool false,.bool false,.ref (uq h k l).objs.size,.ref (ur h k l).objs.size] }
theorem abN(k l:SK)(xs ys:Array Value):
  Meets (Builtin.«zip.__new__» ⟨[.type "zip",k.val,l.val],[]⟩) (λ_ R s=>k.On xs s.heap/\l.On ys s.heap/\R (.ok (.ret (.ref (ut s.heap k l).objs.size))) { s with heap:=iB s.heap k l }):=
 .of_wp λprog w A R s h=>by
  obtain ⟨hp,g,d,tk,os⟩:=s;obtain ⟨h1,h2,h⟩:=h;have hsub:=sub_zip;have h1':k.On xs (Shared.heap ⟨hp,g,d,tk,os⟩):=h1;have h2':l.On ys (Shared.heap ⟨hp.push k.obj,g,d,tk,os⟩):=SK.On.keeps h2 λb o _ e=>al _ e;wp_walk using SK.iter h1',SK.iter h2'
  exact ⟨_,rfl,h⟩
section
variable {prog:Program} {w:World} {A:Around} {E:Value->Shared->Prop} {s:Shared}
theorem abO{k l:SK}{xs ys:Array Value}{Q:Value->Shared->Prop}(h1:k.On xs s.heap)(h2:l.On ys s.heap)
  (h:∀h',IsZip h' (s.heap.objs.size+4) (s.heap.objs.size+2) (s.heap.objs.size+3) .none->IsPair h' (s.heap.objs.size+2) (.ref s.heap.objs.size) (.ref (s.heap.objs.size+1))->
   IsPair h' (s.heap.objs.size+3) .none .none->k.pos s.heap.objs.size 0 h'->l.pos (s.heap.objs.size+1) 0 h'->h'.objs.size=s.heap.objs.size+5->
   (∀c o,s.heap.get? c=some o->h'.get? c=some o)->Q (.ref (s.heap.objs.size+4)) { s with heap:=h' }):
  wpAny (model prog w) A (call (.type "zip") [k.val,l.val]) Q E s:=by
 refine callType_new F.called_zip (by decide) (F.typeCall_zip_2 _ _) (F.newCall_zip_2 _ _) (λobj=>F.args_object_init_3 obj _ _) F.entry_zip_new
  (abN k l xs ys) ⟨h1,h2,?_⟩
 have z1:(uo s.heap k).objs.size=s.heap.objs.size+1:=dQ ..;have z2:(uq s.heap k l).objs.size=s.heap.objs.size+2:=by rw[dQ,z1]
 have z3:(ur s.heap k l).objs.size=s.heap.objs.size+3:=by rw[dQ,z2]
 have z4:(ut s.heap k l).objs.size=s.heap.objs.size+4:=by rw[dQ,z3]
 have z5:(iB s.heap k l).objs.size=s.heap.objs.size+5:=by rw[dQ,z4]
 have g5:(iB s.heap k l).get? (ut s.heap k l).objs.size=some _:=bd _ rfl;have g4:(iB s.heap k l).get? (ur s.heap k l).objs.size=some _:=al _ (bd _ rfl);have g3:(iB s.heap k l).get? (uq s.heap k l).objs.size=some _:=al _ (al _ (bd _ rfl));have g2:(iB s.heap k l).get? (uo s.heap k).objs.size=some _:=al _ (al _ (al _ (bd _ rfl)));have g1:(iB s.heap k l).get? s.heap.objs.size=some _:=al _ (al _ (al _ (al _ (bd _ rfl))));show _/\_;rw[z2,z3,z4]at g5;rw[z1,z2]at g3;rw[z3]at g4;rw[z1]at g2;rw[z4];exact ⟨⟨_,g5,rfl⟩,h _ g5 g3 g4 ⟨_,g1,rfl,rfl⟩ ⟨_,g2,rfl,rfl⟩ z5 λc o x=>
  al _ (al _ (al _ (al _ (al _ x))))⟩
theorem abP{l:Addr}{items:Array Value}{Q:Value->Shared->Prop}(hL:s.heap.IsTuple l items)
  (h:∀h',IsEnum h' (s.heap.objs.size+1) s.heap.objs.size 0 .none->h'.IsTupleIter s.heap.objs.size l 0->h'.objs.size=s.heap.objs.size+2->
   (∀b o,s.heap.get? b=some o->h'.get? b=some o)->Q (.ref (s.heap.objs.size+1)) { s with heap:=h' }):
  wpAny (model prog w) A (call (.type "enumerate") [.ref l]) Q E s:=by
 obtain ⟨⟨c,dct,dt,sl⟩,hl,hc,n,hd⟩:=hL;replace hc:c=.type "tuple":=hc;replace hd:dt=.seq items n:=hd;subst hc hd;refine callType_new F.called_enumerate (by decide) (F.typeCall_enumerate_1 _) (F.newCall_enumerate_1 _) (λobj=>F.args_object_init_2 obj _) F.entry_enumerate_new
  (abM l items n dct sl) ⟨hl,?_⟩
 have hz:(s.heap.push { cls:=.type "tuple_iterator",data:=.fields #[.ref l,.int 0 0] }).objs.size=s.heap.objs.size+1:=dQ ..;show _/\_;rw[hz];have he:IsEnum ((s.heap.push { cls:=.type "tuple_iterator",data:=.fields #[.ref l,.int 0 0] }).push
   { cls:=.type "enumerate",data:=.fields #[.none,.bool false,.ref s.heap.objs.size,rawInt 0,.none,.none] }) (s.heap.objs.size+1) s.heap.objs.size 0 .none:=by
  have:=bd (s.heap.push { cls:=.type "tuple_iterator",data:=.fields #[.ref l,.int 0 0] })
   (o:={ cls:=.type "enumerate",data:=.fields #[.none,.bool false,.ref s.heap.objs.size,rawInt 0,.none,.none] }) rfl
  rw[hz]at this;exact this
 refine ⟨⟨_,he,rfl⟩,h _ he ⟨_,al _ (bd _ rfl),rfl,rfl⟩ (by rw[dQ,hz]) λb o x=>al _ (al _ x)⟩
theorem abQ{k:SK}{xs:Array Value}{Q:Value->Shared->Prop}(h1:k.On xs s.heap)
  (h:∀h',IsEnum h' (s.heap.objs.size+1) s.heap.objs.size 0 .none->k.pos s.heap.objs.size 0 h'->h'.objs.size=s.heap.objs.size+2->
   (∀b o,s.heap.get? b=some o->h'.get? b=some o)->Q (.ref (s.heap.objs.size+1)) { s with heap:=h' }):
  wpAny (model prog w) A (call (.type "enumerate") [k.val]) Q E s:=by
 cases k with
 |lst a=>exact call_enumerate_list h1 h
 |tup a=>exact abP h1 h
 |str x t=>exact call_enumerate_str h
end
structure OT where
 ms:List (String×String×String×Nat):=[]
 ks:List (String×Nat):=[]
 fl:List (String×String):=[]
structure CT where
 N:List Str
 kd:List (Str×NameKind)
 fn:Bool
 fs:List (String×Nat)
 bt:List String
 cn:List (String×D)
 xs:List (String×Bool):=[]
 ot:OT:={}
def iC:Option NameKind->Bool
 |some .local=>true
 |some .cell=>true
 |some .free=>true
 |_=>false
def CT.sto(c:CT)(x:Str):Bool:=c.kd.lookup x==some .local||(c.fn&&c.kd.lookup x==some .cell)
def okN (x:Str):Bool:=!(x==("__debug__":Str))&&!(x==("__classdict__":Str))&&!(x==("__name__":Str))
def CT.glo(c:CT)(x:Str):Bool:=c.kd.lookup x==some .globalImplicit&&okN x
noncomputable def sEq:D->D->Bool
 |.non,.non=>true
 |.bl a,.bl b=>a==b
 |.int a,.int b=>a==b
 |.str a,.str b=>a==b
 |_,_=>false
theorem abR{a b:D}(h:sEq a b=true):a=b:=by cases a <;> cases b <;> simp_all [sEq]
noncomputable def uv(d:D)(k:Const):Bool:=
 match d,k with
 |.non,.none=>true
 |.bl a,.bool b=>a==b
 |.int a,.int b=>a==b
 |.str a,.str b=>a==b.cps.toList&&decide (a.length<=sz)
 |_,_=>false
noncomputable def Bf.name:Bf->String
 |.len=>"len"
 |.all=>"all"
 |.int=>"int"
 |.tuple=>"tuple"
 |.sum=>"sum"
 |.min=>"min"
 |.max=>"max"
 |.abs=>"abs"
 |.min2=>"min"
 |.str=>"str"
noncomputable def yr:Bf->Bool
 |.sum=>false
 |.min=>true
 |.max=>false
 |.abs=>false
 |.min2=>false
 |.str=>true
 |_=>true
def yt:Lf->Bool
 |.sorted=>false
 |_=>true
def Lf.name:Lf->String
 |.list=>"list"
 |.sorted=>"sorted"
noncomputable def Mf.name:Mf->String
 |.join=>"join"
 |.append=>"append"
 |.extend=>"extend"
 |.insert=>"insert"
 |.pop=>"pop"
 |.count=>"count"
 |.index=>"index"
def eV:Expr->Bool
 |.Call (.Name _ _) [] [] _=>true
 |_=>false
def cT:Expr->Bool
 |.ListComp ..=>true
 |.SetComp ..=>true
 |.DictComp ..=>true
 |_=>false
noncomputable def iD:Expr->Bool
 |.UnaryOp .Not _ _=>false
 |.BoolOp ..=>false
 |.IfExp ..=>false
 |.Compare ..=>false
 |_=>true
noncomputable def gJ(N:List Str)(scope:Scope):List Str->List (Option Nat)->Bool
 |[],[]=>true
 |_::N',none::cap=>gJ N scope N' cap
 |x::N',some j::cap=>(N[j]?==some x)&&(scope.names.lookup x==some NameKind.free)&&gJ N scope N' cap
 |_,_=>false
noncomputable def jC(c:CT)(scope:Scope):Bool:=
 scope.names.all (λy=>y.2 != NameKind.cell)&&scope.names.all (λy=>y.2 != NameKind.local||scope.names.lookup y.1==some NameKind.local) &&
 scope.names.all (λy=>y.2 != NameKind.free||(c.kd.lookup y.1==some NameKind.cell||c.kd.lookup y.1==some NameKind.free))&&decide (scope.kind=.function)&&decide (c.kd=c.kd)
def CT.comp(c:CT)(N:List Str)(scope:Scope):CT:={ N:=N,kd:=scope.names,fn:=false,fs:=c.fs,bt:=c.bt,cn:=c.cn,ot:=c.ot }
def eX:List Str->Bool
 |[]=>true
 |x::r=>!r.contains x&&eX r
noncomputable def asName(e:Expr):Option { t:Str×Pos // e=.Name t.1 t.2 }:=match e with
 |.Name a0 a1=>some ⟨(a0,a1),rfl⟩
 |_=>none
noncomputable def uw(e:Expr):Option { t:Const×Nat×Pos // e=.Constant t.1 t.2.1 t.2.2 }:=match e with
 |.Constant a0 a1 a2=>some ⟨(a0,a1,a2),rfl⟩
 |_=>none
noncomputable def Gg(e:Expr):Option { t:Expr×Operator×Expr×Pos // e=.BinOp t.1 t.2.1 t.2.2.1 t.2.2.2 }:=match e with
 |.BinOp a0 a1 a2 a3=>some ⟨(a0,a1,a2,a3),rfl⟩
 |_=>none
noncomputable def jD(e:Expr):Option { t:UnaryOp×Expr×Pos // e=.UnaryOp t.1 t.2.1 t.2.2 }:=match e with
 |.UnaryOp a0 a1 a2=>some ⟨(a0,a1,a2),rfl⟩
 |_=>none
noncomputable def lr(e:Expr):Option { t:Expr×List CmpOp×List Expr×Pos // e=.Compare t.1 t.2.1 t.2.2.1 t.2.2.2 }:=match e with
 |.Compare a0 a1 a2 a3=>some ⟨(a0,a1,a2,a3),rfl⟩
 |_=>none
noncomputable def ux(e:Expr):Option { t:BoolOp×List Expr×Pos // e=.BoolOp t.1 t.2.1 t.2.2 }:=match e with
 |.BoolOp a0 a1 a2=>some ⟨(a0,a1,a2),rfl⟩
 |_=>none
noncomputable def Gi(e:Expr):Option { t:Expr×Expr×Expr×Pos // e=.IfExp t.1 t.2.1 t.2.2.1 t.2.2.2 }:=match e with
 |.IfExp a0 a1 a2 a3=>some ⟨(a0,a1,a2,a3),rfl⟩
 |_=>none
noncomputable def gK(e:Expr):Option { t:List Expr×Nat×Pos // e=.Tuple t.1 t.2.1 t.2.2 }:=match e with
 |.Tuple a0 a1 a2=>some ⟨(a0,a1,a2),rfl⟩
 |_=>none
noncomputable def asList(e:Expr):Option { t:List Expr×Pos // e=.List t.1 t.2 }:=match e with
 |.List a0 a1=>some ⟨(a0,a1),rfl⟩
 |_=>none
noncomputable def jE(e:Expr):Option { t:Expr×Expr×Pos // e=.Subscript t.1 t.2.1 t.2.2 }:=match e with
 |.Subscript a0 a1 a2=>some ⟨(a0,a1,a2),rfl⟩
 |_=>none
noncomputable def Gj(e:Expr):Option { t:Option Expr×Option Expr×Option Expr×Pos // e=.Slice t.1 t.2.1 t.2.2.1 t.2.2.2 }:=match e with
 |.Slice a0 a1 a2 a3=>some ⟨(a0,a1,a2,a3),rfl⟩
 |_=>none
noncomputable def iG(e:Expr):Option { t:Expr×List Expr×List Keyword×Pos // e=.Call t.1 t.2.1 t.2.2.1 t.2.2.2 }:=match e with
 |.Call a0 a1 a2 a3=>some ⟨(a0,a1,a2,a3),rfl⟩
 |_=>none
noncomputable def fY(e:Expr):Option { t:Expr×Str×Pos // e=.Attribute t.1 t.2.1 t.2.2 }:=match e with
 |.Attribute a0 a1 a2=>some ⟨(a0,a1,a2),rfl⟩
 |_=>none
noncomputable def Gk(e:Expr):Option { t:Expr×List Comprehension×Scope×Pos // e=.ListComp t.1 t.2.1 t.2.2.1 t.2.2.2 }:=match e with
 |.ListComp a0 a1 a2 a3=>some ⟨(a0,a1,a2,a3),rfl⟩
 |_=>none
noncomputable def uy(e:Stmt):Option { t:Expr×Pos // e=.Expr t.1 t.2 }:=match e with
 |.Expr a0 a1=>some ⟨(a0,a1),rfl⟩
 |_=>none
noncomputable def iH(e:Stmt):Option { t:List Expr×Expr×Pos // e=.Assign t.1 t.2.1 t.2.2 }:=match e with
 |.Assign a0 a1 a2=>some ⟨(a0,a1,a2),rfl⟩
 |_=>none
noncomputable def Gm(e:Stmt):Option { t:Expr×Operator×Expr×Pos // e=.AugAssign t.1 t.2.1 t.2.2.1 t.2.2.2 }:=match e with
 |.AugAssign a0 a1 a2 a3=>some ⟨(a0,a1,a2,a3),rfl⟩
 |_=>none
noncomputable def Gn(e:Stmt):Option { t:Option Expr×Option Expr×Pos // e=.Raise t.1 t.2.1 t.2.2 }:=match e with
 |.Raise a0 a1 a2=>some ⟨(a0,a1,a2),rfl⟩
 |_=>none
noncomputable def Gp(e:Stmt):Option { t:List Stmt×List ExceptHandler×List Stmt×List Stmt×Pos // e=.Try t.1 t.2.1 t.2.2.1 t.2.2.2.1 t.2.2.2.2 }:=match e with
 |.Try a0 a1 a2 a3 a4=>some ⟨(a0,a1,a2,a3,a4),rfl⟩
 |_=>none
noncomputable def Gq(e:ExceptHandler):Option { t:Option Expr×Option Str×List Stmt×Pos // e=.ExceptHandler t.1 t.2.1 t.2.2.1 t.2.2.2 }:=match e with
 |.ExceptHandler a0 a1 a2 a3=>some ⟨(a0,a1,a2,a3),rfl⟩
noncomputable def yu(e:Expr):Option { t:Expr×Int×Option Expr×Pos // e=.FormattedValue t.1 t.2.1 t.2.2.1 t.2.2.2 }:=match e with
 |.FormattedValue a0 a1 a2 a3=>some ⟨(a0,a1,a2,a3),rfl⟩
 |_=>none
noncomputable def abS(e:Expr):Option { t:List Expr×Pos // e=.JoinedStr t.1 t.2 }:=match e with
 |.JoinedStr a0 a1=>some ⟨(a0,a1),rfl⟩
 |_=>none
def abT(k:Const):Option { x:Str // k=.str x }:=match k with
 |.str x=>some ⟨x,rfl⟩
 |_=>none
def aj9(b:Bool)(k:Const):Bool:=match k with
 |.bool c=>c==b
 |_=>false
noncomputable def uz(e:Stmt):Option { t:Option Expr×Pos // e=.Return t.1 t.2 }:=match e with
 |.Return a0 a1=>some ⟨(a0,a1),rfl⟩
 |_=>none
noncomputable def Gs(e:Stmt):Option { t:Expr×List Stmt×List Stmt×Pos // e=.If t.1 t.2.1 t.2.2.1 t.2.2.2 }:=match e with
 |.If a0 a1 a2 a3=>some ⟨(a0,a1,a2,a3),rfl⟩
 |_=>none
noncomputable def Gu(e:Stmt):Option { t:Expr×Expr×List Stmt×List Stmt×Pos // e=.For t.1 t.2.1 t.2.2.1 t.2.2.2.1 t.2.2.2.2 }:=match e with
 |.For a0 a1 a2 a3 a4=>some ⟨(a0,a1,a2,a3,a4),rfl⟩
 |_=>none
noncomputable def aka(e:Stmt):Option { t:Expr×List Stmt×List Stmt×Pos // e=.While t.1 t.2.1 t.2.2.1 t.2.2.2 }:=match e with
 |.While a0 a1 a2 a3=>some ⟨(a0,a1,a2,a3),rfl⟩
 |_=>none
def Gv(e:Stmt):Option { t:Pos // e=.Pass t }:=match e with
 |.Pass a0=>some ⟨a0,rfl⟩
 |_=>none
def Gw(e:Stmt):Option { t:Pos // e=.Break t }:=match e with
 |.Break a0=>some ⟨a0,rfl⟩
 |_=>none
def Gz(e:Stmt):Option { t:Pos // e=.Continue t }:=match e with
 |.Continue a0=>some ⟨a0,rfl⟩
 |_=>none
def one{α:Type}:List α->Option α
 |[a]=>some a
 |_=>none
def three{α:Type}:List α->Option (α×α×α)
 |[x,y,z]=>some (x,y,z)
 |_=>none
theorem akb{α:Type}{l:List α}{v:α×α×α}(h:three l=some v):l=[v.1,v.2.1,v.2.2]:=by
 unfold three at h;split at h
 ·cases h;rfl
 ·cases h
def two{α:Type}:List α->Option (α×α)
 |[a,b]=>some (a,b)
 |_=>none
def hdT{α:Type}:List α->Option (α×List α)
 |a::r=>some (a,r)
 |[]=>none
theorem cZ{α:Type}{l:List α}{a:α}(h:one l=some a):l=[a]:=by
 cases l with
 |nil=>cases h
 |cons x r=>cases r with
  |nil=>cases h;rfl
  |cons _ _=>cases h
theorem lu{α:Type}{l:List α}{a:α×α}(h:two l=some a):l=[a.1,a.2]:=by
 cases l with
 |nil=>cases h
 |cons x r=>cases r with
  |nil=>cases h
  |cons y r=>cases r with
   |nil=>cases h;rfl
   |cons _ _=>cases h
theorem GC{α:Type}{l:List α}{a:α×List α}(h:hdT l=some a):l=a.1::a.2:=by
 cases l with
 |nil=>cases h
 |cons x r=>cases h;rfl
theorem aU{α:Type}{o:Option α}{p:α->Bool}(h:o.any p=true):∃t,o=some t/\p t=true:=by
 cases o with
 |none=>cases h
 |some t=>exact ⟨t,rfl,h⟩
def yw:UnaryOp->Bool
 |.USub=>true
 |_=>false
def lw:UnaryOp->Bool
 |.Not=>true
 |_=>false
theorem abU{o:UnaryOp}(h:yw o=true):o=.USub:=by cases o <;> first |rfl |cases h
theorem GD{o:UnaryOp}(h:lw o=true):o=.Not:=by cases o <;> first |rfl |cases h
noncomputable def bW(e:Expr):Option (Str×Pos×List Expr×Pos):=(iG e).bind λt=>(asName t.1.1).bind λn=>match t.1.2.2.1 with |[]=>some (n.1.1,n.1.2,t.1.2.1,t.1.2.2.2) |_::_=>none
noncomputable def az{α:Type}{q:α->Prop}(o:Option { t:α // q t })(P:α->Bool):Bool:=match o with |some t=>P t.1 |none=>false
theorem aH{α:Type}{q:α->Prop}{o:Option { t:α // q t }}{P:α->Bool}(h:az o P=true):∃t,q t/\P t=true:=by
 cases o with
 |none=>cases h
 |some t=>exact ⟨t.1,t.2,h⟩
theorem GF{α β:Type}{o:Option α}{f:α->Option β}{b:β}(h:o.bind f=some b):∃t,o=some t/\f t=some b:=by
 cases o with
 |none=>cases h
 |some t=>exact ⟨t,rfl,h⟩
theorem fZ{e:Expr}{t:Str×Pos×List Expr×Pos}(h:bW e=some t):e=.Call (.Name t.1 t.2.1) t.2.2.1 [] t.2.2.2:=by
 obtain ⟨⟨⟨f,as,ks,p⟩,hu⟩,_,h⟩:=GF h;obtain ⟨⟨⟨x,p'⟩,hn⟩,_,h⟩:=GF h;dsimp only at h hn hu;cases ks with
 |nil=>cases h;rw[hu,hn]
 |cons _ _=>cases h
def lz(e:Expr):Bool:=(lr e).isSome
def GJ:Ex->Bool
 |.frz _=>false
 |_=>true
def yx:Tx->Bool
 |.yes=>true
 |_=>false
mutual
noncomputable def cN(c:CT):Tg->Expr->Bool
 |.nm i,e=>az (asName e) λt=>(c.N[i]?==some t.1)&&c.sto t.1
 |.tp ts,e=>az (gK e) λt=>cG c ts t.1
noncomputable def cG(c:CT):Tgs->List Expr->Bool
 |.nil,es=>es.isEmpty
 |.cons t r,es=>match es with
  |e::es=>cN c t e&&cG c r es
  |[]=>false
end
def yz(e:Expr):Bool:=az (uw e) λt=>az (abT t.1) λx=>decide (x.length<=1000)
def unF(e:Expr):Expr:=match yu e with |some t=>t.1.1 |none=>e
def abV:Ex->Bool
 |.cst (.str _)=>true
 |_=>false
noncomputable def abW:Exs->List Expr->Bool
 |.cons x xs,p::ps=>(match yu p with |some t=>decide (t.1.2.1=-1)&&t.1.2.2.1.isNone |none=>abV x)&&abW xs ps
 |.nil,ps=>ps.isEmpty
 |_,[]=>false
mutual
noncomputable def aj(c:CT):Ex->Expr->Bool
 |.var i,e=>az (asName e) λt=>(c.N[i]?==some t.1)&&iC (c.kd.lookup t.1)&&okN t.1
 |.cst d,e=>az (uw e) λt=>uv d t.1
 |.glb x d,e=>az (asName e) λt=>t.1==Str.ofString x&&c.glo t.1&&c.cn.any (λp=>p.1==x&&sEq p.2 d)
 |.bin op _ a b,e=>az (Gg e) λt=>t.2.1==op&&aj c a t.1&&aj c b t.2.2.1
 |.neg a,e=>az (jD e) λt=>yw t.1&&aj c a t.2.1
 |.cmp op a b,e=>az (lr e) λt=>(one t.2.1).any λo=>(one t.2.2.1).any λr=>o==op&&aj c a t.1&&aj c b r
 |.chn op op' a b d,e=>az (lr e) λt=>(two t.2.1).any λo=>(two t.2.2.1).any λr=>o.1==op&&o.2==op'&&aj c a t.1&&aj c b r.1&&aj c d r.2
 |.not a,e=>az (jD e) λt=>lw t.1&&aj c a t.2.1
 |.boo isAnd x es,e=>az (ux e) λt=>(hdT t.2.1).any λv=>t.1==(if isAnd then .And else .Or)&&aj c x v.1&&aL c es v.2
 |.ife t a b,e=>az (Gi e) λu=>bF c t u.1&&aj c a u.2.1&&aj c b u.2.2.1
 |.tup es,e=>az (gK e) λt=>aL c es t.1
 |.lst _ es,e=>az (asList e) λt=>aL c es t.1
 |.idx a i,e=>az (jE e) λt=>aj c a t.1&&aj c i t.2.1
 |.slc _ a lo hi,e=>az (jE e) λt=>az (Gj t.2.1) λs=>s.2.2.1.isNone&&(aj c a t.1&&gb c lo s.1&&gb c hi s.2.1)
 |.rvs _ _ _,_=>false
 |.call f es,e=>(bW e).any λt=>t.1==Str.ofString f&&c.glo t.1&&(c.fs.any λp=>p.1==f&&p.2==t.2.2.1.length)&&!t.2.2.1.isEmpty&&aL c es t.2.2.1
 |.bcl f es,e=>(bW e).any λt=>t.1==Str.ofString f.name&&yr f&&c.glo t.1&&c.bt.contains f.name&&!t.2.2.1.isEmpty&&aL c es t.2.2.1
 |.lcl _ f es,e=>(bW e).any λt=>t.1==Str.ofString f.name&&yt f&&c.glo t.1&&c.bt.contains f.name&&!t.2.2.1.isEmpty&&aL c es t.2.2.1
 |.isi a t,e=>(bW e).any λu=>(two u.2.2.1).any λv=>az (asName v.2) λy=>u.1==Str.ofString "isinstance"&&c.glo u.1&&c.bt.contains "isinstance"&&aj c a v.1&&y.1==Str.ofString t&&c.glo y.1&&c.bt.contains t&&fP t
 |.isx _ _ _,_=>false
 |.fst _,_=>false
 |.rgl _ _,_=>false
 |.rgt _,_=>false
 |.rpl _ _ _ _,_=>false
 |.fld C f o,e=>az (fY e) λv=>v.2.1==Str.ofString f&&!eV v.1&&c.ot.fl.contains (C,f)&&aj c o v.1
 |.mcl f C m o es,e=>az (iG e) λt=>az (fY t.1) λv=>az (asName v.1) λy=>t.2.2.1.isEmpty&&(v.2.1==Str.ofString m&&(v.2.2.endLine==t.2.2.2.line)&&decide (t.2.1.length < 29)&&c.ot.ms.contains (f,C,m,t.2.1.length+1)&&aj c o (.Name y.1 y.2)&&aL c es t.2.1)
 |.mko C es,e=>(bW e).any λt=>t.1==Str.ofString C&&c.glo t.1&&c.ot.ks.contains (C,t.2.2.1.length)&&!t.2.2.1.isEmpty&&aL c es t.2.2.1
 |.pp0 o,e=>az (iG e) λt=>az (fY t.1) λv=>t.2.2.1.isEmpty&&(t.2.1.isEmpty&&(v.2.1==Str.ofString "pop"&&!eV v.1&&(v.2.2.endLine==t.2.2.2.line)&&aj c o v.1))
 |.mth m o es,e=>az (iG e) λt=>az (fY t.1) λv=>t.2.2.1.isEmpty&&(v.2.1==Str.ofString m.name&&aj c o v.1&&!eV v.1&&(v.2.2.endLine==t.2.2.2.line)&&decide (t.2.1.length < 29)&&!t.2.1.isEmpty&&aL c es t.2.1)
 |.comp _ elt tg it cond N cap,e=>az (Gk e) λt=>(one t.2.1).any λg=>decide (g.is_async=0)&&bY c it g.target g.iter&&gJ c.N t.2.2.1 (N.map Str.ofString) cap&&jC c t.2.2.1&&eX (N.map Str.ofString) &&
    cN (c.comp (N.map Str.ofString) t.2.2.1) tg g.target&&((yx cond&&g.ifs.isEmpty)||(one g.ifs).any λf=>bF (c.comp (N.map Str.ofString) t.2.2.1) cond f)&&aj (c.comp (N.map Str.ofString) t.2.2.1) elt t.1
 |.frz a,e=>aj c a e
noncomputable def bF(c:CT):Tx->Expr->Bool
 |.val x,e=>(iD e||lz e)&&aj c x e&&GJ x
 |.not t,e=>az (jD e) λu=>lw u.1&&bF c t u.2.1
 |.boo isAnd t ts,e=>az (ux e) λu=>(hdT u.2.1).any λv=>u.1==(if isAnd then .And else .Or)&&bF c t v.1&&iI c ts v.2
 |.yes,_=>false
noncomputable def iI(c:CT):Txs->List Expr->Bool
 |.nil,es=>es.isEmpty
 |.cons t r,es=>match es with
  |e::es=>bF c t e&&iI c r es
  |[]=>false
noncomputable def aL(c:CT):Exs->List Expr->Bool
 |.nil,es=>es.isEmpty
 |.cons t r,es=>match es with
  |e::es=>aj c t e&&aL c r es
  |[]=>false
noncomputable def gb(c:CT):Ox->Option Expr->Bool
 |.no,e=>e.isNone
 |.ob x,e=>match e with
  |some e=>aj c x e
  |none=>false
noncomputable def bY(c:CT):It'->Expr->Expr->Bool
 |.seq x,_,e=>aj c x e
 |.rng a,_,e=>(bW e).any λt=>(one t.2.2.1).any λv=>t.1==Str.ofString "range"&&c.glo t.1&&c.bt.contains "range"&&aj c a v
 |.rng2 _ _,_,_=>false
 |.rev _,_,_=>false
 |.dwn _ _ _,_,_=>false
 |.enm a,tg,e=>az (gK tg) λ_=>(bW e).any λt=>(one t.2.2.1).any λv=>t.1==Str.ofString "enumerate"&&c.glo t.1&&c.bt.contains "enumerate"&&aj c a v
 |.zip a b,tg,e=>az (gK tg) λ_=>(bW e).any λt=>(two t.2.2.1).any λv=>t.1==Str.ofString "zip"&&c.glo t.1&&c.bt.contains "zip"&&aj c a v.1&&aj c b v.2
end
def lA(c:CT)(cond:Tx)(ifs:List Expr):Bool:=(yx cond&&ifs.isEmpty)||(one ifs).any λf=>bF c cond f
def GK:Ex->Bool
 |.comp ..=>true
 |_=>false
def GP:Expr->Bool
 |.Tuple ..=>true
 |_=>false
def yC(g:Tg)(x:Ex)(e:Expr):Bool:=match g with |.nm _=>!cT e||GK x |.tp _=>!GP e&&!cT e
noncomputable def lB(c:CT):Exs->List Expr->Bool
 |es,[]=>(match es with |.nil=>true |_=>false)
 |es,p::ps=>match yz p with
  |true=>lB c es ps
  |false=>(match es with |.cons x r=>(az (yu p) λt=>decide (t.2.1=-1)&&t.2.2.1.isNone&&aj c x t.1)&&lB c r ps |.nil=>false)
noncomputable def uA(c:CT)(es:Exs)(e:Expr):Bool:=(match es with |.nil=>yz e |_=>false)||az (abS e) λt=>decide (2<=t.1.length)&&decide (t.1.length<=50)&&lB c es t.1
noncomputable def iJ(c:CT):Tb->List Stmt->Bool
 |.call _ _,_=>false
 |.pick _ _ _ _,_=>false
 |.asg _ _ _,_=>false
 |.ite _ _ _,_=>false
 |.mcl f C m o es,sts=>(one sts).any λs0=>az (uy s0) λe0=>aj c (.mcl f C m o es) e0.1
 |.mko _ _,_=>false
def yD(b:Bool):Const->Bool
 |.bool x=>x==b
 |_=>false
noncomputable def uB(c:CT)(h:Hd)(nm:Option Str)(y:Str)(e:Expr):Bool:=(match h with
 |.flag i b=>nm.isNone&&(c.N[i]?==some y)&&az (uw e) λk=>yD b k.1
 |.bind n i=>false)&&c.sto y&&okN y
mutual
noncomputable def aZ(c:CT):Sx->Stmt->Bool
 |.exp x,st=>az (uy st) λt=>!cT t.1&&aj c x t.1
 |.asg g x,st=>az (iH st) λt=>(one t.1).any λtg=>cN c g tg&&aj c x t.2.1&&yC g x t.2.1
 |.set o i x,st=>az (iH st) λt=>(one t.1).any λtg=>az (jE tg) λu=>aj c o u.1&&aj c i u.2.1&&aj c x t.2.1&&!cT t.2.1
 |.aug i op x,st=>az (Gm st) λt=>az (asName t.1) λy=>t.2.1==op&&(c.N[i]?==some y.1)&&c.sto y.1&&okN y.1&&aj c x t.2.2.1
 |.augs _ _ _ _,_=>false
 |.ret x,st=>az (uz st) λt=>t.1.any λe=>aj c x e
 |.rtn,st=>az (uz st) λt=>t.1.isNone
 |.ite t a b,st=>az (Gs st) λu=>bF c t u.1&&aC c a u.2.1&&aC c b u.2.2.1
 |.for_ g it b,st=>az (Gu st) λt=>t.2.2.2.1.isEmpty&&(cN c g t.1&&bY c it t.1 t.2.1&&aC c b t.2.2.1)
 |.whl _ _,_=>false
 |.pas,st=>(Gv st).isSome
 |.brk,st=>(Gw st).isSome
 |.cnt,st=>(Gz st).isSome
 |.nev,_=>true
 |.rse C es,st=>az (Gn st) λt=>t.2.1.isNone&&t.1.any λe=>(bW e).any λu=>u.1==Str.ofString C&&c.glo u.1&&c.xs.contains (C,true)&&(one u.2.2.1).any λm=>uA c es m
 |.tryc _ _ _ _ _,_=>false
 |.tryx b C h xs,st=>az (Gp st) λt=>t.2.2.1.isEmpty&&t.2.2.2.1.isEmpty&&iJ c b t.1&&(xs.all λx=>c.xs.contains (x,true))&&!(C=="ValueError")&&(one t.2.1).any λhd=>az (Gq hd) λw=>w.1.any λte=>az (asName te) λn=>(n.1==Str.ofString C&&c.glo n.1&&c.xs.contains (C,false))&&(one w.2.2.1).any λs1=>az (iH s1) λa=>(one a.1).any λtg=>az (asName tg) λy=>uB c h w.2.1 y.1 a.2.1
noncomputable def aC(c:CT):Sxs->List Stmt->Bool
 |.nil,es=>es.isEmpty
 |.cons t r,es=>match es with
  |e::es=>aZ c t e&&aC c r es
  |[]=>false
end
theorem yE{c:CT}{i:Nat}{e:Expr}(h:cN c (.nm i) e=true):∃x p,e=.Name x p/\((c.N[i]?==some x)&&c.sto x)=true:=by have h:(az (asName e) λt=>(c.N[i]?==some t.1)&&c.sto t.1)=true:=h;obtain ⟨t,ht,h⟩:=aH h;exact ⟨_,_,ht,h⟩
theorem yF{c:CT}{ts:Tgs}{e:Expr}(h:cN c (.tp ts) e=true):∃es k p,e=.Tuple es k p/\(cG c ts es)=true:=by have h:(az (gK e) λt=>cG c ts t.1)=true:=h;obtain ⟨t,ht,h⟩:=aH h;exact ⟨_,_,_,ht,h⟩
theorem GQ{c:CT}{i:Nat}{e:Expr}(h:aj c (.var i) e=true):∃x p,e=.Name x p/\((c.N[i]?==some x)&&iC (c.kd.lookup x)&&okN x)=true:=by have h:(az (asName e) λt=>(c.N[i]?==some t.1)&&iC (c.kd.lookup t.1)&&okN t.1)=true:=h;obtain ⟨t,ht,h⟩:=aH h;exact ⟨_,_,ht,h⟩
theorem GR{c:CT}{d:D}{e:Expr}(h:aj c (.cst d) e=true):∃k n p,e=.Constant k n p/\(uv d k)=true:=by have h:(az (uw e) λt=>uv d t.1)=true:=h;obtain ⟨t,ht,h⟩:=aH h;exact ⟨_,_,_,ht,h⟩
theorem GX{c:CT}{x:String}{d:D}{e:Expr}(h:aj c (.glb x d) e=true):∃y p,e=.Name y p/\(y==Str.ofString x&&c.glo y&&c.cn.any (λp=>p.1==x&&sEq p.2 d))=true:=by have h:(az (asName e) λt=>t.1==Str.ofString x&&c.glo t.1&&c.cn.any (λp=>p.1==x&&sEq p.2 d))=true:=h;obtain ⟨t,ht,h⟩:=aH h;exact ⟨_,_,ht,h⟩
theorem GZ{c:CT}{op:Operator}{fz:Bool}{a b:Ex}{e:Expr}(h:aj c (.bin op fz a b) e=true):∃l o r p,e=.BinOp l o r p/\(o==op&&aj c a l&&aj c b r)=true:=by have h:(az (Gg e) λt=>t.2.1==op&&aj c a t.1&&aj c b t.2.2.1)=true:=h;obtain ⟨t,ht,h⟩:=aH h;exact ⟨_,_,_,_,ht,h⟩
theorem Ha{c:CT}{a:Ex}{e:Expr}(h:aj c (.neg a) e=true):∃x p,e=.UnaryOp .USub x p/\(aj c a x)=true:=by have h:(az (jD e) λt=>yw t.1&&aj c a t.2.1)=true:=h;obtain ⟨t,ht,h⟩:=aH h;rw[ae]at h;exact ⟨_,_,by rw[ht,abU h.1],h.2⟩
theorem Hb{c:CT}{a:Ex}{e:Expr}(h:aj c (.not a) e=true):∃x p,e=.UnaryOp .Not x p/\(aj c a x)=true:=by have h:(az (jD e) λt=>lw t.1&&aj c a t.2.1)=true:=h;obtain ⟨t,ht,h⟩:=aH h;rw[ae]at h;exact ⟨_,_,by rw[ht,GD h.1],h.2⟩
theorem Hc{c:CT}{op:CmpOp}{a b:Ex}{e:Expr}(h:aj c (.cmp op a b) e=true):∃l o r p,e=.Compare l [o] [r] p/\(o==op&&aj c a l&&aj c b r)=true:=by have h:(az (lr e) λt=>(one t.2.1).any λo=>(one t.2.2.1).any λr=>o==op&&aj c a t.1&&aj c b r)=true:=h;obtain ⟨t,ht,h⟩:=aH h;obtain ⟨o,ho,h⟩:=aU h;obtain ⟨r,hr,h⟩:=aU h;exact ⟨_,_,_,_,by rw[ht,cZ ho,cZ hr],h⟩
theorem Hf{c:CT}{op op':CmpOp}{a b d:Ex}{e:Expr}(h:aj c (.chn op op' a b d) e=true):∃l o o' m r p,e=.Compare l [o,o'] [m,r] p/\(o==op&&o'==op'&&aj c a l&&aj c b m&&aj c d r)=true:=by have h:(az (lr e) λt=>(two t.2.1).any λo=>(two t.2.2.1).any λr=>o.1==op&&o.2==op'&&aj c a t.1&&aj c b r.1&&aj c d r.2)=true:=h;obtain ⟨t,ht,h⟩:=aH h;obtain ⟨o,ho,h⟩:=aU h;obtain ⟨r,hr,h⟩:=aU h;exact ⟨_,_,_,_,_,_,by rw[ht,lu ho,lu hr],h⟩
theorem Hg{c:CT}{isAnd:Bool}{x:Ex}{es:Exs}{e:Expr}(h:aj c (.boo isAnd x es) e=true):∃op v vs p,e=.BoolOp op (v::vs) p/\(op==(if isAnd then .And else .Or)&&aj c x v&&aL c es vs)=true:=by have h:(az (ux e) λt=>(hdT t.2.1).any λv=>t.1==(if isAnd then .And else .Or)&&aj c x v.1&&aL c es v.2)=true:=h;obtain ⟨t,ht,h⟩:=aH h;obtain ⟨v,hv,h⟩:=aU h;exact ⟨_,_,_,_,by rw[ht,GC hv],h⟩
theorem Hh{c:CT}{t:Tx}{a b:Ex}{e:Expr}(h:aj c (.ife t a b) e=true):∃t' a' b' p,e=.IfExp t' a' b' p/\(bF c t t'&&aj c a a'&&aj c b b')=true:=by have h:(az (Gi e) λu=>bF c t u.1&&aj c a u.2.1&&aj c b u.2.2.1)=true:=h;obtain ⟨u,ht,h⟩:=aH h;exact ⟨_,_,_,_,ht,h⟩
theorem Hi{c:CT}{es:Exs}{e:Expr}(h:aj c (.tup es) e=true):∃vs k p,e=.Tuple vs k p/\(aL c es vs)=true:=by have h:(az (gK e) λt=>aL c es t.1)=true:=h;obtain ⟨t,ht,h⟩:=aH h;exact ⟨_,_,_,ht,h⟩
theorem Hj{c:CT}{fz:Bool}{es:Exs}{e:Expr}(h:aj c (.lst fz es) e=true):∃vs p,e=.List vs p/\(aL c es vs)=true:=by have h:(az (asList e) λt=>aL c es t.1)=true:=h;obtain ⟨t,ht,h⟩:=aH h;exact ⟨_,_,ht,h⟩
theorem Hk{c:CT}{a i:Ex}{e:Expr}(h:aj c (.idx a i) e=true):∃v s p,e=.Subscript v s p/\(aj c a v&&aj c i s)=true:=by have h:(az (jE e) λt=>aj c a t.1&&aj c i t.2.1)=true:=h;obtain ⟨t,ht,h⟩:=aH h;exact ⟨_,_,_,ht,h⟩
theorem Hl{c:CT}{fz:Bool}{a:Ex}{lo hi:Ox}{e:Expr}(h:aj c (.slc fz a lo hi) e=true):∃v l u p' p,e=.Subscript v (.Slice l u none p') p/\(aj c a v&&gb c lo l&&gb c hi u)=true:=by have h:(az (jE e) λt=>az (Gj t.2.1) λs=>s.2.2.1.isNone&&(aj c a t.1&&gb c lo s.1&&gb c hi s.2.1))=true:=h;obtain ⟨t,ht,h⟩:=aH h;obtain ⟨s,hs,h⟩:=aH h;rw[ae,eA]at h;exact ⟨_,_,_,_,_,by rw[ht,hs,h.1],h.2⟩
theorem Hm{c:CT}{f:String}{es:Exs}{e:Expr}(h:aj c (.call f es) e=true):∃x p args pos,e=.Call (.Name x p) args [] pos/\(x==Str.ofString f&&c.glo x&&(c.fs.any λp=>p.1==f&&p.2==args.length)&&!args.isEmpty&&aL c es args)=true:=by have h:((bW e).any λt=>t.1==Str.ofString f&&c.glo t.1&&(c.fs.any λp=>p.1==f&&p.2==t.2.2.1.length)&&!t.2.2.1.isEmpty&&aL c es t.2.2.1)=true:=h;obtain ⟨t,ht,h⟩:=aU h;exact ⟨_,_,_,_,fZ ht,h⟩
theorem Hn{c:CT}{f:Bf}{es:Exs}{e:Expr}(h:aj c (.bcl f es) e=true):∃x p args pos,e=.Call (.Name x p) args [] pos/\(x==Str.ofString f.name&&yr f&&c.glo x&&c.bt.contains f.name&&!args.isEmpty&&aL c es args)=true:=by have h:((bW e).any λt=>t.1==Str.ofString f.name&&yr f&&c.glo t.1&&c.bt.contains f.name&&!t.2.2.1.isEmpty&&aL c es t.2.2.1)=true:=h;obtain ⟨t,ht,h⟩:=aU h;exact ⟨_,_,_,_,fZ ht,h⟩
theorem Ho{c:CT}{fz:Bool}{f:Lf}{es:Exs}{e:Expr}(h:aj c (.lcl fz f es) e=true):∃x p args pos,e=.Call (.Name x p) args [] pos/\(x==Str.ofString f.name&&yt f&&c.glo x&&c.bt.contains f.name&&!args.isEmpty&&aL c es args)=true:=by have h:((bW e).any λt=>t.1==Str.ofString f.name&&yt f&&c.glo t.1&&c.bt.contains f.name&&!t.2.2.1.isEmpty&&aL c es t.2.2.1)=true:=h;obtain ⟨t,ht,h⟩:=aU h;exact ⟨_,_,_,_,fZ ht,h⟩
theorem Hq {c:CT} {a:Ex} {t:String} {e:Expr} (h:aj c (.isi a t) e=true):∃x p v y p' pos,e=.Call (.Name x p) [v,.Name y p'] [] pos/\(x==Str.ofString "isinstance"&&c.glo x&&c.bt.contains "isinstance"&&aj c a v&&y==Str.ofString t&&c.glo y&&c.bt.contains t&&fP t)=true:=by have h:((bW e).any λu=>(two u.2.2.1).any λv=>az (asName v.2) λy=>u.1==Str.ofString "isinstance"&&c.glo u.1&&c.bt.contains "isinstance"&&aj c a v.1&&y.1==Str.ofString t&&c.glo y.1&&c.bt.contains t&&fP t)=true:=h;obtain ⟨u,hu,h⟩:=aU h;obtain ⟨v,hv,h⟩:=aU h;obtain ⟨y,hy,h⟩:=aH h;exact ⟨_,_,_,_,_,_,by rw[fZ hu,lu hv,hy],h⟩
theorem Hr{c:CT}{C f:String}{o:Ex}{e:Expr}(h:aj c (.fld C f o) e=true):∃v n p,e=.Attribute v n p/\(n==Str.ofString f&&!eV v&&c.ot.fl.contains (C,f)&&aj c o v)=true:=by have h:(az (fY e) λv=>v.2.1==Str.ofString f&&!eV v.1&&c.ot.fl.contains (C,f)&&aj c o v.1)=true:=h;obtain ⟨v,hv,h⟩:=aH h;exact ⟨_,_,_,hv,h⟩
theorem yG{c:CT}{f C m:String}{o:Ex}{es:Exs}{e:Expr}(h:aj c (.mcl f C m o es) e=true):∃y p n apos args cpos,e=.Call (.Attribute (.Name y p) n apos) args [] cpos/\(n==Str.ofString m&&(apos.endLine==cpos.line)&&decide (args.length < 29)&&c.ot.ms.contains (f,C,m,args.length+1)&&aj c o (.Name y p)&&aL c es args)=true:=by have h:(az (iG e) λt=>az (fY t.1) λv=>az (asName v.1) λy=>t.2.2.1.isEmpty&&(v.2.1==Str.ofString m&&(v.2.2.endLine==t.2.2.2.line)&&decide (t.2.1.length < 29)&&c.ot.ms.contains (f,C,m,t.2.1.length+1)&&aj c o (.Name y.1 y.2)&&aL c es t.2.1))=true:=h;obtain ⟨t,ht,h⟩:=aH h;obtain ⟨v,hv,h⟩:=aH h;obtain ⟨y,hy,h⟩:=aH h;rw[ae,eW]at h;exact ⟨_,_,_,_,_,_,by rw[ht,hv,hy,h.1],h.2⟩
theorem Hs{c:CT}{C:String}{es:Exs}{e:Expr}(h:aj c (.mko C es) e=true):∃x p args pos,e=.Call (.Name x p) args [] pos/\(x==Str.ofString C&&c.glo x&&c.ot.ks.contains (C,args.length)&&!args.isEmpty&&aL c es args)=true:=by have h:((bW e).any λt=>t.1==Str.ofString C&&c.glo t.1&&c.ot.ks.contains (C,t.2.2.1.length)&&!t.2.2.1.isEmpty&&aL c es t.2.2.1)=true:=h;obtain ⟨t,ht,h⟩:=aU h;exact ⟨_,_,_,_,fZ ht,h⟩
theorem Ht {c:CT} {o:Ex} {e:Expr} (h:aj c (.pp0 o) e=true):∃v n apos cpos,e=.Call (.Attribute v n apos) [] [] cpos/\(n==Str.ofString "pop"&&!eV v&&(apos.endLine==cpos.line)&&aj c o v)=true:=by have h:(az (iG e) λt=>az (fY t.1) λv=>t.2.2.1.isEmpty&&(t.2.1.isEmpty&&(v.2.1==Str.ofString "pop"&&!eV v.1&&(v.2.2.endLine==t.2.2.2.line)&&aj c o v.1)))=true:=h;obtain ⟨t,ht,h⟩:=aH h;obtain ⟨v,hv,h⟩:=aH h;rw[ae,eW,ae,eW]at h;exact ⟨_,_,_,_,by rw[ht,hv,h.1,h.2.1],h.2.2⟩
theorem Hu{c:CT}{m:Mf}{o:Ex}{es:Exs}{e:Expr}(h:aj c (.mth m o es) e=true):∃v x apos args cpos,e=.Call (.Attribute v x apos) args [] cpos/\(x==Str.ofString m.name&&aj c o v&&!eV v&&(apos.endLine==cpos.line)&&decide (args.length < 29)&&!args.isEmpty&&aL c es args)=true:=by have h:(az (iG e) λt=>az (fY t.1) λv=>t.2.2.1.isEmpty&&(v.2.1==Str.ofString m.name&&aj c o v.1&&!eV v.1&&(v.2.2.endLine==t.2.2.2.line)&&decide (t.2.1.length < 29)&&!t.2.1.isEmpty&&aL c es t.2.1))=true:=h;obtain ⟨t,ht,h⟩:=aH h;obtain ⟨v,hv,h⟩:=aH h;rw[ae,eW]at h;exact ⟨_,_,_,_,_,by rw[ht,hv,h.1],h.2⟩
theorem Hv{c:CT}{fz:Bool}{elt:Ex}{tg:Tg}{it:It'}{cond:Tx}{N:List String}{cap:List (Option Nat)}{e:Expr}(h:aj c (.comp fz elt tg it cond N cap) e=true):∃elt' tg' iter ifs as scope pos,e=.ListComp elt' [⟨tg',iter,ifs,as⟩] scope pos/\(decide (as=0)&&bY c it tg' iter&&gJ c.N scope (N.map Str.ofString) cap&&jC c scope&&eX (N.map Str.ofString)&&cN (c.comp (N.map Str.ofString) scope) tg tg'&&lA (c.comp (N.map Str.ofString) scope) cond ifs&&aj (c.comp (N.map Str.ofString) scope) elt elt')=true:=by have h:(az (Gk e) λt=>(one t.2.1).any λg=>decide (g.is_async=0)&&bY c it g.target g.iter&&gJ c.N t.2.2.1 (N.map Str.ofString) cap&&jC c t.2.2.1&&eX (N.map Str.ofString)&&cN (c.comp (N.map Str.ofString) t.2.2.1) tg g.target&&((yx cond&&g.ifs.isEmpty)||(one g.ifs).any λf=>bF (c.comp (N.map Str.ofString) t.2.2.1) cond f)&&aj (c.comp (N.map Str.ofString) t.2.2.1) elt t.1)=true:=h;obtain ⟨t,ht,h⟩:=aH h;obtain ⟨⟨tg',iter,ifs,as⟩,hg,h⟩:=aU h;exact ⟨t.1,tg',iter,ifs,as,t.2.2.1,t.2.2.2,(ht).trans (by rw[cZ hg]),h⟩
theorem abX{c:CT}{t:Tx}{e:Expr}(h:bF c (.not t) e=true):∃x p,e=.UnaryOp .Not x p/\(bF c t x)=true:=by have h:(az (jD e) λu=>lw u.1&&bF c t u.2.1)=true:=h;obtain ⟨u,ht,h⟩:=aH h;rw[ae]at h;exact ⟨_,_,by rw[ht,GD h.1],h.2⟩
theorem abY{c:CT}{isAnd:Bool}{x:Tx}{es:Txs}{e:Expr}(h:bF c (.boo isAnd x es) e=true):∃op v vs p,e=.BoolOp op (v::vs) p/\(op==(if isAnd then .And else .Or)&&bF c x v&&iI c es vs)=true:=by have h:(az (ux e) λu=>(hdT u.2.1).any λv=>u.1==(if isAnd then .And else .Or)&&bF c x v.1&&iI c es v.2)=true:=h;obtain ⟨t,ht,h⟩:=aH h;obtain ⟨v,hv,h⟩:=aU h;exact ⟨_,_,_,_,by rw[ht,GC hv],h⟩
theorem Hw {c:CT} {a:Ex} {tg e:Expr} (h:bY c (.rng a) tg e=true):∃x p v pos,e=.Call (.Name x p) [v] [] pos/\(x==Str.ofString "range"&&c.glo x&&c.bt.contains "range"&&aj c a v)=true:=by have h:((bW e).any λt=>(one t.2.2.1).any λv=>t.1==Str.ofString "range"&&c.glo t.1&&c.bt.contains "range"&&aj c a v)=true:=h;obtain ⟨t,ht,h⟩:=aU h;obtain ⟨v,hv,h⟩:=aU h;exact ⟨_,_,_,_,by rw[fZ ht,cZ hv],h⟩
theorem Hx {c:CT} {a:Ex} {tg e:Expr} (h:bY c (.enm a) tg e=true):∃ts k p0 x p v pos,tg=.Tuple ts k p0/\e=.Call (.Name x p) [v] [] pos/\(x==Str.ofString "enumerate"&&c.glo x&&c.bt.contains "enumerate"&&aj c a v)=true:=by have h:(az (gK tg) λ_=>(bW e).any λt=>(one t.2.2.1).any λv=>t.1==Str.ofString "enumerate"&&c.glo t.1&&c.bt.contains "enumerate"&&aj c a v)=true:=h;obtain ⟨g,hg,h⟩:=aH h;obtain ⟨t,ht,h⟩:=aU h;obtain ⟨v,hv,h⟩:=aU h;exact ⟨_,_,_,_,_,_,_,hg,by rw[fZ ht,cZ hv],h⟩
theorem Hy {c:CT} {a b:Ex} {tg e:Expr} (h:bY c (.zip a b) tg e=true):∃ts k p0 x p v v' pos,tg=.Tuple ts k p0/\e=.Call (.Name x p) [v,v'] [] pos/\(x==Str.ofString "zip"&&c.glo x&&c.bt.contains "zip"&&aj c a v&&aj c b v')=true:=by have h:(az (gK tg) λ_=>(bW e).any λt=>(two t.2.2.1).any λv=>t.1==Str.ofString "zip"&&c.glo t.1&&c.bt.contains "zip"&&aj c a v.1&&aj c b v.2)=true:=h;obtain ⟨g,hg,h⟩:=aH h;obtain ⟨t,ht,h⟩:=aU h;obtain ⟨v,hv,h⟩:=aU h;exact ⟨_,_,_,_,_,_,_,_,hg,by rw[fZ ht,lu hv],h⟩
theorem abZ{c:CT}{x:Ex}{st:Stmt}(h:aZ c (.exp x) st=true):∃e pos,st=.Expr e pos/\(!cT e&&aj c x e)=true:=by have h:(az (uy st) λt=>!cT t.1&&aj c x t.1)=true:=h;obtain ⟨t,ht,h⟩:=aH h;exact ⟨_,_,ht,h⟩
theorem Hz{c:CT}{g:Tg}{x:Ex}{st:Stmt}(h:aZ c (.asg g x) st=true):∃tg e pos,st=.Assign [tg] e pos/\(cN c g tg&&aj c x e&&yC g x e)=true:=by have h:(az (iH st) λt=>(one t.1).any λtg=>cN c g tg&&aj c x t.2.1&&yC g x t.2.1)=true:=h;obtain ⟨t,ht,h⟩:=aH h;obtain ⟨g,hg,h⟩:=aU h;exact ⟨_,_,_,by rw[ht,cZ hg],h⟩
theorem ab0{c:CT}{o i x:Ex}{st:Stmt}(h:aZ c (.set o i x) st=true):∃o' i' tpos e pos,st=.Assign [.Subscript o' i' tpos] e pos/\(aj c o o'&&aj c i i'&&aj c x e&&!cT e)=true:=by have h:(az (iH st) λt=>(one t.1).any λtg=>az (jE tg) λu=>aj c o u.1&&aj c i u.2.1&&aj c x t.2.1&&!cT t.2.1)=true:=h;obtain ⟨t,ht,h⟩:=aH h;obtain ⟨g,hg,h⟩:=aU h;obtain ⟨u,hu,h⟩:=aH h;exact ⟨_,_,_,_,_,by rw[ht,cZ hg,hu],h⟩
theorem ab1{c:CT}{i:Nat}{op:Operator}{x:Ex}{st:Stmt}(h:aZ c (.aug i op x) st=true):∃y py o e pos,st=.AugAssign (.Name y py) o e pos/\(o==op&&(c.N[i]?==some y)&&c.sto y&&okN y&&aj c x e)=true:=by have h:(az (Gm st) λt=>az (asName t.1) λy=>t.2.1==op&&(c.N[i]?==some y.1)&&c.sto y.1&&okN y.1&&aj c x t.2.2.1)=true:=h;obtain ⟨t,ht,h⟩:=aH h;obtain ⟨u,hu,h⟩:=aH h;exact ⟨_,_,_,_,_,by rw[ht,hu],h⟩
theorem ab2{c:CT}{C:String}{es:Exs}{st:Stmt}(h:aZ c (.rse C es) st=true):∃x np m cpos pos,st=.Raise (some (.Call (.Name x np) [m] [] cpos)) none pos/\(x==Str.ofString C&&c.glo x&&c.xs.contains (C,true)&&uA c es m)=true:=by have h:(az (Gn st) λt=>t.2.1.isNone&&t.1.any λe=>(bW e).any λu=>u.1==Str.ofString C&&c.glo u.1&&c.xs.contains (C,true)&&(one u.2.2.1).any λm=>uA c es m)=true:=h;obtain ⟨t,ht,h⟩:=aH h;rw[ae,eA]at h;obtain ⟨e,he,h2⟩:=aU h.2;obtain ⟨u,hu,h3⟩:=aU h2;rw[ae]at h3;obtain ⟨m,hm,h4⟩:=aU h3.2;exact ⟨_,_,m,_,_,by rw[ht,h.1,he,fZ hu,cZ hm],by rw[ae];exact ⟨h3.1,h4⟩⟩
theorem ab3{b:Bool}{k:Const}(h:yD b k=true):k=.bool b:=by
 cases k <;> first | (cases h;done) |skip
 rw[show yD b (.bool _)=(_==b) from rfl,aw]at h;rw[h]
theorem ab4{c:CT}{b:Tb}{C:String}{h:Hd}{xs:List String}{st:Stmt}(hh:aZ c (.tryx b C h xs) st=true):
  ∃body cx p1 nm y p2 e p4 p5 pos,st=.Try body [.ExceptHandler (some (.Name cx p1)) nm [.Assign [.Name y p2] e p4] p5] [] [] pos/\
   iJ c b body=true/\(xs.all λx=>c.xs.contains (x,true))=true/\(C=="ValueError")=false/\(cx==Str.ofString C&&c.glo cx&&c.xs.contains (C,false))=true/\uB c h nm y e=true:=by
 have hh:(az (Gp st) λt=>t.2.2.1.isEmpty&&t.2.2.2.1.isEmpty&&iJ c b t.1&&(xs.all λx=>c.xs.contains (x,true))&&!(C=="ValueError")&&(one t.2.1).any λhd=>az (Gq hd) λw=>w.1.any λte=>az (asName te) λn=>(n.1==Str.ofString C&&c.glo n.1&&c.xs.contains (C,false))&&(one w.2.2.1).any λs1=>az (iH s1) λa=>(one a.1).any λtg=>az (asName tg) λy=>uB c h w.2.1 y.1 a.2.1)=true:=hh;obtain ⟨t,ht,h1⟩:=aH hh;simp only[ae,eW,eS]at h1;obtain ⟨⟨⟨⟨⟨e1,e2⟩,hx⟩,ha⟩,hv⟩,h2⟩:=h1;obtain ⟨hd,hhd,h3⟩:=aU h2;obtain ⟨w,hw,h3⟩:=aH h3;obtain ⟨te,hte,h4⟩:=aU h3;obtain ⟨n,hn',h4⟩:=aH h4;simp only[ae]at h4;obtain ⟨s1,hs1,h5⟩:=aU h4.2;obtain ⟨a,ha',h5⟩:=aH h5;obtain ⟨tg,htg,h5⟩:=aU h5;obtain ⟨y,hy,h5⟩:=aH h5;exact ⟨_,_,_,_,_,_,_,_,_,_,by rw[ht,e1,e2,cZ hhd,hw,hte,hn',cZ hs1,ha',cZ htg,hy],hx,ha,hv,by simp only[ae];exact h4.1,h5⟩
theorem ab5{c:CT}{f C m:String}{o:Ex}{es:Exs}{sts:List Stmt}(h:iJ c (.mcl f C m o es) sts=true):∃e p0,sts=[.Expr e p0]/\aj c (.mcl f C m o es) e=true:=by have h:((one sts).any λs0=>az (uy s0) λe0=>aj c (.mcl f C m o es) e0.1)=true:=h;obtain ⟨s0,hs0,h⟩:=aU h;obtain ⟨e0,he0,h⟩:=aH h;exact ⟨_,_,by rw[cZ hs0,he0],h⟩
theorem ab6{c:CT}{x:Ex}{st:Stmt}(h:aZ c (.ret x) st=true):∃e pos,st=.Return (some e) pos/\(aj c x e)=true:=by have h:(az (uz st) λt=>t.1.any λe=>aj c x e)=true:=h;obtain ⟨t,ht,h⟩:=aH h;obtain ⟨e,he,h⟩:=aU h;exact ⟨_,_,by rw[ht,he],h⟩
theorem ab7{c:CT}{st:Stmt}(h:aZ c .rtn st=true):∃pos,st=.Return none pos/\(true)=true:=by have h:(az (uz st) λt=>t.1.isNone)=true:=h;obtain ⟨t,ht,h⟩:=aH h;rw[eA]at h;exact ⟨_,by rw[ht,h],rfl⟩
theorem ab8{c:CT}{t:Tx}{a b:Sxs}{st:Stmt}(h:aZ c (.ite t a b) st=true):∃t' a' b' pos,st=.If t' a' b' pos/\(bF c t t'&&aC c a a'&&aC c b b')=true:=by have h:(az (Gs st) λu=>bF c t u.1&&aC c a u.2.1&&aC c b u.2.2.1)=true:=h;obtain ⟨u,ht,h⟩:=aH h;exact ⟨_,_,_,_,ht,h⟩
theorem ab9{c:CT}{g:Tg}{it:It'}{b:Sxs}{st:Stmt}(h:aZ c (.for_ g it b) st=true):∃tg iter body pos,st=.For tg iter body [] pos/\(cN c g tg&&bY c it tg iter&&aC c b body)=true:=by have h:(az (Gu st) λt=>t.2.2.2.1.isEmpty&&(cN c g t.1&&bY c it t.1 t.2.1&&aC c b t.2.2.1))=true:=h;obtain ⟨t,ht,h⟩:=aH h;rw[ae,eW]at h;exact ⟨_,_,_,_,by rw[ht,h.1],h.2⟩
theorem aca{c:CT}{st:Stmt}(h:aZ c .pas st=true):∃pos,st=.Pass pos/\(true)=true:=by obtain ⟨⟨t,ht⟩,_⟩:=cK.mp (show (Gv st).isSome=true from h);exact ⟨t,ht,rfl⟩
theorem acb{c:CT}{st:Stmt}(h:aZ c .brk st=true):∃pos,st=.Break pos/\(true)=true:=by obtain ⟨⟨t,ht⟩,_⟩:=cK.mp (show (Gw st).isSome=true from h);exact ⟨t,ht,rfl⟩
theorem acd{c:CT}{st:Stmt}(h:aZ c .cnt st=true):∃pos,st=.Continue pos/\(true)=true:=by obtain ⟨⟨t,ht⟩,_⟩:=cK.mp (show (Gz st).isSome=true from h);exact ⟨t,ht,rfl⟩
def lC:Expr->Bool
 |.Starred ..=>false
 |.Set ..=>false
 |.Slice ..=>false
 |_=>true
theorem bL{c:CT}:∀(x:Ex){e:Expr},aj c x e=true->lC e=true
 |.frz a,e,h=>bL a (show aj c a e=true from h)
 |.var _,e,h=>by obtain ⟨_,_,rfl,_⟩:=GQ h;rfl
 |.cst _,e,h=>by obtain ⟨_,_,_,rfl,_⟩:=GR h;rfl
 |.glb _ _,e,h=>by obtain ⟨_,_,rfl,_⟩:=GX h;rfl
 |.bin _ _ _ _,e,h=>by obtain ⟨_,_,_,_,rfl,_⟩:=GZ h;rfl
 |.neg _,e,h=>by obtain ⟨_,_,rfl,_⟩:=Ha h;rfl
 |.cmp _ _ _,e,h=>by obtain ⟨_,_,_,_,rfl,_⟩:=Hc h;rfl
 |.chn _ _ _ _ _,e,h=>by obtain ⟨_,_,_,_,_,_,rfl,_⟩:=Hf h;rfl
 |.not _,e,h=>by obtain ⟨_,_,rfl,_⟩:=Hb h;rfl
 |.boo _ _ _,e,h=>by obtain ⟨_,_,_,_,rfl,_⟩:=Hg h;rfl
 |.ife _ _ _,e,h=>by obtain ⟨_,_,_,_,rfl,_⟩:=Hh h;rfl
 |.tup _,e,h=>by obtain ⟨_,_,_,rfl,_⟩:=Hi h;rfl
 |.lst _ _,e,h=>by obtain ⟨_,_,rfl,_⟩:=Hj h;rfl
 |.idx _ _,e,h=>by obtain ⟨_,_,_,rfl,_⟩:=Hk h;rfl
 |.slc _ _ _ _,e,h=>by obtain ⟨_,_,_,_,_,rfl,_⟩:=Hl h;rfl
 |.rvs _ _ _,_,h=>nomatch (show false=true from h)
 |.call _ _,e,h=>by obtain ⟨_,_,_,_,rfl,_⟩:=Hm h;rfl
 |.bcl _ _,e,h=>by obtain ⟨_,_,_,_,rfl,_⟩:=Hn h;rfl
 |.lcl _ _ _,e,h=>by obtain ⟨_,_,_,_,rfl,_⟩:=Ho h;rfl
 |.isi _ _,e,h=>by obtain ⟨_,_,_,_,_,_,rfl,_⟩:=Hq h;rfl
 |.rgl _ _,_,h=>nomatch (show false=true from h)
 |.rgt _,_,h=>nomatch (show false=true from h)
 |.fst _,_,h=>nomatch (show false=true from h)
 |.isx _ _ _,_,h=>nomatch (show false=true from h)
 |.rpl _ _ _ _,_,h=>nomatch (show false=true from h)
 |.fld _ _ _,e,h=>by obtain ⟨_,_,_,rfl,_⟩:=Hr h;rfl
 |.mcl _ _ _ _ _,e,h=>by obtain ⟨_,_,_,_,_,_,rfl,_⟩:=yG h;rfl
 |.mko _ _,e,h=>by obtain ⟨_,_,_,_,rfl,_⟩:=Hs h;rfl
 |.pp0 _,e,h=>by obtain ⟨_,_,_,_,rfl,_⟩:=Ht h;rfl
 |.mth _ _ _,e,h=>by obtain ⟨_,_,_,_,_,rfl,_⟩:=Hu h;rfl
 |.comp _ _ _ _ _ _ _,e,h=>by obtain ⟨_,_,_,_,_,_,_,rfl,_⟩:=Hv h;rfl
theorem cU{e:Expr}(h:lC e=true):noStar e=true:=by cases e <;> first |rfl |exact nomatch (show false=true from h)
theorem HB{e:Expr}(h:lC e=true)(op:CmpOp):behindInMarks op e=false:=by cases e <;> first |rfl |exact nomatch (show false=true from h)
theorem ace{e:Expr}(h:lC e=true)(env:Env)(x:Value):foldedSetIterable e env x=pure x:=by cases e <;> first |rfl |exact nomatch (show false=true from h)
theorem acf{e:Expr}(h:lC e=true):Dl e:=by intro o i;cases e <;> first |rfl |exact nomatch (show false=true from h)
theorem acg{e:Expr}(h:iD e=true)(env:Env)(whole:Sem Value):isTrue e env whole=(do let v <-whole;standAt e.pos;holding [v] (truthy v)):=by
 cases e with
 |UnaryOp op x p=>cases op <;> first |rfl |exact nomatch (show false=true from h)
 |_=>first |rfl |exact nomatch (show false=true from h)
def XV(K:PF)(H:Hp)(F:FZ)(x:Xn)(cv:Value)(od:Option Addr):Prop:=
 ∃C,cv=.ref C/\PySem.W.nsIn K mainGlobals (Str.ofString x.cls)=some (some (.ref C))/\
  match x.fld with
  |.non=>True
  |d=>∃a f v,od=some a/\H a=some (.xd [(f,v)])/\Rep K H F d v
def XR(K:PF)(H:Hp)(F:FZ)(x:Xn)(EX:XK):Prop:=∀cv od,XV K H F x cv od->EX cv od H
def PX(K:PF)(H:Hp)(F:FZ)(EX:XK):EK:=λx G'=>∀H' F',Ext H F H' F'->R K H' F' G'->XR K H' F' x EX
theorem el{α β γ:Type}{p q r s:α->β->γ->Prop}{C:Prop}(h:∃x y z,p x y z/\q x y z/\r x y z/\s x y z)(k:∀x y z,p x y z->q x y z->r x y z->s x y z->C):C:=by obtain ⟨x,y,z,h1,h2,h3,h4⟩:=h;exact k x y z h1 h2 h3 h4
def lift(K:PF)(n:Nat)(S:RF.Spec):Sp:=λvs H Q EX=>vs.length=n/\∃F G ds,R K H F G/\Reps K H F ds vs/\S.t ds G (PV K H F Q) (PX K H F EX)
def CV(K:PF)(mg:Str->Option Value)(C':String)(cv:V):Prop:=
 (∃a,cv=.ref a/\mg (Str.ofString C')=some (.ref a)/\qQ K a=true)\/(C'="ValueError"/\cv=.ty "ValueError"/\mg (Str.ofString C')=none)
def XI(K:PF)(C C':String)(cv:V):Prop:=
 ∃c,PySem.W.nsIn K mainGlobals (Str.ofString C)=some (some (.ref c))/\Er K c=true/\PySem.W.mroIn K c (valOf cv)=some (fQ C C')/\(fQ C C'=false->(Value.ref c==valOf cv)=false)
structure Bs where
 H:Hp
 F:FZ
def yH(K:PF)(C f:String):Prop:=∃c,PySem.W.nsIn K mainGlobals (Str.ofString C)=some (some (.ref c))/\Cls K c/\NoAttr K c (Str.ofString f)
def MthOk(Φ:aa)(P:Program)(w:World)(K:PF)(mg:Str->Option Value)(base:Heap)(CX:CXT)(k:Nat)(f C m:String)(n:Nat):Prop:=
 ∃c fa fd ps,PySem.W.nsIn K mainGlobals (Str.ofString C)=some (some (.ref c))/\Cls K c/\Meth K c (Str.ofString m) fa/\Binds K fd ps []/\FnOk P w K mg base CX k fa fd ps (lift K n (Φ f))
def MkoOk(Φ:aa)(P:Program)(w:World)(K:PF)(mg:Str->Option Value)(base:Heap)(CX:CXT)(k:Nat)(C:String)(n:Nat):Prop:=
 ∃c fa fd ps sp j,j+1<=k/\mg (Str.ofString C)=some (.ref c)/\Mk K c fa/\Binds K fd ps []/\FnOk P w K mg base CX j fa fd ps sp/\
  ∀vs H Q E,lift K n (Φ C) vs H Q E->∀x dx,H x=none->H dx=none->dx≠x->sp (.ref x::vs) (upd (upd H dx (.own x)) x (.ins c dx [])) (λv H2=>v=.non/\Q (.ref x) H2) E
structure Stat(Φ:aa)(CX:CXT)(k:Nat)(c:CT)(E:EK)(B:Bs)(X:Cx):Prop where
 N:X.N=c.N
 nd:X.N.Nodup
 calm:X.calm=true
 own:PassesOwn (model X.prog X.w) X.A X.env X.xe
 kd:X.env.kindOf=λx=>X.env.scope.names.lookup x
 vis:∀x,iC (c.kd.lookup x)=true->Vis X.env.scope x
 cel:∀x,(c.kd.lookup x=some .cell\/c.kd.lookup x=some .free)->(X.env.kindOf x=some .cell\/X.env.kindOf x=some .free)
 glo:∀x,c.kd.lookup x=some .globalImplicit->Gl X x
 sto:∀x,c.sto x=true->Loc X.env.scope x/\(X.fn x=true\/X.env.scope.names.lookup x=some .local)
 room:Room k X.A
 call:∀f n,(f,n)∈c.fs->∃fa fd ps,FnOk X.prog X.w X.K X.mg X.base CX k fa fd ps (lift X.K n (Φ f))/\PySem.W.keepIn X.K (.ref fa)=true/\Binds X.K fd ps []/\X.mg (Str.ofString f)=some (.ref fa)
 blt:∀f,f∈c.bt->X.mg (Str.ofString f)=none
 con:∀x d,(x,d)∈c.cn->∃u v,X.mg (Str.ofString x)=some u/\RelV v u/\∀H F,Rep X.K H F d v
 exc:∃EX,eQ CX X EX/\Throws X EX/\∀x G' H' F',E x G'->Ext B.H B.F H' F'->R X.K H' F' G'->XR X.K H' F' x EX
 nox:∀(Y:Cx),eQ CX Y λ_ _ _=>False
 xcl:∀C,c.xs.contains (C,true)=true->∃a,X.mg (Str.ofString C)=some (.ref a)/\il X.K a=true/\PySem.W.nsIn X.K mainGlobals (Str.ofString C)=some (some (.ref a))
 loc:∀x,c.kd.lookup x=some .local->X.env.scope.names.lookup x=some .local
 xis:∀C',c.xs.contains (C',false)=true->∃cv,CV X.K X.mg C' cv/\∀C,c.xs.contains (C,true)=true->XI X.K C C' cv
 mth:∀f C m n,(f,C,m,n)∈c.ot.ms->MthOk Φ X.prog X.w X.K X.mg X.base CX k f C m n
 mko:∀C n,(C,n)∈c.ot.ks->MkoOk Φ X.prog X.w X.K X.mg X.base CX k C n
 fld:∀C f,(C,f)∈c.ot.fl->yH X.K C f
 trc:c.xs≠[]->CX=CX1 X.prog X.w/\X.stack=X.env::X.outer/\X.ex=[]
def tE(K:PF)(B:Bs)(w:ao->DH->(D->DH->Prop)->Prop):TE:=λσ H Q=>∃ρ F G,Ext B.H B.F H F/\EnvR K H F ρ σ/\R K H F G/\w ρ G (PV K H F Q)
def tB'(K:PF)(B:Bs)(w:ao->DH->(Bool->DH->Prop)->Prop):TT:=λσ H Q=>∃ρ F G,Ext B.H B.F H F/\EnvR K H F ρ σ/\R K H F G/\w ρ G (PB K H F Q)
def tL(K:PF)(B:Bs)(w:ao->DH->(List D->DH->Prop)->Prop):TA:=λσ H Q=>∃ρ F G,Ext B.H B.F H F/\EnvR K H F ρ σ/\R K H F G/\w ρ G (PLs K H F Q)
noncomputable def POp(K:PF)(H:Hp)(F:FZ)(Q:Option Int->Hp->Prop):Option Int->DH->Prop:=λb G'=>∀H' F',Ext H F H' F'->R K H' F' G'->Q b H'
def HF(K:PF)(B:Bs)(w:ao->DH->(Option Int->DH->Prop)->Prop):TO:=λσ H Q=>∃ρ F G,Ext B.H B.F H F/\EnvR K H F ρ σ/\R K H F G/\w ρ G (POp K H F Q)
theorem peI{X:Cx}{e:Expr}{t t':TE}(h:PE X e t)(i:∀σ H Q,t' σ H Q->t σ H Q):PE X e t':=λpins s σ H Q I q=>h pins s σ H Q I (i σ H Q q)
theorem ptI{X:Cx}{e:Expr}{t t':TT}(h:PT X e t)(i:∀σ H Q,t' σ H Q->t σ H Q):PT X e t':=λpins s σ H Q I q=>h pins s σ H Q I (i σ H Q q)
theorem pwI{X:Cx}{e:Expr}{t t':TT}(h:PW X e t)(i:∀σ H Q,t' σ H Q->t σ H Q):PW X e t':=λwh pins s σ H Q I q=>h wh pins s σ H Q I (i σ H Q q)
theorem paI{X:Cx}{e:List Expr}{t t':TA}(h:PA X e t)(i:∀σ H Q,t' σ H Q->t σ H Q):PA X e t':=λpos pins s σ H Q I q=>h pos pins s σ H Q I (i σ H Q q)
section
variable {Φ:aa} {CX:CXT} {k:Nat} {c:CT} {E:EK} {B:Bs} {X:Cx}
theorem aO{K:PF}{x:Ex}{σ:L2.St}{H:Hp}{F:FZ}{G:DH}{ρ:ao}{W:D->DH->Prop}{Q:VK}(e0:Ext B.H B.F H F)(he:EnvR K H F ρ σ)(r:R K H F G)(hw:wpE Φ x E ρ G W)
  (h:∀d G1 H1 F1 v,W d G1->Ext B.H B.F H1 F1->Ext H F H1 F1->EnvR K H1 F1 ρ σ->R K H1 F1 G1->Rep K H1 F1 d v->Q v H1):tE K B (wpE Φ x E) σ H Q:=
 ⟨ρ,F,G,e0,he,r,aG x (λd G1 q H1 F1 v x1 r1 rv=>h d G1 H1 F1 v q (e0.trans x1) x1 (he.ext x1) r1 rv) hw⟩
theorem cu{K:PF}{x:Exs}{σ:L2.St}{H:Hp}{F:FZ}{G:DH}{ρ:ao}{W:List D->DH->Prop}{Q:List V->Hp->Prop}(e0:Ext B.H B.F H F)(he:EnvR K H F ρ σ)(r:R K H F G)(hw:aN Φ x E ρ G W)
  (h:∀d G1 H1 F1 v,W d G1->Ext B.H B.F H1 F1->Ext H F H1 F1->EnvR K H1 F1 ρ σ->R K H1 F1 G1->Reps K H1 F1 d v->Q v H1):tL K B (aN Φ x E) σ H Q:=
 ⟨ρ,F,G,e0,he,r,cF x (λd G1 q H1 F1 v x1 r1 rv=>h d G1 H1 F1 v q (e0.trans x1) x1 (he.ext x1) r1 rv) hw⟩
theorem jF{K:PF}{x:Tx}{σ:L2.St}{H:Hp}{F:FZ}{G:DH}{ρ:ao}{W:Bool->DH->Prop}{Q:Bool->Hp->Prop}(e0:Ext B.H B.F H F)(he:EnvR K H F ρ σ)(r:R K H F G)(hw:wpT Φ x E ρ G W)
  (h:∀d G1 H1 F1,W d G1->Ext B.H B.F H1 F1->Ext H F H1 F1->EnvR K H1 F1 ρ σ->R K H1 F1 G1->Q d H1):tB' K B (wpT Φ x E) σ H Q:=
 ⟨ρ,F,G,e0,he,r,du x (λd G1 q H1 F1 x1 r1=>h d G1 H1 F1 q (e0.trans x1) x1 (he.ext x1) r1) hw⟩
theorem HH{K:PF}{x:Ox}{σ:L2.St}{H:Hp}{F:FZ}{G:DH}{ρ:ao}{W:Option Int->DH->Prop}{Q:Option Int->Hp->Prop}(e0:Ext B.H B.F H F)(he:EnvR K H F ρ σ)(r:R K H F G)(hw:wpO Φ x E ρ G W)
  (h:∀d G1 H1 F1,W d G1->Ext B.H B.F H1 F1->Ext H F H1 F1->EnvR K H1 F1 ρ σ->R K H1 F1 G1->Q d H1):HF K B (wpO Φ x E) σ H Q:=
 ⟨ρ,F,G,e0,he,r,yf x (λd G1 q H1 F1 x1 r1=>h d G1 H1 F1 q (e0.trans x1) x1 (he.ext x1) r1) hw⟩
theorem PV.later{K:PF}{H H1:Hp}{F F1:FZ}{Q:VK}{d:D}{G:DH}(h:PV K H F Q d G)(x:Ext H F H1 F1):PV K H1 F1 Q d G:=λH' F' v x1=>h H' F' v (x.trans x1)
theorem PB.later{K:PF}{H H1:Hp}{F F1:FZ}{Q:Bool->Hp->Prop}{d:Bool}{G:DH}(h:PB K H F Q d G)(x:Ext H F H1 F1):PB K H1 F1 Q d G:=λH' F' x1=>h H' F' (x.trans x1)
theorem PB.now{K:PF}{H:Hp}{F:FZ}{Q:Bool->Hp->Prop}{d:Bool}{G:DH}(h:PB K H F Q d G)(r:R K H F G):Q d H:=h H F (Ext.refl H F) r
theorem jG(S:Stat Φ CX k c E B X):X.A.units+100 < cLine:=by have:=S.room.un;omega
theorem cz {x:Str} (h:okN x=true):(x==("__debug__":Str))=false:=by
 unfold okN at h;cases e:x==("__debug__":Str) with
 |false=>rfl
 |true=>rw[e]at h;simp at h
theorem ach {x:Str} (h:okN x=true):(x==("__classdict__":Str))=false:=by
 unfold okN at h;cases e:x==("__classdict__":Str) with
 |false=>rfl
 |true=>rw[e]at h;simp at h
theorem dZ {x:Str} (h:okN x=true):x≠"__name__":=by unfold okN at h;intro e;rw[aw.mpr e]at h;simp at h
theorem dH{x:Str}(h:c.glo x=true):c.kd.lookup x=some .globalImplicit/\okN x=true:=by unfold CT.glo at h;rw[ae,aw]at h;exact h
theorem aci(S:Stat Φ CX k c E B X){i:Nat}{e:Expr}(h:aj c (.var i) e=true):PE X e (tE X.K B (wpE Φ (.var i) E)):=by
 replace h:=GQ h;obtain ⟨x,pos,rfl,h⟩:=h
 ·rw[ae,ae,aw]at h;refine peI (Ce (i:=i) (by rw[S.N];exact h.1.1) (S.vis x h.1.2) (cz h.2) (ach h.2)) λσ H Q q=>?_;obtain ⟨ρ,F,G,_,he,r,hw⟩:=q;rw[rO]at hw;split at hw
  ·rename_i d hd;obtain ⟨v,e1,rv⟩:=he.get hd;exact ⟨v,e1,hw.now r rv⟩
  ·exact hw.elim
theorem acj(S:Stat Φ CX k c E B X){d:D}{e:Expr}(h:aj c (.cst d) e=true):PE X e (tE X.K B (wpE Φ (.cst d) E)):=by
 replace h:=GR h;obtain ⟨kk,_,_,rfl,h⟩:=h
 ·unfold uv at h;split at h
  ·exact peI Wf λσ H Q hq=>el hq λρ F G _ he r hw=>by rw[iu]at hw;exact hw.now r rfl
  ·rw[aw]at h;subst h;exact peI Cg λσ H Q hq=>el hq λρ F G _ he r hw=>by rw[iu]at hw;exact hw.now r rfl
  ·rw[aw]at h;subst h;exact peI We λσ H Q hq=>el hq λρ F G _ he r hw=>by rw[iu]at hw;exact hw.now r rfl
  ·rename_i l b;rw[ae,aw,ci]at h;refine peI Ci λσ H Q hq=>el hq λρ F G _ he r hw=>?_;rw[iu]at hw;refine hw.now r ⟨?_,h.2⟩;rw[h.1,<-wD]
  ·cases h
theorem ack(S:Stat Φ CX k c E B X){x:String}{d:D}{e:Expr}(h:aj c (.glb x d) e=true):PE X e (tE X.K B (wpE Φ (.glb x d) E)):=by
 replace h:=GX h;obtain ⟨y,pos,rfl,h⟩:=h
 ·rw[ae,ae,aw,List.any_eq_true]at h;obtain ⟨⟨e1,h1⟩,⟨x',d'⟩,hm,h2⟩:=h;rw[ae,aw]at h2;obtain ⟨e2,e3⟩:=h2;have e3:=abR e3;simp only at e2 e3;subst e1 e2 e3;obtain ⟨g1,g2⟩:=dH h1;obtain ⟨u,v,hu,ru,hr⟩:=S.con _ _ hm;exact peI (Wg (S.glo _ g1) hu ru (cz g2)) λσ H Q hq=>el hq λρ F G _ he r hw=>by rw[rP]at hw;exact hw.now r (hr H F)
theorem acl(S:Stat Φ CX k c E B X){op:Operator}{fz:Bool}{a b:Ex}(iha:∀{e},aj c a e=true->PE X e (tE X.K B (wpE Φ a E)))(ihb:∀{e},aj c b e=true->PE X e (tE X.K B (wpE Φ b E))){e:Expr}
  (h:aj c (.bin op fz a b) e=true):PE X e (tE X.K B (wpE Φ (.bin op fz a b) E)):=by
 replace h:=GZ h;obtain ⟨l,o,r,pos,rfl,h⟩:=h
 ·rw[ae,ae,aw]at h;obtain ⟨⟨e1,h1⟩,h2⟩:=h;subst e1;refine peI (Xk (aaP _ fz) (iha h1) (ihb h2)) λσ H Q hq=>el hq λρ F G e0 he r hw=>?_;rw[rQ]at hw;refine aO e0 he r hw λx G1 H1 F1 v q e1 x1 he1 r1 rv=>aO e1 he1 r1 q λy G2 H2 F2 u q e2 x2 he2 r2 ru=>?_;exact ⟨F2,G2,x,y,r2,Rep.ext x2 rv,ru,Fe (λd G' z=>PV.later z (x1.trans x2)) q⟩
theorem acn(S:Stat Φ CX k c E B X){a:Ex}(iha:∀{e},aj c a e=true->PE X e (tE X.K B (wpE Φ a E))){e:Expr}(h:aj c (.neg a) e=true):PE X e (tE X.K B (wpE Φ (.neg a) E)):=by
 replace h:=Ha h;obtain ⟨_,_,rfl,h⟩:=h
 ·refine peI (Xl Xw (iha h)) λσ H Q hq=>el hq λρ F G e0 he r hw=>?_;rw[rR]at hw;refine aO e0 he r hw λx G1 H1 F1 v q e1 x1 he1 r1 rv=>?_;split at q
  ·have e2:v=.int _:=rv;subst e2;exact ⟨_,rfl,q _ _ _ x1 r1 rfl⟩
  ·exact q.elim
theorem HJ(S:Stat Φ CX k c E B X){op:CmpOp}{a b:Ex}(iha:∀{e},aj c a e=true->PE X e (tE X.K B (wpE Φ a E)))(ihb:∀{e},aj c b e=true->PE X e (tE X.K B (wpE Φ b E))){e:Expr}
  (h:aj c (.cmp op a b) e=true):PE X e (tE X.K B (wpE Φ (.cmp op a b) E))/\PT X e (tB' X.K B (wpT Φ (.val (.cmp op a b)) E)):=by
 replace h:=Hc h;obtain ⟨l,o,r,pos,rfl,h⟩:=h
 ·rw[ae,ae,aw]at h;obtain ⟨⟨e1,h1⟩,h2⟩:=h;subst e1;have hm:=HB (bL b h2) o;refine ⟨peI (Xz (jB _ (jG S)) (iha h1) (ihb h2) hm) λσ H Q hq=>el hq λρ F G e0 he r hw=>?_,ptI (XC (jB _ (jG S)) (iha h1) (ihb h2) hm) λσ H Q hq=>el hq λρ F G e0 he r hw=>?_⟩
  ·rw[kJ]at hw;refine aO e0 he r hw λx G1 H1 F1 v q e1 x1 he1 r1 rv=>aO e1 he1 r1 q λy G2 H2 F2 u q e2 x2 he2 r2 ru=>?_;exact ⟨F2,G2,x,y,r2,Rep.ext x2 rv,ru,iw (λd z=>PV.later z (x1.trans x2)) q⟩
  ·rw[jx,kJ]at hw;refine aO e0 he r hw λx G1 H1 F1 v q e1 x1 he1 r1 rv=>aO e1 he1 r1 q λy G2 H2 F2 u q e2 x2 he2 r2 ru=>?_;refine ⟨F2,G2,x,y,r2,Rep.ext x2 rv,ru,iw (λd z=>?_) q⟩;intro H' F' v' x' r' rv';have e3:v'=.bl d:=rv';exact ⟨d,e3,z H' F' ((x1.trans x2).trans x') r'⟩
theorem HN(S:Stat Φ CX k c E B X){op op':CmpOp}{a b d:Ex}(iha:∀{e},aj c a e=true->PE X e (tE X.K B (wpE Φ a E)))(ihb:∀{e},aj c b e=true->PE X e (tE X.K B (wpE Φ b E)))(ihd:∀{e},aj c d e=true->PE X e (tE X.K B (wpE Φ d E))){e:Expr}
  (h:aj c (.chn op op' a b d) e=true):PE X e (tE X.K B (wpE Φ (.chn op op' a b d) E))/\PT X e (tB' X.K B (wpT Φ (.val (.chn op op' a b d)) E)):=by
 replace h:=Hf h;obtain ⟨l,o,o',m,r,pos,rfl,h⟩:=h
 ·simp only[ae,aw]at h;obtain ⟨⟨⟨⟨e1,e2⟩,h1⟩,h2⟩,h3⟩:=h;subst e1 e2;have hm:lastMarks [o,o'] [m,r]=false:=HB (bL d h3) o';have go:∀{σ H Q ρ F G}{W:Bool->DH->Prop},Ext B.H B.F H F->EnvR X.K H F ρ σ->R X.K H F G->
    wpE Φ a E ρ G (λx G1=>wpE Φ b E ρ G1 λy G2=>aY o (view G2 x) (view G2 y) λt=>match t with |true=>wpE Φ d E ρ G2 λz G3=>aY o' (view G3 y) (view G3 z) λt'=>W t' G3 |false=>W false G2)->
    (∀t G' H' F',W t G'->Ext H F H' F'->R X.K H' F' G'->Q (.bl t) H')->
    wk (rC2 X.K (aY o)) (rC2 X.K (aY o')) (tE X.K B (wpE Φ a E)) (tE X.K B (wpE Φ b E)) (tE X.K B (wpE Φ d E)) σ H Q:=by
   intro σ H Q ρ F G W e0 he r hw fin;refine aO e0 he r hw λx G1 H1 F1 v q e1 x1 he1 r1 rv=>aO e1 he1 r1 q λy G2 H2 F2 u q e2 x2 he2 r2 ru=>?_;refine ⟨F2,G2,x,y,r2,Rep.ext x2 rv,ru,iw (λt q=>?_) q⟩;intro H3 F3 v3 x3 r3 rv3;have e3:v3=.bl t:=rv3;refine ⟨t,e3,?_⟩;cases t with
   |true=>
    rw[if_pos rfl];refine aO (e2.trans x3) (he2.ext x3) r3 q λz G4 H4 F4 v4 q e4 x4 he4 r4 rv4=>?_;refine ⟨F4,G4,y,z,r4,Rep.ext (x3.trans x4) ru,rv4,iw (λt' q=>?_) q⟩;intro H5 F5 v5 x5 r5 rv5;have e5:v5=.bl t':=rv5;subst e5;exact fin _ _ _ _ q ((((x1.trans x2).trans x3).trans x4).trans x5) r5
   |false=>
    rw[if_neg br];exact fin _ _ _ _ q ((x1.trans x2).trans x3) r3
  refine ⟨peI (XD (jB _ (jG S)) (jB _ (jG S)) (iha h1) (ihb h2) (ihd h3) hm) λσ H Q hq=>el hq λρ F G e0 he r hw=>?_,ptI (XF (jB _ (jG S)) (jB _ (jG S)) (iha h1) (ihb h2) (ihd h3) hm) λσ H Q hq=>el hq λρ F G e0 he r hw=>?_⟩
  ·rw[kO]at hw;exact go (W:=λt G'=>PV X.K H F Q (.bl t) G') e0 he r hw λt G' H' F' z x' r'=>z H' F' _ x' r' rfl
  ·rw[jx,kO]at hw;refine go (W:=λt G'=>PB X.K H F Q t G') e0 he r hw λt G' H' F' z x' r'=>⟨t,rfl,z H' F' x' r'⟩
end
section
variable {Φ:aa} {CX:CXT} {k:Nat} {c:CT} {E:EK} {B:Bs} {X:Cx}
abbrev OkE(Φ:aa)(c:CT)(E:EK)(B:Bs)(X:Cx)(x:Ex):Prop:=∀{e:Expr},aj c x e=true->PE X e (tE X.K B (wpE Φ x E))
abbrev eY(Φ:aa)(c:CT)(E:EK)(B:Bs)(X:Cx)(x:Exs):Prop:=∀{es:List Expr},aL c x es=true->PA X es (tL X.K B (aN Φ x E))
abbrev OkT(Φ:aa)(c:CT)(E:EK)(B:Bs)(X:Cx)(x:Tx):Prop:=∀{e:Expr},bF c x e=true->PT X e (tB' X.K B (wpT Φ x E))
theorem aco(S:Stat Φ CX k c E B X){a:Ex}(iha:OkE Φ c E B X a){e:Expr}(h:aj c (.not a) e=true):PE X e (tE X.K B (wpE Φ (.not a) E)):=by
 replace h:=Hb h;obtain ⟨_,_,rfl,h⟩:=h
 ·intro pins s σ H Q I q;obtain ⟨ρ,F,G,e0,he,r,hw⟩:=q;rw[rT]at hw;have q':tE X.K B (wpE Φ a E) σ H (λx H1=>∃b,qG X.K x H1 b/\Q (.bl (!b)) H1):=aO e0 he r hw λx G1 H1 F1 v q e1 x1 he1 r1 rv=>by
   split at q
   ·rename_i b hb;exact ⟨b,FJ r1 rv hb,q _ _ _ x1 r1 rfl⟩
   ·exact q.elim
  refine UnaryOp_ (thn (iha h pins s σ H _ I q') λv s1 ⟨x,H1,I1,r1,b,tb,q1⟩=>?_);refine not_of (thn (Cz pins s1 σ H1 x v (λb' H'=>Q (.bl (!b')) H') I1 r1 ⟨b,tb,q1⟩) λb' s2 ⟨H2,I2,q2⟩=>?_);exact ⟨.bl (!b'),H2,I2,rfl,q2⟩
theorem yI{es:List Expr}(h:aL c .nil es=true):PA X es (tL X.K B (aN Φ .nil E)):=by
 unfold aL at h;cases es with
 |nil=>exact paI j9 λσ H Q hq=>el hq λρ F G e0 he r hw=>by rw[fV]at hw;exact hw H F [] (Ext.refl _ _) r rfl
 |cons _ _=>cases h
theorem uC{x:Ex}{xs:Exs}(ih:OkE Φ c E B X x)(ihs:eY Φ c E B X xs){es:List Expr}(h:aL c (.cons x xs) es=true):PA X es (tL X.K B (aN Φ (.cons x xs) E)):=by
 unfold aL at h;split at h
 ·rename_i e es;rw[ae]at h;refine paI (ji (ih h.1) (ihs h.2) (cB e es X.env (cU (bL x h.1)))) λσ H Q hq=>el hq λρ F G e0 he r hw=>?_;rw[gG]at hw;refine aO e0 he r hw λd G1 H1 F1 v q e1 x1 he1 r1 rv=>cu e1 he1 r1 q λds G2 H2 F2 vs q e2 x2 he2 r2 rvs=>?_;exact q H2 F2 _ (x1.trans x2) r2 ⟨v,vs,rfl,Rep.ext x2 rv,rvs⟩
 ·cases h
theorem acp(S:Stat Φ CX k c E B X){es:Exs}(ih:eY Φ c E B X es){e:Expr}(h:aj c (.tup es) e=true):PE X e (tE X.K B (wpE Φ (.tup es) E)):=by
 replace h:=Hi h;obtain ⟨_,_,_,rfl,h⟩:=h
 ·refine peI (Ym (ih h)) λσ H Q hq=>el hq λρ F G e0 he r hw=>?_;rw[rZ]at hw;refine cu e0 he r hw λds G1 H1 F1 vs q e1 x1 he1 r1 rvs=>⟨by rw[<-rvs.length];exact cY q.1,kZ (PV.later q.2 x1) r1 rvs⟩
theorem acq(S:Stat Φ CX k c E B X){fz:Bool}{es:Exs}(ih:eY Φ c E B X es){e:Expr}(h:aj c (.lst fz es) e=true):PE X e (tE X.K B (wpE Φ (.lst fz es) E)):=by
 replace h:=Hj h;obtain ⟨_,_,rfl,h⟩:=h
 ·refine peI (Yn (ih h)) λσ H Q hq=>el hq λρ F G e0 he r hw=>?_;rw[sr]at hw;refine cu e0 he r hw λds G1 H1 F1 vs q e1 x1 he1 r1 rvs=>⟨by rw[<-rvs.length];exact cY q.1,fX (dD (λd G' z=>PV.later z x1) q.2) r1 rvs⟩
theorem acr(S:Stat Φ CX k c E B X){a i:Ex}(iha:OkE Φ c E B X a)(ihi:OkE Φ c E B X i){e:Expr}(h:aj c (.idx a i) e=true):PE X e (tE X.K B (wpE Φ (.idx a i) E)):=by
 replace h:=Hk h;obtain ⟨_,_,_,rfl,h⟩:=h
 ·rw[ae]at h;refine peI (YQ aaW (iha h.1) (ihi h.2) (acf (bL i h.2))) λσ H Q hq=>el hq λρ F G e0 he r hw=>?_;rw[su]at hw;refine aO e0 he r hw λx G1 H1 F1 v q e1 x1 he1 r1 rv=>aO e1 he1 r1 q λy G2 H2 F2 u q e2 x2 he2 r2 ru=>?_;exact ⟨F2,G2,x,y,r2,Rep.ext x2 rv,ru,tX (λd z=>PV.later z (x1.trans x2)) q⟩
theorem HQ{lo:Ox}(ih:∀x,lo=.ob x->OkE Φ c E B X x){l:Option Expr}(h:gb c lo l=true):PO X l (HF X.K B (wpO Φ lo E)):=by
 cases lo with
 |no=>
  unfold gb at h;cases l with
  |none=>
   intro pins s σ H Q I q;refine YF pins s σ H Q I ?_;obtain ⟨ρ,F,G,e0,he,r,hw⟩:=q;rw[rG]at hw;exact hw H F (Ext.refl _ _) r
  |some _=>cases h
 |ob x=>
  unfold gb at h;split at h
  ·intro pins s σ H Q I q;refine YG (ih x rfl h) pins s σ H Q I ?_;obtain ⟨ρ,F,G,e0,he,r,hw⟩:=q;rw[rH]at hw;refine aO e0 he r hw λd G1 H1 F1 v q e1 x1 he1 r1 rv=>?_;split at q
   ·have e2:v=.int _:=rv;exact ⟨_,e2,q H1 F1 x1 r1⟩
   ·exact q.elim
  ·cases h
theorem acs(S:Stat Φ CX k c E B X){fz:Bool}{a:Ex}{lo hi:Ox}(iha:OkE Φ c E B X a)(ihl:∀x,lo=.ob x->OkE Φ c E B X x)(ihh:∀x,hi=.ob x->OkE Φ c E B X x){e:Expr}(h:aj c (.slc fz a lo hi) e=true):
  PE X e (tE X.K B (wpE Φ (.slc fz a lo hi) E)):=by
 replace h:=Hl h;obtain ⟨_,_,_,_,_,rfl,h⟩:=h
 ·rw[ae,ae]at h;refine peI (YH (aa2 fz) (iha h.1.1) (HQ ihl h.1.2) (HQ ihh h.2)) λσ H Q hq=>el hq λρ F G e0 he r hw=>?_;rw[sy]at hw;refine aO e0 he r hw λx G1 H1 F1 v q e1 x1 he1 r1 rv=>HH e1 he1 r1 q λl G2 H2 F2 q e2 x2 he2 r2=>HH e2 he2 r2 q λu G3 H3 F3 q e3 x3 he3 r3=>?_;exact ⟨F3,G3,x,r3,Rep.ext (x2.trans x3) rv,Fg (λd G' z=>PV.later z ((x1.trans x2).trans x3)) q⟩
theorem acu(S:Stat Φ CX k c E B X){fz:Bool}{a s:Ex}(iha:OkE Φ c E B X a)(ihs:OkE Φ c E B X s){e:Expr}(h:aj c (.rvs fz a s) e=true):PE X e (tE X.K B (wpE Φ (.rvs fz a s) E)):=nomatch (show false=true from h)
theorem acv(S:Stat Φ CX k c E B X){a:Ex}(iha:OkE Φ c E B X a){e:Expr}(h:aj c (.frz a) e=true):PE X e (tE X.K B (wpE Φ (.frz a) E)):=by
 have h:aj c a e=true:=h;refine peI (iha h) λσ H Q hq=>el hq λρ F G e0 he r hw=>?_;rw[sV]at hw;refine aO e0 he r hw λx G1 H1 F1 v q e1 x1 he1 r1 rv=>?_;split at q
 ·rename_i p;have e2:v=.ref p:=rv;subst e2;split at q
  ·rename_i ds hg;exact q _ _ _ (x1.trans wW) (r1.frz hg) (aaE r1 hg)
  ·exact q.elim
 ·exact q _ _ _ x1 r1 rv
theorem iK{es:List Expr}{xs:Exs}(h:aL c xs es=true)(env:Env)(pos:Pos):(backTo pos (starEach es env)).any (·.1)=false:=by
 induction es generalizing xs with
 |nil=>rfl
 |cons e es ih=>
  cases xs with
  |nil=>unfold aL at h;cases h
  |cons x xs=>
   unfold aL at h;rw[ae]at h;rw[cB e es env (cU (bL x h.1))];show (false||(backTo pos (starEach es env)).any (·.1))=false;rw[ih h.2];rfl
theorem gM{e:Expr}{es:List Expr}{xs:Exs}(h:aL c xs (e::es)=true):∃x xs',xs=.cons x xs'/\aj c x e=true/\aL c xs' es=true:=by
 cases xs with
 |nil=>unfold aL at h;cases h
 |cons x xs'=>
  unfold aL at h;rw[ae]at h;exact ⟨x,xs',rfl,h.1,h.2⟩
theorem lD{ρ:ao}:∀(xs:Exs){es:List Expr}{G:DH}{Q:List D->DH->Prop},aL c xs es=true->aN Φ xs E ρ G Q->aN Φ xs E ρ G (λds G'=>ds.length=es.length/\Q ds G')
 |.nil,es,G,Q,h,q=>by
  unfold aL at h;rw[fV]at q ⊢;cases es with
  |nil=>exact ⟨rfl,q⟩
  |cons _ _=>cases h
 |.cons x xs,es,G,Q,h,q=>by
  unfold aL at h;split at h
  ·rename_i e es;rw[ae]at h;rw[gG]at q ⊢;refine aG x (λd G1 q=>cF xs (λds G2 z=>?_) (lD xs h.2 q)) q;exact ⟨by simp[z.1],z.2⟩
  ·cases h
theorem acw(S:Stat Φ CX k c E B X){f:String}{xs:Exs}(ih:eY Φ c E B X xs){e:Expr}(h:aj c (.call f xs) e=true):PE X e (tE X.K B (wpE Φ (.call f xs) E)):=by
 replace h:=Hm h;obtain ⟨x,p,args,pos,rfl,h⟩:=h
 ·simp only[ae,aw,List.any_eq_true]at h;obtain ⟨⟨⟨⟨e1,h1⟩,⟨f',n⟩,hm,e2,e3⟩,h2⟩,h3⟩:=h;simp only at e2 e3;subst e1 e2 e3;obtain ⟨g1,g2⟩:=dH h1;obtain ⟨fa,fd,ps,F0,hk,hb,hmg⟩:=S.call _ _ hm;obtain ⟨EX,hpass,_,hEX⟩:=S.exc;cases args with
  |nil=>cases h2
  |cons e es=>
   obtain ⟨x0,xs',rfl,c1,c2⟩:=gM h3;refine peI (Yq F0 S.room (S.glo _ g1) hmg hk hb .nil hpass (ih h3) (cz g2) (cB e es X.env (cU (bL x0 c1))) (iK c2 X.env pos)) λσ H Q hq=>el hq λρ F G e0 he r hw=>?_;rw[sE]at hw;refine cu e0 he r (lD _ h3 hw) λds G1 H1 F1 vs q e1 x1 he1 r1 rvs=>?_;rw[dA];refine ⟨by rw[<-rvs.length];exact q.1,F1,G1,ds,r1,rvs,Spec.mono q.2 (λd G' z=>PV.later z x1) λx G' z H' F' x' r'=>?_⟩;exact hEX x G' H' F' z (e1.trans x') r'
theorem acx(S:Stat Φ CX k c E B X){f:Bf}{xs:Exs}(ih:eY Φ c E B X xs){e:Expr}(h:aj c (.bcl f xs) e=true):PE X e (tE X.K B (wpE Φ (.bcl f xs) E)):=by
 replace h:=Hn h;obtain ⟨x,p,args,pos,rfl,h⟩:=h
 ·simp only[ae,aw]at h;obtain ⟨⟨⟨⟨⟨e1,hok⟩,h1⟩,hm⟩,h2⟩,h3⟩:=h;subst e1;obtain ⟨g1,g2⟩:=dH h1;have hmg:=S.blt _ (a9.mp hm);cases args with
  |nil=>cases h2
  |cons e es=>
   obtain ⟨x0,xs',rfl,c1,c2⟩:=gM h3;have hs:=cB e es X.env (cU (bL x0 c1));have ha:=iK c2 X.env pos;have go:∀σ H Q,tE X.K B (wpE Φ (.bcl f (.cons x0 xs')) E) σ H Q->tCB (iy X.K f) (tL X.K B (aN Φ (.cons x0 xs') E)) σ H Q:=λσ H Q hq=>el hq λρ F G e0 he r hw=>by
    rw[sG]at hw;refine cu e0 he r hw λds G1 H1 F1 vs q e1 x1 he1 r1 rvs=>?_;exact ⟨F1,G1,ds,r1,rvs,Fi (λd z=>PV.later z x1) q⟩
   cases f with
   |len=>exact peI (qJ aa3 (S.glo _ g1) hmg PySem.boot_len (ih h3) (dZ g2) (cz g2) hs ha) go
   |all=>exact peI (qJ (aa4 S.calm) (S.glo _ g1) hmg ZP (ih h3) (dZ g2) (cz g2) hs ha) go
   |int=>exact peI (qK aa5 (S.glo _ g1) hmg DW (ih h3) (dZ g2) (cz g2) hs ha) go
   |tuple=>exact peI (qK aa6 (S.glo _ g1) hmg (by ac_rfl) (ih h3) (dZ g2) (cz g2) hs ha) go
   |sum=>cases hok
   |min=>exact peI (qJ (abf S.calm) (S.glo _ g1) hmg abg (ih h3) (dZ g2) (cz g2) hs ha) go
   |max=>cases hok
   |abs=>cases hok
   |min2=>cases hok
   |str=>exact peI (qK abh (S.glo _ g1) hmg DX (ih h3) (dZ g2) (cz g2) hs ha) go
theorem acy(S:Stat Φ CX k c E B X){fz:Bool}{f:Lf}{xs:Exs}(ih:eY Φ c E B X xs){e:Expr}(h:aj c (.lcl fz f xs) e=true):PE X e (tE X.K B (wpE Φ (.lcl fz f xs) E)):=by
 replace h:=Ho h;obtain ⟨x,p,args,pos,rfl,h⟩:=h
 ·simp only[ae,aw]at h;obtain ⟨⟨⟨⟨⟨e1,hok⟩,h1⟩,hm⟩,h2⟩,h3⟩:=h;subst e1;obtain ⟨g1,g2⟩:=dH h1;have hmg:=S.blt _ (a9.mp hm);cases args with
  |nil=>cases h2
  |cons e es=>
   obtain ⟨x0,xs',rfl,c1,c2⟩:=gM h3;have hs:=cB e es X.env (cU (bL x0 c1));have ha:=iK c2 X.env pos;have go:∀σ H Q,tE X.K B (wpE Φ (.lcl fz f (.cons x0 xs')) E) σ H Q->tCB (FN X.K fz f) (tL X.K B (aN Φ (.cons x0 xs') E)) σ H Q:=λσ H Q hq=>el hq λρ F G e0 he r hw=>by
    rw[sH]at hw;refine cu e0 he r hw λds G1 H1 F1 vs q e1 x1 he1 r1 rvs=>?_;exact ⟨F1,G1,ds,r1,rvs,Fj (λd z=>dD (λd G' z=>PV.later z x1) z) q⟩
   cases f with
   |list=>exact peI (qK (aa9 S.calm fz) (S.glo _ g1) hmg DY (ih h3) (dZ g2) (cz g2) hs ha) go
   |sorted=>cases hok
theorem acz(S:Stat Φ CX k c E B X){fz:Bool}{a:Ex}(iha:OkE Φ c E B X a){e:Expr}(h:aj c (.rgl fz a) e=true):PE X e (tE X.K B (wpE Φ (.rgl fz a) E)):=nomatch (show false=true from h)
theorem acA(S:Stat Φ CX k c E B X){a:Ex}(iha:OkE Φ c E B X a){e:Expr}(h:aj c (.rgt a) e=true):PE X e (tE X.K B (wpE Φ (.rgt a) E)):=nomatch (show false=true from h)
theorem acB{t:String}(h:fP t=true):bootBuiltins (Str.ofString t)=some (.type t):=by
 simp only[fP,dc,aw]at h;rcases h with (((rfl |rfl) |rfl) |rfl) |rfl
 ·exact Zz
 ·exact DW
 ·exact DX
 ·ac_rfl
 ·exact DY
theorem acC(S:Stat Φ CX k c E B X){a:Ex}{t:String}(iha:OkE Φ c E B X a){e:Expr}(h:aj c (.isi a t) e=true):PE X e (tE X.K B (wpE Φ (.isi a t) E)):=by
 replace h:=Hq h;obtain ⟨x,p,v,y,p2,pos,rfl,h⟩:=h
 ·simp only[ae,aw]at h;obtain ⟨⟨⟨⟨⟨⟨⟨e1,h1⟩,hm1⟩,h2⟩,e2⟩,h3⟩,hm2⟩,h4⟩:=h;subst e1 e2;obtain ⟨g1,g2⟩:=dH h1;obtain ⟨g3,g4⟩:=dH h3;have hmg:=S.blt _ (a9.mp hm1);have hmt:=S.blt _ (a9.mp hm2);have hty:PE X (.Name (Str.ofString t) p2) (tC (.ty t)):=ZD (S.glo _ g3) hmt (acB h4) (dZ g4) (cz g4);have sv:=cU (bL a h2);refine peI (qJ Zy (S.glo _ g1) hmg ZC (ji (iha h2) (ji hty j9 (cB _ _ _ rfl)) (cB _ _ _ sv)) (dZ g2) (cz g2) (cB _ _ _ sv) rfl) λσ H Q hq=>el hq λρ F G e0 he r hw=>?_;rw[sI]at hw;refine aO e0 he r hw λd G1 H1 F1 v q e1 x1 he1 r1 rv=>?_;split at q
  ·rename_i b hb;obtain ⟨T,hk,hT,hb'⟩:=abl hb;refine ⟨v,t,.type T,b,rfl,abi r1 rv hk,?_,q _ _ _ x1 r1 rfl⟩;rw[abk T t hT h4,hb' h4]
  ·exact q.elim
theorem acD(S:Stat Φ CX k c E B X){a:Ex}{C:String}{xs:List String}(iha:OkE Φ c E B X a){e:Expr}(h:aj c (.isx a C xs) e=true):PE X e (tE X.K B (wpE Φ (.isx a C xs) E)):=nomatch (show false=true from h)
theorem yJ{v:Expr}(h:(!eV v)=true)(name:Str)(env:Env):attributeBase v name env (eval v env)=eval v env:=by
 cases v with
 |Call f args kw pos=>
  cases f with
  |Name id p=>
   cases args with
   |nil=>
    cases kw with
    |nil=>cases h
    |cons _ _=>rfl
   |cons _ _=>rfl
  |_=>rfl
 |_=>rfl
theorem all_plain{es:List Expr}{xs:Exs}(h:aL c xs es=true)(env:Env)(pos:Pos):(backTo pos (starEach es env)).all (λx=>!x.1)=true:=by
 induction es generalizing xs with
 |nil=>rfl
 |cons e es ih=>
  obtain ⟨x0,xs',rfl,c1,c2⟩:=gM h;rw[cB e es env (cU (bL x0 c1))];show (!false&&(backTo pos (starEach es env)).all (λx=>!x.1))=true;rw[ih c2];rfl
theorem acE(S:Stat Φ CX k c E B X){f:String}{a b ix:Ex}(iha:OkE Φ c E B X a)(ihb:OkE Φ c E B X b)(ihx:OkE Φ c E B X ix){e:Expr}(h:aj c (.rpl f a b ix) e=true):PE X e (tE X.K B (wpE Φ (.rpl f a b ix) E)):=nomatch (show false=true from h)
theorem acF(S:Stat Φ CX k c E B X){C f:String}{o:Ex}(iho:OkE Φ c E B X o){e:Expr}(h:aj c (.fld C f o) e=true):PE X e (tE X.K B (wpE Φ (.fld C f o) E)):=by
 obtain ⟨v,n,p,rfl,hh⟩:=Hr h;rw[ae,ae,ae,aw]at hh;obtain ⟨⟨⟨en,hb⟩,hf⟩,ho⟩:=hh;subst en;obtain ⟨c0,hn,hcl,hna⟩:=S.fld C f (a9.mp hf);refine peI (Yd (iho ho) (yJ hb _ X.env)) λσ H Q hq=>el hq λρ F G e0 he r hw=>?_;rw[sJ]at hw;refine aO e0 he r hw λd G1 H1 F1 u q e1 x1 he1 r1 ru=>?_;unfold gD at q;split at q
 ·rename_i C' f' q0;obtain ⟨rfl,rfl,q⟩:=q;obtain ⟨a,c1,dx,e2,⟨_,hH⟩,hn1⟩:=ru;have ec:c1=c0:=by rw[hn]at hn1;cases hn1;rfl
  subst ec e2;refine ⟨a,c1,dx,_,.ref q0,rfl,hH,hcl,hna,?_,q H1 F1 _ x1 r1 rfl⟩;show List.lookup _ [(_,_)]=_;simp[List.lookup]
 ·exact q.elim
theorem uD{o:Expr}{name:Str}{apos pos:Pos}{args:List Expr}{env:Env}(hbase:attributeBase o name env (eval o env)=eval o env)
  (hfew:methodCallForm (args.length+([]:List Keyword).length) (backTo pos (starEach args env)) (backToKw pos (keywordEach [] env))=true) (hline:(apos.endLine==pos.line)=true):
  eval (.Call (.Attribute o name apos) args [] pos) env=(do
   let ov <-eval o env
   standAt apos.atName
   let (f,first) <-holding [ov] (getMethod ov name (do return (<-importBound o env).getD true))
   callWith pos f first (backTo pos (starEach args env)) (backToKw pos (keywordEach [] env))):=by
 have hpos:methodCallPos true o env apos pos=pure pos:=by unfold methodCallPos;simp[hline]
 rw[arm_eval_Call,hbase];unfold methodCall;rw[hfew,hpos];rfl
theorem HR{f m:Str}{v:V}(h:(m==f)=false):List.lookup m [(f,v)]=none:=by simp[List.lookup,h]
theorem acG{K:PF}{x:Ex}{σ:L2.St}{H:Hp}{Q Q':VK}(h:tE K B (wpE Φ x E) σ H Q)(hq:∀v H',Q v H'->Q' v H'):tE K B (wpE Φ x E) σ H Q':=by obtain ⟨ρ,F,G,e0,he,r,hw⟩:=h;exact ⟨ρ,F,G,e0,he,r,aG x (λd G1 q H1 F1 v x1 r1 rv=>hq _ _ (q H1 F1 v x1 r1 rv)) hw⟩
theorem acH(S:Stat Φ CX k c E B X){f C m:String}{o:Ex}{xs:Exs}(iho:OkE Φ c E B X o)(ih:eY Φ c E B X xs){e:Expr}(h:aj c (.mcl f C m o xs) e=true):PE X e (tE X.K B (wpE Φ (.mcl f C m o xs) E)):=by
 obtain ⟨y,p,n,apos,args,cpos,rfl,hh⟩:=yG h;rw[ae,ae,ae,ae,ae,aw]at hh;obtain ⟨⟨⟨⟨⟨en,hl⟩,hlt⟩,hm⟩,ho⟩,hes⟩:=hh;have hlt:=c8 hlt;subst en;obtain ⟨c0,fa,fd,ps,hn,hcl,hmt,hbn,F0⟩:=S.mth _ _ _ _ (a9.mp hm);obtain ⟨EX,hpass,_,hEX⟩:=S.exc;have key:∀{σ:L2.St}{H:Hp}{Q:VK}{ρ:ao}{F:FZ}{G:DH},Ext B.H B.F H F->EnvR X.K H F ρ σ->R X.K H F G->wpE Φ (.mcl f C m o xs) E ρ G (PV X.K H F Q)->(kh c0 (Str.ofString m) (lift X.K (args.length+1) (Φ f)) [] EX (tE X.K B (wpE Φ o E)) (tL X.K B (aN Φ xs E))) σ H Q:=λ{σ H Q ρ F G} e0 he r hw=>by
  rw[sO]at hw;refine aO e0 he r hw λd G1 H1 F1 u q e1 x1 he1 r1 ru=>?_;obtain ⟨qo,q⟩:=q;unfold cX at qo;split at qo
  ·rename_i C' f' q0;obtain ⟨rfl,hne⟩:=qo;have ru':=ru;obtain ⟨a,c1,dx,e2,⟨_,hH⟩,hn1⟩:=ru;have ec:c1=c0:=by rw[hn]at hn1;cases hn1;rfl
   subst ec;subst e2;refine ⟨a,dx,_,rfl,hH,HR hne,cu e1 he1 r1 (lD _ hes q) λds G2 H2 F2 vs q e2 x2 he2 r2 rvs=>?_⟩;rw[dA];refine ⟨by rw[cf,<-rvs.length,q.1],F2,G2,_::ds,r2,.cons (Rep.ext x2 ru') rvs,Spec.mono q.2 (λd G' z=>PV.later z (x1.trans x2)) λx G' z H' F' x' r'=>?_⟩;exact hEX x G' H' F' z (e2.trans x') r'
  ·exact qo.elim
 have hline:(apos.endLine==cpos.line)=true:=hl;cases args with
 |nil=>
  cases xs with
  |nil=>
   refine peI (Ys (iho ho) hcl hmt F0 S.room hbn .nil hpass (ht:=uD rfl rfl hline)) λσ H Q hq=>el hq λρ F G e0 he r hw=>?_;have kk:=key e0 he r hw;unfold kh at kk ⊢;refine acG kk λx H1 ⟨a,dx,fs,h1,h2,h3,h4⟩=>⟨a,dx,fs,h1,h2,h3,?_⟩;obtain ⟨ρ',F',G',e0',he',r',hw'⟩:=h4;rw[fV]at hw';exact hw' H1 F' [] (Ext.refl _ _) r' rfl
  |cons _ _=>cases hes
 |cons e1 es=>
  obtain ⟨x0,xs',rfl,c1,c2⟩:=gM hes;refine peI (Yr (iho ho) hcl hmt F0 S.room hbn .nil hpass (ih hes) (cB e1 es X.env (cU (bL x0 c1))) (iK c2 X.env cpos) (ht:=uD rfl ?_ hline)) λσ H Q hq=>el hq λρ F G e0 he r hw=>key e0 he r hw;unfold methodCallForm;rw[all_plain hes X.env cpos];have e0:(if (backToKw cpos (keywordEach [] X.env)).isEmpty=true then 0 else 1)=0:=rfl;rw[e0,a8 (show (e1::es).length+([]:List Keyword).length+0 < 30 by show (e1::es).length+0+0 < 30;omega)];rfl
theorem acI(S:Stat Φ CX k c E B X){C:String}{xs:Exs}(ih:eY Φ c E B X xs){e:Expr}(h:aj c (.mko C xs) e=true):PE X e (tE X.K B (wpE Φ (.mko C xs) E)):=by
 obtain ⟨x,p,args,pos,rfl,hh⟩:=Hs h;rw[ae,ae,ae,ae,aw]at hh;obtain ⟨⟨⟨⟨ex,hg⟩,hk⟩,hne⟩,hes⟩:=hh;subst ex;obtain ⟨c0,fa,fd,ps,sp,j,hj,hmg,M,hbn,F0,hsp⟩:=S.mko _ _ (a9.mp hk);obtain ⟨EX,hpass,_,hEX⟩:=S.exc;obtain ⟨g1,g2⟩:=dH hg;cases args with
 |nil=>cases hne
 |cons e1 es=>
  obtain ⟨x0,xs',rfl,c1,c2⟩:=gM hes;refine peI (Yu M F0 (S.room.mono hj) (S.glo _ g1) hmg hbn .nil hpass (ih hes) (cz g2) (cB e1 es X.env (cU (bL x0 c1))) (iK c2 X.env pos)) λσ H Q hq=>el hq λρ F G e0 he r hw=>?_;rw[sS]at hw;refine cu e0 he r (lD _ hes hw) λds G1 H1 F1 vs q e1 x1 he1 r1 rvs=>λx dx hx hdx hne=>?_;rw[dA];refine hsp vs H1 Q EX ⟨by rw[<-rvs.length,q.1],F1,G1,ds,r1,rvs,Spec.mono q.2 (λd G' z=>PV.later z x1) λx G' z H' F' x' r'=>?_⟩ x dx hx hdx hne;exact hEX x G' H' F' z (e1.trans x') r'
theorem acJ(S:Stat Φ CX k c E B X){o:Ex}(iho:OkE Φ c E B X o){e:Expr}(h:aj c (.pp0 o) e=true):PE X e (tE X.K B (wpE Φ (.pp0 o) E)):=by
 obtain ⟨v,n,apos,cpos,rfl,hh⟩:=Ht h;rw[ae,ae,ae,aw]at hh;obtain ⟨⟨⟨en,hb⟩,hl⟩,ho⟩:=hh;subst en;refine peI (Za dL PySem.F.slot_list_pop PySem.F.type_list_pop aby (iho ho) (yJ hb _ X.env) hl) λσ H Q hq=>el hq λρ F G e0 he r hw=>?_;rw[sU]at hw;refine aO e0 he r hw λd G1 H1 F1 u q e1 x1 he1 r1 ru=>⟨?_,F1,G1,d,r1,ru,rfl,?_⟩
 ·unfold gF at q;split at q
  ·rename_i p;split at q
   ·rename_i ds hg;obtain ⟨vs,hv,_⟩:=r1.lst hg;have e2:u=.ref p:=ru;subst e2;exact .inl ⟨rfl,vs,SqL.of hv⟩
   ·exact q.elim
  ·exact q.elim
 ·unfold gF at q ⊢;split at q
  ·split at q
   ·split at q
    ·exact PV.later q x1
    ·exact q
   ·exact q
  ·exact q
theorem acK(S:Stat Φ CX k c E B X){m:Mf}{o:Ex}{xs:Exs}(iho:OkE Φ c E B X o)(ih:eY Φ c E B X xs){e:Expr}(h:aj c (.mth m o xs) e=true):PE X e (tE X.K B (wpE Φ (.mth m o xs) E)):=by
 replace h:=Hu h;obtain ⟨v,x,apos,args,cpos,rfl,h⟩:=h
 ·simp only[ae,aw,ci]at h;obtain ⟨⟨⟨⟨⟨⟨e1,h1⟩,hb⟩,hl⟩,hn⟩,h2⟩,h3⟩:=h;subst e1;cases args with
  |nil=>cases h2
  |cons e es=>
   obtain ⟨x0,xs',rfl,c1,c2⟩:=gM h3;have hs:=cB e es X.env (cU (bL x0 c1));have ha:=iK c2 X.env cpos;have hbase:=yJ hb (Str.ofString m.name) X.env;have hfew:((backTo cpos (starEach (e::es) X.env)).all (λx=>!x.1)&&(backToKw cpos (keywordEach [] X.env)).all (λx=>x.1.isSome)
    &&decide ((e::es).length+([]:List Keyword).length+(if ([]:List Keyword).isEmpty then 0 else 1) < 30))=true:=by
    rw[all_plain h3 X.env cpos];have:(e::es).length+([]:List Keyword).length+(if ([]:List Keyword).isEmpty then 0 else 1) < 30:=by have e0:(if ([]:List Keyword).isEmpty=true then 0 else 1)=0:=rfl;rw[e0];show (e::es).length+0+0 < 30;omega
    rw[a8 this];rfl
   have hline:(apos.endLine==cpos.line)=true:=by rw[aw];exact hl
   have lst:∀{d:D} {u:V} {G1:DH} {H1:Hp} {F1:FZ},(match d with |.ref p=>(match G1 p with |some (.lst _)=>True |none=>False) |_=>False)->R X.K H1 F1 G1->Rep X.K H1 F1 d u->tyV X.K "list" u H1:=λ{d u G1 H1 F1} q r1 ru=>by
    split at q
    ·rename_i p;split at q
     ·rename_i ds hg;obtain ⟨vs,hv,_⟩:=r1.lst hg;have e2:u=.ref p:=ru;subst e2;exact .inl ⟨rfl,vs,SqL.of hv⟩
     ·exact q.elim
    ·exact q.elim
   have lstV:∀{d:D} {u:V} {G1:DH} {H1:Hp} {F1:FZ},xj (view G1 d)->R X.K H1 F1 G1->Rep X.K H1 F1 d u->tyV X.K "list" u H1:=λ{d u G1 H1 F1} q r1 ru=>by
    generalize hv:view G1 d=w at q;cases w with
    |lst ds=>
     obtain ⟨a,vs,rfl,sq,_⟩:=Rep.list r1 ru hv;exact .inl ⟨rfl,vs,sq⟩
    |_=>exact (show False from q).elim
   cases m with
   |join=>
    refine peI (ik PySem.F.plainAttrs_str PySem.F.slot_str_join PySem.F.type_str_join abm (iho h1) (ih h3) hbase hfew hline hs ha) λσ H Q hq=>el hq λρ F G e0 he r hw=>?_;rw[eU]at hw;refine aO e0 he r hw λd G1 H1 F1 u q e1 x1 he1 r1 ru=>⟨?_,cu e1 he1 r1 q.2 λds G2 H2 F2 vs q e2 x2 he2 r2 rvs=>?_⟩
    ·have q1:=q.1;cases d with
     |str l=>obtain ⟨e2,_⟩:=ru;subst e2;exact rfl
     |_=>exact (show False from q1).elim
    ·exact ⟨F2,G2,d,ds,r2,Rep.ext x2 ru,rvs,gH (λd G' z=>PV.later z (x1.trans x2)) q⟩
   |append=>
    refine peI (ik dL PySem.F.slot_list_append PySem.F.type_list_append abn (iho h1) (ih h3) hbase hfew hline hs ha) λσ H Q hq=>el hq λρ F G e0 he r hw=>?_;rw[eU]at hw;refine aO e0 he r hw λd G1 H1 F1 u q e1 x1 he1 r1 ru=>⟨?_,cu e1 he1 r1 q.2 λds G2 H2 F2 vs q e2 x2 he2 r2 rvs=>?_⟩
    ·refine lst (d:=d) (G1:=G1) ?_ r1 ru;have q1:=q.1;cases d <;> first |exact q1 |exact (show False from q1).elim
    ·exact ⟨F2,G2,d,ds,r2,Rep.ext x2 ru,rvs,gH (λd G' z=>PV.later z (x1.trans x2)) q⟩
   |extend=>
    refine peI (ik dL PySem.F.slot_list_extend PySem.F.type_list_extend abA (iho h1) (ih h3) hbase hfew hline hs ha) λσ H Q hq=>el hq λρ F G e0 he r hw=>?_;rw[eU]at hw;refine aO e0 he r hw λd G1 H1 F1 u q e1 x1 he1 r1 ru=>⟨?_,cu e1 he1 r1 q.2 λds G2 H2 F2 vs q e2 x2 he2 r2 rvs=>?_⟩
    ·refine lst (d:=d) (G1:=G1) ?_ r1 ru;have q1:=q.1;cases d <;> first |exact q1 |exact (show False from q1).elim
    ·exact ⟨F2,G2,d,ds,r2,Rep.ext x2 ru,rvs,gH (λd G' z=>PV.later z (x1.trans x2)) q⟩
   |insert=>
    refine peI (ik dL PySem.F.slot_list_insert PySem.F.type_list_insert abv (iho h1) (ih h3) hbase hfew hline hs ha) λσ H Q hq=>el hq λρ F G e0 he r hw=>?_;rw[eU]at hw;refine aO e0 he r hw λd G1 H1 F1 u q e1 x1 he1 r1 ru=>⟨?_,cu e1 he1 r1 q.2 λds G2 H2 F2 vs q e2 x2 he2 r2 rvs=>?_⟩
    ·refine lst (d:=d) (G1:=G1) ?_ r1 ru;have q1:=q.1;cases d <;> first |exact q1 |exact (show False from q1).elim
    ·exact ⟨F2,G2,d,ds,r2,Rep.ext x2 ru,rvs,gH (λd G' z=>PV.later z (x1.trans x2)) q⟩
   |pop=>
    refine peI (ik dL PySem.F.slot_list_pop PySem.F.type_list_pop abw (iho h1) (ih h3) hbase hfew hline hs ha) λσ H Q hq=>el hq λρ F G e0 he r hw=>?_;rw[eU]at hw;refine aO e0 he r hw λd G1 H1 F1 u q e1 x1 he1 r1 ru=>⟨?_,cu e1 he1 r1 q.2 λds G2 H2 F2 vs q e2 x2 he2 r2 rvs=>?_⟩
    ·refine lst (d:=d) (G1:=G1) ?_ r1 ru;have q1:=q.1;cases d <;> first |exact q1 |exact (show False from q1).elim
    ·exact ⟨F2,G2,d,ds,r2,Rep.ext x2 ru,rvs,gH (λd G' z=>PV.later z (x1.trans x2)) q⟩
   |count=>
    refine peI (ik dL PySem.F.slot_list_count PySem.F.type_list_count abo (iho h1) (ih h3) hbase hfew hline hs ha) λσ H Q hq=>el hq λρ F G e0 he r hw=>?_;rw[eU]at hw;refine aO e0 he r hw λd G1 H1 F1 u q e1 x1 he1 r1 ru=>⟨lstV q.1 r1 ru,cu e1 he1 r1 q.2 λds G2 H2 F2 vs q e2 x2 he2 r2 rvs=>?_⟩;exact ⟨F2,G2,d,ds,r2,Rep.ext x2 ru,rvs,gH (λd G' z=>PV.later z (x1.trans x2)) q⟩
   |index=>
    refine peI (ik dL PySem.F.slot_list_index PySem.F.type_list_index abp (iho h1) (ih h3) hbase hfew hline hs ha) λσ H Q hq=>el hq λρ F G e0 he r hw=>?_;rw[eU]at hw;refine aO e0 he r hw λd G1 H1 F1 u q e1 x1 he1 r1 ru=>⟨lstV q.1 r1 ru,cu e1 he1 r1 q.2 λds G2 H2 F2 vs q e2 x2 he2 r2 rvs=>?_⟩;exact ⟨F2,G2,d,ds,r2,Rep.ext x2 ru,rvs,gH (λd G' z=>PV.later z (x1.trans x2)) q⟩
end
section
variable {Φ:aa} {CX:CXT} {k:Nat} {c:CT} {E:EK} {B:Bs} {X:Cx}
def EachE(Φ:aa)(c:CT)(E:EK)(B:Bs)(X:Cx):Exs->Prop
 |.nil=>True
 |.cons e es=>OkE Φ c E B X e/\EachE Φ c E B X es
def uE(Φ:aa)(c:CT)(E:EK)(B:Bs)(X:Cx):Txs->Prop
 |.nil=>True
 |.cons e es=>OkT Φ c E B X e/\uE Φ c E B X es
theorem acL(S:Stat Φ CX k c E B X){es:Exs}(ih:EachE Φ c E B X es){e:Expr}(h:aj c (.fst es) e=true):PE X e (tE X.K B (wpE Φ (.fst es) E)):=nomatch (show false=true from h)
theorem EachE.oks:∀{xs:Exs},EachE Φ c E B X xs->eY Φ c E B X xs
 |.nil,_=>by intro h;exact yI h
 |.cons x xs,hh=>by intro h;exact uC hh.1 (EachE.oks hh.2) h
def uF(Φ:aa)(E:EK)(isAnd:Bool)(x:Ex)(xs:Exs):ao->DH->(D->DH->Prop)->Prop:=λρ G kk=>wpE Φ x E ρ G λd G1=>match d with |.bl b=>wpB Φ xs isAnd b E ρ G1 (λc G2=>kk (.bl c) G2) |_=>False
theorem HS{isAnd:Bool}{pos:Pos}:∀(xs:Exs){x:Ex},OkE Φ c E B X x->EachE Φ c E B X xs->∀{v:Expr}{vs:List Expr},aj c x v=true->aL c xs vs=true->
  PE X (.BoolOp (if isAnd then .And else .Or) (v::vs) pos) (tE X.K B (uF Φ E isAnd x xs))
 |.nil,x,ih,_,v,vs,h1,h2=>by
  unfold aL at h2;cases vs with
  |nil=>
   refine peI (Ws (ih h1)) λσ H Q hq=>el hq λρ F G e0 he r hw=>?_;unfold uF at hw;refine aO e0 he r hw λd G1 H1 F1 u q e1 x1 he1 r1 ru=>?_;split at q
   ·rw[rE]at q;exact q _ _ _ x1 r1 ru
   ·exact q.elim
  |cons _ _=>cases h2
 |.cons y ys,x,ih,hh,v,vs,h1,h2=>by
  unfold aL at h2;split at h2
  ·rename_i w ws;rw[ae]at h2;have rest:=HS (isAnd:=isAnd) (pos:=pos) ys hh.1 hh.2 h2.1 h2.2;cases isAnd with
   |true=>
    refine peI (Wt (ih h1) rest) λσ H Q hq=>el hq λρ F G e0 he r hw=>?_;unfold uF at hw;refine aO e0 he r hw λd G1 H1 F1 u q e1 x1 he1 r1 ru=>?_;split at q
    ·rename_i b;refine ⟨b,ru,?_⟩;rw[kE]at q;cases b with
     |true=>
      rw[if_pos rfl];exact ⟨ρ,F1,G1,e1,he1,r1,aG y (λd G' z=>by
       cases d <;> first |exact (show False from z).elim |exact tZ ys (λc G2 z=>PV.later z x1) z) q⟩
     |false=>
      rw[if_neg br];exact q _ _ _ x1 r1 rfl
    ·exact q.elim
   |false=>
    refine peI (Wu (ih h1) rest) λσ H Q hq=>el hq λρ F G e0 he r hw=>?_;unfold uF at hw;refine aO e0 he r hw λd G1 H1 F1 u q e1 x1 he1 r1 ru=>?_;split at q
    ·rename_i b;refine ⟨b,ru,?_⟩;rw[kE]at q;cases b with
     |false=>
      rw[if_neg br];exact ⟨ρ,F1,G1,e1,he1,r1,aG y (λd G' z=>by
       cases d <;> first |exact (show False from z).elim |exact tZ ys (λc G2 z=>PV.later z x1) z) q⟩
     |true=>
      rw[if_pos rfl];exact q _ _ _ x1 r1 rfl
    ·exact q.elim
  ·cases h2
theorem acM{isAnd:Bool}{x:Ex}{xs:Exs}(ih:OkE Φ c E B X x)(hh:EachE Φ c E B X xs){e:Expr}(h:aj c (.boo isAnd x xs) e=true):PE X e (tE X.K B (wpE Φ (.boo isAnd x xs) E)):=by
 replace h:=Hg h;obtain ⟨_,_,_,_,rfl,h⟩:=h
 ·simp only[ae,aw]at h;obtain ⟨⟨e1,h1⟩,h2⟩:=h;subst e1;refine peI (HS xs ih hh h1 h2) λσ H Q hq=>el hq λρ F G e0 he r hw=>⟨ρ,F,G,e0,he,r,?_⟩;rw[rW]at hw;exact hw
theorem acN{t:Tx}{a b:Ex}(iht:OkT Φ c E B X t)(iha:OkE Φ c E B X a)(ihb:OkE Φ c E B X b){e:Expr}(h:aj c (.ife t a b) e=true):PE X e (tE X.K B (wpE Φ (.ife t a b) E)):=by
 replace h:=Hh h;obtain ⟨_,_,_,_,rfl,h⟩:=h
 ·simp only[ae]at h;obtain ⟨⟨h1,h2⟩,h3⟩:=h;refine peI (Wv (iht h1) (iha h2) (ihb h3)) λσ H Q hq=>el hq λρ F G e0 he r hw=>?_;rw[rY]at hw;refine jF e0 he r hw λb' G1 H1 F1 q e1 x1 he1 r1=>?_;cases b' with
  |true=>
   rw[if_pos rfl];exact ⟨ρ,F1,G1,e1,he1,r1,aG a (λd G' z=>PV.later z x1) q⟩
  |false=>
   rw[if_neg br];exact ⟨ρ,F1,G1,e1,he1,r1,aG b (λd G' z=>PV.later z x1) q⟩
theorem acO{x:Ex}(ih:OkE Φ c E B X x){e:Expr}(hp:iD e=true)(h:aj c x e=true):PT X e (tB' X.K B (wpT Φ (.val x) E)):=by
 refine ptI (XJ (ih h) (acg hp X.env)) λσ H Q hq=>el hq λρ F G e0 he r hw=>?_;rw[jx]at hw;refine aO e0 he r hw λd G1 H1 F1 u q e1 x1 he1 r1 ru=>?_;split at q
 ·rename_i b hb;exact ⟨b,FJ r1 ru hb,q _ _ x1 r1⟩
 ·exact q.elim
theorem acP{t:Tx}(ih:OkT Φ c E B X t){e:Expr}(h:bF c (.not t) e=true):PT X e (tB' X.K B (wpT Φ (.not t) E)):=by
 replace h:=abX h;obtain ⟨_,_,rfl,h⟩:=h
 ·refine ptI (Wo (ih h)) λσ H Q hq=>el hq λρ F G e0 he r hw=>?_;rw[rA]at hw;exact jF e0 he r hw λb G1 H1 F1 q e1 x1 he1 r1=>q _ _ x1 r1
def lE(Φ:aa)(E:EK)(isAnd:Bool)(x:Tx)(xs:Txs):ao->DH->(Bool->DH->Prop)->Prop:=λρ G kk=>wpT Φ x E ρ G λb G1=>fU Φ xs isAnd b E ρ G1 kk
theorem HW{isAnd:Bool}{pos:Pos}:∀(xs:Txs){x:Tx},OkT Φ c E B X x->uE Φ c E B X xs->∀{v:Expr}{vs:List Expr},bF c x v=true->iI c xs vs=true->
  PW X (.BoolOp (if isAnd then .And else .Or) (v::vs) pos) (tB' X.K B (lE Φ E isAnd x xs))
 |.nil,x,ih,_,v,vs,h1,h2=>by
  unfold iI at h2;cases vs with
  |nil=>
   have go:∀σ H Q,tB' X.K B (lE Φ E isAnd x .nil) σ H Q->tB' X.K B (wpT Φ x E) σ H Q:=λσ H Q hq=>el hq λρ F G e0 he r hw=>by
    unfold lE at hw;refine ⟨ρ,F,G,e0,he,r,du x (λb G1 q=>?_) hw⟩;rw[rF]at q;exact q
   cases isAnd with
   |true=>exact pwI (Wk (ih h1)) go
   |false=>exact pwI (Wl (ih h1)) go
  |cons _ _=>cases h2
 |.cons y ys,x,ih,hh,v,vs,h1,h2=>by
  unfold iI at h2;split at h2
  ·rename_i w ws;rw[ae]at h2;have rest:=HW (isAnd:=isAnd) (pos:=pos) ys hh.1 hh.2 h2.1 h2.2;cases isAnd with
   |true=>
    refine pwI (Wm (ih h1) rest) λσ H Q hq=>el hq λρ F G e0 he r hw=>?_;unfold lE at hw;refine jF e0 he r hw λb G1 H1 F1 q e1 x1 he1 r1=>?_;rw[kI]at q;cases b with
    |true=>
     rw[if_pos rfl];exact ⟨ρ,F1,G1,e1,he1,r1,du y (λb' G' z=>uc ys (λc G2 z=>PB.later z x1) z) q⟩
    |false=>
     rw[if_neg br];exact q _ _ x1 r1
   |false=>
    refine pwI (Wn (ih h1) rest) λσ H Q hq=>el hq λρ F G e0 he r hw=>?_;unfold lE at hw;refine jF e0 he r hw λb G1 H1 F1 q e1 x1 he1 r1=>?_;rw[kI]at q;cases b with
    |false=>
     rw[if_neg br];exact ⟨ρ,F1,G1,e1,he1,r1,du y (λb' G' z=>uc ys (λc G2 z=>PB.later z x1) z) q⟩
    |true=>
     rw[if_pos rfl];exact q _ _ x1 r1
  ·cases h2
theorem acQ{isAnd:Bool}{x:Tx}{xs:Txs}(ih:OkT Φ c E B X x)(hh:uE Φ c E B X xs){e:Expr}(h:bF c (.boo isAnd x xs) e=true):PT X e (tB' X.K B (wpT Φ (.boo isAnd x xs) E)):=by
 replace h:=abY h;obtain ⟨_,_,_,_,rfl,h⟩:=h
 ·simp only[ae,aw]at h;obtain ⟨⟨e1,h1⟩,h2⟩:=h;subst e1;refine ptI (PW.pt (HW xs ih hh h1 h2)) λσ H Q hq=>el hq λρ F G e0 he r hw=>⟨ρ,F,G,e0,he,r,?_⟩;rw[rB]at hw;exact hw
def tG(K:PF)(B:Bs)(t:Tg):TG:=λv σ H Q=>∃ρ F G d,Ext B.H B.F H F/\EnvR K H F ρ σ/\R K H F G/\Rep K H F d v/\bc t d ρ G (λρ'=>∀σ',EnvR K H F ρ' σ'->Q σ' H)
def tGs(K:PF)(B:Bs)(t:Tgs):TGs:=λvs σ H Q=>∃ρ F G ds,Ext B.H B.F H F/\EnvR K H F ρ σ/\R K H F G/\Reps K H F ds vs/\bK t ds ρ G (λρ'=>∀σ',EnvR K H F ρ' σ'->Q σ' H)
theorem uG:∀{ts:Tgs}{es:List Expr}{env:Env},cG c ts es=true->(assignEach es env).length=es.length/\(assignEach es env).findIdx? (·.1)=none/\(assignEach es env).map (·.2)=es.map λe=>assign e env
 |.nil,[],env,_=>⟨rfl,rfl,rfl⟩
 |.nil,_::_,env,h=>by unfold cG at h;cases h
 |.cons t r,[],env,h=>by unfold cG at h;cases h
 |.cons t r,e::es,env,h=>by
  unfold cG at h;rw[ae]at h;obtain ⟨h1,h2,h3⟩:=uG (env:=env) h.2;have hs:assignEach (e::es) env=(false,assign e env)::assignEach es env:=by
   cases t with
   |nm i=>
    have h':=h.1;obtain ⟨_,_,rfl,_⟩:=yE h';rfl
   |tp ts=>
    have h':=h.1;obtain ⟨_,_,_,rfl,_⟩:=yF h';rfl
  rw[hs];refine ⟨by simp[h1],?_,by simp[h3]⟩;rw[fw];simp[h2]
section
variable {prog:Program} {w:World} {A:Around} {E:Value->Shared->Prop} {s:Shared}
theorem HX{it t:Addr}{items:Array Value}(hne:t≠it):∀(n i:Nat)(s:Shared)(Q:List Value->Shared->Prop),s.heap.IsListIter it t i->s.heap.IsList t items->i+n<=items.size->
  (∀h',h'.IsListIter it t (i+n)->Heap.SameBut it s.heap h'->Q ((items.toList.drop i).take n) { s with heap:=h' })->wpAny (model prog w) A (draw (.ref it) n) Q E s
 |0,i,s,Q,hit,_,_,hQ=>by
  show wpAny _ _ (pure []) Q E s;exact bn (by simpa using hQ s.heap hit (Heap.SameBut.refl ..))
 |n+1,i,s,Q,hit,ht,hle,hQ=>by
  have hlt:i < items.size:=by omega
  show wpAny _ _ (pyNext (.ref it) >>= _) Q E s;refine ah (wpAny_pyNext_list_item hit ht (x:=items[i]) (by simp[hlt]) λh₁ hit₁ hs₁=>?_);refine ah (e6 (HX hne n (i+1) _ _ hit₁ (ht.extBut hs₁.extBut hne) (by omega) λh₂ hit₂ hs₂=>bn ?_));have hd:items.toList.drop i=items[i]::items.toList.drop (i+1):=by simp[bp,hlt]
  have:=hQ h₂ (by rw[show i+(n+1)=i+1+n by omega];exact hit₂) (hs₁.trans hs₂);rw[hd,List.take_succ_cons]at this;exact this
theorem acR{t:Addr}{items:Array Value}{Q:List Value->Shared->Prop}(hh:A.handled=none)(ht:s.heap.IsList t items)
  (hQ:∀h',Heap.ExtBut s.heap.objs.size s.heap h'->Q items.toList { s with heap:=h' }):wpAny (model prog w) A (unpackItems (.ref t) items.size none) Q E s:=by
 have hlt:t≠s.heap.objs.size:=by obtain ⟨o,ho,_⟩:=ht;exact cq (aI ho)
 unfold unpackItems;refine ah ?_;unfold notIterableAtAll;refine ah (wpAny_specialOf ht.typeIs PySem.F.slot_list_iter.lookup ?_);refine bn ?_;simp only[Bool.false_eq_true,if_false];refine ah (e6 (wpAny_pyIter_list ht ?_));refine ah (e6 (HX hlt items.size 0 _ _ ⟨_,bd _ rfl,rfl,rfl⟩ (ht.push _) (by omega) λh₁ hit₁ hs₁=>?_));have hall:List.take items.size (List.drop 0 items.toList)=items.toList:=by rw[List.drop_zero];exact eh (by simp)
 rw[hall];rw[if_neg (by simp)];have ht₁:h₁.IsList t items:=(ht.push _).extBut hs₁.extBut hlt;refine ah (e6 (wpAny_pyNext_list_end hh hit₁ ht₁ (by simp) λh₂ he₂=>?_));simp only[Option.isSome_none,Bool.false_eq_true,if_false];refine bn (hQ h₂ λb o hb e=>he₂ b o hb (hs₁.extBut b o hb (al _ e)))
theorem acS{env:Env}{elts:List Expr}{x1}{pos:Pos}{t:Addr}{items:Array Value}{Q:Unit->Shared->Prop}(hh:A.handled=none)(ht:s.heap.IsList t items)
  (hn:(assignEach elts env).length=items.size) (hstar:(assignEach elts env).findIdx? (·.1)=none)
  (h:∀h',Heap.ExtBut s.heap.objs.size s.heap h'->wpAny (model prog w) A (assignInOrder ((assignEach elts env).map (·.2)) items.toList) Q E { s with heap:=h' }):
  wpAny (model prog w) A (assign (.Tuple elts x1 pos) env (.ref t)) Q E s:=by
 rw[assign_Tuple];refine ah (wpAny_standAt ?_);unfold unpack;rw[hn,hstar];exact ah (e6 (acR hh ht h))
end
section
variable {X:Cx} {pos:Pos}
def acT(K:PF)(n:Nat)(t:TGs):TG:=λv σ H Q=>∃a xs,v=.ref a/\SqL K H a xs/\xs.length=n/\t xs σ H Q
theorem acU{es:List Expr}{k:Nat}{t:TGs}{n:Nat}(hc:X.calm=true)(h:PGs X es t)
  (hn:(assignEach es X.env).length=n:=by rfl) (hst:(assignEach es X.env).findIdx? (·.1)=none:=by rfl):PG X (.Tuple es k pos) (acT X.K n t):=by
 intro pins s σ H v u Q I r hw;obtain ⟨a,xs,e1,hq,hl,hw⟩:=hw;subst e1;cases r;obtain ⟨its,rv,pl,hz⟩:=I.list hq;refine acS (I.ok.hd hc) pl.isList (by simp[hn,<-hl,rv.length]) hst λh' hx=>?_;have I1:Inv X pins σ H { s with heap:=h' }:=I.kept (t':=s.toks) λb o e=>hx b o (cq (aI e)) e;exact h pins _ σ H xs _ Q I1 (by simpa using rv) hw
end
mutual
theorem uH(S:Stat Φ CX k c E B X):∀(t:Tg){e:Expr},cN c t e=true->PG X e (tG X.K B t)
 |.nm i,e,h=>by
  replace h:=yE h;obtain ⟨x,pos,rfl,h⟩:=h
  ·skip;rw[ae,aw]at h;obtain ⟨l,f⟩:=S.sto x h.2;intro pins s σ H v u Q I rv q;refine W0 (i:=i) S.nd (by rw[S.N];exact h.1) l f pins s σ H v u Q I rv ?_;obtain ⟨ρ,F,G,d,e0,he,r,rd,hw⟩:=q;unfold bc at hw;exact hw _ (he.set rd i)
 |.tp ts,e,h=>by
  replace h:=yF h;obtain ⟨es,kk,pos,rfl,h⟩:=h
  ·skip;obtain ⟨h1,h2,h3⟩:=uG (env:=X.env) h;intro pins s σ H v u Q I rv q;obtain ⟨ρ,F,G,d,e0,he,r,rd,hw⟩:=q;unfold bc at hw;split at hw
   ·rename_i ds;refine W7 (n:=es.length) S.calm (yK S ts h) h1 h2 pins s σ H v u Q I rv ?_;obtain ⟨a,vs,e1,q,t⟩:=rd;refine ⟨a,vs,e1,q.sq,?_,ρ,F,G,ds,e0,he,r,t,hw⟩;rw[<-t.length];exact yL ts h hw
   ·rename_i ds;refine acU (n:=es.length) S.calm (yK S ts h) h1 h2 pins s σ H v u Q I rv ?_;obtain ⟨a,vs,e1,q,t⟩:=rd;refine ⟨a,vs,e1,q.sq,?_,ρ,F,G,ds,e0,he,r,t,hw⟩;rw[<-t.length];exact yL ts h hw
   ·exact hw.elim
theorem yK(S:Stat Φ CX k c E B X):∀(ts:Tgs){es:List Expr},cG c ts es=true->PGs X es (tGs X.K B ts)
 |.nil,es,h=>by
  unfold cG at h;cases es with
  |nil=>
   intro pins s σ H vs us Q I rv q;refine W4 pins s σ H vs us Q I rv ?_;obtain ⟨ρ,F,G,ds,e0,he,r,rd,hw⟩:=q;unfold bK at hw;split at hw
   ·exact ⟨rd,hw _ he⟩
   ·exact hw.elim
  |cons _ _=>cases h
 |.cons t r,es,h=>by
  unfold cG at h;split at h
  ·rename_i e es;rw[ae]at h;intro pins s σ H vs us Q I rv q;have hs:(assignEach (e::es) X.env).map (·.2)=assign e X.env::(assignEach es X.env).map (·.2):=by
    have hh:cG c (.cons t r) (e::es)=true:=by unfold cG;show (cN c t e&&cG c r es)=true;rw[h.1,h.2];rfl
    rw[(uG (env:=X.env) hh).2.2,(uG (env:=X.env) h.2).2.2];rfl
   refine W5 (uH S t h.1) (yK S r h.2) hs pins s σ H vs us Q I rv ?_;obtain ⟨ρ,F,G,ds,e0,he,rr,rd,hw⟩:=q;unfold bK at hw;split at hw
   ·rename_i d ds;obtain ⟨v,vs',e1,rd1,rds⟩:=rd;refine ⟨v,vs',e1,ρ,F,G,d,e0,he,rr,rd1,fW (λρ' z σ' he'=>?_) t hw⟩;exact ⟨ρ',F,G,ds,e0,he',rr,rds,z⟩
   ·exact hw.elim
  ·cases h
theorem yL{G:DH}:∀(ts:Tgs){es:List Expr}{ds:List D}{ρ:ao}{Q:ao->Prop},cG c ts es=true->bK ts ds ρ G Q->ds.length=es.length
 |.nil,es,ds,ρ,Q,h,q=>by
  unfold cG at h;unfold bK at q;split at q
  ·cases es with
   |nil=>rfl
   |cons _ _=>cases h
  ·exact q.elim
 |.cons t r,es,ds,ρ,Q,h,q=>by
  unfold cG at h;split at h
  ·rw[ae]at h;unfold bK at q;split at q
   ·rename_i d ds;have:∃ρ',bK r ds ρ' G Q:=HY t q;obtain ⟨ρ',q'⟩:=this;have:=yL r h.2 q';simp[this]
   ·exact q.elim
  ·cases h
theorem HY{G:DH}:∀(t:Tg){d:D}{ρ:ao}{Q:ao->Prop},bc t d ρ G Q->∃ρ',Q ρ'
 |.nm i,d,ρ,Q,q=>⟨_,q⟩
 |.tp ts,d,ρ,Q,q=>by
  unfold bc at q;split at q
  ·exact yM ts q
  ·exact yM ts q
  ·exact q.elim
theorem yM{G:DH}:∀(ts:Tgs){ds:List D}{ρ:ao}{Q:ao->Prop},bK ts ds ρ G Q->∃ρ',Q ρ'
 |.nil,ds,ρ,Q,q=>by
  unfold bK at q;split at q
  ·exact ⟨_,q⟩
  ·exact q.elim
 |.cons t r,ds,ρ,Q,q=>by
  unfold bK at q;split at q
  ·obtain ⟨ρ',q'⟩:=HY t q;exact yM r q'
  ·exact q.elim
end
end
structure WalkJ(K:PF)(H:Hp)(F:FZ)(items:List D)(g:Hld)(J:It):Prop where
 go:∀H' F' G i,Ext H F H' F'->R K H' F' G->held g G->i < items.length->J.go i H'
 stop:∀H' F' G,Ext H F H' F'->R K H' F' G->held g G->J.stop items.length H'
 yld:∀H' F' i x H'' d G,Ext H F H' F'->R K H' F' G->held g G->items[i]?=some d->J.yld i H' x H''->Ext H' F' H'' F'/\R K H'' F' G/\Rep K H'' F' d x
section
variable {K:PF} {H:Hp} {F:FZ}
structure Src(K:PF)(H:Hp)(F:FZ)(u:Value)(ds:List D)(g:Hld)(k:SK):Prop where
 val:k.val=u
 sat:∀H' F' G,Ext H F H' F'->R K H' F' G->held g G->∃vs,k.Sat H' vs/\Reps K H' F' ds vs
theorem uI{d:D}{v:V}{u:Value}{G:DH}{ds:List D×Hld}(h:Rep K H F d v)(r:RelV v u)(e:itemsOf G d=some ds):∃k,Src K H F u ds.1 ds.2 k:=by
 cases d with
 |lst xs=>
  simp only[itemsOf,a7]at e;subst e;obtain ⟨a,vs,e1,q,t⟩:=h;subst e1;have hu:u=Value.ref a:=r;subst hu;exact ⟨.lst a,rfl,λH' F' G' x _ _=>⟨vs,(FzL.ext x q).2,Reps.ext x t⟩⟩
 |tup xs=>
  simp only[itemsOf,a7]at e;subst e;obtain ⟨a,vs,e1,q,t⟩:=h;subst e1;have hu:u=Value.ref a:=r;subst hu;exact ⟨.tup a,rfl,λH' F' G' x _ _=>⟨vs,(TpT.ext (K:=K) x q).it,Reps.ext x t⟩⟩
 |str l=>
  simp only[itemsOf,a7]at e;subst e;obtain ⟨e1,hl⟩:=h;subst e1;obtain ⟨t,hu⟩:∃t,u=Value.str (tx l) t:=r;subst hu;exact ⟨.str (tx l) t,rfl,λH' F' G' x _ _=>⟨_,rfl,by simpa using yo l⟩⟩
 |ref p=>
  simp only[itemsOf]at e;split at e
  ·rename_i xs hg;simp only[a7]at e;subst e;have e1:v=.ref p:=h;subst e1;have hu:u=Value.ref p:=r;subst hu;exact ⟨.lst p,rfl,λH' F' G' x r' hh=>r'.lst hh.1⟩
  ·cases e
 |_=>cases e
theorem uJ{G:DH}{d:D}{ds:List D×Hld}(e:itemsOf G d=some ds):held ds.2 G:=by
 cases d with
 |ref p=>
  simp only[itemsOf]at e;split at e
  ·rename_i xs hg;simp only[a7]at e;subst e;exact ⟨hg,trivial⟩
  ·cases e
 |_=>simp only[itemsOf]at e;first | (cases e;done) | (simp only[a7]at e;subst e;exact trivial)
theorem acV{u:Value}{ds:List D}{g:Hld}{k:SK}(s:Src K H F u ds g k):WalkJ K H F ds g (Jk k) where
 go:=λH' F' G i x r hh hi=>by
  obtain ⟨vs,h1,h2⟩:=s.sat H' F' G x r hh;exact ⟨vs,h1,by rw[<-h2.length];exact hi⟩
 stop:=λH' F' G x r hh=>by
  obtain ⟨vs,h1,h2⟩:=s.sat H' F' G x r hh;exact ⟨vs,h1,h2.length.symm⟩
 yld:=λH' F' i v H'' d G x r hh hd y=>by
  obtain ⟨e,hv⟩:=y;subst e;obtain ⟨vs,h1,h2⟩:=s.sat _ F' G x r hh;obtain ⟨w,e1,rw'⟩:=h2.get hd;have e2:=hv vs h1;rw[e1]at e2;cases e2;exact ⟨Ext.refl _ _,r,rw'⟩
theorem iM:∀(n:Nat)(ds:List D),(dB n ds).length=ds.length
 |_,[]=>rfl
 |n,d::ds=>by simp[dB,iM (n+1) ds]
theorem iQ:∀(n:Nat)(ds:List D)(i:Nat),(dB n ds)[i]?=(ds[i]?).map λd=>.tup [.int ((n+i:Nat):Int),d]
 |_,[],_=>by simp[dB]
 |n,d::ds,0=>by simp[dB]
 |n,d::ds,i+1=>by
  simp only[dB,List.getElem?_cons_succ];rw[iQ (n+1) ds i];congr 1;funext d;rw[show n+1+i=n+(i+1) by omega]
theorem uK:∀(as bs:List D),(bV as bs).length=min as.length bs.length
 |[],bs=>by simp[bV]
 |a::as,[]=>by simp[bV]
 |a::as,b::bs=>by simp[bV,uK as bs]
theorem yN:∀(as bs:List D)(i:Nat)(d:D),(bV as bs)[i]?=some d->∃a b,as[i]?=some a/\bs[i]?=some b/\d=.tup [a,b]
 |[],bs,i,d,h=>by simp[bV]at h
 |a::as,[],i,d,h=>by simp[bV]at h
 |a::as,b::bs,0,d,h=>by simp[bV]at h;exact ⟨a,b,rfl,rfl,h.symm⟩
 |a::as,b::bs,i+1,d,h=>by
  simp only[bV,List.getElem?_cons_succ]at h;obtain ⟨x,y,h1,h2,h3⟩:=yN as bs i d h;exact ⟨x,y,by simpa using h1,by simpa using h2,h3⟩
theorem acW{u:Value}{ds:List D}{g:Hld}{k:SK}(s:Src K H F u ds g k):WalkJ K H F (dB 0 ds) g (Je k) where
 go:=λH' F' G i x r hh hi=>by
  obtain ⟨vs,h1,h2⟩:=s.sat H' F' G x r hh;exact ⟨vs,h1,by rw[<-h2.length,<-iM 0];exact hi⟩
 stop:=λH' F' G x r hh=>by
  obtain ⟨vs,h1,h2⟩:=s.sat H' F' G x r hh;exact ⟨vs,h1,by rw[iM];exact h2.length.symm⟩
 yld:=λH' F' i v H'' d G x r hh hd y=>by
  obtain ⟨vs,h1,h2⟩:=s.sat H' F' G x r hh;obtain ⟨T,y,hT,e1,e2,hv⟩:=y;subst e1 e2;rw[iQ]at hd;obtain ⟨d',hd',e3⟩:=ax.mp hd;subst e3;obtain ⟨w,e1,rw'⟩:=h2.get hd';have e2:=hv vs h1;rw[e1]at e2;cases e2;refine ⟨dq r hT,r.new hT,?_⟩;rw[Nat.zero_add];exact wV r hT (Reps.cons rfl (Reps.cons rw' Reps.nil))
theorem jH{g g':Hld}{G:DH}:held (g++g') G->held g G/\held g' G:=by
 induction g with
 |nil=>exact λh=>⟨trivial,h⟩
 |cons p r ih=>
  intro h;obtain ⟨h1,h2⟩:=ih h.2;exact ⟨⟨h.1,h1⟩,h2⟩
theorem acX{u u':Value}{ds es:List D}{g g':Hld}{k l:SK}(s:Src K H F u ds g k)(s':Src K H F u' es g' l):WalkJ K H F (bV ds es) (g++g') (Jz k l) where
 go:=λH' F' G i x r hh hi=>by
  obtain ⟨vs,h1,h2⟩:=s.sat H' F' G x r (jH hh).1;obtain ⟨ws,h3,h4⟩:=s'.sat H' F' G x r (jH hh).2;rw[uK]at hi;exact ⟨vs,ws,h1,h3,by rw[<-h2.length];omega,by rw[<-h4.length];omega⟩
 stop:=λH' F' G x r hh=>by
  obtain ⟨vs,h1,h2⟩:=s.sat H' F' G x r (jH hh).1;obtain ⟨ws,h3,h4⟩:=s'.sat H' F' G x r (jH hh).2;exact ⟨vs,ws,h1,h3,by rw[uK,<-h2.length,<-h4.length];omega⟩
 yld:=λH' F' i v H'' d G x r hh hd y=>by
  obtain ⟨T,y,z,hT,e1,e2,hv,hz⟩:=y;subst e1 e2;obtain ⟨a,b,ha,hb,e3⟩:=yN _ _ _ _ hd;subst e3;obtain ⟨vs,h1,h2⟩:=s.sat H' F' G x r (jH hh).1;obtain ⟨ws,h3,h4⟩:=s'.sat H' F' G x r (jH hh).2;obtain ⟨w,e1,rw'⟩:=h2.get ha;obtain ⟨w2,e3,rw2⟩:=h4.get hb;have e2:=hv vs h1;have e4:=hz ws h3;rw[e1]at e2;cases e2;rw[e3]at e4;cases e4;exact ⟨dq r hT,r.new hT,wV r hT (Reps.cons rw' (Reps.cons rw2 Reps.nil))⟩
theorem acY(lo:Int)(n:Nat):WalkJ K H F (aW lo n) [] (Itr lo n) where
 go:=λH' F' G i x _ _ hi=>by show i < n;simpa [aW] using hi
 stop:=λH' F' G x _ _=>by show n<=(aW lo n).length;simp[aW]
 yld:=λH' F' i v H'' d G x r _ hd y=>by
  obtain ⟨e1,e2⟩:=y;subst e1 e2;refine ⟨Ext.refl _ _,r,?_⟩;unfold aW at hd;rw[aE]at hd;obtain ⟨j,hj,e3⟩:=ax.mp hd;have:j=i:=by have:=am.mp hj;obtain ⟨h1,h2⟩:=this;simpa using h2.symm
  subst this;subst e3;rfl
end
def tI(K:PF)(B:Bs)(w:ao->DH->(List D->Hld->DH->Prop)->Prop):TI:=λσ H Rr=>∃ρ F G,Ext B.H B.F H F/\EnvR K H F ρ σ/\R K H F G/\
 w ρ G (λitems g G'=>∀H' F' J,Ext H F H' F'->R K H' F' G'->WalkJ K H' F' items g J->Rr J H')
section
variable {Φ:aa} {CX:CXT} {k:Nat} {c:CT} {E:EK} {B:Bs} {X:Cx}
theorem uL{pins:List (Addr×Obj)}{σ:L2.St}{H:Hp}{s:Shared}(I:Inv X pins σ H s){kk:SK}{vs:List V}(h:kk.Sat H vs):∃its:Array Value,kk.On its s.heap:=by
 cases kk with
 |lst a=>obtain ⟨its,_,pl,_⟩:=I.list (SqL.of (show H a=some _ from h));exact ⟨its.toArray,pl.isList⟩
 |tup a=>obtain ⟨its,_,pl,_⟩:=I.tuple (SqT.of (show H a=some _ from h));exact ⟨its.toArray,pl⟩
 |str x t=>exact ⟨#[],trivial⟩
theorem acZ{x:Ex}(ih:OkE Φ c E B X x){tg e:Expr}(h:aj c x e=true):PI X tg e (tI X.K B (wpI Φ (.seq x) E)):=by
 intro pins s σ H Rr I q;obtain ⟨ρ,F,G,e0,he,r,hw⟩:=q;rw[rJ]at hw;have q':tE X.K B (wpE Φ x E) σ H (λv H1=>∃F1 G1 d items,R X.K H1 F1 G1/\Rep X.K H1 F1 d v/\itemsOf G1 d=some items/\∀J,WalkJ X.K H1 F1 items.1 items.2 J->Rr J H1):=
  aO e0 he r hw λd G1 H1 F1 u q e1 x1 he1 r1 ru=>by
   split at q
   ·rename_i ds hd;exact ⟨F1,G1,d,ds,r1,ru,hd,λJ w=>q H1 F1 J x1 r1 w⟩
   ·exact q.elim
 refine thn (ih h pins s σ H _ I q') λu s1 ⟨v,H1,I1,rv,F1,G1,d,items,r1,rd,hd,q1⟩=>?_;obtain ⟨kk,src⟩:=uI rd rv hd;obtain ⟨vs,sat,_⟩:=src.sat H1 F1 G1 (Ext.refl _ _) r1 (uJ hd);obtain ⟨its,on⟩:=uL I1 sat;rw[<-src.val];refine SK.iter on ?_;refine ⟨s1.heap.objs.size,[s1.heap.objs.size],_,_,H1,rfl,I1.kept (t':=s1.toks) λb o e=>al _ e,abH kk _,SK.pos0,λb hb=>?_,q1 _ (acV src)⟩;have e:b=s1.heap.objs.size:=by simpa using hb
 subst e;exact I1.fpOk (ay _) (I1.hok.fresh (ay _))
theorem ac0(S:Stat Φ CX k c E B X){a:Ex}(ih:OkE Φ c E B X a){tg e:Expr}(h:bY c (.rng a) tg e=true):PI X tg e (tI X.K B (wpI Φ (.rng a) E)):=by
 replace h:=Hw h;obtain ⟨_,_,_,_,rfl,h⟩:=h
 ·simp only[ae,aw]at h;obtain ⟨⟨⟨e1,h1⟩,hm⟩,h2⟩:=h;subst e1;obtain ⟨g1,g2⟩:=dH h1;have hmg:=S.blt _ (a9.mp hm);have hs:=cB _ [] X.env (cU (bL a h2));intro pins s σ H Rr I q;refine Xf (S.glo _ g1) hmg (ji (ih h2) j9 hs) hs pins s σ H Rr I ?_;obtain ⟨ρ,F,G,e0,he,r,hw⟩:=q;rw[rK]at hw;refine aO e0 he r hw λd G1 H1 F1 u q e1 x1 he1 r1 ru=>?_;split at q
  ·rename_i n;have e2:u=.int n:=ru;subst e2;exact ⟨n,rfl,q.1.1,q.1.2,q.2 H1 F1 _ x1 r1 (acY 0 n.toNat)⟩
  ·exact q.elim
theorem ac1(S:Stat Φ CX k c E B X){a:Ex}(ih:OkE Φ c E B X a){tg e:Expr}(h:bY c (.rev a) tg e=true):PI X tg e (tI X.K B (wpI Φ (.rev a) E)):=nomatch (show false=true from h)
theorem ac2(S:Stat Φ CX k c E B X){a b d:Ex}(iha:OkE Φ c E B X a)(ihb:OkE Φ c E B X b)(ihd:OkE Φ c E B X d){tg e:Expr}(h:bY c (.dwn a b d) tg e=true):PI X tg e (tI X.K B (wpI Φ (.dwn a b d) E)):=nomatch (show false=true from h)
theorem ac3(S:Stat Φ CX k c E B X){a b:Ex}(iha:OkE Φ c E B X a)(ihb:OkE Φ c E B X b){tg e:Expr}(h:bY c (.rng2 a b) tg e=true):PI X tg e (tI X.K B (wpI Φ (.rng2 a b) E)):=nomatch (show false=true from h)
theorem ac4(S:Stat Φ CX k c E B X){a:Ex}(ih:OkE Φ c E B X a){tg e:Expr}(h:bY c (.enm a) tg e=true):PI X tg e (tI X.K B (wpI Φ (.enm a) E)):=by
 replace h:=Hx h;obtain ⟨_,_,_,_,_,_,_,rfl,rfl,h⟩:=h
 ·skip
  ·simp only[ae,aw]at h;obtain ⟨⟨⟨e1,h1⟩,hm⟩,h2⟩:=h;subst e1;obtain ⟨g1,g2⟩:=dH h1;have hmg:=S.blt _ (a9.mp hm);have hs:=cB _ [] X.env (cU (bL a h2));intro pins s σ H Rr I q;obtain ⟨ρ,F,G,e0,he,r,hw⟩:=q;rw[rM]at hw;have q':tL X.K B (aN Φ (.cons a .nil) E) σ H (λvs H1=>∃v F1 G1 d items,vs=[v]/\R X.K H1 F1 G1/\Rep X.K H1 F1 d v/\itemsOf G1 d=some items/\∀J,WalkJ X.K H1 F1 (dB 0 items.1) items.2 J->Rr J H1):=by
    refine cu (W:=λds G1=>∃d items,ds=[d]/\itemsOf G1 d=some items/\∀H' F' J,Ext H F H' F'->R X.K H' F' G1->WalkJ X.K H' F' (dB 0 items.1) items.2 J->Rr J H') e0 he r ?_ λds G1 H1 F1 vs q e1 x1 he1 r1 rvs=>?_
    ·rw[gG];refine aG a (λd G1 q=>?_) hw;rw[fV];split at q
     ·rename_i items hd;exact ⟨d,items,rfl,hd,q⟩
     ·exact q.elim
    ·obtain ⟨d,items,e2,hd,q⟩:=q;subst e2;obtain ⟨v,e3,rv⟩:=bC rvs;exact ⟨v,F1,G1,d,items,e3,r1,rv,hd,λJ w=>q H1 F1 J x1 r1 w⟩
   refine Call_ (jh I (S.glo _ g1) hmg (u:=.type "enumerate") boot_enumerate (fh (thn (uC ih (λh=>yI h) (c:=c) (es:=[_]) (by unfold aL;show (aj c a _&&true)=true;rw[h2];rfl) _ pins s σ H _ I q') λus s1 ⟨vs,H1,I1,r1v,q1⟩=>?_) hs rfl) (dZ g2) (cz g2));obtain ⟨v,F1,G1,d,items,e1,r1,rd,hd,q1⟩:=q1;subst e1;obtain ⟨u,rfl,ru⟩:=vals1 r1v;obtain ⟨kk,src⟩:=uI rd ru hd;obtain ⟨vs,sat,_⟩:=src.sat H1 F1 G1 (Ext.refl _ _) r1 (uJ hd);obtain ⟨its,on⟩:=uL I1 sat;rw[<-src.val];refine abQ on λh' hen hit hsz hk=>?_;refine wpAny_pyIter_enum hen ?_;have n1:H1 s1.heap.objs.size=none:=I1.hok.fresh (ay _);have n2:H1 (s1.heap.objs.size+1)=none:=I1.hok.fresh (fy _);refine ⟨s1.heap.objs.size+1,[s1.heap.objs.size+1,s1.heap.objs.size],_,_,H1,rfl,I1.kept (t':=s1.toks) hk,abG kk _ _ (Nat.succ_ne_self _),⟨⟨_,hen⟩,hit⟩,λb hb=>?_,q1 _ (acW src)⟩;have hb':b=s1.heap.objs.size+1\/b=s1.heap.objs.size:=by simpa using hb
   rcases hb' with rfl |rfl
   ·exact I1.fpOk (fy _) n2
   ·exact I1.fpOk (ay _) n1
theorem zap(n:Nat):ZApart (n+4) (n+2) (n+3) n (n+1):=
 ⟨(by omega:(n+2:Nat)≠n+4),(by omega:(n+3:Nat)≠n+4),(by omega:(n:Nat)≠n+4),(by omega:(n+1:Nat)≠n+4),(by omega:(n+2:Nat)≠n+3),(by omega:(n+2:Nat)≠n),(by omega:(n+2:Nat)≠n+1),(by omega:(n+3:Nat)≠n),(by omega:(n+3:Nat)≠n+1),(by omega:(n:Nat)≠n+1)⟩
theorem ac5(S:Stat Φ CX k c E B X){a b:Ex}(iha:OkE Φ c E B X a)(ihb:OkE Φ c E B X b){tg e:Expr}(h:bY c (.zip a b) tg e=true):PI X tg e (tI X.K B (wpI Φ (.zip a b) E)):=by
 replace h:=Hy h;obtain ⟨_,_,_,_,_,v,v',pos,rfl,rfl,h⟩:=h
 ·skip
  ·simp only[ae,aw]at h;obtain ⟨⟨⟨⟨e1,h1⟩,hm⟩,h2⟩,h3⟩:=h;subst e1;obtain ⟨g1,g2⟩:=dH h1;have hmg:=S.blt _ (a9.mp hm);have hs2:=cB v' [] X.env (cU (bL b h3));have hs:=cB v [v'] X.env (cU (bL a h2));intro pins s σ H Rr I q;obtain ⟨ρ,F,G,e0,he,r,hw⟩:=q;rw[rN]at hw;have hA:aL c (.cons a (.cons b .nil)) [v,v']=true:=by
    unfold aL aL aL;show (aj c a v&&(aj c b v'&&true))=true;rw[h2,h3];rfl
   have q':tL X.K B (aN Φ (.cons a (.cons b .nil)) E) σ H (λvs H1=>∃v v' F1 G1 d d' items items',vs=[v,v']/\R X.K H1 F1 G1/\Rep X.K H1 F1 d v/\Rep X.K H1 F1 d' v'/\itemsOf G1 d=some items/\itemsOf G1 d'=some items'/\∀J,WalkJ X.K H1 F1 (bV items.1 items'.1) (items.2++items'.2) J->Rr J H1):=by
    refine cu (W:=λds G1=>∃d d' items items',ds=[d,d']/\itemsOf G1 d=some items/\itemsOf G1 d'=some items'/\∀H' F' J,Ext H F H' F'->R X.K H' F' G1->WalkJ X.K H' F' (bV items.1 items'.1) (items.2++items'.2) J->Rr J H') e0 he r ?_ λds G1 H1 F1 vs q e1 x1 he1 r1 rvs=>?_
    ·rw[gG];refine aG a (λd G1 q=>?_) hw;rw[gG];refine aG b (λd' G2 q=>?_) q;rw[fV];split at q
     ·rename_i items items' hd hd';exact ⟨d,d',items,items',rfl,hd,hd',q⟩
     ·exact q.elim
    ·obtain ⟨d,d',items,items',e2,hd,hd',q⟩:=q;subst e2;obtain ⟨w1,r2,e3,rw1,t2⟩:=rvs;obtain ⟨w2,e4,rw2⟩:=bC t2;subst e4;exact ⟨w1,w2,F1,G1,d,d',items,items',e3,r1,rw1,rw2,hd,hd',λJ w=>q H1 F1 J x1 r1 w⟩
   refine Call_ (jh I (S.glo _ g1) hmg (u:=.type "zip") ZQ (fh (thn (uC iha (λh=>uC ihb (λh=>yI h) h) (c:=c) (es:=[v,v']) hA _ pins s σ H _ I q') λus s1 ⟨vs,H1,I1,r1v,q1⟩=>?_) hs (by rw[hs2];rfl)) (dZ g2) (cz g2));obtain ⟨w1,w2,F1,G1,d,d',items,items',e1,r1,rd,rd',hd,hd',q1⟩:=q1;subst e1;obtain ⟨u,u',rfl,ru,ru'⟩:=vals2 r1v;obtain ⟨kk,src⟩:=uI rd ru hd;obtain ⟨ll,src'⟩:=uI rd' ru' hd';obtain ⟨vs,sat,_⟩:=src.sat H1 F1 G1 (Ext.refl _ _) r1 (uJ hd);obtain ⟨ws,sat',_⟩:=src'.sat H1 F1 G1 (Ext.refl _ _) r1 (uJ hd');obtain ⟨its,on⟩:=uL I1 sat;obtain ⟨its',on'⟩:=uL I1 sat';rw[<-src.val,<-src'.val];refine abO on on' λh' hz hTI hTO p1 p2 hsz hk=>?_;refine wpAny_pyIter_zip hz ?_;have fr:∀j,H1 (s1.heap.objs.size+j)=none:=λj=>I1.hok.fresh (cm _ _);refine ⟨s1.heap.objs.size+4,[s1.heap.objs.size+4,s1.heap.objs.size+2,s1.heap.objs.size+3,s1.heap.objs.size,s1.heap.objs.size+1],_,_,H1,rfl,I1.kept (t':=s1.toks) hk,
    abL kk ll (s1.heap.objs.size+4) (s1.heap.objs.size+2) (s1.heap.objs.size+3) s1.heap.objs.size (s1.heap.objs.size+1) (zap s1.heap.objs.size),⟨hz,hTI,⟨_,_,hTO⟩,p1,p2⟩,λb hb=>?_,q1 _ (acX src src')⟩
   have hb':b=s1.heap.objs.size+4\/b=s1.heap.objs.size+2\/b=s1.heap.objs.size+3\/b=s1.heap.objs.size\/b=s1.heap.objs.size+1:=by simpa using hb
   rcases hb' with rfl |rfl |rfl |rfl |rfl
   ·exact I1.fpOk (cm _ _) (fr 4)
   ·exact I1.fpOk (cm _ _) (fr 2)
   ·exact I1.fpOk (cm _ _) (fr 3)
   ·exact I1.fpOk (ay _) (fr 0)
   ·exact I1.fpOk (cm _ _) (fr 1)
end
section
variable {Φ:aa} {CX:CXT} {k:Nat} {c:CT} {E:EK} {B:Bs} {X:Cx}
theorem yO:∀{l:List Str},eX l=true->l.Nodup
 |[],_=>List.nodup_nil
 |x::r,h=>by
  unfold eX at h;rw[ae]at h;refine List.nodup_cons.mpr ⟨λhm=>?_,yO h.2⟩;have:=h.1;rw[a9.mpr hm]at this;cases this
theorem uM{N:List Str}{scope:Scope}:∀{N':List Str}{cap:List (Option Nat)},X.N=N->gJ N scope N' cap=true->Caps X scope N' cap
 |[],[],_,_=>trivial
 |_::N',none::cap,e,h=>uM (N':=N') (cap:=cap) e h
 |x::N',some j::cap,e,h=>by
  unfold gJ at h;simp only[ae,aw]at h;exact ⟨⟨by rw[e];exact h.1.1,h.1.2⟩,uM (N':=N') (cap:=cap) e h.2⟩
 |[],_::_,_,h=>by cases h
 |_::_,[],_,h=>by cases h
theorem lF{scope:Scope}{env:Env}(x:Str):(relabel scope env).names.lookup x=(scope.names.lookup x).map λkk=>if (kk==NameKind.free&&env.scope.kind==.function&&env.kindOf x==some .cell)=true then NameKind.cell else kk:=wB
theorem Stat.comp(S:Stat Φ CX k c E B X){N':List Str}{scope:Scope}(hn:eX N'=true)(cl:List (Str×Addr))(C:Addr)(s₁:Shared)(H₁:Hp)(fp:List Addr)(pn:List (Addr×Obj)):
  Stat Φ CX k (c.comp N' scope) noE B (X.comp N' scope cl C s₁ H₁ fp pn) where
 N:=rfl
 nd:=yO hn
 calm:=S.calm
 own:=PassesOwn.never
 kd:=rfl
 vis:=λx h=>by
  have h:iC (scope.names.lookup x)=true:=h;show (relabel scope X.env).names.lookup x=_\/(relabel scope X.env).names.lookup x=_\/(relabel scope X.env).names.lookup x=_;rw[lF];cases e:scope.names.lookup x with
  |none=>rw[e]at h;cases h
  |some kk=>
   rw[e]at h;cases kk with
   | «local»=>exact .inl (by simp[show (NameKind.«local»==NameKind.free)=false by decide])
   |cell=>exact .inr (.inl (by simp[show (NameKind.cell==NameKind.free)=false by decide]))
   |free=>
    by_cases q:(NameKind.free==NameKind.free&&X.env.scope.kind==ScopeKind.function&&X.env.kindOf x==some NameKind.cell)=true
    ·exact .inr (.inl (by simp only[Option.map_some,if_pos q]))
    ·exact .inr (.inr (by simp only[Option.map_some,if_neg q]))
   |globalExplicit=>cases h
   |globalImplicit=>cases h
 cel:=λx h=>by
  have h:scope.names.lookup x=some .cell\/scope.names.lookup x=some .free:=h;show (relabel scope X.env).names.lookup x=_\/(relabel scope X.env).names.lookup x=_;rw[lF];rcases h with h |h
  ·exact .inl (by rw[h];simp[show (NameKind.cell==NameKind.free)=false by decide])
  ·rw[h];by_cases q:(NameKind.free==NameKind.free&&X.env.scope.kind==ScopeKind.function&&X.env.kindOf x==some NameKind.cell)=true
   ·exact .inl (by simp only[Option.map_some,if_pos q])
   ·exact .inr (by simp only[Option.map_some,if_neg q])
 glo:=λx h=>by
  have h:scope.names.lookup x=some .globalImplicit:=h;show (relabel scope X.env).names.lookup x=_;rw[lF,h];simp[show (NameKind.globalImplicit==NameKind.free)=false by decide]
 sto:=λx h=>by
  have h:(scope.names.lookup x==some .local||(false&&scope.names.lookup x==some .cell))=true:=h;rw[Bool.false_and,Bool.or_false,aw]at h;have e:(relabel scope X.env).names.lookup x=some .local:=by rw[lF,h];simp[show (NameKind.«local»==NameKind.free)=false by decide]
  exact ⟨.inl e,.inr e⟩
 room:=S.room
 call:=S.call
 blt:=S.blt
 con:=S.con
 exc:=⟨_,S.nox _,λ_ _ _ _ _ _ _ _ _ _ q=>q.elim,λx G' H' F' h=>h.elim⟩
 nox:=S.nox
 xcl:=λC h=>nomatch (show false=true from h)
 loc:=λx h=>by show (relabel scope X.env).names.lookup x=_;rw[lF,show scope.names.lookup x=some .local from h];simp[show (NameKind.«local»==NameKind.free)=false by decide]
 xis:=λC h=>nomatch (show false=true from h)
 mth:=S.mth
 mko:=S.mko
 fld:=S.fld
 trc:=λh=>absurd rfl h
theorem ac6(S:Stat Φ CX k c E B X){t:Tx}(ih:OkT Φ c E B X t){ifs:List Expr}(h:lA c t ifs=true):PIf X ifs (tB' X.K B (wpT Φ t E)):=by
 unfold lA at h;rw[dc]at h;rcases h with h |h
 ·rw[ae,eW]at h;obtain ⟨hy,rfl⟩:=h;cases t with
  |yes=>
   intro pins s σ H Q I q;refine Zt pins s σ H Q I ?_;obtain ⟨ρ,F,G,e0,he,r,hw⟩:=q;rw[rD]at hw;exact hw.now r
  |_=>cases hy
 ·obtain ⟨e,he,h⟩:=aU h;rw[cZ he];exact Zu (ih h)
theorem H9(S:Stat Φ CX k c E B X){fz:Bool}{elt:Ex}{tg:Tg}{it:It'}{cond:Tx}{N':List Str}{cap:List (Option Nat)}{scope:Scope}{elt' tg':Expr}{ifs:List Expr}(hn:eX N'=true)
  (ihe:∀{X':Cx},Stat Φ CX k (c.comp N' scope) noE B X'->OkE Φ (c.comp N' scope) noE B X' elt) (iht:∀{X':Cx},Stat Φ CX k (c.comp N' scope) noE B X'->OkT Φ (c.comp N' scope) noE B X' cond)
  (hg:cN (c.comp N' scope) tg tg'=true) (hi:lA (c.comp N' scope) cond ifs=true) (he:aj (c.comp N' scope) elt elt'=true)
  {σ:L2.St} {H:Hp} {Q:VK} {ρ:ao} {F:FZ} {G:DH} (e0:Ext B.H B.F H F) (henv:EnvR X.K H F ρ σ) (r:R X.K H F G)
  (hw:wpI Φ it E ρ G λitems g G1=>
   compLoop (λd ρ' G' k'=>bc tg d ρ' G' λρ1=>wpT Φ cond noE ρ1 G' λb G2=>match b with |true=>wpE Φ elt noE ρ1 G2 λy G3=>k' (some y) ρ1 G3 |false=>k' none ρ1 G2)
    g items [] (cap.map λo=>match o with |none=>none |some j=>(ρ[j]?).join) G1 λds G2=>mk fz ds G2 (PV X.K H F Q)):
  tI X.K B (wpI Φ it E) σ H (λJ H1=>DP X N' scope tg' ifs elt' J (dR cap σ) H1 Q):=by
 refine ⟨ρ,F,G,e0,henv,r,kY it (λitems g G1 q H1 F1 J x1 r1 W=>?_) hw⟩;let step:D->ao->DH->(Option D->ao->DH->Prop)->Prop:=λd ρ' G' k'=>bc tg d ρ' G' λρ1=>wpT Φ cond noE ρ1 G' λb G2=>match b with |true=>wpE Φ elt noE ρ1 G2 λy G3=>k' (some y) ρ1 G3 |false=>k' none ρ1 G2
 let fin:List D->DH->Prop:=λds G2=>mk fz ds G2 (PV X.K H F Q)
 refine ⟨λi m ys σ' H'=>m=items.length - i/\i<=items.length/\∃ρ' F' G' acc,Ext B.H B.F H' F'/\Ext H1 F1 H' F'/\EnvR X.K H' F' ρ' σ'/\R X.K H' F' G'/\Reps X.K H' F' acc ys/\compLoop step g (items.drop i) acc ρ' G' fin,
  ⟨items.length,by simp,e7 _,_,F1,G1,[],e0.trans x1,Ext.refl _ _,(henv.ext x1).cap cap,r1,rfl,q⟩,?_⟩
 rintro i m ys σ' H' ⟨rfl,hle,ρ',F',G',acc,eB,e1,he',r',ra,hl⟩;by_cases hlt:i < items.length
 ·have hd:items.drop i=items[i]::items.drop (i+1):=bp hlt;rw[hd]at hl;obtain ⟨hh,hz,hl⟩:=hl;refine .inr ⟨W.go H' F' G' i e1 r' hh hlt,by rw[<-ra.length];exact bq hz szl,λcl C s₁ H₁ fp pn=>?_⟩;have S':=S.comp (scope:=scope) hn cl C s₁ H₁ fp pn;refine ⟨_,_,_,uH S' tg hg,ac6 S' (iht S') hi,ihe S' he,λx H2 hy=>?_⟩;obtain ⟨xy,ry,rx⟩:=W.yld H' F' i x H2 items[i] G' e1 r' hh (by simp[hlt]) hy;refine ⟨ρ',F',G',items[i],eB.trans xy,he'.ext xy,ry,rx,fW (λρ1 z σ1 hσ1=>?_) tg hl⟩;refine jF (eB.trans xy) hσ1 ry z λb G2 H3 F3 z e3 x3 he3 r3=>?_;cases b with
  |true=>
   rw[if_pos rfl];refine aO e3 he3 r3 z λy G4 H4 F4 v z e4 x4 he4 r4 rv=>?_;exact ⟨items.length - (i+1),by omega,rfl,hlt,ρ1,F4,G4,acc++[y],e4,e1.trans (xy.trans (x3.trans x4)),he4,r4,(Reps.ext (xy.trans (x3.trans x4)) ra).append (Reps.cons rv Reps.nil),z⟩
  |false=>
   rw[if_neg br];exact ⟨items.length - (i+1),by omega,rfl,hlt,ρ1,F3,G2,acc,e3,e1.trans (xy.trans x3),he3,r3,Reps.ext (xy.trans x3) ra,z⟩
 ·have hi':i=items.length:=by omega
  subst hi';rw[dP]at hl;obtain ⟨hh,hz,hl⟩:=hl;refine .inl ⟨W.stop H' F' G' e1 r' hh,by rw[<-ra.length];exact cY hz,λp hp=>?_⟩;exact fX (dD (λd G' z=>PV.later z (x1.trans e1)) hl) r' ra p hp
structure CompC(c:CT)(elt:Ex)(tg:Tg)(it:It')(cond:Tx)(N':List Str)(cap:List (Option Nat))(elt' tg' iter:Expr)(ifs:List Expr)(scope:Scope):Prop where
 it:bY c it tg' iter=true
 cap:gJ c.N scope N' cap=true
 sc:jC c scope=true
 nd:eX N'=true
 tg:cN (c.comp N' scope) tg tg'=true
 cd:lA (c.comp N' scope) cond ifs=true
 el:aj (c.comp N' scope) elt elt'=true
theorem Ia(S:Stat Φ CX k c E B X){scope:Scope}(h:jC c scope=true):scope.names.all (λy=>y.2 != NameKind.cell)=true/\scope.names.all (λy=>y.2 != NameKind.local||scope.names.lookup y.1==some NameKind.local)=true/\
  scope.names.all (λy=>y.2 != NameKind.free||(X.env.kindOf y.1==some NameKind.cell||X.env.kindOf y.1==some NameKind.free))=true/\scope.kind=.function:=by
 unfold jC at h;simp only[ae,ci]at h;obtain ⟨⟨⟨⟨h1,h2⟩,h3⟩,h4⟩,_⟩:=h;refine ⟨h1,h2,?_,h4⟩;rw[bX]at h3 ⊢;intro y hy;have:=h3 y hy;rw[dc,dc,aw,aw]at this;rw[dc,dc,aw,aw];rcases this with q |q
 ·exact .inl q
 ·exact .inr (S.cel y.1 q)
theorem Ib{fz:Bool}{elt:Ex}{tg:Tg}{it:It'}{cond:Tx}{N:List String}{cap:List (Option Nat)}{e:Expr}(h:aj c (.comp fz elt tg it cond N cap) e=true):
  ∃elt' tg' iter ifs scope pos,e=.ListComp elt' [⟨tg',iter,ifs,0⟩] scope pos/\CompC c elt tg it cond (N.map Str.ofString) cap elt' tg' iter ifs scope:=by
 replace h:=Hv h;obtain ⟨_,_,_,_,_,_,_,rfl,h⟩:=h;simp only[ae,ci]at h;obtain ⟨⟨⟨⟨⟨⟨⟨h1,h2⟩,h3⟩,h4⟩,h5⟩,h6⟩,h7⟩,h8⟩:=h;subst h1;exact ⟨_,_,_,_,_,_,rfl,h2,h3,h4,h5,h6,h7,h8⟩
theorem yP{it:It'}{tg' iter:Expr}(h:bY c it tg' iter=true)(env:Env)(x:Value):foldedSetIterable iter env x=pure x:=by
 cases it with
 |seq y=>exact ace (bL y (show aj c y iter=true from h)) env x
 |rng a=>obtain ⟨_,_,_,_,rfl,_⟩:=Hw h;rfl
 |rng2 _ _=>exact nomatch (show false=true from h)
 |rev _=>exact nomatch (show false=true from h)
 |dwn _ _ _=>exact nomatch (show false=true from h)
 |enm a=>obtain ⟨_,_,_,_,_,_,_,_,rfl,_⟩:=Hx h;rfl
 |zip a b=>obtain ⟨_,_,_,_,_,_,_,_,_,rfl,_⟩:=Hy h;rfl
theorem ac7(S:Stat Φ CX k c E B X){fz:Bool}{elt:Ex}{tg:Tg}{it:It'}{cond:Tx}{N:List String}{cap:List (Option Nat)}
  (ihe:∀{c':CT}{X':Cx},Stat Φ CX k c' noE B X'->OkE Φ c' noE B X' elt) (iht:∀{c':CT}{X':Cx},Stat Φ CX k c' noE B X'->OkT Φ c' noE B X' cond)
  (ihi:∀{tg' iter:Expr},bY c it tg' iter=true->PI X tg' iter (tI X.K B (wpI Φ it E))) {e:Expr} (h:aj c (.comp fz elt tg it cond N cap) e=true):
  PE X e (tE X.K B (wpE Φ (.comp fz elt tg it cond N cap) E)):=by
 obtain ⟨elt',tg',iter,ifs,scope,pos,rfl,C⟩:=Ib h;obtain ⟨s1,s2,s3,s4⟩:=Ia S C.sc;refine peI (ZZ (N.map Str.ofString) cap S.calm (ihi C.it) (uM S.N C.cap) s1 s2 s3 s4 (yP C.it X.env)) λσ H Q hq=>el hq λρ F G e0 he r hw=>?_;rw[xY]at hw;exact H9 S C.nd (λS'=>ihe S') (λS'=>iht S') C.tg C.cd C.el e0 he r hw
theorem bh{x:Ex}(ih:OkE Φ c E B X x)(hn:∀l os rs pos,aj c x (.Compare l os rs pos)=true->False){e:Expr}(h:bF c (.val x) e=true):PT X e (tB' X.K B (wpT Φ (.val x) E)):=by
 have h:((iD e||lz e)&&aj c x e&&GJ x)=true:=h;simp only[ae,dc]at h;obtain ⟨⟨h1,h2⟩,h3⟩:=h;rcases h1 with h1 |h1
 ·exact acO ih h1 h2
 ·obtain ⟨⟨t,ht⟩,_⟩:=cK.mp h1;rw[ht]at h2;exact (hn _ _ _ _ h2).elim
end
mutual
theorem aB{Φ:aa}{CX:CXT}{k:Nat}{B:Bs}:∀(x:Ex){c:CT}{E:EK}{X:Cx},Stat Φ CX k c E B X->OkE Φ c E B X x
 |.var i,c,E,X,S=>by intro h;exact aci S h
 |.cst d,c,E,X,S=>by intro h;exact acj S h
 |.glb x d,c,E,X,S=>by intro h;exact ack S h
 |.bin op fz a b,c,E,X,S=>by intro h;exact acl S (aB a S) (aB b S) h
 |.neg a,c,E,X,S=>by intro h;exact acn S (aB a S) h
 |.cmp op a b,c,E,X,S=>by intro h;exact (HJ S (aB a S) (aB b S) h).1
 |.chn op op' a b d,c,E,X,S=>by intro h;exact (HN S (aB a S) (aB b S) (aB d S) h).1
 |.not a,c,E,X,S=>by intro h;exact aco S (aB a S) h
 |.boo isAnd e es,c,E,X,S=>by intro h;exact acM (aB e S) (dI es S) h
 |.ife t a b,c,E,X,S=>by intro h;exact acN (iR t S) (aB a S) (aB b S) h
 |.tup es,c,E,X,S=>by intro h;exact acp S (EachE.oks (dI es S)) h
 |.lst fz es,c,E,X,S=>by intro h;exact acq S (EachE.oks (dI es S)) h
 |.idx a i,c,E,X,S=>by intro h;exact acr S (aB a S) (aB i S) h
 |.slc fz a lo hi,c,E,X,S=>by intro h;exact acs S (aB a S) (Ig lo S) (Ig hi S) h
 |.rvs fz a s,c,E,X,S=>by intro h;exact acu S (aB a S) (aB s S) h
 |.call f es,c,E,X,S=>by intro h;exact acw S (EachE.oks (dI es S)) h
 |.bcl f es,c,E,X,S=>by intro h;exact acx S (EachE.oks (dI es S)) h
 |.lcl fz f es,c,E,X,S=>by intro h;exact acy S (EachE.oks (dI es S)) h
 |.isi a t,c,E,X,S=>by intro h;exact acC S (aB a S) h
 |.isx a C xs,c,E,X,S=>by intro h;exact acD S (aB a S) h
 |.fst es,c,E,X,S=>by intro h;exact acL S (dI es S) h
 |.rgl fz a,c,E,X,S=>by intro h;exact acz S (aB a S) h
 |.rgt a,c,E,X,S=>by intro h;exact acA S (aB a S) h
 |.fld C f o,c,E,X,S=>by intro h;exact acF S (aB o S) h
 |.mcl f C m o es,c,E,X,S=>by intro h;exact acH S (aB o S) (EachE.oks (dI es S)) h
 |.mko C es,c,E,X,S=>by intro h;exact acI S (EachE.oks (dI es S)) h
 |.pp0 o,c,E,X,S=>by intro h;exact acJ S (aB o S) h
 |.rpl f a b ix,c,E,X,S=>by intro h;exact acE S (aB a S) (aB b S) (aB ix S) h
 |.mth m o es,c,E,X,S=>by intro h;exact acK S (aB o S) (EachE.oks (dI es S)) h
 |.comp fz elt tg it cond N cap,c,E,X,S=>by intro h;exact ac7 S (λS'=>aB elt S') (λS'=>iR cond S') (yQ it S) h
 |.frz a,c,E,X,S=>by intro h;exact acv S (aB a S) h
theorem dI{Φ:aa}{CX:CXT}{k:Nat}{B:Bs}:∀(x:Exs){c:CT}{E:EK}{X:Cx},Stat Φ CX k c E B X->EachE Φ c E B X x
 |.nil,_,_,_,_=>trivial
 |.cons e es,c,E,X,S=>⟨aB e S,dI es S⟩
theorem iR{Φ:aa}{CX:CXT}{k:Nat}{B:Bs}:∀(x:Tx){c:CT}{E:EK}{X:Cx},Stat Φ CX k c E B X->OkT Φ c E B X x
 |.not t,c,E,X,S=>by intro h;exact acP (iR t S) h
 |.boo isAnd t ts,c,E,X,S=>by intro h;exact acQ (iR t S) (Ie ts S) h
 |.yes,c,E,X,S=>by intro h;exact nomatch (show false=true from h)
 |.val (.cmp op a b),c,E,X,S=>by
  intro h;have h:((iD _||lz _)&&aj c (.cmp op a b) _&&true)=true:=h;simp only[ae]at h;exact (HJ S (aB a S) (aB b S) h.1.2).2
 |.val (.chn op op' a b d),c,E,X,S=>by
  intro h;have h:((iD _||lz _)&&aj c (.chn op op' a b d) _&&true)=true:=h;simp only[ae]at h;exact (HN S (aB a S) (aB b S) (aB d S) h.1.2).2
 |.val (.frz a),c,E,X,S=>by
  intro h;have h:((iD _||lz _)&&aj c (.frz a) _&&false)=true:=h;rw[Bool.and_false]at h;cases h
 |.val (.var i),c,E,X,S=>by intro h;exact bh (aB (.var i) S) (λ_ _ _ _ h=>nomatch (show false=true from h)) h
 |.val (.cst d),c,E,X,S=>by intro h;exact bh (aB (.cst d) S) (λ_ _ _ _ h=>nomatch (show false=true from h)) h
 |.val (.glb x d),c,E,X,S=>by intro h;exact bh (aB (.glb x d) S) (λ_ _ _ _ h=>nomatch (show false=true from h)) h
 |.val (.bin op fz a b),c,E,X,S=>by intro h;exact bh (aB (.bin op fz a b) S) (λ_ _ _ _ h=>nomatch (show false=true from h)) h
 |.val (.neg a),c,E,X,S=>by intro h;exact bh (aB (.neg a) S) (λ_ _ _ _ h=>nomatch (show false=true from h)) h
 |.val (.not a),c,E,X,S=>by intro h;exact bh (aB (.not a) S) (λ_ _ _ _ h=>nomatch (show false=true from h)) h
 |.val (.boo isAnd e es),c,E,X,S=>by intro h;exact bh (aB (.boo isAnd e es) S) (λ_ _ _ _ h=>nomatch (show false=true from h)) h
 |.val (.ife t a b),c,E,X,S=>by intro h;exact bh (aB (.ife t a b) S) (λ_ _ _ _ h=>nomatch (show false=true from h)) h
 |.val (.tup es),c,E,X,S=>by intro h;exact bh (aB (.tup es) S) (λ_ _ _ _ h=>nomatch (show false=true from h)) h
 |.val (.lst fz es),c,E,X,S=>by intro h;exact bh (aB (.lst fz es) S) (λ_ _ _ _ h=>nomatch (show false=true from h)) h
 |.val (.idx a i),c,E,X,S=>by intro h;exact bh (aB (.idx a i) S) (λ_ _ _ _ h=>nomatch (show false=true from h)) h
 |.val (.slc fz a lo hi),c,E,X,S=>by intro h;exact bh (aB (.slc fz a lo hi) S) (λ_ _ _ _ h=>nomatch (show false=true from h)) h
 |.val (.rvs fz a s),c,E,X,S=>by intro h;exact bh (aB (.rvs fz a s) S) (λ_ _ _ _ h=>nomatch (show false=true from h)) h
 |.val (.call f es),c,E,X,S=>by intro h;exact bh (aB (.call f es) S) (λ_ _ _ _ h=>nomatch (show false=true from h)) h
 |.val (.bcl f es),c,E,X,S=>by intro h;exact bh (aB (.bcl f es) S) (λ_ _ _ _ h=>nomatch (show false=true from h)) h
 |.val (.lcl fz f es),c,E,X,S=>by intro h;exact bh (aB (.lcl fz f es) S) (λ_ _ _ _ h=>nomatch (show false=true from h)) h
 |.val (.isx a C xs),c,E,X,S=>by intro h;exact bh (aB (.isx a C xs) S) (λ_ _ _ _ h=>nomatch (show false=true from h)) h
 |.val (.rgl fz a),c,E,X,S=>by intro h;exact bh (aB (.rgl fz a) S) (λ_ _ _ _ h=>nomatch (show false=true from h)) h
 |.val (.rpl f a b ix),c,E,X,S=>by intro h;exact bh (aB (.rpl f a b ix) S) (λ_ _ _ _ h=>nomatch (show false=true from h)) h
 |.val (.fld C f o),c,E,X,S=>by intro h;exact bh (aB (.fld C f o) S) (λ_ _ _ _ h=>nomatch (show false=true from h)) h
 |.val (.mcl f C m o es),c,E,X,S=>by intro h;exact bh (aB (.mcl f C m o es) S) (λ_ _ _ _ h=>nomatch (show false=true from h)) h
 |.val (.mko C es),c,E,X,S=>by intro h;exact bh (aB (.mko C es) S) (λ_ _ _ _ h=>nomatch (show false=true from h)) h
 |.val (.pp0 o),c,E,X,S=>by intro h;exact bh (aB (.pp0 o) S) (λ_ _ _ _ h=>nomatch (show false=true from h)) h
 |.val (.rgt a),c,E,X,S=>by intro h;exact bh (aB (.rgt a) S) (λ_ _ _ _ h=>nomatch (show false=true from h)) h
 |.val (.fst es),c,E,X,S=>by intro h;exact bh (aB (.fst es) S) (λ_ _ _ _ h=>nomatch (show false=true from h)) h
 |.val (.isi a t),c,E,X,S=>by intro h;exact bh (aB (.isi a t) S) (λ_ _ _ _ h=>nomatch (show false=true from h)) h
 |.val (.mth m o es),c,E,X,S=>by intro h;exact bh (aB (.mth m o es) S) (λ_ _ _ _ h=>nomatch (show false=true from h)) h
 |.val (.comp fz elt tg it cond N cap),c,E,X,S=>by intro h;exact bh (aB (.comp fz elt tg it cond N cap) S) (λ_ _ _ _ h=>nomatch (show false=true from h)) h
theorem Ie{Φ:aa}{CX:CXT}{k:Nat}{B:Bs}:∀(x:Txs){c:CT}{E:EK}{X:Cx},Stat Φ CX k c E B X->uE Φ c E B X x
 |.nil,_,_,_,_=>trivial
 |.cons e es,c,E,X,S=>⟨iR e S,Ie es S⟩
theorem Ig{Φ:aa}{CX:CXT}{k:Nat}{B:Bs}:∀(x:Ox){c:CT}{E:EK}{X:Cx},Stat Φ CX k c E B X->∀y,x=.ob y->OkE Φ c E B X y
 |.no,c,E,X,S,y,e=>by cases e
 |.ob z,c,E,X,S,y,e=>by injection e with e;subst e;exact aB z S
theorem yQ{Φ:aa}{CX:CXT}{k:Nat}{B:Bs}:∀(x:It'){c:CT}{E:EK}{X:Cx},Stat Φ CX k c E B X->∀{tg e:Expr},bY c x tg e=true->PI X tg e (tI X.K B (wpI Φ x E))
 |.seq y,c,E,X,S,tg,e,h=>acZ (aB y S) (show aj c y e=true from h)
 |.rng a,c,E,X,S,tg,e,h=>ac0 S (aB a S) h
 |.rng2 a b,c,E,X,S,tg,e,h=>ac3 S (aB a S) (aB b S) h
 |.rev a,c,E,X,S,tg,e,h=>ac1 S (aB a S) h
 |.dwn a b d,c,E,X,S,tg,e,h=>ac2 S (aB a S) (aB b S) (aB d S) h
 |.enm a,c,E,X,S,tg,e,h=>ac4 S (aB a S) h
 |.zip a b,c,E,X,S,tg,e,h=>ac5 S (aB a S) (aB b S) h
end
def EnD(K:PF)(H:Hp)(F:FZ)(D:Ends):En where
 nx:=λρ G'=>∀H' F' σ',Ext H F H' F'->EnvR K H' F' ρ σ'->R K H' F' G'->D.nx σ' H'
 rt:=PV K H F D.rt
 bk:=λρ G'=>∀H' F' σ',Ext H F H' F'->EnvR K H' F' ρ σ'->R K H' F' G'->D.bk σ' H'
 ct:=λρ G'=>∀H' F' σ',Ext H F H' F'->EnvR K H' F' ρ σ'->R K H' F' G'->D.ct σ' H'
theorem EnD.later{K:PF}{H H1:Hp}{F F1:FZ}{D:Ends}(x:Ext H F H1 F1):(EnD K H F D).Le (EnD K H1 F1 D):=
 ⟨λ_ _ h H' F' σ' x1=>h H' F' σ' (x.trans x1),λ_ _ h=>PV.later h x,λ_ _ h H' F' σ' x1=>h H' F' σ' (x.trans x1),λ_ _ h H' F' σ' x1=>h H' F' σ' (x.trans x1)⟩
def tS(K:PF)(B:Bs)(w:ao->DH->En->Prop):TS:=λD σ H=>∃ρ F G,Ext B.H B.F H F/\EnvR K H F ρ σ/\R K H F G/\w ρ G (EnD K H F D)
theorem psI{X:Cx}{st:Stmt}{t t':TS}(h:PS X st t)(i:∀D σ H,t' D σ H->t D σ H):PS X st t':=λpins s σ H D I q=>h pins s σ H D I (i D σ H q)
theorem Ih{X:Cx}{st:List Stmt}{t t':TS}(h:PSs X st t)(i:∀D σ H,t' D σ H->t D σ H):PSs X st t':=λpins s σ H D I q=>h pins s σ H D I (i D σ H q)
theorem uN{e:Expr}(h:cT e=false)(t:Option Expr)(n:Nat)(env:Env):swapsWith e t n env=pure false:=by cases e <;> first |rfl |exact nomatch (show true=false from h)
theorem Ii{e:Expr}(h:cT e=false)(t:Expr)(n:Nat)(env:Env):swapsWithSole [t] e n env=pure false:=uN h _ _ _
section
variable {Φ:aa} {CX:CXT} {k:Nat} {c:CT} {E:EK} {B:Bs} {X:Cx}
abbrev OkS(Φ:aa)(c:CT)(E:EK)(B:Bs)(X:Cx)(x:Sx):Prop:=∀{st:Stmt},aZ c x st=true->PS X st (tS X.K B (wpS Φ x E))
abbrev jJ(Φ:aa)(c:CT)(E:EK)(B:Bs)(X:Cx)(x:Sxs):Prop:=∀{st:List Stmt},aC c x st=true->PSs X st (tS X.K B (aq Φ x E))
theorem ac8(S:Stat Φ CX k c E B X){x:Ex}{st:Stmt}(h:aZ c (.exp x) st=true):PS X st (tS X.K B (wpS Φ (.exp x) E)):=by
 replace h:=abZ h;obtain ⟨_,_,rfl,h⟩:=h
 ·rw[ae]at h;refine psI (WN (aB x S h.2) (uN (by simpa using h.1) _ _ _)) λD σ H hq=>el hq λρ F G e0 he r hw=>?_;rw[sW]at hw;exact aO e0 he r hw λd G1 H1 F1 v q e1 x1 he1 r1 rv=>q _ _ _ x1 he1 r1
theorem ac9(S:Stat Φ CX k c E B X){i:Nat}{x:Ex}{st:Stmt}(h:aZ c (.asg (.nm i) x) st=true):PS X st (tS X.K B (wpS Φ (.asg (.nm i) x) E)):=by
 replace h:=Hz h;obtain ⟨tg,e,pos,rfl,h⟩:=h
 ·simp only[ae]at h;obtain ⟨⟨h1,h2⟩,h3⟩:=h;have h3:(!cT e||GK x)=true:=h3;replace h1:=yE h1;obtain ⟨y,py,rfl,h1⟩:=h1
  ·rw[ae,aw]at h1;obtain ⟨l,f⟩:=S.sto y h1.2;have hi:X.N[i]?=some y:=by rw[S.N];exact h1.1
   have go:∀(D:Ends)(σ:L2.St)(H:Hp),tS X.K B (wpS Φ (.asg (.nm i) x) E) D σ H->qy (tE X.K B (wpE Φ x E)) (qx i) D σ H:=λD σ H hq=>el hq λρ F G e0 he r hw=>by
    rw[jA]at hw;refine aO e0 he r hw λd G1 H1 F1 v q e1 x1 he1 r1 rv=>?_;unfold bc at q;exact q _ _ _ x1 (he1.set rv i) r1
   cases hc:cT e with
   |false=>exact psI (wg S.nd hi l (aB x S h2) (uN hc _ _ _) f) go
   |true=>
    rw[hc,Bool.not_true,Bool.false_or]at h3;cases x with
    |comp fz elt tg it cond N cap=>
     obtain ⟨elt',tg',iter,ifs,scope,pos',rfl,C⟩:=Ib h2;obtain ⟨s1,s2,s3,s4⟩:=Ia S C.sc;have hb:∃b:Bool,swapsWith (.ListComp elt' [⟨tg',iter,ifs,0⟩] scope pos') (some (.Name y py)) pos.line X.env=pure b:=⟨_,rfl⟩;obtain ⟨b,hb⟩:=hb;cases b with
     |false=>exact psI (wg S.nd hi l (aB _ S h2) hb f) go
     |true=>
      refine psI (Z0 S.nd hi l (N.map Str.ofString) cap S.calm (yQ it S C.it) (uM S.N C.cap) s1 s2 s3 s4 (yP C.it X.env) hb f) λD σ H hq=>el hq λρ F G e0 he r hw=>?_;rw[jA]at hw;rw[xY]at hw;refine H9 (fz:=fz) (Q:=λv H1=>D.nx (σ.set i (some v)) H1) S C.nd (λS'=>aB elt S') (λS'=>iR cond S') C.tg C.cd C.el e0 he r (kY it (λitems g G1 q=>?_) hw);refine tY (λd ρ' G' k1 k2 hk z=>fW (λρ1 z=>du cond (λb G2 z=>by
       cases b with
       |true=>exact aG elt (λy G3 z=>hk _ _ _ z) z
       |false=>exact hk _ _ _ z) z) tg z) ?_ _ _ _ _ q
      ·intro ds G2 q;refine dD (λd G3 q=>?_) q;intro H1 F1 v x1 r1 rv;unfold bc at q;exact q _ _ _ x1 ((he.ext x1).set rv i) r1
    |_=>cases h3
theorem ada(S:Stat Φ CX k c E B X){ts:Tgs}{x:Ex}{st:Stmt}(h:aZ c (.asg (.tp ts) x) st=true):PS X st (tS X.K B (wpS Φ (.asg (.tp ts) x) E)):=by
 replace h:=Hz h;obtain ⟨tg,e,pos,rfl,h⟩:=h
 ·rw[ae,ae]at h;have h34:(!GP e&&!cT e)=true:=h.2;obtain ⟨h1,h2⟩:=h.1;rw[ae,eS,eS]at h34;obtain ⟨h3,h4⟩:=h34;have hg:=uH S (.tp ts) h1;replace h1:=yF h1;obtain ⟨_,_,_,rfl,h1⟩:=h1
  ·refine psI (Cq (aB x S h2) hg (Ii h4 _ _ _) ?_ rfl) λD σ H hq=>el hq λρ F G e0 he r hw=>?_
   ·cases e <;> first |rfl |exact nomatch (show true=false from h3)
   ·rw[jA]at hw;refine aO e0 he r hw λd G1 H1 F1 v q e1 x1 he1 r1 rv=>?_;exact ⟨ρ,F1,G1,d,e1,he1,r1,rv,fW (λρ' z σ' hσ=>z H1 F1 σ' x1 hσ r1) (.tp ts) q⟩
theorem adb(S:Stat Φ CX k c E B X){o i x:Ex}{st:Stmt}(h:aZ c (.set o i x) st=true):PS X st (tS X.K B (wpS Φ (.set o i x) E)):=by
 replace h:=ab0 h;obtain ⟨o',i',tpos,e,pos,rfl,h⟩:=h
 ·simp only[ae,eS]at h;obtain ⟨⟨⟨h1,h2⟩,h3⟩,h4⟩:=h;have hi:=bL i h2;refine psI (Cq (aB x S h3) (W9 (aB o S h1) (aB i S h2) abB ?_) (Ii h4 _ _ _) ?_ rfl) λD σ H hq=>el hq λρ F G e0 he r hw=>?_
  ·intro v;cases i' <;> first |rfl |exact nomatch (show false=true from hi)
  ·cases e <;> rfl
  ·rw[sX]at hw;refine aO e0 he r hw λd G1 H1 F1 v q e1 x1 he1 r1 rv=>?_;refine aO e1 he1 r1 q λa G2 H2 F2 w q e2 x2 he2 r2 rw'=>?_;refine aO e2 he2 r2 q λy G3 H3 F3 u q e3 x3 he3 r3 ru=>?_;refine ⟨F3,G3,a,y,d,r3,rw'.ext x3,ru,rv.ext (x2.trans x3),xZ (λG4 q=>?_) q⟩;intro H4 F4 x4 r4;exact q _ _ _ (x1.trans (x2.trans (x3.trans x4))) (he3.ext x4) r4
theorem adc(S:Stat Φ CX k c E B X){i:Nat}{op:Operator}{x:Ex}{st:Stmt}(h:aZ c (.aug i op x) st=true):PS X st (tS X.K B (wpS Φ (.aug i op x) E)):=by
 replace h:=ab1 h;obtain ⟨y,py,o,e,pos,rfl,h⟩:=h
 ·simp only[ae,aw]at h;obtain ⟨⟨⟨⟨rfl,h1⟩,h2⟩,h3⟩,h4⟩:=h;obtain ⟨l,f⟩:=S.sto y h2;refine psI (Xb S.nd (by rw[S.N];exact h1) l (aB x S h4) (abC o) f) λD σ H hq=>el hq λρ F G e0 he r hw=>?_;rw[sY]at hw;split at hw
  ·rename_i a ha;obtain ⟨v,e1,rv⟩:=he.get ha;refine ⟨v,e1,aO e0 he r hw λb G1 H1 F1 u q e1 x1 he1 r1 ru=>?_⟩;refine ⟨F1,G1,a,b,r1,rv.ext x1,ru,yc (λd q=>?_) q⟩;intro H2 F2 w x2 r2 rw';exact q _ _ _ (x1.trans x2) ((he1.ext x2).set rw' i) r2
  ·exact hw.elim
theorem ade(S:Stat Φ CX k c E B X){o i:Ex}{op:Operator}{x:Ex}{st:Stmt}(h:aZ c (.augs o i op x) st=true):PS X st (tS X.K B (wpS Φ (.augs o i op x) E)):=nomatch (show false=true from h)
theorem adf(S:Stat Φ CX k c E B X){x:Ex}{st:Stmt}(h:aZ c (.ret x) st=true):PS X st (tS X.K B (wpS Φ (.ret x) E)):=by
 replace h:=ab6 h;obtain ⟨_,_,rfl,h⟩:=h
 ·refine psI (WP (aB x S h)) λD σ H hq=>el hq λρ F G e0 he r hw=>?_;rw[sZ]at hw;exact ⟨ρ,F,G,e0,he,r,hw⟩
theorem adg{st:Stmt}(h:aZ c .rtn st=true):PS X st (tS X.K B (wpS Φ .rtn E)):=by
 replace h:=ab7 h;obtain ⟨_,rfl,h⟩:=h
 ·refine psI WR λD σ H hq=>el hq λρ F G e0 he r hw=>?_;rw[tu]at hw;exact hw.now r rfl
theorem adh(S:Stat Φ CX k c E B X){t:Tx}{a b:Sxs}(iha:jJ Φ c E B X a)(ihb:jJ Φ c E B X b){st:Stmt}(h:aZ c (.ite t a b) st=true):PS X st (tS X.K B (wpS Φ (.ite t a b) E)):=by
 replace h:=ab8 h;obtain ⟨_,_,_,_,rfl,h⟩:=h
 ·simp only[ae]at h;obtain ⟨⟨h1,h2⟩,h3⟩:=h;refine psI (WW (iR t S h1) (iha h2) (ihb h3)) λD σ H hq=>el hq λρ F G e0 he r hw=>?_;rw[tB]at hw;refine jF e0 he r hw λb' G1 H1 F1 q e1 x1 he1 r1=>?_;cases b' with
  |true=>
   rw[if_pos rfl];exact ⟨ρ,F1,G1,e1,he1,r1,dF a (EnD.later x1) q⟩
  |false=>
   rw[if_neg br];exact ⟨ρ,F1,G1,e1,he1,r1,dF b (EnD.later x1) q⟩
theorem adi(S:Stat Φ CX k c E B X){t:Tg}{it:It'}{b:Sxs}(ihb:jJ Φ c E B X b){st:Stmt}(h:aZ c (.for_ t it b) st=true):PS X st (tS X.K B (wpS Φ (.for_ t it b) E)):=by
 replace h:=ab9 h;obtain ⟨tg,iter,body,pos,rfl,h⟩:=h
 ·simp only[ae]at h;obtain ⟨⟨h1,h2⟩,h3⟩:=h;refine psI (Xi S.own S.calm (yQ it S h2) (uH S t h1) (ihb h3) (yP h2 X.env)) λD σ H hq=>el hq λρ F G e0 he r hw=>?_;rw[Fb]at hw;refine ⟨ρ,F,G,e0,he,r,kY it (λitems g G1 q H1 F1 J x1 r1 W=>?_) hw⟩;let step:RF.D->ao->DH->(ao->DH->Prop)->Prop:=λd ρ' G' k=>bc t d ρ' G' λρ1=>aq Φ b E ρ1 G' { EnD X.K H F D with nx:=k,ct:=k,bk:=(EnD X.K H F D).nx }
  let P:Nat->L2.St->Hp->Prop:=λi σ' H'=>∃ρ' F' G',Ext B.H B.F H' F'/\Ext H1 F1 H' F'/\EnvR X.K H' F' ρ' σ'/\R X.K H' F' G'/\forLoop step g (items.drop i) ρ' G' (EnD X.K H F D).nx
  refine ⟨λi m σ' H'=>m=items.length - i/\i<=items.length/\P i σ' H',⟨items.length,by simp,e7 _,ρ,F1,G1,e0.trans x1,Ext.refl _ _,he.ext x1,r1,q⟩,?_⟩;rintro i m σ' H' ⟨rfl,hle,ρ',F',G',eB,e1,he',r',hl⟩;by_cases hlt:i < items.length
  ·have hd:items.drop i=items[i]::items.drop (i+1):=bp hlt;rw[hd]at hl;obtain ⟨hh,hl⟩:=hl;refine .inr ⟨W.go H' F' G' i e1 r' hh hlt,P (i+1),λσ2 H2 p=>⟨items.length - (i+1),by omega,rfl,hlt,p⟩,λx H2 hy=>?_⟩;obtain ⟨xy,ry,rx⟩:=W.yld H' F' i x H2 items[i] G' e1 r' hh (by simp[hlt]) hy;refine ⟨ρ',F',G',items[i],eB.trans xy,he'.ext xy,ry,rx,fW (λρ1 z σ1 hσ1=>?_) t hl⟩;refine ⟨ρ1,F',G',eB.trans xy,hσ1,ry,dF b (D:={ EnD X.K H F D with nx:=λρ' G'=>forLoop step g (items.drop (i+1)) ρ' G' (EnD X.K H F D).nx,ct:=λρ' G'=>forLoop step g (items.drop (i+1)) ρ' G' (EnD X.K H F D).nx,bk:=(EnD X.K H F D).nx }) ⟨λρ2 G2 z H3 F3 σ3 x3 he3 r3=>?_,λd G2 z=>PV.later z (x1.trans (e1.trans xy)),λρ2 G2 z H3 F3 σ3 x3=>z H3 F3 σ3 (x1.trans (e1.trans (xy.trans x3))),λρ2 G2 z H3 F3 σ3 x3 he3 r3=>?_⟩ z⟩
   ·exact ⟨ρ2,F3,G2,eB.trans (xy.trans x3),e1.trans (xy.trans x3),he3,r3,z⟩
   ·exact ⟨ρ2,F3,G2,eB.trans (xy.trans x3),e1.trans (xy.trans x3),he3,r3,z⟩
  ·have hi':i=items.length:=by omega
   subst hi';rw[dP]at hl;exact .inl ⟨W.stop H' F' G' e1 r' hl.1,hl.2 _ _ _ (x1.trans e1) he' r'⟩
theorem adk(S:Stat Φ CX k c E B X){t:Tx}{b:Sxs}(ihb:jJ Φ c E B X b){st:Stmt}(h:aZ c (.whl t b) st=true):PS X st (tS X.K B (wpS Φ (.whl t b) E)):=nomatch (show false=true from h)
def tJ(K:PF)(B:Bs)(w:ao->DH->(DH->Prop)->Prop):TJ:=λσ H Q=>∃ρ F G,Ext B.H B.F H F/\EnvR K H F ρ σ/\R K H F G/\w ρ G λG'=>∀H' F',Ext H F H' F'->R K H' F' G'->Q H'
theorem pjI{X:Cx}{ps:List Expr}{t t':TJ}{n:Nat}(h:PJ X ps t n)(i:∀σ H Q,t' σ H Q->t σ H Q):PJ X ps t' n:=λpins s σ H Q out I hl q=>h pins s σ H Q out I hl (i σ H Q q)
theorem yR{E:EK}{ρ:ao}:∀(es:Exs){G:DH}{k k':DH->Prop},(∀G',k G'->k' G')->wpM Φ es E ρ G k->wpM Φ es E ρ G k'
 |.nil,G,k,k',h,q=>h G q
 |.cons e es,G,k,k',h,q=>by
  rw[tQ]at q ⊢;exact aG e (λd G1 q=>⟨q.1,yR es h q.2⟩) q
theorem Ij{p:Expr}(h:yz p=true):∃y k pos,p=.Constant (.str y) k pos/\y.length<=1000:=by obtain ⟨t,ht,h⟩:=aH h;obtain ⟨x,hx,h⟩:=aH h;exact ⟨x,_,_,by rw[ht,hx],c8 h⟩
theorem yS(S:Stat Φ CX k c E B X):∀(ps:List Expr){es:Exs},lB c es ps=true->∃n,n<=1000 * ps.length/\PJ X ps (tJ X.K B (wpM Φ es E)) n
 |[],es,h=>by
  cases es with
  |nil=>exact ⟨0,e7 _,pjI Z9 λσ H Q hq=>el hq λρ F G e0 he r hw=>hw H F (Ext.refl _ _) r⟩
  |cons _ _=>exact nomatch (show false=true from h)
 |p::ps,es,h=>by
  unfold lB at h;split at h
  ·rename_i hm;obtain ⟨y,kk,pos,rfl,hy⟩:=Ij hm;obtain ⟨n,hn,hp⟩:=yS S ps h;exact ⟨y.length+n,by rw[cf];omega,aaa hp⟩
  ·split at h
   ·rename_i x rr;rw[ae]at h;obtain ⟨t,ht,h1⟩:=aH h.1;rw[ae,ae,eA,ci]at h1;obtain ⟨n,hn,hp⟩:=yS S ps h.2;refine ⟨3+n,by rw[cf];omega,?_⟩;rw[ht,h1.1.1,h1.1.2];refine pjI (aab (aB x S h1.2) hp) λσ H Q hq=>el hq λρ F G e0 he r hw=>?_;rw[tQ]at hw;refine aO e0 he r hw λd G1 H1 F1 v q e1 x1 he1 r1 rv=>?_;obtain ⟨q1,q2⟩:=q;unfold rz at q1;split at q1
    ·rename_i i;rw[ae,ci,ci]at q1;have e2:v=.int i:=rv;refine ⟨⟨i.toNat,by rw[e2];congr 1;omega,by omega⟩,ρ,F1,G1,e1,he1,r1,yR rr (λG' z H' F' x' r'=>z H' F' (x1.trans x') r') q2⟩
    ·cases q1
   ·cases h
theorem adl(S:Stat Φ CX k c E B X){C:String}{es:Exs}{st:Stmt}(h:aZ c (.rse C es) st=true):PS X st (tS X.K B (wpS Φ (.rse C es) E)):=by
 replace h:=ab2 h;obtain ⟨x,np,m,cpos,pos,rfl,h⟩:=h;simp only[ae,aw]at h;obtain ⟨⟨⟨e1,h1⟩,h2⟩,h3⟩:=h;subst e1;obtain ⟨g1,g2⟩:=dH h1;obtain ⟨a,hm,hb,hn⟩:=S.xcl C h2;obtain ⟨EX,_,hth,hEX⟩:=S.exc;unfold uA at h3;rw[dc]at h3;rcases h3 with h3 |h3
 ·cases es with
  |cons _ _=>cases h3
  |nil=>
   obtain ⟨y,kk,p,rfl,hy⟩:=Ij h3;refine psI (Ep S.calm (S.glo _ g1) hm hb hth (ji Ci j9 rfl) (cz g2) rfl rfl) λD σ H hq=>el hq λρ F G e0 he r hw=>?_;rw[kW,xQ]at hw;exact ⟨show 1<=sizeLine by decide,hEX ⟨C,.non⟩ G H F hw e0 r (.ref a) none ⟨a,rfl,hn,trivial⟩⟩
 ·obtain ⟨t,ht,h3⟩:=aH h3;rw[ae,ae,ci,ci]at h3;obtain ⟨n,hn',hp⟩:=yS S t.1 h3.2;rcases hps:t.1 with _ |⟨v1,_ |⟨v2,r⟩⟩
  ·rw[hps]at h3;simp at h3
  ·rw[hps]at h3;simp at h3
  ·rw[hps]at hp;subst ht;rw[hps]at *;refine psI (Ep S.calm (S.glo _ g1) hm hb hth (ji (aac hp (by omega)) j9 rfl) (cz g2) rfl rfl) λD σ H hq=>el hq λρ F G e0 he r hw=>?_;rw[kW]at hw;refine ⟨ρ,F,G,e0,he,r,yR es (λG1 q H1 F1 x1 r1 y=>⟨show 1<=sizeLine by decide,?_⟩) hw⟩;exact hEX ⟨C,.non⟩ G1 H1 F1 q (e0.trans x1) r1 (.ref a) none ⟨a,rfl,hn,trivial⟩
theorem Stat.wish(S:Stat Φ CX k c E B X)(E':Value->Shared->Prop)(ho:PassesOwn (model X.prog X.w) X.A X.env E'):Stat Φ CX k c noE B (X.wish E'):=
 ⟨S.N,S.nd,S.calm,ho,S.kd,S.vis,S.cel,S.glo,S.sto,S.room,S.call,S.blt,S.con,⟨_,S.nox _,λ_ _ _ _ _ _ _ _ _ _ q=>q.elim,λx G' H' F' h=>h.elim⟩,S.nox,S.xcl,S.loc,S.xis,S.mth,S.mko,S.fld,S.trc⟩
theorem adm(S:Stat Φ CX k c E B X){f:String}{es:Exs}{C:String}{i:Nat}{b:Bool}{st:Stmt}(h:aZ c (.tryc f es C i b) st=true):PS X st (tS X.K B (wpS Φ (.tryc f es C i b) E)):=nomatch (show false=true from h)
def PNx(K:PF)(H:Hp)(F:FZ)(nx:L2.St->Hp->Prop):ao->DH->Prop:=λρ' G'=>∀H' F' σ',Ext H F H' F'->EnvR K H' F' ρ' σ'->R K H' F' G'->nx σ' H'
def PEx(K:PF)(H:Hp)(F:FZ)(ex:Value->L2.St->Hp->Prop):Xn->ao->DH->Prop:=λx ρ' G'=>∀H' F' σ' cv od,Ext H F H' F'->EnvR K H' F' ρ' σ'->R K H' F' G'->XV K H' F' x cv od->ex cv σ' H'
def tXX(K:PF)(B:Bs)(w:ao->DH->(ao->DH->Prop)->(Xn->ao->DH->Prop)->Prop):TX:=λnx ex σ H=>∃ρ F G,Ext B.H B.F H F/\EnvR K H F ρ σ/\R K H F G/\w ρ G (PNx K H F nx) (PEx K H F ex)
theorem pxI{X:Cx}{sts:List Stmt}{t t':TX}(h:PXs X sts t)(i:∀nx ex σ H,t' nx ex σ H->t nx ex σ H):PXs X sts t':=λpins s σ H nx ex E' I ho hE q=>h pins s σ H nx ex E' I ho hE (i nx ex σ H q)
theorem adn{B:Bs}{c:CT}{E:EK}{X:Cx}(S:Stat Φ (CX1 X.prog X.w) k c E B X){f g:String}{i:Nat}{es:Exs}{sts:List Stmt}(h:iJ c (.pick f g i es) sts=true):PXs X sts (tXX X.K B (wpX Φ (.pick f g i es))):=nomatch (show false=true from h)
theorem Ik{X:Cx}{k:Nat}{f:Addr}{fd:FuncData}{ps:List Str}{sp:Sp}{pins:List (Addr×Obj)}{σ:L2.St}{H:Hp}{s:Shared}{us:List Value}{vs:List V}{nx:L2.St->Hp->Prop}{ex:Value->L2.St->Hp->Prop}{E':Value->Shared->Prop}(F:FnOk X.prog X.w X.K X.mg X.base (CX1 X.prog X.w) k f fd ps sp)(hr:Room k X.A)(hb:Binds X.K fd ps [])(hE:∀e s1,XP X pins ex σ e s1->E' e s1)
  (I:Inv X pins σ H s) (r:Vals vs us) (h:sp (vs++[]) H (λ_ H2=>nx σ H2) λc _ H2=>ex c σ H2):wpAny (model X.prog X.w) X.A (call (.ref f) us) (λ_ s1=>∃H2,Inv X pins σ H2 s1/\nx σ H2) E' s:=by
 rw[dA]at h;have hl:us.length=ps.length:=by rw[<-r.length];exact F.len _ _ _ _ h
 have hb2:=hb s us I.kIn (by rw[dA];exact hl);rw[dA]at hb2;refine wpAny_call (codeAny_mono (F.run X.A X.stack s H ⟨us,[]⟩ us vs _ _ hr I.env0 hb2 r h) λrr s2 hq=>?_);cases rr with
 |error ev=>
  obtain ⟨a,c,H2,rfl,ho,hgn,un,hok,tr,qn⟩:=hq;exact hE _ _ ⟨a,c,H,s,H2,rfl,I,⟨ho,hgn,un,hok,tr⟩,qn⟩
 |ok fl=>
  cases fl with
  |ret u=>
   obtain ⟨v,H2,I2,r2,q2⟩:=I.after hq;exact ⟨H2,I2,q2⟩
  |next=>exact False.elim hq
  |brk=>exact False.elim hq
  |cont=>exact False.elim hq
theorem ado{B:Bs}{c:CT}{E:EK}{X:Cx}(S:Stat Φ (CX1 X.prog X.w) k c E B X){f C m:String}{o:Ex}{xs:Exs}{sts:List Stmt}(h:iJ c (.mcl f C m o xs) sts=true):PXs X sts (tXX X.K B (wpX Φ (.mcl f C m o xs))):=by
 obtain ⟨e,p0,rfl,h⟩:=ab5 h;obtain ⟨y,p,n,apos,args,cpos,rfl,hh⟩:=yG h;rw[ae,ae,ae,ae,ae,aw]at hh;obtain ⟨⟨⟨⟨⟨en,hl⟩,hlt⟩,hm⟩,ho⟩,hes⟩:=hh;have hlt:=c8 hlt;subst en;obtain ⟨c0,fa,fd,ps,hn,hcl,hmt,hbn,F0⟩:=S.mth _ _ _ _ (a9.mp hm);have hline:(apos.endLine==cpos.line)=true:=hl;intro pins s σ H nx ex E' I hpo hE hq;have key:kh c0 (Str.ofString m) (lift X.K (args.length+1) (Φ f)) [] (λc _ H2=>ex c σ H2) (tE X.K B (wpE Φ o noE)) (tL X.K B (aN Φ xs noE)) σ H λ_ H2=>nx σ H2:=by
  obtain ⟨ρ,F,G,eB,he,r,hw⟩:=hq;rw[tU]at hw;refine aO eB he r hw λd G1 H1 F1 u q e1 x1 he1 r1 ru=>?_;obtain ⟨qo,q⟩:=q;unfold cX at qo;split at qo
  ·rename_i C' f' q0;obtain ⟨rfl,hne⟩:=qo;have ru':=ru;obtain ⟨a,c1,dx,e2,⟨_,hH⟩,hn1⟩:=ru;have ec:c1=c0:=by rw[hn]at hn1;cases hn1;rfl
   subst ec;subst e2;refine ⟨a,dx,_,rfl,hH,HR hne,cu e1 he1 r1 (lD _ hes q) λds G2 H2 F2 vs q e2 x2 he2 r2 rvs=>?_⟩;rw[dA];exact ⟨by rw[cf,<-rvs.length,q.1],F2,G2,_::ds,r2,.cons (Rep.ext x2 ru') rvs,Spec.mono q.2 (λd G3 z H3 F3 v x3 r3 _=>z H3 F3 σ ((x1.trans x2).trans x3) (he2.ext x3) r3) λxn G3 z H3 F3 x3 r3 cv od hv=>z H3 F3 σ cv od ((x1.trans x2).trans x3) (he2.ext x3) r3 hv⟩
  ·exact qo.elim
 cases args with
 |nil=>
  cases xs with
  |nil=>
   refine gd (wpAny_Expr_any (fT (thn (aB o (S.wish E' hpo) ho pins s σ H _ (I.wish E') key) λu s1 ⟨x,H1,I1,rx,a,dx,fs,ex1,ea,l,q⟩=>?_) (uD rfl rfl hline)) I.quiet rfl);subst ex1;obtain rfl:u=Value.ref a:=rx;refine qI (X:=X.wish E') I1 ea hcl hmt l ?_;obtain ⟨ρ',F',G',e0',he',r',hw'⟩:=q;rw[fV]at hw';exact PySem.W.callWith_K0 (first:=[.ref a]) I1.kIn hmt.kp (thn (Ik (us:=[.ref a]) (vs:=[.ref a]) F0 S.room hbn hE I1.unwish (.cons rfl .nil) (hw' H1 F' [] (Ext.refl _ _) r' rfl)) λv s2 ⟨H2,I2,q2⟩=>fR ⟨rfl,σ,H2,I2,q2⟩)
  |cons _ _=>cases hes
 |cons e1 es=>
  obtain ⟨x0,xs',rfl,c1,c2⟩:=gM hes;refine gd (wpAny_Expr_any (fT (thn (aB o (S.wish E' hpo) ho pins s σ H _ (I.wish E') key) λu s1 ⟨x,H1,I1,rx,a,dx,fs,ex1,ea,l,q⟩=>?_) (uD rfl ?_ hline)) I.quiet rfl)
  ·subst ex1;obtain rfl:u=Value.ref a:=rx;refine qI (X:=X.wish E') I1 ea hcl hmt l ?_;refine PySem.W.callWith_K (first:=[.ref a]) (h₀:=X.base) I.ok.mod.kin hmt.kp (thn (EachE.oks (dI (.cons x0 xs') (S.wish E' hpo)) hes cpos pins s1 σ H1 _ I1 q) λus s2 ⟨vs,H2,I2,r,q2⟩=>⟨I2.kIn,?_⟩) (cB e1 es X.env (cU (bL x0 c1))) (iK c2 X.env cpos);exact thn (Ik (us:=.ref a::us) (vs:=.ref a::vs) F0 S.room hbn hE I2.unwish (.cons rfl r) q2) λv s3 ⟨H3,I3,q3⟩=>fR ⟨rfl,σ,H3,I3,q3⟩
  ·unfold methodCallForm;rw[all_plain hes X.env cpos];have e0:(if (backToKw cpos (keywordEach [] X.env)).isEmpty=true then 0 else 1)=0:=rfl;rw[e0,a8 (show (e1::es).length+([]:List Keyword).length+0 < 30 by show (e1::es).length+0+0 < 30;omega)];rfl
theorem adp{B:Bs}{c:CT}{E:EK}{X:Cx}(S:Stat Φ (CX1 X.prog X.w) k c E B X):∀(b:Tb){sts:List Stmt},iJ c b sts=true->PXs X sts (tXX X.K B (wpX Φ b))
 |.call _ _,_,h=>nomatch (show false=true from h)
 |.pick f g i es,sts,h=>adn S h
 |.mcl f C m o es,sts,h=>ado S h
 |.mko _ _,_,h=>nomatch (show false=true from h)
 |.asg _ _ _,_,h=>nomatch (show false=true from h)
 |.ite _ _ _,_,h=>nomatch (show false=true from h)
theorem adq(S:Stat Φ CX k c E B X){b:Tb}{C:String}{hd:Hd}{xs:List String}{st:Stmt}(h:aZ c (.tryx b C hd xs) st=true):PS X st (tS X.K B (wpS Φ (.tryx b C hd xs) E)):=by
 obtain ⟨body,cx,p1,nm,y,p2,e,p4,p5,pos,rfl,h1,h2,h3,h4,h5⟩:=ab4 h;simp only[ae,aw]at h4;obtain ⟨⟨ec,hc⟩,hcx⟩:=h4;subst ec;obtain ⟨g3,g4⟩:=dH hc;have hne:c.xs≠[]:=λe=>by rw[e]at hcx;cases hcx
 obtain ⟨ecx,hst,hex⟩:=S.trc hne;subst ecx;obtain ⟨cv,hcv,hall⟩:=S.xis C hcx;have hcat:∃a,cv=.ref a/\X.mg (Str.ofString C)=some (.ref a)/\Cat X.K a:=by
  rcases hcv with ⟨a,e,hm,hb⟩ |⟨e,_,_⟩
  ·exact ⟨a,e,hm,aag hb⟩
  ·rw[e]at h3;cases h3
 obtain ⟨a,rfl,ham,hca⟩:=hcat;unfold uB at h5;rw[ae,ae]at h5;obtain ⟨⟨h5,hsy⟩,hoy⟩:=h5;obtain ⟨hloc,hfn⟩:=S.sto _ hsy;have cls:∀{x:Xn}{H':Hp}{F':FZ}{cv:Value}{od:Option Addr},xs.contains x.cls=true->fQ x.cls C=true->XV X.K H' F' x cv od->∃d,cv=.ref d/\PySem.W.mroIn X.K d (.ref a)=some true/\PySem.W.nsIn X.K mainGlobals (Str.ofString x.cls)=some (some (.ref d)):=by
  intro x H' F' cv od hx hs hv;obtain ⟨d,rfl,hn,_⟩:=hv;obtain ⟨c1,k1,_,k4,_⟩:=hall x.cls (bX.mp h2 _ (a9.mp hx));rw[k1]at hn;have ed:c1=d:=by simpa using hn
  subst ed;rw[hs]at k4;exact ⟨c1,rfl,k4,k1⟩
 cases hd with
 |flag i v=>
  simp only[ae,aw,eA]at h5;obtain ⟨⟨rfl,hi⟩,h6⟩:=h5;obtain ⟨kk,hk,h6⟩:=aH h6;have ek:=ab3 h6;subst hk;rw[ek];refine psI (aah (adp S b h1) hst (S.glo _ g3) ham hca S.nd (by rw[S.N];exact hi) hloc hfn rfl (cz g4)) λD σ H hq=>el hq λρ F G eB he r hw=>?_;rw[tR]at hw;refine ⟨ρ,F,G,eB,he,r,ud b (λρ' G' z H' F' σ' x' he' r'=>z H' F' σ' x' he' r') (λx ρ' G' z H' F' σ' cv od x' he' r' hv=>?_) hw⟩;obtain ⟨z1,z2,z3,z4⟩:=z;obtain ⟨d,e1,e2,_⟩:=cls z2 z3 hv;exact ⟨d,e1,e2,z4 H' F' _ x' (EnvR.set (d:=.bl v) (v:=.bl v) (show V.bl v=.bl v from rfl) i he') r'⟩
 |bind n i=>cases h5
theorem adt{st:List Stmt}(h:aC c .nil st=true):PSs X st (tS X.K B (aq Φ .nil E)):=by
 unfold aC at h;cases st with
 |nil=>exact Ih Wy λD σ H hq=>el hq λρ F G e0 he r hw=>by rw[jy]at hw;exact hw _ _ _ (Ext.refl _ _) he r
 |cons _ _=>cases h
theorem adu{x:Sx}{xs:Sxs}(ih:OkS Φ c E B X x)(ihs:jJ Φ c E B X xs){st:List Stmt}(h:aC c (.cons x xs) st=true):PSs X st (tS X.K B (aq Φ (.cons x xs) E)):=by
 unfold aC at h;split at h
 ·rw[ae]at h;refine Ih (Ck (ih h.1) (ihs h.2)) λD σ H hq=>el hq λρ F G e0 he r hw=>?_;rw[jz]at hw;refine ⟨ρ,F,G,e0,he,r,wpS_mono x (D:={ EnD X.K H F D with nx:=λρ' G'=>aq Φ xs E ρ' G' (EnD X.K H F D) }) ⟨λρ1 G1 q H1 F1 σ1 x1 he1 r1=>?_,λ_ _ z=>z,λ_ _ z=>z,λ_ _ z=>z⟩ hw⟩;exact ⟨ρ1,F1,G1,e0.trans x1,he1,r1,dF xs (EnD.later x1) q⟩
 ·cases h
end
mutual
theorem Il{Φ:aa}{CX:CXT}{k:Nat}{B:Bs}{c:CT}{E:EK}{X:Cx}(S:Stat Φ CX k c E B X):∀(x:Sx),OkS Φ c E B X x
 |.exp e=>by intro h;exact ac8 S h
 |.asg (.nm i) e=>by intro h;exact ac9 S h
 |.asg (.tp ts) e=>by intro h;exact ada S h
 |.set o i e=>by intro h;exact adb S h
 |.aug i op e=>by intro h;exact adc S h
 |.augs o i op e=>by intro h;exact ade S h
 |.ret e=>by intro h;exact adf S h
 |.rtn=>by intro h;exact adg h
 |.ite t a b=>by intro h;exact adh S (iT S a) (iT S b) h
 |.for_ t it b=>by intro h;exact adi S (iT S b) h
 |.whl t b=>by intro h;exact adk S (iT S b) h
 |.pas=>by
  intro h;obtain ⟨_,rfl,_⟩:=aca h;exact psI WF λD σ H hq=>el hq λρ F G e0 he r hw=>by rw[tD]at hw;exact hw _ _ _ (Ext.refl _ _) he r
 |.brk=>by
  intro h;obtain ⟨_,rfl,_⟩:=acb h;exact psI WK λD σ H hq=>el hq λρ F G e0 he r hw=>by rw[tH]at hw;exact hw _ _ _ (Ext.refl _ _) he r
 |.cnt=>by
  intro h;obtain ⟨_,rfl,_⟩:=acd h;exact psI WL λD σ H hq=>el hq λρ F G e0 he r hw=>by rw[tM]at hw;exact hw _ _ _ (Ext.refl _ _) he r
 |.rse C es=>by intro h;exact adl S h
 |.tryc f es C i b=>by intro h;exact adm S h
 |.tryx b C h xs=>by intro hh;exact adq S hh
 |.nev=>by
  intro h;exact psI WY λD σ H hq=>el hq λρ F G e0 he r hw=>by rw[tV]at hw;exact hw.elim
theorem iT{Φ:aa}{CX:CXT}{k:Nat}{B:Bs}{c:CT}{E:EK}{X:Cx}(S:Stat Φ CX k c E B X):∀(x:Sxs),jJ Φ c E B X x
 |.nil=>by intro h;exact adt h
 |.cons s r=>by intro h;exact adu (Il S s) (iT S r) h
end
end RF
namespace L2
open PySem PySem.Spec PyProof.Rows
theorem Fun.okX{P:Program}{w:World}{K:PF}{mg:Str->Option Value}{base:Heap}{CX:CXT}{x qual:Str}{st:Stmt}{f:Addr}{fd:FuncData}{N ps:List Str}{k:Nat}{sp:Sp}(F:Fun K x qual st f fd)(S:FnScope N ps (ak st))(len:∀vs H Q E,sp vs H Q E->vs.length=ps.length)
  (hbody:∀(cdv:Value)(A:Around)(outer:List Env)(s:Shared)(H:Hp)(vs:List V)(Q:VK)(E:XK),Room k (A.deeper (envOfC qual (ak st) s.heap.objs.size f cdv))->sp vs H Q E->
   ∃t,PSs (cQ CX P w K mg base N qual (ak st) f cdv A outer s H E) (aD st) t/\t { nx:=λ_ H'=>Q .non H',rt:=Q } (start N vs) H):FnOk P w K mg base CX (k+1) f fd ps sp:=by
 obtain ⟨oc,od,kV,doc,pm,an,cdv,ct,osl,rfl,lk,hcd⟩:=F.ex;exact Yv lk hcd S len λA outer s H vs Q E hr hsp=>hbody cdv A outer s H vs Q E hr hsp
theorem FnOk.cx{P:Program}{w:World}{K:PF}{mg:Str->Option Value}{base:Heap}{k:Nat}{CX:CXT}{f:Addr}{fd:FuncData}{ps:List Str}{sp:Sp}(F:FnOk P w K mg base CX0 k f fd ps sp):FnOk P w K mg base CX k f fd ps sp:=
 ⟨F.len,λA outer s H args us vs Q E hr he hb hv hs=>codeAny_mono (F.run A outer s H args us vs Q E hr he hb hv hs) λr s' hq=>by
  cases r with
  |error e=>exact False.elim hq
  |ok fl=>cases fl <;> exact hq⟩
end L2
namespace RF
open PySem PySem.Spec PyProof.Rows L2
noncomputable def fnB(N ps:List Str)(sc:Scope):Bool:=
 decide (sc.kind=.function)&&!sc.isCoroutine&&!sc.isGenerator&&eX N&&(N.take ps.length==ps)&&ps.all (λx=>sc.names.lookup x==some .local||sc.names.lookup x==some .cell)&&sc.names.all (λy=>y.2 != .free)
theorem uO{N ps:List Str}{sc:Scope}(h:fnB N ps sc=true):FnScope N ps sc:=by unfold fnB at h;simp only[ae,eS,ci,aw,bX,dc,bne_iff_ne]at h;obtain ⟨⟨⟨⟨⟨⟨h1,h2⟩,h3⟩,h4⟩,h5⟩,h6⟩,h7⟩:=h;exact ⟨h1,h2,h3,yO h4,h5,h6,λy hy=>h7 y hy⟩
structure Bse(Φ:aa)(P:Program)(w:World)(K:PF)(mg:Str->Option Value)(base:Heap)(CX:CXT)(k:Nat)(fs:List (String×Nat))(bt:List String)(cn:List (String×D))(xs:List (String×Bool))(ot:OT):Prop where
 call:∀f n,(f,n)∈fs->∃fa fd ps,FnOk P w K mg base CX k fa fd ps (lift K n (Φ f))/\PySem.W.keepIn K (.ref fa)=true/\Binds K fd ps []/\mg (Str.ofString f)=some (.ref fa)
 blt:∀f,f∈bt->mg (Str.ofString f)=none
 con:∀x d,(x,d)∈cn->∃u v,mg (Str.ofString x)=some u/\RelV v u/\∀H F,Rep K H F d v
 xcl:∀C,xs.contains (C,true)=true->∃a,mg (Str.ofString C)=some (.ref a)/\il K a=true/\PySem.W.nsIn K mainGlobals (Str.ofString C)=some (some (.ref a))
 xis:∀C',xs.contains (C',false)=true->∃cv,CV K mg C' cv/\∀C,xs.contains (C,true)=true->XI K C C' cv
 mth:∀f C m n,(f,C,m,n)∈ot.ms->MthOk Φ P w K mg base CX k f C m n
 mko:∀C n,(C,n)∈ot.ks->MkoOk Φ P w K mg base CX k C n
 fld:∀C f,(C,f)∈ot.fl->yH K C f
def aF(N:List Str)(sc:Scope)(fs:List (String×Nat))(bt:List String)(cn:List (String×D))(xs:List (String×Bool))(ot:OT):CT:={ N:=N,kd:=sc.names,fn:=true,fs:=fs,bt:=bt,cn:=cn,xs:=xs,ot:=ot }
section
variable {Φ:aa} {P:Program} {w:World} {K:PF} {mg:Str->Option Value} {base:Heap} {k:Nat} {fs:List (String×Nat)} {bt:List String} {cn:List (String×D)} {xs:List (String×Bool)} {ot:OT}
theorem Im{N ps:List Str}{sc:Scope}{qual:Str}{f:Addr}{cdv:Value}{A:Around}{outer:List Env}{s:Shared}{H:Hp}{EX:XK}{B:Bs}(T:Bse Φ P w K mg base (CX1 P w) k fs bt cn xs ot)(hs:fnB N ps sc=true)
  (hr:Room k (A.deeper (envOfC qual sc s.heap.objs.size f cdv))):Stat Φ (CX1 P w) k (aF N sc fs bt cn xs ot) noE B (cQ (CX1 P w) P w K mg base N qual sc f cdv A outer s H EX).nox where
 N:=rfl
 nd:=(uO hs).nd
 calm:=rfl
 own:=PassesOwn.never
 kd:=rfl
 vis:=λx h=>by
  have h:iC (sc.names.lookup x)=true:=h;show sc.names.lookup x=_\/sc.names.lookup x=_\/sc.names.lookup x=_;unfold iC at h;split at h <;> first | (cases h;done) |simp_all
 cel:=λx h=>h
 glo:=λx h=>h
 sto:=λx h=>by
  have h:(sc.names.lookup x==some .local||(true&&sc.names.lookup x==some .cell))=true:=h;rw[ft,dc,aw,aw]at h;exact ⟨h,.inl rfl⟩
 room:=hr
 call:=T.call
 blt:=T.blt
 con:=T.con
 exc:=⟨_,Eh _,λ_ _ _ _ _ _ _ _ _ _ q=>q.elim,λ_ _ _ _ h=>h.elim⟩
 nox:=λY=>Eh Y
 xcl:=T.xcl
 loc:=λx h=>h
 xis:=T.xis
 mth:=T.mth
 mko:=T.mko
 fld:=T.fld
 trc:=λ_=>⟨rfl,rfl,rfl⟩
theorem Io{N ps:List Str}{sc:Scope}{qual:Str}{f:Addr}{cdv:Value}{A:Around}{outer:List Env}{s:Shared}{H:Hp}{EX:XK}{B:Bs}{E:EK}(T:Bse Φ P w K mg base (CX1 P w) k fs bt cn xs ot)(hs:fnB N ps sc=true)
  (hr:Room k (A.deeper (envOfC qual sc s.heap.objs.size f cdv))) (hE:∀x G' H' F',E x G'->Ext B.H B.F H' F'->R K H' F' G'->XR K H' F' x EX):Stat Φ (CX1 P w) k (aF N sc fs bt cn xs ot) E B (cQ (CX1 P w) P w K mg base N qual sc f cdv A outer s H EX):=
 have S:=Im (EX:=EX) (B:=B) (qual:=qual) (f:=f) (cdv:=cdv) (A:=A) (outer:=outer) (s:=s) (H:=H) T hs hr
 ⟨S.N,S.nd,S.calm,PassesOwn.leaving,S.kd,S.vis,S.cel,S.glo,S.sto,S.room,S.call,S.blt,S.con,⟨EX,Z4 rfl rfl λ_ _ h=>h,aad rfl rfl λ_ _ h=>h,hE⟩,S.nox,S.xcl,S.loc,S.xis,S.mth,S.mko,S.fld,λ_=>⟨rfl,rfl,rfl⟩⟩
theorem adv{outer:List Env}{H:Hp}{s s':Shared}{e:Value}(h:CX1 P w outer H s (λ_ _ _=>False) e s'):False:=by obtain ⟨_,_,_,_,_,_,_,_,_,q⟩:=h;exact q
def ends(Q:D->DH->Prop):En:={ nx:=λ_ G=>Q .non G,rt:=Q,bk:=λ_ _=>False,ct:=λ_ _=>False }
def env0(ds:List D)(n:Nat):ao:=ds.map some++List.replicate n none
theorem Ip{x qual:Str}{st:Stmt}{f:Addr}{fd:FuncData}(Fu:Fun K x qual st f fd)(T:Bse Φ P w K mg base (CX1 P w) k fs bt cn xs ot){N ps:List Str}{body:Sxs}(S:RF.Spec)(n m:Nat)(hs:fnB N ps (ak st)=true)
  (hc:aC (aF N (ak st) fs bt cn xs ot) body (aD st)=true) (hn:ps.length=n) (hm:N.length=n+m)
  (hw:∀ds G a,ds.length=n->S.pre ds G a->aq Φ body (S.exc a) (env0 ds m) G (ends (S.post a))):FnOk P w K mg base (CX1 P w) (k+1) f fd ps (lift K n S):=by
 refine Fu.okX (uO hs) (λvs H Q E h=>by rw[hn];exact h.1) λcdv A outer s H vs Q EX hr hsp=>?_;obtain ⟨hl,F,G,ds,r,rs,a,h1,h2,h3⟩:=hsp;have St:Stat Φ (CX1 P w) k (aF N (ak st) fs bt cn xs ot) (S.exc a) ⟨H,F⟩ (cQ (CX1 P w) P w K mg base N qual (ak st) f cdv A outer s H EX):=Io T hs hr λx G' H' F' hx e r'=>h3 x G' hx H' F' e r';refine ⟨_,iT St body hc,?_⟩;refine ⟨env0 ds m,F,G,Ext.refl _ _,?_,r,dF body (D:=ends (S.post a)) ⟨λρ G' q=>?_,λd G' q=>h2 d G' q,λ_ _ q=>False.elim q,λ_ _ q=>False.elim q⟩ (hw ds G a (by rw[rs.length];exact hl) h1)⟩
 ·unfold L2.start;rw[show N.length - vs.length=m by omega];exact EnvR.start m rs
 ·intro H' F' σ' x1 _ r1;exact h2 .non G' q H' F' .non x1 r1 rfl
theorem jK{x qual:Str}{st:Stmt}{f:Addr}{fd:FuncData}(Fu:Fun K x qual st f fd)(T:Bse Φ P w K mg base (CX1 P w) k fs bt cn xs ot){N ps:List Str}{body:Sxs}(S:RF.Spec)(n m:Nat)(hs:fnB N ps (ak st)=true)
  (hc:aC (aF N (ak st) fs bt cn xs ot) body (aD st)=true) (hn:ps.length=n) (hm:N.length=n+m)
  (hw:∀ds G a,ds.length=n->S.pre ds G a->aq Φ body noE (env0 ds m) G (ends (S.post a))):FnOk P w K mg base (CX1 P w) (k+1) f fd ps (lift K n S):=by
 refine Fu.okX (uO hs) (λvs H Q E h=>by rw[hn];exact h.1) λcdv A outer s H vs Q EX hr hsp=>?_;obtain ⟨hl,F,G,ds,r,rs,a,h1,h2,h3⟩:=hsp;have St:Stat Φ (CX1 P w) k (aF N (ak st) fs bt cn xs ot) noE ⟨H,F⟩ (cQ (CX1 P w) P w K mg base N qual (ak st) f cdv A outer s H EX).nox:=Im T hs hr;refine ⟨_,(iT St body hc).nox,?_⟩;refine ⟨env0 ds m,F,G,Ext.refl _ _,?_,r,dF body (D:=ends (S.post a)) ⟨λρ G' q=>?_,λd G' q=>h2 d G' q,λ_ _ q=>False.elim q,λ_ _ q=>False.elim q⟩ (hw ds G a (by rw[rs.length];exact hl) h1)⟩
 ·unfold L2.start;rw[show N.length - vs.length=m by omega];exact EnvR.start m rs
 ·intro H' F' σ' x1 _ r1;exact h2 .non G' q H' F' .non x1 r1 rfl
end
def bz(pre:List D->DH->Prop)(post:List D->DH->D->DH->Prop):RF.Spec where
 A:=List D×DH
 pre:=λds G a=>a=(ds,G)/\pre ds G
 post:=λa d G'=>post a.1 a.2 d G'
 exc:=λ_ _ _=>False
theorem bM{pre:List D->DH->Prop}{post:List D->DH->D->DH->Prop}{ds:List D}{G:DH}{k:D->DH->Prop}{E:EK}(h:pre ds G)(hk:∀d G',post ds G d G'->k d G'):(bz pre post).t ds G k E:=
 ⟨(ds,G),⟨rfl,h⟩,hk,λ_ _ z=>z.elim⟩
theorem bQ{Φ:aa}{body:Sxs}{m n:Nat}{pre:List D->DH->Prop}{post:List D->DH->D->DH->Prop}(h:∀ds G,pre ds G->aq Φ body noE (env0 ds m) G (ends (post ds G))):
  ∀ds G a,ds.length=n->(bz pre post).pre ds G a->aq Φ body noE (env0 ds m) G (ends ((bz pre post).post a)):=by
 rintro ds G a _ ⟨rfl,h1⟩;exact h ds G h1
def aM(f:List D->Option D):RF.Spec:=bz (λds _=>(f ds).isSome=true) (λds G d G'=>G'=G/\f ds=some d)
theorem cH{f:List D->Option D}{ds:List D}{d:D}{G:DH}{k:D->DH->Prop}{E:EK}(h:f ds=some d)(hk:k d G):(aM f).t ds G k E:=
 bM (by rw[h];rfl) λd' G' ⟨e1,e2⟩=>by rw[h]at e2;cases e2;rw[e1];exact hk
theorem eZ{Φ:aa}{body:Sxs}{m n:Nat}{f:List D->Option D}(h:∀ds G d,f ds=some d->aq Φ body noE (env0 ds m) G (ends λd' G'=>G'=G/\d'=d)):
  ∀ds G a,ds.length=n->(aM f).pre ds G a->aq Φ body noE (env0 ds m) G (ends ((aM f).post a)):=by
 refine bQ λds G hf=>?_;obtain ⟨d,e⟩:=cK.mp hf;refine dF body (D:=ends λd' G'=>G'=G/\d'=d) ⟨λρ G' q=>?_,λd' G' q=>?_,λ_ _ q=>q,λ_ _ q=>q⟩ (h ds G d e)
 ·exact ⟨q.1,by rw[e];exact fb some q.2.symm⟩
 ·exact ⟨q.1,by rw[e];exact fb some q.2.symm⟩
theorem adw{step:D->ao->DH->(ao->DH->Prop)->Prop}{g:Hld}{items:List D}{ρ:ao}{G:DH}{k:ao->DH->Prop}(P:Nat->ao->DH->Prop)(h0:P 0 ρ G)(hh:∀i ρ G,P i ρ G->held g G)
  (hs:∀i d ρ G,items[i]?=some d->P i ρ G->∀kk:ao->DH->Prop,(∀ρ' G',P (i+1) ρ' G'->kk ρ' G')->step d ρ G kk) (he:∀ρ G,P items.length ρ G->k ρ G):forLoop step g items ρ G k:=by
 have go:∀(l:List D)(i:Nat)(ρ:ao)(G:DH),items.drop i=l->i<=items.length->P i ρ G->forLoop step g l ρ G k:=by
  intro l;induction l with
  |nil=>
   intro i ρ G e hi p;have:i=items.length:=by have:=fb List.length e;rw[bS]at this;simp at this;omega
   subst this;exact ⟨hh _ _ _ p,he _ _ p⟩
  |cons d l ih=>
   intro i ρ G e hi p;have hl:i < items.length:=by
    by_cases h:i < items.length
    ·exact h
    ·rw[List.drop_eq_nil_of_le (by omega)]at e;cases e
   rw[bp hl]at e;injection e with e1 e2;refine ⟨hh _ _ _ p,hs i d ρ G (by rw[aS hl,e1]) p _ λρ' G' p'=>ih (i+1) ρ' G' e2 hl p'⟩
 exact go _ 0 ρ G (by simp) (e7 _) h0
theorem Ir{step:D->ao->DH->(Option D->ao->DH->Prop)->Prop}{g:Hld}{items acc:List D}{ρ:ao}{G:DH}{k:List D->DH->Prop}(P:Nat->List D->ao->DH->Prop)(h0:P 0 acc ρ G)(hh:∀i acc ρ G,P i acc ρ G->held g G)
  (hl:acc.length+items.length<=sz)
  (hs:∀i d acc ρ G,items[i]?=some d->P i acc ρ G->∀kk:Option D->ao->DH->Prop,(∀o ρ' G',P (i+1) (acc++o.toList) ρ' G'->kk o ρ' G')->step d ρ G kk) (he:∀acc ρ G,P items.length acc ρ G->k acc G):compLoop step g items acc ρ G k:=by
 have go:∀(l:List D)(i:Nat)(acc:List D)(ρ:ao)(G:DH),items.drop i=l->i<=items.length->acc.length+l.length<=sz->P i acc ρ G->compLoop step g l acc ρ G k:=by
  intro l;induction l with
  |nil=>
   intro i acc ρ G e hi ha p;have:i=items.length:=by have:=fb List.length e;rw[bS]at this;simp at this;omega
   subst this;exact ⟨hh _ _ _ _ p,by simpa using ha,he _ _ _ p⟩
  |cons d l ih=>
   intro i acc ρ G e hi ha p;have hl:i < items.length:=by
    by_cases h:i < items.length
    ·exact h
    ·rw[List.drop_eq_nil_of_le (by omega)]at e;cases e
   rw[bp hl]at e;injection e with e1 e2;have ha':acc.length+(l.length+1)<=sz:=ha;refine ⟨hh _ _ _ _ p,by omega,hs i d acc ρ G (by rw[aS hl,e1]) p _ λo ρ' G' p'=>?_⟩;cases o with
   |some y=>exact ih (i+1) (acc++[y]) ρ' G' e2 hl (by rw[av];simp;omega) p'
   |none=>exact ih (i+1) acc ρ' G' e2 hl (by omega) (by simpa using p')
 exact go _ 0 acc ρ G (by simp) (e7 _) hl h0
theorem adx{step:D->ao->DH->(Option D->ao->DH->Prop)->Prop}{items:List D}{ρ:ao}{G:DH}{k:List D->DH->Prop}(g:Hld)(f:D->Option D)(I:ao->Prop)(h0:I ρ)(hg:held g G)(hl:items.length<=sz)
  (hs:∀d ρ,d∈items->I ρ->∀kk:Option D->ao->DH->Prop,(∀ρ',I ρ'->kk (f d) ρ' G)->step d ρ G kk) (he:k (items.filterMap f) G):compLoop step g items [] ρ G k:=by
 refine Ir (λi acc ρ' G'=>I ρ'/\G'=G/\acc=(items.take i).filterMap f) ⟨h0,rfl,rfl⟩ (λi acc ρ' G' p=>by rw[p.2.1];exact hg) (by simpa using hl) ?_ ?_
 ·rintro i d acc ρ' G' hd ⟨p1,rfl,rfl⟩ kk hk;refine hs d ρ' (bP hd) p1 kk λρ2 i2=>hk _ _ _ ⟨i2,rfl,?_⟩;rw[eg,hd,List.filterMap_append];congr 1
 ·rintro acc ρ' G' ⟨_,rfl,rfl⟩;rw[et];exact he
theorem ady{step:D->ao->DH->(Option D->ao->DH->Prop)->Prop}{items:List D}{ρ:ao}{G:DH}{k:List D->DH->Prop}(g:Hld)(f:D->D)(I:ao->Prop)(h0:I ρ)(hg:held g G)(hl:items.length<=sz)
  (hs:∀d ρ,d∈items->I ρ->∀kk:Option D->ao->DH->Prop,(∀ρ',I ρ'->kk (some (f d)) ρ' G)->step d ρ G kk) (he:k (items.map f) G):compLoop step g items [] ρ G k:=
 adx g (λd=>some (f d)) I h0 hg hl hs (by rw[<-List.filterMap_eq_map]at he;exact he)
theorem uP{α:Type}(f:α->Bool):∀l:List α,bools (l.map λx=>D.bl (f x))=some (l.map f)
 |[]=>rfl
 |x::l=>by simp[bools,uP f l]
theorem strs_map{α:Type}(f:α->List Nat):∀l:List α,bx (l.map λx=>D.str (f x))=some (l.map f)
 |[]=>rfl
 |x::l=>by simp[bx,strs_map f l]
theorem Iu:∀l:List (List Nat),dX [] l=l.flatten
 |[]=>rfl
 |[x]=>by simp[dX]
 |x::y::r=>by simp[dX,Iu (y::r)]
def Sa(G G':DH):Prop:=∀b o,G b=some o->G' b=some o
def Sb(p:Addr)(G G':DH):Prop:=∀b o,G b=some o->b≠p->G' b=some o
theorem Sa.refl(G:DH):Sa G G:=λ_ _ h=>h
theorem Sb.refl(p:Addr)(G:DH):Sb p G G:=λ_ _ h _=>h
theorem Sa.trans{G G1 G2:DH}(a:Sa G G1)(b:Sa G1 G2):Sa G G2:=λc o h=>b c o (a c o h)
theorem Sb.trans{p:Addr}{G G1 G2:DH}(a:Sb p G G1)(b:Sb p G1 G2):Sb p G G2:=λc o h n=>b c o (a c o h n) n
theorem Sa.sb{p:Addr}{G G':DH}(a:Sa G G'):Sb p G G':=λc o h _=>a c o h
theorem Sa.new{G:DH}{p:Addr}{o:DO}(h:G p=none):Sa G (aK G p o):=λb u e=>by rw[cW (wQ e h)];exact e
theorem Sb.upd{G:DH}{p:Addr}{o:DO}:Sb p G (aK G p o):=λb u e n=>by rw[cW n];exact e
theorem Sa.then{p:Addr}{G G1 G2:DH}(a:Sa G G1)(hp:G p=none)(b:Sb p G1 G2):Sa G G2:=λc o h=>b c o (a c o h) (wQ h hp)
theorem Iv{α:Type}{a:α}{l:List α}:atI (a::l) 0=some a:=bB (j:=0) rfl
theorem Iw{α:Type}{a b:α}{l:List α}:atI (a::b::l) 1=some b:=bB (j:=1) rfl
theorem Iz{α:Type}{a b c:α}{l:List α}:atI (a::b::c::l) 2=some c:=bB (j:=2) rfl
theorem IK{α:Type}{a b c d:α}{l:List α}:atI (a::b::c::d::l) 3=some d:=bB (j:=3) rfl
theorem adz{n j:Nat}(h:j < n):ixN n (j:Int)=some j:=by unfold ixN;rw[if_pos (by omega),if_pos (by omega)];simp
theorem IV{n:Nat}:ixN (n+1) 0=some 0:=by unfold ixN;rw[if_pos (by omega),if_pos (by omega)];rfl
theorem IW{n:Nat}:ixN (n+2) 1=some 1:=by unfold ixN;rw[if_pos (by omega),if_pos (by omega)];rfl
theorem Ja{n:Nat}:ixN (n+3) 2=some 2:=by unfold ixN;rw[if_pos (by omega),if_pos (by omega)];rfl
theorem adA{α:Type}{xs:List α}{i:Int}(h0:0<=i)(h1:i < xs.length):∃a,atI xs i=some a/\a∈xs:=by
 obtain ⟨n,rfl⟩:=c6 h0;have hn:n < xs.length:=by omega
 exact ⟨xs[n],bB (by simp[hn]),cw _⟩
theorem yU{α:Type}(xs:List α)(lo hi:Option Int):(cut xs lo hi).length<=xs.length:=by unfold cut;rw[bb,bS];omega
theorem yV{l:List D}:bO l []=l.isEmpty:=by cases l <;> rfl
theorem jL{α:Type}(l:List α)(n:Nat):cut l none (some (n:Int))=l.take n:=by
 unfold cut;rw[show HT.sIx l.length 0 none=0 from rfl,HT.De,List.drop_zero,Nat.sub_zero];by_cases h:n<=l.length
 ·rw[Nat.min_eq_left h]
 ·rw[gc (by omega),eh (ay _),eh (by omega)]
theorem Jb{α:Type}(l:List α)(n:Nat):cut l (some (n:Int)) none=l.drop n:=by
 unfold cut;rw[show HT.sIx l.length l.length none=l.length from rfl,HT.De];by_cases h:n<=l.length
 ·rw[Nat.min_eq_left h,eh (by rw[bS];exact ay _)]
 ·rw[gc (by omega),Nat.sub_self,List.take_zero,List.drop_eq_nil_of_le (by omega)]
theorem uQ{α:Type}(l:List α)(n:Nat):cut l (some ((n:Int)+1)) none=l.drop (n+1):=Jb l (n+1)
theorem yW:∀{l:List D},(∀d∈l,nr d=true)->nrs l=true
 |[],_=>rfl
 |a::l,h=>by rw[nrs,h a cp,yW λd hd=>h d (ca _ hd)];rfl
theorem Jc{α:Type}{motive:List α->Prop}(l:List α)(nil:motive [])(snoc:∀(l:List α)(a:α),motive l->motive (l++[a])):motive l:=by
 have go:∀(n:Nat)(l:List α),l.length=n->motive l:=by
  intro n;induction n with
  |zero=>intro l h;rw[de.mp h];exact nil
  |succ n ih=>
   intro l h;have hne:l≠[]:=by rintro rfl;simp at h
   rw[<-dy hne];exact snoc _ _ (ih _ (by rw[List.length_dropLast];omega))
 exact go _ l rfl
section
variable {G:DH} {k:D->DH->Prop} {fz:Bool} {kb:Bool->Prop} {kd:D->Prop} {p:Addr}
theorem Jd{i j:Int}:cC .Add fz (.int i) (.int j) G k=k (.int (i+j)) G:=rfl
theorem Jf{x y:List Nat}:cC .Add fz (.str x) (.str y) G k=(x.length+y.length<=sz/\k (.str (x++y)) G):=rfl
theorem Jg{x y:List D}:cC .Add fz (.lst x) (.lst y) G k=(x.length+y.length<=sz/\mk fz (x++y) G k):=rfl
theorem Jh{x y:List D}:cC .Add fz (.tup x) (.tup y) G k=(x.length+y.length<=sz/\k (.tup (x++y)) G):=rfl
theorem Ji{i j:Int}:cC .Sub fz (.int i) (.int j) G k=k (.int (i - j)) G:=rfl
theorem Jj{i j:Int}:cC .Mult fz (.int i) (.int j) G k=(CMul i j/\k (.int (i * j)) G):=rfl
theorem Jl{x:List D}{n:Int}:cC .Mult fz (.tup x) (.int n) G k=(2<=n/\n<=1000/\x≠[]/\x.length * n.toNat<=sz/\k (.tup (reps x n.toNat)) G):=rfl
theorem Jm{x:List D}{n:Int}:cC .Mult fz (.lst x) (.int n) G k=(0<=n/\n<=1000/\x.length * n.toNat<=sz/\mk fz (reps x n.toNat) G k):=rfl
theorem Jo{x:List Nat}{n:Int}:cC .Mult fz (.str x) (.int n) G k=(0<=n/\n<=1000/\x.length * n.toNat<=sz/\k (.str (reps x n.toNat)) G):=rfl
theorem Jp{i j:Int}:cC .FloorDiv fz (.int i) (.int j) G k=((0 < j/\j < 1152921504606846976)/\k (.int (i / j)) G):=rfl
theorem Jq{i j:Int}:cC .Mod fz (.int i) (.int j) G k=(0 < j/\k (.int (i % j)) G):=rfl
theorem Jr{i j:Int}:cC .Pow fz (.int i) (.int j) G k=(qF i j/\k (.int (i ^ j.toNat)) G):=rfl
def fj:D->Bool
 |.non=>true
 |_=>false
theorem Js{a b:D}:aY .Eq a b kb=((nr a=true/\nr b=true/\min (dpt a) (dpt b)<=60)/\kb (deq a b)):=rfl
theorem Jt{a b:D}:aY .NotEq a b kb=((nr a=true/\nr b=true/\min (dpt a) (dpt b)<=60)/\kb (!deq a b)):=rfl
theorem Ju{i j:Int}:aY .Lt (.int i) (.int j) kb=kb (decide (i < j)):=rfl
theorem Jv{i j:Int}:aY .LtE (.int i) (.int j) kb=kb (decide (i<=j)):=rfl
theorem Jw{i j:Int}:aY .Gt (.int i) (.int j) kb=kb (decide (j < i)):=rfl
theorem Jx{i j:Int}:aY .GtE (.int i) (.int j) kb=kb (decide (j<=i)):=rfl
theorem Jy{i j:List Nat}:aY .Lt (.str i) (.str j) kb=kb (decide (i < j)):=rfl
theorem JB{i j:List Nat}:aY .LtE (.str i) (.str j) kb=kb (!decide (j < i)):=rfl
theorem JC{a:D}:aY .Is a .non kb=kb (fj a):=by cases a <;> rfl
theorem JD{a:D}:aY .IsNot a .non kb=kb (!fj a):=by cases a <;> rfl
theorem JF{a b:Bool}:aY .Is (.bl a) (.bl b) kb=kb (a==b):=rfl
theorem JG{a b:Bool}:aY .IsNot (.bl a) (.bl b) kb=kb (a != b):=rfl
theorem JH{c:Nat}{l:List Nat}:aY .In (.str [c]) (.str l) kb=kb (l.contains c):=rfl
theorem JK{c:Nat}{l:List Nat}:aY .NotIn (.str [c]) (.str l) kb=kb (!l.contains c):=rfl
theorem JL{a:D}{l:List D}:aY .In a (.lst l) kb=((nr a=true/\nrs l=true/\aX l<=60)/\kb (isIn a l)):=rfl
theorem JM{a:D}{l:List D}:aY .In a (.tup l) kb=((nr a=true/\nrs l=true/\aX l<=60)/\kb (isIn a l)):=rfl
theorem JN{a:D}{l:List D}:aY .NotIn a (.lst l) kb=((nr a=true/\nrs l=true/\aX l<=60)/\kb (!isIn a l)):=rfl
theorem JP{a:D}{l:List D}:aY .NotIn a (.tup l) kb=((nr a=true/\nrs l=true/\aX l<=60)/\kb (!isIn a l)):=rfl
theorem JQ{i:Int}:fj (.int i)=false:=rfl
theorem JR{i:Bool}:fj (.bl i)=false:=rfl
theorem JS{i:List Nat}:fj (.str i)=false:=rfl
theorem JT{i:List D}:fj (.tup i)=false:=rfl
theorem JV{i:List D}:fj (.lst i)=false:=rfl
theorem JW{i:Addr}:fj (.ref i)=false:=rfl
theorem JX:fj .non=true:=rfl
def bj{α:Type}(o:Option α)(k:α->Prop):Prop:=match o with |some a=>k a |none=>False
theorem JZ{α:Type}{a:α}{k:α->Prop}:bj (some a) k=k a:=rfl
theorem bG{α:Type}{o:Option α}{a:α}{k:α->Prop}(e:o=some a)(h:k a):bj o k:=by rw[e];exact h
theorem uR{α:Type}{xs:List α}{i:Int}{k:α->Prop}(h0:0<=i)(h1:i < xs.length)(h:∀a,a∈xs->k a):bj (atI xs i) k:=by obtain ⟨a,e,m⟩:=adA h0 h1;exact bG e (h a m)
theorem J0{ds:List D}{i:Int}:cD (.lst ds) (.int i) kd=bj (atI ds i) kd:=by unfold cD bj;(try dsimp only) <;> (cases atI ds i <;> rfl)
theorem J1{ds:List D}{i:Int}:cD (.tup ds) (.int i) kd=bj (atI ds i) kd:=by unfold cD bj;(try dsimp only) <;> (cases atI ds i <;> rfl)
theorem J2{l:List Nat}{i:Int}:cD (.str l) (.int i) kd=bj (atI l i) (λc=>kd (.str [c])):=by unfold cD bj;(try dsimp only) <;> (cases atI l i <;> rfl)
theorem J5{ds:List D}{lo hi:Option Int}:dW fz (.lst ds) lo hi G k=mk fz (cut ds lo hi) G k:=rfl
theorem J6{ds:List D}{y:D}:jw fz (.lst ds) y G k=(y=.int (-1)/\mk fz ds.reverse G k):=rfl
theorem J7{ds:List Int}{lo hi:Option Int}:dW fz (.scr ds) lo hi G k=mk fz ((cut ds lo hi).map .int) G k:=rfl
theorem J8{ds:List D}{lo hi:Option Int}:dW fz (.tup ds) lo hi G k=k (.tup (cut ds lo hi)) G:=rfl
theorem J9{ds:List Nat}{lo hi:Option Int}:dW fz (.str ds) lo hi G k=k (.str (cut ds lo hi)) G:=rfl
theorem Ka{ds:List D}:opB .len [.lst ds] kd=kd (.int ds.length):=rfl
theorem Kc{ds:List D}:opB .len [.tup ds] kd=kd (.int ds.length):=rfl
theorem Kd{ds:List Nat}:opB .len [.str ds] kd=kd (.int ds.length):=rfl
theorem Ke{ds:List D}:opB .all [.lst ds] kd=bj (bools ds) (λbs=>kd (.bl (bs.all id))):=by unfold opB qT bj;(try dsimp only) <;> (cases bools ds <;> rfl)
theorem Kf{b:Bool}:opB .int [.bl b] kd=kd (.int (if b then 1 else 0)):=rfl
theorem Kg{b:Int}:opB .int [.int b] kd=kd (.int b):=rfl
theorem Kh{l:List Nat}:opB .int [.str l] kd=bj (PySem.intText? (tx l)) (λn=>l.length<=640/\kd (.int n)):=by unfold opB qU bj;(try dsimp only) <;> (cases PySem.intText? (tx l) <;> rfl)
theorem Kl{ds:List D}:opB .sum [.lst ds] kd=bj (cj ds) (λns=>kd (.int ns.sum)):=by unfold opB wZ bj;(try dsimp only) <;> (cases cj ds <;> rfl)
theorem Km{a:Int}:opB .str [.int a] kd=((0<=a/\a < 100)/\kd (.str (gC a.toNat))):=rfl
theorem Ko{a:Int}:opB .abs [.int a] kd=kd (.int (if a < 0 then -a else a)):=rfl
theorem Kp{a b:Int}:opB .min2 [.int a,.int b] kd=kd (.int (if b < a then b else a)):=rfl
theorem Kq{a b:Int}:opB .max [.int a,.int b] kd=kd (.int (if b > a then b else a)):=rfl
theorem Kr{ds:List D}{kl:List D->Prop}:cR .sorted [.tup ds] kl=bj (cj ds) (λns=>ns.length < 64/\∀ns':List Int,ns'.Perm ns->ns'.Pairwise (·<=·)->kl (ns'.map D.int)):=by unfold cR qW bj;(try dsimp only) <;> (cases cj ds <;> rfl)
theorem Ks{ds:List D}{kl:List D->Prop}:cR .sorted [.lst ds] kl=bj (bx ds) (λls=>ls.length < 64/\∀ls':List (List Nat),ls'.Perm ls->PyProof.Rows.sortedS (ls'.map tx)=true->kl (ls'.map D.str)):=by unfold cR qW bj;(try dsimp only) <;> (cases bx ds <;> rfl)
theorem Ku{ds:List D}:opB .tuple [.lst ds] kd=kd (.tup ds):=rfl
theorem Kv{ds:List D}:opB .tuple [.tup ds] kd=kd (.tup ds):=rfl
theorem Kw{ds:List D}{kl:List D->Prop}:cR .list [.lst ds] kl=kl ds:=rfl
theorem Ky{ds:List D}{kl:List D->Prop}:cR .list [.tup ds] kl=kl ds:=rfl
theorem Kz{l:List Nat}{kl:List D->Prop}:cR .list [.str l] kl=kl (l.map λc=>.str [c]):=rfl
theorem KC{s:List Nat}{ds:List D}:opM .join (.str s) [.lst ds] G k=bj (bx ds) (λls=>((ls.map (·.length)).sum+ls.length * s.length<=sz)/\k (.str (dX s ls)) G):=by unfold opM qX bj;(simp only[bo,dk,view]) <;> (cases bx ds <;> rfl)
def trk(G:DH)(p:Addr)(k:List D->Prop):Prop:=match G p with |some (.lst ds)=>k ds |none=>False
theorem bZ{ds:List D}{k:List D->Prop}(e:G p=some (.lst ds)):trk G p k=k ds:=by unfold trk;rw[e]
theorem KD{x:D}:opM .append (.ref p) [x] G k=trk G p (λds=>ds.length < sz/\k .non (aK G p (.lst (ds++[x])))):=by unfold opM qY trk;(try dsimp only) <;> (cases G p <;> first |rfl | (rename_i o;cases o;rfl))
theorem KH{x:D}{i:Int}:opM .insert (.ref p) [.int i,x] G k=trk G p (λds=>ds.length < sz/\0<=i/\i<=1000000/\k .non (aK G p (.lst (ds.take i.toNat++x::ds.drop i.toNat)))):=by unfold opM q8 trk;(try dsimp only) <;> (cases G p <;> first |rfl | (rename_i o;cases o;rfl))
theorem KJ:recv .insert (.ref p) G=trk G p (λ_=>True):=by unfold recv trk;(try dsimp only) <;> (cases G p <;> first |rfl | (rename_i o;cases o;rfl))
theorem KN{xs:List D}:opM .extend (.ref p) [.lst xs] G k=trk G p (λds=>ds.length+xs.length < sz/\k .non (aK G p (.lst (ds++xs)))):=by unfold opM qZ trk;(simp only[bo,dk,view]) <;> (cases G p <;> first |rfl | (rename_i o;cases o;rfl))
theorem KQ{ds:List D}:opM .count (.lst ds) [.bl true] G k=bj (bools ds) (λbs=>k (.int (bs.count true:Nat)) G):=by unfold opM q9 bj;(try dsimp only[view]) <;> (cases bools ds <;> rfl)
theorem KR{ds:List D}:opM .index (.lst ds) [.bl true] G k=bj (bools ds) (λbs=>true∈bs/\k (.int (bs.idxOf true:Nat)) G):=by unfold opM rm bj;(try dsimp only[view]) <;> (cases bools ds <;> rfl)
theorem KY{ds:List D}:recv .count (.lst ds) G=True:=rfl
theorem KZ{ds:List D}:recv .index (.lst ds) G=True:=rfl
theorem K1{s:List Nat}:recv .join (.str s) G=True:=rfl
theorem K5:recv .append (.ref p) G=trk G p (λ_=>True):=by unfold recv trk;(try dsimp only) <;> (cases G p <;> first |rfl | (rename_i o;cases o;rfl))
theorem K6:recv .extend (.ref p) G=trk G p (λ_=>True):=by unfold recv trk;(try dsimp only) <;> (cases G p <;> first |rfl | (rename_i o;cases o;rfl))
theorem K7{i:Int}{x:D}{kg:DH->Prop}:dY (.ref p) (.int i) x G kg=trk G p (λds=>bj (ixN ds.length i) (λj=>kg (aK G p (.lst (ds.set j x))))):=by
 unfold dY trk bj
 (try dsimp only) <;> (cases G p <;> first |rfl | (rename_i o;cases o;(try dsimp only) <;> (rename_i ds;cases ixN ds.length i <;> rfl)))
theorem K8{i j:Int}:dC .Add (.int i) (.int j) kd=kd (.int (i+j)):=rfl
theorem K9{x y:List Nat}:dC .Add (.str x) (.str y) kd=(x.length+y.length<=sz/\kd (.str (x++y))):=rfl
theorem La{i j:Int}:dC .Sub (.int i) (.int j) kd=kd (.int (i - j)):=rfl
theorem Lb{xs:List D}:mk true xs G k=k (.lst xs) G:=rfl
theorem Ld{xs:List D}:mk false xs G k=∀p,G p=none->k (.ref p) (aK G p (.lst xs)):=rfl
theorem Lg:view G .non=.non:=rfl
theorem Lh{b:Bool}:view G (.bl b)=.bl b:=rfl
theorem Li{b:Int}:view G (.int b)=.int b:=rfl
theorem Lj{b:List Nat}:view G (.str b)=.str b:=rfl
theorem Lk{b:List D}:view G (.tup b)=.tup b:=rfl
theorem Ln{b:List D}:view G (.lst b)=.lst b:=rfl
theorem Lp{C f:String}{q:Addr}:view G (.obj C f q)=.obj C f q:=rfl
theorem Lq{b:String}:view G (.exn b)=.exn b:=rfl
theorem Lr{b:List Int}:view G (.scr b)=.scr b:=rfl
theorem bR{ds:List D}(e:G p=some (.lst ds)):view G (.ref p)=.lst ds:=by unfold view;dsimp only;rw[e]
theorem Ls:truth .non=some false:=rfl
theorem Lw{b:Bool}:truth (.bl b)=some b:=rfl
theorem Lx{i:Int}:truth (.int i)=some (i != 0):=rfl
theorem Ly{l:List Nat}:truth (.str l)=some (!l.isEmpty):=rfl
theorem Lz{l:List D}:truth (.tup l)=some (!l.isEmpty):=rfl
theorem LC{l:List D}:truth (.lst l)=some (!l.isEmpty):=rfl
theorem LK{l:List D}:itemsOf G (.lst l)=some (l,[]):=rfl
theorem LQ{l:List D}:itemsOf G (.tup l)=some (l,[]):=rfl
theorem LR{l:List Nat}:itemsOf G (.str l)=some (l.map λc=>.str [c],[]):=rfl
theorem Ma{ds:List D}(e:G p=some (.lst ds)):itemsOf G (.ref p)=some (ds,[(p,ds)]):=by unfold itemsOf;dsimp only;rw[e]
theorem Mg{t:String}:isT t .non=some false:=rfl
theorem Mh {t:String} {b:Bool}:isT t (.bl b)=some (t=="bool"||t=="int"):=rfl
theorem Mi {t:String} {b:Int}:isT t (.int b)=some (t=="int"):=rfl
theorem Mj {t:String} {b:List Nat}:isT t (.str b)=some (t=="str"):=rfl
theorem is_tup {t:String} {b:List D}:isT t (.tup b)=some (t=="tuple"):=rfl
theorem Ml {t:String} {b:List D}:isT t (.lst b)=some (t=="list"):=rfl
theorem Mm{i:Nat}{d:D}{ρ:ao}{kr:ao->Prop}:bc (.nm i) d ρ G kr=kr (ρ.set i (some d)):=rfl
theorem Mp{ts:Tgs}{ds:List D}{ρ:ao}{kr:ao->Prop}:bc (.tp ts) (.lst ds) ρ G kr=bK ts ds ρ G kr:=rfl
theorem Mq{ts:Tgs}{ds:List D}{ρ:ao}{kr:ao->Prop}:bc (.tp ts) (.tup ds) ρ G kr=bK ts ds ρ G kr:=rfl
theorem Mr{ρ:ao}{kr:ao->Prop}:bK .nil [] ρ G kr=kr ρ:=rfl
theorem Ms{t:Tg}{r:Tgs}{d:D}{ds:List D}{ρ:ao}{kr:ao->Prop}:bK (.cons t r) (d::ds) ρ G kr=bc t d ρ G (λρ'=>bK r ds ρ' G kr):=rfl
theorem Mt:deq .non .non=true:=rfl
theorem Mu  {y:Bool}:deq .non (.bl y)=false:=rfl
theorem Mv  {y:Int}:deq .non (.int y)=false:=rfl
theorem Mw  {y:List Nat}:deq .non (.str y)=false:=rfl
theorem Mx  {y:List D}:deq .non (.tup y)=false:=rfl
theorem My  {y:List D}:deq .non (.lst y)=false:=rfl
theorem Mz{x:Bool} :deq (.bl x) .non=false:=rfl
theorem MF{x:Bool}{y:Bool}:deq (.bl x) (.bl y)=(x==y):=by rw[deq]
theorem MJ{x:Bool}{y:List Nat}:deq (.bl x) (.str y)=false:=rfl
theorem MK{x:Bool}{y:List D}:deq (.bl x) (.tup y)=false:=rfl
theorem MN{x:Bool}{y:List D}:deq (.bl x) (.lst y)=false:=rfl
theorem MP{x:Int} :deq (.int x) .non=false:=rfl
theorem MT{x:Int}{y:Int}:deq (.int x) (.int y)=(x==y):=by rw[deq]
theorem M4{x:Int}{y:List Nat}:deq (.int x) (.str y)=false:=rfl
theorem M5{x:Int}{y:List D}:deq (.int x) (.tup y)=false:=rfl
theorem M6{x:Int}{y:List D}:deq (.int x) (.lst y)=false:=rfl
theorem M7{x:List Nat} :deq (.str x) .non=false:=rfl
theorem M8{x:List Nat}{y:Bool}:deq (.str x) (.bl y)=false:=rfl
theorem M9{x:List Nat}{y:Int}:deq (.str x) (.int y)=false:=rfl
theorem Nb{x:List Nat}{y:List Nat}:deq (.str x) (.str y)=(x==y):=by rw[deq]
theorem Nf{x:List Nat}{y:List D}:deq (.str x) (.tup y)=false:=rfl
theorem Ng{x:List Nat}{y:List D}:deq (.str x) (.lst y)=false:=rfl
theorem Nh{x:List D} :deq (.tup x) .non=false:=rfl
theorem Ni{x:List D}{y:Bool}:deq (.tup x) (.bl y)=false:=rfl
theorem Nj{x:List D}{y:Int}:deq (.tup x) (.int y)=false:=rfl
theorem Nk{x:List D}{y:List Nat}:deq (.tup x) (.str y)=false:=rfl
theorem Nm{x:List D}{y:List D}:deq (.tup x) (.tup y)=bO x y:=by rw[deq]
theorem Np{x:List D}{y:List D}:deq (.tup x) (.lst y)=false:=rfl
theorem Nq{x:List D} :deq (.lst x) .non=false:=rfl
theorem Nr{x:List D}{y:Bool}:deq (.lst x) (.bl y)=false:=rfl
theorem Nt{x:List D}{y:Int}:deq (.lst x) (.int y)=false:=rfl
theorem Nu{x:List D}{y:List Nat}:deq (.lst x) (.str y)=false:=rfl
theorem Nv{x:List D}{y:List D}:deq (.lst x) (.tup y)=false:=rfl
theorem Nx{x:List D}{y:List D}:deq (.lst x) (.lst y)=bO x y:=by rw[deq]
theorem Ny:bO [] []=true:=rfl
theorem Nz{a b:D}{as bs:List D}:bO (a::as) (b::bs)=(deq a b&&bO as bs):=by rw[bO]
theorem NB{b:D}{bs:List D}:bO [] (b::bs)=false:=rfl
theorem NK{b:D}{bs:List D}:bO (b::bs) []=false:=rfl
theorem NQ :nr .non=true:=rfl
theorem NT :dpt .non=0:=rfl
theorem NZ{x:Bool}:nr (.bl x)=true:=rfl
theorem N5{x:Bool}:dpt (.bl x)=0:=rfl
theorem N6{x:Int}:nr (.int x)=true:=rfl
theorem N7{x:Int}:dpt (.int x)=0:=rfl
theorem N8{x:List Nat}:nr (.str x)=true:=rfl
theorem Oa{x:List Nat}:dpt (.str x)=0:=rfl
theorem Ob{x:List D}:nr (.tup x)=nrs x:=by rw[nr]
theorem Oc{x:List D}:dpt (.tup x)=aX x+1:=by rw[dpt]
theorem Od{x:List D}:nr (.lst x)=nrs x:=by rw[nr]
theorem Oe{x:List D}:dpt (.lst x)=aX x+1:=by rw[dpt]
theorem Og:nrs []=true:=rfl
theorem Oh{a:D}{l:List D}:nrs (a::l)=(nr a&&nrs l):=by rw[nrs]
theorem Oi:aX []=0:=rfl
theorem Oj{a:D}{l:List D}:aX (a::l)=max (dpt a) (aX l):=by rw[aX]
end
theorem seq{Φ:aa}{s:Sx}{r:Sxs}{E:EK}{ρ:ao}{G:DH}{D:En}(h:∀M:ao->DH->Prop,(∀ρ' G',aq Φ r E ρ' G' D->M ρ' G')->wpS Φ s E ρ G { D with nx:=M }):aq Φ (.cons s r) E ρ G D:=by rw[jz];exact h _ λ_ _ x=>x
theorem last{Φ:aa}{s:Sx}{E:EK}{ρ:ao}{G:DH}{D:En}(h:wpS Φ s E ρ G D):aq Φ (.cons s .nil) E ρ G D:=by rw[jz];exact wpS_mono s (D:=D) (D':={ D with nx:=λρ' G'=>aq Φ .nil E ρ' G' D }) ⟨λρ' G' q=>(show aq Φ .nil E ρ' G' D from by rw[jy];exact q),λ_ _ q=>q,λ_ _ q=>q,λ_ _ q=>q⟩ h
theorem done{Φ:aa}{E:EK}{ρ:ao}{G:DH}{D:En}(h:D.nx ρ G):aq Φ .nil E ρ G D:=by rw[jy];exact h
section
variable {Φ:aa} {E:EK} {ρ:ao} {G:DH}
def ForG(Φ:aa)(t:Tg)(body:Sxs)(E:EK)(D:En)(items:List RF.D)(g:Hld)(ρ:ao)(G:DH):Prop:=
 forLoop (λd ρ' G' k=>bc t d ρ' G' λρ1=>aq Φ body E ρ1 G' { D with nx:=k,ct:=k,bk:=D.nx }) g items ρ G D.nx
theorem Ol{t:Tg}{it:It'}{body:Sxs}{D:En}:wpS Φ (.for_ t it body) E ρ G D=wpI Φ it E ρ G λitems g G1=>ForG Φ t body E D items g ρ G1:=rfl
theorem ForG.inv{t:Tg}{body:Sxs}{D:En}{items:List RF.D}{g:Hld}(P:Nat->ao->DH->Prop)(h0:P 0 ρ G)(hh:∀i ρ G,P i ρ G->held g G)
  (hs:∀i d ρ G,items[i]?=some d->P i ρ G->∀kk:ao->DH->Prop,(∀ρ' G',P (i+1) ρ' G'->kk ρ' G')->bc t d ρ G λρ1=>aq Φ body E ρ1 G { D with nx:=kk,ct:=kk,bk:=D.nx })
  (he:∀ρ G,P items.length ρ G->D.nx ρ G):ForG Φ t body E D items g ρ G:=adw P h0 hh hs he
def CompG(Φ:aa)(elt:Ex)(tg:Tg)(cond:Tx)(items:List D)(g:Hld)(ρ:ao)(G:DH)(k:List D->DH->Prop):Prop:=
 compLoop (λd ρ' G' k'=>bc tg d ρ' G' λρ1=>wpT Φ cond noE ρ1 G' λb G2=>match b with |true=>wpE Φ elt noE ρ1 G2 λy G3=>k' (some y) ρ1 G3 |false=>k' none ρ1 G2) g items [] ρ G k
def jM(cap:List (Option Nat))(ρ:ao):ao:=cap.map λo=>match o with |none=>none |some j=>(ρ[j]?).join
theorem Om{ρ:ao}:jM [] ρ=[]:=rfl
theorem Oo{cap:List (Option Nat)}{ρ:ao}:jM (none::cap) ρ=none::jM cap ρ:=rfl
theorem Oq{cap:List (Option Nat)}{ρ:ao}{j:Nat}:jM (some j::cap) ρ=(ρ[j]?).join::jM cap ρ:=rfl
theorem Ot{fz:Bool}{elt:Ex}{tg:Tg}{it:It'}{cond:Tx}{N:List String}{cap:List (Option Nat)}{k:D->DH->Prop}:
  wpE Φ (.comp fz elt tg it cond N cap) E ρ G k=wpI Φ it E ρ G λitems g G1=>CompG Φ elt tg cond items g (jM cap ρ) G1 λds G2=>mk fz ds G2 k:=rfl
theorem CompG.inv{elt:Ex}{tg:Tg}{cond:Tx}{items:List D}{g:Hld}{k:List D->DH->Prop}(P:Nat->List D->ao->DH->Prop)(h0:P 0 [] ρ G)(hh:∀i acc ρ G,P i acc ρ G->held g G)(hl:items.length<=sz)
  (hs:∀i d acc ρ G,items[i]?=some d->P i acc ρ G->∀kk:Option D->ao->DH->Prop,(∀o ρ' G',P (i+1) (acc++o.toList) ρ' G'->kk o ρ' G')->
   bc tg d ρ G λρ1=>wpT Φ cond noE ρ1 G λb G2=>match b with |true=>wpE Φ elt noE ρ1 G2 λy G3=>kk (some y) ρ1 G3 |false=>kk none ρ1 G2)
  (he:∀acc ρ G,P items.length acc ρ G->k acc G):CompG Φ elt tg cond items g ρ G k:=Ir P h0 hh (by simpa using hl) hs he
theorem CompG.map{elt:Ex}{tg:Tg}{cond:Tx}{items:List D}{g:Hld}{k:List D->DH->Prop}(f:D->D)(I:ao->Prop)(h0:I ρ)(hg:held g G)(hl:items.length<=sz)
  (hs:∀d ρ,d∈items->I ρ->∀kk:Option D->ao->DH->Prop,(∀ρ',I ρ'->kk (some (f d)) ρ' G)->bc tg d ρ G λρ1=>wpT Φ cond noE ρ1 G λb G2=>match b with |true=>wpE Φ elt noE ρ1 G2 λy G3=>kk (some y) ρ1 G3 |false=>kk none ρ1 G2)
  (he:k (items.map f) G):CompG Φ elt tg cond items g ρ G k:=ady g f I h0 hg hl hs he
def adB(Φ:aa)(c:Tx)(body:Sxs)(E:EK)(D:En)(n:Nat)(ρ:ao)(G:DH):Prop:=
 whileLoop (λρ' G' k=>wpT Φ c E ρ' G' k) (λρ' G' k=>aq Φ body E ρ' G' { D with nx:=k,ct:=k,bk:=D.nx }) n ρ G D.nx
theorem Ou{c:Tx}{body:Sxs}{D:En}:wpS Φ (.whl c body) E ρ G D=∃n,adB Φ c body E D n ρ G:=rfl
end
theorem len0{α:Type}{l:List α}(h:l.length=0):l=[]:=de.mp h
theorem uT{α:Type}{n:Nat}{l:List α}(h:l.length=n+1):∃a r,l=a::r/\r.length=n:=by
 cases l with
 |nil=>cases h
 |cons a r=>exact ⟨a,r,rfl,Nat.succ.inj h⟩
theorem cI{α:Type}{l:List α}(h:l.length=1):∃a,l=[a]:=by obtain ⟨a,r,rfl,h2⟩:=uT h;cases len0 h2;exact ⟨a,rfl⟩
theorem aQ{α:Type}{l:List α}(h:l.length=2):∃a b,l=[a,b]:=by obtain ⟨a,r,rfl,h2⟩:=uT h;obtain ⟨b,rfl⟩:=cI h2;exact ⟨a,b,rfl⟩
theorem c7{α:Type}{l:List α}(h:l.length=3):∃a b c,l=[a,b,c]:=by obtain ⟨a,r,rfl,h2⟩:=uT h;obtain ⟨b,c,rfl⟩:=aQ h2;exact ⟨a,b,c,rfl⟩
theorem Ov{α:Type}{l:List α}(h:l.length=4):∃a b c d,l=[a,b,c,d]:=by obtain ⟨a,r,rfl,h2⟩:=uT h;obtain ⟨b,c,d,rfl⟩:=c7 h2;exact ⟨a,b,c,d,rfl⟩
structure Fo(Φ:aa)(P:Program)(w:World)(K:PF)(mg:Str->Option Value)(base:Heap)(k:Nat)(f:String)(n:Nat):Prop where
 ex:∃fa fd ps,FnOk P w K mg base (CX1 P w) k fa fd ps (lift K n (Φ f))/\PySem.W.keepIn K (.ref fa)=true/\Binds K fd ps []/\mg (Str.ofString f)=some (.ref fa)
section
variable {Φ:aa} {P:Program} {w:World} {K:PF} {mg:Str->Option Value} {base:Heap} {k:Nat} {xs:List (String×Bool)} {ot:OT}
noncomputable def AllF(Φ:aa)(P:Program)(w:World)(K:PF)(mg:Str->Option Value)(base:Heap)(k:Nat):List (String×Nat)->Prop
 |[]=>True
 | (f,n)::r=>Fo Φ P w K mg base k f n/\AllF Φ P w K mg base k r
noncomputable def AllB(mg:Str->Option Value):List String->Prop
 |[]=>True
 |f::r=>mg (Str.ofString f)=none/\AllB mg r
noncomputable def AllC(K:PF)(mg:Str->Option Value):List (String×D)->Prop
 |[]=>True
 | (x,d)::r=>(∃u v,mg (Str.ofString x)=some u/\RelV v u/\∀H F,Rep K H F d v)/\AllC K mg r
theorem AllF.get:∀{fs:List (String×Nat)}{f:String}{n:Nat},AllF Φ P w K mg base k fs->(f,n)∈fs->Fo Φ P w K mg base k f n
 | (f',n')::r,f,n,h,m=>by
  rcases bi.mp m with e |m
  ·cases e;exact h.1
  ·exact AllF.get h.2 m
theorem AllB.get:∀{fs:List String}{f:String},AllB mg fs->f∈fs->mg (Str.ofString f)=none
 |f'::r,f,h,m=>by
  rcases bi.mp m with e |m
  ·cases e;exact h.1
  ·exact AllB.get h.2 m
theorem AllC.get:∀{fs:List (String×D)}{x:String}{d:D},AllC K mg fs->(x,d)∈fs->∃u v,mg (Str.ofString x)=some u/\RelV v u/\∀H F,Rep K H F d v
 | (f',n')::r,f,n,h,m=>by
  rcases bi.mp m with e |m
  ·cases e;exact h.1
  ·exact AllC.get h.2 m
noncomputable def cvB(K:PF)(C':String):Option V:=match PySem.W.nsIn K mainGlobals (Str.ofString C') with
 |some (some (.ref a))=>if qQ K a then some (.ref a) else none
 |some none=>if C'=="ValueError" then some (.ty "ValueError") else none
 |_=>none
noncomputable def xiB(K:PF)(C C':String)(cv:V):Bool:=match PySem.W.nsIn K mainGlobals (Str.ofString C) with
 |some (some (.ref c))=>Er K c&&PySem.W.mroIn K c (valOf cv)==some (fQ C C')&&(fQ C C'||!(Value.ref c==valOf cv))
 |_=>false
noncomputable def yX(K:PF)(C:String):Bool:=match PySem.W.nsIn K mainGlobals (Str.ofString C) with
 |some (some (.ref c))=>il K c
 |_=>false
noncomputable def xsB(K:PF)(xs:List (String×Bool)):Bool:=xs.all λp=>match p.2 with
 |true=>yX K p.1
 |false=>(cvB K p.1).any λcv=>xs.all λq=>!q.2||xiB K q.1 p.1 cv
theorem adC{h:Heap}(X:K.In h)(Gh:h.Ns mainGlobals mg){xs:List (String×Bool)}(e:xsB K xs=true)(C:String)(hC:xs.contains (C,true)=true):∃a,mg (Str.ofString C)=some (.ref a)/\il K a=true/\PySem.W.nsIn K mainGlobals (Str.ofString C)=some (some (.ref a)):=by
 have e1:yX K C=true:=bX.mp e _ (a9.mp hC);unfold yX at e1;split at e1
 ·rename_i a hn;exact ⟨a,PySem.W.mg_of X Gh hn,e1,hn⟩
 ·cases e1
theorem adD{h:Heap}(X:K.In h)(Gh:h.Ns mainGlobals mg){xs:List (String×Bool)}(e:xsB K xs=true)(C':String)(hC:xs.contains (C',false)=true):∃cv,CV K mg C' cv/\∀C,xs.contains (C,true)=true->XI K C C' cv:=by
 have e1:((cvB K C').any λcv=>xs.all λq=>!q.2||xiB K q.1 C' cv)=true:=bX.mp e _ (a9.mp hC);obtain ⟨cv,hcv,h2⟩:=aU e1;refine ⟨cv,?_,λC hC=>?_⟩
 ·unfold cvB at hcv;split at hcv
  ·rename_i a hn;split at hcv
   ·rename_i hb;cases hcv;exact .inl ⟨a,rfl,PySem.W.mg_of X Gh hn,hb⟩
   ·cases hcv
  ·rename_i hn;split at hcv
   ·rename_i hb;cases hcv;exact .inr ⟨aw.mp hb,rfl,PySem.W.mg_none_of X Gh hn⟩
   ·cases hcv
  ·cases hcv
 ·have e3:(!true||xiB K C C' cv)=true:=bX.mp h2 _ (a9.mp hC);have e3:xiB K C C' cv=true:=e3;unfold xiB at e3;split at e3
  ·rename_i c hn;rw[ae,ae,aw]at e3;refine ⟨c,hn,e3.1.1,e3.1.2,λhs=>?_⟩;have:=e3.2;rw[hs,Bool.false_or,eS]at this;exact this
  ·cases e3
theorem bse{h:Heap}{fs:List (String×Nat)}{bt:List String}{cn:List (String×D)}(h1:AllF Φ P w K mg base k fs)(h2:AllB mg bt)(h3:AllC K mg cn)(X:K.In h)(Gh:h.Ns mainGlobals mg)(e:xsB K xs=true):Bse Φ P w K mg base (CX1 P w) k fs bt cn xs {}:=
 ⟨λ_ _ m=>(h1.get m).ex,λ_ m=>h2.get m,λ_ _ m=>h3.get m,adC X Gh e,adD X Gh e,(λ_ _ _ _ h=>(nomatch h)),(λ_ _ h=>(nomatch h)),(λ_ _ h=>(nomatch h))⟩
theorem yZ{x:String}{i:Int}{t:Tok}(h:mg (Str.ofString x)=some (.int i t)):∃u v,mg (Str.ofString x)=some u/\RelV v u/\∀H F,Rep K H F (.int i) v:=⟨_,.int i,h,⟨t,rfl⟩,λ_ _=>rfl⟩
theorem adE{x:String}{l:List Nat}{s:Str}{t:Tok}(h:mg (Str.ofString x)=some (.str s t))(e:s=tx l)(hl:l.length<=sz):∃u v,mg (Str.ofString x)=some u/\RelV v u/\∀H F,Rep K H F (.str l) v:=⟨_,.str s,h,⟨t,rfl⟩,λ_ _=>⟨by rw[e],hl⟩⟩
theorem za{n:Nat}{S:RF.Spec}{fa:Addr}{fd:FuncData}{ps:List Str}(h:∀ds G a,¬S.pre ds G a):FnOk P w K mg base (CX1 P w) k fa fd ps (lift K n S):=
 ⟨λ_ _ _ _ ⟨_,_,_,_,_,_,a,hp,_⟩=>absurd hp (h _ _ a),λ_ _ _ _ _ _ _ _ _ _ _ _ _ ⟨_,_,_,_,_,_,a,hp,_⟩=>absurd hp (h _ _ a)⟩
end
section
variable {Φ:aa} {P:Program} {w:World} {K:PF} {mg:Str->Option Value} {base:Heap} {k j n:Nat} {fs:List (String×Nat)} {bt:List String} {cn:List (String×D)} {xs:List (String×Bool)} {ot:OT} {x:String} {S:RF.Spec} {fa:Addr} {fd:FuncData} {ps:List Str}
theorem MthOk.mono{f C m:String}(h:MthOk Φ P w K mg base (CX1 P w) k f C m n)(hk:k<=j):MthOk Φ P w K mg base (CX1 P w) j f C m n:=by obtain ⟨c,fa,fd,ps,h1,h2,h3,h4,h5⟩:=h;exact ⟨c,fa,fd,ps,h1,h2,h3,h4,h5.mono hk⟩
theorem MkoOk.mono{C:String}(h:MkoOk Φ P w K mg base (CX1 P w) k C n)(hk:k<=j):MkoOk Φ P w K mg base (CX1 P w) j C n:=by obtain ⟨c,fa,fd,ps,sp,i,h0,h⟩:=h;exact ⟨c,fa,fd,ps,sp,i,bv h0 hk,h⟩
theorem Bse.add(B:Bse Φ P w K mg base (CX1 P w) k fs bt cn xs ot)(e:Φ x=S)(o:FnOk P w K mg base (CX1 P w) (k+j) fa fd ps (lift K n S))(h2:PySem.W.keepIn K (.ref fa)=true)(h3:Binds K fd ps [])(h4:mg (Str.ofString x)=some (.ref fa)):Bse Φ P w K mg base (CX1 P w) (k+j) ((x,n)::fs) bt cn xs ot:=by
 refine ⟨λf m hm=>?_,B.blt,B.con,B.xcl,B.xis,λf C m n h=>(B.mth f C m n h).mono (cm _ _),λC n h=>(B.mko C n h).mono (cm _ _),B.fld⟩;rcases bi.mp hm with e' |hm
 ·cases e';exact ⟨fa,fd,ps,by rw[e];exact o,h2,h3,h4⟩
 ·obtain ⟨fa,fd,ps,h1,h⟩:=B.call f m hm;exact ⟨fa,fd,ps,h1.mono (cm _ _),h⟩
theorem Bse.step{qual:Str}{st:Stmt}{N:List Str}{body:Sxs}(B:Bse Φ P w K mg base (CX1 P w) k fs bt cn xs ot)(F:Fun K (Str.ofString x) qual st fa fd)(h3:Binds K fd ps [])(h4:mg (Str.ofString x)=some (.ref fa))(e:Φ x=S)(m:Nat)
  (hs:fnB N ps (ak st)=true) (hc:aC (aF N (ak st) fs bt cn xs ot) body (aD st)=true) (hn:ps.length=n) (hm:N.length=n+m)
  (hw:∀ds G a,ds.length=n->S.pre ds G a->aq Φ body noE (env0 ds m) G (ends (S.post a))):Bse Φ P w K mg base (CX1 P w) (k+1) ((x,n)::fs) bt cn xs ot:=
 B.add e (jK F B S n m hs hc hn hm hw) F.kp h3 h4
theorem Bse.stepX{qual:Str}{st:Stmt}{N:List Str}{body:Sxs}(B:Bse Φ P w K mg base (CX1 P w) k fs bt cn xs ot)(F:Fun K (Str.ofString x) qual st fa fd)(h3:Binds K fd ps [])(h4:mg (Str.ofString x)=some (.ref fa))(e:Φ x=S)(m:Nat)
  (hs:fnB N ps (ak st)=true) (hc:aC (aF N (ak st) fs bt cn xs ot) body (aD st)=true) (hn:ps.length=n) (hm:N.length=n+m)
  (hw:∀ds G a,ds.length=n->S.pre ds G a->aq Φ body (S.exc a) (env0 ds m) G (ends (S.post a))):Bse Φ P w K mg base (CX1 P w) (k+1) ((x,n)::fs) bt cn xs ot:=
 B.add e (Ip F B S n m hs hc hn hm hw) F.kp h3 h4
theorem Bse.addM{C m:String}{c:Addr}(B:Bse Φ P w K mg base (CX1 P w) k fs bt cn xs ot)(e:Φ x=S)(o:FnOk P w K mg base (CX1 P w) (k+j) fa fd ps (lift K n S))(h1:PySem.W.nsIn K mainGlobals (Str.ofString C)=some (some (.ref c)))(h2:Cls K c)(h3:Meth K c (Str.ofString m) fa)(h4:Binds K fd ps []):
  Bse Φ P w K mg base (CX1 P w) (k+j) fs bt cn xs { ot with ms:=(x,C,m,n)::ot.ms }:=by
 refine ⟨λf m hm=>?_,B.blt,B.con,B.xcl,B.xis,λf C' m' n' hm=>?_,λC n h=>(B.mko C n h).mono (cm _ _),B.fld⟩
 ·obtain ⟨fa,fd,ps,h1,h⟩:=B.call f m hm;exact ⟨fa,fd,ps,h1.mono (cm _ _),h⟩
 ·rcases bi.mp hm with e' |hm
  ·cases e';exact ⟨c,fa,fd,ps,h1,h2,h3,h4,by rw[e];exact o⟩
  ·exact (B.mth f C' m' n' hm).mono (cm _ _)
theorem Bse.stepM{C m:String}{c:Addr}{nm qual:Str}{st:Stmt}{N:List Str}{body:Sxs}(B:Bse Φ P w K mg base (CX1 P w) k fs bt cn xs ot)(F:Fun K nm qual st fa fd)(h4:Binds K fd ps [])(h1:PySem.W.nsIn K mainGlobals (Str.ofString C)=some (some (.ref c)))(h2:Cls K c)(h3:Meth K c (Str.ofString m) fa)(e:Φ x=S)(mm:Nat)
  (hs:fnB N ps (ak st)=true) (hc:aC (aF N (ak st) fs bt cn xs ot) body (aD st)=true) (hn:ps.length=n) (hm:N.length=n+mm)
  (hw:∀ds G a,ds.length=n->S.pre ds G a->aq Φ body (S.exc a) (env0 ds mm) G (ends (S.post a))):Bse Φ P w K mg base (CX1 P w) (k+1) fs bt cn xs { ot with ms:=(x,C,m,n)::ot.ms }:=
 B.addM e (Ip F B S n mm hs hc hn hm hw) h1 h2 h3 h4
theorem Bse.stepM0{C m:String}{c:Addr}{nm qual:Str}{st:Stmt}{N:List Str}{body:Sxs}(B:Bse Φ P w K mg base (CX1 P w) k fs bt cn xs ot)(F:Fun K nm qual st fa fd)(h4:Binds K fd ps [])(h1:PySem.W.nsIn K mainGlobals (Str.ofString C)=some (some (.ref c)))(h2:Cls K c)(h3:Meth K c (Str.ofString m) fa)(e:Φ x=S)(mm:Nat)
  (hs:fnB N ps (ak st)=true) (hc:aC (aF N (ak st) fs bt cn xs ot) body (aD st)=true) (hn:ps.length=n) (hm:N.length=n+mm)
  (hw:∀ds G a,ds.length=n->S.pre ds G a->aq Φ body noE (env0 ds mm) G (ends (S.post a))):Bse Φ P w K mg base (CX1 P w) (k+1) fs bt cn xs { ot with ms:=(x,C,m,n)::ot.ms }:=
 B.addM e (jK F B S n mm hs hc hn hm hw) h1 h2 h3 h4
theorem Bse.addK{C:String}(B:Bse Φ P w K mg base (CX1 P w) k fs bt cn xs ot)(o:MkoOk Φ P w K mg base (CX1 P w) (k+j) C n):Bse Φ P w K mg base (CX1 P w) (k+j) fs bt cn xs { ot with ks:=(C,n)::ot.ks }:=by
 refine ⟨λf m hm=>?_,B.blt,B.con,B.xcl,B.xis,λf C m n h=>(B.mth f C m n h).mono (cm _ _),λC' n' hm=>?_,B.fld⟩
 ·obtain ⟨fa,fd,ps,h1,h⟩:=B.call f m hm;exact ⟨fa,fd,ps,h1.mono (cm _ _),h⟩
 ·rcases bi.mp hm with e' |hm
  ·cases e';exact o
  ·exact (B.mko C' n' hm).mono (cm _ _)
theorem Bse.addF{C f:String}(B:Bse Φ P w K mg base (CX1 P w) k fs bt cn xs ot)(o:yH K C f):Bse Φ P w K mg base (CX1 P w) k fs bt cn xs { ot with fl:=(C,f)::ot.fl }:=by
 refine ⟨B.call,B.blt,B.con,B.xcl,B.xis,B.mth,B.mko,λC' f' hm=>?_⟩;rcases bi.mp hm with e' |hm
 ·cases e';exact o
 ·exact B.fld C' f' hm
def gO(Φ:aa)(x:String)(S:RF.Spec):aa:=λf=>if f=x then S else Φ f
theorem jN{y:String}(e:Φ y=S){S':RF.Spec}(h:(y==x)=false):gO Φ x S' y=S:=by unfold gO;rw[if_neg (by simpa using h)];exact e
theorem Bse.self(B:Bse Φ P w K mg base (CX1 P w) k fs bt cn xs {})(hx:(fs.map (·.1)).contains x=false)(o:FnOk P w K mg base (CX1 P w) (k+j) fa fd ps (lift K n S))(h2:PySem.W.keepIn K (.ref fa)=true)(h3:Binds K fd ps [])(h4:mg (Str.ofString x)=some (.ref fa)):Bse (gO Φ x S) P w K mg base (CX1 P w) (k+j) ((x,n)::fs) bt cn xs {}:=by
 refine ⟨λf m hm=>?_,B.blt,B.con,B.xcl,B.xis,(λ_ _ _ _ h=>(nomatch h)),(λ_ _ h=>(nomatch h)),(λ_ _ h=>(nomatch h))⟩;rcases bi.mp hm with e' |hm'
 ·cases e';exact ⟨fa,fd,ps,by unfold gO;rw[if_pos rfl];exact o,h2,h3,h4⟩
 ·obtain ⟨fa,fd,ps,h1,h⟩:=B.call f m hm';have hf:f≠x:=by
   rintro rfl;rw[<-Bool.not_eq_true,a9]at hx;exact hx (b6.mpr ⟨(f,m),hm',rfl⟩)
  exact ⟨fa,fd,ps,by unfold gO;rw[if_neg hf];exact h1.mono (cm _ _),h⟩
end
theorem adF{S:RF.Spec}(hS:∀(ns:List Int)(G:DH),ns.length<=63->∃a,S.pre [.scr ns] G a/\(∀d G',S.post a d G'->d=.bl true)/\∀x G',¬S.exc a x G')(K:PF)(H:Hp)(a:Addr)(ns:List Int)(hl:ns.length<=63)(hO:Only H)(hs:SqL K H a (ns.map V.int)):
  lift K 1 S [.ref a] H (λv _=>v=.bl true) λ_ _ _=>False:=by
 obtain ⟨b,h1,h2,h3⟩:=hS ns (λ_=>none) hl;refine ⟨rfl,λ_=>False,λ_=>none,[.scr ns],⟨λ_ f=>f.elim,λ_ _ e=>by cases e⟩,⟨.ref a,[],rfl,⟨a,rfl,?_⟩,rfl⟩,b,h1,λd G' q H' F' v _ _ rv=>?_,λx G' q=>absurd q (h3 x G')⟩
 ·rcases hs with (h |h) |h
  ·exfalso;rcases hO a with z |⟨o,u,z⟩
   ·rw[z]at h;cases h
   ·rw[z]at h;cases h
  ·exact .inl h
  ·exact .inr h
 ·rw[h2 d G' q]at rv;exact rv
theorem adG{pre:List D->DH->Prop}(h:∀(ns:List Int)(G:DH),ns.length<=63->pre [.scr ns] G):∀(ns:List Int)(G:DH),ns.length<=63->∃a,(bz pre (λ_ _ d _=>d=.bl true)).pre [.scr ns] G a/\(∀d G',(bz pre (λ_ _ d _=>d=.bl true)).post a d G'->d=.bl true)/\∀x G',¬(bz pre (λ_ _ d _=>d=.bl true)).exc a x G':=
 λns G hl=>⟨([.scr ns],G),⟨rfl,h ns G hl⟩,λ_ _ q=>q,λ_ _ z=>z⟩
def ghS{A:Type}(pre:A->List D->DH->Prop)(post:A->DH->D->DH->Prop):RF.Spec where
 A:=A×DH
 pre:=λds G a=>a.2=G/\pre a.1 ds G
 post:=λa d G'=>post a.1 a.2 d G'
 exc:=λ_ _ _=>False
theorem bT{A:Type}{pre:A->List D->DH->Prop}{post:A->DH->D->DH->Prop}{ds:List D}{G:DH}{k:D->DH->Prop}{E:EK}(a:A)(h:pre a ds G)(hk:∀d G',post a G d G'->k d G'):(ghS pre post).t ds G k E:=
 ⟨(a,G),⟨rfl,h⟩,hk,λ_ _ z=>z.elim⟩
theorem b7{A:Type}{Φ:aa}{body:Sxs}{m n:Nat}{pre:A->List D->DH->Prop}{post:A->DH->D->DH->Prop}(h:∀a ds G,pre a ds G->aq Φ body noE (env0 ds m) G (ends (post a G))):
  ∀ds G a,ds.length=n->(ghS pre post).pre ds G a->aq Φ body noE (env0 ds m) G (ends ((ghS pre post).post a)):=by
 rintro ds G ⟨a,G0⟩ _ ⟨rfl,h1⟩;exact h a ds _ h1
def b8{A:Type}(args:A->List D)(ok:A->Prop)(val:A->D):RF.Spec:=ghS (λa ds _=>ds=args a/\ok a) (λa G d G'=>G'=G/\d=val a)
theorem cA{A:Type}{args:A->List D}{ok:A->Prop}{val:A->D}{ds:List D}{G:DH}{k:D->DH->Prop}{E:EK}(a:A)(e:ds=args a)(h:ok a)(hk:k (val a) G):(b8 args ok val).t ds G k E:=
 bT a ⟨e,h⟩ λd G' ⟨e1,e2⟩=>by subst e1 e2;exact hk
theorem cO{A:Type}{Φ:aa}{body:Sxs}{m n:Nat}{args:A->List D}{ok:A->Prop}{val:A->D}(h:∀a G,ok a->aq Φ body noE (env0 (args a) m) G (ends λd G'=>G'=G/\d=val a)):
  ∀ds G a,ds.length=n->(b8 args ok val).pre ds G a->aq Φ body noE (env0 ds m) G (ends ((b8 args ok val).post a)):=
 b7 λa ds G ⟨e,h1⟩=>by subst e;exact h a G h1
theorem ai{a b:Prop}(x:a)(y:b):a/\b:=⟨x,y⟩
def Ow:=ai @sW (ai @jA (ai @sX (ai @sY (ai @xP (ai @sZ (ai @tu (ai @tB (ai @tD (ai @tH (ai @tM (ai (ai @tV (ai @kW (ai @xR (ai @tR (ai (ai @xV (ai @xT (ai @tU @xU))) (ai @xW (ai @xX (ai (ai @xH (ai (ai (ai @sJ (ai @sO (ai @sS @sU))) (ai @xJ @xK)) (ai @xM (ai @xN @xO)))) (ai @xQ @tQ))))))))) (ai @Ol (ai @Ou (ai (ai @rO (ai @rA (ai @rB (ai @rD (ai @jx (ai @fV (ai @gG (ai @rE (ai @kE (ai @rF (ai @kI (ai @rG (ai @rH (ai @rJ (ai @rK (ai @xr (ai @xu (ai @xF (ai @rM @rN))))))))))))))))))) (ai @iu (ai @rP (ai @rQ (ai @rR (ai @kJ (ai @kO (ai @rT (ai @rW (ai @rY (ai @rZ (ai @sr (ai @su (ai (ai @sy @xG) (ai @sE (ai @sG (ai @sH (ai @sI (ai @eU (ai @sV (ai @Ot (ai @Jd (ai @Jf (ai @Jg (ai @Jh (ai @Ji (ai @Jj (ai (ai @Jo (ai @Jm @Jl)) (ai @Jp (ai @Jq (ai @Jr (ai @Js (ai @Jt (ai @Ju (ai @Jv (ai @Jw (ai @Jx (ai @Jy (ai @JB (ai @JC (ai @JD (ai @JF (ai @JG (ai @JH (ai @JK (ai @JL (ai @JM (ai @JN (ai @JP (ai @JQ (ai @JR (ai @JS (ai @JT (ai @JV (ai @JW (ai @JX (ai @J0 (ai @J1 (ai @J2 (ai @J5 (ai (ai @J7 @J6) (ai @J8 (ai @J9 (ai @Ka (ai @Kc (ai @Kd (ai @Ke (ai @Kf (ai @Kg (ai @Kh (ai @Kl (ai (ai @Ks @Kr) (ai (ai @Ku (ai (ai @Kq (ai @Ko @Kp)) @Km)) (ai @Kv (ai @Kw (ai @Ky (ai @Kz (ai (ai @KC (ai @KQ (ai @KR (ai @KY (ai @KZ (ai @Lq @Lp)))))) (ai @KD (ai (ai @KN (ai @KH @KJ)) (ai @K1 (ai @K5 (ai @K6 (ai @K7 (ai @K8 (ai @K9 (ai @La (ai @Lb (ai @Ld (ai @Lg (ai @Lh (ai @Li (ai @Lj (ai @Lk (ai @Ln (ai @Lr (ai @Ls (ai @Lw (ai @Lx (ai @Ly (ai @Lz (ai @LC (ai @LK (ai @LQ (ai @LR (ai @Mg (ai @Mh (ai @Mi (ai @Mj (ai @is_tup (ai @Ml (ai @Mm (ai (ai @Mq @Mp) (ai @Mr (ai @Ms (@JZ)))))))))))))))))))))))))))))))))))))))))))))))))))))))))))))))))))))))))))))))))))))))))))))))))))))))))))))))))))))))))))))))))
theorem adH:type_of% (af @jy @jz):=af @jy @jz
theorem Oz:type_of% (af @Om (af @Oo (af @Oq (af @Option.join_some.{0} (af @bo.{0,0} (af @dk.{0,0} (af @List.cons_append.{0} (af @List.nil_append.{0} (af @b9.{0} (af @List.replicate_zero.{0} (af @List.getElem?_cons_zero.{0} (af @List.getElem?_cons_succ.{0} (af @List.set_cons_zero.{0} (af @List.set_cons_succ.{0} (af @cf.{0} (af @List.length_nil.{0} (af @Iv (af @Iw (af @Iz (af @IK (af @IV (af @IW (af @Ja (af @true_and (af @fe (af @Nat.min_self (af @Nat.zero_min (af @Nat.min_zero (af @e7 (af @Bool.or_false (af @Bool.or_true (af @Bool.false_or (af @Bool.true_or (af @Bool.not_true (af @Bool.not_false (af @Mt (af @Mu (af @Mv (af @Mw (af @Mx (af @My (af @Mz (af @MF (af @MJ (af @MK (af @MN (af @MP (af @MT (af @M4 (af @M5 (af @M6 (af @M7 (af @M8 (af @M9 (af @Nb (af @Nf (af @Ng (af @Nh (af @Ni (af @Nj (af @Nk (af @Nm (af @Np (af @Nq (af @Nr (af @Nt (af @Nu (af @Nv (af @Nx (af @Ny (af @Nz (af @NB (af @NK (af @NQ (af @NT (af @NZ (af @N5 (af @N6 (af @N7 (af @N8 (af @Oa (af @Ob (af @Oc (af @Od (af @Oe (af @Og (af @Oh (af @Oi (@Oj))))))))))))))))))))))))))))))))))))))))))))))))))))))))))))))))))))))))))))))))))))))))):=af @Om (af @Oo (af @Oq (af @Option.join_some.{0} (af @bo.{0,0} (af @dk.{0,0} (af @List.cons_append.{0} (af @List.nil_append.{0} (af @b9.{0} (af @List.replicate_zero.{0} (af @List.getElem?_cons_zero.{0} (af @List.getElem?_cons_succ.{0} (af @List.set_cons_zero.{0} (af @List.set_cons_succ.{0} (af @cf.{0} (af @List.length_nil.{0} (af @Iv (af @Iw (af @Iz (af @IK (af @IV (af @IW (af @Ja (af @true_and (af @fe (af @Nat.min_self (af @Nat.zero_min (af @Nat.min_zero (af @e7 (af @Bool.or_false (af @Bool.or_true (af @Bool.false_or (af @Bool.true_or (af @Bool.not_true (af @Bool.not_false (af @Mt (af @Mu (af @Mv (af @Mw (af @Mx (af @My (af @Mz (af @MF (af @MJ (af @MK (af @MN (af @MP (af @MT (af @M4 (af @M5 (af @M6 (af @M7 (af @M8 (af @M9 (af @Nb (af @Nf (af @Ng (af @Nh (af @Ni (af @Nj (af @Nk (af @Nm (af @Np (af @Nq (af @Nr (af @Nt (af @Nu (af @Nv (af @Nx (af @Ny (af @Nz (af @NB (af @NK (af @NQ (af @NT (af @NZ (af @N5 (af @N6 (af @N7 (af @N8 (af @Oa (af @Ob (af @Oc (af @Od (af @Oe (af @Og (af @Oh (af @Oi (@Oj))))))))))))))))))))))))))))))))))))))))))))))))))))))))))))))))))))))))))))))))))))))))
noncomputable def uU(c:CT)(g f:String)(ss:List Stmt):Bool:=(two ss).any λs=>az (iH s.2) λa=>(one a.1).any λtg=>az (fY tg) λv=>aZ c (.exp (.call g (.cons (.var 1) .nil))) s.1&&aj c (.var 0) v.1&&v.2.1==Str.ofString f&&!cT a.2.1&&aj c (.lst false (.cons (.var 1) .nil)) a.2.1
theorem adI{c:CT}{g f:String}{ss:List Stmt}(h:uU c g f ss=true):∃s1 o n p e pos,ss=[s1,.Assign [.Attribute o n p] e pos]/\aZ c (.exp (.call g (.cons (.var 1) .nil))) s1=true/\aj c (.var 0) o=true/\n=Str.ofString f/\cT e=false/\aj c (.lst false (.cons (.var 1) .nil)) e=true:=by unfold uU at h;obtain ⟨s,hs,h⟩:=aU h;obtain ⟨a,ha,h⟩:=aH h;obtain ⟨tg,ht,h⟩:=aU h;obtain ⟨v,hv,h⟩:=aH h;rw[ae,ae,ae,ae,aw,eS]at h;obtain ⟨⟨⟨⟨h1,h2⟩,h3⟩,h4⟩,h5⟩:=h;exact ⟨_,_,_,_,_,_,by rw[lu hs,ha,cZ ht,hv],h1,h2,h3,h4,h5⟩
section
variable {Φ:aa} {P:Program} {w:World} {K:PF} {mg:Str->Option Value} {base:Heap} {k:Nat} {fs:List (String×Nat)} {bt:List String} {cn:List (String×D)} {xs:List (String×Bool)} {ot:OT}
def adJ(Φ:aa)(K:PF)(c:Addr)(g f:String):Sp:=λvs H Q EX=>∃x b dx d F G,vs=[.ref x,b]/\H x=some (.ins c dx [])/\F x/\R K H F G/\Rep K H F d b/\
 (Φ g).t [d] G (λ_ G1=>∀q,G1 q=none->∀H2 F2,Ext H F H2 F2->R K H2 F2 (aK G1 q (.lst [d]))->Q .non (upd H2 x (.ins c dx [(Str.ofString f,.ref q)]))) (PX K H F EX)
theorem adK{C f g:String}{nm qual:Str}{st:Stmt}{fa c:Addr}{fd:FuncData}{N ps:List Str}(B:Bse Φ P w K mg base (CX1 P w) k fs bt cn xs ot)(Fu:Fun K nm qual st fa fd)(hb:Binds K fd ps [])
  (hmg:mg (Str.ofString C)=some (.ref c)) (hns:PySem.W.nsIn K mainGlobals (Str.ofString C)=some (some (.ref c))) (hcl:Cls K c) (hna:NoAttr K c (Str.ofString f)) (M:Mk K c fa)
  (hs:fnB N ps (ak st)=true) (hc:uU (aF N (ak st) fs bt cn xs ot) g f (aD st)=true) (hn:ps.length=2) (hm:N.length=2)
  (hS:∀d G kk E,(Φ C).t [d] G kk E->(Φ g).t [d] G (λ_ G1=>∀q,G1 q=none->kk (.obj C f q) (aK G1 q (.lst [d]))) E):MkoOk Φ P w K mg base (CX1 P w) (k+2) C 1:=by
 refine ⟨c,fa,fd,ps,adJ Φ K c g f,k+1,ay _,hmg,M,hb,?_,?_⟩
 ·obtain ⟨s1,o,n,p,e,pos,eb,c1,c2,en,c3,c4⟩:=adI hc;subst en;refine Fu.okX (uO hs) (λvs H Q E h=>by obtain ⟨x,b,dx,d,F,G,rfl,_⟩:=h;rw[hn];rfl) λcdv A outer s H vs Q EX hr hsp=>?_;obtain ⟨x,b,dx,d,F,G,rfl,hx,fx,r,rb,ht⟩:=hsp;have St:Stat Φ (CX1 P w) k (aF N (ak st) fs bt cn xs ot) (PX K H F EX) ⟨H,F⟩ (cQ (CX1 P w) P w K mg base N qual (ak st) fa cdv A outer s H EX):=Io B hs hr λx G' H' F' hx e r'=>hx H' F' e r';rw[eb];refine ⟨_,Ck (Il St _ c1) (Cm (Ye (aB _ St c2) (aB _ St c4) (uN c3 _ _ _))),?_⟩;refine ⟨[some (.ref x),some d],F,G,Ext.refl _ _,?_,r,?_⟩
  ·have e2:L2.start N [V.ref x,b]=[some (V.ref x),some b]:=by
    unfold L2.start;rw[show N.length - [V.ref x,b].length=0 by rw[hm];rfl];rfl
   rw[e2];exact ⟨_,_,rfl,λd' hd=>⟨_,rfl,by cases hd;rfl⟩,_,_,rfl,λd' hd=>⟨_,rfl,by cases hd;exact rb⟩,rfl⟩
  ·show (Φ g).t [d] G _ _;refine Spec.mono ht (λd' G1 q=>?_) λ_ _ z=>z;intro H1 F1 σ1 x1 he1 r1;refine aO (x:=.lst false (.cons (.var 1) .nil)) (E:=PX K H F EX) (ρ:=[some (.ref x),some d]) (G:=G1) (W:=λy G2=>∃q',y=.ref q'/\G1 q'=none/\G2=aK G1 q' (.lst [d])) x1 he1 r1 ?_ ?_
   ·show _/\mk false [d] G1 _;exact ⟨show 1<=sz by decide,λq' hq'=>⟨q',rfl,hq',rfl⟩⟩
   ·rintro y G2 H2 F2 v ⟨q',rfl,hq',rfl⟩ e2 x2 he2 r2 rv;refine aO (x:=.var 0) (E:=PX K H F EX) (ρ:=[some (.ref x),some d]) (W:=λy G3=>y=.ref x/\G3=aK G1 q' (.lst [d])) e2 he2 r2 ⟨rfl,rfl⟩ ?_;rintro y G3 H3 F3 v3 ⟨rfl,rfl⟩ e3 x3 he3 r3 rv3;have ev:v=.ref q':=rv;have ev3:v3=.ref x:=rv3;subst ev ev3;have hx3:H3 x=some (.ins c dx []):=(e3.keep x fx).trans hx;refine ⟨x,c,dx,[],rfl,hx3,hcl,hna,by decide,?_⟩;exact q q' hq' H3 F3 e3 r3
 ·intro vs H Q E hl x dx hx hdx hne;obtain ⟨hlen,F,G,ds,r,rs,ht⟩:=hl;obtain ⟨d,rfl⟩:=cI (rs.length.trans hlen);obtain ⟨b,rfl,rb⟩:=bC rs;have hx1:(upd H dx (.own x)) x=none:=by rw[aJ (Ne.symm hne)];exact hx
  have r1:=r.newO (o:=.own x) hdx;have e1:=wU (o:=.own x) r hdx;have r2:=r1.newO (o:=.ins c dx []) hx1;have e2:=wU (o:=.ins c dx []) r1 hx1;have e12:=e1.trans e2;refine ⟨x,b,dx,d,_,G,rfl,cP,.inr rfl,r2,Rep.ext e12 rb,?_⟩;refine Spec.mono (hS d G _ _ ht) (λd' G1 q=>λq' hq' H2 F2 x2 r2'=>⟨rfl,?_⟩) λxn G' z H2 F2 x2 r2'=>z H2 F2 (e12.trans x2) r2';have hx2:H2 x=some (.ins c dx []):=(x2.keep x (.inr rfl)).trans cP;have e3:=e12.trans x2;refine q q' hq' (upd H2 x (.ins c dx [(Str.ofString f,.ref q')])) F2 (.ref x) ⟨e3.sub,λa ha=>?_,λa ys ha=>?_,λa o u ha=>?_⟩ (r2'.setO hx2) ⟨x,c,dx,rfl,⟨x2.sub x (.inr rfl),cP⟩,hns⟩
  ·rw[aJ λe=>r.notF hx (by rw[<-e];exact ha)];exact e3.keep a ha
  ·rw[aJ (bw ha hx)];exact e3.tups a ys ha
  ·rw[aJ (bw ha hx)];exact e3.frzs a o u ha
theorem Bse.alias{x y:String}{n:Nat}(B:Bse Φ P w K mg base (CX1 P w) k fs bt cn xs ot)(hm:fs.contains (x,n)=true)(e:Φ y=Φ x)(h:mg (Str.ofString y)=mg (Str.ofString x)):Bse Φ P w K mg base (CX1 P w) (k+1) ((y,n)::fs) bt cn xs ot:=by obtain ⟨fa,fd,ps,F0,hk,hb,hmg⟩:=B.call x n (a9.mp hm);exact B.add e (F0.mono (fy _)) hk hb (h.trans hmg)
end
section
local macro_rules|`(#[])=>`(.nil)|`(#[$x])=>`(.cons $x .nil)|`(#[$x,$y,*])=>`(.cons $x #[$y,*])
local macro_rules|`(-$x)=>`(.var $x)
local macro_rules|`(¬$x)=>`(.cst (.int $x))
local macro_rules|`(!$x)=>`(.cst (.str $x))
local macro_rules|`($x<|$y)=>`(.call $x $y)
noncomputable def lG:Sxs:=#[.ite (.boo false (.not (.val (.isi (-0) "str"))) #[.not (.val (.chn .LtE .LtE (¬1) (.bcl .len #[-0]) (.glb "LONGEST_DEED" (.int 8))))]) #[.ret (.cst (.bl false))] #[],.ret (.bcl .all #[.comp true (.cmp .In (-0) (.glb "LETTERS" (.str [97,98,99,100,101,102,103,104,105,106,107,108,109,110,111,112,113,114,115,116,117,118,119,120,121,122]))) (.nm 0) (.seq (-0)) .yes ["sign"] [none]])]
noncomputable def jO:Sxs:=#[.ite (.boo false (.not (.val (.isi (-2) "str"))) #[.val (.cmp .NotEq (.bcl .len #[-2]) (-1))]) #[.ret (.cst (.bl false))] #[],.ret (.bcl .all #[.comp true (.cmp .In (-0) (-1)) (.nm 0) (.seq (-2)) .yes ["sign","signs"] [none,some 0]])]
noncomputable def lH:Sxs:=#[.ret ("is_text_of"<|#[![48,49,42],-0,-1])]
noncomputable def lJ:Sxs:=#[.ite (.boo false (.not (.val (.isi (-1) "tuple"))) #[.val (.cmp .NotEq (.bcl .len #[-1]) (¬2))]) #[.ret (.cst (.bl false))] #[],.ret (.boo true ("is_form"<|#[-0,.idx (-1) (¬0)]) #["is_deed"<|#[.idx (-1) (¬1)]])]
noncomputable def lK:Sxs:=#[.ret (.boo true (.isi (-0) "int") #[.not (.isi (-0) "bool")])]
noncomputable def lL:Sxs:=#[.ret (.boo true ("is_whole"<|#[-0]) #[.chn .LtE .LtE (¬1) (-0) (.glb "WIDEST" (.int 6))])]
noncomputable def lM:Sxs:=#[.ite (.boo false (.not (.val (.isi (-0) "tuple"))) #[.val (.cmp .NotEq (.bcl .len #[-0]) (¬2))]) #[.ret (.cst (.bl false))] #[],.asg (.tp #[.nm 1,.nm 2]) (-0),.ite (.boo false (.not (.val ("is_width"<|#[-1]))) #[.not (.val (.isi (-2) "tuple")),.val (.cmp .Gt (.bcl .len #[-2]) (.glb "MOST_ROWS" (.int 12)))]) #[.ret (.cst (.bl false))] #[],.ret (.bcl .all #[.comp true ("is_row"<|#[-1,-0]) (.nm 0) (.seq (-2)) .yes ["row","width"] [none,some 1]])]
noncomputable def lN:Sxs:=#[.ite (.not (.val ("is_book"<|#[-0]))) #[.rse "NoBook" #[]] #[]]
def zb:Sxs:=#[.set (-0) (¬2) (¬0),.ret (-0)]
noncomputable def lO:Sxs:=#[.asg (.nm 2) (![]),.for_ (.tp #[.nm 3,.nm 4]) (.zip (-0) (-1)) #[.ite (.val (.cmp .Eq (-3) (![42]))) #[.aug 2 .Add (-4)] #[.ite (.boo false (.val (.cmp .Eq (-4) (![42]))) #[.val (.cmp .Eq (-4) (-3))]) #[.aug 2 .Add (-3)] #[.ret (.cst .non)]]],.ret (-2)]
noncomputable def lQ:Sxs:=#[.for_ (.tp #[.nm 2,.nm 3]) (.enm (-0)) #[.ite (.val (.cmp .IsNot ("both"<|#[.idx (-3) (¬0),-1]) (.cst .non))) #[.ret (-2)] #[]],.ret (.cst .non)]
noncomputable def lU:Sxs:=#[.asg (.nm 2) ("first_touching"<|#[-0,-1]),.ite (.val (.cmp .Is (-2) (.cst .non))) #[.ret (.cst .non)] #[],.for_ (.tp #[.nm 3,.nm 4]) (.enm (.idx (.idx (-0) (-2)) (¬0))) #[.ite (.boo true (.val (.cmp .Eq (.idx (-1) (-3)) (![42]))) #[.val (.cmp .NotEq (-4) (![42]))]) #[.ret (-3)] #[]],.ret (.cst .non)]
noncomputable def lV:Sxs:=#[.ret (.bin .Add true (.bin .Add true (.slc true (-0) .no (.ob (-1))) (-2)) (.slc true (-0) (.ob (.bin .Add true (-1) (¬1))) .no))]
noncomputable def jP:Sxs:=#[.for_ (.nm 3) (.seq (-1)) #[.asg (.nm 4) ("splitting_place"<|#[-3,-2]),.ite (.val (.cmp .IsNot (-4) (.cst .non))) #[.asg (.nm 5) ("grown"<|#[-0,-1,"with_sign"<|#[-2,-4,![48]]]),.asg (.nm 6) ("grown"<|#[-0,-1,"with_sign"<|#[-2,-4,![49]]]),.ret (.tup #[![115,112,108,105,116],-4,-5,-6])] #[]],.ret (.bin .Add true (.tup #[-0]) (.bcl .tuple #[.comp true ("first_touching"<|#[-0,-1]) (.nm 0) (.seq (-1)) .yes ["rows","box"] [none,some 2]]))]
noncomputable def lW:Sxs:=#[.ret (.boo true (.isi (-2) "tuple") #[.cmp .Eq (.bcl .len #[-2]) (.bin .Add true (-1) (¬1)),.cmp .Eq (.idx (-2) (¬0)) (-0)])]
noncomputable def lX:Sxs:=#[.ret (.boo true ("is_whole"<|#[-1]) #[.chn .LtE .Lt (¬0) (-1) (-0)])]
noncomputable def iU:Sxs:=#[.ite (.not (.val ("is_named"<|#[![115,112,108,105,116],¬3,-1]))) #[.ret (.lst true #[.tup #[-0,-1]])] #[],.asg (.nm 2) (.idx (-1) (¬1)),.ite (.boo false (.not (.val ("is_place"<|#[.bcl .len #[-0],-2]))) #[.val (.cmp .NotEq (.idx (-0) (-2)) (![42]))]) #[.ret (.cst .non)] #[],.asg (.nm 3) ("leaves"<|#["with_sign"<|#[-0,-2,![48]],.idx (-1) (¬2)]),.asg (.nm 4) ("leaves"<|#["with_sign"<|#[-0,-2,![49]],.idx (-1) (¬3)]),.ite (.boo false (.val (.cmp .Is (-3) (.cst .non))) #[.val (.cmp .Is (-4) (.cst .non))]) #[.ret (.cst .non)] #[],.ret (.bin .Add true (-3) (-4))]
noncomputable def lY:Sxs:=#[.exp ("need_book"<|#[-0]),.exp ("need_book"<|#[-1]),.ite (.val (.cmp .NotEq (.idx (-0) (¬0)) (.idx (-1) (¬0)))) #[.rse "NoMatch" #[.idx (-0) (¬0),.idx (-1) (¬0)]] #[]]
noncomputable def jQ:Sxs:=#[.ite (.val (.cmp .Is (-1) (.cst .non))) #[.ret (.cst .non)] #[],.ret (.idx (.idx (.idx (-0) (¬1)) (-1)) (¬1))]
noncomputable def lZ:Sxs:=#[.ret (.cmp .Eq ("deed_of"<|#[-0,.idx (-2) (¬1)]) ("deed_of"<|#[-1,.idx (-2) (¬2)]))]
def mj:Sxs:=#[.ret (.bin .Mult true (![42]) (-0))]
noncomputable def mq:Sxs:=#[.exp ("need_two_books"<|#[-0,-1]),.asg (.nm 2) ("stars"<|#[.idx (-0) (¬0)]),.asg (.nm 3) ("grown"<|#[![115,97,109,101],.lst true #[.idx (-0) (¬1),.idx (-1) (¬1)],-2]),.asg (.nm 4) (.comp true ("least"<|#[-0]) (.tp #[.nm 0,.nm 1]) (.seq ("leaves"<|#[-2,-3])) (.not (.val ("same_deeds"<|#[-2,-3,-1]))) ["part","leaf","one","other"] [none,none,some 0,some 1]),.ite (.val (-4)) #[.ret (.tup #[![112,97,114,116,101,100],.bcl .min #[-4]])] #[],.ret (.tup #[![97,108,105,107,101],-3])]
noncomputable def my:Sxs:=#[.asg (.tp #[.nm 2,.nm 3]) ("alike"<|#[-0,-1]),.ret (.ife (.val (.cmp .Eq (-2) (![112,97,114,116,101,100]))) (-3) (.cst .non))]
noncomputable def mz:Sxs:=#[.exp ("need_book"<|#[-0]),.ite (.not (.val ("is_place"<|#[.bcl .len #[.idx (-0) (¬1)],-1]))) #[.rse "NoRow" #[.bcl .len #[.idx (-0) (¬1)]]] #[]]
noncomputable def mC:Sxs:=#[.exp ("need_row"<|#[-0,-1]),.asg (.tp #[.nm 2,.nm 3]) (-0),.ret (.tup #[-2,.bin .Add true (.slc true (-3) .no (.ob (-1))) (.slc true (-3) (.ob (.bin .Add true (-1) (¬1))) .no)])]
noncomputable def zc:Sxs:=#[.ite (.val (.cmp .GtE (-0) (.bin .Pow true (¬10) (¬18)))) #[.ret (-0)] #[],.asg (.nm 2) (.bin .Mod true (.bin .Add true (.bin .Add true (.bin .Mult true (.bin .Mod true (-0) (¬1000000007)) (¬69069)) (.bin .Mult true (-1) (¬40503))) (¬977)) (¬2147483629)),.asg (.nm 3) (.bin .Mod true (.bin .Add true (.bin .Add true (.bin .Mult true (-2) (-2)) (.bin .Mult true (-1) (¬7919))) (.bin .Mod true (-0) (¬65537))) (¬2147483587)),.asg (.nm 4) (.bin .Mod true (.bin .Add true (.bin .Add true (.bin .Mult true (-3) (-3)) (.bin .Mult true (-2) (¬31))) (¬5)) (¬2147483563)),.ret (.bin .Add true (.bin .Mult true (.bin .Add true (.bin .Mult true (-2) (¬2147483659)) (-3)) (¬2147483693)) (-4))]
noncomputable def zf:Sxs:=#[.ite (.val (.cmp .Lt (.idx (-0) (¬2)) (-1))) #[.asg (.nm 2) (.idx (-0) (¬1)),.asg (.nm 3) (¬0),.ite (.val (.cmp .Lt (-2) (.bcl .len #[.idx (-0) (¬0)]))) #[.asg (.nm 3) (.idx (.idx (-0) (¬0)) (-2))] #[.ite (.val (.cmp .Gt (.bcl .len #[.idx (-0) (¬0)]) (¬0))) #[.asg (.nm 3) (.bin .Mod true (.idx (.idx (-0) (¬0)) (.bin .Mod true (.bin .Add true (.bin .Mult true (-2) (¬5)) (¬3)) (.bcl .len #[.idx (-0) (¬0)]))) (.bin .Add true (.bin .Pow true (¬10) (¬17)) (-2)))] #[]],.set (-0) (¬1) (.bin .Add true (-2) (¬1)),.set (-0) (¬2) ("_law_spread"<|#[-3,-2])] #[],.asg (.nm 4) (.bin .Mod true (.idx (-0) (¬2)) (-1)),.set (-0) (¬2) (.bin .FloorDiv true (.idx (-0) (¬2)) (-1)),.ret (-4)]
noncomputable def zg:Sxs:=#[.ret (.mth .join (![]) #[.comp true (.idx (-1) ("_law_take"<|#[-2,.bcl .len #[-1]])) (.nm 0) (.rng (-1)) .yes ["at","signs","pen"] [none,some 2,some 0]])]
noncomputable def zj:Sxs:=#[.asg (.nm 2) (.lst true #[![97],![103,111],![115,116,97,121],![97,98,99,100,101,102,103,104],![110,111,110,101],![121,101,115],![105,110],![111,117,116],![107,101,101,112],![119,111,114,100],![122,122]]),.asg (.nm 3) ("_law_take"<|#[-0,¬11]),.asg (.nm 4) (.comp true (.idx (-1) (.bin .Mod true (.bin .Add true (-2) (.bin .Mult true (¬3) (-0))) (¬11))) (.nm 0) (.rng (.bin .Add true (¬1) ("_law_take"<|#[-0,-1]))) .yes ["k","some","turn"] [none,some 2,some 3]),.ite (.val (.cmp .Eq ("_law_take"<|#[-0,¬3]) (¬0))) #[.asg (.nm 5) (![97,98,99,100,101,102,103,104,105,106,107,108,109,110,111,112,113,114,115,116,117,118,119,120,121,122]),.asg (.nm 4) (.comp true ("_law_signs"<|#[-1,.bin .Add true (¬1) ("_law_take"<|#[-1,¬8]),-2]) (.nm 0) (.seq (-4)) .yes ["one","pen","letters"] [none,some 0,some 5])] #[],.ret (-4)]
noncomputable def zm:Sxs:=#[.ret ("_law_signs"<|#[-0,-1,.idx (.lst true #[![48,49,42],![48,49,42,42],![48,49,42,42,42,42],![48,42],![48,49]]) ("_law_take"<|#[-0,¬5])])]
noncomputable def zp:Sxs:=#[.asg (.nm 2) (![]),.for_ (.nm 3) (.seq (-1)) #[.ite (.val (.cmp .Eq ("_law_take"<|#[-0,¬3]) (¬0))) #[.asg (.nm 3) (![42])] #[],.asg (.nm 2) (.bin .Add true (-2) (-3))],.ret (-2)]
noncomputable def zq:Sxs:=#[.asg (.nm 2) (![]),.for_ (.nm 3) (.seq (-1)) #[.ite (.boo true (.val (.cmp .Eq (-3) (![42]))) #[.val (.cmp .Eq ("_law_take"<|#[-0,¬2]) (¬0))]) #[.asg (.nm 3) (.idx (![48,49]) ("_law_take"<|#[-0,¬2]))] #[],.asg (.nm 2) (.bin .Add true (-2) (-3))],.ret (-2)]
noncomputable def zr:Sxs:=#[.asg (.nm 3) ("_law_take"<|#[-0,¬7]),.ite (.boo false (.val (.cmp .Eq (-2) (.lst true #[]))) #[.val (.cmp .Lt (-3) (¬2))]) #[.ret ("_law_form"<|#[-0,-1])] #[],.asg (.nm 4) (.idx (-2) ("_law_take"<|#[-0,.bcl .len #[-2]])),.ite (.val (.cmp .Eq (-3) (¬2))) #[.ret (-4)] #[],.ite (.val (.cmp .Lt (-3) (¬5))) #[.asg (.nm 5) ("_law_take"<|#[-0,-1]),.ret (.bin .Add true (.bin .Add true (.slc true (-4) .no (.ob (-5))) (.idx (![48,49,42]) ("_law_take"<|#[-0,¬3]))) (.slc true (-4) (.ob (.bin .Add true (-5) (¬1))) .no))] #[],.ite (.val (.cmp .Eq (-3) (¬5))) #[.ret ("_law_within"<|#[-0,-4])] #[],.ret ("_law_wider"<|#[-0,-4])]
noncomputable def zu:Sxs:=#[.ret (.comp true (.idx (-0) (¬0)) (.nm 0) (.seq (-0)) .yes ["row"] [none])]
noncomputable def zx:Sxs:=#[.asg (.nm 4) ("_law_take"<|#[-0,¬9]),.asg (.nm 5) ("_law_take"<|#[-0,.bin .Add true (.bcl .len #[-2]) (¬1)]),.ite (.boo false (.boo true (.val (.cmp .Lt (-4) (¬4))) #[.val (.cmp .Lt (.bcl .len #[-2]) (¬12))]) #[.boo true (.val (.cmp .Eq (-2) (.lst true #[]))) #[.val (.cmp .Eq (-3) (.lst true #[]))]]) #[.asg (.nm 6) ("_law_form_like"<|#[-0,-1,"_law_forms"<|#[-2]]),.asg (.nm 7) (.idx ("_law_deeds_of"<|#[-0,¬1]) (¬0)),.ret (.tup #[![112,117,116],.tup #[-5,-6,-7],.bin .Add true (.bin .Add true (.slc true (-2) .no (.ob (-5))) (.lst true #[.tup #[-6,-7]])) (.slc true (-2) (.ob (-5)) .no)])] #[],.ite (.boo false (.boo true (.val (.cmp .Eq (-4) (¬4))) #[.val (.cmp .NotEq (-3) (.lst true #[]))]) #[.val (.cmp .Eq (-2) (.lst true #[]))]) #[.ret (.tup #[![98,97,99,107],.tup #[],.idx (-3) (.neg (¬1))])] #[],.asg (.nm 5) (.bin .Mod true (-5) (.bcl .len #[-2])),.ite (.val (.cmp .Lt (-4) (¬7))) #[.ret (.tup #[![111,117,116],.tup #[-5],.bin .Add true (.slc true (-2) .no (.ob (-5))) (.slc true (-2) (.ob (.bin .Add true (-5) (¬1))) .no)])] #[],.asg (.nm 8) ("_law_take"<|#[-0,.bcl .len #[-2]]),.asg (.nm 9) (.bin .Add true (.slc true (-2) .no (.ob (-5))) (.slc true (-2) (.ob (.bin .Add true (-5) (¬1))) .no)),.ret (.tup #[![109,111,118,101],.tup #[-5,-8],.bin .Add true (.bin .Add true (.slc true (-9) .no (.ob (-8))) (.lst true #[.idx (-2) (-5)])) (.slc true (-9) (.ob (-8)) .no)])]
noncomputable def uV:Sxs:=#[.ite (.val (.cmp .Eq (-1) (![98,97,99,107]))) #[.ret (.slc true (-0) .no (.ob (.neg (¬1))))] #[],.ret (.bin .Add true (-0) (.lst true #[-2]))]
noncomputable def zy:Sxs:=#[.asg (.nm 3) (.bin .Add true (¬1) ("_law_take"<|#[-0,-1])),.asg (.nm 4) ("_law_deeds_of"<|#[-0,¬3]),.asg (.nm 5) (.lst false #[]),.asg (.nm 6) (.lst false #[]),.for_ (.nm 7) (.rng ("_law_take"<|#[-0,.bin .Add true (-2) (¬1)])) #[.exp (.mth .append (-5) #["_law_form_like"<|#[-0,-3,-5]]),.exp (.mth .append (-6) #[.tup #[.idx (-5) (.neg (¬1)),.idx (-4) ("_law_take"<|#[-0,.bcl .len #[-4]])]])],.ret (.tup #[-3,.bcl .tuple #[-6]])]
noncomputable def zz:Sxs:=#[.asg (.tp #[.nm 3,.nm 4]) ("_law_book"<|#[-0,-1,-2]),.asg (.nm 4) (.lcl false .list #[-4]),.for_ (.nm 5) (.rng (.bin .Mult true ("_law_take"<|#[-0,¬4]) (.bcl .int #[.cmp .NotEq (-4) (.lst true #[])]))) #[.asg (.nm 6) ("_law_take"<|#[-0,.bcl .len #[-4]]),.asg (.nm 7) (.bin .Add true (.bin .Add true (-6) (¬1)) ("_law_take"<|#[-0,.bin .Sub true (.bcl .len #[-4]) (-6)])),.asg (.nm 8) ("_law_within"<|#[-0,.idx (.idx (-4) (-6)) (¬0)]),.asg (.nm 9) ("_law_take"<|#[-0,-3]),.ite (.boo true (.val (.cmp .Eq ("_law_take"<|#[-0,¬2]) (¬0))) #[.val (.cmp .NotEq (.idx (-8) (-9)) (![42]))]) #[.asg (.nm 10) (.idx (![49,48]) (.bcl .int #[.idx (-8) (-9)])),.asg (.nm 11) (.tup #[.bin .Add true (.bin .Add true (.slc true (-8) .no (.ob (-9))) (-10)) (.slc true (-8) (.ob (.bin .Add true (-9) (¬1))) .no),.idx (.idx (-4) (-6)) (¬1)]),.exp (.mth .insert (-4) #["_law_take"<|#[-0,.bin .Add true (-7) (¬1)],-11]),.asg (.nm 7) (.bin .Add true (-7) (¬1)),.asg (.nm 8) (.bin .Add true (.bin .Add true (.slc true (-8) .no (.ob (-9))) (![42])) (.slc true (-8) (.ob (.bin .Add true (-9) (¬1))) .no))] #[],.exp (.mth .insert (-4) #[-7,.tup #[-8,.idx (.idx (-4) ("_law_take"<|#[-0,.bcl .len #[-4]])) (¬1)]])],.ret (.tup #[-3,.bcl .tuple #[-4]])]
noncomputable def zA:Sxs:=#[.asg (.nm 1) (.lcl false .list #[.slc true (-0) .no (.ob (¬12))]),.for_ (.tp #[.nm 2,.nm 3]) (.enm (.slc true (-0) (.ob (¬12)) (.ob (¬63)))) #[.set (-1) (.bin .Mod true (-2) (¬12)) (.bin .Add true (.idx (-1) (.bin .Mod true (-2) (¬12))) (-3))],.ret (.lst false #[.frz (-1),¬0,¬0])]
noncomputable def mD:Sxs:=#[.ite (.val (.cmp .NotEq (.bcl .len #[-0]) (.bcl .len #[-1]))) #[.ret (.cst (.bl false))] #[],.ret (.bcl .all #[.comp true (.boo false (.cmp .Eq (-0) (![42])) #[.cmp .Eq (-0) (-1)]) (.tp #[.nm 0,.nm 1]) (.zip (-0) (-1)) .yes ["sign","given"] [none,none]])]
noncomputable def mF:Sxs:=#[.ret ("is_text_of"<|#[![48,49],-0,-1])]
noncomputable def iV:Sxs:=#[.exp ("need_book"<|#[-0]),.asg (.tp #[.nm 2,.nm 3]) (-0),.ite (.not (.val ("is_word"<|#[-2,-1]))) #[.rse "NoWord" #[-2]] #[],.for_ (.tp #[.nm 4,.nm 5]) (.enm (-3)) #[.ite (.val ("fits"<|#[.idx (-5) (¬0),-1])) #[.ret (-4)] #[]],.ret (.cst .non)]
noncomputable def mG:Sxs:=#[.exp ("need_row"<|#[-0,-1]),.asg (.nm 2) (.idx (-0) (¬1)),.asg (.nm 3) (.idx (.idx (-2) (-1)) (¬0)),.asg (.nm 4) ("grown"<|#[![117,110,100,101,114],.lst true #[.slc true (-2) .no (.ob (-1))],-3]),.asg (.nm 5) (.comp true ("least"<|#[-0]) (.tp #[.nm 0,.nm 1]) (.seq ("leaves"<|#[-3,-4])) (.val (.cmp .Is (.idx (-1) (¬1)) (.cst .non))) ["box","leaf"] [none,none]),.ite (.val (-5)) #[.ret (.tup #[![119,111,114,100],.bcl .min #[-5]])] #[],.ret (.tup #[![104,105,100,100,101,110],-4])]
noncomputable def mH:Sxs:=#[.exp ("need_book"<|#[-0]),.ret (.comp false (-0) (.nm 0) (.rng (.bcl .len #[.idx (-0) (¬1)])) (.val (.cmp .Eq (.idx ("reach"<|#[-1,-0]) (¬0)) (![104,105,100,100,101,110]))) ["number","book"] [none,some 0])]
noncomputable def zB:Sxs:=#[.for_ (.tp #[.nm 2,.nm 3]) (.zip (-0) (-1)) #[.ite (.boo true (.val (.cmp .NotEq (-2) (![42]))) #[.val (.cmp .NotEq (-2) (-3))]) #[.ret (.cst (.bl false))] #[]],.ret (.cst (.bl true))]
noncomputable def zE:Sxs:=#[.for_ (.tp #[.nm 2,.nm 3]) (.enm (.idx (-0) (¬1))) #[.ite (.val ("_law_fits"<|#[.idx (-3) (¬0),-1])) #[.ret (-2)] #[]],.ret (.cst .non)]
noncomputable def zF:Sxs:=#[.asg (.nm 2) ("_law_met"<|#[-0,-1]),.ite (.val (.cmp .Is (-2) (.cst .non))) #[.ret (.cst .non)] #[],.ret (.idx (.idx (.idx (-0) (¬1)) (-2)) (¬1))]
noncomputable def jR:Sxs:=#[.ite (.val (.cmp .Is (-1) (.cst .non))) #[.ret (.cmp .Is (-0) (.cst .non))] #[],.ite (.boo false (.val (.isi (-1) "bool")) #[.val (.isi (-0) "bool")]) #[.ret (.boo true (.isi (-1) "bool") #[.isi (-0) "bool",.cmp .Eq (-0) (-1)])] #[],.ite (.val (.isi (-1) "int")) #[.ret (.boo true (.isi (-0) "int") #[.cmp .Eq (-0) (-1)])] #[],.ite (.val (.isi (-1) "str")) #[.ret (.boo true (.isi (-0) "str") #[.cmp .Eq (-0) (-1)])] #[],.ite (.boo false (.val (.cmp .NotEq (.isi (-1) "tuple") (.isi (-0) "tuple"))) #[.val (.cmp .NotEq (.isi (-1) "list") (.isi (-0) "list"))]) #[.ret (.cst (.bl false))] #[],.ite (.val (.cmp .NotEq (.bcl .len #[-0]) (.bcl .len #[-1]))) #[.ret (.cst (.bl false))] #[],.ret (.cmp .NotIn (.cst (.bl false)) (.comp true ("_law_same"<|#[-0,-1]) (.tp #[.nm 0,.nm 1]) (.zip (-0) (-1)) .yes ["one","other"] [none,none]))]
noncomputable def zG:Sxs:=#[.asg (.nm 1) (.lst true #[![]]),.for_ (.nm 2) (.seq (-0)) #[.asg (.nm 3) (.lst false #[]),.for_ (.nm 4) (.seq (-1)) #[.exp (.mth .extend (-3) #[.comp true (.bin .Add true (-1) (-0)) (.nm 0) (.seq (.idx (.lst true #[![48,49],-2]) (.bcl .int #[.cmp .NotEq (-2) (![42])]))) .yes ["one","text"] [none,some 4]])],.asg (.nm 1) (.frz (-3))],.ret (-1)]
noncomputable def zH:Sxs:=#[.ite (.val (.cmp .Lt (-1) (¬6))) #[.ret ("_law_words"<|#[.bin .Mult true (![42]) (-1)])] #[],.ret (.comp true ("_law_signs"<|#[-1,-2,![48,49]]) (.nm 0) (.rng (¬8)) .yes ["k","pen","width"] [none,some 0,some 1])]
noncomputable def zJ:Sxs:=#[.asg (.nm 2) (.tup #[.idx (-0) (¬0),.slc true (.idx (-0) (¬1)) .no (.ob (-1))]),.asg (.nm 3) (.idx (.idx (.idx (-0) (¬1)) (-1)) (¬0)),.ret (.comp true (-0) (.nm 0) (.seq ("_law_words"<|#[-3])) (.val (.cmp .Is ("_law_met"<|#[-1,-0]) (.cst .non))) ["word","ahead"] [none,some 2])]
def mJ:Sxs:=#[.ret (.idx (.fld "Sieve" "books" (-0)) (.neg (¬1)))]
noncomputable def mK:Sxs:=#[.ite (.val (.cmp .Eq (.bcl .len #[.fld "Sieve" "books" (-0)]) (¬1))) #[.rse "Nothing" #[]] #[],.asg (.nm 1) (.pp0 (.fld "Sieve" "books" (-0))),.ret ("parting_word"<|#[-1,.mcl "Sieve.book" "Sieve" "book" (-0) #[]])]
noncomputable def mL:Sxs:=#[.asg (.nm 2) (.mcl "Sieve.book" "Sieve" "book" (-0) #[]),.exp (.mth .append (.fld "Sieve" "books" (-0)) #[.tup #[.idx (-2) (¬0),-1]]),.ret ("parting_word"<|#[-2,.mcl "Sieve.book" "Sieve" "book" (-0) #[]])]
noncomputable def mO:Sxs:=#[.exp ("need_row"<|#[.mcl "Sieve.book" "Sieve" "book" (-0) #[],-1]),.exp ("need_row"<|#[.mcl "Sieve.book" "Sieve" "book" (-0) #[],-2]),.asg (.nm 3) (.idx (.idx (.mcl "Sieve.book" "Sieve" "book" (-0) #[]) (¬1)) (-1)),.asg (.nm 4) (.idx ("without"<|#[.mcl "Sieve.book" "Sieve" "book" (-0) #[],-1]) (¬1)),.ret (.mcl "Sieve.turn" "Sieve" "turn" (-0) #[.bin .Add true (.bin .Add true (.slc true (-4) .no (.ob (-2))) (.tup #[-3])) (.slc true (-4) (.ob (-2)) .no)])]
noncomputable def mQ:Sxs:=#[.ret (.mcl "Sieve.turn" "Sieve" "turn" (-0) #[.idx ("without"<|#[.mcl "Sieve.book" "Sieve" "book" (-0) #[],-1]) (¬1)])]
noncomputable def mR:Sxs:=#[.asg (.tp #[.nm 4,.nm 5]) (.mcl "Sieve.book" "Sieve" "book" (-0) #[]),.ite (.not (.val ("is_place"<|#[.bin .Add true (.bcl .len #[-5]) (¬1),-1]))) #[.rse "NoRow" #[.bcl .len #[-5]]] #[],.ite (.boo false (.not (.val ("is_form"<|#[-4,-2]))) #[.not (.val ("is_deed"<|#[-3]))]) #[.rse "NoForm" #[-4]] #[],.ite (.val (.cmp .GtE (.bcl .len #[-5]) (.glb "MOST_ROWS" (.int 12)))) #[.rse "Full" #[.glb "MOST_ROWS" (.int 12)]] #[],.ret (.mcl "Sieve.turn" "Sieve" "turn" (-0) #[.bin .Add true (.bin .Add true (.slc true (-5) .no (.ob (-1))) (.tup #[.tup #[-2,-3]])) (.slc true (-5) (.ob (-1)) .no)])]
noncomputable def jT:Sxs:=#[.ite (.val (.cmp .Eq (-1) (![112,117,116]))) #[.ret (.mcl "Sieve.put" "Sieve" "put" (-0) #[.idx (-2) (¬0),.idx (-2) (¬1),.idx (-2) (¬2)])] #[],.ite (.val (.cmp .Eq (-1) (![111,117,116]))) #[.ret (.mcl "Sieve.out" "Sieve" "out" (-0) #[.idx (-2) (¬0)])] #[],.ite (.val (.cmp .Eq (-1) (![109,111,118,101]))) #[.ret (.mcl "Sieve.move" "Sieve" "move" (-0) #[.idx (-2) (¬0),.idx (-2) (¬1)])] #[],.ret (.mcl "Sieve.back" "Sieve" "back" (-0) #[])]
noncomputable def iW:Sxs:=#[.ret ("deed_of"<|#[.mcl "Sieve.book" "Sieve" "book" (-0) #[],"met"<|#[.mcl "Sieve.book" "Sieve" "book" (-0) #[],-1]])]
noncomputable def zK:Sxs:=#[.ret ("hidden_reached"<|#[.mcl "Sieve.book" "Sieve" "book" (-0) #[]])]
noncomputable def zL:Sxs:=#[.asg (.nm 2) (.cst (.bl false)),.tryx (.mcl "Sieve.deed" "Sieve" "deed" (-0) #[-1]) "NoWord" (.flag 2 true) ["NoBook","NoMatch","NoWord","NoRow","NoForm","Full","Nothing"],.ret (-2)]
noncomputable def zM:Sxs:=#[.for_ (.nm 3) (.seq ("_law_some_words"<|#[-0,.idx (-2) (¬0)])) #[.ite (.not (.val ("_law_same"<|#[.mcl "Sieve.deed" "Sieve" "deed" (-1) #[-3],"_law_deed"<|#[-2,-3]]))) #[.ret (.cst (.bl false))] #[]],.asg (.nm 3) ("_law_signs"<|#[-0,.idx (-2) (¬0),![48,49]]),.ite (.boo false (.not (.val ("_law_no_word"<|#[-1,.bin .Add true (-3) (![48])]))) #[.not (.val ("_law_no_word"<|#[-1,.bin .Add true (![42]) (.slc true (-3) (.ob (¬1)) .no)])),.not (.val ("_law_no_word"<|#[-1,.cst .non]))]) #[.ret (.cst (.bl false))] #[],.asg (.nm 4) (.comp true (-0) (.nm 0) (.rng (.bcl .len #[.idx (-2) (¬1)])) (.val (.cmp .Eq ("_law_under"<|#[-1,-0]) (.lst true #[]))) ["number","book"] [none,some 2]),.for_ (.nm 5) (.rng (¬2)) #[.asg (.nm 6) (.mcl "Sieve.hidden" "Sieve" "hidden" (-1) #[]),.ite (.not (.val ("_law_same"<|#[-6,-4]))) #[.ret (.cst (.bl false))] #[],.exp (.mth .append (-6) #[¬12])],.ret (.cst (.bl true))]
noncomputable def zN:Sxs:=#[.asg (.nm 1) ("_law_open"<|#[-0]),.for_ (.nm 2) (.rng (¬2)) #[.asg (.nm 3) ("_law_layered_book"<|#["_law_anew"<|#[-1],.idx (.lst true #[¬5,¬6]) (-2),¬6]),.asg (.nm 4) (.mko "Sieve" #[-3]),.asg (.tp #[.nm 5,.nm 6]) (-3),.asg (.nm 6) (.lcl true .list #[-6]),.asg (.nm 7) (.lst true #[]),.for_ (.nm 8) (.rng (.bin .Add true (¬4) ("_law_take"<|#[-1,¬6]))) #[.ite (.not (.val ("_law_right"<|#[-1,-4,.tup #[-5,.bcl .tuple #[-6]]]))) #[.ret (.cst (.bl false))] #[],.asg (.tp #[.nm 9,.nm 10,.nm 11]) ("_law_drawn_change"<|#[-1,-5,-6,-7]),.exp ("_law_do"<|#[-4,-9,-10]),.asg (.nm 7) ("_law_elder"<|#[-7,-9,-6]),.asg (.nm 6) (-11)],.ite (.not (.val ("_law_right"<|#[-1,-4,.tup #[-5,.bcl .tuple #[-6]]]))) #[.ret (.cst (.bl false))] #[]],.ret (.cst (.bl true))]
end
end RF
local macro_rules | `(tactic| simp_arith [$l,*] $[$c:location]?) => `(tactic| simp -implicitDefEqProofs only [↓RF.adH, ↓RF.Ow, RF.Oz, RF.env0, RF.ends, String.reduceBEq, $l,*] $[$c:location]?)
local macro_rules | `(tactic| simp_arith! [$l,*] $[$c:location]?) => `(tactic| simp -implicitDefEqProofs only [↓RF.Ow, RF.Oz, RF.env0, RF.ends, String.reduceBEq, $l,*] $[$c:location]?)
local macro_rules | `(tactic| simp_all_arith [$l,*]) => `(tactic| simp -implicitDefEqProofs only [RF.env0, RF.ends, List.map_cons, List.map_nil, List.cons_append, List.nil_append, List.replicate_succ, List.replicate_zero, $l,*])
namespace RF
open PySem L2
theorem gP{i j:Int}(h:-(2 ^ 64) < j/\j < 2 ^ 64):CMul i j:=.inr h
theorem zO{i j:Int}(h:-(2 ^ 64) < i/\i < 2 ^ 64):CMul i j:=.inl h
theorem OD{j:Int}(h:0<=j/\j<=1000):qF 10 j:=⟨h.1,by omega,by decide⟩
def uW:RF.Spec:=bz (λds _=>∃c k:Int,ds=[.int c,.int k]/\0<=k) (λ_ G d G'=>G'=G/\∃r:Int,d=.int r/\0<=r)
theorem adL(Φ:aa)(ds:List D)(G:DH)(h:∃c k:Int,ds=[.int c,.int k]/\0<=k):aq Φ zc noE (env0 ds 3) G (ends λd G'=>G'=G/\∃r:Int,d=.int r/\0<=r):=by
 obtain ⟨c,k,rfl,hk⟩:=h;simp_arith[zc];refine ⟨OD (by decide),?_⟩;cases hc:decide (10 ^ Int.toNat 18<=c) with
 |true=>
  refine ⟨c,rfl,?_⟩;have:=c8 hc;have h2:(0:Int)<=(10:Int) ^ (18:Int).toNat:=by decide
  exact Int.le_trans h2 this
 |false=>
  generalize hone:(c % 1000000007 * 69069+k * 40503+977) % 2147483629=one;have o1:0<=one:=by rw[<-hone];exact ff _ (by decide)
  have o2:one < 2147483629:=by rw[<-hone];exact e8 _ (by decide)
  generalize htwo:(one * one+k * 7919+c % 65537) % 2147483587=two;have t1:0<=two:=by rw[<-htwo];exact ff _ (by decide)
  have t2:two < 2147483587:=by rw[<-htwo];exact e8 _ (by decide)
  generalize hthree:(two * two+one * 31+5) % 2147483563=three;have h1:0<=three:=by rw[<-hthree];exact ff _ (by decide)
  clear hone htwo hthree;refine ⟨by decide,gP (by decide),gP (by decide),by decide,zO (by omega),gP (by decide),by decide,by decide,zO (by omega),gP (by decide),by decide,gP (by decide),gP (by decide),_,rfl,?_⟩;omega
def Pen(G:DH)(p:Addr):Prop:=∃(ns:List Int)(k st:Int),G p=some (.lst [.lst (ns.map D.int),.int k,.int st])/\0<=k/\0<=st
theorem Pen.sa{G G':DH}{p:Addr}(h:Pen G p)(s:Sa G G'):Pen G' p:=by obtain ⟨ns,k,st,e,h1⟩:=h;exact ⟨ns,k,st,s _ _ e,h1⟩
theorem Pen.ne{G:DH}{p q:Addr}(h:Pen G p)(e:G q=none):p≠q:=by obtain ⟨ns,k,st,e1,h1⟩:=h;exact wQ e1 e
theorem Pen.sb{G G':DH}{p q:Addr}(h:Pen G p)(s:Sb q G G')(n:p≠q):Pen G' p:=by obtain ⟨ns,k,st,e,h1⟩:=h;exact ⟨ns,k,st,s _ _ e n,h1⟩
def uX:RF.Spec:=bz (λds G=>∃p,ds=[.ref p]/\Pen G p) (λds G d G'=>∃p,ds=[.ref p]/\d=.ref p/\Pen G' p/\Sb p G G')
theorem adM(Φ:aa)(ds:List D)(G:DH)(h:∃p,ds=[.ref p]/\Pen G p):aq Φ zb noE (env0 ds 0) G (ends λd G'=>∃p,ds=[.ref p]/\d=.ref p/\Pen G' p/\Sb p G G'):=by obtain ⟨p,rfl,ns,k,st,e,h1,h2⟩:=h;simp_arith[zb,bZ e];exact ⟨p,rfl,rfl,⟨ns,k,0,bf,h1,by decide⟩,Sb.upd⟩
def dw:RF.Spec:=bz (λds G=>∃p,∃m:Int,ds=[.ref p,.int m]/\Pen G p/\0 < m/\m < 1152921504606846976) (λds G d G'=>∃p,∃m r:Int,ds=[.ref p,.int m]/\d=.int r/\0<=r/\r < m/\Pen G' p/\Sb p G G')
theorem adN (Φ:aa) (hΦ:Φ "_law_spread"=uW) (ds:List D) (G:DH) (h:∃p,∃m:Int,ds=[.ref p,.int m]/\Pen G p/\0 < m/\m < 1152921504606846976):
  aq Φ zf noE (env0 ds 3) G (ends λd G'=>∃p,∃m r:Int,ds=[.ref p,.int m]/\d=.int r/\0<=r/\r < m/\Pen G' p/\Sb p G G'):=by
 obtain ⟨p,m,rfl,⟨ns,k,st,e,h1,h2⟩,h3,h4⟩:=h;simp_all_arith[zf];refine seq λM hM=>?_;have fin:∀(ρ2 ρ3 ρ4:Option D)(G1:DH)(k1 s1:Int),0<=k1->0<=s1->G1 p=some (.lst [.lst (ns.map D.int),.int k1,.int s1])->Sb p G G1->M [some (.ref p),some (.int m),ρ2,ρ3,ρ4] G1:=by intro ρ2 ρ3 ρ4 G1 k1 s1 q1 q2 e1 sb;refine hM _ _ ?_;simp_arith[bR e1,bZ e1];refine ⟨h3,⟨h3,h4⟩,p,m,_,rfl,rfl,ff _ (by omega),e8 _ h3,⟨ns,k1,_,bf,q1,?_⟩,sb.trans Sb.upd⟩;exact Int.ediv_nonneg q2 (by omega)
 simp_arith[bR e,bZ e,hΦ];have draw:∀c:Int,uW.t [.int c,.int k] (aK G p (.lst [.lst (ns.map D.int),.int (k+1),.int st])) (λx G1=>trk G1 p λds=>bj (ixN ds.length 2) λj=>M [some (.ref p),some (.int m),some (.int k),some (.int c),none] (aK G1 p (.lst (ds.set j x)))) noE:=by intro c;refine bM ⟨c,k,rfl,h1⟩ λd G' hx=>?_;obtain ⟨e1,r,e2,hr⟩:=hx;subst e1 e2;simp_arith[bZ bf];refine fin _ _ _ _ (k+1) r (by omega) hr bf (Sb.trans Sb.upd Sb.upd)
 cases hc:decide (st < m) with
 |false=>exact fin _ _ _ _ k st h1 h2 e (Sb.refl _ _)
 |true=>
  cases hk:decide (k < ((ns.map D.int).length:Int)) with
  |true=>
   have hk:=c8 hk;rw[ag]at hk;refine bG (a:=.int ns[k.toNat]) ?_ ?_
   ·obtain ⟨n,rfl⟩:=c6 h1;exact bB (by simp at hk ⊢)
   ·exact draw _
  |false=>
   cases hz:decide (0 < ((ns.map D.int).length:Int)) with
   |false=>exact draw 0
   |true=>
    have hz:=c8 hz;have j1:0<=(k * 5+3) % ((ns.map D.int).length:Int):=ff _ (by omega);have j2:(k * 5+3) % ((ns.map D.int).length:Int) < ((ns.map D.int).length:Int):=e8 _ hz;obtain ⟨j,hj⟩:=c6 j1;rw[hj]at j2;have j3:j < ns.length:=by rw[ag]at j2;omega
    refine ⟨gP (by decide),hz,bG (a:=.int ns[j]) ?_ ⟨OD (by decide),?_⟩⟩
    ·rw[hj];exact bB (by simp[j3])
    ·simp_arith[bZ e];refine ⟨?_,draw _⟩;have:(0:Int) < 10 ^ Int.toNat 17:=by decide
     omega
def iY:RF.Spec:=bz (λds G=>∃p,∃n:Nat,∃cs:List Nat,ds=[.ref p,.int n,.str cs]/\Pen G p/\n<=1000/\cs≠[]/\cs.length<=1000)
 (λds G d G'=>∃p,∃n:Nat,∃cs l:List Nat,ds=[.ref p,.int n,.str cs]/\d=.str l/\l.length=n/\(∀c∈l,c∈cs)/\Pen G' p/\Sb p G G')
theorem adO(l:List Nat):((l.map λc=>[c]).map (·.length)).sum=l.length:=by
 induction l with
 |nil=>rfl
 |cons a l ih=>simp at ih ⊢;omega
theorem adP(l:List Nat):(l.map λc=>[c]).flatten=l:=by
 induction l with
 |nil=>rfl
 |cons a l ih=>simp at ih ⊢;exact ih
theorem adQ (Φ:aa) (hΦ:Φ "_law_take"=dw) (ds:List D) (G:DH) (h:∃p,∃n:Nat,∃cs:List Nat,ds=[.ref p,.int n,.str cs]/\Pen G p/\n<=1000/\cs≠[]/\cs.length<=1000):
  aq Φ zg noE (env0 ds 0) G (ends λd G'=>∃p,∃n:Nat,∃cs l:List Nat,ds=[.ref p,.int n,.str cs]/\d=.str l/\l.length=n/\(∀c∈l,c∈cs)/\Pen G' p/\Sb p G G'):=by
 obtain ⟨p,n,cs,rfl,hp,hn,hc,hl⟩:=h;have hc1:0 < cs.length:=dn.mpr hc;simp_arith[zg,hΦ];refine ⟨by omega,CompG.inv (P:=λi acc ρ G'=>(∃o,ρ=[o,some (.str cs),some (.ref p)])/\Pen G' p/\Sb p G G'/\∃l:List Nat,acc=l.map (λc=>D.str [c])/\l.length=i/\∀c∈l,c∈cs) (h0:=⟨⟨_,rfl⟩,hp,Sb.refl _ _,[],rfl,rfl,by simp⟩) (hh:=λ_ _ _ _ _=>trivial) (hl:=by simp[aW];have hsz:sz=1000000:=rfl;omega) (hs:=?_) (he:=?_)⟩
 ·rintro i d acc ρ G' hd ⟨⟨o,rfl⟩,hp',sb,l,rfl,hl',hm⟩ kk hk;simp_arith[hΦ];refine bM ⟨p,_,rfl,hp',by omega,by omega⟩ λd' G2 hx=>?_;obtain ⟨p2,m2,r,e1,e2,r0,r1,pp2,sb2⟩:=hx;cases e1;subst e2;obtain ⟨j,rfl⟩:=c6 r0;have hj:j < cs.length:=by omega
  simp_arith[ends];refine bG (a:=cs[j]) (bB (by simp[hj])) (hk _ _ _ ⟨⟨_,rfl⟩,pp2,sb.trans sb2,l++[cs[j]],by simp,by simp[hl'],?_⟩);intro c hc;rcases ba.mp hc with h |h
  ·exact hm c h
  ·rw[aT.mp h];exact cw _
 ·rintro acc ρ G' ⟨_,hp',sb,l,rfl,hl',hm⟩;simp_arith[strs_map];have hl2:l.length=n:=by rw[hl'];simp[aW]
  refine ⟨?_,p,n,cs,l,rfl,?_,hl2,hm,hp',sb⟩
  ·rw[adO];simp;have hsz:sz=1000000:=rfl;omega
  ·rw[Iu,adP]
def isF(c:Nat):Prop:=c=48\/c=49\/c=42
def zP:RF.Spec:=bz (λds G=>∃p,∃n:Nat,ds=[.ref p,.int n]/\Pen G p/\n<=1000) (λds G d G'=>∃p,∃n:Nat,∃l:List Nat,ds=[.ref p,.int n]/\d=.str l/\l.length=n/\(∀c∈l,isF c)/\Pen G' p/\Sb p G G')
theorem adR (Φ:aa) (h1:Φ "_law_take"=dw) (h2:Φ "_law_signs"=iY) (ds:List D) (G:DH) (h:∃p,∃n:Nat,ds=[.ref p,.int n]/\Pen G p/\n<=1000):
  aq Φ zm noE (env0 ds 0) G (ends λd G'=>∃p,∃n:Nat,∃l:List Nat,ds=[.ref p,.int n]/\d=.str l/\l.length=n/\(∀c∈l,isF c)/\Pen G' p/\Sb p G G'):=by
 obtain ⟨p,n,rfl,hp,hn⟩:=h;simp_arith[zm,h1,h2];refine ⟨by decide,bM ⟨p,_,rfl,hp,by decide,by decide⟩ λd' G2 ⟨p2,m2,r,e1,e2,r0,r1,pp2,sb2⟩=>?_⟩;cases e1;subst e2;obtain ⟨j,rfl⟩:=c6 r0;simp_arith[ends];have:∃cs:List Nat,atI [D.str [48,49,42],D.str [48,49,42,42],D.str [48,49,42,42,42,42],D.str [48,42],D.str [48,49]] ((j:Nat):Int)=some (.str cs)/\cs≠[]/\cs.length<=1000/\∀c∈cs,isF c:=by
  have hj:j=0\/j=1\/j=2\/j=3\/j=4:=by omega
  rcases hj with rfl |rfl |rfl |rfl |rfl <;> exact ⟨_,rfl,by decide,by decide,by simp[isF]⟩
 obtain ⟨cs,e,c1,c2,c3⟩:=this;refine bG e (bM ⟨p,n,cs,rfl,pp2,hn,c1,c2⟩ λd G3 ⟨p3,n3,cs3,l,e1,e2,q1,q2,q3,q4⟩=>?_);cases e1;exact ⟨p,n,l,rfl,e2,q1,λc hc=>c3 c (q2 c hc),q3,sb2.trans q4⟩
def zQ:RF.Spec:=bz (λds _=>∃ns:List Int,ds=[.scr ns]/\ns.length<=63) (λ_ G d G'=>∃p,d=.ref p/\G p=none/\Pen G' p/\Sa G G')
theorem adS(Φ:aa)(ds:List D)(G:DH)(h:∃ns:List Int,ds=[.scr ns]/\ns.length<=63):aq Φ zA noE (env0 ds 3) G (ends λd G'=>∃p,d=.ref p/\G p=none/\Pen G' p/\Sa G G'):=by
 obtain ⟨ns,rfl,hl⟩:=h;simp_all_arith[zA];refine seq λM hM=>?_;simp_arith[ends];intro c hc;refine hM _ _ ?_;refine seq λM hM=>?_;simp_arith[ends];refine ForG.inv (λi ρ G'=>∃(o2 o3:Option D)(xs:List Int),ρ=[some (.scr ns),some (.ref c),o2,o3]/\G'=aK G c (.lst (xs.map D.int))/\(12<=xs.length\/cut ns (some 12) (some 63)=[])) ⟨_,_,cut ns none (some 12),rfl,rfl,?_⟩ (λ_ _ _ _=>trivial) ?_ ?_
 ·by_cases h12:12<=ns.length
  ·left;simp[cut,HT.sIx];omega
  ·right;simp[cut,HT.sIx];omega
 ·rintro i d ρ G' hd ⟨o2,o3,xs,rfl,rfl,hx⟩ kk hk;rw[iQ]at hd;obtain ⟨d',hd',e3⟩:=ax.mp hd;subst e3;rw[aE]at hd';obtain ⟨x,hx',e4⟩:=ax.mp hd';subst e4;have h12:12<=xs.length:=by
   rcases hx with h |h
   ·exact h
   ·rw[h]at hx';simp at hx'
  obtain ⟨j,hj⟩:=c6 (ff ((0+i:Nat):Int) (by decide:(12:Int)≠0));have hj12:j < 12:=by have:=e8 ((0+i:Nat):Int) (by decide:(0:Int) < 12);omega
  have hjx:j < xs.length:=by omega
  simp_arith[hj,bR bf,bZ bf];refine ⟨by decide,bG (a:=.int xs[j]) (bB (by simp[hjx])) ?_⟩;simp_arith[hj,bR bf,bZ bf,ag,adz hjx];refine ⟨by decide,hk _ _ ⟨_,_,xs.set j (xs[j]+x),rfl,?_,by simp[h12]⟩⟩;rw[aaB,List.map_set]
 ·rintro ρ G' ⟨o2,o3,xs,rfl,rfl,hx⟩;refine hM _ _ ?_;simp_arith[bf];refine ⟨by have hsz:sz=1000000:=rfl;omega,λp hp=>⟨p,rfl,?_,⟨xs,0,0,bf,by decide,by decide⟩,?_⟩⟩
  ·rw[Eu hc]at hp;exact hp
  ·rw[Eu hc]at hp ⊢;exact Sa.new hp
def mU:RF.Spec:=bz (λds _=>∃ns:List Int,ds=[.scr ns]/\ns.length<=63) (λ_ _ d _=>d=.bl true)
def whole:D->Bool
 |.int _=>true
 |_=>false
def iZ:List D->Option D
 |[x]=>if nr x then some (.bl (whole x)) else none
 |_=>none
theorem adT(Φ:aa)(ds:List D)(G:DH)(d:D)(h:iZ ds=some d):aq Φ lK noE (env0 ds 0) G (ends λd' G'=>G'=G/\d'=d):=by
 unfold iZ at h;split at h
 ·rename_i x;split at h
  ·rename_i hx;cases h;cases x <;> first | (simp[nr]at hx;done) | (simp_arith[lK,whole];try simp)
  ·cases h
 ·cases h
noncomputable def isText(s:List Nat)(w:Int):D->Bool
 |.str l=>decide ((l.length:Int)=w)&&l.all (λc=>s.contains c)
 |_=>false
def szd:D->Bool
 |.str l=>decide (l.length<=100000)
 |_=>true
noncomputable def fText:List D->Option D
 |[.str s,.int w,x]=>if nr x&&szd x then some (.bl (isText s w x)) else none
 |_=>none
theorem all_map{l:List Nat}{f:Nat->Bool}:((l.map f).all id)=l.all f:=by
 induction l with
 |nil=>rfl
 |cons a l ih=>simp[ih]
theorem adU(Φ:aa)(ds:List D)(G:DH)(d:D)(h:fText ds=some d):aq Φ jO noE (env0 ds 0) G (ends λd' G'=>G'=G/\d'=d):=by
 unfold fText at h;split at h
 ·rename_i s w x;split at h
  ·rename_i hx;cases h;rw[ae]at hx;cases x with
   |str l=>
    have hl:l.length<=100000:=by simpa [szd] using hx.2
    simp_arith[jO,isText];by_cases hw:(l.length:Int)=w
    ·have hb:(((l.length:Int)==w):Bool)=true:=by simp[hw]
     simp_arith[hb];refine CompG.map (f:=λd=>match d with |.str [c]=>.bl (s.contains c) |_=>.non) (I:=λρ=>∃o,ρ=[o,some (.str s)]) ⟨_,rfl⟩ trivial (by simp;have hsz:sz=1000000:=rfl;omega) ?_ ?_
     ·rintro d ρ hd ⟨o,rfl⟩ kk hk;obtain ⟨c,_,rfl⟩:=b6.mp hd;simp_arith[ends];exact hk _ ⟨_,rfl⟩
     ·rw[eM];simp_arith[Function.comp_def,uP,all_map];simp only[a8 hw,ft,fE]
    ·have hb:(((l.length:Int)==w):Bool)=false:=by simp[hw]
     simp_arith[hb];simp[hw]
   |ref p=>simp[nr]at hx
   |scr p=>simp[nr]at hx
   |exn p=>simp[nr]at hx
   |obj _ _ _=>simp[nr]at hx
   |_=>simp_arith[jO,isText];try simp
  ·cases h
 ·cases h
noncomputable def jU:List D->Option D
 |[.int w,x]=>if nr x&&szd x then some (.bl (isText [48,49] w x)) else none
 |_=>none
theorem adV (Φ:aa) (h1:Φ "is_text_of"=aM fText) (ds:List D) (G:DH) (d:D) (h:jU ds=some d):aq Φ mF noE (env0 ds 0) G (ends λd' G'=>G'=G/\d'=d):=by
 unfold jU at h;split at h
 ·rename_i w x;split at h
  ·rename_i hx;cases h;simp_arith[mF,h1];exact cH (d:=.bl (isText [48,49] w x)) (if_pos hx) ⟨rfl,rfl⟩
  ·cases h
 ·cases h
theorem adW{n:Nat}:isIn (.bl false) (List.replicate n (.bl true))=false:=by
 induction n with
 |zero=>rfl
 |succ n ih=>simp only[isIn,b9,List.any_cons,deq]at ih ⊢;rw[ih];rfl
theorem adX{n:Nat}{b:Bool}:nrs (List.replicate n (.bl b))=true:=by
 induction n with
 |zero=>rfl
 |succ n ih=>rw[b9,nrs,ih];rfl
theorem adY{n:Nat}{b:Bool}:aX (List.replicate n (.bl b))=0:=by
 induction n with
 |zero=>rfl
 |succ n ih=>rw[b9,aX,ih];rfl
def okF(w:Nat)(l:List Nat):Prop:=l.length=w/\∀c∈l,isF c
theorem okF.app{w v:Nat}{l m:List Nat}(h:okF w l)(h':okF v m):okF (w+v) (l++m):=⟨by rw[av,h.1,h'.1],λc hc=>(ba.mp hc).elim (h.2 c) (h'.2 c)⟩
theorem okF.one{c:Nat}(h:isF c):okF 1 [c]:=⟨rfl,λd hd=>by rw[aT.mp hd];exact h⟩
theorem bD{p:Addr}{m:Int}{G:DH}{k:D->DH->Prop}{E:EK}(hp:Pen G p)(h1:0 < m)(h2:m < 1152921504606846976)(hk:∀(r:Nat)(G':DH),(r:Int) < m->Pen G' p->Sb p G G'->k (.int r) G'):dw.t [.ref p,.int m] G k E:=by refine bM ⟨p,m,rfl,hp,h1,h2⟩ λd G' hx=>?_;obtain ⟨p2,m2,r,e1,e2,r0,r1,hp',sb⟩:=hx;cases e1;subst e2;obtain ⟨n,rfl⟩:=c6 r0;exact hk n G' r1 hp' sb
theorem adZ{n:Nat}(h:(n:Int) < 2):∃c,atI [48,49] (n:Int)=some c/\isF c:=by
 have:n=0\/n=1:=by omega
 rcases this with rfl |rfl
 ·exact ⟨48,rfl,.inl rfl⟩
 ·exact ⟨49,rfl,.inr (.inl rfl)⟩
theorem ad0{n:Nat}(h:(n:Int) < 3):∃c,atI [48,49,42] (n:Int)=some c/\isF c:=by
 have:n=0\/n=1\/n=2:=by omega
 rcases this with rfl |rfl |rfl
 ·exact ⟨48,rfl,.inl rfl⟩
 ·exact ⟨49,rfl,.inr (.inl rfl)⟩
 ·exact ⟨42,rfl,.inr (.inr rfl)⟩
def zR(ds:List D)(G:DH):Prop:=∃p l,ds=[.ref p,.str l]/\Pen G p/\(∀c∈l,isF c)/\l.length<=1000
def zT(ds:List D)(G:DH)(d:D)(G':DH):Prop:=∃p l m,ds=[.ref p,.str l]/\d=.str m/\okF l.length m/\Pen G' p/\Sb p G G'
def gQ:RF.Spec:=bz zR zT
theorem zU{p:Addr}{l:List Nat}{G:DH}{k:D->DH->Prop}{E:EK}(hp:Pen G p)(hl:∀c∈l,isF c)(h2:l.length<=1000)(hk:∀(m:List Nat)(G':DH),okF l.length m->Pen G' p->Sb p G G'->k (.str m) G'):gQ.t [.ref p,.str l] G k E:=by refine bM ⟨p,l,rfl,hp,hl,h2⟩ λd G' hx=>?_;obtain ⟨p2,l2,m,e1,e2,h,hp',sb⟩:=hx;cases e1;subst e2;exact hk m G' h hp' sb
theorem ad1 (Φ:aa) (h1:Φ "_law_take"=dw) (ds:List D) (G:DH) (h:zR ds G):aq Φ zq noE (env0 ds 2) G (ends (zT ds G)):=by
 obtain ⟨p,l,rfl,hp,hl,hl2⟩:=h;simp_all_arith[zq];refine seq λM hM=>?_;simp_arith[ends];refine hM _ _ (seq λM hM=>?_);simp_arith![ends];refine ForG.inv (P:=λi ρ G'=>(∃o m,ρ=[some (.ref p),some (.str l),some (.str m),o]/\okF i m)/\Pen G' p/\Sb p G G') ⟨⟨_,_,rfl,rfl,by simp⟩,hp,Sb.refl _ _⟩ (λ_ _ _ _=>trivial) ?_ ?_
 ·rintro i d ρ G2 hd ⟨⟨o,m,rfl,hm⟩,hp2,sb2⟩ kk hk;rw[aE]at hd;obtain ⟨c,hc,rfl⟩:=ax.mp hd;have hi:i < l.length:=(am.mp hc).1;have fc:=hl c (bP hc);have l1:=hm.1;simp_arith![ends];refine seq λM hM=>?_;have fin:∀(c:Nat)(G3:DH),isF c->Pen G3 p->Sb p G2 G3->M [some (.ref p),some (.str l),some (.str m),some (.str [c])] G3:=by
   intro c G3 fc hp3 sb3;refine hM _ _ (last ?_);simp_arith[ends];exact ⟨by have hsz:sz=1000000:=rfl;omega,hk _ _ ⟨⟨_,_,rfl,hm.app (okF.one fc)⟩,hp3,sb2.trans sb3⟩⟩
  simp_arith[h1];cases ht:([c]==[42]) with
  |false=>exact fin c G2 fc hp2 (Sb.refl _ _)
  |true=>
   refine bD hp2 (by decide) (by decide) λr G3 hr hp3 sb3=>?_;simp_arith[ends];cases hr0:((r:Int)==0) with
   |false=>exact fin c G3 fc hp3 sb3
   |true=>
    refine bD hp3 (by decide) (by decide) λr' G4 hr' hp4 sb4=>?_;obtain ⟨c',e,fc'⟩:=adZ hr';simp_arith[e];exact fin c' G4 fc' hp4 (sb3.trans sb4)
 ·rintro ρ G2 ⟨⟨o,m,rfl,hm⟩,hp2,sb2⟩;refine hM _ _ ?_;simp_arith[ends];exact ⟨p,l,m,rfl,rfl,by simpa using hm,hp2,sb2⟩
theorem ad2 (Φ:aa) (h1:Φ "_law_take"=dw) (ds:List D) (G:DH) (h:zR ds G):aq Φ zp noE (env0 ds 2) G (ends (zT ds G)):=by
 obtain ⟨p,l,rfl,hp,hl,hl2⟩:=h;simp_all_arith[zp];refine seq λM hM=>?_;simp_arith[ends];refine hM _ _ (seq λM hM=>?_);simp_arith![ends];refine ForG.inv (P:=λi ρ G'=>(∃o m,ρ=[some (.ref p),some (.str l),some (.str m),o]/\okF i m)/\Pen G' p/\Sb p G G') ⟨⟨_,_,rfl,rfl,by simp⟩,hp,Sb.refl _ _⟩ (λ_ _ _ _=>trivial) ?_ ?_
 ·rintro i d ρ G2 hd ⟨⟨o,m,rfl,hm⟩,hp2,sb2⟩ kk hk;rw[aE]at hd;obtain ⟨c,hc,rfl⟩:=ax.mp hd;have hi:i < l.length:=(am.mp hc).1;have fc:=hl c (bP hc);have l1:=hm.1;simp_arith![ends];refine seq λM hM=>?_;have fin:∀(c:Nat)(G3:DH),isF c->Pen G3 p->Sb p G2 G3->M [some (.ref p),some (.str l),some (.str m),some (.str [c])] G3:=by
   intro c G3 fc hp3 sb3;refine hM _ _ (last ?_);simp_arith[ends];exact ⟨by have hsz:sz=1000000:=rfl;omega,hk _ _ ⟨⟨_,_,rfl,hm.app (okF.one fc)⟩,hp3,sb2.trans sb3⟩⟩
  simp_arith[h1];refine bD hp2 (by decide) (by decide) λr G3 hr hp3 sb3=>?_;simp_arith[ends];cases hr0:((r:Int)==0) with
  |false=>exact fin c G3 fc hp3 sb3
  |true=>exact fin 42 G3 (.inr (.inr rfl)) hp3 sb3
 ·rintro ρ G2 ⟨⟨o,m,rfl,hm⟩,hp2,sb2⟩;refine hM _ _ ?_;simp_arith[ends];exact ⟨p,l,m,rfl,rfl,by simpa using hm,hp2,sb2⟩
theorem OJ{G G':DH}{p:Addr}{x:D}{fs:List (List Nat)}(hv:view G x=.lst (fs.map D.str))(hp:Pen G p)(sb:Sb p G G'):view G' x=.lst (fs.map D.str):=by
 cases x with
 |ref q=>
  unfold view at hv;dsimp only at hv;cases g:G q with
  |none=>rw[g]at hv;cases hv
  |some o=>
   cases o with
   |lst ds=>
    rw[g]at hv;have e:ds=fs.map D.str:=by simpa using hv
    have hn:q≠p:=by
     rintro rfl;obtain ⟨ns,k,st,e1,_⟩:=hp;rw[g,e]at e1;cases fs with
     |nil=>simp at e1
     |cons a r=>simp at e1
    rw[bR (sb q _ g hn),e]
 |lst l=>exact hv
 |_=>cases hv
def O1(ds:List D)(G:DH):Prop:=∃p,∃w:Nat,∃x,∃fs:List (List Nat),ds=[.ref p,.int w,x]/\Pen G p/\0 < w/\w<=1000/\view G x=.lst (fs.map D.str)/\fs.length<=1000/\∀f∈fs,okF w f
def zV(ds:List D)(G:DH)(d:D)(G':DH):Prop:=∃p,∃w:Nat,∃x m,ds=[.ref p,.int w,x]/\d=.str m/\okF w m/\Pen G' p/\Sb p G G'
def mV:RF.Spec:=bz O1 zV
theorem O2{p:Addr}{w:Nat}{x:D}{fs:List (List Nat)}{G:DH}{k:D->DH->Prop}{E:EK}(hp:Pen G p)(h1:0 < w)(h2:w<=1000)(hv:view G x=.lst (fs.map D.str))(h3:fs.length<=1000)(h4:∀f∈fs,okF w f)
  (hk:∀(m:List Nat)(G':DH),okF w m->Pen G' p->Sb p G G'->k (.str m) G'):mV.t [.ref p,.int w,x] G k E:=by
 refine bM ⟨p,w,x,fs,rfl,hp,h1,h2,hv,h3,h4⟩ λd G' hx=>?_;obtain ⟨p2,w2,x2,m,e1,e2,h,hp',sb⟩:=hx;simp only[c9,D.ref.injEq,D.int.injEq,Int.ofNat_inj,fe]at e1;obtain ⟨rfl,rfl,rfl⟩:=e1;subst e2;exact hk m G' h hp' sb
theorem O3(fs:List (List Nat)):nrs (fs.map D.str)=true:=by
 induction fs with
 |nil=>rfl
 |cons a l ih=>rw[bo,nrs,ih];rfl
theorem ad3(fs:List (List Nat)):aX (fs.map D.str)=0:=by
 induction fs with
 |nil=>rfl
 |cons a l ih=>rw[bo,aX,ih];rfl
theorem ad4{w n:Nat}{l:List Nat}{c:Nat}(h:okF w l)(hn:n < w)(fc:isF c):okF w (cut l none (some (n:Int))++[c]++cut l (some ((n:Int)+1)) none):=by
 have h1:=h.1;rw[jL,uQ];refine ⟨?_,λd hd=>?_⟩
 ·simp;omega
 ·rcases ba.mp hd with hd |hd
  ·rcases ba.mp hd with hd |hd
   ·exact h.2 d (eL hd)
   ·rw[aT.mp hd];exact fc
  ·exact h.2 d (List.mem_of_mem_drop hd)
theorem ad5 (Φ:aa) (h1:Φ "_law_take"=dw) (h2:Φ "_law_form"=zP) (h3:Φ "_law_within"=gQ) (h4:Φ "_law_wider"=gQ) (ds:List D) (G:DH) (h:O1 ds G):aq Φ zr noE (env0 ds 3) G (ends (zV ds G)):=by
 obtain ⟨p,w,x,fs,rfl,hp,w1,w2,hv,hf,hfs⟩:=h;simp_all_arith[zr];refine seq λM hM=>?_;simp_arith[h1];refine bD hp (by decide) (by decide) λkd G2 hkd hp2 sb2=>?_;have hv2:=OJ hv hp sb2;refine hM _ _ (seq λM hM=>?_);have drawn:∀(ρ:ao) (G3:DH),Pen G3 p->Sb p G G3->aq Φ (.cons (.ret (.call "_law_form" (.cons (.var 0) (.cons (.var 1) .nil)))) .nil) noE (some (.ref p)::some (.int w)::ρ) G3 { nx:=M,rt:=zV [.ref p,.int w,x] G,bk:=λ_ _=>False,ct:=λ_ _=>False }:=by intro ρ G3 hp3 sb3;simp_arith[h2];refine bM ⟨p,w,rfl,hp3,w2⟩ λd G4 hx=>?_;obtain ⟨p4,n4,l,e1,e2,l1,l2,hp4,sb4⟩:=hx;simp only[c9,D.ref.injEq,D.int.injEq,Int.ofNat_inj,fe]at e1;obtain ⟨rfl,rfl⟩:=e1;exact ⟨p,w,x,l,rfl,e2,⟨l1,l2⟩,hp4,sb3.trans sb4⟩
 simp_arith![hv2,yV,ad3,O3];refine ⟨by decide,?_⟩;cases he:(fs.map D.str).isEmpty with
 |true=>exact drawn _ _ hp2 sb2
 |false=>
  have hlen:0 < fs.length:=by
   cases fs with
   |nil=>simp at he
   |cons a r=>simp
  simp_arith![ends];cases hk2:decide ((kd:Int) < 2) with
  |true=>exact drawn _ _ hp2 sb2
  |false=>
   simp_arith[ends];refine hM _ _ (seq λM hM=>?_);simp_arith[h1,hv2,ag];refine bD hp2 (by omega) (by omega) λr G3 hr hp3 sb3=>?_;have hv3:=OJ hv2 hp2 sb3;simp_arith[hv3];have hr':r < fs.length:=by omega
   refine bG (a:=.str fs[r]) (bB (by simp[hr'])) ?_;have fok:=hfs fs[r] (cw _);generalize fs[r]=f at fok;refine hM _ _ (seq λM hM=>?_);have sb':=sb2.trans sb3;simp_arith[ends];cases hk3:((kd:Int)==2) with
   |true=>exact ⟨p,w,x,f,rfl,rfl,fok,hp3,sb'⟩
   |false=>
    refine hM _ _ (seq λM hM=>?_);simp_arith![ends];cases hk5:decide ((kd:Int) < 5) with
    |true=>
     simp_arith[h1];refine bD hp3 (by omega) (by omega) λat' G4 hat hp4 sb4=>?_;refine bD hp4 (by decide) (by decide) λs G5 hs hp5 sb5=>?_;obtain ⟨c,e,fc⟩:=ad0 hs;have c1:=yU f none (some (at':Int));have c2:=yU f (some ((at':Int)+1)) none;have f1:=fok.1;simp_arith[e,av];exact ⟨by have hsz:sz=1000000:=rfl;omega,by have hsz:sz=1000000:=rfl;omega,p,w,x,_,rfl,rfl,ad4 fok (by omega) fc,hp5,sb'.trans (sb4.trans sb5)⟩
    |false=>
     simp_arith[ends];refine hM _ _ (seq λM hM=>?_);have f1:=fok.1;simp_arith[h3];cases hk6:((kd:Int)==5) with
     |true=>
      refine zU hp3 fok.2 (by omega) λm G4 hm hp4 sb4=>?_;rw[f1]at hm;exact ⟨p,w,x,m,rfl,rfl,hm,hp4,sb'.trans sb4⟩
     |false=>
      refine hM _ _ ?_;simp_arith[h4];refine zU hp3 fok.2 (by omega) λm G4 hm hp4 sb4=>?_;rw[f1]at hm;exact ⟨p,w,x,m,rfl,rfl,hm,hp4,sb'.trans sb4⟩
def okD(l:List Nat):Prop:=1<=l.length/\l.length<=8/\∀c∈l,97<=c/\c<=122
theorem zW{p:Addr}{n:Nat}{cs:List Nat}{G:DH}{k:D->DH->Prop}{E:EK}(hp:Pen G p)(hn:n<=1000)(h1:cs≠[])(h2:cs.length<=1000)(hk:∀(l:List Nat)(G':DH),l.length=n->(∀c∈l,c∈cs)->Pen G' p->Sb p G G'->k (.str l) G'):iY.t [.ref p,.int n,.str cs] G k E:=by refine bM ⟨p,n,cs,rfl,hp,hn,h1,h2⟩ λd G' hx=>?_;obtain ⟨p2,n2,cs2,l,e1,e2,l1,l2,hp',sb⟩:=hx;simp only[c9,D.ref.injEq,D.int.injEq,D.str.injEq,Int.ofNat_inj,fe]at e1;obtain ⟨rfl,rfl,rfl⟩:=e1;subst e2;exact hk l G' l1 l2 hp' sb
def O4(ds:List D)(G:DH):Prop:=∃p,∃m:Int,ds=[.ref p,.int m]/\Pen G p/\0 < m/\m<=100
def O5(ds:List D)(G:DH)(d:D)(G':DH):Prop:=∃p,∃m:Int,∃xs:List (List Nat),ds=[.ref p,.int m]/\d=.lst (xs.map D.str)/\0 < xs.length/\xs.length<=100/\(∀x∈xs,okD x)/\Pen G' p/\Sb p G G'
def mW:RF.Spec:=bz O4 O5
noncomputable def zX:List (List Nat):=[[97],[103,111],[115,116,97,121],[97,98,99,100,101,102,103,104],[110,111,110,101],[121,101,115],[105,110],[111,117,116],[107,101,101,112],[119,111,114,100],[122,122]]
theorem ad6:∀x∈zX,okD x:=by
 have h:∀x∈zX,1<=x.length/\x.length<=8/\∀c∈x,97<=c/\c<=122:=by decide
 exact h
theorem O6{c:Nat}(h:c∈[97,98,99,100,101,102,103,104,105,106,107,108,109,110,111,112,113,114,115,116,117,118,119,120,121,122]):97<=c/\c<=122:=by
 have:∀c∈[97,98,99,100,101,102,103,104,105,106,107,108,109,110,111,112,113,114,115,116,117,118,119,120,121,122],97<=c/\c<=122:=by decide
 exact this c h
theorem ad7 (Φ:aa) (h1:Φ "_law_take"=dw) (h2:Φ "_law_signs"=iY) (ds:List D) (G:DH) (h:O4 ds G):aq Φ zj noE (env0 ds 4) G (ends (O5 ds G)):=by
 obtain ⟨p,m,rfl,hp,m1,m2⟩:=h;simp_all_arith[zj];refine seq λM hM=>?_;simp_arith[ends];refine ⟨by decide,hM _ _ ?_⟩;refine (λtail=>tail zX rfl ad6) (?_:∀xs:List (List Nat),xs.length=11->(∀x∈xs,okD x)->aq Φ _ noE [some (.ref p),some (.int m),some (.lst (xs.map D.str)),none,none,none] G _);intro xs x1 x2;refine seq λM hM=>?_;simp_arith[h1];refine bD hp (by decide) (by decide) λt G2 ht hp2 sb2=>?_;refine hM _ _ (seq λM hM=>?_);simp_arith[h1];refine bD hp2 (by omega) (by omega) λr G3 hr hp3 sb3=>?_;simp_arith[ends];refine ⟨by omega,?_⟩;refine CompG.inv (P:=λi acc ρ G'=>(∃o,ρ=[o,some (.lst (xs.map D.str)),some (.int t)])/\G'=G3/\∃ys:List (List Nat),acc=ys.map D.str/\ys.length=i/\∀y∈ys,okD y) ⟨⟨_,rfl⟩,rfl,[],rfl,rfl,by simp⟩ (λ_ _ _ _ _=>trivial) (by simp[aW];have hsz:sz=1000000:=rfl;omega) ?_ ?_
 ·rintro i d acc ρ G' hd ⟨⟨o,rfl⟩,rfl,ys,rfl,y1,y2⟩ kk hk;unfold aW at hd;rw[aE]at hd;obtain ⟨j,hj,rfl⟩:=ax.mp hd;simp_arith[ends];have q0:0<=((t:Int)+3 * (0+(j:Int))) % 11:=ff _ (by decide);have q1:((t:Int)+3 * (0+(j:Int))) % 11 < 11:=e8 _ (by decide);refine ⟨zO (by decide),by decide,uR q0 (by rw[ag,x1];exact q1) λa ha=>?_⟩;obtain ⟨x,hx,rfl⟩:=b6.mp ha;refine hk _ _ _ ⟨⟨_,rfl⟩,rfl,ys++[x],by simp,by simp[y1],λy hy=>?_⟩;rcases ba.mp hy with h |h
  ·exact y2 y h
  ·rw[aT.mp h];exact x2 x hx
 ·rintro acc ρ G' ⟨_,rfl,ys,rfl,y1,y2⟩;have hy:ys.length=r+1:=by rw[y1];simp[aW];omega
  refine hM _ _ (seq λM hM=>?_);simp_arith[h1];refine bD hp3 (by decide) (by decide) λq G4 hq hp4 sb4=>?_;have sb':=sb2.trans (sb3.trans sb4);simp_arith[ends];cases hq0:((q:Int)==0) with
  |false=>
   refine hM _ _ ?_;simp_arith[ends];exact ⟨p,m,ys,rfl,rfl,by omega,by omega,y2,hp4,sb'⟩
  |true=>
   simp_arith[ends];refine CompG.inv (P:=λi acc ρ G'=>(∃o,ρ=[o,some (.ref p),some (.str [97,98,99,100,101,102,103,104,105,106,107,108,109,110,111,112,113,114,115,116,117,118,119,120,121,122])])/\Pen G' p/\Sb p G G'/\∃zs:List (List Nat),acc=zs.map D.str/\zs.length=i/\∀z∈zs,okD z) ⟨⟨_,rfl⟩,hp4,sb',[],rfl,rfl,by simp⟩ (λ_ _ _ _ _=>trivial) (by simp;have hsz:sz=1000000:=rfl;omega) ?_ ?_
   ·rintro i d acc ρ G' hd ⟨⟨o,rfl⟩,hp5,sb5,zs,rfl,z1,z2⟩ kk hk;simp_arith[h1,h2];refine bD hp5 (by decide) (by decide) λn G6 hn hp6 sb6=>?_;simp_arith[ends];rw[show (1:Int)+(n:Int)=((n+1:Nat):Int) by omega];refine zW hp6 (by omega) (by simp) (by simp) λl G7 l1 l2 hp7 sb7=>?_;refine hk _ _ _ ⟨⟨_,rfl⟩,hp7,sb5.trans (sb6.trans sb7),zs++[l],by simp,by simp[z1],λz hz=>?_⟩;rcases ba.mp hz with h |h
    ·exact z2 z h
    ·rw[aT.mp h];exact ⟨by omega,by omega,λc hc=>O6 (l2 c hc)⟩
   ·rintro acc ρ G' ⟨_,hp5,sb5,zs,rfl,z1,z2⟩;rw[ag]at z1;refine hM _ _ ?_;simp_arith[ends];exact ⟨p,m,zs,rfl,rfl,by omega,by omega,z2,hp5,sb5⟩
abbrev Row:=List Nat×List Nat
def aA(r:Row):D:=.tup [.str r.1,.str r.2]
def au(w:Nat)(rs:List Row):D:=.tup [.int w,.tup (rs.map aA)]
structure okB(w:Nat)(rs:List Row):Prop where
 w1:1<=w
 w6:w<=6
 len:rs.length<=12
 form:∀r∈rs,okF w r.1
 deed:∀r∈rs,okD r.2
def O7(ds:List D)(G:DH):Prop:=∃p,∃w m:Nat,ds=[.ref p,.int w,.int m]/\Pen G p/\1<=w/\w<=6/\m<=12
def O8(ds:List D)(G:DH)(d:D)(G':DH):Prop:=∃p,∃w m v:Nat,∃rs:List Row,ds=[.ref p,.int w,.int m]/\d=au v rs/\okB v rs/\v<=w/\rs.length<=m/\Pen G' p/\Sb p G G'
def uY:RF.Spec:=bz O7 O8
theorem ad8{p:Addr}{w m:Nat}{G:DH}{k:D->DH->Prop}{E:EK}(hp:Pen G p)(h1:1<=w)(h2:w<=6)(h3:m<=12)(hk:∀(v:Nat)(rs:List Row)(G':DH),okB v rs->v<=w->rs.length<=m->Pen G' p->Sb p G G'->k (au v rs) G'):uY.t [.ref p,.int w,.int m] G k E:=by refine bM ⟨p,w,m,rfl,hp,h1,h2,h3⟩ λd G' hx=>?_;obtain ⟨p2,w2,m2,v,rs,e1,e2,o,q1,q2,hp',sb⟩:=hx;simp only[c9,D.ref.injEq,D.int.injEq,Int.ofNat_inj,fe]at e1;obtain ⟨rfl,rfl,rfl⟩:=e1;subst e2;exact hk v rs G' o q1 q2 hp' sb
theorem O9{p:Addr}{m:Int}{G:DH}{k:D->DH->Prop}{E:EK}(hp:Pen G p)(h1:0 < m)(h2:m<=100)(hk:∀(xs:List (List Nat))(G':DH),0 < xs.length->xs.length<=100->(∀x∈xs,okD x)->Pen G' p->Sb p G G'->k (.lst (xs.map D.str)) G'):mW.t [.ref p,.int m] G k E:=by refine bM ⟨p,m,rfl,hp,h1,h2⟩ λd G' hx=>?_;obtain ⟨p2,m2,xs,e1,e2,q1,q2,q3,hp',sb⟩:=hx;cases e1;subst e2;exact hk xs G' q1 q2 q3 hp' sb
theorem qL{α:Type}{l:List α}{a:α}:atI (l++[a]) (-1)=some a:=by unfold atI ixN;rw[if_neg (by decide),if_pos (by simp;omega),av,ce,show (-1+((l.length+1:Nat):Int)).toNat=l.length by omega];simp
theorem ad9 (Φ:aa) (h1:Φ "_law_take"=dw) (h2:Φ "_law_deeds_of"=mW) (h3:Φ "_law_form_like"=mV) (ds:List D) (G:DH) (h:O7 ds G):aq Φ zy noE (env0 ds 5) G (ends (O8 ds G)):=by
 obtain ⟨p,w,m,rfl,hp,w1,w2,m1⟩:=h;simp_all_arith[zy];refine seq λM hM=>?_;simp_arith[h1];refine bD hp (by omega) (by omega) λn G2 hn hp2 sb2=>?_;simp_arith[ends];rw[show (1:Int)+(n:Int)=((n+1:Nat):Int) by omega];refine hM _ _ (seq λM hM=>?_);simp_arith[h2];refine O9 hp2 (by decide) (by decide) λxs G3 x1 x2 x3 hp3 sb3=>?_;refine hM _ _ (seq λM hM=>?_);simp_arith[ends];refine λq hq=>hM _ _ (seq λM hM=>?_);simp_arith[ends];refine λs hs=>hM _ _ (seq λM hM=>?_);have hqs:q≠s:=by rintro rfl;rw[bf]at hs;cases hs
 have hs3:G3 s=none:=by rw[cW (Ne.symm hqs)]at hs;exact hs
 have npq:p≠q:=hp3.ne hq;have nps:p≠s:=hp3.ne hs3;have sa4:Sa G3 (aK (aK G3 q (.lst [])) s (.lst [])):=(Sa.new hq).trans (Sa.new hs);have hp4:=hp3.sa sa4;simp_arith![h1];refine bD hp4 (by omega) (by omega) λr G5 hr hp5 sb5=>?_;simp_arith![ends];refine ⟨by omega,?_⟩;refine ForG.inv (P:=λi ρ G'=>(∃o,ρ=[some (.ref p),some (.int w),some (.int m),some (.int ((n+1:Nat):Int)),some (.lst (xs.map D.str)),some (.ref q),some (.ref s),o])/\Pen G' p/\Sb p G G'/\
   ∃rs:List Row,G' q=some (.lst ((rs.map (·.1)).map D.str))/\G' s=some (.lst (rs.map aA))/\rs.length=i/\(∀r∈rs,okF (n+1) r.1)/\∀r∈rs,okD r.2) ⟨⟨_,rfl⟩,hp5,sb2.trans (sb3.trans (sa4.sb.trans sb5)),[],?_,?_,rfl,by simp,by simp⟩ (λ_ _ _ _=>trivial) ?_ ?_
 ·exact sb5 q _ (by rw[cW hqs];exact bf) (Ne.symm npq)
 ·exact sb5 s _ bf (Ne.symm nps)
 ·rintro i d ρ G' hd ⟨⟨o,rfl⟩,hp6,sb6,rs,g1,g2,r1,r2,r3⟩ kk hk;have hi:i < r:=by
   have:=(am.mp hd).1;simpa [aW] using this
  simp_arith![ends];refine seq λM hM=>?_;simp_arith[h3,bZ g1];refine O2 (fs:=rs.map (·.1)) hp6 (by omega) (by omega) (bR g1) (by simp;omega) (λf hf=>?_) λf G7 hf hp7 sb7=>?_
  ·obtain ⟨r',hr',rfl⟩:=b6.mp hf;exact r2 r' hr'
  have g1':=sb7 q _ g1 (Ne.symm npq);have g2':=sb7 s _ g2 (Ne.symm nps);simp_arith[bZ g1'];refine ⟨by simp;have hsz:sz=1000000:=rfl;omega,hM _ _ (last ?_)⟩;have e2:aK G7 q (.lst ((rs.map (·.1)).map D.str++[.str f])) s=some (.lst (rs.map aA)):=by rw[cW (Ne.symm hqs)];exact g2'
  have hp8:Pen (aK G7 q (.lst ((rs.map (·.1)).map D.str++[.str f]))) p:=hp7.sb Sb.upd npq;simp_arith[h1,bZ e2,bR bf,qL,ag];refine bD hp8 (by omega) (by omega) λt G9 ht hp9 sb9=>?_;have e1':=sb9 q _ bf (Ne.symm npq);have e2':=sb9 s _ e2 (Ne.symm nps);simp_arith[bZ e2'];refine uR (by omega) (by simp;omega) λx hx=>?_;obtain ⟨dd,hdd,rfl⟩:=b6.mp hx;refine ⟨by decide,by simp;have hsz:sz=1000000:=rfl;omega,hk _ _ ⟨⟨_,rfl⟩,hp9.sb Sb.upd nps,?_,rs++[(f,dd)],?_,?_,by simp[r1],?_,?_⟩⟩
  ·intro b ob hb nb;by_cases hbs:b=s
   ·subst hbs;exfalso;have z:=sb2 b _ hb nb;have z:=sb3 b _ z nb;rw[hs3]at z;cases z
   ·by_cases hbq:b=q
    ·subst hbq;exfalso;have z:=sb2 b _ hb nb;have z:=sb3 b _ z nb;rw[hq]at z;cases z
    ·rw[cW hbs];exact sb9 b _ (by rw[cW hbq];exact sb7 b _ (sb6 b _ hb nb) nb) nb
  ·rw[cW hqs,e1'];simp
  ·rw[bf];simp[aA]
  ·intro r' hr';rcases ba.mp hr' with h |h
   ·exact r2 r' h
   ·rw[aT.mp h];exact hf
  ·intro r' hr';rcases ba.mp hr' with h |h
   ·exact r3 r' h
   ·rw[aT.mp h];exact x3 dd hdd
 ·rintro ρ G' ⟨⟨o,rfl⟩,hp6,sb6,rs,g1,g2,r1,r2,r3⟩;have hl:rs.length=r:=by rw[r1];simp[aW]
  refine hM _ _ ?_;simp_arith[bR g2];exact ⟨by decide,p,w,m,n+1,rs,rfl,rfl,⟨by omega,by omega,by omega,r2,r3⟩,by omega,by omega,hp6,sb6⟩
def alt(c:Nat):List Nat:=if c=42 then [48,49] else [c]
def step1(acc:List (List Nat))(c:Nat):List (List Nat):=acc.flatMap λt=>(alt c).map λs=>t++[s]
def bu(f:List Nat):List (List Nat):=f.foldl step1 [[]]
def Fits(f w:List Nat):Prop:=f.length=w.length/\∀(i c s:Nat),f[i]?=some c->w[i]?=some s->s∈alt c
theorem zY(f:List Nat)(c:Nat):bu (f++[c])=step1 (bu f) c:=by unfold bu;rw[List.foldl_append];rfl
theorem aea{acc:List (List Nat)}{c:Nat}{w:List Nat}:w∈step1 acc c↔∃t s,t∈acc/\s∈alt c/\w=t++[s]:=by
 unfold step1;rw[List.mem_flatMap];constructor
 ·rintro ⟨t,ht,h⟩;obtain ⟨s,hs,rfl⟩:=b6.mp h;exact ⟨t,s,ht,hs,rfl⟩
 ·rintro ⟨t,s,ht,hs,rfl⟩;exact ⟨t,ht,b6.mpr ⟨s,hs,rfl⟩⟩
theorem zZ{f w:List Nat}{c s:Nat}:Fits (f++[c]) (w++[s])↔Fits f w/\s∈alt c:=by
 constructor
 ·rintro ⟨h1,h2⟩;have hl:f.length=w.length:=by simpa using h1
  refine ⟨⟨hl,λi c' s' hc hs=>?_⟩,?_⟩
  ·have i1:=(am.mp hc).1;exact h2 i c' s' (by rw[eD i1];exact hc) (by rw[eD (by omega)];exact hs)
  ·exact h2 f.length c s (by simp) (by rw[hl];simp)
 ·rintro ⟨⟨h1,h2⟩,h3⟩;refine ⟨by simp[h1],λi c' s' hc hs=>?_⟩;by_cases hi:i < f.length
  ·rw[eD hi]at hc;rw[eD (by omega)]at hs;exact h2 i c' s' hc hs
  ·have i2:=(am.mp hc).1;simp at i2;have e:i=f.length:=by omega
   subst e;simp at hc;rw[h1]at hs;simp at hs;subst hc hs;exact h3
theorem gR{f w:List Nat}:w∈bu f↔Fits f w:=by
 induction f using Jc generalizing w with
 |nil=>
  simp[bu,Fits];constructor
  ·rintro rfl;simp
  ·intro h;exact de.mp h.symm
 |snoc f c ih=>
  rw[zY,aea];constructor
  ·rintro ⟨t,s,ht,hs,rfl⟩;exact zZ.mpr ⟨ih.mp ht,hs⟩
  ·intro h;have hl:=h.1;simp at hl;have hne:w≠[]:=by rintro rfl;simp at hl
   refine ⟨w.dropLast,w.getLast hne,?_,?_,(dy hne).symm⟩
   ·rw[<-dy hne]at h;exact ih.mpr (zZ.mp h).1
   ·rw[<-dy hne]at h;exact (zZ.mp h).2
theorem Pa{f w:List Nat}(h:w∈bu f):w.length=f.length:=(gR.mp h).1.symm
theorem Pb{acc:List (List Nat)}{c:Nat}:(step1 acc c).length<=2 * acc.length:=by
 unfold step1;induction acc with
 |nil=>simp
 |cons a r ih=>
  rw[List.flatMap_cons,av,ag,cf];have:(alt c).length<=2:=by unfold alt;split <;> simp
  omega
theorem Pg(f:List Nat):(bu f).length<=2 ^ f.length:=by
 induction f using Jc with
 |nil=>simp[bu]
 |snoc f c ih=>
  rw[zY,av,ce,Nat.pow_succ];have:=@Pb (bu f) c;omega
theorem aeb{a b:List (List Nat)}{c:Nat}:step1 (a++b) c=step1 a c++step1 b c:=by unfold step1;rw[List.flatMap_append]
def Ph(ds:List D)(_:DH):Prop:=∃f:List Nat,ds=[.str f]/\f.length<=12
def Pj(ds:List D)(G:DH)(d:D)(G':DH):Prop:=∃f:List Nat,ds=[.str f]/\d=.lst ((bu f).map D.str)/\Sa G G'
def mX:RF.Spec:=bz Ph Pj
theorem Pk{f:List Nat}{G:DH}{k:D->DH->Prop}{E:EK}(h:f.length<=12)(hk:∀G',Sa G G'->k (.lst ((bu f).map D.str)) G'):mX.t [.str f] G k E:=by refine bM ⟨f,rfl,h⟩ λd G' hx=>?_;obtain ⟨f2,e1,e2,sa⟩:=hx;cases e1;subst e2;exact hk G' sa
theorem aec(Φ:aa)(ds:List D)(G:DH)(h:Ph ds G):aq Φ zG noE (env0 ds 4) G (ends (Pj ds G)):=by
 obtain ⟨f,rfl,hf⟩:=h;simp_all_arith[zG];refine seq λM hM=>?_;simp_arith[ends];refine ⟨by decide,hM _ _ (seq λM hM=>?_)⟩;simp_arith![ends];refine ForG.inv (P:=λi ρ G'=>(∃o2 o3 o4,ρ=[some (.str f),some (.lst ((bu (f.take i)).map D.str)),o2,o3,o4])/\Sa G G') ⟨⟨_,_,_,rfl⟩,Sa.refl G⟩ (λ_ _ _ _=>trivial) ?_ ?_
 ·rintro i d ρ G2 hd ⟨⟨o2,o3,o4,rfl⟩,sa⟩ kk hk;rw[aE]at hd;obtain ⟨c,hc,rfl⟩:=ax.mp hd;have hi:=(am.mp hc).1;have ht:f.take (i+1)=f.take i++[c]:=by rw[eg,hc];rfl
  have hcard:(bu (f.take i)).length<=4096:=by
   have h1:=Pg (f.take i);have h2:(f.take i).length<=12:=by rw[bb];omega
   have h3:=eK (show 0 < 2 by decide) h2;have h4:2 ^ 12=4096:=by decide
   omega
  simp_arith![ends];refine seq λM hM=>?_;simp_arith[ends];refine λq hq=>hM _ _ (seq λM hM=>?_);simp_arith![ends];refine ForG.inv (P:=λj ρ G'=>(∃o4,ρ=[some (.str f),some (.lst ((bu (f.take i)).map D.str)),some (.str [c]),some (.ref q),o4])/\Sa G G'/\G' q=some (.lst ((step1 ((bu (f.take i)).take j) c).map D.str))) ⟨⟨_,rfl⟩,sa.trans (Sa.new hq),bf⟩ (λ_ _ _ _=>trivial) ?_ ?_
  ·rintro j d ρ G3 hd3 ⟨⟨o4,rfl⟩,sa3,g3⟩ kk' hk';rw[aE]at hd3;obtain ⟨t,htt,rfl⟩:=ax.mp hd3;have hj:=(am.mp htt).1;have tlen:t.length<=12:=by rw[Pa (bP htt),bb];omega
   have tk:(bu (f.take i)).take (j+1)=(bu (f.take i)).take j++[t]:=by rw[eg,htt];rfl
   have st:step1 [t] c=(alt c).map λs=>t++[s]:=by simp[step1]
   have l1:(step1 ((bu (f.take i)).take j) c).length<=8192:=by
    have:=@Pb ((bu (f.take i)).take j) c;have:((bu (f.take i)).take j).length<=4096:=by rw[bb];omega
    omega
   have al2:(alt c).length<=2:=by unfold alt;split <;> simp
   simp_arith![ends];refine last ?_;simp_arith[bZ g3];refine ⟨by decide,?_⟩;have ix:atI [D.str [48,49],D.str [c]] (if (!([c]==[42]))=true then 1 else 0)=some (.str (alt c)):=by
    unfold alt;by_cases h42:c=42
    ·subst h42;rfl
    ·have:([c]==[42])=false:=by simp[h42]
     rw[this,if_neg h42];rfl
   simp_arith[ix];refine CompG.map (f:=λd=>match d with |.str [s]=>.str (t++[s]) |_=>.non) (I:=λρ=>∃o,ρ=[o,some (.str t)]) ⟨_,rfl⟩ trivial (by simp;have hsz:sz=1000000:=rfl;omega) ?_ ?_
   ·rintro d ρ hd ⟨o,rfl⟩ kk2 hk2;obtain ⟨s,_,rfl⟩:=b6.mp hd;simp_arith[ends];exact ⟨by have hsz:sz=1000000:=rfl;omega,hk2 _ ⟨_,rfl⟩⟩
   ·rw[eM];simp_arith[Function.comp_def,bZ g3,ag];refine ⟨by have hsz:sz=1000000:=rfl;omega,hk' _ _ ⟨⟨_,rfl⟩,?_,?_⟩⟩
    ·intro b ob hb;by_cases hbq:b=q
     ·subst hbq;exfalso;have:=sa b _ hb;rw[hq]at this;cases this
     ·rw[cW hbq];exact sa3 b _ hb
    ·rw[bf,tk,aeb,st,cb,eM];rfl
  ·rintro ρ G3 ⟨⟨o4,rfl⟩,sa3,g3⟩;rw[ag,et]at g3;refine hM _ _ (last ?_);simp_arith[g3];refine hk _ _ ⟨⟨_,_,_,by rw[ht,zY]⟩,?_⟩;intro b ob hb;have hbq:b≠q:=by
    rintro rfl;have:=sa b _ hb;rw[hq]at this;cases this
   rw[wO hbq];exact sa3 b _ hb
 ·rintro ρ G2 ⟨⟨o2,o3,o4,rfl⟩,sa⟩;rw[ag,et];refine hM _ _ ?_;simp_arith[ends];exact ⟨f,rfl,rfl,sa⟩
noncomputable def letters:List Nat:=[97,98,99,100,101,102,103,104,105,106,107,108,109,110,111,112,113,114,115,116,117,118,119,120,121,122]
theorem aed:∀c:Fin 123,97<=c.1->letters.contains c.1=true:=by decide
theorem aee{c:Nat}:letters.contains c=true↔97<=c/\c<=122:=
 ⟨λh=>O6 (a9.mp h),λ⟨h1,h2⟩=>aed ⟨c,Nat.lt_succ_of_le h2⟩ h1⟩
def okW(w:Nat)(l:List Nat):Prop:=l.length=w/\∀c∈l,c=48\/c=49
theorem Pn{α:Type}(l:List α):bools (l.map λ_=>D.bl true)=some (l.map λ_=>true):=uP _ l
theorem Pq{α:Type}(l:List α):(l.map λ_=>true).all id=true:=bX.mpr λx hx=>by obtain ⟨_,_,rfl⟩:=b6.mp hx;rfl
def uZ:RF.Spec:=b8 (λl:List Nat=>[.int l.length,.str l]) (λl=>l.length<=1000/\∀c∈l,isF c) (λ_=>.bl true)
def u5:RF.Spec:=b8 (λl:List Nat=>[.str l]) okD (λ_=>.bl true)
theorem aef(Φ:aa)(l:List Nat)(G:DH)(h:okD l):aq Φ lG noE (env0 [.str l] 0) G (ends λd G'=>G'=G/\d=.bl true):=by
 obtain ⟨h1,h2,h3⟩:=h;have b1:decide ((1:Int)<=(l.length:Int))=true:=a8 (by omega);have b2:decide ((l.length:Int)<=8)=true:=a8 (by omega);simp_arith[lG,b1,b2];refine CompG.map (f:=λ_=>.bl true) (I:=λρ=>∃o,ρ=[o]) ⟨_,rfl⟩ trivial (by simp;have hsz:sz=1000000:=rfl;omega) ?_ ?_
 ·rintro d ρ hd ⟨o,rfl⟩ kk hk;obtain ⟨c,hc,rfl⟩:=b6.mp hd;have hcl:[97,98,99,100,101,102,103,104,105,106,107,108,109,110,111,112,113,114,115,116,117,118,119,120,121,122].contains c=true:=aee.mpr (h3 c hc);simp_arith[hcl];exact hk _ ⟨_,rfl⟩
 ·simp_arith[Pn,Pq]
def z6:RF.Spec:=b8 (λa:Nat×Row=>[.int a.1,aA a.2]) (λa=>a.1<=6/\okF a.1 a.2.1/\okD a.2.2) (λ_=>.bl true)
theorem aeg (Φ:aa) (h1:Φ "is_form"=uZ) (h2:Φ "is_deed"=u5) (a:Nat×Row) (G:DH) (h:a.1<=6/\okF a.1 a.2.1/\okD a.2.2):aq Φ lJ noE (env0 [.int a.1,aA a.2] 0) G (ends λd G'=>G'=G/\d=.bl true):=by obtain ⟨w,f,d⟩:=a;obtain ⟨hw,hf,hd⟩:=h;dsimp only at hw hf hd;simp_arith[lJ,aA,h1,h2];simp_arith[show ((0+1+1:Nat):Int)=2 from rfl,BEq.rfl];refine cA f (by rw[hf.1]) ⟨by rw[hf.1];omega,hf.2⟩ ?_;simp_arith[ends];exact cA d rfl hd ⟨rfl,rfl⟩
def z7:RF.Spec:=b8 (λw:Nat=>[.int w]) (λw=>1<=w/\w<=6) (λ_=>.bl true)
theorem aeh (Φ:aa) (h1:Φ "is_whole"=aM iZ) (w:Nat) (G:DH) (h:1<=w/\w<=6):aq Φ lL noE (env0 [.int w] 0) G (ends λd G'=>G'=G/\d=.bl true):=by have b1:decide ((1:Int)<=(w:Int))=true:=a8 (by omega);have b2:decide ((w:Int)<=6)=true:=a8 (by omega);simp_arith[lL,h1];refine cH (d:=.bl true) rfl ?_;simp_arith[b1,b2]
def z8:RF.Spec:=b8 (λa:Nat×List Row=>[au a.1 a.2]) (λa=>okB a.1 a.2) (λ_=>.bl true)
theorem aei (Φ:aa) (h1:Φ "is_width"=z7) (h2:Φ "is_row"=z6) (a:Nat×List Row) (G:DH) (h:okB a.1 a.2):aq Φ lM noE (env0 [au a.1 a.2] 2) G (ends λd G'=>G'=G/\d=.bl true):=by
 obtain ⟨w,rs⟩:=a;dsimp only at h ⊢;have hlen:=h.len;simp_all_arith[lM,au];refine seq λM hM=>?_;simp_arith[ends];simp_arith[show ((0+1+1:Nat):Int)=2 from rfl,BEq.rfl];refine hM _ _ (seq λM hM=>?_);simp_arith[ends];refine hM _ _ (seq λM hM=>?_);simp_arith[h1];refine cA w rfl ⟨h.w1,h.w6⟩ ?_;have hd:decide ((12:Int) < ((rs.map aA).length:Int))=false:=ck (by rw[ag];omega);simp_arith[hd];refine hM _ _ ?_;simp_arith[ends];refine CompG.map (f:=λ_=>.bl true) (I:=λρ=>∃o,ρ=[o,some (.int w)]) ⟨_,rfl⟩ trivial (by rw[ag];have hsz:sz=1000000:=rfl;omega) ?_ ?_
 ·rintro d ρ hd ⟨o,rfl⟩ kk hk;obtain ⟨r,hr,rfl⟩:=b6.mp hd;simp_arith[h2];exact cA (w,r) rfl ⟨h.w6,h.form r hr,h.deed r hr⟩ (hk _ ⟨_,rfl⟩)
 ·simp_arith[Pn,Pq]
def gf:RF.Spec:=b8 (λa:Nat×List Row=>[au a.1 a.2]) (λa=>okB a.1 a.2) (λ_=>.non)
theorem jb{w:Nat}{rs:List Row}{G:DH}{k:D->DH->Prop}{E:EK}(h:okB w rs)(hk:k .non G):gf.t [au w rs] G k E:=cA (w,rs) rfl h hk
theorem aej (Φ:aa) (h1:Φ "is_book"=z8) (a:Nat×List Row) (G:DH) (h:okB a.1 a.2):aq Φ lN noE (env0 [au a.1 a.2] 0) G (ends λd G'=>G'=G/\d=.non):=by simp_arith[lN,h1];refine cA a rfl h ?_;simp_arith[ends]
def gU(c s:Nat):Bool:=c==42||c==s
def cg:List Nat->List Nat->Bool
 |c::f,s::w=>gU c s&&cg f w
 |_,_=>true
def dJ(f w:List Nat):Bool:=decide (f.length=w.length)&&cg f w
noncomputable def mY:List D->Option D
 |[.str f,.str w]=>if decide (f.length<=100000) then some (.bl (dJ f w)) else none
 |_=>none
theorem u6:∀(f w:List Nat),bV (f.map λc=>D.str [c]) (w.map λc=>D.str [c])=(f.zip w).map λp=>D.tup [.str [p.1],.str [p.2]]
 |[],w=>by simp[bV]
 |c::f,[]=>by simp[bV]
 |c::f,s::w=>by simp[bV,u6 f w]
theorem Pr:∀(f w:List Nat),((f.zip w).map λp=>gU p.1 p.2).all id=cg f w
 |[],w=>by simp[cg]
 |c::f,[]=>by simp[cg]
 |c::f,s::w=>by simp[cg,Pr f w]
theorem fu{c s:Nat}:(([c]==[s]):Bool)=(c==s):=by
 by_cases h:c=s
 ·subst h;simp
 ·rw[c5.mpr h,c5.mpr (by simp[h])]
theorem aek{a b:Nat}:((((a:Nat):Int)==((b:Nat):Int)):Bool)=decide (a=b):=by
 by_cases h:a=b
 ·subst h;simp
 ·rw[ck h,c5];omega
theorem ael(Φ:aa)(ds:List D)(G:DH)(d:D)(h:mY ds=some d):aq Φ mD noE (env0 ds 0) G (ends λd' G'=>G'=G/\d'=d):=by
 unfold mY at h;split at h
 ·rename_i f w;split at h
  ·rename_i hl;have hl:=c8 hl;cases h;simp_arith[mD,aek,dJ];cases he:decide (f.length=w.length) with
   |false=>simp_arith[Bool.false_and]
   |true=>
    simp_arith[u6,ft];refine CompG.map (f:=λd=>match d with |.tup [.str [c],.str [s]]=>.bl (gU c s) |_=>.non) (I:=λρ=>∃o o',ρ=[o,o']) ⟨_,_,rfl⟩ trivial (by simp;have hsz:sz=1000000:=rfl;omega) ?_ ?_
    ·rintro d ρ hd ⟨o,o',rfl⟩ kk hk;obtain ⟨⟨c,s⟩,_,rfl⟩:=b6.mp hd;simp_arith[fu];have:=hk [some (.str [c]),some (.str [s])] ⟨_,_,rfl⟩;unfold gU at this;cases hc:(c==42) with
     |true=>simp_arith[hc]at this ⊢;exact this
     |false=>simp_arith[hc]at this ⊢;exact this
    ·rw[eM];simp_arith[Function.comp_def,uP,Pr,fE]
  ·cases h
 ·cases h
theorem Pu{c s:Nat}(hs:s=48\/s=49):gU c s=true↔s∈alt c:=by
 unfold gU alt;by_cases h:c=42
 ·subst h;simp;rcases hs with rfl |rfl <;> simp
 ·simp[h];exact eq_comm
def aV(rs:List Row)(w:List Nat):Option Nat:=rs.findIdx? λr=>dJ r.1 w
def aP:Option Nat->D
 |some n=>.int n
 |none=>.non
def Px:RF.Spec:=bz (λds _=>∃w rs l,ds=[au w rs,.str l]/\okB w rs/\okW w l) (λds G d G'=>G'=G/\∃w rs l,ds=[au w rs,.str l]/\d=aP (aV rs l))
theorem z9{w v:Nat}{rs ss:List Row}(h:au w rs=au v ss):w=v/\rs=ss:=by
 unfold au at h;simp only[D.tup.injEq,c9,D.int.injEq,Int.ofNat_inj,fe]at h;refine ⟨h.1,?_⟩;have h2:=h.2;clear h;induction rs generalizing ss with
 |nil=>cases ss with
  |nil=>rfl
  |cons _ _=>simp at h2
 |cons r rs ih=>cases ss with
  |nil=>simp at h2
  |cons s ss=>
   simp only[bo,c9]at h2;have e:r=s:=by have:=h2.1;unfold aA at this;simp only[D.tup.injEq,c9,D.str.injEq,fe]at this;exact Prod.ext this.1 this.2
   rw[e,ih h2.2]
theorem aem{w:Nat}{rs:List Row}{l:List Nat}{G:DH}{k:D->DH->Prop}{E:EK}(h:okB w rs)(hl:okW w l)(hk:k (aP (aV rs l)) G):Px.t [au w rs,.str l] G k E:=by refine bM ⟨w,rs,l,rfl,h,hl⟩ λd G' hx=>?_;obtain ⟨e1,w2,rs2,l2,e2,e3⟩:=hx;simp only[c9,D.str.injEq,fe]at e2;obtain ⟨e2,rfl⟩:=e2;obtain ⟨rfl,rfl⟩:=z9 e2;subst e1 e3;exact hk
theorem Py{rs:List Row}{l:List Nat}{i:Nat}{r:Row}(h:rs[i]?=some r):aV (rs.drop i) l=if dJ r.1 l then some 0 else (aV (rs.drop (i+1)) l).map (·+1):=by
 have hi:=(am.mp h).1;have e:rs.drop i=r::rs.drop (i+1):=by rw[bp hi];rw[(am.mp h).2]
 rw[e];unfold aV;rw[fw]
noncomputable def gh(rs:List Row):Option Nat->D
 |some n=>match rs[n]? with |some r=>.str r.2 |none=>.non
 |none=>.non
theorem Pz{rs:List Row}{l:List Nat}{n:Nat}(h:aV rs l=some n):n < rs.length:=by unfold aV at h;exact (List.findIdx?_eq_some_iff_findIdx_eq.mp h).1
def mZ:RF.Spec:=bz (λds _=>∃w rs o,ds=[au w rs,aP o]/\∀n,o=some n->n < rs.length) (λds G d G'=>G'=G/\∃w rs o,ds=[au w rs,aP o]/\d=gh rs o)
theorem aen{a b:Option Nat}(h:aP a=aP b):a=b:=by cases a <;> cases b <;> simp[aP]at h ⊢ <;> omega
theorem Aa{w:Nat}{rs:List Row}{o:Option Nat}{G:DH}{k:D->DH->Prop}{E:EK}(h:∀n,o=some n->n < rs.length)(hk:k (gh rs o) G):mZ.t [au w rs,aP o] G k E:=by refine bM ⟨w,rs,o,rfl,h⟩ λd G' hx=>?_;obtain ⟨e1,w2,rs2,o2,e2,e3⟩:=hx;simp only[c9,fe]at e2;obtain ⟨e2,e4⟩:=e2;obtain ⟨rfl,rfl⟩:=z9 e2;cases aen e4;subst e1 e3;exact hk
theorem aeo(Φ:aa)(ds:List D)(G:DH)(h:∃w rs o,ds=[au w rs,aP o]/\∀n,o=some n->n < rs.length):aq Φ jQ noE (env0 ds 0) G (ends λd G'=>G'=G/\∃w rs o,ds=[au w rs,aP o]/\d=gh rs o):=by
 obtain ⟨w,rs,o,rfl,ho⟩:=h;cases o with
 |none=>
  simp_arith[jQ,aP];exact ⟨w,rs,none,rfl,rfl⟩
 |some n=>
  have hn:=ho n rfl;simp_arith[jQ,aP,au];refine bG (a:=aA rs[n]) (bB (by simp[hn])) ?_;simp_arith[aA];exact ⟨w,rs,some n,rfl,by simp[gh,hn]⟩
theorem jc{α β:Type}(f:α->β)(l:List α)(n:Nat):cut (l.map f) none (some (n:Int))=(l.take n).map f:=by rw[jL,List.map_take]
theorem m5{α β:Type}(f:α->β)(l:List α)(n:Nat):cut (l.map f) (some (n:Int)) none=(l.drop n).map f:=by rw[Jb,List.map_drop]
theorem okB.sub{w:Nat}{rs ss:List Row}(h:okB w rs)(hl:ss.length<=rs.length)(hs:∀r∈ss,r∈rs):okB w ss:=
 ⟨h.w1,h.w6,bv hl h.len,λr hr=>h.form r (hs r hr),λr hr=>h.deed r (hs r hr)⟩
theorem PK(c:Nat)(n:Nat):reps [c] n=List.replicate n c:=by
 unfold reps;induction n with
 |zero=>rfl
 |succ n ih=>rw[b9,eP,ih,b9];rfl
theorem aep(w:Nat):okF w (List.replicate w 42):=⟨cr,λc hc=>.inr (.inr (List.eq_of_mem_replicate hc))⟩
theorem aeq{w:Nat}{l:List Nat}:Fits (List.replicate w 42) l↔okW w l:=by
 constructor
 ·rintro ⟨h1,h2⟩;rw[cr]at h1;refine ⟨h1.symm,λc hc=>?_⟩;obtain ⟨i,hi,rfl⟩:=List.getElem_of_mem hc;have:=h2 i 42 l[i] (by rw[List.getElem?_replicate];rw[if_pos (by omega)]) (by simp[hi]);simpa [alt] using this
 ·rintro ⟨h1,h2⟩;refine ⟨by rw[cr,h1],λi c s hc hs=>?_⟩;rw[List.getElem?_replicate]at hc;split at hc
  ·cases hc;have:=h2 s (bP hs);simpa [alt] using this
  ·cases hc
theorem aer{p:Addr}{G:DH}{k:D->DH->Prop}{E:EK}(hp:Pen G p)(hk:∀G',Pen G' p->Sb p G G'->k (.ref p) G'):uX.t [.ref p] G k E:=
 bM ⟨p,rfl,hp⟩ λd G' hx=>by obtain ⟨p2,e1,e2,hp',sb⟩:=hx;cases e1;subst e2;exact hk G' hp' sb
def d7(a b:Nat):Option Nat:=if a=42 then some b else if b=42\/b=a then some a else none
noncomputable def cJ:List Nat->List Nat->Option (List Nat)
 |a::f,b::g=>match d7 a b with |some c=>(cJ f g).map (c::·) |none=>none
 |_,_=>some []
def bH:Option (List Nat)->D
 |some l=>.str l
 |none=>.non
noncomputable def m6:List D->Option D
 |[.str f,.str g]=>if decide (f.length<=100000) then some (bH (cJ f g)) else none
 |_=>none
theorem aes{f g:List Nat}{i a b:Nat}(h:(f.zip g)[i]?=some (a,b)):cJ (f.drop i) (g.drop i)=match d7 a b with |some c=>(cJ (f.drop (i+1)) (g.drop (i+1))).map (c::·) |none=>none:=by
 have hz:=am.mp h;obtain ⟨hl,he⟩:=hz;rw[fv]at hl;have h1:i < f.length:=by omega
 have h2:i < g.length:=by omega
 rw[List.getElem_zip]at he;rw[bp h1,bp h2];simp only[Prod.mk.injEq]at he;rw[he.1,he.2];rfl
theorem aet{f g:List Nat}:cJ (f.drop (f.zip g).length) (g.drop (f.zip g).length)=some []:=by
 rw[fv];by_cases h:f.length<=g.length
 ·rw[Nat.min_eq_left h,dP];cases g.drop f.length <;> rfl
 ·rw[gc (by omega),dP];cases f.drop g.length <;> rfl
theorem aeu(Φ:aa)(ds:List D)(G:DH)(d:D)(h:m6 ds=some d):aq Φ lO noE (env0 ds 3) G (ends λd' G'=>G'=G/\d'=d):=by
 unfold m6 at h;split at h
 ·rename_i f g;split at h
  ·rename_i hl;have hl:=c8 hl;cases h;simp_all_arith[lO];refine seq λM hM=>?_;simp_arith[ends];refine hM _ _ (seq λM hM=>?_);simp_arith![u6];refine ForG.inv (P:=λi ρ G'=>(∃o3 o4 m,ρ=[some (.str f),some (.str g),some (.str m),o3,o4]/\m.length=i/\cJ f g=(cJ (f.drop i) (g.drop i)).map (m ++ ·))/\G'=G) ⟨⟨_,_,[],rfl,rfl,by simp⟩,rfl⟩ (λ_ _ _ _=>trivial) ?_ ?_
   ·rintro i d ρ G' hd ⟨⟨o3,o4,m,rfl,hm,hb⟩,rfl⟩ kk hk;rw[aE]at hd;obtain ⟨⟨a,b⟩,hab,rfl⟩:=ax.mp hd;have hi:=(am.mp hab).1;rw[fv]at hi;rw[aes hab]at hb;simp_arith![ends];refine last ?_;have put:∀(c:Nat)(o3 o4:Option D),d7 a b=some c->m.length+1<=sz/\kk [some (.str f),some (.str g),some (.str (m++[c])),o3,o4] G':=by
     intro c o3 o4 hc;rw[hc]at hb;refine ⟨by have hsz:sz=1000000:=rfl;omega,hk _ _ ⟨⟨_,_,_,rfl,by simp[hm],?_⟩,rfl⟩⟩;rw[hb,fF];congr 1;funext x;simp
    simp_arith[fu];by_cases h42:a=42
    ·have:((a==42):Bool)=true:=by simp[h42]
     simp_arith[this];exact put b _ _ (if_pos h42)
    ·have h0:((a==42):Bool)=false:=by simp[h42]
     simp_arith[h0,fu];by_cases hb42:b=42
     ·have:((b==42):Bool)=true:=by simp[hb42]
      simp_arith[this];exact put a _ _ (by unfold d7;rw[if_neg h42,if_pos (.inl hb42)])
     ·have h1:((b==42):Bool)=false:=by simp[hb42]
      simp_arith[h1,fu];by_cases hba:b=a
      ·have:((b==a):Bool)=true:=by simp[hba]
       simp_arith[this];exact put a _ _ (by unfold d7;rw[if_neg h42,if_pos (.inr hba)])
      ·have:((b==a):Bool)=false:=by simp[hba]
       simp_arith[this];have hn:d7 a b=none:=by unfold d7;rw[if_neg h42,if_neg (by rintro (h |h);exact hb42 h;exact hba h)]
       rw[hn]at hb;rw[hb];rfl
   ·rintro ρ G' ⟨⟨o3,o4,m,rfl,hm,hb⟩,rfl⟩;rw[ag,aet]at hb;refine hM _ _ ?_;simp_arith[ends];rw[hb];simp[bH]
  ·cases h
 ·cases h
noncomputable def gW:List D->Option D
 |[.str f,.int n,.str [c]]=>if decide (0<=n)&&decide (n < f.length)&&decide (f.length<=1000) then some (.str (f.set n.toNat c)) else none
 |_=>none
theorem Ab{l:List Nat}{n c:Nat}(h:n < l.length):l.take n++[c]++l.drop (n+1)=l.set n c:=by rw[List.set_eq_take_append_cons_drop,if_pos h];simp
theorem aev(Φ:aa)(ds:List D)(G:DH)(d:D)(h:gW ds=some d):aq Φ lV noE (env0 ds 0) G (ends λd' G'=>G'=G/\d'=d):=by
 unfold gW at h;split at h
 ·rename_i f n c;split at h
  ·rename_i hl;simp only[ae,ci]at hl;obtain ⟨⟨h0,h1⟩,h2⟩:=hl;cases h;obtain ⟨k,rfl⟩:=c6 h0;simp_arith[lV,jL,uQ,av,bb,bS,cy,Ab (show k < f.length by omega)];exact ⟨by have hsz:sz=1000000:=rfl;omega,by have hsz:sz=1000000:=rfl;omega⟩
  ·cases h
 ·cases h
noncomputable def jd:List D->Option D
 |[.int n]=>if decide (0<=n)&&decide (n<=1000) then some (.str (List.replicate n.toNat 42)) else none
 |_=>none
theorem aew(Φ:aa)(ds:List D)(G:DH)(d:D)(h:jd ds=some d):aq Φ mj noE (env0 ds 0) G (ends λd' G'=>G'=G/\d'=d):=by
 unfold jd at h;split at h
 ·rename_i n;split at h
  ·rename_i hl;simp only[ae,ci]at hl;cases h;simp_arith[mj,PK];exact ⟨hl.1,hl.2,by have hsz:sz=1000000:=rfl;omega⟩
  ·cases h
 ·cases h
def aR(rs:List Row)(b:List Nat):Option Nat:=rs.findIdx? λr=>(cJ r.1 b).isSome
def PL(ds:List D)(_:DH):Prop:=∃(rs:List Row)(b:List Nat),ds=[.tup (rs.map aA),.str b]/\∀r∈rs,r.1.length<=1000
def PN(ds:List D)(G:DH)(d:D)(G':DH):Prop:=G'=G/\∃(rs:List Row)(b:List Nat),ds=[.tup (rs.map aA),.str b]/\d=aP (aR rs b)
def m7:RF.Spec:=bz PL PN
theorem Ac{rs ss:List Row}(h:rs.map aA=ss.map aA):rs=ss:=(z9 (w:=0) (v:=0) (by unfold au;rw[h])).2
theorem PP{rs:List Row}{b:List Nat}{G:DH}{k:D->DH->Prop}{E:EK}(h:∀r∈rs,r.1.length<=1000)(hk:k (aP (aR rs b)) G):m7.t [.tup (rs.map aA),.str b] G k E:=by refine bM ⟨rs,b,rfl,h⟩ λd G' hx=>?_;obtain ⟨e1,rs2,b2,e2,e3⟩:=hx;simp only[c9,D.str.injEq,D.tup.injEq,fe]at e2;obtain ⟨e2,rfl⟩:=e2;cases Ac e2;subst e1 e3;exact hk
theorem aex{o:Option (List Nat)}:fj (bH o)=!o.isSome:=by cases o <;> rfl
theorem aey{G:DH}{o:Option (List Nat)}:view G (bH o)=bH o:=by cases o <;> rfl
theorem aez{rs:List Row}{b:List Nat}{i:Nat}{r:Row}(h:rs[i]?=some r):aR (rs.drop i) b=if (cJ r.1 b).isSome then some 0 else (aR (rs.drop (i+1)) b).map (·+1):=by
 have hi:=(am.mp h).1;have e:rs.drop i=r::rs.drop (i+1):=by rw[bp hi];rw[(am.mp h).2]
 rw[e];unfold aR;rw[fw]
theorem aeA (Φ:aa) (h1:Φ "both"=aM m6) (ds:List D) (G:DH) (h:PL ds G):aq Φ lQ noE (env0 ds 2) G (ends (PN ds G)):=by
 obtain ⟨rs,b,rfl,hb⟩:=h;simp_all_arith[lQ];refine seq λM hM=>?_;simp_arith![ends];refine ForG.inv (P:=λi ρ G'=>(∃o2 o3,ρ=[some (.tup (rs.map aA)),some (.str b),o2,o3])/\G'=G/\aR rs b=(aR (rs.drop i) b).map (·+i)) ⟨⟨_,_,rfl⟩,rfl,by simp⟩ (λ_ _ _ _=>trivial) ?_ ?_
 ·rintro i d ρ G' hd ⟨⟨o2,o3,rfl⟩,rfl,hmet⟩ kk hk;rw[iQ]at hd;obtain ⟨d',hd',rfl⟩:=ax.mp hd;rw[aE]at hd';obtain ⟨r,hr,rfl⟩:=ax.mp hd';have hrl:=hb r (bP hr);rw[aez hr]at hmet;simp_arith![ends];refine last ?_;simp_arith[h1,aA];refine cH (d:=bH (cJ r.1 b)) (if_pos (a8 (by omega))) ?_;simp_arith[aey,aex];cases hf:(cJ r.1 b).isSome with
  |true=>
   rw[hf,if_pos rfl]at hmet;exact ⟨rfl,rs,b,rfl,by rw[hmet];simp[aP]⟩
  |false=>
   rw[hf,if_neg br]at hmet;refine hk _ _ ⟨⟨_,_,rfl⟩,rfl,?_⟩;rw[hmet,fF];congr 1;funext n;simp;omega
 ·rintro ρ G' ⟨⟨o2,o3,rfl⟩,rfl,hmet⟩;rw[iM,ag,dP]at hmet;refine hM _ _ ?_;simp_arith[ends];exact ⟨rfl,rs,b,rfl,by rw[hmet];rfl⟩
def cV(f b:List Nat):Option Nat:=(f.zip b).findIdx? λp=>p.2==42&&!(p.1==42)
noncomputable def dg(rs:List Row)(b:List Nat):Option Nat:=match aR rs b with |some n=>(match rs[n]? with |some r=>cV r.1 b |none=>none) |none=>none
def PQ(ds:List D)(_:DH):Prop:=∃(rs:List Row)(b:List Nat),ds=[.tup (rs.map aA),.str b]/\(∀r∈rs,r.1.length=b.length)/\b.length<=1000
def P0(ds:List D)(G:DH)(d:D)(G':DH):Prop:=G'=G/\∃(rs:List Row)(b:List Nat),ds=[.tup (rs.map aA),.str b]/\d=aP (dg rs b)
def u9:RF.Spec:=bz PQ P0
theorem aeB{rs:List Row}{b:List Nat}{G:DH}{k:D->DH->Prop}{E:EK}(h:∀r∈rs,r.1.length=b.length)(hl:b.length<=1000)(hk:k (aP (dg rs b)) G):u9.t [.tup (rs.map aA),.str b] G k E:=by refine bM ⟨rs,b,rfl,h,hl⟩ λd G' hx=>?_;obtain ⟨e1,rs2,b2,e2,e3⟩:=hx;simp only[c9,D.str.injEq,D.tup.injEq,fe]at e2;obtain ⟨e2,rfl⟩:=e2;cases Ac e2;subst e1 e3;exact hk
theorem vd{rs:List Row}{b:List Nat}{n:Nat}(h:aR rs b=some n):n < rs.length:=(List.findIdx?_eq_some_iff_findIdx_eq.mp h).1
theorem aeC{f b:List Nat}{i s c:Nat}(hs:f[i]?=some s)(hc:b[i]?=some c):cV (f.drop i) (b.drop i)=if (c==42&&!(s==42))=true then some 0 else (cV (f.drop (i+1)) (b.drop (i+1))).map (·+1):=by have h1:=am.mp hs;have h2:=am.mp hc;rw[bp h1.1,bp h2.1,h1.2,h2.2];unfold cV;rw[List.zip_cons_cons,fw]
theorem aeD (Φ:aa) (h1:Φ "first_touching"=m7) (ds:List D) (G:DH) (h:PQ ds G):aq Φ lU noE (env0 ds 3) G (ends (P0 ds G)):=by
 obtain ⟨rs,b,rfl,hb,hbl⟩:=h;simp_all_arith[lU];refine seq λM hM=>?_;simp_arith[h1];refine PP (λr hr=>by rw[hb r hr];exact hbl) (hM _ _ (seq λM hM=>?_));cases ht:aR rs b with
 |none=>
  simp_arith[aP];exact ⟨rfl,rs,b,rfl,by unfold dg;rw[ht];rfl⟩
 |some n=>
  have hn:=vd ht;have hlen:=hb rs[n] (cw _);have hsp:dg rs b=cV rs[n].1 b:=by unfold dg;rw[ht];simp[hn]
  simp_arith[aP];refine hM _ _ (seq λM hM=>?_);simp_arith![ends];refine bG (a:=aA rs[n]) (bB (by simp[hn])) ?_;simp_arith![aA];generalize rs[n].1=f at hlen hsp;refine ForG.inv (P:=λi ρ G'=>(∃o3 o4,ρ=[some (.tup (rs.map aA)),some (.str b),some (.int (n:Int)),o3,o4])/\G'=G/\cV f b=(cV (f.drop i) (b.drop i)).map (·+i)) ⟨⟨_,_,rfl⟩,rfl,by simp⟩ (λ_ _ _ _=>trivial) ?_ ?_
  ·rintro i d ρ G' hd ⟨⟨o3,o4,rfl⟩,rfl,hs⟩ kk hk;rw[iQ]at hd;obtain ⟨d',hd',rfl⟩:=ax.mp hd;rw[aE]at hd';obtain ⟨s,hsi,rfl⟩:=ax.mp hd';have hi:=(am.mp hsi).1;have hib:i < b.length:=by omega
   have hbi:b[i]?=some b[i]:=by simp[hib]
   rw[aeC hsi hbi]at hs;simp_arith![ends];refine last ?_;simp_arith[ends];refine bG (a:=b[i]) (by rw[Nat.zero_add];exact bB hbi) ?_;simp_arith[fu];cases h42:(b[i]==42) with
   |false=>
    simp only[h42,Bool.false_and,if_neg br]at hs;simp_arith[ends];refine hk _ _ ⟨⟨_,_,rfl⟩,rfl,?_⟩;rw[hs,fF];congr 1;funext n;simp;omega
   |true=>
    simp_arith[fu];cases hs42:(s==42) with
    |true=>
     simp only[h42,hs42,Bool.not_true,Bool.and_false,if_neg br]at hs;simp_arith[ends];refine hk _ _ ⟨⟨_,_,rfl⟩,rfl,?_⟩;rw[hs,fF];congr 1;funext n;simp;omega
    |false=>
     simp only[h42,hs42,Bool.not_false,Bool.and_true,if_pos]at hs;simp_arith[ends];exact ⟨rfl,rs,b,rfl,by rw[hsp,hs];simp[aP]⟩
  ·rintro ρ G' ⟨⟨o3,o4,rfl⟩,rfl,hs⟩;rw[iM,ag,dP]at hs;refine hM _ _ ?_;simp_arith[ends];exact ⟨rfl,rs,b,rfl,by rw[hsp,hs];simp[cV,aP]⟩
def jV:List Nat:=[115,112,108,105,116]
def stc(b:List Nat):Nat:=b.countP (·==42)
theorem jW{b:List Nat}{n c:Nat}(h:b[n]?=some 42)(hc:c≠42):stc (b.set n c)+1=stc b:=by
 obtain ⟨hl,he⟩:=am.mp h;have e1:b=b.take n++42::b.drop (n+1):=by rw[<-he,<-bp hl,List.take_append_drop]
 have e2:b.set n c=b.take n++c::b.drop (n+1):=by rw[List.set_eq_take_append_cons_drop,if_pos hl]
 unfold stc;rw[e2];conv=>rhs;rw[e1]
 rw[List.countP_append,List.countP_append,List.countP_cons_of_neg (by simp[hc]),List.countP_cons_of_pos (by simp)];omega
theorem vf{w n c:Nat}{b:List Nat}(h:okF w b)(hc:isF c):okF w (b.set n c):=⟨by rw[d5];exact h.1,λd hd=>by
 rcases List.mem_or_eq_of_mem_set hd with h' |h'
 ·exact h.2 d h'
 ·rw[h'];exact hc⟩
theorem aeE:isF 48:=.inl rfl
theorem aeF:isF 49:=.inr (.inl rfl)
inductive Gr (name:List Nat) (rss:List (List Row)):List Nat->D->Prop
 |leaf (b:List Nat) (h:∀rs∈rss,dg rs b=none):Gr name rss b (.tup (.str name::rss.map λrs=>aP (aR rs b)))
 |node (b:List Nat) (n:Nat) (z o:D) (h:b[n]?=some 42) (hz:Gr name rss (b.set n 48) z) (ho:Gr name rss (b.set n 49) o):Gr name rss b (.tup [.str jV,.int n,z,o])
def dM(rss:List (List Row)):List D:=rss.map λrs=>.tup (rs.map aA)
structure okG(w:Nat)(name:List Nat)(rss:List (List Row)):Prop where
 len:rss.length<=100
 nl:name.length<=100
 form:∀rs∈rss,∀r∈rs,r.1.length=w
 w1000:w<=1000
def Qa(n:Nat)(ds:List D)(_:DH):Prop:=∃(w:Nat)(name:List Nat)(rss:List (List Row))(b:List Nat),ds=[.str name,.lst (dM rss),.str b]/\okG w name rss/\b.length=w/\stc b < n
def Qc(ds:List D)(G:DH)(d:D)(G':DH):Prop:=G'=G/\∃(name:List Nat)(rss:List (List Row))(b:List Nat),ds=[.str name,.lst (dM rss),.str b]/\Gr name rss b d
def d9(n:Nat):RF.Spec:=bz (Qa n) Qc
theorem aeG{a b:List (List Row)}(h:dM a=dM b):a=b:=by
 unfold dM at h;induction a generalizing b with
 |nil=>cases b with
  |nil=>rfl
  |cons _ _=>simp at h
 |cons x a ih=>cases b with
  |nil=>simp at h
  |cons y b=>
   simp only[bo,c9,D.tup.injEq]at h;rw[Ac h.1,ih h.2]
theorem vg{n w:Nat}{name:List Nat}{rss:List (List Row)}{b:List Nat}{G:DH}{k:D->DH->Prop}{E:EK}(h:okG w name rss)(hb:b.length=w)(hs:stc b < n)(hk:∀d,Gr name rss b d->k d G):(d9 n).t [.str name,.lst (dM rss),.str b] G k E:=by refine bM ⟨w,name,rss,b,rfl,h,hb,hs⟩ λd G' hx=>?_;obtain ⟨e1,name2,rss2,b2,e2,e3⟩:=hx;simp only[c9,D.str.injEq,D.lst.injEq,fe]at e2;obtain ⟨rfl,e2,rfl⟩:=e2;cases aeG e2;subst e1;exact hk d e3
theorem aeH{f b:List Nat}{n:Nat}(h:cV f b=some n):b[n]?=some 42:=by unfold cV at h;have h2:=fA.mp h;obtain ⟨hl,hp,_⟩:=h2;rw[fv]at hl;rw[List.getElem_zip]at hp;simp only[ae,aw]at hp;rw[aS (by omega),hp.1]
theorem aeI{rs:List Row}{b:List Nat}{n:Nat}(h:dg rs b=some n):b[n]?=some 42:=by
 unfold dg at h;split at h
 ·split at h
  ·exact aeH h
  ·cases h
 ·cases h
theorem vh{b:List Nat}{n c:Nat}{G:DH}{k:D->DH->Prop}{E:EK}(h:n < b.length)(hl:b.length<=1000)(hk:k (.str (b.set n c)) G):(aM gW).t [.str b,.int n,.str [c]] G k E:=
 cH (by
  unfold gW;dsimp only;rw[if_pos (by simp only[ae,ci];omega),cy]) hk
theorem aeJ (Φ:aa) (n:Nat) (h0:Φ "grown"=d9 n) (h1:Φ "first_touching"=m7) (h2:Φ "splitting_place"=u9) (h3:Φ "with_sign"=aM gW) (ds:List D) (G:DH) (h:Qa (n+1) ds G):aq Φ jP noE (env0 ds 4) G (ends (Qc ds G)):=by
 obtain ⟨w,name,rss,b,rfl,hg,hb,hs⟩:=h;have hw:=hg.w1000;simp_all_arith[jP];refine seq λM hM=>?_;simp_arith![ends];refine ForG.inv (P:=λi ρ G'=>(∃o3 o4 o5 o6,ρ=[some (.str name),some (.lst (dM rss)),some (.str b),o3,o4,o5,o6])/\G'=G/\∀rs∈rss.take i,dg rs b=none) ⟨⟨_,_,_,_,rfl⟩,rfl,by simp⟩ (λ_ _ _ _=>trivial) ?_ ?_
 ·rintro i d ρ G' hd ⟨⟨o3,o4,o5,o6,rfl⟩,rfl,hall⟩ kk hk;unfold dM at hd;rw[aE]at hd;obtain ⟨rs,hrs,rfl⟩:=ax.mp hd;simp_arith![ends];refine seq λM hM=>?_;simp_arith[h2];refine aeB (λr hr=>by rw[hg.form rs (bP hrs) r hr,hb]) (by omega) (hM _ _ (last ?_));cases hsp:dg rs b with
  |none=>
   simp_arith[aP];refine hk _ _ ⟨⟨_,_,_,_,rfl⟩,rfl,λrs' hrs'=>?_⟩;rw[eg,hrs]at hrs';rcases ba.mp hrs' with h |h
   ·exact hall rs' h
   ·have:rs'=rs:=by simpa using h
    rw[this];exact hsp
  |some at'=>
   have hst:=aeI hsp;have hat:=(am.mp hst).1;simp_arith![aP];refine seq λM hM=>?_;simp_arith[h0,h3];refine vh hat (by omega) (vg hg (by rw[d5];exact hb) (by have:=jW hst (show 48≠42 by decide);omega) λz hz=>hM _ _ (seq λM hM=>?_));simp_arith[h0,h3];refine vh hat (by omega) (vg hg (by rw[d5];exact hb) (by have:=jW hst (show 49≠42 by decide);omega) λo ho=>hM _ _ (last ?_));simp_arith[ends];exact ⟨by decide,rfl,name,rss,b,rfl,.node b at' z o hst hz ho⟩
 ·rintro ρ G' ⟨⟨o3,o4,o5,o6,rfl⟩,rfl,hall⟩;have hlen:(dM rss).length=rss.length:=ag _;rw[hlen,et]at hall;have hrl:=hg.len;refine hM _ _ ?_;simp_arith[h1];refine ⟨by decide,CompG.inv (P:=λi acc ρ G''=>(∃o,ρ=[o,some (.str b)])/\G''=G'/\acc=(rss.take i).map λrs=>aP (aR rs b)) ⟨⟨_,rfl⟩,rfl,rfl⟩ (λ_ _ _ _ _=>trivial) (by rw[hlen];have hsz:sz=1000000:=rfl;omega) ?_ ?_⟩
  ·rintro i d acc ρ G'' hd ⟨⟨o,rfl⟩,rfl,rfl⟩ kk hk;unfold dM at hd;rw[aE]at hd;obtain ⟨rs,hrs,rfl⟩:=ax.mp hd;simp_arith[h1];refine PP (λr hr=>by rw[hg.form rs (bP hrs) r hr];omega) (hk _ _ _ ⟨⟨_,rfl⟩,rfl,?_⟩);rw[eg,hrs];simp
  ·rintro acc ρ G'' ⟨_,rfl,rfl⟩;rw[hlen,et];simp_arith[ag];exact ⟨by have hsz:sz=1000000:=rfl;omega,rfl,name,rss,b,rfl,.leaf b hall⟩
theorem aeK(ds:List D)(G:DH)(a:(d9 0).A):¬(d9 0).pre ds G a:=λ⟨_,_,_,_,_,_,_,_,h⟩=>by omega
theorem aeL(w:Nat):stc (List.replicate w 42)<=w:=by have:=List.countP_le_length (p:=(·==42)) (l:=List.replicate w 42);rw[cr]at this;exact this
theorem Qd:∀{f b w:List Nat},cJ f b=none->(∀s∈w,s=48\/s=49)->Fits b w->cg f w=true->False
 |[],b,w,h,_,_,_=>by cases b <;> cases h
 |a::f,[],w,h,_,_,_=>by cases h
 |a::f,c::b,[],h,_,hf,_=>by have:=hf.1;simp at this
 |a::f,c::b,s::w,h,hw,hf,hz=>by
  rw[cg,ae]at hz;have hs:=hf.2 0 c s rfl rfl;have hf':Fits b w:=⟨by have:=hf.1;simpa using this,λi c' s' h1 h2=>hf.2 (i+1) c' s' (by simpa using h1) (by simpa using h2)⟩;unfold cJ at h;cases h1:d7 a c with
  |some x=>
   rw[h1]at h;simp only[Option.map_eq_none_iff]at h;exact Qd h (λs hs=>hw s (ca _ hs)) hf' hz.2
  |none=>
   unfold d7 at h1;split at h1
   ·cases h1
   ·split at h1
    ·cases h1
    ·rename_i ha hc;have h2:=(Pu (hw s cp)).mp hz.1;unfold alt at hs h2;rw[if_neg ha]at h2;have es:s=a:=by simpa using h2
     split at hs
     ·rename_i e;exact hc (.inl e)
     ·have:s=c:=by simpa using hs
      exact hc (.inr (by omega))
theorem Qe:∀{f b w:List Nat},f.length=b.length->(cJ f b).isSome=true->cV f b=none->(∀s∈w,s=48\/s=49)->Fits b w->cg f w=true
 |[],b,w,_,_,_,_,_=>rfl
 |a::f,[],w,h,_,_,_,_=>by simp at h
 |a::f,c::b,[],_,_,_,_,hf=>rfl
 |a::f,c::b,s::w,hl,hb,hs,hw,hf=>by
  have hs0:=hf.2 0 c s rfl rfl;have hf':Fits b w:=⟨by have:=hf.1;simpa using this,λi c' s' h1 h2=>hf.2 (i+1) c' s' (by simpa using h1) (by simpa using h2)⟩;unfold cV at hs;rw[List.zip_cons_cons,fw]at hs;split at hs
  ·cases hs
  ·rename_i hne;have hs':cV f b=none:=by unfold cV;simpa using hs
   unfold cJ at hb;cases h1:d7 a c with
   |none=>rw[h1]at hb;cases hb
   |some x=>
    rw[h1]at hb;have hb':(cJ f b).isSome=true:=by simpa using hb
    rw[cg,ae];refine ⟨?_,Qe (by simpa using hl) hb' hs' (λs hs=>hw s (ca _ hs)) hf'⟩;rw[Pu (hw s cp)];by_cases ha:a=42
    ·unfold alt;rw[if_pos ha];rcases hw s cp with e |e <;> simp[e]
    ·have hc:c≠42:=by
      rintro rfl;exact hne (by simp[ha])
     unfold alt at hs0 ⊢;rw[if_neg hc]at hs0;rw[if_neg ha];unfold d7 at h1;rw[if_neg ha]at h1;split at h1
     ·rename_i h2;rcases h2 with h2 |h2
      ·exact absurd h2 hc
      ·rw[<-h2];exact hs0
     ·cases h1
theorem Qf{rs:List Row}{b l:List Nat}(hf:∀r∈rs,r.1.length=b.length)(hs:dg rs b=none)(hl:∀s∈l,s=48\/s=49)(hb:Fits b l):aV rs l=aR rs b:=by
 have no:∀r∈rs,(cJ r.1 b).isSome=false->dJ r.1 l=false:=by
  intro r hr h;cases e:dJ r.1 l with
  |false=>rfl
  |true=>
   unfold dJ at e;rw[ae]at e;exact (Qd (by simpa using h) hl hb e.2).elim
 cases ht:aR rs b with
 |none=>
  unfold aR at ht;unfold aV;rw[List.findIdx?_eq_none_iff]at ht ⊢;exact λr hr=>no r hr (by simpa using ht r hr)
 |some n=>
  have hn:=vd ht;have ht':=fA.mp ht;obtain ⟨_,t1,t2⟩:=ht';unfold aV;rw[fA];refine ⟨hn,?_,λj hj=>?_⟩
  ·have hsf:cV rs[n].1 b=none:=by
    unfold dg at hs;rw[ht]at hs;simpa [hn] using hs
   have hlen:=hf rs[n] (cw _);unfold dJ;rw[ae];exact ⟨a8 (by rw[hlen,hb.1]),Qe hlen t1 hsf hl hb⟩
  ·have:=no rs[j] (cw _) (by simpa using t2 j hj);simp[this]
theorem aeM{f w:List Nat}{i a b:Nat}(h:(f.zip w)[i]?=some (a,b)):cg (f.drop i) (w.drop i)=(gU a b&&cg (f.drop (i+1)) (w.drop (i+1))):=by
 have hz:=am.mp h;obtain ⟨hl,he⟩:=hz;rw[fv]at hl;have h1:i < f.length:=by omega
 have h2:i < w.length:=by omega
 rw[List.getElem_zip]at he;rw[bp h1,bp h2];simp only[Prod.mk.injEq]at he;rw[he.1,he.2];rfl
theorem aeN{f w:List Nat}:cg (f.drop (f.zip w).length) (w.drop (f.zip w).length)=true:=by
 rw[fv];by_cases h:f.length<=w.length
 ·rw[Nat.min_eq_left h,dP];rfl
 ·rw[gc (by omega),dP];cases f.drop w.length <;> rfl
def m8:List D->Option D
 |[.str f,.str w]=>some (.bl (cg f w))
 |_=>none
theorem aeO(Φ:aa)(ds:List D)(G:DH)(d:D)(h:m8 ds=some d):aq Φ zB noE (env0 ds 2) G (ends λd' G'=>G'=G/\d'=d):=by
 unfold m8 at h;split at h
 ·rename_i f w;cases h;simp_all_arith[zB];refine seq λM hM=>?_;simp_arith![u6];refine ForG.inv (P:=λi ρ G'=>(∃o2 o3,ρ=[some (.str f),some (.str w),o2,o3])/\G'=G/\cg f w=cg (f.drop i) (w.drop i)) ⟨⟨_,_,rfl⟩,rfl,by simp⟩ (λ_ _ _ _=>trivial) ?_ ?_
  ·rintro i d ρ G' hd ⟨⟨o2,o3,rfl⟩,rfl,hb⟩ kk hk;rw[aE]at hd;obtain ⟨⟨a,b⟩,hab,rfl⟩:=ax.mp hd;rw[aeM hab]at hb;unfold gU at hb;simp_arith![ends];refine last ?_;simp_arith[fu];cases h42:(a==42) with
   |true=>
    simp_arith[ends];exact hk _ _ ⟨⟨_,_,rfl⟩,rfl,by rw[hb,h42];rfl⟩
   |false=>
    simp_arith[fu];cases hs:(a==b) with
    |true=>
     simp_arith[ends];exact hk _ _ ⟨⟨_,_,rfl⟩,rfl,by rw[hb,hs];simp⟩
    |false=>
     simp_arith[ends];rw[hb,h42,hs];simp
  ·rintro ρ G' ⟨⟨o2,o3,rfl⟩,rfl,hb⟩;rw[ag,aeN]at hb;refine hM _ _ ?_;simp_arith[hb]
 ·cases h
theorem aeP{f l:List Nat}(h:f.length=l.length):dJ f l=cg f l:=by unfold dJ;rw[a8 h];rfl
def m9:RF.Spec:=b8 (A:=Nat×List Row×List Nat) (λa=>[au a.1 a.2.1,.str a.2.2]) (λa=>∀r∈a.2.1,r.1.length=a.2.2.length) (λa=>aP (aV a.2.1 a.2.2))
theorem Qg{w:Nat}{rs:List Row}{l:List Nat}{G:DH}{k:D->DH->Prop}{E:EK}(h:∀r∈rs,r.1.length=l.length)(hk:k (aP (aV rs l)) G):m9.t [au w rs,.str l] G k E:=cA (w,rs,l) rfl h hk
theorem aeQ (Φ:aa) (h1:Φ "_law_fits"=aM m8) (a:Nat×List Row×List Nat) (G:DH) (h:∀r∈a.2.1,r.1.length=a.2.2.length):
  aq Φ zE noE (env0 [au a.1 a.2.1,.str a.2.2] 2) G (ends λd G'=>G'=G/\d=aP (aV a.2.1 a.2.2)):=by
 obtain ⟨w,rs,l⟩:=a;dsimp only at h ⊢;simp_all_arith[zE];refine seq λM hM=>?_;simp_arith![au];refine ForG.inv (P:=λi ρ G'=>(∃o2 o3,ρ=[some (.tup [.int w,.tup (rs.map aA)]),some (.str l),o2,o3])/\G'=G/\aV rs l=(aV (rs.drop i) l).map (·+i)) ⟨⟨_,_,rfl⟩,rfl,by simp⟩ (λ_ _ _ _=>trivial) ?_ ?_
 ·rintro i d ρ G' hd ⟨⟨o2,o3,rfl⟩,rfl,hmet⟩ kk hk;rw[iQ]at hd;obtain ⟨d',hd',rfl⟩:=ax.mp hd;rw[aE]at hd';obtain ⟨r,hr,rfl⟩:=ax.mp hd';rw[Py hr,aeP (h r (bP hr))]at hmet;simp_arith![ends];refine last ?_;simp_arith[h1,aA];refine cH (d:=.bl (cg r.1 l)) rfl ?_;simp_arith[ends];cases hf:cg r.1 l with
  |true=>
   rw[hf,if_pos rfl]at hmet;rw[hmet];simp[aP]
  |false=>
   rw[hf,if_neg br]at hmet;refine hk _ _ ⟨⟨_,_,rfl⟩,rfl,?_⟩;rw[hmet,fF];congr 1;funext n;simp;omega
 ·rintro ρ G' ⟨⟨o2,o3,rfl⟩,rfl,hmet⟩;rw[iM,ag,dP]at hmet;refine hM _ _ ?_;simp_arith[ends];rw[hmet];rfl
noncomputable def ni(name:List Nat)(rss:List (List Row))(b:List Nat):D:=.tup (.str name::rss.map λrs=>aP (aR rs b))
def jX(name:List Nat)(rss:List (List Row))(b:List Nat):D:=.tup [.str b,ni name rss b]
inductive Lv (name:List Nat) (rss:List (List Row)):List Nat->D->List (List Nat)->Prop
 |leaf (b:List Nat) (h:∀rs∈rss,dg rs b=none):Lv name rss b (ni name rss b) [b]
 |node (b:List Nat) (n:Nat) (z o:D) (l m:List (List Nat)) (h:b[n]?=some 42) (hz:Lv name rss (b.set n 48) z l) (ho:Lv name rss (b.set n 49) o m):Lv name rss b (.tup [.str jV,.int n,z,o]) (l++m)
theorem Gr.lv{name:List Nat}{rss:List (List Row)}{b:List Nat}{d:D}(h:Gr name rss b d):∃bs,Lv name rss b d bs:=by
 induction h with
 |leaf b h=>exact ⟨_,.leaf b h⟩
 |node b n z o h _ _ hz ho=>
  obtain ⟨l,hl⟩:=hz;obtain ⟨m,hm⟩:=ho;exact ⟨_,.node b n z o l m h hl hm⟩
theorem Lv.len{name:List Nat}{rss:List (List Row)}{b:List Nat}{d:D}{bs:List (List Nat)}(h:Lv name rss b d bs):bs.length<=2 ^ stc b:=by
 induction h with
 |leaf b h=>exact Nat.one_le_two_pow
 |node b n z o l m h _ _ hz ho=>
  have e1:=jW h (show 48≠42 by decide);have e2:=jW h (show 49≠42 by decide);rw[<-e1,Nat.pow_succ,av];have e3:stc (b.set n 49)=stc (b.set n 48):=by omega
  rw[e3]at ho;omega
theorem Lv.len'{name:List Nat}{rss:List (List Row)}{b:List Nat}{d:D}{bs:List (List Nat)}(h:Lv name rss b d bs)(hb:b.length<=12):bs.length<=4096:=by
 have h1:=h.len;have h2:stc b<=12:=bv (List.countP_le_length) hb;have h3:=eK (show 0 < 2 by decide) h2;have h4:2 ^ 12=4096:=by decide
 omega
theorem Lv.box{name:List Nat}{rss:List (List Row)}{b:List Nat}{d:D}{bs:List (List Nat)}(h:Lv name rss b d bs):∀c∈bs,c.length=b.length/\∀rs∈rss,dg rs c=none:=by
 induction h with
 |leaf b h=>intro c hc;rw[aT.mp hc];exact ⟨rfl,h⟩
 |node b n z o l m h _ _ hz ho=>
  intro c hc;rcases ba.mp hc with hc |hc
  ·have:=hz c hc;rw[d5]at this;exact this
  ·have:=ho c hc;rw[d5]at this;exact this
theorem Lv.okf{w:Nat}{name:List Nat}{rss:List (List Row)}{b:List Nat}{d:D}{bs:List (List Nat)}(h:Lv name rss b d bs):okF w b->∀c∈bs,okF w c:=by
 induction h with
 |leaf b h=>intro hb c hc;rw[aT.mp hc];exact hb
 |node b n z o l m h _ _ hz ho=>
  intro hb c hc;rcases ba.mp hc with hc |hc
  ·exact hz (vf hb aeE) c hc
  ·exact ho (vf hb aeF) c hc
theorem Qh{w:Nat}{f l:List Nat}(h:okF w f)(hf:Fits f l):∀s∈l,s=48\/s=49:=by
 intro s hs;obtain ⟨i,hi,rfl⟩:=List.getElem_of_mem hs;have hif:i < f.length:=by rw[hf.1];exact hi
 have:=hf.2 i f[i] l[i] (by simp[hif]) (by simp[hi]);rcases h.2 f[i] (cw _) with e |e |e <;> rw[e]at this <;> simp[alt]at this <;> omega
def isPlace(m:Int):D->Bool
 |.int i=>decide (0<=i)&&decide (i < m)
 |_=>false
def fB:List D->Option D
 |[.int m,x]=>if nr x then some (.bl (isPlace m x)) else none
 |_=>none
theorem aeR (Φ:aa) (h1:Φ "is_whole"=aM iZ) (ds:List D) (G:DH) (d:D) (h:fB ds=some d):aq Φ lX noE (env0 ds 0) G (ends λd' G'=>G'=G/\d'=d):=by
 unfold fB at h;split at h
 ·rename_i m x;split at h
  ·rename_i hx;cases h;have hf:iZ [x]=some (.bl (whole x)):=if_pos hx;simp_arith[lX,h1];refine cH hf ?_;cases x <;> first | (simp[nr]at hx;done) | (simp_arith[whole,isPlace];first | (simp;done) |skip)
   rename_i i;cases hi:decide (0<=i) with
   |true=>simp
   |false=>simp
  ·cases h
 ·cases h
theorem aeS{m i:Nat}{G:DH}{k:D->DH->Prop}{E:EK}(h:i < m)(hk:k (.bl true) G):(aM fB).t [.int m,.int i] G k E:=
 cH (by unfold fB;simp only[nr,if_true,isPlace];rw[a8 (by omega),a8 (by omega)];rfl) hk
noncomputable def gj:List D->Option D
 |[.str name,.int many,.tup (.str s::r)]=>some (.bl ((((r.length+1:Nat):Int)==many+1)&&(s==name)))
 |_=>none
theorem aeT(Φ:aa)(ds:List D)(G:DH)(d:D)(h:gj ds=some d):aq Φ lW noE (env0 ds 0) G (ends λd' G'=>G'=G/\d'=d):=by
 unfold gj at h;split at h
 ·rename_i name many s r;cases h;simp_arith[lW];cases he:(((r.length+1:Nat):Int)==many+1) with
  |false=>simp_arith[Bool.false_and]
  |true=>simp_arith[ft]
 ·cases h
theorem aeU{name s:List Nat}{m:Int}{r:List D}{G:DH}{k:D->DH->Prop}{E:EK}(h:s≠name)(hk:k (.bl false) G):(aM gj).t [.str name,.int m,.tup (.str s::r)] G k E:=
 cH (by unfold gj;dsimp only;rw[c5.mpr h,Bool.and_false]) hk
theorem aeV{name:List Nat}{m:Int}{r:List D}{G:DH}{k:D->DH->Prop}{E:EK}(h:(r.length:Int)=m)(hk:k (.bl true) G):(aM gj).t [.str name,.int m,.tup (.str name::r)] G k E:=
 cH (by unfold gj;dsimp only;rw[BEq.rfl,Bool.and_true,aw.mpr (by omega)]) hk
def oI:Option Int->D
 |some i=>.int i
 |none=>.non
inductive T where
 |lf (r:List (Option Int))
 |sp (i:Int) (z o:T)
noncomputable def T.d(name:List Nat):T->D
 |.lf r=>.tup (.str name::r.map oI)
 |.sp i z o=>.tup [.str jV,.int i,z.d name,o.d name]
def T.dep:T->Nat
 |.lf _=>0
 |.sp _ z o=>max z.dep o.dep+1
def je(b:List Nat)(i:Int):Bool:=decide (0<=i)&&b[i.toNat]?==some 42
noncomputable def T.lvs:T->List Nat->Option (List (List Nat×List (Option Int)))
 |.lf r,b=>some [(b,r)]
 |.sp i z o,b=>match je b i with
  |true=>(match z.lvs (b.set i.toNat 48),o.lvs (b.set i.toNat 49) with |some l,some m=>some (l++m) |_,_=>none)
  |false=>none
def nq(name:List Nat)(x:List Nat×List (Option Int)):D:=.tup [.str x.1,.tup (.str name::x.2.map oI)]
noncomputable def eE(name:List Nat):Option (List (List Nat×List (Option Int)))->D
 |none=>.non
 |some l=>.lst (l.map (nq name))
theorem T.lvs_len:∀(t:T){b:List Nat}{l:List (List Nat×List (Option Int))},t.lvs b=some l->l.length<=2 ^ t.dep
 |.lf r,b,l,h=>by cases h;exact Nat.one_le_two_pow
 |.sp i z o,b,l,h=>by
  rw[T.lvs]at h;split at h
  ·split at h
   ·rename_i l1 l2 h1 h2;cases h;have e1:=z.lvs_len h1;have e2:=o.lvs_len h2;have e3:=eK (show 0 < 2 by decide) (Nat.le_max_left z.dep o.dep);have e4:=eK (show 0 < 2 by decide) (Nat.le_max_right z.dep o.dep);rw[av,T.dep,Nat.pow_succ];omega
   ·cases h
  ·cases h
theorem T.lvs_len'{n:Nat}{t:T}{b:List Nat}{l:List (List Nat×List (Option Int))}(h:t.lvs b=some l)(hn:t.dep < n)(hn':n<=12):l.length<=4096:=by
 have h1:=t.lvs_len h;have h3:=eK (show 0 < 2 by decide) (show t.dep<=12 by omega);have h4:2 ^ 12=4096:=by decide
 omega
structure TA where
 name:List Nat
 b:List Nat
 t:T
def Qi(n:Nat)(a:TA):Prop:=a.name≠jV/\a.b.length<=12/\a.t.dep < n/\n<=12
def dN(n:Nat):RF.Spec:=b8 (λa:TA=>[.str a.b,a.t.d a.name]) (Qi n) (λa=>eE a.name (a.t.lvs a.b))
theorem Ad{n:Nat}{name b:List Nat}{t:T}{G:DH}{k:D->DH->Prop}{E:EK}(h1:name≠jV)(h2:b.length<=12)(h3:t.dep < n)(h4:n<=12)(hk:k (eE name (t.lvs b)) G):(dN n).t [.str b,t.d name] G k E:=cA ⟨name,b,t⟩ rfl ⟨h1,h2,h3,h4⟩ hk
theorem aeW(ds:List D)(G:DH)(a:(dN 0).A):¬(dN 0).pre ds G a:=λ⟨_,_,_,_,h,_⟩=>by omega
theorem aeX{b:List Nat}{i:Int}(h:je b i=true):0<=i/\∃n:Nat,i=n/\n < b.length/\b[n]?=some 42:=by
 unfold je at h;rw[ae]at h;have h1:=c8 h.1;have h2:b[i.toNat]?=some 42:=by simpa using h.2
 exact ⟨h1,i.toNat,by omega,(am.mp h2).1,h2⟩
theorem aeY (Φ:aa) (n:Nat) (h0:Φ "leaves"=dN n) (h1:Φ "is_named"=aM gj) (h2:Φ "is_place"=aM fB) (h3:Φ "with_sign"=aM gW) (a:TA) (G:DH) (h:Qi (n+1) a):aq Φ iU noE (env0 [.str a.b,a.t.d a.name] 3) G (ends λd G'=>G'=G/\d=eE a.name (a.t.lvs a.b)):=by
 obtain ⟨name,b,t⟩:=a;obtain ⟨hne,hbl,hd,hn⟩:=h;dsimp only at hne hbl hd ⊢;cases t with
 |lf r=>
  simp_all_arith[iU];refine seq λM hM=>?_;simp_arith[h1,T.d];refine aeU hne ?_;simp_arith[T.lvs,eE,bo,dk,nq];exact ⟨by decide,by decide⟩
 |sp i z o=>
  rw[T.dep]at hd;simp_all_arith[iU];refine seq λM hM=>?_;simp_arith[h1,T.d];refine aeV rfl ?_;simp_arith[ends];refine hM _ _ (seq λM hM=>?_);simp_arith[ends];refine hM _ _ (seq λM hM=>?_);simp_arith[h2];refine cH (d:=.bl (isPlace b.length (.int i))) rfl ?_;cases hst:je b i with
  |false=>
   rw[T.lvs,hst];cases hp:isPlace b.length (.int i) with
   |false=>simp_arith[eE]
   |true=>
    unfold isPlace at hp;rw[ae]at hp;have p1:=c8 hp.1;have p2:=c8 hp.2;obtain ⟨m,rfl⟩:∃m:Nat,i=m:=⟨i.toNat,by omega⟩;have hm:m < b.length:=by omega
    have hc:b[m]?=some b[m]:=aS hm;have hne42:((b[m]==42):Bool)=false:=by unfold je at hst;rw[a8 (by omega),ft,cy,hc]at hst;simpa using hst
    simp_arith[ends];refine bG (a:=b[m]) (bB hc) ?_;simp_arith[fu,hne42,eE]
  |true=>
   obtain ⟨_,m,rfl,hm,hc⟩:=aeX hst;have hp:isPlace b.length (.int (m:Int))=true:=by show (decide (0<=(m:Int))&&decide ((m:Int) < b.length))=true;rw[a8 (by omega),a8 (by omega)];rfl
   have hl:(T.sp (m:Int) z o).lvs b=match z.lvs (b.set m 48),o.lvs (b.set m 49) with |some l,some m=>some (l++m) |_,_=>none:=by rw[T.lvs,hst,cy]
   rw[hp];simp_arith[ends];refine bG (a:=42) (bB hc) ?_;simp_arith[BEq.rfl];refine hM _ _ (seq λM hM=>?_);simp_arith[h0,h3];refine vh hm (by omega) (Ad hne (by rw[d5];exact hbl) (by omega) (by omega) (hM _ _ (seq λM hM=>?_)));simp_arith[h0,h3];refine vh hm (by omega) (Ad hne (by rw[d5];exact hbl) (by omega) (by omega) (hM _ _ (seq λM hM=>?_)));cases e1:z.lvs (b.set m 48) with
   |none=>
    rw[e1]at hl;simp_arith[hl,eE]
   |some l1=>
    cases e2:o.lvs (b.set m 49) with
    |none=>
     rw[e1,e2]at hl;simp_arith[hl,eE]
    |some l2=>
     rw[e1,e2]at hl;have q1:=T.lvs_len' e1 (n:=n) (by omega) (by omega);have q2:=T.lvs_len' e2 (n:=n) (by omega) (by omega);simp_arith[eE];refine hM _ _ (last ?_);simp_arith[ag,cb,hl,eE];have hsz:sz=1000000:=rfl;omega
theorem aeZ(o:Option Nat):aP o=oI (o.map λn=>(n:Int)):=by cases o <;> rfl
def jY(rss:List (List Row))(c:List Nat):List (Option Int):=rss.map λrs=>(aR rs c).map λn=>(n:Int)
theorem Qj{rss:List (List Row)}{c:List Nat}:(jY rss c).map oI=rss.map λrs=>aP (aR rs c):=by unfold jY;rw[eM];exact List.map_congr_left λrs _=>(aeZ _).symm
theorem Lv.tree{name:List Nat}{rss:List (List Row)}{b:List Nat}{d:D}{bs:List (List Nat)}(h:Lv name rss b d bs):∃t:T,d=t.d name/\t.dep<=stc b/\t.lvs b=some (bs.map λc=>(c,jY rss c)):=by
 induction h with
 |leaf b h=>exact ⟨.lf (jY rss b),by rw[T.d,Qj];rfl,e7 _,rfl⟩
 |node b n z o l m h _ _ hz ho=>
  obtain ⟨tz,rfl,d1,e1⟩:=hz;obtain ⟨tO,rfl,d2,e2⟩:=ho;have s1:=jW h (show 48≠42 by decide);have s2:=jW h (show 49≠42 by decide);refine ⟨.sp n tz tO,rfl,?_,?_⟩
  ·rw[T.dep];have:=Nat.max_le.mpr ⟨show tz.dep<=stc (b.set n 48) from d1,show tO.dep<=stc (b.set n 48) by omega⟩;omega
  ·have hs:je b (n:Int)=true:=by unfold je;rw[a8 (by omega),cy,h];rfl
   rw[T.lvs,hs,cy,e1,e2];simp
theorem ae0{name:List Nat}{rss:List (List Row)}{c:List Nat}:nq name (c,jY rss c)=jX name rss c:=by unfold nq jX ni;rw[Qj]
theorem Qk{n:Nat}{name:List Nat}{rss:List (List Row)}{b:List Nat}{d:D}{bs:List (List Nat)}{G:DH}{k:D->DH->Prop}{E:EK}(h:Lv name rss b d bs)(h1:name≠jV)(h2:b.length<=12)(h3:stc b < n)(hk:k (.lst (bs.map (jX name rss))) G)(h4:n<=12:=by decide):(dN n).t [.str b,d] G k E:=by
 obtain ⟨t,rfl,e1,e2⟩:=h.tree;refine Ad h1 h2 (by omega) h4 ?_;rw[e2,eE,eM];have:(nq name∘λc=>(c,jY rss c))=jX name rss:=by funext c;exact ae0
 rw[this];exact hk
def gk:List Nat->List (List Nat)
 |[]=>[[]]
 |c::f=>(alt c).flatMap λs=>(gk f).map (s::·)
theorem Ql:∀(f:List Nat)(acc:List (List Nat)),f.foldl step1 acc=acc.flatMap λt=>(gk f).map (t ++ ·)
 |[],acc=>by simp[gk]
 |c::f,acc=>by
  rw[List.foldl_cons,Ql f,step1,List.flatMap_assoc];congr 1;funext t;rw[gk,List.flatMap_map,List.map_flatMap];congr 1;funext s;rw[eM];congr 1;funext x;simp
theorem Qm(f:List Nat):bu f=gk f:=by unfold bu;rw[Ql];simp
def bA(l:List Nat):List Nat:=l.map λa=>if a=42 then 48 else a
noncomputable def jf:List D->Option D
 |[.str l]=>if decide (l.length<=1000) then some (.str (bA l)) else none
 |_=>none
theorem Qn{l:List Nat}{G:DH}{k:D->DH->Prop}{E:EK}(h:l.length<=1000)(hk:k (.str (bA l)) G):(aM jf).t [.str l] G k E:=cH (if_pos (a8 h)) hk
theorem ae1{b l:List Nat}{n:Nat}(h:Fits b l)(hn:b[n]?=some 42):Fits (b.set n 48) l\/Fits (b.set n 49) l:=by
 obtain ⟨hl,he⟩:=am.mp hn;have hnl:n < l.length:=by rw[<-h.1];exact hl
 have hs:=h.2 n 42 l[n] hn (aS hnl);have put:∀c,l[n]=c->c≠42->Fits (b.set n c) l:=by
  intro c hc hc42;refine ⟨by rw[d5];exact h.1,λi x y hx hy=>?_⟩;rw[List.getElem?_set]at hx;by_cases hi:n=i
  ·subst hi;rw[if_pos rfl,if_pos hl]at hx;rw[aS hnl]at hy;cases hx;cases hy;unfold alt;rw[if_neg hc42,hc];simp
  ·rw[if_neg hi]at hx;exact h.2 i x y hx hy
 unfold alt at hs;rw[if_pos rfl]at hs;have:l[n]=48\/l[n]=49:=by simpa using hs
 rcases this with e |e
 ·exact .inl (put 48 e (by decide))
 ·exact .inr (put 49 e (by decide))
theorem Qo{b l:List Nat}{n c:Nat}(h:Fits (b.set n c) l)(hn:b[n]?=some 42)(hc:c=48\/c=49):Fits b l:=by
 have hl:=(am.mp hn).1;refine ⟨by have:=h.1;rwa [d5]at this,λi x y hx hy=>?_⟩;by_cases hi:n=i
 ·subst hi;rw[hn]at hx;cases hx;have:=h.2 n c y (by rw[List.getElem?_set,if_pos rfl,if_pos hl]) hy;unfold alt at this ⊢;rw[if_neg (by omega)]at this;rw[if_pos rfl];have e:y=c:=by simpa using this
  rw[e];simpa using hc
 ·exact h.2 i x y (by rw[List.getElem?_set,if_neg hi];exact hx) hy
theorem Lv.cover{name:List Nat}{rss:List (List Row)}{b:List Nat}{d:D}{bs:List (List Nat)}(h:Lv name rss b d bs):∀l,Fits b l->∃c∈bs,Fits c l:=by
 induction h with
 |leaf b h=>exact λl hl=>⟨b,by simp,hl⟩
 |node b n z o l m h _ _ hz ho=>
  intro w hw;rcases ae1 hw h with e |e
  ·obtain ⟨c,hc,hf⟩:=hz w e;exact ⟨c,ba.mpr (.inl hc),hf⟩
  ·obtain ⟨c,hc,hf⟩:=ho w e;exact ⟨c,ba.mpr (.inr hc),hf⟩
theorem Lv.within{name:List Nat}{rss:List (List Row)}{b:List Nat}{d:D}{bs:List (List Nat)}(h:Lv name rss b d bs):∀c∈bs,∀l,Fits c l->Fits b l:=by
 induction h with
 |leaf b h=>intro c hc l hl;rw[aT.mp hc]at hl;exact hl
 |node b n z o l m h _ _ hz ho=>
  intro c hc w hw;rcases ba.mp hc with hc |hc
  ·exact Qo (hz c hc w hw) h (.inl rfl)
  ·exact Qo (ho c hc w hw) h (.inr rfl)
theorem ae2{a s:Nat}{f l:List Nat}(h:Fits (a::f) (s::l)):s∈alt a/\Fits f l:=
 ⟨h.2 0 a s rfl rfl,by have:=h.1;simpa using this,λi c t h1 h2=>h.2 (i+1) c t (by simpa using h1) (by simpa using h2)⟩
theorem ae3{a s:Nat}{f l:List Nat}(h1:s∈alt a)(h2:Fits f l):Fits (a::f) (s::l):=⟨by simp[h2.1],λi c t hc ht=>by
 cases i with
 |zero=>simp at hc ht;rw[<-hc,<-ht];exact h1
 |succ i=>exact h2.2 i c t (by simpa using hc) (by simpa using ht)⟩
theorem nu:∀c:List Nat,Fits c (bA c)
 |[]=>⟨rfl,λi c s h=>by simp at h⟩
 |a::c=>by
  show Fits (a::c) ((if a=42 then 48 else a)::bA c);refine ae3 ?_ (nu c);unfold alt;split <;> simp
theorem Ae:∀{c l:List Nat},Fits c l->¬l < bA c
 |[],l,h=>by
  have:l=[]:=de.mp h.1.symm;subst this;exact List.lt_irrefl _
 |a::c,[],h=>by have:=h.1;simp at this
 |a::c,s::l,h=>by
  obtain ⟨h1,h2⟩:=ae2 h;show ¬(s::l) < ((if a=42 then 48 else a)::bA c);rw[ga];have ih:=Ae h2;unfold alt at h1;split at h1
  ·rename_i e;rw[if_pos e];have:s=48\/s=49:=by simpa using h1
   rintro (q |q)
   ·omega
   ·exact ih q.2
  ·rename_i e;rw[if_neg e];have:s=a:=by simpa using h1
   rintro (q |q)
   ·omega
   ·exact ih q.2
theorem Af:∀{x m a:List Nat},x < m->¬a < m->x < a
 |x,[],a,h,_=>absurd h (by simp)
 |x,b::m,[],_,h=>absurd (by simp) h
 |[],b::m,y::a,_,_=>by simp
 |c::x,b::m,y::a,h,g=>by
  rw[ga]at h g ⊢;have g1:¬y < b:=λe=>g (.inl e);rcases h with h |⟨h1,h2⟩
  ·exact .inl (by omega)
  ·by_cases e:y=b
   ·exact .inr ⟨by omega,Af h2 λz=>g (.inr ⟨e,z⟩)⟩
   ·exact .inl (by omega)
theorem Ag:∀f:List Nat,(gk f).Pairwise (· < ·)
 |[]=>by simp[gk]
 |c::f=>by
  have ih:=Ag f;have one:∀s:Nat,((gk f).map (s::·)).Pairwise (· < ·):=λs=>List.pairwise_map.mpr (ih.imp λh=>ga.mpr (.inr ⟨rfl,h⟩));rw[gk];unfold alt;split
  ·rw[List.flatMap_cons,List.flatMap_cons,List.flatMap_nil,dA,List.pairwise_append];refine ⟨one 48,one 49,λa ha b hb=>?_⟩;obtain ⟨x,_,rfl⟩:=b6.mp ha;obtain ⟨y,_,rfl⟩:=b6.mp hb;exact ga.mpr (.inl (by decide))
  ·rw[List.flatMap_cons,List.flatMap_nil,dA];exact one c
theorem Qp{u:List (List Nat)}{m:List Nat}(h:u.Pairwise (· < ·))(hm:m∈u)(hl:∀x∈u,¬x < m):u.head?=some m:=by
 cases u with
 |nil=>cases hm
 |cons a u=>
  rcases bi.mp hm with e |hm
  ·rw[e];rfl
  ·exact absurd ((List.pairwise_cons.mp h).1 m hm) (hl a cp)
theorem Qq{ds:List D}{ls:List (List Nat)}{k:D->Prop}(h0:cj ds=none)(h:bx ds=some ls)(hk:∀m,m∈ls->(∀a,a∈ls->¬a < m)->k (.str m)):opB .min [.lst ds] k:=by show km [.lst ds] k;unfold km;dsimp only;rw[h0,h];exact hk
def Qs:List Nat:=[117,110,100,101,114]
def Qt:List Nat:=[119,111,114,100]
def dz:List Nat:=[104,105,100,100,101,110]
def bN(rs:List Row)(n:Nat)(f:List Nat):List (List Nat):=(bu f).filter λl=>(aV (rs.take n) l).isNone
def jZ:RF.Spec:=b8 (λa:Nat×List Row×Nat=>[au a.1 a.2.1,.int a.2.2]) (λa=>okB a.1 a.2.1/\a.2.2 < a.2.1.length) (λ_=>.non)
theorem vm{w n:Nat}{rs:List Row}{G:DH}{k:D->DH->Prop}{E:EK}(h:okB w rs)(hn:n < rs.length)(hk:k .non G):jZ.t [au w rs,.int n] G k E:=cA (w,rs,n) rfl ⟨h,hn⟩ hk
theorem ae4 (Φ:aa) (h1:Φ "need_book"=gf) (h2:Φ "is_place"=aM fB) (a:Nat×List Row×Nat) (G:DH) (h:okB a.1 a.2.1/\a.2.2 < a.2.1.length):aq Φ mz noE (env0 [au a.1 a.2.1,.int a.2.2] 0) G (ends λd G'=>G'=G/\d=.non):=by obtain ⟨w,rs,n⟩:=a;obtain ⟨hb,hn⟩:=h;dsimp only at hb hn ⊢;simp_all_arith[mz];refine seq λM hM=>?_;simp_arith[h1];refine jb hb (hM _ _ (last ?_));simp_arith[au,h2,ag];refine aeS hn ?_;simp_arith[fE]
def Ah(rs:List Row)(n:Nat)(f:List Nat)(d:D):Prop:=
 (∃m,(bN rs n f).head?=some m/\d=.tup [.str Qt,.str m])\/(bN rs n f=[]/\∃t bs,d=.tup [.str dz,t]/\Lv Qs [rs.take n] f t bs/\∀c∈bs,(aR (rs.take n) c).isSome=true)
def vo:RF.Spec:=ghS (A:=Nat×List Row×Nat) (λa ds _=>ds=[au a.1 a.2.1,.int a.2.2]/\okB a.1 a.2.1/\a.2.2 < a.2.1.length) (λa G d G'=>G'=G/\∃r,a.2.1[a.2.2]?=some r/\Ah a.2.1 a.2.2 r.1 d)
theorem ae5{w n:Nat}{rs:List Row}{r:Row}{G:DH}{k:D->DH->Prop}{E:EK}(h:okB w rs)(hn:rs[n]?=some r)(hk:∀d,Ah rs n r.1 d->k d G):vo.t [au w rs,.int n] G k E:=
 bT (w,rs,n) ⟨rfl,h,(am.mp hn).1⟩ λd G' hx=>by
  obtain ⟨e,r',er,q⟩:=hx;subst e;have er:rs[n]?=some r':=er;rw[hn]at er;cases er;exact hk d q
theorem Qu{l:List D}{n:Nat}:cut l none (some (n:Int))=l.take n:=jL l n
theorem ae6 (Φ:aa) (h1:Φ "need_row"=jZ) (h2:Φ "grown"=d9 9) (h3:Φ "leaves"=dN 9) (h4:Φ "least"=aM jf) (a:Nat×List Row×Nat) (ds:List D) (G:DH) (h:ds=[au a.1 a.2.1,.int a.2.2]/\okB a.1 a.2.1/\a.2.2 < a.2.1.length):
  aq Φ mG noE (env0 ds 4) G (ends λd G'=>G'=G/\∃r,a.2.1[a.2.2]?=some r/\Ah a.2.1 a.2.2 r.1 d):=by
 obtain ⟨w,rs,n⟩:=a;obtain ⟨rfl,hb,hn⟩:=h;dsimp only at hb hn ⊢;have hw6:=hb.w6;have hc:rs[n]?=some rs[n]:=aS hn;have hf:=hb.form rs[n] (cw hn);have hfl:=hf.1;have hrt:∀r∈rs.take n,okF w r.1:=λr hr=>hb.form r (eL hr);simp_all_arith[mG];refine seq λM hM=>?_;simp_arith[h1];refine vm hb hn (hM _ _ (seq λM hM=>?_));simp_arith[au];refine hM _ _ (seq λM hM=>?_);simp_arith[ends];refine bG (a:=aA rs[n]) (bB (by rw[aE,hc];rfl)) ?_;simp_arith[aA];refine hM _ _ (seq λM hM=>?_);simp_arith[h2,Qu];have er:[D.tup (List.take n (rs.map aA))]=dM [rs.take n]:=by rw[<-List.map_take];rfl
 have hst:stc rs[n].1<=6:=bv List.countP_le_length (by omega);rw[er];refine ⟨by decide,vg (name:=Qs) ⟨by simp,by decide,λrs' hrs' r hr=>by rw[aT.mp hrs']at hr;exact (hrt r hr).1,by omega⟩ hfl (by omega) λt ht=>hM _ _ (seq λM hM=>?_)⟩;obtain ⟨bs,hL⟩:=ht.lv;have hlen:=hL.len' (by omega);simp_arith[h3];refine Qk hL (by decide) (by omega) (by omega) ?_;simp_arith[ends];refine CompG.inv (P:=λi acc ρ G'=>(∃o1 o2,ρ=[o1,o2])/\G'=G/\acc=((bs.take i).filter λc=>(aR (rs.take n) c).isNone).map λc=>D.str (bA c)) ⟨⟨_,_,rfl⟩,rfl,rfl⟩ (λ_ _ _ _ _=>trivial) (by rw[ag];have hsz:sz=1000000:=rfl;omega) ?_ ?_
 ·rintro i d acc ρ G' hd ⟨⟨o1,o2,rfl⟩,rfl,rfl⟩ kk hk;rw[aE]at hd;obtain ⟨c,hcb,rfl⟩:=ax.mp hd;have hcl:=(hL.box c (bP hcb)).1;have htk:bs.take (i+1)=bs.take i++[c]:=by rw[eg,hcb];rfl
  simp_arith[jX,ni,bo,dk];cases htc:aR (rs.take n) c with
  |some j=>
   simp_arith[aP];exact hk _ _ _ ⟨⟨_,_,rfl⟩,rfl,by rw[htk,ez];simp[htc]⟩
  |none=>
   simp_arith[aP,h4];refine Qn (by omega) (hk _ _ _ ⟨⟨_,_,rfl⟩,rfl,by rw[htk,ez];simp[htc]⟩)
 ·rintro acc ρ G' ⟨_,rfl,rfl⟩;rw[ag,et];refine hM _ _ (seq λM hM=>?_);have meet:∀c∈bs,∀l,Fits c l->aV (rs.take n) l=aR (rs.take n) c:=by
   intro c hc l hl;obtain ⟨e1,e2⟩:=hL.box c hc;have okc:=hL.okf hf c hc;exact Qf (λr hr=>by rw[(hrt r hr).1,e1,hfl]) (e2 _ (by simp)) (Qh okc hl) hl
  cases hfr:bs.filter λc=>(aR (rs.take n) c).isNone with
  |nil=>
   have hall:∀c∈bs,(aR (rs.take n) c).isSome=true:=by
    intro c hc;have:=fN.mp hfr c hc;cases h:aR (rs.take n) c with
    |none=>rw[h]at this;exact absurd rfl this
    |some _=>rfl
   simp_arith[dk];refine hM _ _ (last ?_);simp_arith[ends];refine ⟨by decide,rs[n],hc,.inr ⟨?_,t,bs,rfl,hL,hall⟩⟩;unfold bN;rw[fN];intro l hl;obtain ⟨c,hc',hfc⟩:=hL.cover l (gR.mp hl);rw[meet c hc' l hfc];have:=hall c hc';cases h:aR (rs.take n) c with
   |none=>rw[h]at this;cases this
   |some _=>simp
  |cons c0 cs=>
   have hne:(!(List.isEmpty (D.str (bA c0)::cs.map λc=>D.str (bA c))))=true:=rfl;simp_arith[bo,hne];rw[<-bo (f:=λc=>D.str (bA c)),<-hfr];have es:bx ((bs.filter λc=>(aR (rs.take n) c).isNone).map λc=>D.str (bA c))=some ((bs.filter λc=>(aR (rs.take n) c).isNone).map bA):=strs_map _ _;have ei:cj ((bs.filter λc=>(aR (rs.take n) c).isNone).map λc=>D.str (bA c))=none:=by rw[hfr];rfl
   refine Qq ei es λm hm hlow=>?_;obtain ⟨c,hcm,rfl⟩:=b6.mp hm;obtain ⟨hcb,hcn⟩:=d4.mp hcm;have htn:aR (rs.take n) c=none:=by simpa using hcn
   refine ⟨by decide,rs[n],hc,.inl ⟨bA c,?_,rfl⟩⟩;refine Qp ?_ ?_ ?_
   ·unfold bN;rw[Qm];exact (Ag _).filter _
   ·unfold bN;rw[d4];refine ⟨gR.mpr (hL.within c hcb _ (nu c)),?_⟩;rw[meet c hcb _ (nu c),htn];rfl
   ·intro x hx hlt;unfold bN at hx;obtain ⟨hx1,hx2⟩:=d4.mp hx;obtain ⟨c',hc',hfc⟩:=hL.cover x (gR.mp hx1);rw[meet c' hc' x hfc]at hx2;have hlow':=hlow (bA c') (b6.mpr ⟨c',d4.mpr ⟨hc',hx2⟩,rfl⟩);exact Ae hfc (Af hlt hlow')
def vp:RF.Spec:=ghS (A:=Nat×List Row×Nat) (λa ds _=>ds=[au a.1 a.2.1,.int a.2.2]/\okB a.1 a.2.1/\a.2.2 < a.2.1.length) (λa G d G'=>Sa G G'/\∃r,a.2.1[a.2.2]?=some r/\d=.lst ((bN a.2.1 a.2.2 r.1).map D.str))
theorem ae7{w n:Nat}{rs:List Row}{r:Row}{G:DH}{k:D->DH->Prop}{E:EK}(h:okB w rs)(hn:rs[n]?=some r)(hk:∀G',Sa G G'->k (.lst ((bN rs n r.1).map D.str)) G'):vp.t [au w rs,.int n] G k E:=
 bT (w,rs,n) ⟨rfl,h,(am.mp hn).1⟩ λd G' hx=>by
  obtain ⟨e,r',er,q⟩:=hx;have er:rs[n]?=some r':=er;rw[hn]at er;cases er;subst q;exact hk G' e
theorem ae8 (Φ:aa) (h1:Φ "_law_words"=mX) (h2:Φ "_law_met"=m9) (a:Nat×List Row×Nat) (ds:List D) (G:DH) (h:ds=[au a.1 a.2.1,.int a.2.2]/\okB a.1 a.2.1/\a.2.2 < a.2.1.length):
  aq Φ zJ noE (env0 ds 2) G (ends λd G'=>Sa G G'/\∃r,a.2.1[a.2.2]?=some r/\d=.lst ((bN a.2.1 a.2.2 r.1).map D.str)):=by
 obtain ⟨w,rs,n⟩:=a;obtain ⟨rfl,hb,hn⟩:=h;dsimp only at hb hn ⊢;have hw6:=hb.w6;have hc:rs[n]?=some rs[n]:=aS hn;have hf:=hb.form rs[n] (cw hn);have hfl:=hf.1;simp_all_arith[zJ];refine seq λM hM=>?_;simp_arith[au,Qu];refine ⟨by decide,hM _ _ (seq λM hM=>?_)⟩;simp_arith[ends];refine bG (a:=aA rs[n]) (bB (by rw[aE,hc];rfl)) ?_;simp_arith[aA];refine hM _ _ ?_;simp_arith[h1];refine Pk (by omega) λG1 sa=>?_;simp_arith[ends];have er:D.tup [.int w,.tup (List.take n (rs.map aA))]=au w (rs.take n):=by rw[<-List.map_take];rfl
 have hwl:(bu rs[n].1).length<=64:=bv (Pg _) (eK (show 0 < 2 by decide) (show rs[n].1.length<=6 by omega));refine CompG.inv (P:=λi acc ρ G'=>(∃o,ρ=[o,some (au w (rs.take n))])/\Sa G G'/\acc=(((bu rs[n].1).take i).filter λl=>(aV (rs.take n) l).isNone).map D.str) ⟨⟨_,by rw[<-er]⟩,sa,rfl⟩ (λ_ _ _ _ _=>trivial) (by rw[ag];have hsz:sz=1000000:=rfl;omega) ?_ ?_
 ·rintro i d acc ρ G' hd ⟨⟨o,rfl⟩,sa',rfl⟩ kk hk;rw[aE]at hd;obtain ⟨l,hl,rfl⟩:=ax.mp hd;have hll:=Pa (bP hl);have htk:(bu rs[n].1).take (i+1)=(bu rs[n].1).take i++[l]:=by rw[eg,hl];rfl
  simp_arith[h2];refine Qg (λr hr=>by rw[(hb.form r (eL hr)).1,hll,hfl]) ?_;cases hm:aV (rs.take n) l with
  |none=>
   simp_arith[aP];exact hk _ _ _ ⟨⟨_,rfl⟩,sa',by rw[htk,ez];simp[hm]⟩
  |some j=>
   simp_arith[aP];exact hk _ _ _ ⟨⟨_,rfl⟩,sa',by rw[htk,ez];simp[hm]⟩
 ·rintro acc ρ G' ⟨_,sa',rfl⟩;rw[ag,et];exact ⟨sa',rs[n],hc,rfl⟩
theorem ae9(rs:List Row):nrs (rs.map aA)=true:=by
 induction rs with
 |nil=>rfl
 |cons r rs ih=>rw[bo,nrs,ih];rfl
def vq:RF.Spec:=ghS (A:=Addr×Nat) (λa ds G=>ds=[.ref a.1,.int a.2,.int 6]/\Pen G a.1/\1<=a.2/\a.2<=6) (λa G d G'=>∃v rs,d=au v rs/\okB v rs/\Pen G' a.1/\Sb a.1 G G')
theorem afa{p:Addr}{w:Nat}{G:DH}{k:D->DH->Prop}{E:EK}(hp:Pen G p)(h1:1<=w)(h2:w<=6)(hk:∀(v:Nat)(rs:List Row)(G':DH),okB v rs->Pen G' p->Sb p G G'->k (au v rs) G'):vq.t [.ref p,.int w,.int 6] G k E:=
 bT (p,w) ⟨rfl,hp,h1,h2⟩ λd G' ⟨v,rs,e,h1,h2,h3⟩=>by subst e;exact hk v rs G' h1 h2 h3
def okRs(w:Nat)(rs:List Row):Prop:=∀r∈rs,okF w r.1/\okD r.2
theorem okRs.ins{w n:Nat}{rs:List Row}{r:Row}(h:okRs w rs)(h1:okF w r.1)(h2:okD r.2):okRs w (rs.take n++r::rs.drop n):=by
 intro x hx;rcases ba.mp hx with hx |hx
 ·exact h x (eL hx)
 ·rcases bi.mp hx with e |hx
  ·rw[e];exact ⟨h1,h2⟩
  ·exact h x (List.mem_of_mem_drop hx)
theorem ins_map{rs:List Row}{n:Nat}{r:Row}:(rs.map aA).take n++aA r::(rs.map aA).drop n=(rs.take n++r::rs.drop n).map aA:=by rw[cb,bo,List.map_take,List.map_drop]
theorem Qv{rs:List Row}{n:Nat}{r:Row}:(rs.take n++r::rs.drop n).length=rs.length+1:=by rw[av,cf,bb,bS];omega
theorem afb:PySem.intText? (tx [48])=some 0:=by ac_rfl
theorem afc:PySem.intText? (tx [49])=some 1:=by ac_rfl
theorem afd (Φ:aa) (h1:Φ "_law_take"=dw) (h2:Φ "_law_book"=uY) (h3:Φ "_law_within"=gQ) (a:Addr×Nat) (ds:List D) (G:DH) (h:ds=[.ref a.1,.int a.2,.int 6]/\Pen G a.1/\1<=a.2/\a.2<=6):
  aq Φ zz noE (env0 ds 9) G (ends λd G'=>∃v rs,d=au v rs/\okB v rs/\Pen G' a.1/\Sb a.1 G G'):=by
 obtain ⟨p,w0⟩:=a;obtain ⟨rfl,hp,w1,w2⟩:=h;dsimp only at hp w1 w2 ⊢;simp_all_arith[zz];refine seq λM hM=>?_;simp_arith[h2];refine ad8 (m:=6) hp w1 w2 (by decide) λw rs G2 hb _ hrl hp2 sb2=>?_;have hw6:=hb.w6;have hw1:=hb.w1;simp_arith[au];refine hM _ _ (seq λM hM=>?_);simp_arith[ends];refine λs hs=>hM _ _ (seq λM hM=>?_);have nps:p≠s:=hp2.ne hs;have hp3:Pen (aK G2 s (.lst (rs.map aA))) p:=hp2.sa (Sa.new hs);simp_arith![h1];refine bD hp3 (by decide) (by decide) λt4 G4 ht4 hp4 sb4=>?_;have gs4:=sb4 s _ bf (Ne.symm nps);have hsn:∀(b:Addr)(o:DO),G b=some o->b≠p->b≠s:=λb o hb nb e=>by
  subst e;have:=sb2 _ _ hb nb;rw[hs]at this;cases this
 have sbs:∀{Gx:DH}{o:DO},Sb p G Gx->Sb p G (aK Gx s o):=λh b o hb nb=>by rw[cW (hsn b o hb nb)];exact h b o hb nb
 have sb40:Sb p G G4:=(sbs sb2).trans sb4;have hdq:deq (.lst (rs.map aA)) (.lst [])=rs.isEmpty:=by
  cases rs with
  |nil=>rfl
  |cons r rs=>rfl
 simp_arith![bR gs4,hdq];refine ⟨⟨by simp only[nr,ae9],bv (d6 _ _) (by decide)⟩,gP (by split <;> decide),?_⟩;obtain ⟨m,hm,hm3,hmn⟩:∃m:Nat,(t4:Int) * (if (!rs.isEmpty)=true then 1 else 0)=(m:Int)/\m<=3/\(0 < m->rs≠[]):=by
  cases rs with
  |nil=>exact ⟨0,by simp,by omega,by omega⟩
  |cons r rs=>exact ⟨t4,by simp,by omega,λ_=>by simp⟩
 rw[hm];refine ⟨by omega,?_⟩;refine ForG.inv (P:=λi ρ G'=>(∃o5 o6 o7 o8 o9 o10 o11,ρ=[some (.ref p),some (.int w0),some (.int 6),some (.int w),some (.ref s),o5,o6,o7,o8,o9,o10,o11])/\Pen G' p/\Sb p G G'/\∃rs',G' s=some (.lst (rs'.map aA))/\rs'.length<=6+2 * i/\okRs w rs'/\(rs≠[]->rs'≠[]))
  ⟨⟨_,_,_,_,_,_,_,rfl⟩,hp4,sb40,rs,gs4,by omega,λr hr=>⟨hb.form r hr,hb.deed r hr⟩,id⟩ (λ_ _ _ _=>trivial) ?_ ?_
 ·rintro i d ρ G5 hd ⟨⟨o5,o6,o7,o8,o9,o10,o11,rfl⟩,hp5,sb5,rs',g5,hlen5,ok5,hne5⟩ kk hk;have hi:i < m:=by
   have:=(am.mp hd).1;simpa [aW] using this
  have hl0:0 < rs'.length:=dn.mpr (hne5 (hmn (by omega)));simp_arith![ends];refine seq λM hM=>?_;simp_arith[h1,bR g5,ag];refine bD hp5 (by omega) (by omega) λat' G6 hat hp6 sb6=>hM _ _ (seq λM hM=>?_);have g6:=sb6 s _ g5 (Ne.symm nps);have sb60:=sb5.trans sb6;simp_arith[h1,bR g6,ag];refine bD hp6 (by omega) (by omega) λpl G7 hpl hp7 sb7=>?_;have g7:=sb7 s _ g6 (Ne.symm nps);have sb70:=sb60.trans sb7;simp_arith[ends];rw[show (at':Int)+1+(pl:Int)=((at'+1+pl:Nat):Int) by omega];refine hM _ _ (seq λM hM=>?_);have hatl:at' < rs'.length:=by omega
  have hr7:rs'[at']?=some rs'[at']:=aS hatl;have hok7:=ok5 rs'[at'] (cw hatl);simp_arith[h3,bR g7];refine bG (a:=aA rs'[at']) (bB (by rw[aE,hr7];rfl)) ?_;simp_arith[aA];refine zU hp7 hok7.1.2 (by rw[hok7.1.1];omega) λfm G8 hfm hp8 sb8=>hM _ _ (seq λM hM=>?_);rw[hok7.1.1]at hfm;have hfml:=hfm.1;have g8:=sb8 s _ g7 (Ne.symm nps);have sb80:=sb70.trans sb8;simp_arith[h1];refine bD hp8 (by omega) (by omega) λsp G9 hsp hp9 sb9=>hM _ _ (seq λM hM=>?_);have g9:=sb9 s _ g8 (Ne.symm nps);have sb90:=sb80.trans sb9;have tail:∀(place:Nat)(f:List Nat)(Gx:DH)(rs2:List Row)(a10 a11:Option D),place<=100->okF w f->Pen Gx p->Sb p G Gx->Gx s=some (.lst (rs2.map aA))->rs2.length+1<=6+2 * (i+1)->okRs w rs2->rs2≠[]->
    M [some (.ref p),some (.int w0),some (.int 6),some (.int w),some (.ref s),some d,some (.int at'),some (.int (place:Nat)),some (.str f),some (.int sp),a10,a11] Gx:=by
   intro place f Gx rs2 a10 a11 hpl hf hpx sbx gx hl2 ok2 ne2;have hl2p:0 < rs2.length:=dn.mpr ne2;refine hM _ _ (last ?_);simp_arith[h1,bR gx,bZ gx,ag];refine bD hpx (by omega) (by omega) λq Gy hq hpy sby=>?_;have gy:=sby s _ gx (Ne.symm nps);simp_arith[bR gy,bZ gy];refine uR (by omega) (by simp;omega) λx hx=>?_;obtain ⟨r,hr,rfl⟩:=b6.mp hx;have okr:=ok2 r hr;simp_arith[aA,ag];refine ⟨by decide,by have hsz:sz=1000000:=rfl;omega,by omega,by omega,hk _ _ ⟨⟨_,_,_,_,_,_,_,rfl⟩,hpy.sb Sb.upd nps,sbs (sbx.trans sby),rs2.take place++(f,r.2)::rs2.drop place,?_,?_,ok2.ins hf okr.2,λ_=>by simp⟩⟩
   ·rw[bf,<-ins_map,cy];rfl
   ·rw[Qv];omega
  simp_arith![h1];refine bD hp9 (by decide) (by decide) λb2 G10 hb2 hp10 sb10=>?_;have g10:=sb10 s _ g9 (Ne.symm nps);have sb100:=sb90.trans sb10;have hspl:sp < fm.length:=by omega
  have hcs:fm[sp]?=some fm[sp]:=aS hspl;simp_arith![ends];cases hb0:((b2:Int)==0) with
  |false=>
   simp_arith[ends];exact tail _ _ _ _ _ _ (by omega) hfm hp10 sb100 g10 (by omega) ok5 (dn.mp hl0)
  |true=>
   simp_arith![ends];refine bG (a:=fm[sp]) (bB hcs) ?_;simp_arith![fu];cases h42:(fm[sp]==42) with
   |true=>
    simp_arith[ends];exact tail _ _ _ _ _ _ (by omega) hfm hp10 sb100 g10 (by omega) ok5 (dn.mp hl0)
   |false=>
    simp_arith![ends];have hcc:(fm[sp]=48)\/(fm[sp]=49):=by
     rcases hfm.2 fm[sp] (cw hspl) with e |e |e
     ·exact .inl e
     ·exact .inr e
     ·rw[e]at h42;cases h42
    have rest:∀(c':Nat) (M2:ao->DH->Prop) (Dn:En),isF c'->Dn.nx=M->aq Φ (.cons (.asg (.nm 11) (.tup (.cons (.bin .Add true (.bin .Add true (.slc true (.var 8) .no (.ob (.var 9))) (.var 10)) (.slc true (.var 8) (.ob (.bin .Add true (.var 9) (.cst (.int 1)))) .no)) (.cons (.idx (.idx (.var 4) (.var 6)) (.cst (.int 1))) .nil)))) (.cons (.exp (.mth .insert (.var 4) (.cons (.call "_law_take" (.cons (.var 0) (.cons (.bin .Add true (.var 7) (.cst (.int 1))) .nil))) (.cons (.var 11) .nil)))) (.cons (.asg (.nm 7) (.bin .Add true (.var 7) (.cst (.int 1)))) (.cons (.asg (.nm 8) (.bin .Add true (.bin .Add true (.slc true (.var 8) .no (.ob (.var 9))) (.cst (.str [42]))) (.slc true (.var 8) (.ob (.bin .Add true (.var 9) (.cst (.int 1)))) .no))) .nil)))) noE
      [some (.ref p),some (.int w0),some (.int 6),some (.int w),some (.ref s),some d,some (.int at'),some (.int ((at'+1+pl:Nat):Int)),some (.str fm),some (.int sp),some (.str [c']),o11] G10 Dn:=by
     intro c' M2 Dn hc' hnx;refine seq λM3 hM3=>?_;simp_arith[bR g10,jL,uQ,av,bb,bS,Ab hspl];refine ⟨by have hsz:sz=1000000:=rfl;omega,by have hsz:sz=1000000:=rfl;omega,bG (a:=aA rs'[at']) (bB (by rw[aE,hr7];rfl)) ?_⟩;simp_arith[aA];refine ⟨by decide,hM3 _ _ (seq λM3 hM3=>?_)⟩;simp_arith[h1,bZ g10];refine bD hp10 (by omega) (by omega) λix G11 hix hp11 sb11=>?_;have g11:=sb11 s _ g10 (Ne.symm nps);simp_arith[bZ g11,ag];refine ⟨by have hsz:sz=1000000:=rfl;omega,by omega,by omega,hM3 _ _ (seq λM3 hM3=>?_)⟩;simp_arith[ends];rw[show ((at'+1+pl:Nat):Int)+1=((at'+1+pl+1:Nat):Int) by omega];refine hM3 _ _ (last ?_);simp_arith[jL,uQ,av,bb,bS,Ab hspl];refine ⟨by have hsz:sz=1000000:=rfl;omega,by have hsz:sz=1000000:=rfl;omega,?_⟩;rw[hnx];refine tail _ _ _ (rs'.take ix++(fm.set sp c',rs'[at'].2)::rs'.drop ix) _ _ (by omega) (vf hfm (.inr (.inr rfl))) (hp11.sb Sb.upd nps) (sbs (sb100.trans sb11)) ?_ (by rw[Qv];omega) (ok5.ins (vf hfm hc') hok7.2) (by simp);rw[bf,<-ins_map,cy];rfl
    refine seq λM2 hM2=>?_;rcases hcc with e |e
    ·simp_arith[ends];refine bG (a:=fm[sp]) (bB hcs) ?_;rw[e];simp_arith[afb];refine ⟨by decide,hM2 _ _ (rest 49 M2 _ (.inr (.inl rfl)) rfl)⟩
    ·simp_arith[ends];refine bG (a:=fm[sp]) (bB hcs) ?_;rw[e];simp_arith[afc];refine ⟨by decide,hM2 _ _ (rest 48 M2 _ (.inl rfl) rfl)⟩
 ·rintro ρ G5 ⟨⟨o5,o6,o7,o8,o9,o10,o11,rfl⟩,hp5,sb5,rs',g5,hlen5,ok5,hne5⟩;have hlm:rs'.length<=6+2 * m:=by have:=hlen5;simpa [aW] using this
  refine hM _ _ ?_;simp_arith[bR g5];exact ⟨by decide,w,rs',rfl,⟨by omega,by omega,by omega,λr hr=>(ok5 r hr).1,λr hr=>(ok5 r hr).2⟩,hp5,sb5⟩
def nI(n:Nat):D:=.int (n:Int)
noncomputable def fD(rs:List Row):List Nat:=(List.range rs.length).filter λn=>match rs[n]? with |some r=>(bN rs n r.1).isEmpty |none=>false
theorem Qw{rs:List Row}{i:Nat}{r:Row}(h:rs[i]?=some r):((List.range (i+1)).filter λn=>match rs[n]? with |some r=>(bN rs n r.1).isEmpty |none=>false)=((List.range i).filter λn=>match rs[n]? with |some r=>(bN rs n r.1).isEmpty |none=>false)++(if (bN rs i r.1).isEmpty then [i] else []):=by rw[List.range_succ,ez];congr 1;rw[List.filter_cons,h];cases hf:(bN rs i r.1).isEmpty <;> simp only[hf] <;> rfl
theorem Qx(rs:List Row):(fD rs).length<=rs.length:=bv (List.length_filter_le _ _) (by simp)
def j0:RF.Spec:=ghS (A:=Nat×List Row) (λa ds _=>ds=[au a.1 a.2]/\okB a.1 a.2) (λa G d G'=>∃q,d=.ref q/\G q=none/\G' q=some (.lst ((fD a.2).map nI))/\Sa G G')
theorem afe{w:Nat}{rs:List Row}{G:DH}{k:D->DH->Prop}{E:EK}(h:okB w rs)(hk:∀q G',G q=none->G' q=some (.lst ((fD rs).map nI))->Sa G G'->k (.ref q) G'):j0.t [au w rs] G k E:=
 bT (w,rs) ⟨rfl,h⟩ λd G' ⟨q,e1,e2,e3,e4⟩=>by subst e1;exact hk q G' e2 e3 e4
theorem afg (Φ:aa) (h1:Φ "need_book"=gf) (h2:Φ "reach"=vo) (a:Nat×List Row) (ds:List D) (G:DH) (h:ds=[au a.1 a.2]/\okB a.1 a.2):
  aq Φ mH noE (env0 ds 0) G (ends λd G'=>∃q,d=.ref q/\G q=none/\G' q=some (.lst ((fD a.2).map nI))/\Sa G G'):=by
 obtain ⟨w,rs⟩:=a;obtain ⟨rfl,hb⟩:=h;dsimp only at hb ⊢;have hlen:=hb.len;simp_all_arith[mH];refine seq λM hM=>?_;simp_arith[h1];refine jb hb (hM _ _ (last ?_));have e0:au w rs=.tup [.int w,.tup (rs.map aA)]:=rfl;simp_arith[e0,ag];refine ⟨by omega,CompG.inv (P:=λi acc ρ G'=>(∃o,ρ=[o,some (.tup [.int w,.tup (rs.map aA)])])/\G'=G/\acc=((List.range i).filter λn=>match rs[n]? with |some r=>(bN rs n r.1).isEmpty |none=>false).map nI) ⟨⟨_,rfl⟩,rfl,rfl⟩ (λ_ _ _ _ _=>trivial) (by simp[aW];have hsz:sz=1000000:=rfl;omega) ?_ ?_⟩
 ·rintro i d acc ρ G' hd ⟨⟨o,rfl⟩,rfl,rfl⟩ kk hk;have hi:i < rs.length:=by
   have:=(am.mp hd).1;simpa [aW] using this
  have hdi:d=.int (i:Int):=by unfold aW at hd;rw[aE,List.getElem?_range (by simpa using hi)]at hd;simpa using hd.symm
  subst hdi;have hc:rs[i]?=some rs[i]:=aS hi;have ht:=Qw hc;simp_arith[h2];rw[<-e0];refine ae5 hb hc λd' hq=>?_;rcases hq with ⟨m,hm,rfl⟩ |⟨hn,t,bs,rfl,hL,hall⟩
  ·have hne:(bN rs i rs[i].1).isEmpty=false:=by
    cases h:bN rs i rs[i].1 with
    |nil=>rw[h]at hm;cases hm
    |cons _ _=>rfl
   have eb:(([119,111,114,100]==[104,105,100,100,101,110]):Bool)=false:=by decide
   simp_arith[Qt,eb];exact hk _ _ _ ⟨⟨_,rfl⟩,rfl,by rw[ht,hne];simp[nI]⟩
  ·have hne:(bN rs i rs[i].1).isEmpty=true:=by rw[hn];rfl
   simp_arith[dz,BEq.rfl];exact hk _ _ _ ⟨⟨_,rfl⟩,rfl,by rw[ht,hne];simp[nI]⟩
 ·rintro acc ρ G' ⟨_,rfl,rfl⟩;intro q hq;exact ⟨q,rfl,hq,by rw[bf];simp[aW,fD],Sa.new hq⟩
theorem afh{w:Nat}{G:DH}{k:D->DH->Prop}{E:EK}(h:w<=1000)(hk:k (.str (List.replicate w 42)) G):(aM jd).t [.int w] G k E:=
 cH (d:=.str (List.replicate w 42)) (by unfold jd;dsimp only;rw[if_pos (by simp only[ae,ci];omega),cy]) hk
def Qy:List Nat:=[115,97,109,101]
def Qz:List Nat:=[112,97,114,116,101,100]
def QB:List Nat:=[97,108,105,107,101]
def vy:RF.Spec:=b8 (λa:Nat×List Row×List Row=>[au a.1 a.2.1,au a.1 a.2.2]) (λa=>okB a.1 a.2.1/\okB a.1 a.2.2) (λ_=>.non)
theorem afi{w:Nat}{rs ss:List Row}{G:DH}{k:D->DH->Prop}{E:EK}(h:okB w rs)(h':okB w ss)(hk:k .non G):vy.t [au w rs,au w ss] G k E:=cA (w,rs,ss) rfl ⟨h,h'⟩ hk
theorem afj (Φ:aa) (h1:Φ "need_book"=gf) (a:Nat×List Row×List Row) (G:DH) (h:okB a.1 a.2.1/\okB a.1 a.2.2):aq Φ lY noE (env0 [au a.1 a.2.1,au a.1 a.2.2] 0) G (ends λd G'=>G'=G/\d=.non):=by obtain ⟨w,rs,ss⟩:=a;obtain ⟨hb,hc⟩:=h;dsimp only at hb hc ⊢;simp_all_arith[lY];refine seq λM hM=>?_;simp_arith[h1];refine jb hb (hM _ _ (seq λM hM=>?_));simp_arith[h1];refine jb hc (hM _ _ (last ?_));simp_arith[au,BEq.rfl,fE]
def bI(rs:List Row)(o:Option Nat):Option (List Nat):=o.bind λn=>rs[n]?.map (·.2)
theorem Ai{rs:List Row}{o:Option Nat}:gh rs o=bH (bI rs o):=by
 cases o with
 |none=>rfl
 |some n=>
  unfold gh bI;dsimp only[Option.bind];cases rs[n]? <;> rfl
structure SD where
 w:Nat
 rs:List Row
 ss:List Row
 name:List Nat
 o:Option Nat
 p:Option Nat
def sSD:RF.Spec:=b8 (λa:SD=>[au a.w a.rs,au a.w a.ss,.tup [.str a.name,aP a.o,aP a.p]]) (λa=>(∀n,a.o=some n->n < a.rs.length)/\∀n,a.p=some n->n < a.ss.length) (λa=>.bl (bI a.rs a.o==bI a.ss a.p))
theorem afk{w:Nat}{rs ss:List Row}{name:List Nat}{o p:Option Nat}{G:DH}{k:D->DH->Prop}{E:EK}(h1:∀n,o=some n->n < rs.length)(h2:∀n,p=some n->n < ss.length)(hk:k (.bl (bI rs o==bI ss p)) G):sSD.t [au w rs,au w ss,.tup [.str name,aP o,aP p]] G k E:=cA ⟨w,rs,ss,name,o,p⟩ rfl ⟨h1,h2⟩ hk
theorem afl (Φ:aa) (h1:Φ "deed_of"=mZ) (a:SD) (G:DH) (h:(∀n,a.o=some n->n < a.rs.length)/\∀n,a.p=some n->n < a.ss.length):aq Φ lZ noE (env0 [au a.w a.rs,au a.w a.ss,.tup [.str a.name,aP a.o,aP a.p]] 0) G (ends λd G'=>G'=G/\d=.bl (bI a.rs a.o==bI a.ss a.p)):=by obtain ⟨w,rs,ss,name,o,p⟩:=a;obtain ⟨ho,hp⟩:=h;dsimp only at ho hp ⊢;simp_arith[lZ,h1];refine Aa ho (Aa hp ?_);rw[Ai,Ai];cases bI rs o <;> cases bI ss p <;> simp_arith[bH] <;> first |done | (simp;done) | (refine ⟨by decide,?_⟩;simp;done)
noncomputable def fG(w:Nat)(rs ss:List Row):List (List Nat):=(bu (List.replicate w 42)).filter λl=>!(bI rs (aV rs l)==bI ss (aV ss l))
def eF(rs ss:List Row)(c:List Nat):Bool:=bI rs (aR rs c)==bI ss (aR ss c)
def Aj(w:Nat)(rs ss:List Row)(d:D):Prop:=
 (∃m,(fG w rs ss).head?=some m/\d=.tup [.str Qz,.str m])\/(fG w rs ss=[]/\∃t bs,d=.tup [.str QB,t]/\Lv Qy [rs,ss] (List.replicate w 42) t bs/\∀c∈bs,eF rs ss c=true)
def vz:RF.Spec:=ghS (A:=Nat×List Row×List Row) (λa ds _=>ds=[au a.1 a.2.1,au a.1 a.2.2]/\okB a.1 a.2.1/\okB a.1 a.2.2) (λa G d G'=>G'=G/\Aj a.1 a.2.1 a.2.2 d)
theorem afm{w:Nat}{rs ss:List Row}{G:DH}{k:D->DH->Prop}{E:EK}(h:okB w rs)(h':okB w ss)(hk:∀d,Aj w rs ss d->k d G):vz.t [au w rs,au w ss] G k E:=
 bT (w,rs,ss) ⟨rfl,h,h'⟩ λd G' hx=>by
  obtain ⟨e,q⟩:=hx;subst e;exact hk d q
theorem afn (Φ:aa) (h1:Φ "need_two_books"=vy) (h2:Φ "grown"=d9 9) (h3:Φ "leaves"=dN 9) (h4:Φ "least"=aM jf) (h5:Φ "stars"=aM jd) (h6:Φ "same_deeds"=sSD) (a:Nat×List Row×List Row) (ds:List D) (G:DH) (h:ds=[au a.1 a.2.1,au a.1 a.2.2]/\okB a.1 a.2.1/\okB a.1 a.2.2):
  aq Φ mq noE (env0 ds 3) G (ends λd G'=>G'=G/\Aj a.1 a.2.1 a.2.2 d):=by
 obtain ⟨w,rs,ss⟩:=a;obtain ⟨rfl,hb,hb'⟩:=h;dsimp only at hb hb' ⊢;have hw6:=hb.w6;have hst:=aeL w;have hrl:∀r∈rs,r.1.length=w:=λr hr=>(hb.form r hr).1;have hsl:∀r∈ss,r.1.length=w:=λr hr=>(hb'.form r hr).1;have e0:∀xs:List Row,D.tup [.int w,.tup (xs.map aA)]=au w xs:=λ_=>rfl;simp_all_arith[mq];refine seq λM hM=>?_;simp_arith[h1];refine afi hb hb' (hM _ _ (seq λM hM=>?_));simp_arith[au,h5];refine afh (by omega) (hM _ _ (seq λM hM=>?_));simp_arith[h2];have er:[D.tup (rs.map aA),.tup (ss.map aA)]=dM [rs,ss]:=rfl;rw[er];refine ⟨by decide,vg (name:=Qy) ⟨by simp,by decide,λxs hxs r hr=>?_,by omega⟩ cr (by omega) λt ht=>hM _ _ (seq λM hM=>?_)⟩
 ·rcases bi.mp hxs with e |hxs
  ·rw[e]at hr;exact hrl r hr
  ·rw[aT.mp hxs]at hr;exact hsl r hr
 obtain ⟨bs,hL⟩:=ht.lv;have hlen:=hL.len' (by rw[cr];omega);simp_arith[h3];refine Qk hL (by decide) (by rw[cr];omega) (by omega) ?_;simp_arith[ends];refine CompG.inv (P:=λi acc ρ G'=>(∃o1 o2,ρ=[o1,o2,some (.tup [.int w,.tup (rs.map aA)]),some (.tup [.int w,.tup (ss.map aA)])])/\G'=G/\acc=((bs.take i).filter λc=>!eF rs ss c).map λc=>D.str (bA c)) ⟨⟨_,_,rfl⟩,rfl,rfl⟩ (λ_ _ _ _ _=>trivial) (by rw[ag];have hsz:sz=1000000:=rfl;omega) ?_ ?_
 ·rintro i d acc ρ G' hd ⟨⟨o1,o2,rfl⟩,rfl,rfl⟩ kk hk;rw[aE]at hd;obtain ⟨c,hcb,rfl⟩:=ax.mp hd;have hcl:=(hL.box c (bP hcb)).1;rw[cr]at hcl;have htk:bs.take (i+1)=bs.take i++[c]:=by rw[eg,hcb];rfl
  simp_arith[jX,ni,bo,dk,h6];rw[e0,e0];refine afk (λn hn=>vd hn) (λn hn=>vd hn) ?_;have es:(bI rs (aR rs c)==bI ss (aR ss c))=eF rs ss c:=rfl;rw[es];cases hsb:eF rs ss c with
  |true=>
   simp_arith[ends];exact hk _ _ _ ⟨⟨_,_,rfl⟩,rfl,by rw[htk,ez];simp[hsb]⟩
  |false=>
   simp_arith[h4];refine Qn (by omega) (hk _ _ _ ⟨⟨_,_,rfl⟩,rfl,by rw[htk,ez];simp[hsb]⟩)
 ·rintro acc ρ G' ⟨_,rfl,rfl⟩;rw[ag,et];refine hM _ _ (seq λM hM=>?_);have meet:∀xs∈[rs,ss],∀c∈bs,∀l,Fits c l->aV xs l=aR xs c:=by
   intro xs hxs c hc l hl;obtain ⟨e1,e2⟩:=hL.box c hc;rw[cr]at e1;have okc:=hL.okf (aep w) c hc;refine Qf (λr hr=>?_) (e2 _ hxs) (Qh okc hl) hl;rcases bi.mp hxs with e |hxs
   ·rw[e]at hr;rw[hrl r hr,e1]
   ·rw[aT.mp hxs]at hr;rw[hsl r hr,e1]
  have both:∀c∈bs,∀l,Fits c l->(bI rs (aV rs l)==bI ss (aV ss l))=eF rs ss c:=by intro c hc l hl;rw[meet rs (by simp) c hc l hl,meet ss (by simp) c hc l hl];rfl
  cases hfr:bs.filter λc=>!eF rs ss c with
  |nil=>
   have hall:∀c∈bs,eF rs ss c=true:=by
    intro c hc;have:=fN.mp hfr c hc;cases h:eF rs ss c with
    |false=>rw[h]at this;exact absurd rfl this
    |true=>rfl
   simp_arith[dk];refine hM _ _ (last ?_);simp_arith[ends];refine ⟨by decide,.inr ⟨?_,t,bs,rfl,hL,hall⟩⟩;unfold fG;rw[fN];intro l hl;obtain ⟨c,hc',hfc⟩:=hL.cover l (gR.mp hl);rw[both c hc' l hfc,hall c hc'];simp
  |cons c0 cs=>
   have hne:(!(List.isEmpty (D.str (bA c0)::cs.map λc=>D.str (bA c))))=true:=rfl;simp_arith[bo,hne];rw[<-bo (f:=λc=>D.str (bA c)),<-hfr];have es:bx ((bs.filter λc=>!eF rs ss c).map λc=>D.str (bA c))=some ((bs.filter λc=>!eF rs ss c).map bA):=strs_map _ _;have ei:cj ((bs.filter λc=>!eF rs ss c).map λc=>D.str (bA c))=none:=by rw[hfr];rfl
   refine Qq ei es λm hm hlow=>?_;obtain ⟨c,hcm,rfl⟩:=b6.mp hm;obtain ⟨hcb,hcn⟩:=d4.mp hcm;refine ⟨by decide,.inl ⟨bA c,?_,rfl⟩⟩;refine Qp ?_ ?_ ?_
   ·unfold fG;rw[Qm];exact (Ag _).filter _
   ·unfold fG;rw[d4];refine ⟨gR.mpr (hL.within c hcb _ (nu c)),?_⟩;rw[both c hcb _ (nu c)];exact hcn
   ·intro x hx hlt;unfold fG at hx;obtain ⟨hx1,hx2⟩:=d4.mp hx;obtain ⟨c',hc',hfc⟩:=hL.cover x (gR.mp hx1);rw[both c' hc' x hfc]at hx2;have hlow':=hlow (bA c') (b6.mpr ⟨c',d4.mpr ⟨hc',hx2⟩,rfl⟩);exact Ae hfc (Af hlt hlow')
def vA:RF.Spec:=b8 (A:=Nat×List Row×List Nat) (λa=>[au a.1 a.2.1,.str a.2.2]) (λa=>∀r∈a.2.1,r.1.length=a.2.2.length) (λa=>bH (bI a.2.1 (aV a.2.1 a.2.2)))
theorem afo{w:Nat}{rs:List Row}{l:List Nat}{G:DH}{k:D->DH->Prop}{E:EK}(h:∀r∈rs,r.1.length=l.length)(hk:k (bH (bI rs (aV rs l))) G):vA.t [au w rs,.str l] G k E:=cA (w,rs,l) rfl h hk
theorem afp (Φ:aa) (h1:Φ "_law_met"=m9) (a:Nat×List Row×List Nat) (G:DH) (h:∀r∈a.2.1,r.1.length=a.2.2.length):
  aq Φ zF noE (env0 [au a.1 a.2.1,.str a.2.2] 1) G (ends λd G'=>G'=G/\d=bH (bI a.2.1 (aV a.2.1 a.2.2))):=by
 obtain ⟨w,rs,l⟩:=a;dsimp only at h ⊢;simp_all_arith[zF];refine seq λM hM=>?_;simp_arith[h1];refine Qg h (hM _ _ (seq λM hM=>?_));cases hm:aV rs l with
 |none=>simp_arith[aP,bI,Option.bind,bH,fE]
 |some n=>
  have hn:=Pz hm;have hc:rs[n]?=some rs[n]:=aS hn;simp_arith[aP];refine hM _ _ (last ?_);simp_arith[au];refine bG (a:=aA rs[n]) (bB (by rw[aE,hc];rfl)) ?_;simp_arith[aA];simp[bI,hc,hm,bH]
def nA:RF.Spec:=b8 (λa:Nat×List Row×List Row=>[au a.1 a.2.1,au a.1 a.2.2]) (λa=>okB a.1 a.2.1/\okB a.1 a.2.2) (λa=>bH (fG a.1 a.2.1 a.2.2).head?)
theorem QC{w:Nat}{rs ss:List Row}{G:DH}{k:D->DH->Prop}{E:EK}(h:okB w rs)(h':okB w ss)(hk:k (bH (fG w rs ss).head?) G):nA.t [au w rs,au w ss] G k E:=cA (w,rs,ss) rfl ⟨h,h'⟩ hk
theorem afq (Φ:aa) (h1:Φ "alike"=vz) (a:Nat×List Row×List Row) (G:DH) (h:okB a.1 a.2.1/\okB a.1 a.2.2):aq Φ my noE (env0 [au a.1 a.2.1,au a.1 a.2.2] 2) G (ends λd G'=>G'=G/\d=bH (fG a.1 a.2.1 a.2.2).head?):=by
 obtain ⟨w,rs,ss⟩:=a;obtain ⟨hb,hb'⟩:=h;dsimp only at hb hb' ⊢;have eb:(([97,108,105,107,101]==[112,97,114,116,101,100]):Bool)=false:=by decide
 simp_all_arith[my];refine seq λM hM=>?_;simp_arith[h1];refine afm hb hb' λd hq=>?_;rcases hq with ⟨m,hm,rfl⟩ |⟨hnil,t,bs,rfl,_,_⟩
 ·simp_arith[Qz];refine hM _ _ (last ?_);simp_arith[BEq.rfl,hm,bH,fE]
 ·simp_arith[QB];refine hM _ _ (last ?_);simp_arith[eb,hnil,List.head?_nil,bH,fE]
theorem QD{rs:List Row}{n:Nat}(h:n < rs.length):(rs.map aA)[n]?=some (aA (rs.getD n ([],[]))):=by rw[aE,ey,aS h];rfl
def wo(rs:List Row)(n:Nat):List Row:=rs.take n++rs.drop (n+1)
theorem vB{rs:List Row}{n:Nat}(hn:n < rs.length):(wo rs n).length+1=rs.length:=by unfold wo;rw[av,bb,bS];omega
theorem Ak{w n:Nat}{rs:List Row}(hb:okB w rs)(hn:n < rs.length):okB w (wo rs n):=hb.sub (by have:=vB hn;omega) λr hr=>by
 rcases ba.mp hr with h |h
 ·exact eL h
 ·exact List.mem_of_mem_drop h
def sWo:RF.Spec:=b8 (λa:Nat×List Row×Nat=>[au a.1 a.2.1,.int a.2.2]) (λa=>okB a.1 a.2.1/\a.2.2 < a.2.1.length) (λa=>au a.1 (wo a.2.1 a.2.2))
theorem QF{w n:Nat}{rs:List Row}{G:DH}{k:D->DH->Prop}{E:EK}(h:okB w rs)(hn:n < rs.length)(hk:k (au w (wo rs n)) G):sWo.t [au w rs,.int n] G k E:=cA (w,rs,n) rfl ⟨h,hn⟩ hk
theorem Al{α β:Type}(f:α->β)(l:List α)(n:Nat):cut (l.map f) (some ((n:Int)+1)) none=(l.drop (n+1)).map f:=m5 f l (n+1)
theorem afr (Φ:aa) (h1:Φ "need_row"=jZ) (a:Nat×List Row×Nat) (G:DH) (h:okB a.1 a.2.1/\a.2.2 < a.2.1.length):aq Φ mC noE (env0 [au a.1 a.2.1,.int a.2.2] 2) G (ends λd G'=>G'=G/\d=au a.1 (wo a.2.1 a.2.2)):=by obtain ⟨w,rs,n⟩:=a;obtain ⟨hb,hn⟩:=h;dsimp only at hb hn ⊢;have hlen:=hb.len;simp_all_arith[mC];refine seq λM hM=>?_;simp_arith[h1];refine vm hb hn (hM _ _ (seq λM hM=>?_));simp_arith[au];refine hM _ _ (last ?_);simp_arith[jc,Al,ag,bb,bS];refine ⟨by have hsz:sz=1000000:=rfl;omega,by decide,?_⟩;unfold wo au;rw[cb]
def oS (q:Addr):D:=.obj "Sieve" "books" q
def stk(w:Nat)(bs:List (List Row)):List D:=bs.map (au w)
theorem Am(w:Nat)(as:List (List Row))(rs:List Row):stk w (as++[rs])=stk w as++[au w rs]:=by unfold stk;rw[cb];rfl
theorem QG(w:Nat)(bs:List (List Row)):(stk w bs).length=bs.length:=ag _
structure Sv where
 q:Addr
 w:Nat
 as:List (List Row)
 rs:List Row
def svG(a:Sv)(G:DH):Prop:=G a.q=some (.lst (stk a.w (a.as++[a.rs])))/\a.as.length < 1000/\okB a.w a.rs
def eG:RF.Spec:=ghS (A:=Sv) (λa ds G=>ds=[oS a.q]/\svG a G) (λa G d G'=>G'=G/\d=au a.w a.rs)
theorem dh{q:Addr}{w:Nat}{as:List (List Row)}{rs:List Row}{G:DH}{k:D->DH->Prop}{E:EK}(h:svG ⟨q,w,as,rs⟩ G)(hk:k (au w rs) G):eG.t [oS q] G k E:=bT (⟨q,w,as,rs⟩:Sv) ⟨rfl,h⟩ λd G' hx=>by
 obtain ⟨rfl,rfl⟩:=hx;exact hk
theorem afs(Φ:aa)(a:Sv)(ds:List D)(G:DH)(h:ds=[oS a.q]/\svG a G):aq Φ mJ noE (env0 ds 0) G (ends λd G'=>G'=G/\d=au a.w a.rs):=by obtain ⟨q,w,as,rs⟩:=a;obtain ⟨rfl,g,hl,hb⟩:=h;dsimp only at g hl hb ⊢;rw[Am]at g;simp_arith[mJ,oS,gD,bR g,qL,fE,true_and]
def tld(w:Nat)(rs ss:List Row):D:=bH (fG w rs ss).head?
def QH(a:Sv×List Row)(ds:List D)(G:DH):Prop:=ds=[oS a.1.q,.tup (a.2.map aA)]/\svG a.1 G/\a.1.as.length < 100/\okB a.1.w a.2
def QJ(a:Sv×List Row)(G:DH)(d:D)(G':DH):Prop:=G'=aK G a.1.q (.lst (stk a.1.w (a.1.as++[a.1.rs]++[a.2])))/\d=tld a.1.w a.1.rs a.2
def j4:RF.Spec:=ghS (A:=Sv×List Row) QH QJ
theorem An{q:Addr}{w:Nat}{as:List (List Row)}{rs ss:List Row}{G:DH}{k:D->DH->Prop}{E:EK}(h:svG ⟨q,w,as,rs⟩ G)(h1:as.length < 100)(h2:okB w ss)(hk:k (tld w rs ss) (aK G q (.lst (stk w (as++[rs]++[ss]))))):j4.t [oS q,.tup (ss.map aA)] G k E:=bT ((⟨q,w,as,rs⟩,ss):Sv×List Row) ⟨rfl,h,h1,h2⟩ λd G' hx=>by
 obtain ⟨rfl,rfl⟩:=hx;exact hk
theorem aft:(Str.ofString "book"==Str.ofString "books")=false:=by ac_rfl
theorem afu:(Str.ofString "turn"==Str.ofString "books")=false:=by ac_rfl
theorem di {q:Addr}:cX "Sieve" "book" (.obj "Sieve" "books" q):=⟨rfl,aft⟩
theorem Ao {q:Addr}:cX "Sieve" "turn" (.obj "Sieve" "books" q):=⟨rfl,afu⟩
theorem afv (Φ:aa) (h1:Φ "Sieve.book"=eG) (h2:Φ "parting_word"=nA) (a:Sv×List Row) (ds:List D) (G:DH) (h:QH a ds G):aq Φ mL noE (env0 ds 1) G (ends (QJ a G)):=by obtain ⟨⟨q,w,as,rs⟩,ss⟩:=a;obtain ⟨rfl,hv,h100,hss⟩:=h;have hv':=hv;obtain ⟨g,hl,hb⟩:=hv';dsimp only at g hl hb h100 hss ⊢;simp_all_arith[mL];refine seq λM hM=>?_;simp_arith[oS,h1];refine ⟨di,dh hv (hM _ _ (seq λM hM=>?_))⟩;simp_arith[gD,au,bZ g,true_and,QG];have e0:∀xs:List Row,D.tup [.int w,.tup (xs.map aA)]=au w xs:=λ_=>rfl;refine ⟨by decide,by rw[av,ce];have hsz:sz=1000000:=rfl;omega,hM _ _ (last ?_)⟩;rw[e0,e0,<-Am];have hv2:svG ⟨q,w,as++[rs],ss⟩ (aK G q (.lst (stk w (as++[rs]++[ss])))):=⟨bf,by rw[av,ce];show as.length+1 < 1000;omega,hss⟩;simp_arith[h1,h2];refine ⟨di,dh hv2 (QC hb hss ?_)⟩;exact ⟨rfl,rfl⟩
def dj(rs:List Row)(n:Nat)(r:Row):List Row:=rs.take n++[r]++rs.drop n
theorem Aq{w n:Nat}{rs:List Row}{r:Row}(hb:okB w rs)(hl:rs.length < 12)(hf:okF w r.1)(hd:okD r.2):okB w (dj rs n r):=by
 have hm:∀x∈dj rs n r,x∈rs\/x=r:=λx hx=>by
  unfold dj at hx;rcases ba.mp hx with h |h
  ·rcases ba.mp h with h |h
   ·exact .inl (eL h)
   ·exact .inr (aT.mp h)
  ·exact .inl (List.mem_of_mem_drop h)
 refine ⟨hb.w1,hb.w6,?_,λx hx=>?_,λx hx=>?_⟩
 ·unfold dj;rw[av,av,bb,bS,ce];omega
 ·rcases hm x hx with h |rfl
  ·exact hb.form x h
  ·exact hf
 ·rcases hm x hx with h |rfl
  ·exact hb.deed x h
  ·exact hd
def mvR(rs:List Row)(n p:Nat):List Row:=dj (wo rs n) p (rs.getD n ([],[]))
theorem getD_mem{rs:List Row}{n:Nat}(hn:n < rs.length):rs.getD n ([],[])∈rs:=by rw[ey,aS hn];exact cw hn
theorem QK{w n p:Nat}{rs:List Row}(hb:okB w rs)(hn:n < rs.length):okB w (mvR rs n p):=
 Aq (Ak hb hn) (by have:=vB hn;have:=hb.len;omega) (hb.form _ (getD_mem hn)) (hb.deed _ (getD_mem hn))
structure Chg where
 s:Sv
 ss:List Row
def j5(a:Chg)(G:DH)(d:D)(G':DH):Prop:=G'=aK G a.s.q (.lst (stk a.s.w (a.s.as++[a.s.rs]++[a.ss])))/\d=tld a.s.w a.s.rs a.ss
structure PutS where
 s:Sv
 n:Nat
 r:Row
def PutS.c(a:PutS):Chg:=⟨a.s,dj a.s.rs a.n a.r⟩
def QL(a:PutS)(ds:List D)(G:DH):Prop:=ds=[oS a.s.q,.int (a.n:Nat),.str a.r.1,.str a.r.2]/\svG a.s G/\a.s.as.length < 50/\a.n<=a.s.rs.length/\a.s.rs.length < 12/\okF a.s.w a.r.1/\okD a.r.2
def Ar:RF.Spec:=ghS (A:=PutS) QL (λa=>j5 a.c)
theorem afw (Φ:aa) (h1:Φ "Sieve.book"=eG) (h2:Φ "Sieve.turn"=j4) (h3:Φ "is_place"=aM fB) (h4:Φ "is_form"=uZ) (h5:Φ "is_deed"=u5) (a:PutS) (ds:List D) (G:DH) (h:QL a ds G):aq Φ mR noE (env0 ds 2) G (ends (j5 a.c G)):=by
 obtain ⟨⟨q,w,as,rs⟩,n,f,e⟩:=a;obtain ⟨rfl,hv,h50,hn,h12,hf,hd⟩:=h;have hv':=hv;obtain ⟨g,hl,hb⟩:=hv';dsimp only at g hl hb h50 hn h12 hf hd ⊢;have hw6:=hb.w6;simp_all_arith[mR];refine seq λM hM=>?_;simp_arith[oS,h1];refine ⟨di,dh hv ?_⟩;simp_arith[au];refine hM _ _ (seq λM hM=>?_);simp_arith[h3,ag];have hp:isPlace ((rs.length:Int)+1) (.int (n:Int))=true:=by show (decide (0<=(n:Int))&&decide ((n:Int) < (rs.length:Int)+1))=true;rw[a8 (by omega),a8 (by omega)];rfl
 refine cH (show fB [.int ((rs.length:Int)+1),.int (n:Int)]=some (.bl true) from by rw[<-hp];rfl) ?_;simp_arith[ends];refine hM _ _ (seq λM hM=>?_);simp_arith[h4,h5];have ef:(w:Int)=(f.length:Int):=by rw[hf.1]
 rw[ef];refine cA f rfl ⟨by rw[hf.1];omega,hf.2⟩ ?_;simp_arith[ends];refine cA e rfl hd ?_;simp_arith[ends];refine hM _ _ (seq λM hM=>?_);simp_arith[ag,ck (show ¬(12:Int)<=(rs.length:Int) by omega)];refine hM _ _ (last ?_);simp_arith[h2,jc,m5,ag,bb,bS];have em:(rs.take n).map aA++[D.tup [.str f,.str e]]++(rs.drop n).map aA=(dj rs n (f,e)).map aA:=by unfold dj;rw[cb,cb];rfl
 rw[em];refine ⟨Ao,by decide,by decide,by have hsz:sz=1000000:=rfl;omega,by rw[av,ag,bb,ce];have hsz:sz=1000000:=rfl;omega,?_⟩;exact An hv (by omega) (Aq hb h12 hf hd) ⟨rfl,rfl⟩
structure OutS where
 s:Sv
 n:Nat
def OutS.c(a:OutS):Chg:=⟨a.s,wo a.s.rs a.n⟩
def QM(a:OutS)(ds:List D)(G:DH):Prop:=ds=[oS a.s.q,.int (a.n:Nat)]/\svG a.s G/\a.s.as.length < 50/\a.n < a.s.rs.length
def Av:RF.Spec:=ghS (A:=OutS) QM (λa=>j5 a.c)
theorem afx (Φ:aa) (h1:Φ "Sieve.book"=eG) (h2:Φ "Sieve.turn"=j4) (h3:Φ "without"=sWo) (a:OutS) (ds:List D) (G:DH) (h:QM a ds G):aq Φ mQ noE (env0 ds 0) G (ends (j5 a.c G)):=by obtain ⟨⟨q,w,as,rs⟩,n⟩:=a;obtain ⟨rfl,hv,h50,hn⟩:=h;have hv':=hv;obtain ⟨g,hl,hb⟩:=hv';dsimp only at g hl hb h50 hn ⊢;simp_all_arith[mQ];refine last ?_;simp_arith[oS,h1,h2,h3];refine ⟨Ao,di,dh hv (QF hb hn ?_)⟩;simp_arith[au];exact An hv (by omega) (Ak hb hn) ⟨rfl,rfl⟩
structure MovS where
 s:Sv
 n:Nat
 p:Nat
def MovS.c(a:MovS):Chg:=⟨a.s,mvR a.s.rs a.n a.p⟩
def QQ(a:MovS)(ds:List D)(G:DH):Prop:=ds=[oS a.s.q,.int (a.n:Nat),.int (a.p:Nat)]/\svG a.s G/\a.s.as.length < 50/\a.n < a.s.rs.length/\a.p < a.s.rs.length
def Aw:RF.Spec:=ghS (A:=MovS) QQ (λa=>j5 a.c)
theorem afy (Φ:aa) (h1:Φ "Sieve.book"=eG) (h2:Φ "Sieve.turn"=j4) (h3:Φ "without"=sWo) (h4:Φ "need_row"=jZ) (a:MovS) (ds:List D) (G:DH) (h:QQ a ds G):aq Φ mO noE (env0 ds 2) G (ends (j5 a.c G)):=by
 obtain ⟨⟨q,w,as,rs⟩,n,p⟩:=a;obtain ⟨rfl,hv,h50,hn,hp⟩:=h;have hv':=hv;obtain ⟨g,hl,hb⟩:=hv';dsimp only at g hl hb h50 hn hp ⊢;have hlen:=hb.len;have hwl:=vB hn;simp_all_arith[mO];refine seq λM hM=>?_;simp_arith[oS,h1,h4];refine ⟨di,dh hv (vm hb hn (hM _ _ (seq λM hM=>?_)))⟩;simp_arith[h1,h4];refine ⟨di,dh hv (vm hb hp (hM _ _ (seq λM hM=>?_)))⟩;simp_arith[h1];refine ⟨di,dh hv ?_⟩;simp_arith[au];refine bG (a:=aA (rs.getD n ([],[]))) (bB (QD hn)) (hM _ _ (seq λM hM=>?_));simp_arith[h1,h3];refine ⟨di,dh hv (QF hb hn ?_)⟩;simp_arith[au];refine hM _ _ (last ?_);simp_arith[h2,jc,m5,ag,bb,bS];have em:((wo rs n).take p).map aA++[aA (rs.getD n ([],[]))]++((wo rs n).drop p).map aA=(mvR rs n p).map aA:=by unfold mvR dj;rw[cb,cb];rfl
 rw[em];refine ⟨Ao,by decide,by have hsz:sz=1000000:=rfl;omega,by rw[av,ag,bb,ce];have hsz:sz=1000000:=rfl;omega,?_⟩;exact An hv (by omega) (QK hb hn) ⟨rfl,rfl⟩
def QR(a:Sv×List Row)(G:DH)(d:D)(G':DH):Prop:=G'=aK G a.1.q (.lst (stk a.1.w (a.1.as++[a.1.rs])))/\d=tld a.1.w a.2 a.1.rs
def QS(a:Sv×List Row)(ds:List D)(G:DH):Prop:=ds=[oS a.1.q]/\G a.1.q=some (.lst (stk a.1.w (a.1.as++[a.1.rs]++[a.2])))/\a.1.as.length < 100/\okB a.1.w a.1.rs/\okB a.1.w a.2
def Ax:RF.Spec:=ghS (A:=Sv×List Row) QS QR
theorem afz (Φ:aa) (h1:Φ "Sieve.book"=eG) (h2:Φ "parting_word"=nA) (a:Sv×List Row) (ds:List D) (G:DH) (h:QS a ds G):aq Φ mK noE (env0 ds 1) G (ends (QR a G)):=by
 obtain ⟨⟨q,w,as,rs⟩,ss⟩:=a;obtain ⟨rfl,g,h100,hb,hss⟩:=h;dsimp only at g h100 hb hss ⊢;have hl:((stk w (as++[rs]++[ss])).length:Int)≠1:=by rw[QG,av,av];simp;omega
 simp_all_arith[mK];refine seq λM hM=>?_;simp_arith[oS,gD,bR g,true_and,c5.mpr hl];refine hM _ _ (seq λM hM=>?_);simp_arith[gD,true_and];unfold gF;dsimp only;rw[g];dsimp only;rw[Am,av,ce,Nat.add_sub_cancel,List.getElem?_append_right (ay _),Nat.sub_self,List.dropLast_concat];show M _ _;refine hM _ _ (last ?_);have hv2:svG ⟨q,w,as,rs⟩ (aK G q (.lst (stk w (as++[rs])))):=⟨bf,by dsimp only;omega,hb⟩;simp_arith[h1,h2];refine ⟨di,dh hv2 (QC hss hb ?_)⟩;exact ⟨rfl,rfl⟩
def nF:RF.Spec:=ghS (A:=Nat×List Row) (λa ds _=>ds=[au a.1 a.2]/\okB a.1 a.2) (λa G d G'=>∃q,d=oS q/\G q=none/\G'=aK G q (.lst (stk a.1 [a.2])))
theorem afA{w:Nat}{rs:List Row}{G:DH}{k:D->DH->Prop}{E:EK}(hb:okB w rs)(hk:∀q,G q=none->k (oS q) (aK G q (.lst (stk w [rs])))):nF.t [au w rs] G k E:=bT (w,rs) ⟨rfl,hb⟩ λd G' hx=>by
 obtain ⟨q,rfl,hq,rfl⟩:=hx;exact hk q hq
theorem afB (Φ:aa) (h1:Φ "need_book"=gf) (h2:Φ "Sieve"=nF) (d:D) (G:DH) (kk:D->DH->Prop) (E:EK) (h:(Φ "Sieve").t [d] G kk E):(Φ "need_book").t [d] G (λ_ G1=>∀q,G1 q=none->kk (.obj "Sieve" "books" q) (aK G1 q (.lst [d]))) E:=by
 rw[h2]at h;rw[h1];obtain ⟨⟨⟨w,rs⟩,G0⟩,hp,hq,_⟩:=h;obtain ⟨e,hd,hb⟩:=hp;dsimp only at e hd hb;have hd:d=au w rs:=by simpa using hd
 subst e hd;exact jb hb λq hq'=>hq _ _ ⟨q,rfl,hq',rfl⟩
def lR(rs:List Row):D:=.lst (rs.map aA)
def vC:List Nat:=[112,117,116]
def dm:List Nat:=[98,97,99,107]
def vD:List Nat:=[111,117,116]
def vG:List Nat:=[109,111,118,101]
def vH:RF.Spec:=b8 (A:=List Row) (λrs=>[lR rs]) (λrs=>rs.length<=12) (λrs=>.lst ((rs.map (·.1)).map D.str))
theorem afC{rs:List Row}{G:DH}{k:D->DH->Prop}{E:EK}(h:rs.length<=12)(hk:k (.lst ((rs.map (·.1)).map D.str)) G):vH.t [lR rs] G k E:=cA rs rfl h hk
def QT:D->D
 |.tup (a::_)=>a
 |_=>.non
theorem afD(Φ:aa)(rs:List Row)(G:DH)(h:rs.length<=12):aq Φ zu noE (env0 [lR rs] 0) G (ends λd G'=>G'=G/\d=.lst ((rs.map (·.1)).map D.str)):=by
 simp_arith[zu,lR];refine CompG.map (f:=QT) (I:=λρ=>∃o,ρ=[o]) ⟨_,rfl⟩ trivial (by rw[ag];have hsz:sz=1000000:=rfl;omega) ?_ ?_
 ·rintro d ρ hd ⟨o,rfl⟩ kk hk;obtain ⟨r,_,rfl⟩:=b6.mp hd;simp_arith[aA];exact hk _ ⟨_,rfl⟩
 ·simp_arith[ends];have e:(rs.map aA).map QT=(rs.map (·.1)).map D.str:=by rw[eM,eM];rfl
  rw[e]
def j6(w:Nat)(as:List (List Row))(rs:List Row)(wd:List Nat)(pc:D)(bs:List Row):Prop:=
 (∃(n:Nat)(r:Row),wd=vC/\pc=.tup [.int (n:Int),.str r.1,.str r.2]/\bs=dj rs n r/\n<=rs.length/\rs.length < 12/\okF w r.1/\okD r.2)\/
 (wd=dm/\pc=.tup []/\∃as',as=as'++[bs])\/
 (∃n:Nat,wd=vD/\pc=.tup [.int (n:Int)]/\bs=wo rs n/\n < rs.length)\/
 (∃n p:Nat,wd=vG/\pc=.tup [.int (n:Int),.int (p:Int)]/\bs=mvR rs n p/\n < rs.length/\p < rs.length)
structure C60 where
 p:Addr
 w:Nat
 as:List (List Row)
 rs:List Row
def QV(a:C60)(ds:List D)(G:DH):Prop:=ds=[.ref a.p,.int (a.w:Nat),lR a.rs,.lst (a.as.map lR)]/\Pen G a.p/\okB a.w a.rs
def vI(a:C60)(G:DH)(d:D)(G':DH):Prop:=∃wd pc bs,d=.tup [.str wd,pc,lR bs]/\j6 a.w a.as a.rs wd pc bs/\Pen G' a.p/\Sb a.p G G'
def vJ:RF.Spec:=ghS (A:=C60) QV vI
theorem afE{p:Addr}{w:Nat}{as:List (List Row)}{rs:List Row}{G:DH}{k:D->DH->Prop}{E:EK}(hp:Pen G p)(hb:okB w rs)(hk:∀wd pc bs G',j6 w as rs wd pc bs->Pen G' p->Sb p G G'->k (.tup [.str wd,pc,lR bs]) G'):vJ.t [.ref p,.int (w:Nat),lR rs,.lst (as.map lR)] G k E:=bT (⟨p,w,as,rs⟩:C60) ⟨rfl,hp,hb⟩ λd G' hx=>by
 obtain ⟨wd,pc,bs,rfl,h1,h2,h3⟩:=hx;exact hk wd pc bs G' h1 h2 h3
theorem nG(rs:List Row):nrs (rs.map aA)=true:=yW λd hd=>by obtain ⟨r,_,rfl⟩:=b6.mp hd;rfl
theorem Ay(as:List (List Row)):nrs (as.map lR)=true:=yW λd hd=>by
 obtain ⟨r,_,rfl⟩:=b6.mp hd;exact nG r
theorem afF (Φ:aa) (h1:Φ "_law_take"=dw) (h2:Φ "_law_form_like"=mV) (h3:Φ "_law_forms"=vH) (h4:Φ "_law_deeds_of"=mW) (a:C60) (ds:List D) (G:DH) (h:QV a ds G):aq Φ zx noE (env0 ds 6) G (ends (vI a G)):=by
 obtain ⟨p,w,as,rs⟩:=a;obtain ⟨rfl,hp,hb⟩:=h;dsimp only at hp hb ⊢;have hw1:=hb.w1;have hw6:=hb.w6;have hlen:=hb.len;have gr:(nr (lR rs)=true/\nr (D.lst [])=true/\min (dpt (lR rs)) (dpt (.lst []))<=60):=⟨nG rs,rfl,bv (d6 _ _) (by decide)⟩;have ge:(nr (.lst (as.map lR))=true/\nr (D.lst [])=true/\min (dpt (.lst (as.map lR))) (dpt (.lst []))<=60):=⟨Ay as,rfl,bv (d6 _ _) (by decide)⟩;simp_all_arith[zx];refine seq λM hM=>?_;simp_arith[h1];refine bD hp (by decide) (by decide) λkd G1 hkd hp1 sb1=>hM _ _ (seq λM hM=>?_);simp_arith[h1,lR,ag];refine bD hp1 (by omega) (by omega) λn G2 hn hp2 sb2=>hM _ _ ?_;have sb12:=sb1.trans sb2;have eR:D.lst (rs.map aA)=lR rs:=rfl;rw[eR]
 -- put
 have put:∀(R:ao->DH->Prop) o6 o7 o8 o9,rs.length < 12->aq Φ (.cons (.asg (.nm 6) (.call "_law_form_like" (.cons (.var 0) (.cons (.var 1) (.cons (.call "_law_forms" (.cons (.var 2) .nil)) .nil))))) (.cons (.asg (.nm 7) (.idx (.call "_law_deeds_of" (.cons (.var 0) (.cons (.cst (.int 1)) .nil))) (.cst (.int 0)))) (.cons (.ret (.tup (.cons (.cst (.str [112,117,116])) (.cons (.tup (.cons (.var 5) (.cons (.var 6) (.cons (.var 7) .nil)))) (.cons (.bin .Add true (.bin .Add true (.slc true (.var 2) .no (.ob (.var 5))) (.lst true (.cons (.tup (.cons (.var 6) (.cons (.var 7) .nil))) .nil))) (.slc true (.var 2) (.ob (.var 5)) .no)) .nil))))) .nil))) noE [some (.ref p),some (.int (w:Int)),some (lR rs),some (.lst (as.map lR)),some (.int (kd:Int)),some (.int (n:Int)),o6,o7,o8,o9] G2 ⟨R,vI ⟨p,w,as,rs⟩ G,λ_ _=>False,λ_ _=>False⟩:=by
  intro R o6 o7 o8 o9 h12;refine seq λM hM=>?_;simp_arith[h2,h3];refine afC hlen (O2 (fs:=rs.map (·.1)) hp2 (by omega) (by omega) rfl (by rw[ag];omega) (λf hf=>?_) λf G3 hf hp3 sb3=>hM _ _ (seq λM hM=>?_))
  ·obtain ⟨r,hr,rfl⟩:=b6.mp hf;exact hb.form r hr
  simp_arith[h4];refine O9 hp3 (by decide) (by decide) λxs G4 hx0 _ hxs hp4 sb4=>?_;simp_arith[ends];refine uR (i:=0) (by decide) (by rw[ag];omega) λy hy=>?_;obtain ⟨e,he,rfl⟩:=b6.mp hy;refine hM _ _ (last ?_);simp_arith[lR,jc,m5,ag,bb,bS];have em:(rs.take n).map aA++[D.tup [.str f,.str e]]++(rs.drop n).map aA=(dj rs n (f,e)).map aA:=by unfold dj;rw[cb,cb];rfl
  rw[em];repeat refine af (by first |decide | ((try simp only[av,ag,bb,ce]);have hsz:sz=1000000:=rfl;omega)) ?_
  exact ⟨vC,_,dj rs n (f,e),rfl,.inl ⟨n,(f,e),rfl,rfl,rfl,show n<=rs.length by omega,h12,hf,hxs e he⟩,hp4,sb12.trans (sb3.trans sb4)⟩
 have env:[some (D.ref p),some (.int (w:Int)),some (lR rs),some (.lst (as.map lR)),some (.int (kd:Int)),some (.int (n:Int)),none,none,none,none]=[some (D.ref p),some (.int (w:Int)),some (.lst (rs.map aA)),some (.lst (as.map lR)),some (.int (kd:Int)),some (.int (n:Int)),none,none,none,none]:=rfl;refine seq λM hM=>?_;have rest:¬(rs=[]/\as=[])->M [some (D.ref p),some (.int (w:Int)),some (lR rs),some (.lst (as.map lR)),some (.int (kd:Int)),some (.int (n:Int)),none,none,none,none] G2:=λhne=>by
  refine hM _ _ ?_;have back:∀(R:ao->DH->Prop),as≠[]->aq Φ (.cons (.ret (.tup (.cons (.cst (.str [98,97,99,107])) (.cons (.tup .nil) (.cons (.idx (.var 3) (.neg (.cst (.int 1)))) .nil))))) .nil) noE [some (D.ref p),some (.int (w:Int)),some (lR rs),some (.lst (as.map lR)),some (.int (kd:Int)),some (.int (n:Int)),none,none,none,none] G2 ⟨R,vI ⟨p,w,as,rs⟩ G,λ_ _=>False,λ_ _=>False⟩:=λR ha=>by
   have e:as=as.dropLast++[as.getLast ha]:=(dy ha).symm;generalize as.dropLast=as' at e;generalize as.getLast ha=bs at e;subst e;refine last ?_;simp_arith[cb,bo,dk,qL];exact ⟨by decide,dm,_,bs,rfl,.inr (.inl ⟨rfl,rfl,as',rfl⟩),hp2,sb12⟩
  refine seq λM hM=>?_;have rest2:rs≠[]->M [some (D.ref p),some (.int (w:Int)),some (lR rs),some (.lst (as.map lR)),some (.int (kd:Int)),some (.int (n:Int)),none,none,none,none] G2:=λhr=>by
   have hr0:0 < rs.length:=dn.mpr hr;have hz:((n:Int) % (rs.length:Int))=((n % rs.length:Nat):Int):=by omega
   have hm:n % rs.length < rs.length:=Nat.mod_lt _ hr0;refine hM _ _ (seq λM hM=>?_);simp_arith[lR,ag];rw[hz];generalize n % rs.length=m at hm ⊢;have hwl:=vB hm;have ew:(rs.take m).map aA++(rs.drop (m+1)).map aA=(wo rs m).map aA:=by unfold wo;rw[cb]
   refine ⟨by omega,hM _ _ (seq λM hM=>?_)⟩;by_cases h7:(kd:Int) < 7
   ·simp_arith[a8 h7,jc,Al,ag,bb,bS];rw[ew];repeat refine af (by first |decide | ((try simp only[av,ag,bb,ce]);have hsz:sz=1000000:=rfl;omega)) ?_
    exact ⟨vD,_,wo rs m,rfl,.inr (.inr (.inl ⟨m,rfl,rfl,rfl,hm⟩)),hp2,sb12⟩
   ·simp_arith[ck h7];refine hM _ _ (seq λM hM=>?_);simp_arith[h1,ag];refine bD hp2 (by omega) (by omega) λpl G3 hpl hp3 sb3=>hM _ _ (seq λM hM=>?_);simp_arith[jc,Al,ag,bb,bS];rw[ew];repeat refine af (by first |decide | ((try simp only[av,ag,bb,ce]);have hsz:sz=1000000:=rfl;omega)) ?_
    refine hM _ _ (last ?_);simp_arith[jc,m5,ag,bb,bS];have em:((wo rs m).take pl).map aA++[aA (rs.getD m ([],[]))]++((wo rs m).drop pl).map aA=(mvR rs m pl).map aA:=by unfold mvR dj;rw[cb,cb];rfl
    refine ⟨by decide,bG (a:=aA (rs.getD m ([],[]))) (bB (QD hm)) ⟨by decide,by have hsz:sz=1000000:=rfl;omega,by rw[av,ag,bb,ce];have hsz:sz=1000000:=rfl;omega,by decide,?_⟩⟩;rw[em];exact ⟨vG,_,mvR rs m pl,rfl,.inr (.inr (.inr ⟨m,pl,rfl,rfl,rfl,hm,show pl < rs.length by omega⟩)),hp3,sb12.trans sb3⟩
  simp_arith![lR,ag,yV];have g1:nrs (rs.map aA)=true/\min (aX (rs.map aA)+1) (0+1)<=60:=⟨nG _,bv (d6 _ _) (by decide)⟩;have g2:nrs (as.map lR)=true/\min (aX (as.map lR)+1) (0+1)<=60:=⟨Ay _,bv (d6 _ _) (by decide)⟩;have tail:(match (rs.map aA).isEmpty with |true=>as≠[] |false=>True):=by
   cases rs with
   |nil=>exact λe=>hne ⟨rfl,e⟩
   |cons r l=>trivial
  cases hk4:((kd:Int)==4) with
  |true=>
   refine ⟨g2,?_⟩;cases as with
   |nil=>
    cases rs with
    |nil=>exact absurd ⟨rfl,rfl⟩ hne
    |cons r l=>exact ⟨g1,rest2 (List.cons_ne_nil _ _)⟩
   |cons x as=>exact back _ (List.cons_ne_nil _ _)
  |false=>
   refine ⟨g1,?_⟩;cases rs with
   |nil=>exact back _ (λe=>hne ⟨rfl,e⟩)
   |cons r l=>exact rest2 (List.cons_ne_nil _ _)
 have ern:∀{r:Row}{l:List Row},bO ((r::l).map aA) []=false:=λ{r l}=>rfl;simp_arith![lR,ag,yV];cases hk4:decide ((kd:Int) < 4) with
 |true=>
  cases hl:decide ((rs.length:Int) < 12) with
  |true=>exact put _ _ _ _ _ (by have:=c8 hl;omega)
  |false=>
   have hl':¬(rs.length:Int) < 12:=of_decide_eq_false hl;obtain ⟨r,l,rfl⟩:∃r l,rs=r::l:=by
    cases rs with
    |nil=>exact absurd (by decide) hl'
    |cons r l=>exact ⟨r,l,rfl⟩
   exact ⟨⟨nG _,bv (d6 _ _) (by decide)⟩,rest λh=>nomatch h.1⟩
 |false=>
  cases rs with
  |cons r l=>exact ⟨⟨nG _,bv (d6 _ _) (by decide)⟩,rest λh=>nomatch h.1⟩
  |nil=>
   refine ⟨⟨rfl,by decide⟩,?_⟩;cases as with
   |nil=>exact ⟨⟨rfl,by decide⟩,put _ _ _ _ _ (by decide)⟩
   |cons x as=>exact ⟨⟨Ay _,bv (d6 _ _) (by decide)⟩,rest λh=>nomatch h.2⟩
noncomputable def elN(wd:List Nat)(as:List (List Row))(rs:List Row):List (List Row):=if wd=dm then as.dropLast else as++[rs]
theorem afG{w:Nat}{as:List (List Row)}{rs bs:List Row}{wd:List Nat}{pc:D}(hb:okB w rs)(ha:∀x∈as,okB w x)(h:j6 w as rs wd pc bs):okB w bs/\(∀x∈elN wd as rs,okB w x)/\(elN wd as rs).length<=as.length+1:=by
 have app:∀x∈as++[rs],okB w x:=λx hx=>by
  rcases ba.mp hx with h |h
  ·exact ha x h
  ·rw[aT.mp h];exact hb
 have ne1:vC≠dm:=by decide
 have ne2:vD≠dm:=by decide
 have ne3:vG≠dm:=by decide
 rcases h with ⟨n,r,rfl,rfl,rfl,hn,h12,hf,hd⟩ |⟨rfl,rfl,as',rfl⟩ |⟨n,rfl,rfl,rfl,hn⟩ |⟨n,p,rfl,rfl,rfl,hn,hp⟩
 ·unfold elN;rw[if_neg ne1];exact ⟨Aq hb h12 hf hd,app,by simp⟩
 ·unfold elN;rw[if_pos rfl,List.dropLast_concat];exact ⟨ha _ (bg _ (aT.mpr rfl)),λx hx=>ha x (df _ hx),by simp;omega⟩
 ·unfold elN;rw[if_neg ne2];exact ⟨Ak hb hn,app,by simp⟩
 ·unfold elN;rw[if_neg ne3];exact ⟨QK hb hn,app,by simp⟩
structure Do60 where
 s:Sv
 wd:List Nat
 pc:D
 bs:List Row
def pDo(a:Do60)(ds:List D)(G:DH):Prop:=ds=[oS a.s.q,.str a.wd,a.pc]/\svG a.s G/\a.s.as.length < 50/\(∀x∈a.s.as,okB a.s.w x)/\j6 a.s.w a.s.as a.s.rs a.wd a.pc a.bs
def qDo(a:Do60)(G:DH)(d:D)(G':DH):Prop:=G'=aK G a.s.q (.lst (stk a.s.w (elN a.wd a.s.as a.s.rs++[a.bs])))/\d=tld a.s.w a.s.rs a.bs
def sDo:RF.Spec:=ghS (A:=Do60) pDo qDo
theorem afH{q:Addr}{w:Nat}{as:List (List Row)}{rs bs:List Row}{wd:List Nat}{pc:D}{G:DH}{k:D->DH->Prop}{E:EK}(hv:svG ⟨q,w,as,rs⟩ G)(hl:as.length < 50)(ha:∀x∈as,okB w x)(hc:j6 w as rs wd pc bs)(hk:k (tld w rs bs) (aK G q (.lst (stk w (elN wd as rs++[bs]))))):sDo.t [oS q,.str wd,pc] G k E:=bT (⟨⟨q,w,as,rs⟩,wd,pc,bs⟩:Do60) ⟨rfl,hv,hl,ha,hc⟩ λd G' hx=>by
 obtain ⟨rfl,rfl⟩:=hx;exact hk
theorem afI {q:Addr}:cX "Sieve" "put" (.obj "Sieve" "books" q):=⟨rfl,by ac_rfl⟩
theorem afJ {q:Addr}:cX "Sieve" "out" (.obj "Sieve" "books" q):=⟨rfl,by ac_rfl⟩
theorem afK {q:Addr}:cX "Sieve" "move" (.obj "Sieve" "books" q):=⟨rfl,by ac_rfl⟩
theorem afL {q:Addr}:cX "Sieve" "back" (.obj "Sieve" "books" q):=⟨rfl,by ac_rfl⟩
theorem afM (Φ:aa) (h1:Φ "Sieve.put"=Ar) (h2:Φ "Sieve.out"=Av) (h3:Φ "Sieve.move"=Aw) (h4:Φ "Sieve.back"=Ax) (a:Do60) (ds:List D) (G:DH) (h:pDo a ds G):aq Φ jT noE (env0 ds 0) G (ends (qDo a G)):=by
 obtain ⟨⟨q,w,as,rs⟩,wd,pc,bs⟩:=a;obtain ⟨rfl,hv,h50,ha,hc⟩:=h;have hv':=hv;obtain ⟨g,hl,hb⟩:=hv';dsimp only at g hl hb h50 ha hc ⊢;rcases hc with ⟨n,r,rfl,rfl,rfl,hn,h12,hf,hd⟩ |⟨rfl,rfl,as',rfl⟩ |⟨n,rfl,rfl,rfl,hn⟩ |⟨n,p,rfl,rfl,rfl,hn,hp⟩
 ·simp_arith[jT,vC,oS,BEq.rfl,h1];exact ⟨afI,bT (⟨⟨q,w,as,rs⟩,n,r⟩:PutS) ⟨rfl,hv,h50,hn,h12,hf,hd⟩ λd G' hx=>hx⟩
 ·have e1:(([98,97,99,107]:List Nat)==[112,117,116])=false:=by decide
  have e2:(([98,97,99,107]:List Nat)==[111,117,116])=false:=by decide
  have e3:(([98,97,99,107]:List Nat)==[109,111,118,101])=false:=by decide
  simp_arith[jT,dm,oS,e1,e2,e3,h4];refine ⟨afL,bT ((⟨q,w,as',bs⟩,rs):Sv×List Row) ⟨rfl,g,?_,ha _ (bg _ (aT.mpr rfl)),hb⟩ λd G' hx=>?_⟩
  ·rw[av]at h50;dsimp only;omega
  ·unfold qDo elN;dsimp only;rw[if_pos (show [98,97,99,107]=dm from rfl),List.dropLast_concat];exact hx
 ·have e1:(([111,117,116]:List Nat)==[112,117,116])=false:=by decide
  simp_arith[jT,vD,oS,BEq.rfl,e1,h2];exact ⟨afJ,bT (⟨⟨q,w,as,rs⟩,n⟩:OutS) ⟨rfl,hv,h50,hn⟩ λd G' hx=>hx⟩
 ·have e1:(([109,111,118,101]:List Nat)==[112,117,116])=false:=by decide
  have e2:(([109,111,118,101]:List Nat)==[111,117,116])=false:=by decide
  simp_arith[jT,vG,oS,BEq.rfl,e1,e2,h3];exact ⟨afK,bT (⟨⟨q,w,as,rs⟩,n,p⟩:MovS) ⟨rfl,hv,h50,hn,hp⟩ λd G' hx=>hx⟩
structure El60 where
 as:List (List Row)
 wd:List Nat
 rs:List Row
def vK:RF.Spec:=b8 (A:=El60) (λa=>[.lst (a.as.map lR),.str a.wd,lR a.rs]) (λa=>a.as.length < 1000/\(a.wd=dm->a.as≠[])) (λa=>.lst ((elN a.wd a.as a.rs).map lR))
theorem afN{as:List (List Row)}{wd:List Nat}{rs:List Row}{G:DH}{k:D->DH->Prop}{E:EK}(h1:as.length < 1000)(h2:wd=dm->as≠[])(hk:k (.lst ((elN wd as rs).map lR)) G):vK.t [.lst (as.map lR),.str wd,lR rs] G k E:=cA (⟨as,wd,rs⟩:El60) rfl ⟨h1,h2⟩ hk
theorem afO{l:List D}{a:D}:cut (l++[a]) none (some (-1))=l:=by
 have e:HT.sIx (l++[a]).length (l++[a]).length (some (-1))=l.length:=by show (if (-1:Int) < 0 then ((-1:Int)+((l++[a]).length:Int)).toNat else min (-1:Int).toNat (l++[a]).length)=l.length;rw[if_pos (by decide),av,ce];omega
 unfold cut;rw[e,show HT.sIx (l++[a]).length 0 none=0 from rfl,List.drop_zero,Nat.sub_zero,List.take_left]
theorem afP(Φ:aa)(a:El60)(G:DH)(h:a.as.length < 1000/\(a.wd=dm->a.as≠[])):aq Φ uV noE (env0 [.lst (a.as.map lR),.str a.wd,lR a.rs] 0) G (ends λd G'=>G'=G/\d=.lst ((elN a.wd a.as a.rs).map lR)):=by
 obtain ⟨as,wd,rs⟩:=a;obtain ⟨h1,h2⟩:=h;dsimp only at h1 h2 ⊢;by_cases hw:wd=dm
 ·have ha:=h2 hw;have e:as=as.dropLast++[as.getLast ha]:=(dy ha).symm;unfold elN;rw[if_pos hw];subst hw;generalize as.dropLast=as' at e ⊢;generalize as.getLast ha=bs at e;subst e;simp_arith[uV,dm,BEq.rfl,cb,bo,dk,afO,fE]
 ·have e:(wd==[98,97,99,107])=false:=c5.mpr hw;unfold elN;rw[if_neg hw];simp_arith[uV,e,ag];refine ⟨by decide,by have hsz:sz=1000000:=rfl;omega,?_⟩;rw[cb];rfl
theorem afQ{w:Nat}{as:List (List Row)}{rs bs:List Row}{wd:List Nat}{pc:D}(h:j6 w as rs wd pc bs):wd=dm->as≠[]:=by
 rintro rfl;rcases h with ⟨n,r,e,_⟩ |⟨_,_,as',rfl⟩ |⟨n,e,_⟩ |⟨n,p,e,_⟩
 ·exact absurd e (by decide)
 ·simp
 ·exact absurd e (by decide)
 ·exact absurd e (by decide)
def orG(S:RF.Spec)(P:List D->DH->String->Prop):RF.Spec where
 A:=S.A ⊕ (String×DH)
 pre:=λds G a=>match a with |.inl a=>S.pre ds G a |.inr c=>c.2=G/\P ds G c.1
 post:=λa d G'=>match a with |.inl a=>S.post a d G' |.inr _=>False
 exc:=λa x G'=>match a with |.inl a=>S.exc a x G' |.inr c=>x=⟨c.1,.non⟩/\G'=c.2
theorem QW{S:RF.Spec}{P:List D->DH->String->Prop}{ds:List D}{G:DH}{k:D->DH->Prop}{E:EK}(h:S.t ds G k E):(orG S P).t ds G k E:=by obtain ⟨a,h1,h2,h3⟩:=h;exact ⟨.inl a,h1,h2,h3⟩
theorem QX{S:RF.Spec}{P:List D->DH->String->Prop}{ds:List D}{G:DH}{k:D->DH->Prop}{E:EK}{C:String}(h:P ds G C)(hE:E ⟨C,.non⟩ G):(orG S P).t ds G k E:=
 ⟨.inr (C,G),⟨rfl,h⟩,λ_ _ q=>q.elim,λx G' ⟨e1,e2⟩=>by subst e1 e2;exact hE⟩
theorem QZ{Φ:aa}{body:Sxs}{m n:Nat}{S:RF.Spec}{P:List D->DH->String->Prop}(hS:S.exc=λ_ _ _=>False)(h1:∀ds G a,ds.length=n->S.pre ds G a->aq Φ body noE (env0 ds m) G (ends (S.post a)))
  (h2:∀ds G C,P ds G C->aq Φ body (λx G'=>x=⟨C,.non⟩/\G'=G) (env0 ds m) G (ends λ_ _=>False)):∀ds G a,ds.length=n->(orG S P).pre ds G a->aq Φ body ((orG S P).exc a) (env0 ds m) G (ends ((orG S P).post a)):=by
 rintro ds G (a |c) hl h
 ·have e:(orG S P).exc (.inl a)=noE:=by show S.exc a=noE;rw[hS];rfl
  rw[e];exact h1 ds G a hl h
 ·obtain ⟨e,hp⟩:=h;subst e;exact h2 ds c.2 c.1 hp
theorem afR (Φ:aa) (h1:Φ "is_text_of"=aM fText) (l:List Nat) (G:DH) (h:l.length<=1000/\∀c∈l,isF c):aq Φ lH noE (env0 [.int l.length,.str l] 0) G (ends λd G'=>G'=G/\d=.bl true):=by
 simp_arith[lH,h1];refine cH (d:=.bl true) ?_ ⟨rfl,rfl⟩;have e:isText [48,49,42] (l.length:Int) (.str l)=true:=by unfold isText;rw[ae];exact ⟨a8 rfl,bX.mpr λc hc=>by rcases h.2 c hc with rfl |rfl |rfl <;> rfl⟩
 rw[<-e];exact if_pos (by unfold szd;simp only[nr,ft];exact a8 (by omega))
theorem afS{w:Nat}{l:List Nat}(h:okW w l):isText [48,49] (w:Int) (.str l)=true:=by unfold isText;rw[ae];refine ⟨a8 (by rw[h.1]),bX.mpr λc hc=>?_⟩;rcases h.2 c hc with rfl |rfl <;> rfl
def gY(w:Nat)(y:D):Prop:=nr y=true/\szd y=true/\isText [48,49] (w:Int) y=false
def Q0 (ds:List D) (_:DH) (C:String):Prop:=C="NoWord"/\∃w rs y,ds=[au w rs,y]/\okB w rs/\gY w y
def vL:RF.Spec:=orG Px Q0
theorem afT (Φ:aa) (h1:Φ "need_book"=gf) (h2:Φ "is_word"=aM jU) (h3:Φ "fits"=aM mY) (ds:List D) (G:DH) (h:∃w rs l,ds=[au w rs,.str l]/\okB w rs/\okW w l):
  aq Φ iV noE (env0 ds 4) G (ends λd G'=>G'=G/\∃w rs l,ds=[au w rs,.str l]/\d=aP (aV rs l)):=by
 obtain ⟨w,rs,l,rfl,hb,hl⟩:=h;have hl1:=hl.1;have hw6:=hb.w6;simp_all_arith[iV];refine seq λM hM=>?_;simp_arith[h1];refine jb hb (hM _ _ (seq λM hM=>?_));conv=>enter [4,1,1];rw[au]
 simp_arith[ends];refine hM _ _ (seq λM hM=>?_);simp_arith[h2];refine cH (d:=.bl true) (by rw[<-afS hl];exact if_pos (by unfold szd;simp only[nr,ft];exact a8 (by omega))) ?_;simp_arith[ends];refine hM _ _ (seq λM hM=>?_);simp_arith![ends];refine ForG.inv (P:=λi ρ G'=>(∃o4 o5,ρ=[some (.tup [.int w,.tup (rs.map aA)]),some (.str l),some (.int w),some (.tup (rs.map aA)),o4,o5])/\G'=G/\aV rs l=(aV (rs.drop i) l).map (·+i)) ⟨⟨_,_,rfl⟩,rfl,by simp⟩ (λ_ _ _ _=>trivial) ?_ ?_
 ·rintro i d ρ G' hd ⟨⟨o4,o5,rfl⟩,rfl,hmet⟩ kk hk;rw[iQ]at hd;obtain ⟨d',hd',rfl⟩:=ax.mp hd;rw[aE]at hd';obtain ⟨r,hr,rfl⟩:=ax.mp hd';have hrf:=(hb.form r (bP hr)).1;rw[Py hr]at hmet;simp_arith![ends];refine last ?_;simp_arith[h3,aA];refine cH (d:=.bl (dJ r.1 l)) (if_pos (a8 (by omega))) ?_;simp_arith[ends];cases hf:dJ r.1 l with
  |true=>
   rw[hf,if_pos rfl]at hmet;exact ⟨w,rs,l,rfl,by rw[hmet];simp[aP]⟩
  |false=>
   rw[hf,if_neg br]at hmet;refine hk _ _ ⟨⟨_,_,rfl⟩,rfl,?_⟩;rw[hmet,fF];congr 1;funext n;simp;omega
 ·rintro ρ G' ⟨⟨o4,o5,rfl⟩,rfl,hmet⟩;rw[iM,ag,dP]at hmet;refine hM _ _ ?_;simp_arith[ends];exact ⟨w,rs,l,rfl,by rw[hmet];rfl⟩
theorem afU (Φ:aa) (h1:Φ "need_book"=gf) (h2:Φ "is_word"=aM jU) (ds:List D) (G:DH) (C:String) (h:Q0 ds G C):aq Φ iV (λx G'=>x=⟨C,.non⟩/\G'=G) (env0 ds 4) G (ends λ_ _=>False):=by
 obtain ⟨rfl,w,rs,y,rfl,hb,hy,hz,hn⟩:=h;have hw6:=hb.w6;simp_all_arith[iV];refine seq λM hM=>?_;simp_arith[h1];refine jb hb (hM _ _ (seq λM hM=>?_));conv=>enter [4,1,1];rw[au]
 simp_arith[ends];refine hM _ _ (seq λM hM=>?_);simp_arith[h2];refine cH (d:=.bl false) (by rw[<-hn];exact if_pos (by rw[hy,hz];rfl)) ?_;simp_arith[fE,fe];unfold rz;rw[ae];exact ⟨a8 (by omega),a8 (by omega)⟩
structure DeS where
 q:Addr
 w:Nat
 as:List (List Row)
 rs:List Row
 l:List Nat
def afV:RF.Spec:=ghS (A:=DeS) (λa ds G=>ds=[oS a.q,.str a.l]/\svG ⟨a.q,a.w,a.as,a.rs⟩ G/\okW a.w a.l) (λa G d G'=>G'=G/\d=gh a.rs (aV a.rs a.l))
def Q3 (ds:List D) (G:DH) (C:String):Prop:=C="NoWord"/\∃(a:Sv) (y:D),ds=[oS a.q,y]/\svG a G/\gY a.w y
def nH:RF.Spec:=orG afV Q3
theorem afW{q:Addr}{w:Nat}{as:List (List Row)}{rs:List Row}{l:List Nat}{G:DH}{k:D->DH->Prop}{E:EK}(h:svG ⟨q,w,as,rs⟩ G)(hl:okW w l)(hk:k (gh rs (aV rs l)) G):nH.t [oS q,.str l] G k E:=QW (bT (⟨q,w,as,rs,l⟩:DeS) ⟨rfl,h,hl⟩ λd G' hx=>by
 obtain ⟨rfl,rfl⟩:=hx;exact hk)
theorem afX (Φ:aa) (h1:Φ "Sieve.book"=eG) (h2:Φ "met"=vL) (h3:Φ "deed_of"=mZ) (a:DeS) (ds:List D) (G:DH) (h:ds=[oS a.q,.str a.l]/\svG ⟨a.q,a.w,a.as,a.rs⟩ G/\okW a.w a.l):aq Φ iW noE (env0 ds 0) G (ends λd G'=>G'=G/\d=gh a.rs (aV a.rs a.l)):=by obtain ⟨q,w,as,rs,l⟩:=a;obtain ⟨rfl,hv,hl⟩:=h;have hb:=hv.2.2;dsimp only at hb hl hv ⊢;simp_arith[iW,oS,h1,h2,h3];refine ⟨di,dh hv ?_⟩;refine ⟨di,dh hv (QW (aem hb hl (Aa (λn hn=>Pz hn) ⟨rfl,rfl⟩)))⟩
theorem afY (Φ:aa) (h1:Φ "Sieve.book"=eG) (h2:Φ "met"=vL) (ds:List D) (G:DH) (C:String) (h:Q3 ds G C):aq Φ iW (λx G'=>x=⟨C,.non⟩/\G'=G) (env0 ds 0) G (ends λ_ _=>False):=by obtain ⟨rfl,⟨q,w,as,rs⟩,y,rfl,hv,hn⟩:=h;have hb:=hv.2.2;dsimp only at hb hn hv ⊢;simp_arith[iW,oS,h1,h2];refine ⟨di,dh hv ?_⟩;exact ⟨di,dh hv (QX ⟨rfl,w,rs,y,rfl,hb,hn⟩ ⟨rfl,rfl⟩)⟩
def vM:RF.Spec:=ghS (A:=Sv×D) (λa ds G=>ds=[oS a.1.q,a.2]/\svG a.1 G/\gY a.1.w a.2) (λ_ G d G'=>G'=G/\d=.bl true)
theorem Az{q:Addr}{w:Nat}{as:List (List Row)}{rs:List Row}{y:D}{G:DH}{k:D->DH->Prop}{E:EK}(h:svG ⟨q,w,as,rs⟩ G)(hn:gY w y)(hk:k (.bl true) G):vM.t [oS q,y] G k E:=bT ((⟨q,w,as,rs⟩,y):Sv×D) ⟨rfl,h,hn⟩ λd G' hx=>by
 obtain ⟨rfl,rfl⟩:=hx;exact hk
theorem Q4 {q:Addr}:cX "Sieve" "deed" (.obj "Sieve" "books" q):=⟨rfl,by ac_rfl⟩
theorem afZ {q:Addr}:cX "Sieve" "hidden" (.obj "Sieve" "books" q):=⟨rfl,by ac_rfl⟩
theorem af0 (Φ:aa) (h1:Φ "Sieve.deed"=nH) (a:Sv×D) (ds:List D) (G:DH) (h:ds=[oS a.1.q,a.2]/\svG a.1 G/\gY a.1.w a.2):aq Φ zL noE (env0 ds 1) G (ends λd G'=>G'=G/\d=.bl true):=by obtain ⟨a,y⟩:=a;obtain ⟨rfl,hv,hn⟩:=h;dsimp only at hv hn ⊢;simp_all_arith[zL,oS];refine seq λM hM=>?_;simp_arith[ends];refine hM _ _ (seq λM hM=>?_);simp_arith[h1];refine ⟨Q4,QX ⟨rfl,a,y,rfl,hv,hn⟩ ⟨rfl,by decide,by decide,?_⟩⟩;refine hM _ _ (last ?_);simp_arith[caught,fE]
def vN:RF.Spec:=ghS (A:=Sv) (λa ds G=>ds=[oS a.q]/\svG a G) (λa G d G'=>∃q,d=.ref q/\G q=none/\G' q=some (.lst ((fD a.rs).map nI))/\Sa G G')
theorem af1{q:Addr}{w:Nat}{as:List (List Row)}{rs:List Row}{G:DH}{k:D->DH->Prop}{E:EK}(h:svG ⟨q,w,as,rs⟩ G)(hk:∀q' G',G q'=none->G' q'=some (.lst ((fD rs).map nI))->Sa G G'->k (.ref q') G'):vN.t [oS q] G k E:=bT (⟨q,w,as,rs⟩:Sv) ⟨rfl,h⟩ λd G' hx=>by
 obtain ⟨q',rfl,h0,h1,h2⟩:=hx;exact hk q' G' h0 h1 h2
theorem af2 (Φ:aa) (h1:Φ "Sieve.book"=eG) (h2:Φ "hidden_reached"=j0) (a:Sv) (ds:List D) (G:DH) (h:ds=[oS a.q]/\svG a G):aq Φ zK noE (env0 ds 0) G (ends λd G'=>∃q,d=.ref q/\G q=none/\G' q=some (.lst ((fD a.rs).map nI))/\Sa G G'):=by obtain ⟨q,w,as,rs⟩:=a;obtain ⟨rfl,hv⟩:=h;have hb:=hv.2.2;dsimp only at hb ⊢;simp_arith[zK,oS,h1,h2];refine ⟨di,dh hv (afe hb λq' G' h0 g s=>?_)⟩;exact ⟨q',rfl,h0,g,s⟩
def vO:RF.Spec:=ghS (A:=Addr×Nat) (λa ds G=>ds=[.ref a.1,.int a.2]/\Pen G a.1/\1<=a.2/\a.2<=6) (λa G d G'=>∃ls:List (List Nat),d=.lst (ls.map D.str)/\(∀l∈ls,okW a.2 l)/\Pen G' a.1/\Sb a.1 G G')
theorem af3{p:Addr}{w:Nat}{G:DH}{k:D->DH->Prop}{E:EK}(hp:Pen G p)(h1:1<=w)(h6:w<=6)(hk:∀(ls:List (List Nat))(G':DH),(∀l∈ls,okW w l)->Pen G' p->Sb p G G'->k (.lst (ls.map D.str)) G'):vO.t [.ref p,.int (w:Nat)] G k E:=bT (p,w) ⟨rfl,hp,h1,h6⟩ λd G' hx=>by
 obtain ⟨ls,rfl,h1,h2,h3⟩:=hx;exact hk ls G' h1 h2 h3
theorem af4 (Φ:aa) (h1:Φ "_law_words"=mX) (h2:Φ "_law_signs"=iY) (a:Addr×Nat) (ds:List D) (G:DH) (h:ds=[.ref a.1,.int a.2]/\Pen G a.1/\1<=a.2/\a.2<=6):
  aq Φ zH noE (env0 ds 0) G (ends λd G'=>∃ls:List (List Nat),d=.lst (ls.map D.str)/\(∀l∈ls,okW a.2 l)/\Pen G' a.1/\Sb a.1 G G'):=by
 obtain ⟨p,w⟩:=a;obtain ⟨rfl,hp,hw1,hw6⟩:=h;dsimp only at hp hw1 hw6 ⊢;simp_all_arith[zH];refine seq λM hM=>?_;simp_arith[h1];by_cases hw:w < 6
 ·simp_arith[a8 (show (w:Int) < 6 by omega),cy,PK];repeat refine af (by first |omega |have hsz:sz=1000000:=rfl;omega) ?_
  refine Pk (by rw[cr];omega) λG' sa=>?_;exact ⟨_,rfl,λl hl=>aeq.mp (gR.mp hl),hp.sa sa,sa.sb⟩
 ·simp_arith[ck (show ¬(w:Int) < 6 by omega)];refine hM _ _ (last ?_);simp_arith[h2];refine ⟨by decide,CompG.inv (P:=λi acc ρ G'=>(∃o,ρ=[o,some (.ref p),some (.int w)])/\Pen G' p/\Sb p G G'/\∃ls:List (List Nat),acc=ls.map D.str/\∀l∈ls,okW w l) ⟨⟨_,rfl⟩,hp,Sb.refl _ _,[],rfl,by simp⟩ (λ_ _ _ _ _=>trivial) (by decide) ?_ ?_⟩
  ·rintro i d acc ρ G1 hd ⟨⟨o,rfl⟩,hp1,sb1,ls,rfl,hall⟩ kk hk;simp_arith[h2];refine zW hp1 (by omega) (by decide) (by decide) λl G2 hl2 hc hp2 sb2=>?_;refine hk _ _ _ ⟨⟨_,rfl⟩,hp2,sb1.trans sb2,ls++[l],by simp,λx hx=>?_⟩;rcases ba.mp hx with hx |hx
   ·exact hall x hx
   ·rw[aT.mp hx];exact ⟨hl2,λc hc'=>by simpa using hc c hc'⟩
  ·rintro acc ρ G1 ⟨⟨o,rfl⟩,hp1,sb1,ls,rfl,hall⟩;exact ⟨ls,rfl,hall,hp1,sb1⟩
def vP(rs:List Row)(n:Nat):Bool:=match rs[n]? with |some r=>(bN rs n r.1).isEmpty |none=>false
theorem af5{rs:List Row}{i:Nat}{r:Row}(h:rs[i]?=some r):((List.range (i+1)).filter (vP rs))=((List.range i).filter (vP rs))++(if (bN rs i r.1).isEmpty then [i] else []):=Qw h
def Ba(n:Nat)(ds:List D)(G:DH):Prop:=(0 < n/\∃o:Option (List Nat),ds=[bH o,bH o])\/(0 < n/\∃i:Nat,ds=[nI i,nI i])\/(1 < n/\∃(p:Addr)(l:List Nat),ds=[.ref p,.lst (l.map nI)]/\G p=some (.lst (l.map nI))/\l.length<=100000)
def fH(n:Nat):RF.Spec:=bz (Ba n) (λ_ G d G'=>G'=G/\d=.bl true)
theorem Bb{n:Nat}{ds:List D}{G:DH}{k:D->DH->Prop}{E:EK}(h:Ba n ds G)(hk:k (.bl true) G):(fH n).t ds G k E:=
 bM h λd G' h=>by obtain ⟨e1,e2⟩:=h;subst e1 e2;exact hk
theorem af6 (Φ:aa) (n:Nat) (h1:Φ "_law_same"=fH n) (ds:List D) (G:DH) (h:Ba (n+1) ds G):aq Φ jR noE (env0 ds 0) G (ends λd G'=>G'=G/\d=.bl true):=by
 rcases h with ⟨_,o,rfl⟩ |⟨_,i,rfl⟩ |⟨hn,p,l,rfl,ep,hl⟩
 ·cases o with
  |none=>simp_arith[jR,bH]
  |some l=>simp_arith[jR,bH,BEq.rfl]
 ·simp_arith[jR,nI,BEq.rfl]
 ·simp_arith[jR,bR ep,Ma ep];simp_arith[bne_self_eq_false,BEq.rfl,bR ep,Ma ep];refine CompG.inv (P:=λi acc ρ G'=>(∃o1 o2,ρ=[o1,o2])/\G'=G/\acc=List.replicate i (.bl true)) ⟨⟨_,_,rfl⟩,rfl,rfl⟩ (λ_ _ _ _ p=>by rw[p.2.1];exact ⟨ep,trivial⟩) (by rw[uK,ag];have hsz:sz=1000000:=rfl;omega) ?_ ?_
  ·rintro i d acc ρ G' hd' ⟨⟨o1,o2,rfl⟩,rfl,rfl⟩ kk hk;obtain ⟨a,b,q1,q2,rfl⟩:=yN _ _ i d hd';rw[q1]at q2;cases q2;rw[aE]at q1;obtain ⟨j,_,rfl⟩:=ax.mp q1;simp_arith[h1];exact Bb (.inr (.inl ⟨by omega,j,rfl⟩)) (hk _ _ _ ⟨⟨_,_,rfl⟩,rfl,List.replicate_succ'.symm⟩)
  ·rintro acc ρ G' ⟨_,rfl,rfl⟩;rw[adW,adX,adY];simp
theorem af7(ds:List D)(G:DH)(a:(fH 0).A):¬(fH 0).pre ds G a:=λh=>by
 rcases h.2 with ⟨h,_⟩ |⟨h,_⟩ |⟨h,_⟩ <;> omega
structure FR61(Φ:aa):Prop where
 some:Φ "_law_some_words"=vO
 same:Φ "_law_same"=fH 2
 sdeed:Φ "Sieve.deed"=nH
 ldeed:Φ "_law_deed"=vA
 signs:Φ "_law_signs"=iY
 nowd:Φ "_law_no_word"=vM
 under:Φ "_law_under"=vp
 shid:Φ "Sieve.hidden"=vN
def Q5(a:Addr×Sv)(ds:List D)(G:DH):Prop:=ds=[.ref a.1,oS a.2.q,au a.2.w a.2.rs]/\Pen G a.1/\svG a.2 G/\a.2.q≠a.1
def Q6(a:Addr×Sv)(G:DH)(d:D)(G':DH):Prop:=d=.bl true/\Pen G' a.1/\Sb a.1 G G'
def vQ:RF.Spec:=ghS (A:=Addr×Sv) Q5 Q6
theorem Q7{p q:Addr}{w:Nat}{as:List (List Row)}{rs:List Row}{G:DH}{k:D->DH->Prop}{E:EK}(hp:Pen G p)(hv:svG ⟨q,w,as,rs⟩ G)(hq:q≠p)(hk:∀G',Pen G' p->Sb p G G'->k (.bl true) G'):vQ.t [.ref p,oS q,au w rs] G k E:=bT ((p,⟨q,w,as,rs⟩):Addr×Sv) ⟨rfl,hp,hv,hq⟩ λd G' hx=>by
 obtain ⟨rfl,h1,h2⟩:=hx;exact hk G' h1 h2
theorem af8(Φ:aa)(F:FR61 Φ)(a:Addr×Sv)(ds:List D)(G:DH)(h:Q5 a ds G):aq Φ zM noE (env0 ds 4) G (ends λd G'=>Q6 a G d G'):=by
 obtain ⟨p,q,w,as,rs⟩:=a;obtain ⟨rfl,hp,hv,hqp⟩:=h;have hb:=hv.2.2;dsimp only at hp hv hqp hb ⊢;have hw1:=hb.w1;have hw6:=hb.w6;have hlen:=hb.len;have e0:au w rs=.tup [.int w,.tup (rs.map aA)]:=rfl;have svb:∀{Ga Gb:DH},svG ⟨q,w,as,rs⟩ Ga->Sb p Ga Gb->svG ⟨q,w,as,rs⟩ Gb:=λh s=>⟨s _ _ h.1 hqp,h.2⟩;simp_all_arith[zM,oS,e0];refine seq λM hM=>?_;simp_arith![F.some];refine af3 hp hw1 hw6 λls G1 hls hp1 sb1=>?_;simp_arith![ends];have hv1:=svb hv sb1;refine ForG.inv (P:=λi ρ G'=>(∃o3 o4 o5 o6,ρ=[some (.ref p),some (.obj "Sieve" "books" q),some (.tup [.int w,.tup (rs.map aA)]),o3,o4,o5,o6])/\G'=G1) ⟨⟨_,_,_,_,rfl⟩,rfl⟩ (λ_ _ _ _=>trivial) ?_ ?_
 ·rintro i d ρ G2 hd ⟨⟨o3,o4,o5,o6,rfl⟩,rfl⟩ kk hk;obtain ⟨l,hl,rfl⟩:=b6.mp (bP hd);have hw:=hls l hl;simp_arith![ends];refine last ?_;simp_arith[F.same,F.sdeed,F.ldeed];refine ⟨Q4,afW hv1 hw ?_⟩;rw[<-e0];refine afo (λr hr=>by rw[(hb.form r hr).1,hw.1]) ?_;rw[Ai];refine Bb (.inl ⟨by decide,_,rfl⟩) ?_;simp_arith[ends];exact hk _ _ ⟨⟨_,_,_,_,rfl⟩,rfl⟩
 rintro ρ G2 ⟨⟨o3,o4,o5,o6,rfl⟩,rfl⟩;refine hM _ _ (seq λM hM=>?_);simp_arith[F.signs];refine zW hp1 (by omega) (by decide) (by decide) λl G3 hl hc hp3 sb3=>hM _ _ (seq λM hM=>?_);have hv3:=svb hv1 sb3;have hcl:(cut l (some 1) none).length<=6:=by have:=yU l (some 1) none;omega
 have n1:gY w (.str (l++[48])):=⟨rfl,by unfold szd;exact a8 (by simp;omega),by show (decide (((l++[48]).length:Int)=w)&&_)=false;rw[ck (by simp;omega)];rfl⟩;have n2:gY w (.str (42::cut l (some 1) none)):=⟨rfl,by unfold szd;exact a8 (by rw[cf];omega),by unfold isText;rw[Bool.and_eq_false_iff];exact .inr rfl⟩;have n3:gY w .non:=⟨rfl,rfl,rfl⟩;simp_arith[F.nowd];refine ⟨by have hsz:sz=1000000:=rfl;omega,Az hv3 n1 ?_⟩;simp_arith[ends];refine ⟨by have hsz:sz=1000000:=rfl;omega,Az hv3 n2 ?_⟩;simp_arith[ends];refine Az hv3 n3 ?_;simp_arith[ends];refine hM _ _ (seq λM hM=>?_);simp_arith[ag];refine ⟨by omega,CompG.inv (P:=λi acc ρ G'=>(∃o,ρ=[o,some (.tup [.int w,.tup (rs.map aA)])])/\Sa G3 G'/\acc=((List.range i).filter (vP rs)).map nI) ⟨⟨_,rfl⟩,Sa.refl _,rfl⟩ (λ_ _ _ _ _=>trivial) (by simp[aW];have hsz:sz=1000000:=rfl;omega) ?_ ?_⟩
 ·rintro i d acc ρ G' hd ⟨⟨o,rfl⟩,sa,rfl⟩ kk' hk';have hi:i < rs.length:=by
   have:=(am.mp hd).1;simpa [aW] using this
  have hdi:d=.int (i:Int):=by unfold aW at hd;rw[aE,List.getElem?_range (by simpa using hi)]at hd;simpa using hd.symm
  subst hdi;have hc:rs[i]?=some rs[i]:=aS hi;have ht:=af5 hc;simp_arith[F.under];rw[<-e0];refine ae7 hb hc λG5 sa5=>?_;cases hf:bN rs i rs[i].1 with
  |nil=>
   simp_arith[dk];exact ⟨by decide,hk' _ _ _ ⟨⟨_,rfl⟩,sa.trans sa5,by rw[ht,hf];simp[nI]⟩⟩
  |cons l ls=>
   simp_arith[bo];exact ⟨⟨by rw[O3];rfl,bv (d6 _ _) (by decide)⟩,hk' _ _ _ ⟨⟨_,rfl⟩,sa.trans sa5,by rw[ht,hf];simp[nI]⟩⟩
 ·rintro acc ρ G5 ⟨_,sa5,rfl⟩;have el:((List.range (aW 0 (rs.length:Int).toNat).length).filter (vP rs))=fD rs:=by simp only[aW,ag,List.length_range,cy];rfl
  have hp5:=hp3.sa sa5;have sb5:Sb p G G5:=(sb1.trans sb3).trans sa5.sb;refine hM _ _ (seq λM hM=>?_);simp_arith![ends];refine ⟨by decide,ForG.inv (P:=λi ρ G'=>(∃o5 o6,ρ=[some (.ref p),some (.obj "Sieve" "books" q),some (.tup [.int w,.tup (rs.map aA)]),some (.str l),some (.lst ((fD rs).map nI)),o5,o6])/\Pen G' p/\Sb p G G') ⟨⟨_,_,by rw[<-el]⟩,hp5,sb5⟩ (λ_ _ _ _=>trivial) ?_ ?_⟩
  ·rintro i d ρ G6 hd ⟨⟨o5,o6,rfl⟩,hp6,sb6⟩ kk' hk';simp_arith![ends];refine seq λM hM=>?_;simp_arith[F.shid];refine ⟨afZ,af1 (svb hv sb6) λq' G7 hq gq sa7=>hM _ _ (seq λM hM=>?_)⟩;have hpq:p≠q':=hp6.ne hq;simp_arith[F.same];refine Bb (.inr (.inr ⟨by decide,q',_,rfl,gq,by have:=Qx rs;omega⟩)) ?_;simp_arith[ends];refine hM _ _ (last ?_);simp_arith[bZ gq,ag];have:=Qx rs;exact ⟨by have hsz:sz=1000000:=rfl;omega,hk' _ _ ⟨⟨_,_,rfl⟩,(hp6.sa sa7).sb Sb.upd hpq,sb6.trans (sa7.then hq Sb.upd).sb⟩⟩
  ·rintro ρ G6 ⟨⟨o5,o6,rfl⟩,hp6,sb6⟩;refine hM _ _ (last ?_);simp_arith[ends];exact ⟨rfl,hp6,sb6⟩
structure F61(Φ:aa):Prop where
 opn:Φ "_law_open"=zQ
 anew:Φ "_law_anew"=uX
 take:Φ "_law_take"=dw
 layer:Φ "_law_layered_book"=vq
 make:Φ "Sieve"=nF
 rt:Φ "_law_right"=vQ
 chg:Φ "_law_drawn_change"=vJ
 do_:Φ "_law_do"=sDo
 eld:Φ "_law_elder"=vK
theorem af9(Φ:aa)(F:F61 Φ)(ds:List D)(G:DH)(h:∃ns:List Int,ds=[.scr ns]/\ns.length<=63):aq Φ zN noE (env0 ds 11) G (ends λd _=>d=.bl true):=by
 obtain ⟨ns,rfl,hl⟩:=h;simp_all_arith[zN];refine seq λM hM=>?_;simp_arith[F.opn];refine bM ⟨ns,rfl,hl⟩ λd' G1 hx=>?_;obtain ⟨p,e1,_,hp,_⟩:=hx;subst e1;refine hM _ _ (seq λM hM=>?_);simp_arith![ends];refine ⟨by decide,ForG.inv (P:=λi ρ G'=>(∃o2 o3 o4 o5 o6 o7 o8 o9 o10 o11,ρ=[some (.scr ns),some (.ref p),o2,o3,o4,o5,o6,o7,o8,o9,o10,o11])/\Pen G' p) ⟨⟨_,_,_,_,_,_,_,_,_,_,rfl⟩,hp⟩ (λ_ _ _ _=>trivial) ?_ ?_⟩
 ·rintro i d ρ G2 hd ⟨⟨o2,o3,o4,o5,o6,o7,o8,o9,o10,o11,rfl⟩,hp2⟩ kk hk;unfold aW at hd;rw[aE]at hd;obtain ⟨j,hj,rfl⟩:=ax.mp hd;have hj2:j < 2:=by
   have:=bP hj;simpa using this
  obtain ⟨w0,hw0,ew⟩:∃a:Nat,(1<=a/\a<=6)/\atI [D.int 5,D.int 6] (0+(j:Int))=some (.int (a:Int)):=by
   have:j=0\/j=1:=by omega
   rcases this with rfl |rfl
   ·exact ⟨5,by decide,rfl⟩
   ·exact ⟨6,by decide,rfl⟩
  simp_arith![ends];refine seq λM hM=>?_;simp_arith[F.anew,F.layer];refine aer hp2 λG3 hp3 _=>?_;refine ⟨by decide,bG ew ?_⟩;refine afa hp3 hw0.1 hw0.2 λw rs G4 hb hp4 _=>hM _ _ (seq λM hM=>?_);simp_arith[F.make];refine afA hb λq hq=>hM _ _ (seq λM hM=>?_);have hqp:q≠p:=(hp4.ne hq).symm;have e0:∀xs:List Row,au w xs=.tup [.int w,.tup (xs.map aA)]:=λ_=>rfl;simp_arith[e0];refine hM _ _ (seq λM hM=>?_);simp_arith[ends];refine hM _ _ (seq λM hM=>?_);simp_arith[ends];refine hM _ _ (seq λM hM=>?_);have hp5:Pen (aK G4 q (.lst (stk w [rs]))) p:=hp4.sa (Sa.new hq);simp_arith![F.take];refine bD hp5 (by decide) (by decide) λt G5 ht hp6 sb6=>?_;have g6:=sb6 _ _ (bf (G:=G4) (a:=q) (o:=.lst (stk w [rs]))) hqp;simp_arith![ends];refine ⟨by omega,ForG.inv (P:=λi ρ G'=>∃as rs' o8 o9 o10 o11,ρ=[some (.scr ns),some (.ref p),some (.int (0+(j:Int))),some (au w rs),some (oS q),some (.int (w:Int)),some (lR rs'),some (.lst (as.map lR)),o8,o9,o10,o11]/\Pen G' p/\G' q=some (.lst (stk w (as++[rs'])))/\as.length<=i/\i<=10/\okB w rs'/\∀x∈as,okB w x) ⟨[],rs,_,_,_,_,rfl,hp6,g6,ay _,by decide,hb,λx hx=>nomatch hx⟩ (λ_ _ _ _=>trivial) ?_ ?_⟩
  ·rintro i8 d8 ρ G6 hd8 ⟨as,rs',o8,o9,o10,o11,rfl,hp7,g7,hal,_,hb7,has⟩ kk8 hk8;have hi8:i8 < 10:=by
    have:=(am.mp hd8).1;unfold aW at this;rw[ag,List.length_range]at this;omega
   simp_arith![ends];refine seq λM hM=>?_;simp_arith[F.rt,lR];rw[<-e0];refine ⟨by decide,Q7 hp7 ⟨g7,by dsimp only;omega,hb7⟩ hqp λG7 hp8 sb8=>?_⟩;simp_arith[ends];refine hM _ _ (seq λM hM=>?_);have g8:=sb8 _ _ g7 hqp;simp_arith[F.chg];refine afE (rs:=rs') hp8 hb7 λwd pc bs G9 hc hp9 sb9=>?_;have g9:=sb9 _ _ g8 hqp;obtain ⟨hbs,hels,hell⟩:=afG hb7 has hc;simp_arith[ends];refine hM _ _ (seq λM hM=>?_);simp_arith[F.do_];refine afH (q:=q) (rs:=rs') ⟨g9,by dsimp only;omega,hb7⟩ (by omega) has hc (hM _ _ (seq λM hM=>?_));have hp10:Pen (aK G9 q (.lst (stk w (elN wd as rs'++[bs])))) p:=hp9.sb Sb.upd hqp.symm;have g10:(aK G9 q (.lst (stk w (elN wd as rs'++[bs])))) q=some (.lst (stk w (elN wd as rs'++[bs]))):=bf;generalize aK G9 q (.lst (stk w (elN wd as rs'++[bs])))=G10 at hp10 g10 ⊢;simp_arith[F.eld];refine afN (rs:=rs') (by omega) (afQ hc) (hM _ _ (last ?_));simp_arith[ends];exact hk8 _ _ ⟨elN wd as rs',bs,_,_,_,_,rfl,hp10,g10,by omega,by omega,hbs,hels⟩
  ·rintro ρ G6 ⟨as,rs',o8,o9,o10,o11,rfl,hp7,g7,hal,hi10,hb7,has⟩;refine hM _ _ (last ?_);simp_arith[F.rt,lR];rw[<-e0];refine ⟨by decide,Q7 hp7 ⟨g7,by dsimp only;omega,hb7⟩ hqp λG7 hp8 sb8=>?_⟩;simp_arith[ends];exact hk _ _ ⟨⟨_,_,_,_,_,_,_,_,_,_,rfl⟩,hp8⟩
 ·rintro ρ G2 ⟨_,hp2⟩;refine hM _ _ (last ?_);simp_arith[ends]
end RF
namespace HD
open PySem PySem.W
def sv(x:Str)(t:Nat):Value:=.str x t
def ri(n:Nat):Value:=.int n 0
def gZ (l:List Value):Obj:=⟨.type "tuple",none,.seq ⟨l⟩ 0,⟨[]⟩⟩
def fJ(c:Value)(l:List Value):Obj:=⟨c,none,.fields ⟨l⟩,⟨[]⟩⟩
def nJ:Str:="/claim/cut.py"
noncomputable def Bc(n q:Str)(ln ac fl a b:Nat)(isf:Bool)(l1 l2 tm:Value)(t t2:Nat):Obj:=
 fJ (.type "code") [sv n t,sv q (t+1),sv nJ (t+2),ri ln,ri ac,ri 0,ri 0,ri fl,.ref a,.bool isf,ri 181,.ref b,.none,l1,l2,tm,ri t2,ri ln,sv nJ (t2+1)]
def toks(t:Nat):List Str->List Value
 |[]=>[]
 |x::r=>sv x t::toks (t+1) r
def fdO(n q:Str)(p:Arguments)(b:List Stmt)(sc:Scope)(g:Nat)(md cd:Value):Data:=
 .func { name:=n,qualname:=q,params:=p,body:=.stmts b,scope:=sc,globals:=g,closure:=[],defaults:=.none,kwdefaults:=.none,pyModule:=md,code:=cd }
def enO(P:Params)(k:Str)(t:Nat)(v:Value):DictEntry:={ hash:=PyData.keyHash P k,key:=sv k t,val:=v }
def nM (l:List DictEntry) (e:Nat):Obj:=⟨.type "dict",none,.dict ⟨l⟩ e,⟨[]⟩⟩
noncomputable def frO (c l:Nat) (md:Value):Obj:=⟨.type "frame",none,.plain,⟨[some (.ref c),some (.ref 3),some (.ref l),none,some md,none,some (.ref 0)]⟩⟩
def bfO (s:String) (v:Value):Obj:=fJ (.type "builtin_function_or_method") [.builtin s,v]
def veM:List Value:=[.type "ValueError",.type "Exception",.type "BaseException",.type "object"]
def vR (b:Expr):Bool:=match b with |.Name n _=>n==("ValueError":Str) |_=>false
noncomputable def fnO(q:Str)(a t:Nat)(md:Value)(n:Str)(p:Arguments)(b:List Stmt)(sc:Scope)(ln:Nat):List Obj:=match localNames p sc (.stmts b) with
 |some l=>[gZ [],fJ .none [],gZ (toks (t+3) l.1),gZ [],⟨.none,none,fdO n q p b sc 0 .none .none,⟨[]⟩⟩,
   Bc n q ln p.args.length 3 a (a+1) true (.ref (a+2)) (.ref (a+3)) (.ref (a+4)) t (t+3+l.1.length),⟨.type "function",none,fdO n q p b sc 3 md (.ref (a+5)),⟨[]⟩⟩]
 |none=>[gZ [],fJ .none [],⟨.none,none,fdO n q p b sc 0 .none .none,⟨[]⟩⟩,
   Bc n q ln p.args.length 3 a (a+1) true .none .none (.ref (a+2)) t (t+3),⟨.type "function",none,fdO n q p b sc 3 md (.ref (a+3)),⟨[]⟩⟩]
noncomputable def fnA(p:Arguments)(b:List Stmt)(sc:Scope):Nat:=match localNames p sc (.stmts b) with |some _=>7 |none=>5
noncomputable def fnT(p:Arguments)(b:List Stmt)(sc:Scope):Nat:=match localNames p sc (.stmts b) with |some l=>l.1.length+5 |none=>5
def dot:Str:="."
structure MO where
 os:List Obj
 es:List DictEntry
 cs:List Value
 a:Nat
 t:Nat
noncomputable def vU(P:Params)(c:Str)(md:Value):List Stmt->Nat->Nat->MO
 |.FunctionDef n p b _ _ _ sc _ _ pos::r,a,t=>
  let m:=vU P c md r (a+fnA p b sc) (t+fnT p b sc+1)
  ⟨fnO (c++dot++n) a t md n p b sc pos.line++m.os,enO P n (t+fnT p b sc) (.ref (a+fnA p b sc - 1))::m.es,ri pos.line::ri pos.col::.ref (a+fnA p b sc - 2)::m.cs,m.a,m.t⟩
 |_::r,a,t=>vU P c md r a t
 |[],a,t=>⟨[],[],[],a,t⟩
def clA(P:Params)(a:Nat)(b:List Stmt):Nat:=(vU P dot .none b (a+7) 0).a+2
noncomputable def stO(P:Params)(r:Nat)(sub:List Value)(a t:Nat)(md:Value)(s:Stmt):List Obj:=match s with
 |.FunctionDef n p b _ _ _ sc _ _ pos=>fnO n a t md n p b sc pos.line
 |.ClassDef n bs _ body _ _ _ _ _ st pos=>
  let m:=vU P n md body (a+7) (t+12)
  let c:=m.a+2
  let u:=m.t+st.length
  let d1:=[enO P "__module__" (t+7) md]
  let d2:=enO P "__firstlineno__" (t+11) (.int pos.line (t+10))::m.es++[enO P "__static_attributes__" u (.ref m.a)]
  let b:List Value:=match bs with |b::_=>(match vR b with |true=>[.type "ValueError"] |false=>[.ref r]) |[]=>[]
  let own:Bool:=match bs with |[]=>true |_=>false
  let ve:Bool:=match bs with |b::_=>vR b |[]=>false
  let wr (v:Nat):Obj:=fJ (.type "getset_descriptor") [sv "__weakref__" v,.ref c,.builtin "ExceptionGroup.__weakref__",.none]
  let typ (mro:List Value) (sub:List Value) (nw:String):Obj:=
   ⟨.type "type",none,.cls { name:=n,bases:=(match own with |true=>[.type "object"] |false=>b),mro:=.ref c::mro,ns:=m.a+1,qualname:=n,subclasses:=sub },
    ⟨[(match own with |true=>none |false=>some (.ref a)),none,some (sv n t),some (sv n (t+8)),some (.builtin nw),some (.bool true)]⟩⟩
  [gZ b,bfO "type.__prepare__" (.type "type"),nM (d1++enO P "__qualname__" (t+9) (sv n (t+8))::d2) (4+m.es.length),gZ [],fJ .none m.cs,
   Bc n n pos.line 0 0 (a+3) (a+4) false .none .none .none (t+2) (t+5),frO (a+5) (a+2) md]++m.os++[gZ (toks m.t st)] ++
  (match own with
  |true=>[nM (d1++d2++[enO P "__dict__" (u+2) (.ref (c+1)),enO P "__weakref__" (u+4) (.ref (c+2)),enO P "__doc__" (u+5) .none]) 4,typ [.type "object"] [] "object.__new__",
    fJ (.type "getset_descriptor") [sv "__dict__" (u+1),.ref c,.builtin "function.__dict__",.builtin "function.__dict__#set"],wr (u+3)]
  |false=>(match ve with
   |true=>[nM (d1++d2++[enO P "__weakref__" (u+2) (.ref (c+1)),enO P "__doc__" (u+3) .none]) 3,typ veM sub "ValueError.__new__",wr (u+1)]
   |false=>[nM (d1++d2++[enO P "__doc__" (u+1) .none]) 2,typ (.ref r::veM) [] "ValueError.__new__"])) ++
  [fJ (.type "super") [.ref c,.ref c,.ref c],bfO "object.__init_subclass__" (.ref c)]
 |_=>[]
noncomputable def mdO(t:Nat)(md:Value)(s:Stmt):Value:=match s with
 |.Assign [.Name n _] (.Constant (.str x) _ _) _=>(match n==("__name__":Str) with |true=>sv x t |false=>md)
 |_=>md
noncomputable def enS(P:Params)(lk:Str->Value)(t u a a':Nat)(s:Stmt):List DictEntry:=match s with
 |.Assign [.Name n _] (.Name y _) _=>[enO P n t (lk y)]
 |.FunctionDef n _ _ _ _ _ _ _ _ _=>[enO P n (u-1) (.ref (a'-1))]
 |.ClassDef n _ _ b _ _ _ _ _ _ _=>[enO P n (u-1) (.ref (clA P a b))]
 |.Assign [.Name n _] (.Constant c _ _) _=>(match n==("__name__":Str) with
  |true=>[]
  |false=>[enO P n (t+1) (match c with |.int i=>.int i t |.str x=>sv x t |_=>.none)])
 |_=>[]
noncomputable def fnS(a':Nat)(s:Stmt):List (Str×Value):=match s with
 |.FunctionDef n _ _ _ _ _ _ _ _ _=>[(n,.ref (a'-1))]
 |_=>[]
noncomputable def cdS(a a':Nat)(s:Stmt):List Value:=match s with
 |.FunctionDef _ _ _ _ _ _ _ _ _ pos=>[ri pos.line,ri pos.col,.ref (a'-2)]
 |.ClassDef _ _ _ _ _ _ _ _ _ _ pos=>[ri pos.line,ri pos.col,.ref (a+5)]
 |_=>[]
noncomputable def sbS(P:Params)(a:Nat)(s:Stmt):List Value:=match s with
 |.ClassDef _ bs _ b0 _ _ _ _ _ _ _=>(match bs with |b::_=>(match vR b with |true=>[] |false=>[.ref (clA P a b0)]) |[]=>[])
 |_=>[]
noncomputable def aga(P:Params)(a:Nat)(s:Stmt):List Nat:=match s with
 |.ClassDef _ bs _ b0 _ _ _ _ _ _ _=>(match bs with |b::_=>(match vR b with |true=>[clA P a b0] |false=>[]) |[]=>[])
 |_=>[]
noncomputable def fold{α:Type}(f:Nat->Nat->Nat->Nat->Value->Stmt->List α):List (Nat×Nat)->Value->List Stmt->List α
 | (a,t)::(a',u)::r,md,s::ss=>f a a' t u md s++fold f ((a',u)::r) (mdO t md s) ss
 |_,_,_=>[]
def Q8:List (Nat×Nat)->Value->List Stmt->Value
 | (_,t)::r,md,s::ss=>Q8 r (mdO t md s) ss
 |_,md,_=>md
def ie:Value:=sv "__main__" 164
noncomputable def agb(P:Params)(v:Value):List DictEntry:=
 [enO P "__name__" 165 v,enO P "__doc__" 166 .none,enO P "__package__" 167 .none,enO P "__loader__" 168 (.builtin "__main__.__loader__#opaque"),enO P "__spec__" 169 .none,
  enO P "__annotations__" 170 (.ref 6),enO P "__builtins__" 171 (.ref 4),enO P "__file__" 173 (sv nJ 172),enO P "__cached__" 174 .none]
noncomputable def ents(N:List (Nat×Nat))(b:List Stmt)(P:Params):List DictEntry:=agb P (Q8 N ie b)++fold (λa a' t u _ s=>enS P (λy=>((fold (λ_ a' _ _ _ s=>fnS a' s) N ie b).lookup y).getD .none) t u a a' s) N ie b
def put{α:Type}:Nat->α->List α->List α
 |_,_,[]=>[]
 |0,x,_::r=>x::r
 |n+1,x,y::r=>y::put n x r
noncomputable def Q9(cs:List Value):List Obj:=[gZ [],fJ .none cs,
 fJ (.type "code") [sv "<module>" 182,sv "<module>" 183,sv nJ 184,ri 1,ri 0,ri 0,ri 0,ri 0,.ref 11,.bool false,ri 181,.ref 12,.none,.none,.none,.none,ri 185,ri 1,sv nJ 186],frO 13 3 ie]
def agc(B:List Obj):List Obj:=B++Q9 []
noncomputable def objs(B:List Obj)(N:List (Nat×Nat))(b:List Stmt)(P:Params):List Obj:=
 let es:=ents N b P
 put 3 (nM es es.length) (B++Q9 (fold (λa a' _ _ _ s=>cdS a a' s) N ie b) ++
  fold (λa _ t _ md s=>stO P ((fold (λa _ _ _ _ s=>aga P a s) N ie b).headD 0) (fold (λa _ _ _ _ s=>sbS P a s) N ie b) a t md s) N ie b)
def evs{α:Type}:List α->List α
 |[]=>[]
 |[x]=>[x]
 |x::_::r=>x::evs r
noncomputable def bt:Nat->List Obj->BT
 |0,_=>.nil
 |_,[]=>.nil
 |n+1,x::r=>.node x (bt n (evs r)) (bt n (evs r.tail))
def nameless(s:Stmt):Bool:=match s with
 |.Assign [.Name n _] _ _=>!(n==("__name__":Str))
 |_=>true
noncomputable def pick:Nat->List Nat->List Obj->Frag
 |i,a::r,o::os=>(match Nat.beq a i with |true=>(a,o)::pick (i+1) r os |false=>pick (i+1) (a::r) os)
 |_,_,_=>[]
end HD
def PySem.W.Fast.tw9050126313396086969:PySem.Program:=PySem.Challenge.pw_starsieve_k61_what_a_sieve_tells
theorem PySem.W.Fast.te9050126313396086969:PySem.Challenge.pw_starsieve_k61_what_a_sieve_tells=PySem.W.Fast.tw9050126313396086969:=rfl
namespace HK
open PySem PySem.W PySem.W.Fast
def pw:Program:=PySem.Challenge.pw_starsieve_k61_what_a_sieve_tells
def rl:OpenLaw:=PySem.Challenge.rw_starsieve_k61_what_a_sieve_tells
noncomputable def NN:List (Nat×Nat):=[(15,187),(15,189),(28,207),(40,223),(52,239),(64,255),(76,271),(88,287),(100,303),(112,319),(112,321),(112,323),(119,330),(126,337),(133,345),(138,351),(145,359),(152,367),(157,373),(164,382),(171,393),(178,400),(178,402),(178,404),(178,406),(178,408),(183,414),(190,422),(195,428),(202,435),(209,443),(216,451),(223,463),(230,471),(230,473),(237,480),(244,489),(251,500),(258,510),(265,521),(270,527),(270,529),(277,538),(282,544),(289,554),(289,556),(296,566),(296,568),(301,574),(306,580),(306,581),(306,583),(383,682),(383,684),(390,695),(397,705),(404,712),(411,723),(416,729),(423,737),(430,747),(437,757),(444,769),(449,775),(456,789),(461,795),(468,805),(475,815),(482,824),(487,830),(492,836),(499,854),(504,860),(511,876),(518,885),(525,894),(530,900),(537,909),(542,915),(549,933)]
def L1(P:Params):List Obj:=HD.objs (boot_heap P).objs.toList NN pw.main.body P
def H1(P:Params):Heap:=⟨⟨L1 P⟩,{}⟩
def T1(P:Params):BT:=HD.bt 12 (L1 P)
def LA(P:Params):List Obj:=HD.agc (boot_heap P).objs.toList
def HA(P:Params):Heap:=⟨⟨LA P⟩,{}⟩
def T0(P:Params):BT:=HD.bt 5 (LA P)
def env:Env:={ scope:=pw.main.scope,locals:=mainNs,globals:=mainNs,cells:=[],code:=.ref 13,frame:=some 14 }
def bE:List Stmt:=behindTheImports pw
def cE:Code:=.body bE env
def p0:Pos:=⟨0,0,0,0⟩
def B:List Frame:=[topFrame p0]
def ann:Option Value:=some (.ref 6)
def qv:Program:={ pw with main:={ pw.main with body:=pw.main.body.filter HD.nameless } }
noncomputable def as:List Nat:=[3,23,24,36,37,48,49,60,61,72,73,84,85,96,97,108,109,117,118,124,125,131,132,136,137,143,144,150,151,155,156,162,163,169,170,176,177,181,182,188,189,193,194,200,201,207,208,214,215,221,222,228,229,235,236,242,243,249,250,256,257,263,264,268,269,275,276,280,281,287,288,294,295,299,300,304,305,318,319,325,326,332,333,339,340,346,347,353,354,360,361,367,368,374,375,377,378,388,389,395,396,402,403,409,410,414,415,421,422,428,429,435,436,442,443,447,448,454,455,459,460,466,467,473,474,480,481,485,486,490,491,497,498,502,503,509,510,516,517,523,524,528,529,535,536,540,541,547,548]
def K(P:Params):Frag:=HD.pick 0 as (L1 P)
def Xt(s:Shared):Bool:=xlAt qv [] s&&recOk (RowW.records rl.row.toRowW) s
def see{α:Type}(_:α):Bool:=true
theorem primed:(see T1&&see T0&&see H1&&see HA&&see cE&&see B&&see env&&see bE&&see qv&&see K&&see Xt)=true:=by k_qdec
theorem pre(w:World)(os:OsState):topGo treeTable pw w 11 ann 12 ⟨boot_heap w.params,⟨[]⟩,boot_drawn,boot_toks,os⟩ (topStub pw)=some (⟨HA w.params,⟨[]⟩,{},187,os⟩,⟨denote treeTable cE,cE,p0,B⟩):=by have _:=primed;rw[PySem.W.Fast.te15667345088766844465,PySem.W.Fast.te14364793385576792824,PySem.W.Fast.te1032975242618825031,PySem.W.Fast.te8093259214132618727,PySem.W.Fast.te1718297227530528222,PySem.W.Fast.te11892475500146522536];rfl'
theorem block(w:World)(os:OsState):segRun treeTable pw w 11 ann 1 2 ⟨HA w.params,⟨[]⟩,{},187,os⟩ (blockOf bE env cE p0 B)=some (.next,SharedT.abs ⟨T0 w.params,15,{},⟨[]⟩,{},187,os⟩,cE,p0):=by rw[PySem.W.Fast.te14374325043358763698,PySem.W.Fast.te14364793385576792824,PySem.W.Fast.te1032975242618825031,PySem.W.Fast.te8093259214132618727,PySem.W.Fast.te1718297227530528222,PySem.W.Fast.te14938417808399470215,PySem.W.Fast.te16330338443398637341,PySem.W.Fast.te10239294469119128424];rfl'
theorem piece(w:World)(os:OsState):segRunT treeTable pw w 11 ann 1 9000 ⟨T0 w.params,15,{},⟨[]⟩,{},187,os⟩ (piecesOf bE env cE p0 B)=some (.next,⟨T1 w.params,549,{},⟨[]⟩,{},933,os⟩,cE,⟨400,0,417,15⟩):=by rw[PySem.W.Fast.te10110043849684766642,PySem.W.Fast.te14364793385576792824,PySem.W.Fast.te1032975242618825031,PySem.W.Fast.te13069687644243786066,PySem.W.Fast.te14938417808399470215,PySem.W.Fast.te1718297227530528222,PySem.W.Fast.te16330338443398637341,PySem.W.Fast.te10239294469119128424];rfl'
theorem fin(w:World)(os:OsState):topRun treeTable pw w 11 ann 3 (SharedT.abs ⟨T1 w.params,549,{},⟨[]⟩,{},933,os⟩) ⟨doneF .next,cE,⟨400,0,417,15⟩,B⟩=some ⟨H1 w.params,⟨[]⟩,{},933,os⟩:=by rw[PySem.W.Fast.te14082659384304107361,PySem.W.Fast.te14364793385576792824,PySem.W.Fast.te1032975242618825031,PySem.W.Fast.te13069687644243786066,PySem.W.Fast.te1718297227530528222,PySem.W.Fast.te14158929756966004236];rfl'
theorem run(w:World)(os:OsState):topRun treeTable pw w 11 ann (12+(2+(9000+3))) ⟨boot_heap w.params,⟨[]⟩,boot_drawn,boot_toks,os⟩ (topStub pw)=some ⟨H1 w.params,⟨[]⟩,{},933,os⟩:=by refine go_top (pre w os) (piece_block (block w os) ?_);have h:=piece_app (rest:=[]) (segRun_of (piece w os)) (piece_nil (fin w os));rw[List.append_nil]at h;exact h
theorem size (w:World):((boot_heap w.params).isNs mainGlobals&&(Array.mk []:Array GenState).size==0,(boot_heap w.params).objs.size,(boot_heap w.params).nsMap mainGlobals "__annotations__")=(true,11,ann):=by rfl'
theorem agd(w:World)(os:OsState):(staticsOk (importedModules pw.main.body) (boot_heap w.params) (H1 w.params)&&namesBound pw (H1 w.params)&&gensDone ⟨H1 w.params,⟨[]⟩,{},933,os⟩&&laidKept (boot_heap w.params) (H1 w.params))=true:=by rw[PySem.W.Fast.te1032975242618825031,PySem.W.Fast.te14158929756966004236,PySem.W.Fast.te5923862056798008813];rfl'
theorem age (w:World) (os:OsState):openSeen qv ["hidden_reached"] (importedModules pw.main.body) Xt true ⟨H1 w.params,⟨[]⟩,{},933,os⟩=openGood qv ["hidden_reached"]:=by rw[PySem.W.Fast.te1032975242618825031,PySem.W.Fast.te14158929756966004236,PySem.W.Fast.te5923862056798008813,PySem.W.Fast.te3994408356199485718,PySem.W.Fast.te3154452736318265832,PySem.W.Fast.te4187177175401517315];rfl'
theorem agf(w:World):as.map (H1 w.params).get?=(K w.params).map (λp=>some p.2):=by rw[PySem.W.Fast.te14158929756966004236,PySem.W.Fast.te538113369711794958];rfl'
theorem eAs(P:Params):as=(K P).map (·.1):=by rw[PySem.W.Fast.te538113369711794958];rfl'
def hook:Hook:=kHook K as eAs
theorem left:LeftO pw qv ["hidden_reached"] Xt hook.obs hook.val 12000:=by refine LeftO.of_pieces (boot_open (by rfl') (by decide) (λs=>by rfl')) size run (by decide) λw=>funext λos=>?_;exact Prod.ext (agd w os) (Prod.ext (age w os) (agf w))
end HK
namespace Lk61
open PySem PySem.Spec PyProof.Rows L2 RF
open PySem.W (mg_of mg_none_of)
def Φ:aa:=λf=>if f="is_deed" then u5 else if f="is_text_of" then aM fText else if f="is_form" then uZ else if f="is_row" then z6 else if f="is_whole" then aM iZ else if f="is_width" then z7 else if f="is_book" then z8 else if f="need_book" then gf else if f="_law_anew" then uX else if f="both" then aM m6 else if f="first_touching" then m7 else if f="splitting_place" then u9 else if f="with_sign" then aM gW else if f="grown" then d9 9 else if f="least" then aM jf else if f="is_named" then aM gj else if f="is_place" then aM fB else if f="leaves" then dN 9 else if f="need_two_books" then vy else if f="deed_of" then mZ else if f="same_deeds" then sSD else if f="stars" then aM jd else if f="alike" then vz else if f="parting_word" then nA else if f="need_row" then jZ else if f="without" then sWo else if f="_law_spread" then uW else if f="_law_take" then dw else if f="_law_signs" then iY else if f="_law_deeds_of" then mW else if f="_law_form" then zP else if f="_law_wider" then gQ else if f="_law_within" then gQ else if f="_law_form_like" then mV else if f="_law_forms" then vH else if f="_law_drawn_change" then vJ else if f="_law_elder" then vK else if f="_law_book" then uY else if f="_law_layered_book" then vq else if f="_law_open" then zQ else if f="fits" then aM mY else if f="is_word" then aM jU else if f="met" then vL else if f="reach" then vo else if f="hidden" then j0 else if f="hidden_reached" then j0 else if f="_law_fits" then aM m8 else if f="_law_met" then m9 else if f="_law_deed" then vA else if f="_law_same" then fH 2 else if f="_law_words" then mX else if f="_law_some_words" then vO else if f="_law_under" then vp else if f="Sieve" then nF else if f="Sieve.book" then eG else if f="Sieve.back" then Ax else if f="Sieve.turn" then j4 else if f="Sieve.move" then Aw else if f="Sieve.out" then Av else if f="Sieve.put" then Ar else if f="_law_do" then sDo else if f="Sieve.deed" then nH else if f="Sieve.hidden" then vN else if f="_law_no_word" then vM else if f="_law_right" then vQ else if f="law" then mU else bz (λ_ _=>False) (λ_ _ _ _=>False)
def Bd:Φ "is_deed"=u5:=by rfl'
def Be:Φ "is_text_of"=aM fText:=by rfl'
def Bg:Φ "is_form"=uZ:=by rfl'
def Ra:Φ "is_row"=z6:=by rfl'
def Bh:Φ "is_whole"=aM iZ:=by rfl'
def Rb:Φ "is_width"=z7:=by rfl'
def Rc:Φ "is_book"=z8:=by rfl'
def jg:Φ "need_book"=gf:=by rfl'
def Rf:Φ "_law_anew"=uX:=by rfl'
def Rg:Φ "both"=aM m6:=by rfl'
def Bj:Φ "first_touching"=m7:=by rfl'
def Rh:Φ "splitting_place"=u9:=by rfl'
def Bk:Φ "with_sign"=aM gW:=by rfl'
def Bl:Φ "grown"=d9 9:=by rfl'
def Bm:Φ "least"=aM jf:=by rfl'
def Ri:Φ "is_named"=aM gj:=by rfl'
def vV:Φ "is_place"=aM fB:=by rfl'
def Bo:Φ "leaves"=dN 9:=by rfl'
def Rj:Φ "need_two_books"=vy:=by rfl'
def Bp:Φ "deed_of"=mZ:=by rfl'
def Rk:Φ "same_deeds"=sSD:=by rfl'
def Rm:Φ "stars"=aM jd:=by rfl'
def Rn:Φ "alike"=vz:=by rfl'
def Bq:Φ "parting_word"=nA:=by rfl'
def vW:Φ "need_row"=jZ:=by rfl'
def Br:Φ "without"=sWo:=by rfl'
def Ro:Φ "_law_spread"=uW:=by rfl'
def eH:Φ "_law_take"=dw:=by rfl'
def nO:Φ "_law_signs"=iY:=by rfl'
def Bt:Φ "_law_deeds_of"=mW:=by rfl'
def Rp:Φ "_law_form"=zP:=by rfl'
def Rq:Φ "_law_wider"=gQ:=by rfl'
def Bu:Φ "_law_within"=gQ:=by rfl'
def Bv:Φ "_law_form_like"=mV:=by rfl'
def Rt:Φ "_law_forms"=vH:=by rfl'
def Ru:Φ "_law_drawn_change"=vJ:=by rfl'
def Rv:Φ "_law_elder"=vK:=by rfl'
def Rw:Φ "_law_book"=uY:=by rfl'
def Rx:Φ "_law_layered_book"=vq:=by rfl'
def Ry:Φ "_law_open"=zQ:=by rfl'
def Rz:Φ "fits"=aM mY:=by rfl'
def Bw:Φ "is_word"=aM jU:=by rfl'
def Bx:Φ "met"=vL:=by rfl'
def RB:Φ "reach"=vo:=by rfl'
def RC:Φ "hidden"=j0:=by rfl'
def RD:Φ "hidden_reached"=j0:=by rfl'
def RG:Φ "_law_fits"=aM m8:=by rfl'
def By:Φ "_law_met"=m9:=by rfl'
def RJ:Φ "_law_deed"=vA:=by rfl'
def RK:Φ "_law_same"=fH 2:=by rfl'
def BJ:Φ "_law_words"=mX:=by rfl'
def RL:Φ "_law_some_words"=vO:=by rfl'
def RM:Φ "_law_under"=vp:=by rfl'
theorem RN:Φ "Sieve"=nF:=by rfl'
theorem gm:Φ "Sieve.book"=eG:=by rfl'
theorem RP:Φ "Sieve.back"=Ax:=by rfl'
theorem vX:Φ "Sieve.turn"=j4:=by rfl'
theorem RQ:Φ "Sieve.move"=Aw:=by rfl'
theorem RT:Φ "Sieve.out"=Av:=by rfl'
theorem RV:Φ "Sieve.put"=Ar:=by rfl'
def RW:Φ "_law_do"=sDo:=by rfl'
theorem BK:Φ "Sieve.deed"=nH:=by rfl'
theorem RX:Φ "Sieve.hidden"=vN:=by rfl'
def RZ:Φ "_law_no_word"=vM:=by rfl'
def R0:Φ "_law_right"=vQ:=by rfl'
noncomputable def bt:List String:=["all","bool","enumerate","int","isinstance","len","list","min","range","str","tuple","zip"]
noncomputable def cn:List (String×D):=[("LETTERS",(.str [97,98,99,100,101,102,103,104,105,106,107,108,109,110,111,112,113,114,115,116,117,118,119,120,121,122])),("LONGEST_DEED",(.int 8)),("MOST_ROWS",(.int 12)),("WIDEST",(.int 6))]
noncomputable def xs:List (String×Bool):=[("NoBook",true),("NoMatch",true),("NoWord",true),("NoRow",true),("NoForm",true),("Full",true),("Nothing",true),("NoWord",false)]
abbrev CK:=λN s f o b=>aC (aF N (ak s) f bt cn xs o) b (aD s)=true
abbrev BB:=λ(l:PySem.W.OpenLaw) (w:World) (mg:Str->Option Value) (base:Heap) k f o=>Bse Φ l.prog w (HK.K w.params) mg base (CX1 l.prog w) k f bt cn xs o
abbrev NQ:=λP (s:Str) (n:Nat)=>PySem.W.nsIn (HK.K P) mainGlobals s=some (some (.ref n))
abbrev BQ:=λP fd ps=>Binds (HK.K P) fd ps []
abbrev LN:Str:="law_starsieve_k61_what_a_sieve_tells"
def f0:List (String×Nat):=[]
def o0:OT:={}
def f1:=("is_deed",1)::f0
def f2:=("is_text_of",3)::f1
def f3:=("is_form",2)::f2
def f4:=("is_row",2)::f3
def f5:=("is_whole",1)::f4
def f6:=("is_width",1)::f5
def f7:=("is_book",1)::f6
def f8:=("need_book",1)::f7
def f9:=("_law_anew",1)::f8
def f10:=("both",2)::f9
def f11:=("first_touching",2)::f10
def f12:=("splitting_place",2)::f11
def f13:=("with_sign",3)::f12
def f14:=("grown",3)::f13
def f15:=("least",1)::f14
def f16:=("is_named",3)::f15
def f17:=("is_place",2)::f16
def f18:=("leaves",2)::f17
def f19:=("need_two_books",2)::f18
def f20:=("deed_of",2)::f19
def f21:=("same_deeds",3)::f20
def f22:=("stars",1)::f21
def f23:=("alike",2)::f22
def f24:=("parting_word",2)::f23
def f25:=("need_row",2)::f24
def f26:=("without",2)::f25
def f27:=("_law_spread",2)::f26
def f28:=("_law_take",2)::f27
def f29:=("_law_signs",3)::f28
def f30:=("_law_deeds_of",2)::f29
def f31:=("_law_form",2)::f30
def f32:=("_law_wider",2)::f31
def f33:=("_law_within",2)::f32
def f34:=("_law_form_like",3)::f33
def f35:=("_law_forms",1)::f34
def f36:=("_law_drawn_change",4)::f35
def f37:=("_law_elder",3)::f36
def f38:=("_law_book",3)::f37
def f39:=("_law_layered_book",3)::f38
def f40:=("_law_open",1)::f39
def f41:=("fits",2)::f40
def f42:=("is_word",2)::f41
def f43:=("met",2)::f42
def f44:=("reach",2)::f43
def f45:=("hidden",1)::f44
def f46:=("hidden_reached",1)::f45
def f47:=("_law_fits",2)::f46
def f48:=("_law_met",2)::f47
def f49:=("_law_deed",2)::f48
def f50:=("_law_same",2)::f49
def f51:=("_law_words",1)::f50
def f52:=("_law_some_words",2)::f51
def f53:=("_law_under",2)::f52
def o1:OT:={ o0 with fl:=("Sieve","books")::o0.fl }
def o2:OT:={ o1 with ks:=("Sieve",1)::o1.ks }
def o3:OT:={ o2 with ms:=("Sieve.book","Sieve","book",1)::o2.ms }
def o4:OT:={ o3 with ms:=("Sieve.back","Sieve","back",1)::o3.ms }
def o5:OT:={ o4 with ms:=("Sieve.turn","Sieve","turn",2)::o4.ms }
def o6:OT:={ o5 with ms:=("Sieve.move","Sieve","move",3)::o5.ms }
def o7:OT:={ o6 with ms:=("Sieve.out","Sieve","out",2)::o6.ms }
def o8:OT:={ o7 with ms:=("Sieve.put","Sieve","put",4)::o7.ms }
def f54:=("_law_do",3)::f53
def o9:OT:={ o8 with ms:=("Sieve.deed","Sieve","deed",2)::o8.ms }
def o10:OT:={ o9 with ms:=("Sieve.hidden","Sieve","hidden",1)::o9.ms }
def f55:=("_law_no_word",2)::f54
def f56:=("_law_right",3)::f55
def S(i:Nat):Stmt:=HK.pw.main.body.getD i (.Pass ⟨0,0,0,0⟩)
noncomputable def SM(i j:Nat):Stmt:=match S i with |.ClassDef _ _ _ b _ _ _ _ _ _ _=>b.getD j (.Pass ⟨0,0,0,0⟩) |s=>s
def nP:Stmt:=S 25
theorem agg:fnB ["thing"] ["thing"] (ak nP)=true:=by ac_rfl
theorem agh:CK ["thing"] nP f0 o0 lG:=by ac_rfl
def nQ:Stmt:=S 14
theorem agi:fnB ["signs","width","thing"] ["signs","width","thing"] (ak nQ)=true:=by ac_rfl
theorem agj:CK ["signs","width","thing"] nQ f1 o0 jO:=by ac_rfl
def nR:Stmt:=S 16
theorem agk:fnB ["width","thing"] ["width","thing"] (ak nR)=true:=by ac_rfl
theorem agl:CK ["width","thing"] nR f2 o0 lH:=by ac_rfl
def nT:Stmt:=S 26
theorem agm:fnB ["width","thing"] ["width","thing"] (ak nT)=true:=by ac_rfl
theorem agn:CK ["width","thing"] nT f3 o0 lJ:=by ac_rfl
def nU:Stmt:=S 11
theorem ago:fnB ["thing"] ["thing"] (ak nU)=true:=by ac_rfl
theorem agp:CK ["thing"] nU f4 o0 lK:=by ac_rfl
def nW:Stmt:=S 12
theorem agq:fnB ["thing"] ["thing"] (ak nW)=true:=by ac_rfl
theorem agr:CK ["thing"] nW f5 o0 lL:=by ac_rfl
def nY:Stmt:=S 27
theorem ags:fnB ["thing","width","rows"] ["thing"] (ak nY)=true:=by ac_rfl
theorem agt:CK ["thing","width","rows"] nY f6 o0 lM:=by ac_rfl
def nZ:Stmt:=S 28
theorem agu:fnB ["book"] ["book"] (ak nZ)=true:=by ac_rfl
theorem agv:CK ["book"] nZ f7 o0 lN:=by ac_rfl
def n6:Stmt:=S 55
theorem agw:fnB ["pen"] ["pen"] (ak n6)=true:=by ac_rfl
theorem agx:CK ["pen"] n6 f8 o0 zb:=by ac_rfl
def oh:Stmt:=S 19
theorem agy:fnB ["form","other","shared","one","two"] ["form","other"] (ak oh)=true:=by ac_rfl
theorem agz:CK ["form","other","shared","one","two"] oh f9 o0 lO:=by ac_rfl
def ou:Stmt:=S 37
theorem agA:fnB ["rows","box","number","row"] ["rows","box"] (ak ou)=true:=by ac_rfl
theorem agB:CK ["rows","box","number","row"] ou f10 o0 lQ:=by ac_rfl
def oA:Stmt:=S 38
theorem agC:fnB ["rows","box","number","at","sign"] ["rows","box"] (ak oA)=true:=by ac_rfl
theorem agD:CK ["rows","box","number","at","sign"] oA f11 o0 lU:=by ac_rfl
def oE:Stmt:=S 18
theorem agE:fnB ["form","at","sign"] ["form","at","sign"] (ak oE)=true:=by ac_rfl
theorem agF:CK ["form","at","sign"] oE f12 o0 lV:=by ac_rfl
def oF:Stmt:=S 39
theorem agG:fnB ["name","many_rows","box","rows","at","zero","one"] ["name","many_rows","box"] (ak oF)=true:=by ac_rfl
theorem agH:CK ["name","many_rows","box","rows","at","zero","one"] oF f14 o0 jP:=by ac_rfl
def oG:Stmt:=S 20
def oH:Stmt:=S 35
theorem agI:fnB ["name","many","thing"] ["name","many","thing"] (ak oH)=true:=by ac_rfl
theorem agJ:CK ["name","many","thing"] oH f15 o0 lW:=by ac_rfl
def oJ:Stmt:=S 13
theorem agK:fnB ["many","thing"] ["many","thing"] (ak oJ)=true:=by ac_rfl
theorem agL:CK ["many","thing"] oJ f16 o0 lX:=by ac_rfl
def oK:Stmt:=S 36
theorem agM:fnB ["box","tree","at","zero","one"] ["box","tree"] (ak oK)=true:=by ac_rfl
theorem agN:CK ["box","tree","at","zero","one"] oK f18 o0 iU:=by ac_rfl
def oM:Stmt:=S 29
theorem agO:fnB ["one","other"] ["one","other"] (ak oM)=true:=by ac_rfl
theorem agP:CK ["one","other"] oM f18 o0 lY:=by ac_rfl
def oN:Stmt:=S 32
theorem agQ:fnB ["book","number"] ["book","number"] (ak oN)=true:=by ac_rfl
theorem agR:CK ["book","number"] oN f19 o0 jQ:=by ac_rfl
def oO:Stmt:=S 41
theorem agS:fnB ["one","other","leaf"] ["one","other","leaf"] (ak oO)=true:=by ac_rfl
theorem agT:CK ["one","other","leaf"] oO f20 o0 lZ:=by ac_rfl
def oR:Stmt:=S 34
theorem agU:fnB ["width"] ["width"] (ak oR)=true:=by ac_rfl
theorem agV:CK ["width"] oR f21 o0 mj:=by ac_rfl
def oU:Stmt:=S 42
theorem agW:fnB ["one","other","box","tree","parting"] ["one","other"] (ak oU)=true:=by ac_rfl
theorem agX:CK ["one","other","box","tree","parting"] oU f22 o0 mq:=by ac_rfl
def oV:Stmt:=S 43
theorem agY:fnB ["one","other","name","shown"] ["one","other"] (ak oV)=true:=by ac_rfl
theorem agZ:CK ["one","other","name","shown"] oV f23 o0 my:=by ac_rfl
def oW:Stmt:=S 30
theorem ag0:fnB ["book","number"] ["book","number"] (ak oW)=true:=by ac_rfl
theorem ag1:CK ["book","number"] oW f24 o0 mz:=by ac_rfl
def oX:Stmt:=S 45
theorem ag2:fnB ["book","number","width","rows"] ["book","number"] (ak oX)=true:=by ac_rfl
theorem ag3:CK ["book","number","width","rows"] oX f25 o0 mC:=by ac_rfl
def oY:Stmt:=S 53
theorem ag4:fnB ["cell","at","one","two","three"] ["cell","at"] (ak oY)=true:=by ac_rfl
theorem ag5:CK ["cell","at","one","two","three"] oY f26 o0 zc:=by ac_rfl
def oZ:Stmt:=S 56
theorem ag6:fnB ["pen","many","at","cell","found"] ["pen","many"] (ak oZ)=true:=by ac_rfl
theorem ag7:CK ["pen","many","at","cell","found"] oZ f27 o0 zf:=by ac_rfl
def ph:Stmt:=S 57
theorem ag8:fnB ["pen","width","signs"] ["pen","width","signs"] (ak ph)=true:=by ac_rfl
theorem ag9:CK ["pen","width","signs"] ph f28 o0 zg:=by ac_rfl
def pq:Stmt:=S 62
theorem aha:fnB ["pen","most","some","turn","found","letters"] ["pen","most"] (ak pq)=true:=by ac_rfl
theorem ahb:CK ["pen","most","some","turn","found","letters"] pq f29 o0 zj:=by ac_rfl
def pA:Stmt:=S 58
theorem ahc:fnB ["pen","width"] ["pen","width"] (ak pA)=true:=by ac_rfl
theorem ahd:CK ["pen","width"] pA f30 o0 zm:=by ac_rfl
def pB:Stmt:=S 60
theorem ahe:fnB ["pen","form","found","sign"] ["pen","form"] (ak pB)=true:=by ac_rfl
theorem ahf:CK ["pen","form","found","sign"] pB f31 o0 zp:=by ac_rfl
def pC:Stmt:=S 59
theorem ahg:fnB ["pen","form","found","sign"] ["pen","form"] (ak pC)=true:=by ac_rfl
theorem ahh:CK ["pen","form","found","sign"] pC f32 o0 zq:=by ac_rfl
def pF:Stmt:=S 61
theorem ahi:fnB ["pen","width","forms","kind","form","at"] ["pen","width","forms"] (ak pF)=true:=by ac_rfl
theorem ahj:CK ["pen","width","forms","kind","form","at"] pF f33 o0 zr:=by ac_rfl
def pG:Stmt:=S 71
theorem ahk:fnB ["rows"] ["rows"] (ak pG)=true:=by ac_rfl
theorem ahl:CK ["rows"] pG f34 o0 zu:=by ac_rfl
def pH:Stmt:=S 72
theorem ahm:fnB ["pen","width","rows","elder","kind","at","form","one","place","others"] ["pen","width","rows","elder"] (ak pH)=true:=by ac_rfl
theorem ahn:CK ["pen","width","rows","elder","kind","at","form","one","place","others"] pH f35 o0 zx:=by ac_rfl
def pI:Stmt:=S 74
theorem aho:fnB ["elder","word","rows"] ["elder","word","rows"] (ak pI)=true:=by ac_rfl
theorem ahp:CK ["elder","word","rows"] pI f36 o0 uV:=by ac_rfl
def pJ:Stmt:=S 63
theorem ahq:fnB ["pen","widest","most","width","deeds","forms","rows","k"] ["pen","widest","most"] (ak pJ)=true:=by ac_rfl
theorem ahr:CK ["pen","widest","most","width","deeds","forms","rows","k"] pJ f37 o0 zy:=by ac_rfl
def pK:Stmt:=S 70
theorem ahs:fnB ["pen","widest","most","width","rows","turn","at","place","form","spot","sign","other"] ["pen","widest","most"] (ak pK)=true:=by ac_rfl
theorem aht:CK ["pen","widest","most","width","rows","turn","at","place","form","spot","sign","other"] pK f38 o0 zz:=by ac_rfl
def pL:Stmt:=S 54
theorem ahu:fnB ["script","cells","k","cell"] ["script"] (ak pL)=true:=by ac_rfl
theorem ahv:CK ["script","cells","k","cell"] pL f39 o0 zA:=by ac_rfl
def pM:Stmt:=S 17
theorem ahw:fnB ["form","word"] ["form","word"] (ak pM)=true:=by ac_rfl
theorem ahx:CK ["form","word"] pM f40 o0 mD:=by ac_rfl
def pN:Stmt:=S 15
theorem ahy:fnB ["width","thing"] ["width","thing"] (ak pN)=true:=by ac_rfl
theorem ahz:CK ["width","thing"] pN f41 o0 mF:=by ac_rfl
def pO:Stmt:=S 31
theorem ahA:fnB ["book","word","width","rows","number","row"] ["book","word"] (ak pO)=true:=by ac_rfl
theorem ahB:CK ["book","word","width","rows","number","row"] pO f42 o0 iV:=by ac_rfl
def pP:Stmt:=S 47
theorem ahC:fnB ["book","number","rows","form","tree","free"] ["book","number"] (ak pP)=true:=by ac_rfl
theorem ahD:CK ["book","number","rows","form","tree","free"] pP f43 o0 mG:=by ac_rfl
def pQ:Stmt:=S 48
theorem ahE:fnB ["book"] ["book"] (ak pQ)=true:=by ac_rfl
theorem ahF:CK ["book"] pQ f44 o0 mH:=by ac_rfl
def pR:Stmt:=S 65
theorem ahG:fnB ["form","word","sign","other"] ["form","word"] (ak pR)=true:=by ac_rfl
theorem ahH:CK ["form","word","sign","other"] pR f46 o0 zB:=by ac_rfl
def pU:Stmt:=S 66
theorem ahI:fnB ["book","word","number","row"] ["book","word"] (ak pU)=true:=by ac_rfl
theorem ahJ:CK ["book","word","number","row"] pU f47 o0 zE:=by ac_rfl
def pW:Stmt:=S 67
theorem ahK:fnB ["book","word","number"] ["book","word"] (ak pW)=true:=by ac_rfl
theorem ahL:CK ["book","word","number"] pW f48 o0 zF:=by ac_rfl
def pX:Stmt:=S 68
theorem ahM:fnB ["found","due"] ["found","due"] (ak pX)=true:=by ac_rfl
theorem ahN:CK ["found","due"] pX f50 o0 jR:=by ac_rfl
def pY:Stmt:=S 64
theorem ahO:fnB ["form","found","sign","longer","text"] ["form"] (ak pY)=true:=by ac_rfl
theorem ahP:CK ["form","found","sign","longer","text"] pY f50 o0 zG:=by ac_rfl
def pZ:Stmt:=S 75
theorem ahQ:fnB ["pen","width"] ["pen","width"] (ak pZ)=true:=by ac_rfl
theorem ahR:CK ["pen","width"] pZ f51 o0 zH:=by ac_rfl
def p6:Stmt:=S 69
theorem ahS:fnB ["book","number","ahead","form"] ["book","number"] (ak p6)=true:=by ac_rfl
theorem ahT:CK ["book","number","ahead","form"] p6 f52 o0 zJ:=by ac_rfl
def p7:Stmt:=SM 51 0
theorem ahU:fnB ["self","book"] ["self","book"] (ak p7)=true:=by ac_rfl
theorem ahV:uU (aF ["self","book"] (ak p7) f53 bt cn xs o1) "need_book" "books" (aD p7)=true:=by ac_rfl
def p8:Stmt:=SM 51 1
theorem ahW:fnB ["self"] ["self"] (ak p8)=true:=by ac_rfl
theorem ahX:CK ["self"] p8 f53 o2 mJ:=by ac_rfl
def qb:Stmt:=SM 51 8
theorem ahY:fnB ["self","undone"] ["self"] (ak qb)=true:=by ac_rfl
theorem ahZ:CK ["self","undone"] qb f53 o3 mK:=by ac_rfl
def qd:Stmt:=SM 51 4
theorem ah0:fnB ["self","rows","before"] ["self","rows"] (ak qd)=true:=by ac_rfl
theorem ah1:CK ["self","rows","before"] qd f53 o4 mL:=by ac_rfl
def qe:Stmt:=SM 51 7
theorem ah2:fnB ["self","number","place","row","others"] ["self","number","place"] (ak qe)=true:=by ac_rfl
theorem ah3:CK ["self","number","place","row","others"] qe f53 o5 mO:=by ac_rfl
def qg:Stmt:=SM 51 6
theorem ah4:fnB ["self","number"] ["self","number"] (ak qg)=true:=by ac_rfl
theorem ah5:CK ["self","number"] qg f53 o6 mQ:=by ac_rfl
def qi:Stmt:=SM 51 5
theorem ah6:fnB ["self","number","form","deed","width","rows"] ["self","number","form","deed"] (ak qi)=true:=by ac_rfl
theorem ah7:CK ["self","number","form","deed","width","rows"] qi f53 o7 mR:=by ac_rfl
def qj:Stmt:=S 73
theorem ah8:fnB ["sieve","word","pieces"] ["sieve","word","pieces"] (ak qj)=true:=by ac_rfl
theorem ah9:CK ["sieve","word","pieces"] qj f53 o8 jT:=by ac_rfl
def ql:Stmt:=SM 51 2
theorem aia:fnB ["self","word"] ["self","word"] (ak ql)=true:=by ac_rfl
theorem aib:CK ["self","word"] ql f54 o8 iW:=by ac_rfl
def qm:Stmt:=SM 51 3
theorem aic:fnB ["self"] ["self"] (ak qm)=true:=by ac_rfl
theorem aid:CK ["self"] qm f54 o9 zK:=by ac_rfl
def qp:Stmt:=S 76
theorem aie:fnB ["sieve","word","refused"] ["sieve","word"] (ak qp)=true:=by ac_rfl
theorem aif:CK ["sieve","word","refused"] qp f54 o10 zL:=by ac_rfl
def qt:Stmt:=S 77
theorem aig:fnB ["pen","sieve","book","word","due","again","found"] ["pen","sieve","book"] (ak qt)=true:=by ac_rfl
theorem aih:CK ["pen","sieve","book","word","due","again","found"] qt f55 o10 zM:=by ac_rfl
def qu:Stmt:=S 78
theorem aii:fnB ["script","pen","turn","book","sieve","width","rows","elder","step","word","pieces","behind"] ["script"] (ak qu)=true:=by ac_rfl
theorem aij:CK ["script","pen","turn","book","sieve","width","rows","elder","step","word","pieces","behind"] qu f56 o10 zN:=by ac_rfl
theorem R1:(Str.ofString "0":Str)=tx [48]:=by ac_rfl
theorem aik:(Str.ofString "*":Str)=tx [42]:=by ac_rfl
theorem ail:FnScope ["form"] ["form"] (ak oG):=⟨rfl,rfl,rfl,by ac_rfl,rfl,by ac_rfl,by ac_rfl⟩
def aim:Sp:=λvs H Q _=>∃l:List Nat,vs=[.str (tx l)]/\l.length<=1000/\Q (.str (tx (bA l))) H
theorem ain {P:Program} {w:World} {K:PF} {mg:Str->Option Value} {base:Heap} {f:Addr} {fd:FuncData} (F:Fun K "least" "least" oG f fd):FnOk P w K mg base CX0 1 f fd ["form"] aim:=by
 refine F.ok1 ail rfl (by ac_rfl) (λ_=>rfl) (λvs H Q E h=>?_) (λcdv A outer s H vs Q E hr h=>?_)
 ·obtain ⟨l,rfl,_⟩:=h;rfl
 ·obtain ⟨l,rfl,hl,q⟩:=h;refine ⟨_,ZG (ZK (pv 0) (by ac_rfl)),?_⟩;refine ⟨_,rfl,_,rfl,?_,?_⟩
  ·rw[R1,bU,bU];simp;omega
  ·rw[aik,R1,ZJ];exact q
theorem aio {P:Program} {w:World} {K:PF} {mg:Str->Option Value} {base:Heap} {f:Addr} {fd:FuncData} (F:Fun K "least" "least" oG f fd):FnOk P w K mg base CX0 1 f fd ["form"] (lift K 1 (aM jf)):=by
 refine (ain F).imp λvs H Q E h=>?_;obtain ⟨e0,Fz,G,ds,r,t,⟨ds',G'⟩,⟨e1,e2⟩,e3,e4⟩:=h;cases e1;obtain ⟨d,hd⟩:=Option.isSome_iff_exists.mp e2;have hd2:=hd;unfold jf at hd;split at hd
 ·rename_i l;split at hd
  ·rename_i hl;cases hd;obtain ⟨v,rfl,rv⟩:=bC t;obtain ⟨rfl,_⟩:=rv;have hl':l.length<=1000:=of_decide_eq_true hl;exact ⟨l,rfl,hl',(e3 _ _ ⟨rfl,hd2⟩).now r ⟨rfl,by unfold bA;rw[List.length_map];exact Nat.le_trans hl' (by decide)⟩⟩
  ·cases hd
 ·cases hd
noncomputable def fdM(n:Str)(st:Stmt)(m:Str)(t c:Nat):FuncData:=PySem.W.fnOf n n (jj st) (aD st) (ak st) .none .none .none (.str m t) none (.ref c) .none
theorem mkF {K:PF} {n m:Str} {st:Stmt} {a t c:Nat}(l:K.lookup a=some ⟨.type "function",none,.func (fdM n st m t c),⟨[]⟩⟩:=by rfl')(h1:PySem.W.codeIn K (.ref c) n=true:=by eq_refl)(h2:PySem.W.keepIn K (.ref a)=true:=by eq_refl):Fun K n n st a (fdM n st m t c):=Dw l h1 h2
theorem tK:type_of% @PySem.W.Fast.te538113369711794958:=PySem.W.Fast.te538113369711794958
local macro_rules|`(tactic|ac_nf)=>`(tactic|(intro _ _ _ _ _ _ us hl;first|(obtain ⟨_,h⟩:=cI hl;subst h;rfl)|(obtain ⟨_,_,h⟩:=aQ hl;subst h;rfl)|(obtain ⟨_,_,_,h⟩:=c7 hl;subst h;rfl)|(obtain ⟨_,_,_,_,h⟩:=Ov hl;subst h;rfl)))
local macro_rules|`(tactic|eq_refl)=>`(tactic|(first|rw[tK]|(unfold NQ;rw[tK]));rfl')
section
variable {P:Params}
noncomputable def fdQ(n q:Str)(st:Stmt)(m:Str)(t c:Nat):FuncData:=PySem.W.fnOf n q (jj st) (aD st) (ak st) .none .none .none (.str m t) none (.ref c) .none
theorem mkQ {K:PF} {n q m:Str} {st:Stmt} {a t c:Nat}(l:K.lookup a=some ⟨.type "function",none,.func (fdQ n q st m t c),⟨[]⟩⟩:=by rfl')(h1:PySem.W.codeIn K (.ref c) q=true:=by eq_refl)(h2:PySem.W.keepIn K (.ref a)=true:=by eq_refl):Fun K n q st a (fdQ n q st m t c):=Dw l h1 h2
theorem eN:NQ P "Sieve" 378:=by eq_refl
theorem fK:Cls (HK.K P) 378:=⟨by eq_refl,by eq_refl,by eq_refl,by eq_refl⟩
theorem R3:NoAttr (HK.K P) 378 (Str.ofString "books"):=by show PySem.W.findIn (HK.K P) (.ref 378) (Str.ofString "books")=some none;rw[tK];rfl'
def R4:FuncData:=fdM "is_deed" nP "starsieve.books" 400 181
theorem R5:Fun (HK.K P) "is_deed" "is_deed" nP 182 R4:=mkF
theorem aip:NQ P "is_deed" 182:=by eq_refl
theorem lG:BQ P R4 ["thing"]:=R5.binds (by ac_nf)
def R6:FuncData:=fdM "is_text_of" nQ "starsieve.forms" 319 136
theorem R7:Fun (HK.K P) "is_text_of" "is_text_of" nQ 137 R6:=mkF
theorem aiq:NQ P "is_text_of" 137:=by eq_refl
theorem jO:BQ P R6 ["signs","width","thing"]:=R7.binds (by ac_nf)
def R8:FuncData:=fdM "is_form" nR "starsieve.forms" 319 150
theorem R9:Fun (HK.K P) "is_form" "is_form" nR 151 R8:=mkF
theorem air:NQ P "is_form" 151:=by eq_refl
theorem lH:BQ P R8 ["width","thing"]:=R9.binds (by ac_nf)
def Sd:FuncData:=fdM "is_row" nT "starsieve.books" 400 188
theorem Sg:Fun (HK.K P) "is_row" "is_row" nT 189 Sd:=mkF
theorem ais:NQ P "is_row" 189:=by eq_refl
theorem lJ:BQ P Sd ["width","thing"]:=Sg.binds (by ac_nf)
def Sh:FuncData:=fdM "is_whole" nU "starsieve.forms" 319 117
theorem Sq:Fun (HK.K P) "is_whole" "is_whole" nU 118 Sh:=mkF
theorem ait:NQ P "is_whole" 118:=by eq_refl
theorem lK:BQ P Sh ["thing"]:=Sq.binds (by ac_nf)
def Ss:FuncData:=fdM "is_width" nW "starsieve.forms" 319 124
theorem Su:Fun (HK.K P) "is_width" "is_width" nW 125 Ss:=mkF
theorem aiu:NQ P "is_width" 125:=by eq_refl
theorem lL:BQ P Ss ["thing"]:=Su.binds (by ac_nf)
def Sw:FuncData:=fdM "is_book" nY "starsieve.books" 400 193
theorem Sy:Fun (HK.K P) "is_book" "is_book" nY 194 Sw:=mkF
theorem aiv:NQ P "is_book" 194:=by eq_refl
theorem lM:BQ P Sw ["thing"]:=Sy.binds (by ac_nf)
def SJ:FuncData:=fdM "need_book" nZ "starsieve.books" 400 200
theorem SN:Fun (HK.K P) "need_book" "need_book" nZ 201 SJ:=mkF
theorem aiw:NQ P "need_book" 201:=by eq_refl
theorem lN:BQ P SJ ["book"]:=SN.binds (by ac_nf)
def SQ:FuncData:=fdM "_law_anew" n6 LN 682 402
theorem SX:Fun (HK.K P) "_law_anew" "_law_anew" n6 403 SQ:=mkF
theorem aix:NQ P "_law_anew" 403:=by eq_refl
theorem aiy:BQ P SQ ["pen"]:=SX.binds (by ac_nf)
def S5:FuncData:=fdM "both" oh "starsieve.forms" 319 169
theorem S6:Fun (HK.K P) "both" "both" oh 170 S5:=mkF
theorem aiz:NQ P "both" 170:=by eq_refl
theorem lO:BQ P S5 ["form","other"]:=S6.binds (by ac_nf)
def S7:FuncData:=fdM "first_touching" ou "starsieve.laid" 471 256
theorem S8:Fun (HK.K P) "first_touching" "first_touching" ou 257 S7:=mkF
theorem aiA:NQ P "first_touching" 257:=by eq_refl
theorem lQ:BQ P S7 ["rows","box"]:=S8.binds (by ac_nf)
def S9:FuncData:=fdM "splitting_place" oA "starsieve.laid" 471 263
theorem Tc:Fun (HK.K P) "splitting_place" "splitting_place" oA 264 S9:=mkF
theorem aiB:NQ P "splitting_place" 264:=by eq_refl
theorem lU:BQ P S9 ["rows","box"]:=Tc.binds (by ac_nf)
def Td:FuncData:=fdM "with_sign" oE "starsieve.forms" 319 162
theorem Te:Fun (HK.K P) "with_sign" "with_sign" oE 163 Td:=mkF
theorem aiC:NQ P "with_sign" 163:=by eq_refl
theorem lV:BQ P Td ["form","at","sign"]:=Te.binds (by ac_nf)
def BL:FuncData:=fdM "grown" oF "starsieve.laid" 471 268
theorem vY:Fun (HK.K P) "grown" "grown" oF 269 BL:=mkF
theorem Tf:NQ P "grown" 269:=by eq_refl
theorem jP:BQ P BL ["name","many_rows","box"]:=vY.binds (by ac_nf)
def Th:FuncData:=fdM "least" oG "starsieve.forms" 319 176
theorem BP:Fun (HK.K P) "least" "least" oG 177 Th:=mkF
theorem aiD:NQ P "least" 177:=by eq_refl
theorem aiE:BQ P Th ["form"]:=BP.binds (by ac_nf)
def Ti:FuncData:=fdM "is_named" oH "starsieve.laid" 471 242
theorem Tj:Fun (HK.K P) "is_named" "is_named" oH 243 Ti:=mkF
theorem aiF:NQ P "is_named" 243:=by eq_refl
theorem lW:BQ P Ti ["name","many","thing"]:=Tj.binds (by ac_nf)
def Tn:FuncData:=fdM "is_place" oJ "starsieve.forms" 319 131
theorem Tp:Fun (HK.K P) "is_place" "is_place" oJ 132 Tn:=mkF
theorem aiG:NQ P "is_place" 132:=by eq_refl
theorem lX:BQ P Tn ["many","thing"]:=Tp.binds (by ac_nf)
def BR:FuncData:=fdM "leaves" oK "starsieve.laid" 471 249
theorem vZ:Fun (HK.K P) "leaves" "leaves" oK 250 BR:=mkF
theorem Tq:NQ P "leaves" 250:=by eq_refl
theorem iU:BQ P BR ["box","tree"]:=vZ.binds (by ac_nf)
def Tt:FuncData:=fdM "need_two_books" oM "starsieve.books" 400 207
theorem Tu:Fun (HK.K P) "need_two_books" "need_two_books" oM 208 Tt:=mkF
theorem aiH:NQ P "need_two_books" 208:=by eq_refl
theorem lY:BQ P Tt ["one","other"]:=Tu.binds (by ac_nf)
def Tv:FuncData:=fdM "deed_of" oN "starsieve.books" 400 228
theorem Tw:Fun (HK.K P) "deed_of" "deed_of" oN 229 Tv:=mkF
theorem aiI:NQ P "deed_of" 229:=by eq_refl
theorem jQ:BQ P Tv ["book","number"]:=Tw.binds (by ac_nf)
def Tz:FuncData:=fdM "same_deeds" oO "starsieve.alike" 527 275
theorem TF:Fun (HK.K P) "same_deeds" "same_deeds" oO 276 Tz:=mkF
theorem aiJ:NQ P "same_deeds" 276:=by eq_refl
theorem lZ:BQ P Tz ["one","other","leaf"]:=TF.binds (by ac_nf)
def TQ:FuncData:=fdM "stars" oR "starsieve.laid" 471 235
theorem TV:Fun (HK.K P) "stars" "stars" oR 236 TQ:=mkF
theorem aiK:NQ P "stars" 236:=by eq_refl
theorem mj:BQ P TQ ["width"]:=TV.binds (by ac_nf)
def TY:FuncData:=fdM "alike" oU "starsieve.alike" 527 280
theorem T3:Fun (HK.K P) "alike" "alike" oU 281 TY:=mkF
theorem aiL:NQ P "alike" 281:=by eq_refl
theorem mq:BQ P TY ["one","other"]:=T3.binds (by ac_nf)
def T4:FuncData:=fdM "parting_word" oV "starsieve.alike" 527 287
theorem T5:Fun (HK.K P) "parting_word" "parting_word" oV 288 T4:=mkF
theorem aiM:NQ P "parting_word" 288:=by eq_refl
theorem my:BQ P T4 ["one","other"]:=T5.binds (by ac_nf)
def T6:FuncData:=fdM "need_row" oW "starsieve.books" 400 214
theorem T7:Fun (HK.K P) "need_row" "need_row" oW 215 T6:=mkF
theorem aiN:NQ P "need_row" 215:=by eq_refl
theorem mz:BQ P T6 ["book","number"]:=T7.binds (by ac_nf)
def T8:FuncData:=fdM "without" oX "starsieve.lean" 554 294
theorem T9:Fun (HK.K P) "without" "without" oX 295 T8:=mkF
theorem aiO:NQ P "without" 295:=by eq_refl
theorem mC:BQ P T8 ["book","number"]:=T9.binds (by ac_nf)
def Ua:FuncData:=fdM "_law_spread" oY LN 682 388
theorem Ub:Fun (HK.K P) "_law_spread" "_law_spread" oY 389 Ua:=mkF
theorem aiP:NQ P "_law_spread" 389:=by eq_refl
theorem aiQ:BQ P Ua ["cell","at"]:=Ub.binds (by ac_nf)
def Uc:FuncData:=fdM "_law_take" oZ LN 682 409
theorem Ud:Fun (HK.K P) "_law_take" "_law_take" oZ 410 Uc:=mkF
theorem aiR:NQ P "_law_take" 410:=by eq_refl
theorem aiS:BQ P Uc ["pen","many"]:=Ud.binds (by ac_nf)
def Ue:FuncData:=fdM "_law_signs" ph LN 682 414
theorem Ug:Fun (HK.K P) "_law_signs" "_law_signs" ph 415 Ue:=mkF
theorem aiT:NQ P "_law_signs" 415:=by eq_refl
theorem aiU:BQ P Ue ["pen","width","signs"]:=Ug.binds (by ac_nf)
def Uh:FuncData:=fdM "_law_deeds_of" pq LN 682 447
theorem Ui:Fun (HK.K P) "_law_deeds_of" "_law_deeds_of" pq 448 Uh:=mkF
theorem aiV:NQ P "_law_deeds_of" 448:=by eq_refl
theorem aiW:BQ P Uh ["pen","most"]:=Ui.binds (by ac_nf)
def Uj:FuncData:=fdM "_law_form" pA LN 682 421
theorem Uk:Fun (HK.K P) "_law_form" "_law_form" pA 422 Uj:=mkF
theorem aiX:NQ P "_law_form" 422:=by eq_refl
theorem aiY:BQ P Uj ["pen","width"]:=Uk.binds (by ac_nf)
def Ul:FuncData:=fdM "_law_wider" pB LN 682 435
theorem Um:Fun (HK.K P) "_law_wider" "_law_wider" pB 436 Ul:=mkF
theorem aiZ:NQ P "_law_wider" 436:=by eq_refl
theorem ai0:BQ P Ul ["pen","form"]:=Um.binds (by ac_nf)
def Uo:FuncData:=fdM "_law_within" pC LN 682 428
theorem Up:Fun (HK.K P) "_law_within" "_law_within" pC 429 Uo:=mkF
theorem ai1:NQ P "_law_within" 429:=by eq_refl
theorem ai2:BQ P Uo ["pen","form"]:=Up.binds (by ac_nf)
def Uq:FuncData:=fdM "_law_form_like" pF LN 682 442
theorem Ur:Fun (HK.K P) "_law_form_like" "_law_form_like" pF 443 Uq:=mkF
theorem ai3:NQ P "_law_form_like" 443:=by eq_refl
theorem ai4:BQ P Uq ["pen","width","forms"]:=Ur.binds (by ac_nf)
def Us:FuncData:=fdM "_law_forms" pG LN 682 502
theorem Ut:Fun (HK.K P) "_law_forms" "_law_forms" pG 503 Us:=mkF
theorem ai5:NQ P "_law_forms" 503:=by eq_refl
theorem ai6:BQ P Us ["rows"]:=Ut.binds (by ac_nf)
def Uu:FuncData:=fdM "_law_drawn_change" pH LN 682 509
theorem Uv:Fun (HK.K P) "_law_drawn_change" "_law_drawn_change" pH 510 Uu:=mkF
theorem ai7:NQ P "_law_drawn_change" 510:=by eq_refl
theorem ai8:BQ P Uu ["pen","width","rows","elder"]:=Uv.binds (by ac_nf)
def Uw:FuncData:=fdM "_law_elder" pI LN 682 523
theorem Ux:Fun (HK.K P) "_law_elder" "_law_elder" pI 524 Uw:=mkF
theorem ai9:NQ P "_law_elder" 524:=by eq_refl
theorem aja:BQ P Uw ["elder","word","rows"]:=Ux.binds (by ac_nf)
def Uy:FuncData:=fdM "_law_book" pJ LN 682 454
theorem Uz:Fun (HK.K P) "_law_book" "_law_book" pJ 455 Uy:=mkF
theorem ajb:NQ P "_law_book" 455:=by eq_refl
theorem ajc:BQ P Uy ["pen","widest","most"]:=Uz.binds (by ac_nf)
def UG:FuncData:=fdM "_law_layered_book" pK LN 682 497
theorem UJ:Fun (HK.K P) "_law_layered_book" "_law_layered_book" pK 498 UG:=mkF
theorem ajd:NQ P "_law_layered_book" 498:=by eq_refl
theorem aje:BQ P UG ["pen","widest","most"]:=UJ.binds (by ac_nf)
def UL:FuncData:=fdM "_law_open" pL LN 682 395
theorem UT:Fun (HK.K P) "_law_open" "_law_open" pL 396 UL:=mkF
theorem ajf:NQ P "_law_open" 396:=by eq_refl
theorem ajg:BQ P UL ["script"]:=UT.binds (by ac_nf)
def UV:FuncData:=fdM "fits" pM "starsieve.forms" 319 155
theorem UW:Fun (HK.K P) "fits" "fits" pM 156 UV:=mkF
theorem ajh:NQ P "fits" 156:=by eq_refl
theorem mD:BQ P UV ["form","word"]:=UW.binds (by ac_nf)
def U0:FuncData:=fdM "is_word" pN "starsieve.forms" 319 143
theorem U3:Fun (HK.K P) "is_word" "is_word" pN 144 U0:=mkF
theorem aji:NQ P "is_word" 144:=by eq_refl
theorem mF:BQ P U0 ["width","thing"]:=U3.binds (by ac_nf)
def U4:FuncData:=fdM "met" pO "starsieve.books" 400 221
theorem U5:Fun (HK.K P) "met" "met" pO 222 U4:=mkF
theorem ajj:NQ P "met" 222:=by eq_refl
theorem iV:BQ P U4 ["book","word"]:=U5.binds (by ac_nf)
def U6:FuncData:=fdM "reach" pP "starsieve.reached" 566 299
theorem U7:Fun (HK.K P) "reach" "reach" pP 300 U6:=mkF
theorem ajk:NQ P "reach" 300:=by eq_refl
theorem mG:BQ P U6 ["book","number"]:=U7.binds (by ac_nf)
def U8:FuncData:=fdM "hidden" pQ "starsieve.reached" 566 304
theorem U9:Fun (HK.K P) "hidden" "hidden" pQ 305 U8:=mkF
theorem Va:NQ P "hidden" 305:=by eq_refl
theorem mH:BQ P U8 ["book"]:=U9.binds (by ac_nf)
theorem ajl:NQ P "hidden_reached" 305:=by eq_refl
def Vb:FuncData:=fdM "_law_fits" pR LN 682 466
theorem Vc:Fun (HK.K P) "_law_fits" "_law_fits" pR 467 Vb:=mkF
theorem ajm:NQ P "_law_fits" 467:=by eq_refl
theorem ajn:BQ P Vb ["form","word"]:=Vc.binds (by ac_nf)
def Vd:FuncData:=fdM "_law_met" pU LN 682 473
theorem Ve:Fun (HK.K P) "_law_met" "_law_met" pU 474 Vd:=mkF
theorem ajo:NQ P "_law_met" 474:=by eq_refl
theorem ajp:BQ P Vd ["book","word"]:=Ve.binds (by ac_nf)
def Vf:FuncData:=fdM "_law_deed" pW LN 682 480
theorem Vg:Fun (HK.K P) "_law_deed" "_law_deed" pW 481 Vf:=mkF
theorem ajq:NQ P "_law_deed" 481:=by eq_refl
theorem ajr:BQ P Vf ["book","word"]:=Vg.binds (by ac_nf)
def BV:FuncData:=fdM "_law_same" pX LN 682 485
theorem v6:Fun (HK.K P) "_law_same" "_law_same" pX 486 BV:=mkF
theorem Vh:NQ P "_law_same" 486:=by eq_refl
theorem Vi:BQ P BV ["found","due"]:=v6.binds (by ac_nf)
def Vj:FuncData:=fdM "_law_words" pY LN 682 459
theorem Vk:Fun (HK.K P) "_law_words" "_law_words" pY 460 Vj:=mkF
theorem ajs:NQ P "_law_words" 460:=by eq_refl
theorem ajt:BQ P Vj ["form"]:=Vk.binds (by ac_nf)
def Vl:FuncData:=fdM "_law_some_words" pZ LN 682 528
theorem Vm:Fun (HK.K P) "_law_some_words" "_law_some_words" pZ 529 Vl:=mkF
theorem aju:NQ P "_law_some_words" 529:=by eq_refl
theorem ajv:BQ P Vl ["pen","width"]:=Vm.binds (by ac_nf)
def Vn:FuncData:=fdM "_law_under" p6 LN 682 490
theorem Vo:Fun (HK.K P) "_law_under" "_law_under" p6 491 Vn:=mkF
theorem ajw:NQ P "_law_under" 491:=by eq_refl
theorem ajx:BQ P Vn ["book","number"]:=Vo.binds (by ac_nf)
def Vp:FuncData:=fdQ "__init__" "Sieve.__init__" p7 "starsieve.sieve" 581 318
theorem Vq:Fun (HK.K P) "__init__" "Sieve.__init__" p7 319 Vp:=mkQ
theorem ajy:Mk (HK.K P) 378 319:=⟨by eq_refl,by eq_refl,by eq_refl,by eq_refl⟩
theorem ajz:BQ P Vp ["self","book"]:=Vq.binds (by ac_nf)
def Vr:FuncData:=fdQ "book" "Sieve.book" p8 "starsieve.sieve" 581 325
theorem Vs:Fun (HK.K P) "book" "Sieve.book" p8 326 Vr:=mkQ
theorem ajA:Meth (HK.K P) 378 (Str.ofString "book") 326:=⟨by eq_refl,by eq_refl,by eq_refl⟩
theorem mJ:BQ P Vr ["self"]:=Vs.binds (by ac_nf)
def Vt:FuncData:=fdQ "back" "Sieve.back" qb "starsieve.sieve" 581 374
theorem Vu:Fun (HK.K P) "back" "Sieve.back" qb 375 Vt:=mkQ
theorem ajB:Meth (HK.K P) 378 (Str.ofString "back") 375:=⟨by eq_refl,by eq_refl,by eq_refl⟩
theorem mK:BQ P Vt ["self"]:=Vu.binds (by ac_nf)
def Vv:FuncData:=fdQ "turn" "Sieve.turn" qd "starsieve.sieve" 581 346
theorem Vw:Fun (HK.K P) "turn" "Sieve.turn" qd 347 Vv:=mkQ
theorem ajC:Meth (HK.K P) 378 (Str.ofString "turn") 347:=⟨by eq_refl,by eq_refl,by eq_refl⟩
theorem mL:BQ P Vv ["self","rows"]:=Vw.binds (by ac_nf)
def Vx:FuncData:=fdQ "move" "Sieve.move" qe "starsieve.sieve" 581 367
theorem Vy:Fun (HK.K P) "move" "Sieve.move" qe 368 Vx:=mkQ
theorem ajD:Meth (HK.K P) 378 (Str.ofString "move") 368:=⟨by eq_refl,by eq_refl,by eq_refl⟩
theorem mO:BQ P Vx ["self","number","place"]:=Vy.binds (by ac_nf)
def Vz:FuncData:=fdQ "out" "Sieve.out" qg "starsieve.sieve" 581 360
theorem VB:Fun (HK.K P) "out" "Sieve.out" qg 361 Vz:=mkQ
theorem ajE:Meth (HK.K P) 378 (Str.ofString "out") 361:=⟨by eq_refl,by eq_refl,by eq_refl⟩
theorem mQ:BQ P Vz ["self","number"]:=VB.binds (by ac_nf)
def VD:FuncData:=fdQ "put" "Sieve.put" qi "starsieve.sieve" 581 353
theorem VF:Fun (HK.K P) "put" "Sieve.put" qi 354 VD:=mkQ
theorem ajF:Meth (HK.K P) 378 (Str.ofString "put") 354:=⟨by eq_refl,by eq_refl,by eq_refl⟩
theorem mR:BQ P VD ["self","number","form","deed"]:=VF.binds (by ac_nf)
def VG:FuncData:=fdM "_law_do" qj LN 682 516
theorem VH:Fun (HK.K P) "_law_do" "_law_do" qj 517 VG:=mkF
theorem ajG:NQ P "_law_do" 517:=by eq_refl
theorem ajH:BQ P VG ["sieve","word","pieces"]:=VH.binds (by ac_nf)
def VJ:FuncData:=fdQ "deed" "Sieve.deed" ql "starsieve.sieve" 581 332
theorem VL:Fun (HK.K P) "deed" "Sieve.deed" ql 333 VJ:=mkQ
theorem ajI:Meth (HK.K P) 378 (Str.ofString "deed") 333:=⟨by eq_refl,by eq_refl,by eq_refl⟩
theorem iW:BQ P VJ ["self","word"]:=VL.binds (by ac_nf)
def VM:FuncData:=fdQ "hidden" "Sieve.hidden" qm "starsieve.sieve" 581 339
theorem VN:Fun (HK.K P) "hidden" "Sieve.hidden" qm 340 VM:=mkQ
theorem ajJ:Meth (HK.K P) 378 (Str.ofString "hidden") 340:=⟨by eq_refl,by eq_refl,by eq_refl⟩
theorem ajK:BQ P VM ["self"]:=VN.binds (by ac_nf)
def VP:FuncData:=fdM "_law_no_word" qp LN 682 535
theorem VR:Fun (HK.K P) "_law_no_word" "_law_no_word" qp 536 VP:=mkF
theorem ajL:NQ P "_law_no_word" 536:=by eq_refl
theorem ajM:BQ P VP ["sieve","word"]:=VR.binds (by ac_nf)
def VV:FuncData:=fdM "_law_right" qt LN 682 540
theorem V0:Fun (HK.K P) "_law_right" "_law_right" qt 541 VV:=mkF
theorem ajN:NQ P "_law_right" 541:=by eq_refl
theorem ajO:BQ P VV ["pen","sieve","book"]:=V0.binds (by ac_nf)
def BW:FuncData:=fdM "law" qu LN 682 547
theorem ajP:Fun (HK.K P) "law" "law" qu 548 BW:=mkF
theorem ajQ:NQ P "law" 548:=by eq_refl
theorem ajR:PySem.W.nsIn (HK.K P) mainGlobals "all"=some none:=by eq_refl
theorem ajS:PySem.W.nsIn (HK.K P) mainGlobals "bool"=some none:=by eq_refl
theorem ajT:PySem.W.nsIn (HK.K P) mainGlobals "enumerate"=some none:=by eq_refl
theorem ajU:PySem.W.nsIn (HK.K P) mainGlobals "int"=some none:=by eq_refl
theorem ajV:PySem.W.nsIn (HK.K P) mainGlobals "isinstance"=some none:=by eq_refl
theorem ajW:PySem.W.nsIn (HK.K P) mainGlobals "len"=some none:=by eq_refl
theorem ajX:PySem.W.nsIn (HK.K P) mainGlobals "list"=some none:=by eq_refl
theorem ajY:PySem.W.nsIn (HK.K P) mainGlobals "min"=some none:=by eq_refl
theorem ajZ:PySem.W.nsIn (HK.K P) mainGlobals "range"=some none:=by eq_refl
theorem aj0:PySem.W.nsIn (HK.K P) mainGlobals "str"=some none:=by eq_refl
theorem aj1:PySem.W.nsIn (HK.K P) mainGlobals "tuple"=some none:=by eq_refl
theorem aj2:PySem.W.nsIn (HK.K P) mainGlobals "zip"=some none:=by eq_refl
theorem aj3:PySem.W.nsIn (HK.K P) mainGlobals "LETTERS"=some (some (.str "abcdefghijklmnopqrstuvwxyz" 406)):=by eq_refl
theorem aj4:PySem.W.nsIn (HK.K P) mainGlobals "LONGEST_DEED"=some (some (.int 8 404)):=by eq_refl
theorem aj5:PySem.W.nsIn (HK.K P) mainGlobals "MOST_ROWS"=some (some (.int 12 402)):=by eq_refl
theorem aj6:PySem.W.nsIn (HK.K P) mainGlobals "WIDEST"=some (some (.int 6 321)):=by eq_refl
theorem x_s:xsB (HK.K P) xs=true:=by eq_refl
end
section
variable {l:PySem.W.OpenLaw} {w:World} {h:Heap} {mg:Str->Option Value} {base:Heap} (X:(HK.K w.params).In h) (G:h.Ns mainGlobals mg)
include X G
theorem B0:BB l w mg base 0 f0 o0:=bse trivial ⟨mg_none_of X G ajR,mg_none_of X G ajS,mg_none_of X G ajT,mg_none_of X G ajU,mg_none_of X G ajV,mg_none_of X G ajW,mg_none_of X G ajX,mg_none_of X G ajY,mg_none_of X G ajZ,mg_none_of X G aj0,mg_none_of X G aj1,mg_none_of X G aj2,trivial⟩ ⟨adE (mg_of X G aj3) (by ac_rfl) (by decide),yZ (mg_of X G aj4),yZ (mg_of X G aj5),yZ (mg_of X G aj6),trivial⟩ X G x_s
theorem B1:BB l w mg base 1 f1 o0:=(B0 X G).step R5 lG (mg_of X G aip) Bd 0 agg agh rfl rfl (cO (λa G h=>aef Φ  a G h))
theorem B2:BB l w mg base 2 f2 o0:=(B1 X G).step R7 jO (mg_of X G aiq) Be 0 agi agj rfl rfl (eZ (λds G d h=>adU Φ  ds G d h))
theorem B3:BB l w mg base 3 f3 o0:=(B2 X G).step R9 lH (mg_of X G air) Bg 0 agk agl rfl rfl (cO (λa G h=>afR Φ Be a G h))
theorem B4:BB l w mg base 4 f4 o0:=(B3 X G).step Sg lJ (mg_of X G ais) Ra 0 agm agn rfl rfl (cO (λa G h=>aeg Φ Bg Bd a G h))
theorem B5:BB l w mg base 5 f5 o0:=(B4 X G).step Sq lK (mg_of X G ait) Bh 0 ago agp rfl rfl (eZ (λds G d h=>adT Φ  ds G d h))
theorem B6:BB l w mg base 6 f6 o0:=(B5 X G).step Su lL (mg_of X G aiu) Rb 0 agq agr rfl rfl (cO (λa G h=>aeh Φ Bh a G h))
theorem B7:BB l w mg base 7 f7 o0:=(B6 X G).step Sy lM (mg_of X G aiv) Rc 2 ags agt rfl rfl (cO (λa G h=>aei Φ Rb Ra a G h))
theorem B8:BB l w mg base 8 f8 o0:=(B7 X G).step SN lN (mg_of X G aiw) jg 0 agu agv rfl rfl (cO (λa G h=>aej Φ Rc a G h))
theorem B9:BB l w mg base 9 f9 o0:=(B8 X G).step SX aiy (mg_of X G aix) Rf 0 agw agx rfl rfl (bQ (λds G h=>adM Φ  ds G h))
theorem B10:BB l w mg base 10 f10 o0:=(B9 X G).step S6 lO (mg_of X G aiz) Rg 3 agy agz rfl rfl (eZ (λds G d h=>aeu Φ  ds G d h))
theorem B11:BB l w mg base 11 f11 o0:=(B10 X G).step S8 lQ (mg_of X G aiA) Bj 2 agA agB rfl rfl (bQ (λds G h=>aeA Φ Rg ds G h))
theorem B12:BB l w mg base 12 f12 o0:=(B11 X G).step Tc lU (mg_of X G aiB) Rh 3 agC agD rfl rfl (bQ (λds G h=>aeD Φ Bj ds G h))
theorem B13:BB l w mg base 13 f13 o0:=(B12 X G).step Te lV (mg_of X G aiC) Bk 0 agE agF rfl rfl (eZ (λds G d h=>aev Φ  ds G d h))
theorem V1:∀n:Nat,FnOk l.prog w (HK.K w.params) mg base (CX1 l.prog w) (13+n) 269 BL ["name","many_rows","box"] (lift (HK.K w.params) 3 (d9 n))
 |0=>za aeK
 |n+1=>jK (fs:=f14) vY ((B13 X G).self (by ac_rfl) (V1 n) vY.kp jP (mg_of X G Tf)) (d9 (n+1)) 3 4 agG agH rfl rfl (bQ (λds G h=>aeJ (gO Φ "grown" (d9 n)) n (if_pos rfl) (jN Bj rfl) (jN Rh rfl) (jN Bk rfl) ds G h))
theorem B14:BB l w mg base 22 f14 o0:=(B13 X G).add (j:=9) Bl (V1 X G 9) vY.kp jP (mg_of X G Tf)
theorem B15:BB l w mg base 23 f15 o0:=(B14 X G).add (j:=1) Bm ((aio BP).cx.mono (by decide)) BP.kp aiE (mg_of X G aiD)
theorem B16:BB l w mg base 24 f16 o0:=(B15 X G).step Tj lW (mg_of X G aiF) Ri 0 agI agJ rfl rfl (eZ (λds G d h=>aeT Φ  ds G d h))
theorem B17:BB l w mg base 25 f17 o0:=(B16 X G).step Tp lX (mg_of X G aiG) vV 0 agK agL rfl rfl (eZ (λds G d h=>aeR Φ Bh ds G d h))
theorem V2:∀n:Nat,FnOk l.prog w (HK.K w.params) mg base (CX1 l.prog w) (25+n) 250 BR ["box","tree"] (lift (HK.K w.params) 2 (dN n))
 |0=>za aeW
 |n+1=>jK (fs:=f18) vZ ((B17 X G).self (by ac_rfl) (V2 n) vZ.kp iU (mg_of X G Tq)) (dN (n+1)) 2 3 agM agN rfl rfl (cO (λa G h=>aeY (gO Φ "leaves" (dN n)) n (if_pos rfl) (jN Ri rfl) (jN vV rfl) (jN Bk rfl) a G h))
theorem B18:BB l w mg base 34 f18 o0:=(B17 X G).add (j:=9) Bo (V2 X G 9) vZ.kp iU (mg_of X G Tq)
theorem B19:BB l w mg base 35 f19 o0:=(B18 X G).step Tu lY (mg_of X G aiH) Rj 0 agO agP rfl rfl (cO (λa G h=>afj Φ jg a G h))
theorem B20:BB l w mg base 36 f20 o0:=(B19 X G).step Tw jQ (mg_of X G aiI) Bp 0 agQ agR rfl rfl (bQ (λds G h=>aeo Φ  ds G h))
theorem B21:BB l w mg base 37 f21 o0:=(B20 X G).step TF lZ (mg_of X G aiJ) Rk 0 agS agT rfl rfl (cO (λa G h=>afl Φ Bp a G h))
theorem B22:BB l w mg base 38 f22 o0:=(B21 X G).step TV mj (mg_of X G aiK) Rm 0 agU agV rfl rfl (eZ (λds G d h=>aew Φ  ds G d h))
theorem B23:BB l w mg base 39 f23 o0:=(B22 X G).step T3 mq (mg_of X G aiL) Rn 3 agW agX rfl rfl (b7 (λa ds G h=>afn Φ Rj Bl Bo Bm Rm Rk a ds G h))
theorem B24:BB l w mg base 40 f24 o0:=(B23 X G).step T5 my (mg_of X G aiM) Bq 2 agY agZ rfl rfl (cO (λa G h=>afq Φ Rn a G h))
theorem B25:BB l w mg base 41 f25 o0:=(B24 X G).step T7 mz (mg_of X G aiN) vW 0 ag0 ag1 rfl rfl (cO (λa G h=>ae4 Φ jg vV a G h))
theorem B26:BB l w mg base 42 f26 o0:=(B25 X G).step T9 mC (mg_of X G aiO) Br 2 ag2 ag3 rfl rfl (cO (λa G h=>afr Φ vW a G h))
theorem B27:BB l w mg base 43 f27 o0:=(B26 X G).step Ub aiQ (mg_of X G aiP) Ro 3 ag4 ag5 rfl rfl (bQ (λds G h=>adL Φ  ds G h))
theorem B28:BB l w mg base 44 f28 o0:=(B27 X G).step Ud aiS (mg_of X G aiR) eH 3 ag6 ag7 rfl rfl (bQ (λds G h=>adN Φ Ro ds G h))
theorem B29:BB l w mg base 45 f29 o0:=(B28 X G).step Ug aiU (mg_of X G aiT) nO 0 ag8 ag9 rfl rfl (bQ (λds G h=>adQ Φ eH ds G h))
theorem B30:BB l w mg base 46 f30 o0:=(B29 X G).step Ui aiW (mg_of X G aiV) Bt 4 aha ahb rfl rfl (bQ (λds G h=>ad7 Φ eH nO ds G h))
theorem B31:BB l w mg base 47 f31 o0:=(B30 X G).step Uk aiY (mg_of X G aiX) Rp 0 ahc ahd rfl rfl (bQ (λds G h=>adR Φ eH nO ds G h))
theorem B32:BB l w mg base 48 f32 o0:=(B31 X G).step Um ai0 (mg_of X G aiZ) Rq 2 ahe ahf rfl rfl (bQ (λds G h=>ad2 Φ eH ds G h))
theorem B33:BB l w mg base 49 f33 o0:=(B32 X G).step Up ai2 (mg_of X G ai1) Bu 2 ahg ahh rfl rfl (bQ (λds G h=>ad1 Φ eH ds G h))
theorem B34:BB l w mg base 50 f34 o0:=(B33 X G).step Ur ai4 (mg_of X G ai3) Bv 3 ahi ahj rfl rfl (bQ (λds G h=>ad5 Φ eH Rp Bu Rq ds G h))
theorem B35:BB l w mg base 51 f35 o0:=(B34 X G).step Ut ai6 (mg_of X G ai5) Rt 0 ahk ahl rfl rfl (cO (λa G h=>afD Φ  a G h))
theorem B36:BB l w mg base 52 f36 o0:=(B35 X G).step Uv ai8 (mg_of X G ai7) Ru 6 ahm ahn rfl rfl (b7 (λa ds G h=>afF Φ eH Bv Rt Bt a ds G h))
theorem B37:BB l w mg base 53 f37 o0:=(B36 X G).step Ux aja (mg_of X G ai9) Rv 0 aho ahp rfl rfl (cO (λa G h=>afP Φ  a G h))
theorem B38:BB l w mg base 54 f38 o0:=(B37 X G).step Uz ajc (mg_of X G ajb) Rw 5 ahq ahr rfl rfl (bQ (λds G h=>ad9 Φ eH Bt Bv ds G h))
theorem B39:BB l w mg base 55 f39 o0:=(B38 X G).step UJ aje (mg_of X G ajd) Rx 9 ahs aht rfl rfl (b7 (λa ds G h=>afd Φ eH Rw Bu a ds G h))
theorem B40:BB l w mg base 56 f40 o0:=(B39 X G).step UT ajg (mg_of X G ajf) Ry 3 ahu ahv rfl rfl (bQ (λds G h=>adS Φ  ds G h))
theorem B41:BB l w mg base 57 f41 o0:=(B40 X G).step UW mD (mg_of X G ajh) Rz 0 ahw ahx rfl rfl (eZ (λds G d h=>ael Φ  ds G d h))
theorem B42:BB l w mg base 58 f42 o0:=(B41 X G).step U3 mF (mg_of X G aji) Bw 0 ahy ahz rfl rfl (eZ (λds G d h=>adV Φ Be ds G d h))
theorem B43:BB l w mg base 59 f43 o0:=(B42 X G).stepX U5 iV (mg_of X G ajj) Bx 4 ahA ahB rfl rfl (QZ rfl (bQ (λds G h=>afT Φ jg Bw Rz ds G h)) (λds G C h=>afU Φ jg Bw ds G C h))
theorem B44:BB l w mg base 60 f44 o0:=(B43 X G).step U7 mG (mg_of X G ajk) RB 4 ahC ahD rfl rfl (b7 (λa ds G h=>ae6 Φ vW Bl Bo Bm a ds G h))
theorem B45:BB l w mg base 61 f45 o0:=(B44 X G).step U9 mH (mg_of X G Va) RC 0 ahE ahF rfl rfl (b7 (λa ds G h=>afg Φ jg RB a ds G h))
theorem B46:BB l w mg base 62 f46 o0:=(B45 X G).alias (x:="hidden") (by ac_rfl) (RD.trans RC.symm) ((mg_of X G ajl).trans (mg_of X G Va).symm)
theorem B47:BB l w mg base 63 f47 o0:=(B46 X G).step Vc ajn (mg_of X G ajm) RG 2 ahG ahH rfl rfl (eZ (λds G d h=>aeO Φ  ds G d h))
theorem B48:BB l w mg base 64 f48 o0:=(B47 X G).step Ve ajp (mg_of X G ajo) By 2 ahI ahJ rfl rfl (cO (λa G h=>aeQ Φ RG a G h))
theorem B49:BB l w mg base 65 f49 o0:=(B48 X G).step Vg ajr (mg_of X G ajq) RJ 1 ahK ahL rfl rfl (cO (λa G h=>afp Φ By a G h))
theorem V3:∀n:Nat,FnOk l.prog w (HK.K w.params) mg base (CX1 l.prog w) (65+n) 486 BV ["found","due"] (lift (HK.K w.params) 2 (fH n))
 |0=>za af7
 |n+1=>jK (fs:=f50) v6 ((B49 X G).self (by ac_rfl) (V3 n) v6.kp Vi (mg_of X G Vh)) (fH (n+1)) 2 0 ahM ahN rfl rfl (bQ (λds G h=>af6 (gO Φ "_law_same" (fH n)) n (if_pos rfl) ds G h))
theorem B50:BB l w mg base 67 f50 o0:=(B49 X G).add (j:=2) RK (V3 X G 2) v6.kp Vi (mg_of X G Vh)
theorem B51:BB l w mg base 68 f51 o0:=(B50 X G).step Vk ajt (mg_of X G ajs) BJ 4 ahO ahP rfl rfl (bQ (λds G h=>aec Φ  ds G h))
theorem B52:BB l w mg base 69 f52 o0:=(B51 X G).step Vm ajv (mg_of X G aju) RL 0 ahQ ahR rfl rfl (b7 (λa ds G h=>af4 Φ BJ nO a ds G h))
theorem B53:BB l w mg base 70 f53 o0:=(B52 X G).step Vo ajx (mg_of X G ajw) RM 2 ahS ahT rfl rfl (b7 (λa ds G h=>ae8 Φ BJ By a ds G h))
theorem BF:BB l w mg base 70 f53 o1:=(B53 X G).addF ⟨378,eN,fK,R3⟩
theorem B54:BB l w mg base 72 f53 o2:=(BF X G).addK (j:=2) (adK (BF X G) Vq ajz (mg_of X G eN) eN fK R3 ajy ahU ahV rfl rfl (λd G kk E h=>afB Φ jg RN d G kk E h))
theorem B55:BB l w mg base 73 f53 o3:=(B54 X G).stepM0 Vs mJ eN fK ajA gm 0 ahW ahX rfl rfl (b7 (λa ds G h=>afs Φ  a ds G h))
theorem B56:BB l w mg base 74 f53 o4:=(B55 X G).stepM0 Vu mK eN fK ajB RP 1 ahY ahZ rfl rfl (b7 (λa ds G h=>afz Φ gm Bq a ds G h))
theorem B57:BB l w mg base 75 f53 o5:=(B56 X G).stepM0 Vw mL eN fK ajC vX 1 ah0 ah1 rfl rfl (b7 (λa ds G h=>afv Φ gm Bq a ds G h))
theorem B58:BB l w mg base 76 f53 o6:=(B57 X G).stepM0 Vy mO eN fK ajD RQ 2 ah2 ah3 rfl rfl (b7 (λa ds G h=>afy Φ gm vX Br vW a ds G h))
theorem B59:BB l w mg base 77 f53 o7:=(B58 X G).stepM0 VB mQ eN fK ajE RT 0 ah4 ah5 rfl rfl (b7 (λa ds G h=>afx Φ gm vX Br a ds G h))
theorem B60:BB l w mg base 78 f53 o8:=(B59 X G).stepM0 VF mR eN fK ajF RV 2 ah6 ah7 rfl rfl (b7 (λa ds G h=>afw Φ gm vX vV Bg Bd a ds G h))
theorem B61:BB l w mg base 79 f54 o8:=(B60 X G).step VH ajH (mg_of X G ajG) RW 0 ah8 ah9 rfl rfl (b7 (λa ds G h=>afM Φ RV RT RQ RP a ds G h))
theorem B62:BB l w mg base 80 f54 o9:=(B61 X G).stepM VL iW eN fK ajI BK 0 aia aib rfl rfl (QZ rfl (b7 (λa ds G h=>afX Φ gm Bx Bp a ds G h)) (λds G C h=>afY Φ gm Bx ds G C h))
theorem B63:BB l w mg base 81 f54 o10:=(B62 X G).stepM0 VN ajK eN fK ajJ RX 0 aic aid rfl rfl (b7 (λa ds G h=>af2 Φ gm RD a ds G h))
theorem B64:BB l w mg base 82 f55 o10:=(B63 X G).step VR ajM (mg_of X G ajL) RZ 1 aie aif rfl rfl (b7 (λa ds G h=>af0 Φ BK a ds G h))
theorem B65:BB l w mg base 83 f56 o10:=(B64 X G).step V0 ajO (mg_of X G ajN) R0 4 aig aih rfl rfl (b7 (λa ds G h=>af8 Φ ⟨RL,RK,BK,RJ,nO,RZ,RM,RX⟩ a ds G h))
theorem aj7:FnOk l.prog w (HK.K w.params) mg base (CX1 l.prog w) 84 548 BW ["script"] (lift (HK.K w.params) 1 (mU)):=jK ajP (B65 X G) (mU) 1 11 aii aij rfl rfl (bQ (λds G h=>af9 Φ ⟨Ry,Rf,eH,Rx,RN,R0,Ru,RW,Rv⟩ ds G h))
omit X G in
theorem all (fa:Addr) (X:(HK.K w.params).In h) (G:h.Ns mainGlobals mg) (hfa:mg "law"=some (.ref fa)):∃fd:FuncData,(∀(s:Shared) (v:Value),BindsTo s fd ⟨[v],[]⟩ [("script",v)])/\∀base:Heap,(HK.K w.params).In base->base.Ns mainGlobals mg->FnOk l.prog w (HK.K w.params) mg base (CX1 l.prog w) 84 fa fd ["script"] (lift (HK.K w.params) 1 (mU)):=by have e:=hfa.symm.trans (PySem.W.mg_of X G ajQ);cases e;exact ⟨BW,λs v=>.of_eq rfl,λbase _ _=>aj7 X G⟩
end
theorem walk {l:PySem.W.OpenLaw} {q:Program} {loose:List Str} {XP:(Str->Option Value)->Heap->Prop} {d:DefRec} (hn:l.most=some 63) (hdf:d.params.defaults=[]) (hdn:d.name="law"):
  PySem.W.WalkO q loose XP HK.hook.says l.row.toRowW d [] (λf vs=>PySem.call f vs):=
 L2.Zq (n:=63) (k:=84) (x:="script") (K:=HK.K) (CX:=λw=>CX1 l.prog w) (sp:=λw=>lift (HK.K w.params) 1 (mU)) hn (by decide) hdf ⟨rfl,by decide,by decide⟩ (λ_ _ Y=>Y) (λw mg fa h X G hmg=>all fa X G (hdn ▸ hmg)) (λw H a ns hl hO hS=>adF (adG λns _ hl=>⟨ns,rfl,hl⟩) (HK.K w.params) H a ns hl hO hS) λ_ _ _ _ _ z=>adv z
end Lk61
open PySem PySem.W PyProof.Rows
set_option maxRecDepth 100000 in
set_option maxHeartbeats 0 in
theorem PySem.Challenge.cw_starsieve_k61_what_a_sieve_tells_holds : PySem.Challenge.rw_starsieve_k61_what_a_sieve_tells.Holds := by
 have said:PySem.Challenge.rw_starsieve_k61_what_a_sieve_tells.row.wellSaid=true:=by ac_rfl
 refine ⟨by ac_rfl,?_⟩;refine PySem.W.holds_open (q:=HK.qv) (loose:=["hidden_reached"]) (Xt:=HK.Xt) (XP:=XL HK.qv []) (Yf:=HK.hook.obs) (Ya:=HK.hook.val) (YP:=HK.hook.says) (N:=12000) HK.left HK.hook.of HK.hook.keeps
  (λs e=>xl_of s (Bool.and_eq_true_iff.mp e).1) XL.keeps (by rfl) (by rfl) (by rfl) (λs e=>recFacts_of (Bool.and_eq_true_iff.mp e).2) (by rfl) (by assumption) (by ac_rfl) ⟨rfl,rfl,rfl,rfl,rfl,by ac_rfl⟩ ?hw ?hc
 case hw=>exact ⟨[.list []],by ac_rfl,by ac_rfl⟩
 exact Lk61.walk rfl rfl rfl
