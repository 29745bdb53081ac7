import PyProof.Rows.All
import Wide.All
import OpenK.AllK
import Wide.FinOn
import Lean
import PyProof.EqAt
import PyProof.EqKinds
import PyProof.TupleCall
import PyProof.NeKinds
import PyProof.FactsAll.range_2
import PyProof.FactsAll.tuple_2
import PyProof.FactsAll.tuple
import PyProof.ListRange
import PySem.Challenge.RW_starsieve_k65_whole_sieves_and_books
set_option Elab.async false
set_option maxRecDepth 100000
noncomputable section
local macro_rules|`(tactic|rfl')=>`(tactic|kernel_rfl)
set_option Elab.async false
set_option linter.all false
set_option maxRecDepth 100000
namespace L2
open PySem PySem.Spec PyProof.Rows
def ae:=@Bool.and_eq_true
def af:=@And.intro
def ag:=@PySem.wpAny_bind
def ah:=@PySem.Heap.get?_push_of_some
def al:=@List.length_map
def am:=@List.getElem?_eq_some_iff
def ar:=@List.size_toArray
def av:=@beq_iff_eq
def aw:=@Nat.le_refl
def ax:=@PySem.Heap.lt_size
def ay:=@List.length_append
def aE:=@Option.some.injEq
def aI:=@List.getElem?_eq_getElem
def aS:=@List.mem_append
def aT:=@List.mem_cons
def a7:=@List.contains_iff_mem
def a8:=@Option.map_eq_some_iff
def a9:=@List.mem_singleton
def ba:=@PySem.Heap.get?_push_size
def bb:=@PySem.wpAny_pure
def bd:=@List.drop_eq_getElem_cons
def bg:=@Nat.lt_of_lt_of_le
def bi:=@List.mem_cons_of_mem
def bn:=@List.map_cons
def bo:=@List.mem_append_right
def bp:=@List.getElem?_map
def bq:=@decide_eq_true_iff
def br:=@Bool.false_ne_true
def bv:=@decide_eq_true
theorem bP:type_of% @List.replicate_succ:=@List.replicate_succ
def bS:=@List.mem_cons_self
def bX:=@List.mem_map
def b6:=@List.length_take
def b9:=@List.all_eq_true
def ca:=@List.length_replicate
theorem cb:type_of% @List.length_cons:=@List.length_cons
def ce:=@List.mem_of_getElem?
def cf:=@Nat.le_add_right
def ci:=@List.length_drop
def ck:=@Nat.ne_of_lt
def cm:=@Nat.le_trans
def cp:=@Option.isSome_iff_exists
def cq:=@decide_eq_false
def cr:=@List.cons.injEq
def cw:=@List.getElem_mem
def cy:=@Int.eq_ofNat_of_zero_le
def cK:=@List.drop_eq_nil_of_le
def cS:=@Bool.or_eq_true
def c5:=@beq_eq_false_iff_ne
theorem c6:type_of% @Int.toNat_natCast:=@Int.toNat_natCast
def c8:=@List.length_eq_zero_iff
def c9:=@PySem.wpAny_mono
def dc:=@List.getD_eq_getElem?_getD
def de:=@List.mem_filter
def df:=@List.take_of_length_le
def dk:=@of_decide_eq_true
def dn:=@PySem.W.kia_one
def dr:=@Option.some.inj
def dv:=@List.map_append
def dy:=@PySem.wpAny_field
def dE:=@PySem.Heap.size_push
theorem dL:type_of% @Array.length_toList:=@Array.length_toList
def dP:=@List.map_nil
def dQ:=@PySem.mem_of_lookup
def dS:=@List.length_set
def d5:=@Nat.lt_irrefl
def d6:=@PySem.F.plainAttrs_list
def ee:=@List.filter_eq_nil_iff
def eg:=@PySem.wpAny_truthy_bool
def eh:=@Nat.zero_le
def ej:=@List.getElem?_append_left
def ek:=@PySem.wpAny_setField_rec
def et:=@PySem.wpAny_seqItems
def ez:=@List.mem_append_left
theorem eA:type_of% @List.flatten_cons:=@List.flatten_cons
def eD:=@PyProof.Rows.slot_tuple_getitem
def eI:=@List.drop_length
def eJ:=@PySem.wpAny_holding
theorem eK:type_of% @List.length_singleton:=@List.length_singleton
def eL:=@List.findIdx?_cons
def eM:=@Int.emod_lt_of_pos
def eP:=@PySem.wpAny_callSpecial?_slot
def eR:=@congrArg
def eS:=@and_true
def eT:=@List.dropLast_concat_getLast
def eW:=@List.append_nil
def e6:=@Int.emod_nonneg
def e7:=@Bool.eq_iff_iff
def e8:=@PyProof.Rows.callWith_type1
def e9:=@Bool.not_eq_true'
def fb:=@List.mem_of_mem_take
theorem fe:type_of% @List.filterMap_cons:=@List.filterMap_cons
def ff:=@Option.isNone_iff_eq_none
def fg:=@PySem.call_meets
def fh:=@PySem.F.slot_tuple_iterator_next
def fi:=@List.filter_append
def fk:=@Nat.le_succ
def fm:=@List.findIdx?_eq_some_iff_getElem
def fo:=@bne_self_eq_false
def fq:=@Nat.ne_of_gt
def ft:=@List.take_add_one
def fv:=@List.map_map
def fw:=@PySem.sizeLine_eq
def fy:=@List.cons_lt_cons_iff
def fA:=@Array.getElem?_toList
def fE:=@List.take_length
def fF:=@List.isEmpty_iff
def fI:=@PySem.wpAny_call_entry
abbrev Key:=Sum Int Str
def Bb:Key->Value->Bool
 |.inl k,v=>Value.isInt k v
 |.inr x,v=>Value.isStrOf x v
def Ua(w:World):Key->Int
 |.inl k=>hashInt k
 |.inr x=>hashStr w x
theorem fB:∀{k:Key}{v:Value},Bb k v=true->(∃i t,k=Sum.inl i/\v=Value.int i t)\/(∃x t,k=Sum.inr x/\v=Value.str x t)
 |.inl i,v,h=>by
  obtain ⟨t,e⟩:=Value.isInt_shape (k:=i) (v:=v) h;exact .inl ⟨i,t,rfl,e⟩
 |.inr x,v,h=>by
  obtain ⟨t,e⟩:=Value.isStrOf_shape (x:=x) (v:=v) h;exact .inr ⟨x,t,rfl,e⟩
theorem Ub(a b:Int):decide ((Sum.inl a:Key)=Sum.inl b)=(a==b):=by
 by_cases e:a=b
 ·subst e;simp
 ·have h:¬(Sum.inl a:Key)=Sum.inl b:=λq=>e (Sum.inl.inj q);rw[cq h];exact (c5.mpr e).symm
theorem Uc(a b:Str):decide ((Sum.inr a:Key)=Sum.inr b)=decide (a=b):=by
 by_cases e:a=b
 ·subst e;simp
 ·have h:¬(Sum.inr a:Key)=Sum.inr b:=λq=>e (Sum.inr.inj q);rw[cq h,cq e]
theorem Ud(a:Int)(b:Str):decide ((Sum.inl a:Key)=Sum.inr b)=false:=cq (λq=>nomatch q)
theorem Ue(a:Str)(b:Int):decide ((Sum.inr a:Key)=Sum.inl b)=false:=cq (λq=>nomatch q)
def vC(prog:Program)(w:World):PySem.KeyKind prog w Key where
 is:=Bb
 hash:=Ua w
 inj:=λv a b ha hb=>by
  rcases fB ha with ⟨i,t,rfl,rfl⟩ |⟨x,t,rfl,rfl⟩
  ·rcases fB hb with ⟨j,u,rfl,e⟩ |⟨y,u,rfl,e⟩
   ·injection e with e1 _;rw[e1]
   ·exact nomatch e
  ·rcases fB hb with ⟨j,u,rfl,e⟩ |⟨y,u,rfl,e⟩
   ·exact nomatch e
   ·injection e with e1 _;rw[e1]
 byValue:=λk v h=>by
  rcases fB h with ⟨i,t,rfl,rfl⟩ |⟨x,t,rfl,rfl⟩ <;> rfl
 pyHash:=λhv h=>by
  rcases fB hv with ⟨i,t,rfl,rfl⟩ |⟨x,t,rfl,rfl⟩
  ·exact wpAny_pyHash_int h
  ·exact wpAny_pyHash_str h
 eqBool:=λhu hv h=>by
  rcases fB hu with ⟨i,t,rfl,rfl⟩ |⟨x,t,rfl,rfl⟩
  ·rcases fB hv with ⟨j,u,rfl,rfl⟩ |⟨y,u,rfl,rfl⟩
   ·rw[Ub]at h;exact wpAny_eqBool_int h
   ·rw[Ud]at h;exact SeqAt.EqAt.int_str i t y u _ _ _ _ h
  ·rcases fB hv with ⟨j,u,rfl,rfl⟩ |⟨y,u,rfl,rfl⟩
   ·rw[Ue]at h;exact SeqAt.EqAt.str_int x t j u _ _ _ _ h
   ·rw[Uc]at h;exact wpAny_eqBool_str h
 «strs»:=λk x t v h=>by
  rcases fB h with ⟨i,u,rfl,e⟩ |⟨y,u,rfl,e⟩
  ·exact nomatch e
  ·injection e with e1 _;subst e1;cases v <;> rfl
inductive V where
 |non |bl (b:Bool) |int (i:Int) |str (x:Str) |byt (b:Array UInt8) |flt (b:UInt64) |ref (a:Addr) |ty (n:String)
 deriving DecidableEq
def RelV:V->Value->Prop
 |.non,u=>u=Value.none
 |.bl b,u=>u=Value.bool b
 |.int i,u=>∃t,u=Value.int i t
 |.str x,u=>∃t,u=Value.str x t
 |.byt b,u=>∃t,u=Value.bytes b t
 |.flt b,u=>∃t,u=Value.float b t
 |.ref a,u=>u=Value.ref a
 |.ty n,u=>u=Value.type n
abbrev Vals:List V->List Value->Prop:=Paired RelV
theorem Vals.length{xs:List V}{us:List Value}(r:Vals xs us):xs.length=us.length:=Paired.length r
theorem Vals.get:∀{xs:List V}{us:List Value}{i:Nat}{x:V},Vals xs us->xs[i]?=some x->∃u,us[i]?=some u/\RelV x u
 |_,_,_,_,.nil,e=>by simp at e
 |_,_,0,_,.cons r _,e=>by simp at e;subst e;exact ⟨_,rfl,r⟩
 |_,_,i+1,x,.cons _ t,e=>by
  obtain ⟨u,h1,h2⟩:=Vals.get (i:=i) (x:=x) t (by simpa using e);exact ⟨u,by simpa using h1,h2⟩
theorem Vals.set{x:V}{u:Value}(r:RelV x u):∀{xs:List V}{us:List Value}(i:Nat),Vals xs us->Vals (xs.set i x) (us.set i u)
 |_,_,_,.nil=>.nil
 |_,_,0,.cons _ t=>.cons r t
 |_,_,i+1,.cons q t=>.cons q (Vals.set r i t)
theorem Vals.append:∀{xs ys:List V}{us ws:List Value},Vals xs us->Vals ys ws->Vals (xs++ys) (us++ws)
 |_,_,_,_,.nil,s=>s
 |_,_,_,_,.cons r t,s=>.cons r (Vals.append t s)
theorem Vals.take:∀{xs:List V}{us:List Value}(n:Nat),Vals xs us->Vals (xs.take n) (us.take n)
 |_,_,0,_=>.nil
 |_,_,_+1,.nil=>.nil
 |_,_,n+1,.cons r t=>.cons r (Vals.take n t)
theorem Vals.drop:∀{xs:List V}{us:List Value}(n:Nat),Vals xs us->Vals (xs.drop n) (us.drop n)
 |_,_,0,r=>r
 |_,_,_+1,.nil=>.nil
 |_,_,n+1,.cons _ t=>Vals.drop n t
def RelO:Option V->Option Value->Prop
 |some v,some u=>RelV v u
 |none,none=>True
 |_,_=>False
def KV{κ:Type}:List (κ×V)->List (κ×Value)->Prop:=Paired λ(p:κ×V) (q:κ×Value)=>p.1=q.1/\RelV p.2 q.2
def kV:Key->V
 |.inl i=>.int i
 |.inr x=>.str x
inductive HO where
 |lst (xs:List V)
 |tup (xs:List V)
 |dK (kvs:List (Key×V)) |dT (kvs:List (List Key×V))
 |set (S:Int->Bool) (n:Nat)
 |ins (C dx:Addr) (fs:List (Str×V))
 |own (x:Addr)
 |xd (fs:List (Str×V))
 |met (f x:Addr)
 |rng (lo hi:Int)
 |frz (o:Obj) (u:HO)
 |tbl (ps:Array Value)
 |ext (φ:Heap->Prop)
abbrev Hp:=Addr->Option HO
def upd(H:Hp)(a:Addr)(o:HO):Hp:=λb=>if b=a then some o else H b
theorem cJ{H:Hp}{a:Addr}{o:HO}:upd H a o a=some o:=by unfold upd;rw[if_pos rfl]
theorem aJ{H:Hp}{a b:Addr}{o:HO}(h:b≠a):upd H a o b=H b:=by unfold upd;rw[if_neg h]
theorem Bc{H:Hp}{a b:Addr}{o u:HO}(h:H a=some o)(h':H b=some u)(d:o≠u):a≠b:=by intro e;subst e;rw[h]at h';exact d (dr h')
theorem bu{H:Hp}{a b:Addr}{o:HO}(h:H a=some o)(h':H b=none):a≠b:=by intro e;subst e;rw[h]at h';cases h'
section
variable (P:Program) (w:World)
def ObjOk(H:Hp)(h:Heap)(a:Addr):HO->Prop
 |.lst xs=>xs.length<=sizeLine/\∃(its:List Value) (n:Nat),Vals xs its/\h.get? a=some { cls:=.type "list",data:=.seq its.toArray n }
 |.tup xs=>xs.length<=sizeLine/\∃its:List Value,Vals xs its/\IsTup h a its.toArray
 |.dK kvs=>kvs.length<=sizeLine/\(a==sysModules)=false/\∃vs,KV kvs vs/\h.DictOf (vC P w) a vs
 |.dT kvs=>kvs.length<=sizeLine/\(a==sysModules)=false/\∃xs:List (List Key×Addr×Value),
   Paired (λ(p:List Key×V) (q:List Key×Addr×Value)=>p.1=q.1/\H q.2.1=some (.tup (p.1.map kV))/\RelV p.2 q.2.2) kvs xs/\
   ∃o es ep,h.get? a=some o/\o.ExactDict/\o.data=.dict es ep/\es.toList=xs.map (entryOfKey (tupleKind (vC P w)))/\(xs.map (·.1)).Nodup
 |.set S n=>h.SetOf (intKind P w) a S n
 |.ins C dx fs=>H dx=some (.own a)/\fs.length<=1000/\dx≠a/\h.get? a=some (PySem.W.instObj C dx)/\
   ∃mA,h.Ns1 dx mA/\(∀f,RelO (fs.lookup f) (mA f))/\PySem.Within mA (fs.map (·.1))
 |.own _=>∃o,h.get? a=some o
 |.xd fs=>∃mA,h.Ns1 a mA/\∀f,RelO (fs.lookup f) (mA f)
 |.rng lo hi=>∃t u v,h.get? a=some { cls:=.type "range",data:=.fields #[.int lo t,.int hi u,.int 1 v] }
 |.frz o u=>h.get? a=some o/\ObjOk H h a u
 |.tbl ps=>h.get? a=some { cls:=.none,data:=.fields ps }
 |.met f x=>h.get? a=some (PySem.W.methodObj (.ref f) (.ref x))
 |.ext φ=>φ h/\(∃o,h.get? a=some o)/\∀h1 h2:Heap,φ h1->(∀o,h1.get? a=some o->h2.get? a=some o)->φ h2
def HOk(H:Hp)(h:Heap):Prop:=∀a o,H a=some o->ObjOk P w H h a o
end
section
variable {P:Program} {w:World} {H H':Hp} {h h':Heap} {a:Addr} {o:HO}
theorem ObjOk.lt(x:ObjOk P w H h a o):a < h.objs.size:=by
 cases o with
 |lst xs=>obtain ⟨_,_,_,_,e⟩:=x;exact ax e
 |tup xs=>obtain ⟨_,_,_,p⟩:=x;exact p.lt
 |dK kvs=>obtain ⟨_,_,_,_,o,_,_,e,_⟩:=x;exact ax e
 |dT kvs=>obtain ⟨_,_,_,_,o,_,_,e,_⟩:=x;exact ax e
 |set S n=>obtain ⟨o,_,_,_,e,_⟩:=x;exact ax e
 |ins C dx fs=>obtain ⟨_,_,_,e,_⟩:=x;exact ax e
 |own y=>obtain ⟨_,e⟩:=x;exact ax e
 |xd fs=>obtain ⟨_,⟨_,_,_,e,_⟩,_⟩:=x;exact ax e
 |rng lo hi=>obtain ⟨_,_,_,e⟩:=x;exact ax e
 |frz ob u=>obtain ⟨e,_⟩:=x;exact ax e
 |tbl ps=>exact ax (show h.get? a=some _ from x)
 |met f y=>exact ax (show h.get? a=some _ from x)
 |ext φ=>obtain ⟨_,⟨_,e⟩,_⟩:=x;exact ax e
theorem Paired.mapP{α β:Type}{F G:α->β->Prop}:∀{l₁:List α}{l₂:List β},Paired F l₁ l₂->(∀a b,F a b->G a b)->Paired G l₁ l₂
 |_,_,.nil,_=>.nil
 |_,_,.cons r t,f=>.cons (f _ _ r) (Paired.mapP t f)
theorem ObjOk.stay(x:ObjOk P w H h a o)(k:∀b u,(b=a\/H b=some (.own a))->h.get? b=some u->h'.get? b=some u)
  (ho:∀b,H b=some (.own a)->H' b=some (.own a)) (ht:∀b xs,H b=some (.tup xs)->H' b=some (.tup xs)):ObjOk P w H' h' a o:=by
 induction o with
 |lst xs=>obtain ⟨z,its,n,r,e⟩:=x;exact ⟨z,its,n,r,k _ _ (.inl rfl) e⟩
 |tup xs=>obtain ⟨z,its,r,ob,e,c⟩:=x;exact ⟨z,its,r,ob,k _ _ (.inl rfl) e,c⟩
 |dK kvs=>obtain ⟨z,y,vs,r,ob,es,ep,e,c⟩:=x;exact ⟨z,y,vs,r,ob,es,ep,k _ _ (.inl rfl) e,c⟩
 |dT kvs=>
  obtain ⟨z,y,xs,r,ob,es,ep,e,c⟩:=x;exact ⟨z,y,xs,Paired.mapP r λp q z=>⟨z.1,ht _ _ z.2.1,z.2.2⟩,ob,es,ep,k _ _ (.inl rfl) e,c⟩
 |set S n=>obtain ⟨ob,es,ep,t,e,c⟩:=x;exact ⟨ob,es,ep,t,k _ _ (.inl rfl) e,c⟩
 |ins C dx fs=>
  obtain ⟨d,z,ne,e,mA,⟨od,es,ep,e2,c⟩,r⟩:=x;exact ⟨ho _ d,z,ne,k _ _ (.inl rfl) e,mA,⟨od,es,ep,k _ _ (.inr d) e2,c⟩,r⟩
 |own y=>obtain ⟨ob,e⟩:=x;exact ⟨ob,k _ _ (.inl rfl) e⟩
 |xd fs=>obtain ⟨mA,⟨od,es,ep,e,c⟩,r⟩:=x;exact ⟨mA,⟨od,es,ep,k _ _ (.inl rfl) e,c⟩,r⟩
 |rng lo hi=>obtain ⟨t,u,v,e⟩:=x;exact ⟨t,u,v,k _ _ (.inl rfl) e⟩
 |frz ob u ih=>obtain ⟨e,q⟩:=x;exact ⟨k _ _ (.inl rfl) e,ih q⟩
 |tbl ps=>
  have e:h.get? a=some { cls:=.none,data:=.fields ps }:=x;show h'.get? a=some { cls:=.none,data:=.fields ps };exact k a _ (.inl rfl) e
 |met f y=>
  have e:h.get? a=some (PySem.W.methodObj (.ref f) (.ref y)):=x;show h'.get? a=some (PySem.W.methodObj (.ref f) (.ref y));exact k a _ (.inl rfl) e
 |ext φ=>obtain ⟨p,⟨o,e⟩,st⟩:=x;exact ⟨st _ _ p λo q=>k _ _ (.inl rfl) q,⟨o,k _ _ (.inl rfl) e⟩,st⟩
theorem HOk.lt(x:HOk P w H h)(e:H a=some o):a < h.objs.size:=(x a o e).lt
theorem HOk.fresh(x:HOk P w H h)(e:h.objs.size<=a):H a=none:=by
 cases q:H a with
 |none=>rfl
 |some u=>exact absurd (bg (x.lt q) e) (d5 _)
theorem HOk.kept(x:HOk P w H h)(k:∀b u,h.get? b=some u->h'.get? b=some u):HOk P w H h':=λa o e=>
 (x a o e).stay (λb u _ q=>k b u q) (λ_ q=>q) λ_ _ q=>q
theorem HOk.laid(x:HOk P w H h)(k:∀b u,h.get? b=some u->h'.get? b=some u)(hp:h.objs.size<=a)(new:ObjOk P w (upd H a o) h' a o):HOk P w (upd H a o) h':=λb u e=>by
 have hn:=x.fresh hp;by_cases hb:b=a
 ·subst hb;rw[cJ]at e;cases e;exact new
 ·rw[aJ hb]at e;exact (x b u e).stay (λc v _ q=>k c v q) (λc q=>by rw[aJ (bu q hn)];exact q) λc xs q=>by rw[aJ (bu q hn)];exact q
end
def Rd(H:Hp)(a:Addr)(u:HO):Prop:=H a=some u\/∃o,H a=some (.frz o u)
theorem Rd.ok{P:Program}{w:World}{H:Hp}{h:Heap}{a:Addr}{u:HO}(r:Rd H a u)(x:HOk P w H h):ObjOk P w H h a u:=by
 rcases r with r |⟨o,r⟩
 ·exact x a u r
 ·obtain ⟨_,q⟩:=x a _ r;exact q
noncomputable def Mut:Option HO->Prop
 |some (.lst _)=>True
 |some (.dK _)=>True
 |some (.dT _)=>True
 |some (.set _ _)=>True
 |some (.ins _ _ _)=>True
 |some (.ext _)=>True
 |_=>False
section
variable {P:Program} {w:World} {H:Hp} {h h':Heap} {x e:Addr} {o':HO}
theorem HOk.write(ok:HOk P w H h)(mu:Mut (H x))(he:e=x\/H e=some (.own x))(k:∀b u,b≠e->h.get? b=some u->h'.get? b=some u)(heo:∃u,h'.get? e=some u)
  (new:ObjOk P w (upd H x o') h' x o'):HOk P w (upd H x o') h':=λb u q=>by
 have nown:∀c y,H c=some (.own y)->c≠x:=λc y r z=>by subst z;rw[r]at mu;exact mu
 have ntup:∀c xs,H c=some (.tup xs)->c≠x:=λc xs r z=>by subst z;rw[r]at mu;exact mu
 by_cases hb:b=x
 ·subst hb;rw[cJ]at q;cases q;exact new
 ·rw[aJ hb]at q;by_cases hbe:b=e
  ·have q':H b=some (.own x):=by
    rcases he with z |z
    ·exact absurd (hbe.trans z) hb
    ·rw[hbe];exact z
   rw[q]at q';cases q';obtain ⟨v,hv⟩:=heo;exact ⟨v,by rw[hbe];exact hv⟩
  ·refine (ok b u q).stay (λc v hc r=>k c v ?_ r) (λc r=>by rw[aJ (nown c b r)];exact r) λc xs r=>by rw[aJ (ntup c xs r)];exact r
   rcases hc with rfl |hc
   ·exact hbe
   ·rintro rfl;rcases he with z |z
    ·exact nown c b hc z
    ·rw[hc]at z;cases z;exact hb rfl
end
structure Un(fs ex:List Addr)(H H':Hp)(h h':Heap):Prop where
 keep:∀b o,h.get? b=some o->H b=none->b∉fs->b∉ex->h'.get? b=some o
 slot:∀b o,h.get? b=some o->H b=none->b∈fs->b∉ex->∃sl,h'.get? b=some { o with slots:=sl }
 free:∀b o,h.get? b=some o->H b=none->b∉ex->H' b=none
 there:∀b o,h.get? b=some o->b∉ex->∃o',h'.get? b=some o'
 tups:∀b xs,H b=some (.tup xs)->H' b=some (.tup xs)
 frzs:∀b o u,H b=some (.frz o u)->H' b=some (.frz o u)
 tbls:∀b ps,H b=some (.tbl ps)->∃more,H' b=some (.tbl (ps++more))
section
variable {fs fs' ex ex':List Addr} {H H1 H2:Hp} {h h1 h2 h':Heap} {a x e:Addr} {o:HO}
theorem Un.any(u:Un fs ex H H1 h h1){b:Addr}{ob:Obj}(q:h.get? b=some ob)(n:H b=none)(hx:b∉ex):∃sl,h1.get? b=some { ob with slots:=sl }:=by
 by_cases hb:b∈fs
 ·exact u.slot b ob q n hb hx
 ·exact ⟨ob.slots,u.keep b ob q n hb hx⟩
theorem Un.kept(k:∀b u,h.get? b=some u->h'.get? b=some u):Un fs ex H H h h':=
 ⟨λb ob q _ _ _=>k b ob q,λb ob q _ _ _=>⟨ob.slots,k b ob q⟩,λ_ _ _ n _=>n,λb ob q _=>⟨ob,k b ob q⟩,λ_ _ q=>q,λ_ _ _ q=>q,λ_ ps q=>⟨#[],by rw[q];simp⟩⟩
theorem Un.refl:Un fs ex H H h h:=Un.kept λ_ _ q=>q
theorem Un.laid(k:∀b u,h.get? b=some u->h'.get? b=some u)(hp:h.objs.size<=a)(hn:H a=none):Un fs ex H (upd H a o) h h' where
 keep:=λb u q _ _ _=>k b u q
 slot:=λb u q _ _ _=>⟨u.slots,k b u q⟩
 free:=λb u q n _=>by rw[aJ (ck (bg (ax q) hp))];exact n
 there:=λb u q _=>⟨u,k b u q⟩
 tups:=λb xs q=>by rw[aJ (bu q hn)];exact q
 frzs:=λb u xs q=>by rw[aJ (bu q hn)];exact q
 tbls:=λb ps q=>⟨#[],by rw[aJ (bu q hn),q];simp⟩
theorem Un.write(mu:Mut (H x))(he:e=x\/H e=some (.own x))(k:∀b u,b≠e->h.get? b=some u->h'.get? b=some u)(heo:∃u,h'.get? e=some u):Un fs ex H (upd H x o) h h':=by
 have hx:∀b,H b=none->b≠x:=λb n z=>by subst z;rw[n]at mu;exact mu
 have hb:∀b,H b=none->b≠e:=λb n z=>by
  subst z;rcases he with r |r
  ·exact hx b n r
  ·rw[n]at r;cases r
 have hm:∀b u,H b=some u->¬Mut (some u)->b≠x:=λb u q nm z=>by subst z;rw[q]at mu;exact nm mu
 refine ⟨λb u q n _ _=>k b u (hb b n) q,λb u q n _ _=>⟨u.slots,k b u (hb b n) q⟩,λb u q n _=>by rw[aJ (hx b n)];exact n,λb u q _=>?_,
  λb xs q=>by rw[aJ (hm b _ q λz=>z)];exact q,λb u xs q=>by rw[aJ (hm b _ q λz=>z)];exact q,λb ps q=>⟨#[],by rw[aJ (hm b _ q λz=>z),q];simp⟩⟩
 by_cases hbe:b=e
 ·subst hbe;exact heo
 ·exact ⟨u,k b u hbe q⟩
end
def trk(h:Heap)(H:Hp):List Addr:=(List.range h.objs.size).filter λa=>(H a).isSome
def du(h:Heap)(H:Hp):Heap:=PySem.W.hideAll h (trk h H)
theorem Ug(h:Heap)(H:Hp):(du h H).objs.size=h.objs.size:=PySem.W.hideAll_size _ _
theorem Uh{h:Heap}{H:Hp}{b:Addr}{o:Obj}(e:h.get? b=some o)(n:H b=none):(du h H).get? b=some o:=
 PySem.W.hideAll_get _ e λhm=>by
  have q:(H b).isSome=true:=(de.mp hm).2;rw[n]at q;simp at q
theorem Ui{h:Heap}{H:Hp}{b:Addr}{o:Obj}(e:(du h H).get? b=some o):h.get? b=some o/\H b=none:=by
 have e':h.get? b=some o:=PySem.W.of_hideAll (trk h H) e;refine ⟨e',?_⟩;cases q:H b with
 |none=>rfl
 |some x=>
  have hm:b∈trk h H:=de.mpr ⟨List.mem_range.mpr (ax e'),by simp[q]⟩;have z:(du h H).get? b=none:=PySem.W.hideAll_none (trk h H) hm;rw[z]at e;cases e
noncomputable def Uj(g h:Heap)(L:Addr):List (Addr×Obj):=(List.range h.objs.size).filterMap λa=>if a=L\/(g.get? a).isSome=true then none else (h.get? a).map λo=>(a,o)
def rest(g h:Heap)(L d:Addr):List (Addr×Obj):=(Uj g h L).filter λp=>decide (p.1≠d)
structure Mod(K:PySem.W.Frag)(mg:Str->Option Value)(base:Heap):Prop where
 kin:K.In base
 glob:base.Ns mainGlobals mg
 blt:∃mb,base.Ns builtinsNs mb/\∀x:Str,x≠"__name__"->mb x=bootBuiltins x
 nolimit:base.NoLimit
structure Cx where
 prog:Program
 w:World
 K:PySem.W.Frag
 mg:Str->Option Value
 base:Heap
 A:Around
 N:List Str
 s₀:Shared
 H₀:Hp
 env:Env
 outer:List Env
 stack:List Env
 ex:List Addr
 fn:Str->Bool
 calm:Bool
 pn:List (Addr×Obj)
 xe:Value->Shared->Prop
def frs(l:List Env):List Addr:=l.filterMap (·.frame)
abbrev Cx.fs(X:Cx):List Addr:=frs X.outer
def Vis(sc:Scope)(x:Str):Prop:=sc.names.lookup x=some .local\/sc.names.lookup x=some .cell\/sc.names.lookup x=some .free
def Loc(sc:Scope)(x:Str):Prop:=sc.names.lookup x=some .local\/sc.names.lookup x=some .cell
def Look(env:Env)(h:Heap)(m:Str->Option Value)(x:Str)(u:Value):Prop:=
 (env.kindOf x=some .local/\m x=some u)\/((env.kindOf x=some .cell\/env.kindOf x=some .free)/\∃c,env.cells.lookup x=some c/\h.IsCell c (some u))
structure Cx.Ok(X:Cx):Prop where
 mod:Mod X.K X.mg X.base
 kind:X.env.scope.kind=.function
 glob:X.env.globals=mainGlobals
 blt:X.env.builtins=builtinsNs
 above:X.s₀.heap.objs.size<=X.env.locals
 inj:∀x y c,X.env.cells.lookup x=some c->X.env.cells.lookup y=some c->x=y
 has:∀x,(X.env.kindOf x=some .cell\/X.env.kindOf x=some .free)->∃c,X.env.cells.lookup x=some c
 cab:∀x c,X.fn x=true->X.env.cells.lookup x=some c->X.s₀.heap.objs.size<=c
 hd:X.calm=true->X.A.handled=none
 frames:X.A.frames=some X.stack
 stk:X.stack=X.outer\/(X.stack=X.env::X.outer/\X.env.frame=some X.env.locals)
 exf:∀b∈X.ex,b≠X.env.locals/\∀x c,X.env.cells.lookup x=some c->c≠b
 bs:∀b o,X.base.get? b=some o->X.s₀.heap.get? b=some o/\X.H₀ b=none
 bsz:X.base.objs.size<=X.s₀.heap.objs.size
 noex:∀b o,X.base.get? b=some o->b∉X.ex
 exfs:∀b∈X.ex,b∉X.fs
 funs:X.s₀.heap.FunFrames X.base X.outer
 frf:∀b∈X.fs,X.H₀ b=none
structure Inv(X:Cx)(pins:List (Addr×Obj))(σ:List (Option V))(H:Hp)(s:Shared):Prop where
 ok:X.Ok
 os:s.os=X.s₀.os
 bare:AllBare s.gens
 base:Un X.fs X.ex X.H₀ H X.s₀.heap s.heap
 loc:∃m,s.heap.Ns X.env.locals m/\∀(i:Nat)(x:Str)(v:V),X.N[i]?=some x->σ[i]?=some (some v)->Vis X.env.scope x->∃u,RelV v u/\Look X.env s.heap m x u
 cell:∀x c,X.env.cells.lookup x=some c->∃v,s.heap.IsCell c v
 free:H X.env.locals=none
 freeC:∀x c,X.env.cells.lookup x=some c->H c=none
 pin:∀p∈X.pn++pins,s.heap.get? p.1=some p.2/\H p.1=none/\p.1≠X.env.locals/\p.1∉X.fs/\∀v,p.2.data≠.cell v
 hok:HOk X.prog X.w H s.heap
 len:σ.length=X.N.length
section
variable {X:Cx} {pins:List (Addr×Obj)} {σ:List (Option V)} {H H':Hp} {s:Shared} {h':Heap}
theorem Cx.Ok.nofr(ok:X.Ok){b:Addr}{o:Obj}(e:X.base.get? b=some o):b∉X.fs:=λhb=>by
 have:=(ok.funs.mem hb).1;rw[e]at this;cases this
theorem Inv.bs(I:Inv X pins σ H s):∀b o,X.base.get? b=some o->s.heap.get? b=some o/\H b=none:=λb o e=>
 ⟨I.base.keep b o (I.ok.bs b o e).1 (I.ok.bs b o e).2 (I.ok.nofr e) (I.ok.noex b o e),I.base.free b o (I.ok.bs b o e).1 (I.ok.bs b o e).2 (I.ok.noex b o e)⟩
theorem Inv.bk(I:Inv X pins σ H s):∀b o,X.base.get? b=some o->s.heap.get? b=some o:=λb o e=>(I.bs b o e).1
theorem Inv.mod(I:Inv X pins σ H s):Mod X.K X.mg X.base:=I.ok.mod
theorem Inv.kIn(I:Inv X pins σ H s):X.K.In s.heap:=I.ok.mod.kin.keeps I.bk
theorem Inv.lt(I:Inv X pins σ H s):X.env.locals < s.heap.objs.size:=let ⟨_,hn,_⟩:=I.loc;hn.lt
theorem Inv.sz(I:Inv X pins σ H s):X.s₀.heap.objs.size<=s.heap.objs.size:=cm I.ok.above (Nat.le_of_lt I.lt)
theorem Inv.nofs(I:Inv X pins σ H s){a:Addr}(h:s.heap.objs.size<=a):a∉X.fs:=λhb=>by
 obtain ⟨_,o,ho,_⟩:=I.ok.funs.mem hb;exact absurd (bg (ax ho) (cm I.sz h)) (d5 _)
theorem Inv.cne(I:Inv X pins σ H s):∀x c,X.env.cells.lookup x=some c->c≠X.env.locals:=λx c e z=>by
 obtain ⟨v,o,ho,hd⟩:=I.cell x c e;obtain ⟨m,⟨o',es,ep,ho',hd',_⟩,_⟩:=I.loc;rw[z,ho']at ho;cases ho;rw[hd']at hd;cases hd
theorem Inv.funs(I:Inv X pins σ H s):s.heap.FunFrames X.base X.outer:=by
 have all:∀(l:List Env),(∀b∈frs l,b∈X.fs)->X.s₀.heap.FunFrames X.base l->s.heap.FunFrames X.base l:=by
  intro l;induction l with
  |nil=>intro _ _;trivial
  |cons env r ih=>
   intro hs hl;obtain ⟨hk,⟨L,o,hf,hn,ho,hd⟩,hr⟩:=hl;have hL:L∈X.fs:=hs L (by unfold frs;rw[fe,hf];exact bS);obtain ⟨sl,e⟩:=I.base.slot L o ho (I.ok.frf L hL) hL λz=>I.ok.exfs L z hL;exact ⟨hk,⟨L,_,hf,hn,e,hd⟩,ih (λb hb=>hs b (by unfold frs;rw[fe,hf];exact bi _ hb)) hr⟩
 exact all X.outer (λ_ hb=>hb) I.ok.funs
theorem Inv.stack(I:Inv X pins σ H s):s.heap.FunFrames X.base X.stack:=by
 rcases I.ok.stk with e |⟨e,hf⟩
 ·rw[e];exact I.funs
 ·rw[e];obtain ⟨m,hn,_⟩:=I.loc;refine .cons (by rw[I.ok.kind];decide) hf hn ?_ I.funs;exact Heap.get?_none_of_le (cm I.ok.bsz I.ok.above)
theorem Inv.stkSub(I:Inv X pins σ H s):∀b∈frs X.stack,b∈X.env.locals::X.fs:=λb hb=>by
 rcases I.ok.stk with e |⟨e,hf⟩
 ·rw[e]at hb;exact bi _ hb
 ·rw[e]at hb;unfold frs at hb;rw[fe,hf]at hb;exact hb
theorem Inv.stkFree(I:Inv X pins σ H s):∀b∈frs X.stack,H b=none:=λb hb=>by
 rcases aT.mp (I.stkSub b hb) with e |hb
 ·rw[e];exact I.free
 ·obtain ⟨_,o,ho,_⟩:=I.ok.funs.mem hb;exact I.base.free b o ho (I.ok.frf b hb) λz=>I.ok.exfs b z hb
theorem Inv.step{g':Array GenState}{t':Nat}{d':Drawn}{ch:List Addr}(I:Inv X pins σ H s)
  (hch:∀b∈ch,(b∈X.ex\/X.s₀.heap.objs.size<=b)/\b≠X.env.locals/\(∀x c,X.env.cells.lookup x=some c->c≠b)/\∀p∈X.pn++pins,p.1≠b)
  (keep:∀b o,b≠X.env.locals->b∉X.fs->b∉ch->s.heap.get? b=some o->H b=none->h'.get? b=some o)
  (slot:∀b o,b≠X.env.locals->b∈X.fs->b∉ch->s.heap.get? b=some o->H b=none->∃sl,h'.get? b=some { o with slots:=sl }) (free:∀b o,b∉ch->s.heap.get? b=some o->H b=none->H' b=none)
  (there:∀b o,b∉ch->s.heap.get? b=some o->∃o',h'.get? b=some o')
  (tups:∀b xs,H b=some (.tup xs)->H' b=some (.tup xs)) (frzs:∀b o u,H b=some (.frz o u)->H' b=some (.frz o u)) (tbls:∀b ps,H b=some (.tbl ps)->∃more,H' b=some (.tbl (ps++more)))
  (ns:∀m,s.heap.Ns X.env.locals m->h'.Ns X.env.locals m) (hok:HOk X.prog X.w H' h') (hg:AllBare g'):
  Inv X pins σ H' { s with heap:=h',gens:=g',drawn:=d',toks:=t' }:=by
 have neL:∀b o,X.s₀.heap.get? b=some o->b≠X.env.locals:=λb o e=>ck (bg (ax e) I.ok.above);have neC:∀b o,X.s₀.heap.get? b=some o->b∉X.ex->b∉ch:=λb o e hx hb=>by
  rcases (hch b hb).1 with z |z
  ·exact hx z
  ·exact absurd (bg (ax e) z) (d5 _)
 have cellK:∀x c,X.env.cells.lookup x=some c->∀v,s.heap.IsCell c v->h'.IsCell c v:=λx c e v ⟨o,ho,hd⟩=>by
  have nch:c∉ch:=λz=>(hch c z).2.2.1 x c e rfl;by_cases hc:c∈X.fs
  ·obtain ⟨sl,q⟩:=slot c o (I.cne x c e) hc nch ho (I.freeC x c e);exact ⟨_,q,hd⟩
  ·exact ⟨o,keep c o (I.cne x c e) hc nch ho (I.freeC x c e),hd⟩
 refine ⟨I.ok,I.os,hg,⟨λb o e n hb hx=>?_,λb o e n hb hx=>?_,λb o e n hx=>?_,λb o e hx=>?_,λb xs e=>tups b xs (I.base.tups b xs e),λb o xs e=>frzs b o xs (I.base.frzs b o xs e),λb ps e=>?_⟩,?_,λx c e=>?_,?_,λx c e=>?_,λp hp=>?_,hok,I.len⟩
 ·exact keep b o (neL b o e) hb (neC b o e hx) (I.base.keep b o e n hb hx) (I.base.free b o e n hx)
 ·obtain ⟨sl,e1⟩:=I.base.slot b o e n hb hx;obtain ⟨sl',e2⟩:=slot b _ (neL b o e) hb (neC b o e hx) e1 (I.base.free b o e n hx);exact ⟨sl',e2⟩
 ·obtain ⟨o',e1⟩:=I.base.there b o e hx;exact free b o' (neC b o e hx) e1 (I.base.free b o e n hx)
 ·obtain ⟨o',e1⟩:=I.base.there b o e hx;exact there b o' (neC b o e hx) e1
 ·obtain ⟨m1,e1⟩:=I.base.tbls b ps e;obtain ⟨m2,e2⟩:=tbls b _ e1;exact ⟨m1++m2,by rw[e2,Array.append_assoc]⟩
 ·obtain ⟨m,hn,hl⟩:=I.loc;refine ⟨m,ns m hn,λi x v e1 e2 e3=>?_⟩;obtain ⟨u,r,l⟩:=hl i x v e1 e2 e3;refine ⟨u,r,?_⟩;rcases l with l |⟨k,c,e,z⟩
  ·exact .inl l
  ·exact .inr ⟨k,c,e,cellK x c e _ z⟩
 ·obtain ⟨v,z⟩:=I.cell x c e;exact ⟨v,cellK x c e v z⟩
 ·obtain ⟨m,⟨o,_,_,ho,_⟩,_⟩:=I.loc;exact free _ o (λz=>(hch _ z).2.1 rfl) ho I.free
 ·obtain ⟨v,o,ho,hd⟩:=I.cell x c e;exact free c o (λz=>(hch c z).2.2.1 x c e rfl) ho (I.freeC x c e)
 ·obtain ⟨e,n,ne,nf,d⟩:=I.pin p hp;have nch:p.1∉ch:=λz=>(hch p.1 z).2.2.2 p hp rfl;exact ⟨keep p.1 p.2 ne nf nch e n,free p.1 p.2 nch e n,ne,nf,d⟩
theorem Inv.un{t':Nat}(I:Inv X pins σ H s)(u:Un X.fs [] H H' s.heap h')(hok:HOk X.prog X.w H' h'):Inv X pins σ H' { s with heap:=h',toks:=t' }:=by
 obtain ⟨m,⟨o,es,ep,ho,r⟩,_⟩:=id I.loc;obtain ⟨sl,hL⟩:=u.any ho I.free (by simp);exact I.step (g':=s.gens) (d':=s.drawn) (ch:=[]) (λ_ z=>nomatch z) (λb o _ hb _ e n=>u.keep b o e n hb (by simp)) (λb o _ hb _ e n=>u.slot b o e n hb (by simp)) (λb o _ e n=>u.free b o e n (by simp)) (λb o _ e=>u.there b o e (by simp)) u.tups u.frzs u.tbls (λm' hm=>by
  obtain ⟨o',es',ep',ho',r'⟩:=hm;rw[ho]at ho';cases ho';exact ⟨_,es',ep',hL,r'⟩) hok I.bare
theorem Inv.call{g':Array GenState}{t':Nat}{d':Drawn}{ch:List Addr}(I:Inv X pins σ H s)(u:Un (frs X.stack) ch H H' s.heap h')(hok:HOk X.prog X.w H' h')(hg:AllBare g')
  (hch:∀b∈ch,(b∈X.ex\/X.s₀.heap.objs.size<=b)/\b≠X.env.locals/\(∀x c,X.env.cells.lookup x=some c->c≠b)/\∀p∈X.pn++pins,p.1≠b):
  Inv X pins σ H' { s with heap:=h',gens:=g',drawn:=d',toks:=t' }:=by
 obtain ⟨m,⟨o,es,ep,ho,r⟩,_⟩:=id I.loc;obtain ⟨sl,hL⟩:=u.any ho I.free λz=>(hch _ z).2.1 rfl;exact I.step (ch:=ch) hch (λb o hL hb hc e n=>u.keep b o e n (λz=>(aT.mp (I.stkSub b z)).elim hL hb) hc) (λb o _ _ hc e n=>u.any e n hc) (λb o hc e n=>u.free b o e n hc) (λb o hc e=>u.there b o e hc) u.tups u.frzs u.tbls (λm' hm=>by
  obtain ⟨o',es',ep',ho',r'⟩:=hm;rw[ho]at ho';cases ho';exact ⟨_,es',ep',hL,r'⟩) hok hg
theorem Inv.turned{t':Nat}{it:Addr}(I:Inv X pins σ H s)(k:∀b o,b≠it->s.heap.get? b=some o->h'.get? b=some o)(hn:H it=none)(hL:it≠X.env.locals)
  (h1:it∈X.ex\/X.s₀.heap.objs.size<=it) (h2:∀x c,X.env.cells.lookup x=some c->c≠it) (h3:∀p∈X.pn++pins,p.1≠it):Inv X pins σ H { s with heap:=h',toks:=t' }:=by
 have nit:∀b u,H b=some u->b≠it:=λb u e z=>by rw[z,hn]at e;cases e
 refine I.step (g':=s.gens) (d':=s.drawn) (ch:=[it]) (λb hb=>?_) (λb o _ _ hc e _=>k b o (λz=>hc (by simp[z])) e) (λb o _ _ hc e _=>⟨o.slots,k b o (λz=>hc (by simp[z])) e⟩) (λ_ _ _ _ n=>n)
  (λb o hc e=>⟨o,k b o (λz=>hc (by simp[z])) e⟩) (λ_ _ e=>e) (λ_ _ _ e=>e) (λb ps e=>⟨#[],by rw[e];simp⟩) (λm hm=>?_) (λb u e=>?_) I.bare
 ·have e:b=it:=by simpa using hb
  subst e;exact ⟨h1,hL,h2,h3⟩
 ·obtain ⟨o,es,ep,ho,r⟩:=hm;exact ⟨o,es,ep,k _ o (Ne.symm hL) ho,r⟩
 ·refine (I.hok b u e).stay (λc v hc q=>k c v ?_ q) (λ_ q=>q) λ_ _ q=>q;rcases hc with z |z
  ·rw[z];exact nit b u e
  ·exact nit c _ z
theorem Inv.tok(I:Inv X pins σ H s)(t:Nat):Inv X pins σ H { s with toks:=t }:=I.un (h':=s.heap) (t':=t) Un.refl I.hok
theorem Inv.kept{t':Nat}(I:Inv X pins σ H s)(k:∀b u,s.heap.get? b=some u->h'.get? b=some u):Inv X pins σ H { s with heap:=h',toks:=t' }:=I.un (Un.kept k) (I.hok.kept k)
theorem Inv.laid{a:Addr}{o:HO}{t':Nat}(I:Inv X pins σ H s)(k:∀b u,s.heap.get? b=some u->h'.get? b=some u)(hp:s.heap.objs.size<=a)(new:ObjOk X.prog X.w (upd H a o) h' a o):
  Inv X pins σ (upd H a o) { s with heap:=h',toks:=t' }:=I.un (Un.laid k hp (I.hok.fresh hp)) (I.hok.laid k hp new)
theorem Inv.write{x e:Addr}{o:HO}{t':Nat}(I:Inv X pins σ H s)(mu:Mut (H x))(he:e=x\/H e=some (.own x))(k:∀b u,b≠e->s.heap.get? b=some u->h'.get? b=some u)(heo:∃u,h'.get? e=some u)
  (new:ObjOk X.prog X.w (upd H x o) h' x o):Inv X pins σ (upd H x o) { s with heap:=h',toks:=t' }:=I.un (Un.write mu he k heo) (I.hok.write mu he k heo new)
theorem Inv.pins_of{pins':List (Addr×Obj)}(I:Inv X pins σ H s)(h:∀p∈pins',s.heap.get? p.1=some p.2/\H p.1=none/\p.1≠X.env.locals/\p.1∉X.fs/\∀v,p.2.data≠.cell v):Inv X pins' σ H s:=
 ⟨I.ok,I.os,I.bare,I.base,I.loc,I.cell,I.free,I.freeC,λp hp=>(aS.mp hp).elim (λz=>I.pin p (ez _ z)) (h p),I.hok,I.len⟩
theorem Bd{N:List Str}(hN:N.Nodup){i j:Nat}{x:Str}(a:N[i]?=some x)(b:N[j]?=some x):i=j:=by obtain ⟨h1,e1⟩:=am.mp a;obtain ⟨h2,e2⟩:=am.mp b;exact (List.getElem_inj hN).mp (e1.trans e2.symm)
theorem Uk{M:Model}{A:Around}{E:Value->Shared->Prop}{i:Nat}{x:Str}{v:V}{u:Value}{Q:Unit->Shared->Prop}(I:Inv X pins σ H s)(hN:X.N.Nodup)(hi:X.N[i]?=some x)(hx:Loc X.env.scope x)(r:RelV v u)
  (h:∀s',Inv X pins (σ.set i (some v)) H s'->(∃a,Heap.SameBut a s.heap s'.heap/\(a=X.env.locals\/X.env.cells.lookup x=some a))->Q () s') (hf:X.fn x=true\/X.env.scope.names.lookup x=some .local:=by first |exact .inl rfl |exact .inr rfl |assumption):wpAny M A (storeName X.env x u) Q E s:=by
 obtain ⟨m,hn,hl⟩:=id I.loc;have hcls:(X.env.scope.kind==.class||(X.env.scope.kind==.module&&X.env.locals != X.env.globals))=false:=by rw[I.ok.kind];rfl
 have hiσ:i < σ.length:=by rw[I.len];exact (am.mp hi).1
 have cne:=I.cne;have tracked:∀{a:Addr}{h':Heap},(∃o,s.heap.get? a=some o/\H a=none)->Heap.SameBut a s.heap h'->HOk X.prog X.w H h':=λ{a h'} ha hs b ob e=>by
  obtain ⟨_,_,hfree⟩:=ha;refine (I.hok b ob e).stay (λc w' hc q=>(hs.2 c ?_).trans q) (λ_ q=>q) λ_ _ q=>q;rintro rfl;rcases hc with rfl |hc
  ·rw[hfree]at e;cases e
  ·rw[hfree]at hc;cases hc
 rcases hx with hk |hk
 ·refine wpAny_storeName_local hk hn (λh' hn' hs=>?_) hcls;obtain ⟨oL,_,_,hoL,_⟩:=id hn;refine h _ ⟨I.ok,I.os,I.bare,⟨λb o e n hb hx=>?_,λb o e n hb hx=>?_,I.base.free,λb o e hx=>?_,I.base.tups,I.base.frzs,I.base.tbls⟩,⟨_,hn',λj y v' e1 e2 e3=>?_⟩,λy c e=>?_,I.free,I.freeC,λp hp=>?_,tracked ⟨oL,hoL,I.free⟩ hs,by simpa using I.len⟩ ⟨_,hs,.inl rfl⟩
  ·exact (hs.2 b (ck (bg (ax e) I.ok.above))).trans (I.base.keep b o e n hb hx)
  ·obtain ⟨sl,e1⟩:=I.base.slot b o e n hb hx;exact ⟨sl,(hs.2 b (ck (bg (ax e) I.ok.above))).trans e1⟩
  ·obtain ⟨o',e1⟩:=I.base.there b o e hx;exact ⟨o',(hs.2 b (ck (bg (ax e) I.ok.above))).trans e1⟩
  ·by_cases hj:j=i
   ·subst hj;rw[hi]at e1;cases e1;rw[List.getElem?_set_self hiσ]at e2;cases e2;exact ⟨u,r,.inl ⟨hk,by simp⟩⟩
   ·rw[List.getElem?_set_ne (Ne.symm hj)]at e2;obtain ⟨u',r',q⟩:=hl j y v' e1 e2 e3;refine ⟨u',r',?_⟩;rcases q with ⟨k,e⟩ |⟨k,c,e,z⟩
    ·refine .inl ⟨k,?_⟩;have:y≠x:=λe=>hj (Bd hN e1 (e ▸ hi));simp[this,e]
    ·exact .inr ⟨k,c,e,z.sameBut hs (cne y c e)⟩
  ·obtain ⟨w',z⟩:=I.cell y c e;exact ⟨w',z.sameBut hs (cne y c e)⟩
  ·obtain ⟨e,n,ne,nf,d⟩:=I.pin p hp;exact ⟨(hs.2 p.1 ne).trans e,n,ne,nf,d⟩
 ·have hfn:X.fn x=true:=by
   rcases hf with z |z
   ·exact z
   ·rw[z]at hk;cases hk
  obtain ⟨c,hc⟩:=I.ok.has x (.inl hk);obtain ⟨w',z⟩:=I.cell x c hc;refine wpAny_storeName_cell I.ok.kind hk hc z (λh' hc' hs=>?_);obtain ⟨oc,hoc,hocd⟩:=id z;refine h { s with heap:=h' } ⟨I.ok,I.os,I.bare,⟨λb o e n hb hx=>?_,λb o e n hb hx=>?_,I.base.free,λb o e hx=>?_,I.base.tups,I.base.frzs,I.base.tbls⟩,⟨m,hn.sameBut hs (Ne.symm (cne x c hc)),λj y v' e1 e2 e3=>?_⟩,λy c' e=>?_,I.free,I.freeC,λp hp=>?_,tracked ⟨oc,hoc,I.freeC x c hc⟩ hs,by simpa using I.len⟩ ⟨c,hs,.inr hc⟩
  ·exact (hs.2 b (ck (bg (ax e) (I.ok.cab x c hfn hc)))).trans (I.base.keep b o e n hb hx)
  ·obtain ⟨sl,e1⟩:=I.base.slot b o e n hb hx;exact ⟨sl,(hs.2 b (ck (bg (ax e) (I.ok.cab x c hfn hc)))).trans e1⟩
  ·obtain ⟨o',e1⟩:=I.base.there b o e hx;exact ⟨o',(hs.2 b (ck (bg (ax e) (I.ok.cab x c hfn hc)))).trans e1⟩
  ·by_cases hj:j=i
   ·subst hj;rw[hi]at e1;cases e1;rw[List.getElem?_set_self hiσ]at e2;cases e2;exact ⟨u,r,.inr ⟨.inl hk,c,hc,hc'⟩⟩
   ·rw[List.getElem?_set_ne (Ne.symm hj)]at e2;obtain ⟨u',r',q⟩:=hl j y v' e1 e2 e3;refine ⟨u',r',?_⟩;rcases q with q |⟨k,c',e,z'⟩
    ·exact .inl q
    ·refine .inr ⟨k,c',e,z'.sameBut hs ?_⟩;rintro rfl;exact hj (Bd hN e1 (I.ok.inj _ _ _ e hc ▸ hi))
  ·by_cases hcc:c'=c
   ·subst hcc;exact ⟨_,hc'⟩
   ·obtain ⟨w2,z2⟩:=I.cell y c' e;exact ⟨w2,z2.sameBut hs hcc⟩
  ·obtain ⟨e,n,ne,nf,d⟩:=I.pin p hp;refine ⟨(hs.2 p.1 ?_).trans e,n,ne,nf,d⟩;intro q;rw[q,hoc]at e;have q':oc=p.2:=dr e;exact d w' (by rw[<-q'];exact hocd)
theorem qd{M:Model}{A:Around}{E:Value->Shared->Prop}{i:Nat}{x:Str}{v:V}{u:Value}{Q:Unit->Shared->Prop}(I:Inv X pins σ H s)(hN:X.N.Nodup)(hi:X.N[i]?=some x)(hx:Loc X.env.scope x)(r:RelV v u)
  (h:∀s',Inv X pins (σ.set i (some v)) H s'->Q () s') (hf:X.fn x=true\/X.env.scope.names.lookup x=some .local:=by first |exact .inl rfl |exact .inr rfl |assumption):wpAny M A (storeName X.env x u) Q E s:=
 Uk I hN hi hx r (λs' I' _=>h s' I') hf
theorem Inv.call'{s':Shared}{ch:List Addr}(I:Inv X pins σ H s)(ho:s'.os=s.os)(u:Un (frs X.stack) ch H H' s.heap s'.heap)(hok:HOk X.prog X.w H' s'.heap)(hg:AllBare s'.gens)
  (hch:∀b∈ch,(b∈X.ex\/X.s₀.heap.objs.size<=b)/\b≠X.env.locals/\(∀x c,X.env.cells.lookup x=some c->c≠b)/\∀p∈X.pn++pins,p.1≠b):Inv X pins σ H' s':=by
 obtain ⟨h',g',d',t',o'⟩:=s';have e:o'=s.os:=ho;subst e;exact I.call (g':=g') (t':=t') (d':=d') u hok hg hch
end
abbrev XK:=Value->Option Addr->Hp->Prop
abbrev St:=List (Option V)
abbrev VK:=V->Hp->Prop
abbrev TE:=St->Hp->VK->Prop
abbrev TT:=St->Hp->(Bool->Hp->Prop)->Prop
abbrev TA:=St->Hp->(List V->Hp->Prop)->Prop
structure Ends where
 nx:St->Hp->Prop
 rt:VK
 bk:St->Hp->Prop:=λ_ _=>False
 ct:St->Hp->Prop:=λ_ _=>False
abbrev TS:=Ends->St->Hp->Prop
def EP(X:Cx)(pins:List (Addr×Obj))(σ:St)(Q:VK)(u:Value)(s':Shared):Prop:=∃v H',Inv X pins σ H' s'/\RelV v u/\Q v H'
def TP(X:Cx)(pins:List (Addr×Obj))(σ:St)(Q:Bool->Hp->Prop)(b:Bool)(s':Shared):Prop:=∃H',Inv X pins σ H' s'/\Q b H'
def AP(X:Cx)(pins:List (Addr×Obj))(σ:St)(Q:List V->Hp->Prop)(us:List Value)(s':Shared):Prop:=∃vs H',Inv X pins σ H' s'/\Vals vs us/\Q vs H'
def SP(X:Cx)(pins:List (Addr×Obj))(D:Ends)(f:Flow)(s':Shared):Prop:=
 match f with
 |.next=>∃σ' H',Inv X pins σ' H' s'/\D.nx σ' H'
 |.brk=>∃σ' H',Inv X pins σ' H' s'/\D.bk σ' H'
 |.cont=>∃σ' H',Inv X pins σ' H' s'/\D.ct σ' H'
 |.ret u=>∃v σ' H',Inv X pins σ' H' s'/\RelV v u/\D.rt v H'
def PE(X:Cx)(e:Expr)(t:TE):Prop:=
 ∀(pins:List (Addr×Obj))(s:Shared)(σ:St)(H:Hp)(Q:VK),Inv X pins σ H s->t σ H Q->wpAny (model X.prog X.w) X.A (eval e X.env) (EP X pins σ Q) X.xe s
def PT(X:Cx)(e:Expr)(t:TT):Prop:=
 ∀(pins:List (Addr×Obj))(s:Shared)(σ:St)(H:Hp)(Q:Bool->Hp->Prop),Inv X pins σ H s->t σ H Q->wpAny (model X.prog X.w) X.A (isTrue e X.env (eval e X.env)) (TP X pins σ Q) X.xe s
def PW(X:Cx)(e:Expr)(t:TT):Prop:=
 ∀(whole:Sem Value)(pins:List (Addr×Obj))(s:Shared)(σ:St)(H:Hp)(Q:Bool->Hp->Prop),Inv X pins σ H s->t σ H Q->wpAny (model X.prog X.w) X.A (isTrue e X.env whole) (TP X pins σ Q) X.xe s
theorem PW.pt{X:Cx}{e:Expr}{t:TT}(h:PW X e t):PT X e t:=h _
def PA(X:Cx)(es:List Expr)(t:TA):Prop:=
 ∀(pos:Pos)(pins:List (Addr×Obj))(s:Shared)(σ:St)(H:Hp)(Q:List V->Hp->Prop),Inv X pins σ H s->t σ H Q->wpAny (model X.prog X.w) X.A (spliced (backTo pos (starEach es X.env))) (AP X pins σ Q) X.xe s
def PS(X:Cx)(st:Stmt)(t:TS):Prop:=
 ∀(pins:List (Addr×Obj))(s:Shared)(σ:St)(H:Hp)(D:Ends),Inv X pins σ H s->t D σ H->wpAny (model X.prog X.w) X.A (exec st X.env) (SP X pins D) X.xe s
def PSs(X:Cx)(st:List Stmt)(t:TS):Prop:=
 ∀(pins:List (Addr×Obj))(s:Shared)(σ:St)(H:Hp)(D:Ends),Inv X pins σ H s->t D σ H->wpAny (model X.prog X.w) X.A (execs st X.env) (SP X pins D) X.xe s
theorem thn{α:Type}{t:Sem α}{Q Q':α->Shared->Prop}{M:Model}{A:Around}{E:Value->Shared->Prop}{s:Shared}(h:wpAny M A t Q E s)(hQ:∀a s,Q a s->Q' a s):wpAny M A t Q' E s:=c9 h hQ λ_ _ x=>x
section
variable {X:Cx}
theorem bin{a b:Expr}{ta tb:TE}(ha:PE X a ta)(hb:PE X b tb){pins:List (Addr×Obj)}{s:Shared}{σ:St}{H:Hp}{R:V->V->Hp->Prop}(I:Inv X pins σ H s)(h:ta σ H λx H1=>tb σ H1 λy H2=>R x y H2)
  {α:Type} {Q:α->Shared->Prop} {f:Value->Value->Sem α}
  (hf:∀v u s2 x y H2,Inv X pins σ H2 s2->RelV x v->RelV y u->R x y H2->wpAny (model X.prog X.w) X.A (f v u) Q X.xe s2):
  wpAny (model X.prog X.w) X.A (eval a X.env) (λv s₁=>wpAny (model X.prog X.w) X.A (eval b X.env) (λu s₂=>wpAny (model X.prog X.w) X.A (f v u) Q X.xe s₂) X.xe s₁) X.xe s:=by
 refine thn (ha pins s σ H _ I h) λv s1 ⟨x,H1,I1,r1,q1⟩=>?_;refine thn (hb pins s1 σ H1 _ I1 q1) λu s2 ⟨y,H2,I2,r2,q2⟩=>?_;exact hf v u s2 x y H2 I2 r1 r2 q2
def Be(i:Nat):TE:=λσ H Q=>∃v,σ[i]?=some (some v)/\Q v H
def tC(v:V):TE:=λ_ H Q=>Q v H
theorem Bg {i:Nat} {x:Str} {pos:Pos} (hN:X.N[i]?=some x) (hv:Vis X.env.scope x) (hd:(x==("__debug__":Str))=false:=by decide) (hcd:(x==("__classdict__":Str))=false:=by decide):PE X (.Name x pos) (Be i):=by
 intro pins s σ H Q I h;obtain ⟨v,e,h⟩:=h;obtain ⟨m,hn,hl⟩:=I.loc;obtain ⟨u,r,l⟩:=hl i x v hN e hv;have fin:EP X pins σ Q u s:=⟨v,H,I,r,h⟩;rcases l with ⟨hk,hm⟩ |⟨hk,c,hc,hcell⟩
 ·exact wpAny_Name (wpAny_loadName_local I.ok.kind hk hn hm fin) hd
 ·rcases hk with hk |hk
  ·exact wpAny_Name (wpAny_loadName_cell I.ok.kind hk hc hcell fin) hd
  ·exact wpAny_Name (wpAny_loadName_free I.ok.kind hk hc hcell fin hcd) hd
theorem Ul{i j pos}:PE X (.Constant (.int i) j pos) (tC (.int i)):=λ_ _ _ H _ I h=>wpAny_Constant_int ⟨.int i,H,I.tok _,⟨_,rfl⟩,h⟩
theorem Um{b j pos}:PE X (.Constant (.bool b) j pos) (tC (.bl b)):=λ_ _ _ H _ I h=>Constant_bool ⟨.bl b,H,I,rfl,h⟩
theorem Uo{j pos}:PE X (.Constant .none j pos) (tC .non):=λ_ _ _ H _ I h=>Constant_none ⟨.non,H,I,rfl,h⟩
theorem Bh{x j pos}:PE X (.Constant (.str x) j pos) (tC (.str x)):=λ_ _ _ H _ I h=>Calls.Constant_str ⟨.str x,H,I.tok _,⟨_,rfl⟩,h⟩
def Gl(X:Cx)(x:Str):Prop:=X.env.kindOf x=some .globalImplicit
theorem qe{E:Value->Shared->Prop}{pins:List (Addr×Obj)}{s:Shared}{σ:St}{H:Hp}{x:Str}{u:Value}{pos:Pos}{Q:Value->Shared->Prop}(I:Inv X pins σ H s)(hg:Gl X x)(hm:X.mg x=some u)(h:Q u s)
  (hd:(x==("__debug__":Str))=false:=by decide):wpAny (model X.prog X.w) X.A (eval (.Name x pos) X.env) Q E s:=
 Calls.Name_function_global I.ok.kind hg (Calls.loadGlobal_global (by rw[I.ok.glob];exact I.mod.glob.keeps I.bk) hm h) hd
theorem iQ{E:Value->Shared->Prop}{pins:List (Addr×Obj)}{s:Shared}{σ:St}{H:Hp}{x:Str}{u:Value}{pos:Pos}{Q:Value->Shared->Prop}(I:Inv X pins σ H s)(hg:Gl X x)(hm:X.mg x=none)(hv:bootBuiltins x=some u)(h:Q u s)
  (hn:x≠"__name__":=by decide) (hd:(x==("__debug__":Str))=false:=by decide):wpAny (model X.prog X.w) X.A (eval (.Name x pos) X.env) Q E s:=by
 obtain ⟨mb,h1,h2⟩:=I.mod.blt;exact Calls.Name_function_global I.ok.kind hg (Calls.loadGlobal_builtin (by rw[I.ok.glob];exact I.mod.glob.keeps I.bk) hm (by rw[I.ok.blt];exact h1.keeps I.bk) ((h2 x hn).trans hv) h) hd
theorem Up {x:Str} {v:V} {u:Value} {pos:Pos} (hg:Gl X x) (hm:X.mg x=some u) (r:RelV v u) (hd:(x==("__debug__":Str))=false:=by decide):PE X (.Name x pos) (tC v):=
 λ_ _ _ H _ I h=>qe I hg hm ⟨v,H,I,r,h⟩ hd
theorem Uq {x:Str} {v:V} {u:Value} {pos:Pos} (hg:Gl X x) (hm:X.mg x=none) (hv:bootBuiltins x=some u) (r:RelV v u) (hn:x≠"__name__":=by decide) (hd:(x==("__debug__":Str))=false:=by decide):PE X (.Name x pos) (tC v):=
 λ_ _ _ H _ I h=>iQ I hg hm hv ⟨v,H,I,r,h⟩ hn hd
variable {a b:Expr} {ta tb:TE} {pos:Pos}
variable {tA tB':TT} {rest:List Expr}
def Ur(t u:TT):TT:=λσ H Q=>t σ H λc H1=>if c=true then u σ H1 Q else Q false H1
def tOr(t u:TT):TT:=λσ H Q=>t σ H λc H1=>if c=true then Q true H1 else u σ H1 Q
def Us(t:TT):TT:=λσ H Q=>t σ H λc H1=>Q (!c) H1
theorem Ut(ha:PT X a tA):PW X (.BoolOp .And [a] pos) tA:=by
 intro wh pins s σ H Q I h;refine isTrue_and (thn (ha pins s σ H Q I h) λc s1 e=>?_);cases c with
 |true=>exact isTrue_and_nil e
 |false=>exact e
theorem Uu(ha:PT X a tA):PW X (.BoolOp .Or [a] pos) tA:=by
 intro wh pins s σ H Q I h;refine isTrue_or (thn (ha pins s σ H Q I h) λc s1 e=>?_);cases c with
 |false=>exact isTrue_or_nil e
 |true=>exact e
theorem Uv(ha:PT X a tA)(hb:PW X (.BoolOp .And (b::rest) pos) tB'):PW X (.BoolOp .And (a::b::rest) pos) (Ur tA tB'):=by
 intro wh pins s σ H Q I h;refine isTrue_and (thn (ha pins s σ H _ I h) λc s1 ⟨H1,I1,q1⟩=>?_);cases c with
 |true=>exact hb wh pins s1 σ H1 Q I1 q1
 |false=>exact ⟨H1,I1,q1⟩
theorem Uw(ha:PT X a tA)(hb:PW X (.BoolOp .Or (b::rest) pos) tB'):PW X (.BoolOp .Or (a::b::rest) pos) (tOr tA tB'):=by
 intro wh pins s σ H Q I h;refine isTrue_or (thn (ha pins s σ H _ I h) λc s1 ⟨H1,I1,q1⟩=>?_);cases c with
 |true=>exact ⟨H1,I1,q1⟩
 |false=>exact hb wh pins s1 σ H1 Q I1 q1
theorem Ux(ha:PT X a tA):PT X (.UnaryOp .Not a pos) (Us tA):=by intro pins s σ H Q I h;exact isTrue_not (ha pins s σ H (λc H1=>Q (!c) H1) I h)
def Uy(ta tb:TE):TE:=λσ H Q=>ta σ H λx H1=>∃c,x=.bl c/\if c=true then tb σ H1 Q else Q (.bl false) H1
def Uz(ta tb:TE):TE:=λσ H Q=>ta σ H λx H1=>∃c,x=.bl c/\if c=true then Q (.bl true) H1 else tb σ H1 Q
theorem UG{op}{t:TE}(h:PE X a t):PE X (.BoolOp op [a] pos) t:=λpins s σ H Q I hw=>BoolOp_one (h pins s σ H Q I hw)
theorem UJ(ha:PE X a ta)(hb:PE X (.BoolOp .And (b::rest) pos) tb):PE X (.BoolOp .And (a::b::rest) pos) (Uy ta tb):=by
 intro pins s σ H Q I h;refine BoolOp_and (thn (ha pins s σ H _ I h) λv s1 ⟨x,H1,I1,r1,q1⟩=>?_);obtain ⟨c,rfl,q1⟩:=q1;cases r1;refine eg ?_;cases c with
 |true=>exact hb pins s1 σ H1 Q I1 q1
 |false=>exact ⟨.bl false,H1,I1,rfl,q1⟩
theorem UL(ha:PE X a ta)(hb:PE X (.BoolOp .Or (b::rest) pos) tb):PE X (.BoolOp .Or (a::b::rest) pos) (Uz ta tb):=by
 intro pins s σ H Q I h;refine BoolOp_or (thn (ha pins s σ H _ I h) λv s1 ⟨x,H1,I1,r1,q1⟩=>?_);obtain ⟨c,rfl,q1⟩:=q1;cases r1;refine eg ?_;cases c with
 |false=>exact hb pins s1 σ H1 Q I1 q1
 |true=>exact ⟨.bl true,H1,I1,rfl,q1⟩
def tIf(t:TT)(ta tb:TE):TE:=λσ H Q=>t σ H λc H1=>if c=true then ta σ H1 Q else tb σ H1 Q
theorem UT{c:Expr}(hc:PT X c tA)(ha:PE X a ta)(hb:PE X b tb):PE X (.IfExp c a b pos) (tIf tA ta tb):=by
 intro pins s σ H Q I h;refine wpAny_IfExp (thn (hc pins s σ H _ I h) λd s1 ⟨H1,I1,q1⟩=>?_);cases d with
 |true=>exact ha pins s1 σ H1 Q I1 q1
 |false=>exact hb pins s1 σ H1 Q I1 q1
end
def SqL(K:PySem.W.Frag)(H:Hp)(a:Addr)(xs:List V):Prop:=
 Rd H a (.lst xs)\/
  ∃(o:Obj) (its:Array Value) (n:Nat),K.lookup a=some o/\o.cls=.type "list"/\o.dict=none/\o.data=.seq its n/\its.size<=sizeLine/\Vals xs its.toList
def SqT(K:PySem.W.Frag)(H:Hp)(a:Addr)(xs:List V):Prop:=
 Rd H a (.tup xs)\/
  ∃(o:Obj) (its:Array Value) (n:Nat),K.lookup a=some o/\o.cls=.type "tuple"/\o.data=.seq its n/\its.size<=sizeLine/\Vals xs its.toList
noncomputable def UV:Value->Option V
 |.none=>some .non
 |.bool b=>some (.bl b)
 |.int i _=>some (.int i)
 |.str x _=>some (.str x)
 |.bytes b _=>some (.byt b)
 |.float b _=>some (.flt b)
 |.ref a=>some (.ref a)
 |.type n=>some (.ty n)
 |_=>none
theorem RelV.abs{x:V}{u:Value}(r:RelV x u):UV u=some x:=by
 cases x with
 |non=>cases r;rfl
 |bl _=>cases r;rfl
 |int _=>obtain ⟨t,rfl⟩:=r;rfl
 |str _=>obtain ⟨t,rfl⟩:=r;rfl
 |byt _=>obtain ⟨t,rfl⟩:=r;rfl
 |flt _=>obtain ⟨t,rfl⟩:=r;rfl
 |ref _=>cases r;rfl
 |ty _=>cases r;rfl
theorem RelV.inj{x y:V}{u:Value}(r:RelV x u)(q:RelV y u):x=y:=dr (r.abs.symm.trans q.abs)
theorem Vals.inj:∀{xs ys:List V}{us:List Value},Vals xs us->Vals ys us->xs=ys
 |_,_,_,.nil,.nil=>rfl
 |_,_,_,.cons r t,.cons r' t'=>by rw[r.inj r',Vals.inj t t']
section
variable {X:Cx} {pins:List (Addr×Obj)} {σ:St} {H:Hp} {s:Shared} {a:Addr} {xs ys:List V}
theorem SqL.of{K:PySem.W.Frag}(h:H a=some (.lst xs)):SqL K H a xs:=.inl (.inl h)
theorem SqT.of{K:PySem.W.Frag}(h:H a=some (.tup xs)):SqT K H a xs:=.inl (.inl h)
theorem Inv.list(I:Inv X pins σ H s)(h:SqL X.K H a xs):∃its:List Value,Vals xs its/\PlainL s.heap a its.toArray/\xs.length<=sizeLine:=by
 rcases h with h |⟨o,its,n,hk,hc,hd,hs,hz,r⟩
 ·obtain ⟨z,its,n,r,e⟩:=h.ok I.hok;exact ⟨its,r,⟨_,n,e,rfl,rfl,rfl⟩,z⟩
 ·refine ⟨its.toList,r,⟨o,n,I.kIn a o hk,hc,hd,by simpa using hs⟩,?_⟩;have e:=r.length;simp only[dL]at e;omega
theorem Inv.tuple(I:Inv X pins σ H s)(h:SqT X.K H a xs):∃its:List Value,Vals xs its/\IsTup s.heap a its.toArray/\xs.length<=sizeLine:=by
 rcases h with h |⟨o,its,n,hk,hc,hs,hz,r⟩
 ·obtain ⟨z,its,r,p⟩:=h.ok I.hok;exact ⟨its,r,p,z⟩
 ·refine ⟨its.toList,r,⟨o,I.kIn a o hk,hc,n,by simpa using hs⟩,?_⟩;have e:=r.length;simp only[dL]at e;omega
theorem Inv.list_inj(I:Inv X pins σ H s)(h:SqL X.K H a xs)(h':SqL X.K H a ys):xs=ys:=by
 obtain ⟨its,r,⟨o,n,e,_,_,d⟩,_⟩:=I.list h;obtain ⟨its',r',⟨o',n',e',_,_,d'⟩,_⟩:=I.list h';rw[e]at e';cases e';rw[d]at d';injection d' with d1 _;have:its=its':=by simpa using eR Array.toList d1
 subst this;exact r.inj r'
theorem Inv.tuple_inj(I:Inv X pins σ H s)(h:SqT X.K H a xs)(h':SqT X.K H a ys):xs=ys:=by
 obtain ⟨its,r,⟨o,e,_,n,d⟩,_⟩:=I.tuple h;obtain ⟨its',r',⟨o',e',_,n',d'⟩,_⟩:=I.tuple h';rw[e]at e';cases e';rw[d]at d';injection d' with d1 _;have:its=its':=by simpa using eR Array.toList d1
 subst this;exact r.inj r'
end
abbrev Cx.wish(X:Cx)(E:Value->Shared->Prop):Cx:={ X with xe:=E }
abbrev Cx.nox(X:Cx):Cx:=X.wish λ_ _=>False
theorem Cx.Ok.wish{X:Cx}(ok:X.Ok)(E:Value->Shared->Prop):(X.wish E).Ok:=
 ⟨ok.mod,ok.kind,ok.glob,ok.blt,ok.above,ok.inj,ok.has,ok.cab,ok.hd,ok.frames,ok.stk,ok.exf,ok.bs,ok.bsz,ok.noex,ok.exfs,ok.funs,ok.frf⟩
theorem Cx.Ok.unwish{X:Cx}{E:Value->Shared->Prop}(ok:(X.wish E).Ok):X.Ok:=
 ⟨ok.mod,ok.kind,ok.glob,ok.blt,ok.above,ok.inj,ok.has,ok.cab,ok.hd,ok.frames,ok.stk,ok.exf,ok.bs,ok.bsz,ok.noex,ok.exfs,ok.funs,ok.frf⟩
section
variable {X:Cx} {pins:List (Addr×Obj)} {σ:St} {H:Hp} {s:Shared} {E:Value->Shared->Prop}
theorem Inv.wish(I:Inv X pins σ H s)(E:Value->Shared->Prop):Inv (X.wish E) pins σ H s:=⟨I.ok.wish E,I.os,I.bare,I.base,I.loc,I.cell,I.free,I.freeC,I.pin,I.hok,I.len⟩
theorem Inv.unwish(I:Inv (X.wish E) pins σ H s):Inv X pins σ H s:=⟨I.ok.unwish,I.os,I.bare,I.base,I.loc,I.cell,I.free,I.freeC,I.pin,I.hok,I.len⟩
theorem SP.unwish{D:Ends}{f:Flow}{s':Shared}(h:SP (X.wish E) pins D f s'):SP X pins D f s':=by
 cases f with
 |next=>obtain ⟨σ',H',I,q⟩:=h;exact ⟨σ',H',I.unwish,q⟩
 |brk=>obtain ⟨σ',H',I,q⟩:=h;exact ⟨σ',H',I.unwish,q⟩
 |cont=>obtain ⟨σ',H',I,q⟩:=h;exact ⟨σ',H',I.unwish,q⟩
 |ret u=>obtain ⟨v,σ',H',I,r,q⟩:=h;exact ⟨v,σ',H',I.unwish,r,q⟩
theorem PSs.nox{st:List Stmt}{t:TS}(h:PSs X.nox st t):PSs X st t:=λpins s σ H D I hw=>
 c9 (h pins s σ H D (I.wish _) hw) (λ_ _ q=>q.unwish) λ_ _ z=>False.elim z
end
section
variable {X:Cx} {st:Stmt} {rest:List Stmt} {t u:TS} {e:Expr} {te:TE} {pos:Pos}
def Bj:TS:=λD σ H=>D.nx σ H
def UW(t u:TS):TS:=λD σ H=>t { D with nx:=u D } σ H
theorem U0:PSs X [] Bj:=λ_ _ σ H _ I h=>wpAny_execs_nil ⟨σ,H,I,h⟩
theorem Bk(h1:PS X st t)(h2:PSs X rest u):PSs X (st::rest) (UW t u):=by
 intro pins s σ H D I h;refine wpAny_execs_cons (thn (h1 pins s σ H { D with nx:=u D } I h) λf s1 q=>?_);cases f with
 |next=>
  obtain ⟨σ',H',I',q⟩:=q;exact h2 pins s1 σ' H' D I' q
 |ret v=>exact q
 |brk=>exact q
 |cont=>exact q
theorem U3(h1:PS X st t):PSs X [st] t:=by
 intro pins s σ H D I h;refine wpAny_execs_cons (thn (h1 pins s σ H D I h) λf s1 q=>?_);cases f with
 |next=>exact wpAny_execs_nil q
 |ret v=>exact q
 |brk=>exact q
 |cont=>exact q
def U4:TS:=λD σ H=>D.bk σ H
def U5:TS:=λD σ H=>D.ct σ H
theorem U6:PS X (.Pass pos) Bj:=λ_ _ σ H _ I h=>wpAny_Pass ⟨σ,H,I,h⟩
theorem U7:PS X (.Break pos) U4:=λ_ _ σ H _ I h=>wpAny_Break ⟨σ,H,I,h⟩
theorem U8:PS X (.Continue pos) U5:=λ_ _ σ H _ I h=>wpAny_Continue ⟨σ,H,I,h⟩
theorem Inv.quiet{pins:List (Addr×Obj)}{σ:St}{H:Hp}{s:Shared}(I:Inv X pins σ H s):interactive X.env=false:=by simp[interactive,I.ok.kind]
def U9(te:TE):TS:=λD σ H=>te σ H λ_ H1=>D.nx σ H1
theorem Va(he:PE X e te)(hs:swapsWith e none pos.line X.env=pure false:=by rfl):PS X (.Expr e pos) (U9 te):=by intro pins s σ H D I h;exact wpAny_Expr_any (thn (he pins s σ H _ I h) λv s1 ⟨x,H1,I1,r1,q1⟩=>⟨σ,H1,I1,q1⟩) I.quiet hs
def Bl(te:TE):TS:=λD σ H=>te σ H D.rt
theorem Vb(he:PE X e te):PS X (.Return (some e) pos) (Bl te):=by intro pins s σ H D I h;exact wpAny_Return_some (thn (he pins s σ H _ I h) λv s1 ⟨x,H1,I1,r1,q1⟩=>⟨x,σ,H1,I1,r1,q1⟩)
def Vc:TS:=λD _ H=>D.rt .non H
theorem Vd:PS X (.Return none pos) Vc:=λ_ _ σ H _ I h=>wpAny_Return_none ⟨.non,σ,H,I,rfl,h⟩
def Ve(c:TT)(t u:TS):TS:=λD σ H=>c σ H λb H1=>if b=true then t D σ H1 else u D σ H1
theorem Vf{c:Expr}{a b:List Stmt}{tc:TT}(hc:PT X c tc)(ha:PSs X a t)(hb:PSs X b u):PS X (.If c a b pos) (Ve tc t u):=by
 intro pins s σ H D I h;refine wpAny_If (thn (hc pins s σ H _ I h) λd s1 ⟨H1,I1,q1⟩=>?_);cases d with
 |true=>exact ha pins s1 σ H1 D I1 q1
 |false=>exact hb pins s1 σ H1 D I1 q1
def Vg:TS:=λ_ _ _=>False
theorem Vh:PS X st Vg:=λ_ _ _ _ _ _ h=>h.elim
end
abbrev TG:=V->St->Hp->(St->Hp->Prop)->Prop
abbrev TGs:=List V->St->Hp->(St->Hp->Prop)->Prop
def PG(X:Cx)(target:Expr)(t:TG):Prop:=
 ∀(pins:List (Addr×Obj))(s:Shared)(σ:St)(H:Hp)(v:V)(u:Value)(Q:St->Hp->Prop),Inv X pins σ H s->RelV v u->t v σ H Q->
  wpAny (model X.prog X.w) X.A (assign target X.env u) (λ_ s'=>∃σ' H',Inv X pins σ' H' s'/\Q σ' H') X.xe s
def PGs(X:Cx)(ts:List Expr)(t:TGs):Prop:=
 ∀(pins:List (Addr×Obj))(s:Shared)(σ:St)(H:Hp)(vs:List V)(us:List Value)(Q:St->Hp->Prop),Inv X pins σ H s->Vals vs us->t vs σ H Q->
  wpAny (model X.prog X.w) X.A (assignInOrder ((assignEach ts X.env).map (·.2)) us) (λ_ s'=>∃σ' H',Inv X pins σ' H' s'/\Q σ' H') X.xe s
abbrev vD:=V->V->V->Hp->(Hp->Prop)->Prop
def vG(X:Cx)(t:vD):Prop:=
 ∀(pins:List (Addr×Obj))(s:Shared)(σ:St)(H:Hp)(o i v:V)(ov iv u:Value)(Q:Hp->Prop),Inv X pins σ H s->RelV o ov->RelV i iv->RelV v u->t o i v H Q->
  wpAny (model X.prog X.w) X.A (setItem ov iv u) (λ_ s'=>∃H',Inv X pins σ H' s'/\Q H') X.xe s
abbrev TIp:=V->V->Hp->VK->Prop
def PIp(X:Cx)(op:Operator)(t:TIp):Prop:=
 ∀(pins:List (Addr×Obj))(s:Shared)(σ:St)(H:Hp)(x y:V)(v u:Value)(Q:VK),Inv X pins σ H s->RelV x v->RelV y u->t x y H Q->
  wpAny (model X.prog X.w) X.A (inplaceOp op v u) (EP X pins σ Q) X.xe s
section
variable {X:Cx} {pos:Pos}
def qg(i:Nat):TG:=λv σ H Q=>Q (σ.set i (some v)) H
theorem Vi{i:Nat}{x:Str}(hN:X.N.Nodup)(hi:X.N[i]?=some x)(hx:Loc X.env.scope x)(hf:X.fn x=true\/X.env.scope.names.lookup x=some .local:=by first |exact .inl rfl |exact .inr rfl |assumption):PG X (.Name x pos) (qg i):=by intro pins s σ H v u Q I r h;exact wpAny_assign_Name (qd I hN hi hx r (λs' I'=>⟨_,H,I',h⟩) hf)
def Vj:TGs:=λvs σ H Q=>vs=[]/\Q σ H
def Vk(t:TG)(u:TGs):TGs:=λvs σ H Q=>∃v r,vs=v::r/\t v σ H λσ' H'=>u r σ' H' Q
theorem Vl:PGs X [] Vj:=by intro pins s σ H vs us Q I r h;obtain ⟨e,h⟩:=h;subst e;cases r;exact assignInOrder_nil ⟨σ,H,I,h⟩
theorem Vm{e:Expr}{es:List Expr}{t:TG}{u:TGs}(h1:PG X e t)(h2:PGs X es u)
  (hs:(assignEach (e::es) X.env).map (·.2)=assign e X.env::(assignEach es X.env).map (·.2):=by rfl):PGs X (e::es) (Vk t u):=by
 intro pins s σ H vs us Q I r h;obtain ⟨v,vr,e1,h⟩:=h;subst e1;cases r with
 |cons r rr=>
  rw[hs];refine assignInOrder_cons (thn (h1 pins s σ H _ _ _ I r h) λ_ s1 ⟨σ1,H1,I1,q1⟩=>?_);exact h2 pins s1 σ1 H1 _ _ Q I1 rr q1
def Vn(K:PySem.W.Frag)(n:Nat)(t:TGs):TG:=λv σ H Q=>∃a xs,v=.ref a/\SqT K H a xs/\xs.length=n/\t xs σ H Q
theorem Vo{es:List Expr}{k:Nat}{t:TGs}{n:Nat}(hc:X.calm=true)(h:PGs X es t)
  (hn:(assignEach es X.env).length=n:=by rfl) (hst:(assignEach es X.env).findIdx? (·.1)=none:=by rfl):PG X (.Tuple es k pos) (Vn X.K n t):=by
 intro pins s σ H v u Q I r hw;obtain ⟨a,xs,e1,hq,hl,hw⟩:=hw;subst e1;cases r;obtain ⟨its,rv,ht,hz⟩:=I.tuple hq;refine assign_Tuple_tuple (I.ok.hd hc) ht (by simp[hn,<-hl,rv.length]) hst λh' hx=>?_;have I1:Inv X pins σ H { s with heap:=h' }:=I.kept (t':=s.toks) λb o e=>hx b o (ck (ax e)) e;exact h pins _ σ H xs _ Q I1 (by simpa using rv) hw
def Vp(to ti:TE)(t:vD):TG:=λv σ H Q=>to σ H λo H1=>ti σ H1 λi H2=>t o i v H2 λH3=>Q σ H3
theorem Vq{o i:Expr}{to ti:TE}{t:vD}(ho:PE X o to)(hi:PE X i ti)(hs:vG X t)
  (ha:∀v,assign (.Subscript o i pos) X.env v=(do
   let ov <-holding [v] (eval o X.env)
   let iv <-holding [v,ov] (eval i X.env)
   standAt pos
   holding [v,ov,iv] (setItem ov iv v)
   release [v,ov,iv] []):=by intro _;rfl):PG X (.Subscript o i pos) (Vp to ti t):=by
 intro pins s σ H v u Q I r h;rw[ha];refine ag (eJ (thn (ho pins s σ H _ I h) λov s1 ⟨x,H1,I1,r1,q1⟩=>?_));refine ag (eJ (thn (hi pins s1 σ H1 _ I1 q1) λiv s2 ⟨y,H2,I2,r2,q2⟩=>?_));refine ag (wpAny_standAt (ag (eJ (thn (hs pins s2 σ H2 x y v ov iv u _ I2 r1 r2 r q2) λ_ s3 ⟨H3,I3,q3⟩=>?_))));exact wpAny_release ⟨σ,H3,I3,q3⟩
def qi(te:TE)(g:TG):TS:=λD σ H=>te σ H λx H1=>g x σ H1 D.nx
theorem Bm{tg e:Expr}{te:TE}{g:TG}(he:PE X e te)(hg:PG X tg g)(hs:swapsWithSole [tg] e pos.line X.env=pure false:=by rfl)(hw:swappedStores [tg] e X.env=pure none:=by rfl)
  (h1:(assignEach [tg] X.env).map (·.2)=[assign tg X.env]:=by rfl):PS X (.Assign [tg] e pos) (qi te g):=by
 intro pins s σ H D I h;refine wpAny_Assign_stores (thn (he pins s σ H _ I h) λv s1 ⟨x,H1,I1,r1,q1⟩=>?_) hs hw;rw[h1];exact thn (hg pins s1 σ H1 x v _ I1 r1 q1) λ_ s2 q=>q
theorem Bo{i:Nat}{x:Str}{e:Expr}{te:TE}{pos':Pos}(hN:X.N.Nodup)(hi:X.N[i]?=some x)(hx:Loc X.env.scope x)(he:PE X e te)(hs:swapsWith e (some (.Name x pos')) pos.line X.env=pure false:=by rfl)(hf:X.fn x=true\/X.env.scope.names.lookup x=some .local:=by first |exact .inl rfl |exact .inr rfl |assumption):
  PS X (.Assign [.Name x pos'] e pos) (qi te (qg i)):=by
 intro pins s σ H D I h;refine wpAny_Assign_Name (thn (he pins s σ H _ I h) λv s1 ⟨y,H1,I1,r1,q1⟩=>?_) hs;exact qd I1 hN hi hx r1 (λs2 I2=>⟨_,H1,I2,q1⟩) hf
def Vr(i:Nat)(te:TE)(ti:TIp):TS:=λD σ H=>∃x,σ[i]?=some (some x)/\te σ H λy H1=>ti x y H1 λz H2=>D.nx (σ.set i (some z)) H2
theorem Vs{i:Nat}{x:Str}{e:Expr}{te:TE}{op:Operator}{ti:TIp}{pos':Pos}(hN:X.N.Nodup)(hi:X.N[i]?=some x)(hx:Loc X.env.scope x)(he:PE X e te)(ho:PIp X op ti)(hf:X.fn x=true\/X.env.scope.names.lookup x=some .local:=by first |exact .inl rfl |exact .inr rfl |assumption):
  PS X (.AugAssign (.Name x pos') op e pos) (Vr i te ti):=by
 intro pins s σ H D I h;obtain ⟨v,e1,h⟩:=h;obtain ⟨m,hn,hl⟩:=I.loc;have vis:Vis X.env.scope x:=by rcases hx with k |k;exact .inl k;exact .inr (.inl k)
 obtain ⟨u,r,l⟩:=hl i x v hi e1 vis;refine wpAny_AugAssign_Name ?_;have go:wpAny (model X.prog X.w) X.A (eval e X.env) (λw s₂=>wpAny (model X.prog X.w) X.A (inplaceOp op u w) (λr s₃=>wpAny (model X.prog X.w) X.A (storeName X.env x r) (λ_=>SP X pins D .next) X.xe s₃) X.xe s₂) X.xe s:=by refine thn (he pins s σ H _ I h) λw s1 ⟨y,H1,I1,r1,q1⟩=>?_;refine thn (ho pins s1 σ H1 v y u w _ I1 r r1 q1) λz s2 ⟨zv,H2,I2,r2,q2⟩=>?_;exact qd I2 hN hi hx r2 (λs3 I3=>⟨_,H2,I3,q2⟩) hf
 rcases l with ⟨hk,hm⟩ |⟨hk,c,hc,hcell⟩
 ·exact wpAny_loadName_local I.ok.kind hk hn hm go
 ·rcases hk with hk |hk
  ·exact wpAny_loadName_cell I.ok.kind hk hc hcell go
  ·rcases hx with k |k
   ·have:X.env.scope.names.lookup x=some .free:=hk;rw[k]at this;cases this
   ·have:X.env.scope.names.lookup x=some .free:=hk;rw[k]at this;cases this
end
structure It where
 go:Nat->Hp->Prop
 yld:Nat->Hp->V->Hp->Prop
 stop:Nat->Hp->Prop
def eN(X:Cx)(pins:List (Addr×Obj))(H:Hp)(b:Addr):Prop:=
 H b=none/\b≠X.env.locals/\b∉X.fs/\(b∈X.ex\/X.s₀.heap.objs.size<=b)/\(∀x c,X.env.cells.lookup x=some c->c≠b)/\∀p∈X.pn++pins,p.1≠b
theorem Inv.fpOk{X:Cx}{pins:List (Addr×Obj)}{σ:St}{H H':Hp}{s:Shared}{b:Addr}(I:Inv X pins σ H s)(hb:s.heap.objs.size<=b)(hn:H' b=none):eN X pins H' b:=by
 refine ⟨hn,fq (bg I.lt hb),I.nofs hb,.inr (cm I.sz hb),λx c e z=>?_,λp hp z=>?_⟩
 ·obtain ⟨v,q⟩:=I.cell x c e;exact absurd (bg q.lt (by rw[z];exact hb)) (d5 _)
 ·exact absurd (bg (ax (I.pin p hp).1) (by rw[z];exact hb)) (d5 _)
structure Turn(P:Program)(w:World)(K:PySem.W.Frag)(tg:Expr)(J:It)(fp:List Addr)(it:Addr)(tn:Nat->Heap->Prop):Prop where
 mem:it∈fp
 obj:∀i h,tn i h->∀b∈fp,∃o,h.get? b=some o/\∀v,o.data≠.cell v
 keep:∀i h h',tn i h->(∀b∈fp,∀o,h.get? b=some o->h'.get? b=some o)->tn i h'
 item:∀(X:Cx),X.prog=P->X.w=w->X.K=K->X.calm=true->∀(i:Nat)(pins:List (Addr×Obj))(s:Shared)(σ:St)(H:Hp)(E:Value->Shared->Prop),Inv X pins σ H s->(∀b∈fp,eN X pins H b)->tn i s.heap->J.go i H->
  wpAny (model P w) X.A (pyNext (.ref it)) (λr s1=>∃u,r=some u/\
   wpAny (model P w) X.A (letOwnedTupleGo tg (.ref it) u) (λ_ s2=>∃x H',Inv X pins σ H' s2/\RelV x u/\J.yld i H x H'/\tn (i+1) s2.heap/\∀b∈fp,H' b=none) E s1) E s
 done:∀(X:Cx),X.prog=P->X.w=w->X.K=K->X.calm=true->∀(i:Nat)(pins:List (Addr×Obj))(s:Shared)(σ:St)(H:Hp)(E:Value->Shared->Prop),Inv X pins σ H s->(∀b∈fp,eN X pins H b)->tn i s.heap->J.stop i H->
  wpAny (model P w) X.A (pyNext (.ref it)) (λr s1=>r=none/\Inv X pins σ H s1) E s
 self:∀(A:Around)(i:Nat)(s:Shared)(Q:Value->Shared->Prop)(E:Value->Shared->Prop),tn i s.heap->Q (.ref it) s->wpAny (model P w) A (pyIter (.ref it)) Q E s
abbrev TI:=St->Hp->(It->Hp->Prop)->Prop
def PIE(X:Cx)(pins:List (Addr×Obj))(σ:St)(tg:Expr)(R:It->Hp->Prop)(itv:Value)(s2:Shared):Prop:=
 ∃(it:Addr)(fp:List Addr)(tn:Nat->Heap->Prop)(J:It)(H':Hp),itv=.ref it/\Inv X pins σ H' s2/\Turn X.prog X.w X.K tg J fp it tn/\tn 0 s2.heap/\(∀b∈fp,eN X pins H' b)/\R J H'
def PI(X:Cx)(tg iter:Expr)(wi:TI):Prop:=
 ∀(pins:List (Addr×Obj))(s:Shared)(σ:St)(H:Hp)(R:It->Hp->Prop),Inv X pins σ H s->wi σ H R->
  wpAny (model X.prog X.w) X.A (eval iter X.env) (λv s1=>wpAny (model X.prog X.w) X.A (pyIter v) (PIE X pins σ tg R) X.xe s1) X.xe s
theorem qj{M:Model}{A:Around}{E:Value->Shared->Prop}{s:Shared}{tg:Expr}{it:Addr}{u:Value}{o:Obj}{n:String}{vs:Array Value}{Q:Unit->Shared->Prop}(ho:s.heap.get? it=some o)(hc:o.cls=.type n)(hd:o.data=.fields vs)
  (hn:["enumerate","zip","dict_itemiterator","dict_reverseitemiterator","odict_iterator","itertools.zip_longest","itertools.pairwise"].contains n=false) (hQ:Q () s):wpAny M A (letOwnedTupleGo tg (.ref it) u) Q E s:=by
 unfold letOwnedTupleGo;cases tg <;> first
  |exact bb hQ
  | (cases u <;> first
    |exact bb hQ
    | (refine ag (wpAny_load ho ?_)
       rw[hc,hd];show wpAny M A (if (["enumerate","zip","dict_itemiterator","dict_reverseitemiterator","odict_iterator","itertools.zip_longest","itertools.pairwise"].contains n&&vs[0]?==some (rawInt _))=true then _ else _) Q E s;rw[if_neg (by intro h;rw[hn,Bool.false_and]at h;cases h)];exact bb hQ))
def Itl(K:PySem.W.Frag)(a:Addr):It:=
 ⟨λi H=>∃xs x,SqL K H a xs/\xs[i]?=some x,λi H x H'=>H'=H/\∀xs,SqL K H a xs->xs[i]?=some x,λi H=>∃xs,SqL K H a xs/\xs.length<=i⟩
def Itt(K:PySem.W.Frag)(a:Addr):It:=
 ⟨λi H=>∃xs x,SqT K H a xs/\xs[i]?=some x,λi H x H'=>H'=H/\∀xs,SqT K H a xs->xs[i]?=some x,λi H=>∃xs,SqT K H a xs/\xs.length<=i⟩
def Itr(lo:Int)(n:Nat):It:=⟨λi _=>i < n,λi H x H'=>H'=H/\x=.int (lo+i),λi _=>n<=i⟩
theorem Bp{P:Program}{w:World}{K:PySem.W.Frag}{tg:Expr}(a it:Addr):Turn P w K tg (Itl K a) [it] it (λi h=>h.IsListIter it a i) where
 mem:=by simp
 obj:=λi h st b hb=>by
  have e:b=it:=by simpa using hb
  subst e;obtain ⟨o,e,c,d⟩:=st;exact ⟨o,e,λv z=>by rw[d]at z;cases z⟩
 keep:=λi h h' st k=>st.at λo e=>k it (by simp) o e
 item:=by intro X hP hw hK hc i pins s σ H E I hf st hg;subst hP hw hK;obtain ⟨xs,x,hq,hx⟩:=hg;obtain ⟨its,rv,p,hz⟩:=I.list hq;obtain ⟨u,hu,ru⟩:=rv.get hx;obtain ⟨f0,f1,f2,f3,f4,f5⟩:=hf it (by simp);refine wpAny_pyNext_list_item st p.isList (x:=u) (by simpa using hu) λh' st' sb=>?_;have I1:Inv X pins σ H { s with heap:=h' }:=I.turned (t':=s.toks) (λb o hb e=>(sb.2 b hb).trans e) f0 f1 f3 f4 f5;obtain ⟨o,e,c,d⟩:=id st';exact ⟨u,rfl,qj (s:={ s with heap:=h' }) e c d (by decide) ⟨x,H,I1,ru,⟨rfl,λys hy=>by rw[I.list_inj hy hq];exact hx⟩,st',λb hb=>(hf b hb).1⟩⟩
 done:=by intro X hP hw hK hc i pins s σ H E I hf st hg;subst hP hw hK;obtain ⟨xs,hq,hx⟩:=hg;obtain ⟨its,rv,p,hz⟩:=I.list hq;obtain ⟨f0,f1,f2,f3,f4,f5⟩:=hf it (by simp);have hl:=rv.length;exact wpAny_pyNext_list_end (I.ok.hd hc) st p.isList (by simp;omega) λh' eb=>⟨rfl,I.turned (t':=s.toks) (λb o hb e=>eb b o hb e) f0 f1 f3 f4 f5⟩
 self:=λ_ _ _ _ _ st h=>wpAny_pyIter_listiter st h
theorem Bq{P:Program}{w:World}{K:PySem.W.Frag}{tg:Expr}(a it:Addr):Turn P w K tg (Itt K a) [it] it (λi h=>h.IsTupleIter it a i) where
 mem:=by simp
 obj:=λi h st b hb=>by
  have e:b=it:=by simpa using hb
  subst e;obtain ⟨o,e,c,d⟩:=st;exact ⟨o,e,λv z=>by rw[d]at z;cases z⟩
 keep:=λi h h' st k=>st.at λo e=>k it (by simp) o e
 item:=by intro X hP hw hK hc i pins s σ H E I hf st hg;subst hP hw hK;obtain ⟨xs,x,hq,hx⟩:=hg;obtain ⟨its,rv,p,hz⟩:=I.tuple hq;obtain ⟨u,hu,ru⟩:=rv.get hx;obtain ⟨f0,f1,f2,f3,f4,f5⟩:=hf it (by simp);refine wpAny_pyNext_tuple_item st (show s.heap.IsTuple a its.toArray from p) (x:=u) (by simpa using hu) λh' st' sb=>?_;have I1:Inv X pins σ H { s with heap:=h' }:=I.turned (t':=s.toks) (λb o hb e=>(sb.2 b hb).trans e) f0 f1 f3 f4 f5;obtain ⟨o,e,c,d⟩:=id st';exact ⟨u,rfl,qj (s:={ s with heap:=h' }) e c d (by decide) ⟨x,H,I1,ru,⟨rfl,λys hy=>by rw[I.tuple_inj hy hq];exact hx⟩,st',λb hb=>(hf b hb).1⟩⟩
 done:=by intro X hP hw hK hc i pins s σ H E I hf st hg;subst hP hw hK;obtain ⟨xs,hq,hx⟩:=hg;obtain ⟨its,rv,p,hz⟩:=I.tuple hq;obtain ⟨f0,f1,f2,f3,f4,f5⟩:=hf it (by simp);have hl:=rv.length;exact wpAny_pyNext_tuple_end (I.ok.hd hc) st (show s.heap.IsTuple a its.toArray from p) (by simp;omega) λh' eb=>⟨rfl,I.turned (t':=s.toks) (λb o hb e=>eb b o hb e) f0 f1 f3 f4 f5⟩
 self:=λ_ _ _ _ _ st h=>wpAny_pyIter_tupleiter st h
theorem Vt{P:Program}{w:World}{K:PySem.W.Frag}{tg:Expr}(it:Addr)(lo:Int)(n:Nat):Turn P w K tg (Itr lo n) [it] it (λi h=>IsRangeIter h it (lo+(i:Nat) * 1) ((n:Int) - (i:Nat)) 1) where
 mem:=by simp
 obj:=λi h st b hb=>by
  have e:b=it:=by simpa using hb
  subst e;exact ⟨_,st,λv z=>by
   have z':Data.fields _=Data.cell v:=z;cases z'⟩
 keep:=λi h h' st k=>k it (by simp) _ st
 item:=by intro X hP hw hK hc i pins s σ H E I hf st hg;subst hP hw hK;obtain ⟨f0,f1,f2,f3,f4,f5⟩:=hf it (by simp);have W:=Walks.range (prog:=X.prog) (w:=X.w) (I.ok.hd hc) it lo 1 n;refine W.item i s _ _ hg st λv h' tk hv st' kk=>?_;obtain ⟨t,rfl⟩:=hv;have I1:Inv X pins σ H { s with heap:=h',toks:=tk }:=I.turned (λb o hb e=>kk b o (by simpa using hb) e) f0 f1 f3 f4 f5;refine ⟨_,rfl,qj (s:={ s with heap:=h',toks:=tk }) (n:="range_iterator") st' rfl rfl (by decide) ⟨.int (lo+i),H,I1,⟨t,?_⟩,⟨rfl,rfl⟩,st',λb hb=>(hf b hb).1⟩⟩;rw[Int.mul_one]
 done:=by intro X hP hw hK hc i pins s σ H E I hf st hg;subst hP hw hK;obtain ⟨f0,f1,f2,f3,f4,f5⟩:=hf it (by simp);exact wpAny_pyNext_range_end (I.ok.hd hc) st (by have:n<=i:=hg;omega) λh' eb=>⟨rfl,I.turned (t':=s.toks) (λb o hb e=>eb b o hb e) f0 f1 f3 f4 f5⟩
 self:=λ_ _ _ _ _ st h=>wpAny_pyIter_rangeiter st h
section
variable {X:Cx} {tg:Expr}
theorem Vu{pins:List (Addr×Obj)}{σ:St}{H:Hp}{s:Shared}{R:It->Hp->Prop}{E:Value->Shared->Prop}{lo hi:Int}{t u v:Tok}{tk:Nat}(I:Inv X pins σ H s)(h1:-(2 ^ 62)<=lo)(h2:lo < 2 ^ 62)(h3:-(2 ^ 62)<=hi)(h4:hi < 2 ^ 62)
  (q:R (Itr lo (hi - lo).toNat) H):wpAny (model X.prog X.w) X.A (pyIter (.ref s.heap.objs.size)) (PIE X pins σ tg R) E { s with heap:=s.heap.push { cls:=.type "range",data:=.fields #[.int lo t,.int hi u,.int 1 v] },toks:=tk }:=by
 refine wpAny_pyIter_range (IsRange.new ..) (small_one h1 h2 h3 h4) ?_;have I1:Inv X pins σ H { s with heap:=s.heap.push { cls:=.type "range",data:=.fields #[.int lo t,.int hi u,.int 1 v] },toks:=tk }:=I.kept λb o e=>ah _ e;refine ⟨(s.heap.push { cls:=.type "range",data:=.fields #[.int lo t,.int hi u,.int 1 v] }).objs.size,[(s.heap.push { cls:=.type "range",data:=.fields #[.int lo t,.int hi u,.int 1 v] }).objs.size],_,_,H,rfl,
  I1.kept (t':=tk) λb o e=>ah _ e,Vt _ lo (hi - lo).toNat,?_,λb hb=>?_,q⟩
 ·have e1:lo+((0:Nat):Int) * 1=lo:=by simp
  have e2:(((hi - lo).toNat:Nat):Int) - ((0:Nat):Int)=Builtin.Range.rangeSize lo hi 1:=by rw[rangeSize_one];split <;> omega
  show IsRangeIter _ _ (lo+((0:Nat):Int) * 1) ((((hi - lo).toNat:Nat):Int) - ((0:Nat):Int)) 1;rw[e1,e2];exact ba _ rfl
 ·have e:b=(s.heap.push { cls:=.type "range",data:=.fields #[.int lo t,.int hi u,.int 1 v] }).objs.size:=by simpa using hb
  subst e;exact I1.fpOk (aw _) (I1.hok.fresh (aw _))
def Vv(ta:TA):TI:=λσ H R=>ta σ H λvs H1=>∃j:Int,vs=[.int j]/\-(2 ^ 62)<=j/\j < 2 ^ 62/\R (Itr 0 j.toNat) H1
theorem Vw {a:Expr} {ta:TA} {p pos:Pos} (hg:Gl X "range") (hm:X.mg "range"=none) (ha:PA X [a] ta) (hs:starEach [a] X.env=[(false,eval a X.env)]:=by rfl):PI X tg (.Call (.Name "range" p) [a] [] pos) (Vv ta):=by
 intro pins s σ H R I h;refine Call_ (iQ I hg hm boot_range (e8 (thn (ha pos pins s σ H _ I h) λus s1 ⟨vs,H1,I1,r1,q1⟩=>?_) hs rfl));obtain ⟨j,e,q1,q2,q⟩:=q1;subst e;cases r1 with
 |cons r rr=>
  cases rr;obtain ⟨t,rfl⟩:=r;exact call_range_1 (Vu I1 (by omega) (by omega) q1 q2 (by simpa using q))
def Vx(wi:TI)(g:TG)(tb:TS):TS:=λD σ H=>wi σ H λJ H1=>∃W:Nat->Nat->St->Hp->Prop,(∃m,W 0 m σ H1)/\∀i m σ H,W i m σ H->
 (J.stop i H/\D.nx σ H)\/(J.go i H/\∃N:St->Hp->Prop,(∀σ' H',N σ' H'->∃m',m' < m/\W (i+1) m' σ' H')/\∀x H',J.yld i H x H'->g x σ H' λσ2 H2=>tb { D with nx:=N,ct:=N,bk:=D.nx } σ2 H2)
def jV(fp:List Addr)(h:Heap):List (Addr×Obj):=fp.filterMap λb=>(h.get? b).map λo=>(b,o)
theorem ql{fp:List Addr}{h:Heap}{b:Addr}{o:Obj}(hb:b∈fp)(e:h.get? b=some o):(b,o)∈jV fp h:=List.mem_filterMap.mpr ⟨b,hb,by rw[e];rfl⟩
theorem Vy{fp:List Addr}{h:Heap}{p:Addr×Obj}(hp:p∈jV fp h):p.1∈fp/\h.get? p.1=some p.2:=by
 obtain ⟨b,hb,e⟩:=List.mem_filterMap.mp hp;cases q:h.get? b with
 |none=>rw[q]at e;cases e
 |some o=>
  rw[q]at e;have e':(b,o)=p:=dr e;subst e';exact ⟨hb,q⟩
theorem Inv.pinned{pins:List (Addr×Obj)}{σ:St}{H:Hp}{s:Shared}{fp:List Addr}(I:Inv X pins σ H s)(hf:∀b∈fp,eN X pins H b)(ho:∀b∈fp,∃o,s.heap.get? b=some o/\∀v,o.data≠.cell v):Inv X (pins++jV fp s.heap) σ H s:=
 I.pins_of λp hp=>(aS.mp hp).elim (λz=>I.pin p (bo _ z)) λz=>by
  obtain ⟨hb,e⟩:=Vy z;obtain ⟨f0,f1,f2,_⟩:=hf p.1 hb;obtain ⟨o,e',d⟩:=ho p.1 hb;rw[e]at e';cases e';exact ⟨e,f0,f1,f2,d⟩
theorem Inv.unpinned{pins pl:List (Addr×Obj)}{σ:St}{H:Hp}{s:Shared}(I:Inv X (pins++pl) σ H s):Inv X pins σ H s:=I.pins_of λp hp=>I.pin p (bo _ (ez _ hp))
theorem Vz{iter:Expr}{body:List Stmt}{wi:TI}{g:TG}{tb:TS}{pos:Pos}(hp:PassesOwn (model X.prog X.w) X.A X.env X.xe)(hc:X.calm=true)(hi:PI X tg iter wi)(hg:PG X tg g)(hb:PSs X body tb)
  (hs:∀x,foldedSetIterable iter X.env x=pure x:=by intro _;rfl):PS X (.For tg iter body [] pos) (Vx wi g tb):=by
 intro pins s σ H D I h;refine wpAny_For (thn (hi pins s σ H _ I h) λv s1 h1=>thn h1 λitv s2 h2=>?_) hs;obtain ⟨it,fp,tn,J,H2,e,I2,T,st2,f2,W,⟨m0,w0⟩,turn⟩:=h2;subst e
 -- what stays true of the iterator's objects through the loop
 have stat:∀{H':Hp},(∀b∈fp,H' b=none)->∀b∈fp,eN X pins H' b:=λhn b hb=>⟨hn b hb,(f2 b hb).2⟩;refine codeAny_forLoop_any (λn s'=>∃i σ' H',Inv X pins σ' H' s'/\tn i s'.heap/\(∀b∈fp,H' b=none)/\W i n σ' H') ?_ m0 ⟨0,σ,H2,I2,st2,λb hb=>(f2 b hb).1,w0⟩;rintro n s3 ⟨i,σ3,H3,I3,st3,fr3,w3⟩;rcases turn i n σ3 H3 w3 with ⟨stop,qn⟩ |⟨go,N,hN,step⟩
 ·refine wpAny_passesOwn hp (thn (T.done X rfl rfl rfl hc i pins s3 σ3 H3 X.xe I3 (stat fr3) st3 stop) λr s4 ⟨hr,I4⟩=>?_);subst hr;exact wpAny_execs_nil ⟨σ3,H3,I4,qn⟩
 ·refine wpAny_passesOwn hp (thn (T.item X rfl rfl rfl hc i pins s3 σ3 H3 X.xe I3 (stat fr3) st3 go) λr s4 ⟨u,hr,h4⟩=>?_);subst hr;refine wpAny_passesOwn hp (thn h4 λ_ s5 ⟨x,H5,I5,r5,y5,st5,fr5⟩=>?_);have I5':=I5.pinned (stat fr5) (T.obj _ _ st5);refine wpAny_passesOwn hp (thn (hg _ s5 σ3 H5 x u _ I5' r5 (step x H5 y5)) λ_ s6 ⟨σ6,H6,I6,q6⟩=>?_);refine wpAny_passesOwn hp (thn (hb _ s6 σ6 H6 _ I6 q6) λf s7 q7=>?_);have again:∀{σ7:St}{H7:Hp},Inv X (pins++jV fp s5.heap) σ7 H7 s7->N σ7 H7->∃m,m < n/\∃i σ' H',Inv X pins σ' H' s7/\tn i s7.heap/\(∀b∈fp,H' b=none)/\W i m σ' H':=λ{σ7 H7} I7 n7=>by
   obtain ⟨m',hm,w7⟩:=hN σ7 H7 n7;refine ⟨m',hm,i+1,σ7,H7,I7.unpinned,T.keep _ _ _ st5 λb hb o e=>(I7.pin (b,o) (bo _ (bo _ (ql hb e)))).1,λb hb=>?_,w7⟩;obtain ⟨o,e,d⟩:=T.obj _ _ st5 b hb;exact (I7.pin (b,o) (bo _ (bo _ (ql hb e)))).2.1
  cases f with
  |next=>obtain ⟨σ7,H7,I7,n7⟩:=q7;exact again I7 n7
  |cont=>obtain ⟨σ7,H7,I7,n7⟩:=q7;exact again I7 n7
  |brk=>obtain ⟨σ7,H7,I7,q7⟩:=q7;exact ⟨σ7,H7,I7.unpinned,q7⟩
  |ret v=>obtain ⟨x7,σ7,H7,I7,r7,q7⟩:=q7;exact ⟨x7,σ7,H7,I7.unpinned,r7,q7⟩
end
abbrev R2:=V->V->Hp->VK->Prop
def OpR(X:Cx)(f:Value->Value->Sem Value)(r:R2):Prop:=
 ∀(pins:List (Addr×Obj))(s:Shared)(σ:St)(H:Hp)(x y:V)(v u:Value)(Q:VK),Inv X pins σ H s->RelV x v->RelV y u->r x y H Q->
  wpAny (model X.prog X.w) X.A (f v u) (EP X pins σ Q) X.xe s
def UnR(X:Cx)(f:Value->Sem Value)(r:V->Hp->VK->Prop):Prop:=
 ∀(pins:List (Addr×Obj))(s:Shared)(σ:St)(H:Hp)(x:V)(v:Value)(Q:VK),Inv X pins σ H s->RelV x v->r x H Q->
  wpAny (model X.prog X.w) X.A (f v) (EP X pins σ Q) X.xe s
def bF(X:Cx)(f:Value)(r:List V->Hp->VK->Prop):Prop:=
 ∀(pins:List (Addr×Obj))(s:Shared)(σ:St)(H:Hp)(xs:List V)(us:List Value)(Q:VK),Inv X pins σ H s->Vals xs us->r xs H Q->
  wpAny (model X.prog X.w) X.A (call f us) (EP X pins σ Q) X.xe s
def VB(X:Cx)(r:V->Hp->(Bool->Hp->Prop)->Prop):Prop:=
 ∀(pins:List (Addr×Obj))(s:Shared)(σ:St)(H:Hp)(x:V)(v:Value)(Q:Bool->Hp->Prop),Inv X pins σ H s->RelV x v->r x H Q->
  wpAny (model X.prog X.w) X.A (truthy v) (TP X pins σ Q) X.xe s
def tOp(r:R2)(ta tb:TE):TE:=λσ H Q=>ta σ H λx H1=>tb σ H1 λy H2=>r x y H2 Q
def tUn(r:V->Hp->VK->Prop)(ta:TE):TE:=λσ H Q=>ta σ H λx H1=>r x H1 Q
def rI(C:Int->Int->Prop)(g:Int->Int->V):R2:=λx y H Q=>∃i j,x=.int i/\y=.int j/\C i j/\Q (g i j) H
def rI0(g:Int->Int->V):R2:=λx y H Q=>∃i j,x=.int i/\y=.int j/\Q (g i j) H
def rU(g:Int->V):V->Hp->VK->Prop:=λx H Q=>∃i,x=.int i/\Q (g i) H
section
variable {X:Cx} {a b c:Expr} {ta tb tc:TE} {pos:Pos}
theorem vH(ha:PE X a ta)(hb:PE X b tb){pins:List (Addr×Obj)}{s:Shared}{σ:St}{H:Hp}{R:V->V->Hp->Prop}(I:Inv X pins σ H s)
  (h:ta σ H λx H1=>tb σ H1 λy H2=>R x y H2) {Q:Value->Shared->Prop} {f:Value->Value->Sem Value}
  (hf:∀v u s2 x y H2,Inv X pins σ H2 s2->RelV x v->RelV y u->R x y H2->wpAny (model X.prog X.w) X.A (f v u) Q X.xe s2):
  wpAny (model X.prog X.w) X.A (eval a X.env) (λv s₁=>wpAny (model X.prog X.w) X.A (eval b X.env) (λu s₂=>wpAny (model X.prog X.w) X.A (f v u) Q X.xe s₂) X.xe s₁) X.xe s:=by
 refine thn (ha pins s σ H _ I h) λv s1 ⟨x,H1,I1,r1,q1⟩=>?_;refine thn (hb pins s1 σ H1 _ I1 q1) λu s2 ⟨y,H2,I2,r2,q2⟩=>?_;exact hf v u s2 x y H2 I2 r1 r2 q2
theorem VD{op:Operator}{r:R2}(ho:OpR X (binaryOp op) r)(ha:PE X a ta)(hb:PE X b tb):PE X (.BinOp a op b pos) (tOp r ta tb):=by intro pins s σ H Q I h;exact wpAny_BinOp (vH ha hb I h λv u s2 x y H2 I2 rx ry q=>ho pins s2 σ H2 x y v u Q I2 rx ry q)
theorem VF{op:UnaryOp}{r:V->Hp->VK->Prop}(ho:UnR X (unaryOp op) r)(ha:PE X a ta):PE X (.UnaryOp op a pos) (tUn r ta):=by intro pins s σ H Q I h;exact UnaryOp_ (thn (ha pins s σ H _ I h) λv s1 ⟨x,H1,I1,r1,q1⟩=>ho pins s1 σ H1 x v Q I1 r1 q1)
theorem opI{f:Value->Value->Sem Value}{C:Int->Int->Prop}{g:Int->Int->Int}
  (rule:∀(i j:Int)(t u:Tok)(s:Shared)(Q:Value->Shared->Prop)(E:Value->Shared->Prop),C i j->Q (.int (g i j) s.toks) { s with toks:=s.toks+1 }->wpAny (model X.prog X.w) X.A (f (.int i t) (.int j u)) Q E s):
  OpR X f (rI C λi j=>.int (g i j)):=by
 intro pins s σ H x y v u Q I rx ry h;obtain ⟨i,j,rfl,rfl,hc,q⟩:=h;obtain ⟨t,rfl⟩:=rx;obtain ⟨t',rfl⟩:=ry;exact rule i j t t' s _ _ hc ⟨.int (g i j),H,I.tok _,⟨_,rfl⟩,q⟩
theorem qm{f:Value->Value->Sem Value}{g:Int->Int->Int}
  (rule:∀(i j:Int)(t u:Tok)(s:Shared)(Q:Value->Shared->Prop)(E:Value->Shared->Prop),Q (.int (g i j) s.toks) { s with toks:=s.toks+1 }->wpAny (model X.prog X.w) X.A (f (.int i t) (.int j u)) Q E s):
  OpR X f (rI0 λi j=>.int (g i j)):=by
 intro pins s σ H x y v u Q I rx ry h;obtain ⟨i,j,rfl,rfl,q⟩:=h;obtain ⟨t,rfl⟩:=rx;obtain ⟨t',rfl⟩:=ry;exact rule i j t t' s _ _ ⟨.int (g i j),H,I.tok _,⟨_,rfl⟩,q⟩
def qp(i j:Int):Prop:=0<=j/\j<=1000000/\i.natAbs < 2 ^ 64
def CMul(i j:Int):Prop:=(-(2 ^ 64) < i/\i < 2 ^ 64)\/(-(2 ^ 64) < j/\j < 2 ^ 64)
theorem CMul.ok{i j:Int}(h:CMul i j):IntMulOk i j:=by
 rcases h with ⟨h1,h2⟩ |⟨h1,h2⟩
 ·exact .of_left (intBits_le_64 h1 h2)
 ·exact .of_right (intBits_le_64 h1 h2)
theorem VG:OpR X (binaryOp .Add) (rI0 λi j=>.int (i+j)):=qm λ_ _ _ _ _ _ _ q=>add_int q
theorem VH:OpR X (binaryOp .Sub) (rI0 λi j=>.int (i - j)):=qm λ_ _ _ _ _ _ _ q=>sub_int q
theorem VJ:OpR X (binaryOp .Mult) (rI CMul λi j=>.int (i * j)):=opI λ_ _ _ _ _ _ _ hc q=>mul_int q hc.ok
theorem VL:OpR X (binaryOp .Mod) (rI (λ_ j=>0 < j) λi j=>.int (i % j)):=opI λi j _ _ _ _ _ hc q=>by
 have h1:(0:Int) < j:=hc;exact mod_int' (by omega) (by rw[Int.fmod_eq_emod_of_nonneg i (by omega)];exact q)
theorem VM:OpR X (binaryOp .Pow) (rI qp λi j=>.int (i ^ j.toNat)):=opI λ_ _ _ _ _ _ _ hc q=>pow_int_small hc.1 hc.2.1 hc.2.2 q
theorem VN:OpR X (inplaceOp .Add) (rI0 λi j=>.int (i+j)):=qm λ_ _ _ _ _ _ _ q=>iadd_int q
theorem VP:OpR X (inplaceOp .Sub) (rI0 λi j=>.int (i - j)):=qm λ_ _ _ _ _ _ _ q=>isub_int q
theorem unI{f:Value->Sem Value}{g:Int->Int}
  (rule:∀(i:Int)(t:Tok)(s:Shared)(Q:Value->Shared->Prop)(E:Value->Shared->Prop),Q (.int (g i) s.toks) { s with toks:=s.toks+1 }->wpAny (model X.prog X.w) X.A (f (.int i t)) Q E s):
  UnR X f (rU λi=>.int (g i)):=by
 intro pins s σ H x v Q I rx h;obtain ⟨i,rfl,q⟩:=h;obtain ⟨t,rfl⟩:=rx;exact rule i t s _ _ ⟨.int (g i),H,I.tok _,⟨_,rfl⟩,q⟩
theorem VR:UnR X (unaryOp .USub) (rU λi=>.int (-i)):=unI λ_ _ _ _ _ q=>neg_int q
end
section
variable {X:Cx} {a b c:Expr} {ta tb tc:TE} {pos:Pos}
theorem Br{pins:List (Addr×Obj)}{σ:St}{H:Hp}{s:Shared}{Q:VK}{k k':Bool}(I:Inv X pins σ H s)(q:Q (.bl k) H)(e:k=k'):EP X pins σ Q (.bool k') s:=by subst e;exact ⟨.bl k,H,I,rfl,q⟩
theorem VV:OpR X (compareOp .Is) (λx y H Q=>y=.non/\Q (.bl (decide (x=.non))) H):=by
 intro pins s σ H x y v u Q I rx ry h;obtain ⟨rfl,q⟩:=h;cases ry;refine is_none_gen (Br I q ?_);cases x <;> first
  | (cases rx;rfl)
  | (obtain ⟨t,rfl⟩:=rx;rfl)
theorem V0:OpR X (compareOp .IsNot) (λx y H Q=>y=.non/\Q (.bl (!decide (x=.non))) H):=by
 intro pins s σ H x y v u Q I rx ry h;obtain ⟨rfl,q⟩:=h;cases ry;refine isnot_none_gen (Br I q ?_);cases x <;> first
  | (cases rx;rfl)
  | (obtain ⟨t,rfl⟩:=rx;rfl)
theorem V1{op:CmpOp}{r:R2}(ho:OpR X (compareOp op) r)(ha:PE X a ta)(hb:PE X b tb)(hm:behindInMarks op b=false):PE X (.Compare a [op] [b] pos) (tOp r ta tb):=by intro pins s σ H Q I h;exact wpAny_Compare1 (vH ha hb I h λv u s2 x y H2 I2 rx ry q=>ho pins s2 σ H2 x y v u Q I2 rx ry q) hm
def Bt(t:TE):TT:=λσ H Q=>t σ H λx H'=>∃k,x=.bl k/\Q k H'
theorem V2{op:CmpOp}{r:R2}(ho:OpR X (compareOp op) r)(ha:PE X a ta)(hb:PE X b tb)(hm:behindInMarks op b=false):PT X (.Compare a [op] [b] pos) (Bt (tOp r ta tb)):=by
 intro pins s σ H Q I h;refine wpAny_isTrue_Compare1 (thn (ha pins s σ H _ I h) λv s1 ⟨x,H1,I1,r1,q1⟩=>thn (hb pins s1 σ H1 _ I1 q1) λu s2 ⟨y,H2,I2,r2,q2⟩=>
  thn (ho pins s2 σ H2 x y v u _ I2 r1 r2 q2) λc s3 ⟨z,H3,I3,r3,k,e,q3⟩=>?_) hm
 subst e;cases r3;exact eg ⟨H3,I3,q3⟩
def vI(r r':R2)(ta tb tc:TE):TE:=λσ H Q=>ta σ H λx H1=>tb σ H1 λy H2=>r x y H2 λz H3=>∃k,z=.bl k/\
 (if k=true then tc σ H3 λw' H4=>r' y w' H4 Q else Q (.bl false) H3)
theorem V3{op op':CmpOp}{r r':R2}(ho:OpR X (compareOp op) r)(ho':OpR X (compareOp op') r')(ha:PE X a ta)(hb:PE X b tb)(hc:PE X c tc)
  (hm:lastMarks [op,op'] [b,c]=false:=by with_unfolding_all rfl):PE X (.Compare a [op,op'] [b,c] pos) (vI r r' ta tb tc):=by
 intro pins s σ H Q I h;refine Compare_chain (thn (ha pins s σ H _ I h) λv s1 ⟨x,H1,I1,r1,q1⟩=>chain_link (thn (hb pins s1 σ H1 _ I1 q1) λu s2 ⟨y,H2,I2,r2,q2⟩=>
  thn (ho pins s2 σ H2 x y v u _ I2 r1 r2 q2) λd s3 ⟨z,H3,I3,r3,k,e,q3⟩=>?_)) hm
 subst e;cases r3;refine eg ?_;cases k with
 |false=>exact ite_ff ⟨.bl false,H3,I3,rfl,q3⟩
 |true=>exact ite_tt (chain_last (thn (hc pins s3 σ H3 _ I3 q3) λw' s4 ⟨z',H4,I4,r4,q4⟩=>ho' pins s4 σ H4 y z' u w' Q I4 r2 r4 q4))
theorem V4{op op':CmpOp}{r r':R2}(ho:OpR X (compareOp op) r)(ho':OpR X (compareOp op') r')(ha:PE X a ta)(hb:PE X b tb)(hc:PE X c tc)
  (hm:lastMarks [op,op'] [b,c]=false:=by with_unfolding_all rfl):PT X (.Compare a [op,op'] [b,c] pos) (Bt (vI r r' ta tb tc)):=by
 intro pins s σ H Q I h;refine isTrue_chain (thn (ha pins s σ H _ I h) λv s1 ⟨x,H1,I1,r1,q1⟩=>test_link (thn (hb pins s1 σ H1 _ I1 q1) λu s2 ⟨y,H2,I2,r2,q2⟩=>
  thn (ho pins s2 σ H2 x y v u _ I2 r1 r2 q2) λd s3 ⟨z,H3,I3,r3,k,e,q3⟩=>?_)) hm
 subst e;cases r3;refine eg ?_;cases k with
 |false=>
  obtain ⟨k',e',q'⟩:=q3;cases e';exact ite_ff ⟨H3,I3,q'⟩
 |true=>
  refine ite_tt (test_last (thn (hc pins s3 σ H3 _ I3 q3) λw' s4 ⟨z',H4,I4,r4,q4⟩=>thn (ho' pins s4 σ H4 y z' u w' _ I4 r2 r4 q4) λd' s5 ⟨z2,H5,I5,r5,k2,e2,q5⟩=>?_));subst e2;cases r5;exact eg ⟨H5,I5,q5⟩
def qt(K:PySem.W.Frag)(x:V)(H:Hp)(k:Bool):Prop:=
 match x with
 |.non=>k=false
 |.bl b=>k=b
 |.int i=>k=(i != 0)
 |.str y=>y.length<=sizeLine/\k=((y.length:Int) != 0)
 |.byt y=>y.size<=sizeLine/\k=((y.size:Int) != 0)
 |.ref p=>(∃xs,SqL K H p xs/\k=!xs.isEmpty)\/(∃xs,SqT K H p xs/\k=!xs.isEmpty)\/∃kvs,H p=some (.dK kvs)/\k=!kvs.isEmpty
 |_=>False
theorem V5{κ:Type}{kvs:List (κ×V)}{vs:List (κ×Value)}(r:KV kvs vs):(!vs.isEmpty)=!kvs.isEmpty:=by cases r <;> rfl
theorem Bu{xs:List V}{its:List Value}(r:Vals xs its):(!its.toArray.isEmpty)=!xs.isEmpty:=by cases r <;> simp
theorem gJ:(sizeLine:Nat) < 2 ^ 63:=by rw[fw];decide
theorem Bv:VB X (λx H Q=>∃k,qt X.K x H k/\Q k H):=by
 intro pins s σ H x v Q I rx h;obtain ⟨k,e,q⟩:=h;have hl:=gJ;have hs:sizeLine=16777216:=fw;cases x with
 |non=>
  cases rx;have e':k=false:=e;subst e';exact truthy_none ⟨H,I,q⟩
 |bl b=>
  cases rx;have e':k=b:=e;subst e';exact eg ⟨H,I,q⟩
 |int i=>
  obtain ⟨t,rfl⟩:=rx;have e':k=(i != 0):=e;subst e';exact PySem.P.truthy_int ⟨H,I,q⟩
 |str y=>
  obtain ⟨t,rfl⟩:=rx;obtain ⟨hy,e'⟩:y.length<=sizeLine/\k=((y.length:Int) != 0):=e;subst e';exact PySem.P.truthy_str (by omega) ⟨H,I.tok _,q⟩
 |byt y=>
  obtain ⟨t,rfl⟩:=rx;obtain ⟨hy,e'⟩:y.size<=sizeLine/\k=((y.size:Int) != 0):=e;subst e';exact PySem.W.truthy_bytes (by omega) ⟨H,I.tok _,q⟩
 |ref p=>
  cases rx;have e':(∃xs,SqL X.K H p xs/\k=!xs.isEmpty)\/(∃xs,SqT X.K H p xs/\k=!xs.isEmpty)\/∃kvs,H p=some (.dK kvs)/\k=!kvs.isEmpty:=e;rcases e' with ⟨xs,hx,e'⟩ |⟨xs,hx,e'⟩ |⟨kvs,hx,e'⟩
  ·subst e';obtain ⟨its,r,pl,hz⟩:=I.list hx;have hlen:=r.length;exact wpAny_truthy_list pl.isList (by simp only[ar];omega) ⟨H,I.tok _,by rw[Bu r];exact q⟩
  ·subst e';obtain ⟨its,r,pl,hz⟩:=I.tuple hx;have hlen:=r.length;exact truthy_tuple pl (by simp only[ar];omega) ⟨H,I.tok _,by rw[Bu r];exact q⟩
  ·subst e';obtain ⟨hz,hS,vs,r,m⟩:kvs.length<=sizeLine/\(p==sysModules)=false/\∃vs,KV kvs vs/\s.heap.DictOf (vC X.prog X.w) p vs:=I.hok p _ hx;have hlen:kvs.length=vs.length:=Paired.length r;exact wpAny_truthy_dict hS m (by omega) ⟨H,I.tok _,by rw[V5 r];exact q⟩
 |_=>exact (show False from e).elim
theorem V6(ha:PE X a ta)(he:∀whole,isTrue a X.env whole=(do let v <-whole;standAt a.pos;holding [v] (truthy v))):
  PT X a (λσ H Q=>ta σ H λx H'=>∃k,qt X.K x H' k/\Q k H'):=by
 intro pins s σ H Q I h;exact isTrue_plain (thn (ha pins s σ H _ I h) λv s1 ⟨x,H1,I1,r1,q1⟩=>Bv pins s1 σ H1 x v Q I1 r1 q1) (he _)
theorem V7:OpR X (binaryOp .Add) (λx y H Q=>∃i j,x=.str i/\y=.str j/\i.length+j.length<=sizeLine/\Q (.str (i++j)) H):=by intro pins s σ H x y v u Q I rx ry h;obtain ⟨i,j,rfl,rfl,hz,q⟩:=h;obtain ⟨t,rfl⟩:=rx;obtain ⟨t',rfl⟩:=ry;exact add_str (λt' tk=>⟨.str (i++j),H,I.tok _,⟨_,rfl⟩,q⟩) hz
theorem V8:OpR X (inplaceOp .Add) (λx y H Q=>∃i j,x=.str i/\y=.str j/\i.length+j.length<=sizeLine/\Q (.str (i++j)) H):=by intro pins s σ H x y v u Q I rx ry h;obtain ⟨i,j,rfl,rfl,hz,q⟩:=h;obtain ⟨t,rfl⟩:=rx;obtain ⟨t',rfl⟩:=ry;exact iadd_str (λt' tk=>⟨.str (i++j),H,I.tok _,⟨_,rfl⟩,q⟩) hz
theorem vals1{x:V}{us:List Value}(r:Vals [x] us):∃u,us=[u]/\RelV x u:=by
 cases r with
 |cons r1 r2=>cases r2;exact ⟨_,rfl,r1⟩
theorem vals2{x y:V}{us:List Value}(r:Vals [x,y] us):∃u w',us=[u,w']/\RelV x u/\RelV y w':=by
 cases r with
 |cons r1 r2=>
  cases r2 with
  |cons r3 r4=>cases r4;exact ⟨_,_,rfl,r1,r3⟩
theorem Bw:bF X (.type "int") (λxs H Q=>(∃i,xs=[.int i]/\Q (.int i) H)\/∃k,xs=[.bl k]/\Q (.int (if k then 1 else 0)) H):=by
 intro pins s σ H xs us Q I r h;rcases h with ⟨i,rfl,q⟩ |⟨k,rfl,q⟩
 ·obtain ⟨u,rfl,t,rfl⟩:=vals1 r;exact call_int_int ⟨.int i,H,I,⟨_,rfl⟩,q⟩
 ·obtain ⟨u,rfl,r1⟩:=vals1 r;cases r1;exact call_int_bool ⟨.int (if k then 1 else 0),H,I.tok _,⟨_,rfl⟩,q⟩
end
structure ObjM(h:Heap)(x dx C:Addr)(mA:Str->Option Value):Prop where
 obj:h.get? x=some (PySem.W.instObj C dx)
 ns:h.Ns1 dx mA
 ne:dx≠x
theorem V9{h:Heap}{dx:Addr}{mA:Str->Option Value}(n:h.Ns1 dx mA):∃od,h.get? dx=some od/\∀name,PySem.W.lookIn name od=some (mA name):=by
 obtain ⟨o,es,ep,ho,hd,hk,_,hm⟩:=n;refine ⟨o,ho,λname=>?_⟩;have e:=hm name;unfold nsFind findBy at e;rw[<-Array.find?_toList]at e;unfold PySem.W.lookIn;rw[hd];dsimp only;split
 ·rename_i y q;rw[q]at e;exact eR some e
 ·rename_i q;rw[q]at e;have a:es.toList.any (·.refKey)=false:=by
   rw[List.any_eq_false];intro y hy;obtain ⟨z,t,hkey⟩:=hk y (Array.mem_toList_iff.mp hy);simp[DictEntry.refKey,hkey]
  have a':¬es.toList.any (·.refKey)=true:=by rw[a];exact br
  rw[if_neg a'];exact eR some e
theorem ObjM.look{h:Heap}{x dx C:Addr}{mA:Str->Option Value}(I:ObjM h x dx C mA):∃od,PySem.W.InstAt h x (PySem.W.instObj C dx) C (some od)/\∀name,PySem.W.lookIn name od=some (mA name):=
 let ⟨od,ho,hl⟩:=V9 I.ns
 ⟨od,⟨I.obj,rfl,rfl,ho⟩,hl⟩
section
variable {prog:Program} {w:World} {A:Around} {E:Value->Shared->Prop} {s:Shared} {K:PySem.W.Frag} {x dx C f:Addr} {mA:Str->Option Value} {name:Str} {v:Value}
theorem Wa{expr:Bool}{Q:Value->Shared->Prop}(X:K.In s.heap)(I:ObjM s.heap x dx C mA)(hg:PySem.W.plainGet K C name=true)(hh:PySem.W.hasDictIn K C=true)
  (ha:PySem.W.findIn K (.ref C) name=some none) (hv:mA name=some v) (hv':PySem.W.handedIn v=true) (h:Q v { s with toks:=s.toks+1 }):
  wpAny (model prog w) A (getAttr (.ref x) name expr) Q E s:=by
 obtain ⟨od,J,hl⟩:=I.look;exact PySem.W.get_value X J (PySem.W.plainGet_of hg).1 (PySem.W.findObj_own hh ha rfl (by rw[hl,hv])) hv' h
theorem Wb{pl:Sem Bool}{Q:Value×List Value->Shared->Prop}(X:K.In s.heap)(I:ObjM s.heap x dx C mA)(hg:PySem.W.plainGet K C name=true)
  (hf:PySem.W.findIn K (.ref C) name=some (some (.ref f))) (ht:PySem.W.isFn K (.ref f)=true) (hv:mA name=none) (h:Q (.ref f,[.ref x]) s):
  wpAny (model prog w) A (getMethod (.ref x) name pl) Q E s:=by
 obtain ⟨od,J,hl⟩:=I.look;exact PySem.W.method_fn X J (PySem.W.plainGet_of hg).1 (PySem.W.plainGet_of hg).2 hf (av.mp ht) (by show (PySem.W.lookIn name od).map (·.isSome)=some false;rw[hl,hv];rfl) h
theorem Wc{ns:List Str}{Q:Unit->Shared->Prop}(X:K.In s.heap)(I:ObjM s.heap x dx C mA)
  (hs:PySem.W.findIn K (.ref C) "__setattr__"=some (some (.builtin "object.__setattr__"))) (hp:PySem.W.plainOver K C=true) (ht:PySem.W.takerIn K C name=some none) (hh:PySem.W.hasDictIn K C=true)
  (hw:PySem.Within mA ns) (hsz:ns.length<=sizeLine)
  (h:∀h',ObjM h' x dx C (λy=>if y=name then some v else mA y)->Heap.SameBut dx s.heap h'->Q () { s with heap:=h',toks:=s.toks+2 }):
  wpAny (model prog w) A (setAttr (.ref x) name v) Q E s:=by
 obtain ⟨od,J,hl⟩:=I.look;refine PySem.W.set_plain X J hs (PySem.W.osa_open (s:={ s with toks:=s.toks+1 }) (r:=none) X J hp ht λb=>?_);obtain ⟨cd,hc,hd'⟩:=PySem.W.any_some hh;have hx:s.heap.get? x=some ⟨.ref C,some dx,.plain,#[]⟩:=I.obj;refine ag (bb (ag (ag (wpAny_loadPart hx (ag (PySem.W.Looks.here (s:={ s with toks:=s.toks+1 }) (PySem.W.looks_clsIn X hc) ?_))))));rw[hd'];refine bb (a:=some dx) (ag (bb (ag ?_)));refine wpAny_nsSet1 (s:={ s with toks:=s.toks+1 }) I.ns λh' hn2 hs2=>?_;obtain ⟨oD,esD,epD,hoD,hdD,hcD⟩:=hn2.count (PySem.Within.cons name v hw);refine ag (wpAny_lookBehind hoD (by rw[hdD];exact pastItsLine_dict (cm hcD (by rw[cb];omega))) ?_);exact bb (h _ ⟨(hs2.2 _ (Ne.symm I.ne)).trans I.obj,hn2,I.ne⟩ hs2)
theorem Wd{R:Result->Shared->Prop}{vs:List Value}{kw:List (Str×Value)}(X:K.In s.heap)(hm:PySem.W.makesIn K C=true)
  (hi:PySem.W.findIn K (.ref C) "__init__"=some (some (.ref f))) (hf:PySem.W.typeIn K (.ref f)=some (.type "function"))
  (h:codeAny (model prog w) (A.under (.builtin "type.__call__" ⟨.ref C::vs,kw⟩)) (.call (.ref f) ⟨.ref (s.heap.objs.size+1)::vs,kw⟩) (PySem.W.InitBack (s.heap.objs.size+1) R)
   { s with heap:=(s.heap.push PySem.W.emptyDict).push (PySem.W.instObj C s.heap.objs.size) }):
  codeAny (model prog w) A (.call (.ref C) ⟨vs,kw⟩) R s:=by
 obtain ⟨hh,g,d,t,os⟩:=s;exact PySem.W.make_core (PySem.W.makes_of X hm) (PySem.W.looks_findIn X hi) (λself=>PySem.W.bind_fn X self hf) (.inl rfl) h
end
noncomputable def cF(f:Str)(v:V):List (Str×V)->List (Str×V)
 |[]=>[(f,v)]
 | (g,x)::r=>if g=f then (g,v)::r else (g,x)::cF f v r
theorem Bx(f g:Str)(v:V):∀fs:List (Str×V),(cF f v fs).lookup g=if g=f then some v else fs.lookup g
 |[]=>by
  show List.lookup g [(f,v)]=_;by_cases h:g=f
  ·have hb:(g==f)=true:=av.mpr h;simp only[List.lookup,hb,if_pos h]
  ·have hb:(g==f)=false:=c5.mpr h;simp only[List.lookup,hb,if_neg h]
 | (k,x)::r=>by
  have ih:=Bx f g v r;rw[show cF f v ((k,x)::r)=(if k=f then (k,v)::r else (k,x)::cF f v r) from rfl];by_cases hk:k=f
  ·rw[if_pos hk];by_cases h:g=k
   ·have hb:(g==k)=true:=av.mpr h;simp only[List.lookup,hb,if_pos (h.trans hk)]
   ·have hb:(g==k)=false:=c5.mpr h;simp only[List.lookup,hb,if_neg (λe:g=f=>h (e.trans hk.symm))]
  ·rw[if_neg hk];by_cases h:g=k
   ·have hb:(g==k)=true:=av.mpr h;simp only[List.lookup,hb,if_neg (λe:g=f=>hk (h.symm.trans e))]
   ·have hb:(g==k)=false:=c5.mpr h;simp only[List.lookup,hb];exact ih
theorem vJ(f:Str)(v:V):∀fs:List (Str×V),f∈(cF f v fs).map (·.1)/\∀g,g∈fs.map (·.1)->g∈(cF f v fs).map (·.1)
 |[]=>⟨by simp[cF],λg h=>by simp at h⟩
 | (k,x)::r=>by
  obtain ⟨i1,i2⟩:=vJ f v r;rw[show cF f v ((k,x)::r)=(if k=f then (k,v)::r else (k,x)::cF f v r) from rfl];by_cases hk:k=f
  ·rw[if_pos hk];subst hk;exact ⟨by simp,λg h=>by simpa using h⟩
  ·rw[if_neg hk];refine ⟨?_,λg h=>?_⟩
   ·rw[bn];exact bi _ i1
   ·rw[bn]at h ⊢;rcases aT.mp h with e |e
    ·exact aT.mpr (.inl e)
    ·exact bi _ (i2 g e)
theorem By(f:Str)(v:V):∀fs:List (Str×V),(cF f v fs).length<=fs.length+1
 |[]=>by simp[cF]
 | (k,x)::r=>by
  have ih:=By f v r;rw[show cF f v ((k,x)::r)=(if k=f then (k,v)::r else (k,x)::cF f v r) from rfl];by_cases hk:k=f
  ·rw[if_pos hk,cb,cb];omega
  ·rw[if_neg hk,cb,cb];omega
theorem RelO.some_of{v:V}{o:Option Value}(r:RelO (some v) o):∃u,o=some u/\RelV v u:=by
 cases o with
 |none=>exact (show False from r).elim
 |some u=>exact ⟨u,rfl,r⟩
theorem RelO.none_of{o:Option Value}(r:RelO none o):o=none:=by
 cases o with
 |none=>rfl
 |some u=>exact (show False from r).elim
theorem We{v:V}{u:Value}(r:RelV v u):PySem.W.handedIn u=true:=by
 cases v with
 |non=>cases (show u=Value.none from r);rfl
 |bl b=>cases (show u=Value.bool b from r);rfl
 |int i=>obtain ⟨t,e⟩:=(show ∃t,u=Value.int i t from r);cases e;rfl
 |str x=>obtain ⟨t,e⟩:=(show ∃t,u=Value.str x t from r);cases e;rfl
 |byt b=>obtain ⟨t,e⟩:=(show ∃t,u=Value.bytes b t from r);cases e;rfl
 |flt b=>obtain ⟨t,e⟩:=(show ∃t,u=Value.float b t from r);cases e;rfl
 |ref a=>cases (show u=Value.ref a from r);rfl
 |ty n=>cases (show u=Value.type n from r);rfl
section
variable {P:Program} {w:World} {H H':Hp} {h h':Heap} {a C dx:Addr} {fs fs':List (Str×V)}
theorem qu(hok:HOk P w H h)(e:H a=some (.ins C dx fs)):∃mA,ObjM h a dx C mA/\(∀f,RelO (fs.lookup f) (mA f))/\PySem.Within mA (fs.map (·.1))/\fs.length<=1000/\H dx=some (.own a):=by obtain ⟨d,z,ne,ob,mA,n,r,q⟩:=(show ObjOk P w H h a (.ins C dx fs) from hok a _ e);exact ⟨mA,⟨ob,n,ne⟩,r,q,z,d⟩
end
structure Cls(K:PySem.W.Frag)(C:Addr):Prop where
 pg:PySem.W.plainGet K C Str.empty=true
 hd:PySem.W.hasDictIn K C=true
 po:PySem.W.plainOver K C=true
 sa:PySem.W.findIn K (.ref C) "__setattr__"=some (some (.builtin "object.__setattr__"))
theorem Cls.get{K:PySem.W.Frag}{C:Addr}(c:Cls K C)(f:Str):PySem.W.plainGet K C f=true:=c.pg
def NoAttr(K:PySem.W.Frag)(C:Addr)(f:Str):Prop:=PySem.W.findIn K (.ref C) f=some none
theorem NoAttr.taker{K:PySem.W.Frag}{C:Addr}{f:Str}(n:NoAttr K C f):PySem.W.takerIn K C f=some none:=by unfold PySem.W.takerIn;rw[show PySem.W.findIn K (.ref C) f=some none from n];rfl
structure Meth(K:PySem.W.Frag)(C:Addr)(m:Str)(f:Addr):Prop where
 at_:PySem.W.findIn K (.ref C) m=some (some (.ref f))
 fn:PySem.W.isFn K (.ref f)=true
 kp:PySem.W.keepIn K (.ref f)=true
section
variable {X:Cx} {pins:List (Addr×Obj)} {σ:St} {H:Hp} {s:Shared} {a C dx:Addr} {fs:List (Str×V)} {f:Str} {v:V} {A:Around} {E:Value->Shared->Prop}
theorem Wf{b:Bool}{Q:Value->Shared->Prop}(I:Inv X pins σ H s)(e:H a=some (.ins C dx fs))(c:Cls X.K C)(n:NoAttr X.K C f)(l:fs.lookup f=some v)
  (h:∀u s',Inv X pins σ H s'->RelV v u->Q u s'):wpAny (model X.prog X.w) A (getAttr (.ref a) f b) Q E s:=by
 obtain ⟨mA,O,r,_,_,_⟩:=qu I.hok e;obtain ⟨u,hu,ru⟩:=RelO.some_of (v:=v) (o:=mA f) (by rw[<-l];exact r f);exact Wa I.kIn O (c.get f) c.hd n hu (We ru) (h u _ (I.tok _) ru)
theorem BJ{m:Str}{g:Addr}{pl:Sem Bool}{Q:Value×List Value->Shared->Prop}(I:Inv X pins σ H s)(e:H a=some (.ins C dx fs))(c:Cls X.K C)(k:Meth X.K C m g)(l:fs.lookup m=none)
  (h:Q (.ref g,[.ref a]) s):wpAny (model X.prog X.w) A (getMethod (.ref a) m pl) Q E s:=by
 obtain ⟨mA,O,r,_,_,_⟩:=qu I.hok e;have hn:mA m=none:=RelO.none_of (by rw[<-l];exact r m);exact Wb I.kIn O (c.get m) k.at_ k.fn hn h
theorem Wg{y:V}{u:Value}{Q:Unit->Shared->Prop}(I:Inv X pins σ H s)(e:H a=some (.ins C dx fs))(c:Cls X.K C)(n:NoAttr X.K C f)(hl:fs.length < 1000)(ry:RelV y u)
  (h:∀s',Inv X pins σ (upd H a (.ins C dx (cF f y fs))) s'->Q () s'):wpAny (model X.prog X.w) A (setAttr (.ref a) f u) Q E s:=by
 obtain ⟨mA,O,r,wi,_,ho⟩:=qu I.hok e;have hz:(fs.map (·.1)).length<=sizeLine:=by rw[al,fw];omega
 refine Wc I.kIn O c.sa c.po n.taker c.hd wi hz λh' O' sb=>h _ ?_;have hd:∃o,h'.get? dx=some o:=let ⟨o,_,_,e',_⟩:=O'.ns;⟨o,e'⟩;refine I.write (x:=a) (e:=dx) (by rw[e];exact True.intro) (.inr ho) (λb q hb z=>(sb.2 b hb).trans z) hd ?_;refine ⟨by rw[aJ O.ne];exact ho,?_,O.ne,O'.obj,_,O'.ns,λg=>?_,λg hg=>?_⟩
 ·have:=By f y fs;omega
 ·show RelO ((cF f y fs).lookup g) (if g=f then some u else mA g);rw[Bx];by_cases q:g=f
  ·rw[if_pos q,if_pos q];exact ry
  ·rw[if_neg q,if_neg q];exact r g
 ·by_cases q:g=f
  ·rw[q];exact (vJ f y fs).1
  ·refine (vJ f y fs).2 g (wi g λz=>hg ?_);show (if g=f then some u else mA g)=none;rw[if_neg q];exact z
theorem Inv.made(I:Inv X pins σ H s):Inv X pins σ (upd (upd H s.heap.objs.size (.own (s.heap.objs.size+1))) (s.heap.objs.size+1) (.ins C s.heap.objs.size []))
  { s with heap:=(s.heap.push PySem.W.emptyDict).push (PySem.W.instObj C s.heap.objs.size) }:=by
 have e1:(s.heap.push PySem.W.emptyDict).get? s.heap.objs.size=some PySem.W.emptyDict:=ba s.heap rfl;have e2:((s.heap.push PySem.W.emptyDict).push (PySem.W.instObj C s.heap.objs.size)).get? (s.heap.objs.size+1)=some (PySem.W.instObj C s.heap.objs.size):=by have:=ba (s.heap.push PySem.W.emptyDict) (o:=PySem.W.instObj C s.heap.objs.size) rfl;rwa [dE]at this
 have e3:(s.heap.push PySem.W.emptyDict).Ns s.heap.objs.size (λ_=>none):=⟨PySem.W.emptyDict,#[],_,e1,rfl,(λe he=>absurd he (by simp)),λ_=>rfl⟩;have I1:=I.laid (a:=s.heap.objs.size) (o:=.own (s.heap.objs.size+1)) (h':=s.heap.push PySem.W.emptyDict) (t':=s.toks) (λb u q=>ah _ q) (aw _) ⟨_,e1⟩;refine I1.laid (a:=s.heap.objs.size+1) (o:=.ins C s.heap.objs.size []) (t':=s.toks) (λb u q=>ah _ q) (Nat.le_of_eq (dE _ _)) ?_;have ne:s.heap.objs.size≠s.heap.objs.size+1:=ck (Nat.lt_succ_self _);refine ⟨by rw[aJ ne,cJ],eh _,ne,e2,λ_=>none,(Heap.Ns1.of_empty e3).at λo q=>ah _ q,λ_=>True.intro,λy hy=>absurd rfl hy⟩
theorem Wh{prog:Program}{w:World}{env:Env}{e:Expr}{f:Str}{pos:Pos}{s:Shared}{Q:Value->Shared->Prop}(hb:attributeBase e f env (eval e env)=eval e env)
  (h:wpAny (model prog w) A (eval e env) (λo s₁=>wpAny (model prog w) A (getAttr o f true) Q E s₁) E s):wpAny (model prog w) A (eval (.Attribute e f pos) env) Q E s:=
 Attribute_any_ h (by rw[arm_eval_Attribute,hb])
end
def Wi(K:PySem.W.Frag)(ta:TE)(f:Str):TE:=λσ H Q=>ta σ H λx H1=>∃a C dx fs v,x=.ref a/\H1 a=some (.ins C dx fs)/\Cls K C/\NoAttr K C f/\fs.lookup f=some v/\Q v H1
def Wj(K:PySem.W.Frag)(ta tv:TE)(f:Str):TS:=λD σ H=>tv σ H λy H1=>ta σ H1 λx H2=>∃a C dx fs,x=.ref a/\H2 a=some (.ins C dx fs)/\Cls K C/\NoAttr K C f/\fs.length < 1000/\
 D.nx σ (upd H2 a (.ins C dx (cF f y fs)))
section
variable {X:Cx} {o e value:Expr} {f:Str} {pos pos' tpos:Pos} {ta tv:TE}
theorem Wk(he:PE X e ta)(hb:attributeBase e f X.env (eval e X.env)=eval e X.env):PE X (.Attribute e f pos) (Wi X.K ta f):=by intro pins s σ H Q I h;refine Wh hb (thn (he pins s σ H _ I h) λu s1 ⟨x,H1,I1,rx,a,C,dx,fs,v,ex,ea,c,n,l,q⟩=>?_);subst ex;obtain rfl:u=Value.ref a:=rx;exact Wf I1 ea c n l λu' s2 I2 ru=>⟨v,H1,I2,ru,q⟩
theorem Wl(ha:PE X o ta)(hv:PE X value tv)(hs:swapsWith value (some (.Attribute o f pos')) pos.line X.env=pure false):PS X (.Assign [.Attribute o f pos'] value pos) (Wj X.K ta tv f):=by intro pins s σ H D I h;refine plainObj_wpAny_Assign_Attribute (thn (hv pins s σ H _ I h) λu s1 ⟨y,H1,I1,ry,q⟩=>thn (ha pins s1 σ H1 _ I1 q) λov s2 ⟨x,H2,I2,rx,a,C,dx,fs,ex,ea,c,n,l,q2⟩=>?_) hs;subst ex;obtain rfl:ov=Value.ref a:=rx;exact Wg I2 ea c n l ry λs3 I3=>⟨σ,_,I3,q2⟩
end
section
variable {X:Cx} {pins:List (Addr×Obj)} {σ:St} {H:Hp} {s:Shared} {A:Around} {E:Value->Shared->Prop} {Q:Value->Shared->Prop} {c:Value} {b:Bool}
inductive TyOf (K:PySem.W.Frag) (H:Hp):V->Value->Prop where
 |non:TyOf K H .non (.type "NoneType")
 |bl (x:Bool):TyOf K H (.bl x) (.type "bool")
 |int (i:Int):TyOf K H (.int i) (.type "int")
 |str (x:Str):TyOf K H (.str x) (.type "str")
 |flt (x:UInt64):TyOf K H (.flt x) (.type "float")
 |lst {a:Addr} {xs:List V} (e:H a=some (.lst xs)):TyOf K H (.ref a) (.type "list")
 |frz {a:Addr} {o:Obj} {xs:List V} (e:H a=some (.frz o (.lst xs))):TyOf K H (.ref a) (.type "list")
 |tup {a:Addr} {xs:List V} (e:H a=some (.tup xs)):TyOf K H (.ref a) (.type "tuple")
 |dK {a:Addr} {kvs:List (Key×V)} (e:H a=some (.dK kvs)):TyOf K H (.ref a) (.type "dict")
 |dT {a:Addr} {kvs:List (List Key×V)} (e:H a=some (.dT kvs)):TyOf K H (.ref a) (.type "dict")
 |ins {a C dx:Addr} {fs:List (Str×V)} (e:H a=some (.ins C dx fs)) (cl:Cls K C) (ha:PySem.W.findIn K (.ref C) "__class__"=some (some (.builtin "object.__class__")))
   (hn:PySem.W.specialIn K (.builtin "object.__class__") "__get__"=some (some (.builtin "getset_descriptor.__get__"))) (htk:PySem.W.takesIn K (.builtin "object.__class__")=some true)
   (hm:PySem.W.mroIn K C (.type "object")=some true):TyOf K H (.ref a) (.ref C)
theorem Wm{x:V}{u t:Value}(I:Inv X pins σ H s)(rx:RelV x u)(ty:TyOf X.K H x t)(e:PySem.W.kitOne X.K t c=some b)(h:∀tk,Q (.bool b) { s with toks:=tk }):
  wpAny (model X.prog X.w) A (call (.builtin "isinstance") [u,c]) Q E s:=by
 cases ty with
 |non=>cases (show u=Value.none from rx);exact dn PySem.W.kitx_none I.kIn True.intro e (λz=>nomatch z) h
 |bl y=>cases (show u=Value.bool y from rx);exact dn PySem.W.kitx_bool I.kIn True.intro e (λz=>nomatch z) h
 |int i=>obtain ⟨t,q⟩:=(show ∃t,u=Value.int i t from rx);cases q;exact dn PySem.W.kitx_int I.kIn True.intro e (λz=>nomatch z) h
 |str y=>obtain ⟨t,q⟩:=(show ∃t,u=Value.str y t from rx);cases q;exact dn PySem.W.kitx_str I.kIn True.intro e (λz=>nomatch z) h
 |flt y=>obtain ⟨t,q⟩:=(show ∃t,u=Value.float y t from rx);cases q;exact dn PySem.W.kitx_float I.kIn True.intro e (λz=>nomatch z) h
 | @lst a xs ea=>
  cases (show u=Value.ref a from rx);obtain ⟨_,_,n,_,h1⟩:=(show ObjOk X.prog X.w H s.heap a (.lst xs) from I.hok a _ ea);exact dn PySem.W.kitx_list I.kIn ⟨_,h1,rfl⟩ e (λz=>nomatch z) h
 | @frz a ob xs ea=>
  cases (show u=Value.ref a from rx);obtain ⟨_,_,_,n,_,h1⟩:=(show ObjOk X.prog X.w H s.heap a (.frz ob (.lst xs)) from I.hok a _ ea);exact dn PySem.W.kitx_list I.kIn ⟨_,h1,rfl⟩ e (λz=>nomatch z) h
 | @tup a xs ea=>
  cases (show u=Value.ref a from rx);obtain ⟨_,_,_,p⟩:=(show ObjOk X.prog X.w H s.heap a (.tup xs) from I.hok a _ ea);obtain ⟨o,h1,h2,_⟩:=p;exact dn PySem.W.kitx_tuple I.kIn ⟨o,h1,h2⟩ e (λz=>nomatch z) h
 | @dK a kvs ea=>
  cases (show u=Value.ref a from rx);obtain ⟨_,_,vs,_,p⟩:=(show ObjOk X.prog X.w H s.heap a (.dK kvs) from I.hok a _ ea);obtain ⟨o,es,ep,h1,h2,_⟩:=p;exact dn PySem.W.kitx_dict I.kIn ⟨o,h1,h2.1⟩ e (λz=>nomatch z) h
 | @dT a kvs ea=>
  cases (show u=Value.ref a from rx);obtain ⟨_,_,xs,_,o,es,ep,h1,h2,_⟩:=(show ObjOk X.prog X.w H s.heap a (.dT kvs) from I.hok a _ ea);exact dn PySem.W.kitx_dict I.kIn ⟨o,h1,h2.1⟩ e (λz=>nomatch z) h
 | @ins a C dx fs ea cl ha hn htk hm=>
  cases (show u=Value.ref a from rx);obtain ⟨mA,O,_⟩:=qu I.hok ea;obtain ⟨od,J,_⟩:=O.look;exact dn (PySem.W.kitx_own (cl.get _) cl.hd ha hn htk hm) I.kIn J e (λz=>nomatch z) h
end
structure Room(k:Nat)(A:Around):Prop where
 hd:A.handled=none
 dp:A.depth+3 * k+5 < recursionLimit
 un:A.units+16 * k+200 < cLine
theorem Room.mono{j k:Nat}{A:Around}(r:Room k A)(h:j<=k):Room j A:=⟨r.hd,by have:=r.dp;omega,by have:=r.un;omega⟩
theorem Room.deeper{k:Nat}{A:Around}(r:Room (k+1) A)(env:Env):Room k (A.deeper env):=
 ⟨r.hd,by have:=r.dp;show A.depth+1+3 * k+5 < _;omega,by have:=r.un;show A.units+3+16 * k+200 < _;omega⟩
theorem Wn {A:Around} {C:Addr} {us:List Value} {kw:List (Str×Value)}:(A.under (.builtin "type.__call__" ⟨.ref C::us,kw⟩)).depth=A.depth+1:=by first |rfl |simp[Around.under,Code.weight,Code.isCreation,Code.isGuard,Code.isCaller,Code.frames,Code.isFrame,guardIds]
theorem Wo {A:Around} {C:Addr} {us:List Value} {kw:List (Str×Value)}:(A.under (.builtin "type.__call__" ⟨.ref C::us,kw⟩)).units=A.units+1:=by first |rfl |simp[Around.under,Code.cUnits,Code.frames,Code.isFrame]
theorem Room.make {k:Nat} {A:Around} (r:Room (k+1) A) (C:Addr) (us:List Value) (kw:List (Str×Value)):Room k (A.under (.builtin "type.__call__" ⟨.ref C::us,kw⟩)):=
 ⟨r.hd,by have:=r.dp;rw[Wn];omega,by have:=r.un;rw[Wo];omega⟩
theorem Room.depth{k:Nat}{A:Around}(r:Room k A):A.depth < recursionLimit:=by have:=r.dp;omega
def BK:TA:=λ_ H Q=>Q [] H
def Wq(ta:TE)(tr:TA):TA:=λσ H Q=>ta σ H λx H1=>tr σ H1 λxs H2=>Q (x::xs) H2
section
variable {X:Cx} {e:Expr} {es:List Expr} {te:TE} {t:TA} {pos:Pos}
theorem jW:PA X [] BK:=λ_ _ _ _ H Q I h=>Calls.spliced_nil ⟨[],H,I,.nil,h⟩
theorem iR(ha:PE X e te)(hr:PA X es t)(hs:starEach (e::es) X.env=(false,eval e X.env)::starEach es X.env:=by rfl):PA X (e::es) (Wq te t):=by intro pos pins s σ H Q I h;rw[hs];show wpAny _ _ (spliced ((false,eval e X.env)::backTo pos (starEach es X.env))) _ _ s;refine Calls.spliced_cons (thn (ha pins s σ H _ I h) λu s1 ⟨x,H1,I1,r1,q1⟩=>?_);exact thn (hr pos pins s1 σ H1 _ I1 q1) λus s2 ⟨xs,H2,I2,r2,q2⟩=>⟨x::xs,H2,I2,.cons r1 r2,q2⟩
def Wr(t:TA):TE:=λσ H Q=>t σ H λxs H1=>xs.length<=sizeLine/\∀p,H1 p=none->Q (.ref p) (upd H1 p (.tup xs))
def Ws(t:TA):TE:=λσ H Q=>t σ H λxs H1=>xs.length<=sizeLine/\∀p,H1 p=none->Q (.ref p) (upd H1 p (.lst xs))
theorem Wt{x1}(h:PA X es t):PE X (.Tuple es x1 pos) (Wr t):=by intro pins s σ H Q I hq;refine wpAny_Tuple_spliced (thn (h pos pins s σ H _ I hq) λus s1 ⟨xs,H1,I1,r,z,q⟩=>⟨by rw[<-r.length];exact z,?_⟩);have hf:H1 s1.heap.objs.size=none:=I1.hok.fresh (aw _);refine ⟨.ref s1.heap.objs.size,upd H1 s1.heap.objs.size (.tup xs),I1.laid (t':=s1.toks) (λb u e=>ah _ e) (aw _) ?_,rfl,q _ hf⟩;exact ⟨z,us,r,⟨_,ba _ rfl,rfl,_,rfl⟩⟩
theorem Wu(h:PA X es t):PE X (.List es pos) (Ws t):=by intro pins s σ H Q I hq;refine wpAny_List_spliced (thn (h pos pins s σ H _ I hq) λus s1 ⟨xs,H1,I1,r,z,q⟩=>⟨by rw[<-r.length];exact z,?_⟩);have hf:H1 s1.heap.objs.size=none:=I1.hok.fresh (aw _);refine ⟨.ref s1.heap.objs.size,upd H1 s1.heap.objs.size (.lst xs),I1.laid (t':=s1.toks) (λb u e=>ah _ e) (aw _) ?_,rfl,q _ hf⟩;exact ⟨z,us,0,r,ba _ rfl⟩
end
abbrev Sp:=List V->Hp->VK->XK->Prop
abbrev CXT:=List Env->Hp->Shared->XK->Value->Shared->Prop
structure Env0(P:Program)(w:World)(K:PySem.W.Frag)(mg:Str->Option Value)(base:Heap)(A:Around)(outer:List Env)(s:Shared)(H:Hp):Prop where
 frames:A.frames=some outer
 mod:Mod K mg base
 bs:∀b o,base.get? b=some o->s.heap.get? b=some o/\H b=none
 bsz:base.objs.size<=s.heap.objs.size
 funs:s.heap.FunFrames base outer
 frf:∀b∈frs outer,H b=none
 hok:HOk P w H s.heap
 bare:AllBare s.gens
def CE(outer:List Env)(P:Program)(w:World)(H:Hp)(s:Shared)(Q:VK)(u:Value)(s':Shared):Prop:=
 ∃v H',s'.os=s.os/\AllBare s'.gens/\Un (frs outer) [] H H' s.heap s'.heap/\HOk P w H' s'.heap/\RelV v u/\Q v H'
def CR(CX:CXT)(outer:List Env)(P:Program)(w:World)(H:Hp)(s:Shared)(Q:VK)(E:XK)(r:Result)(s':Shared):Prop:=
 match r with
 |.ok (.ret u)=>CE outer P w H s Q u s'
 |.ok _=>False
 |.error e=>CX outer H s E e s'
structure FnOk(P:Program)(w:World)(K:PySem.W.Frag)(mg:Str->Option Value)(base:Heap)(CX:CXT)(k:Nat)(f:Addr)(fd:FuncData)(ps:List Str)(sp:Sp):Prop where
 len:∀vs H Q E,sp vs H Q E->vs.length=ps.length
 run:∀(A:Around)(outer:List Env)(s:Shared)(H:Hp)(args:Args)(us:List Value)(vs:List V)(Q:VK)(E:XK),Room k A->Env0 P w K mg base A outer s H->BindsTo s fd args (ps.zip us)->Vals vs us->sp vs H Q E->
  codeAny (model P w) A (.call (.ref f) args) (CR CX outer P w H s Q E) s
theorem FnOk.mono{P:Program}{w:World}{K:PySem.W.Frag}{mg:Str->Option Value}{base:Heap}{CX:CXT}{j k:Nat}{f:Addr}{fd:FuncData}{ps:List Str}{sp:Sp}(F:FnOk P w K mg base CX j f fd ps sp)(h:j<=k):
  FnOk P w K mg base CX k f fd ps sp:=⟨F.len,λA outer s H args us vs Q E hr=>F.run A outer s H args us vs Q E (hr.mono h)⟩
theorem FnOk.imp{P:Program}{w:World}{K:PySem.W.Frag}{mg:Str->Option Value}{base:Heap}{CX:CXT}{k:Nat}{f:Addr}{fd:FuncData}{ps:List Str}{sp sp':Sp}(F:FnOk P w K mg base CX k f fd ps sp)
  (h:∀vs H Q E,sp' vs H Q E->sp vs H Q E):FnOk P w K mg base CX k f fd ps sp':=
 ⟨λvs H Q E q=>F.len vs H Q E (h _ _ _ _ q),λA outer s H args us vs Q E hr he hb hv hs=>F.run A outer s H args us vs Q E hr he hb hv (h _ _ _ _ hs)⟩
theorem Env0.make{P:Program}{w:World}{K:PySem.W.Frag}{mg:Str->Option Value}{base:Heap}{A:Around}{outer:List Env}{s:Shared}{H:Hp}(e:Env0 P w K mg base A outer s H)(C:Addr)(us:List Value)(kw:List (Str×Value)):
  Env0 P w K mg base (A.under (.builtin "type.__call__" ⟨.ref C::us,kw⟩)) outer s H:=⟨by first |exact e.frames | (simpa [Around.under,Code.envs,Code.isFrame,pushEnvs] using e.frames),e.mod,e.bs,e.bsz,e.funs,e.frf,e.hok,e.bare⟩
section
variable {X:Cx} {pins:List (Addr×Obj)} {σ:St} {H:Hp} {s s':Shared}
theorem Inv.env0(I:Inv X pins σ H s):Env0 X.prog X.w X.K X.mg X.base X.A X.stack s H:=
 ⟨I.ok.frames,I.ok.mod,I.bs,cm I.ok.bsz I.sz,I.stack,I.stkFree,I.hok,I.bare⟩
theorem Inv.after{Q:VK}{u:Value}(I:Inv X pins σ H s)(h:CE X.stack X.prog X.w H s Q u s'):EP X pins σ Q u s':=by obtain ⟨v,H',os,bare,un,hok,r,q⟩:=h;obtain ⟨hh,g,d,t,os'⟩:=s';obtain rfl:os'=s.os:=os;exact ⟨v,H',I.call (h':=hh) (g':=g) (d':=d) (t':=t) (ch:=[]) un hok bare (λb z=>absurd z (by simp)),r,q⟩
end
def Wv(sp:Sp)(dvs:List V)(E:XK)(t:TA):TE:=λσ H Q=>t σ H λvs H1=>sp (vs++dvs) H1 Q E
def qw(C:Addr)(m:Str)(sp:Sp)(dvs:List V)(E:XK)(ta:TE)(t:TA):TE:=λσ H Q=>ta σ H λx H1=>∃a dx fs,x=.ref a/\H1 a=some (.ins C dx fs)/\fs.lookup m=none/\
 t σ H1 λvs H2=>sp (x::(vs++dvs)) H2 Q E
def Ww(C:Addr)(sp:Sp)(dvs:List V)(E:XK)(t:TA):TE:=λσ H Q=>t σ H λvs H1=>∀x dx,H1 x=none->H1 dx=none->dx≠x->
 sp (.ref x::(vs++dvs)) (upd (upd H1 dx (.own x)) x (.ins C dx [])) (λv H2=>v=.non/\Q (.ref x) H2) E
def Binds(K:PySem.W.Frag)(fd:FuncData)(ps:List Str)(ds:List Value):Prop:=
 ∀(s:Shared)(us:List Value),K.In s.heap->(us++ds).length=ps.length->BindsTo s fd ⟨us,[]⟩ (ps.zip (us++ds))
theorem Binds.all{K:PySem.W.Frag}{fd:FuncData}{ps:List Str}(h:∀us:List Value,us.length=ps.length->bindArgs fd ⟨us,[]⟩=pure (ps.zip us)):Binds K fd ps []:=λs us _ hl=>by
 rw[eW]at hl ⊢;exact .of_eq (h us hl)
def eO(CX:CXT)(X:Cx)(E:XK):Prop:=∀(pins:List (Addr×Obj))(σ:St)(H:Hp)(s:Shared)(e:Value)(s':Shared),Inv X pins σ H s->CX X.stack H s E e s'->X.xe e s'
section
variable {X:Cx} {CX:CXT} {k:Nat} {f C:Addr} {fd:FuncData} {ps:List Str} {sp:Sp} {dvs:List V} {ds:List Value} {E:XK} {x m:Str} {p pos apos:Pos} {e o:Expr} {es:List Expr} {ta:TE} {t:TA}
theorem vK{pins:List (Addr×Obj)}{σ:St}{H:Hp}{s:Shared}{Q:VK}{us:List Value}{vs:List V}(F:FnOk X.prog X.w X.K X.mg X.base CX k f fd ps sp)(hr:Room k X.A)(hb:Binds X.K fd ps ds)(hd:Vals dvs ds)(hx:eO CX X E)
  (I:Inv X pins σ H s) (r:Vals vs us) (h:sp (vs++dvs) H Q E):wpAny (model X.prog X.w) X.A (call (.ref f) us) (EP X pins σ Q) X.xe s:=by
 have r2:Vals (vs++dvs) (us++ds):=r.append hd;have hl:(us++ds).length=ps.length:=by rw[<-r2.length];exact F.len _ _ _ _ h
 refine wpAny_call (codeAny_mono (F.run X.A X.stack s H ⟨us,[]⟩ (us++ds) (vs++dvs) Q E hr I.env0 (hb s us I.kIn hl) r2 h) λr s' hq=>?_);cases r with
 |error e=>exact hx pins σ H s e s' I hq
 |ok fl=>
  cases fl with
  |ret u=>exact I.after hq
  |next=>exact False.elim hq
  |brk=>exact False.elim hq
  |cont=>exact False.elim hq
theorem Wx(F:FnOk X.prog X.w X.K X.mg X.base CX k f fd ps sp)(hr:Room k X.A)(hg:Gl X x)(hm:X.mg x=some (.ref f))(hk:PySem.W.keepIn X.K (.ref f)=true)(hb:Binds X.K fd ps ds)(hd:Vals dvs ds)(hx:eO CX X E)
  (ha:PA X (e::es) t) (hdb:(x==("__debug__":Str))=false:=by decide) (he:starEach (e::es) X.env=(false,eval e X.env)::starEach es X.env:=by rfl) (hpl:(backTo pos (starEach es X.env)).any (·.1)=false:=by rfl):
  PE X (.Call (.Name x p) (e::es) [] pos) (Wv sp dvs E t):=by
 intro pins s σ H Q I h;refine wpAny_Call_Name_kw (qe I hg hm ?_ hdb);refine PySem.W.callWith_K (h₀:=X.base) I.ok.mod.kin hk (thn (ha pos pins s σ H _ I h) λus s1 ⟨vs,H1,I1,r,q⟩=>⟨I1.kIn,?_⟩) he hpl;exact vK F hr hb hd hx I1 r q
theorem Wy{pl:Sem Bool}(he:PE X o ta)(c:Cls X.K C)(hm:Meth X.K C m f)(F:FnOk X.prog X.w X.K X.mg X.base CX k f fd ps sp)(hr:Room k X.A)(hb:Binds X.K fd ps ds)(hd:Vals dvs ds)(hx:eO CX X E)(ha:PA X (e::es) t)
  (hst:starEach (e::es) X.env=(false,eval e X.env)::starEach es X.env:=by rfl) (hpl:(backTo pos (starEach es X.env)).any (·.1)=false:=by rfl)
  (ht:eval (.Call (.Attribute o m apos) (e::es) [] pos) X.env=(do
   let ov <-eval o X.env
   standAt apos.atName
   let (f,first) <-holding [ov] (getMethod ov m pl)
   callWith pos f first (backTo pos (starEach (e::es) X.env)) (backToKw pos (keywordEach [] X.env))):=by rfl):
  PE X (.Call (.Attribute o m apos) (e::es) [] pos) (qw C m sp dvs E ta t):=by
 intro pins s σ H Q I h;refine PySem.W.methodCall_KW (pl:=pl) (thn (he pins s σ H _ I h) λu s1 ⟨x,H1,I1,rx,a,dx,fs,ex,ea,l,q⟩=>?_) ht;subst ex;obtain rfl:u=Value.ref a:=rx;refine BJ I1 ea c hm l ?_;refine PySem.W.callWith_K (first:=[.ref a]) (h₀:=X.base) I.ok.mod.kin hm.kp (thn (ha pos pins s1 σ H1 _ I1 q) λus s2 ⟨vs,H2,I2,r,q2⟩=>⟨I2.kIn,?_⟩) hst hpl;exact vK (us:=.ref a::us) (vs:=.ref a::vs) F hr hb hd hx I2 (.cons rfl r) q2
theorem Wz{pl:Sem Bool}(he:PE X o ta)(c:Cls X.K C)(hm:Meth X.K C m f)(F:FnOk X.prog X.w X.K X.mg X.base CX k f fd ps sp)(hr:Room k X.A)(hb:Binds X.K fd ps ds)(hd:Vals dvs ds)(hx:eO CX X E)
  (ht:eval (.Call (.Attribute o m apos) [] [] pos) X.env=(do
   let ov <-eval o X.env
   standAt apos.atName
   let (f,first) <-holding [ov] (getMethod ov m pl)
   callWith pos f first (backTo pos (starEach [] X.env)) (backToKw pos (keywordEach [] X.env))):=by rfl):
  PE X (.Call (.Attribute o m apos) [] [] pos) (qw C m sp dvs E ta BK):=by
 intro pins s σ H Q I h;refine PySem.W.methodCall_KW (pl:=pl) (thn (he pins s σ H _ I h) λu s1 ⟨x,H1,I1,rx,a,dx,fs,ex,ea,l,q⟩=>?_) ht;subst ex;obtain rfl:u=Value.ref a:=rx;refine BJ I1 ea c hm l ?_;exact PySem.W.callWith_K0 (first:=[.ref a]) I1.kIn hm.kp (vK (us:=[.ref a]) (vs:=[.ref a]) F hr hb hd hx I1 (.cons rfl .nil) q)
structure Mk(K:PySem.W.Frag)(C f:Addr):Prop where
 makes:PySem.W.makesIn K C=true
 init:PySem.W.findIn K (.ref C) "__init__"=some (some (.ref f))
 fn:PySem.W.isFn K (.ref f)=true
 kp:PySem.W.keepIn K (.ref C)=true
theorem WD{pins:List (Addr×Obj)}{σ:St}{H:Hp}{s:Shared}{Q:VK}{us:List Value}{vs:List V}(M:Mk X.K C f)(F:FnOk X.prog X.w X.K X.mg X.base CX k f fd ps sp)(hr:Room (k+1) X.A)(hb:Binds X.K fd ps ds)(hd:Vals dvs ds)
  (hx:eO CX X E) (I:Inv X pins σ H s) (r:Vals vs us)
  (h:∀x dx,H x=none->H dx=none->dx≠x->sp (.ref x::(vs++dvs)) (upd (upd H dx (.own x)) x (.ins C dx [])) (λv H2=>v=.non/\Q (.ref x) H2) E):
  wpAny (model X.prog X.w) X.A (call (.ref C) us) (EP X pins σ Q) X.xe s:=by
 have hq:=h (s.heap.objs.size+1) s.heap.objs.size (I.hok.fresh (fk _)) (I.hok.fresh (aw _)) (ck (Nat.lt_succ_self _));have I2:=Inv.made (C:=C) I;have r2:Vals (V.ref (s.heap.objs.size+1)::(vs++dvs)) (Value.ref (s.heap.objs.size+1)::(us++ds)):=.cons rfl (r.append hd);have hl:(Value.ref (s.heap.objs.size+1)::us++ds).length=ps.length:=by have e:=r2.length;rw[F.len _ _ _ _ hq]at e;exact e.symm
 refine wpAny_call (Wd (f:=f) I.kIn M.makes M.init (av.mp M.fn) (codeAny_mono (F.run _ X.stack _ _ ⟨Value.ref (s.heap.objs.size+1)::us,[]⟩ (Value.ref (s.heap.objs.size+1)::(us++ds)) _ _ E (hr.make C us [])
  (I2.env0.make C us []) (hb _ (Value.ref (s.heap.objs.size+1)::us) I2.kIn hl) r2 hq) λr s' hq'=>?_))
 cases r with
 |error e=>exact hx pins σ _ _ e s' I2 hq'
 |ok fl=>
  cases fl with
  |ret u=>
   obtain ⟨v,H',I3,rv,ev,q3⟩:=I2.after hq';subst ev;exact ⟨rv,⟨V.ref (s.heap.objs.size+1),H',I3,rfl,q3⟩⟩
  |next=>exact False.elim hq'
  |brk=>exact False.elim hq'
  |cont=>exact False.elim hq'
theorem WF(M:Mk X.K C f)(F:FnOk X.prog X.w X.K X.mg X.base CX k f fd ps sp)(hr:Room (k+1) X.A)(hg:Gl X x)(hm:X.mg x=some (.ref C))(hb:Binds X.K fd ps ds)(hd:Vals dvs ds)(hx:eO CX X E)
  (ha:PA X (e::es) t) (hdb:(x==("__debug__":Str))=false:=by decide) (he:starEach (e::es) X.env=(false,eval e X.env)::starEach es X.env:=by rfl) (hpl:(backTo pos (starEach es X.env)).any (·.1)=false:=by rfl):
  PE X (.Call (.Name x p) (e::es) [] pos) (Ww C sp dvs E t):=by
 intro pins s σ H Q I h;refine wpAny_Call_Name_kw (qe I hg hm ?_ hdb);refine PySem.W.callWith_K (h₀:=X.base) I.ok.mod.kin M.kp (thn (ha pos pins s σ H _ I h) λus s1 ⟨vs,H1,I1,r,q⟩=>⟨I1.kIn,?_⟩) he hpl;exact WD M F hr hb hd hx I1 r q
end
structure FnScope(N P:List Str)(sc:Scope):Prop where
 kind:sc.kind=.function
 co:sc.isCoroutine=false
 gen:sc.isGenerator=false
 nd:N.Nodup
 pre:N.take P.length=P
 par:∀x∈P,sc.names.lookup x=some .local\/sc.names.lookup x=some .cell
 nofree:∀y∈sc.names,y.2≠.free
theorem BL{kindOf:Str->Option NameKind}{x:Str}:∀{binds:List (Str×Value)}{m:Str->Option Value},(∀v,(x,v)∉binds)->bindL kindOf binds m x=m x
 |[],_,_=>rfl
 | (n,v)::r,m,h=>by
  unfold bindL;rw[BL λw hw=>h w (bi _ hw)];split
  ·have:x≠n:=by rintro rfl;exact h v bS
   simp[this]
  ·rfl
theorem BP{kindOf:Str->Option NameKind}{x:Str}:∀{binds:List (Str×Value)}{m:Str->Option Value},(∀v,(x,v)∉binds)->bindC kindOf binds m x=m x
 |[],_,_=>rfl
 | (n,v)::r,m,h=>by
  unfold bindC;rw[BP λw hw=>h w (bi _ hw)];split
  ·rfl
  ·have:x≠n:=by rintro rfl;exact h v bS
   simp[this]
theorem BR{kindOf:Str->Option NameKind}{x:Str}{v:Value}:∀{P:List Str}{vs:List Value}{i:Nat}{m:Str->Option Value},P.Nodup->P[i]?=some x->vs[i]?=some v->kindOf x=some .local->
  bindL kindOf (P.zip vs) m x=some v
 |[],_,_,_,_,h,_,_=>by simp at h
 |_::_,[],_,_,_,_,h,_=>by simp at h
 |p::P,w::vs,0,m,nd,h1,h2,hk=>by
  simp at h1 h2;subst h1;subst h2;show bindL kindOf ((p,w)::P.zip vs) m p=_;unfold bindL;rw[BL λv hv=>(List.nodup_cons.mp nd).1 (List.of_mem_zip hv).1,if_pos hk];simp
 |p::P,w::vs,i+1,m,nd,h1,h2,hk=>by
  show bindL kindOf ((p,w)::P.zip vs) m x=_;unfold bindL;exact BR (i:=i) (List.nodup_cons.mp nd).2 (by simpa using h1) (by simpa using h2) hk
theorem BV{kindOf:Str->Option NameKind}{x:Str}{v:Value}:∀{P:List Str}{vs:List Value}{i:Nat}{m:Str->Option Value},P.Nodup->P[i]?=some x->vs[i]?=some v->kindOf x≠some .local->
  bindC kindOf (P.zip vs) m x=some v
 |[],_,_,_,_,h,_,_=>by simp at h
 |_::_,[],_,_,_,_,h,_=>by simp at h
 |p::P,w::vs,0,m,nd,h1,h2,hk=>by
  simp at h1 h2;subst h1;subst h2;show bindC kindOf ((p,w)::P.zip vs) m p=_;unfold bindC;rw[BP λv hv=>(List.nodup_cons.mp nd).1 (List.of_mem_zip hv).1,if_neg hk];simp
 |p::P,w::vs,i+1,m,nd,h1,h2,hk=>by
  show bindC kindOf ((p,w)::P.zip vs) m x=_;unfold bindC;exact BV (i:=i) (List.nodup_cons.mp nd).2 (by simpa using h1) (by simpa using h2) hk
def start(N:List Str)(vs:List V):St:=vs.map some++List.replicate (N.length - vs.length) none
def cU(CX:CXT)(P:Program)(w:World)(K:PySem.W.Frag)(mg:Str->Option Value)(base:Heap)(N:List Str)(qual:Str)(scope:Scope)(f:Addr)(cd:Value)(A:Around)(outer:List Env)(s:Shared)(H:Hp)(E:XK):Cx where
 prog:=P
 w:=w
 K:=K
 mg:=mg
 base:=base
 A:=A.deeper (envOfC qual scope s.heap.objs.size f cd)
 N:=N
 s₀:=s
 H₀:=H
 env:=envOfC qual scope s.heap.objs.size f cd
 outer:=outer
 stack:=envOfC qual scope s.heap.objs.size f cd::outer
 ex:=[]
 calm:=true
 fn:=λ_=>true
 pn:=[]
 xe:=λe s'=>wpAny (model P w) (A.deeper (envOfC qual scope s.heap.objs.size f cd)) (leaving (envOfC qual scope s.heap.objs.size f cd) e) (λ_ s''=>CX outer H s E e s'') (λe' s''=>CX outer H s E e' s'') s'
theorem BW{sc:Scope}{n:Nat}{x:Str}(h:sc.names.lookup x=some .cell):∃c,(cellsFrom n sc.names []).lookup x=some c:=by have q:=PySem.W.cellsFrom_some sc.names n [] (.inl h);exact cp.mp q
theorem BX{CX:CXT}{P:Program}{w:World}{K:PySem.W.Frag}{mg:Str->Option Value}{base:Heap}{N ps:List Str}{qual:Str}{scope:Scope}{f:Addr}{cd:Value}{A:Around}{outer:List Env}{s s1:Shared}{H:Hp}{E:XK}{us:List Value}{vs:List V}
  (S:FnScope N ps scope) (hd:A.handled=none) (e0:Env0 P w K mg base A outer s H) (hl:vs.length=ps.length) (r:Vals vs us)
  (x:InCallC s s.heap.objs.size (bindL (envOfC qual scope s.heap.objs.size f cd).kindOf (ps.zip us) λ_=>none) (cellsFrom (s.heap.objs.size+1) scope.names []) (bindC (envOfC qual scope s.heap.objs.size f cd).kindOf (ps.zip us) λ_=>none) s1):
  Inv (cU CX P w K mg base N qual scope f cd A outer s H E) [] (start N vs) H s1:=by
 have hpl:ps.length<=N.length:=by have:=eR List.length S.pre;rw[b6]at this;omega
 obtain ⟨h1,tk,rfl,hk⟩:=x.done;have noA:∀b:Addr,b∉(cU CX P w K mg base N qual scope f cd A outer s H E).ex:=λb z=>absurd (show b∈([]:List Addr) from z) (by simp);refine ⟨⟨e0.mod,S.kind,rfl,rfl,aw _,λy z c h1 h2=>?_,λy hy=>?_,λy c _ h=>?_,λ_=>hd,Around.frames_deeper e0.frames,.inr ⟨rfl,rfl⟩,λb z=>absurd z (noA b),e0.bs,e0.bsz,λb _ _=>noA b,λb z=>absurd z (noA b),e0.funs,e0.frf⟩,
  rfl,e0.bare,Un.kept hk,⟨_,x.toInCall.ns,λi y v h1 h2 h3=>?_⟩,λy c h=>⟨_,x.cell y c h⟩,e0.hok.fresh (aw _),λy c h=>?_,λp hp=>absurd (show p∈([]:List (Addr×Obj)) from hp) (by simp),e0.hok.kept hk,?_⟩
 ·exact name_of_addr x.apart (dQ h1) (dQ h2)
 ·have hy:scope.names.lookup y=some .cell\/scope.names.lookup y=some .free:=hy;rcases hy with hy |hy
  ·exact BW hy
  ·exact absurd rfl (S.nofree _ (dQ hy))
 ·exact Nat.le_of_lt (x.above y c (dQ h))
 ·have hi:i < vs.length:=by
   unfold start at h2;by_cases hi:i < vs.length
   ·exact hi
   ·rw[List.getElem?_append_right (by simpa using hi)]at h2;rw[List.getElem?_replicate]at h2;split at h2 <;> cases h2
  have ha:vs[i]?=some v:=by
   unfold start at h2;rw[ej (by simpa using hi),bp]at h2;cases e:vs[i]? with
   |none=>rw[e]at h2;cases h2
   |some a=>rw[e]at h2;cases h2;rfl
  obtain ⟨u,hu,rv⟩:=r.get ha;have hp:ps[i]?=some y:=by rw[<-S.pre,List.getElem?_take_of_lt (by omega)];exact h1
  have ndP:ps.Nodup:=by rw[<-S.pre];exact S.nd.sublist (List.take_sublist _ _)
  refine ⟨u,rv,?_⟩;rcases S.par y (ce hp) with k |k
  ·exact .inl ⟨k,BR ndP hp hu k⟩
  ·obtain ⟨c,e⟩:=BW (n:=s.heap.objs.size+1) k;refine .inr ⟨.inl k,c,e,?_⟩;have q:=x.cell y c e;rw[BV ndP hp hu (by show scope.names.lookup y≠_;rw[k];decide)]at q;exact q
 ·exact e0.hok.fresh (Nat.le_of_lt (x.above y c (dQ h)))
 ·unfold start;show _=N.length;rw[ay,al,ca];omega
theorem WK{CX:CXT}{P:Program}{w:World}{K:PySem.W.Frag}{mg:Str->Option Value}{base:Heap}{k:Nat}{f:Addr}{name qual:Str}{params:Arguments}{body:List Stmt}{scope:Scope}{dV kV doc pm cdv ct oc:Value}{an od:Option Addr}
  {osl:Array (Option Value)} {N ps:List Str} {sp:Sp} (lk:K.lookup f=some ⟨oc,od,.func (PySem.W.fnOf name qual params body scope dV kV doc pm an cdv ct),osl⟩) (hcd:PySem.W.codeIn K cdv qual=true) (S:FnScope N ps scope)
  (len:∀vs H Q E,sp vs H Q E->vs.length=ps.length)
  (hbody:∀(A:Around)(outer:List Env)(s:Shared)(H:Hp)(vs:List V)(Q:VK)(E:XK),Room k (A.deeper (envOfC qual scope s.heap.objs.size f cdv))->sp vs H Q E->
   ∃t,PSs (cU CX P w K mg base N qual scope f cdv A outer s H E) body t/\t { nx:=λ_ H'=>Q .non H',rt:=Q } (start N vs) H):
  FnOk P w K mg base CX (k+1) f (PySem.W.fnOf name qual params body scope dV kV doc pm an cdv ct) ps sp:=by
 refine ⟨len,λA outer s H args us vs Q E hr e0 hb r hsp=>?_⟩;have hl:=len _ _ _ _ hsp;have KX:K.In s.heap:=e0.mod.kin.keeps λb o e=>(e0.bs b o e).1;have lim:s.heap.NoLimit:=e0.mod.nolimit.keeps λb o e=>(e0.bs b o e).1;have hkind:∀y∈ps.zip us,scope.names.lookup y.1=some .local\/(scope.names.lookup y.1=some .cell/\((cellsFrom (s.heap.objs.size+1) scope.names []).lookup y.1).isSome=true):=λ⟨n,v⟩ hy=>by
  rcases S.par n (List.of_mem_zip hy).1 with q |q
  ·exact .inl q
  ·exact .inr ⟨q,PySem.W.cellsFrom_some _ _ _ (.inl q)⟩
 refine codeAny_call_function hr.depth (KX _ _ lk) rfl S.co S.gen rfl (PySem.W.codeRec_of KX hcd) (hb _ _ _ _ ?_);refine wpAny_newFunctionEnv_cells S.kind hkind λenv he s1 x=>?_;subst he;refine ⟨lim.keeps x.toInCall.keep,codeAny_func ?_⟩;obtain ⟨t,ht,hq⟩:=hbody A outer s H vs Q E (hr.deeper _) hsp;have I:Inv (cU CX P w K mg base N qual scope f cdv A outer s H E) [] (start N vs) H s1:=BX S hr.hd e0 hl r x;refine c9 (ht [] s1 (start N vs) H _ I hq) (λfl s' hs=>?_) λe s' hs=>hs;have fin:∀{σ':St}{H':Hp}{v:V}{u:Value},Inv (cU CX P w K mg base N qual scope f cdv A outer s H E) [] σ' H' s'->RelV v u->Q v H'->CE outer P w H s Q u s':=
  λ{σ' H' v u} J rv q=>⟨v,H',J.os,J.bare,J.base,J.hok,rv,q⟩
 cases fl with
 |ret u=>
  obtain ⟨v,σ',H',J,rv,q⟩:=hs;exact fin J rv q
 |next=>
  obtain ⟨σ',H',J,q⟩:=hs;exact fin (v:=V.non) (u:=Value.none) J rfl q
 |brk=>
  obtain ⟨_,_,_,q⟩:=hs;exact False.elim q
 |cont=>
  obtain ⟨_,_,_,q⟩:=hs;exact False.elim q
section
variable {X:Cx} {x:Str} {p pos:Pos} {e:Expr} {es:List Expr} {t:TA} {id T:String} {r:List V->Hp->VK->Prop}
def tCB(r:List V->Hp->VK->Prop)(t:TA):TE:=λσ H Q=>t σ H λvs H1=>r vs H1 Q
theorem iT (hc:bF X (.builtin id) r) (hg:Gl X x) (hm:X.mg x=none) (hv:bootBuiltins x=some (.builtin id)) (ha:PA X (e::es) t) (hn:x≠"__name__":=by decide) (hdb:(x==("__debug__":Str))=false:=by decide)
  (he:starEach (e::es) X.env=(false,eval e X.env)::starEach es X.env:=by rfl) (hpl:(backTo pos (starEach es X.env)).any (·.1)=false:=by rfl):PE X (.Call (.Name x p) (e::es) [] pos) (tCB r t):=by
 intro pins s σ H Q I h;refine wpAny_Call_Name_kw (iQ I hg hm hv ?_ hn hdb);exact PyProof.Rows.callWith_builtin1 (thn (ha pos pins s σ H _ I h) λus s1 ⟨vs,H1,I1,r1,q1⟩=>hc pins s1 σ H1 vs us Q I1 r1 q1) he hpl
theorem qx (hc:bF X (.type T) r) (hg:Gl X x) (hm:X.mg x=none) (hv:bootBuiltins x=some (.type T)) (ha:PA X (e::es) t) (hn:x≠"__name__":=by decide) (hdb:(x==("__debug__":Str))=false:=by decide)
  (he:starEach (e::es) X.env=(false,eval e X.env)::starEach es X.env:=by rfl) (hpl:(backTo pos (starEach es X.env)).any (·.1)=false:=by rfl):PE X (.Call (.Name x p) (e::es) [] pos) (tCB r t):=by
 intro pins s σ H Q I h;refine wpAny_Call_Name_kw (iQ I hg hm hv ?_ hn hdb);exact e8 (thn (ha pos pins s σ H _ I h) λus s1 ⟨vs,H1,I1,r1,q1⟩=>hc pins s1 σ H1 vs us Q I1 r1 q1) he hpl
end
end L2
namespace HT
open PySem PyProof.Rows
section
variable {prog:Program} {w:World} {A:Around} {E:Value->Shared->Prop} {s:Shared}
theorem WL{t b:Addr}{vs ws:List Value}{Q:Value->Shared->Prop}(ht:IsTup s.heap t vs.toArray)(hb:IsTup s.heap b ws.toArray)(hv:vs≠[])
  (h1:ws=[]->Q (.ref t) s) (h2:ws≠[]->Q (.ref s.heap.objs.size) { s with heap:=s.heap.push { cls:=.type "tuple",data:=.seq (vs++ws).toArray } })
  (hsz:vs.length+ws.length<=sizeLine):wpAny (model prog w) A (binaryOp .Add (.ref t) (.ref b)) Q E s:=by
 obtain ⟨⟨cls,dd,data,sl⟩,ho,hc,n,hd⟩:=id ht;obtain ⟨⟨cls2,dd2,data2,sl2⟩,ho2,hc2,n2,hd2⟩:=id hb;simp only at hc hd hc2 hd2;subst hc hd hc2 hd2;have e:vs.toArray++ws.toArray=(vs++ws).toArray:=by simp
 by_cases hw:ws=[]
 ·exact concat_meets ⟨_,ho,rfl⟩ ⟨_,ho2,rfl⟩ noFill_tuple_add seq_tuple_add PySem.F.slot_tuple_add PySem.F.entry_tuple_add (PySem.F.args_tuple_add_2 _ _)
   (tuple_addW1 t b vs.toArray ws.toArray n n2 dd dd2 sl sl2 (by simpa using hv) (by simp[hw])) ⟨ho,ho2,h1 hw⟩
 ·refine concat_meets ⟨_,ho,rfl⟩ ⟨_,ho2,rfl⟩ noFill_tuple_add seq_tuple_add PySem.F.slot_tuple_add PySem.F.entry_tuple_add (PySem.F.args_tuple_add_2 _ _)
   (tuple_addW2 t b vs.toArray ws.toArray n n2 dd dd2 sl sl2 (by simpa using hv) (by simpa using hw) (by rw[List.size_toArray,List.size_toArray];exact hsz)) ⟨ho,ho2,?_⟩
  rw[e];exact h2 hw
noncomputable def sIx(n d:Nat):Option Int->Nat
 |none=>d
 |some v=>if v < 0 then (v+(n:Int)).toNat else min v.toNat n
theorem BZ(n d k:Nat):sIx n d (some (k:Int))=min k n:=by show (if (k:Int) < 0 then ((k:Int)+(n:Int)).toNat else min (k:Int).toNat n)=min k n;rw[if_neg (by omega),Int.toNat_natCast]
theorem Ca(n d:Nat)(hd:d<=n)(o:Option Int):sIx n d o<=n:=by
 cases o with
 |none=>exact hd
 |some v=>
  show (if v < 0 then (v+(n:Int)).toNat else min v.toNat n)<=n;by_cases hv:v < 0
  ·rw[if_pos hv];omega
  ·rw[if_neg hv];exact Nat.min_le_right _ _
theorem Cd(v:Int)(n d:Nat):(if v < 0 then max (v+(n:Int)) 0 else min v (n:Int))=((sIx n d (some v):Nat):Int):=by
 show (if v < 0 then max (v+(n:Int)) 0 else min v (n:Int))=(((if v < 0 then (v+(n:Int)).toNat else min v.toNat n):Nat):Int);by_cases hv:v < 0
 ·simp only[if_pos hv];omega
 ·simp only[if_neg hv];omega
theorem WM(lo hi:Option Int)(n:Nat):Builtin.Slice.sliceAdjust lo hi 1 (n:Int)=(((sIx n 0 lo:Nat):Int),((sIx n n hi:Nat):Int)):=by
 have h1:¬((1:Int) < 0):=by omega
 unfold Builtin.Slice.sliceAdjust;simp only[h1,if_false];refine Prod.ext ?_ ?_
 ·cases lo with
  |none=>rfl
  |some v=>exact Cd v n 0
 ·cases hi with
  |none=>rfl
  |some v=>exact Cd v n n
theorem WN(i j:Nat):Builtin.Slice.slicePlaces (i:Int) (j:Int) 1=j - i:=by
 unfold Builtin.Slice.slicePlaces;have h1:(1:Int) > 0:=by omega
 simp only[h1,if_true,Int.ediv_one];split <;> omega
theorem Ce{v:Value}{o:Option Int}{Q:Option Int->Shared->Prop}(p:IsPart v o)(h:Q o s):wpAny (model prog w) A (Builtin.Slice.slicePartIndex v) Q E s:=by
 cases p with
 |none=>exact slicePart_none h
 |int i t=>exact slicePart_int h
theorem Cg{sl:Addr}{vl vu:Value}{lo hi:Option Int}{n:Nat}{Q:Int×Int×Nat->Shared->Prop}(hs:s.heap.IsSliceOf sl vl vu .none)(pl:IsPart vl lo)(pu:IsPart vu hi)
  (h:Q (((sIx n 0 lo:Nat):Int),1,sIx n n hi - sIx n 0 lo) s):wpAny (model prog w) A (Builtin.Slice.sliceApplied (.ref sl) (pure (n:Int))) Q E s:=by
 obtain ⟨os,hos,hcs,hds⟩:=id hs;unfold Builtin.Slice.sliceApplied Builtin.Slice.sliceFields;refine wpAny_bind (wpAny_bind (wpAny_field hos hds (x:=vl) rfl (wpAny_bind (wpAny_field hos hds (x:=vu) rfl (wpAny_bind (wpAny_field hos hds (x:=.none) rfl (wpAny_pure ?_)))))));refine wpAny_bind (slicePart_none ?_);show wpAny _ _ (if ((1:Int)==0)=true then _ else _) _ _ s;rw[if_neg (by decide)];refine wpAny_bind (Ce pl (wpAny_bind (Ce pu (wpAny_bind (wpAny_pure ?_)))));show wpAny _ _ (match Builtin.Slice.sliceAdjust lo hi 1 (n:Int) with | (lo,hi)=>pure (lo,(1:Int),Builtin.Slice.slicePlaces lo hi 1)) _ _ s;rw[WM lo hi n];show wpAny _ _ (pure (((sIx n 0 lo:Nat):Int),(1:Int),Builtin.Slice.slicePlaces ((sIx n 0 lo:Nat):Int) ((sIx n n hi:Nat):Int) 1)) _ _ s;rw[WN];exact wpAny_pure h
theorem WP(xs:Array Value)(i k:Nat):((List.range k).filterMap λ(m:Nat)=>xs[((i:Int)+(m:Int) * 1).toNat]?).toArray=((xs.toList.drop i).take k).toArray:=by
 have e:(λ(m:Nat)=>xs[((i:Int)+(m:Int) * 1).toNat]?)=λm=>xs[i+m]?:=by
  funext m;have:((i:Int)+(m:Int) * 1).toNat=i+m:=by omega
  rw[this]
 rw[e];have:=pick_run xs i k;rw[List.filterMap_map]at this;have e2:((λx=>xs[x]?)∘λx=>i+x)=λm=>xs[i+m]?:=rfl;rw[e2]at this;rw[this]
theorem WQ{t sl:Addr}{items:Array Value}{vl vu:Value}{lo hi:Option Int}{Q:Value->Shared->Prop}(ht:IsTup s.heap t items)(hs:s.heap.IsSliceOf sl vl vu .none)(pl:IsPart vl lo)(pu:IsPart vu hi)
  (hw:¬(sIx items.size 0 lo=0/\sIx items.size items.size hi=items.size))
  (h:Q (.ref s.heap.objs.size) { s with heap:=s.heap.push { cls:=.type "tuple",data:=.seq ((items.toList.drop (sIx items.size 0 lo)).take (sIx items.size items.size hi - sIx items.size 0 lo)).toArray } })
  (hsz:items.size<=sizeLine):wpAny (model prog w) A (getItem (.ref t) (.ref sl)) Q E s:=by
 have htake:sizeOk (.seq ((items.toList.drop (sIx items.size 0 lo)).take (sIx items.size items.size hi - sIx items.size 0 lo)).toArray):=by show ((items.toList.drop (sIx items.size 0 lo)).take (sIx items.size items.size hi - sIx items.size 0 lo)).toArray.size<=sizeLine;rw[List.size_toArray,List.length_take,List.length_drop,Array.length_toList];omega
 have hj:sIx items.size items.size hi<=items.size:=Ca _ _ (Nat.le_refl _) hi;obtain ⟨os,hos,hcs,hds⟩:=id hs;have hTs:s.TypeIs (.ref sl) "slice":=⟨os,hos,hcs⟩;unfold getItem;try with_reducible refine wpAny_holding ?_
 first |refine wpAny_bind (wpAny_pure ?_) |skip
 refine wpAny_bind (wpAny_sequenceKey ht.typeIs (by decide) ?_);refine wpAny_bind (wpAny_callSpecial?_slot (name:=Str.ofString "__getitem__") ht.typeIs PyProof.Rows.slot_tuple_getitem
  (wpAny_call_entry PyProof.Rows.slot_tuple_getitem ht.typeIs entry_tuple_getitem ?_ (args_tuple_getitem _ _)))
 show wpAny _ _ (Builtin.Tuple.tupleItemsOf (.ref t) >>= _) _ _ s;refine wpAny_bind (tupleItemsOf_ ht ?_);refine wpAny_bind (wpAny_typeOf hTs ?_);rw[if_pos (by decide)];refine wpAny_bind (Cg hs pl pu ?_);have hno:¬((((sIx items.size 0 lo:Nat):Int)==0&&(1:Int)==1&&(sIx items.size items.size hi - sIx items.size 0 lo)==items.size)=true):=by intro q;rw[Bool.and_eq_true,Bool.and_eq_true]at q;have q1:((sIx items.size 0 lo:Nat):Int)=0:=eq_of_beq q.1.1;have q2:sIx items.size items.size hi - sIx items.size 0 lo=items.size:=eq_of_beq q.2;exact hw ⟨by omega,by omega⟩
 show wpAny _ _ (if (((sIx items.size 0 lo:Nat):Int)==0&&(1:Int)==1&&(sIx items.size items.size hi - sIx items.size 0 lo)==items.size)=true then _ else _) _ _ s;rw[if_neg hno,WP];first
  |exact wpAny_bind (m:=Builtin.Tuple.tupleExact _) (wpAny_newObj_type (wpAny_pure ⟨_,rfl,wpAny_pure h⟩) htake)
  |exact wpAny_bind (m:=Builtin.Tuple.tupleExact _) (wpAny_newObj_type (wpAny_bind (wpAny_pure (wpAny_pure ⟨_,rfl,wpAny_pure h⟩))) htake)
  |exact wpAny_bind (wpAny_bind (m:=Builtin.Tuple.tupleExact _) (wpAny_newObj_type (wpAny_pure (wpAny_pure ⟨_,rfl,wpAny_pure h⟩)) htake))
  |exact wpAny_bind (wpAny_bind (m:=Builtin.Tuple.tupleExact _) (wpAny_newObj_type (wpAny_pure ⟨_,rfl,wpAny_pure h⟩) htake))
end
end HT
namespace L2
open PySem PySem.Spec PyProof.Rows
abbrev TO:=St->Hp->(Option Int->Hp->Prop)->Prop
def PO(X:Cx)(e:Option Expr)(t:TO):Prop:=
 ∀(pins:List (Addr×Obj))(s:Shared)(σ:St)(H:Hp)(Q:Option Int->Hp->Prop),Inv X pins σ H s->t σ H Q->
  wpAny (model X.prog X.w) X.A (evalPart e X.env) (λu s'=>∃o H',Inv X pins σ H' s'/\IsPart u o/\Q o H') X.xe s
def WR:TO:=λ_ H Q=>Q none H
def WT(t:TE):TO:=λσ H Q=>t σ H λx H1=>∃i,x=.int i/\Q (some i) H1
theorem intsAre_of{ns:List Int}:∀{us:List Value},Vals (ns.map V.int) us->IntsAre us ns:=by
 induction ns with
 |nil=>intro us r;rw[dP]at r;cases r;exact .nil
 |cons n ns ih=>
  intro us r;rw[bn]at r;cases r with
  |cons r1 r2=>
   obtain ⟨t,e⟩:=r1;subst e;exact .cons n t (ih r2)
section
variable {X:Cx} {e:Expr} {te:TE} {lo hi:Option Expr} {tl th:TO} {pos p2:Pos}
theorem WW:PO X none WR:=by intro pins s σ H Q I h;rw[evalPart_none];exact bb ⟨none,H,I,.none,h⟩
theorem WX(h:PE X e te):PO X (some e) (WT te):=by intro pins s σ H Q I hw;rw[evalPart_some];refine thn (h pins s σ H _ I hw) λu s1 ⟨x,H1,I1,r1,q1⟩=>?_;obtain ⟨i,rfl,q⟩:=q1;obtain ⟨t,rfl⟩:=r1;exact ⟨some i,H1,I1,.int i t,q⟩
def SlR(X:Cx)(r:V->Option Int->Option Int->Hp->VK->Prop):Prop:=
 ∀(pins:List (Addr×Obj))(s:Shared)(σ:St)(H:Hp)(x:V)(v vl vu:Value)(lo hi:Option Int)(sl:Addr)(Q:VK),Inv X pins σ H s->RelV x v->s.heap.IsSliceOf sl vl vu .none->IsPart vl lo->IsPart vu hi->r x lo hi H Q->
  ∃T id,typeLookup (.type T) "__getitem__"=pure (some (.builtin id))/\s.TypeIs v T/\wpAny (model X.prog X.w) X.A (getItem v (.ref sl)) (EP X pins σ Q) X.xe s
def tSl(r:V->Option Int->Option Int->Hp->VK->Prop)(te:TE)(tl th:TO):TE:=λσ H Q=>te σ H λx H1=>tl σ H1 λl H2=>th σ H2 λu H3=>r x l u H3 Q
theorem WY{r:V->Option Int->Option Int->Hp->VK->Prop}(hr:SlR X r)(he:PE X e te)(hl:PO X lo tl)(hu:PO X hi th):PE X (.Subscript e (.Slice lo hi none p2) pos) (tSl r te tl th):=by intro pins s σ H Q I h;refine Subscript_ (thn (he pins s σ H _ I h) λv s1 ⟨x,H1,I1,r1,q1⟩=>?_);refine wpAny_Slice (thn (hl pins s1 σ H1 _ I1 q1) λvl s2 ⟨l,H2,I2,pl,q2⟩=>thn (hu pins s2 σ H2 _ I2 q2) λvu s3 ⟨u,H3,I3,pu,q3⟩=>?_);rw[evalPart_none];refine bb ?_;have I4:Inv X pins σ H3 { s3 with heap:=s3.heap.push { cls:=.type "slice",data:=.fields #[vl,vu,.none] } }:=I3.kept (t':=s3.toks) λb ob q=>ah _ q;obtain ⟨T,id,hT,ht,hg⟩:=hr pins { s3 with heap:=s3.heap.push { cls:=.type "slice",data:=.fields #[vl,vu,.none] } } σ H3 x v vl vu l u s3.heap.objs.size Q I4 r1 (Heap.IsSliceOf.new ..) pl pu q3;show wpAny (model X.prog X.w) X.A (subscriptTail e (.Slice lo hi none p2) v (.ref s3.heap.objs.size)) (EP X pins σ Q) X.xe { s3 with heap:=s3.heap.push { cls:=.type "slice",data:=.fields #[vl,vu,.none] } };exact tail_any (ops:=[.ref s3.heap.objs.size,v]) ht hT hg (by with_unfolding_all rfl)
noncomputable def dM(xs:List V)(lo hi:Option Int):List V:=(xs.drop (HT.sIx xs.length 0 lo)).take (HT.sIx xs.length xs.length hi - HT.sIx xs.length 0 lo)
theorem Ci(xs:List V)(lo hi:Option Int):(dM xs lo hi).length<=xs.length:=by unfold dM;rw[b6,ci];omega
noncomputable def W0(K:PySem.W.Frag):V->Option Int->Option Int->Hp->VK->Prop:=λx lo hi H Q=>∃a xs,x=.ref a/\SqT K H a xs/\
 ¬(HT.sIx xs.length 0 lo=0/\HT.sIx xs.length xs.length hi=xs.length)/\∀p,H p=none->Q (.ref p) (upd H p (.tup (dM xs lo hi)))
theorem W2:SlR X (W0 X.K):=by
 intro pins s σ H x v vl vu lo hi sl Q I rx hs pl pu h;obtain ⟨a,xs,rfl,hx,hw,q⟩:=h;cases rx;obtain ⟨its,r,ht,hz⟩:=I.tuple hx;have hlen:its.toArray.size=xs.length:=by rw[ar];exact r.length.symm
 refine ⟨"tuple",_,eD.lookup,ht.typeIs,?_⟩;refine HT.WQ ht hs pl pu (by rw[hlen];exact hw) ?_ (by rw[hlen];exact hz);rw[hlen];refine ⟨.ref s.heap.objs.size,_,I.laid (t':=s.toks) (o:=.tup (dM xs lo hi)) (λb ob q=>ah _ q) (aw _) ?_,rfl,q _ (I.hok.fresh (aw _))⟩;exact ⟨cm (Ci xs lo hi) hz,_,(r.drop (HT.sIx xs.length 0 lo)).take (HT.sIx xs.length xs.length hi - HT.sIx xs.length 0 lo),IsTup.new _ _⟩
def W3(K:PySem.W.Frag):R2:=λx y H Q=>∃a b xs ys,x=.ref a/\y=.ref b/\SqT K H a xs/\SqT K H b ys/\xs≠[]/\xs.length+ys.length<=sizeLine/\
 (ys=[]->Q (.ref a) H)/\(ys≠[]->∀p,H p=none->Q (.ref p) (upd H p (.tup (xs++ys))))
theorem Vals.nil_iff{xs:List V}{us:List Value}(r:Vals xs us):us=[]↔xs=[]:=by
 cases r with
 |nil=>simp
 |cons _ _=>simp
theorem W4:OpR X (binaryOp .Add) (W3 X.K):=by intro pins s σ H x y v u Q I rx ry h;obtain ⟨a,b,xs,ys,rfl,rfl,ha,hb,hx,hz,q1,q2⟩:=h;cases rx;cases ry;obtain ⟨its,r1,p1,_⟩:=I.tuple ha;obtain ⟨its2,r2,p2,_⟩:=I.tuple hb;refine HT.WL p1 p2 (λz=>hx (r1.nil_iff.mp z)) (λz=>⟨.ref a,H,I,rfl,q1 (r2.nil_iff.mp z)⟩) (λz=>?_) (by rw[<-r1.length,<-r2.length];exact hz);refine ⟨.ref s.heap.objs.size,_,I.laid (t':=s.toks) (o:=.tup (xs++ys)) (λb ob q=>ah _ q) (aw _) ?_,rfl,q2 (λw=>z (r2.nil_iff.mpr w)) _ (I.hok.fresh (aw _))⟩;exact ⟨by rw[ay];exact hz,_,r1.append r2,IsTup.new _ _⟩
end
noncomputable def ixN(n:Nat)(i:Int):Option Nat:=if 0<=i then (if i < n then some i.toNat else none) else if -(n:Int)<=i then some (i+n).toNat else none
def atI{α:Type}(xs:List α)(i:Int):Option α:=(ixN xs.length i).bind λj=>xs[j]?
theorem Cj{n:Nat}{i:Int}{j:Nat}(h:ixN n i=some j):seqIndex? i n=some j/\j < n/\-(n:Int)<=i/\i < n:=by
 unfold ixN at h;by_cases h0:0<=i
 ·rw[if_pos h0]at h;by_cases h1:i < n
  ·rw[if_pos h1]at h;have e:i.toNat=j:=dr h;exact ⟨by rw[seqIndex_of h0 h1,e],by omega,by omega,h1⟩
  ·rw[if_neg h1]at h;cases h
 ·rw[if_neg h0]at h;by_cases h1:-(n:Int)<=i
  ·rw[if_pos h1]at h;have e:(i+n).toNat=j:=dr h;exact ⟨by rw[seqIndex_neg (by omega) h1,e],by omega,h1,by omega⟩
  ·rw[if_neg h1]at h;cases h
theorem vL{α:Type}{xs:List α}{i:Int}{v:α}(h:atI xs i=some v):∃j,seqIndex? i xs.length=some j/\xs[j]?=some v/\j < xs.length/\-(xs.length:Int)<=i/\i < xs.length:=by
 unfold atI at h;cases e:ixN xs.length i with
 |none=>rw[e]at h;cases h
 |some j=>
  rw[e]at h;obtain ⟨h1,h2,h3,h4⟩:=Cj e;exact ⟨j,h1,h,h2,h3,h4⟩
theorem bJ{α:Type}{xs:List α}{j:Nat}{v:α}(h:xs[j]?=some v):atI xs (j:Int)=some v:=by
 have hj:j < xs.length:=(am.mp h).1;have e:ixN xs.length (j:Int)=some j:=by unfold ixN;rw[if_pos (by omega),if_pos (by omega)];simp
 unfold atI;rw[e];exact h
theorem vM{α:Type}(xs:List α)(v:α):atI (xs++[v]) (-1)=some v:=by
 have hl:(xs++[v]).length=xs.length+1:=by simp
 have e:ixN (xs++[v]).length (-1)=some xs.length:=by unfold ixN;rw[hl,if_neg (by decide),if_pos (by omega)];congr 1;omega
 unfold atI;rw[e];show (xs++[v])[xs.length]?=some v;simp
def Ck(b:Expr):Prop:=∀o i,subscripted b false o i=operate [o,i] (getItem o i)
def IxR(X:Cx)(r:R2):Prop:=
 ∀(value slice:Expr)(pins:List (Addr×Obj))(s:Shared)(σ:St)(H:Hp)(x y:V)(v u:Value)(Q:VK),Inv X pins σ H s->RelV x v->RelV y u->r x y H Q->
  subscripted slice false v u=operate [v,u] (getItem v u)->wpAny (model X.prog X.w) X.A (subscriptTail value slice v u) (EP X pins σ Q) X.xe s
def MtR(X:Cx)(id:String)(r:V->List V->Hp->VK->Prop):Prop:=
 ∀(pins:List (Addr×Obj))(s:Shared)(σ:St)(H:Hp)(x:V)(xs:List V)(v:Value)(us:List Value)(Q:VK),Inv X pins σ H s->RelV x v->Vals xs us->r x xs H Q->
  wpAny (model X.prog X.w) X.A (call (.builtin id) (v::us)) (EP X pins σ Q) X.xe s
section
variable {X:Cx} {a b:Expr} {ta tb:TE} {pos:Pos}
theorem W5{r:R2}(hr:IxR X r)(ha:PE X a ta)(hb:PE X b tb)(hs:Ck b):PE X (.Subscript a b pos) (tOp r ta tb):=by intro pins s σ H Q I h;exact Subscript_ (vH ha hb I h λv u s2 x y H2 I2 rx ry q=>hr a b pins s2 σ H2 x y v u Q I2 rx ry q (hs _ _))
def W6(K:PySem.W.Frag):R2:=λx y H Q=>∃p xs i v,x=.ref p/\y=.int i/\SqL K H p xs/\atI xs i=some v/\Q v H
def W7(K:PySem.W.Frag):R2:=λx y H Q=>∃p xs i v,x=.ref p/\y=.int i/\SqT K H p xs/\atI xs i=some v/\Q v H
def W8:R2:=λx y H Q=>∃z i c,x=.str z/\y=.int i/\z.length<=sizeLine/\atI z.cps.toList i=some c/\Q (.str ⟨#[c]⟩) H
theorem W9:IxR X (W6 X.K):=by
 intro value slice pins s σ H x y v u Q I rx ry h hs;obtain ⟨p,xs,i,z,rfl,rfl,hq,he,q⟩:=h;cases rx;obtain ⟨t,rfl⟩:=ry;obtain ⟨its,r,pl,hz⟩:=I.list hq;obtain ⟨j,h1,h2,h3,h4,h5⟩:=vL he;obtain ⟨w,ew,rw'⟩:=r.get h2;have hl:=r.length;have hn:=gJ;have fin:EP X pins σ Q w s:=⟨z,H,I,rw',q⟩;by_cases h0:0<=i
 ·have hj:i.toNat=j:=by
   rw[seqIndex_of h0 h5]at h1;exact dr h1
  exact item_listR pl.isList h0 (by omega) (by rw[hj];simpa using ew) fin hs
 ·have hj:(i+(its.toArray.size:Int)).toNat=j:=by
   rw[seqIndex_neg (by omega) h4]at h1;rw[ar,<-hl];exact dr h1
  exact subscriptTail_builtinR (x:=w) pl.isList.typeIs slot_list_getitem.lookup
   (wpAny_getItem_list_neg (Q:=λr s'=>r=w/\EP X pins σ Q r s') pl.isList (by omega) (by rw[ar] <;> omega) (by omega) (by rw[hj];simpa using ew) ⟨rfl,fin⟩) hs
theorem Xa:IxR X (W7 X.K):=by
 intro value slice pins s σ H x y v u Q I rx ry h hs;obtain ⟨p,xs,i,z,rfl,rfl,hq,he,q⟩:=h;cases rx;obtain ⟨t,rfl⟩:=ry;obtain ⟨its,r,pl,hz⟩:=I.tuple hq;obtain ⟨j,h1,h2,h3,h4,h5⟩:=vL he;obtain ⟨w,ew,rw'⟩:=r.get h2;have hl:=r.length;have hn:=gJ;have fin:EP X pins σ Q w s:=⟨z,H,I,rw',q⟩;exact subscriptTail_builtinR (x:=w) pl.typeIs slot_tuple_getitem.lookup
  (getItem_tuple (j:=j) (Q:=λr s'=>r=w/\EP X pins σ Q r s') pl (by omega) (by omega) (by rw[ar,<-hl];exact h1) (by simpa using ew) ⟨rfl,fin⟩) hs
theorem Xb:IxR X W8:=by
 intro value slice pins s σ H x y v u Q I rx ry h hs;obtain ⟨z,i,c,rfl,rfl,hz,he,q⟩:=h;obtain ⟨t,rfl⟩:=rx;obtain ⟨t',rfl⟩:=ry;obtain ⟨j,h1,h2,h3,h4,h5⟩:=vL he;have hl:z.cps.toList.length=z.length:=by simp[Str.length]
 rw[hl]at h1 h4 h5;have hn:=gJ;exact tail_any (typeIs_str s z t) slot_str_getitem.lookup (getItem_str (c:=c) (by
  have e1:decide (i < -(2 ^ 63:Int))=false:=cq (by omega);have e2:decide (i≥2 ^ 63)=false:=cq (by omega);rw[e1,e2,Bool.or_false]) (by rw[h1];simpa using h2) ⟨.str ⟨#[c]⟩,H,I.tok _,⟨_,rfl⟩,q⟩) hs
theorem Xc (its:List Value) (n j:Nat) (u:Value):Obj.mapSeq (·.setIfInBounds j u) { cls:=.type "list",data:=.seq its.toArray n }={ cls:=.type "list",data:=.seq (its.set j u).toArray n }:=by simp[Obj.mapSeq]
theorem Inv.lst{pins:List (Addr×Obj)}{σ:St}{H:Hp}{s:Shared}{p:Addr}{xs:List V}(I:Inv X pins σ H s)(h:H p=some (.lst xs)):
  ∃(its:List Value) (n:Nat),Vals xs its/\s.heap.get? p=some { cls:=.type "list",data:=.seq its.toArray n }/\xs.length<=sizeLine:=by
 obtain ⟨z,its,n,r,e⟩:=I.hok p _ h;exact ⟨its,n,r,e,z⟩
theorem Inv.lstUpd{pins:List (Addr×Obj)}{σ:St}{H:Hp}{s:Shared}{p:Addr}{xs ys:List V}{its its':List Value}{n n':Nat}{f:Obj->Obj}(I:Inv X pins σ H s)(h:H p=some (.lst xs))
  (ho:s.heap.get? p=some { cls:=.type "list",data:=.seq its.toArray n }) (hf:f { cls:=.type "list",data:=.seq its.toArray n }={ cls:=.type "list",data:=.seq its'.toArray n' }) (r:Vals ys its') (hz:ys.length<=sizeLine) (t:Nat):
  Inv X pins σ (upd H p (.lst ys)) { s with heap:=s.heap.update p f,toks:=t }:=by
 have e:(s.heap.update p f).get? p=some { cls:=.type "list",data:=.seq its'.toArray n' }:=by rw[Heap.get?_update_self f ho (by rw[hf] <;> rfl),hf]
 refine I.write (x:=p) (e:=p) (by rw[h];trivial) (.inl rfl) (λb u hb q=>(Heap.get?_update_other _ _ (Ne.symm hb)).trans q) ⟨_,e⟩ ?_;exact ⟨hz,its',n',r,e⟩
def Xd:V->V->V->Hp->(Hp->Prop)->Prop:=λo i v H Q=>∃p xs k j,o=.ref p/\i=.int k/\H p=some (.lst xs)/\ixN xs.length k=some j/\Q (upd H p (.lst (xs.set j v)))
theorem set_list:vG X Xd:=by
 intro pins s σ H o i v ov iv u Q I ro ri rv h;obtain ⟨p,xs,k,j,rfl,rfl,hp,hj,q⟩:=h;cases ro;obtain ⟨t,rfl⟩:=ri;obtain ⟨its,n,r,ho,hz⟩:=I.lst hp;obtain ⟨h1,h2,h3,h4⟩:=Cj hj;have hl:=r.length;have hn:=gJ;have I':Inv X pins σ (upd H p (.lst (xs.set j v))) { s with heap:=s.heap.update p (Obj.mapSeq (·.setIfInBounds j u)) }:=
  I.lstUpd hp ho (Xc its n j u) (r.set rv j) (by rw[dS];exact hz) s.toks
 by_cases h0:0<=k
 ·have hk:k.toNat=j:=by
   rw[seqIndex_of h0 h4]at h1;exact dr h1
  exact PySem.W.ki_setAt ho h0 (by omega) (by rw[ar,<-hl];exact h4) (by rw[hk];exact ⟨_,I',q⟩)
 ·have hk:(k+(its.toArray.size:Int)).toNat=j:=by
   rw[seqIndex_neg (by omega) h3]at h1;rw[ar,<-hl];exact dr h1
  exact PySem.W.ki_setBack ho (by omega) (by rw[ar,<-hl];exact h3) (by omega) (by rw[hk];exact ⟨_,I',q⟩)
theorem Cm(lo hi:Option Int)(n:Nat):(sliceBounds lo hi none n).1=((HT.sIx n 0 lo:Nat):Int)/\(sliceBounds lo hi none n).2.1=((HT.sIx n n hi:Nat):Int)/\(sliceBounds lo hi none n).2.2=1:=by
 refine ⟨?_,?_,rfl⟩
 ·cases lo with
  |none=>simp[sliceBounds,HT.sIx]
  |some i=>
   simp only[sliceBounds,HT.sIx,Option.getD_none,show (1:Int) > 0 by decide,if_true];by_cases h:i < 0
   ·simp only[h,if_true] <;> omega
   ·simp only[h,if_false] <;> omega
 ·cases hi with
  |none=>simp[sliceBounds,HT.sIx]
  |some i=>
   simp only[sliceBounds,HT.sIx,Option.getD_none,show (1:Int) > 0 by decide,if_true];by_cases h:i < 0
   ·simp only[h,if_true] <;> omega
   ·simp only[h,if_false] <;> omega
theorem Xe(its:List Value)(lo hi:Option Int):slicePick its.toArray lo hi none=((its.drop (HT.sIx its.length 0 lo)).take (HT.sIx its.length its.length hi - HT.sIx its.length 0 lo)).toArray:=by obtain ⟨h1,h2,h3⟩:=Cm lo hi its.toArray.size;unfold slicePick;rw[h1,h2,h3];simp only[sliceRange_one,pick_run,ar] <;> rfl
noncomputable def Xf(K:PySem.W.Frag):V->Option Int->Option Int->Hp->VK->Prop:=λx lo hi H Q=>∃a xs,x=.ref a/\SqL K H a xs/\∀p,H p=none->Q (.ref p) (upd H p (.lst (dM xs lo hi)))
theorem Cp:SlR X (Xf X.K):=by intro pins s σ H x v vl vu lo hi sl Q I rx hs pl pu h;obtain ⟨a,xs,rfl,hx,q⟩:=h;cases rx;obtain ⟨its,r,ht,hz⟩:=I.list hx;have hlen:=r.length;refine ⟨"list",_,slot_list_getitem.lookup,ht.isList.typeIs,?_⟩;refine wpAny_getItem_list_slice ht.isList hs pl pu .none (by simp) ?_ (by rw[ar] <;> omega);rw[Xe,<-hlen];refine ⟨.ref s.heap.objs.size,_,I.laid (t':=s.toks) (o:=.lst (dM xs lo hi)) (λb ob q=>ah _ q) (aw _) ?_,rfl,q _ (I.hok.fresh (aw _))⟩;exact ⟨cm (Ci xs lo hi) hz,_,0,(r.drop (HT.sIx xs.length 0 lo)).take (HT.sIx xs.length xs.length hi - HT.sIx xs.length 0 lo),ba _ rfl⟩
theorem Cq:bF X (.builtin "len") (λxs H Q=>∃p ys,xs=[.ref p]/\(SqL X.K H p ys\/SqT X.K H p ys)/\Q (.int ys.length) H):=by
 intro pins s σ H xs us Q I r h;obtain ⟨p,ys,rfl,hq,q⟩:=h;obtain ⟨u,rfl,rx⟩:=vals1 r;cases rx;have hn:=gJ;rcases hq with hq |hq
 ·obtain ⟨its,r',pl,hz⟩:=I.list hq;have hlen:=r'.length;exact Calls.call_len_list pl.isList (by simp only[ar] <;> omega) ⟨.int ys.length,H,I.tok _,⟨s.toks+1,by rw[ar,hlen]⟩,q⟩
 ·obtain ⟨its,r',pl,hz⟩:=I.tuple hq;have hlen:=r'.length;exact len_tuple pl (by simp only[ar] <;> omega) ⟨.int ys.length,H,I.tok _,⟨s.toks+1,by rw[ar,hlen]⟩,q⟩
theorem Xg:bF X (.builtin "len") (λxs H Q=>∃z,xs=[.str z]/\z.length<=sizeLine/\Q (.int z.length) H):=by intro pins s σ H xs us Q I r h;obtain ⟨z,rfl,hz,q⟩:=h;obtain ⟨u,rfl,t,rfl⟩:=vals1 r;have hn:=gJ;exact len_str (by omega) ⟨.int z.length,H,I.tok _,⟨_,rfl⟩,q⟩
theorem Cr:bF X (.type "list") (λxs H Q=>∃p ys,xs=[.ref p]/\(SqL X.K H p ys\/SqT X.K H p ys)/\∀l,H l=none->Q (.ref l) (upd H l (.lst ys))):=by
 intro pins s σ H xs us Q I r h;obtain ⟨p,ys,rfl,hq,q⟩:=h;obtain ⟨u,rfl,rx⟩:=vals1 r;cases rx;have fin:∀(its:List Value),Vals ys its->ys.length<=sizeLine->∀(h':Heap)(c':Nat),(∀b o',s.heap.get? b=some o'->h'.get? b=some o')->
   h'.get? s.heap.objs.size=some { cls:=.type "list",dict:=none,data:=.seq its.toArray c',slots:=#[] }->EP X pins σ Q (.ref s.heap.objs.size) { s with heap:=h' }:=λits r' hz h' c' kp e=>
  ⟨.ref s.heap.objs.size,_,I.laid (t':=s.toks) kp (aw _) (show ObjOk X.prog X.w _ h' _ (.lst ys) from ⟨hz,its,c',r',e⟩),rfl,q _ (I.hok.fresh (aw _))⟩
 rcases hq with hq |hq
 ·obtain ⟨its,r',pl,hz⟩:=I.list hq;have hlen:=r'.length;obtain ⟨o,ho,hc,n,hd⟩:=pl.isList;exact call_list_seq p (.inl rfl) ho hc hd (λh' c' kp e=>fin its r' hz h' c' kp e) (by simp only[ar] <;> omega)
 ·obtain ⟨its,r',pl,hz⟩:=I.tuple hq;have hlen:=r'.length;obtain ⟨o,ho,hc,n,hd⟩:=pl;exact call_list_seq p (.inr rfl) ho hc hd (λh' c' kp e=>fin its r' hz h' c' kp e) (by simp only[ar] <;> omega)
theorem Cu:bF X (.type "tuple") (λxs H Q=>∃p ys,xs=[.ref p]/\((SqL X.K H p ys/\∀l,H l=none->Q (.ref l) (upd H l (.tup ys)))\/(SqT X.K H p ys/\Q (.ref p) H))):=by
 intro pins s σ H xs us Q I r h;obtain ⟨p,ys,rfl,h⟩:=h;obtain ⟨u,rfl,rx⟩:=vals1 r;cases rx;rcases h with ⟨hq,q⟩ |⟨hq,q⟩
 ·obtain ⟨its,r',pl,hz⟩:=I.list hq;have hlen:=r'.length;refine call_tuple_list pl.isList (λh' kp=>?_) (by simp only[ar] <;> omega);have I1:Inv X pins σ H { s with heap:=h' }:=I.kept (t':=s.toks) kp;have I2:Inv X pins σ (upd H h'.objs.size (.tup ys)) { s with heap:=h'.push { cls:=.type "tuple",data:=.seq its.toArray } }:=
   I1.laid (t':=s.toks) (λb o e=>ah _ e) (aw _) (show ObjOk X.prog X.w _ _ _ (.tup ys) from ⟨hz,its,r',IsTup.new _ _⟩)
  exact ⟨.ref h'.objs.size,_,I2,rfl,q _ (I1.hok.fresh (aw _))⟩
 ·obtain ⟨its,r',pl,hz⟩:=I.tuple hq;exact call_tuple_same pl ⟨.ref p,H,I,rfl,q⟩
def tyV(K:PySem.W.Frag)(T:String)(x:V)(H:Hp):Prop:=match x with
 |.str _=>T="str"
 |.int _=>T="int"
 |.ref p=>(T="list"/\∃xs,SqL K H p xs)\/(T="tuple"/\∃o,K.lookup p=some o/\o.cls=.type "tuple"/\o.dict=none)\/
   (T="dict"/\((∃kvs,H p=some (.dK kvs))\/∃kvs,H p=some (.dT kvs)))\/(T="set"/\∃S n,H p=some (.set S n))
 |_=>False
theorem Xh{pins:List (Addr×Obj)}{σ:St}{H:Hp}{s:Shared}{T:String}{x:V}{v:Value}(I:Inv X pins σ H s)(r:RelV x v)(ty:tyV X.K T x H):
  s.TypeIs v T/\∀a,v=.ref a->∃ob,s.heap.get? a=some ob/\ob.dict=none:=by
 cases x with
 |str z=>
  obtain ⟨t,rfl⟩:=r;cases (show T="str" from ty);exact ⟨typeIs_str s z t,λ_ e=>nomatch e⟩
 |int i=>
  obtain ⟨t,rfl⟩:=r;cases (show T="int" from ty);exact ⟨typeIs_int s i t,λ_ e=>nomatch e⟩
 |ref p=>
  cases r;rcases ty with ⟨rfl,xs,hq⟩ |⟨rfl,o,hk,hc,hd⟩ |⟨rfl,hk⟩ |⟨rfl,S,n,hk⟩
  ·obtain ⟨its,_,pl,_⟩:=I.list hq;refine ⟨pl.isList.typeIs,λa e=>?_⟩;cases e;obtain ⟨o,n,e,c,hd,_⟩:=pl;exact ⟨o,e,hd⟩
  ·refine ⟨⟨o,I.kIn p o hk,hc⟩,λa e=>?_⟩;cases e;exact ⟨o,I.kIn _ o hk,hd⟩
  ·have z:∃o,s.heap.get? p=some o/\o.ExactDict:=by
    rcases hk with ⟨kvs,hk⟩ |⟨kvs,hk⟩
    ·obtain ⟨_,_,_,_,o,_,_,e,ex,_⟩:=I.hok p _ hk;exact ⟨o,e,ex⟩
    ·obtain ⟨_,_,_,_,o,_,_,e,ex,_⟩:=I.hok p _ hk;exact ⟨o,e,ex⟩
   obtain ⟨o,e,ex⟩:=z;refine ⟨⟨o,e,ex.1⟩,λa e2=>?_⟩;cases e2;exact ⟨o,e,ex.2.1⟩
  ·obtain ⟨o,_,_,_,e,ex,_⟩:=I.hok p _ hk;refine ⟨⟨o,e,ex.1⟩,λa e2=>?_⟩;cases e2;exact ⟨o,e,ex.2.1⟩
 |_=>exact False.elim ty
def tBM(K:PySem.W.Frag)(T:String)(r:V->List V->Hp->VK->Prop)(to:TE)(t:TA):TE:=λσ H Q=>to σ H λx H1=>tyV K T x H1/\t σ H1 λxs H2=>r x xs H2 Q
variable {o e:Expr} {es:List Expr} {to:TE} {t:TA} {name:Str} {apos cpos:Pos} {T id:String} {r:V->List V->Hp->VK->Prop}
theorem gK (pa:PlainAttrs T) (slot:Slot T name id) (hty:typeOf (.builtin id)=pure (.type "method_descriptor")) (hm:MtR X id r) (ho:PE X o to) (ha:PA X (e::es) t)
  (hbase:attributeBase o name X.env (eval o X.env)=eval o X.env:=by rfl)
  (hfew:((backTo cpos (starEach (e::es) X.env)).all (λx=>!x.1)&&(backToKw cpos (keywordEach [] X.env)).all (λx=>x.1.isSome)
  &&decide ((e::es).length+([]:List Keyword).length+(if ([]:List Keyword).isEmpty then 0 else 1) < 30))=true:=by rfl)
  (hline:(apos.endLine==cpos.line)=true:=by rfl) (hs:starEach (e::es) X.env=(false,eval e X.env)::starEach es X.env:=by rfl) (hplain:(backTo cpos (starEach es X.env)).any (·.1)=false:=by rfl):
  PE X (.Call (.Attribute o name apos) (e::es) [] cpos) (tBM X.K T r to t):=by
 intro pins s σ H Q I h;refine wpAny_Call_method_late hbase hfew hline rfl (thn (ho pins s σ H _ I h) λv s1 ⟨x,H1,I1,r1,ty,q1⟩=>?_);obtain ⟨h1,h2⟩:=Xh I1 r1 ty;refine ⟨T,id,pa,slot,hty,h1,h2,?_⟩;have hA:=ha cpos pins s1 σ H1 _ I1 q1;rw[hs]at hA ⊢;refine Calls.callWith_builtin (by show (false||(backTo cpos (starEach es X.env)).any (·.1))=false;rw[hplain] <;> rfl) (Calls.evalArgs_plain ?_);exact thn hA λus s2 ⟨vs,H2,I2,r2,q2⟩=>hm pins s2 σ H2 x vs v us Q I2 r1 r2 q2
end
def MtM(X:Cx)(id:String)(r:V->List V->Hp->VK->Prop):Prop:=
 ∀(pins:List (Addr×Obj))(s:Shared)(σ:St)(H:Hp)(x:V)(xs:List V)(v:Value)(us:List Value)(Q:VK),Inv X pins σ H s->RelV x v->Vals xs us->r x xs H Q->
  wpAny (model X.prog X.w) X.A (call (.builtin id) (v::us)) (EP X pins σ Q) X.xe s
theorem Vals.one:∀{x:V}{us:List Value},Vals [x] us->∃u,us=[u]/\RelV x u
 |_,_,.cons r .nil=>⟨_,rfl,r⟩
theorem Vals.eraseIdx:∀{xs:List V}{us:List Value}(i:Nat),Vals xs us->Vals (xs.eraseIdx i) (us.eraseIdx i)
 |_,_,_,.nil=>.nil
 |_,_,0,.cons _ t=>t
 |_,_,i+1,.cons r t=>.cons r (Vals.eraseIdx i t)
theorem Vals.rep{xs:List V}{us:List Value}(h:Vals xs us):∀k:Nat,Vals (List.replicate k xs).flatten (List.replicate k us).flatten
 |0=>.nil
 |k+1=>by
  rw[bP,bP,eA,eA];exact Vals.append h (Vals.rep h k)
theorem Cv{α:Type}:∀(l:List α)(i:Nat),(l.eraseIdx i).length<=l.length
 |[],_=>aw _
 |_::_,0=>fk _
 |_::r,i+1=>Nat.succ_le_succ (Cv r i)
theorem foldl_rep(its:List Value):∀(k:Nat)(acc:List Value),
  List.foldl (λx1 x2=>x1++x2) acc.toArray (List.replicate k its.toArray)=(acc++(List.replicate k its).flatten).toArray
 |0,acc=>by simp
 |k+1,acc=>by
  have e:acc.toArray++its.toArray=(acc++its).toArray:=by simp
  have e2:(acc++its)++(List.replicate k its).flatten=acc++(List.replicate (k+1) its).flatten:=by rw[bP,eA,List.append_assoc]
  rw[<-e2,<-foldl_rep its k (acc++its),<-e,bP,List.foldl_cons]
section
variable {X:Cx} {pins:List (Addr×Obj)} {σ:St} {H:Hp} {s:Shared} {l b:Addr} {xs ys zs:List V}
theorem Inv.lset{its its':List Value}{n:Nat}{f:Array Value->Array Value}{t':Nat}(I:Inv X pins σ H s)(hH:H l=some (.lst xs))
  (e:s.heap.get? l=some { cls:=.type "list",data:=.seq its.toArray n }) (hf:f its.toArray=its'.toArray) (hv:Vals ys its') (hz:ys.length<=sizeLine):
  Inv X pins σ (upd H l (.lst ys)) { s with heap:=s.heap.update l (Obj.mapSeq f),toks:=t' }:=by
 have q:=PySem.IsL.update e f;rw[hf]at q;refine I.write (x:=l) (e:=l) (by rw[hH];exact trivial) (.inl rfl) (λb' u hb hu=>(Heap.get?_update_other s.heap (Obj.mapSeq f) (Ne.symm hb)).trans hu) ⟨_,q⟩ ?_;exact ⟨hz,its',_,hv,q⟩
theorem Inv.lnew{its:List Value}{t':Nat}(I:Inv X pins σ H s)(hv:Vals ys its)(hz:ys.length<=sizeLine):
  Inv X pins σ (upd H s.heap.objs.size (.lst ys)) { s with heap:=s.heap.push { cls:=.type "list",data:=.seq its.toArray },toks:=t' }:=
 I.laid (λ_ _ q=>ah _ q) (aw _) ⟨hz,its,0,hv,ba _ rfl⟩
theorem Inv.fresh(I:Inv X pins σ H s):H s.heap.objs.size=none:=I.hok.fresh (aw _)
theorem Inv.lstM (I:Inv X pins σ H s) (hH:H l=some (.lst xs)):xs.length<=sizeLine/\∃(its:List Value) (n:Nat),Vals xs its/\xs.length=its.length/\s.heap.get? l=some { cls:=.type "list",data:=.seq its.toArray n }:=by obtain ⟨z,its,n,r,e⟩:=I.hok l _ hH;exact ⟨z,its,n,r,r.length,e⟩
theorem Cw{n:Nat}(h:n<=sizeLine):Builtin.List.listTooLong n=false:=by unfold Builtin.List.listTooLong;exact cq (by omega)
end
section
variable {X:Cx}
noncomputable def Xi:V->List V->Hp->VK->Prop:=λx vs H Q=>∃l xs y,x=.ref l/\vs=[y]/\H l=some (.lst xs)/\xs.length < sizeLine/\Q .non (upd H l (.lst (xs++[y])))
theorem Xj:MtM X "list.append" Xi:=by intro pins s σ H x vs v us Q I rx rv h;obtain ⟨l,xs,y,rfl,rfl,hH,hz,q⟩:=h;cases rx;obtain ⟨u,rfl,ru⟩:=rv.one;obtain ⟨z,its,n,r,hl,e⟩:=I.lstM hH;refine fg F.slot_list_append ⟨_,e,rfl⟩ F.entry_list_append (F.args_list_append_2 _ _) (PySem.list_append l its.toArray n u (by rw[ar];omega)) ⟨e,?_⟩;refine ⟨.non,_,I.lset (its':=its++[u]) hH e (by simp) (r.append (.cons ru .nil)) ?_,rfl,q⟩;rw[ay,eK];omega
noncomputable def Xk:V->List V->Hp->VK->Prop:=λx vs H Q=>∃l b xs zs,x=.ref l/\vs=[.ref b]/\H l=some (.lst xs)/\H b=some (.lst zs)/\xs.length+zs.length<=sizeLine/\Q .non (upd H l (.lst (xs++zs)))
theorem Xl:MtM X "list.extend" Xk:=by
 intro pins s σ H x vs v us Q I rx rv h;obtain ⟨l,b,xs,zs,rfl,rfl,hH,hB,hz,q⟩:=h;cases rx;obtain ⟨u,rfl,ru⟩:=rv.one;cases ru;obtain ⟨z,its,n,r,hl,e⟩:=I.lstM hH;obtain ⟨z2,its2,n2,r2,hl2,e2⟩:=I.lstM hB;have hsz:its.toArray.size+its2.toArray.size<=sizeLine:=by rw[ar,ar];omega
 have hlong:¬(!its.toArray.isEmpty&&Builtin.List.listTooLong (its.toArray.size+its2.toArray.size))=true:=by rw[Cw hsz,Bool.and_false];exact br
 refine fg F.slot_list_extend ⟨_,e,rfl⟩ F.entry_list_extend (F.args_list_extend_2 _ _)
  (AutoSeq1.list_extend_list_list_0 l its.toArray n b its2.toArray n2 hlong (by rw[ar];omega) (by omega)) ⟨e,e2,?_⟩
 refine ⟨.non,_,I.lset (its':=its++its2) hH e (by simp) (r.append r2) ?_,rfl,q⟩;rw[ay];omega
noncomputable def Xm:V->List V->Hp->VK->Prop:=λx vs H Q=>∃l xs i k y,x=.ref l/\vs=[.int i]/\H l=some (.lst xs)/\-(2 ^ 63)<=i/\i < 2 ^ 63/\seqIndex? i xs.length=some k/\xs[k]?=some y/\Q y (upd H l (.lst (xs.eraseIdx k)))
theorem Xo:MtM X "list.pop" Xm:=by
 intro pins s σ H x vs v us Q I rx rv h;obtain ⟨l,xs,i,k,y,rfl,rfl,hH,h1,h2,hk,hy,q⟩:=h;cases rx;obtain ⟨u,rfl,ru⟩:=rv.one;obtain ⟨t,rfl⟩:=ru;obtain ⟨z,its,n,r,hl,e⟩:=I.lstM hH;obtain ⟨w,hw,rw'⟩:=r.get hy;refine fg F.slot_list_pop ⟨_,e,rfl⟩ F.entry_list_pop (F.args_list_pop_2 _ _)
  (MeetsSeq.list_pop_at l its.toArray n i t k w (fitsIndex_both h1 h2) (by rw[ar,<-hl];exact hk) (by rw[<-fA];exact hw) (by rw[ar];omega)) ⟨e,?_⟩
 refine ⟨y,_,I.lset (its':=its.eraseIdx k) hH e ?_ (r.eraseIdx k) ?_,rw',q⟩
 ·show its.toArray.eraseIdxIfInBounds k=(its.eraseIdx k).toArray;rw[List.eraseIdxIfInBounds_toArray]
 ·have:=Cv xs k;omega
theorem len_rep{α:Type}(xs:List α)(k:Nat):(List.replicate k xs).flatten.length=k * xs.length:=by
 induction k with
 |zero=>simp
 |succ k ih=>rw[bP,eA,ay,ih,Nat.succ_mul,Nat.add_comm]
end
end L2
namespace Att
open PySem PySem.W PySem.Calls PyProof.Rows
theorem Xp{P:Params}{h:Heap}:∀(ns:List Int)(vs:List Value),WellAll P h vs (ns.map WData.int)->IntsAre vs ns:=by
 intro ns;induction ns with
 |nil=>
  intro vs w;rw[List.map_nil]at w;cases w;exact .nil
 |cons n ns ih=>
  intro vs w;rw[List.map_cons]at w;cases w with
  |cons a b=>
   cases a;exact .cons _ _ (ih _ b)
theorem Xq{l:OpenLaw}{n:Nat}(hn:l.most=some n){P:Params}{h:Heap}{args:List WData}{vals:List Value}
  (hpre:l.row.toRowW.claim.pre args=true) (hwl:WellAll P h vals args):
  ∃a vs ns,vals=[Value.ref a]/\args=[WData.list (ns.map WData.int)]/\h.get? a=some { cls:=.type "list",data:=.seq vs.toArray }/\IntsAre vs ns/\ns.length<=n:=by
 have hsh:WShape.hasAll [] args [.list .int]=true:=(pre_splitW hpre).1;have hc:l.pre.holds [] { args:=args }=true:=(pre_splitW hpre).2;obtain ⟨d,r,rfl,h1,h2⟩:=hasAllW_cons hsh;obtain rfl:=hasAllW_nil h2;obtain ⟨xs,rfl,h3⟩:=hasW_list h1;obtain ⟨ns,rfl⟩:=items_int h3;have hlen:ns.length<=n:=by
  unfold OpenLaw.pre at hc;have h4:(WTm.not (.lt (.lit (.int (n:Int))) (.len (.arg 0)))).holds [] { args:=[.list (ns.map .int)] }=true:=by have h4:=(holds_andW hc).1;rw[hn]at h4;exact h4
  have h5:=condW_of h4 (w_not (w_lt w_lit (w_len_list (w_arg rfl))));rw[List.length_map]at h5;refine Nat.le_of_not_lt λq=>?_;have q':(n:Int) < ((ns.length:Nat):Int):=by omega
  first
   | (rw[decide_eq_true q']at h5;exact absurd h5 (by decide))
   | (simp at h5;omega)
 cases hwl with
 |cons w1 w2=>
  cases w2;cases w1 with
  |list ho hall=>exact ⟨_,_,ns,rfl,rfl,ho,Xp ns _ hall,hlen⟩
theorem Xr(l:OpenLaw)(args:List WData):l.row.toRowW.claim.post args (.bool true) args=true:=
 postW_of (r:=l.row.toRowW) (X:=(true==true))
  (show WShape.has [] (.bool true) .bool=true by first |rfl |decide |simp[WShape.has,WShape.arms,WShape.armsAll])
  (show (WTm.eq .res (.lit (.bool true))).value [] { args:=args,res:=some (.bool true),after:=args }=some (.bool (true==true)) from w_eq_bool (w_res rfl) w_lit) rfl
theorem attach_call{l:OpenLaw}{n:Nat}{q:Program}{loose:List Str}{XP:(Str->Option Value)->Heap->Prop}{YP:World->Heap->Prop}{d:DefRec}
  (hn:l.most=some n) (hdf:d.params.defaults=[])
  (call:∀(w:World)(s₀ s₁:Shared)(mg mb:Str->Option Value)(fa:Addr)(o:Obj)(pm cd doc:Value)(a:Addr)(vs:List Value)(ns:List Int),
   Ground q loose [] XP w s₀ mg mb s₁.heap->YP w s₁.heap->
   s₁.heap.get? fa=some o->o.data=.func (docDef d.name d.params d.body d.scope pm cd doc)->s₁.heap.CodeRec cd d.name->mg d.name=some (.ref fa)->
   s₁.heap.get? a=some { cls:=.type "list",data:=.seq vs.toArray }->IntsAre vs ns->ns.length<=n->s₁.gens=#[]->
   codeAny (model l.prog w) callerA (.call (.ref fa) ⟨[.ref a],[]⟩) (λr s'=>r=.ok (.ret (.bool true))/\OldK s₁.heap s'.heap/\s'.os=s₁.os/\AllBare s'.gens) s₁):
  WalkO q loose XP YP l.row.toRowW d [] (λf vs=>PySem.call f vs):=by
 intro w s₀ s₁ mg mb G Y fa o pm cd doc dV kV ho hd hcd hD hmg hg args vals as hpre hlay hrd hwl hlo;obtain rfl:dV=.none:=Dflts.none hD hdf;obtain rfl:kV=.none:=Dflts.noKw hD;obtain ⟨a,vs,ns,rfl,rfl,hobj,hints,hlen⟩:=Xq hn hpre hwl;refine enter_call (codeAny_mono (call w s₀ s₁ mg mb fa o pm cd doc a vs ns G Y ho (fd_plain hd) hcd hmg hobj hints hlen hg) λr s' hq=>?_);obtain ⟨rfl,h2,h3,h4⟩:=hq;exact ⟨.inl ⟨.bool true,.bool true,[],rfl,λ_=>rfl,.bool true,Xr l _,λ_=>⟨List.Pairwise.nil,λ_ hm=>(nomatch hm)⟩⟩,h2,h3,h4⟩
end Att
namespace L2
open PySem PySem.Spec PyProof.Rows
theorem vN:∀{vs:List Value}{ns:List Int},IntsAre vs ns->Vals (ns.map V.int) vs
 |_,_,.nil=>.nil
 |_,_,.cons n t h=>.cons ⟨t,rfl⟩ (vN h)
def Only(H:Hp):Prop:=∀b,H b=none\/∃o xs,H b=some (.frz o (.lst xs))
theorem Xu{P:Program}{w:World}{K:PySem.W.Frag}{mg mb:Str->Option Value}{CX:CXT}{k:Nat}{fa a:Addr}{fd:FuncData}{x:Str}{sp:Sp}{s₁:Shared}{vs:List Value}{ns:List Int}
  (KX:K.In s₁.heap) (hns:s₁.heap.Ns mainGlobals mg) (hb:s₁.heap.Ns builtinsNs mb) (hbb:∀x:Str,x≠"__name__"->mb x=bootBuiltins x) (hlim:s₁.heap.NoLimit) (hg:s₁.gens=#[])
  (ha:s₁.heap.get? a=some { cls:=.type "list",data:=.seq vs.toArray }) (hi:IntsAre vs ns) (hl:ns.length<=sizeLine) (hr:Room k callerA)
  (F:∀base:Heap,K.In base->base.Ns mainGlobals mg->FnOk P w K mg base CX k fa fd [x] sp) (hbind:∀(s:Shared)(u:Value),BindsTo s fd ⟨[u],[]⟩ [(x,u)])
  (hsp:∀H:Hp,Only H->SqL K H a (ns.map V.int)->sp [.ref a] H (λv _=>v=.bl true) λ_ _ _=>False)
  (hCX:∀H e s',CX [] H s₁ (λ_ _ _=>False) e s'->False):
  codeAny (model P w) callerA (.call (.ref fa) ⟨[.ref a],[]⟩) (λr s'=>r=.ok (.ret (.bool true))/\OldK s₁.heap s'.heap/\s'.os=s₁.os/\AllBare s'.gens) s₁:=by
 have rv:=vN hi;have lenV:=hi.length
 -- from an abstract heap in which nothing but the script may be tracked
 have core:∀H:Hp,Only H->SqL K H a (ns.map V.int)->HOk P w H s₁.heap->(∀b,H b≠none->b=a)->(H a≠none->K.lookup a=none)->
   codeAny (model P w) callerA (.call (.ref fa) ⟨[.ref a],[]⟩) (λr s'=>r=.ok (.ret (.bool true))/\OldK s₁.heap s'.heap/\s'.os=s₁.os/\AllBare s'.gens) s₁:=by
  intro H hO hS hok hA hK;have base_of:∀{b:Addr}{o:Obj},s₁.heap.get? b=some o->H b=none->(du s₁.heap H).get? b=some o:=λe n=>Uh e n;have noA:∀{b:Addr}{o:Obj}{es:Array DictEntry}{ep:Nat},s₁.heap.get? b=some o->o.data=.dict es ep->H b=none:=λ{b o es ep} e d=>by
   cases q:H b with
   |none=>rfl
   |some u=>
    have e':b=a:=hA b (by rw[q];simp);subst e';rw[ha]at e;cases e;have d':Data.seq vs.toArray _=Data.dict es ep:=d;cases d'
  have nsK:∀{b:Addr}{m:Str->Option Value},s₁.heap.Ns b m->(du s₁.heap H).Ns b m:=λ{b m} ⟨o,es,ep,e,d,r⟩=>⟨o,es,ep,base_of e (noA e d),d,r⟩;have hKb:K.In (du s₁.heap H):=λb o e=>base_of (KX b o e) (by
   cases q:H b with
   |none=>rfl
   |some u=>
    have e':b=a:=hA b (by rw[q];simp);subst e';rw[hK (by rw[q];simp)]at e;cases e)
  have hM:Mod K mg (du s₁.heap H):=⟨hKb,nsK hns,⟨mb,nsK hb,hbb⟩,let ⟨mc,h1,h2⟩:=hlim;⟨mc,nsK h1,h2⟩⟩;have e0:Env0 P w K mg (du s₁.heap H) callerA [] s₁ H:=⟨rfl,hM,λb o e=>Ui e,Nat.le_of_eq (Ug _ _),trivial,λb hb=>absurd (show b∈([]:List Addr) from hb) (by simp),hok,.of_eq hg⟩;refine codeAny_mono ((F _ hKb (nsK hns)).run callerA [] s₁ H ⟨[.ref a],[]⟩ [.ref a] [.ref a] _ _ hr e0 (hbind s₁ (.ref a)) (.cons rfl .nil) (hsp H hO hS)) λr s' h=>?_;cases r with
  |error e=>exact (hCX H e s' h).elim
  |ok fl=>
   cases fl with
   |next=>exact False.elim h
   |brk=>exact False.elim h
   |cont=>exact False.elim h
   |ret u=>
    obtain ⟨v,H',os,bare,un,hok',r',q⟩:=h;have q':v=.bl true:=q;subst q';obtain rfl:u=Value.bool true:=r';refine ⟨rfl,OldK.of_keep λb o e=>?_,os,bare⟩;cases q:H b with
    |none=>exact un.keep b o e q (by intro z;exact absurd (show b∈([]:List Addr) from z) (by simp)) (by simp)
    |some u=>
     rcases hO b with z |⟨ob,xs,z⟩
     ·rw[q]at z;cases z
     ·have z2:=un.frzs b ob _ z;obtain ⟨e1,_⟩:=hok b _ z;obtain ⟨e2,_⟩:=hok' b _ z2;rw[e]at e1;cases e1;exact e2
 cases hk:K.lookup a with
 |some o=>
  -- the script is one of the module's own objects
  have e:=KX a o hk;rw[ha]at e;cases e;refine core (λ_=>none) (λ_=>.inl rfl) (.inr ⟨_,vs.toArray,_,hk,rfl,rfl,rfl,by rw[ar,lenV];exact hl,by simpa using rv⟩) (λb u z=>by have z':(none:Option HO)=some u:=z;cases z') (λb z=>absurd rfl z) λz=>absurd rfl z
 |none=>
  refine core (λb=>if b=a then some (.frz { cls:=.type "list",data:=.seq vs.toArray } (.lst (ns.map V.int))) else none) (λb=>?_) (.inl (.inr ⟨{ cls:=.type "list",data:=.seq vs.toArray },if_pos rfl⟩)) (λb u z=>?_) (λb z=>?_) λ_=>hk
  ·by_cases hb:b=a
   ·exact .inr ⟨_,_,if_pos hb⟩
   ·exact .inl (if_neg hb)
  ·by_cases hb:b=a
   ·have z':=(if_pos hb).symm.trans z;cases z';subst hb;exact ⟨ha,by rw[al];exact hl,vs,_,rv,ha⟩
   ·have z':=(if_neg hb).symm.trans z;cases z'
  ·by_cases hb:b=a
   ·exact hb
   ·exact absurd (if_neg hb) z
theorem Xv{l:PySem.W.OpenLaw}{n k:Nat}{q:Program}{loose:List Str}{XP:(Str->Option Value)->Heap->Prop}{YP:World->Heap->Prop}{d:DefRec}{K:Params->PySem.W.Frag}{CX:World->CXT}{sp:World->Sp}{x:Str}
  (hn:l.most=some n) (hn2:n<=sizeLine) (hdf:d.params.defaults=[]) (hr:Room k callerA)
  (hY:∀(w:World)(h:Heap),YP w h->(K w.params).In h)
  (F:∀(w:World)(mg:Str->Option Value)(fa:Addr)(h:Heap),(K w.params).In h->h.Ns mainGlobals mg->mg d.name=some (.ref fa)->
   ∃fd:FuncData,(∀(s:Shared)(u:Value),BindsTo s fd ⟨[u],[]⟩ [(x,u)])/\
    ∀base:Heap,(K w.params).In base->base.Ns mainGlobals mg->FnOk l.prog w (K w.params) mg base (CX w) k fa fd [x] (sp w))
  (hsp:∀(w:World)(H:Hp)(a:Addr)(ns:List Int),ns.length<=n->Only H->SqL (K w.params) H a (ns.map V.int)->sp w [.ref a] H (λv _=>v=.bl true) λ_ _ _=>False)
  (hCX:∀(w:World)(H:Hp)(s:Shared)(e:Value)(s':Shared),CX w [] H s (λ_ _ _=>False) e s'->False):
  PySem.W.WalkO q loose XP YP l.row.toRowW d [] (λf vs=>PySem.call f vs):=by
 refine Att.attach_call hn hdf λw s₀ s₁ mg mb fa o pm cd doc a vs ns G Y ho hd hcd hmg hobj hints hlen hg=>?_;have KX:=hY w _ Y;obtain ⟨fd,hb,hF⟩:=F w mg fa _ KX G.T.g hmg;exact Xu KX G.T.g G.T.b G.T.builtins G.T.nolimit hg hobj hints (cm hlen hn2) hr hF hb (λH hO hS=>hsp w H a ns hlen hO hS) λH e s'=>hCX w H s₁ e s'
def iU(s:Stmt):Arguments:=match s with
 |.FunctionDef _ a _ _ _ _ _ _ _ _=>a
 |_=>{ posonlyargs:=[],args:=[],vararg:=none,kwonlyargs:=[],kw_defaults:=[],kwarg:=none,defaults:=[] }
def aF(s:Stmt):List Stmt:=match s with
 |.FunctionDef _ _ b _ _ _ _ _ _ _=>b
 |_=>[]
def ao(s:Stmt):Scope:=match s with
 |.FunctionDef _ _ _ _ _ _ sc _ _ _=>sc
 |_=>{ kind:=.function,names:=[],isGenerator:=false,isCoroutine:=false }
abbrev CX0:CXT:=λ_ _ _ _ _ _=>False
structure Fun(K:PySem.W.Frag)(x qual:Str)(st:Stmt)(f:Addr)(fd:FuncData):Prop where
 ex:∃(oc:Value)(od:Option Addr)(kV doc pm:Value)(an:Option Addr)(cdv ct:Value)(osl:Array (Option Value)),
  fd=PySem.W.fnOf x qual (iU st) (aF st) (ao st) .none kV doc pm an cdv ct/\K.lookup f=some ⟨oc,od,.func fd,osl⟩/\PySem.W.codeIn K cdv qual=true
 kp:PySem.W.keepIn K (.ref f)=true
section
variable {P:Program} {w:World} {K:PySem.W.Frag} {mg:Str->Option Value} {base:Heap}
theorem Fun.binds{x qual:Str}{st:Stmt}{f:Addr}{fd:FuncData}{ps:List Str}(F:Fun K x qual st f fd)
  (h:∀(kV doc pm:Value)(an:Option Addr)(cdv ct:Value)(us:List Value),us.length=ps.length->bindArgs (PySem.W.fnOf x qual (iU st) (aF st) (ao st) .none kV doc pm an cdv ct) ⟨us,[]⟩=pure (ps.zip us)):Binds K fd ps []:=by
 obtain ⟨oc,od,kV,doc,pm,an,cdv,ct,osl,rfl,lk,hcd⟩:=F.ex;exact .all (h kV doc pm an cdv ct)
theorem Cy{x qual:Str}{st:Stmt}{f:Addr}{oc:Value}{od an:Option Addr}{osl:Array (Option Value)}{kV doc pm cdv ct:Value}(l:K.lookup f=some ⟨oc,od,.func (PySem.W.fnOf x qual (iU st) (aF st) (ao st) .none kV doc pm an cdv ct),osl⟩)
  (c:PySem.W.codeIn K cdv qual=true) (k:PySem.W.keepIn K (.ref f)=true):Fun K x qual st f (PySem.W.fnOf x qual (iU st) (aF st) (ao st) .none kV doc pm an cdv ct):=⟨⟨oc,od,kV,doc,pm,an,cdv,ct,osl,rfl,l,c⟩,k⟩
end
section
variable {X:Cx}
theorem pv (i:Nat) {x:Str} {pos:Pos} (hN:X.N[i]?=some x:=by rfl) (hv:Vis X.env.scope x:=by first |exact Or.inl rfl |exact Or.inr (Or.inl rfl) |exact Or.inr (Or.inr rfl)) (hd:(x==("__debug__":Str))=false:=by decide)
  (hcd:(x==("__classdict__":Str))=false:=by decide):PE X (.Name x pos) (Be i):=Bg hN hv hd hcd
end
end L2
set_option maxHeartbeats 4000000
set_option bootstrap.genMatcherCode false
set_option genSizeOf false
set_option genSizeOfSpec false
namespace L2
open PySem PySem.Spec PyProof.Rows
section
variable {X:Cx} {pins:List (Addr×Obj)} {σ:St} {H:Hp} {s:Shared} {h':Heap}
theorem Inv.turnedL{t':Nat}{ch:List Addr}(I:Inv X pins σ H s)(hf:∀b∈ch,eN X pins H b)(k:∀b o,b∉ch->s.heap.get? b=some o->h'.get? b=some o):
  Inv X pins σ H { s with heap:=h',toks:=t' }:=by
 have nit:∀b u,H b=some u->b∉ch:=λb u e z=>by
  have q:=(hf b z).1;rw[q]at e;cases e
 refine I.step (g':=s.gens) (d':=s.drawn) (ch:=ch) (λb hb=>?_) (λb o _ _ hc e _=>k b o hc e) (λb o _ _ hc e _=>⟨o.slots,k b o hc e⟩) (λ_ _ _ _ n=>n)
  (λb o hc e=>⟨o,k b o hc e⟩) (λ_ _ e=>e) (λ_ _ _ e=>e) (λb ps e=>⟨#[],by rw[e];simp⟩) (λm hm=>?_) (λb u e=>?_) I.bare
 ·obtain ⟨_,f1,_,f3,f4,f5⟩:=hf b hb;exact ⟨f3,f1,f4,f5⟩
 ·obtain ⟨o,es,ep,ho,r⟩:=hm;exact ⟨o,es,ep,k _ o (λz=>(hf _ z).2.1 rfl) ho,r⟩
 ·refine (I.hok b u e).stay (λc v hc q=>k c v ?_ q) (λ_ q=>q) λ_ _ q=>q;rcases hc with z |z
  ·rw[z];exact nit b u e
  ·exact nit c _ z
theorem Inv.track{T:Addr}{o:HO}(I:Inv X pins σ H s)(hT:eN X pins H T)(new:ObjOk X.prog X.w (upd H T o) s.heap T o):Inv X pins σ (upd H T o) s:=by
 have hn:=hT.1;have hok:HOk X.prog X.w (upd H T o) s.heap:=λb u e=>by
  by_cases hb:b=T
  ·subst hb;rw[cJ]at e;cases e;exact new
  ·rw[aJ hb]at e;exact (I.hok b u e).stay (λc v _ q=>q) (λc q=>by rw[aJ (bu q hn)];exact q) λc xs q=>by rw[aJ (bu q hn)];exact q
 obtain ⟨hp,g,d,tk,os⟩:=s;refine I.step (h':=hp) (g':=g) (d':=d) (t':=tk) (ch:=[T]) (λb hb=>?_) (λb o _ _ _ e _=>e) (λb o _ _ _ e _=>⟨o.slots,e⟩) (λb u hc _ n=>?_)
  (λb o _ e=>⟨o,e⟩) (λb xs e=>by rw[aJ (bu e hn)];exact e) (λb u v e=>by rw[aJ (bu e hn)];exact e) (λb ps e=>⟨#[],by rw[aJ (bu e hn),e];simp⟩) (λm hm=>hm) hok I.bare
 ·have e:b=T:=by simpa using hb
  subst e;obtain ⟨_,f1,_,f3,f4,f5⟩:=hT;exact ⟨f3,f1,f4,f5⟩
 ·rw[aJ (by simpa using hc)];exact n
end
def Its(x:Str):It:=⟨λi _=>i < x.cps.size,λi H v H'=>H'=H/\∃c,x.cps[i]?=some c/\v=.str ⟨#[c]⟩,λi _=>i=x.cps.size⟩
theorem Cz{prog:Program}{w:World}{A:Around}(hh:A.handled=none)(I:Addr)(x:Str)(t:Tok):
  Walks prog w A I [I] [I] x.cps.size (SignAt x) (λi h=>h.IsStrIter I (strIterType x) x t i):=by
 unfold strIterType;split
 ·exact Walks.strAscii hh I x t
 ·exact Walks.strWide hh I x t
theorem vO{P:Program}{w:World}{K:PySem.W.Frag}{tg:Expr}(it:Addr)(x:Str)(t:Tok):Turn P w K tg (Its x) [it] it (λi h=>h.IsStrIter it (strIterType x) x t i) where
 mem:=by simp
 obj:=λi h st b hb=>by
  have e:b=it:=by simpa using hb
  subst e;obtain ⟨o,e,c,d⟩:=st;exact ⟨o,e,λv z=>by rw[d]at z;cases z⟩
 keep:=λi h h' st k=>let ⟨o,ho,r⟩:=st;⟨o,k it (by simp) o ho,r⟩
 item:=by intro X hP hw hK hc i pins s σ H E I hf st hg;subst hP hw hK;obtain ⟨f0,f1,f2,f3,f4,f5⟩:=hf it (by simp);have W:=Cz (prog:=X.prog) (w:=X.w) (I.ok.hd hc) it x t;refine W.item i s _ _ hg st λv h' tk hv st' kk=>?_;obtain ⟨c,u,e,rfl⟩:=hv;have I1:Inv X pins σ H { s with heap:=h',toks:=tk }:=I.turned (λb o hb e=>kk b o (by simpa using hb) e) f0 f1 f3 f4 f5;obtain ⟨o,eo,cc,d⟩:=id st';exact ⟨_,rfl,qj (s:={ s with heap:=h',toks:=tk }) (n:=strIterType x) eo cc d (by unfold strIterType;split <;> decide) ⟨.str ⟨#[c]⟩,H,I1,⟨u,rfl⟩,⟨rfl,c,e,rfl⟩,st',λb hb=>(hf b hb).1⟩⟩
 done:=by intro X hP hw hK hc i pins s σ H E I hf st hg;subst hP hw hK;obtain ⟨f0,f1,f2,f3,f4,f5⟩:=hf it (by simp);have W:=Cz (prog:=X.prog) (w:=X.w) (I.ok.hd hc) it x t;have hg':i=x.cps.size:=hg;subst hg';exact W.done s _ _ st λh' tk kk=>⟨rfl,I.turned (λb o hb e=>kk b o (by simpa using hb) e) f0 f1 f3 f4 f5⟩
 self:=λA i s Q E st h=>by
  unfold strIterType at st;split at st
  ·exact wpAny_pyIter_striter_ascii st h
  ·exact wpAny_pyIter_striter_wide st h
noncomputable def cG(env:Env):List (Str×NameKind)->List (Str×Addr)->List (Str×Addr)
 |[],cs=>cs
 | (n,k)::r,cs=>cG env r (if (k==.free)=true then (match env.cells.lookup n with |some c=>(n,c)::cs |none=>cs) else cs)
theorem CG{env:Env}:∀{l:List (Str×NameKind)}{cs:List (Str×Addr)},(∀x c,cs.lookup x=some c->env.cells.lookup x=some c)->∀x c,(cG env l cs).lookup x=some c->env.cells.lookup x=some c
 |[],_,h,x,c,e=>h x c e
 | (n,k)::r,cs,h,x,c,e=>by
  refine CG (l:=r) (cs:=_) ?_ x c e;intro y d q;by_cases hk:(k==NameKind.free)=true
  ·rw[if_pos hk]at q;cases hn:env.cells.lookup n with
   |none=>rw[hn]at q;exact h y d q
   |some c'=>
    rw[hn]at q;simp only[List.lookup_cons]at q;cases hy:y==n with
    |true=>
     rw[hy]at q;have e1:y=n:=eq_of_beq hy;rw[e1,hn];exact q
    |false=>rw[hy]at q;exact h y d q
  ·rw[if_neg hk]at q;exact h y d q
theorem CJ{env:Env}{x:Str}:∀{l:List (Str×NameKind)}{cs:List (Str×Addr)},(cs.lookup x).isSome=true->((cG env l cs).lookup x).isSome=true
 |[],_,h=>h
 | (n,k)::r,cs,h=>by
  refine CJ (l:=r) (cs:=_) ?_;by_cases hk:(k==NameKind.free)=true
  ·rw[if_pos hk];cases hn:env.cells.lookup n with
   |none=>exact h
   |some c'=>
    simp only[List.lookup_cons];cases hy:x==n with
    |true=>rfl
    |false=>exact h
  ·rw[if_neg hk];exact h
theorem CK{env:Env}{x:Str}(hx:(env.cells.lookup x).isSome=true):∀{l:List (Str×NameKind)}{cs:List (Str×Addr)},(x,NameKind.free)∈l->((cG env l cs).lookup x).isSome=true
 | (n,k)::r,cs,h=>by
  rcases aT.mp h with e |h
  ·cases e;refine CJ (l:=r) (cs:=_) ?_;rw[if_pos (show (NameKind.free==NameKind.free)=true by decide)];obtain ⟨c,hc⟩:=cp.mp hx;rw[hc];simp
  ·exact CK hx (l:=r) h
theorem CN{scope:Scope}{env:Env}(h:∀y∈scope.names,y.2=NameKind.free->(env.cells.lookup y.1).isSome=true):closureFor scope env=pure (cG env scope.names []):=by
 simp only[closureFor];generalize ([]:List (Str×Addr))=cs;generalize scope.names=l at h;induction l generalizing cs with
 |nil=>rfl
 |cons y r ih=>
  obtain ⟨n,k⟩:=y;have ih':=λcs=>ih cs λy hy=>h y (bi _ hy);rw[List.forIn_cons];by_cases hk:(k==NameKind.free)=true
  ·have hk':k=NameKind.free:=eq_of_beq hk;obtain ⟨c,hc⟩:=cp.mp (h (n,k) bS hk');have e1:cG env ((n,k)::r) cs=cG env r ((n,c)::cs):=by
    rw[cG,if_pos hk];show cG env r (match env.cells.lookup n with |some c=>(n,c)::cs |none=>cs)=_;have hc':env.cells.lookup n=some c:=hc;rw[hc']
   have e2:cellOf env n=pure c:=by unfold cellOf;have hc':env.cells.lookup n=some c:=hc;rw[hc']
   rw[e1,<-ih' ((n,c)::cs)];simp only[hk,if_true,e2];rfl
  ·have e1:cG env ((n,k)::r) cs=cG env r cs:=by rw[cG,if_neg hk]
   rw[e1,<-ih' cs];simp only[hk,if_false];rfl
theorem vP{env:Env}{x:Str}:∀{names:List (Str×NameKind)},
  (names.map λ(n,k)=>if (k==NameKind.free&&env.scope.kind==.function&&env.kindOf n==some .cell) then (n,NameKind.cell) else (n,k)).lookup x=
   (names.lookup x).map λk=>if (k==NameKind.free&&env.scope.kind==.function&&env.kindOf x==some .cell)=true then NameKind.cell else k
 |[]=>rfl
 | (n,k)::r=>by
  have ih:=@vP env x r;rw[bn];have hh:∀(c:Prop)[Decidable c],(if c then (n,NameKind.cell) else (n,k))=(n,if c then NameKind.cell else k):=λc _=>by split <;> rfl
  show List.lookup x ((if (k==NameKind.free&&env.scope.kind==.function&&env.kindOf n==some .cell)=true then (n,NameKind.cell) else (n,k))::_)=_;rw[hh];simp only[List.lookup_cons];cases hx:x==n with
  |true=>
   have e1:x=n:=eq_of_beq hx;subst e1;rfl
  |false=>exact ih
abbrev Cx.comp(X:Cx)(N':List Str)(scope:Scope)(cl:List (Str×Addr))(C:Addr)(s₁:Shared)(H₁:Hp)(fp:List Addr)(pn:List (Addr×Obj)):Cx where
 prog:=X.prog
 w:=X.w
 K:=X.K
 mg:=X.mg
 base:=X.base
 A:=X.A
 N:=N'
 s₀:=s₁
 H₀:=H₁
 env:=compEnvC scope cl C X.env
 outer:=X.stack
 stack:=X.stack
 ex:=fp
 fn:=λ_=>false
 calm:=X.calm
 pn:=pn
 xe:=λ_ _=>False
def PIf(X:Cx)(ifs:List Expr)(t:TT):Prop:=
 ∀(pins:List (Addr×Obj))(s:Shared)(σ:St)(H:Hp)(Q:Bool->Hp->Prop),Inv X pins σ H s->t σ H Q->
  wpAny (model X.prog X.w) X.A (forIn ifs true λc r=>if r=true then do let ok <-isTrue c X.env (eval c X.env);pure (ForInStep.yield ok) else pure (ForInStep.yield r)) (TP X pins σ Q) X.xe s
def Xw:TT:=λ_ H Q=>Q true H
theorem Xx{X:Cx}:PIf X [] Xw:=λ_ _ _ H _ I h=>wpAny_tests_nil ⟨H,I,h⟩
theorem Xy{X:Cx}{c:Expr}{t:TT}(h:PT X c t):PIf X [c] t:=λpins s σ H Q I q=>wpAny_tests_one (h pins s σ H Q I q)
def dN(cap:List (Option Nat))(σ:St):St:=cap.map λo=>match o with |none=>none |some j=>(σ[j]?).join
noncomputable def Caps(X:Cx)(scope:Scope):List Str->List (Option Nat)->Prop
 |[],[]=>True
 |_::N',none::cap=>Caps X scope N' cap
 |x::N',some j::cap=>(X.N[j]?=some x/\scope.names.lookup x=some NameKind.free)/\Caps X scope N' cap
 |_,_=>False
theorem Caps.len{X:Cx}{scope:Scope}:∀{N':List Str}{cap:List (Option Nat)},Caps X scope N' cap->cap.length=N'.length
 |[],[],_=>rfl
 |_::N',none::cap,h=>by
  have:=Caps.len (N':=N') (cap:=cap) h;simp[this]
 |_::N',some _::cap,h=>by
  have:=Caps.len (N':=N') (cap:=cap) h.2;simp[this]
 |[],_::_,h=>False.elim h
 |_::_,[],h=>False.elim h
theorem Caps.at{X:Cx}{scope:Scope}:∀{N':List Str}{cap:List (Option Nat)}{i:Nat}{x:Str}{v:V}{σ:St},Caps X scope N' cap->N'[i]?=some x->(dN cap σ)[i]?=some (some v)->
  ∃j:Nat,X.N[j]?=some x/\scope.names.lookup x=some NameKind.free/\σ[j]?=some (some v)
 |[],[],i,x,v,σ,_,e,_=>by simp at e
 |y::N',none::cap,0,x,v,σ,h,e,q=>by simp[dN]at q
 |y::N',some j::cap,0,x,v,σ,h,e,q=>by
  have e1:y=x:=by simpa using e
  subst e1;have q1:(σ[j]?).join=some v:=by simpa [dN] using q
  refine ⟨j,h.1.1,h.1.2,?_⟩;cases z:σ[j]? with
  |none=>rw[z]at q1;cases q1
  |some o=>rw[z]at q1;exact eR some q1
 |y::N',none::cap,i+1,x,v,σ,h,e,q=>Caps.at (N':=N') (cap:=cap) (i:=i) h (by simpa using e) (by simpa [dN] using q)
 |y::N',some _::cap,i+1,x,v,σ,h,e,q=>Caps.at (N':=N') (cap:=cap) (i:=i) h.2 (by simpa using e) (by simpa [dN] using q)
 |[],_::_,_,_,_,_,h,_,_=>False.elim h
 |_::_,[],_,_,_,_,h,_,_=>False.elim h
def CP(X:Cx)(N':List Str)(scope:Scope)(tg:Expr)(ifs:List Expr)(elt:Expr)(J:It)(σ0:St)(H1:Hp)(Q:VK):Prop:=
 ∃W:Nat->Nat->List V->St->Hp->Prop,(∃m,W 0 m [] σ0 H1)/\∀i m ys σ' H',W i m ys σ' H'->
  (J.stop i H'/\ys.length<=sizeLine/\∀D,H' D=none->Q (.ref D) (upd H' D (.lst ys)))\/
  (J.go i H'/\ys.length < sizeLine/\∀cl C s₁ H₁ fp pn,∃g tt te,PG (X.comp N' scope cl C s₁ H₁ fp pn) tg g/\PIf (X.comp N' scope cl C s₁ H₁ fp pn) ifs tt/\PE (X.comp N' scope cl C s₁ H₁ fp pn) elt te/\
   ∀x H2,J.yld i H' x H2->g x σ' H2 λσ3 H3=>tt σ3 H3 λb H4=>if b=true then te σ3 H4 λy H5=>∃m',m' < m/\W (i+1) m' (ys++[y]) σ3 H5 else ∃m',m' < m/\W (i+1) m' ys σ3 H4)
def vQ(X:Cx)(N':List Str)(scope:Scope)(tg:Expr)(ifs:List Expr)(elt:Expr)(wi:TI)(cap:List (Option Nat)):TE:=λσ H Q=>wi σ H λJ H1=>CP X N' scope tg ifs elt J (dN cap σ) H1 Q
section
variable {prog:Program} {w:World} {A:Around} {R:Result->Shared->Prop} {s:Shared}
theorem Xz{elt target iter:Expr}{ifs:List Expr}{scope:Scope}{pos:Pos}{it acc:Value}{env:Env}(I:Nat->Shared->Prop)
  (turn:∀n s,I n s->wpAny (model prog w) A (pyNext it) (λr s₁=>match r with
   |none=>R (.ok .next) s₁
   |some v=>wpAny (model prog w) A (letOwnedTupleGo target it v) (λ_ s₁'=>wpAny (model prog w) A (assign target env v) (λ_ s₂=>
     wpAny (model prog w) A (forIn ifs true λc r=>if r=true then do let ok <-isTrue c env (eval c env);pure (ForInStep.yield ok) else pure (ForInStep.yield r)) (λok s₃=>
      if ok=true then wpAny (model prog w) A (eval elt env) (λx s₄=>
       wpAny (model prog w) A (call (.builtin "list.append") [acc,x]) (λ_ s₅=>∃m,m < n/\I m s₅) (λ_ _=>False) s₄) (λ_ _=>False) s₃
      else ∃m,m < n/\I m s₃) (λ_ _=>False) s₂) (λ_ _=>False) s₁') (λ_ _=>False) s₁) (λ_ _=>False) s)
  (n:Nat) (h:I n s):codeAny (model prog w) A (.compLoop (.ListComp elt [⟨target,iter,ifs,0⟩] scope pos) 0 it acc env) R s:=by
 refine codeAny_loop rfl I (λn s hI=>?_) n h;show wpAny _ A ((compTurn (.ListComp elt [⟨target,iter,ifs,0⟩] scope pos) 0 it acc env).onRaise (λx=>do noteFrame x env;theTreesLotGoes x)) _ _ s;refine wpAny_noted ?_;rw[compTurn_list];refine ag (wpAny_standAt (ag (c9 (turn n s hI) (λr s₁ h₁=>?_) λ_ _ h'=>False.elim h')));cases r with
 |none=>exact bb h₁
 |some v=>
  refine ag (c9 h₁ (λ_ s₁' h₁'=>?_) λ_ _ h'=>False.elim h');refine ag (c9 h₁' (λ_ s₂ h₂=>ag (c9 h₂ (λok s₃ h₃=>?_) λ_ _ h'=>False.elim h')) λ_ _ h'=>False.elim h');cases ok with
  |false=>exact bb ⟨rfl,h₃⟩
  |true=>
   exact ag (ag (c9 h₃ (λx s₄ h₄=>ag (c9 h₄ (λ_ s₅ h₅=>bb (bb ⟨rfl,h₅⟩)) λ_ _ h'=>False.elim h')) λ_ _ h'=>False.elim h'))
end
abbrev tx(l:List Nat):Str:=⟨l.toArray⟩
theorem bT(l:List Nat):(tx l).length=l.length:=by simp[Str.length]
theorem qy(a b:List Nat):tx a++tx b=tx (a++b):=by show (⟨a.toArray++b.toArray⟩:Str)=⟨(a++b).toArray⟩;simp
theorem CQ{a b:List Nat}(h:tx a=tx b):a=b:=by have:=eR (λx:Str=>x.cps.toList) h;simpa using this
theorem vR(x:Str):x=tx x.cps.toList:=by cases x;simp
section
variable {X:Cx}
theorem CW:∀{ys:List Str}{us:List Value},Vals (ys.map V.str) us->StrsAre us ys
 |[],us,r=>by
  rw[dP]at r;cases r;exact .nil
 |y::ys,us,r=>by
  rw[bn]at r;cases r with
  |cons r1 r2=>
   obtain ⟨t,e⟩:=r1;subst e;exact .cons y t (CW r2)
noncomputable def rJoin(K:PySem.W.Frag):V->List V->Hp->VK->Prop:=λx vs H Q=>∃z p ys,x=.str z/\vs=[.ref p]/\SqL K H p (ys.map V.str)/\(ys.map (·.length)).sum+ys.length * z.length<=16777216/\Q (.str (Str.join z ys)) H
theorem XC:MtR X "str.join" (rJoin X.K):=by intro pins s σ H x xs v us Q I rx rs h;obtain ⟨z,p,ys,rfl,rfl,hq,hb,q⟩:=h;obtain ⟨t,rfl⟩:=rx;obtain ⟨u,rfl,ru⟩:=vals1 rs;cases ru;obtain ⟨its,rv,pl,hz⟩:=I.list hq;refine join_list pl.isList (by simpa using CW rv) hb λt' k=>⟨.str _,H,I.tok _,⟨_,rfl⟩,?_⟩;have e:Txt.join z ys=Str.join z ys:=StrLaws.glued_eq_join z ys;rw[e];exact q
noncomputable def XD(K:PySem.W.Frag):List V->Hp->VK->Prop:=λxs H Q=>∃x n t b,xs=[x,.ty n]/\TyOf K H x t/\PySem.W.kitOne K t (.type n)=some b/\Q (.bl b) H
theorem XF:bF X (.builtin "isinstance") (XD X.K):=by intro pins s σ H xs us Q I r h;obtain ⟨x,n,t,b,rfl,ty,e,q⟩:=h;obtain ⟨u,w',rfl,rx,ry⟩:=vals2 r;cases ry;exact Wm I rx ty e λtk=>⟨.bl b,H,I.tok _,rfl,q⟩
theorem XH:bootBuiltins "bool"=some (.type "bool"):=by decide +kernel
theorem CZ:bootBuiltins "int"=some (.type "int"):=by decide +kernel
theorem Dc:bootBuiltins "str"=some (.type "str"):=by decide +kernel
theorem Dd:bootBuiltins "list"=some (.type "list"):=by decide +kernel
theorem XJ:bootBuiltins "isinstance"=some (.builtin "isinstance"):=by decide +kernel
theorem XM {x:Str} {T:String} {pos:Pos} (hg:Gl X x) (hm:X.mg x=none) (hv:bootBuiltins x=some (.type T)) (hn:x≠"__name__":=by decide) (hd:(x==("__debug__":Str))=false:=by decide):PE X (.Name x pos) (tC (.ty T)):=
 Uq hg hm hv (v:=.ty T) rfl hn hd
theorem XN:OpR X (binaryOp .Mult) (λx y H Q=>∃i n,x=.str i/\y=.int n/\MulOk i n/\Q (.str (Txt.mul i n)) H):=by intro pins s σ H x y v u Q I rx ry h;obtain ⟨i,n,rfl,rfl,hok,q⟩:=h;obtain ⟨t,rfl⟩:=rx;obtain ⟨t',rfl⟩:=ry;exact SB.mul hok λt' k=>⟨.str _,H,I.tok _,⟨_,rfl⟩,q⟩
end
def vU(X:Cx)(st:List Stmt)(t:TS):Prop:=
 ∀(pins:List (Addr×Obj))(s:Shared)(σ:St)(H:Hp)(D:Ends),1<=s.toks->Inv X pins σ H s->t D σ H->wpAny (model X.prog X.w) X.A (execs st X.env) (SP X pins D) X.xe s
def PE1(X:Cx)(e:Expr)(t:TE):Prop:=
 ∀(pins:List (Addr×Obj))(s:Shared)(σ:St)(H:Hp)(Q:VK),1<=s.toks->Inv X pins σ H s->t σ H Q->wpAny (model X.prog X.w) X.A (eval e X.env) (EP X pins σ Q) X.xe s
theorem XQ{X:Cx}{e:Expr}{te:TE}{pos:Pos}(he:PE1 X e te):vU X [.Return (some e) pos] (Bl te):=by intro pins s σ H D h1 I h;refine wpAny_execs_cons (wpAny_Return_some (thn (he pins s σ H _ h1 I h) λv s1 ⟨x,H1,I1,r1,q1⟩=>?_));exact ⟨x,σ,H1,I1,r1,q1⟩
theorem vV{c d:Nat}:∀l:List Nat,c∉l->l.map (λa=>if a=c then d else a)=l
 |[],_=>rfl
 |a::r,h=>by
  have h1:a≠c:=λe=>h (by rw[e];exact bS);rw[bn,if_neg h1,vV r λz=>h (bi _ z)]
theorem De(c d:Nat):∀parts:List Str,(∀p∈parts,c∉p.cps.toList)->(Str.join ⟨#[c]⟩ parts).cps.toList.map (λa=>if a=c then d else a)=(Str.join ⟨#[d]⟩ parts).cps.toList
 |[],_=>rfl
 |[x],h=>by
  simp only[Str.join];exact vV _ (h x bS)
 |x::y::r,h=>by
  have ih:=De c d (y::r) λp hp=>h p (bi _ hp);have e:∀z:Str,Str.join z (x::y::r)=x++z++Str.join z (y::r):=λz=>by simp only[Str.join]
  have ap:∀u v:Str,(u++v).cps.toList=u.cps.toList++v.cps.toList:=λu v=>by
   show (u.cps++v.cps).toList=_;simp
  rw[e,e,ap,ap,ap,ap,dv,dv,ih,vV _ (h x bS)];simp
theorem XS(l:List Nat)(c d:Nat):Txt.replace (tx l) (tx [c]) (tx [d])=tx (l.map λa=>if a=c then d else a):=by
 have e:(Txt.replace (tx l) ⟨#[c]⟩ ⟨#[d]⟩).cps.toList=l.map λa=>if a=c then d else a:=by rw[StrLaws.replace_one,<-De c d _ (StrLaws.split_free (tx l) c),StrLaws.join_split]
 rw[vR (Txt.replace (tx l) (tx [c]) (tx [d]))];exact eR tx e
section
variable {X:Cx}
theorem XX{o:Expr}{to:TE}{y z:Str}{ky kz:Nat}{py pz apos cpos:Pos}(ho:PE X o to)(hyz:(y==z)=false)
  (hbase:attributeBase o "replace" X.env (eval o X.env)=eval o X.env:=by rfl)
  (hfew:((backTo cpos (starEach [.Constant (.str y) ky py,.Constant (.str z) kz pz] X.env)).all (λx=>!x.1)&&(backToKw cpos (keywordEach [] X.env)).all (λx=>x.1.isSome)
  &&decide (([.Constant (.str y) ky py,.Constant (.str z) kz pz]:List Expr).length+([]:List Keyword).length+(if ([]:List Keyword).isEmpty then 0 else 1) < 30))=true:=by rfl)
  (hline:(apos.endLine==cpos.line)=true:=by rfl):
  PE1 X (.Call (.Attribute o "replace" apos) [.Constant (.str y) ky py,.Constant (.str z) kz pz] [] cpos)
   (λσ H Q=>to σ H λv H1=>∃x,v=.str x/\x.length+(x.length+1) * z.length<=16777216/\Q (.str (Txt.replace x y z)) H1):=by
 intro pins s σ H Q h1 I h;refine wpAny_Call_method_late hbase hfew hline rfl (c9 (wpAny_toks_of (n:=1) h1 (ho pins s σ H _ I h)) (λv s1 h2=>?_) (λ_ _ e=>e.2));obtain ⟨t1,v',H1,I1,r1,x,e,hb,q⟩:=h2;subst e;obtain ⟨t,rfl⟩:=r1;refine ⟨"str","str.replace",F.plainAttrs_str,F.slot_str_replace,F.type_str_replace,typeIs_str _ _ _,(λ_ e=>nomatch e),?_⟩;refine Calls.callWith_builtin (by rfl) (Calls.evalArgs_plain ?_);show wpAny _ _ (spliced [(false,eval (.Constant (.str y) ky py) X.env),(false,eval (.Constant (.str z) kz pz) X.env)]) _ _ s1;refine Calls.spliced_cons (Calls.Constant_str (Calls.spliced_cons (Calls.Constant_str (Calls.spliced_nil ?_))));exact SC.replace (by show @Ne Nat s1.toks 0;omega) (by show @Ne Nat (s1.toks+1) 0;omega) (by show @Ne Nat s1.toks (s1.toks+1);omega) hyz hb λt' k=>⟨.str _,H1,I1.tok _,⟨_,rfl⟩,q⟩
end
theorem X3{CX:CXT}{P:Program}{w:World}{K:PySem.W.Frag}{mg:Str->Option Value}{base:Heap}{k:Nat}{f:Addr}{name qual:Str}{params:Arguments}{body:List Stmt}{scope:Scope}{dV kV doc pm cdv ct oc:Value}{an od:Option Addr}
  {osl:Array (Option Value)} {N:List Str} {x:Str} {sp:Sp} (lk:K.lookup f=some ⟨oc,od,.func (PySem.W.fnOf name qual params body scope dV kV doc pm an cdv ct),osl⟩) (hcd:PySem.W.codeIn K cdv qual=true) (S:FnScope N [x] scope)
  (hx:scope.names.lookup x=some .local) (hnc:∀y∈scope.names,y.2≠NameKind.cell) (hcf:∀n,cellsFrom n scope.names []=[])
  (len:∀vs H Q E,sp vs H Q E->vs.length=[x].length)
  (hbody:∀(A:Around)(outer:List Env)(s:Shared)(H:Hp)(vs:List V)(Q:VK)(E:XK),Room k (A.deeper (envOfC qual scope s.heap.objs.size f cdv))->sp vs H Q E->
   ∃t,vU (cU CX P w K mg base N qual scope f cdv A outer s H E) body t/\t { nx:=λ_ H'=>Q .non H',rt:=Q } (start N vs) H):
  FnOk P w K mg base CX (k+1) f (PySem.W.fnOf name qual params body scope dV kV doc pm an cdv ct) [x] sp:=by
 refine ⟨len,λA outer s H args us vs Q E hr e0 hb r hsp=>?_⟩;have hl:=len _ _ _ _ hsp;have KX:K.In s.heap:=e0.mod.kin.keeps λb o e=>(e0.bs b o e).1;have lim:s.heap.NoLimit:=e0.mod.nolimit.keeps λb o e=>(e0.bs b o e).1;obtain ⟨u,rfl⟩:∃u,us=[u]:=by
  have h2:=r.length;rw[hl]at h2;match us,h2 with
  |[u],_=>exact ⟨u,rfl⟩
 refine codeAny_call_function hr.depth (KX _ _ lk) rfl S.co S.gen rfl (PySem.W.codeRec_of KX hcd) (hb _ _ _ _ ?_);refine wpAny_newFunctionEnv (binds:=[x].zip [u]) hnc (λy hy=>?_) (λh' hns hsb=>?_) S.kind
 ·have e:y=(x,u):=by simpa using hy
  rw[e];exact hx
 have envEq:newEnv scope s.heap.objs.size mainGlobals [] (qual++Str.ofString ".<locals>.") (some f) cdv none builtinsNs=envOfC qual scope s.heap.objs.size f cdv:=by unfold envOfC newEnv;rw[hcf]
 have kp:∀b o,s.heap.get? b=some o->h'.get? b=some o:=λb o e=>hsb.extBut b o (ck (ax e)) (ah _ e);have mEq:bindL (envOfC qual scope s.heap.objs.size f cdv).kindOf ([x].zip [u]) (λ_=>none)=λy=>(([x].zip [u]).reverse).lookup y:=by
  funext y;have hk:(envOfC qual scope s.heap.objs.size f cdv).kindOf x=some .local:=hx;show bindL (envOfC qual scope s.heap.objs.size f cdv).kindOf [(x,u)] (λ_=>none) y=List.lookup y [(x,u)];unfold bindL;rw[if_pos hk];unfold bindL;by_cases hy:y=x
  ·subst hy;simp
  ·have:(y==x)=false:=by simpa using hy
   simp[hy,List.lookup_cons,this]
 have xx:InCallC s s.heap.objs.size (bindL (envOfC qual scope s.heap.objs.size f cdv).kindOf ([x].zip [u]) λ_=>none) (cellsFrom (s.heap.objs.size+1) scope.names []) (bindC (envOfC qual scope s.heap.objs.size f cdv).kindOf ([x].zip [u]) λ_=>none)
   { s with heap:=h',toks:=s.toks+([x].zip [u]).length }:=by
  rw[mEq,hcf];exact ⟨⟨⟨h',_,rfl⟩,hns,kp,aw _⟩,(λn c e=>by simp at e),List.Pairwise.nil,(λn c e=>nomatch e)⟩
 show _/\codeAny (model P w) A (.func body (newEnv scope s.heap.objs.size mainGlobals [] (qual++Str.ofString ".<locals>.") (some f) cdv none builtinsNs)) _ _;rw[envEq];refine ⟨lim.keeps kp,codeAny_func ?_⟩;obtain ⟨t,ht,hq⟩:=hbody A outer s H vs Q E (hr.deeper _) hsp;have I:Inv (cU CX P w K mg base N qual scope f cdv A outer s H E) [] (start N vs) H { s with heap:=h',toks:=s.toks+([x].zip [u]).length }:=BX S hr.hd e0 hl r xx;refine c9 (ht [] _ (start N vs) H _ (Nat.le_add_left 1 s.toks) I hq) (λfl s' hs=>?_) λe s' hs=>hs;have fin:∀{σ':St}{H':Hp}{v:V}{u:Value},Inv (cU CX P w K mg base N qual scope f cdv A outer s H E) [] σ' H' s'->RelV v u->Q v H'->CE outer P w H s Q u s':=
  λ{σ' H' v u} J rv q=>⟨v,H',J.os,J.bare,J.base,J.hok,rv,q⟩
 cases fl with
 |ret u=>
  obtain ⟨v,σ',H',J,rv,q⟩:=hs;exact fin J rv q
 |next=>
  obtain ⟨σ',H',J,q⟩:=hs;exact fin (v:=V.non) (u:=Value.none) J rfl q
 |brk=>
  obtain ⟨_,_,_,q⟩:=hs;exact False.elim q
 |cont=>
  obtain ⟨_,_,_,q⟩:=hs;exact False.elim q
theorem Fun.ok1{P:Program}{w:World}{K:PySem.W.Frag}{mg:Str->Option Value}{base:Heap}{x qual:Str}{st:Stmt}{f:Addr}{fd:FuncData}{N:List Str}{y:Str}{k:Nat}{sp:Sp}(F:Fun K x qual st f fd)(S:FnScope N [y] (ao st))
  (hx:(ao st).names.lookup y=some .local) (hnc:∀z∈(ao st).names,z.2≠NameKind.cell) (hcf:∀n,cellsFrom n (ao st).names []=[]) (len:∀vs H Q E,sp vs H Q E->vs.length=[y].length)
  (hbody:∀(cdv:Value)(A:Around)(outer:List Env)(s:Shared)(H:Hp)(vs:List V)(Q:VK)(E:XK),Room k (A.deeper (envOfC qual (ao st) s.heap.objs.size f cdv))->sp vs H Q E->
   ∃t,vU (cU CX0 P w K mg base N qual (ao st) f cdv A outer s H E) (aF st) t/\t { nx:=λ_ H'=>Q .non H',rt:=Q } (start N vs) H):FnOk P w K mg base CX0 (k+1) f fd [y] sp:=by
 obtain ⟨oc,od,kV,doc,pm,an,cdv,ct,osl,rfl,lk,hcd⟩:=F.ex;exact X3 lk hcd S hx hnc hcf len λA outer s H vs Q E hr hsp=>hbody cdv A outer s H vs Q E hr hsp
open Builtin Builtin.Str
theorem X4{prog:Program}{w:World}{A:Around}(hh:A.handled=none)(it:Addr)(x:Str)(t:Tok):
  Draws prog w A it [it] x.cps.size (λi v=>∃c u,x.cps[i]?=some c/\v=.str ⟨#[c]⟩ u) (λi h=>h.IsStrIter it (strIterType x) x t i):=by
 unfold strIterType;split
 ·exact Draws.strAscii hh it x t
 ·exact Draws.strWide hh it x t
structure ZApart(z TI TO i1 i2:Addr):Prop where
 TIz:TI≠z
 TOz:TO≠z
 i1z:i1≠z
 i2z:i2≠z
 TITO:TI≠TO
 TIi1:TI≠i1
 TIi2:TI≠i2
 TOi1:TO≠i1
 TOi2:TO≠i2
 i12:i1≠i2
section
variable {X:Cx}
theorem Df:∀{bs:List Bool}{us:List Value}{i:Nat}{v:Value},Vals (bs.map V.bl) us->us[i]?=some v->∃b,bs[i]?=some b/\v=.bool b
 |[],us,i,v,r,e=>by
  rw[dP]at r;cases r;simp at e
 |b::bs,us,i,v,r,e=>by
  rw[bn]at r;cases r with
  |cons r1 r2=>
   cases i with
   |zero=>
    cases (show _=Value.bool b from r1);exact ⟨b,rfl,by simpa using e.symm⟩
   |succ i=>exact Df (i:=i) r2 (by simpa using e)
theorem X5:bootBuiltins "all"=some (.builtin "all"):=by decide +kernel
theorem X6:bootBuiltins "zip"=some (.type "zip"):=by decide +kernel
theorem all_range(bs:List Bool)(n:Nat)(hn:n=bs.length):((List.range n).all λi=>(bs[i]?).getD true)=bs.all id:=by
 subst hn;rw[e7,b9,b9];constructor
 ·intro h b hb;obtain ⟨i,hi,e⟩:=List.mem_iff_getElem.mp hb;have:=h i (List.mem_range.mpr hi);rw[aI hi,e]at this;simpa using this
 ·intro h i hi;have hi':=List.mem_range.mp hi;rw[aI hi'];simpa using h _ (cw hi')
theorem X7 (hc:X.calm=true):bF X (.builtin "all") (λxs H Q=>∃(p:Addr) (bs:List Bool),xs=[.ref p]/\SqL X.K H p (bs.map V.bl)/\Q (.bl (bs.all id)) H):=by
 intro pins s σ H xs us Q I r h;obtain ⟨p,bs,rfl,hq,q⟩:=h;obtain ⟨u,rfl,ru⟩:=vals1 r;cases ru;obtain ⟨its,rv,pl,hz⟩:=I.list hq;have hl:=pl.isList;have hlt:p < s.heap.objs.size:=by obtain ⟨_,e,_⟩:=hl;exact ax e
 refine call_all_walk (wpAny_pyIter_list hl ?_);refine ⟨s.heap.objs.size,[s.heap.objs.size,p],[s.heap.objs.size],its.toArray.size,_,_,λi=>(bs[i]?).getD true,rfl,Walks.list (A:=X.A.in1) (I.ok.hd hc) _ p (ck hlt) its.toArray,
  ⟨⟨_,ba _ rfl,rfl,rfl⟩,hl.push _⟩,λi v s' Q' E' hP hQ=>?_,λh' tk hk=>?_⟩
 ·obtain ⟨b,e,rfl⟩:=Df rv (i:=i) (v:=v) (by simpa using hP);simp only[e,Option.getD_some]at hQ;exact eg hQ
 ·have e:=all_range bs its.toArray.size (by rw[ar,<-rv.length,al]);rw[e];exact ⟨.bl _,H,I.kept (λb o q=>hk b o (λhm=>by rw[a9.mp hm]at q;exact d5 _ (ax q)) (ah _ q)),rfl,q⟩
theorem X8:OpR X (compareOp .Is) (λx y H Q=>∃i j,x=.bl i/\y=.bl j/\Q (.bl (i==j)) H):=by intro pins s σ H x y v u Q I rx ry h;obtain ⟨i,j,rfl,rfl,q⟩:=h;cases rx;cases ry;exact is_bool ⟨.bl _,H,I,rfl,q⟩
theorem Yb:bF X (.type "int") (λxs H Q=>∃z n,xs=[.str z]/\PySem.intText? z=some n/\z.length<=640/\Q (.int n) H):=by intro pins s σ H xs us Q I r h;obtain ⟨z,n,rfl,hn,hl,q⟩:=h;obtain ⟨u,rfl,t,rfl⟩:=vals1 r;exact PySem.W.KIN.call_text hn hl ⟨.int n,H,I.tok _,⟨_,rfl⟩,q⟩
noncomputable def Yc:V->Option Int->Option Int->Hp->VK->Prop:=λx lo hi H Q=>∃z,x=.str z/\z.length<=sizeLine/\Q (.str (Txt.slice z lo hi)) H
theorem Yd:SlR X Yc:=by
 intro pins s σ H x v vl vu lo hi sl Q I rx hs pl pu h;obtain ⟨z,rfl,hz,q⟩:=h;obtain ⟨t,rfl⟩:=rx;refine ⟨"str",_,slot_str_getitem.lookup,typeIs_str _ _ _,?_⟩;obtain ⟨l,el,e1⟩:∃l:Option (Int×Tok),vl=partValue l/\l.map (·.1)=lo:=by
  cases pl with
  |none=>exact ⟨none,rfl,rfl⟩
  |int i t=>exact ⟨some (i,t),rfl,rfl⟩
 obtain ⟨u,eu,e2⟩:∃u:Option (Int×Tok),vu=partValue u/\u.map (·.1)=hi:=by
  cases pu with
  |none=>exact ⟨none,rfl,rfl⟩
  |int i t=>exact ⟨some (i,t),rfl,rfl⟩
 subst el eu e1 e2;refine wpAny_getItem_str_slice (l:=l) (u:=u) (st:=none) hs rfl ?_;unfold sliceMade;unfold Txt.slice at q;show (if ((1:Int)==1&&(slicePicked z l u none).length==z.length)=true then Made.val (.str z t) else Made.str ⟨((slicePicked z l u none).filterMap (z.cps[·]?)).toArray⟩).post _ _;have ep:slicePicked z l u none=Builtin.Str.strSliceIndices (l.map (·.1)) (u.map (·.1)) 1 z.length:=rfl;rw[ep];by_cases hc:((1:Int)==1&&(Builtin.Str.strSliceIndices (l.map (·.1)) (u.map (·.1)) 1 z.length).length==z.length)=true
 ·rw[if_pos hc]at q ⊢;exact ⟨.str z,H,I,⟨t,rfl⟩,q⟩
 ·rw[if_neg hc]at q ⊢;refine ⟨?_,⟨.str _,H,I.tok _,⟨_,rfl⟩,q⟩⟩;show (List.filterMap _ _).toArray.size<=sizeLine;rw[ar];have h1:=sliceIndices_le (l.map (·.1)) (u.map (·.1)) z.length;have h2:=List.length_filterMap_le (λx=>z.cps[x]?) (Builtin.Str.strSliceIndices (l.map (·.1)) (u.map (·.1)) 1 z.length);omega
end
theorem Dg{X:Cx}{elt tg iter:Expr}{ifs:List Expr}{scope:Scope}{pos:Pos}{wi:TI}{pins:List (Addr×Obj)}{s:Shared}{σ:St}{H:Hp}{Q:VK}{RR:Value->Addr->Result->Shared->Prop}(N':List Str)(cap:List (Option Nat))(hc:X.calm=true)(hi:PI X tg iter wi)(hcap:Caps X scope N' cap)
  (hcell:scope.names.all (λy=>y.2 != NameKind.cell)=true)
  (hfr:scope.names.all (λy=>y.2 != NameKind.free||(X.env.kindOf y.1==some NameKind.cell||X.env.kindOf y.1==some NameKind.free))=true)
  (hkind:scope.kind=.function) (I:Inv X pins σ H s) (h:vQ X N' scope tg ifs elt wi cap σ H Q)
  (fin:∀(D C:Addr)(H':Hp)(s4:Shared)(m:Str->Option Value),Inv X pins σ H' s4->Q (.ref D) H'->s4.heap.Ns C m->eN X pins H' C->RR (.ref D) C (.ok .next) s4):
  wpAny (model X.prog X.w) X.A (eval iter X.env) (λx s₁=>wpAny (model X.prog X.w) X.A (pyIter x) (λit s₂=>wpAny (model X.prog X.w) X.A (newList []) (λacc s₃=>
   wpAny (model X.prog X.w) X.A (newFunctionEnv scope X.env.globals (cG X.env scope.names []) [] X.env.qual none .none (some X.env)) (λcenv s₄=>
    codeAny (model X.prog X.w) X.A (.compStart (.ListComp elt [⟨tg,iter,ifs,0⟩] scope pos) 0 it acc { cenv with scope:=relabel scope X.env }) (RR acc cenv.locals) s₄) X.xe s₃) X.xe s₂) X.xe s₁) X.xe s:=by
 have hcell':∀y∈scope.names,y.2≠NameKind.cell:=λy hy=>by
  have:=b9.mp hcell y hy;simpa using this
 have hfr':∀y∈scope.names,y.2=NameKind.free->(X.env.kindOf y.1=some NameKind.cell\/X.env.kindOf y.1=some NameKind.free):=λy hy hl=>by
  have:=b9.mp hfr y hy;simpa [hl] using this
 have hcs:∀y∈scope.names,y.2=NameKind.free->(X.env.cells.lookup y.1).isSome=true:=λy hy hl=>by
  obtain ⟨c,e⟩:=I.ok.has y.1 (hfr' y hy hl);rw[e];rfl
 have clsub:∀x c,(cG X.env scope.names []).lookup x=some c->X.env.cells.lookup x=some c:=CG (λx c e=>by simp at e);have clhas:∀x,scope.names.lookup x=some NameKind.free->∃c,(cG X.env scope.names []).lookup x=some c:=λx e=>by
  have hm:=dQ e;exact cp.mp (CK (hcs _ hm rfl) hm)
 have rel:∀x,(relabel scope X.env).names.lookup x=(scope.names.lookup x).map λk=>if (k==NameKind.free&&X.env.scope.kind==.function&&X.env.kindOf x==some .cell)=true then NameKind.cell else k:=λx=>vP
 have relfree:∀x,((relabel scope X.env).names.lookup x=some NameKind.cell\/(relabel scope X.env).names.lookup x=some NameKind.free)->scope.names.lookup x=some NameKind.free:=λx e=>by
  rw[rel x]at e;cases z:scope.names.lookup x with
  |none=>rw[z]at e;rcases e with e |e <;> cases e
  |some k=>
   have nk:=hcell' _ (dQ z);rw[z]at e;cases k with
   |free=>rfl
   |cell=>exact absurd rfl nk
   | «local»=>rcases e with e |e <;> simp[show (NameKind.«local»==NameKind.free)=false by decide]at e
   |globalExplicit=>rcases e with e |e <;> simp[show (NameKind.globalExplicit==NameKind.free)=false by decide]at e
   |globalImplicit=>rcases e with e |e <;> simp[show (NameKind.globalImplicit==NameKind.free)=false by decide]at e
 generalize hcl:cG X.env scope.names []=cl at clsub clhas;refine thn (hi pins s σ H _ I h) λxv s0 h0=>thn h0 λitv s2 h2=>?_;obtain ⟨it,fp,tn,J,H2,e,I2,T,st2,f2,W,⟨m0,w0⟩,turn⟩:=h2;subst e;refine wpAny_newObj_type (wpAny_newFunctionEnv hcell' (by intro y hy;simp at hy) (λh₁ hns₁ hsb₁=>?_) hkind);dsimp only at hns₁ hsb₁ ⊢;generalize hH2:s2.heap.push { cls:=.type "list",dict:=none,data:=.seq ([]:List Value).toArray }=HP at hns₁ hsb₁ ⊢;have hC:HP.objs.size=s2.heap.objs.size+1:=by rw[<-hH2,dE]
 have hDC:s2.heap.objs.size≠HP.objs.size:=by rw[hC];exact ck (Nat.lt_succ_self _)
 have below:∀b,b < s2.heap.objs.size->b≠HP.objs.size/\b≠s2.heap.objs.size:=λb hb=>⟨by rw[hC];exact ck (Nat.lt_succ_of_lt hb),ck hb⟩;have old:∀b o,s2.heap.get? b=some o->h₁.get? b=some o:=λb o e=>hsb₁.extBut b o (below b (ax e)).1 (ah _ (hH2 ▸ ah _ e));have hacc:h₁.get? s2.heap.objs.size=some { cls:=.type "list",data:=.seq ([]:List Value).toArray 0 }:=hsb₁.extBut _ _ hDC (ah _ (hH2 ▸ ba _ rfl));have hst₁:tn 0 h₁:=T.keep _ _ _ st2 λb _ o e=>old b o e;have fplt:∀b∈fp,b < s2.heap.objs.size:=λb hb=>by
  obtain ⟨o,e,_⟩:=T.obj _ _ st2 b hb;exact ax e
 have fslt:∀b∈frs X.stack,b < s2.heap.objs.size:=λb hb=>by
  obtain ⟨_,o,e,_⟩:=I2.stack.mem hb;exact ax e
 have celllt:∀x c,cl.lookup x=some c->c < s2.heap.objs.size:=λx c e=>by
  obtain ⟨v,q⟩:=I2.cell x c (clsub x c e);exact q.lt
 have hDf:H2 s2.heap.objs.size=none:=I2.hok.fresh (aw _);have hCf:H2 HP.objs.size=none:=I2.hok.fresh (by rw[hC];exact fk _);have nofs:∀b∈fp,b∉frs X.stack:=λb hb z=>by
  obtain ⟨_,f1,f2',_⟩:=f2 b hb;rcases aT.mp (I2.stkSub b z) with e |e
  ·exact f1 e
  ·exact f2' e
 have ok':(X.comp N' scope cl HP.objs.size s2 H2 fp (X.pn++pins)).Ok:=
  ⟨I2.ok.mod,hkind,I2.ok.glob,I2.ok.blt,(by show s2.heap.objs.size<=HP.objs.size;rw[hC];exact fk _),
   λx y c e1 e2=>I2.ok.inj x y c (clsub x c e1) (clsub y c e2),λx hx=>clhas x (relfree x hx),λx c hf _=>(by cases hf),I2.ok.hd,I2.ok.frames,.inl rfl,
   λb hb=>⟨(below b (fplt b hb)).1,λx c e=>(f2 b hb).2.2.2.2.1 x c (clsub x c e)⟩,I2.bs,cm I2.ok.bsz I2.sz,
   λb o e hb=>(by
    rcases (f2 b hb).2.2.2.1 with z |z
    ·exact I2.ok.noex b o e z
    ·exact absurd (bg (ax e) (cm I2.ok.bsz z)) (d5 _)),
   nofs,I2.stack,I2.stkFree⟩
 have pnOk:∀p∈X.pn++pins,p.1 < s2.heap.objs.size/\p.1∉frs X.stack:=λp hp=>by
  obtain ⟨e,_,n1,n2,_⟩:=I2.pin p hp;refine ⟨ax e,λz=>?_⟩;rcases aT.mp (I2.stkSub _ z) with e |e
  ·exact n1 e
  ·exact n2 e
 have I0:∀t,Inv (X.comp N' scope cl HP.objs.size s2 H2 fp (X.pn++pins)) [(s2.heap.objs.size,{ cls:=.type "list",data:=.seq ([]:List Value).toArray 0 })] (dN cap σ) H2 { s2 with heap:=h₁,toks:=t }:=λt=>
  ⟨ok',rfl,I2.bare,Un.kept old,⟨_,hns₁,λi x v e1 e2 _=>by
    obtain ⟨j,nj,fr,sj⟩:=hcap.at e1 e2;obtain ⟨m,_,hl⟩:=I2.loc;have hk:=hfr' (x,NameKind.free) (dQ fr) rfl;obtain ⟨u,r,l⟩:=hl j x v nj sj (by rcases hk with hk |hk;exact .inr (.inl hk);exact .inr (.inr hk));refine ⟨u,r,.inr ⟨?_,?_⟩⟩
    ·show (relabel scope X.env).names.lookup x=some .cell\/(relabel scope X.env).names.lookup x=some .free;rw[rel x,fr,Option.map_some];by_cases hh:(NameKind.free==NameKind.free&&X.env.scope.kind==ScopeKind.function&&X.env.kindOf x==some NameKind.cell)=true
     ·exact .inl (by rw[if_pos hh])
     ·exact .inr (by rw[if_neg hh])
    ·obtain ⟨c,ec⟩:=clhas x fr;have ec':=clsub x c ec;rcases l with ⟨k1,_⟩ |⟨_,c',e',q⟩
     ·rcases hk with hk |hk <;> (rw[hk]at k1;cases k1)
     ·have ecc:X.env.cells.lookup x=some c:=ec';rw[e']at ecc;cases ecc;obtain ⟨o,ho,hd⟩:=q;exact ⟨_,ec,o,old _ _ ho,hd⟩⟩,
   λx c e=>(by obtain ⟨v,o,ho,hd⟩:=I2.cell x c (clsub x c e);exact ⟨v,o,old _ _ ho,hd⟩),hCf,λx c e=>I2.freeC x c (clsub x c e),
   λp hp=>by
    rcases aS.mp hp with z |z
    ·obtain ⟨e,n0,_,_,d⟩:=I2.pin p z;exact ⟨old _ _ e,n0,(below _ (pnOk p z).1).1,(pnOk p z).2,d⟩
    ·have e:p=_:=a9.mp z;subst e;exact ⟨hacc,hDf,hDC,λz=>absurd (fslt _ z) (d5 _),λv z=>by have z':Data.seq _ _=Data.cell v:=z;cases z'⟩,
   I2.hok.kept old,by show (dN cap σ).length=N'.length;unfold dN;rw[al];exact hcap.len⟩
 have fpok:∀{H':Hp}{o:Obj},(∀b∈fp,H' b=none)->∀b∈fp,eN (X.comp N' scope cl HP.objs.size s2 H2 fp (X.pn++pins)) [(s2.heap.objs.size,o)] H' b:=λhn b hb=>
  ⟨hn b hb,(below b (fplt b hb)).1,nofs b hb,.inl hb,λx c e=>(f2 b hb).2.2.2.2.1 x c (clsub x c e),λp hp=>by
   rcases aS.mp hp with z |z
   ·exact (f2 b hb).2.2.2.2.2 p z
   ·have e:p=_:=a9.mp z;subst e;exact Ne.symm (below b (fplt b hb)).2⟩
 have loop:∀s₃:Shared,s₃={ s2 with heap:=h₁,toks:=s2.toks+([]:List (Str×Value)).length }->
   codeAny (model X.prog X.w) X.A (.compLoop (.ListComp elt [⟨tg,iter,ifs,0⟩] scope pos) 0 (.ref it) (.ref s2.heap.objs.size) (compEnvC scope cl HP.objs.size X.env))
    (RR (.ref s2.heap.objs.size) HP.objs.size) s₃:=by
  rintro s₃ rfl;refine Xz
   (λk s'=>∃(i:Nat) (ys:List V) (its:List Value) (n:Nat) (σ':St) (H':Hp),Inv (X.comp N' scope cl HP.objs.size s2 H2 fp (X.pn++pins)) [(s2.heap.objs.size,{ cls:=.type "list",data:=.seq its.toArray n })] σ' H' s'/\Vals ys its/\
    tn i s'.heap/\(∀b∈fp,H' b=none)/\W i k ys σ' H') ?_ m0 ⟨0,[],[],0,_,H2,I0 _,.nil,hst₁,λb hb=>(f2 b hb).1,w0⟩
  rintro k s3 ⟨i,ys,its,n,σ3,H3,I3,rv3,st3,fr3,w3⟩;rcases turn i k ys σ3 H3 w3 with ⟨stop,hz,qn⟩ |⟨go,hz,step⟩
  ·refine thn (T.done (X.comp N' scope cl HP.objs.size s2 H2 fp (X.pn++pins)) rfl rfl rfl hc i _ s3 σ3 H3 _ I3 (fpok fr3) st3 stop) λr s4 ⟨hr,I4⟩=>?_;subst hr;obtain ⟨m,hn,_⟩:=I4.loc;obtain ⟨pD,nD,_,_,_⟩:=I4.pin (s2.heap.objs.size,{ cls:=.type "list",data:=.seq its.toArray n }) (bo _ (a9.mpr rfl));have nC:H3 HP.objs.size=none:=I4.free;have u:Un (frs X.stack) fp H2 H3 s2.heap s4.heap:=I4.base;refine fin s2.heap.objs.size HP.objs.size (upd H3 s2.heap.objs.size (.lst ys)) s4 m ?_ (qn _ nD) hn ?_
   ·refine I2.call' (s':=s4) (ch:=fp) I4.os ?_ ?_ I4.bare λb hb=>⟨(f2 b hb).2.2.2.1,(f2 b hb).2.1,(f2 b hb).2.2.2.2.1,(f2 b hb).2.2.2.2.2⟩
    ·refine ⟨λb o e n0 hb hx=>u.keep b o e n0 hb hx,λb o e n0 hb hx=>u.slot b o e n0 hb hx,λb o e n0 hx=>?_,λb o e hx=>u.there b o e hx,λb xs e=>?_,λb o v e=>?_,λb ps e=>?_⟩
     ·rw[aJ (below b (ax e)).2];exact u.free b o e n0 hx
     ·rw[aJ (bu e hDf)];exact u.tups b xs e
     ·rw[aJ (bu e hDf)];exact u.frzs b o v e
     ·rw[aJ (bu e hDf)];exact u.tbls b ps e
    ·intro b o e;by_cases hb:b=s2.heap.objs.size
     ·subst hb;rw[cJ]at e;cases e;exact ⟨hz,its,n,rv3,pD⟩
     ·rw[aJ hb]at e;exact (I4.hok b o e).stay (λc v _ q=>q) (λc q=>by rw[aJ (bu q nD)];exact q) λc xs q=>by rw[aJ (bu q nD)];exact q
   ·have hle:s2.heap.objs.size<=HP.objs.size:=by rw[hC];exact fk _
    exact I2.fpOk hle (by rw[aJ (Ne.symm hDC)];exact nC)
  ·refine thn (T.item (X.comp N' scope cl HP.objs.size s2 H2 fp (X.pn++pins)) rfl rfl rfl hc i _ s3 σ3 H3 _ I3 (fpok fr3) st3 go) λr s4 ⟨u,hr,h4⟩=>?_;subst hr;refine thn h4 λ_ s5 ⟨x,H5,I5,r5,y5,st5,fr5⟩=>?_;obtain ⟨g,tt,te,hg,ht,he,body⟩:=step cl HP.objs.size s2 H2 fp (X.pn++pins);have I5':=I5.pinned (fpok fr5) (T.obj _ _ st5);have tail:∀{σ7:St}{H7:Hp}{s7:Shared}{po:Obj},Inv (X.comp N' scope cl HP.objs.size s2 H2 fp (X.pn++pins)) ([(s2.heap.objs.size,po)]++jV fp s5.heap) σ7 H7 s7->tn (i+1) s7.heap/\∀b∈fp,H7 b=none:=λ{σ7 H7 s7 po} I7=>by
    refine ⟨T.keep _ _ _ st5 λb hb o e=>(I7.pin (b,o) (bo _ (bo _ (ql hb e)))).1,λb hb=>?_⟩;obtain ⟨o,e,d⟩:=T.obj _ _ st5 b hb;exact (I7.pin (b,o) (bo _ (bo _ (ql hb e)))).2.1
   refine thn (hg _ s5 σ3 H5 x u _ I5' r5 (body x H5 y5)) λ_ s6 ⟨σ6,H6,I6,q6⟩=>?_;refine thn (ht _ s6 σ6 H6 _ I6 q6) λok s7 ⟨H7,I7,q7⟩=>?_;cases ok with
   |false=>
    obtain ⟨m',hm,w7⟩:=q7;obtain ⟨t7,n7⟩:=tail I7;exact ⟨m',hm,i+1,ys,its,n,σ6,H7,I7.unpinned,rv3,t7,n7,w7⟩
   |true=>
    refine thn (he _ s7 σ6 H7 _ I7 q7) λv s8 ⟨y,H8,I8,r8,m',hm,w8⟩=>?_;obtain ⟨t8,n8⟩:=tail I8;obtain ⟨pD,nD,_,_,_⟩:=I8.pin (s2.heap.objs.size,{ cls:=.type "list",data:=.seq its.toArray n }) (bo _ (ez _ (a9.mpr rfl)));have hl:=rv3.length;refine append_at (hsz:=by rw[ar];omega) pD λh9 hs9 hD9=>?_;have I8a:Inv (X.comp N' scope cl HP.objs.size s2 H2 fp (X.pn++pins)) [] σ6 H8 s8:=I8.pins_of λp hp=>nomatch hp;have I9:Inv (X.comp N' scope cl HP.objs.size s2 H2 fp (X.pn++pins)) [] σ6 H8 { s8 with heap:=h9 }:=I8a.turned (t':=s8.toks) (it:=s2.heap.objs.size) (λb o hb e=>hs9.extBut b o hb e) nD hDC (.inr (aw _))
     (λx c e z=>absurd (celllt x c e) (by rw[z];exact d5 _)) (λp hp z=>by
      rcases aS.mp hp with hp |hp
      ·exact absurd (pnOk p hp).1 (by rw[z];exact d5 _)
      ·exact nomatch hp)
    have hD9':h9.get? s2.heap.objs.size=some { cls:=.type "list",data:=.seq (its++[v]).toArray (n+1) }:=by rw[hD9,List.push_toArray]
    refine ⟨m',hm,i+1,ys++[y],its++[v],n+1,σ6,H8,I9.pins_of λp hp=>?_,rv3.append (.cons r8 .nil),T.keep _ _ _ t8 λb hb o e=>hs9.extBut b o (below b (fplt b hb)).2 e,n8,w8⟩;have e:p=_:=a9.mp hp;subst e;exact ⟨hD9',nD,hDC,λz=>absurd (fslt _ z) (d5 _),λv z=>by have z':Data.seq _ _=Data.cell v:=z;cases z'⟩
 exact codeAny_compStart_list (loop _ rfl) (T.self X.A 0 _ _ _ hst₁ (loop _ rfl))
theorem Ye{X:Cx}{elt tg iter:Expr}{ifs:List Expr}{scope:Scope}{pos:Pos}{wi:TI}(N':List Str)(cap:List (Option Nat))(hc:X.calm=true)(hi:PI X tg iter wi)(hcap:Caps X scope N' cap)
  (hcell:scope.names.all (λy=>y.2 != NameKind.cell)=true) (hnames:scope.names.all (λy=>y.2 != NameKind.local||scope.names.lookup y.1==some NameKind.local)=true)
  (hfr:scope.names.all (λy=>y.2 != NameKind.free||(X.env.kindOf y.1==some NameKind.cell||X.env.kindOf y.1==some NameKind.free))=true)
  (hkind:scope.kind=.function) (hs:∀x,foldedSetIterable iter X.env x=pure x):
  PE X (.ListComp elt [⟨tg,iter,ifs,0⟩] scope pos) (vQ X N' scope tg ifs elt wi cap):=by
 intro pins s σ H Q I h;have hnames':∀y∈scope.names,y.2=NameKind.local->scope.names.lookup y.1=some NameKind.local:=λy hy hl=>by
  have:=b9.mp hnames y hy;simpa [hl] using this
 have hcs:∀y∈scope.names,y.2=NameKind.free->(X.env.cells.lookup y.1).isSome=true:=λy hy hl=>by
  have:=b9.mp hfr y hy;obtain ⟨c,e⟩:=I.ok.has y.1 (by simpa [hl] using this);rw[e];rfl
 rw[eval_ListComp];refine wpAny_comprehension_free (use:=none) (Q:=EP X pins σ Q) rfl hs (CN hcs) hkind hnames'
  (Dg (RR:=λacc C=>compPost (model X.prog X.w) X.A X.xe none (EP X pins σ Q) acc C) N' cap hc hi hcap hcell hfr hkind I h λL C H' s4 m I4 q hn fC=>?_)
 obtain ⟨f0,f1,f2,f3,f4,f5⟩:=fC;exact ⟨m,hn,λh' hs'=>⟨.ref L,H',I4.turned (t':=s4.toks) (it:=C) (λb o hb e=>hs'.extBut b o hb e) f0 f1 f3 f4 f5,rfl,q⟩⟩
theorem Yg{X:Cx}{elt tg iter:Expr}{ifs:List Expr}{scope:Scope}{pos py spos:Pos}{wi:TI}{i:Nat}{y:Str}(hN:X.N.Nodup)(hiy:X.N[i]?=some y)(hy:Loc X.env.scope y)(N':List Str)(cap:List (Option Nat))(hc:X.calm=true)(hi:PI X tg iter wi)(hcap:Caps X scope N' cap)
  (hcell:scope.names.all (λy=>y.2 != NameKind.cell)=true:=by rfl) (hnames:scope.names.all (λy=>y.2 != NameKind.local||scope.names.lookup y.1==some NameKind.local)=true:=by rfl)
  (hfr:scope.names.all (λy=>y.2 != NameKind.free||(X.env.kindOf y.1==some NameKind.cell||X.env.kindOf y.1==some NameKind.free))=true:=by rfl)
  (hkind:scope.kind=.function:=by rfl) (hs:∀x,foldedSetIterable iter X.env x=pure x:=by intro _;rfl)
  (hsw:swapsWith (.ListComp elt [⟨tg,iter,ifs,0⟩] scope pos) (some (.Name y py)) spos.line X.env=pure true:=by rfl)
  (hf:X.fn y=true\/X.env.scope.names.lookup y=some .local:=by first |exact .inl rfl |exact .inr rfl |assumption):
  PS X (.Assign [.Name y py] (.ListComp elt [⟨tg,iter,ifs,0⟩] scope pos) spos) (qi (vQ X N' scope tg ifs elt wi cap) (qg i)):=by
 intro pins s σ H D I h;have hnames':∀y∈scope.names,y.2=NameKind.local->scope.names.lookup y.1=some NameKind.local:=λy hy hl=>by
  have:=b9.mp hnames y hy;simpa [hl] using this
 have hcs:∀y∈scope.names,y.2=NameKind.free->(X.env.cells.lookup y.1).isSome=true:=λy hy hl=>by
  have:=b9.mp hfr y hy;obtain ⟨c,e⟩:=I.ok.has y.1 (by simpa [hl] using this);rw[e];rfl
 rw[exec_Assign_Name_used _ _ _ _ hsw];refine ag (wpAny_standAt (ag ?_));show wpAny _ X.A (do let _ <-comprehension (.ListComp elt [⟨tg,iter,ifs,0⟩] scope pos) scope X.env _ (newList []) false (eval iter X.env) (some (assign (.Name y py) X.env))) _ _ s;refine ag (c9 (wpAny_comprehension_free (use:=some (assign (.Name y py) X.env)) (Q:=λ_ s'=>SP X pins D .next s') rfl hs (CN hcs) hkind hnames'
  (Dg (RR:=λacc C=>compPost (model X.prog X.w) X.A X.xe (some (assign (.Name y py) X.env)) (λ_ s'=>SP X pins D .next s') acc C) N' cap hc hi hcap hcell hfr hkind I h λL C H' s4 m I4 q hn fC=>?_)) (λ_ s' hq=>bb (bb hq)) λ_ _ e=>e)
 obtain ⟨oC,es,ep,eC,rC⟩:=id hn;obtain ⟨f0,f1,f2,f3,f4,f5⟩:=fC;have ncell:∀v,oC.data≠.cell v:=λv z=>by rw[rC.1]at z;cases z
 have I5:Inv X (pins++[(C,oC)]) σ H' s4:=I4.pins_of λp hp=>by
  rcases aS.mp hp with z |z
  ·exact I4.pin p (bo _ z)
  ·have e:p=_:=a9.mp z;subst e;exact ⟨eC,f0,f1,f2,ncell⟩
 refine wpAny_assign_Name (qd I5 hN hiy hy (v:=.ref L) (u:=.ref L) rfl (λs5 I6=>?_) hf);have eC5:s5.heap.get? C=some oC:=(I6.pin (C,oC) (bo _ (bo _ (a9.mpr rfl)))).1;have I7:Inv X pins (σ.set i (some (.ref L))) H' s5:=I6.pins_of λp hp=>I6.pin p (bo _ (ez _ hp));refine ⟨m,⟨oC,es,ep,eC5,rC⟩,λh'' hs''=>?_⟩;exact ⟨_,H',I7.turned (t':=s5.toks) (it:=C) (λb o hb e=>hs''.extBut b o hb e) f0 f1 f3 f4 f5,q⟩
section
variable {X:Cx}
theorem Yh:OpR X (compareOp .IsNot) (λx y H Q=>∃i j,x=.bl i/\y=.bl j/\Q (.bl (i != j)) H):=by intro pins s σ H x y v u Q I rx ry h;obtain ⟨i,j,rfl,rfl,q⟩:=h;cases rx;cases ry;exact isnot_bool ⟨.bl _,H,I,rfl,q⟩
end
def noStar:Expr->Bool
 |.Starred ..=>false
 |_=>true
theorem cH(e:Expr)(es:List Expr)(env:Env)(h:noStar e=true):starEach (e::es) env=(false,eval e env)::starEach es env:=by cases e <;> first |rfl |cases h
variable {X:Cx} {e st:Expr} {te ts:TE} {p2 pos:Pos}
noncomputable def holes(h:Heap)(l:List Addr):Heap:={ h with objs:=h.objs.mapIdx λi o=>if l.contains i then { o with data:=.freed } else o }
theorem Dh{h:Heap}{l:List Addr}{b:Addr}:(holes h l).get? b=if l.contains b then none else h.get? b:=by
 unfold holes Heap.get?;simp only[Array.getElem?_mapIdx];cases hb:h.objs[b]? with
 |none=>simp
 |some o=>
  cases hc:l.contains b with
  |true=>simp[hc]
  |false=>simp[hc]
theorem jX{h:Heap}{l:List Addr}{b:Addr}(hb:b∈l):(holes h l).get? b=none:=by rw[Dh,a7.mpr hb];rfl
theorem vW{h:Heap}{l:List Addr}{b:Addr}(hb:b∉l):(holes h l).get? b=h.get? b:=by
 rw[Dh];cases hc:l.contains b with
 |true=>exact absurd (a7.mp hc) hb
 |false=>rfl
theorem Di{h:Heap}{l:List Addr}:(holes h l).StaysIn h:=λb o e=>by
 by_cases hb:b∈l
 ·rw[jX hb]at e;cases e
 ·rw[vW hb]at e;exact e
theorem ObjOk.at{P:Program}{w:World}{H:Hp}{h:Heap}{a:Addr}{o:HO}(x:ObjOk P w H h a o):∃u,h.get? a=some u:=by
 cases o with
 |lst xs=>obtain ⟨_,_,_,_,e⟩:=x;exact ⟨_,e⟩
 |tup xs=>obtain ⟨_,_,_,o,e,_⟩:=x;exact ⟨_,e⟩
 |dK kvs=>obtain ⟨_,_,_,_,o,_,_,e,_⟩:=x;exact ⟨_,e⟩
 |dT kvs=>obtain ⟨_,_,_,_,o,_,_,e,_⟩:=x;exact ⟨_,e⟩
 |set S n=>obtain ⟨o,_,_,_,e,_⟩:=x;exact ⟨_,e⟩
 |ins C dx fs=>obtain ⟨_,_,_,e,_⟩:=x;exact ⟨_,e⟩
 |own y=>exact x
 |xd fs=>obtain ⟨_,⟨_,_,_,e,_⟩,_⟩:=x;exact ⟨_,e⟩
 |rng lo hi=>obtain ⟨_,_,_,e⟩:=x;exact ⟨_,e⟩
 |frz ob u=>obtain ⟨e,_⟩:=x;exact ⟨_,e⟩
 |tbl ps=>exact ⟨_,(show h.get? a=some _ from x)⟩
 |met f y=>exact ⟨_,(show h.get? a=some _ from x)⟩
 |ext φ=>obtain ⟨_,e,_⟩:=x;exact e
theorem HOk.gone{P:Program}{w:World}{H:Hp}{h:Heap}{a:Addr}(x:HOk P w H h)(e:h.get? a=none):H a=none:=by
 cases q:H a with
 |none=>rfl
 |some u=>obtain ⟨o,ho⟩:=(x a u q).at;rw[ho]at e;cases e
theorem Dj{h base:Heap}:∀{l:List Env},h.FunFrames base l->∀b∈frs l,∃o,h.get? b=some o/\∀vs,o.data≠.fields vs
 |[],_,b,hb=>by cases hb
 |env::l,hf,b,hb=>by
  unfold Heap.FunFrames at hf;obtain ⟨_,⟨L,o,e1,_,e3,e4⟩,hr⟩:=hf;unfold frs at hb;rw[fe,e1]at hb;rcases aT.mp hb with rfl |hb
  ·exact ⟨o,e3,e4⟩
  ·exact Dj hr b hb
theorem vX{h base:Heap}{x:List Addr}:∀{l:List Env},h.FunFrames base l->(∀b∈frs l,b∈x)->h.FunFrames (holes h x) l
 |[],_,_=>by unfold Heap.FunFrames;trivial
 |env::l,hf,hx=>by
  unfold Heap.FunFrames at hf ⊢;obtain ⟨h1,⟨L,o,e1,_,e3,e4⟩,hr⟩:=hf;have hL:L∈frs (env::l):=by unfold frs;rw[fe,e1];exact bS
  refine ⟨h1,⟨L,o,e1,jX (hx L hL),e3,e4⟩,vX hr λb hb=>hx b ?_⟩;unfold frs at hb ⊢;rw[fe,e1];exact bi _ hb
theorem Dk{h base:Heap}{env:Env}{l:List Env}(hf:h.FunFrames base (env::l)):∃L,env.frame=some L:=by unfold Heap.FunFrames at hf;obtain ⟨_,⟨L,o,e1,_⟩,_⟩:=hf;exact ⟨L,e1⟩
def Tr(h0:Heap)(H:Hp)(h:Heap)(a:Addr)(c:Value):Prop:=
 ∃oe vs T oT ts,h.get? a=some oe/\oe.cls=c/\oe.data=.fields vs/\vs[1]?=some (.ref T)/\T≠a/\h.get? T=some oT/\oT.data=.fields ts/\ts[3]?=some .none/\
  h0.get? a=none/\h0.get? T=none/\H a=none/\H T=none
def CX1(P:Program)(w:World):CXT:=λouter H s E e s'=>
 ∃(a:Addr)(c:Value)(H':Hp),e=.ref a/\s'.os=s.os/\AllBare s'.gens/\Un (frs outer) [] H H' s.heap s'.heap/\HOk P w H' s'.heap/\Tr s.heap H' s'.heap a c/\E c none H'
theorem Yi{P:Program}{w:World}{fs st:List Addr}{H0 H:Hp}{h0 h h':Heap}{l:List Env}{a:Addr}{xs:List Addr}{c:Value}(un:Un fs [] H0 H h0 h)(hok:HOk P w H h)
  (up:∀b∈fs,b∈st) (old:∀b o,h0.get? b=some o->b∉fs->b∉st) (fr:∀b∈st,H b=none/\∃o,h.get? b=some o/\∀vs,o.data≠.fields vs)
  (ha:h0.get? a=none) (hHa:H a=none) (hxs:∀x∈xs,h0.get? x=none/\H x=none)
  (L:(holes h (st++a::xs)).Left l a c h h'):Un fs [] H0 H h0 h'/\HOk P w H h'/\Tr h0 H h' a c:=by
 obtain ⟨stay,_,tr,slots⟩:=L;have old:∀b o,h0.get? b=some o->b∉fs->b∉st++a::xs:=by
  intro b o hb hf hin;rcases aS.mp hin with hin |hin
  ·exact old b o hb hf hin
  ·rcases aT.mp hin with e |e
   ·rw[e,ha]at hb;cases hb
   ·rw[(hxs b e).1]at hb;cases hb
 have kept:∀b o,h.get? b=some o->b∉st++a::xs->h'.get? b=some o:=λb o e hn=>stay b o (by rw[vW hn];exact e);have trk:∀b o,H b=some o->b∉st++a::xs:=by
  intro b o hb hin;rcases aS.mp hin with hin |hin
  ·rw[(fr b hin).1]at hb;cases hb
  ·rcases aT.mp hin with e |e
   ·rw[e,hHa]at hb;cases hb
   ·rw[(hxs b e).2]at hb;cases hb
 have noex:∀b:Addr,b∉([]:List Addr):=λb hb=>by cases hb
 have frd:∀b∈st,∀o,h.get? b=some o->∀vs,o.data≠.fields vs:=by intro b hb o ho vs;obtain ⟨_,o',e1,e2⟩:=fr b hb;rw[e1]at ho;cases ho;exact e2 vs
 refine ⟨⟨?_,?_,?_,?_,un.tups,un.frzs,un.tbls⟩,?_,?_⟩
 ·intro b o hb hn hf _;exact kept b o (un.keep b o hb hn hf (noex b)) (old b o hb hf)
 ·intro b o hb hn hf _;obtain ⟨sl,e⟩:=un.slot b o hb hn hf (noex b);obtain ⟨sl',e'⟩:=slots b _ e (frd b (up b hf) _ e);exact ⟨sl',e'⟩
 ·intro b o hb hn _;exact un.free b o hb hn (noex b)
 ·intro b o hb _;obtain ⟨o',e⟩:=un.there b o hb (noex b);by_cases hin:b∈st++a::xs
  ·rcases aS.mp hin with h1 |h1
   ·obtain ⟨sl',e'⟩:=slots b _ e (frd b h1 _ e);exact ⟨_,e'⟩
   ·rcases aT.mp h1 with e2 |e2
    ·rw[e2,ha]at hb;cases hb
    ·rw[(hxs b e2).1]at hb;cases hb
  ·exact ⟨_,kept b o' e hin⟩
 ·intro b o hb;refine (hok b o hb).stay (λb' u hb' e=>kept b' u e ?_) (λ_ z=>z) λ_ _ z=>z;rcases hb' with rfl |hb'
  ·exact trk _ _ hb
  ·exact trk _ _ hb'
 ·obtain ⟨oe,vs,T,oT,ts,t1,t2,t3,t4,t5,t6,t7,t8,t9⟩:=tr;have hT:T∈xs\/h.get? T=none:=by
   by_cases hin:T∈st++a::xs
   ·rcases aS.mp hin with h1 |h1
    ·exfalso;obtain ⟨_,o,e1,e2⟩:=fr T h1;obtain ⟨sl,e3⟩:=slots T o e1 e2;rw[e3]at t7;cases t7;exact e2 ts t8
    ·rcases aT.mp h1 with e2 |e2
     ·exact absurd e2 t6
     ·exact .inl e2
   ·rw[vW hin]at t5;exact .inr t5
  refine ⟨oe,vs,T,oT,ts,t1,t2,t3,t4,t6,t7,t8,t9,ha,?_,hHa,?_⟩
  ·rcases hT with h1 |h1
   ·exact (hxs T h1).1
   ·cases e:h0.get? T with
    |none=>rfl
    |some o=>obtain ⟨o',e'⟩:=un.there T o e (noex T);rw[e']at h1;cases h1
  ·rcases hT with h1 |h1
   ·exact (hxs T h1).2
   ·exact hok.gone h1
section
variable {X:Cx} {pins:List (Addr×Obj)} {σ:St} {H:Hp} {s:Shared}
theorem Dl(J:Inv X pins σ H s)(hst:X.stack=X.env::X.outer)(hex:X.ex=[]){a:Addr}{xs:List Addr}{c:Value}{E:XK}
  (ha:X.s₀.heap.get? a=none) (hHa:H a=none) (hxs:∀x∈xs,X.s₀.heap.get? x=none/\H x=none)
  {h':Heap} (L:(holes s.heap (frs X.stack++a::xs)).Left (X.env::X.outer) a c s.heap h') (q:E c none H):
  CX1 X.prog X.w X.outer X.H₀ X.s₀ E (.ref a) { s with heap:=h' }:=by
 have sub:=J.stkSub;have hb0:=J.base;rw[hex]at hb0;have up:∀b∈X.fs,b∈frs X.stack:=by
  intro b hb;rw[hst];unfold Cx.fs at hb;unfold frs at hb ⊢;rw[fe];split
  ·exact hb
  ·exact bi _ hb
 have old:∀b o,X.s₀.heap.get? b=some o->b∉X.fs->b∉frs X.stack:=by
  intro b o hb hf hin;rcases aT.mp (sub b hin) with e |e
  ·have h1:=ax hb;have h2:=J.ok.above;rw[e]at h1;exact absurd h1 (Nat.not_lt.mpr h2)
  ·exact hf e
 obtain ⟨u,k,t⟩:=Yi hb0 J.hok up old (λb hb=>⟨J.stkFree b hb,Dj J.stack b hb⟩) ha hHa hxs L;exact ⟨a,c,H,rfl,J.os,J.bare,u,k,t,q⟩
theorem Yj(J:Inv X pins σ H s)(hst:X.stack=X.env::X.outer)(hex:X.ex=[]){a:Addr}{c:Value}{E:XK}(t:Tr X.s₀.heap H s.heap a c)(q:E c none H){E':Value->Shared->Prop}:
  wpAny (model X.prog X.w) X.A (leaving X.env (.ref a)) (λ_ s''=>CX1 X.prog X.w X.outer X.H₀ X.s₀ E (.ref a) s'') E' s:=by
 obtain ⟨oe,vs,T,oT,ts,t1,t2,t3,t4,t6,t7,t8,t9,n1,n2,n3,n4⟩:=t;have hfr:=J.stack;rw[hst]at hfr;obtain ⟨L,hL⟩:=Dk hfr;have sub:∀b∈frs (X.env::X.outer),b∈frs X.stack++a::[T]:=λb hb=>by rw[hst];exact ez _ hb
 refine wpAny_leaving_next (base:=holes s.heap (frs X.stack++a::[T])) (cls:=c) (by rw[J.ok.frames,hst]) (vX hfr sub) hL ?_ Di (jX (by simp)) λh' hl=>?_
 ·exact ⟨oe,vs,T,oT,ts,t1,t2,t3,t4,jX (by simp),t6,t7,t8,t9⟩
 ·exact Dl J hst hex n1 n3 (λx hx=>by rw[a9.mp hx];exact ⟨n2,n4⟩) hl q
theorem Yk{h':Heap}(I:Inv X pins σ H s)(hst:X.stack=X.env::X.outer)(hex:X.ex=[]){a:Addr}{c:Value}{args:List Value}{E:XK}(m:s.heap.MadeExcOf h' a c args)(q:E c none H){E':Value->Shared->Prop}:
  wpAny (model X.prog X.w) X.A (leaving X.env (.ref a)) (λ_ s''=>CX1 X.prog X.w X.outer X.H₀ X.s₀ E (.ref a) s'') E' { s with heap:=h' }:=by
 have J:Inv X pins σ H { s with heap:=h' }:=I.kept (t':=s.toks) m.keeps;have hfr:=J.stack;rw[hst]at hfr;obtain ⟨L,hL⟩:=Dk hfr;have sub:∀b∈frs (X.env::X.outer),b∈frs X.stack++a::[]:=λb hb=>by rw[hst];exact ez _ hb
 obtain ⟨t,e,_,_⟩:=m.there;have n1:X.s₀.heap.get? a=none:=by
  cases e:X.s₀.heap.get? a with
  |none=>rfl
  |some o=>
   obtain ⟨o',e'⟩:=I.base.there a o e (by rw[hex];simp);rw[m.new]at e';cases e'
 refine wpAny_leaving_first (base:=holes h' (frs X.stack++a::[])) (by rw[J.ok.frames,hst]) (vX hfr sub) hL e Di (jX (by simp)) rfl rfl λh'' hl=>?_;exact Dl J hst hex n1 (I.hok.gone m.new) (λx hx=>by cases hx) hl q
theorem Yl{E:XK}(hst:X.stack=X.env::X.outer)(hex:X.ex=[])(hxe:∀e s',wpAny (model X.prog X.w) X.A (leaving X.env e) (λ_ s''=>CX1 X.prog X.w X.outer X.H₀ X.s₀ E e s'') (λe' s''=>CX1 X.prog X.w X.outer X.H₀ X.s₀ E e' s'') s'->X.xe e s'):
  eO (CX1 X.prog X.w) X E:=by
 intro pins σ H s e s' I h;obtain ⟨a,c,H',rfl,ho,hg,un,hok,tr,q⟩:=h;have J:Inv X pins σ H' s':=I.call' (ch:=[]) ho un hok hg (λb z=>absurd z (by simp));refine hxe _ _ (Yj J hst hex ?_ q);obtain ⟨oe,vs,T,oT,ts,t1,t2,t3,t4,t6,t7,t8,t9,n1,n2,n3,n4⟩:=tr;have old:∀b,s.heap.get? b=none->X.s₀.heap.get? b=none:=λb hb=>by
  cases e:X.s₀.heap.get? b with
  |none=>rfl
  |some o=>
   obtain ⟨o',e'⟩:=I.base.there b o e (by rw[hex];simp);rw[hb]at e';cases e'
 exact ⟨oe,vs,T,oT,ts,t1,t2,t3,t4,t6,t7,t8,t9,old a n1,old T n2,n3,n4⟩
theorem Dm{P:Program}{w:World}(Y:Cx):eO (CX1 P w) Y λ_ _ _=>False:=λ_ _ _ _ _ _ _ h=>by
 obtain ⟨_,_,_,_,_,_,_,_,_,q⟩:=h;exact q.elim
end
abbrev veM:List Value:=[.type "ValueError",.type "Exception",.type "BaseException",.type "object"]
noncomputable def vY:List Value->Bool
 |[.type a,.type b,.type c,.type d]=>a=="ValueError"&&b=="Exception"&&c=="BaseException"&&d=="object"
 |_=>false
theorem Ym{l:List Value}(h:vY l=true):l=veM:=by
 unfold vY at h;split at h
 ·simp only[ae,av]at h;obtain ⟨⟨⟨rfl,rfl⟩,rfl⟩,rfl⟩:=h;rfl
 ·cases h
def Dn:Value->Bool
 |.str _ _=>true
 |_=>false
noncomputable def nsB(K:PySem.W.Frag)(N:Addr):Bool:=match K.lookup N with
 |some ⟨_,_,.dict es _,_⟩=>es.toList.all (λe=>Dn e.key)&&quietNames.all λn=>(nsFind es n).isNone
 |_=>false
theorem Do{K:PySem.W.Frag}{N:Addr}{h:Heap}(KX:K.In h)(b:nsB K N=true):∃m,h.Ns N m/\∀n∈quietNames,m n=none:=by
 unfold nsB at b;split at b
 ·rename_i c d es ep sl e;rw[ae,b9,b9]at b;refine ⟨nsFind es,⟨_,es,ep,KX _ _ e,rfl,λx hx=>?_,λ_=>rfl⟩,λn hn=>by simpa using b.2 n hn⟩;have:=b.1 x (Array.mem_toList_iff.mpr hx);unfold Dn at this;split at this
  ·rename_i y t e;exact ⟨_,_,e⟩
  ·cases this
 ·cases b
noncomputable def Dp(K:PySem.W.Frag)(A:Addr):Bool:=match K.lookup A with
 |some ⟨_,_,.cls cd,_⟩=>nsB K cd.ns
 |_=>false
noncomputable def qz(K:PySem.W.Frag):List Value->Bool
 |[]=>false
 |v::tl=>(match v with |.ref A=>Dp K A&&qz K tl |_=>vY (v::tl))
theorem Dq{K:PySem.W.Frag}{h:Heap}(KX:K.In h):∀{l:List Value},qz K l=true->OwnTailQ h veM l
 |[],b=>by cases b
 |v::tl,b=>by
  unfold qz at b;split at b
  ·rename_i A;rw[ae]at b;have b1:=b.1;unfold Dp at b1;split at b1
   ·rename_i c d cd sl e;obtain ⟨m,hm,hq⟩:=Do KX b1;exact .own (KX _ _ e) hm hq (Dq KX b.2)
   ·cases b1
  ·rw[Ym b];exact .base
def isRef(C:Addr):Value->Bool
 |.ref a=>a==C
 |_=>false
def isNew:Option Value->Bool
 |some (.builtin s)=>s=="ValueError.__new__"
 |_=>false
def Ds:Value->Bool
 |.type s=>s=="type"
 |_=>false
noncomputable def gM(K:PySem.W.Frag)(C:Addr):Bool:=match K.lookup C with
 |some ⟨ty,_,.cls cd,⟨[_,_,_,_,k,_]⟩⟩=>Ds ty&&isNew k&&nsB K cd.ns&&!cd.hasDel&&(match cd.mro with |v::tl=>isRef C v&&qz K tl |[]=>false)
 |_=>false
theorem Yn {K:PySem.W.Frag} {C:Addr} {h:Heap} {mg:Str->Option Value} {x:Str} (KX:K.In h) (b:gM K C=true) (hm:mg x=some (.ref C)):OwnClsQ x C veM "ValueError.__new__" mg h:=by
 unfold gM at b;split at b
 ·rename_i ty dd cd k0 k1 k2 k3 k k5 e;simp only[ae]at b;obtain ⟨⟨⟨⟨b1,b2⟩,b3⟩,b5⟩,b4⟩:=b;obtain ⟨m,hns,hq⟩:=Do KX b3;have e1:ty=.type "type":=by
   unfold Ds at b1;split at b1
   ·rw[av]at b1;rw[b1]
   ·cases b1
  have e2:k=some (.builtin "ValueError.__new__"):=by
   unfold isNew at b2;split at b2
   ·rw[av]at b2;rw[b2]
   ·cases b2
  obtain ⟨nm,bs,mro,ns,q,hd,sn,sub,ab,col,del⟩:=cd;dsimp only at b4 hns b5;have e4:del=false:=by simpa using b5
  subst e4;split at b4
  ·rename_i v tl;rw[ae]at b4;have e3:v=.ref C:=by
    have:=b4.1;unfold isRef at this;split at this
    ·rw[av]at this;rw[this]
    ·cases this
   subst e1 e2 e3;exact ⟨hm,tl,ns,nm,q,bs,hd,sn,sub,ab,col,dd,k0,k1,k2,k3,k5,m,KX _ _ e,hns,hq,Dq KX b4.2⟩
  ·cases b4
 ·cases b
theorem Yo{h:Heap}{bmB bm:List Value}(t:OwnTail h bmB bm){v:Value}(hv:bmB.contains v=true):bm.contains v=true:=by
 induction t with
 |base=>exact hv
 |own _ _ _ _ ih=>rw[List.contains_cons,ih,Bool.or_true]
theorem Dt{h h':Heap}(k:∀b o,h.get? b=some o->h'.get? b=some o){N:Addr}{m:Str->Option Value}(n:h.Ns N m):h'.Ns N m:=by obtain ⟨o,es,ep,e,r⟩:=n;exact ⟨o,es,ep,k _ _ e,r⟩
theorem Yp{h h':Heap}(k:∀b o,h.get? b=some o->h'.get? b=some o){bmB bm:List Value}(t:OwnTail h bmB bm):OwnTail h' bmB bm:=by
 induction t with
 |base=>exact .base
 |own e n i _ ih=>exact .own (k _ _ e) (Dt k n) i ih
section
variable {X:Cx}
abbrev TJ:=St->Hp->(Hp->Prop)->Prop
def PJ(X:Cx)(es:List Expr)(t:TJ)(n:Nat):Prop:=∀(pins:List (Addr×Obj))(s:Shared)(σ:St)(H:Hp)(Q:Hp->Prop)(out:Str),Inv X pins σ H s->out.length+n<=100000->t σ H Q->
 wpAny (model X.prog X.w) X.A (joinParts out (evalEach es X.env)) (EP X pins σ λv H'=>(∃x,v=.str x)/\Q H') X.xe s
theorem Yq:PJ X [] (λ_ H Q=>Q H) 0:=λpins s σ H Q out I hl q=>by
 refine joinParts_nil ⟨.str out,H,I.tok _,⟨_,rfl⟩,⟨_,rfl⟩,q⟩ ?_;have:sizeLine≥100000:=by decide
 omega
theorem qC(x y:Str):(x++y).length=x.length+y.length:=by show (x.cps++y.cps).size=_;rw[Array.size_append];rfl
theorem Yr{y:Str}{k:Nat}{p:Pos}{es:List Expr}{t:TJ}{n:Nat}(h:PJ X es t n):PJ X (.Constant (.str y) k p::es) t (y.length+n):=λpins s σ H Q out I hl q=>by
 have hz:sizeLine≥100000:=by decide
 refine joinParts_consE (joinParts_cons (Calls.Constant_str ?_));dsimp only;refine ⟨by rw[qC];omega,h pins _ σ H Q _ (I.tok _) (by rw[qC];omega) q⟩
theorem digits_le:∀n:Fin 100,(Str.ofString (toString (n.val:Int))).length<=3:=by decide +kernel
theorem Ys{e:Expr}{te:TE}{p:Pos}{es:List Expr}{t:TJ}{n:Nat}(he:PE X e te)(h:PJ X es t n):PJ X (.FormattedValue e (-1) none p::es) (λσ H Q=>te σ H λv H1=>(∃m:Nat,v=.int m/\m < 100)/\t σ H1 Q) (3+n):=λpins s σ H Q out I hl q=>by
 have hz:sizeLine≥100000:=by decide
 refine joinParts_consE (joinParts_cons (FormattedValue_plain (thn (he pins s σ H _ I q) λv s1 hy=>?_)));obtain ⟨x,H1,I1,r1,⟨m,rfl,hm⟩,q1⟩:=hy;obtain ⟨tk,rfl⟩:=r1;have hd:(Str.ofString (toString (m:Int))).length<=3:=digits_le ⟨m,hm⟩;refine formatField_int_small ?_ ?_
 ·have:(m:Int).natAbs=m:=Int.natAbs_natCast m;rw[this];exact Nat.lt_of_le_of_lt (Nat.log2_le_self m) (by omega)
 ·dsimp only;exact ⟨by rw[qC];omega,h pins _ σ H1 Q _ ((I1.tok _)) (by rw[qC];omega) q1⟩
theorem Yt{v1 v2:Expr}{es:List Expr}{t:TJ}{n:Nat}{pos:Pos}(h:PJ X (v1::v2::es) t n)(hn:n<=100000):PE X (.JoinedStr (v1::v2::es) pos) (λσ H Q=>t σ H λH1=>∀x,Q (.str x) H1):=λpins s σ H Q I q=>by
 refine JoinedStr_many ?_;refine c9 (h pins s σ H _ Str.empty I (by show 0+n<=_;omega) q) (λv s1 hy=>?_) λ_ _ z=>z;obtain ⟨x,H1,I1,r1,⟨y,rfl⟩,q1⟩:=hy;exact ⟨_,H1,I1,r1,q1 y⟩
def Throws(X:Cx)(E:XK):Prop:=∀(pins:List (Addr×Obj))(σ:St)(H:Hp)(s:Shared)(h':Heap)(a:Addr)(c:Value)(args:List Value),Inv X pins σ H s->s.heap.MadeExcOf h' a c args->E c none H->X.xe (.ref a) { s with heap:=h' }
theorem Yu{E:XK}(hst:X.stack=X.env::X.outer)(hex:X.ex=[])(hxe:∀e s',wpAny (model X.prog X.w) X.A (leaving X.env e) (λ_ s''=>CX1 X.prog X.w X.outer X.H₀ X.s₀ E e s'') (λe' s''=>CX1 X.prog X.w X.outer X.H₀ X.s₀ E e' s'') s'->X.xe e s'):Throws X E:=
 λ_ _ _ _ _ _ _ _ I m q=>hxe _ _ (Yk I hst hex m q)
theorem Du{x:Str}{C:Addr}{np cpos pos:Pos}{e:Expr}{es:List Expr}{ta:TA}{E:XK}(hc:X.calm=true)(hg:Gl X x)(hm:X.mg x=some (.ref C))(hb:gM X.K C=true)(hE:Throws X E)(ha:PA X (e::es) ta)
  (hdb:(x==("__debug__":Str))=false:=by decide) (he:starEach (e::es) X.env=(false,eval e X.env)::starEach es X.env:=by rfl) (hpl:(backTo cpos (starEach es X.env)).any (·.1)=false:=by rfl):
  PS X (.Raise (some (.Call (.Name x np) (e::es) [] cpos)) none pos) (λ_ σ H=>ta σ H λvs H1=>vs.length<=sizeLine/\E (.ref C) none H1):=by
 intro pins s σ H D I h;have kb:=I.ok.mod.kin;obtain ⟨bm,N,nm,q,bs,hd,sn,sub,ab,col,dd,k0,k1,k2,k3,k5,mN,b1,b2,b3,b4⟩:=(Yn kb hb hm:OwnClsQ x C veM "ValueError.__new__" X.mg X.base).own.obj;refine wpAny_Raise_call_subT (nm:=nm) (q:=q) (N:=N) (bs:=bs) (hdct:=hd) (sn:=sn) (sub:=sub) (ab:=ab) (col:=col) (dd:=dd) (k0:=k0) (k1:=k1) (k2:=k2) (k3:=k3) (k5:=k5) (F.excBase_ValueError) (Yo b4 (by decide)) (I.ok.hd hc) ?_ b3 (qe I hg hm ⟨rfl,?_⟩ hdb)
 ·rw[he];exact hpl
 ·have hsp:=ha cpos pins s σ H _ I h;rw[he]at hsp ⊢;refine Calls.evalArgs_plain (c9 hsp (λvs s2 hy=>?_) λ_ _ z=>z);obtain ⟨ws,H2,I2,r2,hl,q2⟩:=hy;refine ⟨rfl,by rw[<-r2.length];exact hl,I2.bk _ _ b1,Dt I2.bk b2,Yp I2.bk b4,λh' a m=>hE pins σ H2 s2 h' a _ _ I2 m q2⟩
end
section
variable {X:Cx}
variable {pins:List (Addr×Obj)} {σ:St} {H:Hp} {s:Shared}
structure Caught(X:Cx)(H:Hp)(s:Shared)(H':Hp)(a:Addr)(c:Value)(s':Shared):Prop where
 os:s'.os=s.os
 bare:AllBare s'.gens
 un:Un (frs X.stack) [] H H' s.heap s'.heap
 hok:HOk X.prog X.w H' s'.heap
 tr:Tr s.heap H' s'.heap a c
variable {H':Hp} {a:Addr} {c:Value} {s':Shared}
end
open Builtin.ObjectAttr Builtin.Getset_descriptor
open PySem.W (findIn mroIn clsIn typeIn Looks InstAt looks_findIn looks_mroIn looks_typeIn)
noncomputable def Dv(K:PySem.W.Frag)(D:Addr):Bool:=
 findIn K (.ref D) "__class__"==some (some (.builtin "object.__class__"))&&findIn K (.ref D) "__getattribute__"==some (some (.builtin "BaseException.__getattribute__"))&&findIn K (.ref D) "__getattr__"==some none &&
  mroIn K D (.type "object")==some true&&mroIn K D (.type "BaseException")==some true&&(clsIn K D).isSome
open PySem.W (findIn mroIn clsIn typeIn Looks looks_findIn looks_mroIn looks_typeIn)
section
variable {X:Cx}
def XO(H:Hp)(a c:Addr):Prop:=∃o y,H a=some (.frz o (.own y))/\o.cls=.ref c
def valOf:V->Value
 |.ref a=>.ref a
 |.ty n=>.type n
 |_=>.none
end
section
variable {X:Cx}
def XP(X:Cx)(pins:List (Addr×Obj))(ex:Value->St->Hp->Prop)(σ:St)(e:Value)(s1:Shared):Prop:=∃a c H1 s0 H',e=.ref a/\Inv X pins σ H1 s0/\Caught X H1 s0 H' a c s1/\ex c σ H'
noncomputable def Dw (K:PySem.W.Frag) (C:Addr):Bool:=typeIn K (.ref C)==some (.type "type")&&(clsIn K C).isSome&&mroIn K C (.type "BaseException")==some true
end
open PySem.SeqAt
section
variable {X:Cx}
theorem vZ:∀{bs:List Bool}{us:List Value},Vals (bs.map V.bl) us->us=bs.map Value.bool
 |[],us,r=>by cases r;rfl
 |b::bs,us,r=>by
  cases r with
  |cons r1 r2=>
   have e:_=Value.bool b:=r1;rw[e,vZ r2];rfl
theorem Dy(k:Bool){bs:List Bool}:∀y,y∈(bs.map Value.bool)->∀(A:Around)(s:Shared),EqAt A s y (.bool k) (isBoolOf k y):=by intro y hy A s;obtain ⟨b,_,rfl⟩:=bX.mp hy;exact EqAt.bool_bool b k
theorem Yv(k:Bool)(bs:List Bool):(bs.map Value.bool).countP (isBoolOf k)=bs.count k:=by
 induction bs with
 |nil=>rfl
 |cons b bs ih=>
  rw[bn,List.countP_cons,ih,List.count_cons];rfl
noncomputable def Yw(K:PySem.W.Frag):V->List V->Hp->VK->Prop:=λx vs H Q=>∃(p:Addr)(bs:List Bool),x=.ref p/\vs=[.bl true]/\SqL K H p (bs.map V.bl)/\Q (.int (bs.count true:Nat)) H
theorem Yx:MtR X "list.count" (Yw X.K):=by intro pins s σ H x xs v us Q I rx rs h;obtain ⟨p,bs,rfl,rfl,hq,q⟩:=h;cases rx;obtain ⟨u,rfl,ru⟩:=vals1 rs;cases ru;obtain ⟨its,rv,⟨o,n,ho,hc,hd,hdd⟩,hz⟩:=I.list hq;obtain ⟨cls,dd,data,sl⟩:=o;simp only at hc hd hdd;subst hc hd hdd;have e:=vZ rv;subst e;refine fg PySem.F.slot_list_count ⟨_,ho,rfl⟩ PySem.F.entry_list_count (PySem.F.args_list_count_2 _ _) (list_countAt p _ n _ sl (.bool true) (isBoolOf true)) ⟨ho,λy hy=>Dy true y (by simpa using hy) _ _,?_⟩;refine ⟨.int _,H,I.tok _,⟨_,rfl⟩,?_⟩;rw[show ((bs.map Value.bool).toArray).toList=bs.map Value.bool from rfl,Yv];exact q
noncomputable def Yy(K:PySem.W.Frag):V->List V->Hp->VK->Prop:=λx vs H Q=>∃(p:Addr)(bs:List Bool),x=.ref p/\vs=[.bl true]/\SqL K H p (bs.map V.bl)/\true∈bs/\Q (.int (bs.idxOf true:Nat)) H
theorem Dz(bs:List Bool)(j:Nat)(h:j < (bs.map Value.bool).length)(h':j < bs.length):isBoolOf true (bs.map Value.bool)[j]=(bs[j]==true):=by rw[List.getElem_map];rfl
theorem Yz:MtR X "list.index" (Yy X.K):=by
 intro pins s σ H x xs v us Q I rx rs h;obtain ⟨p,bs,rfl,rfl,hq,hin,q⟩:=h;cases rx;obtain ⟨u,rfl,ru⟩:=vals1 rs;cases ru;obtain ⟨its,rv,⟨o,n,ho,hc,hd,hdd⟩,hz⟩:=I.list hq;obtain ⟨cls,dd,data,sl⟩:=o;simp only at hc hd hdd;subst hc hd hdd;have e:=vZ rv;subst e;have hj:bs.idxOf true < bs.length:=List.idxOf_lt_length_iff.mpr hin;have hz':bs.length<=sizeLine:=by rw[al]at hz;exact hz
 have hs:sizeLine < 2 ^ 63 - 1:=by decide
 refine fg PySem.F.slot_list_index ⟨_,ho,rfl⟩ PySem.F.entry_list_index (PySem.F.args_list_index_2 _ _) (list_indexAt p _ n _ sl (.bool true) (isBoolOf true) (bs.idxOf true) (by simpa using hj) (by omega) ?_ ?_) ⟨ho,λy hy=>Dy true y (by simpa using hy) _ _,?_⟩
 ·have h3:bs.idxOf true < (bs.map Value.bool).length:=by rw[al];exact hj
  show isBoolOf true ((bs.map Value.bool)[bs.idxOf true]'h3)=true;rw[Dz bs _ h3 hj];simpa using List.getElem_idxOf hj
 ·intro j hjs hlt;have h2:j < bs.length:=by omega
  have h3:j < (bs.map Value.bool).length:=by rw[al];exact h2
  show isBoolOf true ((bs.map Value.bool)[j]'h3)=false;rw[Dz bs j h3 h2];have h4:j < bs.findIdx (·==true):=hlt;simpa using List.not_of_lt_findIdx h4
 ·exact ⟨.int _,H,I.tok _,⟨_,rfl⟩,q⟩
end
section
variable {X:Cx}
theorem YB:OpR X (binaryOp .FloorDiv) (rI (λ_ j=>0 < j/\j < 1152921504606846976) λi j=>.int (i / j)):=opI λi j _ _ _ _ _ hc q=>by
 have h1:(0:Int) < j:=hc.1;have h2:j < 1152921504606846976:=hc.2;refine floordiv_int (by omega) (by rw[Int.fdiv_eq_ediv_of_nonneg i (by omega)];exact q) (.inl (PyProof.noPylong_of_log2 ?_));have:j.natAbs.log2 < 60:=(Nat.log2_lt (by omega)).mpr (by show j.natAbs < 1152921504606846976;omega);omega
def v6(m:Nat):Str:=Str.ofString (toString (m:Int))
theorem YC{m:Nat}(h:m < 100):(m:Int).natAbs.log2 < 1920:=by have:(m:Int).natAbs=m:=Int.natAbs_natCast m;rw[this];exact Nat.lt_of_le_of_lt (Nat.log2_le_self m) (by omega)
theorem YD:bF X (.type "str") (λxs H Q=>∃m:Nat,xs=[.int m]/\m < 100/\Q (.str (v6 m)) H):=by intro pins s σ H xs us Q I r h;obtain ⟨m,rfl,hm,q⟩:=h;obtain ⟨u,rfl,ru⟩:=vals1 r;obtain ⟨t,rfl⟩:=ru;exact PySem.P.str_of_int (YC hm) ⟨.str _,H,I.tok _,⟨_,rfl⟩,q⟩
end
end L2
namespace HT
open PySem PySem.Spec PyProof.Rows Builtin
theorem YF:fillsNumberSlot (.type "tuple") "mul"=pure false:=
 PySem.fillsNumberSlot_seq (id:="tuple.__mul__") (r:=some (.builtin "tuple.__rmul__")) PySem.F.slot_tuple_mul.lookup (by decide +kernel) PySem.F.slot_tuple_rmul.lookup (by decide +kernel)
theorem YG:seqRepeat? (.type "tuple")=pure (some (.builtin "tuple.__mul__")):=by unfold seqRepeat?;rw[PySem.seqSlot_of (T:="tuple") (name:="__mul__") (id:="tuple.__mul__") PySem.F.slot_tuple_mul.lookup (by decide +kernel),PySem.seqSlot_of (T:="tuple") (name:="__rmul__") (id:="tuple.__rmul__") PySem.F.slot_tuple_rmul.lookup (by decide +kernel)];rfl
theorem YH(a:Int)(t:Tok)(l:Addr)(items:Array Value)(n:Nat)(dd:Option Addr)(sl:Array (Option Value)):
  Meets (Builtin.«int.__rmul__» ⟨[.int a t,.ref l],[]⟩) (λ_ R s=>s.heap.get? l=some { cls:=.type "tuple",dict:=dd,data:=.seq items n,slots:=sl }/\R (.ok (.ret Value.notImplemented)) s):=
 .of_wp λprog w A R s h=>by obtain ⟨hp,g,d,tk,os⟩:=s;obtain ⟨hl,h⟩:=h;wp_walk;exact ⟨_,rfl,h⟩
theorem YJ(l:Addr)(items:Array Value)(n:Nat)(dd:Option Addr)(sl:Array (Option Value))(k:Int)(t:Tok)(h2:2<=k)(hk:k<=1000)(hne:items.isEmpty=false)(hz:items.size * k.toNat<=sizeLine)(hz2:(List.foldl (λx1 x2=>x1++x2) #[] (List.replicate k.toNat items)).size<=sizeLine):
  Meets (Builtin.«tuple.__mul__» ⟨[.ref l,.int k t],[]⟩) (λ_ R s=>s.heap.get? l=some { cls:=.type "tuple",dict:=dd,data:=.seq items n,slots:=sl }/\
   R (.ok (.ret (.ref s.heap.objs.size))) { s with heap:=s.heap.push { cls:=.type "tuple",data:=.seq ((List.replicate k.toNat items).foldl (· ++ ·) #[]) } }):=
 .of_wp λprog w A R s h=>by
  obtain ⟨hp,g,d,tk,os⟩:=s;obtain ⟨hl,h⟩:=h;have a1:(decide (k < -(2 ^ 63))||decide (k≥2 ^ 63))=false:=by rw[decide_eq_false (by omega),decide_eq_false (by omega)];rfl
  have a2:(items.isEmpty||k==1)=false:=by rw[hne,Bool.false_or,beq_eq_false_iff_ne];omega
  have a3:(decide (k<=0)||items.isEmpty)=false:=by rw[decide_eq_false (by omega),hne];rfl
  have hs:(items.size:Int) * k=((items.size * k.toNat:Nat):Int):=by rw[Int.natCast_mul,Int.toNat_of_nonneg (by omega)]
  have hsl:sizeLine<=1152921504606846975:=by decide
  have a4:¬((items.size:Int) * k > (2 ^ 63 - 1) / 8):=by rw[hs];omega
  have a5:¬(Tuple.tupleTooMany ((items.size:Int) * k)=true):=by unfold Tuple.tupleTooMany;rw[decide_eq_true_iff,hs];omega
  wp_walk
  rw[if_neg (by rw[a1];exact Bool.false_ne_true)];wp_walk
  rw[if_neg (by rw[a2];exact Bool.false_ne_true)];dsimp only;rw[if_neg (by rw[a3];exact Bool.false_ne_true),if_neg a4,if_neg a5];unfold Tuple.tupleExact;wp_walk
  exact ⟨_,rfl,h⟩
end HT
namespace L2
open PySem PySem.Spec PyProof.Rows
section
variable {X:Cx}
def YK(K:PySem.W.Frag):R2:=λx y H Q=>∃(l:Addr)(k:Int)(xs:List V),x=.ref l/\y=.int k/\SqT K H l xs/\xs≠[]/\2<=k/\k<=1000/\xs.length * k.toNat<=sizeLine/\∀p,H p=none->Q (.ref p) (upd H p (.tup (List.replicate k.toNat xs).flatten))
theorem YL:OpR X (binaryOp .Mult) (YK X.K):=by
 intro pins s σ H x y v u Q I rx ry h;obtain ⟨l,k,xs,rfl,rfl,hT,hne,h2,hk,hz,q⟩:=h;cases rx;obtain ⟨t,rfl⟩:=ry;obtain ⟨its,r,pt,_⟩:=I.tuple hT;obtain ⟨⟨cls,dd,data,sl⟩,ho,hc,n,hd⟩:=id pt;simp only at hc hd;subst hc hd;have hl:=r.length;have hz':its.toArray.size * k.toNat<=sizeLine:=by rw[ar,<-hl];exact hz
 have he:its.toArray.isEmpty=false:=by
  cases its with
  |nil=>exact absurd (c8.mp hl) hne
  |cons _ _=>rfl
 have hnew:List.foldl (λx1 x2=>x1++x2) #[] (List.replicate k.toNat its.toArray)=(List.replicate k.toNat its).flatten.toArray:=by have:=foldl_rep its k.toNat [];rw[List.nil_append]at this;exact this
 refine wpAny_binaryOp_repeat_ref (T:="tuple") (U:="int") (by decide) ⟨_,ho,rfl⟩ (λs'=>typeIs_int s' k t) HT.YF F.fills_int_mul F.slot_int_rmul HT.YG F.slot_int_index.lookup
  (fg F.slot_int_rmul (typeIs_int s k t) F.entry_int_rmul (F.args_int_rmul_2 _ _) (HT.YH k t l its.toArray n dd sl)
   ⟨ho,rfl,⟨_,ho,rfl⟩,fg PySem.F.slot_tuple_mul ⟨_,ho,rfl⟩ PySem.F.entry_tuple_mul (PySem.F.args_tuple_mul_2 _ _) (HT.YJ l its.toArray n dd sl k t h2 hk he hz' (by rw[hnew,ar,len_rep,Nat.mul_comm,<-hl];exact hz)) ⟨ho,?_⟩⟩)
 rw[hnew];refine ⟨.ref s.heap.objs.size,_,I.laid (t':=s.toks) (o:=.tup (List.replicate k.toNat xs).flatten) (λb ob q=>ah _ q) (aw _) ?_,rfl,q _ (I.hok.fresh (aw _))⟩;exact ⟨by rw[len_rep,Nat.mul_comm];exact hz,_,r.rep k.toNat,IsTup.new _ _⟩
end
end L2
namespace HT
open PySem PySem.Spec PyProof.Rows Builtin
theorem YM(a:Int)(t:Tok)(l:Addr)(items:Array Value)(n:Nat)(dd:Option Addr)(sl:Array (Option Value)):
  Meets (Builtin.«int.__rmul__» ⟨[.int a t,.ref l],[]⟩) (λ_ R s=>s.heap.get? l=some { cls:=.type "list",dict:=dd,data:=.seq items n,slots:=sl }/\R (.ok (.ret Value.notImplemented)) s):=
 .of_wp λprog w A R s h=>by obtain ⟨hp,g,d,tk,os⟩:=s;obtain ⟨hl,h⟩:=h;wp_walk;exact ⟨_,rfl,h⟩
theorem YQ(l:Addr)(items:Array Value)(n:Nat)(dd:Option Addr)(sl:Array (Option Value))(x:Int)(u:Tok)(hc0:¬(!Builtin.List.listFitsIndex x)=true)(hc1:¬items.size * x.toNat > (2 ^ 63 - 1) / 8)(hc2:¬Builtin.List.listTooLong (items.size * x.toNat)=true):
  Meets (Builtin.«list.__mul__» ⟨[.ref l,.int x u],[]⟩) (λ_ R s=>s.heap.get? l=some { cls:=.type "list",dict:=dd,data:=.seq items n,slots:=sl }/\R (.ok (.ret (Value.ref s.heap.objs.size))) { s with heap:=s.heap.push { cls:=Value.type "list",data:=Data.seq (List.foldl (λx1 x2=>x1++x2) #[] (List.replicate (if items.isEmpty=true then 0 else x.toNat) items)) },toks:=s.toks }):=
 .of_wp λprog w A R s h=>by
  obtain ⟨hp,g,d,tk,os⟩:=s;obtain ⟨hl,h⟩:=h;have hsz:=AutoListH.joined_fits hc2;wp_walk;refine wpAny_ite_false (decide_eq_false (Nat.not_lt.mpr hsz)) ?_;wp_walk;exact ⟨_,rfl,h⟩
end HT
namespace L2
open PySem PySem.Spec PyProof.Rows
section
variable {X:Cx}
def YS(K:PySem.W.Frag):R2:=λx y H Q=>∃(l:Addr)(k:Int)(xs:List V),x=.ref l/\y=.int k/\SqL K H l xs/\0<=k/\k<=1000/\xs.length * k.toNat<=sizeLine/\∀p,H p=none->Q (.ref p) (upd H p (.lst (List.replicate k.toNat xs).flatten))
theorem YT:OpR X (binaryOp .Mult) (YS X.K):=by
 intro pins s σ H x y v u Q I rx ry h;obtain ⟨l,k,xs,rfl,rfl,hH,h1,h2,hz,q⟩:=h;cases rx;obtain ⟨t,rfl⟩:=ry;obtain ⟨its,r,⟨⟨cls,dd,data,sl⟩,n,e,c1,c2,c3⟩,_⟩:=I.list hH;simp only at c1 c2 c3;have hl:=r.length;have hlen:its.toArray.size * k.toNat<=sizeLine:=by rw[ar,<-hl];exact hz
 have hcap:¬its.toArray.size * k.toNat > (2 ^ 63 - 1) / 8:=by
  have:(sizeLine:Nat)<=(2 ^ 63 - 1) / 8:=by decide
  omega
 have hfit:¬(!Builtin.List.listFitsIndex k)=true:=by rw[fitsIndex_both (by omega) (by omega)];exact br
 have hlong:¬Builtin.List.listTooLong (its.toArray.size * k.toNat)=true:=by rw[Cw hlen];exact br
 have hnew:List.foldl (λx1 x2=>x1++x2) #[] (List.replicate (if its.toArray.isEmpty=true then 0 else k.toNat) its.toArray)=(List.replicate k.toNat its).flatten.toArray:=by
  have f0:∀m:Nat,List.foldl (λx1 x2=>x1++x2) #[] (List.replicate m its.toArray)=(List.replicate m its).flatten.toArray:=λm=>by
   have:=foldl_rep its m [];rw[List.nil_append]at this;exact this
  rw[f0];cases its with
  |nil=>simp
  |cons a r'=>rw[if_neg (by simp)]
 subst c1 c3;refine wpAny_binaryOp_repeat_ref (T:="list") (U:="int") (by decide) ⟨_,e,rfl⟩ (λs'=>typeIs_int s' k t) noFill_list_mul F.fills_int_mul F.slot_int_rmul repeat_list F.slot_int_index.lookup
  (fg F.slot_int_rmul (typeIs_int s k t) F.entry_int_rmul (F.args_int_rmul_2 _ _) (HT.YM k t l its.toArray n dd sl)
   ⟨e,rfl,⟨_,e,rfl⟩,fg F.slot_list_mul ⟨_,e,rfl⟩ F.entry_list_mul (F.args_list_mul_2 _ _) (HT.YQ l its.toArray n dd sl k t hfit hcap hlong) ⟨e,?_⟩⟩)
 rw[hnew];exact ⟨.ref _,_,I.lnew (t':=s.toks) (r.rep k.toNat) (by rw[len_rep,Nat.mul_comm];exact hz),rfl,q _ I.fresh⟩
end
end L2
namespace PySem
end PySem
namespace L2
open PySem PySem.Spec PyProof.Rows
end L2
namespace PyProof.Rows
open PySem
theorem YW {prog:Program} {w:World} {A:Around} {E:Value->Shared->Prop} {s:Shared} {it:Addr} {T:String} {o:Obj} {items:List Value} {n:Nat} {ns:List Int} {Q:Value->Shared->Prop} (hT:T="list"\/T="tuple")
  (ho:s.heap.get? it=some o) (hc:o.cls=.type T) (hd:o.data=.seq items.toArray n) (hI:IntsAre items ns) (h64:items.length < 64)
  (h:∀(h1 h':Heap) (e:Nat) (out:Array Value) (ns':List Int),IntsAre out.toList ns'->ns'.Perm ns->ns'.Pairwise (·<=·)->(∀b o',s.heap.get? b=some o'->h1.get? b=some o')->(∀b o',h1.get? b=some o'->h'.get? b=some o')->h'.get? h1.objs.size=some (seqObj "list" out e)->Q (.ref h1.objs.size) { s with heap:=h' }):
  wpAny (model prog w) A (call (.builtin "sorted") [.ref it]) Q E s:=by
 refine Calls.call_function_entry kind_sorted plain_sorted entry_sorted (args_sorted1 _) ?_;unfold Builtin.«sorted»;refine wpAny_bind (m:=checkCount "sorted" 1 1 _) (wpAny_pure ?_);refine wpAny_bind (wpAny_collect_seq it hT ho hc hd (λh1 k1=>?_) (by rw[List.size_toArray,sizeLine_eq];omega));refine wpAny_bind (wpAny_newList ?_);have e1:items.toArray.toList=items:=by simp
 rw[e1];have hoL:(h1.push (seqObj "list" items.toArray 0)).get? h1.objs.size=some (seqObj "list" items.toArray 0):=Heap.get?_push_size _ rfl;show wpAny _ _ _ _ _ { s with heap:=h1.push (seqObj "list" items.toArray 0) };refine wpAny_bind (wpAny_holding (wpAny_call_entry slot_list_sort ⟨_,hoL,rfl⟩ entry_list_sort (list_sort_tree hoL hI h64 λout ns' a1 a2 a3=>⟨_,rfl,?_⟩) (args_list_sort _)));obtain ⟨e,he⟩:=sortedHeap_at (vs:=items) (out:=out) hoL;refine wpAny_pure ⟨_,rfl,h h1 _ e out ns' a1 a2 a3 k1 (λb o' hb1=>?_) he⟩;rw[sortedHeap_old (Nat.ne_of_lt (Heap.lt_size hb1)) (by rw[size_push'];exact Nat.lt_succ_of_lt (Heap.lt_size hb1))];exact Heap.get?_push_of_some _ hb1
end PyProof.Rows
namespace L2
open PySem PySem.Spec PyProof.Rows
theorem aie {X:Cx}:bF X (.builtin "sorted") (λxs H Q=>∃(p:Addr) (ns:List Int),xs=[.ref p]/\SqT X.K H p (ns.map V.int)/\ns.length < 64/\∀ns':List Int,ns'.Perm ns->ns'.Pairwise (·<=·)->∀l,H l=none->Q (.ref l) (upd H l (.lst (ns'.map V.int)))):=by
 intro pins s σ H xs us Q I r h;obtain ⟨p,ns,rfl,hq,h64,q⟩:=h;obtain ⟨u,rfl,ru⟩:=vals1 r;cases ru;obtain ⟨its,rv,⟨o,ho,hc,n,hd⟩,hz⟩:=I.tuple hq;have hlen:its.length=ns.length:=by rw[<-rv.length];simp
 refine YW (.inr rfl) ho hc hd (intsAre_of rv) (by omega) λh1 h' e out ns' a1 a2 a3 k1 k2 he=>?_;have I1:Inv X pins σ H { s with heap:=h1 }:=I.kept (t':=s.toks) k1;have hsz:(ns'.map V.int).length<=sizeLine:=by rw[al,a2.length_eq,fw];omega
 exact ⟨.ref h1.objs.size,_,I1.laid (t':=s.toks) k2 (aw _) (show ObjOk X.prog X.w _ _ _ (.lst (ns'.map V.int)) from ⟨hsz,out.toList,e,vN a1,by rw[Array.toArray_toList];exact he⟩),rfl,q ns' a2 a3 _ (I1.hok.fresh (aw _))⟩
end L2
namespace RF
open PySem PySem.Spec PyProof.Rows L2
inductive D where
 |non |bl (b:Bool) |int (i:Int) |str (l:List Nat) |tup (xs:List D) |lst (xs:List D) |ref (a:Addr) |scr (ns:List Int) |exn (C:String) |obj (C f:String) (q:Addr)
 deriving Inhabited
inductive DO where
 |lst (xs:List D)
 deriving Inhabited
abbrev DH:=Addr->Option DO
def aD(G:DH)(a:Addr)(o:DO):DH:=λb=>if b=a then some o else G b
def gO(G:DH)(a:Addr):DH:=λb=>if b=a then none else G b
theorem aV{G:DH}{a:Addr}{o:DO}:aD G a o a=some o:=if_pos rfl
theorem cg{G:DH}{a b:Addr}{o:DO}(h:b≠a):aD G a o b=G b:=if_neg h
theorem v7{G:DH}{a:Addr}:gO G a a=none:=if_pos rfl
theorem DG{G:DH}{a b:Addr}(h:b≠a):gO G a b=G b:=if_neg h
theorem DK{G:DH}{a:Addr}{o u:DO}:aD (aD G a o) a u=aD G a u:=by funext b;unfold aD;split <;> rfl
theorem DN{G:DH}{a:Addr}{o:DO}(h:G a=none):gO (aD G a o) a=G:=by
 funext b;unfold aD gO;split
 ·rename_i e;rw[e,h]
 ·rename_i e;exact if_neg e
theorem v8{G:DH}{a b:Addr}{o:DO}(h:G a=some o)(h':G b=none):a≠b:=by intro e;subst e;rw[h]at h';cases h'
abbrev sz:Nat:=1000000
abbrev FZ:=Addr->Prop
def FzL(H:Hp)(F:FZ)(a:Addr)(vs:List V):Prop:=F a/\H a=some (.lst vs)
theorem FzL.sq{K:PySem.W.Frag}{H:Hp}{F:FZ}{a:Addr}{vs:List V}(h:FzL H F a vs):SqL K H a vs:=.inl (.inl h.2)
structure TpT(K:PySem.W.Frag)(H:Hp)(a:Addr)(vs:List V):Prop where
 it:H a=some (.tup vs)
theorem TpT.sq{K:PySem.W.Frag}{H:Hp}{a:Addr}{vs:List V}(h:TpT K H a vs):SqT K H a vs:=.inl (.inl h.it)
def ScL(K:PySem.W.Frag)(H:Hp)(a:Addr)(vs:List V):Prop:=
 (∃o,H a=some (.frz o (.lst vs)))\/
  ∃(o:Obj) (its:Array Value) (n:Nat),K.lookup a=some o/\o.cls=.type "list"/\o.dict=none/\o.data=.seq its n/\its.size<=sizeLine/\Vals vs its.toList
theorem ScL.sq{K:PySem.W.Frag}{H:Hp}{a:Addr}{vs:List V}(h:ScL K H a vs):SqL K H a vs:=by
 rcases h with ⟨o,h⟩ |h
 ·exact .inl (.inr ⟨o,h⟩)
 ·exact .inr h
def FzO(H:Hp)(F:FZ)(a c dx:Addr)(f:Str)(q:Addr):Prop:=F a/\H a=some (.ins c dx [(f,.ref q)])
mutual
noncomputable def Rep(K:PySem.W.Frag)(H:Hp)(F:FZ):D->V->Prop
 |.non,v=>v=.non
 |.bl b,v=>v=.bl b
 |.int i,v=>v=.int i
 |.str l,v=>v=.str (tx l)/\l.length<=sz
 |.tup ds,v=>∃a vs,v=.ref a/\TpT K H a vs/\Reps K H F ds vs
 |.lst ds,v=>∃a vs,v=.ref a/\FzL H F a vs/\Reps K H F ds vs
 |.ref a,v=>v=.ref a
 |.scr ns,v=>∃a,v=.ref a/\ScL K H a (ns.map V.int)
 |.obj C f q,v=>∃a c dx,v=.ref a/\FzO H F a c dx (Str.ofString f) q/\PySem.W.nsIn K mainGlobals (Str.ofString C)=some (some (.ref c))
 |.exn C,v=>∃a c,v=.ref a/\XO H a c/\PySem.W.nsIn K mainGlobals (Str.ofString C)=some (some (.ref c))
noncomputable def Reps(K:PySem.W.Frag)(H:Hp)(F:FZ):List D->List V->Prop
 |[],vs=>vs=[]
 |d::ds,vs=>∃v r,vs=v::r/\Rep K H F d v/\Reps K H F ds r
end
structure Ext(H:Hp)(F:FZ)(H':Hp)(F':FZ):Prop where
 sub:∀a,F a->F' a
 keep:∀a,F a->H' a=H a
 tups:∀a xs,H a=some (.tup xs)->H' a=some (.tup xs)
 frzs:∀a o u,H a=some (.frz o u)->H' a=some (.frz o u)
theorem Ext.refl(H:Hp)(F:FZ):Ext H F H F:=⟨λ_ h=>h,λ_ _=>rfl,λ_ _ h=>h,λ_ _ _ h=>h⟩
theorem Ext.trans{H H1 H2:Hp}{F F1 F2:FZ}(a:Ext H F H1 F1)(b:Ext H1 F1 H2 F2):Ext H F H2 F2:=
 ⟨λc h=>b.sub c (a.sub c h),λc h=>(b.keep c (a.sub c h)).trans (a.keep c h),λc xs h=>b.tups c xs (a.tups c xs h),λc o u h=>b.frzs c o u (a.frzs c o u h)⟩
section
variable {K:PySem.W.Frag} {H H':Hp} {F F':FZ}
theorem TpT.ext{a:Addr}{vs:List V}(x:Ext H F H' F')(h:TpT K H a vs):TpT K H' a vs:=⟨x.tups _ _ h.it⟩
theorem FzL.ext{a:Addr}{vs:List V}(x:Ext H F H' F')(h:FzL H F a vs):FzL H' F' a vs:=⟨x.sub _ h.1,(x.keep _ h.1).trans h.2⟩
theorem ScL.ext{a:Addr}{vs:List V}(x:Ext H F H' F')(h:ScL K H a vs):ScL K H' a vs:=by
 rcases h with ⟨o,h⟩ |h
 ·exact .inl ⟨o,x.frzs _ _ _ h⟩
 ·exact .inr h
mutual
theorem Rep.ext(x:Ext H F H' F'):∀{d:D}{v:V},Rep K H F d v->Rep K H' F' d v
 |.non,_,h=>h
 |.bl _,_,h=>h
 |.int _,_,h=>h
 |.str _,_,h=>h
 |.tup _,_,⟨a,vs,e,q,r⟩=>⟨a,vs,e,TpT.ext x q,Reps.ext x r⟩
 |.lst _,_,⟨a,vs,e,q,r⟩=>⟨a,vs,e,FzL.ext x q,Reps.ext x r⟩
 |.ref _,_,h=>h
 |.scr _,_,⟨a,e,q⟩=>⟨a,e,ScL.ext x q⟩
 |.obj _ _ _,_,⟨a,c,dx,e,⟨hf,hh⟩,n⟩=>⟨a,c,dx,e,⟨x.sub _ hf,(x.keep _ hf).trans hh⟩,n⟩
 |.exn _,_,⟨a,c,e,⟨o,y,q,hc⟩,n⟩=>⟨a,c,e,⟨o,y,x.frzs _ _ _ q,hc⟩,n⟩
theorem Reps.ext(x:Ext H F H' F'):∀{ds:List D}{vs:List V},Reps K H F ds vs->Reps K H' F' ds vs
 |[],_,h=>h
 |_::_,_,⟨v,r,e,h,t⟩=>⟨v,r,e,Rep.ext x h,Reps.ext x t⟩
end
theorem Reps.nil:Reps K H F [] []:=rfl
theorem Reps.cons{d:D}{v:V}{ds:List D}{vs:List V}(h:Rep K H F d v)(t:Reps K H F ds vs):Reps K H F (d::ds) (v::vs):=⟨v,vs,rfl,h,t⟩
theorem Reps.length:∀{ds:List D}{vs:List V},Reps K H F ds vs->ds.length=vs.length
 |[],_,h=>by cases h;rfl
 |_::_,_,⟨v,r,e,_,t⟩=>by subst e;simp[Reps.length t]
theorem Reps.append:∀{ds es:List D}{vs us:List V},Reps K H F ds vs->Reps K H F es us->Reps K H F (ds++es) (vs++us)
 |[],_,_,_,h,t=>by cases h;exact t
 |_::_,_,_,_,⟨v,r,e,h,t⟩,t'=>by subst e;exact ⟨v,_,rfl,h,Reps.append t t'⟩
theorem Reps.get:∀{ds:List D}{vs:List V}{i:Nat}{d:D},Reps K H F ds vs->ds[i]?=some d->∃v,vs[i]?=some v/\Rep K H F d v
 |[],_,_,_,_,e=>by simp at e
 |_::_,_,0,_,⟨v,r,e,h,t⟩,q=>by subst e;simp at q;subst q;exact ⟨v,rfl,h⟩
 |_::_,_,i+1,d,⟨v,r,e,h,t⟩,q=>by
  subst e;obtain ⟨u,h1,h2⟩:=Reps.get (i:=i) (d:=d) t (by simpa using q);exact ⟨u,by simpa using h1,h2⟩
theorem Reps.set{d:D}{v:V}(r:Rep K H F d v):∀{ds:List D}{vs:List V}(i:Nat),Reps K H F ds vs->Reps K H F (ds.set i d) (vs.set i v)
 |[],_,_,h=>by cases h;exact rfl
 |_::_,_,0,⟨v',r',e,h,t⟩=>by subst e;exact ⟨_,_,rfl,r,t⟩
 |_::_,_,i+1,⟨v',r',e,h,t⟩=>by subst e;exact ⟨_,_,rfl,h,Reps.set r i t⟩
theorem Reps.take:∀{ds:List D}{vs:List V}(n:Nat),Reps K H F ds vs->Reps K H F (ds.take n) (vs.take n)
 |_,_,0,_=>rfl
 |[],_,_+1,h=>by cases h;exact rfl
 |_::_,_,n+1,⟨v',r',e,h,t⟩=>by subst e;exact ⟨_,_,rfl,h,Reps.take n t⟩
theorem Reps.drop:∀{ds:List D}{vs:List V}(n:Nat),Reps K H F ds vs->Reps K H F (ds.drop n) (vs.drop n)
 |_,_,0,h=>h
 |[],_,_+1,h=>by cases h;exact rfl
 |_::_,_,n+1,⟨v',r',e,h,t⟩=>by subst e;exact Reps.drop n t
theorem Reps.cut{ds:List D}{vs:List V}(h:Reps K H F ds vs)(lo hi:Option Int):
  Reps K H F ((ds.drop (HT.sIx ds.length 0 lo)).take (HT.sIx ds.length ds.length hi - HT.sIx ds.length 0 lo)) (dM vs lo hi):=by
 unfold dM;rw[<-h.length];exact (h.drop _).take _
theorem Reps.rep{ds:List D}{vs:List V}(h:Reps K H F ds vs):∀k:Nat,Reps K H F (List.replicate k ds).flatten (List.replicate k vs).flatten
 |0=>rfl
 |k+1=>by
  rw[bP,bP,eA,eA];exact Reps.append h (Reps.rep h k)
end
def YX(K:PySem.W.Frag)(H:Hp)(F:FZ)(a:Addr):DO->Prop
 |.lst ds=>∃vs,H a=some (.lst vs)/\Reps K H F ds vs
structure R(K:PySem.W.Frag)(H:Hp)(F:FZ)(G:DH):Prop where
 fz:∀a,F a->G a=none/\∃o,H a=some o
 ob:∀a o,G a=some o->YX K H F a o
section
variable {K:PySem.W.Frag} {H:Hp} {F:FZ} {G:DH} {p:Addr} {vs:List V} {ds:List D}
theorem R.lst(r:R K H F G)(h:G p=some (.lst ds)):∃vs,H p=some (.lst vs)/\Reps K H F ds vs:=r.ob p _ h
theorem R.free(r:R K H F G)(h:H p=none):G p=none:=by
 cases e:G p with
 |none=>rfl
 |some o=>
  cases o with
  |lst ds=>obtain ⟨vs,q,_⟩:=r.lst e;rw[h]at q;cases q
theorem R.notF(r:R K H F G)(h:H p=none):¬F p:=λf=>by
 obtain ⟨_,vs,q⟩:=r.fz p f;rw[h]at q;cases q
theorem c7{o:HO}(r:R K H F G)(h:H p=none):Ext H F (upd H p o) F:=
 ⟨λ_ f=>f,λa f=>aJ λe=>r.notF h (by rw[<-e];exact f),λa xs q=>by rw[aJ (bu q h)];exact q,λa ob u q=>by rw[aJ (bu q h)];exact q⟩
theorem R.new{o:HO}(r:R K H F G)(h:H p=none):R K (upd H p o) F G:=by
 have x:Ext H F (upd H p o) F:=c7 r h;refine ⟨λa f=>⟨(r.fz a f).1,?_⟩,λa u e=>?_⟩
 ·obtain ⟨_,vs,q⟩:=r.fz a f;exact ⟨vs,by rw[x.keep a f];exact q⟩
 ·cases u with
  |lst ds=>
   obtain ⟨vs,q,t⟩:=r.lst e;exact ⟨vs,by rw[aJ (bu q h)];exact q,Reps.ext x t⟩
theorem R.newL(r:R K H F G)(h:H p=none)(t:Reps K H F ds vs):R K (upd H p (.lst vs)) F (aD G p (.lst ds)):=by
 have x:Ext H F (upd H p (.lst vs)) F:=c7 r h;have r':R K (upd H p (.lst vs)) F G:=r.new h;refine ⟨λa f=>⟨?_,(r'.fz a f).2⟩,λa u e=>?_⟩
 ·rw[cg λe=>r.notF h (by rw[<-e];exact f)];exact (r.fz a f).1
 ·by_cases ha:a=p
  ·subst ha;rw[aV]at e;cases e;exact ⟨vs,cJ,Reps.ext x t⟩
  ·rw[cg ha]at e;exact r'.ob a u e
theorem v9(r:R K H F G)(h:H p=none):Ext H F (upd H p (.lst vs)) (λa=>F a\/a=p):=
 ⟨λ_ f=>.inl f,(c7 r h).keep,(c7 r h).tups,(c7 r h).frzs⟩
theorem R.newF(r:R K H F G)(h:H p=none):R K (upd H p (.lst vs)) (λa=>F a\/a=p) G:=by
 have x:Ext H F (upd H p (.lst vs)) (λa=>F a\/a=p):=v9 r h;refine ⟨λa f=>?_,λa u e=>?_⟩
 ·rcases f with f |f
  ·obtain ⟨g,vs',q⟩:=r.fz a f;exact ⟨g,vs',by rw[x.keep a f];exact q⟩
  ·subst f;exact ⟨r.free h,_,cJ⟩
 ·cases u with
  |lst ds=>
   obtain ⟨vs',q,t⟩:=r.lst e;exact ⟨vs',by rw[aJ (bu q h)];exact q,Reps.ext x t⟩
theorem wg{o:HO}(r:R K H F G)(h:H p=none):Ext H F (upd H p o) (λa=>F a\/a=p):=
 ⟨λ_ f=>.inl f,(c7 r h).keep,(c7 r h).tups,(c7 r h).frzs⟩
theorem R.newO{o:HO}(r:R K H F G)(h:H p=none):R K (upd H p o) (λa=>F a\/a=p) G:=by
 have x:Ext H F (upd H p o) (λa=>F a\/a=p):=wg r h;refine ⟨λa f=>?_,λa u e=>?_⟩
 ·rcases f with f |f
  ·obtain ⟨g,vs',q⟩:=r.fz a f;exact ⟨g,vs',by rw[x.keep a f];exact q⟩
  ·subst f;exact ⟨r.free h,_,cJ⟩
 ·cases u with
  |lst ds=>
   obtain ⟨vs',q,t⟩:=r.lst e;exact ⟨vs',by rw[aJ (bu q h)];exact q,Reps.ext x t⟩
theorem YZ(r:R K H F G)(h:H p=none)(t:Reps K H F ds vs):Rep K (upd H p (.lst vs)) (λa=>F a\/a=p) (.lst ds) (.ref p):=
 ⟨p,vs,rfl,⟨.inr rfl,cJ⟩,Reps.ext (v9 r h) t⟩
theorem wj(r:R K H F G)(h:H p=none)(t:Reps K H F ds vs):Rep K (upd H p (.tup vs)) F (.tup ds) (.ref p):=
 ⟨p,vs,rfl,⟨cJ⟩,Reps.ext (c7 r h) t⟩
theorem iV{H:Hp}{a x c dx:Addr}{u:HO}{fs:List (Str×V)}(h:H a=some u)(hx:H x=some (.ins c dx []))(hu:u≠.ins c dx []):a≠x:=λe=>hu (by subst e;rw[h]at hx;exact dr hx)
mutual
theorem Rep.setO{x c dx:Addr}{fs:List (Str×V)}(hx:H x=some (.ins c dx [])):∀{d:D}{v:V},Rep K H F d v->Rep K (upd H x (.ins c dx fs)) F d v
 |.non,_,h=>h
 |.bl _,_,h=>h
 |.int _,_,h=>h
 |.str _,_,h=>h
 |.tup _,_,⟨a,vs,e,q,r⟩=>⟨a,vs,e,⟨by rw[aJ (iV (fs:=fs) q.it hx (by intro w;cases w))];exact q.it⟩,Reps.setO hx r⟩
 |.lst _,_,⟨a,vs,e,q,r⟩=>⟨a,vs,e,⟨q.1,by rw[aJ (iV (fs:=fs) q.2 hx (by intro w;cases w))];exact q.2⟩,Reps.setO hx r⟩
 |.ref _,_,h=>h
 |.scr _,_,⟨a,e,q⟩=>⟨a,e,by
   rcases q with ⟨o,q⟩ |q
   ·exact .inl ⟨o,by rw[aJ (iV (fs:=fs) q hx (by intro w;cases w))];exact q⟩
   ·exact .inr q⟩
 |.obj _ _ _,_,⟨a,c',dx',e,⟨hf,hh⟩,n⟩=>⟨a,c',dx',e,⟨hf,by rw[aJ (iV (fs:=fs) hh hx (by intro w;cases w))];exact hh⟩,n⟩
 |.exn _,_,⟨a,c',e,⟨o,y,q,hc⟩,n⟩=>⟨a,c',e,⟨o,y,by rw[aJ (iV (fs:=fs) q hx (by intro w;cases w))];exact q,hc⟩,n⟩
theorem Reps.setO{x c dx:Addr}{fs:List (Str×V)}(hx:H x=some (.ins c dx [])):∀{ds:List D}{vs:List V},Reps K H F ds vs->Reps K (upd H x (.ins c dx fs)) F ds vs
 |[],_,h=>h
 |_::_,_,⟨v,r,e,h,t⟩=>⟨v,r,e,Rep.setO hx h,Reps.setO hx t⟩
end
theorem R.setO{x c dx:Addr}{fs:List (Str×V)}(r:R K H F G)(hx:H x=some (.ins c dx [])):R K (upd H x (.ins c dx fs)) F G:=by
 refine ⟨λa f=>⟨(r.fz a f).1,?_⟩,λa u e=>?_⟩
 ·by_cases h:a=x
  ·exact ⟨_,by rw[h,cJ]⟩
  ·rw[aJ h];exact (r.fz a f).2
 ·cases u with
  |lst ds=>
   obtain ⟨vs,q,t⟩:=r.lst e;exact ⟨vs,by rw[aJ (iV (fs:=fs) q hx (by intro w;cases w))];exact q,Reps.setO hx t⟩
theorem gP{ds0:List D}{o:HO}(r:R K H F G)(h:G p=some (.lst ds0)):Ext H F (upd H p o) F:=by
 obtain ⟨vs0,q,_⟩:=r.lst h;refine ⟨λ_ f=>f,λa f=>aJ λe=>?_,λa xs z=>?_,λa ob u z=>?_⟩
 ·subst e;rw[(r.fz a f).1]at h;cases h
 ·rw[aJ (Bc z q (by intro w;cases w))];exact z
 ·rw[aJ (Bc z q (by intro w;cases w))];exact z
theorem R.write{ds0:List D}(r:R K H F G)(h:G p=some (.lst ds0))(t:Reps K H F ds vs):R K (upd H p (.lst vs)) F (aD G p (.lst ds)):=by
 have x:Ext H F (upd H p (.lst vs)) F:=gP r h;refine ⟨λa f=>⟨?_,?_⟩,λa u e=>?_⟩
 ·rw[cg λe=>by subst e;rw[(r.fz a f).1]at h;cases h];exact (r.fz a f).1
 ·obtain ⟨_,vs',q⟩:=r.fz a f;exact ⟨vs',by rw[x.keep a f];exact q⟩
 ·by_cases ha:a=p
  ·subst ha;rw[aV]at e;cases e;exact ⟨vs,cJ,Reps.ext x t⟩
  ·rw[cg ha]at e;cases u with
   |lst ds'=>
    obtain ⟨vs',q,t'⟩:=r.lst e;exact ⟨vs',by rw[aJ ha];exact q,Reps.ext x t'⟩
theorem wk:Ext H F H (λa=>F a\/a=p):=⟨λ_ f=>.inl f,λ_ _=>rfl,λ_ _ h=>h,λ_ _ _ h=>h⟩
theorem R.frz(r:R K H F G)(h:G p=some (.lst ds)):R K H (λa=>F a\/a=p) (gO G p):=by
 have x:Ext H F H (λa=>F a\/a=p):=wk;refine ⟨λa f=>?_,λa u e=>?_⟩
 ·rcases f with f |f
  ·obtain ⟨g,vs',q⟩:=r.fz a f;refine ⟨?_,vs',q⟩;by_cases ha:a=p
   ·rw[ha];exact v7
   ·rw[DG ha];exact g
  ·subst f;obtain ⟨vs,q,_⟩:=r.lst h;exact ⟨v7,_,q⟩
 ·by_cases ha:a=p
  ·rw[ha,v7]at e;cases e
  ·rw[DG ha]at e;cases u with
   |lst ds'=>
    obtain ⟨vs',q,t'⟩:=r.lst e;exact ⟨vs',q,Reps.ext x t'⟩
theorem Y0(r:R K H F G)(h:G p=some (.lst ds)):Rep K H (λa=>F a\/a=p) (.lst ds) (.ref p):=by obtain ⟨vs,q,t⟩:=r.lst h;exact ⟨p,vs,rfl,⟨.inr rfl,q⟩,Reps.ext wk t⟩
end
def view(G:DH):D->D
 |.ref p=>match G p with |some (.lst ds)=>.lst ds |none=>.ref p
 |d=>d
theorem Rep.list{K:PySem.W.Frag}{H:Hp}{F:FZ}{G:DH}{d:D}{v:V}{ds:List D}(r:R K H F G)(h:Rep K H F d v)(e:view G d=.lst ds):∃a vs,v=.ref a/\SqL K H a vs/\Reps K H F ds vs:=by
 cases d with
 |lst xs=>
  have e':D.lst xs=.lst ds:=e;cases e';obtain ⟨a,vs,e1,q,t⟩:=h;exact ⟨a,vs,e1,q.sq,t⟩
 |ref p=>
  have hv:v=.ref p:=h;unfold view at e;cases g:G p with
  |none=>simp only[g]at e;cases e
  |some o=>
   cases o with
   |lst xs=>
    simp only[g]at e;cases e;obtain ⟨vs,q,t⟩:=r.lst g;exact ⟨p,vs,hv,.inl (.inl q),t⟩
 |_=>cases (show _=D.lst ds from e)
theorem eQ{G:DH}{d:D}{ds:List D}(e:view G d=.tup ds):d=.tup ds:=by
 cases d with
 |ref p=>
  unfold view at e;cases g:G p with
  |none=>simp only[g]at e;cases e
  |some o=>cases o;simp only[g]at e;cases e
 |_=>exact e
theorem eU{G:DH}{d:D}{l:List Nat}(e:view G d=.str l):d=.str l:=by
 cases d with
 |ref p=>
  unfold view at e;cases g:G p with
  |none=>simp only[g]at e;cases e
  |some o=>cases o;simp only[g]at e;cases e
 |_=>exact e
theorem dg{G:DH}{d:D}{l:Int}(e:view G d=.int l):d=.int l:=by
 cases d with
 |ref p=>
  unfold view at e;cases g:G p with
  |none=>simp only[g]at e;cases e
  |some o=>cases o;simp only[g]at e;cases e
 |_=>exact e
theorem wu{G:DH}{d:D}{l:Bool}(e:view G d=.bl l):d=.bl l:=by
 cases d with
 |ref p=>
  unfold view at e;cases g:G p with
  |none=>simp only[g]at e;cases e
  |some o=>cases o;simp only[g]at e;cases e
 |_=>exact e
theorem DP{G:DH}{d:D}(e:view G d=.non):d=.non:=by
 cases d with
 |ref p=>
  unfold view at e;cases g:G p with
  |none=>simp only[g]at e;cases e
  |some o=>cases o;simp only[g]at e;cases e
 |_=>exact e
abbrev ak:=List (Option D)
def EnvR(K:PySem.W.Frag)(H:Hp)(F:FZ):ak->L2.St->Prop
 |[],σ=>σ=[]
 |o::ρ,σ=>∃u τ,σ=u::τ/\(∀d,o=some d->∃v,u=some v/\Rep K H F d v)/\EnvR K H F ρ τ
section
variable {K:PySem.W.Frag} {H H':Hp} {F F':FZ}
theorem EnvR.ext(x:Ext H F H' F'):∀{ρ:ak}{σ:L2.St},EnvR K H F ρ σ->EnvR K H' F' ρ σ
 |[],_,h=>h
 |_::_,_,⟨u,τ,e,h,t⟩=>⟨u,τ,e,λd q=>by obtain ⟨v,e1,r⟩:=h d q;exact ⟨v,e1,Rep.ext x r⟩,EnvR.ext x t⟩
theorem EnvR.get:∀{ρ:ak}{σ:L2.St}{i:Nat}{d:D},EnvR K H F ρ σ->ρ[i]?=some (some d)->∃v,σ[i]?=some (some v)/\Rep K H F d v
 |[],_,_,_,_,e=>by simp at e
 |_::_,_,0,d,⟨u,τ,e,h,t⟩,q=>by
  subst e;obtain ⟨v,e1,r⟩:=h d (by simpa using q);exact ⟨v,by simp[e1],r⟩
 |_::_,_,i+1,d,⟨u,τ,e,h,t⟩,q=>by
  subst e;obtain ⟨v,e1,r⟩:=EnvR.get (i:=i) (d:=d) t (by simpa using q);exact ⟨v,by simpa using e1,r⟩
theorem EnvR.set{d:D}{v:V}(r:Rep K H F d v):∀{ρ:ak}{σ:L2.St}(i:Nat),EnvR K H F ρ σ->EnvR K H F (ρ.set i (some d)) (σ.set i (some v))
 |[],_,_,h=>by cases h;exact rfl
 |_::_,_,0,⟨u,τ,e,h,t⟩=>by subst e;exact ⟨_,_,rfl,λd' q=>⟨v,rfl,by cases q;exact r⟩,t⟩
 |_::_,_,i+1,⟨u,τ,e,h,t⟩=>by subst e;exact ⟨_,_,rfl,h,EnvR.set r i t⟩
theorem EnvR.none:∀(n:Nat),EnvR K H F (List.replicate n Option.none) (List.replicate n Option.none)
 |0=>rfl
 |n+1=>⟨_,_,rfl,λd q=>(nomatch q),EnvR.none n⟩
theorem EnvR.start:∀{ds:List D}{vs:List V}(n:Nat),Reps K H F ds vs->EnvR K H F (ds.map some++List.replicate n Option.none) (vs.map some++List.replicate n Option.none)
 |[],_,n,h=>by cases h;exact EnvR.none n
 |d::ds,_,n,⟨v,r,e,h,t⟩=>by
  subst e;exact ⟨_,_,rfl,λd' q=>⟨v,rfl,by cases q;exact h⟩,EnvR.start n t⟩
theorem EnvR.cap{ρ:ak}{σ:L2.St}(h:EnvR K H F ρ σ):∀(cap:List (Option Nat)),EnvR K H F (cap.map λo=>match o with |Option.none=>Option.none |some j=>(ρ[j]?).join) (dN cap σ)
 |[]=>rfl
 |Option.none::cap=>⟨_,_,rfl,λd q=>(nomatch q),EnvR.cap h cap⟩
 |some j::cap=>by
  refine ⟨_,_,rfl,λd q=>?_,EnvR.cap h cap⟩;have q':(ρ[j]?).join=some d:=q;have z:ρ[j]?=some (some d):=by
   cases e:ρ[j]? with
   |none=>rw[e]at q';cases q'
   |some o=>rw[e]at q';exact eR some q'
  obtain ⟨v,e1,r⟩:=h.get z;exact ⟨v,by show (σ[j]?).join=some v;rw[e1];rfl,r⟩
end
mutual
noncomputable def deq:D->D->Bool
 |.non,.non=>true
 |.bl a,.bl b=>a==b
 |.bl a,.int b=>(if a then 1 else 0)==b
 |.int a,.bl b=>a==(if b then 1 else 0)
 |.int a,.int b=>a==b
 |.str a,.str b=>a==b
 |.tup a,.tup b=>bU a b
 |.lst a,.lst b=>bU a b
 |_,_=>false
noncomputable def bU:List D->List D->Bool
 |[],[]=>true
 |a::as,b::bs=>deq a b&&bU as bs
 |_,_=>false
end
mutual
/-- no tracked object within -/
noncomputable def nr:D->Bool
 |.tup a=>nrs a
 |.lst a=>nrs a
 |.ref _=>false
 |.scr _=>false
 |.exn _=>false
 |.obj _ _ _=>false
 |_=>true
noncomputable def nrs:List D->Bool
 |[]=>true
 |a::as=>nr a&&nrs as
end
mutual
def dpt:D->Nat
 |.tup a=>aQ a+1
 |.lst a=>aQ a+1
 |_=>0
def aQ:List D->Nat
 |[]=>0
 |a::as=>max (dpt a) (aQ as)
end
noncomputable def truth:D->Option Bool
 |.non=>some false
 |.bl b=>some b
 |.int i=>some (i != 0)
 |.str l=>some (!l.isEmpty)
 |.tup l=>some (!l.isEmpty)
 |.lst l=>some (!l.isEmpty)
 |_=>none
noncomputable def cut{α:Type}(xs:List α)(lo hi:Option Int):List α:=(xs.drop (HT.sIx xs.length 0 lo)).take (HT.sIx xs.length xs.length hi - HT.sIx xs.length 0 lo)
def reps{α:Type}(xs:List α)(n:Nat):List α:=(List.replicate n xs).flatten
def mk(fz:Bool)(xs:List D)(G:DH)(k:D->DH->Prop):Prop:=
 match fz with
 |true=>k (.lst xs) G
 |false=>∀p,G p=none->k (.ref p) (aD G p (.lst xs))
def iW(fz:Bool)(a b:D)(G:DH)(k:D->DH->Prop):Prop:=
 match a with
 |.int i=>(match b with |.int j=>k (.int (i+j)) G |_=>False)
 |.str x=>(match b with |.str y=>x.length+y.length<=sz/\k (.str (x++y)) G |_=>False)
 |.lst x=>(match b with |.lst y=>x.length+y.length<=sz/\mk fz (x++y) G k |_=>False)
 |.tup x=>(match b with |.tup y=>x.length+y.length<=sz/\k (.tup (x++y)) G |_=>False)
 |_=>False
def gj(a b:D)(p:Int->Int->Prop):Prop:=
 match a with
 |.int i=>(match b with |.int j=>p i j |_=>False)
 |_=>False
def iY(fz:Bool)(a b:D)(G:DH)(k:D->DH->Prop):Prop:=
 match b with
 |.int n=>(match a with |.int i=>CMul i n/\k (.int (i * n)) G |.str x=>0<=n/\n<=1000/\x.length * n.toNat<=sz/\k (.str (reps x n.toNat)) G |.tup x=>2<=n/\n<=1000/\x≠[]/\x.length * n.toNat<=sz/\k (.tup (reps x n.toNat)) G |.lst x=>0<=n/\n<=1000/\x.length * n.toNat<=sz/\mk fz (reps x n.toNat) G k |_=>False)
 |_=>False
def cj(op:Operator)(fz:Bool)(a b:D)(G:DH)(k:D->DH->Prop):Prop:=
 match op with
 |.Add=>iW fz a b G k
 |.Sub=>gj a b λi j=>k (.int (i - j)) G
 |.Mult=>iY fz a b G k
 |.FloorDiv=>gj a b λi j=>(0 < j/\j < 1152921504606846976)/\k (.int (i / j)) G
 |.Mod=>gj a b λi j=>0 < j/\k (.int (i % j)) G
 |.Pow=>gj a b λi j=>qp i j/\k (.int (i ^ j.toNat)) G
 |_=>False
def isIn(x:D)(ys:List D):Bool:=ys.any λy=>deq y x
def DQ(a b:D):Prop:=nr a=true/\nr b=true/\min (dpt a) (dpt b)<=60
def inG(a:D)(l:List D):Prop:=nr a=true/\nrs l=true/\aQ l<=60
def iZ(a b:D)(k:Bool->Prop):Prop:=
 match a,b with
 |.int i,.int j=>k (decide (i < j))
 |.str i,.str j=>k (decide (i < j))
 |_,_=>False
def jb(a b:D)(k:Bool->Prop):Prop:=
 match a,b with
 |.int i,.int j=>k (decide (i<=j))
 |.str i,.str j=>k (!decide (j < i))
 |_,_=>False
def jc(a b:D)(k:Bool->Prop):Prop:=
 match a,b with
 |.int i,.int j=>k (decide (j < i))
 |_,_=>False
def jd(a b:D)(k:Bool->Prop):Prop:=
 match a,b with
 |.int i,.int j=>k (decide (j<=i))
 |_,_=>False
def qD(a:D):Bool:=match a with |.non=>true |_=>false
def je(a b:D)(k:Bool->Prop):Prop:=
 match b with
 |.non=>k (qD a)
 |.bl b=>(match a with |.bl a=>k (a==b) |_=>False)
 |_=>False
def jf(a b:D)(k:Bool->Prop):Prop:=
 match b with
 |.non=>k (!qD a)
 |.bl b=>(match a with |.bl a=>k (a != b) |_=>False)
 |_=>False
def fD(a b:D)(k:Bool->Prop):Prop:=
 match b with
 |.str l=>(match a with |.str [c]=>k (l.contains c) |_=>False)
 |.lst l=>inG a l/\k (isIn a l)
 |.tup l=>inG a l/\k (isIn a l)
 |_=>False
def aW(op:CmpOp)(a b:D)(k:Bool->Prop):Prop:=
 match op with
 |.Eq=>DQ a b/\k (deq a b)
 |.NotEq=>DQ a b/\k (!deq a b)
 |.Lt=>iZ a b k
 |.LtE=>jb a b k
 |.Gt=>jc a b k
 |.GtE=>jd a b k
 |.Is=>je a b k
 |.IsNot=>jf a b k
 |.In=>fD a b k
 |.NotIn=>fD a b λc=>k (!c)
def cu(a i:D)(k:D->Prop):Prop:=
 match a,i with
 |.lst ds,.int i=>match atI ds i with |some d=>k d |none=>False
 |.tup ds,.int i=>match atI ds i with |some d=>k d |none=>False
 |.str l,.int i=>match atI l i with |some c=>k (.str [c]) |none=>False
 |_,_=>False
def dO(fz:Bool)(a:D)(lo hi:Option Int)(G:DH)(k:D->DH->Prop):Prop:=
 match a with
 |.lst ds=>mk fz (cut ds lo hi) G k
 |.scr ns=>mk fz ((cut ns lo hi).map .int) G k
 |.tup ds=>k (.tup (cut ds lo hi)) G
 |.str l=>k (.str (cut l lo hi)) G
 |_=>False
def jg(fz:Bool)(a y:D)(G:DH)(k:D->DH->Prop):Prop:=
 match a with
 |.lst ds=>y=.int (-1)/\mk fz ds.reverse G k
 |_=>False
noncomputable def bools:List D->Option (List Bool)
 |[]=>some []
 |.bl b::r=>match bools r with |some s=>some (b::s) |none=>none
 |_=>none
noncomputable def bZ:List D->Option (List Int)
 |[]=>some []
 |.int b::r=>match bZ r with |some s=>some (b::s) |none=>none
 |_=>none
noncomputable def bw:List D->Option (List (List Nat))
 |[]=>some []
 |.str b::r=>match bw r with |some s=>some (b::s) |none=>none
 |_=>none
def dR(s:List Nat):List (List Nat)->List Nat
 |[]=>[]
 |[x]=>x
 |x::y::r=>x++s++dR s (y::r)
inductive Bf where
 |len |all |int |tuple |sum |min |max |str |abs |min2
inductive Lf where
 |list |sorted
inductive Mf where
 |join |append |extend |insert |count |index |pop
def ww(as:List D)(k:D->Prop):Prop:=
 match as with
 |[.lst ds]=>k (.int ds.length)
 |[.tup ds]=>k (.int ds.length)
 |[.str l]=>k (.int l.length)
 |_=>False
def qF(as:List D)(k:D->Prop):Prop:=
 match as with
 |[.lst ds]=>match bools ds with |some bs=>k (.bl (bs.all id)) |none=>False
 |_=>False
def qG(as:List D)(k:D->Prop):Prop:=
 match as with
 |[.bl b]=>k (.int (if b then 1 else 0))
 |[.int i]=>k (.int i)
 |[.str l]=>match PySem.intText? (tx l) with |some n=>l.length<=640/\k (.int n) |none=>False
 |_=>False
def wy(as:List D)(k:D->Prop):Prop:=
 match as with
 |[.lst ds]=>k (.tup ds)
 |[.tup ds]=>k (.tup ds)
 |_=>False
def wz(as:List D)(k:D->Prop):Prop:=
 match as with
 |[.lst ds]=>match bZ ds with |some ns=>k (.int ns.sum) |none=>False
 |_=>False
def jY(as:List D)(k:D->Prop):Prop:=
 match as with
 |[.lst ds]=>match bZ ds with
  |some ns=>ns≠[]/\∀m,m∈ns->(∀a,a∈ns->m<=a)->k (.int m)
  |none=>match bw ds with
   |some ls=>∀m,m∈ls->(∀a,a∈ls->¬a < m)->k (.str m)
   |none=>False
 |_=>False
def wA(as:List D)(k:D->Prop):Prop:=match as with
 |[.int a]=>k (.int (if a < 0 then -a else a))
 |_=>False
def wB(as:List D)(k:D->Prop):Prop:=match as with
 |[.int a,.int b]=>k (.int (if b < a then b else a))
 |_=>False
def DR(as:List D)(k:D->Prop):Prop:=
 match as with
 |[.int a,.int b]=>k (.int (if b > a then b else a))
 |_=>False
def gk(m:Nat):List Nat:=(v6 m).cps.toList
def wC(as:List D)(k:D->Prop):Prop:=
 match as with
 |[.int i]=>(0<=i/\i < 100)/\k (.str (gk i.toNat))
 |_=>False
noncomputable def opB:Bf->List D->(D->Prop)->Prop
 |.len=>ww
 |.all=>qF
 |.int=>qG
 |.tuple=>wy
 |.sum=>wz
 |.min=>jY
 |.max=>DR
 |.abs=>wA
 |.min2=>wB
 |.str=>wC
def wD(as:List D)(k:List D->Prop):Prop:=
 match as with
 |[.lst ds]=>k ds
 |[.tup ds]=>k ds
 |[.str l]=>k (l.map λc=>.str [c])
 |_=>False
def qH(as:List D)(k:List D->Prop):Prop:=
 match as with
 |[.lst ds]=>match bw ds with |some ls=>ls.length < 64/\∀ls':List (List Nat),ls'.Perm ls->PyProof.Rows.sortedS (ls'.map tx)=true->k (ls'.map D.str) |none=>False
 |[.tup ds]=>match bZ ds with |some ns=>ns.length < 64/\∀ns':List Int,ns'.Perm ns->ns'.Pairwise (·<=·)->k (ns'.map D.int) |none=>False
 |_=>False
def cL:Lf->List D->(List D->Prop)->Prop
 |.list=>wD
 |.sorted=>qH
noncomputable def isT(t:String)(d:D):Option Bool:=
 match d with
 |.non=>some false
 |.bl _=>some (t=="bool"||t=="int")
 |.int _=>some (t=="int")
 |.str _=>some (t=="str")
 |.tup _=>some (t=="tuple")
 |.lst _=>some (t=="list")
 |_=>none
def fG (t:String):Bool:=t=="bool"||t=="int"||t=="str"||t=="tuple"||t=="list"
def qI(o:D)(as:List D)(G:DH)(k:D->DH->Prop):Prop:=
 match o,as with
 |.str s,[.lst ds]=>match bw ds with |some ls=>((ls.map (·.length)).sum+ls.length * s.length<=sz)/\k (.str (dR s ls)) G |none=>False
 |_,_=>False
def qJ(o:D)(as:List D)(G:DH)(k:D->DH->Prop):Prop:=
 match o,as with
 |.ref p,[x]=>match G p with |some (.lst ds)=>ds.length < sz/\k .non (aD G p (.lst (ds++[x]))) |none=>False
 |_,_=>False
def qK(o:D)(as:List D)(G:DH)(k:D->DH->Prop):Prop:=
 match o,as with
 |.ref p,[.lst xs]=>match G p with |some (.lst ds)=>ds.length+xs.length < sz/\k .non (aD G p (.lst (ds++xs))) |none=>False
 |_,_=>False
def qL(o:D)(as:List D)(G:DH)(k:D->DH->Prop):Prop:=
 match o,as with
 |.ref p,[.int i,x]=>match G p with |some (.lst ds)=>ds.length < sz/\0<=i/\i<=1000000/\k .non (aD G p (.lst (ds.take i.toNat++x::ds.drop i.toNat))) |none=>False
 |_,_=>False
def wF(o:D)(as:List D)(G:DH)(k:D->DH->Prop):Prop:=
 match o,as with
 |.ref p,[.int i]=>match G p with |some (.lst ds)=>0<=i/\i<=1000000/\(match ds[i.toNat]? with |some y=>k y (aD G p (.lst (ds.eraseIdx i.toNat))) |none=>False) |none=>False
 |_,_=>False
def qM(o:D)(as:List D)(G:DH)(k:D->DH->Prop):Prop:=
 match o,as with
 |.lst ds,[.bl true]=>match bools ds with |some bs=>k (.int (bs.count true:Nat)) G |none=>False
 |_,_=>False
def qN(o:D)(as:List D)(G:DH)(k:D->DH->Prop):Prop:=
 match o,as with
 |.lst ds,[.bl true]=>match bools ds with |some bs=>true∈bs/\k (.int (bs.idxOf true:Nat)) G |none=>False
 |_,_=>False
def wG:D->Prop
 |.lst _=>True
 |_=>False
def recv(m:Mf)(o:D)(G:DH):Prop:=
 match m,o with
 |.join,.str _=>True
 |.append,.ref p=>match G p with |some (.lst _)=>True |none=>False
 |.extend,.ref p=>match G p with |some (.lst _)=>True |none=>False
 |.insert,.ref p=>match G p with |some (.lst _)=>True |none=>False
 |.pop,.ref p=>match G p with |some (.lst _)=>True |none=>False
 |.count,o=>wG (view G o)
 |.index,o=>wG (view G o)
 |_,_=>False
noncomputable def opM:Mf->D->List D->DH->(D->DH->Prop)->Prop
 |.join,o,as,G,k=>qI o (as.map (view G)) G k
 |.append,o,as,G,k=>qJ o as G k
 |.extend,o,as,G,k=>qK o (as.map (view G)) G k
 |.insert,o,as,G,k=>qL o as G k
 |.pop,o,as,G,k=>wF o as G k
 |.count,o,as,G,k=>qM (view G o) as G k
 |.index,o,as,G,k=>qN (view G o) as G k
def gm (C C':String):Bool:=C==C'||C'=="SieveError"||C'=="ValueError"
mutual
inductive Tg where
 |nm (i:Nat)
 |tp (ts:Tgs)
inductive Tgs where
 |nil
 |cons (t:Tg) (r:Tgs)
end
mutual
inductive Ex where
 |var (i:Nat)
 |cst (d:D)
 |glb (x:String) (d:D)
 |bin (op:Operator) (fz:Bool) (a b:Ex)
 |neg (a:Ex)
 |cmp (op:CmpOp) (a b:Ex)
 |chn (op op':CmpOp) (a b c:Ex)
 |not (a:Ex)
 |boo (isAnd:Bool) (e:Ex) (es:Exs)
 |ife (c:Tx) (a b:Ex)
 |tup (es:Exs)
 |lst (fz:Bool) (es:Exs)
 |idx (a i:Ex)
 |slc (fz:Bool) (a:Ex) (lo hi:Ox)
 |rvs (fz:Bool) (a s:Ex)
 |call (f:String) (es:Exs)
 |bcl (f:Bf) (es:Exs)
 |lcl (fz:Bool) (f:Lf) (es:Exs)
 |isi (a:Ex) (t:String)
 |isx (a:Ex) (C:String) (xs:List String)
 |fst (es:Exs)
 |rgl (fz:Bool) (a:Ex)
 |rgt (a:Ex)
 |rpl (f:String) (a b ix:Ex)
 |fld (C f:String) (o:Ex)
 |mcl (f C m:String) (o:Ex) (es:Exs)
 |mko (C:String) (es:Exs)
 |pp0 (o:Ex)
 |mth (m:Mf) (o:Ex) (es:Exs)
 |comp (fz:Bool) (elt:Ex) (tg:Tg) (it:It') (cond:Tx) (N:List String) (cap:List (Option Nat))
 |frz (a:Ex)
inductive Exs where
 |nil
 |cons (e:Ex) (es:Exs)
/-- a test -/
inductive Tx where
 |val (e:Ex)
 |not (t:Tx)
 |boo (isAnd:Bool) (t:Tx) (ts:Txs)
 |yes
inductive Txs where
 |nil
 |cons (t:Tx) (ts:Txs)
/-- a bound of a slice -/
inductive Ox where
 |no
 |ob (e:Ex)
/-- what a loop walks -/
inductive It' where
 |seq (e:Ex)
 |rng (a:Ex)
 |rng2 (a b:Ex)
 |rev (a:Ex)
 |dwn (a b c:Ex)
 |enm (e:Ex)
 |zip (a b:Ex)
end
inductive Tb where
 |call (f:String) (es:Exs)
 |asg (i:Nat) (f:String) (es:Exs)
 |pick (f g:String) (i:Nat) (es:Exs)
 |ite (c:Tx) (a b:Tb)
inductive Hd where
 |flag (i:Nat) (b:Bool)
 |bind (n i:Nat)
mutual
inductive Sx where
 |exp (e:Ex)
 |asg (t:Tg) (e:Ex)
 |set (o i e:Ex)
 |aug (i:Nat) (op:Operator) (e:Ex)
 |augs (o i:Ex) (op:Operator) (e:Ex)
 |ret (e:Ex)
 |rtn
 |ite (c:Tx) (a b:Sxs)
 |for_ (t:Tg) (it:It') (body:Sxs)
 |whl (c:Tx) (body:Sxs)
 |pas
 |brk
 |cnt
 |nev
 |rse (C:String) (es:Exs)
 |tryc (f:String) (es:Exs) (C:String) (i:Nat) (b:Bool)
 |tryx (b:Tb) (C:String) (h:Hd) (xs:List String)
inductive Sxs where
 |nil
 |cons (s:Sx) (r:Sxs)
end
structure Xn where
 cls:String
 fld:D
structure Spec where
 A:Type
 pre:List D->DH->A->Prop
 post:A->D->DH->Prop
 exc:A->Xn->DH->Prop
abbrev EK:=Xn->DH->Prop
def Spec.t(S:Spec)(ds:List D)(G:DH)(Q:D->DH->Prop)(E:EK):Prop:=
 ∃a,S.pre ds G a/\(∀d G',S.post a d G'->Q d G')/\∀x G',S.exc a x G'->E x G'
theorem Spec.mono{S:Spec}{ds:List D}{G:DH}{Q Q':D->DH->Prop}{E E':EK}(h:S.t ds G Q E)(hq:∀d G',Q d G'->Q' d G')(he:∀x G',E x G'->E' x G'):S.t ds G Q' E':=by obtain ⟨a,h1,h2,h3⟩:=h;exact ⟨a,h1,λd G' q=>hq _ _ (h2 d G' q),λx G' q=>he _ _ (h3 x G' q)⟩
abbrev aa:=String->Spec
def jh(C f:String)(d:D)(k:Addr->Prop):Prop:=match d with |.obj C' f' q=>C'=C/\f'=f/\k q |_=>False
def fH(C m:String)(d:D):Prop:=match d with |.obj C' f' _=>C'=C/\(Str.ofString m==Str.ofString f')=false |_=>False
def wH(d:D)(G:DH)(k:D->DH->Prop):Prop:=match d with |.ref p=>(match G p with |some (.lst ds)=>(match ds[ds.length - 1]? with |some y=>k y (aD G p (.lst ds.dropLast)) |none=>False) |none=>False) |_=>False
def wI(d:D)(k:List Nat->Prop):Prop:=match d with |.str l=>l.length<=1000/\k l |_=>False
def wJ(i:D)(l:List Nat)(k:List Nat->Prop):Prop:=match i with |.int n=>(match atI [48,49] n with |some c=>k (l.map λa=>if a=42 then c else a) |none=>False) |_=>False
mutual
noncomputable def aY:Tg->D->ak->DH->(ak->Prop)->Prop
 |.nm i,d,ρ,_,k=>k (ρ.set i (some d))
 |.tp ts,d,ρ,G,k=>match d with |.tup ds=>bH ts ds ρ G k |.lst ds=>bH ts ds ρ G k |_=>False
noncomputable def bH:Tgs->List D->ak->DH->(ak->Prop)->Prop
 |.nil,ds,ρ,_,k=>match ds with |[]=>k ρ |_=>False
 |.cons t r,ds,ρ,G,k=>match ds with |d::ds=>aY t d ρ G (λρ'=>bH r ds ρ' G k) |[]=>False
end
abbrev Hld:=List (Addr×List D)
def held:Hld->DH->Prop
 |[],_=>True
 | (a,ds)::r,G=>G a=some (.lst ds)/\held r G
noncomputable def compLoop(step:D->ak->DH->(Option D->ak->DH->Prop)->Prop)(g:Hld):List D->List D->ak->DH->(List D->DH->Prop)->Prop
 |[],acc,_,G,k=>held g G/\acc.length<=sz/\k acc G
 |d::ds,acc,ρ,G,k=>held g G/\acc.length < sz/\step d ρ G (λo ρ' G'=>match o with |some y=>compLoop step g ds (acc++[y]) ρ' G' k |none=>compLoop step g ds acc ρ' G' k)
def dw:Nat->List D->List D
 |_,[]=>[]
 |i,d::ds=>.tup [.int i,d]::dw (i+1) ds
def bI:List D->List D->List D
 |a::as,b::bs=>.tup [a,b]::bI as bs
 |_,_=>[]
noncomputable def itemsOf(G:DH):D->Option (List D×Hld)
 |.lst ds=>some (ds,[])
 |.tup ds=>some (ds,[])
 |.str l=>some (l.map λc=>.str [c],[])
 |.ref p=>match G p with |some (.lst ds)=>some (ds,[(p,ds)]) |none=>none
 |_=>none
def bC(lo:Int)(n:Nat):List D:=(List.range n).map λi=>.int (lo+(i:Nat))
def qO(lo:Int)(n:Nat):List D:=(List.range n).map λi=>.int (lo - (i:Nat))
def noE:EK:=λ_ _=>False
mutual
def wpE(Φ:aa):Ex->EK->ak->DH->(D->DH->Prop)->Prop
 |.var i,_,ρ,G,k=>match ρ[i]? with |some (some d)=>k d G |_=>False
 |.cst d,_,_,G,k=>k d G
 |.glb _ d,_,_,G,k=>k d G
 |.bin op fz a b,E,ρ,G,k=>wpE Φ a E ρ G λx G1=>wpE Φ b E ρ G1 λy G2=>cj op fz (view G2 x) (view G2 y) G2 k
 |.neg a,E,ρ,G,k=>wpE Φ a E ρ G λx G1=>match x with |.int i=>k (.int (-i)) G1 |_=>False
 |.cmp op a b,E,ρ,G,k=>wpE Φ a E ρ G λx G1=>wpE Φ b E ρ G1 λy G2=>aW op (view G2 x) (view G2 y) λc=>k (.bl c) G2
 |.chn op op' a b c,E,ρ,G,k=>wpE Φ a E ρ G λx G1=>wpE Φ b E ρ G1 λy G2=>aW op (view G2 x) (view G2 y) λt=>
   match t with
   |true=>wpE Φ c E ρ G2 λz G3=>aW op' (view G3 y) (view G3 z) λt'=>k (.bl t') G3
   |false=>k (.bl false) G2
 |.not a,E,ρ,G,k=>wpE Φ a E ρ G λx G1=>match truth (view G1 x) with |some b=>k (.bl (!b)) G1 |none=>False
 |.boo isAnd e es,E,ρ,G,k=>wpE Φ e E ρ G λd G1=>match d with |.bl b=>wpB Φ es isAnd b E ρ G1 (λc G2=>k (.bl c) G2) |_=>False
 |.ife c a b,E,ρ,G,k=>wpT Φ c E ρ G λt G1=>match t with |true=>wpE Φ a E ρ G1 k |false=>wpE Φ b E ρ G1 k
 |.tup es,E,ρ,G,k=>aN Φ es E ρ G λds G1=>ds.length<=sz/\k (.tup ds) G1
 |.lst fz es,E,ρ,G,k=>aN Φ es E ρ G λds G1=>ds.length<=sz/\mk fz ds G1 k
 |.idx a i,E,ρ,G,k=>wpE Φ a E ρ G λx G1=>wpE Φ i E ρ G1 λy G2=>cu (view G2 x) y λd=>k d G2
 |.slc fz a lo hi,E,ρ,G,k=>wpE Φ a E ρ G λx G1=>wpO Φ lo E ρ G1 λl G2=>wpO Φ hi E ρ G2 λh G3=>dO fz (view G3 x) l h G3 k
 |.rvs fz a s,E,ρ,G,k=>wpE Φ a E ρ G λx G1=>wpE Φ s E ρ G1 λy G2=>jg fz (view G2 x) y G2 k
 |.call f es,E,ρ,G,k=>aN Φ es E ρ G λds G1=>(Φ f).t ds G1 k E
 |.bcl f es,E,ρ,G,k=>aN Φ es E ρ G λds G1=>opB f (ds.map (view G1)) λd=>k d G1
 |.lcl fz f es,E,ρ,G,k=>aN Φ es E ρ G λds G1=>cL f (ds.map (view G1)) λxs=>mk fz xs G1 k
 |.isi a t,E,ρ,G,k=>wpE Φ a E ρ G λx G1=>match isT t (view G1 x) with |some b=>k (.bl b) G1 |none=>False
 |.isx a C xs,E,ρ,G,k=>wpE Φ a E ρ G λx G1=>match x with |.exn c=>xs.contains c=true/\k (.bl (gm c C)) G1 |_=>False
 |.fst es,E,ρ,G,k=>wpF Φ es E ρ G λl G1=>l.length<=sz/\k (.str l) G1
 |.rgl fz a,E,ρ,G,k=>wpE Φ a E ρ G λd G1=>match d with |.int n=>(0<=n/\n<=1000)/\mk fz (bC 0 n.toNat) G1 k |_=>False
 |.rpl f a b ix,E,ρ,G,k=>wpE Φ a E ρ G λda G1=>wpE Φ b E ρ G1 λdb G2=>cu (view G2 db) (.int 0) λd0=>(Φ f).t [da,d0] G2 (λd G3=>wI d λl=>wpE Φ ix E ρ G3 λi G4=>wJ i l λm=>k (.str m) G4) E
 |.fld C f o,E,ρ,G,k=>wpE Φ o E ρ G λd G1=>jh C f d λq=>k (.ref q) G1
 |.mcl f C m o es,E,ρ,G,k=>wpE Φ o E ρ G λd G1=>fH C m d/\aN Φ es E ρ G1 λds G2=>(Φ f).t (d::ds) G2 k E
 |.mko C es,E,ρ,G,k=>aN Φ es E ρ G λds G1=>(Φ C).t ds G1 k E
 |.pp0 o,E,ρ,G,k=>wpE Φ o E ρ G λd G1=>wH d G1 k
 |.rgt a,E,ρ,G,k=>wpE Φ a E ρ G λd G1=>match d with |.int n=>(0<=n/\n<=1000)/\k (.tup (bC 0 n.toNat)) G1 |_=>False
 |.mth m o es,E,ρ,G,k=>wpE Φ o E ρ G λx G1=>recv m x G1/\aN Φ es E ρ G1 λds G2=>opM m x ds G2 k
 |.comp fz elt tg it cond _ cap,E,ρ,G,k=>wpI Φ it E ρ G λitems g G1=>
   compLoop (λd ρ' G' k'=>aY tg d ρ' G' λρ1=>wpT Φ cond noE ρ1 G' λb G2=>match b with |true=>wpE Φ elt noE ρ1 G2 λy G3=>k' (some y) ρ1 G3 |false=>k' none ρ1 G2)
    g items [] (cap.map λo=>match o with |none=>none |some j=>(ρ[j]?).join) G1 λds G2=>mk fz ds G2 k
 |.frz a,E,ρ,G,k=>wpE Φ a E ρ G λx G1=>match x with |.ref p=>(match G1 p with |some (.lst ds)=>k (.lst ds) (gO G1 p) |none=>False) |d=>k d G1
/-- a test -/
def wpT(Φ:aa):Tx->EK->ak->DH->(Bool->DH->Prop)->Prop
 |.not a,E,ρ,G,k=>wpT Φ a E ρ G λb G1=>k (!b) G1
 |.boo isAnd e es,E,ρ,G,k=>wpT Φ e E ρ G λb G1=>fJ Φ es isAnd b E ρ G1 k
 |.yes,_,_,G,k=>k true G
 |.val x,E,ρ,G,k=>wpE Φ x E ρ G λd G1=>match truth (view G1 d) with |some b=>k b G1 |none=>False
def wpF(Φ:aa):Exs->EK->ak->DH->(List Nat->DH->Prop)->Prop
 |.nil,_,_,G,k=>k [] G
 |.cons e es,E,ρ,G,k=>wpE Φ e E ρ G λd G1=>match d with
  |.str l=>l.length<=1000/\wpF Φ es E ρ G1 λx G2=>k (l++x) G2
  |.int i=>(0<=i/\i < 100)/\wpF Φ es E ρ G1 λx G2=>k (gk i.toNat++x) G2
  |_=>False
def aN(Φ:aa):Exs->EK->ak->DH->(List D->DH->Prop)->Prop
 |.nil,_,_,G,k=>k [] G
 |.cons e es,E,ρ,G,k=>wpE Φ e E ρ G λd G1=>aN Φ es E ρ G1 λds G2=>k (d::ds) G2
/-- and,or as values:truths alone;b:the one ahead -/
def wpB(Φ:aa):Exs->Bool->Bool->EK->ak->DH->(Bool->DH->Prop)->Prop
 |.nil,_,b,_,_,G,k=>k b G
 |.cons e es,isAnd,b,E,ρ,G,k=>match isAnd,b with
  |true,false=>k false G
  |false,true=>k true G
  |_,_=>wpE Φ e E ρ G λd G1=>match d with |.bl b'=>wpB Φ es isAnd b' E ρ G1 k |_=>False
def fJ(Φ:aa):Txs->Bool->Bool->EK->ak->DH->(Bool->DH->Prop)->Prop
 |.nil,_,b,_,_,G,k=>k b G
 |.cons e es,isAnd,b,E,ρ,G,k=>match isAnd,b with
  |true,false=>k false G
  |false,true=>k true G
  |_,_=>wpT Φ e E ρ G λb' G1=>fJ Φ es isAnd b' E ρ G1 k
/-- a bound of a slice -/
def wpO(Φ:aa):Ox->EK->ak->DH->(Option Int->DH->Prop)->Prop
 |.no,_,_,G,k=>k none G
 |.ob x,E,ρ,G,k=>wpE Φ x E ρ G λd G1=>match d with |.int i=>k (some i) G1 |_=>False
def wpI(Φ:aa):It'->EK->ak->DH->(List D->Hld->DH->Prop)->Prop
 |.seq e,E,ρ,G,k=>wpE Φ e E ρ G λd G1=>match itemsOf G1 d with |some ds=>k ds.1 ds.2 G1 |none=>False
 |.rng a,E,ρ,G,k=>wpE Φ a E ρ G λd G1=>match d with |.int n=>(-(2 ^ 62)<=n/\n < 2 ^ 62)/\k (bC 0 n.toNat) [] G1 |_=>False
 |.rng2 a b,E,ρ,G,k=>wpE Φ a E ρ G λx G1=>wpE Φ b E ρ G1 λy G2=>match x,y with
  |.int m,.int n=>(-(2 ^ 62)<=m/\m < 2 ^ 62/\-(2 ^ 62)<=n/\n < 2 ^ 62)/\k (bC m (n - m).toNat) [] G2
  |_,_=>False
 |.rev a,E,ρ,G,k=>wpE Φ a E ρ G λd G1=>match d with |.int n=>(-(2 ^ 62)<=n/\n < 2 ^ 62)/\k (qO ((n.toNat:Int) - 1) n.toNat) [] G1 |_=>False
 |.dwn a b c,E,ρ,G,k=>wpE Φ a E ρ G λx G1=>wpE Φ b E ρ G1 λy G2=>wpE Φ c E ρ G2 λz G3=>match x,y,z with
  |.int m,.int n,.int s=>(s=-1/\-(2 ^ 62)<=m/\m < 2 ^ 62/\-(2 ^ 62)<=n/\n < 2 ^ 62)/\k (qO m (m - n).toNat) [] G3
  |_,_,_=>False
 |.enm e,E,ρ,G,k=>wpE Φ e E ρ G λd G1=>match itemsOf G1 d with |some ds=>k (dw 0 ds.1) ds.2 G1 |none=>False
 |.zip a b,E,ρ,G,k=>wpE Φ a E ρ G λx G1=>wpE Φ b E ρ G1 λy G2=>match itemsOf G2 x,itemsOf G2 y with |some ds,some es=>k (bI ds.1 es.1) (ds.2++es.2) G2 |_,_=>False
end
structure En where
 nx:ak->DH->Prop
 rt:D->DH->Prop
 bk:ak->DH->Prop
 ct:ak->DH->Prop
noncomputable def forLoop(step:D->ak->DH->(ak->DH->Prop)->Prop)(g:Hld):List D->ak->DH->(ak->DH->Prop)->Prop
 |[],ρ,G,k=>held g G/\k ρ G
 |d::ds,ρ,G,k=>held g G/\step d ρ G λρ' G'=>forLoop step g ds ρ' G' k
def whileLoop(test:ak->DH->(Bool->DH->Prop)->Prop)(body:ak->DH->(ak->DH->Prop)->Prop):Nat->ak->DH->(ak->DH->Prop)->Prop
 |0,_,_,_=>False
 |n+1,ρ,G,k=>test ρ G λb G1=>match b with |true=>body ρ G1 λρ' G'=>whileLoop test body n ρ' G' k |false=>k ρ G1
def dU(o i x:D)(G:DH)(k:DH->Prop):Prop:=
 match o,i with
 |.ref p,.int i=>match G p with |some (.lst ds)=>(match ixN ds.length i with |some j=>k (aD G p (.lst (ds.set j x))) |none=>False) |none=>False
 |_,_=>False
def dz(op:Operator)(a b:D)(k:D->Prop):Prop:=
 match op,a,b with
 |.Add,.int i,.int j=>k (.int (i+j))
 |.Add,.str x,.str y=>x.length+y.length<=sz/\k (.str (x++y))
 |.Sub,.int i,.int j=>k (.int (i - j))
 |_,_,_=>False
def wK:D->Bool
 |.int i=>decide (0<=i)&&decide (i < 100)
 |_=>false
def wpM(Φ:aa):Exs->EK->ak->DH->(DH->Prop)->Prop
 |.nil,_,_,G,k=>k G
 |.cons e es,E,ρ,G,k=>wpE Φ e E ρ G λd G1=>wK d=true/\wpM Φ es E ρ G1 k
def wpX(Φ:aa):Tb->ak->DH->(ak->DH->Prop)->(Xn->ak->DH->Prop)->Prop
 |.call f es,ρ,G,nx,ex=>aN Φ es noE ρ G λds G1=>(Φ f).t ds G1 (λ_ G2=>nx ρ G2) λx G2=>ex x ρ G2
 |.asg i f es,ρ,G,nx,ex=>aN Φ es noE ρ G λds G1=>(Φ f).t ds G1 (λd G2=>nx (ρ.set i (some d)) G2) λx G2=>ex x ρ G2
 |.pick f g i es,ρ,G,nx,ex=>wpE Φ (.var i) noE ρ G λd G1=>∃b:Bool,d=.int (if b then 1 else 0)/\aN Φ es noE ρ G1 λds G2=>(Φ (if b then g else f)).t ds G2 (λ_ G3=>nx ρ G3) λx G3=>ex x ρ G3
 |.ite c a b,ρ,G,nx,ex=>wpT Φ c noE ρ G λt G1=>match t with |true=>wpX Φ a ρ G1 nx ex |false=>wpX Φ b ρ G1 nx ex
def caught(h:Hd)(C:String)(ρ:ak):ak:=match h with
 |.flag i b=>ρ.set i (some (.bl b))
 |.bind n i=>((ρ.set n (some (.exn C))).set i (some (.exn C))).set n none
mutual
def wpS(Φ:aa):Sx->EK->ak->DH->En->Prop
 |.exp e,E,ρ,G,D=>wpE Φ e E ρ G λ_ G1=>D.nx ρ G1
 |.asg t e,E,ρ,G,D=>wpE Φ e E ρ G λd G1=>aY t d ρ G1 λρ'=>D.nx ρ' G1
 |.set o i e,E,ρ,G,D=>wpE Φ e E ρ G λx G1=>wpE Φ o E ρ G1 λa G2=>wpE Φ i E ρ G2 λy G3=>dU a y x G3 λG4=>D.nx ρ G4
 |.aug i op e,E,ρ,G,D=>match ρ[i]? with
  |some (some a)=>wpE Φ e E ρ G λb G1=>dz op a b λc=>D.nx (ρ.set i (some c)) G1
  |_=>False
 |.augs o i op e,E,ρ,G,D=>wpE Φ o E ρ G λa G1=>wpE Φ i E ρ G1 λy G2=>cu (view G2 a) y λold=>wpE Φ e E ρ G2 λb G3=>dz op old b λc=>dU a y c G3 λG4=>D.nx ρ G4
 |.ret e,E,ρ,G,D=>wpE Φ e E ρ G D.rt
 |.rtn,_,_,G,D=>D.rt .non G
 |.ite c a b,E,ρ,G,D=>wpT Φ c E ρ G λt G1=>match t with |true=>au Φ a E ρ G1 D |false=>au Φ b E ρ G1 D
 |.for_ t it body,E,ρ,G,D=>wpI Φ it E ρ G λitems g G1=>
   forLoop (λd ρ' G' k=>aY t d ρ' G' λρ1=>au Φ body E ρ1 G' { D with nx:=k,ct:=k,bk:=D.nx }) g items ρ G1 D.nx
 |.whl c body,E,ρ,G,D=>∃n,whileLoop (λρ' G' k=>wpT Φ c E ρ' G' k) (λρ' G' k=>au Φ body E ρ' G' { D with nx:=k,ct:=k,bk:=D.nx }) n ρ G D.nx
 |.pas,_,ρ,G,D=>D.nx ρ G
 |.brk,_,ρ,G,D=>D.bk ρ G
 |.cnt,_,ρ,G,D=>D.ct ρ G
 |.nev,_,_,_,_=>False
 |.rse C es,E,ρ,G,_=>wpM Φ es E ρ G λG1=>E ⟨C,.non⟩ G1
 |.tryc f es C i b,_,ρ,G,D=>aN Φ es noE ρ G λds G1=>(Φ f).t ds G1 (λ_ G2=>D.nx ρ G2) λx G2=>x.cls=C/\x.fld=.non/\D.nx (ρ.set i (some (.bl b))) G2
 |.tryx b C h xs,_,ρ,G,D=>wpX Φ b ρ G D.nx λx ρ' G'=>x.fld=.non/\xs.contains x.cls=true/\gm x.cls C=true/\D.nx (caught h x.cls ρ') G'
def au(Φ:aa):Sxs->EK->ak->DH->En->Prop
 |.nil,_,ρ,G,D=>D.nx ρ G
 |.cons s r,E,ρ,G,D=>wpS Φ s E ρ G { D with nx:=λρ' G'=>au Φ r E ρ' G' D }
end
theorem qP{Φ:aa}{a}{E}{ρ}{G}{k}:wpT Φ (.not a) E ρ G k=(wpT Φ a E ρ G λb G1=>k (!b) G1):=rfl
theorem qQ{Φ:aa}{isAnd}{e}{es}{E}{ρ}{G}{k}:wpT Φ (.boo isAnd e es) E ρ G k=(wpT Φ e E ρ G λb G1=>fJ Φ es isAnd b E ρ G1 k):=rfl
theorem qR{Φ:aa}{E}{ρ}{G}{k}:wpT Φ .yes E ρ G k=(k true G):=rfl
theorem ji{Φ:aa}{x}{E}{ρ}{G}{k}:wpT Φ (.val x) E ρ G k=(wpE Φ x E ρ G λd G1=>match truth (view G1 d) with |some b=>k b G1 |none=>False):=rfl
theorem gn{Φ:aa}{E}{ρ}{G}{k}:aN Φ .nil E ρ G k=(k [] G):=rfl
theorem gq{Φ:aa}{e}{es}{E}{ρ}{G}{k}:aN Φ (.cons e es) E ρ G k=(wpE Φ e E ρ G λd G1=>aN Φ es E ρ G1 λds G2=>k (d::ds) G2):=rfl
theorem qT{Φ:aa}{isAnd:Bool}{b:Bool}{E}{ρ}{G}{k}:wpB Φ .nil isAnd b E ρ G k=(k b G):=rfl
theorem jZ{Φ:aa}{e}{es}{isAnd:Bool}{b:Bool}{E}{ρ}{G}{k}:wpB Φ (.cons e es) isAnd b E ρ G k=(match isAnd,b with
  |true,false=>k false G
  |false,true=>k true G
  |_,_=>wpE Φ e E ρ G λd G1=>match d with |.bl b'=>wpB Φ es isAnd b' E ρ G1 k |_=>False):=rfl
theorem qU{Φ:aa}{isAnd:Bool}{b:Bool}{E}{ρ}{G}{k}:fJ Φ .nil isAnd b E ρ G k=(k b G):=rfl
theorem j0{Φ:aa}{e}{es}{isAnd:Bool}{b:Bool}{E}{ρ}{G}{k}:fJ Φ (.cons e es) isAnd b E ρ G k=(match isAnd,b with
  |true,false=>k false G
  |false,true=>k true G
  |_,_=>wpT Φ e E ρ G λb' G1=>fJ Φ es isAnd b' E ρ G1 k):=rfl
theorem qW{Φ:aa}{E}{ρ}{G}{k}:wpO Φ .no E ρ G k=(k none G):=rfl
theorem qX{Φ:aa}{x}{E}{ρ}{G}{k}:wpO Φ (.ob x) E ρ G k=(wpE Φ x E ρ G λd G1=>match d with |.int i=>k (some i) G1 |_=>False):=rfl
theorem qY{Φ:aa}{e}{E}{ρ}{G}{k}:wpI Φ (.seq e) E ρ G k=(wpE Φ e E ρ G λd G1=>match itemsOf G1 d with |some ds=>k ds.1 ds.2 G1 |none=>False):=rfl
theorem qZ{Φ:aa}{a}{E}{ρ}{G}{k}:wpI Φ (.rng a) E ρ G k=(wpE Φ a E ρ G λd G1=>match d with |.int n=>(-(2 ^ 62)<=n/\n < 2 ^ 62)/\k (bC 0 n.toNat) [] G1 |_=>False):=rfl
theorem wL{Φ:aa}{a}{b}{E}{ρ}{G}{k}:wpI Φ (.rng2 a b) E ρ G k=(wpE Φ a E ρ G λx G1=>wpE Φ b E ρ G1 λy G2=>match x,y with
  |.int m,.int n=>(-(2 ^ 62)<=m/\m < 2 ^ 62/\-(2 ^ 62)<=n/\n < 2 ^ 62)/\k (bC m (n - m).toNat) [] G2
  |_,_=>False):=rfl
theorem wM{Φ:aa}{a}{E}{ρ}{G}{k}:wpI Φ (.rev a) E ρ G k=(wpE Φ a E ρ G λd G1=>match d with |.int n=>(-(2 ^ 62)<=n/\n < 2 ^ 62)/\k (qO ((n.toNat:Int) - 1) n.toNat) [] G1 |_=>False):=rfl
theorem wN{Φ:aa}{a}{b}{c}{E}{ρ}{G}{k}:wpI Φ (.dwn a b c) E ρ G k=(wpE Φ a E ρ G λx G1=>wpE Φ b E ρ G1 λy G2=>wpE Φ c E ρ G2 λz G3=>match x,y,z with
  |.int m,.int n,.int s=>(s=-1/\-(2 ^ 62)<=m/\m < 2 ^ 62/\-(2 ^ 62)<=n/\n < 2 ^ 62)/\k (qO m (m - n).toNat) [] G3
  |_,_,_=>False):=rfl
theorem q8{Φ:aa}{e}{E}{ρ}{G}{k}:wpI Φ (.enm e) E ρ G k=(wpE Φ e E ρ G λd G1=>match itemsOf G1 d with |some ds=>k (dw 0 ds.1) ds.2 G1 |none=>False):=rfl
theorem q9{Φ:aa}{a}{b}{E}{ρ}{G}{k}:wpI Φ (.zip a b) E ρ G k=(wpE Φ a E ρ G λx G1=>wpE Φ b E ρ G1 λy G2=>match itemsOf G2 x,itemsOf G2 y with |some ds,some es=>k (bI ds.1 es.1) (ds.2++es.2) G2 |_,_=>False):=rfl
theorem jj{Φ:aa}{E}{ρ}{G}{D}:au Φ .nil E ρ G D=(D.nx ρ G):=rfl
theorem jk{Φ:aa}{s}{r}{E}{ρ}{G}{D}:au Φ (.cons s r) E ρ G D=(wpS Φ s E ρ G { D with nx:=λρ' G'=>au Φ r E ρ' G' D }):=rfl
theorem rm{Φ:aa}{i E ρ G k}:wpE Φ (.var i) E ρ G k=(match ρ[i]? with |some (some d)=>k d G |_=>False):=rfl
theorem gQ{Φ:aa}{d E ρ G k}:wpE Φ (.cst d) E ρ G k=(k d G):=rfl
theorem rn{Φ:aa}{u0 d E ρ G k}:wpE Φ (.glb u0 d) E ρ G k=(k d G):=rfl
theorem rz{Φ:aa}{op fz a b E ρ G k}:wpE Φ (.bin op fz a b) E ρ G k=(wpE Φ a E ρ G λx G1=>wpE Φ b E ρ G1 λy G2=>cj op fz (view G2 x) (view G2 y) G2 k):=rfl
theorem rA{Φ:aa}{a E ρ G k}:wpE Φ (.neg a) E ρ G k=(wpE Φ a E ρ G λx G1=>match x with |.int i=>k (.int (-i)) G1 |_=>False):=rfl
theorem j4{Φ:aa}{op a b E ρ G k}:wpE Φ (.cmp op a b) E ρ G k=(wpE Φ a E ρ G λx G1=>wpE Φ b E ρ G1 λy G2=>aW op (view G2 x) (view G2 y) λc=>k (.bl c) G2):=rfl
theorem j5{Φ:aa}{op op' a b c E ρ G k}:wpE Φ (.chn op op' a b c) E ρ G k=(wpE Φ a E ρ G λx G1=>wpE Φ b E ρ G1 λy G2=>aW op (view G2 x) (view G2 y) λt=>
   match t with
   |true=>wpE Φ c E ρ G2 λz G3=>aW op' (view G3 y) (view G3 z) λt'=>k (.bl t') G3
   |false=>k (.bl false) G2):=rfl
theorem rB{Φ:aa}{a E ρ G k}:wpE Φ (.not a) E ρ G k=(wpE Φ a E ρ G λx G1=>match truth (view G1 x) with |some b=>k (.bl (!b)) G1 |none=>False):=rfl
theorem rD{Φ:aa}{isAnd e es E ρ G k}:wpE Φ (.boo isAnd e es) E ρ G k=(wpE Φ e E ρ G λd G1=>match d with |.bl b=>wpB Φ es isAnd b E ρ G1 (λc G2=>k (.bl c) G2) |_=>False):=rfl
theorem rE{Φ:aa}{c a b E ρ G k}:wpE Φ (.ife c a b) E ρ G k=(wpT Φ c E ρ G λt G1=>match t with |true=>wpE Φ a E ρ G1 k |false=>wpE Φ b E ρ G1 k):=rfl
theorem rF{Φ:aa}{es E ρ G k}:wpE Φ (.tup es) E ρ G k=(aN Φ es E ρ G λds G1=>ds.length<=sz/\k (.tup ds) G1):=rfl
theorem rG{Φ:aa}{fz es E ρ G k}:wpE Φ (.lst fz es) E ρ G k=(aN Φ es E ρ G λds G1=>ds.length<=sz/\mk fz ds G1 k):=rfl
theorem rH{Φ:aa}{a i E ρ G k}:wpE Φ (.idx a i) E ρ G k=(wpE Φ a E ρ G λx G1=>wpE Φ i E ρ G1 λy G2=>cu (view G2 x) y λd=>k d G2):=rfl
theorem wO{Φ:aa}{fz a s E ρ G k}:wpE Φ (.rvs fz a s) E ρ G k=(wpE Φ a E ρ G λx G1=>wpE Φ s E ρ G1 λy G2=>jg fz (view G2 x) y G2 k):=rfl
theorem rJ{Φ:aa}{fz a lo hi E ρ G k}:wpE Φ (.slc fz a lo hi) E ρ G k=(wpE Φ a E ρ G λx G1=>wpO Φ lo E ρ G1 λl G2=>wpO Φ hi E ρ G2 λh G3=>dO fz (view G3 x) l h G3 k):=rfl
theorem rK{Φ:aa}{f es E ρ G k}:wpE Φ (.call f es) E ρ G k=(aN Φ es E ρ G λds G1=>(Φ f).t ds G1 k E):=rfl
theorem rM{Φ:aa}{f es E ρ G k}:wpE Φ (.bcl f es) E ρ G k=(aN Φ es E ρ G λds G1=>opB f (ds.map (view G1)) λd=>k d G1):=rfl
theorem rN{Φ:aa}{fz f es E ρ G k}:wpE Φ (.lcl fz f es) E ρ G k=(aN Φ es E ρ G λds G1=>cL f (ds.map (view G1)) λxs=>mk fz xs G1 k):=rfl
theorem rO{Φ:aa}{a t E ρ G k}:wpE Φ (.isi a t) E ρ G k=(wpE Φ a E ρ G λx G1=>match isT t (view G1 x) with |some b=>k (.bl b) G1 |none=>False):=rfl
theorem wQ{Φ:aa}{a C xs E ρ G k}:wpE Φ (.isx a C xs) E ρ G k=(wpE Φ a E ρ G λx G1=>match x with |.exn c=>xs.contains c=true/\k (.bl (gm c C)) G1 |_=>False):=rfl
theorem wR{Φ:aa}{fz a E ρ G k}:wpE Φ (.rgl fz a) E ρ G k=(wpE Φ a E ρ G λd G1=>match d with |.int n=>(0<=n/\n<=1000)/\mk fz (bC 0 n.toNat) G1 k |_=>False):=rfl
theorem Y4{Φ:aa}{f a b ix E ρ G k}:wpE Φ (.rpl f a b ix) E ρ G k=(wpE Φ a E ρ G λda G1=>wpE Φ b E ρ G1 λdb G2=>cu (view G2 db) (.int 0) λd0=>(Φ f).t [da,d0] G2 (λd G3=>wI d λl=>wpE Φ ix E ρ G3 λi G4=>wJ i l λm=>k (.str m) G4) E):=rfl
theorem rP{Φ:aa}{C f o E ρ G k}:wpE Φ (.fld C f o) E ρ G k=(wpE Φ o E ρ G λd G1=>jh C f d λq=>k (.ref q) G1):=rfl
theorem rQ{Φ:aa}{f C m o es E ρ G k}:wpE Φ (.mcl f C m o es) E ρ G k=(wpE Φ o E ρ G λd G1=>fH C m d/\aN Φ es E ρ G1 λds G2=>(Φ f).t (d::ds) G2 k E):=rfl
theorem rR{Φ:aa}{C es E ρ G k}:wpE Φ (.mko C es) E ρ G k=(aN Φ es E ρ G λds G1=>(Φ C).t ds G1 k E):=rfl
theorem wU{Φ:aa}{o E ρ G k}:wpE Φ (.pp0 o) E ρ G k=(wpE Φ o E ρ G λd G1=>wH d G1 k):=rfl
theorem wV{Φ:aa}{a E ρ G k}:wpE Φ (.rgt a) E ρ G k=(wpE Φ a E ρ G λd G1=>match d with |.int n=>(0<=n/\n<=1000)/\k (.tup (bC 0 n.toNat)) G1 |_=>False):=rfl
theorem wW{Φ:aa}{es E ρ G k}:wpE Φ (.fst es) E ρ G k=(wpF Φ es E ρ G λl G1=>l.length<=sz/\k (.str l) G1):=rfl
theorem wX{Φ:aa}{E ρ G k}:wpF Φ .nil E ρ G k=k [] G:=rfl
theorem wY{Φ:aa}{e es E ρ G k}:wpF Φ (.cons e es) E ρ G k=(wpE Φ e E ρ G λd G1=>match d with
  |.str l=>l.length<=1000/\wpF Φ es E ρ G1 λx G2=>k (l++x) G2
  |.int i=>(0<=i/\i < 100)/\wpF Φ es E ρ G1 λx G2=>k (gk i.toNat++x) G2
  |_=>False):=rfl
theorem eV{Φ:aa}{m o es E ρ G k}:wpE Φ (.mth m o es) E ρ G k=(wpE Φ o E ρ G λx G1=>recv m x G1/\aN Φ es E ρ G1 λds G2=>opM m x ds G2 k):=rfl
theorem rT{Φ:aa}{a E ρ G k}:wpE Φ (.frz a) E ρ G k=(wpE Φ a E ρ G λx G1=>match x with |.ref p=>(match G1 p with |some (.lst ds)=>k (.lst ds) (gO G1 p) |none=>False) |d=>k d G1):=rfl
theorem rW{Φ:aa}{e E ρ G D}:wpS Φ (.exp e) E ρ G D=(wpE Φ e E ρ G λ_ G1=>D.nx ρ G1):=rfl
theorem jl{Φ:aa}{t e E ρ G D}:wpS Φ (.asg t e) E ρ G D=(wpE Φ e E ρ G λd G1=>aY t d ρ G1 λρ'=>D.nx ρ' G1):=rfl
theorem rY{Φ:aa}{o i e E ρ G D}:wpS Φ (.set o i e) E ρ G D=(wpE Φ e E ρ G λx G1=>wpE Φ o E ρ G1 λa G2=>wpE Φ i E ρ G2 λy G3=>dU a y x G3 λG4=>D.nx ρ G4):=rfl
theorem rZ{Φ:aa}{i op e E ρ G D}:wpS Φ (.aug i op e) E ρ G D=(match ρ[i]? with
  |some (some a)=>wpE Φ e E ρ G λb G1=>dz op a b λc=>D.nx (ρ.set i (some c)) G1
  |_=>False):=rfl
theorem wZ{Φ:aa}{o i op e E ρ G D}:wpS Φ (.augs o i op e) E ρ G D=(wpE Φ o E ρ G λa G1=>wpE Φ i E ρ G1 λy G2=>cu (view G2 a) y λold=>wpE Φ e E ρ G2 λb G3=>dz op old b λc=>dU a y c G3 λG4=>D.nx ρ G4):=rfl
theorem sr{Φ:aa}{e E ρ G D}:wpS Φ (.ret e) E ρ G D=(wpE Φ e E ρ G D.rt):=rfl
theorem su{Φ:aa}{E ρ G D}:wpS Φ .rtn E ρ G D=(D.rt .non G):=rfl
theorem sy{Φ:aa}{c a b E ρ G D}:wpS Φ (.ite c a b) E ρ G D=(wpT Φ c E ρ G λt G1=>match t with |true=>au Φ a E ρ G1 D |false=>au Φ b E ρ G1 D):=rfl
theorem sE{Φ:aa}{E ρ G D}:wpS Φ .pas E ρ G D=(D.nx ρ G):=rfl
theorem sG{Φ:aa}{E ρ G D}:wpS Φ .brk E ρ G D=(D.bk ρ G):=rfl
theorem sH{Φ:aa}{E ρ G D}:wpS Φ .cnt E ρ G D=(D.ct ρ G):=rfl
theorem j6{Φ:aa}{C es E ρ G D}:wpS Φ (.rse C es) E ρ G D=(wpM Φ es E ρ G λG1=>E ⟨C,.non⟩ G1):=rfl
theorem w5{Φ:aa}{E ρ G k}:wpM Φ .nil E ρ G k=k G:=rfl
theorem sI{Φ:aa}{e es E ρ G k}:wpM Φ (.cons e es) E ρ G k=(wpE Φ e E ρ G λd G1=>wK d=true/\wpM Φ es E ρ G1 k):=rfl
theorem xf{Φ:aa}{f es C i b E ρ G D}:wpS Φ (.tryc f es C i b) E ρ G D=(aN Φ es noE ρ G λds G1=>(Φ f).t ds G1 (λ_ G2=>D.nx ρ G2) λx G2=>x.cls=C/\x.fld=.non/\D.nx (ρ.set i (some (.bl b))) G2):=rfl
theorem xg{Φ:aa}{b C h xs E ρ G D}:wpS Φ (.tryx b C h xs) E ρ G D=(wpX Φ b ρ G D.nx λx ρ' G'=>x.fld=.non/\xs.contains x.cls=true/\gm x.cls C=true/\D.nx (caught h x.cls ρ') G'):=rfl
theorem xj{Φ:aa}{f g i es ρ G nx ex}:wpX Φ (.pick f g i es) ρ G nx ex=(wpE Φ (.var i) noE ρ G λd G1=>∃b:Bool,d=.int (if b then 1 else 0)/\aN Φ es noE ρ G1 λds G2=>(Φ (if b then g else f)).t ds G2 (λ_ G3=>nx ρ G3) λx G3=>ex x ρ G3):=rfl
theorem xm{Φ:aa}{f es ρ G nx ex}:wpX Φ (.call f es) ρ G nx ex=(aN Φ es noE ρ G λds G1=>(Φ f).t ds G1 (λ_ G2=>nx ρ G2) λx G2=>ex x ρ G2):=rfl
theorem xq{Φ:aa}{i f es ρ G nx ex}:wpX Φ (.asg i f es) ρ G nx ex=(aN Φ es noE ρ G λds G1=>(Φ f).t ds G1 (λd G2=>nx (ρ.set i (some d)) G2) λx G2=>ex x ρ G2):=rfl
theorem xr{Φ:aa}{c a b ρ G nx ex}:wpX Φ (.ite c a b) ρ G nx ex=(wpT Φ c noE ρ G λt G1=>match t with |true=>wpX Φ a ρ G1 nx ex |false=>wpX Φ b ρ G1 nx ex):=rfl
theorem sJ{Φ:aa}{E ρ G D}:wpS Φ .nev E ρ G D=(False):=rfl
theorem xu{Φ:aa}{fz elt tg it cond N cap E ρ G k}:wpE Φ (.comp fz elt tg it cond N cap) E ρ G k=(wpI Φ it E ρ G λitems g G1=>
   compLoop (λd ρ' G' k'=>aY tg d ρ' G' λρ1=>wpT Φ cond noE ρ1 G' λb G2=>match b with |true=>wpE Φ elt noE ρ1 G2 λy G3=>k' (some y) ρ1 G3 |false=>k' none ρ1 G2)
    g items [] (cap.map λo=>match o with |none=>none |some j=>(ρ[j]?).join) G1 λds G2=>mk fz ds G2 k):=rfl
theorem DW{Φ:aa}{t it body E ρ G D}:wpS Φ (.for_ t it body) E ρ G D=(wpI Φ it E ρ G λitems g G1=>
   forLoop (λd ρ' G' k=>aY t d ρ' G' λρ1=>au Φ body E ρ1 G' { D with nx:=k,ct:=k,bk:=D.nx }) g items ρ G1 D.nx):=rfl
theorem Y5{Φ:aa}{c body E ρ G D}:wpS Φ (.whl c body) E ρ G D=(∃n,whileLoop (λρ' G' k=>wpT Φ c E ρ' G' k) (λρ' G' k=>au Φ body E ρ' G' { D with nx:=k,ct:=k,bk:=D.nx }) n ρ G D.nx):=rfl
section
variable {k k':D->DH->Prop} {G:DH}
theorem dB{fz:Bool}{xs:List D}(h:∀d G',k d G'->k' d G')(q:mk fz xs G k):mk fz xs G k':=by
 cases fz with
 |true=>exact h _ _ q
 |false=>exact λp hp=>h _ _ (q p hp)
theorem DX{a b:D}{p:Int->Int->Prop}(h:gj a b p):∃i j,a=.int i/\b=.int j/\p i j:=by
 cases a with
 |int i=>cases b with
  |int j=>exact ⟨i,j,rfl,rfl,h⟩
  |_=>exact h.elim
 |_=>exact h.elim
theorem sO{a b:D}{p q:Int->Int->Prop}(h:∀i j,p i j->q i j)(z:gj a b p):gj a b q:=by obtain ⟨i,j,rfl,rfl,z⟩:=DX z;exact h i j z
theorem DY{op:Operator}{fz:Bool}{a b:D}(h:∀d G',k d G'->k' d G')(q:cj op fz a b G k):cj op fz a b G k':=by
 cases op with
 |Add=>
  have q:iW fz a b G k:=q;show iW fz a b G k';unfold iW at q ⊢;cases a with
  |int i=>cases b <;> first |exact h _ _ q |exact q
  |str i=>cases b <;> first |exact ⟨q.1,h _ _ q.2⟩ |exact q
  |lst i=>cases b <;> first |exact ⟨q.1,dB h q.2⟩ |exact q
  |tup i=>cases b <;> first |exact ⟨q.1,h _ _ q.2⟩ |exact q
  |_=>exact q
 |Sub=>exact sO (λ_ _ z=>h _ _ z) q
 |Mult=>
  have q:iY fz a b G k:=q;show iY fz a b G k';unfold iY at q ⊢;cases b with
  |int n=>cases a <;> first |exact ⟨q.1,h _ _ q.2⟩ |exact ⟨q.1,q.2.1,q.2.2.1,h _ _ q.2.2.2⟩ |exact ⟨q.1,q.2.1,q.2.2.1,dB h q.2.2.2⟩ |exact ⟨q.1,q.2.1,q.2.2.1,q.2.2.2.1,h _ _ q.2.2.2.2⟩ |exact q
  |_=>exact q
 |FloorDiv=>exact sO (λ_ _ z=>⟨z.1,h _ _ z.2⟩) q
 |Mod=>exact sO (λ_ _ z=>⟨z.1,h _ _ z.2⟩) q
 |Pow=>exact sO (λ_ _ z=>⟨z.1,h _ _ z.2⟩) q
 |_=>exact q
theorem Ea{a b:D}{k k':Bool->Prop}(h:∀c,k c->k' c)(q:fD a b k):fD a b k':=by
 unfold fD at q ⊢;split at q
 ·split at q
  ·exact h _ q
  ·exact q
 ·exact ⟨q.1,h _ q.2⟩
 ·exact ⟨q.1,h _ q.2⟩
 ·exact q
theorem gR{op:CmpOp}{a b:D}{k k':Bool->Prop}(h:∀c,k c->k' c)(q:aW op a b k):aW op a b k':=by
 cases op with
 |Eq=>exact ⟨q.1,h _ q.2⟩
 |NotEq=>exact ⟨q.1,h _ q.2⟩
 |Lt=>have q:iZ a b k:=q;show iZ a b k';unfold iZ at q ⊢;split at q <;> first |exact h _ q |exact q
 |LtE=>have q:jb a b k:=q;show jb a b k';unfold jb at q ⊢;split at q <;> first |exact h _ q |exact q
 |Gt=>have q:jc a b k:=q;show jc a b k';unfold jc at q ⊢;split at q <;> first |exact h _ q |exact q
 |GtE=>have q:jd a b k:=q;show jd a b k';unfold jd at q ⊢;split at q <;> first |exact h _ q |exact q
 |Is=>
  have q:je a b k:=q;show je a b k';unfold je at q ⊢;split at q
  ·exact h _ q
  ·split at q
   ·exact h _ q
   ·exact q
  ·exact q
 |IsNot=>
  have q:jf a b k:=q;show jf a b k';unfold jf at q ⊢;split at q
  ·exact h _ q
  ·split at q
   ·exact h _ q
   ·exact q
  ·exact q
 |In=>exact Ea h q
 |NotIn=>exact Ea (λc=>h _) q
theorem sS{a i:D}{k k':D->Prop}(h:∀c,k c->k' c)(q:cu a i k):cu a i k':=by
 unfold cu at q ⊢;split at q
 ·split at q
  ·exact h _ q
  ·exact q
 ·split at q
  ·exact h _ q
  ·exact q
 ·split at q
  ·exact h _ q
  ·exact q
 ·exact q
theorem Eb{fz:Bool}{a:D}{lo hi:Option Int}(h:∀d G',k d G'->k' d G')(q:dO fz a lo hi G k):dO fz a lo hi G k':=by
 unfold dO at q ⊢;split at q <;> first
  |exact dB h q
  |exact h _ _ q
  |exact q.elim
theorem Y6{fz:Bool}{a y:D}(h:∀d G',k d G'->k' d G')(q:jg fz a y G k):jg fz a y G k':=by
 unfold jg at q ⊢;split at q
 ·exact ⟨q.1,dB h q.2⟩
 ·exact q.elim
theorem Ec{f:Bf}{as:List D}{k k':D->Prop}(h:∀c,k c->k' c)(q:opB f as k):opB f as k':=by
 cases f with
 |len=>simp only[opB,ww]at q ⊢;split at q <;> first |exact h _ q |exact q.elim
 |all=>
  simp only[opB,qF]at q ⊢;split at q
  ·split at q
   ·exact h _ q
   ·exact q
  ·exact q
 |int=>
  simp only[opB,qG]at q ⊢;split at q
  ·exact h _ q
  ·exact h _ q
  ·split at q
   ·exact ⟨q.1,h _ q.2⟩
   ·exact q
  ·exact q
 |tuple=>simp only[opB,wy]at q ⊢;split at q <;> first |exact h _ q |exact q.elim
 |sum=>
  simp only[opB,wz]at q ⊢;split at q
  ·split at q
   ·exact h _ q
   ·exact q
  ·exact q
 |min=>
  simp only[opB,jY]at q ⊢;split at q
  ·split at q
   ·exact ⟨q.1,λm h1 h2=>h _ (q.2 m h1 h2)⟩
   ·split at q
    ·exact λm h1 h2=>h _ (q m h1 h2)
    ·exact q
  ·exact q
 |max=>simp only[opB,DR]at q ⊢;split at q <;> first |exact h _ q |exact q.elim
 |abs=>simp only[opB,wA]at q ⊢;split at q <;> first |exact h _ q |exact q.elim
 |min2=>simp only[opB,wB]at q ⊢;split at q <;> first |exact h _ q |exact q.elim
 |str=>
  simp only[opB,wC]at q ⊢;split at q
  ·exact ⟨q.1,h _ q.2⟩
  ·exact q
theorem Ed{f:Lf}{as:List D}{k k':List D->Prop}(h:∀c,k c->k' c)(q:cL f as k):cL f as k':=by
 cases f with
 |list=>simp only[cL,wD]at q ⊢;split at q <;> first |exact h _ q |exact q.elim
 |sorted=>
  simp only[cL,qH]at q ⊢;split at q
  ·split at q
   ·exact ⟨q.1,λls p z=>h _ (q.2 ls p z)⟩
   ·exact q
  ·split at q
   ·exact ⟨q.1,λls p z=>h _ (q.2 ls p z)⟩
   ·exact q
  ·exact q
theorem gr{m:Mf}{o:D}{as:List D}(h:∀d G',k d G'->k' d G')(q:opM m o as G k):opM m o as G k':=by
 cases m with
 |join=>
  simp only[opM,qI]at q ⊢;split at q
  ·split at q
   ·exact ⟨q.1,h _ _ q.2⟩
   ·exact q
  ·exact q
 |append=>
  simp only[opM,qJ]at q ⊢;split at q
  ·split at q
   ·exact ⟨q.1,h _ _ q.2⟩
   ·exact q
  ·exact q
 |extend=>
  simp only[opM,qK]at q ⊢;split at q
  ·split at q
   ·exact ⟨q.1,h _ _ q.2⟩
   ·exact q
  ·exact q
 |insert=>
  simp only[opM,qL]at q ⊢;split at q
  ·split at q
   ·exact ⟨q.1,q.2.1,q.2.2.1,h _ _ q.2.2.2⟩
   ·exact q
  ·exact q
 |pop=>
  simp only[opM,wF]at q ⊢;split at q
  ·split at q
   ·refine ⟨q.1,q.2.1,?_⟩;have q2:=q.2.2;split at q2
    ·exact h _ _ q2
    ·exact q2
   ·exact q
  ·exact q
 |count=>
  simp only[opM,qM]at q ⊢;split at q
  ·split at q
   ·exact h _ _ q
   ·exact q
  ·exact q
 |index=>
  simp only[opM,qN]at q ⊢;split at q
  ·split at q
   ·exact ⟨q.1,h _ _ q.2⟩
   ·exact q
  ·exact q
theorem xF{o i x:D}{k k':DH->Prop}(h:∀G',k G'->k' G')(q:dU o i x G k):dU o i x G k':=by
 unfold dU at q ⊢;split at q
 ·split at q
  ·split at q
   ·exact h _ q
   ·exact q
  ·exact q
 ·exact q
theorem xG{op:Operator}{a b:D}{k k':D->Prop}(h:∀c,k c->k' c)(q:dz op a b k):dz op a b k':=by
 unfold dz at q ⊢;split at q <;> first
  |exact h _ q
  |exact ⟨q.1,h _ q.2⟩
  |exact q.elim
mutual
theorem fK{k k':ak->Prop}(h:∀ρ,k ρ->k' ρ):∀(t:Tg){d:D}{ρ:ak},aY t d ρ G k->aY t d ρ G k'
 |.nm i,d,ρ,q=>h _ q
 |.tp ts,d,ρ,q=>by
  unfold aY at q ⊢;split at q
  ·exact xH h ts q
  ·exact xH h ts q
  ·exact q
theorem xH{k k':ak->Prop}(h:∀ρ,k ρ->k' ρ):∀(ts:Tgs){ds:List D}{ρ:ak},bH ts ds ρ G k->bH ts ds ρ G k'
 |.nil,ds,ρ,q=>by
  unfold bH at q ⊢;split at q
  ·exact h _ q
  ·exact q
 |.cons t r,ds,ρ,q=>by
  unfold bH at q ⊢;split at q
  ·exact fK (λρ' q'=>xH h r q') t q
  ·exact q
end
theorem sU{step step':D->ak->DH->(Option D->ak->DH->Prop)->Prop}(hs:∀d ρ G (k k':Option D->ak->DH->Prop),(∀o ρ' G',k o ρ' G'->k' o ρ' G')->step d ρ G k->step' d ρ G k')
  {g:Hld} {k k':List D->DH->Prop} (h:∀ds G',k ds G'->k' ds G'):∀(ds acc:List D)(ρ:ak)(G:DH),compLoop step g ds acc ρ G k->compLoop step' g ds acc ρ G k'
 |[],acc,ρ,G,q=>⟨q.1,q.2.1,h _ _ q.2.2⟩
 |d::ds,acc,ρ,G,q=>by
  refine ⟨q.1,q.2.1,hs d ρ G _ _ (λo ρ' G' z=>?_) q.2.2⟩;cases o with
  |some y=>exact sU hs h ds (acc++[y]) ρ' G' z
  |none=>exact sU hs h ds acc ρ' G' z
theorem Ef{step step':D->ak->DH->(ak->DH->Prop)->Prop}(hs:∀d ρ G (k k':ak->DH->Prop),(∀ρ' G',k ρ' G'->k' ρ' G')->step d ρ G k->step' d ρ G k')
  {g:Hld} {k k':ak->DH->Prop} (h:∀ρ G',k ρ G'->k' ρ G'):∀(ds:List D)(ρ:ak)(G:DH),forLoop step g ds ρ G k->forLoop step' g ds ρ G k'
 |[],ρ,G,q=>⟨q.1,h _ _ q.2⟩
 |d::ds,ρ,G,q=>⟨q.1,hs d ρ G _ _ (λρ' G' z=>Ef hs h ds ρ' G' z) q.2⟩
theorem Eg{test test':ak->DH->(Bool->DH->Prop)->Prop}{body body':ak->DH->(ak->DH->Prop)->Prop}
  (ht:∀ρ G (k k':Bool->DH->Prop),(∀b G',k b G'->k' b G')->test ρ G k->test' ρ G k') (hb:∀ρ G (k k':ak->DH->Prop),(∀ρ' G',k ρ' G'->k' ρ' G')->body ρ G k->body' ρ G k')
  {k k':ak->DH->Prop} (h:∀ρ G',k ρ G'->k' ρ G'):∀(n:Nat)(ρ:ak)(G:DH),whileLoop test body n ρ G k->whileLoop test' body' n ρ G k'
 |0,ρ,G,q=>q
 |n+1,ρ,G,q=>ht ρ G _ _ (λb G' z=>by
   cases b with
   |true=>exact hb ρ G' _ _ (λρ' G'' z'=>Eg ht hb h n ρ' G'' z') z
   |false=>exact h _ _ z) q
end
section
variable {Φ:aa} {G:DH}
mutual
theorem aG{E:EK}{ρ:ak}:∀(x:Ex){G:DH}{k k':D->DH->Prop},(∀d G',k d G'->k' d G')->wpE Φ x E ρ G k->wpE Φ x E ρ G k'
 |.var i,G,k,k',h,q=>by
  rw[rm]at q ⊢;split at q
  ·exact h _ _ q
  ·exact q
 |.cst d,G,k,k',h,q=>by rw[gQ]at q ⊢;exact h _ _ q
 |.glb x d,G,k,k',h,q=>by rw[rn]at q ⊢;exact h _ _ q
 |.bin op fz a b,G,k,k',h,q=>by
  rw[rz]at q ⊢;exact aG a (λ_ _ q=>aG b (λ_ _ q=>DY h q) q) q
 |.neg a,G,k,k',h,q=>by
  rw[rA]at q ⊢;refine aG a (λx _ q=>?_) q;split at q
  ·exact h _ _ q
  ·exact q
 |.cmp op a b,G,k,k',h,q=>by
  rw[j4]at q ⊢;exact aG a (λ_ _ q=>aG b (λ_ _ q=>gR (λ_ q=>h _ _ q) q) q) q
 |.chn op op' a b c,G,k,k',h,q=>by
  rw[j5]at q ⊢;refine aG a (λ_ _ q=>aG b (λ_ _ q=>gR (λt q=>?_) q) q) q;cases t with
  |true=>exact aG c (λ_ _ q=>gR (λ_ q=>h _ _ q) q) q
  |false=>exact h _ _ q
 |.not a,G,k,k',h,q=>by
  rw[rB]at q ⊢;refine aG a (λx _ q=>?_) q;split at q
  ·exact h _ _ q
  ·exact q
 |.boo isAnd e es,G,k,k',h,q=>by
  rw[rD]at q ⊢;refine aG e (λx _ q=>?_) q;split at q
  ·exact sV es (λ_ _ q=>h _ _ q) q
  ·exact q
 |.ife c a b,G,k,k',h,q=>by
  rw[rE]at q ⊢;refine dh c (λt _ q=>?_) q;cases t with
  |true=>exact aG a h q
  |false=>exact aG b h q
 |.tup es,G,k,k',h,q=>by
  rw[rF]at q ⊢;exact cM es (λ_ _ q=>⟨q.1,h _ _ q.2⟩) q
 |.lst fz es,G,k,k',h,q=>by
  rw[rG]at q ⊢;exact cM es (λ_ _ q=>⟨q.1,dB h q.2⟩) q
 |.idx a i,G,k,k',h,q=>by
  rw[rH]at q ⊢;exact aG a (λ_ _ q=>aG i (λ_ _ q=>sS (λ_ q=>h _ _ q) q) q) q
 |.slc fz a lo hi,G,k,k',h,q=>by
  rw[rJ]at q ⊢;exact aG a (λ_ _ q=>xK lo (λ_ _ q=>xK hi (λ_ _ q=>Eb h q) q) q) q
 |.rvs fz a s,G,k,k',h,q=>by
  rw[wO]at q ⊢;exact aG a (λ_ _ q=>aG s (λ_ _ q=>Y6 h q) q) q
 |.call f es,G,k,k',h,q=>by
  rw[rK]at q ⊢;exact cM es (λ_ _ q=>Spec.mono q h λ_ _ z=>z) q
 |.bcl f es,G,k,k',h,q=>by
  rw[rM]at q ⊢;exact cM es (λ_ _ q=>Ec (λ_ q=>h _ _ q) q) q
 |.lcl fz f es,G,k,k',h,q=>by
  rw[rN]at q ⊢;exact cM es (λ_ _ q=>Ed (λ_ q=>dB h q) q) q
 |.isi a t,G,k,k',h,q=>by
  rw[rO]at q ⊢;refine aG a (λx _ q=>?_) q;split at q
  ·exact h _ _ q
  ·exact q
 |.isx a C xs,G,k,k',h,q=>by
  rw[wQ]at q ⊢;refine aG a (λx _ q=>?_) q;split at q
  ·exact ⟨q.1,h _ _ q.2⟩
  ·exact q
 |.rgl fz a,G,k,k',h,q=>by
  rw[wR]at q ⊢;refine aG a (λd _ q=>?_) q;split at q
  ·exact ⟨q.1,dB h q.2⟩
  ·exact q
 |.rpl f a b ix,G,k,k',h,q=>by
  rw[Y4]at q ⊢;refine aG a (λ_ _ q=>aG b (λ_ _ q=>sS (λ_ q=>Spec.mono q (λd G3 q=>?_) λ_ _ z=>z) q) q) q;unfold wI at q ⊢;split at q
  ·refine ⟨q.1,aG ix (λi G4 q=>?_) q.2⟩;unfold wJ at q ⊢;split at q
   ·split at q
    ·exact h _ _ q
    ·exact q
   ·exact q
  ·exact q
 |.fld C f o,G,k,k',h,q=>by
  rw[rP]at q ⊢;refine aG o (λd _ q=>?_) q;unfold jh at q ⊢;split at q
  ·exact ⟨q.1,q.2.1,h _ _ q.2.2⟩
  ·exact q
 |.mcl f C m o es,G,k,k',h,q=>by
  rw[rQ]at q ⊢;exact aG o (λd _ q=>⟨q.1,cM es (λ_ _ q=>Spec.mono q h λ_ _ z=>z) q.2⟩) q
 |.mko C es,G,k,k',h,q=>by
  rw[rR]at q ⊢;exact cM es (λ_ _ q=>Spec.mono q h λ_ _ z=>z) q
 |.pp0 o,G,k,k',h,q=>by
  rw[wU]at q ⊢;refine aG o (λd _ q=>?_) q;unfold wH at q ⊢;split at q
  ·split at q
   ·split at q
    ·exact h _ _ q
    ·exact q
   ·exact q
  ·exact q
 |.rgt a,G,k,k',h,q=>by
  rw[wV]at q ⊢;refine aG a (λd _ q=>?_) q;split at q
  ·exact ⟨q.1,h _ _ q.2⟩
  ·exact q
 |.fst es,G,k,k',h,q=>by
  rw[wW]at q ⊢;exact xJ es (λ_ _ q=>⟨q.1,h _ _ q.2⟩) q
 |.mth m o es,G,k,k',h,q=>by
  rw[eV]at q ⊢;exact aG o (λ_ _ q=>⟨q.1,cM es (λ_ _ q=>gr h q) q.2⟩) q
 |.comp fz elt tg it cond N cap,G,k,k',h,q=>by
  rw[xu]at q ⊢;refine j7 it (λitems g G1 q=>?_) q;refine sU ?_ (λds G2 z=>dB h z) items [] _ G1 q;intro d ρ' G' k k' hk z;refine fK (λρ1 z=>?_) tg z;refine dh cond (λb G2 z=>?_) z;cases b with
  |true=>exact aG elt (λy G3 z=>hk _ _ _ z) z
  |false=>exact hk _ _ _ z
 |.frz a,G,k,k',h,q=>by
  rw[rT]at q ⊢;refine aG a (λx G1 q=>?_) q;split at q
  ·split at q
   ·exact h _ _ q
   ·exact q
  ·exact h _ _ q
theorem dh{E:EK}{ρ:ak}:∀(x:Tx){G:DH}{k k':Bool->DH->Prop},(∀d G',k d G'->k' d G')->wpT Φ x E ρ G k->wpT Φ x E ρ G k'
 |.not a,G,k,k',h,q=>by rw[qP]at q ⊢;exact dh a (λ_ _ q=>h _ _ q) q
 |.boo isAnd e es,G,k,k',h,q=>by rw[qQ]at q ⊢;exact dh e (λ_ _ q=>sW es h q) q
 |.yes,G,k,k',h,q=>by rw[qR]at q ⊢;exact h _ _ q
 |.val a,G,k,k',h,q=>by
  rw[ji]at q ⊢;refine aG a (λx _ q=>?_) q;split at q
  ·exact h _ _ q
  ·exact q
theorem xJ{E:EK}{ρ:ak}:∀(x:Exs){G:DH}{k k':List Nat->DH->Prop},(∀d G',k d G'->k' d G')->wpF Φ x E ρ G k->wpF Φ x E ρ G k'
 |.nil,G,k,k',h,q=>by rw[wX]at q ⊢;exact h _ _ q
 |.cons e es,G,k,k',h,q=>by
  rw[wY]at q ⊢;refine aG e (λd _ q=>?_) q;split at q
  ·exact ⟨q.1,xJ es (λ_ _ q=>h _ _ q) q.2⟩
  ·exact ⟨q.1,xJ es (λ_ _ q=>h _ _ q) q.2⟩
  ·exact q
theorem cM{E:EK}{ρ:ak}:∀(x:Exs){G:DH}{k k':List D->DH->Prop},(∀d G',k d G'->k' d G')->aN Φ x E ρ G k->aN Φ x E ρ G k'
 |.nil,G,k,k',h,q=>by rw[gn]at q ⊢;exact h _ _ q
 |.cons e es,G,k,k',h,q=>by rw[gq]at q ⊢;exact aG e (λ_ _ q=>cM es (λ_ _ q=>h _ _ q) q) q
theorem sV{E:EK}{ρ:ak}:∀(x:Exs){isAnd b:Bool}{G:DH}{k k':Bool->DH->Prop},(∀d G',k d G'->k' d G')->wpB Φ x isAnd b E ρ G k->wpB Φ x isAnd b E ρ G k'
 |.nil,_,_,G,k,k',h,q=>by rw[qT]at q ⊢;exact h _ _ q
 |.cons e es,isAnd,b,G,k,k',h,q=>by
  rw[jZ]at q ⊢;cases isAnd <;> cases b <;> first
   |exact h _ _ q
   | (refine aG e (λd _ q=>?_) q
      split at q
      ·exact sV es h q
      ·exact q)
theorem sW{E:EK}{ρ:ak}:∀(x:Txs){isAnd b:Bool}{G:DH}{k k':Bool->DH->Prop},(∀d G',k d G'->k' d G')->fJ Φ x isAnd b E ρ G k->fJ Φ x isAnd b E ρ G k'
 |.nil,_,_,G,k,k',h,q=>by rw[qU]at q ⊢;exact h _ _ q
 |.cons e es,isAnd,b,G,k,k',h,q=>by
  rw[j0]at q ⊢;cases isAnd <;> cases b <;> first
   |exact h _ _ q
   |exact dh e (λd _ q=>sW es h q) q
theorem xK{E:EK}{ρ:ak}:∀(x:Ox){G:DH}{k k':Option Int->DH->Prop},(∀d G',k d G'->k' d G')->wpO Φ x E ρ G k->wpO Φ x E ρ G k'
 |.no,G,k,k',h,q=>by rw[qW]at q ⊢;exact h _ _ q
 |.ob a,G,k,k',h,q=>by
  rw[qX]at q ⊢;refine aG a (λx _ q=>?_) q;split at q
  ·exact h _ _ q
  ·exact q
theorem j7{E:EK}{ρ:ak}:∀(x:It'){G:DH}{k k':List D->Hld->DH->Prop},(∀d g G',k d g G'->k' d g G')->wpI Φ x E ρ G k->wpI Φ x E ρ G k'
 |.seq a,G,k,k',h,q=>by
  rw[qY]at q ⊢;refine aG a (λx _ q=>?_) q;split at q
  ·exact h _ _ _ q
  ·exact q
 |.rng a,G,k,k',h,q=>by
  rw[qZ]at q ⊢;refine aG a (λx _ q=>?_) q;split at q
  ·exact ⟨q.1,h _ _ _ q.2⟩
  ·exact q
 |.rev a,G,k,k',h,q=>by
  rw[wM]at q ⊢;refine aG a (λx _ q=>?_) q;split at q
  ·exact ⟨q.1,h _ _ _ q.2⟩
  ·exact q
 |.dwn a b d,G,k,k',h,q=>by
  rw[wN]at q ⊢;refine aG a (λx _ q=>aG b (λy _ q=>aG d (λz _ q=>?_) q) q) q;split at q
  ·exact ⟨q.1,h _ _ _ q.2⟩
  ·exact q
 |.rng2 a b,G,k,k',h,q=>by
  rw[wL]at q ⊢;refine aG a (λx _ q=>aG b (λy _ q=>?_) q) q;split at q
  ·exact ⟨q.1,h _ _ _ q.2⟩
  ·exact q
 |.enm a,G,k,k',h,q=>by
  rw[q8]at q ⊢;refine aG a (λx _ q=>?_) q;split at q
  ·exact h _ _ _ q
  ·exact q
 |.zip a b,G,k,k',h,q=>by
  rw[q9]at q ⊢;refine aG a (λx _ q=>aG b (λy _ q=>?_) q) q;split at q
  ·exact h _ _ _ q
  ·exact q
end
structure En.Le(D D':En):Prop where
 nx:∀ρ G,D.nx ρ G->D'.nx ρ G
 rt:∀d G,D.rt d G->D'.rt d G
 bk:∀ρ G,D.bk ρ G->D'.bk ρ G
 ct:∀ρ G,D.ct ρ G->D'.ct ρ G
theorem xM:∀(b:Tb){ρ:ak}{G:DH}{nx nx':ak->DH->Prop}{ex ex':Xn->ak->DH->Prop},(∀ρ G,nx ρ G->nx' ρ G)->(∀x ρ G,ex x ρ G->ex' x ρ G)->wpX Φ b ρ G nx ex->wpX Φ b ρ G nx' ex'
 |.call f es,ρ,G,nx,nx',ex,ex',h,h',q=>by rw[xm]at q ⊢;exact cM es (λ_ _ q=>Spec.mono q (λ_ _ z=>h _ _ z) λ_ _ z=>h' _ _ _ z) q
 |.pick f g i es,ρ,G,nx,nx',ex,ex',h,h',q=>by
  rw[xj]at q ⊢;exact aG (.var i) (λ_ _ q=>let ⟨b,e,q⟩:=q;⟨b,e,cM es (λ_ _ q=>Spec.mono q (λ_ _ z=>h _ _ z) λ_ _ z=>h' _ _ _ z) q⟩) q
 |.asg i f es,ρ,G,nx,nx',ex,ex',h,h',q=>by rw[xq]at q ⊢;exact cM es (λ_ _ q=>Spec.mono q (λ_ _ z=>h _ _ z) λ_ _ z=>h' _ _ _ z) q
 |.ite c a b,ρ,G,nx,nx',ex,ex',h,h',q=>by
  rw[xr]at q ⊢;refine dh c (λt _ q=>?_) q;cases t with
  |true=>exact xM a h h' q
  |false=>exact xM b h h' q
mutual
theorem wpS_mono{E:EK}:∀(x:Sx){ρ:ak}{G:DH}{D D':En},D.Le D'->wpS Φ x E ρ G D->wpS Φ x E ρ G D'
 |.exp e,ρ,G,D,D',h,q=>by rw[rW]at q ⊢;exact aG e (λ_ _ q=>h.nx _ _ q) q
 |.asg t e,ρ,G,D,D',h,q=>by rw[jl]at q ⊢;exact aG e (λ_ _ q=>fK (λ_ q=>h.nx _ _ q) t q) q
 |.set o i e,ρ,G,D,D',h,q=>by rw[rY]at q ⊢;exact aG e (λ_ _ q=>aG o (λ_ _ q=>aG i (λ_ _ q=>xF (λ_ q=>h.nx _ _ q) q) q) q) q
 |.aug i op e,ρ,G,D,D',h,q=>by
  rw[rZ]at q ⊢;split at q
  ·exact aG e (λ_ _ q=>xG (λ_ q=>h.nx _ _ q) q) q
  ·exact q
 |.augs o i op e,ρ,G,D,D',h,q=>by
  rw[wZ]at q ⊢;exact aG o (λ_ _ q=>aG i (λ_ _ q=>sS (λ_ q=>aG e (λ_ _ q=>xG (λ_ q=>xF (λ_ q=>h.nx _ _ q) q) q) q) q) q) q
 |.ret e,ρ,G,D,D',h,q=>by rw[sr]at q ⊢;exact aG e (λ_ _ q=>h.rt _ _ q) q
 |.rtn,ρ,G,D,D',h,q=>by rw[su]at q ⊢;exact h.rt _ _ q
 |.ite c a b,ρ,G,D,D',h,q=>by
  rw[sy]at q ⊢;refine dh c (λt _ q=>?_) q;cases t with
  |true=>exact dW a h q
  |false=>exact dW b h q
 |.for_ t it body,ρ,G,D,D',h,q=>by
  rw[DW]at q ⊢;exact j7 it (λitems g G1 q=>Ef (λd ρ' G' k k' hk z=>fK (λρ1 z=>dW body (D:={ D with nx:=k,ct:=k,bk:=D.nx }) (D':={ D' with nx:=k',ct:=k',bk:=D'.nx }) ⟨hk,h.rt,h.nx,hk⟩ z) t z) h.nx items ρ G1 q) q
 |.whl c body,ρ,G,D,D',h,q=>by
  rw[Y5]at q ⊢;obtain ⟨n,q⟩:=q;refine ⟨n,?_⟩;refine Eg ?_ ?_ h.nx n ρ G q
  ·exact λρ' G' k k' hk z=>dh c hk z
  ·exact λρ' G' k k' hk z=>dW body (D:={ D with nx:=k,ct:=k,bk:=D.nx }) (D':={ D' with nx:=k',ct:=k',bk:=D'.nx }) ⟨hk,h.rt,h.nx,hk⟩ z
 |.pas,ρ,G,D,D',h,q=>by rw[sE]at q ⊢;exact h.nx _ _ q
 |.brk,ρ,G,D,D',h,q=>by rw[sG]at q ⊢;exact h.bk _ _ q
 |.cnt,ρ,G,D,D',h,q=>by rw[sH]at q ⊢;exact h.ct _ _ q
 |.nev,ρ,G,D,D',h,q=>by rw[sJ]at q;exact q.elim
 |.rse C es,ρ,G,D,D',h,q=>by rw[j6]at q ⊢;exact q
 |.tryc f es C i b,ρ,G,D,D',h,q=>by rw[xf]at q ⊢;exact cM es (λ_ _ q=>Spec.mono q (λ_ _ z=>h.nx _ _ z) λ_ _ z=>⟨z.1,z.2.1,h.nx _ _ z.2.2⟩) q
 |.tryx b C hd xs,ρ,G,D,D',h,q=>by rw[xg]at q ⊢;exact xM b (λ_ _ z=>h.nx _ _ z) (λ_ _ _ z=>⟨z.1,z.2.1,z.2.2.1,h.nx _ _ z.2.2.2⟩) q
theorem dW{E:EK}:∀(x:Sxs){ρ:ak}{G:DH}{D D':En},D.Le D'->au Φ x E ρ G D->au Φ x E ρ G D'
 |.nil,ρ,G,D,D',h,q=>by rw[jj]at q ⊢;exact h.nx _ _ q
 |.cons s r,ρ,G,D,D',h,q=>by rw[jk]at q ⊢;exact wpS_mono s (D:={ D with nx:=λρ' G'=>au Φ r E ρ' G' D }) (D':={ D' with nx:=λρ' G'=>au Φ r E ρ' G' D' }) ⟨λ_ _ z=>dW r h z,h.rt,h.bk,h.ct⟩ q
end
end
def PV(K:PySem.W.Frag)(H:Hp)(F:FZ)(Q:VK):D->DH->Prop:=λd G'=>∀H' F' v,Ext H F H' F'->R K H' F' G'->Rep K H' F' d v->Q v H'
def PB(K:PySem.W.Frag)(H:Hp)(F:FZ)(Q:Bool->Hp->Prop):Bool->DH->Prop:=λb G'=>∀H' F',Ext H F H' F'->R K H' F' G'->Q b H'
noncomputable def PLs(K:PySem.W.Frag)(H:Hp)(F:FZ)(Q:List V->Hp->Prop):List D->DH->Prop:=λds G'=>∀H' F' vs,Ext H F H' F'->R K H' F' G'->Reps K H' F' ds vs->Q vs H'
section
variable {K:PySem.W.Frag} {H:Hp} {F:FZ} {G:DH} {Q:VK}
theorem PV.now{d:D}{v:V}(h:PV K H F Q d G)(r:R K H F G)(q:Rep K H F d v):Q v H:=h H F v (Ext.refl H F) r q
theorem fL{fz:Bool}{ds:List D}{vs:List V}(h:mk fz ds G (PV K H F Q))(r:R K H F G)(t:Reps K H F ds vs)(p:Addr)(hp:H p=none):Q (.ref p) (upd H p (.lst vs)):=by
 cases fz with
 |true=>exact h _ _ _ (v9 r hp) (r.newF hp) (YZ r hp t)
 |false=>exact h p (r.free hp) _ _ _ (c7 r hp) (r.newL hp t) rfl
theorem j8{ds:List D}{vs:List V}(h:PV K H F Q (.tup ds) G)(r:R K H F G)(t:Reps K H F ds vs)(p:Addr)(hp:H p=none):Q (.ref p) (upd H p (.tup vs)):=
 h _ _ _ (c7 r hp) (r.new hp) (wj r hp t)
end
theorem szl:sz<=sizeLine:=by rw[fw];decide
theorem cV{n:Nat}(h:n<=sz):n<=sizeLine:=cm h szl
def rB2(K:PySem.W.Frag)(f:D->D->DH->(D->DH->Prop)->Prop):R2:=λx y H Q=>∃F G a b,R K H F G/\Rep K H F a x/\Rep K H F b y/\f (view G a) (view G b) G (PV K H F Q)
section
variable {X:Cx}
theorem Y7:OpR X (binaryOp .Add) (λx y H Q=>∃a b xs ys,x=.ref a/\y=.ref b/\SqL X.K H a xs/\SqL X.K H b ys/\xs.length+ys.length<=sizeLine/\∀p,H p=none->Q (.ref p) (upd H p (.lst (xs++ys)))):=by
 intro pins s σ H x y v u Q I rx ry h;obtain ⟨a,b,xs,ys,rfl,rfl,ha,hb,hz,q⟩:=h;cases rx;cases ry;obtain ⟨its,r1,p1,_⟩:=I.list ha;obtain ⟨its2,r2,p2,_⟩:=I.list hb;obtain ⟨⟨cls,dd,data,sl⟩,ho,hc,n,hd⟩:=p1.isList;obtain ⟨⟨cls2,dd2,data2,sl2⟩,ho2,hc2,n2,hd2⟩:=p2.isList;simp only at hc hd hc2 hd2;subst hc hd hc2 hd2;have e:its.toArray++its2.toArray=(its++its2).toArray:=by simp
 refine concat_meets ⟨_,ho,rfl⟩ ⟨_,ho2,rfl⟩ noFill_list_add seq_list_add PySem.F.slot_list_add PySem.F.entry_list_add (PySem.F.args_list_add_2 _ _)
  (list_addW a b its.toArray its2.toArray n n2 dd dd2 sl sl2 (by rw[ar,ar,<-r1.length,<-r2.length];exact hz)) ⟨ho,ho2,?_⟩
 rw[e];exact ⟨.ref _,_,I.lnew (t':=s.toks) (r1.append r2) (by rw[ay];exact hz),rfl,q _ I.fresh⟩
theorem Y8:OpR X (binaryOp .Add) (λx y H Q=>∃a b ys,x=.ref a/\y=.ref b/\SqT X.K H a []/\SqT X.K H b ys/\Q (.ref b) H):=by
 intro pins s σ H x y v u Q I rx ry h;obtain ⟨a,b,ys,rfl,rfl,ha,hb,q⟩:=h;cases rx;cases ry;obtain ⟨its,r1,p1,_⟩:=I.tuple ha;obtain ⟨its2,r2,p2,_⟩:=I.tuple hb;obtain ⟨⟨cls,dd,data,sl⟩,ho,hc,n,hd⟩:=id p1;obtain ⟨⟨cls2,dd2,data2,sl2⟩,ho2,hc2,n2,hd2⟩:=id p2;simp only at hc hd hc2 hd2;subst hc hd hc2 hd2;cases r1;exact concat_meets ⟨_,ho,rfl⟩ ⟨_,ho2,rfl⟩ noFill_tuple_add seq_tuple_add PySem.F.slot_tuple_add PySem.F.entry_tuple_add (PySem.F.args_tuple_add_2 _ _)
   (tuple_addW0 a b _ its2.toArray n n2 dd dd2 sl sl2 (by simp)) ⟨ho,ho2,⟨.ref b,H,I,rfl,q⟩⟩
theorem xN{K:PySem.W.Frag}{H:Hp}{F:FZ}{ds:List D}{vs:List V}(t:Reps K H F ds vs):ds=[]↔vs=[]:=by
 have:=t.length;constructor
 ·intro e;subst e;exact c8.mp this.symm
 ·intro e;subst e;exact c8.mp this
theorem Y9{x:Str}{n:Nat}(h1:n<=1000)(h:x.length * n<=sz):MulOk x (n:Int):=by
 have h2:((x.length * n:Nat):Int)<=((1000000:Nat):Int):=Int.ofNat_le.mpr h;rw[Int.natCast_mul]at h2;refine ⟨?_,?_,?_⟩
 ·rw[cq (by omega),cq (by omega)];rfl
 ·intro hn _ hh;have hp:(0:Int) < n:=by omega
  have h3:(x.length:Int)<=(2 ^ 63 - 1) / n:=(Int.le_ediv_iff_mul_le hp).mpr (Int.le_trans h2 (by decide));exact absurd hh (Int.not_lt.mpr h3)
 ·intro _ _;unfold Builtin.Str.tooLong;rw[fw,c6];exact cq (by have:sz=1000000:=rfl;omega)
theorem Eh(l:List Nat):∀(n:Nat)(acc:List Nat),(List.replicate n l.toArray).foldl (· ++ ·) acc.toArray=(acc++reps l n).toArray
 |0,acc=>by simp[reps]
 |n+1,acc=>by
  rw[bP,List.foldl_cons];have e:acc.toArray++l.toArray=(acc++l).toArray:=by simp
  rw[e,Eh l n (acc++l)];unfold reps;rw[bP,eA,List.append_assoc]
theorem Za(n:Nat):reps ([]:List Nat) n=[]:=by
 unfold reps;induction n with
 |zero=>rfl
 |succ n ih=>rw[bP,eA,ih];rfl
theorem Zb{α:Type}(l:List α)(n:Nat):(reps l n).length=n * l.length:=len_rep l n
theorem Zc(l:List Nat)(n:Nat):Txt.mul (tx l) (n:Int)=tx (reps l n):=by
 unfold Txt.mul;by_cases h:(n:Int) < 1
 ·rw[if_pos h];have:n=0:=by omega
  subst this;rfl
 ·rw[if_neg h];by_cases h2:((n:Int)==1||(tx l).length==0)=true
  ·rw[if_pos h2];rw[cS]at h2;rcases h2 with h2 |h2
   ·have:n=1:=by have:=eq_of_beq h2;omega
    subst this;simp[reps]
   ·have h3:=eq_of_beq h2;rw[bT]at h3;have:l=[]:=c8.mp h3;subst this;rw[Za]
  ·rw[if_neg h2];have e:=Eh l n [];rw[List.nil_append]at e;exact eR Str.mk (by simpa using e)
theorem Zd(op:Operator)(fz:Bool):OpR X (binaryOp op) (rB2 X.K (cj op fz)):=by
 intro pins s σ H x y v u Q I rx ry h;obtain ⟨F,G,a,b,r,ra,rb,h⟩:=h;generalize ea:view G a=va at h;generalize eb:view G b=vb at h;have twoI:∀{p:Int->Int->Prop},gj va vb p->∃i j,x=.int i/\y=.int j/\p i j:=λ{p} h=>by
  obtain ⟨i,j,rfl,rfl,h⟩:=DX h;cases dg ea;cases dg eb;exact ⟨i,j,ra,rb,h⟩
 cases op with
 |Add=>
  have h:iW fz va vb G _:=h;unfold iW at h;cases va with
  |int _=>cases vb with
   |int _=>
    cases dg ea;cases dg eb;have ha:x=.int _:=ra;have hb:y=.int _:=rb;subst ha;subst hb;exact VG pins s σ H _ _ v u Q I rx ry ⟨_,_,rfl,rfl,h.now r rfl⟩
   |_=>exact h.elim
  |str _=>cases vb with
   |str _=>
    cases eU ea;cases eU eb;obtain ⟨ha,la⟩:=ra;obtain ⟨hb,lb⟩:=rb;subst ha;subst hb;refine V7 pins s σ H _ _ v u Q I rx ry ⟨_,_,rfl,rfl,?_,?_⟩
    ·rw[bT,bT];exact cV h.1
    ·rw[qy];exact h.2.now r ⟨rfl,by rw[ay];exact h.1⟩
   |_=>exact h.elim
  |lst _=>cases vb with
   |lst _=>
    obtain ⟨p,vs,rfl,q1,t1⟩:=Rep.list r ra ea;obtain ⟨p',vs',rfl,q2,t2⟩:=Rep.list r rb eb;exact Y7 pins s σ H _ _ v u Q I rx ry ⟨p,p',vs,vs',rfl,rfl,q1,q2,by rw[<-t1.length,<-t2.length];exact cV h.1,fL h.2 r (t1.append t2)⟩
   |_=>exact h.elim
  |tup xs=>cases vb with
   |tup ys=>
    cases eQ ea;cases eQ eb;obtain ⟨p,vs,rfl,q1,t1⟩:=id ra;obtain ⟨p',vs',rfl,q2,t2⟩:=id rb;by_cases hx:vs=[]
    ·subst hx;have:xs=[]:=(xN t1).mpr rfl;subst this;exact Y8 pins s σ H _ _ v u Q I rx ry ⟨p,p',vs',rfl,rfl,q1.sq,q2.sq,h.2.now r rb⟩
    ·refine W4 pins s σ H _ _ v u Q I rx ry ⟨p,p',vs,vs',rfl,rfl,q1.sq,q2.sq,hx,by rw[<-t1.length,<-t2.length];exact cV h.1,λe=>?_,λ_=>j8 h.2 r (t1.append t2)⟩;subst e;have:ys=[]:=(xN t2).mpr rfl;subst this;have h2:=h.2;rw[eW]at h2;exact h2.now r ra
   |_=>exact h.elim
  |_=>exact h.elim
 |Sub=>
  obtain ⟨i,j,rfl,rfl,h⟩:=twoI h;exact VH pins s σ H _ _ v u Q I rx ry ⟨_,_,rfl,rfl,h.now r rfl⟩
 |Mult=>
  have h:iY fz va vb G _:=h;unfold iY at h;cases vb with
  |int _=>cases va with
   |int _=>
    cases dg ea;cases dg eb;have ha:x=.int _:=ra;have hb:y=.int _:=rb;subst ha;subst hb;exact VJ pins s σ H _ _ v u Q I rx ry ⟨_,_,rfl,rfl,h.1,h.2.now r rfl⟩
   |str _=>
    cases eU ea;cases dg eb;obtain ⟨ha,la⟩:=ra;have hb:y=.int _:=rb;subst ha;subst hb;obtain ⟨h0,h1,h2,h3⟩:=h;obtain ⟨n,rfl⟩:=cy h0;rw[c6]at h2 h3;refine XN pins s σ H _ _ v u Q I rx ry ⟨_,_,rfl,rfl,Y9 (by omega) (by rw[bT];exact h2),?_⟩;rw[Zc];exact h3.now r ⟨rfl,by rw[Zb,Nat.mul_comm];exact h2⟩
   |tup _=>
    cases eQ ea;cases dg eb;obtain ⟨p,vs,rfl,q1,t1⟩:=ra;have hb:y=.int _:=rb;subst hb;obtain ⟨h0,h1,h2,h3,h4⟩:=h;refine YL pins s σ H _ _ v u Q I rx ry ⟨p,_,vs,rfl,rfl,q1.sq,λe=>h2 ((xN t1).mpr e),h0,h1,by rw[<-t1.length];exact cV h3,?_⟩;exact j8 h4 r (t1.rep _)
   |lst _=>
    cases dg eb;have hb:y=.int _:=rb;subst hb;obtain ⟨p,vs,rfl,q1,t1⟩:=ra.list r ea;obtain ⟨h0,h1,h2,h3⟩:=h;exact YT pins s σ H _ _ v u Q I rx ry ⟨p,_,vs,rfl,rfl,q1,h0,h1,by rw[<-t1.length];exact cV h2,fL h3 r (t1.rep _)⟩
   |_=>exact h.elim
  |_=>exact h.elim
 |FloorDiv=>
  obtain ⟨i,j,rfl,rfl,h⟩:=twoI h;exact YB pins s σ H _ _ v u Q I rx ry ⟨_,_,rfl,rfl,h.1,h.2.now r rfl⟩
 |Mod=>
  obtain ⟨i,j,rfl,rfl,h⟩:=twoI h;exact VL pins s σ H _ _ v u Q I rx ry ⟨_,_,rfl,rfl,h.1,h.2.now r rfl⟩
 |Pow=>
  obtain ⟨i,j,rfl,rfl,h⟩:=twoI h;exact VM pins s σ H _ _ v u Q I rx ry ⟨_,_,rfl,rfl,h.1,h.2.now r rfl⟩
 |_=>exact h.elim
end
mutual
theorem xO:∀{d:D},nr d=true->deq d d=true
 |.non,_=>rfl
 |.bl b,_=>by simp[deq]
 |.int i,_=>by simp[deq]
 |.str l,_=>by simp[deq]
 |.tup xs,h=>by rw[deq];exact xP (by rw[nr]at h;exact h)
 |.lst xs,h=>by rw[deq];exact xP (by rw[nr]at h;exact h)
 |.ref a,h=>by rw[nr]at h;cases h
 |.scr a,h=>by rw[nr]at h;cases h
 |.exn a,h=>by rw[nr]at h;cases h
 |.obj _ _ _,h=>by rw[nr]at h;cases h
theorem xP:∀{ds:List D},nrs ds=true->bU ds ds=true
 |[],_=>rfl
 |d::ds,h=>by
  rw[nrs,ae]at h;rw[bU,xO h.1,xP h.2];rfl
end
theorem sX:∀(xs ys:List D),bU xs ys=((List.range (min xs.length ys.length)).all (λj=>deq (xs.getD j .non) (ys.getD j .non))&&xs.length==ys.length)
 |[],[]=>rfl
 |[],y::ys=>by simp[bU]
 |x::xs,[]=>by simp[bU]
 |x::xs,y::ys=>by
  have e:min (x::xs).length (y::ys).length=(min xs.length ys.length)+1:=by simp only[cb];omega
  rw[bU,sX xs ys,e,List.range_succ_eq_map,List.all_cons,List.all_map];simp only[List.getD_cons_zero,cb,Bool.and_assoc];congr 1;congr 1;rw[e7];simp
theorem Ze{xs ys:List D}(h:xs.length≠ys.length):bU xs ys=false:=by rw[sX];rw[show (xs.length==ys.length)=false from c5.mpr h,Bool.and_false]
theorem j9:∀{xs:List D}{i:Nat},nrs xs=true->nr (xs.getD i .non)=true
 |[],_,_=>rfl
 |x::xs,0,h=>by rw[nrs,ae]at h;exact h.1
 |x::xs,i+1,h=>by rw[nrs,ae]at h;rw[List.getD_cons_succ];exact j9 h.2
theorem kh:∀{xs:List D}{i:Nat},dpt (xs.getD i .non)<=aQ xs
 |[],_=>eh _
 |x::xs,0=>by rw[aQ,List.getD_cons_zero];omega
 |x::xs,i+1=>by rw[aQ,List.getD_cons_succ];have:=@kh xs i;omega
section
variable {X:Cx} {pins:List (Addr×Obj)} {σ:L2.St} {H:Hp} {s:Shared} {F:FZ}
mutual
theorem sY(I:Inv X pins σ H s):∀{d d':D}{v:V},nr d=true->nr d'=true->Rep X.K H F d v->Rep X.K H F d' v->d=d'
 |.non,d',v,_,n',h,h'=>by
  have h:v=.non:=h;subst h;cases d' with
  |non=>rfl
  |bl _=>simp only[Rep]at h';cases h'
  |int _=>simp only[Rep]at h';cases h'
  |ref _=>simp only[Rep]at h';cases h'
  |scr _=>rw[nr]at n';cases n'
  |exn _=>rw[nr]at n';cases n'
  |obj _ _ _=>rw[nr]at n';cases n'
  |str _=>simp only[Rep]at h';obtain ⟨e,_⟩:=h';cases e
  |tup _=>simp only[Rep]at h';obtain ⟨_,_,e,_⟩:=h';cases e
  |lst _=>simp only[Rep]at h';obtain ⟨_,_,e,_⟩:=h';cases e
 |.bl b,d',v,_,n',h,h'=>by
  have h:v=.bl b:=h;subst h;cases d' with
  |non=>simp only[Rep]at h';cases h'
  |bl _=>simp only[Rep]at h';cases h';rfl
  |int _=>simp only[Rep]at h';cases h'
  |ref _=>simp only[Rep]at h';cases h'
  |scr _=>rw[nr]at n';cases n'
  |exn _=>rw[nr]at n';cases n'
  |obj _ _ _=>rw[nr]at n';cases n'
  |str _=>simp only[Rep]at h';obtain ⟨e,_⟩:=h';cases e
  |tup _=>simp only[Rep]at h';obtain ⟨_,_,e,_⟩:=h';cases e
  |lst _=>simp only[Rep]at h';obtain ⟨_,_,e,_⟩:=h';cases e
 |.int b,d',v,_,n',h,h'=>by
  have h:v=.int b:=h;subst h;cases d' with
  |non=>simp only[Rep]at h';cases h'
  |bl _=>simp only[Rep]at h';cases h'
  |int _=>simp only[Rep]at h';cases h';rfl
  |ref _=>simp only[Rep]at h';cases h'
  |scr _=>rw[nr]at n';cases n'
  |exn _=>rw[nr]at n';cases n'
  |obj _ _ _=>rw[nr]at n';cases n'
  |str _=>simp only[Rep]at h';obtain ⟨e,_⟩:=h';cases e
  |tup _=>simp only[Rep]at h';obtain ⟨_,_,e,_⟩:=h';cases e
  |lst _=>simp only[Rep]at h';obtain ⟨_,_,e,_⟩:=h';cases e
 |.str l,d',v,_,n',h,h'=>by
  obtain ⟨h,_⟩:=h;subst h;cases d' with
  |str l'=>
   obtain ⟨e,_⟩:=h';injection e with e;rw[CQ e]
  |non=>simp only[Rep]at h';cases h'
  |bl _=>simp only[Rep]at h';cases h'
  |int _=>simp only[Rep]at h';cases h'
  |ref _=>simp only[Rep]at h';cases h'
  |scr _=>rw[nr]at n';cases n'
  |exn _=>rw[nr]at n';cases n'
  |obj _ _ _=>rw[nr]at n';cases n'
  |tup _=>simp only[Rep]at h';obtain ⟨_,_,e,_⟩:=h';cases e
  |lst _=>simp only[Rep]at h';obtain ⟨_,_,e,_⟩:=h';cases e
 |.tup xs,d',v,n,n',h,h'=>by
  obtain ⟨a,vs,e,q,t⟩:=h;subst e;cases d' with
  |tup ys=>
   obtain ⟨a',vs',e,q',t'⟩:=h';injection e with e;subst e;have:=I.tuple_inj q.sq q'.sq;subst this;rw[nr]at n n';rw[xQ I n n' t t']
  |lst ys=>
   obtain ⟨a',vs',e,q',t'⟩:=h';injection e with e;subst e;obtain ⟨its,_,⟨o,e1,c1,_⟩,_⟩:=I.tuple q.sq;obtain ⟨its',_,⟨o',n',e2,c2,_⟩,_⟩:=I.list q'.sq;rw[e1]at e2;cases e2;rw[c1]at c2;exact absurd c2 (by decide +kernel)
  |ref _=>rw[nr]at n';cases n'
  |scr _=>rw[nr]at n';cases n'
  |exn _=>rw[nr]at n';cases n'
  |obj _ _ _=>rw[nr]at n';cases n'
  |str _=>simp only[Rep]at h';obtain ⟨e,_⟩:=h';cases e
  |non=>simp only[Rep]at h';cases h'
  |bl _=>simp only[Rep]at h';cases h'
  |int _=>simp only[Rep]at h';cases h'
 |.lst xs,d',v,n,n',h,h'=>by
  obtain ⟨a,vs,e,q,t⟩:=h;subst e;cases d' with
  |lst ys=>
   obtain ⟨a',vs',e,q',t'⟩:=h';injection e with e;subst e;have:=I.list_inj q.sq q'.sq;subst this;rw[nr]at n n';rw[xQ I n n' t t']
  |tup ys=>
   obtain ⟨a',vs',e,q',t'⟩:=h';injection e with e;subst e;obtain ⟨its,_,⟨o,e1,c1,_⟩,_⟩:=I.tuple q'.sq;obtain ⟨its',_,⟨o',n',e2,c2,_⟩,_⟩:=I.list q.sq;rw[e1]at e2;cases e2;rw[c1]at c2;exact absurd c2 (by decide +kernel)
  |ref _=>rw[nr]at n';cases n'
  |scr _=>rw[nr]at n';cases n'
  |exn _=>rw[nr]at n';cases n'
  |obj _ _ _=>rw[nr]at n';cases n'
  |str _=>simp only[Rep]at h';obtain ⟨e,_⟩:=h';cases e
  |non=>simp only[Rep]at h';cases h'
  |bl _=>simp only[Rep]at h';cases h'
  |int _=>simp only[Rep]at h';cases h'
 |.ref a,d',v,n,_,_,_=>by rw[nr]at n;cases n
 |.scr a,d',v,n,_,_,_=>by rw[nr]at n;cases n
 |.exn a,d',v,n,_,_,_=>by rw[nr]at n;cases n
 |.obj _ _ _,d',v,n,_,_,_=>by rw[nr]at n;cases n
theorem xQ(I:Inv X pins σ H s):∀{ds ds':List D}{vs:List V},nrs ds=true->nrs ds'=true->Reps X.K H F ds vs->Reps X.K H F ds' vs->ds=ds'
 |[],[],_,_,_,_,_=>rfl
 |[],_::_,_,_,_,h,⟨v,r,e,_⟩=>by have h:_=[]:=h;rw[h]at e;cases e
 |_::_,[],_,_,_,⟨v,r,e,_⟩,h=>by have h:_=[]:=h;rw[h]at e;cases e
 |d::ds,d'::ds',_,n,n',⟨v,r,e,h,t⟩,⟨v',r',e',h',t'⟩=>by
  subst e;injection e' with e1 e2;subst e1;subst e2;rw[nrs,ae]at n n';rw[sY I n.1 n'.1 h h',xQ I n.2 n'.2 t t']
end
theorem sZ{I:Inv X pins σ H s}{ds:List D}{vs:List V}{its:List Value}(t:Reps X.K H F ds vs)(r:Vals vs its)(j:Nat)(h:j < its.length):∃v,Rep X.K H F (ds.getD j .non) v/\RelV v its[j]:=by
 have hl:j < ds.length:=by rw[t.length,r.length];exact h
 have e1:ds[j]?=some (ds.getD j .non):=by rw[dc,aI hl];rfl
 obtain ⟨v,e2,r2⟩:=t.get e1;obtain ⟨u,e3,r3⟩:=r.get e2;rw[aI h]at e3;cases e3;exact ⟨v,r2,r3⟩
theorem Zf(a b:List Nat):(tx a==tx b)=(a==b):=by rw[e7,av,av];exact ⟨λh=>CQ h,λh=>by rw[h]⟩
theorem Zg(I:Inv X pins σ H s){n:Nat}{A:Around}{xs ys:List D}{a a':Addr}{vs vs':List V}{its its':List Value}
  (ih:∀m,m < n->∀(A:Around)(d d':D)(v v':V)(u u':Value),A.units+m < cLine->min (dpt d) (dpt d')<=m->nr d=true->nr d'=true->Rep X.K H F d v->Rep X.K H F d' v'->RelV v u->RelV v' u'->
   SeqAt.RcAt A s u u' (deq d d')/\SeqAt.EqAt A s u u' (deq d d')/\SeqAt.RcNeAt A s u u' (!deq d d'))
  (hu:A.units+n < cLine) (hd:min (dpt (.tup xs)) (dpt (.tup ys))<=n) (n1:nr (.tup xs)=true) (n2:nr (.tup ys)=true) (h:Rep X.K H F (.tup xs) (.ref a)) (h':Rep X.K H F (.tup ys) (.ref a'))
  (pt:s.heap.IsTuple a its.toArray) (pt':s.heap.IsTuple a' its'.toArray) (rv:Vals vs its) (rv':Vals vs' its') (tt:Reps X.K H F xs vs) (tt':Reps X.K H F ys vs'):
  SeqAt.RcAt A s (.ref a) (.ref a') (deq (.tup xs) (.tup ys))/\SeqAt.EqAt A s (.ref a) (.ref a') (deq (.tup xs) (.tup ys))/\SeqAt.RcNeAt A s (.ref a) (.ref a') (!deq (.tup xs) (.tup ys)):=by
 have hd':min (aQ xs+1) (aQ ys+1)<=n:=by rw[dpt,dpt]at hd;exact hd
 have hn1:nrs xs=true:=by rw[nr]at n1;exact n1
 have hn2:nrs ys=true:=by rw[nr]at n2;exact n2
 have l1:its.toArray.size=xs.length:=by rw[ar,<-rv.length,tt.length]
 have l2:its'.toArray.size=ys.length:=by rw[ar,<-rv'.length,tt'.length]
 have he:∀j (h1:j < its.toArray.size) (h2:j < its'.toArray.size),SeqAt.EqAt A.in1 s its.toArray[j] its'.toArray[j] (deq (xs.getD j .non) (ys.getD j .non)):=by intro j h1 h2;obtain ⟨w1,q1,q2⟩:=sZ (I:=I) tt rv j (by simpa using h1);obtain ⟨w2,q3,q4⟩:=sZ (I:=I) tt' rv' j (by simpa using h2);have d1:=@kh xs j;have d2:=@kh ys j;exact (ih (n - 1) (by omega) A.in1 _ _ w1 w2 _ _ (by show A.units+1+(n - 1) < cLine;omega) (by omega) (j9 hn1) (j9 hn2) q1 q3 (by simpa using q2) (by simpa using q4)).2.1
 have e:deq (.tup xs) (.tup ys)=((List.range (min its.toArray.size its'.toArray.size)).all (λj=>deq (xs.getD j .non) (ys.getD j .non))&&its.toArray.size==its'.toArray.size):=by rw[deq,sX,l1,l2]
 have rc:SeqAt.RcAt A s (.ref a) (.ref a') (deq (.tup xs) (.tup ys)):=by rw[e];exact .tuples pt pt' (by omega) he
 refine ⟨rc,?_,by rw[e];exact .tuples pt pt' (by omega) he⟩;by_cases z:a=a'
 ·subst z;have:=sY I n1 n2 h h';rw[<-this,xO n1];exact .same _
 ·exact .of_refs z rc
theorem Zh(I:Inv X pins σ H s){n:Nat}{A:Around}{xs ys:List D}{a a':Addr}{vs vs':List V}{its its':List Value}
  (ih:∀m,m < n->∀(A:Around)(d d':D)(v v':V)(u u':Value),A.units+m < cLine->min (dpt d) (dpt d')<=m->nr d=true->nr d'=true->Rep X.K H F d v->Rep X.K H F d' v'->RelV v u->RelV v' u'->
   SeqAt.RcAt A s u u' (deq d d')/\SeqAt.EqAt A s u u' (deq d d')/\SeqAt.RcNeAt A s u u' (!deq d d'))
  (hu:A.units+n < cLine) (hd:min (dpt (.lst xs)) (dpt (.lst ys))<=n) (n1:nr (.lst xs)=true) (n2:nr (.lst ys)=true) (h:a=a'->xs=ys)
  (pt:s.heap.IsList a its.toArray) (pt':s.heap.IsList a' its'.toArray) (rv:Vals vs its) (rv':Vals vs' its') (tt:Reps X.K H F xs vs) (tt':Reps X.K H F ys vs'):
  SeqAt.RcAt A s (.ref a) (.ref a') (deq (.lst xs) (.lst ys))/\SeqAt.EqAt A s (.ref a) (.ref a') (deq (.lst xs) (.lst ys))/\SeqAt.RcNeAt A s (.ref a) (.ref a') (!deq (.lst xs) (.lst ys)):=by
 have hd':min (aQ xs+1) (aQ ys+1)<=n:=by rw[dpt,dpt]at hd;exact hd
 have hn1:nrs xs=true:=by rw[nr]at n1;exact n1
 have hn2:nrs ys=true:=by rw[nr]at n2;exact n2
 have l1:its.toArray.size=xs.length:=by rw[ar,<-rv.length,tt.length]
 have l2:its'.toArray.size=ys.length:=by rw[ar,<-rv'.length,tt'.length]
 have eqs:∀(rc:SeqAt.RcAt A s (.ref a) (.ref a') (deq (.lst xs) (.lst ys))),SeqAt.EqAt A s (.ref a) (.ref a') (deq (.lst xs) (.lst ys)):=λrc=>by
  by_cases z:a=a'
  ·have:=h z;subst z;subst this;rw[xO n1];exact .same _
  ·exact .of_refs z rc
 by_cases hl:xs.length=ys.length
 ·have he:∀j (h1:j < its.toArray.size) (h2:j < its'.toArray.size),SeqAt.EqAt A.in1 s its.toArray[j] its'.toArray[j] (deq (xs.getD j .non) (ys.getD j .non)):=by
   intro j h1 h2;obtain ⟨w1,q1,q2⟩:=sZ (I:=I) tt rv j (by simpa using h1);obtain ⟨w2,q3,q4⟩:=sZ (I:=I) tt' rv' j (by simpa using h2);have d1:=@kh xs j;have d2:=@kh ys j;exact (ih (n - 1) (by omega) A.in1 _ _ w1 w2 _ _ (by show A.units+1+(n - 1) < cLine;omega) (by omega) (j9 hn1) (j9 hn2) q1 q3 (by simpa using q2) (by simpa using q4)).2.1
  have e:deq (.lst xs) (.lst ys)=(List.range its.toArray.size).all (λj=>deq (xs.getD j .non) (ys.getD j .non)):=by rw[deq,sX,l1,hl,Nat.min_self];simp
  have rc:SeqAt.RcAt A s (.ref a) (.ref a') (deq (.lst xs) (.lst ys)):=by rw[e];exact .lists pt pt' (by rw[l1,l2];exact hl) (by omega) he
  exact ⟨rc,eqs rc,by rw[e];exact .lists pt pt' (by rw[l1,l2];exact hl) (by omega) he⟩
 ·have e:deq (.lst xs) (.lst ys)=false:=by rw[deq];exact Ze hl
  have hne:(its.toArray.size != its'.toArray.size)=true:=by rw[l1,l2];simpa using hl
  have rc:SeqAt.RcAt A s (.ref a) (.ref a') (deq (.lst xs) (.lst ys)):=by rw[e];exact .lists_lengths pt pt' hne (by omega)
  exact ⟨rc,eqs rc,by rw[e];exact .lists_lengths pt pt' hne (by omega)⟩
theorem xR(I:Inv X pins σ H s):∀(n:Nat)(A:Around)(d d':D)(v v':V)(u u':Value),A.units+n < cLine->min (dpt d) (dpt d')<=n->nr d=true->nr d'=true->Rep X.K H F d v->Rep X.K H F d' v'->RelV v u->RelV v' u'->
  SeqAt.RcAt A s u u' (deq d d')/\SeqAt.EqAt A s u u' (deq d d')/\SeqAt.RcNeAt A s u u' (!deq d d'):=by
 intro n;induction n using Nat.strongRecOn with
 |_ n ih=>
  intro A d d' v v' u u' hu hd n1 n2 h h' r r';have hu0:A.units < cLine:=by omega
  cases d with
  |ref a=>rw[nr]at n1;cases n1
  |scr a=>rw[nr]at n1;cases n1
  |exn a=>rw[nr]at n1;cases n1
  |obj _ _ _=>rw[nr]at n1;cases n1
  |non=>
   have hv:v=.non:=h;subst hv;have hr:u=Value.none:=r;subst hr;cases d' with
   |ref a=>rw[nr]at n2;cases n2
   |scr a=>rw[nr]at n2;cases n2
   |exn a=>rw[nr]at n2;cases n2
   |obj _ _ _=>rw[nr]at n2;cases n2
   |non=>
    have hv:v'=.non:=h';subst hv;have hr:u'=Value.none:=r';subst hr;exact ⟨.none_none,.same _,.none_none⟩
   |bl b'=>
    have hv:v'=.bl b':=h';subst hv;have hr:u'=Value.bool b':=r';subst hr;exact ⟨.none_bool b',.none_bool b',.none_bool b'⟩
   |int i'=>
    have hv:v'=.int i':=h';subst hv;obtain ⟨t',hr⟩:∃t',u'=Value.int i' t':=r';subst hr;exact ⟨.none_int i' t',.none_int i' t',.none_int i' t'⟩
   |str l'=>
    obtain ⟨hv,_⟩:=h';subst hv;obtain ⟨t',hr⟩:∃t',u'=Value.str (tx l') t':=r';subst hr;exact ⟨.none_str (tx l') t',.none_str (tx l') t',.none_str (tx l') t'⟩
   |tup ys=>
    obtain ⟨a',vs',hv,q',tt'⟩:=id h';subst hv;have hr:u'=Value.ref a':=r';subst hr;obtain ⟨its',rv',pt',_⟩:=I.tuple q'.sq;have pt':s.heap.IsTuple a' its'.toArray:=pt';exact ⟨.none_tuple pt' hu0,.none_tuple pt' hu0,.none_tuple pt' hu0⟩
   |lst ys=>
    obtain ⟨a',vs',hv,q',tt'⟩:=id h';subst hv;have hr:u'=Value.ref a':=r';subst hr;obtain ⟨its',rv',pl',_⟩:=I.list q'.sq;have pt':s.heap.IsList a' its'.toArray:=pl'.isList;exact ⟨.none_list pt' hu0,.none_list pt' hu0,.none_list pt' hu0⟩
  |bl b=>
   have hv:v=.bl b:=h;subst hv;have hr:u=Value.bool b:=r;subst hr;cases d' with
   |ref a=>rw[nr]at n2;cases n2
   |scr a=>rw[nr]at n2;cases n2
   |exn a=>rw[nr]at n2;cases n2
   |obj _ _ _=>rw[nr]at n2;cases n2
   |non=>
    have hv:v'=.non:=h';subst hv;have hr:u'=Value.none:=r';subst hr;exact ⟨.bool_none b,.bool_none b,.bool_none b⟩
   |bl b'=>
    have hv:v'=.bl b':=h';subst hv;have hr:u'=Value.bool b':=r';subst hr;exact ⟨.bool_bool b b',.bool_bool b b',.bool_bool b b'⟩
   |int i'=>
    have hv:v'=.int i':=h';subst hv;obtain ⟨t',hr⟩:∃t',u'=Value.int i' t':=r';subst hr;exact ⟨.bool_int b i' t',.bool_int b i' t',.bool_int b i' t'⟩
   |str l'=>
    obtain ⟨hv,_⟩:=h';subst hv;obtain ⟨t',hr⟩:∃t',u'=Value.str (tx l') t':=r';subst hr;exact ⟨.bool_str b (tx l') t',.bool_str b (tx l') t',.bool_str b (tx l') t'⟩
   |tup ys=>
    obtain ⟨a',vs',hv,q',tt'⟩:=id h';subst hv;have hr:u'=Value.ref a':=r';subst hr;obtain ⟨its',rv',pt',_⟩:=I.tuple q'.sq;have pt':s.heap.IsTuple a' its'.toArray:=pt';exact ⟨.bool_tuple b pt' hu0,.bool_tuple b pt' hu0,.bool_tuple b pt' hu0⟩
   |lst ys=>
    obtain ⟨a',vs',hv,q',tt'⟩:=id h';subst hv;have hr:u'=Value.ref a':=r';subst hr;obtain ⟨its',rv',pl',_⟩:=I.list q'.sq;have pt':s.heap.IsList a' its'.toArray:=pl'.isList;exact ⟨.bool_list b pt' hu0,.bool_list b pt' hu0,.bool_list b pt' hu0⟩
  |int i=>
   have hv:v=.int i:=h;subst hv;obtain ⟨t,hr⟩:∃t,u=Value.int i t:=r;subst hr;cases d' with
   |ref a=>rw[nr]at n2;cases n2
   |scr a=>rw[nr]at n2;cases n2
   |exn a=>rw[nr]at n2;cases n2
   |obj _ _ _=>rw[nr]at n2;cases n2
   |non=>
    have hv:v'=.non:=h';subst hv;have hr:u'=Value.none:=r';subst hr;exact ⟨.int_none i t,.int_none i t,.int_none i t⟩
   |bl b'=>
    have hv:v'=.bl b':=h';subst hv;have hr:u'=Value.bool b':=r';subst hr;exact ⟨.int_bool i t b',.int_bool i t b',.int_bool i t b'⟩
   |int i'=>
    have hv:v'=.int i':=h';subst hv;obtain ⟨t',hr⟩:∃t',u'=Value.int i' t':=r';subst hr;exact ⟨.int_int i t i' t',.int_int i t i' t',.int_int i t i' t'⟩
   |str l'=>
    obtain ⟨hv,_⟩:=h';subst hv;obtain ⟨t',hr⟩:∃t',u'=Value.str (tx l') t':=r';subst hr;exact ⟨.int_str i t (tx l') t',.int_str i t (tx l') t',.int_str i t (tx l') t'⟩
   |tup ys=>
    obtain ⟨a',vs',hv,q',tt'⟩:=id h';subst hv;have hr:u'=Value.ref a':=r';subst hr;obtain ⟨its',rv',pt',_⟩:=I.tuple q'.sq;have pt':s.heap.IsTuple a' its'.toArray:=pt';exact ⟨.int_tuple i t pt' hu0,.int_tuple i t pt' hu0,.int_tuple i t pt' hu0⟩
   |lst ys=>
    obtain ⟨a',vs',hv,q',tt'⟩:=id h';subst hv;have hr:u'=Value.ref a':=r';subst hr;obtain ⟨its',rv',pl',_⟩:=I.list q'.sq;have pt':s.heap.IsList a' its'.toArray:=pl'.isList;exact ⟨.int_list i t pt' hu0,.int_list i t pt' hu0,.int_list i t pt' hu0⟩
  |str l=>
   obtain ⟨hv,_⟩:=h;subst hv;obtain ⟨t,hr⟩:∃t,u=Value.str (tx l) t:=r;subst hr;cases d' with
   |ref a=>rw[nr]at n2;cases n2
   |scr a=>rw[nr]at n2;cases n2
   |exn a=>rw[nr]at n2;cases n2
   |obj _ _ _=>rw[nr]at n2;cases n2
   |non=>
    have hv:v'=.non:=h';subst hv;have hr:u'=Value.none:=r';subst hr;exact ⟨.str_none (tx l) t,.str_none (tx l) t,.str_none (tx l) t⟩
   |bl b'=>
    have hv:v'=.bl b':=h';subst hv;have hr:u'=Value.bool b':=r';subst hr;exact ⟨.str_bool (tx l) t b',.str_bool (tx l) t b',.str_bool (tx l) t b'⟩
   |int i'=>
    have hv:v'=.int i':=h';subst hv;obtain ⟨t',hr⟩:∃t',u'=Value.int i' t':=r';subst hr;exact ⟨.str_int (tx l) t i' t',.str_int (tx l) t i' t',.str_int (tx l) t i' t'⟩
   |str l'=>
    obtain ⟨hv,_⟩:=h';subst hv;obtain ⟨t',hr⟩:∃t',u'=Value.str (tx l') t':=r';subst hr;rw[deq,<-Zf];exact ⟨.str_str (tx l) t (tx l') t',.str_str (tx l) t (tx l') t',.str_str (tx l) t (tx l') t'⟩
   |tup ys=>
    obtain ⟨a',vs',hv,q',tt'⟩:=id h';subst hv;have hr:u'=Value.ref a':=r';subst hr;obtain ⟨its',rv',pt',_⟩:=I.tuple q'.sq;have pt':s.heap.IsTuple a' its'.toArray:=pt';exact ⟨.str_tuple (tx l) t pt' hu0,.str_tuple (tx l) t pt' hu0,.str_tuple (tx l) t pt' hu0⟩
   |lst ys=>
    obtain ⟨a',vs',hv,q',tt'⟩:=id h';subst hv;have hr:u'=Value.ref a':=r';subst hr;obtain ⟨its',rv',pl',_⟩:=I.list q'.sq;have pt':s.heap.IsList a' its'.toArray:=pl'.isList;exact ⟨.str_list (tx l) t pt' hu0,.str_list (tx l) t pt' hu0,.str_list (tx l) t pt' hu0⟩
  |tup xs=>
   obtain ⟨a,vs,hv,q,tt⟩:=id h;subst hv;have hr:u=Value.ref a:=r;subst hr;obtain ⟨its,rv,pt,_⟩:=I.tuple q.sq;have pt:s.heap.IsTuple a its.toArray:=pt;cases d' with
   |ref a=>rw[nr]at n2;cases n2
   |scr a=>rw[nr]at n2;cases n2
   |exn a=>rw[nr]at n2;cases n2
   |obj _ _ _=>rw[nr]at n2;cases n2
   |non=>
    have hv:v'=.non:=h';subst hv;have hr:u'=Value.none:=r';subst hr;exact ⟨.tuple_none pt hu0,.tuple_none pt hu0,.tuple_none pt hu0⟩
   |bl b'=>
    have hv:v'=.bl b':=h';subst hv;have hr:u'=Value.bool b':=r';subst hr;exact ⟨.tuple_bool b' pt hu0,.tuple_bool b' pt hu0,.tuple_bool b' pt hu0⟩
   |int i'=>
    have hv:v'=.int i':=h';subst hv;obtain ⟨t',hr⟩:∃t',u'=Value.int i' t':=r';subst hr;exact ⟨.tuple_int i' t' pt hu0,.tuple_int i' t' pt hu0,.tuple_int i' t' pt hu0⟩
   |str l'=>
    obtain ⟨hv,_⟩:=h';subst hv;obtain ⟨t',hr⟩:∃t',u'=Value.str (tx l') t':=r';subst hr;exact ⟨.tuple_str (tx l') t' pt hu0,.tuple_str (tx l') t' pt hu0,.tuple_str (tx l') t' pt hu0⟩
   |tup ys=>
    obtain ⟨a',vs',hv,q',tt'⟩:=id h';subst hv;have hr:u'=Value.ref a':=r';subst hr;obtain ⟨its',rv',pt',_⟩:=I.tuple q'.sq;have pt':s.heap.IsTuple a' its'.toArray:=pt';exact Zg I ih hu hd n1 n2 h h' pt pt' rv rv' tt tt'
   |lst ys=>
    obtain ⟨a',vs',hv,q',tt'⟩:=id h';subst hv;have hr:u'=Value.ref a':=r';subst hr;obtain ⟨its',rv',pl',_⟩:=I.list q'.sq;have pt':s.heap.IsList a' its'.toArray:=pl'.isList;exact ⟨.tuple_list pt pt' hu0,.tuple_list pt pt' hu0,.tuple_list pt pt' hu0⟩
  |lst xs=>
   obtain ⟨a,vs,hv,q,tt⟩:=id h;subst hv;have hr:u=Value.ref a:=r;subst hr;obtain ⟨its,rv,pl,_⟩:=I.list q.sq;have pt:s.heap.IsList a its.toArray:=pl.isList;cases d' with
   |ref a=>rw[nr]at n2;cases n2
   |scr a=>rw[nr]at n2;cases n2
   |exn a=>rw[nr]at n2;cases n2
   |obj _ _ _=>rw[nr]at n2;cases n2
   |non=>
    have hv:v'=.non:=h';subst hv;have hr:u'=Value.none:=r';subst hr;exact ⟨.list_none pt hu0,.list_none pt hu0,.list_none pt hu0⟩
   |bl b'=>
    have hv:v'=.bl b':=h';subst hv;have hr:u'=Value.bool b':=r';subst hr;exact ⟨.list_bool b' pt hu0,.list_bool b' pt hu0,.list_bool b' pt hu0⟩
   |int i'=>
    have hv:v'=.int i':=h';subst hv;obtain ⟨t',hr⟩:∃t',u'=Value.int i' t':=r';subst hr;exact ⟨.list_int i' t' pt hu0,.list_int i' t' pt hu0,.list_int i' t' pt hu0⟩
   |str l'=>
    obtain ⟨hv,_⟩:=h';subst hv;obtain ⟨t',hr⟩:∃t',u'=Value.str (tx l') t':=r';subst hr;exact ⟨.list_str (tx l') t' pt hu0,.list_str (tx l') t' pt hu0,.list_str (tx l') t' pt hu0⟩
   |tup ys=>
    obtain ⟨a',vs',hv,q',tt'⟩:=id h';subst hv;have hr:u'=Value.ref a':=r';subst hr;obtain ⟨its',rv',pt',_⟩:=I.tuple q'.sq;have pt':s.heap.IsTuple a' its'.toArray:=pt';exact ⟨.list_tuple pt pt' hu0,.list_tuple pt pt' hu0,.list_tuple pt pt' hu0⟩
   |lst ys=>
    obtain ⟨a',vs',hv,q',tt'⟩:=id h';subst hv;have hr:u'=Value.ref a':=r';subst hr;obtain ⟨its',rv',pl',_⟩:=I.list q'.sq;have pt':s.heap.IsList a' its'.toArray:=pl'.isList;exact Zh I ih hu hd n1 n2 (λz=>by subst z;have e:=sY I n1 n2 h h';injection e) pt pt' rv rv' tt tt'
end
def FA(F:FZ)(G:DH):FZ:=λa=>F a\/∃o,G a=some o
theorem Ei{H:Hp}{F:FZ}{G:DH}:Ext H F H (FA F G):=⟨λ_ f=>.inl f,λ_ _=>rfl,λ_ _ h=>h,λ_ _ _ h=>h⟩
theorem gU{K:PySem.W.Frag}{H:Hp}{F:FZ}{G:DH}{d:D}{v:V}(r:R K H F G)(h:Rep K H F d v):Rep K H (FA F G) (view G d) v:=by
 cases d with
 |ref p=>
  have hv:v=.ref p:=h;cases g:G p with
  |none=>
   have e:view G (.ref p)=.ref p:=by simp only[view,g]
   rw[e];exact hv
  |some o=>
   cases o with
   |lst ds=>
    have e:view G (.ref p)=.lst ds:=by simp only[view,g]
    rw[e];obtain ⟨vs,q,t⟩:=r.lst g;exact ⟨p,vs,hv,⟨.inr ⟨_,g⟩,q⟩,Reps.ext Ei t⟩
 |_=>exact Rep.ext Ei h
def rC2(K:PySem.W.Frag)(f:D->D->(Bool->Prop)->Prop):R2:=λx y H Q=>∃F G a b,R K H F G/\Rep K H F a x/\Rep K H F b y/\f (view G a) (view G b) (λc=>PV K H F Q (.bl c) G)
section
variable {X:Cx}
theorem Ej(c:Nat)(l:List Nat):(!(Builtin.Str.occurrences (tx l) (tx [c]) 0 (tx l).length 1).isEmpty)=l.contains c:=by have:=StrLaws.found_one (tx l) c;rw[this,e7];simp
theorem Zi{pins:List (Addr×Obj)}{σ:L2.St}{H:Hp}{s:Shared}{F:FZ}(I:Inv X pins σ H s){A:Around}{x:D}{v:V}{u:Value}(hu:A.units+64 < cLine)(hx:nr x=true)(rx:Rep X.K H F x v)(ru:RelV v u):
  ∀{ds:List D}{vs:List V}{us:List Value},nrs ds=true->aQ ds<=60->Reps X.K H F ds vs->Vals vs us->∃e:Value->Bool,(∀y∈us,SeqAt.EqAt A s y u (e y))/\us.any e=isIn x ds:=by
 intro ds vs us hn hd t r;let P:Value->D->Prop:=λy d=>nr d=true/\∃v,Rep X.K H F d v/\RelV v y
 have one:∀y d d',P y d->P y d'->d=d':=λy d d' ⟨n,v,q,z⟩ ⟨n',v',q',z'⟩=>by
  have e:=z.inj z';subst e;exact sY I n n' q q'
 have ⟨f,hf⟩:∃f:Value->D,∀y d,P y d->f y=d:=by refine ⟨λy=>Classical.epsilon (P y),λy d h=>?_⟩;exact one y _ _ (Classical.epsilon_spec ⟨d,h⟩) h
 refine ⟨λy=>deq (f y) x,?_,?_⟩
 ·skip;have key:∀{ds:List D}{vs:List V}{us:List Value},nrs ds=true->aQ ds<=60->Reps X.K H F ds vs->Vals vs us->∀y∈us,SeqAt.EqAt A s y u (deq (f y) x):=by
   intro ds;induction ds with
   |nil=>
    intro vs us _ _ t r y hy;have t:vs=[]:=t;subst t;cases r;cases hy
   |cons d ds ih=>
    intro vs us hn hd t r y hy;obtain ⟨v1,r1,e,h1,t1⟩:=t;subst e;rw[nrs,ae]at hn;rw[aQ]at hd;cases r with
    |cons p q=>
     rcases aT.mp hy with e |hy
     ·subst e;rw[hf _ d ⟨hn.1,_,h1,p⟩];exact (xR I 60 A d x v1 v _ u (by omega) (by omega) hn.1 hx h1 rx p ru).2.1
     ·exact ih hn.2 (by omega) t1 q y hy
  exact key hn hd t r
 ·have key:∀{ds:List D}{vs:List V}{us:List Value},nrs ds=true->Reps X.K H F ds vs->Vals vs us->us.any (λy=>deq (f y) x)=isIn x ds:=by
   intro ds;induction ds with
   |nil=>
    intro vs us _ t r;have t:vs=[]:=t;subst t;cases r;rfl
   |cons d ds ih=>
    intro vs us hn t r;obtain ⟨v1,r1,e,h1,t1⟩:=t;subst e;rw[nrs,ae]at hn;cases r with
    |cons p q=>
     rw[List.any_cons,hf _ d ⟨hn.1,_,h1,p⟩,ih hn.2 t1 q];rfl
  exact key hn t r
theorem jm(op:CmpOp)(hu:X.A.units+100 < cLine):OpR X (compareOp op) (rC2 X.K (aW op)):=by
 intro pins s σ H x y v u Q I rx ry h;obtain ⟨F,G,a,b,r,ra,rb,h⟩:=h;have ra':=gU r ra;have rb':=gU r rb;generalize ea:view G a=va at h ra';generalize eb:view G b=vb at h rb';have fin:∀c:Bool,PV X.K H F Q (.bl c) G->EP X pins σ Q (.bool c) s:=λc q=>⟨.bl c,H,I,rfl,q.now r rfl⟩;have hin:∀(l:List D)(k:Bool->Prop),(nr va=true/\nrs l=true/\aQ l<=60)->∀{vs:List V}{us:List Value},Reps X.K H (FA F G) l vs->Vals vs us->
   ∃e:Value->Bool,(∀z∈us,SeqAt.EqAt X.A.in1 s z v (e z))/\us.any e=isIn va l:=λl k hh {vs us} t rv=>
  Zi I (A:=X.A.in1) (by show X.A.units+1+64 < cLine;omega) hh.1 ra' rx hh.2.1 hh.2.2 t rv
 cases op with
 |Eq=>
  obtain ⟨⟨n1,n2,n3⟩,q⟩:=h;exact (xR I 60 X.A _ _ x y v u (by omega) n3 n1 n2 ra' rb' rx ry).1 _ _ _ _ (fin _ q)
 |NotEq=>
  obtain ⟨⟨n1,n2,n3⟩,q⟩:=h;exact (xR I 60 X.A _ _ x y v u (by omega) n3 n1 n2 ra' rb' rx ry).2.2 _ _ _ _ (fin _ q)
 |Lt=>
  have h:iZ va vb (λc=>PV X.K H F Q (.bl c) G):=h;unfold iZ at h;split at h
  ·have e1:x=.int _:=ra';have e2:y=.int _:=rb';subst e1;subst e2;obtain ⟨t,rfl⟩:=rx;obtain ⟨t',rfl⟩:=ry;exact lt_int (fin _ h)
  ·obtain ⟨e1,_⟩:=ra';obtain ⟨e2,_⟩:=rb';subst e1;subst e2;obtain ⟨t,rfl⟩:=rx;obtain ⟨t',rfl⟩:=ry;exact lt_str (fin _ h)
  ·exact h.elim
 |LtE=>
  have h:jb va vb (λc=>PV X.K H F Q (.bl c) G):=h;unfold jb at h;split at h
  ·have e1:x=.int _:=ra';have e2:y=.int _:=rb';subst e1;subst e2;obtain ⟨t,rfl⟩:=rx;obtain ⟨t',rfl⟩:=ry;exact le_int (fin _ h)
  ·obtain ⟨e1,_⟩:=ra';obtain ⟨e2,_⟩:=rb';subst e1;subst e2;obtain ⟨t,rfl⟩:=rx;obtain ⟨t',rfl⟩:=ry;exact PySem.P.le_str (fin _ h)
  ·exact h.elim
 |Gt=>
  have h:jc va vb (λc=>PV X.K H F Q (.bl c) G):=h;unfold jc at h;split at h
  ·have e1:x=.int _:=ra';have e2:y=.int _:=rb';subst e1;subst e2;obtain ⟨t,rfl⟩:=rx;obtain ⟨t',rfl⟩:=ry;exact gt_int (fin _ h)
  ·exact h.elim
 |GtE=>
  have h:jd va vb (λc=>PV X.K H F Q (.bl c) G):=h;unfold jd at h;split at h
  ·have e1:x=.int _:=ra';have e2:y=.int _:=rb';subst e1;subst e2;obtain ⟨t,rfl⟩:=rx;obtain ⟨t',rfl⟩:=ry;exact ge_int (fin _ h)
  ·exact h.elim
 |Is=>
  have h:je va vb (λc=>PV X.K H F Q (.bl c) G):=h;unfold je at h;split at h
  ·have e2:y=.non:=rb';subst e2;have q:∀c,(c=decide (x=.non))->PV X.K H F Q (.bl c) G->wpAny (model X.prog X.w) X.A (compareOp .Is v u) (EP X pins σ Q) X.xe s:=λc e q=>
    VV pins s σ H _ _ v u Q I rx ry ⟨rfl,by rw[<-e];exact q.now r rfl⟩
   refine q _ ?_ h;have:qD va=decide (x=.non):=by
    cases va with
    |non=>have e1:x=.non:=ra';subst e1;rfl
    |bl _=>have e1:x=.bl _:=ra';subst e1;rfl
    |int _=>have e1:x=.int _:=ra';subst e1;rfl
    |str _=>obtain ⟨e1,_⟩:=ra';subst e1;rfl
    |tup _=>obtain ⟨_,_,e1,_⟩:=ra';subst e1;rfl
    |lst _=>obtain ⟨_,_,e1,_⟩:=ra';subst e1;rfl
    |ref _=>have e1:x=.ref _:=ra';subst e1;rfl
    |scr _=>obtain ⟨_,e1,_⟩:=ra';subst e1;rfl
    |exn _=>obtain ⟨_,_,e1,_⟩:=ra';subst e1;rfl
    |obj _ _ _=>obtain ⟨_,_,_,e1,_⟩:=ra';subst e1;rfl
   rw[this]
  ·split at h
   ·have e1:x=.bl _:=ra';have e2:y=.bl _:=rb';subst e1;subst e2;exact X8 pins s σ H _ _ v u Q I rx ry ⟨_,_,rfl,rfl,h.now r rfl⟩
   ·exact h.elim
  ·exact h.elim
 |IsNot=>
  have h:jf va vb (λc=>PV X.K H F Q (.bl c) G):=h;unfold jf at h;split at h
  ·have e2:y=.non:=rb';subst e2;have q:∀c,(c=!decide (x=.non))->PV X.K H F Q (.bl c) G->wpAny (model X.prog X.w) X.A (compareOp .IsNot v u) (EP X pins σ Q) X.xe s:=λc e q=>
    V0 pins s σ H _ _ v u Q I rx ry ⟨rfl,by rw[<-e];exact q.now r rfl⟩
   refine q _ ?_ h;have:qD va=decide (x=.non):=by
    cases va with
    |non=>have e1:x=.non:=ra';subst e1;rfl
    |bl _=>have e1:x=.bl _:=ra';subst e1;rfl
    |int _=>have e1:x=.int _:=ra';subst e1;rfl
    |str _=>obtain ⟨e1,_⟩:=ra';subst e1;rfl
    |tup _=>obtain ⟨_,_,e1,_⟩:=ra';subst e1;rfl
    |lst _=>obtain ⟨_,_,e1,_⟩:=ra';subst e1;rfl
    |ref _=>have e1:x=.ref _:=ra';subst e1;rfl
    |scr _=>obtain ⟨_,e1,_⟩:=ra';subst e1;rfl
    |exn _=>obtain ⟨_,_,e1,_⟩:=ra';subst e1;rfl
    |obj _ _ _=>obtain ⟨_,_,_,e1,_⟩:=ra';subst e1;rfl
   rw[this]
  ·split at h
   ·have e1:x=.bl _:=ra';have e2:y=.bl _:=rb';subst e1;subst e2;exact Yh pins s σ H _ _ v u Q I rx ry ⟨_,_,rfl,rfl,h.now r rfl⟩
   ·exact h.elim
  ·exact h.elim
 |In=>
  have h:fD va vb (λc=>PV X.K H F Q (.bl c) G):=h;unfold fD at h;split at h
  ·split at h
   ·obtain ⟨e1,_⟩:=ra';obtain ⟨e2,_⟩:=rb';subst e1;subst e2;obtain ⟨t,rfl⟩:=rx;obtain ⟨t',rfl⟩:=ry;exact in_str (by rw[Ej];exact fin _ h)
   ·exact h.elim
  ·obtain ⟨hh,q⟩:=h;obtain ⟨p,vs,e2,q2,t⟩:=rb';subst e2;cases ry;obtain ⟨its,rv,pl,hz⟩:=I.list q2.sq;obtain ⟨e,he,hany⟩:=hin _ (λ_=>True) hh t rv;refine SeqAt.in_listAt e pl.isList (λw hw=>he w (by simpa using hw)) ?_;rw[show its.toArray.any e=its.any e by simp,hany];exact fin _ q
  ·obtain ⟨hh,q⟩:=h;obtain ⟨p,vs,e2,q2,t⟩:=rb';subst e2;cases ry;obtain ⟨its,rv,pl,hz⟩:=I.tuple q2.sq;obtain ⟨e,he,hany⟩:=hin _ (λ_=>True) hh t rv;refine SeqAt.in_tupleAt e pl (λw hw=>he w (by simpa using hw)) ?_;rw[show its.toArray.any e=its.any e by simp,hany];exact fin _ q
  ·exact h.elim
 |NotIn=>
  have h:fD va vb (λc=>PV X.K H F Q (.bl (!c)) G):=h;unfold fD at h;split at h
  ·split at h
   ·obtain ⟨e1,_⟩:=ra';obtain ⟨e2,_⟩:=rb';subst e1;subst e2;obtain ⟨t,rfl⟩:=rx;obtain ⟨t',rfl⟩:=ry;exact notIn_str (by rw[Ej];exact fin _ h)
   ·exact h.elim
  ·obtain ⟨hh,q⟩:=h;obtain ⟨p,vs,e2,q2,t⟩:=rb';subst e2;cases ry;obtain ⟨its,rv,pl,hz⟩:=I.list q2.sq;obtain ⟨e,he,hany⟩:=hin _ (λ_=>True) hh t rv;refine SeqAt.notIn_listAt e pl.isList (λw hw=>he w (by simpa using hw)) ?_;rw[show its.toArray.any e=its.any e by simp,hany];exact fin _ q
  ·obtain ⟨hh,q⟩:=h;obtain ⟨p,vs,e2,q2,t⟩:=rb';subst e2;cases ry;obtain ⟨its,rv,pl,hz⟩:=I.tuple q2.sq;obtain ⟨e,he,hany⟩:=hin _ (λ_=>True) hh t rv;refine SeqAt.notIn_tupleAt e pl (λw hw=>he w (by simpa using hw)) ?_;rw[show its.toArray.any e=its.any e by simp,hany];exact fin _ q
  ·exact h.elim
end
section
variable {X:Cx}
def Zj(K:PySem.W.Frag):R2:=λx y H Q=>∃F G a b,R K H F G/\Rep K H F a x/\Rep K H F b y/\cu (view G a) b (λd=>PV K H F Q d G)
theorem Ek{K:PySem.W.Frag}{H:Hp}{F:FZ}{ds:List D}{vs:List V}{i:Int}{d:D}(t:Reps K H F ds vs)(h:atI ds i=some d):∃v,atI vs i=some v/\Rep K H F d v:=by
 unfold atI at h ⊢;rw[<-t.length];cases e:ixN ds.length i with
 |none=>rw[e]at h;cases h
 |some j=>
  rw[e]at h;obtain ⟨v,e1,r⟩:=t.get (show ds[j]?=some d from h);exact ⟨v,e1,r⟩
theorem Zk:IxR X (Zj X.K):=by
 intro value slice pins s σ H x y v u Q I rx ry h hs;obtain ⟨F,G,a,b,r,ra,rb,h⟩:=h;generalize ea:view G a=va at h;unfold cu at h;split at h
 ·obtain ⟨p,vs,e,q,t⟩:=Rep.list r ra ea;subst e;have e2:y=.int _:=rb;subst e2;split at h
  ·rename_i d hd;obtain ⟨w,hw,rw'⟩:=Ek t hd;exact W9 value slice pins s σ H _ _ v u Q I rx ry ⟨p,vs,_,w,rfl,rfl,q,hw,h.now r rw'⟩ hs
  ·exact h.elim
 ·cases eQ ea;obtain ⟨p,vs,e,q,t⟩:=ra;subst e;have e2:y=.int _:=rb;subst e2;split at h
  ·rename_i d hd;obtain ⟨w,hw,rw'⟩:=Ek t hd;exact Xa value slice pins s σ H _ _ v u Q I rx ry ⟨p,vs,_,w,rfl,rfl,q.sq,hw,h.now r rw'⟩ hs
  ·exact h.elim
 ·cases eU ea;obtain ⟨e,hl⟩:=ra;subst e;have e2:y=.int _:=rb;subst e2;split at h
  ·rename_i c hc;exact Xb value slice pins s σ H _ _ v u Q I rx ry ⟨_,_,c,rfl,rfl,by rw[bT];exact cV hl,hc,h.now r ⟨rfl,by show 1<=sz;decide⟩⟩ hs
  ·exact h.elim
 ·exact h.elim
theorem Zm(l:List Nat)(lo hi:Option Int):Txt.slice (tx l) lo hi=tx (cut l lo hi):=by
 have e:Builtin.Str.strSliceIndices lo hi 1 (tx l).length=sliceRange (sliceBounds lo hi none (tx l).length).1 (sliceBounds lo hi none (tx l).length).2.1 1:=by unfold Builtin.Str.strSliceIndices sliceBounds;cases lo <;> cases hi <;> rfl
 obtain ⟨h1,h2,h3⟩:=Cm lo hi (tx l).length;rw[h1,h2,sliceRange_one]at e;have e2:((Builtin.Str.strSliceIndices lo hi 1 (tx l).length).filterMap ((tx l).cps[·]?))=cut l lo hi:=by rw[e,pick_run];unfold cut;rw[bT]
 unfold Txt.slice;split
 ·rename_i hh;rw[ae]at hh;have hl:=eq_of_beq hh.2;rw[e,al,List.length_range,bT]at hl;have b1:HT.sIx l.length l.length hi<=l.length:=HT.Ca _ _ (aw _) hi;unfold cut;by_cases hz:l=[]
  ·subst hz;simp
  ·have hp:0 < l.length:=List.length_pos_iff.mpr hz;have e3:HT.sIx l.length 0 lo=0:=by omega
   have e4:HT.sIx l.length l.length hi=l.length:=by omega
   rw[e3,e4];simp
 ·rw[e2]
theorem Zn{α:Type}(xs:List α)(lo hi:Option Int):(cut xs lo hi).length<=xs.length:=by unfold cut;rw[b6,ci];omega
theorem Zo{prog:Program}{w:World}{A:Around}{E:Value->Shared->Prop}{s:Shared}{t sl:Addr}{items:Array Value}{vl vu:Value}{lo hi:Option Int}{Q:Value->Shared->Prop}(ht:IsTup s.heap t items)(hs:s.heap.IsSliceOf sl vl vu .none)(pl:IsPart vl lo)(pu:IsPart vu hi)
  (hw:HT.sIx items.size 0 lo=0/\HT.sIx items.size items.size hi=items.size) (h:Q (.ref t) s):wpAny (model prog w) A (getItem (.ref t) (.ref sl)) Q E s:=by
 obtain ⟨os,hos,hcs,hds⟩:=id hs;have hTs:s.TypeIs (.ref sl) "slice":=⟨os,hos,hcs⟩;unfold getItem;try with_reducible refine eJ ?_
 first |refine ag (bb ?_) |skip
 refine ag (wpAny_sequenceKey ht.typeIs (by decide) ?_);refine ag (eP (name:=Str.ofString "__getitem__") ht.typeIs eD
  (fI eD ht.typeIs entry_tuple_getitem ?_ (args_tuple_getitem _ _)))
 show wpAny _ _ (Builtin.Tuple.tupleItemsOf (.ref t) >>= _) _ _ s;refine ag (tupleItemsOf_ ht ?_);refine ag (wpAny_typeOf hTs ?_);rw[if_pos (by decide)];refine ag (HT.Cg hs pl pu ?_);have hyes:(((HT.sIx items.size 0 lo:Nat):Int)==0&&(1:Int)==1&&(HT.sIx items.size items.size hi - HT.sIx items.size 0 lo)==items.size)=true:=by rw[hw.1,hw.2];simp
 show wpAny _ _ (if (((HT.sIx items.size 0 lo:Nat):Int)==0&&(1:Int)==1&&(HT.sIx items.size items.size hi - HT.sIx items.size 0 lo)==items.size)=true then _ else _) _ _ s;rw[if_pos hyes];refine ag (m:=Builtin.Tuple.tupleIsExact _) (ag (wpAny_typeOf ht.typeIs (bb ?_)));rw[if_pos (by decide)];exact ag (wpAny_rule (bb ⟨_,rfl,bb h⟩))
theorem Zq:SlR X (λx lo hi H Q=>∃a xs,x=.ref a/\SqT X.K H a xs/\(HT.sIx xs.length 0 lo=0/\HT.sIx xs.length xs.length hi=xs.length)/\Q (.ref a) H):=by
 intro pins s σ H x v vl vu lo hi sl Q I rx hs pl pu h;obtain ⟨a,xs,rfl,hx,hw,q⟩:=h;cases rx;obtain ⟨its,r,ht,hz⟩:=I.tuple hx;have hlen:its.toArray.size=xs.length:=by rw[ar];exact r.length.symm
 exact ⟨"tuple",_,eD.lookup,ht.typeIs,Zo ht hs pl pu (by rw[hlen];exact hw) ⟨.ref a,H,I,rfl,q⟩⟩
theorem El{K:PySem.W.Frag}{H:Hp}{F:FZ}:∀ns:List Int,Reps K H F (ns.map D.int) (ns.map V.int)
 |[]=>rfl
 |n::ns=>⟨_,_,rfl,rfl,El ns⟩
noncomputable def Zr(K:PySem.W.Frag)(fz:Bool):V->Option Int->Option Int->Hp->VK->Prop:=λx lo hi H Q=>∃F G a,R K H F G/\Rep K H F a x/\dO fz (view G a) lo hi G (PV K H F Q)
theorem Em{K:PySem.W.Frag}{H:Hp}{F:FZ}{ds:List D}{vs:List V}(t:Reps K H F ds vs)(lo hi:Option Int):Reps K H F (cut ds lo hi) (dM vs lo hi):=t.cut lo hi
theorem Zt(fz:Bool):SlR X (Zr X.K fz):=by
 intro pins s σ H x v vl vu lo hi sl Q I rx hs pl pu h;obtain ⟨F,G,a,r,ra,h⟩:=h;generalize ea:view G a=va at h;unfold dO at h;split at h
 ·obtain ⟨p,vs,e,q,t⟩:=Rep.list r ra ea;subst e;exact Cp pins s σ H _ v vl vu lo hi sl Q I rx hs pl pu ⟨p,vs,rfl,q,fL h r (Em t lo hi)⟩
 ·rename_i ns;have ea':a=.scr ns:=by
   cases a with
   |ref p=>
    unfold view at ea;cases g:G p with
    |none=>simp only[g]at ea;cases ea
    |some o=>cases o;simp only[g]at ea;cases ea
   |_=>exact ea
  subst ea';obtain ⟨p,e,q⟩:=ra;subst e;refine Cp pins s σ H _ v vl vu lo hi sl Q I rx hs pl pu ⟨p,_,rfl,q.sq,fL h r ?_⟩;have e2:dM (ns.map V.int) lo hi=(cut ns lo hi).map V.int:=by unfold dM cut;rw[al,List.map_take,List.map_drop]
  rw[e2];exact El (cut ns lo hi)
 ·cases eQ ea;obtain ⟨p,vs,e,q,t⟩:=id ra;subst e;by_cases hw:HT.sIx vs.length 0 lo=0/\HT.sIx vs.length vs.length hi=vs.length
  ·refine Zq pins s σ H _ v vl vu lo hi sl Q I rx hs pl pu ⟨p,vs,rfl,q.sq,hw,?_⟩;refine h.now r ?_;rename_i ds;have:cut ds lo hi=ds:=by
    unfold cut;rw[t.length,hw.1,hw.2];simp[<-t.length]
   rw[this];exact ra
  ·exact W2 pins s σ H _ v vl vu lo hi sl Q I rx hs pl pu ⟨p,vs,rfl,q.sq,hw,j8 h r (Em t lo hi)⟩
 ·cases eU ea;obtain ⟨e,hl⟩:=ra;subst e;refine Yd pins s σ H _ v vl vu lo hi sl Q I rx hs pl pu ⟨_,rfl,by rw[bT];exact cV hl,?_⟩;rw[Zm];exact h.now r ⟨rfl,cm (Zn _ _ _) hl⟩
 ·exact h.elim
theorem Eo{K:PySem.W.Frag}{H:Hp}{F:FZ}{G:DH}{d:D}{v:V}{b:Bool}(r:R K H F G)(h:Rep K H F d v)(e:truth (view G d)=some b):qt K v H b:=by
 have h':=gU r h;generalize view G d=w at e h';cases w with
 |non=>have e1:v=.non:=h';subst e1;simp only[truth,aE]at e;exact e.symm
 |bl x=>have e1:v=.bl x:=h';subst e1;simp only[truth,aE]at e;exact e.symm
 |int i=>have e1:v=.int i:=h';subst e1;simp only[truth,aE]at e;exact e.symm
 |str l=>
  obtain ⟨e1,hl⟩:=h';subst e1;simp only[truth,aE]at e;refine ⟨by rw[bT];exact cV hl,?_⟩;rw[bT,<-e];cases l with
  |nil=>rfl
  |cons c l=>simp;omega
 |tup l=>
  obtain ⟨a,vs,e1,q,t⟩:=h';subst e1;simp only[truth,aE]at e;refine .inr (.inl ⟨vs,q.sq,?_⟩);rw[<-e];cases l with
  |nil=>have t:vs=[]:=t;subst t;rfl
  |cons c l=>obtain ⟨_,_,e2,_⟩:=t;subst e2;rfl
 |lst l=>
  obtain ⟨a,vs,e1,q,t⟩:=h';subst e1;simp only[truth,aE]at e;refine .inl ⟨vs,q.sq,?_⟩;rw[<-e];cases l with
  |nil=>have t:vs=[]:=t;subst t;rfl
  |cons c l=>obtain ⟨_,_,e2,_⟩:=t;subst e2;rfl
 |ref a=>simp[truth]at e
 |scr a=>simp[truth]at e
 |exn a=>simp[truth]at e
 |obj _ _ _=>simp[truth]at e
theorem tu{K:PySem.W.Frag}{H:Hp}{F:FZ}:∀{ds:List D}{vs:List V}{bs:List Bool},bools ds=some bs->Reps K H F ds vs->vs=bs.map V.bl
 |[],_,bs,e,h=>by
  simp only[bools,aE]at e;subst e;exact h
 |d::ds,_,bs,e,⟨v,w,e1,h,t⟩=>by
  cases d with
  |bl b=>
   simp only[bools]at e;cases q:bools ds with
   |none=>rw[q]at e;cases e
   |some s=>
    rw[q]at e;cases e;have hv:v=.bl b:=h;rw[e1,hv,tu q t];rfl
  |_=>simp[bools]at e
theorem bx{K:PySem.W.Frag}{H:Hp}{F:FZ}{d:D}{vs:List V}(t:Reps K H F [d] vs):∃v,vs=[v]/\Rep K H F d v:=by obtain ⟨v,r,e,h,t⟩:=t;have t:r=[]:=t;subst t;exact ⟨v,e,h⟩
noncomputable def fM(K:PySem.W.Frag)(f:Bf):List V->Hp->VK->Prop:=λvs H Q=>∃F G ds,R K H F G/\Reps K H F ds vs/\opB f (ds.map (view G)) (λd=>PV K H F Q d G)
theorem map_one{G:DH}{ds:List D}{x:D}(h:ds.map (view G)=[x]):∃d,ds=[d]/\view G d=x:=by
 match ds,h with
 |[d],h=>exact ⟨d,rfl,by simpa using h⟩
theorem Zu:bF X (.builtin "len") (fM X.K .len):=by
 intro pins s σ H xs us Q I rs h;obtain ⟨F,G,ds,r,t,h⟩:=h;generalize ea:ds.map (view G)=va at h;simp only[opB,ww]at h;split at h
 ·obtain ⟨d,rfl,ev⟩:=map_one ea;obtain ⟨v,rfl,rv⟩:=bx t;obtain ⟨a,vs,e,q,t'⟩:=Rep.list r rv ev;subst e;exact Cq pins s σ H _ us Q I rs ⟨a,vs,rfl,.inl q,by rw[<-t'.length];exact h.now r rfl⟩
 ·obtain ⟨d,rfl,ev⟩:=map_one ea;obtain ⟨v,rfl,rv⟩:=bx t;cases eQ ev;obtain ⟨a,vs,e,q,t'⟩:=rv;subst e;exact Cq pins s σ H _ us Q I rs ⟨a,vs,rfl,.inr q.sq,by rw[<-t'.length];exact h.now r rfl⟩
 ·obtain ⟨d,rfl,ev⟩:=map_one ea;obtain ⟨v,rfl,rv⟩:=bx t;cases eU ev;obtain ⟨e,hl⟩:=rv;subst e;exact Xg pins s σ H _ us Q I rs ⟨_,rfl,by rw[bT];exact cV hl,by rw[bT];exact h.now r rfl⟩
 ·exact h.elim
theorem Zv (hc:X.calm=true):bF X (.builtin "all") (fM X.K .all):=by
 intro pins s σ H xs us Q I rs h;obtain ⟨F,G,ds,r,t,h⟩:=h;generalize ea:ds.map (view G)=va at h;simp only[opB,qF]at h;split at h
 ·obtain ⟨d,rfl,ev⟩:=map_one ea;obtain ⟨v,rfl,rv⟩:=bx t;obtain ⟨a,vs,e,q,t'⟩:=Rep.list r rv ev;subst e;split at h
  ·rename_i bs hb;have e2:=tu hb t';subst e2;exact X7 hc pins s σ H _ us Q I rs ⟨a,bs,rfl,q,h.now r rfl⟩
  ·exact h.elim
 ·exact h.elim
theorem Zw:bF X (.type "int") (fM X.K .int):=by
 intro pins s σ H xs us Q I rs h;obtain ⟨F,G,ds,r,t,h⟩:=h;generalize ea:ds.map (view G)=va at h;simp only[opB,qG]at h;split at h
 ·obtain ⟨d,rfl,ev⟩:=map_one ea;obtain ⟨v,rfl,rv⟩:=bx t;cases wu ev;have e:v=.bl _:=rv;subst e;exact Bw pins s σ H _ us Q I rs (.inr ⟨_,rfl,h.now r rfl⟩)
 ·obtain ⟨d,rfl,ev⟩:=map_one ea;obtain ⟨v,rfl,rv⟩:=bx t;cases dg ev;have e:v=.int _:=rv;subst e;exact Bw pins s σ H _ us Q I rs (.inl ⟨_,rfl,h.now r rfl⟩)
 ·obtain ⟨d,rfl,ev⟩:=map_one ea;obtain ⟨v,rfl,rv⟩:=bx t;cases eU ev;obtain ⟨e,hl⟩:=rv;subst e;split at h
  ·rename_i n hn;exact Yb pins s σ H _ us Q I rs ⟨_,n,rfl,hn,by rw[bT];exact h.1,h.2.now r rfl⟩
  ·exact h.elim
 ·exact h.elim
theorem Zx:bF X (.type "tuple") (fM X.K .tuple):=by
 intro pins s σ H xs us Q I rs h;obtain ⟨F,G,ds,r,t,h⟩:=h;generalize ea:ds.map (view G)=va at h;simp only[opB,wy]at h;split at h
 ·obtain ⟨d,rfl,ev⟩:=map_one ea;obtain ⟨v,rfl,rv⟩:=bx t;obtain ⟨a,vs,e,q,t'⟩:=Rep.list r rv ev;subst e;exact Cu pins s σ H _ us Q I rs ⟨a,vs,rfl,.inl ⟨q,j8 h r t'⟩⟩
 ·obtain ⟨d,rfl,ev⟩:=map_one ea;obtain ⟨v,rfl,rv⟩:=bx t;cases eQ ev;obtain ⟨a,vs,e,q,t'⟩:=id rv;subst e;exact Cu pins s σ H _ us Q I rs ⟨a,vs,rfl,.inr ⟨q.sq,h.now r rv⟩⟩
 ·exact h.elim
noncomputable def Ep(K:PySem.W.Frag)(fz:Bool)(f:Lf):List V->Hp->VK->Prop:=λvs H Q=>∃F G ds,R K H F G/\Reps K H F ds vs/\cL f (ds.map (view G)) (λxs=>mk fz xs G (PV K H F Q))
theorem Zy(l:List Nat):∀(us:List Value),us.length=l.length->(∀(j:Nat)(v:Value),us[j]?=some v->∃(c:Nat)(u:Tok),l[j]?=some c/\v=Value.str ⟨#[c]⟩ u)->Vals (l.map λc=>V.str (tx [c])) us:=by
 induction l with
 |nil=>intro us h _;cases us with |nil=>exact .nil |cons _ _=>cases h
 |cons c l ih=>
  intro us h q;cases us with
  |nil=>cases h
  |cons u us=>
   obtain ⟨c',t,e1,e2⟩:=q 0 u (by simp);have e1:c=c':=by simpa using e1
   subst e1;exact .cons ⟨t,e2⟩ (ih us (by simpa using h) λj v hv=>by simpa using q (j+1) v (by simpa using hv))
theorem Zz (hc:X.calm=true):bF X (.type "list") (λxs H Q=>∃l:List Nat,xs=[.str (tx l)]/\l.length<=sizeLine/\∀p,H p=none->Q (.ref p) (upd H p (.lst (l.map λc=>V.str (tx [c]))))):=by
 intro pins s σ H xs us Q I r h;obtain ⟨l,rfl,hz,q⟩:=h;obtain ⟨u,rfl,t,rfl⟩:=vals1 r;have hz':(tx l).cps.size<=sizeLine:=by simpa using hz
 refine call_list_str (hn:=hz') (I.ok.hd hc) (tx l) t λh' tk acc' c' kp e hi=>?_;have hv:Vals (l.map λc=>V.str (tx [c])) acc'.toList:=by
  refine Zy l _ ?_ λj v hv=>?_
  ·rw[dL,hi.1];simp
  ·obtain ⟨c,u,e1,e2⟩:=hi.2 j v (by rw[<-fA];exact hv);exact ⟨c,u,by simpa using e1,e2⟩
 exact ⟨.ref s.heap.objs.size,_,I.laid (t':=tk) kp (aw _) (show ObjOk X.prog X.w _ h' _ (.lst _) from ⟨by rw[al];exact hz,acc'.toList,c',hv,by rw[Array.toArray_toList];exact e⟩),rfl,q _ (I.hok.fresh (aw _))⟩
theorem xT{K:PySem.W.Frag}{H:Hp}{F:FZ}:∀l:List Nat,Reps K H F (l.map λc=>D.str [c]) (l.map λc=>V.str (tx [c]))
 |[]=>rfl
 |c::l=>⟨_,_,rfl,⟨rfl,by show 1<=sz;decide⟩,xT l⟩
theorem ZC (hc:X.calm=true) (fz:Bool):bF X (.type "list") (Ep X.K fz .list):=by
 intro pins s σ H xs us Q I rs h;obtain ⟨F,G,ds,r,t,h⟩:=h;generalize ea:ds.map (view G)=va at h;simp only[cL,wD]at h;split at h
 ·obtain ⟨d,rfl,ev⟩:=map_one ea;obtain ⟨v,rfl,rv⟩:=bx t;obtain ⟨a,vs,e,q,t'⟩:=Rep.list r rv ev;subst e;exact Cr pins s σ H _ us Q I rs ⟨a,vs,rfl,.inl q,fL h r t'⟩
 ·obtain ⟨d,rfl,ev⟩:=map_one ea;obtain ⟨v,rfl,rv⟩:=bx t;cases eQ ev;obtain ⟨a,vs,e,q,t'⟩:=id rv;subst e;exact Cr pins s σ H _ us Q I rs ⟨a,vs,rfl,.inr q.sq,fL h r t'⟩
 ·obtain ⟨d,rfl,ev⟩:=map_one ea;obtain ⟨v,rfl,rv⟩:=bx t;cases eU ev;obtain ⟨e,hl⟩:=rv;subst e;exact Zz hc pins s σ H _ us Q I rs ⟨_,rfl,cV hl,fL h r (xT _)⟩
 ·exact h.elim
theorem xU{K:PySem.W.Frag}{H:Hp}{F:FZ}:∀{ds:List D}{vs:List V}{ls:List (List Nat)},bw ds=some ls->Reps K H F ds vs->vs=(ls.map tx).map V.str
 |[],_,bs,e,h=>by
  simp only[bw,aE]at e;subst e;exact h
 |d::ds,_,bs,e,⟨v,w,e1,h,t⟩=>by
  cases d with
  |str b=>
   simp only[bw]at e;cases q:bw ds with
   |none=>rw[q]at e;cases e
   |some s=>
    rw[q]at e;cases e;obtain ⟨hv,_⟩:=h;rw[e1,hv,xU q t];rfl
  |_=>simp[bw]at e
theorem Er{K:PySem.W.Frag}{H:Hp}{F:FZ}:∀{ds:List D}{vs:List V}{ns:List Int},bZ ds=some ns->Reps K H F ds vs->vs=ns.map V.int
 |[],vs,ns,e,t=>by
  simp only[bZ,aE]at e;subst e;have t:vs=[]:=t;rw[t];rfl
 |d::ds,vs,ns,e,t=>by
  obtain ⟨v,r,e1,h,t⟩:=t;cases d with
  |int b=>
   simp only[bZ]at e;cases q:bZ ds with
   |none=>rw[q]at e;cases e
   |some s=>
    rw[q]at e;cases e;have hv:v=.int b:=h;rw[e1,hv,Er q t];rfl
  |_=>simp[bZ]at e
theorem Es:∀{ns:List Int}{its:List Value},Vals (ns.map V.int) its->IntsAre its ns
 |[],its,h=>by cases h;exact .nil
 |n::ns,its,h=>by
  cases h with
  |cons a b=>
   obtain ⟨t,rfl⟩:=a;exact .cons n t (Es b)
theorem Et:∀{ls:List (List Nat)}{its:List Value},Vals ((ls.map tx).map V.str) its->StrsAre its (ls.map tx)
 |[],its,h=>by cases h;exact .nil
 |n::ns,its,h=>by
  cases h with
  |cons a b=>
   obtain ⟨t,rfl⟩:=a;exact .cons _ t (Et b)
theorem Eu{K:PySem.W.Frag}{H:Hp}{F:FZ}:∀{ds:List D}{vs:List V}{ls:List (List Nat)},bw ds=some ls->Reps K H F ds vs->∀l∈ls,l.length<=sz
 |[],vs,ls,e,t=>by simp only[bw,aE]at e;subst e;intro l hl;cases hl
 |d::ds,vs,ls,e,t=>by
  obtain ⟨v,r,e1,h,t⟩:=t;cases d with
  |str b=>
   simp only[bw]at e;cases q:bw ds with
   |none=>rw[q]at e;cases e
   |some s=>
    rw[q]at e;cases e;intro l hl;rcases aT.mp hl with e |hl
    ·rw[e];exact h.2
    ·exact Eu q t l hl
  |_=>simp[bw]at e
theorem Ew(val:Nat->List Nat):∀k,argBest (λi j=>decide (val i < val j)) k<=k/\∀j,j<=k->¬val j < val (argBest (λi j=>decide (val i < val j)) k)
 |0=>⟨aw _,λj hj=>by
  have:j=0:=by omega
  subst this;exact List.lt_irrefl _⟩
 |k+1=>by
  obtain ⟨h1,h2⟩:=Ew val k;simp only[argBest];by_cases hc:val (k+1) < val (argBest (λi j=>decide (val i < val j)) k)
  ·rw[if_pos (by simpa using hc)];refine ⟨aw _,λj hj=>?_⟩;rcases Nat.lt_or_ge j (k+1) with hlt |hge
   ·exact λh=>h2 j (by omega) (List.lt_trans h hc)
   ·have:j=k+1:=by omega
    subst this;exact List.lt_irrefl _
  ·rw[if_neg (by simpa using hc)];refine ⟨by omega,λj hj=>?_⟩;rcases Nat.lt_or_ge j (k+1) with hlt |hge
   ·exact h2 j (by omega)
   ·have:j=k+1:=by omega
    subst this;exact hc
section
variable {prog:Program} {w:World} {A:Around} {E:Value->Shared->Prop} {s:Shared} {l:Addr}
theorem tB:∀{its:List Value}{ls:List (List Nat)}{i:Nat}{v:Value},StrsAre its (ls.map tx)->its[i]?=some v->∃t,v=.str (tx (ls.getD i [])) t
 |[],ls,i,v,_,h=>by simp at h
 |x::its,[],i,v,hs,h=>by cases hs
 |x::its,a::ls,0,v,hs,h=>by
  cases hs with
  |cons y t q=>exact ⟨t,by simpa using h.symm⟩
 |x::its,a::ls,i+1,v,hs,h=>by
  cases hs with
  |cons y t q=>
   have:=tB (i:=i) (v:=v) q (by simpa using h);simpa using this
theorem ZD{Q:Value->Shared->Prop}{its:List Value}{ls:List (List Nat)}(hh:A.handled=none)(hl:s.heap.IsList l its.toArray)(hs:StrsAre its (ls.map tx))(hn:its.length=ls.length)(hne:0 < ls.length)
  (h:∀(m:List Nat)(t:Tok)(h':Heap)(tk:Nat),m∈ls->(∀a,a∈ls->¬a < m)->(∀b o,s.heap.get? b=some o->h'.get? b=some o)->Q (.str (tx m) t) { s with heap:=h',toks:=tk }):
  wpAny (model prog w) A (call (.builtin "min") [.ref l]) Q E s:=by
 have hlt:l < s.heap.objs.size:=by obtain ⟨_,e,_⟩:=hl;exact ax e
 refine call_min_walk (wpAny_pyIter_list hl ?_);refine ⟨_,_,_,_,_,_,λi j=>decide (ls.getD i [] < ls.getD j []),rfl,Walks.list (A:=A.in1) hh _ l (ck hlt) its.toArray,⟨⟨_,ba _ rfl,rfl,rfl⟩,hl.push _⟩,?_,?_,?_,?_⟩
 ·intro b hb;show b < (s.heap.push _).objs.size;rw[dE];rcases aT.mp hb with rfl |hb
  ·exact Nat.lt_succ_self _
  ·rcases aT.mp hb with rfl |hb
   ·exact Nat.lt_succ_of_lt hlt
   ·cases hb
 ·simpa [hn] using hne
 ·intro i j vi vj s Q E hi hj h;obtain ⟨t,rfl⟩:=tB hs (by simpa using hi);obtain ⟨u,rfl⟩:=tB hs (by simpa using hj);exact richCompare_gives (op:=.Lt) (typeIs_str s _ t) (typeIs_str s _ u) F.slot_str_lt F.entry_str_lt (F.args_str_lt_2 _ _) (gives_str_lt _ _ t u) (λe=>nomatch e) h
 ·intro v h' tk hP hk;obtain ⟨t,rfl⟩:=tB hs (show its[_]?=some v by rw[<-List.getElem?_toArray];exact hP);obtain ⟨b1,b2⟩:=Ew (λi=>ls.getD i []) (its.toArray.size - 1);have hsz:its.toArray.size=ls.length:=by simpa using hn
  refine h _ t h' tk ?_ (λa ha=>?_) (old_kept hk)
  ·rw[dc,aI (by omega)];exact cw _
  ·obtain ⟨j,hj,rfl⟩:=List.getElem_of_mem ha;have:=b2 j (by omega);rwa [show ls.getD j []=ls[j] by rw[dc,aI hj];rfl]at this
end
theorem ZF (hc:X.calm=true):bF X (.builtin "min") (λxs H Q=>∃(p:Addr) (ns:List Int),xs=[.ref p]/\SqL X.K H p (ns.map V.int)/\ns≠[]/\∀m,m∈ns->(∀a,a∈ns->m<=a)->Q (.int m) H):=by
 intro pins s σ H xs us Q I r h;obtain ⟨p,ns,rfl,hq,hne,q⟩:=h;obtain ⟨u,rfl,ru⟩:=vals1 r;cases ru;obtain ⟨its,rv,pl,hz⟩:=I.list hq;have hi:=Es rv;obtain ⟨xs,ex⟩:=hi.allInts.items;have hl:=pl.isList;rw[ex]at hl;have e1:xs.toList.map (·.1)=ns:=by rw[<-PySem.nums_intItems,<-ex];exact hi.numsOf
 have hsz:0 < xs.size:=by have:=List.length_pos_iff.mpr hne;rw[<-e1,al,dL]at this;exact this
 refine PySem.min_intList (I.ok.hd hc) hl hsz λv h' tk hv hk=>?_;obtain ⟨t,rfl⟩:=PySem.intItems_at hv;obtain ⟨b1,b2⟩:=PySem.argBest_lt (PySem.numAt xs) (xs.size - 1);refine ⟨.int _,H,I.kept hk,⟨t,rfl⟩,q _ ?_ λa ha=>?_⟩
 ·rw[<-e1,PySem.numAt_eq];exact PySem.getD_mem (by rw[al,dL];omega)
 ·rw[<-e1]at ha;obtain ⟨j,hj,rfl⟩:=PySem.mem_getD ha;rw[al,dL]at hj;rw[<-PySem.numAt_eq];exact b2 j (by omega)
theorem ZG (hc:X.calm=true):bF X (.builtin "min") (λxs H Q=>∃(p:Addr) (ls:List (List Nat)),xs=[.ref p]/\SqL X.K H p ((ls.map tx).map V.str)/\ls≠[]/\∀m,m∈ls->(∀a,a∈ls->¬a < m)->Q (.str (tx m)) H):=by
 intro pins s σ H xs us Q I r h;obtain ⟨p,ls,rfl,hq,hne,q⟩:=h;obtain ⟨u,rfl,ru⟩:=vals1 r;cases ru;obtain ⟨its,rv,pl,hz⟩:=I.list hq;have hlen:its.length=ls.length:=by rw[<-rv.length];simp
 refine ZD (I.ok.hd hc) pl.isList (Et rv) hlen (List.length_pos_iff.mpr hne) λm t h' tk h1 h2 hk=>?_;exact ⟨.str (tx m),H,I.kept hk,⟨t,rfl⟩,q m h1 h2⟩
theorem ZJ{ds:List D}{ls:List (List Nat)}(h0:bZ ds=none)(h1:bw ds=some ls):ls≠[]:=by
 rintro rfl;cases ds with
 |nil=>simp[bZ]at h0
 |cons x y=>cases x <;> simp only[bw]at h1 <;> first | (cases h1;done) | (cases hd:bw y <;> rw[hd]at h1 <;> cases h1)
theorem ZK (hc:X.calm=true):bF X (.builtin "min") (fM X.K .min):=by
 intro pins s σ H xs us Q I rs h;obtain ⟨F,G,ds,r,t,h⟩:=h;generalize ea:ds.map (view G)=va at h;simp only[opB,jY]at h;split at h
 ·obtain ⟨d,rfl,ev⟩:=map_one ea;obtain ⟨v,rfl,rv⟩:=bx t;obtain ⟨a,vs,e,q,t'⟩:=Rep.list r rv ev;subst e;split at h
  ·rename_i ns hb;have e2:=Er hb t';subst e2;exact ZF hc pins s σ H _ us Q I rs ⟨a,ns,rfl,q,h.1,λm h1 h2=>(h.2 m h1 h2).now r rfl⟩
  ·split at h
   ·rename_i hb0 _ ls hb;have e2:=xU hb t';have hsz:=Eu hb t';subst e2;refine ZG hc pins s σ H _ us Q I rs ⟨a,ls,rfl,q,?_,λm h1 h2=>(h m h1 h2).now r ⟨rfl,hsz m h1⟩⟩;exact ZJ (by assumption) hb
   ·exact h.elim
 ·exact h.elim
theorem map_two{G:DH}{ds:List D}{x y:D}(h:ds.map (view G)=[x,y]):∃d e,ds=[d,e]/\view G d=x/\view G e=y:=by
 cases ds with
 |nil=>cases h
 |cons d ds=>
  cases ds with
  |nil=>cases h
  |cons e ds=>
   cases ds with
   |nil=>cases h;exact ⟨d,e,rfl,rfl,rfl⟩
   |cons _ _=>cases h
theorem ZL (hc:X.calm=true):bF X (.builtin "min") (fM X.K .min2):=by
 intro pins s σ H xs us Q I rs h;obtain ⟨F,G,ds,r,t,h⟩:=h;generalize ea:ds.map (view G)=va at h;simp only[opB,wB]at h;split at h
 ·rename_i a b;obtain ⟨d,e,rfl,ev,ew⟩:=map_two ea;obtain ⟨v,vs',e1,h1,t⟩:=t;obtain ⟨v',vs'',e2,h2,t⟩:=t;have t:vs''=[]:=t;have q1:=gU r h1;have q2:=gU r h2;rw[ev]at q1;rw[ew]at q2;have q1:v=.int a:=q1;have q2:v'=.int b:=q2;subst t e2 e1 q1 q2;obtain ⟨u,u',rfl,ru,ru'⟩:=vals2 rs;obtain ⟨t1,rfl⟩:=ru;obtain ⟨t2,rfl⟩:=ru';refine PySem.min_two_ints (I.ok.hd hc) λh' tk hk=>⟨.int (if b < a then b else a),H,I.kept hk,?_,h.now r rfl⟩;split
  ·exact ⟨t2,rfl⟩
  ·exact ⟨t1,rfl⟩
 ·exact h.elim
theorem ZM:bF X (.builtin "abs") (fM X.K .abs):=by
 intro pins s σ H xs us Q I rs h;obtain ⟨F,G,ds,r,t,h⟩:=h;generalize ea:ds.map (view G)=va at h;simp only[opB,wA]at h;split at h
 ·rename_i a;obtain ⟨d,rfl,ev⟩:=map_one ea;obtain ⟨v,rfl,rv⟩:=bx t;have q1:=gU r rv;rw[ev]at q1;have q1:v=.int a:=q1;subst q1;obtain ⟨u,rfl,ru⟩:=vals1 rs;obtain ⟨t1,rfl⟩:=ru;exact PyProof.Rows.call_abs_int λu tk=>⟨.int (if a < 0 then -a else a),H,I.tok _,⟨u,rfl⟩,h.now r rfl⟩
 ·exact h.elim
theorem ZP:bootBuiltins "abs"=some (.builtin "abs"):=by decide +kernel
theorem Ey:bootBuiltins "min"=some (.builtin "min"):=by decide +kernel
theorem ZQ:bF X (.type "str") (fM X.K .str):=by
 intro pins s σ H xs us Q I r h;obtain ⟨F,G,ds,rr,t,h⟩:=h;generalize ea:ds.map (view G)=va at h;simp only[opB,wC]at h;split at h
 ·rename_i i;obtain ⟨d',rfl,ev⟩:=map_one ea;obtain ⟨v',rfl,rv⟩:=bx t;have e1:=dg ev;subst e1;have e2:v'=.int i:=rv;subst e2;obtain ⟨⟨h0,h1⟩,h2⟩:=h;have hm:(i.toNat:Int)=i:=Int.toNat_of_nonneg h0;have hl:(gk i.toNat).length<=3:=by
   have:=digits_le ⟨i.toNat,by omega⟩;unfold gk;rw[dL];exact this
  have hs:=h2.now rr (v:=.str (tx (gk i.toNat))) ⟨rfl,by have hz:sz=1000000:=rfl;omega⟩;have ht:tx (gk i.toNat)=v6 i.toNat:=(vR _).symm;rw[ht]at hs;exact YD pins s σ H _ us Q I r ⟨i.toNat,by rw[hm],by omega,hs⟩
 ·exact h.elim
noncomputable def dC:D->Option String
 |.non=>some "NoneType"
 |.bl _=>some "bool"
 |.int _=>some "int"
 |.str _=>some "str"
 |.tup _=>some "tuple"
 |.lst _=>some "list"
 |_=>none
theorem ZR{K:PySem.W.Frag}{H:Hp}{F:FZ}{G:DH}{d:D}{v:V}{T:String}(r:R K H F G)(h:Rep K H F d v)(e:dC (view G d)=some T):TyOf K H v (.type T):=by
 have h':=gU r h;generalize view G d=w at e h';cases w with
 |non=>have e1:v=.non:=h';subst e1;simp only[dC,aE]at e;subst e;exact .non
 |bl x=>have e1:v=.bl x:=h';subst e1;simp only[dC,aE]at e;subst e;exact .bl x
 |int i=>have e1:v=.int i:=h';subst e1;simp only[dC,aE]at e;subst e;exact .int i
 |str l=>obtain ⟨e1,hl⟩:=h';subst e1;simp only[dC,aE]at e;subst e;exact .str _
 |tup l=>obtain ⟨a,vs,e1,q,t⟩:=h';subst e1;simp only[dC,aE]at e;subst e;exact .tup q.it
 |lst l=>obtain ⟨a,vs,e1,q,t⟩:=h';subst e1;simp only[dC,aE]at e;subst e;exact .lst q.2
 |ref a=>simp[dC]at e
 |scr a=>simp[dC]at e
 |exn a=>simp[dC]at e
 |obj _ _ _=>simp[dC]at e
def ZS (K:PySem.W.Frag):Prop:=∀T t:String,T∈["NoneType","bool","int","str","tuple","list"]->fG t=true->PySem.W.kitOne K (.type T) (.type t)=some (T==t||(T=="bool"&&t=="int"))
theorem ZV{K:PySem.W.Frag}:ZS K:=by intro T t hT ht;simp only[aT,List.not_mem_nil,or_false]at hT;simp only[fG,cS,av]at ht;rcases hT with rfl |rfl |rfl |rfl |rfl |rfl <;> rcases ht with (((rfl |rfl) |rfl) |rfl) |rfl <;> (with_unfolding_all rfl)
theorem ZW {d:D} {t:String} {b:Bool} (e:isT t d=some b):∃T,dC d=some T/\T∈["NoneType","bool","int","str","tuple","list"]/\(fG t=true->b=(T==t||(T=="bool"&&t=="int"))):=by
 have comm:∀a b:String,(a==b)=(b==a):=λa b=>by rw[e7,av,av];exact ⟨Eq.symm,Eq.symm⟩
 cases d with
 |non=>
  refine ⟨"NoneType",rfl,by simp,λht=>?_⟩;simp only[isT,aE]at e;simp only[fG,cS,av]at ht;subst e;rcases ht with (((rfl |rfl) |rfl) |rfl) |rfl <;> rfl
 |bl _=>
  refine ⟨"bool",rfl,by simp,λht=>?_⟩;simp only[isT,aE]at e;rw[<-e,comm t "bool"];rfl
 |int _=>
  refine ⟨"int",rfl,by simp,λht=>?_⟩;simp only[isT,aE]at e;rw[<-e,comm t "int"];simp
 |str _=>
  refine ⟨"str",rfl,by simp,λht=>?_⟩;simp only[isT,aE]at e;rw[<-e,comm t "str"];simp
 |tup _=>
  refine ⟨"tuple",rfl,by simp,λht=>?_⟩;simp only[isT,aE]at e;rw[<-e,comm t "tuple"];simp
 |lst _=>
  refine ⟨"list",rfl,by simp,λht=>?_⟩;simp only[isT,aE]at e;rw[<-e,comm t "list"];simp
 |ref a=>simp[isT]at e
 |scr a=>simp[isT]at e
 |exn a=>simp[isT]at e
 |obj _ _ _=>simp[isT]at e
theorem Ez(s:List Nat):∀ls:List (List Nat),Str.join (tx s) (ls.map tx)=tx (dR s ls)
 |[]=>rfl
 |[x]=>rfl
 |x::y::r=>by
  have ih:=Ez s (y::r);show tx x++tx s++Str.join (tx s) ((y::r).map tx)=_;rw[ih,qy,qy];rfl
theorem EY(s:List Nat):∀ls:List (List Nat),(dR s ls).length<=(ls.map (·.length)).sum+ls.length * s.length
 |[]=>by simp[dR]
 |[x]=>by simp[dR]
 |x::y::r=>by
  have ih:=EY s (y::r);simp only[dR,ay,bn,List.sum_cons,cb]at ih ⊢;have:(r.length+1+1) * s.length=(r.length+1) * s.length+s.length:=by rw[Nat.succ_mul]
  omega
noncomputable def gW(K:PySem.W.Frag)(m:Mf):V->List V->Hp->VK->Prop:=λx vs H Q=>∃F G d ds,R K H F G/\Rep K H F d x/\Reps K H F ds vs/\opM m d ds G (PV K H F Q)
theorem ZX:MtR X "str.join" (gW X.K .join):=by
 intro pins s σ H x xs v us Q I rx rs h;obtain ⟨F,G,d,ds,r,rd,t,h⟩:=h;simp only[opM]at h;generalize ea:ds.map (view G)=va at h;simp only[qI]at h;split at h
 ·obtain ⟨d',rfl,ev⟩:=map_one ea;obtain ⟨v',rfl,rv⟩:=bx t;obtain ⟨a,vs,e,q,t'⟩:=Rep.list r rv ev;subst e;obtain ⟨e1,hl⟩:=rd;subst e1;split at h
  ·rename_i ls hls;have e2:=xU hls t';subst e2;refine XC pins s σ H _ _ v us Q I rx rs ⟨_,a,_,rfl,rfl,q,?_,?_⟩
   ·have hz:=h.1;rw[fv,al,bT,show (λx:Str=>x.length)∘tx=λl=>l.length from funext bT];have:sz=1000000:=rfl;omega
   ·rw[Ez];exact h.2.now r ⟨rfl,cm (EY _ _) h.1⟩
  ·exact h.elim
 ·exact h.elim
theorem ZZ:MtM X "list.append" (gW X.K .append):=by
 intro pins s σ H x xs v us Q I rx rs h;obtain ⟨F,G,d,ds,r,rd,t,h⟩:=h;simp only[opM,qJ]at h;split at h
 ·obtain ⟨v',rfl,rv⟩:=bx t;have e1:x=.ref _:=rd;subst e1;split at h
  ·rename_i ds0 hg;obtain ⟨vs,q,t'⟩:=r.lst hg;refine Xj pins s σ H _ _ v us Q I rx rs ⟨_,vs,v',rfl,rfl,q,?_,?_⟩
   ·rw[<-t'.length];exact bg h.1 szl
   ·exact h.2 _ _ _ (gP r hg) (r.write hg (t'.append (Reps.cons rv Reps.nil))) rfl
  ·exact h.elim
 ·exact h.elim
theorem Z0:MtR X "list.count" (gW X.K .count):=by
 intro pins s σ H x xs v us Q I rx rs h;obtain ⟨F,G,d,ds,r,rd,t,h⟩:=h;simp only[opM]at h;generalize ea:view G d=va at h;simp only[qM]at h;split at h
 ·obtain ⟨a,vs,e,q,t'⟩:=Rep.list r rd ea;subst e;obtain ⟨v',rfl,rv⟩:=bx t;have e2:v'=.bl true:=rv;subst e2;split at h
  ·rename_i bs hbs;have e3:=tu hbs t';subst e3;exact Yx pins s σ H _ _ v us Q I rx rs ⟨a,bs,rfl,rfl,q,h.now r rfl⟩
  ·exact h.elim
 ·exact h.elim
theorem Z1:MtR X "list.index" (gW X.K .index):=by
 intro pins s σ H x xs v us Q I rx rs h;obtain ⟨F,G,d,ds,r,rd,t,h⟩:=h;simp only[opM]at h;generalize ea:view G d=va at h;simp only[qN]at h;split at h
 ·obtain ⟨a,vs,e,q,t'⟩:=Rep.list r rd ea;subst e;obtain ⟨v',rfl,rv⟩:=bx t;have e2:v'=.bl true:=rv;subst e2;split at h
  ·rename_i bs hbs;have e3:=tu hbs t';subst e3;exact Yz pins s σ H _ _ v us Q I rx rs ⟨a,bs,rfl,rfl,q,h.1,h.2.now r rfl⟩
  ·exact h.elim
 ·exact h.elim
noncomputable def Z2:V->List V->Hp->VK->Prop:=λx vs H Q=>∃(l:Addr)(xs:List V)(i:Int)(y:V),x=.ref l/\vs=[.int i,y]/\H l=some (.lst xs)/\xs.length < sizeLine/\0<=i/\i<=1000000/\Q .non (upd H l (.lst (xs.take i.toNat++y::xs.drop i.toNat)))
theorem Z3{its:List Value}{i:Int}{u:Value}(h:0<=i):(its.toArray.extract 0 (if i < 0 then (i+(its.toArray.size:Int)).toNat else min i.toNat its.toArray.size)).push u++its.toArray.extract (if i < 0 then (i+(its.toArray.size:Int)).toNat else min i.toNat its.toArray.size)=(its.take i.toNat++u::its.drop i.toNat).toArray:=by
 rw[if_neg (by omega),PySem.W.kl_ins_eq,ar];by_cases hc:i.toNat<=its.length
 ·rw[Nat.min_eq_left hc]
 ·rw[Nat.min_eq_right (by omega),df (aw _),List.drop_of_length_le (aw _),df (by omega),List.drop_of_length_le (by omega)]
theorem Z4{i:Int}(h0:0<=i)(h1:i<=1000000):¬(!Builtin.List.listFitsIndex i)=true:=by
 have:Builtin.List.listFitsIndex i=true:=by unfold Builtin.List.listFitsIndex;rw[ae];exact ⟨bv (by omega),bv (by omega)⟩
 rw[this];decide
theorem Z5:MtM X "list.insert" Z2:=by
 intro pins s σ H x vs v us Q I rx rv h;obtain ⟨l,xs,i,y,rfl,rfl,hH,hz,h0,h1,q⟩:=h;cases rx;cases rv with
 |cons r1 rv=>
  obtain ⟨t,rfl⟩:=r1;obtain ⟨u,rfl,ru⟩:=L2.Vals.one rv;obtain ⟨z,its,m,r,hl,e⟩:=I.lstM hH;refine fg PySem.F.slot_list_insert ⟨_,e,rfl⟩ PySem.F.entry_list_insert (PySem.F.args_list_insert_3 _ _ _) (PySem.AutoSeq1.list_insert_list_int_val_1 l its.toArray m i t u (Z4 h0 h1) (by rw[ar];omega)) ⟨e,?_⟩;refine ⟨.non,_,I.lset (its':=its.take i.toNat++u::its.drop i.toNat) hH e (Z3 h0) ((r.take _).append (.cons ru (r.drop _))) ?_,rfl,q⟩;rw[ay,cb,b6,ci];omega
theorem Z6:MtM X "list.insert" (gW X.K .insert):=by
 intro pins s σ H x xs v us Q I rx rs h;obtain ⟨F,G,d,ds,r,rd,t,h⟩:=h;simp only[opM,qL]at h;split at h
 ·rename_i i y;obtain ⟨v1,r1,rfl,rv1,t⟩:=t;obtain ⟨v',rfl,rv⟩:=bx t;have e1:x=.ref _:=rd;subst e1;have e2:v1=.int i:=rv1;subst e2;split at h
  ·rename_i ds0 hg;obtain ⟨h1,h2,h3,h4⟩:=h;obtain ⟨vs,q,t'⟩:=r.lst hg;refine Z5 pins s σ H _ _ v us Q I rx rs ⟨_,vs,i,v',rfl,rfl,q,?_,h2,h3,?_⟩
   ·rw[<-t'.length];exact bg h1 szl
   ·exact h4 _ _ _ (gP r hg) (r.write hg ((t'.take _).append (Reps.cons rv (t'.drop _)))) rfl
  ·exact h.elim
 ·exact h.elim
theorem Z7:MtM X "list.pop" (gW X.K .pop):=by
 intro pins s σ H x xs v us Q I rx rs h;obtain ⟨F,G,d,ds,r,rd,t,h⟩:=h;simp only[opM,wF]at h;split at h
 ·rename_i i;obtain ⟨v',rfl,rv⟩:=bx t;have e1:x=.ref _:=rd;subst e1;have e2:v'=.int i:=rv;subst e2;split at h
  ·rename_i ds0 hg;obtain ⟨h1,h2,h3⟩:=h;obtain ⟨vs,q,t'⟩:=r.lst hg;split at h3
   ·rename_i y hy;obtain ⟨u,hu,ru⟩:=t'.get hy;have hlt:i.toNat < vs.length:=(am.mp hu).1;refine Xo pins s σ H _ _ v us Q I rx rs ⟨_,vs,i,i.toNat,u,rfl,rfl,q,by omega,by omega,?_,hu,?_⟩
    ·unfold seqIndex?;have e3:¬i < 0:=by omega
     simp[e3];omega
    ·rw[List.eraseIdx_eq_take_drop_succ];rw[List.eraseIdx_eq_take_drop_succ]at h3;have rw2:=r.write hg ((t'.take i.toNat).append (t'.drop (i.toNat+1)));exact h3 _ _ _ (gP r hg) rw2 (Rep.ext (gP r hg) ru)
   ·exact h3.elim
  ·exact h.elim
 ·exact h.elim
theorem Z8{K:PySem.W.Frag}{H:Hp}{F:FZ}{G:DH}{d:D}{v:V}{ds:List D}(r:R K H F G)(h:Rep K H F d v)(e:view G d=.lst ds):∃a vs,v=.ref a/\H a=some (.lst vs)/\Reps K H F ds vs:=by
 cases d with
 |lst xs=>
  have e':D.lst xs=.lst ds:=e;cases e';obtain ⟨a,vs,e1,q,t⟩:=h;exact ⟨a,vs,e1,q.2,t⟩
 |ref p=>
  have hv:v=.ref p:=h;unfold view at e;cases g:G p with
  |none=>simp only[g]at e;cases e
  |some o=>
   cases o with
   |lst xs=>
    simp only[g]at e;cases e;obtain ⟨vs,q,t⟩:=r.lst g;exact ⟨p,vs,hv,q,t⟩
 |_=>cases (show _=D.lst ds from e)
theorem Z9:MtM X "list.extend" (gW X.K .extend):=by
 intro pins s σ H x xs v us Q I rx rs h;obtain ⟨F,G,d,ds,r,rd,t,h⟩:=h;simp only[opM]at h;generalize ea:ds.map (view G)=va at h;simp only[qK]at h;split at h
 ·obtain ⟨d',rfl,ev⟩:=map_one ea;obtain ⟨v',rfl,rv⟩:=bx t;obtain ⟨b,vs2,e2,q2,t2⟩:=Z8 r rv ev;subst e2;have e1:x=.ref _:=rd;subst e1;split at h
  ·rename_i ds0 hg;obtain ⟨vs,q,t'⟩:=r.lst hg;refine Xl pins s σ H _ _ v us Q I rx rs ⟨_,b,vs,vs2,rfl,rfl,q,q2,?_,?_⟩
   ·rw[<-t'.length,<-t2.length];exact Nat.le_of_lt (bg h.1 szl)
   ·exact h.2 _ _ _ (gP r hg) (r.write hg (t'.append t2)) rfl
  ·exact h.elim
 ·exact h.elim
theorem aaa:vG X (λo i x H Q=>∃F G a b c,R X.K H F G/\Rep X.K H F a o/\Rep X.K H F b i/\Rep X.K H F c x/\dU a b c G (λG'=>∀H' F',Ext H F H' F'->R X.K H' F' G'->Q H')):=by
 intro pins s σ H o i v ov iv u Q I ro ri rv h;obtain ⟨F,G,a,b,c,r,ra,rb,rc,h⟩:=h;unfold dU at h;split at h
 ·have e1:o=.ref _:=ra;have e2:i=.int _:=rb;subst e1;subst e2;split at h
  ·rename_i ds hg;obtain ⟨vs,q,t⟩:=r.lst hg;split at h
   ·rename_i j hj;refine set_list pins s σ H _ _ v ov iv u Q I ro ri rv ⟨_,vs,_,j,rfl,rfl,q,by rw[<-t.length];exact hj,?_⟩;exact h _ _ (gP r hg) (r.write hg (t.set rc j))
   ·exact h.elim
  ·exact h.elim
 ·exact h.elim
theorem aab(op:Operator):PIp X op (λx y H Q=>∃F G a b,R X.K H F G/\Rep X.K H F a x/\Rep X.K H F b y/\dz op a b (λd=>PV X.K H F Q d G)):=by
 intro pins s σ H x y v u Q I rx ry h;obtain ⟨F,G,a,b,r,ra,rb,h⟩:=h;unfold dz at h;split at h
 ·have e1:x=.int _:=ra;have e2:y=.int _:=rb;subst e1;subst e2;exact VN pins s σ H _ _ v u Q I rx ry ⟨_,_,rfl,rfl,h.now r rfl⟩
 ·obtain ⟨e1,l1⟩:=ra;obtain ⟨e2,l2⟩:=rb;subst e1;subst e2;refine V8 pins s σ H _ _ v u Q I rx ry ⟨_,_,rfl,rfl,by rw[bT,bT];exact cV h.1,?_⟩;rw[qy];exact h.2.now r ⟨rfl,by rw[ay];exact h.1⟩
 ·have e1:x=.int _:=ra;have e2:y=.int _:=rb;subst e1;subst e2;exact VP pins s σ H _ _ v u Q I rx ry ⟨_,_,rfl,rfl,h.now r rfl⟩
 ·exact h.elim
end
inductive SK where
 |lst (a:Addr) |tup (a:Addr) |str (x:Str) (t:Tok)
def SK.val:SK->Value
 |.lst a=>.ref a
 |.tup a=>.ref a
 |.str x t=>.str x t
def SK.cls:SK->String
 |.lst _=>"list_iterator"
 |.tup _=>"tuple_iterator"
 |.str x _=>strIterType x
def SK.obj(k:SK):Obj:={ cls:=.type k.cls,data:=.fields #[k.val,.int 0 0] }
def SK.pos(k:SK)(it:Addr)(i:Nat)(h:Heap):Prop:=∃o,h.get? it=some o/\o.cls=.type k.cls/\o.data=.fields #[k.val,.int i 0]
def SK.Sat(H:Hp)(vs:List V):SK->Prop
 |.lst a=>H a=some (.lst vs)
 |.tup a=>H a=some (.tup vs)
 |.str x _=>vs=x.cps.toList.map λc=>V.str ⟨#[c]⟩
def SK.No(e:Addr):SK->Prop
 |.lst a=>a≠e
 |.tup a=>a≠e
 |.str _ _=>True
theorem SK.Sat.no{H:Hp}{vs:List V}{k:SK}{e:Addr}(h:k.Sat H vs)(he:H e=none):k.No e:=by
 cases k with
 |lst a=>exact bu (show H a=some _ from h) he
 |tup a=>exact bu (show H a=some _ from h) he
 |str x t=>trivial
def SK.On(its:Array Value)(h:Heap):SK->Prop
 |.lst a=>h.IsList a its
 |.tup a=>h.IsTuple a its
 |.str _ _=>True
theorem SK.On.keeps{its:Array Value}{h h':Heap}{k:SK}(x:k.On its h)(kk:∀b o,k.val=.ref b->h.get? b=some o->h'.get? b=some o):k.On its h':=by
 cases k with
 |lst a=>obtain ⟨o,e,r⟩:=x;exact ⟨o,kk a o rfl e,r⟩
 |tup a=>obtain ⟨o,e,r⟩:=x;exact ⟨o,kk a o rfl e,r⟩
 |str _ _=>trivial
section
variable {prog:Program} {w:World} {A:Around} {E:Value->Shared->Prop} {s:Shared}
theorem SK.iter{k:SK}{its:Array Value}{Q:Value->Shared->Prop}(h:k.On its s.heap)(q:Q (.ref s.heap.objs.size) { s with heap:=s.heap.push k.obj }):wpAny (model prog w) A (pyIter k.val) Q E s:=by
 cases k with
 |lst a=>exact wpAny_pyIter_list h q
 |tup a=>exact wpAny_pyIter_tuple h q
 |str x t=>exact wpAny_pyIter_strU q
theorem SK.pos0{k:SK}{h:Heap}:k.pos h.objs.size 0 (h.push k.obj):=⟨_,ba _ rfl,rfl,rfl⟩
theorem SK.pos.keep{k:SK}{it:Addr}{i:Nat}{h h':Heap}(x:k.pos it i h)(kk:∀o,h.get? it=some o->h'.get? it=some o):k.pos it i h':=let ⟨o,e,r⟩:=x;⟨o,kk o e,r⟩
theorem aac{it t:Addr}{i:Nat}{items}{x:Value}{Q:Value->Shared->Prop}(hit:s.heap.IsTupleIter it t i)
  (ht:s.heap.IsTuple t items) (hx:items[i]?=some x)
  (hQ:∀h',h'.IsTupleIter it t (i+1)->Heap.SameBut it s.heap h'->Q x { s with heap:=h' }):
  wpAny (model prog w) A (Builtin.SmallTypes.nextOf (.ref it)) Q E s:=by
 obtain ⟨o,ho,hc,hd⟩:=id hit;obtain ⟨ol,hol,_,nl,hdl⟩:=ht;unfold Builtin.SmallTypes.nextOf;refine ag (eP (name:=Str.ofString "__next__") hit.typeIs fh
  (fI fh hit.typeIs F.entry_tuple_iterator_next ?_ (F.args_tuple_iterator_next_1 _)))
 show wpAny _ _ (field (.ref it) 0 >>= _) _ _ s;refine ag (dy ho hd (x:=.ref t) rfl ?_);show wpAny _ _ (if (Value.ref t==Value.none)=true then _ else _) _ _ s;rw[if_neg (show ¬((Value.ref t==Value.none)=true) from br)];show wpAny _ _ (field (.ref it) 1 >>= _) _ _ s;refine ag (dy ho hd (x:=.int i 0) rfl ?_);show wpAny _ _ (seqItems? (.ref t) >>= _) _ _ s;refine ag (et hol hdl ?_);simp only[c6,hx];refine ag (wpAny_setField ho hd (by simp) (bb ⟨x,rfl,bb (hQ _ ?_ (Heap.SameBut.update ..))⟩));exact ⟨_,Heap.get?_update_self _ ho (Obj.isFreed_of_fields (Obj.data_mapFields hd _)),(Obj.cls_mapFields ..).trans hc,by
  rw[Obj.data_mapFields hd];simp[rawInt]⟩
theorem aad{it t:Addr}{i:Nat}{items}{Q:Value->Shared->Prop}(hh:A.handled=none)
  (hit:s.heap.IsTupleIter it t i) (ht:s.heap.IsTuple t items) (hx:items[i]?=none)
  (hE:∀h' e,Heap.ExtBut it s.heap h'->(∃o,h'.get? e=some o/\o.cls=.type "StopIteration")->E (.ref e) { s with heap:=h' }):
  wpAny (model prog w) A (Builtin.SmallTypes.nextOf (.ref it)) Q E s:=by
 obtain ⟨o,ho,hc,hd⟩:=id hit;obtain ⟨ol,hol,_,nl,hdl⟩:=ht;unfold Builtin.SmallTypes.nextOf;refine ag (eP (name:=Str.ofString "__next__") hit.typeIs fh
  (fI fh hit.typeIs F.entry_tuple_iterator_next ?_ (F.args_tuple_iterator_next_1 _)))
 show wpAny _ _ (field (.ref it) 0 >>= _) _ _ s;refine ag (dy ho hd (x:=.ref t) rfl ?_);show wpAny _ _ (if (Value.ref t==Value.none)=true then _ else _) _ _ s;rw[if_neg (show ¬((Value.ref t==Value.none)=true) from br)];show wpAny _ _ (field (.ref it) 1 >>= _) _ _ s;refine ag (dy ho hd (x:=.int i 0) rfl ?_);show wpAny _ _ (seqItems? (.ref t) >>= _) _ _ s;refine ag (et hol hdl ?_);simp only[c6,hx];refine ag (wpAny_rule (ag (wpAny_setField ho hd (by simp) ?_)));show wpAny _ _ (newExc (.type "StopIteration") [] >>= _) _ _ _;refine ag ?_;simp only[newExc,newTuple];refine ag (wpAny_newObj_type ?_ (by size_fits));refine ag (m:=firstArgMember _ _) (wpAny_of_eq (a:=Value.none) (by first |rfl | (simp only[firstArgMember];rfl)) ?_);refine wpAny_newObj_type ?_ (by size_fits);simp only[raiseNew];refine ag (wpAny_handled ?_);first |rw[show A.in1.handled=none from hh] |rw[hh]
 refine ag (bb (wpAny_throw ?_));exact hE _ _ (((Heap.SameBut.update ..).extBut.push _).push _) ⟨_,ba _ rfl,rfl⟩
theorem aae(hh:A.handled=none)(it l:Addr)(hne:l≠it)(items:Array Value):
  Draws prog w A it [it,l] items.size (λi v=>items[i]?=some v) (λi h=>h.IsTupleIter it l i/\h.IsTuple l items) where
 live:=λ_ _ st=>let ⟨o,ho,_⟩:=st.1;⟨o,ho⟩
 frame:=λ_ _ _ st hk=>⟨let ⟨o,e,r⟩:=st.1;⟨o,hk it (by simp) o e,r⟩,let ⟨o,e,r⟩:=st.2;⟨o,hk l (by simp) o e,r⟩⟩
 item:=λi s Q E hi st hQ=>by
  refine aac st.1 st.2 (x:=items[i]) (by simp[hi]) λh' hit' hs'=>?_;exact hQ _ h' s.toks (by simp[hi]) ⟨hit',let ⟨o,e,r⟩:=st.2;⟨o,hs'.extBut l o hne e,r⟩⟩ hs'
 done:=λs Q E st hE=>aad hh st.1 st.2 (by simp) hE
end
structure Drawn(P:Program)(w:World)(A:Around)(k:SK)(it:Addr)(i:Nat)(vs:List V)(h:Heap)(fp:List Addr)(Pd:Nat->Value->Prop)(S:Nat->Heap->Prop):Prop where
 D:Draws P w A it fp vs.length Pd S
 st:S i h
 val:∀j v,Pd j v->∃x,vs[j]?=some x/\RelV x v
 pos:∀j h,S j h->k.pos it j h
 fp:∀b∈fp,b=it\/k.val=.ref b
theorem drawn{X:Cx}{pins:List (Addr×Obj)}{σ:L2.St}{H:Hp}{s:Shared}{A:Around}(hh:A.handled=none)(I:Inv X pins σ H s){k:SK}{it:Addr}{i:Nat}{vs:List V}(sat:k.Sat H vs)(hit:H it=none)(p:k.pos it i s.heap):
  ∃fp Pd S,Drawn X.prog X.w A k it i vs s.heap fp Pd S:=by
 cases k with
 |lst a=>
  have sat:H a=some (.lst vs):=sat;obtain ⟨its,r,pl,_⟩:=I.list (SqL.of sat);refine ⟨[it,a],λj v=>its.toArray[j]?=some v,λj h=>h.IsListIter it a j/\h.IsList a its.toArray,?_,⟨p,pl.isList⟩,?_,λj h st=>st.1,?_⟩
  ·have D:=Draws.list (prog:=X.prog) (w:=X.w) hh it a (bu sat hit) its.toArray;rw[ar,<-r.length]at D;exact D
  ·intro j v e;have e:its.toArray[j]?=some v:=e;have hj:j < vs.length:=by
    rw[r.length];have:=(Array.getElem?_eq_some_iff.mp e).1;simpa using this
   obtain ⟨u,e2,r2⟩:=r.get (show vs[j]?=some vs[j] by simp[hj]);refine ⟨vs[j],by simp[hj],?_⟩;have:its[j]?=some v:=by simpa using e
   rw[this]at e2;cases e2;exact r2
  ·intro b hb;have hb:b=it\/b=a:=by simpa using hb
   rcases hb with e |e
   ·exact .inl e
   ·exact .inr (by rw[e];rfl)
 |tup a=>
  have sat:H a=some (.tup vs):=sat;obtain ⟨its,r,pl,_⟩:=I.tuple (SqT.of sat);refine ⟨[it,a],λj v=>its.toArray[j]?=some v,λj h=>h.IsTupleIter it a j/\h.IsTuple a its.toArray,?_,⟨p,pl⟩,?_,λj h st=>st.1,?_⟩
  ·have D:=aae (prog:=X.prog) (w:=X.w) hh it a (bu sat hit) its.toArray;rw[ar,<-r.length]at D;exact D
  ·intro j v e;have e:its.toArray[j]?=some v:=e;have hj:j < vs.length:=by
    rw[r.length];have:=(Array.getElem?_eq_some_iff.mp e).1;simpa using this
   obtain ⟨u,e2,r2⟩:=r.get (show vs[j]?=some vs[j] by simp[hj]);refine ⟨vs[j],by simp[hj],?_⟩;have:its[j]?=some v:=by simpa using e
   rw[this]at e2;cases e2;exact r2
  ·intro b hb;have hb:b=it\/b=a:=by simpa using hb
   rcases hb with e |e
   ·exact .inl e
   ·exact .inr (by rw[e];rfl)
 |str x t=>
  have sat:vs=x.cps.toList.map λc=>V.str ⟨#[c]⟩:=sat;refine ⟨[it],λi v=>∃c u,x.cps[i]?=some c/\v=.str ⟨#[c]⟩ u,λi h=>h.IsStrIter it (strIterType x) x t i,?_,p,?_,λj h st=>st,?_⟩
  ·have D:=X4 (prog:=X.prog) (w:=X.w) hh it x t;have e:x.cps.size=vs.length:=by rw[sat,al,dL]
   rw[e]at D;exact D
  ·rintro j v ⟨c,u,e1,e2⟩;refine ⟨V.str ⟨#[c]⟩,?_,u,e2⟩;rw[sat,bp,fA,e1];rfl
  ·intro b hb;exact .inl (by simpa using hb)
def Jk(k:SK):It:=⟨λi H=>∃vs,k.Sat H vs/\i < vs.length,λi H x H'=>H'=H/\∀vs,k.Sat H vs->vs[i]?=some x,λi H=>∃vs,k.Sat H vs/\vs.length=i⟩
def Je(k:SK):It:=⟨λi H=>∃vs,k.Sat H vs/\i < vs.length,λi H x H'=>∃T y,H T=none/\x=.ref T/\H'=upd H T (.tup [.int i,y])/\∀vs,k.Sat H vs->vs[i]?=some y,λi H=>∃vs,k.Sat H vs/\vs.length=i⟩
theorem xV{H:Hp}{k:SK}{vs ws:List V}(h:k.Sat H vs)(h':k.Sat H ws):vs=ws:=by
 cases k with
 |lst a=>have e:=(show H a=some _ from h).symm.trans h';cases e;rfl
 |tup a=>have e:=(show H a=some _ from h).symm.trans h';cases e;rfl
 |str x t=>exact (show vs=_ from h).trans (show ws=_ from h').symm
theorem aaf{P:Program}{w:World}{K:PySem.W.Frag}{elts:List Expr}{x1:Nat}{pos:Pos}(k:SK)(e it:Addr)(hne:e≠it):
  Turn P w K (.Tuple elts x1 pos) (Je k) [e,it] e (λi h=>(∃old,IsEnum h e it i old)/\k.pos it i h) where
 mem:=by simp
 obj:=λi h st b hb=>by
  obtain ⟨⟨old,he⟩,o,ho,c,d⟩:=st;have hb:b=e\/b=it:=by simpa using hb
  rcases hb with rfl |rfl
  ·exact ⟨_,he,λv z=>by have z':Data.fields _=Data.cell v:=z;cases z'⟩
  ·exact ⟨o,ho,λv z=>by rw[d]at z;cases z⟩
 keep:=λi h h' st kk=>⟨let ⟨old,he⟩:=st.1;⟨old,kk e (by simp) _ he⟩,st.2.keep λo ho=>kk it (by simp) o ho⟩
 item:=by
  intro X hP hw hK hc i pins s σ H E I hf st hg;subst hP hw hK;obtain ⟨vs,sat,hi⟩:=hg;obtain ⟨⟨old,he⟩,hit⟩:=st;have hfe:=hf e (by simp);have hfi:=hf it (by simp);obtain ⟨fp,Pd,S,Dr⟩:=drawn (A:=X.A.in1) (I.ok.hd hc) I sat hfi.1 hit;have helt:e < s.heap.objs.size:=ax he;have hef:e∉fp:=λhb=>by
   rcases Dr.fp e hb with z |z
   ·exact hne z
   ·have:=sat.no hfe.1;cases k with
    |lst a=>cases z;exact this rfl
    |tup a=>cases z;exact this rfl
    |str _ _=>cases z
  refine wpAny_pyNext_enum_itemD Dr.D he Dr.st hi hne hef λu h1 tk hu heo hit1 ht1 hz1 hk1=>?_;obtain ⟨x,hx,ru⟩:=Dr.val _ _ hu;refine ⟨_,rfl,?_⟩;refine wpAny_letOwnedTupleGo_enum heo λh2 he2 hs2=>?_;have hs2':Heap.SameBut e h1 h2:=hs2;have hn:H s.heap.objs.size=none:=I.hok.fresh (aw _);have k2:∀b o,b∉[e,it]->s.heap.get? b=some o->h2.get? b=some o:=λb o hb q=>by
   have hb':b≠e/\b≠it:=by simpa using hb
   exact hs2'.extBut b o hb'.1 (hk1 b o hb'.1 hb'.2 q)
  have I2:Inv X pins σ H { s with heap:=h2,toks:=tk+1 }:=I.turnedL hf k2;have ht2:h2.get? s.heap.objs.size=some { cls:=.type "tuple",data:=.seq #[.int i tk,u] }:=hs2'.extBut _ _ (fq helt) ht1;have ob:ObjOk X.prog X.w (upd H s.heap.objs.size (.tup [.int i,x])) h2 s.heap.objs.size (.tup [.int i,x]):=
   ⟨by rw[fw];simp,[.int i tk,u],.cons ⟨_,rfl⟩ (.cons ru .nil),⟨_,ht2,rfl,_,rfl⟩⟩
  have I3:=I2.track (I.fpOk (aw _) hn) ob;have nee:s.heap.objs.size≠e:=fq helt;have nei:s.heap.objs.size≠it:=by obtain ⟨o,ho,_⟩:=hit;exact fq (ax ho)
  refine ⟨.ref s.heap.objs.size,_,I3,rfl,⟨s.heap.objs.size,x,hn,rfl,rfl,λys hy=>by rw[xV hy sat];exact hx⟩,⟨⟨u,?_⟩,?_⟩,λb hb=>?_⟩
  ·show IsEnum h2 e it (((i+1:Nat)):Int) u;rw[show (((i+1:Nat):Int))=(i:Int)+1 by omega];exact he2
  ·exact (Dr.pos _ _ hit1).keep λo ho=>hs2'.extBut _ _ (Ne.symm hne) ho
  ·have hb':b=e\/b=it:=by simpa using hb
   rw[aJ (by rcases hb' with rfl |rfl;exact Ne.symm nee;exact Ne.symm nei)];exact (hf b hb).1
 done:=by
  intro X hP hw hK hc i pins s σ H E I hf st hg;subst hP hw hK;obtain ⟨vs,sat,hi⟩:=hg;subst hi;obtain ⟨⟨old,he⟩,hit⟩:=st;have hfi:=hf it (by simp);obtain ⟨fp,Pd,S,Dr⟩:=drawn (A:=X.A.in1) (I.ok.hd hc) I sat hfi.1 hit;refine wpAny_pyNext_enum_endD Dr.D he Dr.st λh' eb=>⟨rfl,I.turnedL (t':=s.toks) hf λb o hb q=>?_⟩;have hb':b≠e/\b≠it:=by simpa using hb
  exact eb b o hb'.2 q
 self:=λA i s Q E st h=>by
  obtain ⟨⟨old,he⟩,_⟩:=st;exact wpAny_pyIter_enum he h
theorem aag{P:Program}{w:World}{K:PySem.W.Frag}{tg:Expr}(k:SK)(it:Addr):Turn P w K tg (Jk k) [it] it (λi h=>k.pos it i h) where
 mem:=by simp
 obj:=λi h st b hb=>by
  have e:b=it:=by simpa using hb
  subst e;obtain ⟨o,e,c,d⟩:=st;exact ⟨o,e,λv z=>by rw[d]at z;cases z⟩
 keep:=λi h h' st kk=>st.keep λo e=>kk it (by simp) o e
 item:=by
  intro X hP hw hK hc i pins s σ H E I hf st hg;obtain ⟨vs,sat,hi⟩:=hg;have hfi:=hf it (by simp);cases k with
  |lst a=>
   have sat':H a=some (.lst vs):=sat;refine c9 ((Bp (tg:=tg) a it).item X hP hw hK hc i pins s σ H E I hf st ⟨vs,vs[i],SqL.of sat',by simp[hi]⟩) ?_ (λ_ _ e=>e);rintro r s1 ⟨u,hr,h1⟩;refine ⟨u,hr,c9 h1 ?_ (λ_ _ e=>e)⟩;rintro _ s2 ⟨x,H',I',rx,⟨e1,e2⟩,st',fr⟩;exact ⟨x,H',I',rx,⟨e1,λws hw'=>e2 ws (SqL.of (show H a=some (.lst ws) from hw'))⟩,st',fr⟩
  |tup a=>
   have sat':H a=some (.tup vs):=sat;refine c9 ((Bq (tg:=tg) a it).item X hP hw hK hc i pins s σ H E I hf st ⟨vs,vs[i],SqT.of sat',by simp[hi]⟩) ?_ (λ_ _ e=>e);rintro r s1 ⟨u,hr,h1⟩;refine ⟨u,hr,c9 h1 ?_ (λ_ _ e=>e)⟩;rintro _ s2 ⟨x,H',I',rx,⟨e1,e2⟩,st',fr⟩;exact ⟨x,H',I',rx,⟨e1,λws hw'=>e2 ws (SqT.of (show H a=some (.tup ws) from hw'))⟩,st',fr⟩
  |str y t=>
   have sat':vs=y.cps.toList.map λc=>V.str ⟨#[c]⟩:=sat;have hlen:vs.length=y.cps.size:=by rw[sat',al,dL]
   refine c9 ((vO (tg:=tg) it y t).item X hP hw hK hc i pins s σ H E I hf st (show i < y.cps.size by omega)) ?_ (λ_ _ e=>e);rintro r s1 ⟨u,hr,h1⟩;refine ⟨u,hr,c9 h1 ?_ (λ_ _ e=>e)⟩;rintro _ s2 ⟨x,H',I',rx,⟨e1,c,e2,e3⟩,st',fr⟩;refine ⟨x,H',I',rx,⟨e1,λws hw'=>?_⟩,st',fr⟩;have hw':ws=y.cps.toList.map λc=>V.str ⟨#[c]⟩:=hw';rw[hw',e3,bp,fA,e2];rfl
 done:=by
  intro X hP hw hK hc i pins s σ H E I hf st hg;obtain ⟨vs,sat,hi⟩:=hg;cases k with
  |lst a=>exact (Bp (tg:=tg) a it).done X hP hw hK hc i pins s σ H E I hf st ⟨vs,SqL.of (show H a=some (.lst vs) from sat),by omega⟩
  |tup a=>exact (Bq (tg:=tg) a it).done X hP hw hK hc i pins s σ H E I hf st ⟨vs,SqT.of (show H a=some (.tup vs) from sat),by omega⟩
  |str y t=>
   have sat':vs=y.cps.toList.map λc=>V.str ⟨#[c]⟩:=sat;have hlen:vs.length=y.cps.size:=by rw[sat',al,dL]
   exact (vO (tg:=tg) it y t).done X hP hw hK hc i pins s σ H E I hf st (show i=y.cps.size by omega)
 self:=λA i s Q E st h=>by
  cases k with
  |lst a=>exact wpAny_pyIter_listiter st h
  |tup a=>exact wpAny_pyIter_tupleiter st h
  |str y t=>exact (vO (K:=K) (tg:=tg) it y t).self A i s Q E st h
open Builtin Builtin.Str
section
variable {prog:Program} {w:World} {A:Around} {E:Value->Shared->Prop} {s:Shared}
theorem aah{z TI TO i1 i2:Addr}{k n1 n2:Nat}{fp1 fp2:List Addr}{P1 P2:Nat->Value->Prop}{S1 S2:Nat->Heap->Prop}{a b:Value}{Q:Value->Shared->Prop}(D:ZApart z TI TO i1 i2)
  (D1:Draws prog w A i1 fp1 n1 P1 S1) (D2:Draws prog w A i2 fp2 n2 P2 S2) (f1:∀c∈fp1,c≠z/\c≠TO/\c≠i2) (f2:∀c∈fp2,c≠z/\c≠TO/\c≠i1)
  (hz:IsZip s.heap z TI TO .none) (hTI:IsPair s.heap TI (.ref i1) (.ref i2)) (hTO:IsPair s.heap TO a b)
  (h1:S1 k s.heap) (h2:S2 k s.heap) (hx:k < n1) (hy:k < n2)
  (hQ:∀h' tk c d,P1 k c->P2 k d->IsZip h' z TI TO (rawInt s.heap.objs.size)->IsPair h' TO c d->S1 (k+1) h'->S2 (k+1) h'->
   IsPair h' s.heap.objs.size c d->h'.objs.size=s.heap.objs.size+1->
   (∀c o,c≠z->c≠TO->c≠i1->c≠i2->s.heap.get? c=some o->h'.get? c=some o)->Q (.ref s.heap.objs.size) { s with heap:=h',toks:=tk }):
  wpAny (model prog w) A (Builtin.«zip.__next__» ⟨[.ref z],[]⟩) (λfin s'=>∃v,fin=.done (.ret v)/\Q v s') E s:=by
 have e1:∀{h h':Heap}{c:Addr}{j:Nat},S1 j h->Heap.ExtBut c h h'->(∀b∈fp1,b≠c)->S1 j h':=λq e n=>D1.frame _ _ _ q λb hb o y=>e b o (n b hb) y;have e2:∀{h h':Heap}{c:Addr}{j:Nat},S2 j h->Heap.ExtBut c h h'->(∀b∈fp2,b≠c)->S2 j h':=λq e n=>D2.frame _ _ _ q λb hb o y=>e b o (n b hb) y;have z1:∀b∈fp1,b≠z:=λb hb=>(f1 b hb).1;have t1:∀b∈fp1,b≠TO:=λb hb=>(f1 b hb).2.1;have j1:∀b∈fp1,b≠i2:=λb hb=>(f1 b hb).2.2;have z2:∀b∈fp2,b≠z:=λb hb=>(f2 b hb).1;have t2:∀b∈fp2,b≠TO:=λb hb=>(f2 b hb).2.1;have j2:∀b∈fp2,b≠i1:=λb hb=>(f2 b hb).2.2;show wpAny _ _ (field (.ref z) 2 >>= _) _ _ _;refine ag (dy hz rfl (x:=.bool false) rfl ?_);show wpAny _ _ (field (.ref z) 3 >>= _) _ _ _;refine ag (dy hz rfl (x:=.ref TI) rfl ?_);refine ag (et hTI rfl ?_);show wpAny _ _ (Builtin.SmallTypes.ownedTupleIsFree (.ref z) >>= _) _ _ _;refine ag ?_;unfold Builtin.SmallTypes.ownedTupleIsFree;refine ag (dy hz rfl (x:=.none) rfl (bb ?_));simp only[if_true];refine ag (wpAny_rule ?_);refine ag (dy hz rfl (x:=.ref TO) rfl ?_);refine ag (ek hz (by simp) λh₁ hz₁ hs₁=>?_);replace hz₁:IsZip h₁ z TI TO .ellipsis:=hz₁;replace hs₁:Heap.SameBut z s.heap h₁:=hs₁;refine ag ?_;simp only[List.zipIdx_cons,List.zipIdx_nil,List.forIn_cons,List.forIn_nil];refine ag (ag (wpAny_onRaise ?_));show wpAny _ _ (Builtin.SmallTypes.nextOf (.ref i1) >>= _) _ _ _;refine ag (D1.item k _ _ _ hx (e1 h1 hs₁.extBut z1) λc h₂ tk₂ hc h1₂ hs₂=>bb ?_);replace hs₂:Heap.SameBut i1 h₁ h₂:=hs₂;have hTO₂:IsPair h₂ TO a b:=hs₂.extBut _ _ D.TOi1 (hs₁.extBut _ _ D.TOz hTO);refine ag (et hTO₂ rfl ?_);refine ag (wpAny_updateSeq_pair hTO₂ λh₃ hTO₃ hs₃=>?_);replace hTO₃:IsPair h₃ TO c b:=hTO₃;replace hs₃:Heap.SameBut TO h₂ h₃:=hs₃;refine ag (wpAny_letGo (bb ?_));refine ag (ag (wpAny_onRaise ?_));show wpAny _ _ (Builtin.SmallTypes.nextOf (.ref i2) >>= _) _ _ _;refine ag (D2.item k _ _ _ hy (e2 (e2 (e2 h2 hs₁.extBut z2) hs₂.extBut j2) hs₃.extBut t2) λd h₄ tk₄ hd h2₄ hs₄=>bb ?_);replace hs₄:Heap.SameBut i2 h₃ h₄:=hs₄;have hTO₄:IsPair h₄ TO c b:=hs₄.extBut _ _ D.TOi2 hTO₃;refine ag (et hTO₄ rfl ?_);refine ag (wpAny_updateSeq_pair hTO₄ λh₅ hTO₅ hs₅=>?_);replace hTO₅:IsPair h₅ TO c d:=hTO₅;replace hs₅:Heap.SameBut TO h₄ h₅:=hs₅;refine ag (wpAny_letGo (bb (bb ?_)));refine ag (et hTO₅ rfl ?_);refine ag (wpAny_newTuple ?_);have hsz:h₅.objs.size=s.heap.objs.size:=by rw[hs₅.1,hs₄.1,hs₃.1,hs₂.1,hs₁.1]
 have hz₅:IsZip h₅ z TI TO .ellipsis:=hs₅.extBut _ _ D.TOz.symm (hs₄.extBut _ _ D.i2z.symm (hs₃.extBut _ _ D.TOz.symm (hs₂.extBut _ _ D.i1z.symm hz₁)));have hk₅:∀c o,c≠z->c≠TO->c≠i1->c≠i2->s.heap.get? c=some o->h₅.get? c=some o:=λc o c1 c2 c3 c4 e=>
  hs₅.extBut _ _ c2 (hs₄.extBut _ _ c4 (hs₃.extBut _ _ c2 (hs₂.extBut _ _ c3 (hs₁.extBut _ _ c1 e))))
 have h1₅:S1 (k+1) h₅:=e1 (e1 (e1 h1₂ hs₃.extBut t1) hs₄.extBut j1) hs₅.extBut t1;have h2₅:S2 (k+1) h₅:=e2 h2₄ hs₅.extBut t2;have hzlt:z < h₅.objs.size:=ax hz₅;show wpAny _ _ (Builtin.SmallTypes.ownedTupleHandOut (.ref z) (.ref h₅.objs.size) >>= _) _ _ _;refine ag ?_;unfold Builtin.SmallTypes.ownedTupleHandOut;have hz₆:IsZip (h₅.push { cls:=.type "tuple",data:=.seq #[c,d] }) z TI TO .ellipsis:=ah _ hz₅;refine ag (ek hz₆ (by simp) λh₇ hz₇ hs₇=>?_);replace hz₇:IsZip h₇ z TI TO (rawInt h₅.objs.size):=hz₇;refine ek hz₇ (by simp) λh₈ hz₈ hs₈=>?_;replace hz₈:IsZip h₈ z TI TO (rawInt h₅.objs.size):=hz₈;have up:∀c o,c≠z->h₅.get? c=some o->h₈.get? c=some o:=λc o c1 e=>hs₈.extBut _ _ c1 (hs₇.extBut _ _ c1 (ah _ e));have hT₈:IsPair h₈ h₅.objs.size c d:=hs₈.extBut _ _ (fq hzlt) (hs₇.extBut _ _ (fq hzlt) (ba _ rfl));have hz8:h₈.objs.size=h₅.objs.size+1:=by rw[hs₈.1,hs₇.1,dE]
 rw[hsz]at hz₈ hT₈ hz8;refine bb ⟨_,rfl,?_⟩;show Q (.ref h₅.objs.size) _;rw[hsz];exact hQ h₈ tk₄ c d hc hd hz₈ (up _ _ D.TOz hTO₅) (D1.frame _ _ _ h1₅ λb hb o y=>up b o (z1 b hb) y) (D2.frame _ _ _ h2₅ λb hb o y=>up b o (z2 b hb) y) hT₈ hz8 λc o c1 c2 c3 c4 e=>up c o c1 (hk₅ c o c1 c2 c3 c4 e)
theorem aai{z TI TO i1 i2:Addr}{n1:Nat}{fp1:List Addr}{P1:Nat->Value->Prop}{S1:Nat->Heap->Prop}{a b:Value}{Q:Fin->Shared->Prop}(D:ZApart z TI TO i1 i2)
  (D1:Draws prog w A i1 fp1 n1 P1 S1) (f1:∀c∈fp1,c≠z)
  (hz:IsZip s.heap z TI TO .none) (hTI:IsPair s.heap TI (.ref i1) (.ref i2)) (hTO:IsPair s.heap TO a b) (h1:S1 n1 s.heap)
  (hE:∀h' e,(∀c o,c≠z->c≠TO->c≠i1->c≠i2->s.heap.get? c=some o->h'.get? c=some o)->(∃o,h'.get? e=some o/\o.cls=.type "StopIteration")->E (.ref e) { s with heap:=h' }):
  wpAny (model prog w) A (Builtin.«zip.__next__» ⟨[.ref z],[]⟩) Q E s:=by
 show wpAny _ _ (field (.ref z) 2 >>= _) _ _ _;refine ag (dy hz rfl (x:=.bool false) rfl ?_);show wpAny _ _ (field (.ref z) 3 >>= _) _ _ _;refine ag (dy hz rfl (x:=.ref TI) rfl ?_);refine ag (et hTI rfl ?_);show wpAny _ _ (Builtin.SmallTypes.ownedTupleIsFree (.ref z) >>= _) _ _ _;refine ag ?_;unfold Builtin.SmallTypes.ownedTupleIsFree;refine ag (dy hz rfl (x:=.none) rfl (bb ?_));simp only[if_true];refine ag (wpAny_rule ?_);refine ag (dy hz rfl (x:=.ref TO) rfl ?_);refine ag (ek hz (by simp) λh₁ hz₁ hs₁=>?_);replace hz₁:IsZip h₁ z TI TO .ellipsis:=hz₁;replace hs₁:Heap.SameBut z s.heap h₁:=hs₁;refine ag ?_;simp only[List.zipIdx_cons,List.zipIdx_nil,List.forIn_cons,List.forIn_nil];refine ag (ag (wpAny_onRaise ?_));show wpAny _ _ (Builtin.SmallTypes.nextOf (.ref i1) >>= _) _ _ _;refine ag (D1.done _ _ _ (D1.frame _ _ _ h1 λb hb o y=>hs₁.extBut b o (f1 b hb) y) λh₂ e hs₂ he=>?_);obtain ⟨oe,hoe,hce⟩:=he;have hz₂:IsZip h₂ z TI TO .ellipsis:=hs₂ _ _ D.i1z.symm hz₁;have hez:e≠z:=λx=>by subst x;rw[hz₂]at hoe;cases hoe;simp at hce
 refine ek hz₂ (by simp) λh₃ _ hs₃=>hE h₃ e (λc o c1 _ c3 _ x=>hs₃.extBut _ _ c1 (hs₂ _ _ c3 (hs₁.extBut _ _ c1 x))) ⟨oe,hs₃.extBut _ _ hez hoe,hce⟩
theorem aaj{z TI TO i1 i2:Addr}{k n1 n2:Nat}{fp1 fp2:List Addr}{P1 P2:Nat->Value->Prop}{S1 S2:Nat->Heap->Prop}{a b:Value}{Q:Fin->Shared->Prop}(D:ZApart z TI TO i1 i2)
  (D1:Draws prog w A i1 fp1 n1 P1 S1) (D2:Draws prog w A i2 fp2 n2 P2 S2) (f1:∀c∈fp1,c≠z/\c≠TO/\c≠i2) (f2:∀c∈fp2,c≠z/\c≠TO/\c≠i1)
  (hz:IsZip s.heap z TI TO .none) (hTI:IsPair s.heap TI (.ref i1) (.ref i2)) (hTO:IsPair s.heap TO a b) (h1:S1 k s.heap) (h2:S2 k s.heap) (hx:k < n1) (hy:k=n2)
  (hE:∀h' tk e,(∀c o,c≠z->c≠TO->c≠i1->c≠i2->s.heap.get? c=some o->h'.get? c=some o)->(∃o,h'.get? e=some o/\o.cls=.type "StopIteration")->E (.ref e) { s with heap:=h',toks:=tk }):
  wpAny (model prog w) A (Builtin.«zip.__next__» ⟨[.ref z],[]⟩) Q E s:=by
 have e1:∀{h h':Heap}{c:Addr}{j:Nat},S1 j h->Heap.ExtBut c h h'->(∀b∈fp1,b≠c)->S1 j h':=λq e n=>D1.frame _ _ _ q λb hb o y=>e b o (n b hb) y;have e2:∀{h h':Heap}{c:Addr}{j:Nat},S2 j h->Heap.ExtBut c h h'->(∀b∈fp2,b≠c)->S2 j h':=λq e n=>D2.frame _ _ _ q λb hb o y=>e b o (n b hb) y;have z1:∀b∈fp1,b≠z:=λb hb=>(f1 b hb).1;have z2:∀b∈fp2,b≠z:=λb hb=>(f2 b hb).1;have t2:∀b∈fp2,b≠TO:=λb hb=>(f2 b hb).2.1;have j2:∀b∈fp2,b≠i1:=λb hb=>(f2 b hb).2.2;show wpAny _ _ (field (.ref z) 2 >>= _) _ _ _;refine ag (dy hz rfl (x:=.bool false) rfl ?_);show wpAny _ _ (field (.ref z) 3 >>= _) _ _ _;refine ag (dy hz rfl (x:=.ref TI) rfl ?_);refine ag (et hTI rfl ?_);show wpAny _ _ (Builtin.SmallTypes.ownedTupleIsFree (.ref z) >>= _) _ _ _;refine ag ?_;unfold Builtin.SmallTypes.ownedTupleIsFree;refine ag (dy hz rfl (x:=.none) rfl (bb ?_));simp only[if_true];refine ag (wpAny_rule ?_);refine ag (dy hz rfl (x:=.ref TO) rfl ?_);refine ag (ek hz (by simp) λh₁ hz₁ hs₁=>?_);replace hz₁:IsZip h₁ z TI TO .ellipsis:=hz₁;replace hs₁:Heap.SameBut z s.heap h₁:=hs₁;refine ag ?_;simp only[List.zipIdx_cons,List.zipIdx_nil,List.forIn_cons,List.forIn_nil];refine ag (ag (wpAny_onRaise ?_));show wpAny _ _ (Builtin.SmallTypes.nextOf (.ref i1) >>= _) _ _ _;refine ag (D1.item k _ _ _ hx (e1 h1 hs₁.extBut z1) λc h₂ tk₂ hc h1₂ hs₂=>bb ?_);replace hs₂:Heap.SameBut i1 h₁ h₂:=hs₂;have hTO₂:IsPair h₂ TO a b:=hs₂.extBut _ _ D.TOi1 (hs₁.extBut _ _ D.TOz hTO);refine ag (et hTO₂ rfl ?_);refine ag (wpAny_updateSeq_pair hTO₂ λh₃ hTO₃ hs₃=>?_);replace hs₃:Heap.SameBut TO h₂ h₃:=hs₃;refine ag (wpAny_letGo (bb ?_));refine ag (ag (wpAny_onRaise ?_));show wpAny _ _ (Builtin.SmallTypes.nextOf (.ref i2) >>= _) _ _ _;subst hy;refine ag (D2.done _ _ _ (e2 (e2 (e2 h2 hs₁.extBut z2) hs₂.extBut j2) hs₃.extBut t2) λh₄ e hs₄ he=>?_);obtain ⟨oe,hoe,hce⟩:=he;have hz₄:IsZip h₄ z TI TO .ellipsis:=hs₄ _ _ D.i2z.symm (hs₃.extBut _ _ D.TOz.symm (hs₂.extBut _ _ D.i1z.symm hz₁));have hez:e≠z:=λx=>by subst x;rw[hz₄]at hoe;cases hoe;simp at hce
 refine ek hz₄ (by simp) λh₅ _ hs₅=>hE h₅ tk₂ e (λc o c1 c2 c3 c4 x=>hs₅.extBut _ _ c1 (hs₄ _ _ c4 (hs₃.extBut _ _ c2 (hs₂.extBut _ _ c3 (hs₁.extBut _ _ c1 x))))) ⟨oe,hs₅.extBut _ _ hez hoe,hce⟩
end
def Jz(k l:SK):It:=⟨λi H=>∃vs ws,k.Sat H vs/\l.Sat H ws/\i < vs.length/\i < ws.length,
 λi H x H'=>∃T y z,H T=none/\x=.ref T/\H'=upd H T (.tup [y,z])/\(∀vs,k.Sat H vs->vs[i]?=some y)/\(∀ws,l.Sat H ws->ws[i]?=some z),
 λi H=>∃vs ws,k.Sat H vs/\l.Sat H ws/\(vs.length=i/\i<=ws.length\/i < vs.length/\ws.length=i)⟩
theorem aak{P:Program}{w:World}{K:PySem.W.Frag}{elts:List Expr}{x1:Nat}{pos:Pos}(k l:SK)(z TI TO i1 i2:Addr)(D:ZApart z TI TO i1 i2):
  Turn P w K (.Tuple elts x1 pos) (Jz k l) [z,TI,TO,i1,i2] z
   (λi h=>IsZip h z TI TO .none/\IsPair h TI (.ref i1) (.ref i2)/\(∃a b,IsPair h TO a b)/\k.pos i1 i h/\l.pos i2 i h) where
 mem:=by simp
 obj:=λi h st b hb=>by
  obtain ⟨hz,hTI,⟨a,c,hTO⟩,⟨o1,e1,_,d1⟩,⟨o2,e2,_,d2⟩⟩:=st;have hb':b=z\/b=TI\/b=TO\/b=i1\/b=i2:=by simpa using hb
  rcases hb' with rfl |rfl |rfl |rfl |rfl
  ·exact ⟨_,hz,λv q=>by have q':Data.fields _=Data.cell v:=q;cases q'⟩
  ·exact ⟨_,hTI,λv q=>by have q':Data.seq _ _=Data.cell v:=q;cases q'⟩
  ·exact ⟨_,hTO,λv q=>by have q':Data.seq _ _=Data.cell v:=q;cases q'⟩
  ·exact ⟨o1,e1,λv q=>by rw[d1]at q;cases q⟩
  ·exact ⟨o2,e2,λv q=>by rw[d2]at q;cases q⟩
 keep:=λi h h' st kk=>by
  obtain ⟨hz,hTI,⟨a,c,hTO⟩,p1,p2⟩:=st;exact ⟨kk z (by simp) _ hz,kk TI (by simp) _ hTI,⟨a,c,kk TO (by simp) _ hTO⟩,p1.keep λo e=>kk i1 (by simp) o e,p2.keep λo e=>kk i2 (by simp) o e⟩
 item:=by
  intro X hP hw hK hc i pins s σ H E I hf st hg;subst hP hw hK;obtain ⟨vs,ws,sat1,sat2,l1,l2⟩:=hg;obtain ⟨hz,hTI,⟨a,b,hTO⟩,h1,h2⟩:=st;have hT:s.TypeIs (.ref z) "zip":=⟨_,hz,rfl⟩;have fz:=hf z (by simp);have fTO:=hf TO (by simp);have fi1:=hf i1 (by simp);have fi2:=hf i2 (by simp);obtain ⟨fp1,P1,S1,Dr1⟩:=drawn (A:=X.A.in1) (I.ok.hd hc) I sat1 fi1.1 h1;obtain ⟨fp2,P2,S2,Dr2⟩:=drawn (A:=X.A.in1) (I.ok.hd hc) I sat2 fi2.1 h2;have no1:∀e,H e=none->e≠i1->∀c∈fp1,c≠e:=λe he hei c hc z=>by
   rcases Dr1.fp c hc with q |q
   ·exact hei (z.symm.trans q)
   ·have:=sat1.no he;cases k with
    |lst a=>injection q with q;exact this (q.trans z)
    |tup a=>injection q with q;exact this (q.trans z)
    |str _ _=>cases q
  have no2:∀e,H e=none->e≠i2->∀c∈fp2,c≠e:=λe he hei c hc z=>by
   rcases Dr2.fp c hc with q |q
   ·exact hei (z.symm.trans q)
   ·have:=sat2.no he;cases l with
    |lst a=>injection q with q;exact this (q.trans z)
    |tup a=>injection q with q;exact this (q.trans z)
    |str _ _=>cases q
  have f1:∀c∈fp1,c≠z/\c≠TO/\c≠i2:=λc hc=>⟨no1 z fz.1 D.i1z.symm c hc,no1 TO fTO.1 D.TOi1 c hc,no1 i2 fi2.1 D.i12.symm c hc⟩;have f2:∀c∈fp2,c≠z/\c≠TO/\c≠i1:=λc hc=>⟨no2 z fz.1 D.i2z.symm c hc,no2 TO fTO.1 D.TOi2 c hc,no2 i1 fi1.1 D.i12 c hc⟩;have ltz:z < s.heap.objs.size:=ax hz;have ltTI:TI < s.heap.objs.size:=ax hTI;have ltTO:TO < s.heap.objs.size:=ax hTO;have lti1:i1 < s.heap.objs.size:=by obtain ⟨_,e,_⟩:=h1;exact ax e
  have lti2:i2 < s.heap.objs.size:=by obtain ⟨_,e,_⟩:=h2;exact ax e
  unfold pyNext;refine ag (wpAny_attempt (eP (name:=Str.ofString "__next__") hT F.slot_zip_next
   (fI F.slot_zip_next hT F.entry_zip_next (aah D Dr1.D Dr2.D f1 f2 hz hTI hTO Dr1.st Dr2.st l1 l2 λh' tk c d pc pd a1 a2 a3 a4 a5 a6 hk=>bb ?_) (F.args_zip_next_1 _))))
  obtain ⟨y,hy,ry⟩:=Dr1.val _ _ pc;obtain ⟨y',hy',ry'⟩:=Dr2.val _ _ pd;refine ⟨_,rfl,?_⟩;refine wpAny_letOwnedTupleGo_zip a1 λh2' hz2 hs2=>?_;have hs2':Heap.SameBut z h' h2':=hs2;have hn:H s.heap.objs.size=none:=I.hok.fresh (aw _);have k2:∀b o,b∉[z,TI,TO,i1,i2]->s.heap.get? b=some o->h2'.get? b=some o:=λb o hb q=>by
   have hb':b≠z/\b≠TI/\b≠TO/\b≠i1/\b≠i2:=by simpa using hb
   exact hs2'.extBut b o hb'.1 (hk b o hb'.1 hb'.2.2.1 hb'.2.2.2.1 hb'.2.2.2.2 q)
  have I2:Inv X pins σ H { s with heap:=h2',toks:=tk }:=I.turnedL hf k2;have ht2:h2'.get? s.heap.objs.size=some { cls:=.type "tuple",data:=.seq #[c,d] }:=hs2'.extBut _ _ (fq ltz) a5;have ob:ObjOk X.prog X.w (upd H s.heap.objs.size (.tup [y,y'])) h2' s.heap.objs.size (.tup [y,y']):=
   ⟨by rw[fw];simp,[c,d],.cons ry (.cons ry' .nil),⟨_,ht2,rfl,_,rfl⟩⟩
  have I3:=I2.track (I.fpOk (aw _) hn) ob;refine ⟨.ref s.heap.objs.size,_,I3,rfl,⟨s.heap.objs.size,y,y',hn,rfl,rfl,λus hu=>by rw[xV hu sat1];exact hy,λus hu=>by rw[xV hu sat2];exact hy'⟩,
   ⟨hz2,hs2'.extBut _ _ D.TIz (hk _ _ D.TIz D.TITO D.TIi1 D.TIi2 hTI),⟨_,_,hs2'.extBut _ _ D.TOz a2⟩,(Dr1.pos _ _ a3).keep λo e=>hs2'.extBut _ _ D.i1z e,(Dr2.pos _ _ a4).keep λo e=>hs2'.extBut _ _ D.i2z e⟩,λb hb=>?_⟩
  have hb':b=z\/b=TI\/b=TO\/b=i1\/b=i2:=by simpa using hb
  rw[aJ (by rcases hb' with rfl |rfl |rfl |rfl |rfl <;> exact ck ‹_›)];exact (hf b hb).1
 done:=by
  intro X hP hw hK hc i pins s σ H E I hf st hg;subst hP hw hK;obtain ⟨vs,ws,sat1,sat2,hend⟩:=hg;obtain ⟨hz,hTI,⟨a,b,hTO⟩,h1,h2⟩:=st;have hT:s.TypeIs (.ref z) "zip":=⟨_,hz,rfl⟩;have fz:=hf z (by simp);have fTO:=hf TO (by simp);have fi1:=hf i1 (by simp);have fi2:=hf i2 (by simp);obtain ⟨fp1,P1,S1,Dr1⟩:=drawn (A:=X.A.in1) (I.ok.hd hc) I sat1 fi1.1 h1;obtain ⟨fp2,P2,S2,Dr2⟩:=drawn (A:=X.A.in1) (I.ok.hd hc) I sat2 fi2.1 h2;have no1:∀e,H e=none->e≠i1->∀c∈fp1,c≠e:=λe he hei c hc z=>by
   rcases Dr1.fp c hc with q |q
   ·exact hei (z.symm.trans q)
   ·have:=sat1.no he;cases k with
    |lst a=>injection q with q;exact this (q.trans z)
    |tup a=>injection q with q;exact this (q.trans z)
    |str _ _=>cases q
  have no2:∀e,H e=none->e≠i2->∀c∈fp2,c≠e:=λe he hei c hc z=>by
   rcases Dr2.fp c hc with q |q
   ·exact hei (z.symm.trans q)
   ·have:=sat2.no he;cases l with
    |lst a=>injection q with q;exact this (q.trans z)
    |tup a=>injection q with q;exact this (q.trans z)
    |str _ _=>cases q
  have f1:∀c∈fp1,c≠z/\c≠TO/\c≠i2:=λc hc=>⟨no1 z fz.1 D.i1z.symm c hc,no1 TO fTO.1 D.TOi1 c hc,no1 i2 fi2.1 D.i12.symm c hc⟩;have f2:∀c∈fp2,c≠z/\c≠TO/\c≠i1:=λc hc=>⟨no2 z fz.1 D.i2z.symm c hc,no2 TO fTO.1 D.TOi2 c hc,no2 i1 fi1.1 D.i12 c hc⟩;have fin:∀(h':Heap)(tk:Nat)(e:Addr),(∀c o,c≠z->c≠TO->c≠i1->c≠i2->s.heap.get? c=some o->h'.get? c=some o)->Inv X pins σ H { s with heap:=h',toks:=tk }:=λh' tk e hk=>I.turnedL (t':=tk) hf λb o hb q=>by
   have hb':b≠z/\b≠TI/\b≠TO/\b≠i1/\b≠i2:=by simpa using hb
   exact hk b o hb'.1 hb'.2.2.1 hb'.2.2.2.1 hb'.2.2.2.2 q
  unfold pyNext;refine ag (wpAny_attempt (eP (name:=Str.ofString "__next__") hT F.slot_zip_next
   (fI F.slot_zip_next hT F.entry_zip_next ?_ (F.args_zip_next_1 _))))
  rcases hend with ⟨e1,_⟩ |⟨e1,e2⟩
  ·subst e1;refine aai D Dr1.D (λc hc=>(f1 c hc).1) hz hTI hTO Dr1.st λh' e hk he=>?_;obtain ⟨o,ho,hc'⟩:=he;refine ag (wpAny_isInstance (T:="StopIteration") (b:=true) ⟨o,ho,hc'⟩ isSubtype_stop ?_);exact bb ⟨rfl,fin h' s.toks e hk⟩
  ·refine aaj D Dr1.D Dr2.D f1 f2 hz hTI hTO Dr1.st Dr2.st e1 e2.symm λh' tk e hk he=>?_;obtain ⟨o,ho,hc'⟩:=he;refine ag (wpAny_isInstance (T:="StopIteration") (b:=true) ⟨o,ho,hc'⟩ isSubtype_stop ?_);exact bb ⟨rfl,fin h' tk e hk⟩
 self:=λA i s Q E st h=>wpAny_pyIter_zip st.1 h
open Sem (wp)
open AutoSeq1 (wpAny_loadPart')
set_option maxRecDepth 100000
set_option maxHeartbeats 1000000 in
theorem aal(l:Addr)(items:Array Value)(n:Nat)(dct:Option Addr)(sl:Array (Option Value)):
  Meets (Builtin.«enumerate.__new__» ⟨[.type "enumerate",.ref l],[]⟩) (λ_ R s=>s.heap.get? l=some { cls:=.type "tuple",dict:=dct,data:=.seq items n,slots:=sl }/\
   R (.ok (.ret (.ref (s.heap.push { cls:=.type "tuple_iterator",data:=.fields #[.ref l,.int 0 0] }).objs.size)))
    { s with heap:=(s.heap.push { cls:=.type "tuple_iterator",data:=.fields #[.ref l,.int 0 0] }).push { cls:=.type "enumerate",data:=.fields #[.none,.bool false,.ref s.heap.objs.size,rawInt 0,.none,.none] } }):=
 .of_wp λprog w A R s h=>by
  obtain ⟨hp,g,d,tk,os⟩:=s;obtain ⟨hl,h⟩:=h;have hsub:=sub_enumerate;have hL:Heap.IsTuple (Shared.heap ⟨hp,g,d,tk,os⟩) l items:=⟨_,hl,rfl,n,rfl⟩;wp_walk using wpAny_loadPart' hl
  refine wpAny_stack_any λst=>bb ?_;split
  ·rename_i c _ _ _ _ _;cases (c==Value.type "enumerate")
   ·wp_walk using wpAny_loadPart' hl,wpAny_pyIter_tuple hL
    exact ⟨_,rfl,h⟩
   ·wp_walk using wpAny_loadPart' hl,wpAny_pyIter_tuple hL
    exact ⟨_,rfl,h⟩
  ·wp_walk using wpAny_loadPart' hl,wpAny_pyIter_tuple hL
   exact ⟨_,rfl,h⟩
abbrev tD(h:Heap)(k:SK):Heap:=h.push k.obj
abbrev tH(h:Heap)(k l:SK):Heap:=(tD h k).push l.obj
abbrev tM (h:Heap) (k l:SK):Heap:=(tH h k l).push { cls:=.type "tuple",data:=.seq #[.ref h.objs.size,.ref (tD h k).objs.size] }
abbrev tQ (h:Heap) (k l:SK):Heap:=(tM h k l).push { cls:=.type "tuple",data:=.seq #[.none,.none] }
abbrev gY (h:Heap) (k l:SK):Heap:=(tQ h k l).push { cls:=.type "zip",data:=.fields #[.none,.bool false,.bool false,.ref (tH h k l).objs.size,.ref (tM h k l).objs.size] }
theorem aam(k l:SK)(xs ys:Array Value):
  Meets (Builtin.«zip.__new__» ⟨[.type "zip",k.val,l.val],[]⟩) (λ_ R s=>k.On xs s.heap/\l.On ys s.heap/\R (.ok (.ret (.ref (tQ s.heap k l).objs.size))) { s with heap:=gY s.heap k l }):=
 .of_wp λprog w A R s h=>by
  obtain ⟨hp,g,d,tk,os⟩:=s;obtain ⟨h1,h2,h⟩:=h;have hsub:=sub_zip;have h1':k.On xs (Shared.heap ⟨hp,g,d,tk,os⟩):=h1;have h2':l.On ys (Shared.heap ⟨hp.push k.obj,g,d,tk,os⟩):=SK.On.keeps h2 λb o _ e=>ah _ e;wp_walk using SK.iter h1',SK.iter h2'
  exact ⟨_,rfl,h⟩
section
variable {prog:Program} {w:World} {A:Around} {E:Value->Shared->Prop} {s:Shared}
theorem aan{k l:SK}{xs ys:Array Value}{Q:Value->Shared->Prop}(h1:k.On xs s.heap)(h2:l.On ys s.heap)
  (h:∀h',IsZip h' (s.heap.objs.size+4) (s.heap.objs.size+2) (s.heap.objs.size+3) .none->IsPair h' (s.heap.objs.size+2) (.ref s.heap.objs.size) (.ref (s.heap.objs.size+1))->
   IsPair h' (s.heap.objs.size+3) .none .none->k.pos s.heap.objs.size 0 h'->l.pos (s.heap.objs.size+1) 0 h'->h'.objs.size=s.heap.objs.size+5->
   (∀c o,s.heap.get? c=some o->h'.get? c=some o)->Q (.ref (s.heap.objs.size+4)) { s with heap:=h' }):
  wpAny (model prog w) A (call (.type "zip") [k.val,l.val]) Q E s:=by
 refine callType_new F.called_zip (by decide) (F.typeCall_zip_2 _ _) (F.newCall_zip_2 _ _) (λobj=>F.args_object_init_3 obj _ _) F.entry_zip_new
  (aam k l xs ys) ⟨h1,h2,?_⟩
 have z1:(tD s.heap k).objs.size=s.heap.objs.size+1:=dE ..;have z2:(tH s.heap k l).objs.size=s.heap.objs.size+2:=by rw[dE,z1]
 have z3:(tM s.heap k l).objs.size=s.heap.objs.size+3:=by rw[dE,z2]
 have z4:(tQ s.heap k l).objs.size=s.heap.objs.size+4:=by rw[dE,z3]
 have z5:(gY s.heap k l).objs.size=s.heap.objs.size+5:=by rw[dE,z4]
 have g5:(gY s.heap k l).get? (tQ s.heap k l).objs.size=some _:=ba _ rfl;have g4:(gY s.heap k l).get? (tM s.heap k l).objs.size=some _:=ah _ (ba _ rfl);have g3:(gY s.heap k l).get? (tH s.heap k l).objs.size=some _:=ah _ (ah _ (ba _ rfl));have g2:(gY s.heap k l).get? (tD s.heap k).objs.size=some _:=ah _ (ah _ (ah _ (ba _ rfl)));have g1:(gY s.heap k l).get? s.heap.objs.size=some _:=ah _ (ah _ (ah _ (ah _ (ba _ rfl))));show _/\_;rw[z2,z3,z4]at g5;rw[z1,z2]at g3;rw[z3]at g4;rw[z1]at g2;rw[z4];exact ⟨⟨_,g5,rfl⟩,h _ g5 g3 g4 ⟨_,g1,rfl,rfl⟩ ⟨_,g2,rfl,rfl⟩ z5 λc o x=>
  ah _ (ah _ (ah _ (ah _ (ah _ x))))⟩
theorem aao{l:Addr}{items:Array Value}{Q:Value->Shared->Prop}(hL:s.heap.IsTuple l items)
  (h:∀h',IsEnum h' (s.heap.objs.size+1) s.heap.objs.size 0 .none->h'.IsTupleIter s.heap.objs.size l 0->h'.objs.size=s.heap.objs.size+2->
   (∀b o,s.heap.get? b=some o->h'.get? b=some o)->Q (.ref (s.heap.objs.size+1)) { s with heap:=h' }):
  wpAny (model prog w) A (call (.type "enumerate") [.ref l]) Q E s:=by
 obtain ⟨⟨c,dct,dt,sl⟩,hl,hc,n,hd⟩:=hL;replace hc:c=.type "tuple":=hc;replace hd:dt=.seq items n:=hd;subst hc hd;refine callType_new F.called_enumerate (by decide) (F.typeCall_enumerate_1 _) (F.newCall_enumerate_1 _) (λobj=>F.args_object_init_2 obj _) F.entry_enumerate_new
  (aal l items n dct sl) ⟨hl,?_⟩
 have hz:(s.heap.push { cls:=.type "tuple_iterator",data:=.fields #[.ref l,.int 0 0] }).objs.size=s.heap.objs.size+1:=dE ..;show _/\_;rw[hz];have he:IsEnum ((s.heap.push { cls:=.type "tuple_iterator",data:=.fields #[.ref l,.int 0 0] }).push
   { cls:=.type "enumerate",data:=.fields #[.none,.bool false,.ref s.heap.objs.size,rawInt 0,.none,.none] }) (s.heap.objs.size+1) s.heap.objs.size 0 .none:=by
  have:=ba (s.heap.push { cls:=.type "tuple_iterator",data:=.fields #[.ref l,.int 0 0] })
   (o:={ cls:=.type "enumerate",data:=.fields #[.none,.bool false,.ref s.heap.objs.size,rawInt 0,.none,.none] }) rfl
  rw[hz]at this;exact this
 refine ⟨⟨_,he,rfl⟩,h _ he ⟨_,ah _ (ba _ rfl),rfl,rfl⟩ (by rw[dE,hz]) λb o x=>ah _ (ah _ x)⟩
theorem aap{k:SK}{xs:Array Value}{Q:Value->Shared->Prop}(h1:k.On xs s.heap)
  (h:∀h',IsEnum h' (s.heap.objs.size+1) s.heap.objs.size 0 .none->k.pos s.heap.objs.size 0 h'->h'.objs.size=s.heap.objs.size+2->
   (∀b o,s.heap.get? b=some o->h'.get? b=some o)->Q (.ref (s.heap.objs.size+1)) { s with heap:=h' }):
  wpAny (model prog w) A (call (.type "enumerate") [k.val]) Q E s:=by
 cases k with
 |lst a=>exact call_enumerate_list h1 h
 |tup a=>exact aao h1 h
 |str x t=>exact call_enumerate_str h
end
structure OT where
 ms:List (String×String×String×Nat):=[]
 ks:List (String×Nat):=[]
 fl:List (String×String):=[]
structure CT where
 N:List Str
 kd:List (Str×NameKind)
 fn:Bool
 fs:List (String×Nat)
 bt:List String
 cn:List (String×D)
 xs:List (String×Bool):=[]
 ot:OT:={}
def gZ:Option NameKind->Bool
 |some .local=>true
 |some .cell=>true
 |some .free=>true
 |_=>false
def CT.sto(c:CT)(x:Str):Bool:=c.kd.lookup x==some .local||(c.fn&&c.kd.lookup x==some .cell)
def okN (x:Str):Bool:=!(x==("__debug__":Str))&&!(x==("__classdict__":Str))&&!(x==("__name__":Str))
def CT.glo(c:CT)(x:Str):Bool:=c.kd.lookup x==some .globalImplicit&&okN x
noncomputable def sEq:D->D->Bool
 |.non,.non=>true
 |.bl a,.bl b=>a==b
 |.int a,.int b=>a==b
 |.str a,.str b=>a==b
 |_,_=>false
theorem aaq{a b:D}(h:sEq a b=true):a=b:=by cases a <;> cases b <;> simp_all [sEq]
noncomputable def tR(d:D)(k:Const):Bool:=
 match d,k with
 |.non,.none=>true
 |.bl a,.bool b=>a==b
 |.int a,.int b=>a==b
 |.str a,.str b=>a==b.cps.toList&&decide (a.length<=sz)
 |_,_=>false
noncomputable def Bf.name:Bf->String
 |.len=>"len"
 |.all=>"all"
 |.int=>"int"
 |.tuple=>"tuple"
 |.sum=>"sum"
 |.min=>"min"
 |.max=>"max"
 |.abs=>"abs"
 |.min2=>"min"
 |.str=>"str"
def xW:Bf->Bool
 |.sum=>false
 |.min=>true
 |.max=>false
 |.abs=>true
 |.min2=>true
 |.str=>true
 |_=>true
def xX:Lf->Bool
 |.sorted=>false
 |_=>true
def Lf.name:Lf->String
 |.list=>"list"
 |.sorted=>"sorted"
noncomputable def Mf.name:Mf->String
 |.join=>"join"
 |.append=>"append"
 |.extend=>"extend"
 |.insert=>"insert"
 |.pop=>"pop"
 |.count=>"count"
 |.index=>"index"
def g8:Expr->Bool
 |.Call (.Name _ _) [] [] _=>true
 |_=>false
def cN:Expr->Bool
 |.ListComp ..=>true
 |.SetComp ..=>true
 |.DictComp ..=>true
 |_=>false
noncomputable def ie:Expr->Bool
 |.UnaryOp .Not _ _=>false
 |.BoolOp ..=>false
 |.IfExp ..=>false
 |.Compare ..=>false
 |_=>true
noncomputable def gw(N:List Str)(scope:Scope):List Str->List (Option Nat)->Bool
 |[],[]=>true
 |_::N',none::cap=>gw N scope N' cap
 |x::N',some j::cap=>(N[j]?==some x)&&(scope.names.lookup x==some NameKind.free)&&gw N scope N' cap
 |_,_=>false
noncomputable def jn(c:CT)(scope:Scope):Bool:=
 scope.names.all (λy=>y.2 != NameKind.cell)&&scope.names.all (λy=>y.2 != NameKind.local||scope.names.lookup y.1==some NameKind.local) &&
 scope.names.all (λy=>y.2 != NameKind.free||(c.kd.lookup y.1==some NameKind.cell||c.kd.lookup y.1==some NameKind.free))&&decide (scope.kind=.function)&&decide (c.kd=c.kd)
def CT.comp(c:CT)(N:List Str)(scope:Scope):CT:={ N:=N,kd:=scope.names,fn:=false,fs:=c.fs,bt:=c.bt,cn:=c.cn }
def eX:List Str->Bool
 |[]=>true
 |x::r=>!r.contains x&&eX r
noncomputable def asName(e:Expr):Option { t:Str×Pos // e=.Name t.1 t.2 }:=match e with
 |.Name a0 a1=>some ⟨(a0,a1),rfl⟩
 |_=>none
noncomputable def tU(e:Expr):Option { t:Const×Nat×Pos // e=.Constant t.1 t.2.1 t.2.2 }:=match e with
 |.Constant a0 a1 a2=>some ⟨(a0,a1,a2),rfl⟩
 |_=>none
noncomputable def Fb(e:Expr):Option { t:Expr×Operator×Expr×Pos // e=.BinOp t.1 t.2.1 t.2.2.1 t.2.2.2 }:=match e with
 |.BinOp a0 a1 a2 a3=>some ⟨(a0,a1,a2,a3),rfl⟩
 |_=>none
noncomputable def jo(e:Expr):Option { t:UnaryOp×Expr×Pos // e=.UnaryOp t.1 t.2.1 t.2.2 }:=match e with
 |.UnaryOp a0 a1 a2=>some ⟨(a0,a1,a2),rfl⟩
 |_=>none
noncomputable def kj(e:Expr):Option { t:Expr×List CmpOp×List Expr×Pos // e=.Compare t.1 t.2.1 t.2.2.1 t.2.2.2 }:=match e with
 |.Compare a0 a1 a2 a3=>some ⟨(a0,a1,a2,a3),rfl⟩
 |_=>none
noncomputable def tV(e:Expr):Option { t:BoolOp×List Expr×Pos // e=.BoolOp t.1 t.2.1 t.2.2 }:=match e with
 |.BoolOp a0 a1 a2=>some ⟨(a0,a1,a2),rfl⟩
 |_=>none
noncomputable def Fd(e:Expr):Option { t:Expr×Expr×Expr×Pos // e=.IfExp t.1 t.2.1 t.2.2.1 t.2.2.2 }:=match e with
 |.IfExp a0 a1 a2 a3=>some ⟨(a0,a1,a2,a3),rfl⟩
 |_=>none
noncomputable def gA(e:Expr):Option { t:List Expr×Nat×Pos // e=.Tuple t.1 t.2.1 t.2.2 }:=match e with
 |.Tuple a0 a1 a2=>some ⟨(a0,a1,a2),rfl⟩
 |_=>none
noncomputable def asList(e:Expr):Option { t:List Expr×Pos // e=.List t.1 t.2 }:=match e with
 |.List a0 a1=>some ⟨(a0,a1),rfl⟩
 |_=>none
noncomputable def jq(e:Expr):Option { t:Expr×Expr×Pos // e=.Subscript t.1 t.2.1 t.2.2 }:=match e with
 |.Subscript a0 a1 a2=>some ⟨(a0,a1,a2),rfl⟩
 |_=>none
noncomputable def Fe(e:Expr):Option { t:Option Expr×Option Expr×Option Expr×Pos // e=.Slice t.1 t.2.1 t.2.2.1 t.2.2.2 }:=match e with
 |.Slice a0 a1 a2 a3=>some ⟨(a0,a1,a2,a3),rfl⟩
 |_=>none
noncomputable def km(e:Expr):Option { t:Expr×List Expr×List Keyword×Pos // e=.Call t.1 t.2.1 t.2.2.1 t.2.2.2 }:=match e with
 |.Call a0 a1 a2 a3=>some ⟨(a0,a1,a2,a3),rfl⟩
 |_=>none
noncomputable def ig(e:Expr):Option { t:Expr×Str×Pos // e=.Attribute t.1 t.2.1 t.2.2 }:=match e with
 |.Attribute a0 a1 a2=>some ⟨(a0,a1,a2),rfl⟩
 |_=>none
noncomputable def Ff(e:Expr):Option { t:Expr×List Comprehension×Scope×Pos // e=.ListComp t.1 t.2.1 t.2.2.1 t.2.2.2 }:=match e with
 |.ListComp a0 a1 a2 a3=>some ⟨(a0,a1,a2,a3),rfl⟩
 |_=>none
noncomputable def xY(e:Stmt):Option { t:Expr×Pos // e=.Expr t.1 t.2 }:=match e with
 |.Expr a0 a1=>some ⟨(a0,a1),rfl⟩
 |_=>none
noncomputable def jr(e:Stmt):Option { t:List Expr×Expr×Pos // e=.Assign t.1 t.2.1 t.2.2 }:=match e with
 |.Assign a0 a1 a2=>some ⟨(a0,a1,a2),rfl⟩
 |_=>none
noncomputable def Fg(e:Stmt):Option { t:Expr×Operator×Expr×Pos // e=.AugAssign t.1 t.2.1 t.2.2.1 t.2.2.2 }:=match e with
 |.AugAssign a0 a1 a2 a3=>some ⟨(a0,a1,a2,a3),rfl⟩
 |_=>none
noncomputable def Fi(e:Stmt):Option { t:Option Expr×Option Expr×Pos // e=.Raise t.1 t.2.1 t.2.2 }:=match e with
 |.Raise a0 a1 a2=>some ⟨(a0,a1,a2),rfl⟩
 |_=>none
noncomputable def aif(e:Stmt):Option { t:List Stmt×List ExceptHandler×List Stmt×List Stmt×Pos // e=.Try t.1 t.2.1 t.2.2.1 t.2.2.2.1 t.2.2.2.2 }:=match e with
 |.Try a0 a1 a2 a3 a4=>some ⟨(a0,a1,a2,a3,a4),rfl⟩
 |_=>none
noncomputable def aig(e:ExceptHandler):Option { t:Option Expr×Option Str×List Stmt×Pos // e=.ExceptHandler t.1 t.2.1 t.2.2.1 t.2.2.2 }:=match e with
 |.ExceptHandler a0 a1 a2 a3=>some ⟨(a0,a1,a2,a3),rfl⟩
noncomputable def xZ(e:Expr):Option { t:Expr×Int×Option Expr×Pos // e=.FormattedValue t.1 t.2.1 t.2.2.1 t.2.2.2 }:=match e with
 |.FormattedValue a0 a1 a2 a3=>some ⟨(a0,a1,a2,a3),rfl⟩
 |_=>none
noncomputable def aar(e:Expr):Option { t:List Expr×Pos // e=.JoinedStr t.1 t.2 }:=match e with
 |.JoinedStr a0 a1=>some ⟨(a0,a1),rfl⟩
 |_=>none
def aas(k:Const):Option { x:Str // k=.str x }:=match k with
 |.str x=>some ⟨x,rfl⟩
 |_=>none
def aih(b:Bool)(k:Const):Bool:=match k with
 |.bool c=>c==b
 |_=>false
noncomputable def tW(e:Stmt):Option { t:Option Expr×Pos // e=.Return t.1 t.2 }:=match e with
 |.Return a0 a1=>some ⟨(a0,a1),rfl⟩
 |_=>none
noncomputable def yc(e:Stmt):Option { t:Expr×List Stmt×List Stmt×Pos // e=.If t.1 t.2.1 t.2.2.1 t.2.2.2 }:=match e with
 |.If a0 a1 a2 a3=>some ⟨(a0,a1,a2,a3),rfl⟩
 |_=>none
noncomputable def Fj(e:Stmt):Option { t:Expr×Expr×List Stmt×List Stmt×Pos // e=.For t.1 t.2.1 t.2.2.1 t.2.2.2.1 t.2.2.2.2 }:=match e with
 |.For a0 a1 a2 a3 a4=>some ⟨(a0,a1,a2,a3,a4),rfl⟩
 |_=>none
noncomputable def aii(e:Stmt):Option { t:Expr×List Stmt×List Stmt×Pos // e=.While t.1 t.2.1 t.2.2.1 t.2.2.2 }:=match e with
 |.While a0 a1 a2 a3=>some ⟨(a0,a1,a2,a3),rfl⟩
 |_=>none
def Fl(e:Stmt):Option { t:Pos // e=.Pass t }:=match e with
 |.Pass a0=>some ⟨a0,rfl⟩
 |_=>none
def Fp(e:Stmt):Option { t:Pos // e=.Break t }:=match e with
 |.Break a0=>some ⟨a0,rfl⟩
 |_=>none
def Fq(e:Stmt):Option { t:Pos // e=.Continue t }:=match e with
 |.Continue a0=>some ⟨a0,rfl⟩
 |_=>none
def one{α:Type}:List α->Option α
 |[a]=>some a
 |_=>none
def three{α:Type}:List α->Option (α×α×α)
 |[x,y,z]=>some (x,y,z)
 |_=>none
theorem aij{α:Type}{l:List α}{v:α×α×α}(h:three l=some v):l=[v.1,v.2.1,v.2.2]:=by
 unfold three at h;split at h
 ·cases h;rfl
 ·cases h
def two{α:Type}:List α->Option (α×α)
 |[a,b]=>some (a,b)
 |_=>none
def hdT{α:Type}:List α->Option (α×List α)
 |a::r=>some (a,r)
 |[]=>none
theorem eY{α:Type}{l:List α}{a:α}(h:one l=some a):l=[a]:=by
 cases l with
 |nil=>cases h
 |cons x r=>cases r with
  |nil=>cases h;rfl
  |cons _ _=>cases h
theorem kE{α:Type}{l:List α}{a:α×α}(h:two l=some a):l=[a.1,a.2]:=by
 cases l with
 |nil=>cases h
 |cons x r=>cases r with
  |nil=>cases h
  |cons y r=>cases r with
   |nil=>cases h;rfl
   |cons _ _=>cases h
theorem Ft{α:Type}{l:List α}{a:α×List α}(h:hdT l=some a):l=a.1::a.2:=by
 cases l with
 |nil=>cases h
 |cons x r=>cases h;rfl
theorem aZ{α:Type}{o:Option α}{p:α->Bool}(h:o.any p=true):∃t,o=some t/\p t=true:=by
 cases o with
 |none=>cases h
 |some t=>exact ⟨t,rfl,h⟩
def yd:UnaryOp->Bool
 |.USub=>true
 |_=>false
def kI:UnaryOp->Bool
 |.Not=>true
 |_=>false
theorem aat{o:UnaryOp}(h:yd o=true):o=.USub:=by cases o <;> first |rfl |cases h
theorem Fv{o:UnaryOp}(h:kI o=true):o=.Not:=by cases o <;> first |rfl |cases h
noncomputable def bK(e:Expr):Option (Str×Pos×List Expr×Pos):=(km e).bind λt=>(asName t.1.1).bind λn=>match t.1.2.2.1 with |[]=>some (n.1.1,n.1.2,t.1.2.1,t.1.2.2.2) |_::_=>none
noncomputable def az{α:Type}{q:α->Prop}(o:Option { t:α // q t })(P:α->Bool):Bool:=match o with |some t=>P t.1 |none=>false
theorem aL{α:Type}{q:α->Prop}{o:Option { t:α // q t }}{P:α->Bool}(h:az o P=true):∃t,q t/\P t=true:=by
 cases o with
 |none=>cases h
 |some t=>exact ⟨t.1,t.2,h⟩
theorem Fw{α β:Type}{o:Option α}{f:α->Option β}{b:β}(h:o.bind f=some b):∃t,o=some t/\f t=some b:=by
 cases o with
 |none=>cases h
 |some t=>exact ⟨t,rfl,h⟩
theorem fO{e:Expr}{t:Str×Pos×List Expr×Pos}(h:bK e=some t):e=.Call (.Name t.1 t.2.1) t.2.2.1 [] t.2.2.2:=by
 obtain ⟨⟨⟨f,as,ks,p⟩,hu⟩,_,h⟩:=Fw h;obtain ⟨⟨⟨x,p'⟩,hn⟩,_,h⟩:=Fw h;dsimp only at h hn hu;cases ks with
 |nil=>cases h;rw[hu,hn]
 |cons _ _=>cases h
def kJ(e:Expr):Bool:=(kj e).isSome
def Fx:Ex->Bool
 |.frz _=>false
 |_=>true
def ye:Tx->Bool
 |.yes=>true
 |_=>false
mutual
noncomputable def cI(c:CT):Tg->Expr->Bool
 |.nm i,e=>az (asName e) λt=>(c.N[i]?==some t.1)&&c.sto t.1
 |.tp ts,e=>az (gA e) λt=>cz c ts t.1
noncomputable def cz(c:CT):Tgs->List Expr->Bool
 |.nil,es=>es.isEmpty
 |.cons t r,es=>match es with
  |e::es=>cI c t e&&cz c r es
  |[]=>false
end
def yf(e:Expr):Bool:=az (tU e) λt=>az (aas t.1) λx=>decide (x.length<=1000)
def unF(e:Expr):Expr:=match xZ e with |some t=>t.1.1 |none=>e
def aau:Ex->Bool
 |.cst (.str _)=>true
 |_=>false
noncomputable def aav:Exs->List Expr->Bool
 |.cons x xs,p::ps=>(match xZ p with |some t=>decide (t.1.2.1=-1)&&t.1.2.2.1.isNone |none=>aau x)&&aav xs ps
 |.nil,ps=>ps.isEmpty
 |_,[]=>false
mutual
noncomputable def aj(c:CT):Ex->Expr->Bool
 |.var i,e=>az (asName e) λt=>(c.N[i]?==some t.1)&&gZ (c.kd.lookup t.1)&&okN t.1
 |.cst d,e=>az (tU e) λt=>tR d t.1
 |.glb x d,e=>az (asName e) λt=>t.1==Str.ofString x&&c.glo t.1&&c.cn.any (λp=>p.1==x&&sEq p.2 d)
 |.bin op _ a b,e=>az (Fb e) λt=>t.2.1==op&&aj c a t.1&&aj c b t.2.2.1
 |.neg a,e=>az (jo e) λt=>yd t.1&&aj c a t.2.1
 |.cmp op a b,e=>az (kj e) λt=>(one t.2.1).any λo=>(one t.2.2.1).any λr=>o==op&&aj c a t.1&&aj c b r
 |.chn op op' a b d,e=>az (kj e) λt=>(two t.2.1).any λo=>(two t.2.2.1).any λr=>o.1==op&&o.2==op'&&aj c a t.1&&aj c b r.1&&aj c d r.2
 |.not a,e=>az (jo e) λt=>kI t.1&&aj c a t.2.1
 |.boo isAnd x es,e=>az (tV e) λt=>(hdT t.2.1).any λv=>t.1==(if isAnd then .And else .Or)&&aj c x v.1&&aK c es v.2
 |.ife t a b,e=>az (Fd e) λu=>bG c t u.1&&aj c a u.2.1&&aj c b u.2.2.1
 |.tup es,e=>az (gA e) λt=>aK c es t.1
 |.lst _ es,e=>az (asList e) λt=>aK c es t.1
 |.idx a i,e=>az (jq e) λt=>aj c a t.1&&aj c i t.2.1
 |.slc _ a lo hi,e=>az (jq e) λt=>az (Fe t.2.1) λs=>s.2.2.1.isNone&&(aj c a t.1&&fP c lo s.1&&fP c hi s.2.1)
 |.rvs _ _ _,_=>false
 |.call f es,e=>(bK e).any λt=>t.1==Str.ofString f&&c.glo t.1&&(c.fs.any λp=>p.1==f&&p.2==t.2.2.1.length)&&!t.2.2.1.isEmpty&&aK c es t.2.2.1
 |.bcl f es,e=>(bK e).any λt=>t.1==Str.ofString f.name&&xW f&&c.glo t.1&&c.bt.contains f.name&&!t.2.2.1.isEmpty&&aK c es t.2.2.1
 |.lcl _ f es,e=>(bK e).any λt=>t.1==Str.ofString f.name&&xX f&&c.glo t.1&&c.bt.contains f.name&&!t.2.2.1.isEmpty&&aK c es t.2.2.1
 |.isi a t,e=>(bK e).any λu=>(two u.2.2.1).any λv=>az (asName v.2) λy=>u.1==Str.ofString "isinstance"&&c.glo u.1&&c.bt.contains "isinstance"&&aj c a v.1&&y.1==Str.ofString t&&c.glo y.1&&c.bt.contains t&&fG t
 |.isx _ _ _,_=>false
 |.fst _,_=>false
 |.rgl _ _,_=>false
 |.rgt _,_=>false
 |.rpl _ _ _ _,_=>false
 |.fld C f o,e=>az (ig e) λv=>v.2.1==Str.ofString f&&!g8 v.1&&c.ot.fl.contains (C,f)&&aj c o v.1
 |.mcl f C m o es,e=>az (km e) λt=>az (ig t.1) λv=>az (asName v.1) λy=>t.2.2.1.isEmpty&&(v.2.1==Str.ofString m&&(v.2.2.endLine==t.2.2.2.line)&&decide (t.2.1.length < 29)&&c.ot.ms.contains (f,C,m,t.2.1.length+1)&&aj c o (.Name y.1 y.2)&&aK c es t.2.1)
 |.mko C es,e=>(bK e).any λt=>t.1==Str.ofString C&&c.glo t.1&&c.ot.ks.contains (C,t.2.2.1.length)&&!t.2.2.1.isEmpty&&aK c es t.2.2.1
 |.pp0 _,_=>false
 |.mth m o es,e=>az (km e) λt=>az (ig t.1) λv=>t.2.2.1.isEmpty&&(v.2.1==Str.ofString m.name&&aj c o v.1&&!g8 v.1&&(v.2.2.endLine==t.2.2.2.line)&&decide (t.2.1.length < 29)&&!t.2.1.isEmpty&&aK c es t.2.1)
 |.comp _ elt tg it cond N cap,e=>az (Ff e) λt=>(one t.2.1).any λg=>decide (g.is_async=0)&&bV c it g.target g.iter&&gw c.N t.2.2.1 (N.map Str.ofString) cap&&jn c t.2.2.1&&eX (N.map Str.ofString) &&
    cI (c.comp (N.map Str.ofString) t.2.2.1) tg g.target&&((ye cond&&g.ifs.isEmpty)||(one g.ifs).any λf=>bG (c.comp (N.map Str.ofString) t.2.2.1) cond f)&&aj (c.comp (N.map Str.ofString) t.2.2.1) elt t.1
 |.frz a,e=>aj c a e
noncomputable def bG(c:CT):Tx->Expr->Bool
 |.val x,e=>(ie e||kJ e)&&aj c x e&&Fx x
 |.not t,e=>az (jo e) λu=>kI u.1&&bG c t u.2.1
 |.boo isAnd t ts,e=>az (tV e) λu=>(hdT u.2.1).any λv=>u.1==(if isAnd then .And else .Or)&&bG c t v.1&&ik c ts v.2
 |.yes,_=>false
noncomputable def ik(c:CT):Txs->List Expr->Bool
 |.nil,es=>es.isEmpty
 |.cons t r,es=>match es with
  |e::es=>bG c t e&&ik c r es
  |[]=>false
noncomputable def aK(c:CT):Exs->List Expr->Bool
 |.nil,es=>es.isEmpty
 |.cons t r,es=>match es with
  |e::es=>aj c t e&&aK c r es
  |[]=>false
noncomputable def fP(c:CT):Ox->Option Expr->Bool
 |.no,e=>e.isNone
 |.ob x,e=>match e with
  |some e=>aj c x e
  |none=>false
noncomputable def bV(c:CT):It'->Expr->Expr->Bool
 |.seq x,_,e=>aj c x e
 |.rng a,_,e=>(bK e).any λt=>(one t.2.2.1).any λv=>t.1==Str.ofString "range"&&c.glo t.1&&c.bt.contains "range"&&aj c a v
 |.rng2 _ _,_,_=>false
 |.rev _,_,_=>false
 |.dwn _ _ _,_,_=>false
 |.enm a,tg,e=>az (gA tg) λ_=>(bK e).any λt=>(one t.2.2.1).any λv=>t.1==Str.ofString "enumerate"&&c.glo t.1&&c.bt.contains "enumerate"&&aj c a v
 |.zip a b,tg,e=>az (gA tg) λ_=>(bK e).any λt=>(two t.2.2.1).any λv=>t.1==Str.ofString "zip"&&c.glo t.1&&c.bt.contains "zip"&&aj c a v.1&&aj c b v.2
end
def kO(c:CT)(cond:Tx)(ifs:List Expr):Bool:=(ye cond&&ifs.isEmpty)||(one ifs).any λf=>bG c cond f
def Fy:Ex->Bool
 |.comp ..=>true
 |_=>false
def FJ:Expr->Bool
 |.Tuple ..=>true
 |_=>false
def yg(g:Tg)(x:Ex)(e:Expr):Bool:=match g with |.nm _=>!cN e||Fy x |.tp _=>!FJ e&&!cN e
noncomputable def kW(c:CT):Exs->List Expr->Bool
 |es,[]=>(match es with |.nil=>true |_=>false)
 |es,p::ps=>match yf p with
  |true=>kW c es ps
  |false=>(match es with |.cons x r=>(az (xZ p) λt=>decide (t.2.1=-1)&&t.2.2.1.isNone&&aj c x t.1)&&kW c r ps |.nil=>false)
noncomputable def tX(c:CT)(es:Exs)(e:Expr):Bool:=(match es with |.nil=>yf e |_=>false)||az (aar e) λt=>decide (2<=t.1.length)&&decide (t.1.length<=50)&&kW c es t.1
noncomputable def FN(c:CT):Tb->List Stmt->Bool
 |.call f es,sts=>(one sts).any λs0=>az (xY s0) λe0=>(bK e0.1).any λu=>(u.1==Str.ofString f&&c.glo u.1&&(c.fs.any λp=>p.1==f&&p.2==u.2.2.1.length)&&!u.2.2.1.isEmpty&&aK c es u.2.2.1)
 |.pick _ _ _ _,_=>false
 |.asg i f es,sts=>(one sts).any λs0=>az (jr s0) λa=>(one a.1).any λtg=>az (asName tg) λy=>(bK a.2.1).any λu=>(c.N[i]?==some y.1&&c.sto y.1&&okN y.1)&&(u.1==Str.ofString f&&c.glo u.1&&(c.fs.any λp=>p.1==f&&p.2==u.2.2.1.length)&&!u.2.2.1.isEmpty&&aK c es u.2.2.1)
 |.ite t a b,sts=>(one sts).any λs0=>az (yc s0) λu=>bG c t u.1&&FN c a u.2.1&&FN c b u.2.2.1
def aaw(b:Bool):Const->Bool
 |.bool x=>x==b
 |_=>false
noncomputable def aik(c:CT)(h:Hd)(nm:Option Str)(y:Str)(e:Expr):Bool:=(match h with
 |.flag i b=>nm.isNone&&(c.N[i]?==some y)&&az (tU e) λk=>aaw b k.1
 |.bind n i=>nm.any λx=>(c.N[i]?==some y)&&(c.N[n]?==some x)&&(c.kd.lookup x==some .local)&&okN x&&az (asName e) λz=>z.1==x)&&c.sto y&&okN y
mutual
noncomputable def aX(c:CT):Sx->Stmt->Bool
 |.exp x,st=>az (xY st) λt=>!cN t.1&&aj c x t.1
 |.asg g x,st=>az (jr st) λt=>(one t.1).any λtg=>cI c g tg&&aj c x t.2.1&&yg g x t.2.1
 |.set o i x,st=>az (jr st) λt=>(one t.1).any λtg=>az (jq tg) λu=>aj c o u.1&&aj c i u.2.1&&aj c x t.2.1&&!cN t.2.1
 |.aug i op x,st=>az (Fg st) λt=>az (asName t.1) λy=>t.2.1==op&&(c.N[i]?==some y.1)&&c.sto y.1&&okN y.1&&aj c x t.2.2.1
 |.augs _ _ _ _,_=>false
 |.ret x,st=>az (tW st) λt=>t.1.any λe=>aj c x e
 |.rtn,st=>az (tW st) λt=>t.1.isNone
 |.ite t a b,st=>az (yc st) λu=>bG c t u.1&&aC c a u.2.1&&aC c b u.2.2.1
 |.for_ g it b,st=>az (Fj st) λt=>t.2.2.2.1.isEmpty&&(cI c g t.1&&bV c it t.1 t.2.1&&aC c b t.2.2.1)
 |.whl _ _,_=>false
 |.pas,st=>(Fl st).isSome
 |.brk,st=>(Fp st).isSome
 |.cnt,st=>(Fq st).isSome
 |.nev,_=>true
 |.rse C es,st=>az (Fi st) λt=>t.2.1.isNone&&t.1.any λe=>(bK e).any λu=>u.1==Str.ofString C&&c.glo u.1&&c.xs.contains (C,true)&&(one u.2.2.1).any λm=>tX c es m
 |.tryc _ _ _ _ _,_=>false
 |.tryx _ _ _ _,_=>false
noncomputable def aC(c:CT):Sxs->List Stmt->Bool
 |.nil,es=>es.isEmpty
 |.cons t r,es=>match es with
  |e::es=>aX c t e&&aC c r es
  |[]=>false
end
theorem yh{c:CT}{i:Nat}{e:Expr}(h:cI c (.nm i) e=true):∃x p,e=.Name x p/\((c.N[i]?==some x)&&c.sto x)=true:=by have h:(az (asName e) λt=>(c.N[i]?==some t.1)&&c.sto t.1)=true:=h;obtain ⟨t,ht,h⟩:=aL h;exact ⟨_,_,ht,h⟩
theorem yj{c:CT}{ts:Tgs}{e:Expr}(h:cI c (.tp ts) e=true):∃es k p,e=.Tuple es k p/\(cz c ts es)=true:=by have h:(az (gA e) λt=>cz c ts t.1)=true:=h;obtain ⟨t,ht,h⟩:=aL h;exact ⟨_,_,_,ht,h⟩
theorem FP{c:CT}{i:Nat}{e:Expr}(h:aj c (.var i) e=true):∃x p,e=.Name x p/\((c.N[i]?==some x)&&gZ (c.kd.lookup x)&&okN x)=true:=by have h:(az (asName e) λt=>(c.N[i]?==some t.1)&&gZ (c.kd.lookup t.1)&&okN t.1)=true:=h;obtain ⟨t,ht,h⟩:=aL h;exact ⟨_,_,ht,h⟩
theorem FQ{c:CT}{d:D}{e:Expr}(h:aj c (.cst d) e=true):∃k n p,e=.Constant k n p/\(tR d k)=true:=by have h:(az (tU e) λt=>tR d t.1)=true:=h;obtain ⟨t,ht,h⟩:=aL h;exact ⟨_,_,_,ht,h⟩
theorem FT{c:CT}{x:String}{d:D}{e:Expr}(h:aj c (.glb x d) e=true):∃y p,e=.Name y p/\(y==Str.ofString x&&c.glo y&&c.cn.any (λp=>p.1==x&&sEq p.2 d))=true:=by have h:(az (asName e) λt=>t.1==Str.ofString x&&c.glo t.1&&c.cn.any (λp=>p.1==x&&sEq p.2 d))=true:=h;obtain ⟨t,ht,h⟩:=aL h;exact ⟨_,_,ht,h⟩
theorem FW{c:CT}{op:Operator}{fz:Bool}{a b:Ex}{e:Expr}(h:aj c (.bin op fz a b) e=true):∃l o r p,e=.BinOp l o r p/\(o==op&&aj c a l&&aj c b r)=true:=by have h:(az (Fb e) λt=>t.2.1==op&&aj c a t.1&&aj c b t.2.2.1)=true:=h;obtain ⟨t,ht,h⟩:=aL h;exact ⟨_,_,_,_,ht,h⟩
theorem Ga{c:CT}{a:Ex}{e:Expr}(h:aj c (.neg a) e=true):∃x p,e=.UnaryOp .USub x p/\(aj c a x)=true:=by have h:(az (jo e) λt=>yd t.1&&aj c a t.2.1)=true:=h;obtain ⟨t,ht,h⟩:=aL h;rw[ae]at h;exact ⟨_,_,by rw[ht,aat h.1],h.2⟩
theorem Gb{c:CT}{a:Ex}{e:Expr}(h:aj c (.not a) e=true):∃x p,e=.UnaryOp .Not x p/\(aj c a x)=true:=by have h:(az (jo e) λt=>kI t.1&&aj c a t.2.1)=true:=h;obtain ⟨t,ht,h⟩:=aL h;rw[ae]at h;exact ⟨_,_,by rw[ht,Fv h.1],h.2⟩
theorem Gd{c:CT}{op:CmpOp}{a b:Ex}{e:Expr}(h:aj c (.cmp op a b) e=true):∃l o r p,e=.Compare l [o] [r] p/\(o==op&&aj c a l&&aj c b r)=true:=by have h:(az (kj e) λt=>(one t.2.1).any λo=>(one t.2.2.1).any λr=>o==op&&aj c a t.1&&aj c b r)=true:=h;obtain ⟨t,ht,h⟩:=aL h;obtain ⟨o,ho,h⟩:=aZ h;obtain ⟨r,hr,h⟩:=aZ h;exact ⟨_,_,_,_,by rw[ht,eY ho,eY hr],h⟩
theorem Ge{c:CT}{op op':CmpOp}{a b d:Ex}{e:Expr}(h:aj c (.chn op op' a b d) e=true):∃l o o' m r p,e=.Compare l [o,o'] [m,r] p/\(o==op&&o'==op'&&aj c a l&&aj c b m&&aj c d r)=true:=by have h:(az (kj e) λt=>(two t.2.1).any λo=>(two t.2.2.1).any λr=>o.1==op&&o.2==op'&&aj c a t.1&&aj c b r.1&&aj c d r.2)=true:=h;obtain ⟨t,ht,h⟩:=aL h;obtain ⟨o,ho,h⟩:=aZ h;obtain ⟨r,hr,h⟩:=aZ h;exact ⟨_,_,_,_,_,_,by rw[ht,kE ho,kE hr],h⟩
theorem Gf{c:CT}{isAnd:Bool}{x:Ex}{es:Exs}{e:Expr}(h:aj c (.boo isAnd x es) e=true):∃op v vs p,e=.BoolOp op (v::vs) p/\(op==(if isAnd then .And else .Or)&&aj c x v&&aK c es vs)=true:=by have h:(az (tV e) λt=>(hdT t.2.1).any λv=>t.1==(if isAnd then .And else .Or)&&aj c x v.1&&aK c es v.2)=true:=h;obtain ⟨t,ht,h⟩:=aL h;obtain ⟨v,hv,h⟩:=aZ h;exact ⟨_,_,_,_,by rw[ht,Ft hv],h⟩
theorem Gg{c:CT}{t:Tx}{a b:Ex}{e:Expr}(h:aj c (.ife t a b) e=true):∃t' a' b' p,e=.IfExp t' a' b' p/\(bG c t t'&&aj c a a'&&aj c b b')=true:=by have h:(az (Fd e) λu=>bG c t u.1&&aj c a u.2.1&&aj c b u.2.2.1)=true:=h;obtain ⟨u,ht,h⟩:=aL h;exact ⟨_,_,_,_,ht,h⟩
theorem Gi{c:CT}{es:Exs}{e:Expr}(h:aj c (.tup es) e=true):∃vs k p,e=.Tuple vs k p/\(aK c es vs)=true:=by have h:(az (gA e) λt=>aK c es t.1)=true:=h;obtain ⟨t,ht,h⟩:=aL h;exact ⟨_,_,_,ht,h⟩
theorem Gj{c:CT}{fz:Bool}{es:Exs}{e:Expr}(h:aj c (.lst fz es) e=true):∃vs p,e=.List vs p/\(aK c es vs)=true:=by have h:(az (asList e) λt=>aK c es t.1)=true:=h;obtain ⟨t,ht,h⟩:=aL h;exact ⟨_,_,ht,h⟩
theorem Gk{c:CT}{a i:Ex}{e:Expr}(h:aj c (.idx a i) e=true):∃v s p,e=.Subscript v s p/\(aj c a v&&aj c i s)=true:=by have h:(az (jq e) λt=>aj c a t.1&&aj c i t.2.1)=true:=h;obtain ⟨t,ht,h⟩:=aL h;exact ⟨_,_,_,ht,h⟩
theorem Gm{c:CT}{fz:Bool}{a:Ex}{lo hi:Ox}{e:Expr}(h:aj c (.slc fz a lo hi) e=true):∃v l u p' p,e=.Subscript v (.Slice l u none p') p/\(aj c a v&&fP c lo l&&fP c hi u)=true:=by have h:(az (jq e) λt=>az (Fe t.2.1) λs=>s.2.2.1.isNone&&(aj c a t.1&&fP c lo s.1&&fP c hi s.2.1))=true:=h;obtain ⟨t,ht,h⟩:=aL h;obtain ⟨s,hs,h⟩:=aL h;rw[ae,ff]at h;exact ⟨_,_,_,_,_,by rw[ht,hs,h.1],h.2⟩
theorem Gn{c:CT}{f:String}{es:Exs}{e:Expr}(h:aj c (.call f es) e=true):∃x p args pos,e=.Call (.Name x p) args [] pos/\(x==Str.ofString f&&c.glo x&&(c.fs.any λp=>p.1==f&&p.2==args.length)&&!args.isEmpty&&aK c es args)=true:=by have h:((bK e).any λt=>t.1==Str.ofString f&&c.glo t.1&&(c.fs.any λp=>p.1==f&&p.2==t.2.2.1.length)&&!t.2.2.1.isEmpty&&aK c es t.2.2.1)=true:=h;obtain ⟨t,ht,h⟩:=aZ h;exact ⟨_,_,_,_,fO ht,h⟩
theorem Gp{c:CT}{f:Bf}{es:Exs}{e:Expr}(h:aj c (.bcl f es) e=true):∃x p args pos,e=.Call (.Name x p) args [] pos/\(x==Str.ofString f.name&&xW f&&c.glo x&&c.bt.contains f.name&&!args.isEmpty&&aK c es args)=true:=by have h:((bK e).any λt=>t.1==Str.ofString f.name&&xW f&&c.glo t.1&&c.bt.contains f.name&&!t.2.2.1.isEmpty&&aK c es t.2.2.1)=true:=h;obtain ⟨t,ht,h⟩:=aZ h;exact ⟨_,_,_,_,fO ht,h⟩
theorem Gq{c:CT}{fz:Bool}{f:Lf}{es:Exs}{e:Expr}(h:aj c (.lcl fz f es) e=true):∃x p args pos,e=.Call (.Name x p) args [] pos/\(x==Str.ofString f.name&&xX f&&c.glo x&&c.bt.contains f.name&&!args.isEmpty&&aK c es args)=true:=by have h:((bK e).any λt=>t.1==Str.ofString f.name&&xX f&&c.glo t.1&&c.bt.contains f.name&&!t.2.2.1.isEmpty&&aK c es t.2.2.1)=true:=h;obtain ⟨t,ht,h⟩:=aZ h;exact ⟨_,_,_,_,fO ht,h⟩
theorem Gs {c:CT} {a:Ex} {t:String} {e:Expr} (h:aj c (.isi a t) e=true):∃x p v y p' pos,e=.Call (.Name x p) [v,.Name y p'] [] pos/\(x==Str.ofString "isinstance"&&c.glo x&&c.bt.contains "isinstance"&&aj c a v&&y==Str.ofString t&&c.glo y&&c.bt.contains t&&fG t)=true:=by have h:((bK e).any λu=>(two u.2.2.1).any λv=>az (asName v.2) λy=>u.1==Str.ofString "isinstance"&&c.glo u.1&&c.bt.contains "isinstance"&&aj c a v.1&&y.1==Str.ofString t&&c.glo y.1&&c.bt.contains t&&fG t)=true:=h;obtain ⟨u,hu,h⟩:=aZ h;obtain ⟨v,hv,h⟩:=aZ h;obtain ⟨y,hy,h⟩:=aL h;exact ⟨_,_,_,_,_,_,by rw[fO hu,kE hv,hy],h⟩
theorem Gu{c:CT}{C f:String}{o:Ex}{e:Expr}(h:aj c (.fld C f o) e=true):∃v n p,e=.Attribute v n p/\(n==Str.ofString f&&!g8 v&&c.ot.fl.contains (C,f)&&aj c o v)=true:=by have h:(az (ig e) λv=>v.2.1==Str.ofString f&&!g8 v.1&&c.ot.fl.contains (C,f)&&aj c o v.1)=true:=h;obtain ⟨v,hv,h⟩:=aL h;exact ⟨_,_,_,hv,h⟩
theorem Gv{c:CT}{f C m:String}{o:Ex}{es:Exs}{e:Expr}(h:aj c (.mcl f C m o es) e=true):∃y p n apos args cpos,e=.Call (.Attribute (.Name y p) n apos) args [] cpos/\(n==Str.ofString m&&(apos.endLine==cpos.line)&&decide (args.length < 29)&&c.ot.ms.contains (f,C,m,args.length+1)&&aj c o (.Name y p)&&aK c es args)=true:=by have h:(az (km e) λt=>az (ig t.1) λv=>az (asName v.1) λy=>t.2.2.1.isEmpty&&(v.2.1==Str.ofString m&&(v.2.2.endLine==t.2.2.2.line)&&decide (t.2.1.length < 29)&&c.ot.ms.contains (f,C,m,t.2.1.length+1)&&aj c o (.Name y.1 y.2)&&aK c es t.2.1))=true:=h;obtain ⟨t,ht,h⟩:=aL h;obtain ⟨v,hv,h⟩:=aL h;obtain ⟨y,hy,h⟩:=aL h;rw[ae,fF]at h;exact ⟨_,_,_,_,_,_,by rw[ht,hv,hy,h.1],h.2⟩
theorem Gw{c:CT}{C:String}{es:Exs}{e:Expr}(h:aj c (.mko C es) e=true):∃x p args pos,e=.Call (.Name x p) args [] pos/\(x==Str.ofString C&&c.glo x&&c.ot.ks.contains (C,args.length)&&!args.isEmpty&&aK c es args)=true:=by have h:((bK e).any λt=>t.1==Str.ofString C&&c.glo t.1&&c.ot.ks.contains (C,t.2.2.1.length)&&!t.2.2.1.isEmpty&&aK c es t.2.2.1)=true:=h;obtain ⟨t,ht,h⟩:=aZ h;exact ⟨_,_,_,_,fO ht,h⟩
theorem Gx{c:CT}{m:Mf}{o:Ex}{es:Exs}{e:Expr}(h:aj c (.mth m o es) e=true):∃v x apos args cpos,e=.Call (.Attribute v x apos) args [] cpos/\(x==Str.ofString m.name&&aj c o v&&!g8 v&&(apos.endLine==cpos.line)&&decide (args.length < 29)&&!args.isEmpty&&aK c es args)=true:=by have h:(az (km e) λt=>az (ig t.1) λv=>t.2.2.1.isEmpty&&(v.2.1==Str.ofString m.name&&aj c o v.1&&!g8 v.1&&(v.2.2.endLine==t.2.2.2.line)&&decide (t.2.1.length < 29)&&!t.2.1.isEmpty&&aK c es t.2.1))=true:=h;obtain ⟨t,ht,h⟩:=aL h;obtain ⟨v,hv,h⟩:=aL h;rw[ae,fF]at h;exact ⟨_,_,_,_,_,by rw[ht,hv,h.1],h.2⟩
theorem Gy{c:CT}{fz:Bool}{elt:Ex}{tg:Tg}{it:It'}{cond:Tx}{N:List String}{cap:List (Option Nat)}{e:Expr}(h:aj c (.comp fz elt tg it cond N cap) e=true):∃elt' tg' iter ifs as scope pos,e=.ListComp elt' [⟨tg',iter,ifs,as⟩] scope pos/\(decide (as=0)&&bV c it tg' iter&&gw c.N scope (N.map Str.ofString) cap&&jn c scope&&eX (N.map Str.ofString)&&cI (c.comp (N.map Str.ofString) scope) tg tg'&&kO (c.comp (N.map Str.ofString) scope) cond ifs&&aj (c.comp (N.map Str.ofString) scope) elt elt')=true:=by have h:(az (Ff e) λt=>(one t.2.1).any λg=>decide (g.is_async=0)&&bV c it g.target g.iter&&gw c.N t.2.2.1 (N.map Str.ofString) cap&&jn c t.2.2.1&&eX (N.map Str.ofString)&&cI (c.comp (N.map Str.ofString) t.2.2.1) tg g.target&&((ye cond&&g.ifs.isEmpty)||(one g.ifs).any λf=>bG (c.comp (N.map Str.ofString) t.2.2.1) cond f)&&aj (c.comp (N.map Str.ofString) t.2.2.1) elt t.1)=true:=h;obtain ⟨t,ht,h⟩:=aL h;obtain ⟨⟨tg',iter,ifs,as⟩,hg,h⟩:=aZ h;exact ⟨t.1,tg',iter,ifs,as,t.2.2.1,t.2.2.2,(ht).trans (by rw[eY hg]),h⟩
theorem aax{c:CT}{t:Tx}{e:Expr}(h:bG c (.not t) e=true):∃x p,e=.UnaryOp .Not x p/\(bG c t x)=true:=by have h:(az (jo e) λu=>kI u.1&&bG c t u.2.1)=true:=h;obtain ⟨u,ht,h⟩:=aL h;rw[ae]at h;exact ⟨_,_,by rw[ht,Fv h.1],h.2⟩
theorem aay{c:CT}{isAnd:Bool}{x:Tx}{es:Txs}{e:Expr}(h:bG c (.boo isAnd x es) e=true):∃op v vs p,e=.BoolOp op (v::vs) p/\(op==(if isAnd then .And else .Or)&&bG c x v&&ik c es vs)=true:=by have h:(az (tV e) λu=>(hdT u.2.1).any λv=>u.1==(if isAnd then .And else .Or)&&bG c x v.1&&ik c es v.2)=true:=h;obtain ⟨t,ht,h⟩:=aL h;obtain ⟨v,hv,h⟩:=aZ h;exact ⟨_,_,_,_,by rw[ht,Ft hv],h⟩
theorem Gz {c:CT} {a:Ex} {tg e:Expr} (h:bV c (.rng a) tg e=true):∃x p v pos,e=.Call (.Name x p) [v] [] pos/\(x==Str.ofString "range"&&c.glo x&&c.bt.contains "range"&&aj c a v)=true:=by have h:((bK e).any λt=>(one t.2.2.1).any λv=>t.1==Str.ofString "range"&&c.glo t.1&&c.bt.contains "range"&&aj c a v)=true:=h;obtain ⟨t,ht,h⟩:=aZ h;obtain ⟨v,hv,h⟩:=aZ h;exact ⟨_,_,_,_,by rw[fO ht,eY hv],h⟩
theorem GC {c:CT} {a:Ex} {tg e:Expr} (h:bV c (.enm a) tg e=true):∃ts k p0 x p v pos,tg=.Tuple ts k p0/\e=.Call (.Name x p) [v] [] pos/\(x==Str.ofString "enumerate"&&c.glo x&&c.bt.contains "enumerate"&&aj c a v)=true:=by have h:(az (gA tg) λ_=>(bK e).any λt=>(one t.2.2.1).any λv=>t.1==Str.ofString "enumerate"&&c.glo t.1&&c.bt.contains "enumerate"&&aj c a v)=true:=h;obtain ⟨g,hg,h⟩:=aL h;obtain ⟨t,ht,h⟩:=aZ h;obtain ⟨v,hv,h⟩:=aZ h;exact ⟨_,_,_,_,_,_,_,hg,by rw[fO ht,eY hv],h⟩
theorem GD {c:CT} {a b:Ex} {tg e:Expr} (h:bV c (.zip a b) tg e=true):∃ts k p0 x p v v' pos,tg=.Tuple ts k p0/\e=.Call (.Name x p) [v,v'] [] pos/\(x==Str.ofString "zip"&&c.glo x&&c.bt.contains "zip"&&aj c a v&&aj c b v')=true:=by have h:(az (gA tg) λ_=>(bK e).any λt=>(two t.2.2.1).any λv=>t.1==Str.ofString "zip"&&c.glo t.1&&c.bt.contains "zip"&&aj c a v.1&&aj c b v.2)=true:=h;obtain ⟨g,hg,h⟩:=aL h;obtain ⟨t,ht,h⟩:=aZ h;obtain ⟨v,hv,h⟩:=aZ h;exact ⟨_,_,_,_,_,_,_,_,hg,by rw[fO ht,kE hv],h⟩
theorem aaz{c:CT}{x:Ex}{st:Stmt}(h:aX c (.exp x) st=true):∃e pos,st=.Expr e pos/\(!cN e&&aj c x e)=true:=by have h:(az (xY st) λt=>!cN t.1&&aj c x t.1)=true:=h;obtain ⟨t,ht,h⟩:=aL h;exact ⟨_,_,ht,h⟩
theorem GF{c:CT}{g:Tg}{x:Ex}{st:Stmt}(h:aX c (.asg g x) st=true):∃tg e pos,st=.Assign [tg] e pos/\(cI c g tg&&aj c x e&&yg g x e)=true:=by have h:(az (jr st) λt=>(one t.1).any λtg=>cI c g tg&&aj c x t.2.1&&yg g x t.2.1)=true:=h;obtain ⟨t,ht,h⟩:=aL h;obtain ⟨g,hg,h⟩:=aZ h;exact ⟨_,_,_,by rw[ht,eY hg],h⟩
theorem aaA{c:CT}{o i x:Ex}{st:Stmt}(h:aX c (.set o i x) st=true):∃o' i' tpos e pos,st=.Assign [.Subscript o' i' tpos] e pos/\(aj c o o'&&aj c i i'&&aj c x e&&!cN e)=true:=by have h:(az (jr st) λt=>(one t.1).any λtg=>az (jq tg) λu=>aj c o u.1&&aj c i u.2.1&&aj c x t.2.1&&!cN t.2.1)=true:=h;obtain ⟨t,ht,h⟩:=aL h;obtain ⟨g,hg,h⟩:=aZ h;obtain ⟨u,hu,h⟩:=aL h;exact ⟨_,_,_,_,_,by rw[ht,eY hg,hu],h⟩
theorem aaB{c:CT}{i:Nat}{op:Operator}{x:Ex}{st:Stmt}(h:aX c (.aug i op x) st=true):∃y py o e pos,st=.AugAssign (.Name y py) o e pos/\(o==op&&(c.N[i]?==some y)&&c.sto y&&okN y&&aj c x e)=true:=by have h:(az (Fg st) λt=>az (asName t.1) λy=>t.2.1==op&&(c.N[i]?==some y.1)&&c.sto y.1&&okN y.1&&aj c x t.2.2.1)=true:=h;obtain ⟨t,ht,h⟩:=aL h;obtain ⟨u,hu,h⟩:=aL h;exact ⟨_,_,_,_,_,by rw[ht,hu],h⟩
theorem aaC{c:CT}{C:String}{es:Exs}{st:Stmt}(h:aX c (.rse C es) st=true):∃x np m cpos pos,st=.Raise (some (.Call (.Name x np) [m] [] cpos)) none pos/\(x==Str.ofString C&&c.glo x&&c.xs.contains (C,true)&&tX c es m)=true:=by have h:(az (Fi st) λt=>t.2.1.isNone&&t.1.any λe=>(bK e).any λu=>u.1==Str.ofString C&&c.glo u.1&&c.xs.contains (C,true)&&(one u.2.2.1).any λm=>tX c es m)=true:=h;obtain ⟨t,ht,h⟩:=aL h;rw[ae,ff]at h;obtain ⟨e,he,h2⟩:=aZ h.2;obtain ⟨u,hu,h3⟩:=aZ h2;rw[ae]at h3;obtain ⟨m,hm,h4⟩:=aZ h3.2;exact ⟨_,_,m,_,_,by rw[ht,h.1,he,fO hu,eY hm],by rw[ae];exact ⟨h3.1,h4⟩⟩
theorem aaD{c:CT}{x:Ex}{st:Stmt}(h:aX c (.ret x) st=true):∃e pos,st=.Return (some e) pos/\(aj c x e)=true:=by have h:(az (tW st) λt=>t.1.any λe=>aj c x e)=true:=h;obtain ⟨t,ht,h⟩:=aL h;obtain ⟨e,he,h⟩:=aZ h;exact ⟨_,_,by rw[ht,he],h⟩
theorem aaE{c:CT}{st:Stmt}(h:aX c .rtn st=true):∃pos,st=.Return none pos/\(true)=true:=by have h:(az (tW st) λt=>t.1.isNone)=true:=h;obtain ⟨t,ht,h⟩:=aL h;rw[ff]at h;exact ⟨_,by rw[ht,h],rfl⟩
theorem aaF{c:CT}{t:Tx}{a b:Sxs}{st:Stmt}(h:aX c (.ite t a b) st=true):∃t' a' b' pos,st=.If t' a' b' pos/\(bG c t t'&&aC c a a'&&aC c b b')=true:=by have h:(az (yc st) λu=>bG c t u.1&&aC c a u.2.1&&aC c b u.2.2.1)=true:=h;obtain ⟨u,ht,h⟩:=aL h;exact ⟨_,_,_,_,ht,h⟩
theorem aaG{c:CT}{g:Tg}{it:It'}{b:Sxs}{st:Stmt}(h:aX c (.for_ g it b) st=true):∃tg iter body pos,st=.For tg iter body [] pos/\(cI c g tg&&bV c it tg iter&&aC c b body)=true:=by have h:(az (Fj st) λt=>t.2.2.2.1.isEmpty&&(cI c g t.1&&bV c it t.1 t.2.1&&aC c b t.2.2.1))=true:=h;obtain ⟨t,ht,h⟩:=aL h;rw[ae,fF]at h;exact ⟨_,_,_,_,by rw[ht,h.1],h.2⟩
theorem aaH{c:CT}{st:Stmt}(h:aX c .pas st=true):∃pos,st=.Pass pos/\(true)=true:=by obtain ⟨⟨t,ht⟩,_⟩:=cp.mp (show (Fl st).isSome=true from h);exact ⟨t,ht,rfl⟩
theorem aaI{c:CT}{st:Stmt}(h:aX c .brk st=true):∃pos,st=.Break pos/\(true)=true:=by obtain ⟨⟨t,ht⟩,_⟩:=cp.mp (show (Fp st).isSome=true from h);exact ⟨t,ht,rfl⟩
theorem aaJ{c:CT}{st:Stmt}(h:aX c .cnt st=true):∃pos,st=.Continue pos/\(true)=true:=by obtain ⟨⟨t,ht⟩,_⟩:=cp.mp (show (Fq st).isSome=true from h);exact ⟨t,ht,rfl⟩
def kY:Expr->Bool
 |.Starred ..=>false
 |.Set ..=>false
 |.Slice ..=>false
 |_=>true
theorem bQ{c:CT}:∀(x:Ex){e:Expr},aj c x e=true->kY e=true
 |.frz a,e,h=>bQ a (show aj c a e=true from h)
 |.var _,e,h=>by obtain ⟨_,_,rfl,_⟩:=FP h;rfl
 |.cst _,e,h=>by obtain ⟨_,_,_,rfl,_⟩:=FQ h;rfl
 |.glb _ _,e,h=>by obtain ⟨_,_,rfl,_⟩:=FT h;rfl
 |.bin _ _ _ _,e,h=>by obtain ⟨_,_,_,_,rfl,_⟩:=FW h;rfl
 |.neg _,e,h=>by obtain ⟨_,_,rfl,_⟩:=Ga h;rfl
 |.cmp _ _ _,e,h=>by obtain ⟨_,_,_,_,rfl,_⟩:=Gd h;rfl
 |.chn _ _ _ _ _,e,h=>by obtain ⟨_,_,_,_,_,_,rfl,_⟩:=Ge h;rfl
 |.not _,e,h=>by obtain ⟨_,_,rfl,_⟩:=Gb h;rfl
 |.boo _ _ _,e,h=>by obtain ⟨_,_,_,_,rfl,_⟩:=Gf h;rfl
 |.ife _ _ _,e,h=>by obtain ⟨_,_,_,_,rfl,_⟩:=Gg h;rfl
 |.tup _,e,h=>by obtain ⟨_,_,_,rfl,_⟩:=Gi h;rfl
 |.lst _ _,e,h=>by obtain ⟨_,_,rfl,_⟩:=Gj h;rfl
 |.idx _ _,e,h=>by obtain ⟨_,_,_,rfl,_⟩:=Gk h;rfl
 |.slc _ _ _ _,e,h=>by obtain ⟨_,_,_,_,_,rfl,_⟩:=Gm h;rfl
 |.rvs _ _ _,_,h=>nomatch (show false=true from h)
 |.call _ _,e,h=>by obtain ⟨_,_,_,_,rfl,_⟩:=Gn h;rfl
 |.bcl _ _,e,h=>by obtain ⟨_,_,_,_,rfl,_⟩:=Gp h;rfl
 |.lcl _ _ _,e,h=>by obtain ⟨_,_,_,_,rfl,_⟩:=Gq h;rfl
 |.isi _ _,e,h=>by obtain ⟨_,_,_,_,_,_,rfl,_⟩:=Gs h;rfl
 |.rgl _ _,_,h=>nomatch (show false=true from h)
 |.rgt _,_,h=>nomatch (show false=true from h)
 |.fst _,_,h=>nomatch (show false=true from h)
 |.isx _ _ _,_,h=>nomatch (show false=true from h)
 |.rpl _ _ _ _,_,h=>nomatch (show false=true from h)
 |.fld _ _ _,e,h=>by obtain ⟨_,_,_,rfl,_⟩:=Gu h;rfl
 |.mcl _ _ _ _ _,e,h=>by obtain ⟨_,_,_,_,_,_,rfl,_⟩:=Gv h;rfl
 |.mko _ _,e,h=>by obtain ⟨_,_,_,_,rfl,_⟩:=Gw h;rfl
 |.pp0 _,_,h=>nomatch (show false=true from h)
 |.mth _ _ _,e,h=>by obtain ⟨_,_,_,_,_,rfl,_⟩:=Gx h;rfl
 |.comp _ _ _ _ _ _ _,e,h=>by obtain ⟨_,_,_,_,_,_,_,rfl,_⟩:=Gy h;rfl
theorem cW{e:Expr}(h:kY e=true):noStar e=true:=by cases e <;> first |rfl |exact nomatch (show false=true from h)
theorem GJ{e:Expr}(h:kY e=true)(op:CmpOp):behindInMarks op e=false:=by cases e <;> first |rfl |exact nomatch (show false=true from h)
theorem aaK{e:Expr}(h:kY e=true)(env:Env)(x:Value):foldedSetIterable e env x=pure x:=by cases e <;> first |rfl |exact nomatch (show false=true from h)
theorem aaL{e:Expr}(h:kY e=true):Ck e:=by intro o i;cases e <;> first |rfl |exact nomatch (show false=true from h)
theorem aaM{e:Expr}(h:ie e=true)(env:Env)(whole:Sem Value):isTrue e env whole=(do let v <-whole;standAt e.pos;holding [v] (truthy v)):=by
 cases e with
 |UnaryOp op x p=>cases op <;> first |rfl |exact nomatch (show false=true from h)
 |_=>first |rfl |exact nomatch (show false=true from h)
def XV(K:PySem.W.Frag)(H:Hp)(F:FZ)(x:Xn)(cv:Value)(od:Option Addr):Prop:=
 ∃C,cv=.ref C/\PySem.W.nsIn K mainGlobals (Str.ofString x.cls)=some (some (.ref C))/\
  match x.fld with
  |.non=>True
  |d=>∃a f v,od=some a/\H a=some (.xd [(f,v)])/\Rep K H F d v
def XR(K:PySem.W.Frag)(H:Hp)(F:FZ)(x:Xn)(EX:XK):Prop:=∀cv od,XV K H F x cv od->EX cv od H
def PX(K:PySem.W.Frag)(H:Hp)(F:FZ)(EX:XK):EK:=λx G'=>∀H' F',Ext H F H' F'->R K H' F' G'->XR K H' F' x EX
theorem el{α β γ:Type}{p q r s:α->β->γ->Prop}{C:Prop}(h:∃x y z,p x y z/\q x y z/\r x y z/\s x y z)(k:∀x y z,p x y z->q x y z->r x y z->s x y z->C):C:=by obtain ⟨x,y,z,h1,h2,h3,h4⟩:=h;exact k x y z h1 h2 h3 h4
def lift(K:PySem.W.Frag)(n:Nat)(S:RF.Spec):Sp:=λvs H Q EX=>vs.length=n/\∃F G ds,R K H F G/\Reps K H F ds vs/\S.t ds G (PV K H F Q) (PX K H F EX)
def CV(K:PySem.W.Frag)(mg:Str->Option Value)(C':String)(cv:V):Prop:=
 (∃a,cv=.ref a/\mg (Str.ofString C')=some (.ref a)/\Dw K a=true)\/(C'="ValueError"/\cv=.ty "ValueError"/\mg (Str.ofString C')=none)
def XI(K:PySem.W.Frag)(C C':String)(cv:V):Prop:=
 ∃c,PySem.W.nsIn K mainGlobals (Str.ofString C)=some (some (.ref c))/\Dv K c=true/\PySem.W.mroIn K c (valOf cv)=some (gm C C')/\(gm C C'=false->(Value.ref c==valOf cv)=false)
structure Bs where
 H:Hp
 F:FZ
def yl(K:PySem.W.Frag)(C f:String):Prop:=∃c,PySem.W.nsIn K mainGlobals (Str.ofString C)=some (some (.ref c))/\Cls K c/\NoAttr K c (Str.ofString f)
def MthOk(Φ:aa)(P:Program)(w:World)(K:PySem.W.Frag)(mg:Str->Option Value)(base:Heap)(CX:CXT)(k:Nat)(f C m:String)(n:Nat):Prop:=
 ∃c fa fd ps,PySem.W.nsIn K mainGlobals (Str.ofString C)=some (some (.ref c))/\Cls K c/\Meth K c (Str.ofString m) fa/\Binds K fd ps []/\FnOk P w K mg base CX k fa fd ps (lift K n (Φ f))
def MkoOk(Φ:aa)(P:Program)(w:World)(K:PySem.W.Frag)(mg:Str->Option Value)(base:Heap)(CX:CXT)(k:Nat)(C:String)(n:Nat):Prop:=
 ∃c fa fd ps sp j,j+1<=k/\mg (Str.ofString C)=some (.ref c)/\Mk K c fa/\Binds K fd ps []/\FnOk P w K mg base CX j fa fd ps sp/\
  ∀vs H Q E,lift K n (Φ C) vs H Q E->∀x dx,H x=none->H dx=none->dx≠x->sp (.ref x::vs) (upd (upd H dx (.own x)) x (.ins c dx [])) (λv H2=>v=.non/\Q (.ref x) H2) E
structure Stat(Φ:aa)(CX:CXT)(k:Nat)(c:CT)(E:EK)(B:Bs)(X:Cx):Prop where
 N:X.N=c.N
 nd:X.N.Nodup
 calm:X.calm=true
 own:PassesOwn (model X.prog X.w) X.A X.env X.xe
 kd:X.env.kindOf=λx=>X.env.scope.names.lookup x
 vis:∀x,gZ (c.kd.lookup x)=true->Vis X.env.scope x
 cel:∀x,(c.kd.lookup x=some .cell\/c.kd.lookup x=some .free)->(X.env.kindOf x=some .cell\/X.env.kindOf x=some .free)
 glo:∀x,c.kd.lookup x=some .globalImplicit->Gl X x
 sto:∀x,c.sto x=true->Loc X.env.scope x/\(X.fn x=true\/X.env.scope.names.lookup x=some .local)
 room:Room k X.A
 call:∀f n,(f,n)∈c.fs->∃fa fd ps,FnOk X.prog X.w X.K X.mg X.base CX k fa fd ps (lift X.K n (Φ f))/\PySem.W.keepIn X.K (.ref fa)=true/\Binds X.K fd ps []/\X.mg (Str.ofString f)=some (.ref fa)
 blt:∀f,f∈c.bt->X.mg (Str.ofString f)=none
 con:∀x d,(x,d)∈c.cn->∃u v,X.mg (Str.ofString x)=some u/\RelV v u/\∀H F,Rep X.K H F d v
 exc:∃EX,eO CX X EX/\Throws X EX/\∀x G' H' F',E x G'->Ext B.H B.F H' F'->R X.K H' F' G'->XR X.K H' F' x EX
 nox:∀(Y:Cx),eO CX Y λ_ _ _=>False
 xcl:∀C,c.xs.contains (C,true)=true->∃a,X.mg (Str.ofString C)=some (.ref a)/\gM X.K a=true/\PySem.W.nsIn X.K mainGlobals (Str.ofString C)=some (some (.ref a))
 loc:∀x,c.kd.lookup x=some .local->X.env.scope.names.lookup x=some .local
 xis:∀C',c.xs.contains (C',false)=true->∃cv,CV X.K X.mg C' cv/\∀C,c.xs.contains (C,true)=true->XI X.K C C' cv
 mth:∀f C m n,(f,C,m,n)∈c.ot.ms->MthOk Φ X.prog X.w X.K X.mg X.base CX k f C m n
 mko:∀C n,(C,n)∈c.ot.ks->MkoOk Φ X.prog X.w X.K X.mg X.base CX k C n
 fld:∀C f,(C,f)∈c.ot.fl->yl X.K C f
 trc:c.xs≠[]->CX=CX1 X.prog X.w/\X.stack=X.env::X.outer/\X.ex=[]
def tE(K:PySem.W.Frag)(B:Bs)(w:ak->DH->(D->DH->Prop)->Prop):TE:=λσ H Q=>∃ρ F G,Ext B.H B.F H F/\EnvR K H F ρ σ/\R K H F G/\w ρ G (PV K H F Q)
def tB'(K:PySem.W.Frag)(B:Bs)(w:ak->DH->(Bool->DH->Prop)->Prop):TT:=λσ H Q=>∃ρ F G,Ext B.H B.F H F/\EnvR K H F ρ σ/\R K H F G/\w ρ G (PB K H F Q)
def tL(K:PySem.W.Frag)(B:Bs)(w:ak->DH->(List D->DH->Prop)->Prop):TA:=λσ H Q=>∃ρ F G,Ext B.H B.F H F/\EnvR K H F ρ σ/\R K H F G/\w ρ G (PLs K H F Q)
noncomputable def POp(K:PySem.W.Frag)(H:Hp)(F:FZ)(Q:Option Int->Hp->Prop):Option Int->DH->Prop:=λb G'=>∀H' F',Ext H F H' F'->R K H' F' G'->Q b H'
def GK(K:PySem.W.Frag)(B:Bs)(w:ak->DH->(Option Int->DH->Prop)->Prop):TO:=λσ H Q=>∃ρ F G,Ext B.H B.F H F/\EnvR K H F ρ σ/\R K H F G/\w ρ G (POp K H F Q)
theorem peI{X:Cx}{e:Expr}{t t':TE}(h:PE X e t)(i:∀σ H Q,t' σ H Q->t σ H Q):PE X e t':=λpins s σ H Q I q=>h pins s σ H Q I (i σ H Q q)
theorem ptI{X:Cx}{e:Expr}{t t':TT}(h:PT X e t)(i:∀σ H Q,t' σ H Q->t σ H Q):PT X e t':=λpins s σ H Q I q=>h pins s σ H Q I (i σ H Q q)
theorem pwI{X:Cx}{e:Expr}{t t':TT}(h:PW X e t)(i:∀σ H Q,t' σ H Q->t σ H Q):PW X e t':=λwh pins s σ H Q I q=>h wh pins s σ H Q I (i σ H Q q)
theorem paI{X:Cx}{e:List Expr}{t t':TA}(h:PA X e t)(i:∀σ H Q,t' σ H Q->t σ H Q):PA X e t':=λpos pins s σ H Q I q=>h pos pins s σ H Q I (i σ H Q q)
section
variable {Φ:aa} {CX:CXT} {k:Nat} {c:CT} {E:EK} {B:Bs} {X:Cx}
theorem aM{K:PySem.W.Frag}{x:Ex}{σ:L2.St}{H:Hp}{F:FZ}{G:DH}{ρ:ak}{W:D->DH->Prop}{Q:VK}(e0:Ext B.H B.F H F)(he:EnvR K H F ρ σ)(r:R K H F G)(hw:wpE Φ x E ρ G W)
  (h:∀d G1 H1 F1 v,W d G1->Ext B.H B.F H1 F1->Ext H F H1 F1->EnvR K H1 F1 ρ σ->R K H1 F1 G1->Rep K H1 F1 d v->Q v H1):tE K B (wpE Φ x E) σ H Q:=
 ⟨ρ,F,G,e0,he,r,aG x (λd G1 q H1 F1 v x1 r1 rv=>h d G1 H1 F1 v q (e0.trans x1) x1 (he.ext x1) r1 rv) hw⟩
theorem cA{K:PySem.W.Frag}{x:Exs}{σ:L2.St}{H:Hp}{F:FZ}{G:DH}{ρ:ak}{W:List D->DH->Prop}{Q:List V->Hp->Prop}(e0:Ext B.H B.F H F)(he:EnvR K H F ρ σ)(r:R K H F G)(hw:aN Φ x E ρ G W)
  (h:∀d G1 H1 F1 v,W d G1->Ext B.H B.F H1 F1->Ext H F H1 F1->EnvR K H1 F1 ρ σ->R K H1 F1 G1->Reps K H1 F1 d v->Q v H1):tL K B (aN Φ x E) σ H Q:=
 ⟨ρ,F,G,e0,he,r,cM x (λd G1 q H1 F1 v x1 r1 rv=>h d G1 H1 F1 v q (e0.trans x1) x1 (he.ext x1) r1 rv) hw⟩
theorem jt{K:PySem.W.Frag}{x:Tx}{σ:L2.St}{H:Hp}{F:FZ}{G:DH}{ρ:ak}{W:Bool->DH->Prop}{Q:Bool->Hp->Prop}(e0:Ext B.H B.F H F)(he:EnvR K H F ρ σ)(r:R K H F G)(hw:wpT Φ x E ρ G W)
  (h:∀d G1 H1 F1,W d G1->Ext B.H B.F H1 F1->Ext H F H1 F1->EnvR K H1 F1 ρ σ->R K H1 F1 G1->Q d H1):tB' K B (wpT Φ x E) σ H Q:=
 ⟨ρ,F,G,e0,he,r,dh x (λd G1 q H1 F1 x1 r1=>h d G1 H1 F1 q (e0.trans x1) x1 (he.ext x1) r1) hw⟩
theorem GP{K:PySem.W.Frag}{x:Ox}{σ:L2.St}{H:Hp}{F:FZ}{G:DH}{ρ:ak}{W:Option Int->DH->Prop}{Q:Option Int->Hp->Prop}(e0:Ext B.H B.F H F)(he:EnvR K H F ρ σ)(r:R K H F G)(hw:wpO Φ x E ρ G W)
  (h:∀d G1 H1 F1,W d G1->Ext B.H B.F H1 F1->Ext H F H1 F1->EnvR K H1 F1 ρ σ->R K H1 F1 G1->Q d H1):GK K B (wpO Φ x E) σ H Q:=
 ⟨ρ,F,G,e0,he,r,xK x (λd G1 q H1 F1 x1 r1=>h d G1 H1 F1 q (e0.trans x1) x1 (he.ext x1) r1) hw⟩
theorem PV.later{K:PySem.W.Frag}{H H1:Hp}{F F1:FZ}{Q:VK}{d:D}{G:DH}(h:PV K H F Q d G)(x:Ext H F H1 F1):PV K H1 F1 Q d G:=λH' F' v x1=>h H' F' v (x.trans x1)
theorem PB.later{K:PySem.W.Frag}{H H1:Hp}{F F1:FZ}{Q:Bool->Hp->Prop}{d:Bool}{G:DH}(h:PB K H F Q d G)(x:Ext H F H1 F1):PB K H1 F1 Q d G:=λH' F' x1=>h H' F' (x.trans x1)
theorem PB.now{K:PySem.W.Frag}{H:Hp}{F:FZ}{Q:Bool->Hp->Prop}{d:Bool}{G:DH}(h:PB K H F Q d G)(r:R K H F G):Q d H:=h H F (Ext.refl H F) r
theorem ju(S:Stat Φ CX k c E B X):X.A.units+100 < cLine:=by have:=S.room.un;omega
theorem bW {x:Str} (h:okN x=true):(x==("__debug__":Str))=false:=by
 unfold okN at h;cases e:x==("__debug__":Str) with
 |false=>rfl
 |true=>rw[e]at h;simp at h
theorem aaN {x:Str} (h:okN x=true):(x==("__classdict__":Str))=false:=by
 unfold okN at h;cases e:x==("__classdict__":Str) with
 |false=>rfl
 |true=>rw[e]at h;simp at h
theorem di {x:Str} (h:okN x=true):x≠"__name__":=by unfold okN at h;intro e;rw[av.mpr e]at h;simp at h
theorem dX{x:Str}(h:c.glo x=true):c.kd.lookup x=some .globalImplicit/\okN x=true:=by unfold CT.glo at h;rw[ae,av]at h;exact h
theorem aaO(S:Stat Φ CX k c E B X){i:Nat}{e:Expr}(h:aj c (.var i) e=true):PE X e (tE X.K B (wpE Φ (.var i) E)):=by
 replace h:=FP h;obtain ⟨x,pos,rfl,h⟩:=h
 ·rw[ae,ae,av]at h;refine peI (Bg (i:=i) (by rw[S.N];exact h.1.1) (S.vis x h.1.2) (bW h.2) (aaN h.2)) λσ H Q q=>?_;obtain ⟨ρ,F,G,_,he,r,hw⟩:=q;rw[rm]at hw;split at hw
  ·rename_i d hd;obtain ⟨v,e1,rv⟩:=he.get hd;exact ⟨v,e1,hw.now r rv⟩
  ·exact hw.elim
theorem aaP(S:Stat Φ CX k c E B X){d:D}{e:Expr}(h:aj c (.cst d) e=true):PE X e (tE X.K B (wpE Φ (.cst d) E)):=by
 replace h:=FQ h;obtain ⟨kk,_,_,rfl,h⟩:=h
 ·unfold tR at h;split at h
  ·exact peI Uo λσ H Q hq=>el hq λρ F G _ he r hw=>by rw[gQ]at hw;exact hw.now r rfl
  ·rw[av]at h;subst h;exact peI Um λσ H Q hq=>el hq λρ F G _ he r hw=>by rw[gQ]at hw;exact hw.now r rfl
  ·rw[av]at h;subst h;exact peI Ul λσ H Q hq=>el hq λρ F G _ he r hw=>by rw[gQ]at hw;exact hw.now r rfl
  ·rename_i l b;rw[ae,av,bq]at h;refine peI Bh λσ H Q hq=>el hq λρ F G _ he r hw=>?_;rw[gQ]at hw;refine hw.now r ⟨?_,h.2⟩;rw[h.1,<-vR]
  ·cases h
theorem aaQ(S:Stat Φ CX k c E B X){x:String}{d:D}{e:Expr}(h:aj c (.glb x d) e=true):PE X e (tE X.K B (wpE Φ (.glb x d) E)):=by
 replace h:=FT h;obtain ⟨y,pos,rfl,h⟩:=h
 ·rw[ae,ae,av,List.any_eq_true]at h;obtain ⟨⟨e1,h1⟩,⟨x',d'⟩,hm,h2⟩:=h;rw[ae,av]at h2;obtain ⟨e2,e3⟩:=h2;have e3:=aaq e3;simp only at e2 e3;subst e1 e2 e3;obtain ⟨g1,g2⟩:=dX h1;obtain ⟨u,v,hu,ru,hr⟩:=S.con _ _ hm;exact peI (Up (S.glo _ g1) hu ru (bW g2)) λσ H Q hq=>el hq λρ F G _ he r hw=>by rw[rn]at hw;exact hw.now r (hr H F)
theorem aaR(S:Stat Φ CX k c E B X){op:Operator}{fz:Bool}{a b:Ex}(iha:∀{e},aj c a e=true->PE X e (tE X.K B (wpE Φ a E)))(ihb:∀{e},aj c b e=true->PE X e (tE X.K B (wpE Φ b E))){e:Expr}
  (h:aj c (.bin op fz a b) e=true):PE X e (tE X.K B (wpE Φ (.bin op fz a b) E)):=by
 replace h:=FW h;obtain ⟨l,o,r,pos,rfl,h⟩:=h
 ·rw[ae,ae,av]at h;obtain ⟨⟨e1,h1⟩,h2⟩:=h;subst e1;refine peI (VD (Zd _ fz) (iha h1) (ihb h2)) λσ H Q hq=>el hq λρ F G e0 he r hw=>?_;rw[rz]at hw;refine aM e0 he r hw λx G1 H1 F1 v q e1 x1 he1 r1 rv=>aM e1 he1 r1 q λy G2 H2 F2 u q e2 x2 he2 r2 ru=>?_;exact ⟨F2,G2,x,y,r2,Rep.ext x2 rv,ru,DY (λd G' z=>PV.later z (x1.trans x2)) q⟩
theorem aaS(S:Stat Φ CX k c E B X){a:Ex}(iha:∀{e},aj c a e=true->PE X e (tE X.K B (wpE Φ a E))){e:Expr}(h:aj c (.neg a) e=true):PE X e (tE X.K B (wpE Φ (.neg a) E)):=by
 replace h:=Ga h;obtain ⟨_,_,rfl,h⟩:=h
 ·refine peI (VF VR (iha h)) λσ H Q hq=>el hq λρ F G e0 he r hw=>?_;rw[rA]at hw;refine aM e0 he r hw λx G1 H1 F1 v q e1 x1 he1 r1 rv=>?_;split at q
  ·have e2:v=.int _:=rv;subst e2;exact ⟨_,rfl,q _ _ _ x1 r1 rfl⟩
  ·exact q.elim
theorem GQ(S:Stat Φ CX k c E B X){op:CmpOp}{a b:Ex}(iha:∀{e},aj c a e=true->PE X e (tE X.K B (wpE Φ a E)))(ihb:∀{e},aj c b e=true->PE X e (tE X.K B (wpE Φ b E))){e:Expr}
  (h:aj c (.cmp op a b) e=true):PE X e (tE X.K B (wpE Φ (.cmp op a b) E))/\PT X e (tB' X.K B (wpT Φ (.val (.cmp op a b)) E)):=by
 replace h:=Gd h;obtain ⟨l,o,r,pos,rfl,h⟩:=h
 ·rw[ae,ae,av]at h;obtain ⟨⟨e1,h1⟩,h2⟩:=h;subst e1;have hm:=GJ (bQ b h2) o;refine ⟨peI (V1 (jm _ (ju S)) (iha h1) (ihb h2) hm) λσ H Q hq=>el hq λρ F G e0 he r hw=>?_,ptI (V2 (jm _ (ju S)) (iha h1) (ihb h2) hm) λσ H Q hq=>el hq λρ F G e0 he r hw=>?_⟩
  ·rw[j4]at hw;refine aM e0 he r hw λx G1 H1 F1 v q e1 x1 he1 r1 rv=>aM e1 he1 r1 q λy G2 H2 F2 u q e2 x2 he2 r2 ru=>?_;exact ⟨F2,G2,x,y,r2,Rep.ext x2 rv,ru,gR (λd z=>PV.later z (x1.trans x2)) q⟩
  ·rw[ji,j4]at hw;refine aM e0 he r hw λx G1 H1 F1 v q e1 x1 he1 r1 rv=>aM e1 he1 r1 q λy G2 H2 F2 u q e2 x2 he2 r2 ru=>?_;refine ⟨F2,G2,x,y,r2,Rep.ext x2 rv,ru,gR (λd z=>?_) q⟩;intro H' F' v' x' r' rv';have e3:v'=.bl d:=rv';exact ⟨d,e3,z H' F' ((x1.trans x2).trans x') r'⟩
theorem GR(S:Stat Φ CX k c E B X){op op':CmpOp}{a b d:Ex}(iha:∀{e},aj c a e=true->PE X e (tE X.K B (wpE Φ a E)))(ihb:∀{e},aj c b e=true->PE X e (tE X.K B (wpE Φ b E)))(ihd:∀{e},aj c d e=true->PE X e (tE X.K B (wpE Φ d E))){e:Expr}
  (h:aj c (.chn op op' a b d) e=true):PE X e (tE X.K B (wpE Φ (.chn op op' a b d) E))/\PT X e (tB' X.K B (wpT Φ (.val (.chn op op' a b d)) E)):=by
 replace h:=Ge h;obtain ⟨l,o,o',m,r,pos,rfl,h⟩:=h
 ·simp only[ae,av]at h;obtain ⟨⟨⟨⟨e1,e2⟩,h1⟩,h2⟩,h3⟩:=h;subst e1 e2;have hm:lastMarks [o,o'] [m,r]=false:=GJ (bQ d h3) o';have go:∀{σ H Q ρ F G}{W:Bool->DH->Prop},Ext B.H B.F H F->EnvR X.K H F ρ σ->R X.K H F G->
    wpE Φ a E ρ G (λx G1=>wpE Φ b E ρ G1 λy G2=>aW o (view G2 x) (view G2 y) λt=>match t with |true=>wpE Φ d E ρ G2 λz G3=>aW o' (view G3 y) (view G3 z) λt'=>W t' G3 |false=>W false G2)->
    (∀t G' H' F',W t G'->Ext H F H' F'->R X.K H' F' G'->Q (.bl t) H')->
    vI (rC2 X.K (aW o)) (rC2 X.K (aW o')) (tE X.K B (wpE Φ a E)) (tE X.K B (wpE Φ b E)) (tE X.K B (wpE Φ d E)) σ H Q:=by
   intro σ H Q ρ F G W e0 he r hw fin;refine aM e0 he r hw λx G1 H1 F1 v q e1 x1 he1 r1 rv=>aM e1 he1 r1 q λy G2 H2 F2 u q e2 x2 he2 r2 ru=>?_;refine ⟨F2,G2,x,y,r2,Rep.ext x2 rv,ru,gR (λt q=>?_) q⟩;intro H3 F3 v3 x3 r3 rv3;have e3:v3=.bl t:=rv3;refine ⟨t,e3,?_⟩;cases t with
   |true=>
    rw[if_pos rfl];refine aM (e2.trans x3) (he2.ext x3) r3 q λz G4 H4 F4 v4 q e4 x4 he4 r4 rv4=>?_;refine ⟨F4,G4,y,z,r4,Rep.ext (x3.trans x4) ru,rv4,gR (λt' q=>?_) q⟩;intro H5 F5 v5 x5 r5 rv5;have e5:v5=.bl t':=rv5;subst e5;exact fin _ _ _ _ q ((((x1.trans x2).trans x3).trans x4).trans x5) r5
   |false=>
    rw[if_neg br];exact fin _ _ _ _ q ((x1.trans x2).trans x3) r3
  refine ⟨peI (V3 (jm _ (ju S)) (jm _ (ju S)) (iha h1) (ihb h2) (ihd h3) hm) λσ H Q hq=>el hq λρ F G e0 he r hw=>?_,ptI (V4 (jm _ (ju S)) (jm _ (ju S)) (iha h1) (ihb h2) (ihd h3) hm) λσ H Q hq=>el hq λρ F G e0 he r hw=>?_⟩
  ·rw[j5]at hw;exact go (W:=λt G'=>PV X.K H F Q (.bl t) G') e0 he r hw λt G' H' F' z x' r'=>z H' F' _ x' r' rfl
  ·rw[ji,j5]at hw;refine go (W:=λt G'=>PB X.K H F Q t G') e0 he r hw λt G' H' F' z x' r'=>⟨t,rfl,z H' F' x' r'⟩
end
section
variable {Φ:aa} {CX:CXT} {k:Nat} {c:CT} {E:EK} {B:Bs} {X:Cx}
abbrev OkE(Φ:aa)(c:CT)(E:EK)(B:Bs)(X:Cx)(x:Ex):Prop:=∀{e:Expr},aj c x e=true->PE X e (tE X.K B (wpE Φ x E))
abbrev eZ(Φ:aa)(c:CT)(E:EK)(B:Bs)(X:Cx)(x:Exs):Prop:=∀{es:List Expr},aK c x es=true->PA X es (tL X.K B (aN Φ x E))
abbrev OkT(Φ:aa)(c:CT)(E:EK)(B:Bs)(X:Cx)(x:Tx):Prop:=∀{e:Expr},bG c x e=true->PT X e (tB' X.K B (wpT Φ x E))
theorem aaT(S:Stat Φ CX k c E B X){a:Ex}(iha:OkE Φ c E B X a){e:Expr}(h:aj c (.not a) e=true):PE X e (tE X.K B (wpE Φ (.not a) E)):=by
 replace h:=Gb h;obtain ⟨_,_,rfl,h⟩:=h
 ·intro pins s σ H Q I q;obtain ⟨ρ,F,G,e0,he,r,hw⟩:=q;rw[rB]at hw;have q':tE X.K B (wpE Φ a E) σ H (λx H1=>∃b,qt X.K x H1 b/\Q (.bl (!b)) H1):=aM e0 he r hw λx G1 H1 F1 v q e1 x1 he1 r1 rv=>by
   split at q
   ·rename_i b hb;exact ⟨b,Eo r1 rv hb,q _ _ _ x1 r1 rfl⟩
   ·exact q.elim
  refine UnaryOp_ (thn (iha h pins s σ H _ I q') λv s1 ⟨x,H1,I1,r1,b,tb,q1⟩=>?_);refine not_of (thn (Bv pins s1 σ H1 x v (λb' H'=>Q (.bl (!b')) H') I1 r1 ⟨b,tb,q1⟩) λb' s2 ⟨H2,I2,q2⟩=>?_);exact ⟨.bl (!b'),H2,I2,rfl,q2⟩
theorem ym{es:List Expr}(h:aK c .nil es=true):PA X es (tL X.K B (aN Φ .nil E)):=by
 unfold aK at h;cases es with
 |nil=>exact paI jW λσ H Q hq=>el hq λρ F G e0 he r hw=>by rw[gn]at hw;exact hw H F [] (Ext.refl _ _) r rfl
 |cons _ _=>cases h
theorem tY{x:Ex}{xs:Exs}(ih:OkE Φ c E B X x)(ihs:eZ Φ c E B X xs){es:List Expr}(h:aK c (.cons x xs) es=true):PA X es (tL X.K B (aN Φ (.cons x xs) E)):=by
 unfold aK at h;split at h
 ·rename_i e es;rw[ae]at h;refine paI (iR (ih h.1) (ihs h.2) (cH e es X.env (cW (bQ x h.1)))) λσ H Q hq=>el hq λρ F G e0 he r hw=>?_;rw[gq]at hw;refine aM e0 he r hw λd G1 H1 F1 v q e1 x1 he1 r1 rv=>cA e1 he1 r1 q λds G2 H2 F2 vs q e2 x2 he2 r2 rvs=>?_;exact q H2 F2 _ (x1.trans x2) r2 ⟨v,vs,rfl,Rep.ext x2 rv,rvs⟩
 ·cases h
theorem aaU(S:Stat Φ CX k c E B X){es:Exs}(ih:eZ Φ c E B X es){e:Expr}(h:aj c (.tup es) e=true):PE X e (tE X.K B (wpE Φ (.tup es) E)):=by
 replace h:=Gi h;obtain ⟨_,_,_,rfl,h⟩:=h
 ·refine peI (Wt (ih h)) λσ H Q hq=>el hq λρ F G e0 he r hw=>?_;rw[rF]at hw;refine cA e0 he r hw λds G1 H1 F1 vs q e1 x1 he1 r1 rvs=>⟨by rw[<-rvs.length];exact cV q.1,j8 (PV.later q.2 x1) r1 rvs⟩
theorem aaV(S:Stat Φ CX k c E B X){fz:Bool}{es:Exs}(ih:eZ Φ c E B X es){e:Expr}(h:aj c (.lst fz es) e=true):PE X e (tE X.K B (wpE Φ (.lst fz es) E)):=by
 replace h:=Gj h;obtain ⟨_,_,rfl,h⟩:=h
 ·refine peI (Wu (ih h)) λσ H Q hq=>el hq λρ F G e0 he r hw=>?_;rw[rG]at hw;refine cA e0 he r hw λds G1 H1 F1 vs q e1 x1 he1 r1 rvs=>⟨by rw[<-rvs.length];exact cV q.1,fL (dB (λd G' z=>PV.later z x1) q.2) r1 rvs⟩
theorem aaW(S:Stat Φ CX k c E B X){a i:Ex}(iha:OkE Φ c E B X a)(ihi:OkE Φ c E B X i){e:Expr}(h:aj c (.idx a i) e=true):PE X e (tE X.K B (wpE Φ (.idx a i) E)):=by
 replace h:=Gk h;obtain ⟨_,_,_,rfl,h⟩:=h
 ·rw[ae]at h;refine peI (W5 Zk (iha h.1) (ihi h.2) (aaL (bQ i h.2))) λσ H Q hq=>el hq λρ F G e0 he r hw=>?_;rw[rH]at hw;refine aM e0 he r hw λx G1 H1 F1 v q e1 x1 he1 r1 rv=>aM e1 he1 r1 q λy G2 H2 F2 u q e2 x2 he2 r2 ru=>?_;exact ⟨F2,G2,x,y,r2,Rep.ext x2 rv,ru,sS (λd z=>PV.later z (x1.trans x2)) q⟩
theorem GX{lo:Ox}(ih:∀x,lo=.ob x->OkE Φ c E B X x){l:Option Expr}(h:fP c lo l=true):PO X l (GK X.K B (wpO Φ lo E)):=by
 cases lo with
 |no=>
  unfold fP at h;cases l with
  |none=>
   intro pins s σ H Q I q;refine WW pins s σ H Q I ?_;obtain ⟨ρ,F,G,e0,he,r,hw⟩:=q;rw[qW]at hw;exact hw H F (Ext.refl _ _) r
  |some _=>cases h
 |ob x=>
  unfold fP at h;split at h
  ·intro pins s σ H Q I q;refine WX (ih x rfl h) pins s σ H Q I ?_;obtain ⟨ρ,F,G,e0,he,r,hw⟩:=q;rw[qX]at hw;refine aM e0 he r hw λd G1 H1 F1 v q e1 x1 he1 r1 rv=>?_;split at q
   ·have e2:v=.int _:=rv;exact ⟨_,e2,q H1 F1 x1 r1⟩
   ·exact q.elim
  ·cases h
theorem aaX(S:Stat Φ CX k c E B X){fz:Bool}{a:Ex}{lo hi:Ox}(iha:OkE Φ c E B X a)(ihl:∀x,lo=.ob x->OkE Φ c E B X x)(ihh:∀x,hi=.ob x->OkE Φ c E B X x){e:Expr}(h:aj c (.slc fz a lo hi) e=true):
  PE X e (tE X.K B (wpE Φ (.slc fz a lo hi) E)):=by
 replace h:=Gm h;obtain ⟨_,_,_,_,_,rfl,h⟩:=h
 ·rw[ae,ae]at h;refine peI (WY (Zt fz) (iha h.1.1) (GX ihl h.1.2) (GX ihh h.2)) λσ H Q hq=>el hq λρ F G e0 he r hw=>?_;rw[rJ]at hw;refine aM e0 he r hw λx G1 H1 F1 v q e1 x1 he1 r1 rv=>GP e1 he1 r1 q λl G2 H2 F2 q e2 x2 he2 r2=>GP e2 he2 r2 q λu G3 H3 F3 q e3 x3 he3 r3=>?_;exact ⟨F3,G3,x,r3,Rep.ext (x2.trans x3) rv,Eb (λd G' z=>PV.later z ((x1.trans x2).trans x3)) q⟩
theorem aaY(S:Stat Φ CX k c E B X){fz:Bool}{a s:Ex}(iha:OkE Φ c E B X a)(ihs:OkE Φ c E B X s){e:Expr}(h:aj c (.rvs fz a s) e=true):PE X e (tE X.K B (wpE Φ (.rvs fz a s) E)):=nomatch (show false=true from h)
theorem aaZ(S:Stat Φ CX k c E B X){a:Ex}(iha:OkE Φ c E B X a){e:Expr}(h:aj c (.frz a) e=true):PE X e (tE X.K B (wpE Φ (.frz a) E)):=by
 have h:aj c a e=true:=h;refine peI (iha h) λσ H Q hq=>el hq λρ F G e0 he r hw=>?_;rw[rT]at hw;refine aM e0 he r hw λx G1 H1 F1 v q e1 x1 he1 r1 rv=>?_;split at q
 ·rename_i p;have e2:v=.ref p:=rv;subst e2;split at q
  ·rename_i ds hg;exact q _ _ _ (x1.trans wk) (r1.frz hg) (Y0 r1 hg)
  ·exact q.elim
 ·exact q _ _ _ x1 r1 rv
theorem jw{es:List Expr}{xs:Exs}(h:aK c xs es=true)(env:Env)(pos:Pos):(backTo pos (starEach es env)).any (·.1)=false:=by
 induction es generalizing xs with
 |nil=>rfl
 |cons e es ih=>
  cases xs with
  |nil=>unfold aK at h;cases h
  |cons x xs=>
   unfold aK at h;rw[ae]at h;rw[cH e es env (cW (bQ x h.1))];show (false||(backTo pos (starEach es env)).any (·.1))=false;rw[ih h.2];rfl
theorem il{e:Expr}{es:List Expr}{xs:Exs}(h:aK c xs (e::es)=true):∃x xs',xs=.cons x xs'/\aj c x e=true/\aK c xs' es=true:=by
 cases xs with
 |nil=>unfold aK at h;cases h
 |cons x xs'=>
  unfold aK at h;rw[ae]at h;exact ⟨x,xs',rfl,h.1,h.2⟩
theorem tZ{ρ:ak}:∀(xs:Exs){es:List Expr}{G:DH}{Q:List D->DH->Prop},aK c xs es=true->aN Φ xs E ρ G Q->aN Φ xs E ρ G (λds G'=>ds.length=es.length/\Q ds G')
 |.nil,es,G,Q,h,q=>by
  unfold aK at h;rw[gn]at q ⊢;cases es with
  |nil=>exact ⟨rfl,q⟩
  |cons _ _=>cases h
 |.cons x xs,es,G,Q,h,q=>by
  unfold aK at h;split at h
  ·rename_i e es;rw[ae]at h;rw[gq]at q ⊢;refine aG x (λd G1 q=>cM xs (λds G2 z=>?_) (tZ xs h.2 q)) q;exact ⟨by simp[z.1],z.2⟩
  ·cases h
theorem aa0(S:Stat Φ CX k c E B X){f:String}{xs:Exs}(ih:eZ Φ c E B X xs){e:Expr}(h:aj c (.call f xs) e=true):PE X e (tE X.K B (wpE Φ (.call f xs) E)):=by
 replace h:=Gn h;obtain ⟨x,p,args,pos,rfl,h⟩:=h
 ·simp only[ae,av,List.any_eq_true]at h;obtain ⟨⟨⟨⟨e1,h1⟩,⟨f',n⟩,hm,e2,e3⟩,h2⟩,h3⟩:=h;simp only at e2 e3;subst e1 e2 e3;obtain ⟨g1,g2⟩:=dX h1;obtain ⟨fa,fd,ps,F0,hk,hb,hmg⟩:=S.call _ _ hm;obtain ⟨EX,hpass,_,hEX⟩:=S.exc;cases args with
  |nil=>cases h2
  |cons e es=>
   obtain ⟨x0,xs',rfl,c1,c2⟩:=il h3;refine peI (Wx F0 S.room (S.glo _ g1) hmg hk hb .nil hpass (ih h3) (bW g2) (cH e es X.env (cW (bQ x0 c1))) (jw c2 X.env pos)) λσ H Q hq=>el hq λρ F G e0 he r hw=>?_;rw[rK]at hw;refine cA e0 he r (tZ _ h3 hw) λds G1 H1 F1 vs q e1 x1 he1 r1 rvs=>?_;rw[eW];refine ⟨by rw[<-rvs.length];exact q.1,F1,G1,ds,r1,rvs,Spec.mono q.2 (λd G' z=>PV.later z x1) λx G' z H' F' x' r'=>?_⟩;exact hEX x G' H' F' z (e1.trans x') r'
theorem aa1(S:Stat Φ CX k c E B X){f:Bf}{xs:Exs}(ih:eZ Φ c E B X xs){e:Expr}(h:aj c (.bcl f xs) e=true):PE X e (tE X.K B (wpE Φ (.bcl f xs) E)):=by
 replace h:=Gp h;obtain ⟨x,p,args,pos,rfl,h⟩:=h
 ·simp only[ae,av]at h;obtain ⟨⟨⟨⟨⟨e1,hok⟩,h1⟩,hm⟩,h2⟩,h3⟩:=h;subst e1;obtain ⟨g1,g2⟩:=dX h1;have hmg:=S.blt _ (a7.mp hm);cases args with
  |nil=>cases h2
  |cons e es=>
   obtain ⟨x0,xs',rfl,c1,c2⟩:=il h3;have hs:=cH e es X.env (cW (bQ x0 c1));have ha:=jw c2 X.env pos;have go:∀σ H Q,tE X.K B (wpE Φ (.bcl f (.cons x0 xs')) E) σ H Q->tCB (fM X.K f) (tL X.K B (aN Φ (.cons x0 xs') E)) σ H Q:=λσ H Q hq=>el hq λρ F G e0 he r hw=>by
    rw[rM]at hw;refine cA e0 he r hw λds G1 H1 F1 vs q e1 x1 he1 r1 rvs=>?_;exact ⟨F1,G1,ds,r1,rvs,Ec (λd z=>PV.later z x1) q⟩
   cases f with
   |len=>exact peI (iT Zu (S.glo _ g1) hmg PySem.boot_len (ih h3) (di g2) (bW g2) hs ha) go
   |all=>exact peI (iT (Zv S.calm) (S.glo _ g1) hmg X5 (ih h3) (di g2) (bW g2) hs ha) go
   |int=>exact peI (qx Zw (S.glo _ g1) hmg CZ (ih h3) (di g2) (bW g2) hs ha) go
   |tuple=>exact peI (qx Zx (S.glo _ g1) hmg (by decide +kernel) (ih h3) (di g2) (bW g2) hs ha) go
   |sum=>cases hok
   |min=>exact peI (iT (ZK S.calm) (S.glo _ g1) hmg Ey (ih h3) (di g2) (bW g2) hs ha) go
   |max=>cases hok
   |abs=>exact peI (iT (ZM) (S.glo _ g1) hmg ZP (ih h3) (di g2) (bW g2) hs ha) go
   |min2=>exact peI (iT (ZL S.calm) (S.glo _ g1) hmg Ey (ih h3) (di g2) (bW g2) hs ha) go
   |str=>exact peI (qx ZQ (S.glo _ g1) hmg Dc (ih h3) (di g2) (bW g2) hs ha) go
theorem aa2(S:Stat Φ CX k c E B X){fz:Bool}{f:Lf}{xs:Exs}(ih:eZ Φ c E B X xs){e:Expr}(h:aj c (.lcl fz f xs) e=true):PE X e (tE X.K B (wpE Φ (.lcl fz f xs) E)):=by
 replace h:=Gq h;obtain ⟨x,p,args,pos,rfl,h⟩:=h
 ·simp only[ae,av]at h;obtain ⟨⟨⟨⟨⟨e1,hok⟩,h1⟩,hm⟩,h2⟩,h3⟩:=h;subst e1;obtain ⟨g1,g2⟩:=dX h1;have hmg:=S.blt _ (a7.mp hm);cases args with
  |nil=>cases h2
  |cons e es=>
   obtain ⟨x0,xs',rfl,c1,c2⟩:=il h3;have hs:=cH e es X.env (cW (bQ x0 c1));have ha:=jw c2 X.env pos;have go:∀σ H Q,tE X.K B (wpE Φ (.lcl fz f (.cons x0 xs')) E) σ H Q->tCB (Ep X.K fz f) (tL X.K B (aN Φ (.cons x0 xs') E)) σ H Q:=λσ H Q hq=>el hq λρ F G e0 he r hw=>by
    rw[rN]at hw;refine cA e0 he r hw λds G1 H1 F1 vs q e1 x1 he1 r1 rvs=>?_;exact ⟨F1,G1,ds,r1,rvs,Ed (λd z=>dB (λd G' z=>PV.later z x1) z) q⟩
   cases f with
   |list=>exact peI (qx (ZC S.calm fz) (S.glo _ g1) hmg Dd (ih h3) (di g2) (bW g2) hs ha) go
   |sorted=>cases hok
theorem aa3(S:Stat Φ CX k c E B X){fz:Bool}{a:Ex}(iha:OkE Φ c E B X a){e:Expr}(h:aj c (.rgl fz a) e=true):PE X e (tE X.K B (wpE Φ (.rgl fz a) E)):=nomatch (show false=true from h)
theorem aa4(S:Stat Φ CX k c E B X){a:Ex}(iha:OkE Φ c E B X a){e:Expr}(h:aj c (.rgt a) e=true):PE X e (tE X.K B (wpE Φ (.rgt a) E)):=nomatch (show false=true from h)
theorem aa5{t:String}(h:fG t=true):bootBuiltins (Str.ofString t)=some (.type t):=by
 simp only[fG,cS,av]at h;rcases h with (((rfl |rfl) |rfl) |rfl) |rfl
 ·exact XH
 ·exact CZ
 ·exact Dc
 ·decide +kernel
 ·exact Dd
theorem aa6(S:Stat Φ CX k c E B X){a:Ex}{t:String}(iha:OkE Φ c E B X a){e:Expr}(h:aj c (.isi a t) e=true):PE X e (tE X.K B (wpE Φ (.isi a t) E)):=by
 replace h:=Gs h;obtain ⟨x,p,v,y,p2,pos,rfl,h⟩:=h
 ·simp only[ae,av]at h;obtain ⟨⟨⟨⟨⟨⟨⟨e1,h1⟩,hm1⟩,h2⟩,e2⟩,h3⟩,hm2⟩,h4⟩:=h;subst e1 e2;obtain ⟨g1,g2⟩:=dX h1;obtain ⟨g3,g4⟩:=dX h3;have hmg:=S.blt _ (a7.mp hm1);have hmt:=S.blt _ (a7.mp hm2);have hty:PE X (.Name (Str.ofString t) p2) (tC (.ty t)):=XM (S.glo _ g3) hmt (aa5 h4) (di g4) (bW g4);have sv:=cW (bQ a h2);refine peI (iT XF (S.glo _ g1) hmg XJ (iR (iha h2) (iR hty jW (cH _ _ _ rfl)) (cH _ _ _ sv)) (di g2) (bW g2) (cH _ _ _ sv) rfl) λσ H Q hq=>el hq λρ F G e0 he r hw=>?_;rw[rO]at hw;refine aM e0 he r hw λd G1 H1 F1 v q e1 x1 he1 r1 rv=>?_;split at q
  ·rename_i b hb;obtain ⟨T,hk,hT,hb'⟩:=ZW hb;refine ⟨v,t,.type T,b,rfl,ZR r1 rv hk,?_,q _ _ _ x1 r1 rfl⟩;rw[ZV T t hT h4,hb' h4]
  ·exact q.elim
theorem aa7(S:Stat Φ CX k c E B X){a:Ex}{C:String}{xs:List String}(iha:OkE Φ c E B X a){e:Expr}(h:aj c (.isx a C xs) e=true):PE X e (tE X.K B (wpE Φ (.isx a C xs) E)):=nomatch (show false=true from h)
theorem GZ{v:Expr}(h:(!g8 v)=true)(name:Str)(env:Env):attributeBase v name env (eval v env)=eval v env:=by
 cases v with
 |Call f args kw pos=>
  cases f with
  |Name id p=>
   cases args with
   |nil=>
    cases kw with
    |nil=>cases h
    |cons _ _=>rfl
   |cons _ _=>rfl
  |_=>rfl
 |_=>rfl
theorem all_plain{es:List Expr}{xs:Exs}(h:aK c xs es=true)(env:Env)(pos:Pos):(backTo pos (starEach es env)).all (λx=>!x.1)=true:=by
 induction es generalizing xs with
 |nil=>rfl
 |cons e es ih=>
  obtain ⟨x0,xs',rfl,c1,c2⟩:=il h;rw[cH e es env (cW (bQ x0 c1))];show (!false&&(backTo pos (starEach es env)).all (λx=>!x.1))=true;rw[ih c2];rfl
theorem aa8(S:Stat Φ CX k c E B X){f:String}{a b ix:Ex}(iha:OkE Φ c E B X a)(ihb:OkE Φ c E B X b)(ihx:OkE Φ c E B X ix){e:Expr}(h:aj c (.rpl f a b ix) e=true):PE X e (tE X.K B (wpE Φ (.rpl f a b ix) E)):=nomatch (show false=true from h)
theorem aa9(S:Stat Φ CX k c E B X){C f:String}{o:Ex}(iho:OkE Φ c E B X o){e:Expr}(h:aj c (.fld C f o) e=true):PE X e (tE X.K B (wpE Φ (.fld C f o) E)):=by
 obtain ⟨v,n,p,rfl,hh⟩:=Gu h;rw[ae,ae,ae,av]at hh;obtain ⟨⟨⟨en,hb⟩,hf⟩,ho⟩:=hh;subst en;obtain ⟨c0,hn,hcl,hna⟩:=S.fld C f (a7.mp hf);refine peI (Wk (iho ho) (GZ hb _ X.env)) λσ H Q hq=>el hq λρ F G e0 he r hw=>?_;rw[rP]at hw;refine aM e0 he r hw λd G1 H1 F1 u q e1 x1 he1 r1 ru=>?_;unfold jh at q;split at q
 ·rename_i C' f' q0;obtain ⟨rfl,rfl,q⟩:=q;obtain ⟨a,c1,dx,e2,⟨_,hH⟩,hn1⟩:=ru;have ec:c1=c0:=by rw[hn]at hn1;cases hn1;rfl
  subst ec e2;refine ⟨a,c1,dx,_,.ref q0,rfl,hH,hcl,hna,?_,q H1 F1 _ x1 r1 rfl⟩;show List.lookup _ [(_,_)]=_;simp[List.lookup]
 ·exact q.elim
theorem Ha{o:Expr}{name:Str}{apos pos:Pos}{args:List Expr}{env:Env}(hbase:attributeBase o name env (eval o env)=eval o env)
  (hfew:methodCallForm (args.length+([]:List Keyword).length) (backTo pos (starEach args env)) (backToKw pos (keywordEach [] env))=true) (hline:(apos.endLine==pos.line)=true):
  eval (.Call (.Attribute o name apos) args [] pos) env=(do
   let ov <-eval o env
   standAt apos.atName
   let (f,first) <-holding [ov] (getMethod ov name (do return (<-importBound o env).getD true))
   callWith pos f first (backTo pos (starEach args env)) (backToKw pos (keywordEach [] env))):=by
 have hpos:methodCallPos true o env apos pos=pure pos:=by unfold methodCallPos;simp[hline]
 rw[arm_eval_Call,hbase];unfold methodCall;rw[hfew,hpos];rfl
theorem aba{f m:Str}{v:V}(h:(m==f)=false):List.lookup m [(f,v)]=none:=by simp[List.lookup,h]
theorem abb{K:PySem.W.Frag}{x:Ex}{σ:L2.St}{H:Hp}{Q Q':VK}(h:tE K B (wpE Φ x E) σ H Q)(hq:∀v H',Q v H'->Q' v H'):tE K B (wpE Φ x E) σ H Q':=by obtain ⟨ρ,F,G,e0,he,r,hw⟩:=h;exact ⟨ρ,F,G,e0,he,r,aG x (λd G1 q H1 F1 v x1 r1 rv=>hq _ _ (q H1 F1 v x1 r1 rv)) hw⟩
theorem abd(S:Stat Φ CX k c E B X){f C m:String}{o:Ex}{xs:Exs}(iho:OkE Φ c E B X o)(ih:eZ Φ c E B X xs){e:Expr}(h:aj c (.mcl f C m o xs) e=true):PE X e (tE X.K B (wpE Φ (.mcl f C m o xs) E)):=by
 obtain ⟨y,p,n,apos,args,cpos,rfl,hh⟩:=Gv h;rw[ae,ae,ae,ae,ae,av]at hh;obtain ⟨⟨⟨⟨⟨en,hl⟩,hlt⟩,hm⟩,ho⟩,hes⟩:=hh;have hlt:=dk hlt;subst en;obtain ⟨c0,fa,fd,ps,hn,hcl,hmt,hbn,F0⟩:=S.mth _ _ _ _ (a7.mp hm);obtain ⟨EX,hpass,_,hEX⟩:=S.exc;have key:∀{σ:L2.St}{H:Hp}{Q:VK}{ρ:ak}{F:FZ}{G:DH},Ext B.H B.F H F->EnvR X.K H F ρ σ->R X.K H F G->wpE Φ (.mcl f C m o xs) E ρ G (PV X.K H F Q)->(qw c0 (Str.ofString m) (lift X.K (args.length+1) (Φ f)) [] EX (tE X.K B (wpE Φ o E)) (tL X.K B (aN Φ xs E))) σ H Q:=λ{σ H Q ρ F G} e0 he r hw=>by
  rw[rQ]at hw;refine aM e0 he r hw λd G1 H1 F1 u q e1 x1 he1 r1 ru=>?_;obtain ⟨qo,q⟩:=q;unfold fH at qo;split at qo
  ·rename_i C' f' q0;obtain ⟨rfl,hne⟩:=qo;have ru':=ru;obtain ⟨a,c1,dx,e2,⟨_,hH⟩,hn1⟩:=ru;have ec:c1=c0:=by rw[hn]at hn1;cases hn1;rfl
   subst ec;subst e2;refine ⟨a,dx,_,rfl,hH,aba hne,cA e1 he1 r1 (tZ _ hes q) λds G2 H2 F2 vs q e2 x2 he2 r2 rvs=>?_⟩;rw[eW];refine ⟨by rw[cb,<-rvs.length,q.1],F2,G2,_::ds,r2,.cons (Rep.ext x2 ru') rvs,Spec.mono q.2 (λd G' z=>PV.later z (x1.trans x2)) λx G' z H' F' x' r'=>?_⟩;exact hEX x G' H' F' z (e2.trans x') r'
  ·exact qo.elim
 have hline:(apos.endLine==cpos.line)=true:=hl;cases args with
 |nil=>
  cases xs with
  |nil=>
   refine peI (Wz (iho ho) hcl hmt F0 S.room hbn .nil hpass (ht:=Ha rfl rfl hline)) λσ H Q hq=>el hq λρ F G e0 he r hw=>?_;have kk:=key e0 he r hw;unfold qw at kk ⊢;refine abb kk λx H1 ⟨a,dx,fs,h1,h2,h3,h4⟩=>⟨a,dx,fs,h1,h2,h3,?_⟩;obtain ⟨ρ',F',G',e0',he',r',hw'⟩:=h4;rw[gn]at hw';exact hw' H1 F' [] (Ext.refl _ _) r' rfl
  |cons _ _=>cases hes
 |cons e1 es=>
  obtain ⟨x0,xs',rfl,c1,c2⟩:=il hes;refine peI (Wy (iho ho) hcl hmt F0 S.room hbn .nil hpass (ih hes) (cH e1 es X.env (cW (bQ x0 c1))) (jw c2 X.env cpos) (ht:=Ha rfl ?_ hline)) λσ H Q hq=>el hq λρ F G e0 he r hw=>key e0 he r hw;unfold methodCallForm;rw[all_plain hes X.env cpos];have e0:(if (backToKw cpos (keywordEach [] X.env)).isEmpty=true then 0 else 1)=0:=rfl;rw[e0,bv (show (e1::es).length+([]:List Keyword).length+0 < 30 by show (e1::es).length+0+0 < 30;omega)];rfl
theorem abe(S:Stat Φ CX k c E B X){C:String}{xs:Exs}(ih:eZ Φ c E B X xs){e:Expr}(h:aj c (.mko C xs) e=true):PE X e (tE X.K B (wpE Φ (.mko C xs) E)):=by
 obtain ⟨x,p,args,pos,rfl,hh⟩:=Gw h;rw[ae,ae,ae,ae,av]at hh;obtain ⟨⟨⟨⟨ex,hg⟩,hk⟩,hne⟩,hes⟩:=hh;subst ex;obtain ⟨c0,fa,fd,ps,sp,j,hj,hmg,M,hbn,F0,hsp⟩:=S.mko _ _ (a7.mp hk);obtain ⟨EX,hpass,_,hEX⟩:=S.exc;obtain ⟨g1,g2⟩:=dX hg;cases args with
 |nil=>cases hne
 |cons e1 es=>
  obtain ⟨x0,xs',rfl,c1,c2⟩:=il hes;refine peI (WF M F0 (S.room.mono hj) (S.glo _ g1) hmg hbn .nil hpass (ih hes) (bW g2) (cH e1 es X.env (cW (bQ x0 c1))) (jw c2 X.env pos)) λσ H Q hq=>el hq λρ F G e0 he r hw=>?_;rw[rR]at hw;refine cA e0 he r (tZ _ hes hw) λds G1 H1 F1 vs q e1 x1 he1 r1 rvs=>λx dx hx hdx hne=>?_;rw[eW];refine hsp vs H1 Q EX ⟨by rw[<-rvs.length,q.1],F1,G1,ds,r1,rvs,Spec.mono q.2 (λd G' z=>PV.later z x1) λx G' z H' F' x' r'=>?_⟩ x dx hx hdx hne;exact hEX x G' H' F' z (e1.trans x') r'
theorem abf(S:Stat Φ CX k c E B X){o:Ex}(iho:OkE Φ c E B X o){e:Expr}(h:aj c (.pp0 o) e=true):PE X e (tE X.K B (wpE Φ (.pp0 o) E)):=nomatch (show false=true from h)
theorem abg(S:Stat Φ CX k c E B X){m:Mf}{o:Ex}{xs:Exs}(iho:OkE Φ c E B X o)(ih:eZ Φ c E B X xs){e:Expr}(h:aj c (.mth m o xs) e=true):PE X e (tE X.K B (wpE Φ (.mth m o xs) E)):=by
 replace h:=Gx h;obtain ⟨v,x,apos,args,cpos,rfl,h⟩:=h
 ·simp only[ae,av,bq]at h;obtain ⟨⟨⟨⟨⟨⟨e1,h1⟩,hb⟩,hl⟩,hn⟩,h2⟩,h3⟩:=h;subst e1;cases args with
  |nil=>cases h2
  |cons e es=>
   obtain ⟨x0,xs',rfl,c1,c2⟩:=il h3;have hs:=cH e es X.env (cW (bQ x0 c1));have ha:=jw c2 X.env cpos;have hbase:=GZ hb (Str.ofString m.name) X.env;have hfew:((backTo cpos (starEach (e::es) X.env)).all (λx=>!x.1)&&(backToKw cpos (keywordEach [] X.env)).all (λx=>x.1.isSome)
    &&decide ((e::es).length+([]:List Keyword).length+(if ([]:List Keyword).isEmpty then 0 else 1) < 30))=true:=by
    rw[all_plain h3 X.env cpos];have:(e::es).length+([]:List Keyword).length+(if ([]:List Keyword).isEmpty then 0 else 1) < 30:=by have e0:(if ([]:List Keyword).isEmpty=true then 0 else 1)=0:=rfl;rw[e0];show (e::es).length+0+0 < 30;omega
    rw[bv this];rfl
   have hline:(apos.endLine==cpos.line)=true:=by rw[av];exact hl
   have lst:∀{d:D} {u:V} {G1:DH} {H1:Hp} {F1:FZ},(match d with |.ref p=>(match G1 p with |some (.lst _)=>True |none=>False) |_=>False)->R X.K H1 F1 G1->Rep X.K H1 F1 d u->tyV X.K "list" u H1:=λ{d u G1 H1 F1} q r1 ru=>by
    split at q
    ·rename_i p;split at q
     ·rename_i ds hg;obtain ⟨vs,hv,_⟩:=r1.lst hg;have e2:u=.ref p:=ru;subst e2;exact .inl ⟨rfl,vs,SqL.of hv⟩
     ·exact q.elim
    ·exact q.elim
   have lstV:∀{d:D} {u:V} {G1:DH} {H1:Hp} {F1:FZ},wG (view G1 d)->R X.K H1 F1 G1->Rep X.K H1 F1 d u->tyV X.K "list" u H1:=λ{d u G1 H1 F1} q r1 ru=>by
    generalize hv:view G1 d=w at q;cases w with
    |lst ds=>
     obtain ⟨a,vs,rfl,sq,_⟩:=Rep.list r1 ru hv;exact .inl ⟨rfl,vs,sq⟩
    |_=>exact (show False from q).elim
   cases m with
   |join=>
    refine peI (gK PySem.F.plainAttrs_str PySem.F.slot_str_join PySem.F.type_str_join ZX (iho h1) (ih h3) hbase hfew hline hs ha) λσ H Q hq=>el hq λρ F G e0 he r hw=>?_;rw[eV]at hw;refine aM e0 he r hw λd G1 H1 F1 u q e1 x1 he1 r1 ru=>⟨?_,cA e1 he1 r1 q.2 λds G2 H2 F2 vs q e2 x2 he2 r2 rvs=>?_⟩
    ·have q1:=q.1;cases d with
     |str l=>obtain ⟨e2,_⟩:=ru;subst e2;exact rfl
     |_=>exact (show False from q1).elim
    ·exact ⟨F2,G2,d,ds,r2,Rep.ext x2 ru,rvs,gr (λd G' z=>PV.later z (x1.trans x2)) q⟩
   |append=>
    refine peI (gK d6 PySem.F.slot_list_append PySem.F.type_list_append ZZ (iho h1) (ih h3) hbase hfew hline hs ha) λσ H Q hq=>el hq λρ F G e0 he r hw=>?_;rw[eV]at hw;refine aM e0 he r hw λd G1 H1 F1 u q e1 x1 he1 r1 ru=>⟨?_,cA e1 he1 r1 q.2 λds G2 H2 F2 vs q e2 x2 he2 r2 rvs=>?_⟩
    ·refine lst (d:=d) (G1:=G1) ?_ r1 ru;have q1:=q.1;cases d <;> first |exact q1 |exact (show False from q1).elim
    ·exact ⟨F2,G2,d,ds,r2,Rep.ext x2 ru,rvs,gr (λd G' z=>PV.later z (x1.trans x2)) q⟩
   |extend=>
    refine peI (gK d6 PySem.F.slot_list_extend PySem.F.type_list_extend Z9 (iho h1) (ih h3) hbase hfew hline hs ha) λσ H Q hq=>el hq λρ F G e0 he r hw=>?_;rw[eV]at hw;refine aM e0 he r hw λd G1 H1 F1 u q e1 x1 he1 r1 ru=>⟨?_,cA e1 he1 r1 q.2 λds G2 H2 F2 vs q e2 x2 he2 r2 rvs=>?_⟩
    ·refine lst (d:=d) (G1:=G1) ?_ r1 ru;have q1:=q.1;cases d <;> first |exact q1 |exact (show False from q1).elim
    ·exact ⟨F2,G2,d,ds,r2,Rep.ext x2 ru,rvs,gr (λd G' z=>PV.later z (x1.trans x2)) q⟩
   |insert=>
    refine peI (gK d6 PySem.F.slot_list_insert PySem.F.type_list_insert Z6 (iho h1) (ih h3) hbase hfew hline hs ha) λσ H Q hq=>el hq λρ F G e0 he r hw=>?_;rw[eV]at hw;refine aM e0 he r hw λd G1 H1 F1 u q e1 x1 he1 r1 ru=>⟨?_,cA e1 he1 r1 q.2 λds G2 H2 F2 vs q e2 x2 he2 r2 rvs=>?_⟩
    ·refine lst (d:=d) (G1:=G1) ?_ r1 ru;have q1:=q.1;cases d <;> first |exact q1 |exact (show False from q1).elim
    ·exact ⟨F2,G2,d,ds,r2,Rep.ext x2 ru,rvs,gr (λd G' z=>PV.later z (x1.trans x2)) q⟩
   |pop=>
    refine peI (gK d6 PySem.F.slot_list_pop PySem.F.type_list_pop Z7 (iho h1) (ih h3) hbase hfew hline hs ha) λσ H Q hq=>el hq λρ F G e0 he r hw=>?_;rw[eV]at hw;refine aM e0 he r hw λd G1 H1 F1 u q e1 x1 he1 r1 ru=>⟨?_,cA e1 he1 r1 q.2 λds G2 H2 F2 vs q e2 x2 he2 r2 rvs=>?_⟩
    ·refine lst (d:=d) (G1:=G1) ?_ r1 ru;have q1:=q.1;cases d <;> first |exact q1 |exact (show False from q1).elim
    ·exact ⟨F2,G2,d,ds,r2,Rep.ext x2 ru,rvs,gr (λd G' z=>PV.later z (x1.trans x2)) q⟩
   |count=>
    refine peI (gK d6 PySem.F.slot_list_count PySem.F.type_list_count Z0 (iho h1) (ih h3) hbase hfew hline hs ha) λσ H Q hq=>el hq λρ F G e0 he r hw=>?_;rw[eV]at hw;refine aM e0 he r hw λd G1 H1 F1 u q e1 x1 he1 r1 ru=>⟨lstV q.1 r1 ru,cA e1 he1 r1 q.2 λds G2 H2 F2 vs q e2 x2 he2 r2 rvs=>?_⟩;exact ⟨F2,G2,d,ds,r2,Rep.ext x2 ru,rvs,gr (λd G' z=>PV.later z (x1.trans x2)) q⟩
   |index=>
    refine peI (gK d6 PySem.F.slot_list_index PySem.F.type_list_index Z1 (iho h1) (ih h3) hbase hfew hline hs ha) λσ H Q hq=>el hq λρ F G e0 he r hw=>?_;rw[eV]at hw;refine aM e0 he r hw λd G1 H1 F1 u q e1 x1 he1 r1 ru=>⟨lstV q.1 r1 ru,cA e1 he1 r1 q.2 λds G2 H2 F2 vs q e2 x2 he2 r2 rvs=>?_⟩;exact ⟨F2,G2,d,ds,r2,Rep.ext x2 ru,rvs,gr (λd G' z=>PV.later z (x1.trans x2)) q⟩
end
section
variable {Φ:aa} {CX:CXT} {k:Nat} {c:CT} {E:EK} {B:Bs} {X:Cx}
def EachE(Φ:aa)(c:CT)(E:EK)(B:Bs)(X:Cx):Exs->Prop
 |.nil=>True
 |.cons e es=>OkE Φ c E B X e/\EachE Φ c E B X es
def uc(Φ:aa)(c:CT)(E:EK)(B:Bs)(X:Cx):Txs->Prop
 |.nil=>True
 |.cons e es=>OkT Φ c E B X e/\uc Φ c E B X es
theorem abh(S:Stat Φ CX k c E B X){es:Exs}(ih:EachE Φ c E B X es){e:Expr}(h:aj c (.fst es) e=true):PE X e (tE X.K B (wpE Φ (.fst es) E)):=nomatch (show false=true from h)
theorem EachE.oks:∀{xs:Exs},EachE Φ c E B X xs->eZ Φ c E B X xs
 |.nil,_=>by intro h;exact ym h
 |.cons x xs,hh=>by intro h;exact tY hh.1 (EachE.oks hh.2) h
def ud(Φ:aa)(E:EK)(isAnd:Bool)(x:Ex)(xs:Exs):ak->DH->(D->DH->Prop)->Prop:=λρ G kk=>wpE Φ x E ρ G λd G1=>match d with |.bl b=>wpB Φ xs isAnd b E ρ G1 (λc G2=>kk (.bl c) G2) |_=>False
theorem Hb{isAnd:Bool}{pos:Pos}:∀(xs:Exs){x:Ex},OkE Φ c E B X x->EachE Φ c E B X xs->∀{v:Expr}{vs:List Expr},aj c x v=true->aK c xs vs=true->
  PE X (.BoolOp (if isAnd then .And else .Or) (v::vs) pos) (tE X.K B (ud Φ E isAnd x xs))
 |.nil,x,ih,_,v,vs,h1,h2=>by
  unfold aK at h2;cases vs with
  |nil=>
   refine peI (UG (ih h1)) λσ H Q hq=>el hq λρ F G e0 he r hw=>?_;unfold ud at hw;refine aM e0 he r hw λd G1 H1 F1 u q e1 x1 he1 r1 ru=>?_;split at q
   ·rw[qT]at q;exact q _ _ _ x1 r1 ru
   ·exact q.elim
  |cons _ _=>cases h2
 |.cons y ys,x,ih,hh,v,vs,h1,h2=>by
  unfold aK at h2;split at h2
  ·rename_i w ws;rw[ae]at h2;have rest:=Hb (isAnd:=isAnd) (pos:=pos) ys hh.1 hh.2 h2.1 h2.2;cases isAnd with
   |true=>
    refine peI (UJ (ih h1) rest) λσ H Q hq=>el hq λρ F G e0 he r hw=>?_;unfold ud at hw;refine aM e0 he r hw λd G1 H1 F1 u q e1 x1 he1 r1 ru=>?_;split at q
    ·rename_i b;refine ⟨b,ru,?_⟩;rw[jZ]at q;cases b with
     |true=>
      rw[if_pos rfl];exact ⟨ρ,F1,G1,e1,he1,r1,aG y (λd G' z=>by
       cases d <;> first |exact (show False from z).elim |exact sV ys (λc G2 z=>PV.later z x1) z) q⟩
     |false=>
      rw[if_neg br];exact q _ _ _ x1 r1 rfl
    ·exact q.elim
   |false=>
    refine peI (UL (ih h1) rest) λσ H Q hq=>el hq λρ F G e0 he r hw=>?_;unfold ud at hw;refine aM e0 he r hw λd G1 H1 F1 u q e1 x1 he1 r1 ru=>?_;split at q
    ·rename_i b;refine ⟨b,ru,?_⟩;rw[jZ]at q;cases b with
     |false=>
      rw[if_neg br];exact ⟨ρ,F1,G1,e1,he1,r1,aG y (λd G' z=>by
       cases d <;> first |exact (show False from z).elim |exact sV ys (λc G2 z=>PV.later z x1) z) q⟩
     |true=>
      rw[if_pos rfl];exact q _ _ _ x1 r1 rfl
    ·exact q.elim
  ·cases h2
theorem abi{isAnd:Bool}{x:Ex}{xs:Exs}(ih:OkE Φ c E B X x)(hh:EachE Φ c E B X xs){e:Expr}(h:aj c (.boo isAnd x xs) e=true):PE X e (tE X.K B (wpE Φ (.boo isAnd x xs) E)):=by
 replace h:=Gf h;obtain ⟨_,_,_,_,rfl,h⟩:=h
 ·simp only[ae,av]at h;obtain ⟨⟨e1,h1⟩,h2⟩:=h;subst e1;refine peI (Hb xs ih hh h1 h2) λσ H Q hq=>el hq λρ F G e0 he r hw=>⟨ρ,F,G,e0,he,r,?_⟩;rw[rD]at hw;exact hw
theorem abj{t:Tx}{a b:Ex}(iht:OkT Φ c E B X t)(iha:OkE Φ c E B X a)(ihb:OkE Φ c E B X b){e:Expr}(h:aj c (.ife t a b) e=true):PE X e (tE X.K B (wpE Φ (.ife t a b) E)):=by
 replace h:=Gg h;obtain ⟨_,_,_,_,rfl,h⟩:=h
 ·simp only[ae]at h;obtain ⟨⟨h1,h2⟩,h3⟩:=h;refine peI (UT (iht h1) (iha h2) (ihb h3)) λσ H Q hq=>el hq λρ F G e0 he r hw=>?_;rw[rE]at hw;refine jt e0 he r hw λb' G1 H1 F1 q e1 x1 he1 r1=>?_;cases b' with
  |true=>
   rw[if_pos rfl];exact ⟨ρ,F1,G1,e1,he1,r1,aG a (λd G' z=>PV.later z x1) q⟩
  |false=>
   rw[if_neg br];exact ⟨ρ,F1,G1,e1,he1,r1,aG b (λd G' z=>PV.later z x1) q⟩
theorem abk{x:Ex}(ih:OkE Φ c E B X x){e:Expr}(hp:ie e=true)(h:aj c x e=true):PT X e (tB' X.K B (wpT Φ (.val x) E)):=by
 refine ptI (V6 (ih h) (aaM hp X.env)) λσ H Q hq=>el hq λρ F G e0 he r hw=>?_;rw[ji]at hw;refine aM e0 he r hw λd G1 H1 F1 u q e1 x1 he1 r1 ru=>?_;split at q
 ·rename_i b hb;exact ⟨b,Eo r1 ru hb,q _ _ x1 r1⟩
 ·exact q.elim
theorem abl{t:Tx}(ih:OkT Φ c E B X t){e:Expr}(h:bG c (.not t) e=true):PT X e (tB' X.K B (wpT Φ (.not t) E)):=by
 replace h:=aax h;obtain ⟨_,_,rfl,h⟩:=h
 ·refine ptI (Ux (ih h)) λσ H Q hq=>el hq λρ F G e0 he r hw=>?_;rw[qP]at hw;exact jt e0 he r hw λb G1 H1 F1 q e1 x1 he1 r1=>q _ _ x1 r1
def kZ(Φ:aa)(E:EK)(isAnd:Bool)(x:Tx)(xs:Txs):ak->DH->(Bool->DH->Prop)->Prop:=λρ G kk=>wpT Φ x E ρ G λb G1=>fJ Φ xs isAnd b E ρ G1 kk
theorem Hc{isAnd:Bool}{pos:Pos}:∀(xs:Txs){x:Tx},OkT Φ c E B X x->uc Φ c E B X xs->∀{v:Expr}{vs:List Expr},bG c x v=true->ik c xs vs=true->
  PW X (.BoolOp (if isAnd then .And else .Or) (v::vs) pos) (tB' X.K B (kZ Φ E isAnd x xs))
 |.nil,x,ih,_,v,vs,h1,h2=>by
  unfold ik at h2;cases vs with
  |nil=>
   have go:∀σ H Q,tB' X.K B (kZ Φ E isAnd x .nil) σ H Q->tB' X.K B (wpT Φ x E) σ H Q:=λσ H Q hq=>el hq λρ F G e0 he r hw=>by
    unfold kZ at hw;refine ⟨ρ,F,G,e0,he,r,dh x (λb G1 q=>?_) hw⟩;rw[qU]at q;exact q
   cases isAnd with
   |true=>exact pwI (Ut (ih h1)) go
   |false=>exact pwI (Uu (ih h1)) go
  |cons _ _=>cases h2
 |.cons y ys,x,ih,hh,v,vs,h1,h2=>by
  unfold ik at h2;split at h2
  ·rename_i w ws;rw[ae]at h2;have rest:=Hc (isAnd:=isAnd) (pos:=pos) ys hh.1 hh.2 h2.1 h2.2;cases isAnd with
   |true=>
    refine pwI (Uv (ih h1) rest) λσ H Q hq=>el hq λρ F G e0 he r hw=>?_;unfold kZ at hw;refine jt e0 he r hw λb G1 H1 F1 q e1 x1 he1 r1=>?_;rw[j0]at q;cases b with
    |true=>
     rw[if_pos rfl];exact ⟨ρ,F1,G1,e1,he1,r1,dh y (λb' G' z=>sW ys (λc G2 z=>PB.later z x1) z) q⟩
    |false=>
     rw[if_neg br];exact q _ _ x1 r1
   |false=>
    refine pwI (Uw (ih h1) rest) λσ H Q hq=>el hq λρ F G e0 he r hw=>?_;unfold kZ at hw;refine jt e0 he r hw λb G1 H1 F1 q e1 x1 he1 r1=>?_;rw[j0]at q;cases b with
    |false=>
     rw[if_neg br];exact ⟨ρ,F1,G1,e1,he1,r1,dh y (λb' G' z=>sW ys (λc G2 z=>PB.later z x1) z) q⟩
    |true=>
     rw[if_pos rfl];exact q _ _ x1 r1
  ·cases h2
theorem abm{isAnd:Bool}{x:Tx}{xs:Txs}(ih:OkT Φ c E B X x)(hh:uc Φ c E B X xs){e:Expr}(h:bG c (.boo isAnd x xs) e=true):PT X e (tB' X.K B (wpT Φ (.boo isAnd x xs) E)):=by
 replace h:=aay h;obtain ⟨_,_,_,_,rfl,h⟩:=h
 ·simp only[ae,av]at h;obtain ⟨⟨e1,h1⟩,h2⟩:=h;subst e1;refine ptI (PW.pt (Hc xs ih hh h1 h2)) λσ H Q hq=>el hq λρ F G e0 he r hw=>⟨ρ,F,G,e0,he,r,?_⟩;rw[qQ]at hw;exact hw
def tG(K:PySem.W.Frag)(B:Bs)(t:Tg):TG:=λv σ H Q=>∃ρ F G d,Ext B.H B.F H F/\EnvR K H F ρ σ/\R K H F G/\Rep K H F d v/\aY t d ρ G (λρ'=>∀σ',EnvR K H F ρ' σ'->Q σ' H)
def tGs(K:PySem.W.Frag)(B:Bs)(t:Tgs):TGs:=λvs σ H Q=>∃ρ F G ds,Ext B.H B.F H F/\EnvR K H F ρ σ/\R K H F G/\Reps K H F ds vs/\bH t ds ρ G (λρ'=>∀σ',EnvR K H F ρ' σ'->Q σ' H)
theorem ue:∀{ts:Tgs}{es:List Expr}{env:Env},cz c ts es=true->(assignEach es env).length=es.length/\(assignEach es env).findIdx? (·.1)=none/\(assignEach es env).map (·.2)=es.map λe=>assign e env
 |.nil,[],env,_=>⟨rfl,rfl,rfl⟩
 |.nil,_::_,env,h=>by unfold cz at h;cases h
 |.cons t r,[],env,h=>by unfold cz at h;cases h
 |.cons t r,e::es,env,h=>by
  unfold cz at h;rw[ae]at h;obtain ⟨h1,h2,h3⟩:=ue (env:=env) h.2;have hs:assignEach (e::es) env=(false,assign e env)::assignEach es env:=by
   cases t with
   |nm i=>
    have h':=h.1;obtain ⟨_,_,rfl,_⟩:=yh h';rfl
   |tp ts=>
    have h':=h.1;obtain ⟨_,_,_,rfl,_⟩:=yj h';rfl
  rw[hs];refine ⟨by simp[h1],?_,by simp[h3]⟩;rw[eL];simp[h2]
section
variable {prog:Program} {w:World} {A:Around} {E:Value->Shared->Prop} {s:Shared}
theorem Hf{it t:Addr}{items:Array Value}(hne:t≠it):∀(n i:Nat)(s:Shared)(Q:List Value->Shared->Prop),s.heap.IsListIter it t i->s.heap.IsList t items->i+n<=items.size->
  (∀h',h'.IsListIter it t (i+n)->Heap.SameBut it s.heap h'->Q ((items.toList.drop i).take n) { s with heap:=h' })->wpAny (model prog w) A (draw (.ref it) n) Q E s
 |0,i,s,Q,hit,_,_,hQ=>by
  show wpAny _ _ (pure []) Q E s;exact bb (by simpa using hQ s.heap hit (Heap.SameBut.refl ..))
 |n+1,i,s,Q,hit,ht,hle,hQ=>by
  have hlt:i < items.size:=by omega
  show wpAny _ _ (pyNext (.ref it) >>= _) Q E s;refine ag (wpAny_pyNext_list_item hit ht (x:=items[i]) (by simp[hlt]) λh₁ hit₁ hs₁=>?_);refine ag (eJ (Hf hne n (i+1) _ _ hit₁ (ht.extBut hs₁.extBut hne) (by omega) λh₂ hit₂ hs₂=>bb ?_));have hd:items.toList.drop i=items[i]::items.toList.drop (i+1):=by simp[bd,hlt]
  have:=hQ h₂ (by rw[show i+(n+1)=i+1+n by omega];exact hit₂) (hs₁.trans hs₂);rw[hd,List.take_succ_cons]at this;exact this
theorem abn{t:Addr}{items:Array Value}{Q:List Value->Shared->Prop}(hh:A.handled=none)(ht:s.heap.IsList t items)
  (hQ:∀h',Heap.ExtBut s.heap.objs.size s.heap h'->Q items.toList { s with heap:=h' }):wpAny (model prog w) A (unpackItems (.ref t) items.size none) Q E s:=by
 have hlt:t≠s.heap.objs.size:=by obtain ⟨o,ho,_⟩:=ht;exact ck (ax ho)
 unfold unpackItems;refine ag ?_;unfold notIterableAtAll;refine ag (wpAny_specialOf ht.typeIs PySem.F.slot_list_iter.lookup ?_);refine bb ?_;simp only[Bool.false_eq_true,if_false];refine ag (eJ (wpAny_pyIter_list ht ?_));refine ag (eJ (Hf hlt items.size 0 _ _ ⟨_,ba _ rfl,rfl,rfl⟩ (ht.push _) (by omega) λh₁ hit₁ hs₁=>?_));have hall:List.take items.size (List.drop 0 items.toList)=items.toList:=by rw[List.drop_zero];exact df (by simp)
 rw[hall];rw[if_neg (by simp)];have ht₁:h₁.IsList t items:=(ht.push _).extBut hs₁.extBut hlt;refine ag (eJ (wpAny_pyNext_list_end hh hit₁ ht₁ (by simp) λh₂ he₂=>?_));simp only[Option.isSome_none,Bool.false_eq_true,if_false];refine bb (hQ h₂ λb o hb e=>he₂ b o hb (hs₁.extBut b o hb (ah _ e)))
theorem abo{env:Env}{elts:List Expr}{x1}{pos:Pos}{t:Addr}{items:Array Value}{Q:Unit->Shared->Prop}(hh:A.handled=none)(ht:s.heap.IsList t items)
  (hn:(assignEach elts env).length=items.size) (hstar:(assignEach elts env).findIdx? (·.1)=none)
  (h:∀h',Heap.ExtBut s.heap.objs.size s.heap h'->wpAny (model prog w) A (assignInOrder ((assignEach elts env).map (·.2)) items.toList) Q E { s with heap:=h' }):
  wpAny (model prog w) A (assign (.Tuple elts x1 pos) env (.ref t)) Q E s:=by
 rw[assign_Tuple];refine ag (wpAny_standAt ?_);unfold unpack;rw[hn,hstar];exact ag (eJ (abn hh ht h))
end
section
variable {X:Cx} {pos:Pos}
def abp(K:PySem.W.Frag)(n:Nat)(t:TGs):TG:=λv σ H Q=>∃a xs,v=.ref a/\SqL K H a xs/\xs.length=n/\t xs σ H Q
theorem abq{es:List Expr}{k:Nat}{t:TGs}{n:Nat}(hc:X.calm=true)(h:PGs X es t)
  (hn:(assignEach es X.env).length=n:=by rfl) (hst:(assignEach es X.env).findIdx? (·.1)=none:=by rfl):PG X (.Tuple es k pos) (abp X.K n t):=by
 intro pins s σ H v u Q I r hw;obtain ⟨a,xs,e1,hq,hl,hw⟩:=hw;subst e1;cases r;obtain ⟨its,rv,pl,hz⟩:=I.list hq;refine abo (I.ok.hd hc) pl.isList (by simp[hn,<-hl,rv.length]) hst λh' hx=>?_;have I1:Inv X pins σ H { s with heap:=h' }:=I.kept (t':=s.toks) λb o e=>hx b o (ck (ax e)) e;exact h pins _ σ H xs _ Q I1 (by simpa using rv) hw
end
mutual
theorem uf(S:Stat Φ CX k c E B X):∀(t:Tg){e:Expr},cI c t e=true->PG X e (tG X.K B t)
 |.nm i,e,h=>by
  replace h:=yh h;obtain ⟨x,pos,rfl,h⟩:=h
  ·skip;rw[ae,av]at h;obtain ⟨l,f⟩:=S.sto x h.2;intro pins s σ H v u Q I rv q;refine Vi (i:=i) S.nd (by rw[S.N];exact h.1) l f pins s σ H v u Q I rv ?_;obtain ⟨ρ,F,G,d,e0,he,r,rd,hw⟩:=q;unfold aY at hw;exact hw _ (he.set rd i)
 |.tp ts,e,h=>by
  replace h:=yj h;obtain ⟨es,kk,pos,rfl,h⟩:=h
  ·skip;obtain ⟨h1,h2,h3⟩:=ue (env:=X.env) h;intro pins s σ H v u Q I rv q;obtain ⟨ρ,F,G,d,e0,he,r,rd,hw⟩:=q;unfold aY at hw;split at hw
   ·rename_i ds;refine Vo (n:=es.length) S.calm (yo S ts h) h1 h2 pins s σ H v u Q I rv ?_;obtain ⟨a,vs,e1,q,t⟩:=rd;refine ⟨a,vs,e1,q.sq,?_,ρ,F,G,ds,e0,he,r,t,hw⟩;rw[<-t.length];exact yp ts h hw
   ·rename_i ds;refine abq (n:=es.length) S.calm (yo S ts h) h1 h2 pins s σ H v u Q I rv ?_;obtain ⟨a,vs,e1,q,t⟩:=rd;refine ⟨a,vs,e1,q.sq,?_,ρ,F,G,ds,e0,he,r,t,hw⟩;rw[<-t.length];exact yp ts h hw
   ·exact hw.elim
theorem yo(S:Stat Φ CX k c E B X):∀(ts:Tgs){es:List Expr},cz c ts es=true->PGs X es (tGs X.K B ts)
 |.nil,es,h=>by
  unfold cz at h;cases es with
  |nil=>
   intro pins s σ H vs us Q I rv q;refine Vl pins s σ H vs us Q I rv ?_;obtain ⟨ρ,F,G,ds,e0,he,r,rd,hw⟩:=q;unfold bH at hw;split at hw
   ·exact ⟨rd,hw _ he⟩
   ·exact hw.elim
  |cons _ _=>cases h
 |.cons t r,es,h=>by
  unfold cz at h;split at h
  ·rename_i e es;rw[ae]at h;intro pins s σ H vs us Q I rv q;have hs:(assignEach (e::es) X.env).map (·.2)=assign e X.env::(assignEach es X.env).map (·.2):=by
    have hh:cz c (.cons t r) (e::es)=true:=by unfold cz;show (cI c t e&&cz c r es)=true;rw[h.1,h.2];rfl
    rw[(ue (env:=X.env) hh).2.2,(ue (env:=X.env) h.2).2.2];rfl
   refine Vm (uf S t h.1) (yo S r h.2) hs pins s σ H vs us Q I rv ?_;obtain ⟨ρ,F,G,ds,e0,he,rr,rd,hw⟩:=q;unfold bH at hw;split at hw
   ·rename_i d ds;obtain ⟨v,vs',e1,rd1,rds⟩:=rd;refine ⟨v,vs',e1,ρ,F,G,d,e0,he,rr,rd1,fK (λρ' z σ' he'=>?_) t hw⟩;exact ⟨ρ',F,G,ds,e0,he',rr,rds,z⟩
   ·exact hw.elim
  ·cases h
theorem yp{G:DH}:∀(ts:Tgs){es:List Expr}{ds:List D}{ρ:ak}{Q:ak->Prop},cz c ts es=true->bH ts ds ρ G Q->ds.length=es.length
 |.nil,es,ds,ρ,Q,h,q=>by
  unfold cz at h;unfold bH at q;split at q
  ·cases es with
   |nil=>rfl
   |cons _ _=>cases h
  ·exact q.elim
 |.cons t r,es,ds,ρ,Q,h,q=>by
  unfold cz at h;split at h
  ·rw[ae]at h;unfold bH at q;split at q
   ·rename_i d ds;have:∃ρ',bH r ds ρ' G Q:=Hg t q;obtain ⟨ρ',q'⟩:=this;have:=yp r h.2 q';simp[this]
   ·exact q.elim
  ·cases h
theorem Hg{G:DH}:∀(t:Tg){d:D}{ρ:ak}{Q:ak->Prop},aY t d ρ G Q->∃ρ',Q ρ'
 |.nm i,d,ρ,Q,q=>⟨_,q⟩
 |.tp ts,d,ρ,Q,q=>by
  unfold aY at q;split at q
  ·exact yq ts q
  ·exact yq ts q
  ·exact q.elim
theorem yq{G:DH}:∀(ts:Tgs){ds:List D}{ρ:ak}{Q:ak->Prop},bH ts ds ρ G Q->∃ρ',Q ρ'
 |.nil,ds,ρ,Q,q=>by
  unfold bH at q;split at q
  ·exact ⟨_,q⟩
  ·exact q.elim
 |.cons t r,ds,ρ,Q,q=>by
  unfold bH at q;split at q
  ·obtain ⟨ρ',q'⟩:=Hg t q;exact yq r q'
  ·exact q.elim
end
end
structure WalkJ(K:PySem.W.Frag)(H:Hp)(F:FZ)(items:List D)(g:Hld)(J:It):Prop where
 go:∀H' F' G i,Ext H F H' F'->R K H' F' G->held g G->i < items.length->J.go i H'
 stop:∀H' F' G,Ext H F H' F'->R K H' F' G->held g G->J.stop items.length H'
 yld:∀H' F' i x H'' d G,Ext H F H' F'->R K H' F' G->held g G->items[i]?=some d->J.yld i H' x H''->Ext H' F' H'' F'/\R K H'' F' G/\Rep K H'' F' d x
section
variable {K:PySem.W.Frag} {H:Hp} {F:FZ}
structure Src(K:PySem.W.Frag)(H:Hp)(F:FZ)(u:Value)(ds:List D)(g:Hld)(k:SK):Prop where
 val:k.val=u
 sat:∀H' F' G,Ext H F H' F'->R K H' F' G->held g G->∃vs,k.Sat H' vs/\Reps K H' F' ds vs
theorem ug{d:D}{v:V}{u:Value}{G:DH}{ds:List D×Hld}(h:Rep K H F d v)(r:RelV v u)(e:itemsOf G d=some ds):∃k,Src K H F u ds.1 ds.2 k:=by
 cases d with
 |lst xs=>
  simp only[itemsOf,aE]at e;subst e;obtain ⟨a,vs,e1,q,t⟩:=h;subst e1;have hu:u=Value.ref a:=r;subst hu;exact ⟨.lst a,rfl,λH' F' G' x _ _=>⟨vs,(FzL.ext x q).2,Reps.ext x t⟩⟩
 |tup xs=>
  simp only[itemsOf,aE]at e;subst e;obtain ⟨a,vs,e1,q,t⟩:=h;subst e1;have hu:u=Value.ref a:=r;subst hu;exact ⟨.tup a,rfl,λH' F' G' x _ _=>⟨vs,(TpT.ext (K:=K) x q).it,Reps.ext x t⟩⟩
 |str l=>
  simp only[itemsOf,aE]at e;subst e;obtain ⟨e1,hl⟩:=h;subst e1;obtain ⟨t,hu⟩:∃t,u=Value.str (tx l) t:=r;subst hu;exact ⟨.str (tx l) t,rfl,λH' F' G' x _ _=>⟨_,rfl,by simpa using xT l⟩⟩
 |ref p=>
  simp only[itemsOf]at e;split at e
  ·rename_i xs hg;simp only[aE]at e;subst e;have e1:v=.ref p:=h;subst e1;have hu:u=Value.ref p:=r;subst hu;exact ⟨.lst p,rfl,λH' F' G' x r' hh=>r'.lst hh.1⟩
  ·cases e
 |_=>cases e
theorem uh{G:DH}{d:D}{ds:List D×Hld}(e:itemsOf G d=some ds):held ds.2 G:=by
 cases d with
 |ref p=>
  simp only[itemsOf]at e;split at e
  ·rename_i xs hg;simp only[aE]at e;subst e;exact ⟨hg,trivial⟩
  ·cases e
 |_=>simp only[itemsOf]at e;first | (cases e;done) | (simp only[aE]at e;subst e;exact trivial)
theorem abr{u:Value}{ds:List D}{g:Hld}{k:SK}(s:Src K H F u ds g k):WalkJ K H F ds g (Jk k) where
 go:=λH' F' G i x r hh hi=>by
  obtain ⟨vs,h1,h2⟩:=s.sat H' F' G x r hh;exact ⟨vs,h1,by rw[<-h2.length];exact hi⟩
 stop:=λH' F' G x r hh=>by
  obtain ⟨vs,h1,h2⟩:=s.sat H' F' G x r hh;exact ⟨vs,h1,h2.length.symm⟩
 yld:=λH' F' i v H'' d G x r hh hd y=>by
  obtain ⟨e,hv⟩:=y;subst e;obtain ⟨vs,h1,h2⟩:=s.sat _ F' G x r hh;obtain ⟨w,e1,rw'⟩:=h2.get hd;have e2:=hv vs h1;rw[e1]at e2;cases e2;exact ⟨Ext.refl _ _,r,rw'⟩
theorem jx:∀(n:Nat)(ds:List D),(dw n ds).length=ds.length
 |_,[]=>rfl
 |n,d::ds=>by simp[dw,jx (n+1) ds]
theorem jy:∀(n:Nat)(ds:List D)(i:Nat),(dw n ds)[i]?=(ds[i]?).map λd=>.tup [.int ((n+i:Nat):Int),d]
 |_,[],_=>by simp[dw]
 |n,d::ds,0=>by simp[dw]
 |n,d::ds,i+1=>by
  simp only[dw,List.getElem?_cons_succ];rw[jy (n+1) ds i];congr 1;funext d;rw[show n+1+i=n+(i+1) by omega]
theorem ul:∀(as bs:List D),(bI as bs).length=min as.length bs.length
 |[],bs=>by simp[bI]
 |a::as,[]=>by simp[bI]
 |a::as,b::bs=>by simp[bI,ul as bs]
theorem yr:∀(as bs:List D)(i:Nat)(d:D),(bI as bs)[i]?=some d->∃a b,as[i]?=some a/\bs[i]?=some b/\d=.tup [a,b]
 |[],bs,i,d,h=>by simp[bI]at h
 |a::as,[],i,d,h=>by simp[bI]at h
 |a::as,b::bs,0,d,h=>by simp[bI]at h;exact ⟨a,b,rfl,rfl,h.symm⟩
 |a::as,b::bs,i+1,d,h=>by
  simp only[bI,List.getElem?_cons_succ]at h;obtain ⟨x,y,h1,h2,h3⟩:=yr as bs i d h;exact ⟨x,y,by simpa using h1,by simpa using h2,h3⟩
theorem abt{u:Value}{ds:List D}{g:Hld}{k:SK}(s:Src K H F u ds g k):WalkJ K H F (dw 0 ds) g (Je k) where
 go:=λH' F' G i x r hh hi=>by
  obtain ⟨vs,h1,h2⟩:=s.sat H' F' G x r hh;exact ⟨vs,h1,by rw[<-h2.length,<-jx 0];exact hi⟩
 stop:=λH' F' G x r hh=>by
  obtain ⟨vs,h1,h2⟩:=s.sat H' F' G x r hh;exact ⟨vs,h1,by rw[jx];exact h2.length.symm⟩
 yld:=λH' F' i v H'' d G x r hh hd y=>by
  obtain ⟨vs,h1,h2⟩:=s.sat H' F' G x r hh;obtain ⟨T,y,hT,e1,e2,hv⟩:=y;subst e1 e2;rw[jy]at hd;obtain ⟨d',hd',e3⟩:=a8.mp hd;subst e3;obtain ⟨w,e1,rw'⟩:=h2.get hd';have e2:=hv vs h1;rw[e1]at e2;cases e2;refine ⟨c7 r hT,r.new hT,?_⟩;rw[Nat.zero_add];exact wj r hT (Reps.cons rfl (Reps.cons rw' Reps.nil))
theorem jz{g g':Hld}{G:DH}:held (g++g') G->held g G/\held g' G:=by
 induction g with
 |nil=>exact λh=>⟨trivial,h⟩
 |cons p r ih=>
  intro h;obtain ⟨h1,h2⟩:=ih h.2;exact ⟨⟨h.1,h1⟩,h2⟩
theorem abu{u u':Value}{ds es:List D}{g g':Hld}{k l:SK}(s:Src K H F u ds g k)(s':Src K H F u' es g' l):WalkJ K H F (bI ds es) (g++g') (Jz k l) where
 go:=λH' F' G i x r hh hi=>by
  obtain ⟨vs,h1,h2⟩:=s.sat H' F' G x r (jz hh).1;obtain ⟨ws,h3,h4⟩:=s'.sat H' F' G x r (jz hh).2;rw[ul]at hi;exact ⟨vs,ws,h1,h3,by rw[<-h2.length];omega,by rw[<-h4.length];omega⟩
 stop:=λH' F' G x r hh=>by
  obtain ⟨vs,h1,h2⟩:=s.sat H' F' G x r (jz hh).1;obtain ⟨ws,h3,h4⟩:=s'.sat H' F' G x r (jz hh).2;exact ⟨vs,ws,h1,h3,by rw[ul,<-h2.length,<-h4.length];omega⟩
 yld:=λH' F' i v H'' d G x r hh hd y=>by
  obtain ⟨T,y,z,hT,e1,e2,hv,hz⟩:=y;subst e1 e2;obtain ⟨a,b,ha,hb,e3⟩:=yr _ _ _ _ hd;subst e3;obtain ⟨vs,h1,h2⟩:=s.sat H' F' G x r (jz hh).1;obtain ⟨ws,h3,h4⟩:=s'.sat H' F' G x r (jz hh).2;obtain ⟨w,e1,rw'⟩:=h2.get ha;obtain ⟨w2,e3,rw2⟩:=h4.get hb;have e2:=hv vs h1;have e4:=hz ws h3;rw[e1]at e2;cases e2;rw[e3]at e4;cases e4;exact ⟨c7 r hT,r.new hT,wj r hT (Reps.cons rw' (Reps.cons rw2 Reps.nil))⟩
theorem abv(lo:Int)(n:Nat):WalkJ K H F (bC lo n) [] (Itr lo n) where
 go:=λH' F' G i x _ _ hi=>by show i < n;simpa [bC] using hi
 stop:=λH' F' G x _ _=>by show n<=(bC lo n).length;simp[bC]
 yld:=λH' F' i v H'' d G x r _ hd y=>by
  obtain ⟨e1,e2⟩:=y;subst e1 e2;refine ⟨Ext.refl _ _,r,?_⟩;unfold bC at hd;rw[bp]at hd;obtain ⟨j,hj,e3⟩:=a8.mp hd;have:j=i:=by have:=am.mp hj;obtain ⟨h1,h2⟩:=this;simpa using h2.symm
  subst this;subst e3;rfl
end
def tI(K:PySem.W.Frag)(B:Bs)(w:ak->DH->(List D->Hld->DH->Prop)->Prop):TI:=λσ H Rr=>∃ρ F G,Ext B.H B.F H F/\EnvR K H F ρ σ/\R K H F G/\
 w ρ G (λitems g G'=>∀H' F' J,Ext H F H' F'->R K H' F' G'->WalkJ K H' F' items g J->Rr J H')
section
variable {Φ:aa} {CX:CXT} {k:Nat} {c:CT} {E:EK} {B:Bs} {X:Cx}
theorem um{pins:List (Addr×Obj)}{σ:L2.St}{H:Hp}{s:Shared}(I:Inv X pins σ H s){kk:SK}{vs:List V}(h:kk.Sat H vs):∃its:Array Value,kk.On its s.heap:=by
 cases kk with
 |lst a=>obtain ⟨its,_,pl,_⟩:=I.list (SqL.of (show H a=some _ from h));exact ⟨its.toArray,pl.isList⟩
 |tup a=>obtain ⟨its,_,pl,_⟩:=I.tuple (SqT.of (show H a=some _ from h));exact ⟨its.toArray,pl⟩
 |str x t=>exact ⟨#[],trivial⟩
theorem abw{x:Ex}(ih:OkE Φ c E B X x){tg e:Expr}(h:aj c x e=true):PI X tg e (tI X.K B (wpI Φ (.seq x) E)):=by
 intro pins s σ H Rr I q;obtain ⟨ρ,F,G,e0,he,r,hw⟩:=q;rw[qY]at hw;have q':tE X.K B (wpE Φ x E) σ H (λv H1=>∃F1 G1 d items,R X.K H1 F1 G1/\Rep X.K H1 F1 d v/\itemsOf G1 d=some items/\∀J,WalkJ X.K H1 F1 items.1 items.2 J->Rr J H1):=
  aM e0 he r hw λd G1 H1 F1 u q e1 x1 he1 r1 ru=>by
   split at q
   ·rename_i ds hd;exact ⟨F1,G1,d,ds,r1,ru,hd,λJ w=>q H1 F1 J x1 r1 w⟩
   ·exact q.elim
 refine thn (ih h pins s σ H _ I q') λu s1 ⟨v,H1,I1,rv,F1,G1,d,items,r1,rd,hd,q1⟩=>?_;obtain ⟨kk,src⟩:=ug rd rv hd;obtain ⟨vs,sat,_⟩:=src.sat H1 F1 G1 (Ext.refl _ _) r1 (uh hd);obtain ⟨its,on⟩:=um I1 sat;rw[<-src.val];refine SK.iter on ?_;refine ⟨s1.heap.objs.size,[s1.heap.objs.size],_,_,H1,rfl,I1.kept (t':=s1.toks) λb o e=>ah _ e,aag kk _,SK.pos0,λb hb=>?_,q1 _ (abr src)⟩;have e:b=s1.heap.objs.size:=by simpa using hb
 subst e;exact I1.fpOk (aw _) (I1.hok.fresh (aw _))
theorem abx(S:Stat Φ CX k c E B X){a:Ex}(ih:OkE Φ c E B X a){tg e:Expr}(h:bV c (.rng a) tg e=true):PI X tg e (tI X.K B (wpI Φ (.rng a) E)):=by
 replace h:=Gz h;obtain ⟨_,_,_,_,rfl,h⟩:=h
 ·simp only[ae,av]at h;obtain ⟨⟨⟨e1,h1⟩,hm⟩,h2⟩:=h;subst e1;obtain ⟨g1,g2⟩:=dX h1;have hmg:=S.blt _ (a7.mp hm);have hs:=cH _ [] X.env (cW (bQ a h2));intro pins s σ H Rr I q;refine Vw (S.glo _ g1) hmg (iR (ih h2) jW hs) hs pins s σ H Rr I ?_;obtain ⟨ρ,F,G,e0,he,r,hw⟩:=q;rw[qZ]at hw;refine aM e0 he r hw λd G1 H1 F1 u q e1 x1 he1 r1 ru=>?_;split at q
  ·rename_i n;have e2:u=.int n:=ru;subst e2;exact ⟨n,rfl,q.1.1,q.1.2,q.2 H1 F1 _ x1 r1 (abv 0 n.toNat)⟩
  ·exact q.elim
theorem aby(S:Stat Φ CX k c E B X){a:Ex}(ih:OkE Φ c E B X a){tg e:Expr}(h:bV c (.rev a) tg e=true):PI X tg e (tI X.K B (wpI Φ (.rev a) E)):=nomatch (show false=true from h)
theorem abz(S:Stat Φ CX k c E B X){a b d:Ex}(iha:OkE Φ c E B X a)(ihb:OkE Φ c E B X b)(ihd:OkE Φ c E B X d){tg e:Expr}(h:bV c (.dwn a b d) tg e=true):PI X tg e (tI X.K B (wpI Φ (.dwn a b d) E)):=nomatch (show false=true from h)
theorem abA(S:Stat Φ CX k c E B X){a b:Ex}(iha:OkE Φ c E B X a)(ihb:OkE Φ c E B X b){tg e:Expr}(h:bV c (.rng2 a b) tg e=true):PI X tg e (tI X.K B (wpI Φ (.rng2 a b) E)):=nomatch (show false=true from h)
theorem abB(S:Stat Φ CX k c E B X){a:Ex}(ih:OkE Φ c E B X a){tg e:Expr}(h:bV c (.enm a) tg e=true):PI X tg e (tI X.K B (wpI Φ (.enm a) E)):=by
 replace h:=GC h;obtain ⟨_,_,_,_,_,_,_,rfl,rfl,h⟩:=h
 ·skip
  ·simp only[ae,av]at h;obtain ⟨⟨⟨e1,h1⟩,hm⟩,h2⟩:=h;subst e1;obtain ⟨g1,g2⟩:=dX h1;have hmg:=S.blt _ (a7.mp hm);have hs:=cH _ [] X.env (cW (bQ a h2));intro pins s σ H Rr I q;obtain ⟨ρ,F,G,e0,he,r,hw⟩:=q;rw[q8]at hw;have q':tL X.K B (aN Φ (.cons a .nil) E) σ H (λvs H1=>∃v F1 G1 d items,vs=[v]/\R X.K H1 F1 G1/\Rep X.K H1 F1 d v/\itemsOf G1 d=some items/\∀J,WalkJ X.K H1 F1 (dw 0 items.1) items.2 J->Rr J H1):=by
    refine cA (W:=λds G1=>∃d items,ds=[d]/\itemsOf G1 d=some items/\∀H' F' J,Ext H F H' F'->R X.K H' F' G1->WalkJ X.K H' F' (dw 0 items.1) items.2 J->Rr J H') e0 he r ?_ λds G1 H1 F1 vs q e1 x1 he1 r1 rvs=>?_
    ·rw[gq];refine aG a (λd G1 q=>?_) hw;rw[gn];split at q
     ·rename_i items hd;exact ⟨d,items,rfl,hd,q⟩
     ·exact q.elim
    ·obtain ⟨d,items,e2,hd,q⟩:=q;subst e2;obtain ⟨v,e3,rv⟩:=bx rvs;exact ⟨v,F1,G1,d,items,e3,r1,rv,hd,λJ w=>q H1 F1 J x1 r1 w⟩
   refine Call_ (iQ I (S.glo _ g1) hmg (u:=.type "enumerate") boot_enumerate (e8 (thn (tY ih (λh=>ym h) (c:=c) (es:=[_]) (by unfold aK;show (aj c a _&&true)=true;rw[h2];rfl) _ pins s σ H _ I q') λus s1 ⟨vs,H1,I1,r1v,q1⟩=>?_) hs rfl) (di g2) (bW g2));obtain ⟨v,F1,G1,d,items,e1,r1,rd,hd,q1⟩:=q1;subst e1;obtain ⟨u,rfl,ru⟩:=vals1 r1v;obtain ⟨kk,src⟩:=ug rd ru hd;obtain ⟨vs,sat,_⟩:=src.sat H1 F1 G1 (Ext.refl _ _) r1 (uh hd);obtain ⟨its,on⟩:=um I1 sat;rw[<-src.val];refine aap on λh' hen hit hsz hk=>?_;refine wpAny_pyIter_enum hen ?_;have n1:H1 s1.heap.objs.size=none:=I1.hok.fresh (aw _);have n2:H1 (s1.heap.objs.size+1)=none:=I1.hok.fresh (fk _);refine ⟨s1.heap.objs.size+1,[s1.heap.objs.size+1,s1.heap.objs.size],_,_,H1,rfl,I1.kept (t':=s1.toks) hk,aaf kk _ _ (Nat.succ_ne_self _),⟨⟨_,hen⟩,hit⟩,λb hb=>?_,q1 _ (abt src)⟩;have hb':b=s1.heap.objs.size+1\/b=s1.heap.objs.size:=by simpa using hb
   rcases hb' with rfl |rfl
   ·exact I1.fpOk (fk _) n2
   ·exact I1.fpOk (aw _) n1
theorem zap(n:Nat):ZApart (n+4) (n+2) (n+3) n (n+1):=
 ⟨(by omega:(n+2:Nat)≠n+4),(by omega:(n+3:Nat)≠n+4),(by omega:(n:Nat)≠n+4),(by omega:(n+1:Nat)≠n+4),(by omega:(n+2:Nat)≠n+3),(by omega:(n+2:Nat)≠n),(by omega:(n+2:Nat)≠n+1),(by omega:(n+3:Nat)≠n),(by omega:(n+3:Nat)≠n+1),(by omega:(n:Nat)≠n+1)⟩
theorem abC(S:Stat Φ CX k c E B X){a b:Ex}(iha:OkE Φ c E B X a)(ihb:OkE Φ c E B X b){tg e:Expr}(h:bV c (.zip a b) tg e=true):PI X tg e (tI X.K B (wpI Φ (.zip a b) E)):=by
 replace h:=GD h;obtain ⟨_,_,_,_,_,v,v',pos,rfl,rfl,h⟩:=h
 ·skip
  ·simp only[ae,av]at h;obtain ⟨⟨⟨⟨e1,h1⟩,hm⟩,h2⟩,h3⟩:=h;subst e1;obtain ⟨g1,g2⟩:=dX h1;have hmg:=S.blt _ (a7.mp hm);have hs2:=cH v' [] X.env (cW (bQ b h3));have hs:=cH v [v'] X.env (cW (bQ a h2));intro pins s σ H Rr I q;obtain ⟨ρ,F,G,e0,he,r,hw⟩:=q;rw[q9]at hw;have hA:aK c (.cons a (.cons b .nil)) [v,v']=true:=by
    unfold aK aK aK;show (aj c a v&&(aj c b v'&&true))=true;rw[h2,h3];rfl
   have q':tL X.K B (aN Φ (.cons a (.cons b .nil)) E) σ H (λvs H1=>∃v v' F1 G1 d d' items items',vs=[v,v']/\R X.K H1 F1 G1/\Rep X.K H1 F1 d v/\Rep X.K H1 F1 d' v'/\itemsOf G1 d=some items/\itemsOf G1 d'=some items'/\∀J,WalkJ X.K H1 F1 (bI items.1 items'.1) (items.2++items'.2) J->Rr J H1):=by
    refine cA (W:=λds G1=>∃d d' items items',ds=[d,d']/\itemsOf G1 d=some items/\itemsOf G1 d'=some items'/\∀H' F' J,Ext H F H' F'->R X.K H' F' G1->WalkJ X.K H' F' (bI items.1 items'.1) (items.2++items'.2) J->Rr J H') e0 he r ?_ λds G1 H1 F1 vs q e1 x1 he1 r1 rvs=>?_
    ·rw[gq];refine aG a (λd G1 q=>?_) hw;rw[gq];refine aG b (λd' G2 q=>?_) q;rw[gn];split at q
     ·rename_i items items' hd hd';exact ⟨d,d',items,items',rfl,hd,hd',q⟩
     ·exact q.elim
    ·obtain ⟨d,d',items,items',e2,hd,hd',q⟩:=q;subst e2;obtain ⟨w1,r2,e3,rw1,t2⟩:=rvs;obtain ⟨w2,e4,rw2⟩:=bx t2;subst e4;exact ⟨w1,w2,F1,G1,d,d',items,items',e3,r1,rw1,rw2,hd,hd',λJ w=>q H1 F1 J x1 r1 w⟩
   refine Call_ (iQ I (S.glo _ g1) hmg (u:=.type "zip") X6 (e8 (thn (tY iha (λh=>tY ihb (λh=>ym h) h) (c:=c) (es:=[v,v']) hA _ pins s σ H _ I q') λus s1 ⟨vs,H1,I1,r1v,q1⟩=>?_) hs (by rw[hs2];rfl)) (di g2) (bW g2));obtain ⟨w1,w2,F1,G1,d,d',items,items',e1,r1,rd,rd',hd,hd',q1⟩:=q1;subst e1;obtain ⟨u,u',rfl,ru,ru'⟩:=vals2 r1v;obtain ⟨kk,src⟩:=ug rd ru hd;obtain ⟨ll,src'⟩:=ug rd' ru' hd';obtain ⟨vs,sat,_⟩:=src.sat H1 F1 G1 (Ext.refl _ _) r1 (uh hd);obtain ⟨ws,sat',_⟩:=src'.sat H1 F1 G1 (Ext.refl _ _) r1 (uh hd');obtain ⟨its,on⟩:=um I1 sat;obtain ⟨its',on'⟩:=um I1 sat';rw[<-src.val,<-src'.val];refine aan on on' λh' hz hTI hTO p1 p2 hsz hk=>?_;refine wpAny_pyIter_zip hz ?_;have fr:∀j,H1 (s1.heap.objs.size+j)=none:=λj=>I1.hok.fresh (cf _ _);refine ⟨s1.heap.objs.size+4,[s1.heap.objs.size+4,s1.heap.objs.size+2,s1.heap.objs.size+3,s1.heap.objs.size,s1.heap.objs.size+1],_,_,H1,rfl,I1.kept (t':=s1.toks) hk,
    aak kk ll (s1.heap.objs.size+4) (s1.heap.objs.size+2) (s1.heap.objs.size+3) s1.heap.objs.size (s1.heap.objs.size+1) (zap s1.heap.objs.size),⟨hz,hTI,⟨_,_,hTO⟩,p1,p2⟩,λb hb=>?_,q1 _ (abu src src')⟩
   have hb':b=s1.heap.objs.size+4\/b=s1.heap.objs.size+2\/b=s1.heap.objs.size+3\/b=s1.heap.objs.size\/b=s1.heap.objs.size+1:=by simpa using hb
   rcases hb' with rfl |rfl |rfl |rfl |rfl
   ·exact I1.fpOk (cf _ _) (fr 4)
   ·exact I1.fpOk (cf _ _) (fr 2)
   ·exact I1.fpOk (cf _ _) (fr 3)
   ·exact I1.fpOk (aw _) (fr 0)
   ·exact I1.fpOk (cf _ _) (fr 1)
end
section
variable {Φ:aa} {CX:CXT} {k:Nat} {c:CT} {E:EK} {B:Bs} {X:Cx}
theorem yt:∀{l:List Str},eX l=true->l.Nodup
 |[],_=>List.nodup_nil
 |x::r,h=>by
  unfold eX at h;rw[ae]at h;refine List.nodup_cons.mpr ⟨λhm=>?_,yt h.2⟩;have:=h.1;rw[a7.mpr hm]at this;cases this
theorem uo{N:List Str}{scope:Scope}:∀{N':List Str}{cap:List (Option Nat)},X.N=N->gw N scope N' cap=true->Caps X scope N' cap
 |[],[],_,_=>trivial
 |_::N',none::cap,e,h=>uo (N':=N') (cap:=cap) e h
 |x::N',some j::cap,e,h=>by
  unfold gw at h;simp only[ae,av]at h;exact ⟨⟨by rw[e];exact h.1.1,h.1.2⟩,uo (N':=N') (cap:=cap) e h.2⟩
 |[],_::_,_,h=>by cases h
 |_::_,[],_,h=>by cases h
theorem lg{scope:Scope}{env:Env}(x:Str):(relabel scope env).names.lookup x=(scope.names.lookup x).map λkk=>if (kk==NameKind.free&&env.scope.kind==.function&&env.kindOf x==some .cell)=true then NameKind.cell else kk:=vP
theorem Stat.comp(S:Stat Φ CX k c E B X){N':List Str}{scope:Scope}(hn:eX N'=true)(cl:List (Str×Addr))(C:Addr)(s₁:Shared)(H₁:Hp)(fp:List Addr)(pn:List (Addr×Obj)):
  Stat Φ CX k (c.comp N' scope) noE B (X.comp N' scope cl C s₁ H₁ fp pn) where
 N:=rfl
 nd:=yt hn
 calm:=S.calm
 own:=PassesOwn.never
 kd:=rfl
 vis:=λx h=>by
  have h:gZ (scope.names.lookup x)=true:=h;show (relabel scope X.env).names.lookup x=_\/(relabel scope X.env).names.lookup x=_\/(relabel scope X.env).names.lookup x=_;rw[lg];cases e:scope.names.lookup x with
  |none=>rw[e]at h;cases h
  |some kk=>
   rw[e]at h;cases kk with
   | «local»=>exact .inl (by simp[show (NameKind.«local»==NameKind.free)=false by decide])
   |cell=>exact .inr (.inl (by simp[show (NameKind.cell==NameKind.free)=false by decide]))
   |free=>
    by_cases q:(NameKind.free==NameKind.free&&X.env.scope.kind==ScopeKind.function&&X.env.kindOf x==some NameKind.cell)=true
    ·exact .inr (.inl (by simp only[Option.map_some,if_pos q]))
    ·exact .inr (.inr (by simp only[Option.map_some,if_neg q]))
   |globalExplicit=>cases h
   |globalImplicit=>cases h
 cel:=λx h=>by
  have h:scope.names.lookup x=some .cell\/scope.names.lookup x=some .free:=h;show (relabel scope X.env).names.lookup x=_\/(relabel scope X.env).names.lookup x=_;rw[lg];rcases h with h |h
  ·exact .inl (by rw[h];simp[show (NameKind.cell==NameKind.free)=false by decide])
  ·rw[h];by_cases q:(NameKind.free==NameKind.free&&X.env.scope.kind==ScopeKind.function&&X.env.kindOf x==some NameKind.cell)=true
   ·exact .inl (by simp only[Option.map_some,if_pos q])
   ·exact .inr (by simp only[Option.map_some,if_neg q])
 glo:=λx h=>by
  have h:scope.names.lookup x=some .globalImplicit:=h;show (relabel scope X.env).names.lookup x=_;rw[lg,h];simp[show (NameKind.globalImplicit==NameKind.free)=false by decide]
 sto:=λx h=>by
  have h:(scope.names.lookup x==some .local||(false&&scope.names.lookup x==some .cell))=true:=h;rw[Bool.false_and,Bool.or_false,av]at h;have e:(relabel scope X.env).names.lookup x=some .local:=by rw[lg,h];simp[show (NameKind.«local»==NameKind.free)=false by decide]
  exact ⟨.inl e,.inr e⟩
 room:=S.room
 call:=S.call
 blt:=S.blt
 con:=S.con
 exc:=⟨_,S.nox _,λ_ _ _ _ _ _ _ _ _ _ q=>q.elim,λx G' H' F' h=>h.elim⟩
 nox:=S.nox
 xcl:=λC h=>nomatch (show false=true from h)
 loc:=λx h=>by show (relabel scope X.env).names.lookup x=_;rw[lg,show scope.names.lookup x=some .local from h];simp[show (NameKind.«local»==NameKind.free)=false by decide]
 xis:=λC h=>nomatch (show false=true from h)
 mth:=λ_ _ _ _ h=>nomatch h
 mko:=λ_ _ h=>nomatch h
 fld:=λ_ _ h=>nomatch h
 trc:=λh=>absurd rfl h
theorem abD(S:Stat Φ CX k c E B X){t:Tx}(ih:OkT Φ c E B X t){ifs:List Expr}(h:kO c t ifs=true):PIf X ifs (tB' X.K B (wpT Φ t E)):=by
 unfold kO at h;rw[cS]at h;rcases h with h |h
 ·rw[ae,fF]at h;obtain ⟨hy,rfl⟩:=h;cases t with
  |yes=>
   intro pins s σ H Q I q;refine Xx pins s σ H Q I ?_;obtain ⟨ρ,F,G,e0,he,r,hw⟩:=q;rw[qR]at hw;exact hw.now r
  |_=>cases hy
 ·obtain ⟨e,he,h⟩:=aZ h;rw[eY he];exact Xy (ih h)
theorem Hh(S:Stat Φ CX k c E B X){fz:Bool}{elt:Ex}{tg:Tg}{it:It'}{cond:Tx}{N':List Str}{cap:List (Option Nat)}{scope:Scope}{elt' tg':Expr}{ifs:List Expr}(hn:eX N'=true)
  (ihe:∀{X':Cx},Stat Φ CX k (c.comp N' scope) noE B X'->OkE Φ (c.comp N' scope) noE B X' elt) (iht:∀{X':Cx},Stat Φ CX k (c.comp N' scope) noE B X'->OkT Φ (c.comp N' scope) noE B X' cond)
  (hg:cI (c.comp N' scope) tg tg'=true) (hi:kO (c.comp N' scope) cond ifs=true) (he:aj (c.comp N' scope) elt elt'=true)
  {σ:L2.St} {H:Hp} {Q:VK} {ρ:ak} {F:FZ} {G:DH} (e0:Ext B.H B.F H F) (henv:EnvR X.K H F ρ σ) (r:R X.K H F G)
  (hw:wpI Φ it E ρ G λitems g G1=>
   compLoop (λd ρ' G' k'=>aY tg d ρ' G' λρ1=>wpT Φ cond noE ρ1 G' λb G2=>match b with |true=>wpE Φ elt noE ρ1 G2 λy G3=>k' (some y) ρ1 G3 |false=>k' none ρ1 G2)
    g items [] (cap.map λo=>match o with |none=>none |some j=>(ρ[j]?).join) G1 λds G2=>mk fz ds G2 (PV X.K H F Q)):
  tI X.K B (wpI Φ it E) σ H (λJ H1=>CP X N' scope tg' ifs elt' J (dN cap σ) H1 Q):=by
 refine ⟨ρ,F,G,e0,henv,r,j7 it (λitems g G1 q H1 F1 J x1 r1 W=>?_) hw⟩;let step:D->ak->DH->(Option D->ak->DH->Prop)->Prop:=λd ρ' G' k'=>aY tg d ρ' G' λρ1=>wpT Φ cond noE ρ1 G' λb G2=>match b with |true=>wpE Φ elt noE ρ1 G2 λy G3=>k' (some y) ρ1 G3 |false=>k' none ρ1 G2
 let fin:List D->DH->Prop:=λds G2=>mk fz ds G2 (PV X.K H F Q)
 refine ⟨λi m ys σ' H'=>m=items.length - i/\i<=items.length/\∃ρ' F' G' acc,Ext B.H B.F H' F'/\Ext H1 F1 H' F'/\EnvR X.K H' F' ρ' σ'/\R X.K H' F' G'/\Reps X.K H' F' acc ys/\compLoop step g (items.drop i) acc ρ' G' fin,
  ⟨items.length,by simp,eh _,_,F1,G1,[],e0.trans x1,Ext.refl _ _,(henv.ext x1).cap cap,r1,rfl,q⟩,?_⟩
 rintro i m ys σ' H' ⟨rfl,hle,ρ',F',G',acc,eB,e1,he',r',ra,hl⟩;by_cases hlt:i < items.length
 ·have hd:items.drop i=items[i]::items.drop (i+1):=bd hlt;rw[hd]at hl;obtain ⟨hh,hz,hl⟩:=hl;refine .inr ⟨W.go H' F' G' i e1 r' hh hlt,by rw[<-ra.length];exact bg hz szl,λcl C s₁ H₁ fp pn=>?_⟩;have S':=S.comp (scope:=scope) hn cl C s₁ H₁ fp pn;refine ⟨_,_,_,uf S' tg hg,abD S' (iht S') hi,ihe S' he,λx H2 hy=>?_⟩;obtain ⟨xy,ry,rx⟩:=W.yld H' F' i x H2 items[i] G' e1 r' hh (by simp[hlt]) hy;refine ⟨ρ',F',G',items[i],eB.trans xy,he'.ext xy,ry,rx,fK (λρ1 z σ1 hσ1=>?_) tg hl⟩;refine jt (eB.trans xy) hσ1 ry z λb G2 H3 F3 z e3 x3 he3 r3=>?_;cases b with
  |true=>
   rw[if_pos rfl];refine aM e3 he3 r3 z λy G4 H4 F4 v z e4 x4 he4 r4 rv=>?_;exact ⟨items.length - (i+1),by omega,rfl,hlt,ρ1,F4,G4,acc++[y],e4,e1.trans (xy.trans (x3.trans x4)),he4,r4,(Reps.ext (xy.trans (x3.trans x4)) ra).append (Reps.cons rv Reps.nil),z⟩
  |false=>
   rw[if_neg br];exact ⟨items.length - (i+1),by omega,rfl,hlt,ρ1,F3,G2,acc,e3,e1.trans (xy.trans x3),he3,r3,Reps.ext (xy.trans x3) ra,z⟩
 ·have hi':i=items.length:=by omega
  subst hi';rw[eI]at hl;obtain ⟨hh,hz,hl⟩:=hl;refine .inl ⟨W.stop H' F' G' e1 r' hh,by rw[<-ra.length];exact cV hz,λp hp=>?_⟩;exact fL (dB (λd G' z=>PV.later z (x1.trans e1)) hl) r' ra p hp
structure CompC(c:CT)(elt:Ex)(tg:Tg)(it:It')(cond:Tx)(N':List Str)(cap:List (Option Nat))(elt' tg' iter:Expr)(ifs:List Expr)(scope:Scope):Prop where
 it:bV c it tg' iter=true
 cap:gw c.N scope N' cap=true
 sc:jn c scope=true
 nd:eX N'=true
 tg:cI (c.comp N' scope) tg tg'=true
 cd:kO (c.comp N' scope) cond ifs=true
 el:aj (c.comp N' scope) elt elt'=true
theorem Hi(S:Stat Φ CX k c E B X){scope:Scope}(h:jn c scope=true):scope.names.all (λy=>y.2 != NameKind.cell)=true/\scope.names.all (λy=>y.2 != NameKind.local||scope.names.lookup y.1==some NameKind.local)=true/\
  scope.names.all (λy=>y.2 != NameKind.free||(X.env.kindOf y.1==some NameKind.cell||X.env.kindOf y.1==some NameKind.free))=true/\scope.kind=.function:=by
 unfold jn at h;simp only[ae,bq]at h;obtain ⟨⟨⟨⟨h1,h2⟩,h3⟩,h4⟩,_⟩:=h;refine ⟨h1,h2,?_,h4⟩;rw[b9]at h3 ⊢;intro y hy;have:=h3 y hy;rw[cS,cS,av,av]at this;rw[cS,cS,av,av];rcases this with q |q
 ·exact .inl q
 ·exact .inr (S.cel y.1 q)
theorem Hj{fz:Bool}{elt:Ex}{tg:Tg}{it:It'}{cond:Tx}{N:List String}{cap:List (Option Nat)}{e:Expr}(h:aj c (.comp fz elt tg it cond N cap) e=true):
  ∃elt' tg' iter ifs scope pos,e=.ListComp elt' [⟨tg',iter,ifs,0⟩] scope pos/\CompC c elt tg it cond (N.map Str.ofString) cap elt' tg' iter ifs scope:=by
 replace h:=Gy h;obtain ⟨_,_,_,_,_,_,_,rfl,h⟩:=h;simp only[ae,bq]at h;obtain ⟨⟨⟨⟨⟨⟨⟨h1,h2⟩,h3⟩,h4⟩,h5⟩,h6⟩,h7⟩,h8⟩:=h;subst h1;exact ⟨_,_,_,_,_,_,rfl,h2,h3,h4,h5,h6,h7,h8⟩
theorem yu{it:It'}{tg' iter:Expr}(h:bV c it tg' iter=true)(env:Env)(x:Value):foldedSetIterable iter env x=pure x:=by
 cases it with
 |seq y=>exact aaK (bQ y (show aj c y iter=true from h)) env x
 |rng a=>obtain ⟨_,_,_,_,rfl,_⟩:=Gz h;rfl
 |rng2 _ _=>exact nomatch (show false=true from h)
 |rev _=>exact nomatch (show false=true from h)
 |dwn _ _ _=>exact nomatch (show false=true from h)
 |enm a=>obtain ⟨_,_,_,_,_,_,_,_,rfl,_⟩:=GC h;rfl
 |zip a b=>obtain ⟨_,_,_,_,_,_,_,_,_,rfl,_⟩:=GD h;rfl
theorem abE(S:Stat Φ CX k c E B X){fz:Bool}{elt:Ex}{tg:Tg}{it:It'}{cond:Tx}{N:List String}{cap:List (Option Nat)}
  (ihe:∀{c':CT}{X':Cx},Stat Φ CX k c' noE B X'->OkE Φ c' noE B X' elt) (iht:∀{c':CT}{X':Cx},Stat Φ CX k c' noE B X'->OkT Φ c' noE B X' cond)
  (ihi:∀{tg' iter:Expr},bV c it tg' iter=true->PI X tg' iter (tI X.K B (wpI Φ it E))) {e:Expr} (h:aj c (.comp fz elt tg it cond N cap) e=true):
  PE X e (tE X.K B (wpE Φ (.comp fz elt tg it cond N cap) E)):=by
 obtain ⟨elt',tg',iter,ifs,scope,pos,rfl,C⟩:=Hj h;obtain ⟨s1,s2,s3,s4⟩:=Hi S C.sc;refine peI (Ye (N.map Str.ofString) cap S.calm (ihi C.it) (uo S.N C.cap) s1 s2 s3 s4 (yu C.it X.env)) λσ H Q hq=>el hq λρ F G e0 he r hw=>?_;rw[xu]at hw;exact Hh S C.nd (λS'=>ihe S') (λS'=>iht S') C.tg C.cd C.el e0 he r hw
theorem bc{x:Ex}(ih:OkE Φ c E B X x)(hn:∀l os rs pos,aj c x (.Compare l os rs pos)=true->False){e:Expr}(h:bG c (.val x) e=true):PT X e (tB' X.K B (wpT Φ (.val x) E)):=by
 have h:((ie e||kJ e)&&aj c x e&&Fx x)=true:=h;simp only[ae,cS]at h;obtain ⟨⟨h1,h2⟩,h3⟩:=h;rcases h1 with h1 |h1
 ·exact abk ih h1 h2
 ·obtain ⟨⟨t,ht⟩,_⟩:=cp.mp h1;rw[ht]at h2;exact (hn _ _ _ _ h2).elim
end
mutual
theorem aA{Φ:aa}{CX:CXT}{k:Nat}{B:Bs}:∀(x:Ex){c:CT}{E:EK}{X:Cx},Stat Φ CX k c E B X->OkE Φ c E B X x
 |.var i,c,E,X,S=>by intro h;exact aaO S h
 |.cst d,c,E,X,S=>by intro h;exact aaP S h
 |.glb x d,c,E,X,S=>by intro h;exact aaQ S h
 |.bin op fz a b,c,E,X,S=>by intro h;exact aaR S (aA a S) (aA b S) h
 |.neg a,c,E,X,S=>by intro h;exact aaS S (aA a S) h
 |.cmp op a b,c,E,X,S=>by intro h;exact (GQ S (aA a S) (aA b S) h).1
 |.chn op op' a b d,c,E,X,S=>by intro h;exact (GR S (aA a S) (aA b S) (aA d S) h).1
 |.not a,c,E,X,S=>by intro h;exact aaT S (aA a S) h
 |.boo isAnd e es,c,E,X,S=>by intro h;exact abi (aA e S) (dY es S) h
 |.ife t a b,c,E,X,S=>by intro h;exact abj (ir t S) (aA a S) (aA b S) h
 |.tup es,c,E,X,S=>by intro h;exact aaU S (EachE.oks (dY es S)) h
 |.lst fz es,c,E,X,S=>by intro h;exact aaV S (EachE.oks (dY es S)) h
 |.idx a i,c,E,X,S=>by intro h;exact aaW S (aA a S) (aA i S) h
 |.slc fz a lo hi,c,E,X,S=>by intro h;exact aaX S (aA a S) (Hl lo S) (Hl hi S) h
 |.rvs fz a s,c,E,X,S=>by intro h;exact aaY S (aA a S) (aA s S) h
 |.call f es,c,E,X,S=>by intro h;exact aa0 S (EachE.oks (dY es S)) h
 |.bcl f es,c,E,X,S=>by intro h;exact aa1 S (EachE.oks (dY es S)) h
 |.lcl fz f es,c,E,X,S=>by intro h;exact aa2 S (EachE.oks (dY es S)) h
 |.isi a t,c,E,X,S=>by intro h;exact aa6 S (aA a S) h
 |.isx a C xs,c,E,X,S=>by intro h;exact aa7 S (aA a S) h
 |.fst es,c,E,X,S=>by intro h;exact abh S (dY es S) h
 |.rgl fz a,c,E,X,S=>by intro h;exact aa3 S (aA a S) h
 |.rgt a,c,E,X,S=>by intro h;exact aa4 S (aA a S) h
 |.fld C f o,c,E,X,S=>by intro h;exact aa9 S (aA o S) h
 |.mcl f C m o es,c,E,X,S=>by intro h;exact abd S (aA o S) (EachE.oks (dY es S)) h
 |.mko C es,c,E,X,S=>by intro h;exact abe S (EachE.oks (dY es S)) h
 |.pp0 o,c,E,X,S=>by intro h;exact abf S (aA o S) h
 |.rpl f a b ix,c,E,X,S=>by intro h;exact aa8 S (aA a S) (aA b S) (aA ix S) h
 |.mth m o es,c,E,X,S=>by intro h;exact abg S (aA o S) (EachE.oks (dY es S)) h
 |.comp fz elt tg it cond N cap,c,E,X,S=>by intro h;exact abE S (λS'=>aA elt S') (λS'=>ir cond S') (yw it S) h
 |.frz a,c,E,X,S=>by intro h;exact aaZ S (aA a S) h
theorem dY{Φ:aa}{CX:CXT}{k:Nat}{B:Bs}:∀(x:Exs){c:CT}{E:EK}{X:Cx},Stat Φ CX k c E B X->EachE Φ c E B X x
 |.nil,_,_,_,_=>trivial
 |.cons e es,c,E,X,S=>⟨aA e S,dY es S⟩
theorem ir{Φ:aa}{CX:CXT}{k:Nat}{B:Bs}:∀(x:Tx){c:CT}{E:EK}{X:Cx},Stat Φ CX k c E B X->OkT Φ c E B X x
 |.not t,c,E,X,S=>by intro h;exact abl (ir t S) h
 |.boo isAnd t ts,c,E,X,S=>by intro h;exact abm (ir t S) (Hk ts S) h
 |.yes,c,E,X,S=>by intro h;exact nomatch (show false=true from h)
 |.val (.cmp op a b),c,E,X,S=>by
  intro h;have h:((ie _||kJ _)&&aj c (.cmp op a b) _&&true)=true:=h;simp only[ae]at h;exact (GQ S (aA a S) (aA b S) h.1.2).2
 |.val (.chn op op' a b d),c,E,X,S=>by
  intro h;have h:((ie _||kJ _)&&aj c (.chn op op' a b d) _&&true)=true:=h;simp only[ae]at h;exact (GR S (aA a S) (aA b S) (aA d S) h.1.2).2
 |.val (.frz a),c,E,X,S=>by
  intro h;have h:((ie _||kJ _)&&aj c (.frz a) _&&false)=true:=h;rw[Bool.and_false]at h;cases h
 |.val (.var i),c,E,X,S=>by intro h;exact bc (aA (.var i) S) (λ_ _ _ _ h=>nomatch (show false=true from h)) h
 |.val (.cst d),c,E,X,S=>by intro h;exact bc (aA (.cst d) S) (λ_ _ _ _ h=>nomatch (show false=true from h)) h
 |.val (.glb x d),c,E,X,S=>by intro h;exact bc (aA (.glb x d) S) (λ_ _ _ _ h=>nomatch (show false=true from h)) h
 |.val (.bin op fz a b),c,E,X,S=>by intro h;exact bc (aA (.bin op fz a b) S) (λ_ _ _ _ h=>nomatch (show false=true from h)) h
 |.val (.neg a),c,E,X,S=>by intro h;exact bc (aA (.neg a) S) (λ_ _ _ _ h=>nomatch (show false=true from h)) h
 |.val (.not a),c,E,X,S=>by intro h;exact bc (aA (.not a) S) (λ_ _ _ _ h=>nomatch (show false=true from h)) h
 |.val (.boo isAnd e es),c,E,X,S=>by intro h;exact bc (aA (.boo isAnd e es) S) (λ_ _ _ _ h=>nomatch (show false=true from h)) h
 |.val (.ife t a b),c,E,X,S=>by intro h;exact bc (aA (.ife t a b) S) (λ_ _ _ _ h=>nomatch (show false=true from h)) h
 |.val (.tup es),c,E,X,S=>by intro h;exact bc (aA (.tup es) S) (λ_ _ _ _ h=>nomatch (show false=true from h)) h
 |.val (.lst fz es),c,E,X,S=>by intro h;exact bc (aA (.lst fz es) S) (λ_ _ _ _ h=>nomatch (show false=true from h)) h
 |.val (.idx a i),c,E,X,S=>by intro h;exact bc (aA (.idx a i) S) (λ_ _ _ _ h=>nomatch (show false=true from h)) h
 |.val (.slc fz a lo hi),c,E,X,S=>by intro h;exact bc (aA (.slc fz a lo hi) S) (λ_ _ _ _ h=>nomatch (show false=true from h)) h
 |.val (.rvs fz a s),c,E,X,S=>by intro h;exact bc (aA (.rvs fz a s) S) (λ_ _ _ _ h=>nomatch (show false=true from h)) h
 |.val (.call f es),c,E,X,S=>by intro h;exact bc (aA (.call f es) S) (λ_ _ _ _ h=>nomatch (show false=true from h)) h
 |.val (.bcl f es),c,E,X,S=>by intro h;exact bc (aA (.bcl f es) S) (λ_ _ _ _ h=>nomatch (show false=true from h)) h
 |.val (.lcl fz f es),c,E,X,S=>by intro h;exact bc (aA (.lcl fz f es) S) (λ_ _ _ _ h=>nomatch (show false=true from h)) h
 |.val (.isx a C xs),c,E,X,S=>by intro h;exact bc (aA (.isx a C xs) S) (λ_ _ _ _ h=>nomatch (show false=true from h)) h
 |.val (.rgl fz a),c,E,X,S=>by intro h;exact bc (aA (.rgl fz a) S) (λ_ _ _ _ h=>nomatch (show false=true from h)) h
 |.val (.rpl f a b ix),c,E,X,S=>by intro h;exact bc (aA (.rpl f a b ix) S) (λ_ _ _ _ h=>nomatch (show false=true from h)) h
 |.val (.fld C f o),c,E,X,S=>by intro h;exact bc (aA (.fld C f o) S) (λ_ _ _ _ h=>nomatch (show false=true from h)) h
 |.val (.mcl f C m o es),c,E,X,S=>by intro h;exact bc (aA (.mcl f C m o es) S) (λ_ _ _ _ h=>nomatch (show false=true from h)) h
 |.val (.mko C es),c,E,X,S=>by intro h;exact bc (aA (.mko C es) S) (λ_ _ _ _ h=>nomatch (show false=true from h)) h
 |.val (.pp0 o),c,E,X,S=>by intro h;exact bc (aA (.pp0 o) S) (λ_ _ _ _ h=>nomatch (show false=true from h)) h
 |.val (.rgt a),c,E,X,S=>by intro h;exact bc (aA (.rgt a) S) (λ_ _ _ _ h=>nomatch (show false=true from h)) h
 |.val (.fst es),c,E,X,S=>by intro h;exact bc (aA (.fst es) S) (λ_ _ _ _ h=>nomatch (show false=true from h)) h
 |.val (.isi a t),c,E,X,S=>by intro h;exact bc (aA (.isi a t) S) (λ_ _ _ _ h=>nomatch (show false=true from h)) h
 |.val (.mth m o es),c,E,X,S=>by intro h;exact bc (aA (.mth m o es) S) (λ_ _ _ _ h=>nomatch (show false=true from h)) h
 |.val (.comp fz elt tg it cond N cap),c,E,X,S=>by intro h;exact bc (aA (.comp fz elt tg it cond N cap) S) (λ_ _ _ _ h=>nomatch (show false=true from h)) h
theorem Hk{Φ:aa}{CX:CXT}{k:Nat}{B:Bs}:∀(x:Txs){c:CT}{E:EK}{X:Cx},Stat Φ CX k c E B X->uc Φ c E B X x
 |.nil,_,_,_,_=>trivial
 |.cons e es,c,E,X,S=>⟨ir e S,Hk es S⟩
theorem Hl{Φ:aa}{CX:CXT}{k:Nat}{B:Bs}:∀(x:Ox){c:CT}{E:EK}{X:Cx},Stat Φ CX k c E B X->∀y,x=.ob y->OkE Φ c E B X y
 |.no,c,E,X,S,y,e=>by cases e
 |.ob z,c,E,X,S,y,e=>by injection e with e;subst e;exact aA z S
theorem yw{Φ:aa}{CX:CXT}{k:Nat}{B:Bs}:∀(x:It'){c:CT}{E:EK}{X:Cx},Stat Φ CX k c E B X->∀{tg e:Expr},bV c x tg e=true->PI X tg e (tI X.K B (wpI Φ x E))
 |.seq y,c,E,X,S,tg,e,h=>abw (aA y S) (show aj c y e=true from h)
 |.rng a,c,E,X,S,tg,e,h=>abx S (aA a S) h
 |.rng2 a b,c,E,X,S,tg,e,h=>abA S (aA a S) (aA b S) h
 |.rev a,c,E,X,S,tg,e,h=>aby S (aA a S) h
 |.dwn a b d,c,E,X,S,tg,e,h=>abz S (aA a S) (aA b S) (aA d S) h
 |.enm a,c,E,X,S,tg,e,h=>abB S (aA a S) h
 |.zip a b,c,E,X,S,tg,e,h=>abC S (aA a S) (aA b S) h
end
def EnD(K:PySem.W.Frag)(H:Hp)(F:FZ)(D:Ends):En where
 nx:=λρ G'=>∀H' F' σ',Ext H F H' F'->EnvR K H' F' ρ σ'->R K H' F' G'->D.nx σ' H'
 rt:=PV K H F D.rt
 bk:=λρ G'=>∀H' F' σ',Ext H F H' F'->EnvR K H' F' ρ σ'->R K H' F' G'->D.bk σ' H'
 ct:=λρ G'=>∀H' F' σ',Ext H F H' F'->EnvR K H' F' ρ σ'->R K H' F' G'->D.ct σ' H'
theorem EnD.later{K:PySem.W.Frag}{H H1:Hp}{F F1:FZ}{D:Ends}(x:Ext H F H1 F1):(EnD K H F D).Le (EnD K H1 F1 D):=
 ⟨λ_ _ h H' F' σ' x1=>h H' F' σ' (x.trans x1),λ_ _ h=>PV.later h x,λ_ _ h H' F' σ' x1=>h H' F' σ' (x.trans x1),λ_ _ h H' F' σ' x1=>h H' F' σ' (x.trans x1)⟩
def tS(K:PySem.W.Frag)(B:Bs)(w:ak->DH->En->Prop):TS:=λD σ H=>∃ρ F G,Ext B.H B.F H F/\EnvR K H F ρ σ/\R K H F G/\w ρ G (EnD K H F D)
theorem psI{X:Cx}{st:Stmt}{t t':TS}(h:PS X st t)(i:∀D σ H,t' D σ H->t D σ H):PS X st t':=λpins s σ H D I q=>h pins s σ H D I (i D σ H q)
theorem Hm{X:Cx}{st:List Stmt}{t t':TS}(h:PSs X st t)(i:∀D σ H,t' D σ H->t D σ H):PSs X st t':=λpins s σ H D I q=>h pins s σ H D I (i D σ H q)
theorem uq{e:Expr}(h:cN e=false)(t:Option Expr)(n:Nat)(env:Env):swapsWith e t n env=pure false:=by cases e <;> first |rfl |exact nomatch (show true=false from h)
theorem Hn{e:Expr}(h:cN e=false)(t:Expr)(n:Nat)(env:Env):swapsWithSole [t] e n env=pure false:=uq h _ _ _
section
variable {Φ:aa} {CX:CXT} {k:Nat} {c:CT} {E:EK} {B:Bs} {X:Cx}
abbrev OkS(Φ:aa)(c:CT)(E:EK)(B:Bs)(X:Cx)(x:Sx):Prop:=∀{st:Stmt},aX c x st=true->PS X st (tS X.K B (wpS Φ x E))
abbrev jA(Φ:aa)(c:CT)(E:EK)(B:Bs)(X:Cx)(x:Sxs):Prop:=∀{st:List Stmt},aC c x st=true->PSs X st (tS X.K B (au Φ x E))
theorem abF(S:Stat Φ CX k c E B X){x:Ex}{st:Stmt}(h:aX c (.exp x) st=true):PS X st (tS X.K B (wpS Φ (.exp x) E)):=by
 replace h:=aaz h;obtain ⟨_,_,rfl,h⟩:=h
 ·rw[ae]at h;refine psI (Va (aA x S h.2) (uq (by simpa using h.1) _ _ _)) λD σ H hq=>el hq λρ F G e0 he r hw=>?_;rw[rW]at hw;exact aM e0 he r hw λd G1 H1 F1 v q e1 x1 he1 r1 rv=>q _ _ _ x1 he1 r1
theorem abG(S:Stat Φ CX k c E B X){i:Nat}{x:Ex}{st:Stmt}(h:aX c (.asg (.nm i) x) st=true):PS X st (tS X.K B (wpS Φ (.asg (.nm i) x) E)):=by
 replace h:=GF h;obtain ⟨tg,e,pos,rfl,h⟩:=h
 ·simp only[ae]at h;obtain ⟨⟨h1,h2⟩,h3⟩:=h;have h3:(!cN e||Fy x)=true:=h3;replace h1:=yh h1;obtain ⟨y,py,rfl,h1⟩:=h1
  ·rw[ae,av]at h1;obtain ⟨l,f⟩:=S.sto y h1.2;have hi:X.N[i]?=some y:=by rw[S.N];exact h1.1
   have go:∀(D:Ends)(σ:L2.St)(H:Hp),tS X.K B (wpS Φ (.asg (.nm i) x) E) D σ H->qi (tE X.K B (wpE Φ x E)) (qg i) D σ H:=λD σ H hq=>el hq λρ F G e0 he r hw=>by
    rw[jl]at hw;refine aM e0 he r hw λd G1 H1 F1 v q e1 x1 he1 r1 rv=>?_;unfold aY at q;exact q _ _ _ x1 (he1.set rv i) r1
   cases hc:cN e with
   |false=>exact psI (Bo S.nd hi l (aA x S h2) (uq hc _ _ _) f) go
   |true=>
    rw[hc,Bool.not_true,Bool.false_or]at h3;cases x with
    |comp fz elt tg it cond N cap=>
     obtain ⟨elt',tg',iter,ifs,scope,pos',rfl,C⟩:=Hj h2;obtain ⟨s1,s2,s3,s4⟩:=Hi S C.sc;have hb:∃b:Bool,swapsWith (.ListComp elt' [⟨tg',iter,ifs,0⟩] scope pos') (some (.Name y py)) pos.line X.env=pure b:=⟨_,rfl⟩;obtain ⟨b,hb⟩:=hb;cases b with
     |false=>exact psI (Bo S.nd hi l (aA _ S h2) hb f) go
     |true=>
      refine psI (Yg S.nd hi l (N.map Str.ofString) cap S.calm (yw it S C.it) (uo S.N C.cap) s1 s2 s3 s4 (yu C.it X.env) hb f) λD σ H hq=>el hq λρ F G e0 he r hw=>?_;rw[jl]at hw;rw[xu]at hw;refine Hh (fz:=fz) (Q:=λv H1=>D.nx (σ.set i (some v)) H1) S C.nd (λS'=>aA elt S') (λS'=>ir cond S') C.tg C.cd C.el e0 he r (j7 it (λitems g G1 q=>?_) hw);refine sU (λd ρ' G' k1 k2 hk z=>fK (λρ1 z=>dh cond (λb G2 z=>by
       cases b with
       |true=>exact aG elt (λy G3 z=>hk _ _ _ z) z
       |false=>exact hk _ _ _ z) z) tg z) ?_ _ _ _ _ q
      ·intro ds G2 q;refine dB (λd G3 q=>?_) q;intro H1 F1 v x1 r1 rv;unfold aY at q;exact q _ _ _ x1 ((he.ext x1).set rv i) r1
    |_=>cases h3
theorem abH(S:Stat Φ CX k c E B X){ts:Tgs}{x:Ex}{st:Stmt}(h:aX c (.asg (.tp ts) x) st=true):PS X st (tS X.K B (wpS Φ (.asg (.tp ts) x) E)):=by
 replace h:=GF h;obtain ⟨tg,e,pos,rfl,h⟩:=h
 ·rw[ae,ae]at h;have h34:(!FJ e&&!cN e)=true:=h.2;obtain ⟨h1,h2⟩:=h.1;rw[ae,e9,e9]at h34;obtain ⟨h3,h4⟩:=h34;have hg:=uf S (.tp ts) h1;replace h1:=yj h1;obtain ⟨_,_,_,rfl,h1⟩:=h1
  ·refine psI (Bm (aA x S h2) hg (Hn h4 _ _ _) ?_ rfl) λD σ H hq=>el hq λρ F G e0 he r hw=>?_
   ·cases e <;> first |rfl |exact nomatch (show true=false from h3)
   ·rw[jl]at hw;refine aM e0 he r hw λd G1 H1 F1 v q e1 x1 he1 r1 rv=>?_;exact ⟨ρ,F1,G1,d,e1,he1,r1,rv,fK (λρ' z σ' hσ=>z H1 F1 σ' x1 hσ r1) (.tp ts) q⟩
theorem abI(S:Stat Φ CX k c E B X){o i x:Ex}{st:Stmt}(h:aX c (.set o i x) st=true):PS X st (tS X.K B (wpS Φ (.set o i x) E)):=by
 replace h:=aaA h;obtain ⟨o',i',tpos,e,pos,rfl,h⟩:=h
 ·simp only[ae,e9]at h;obtain ⟨⟨⟨h1,h2⟩,h3⟩,h4⟩:=h;have hi:=bQ i h2;refine psI (Bm (aA x S h3) (Vq (aA o S h1) (aA i S h2) aaa ?_) (Hn h4 _ _ _) ?_ rfl) λD σ H hq=>el hq λρ F G e0 he r hw=>?_
  ·intro v;cases i' <;> first |rfl |exact nomatch (show false=true from hi)
  ·cases e <;> rfl
  ·rw[rY]at hw;refine aM e0 he r hw λd G1 H1 F1 v q e1 x1 he1 r1 rv=>?_;refine aM e1 he1 r1 q λa G2 H2 F2 w q e2 x2 he2 r2 rw'=>?_;refine aM e2 he2 r2 q λy G3 H3 F3 u q e3 x3 he3 r3 ru=>?_;refine ⟨F3,G3,a,y,d,r3,rw'.ext x3,ru,rv.ext (x2.trans x3),xF (λG4 q=>?_) q⟩;intro H4 F4 x4 r4;exact q _ _ _ (x1.trans (x2.trans (x3.trans x4))) (he3.ext x4) r4
theorem abJ(S:Stat Φ CX k c E B X){i:Nat}{op:Operator}{x:Ex}{st:Stmt}(h:aX c (.aug i op x) st=true):PS X st (tS X.K B (wpS Φ (.aug i op x) E)):=by
 replace h:=aaB h;obtain ⟨y,py,o,e,pos,rfl,h⟩:=h
 ·simp only[ae,av]at h;obtain ⟨⟨⟨⟨rfl,h1⟩,h2⟩,h3⟩,h4⟩:=h;obtain ⟨l,f⟩:=S.sto y h2;refine psI (Vs S.nd (by rw[S.N];exact h1) l (aA x S h4) (aab o) f) λD σ H hq=>el hq λρ F G e0 he r hw=>?_;rw[rZ]at hw;split at hw
  ·rename_i a ha;obtain ⟨v,e1,rv⟩:=he.get ha;refine ⟨v,e1,aM e0 he r hw λb G1 H1 F1 u q e1 x1 he1 r1 ru=>?_⟩;refine ⟨F1,G1,a,b,r1,rv.ext x1,ru,xG (λd q=>?_) q⟩;intro H2 F2 w x2 r2 rw';exact q _ _ _ (x1.trans x2) ((he1.ext x2).set rw' i) r2
  ·exact hw.elim
theorem abK(S:Stat Φ CX k c E B X){o i:Ex}{op:Operator}{x:Ex}{st:Stmt}(h:aX c (.augs o i op x) st=true):PS X st (tS X.K B (wpS Φ (.augs o i op x) E)):=nomatch (show false=true from h)
theorem abL(S:Stat Φ CX k c E B X){x:Ex}{st:Stmt}(h:aX c (.ret x) st=true):PS X st (tS X.K B (wpS Φ (.ret x) E)):=by
 replace h:=aaD h;obtain ⟨_,_,rfl,h⟩:=h
 ·refine psI (Vb (aA x S h)) λD σ H hq=>el hq λρ F G e0 he r hw=>?_;rw[sr]at hw;exact ⟨ρ,F,G,e0,he,r,hw⟩
theorem abM{st:Stmt}(h:aX c .rtn st=true):PS X st (tS X.K B (wpS Φ .rtn E)):=by
 replace h:=aaE h;obtain ⟨_,rfl,h⟩:=h
 ·refine psI Vd λD σ H hq=>el hq λρ F G e0 he r hw=>?_;rw[su]at hw;exact hw.now r rfl
theorem abN(S:Stat Φ CX k c E B X){t:Tx}{a b:Sxs}(iha:jA Φ c E B X a)(ihb:jA Φ c E B X b){st:Stmt}(h:aX c (.ite t a b) st=true):PS X st (tS X.K B (wpS Φ (.ite t a b) E)):=by
 replace h:=aaF h;obtain ⟨_,_,_,_,rfl,h⟩:=h
 ·simp only[ae]at h;obtain ⟨⟨h1,h2⟩,h3⟩:=h;refine psI (Vf (ir t S h1) (iha h2) (ihb h3)) λD σ H hq=>el hq λρ F G e0 he r hw=>?_;rw[sy]at hw;refine jt e0 he r hw λb' G1 H1 F1 q e1 x1 he1 r1=>?_;cases b' with
  |true=>
   rw[if_pos rfl];exact ⟨ρ,F1,G1,e1,he1,r1,dW a (EnD.later x1) q⟩
  |false=>
   rw[if_neg br];exact ⟨ρ,F1,G1,e1,he1,r1,dW b (EnD.later x1) q⟩
theorem abO(S:Stat Φ CX k c E B X){t:Tg}{it:It'}{b:Sxs}(ihb:jA Φ c E B X b){st:Stmt}(h:aX c (.for_ t it b) st=true):PS X st (tS X.K B (wpS Φ (.for_ t it b) E)):=by
 replace h:=aaG h;obtain ⟨tg,iter,body,pos,rfl,h⟩:=h
 ·simp only[ae]at h;obtain ⟨⟨h1,h2⟩,h3⟩:=h;refine psI (Vz S.own S.calm (yw it S h2) (uf S t h1) (ihb h3) (yu h2 X.env)) λD σ H hq=>el hq λρ F G e0 he r hw=>?_;rw[DW]at hw;refine ⟨ρ,F,G,e0,he,r,j7 it (λitems g G1 q H1 F1 J x1 r1 W=>?_) hw⟩;let step:RF.D->ak->DH->(ak->DH->Prop)->Prop:=λd ρ' G' k=>aY t d ρ' G' λρ1=>au Φ b E ρ1 G' { EnD X.K H F D with nx:=k,ct:=k,bk:=(EnD X.K H F D).nx }
  let P:Nat->L2.St->Hp->Prop:=λi σ' H'=>∃ρ' F' G',Ext B.H B.F H' F'/\Ext H1 F1 H' F'/\EnvR X.K H' F' ρ' σ'/\R X.K H' F' G'/\forLoop step g (items.drop i) ρ' G' (EnD X.K H F D).nx
  refine ⟨λi m σ' H'=>m=items.length - i/\i<=items.length/\P i σ' H',⟨items.length,by simp,eh _,ρ,F1,G1,e0.trans x1,Ext.refl _ _,he.ext x1,r1,q⟩,?_⟩;rintro i m σ' H' ⟨rfl,hle,ρ',F',G',eB,e1,he',r',hl⟩;by_cases hlt:i < items.length
  ·have hd:items.drop i=items[i]::items.drop (i+1):=bd hlt;rw[hd]at hl;obtain ⟨hh,hl⟩:=hl;refine .inr ⟨W.go H' F' G' i e1 r' hh hlt,P (i+1),λσ2 H2 p=>⟨items.length - (i+1),by omega,rfl,hlt,p⟩,λx H2 hy=>?_⟩;obtain ⟨xy,ry,rx⟩:=W.yld H' F' i x H2 items[i] G' e1 r' hh (by simp[hlt]) hy;refine ⟨ρ',F',G',items[i],eB.trans xy,he'.ext xy,ry,rx,fK (λρ1 z σ1 hσ1=>?_) t hl⟩;refine ⟨ρ1,F',G',eB.trans xy,hσ1,ry,dW b (D:={ EnD X.K H F D with nx:=λρ' G'=>forLoop step g (items.drop (i+1)) ρ' G' (EnD X.K H F D).nx,ct:=λρ' G'=>forLoop step g (items.drop (i+1)) ρ' G' (EnD X.K H F D).nx,bk:=(EnD X.K H F D).nx }) ⟨λρ2 G2 z H3 F3 σ3 x3 he3 r3=>?_,λd G2 z=>PV.later z (x1.trans (e1.trans xy)),λρ2 G2 z H3 F3 σ3 x3=>z H3 F3 σ3 (x1.trans (e1.trans (xy.trans x3))),λρ2 G2 z H3 F3 σ3 x3 he3 r3=>?_⟩ z⟩
   ·exact ⟨ρ2,F3,G2,eB.trans (xy.trans x3),e1.trans (xy.trans x3),he3,r3,z⟩
   ·exact ⟨ρ2,F3,G2,eB.trans (xy.trans x3),e1.trans (xy.trans x3),he3,r3,z⟩
  ·have hi':i=items.length:=by omega
   subst hi';rw[eI]at hl;exact .inl ⟨W.stop H' F' G' e1 r' hl.1,hl.2 _ _ _ (x1.trans e1) he' r'⟩
theorem abP(S:Stat Φ CX k c E B X){t:Tx}{b:Sxs}(ihb:jA Φ c E B X b){st:Stmt}(h:aX c (.whl t b) st=true):PS X st (tS X.K B (wpS Φ (.whl t b) E)):=nomatch (show false=true from h)
def tJ(K:PySem.W.Frag)(B:Bs)(w:ak->DH->(DH->Prop)->Prop):TJ:=λσ H Q=>∃ρ F G,Ext B.H B.F H F/\EnvR K H F ρ σ/\R K H F G/\w ρ G λG'=>∀H' F',Ext H F H' F'->R K H' F' G'->Q H'
theorem pjI{X:Cx}{ps:List Expr}{t t':TJ}{n:Nat}(h:PJ X ps t n)(i:∀σ H Q,t' σ H Q->t σ H Q):PJ X ps t' n:=λpins s σ H Q out I hl q=>h pins s σ H Q out I hl (i σ H Q q)
theorem yx{E:EK}{ρ:ak}:∀(es:Exs){G:DH}{k k':DH->Prop},(∀G',k G'->k' G')->wpM Φ es E ρ G k->wpM Φ es E ρ G k'
 |.nil,G,k,k',h,q=>h G q
 |.cons e es,G,k,k',h,q=>by
  rw[sI]at q ⊢;exact aG e (λd G1 q=>⟨q.1,yx es h q.2⟩) q
theorem Ho{p:Expr}(h:yf p=true):∃y k pos,p=.Constant (.str y) k pos/\y.length<=1000:=by obtain ⟨t,ht,h⟩:=aL h;obtain ⟨x,hx,h⟩:=aL h;exact ⟨x,_,_,by rw[ht,hx],dk h⟩
theorem yz(S:Stat Φ CX k c E B X):∀(ps:List Expr){es:Exs},kW c es ps=true->∃n,n<=1000 * ps.length/\PJ X ps (tJ X.K B (wpM Φ es E)) n
 |[],es,h=>by
  cases es with
  |nil=>exact ⟨0,eh _,pjI Yq λσ H Q hq=>el hq λρ F G e0 he r hw=>hw H F (Ext.refl _ _) r⟩
  |cons _ _=>exact nomatch (show false=true from h)
 |p::ps,es,h=>by
  unfold kW at h;split at h
  ·rename_i hm;obtain ⟨y,kk,pos,rfl,hy⟩:=Ho hm;obtain ⟨n,hn,hp⟩:=yz S ps h;exact ⟨y.length+n,by rw[cb];omega,Yr hp⟩
  ·split at h
   ·rename_i x rr;rw[ae]at h;obtain ⟨t,ht,h1⟩:=aL h.1;rw[ae,ae,ff,bq]at h1;obtain ⟨n,hn,hp⟩:=yz S ps h.2;refine ⟨3+n,by rw[cb];omega,?_⟩;rw[ht,h1.1.1,h1.1.2];refine pjI (Ys (aA x S h1.2) hp) λσ H Q hq=>el hq λρ F G e0 he r hw=>?_;rw[sI]at hw;refine aM e0 he r hw λd G1 H1 F1 v q e1 x1 he1 r1 rv=>?_;obtain ⟨q1,q2⟩:=q;unfold wK at q1;split at q1
    ·rename_i i;rw[ae,bq,bq]at q1;have e2:v=.int i:=rv;refine ⟨⟨i.toNat,by rw[e2];congr 1;omega,by omega⟩,ρ,F1,G1,e1,he1,r1,yx rr (λG' z H' F' x' r'=>z H' F' (x1.trans x') r') q2⟩
    ·cases q1
   ·cases h
theorem abQ(S:Stat Φ CX k c E B X){C:String}{es:Exs}{st:Stmt}(h:aX c (.rse C es) st=true):PS X st (tS X.K B (wpS Φ (.rse C es) E)):=by
 replace h:=aaC h;obtain ⟨x,np,m,cpos,pos,rfl,h⟩:=h;simp only[ae,av]at h;obtain ⟨⟨⟨e1,h1⟩,h2⟩,h3⟩:=h;subst e1;obtain ⟨g1,g2⟩:=dX h1;obtain ⟨a,hm,hb,hn⟩:=S.xcl C h2;obtain ⟨EX,_,hth,hEX⟩:=S.exc;unfold tX at h3;rw[cS]at h3;rcases h3 with h3 |h3
 ·cases es with
  |cons _ _=>cases h3
  |nil=>
   obtain ⟨y,kk,p,rfl,hy⟩:=Ho h3;refine psI (Du S.calm (S.glo _ g1) hm hb hth (iR Bh jW rfl) (bW g2) rfl rfl) λD σ H hq=>el hq λρ F G e0 he r hw=>?_;rw[j6,w5]at hw;exact ⟨show 1<=sizeLine by decide,hEX ⟨C,.non⟩ G H F hw e0 r (.ref a) none ⟨a,rfl,hn,trivial⟩⟩
 ·obtain ⟨t,ht,h3⟩:=aL h3;rw[ae,ae,bq,bq]at h3;obtain ⟨n,hn',hp⟩:=yz S t.1 h3.2;rcases hps:t.1 with _ |⟨v1,_ |⟨v2,r⟩⟩
  ·rw[hps]at h3;simp at h3
  ·rw[hps]at h3;simp at h3
  ·rw[hps]at hp;subst ht;rw[hps]at *;refine psI (Du S.calm (S.glo _ g1) hm hb hth (iR (Yt hp (by omega)) jW rfl) (bW g2) rfl rfl) λD σ H hq=>el hq λρ F G e0 he r hw=>?_;rw[j6]at hw;refine ⟨ρ,F,G,e0,he,r,yx es (λG1 q H1 F1 x1 r1 y=>⟨show 1<=sizeLine by decide,?_⟩) hw⟩;exact hEX ⟨C,.non⟩ G1 H1 F1 q (e0.trans x1) r1 (.ref a) none ⟨a,rfl,hn,trivial⟩
theorem abR(S:Stat Φ CX k c E B X){f:String}{es:Exs}{C:String}{i:Nat}{b:Bool}{st:Stmt}(h:aX c (.tryc f es C i b) st=true):PS X st (tS X.K B (wpS Φ (.tryc f es C i b) E)):=nomatch (show false=true from h)
theorem abS(S:Stat Φ CX k c E B X){b:Tb}{C:String}{hd:Hd}{xs:List String}{st:Stmt}(h:aX c (.tryx b C hd xs) st=true):PS X st (tS X.K B (wpS Φ (.tryx b C hd xs) E)):=nomatch (show false=true from h)
theorem abT{st:List Stmt}(h:aC c .nil st=true):PSs X st (tS X.K B (au Φ .nil E)):=by
 unfold aC at h;cases st with
 |nil=>exact Hm U0 λD σ H hq=>el hq λρ F G e0 he r hw=>by rw[jj]at hw;exact hw _ _ _ (Ext.refl _ _) he r
 |cons _ _=>cases h
theorem abU{x:Sx}{xs:Sxs}(ih:OkS Φ c E B X x)(ihs:jA Φ c E B X xs){st:List Stmt}(h:aC c (.cons x xs) st=true):PSs X st (tS X.K B (au Φ (.cons x xs) E)):=by
 unfold aC at h;split at h
 ·rw[ae]at h;refine Hm (Bk (ih h.1) (ihs h.2)) λD σ H hq=>el hq λρ F G e0 he r hw=>?_;rw[jk]at hw;refine ⟨ρ,F,G,e0,he,r,wpS_mono x (D:={ EnD X.K H F D with nx:=λρ' G'=>au Φ xs E ρ' G' (EnD X.K H F D) }) ⟨λρ1 G1 q H1 F1 σ1 x1 he1 r1=>?_,λ_ _ z=>z,λ_ _ z=>z,λ_ _ z=>z⟩ hw⟩;exact ⟨ρ1,F1,G1,e0.trans x1,he1,r1,dW xs (EnD.later x1) q⟩
 ·cases h
end
mutual
theorem Hq{Φ:aa}{CX:CXT}{k:Nat}{B:Bs}{c:CT}{E:EK}{X:Cx}(S:Stat Φ CX k c E B X):∀(x:Sx),OkS Φ c E B X x
 |.exp e=>by intro h;exact abF S h
 |.asg (.nm i) e=>by intro h;exact abG S h
 |.asg (.tp ts) e=>by intro h;exact abH S h
 |.set o i e=>by intro h;exact abI S h
 |.aug i op e=>by intro h;exact abJ S h
 |.augs o i op e=>by intro h;exact abK S h
 |.ret e=>by intro h;exact abL S h
 |.rtn=>by intro h;exact abM h
 |.ite t a b=>by intro h;exact abN S (jB S a) (jB S b) h
 |.for_ t it b=>by intro h;exact abO S (jB S b) h
 |.whl t b=>by intro h;exact abP S (jB S b) h
 |.pas=>by
  intro h;obtain ⟨_,rfl,_⟩:=aaH h;exact psI U6 λD σ H hq=>el hq λρ F G e0 he r hw=>by rw[sE]at hw;exact hw _ _ _ (Ext.refl _ _) he r
 |.brk=>by
  intro h;obtain ⟨_,rfl,_⟩:=aaI h;exact psI U7 λD σ H hq=>el hq λρ F G e0 he r hw=>by rw[sG]at hw;exact hw _ _ _ (Ext.refl _ _) he r
 |.cnt=>by
  intro h;obtain ⟨_,rfl,_⟩:=aaJ h;exact psI U8 λD σ H hq=>el hq λρ F G e0 he r hw=>by rw[sH]at hw;exact hw _ _ _ (Ext.refl _ _) he r
 |.rse C es=>by intro h;exact abQ S h
 |.tryc f es C i b=>by intro h;exact abR S h
 |.tryx b C h xs=>by intro hh;exact abS S hh
 |.nev=>by
  intro h;exact psI Vh λD σ H hq=>el hq λρ F G e0 he r hw=>by rw[sJ]at hw;exact hw.elim
theorem jB{Φ:aa}{CX:CXT}{k:Nat}{B:Bs}{c:CT}{E:EK}{X:Cx}(S:Stat Φ CX k c E B X):∀(x:Sxs),jA Φ c E B X x
 |.nil=>by intro h;exact abT h
 |.cons s r=>by intro h;exact abU (Hq S s) (jB S r) h
end
end RF
namespace L2
open PySem PySem.Spec PyProof.Rows
theorem Fun.okX{P:Program}{w:World}{K:PySem.W.Frag}{mg:Str->Option Value}{base:Heap}{CX:CXT}{x qual:Str}{st:Stmt}{f:Addr}{fd:FuncData}{N ps:List Str}{k:Nat}{sp:Sp}(F:Fun K x qual st f fd)(S:FnScope N ps (ao st))(len:∀vs H Q E,sp vs H Q E->vs.length=ps.length)
  (hbody:∀(cdv:Value)(A:Around)(outer:List Env)(s:Shared)(H:Hp)(vs:List V)(Q:VK)(E:XK),Room k (A.deeper (envOfC qual (ao st) s.heap.objs.size f cdv))->sp vs H Q E->
   ∃t,PSs (cU CX P w K mg base N qual (ao st) f cdv A outer s H E) (aF st) t/\t { nx:=λ_ H'=>Q .non H',rt:=Q } (start N vs) H):FnOk P w K mg base CX (k+1) f fd ps sp:=by
 obtain ⟨oc,od,kV,doc,pm,an,cdv,ct,osl,rfl,lk,hcd⟩:=F.ex;exact WK lk hcd S len λA outer s H vs Q E hr hsp=>hbody cdv A outer s H vs Q E hr hsp
theorem FnOk.cx{P:Program}{w:World}{K:PySem.W.Frag}{mg:Str->Option Value}{base:Heap}{k:Nat}{CX:CXT}{f:Addr}{fd:FuncData}{ps:List Str}{sp:Sp}(F:FnOk P w K mg base CX0 k f fd ps sp):FnOk P w K mg base CX k f fd ps sp:=
 ⟨F.len,λA outer s H args us vs Q E hr he hb hv hs=>codeAny_mono (F.run A outer s H args us vs Q E hr he hb hv hs) λr s' hq=>by
  cases r with
  |error e=>exact False.elim hq
  |ok fl=>cases fl <;> exact hq⟩
end L2
namespace RF
open PySem PySem.Spec PyProof.Rows L2
noncomputable def fnB(N ps:List Str)(sc:Scope):Bool:=
 decide (sc.kind=.function)&&!sc.isCoroutine&&!sc.isGenerator&&eX N&&(N.take ps.length==ps)&&ps.all (λx=>sc.names.lookup x==some .local||sc.names.lookup x==some .cell)&&sc.names.all (λy=>y.2 != .free)
theorem yC{N ps:List Str}{sc:Scope}(h:fnB N ps sc=true):FnScope N ps sc:=by unfold fnB at h;simp only[ae,e9,bq,av,b9,cS,bne_iff_ne]at h;obtain ⟨⟨⟨⟨⟨⟨h1,h2⟩,h3⟩,h4⟩,h5⟩,h6⟩,h7⟩:=h;exact ⟨h1,h2,h3,yt h4,h5,h6,λy hy=>h7 y hy⟩
structure Bse(Φ:aa)(P:Program)(w:World)(K:PySem.W.Frag)(mg:Str->Option Value)(base:Heap)(CX:CXT)(k:Nat)(fs:List (String×Nat))(bt:List String)(cn:List (String×D))(xs:List (String×Bool))(ot:OT):Prop where
 call:∀f n,(f,n)∈fs->∃fa fd ps,FnOk P w K mg base CX k fa fd ps (lift K n (Φ f))/\PySem.W.keepIn K (.ref fa)=true/\Binds K fd ps []/\mg (Str.ofString f)=some (.ref fa)
 blt:∀f,f∈bt->mg (Str.ofString f)=none
 con:∀x d,(x,d)∈cn->∃u v,mg (Str.ofString x)=some u/\RelV v u/\∀H F,Rep K H F d v
 xcl:∀C,xs.contains (C,true)=true->∃a,mg (Str.ofString C)=some (.ref a)/\gM K a=true/\PySem.W.nsIn K mainGlobals (Str.ofString C)=some (some (.ref a))
 xis:∀C',xs.contains (C',false)=true->∃cv,CV K mg C' cv/\∀C,xs.contains (C,true)=true->XI K C C' cv
 mth:∀f C m n,(f,C,m,n)∈ot.ms->MthOk Φ P w K mg base CX k f C m n
 mko:∀C n,(C,n)∈ot.ks->MkoOk Φ P w K mg base CX k C n
 fld:∀C f,(C,f)∈ot.fl->yl K C f
def aH(N:List Str)(sc:Scope)(fs:List (String×Nat))(bt:List String)(cn:List (String×D))(xs:List (String×Bool))(ot:OT):CT:={ N:=N,kd:=sc.names,fn:=true,fs:=fs,bt:=bt,cn:=cn,xs:=xs,ot:=ot }
section
variable {Φ:aa} {P:Program} {w:World} {K:PySem.W.Frag} {mg:Str->Option Value} {base:Heap} {k:Nat} {fs:List (String×Nat)} {bt:List String} {cn:List (String×D)} {xs:List (String×Bool)} {ot:OT}
theorem Hr{N ps:List Str}{sc:Scope}{qual:Str}{f:Addr}{cdv:Value}{A:Around}{outer:List Env}{s:Shared}{H:Hp}{EX:XK}{B:Bs}(T:Bse Φ P w K mg base (CX1 P w) k fs bt cn xs ot)(hs:fnB N ps sc=true)
  (hr:Room k (A.deeper (envOfC qual sc s.heap.objs.size f cdv))):Stat Φ (CX1 P w) k (aH N sc fs bt cn xs ot) noE B (cU (CX1 P w) P w K mg base N qual sc f cdv A outer s H EX).nox where
 N:=rfl
 nd:=(yC hs).nd
 calm:=rfl
 own:=PassesOwn.never
 kd:=rfl
 vis:=λx h=>by
  have h:gZ (sc.names.lookup x)=true:=h;show sc.names.lookup x=_\/sc.names.lookup x=_\/sc.names.lookup x=_;unfold gZ at h;split at h <;> first | (cases h;done) |simp_all
 cel:=λx h=>h
 glo:=λx h=>h
 sto:=λx h=>by
  have h:(sc.names.lookup x==some .local||(true&&sc.names.lookup x==some .cell))=true:=h;rw[Bool.true_and,cS,av,av]at h;exact ⟨h,.inl rfl⟩
 room:=hr
 call:=T.call
 blt:=T.blt
 con:=T.con
 exc:=⟨_,Dm _,λ_ _ _ _ _ _ _ _ _ _ q=>q.elim,λ_ _ _ _ h=>h.elim⟩
 nox:=λY=>Dm Y
 xcl:=T.xcl
 loc:=λx h=>h
 xis:=T.xis
 mth:=T.mth
 mko:=T.mko
 fld:=T.fld
 trc:=λ_=>⟨rfl,rfl,rfl⟩
theorem abV{N ps:List Str}{sc:Scope}{qual:Str}{f:Addr}{cdv:Value}{A:Around}{outer:List Env}{s:Shared}{H:Hp}{EX:XK}{B:Bs}{E:EK}(T:Bse Φ P w K mg base (CX1 P w) k fs bt cn xs ot)(hs:fnB N ps sc=true)
  (hr:Room k (A.deeper (envOfC qual sc s.heap.objs.size f cdv))) (hE:∀x G' H' F',E x G'->Ext B.H B.F H' F'->R K H' F' G'->XR K H' F' x EX):Stat Φ (CX1 P w) k (aH N sc fs bt cn xs ot) E B (cU (CX1 P w) P w K mg base N qual sc f cdv A outer s H EX):=
 have S:=Hr (EX:=EX) (B:=B) (qual:=qual) (f:=f) (cdv:=cdv) (A:=A) (outer:=outer) (s:=s) (H:=H) T hs hr
 ⟨S.N,S.nd,S.calm,PassesOwn.leaving,S.kd,S.vis,S.cel,S.glo,S.sto,S.room,S.call,S.blt,S.con,⟨EX,Yl rfl rfl λ_ _ h=>h,Yu rfl rfl λ_ _ h=>h,hE⟩,S.nox,S.xcl,S.loc,S.xis,S.mth,S.mko,S.fld,λ_=>⟨rfl,rfl,rfl⟩⟩
theorem abW{outer:List Env}{H:Hp}{s s':Shared}{e:Value}(h:CX1 P w outer H s (λ_ _ _=>False) e s'):False:=by obtain ⟨_,_,_,_,_,_,_,_,_,q⟩:=h;exact q
def ends(Q:D->DH->Prop):En:={ nx:=λ_ G=>Q .non G,rt:=Q,bk:=λ_ _=>False,ct:=λ_ _=>False }
def env0(ds:List D)(n:Nat):ak:=ds.map some++List.replicate n none
theorem jC{x qual:Str}{st:Stmt}{f:Addr}{fd:FuncData}(Fu:Fun K x qual st f fd)(T:Bse Φ P w K mg base (CX1 P w) k fs bt cn xs ot){N ps:List Str}{body:Sxs}(S:RF.Spec)(n m:Nat)(hs:fnB N ps (ao st)=true)
  (hc:aC (aH N (ao st) fs bt cn xs ot) body (aF st)=true) (hn:ps.length=n) (hm:N.length=n+m)
  (hw:∀ds G a,ds.length=n->S.pre ds G a->au Φ body noE (env0 ds m) G (ends (S.post a))):FnOk P w K mg base (CX1 P w) (k+1) f fd ps (lift K n S):=by
 refine Fu.okX (yC hs) (λvs H Q E h=>by rw[hn];exact h.1) λcdv A outer s H vs Q EX hr hsp=>?_;obtain ⟨hl,F,G,ds,r,rs,a,h1,h2,h3⟩:=hsp;have St:Stat Φ (CX1 P w) k (aH N (ao st) fs bt cn xs ot) noE ⟨H,F⟩ (cU (CX1 P w) P w K mg base N qual (ao st) f cdv A outer s H EX).nox:=Hr T hs hr;refine ⟨_,(jB St body hc).nox,?_⟩;refine ⟨env0 ds m,F,G,Ext.refl _ _,?_,r,dW body (D:=ends (S.post a)) ⟨λρ G' q=>?_,λd G' q=>h2 d G' q,λ_ _ q=>False.elim q,λ_ _ q=>False.elim q⟩ (hw ds G a (by rw[rs.length];exact hl) h1)⟩
 ·unfold L2.start;rw[show N.length - vs.length=m by omega];exact EnvR.start m rs
 ·intro H' F' σ' x1 _ r1;exact h2 .non G' q H' F' .non x1 r1 rfl
end
def bz(pre:List D->DH->Prop)(post:List D->DH->D->DH->Prop):RF.Spec where
 A:=List D×DH
 pre:=λds G a=>a=(ds,G)/\pre ds G
 post:=λa d G'=>post a.1 a.2 d G'
 exc:=λ_ _ _=>False
theorem bL{pre:List D->DH->Prop}{post:List D->DH->D->DH->Prop}{ds:List D}{G:DH}{k:D->DH->Prop}{E:EK}(h:pre ds G)(hk:∀d G',post ds G d G'->k d G'):(bz pre post).t ds G k E:=
 ⟨(ds,G),⟨rfl,h⟩,hk,λ_ _ z=>z.elim⟩
theorem bR{Φ:aa}{body:Sxs}{m n:Nat}{pre:List D->DH->Prop}{post:List D->DH->D->DH->Prop}(h:∀ds G,pre ds G->au Φ body noE (env0 ds m) G (ends (post ds G))):
  ∀ds G a,ds.length=n->(bz pre post).pre ds G a->au Φ body noE (env0 ds m) G (ends ((bz pre post).post a)):=by
 rintro ds G a _ ⟨rfl,h1⟩;exact h ds G h1
def aO(f:List D->Option D):RF.Spec:=bz (λds _=>(f ds).isSome=true) (λds G d G'=>G'=G/\f ds=some d)
theorem dj{f:List D->Option D}{ds:List D}{d:D}{G:DH}{k:D->DH->Prop}{E:EK}(h:f ds=some d)(hk:k d G):(aO f).t ds G k E:=
 bL (by rw[h];rfl) λd' G' ⟨e1,e2⟩=>by rw[h]at e2;cases e2;rw[e1];exact hk
theorem iu{Φ:aa}{body:Sxs}{m n:Nat}{f:List D->Option D}(h:∀ds G d,f ds=some d->au Φ body noE (env0 ds m) G (ends λd' G'=>G'=G/\d'=d)):
  ∀ds G a,ds.length=n->(aO f).pre ds G a->au Φ body noE (env0 ds m) G (ends ((aO f).post a)):=by
 refine bR λds G hf=>?_;obtain ⟨d,e⟩:=cp.mp hf;refine dW body (D:=ends λd' G'=>G'=G/\d'=d) ⟨λρ G' q=>?_,λd' G' q=>?_,λ_ _ q=>q,λ_ _ q=>q⟩ (h ds G d e)
 ·exact ⟨q.1,by rw[e];exact eR some q.2.symm⟩
 ·exact ⟨q.1,by rw[e];exact eR some q.2.symm⟩
theorem abX{step:D->ak->DH->(ak->DH->Prop)->Prop}{g:Hld}{items:List D}{ρ:ak}{G:DH}{k:ak->DH->Prop}(P:Nat->ak->DH->Prop)(h0:P 0 ρ G)(hh:∀i ρ G,P i ρ G->held g G)
  (hs:∀i d ρ G,items[i]?=some d->P i ρ G->∀kk:ak->DH->Prop,(∀ρ' G',P (i+1) ρ' G'->kk ρ' G')->step d ρ G kk) (he:∀ρ G,P items.length ρ G->k ρ G):forLoop step g items ρ G k:=by
 have go:∀(l:List D)(i:Nat)(ρ:ak)(G:DH),items.drop i=l->i<=items.length->P i ρ G->forLoop step g l ρ G k:=by
  intro l;induction l with
  |nil=>
   intro i ρ G e hi p;have:i=items.length:=by have:=eR List.length e;rw[ci]at this;simp at this;omega
   subst this;exact ⟨hh _ _ _ p,he _ _ p⟩
  |cons d l ih=>
   intro i ρ G e hi p;have hl:i < items.length:=by
    by_cases h:i < items.length
    ·exact h
    ·rw[cK (by omega)]at e;cases e
   rw[bd hl]at e;injection e with e1 e2;refine ⟨hh _ _ _ p,hs i d ρ G (by rw[aI hl,e1]) p _ λρ' G' p'=>ih (i+1) ρ' G' e2 hl p'⟩
 exact go _ 0 ρ G (by simp) (eh _) h0
theorem Hs{step:D->ak->DH->(Option D->ak->DH->Prop)->Prop}{g:Hld}{items acc:List D}{ρ:ak}{G:DH}{k:List D->DH->Prop}(P:Nat->List D->ak->DH->Prop)(h0:P 0 acc ρ G)(hh:∀i acc ρ G,P i acc ρ G->held g G)
  (hl:acc.length+items.length<=sz)
  (hs:∀i d acc ρ G,items[i]?=some d->P i acc ρ G->∀kk:Option D->ak->DH->Prop,(∀o ρ' G',P (i+1) (acc++o.toList) ρ' G'->kk o ρ' G')->step d ρ G kk) (he:∀acc ρ G,P items.length acc ρ G->k acc G):compLoop step g items acc ρ G k:=by
 have go:∀(l:List D)(i:Nat)(acc:List D)(ρ:ak)(G:DH),items.drop i=l->i<=items.length->acc.length+l.length<=sz->P i acc ρ G->compLoop step g l acc ρ G k:=by
  intro l;induction l with
  |nil=>
   intro i acc ρ G e hi ha p;have:i=items.length:=by have:=eR List.length e;rw[ci]at this;simp at this;omega
   subst this;exact ⟨hh _ _ _ _ p,by simpa using ha,he _ _ _ p⟩
  |cons d l ih=>
   intro i acc ρ G e hi ha p;have hl:i < items.length:=by
    by_cases h:i < items.length
    ·exact h
    ·rw[cK (by omega)]at e;cases e
   rw[bd hl]at e;injection e with e1 e2;have ha':acc.length+(l.length+1)<=sz:=ha;refine ⟨hh _ _ _ _ p,by omega,hs i d acc ρ G (by rw[aI hl,e1]) p _ λo ρ' G' p'=>?_⟩;cases o with
   |some y=>exact ih (i+1) (acc++[y]) ρ' G' e2 hl (by rw[ay];simp;omega) p'
   |none=>exact ih (i+1) acc ρ' G' e2 hl (by omega) (by simpa using p')
 exact go _ 0 acc ρ G (by simp) (eh _) hl h0
theorem abY{step:D->ak->DH->(Option D->ak->DH->Prop)->Prop}{items:List D}{ρ:ak}{G:DH}{k:List D->DH->Prop}(g:Hld)(f:D->Option D)(I:ak->Prop)(h0:I ρ)(hg:held g G)(hl:items.length<=sz)
  (hs:∀d ρ,d∈items->I ρ->∀kk:Option D->ak->DH->Prop,(∀ρ',I ρ'->kk (f d) ρ' G)->step d ρ G kk) (he:k (items.filterMap f) G):compLoop step g items [] ρ G k:=by
 refine Hs (λi acc ρ' G'=>I ρ'/\G'=G/\acc=(items.take i).filterMap f) ⟨h0,rfl,rfl⟩ (λi acc ρ' G' p=>by rw[p.2.1];exact hg) (by simpa using hl) ?_ ?_
 ·rintro i d acc ρ' G' hd ⟨p1,rfl,rfl⟩ kk hk;refine hs d ρ' (ce hd) p1 kk λρ2 i2=>hk _ _ _ ⟨i2,rfl,?_⟩;rw[ft,hd,List.filterMap_append];congr 1
 ·rintro acc ρ' G' ⟨_,rfl,rfl⟩;rw[fE];exact he
theorem abZ{step:D->ak->DH->(Option D->ak->DH->Prop)->Prop}{items:List D}{ρ:ak}{G:DH}{k:List D->DH->Prop}(g:Hld)(f:D->D)(I:ak->Prop)(h0:I ρ)(hg:held g G)(hl:items.length<=sz)
  (hs:∀d ρ,d∈items->I ρ->∀kk:Option D->ak->DH->Prop,(∀ρ',I ρ'->kk (some (f d)) ρ' G)->step d ρ G kk) (he:k (items.map f) G):compLoop step g items [] ρ G k:=
 abY g (λd=>some (f d)) I h0 hg hl hs (by rw[<-List.filterMap_eq_map]at he;exact he)
theorem yD{α:Type}(f:α->Bool):∀l:List α,bools (l.map λx=>D.bl (f x))=some (l.map f)
 |[]=>rfl
 |x::l=>by simp[bools,yD f l]
theorem strs_map{α:Type}(f:α->List Nat):∀l:List α,bw (l.map λx=>D.str (f x))=some (l.map f)
 |[]=>rfl
 |x::l=>by simp[bw,strs_map f l]
theorem Ht:∀l:List (List Nat),dR [] l=l.flatten
 |[]=>rfl
 |[x]=>by simp[dR]
 |x::y::r=>by simp[dR,Ht (y::r)]
def Sa(G G':DH):Prop:=∀b o,G b=some o->G' b=some o
def Sb(p:Addr)(G G':DH):Prop:=∀b o,G b=some o->b≠p->G' b=some o
theorem Sb.refl(p:Addr)(G:DH):Sb p G G:=λ_ _ h _=>h
theorem Sa.trans{G G1 G2:DH}(a:Sa G G1)(b:Sa G1 G2):Sa G G2:=λc o h=>b c o (a c o h)
theorem Sb.trans{p:Addr}{G G1 G2:DH}(a:Sb p G G1)(b:Sb p G1 G2):Sb p G G2:=λc o h n=>b c o (a c o h n) n
theorem Sa.sb{p:Addr}{G G':DH}(a:Sa G G'):Sb p G G':=λc o h _=>a c o h
theorem Sa.new{G:DH}{p:Addr}{o:DO}(h:G p=none):Sa G (aD G p o):=λb u e=>by rw[cg (v8 e h)];exact e
theorem Sb.upd{G:DH}{p:Addr}{o:DO}:Sb p G (aD G p o):=λb u e n=>by rw[cg n];exact e
theorem Sa.then{p:Addr}{G G1 G2:DH}(a:Sa G G1)(hp:G p=none)(b:Sb p G1 G2):Sa G G2:=λc o h=>b c o (a c o h) (v8 h hp)
theorem Hu{α:Type}{a:α}{l:List α}:atI (a::l) 0=some a:=bJ (j:=0) rfl
theorem Hv{α:Type}{a b:α}{l:List α}:atI (a::b::l) 1=some b:=bJ (j:=1) rfl
theorem Hw{α:Type}{a b c:α}{l:List α}:atI (a::b::c::l) 2=some c:=bJ (j:=2) rfl
theorem Hx{α:Type}{a b c d:α}{l:List α}:atI (a::b::c::d::l) 3=some d:=bJ (j:=3) rfl
theorem ab0{n j:Nat}(h:j < n):ixN n (j:Int)=some j:=by unfold ixN;rw[if_pos (by omega),if_pos (by omega)];simp
theorem Hy{n:Nat}:ixN (n+1) 0=some 0:=by unfold ixN;rw[if_pos (by omega),if_pos (by omega)];rfl
theorem Hz{n:Nat}:ixN (n+2) 1=some 1:=by unfold ixN;rw[if_pos (by omega),if_pos (by omega)];rfl
theorem HB{n:Nat}:ixN (n+3) 2=some 2:=by unfold ixN;rw[if_pos (by omega),if_pos (by omega)];rfl
theorem ab1{α:Type}{xs:List α}{i:Int}(h0:0<=i)(h1:i < xs.length):∃a,atI xs i=some a/\a∈xs:=by
 obtain ⟨n,rfl⟩:=cy h0;have hn:n < xs.length:=by omega
 exact ⟨xs[n],bJ (by simp[hn]),cw _⟩
theorem HF{α:Type}(xs:List α)(lo hi:Option Int):(cut xs lo hi).length<=xs.length:=by unfold cut;rw[b6,ci];omega
theorem HH{l:List D}:bU l []=l.isEmpty:=by cases l <;> rfl
theorem ur{α:Type}(l:List α)(n:Nat):cut l none (some (n:Int))=l.take n:=by
 unfold cut;rw[show HT.sIx l.length 0 none=0 from rfl,HT.BZ,List.drop_zero,Nat.sub_zero];by_cases h:n<=l.length
 ·rw[Nat.min_eq_left h]
 ·rw[Nat.min_eq_right (by omega),df (aw _),df (by omega)]
theorem yE{α:Type}(l:List α)(n:Nat):cut l (some (n:Int)) none=l.drop n:=by
 unfold cut;rw[show HT.sIx l.length l.length none=l.length from rfl,HT.BZ];by_cases h:n<=l.length
 ·rw[Nat.min_eq_left h,df (by rw[ci];exact aw _)]
 ·rw[Nat.min_eq_right (by omega),Nat.sub_self,List.take_zero,cK (by omega)]
theorem HJ{α:Type}(l:List α)(n:Nat):cut l (some ((n:Int)+1)) none=l.drop (n+1):=yE l (n+1)
theorem yF:∀{l:List D},(∀d∈l,nr d=true)->nrs l=true
 |[],_=>rfl
 |a::l,h=>by rw[nrs,h a bS,yF λd hd=>h d (bi _ hd)];rfl
theorem yG{n:Nat}:∀{l:List D},(∀d∈l,dpt d<=n)->aQ l<=n
 |[],_=>eh _
 |a::l,h=>by rw[aQ];exact Nat.max_le.mpr ⟨h a bS,yG λd hd=>h d (bi _ hd)⟩
theorem ab2{α:Type}{motive:List α->Prop}(l:List α)(nil:motive [])(snoc:∀(l:List α)(a:α),motive l->motive (l++[a])):motive l:=by
 have go:∀(n:Nat)(l:List α),l.length=n->motive l:=by
  intro n;induction n with
  |zero=>intro l h;rw[c8.mp h];exact nil
  |succ n ih=>
   intro l h;have hne:l≠[]:=by rintro rfl;simp at h
   rw[<-eT hne];exact snoc _ _ (ih _ (by rw[List.length_dropLast];omega))
 exact go _ l rfl
section
variable {G:DH} {k:D->DH->Prop} {fz:Bool} {kb:Bool->Prop} {kd:D->Prop} {p:Addr}
theorem HN{i j:Int}:cj .Add fz (.int i) (.int j) G k=k (.int (i+j)) G:=rfl
theorem HQ{x y:List Nat}:cj .Add fz (.str x) (.str y) G k=(x.length+y.length<=sz/\k (.str (x++y)) G):=rfl
theorem HR{x y:List D}:cj .Add fz (.lst x) (.lst y) G k=(x.length+y.length<=sz/\mk fz (x++y) G k):=rfl
theorem HS{x y:List D}:cj .Add fz (.tup x) (.tup y) G k=(x.length+y.length<=sz/\k (.tup (x++y)) G):=rfl
theorem HW{i j:Int}:cj .Sub fz (.int i) (.int j) G k=k (.int (i - j)) G:=rfl
theorem HX{i j:Int}:cj .Mult fz (.int i) (.int j) G k=(CMul i j/\k (.int (i * j)) G):=rfl
theorem HY{x:List D}{n:Int}:cj .Mult fz (.tup x) (.int n) G k=(2<=n/\n<=1000/\x≠[]/\x.length * n.toNat<=sz/\k (.tup (reps x n.toNat)) G):=rfl
theorem H9{x:List D}{n:Int}:cj .Mult fz (.lst x) (.int n) G k=(0<=n/\n<=1000/\x.length * n.toNat<=sz/\mk fz (reps x n.toNat) G k):=rfl
theorem Ia{x:List Nat}{n:Int}:cj .Mult fz (.str x) (.int n) G k=(0<=n/\n<=1000/\x.length * n.toNat<=sz/\k (.str (reps x n.toNat)) G):=rfl
theorem Ib{i j:Int}:cj .FloorDiv fz (.int i) (.int j) G k=((0 < j/\j < 1152921504606846976)/\k (.int (i / j)) G):=rfl
theorem Ie{i j:Int}:cj .Mod fz (.int i) (.int j) G k=(0 < j/\k (.int (i % j)) G):=rfl
theorem Ig{i j:Int}:cj .Pow fz (.int i) (.int j) G k=(qp i j/\k (.int (i ^ j.toNat)) G):=rfl
def dZ:D->Bool
 |.non=>true
 |_=>false
theorem Ih{a b:D}:aW .Eq a b kb=((nr a=true/\nr b=true/\min (dpt a) (dpt b)<=60)/\kb (deq a b)):=rfl
theorem Ii{a b:D}:aW .NotEq a b kb=((nr a=true/\nr b=true/\min (dpt a) (dpt b)<=60)/\kb (!deq a b)):=rfl
theorem Ij{i j:Int}:aW .Lt (.int i) (.int j) kb=kb (decide (i < j)):=rfl
theorem Ik{i j:Int}:aW .LtE (.int i) (.int j) kb=kb (decide (i<=j)):=rfl
theorem Il{i j:Int}:aW .Gt (.int i) (.int j) kb=kb (decide (j < i)):=rfl
theorem Im{i j:Int}:aW .GtE (.int i) (.int j) kb=kb (decide (j<=i)):=rfl
theorem Io{i j:List Nat}:aW .Lt (.str i) (.str j) kb=kb (decide (i < j)):=rfl
theorem Ip{i j:List Nat}:aW .LtE (.str i) (.str j) kb=kb (!decide (j < i)):=rfl
theorem Ir{a:D}:aW .Is a .non kb=kb (dZ a):=by cases a <;> rfl
theorem Iu{a:D}:aW .IsNot a .non kb=kb (!dZ a):=by cases a <;> rfl
theorem Iv{a b:Bool}:aW .Is (.bl a) (.bl b) kb=kb (a==b):=rfl
theorem Iw{a b:Bool}:aW .IsNot (.bl a) (.bl b) kb=kb (a != b):=rfl
theorem Iz{c:Nat}{l:List Nat}:aW .In (.str [c]) (.str l) kb=kb (l.contains c):=rfl
theorem IK{c:Nat}{l:List Nat}:aW .NotIn (.str [c]) (.str l) kb=kb (!l.contains c):=rfl
theorem IV{a:D}{l:List D}:aW .In a (.lst l) kb=((nr a=true/\nrs l=true/\aQ l<=60)/\kb (isIn a l)):=rfl
theorem IW{a:D}{l:List D}:aW .In a (.tup l) kb=((nr a=true/\nrs l=true/\aQ l<=60)/\kb (isIn a l)):=rfl
theorem Ja{a:D}{l:List D}:aW .NotIn a (.lst l) kb=((nr a=true/\nrs l=true/\aQ l<=60)/\kb (!isIn a l)):=rfl
theorem Jb{a:D}{l:List D}:aW .NotIn a (.tup l) kb=((nr a=true/\nrs l=true/\aQ l<=60)/\kb (!isIn a l)):=rfl
theorem Jc{i:Int}:dZ (.int i)=false:=rfl
theorem Jd{i:Bool}:dZ (.bl i)=false:=rfl
theorem Jf{i:List Nat}:dZ (.str i)=false:=rfl
theorem Jg{i:List D}:dZ (.tup i)=false:=rfl
theorem Jh{i:List D}:dZ (.lst i)=false:=rfl
theorem Ji{i:Addr}:dZ (.ref i)=false:=rfl
theorem Jj:dZ .non=true:=rfl
def bf{α:Type}(o:Option α)(k:α->Prop):Prop:=match o with |some a=>k a |none=>False
theorem Jl{α:Type}{a:α}{k:α->Prop}:bf (some a) k=k a:=rfl
theorem bY{α:Type}{o:Option α}{a:α}{k:α->Prop}(e:o=some a)(h:k a):bf o k:=by rw[e];exact h
theorem yH{α:Type}{xs:List α}{i:Int}{k:α->Prop}(h0:0<=i)(h1:i < xs.length)(h:∀a,a∈xs->k a):bf (atI xs i) k:=by obtain ⟨a,e,m⟩:=ab1 h0 h1;exact bY e (h a m)
theorem Jm{ds:List D}{i:Int}:cu (.lst ds) (.int i) kd=bf (atI ds i) kd:=by unfold cu bf;(try dsimp only) <;> (cases atI ds i <;> rfl)
theorem Jo{ds:List D}{i:Int}:cu (.tup ds) (.int i) kd=bf (atI ds i) kd:=by unfold cu bf;(try dsimp only) <;> (cases atI ds i <;> rfl)
theorem Jp{l:List Nat}{i:Int}:cu (.str l) (.int i) kd=bf (atI l i) (λc=>kd (.str [c])):=by unfold cu bf;(try dsimp only) <;> (cases atI l i <;> rfl)
theorem Jq{ds:List D}{lo hi:Option Int}:dO fz (.lst ds) lo hi G k=mk fz (cut ds lo hi) G k:=rfl
theorem Jr{ds:List D}{y:D}:jg fz (.lst ds) y G k=(y=.int (-1)/\mk fz ds.reverse G k):=rfl
theorem Js{ds:List Int}{lo hi:Option Int}:dO fz (.scr ds) lo hi G k=mk fz ((cut ds lo hi).map .int) G k:=rfl
theorem Jt{ds:List D}{lo hi:Option Int}:dO fz (.tup ds) lo hi G k=k (.tup (cut ds lo hi)) G:=rfl
theorem Ju{ds:List Nat}{lo hi:Option Int}:dO fz (.str ds) lo hi G k=k (.str (cut ds lo hi)) G:=rfl
theorem Jv{ds:List D}:opB .len [.lst ds] kd=kd (.int ds.length):=rfl
theorem Jw{ds:List D}:opB .len [.tup ds] kd=kd (.int ds.length):=rfl
theorem Jx{ds:List Nat}:opB .len [.str ds] kd=kd (.int ds.length):=rfl
theorem Jy{ds:List D}:opB .all [.lst ds] kd=bf (bools ds) (λbs=>kd (.bl (bs.all id))):=by unfold opB qF bf;(try dsimp only) <;> (cases bools ds <;> rfl)
theorem JB{b:Bool}:opB .int [.bl b] kd=kd (.int (if b then 1 else 0)):=rfl
theorem JC{b:Int}:opB .int [.int b] kd=kd (.int b):=rfl
theorem JD{l:List Nat}:opB .int [.str l] kd=bf (PySem.intText? (tx l)) (λn=>l.length<=640/\kd (.int n)):=by unfold opB qG bf;(try dsimp only) <;> (cases PySem.intText? (tx l) <;> rfl)
theorem JF{ds:List D}:opB .sum [.lst ds] kd=bf (bZ ds) (λns=>kd (.int ns.sum)):=by unfold opB wz bf;(try dsimp only) <;> (cases bZ ds <;> rfl)
theorem JG{a:Int}:opB .str [.int a] kd=((0<=a/\a < 100)/\kd (.str (gk a.toNat))):=rfl
theorem JH{a:Int}:opB .abs [.int a] kd=kd (.int (if a < 0 then -a else a)):=rfl
theorem JK{a b:Int}:opB .min2 [.int a,.int b] kd=kd (.int (if b < a then b else a)):=rfl
theorem JL{a b:Int}:opB .max [.int a,.int b] kd=kd (.int (if b > a then b else a)):=rfl
theorem JM{ds:List D}{kl:List D->Prop}:cL .sorted [.tup ds] kl=bf (bZ ds) (λns=>ns.length < 64/\∀ns':List Int,ns'.Perm ns->ns'.Pairwise (·<=·)->kl (ns'.map D.int)):=by unfold cL qH bf;(try dsimp only) <;> (cases bZ ds <;> rfl)
theorem JN{ds:List D}{kl:List D->Prop}:cL .sorted [.lst ds] kl=bf (bw ds) (λls=>ls.length < 64/\∀ls':List (List Nat),ls'.Perm ls->PyProof.Rows.sortedS (ls'.map tx)=true->kl (ls'.map D.str)):=by unfold cL qH bf;(try dsimp only) <;> (cases bw ds <;> rfl)
theorem JP{ds:List D}:opB .tuple [.lst ds] kd=kd (.tup ds):=rfl
theorem JQ{ds:List D}:opB .tuple [.tup ds] kd=kd (.tup ds):=rfl
theorem JR{ds:List D}{kl:List D->Prop}:cL .list [.lst ds] kl=kl ds:=rfl
theorem JS{ds:List D}{kl:List D->Prop}:cL .list [.tup ds] kl=kl ds:=rfl
theorem JT{l:List Nat}{kl:List D->Prop}:cL .list [.str l] kl=kl (l.map λc=>.str [c]):=rfl
theorem JV{s:List Nat}{ds:List D}:opM .join (.str s) [.lst ds] G k=bf (bw ds) (λls=>((ls.map (·.length)).sum+ls.length * s.length<=sz)/\k (.str (dR s ls)) G):=by unfold opM qI bf;(simp only[bn,dP,view]) <;> (cases bw ds <;> rfl)
def trk(G:DH)(p:Addr)(k:List D->Prop):Prop:=match G p with |some (.lst ds)=>k ds |none=>False
theorem dD{ds:List D}{k:List D->Prop}(e:G p=some (.lst ds)):trk G p k=k ds:=by unfold trk;rw[e]
theorem JW{x:D}:opM .append (.ref p) [x] G k=trk G p (λds=>ds.length < sz/\k .non (aD G p (.lst (ds++[x])))):=by unfold opM qJ trk;(try dsimp only) <;> (cases G p <;> first |rfl | (rename_i o;cases o;rfl))
theorem JX{x:D}{i:Int}:opM .insert (.ref p) [.int i,x] G k=trk G p (λds=>ds.length < sz/\0<=i/\i<=1000000/\k .non (aD G p (.lst (ds.take i.toNat++x::ds.drop i.toNat)))):=by unfold opM qL trk;(try dsimp only) <;> (cases G p <;> first |rfl | (rename_i o;cases o;rfl))
theorem JZ:recv .insert (.ref p) G=trk G p (λ_=>True):=by unfold recv trk;(try dsimp only) <;> (cases G p <;> first |rfl | (rename_i o;cases o;rfl))
theorem J0{xs:List D}:opM .extend (.ref p) [.lst xs] G k=trk G p (λds=>ds.length+xs.length < sz/\k .non (aD G p (.lst (ds++xs)))):=by unfold opM qK trk;(simp only[bn,dP,view]) <;> (cases G p <;> first |rfl | (rename_i o;cases o;rfl))
theorem J1{ds:List D}:opM .count (.lst ds) [.bl true] G k=bf (bools ds) (λbs=>k (.int (bs.count true:Nat)) G):=by unfold opM qM bf;(try dsimp only[view]) <;> (cases bools ds <;> rfl)
theorem J2{ds:List D}:opM .index (.lst ds) [.bl true] G k=bf (bools ds) (λbs=>true∈bs/\k (.int (bs.idxOf true:Nat)) G):=by unfold opM qN bf;(try dsimp only[view]) <;> (cases bools ds <;> rfl)
theorem J3{ds:List D}:recv .count (.lst ds) G=True:=rfl
theorem J4{ds:List D}:recv .index (.lst ds) G=True:=rfl
theorem J5{s:List Nat}:recv .join (.str s) G=True:=rfl
theorem J6:recv .append (.ref p) G=trk G p (λ_=>True):=by unfold recv trk;(try dsimp only) <;> (cases G p <;> first |rfl | (rename_i o;cases o;rfl))
theorem J7:recv .extend (.ref p) G=trk G p (λ_=>True):=by unfold recv trk;(try dsimp only) <;> (cases G p <;> first |rfl | (rename_i o;cases o;rfl))
theorem J8{i:Int}{x:D}{kg:DH->Prop}:dU (.ref p) (.int i) x G kg=trk G p (λds=>bf (ixN ds.length i) (λj=>kg (aD G p (.lst (ds.set j x))))):=by
 unfold dU trk bf
 (try dsimp only) <;> (cases G p <;> first |rfl | (rename_i o;cases o;(try dsimp only) <;> (rename_i ds;cases ixN ds.length i <;> rfl)))
theorem J9{i j:Int}:dz .Add (.int i) (.int j) kd=kd (.int (i+j)):=rfl
theorem Ka{x y:List Nat}:dz .Add (.str x) (.str y) kd=(x.length+y.length<=sz/\kd (.str (x++y))):=rfl
theorem Kc{i j:Int}:dz .Sub (.int i) (.int j) kd=kd (.int (i - j)):=rfl
theorem Kd{xs:List D}:mk true xs G k=k (.lst xs) G:=rfl
theorem Ke{xs:List D}:mk false xs G k=∀p,G p=none->k (.ref p) (aD G p (.lst xs)):=rfl
theorem Kf:view G .non=.non:=rfl
theorem Kg{b:Bool}:view G (.bl b)=.bl b:=rfl
theorem Kh{b:Int}:view G (.int b)=.int b:=rfl
theorem Kl{b:List Nat}:view G (.str b)=.str b:=rfl
theorem Km{b:List D}:view G (.tup b)=.tup b:=rfl
theorem Ko{b:List D}:view G (.lst b)=.lst b:=rfl
theorem Kp{C f:String}{q:Addr}:view G (.obj C f q)=.obj C f q:=rfl
theorem Kq{b:String}:view G (.exn b)=.exn b:=rfl
theorem Kr{b:List Int}:view G (.scr b)=.scr b:=rfl
theorem b7{ds:List D}(e:G p=some (.lst ds)):view G (.ref p)=.lst ds:=by unfold view;dsimp only;rw[e]
theorem Ks:truth .non=some false:=rfl
theorem Ku{b:Bool}:truth (.bl b)=some b:=rfl
theorem Kv{i:Int}:truth (.int i)=some (i != 0):=rfl
theorem Kw{l:List Nat}:truth (.str l)=some (!l.isEmpty):=rfl
theorem Ky{l:List D}:truth (.tup l)=some (!l.isEmpty):=rfl
theorem Kz{l:List D}:truth (.lst l)=some (!l.isEmpty):=rfl
theorem KC{l:List D}:itemsOf G (.lst l)=some (l,[]):=rfl
theorem KD{l:List D}:itemsOf G (.tup l)=some (l,[]):=rfl
theorem KH{l:List Nat}:itemsOf G (.str l)=some (l.map λc=>.str [c],[]):=rfl
theorem gB{ds:List D}(e:G p=some (.lst ds)):itemsOf G (.ref p)=some (ds,[(p,ds)]):=by unfold itemsOf;dsimp only;rw[e]
theorem KJ{t:String}:isT t .non=some false:=rfl
theorem KN {t:String} {b:Bool}:isT t (.bl b)=some (t=="bool"||t=="int"):=rfl
theorem KQ {t:String} {b:Int}:isT t (.int b)=some (t=="int"):=rfl
theorem KR {t:String} {b:List Nat}:isT t (.str b)=some (t=="str"):=rfl
theorem is_tup {t:String} {b:List D}:isT t (.tup b)=some (t=="tuple"):=rfl
theorem KY {t:String} {b:List D}:isT t (.lst b)=some (t=="list"):=rfl
theorem KZ{i:Nat}{d:D}{ρ:ak}{kr:ak->Prop}:aY (.nm i) d ρ G kr=kr (ρ.set i (some d)):=rfl
theorem K1{ts:Tgs}{ds:List D}{ρ:ak}{kr:ak->Prop}:aY (.tp ts) (.lst ds) ρ G kr=bH ts ds ρ G kr:=rfl
theorem K3{ts:Tgs}{ds:List D}{ρ:ak}{kr:ak->Prop}:aY (.tp ts) (.tup ds) ρ G kr=bH ts ds ρ G kr:=rfl
theorem K4{ρ:ak}{kr:ak->Prop}:bH .nil [] ρ G kr=kr ρ:=rfl
theorem K5{t:Tg}{r:Tgs}{d:D}{ds:List D}{ρ:ak}{kr:ak->Prop}:bH (.cons t r) (d::ds) ρ G kr=aY t d ρ G (λρ'=>bH r ds ρ' G kr):=rfl
theorem K6:deq .non .non=true:=rfl
theorem K7  {y:Bool}:deq .non (.bl y)=false:=rfl
theorem K8  {y:Int}:deq .non (.int y)=false:=rfl
theorem K9  {y:List Nat}:deq .non (.str y)=false:=rfl
theorem La  {y:List D}:deq .non (.tup y)=false:=rfl
theorem Lb  {y:List D}:deq .non (.lst y)=false:=rfl
theorem Ld{x:Bool} :deq (.bl x) .non=false:=rfl
theorem Lg{x:Bool}{y:Bool}:deq (.bl x) (.bl y)=(x==y):=by rw[deq]
theorem Lh{x:Bool}{y:List Nat}:deq (.bl x) (.str y)=false:=rfl
theorem Li{x:Bool}{y:List D}:deq (.bl x) (.tup y)=false:=rfl
theorem Lj{x:Bool}{y:List D}:deq (.bl x) (.lst y)=false:=rfl
theorem Lk{x:Int} :deq (.int x) .non=false:=rfl
theorem Ln{x:Int}{y:Int}:deq (.int x) (.int y)=(x==y):=by rw[deq]
theorem Lp{x:Int}{y:List Nat}:deq (.int x) (.str y)=false:=rfl
theorem Lq{x:Int}{y:List D}:deq (.int x) (.tup y)=false:=rfl
theorem Lr{x:Int}{y:List D}:deq (.int x) (.lst y)=false:=rfl
theorem Ls{x:List Nat} :deq (.str x) .non=false:=rfl
theorem Lw{x:List Nat}{y:Bool}:deq (.str x) (.bl y)=false:=rfl
theorem Lx{x:List Nat}{y:Int}:deq (.str x) (.int y)=false:=rfl
theorem Ly{x:List Nat}{y:List Nat}:deq (.str x) (.str y)=(x==y):=by rw[deq]
theorem Lz{x:List Nat}{y:List D}:deq (.str x) (.tup y)=false:=rfl
theorem LC{x:List Nat}{y:List D}:deq (.str x) (.lst y)=false:=rfl
theorem LK{x:List D} :deq (.tup x) .non=false:=rfl
theorem LQ{x:List D}{y:Bool}:deq (.tup x) (.bl y)=false:=rfl
theorem LR{x:List D}{y:Int}:deq (.tup x) (.int y)=false:=rfl
theorem Ma{x:List D}{y:List Nat}:deq (.tup x) (.str y)=false:=rfl
theorem Mg{x:List D}{y:List D}:deq (.tup x) (.tup y)=bU x y:=by rw[deq]
theorem Mh{x:List D}{y:List D}:deq (.tup x) (.lst y)=false:=rfl
theorem Mi{x:List D} :deq (.lst x) .non=false:=rfl
theorem Mj{x:List D}{y:Bool}:deq (.lst x) (.bl y)=false:=rfl
theorem Ml{x:List D}{y:Int}:deq (.lst x) (.int y)=false:=rfl
theorem Mm{x:List D}{y:List Nat}:deq (.lst x) (.str y)=false:=rfl
theorem Mp{x:List D}{y:List D}:deq (.lst x) (.tup y)=false:=rfl
theorem Mq{x:List D}{y:List D}:deq (.lst x) (.lst y)=bU x y:=by rw[deq]
theorem Mr:bU [] []=true:=rfl
theorem Ms{a b:D}{as bs:List D}:bU (a::as) (b::bs)=(deq a b&&bU as bs):=by rw[bU]
theorem Mt{b:D}{bs:List D}:bU [] (b::bs)=false:=rfl
theorem Mu{b:D}{bs:List D}:bU (b::bs) []=false:=rfl
theorem Mv :nr .non=true:=rfl
theorem Mw :dpt .non=0:=rfl
theorem Mx{x:Bool}:nr (.bl x)=true:=rfl
theorem My{x:Bool}:dpt (.bl x)=0:=rfl
theorem Mz{x:Int}:nr (.int x)=true:=rfl
theorem MF{x:Int}:dpt (.int x)=0:=rfl
theorem MJ{x:List Nat}:nr (.str x)=true:=rfl
theorem MK{x:List Nat}:dpt (.str x)=0:=rfl
theorem MN{x:List D}:nr (.tup x)=nrs x:=by rw[nr]
theorem MP{x:List D}:dpt (.tup x)=aQ x+1:=by rw[dpt]
theorem MT{x:List D}:nr (.lst x)=nrs x:=by rw[nr]
theorem M3{x:List D}:dpt (.lst x)=aQ x+1:=by rw[dpt]
theorem M4:nrs []=true:=rfl
theorem M5{a:D}{l:List D}:nrs (a::l)=(nr a&&nrs l):=by rw[nrs]
theorem M6:aQ []=0:=rfl
theorem M7{a:D}{l:List D}:aQ (a::l)=max (dpt a) (aQ l):=by rw[aQ]
end
theorem seq{Φ:aa}{s:Sx}{r:Sxs}{E:EK}{ρ:ak}{G:DH}{D:En}(h:∀M:ak->DH->Prop,(∀ρ' G',au Φ r E ρ' G' D->M ρ' G')->wpS Φ s E ρ G { D with nx:=M }):au Φ (.cons s r) E ρ G D:=by rw[jk];exact h _ λ_ _ x=>x
theorem last{Φ:aa}{s:Sx}{E:EK}{ρ:ak}{G:DH}{D:En}(h:wpS Φ s E ρ G D):au Φ (.cons s .nil) E ρ G D:=by rw[jk];exact wpS_mono s (D:=D) (D':={ D with nx:=λρ' G'=>au Φ .nil E ρ' G' D }) ⟨λρ' G' q=>(show au Φ .nil E ρ' G' D from by rw[jj];exact q),λ_ _ q=>q,λ_ _ q=>q,λ_ _ q=>q⟩ h
theorem done{Φ:aa}{E:EK}{ρ:ak}{G:DH}{D:En}(h:D.nx ρ G):au Φ .nil E ρ G D:=by rw[jj];exact h
section
variable {Φ:aa} {E:EK} {ρ:ak} {G:DH}
def ForG(Φ:aa)(t:Tg)(body:Sxs)(E:EK)(D:En)(items:List RF.D)(g:Hld)(ρ:ak)(G:DH):Prop:=
 forLoop (λd ρ' G' k=>aY t d ρ' G' λρ1=>au Φ body E ρ1 G' { D with nx:=k,ct:=k,bk:=D.nx }) g items ρ G D.nx
theorem M8{t:Tg}{it:It'}{body:Sxs}{D:En}:wpS Φ (.for_ t it body) E ρ G D=wpI Φ it E ρ G λitems g G1=>ForG Φ t body E D items g ρ G1:=rfl
theorem ForG.inv{t:Tg}{body:Sxs}{D:En}{items:List RF.D}{g:Hld}(P:Nat->ak->DH->Prop)(h0:P 0 ρ G)(hh:∀i ρ G,P i ρ G->held g G)
  (hs:∀i d ρ G,items[i]?=some d->P i ρ G->∀kk:ak->DH->Prop,(∀ρ' G',P (i+1) ρ' G'->kk ρ' G')->aY t d ρ G λρ1=>au Φ body E ρ1 G { D with nx:=kk,ct:=kk,bk:=D.nx })
  (he:∀ρ G,P items.length ρ G->D.nx ρ G):ForG Φ t body E D items g ρ G:=abX P h0 hh hs he
def CompG(Φ:aa)(elt:Ex)(tg:Tg)(cond:Tx)(items:List D)(g:Hld)(ρ:ak)(G:DH)(k:List D->DH->Prop):Prop:=
 compLoop (λd ρ' G' k'=>aY tg d ρ' G' λρ1=>wpT Φ cond noE ρ1 G' λb G2=>match b with |true=>wpE Φ elt noE ρ1 G2 λy G3=>k' (some y) ρ1 G3 |false=>k' none ρ1 G2) g items [] ρ G k
def jD(cap:List (Option Nat))(ρ:ak):ak:=cap.map λo=>match o with |none=>none |some j=>(ρ[j]?).join
theorem M9{ρ:ak}:jD [] ρ=[]:=rfl
theorem Nb{cap:List (Option Nat)}{ρ:ak}:jD (none::cap) ρ=none::jD cap ρ:=rfl
theorem Nf{cap:List (Option Nat)}{ρ:ak}{j:Nat}:jD (some j::cap) ρ=(ρ[j]?).join::jD cap ρ:=rfl
theorem Ng{fz:Bool}{elt:Ex}{tg:Tg}{it:It'}{cond:Tx}{N:List String}{cap:List (Option Nat)}{k:D->DH->Prop}:
  wpE Φ (.comp fz elt tg it cond N cap) E ρ G k=wpI Φ it E ρ G λitems g G1=>CompG Φ elt tg cond items g (jD cap ρ) G1 λds G2=>mk fz ds G2 k:=rfl
theorem CompG.inv{elt:Ex}{tg:Tg}{cond:Tx}{items:List D}{g:Hld}{k:List D->DH->Prop}(P:Nat->List D->ak->DH->Prop)(h0:P 0 [] ρ G)(hh:∀i acc ρ G,P i acc ρ G->held g G)(hl:items.length<=sz)
  (hs:∀i d acc ρ G,items[i]?=some d->P i acc ρ G->∀kk:Option D->ak->DH->Prop,(∀o ρ' G',P (i+1) (acc++o.toList) ρ' G'->kk o ρ' G')->
   aY tg d ρ G λρ1=>wpT Φ cond noE ρ1 G λb G2=>match b with |true=>wpE Φ elt noE ρ1 G2 λy G3=>kk (some y) ρ1 G3 |false=>kk none ρ1 G2)
  (he:∀acc ρ G,P items.length acc ρ G->k acc G):CompG Φ elt tg cond items g ρ G k:=Hs P h0 hh (by simpa using hl) hs he
theorem CompG.map{elt:Ex}{tg:Tg}{cond:Tx}{items:List D}{g:Hld}{k:List D->DH->Prop}(f:D->D)(I:ak->Prop)(h0:I ρ)(hg:held g G)(hl:items.length<=sz)
  (hs:∀d ρ,d∈items->I ρ->∀kk:Option D->ak->DH->Prop,(∀ρ',I ρ'->kk (some (f d)) ρ' G)->aY tg d ρ G λρ1=>wpT Φ cond noE ρ1 G λb G2=>match b with |true=>wpE Φ elt noE ρ1 G2 λy G3=>kk (some y) ρ1 G3 |false=>kk none ρ1 G2)
  (he:k (items.map f) G):CompG Φ elt tg cond items g ρ G k:=abZ g f I h0 hg hl hs he
def ab3(Φ:aa)(c:Tx)(body:Sxs)(E:EK)(D:En)(n:Nat)(ρ:ak)(G:DH):Prop:=
 whileLoop (λρ' G' k=>wpT Φ c E ρ' G' k) (λρ' G' k=>au Φ body E ρ' G' { D with nx:=k,ct:=k,bk:=D.nx }) n ρ G D.nx
theorem Nh{c:Tx}{body:Sxs}{D:En}:wpS Φ (.whl c body) E ρ G D=∃n,ab3 Φ c body E D n ρ G:=rfl
end
theorem len0{α:Type}{l:List α}(h:l.length=0):l=[]:=c8.mp h
theorem ut{α:Type}{n:Nat}{l:List α}(h:l.length=n+1):∃a r,l=a::r/\r.length=n:=by
 cases l with
 |nil=>cases h
 |cons a r=>exact ⟨a,r,rfl,Nat.succ.inj h⟩
theorem cO{α:Type}{l:List α}(h:l.length=1):∃a,l=[a]:=by obtain ⟨a,r,rfl,h2⟩:=ut h;cases len0 h2;exact ⟨a,rfl⟩
theorem aU{α:Type}{l:List α}(h:l.length=2):∃a b,l=[a,b]:=by obtain ⟨a,r,rfl,h2⟩:=ut h;obtain ⟨b,rfl⟩:=cO h2;exact ⟨a,b,rfl⟩
theorem dF{α:Type}{l:List α}(h:l.length=3):∃a b c,l=[a,b,c]:=by obtain ⟨a,r,rfl,h2⟩:=ut h;obtain ⟨b,c,rfl⟩:=aU h2;exact ⟨a,b,c,rfl⟩
theorem ab4{α:Type}{l:List α}(h:l.length=4):∃a b c d,l=[a,b,c,d]:=by obtain ⟨a,r,rfl,h2⟩:=ut h;obtain ⟨b,c,d,rfl⟩:=dF h2;exact ⟨a,b,c,d,rfl⟩
structure Fo(Φ:aa)(P:Program)(w:World)(K:PySem.W.Frag)(mg:Str->Option Value)(base:Heap)(k:Nat)(f:String)(n:Nat):Prop where
 ex:∃fa fd ps,FnOk P w K mg base (CX1 P w) k fa fd ps (lift K n (Φ f))/\PySem.W.keepIn K (.ref fa)=true/\Binds K fd ps []/\mg (Str.ofString f)=some (.ref fa)
section
variable {Φ:aa} {P:Program} {w:World} {K:PySem.W.Frag} {mg:Str->Option Value} {base:Heap} {k:Nat} {xs:List (String×Bool)} {ot:OT}
noncomputable def AllF(Φ:aa)(P:Program)(w:World)(K:PySem.W.Frag)(mg:Str->Option Value)(base:Heap)(k:Nat):List (String×Nat)->Prop
 |[]=>True
 | (f,n)::r=>Fo Φ P w K mg base k f n/\AllF Φ P w K mg base k r
noncomputable def AllB(mg:Str->Option Value):List String->Prop
 |[]=>True
 |f::r=>mg (Str.ofString f)=none/\AllB mg r
noncomputable def AllC(K:PySem.W.Frag)(mg:Str->Option Value):List (String×D)->Prop
 |[]=>True
 | (x,d)::r=>(∃u v,mg (Str.ofString x)=some u/\RelV v u/\∀H F,Rep K H F d v)/\AllC K mg r
theorem AllF.get:∀{fs:List (String×Nat)}{f:String}{n:Nat},AllF Φ P w K mg base k fs->(f,n)∈fs->Fo Φ P w K mg base k f n
 | (f',n')::r,f,n,h,m=>by
  rcases aT.mp m with e |m
  ·cases e;exact h.1
  ·exact AllF.get h.2 m
theorem AllB.get:∀{fs:List String}{f:String},AllB mg fs->f∈fs->mg (Str.ofString f)=none
 |f'::r,f,h,m=>by
  rcases aT.mp m with e |m
  ·cases e;exact h.1
  ·exact AllB.get h.2 m
theorem AllC.get:∀{fs:List (String×D)}{x:String}{d:D},AllC K mg fs->(x,d)∈fs->∃u v,mg (Str.ofString x)=some u/\RelV v u/\∀H F,Rep K H F d v
 | (f',n')::r,f,n,h,m=>by
  rcases aT.mp m with e |m
  ·cases e;exact h.1
  ·exact AllC.get h.2 m
noncomputable def cvB(K:PySem.W.Frag)(C':String):Option V:=match PySem.W.nsIn K mainGlobals (Str.ofString C') with
 |some (some (.ref a))=>if Dw K a then some (.ref a) else none
 |some none=>if C'=="ValueError" then some (.ty "ValueError") else none
 |_=>none
noncomputable def xiB(K:PySem.W.Frag)(C C':String)(cv:V):Bool:=match PySem.W.nsIn K mainGlobals (Str.ofString C) with
 |some (some (.ref c))=>Dv K c&&PySem.W.mroIn K c (valOf cv)==some (gm C C')&&(gm C C'||!(Value.ref c==valOf cv))
 |_=>false
noncomputable def yI(K:PySem.W.Frag)(C:String):Bool:=match PySem.W.nsIn K mainGlobals (Str.ofString C) with
 |some (some (.ref c))=>gM K c
 |_=>false
noncomputable def xsB(K:PySem.W.Frag)(xs:List (String×Bool)):Bool:=xs.all λp=>match p.2 with
 |true=>yI K p.1
 |false=>(cvB K p.1).any λcv=>xs.all λq=>!q.2||xiB K q.1 p.1 cv
theorem ab5{h:Heap}(X:K.In h)(Gh:h.Ns mainGlobals mg){xs:List (String×Bool)}(e:xsB K xs=true)(C:String)(hC:xs.contains (C,true)=true):∃a,mg (Str.ofString C)=some (.ref a)/\gM K a=true/\PySem.W.nsIn K mainGlobals (Str.ofString C)=some (some (.ref a)):=by
 have e1:yI K C=true:=b9.mp e _ (a7.mp hC);unfold yI at e1;split at e1
 ·rename_i a hn;exact ⟨a,PySem.W.mg_of X Gh hn,e1,hn⟩
 ·cases e1
theorem ab6{h:Heap}(X:K.In h)(Gh:h.Ns mainGlobals mg){xs:List (String×Bool)}(e:xsB K xs=true)(C':String)(hC:xs.contains (C',false)=true):∃cv,CV K mg C' cv/\∀C,xs.contains (C,true)=true->XI K C C' cv:=by
 have e1:((cvB K C').any λcv=>xs.all λq=>!q.2||xiB K q.1 C' cv)=true:=b9.mp e _ (a7.mp hC);obtain ⟨cv,hcv,h2⟩:=aZ e1;refine ⟨cv,?_,λC hC=>?_⟩
 ·unfold cvB at hcv;split at hcv
  ·rename_i a hn;split at hcv
   ·rename_i hb;cases hcv;exact .inl ⟨a,rfl,PySem.W.mg_of X Gh hn,hb⟩
   ·cases hcv
  ·rename_i hn;split at hcv
   ·rename_i hb;cases hcv;exact .inr ⟨av.mp hb,rfl,PySem.W.mg_none_of X Gh hn⟩
   ·cases hcv
  ·cases hcv
 ·have e3:(!true||xiB K C C' cv)=true:=b9.mp h2 _ (a7.mp hC);have e3:xiB K C C' cv=true:=e3;unfold xiB at e3;split at e3
  ·rename_i c hn;rw[ae,ae,av]at e3;refine ⟨c,hn,e3.1.1,e3.1.2,λhs=>?_⟩;have:=e3.2;rw[hs,Bool.false_or,e9]at this;exact this
  ·cases e3
theorem bse{h:Heap}{fs:List (String×Nat)}{bt:List String}{cn:List (String×D)}(h1:AllF Φ P w K mg base k fs)(h2:AllB mg bt)(h3:AllC K mg cn)(X:K.In h)(Gh:h.Ns mainGlobals mg)(e:xsB K xs=true):Bse Φ P w K mg base (CX1 P w) k fs bt cn xs {}:=
 ⟨λ_ _ m=>(h1.get m).ex,λ_ m=>h2.get m,λ_ _ m=>h3.get m,ab5 X Gh e,ab6 X Gh e,(λ_ _ _ _ h=>(nomatch h)),(λ_ _ h=>(nomatch h)),(λ_ _ h=>(nomatch h))⟩
theorem yJ{x:String}{i:Int}{t:Tok}(h:mg (Str.ofString x)=some (.int i t)):∃u v,mg (Str.ofString x)=some u/\RelV v u/\∀H F,Rep K H F (.int i) v:=⟨_,.int i,h,⟨t,rfl⟩,λ_ _=>rfl⟩
theorem ab7{x:String}{l:List Nat}{s:Str}{t:Tok}(h:mg (Str.ofString x)=some (.str s t))(e:s=tx l)(hl:l.length<=sz):∃u v,mg (Str.ofString x)=some u/\RelV v u/\∀H F,Rep K H F (.str l) v:=⟨_,.str s,h,⟨t,rfl⟩,λ_ _=>⟨by rw[e],hl⟩⟩
theorem yK{n:Nat}{S:RF.Spec}{fa:Addr}{fd:FuncData}{ps:List Str}(h:∀ds G a,¬S.pre ds G a):FnOk P w K mg base (CX1 P w) k fa fd ps (lift K n S):=
 ⟨λ_ _ _ _ ⟨_,_,_,_,_,_,a,hp,_⟩=>absurd hp (h _ _ a),λ_ _ _ _ _ _ _ _ _ _ _ _ _ ⟨_,_,_,_,_,_,a,hp,_⟩=>absurd hp (h _ _ a)⟩
end
section
variable {Φ:aa} {P:Program} {w:World} {K:PySem.W.Frag} {mg:Str->Option Value} {base:Heap} {k j n:Nat} {fs:List (String×Nat)} {bt:List String} {cn:List (String×D)} {xs:List (String×Bool)} {ot:OT} {x:String} {S:RF.Spec} {fa:Addr} {fd:FuncData} {ps:List Str}
theorem MthOk.mono{f C m:String}(h:MthOk Φ P w K mg base (CX1 P w) k f C m n)(hk:k<=j):MthOk Φ P w K mg base (CX1 P w) j f C m n:=by obtain ⟨c,fa,fd,ps,h1,h2,h3,h4,h5⟩:=h;exact ⟨c,fa,fd,ps,h1,h2,h3,h4,h5.mono hk⟩
theorem MkoOk.mono{C:String}(h:MkoOk Φ P w K mg base (CX1 P w) k C n)(hk:k<=j):MkoOk Φ P w K mg base (CX1 P w) j C n:=by obtain ⟨c,fa,fd,ps,sp,i,h0,h⟩:=h;exact ⟨c,fa,fd,ps,sp,i,cm h0 hk,h⟩
theorem Bse.add(B:Bse Φ P w K mg base (CX1 P w) k fs bt cn xs ot)(e:Φ x=S)(o:FnOk P w K mg base (CX1 P w) (k+j) fa fd ps (lift K n S))(h2:PySem.W.keepIn K (.ref fa)=true)(h3:Binds K fd ps [])(h4:mg (Str.ofString x)=some (.ref fa)):Bse Φ P w K mg base (CX1 P w) (k+j) ((x,n)::fs) bt cn xs ot:=by
 refine ⟨λf m hm=>?_,B.blt,B.con,B.xcl,B.xis,λf C m n h=>(B.mth f C m n h).mono (cf _ _),λC n h=>(B.mko C n h).mono (cf _ _),B.fld⟩;rcases aT.mp hm with e' |hm
 ·cases e';exact ⟨fa,fd,ps,by rw[e];exact o,h2,h3,h4⟩
 ·obtain ⟨fa,fd,ps,h1,h⟩:=B.call f m hm;exact ⟨fa,fd,ps,h1.mono (cf _ _),h⟩
theorem Bse.step{qual:Str}{st:Stmt}{N:List Str}{body:Sxs}(B:Bse Φ P w K mg base (CX1 P w) k fs bt cn xs ot)(F:Fun K (Str.ofString x) qual st fa fd)(h3:Binds K fd ps [])(h4:mg (Str.ofString x)=some (.ref fa))(e:Φ x=S)(m:Nat)
  (hs:fnB N ps (ao st)=true) (hc:aC (aH N (ao st) fs bt cn xs ot) body (aF st)=true) (hn:ps.length=n) (hm:N.length=n+m)
  (hw:∀ds G a,ds.length=n->S.pre ds G a->au Φ body noE (env0 ds m) G (ends (S.post a))):Bse Φ P w K mg base (CX1 P w) (k+1) ((x,n)::fs) bt cn xs ot:=
 B.add e (jC F B S n m hs hc hn hm hw) F.kp h3 h4
theorem Bse.addM{C m:String}{c:Addr}(B:Bse Φ P w K mg base (CX1 P w) k fs bt cn xs ot)(e:Φ x=S)(o:FnOk P w K mg base (CX1 P w) (k+j) fa fd ps (lift K n S))(h1:PySem.W.nsIn K mainGlobals (Str.ofString C)=some (some (.ref c)))(h2:Cls K c)(h3:Meth K c (Str.ofString m) fa)(h4:Binds K fd ps []):
  Bse Φ P w K mg base (CX1 P w) (k+j) fs bt cn xs { ot with ms:=(x,C,m,n)::ot.ms }:=by
 refine ⟨λf m hm=>?_,B.blt,B.con,B.xcl,B.xis,λf C' m' n' hm=>?_,λC n h=>(B.mko C n h).mono (cf _ _),B.fld⟩
 ·obtain ⟨fa,fd,ps,h1,h⟩:=B.call f m hm;exact ⟨fa,fd,ps,h1.mono (cf _ _),h⟩
 ·rcases aT.mp hm with e' |hm
  ·cases e';exact ⟨c,fa,fd,ps,h1,h2,h3,h4,by rw[e];exact o⟩
  ·exact (B.mth f C' m' n' hm).mono (cf _ _)
theorem Bse.stepM0{C m:String}{c:Addr}{nm qual:Str}{st:Stmt}{N:List Str}{body:Sxs}(B:Bse Φ P w K mg base (CX1 P w) k fs bt cn xs ot)(F:Fun K nm qual st fa fd)(h4:Binds K fd ps [])(h1:PySem.W.nsIn K mainGlobals (Str.ofString C)=some (some (.ref c)))(h2:Cls K c)(h3:Meth K c (Str.ofString m) fa)(e:Φ x=S)(mm:Nat)
  (hs:fnB N ps (ao st)=true) (hc:aC (aH N (ao st) fs bt cn xs ot) body (aF st)=true) (hn:ps.length=n) (hm:N.length=n+mm)
  (hw:∀ds G a,ds.length=n->S.pre ds G a->au Φ body noE (env0 ds mm) G (ends (S.post a))):Bse Φ P w K mg base (CX1 P w) (k+1) fs bt cn xs { ot with ms:=(x,C,m,n)::ot.ms }:=
 B.addM e (jC F B S n mm hs hc hn hm hw) h1 h2 h3 h4
theorem Bse.addK{C:String}(B:Bse Φ P w K mg base (CX1 P w) k fs bt cn xs ot)(o:MkoOk Φ P w K mg base (CX1 P w) (k+j) C n):Bse Φ P w K mg base (CX1 P w) (k+j) fs bt cn xs { ot with ks:=(C,n)::ot.ks }:=by
 refine ⟨λf m hm=>?_,B.blt,B.con,B.xcl,B.xis,λf C m n h=>(B.mth f C m n h).mono (cf _ _),λC' n' hm=>?_,B.fld⟩
 ·obtain ⟨fa,fd,ps,h1,h⟩:=B.call f m hm;exact ⟨fa,fd,ps,h1.mono (cf _ _),h⟩
 ·rcases aT.mp hm with e' |hm
  ·cases e';exact o
  ·exact (B.mko C' n' hm).mono (cf _ _)
theorem Bse.addF{C f:String}(B:Bse Φ P w K mg base (CX1 P w) k fs bt cn xs ot)(o:yl K C f):Bse Φ P w K mg base (CX1 P w) k fs bt cn xs { ot with fl:=(C,f)::ot.fl }:=by
 refine ⟨B.call,B.blt,B.con,B.xcl,B.xis,B.mth,B.mko,λC' f' hm=>?_⟩;rcases aT.mp hm with e' |hm
 ·cases e';exact o
 ·exact B.fld C' f' hm
def gC(Φ:aa)(x:String)(S:RF.Spec):aa:=λf=>if f=x then S else Φ f
theorem jE{y:String}(e:Φ y=S){S':RF.Spec}(h:(y==x)=false):gC Φ x S' y=S:=by unfold gC;rw[if_neg (by simpa using h)];exact e
theorem Bse.self(B:Bse Φ P w K mg base (CX1 P w) k fs bt cn xs {})(hx:(fs.map (·.1)).contains x=false)(o:FnOk P w K mg base (CX1 P w) (k+j) fa fd ps (lift K n S))(h2:PySem.W.keepIn K (.ref fa)=true)(h3:Binds K fd ps [])(h4:mg (Str.ofString x)=some (.ref fa)):Bse (gC Φ x S) P w K mg base (CX1 P w) (k+j) ((x,n)::fs) bt cn xs {}:=by
 refine ⟨λf m hm=>?_,B.blt,B.con,B.xcl,B.xis,(λ_ _ _ _ h=>(nomatch h)),(λ_ _ h=>(nomatch h)),(λ_ _ h=>(nomatch h))⟩;rcases aT.mp hm with e' |hm'
 ·cases e';exact ⟨fa,fd,ps,by unfold gC;rw[if_pos rfl];exact o,h2,h3,h4⟩
 ·obtain ⟨fa,fd,ps,h1,h⟩:=B.call f m hm';have hf:f≠x:=by
   rintro rfl;rw[<-Bool.not_eq_true,a7]at hx;exact hx (bX.mpr ⟨(f,m),hm',rfl⟩)
  exact ⟨fa,fd,ps,by unfold gC;rw[if_neg hf];exact h1.mono (cf _ _),h⟩
end
theorem ab8{S:RF.Spec}(hS:∀(ns:List Int)(G:DH),ns.length<=63->∃a,S.pre [.scr ns] G a/\(∀d G',S.post a d G'->d=.bl true)/\∀x G',¬S.exc a x G')(K:PySem.W.Frag)(H:Hp)(a:Addr)(ns:List Int)(hl:ns.length<=63)(hO:Only H)(hs:SqL K H a (ns.map V.int)):
  lift K 1 S [.ref a] H (λv _=>v=.bl true) λ_ _ _=>False:=by
 obtain ⟨b,h1,h2,h3⟩:=hS ns (λ_=>none) hl;refine ⟨rfl,λ_=>False,λ_=>none,[.scr ns],⟨λ_ f=>f.elim,λ_ _ e=>by cases e⟩,⟨.ref a,[],rfl,⟨a,rfl,?_⟩,rfl⟩,b,h1,λd G' q H' F' v _ _ rv=>?_,λx G' q=>absurd q (h3 x G')⟩
 ·rcases hs with (h |h) |h
  ·exfalso;rcases hO a with z |⟨o,u,z⟩
   ·rw[z]at h;cases h
   ·rw[z]at h;cases h
  ·exact .inl h
  ·exact .inr h
 ·rw[h2 d G' q]at rv;exact rv
theorem ab9{pre:List D->DH->Prop}(h:∀(ns:List Int)(G:DH),ns.length<=63->pre [.scr ns] G):∀(ns:List Int)(G:DH),ns.length<=63->∃a,(bz pre (λ_ _ d _=>d=.bl true)).pre [.scr ns] G a/\(∀d G',(bz pre (λ_ _ d _=>d=.bl true)).post a d G'->d=.bl true)/\∀x G',¬(bz pre (λ_ _ d _=>d=.bl true)).exc a x G':=
 λns G hl=>⟨([.scr ns],G),⟨rfl,h ns G hl⟩,λ_ _ q=>q,λ_ _ z=>z⟩
def ghS{A:Type}(pre:A->List D->DH->Prop)(post:A->DH->D->DH->Prop):RF.Spec where
 A:=A×DH
 pre:=λds G a=>a.2=G/\pre a.1 ds G
 post:=λa d G'=>post a.1 a.2 d G'
 exc:=λ_ _ _=>False
theorem cP{A:Type}{pre:A->List D->DH->Prop}{post:A->DH->D->DH->Prop}{ds:List D}{G:DH}{k:D->DH->Prop}{E:EK}(a:A)(h:pre a ds G)(hk:∀d G',post a G d G'->k d G'):(ghS pre post).t ds G k E:=
 ⟨(a,G),⟨rfl,h⟩,hk,λ_ _ z=>z.elim⟩
theorem cX{A:Type}{Φ:aa}{body:Sxs}{m n:Nat}{pre:A->List D->DH->Prop}{post:A->DH->D->DH->Prop}(h:∀a ds G,pre a ds G->au Φ body noE (env0 ds m) G (ends (post a G))):
  ∀ds G a,ds.length=n->(ghS pre post).pre ds G a->au Φ body noE (env0 ds m) G (ends ((ghS pre post).post a)):=by
 rintro ds G ⟨a,G0⟩ _ ⟨rfl,h1⟩;exact h a ds _ h1
def bM{A:Type}(args:A->List D)(ok:A->Prop)(val:A->D):RF.Spec:=ghS (λa ds _=>ds=args a/\ok a) (λa G d G'=>G'=G/\d=val a)
theorem bN{A:Type}{args:A->List D}{ok:A->Prop}{val:A->D}{ds:List D}{G:DH}{k:D->DH->Prop}{E:EK}(a:A)(e:ds=args a)(h:ok a)(hk:k (val a) G):(bM args ok val).t ds G k E:=
 cP a ⟨e,h⟩ λd G' ⟨e1,e2⟩=>by subst e1 e2;exact hk
theorem b8{A:Type}{Φ:aa}{body:Sxs}{m n:Nat}{args:A->List D}{ok:A->Prop}{val:A->D}(h:∀a G,ok a->au Φ body noE (env0 (args a) m) G (ends λd G'=>G'=G/\d=val a)):
  ∀ds G a,ds.length=n->(bM args ok val).pre ds G a->au Φ body noE (env0 ds m) G (ends ((bM args ok val).post a)):=
 cX λa ds G ⟨e,h1⟩=>by subst e;exact h a G h1
theorem ai{a b:Prop}(x:a)(y:b):a/\b:=⟨x,y⟩
def Ni:=ai @rW (ai @jl (ai @rY (ai @rZ (ai @wZ (ai @sr (ai @su (ai @sy (ai @sE (ai @sG (ai @sH (ai (ai @sJ (ai @j6 (ai @xf (ai @xg (ai (ai @xm @xj) (ai @xq (ai @xr (ai (ai @wQ (ai (ai (ai @rP (ai @rQ (ai @rR @wU))) (ai @wR @wV)) (ai @wW (ai @wX @wY)))) (ai @w5 @sI))))))))) (ai @M8 (ai @Nh (ai (ai @rm (ai @qP (ai @qQ (ai @qR (ai @ji (ai @gn (ai @gq (ai @qT (ai @jZ (ai @qU (ai @j0 (ai @qW (ai @qX (ai @qY (ai @qZ (ai @wL (ai @wM (ai @wN (ai @q8 @q9))))))))))))))))))) (ai @gQ (ai @rn (ai @rz (ai @rA (ai @j4 (ai @j5 (ai @rB (ai @rD (ai @rE (ai @rF (ai @rG (ai @rH (ai (ai @rJ @wO) (ai @rK (ai @rM (ai @rN (ai @rO (ai @eV (ai @rT (ai @Ng (ai @HN (ai @HQ (ai @HR (ai @HS (ai @HW (ai @HX (ai (ai @Ia (ai @H9 @HY)) (ai @Ib (ai @Ie (ai @Ig (ai @Ih (ai @Ii (ai @Ij (ai @Ik (ai @Il (ai @Im (ai @Io (ai @Ip (ai @Ir (ai @Iu (ai @Iv (ai @Iw (ai @Iz (ai @IK (ai @IV (ai @IW (ai @Ja (ai @Jb (ai @Jc (ai @Jd (ai @Jf (ai @Jg (ai @Jh (ai @Ji (ai @Jj (ai @Jm (ai @Jo (ai @Jp (ai @Jq (ai (ai @Js @Jr) (ai @Jt (ai @Ju (ai @Jv (ai @Jw (ai @Jx (ai @Jy (ai @JB (ai @JC (ai @JD (ai @JF (ai (ai @JN @JM) (ai (ai @JP (ai (ai @JL (ai @JH @JK)) @JG)) (ai @JQ (ai @JR (ai @JS (ai @JT (ai (ai @JV (ai @J1 (ai @J2 (ai @J3 (ai @J4 (ai @Kq @Kp)))))) (ai @JW (ai (ai @J0 (ai @JX @JZ)) (ai @J5 (ai @J6 (ai @J7 (ai @J8 (ai @J9 (ai @Ka (ai @Kc (ai @Kd (ai @Ke (ai @Kf (ai @Kg (ai @Kh (ai @Kl (ai @Km (ai @Ko (ai @Kr (ai @Ks (ai @Ku (ai @Kv (ai @Kw (ai @Ky (ai @Kz (ai @KC (ai @KD (ai @KH (ai @KJ (ai @KN (ai @KQ (ai @KR (ai @is_tup (ai @KY (ai @KZ (ai (ai @K3 @K1) (ai @K4 (ai @K5 (@Jl)))))))))))))))))))))))))))))))))))))))))))))))))))))))))))))))))))))))))))))))))))))))))))))))))))))))))))))))))))))))))))))))))
theorem aca:type_of% (af @jj @jk):=af @jj @jk
theorem Nj:type_of% (af @M9 (af @Nb (af @Nf (af @Option.join_some.{0} (af @bn.{0,0} (af @dP.{0,0} (af @List.cons_append.{0} (af @List.nil_append.{0} (af @bP.{0} (af @List.replicate_zero.{0} (af @List.getElem?_cons_zero.{0} (af @List.getElem?_cons_succ.{0} (af @List.set_cons_zero.{0} (af @List.set_cons_succ.{0} (af @cb.{0} (af @List.length_nil.{0} (af @Hu (af @Hv (af @Hw (af @Hx (af @Hy (af @Hz (af @HB (af @true_and (af @eS (af @Nat.min_self (af @Nat.zero_min (af @Nat.min_zero (af @eh (af @Bool.or_false (af @Bool.or_true (af @Bool.false_or (af @Bool.true_or (af @Bool.not_true (af @Bool.not_false (af @K6 (af @K7 (af @K8 (af @K9 (af @La (af @Lb (af @Ld (af @Lg (af @Lh (af @Li (af @Lj (af @Lk (af @Ln (af @Lp (af @Lq (af @Lr (af @Ls (af @Lw (af @Lx (af @Ly (af @Lz (af @LC (af @LK (af @LQ (af @LR (af @Ma (af @Mg (af @Mh (af @Mi (af @Mj (af @Ml (af @Mm (af @Mp (af @Mq (af @Mr (af @Ms (af @Mt (af @Mu (af @Mv (af @Mw (af @Mx (af @My (af @Mz (af @MF (af @MJ (af @MK (af @MN (af @MP (af @MT (af @M3 (af @M4 (af @M5 (af @M6 (@M7))))))))))))))))))))))))))))))))))))))))))))))))))))))))))))))))))))))))))))))))))))))))):=af @M9 (af @Nb (af @Nf (af @Option.join_some.{0} (af @bn.{0,0} (af @dP.{0,0} (af @List.cons_append.{0} (af @List.nil_append.{0} (af @bP.{0} (af @List.replicate_zero.{0} (af @List.getElem?_cons_zero.{0} (af @List.getElem?_cons_succ.{0} (af @List.set_cons_zero.{0} (af @List.set_cons_succ.{0} (af @cb.{0} (af @List.length_nil.{0} (af @Hu (af @Hv (af @Hw (af @Hx (af @Hy (af @Hz (af @HB (af @true_and (af @eS (af @Nat.min_self (af @Nat.zero_min (af @Nat.min_zero (af @eh (af @Bool.or_false (af @Bool.or_true (af @Bool.false_or (af @Bool.true_or (af @Bool.not_true (af @Bool.not_false (af @K6 (af @K7 (af @K8 (af @K9 (af @La (af @Lb (af @Ld (af @Lg (af @Lh (af @Li (af @Lj (af @Lk (af @Ln (af @Lp (af @Lq (af @Lr (af @Ls (af @Lw (af @Lx (af @Ly (af @Lz (af @LC (af @LK (af @LQ (af @LR (af @Ma (af @Mg (af @Mh (af @Mi (af @Mj (af @Ml (af @Mm (af @Mp (af @Mq (af @Mr (af @Ms (af @Mt (af @Mu (af @Mv (af @Mw (af @Mx (af @My (af @Mz (af @MF (af @MJ (af @MK (af @MN (af @MP (af @MT (af @M3 (af @M4 (af @M5 (af @M6 (@M7))))))))))))))))))))))))))))))))))))))))))))))))))))))))))))))))))))))))))))))))))))))))
noncomputable def uv(c:CT)(g f:String)(ss:List Stmt):Bool:=(two ss).any λs=>az (jr s.2) λa=>(one a.1).any λtg=>az (ig tg) λv=>aX c (.exp (.call g (.cons (.var 1) .nil))) s.1&&aj c (.var 0) v.1&&v.2.1==Str.ofString f&&!cN a.2.1&&aj c (.lst false (.cons (.var 1) .nil)) a.2.1
theorem acb{c:CT}{g f:String}{ss:List Stmt}(h:uv c g f ss=true):∃s1 o n p e pos,ss=[s1,.Assign [.Attribute o n p] e pos]/\aX c (.exp (.call g (.cons (.var 1) .nil))) s1=true/\aj c (.var 0) o=true/\n=Str.ofString f/\cN e=false/\aj c (.lst false (.cons (.var 1) .nil)) e=true:=by unfold uv at h;obtain ⟨s,hs,h⟩:=aZ h;obtain ⟨a,ha,h⟩:=aL h;obtain ⟨tg,ht,h⟩:=aZ h;obtain ⟨v,hv,h⟩:=aL h;rw[ae,ae,ae,ae,av,e9]at h;obtain ⟨⟨⟨⟨h1,h2⟩,h3⟩,h4⟩,h5⟩:=h;exact ⟨_,_,_,_,_,_,by rw[kE hs,ha,eY ht,hv],h1,h2,h3,h4,h5⟩
section
variable {Φ:aa} {P:Program} {w:World} {K:PySem.W.Frag} {mg:Str->Option Value} {base:Heap} {k:Nat} {fs:List (String×Nat)} {bt:List String} {cn:List (String×D)} {xs:List (String×Bool)} {ot:OT}
def acd(Φ:aa)(K:PySem.W.Frag)(c:Addr)(g f:String):Sp:=λvs H Q EX=>∃x b dx d F G,vs=[.ref x,b]/\H x=some (.ins c dx [])/\F x/\R K H F G/\Rep K H F d b/\
 (Φ g).t [d] G (λ_ G1=>∀q,G1 q=none->∀H2 F2,Ext H F H2 F2->R K H2 F2 (aD G1 q (.lst [d]))->Q .non (upd H2 x (.ins c dx [(Str.ofString f,.ref q)]))) (PX K H F EX)
theorem ace{C f g:String}{nm qual:Str}{st:Stmt}{fa c:Addr}{fd:FuncData}{N ps:List Str}(B:Bse Φ P w K mg base (CX1 P w) k fs bt cn xs ot)(Fu:Fun K nm qual st fa fd)(hb:Binds K fd ps [])
  (hmg:mg (Str.ofString C)=some (.ref c)) (hns:PySem.W.nsIn K mainGlobals (Str.ofString C)=some (some (.ref c))) (hcl:Cls K c) (hna:NoAttr K c (Str.ofString f)) (M:Mk K c fa)
  (hs:fnB N ps (ao st)=true) (hc:uv (aH N (ao st) fs bt cn xs ot) g f (aF st)=true) (hn:ps.length=2) (hm:N.length=2)
  (hS:∀d G kk E,(Φ C).t [d] G kk E->(Φ g).t [d] G (λ_ G1=>∀q,G1 q=none->kk (.obj C f q) (aD G1 q (.lst [d]))) E):MkoOk Φ P w K mg base (CX1 P w) (k+2) C 1:=by
 refine ⟨c,fa,fd,ps,acd Φ K c g f,k+1,aw _,hmg,M,hb,?_,?_⟩
 ·obtain ⟨s1,o,n,p,e,pos,eb,c1,c2,en,c3,c4⟩:=acb hc;subst en;refine Fu.okX (yC hs) (λvs H Q E h=>by obtain ⟨x,b,dx,d,F,G,rfl,_⟩:=h;rw[hn];rfl) λcdv A outer s H vs Q EX hr hsp=>?_;obtain ⟨x,b,dx,d,F,G,rfl,hx,fx,r,rb,ht⟩:=hsp;have St:Stat Φ (CX1 P w) k (aH N (ao st) fs bt cn xs ot) (PX K H F EX) ⟨H,F⟩ (cU (CX1 P w) P w K mg base N qual (ao st) fa cdv A outer s H EX):=abV B hs hr λx G' H' F' hx e r'=>hx H' F' e r';rw[eb];refine ⟨_,Bk (Hq St _ c1) (U3 (Wl (aA _ St c2) (aA _ St c4) (uq c3 _ _ _))),?_⟩;refine ⟨[some (.ref x),some d],F,G,Ext.refl _ _,?_,r,?_⟩
  ·have e2:L2.start N [V.ref x,b]=[some (V.ref x),some b]:=by
    unfold L2.start;rw[show N.length - [V.ref x,b].length=0 by rw[hm];rfl];rfl
   rw[e2];exact ⟨_,_,rfl,λd' hd=>⟨_,rfl,by cases hd;rfl⟩,_,_,rfl,λd' hd=>⟨_,rfl,by cases hd;exact rb⟩,rfl⟩
  ·show (Φ g).t [d] G _ _;refine Spec.mono ht (λd' G1 q=>?_) λ_ _ z=>z;intro H1 F1 σ1 x1 he1 r1;refine aM (x:=.lst false (.cons (.var 1) .nil)) (E:=PX K H F EX) (ρ:=[some (.ref x),some d]) (G:=G1) (W:=λy G2=>∃q',y=.ref q'/\G1 q'=none/\G2=aD G1 q' (.lst [d])) x1 he1 r1 ?_ ?_
   ·show _/\mk false [d] G1 _;exact ⟨show 1<=sz by decide,λq' hq'=>⟨q',rfl,hq',rfl⟩⟩
   ·rintro y G2 H2 F2 v ⟨q',rfl,hq',rfl⟩ e2 x2 he2 r2 rv;refine aM (x:=.var 0) (E:=PX K H F EX) (ρ:=[some (.ref x),some d]) (W:=λy G3=>y=.ref x/\G3=aD G1 q' (.lst [d])) e2 he2 r2 ⟨rfl,rfl⟩ ?_;rintro y G3 H3 F3 v3 ⟨rfl,rfl⟩ e3 x3 he3 r3 rv3;have ev:v=.ref q':=rv;have ev3:v3=.ref x:=rv3;subst ev ev3;have hx3:H3 x=some (.ins c dx []):=(e3.keep x fx).trans hx;refine ⟨x,c,dx,[],rfl,hx3,hcl,hna,by decide,?_⟩;exact q q' hq' H3 F3 e3 r3
 ·intro vs H Q E hl x dx hx hdx hne;obtain ⟨hlen,F,G,ds,r,rs,ht⟩:=hl;obtain ⟨d,rfl⟩:=cO (rs.length.trans hlen);obtain ⟨b,rfl,rb⟩:=bx rs;have hx1:(upd H dx (.own x)) x=none:=by rw[aJ (Ne.symm hne)];exact hx
  have r1:=r.newO (o:=.own x) hdx;have e1:=wg (o:=.own x) r hdx;have r2:=r1.newO (o:=.ins c dx []) hx1;have e2:=wg (o:=.ins c dx []) r1 hx1;have e12:=e1.trans e2;refine ⟨x,b,dx,d,_,G,rfl,cJ,.inr rfl,r2,Rep.ext e12 rb,?_⟩;refine Spec.mono (hS d G _ _ ht) (λd' G1 q=>λq' hq' H2 F2 x2 r2'=>⟨rfl,?_⟩) λxn G' z H2 F2 x2 r2'=>z H2 F2 (e12.trans x2) r2';have hx2:H2 x=some (.ins c dx []):=(x2.keep x (.inr rfl)).trans cJ;have e3:=e12.trans x2;refine q q' hq' (upd H2 x (.ins c dx [(Str.ofString f,.ref q')])) F2 (.ref x) ⟨e3.sub,λa ha=>?_,λa ys ha=>?_,λa o u ha=>?_⟩ (r2'.setO hx2) ⟨x,c,dx,rfl,⟨x2.sub x (.inr rfl),cJ⟩,hns⟩
  ·rw[aJ λe=>r.notF hx (by rw[<-e];exact ha)];exact e3.keep a ha
  ·rw[aJ (bu ha hx)];exact e3.tups a ys ha
  ·rw[aJ (bu ha hx)];exact e3.frzs a o u ha
theorem Bse.alias{x y:String}{n:Nat}(B:Bse Φ P w K mg base (CX1 P w) k fs bt cn xs ot)(hm:fs.contains (x,n)=true)(e:Φ y=Φ x)(h:mg (Str.ofString y)=mg (Str.ofString x)):Bse Φ P w K mg base (CX1 P w) (k+1) ((y,n)::fs) bt cn xs ot:=by obtain ⟨fa,fd,ps,F0,hk,hb,hmg⟩:=B.call x n (a7.mp hm);exact B.add e (F0.mono (fk _)) hk hb (h.trans hmg)
end
noncomputable def lq:Sxs:=(.cons (.ite (.boo false (.not (.val (.isi (.var 0) "str"))) (.cons (.not (.val (.chn .LtE .LtE (.cst (.int 1)) (.bcl .len (.cons (.var 0) .nil)) (.glb "LONGEST_DEED" (.int 8))))) .nil)) (.cons (.ret (.cst (.bl false))) .nil) .nil) (.cons (.ret (.bcl .all (.cons (.comp true (.cmp .In (.var 0) (.glb "LETTERS" (.str [97,98,99,100,101,102,103,104,105,106,107,108,109,110,111,112,113,114,115,116,117,118,119,120,121,122]))) (.nm 0) (.seq (.var 0)) .yes ["sign"] [none]) .nil))) .nil))
noncomputable def lr:Sxs:=(.cons (.ite (.boo false (.not (.val (.isi (.var 2) "str"))) (.cons (.val (.cmp .NotEq (.bcl .len (.cons (.var 2) .nil)) (.var 1))) .nil)) (.cons (.ret (.cst (.bl false))) .nil) .nil) (.cons (.ret (.bcl .all (.cons (.comp true (.cmp .In (.var 0) (.var 1)) (.nm 0) (.seq (.var 2)) .yes ["sign","signs"] [none,some 0]) .nil))) .nil))
noncomputable def lu:Sxs:=(.cons (.ret (.call "is_text_of" (.cons (.cst (.str [48,49,42])) (.cons (.var 0) (.cons (.var 1) .nil))))) .nil)
noncomputable def lw:Sxs:=(.cons (.ite (.boo false (.not (.val (.isi (.var 1) "tuple"))) (.cons (.val (.cmp .NotEq (.bcl .len (.cons (.var 1) .nil)) (.cst (.int 2)))) .nil)) (.cons (.ret (.cst (.bl false))) .nil) .nil) (.cons (.ret (.boo true (.call "is_form" (.cons (.var 0) (.cons (.idx (.var 1) (.cst (.int 0))) .nil))) (.cons (.call "is_deed" (.cons (.idx (.var 1) (.cst (.int 1))) .nil)) .nil))) .nil))
noncomputable def lz:Sxs:=(.cons (.ret (.boo true (.isi (.var 0) "int") (.cons (.not (.isi (.var 0) "bool")) .nil))) .nil)
noncomputable def lA:Sxs:=(.cons (.ret (.boo true (.call "is_whole" (.cons (.var 0) .nil)) (.cons (.chn .LtE .LtE (.cst (.int 1)) (.var 0) (.glb "WIDEST" (.int 6))) .nil))) .nil)
noncomputable def lB:Sxs:=(.cons (.ite (.boo false (.not (.val (.isi (.var 0) "tuple"))) (.cons (.val (.cmp .NotEq (.bcl .len (.cons (.var 0) .nil)) (.cst (.int 2)))) .nil)) (.cons (.ret (.cst (.bl false))) .nil) .nil) (.cons (.asg (.tp (.cons (.nm 1) (.cons (.nm 2) .nil))) (.var 0)) (.cons (.ite (.boo false (.not (.val (.call "is_width" (.cons (.var 1) .nil)))) (.cons (.not (.val (.isi (.var 2) "tuple"))) (.cons (.val (.cmp .Gt (.bcl .len (.cons (.var 2) .nil)) (.glb "MOST_ROWS" (.int 12)))) .nil))) (.cons (.ret (.cst (.bl false))) .nil) .nil) (.cons (.ret (.bcl .all (.cons (.comp true (.call "is_row" (.cons (.var 1) (.cons (.var 0) .nil))) (.nm 0) (.seq (.var 2)) .yes ["row","width"] [none,some 1]) .nil))) .nil))))
noncomputable def lC:Sxs:=(.cons (.ite (.not (.val (.call "is_book" (.cons (.var 0) .nil)))) (.cons (.rse "NoBook" .nil) .nil) .nil) .nil)
noncomputable def lD:Sxs:=(.cons (.asg (.nm 2) (.cst (.str []))) (.cons (.for_ (.tp (.cons (.nm 3) (.cons (.nm 4) .nil))) (.zip (.var 0) (.var 1)) (.cons (.ite (.val (.cmp .Eq (.var 3) (.cst (.str [42])))) (.cons (.aug 2 .Add (.var 4)) .nil) (.cons (.ite (.boo false (.val (.cmp .Eq (.var 4) (.cst (.str [42])))) (.cons (.val (.cmp .Eq (.var 4) (.var 3))) .nil)) (.cons (.aug 2 .Add (.var 3)) .nil) (.cons (.ret (.cst .non)) .nil)) .nil)) .nil)) (.cons (.ret (.var 2)) .nil)))
noncomputable def lE:Sxs:=(.cons (.for_ (.tp (.cons (.nm 2) (.cons (.nm 3) .nil))) (.enm (.var 0)) (.cons (.ite (.val (.cmp .IsNot (.call "both" (.cons (.idx (.var 3) (.cst (.int 0))) (.cons (.var 1) .nil))) (.cst .non))) (.cons (.ret (.var 2)) .nil) .nil) .nil)) (.cons (.ret (.cst .non)) .nil))
noncomputable def lF:Sxs:=(.cons (.asg (.nm 2) (.call "first_touching" (.cons (.var 0) (.cons (.var 1) .nil)))) (.cons (.ite (.val (.cmp .Is (.var 2) (.cst .non))) (.cons (.ret (.cst .non)) .nil) .nil) (.cons (.for_ (.tp (.cons (.nm 3) (.cons (.nm 4) .nil))) (.enm (.idx (.idx (.var 0) (.var 2)) (.cst (.int 0)))) (.cons (.ite (.boo true (.val (.cmp .Eq (.idx (.var 1) (.var 3)) (.cst (.str [42])))) (.cons (.val (.cmp .NotEq (.var 4) (.cst (.str [42])))) .nil)) (.cons (.ret (.var 3)) .nil) .nil) .nil)) (.cons (.ret (.cst .non)) .nil))))
noncomputable def lG:Sxs:=(.cons (.ret (.bin .Add true (.bin .Add true (.slc true (.var 0) .no (.ob (.var 1))) (.var 2)) (.slc true (.var 0) (.ob (.bin .Add true (.var 1) (.cst (.int 1)))) .no))) .nil)
noncomputable def jF:Sxs:=(.cons (.for_ (.nm 3) (.seq (.var 1)) (.cons (.asg (.nm 4) (.call "splitting_place" (.cons (.var 3) (.cons (.var 2) .nil)))) (.cons (.ite (.val (.cmp .IsNot (.var 4) (.cst .non))) (.cons (.asg (.nm 5) (.call "grown" (.cons (.var 0) (.cons (.var 1) (.cons (.call "with_sign" (.cons (.var 2) (.cons (.var 4) (.cons (.cst (.str [48])) .nil)))) .nil))))) (.cons (.asg (.nm 6) (.call "grown" (.cons (.var 0) (.cons (.var 1) (.cons (.call "with_sign" (.cons (.var 2) (.cons (.var 4) (.cons (.cst (.str [49])) .nil)))) .nil))))) (.cons (.ret (.tup (.cons (.cst (.str [115,112,108,105,116])) (.cons (.var 4) (.cons (.var 5) (.cons (.var 6) .nil)))))) .nil))) .nil) .nil))) (.cons (.ret (.bin .Add true (.tup (.cons (.var 0) .nil)) (.bcl .tuple (.cons (.comp true (.call "first_touching" (.cons (.var 0) (.cons (.var 1) .nil))) (.nm 0) (.seq (.var 1)) .yes ["rows","box"] [none,some 2]) .nil)))) .nil))
noncomputable def lH:Sxs:=(.cons (.ret (.boo true (.isi (.var 2) "tuple") (.cons (.cmp .Eq (.bcl .len (.cons (.var 2) .nil)) (.bin .Add true (.var 1) (.cst (.int 1)))) (.cons (.cmp .Eq (.idx (.var 2) (.cst (.int 0))) (.var 0)) .nil)))) .nil)
noncomputable def lJ:Sxs:=(.cons (.ret (.boo true (.call "is_whole" (.cons (.var 1) .nil)) (.cons (.chn .LtE .Lt (.cst (.int 0)) (.var 1) (.var 0)) .nil))) .nil)
noncomputable def iw:Sxs:=(.cons (.ite (.not (.val (.call "is_named" (.cons (.cst (.str [115,112,108,105,116])) (.cons (.cst (.int 3)) (.cons (.var 1) .nil)))))) (.cons (.ret (.lst true (.cons (.tup (.cons (.var 0) (.cons (.var 1) .nil))) .nil))) .nil) .nil) (.cons (.asg (.nm 2) (.idx (.var 1) (.cst (.int 1)))) (.cons (.ite (.boo false (.not (.val (.call "is_place" (.cons (.bcl .len (.cons (.var 0) .nil)) (.cons (.var 2) .nil))))) (.cons (.val (.cmp .NotEq (.idx (.var 0) (.var 2)) (.cst (.str [42])))) .nil)) (.cons (.ret (.cst .non)) .nil) .nil) (.cons (.asg (.nm 3) (.call "leaves" (.cons (.call "with_sign" (.cons (.var 0) (.cons (.var 2) (.cons (.cst (.str [48])) .nil)))) (.cons (.idx (.var 1) (.cst (.int 2))) .nil)))) (.cons (.asg (.nm 4) (.call "leaves" (.cons (.call "with_sign" (.cons (.var 0) (.cons (.var 2) (.cons (.cst (.str [49])) .nil)))) (.cons (.idx (.var 1) (.cst (.int 3))) .nil)))) (.cons (.ite (.boo false (.val (.cmp .Is (.var 3) (.cst .non))) (.cons (.val (.cmp .Is (.var 4) (.cst .non))) .nil)) (.cons (.ret (.cst .non)) .nil) .nil) (.cons (.ret (.bin .Add true (.var 3) (.var 4))) .nil)))))))
noncomputable def lK:Sxs:=(.cons (.exp (.call "need_book" (.cons (.var 0) .nil))) (.cons (.ite (.not (.val (.call "is_place" (.cons (.bcl .len (.cons (.idx (.var 0) (.cst (.int 1))) .nil)) (.cons (.var 1) .nil))))) (.cons (.rse "NoRow" (.cons (.bcl .len (.cons (.idx (.var 0) (.cst (.int 1))) .nil)) .nil)) .nil) .nil) .nil))
noncomputable def lL:Sxs:=(.cons (.exp (.call "need_row" (.cons (.var 0) (.cons (.var 1) .nil)))) (.cons (.asg (.nm 2) (.idx (.var 0) (.cst (.int 1)))) (.cons (.asg (.nm 3) (.idx (.idx (.var 2) (.var 1)) (.cst (.int 0)))) (.cons (.asg (.nm 4) (.call "grown" (.cons (.cst (.str [117,110,100,101,114])) (.cons (.lst true (.cons (.slc true (.var 2) .no (.ob (.var 1))) .nil)) (.cons (.var 3) .nil))))) (.cons (.asg (.nm 5) (.comp true (.call "least" (.cons (.var 0) .nil)) (.tp (.cons (.nm 0) (.cons (.nm 1) .nil))) (.seq (.call "leaves" (.cons (.var 3) (.cons (.var 4) .nil)))) (.val (.cmp .Is (.idx (.var 1) (.cst (.int 1))) (.cst .non))) ["box","leaf"] [none,none])) (.cons (.ite (.val (.var 5)) (.cons (.ret (.tup (.cons (.cst (.str [119,111,114,100])) (.cons (.bcl .min (.cons (.var 5) .nil)) .nil)))) .nil) .nil) (.cons (.ret (.tup (.cons (.cst (.str [104,105,100,100,101,110])) (.cons (.var 4) .nil)))) .nil)))))))
noncomputable def lM:Sxs:=(.cons (.exp (.call "need_book" (.cons (.var 0) .nil))) (.cons (.ret (.comp false (.var 0) (.nm 0) (.rng (.bcl .len (.cons (.idx (.var 0) (.cst (.int 1))) .nil))) (.val (.cmp .Eq (.idx (.call "reach" (.cons (.var 1) (.cons (.var 0) .nil))) (.cst (.int 0))) (.cst (.str [104,105,100,100,101,110])))) ["number","book"] [none,some 0])) .nil))
noncomputable def lN:Sxs:=(.cons (.exp (.call "need_book" (.cons (.var 0) .nil))) (.cons (.exp (.call "need_book" (.cons (.var 1) .nil))) (.cons (.ite (.val (.cmp .NotEq (.idx (.var 0) (.cst (.int 0))) (.idx (.var 1) (.cst (.int 0))))) (.cons (.rse "NoMatch" (.cons (.idx (.var 0) (.cst (.int 0))) (.cons (.idx (.var 1) (.cst (.int 0))) .nil))) .nil) .nil) .nil)))
noncomputable def jG:Sxs:=(.cons (.ite (.val (.cmp .Is (.var 1) (.cst .non))) (.cons (.ret (.cst .non)) .nil) .nil) (.cons (.ret (.idx (.idx (.idx (.var 0) (.cst (.int 1))) (.var 1)) (.cst (.int 1)))) .nil))
noncomputable def lO:Sxs:=(.cons (.ret (.cmp .Eq (.call "deed_of" (.cons (.var 0) (.cons (.idx (.var 2) (.cst (.int 1))) .nil))) (.call "deed_of" (.cons (.var 1) (.cons (.idx (.var 2) (.cst (.int 2))) .nil))))) .nil)
def lQ:Sxs:=(.cons (.ret (.bin .Mult true (.cst (.str [42])) (.var 0))) .nil)
noncomputable def lR:Sxs:=(.cons (.exp (.call "need_two_books" (.cons (.var 0) (.cons (.var 1) .nil)))) (.cons (.asg (.nm 2) (.call "stars" (.cons (.idx (.var 0) (.cst (.int 0))) .nil))) (.cons (.asg (.nm 3) (.call "grown" (.cons (.cst (.str [115,97,109,101])) (.cons (.lst true (.cons (.idx (.var 0) (.cst (.int 1))) (.cons (.idx (.var 1) (.cst (.int 1))) .nil))) (.cons (.var 2) .nil))))) (.cons (.asg (.nm 4) (.comp true (.call "least" (.cons (.var 0) .nil)) (.tp (.cons (.nm 0) (.cons (.nm 1) .nil))) (.seq (.call "leaves" (.cons (.var 2) (.cons (.var 3) .nil)))) (.not (.val (.call "same_deeds" (.cons (.var 2) (.cons (.var 3) (.cons (.var 1) .nil)))))) ["part","leaf","one","other"] [none,none,some 0,some 1])) (.cons (.ite (.val (.var 4)) (.cons (.ret (.tup (.cons (.cst (.str [112,97,114,116,101,100])) (.cons (.bcl .min (.cons (.var 4) .nil)) .nil)))) .nil) .nil) (.cons (.ret (.tup (.cons (.cst (.str [97,108,105,107,101])) (.cons (.var 3) .nil)))) .nil))))))
noncomputable def lU:Sxs:=(.cons (.asg (.tp (.cons (.nm 2) (.cons (.nm 3) .nil))) (.call "alike" (.cons (.var 0) (.cons (.var 1) .nil)))) (.cons (.ret (.ife (.val (.cmp .Eq (.var 2) (.cst (.str [112,97,114,116,101,100])))) (.var 3) (.cst .non))) .nil))
def yL:Sxs:=(.cons (.set (.var 0) (.cst (.int 2)) (.cst (.int 0))) (.cons (.ret (.var 0)) .nil))
noncomputable def yM:Sxs:=(.cons (.ite (.val (.cmp .GtE (.var 0) (.bin .Pow true (.cst (.int 10)) (.cst (.int 18))))) (.cons (.ret (.var 0)) .nil) .nil) (.cons (.asg (.nm 2) (.bin .Mod true (.bin .Add true (.bin .Add true (.bin .Mult true (.bin .Mod true (.var 0) (.cst (.int 1000000007))) (.cst (.int 69069))) (.bin .Mult true (.var 1) (.cst (.int 40503)))) (.cst (.int 977))) (.cst (.int 2147483629)))) (.cons (.asg (.nm 3) (.bin .Mod true (.bin .Add true (.bin .Add true (.bin .Mult true (.var 2) (.var 2)) (.bin .Mult true (.var 1) (.cst (.int 7919)))) (.bin .Mod true (.var 0) (.cst (.int 65537)))) (.cst (.int 2147483587)))) (.cons (.asg (.nm 4) (.bin .Mod true (.bin .Add true (.bin .Add true (.bin .Mult true (.var 3) (.var 3)) (.bin .Mult true (.var 2) (.cst (.int 31)))) (.cst (.int 5))) (.cst (.int 2147483563)))) (.cons (.ret (.bin .Add true (.bin .Mult true (.bin .Add true (.bin .Mult true (.var 2) (.cst (.int 2147483659))) (.var 3)) (.cst (.int 2147483693))) (.var 4))) .nil)))))
noncomputable def yN:Sxs:=(.cons (.ite (.val (.cmp .Lt (.idx (.var 0) (.cst (.int 2))) (.var 1))) (.cons (.asg (.nm 2) (.idx (.var 0) (.cst (.int 1)))) (.cons (.asg (.nm 3) (.cst (.int 0))) (.cons (.ite (.val (.cmp .Lt (.var 2) (.bcl .len (.cons (.idx (.var 0) (.cst (.int 0))) .nil)))) (.cons (.asg (.nm 3) (.idx (.idx (.var 0) (.cst (.int 0))) (.var 2))) .nil) (.cons (.ite (.val (.cmp .Gt (.bcl .len (.cons (.idx (.var 0) (.cst (.int 0))) .nil)) (.cst (.int 0)))) (.cons (.asg (.nm 3) (.bin .Mod true (.idx (.idx (.var 0) (.cst (.int 0))) (.bin .Mod true (.bin .Add true (.bin .Mult true (.var 2) (.cst (.int 5))) (.cst (.int 3))) (.bcl .len (.cons (.idx (.var 0) (.cst (.int 0))) .nil)))) (.bin .Add true (.bin .Pow true (.cst (.int 10)) (.cst (.int 17))) (.var 2)))) .nil) .nil) .nil)) (.cons (.set (.var 0) (.cst (.int 1)) (.bin .Add true (.var 2) (.cst (.int 1)))) (.cons (.set (.var 0) (.cst (.int 2)) (.call "_law_spread" (.cons (.var 3) (.cons (.var 2) .nil)))) .nil))))) .nil) (.cons (.asg (.nm 4) (.bin .Mod true (.idx (.var 0) (.cst (.int 2))) (.var 1))) (.cons (.set (.var 0) (.cst (.int 2)) (.bin .FloorDiv true (.idx (.var 0) (.cst (.int 2))) (.var 1))) (.cons (.ret (.var 4)) .nil))))
noncomputable def yO:Sxs:=(.cons (.ret (.mth .join (.cst (.str [])) (.cons (.comp true (.idx (.var 1) (.call "_law_take" (.cons (.var 2) (.cons (.bcl .len (.cons (.var 1) .nil)) .nil)))) (.nm 0) (.rng (.var 1)) .yes ["at","signs","pen"] [none,some 2,some 0]) .nil))) .nil)
noncomputable def yP:Sxs:=(.cons (.asg (.nm 2) (.lst true (.cons (.cst (.str [97])) (.cons (.cst (.str [103,111])) (.cons (.cst (.str [115,116,97,121])) (.cons (.cst (.str [97,98,99,100,101,102,103,104])) (.cons (.cst (.str [110,111,110,101])) (.cons (.cst (.str [121,101,115])) (.cons (.cst (.str [105,110])) (.cons (.cst (.str [111,117,116])) (.cons (.cst (.str [107,101,101,112])) (.cons (.cst (.str [119,111,114,100])) (.cons (.cst (.str [122,122])) .nil))))))))))))) (.cons (.asg (.nm 3) (.call "_law_take" (.cons (.var 0) (.cons (.cst (.int 11)) .nil)))) (.cons (.asg (.nm 4) (.comp true (.idx (.var 1) (.bin .Mod true (.bin .Add true (.var 2) (.bin .Mult true (.cst (.int 3)) (.var 0))) (.cst (.int 11)))) (.nm 0) (.rng (.bin .Add true (.cst (.int 1)) (.call "_law_take" (.cons (.var 0) (.cons (.var 1) .nil))))) .yes ["k","some","turn"] [none,some 2,some 3])) (.cons (.ite (.val (.cmp .Eq (.call "_law_take" (.cons (.var 0) (.cons (.cst (.int 3)) .nil))) (.cst (.int 0)))) (.cons (.asg (.nm 5) (.cst (.str [97,98,99,100,101,102,103,104,105,106,107,108,109,110,111,112,113,114,115,116,117,118,119,120,121,122]))) (.cons (.asg (.nm 4) (.comp true (.call "_law_signs" (.cons (.var 1) (.cons (.bin .Add true (.cst (.int 1)) (.call "_law_take" (.cons (.var 1) (.cons (.cst (.int 8)) .nil)))) (.cons (.var 2) .nil)))) (.nm 0) (.seq (.var 4)) .yes ["one","pen","letters"] [none,some 0,some 5])) .nil)) .nil) (.cons (.ret (.var 4)) .nil)))))
noncomputable def yQ:Sxs:=(.cons (.ret (.call "_law_signs" (.cons (.var 0) (.cons (.var 1) (.cons (.idx (.lst true (.cons (.cst (.str [48,49,42])) (.cons (.cst (.str [48,49,42,42])) (.cons (.cst (.str [48,49,42,42,42,42])) (.cons (.cst (.str [48,42])) (.cons (.cst (.str [48,49])) .nil)))))) (.call "_law_take" (.cons (.var 0) (.cons (.cst (.int 5)) .nil)))) .nil))))) .nil)
noncomputable def yR:Sxs:=(.cons (.asg (.nm 2) (.cst (.str []))) (.cons (.for_ (.nm 3) (.seq (.var 1)) (.cons (.ite (.val (.cmp .Eq (.call "_law_take" (.cons (.var 0) (.cons (.cst (.int 3)) .nil))) (.cst (.int 0)))) (.cons (.asg (.nm 3) (.cst (.str [42]))) .nil) .nil) (.cons (.asg (.nm 2) (.bin .Add true (.var 2) (.var 3))) .nil))) (.cons (.ret (.var 2)) .nil)))
noncomputable def yS:Sxs:=(.cons (.asg (.nm 2) (.cst (.str []))) (.cons (.for_ (.nm 3) (.seq (.var 1)) (.cons (.ite (.boo true (.val (.cmp .Eq (.var 3) (.cst (.str [42])))) (.cons (.val (.cmp .Eq (.call "_law_take" (.cons (.var 0) (.cons (.cst (.int 2)) .nil))) (.cst (.int 0)))) .nil)) (.cons (.asg (.nm 3) (.idx (.cst (.str [48,49])) (.call "_law_take" (.cons (.var 0) (.cons (.cst (.int 2)) .nil))))) .nil) .nil) (.cons (.asg (.nm 2) (.bin .Add true (.var 2) (.var 3))) .nil))) (.cons (.ret (.var 2)) .nil)))
noncomputable def yU:Sxs:=(.cons (.asg (.nm 3) (.call "_law_take" (.cons (.var 0) (.cons (.cst (.int 7)) .nil)))) (.cons (.ite (.boo false (.val (.cmp .Eq (.var 2) (.lst true .nil))) (.cons (.val (.cmp .Lt (.var 3) (.cst (.int 2)))) .nil)) (.cons (.ret (.call "_law_form" (.cons (.var 0) (.cons (.var 1) .nil)))) .nil) .nil) (.cons (.asg (.nm 4) (.idx (.var 2) (.call "_law_take" (.cons (.var 0) (.cons (.bcl .len (.cons (.var 2) .nil)) .nil))))) (.cons (.ite (.val (.cmp .Eq (.var 3) (.cst (.int 2)))) (.cons (.ret (.var 4)) .nil) .nil) (.cons (.ite (.val (.cmp .Lt (.var 3) (.cst (.int 5)))) (.cons (.asg (.nm 5) (.call "_law_take" (.cons (.var 0) (.cons (.var 1) .nil)))) (.cons (.ret (.bin .Add true (.bin .Add true (.slc true (.var 4) .no (.ob (.var 5))) (.idx (.cst (.str [48,49,42])) (.call "_law_take" (.cons (.var 0) (.cons (.cst (.int 3)) .nil))))) (.slc true (.var 4) (.ob (.bin .Add true (.var 5) (.cst (.int 1)))) .no))) .nil)) .nil) (.cons (.ite (.val (.cmp .Eq (.var 3) (.cst (.int 5)))) (.cons (.ret (.call "_law_within" (.cons (.var 0) (.cons (.var 4) .nil)))) .nil) .nil) (.cons (.ret (.call "_law_wider" (.cons (.var 0) (.cons (.var 4) .nil)))) .nil)))))))
noncomputable def yV:Sxs:=(.cons (.asg (.nm 3) (.bin .Add true (.cst (.int 1)) (.call "_law_take" (.cons (.var 0) (.cons (.var 1) .nil))))) (.cons (.asg (.nm 4) (.call "_law_deeds_of" (.cons (.var 0) (.cons (.cst (.int 3)) .nil)))) (.cons (.asg (.nm 5) (.lst false .nil)) (.cons (.asg (.nm 6) (.lst false .nil)) (.cons (.for_ (.nm 7) (.rng (.call "_law_take" (.cons (.var 0) (.cons (.bin .Add true (.var 2) (.cst (.int 1))) .nil)))) (.cons (.exp (.mth .append (.var 5) (.cons (.call "_law_form_like" (.cons (.var 0) (.cons (.var 3) (.cons (.var 5) .nil)))) .nil))) (.cons (.exp (.mth .append (.var 6) (.cons (.tup (.cons (.idx (.var 5) (.neg (.cst (.int 1)))) (.cons (.idx (.var 4) (.call "_law_take" (.cons (.var 0) (.cons (.bcl .len (.cons (.var 4) .nil)) .nil)))) .nil))) .nil))) .nil))) (.cons (.ret (.tup (.cons (.var 3) (.cons (.bcl .tuple (.cons (.var 6) .nil)) .nil)))) .nil))))))
noncomputable def yW:Sxs:=(.cons (.ret (.comp true (.idx (.var 0) (.cst (.int 0))) (.nm 0) (.seq (.var 0)) .yes ["row"] [none])) .nil)
noncomputable def lV:Sxs:=(.cons (.exp (.call "need_row" (.cons (.var 0) (.cons (.var 1) .nil)))) (.cons (.asg (.tp (.cons (.nm 2) (.cons (.nm 3) .nil))) (.var 0)) (.cons (.ret (.tup (.cons (.var 2) (.cons (.bin .Add true (.slc true (.var 3) .no (.ob (.var 1))) (.slc true (.var 3) (.ob (.bin .Add true (.var 1) (.cst (.int 1)))) .no)) .nil)))) .nil)))
noncomputable def d7:Sxs:=(.cons (.ite (.val (.cmp .Is (.var 1) (.cst .non))) (.cons (.ret (.cmp .Is (.var 0) (.cst .non))) .nil) .nil) (.cons (.ite (.boo false (.val (.isi (.var 1) "bool")) (.cons (.val (.isi (.var 0) "bool")) .nil)) (.cons (.ret (.boo true (.isi (.var 1) "bool") (.cons (.isi (.var 0) "bool") (.cons (.cmp .Eq (.var 0) (.var 1)) .nil)))) .nil) .nil) (.cons (.ite (.val (.isi (.var 1) "int")) (.cons (.ret (.boo true (.isi (.var 0) "int") (.cons (.cmp .Eq (.var 0) (.var 1)) .nil))) .nil) .nil) (.cons (.ite (.val (.isi (.var 1) "str")) (.cons (.ret (.boo true (.isi (.var 0) "str") (.cons (.cmp .Eq (.var 0) (.var 1)) .nil))) .nil) .nil) (.cons (.ite (.boo false (.val (.cmp .NotEq (.isi (.var 1) "tuple") (.isi (.var 0) "tuple"))) (.cons (.val (.cmp .NotEq (.isi (.var 1) "list") (.isi (.var 0) "list"))) .nil)) (.cons (.ret (.cst (.bl false))) .nil) .nil) (.cons (.ite (.val (.cmp .NotEq (.bcl .len (.cons (.var 0) .nil)) (.bcl .len (.cons (.var 1) .nil)))) (.cons (.ret (.cst (.bl false))) .nil) .nil) (.cons (.ret (.cmp .NotIn (.cst (.bl false)) (.comp true (.call "_law_same" (.cons (.var 0) (.cons (.var 1) .nil))) (.tp (.cons (.nm 0) (.cons (.nm 1) .nil))) (.zip (.var 0) (.var 1)) .yes ["one","other"] [none,none]))) .nil)))))))
noncomputable def yX:Sxs:=(.cons (.asg (.tp (.cons (.nm 2) (.cons (.nm 3) .nil))) (.call "alike" (.cons (.var 0) (.cons (.var 1) .nil)))) (.cons (.ret (.ife (.val (.cmp .Eq (.var 2) (.cst (.str [112,97,114,116,101,100])))) (.var 3) (.cst .non))) .nil))
noncomputable def lW:Sxs:=(.cons (.ret (.bin .Add true (.bin .Add true (.slc true (.var 0) .no (.ob (.var 1))) (.tup (.cons (.idx (.var 0) (.bin .Add true (.var 1) (.cst (.int 1)))) (.cons (.idx (.var 0) (.var 1)) .nil)))) (.slc true (.var 0) (.ob (.bin .Add true (.var 1) (.cst (.int 2)))) .no))) .nil)
noncomputable def lX:Sxs:=(.cons (.exp (.call "need_book" (.cons (.var 0) .nil))) (.cons (.asg (.tp (.cons (.nm 2) (.cons (.nm 3) .nil))) (.var 0)) (.cons (.ite (.not (.val (.call "is_place" (.cons (.bin .Sub true (.bcl .len (.cons (.var 3) .nil)) (.cst (.int 1))) (.cons (.var 1) .nil))))) (.cons (.rse "NoRow" (.cons (.bcl .len (.cons (.var 3) .nil)) .nil)) .nil) .nil) (.cons (.ret (.cmp .Is (.call "parting_word" (.cons (.var 0) (.cons (.tup (.cons (.var 2) (.cons (.call "exchanged" (.cons (.var 3) (.cons (.var 1) .nil))) .nil))) .nil))) (.cst .non))) .nil))))
noncomputable def lY:Sxs:=(.cons (.ite (.val (.cmp .NotEq (.bcl .len (.cons (.var 0) .nil)) (.bcl .len (.cons (.var 1) .nil)))) (.cons (.ret (.cst (.bl false))) .nil) .nil) (.cons (.ret (.bcl .all (.cons (.comp true (.boo false (.cmp .Eq (.var 0) (.cst (.str [42]))) (.cons (.cmp .Eq (.var 0) (.var 1)) .nil)) (.tp (.cons (.nm 0) (.cons (.nm 1) .nil))) (.zip (.var 0) (.var 1)) .yes ["sign","given"] [none,none]) .nil))) .nil))
noncomputable def lZ:Sxs:=(.cons (.ret (.call "is_text_of" (.cons (.cst (.str [48,49])) (.cons (.var 0) (.cons (.var 1) .nil))))) .nil)
noncomputable def mj:Sxs:=(.cons (.exp (.call "need_book" (.cons (.var 0) .nil))) (.cons (.asg (.tp (.cons (.nm 2) (.cons (.nm 3) .nil))) (.var 0)) (.cons (.ite (.not (.val (.call "is_word" (.cons (.var 2) (.cons (.var 1) .nil))))) (.cons (.rse "NoWord" (.cons (.var 2) .nil)) .nil) .nil) (.cons (.for_ (.tp (.cons (.nm 4) (.cons (.nm 5) .nil))) (.enm (.var 3)) (.cons (.ite (.val (.call "fits" (.cons (.idx (.var 5) (.cst (.int 0))) (.cons (.var 1) .nil)))) (.cons (.ret (.var 4)) .nil) .nil) .nil)) (.cons (.ret (.cst .non)) .nil)))))
noncomputable def mq:Sxs:=(.cons (.ret (.call "deed_of" (.cons (.var 0) (.cons (.call "met" (.cons (.var 0) (.cons (.var 1) .nil))) .nil)))) .nil)
noncomputable def my:Sxs:=(.cons (.exp (.call "need_two_books" (.cons (.var 0) (.cons (.var 1) .nil)))) (.cons (.ret (.cmp .NotEq (.call "deed" (.cons (.var 0) (.cons (.var 2) .nil))) (.call "deed" (.cons (.var 1) (.cons (.var 2) .nil))))) .nil))
noncomputable def yZ:Sxs:=(.cons (.asg (.nm 1) (.lcl false .list (.cons (.slc true (.var 0) .no (.ob (.cst (.int 12)))) .nil))) (.cons (.for_ (.tp (.cons (.nm 2) (.cons (.nm 3) .nil))) (.enm (.slc true (.var 0) (.ob (.cst (.int 12))) (.ob (.cst (.int 63))))) (.cons (.set (.var 1) (.bin .Mod true (.var 2) (.cst (.int 12))) (.bin .Add true (.idx (.var 1) (.bin .Mod true (.var 2) (.cst (.int 12)))) (.var 3))) .nil)) (.cons (.ret (.lst false (.cons (.frz (.var 1)) (.cons (.cst (.int 0)) (.cons (.cst (.int 0)) .nil))))) .nil)))
noncomputable def mz:Sxs:=(.cons (.asg (.tp (.cons (.nm 2) (.cons (.nm 3) .nil))) (.call "alike" (.cons (.var 0) (.cons (.call "without" (.cons (.var 0) (.cons (.var 1) .nil))) .nil)))) (.cons (.ret (.tup (.cons (.ife (.val (.cmp .Eq (.var 2) (.cst (.str [97,108,105,107,101])))) (.cst (.str [110,101,101,100,108,101,115,115])) (.cst (.str [110,101,101,100,101,100]))) (.cons (.var 3) .nil)))) .nil))
def mC:Sxs:=(.cons (.ret (.idx (.fld "Sieve" "books" (.var 0)) (.neg (.cst (.int 1))))) .nil)
noncomputable def za:Sxs:=(.cons (.ret (.call "hidden_reached" (.cons (.mcl "Sieve.book" "Sieve" "book" (.var 0) .nil) .nil))) .nil)
noncomputable def mD:Sxs:=(.cons (.asg (.nm 2) (.mcl "Sieve.book" "Sieve" "book" (.var 0) .nil)) (.cons (.exp (.mth .append (.fld "Sieve" "books" (.var 0)) (.cons (.tup (.cons (.idx (.var 2) (.cst (.int 0))) (.cons (.var 1) .nil))) .nil))) (.cons (.ret (.call "parting_word" (.cons (.var 2) (.cons (.mcl "Sieve.book" "Sieve" "book" (.var 0) .nil) .nil)))) .nil)))
noncomputable def mF:Sxs:=(.cons (.asg (.tp (.cons (.nm 4) (.cons (.nm 5) .nil))) (.mcl "Sieve.book" "Sieve" "book" (.var 0) .nil)) (.cons (.ite (.not (.val (.call "is_place" (.cons (.bin .Add true (.bcl .len (.cons (.var 5) .nil)) (.cst (.int 1))) (.cons (.var 1) .nil))))) (.cons (.rse "NoRow" (.cons (.bcl .len (.cons (.var 5) .nil)) .nil)) .nil) .nil) (.cons (.ite (.boo false (.not (.val (.call "is_form" (.cons (.var 4) (.cons (.var 2) .nil))))) (.cons (.not (.val (.call "is_deed" (.cons (.var 3) .nil)))) .nil)) (.cons (.rse "NoForm" (.cons (.var 4) .nil)) .nil) .nil) (.cons (.ite (.val (.cmp .GtE (.bcl .len (.cons (.var 5) .nil)) (.glb "MOST_ROWS" (.int 12)))) (.cons (.rse "Full" (.cons (.glb "MOST_ROWS" (.int 12)) .nil)) .nil) .nil) (.cons (.ret (.mcl "Sieve.turn" "Sieve" "turn" (.var 0) (.cons (.bin .Add true (.bin .Add true (.slc true (.var 5) .no (.ob (.var 1))) (.tup (.cons (.tup (.cons (.var 2) (.cons (.var 3) .nil))) .nil))) (.slc true (.var 5) (.ob (.var 1)) .no)) .nil))) .nil)))))
noncomputable def mG:Sxs:=(.cons (.exp (.call "need_row" (.cons (.mcl "Sieve.book" "Sieve" "book" (.var 0) .nil) (.cons (.var 1) .nil)))) (.cons (.exp (.call "need_row" (.cons (.mcl "Sieve.book" "Sieve" "book" (.var 0) .nil) (.cons (.var 2) .nil)))) (.cons (.asg (.nm 3) (.idx (.idx (.mcl "Sieve.book" "Sieve" "book" (.var 0) .nil) (.cst (.int 1))) (.var 1))) (.cons (.asg (.nm 4) (.idx (.call "without" (.cons (.mcl "Sieve.book" "Sieve" "book" (.var 0) .nil) (.cons (.var 1) .nil))) (.cst (.int 1)))) (.cons (.ret (.mcl "Sieve.turn" "Sieve" "turn" (.var 0) (.cons (.bin .Add true (.bin .Add true (.slc true (.var 4) .no (.ob (.var 2))) (.tup (.cons (.var 3) .nil))) (.slc true (.var 4) (.ob (.var 2)) .no)) .nil))) .nil)))))
noncomputable def mH:Sxs:=(.cons (.ret (.mcl "Sieve.turn" "Sieve" "turn" (.var 0) (.cons (.idx (.call "without" (.cons (.mcl "Sieve.book" "Sieve" "book" (.var 0) .nil) (.cons (.var 1) .nil))) (.cst (.int 1))) .nil))) .nil)
noncomputable def zb:Sxs:=(.cons (.asg (.nm 3) (.mko "Sieve" (.cons (.var 0) .nil))) (.cons (.asg (.nm 4) (.mko "Sieve" (.cons (.var 0) .nil))) (.cons (.asg (.nm 5) (.mcl "Sieve.move" "Sieve" "move" (.var 3) (.cons (.var 1) (.cons (.var 2) .nil)))) (.cons (.exp (.mcl "Sieve.out" "Sieve" "out" (.var 4) (.cons (.var 1) .nil))) (.cons (.exp (.mcl "Sieve.put" "Sieve" "put" (.var 4) (.cons (.var 2) (.cons (.idx (.idx (.idx (.var 0) (.cst (.int 1))) (.var 1)) (.cst (.int 0))) (.cons (.idx (.idx (.idx (.var 0) (.cst (.int 1))) (.var 1)) (.cst (.int 1))) .nil))))) (.cons (.ite (.boo false (.not (.val (.call "_law_same" (.cons (.mcl "Sieve.book" "Sieve" "book" (.var 3) .nil) (.cons (.mcl "Sieve.book" "Sieve" "book" (.var 4) .nil) .nil))))) (.cons (.not (.val (.call "_law_same" (.cons (.var 5) (.cons (.call "_law_word_of" (.cons (.var 0) (.cons (.mcl "Sieve.book" "Sieve" "book" (.var 3) .nil) .nil))) .nil))))) .nil)) (.cons (.ret (.cst (.bl false))) .nil) .nil) (.cons (.ite (.boo true (.val (.cmp .IsNot (.var 5) (.cst .non))) (.cons (.not (.val (.call "parts" (.cons (.var 0) (.cons (.mcl "Sieve.book" "Sieve" "book" (.var 3) .nil) (.cons (.var 5) .nil)))))) .nil)) (.cons (.ret (.cst (.bl false))) .nil) .nil) (.cons (.ret (.boo false (.cmp .NotEq (.bcl .abs (.cons (.bin .Sub true (.var 1) (.var 2)) .nil)) (.cst (.int 1))) (.cons (.cmp .Eq (.cmp .Is (.var 5) (.cst .non)) (.call "may_swap" (.cons (.var 0) (.cons (.bcl .min2 (.cons (.var 1) (.cons (.var 2) .nil))) .nil)))) .nil))) .nil))))))))
noncomputable def zc:Sxs:=(.cons (.asg (.tp (.cons (.nm 2) (.cons (.nm 3) .nil))) (.call "needless" (.cons (.var 0) (.cons (.var 1) .nil)))) (.cons (.asg (.nm 4) (.mko "Sieve" (.cons (.var 0) .nil))) (.cons (.asg (.nm 5) (.mcl "Sieve.out" "Sieve" "out" (.var 4) (.cons (.var 1) .nil))) (.cons (.ite (.not (.val (.call "_law_same" (.cons (.mcl "Sieve.book" "Sieve" "book" (.var 4) .nil) (.cons (.call "without" (.cons (.var 0) (.cons (.var 1) .nil))) .nil))))) (.cons (.ret (.cst (.bl false))) .nil) .nil) (.cons (.ret (.call "_law_same" (.cons (.var 5) (.cons (.ife (.val (.cmp .Eq (.var 2) (.cst (.str [110,101,101,100,108,101,115,115])))) (.cst .non) (.var 3)) .nil)))) .nil)))))
noncomputable def zf:Sxs:=(.cons (.asg (.nm 1) (.call "_law_open" (.cons (.var 0) .nil))) (.cons (.for_ (.nm 2) (.rng (.cst (.int 4))) (.cons (.asg (.nm 3) (.call "_law_book" (.cons (.call "_law_anew" (.cons (.var 1) .nil)) (.cons (.idx (.lst true (.cons (.cst (.int 5)) (.cons (.cst (.int 6)) .nil))) (.bin .Mod true (.var 2) (.cst (.int 2)))) (.cons (.cst (.int 9)) .nil))))) (.cons (.ite (.val (.cmp .Eq (.idx (.var 3) (.cst (.int 1))) (.tup .nil))) (.cons (.asg (.nm 3) (.tup (.cons (.idx (.var 3) (.cst (.int 0))) (.cons (.tup (.cons (.tup (.cons (.bin .Mult true (.cst (.str [42])) (.idx (.var 3) (.cst (.int 0)))) (.cons (.cst (.str [97])) .nil))) .nil)) .nil)))) .nil) .nil) (.cons (.asg (.nm 4) (.call "_law_take" (.cons (.var 1) (.cons (.bcl .len (.cons (.idx (.var 3) (.cst (.int 1))) .nil)) .nil)))) (.cons (.asg (.nm 5) (.idx (.lst true (.cons (.call "_law_take" (.cons (.var 1) (.cons (.bcl .len (.cons (.idx (.var 3) (.cst (.int 1))) .nil)) .nil))) (.cons (.bcl .min2 (.cons (.bin .Add true (.var 4) (.cst (.int 1))) (.cons (.bin .Sub true (.bcl .len (.cons (.idx (.var 3) (.cst (.int 1))) .nil)) (.cst (.int 1))) .nil))) .nil))) (.call "_law_take" (.cons (.var 1) (.cons (.cst (.int 2)) .nil))))) (.cons (.ite (.boo false (.not (.val (.call "_law_out_right" (.cons (.var 3) (.cons (.var 4) .nil))))) (.cons (.not (.val (.call "_law_move_right" (.cons (.var 3) (.cons (.var 4) (.cons (.var 5) .nil)))))) .nil)) (.cons (.ret (.cst (.bl false))) .nil) .nil) (.cons (.asg (.nm 6) (.mko "Sieve" (.cons (.var 3) .nil))) (.cons (.asg (.nm 7) (.call "_law_form_like" (.cons (.var 1) (.cons (.idx (.var 3) (.cst (.int 0))) (.cons (.call "_law_forms" (.cons (.idx (.var 3) (.cst (.int 1))) .nil)) .nil))))) (.cons (.asg (.nm 8) (.mcl "Sieve.put" "Sieve" "put" (.var 6) (.cons (.var 5) (.cons (.var 7) (.cons (.cst (.str [115,116,97,121])) .nil))))) (.cons (.ite (.not (.val (.call "_law_same" (.cons (.var 8) (.cons (.call "_law_word_of" (.cons (.var 3) (.cons (.mcl "Sieve.book" "Sieve" "book" (.var 6) .nil) .nil))) .nil))))) (.cons (.ret (.cst (.bl false))) .nil) .nil) (.cons (.exp (.mcl "Sieve.put" "Sieve" "put" (.var 6) (.cons (.cst (.int 0)) (.cons (.bin .Mult true (.cst (.str [42])) (.idx (.var 3) (.cst (.int 0)))) (.cons (.cst (.str [102,105,114,115,116])) .nil))))) (.cons (.ite (.boo false (.val (.cmp .IsNot (.mcl "Sieve.put" "Sieve" "put" (.var 6) (.cons (.cst (.int 1)) (.cons (.var 7) (.cons (.cst (.str [110,101,118,101,114])) .nil)))) (.cst .non))) (.cons (.val (.cmp .NotIn (.cst (.int 1)) (.mcl "Sieve.hidden" "Sieve" "hidden" (.var 6) .nil))) .nil)) (.cons (.ret (.cst (.bl false))) .nil) .nil) .nil)))))))))))) (.cons (.ret (.cst (.bl true))) .nil)))
end RF
local macro_rules | `(tactic| simp_arith [$l,*] $[$c:location]?) => `(tactic| simp -implicitDefEqProofs only [↓RF.aca, ↓RF.Ni, RF.Nj, RF.env0, RF.ends, String.reduceBEq, $l,*] $[$c:location]?)
local macro_rules | `(tactic| simp_arith! [$l,*] $[$c:location]?) => `(tactic| simp -implicitDefEqProofs only [↓RF.Ni, RF.Nj, RF.env0, RF.ends, String.reduceBEq, $l,*] $[$c:location]?)
local macro_rules | `(tactic| simp_all_arith [$l,*]) => `(tactic| simp -implicitDefEqProofs only [RF.env0, RF.ends, List.map_cons, List.map_nil, List.cons_append, List.nil_append, List.replicate_succ, List.replicate_zero, $l,*])
namespace RF
open PySem L2
theorem iy{i j:Int}(h:-(2 ^ 64) < j/\j < 2 ^ 64):CMul i j:=.inr h
theorem zg{i j:Int}(h:-(2 ^ 64) < i/\i < 2 ^ 64):CMul i j:=.inl h
theorem Nk{j:Int}(h:0<=j/\j<=1000):qp 10 j:=⟨h.1,by omega,by decide⟩
def uw:RF.Spec:=bz (λds _=>∃c k:Int,ds=[.int c,.int k]/\0<=k) (λ_ G d G'=>G'=G/\∃r:Int,d=.int r/\0<=r)
theorem acf(Φ:aa)(ds:List D)(G:DH)(h:∃c k:Int,ds=[.int c,.int k]/\0<=k):au Φ yM noE (env0 ds 3) G (ends λd G'=>G'=G/\∃r:Int,d=.int r/\0<=r):=by
 obtain ⟨c,k,rfl,hk⟩:=h;simp_arith[yM];refine ⟨Nk (by decide),?_⟩;cases hc:decide (10 ^ Int.toNat 18<=c) with
 |true=>
  refine ⟨c,rfl,?_⟩;have:=dk hc;have h2:(0:Int)<=(10:Int) ^ (18:Int).toNat:=by decide
  exact Int.le_trans h2 this
 |false=>
  generalize hone:(c % 1000000007 * 69069+k * 40503+977) % 2147483629=one;have o1:0<=one:=by rw[<-hone];exact e6 _ (by decide)
  have o2:one < 2147483629:=by rw[<-hone];exact eM _ (by decide)
  generalize htwo:(one * one+k * 7919+c % 65537) % 2147483587=two;have t1:0<=two:=by rw[<-htwo];exact e6 _ (by decide)
  have t2:two < 2147483587:=by rw[<-htwo];exact eM _ (by decide)
  generalize hthree:(two * two+one * 31+5) % 2147483563=three;have h1:0<=three:=by rw[<-hthree];exact e6 _ (by decide)
  clear hone htwo hthree;refine ⟨by decide,iy (by decide),iy (by decide),by decide,zg (by omega),iy (by decide),by decide,by decide,zg (by omega),iy (by decide),by decide,iy (by decide),iy (by decide),_,rfl,?_⟩;omega
def Pen(G:DH)(p:Addr):Prop:=∃(ns:List Int)(k st:Int),G p=some (.lst [.lst (ns.map D.int),.int k,.int st])/\0<=k/\0<=st
theorem Pen.sa{G G':DH}{p:Addr}(h:Pen G p)(s:Sa G G'):Pen G' p:=by obtain ⟨ns,k,st,e,h1⟩:=h;exact ⟨ns,k,st,s _ _ e,h1⟩
theorem Pen.ne{G:DH}{p q:Addr}(h:Pen G p)(e:G q=none):p≠q:=by obtain ⟨ns,k,st,e1,h1⟩:=h;exact v8 e1 e
theorem Pen.sb{G G':DH}{p q:Addr}(h:Pen G p)(s:Sb q G G')(n:p≠q):Pen G' p:=by obtain ⟨ns,k,st,e,h1⟩:=h;exact ⟨ns,k,st,s _ _ e n,h1⟩
def ux:RF.Spec:=bz (λds G=>∃p,ds=[.ref p]/\Pen G p) (λds G d G'=>∃p,ds=[.ref p]/\d=.ref p/\Pen G' p/\Sb p G G')
theorem acg(Φ:aa)(ds:List D)(G:DH)(h:∃p,ds=[.ref p]/\Pen G p):au Φ yL noE (env0 ds 0) G (ends λd G'=>∃p,ds=[.ref p]/\d=.ref p/\Pen G' p/\Sb p G G'):=by obtain ⟨p,rfl,ns,k,st,e,h1,h2⟩:=h;simp_arith[yL,dD e];exact ⟨p,rfl,rfl,⟨ns,k,0,aV,h1,by decide⟩,Sb.upd⟩
def d8:RF.Spec:=bz (λds G=>∃p,∃m:Int,ds=[.ref p,.int m]/\Pen G p/\0 < m/\m < 1152921504606846976) (λds G d G'=>∃p,∃m r:Int,ds=[.ref p,.int m]/\d=.int r/\0<=r/\r < m/\Pen G' p/\Sb p G G')
theorem ach (Φ:aa) (hΦ:Φ "_law_spread"=uw) (ds:List D) (G:DH) (h:∃p,∃m:Int,ds=[.ref p,.int m]/\Pen G p/\0 < m/\m < 1152921504606846976):
  au Φ yN noE (env0 ds 3) G (ends λd G'=>∃p,∃m r:Int,ds=[.ref p,.int m]/\d=.int r/\0<=r/\r < m/\Pen G' p/\Sb p G G'):=by
 obtain ⟨p,m,rfl,⟨ns,k,st,e,h1,h2⟩,h3,h4⟩:=h;simp_all_arith[yN];refine seq λM hM=>?_;have fin:∀(ρ2 ρ3 ρ4:Option D)(G1:DH)(k1 s1:Int),0<=k1->0<=s1->G1 p=some (.lst [.lst (ns.map D.int),.int k1,.int s1])->Sb p G G1->M [some (.ref p),some (.int m),ρ2,ρ3,ρ4] G1:=by intro ρ2 ρ3 ρ4 G1 k1 s1 q1 q2 e1 sb;refine hM _ _ ?_;simp_arith[b7 e1,dD e1];refine ⟨h3,⟨h3,h4⟩,p,m,_,rfl,rfl,e6 _ (by omega),eM _ h3,⟨ns,k1,_,aV,q1,?_⟩,sb.trans Sb.upd⟩;exact Int.ediv_nonneg q2 (by omega)
 simp_arith[b7 e,dD e,hΦ];have draw:∀c:Int,uw.t [.int c,.int k] (aD G p (.lst [.lst (ns.map D.int),.int (k+1),.int st])) (λx G1=>trk G1 p λds=>bf (ixN ds.length 2) λj=>M [some (.ref p),some (.int m),some (.int k),some (.int c),none] (aD G1 p (.lst (ds.set j x)))) noE:=by intro c;refine bL ⟨c,k,rfl,h1⟩ λd G' hx=>?_;obtain ⟨e1,r,e2,hr⟩:=hx;subst e1 e2;simp_arith[dD aV];refine fin _ _ _ _ (k+1) r (by omega) hr aV (Sb.trans Sb.upd Sb.upd)
 cases hc:decide (st < m) with
 |false=>exact fin _ _ _ _ k st h1 h2 e (Sb.refl _ _)
 |true=>
  cases hk:decide (k < ((ns.map D.int).length:Int)) with
  |true=>
   have hk:=dk hk;rw[al]at hk;refine bY (a:=.int ns[k.toNat]) ?_ ?_
   ·obtain ⟨n,rfl⟩:=cy h1;exact bJ (by simp at hk ⊢)
   ·exact draw _
  |false=>
   cases hz:decide (0 < ((ns.map D.int).length:Int)) with
   |false=>exact draw 0
   |true=>
    have hz:=dk hz;have j1:0<=(k * 5+3) % ((ns.map D.int).length:Int):=e6 _ (by omega);have j2:(k * 5+3) % ((ns.map D.int).length:Int) < ((ns.map D.int).length:Int):=eM _ hz;obtain ⟨j,hj⟩:=cy j1;rw[hj]at j2;have j3:j < ns.length:=by rw[al]at j2;omega
    refine ⟨iy (by decide),hz,bY (a:=.int ns[j]) ?_ ⟨Nk (by decide),?_⟩⟩
    ·rw[hj];exact bJ (by simp[j3])
    ·simp_arith[dD e];refine ⟨?_,draw _⟩;have:(0:Int) < 10 ^ Int.toNat 17:=by decide
     omega
def mJ:RF.Spec:=bz (λds G=>∃p,∃n:Nat,∃cs:List Nat,ds=[.ref p,.int n,.str cs]/\Pen G p/\n<=1000/\cs≠[]/\cs.length<=1000)
 (λds G d G'=>∃p,∃n:Nat,∃cs l:List Nat,ds=[.ref p,.int n,.str cs]/\d=.str l/\l.length=n/\(∀c∈l,c∈cs)/\Pen G' p/\Sb p G G')
theorem aci(l:List Nat):((l.map λc=>[c]).map (·.length)).sum=l.length:=by
 induction l with
 |nil=>rfl
 |cons a l ih=>simp at ih ⊢;omega
theorem acj(l:List Nat):(l.map λc=>[c]).flatten=l:=by
 induction l with
 |nil=>rfl
 |cons a l ih=>simp at ih ⊢;exact ih
theorem ack (Φ:aa) (hΦ:Φ "_law_take"=d8) (ds:List D) (G:DH) (h:∃p,∃n:Nat,∃cs:List Nat,ds=[.ref p,.int n,.str cs]/\Pen G p/\n<=1000/\cs≠[]/\cs.length<=1000):
  au Φ yO noE (env0 ds 0) G (ends λd G'=>∃p,∃n:Nat,∃cs l:List Nat,ds=[.ref p,.int n,.str cs]/\d=.str l/\l.length=n/\(∀c∈l,c∈cs)/\Pen G' p/\Sb p G G'):=by
 obtain ⟨p,n,cs,rfl,hp,hn,hc,hl⟩:=h;have hc1:0 < cs.length:=List.length_pos_iff.mpr hc;simp_arith[yO,hΦ];refine ⟨by omega,CompG.inv (P:=λi acc ρ G'=>(∃o,ρ=[o,some (.str cs),some (.ref p)])/\Pen G' p/\Sb p G G'/\∃l:List Nat,acc=l.map (λc=>D.str [c])/\l.length=i/\∀c∈l,c∈cs) (h0:=⟨⟨_,rfl⟩,hp,Sb.refl _ _,[],rfl,rfl,by simp⟩) (hh:=λ_ _ _ _ _=>trivial) (hl:=by simp[bC];have hsz:sz=1000000:=rfl;omega) (hs:=?_) (he:=?_)⟩
 ·rintro i d acc ρ G' hd ⟨⟨o,rfl⟩,hp',sb,l,rfl,hl',hm⟩ kk hk;simp_arith[hΦ];refine bL ⟨p,_,rfl,hp',by omega,by omega⟩ λd' G2 hx=>?_;obtain ⟨p2,m2,r,e1,e2,r0,r1,pp2,sb2⟩:=hx;cases e1;subst e2;obtain ⟨j,rfl⟩:=cy r0;have hj:j < cs.length:=by omega
  simp_arith[ends];refine bY (a:=cs[j]) (bJ (by simp[hj])) (hk _ _ _ ⟨⟨_,rfl⟩,pp2,sb.trans sb2,l++[cs[j]],by simp,by simp[hl'],?_⟩);intro c hc;rcases aS.mp hc with h |h
  ·exact hm c h
  ·rw[a9.mp h];exact cw _
 ·rintro acc ρ G' ⟨_,hp',sb,l,rfl,hl',hm⟩;simp_arith[strs_map];have hl2:l.length=n:=by rw[hl'];simp[bC]
  refine ⟨?_,p,n,cs,l,rfl,?_,hl2,hm,hp',sb⟩
  ·rw[aci];simp;have hsz:sz=1000000:=rfl;omega
  ·rw[Ht,acj]
def isF(c:Nat):Prop:=c=48\/c=49\/c=42
def zj:RF.Spec:=bz (λds G=>∃p,∃n:Nat,ds=[.ref p,.int n]/\Pen G p/\n<=1000) (λds G d G'=>∃p,∃n:Nat,∃l:List Nat,ds=[.ref p,.int n]/\d=.str l/\l.length=n/\(∀c∈l,isF c)/\Pen G' p/\Sb p G G')
theorem acl (Φ:aa) (h1:Φ "_law_take"=d8) (h2:Φ "_law_signs"=mJ) (ds:List D) (G:DH) (h:∃p,∃n:Nat,ds=[.ref p,.int n]/\Pen G p/\n<=1000):
  au Φ yQ noE (env0 ds 0) G (ends λd G'=>∃p,∃n:Nat,∃l:List Nat,ds=[.ref p,.int n]/\d=.str l/\l.length=n/\(∀c∈l,isF c)/\Pen G' p/\Sb p G G'):=by
 obtain ⟨p,n,rfl,hp,hn⟩:=h;simp_arith[yQ,h1,h2];refine ⟨by decide,bL ⟨p,_,rfl,hp,by decide,by decide⟩ λd' G2 ⟨p2,m2,r,e1,e2,r0,r1,pp2,sb2⟩=>?_⟩;cases e1;subst e2;obtain ⟨j,rfl⟩:=cy r0;simp_arith[ends];have:∃cs:List Nat,atI [D.str [48,49,42],D.str [48,49,42,42],D.str [48,49,42,42,42,42],D.str [48,42],D.str [48,49]] ((j:Nat):Int)=some (.str cs)/\cs≠[]/\cs.length<=1000/\∀c∈cs,isF c:=by
  have hj:j=0\/j=1\/j=2\/j=3\/j=4:=by omega
  rcases hj with rfl |rfl |rfl |rfl |rfl <;> exact ⟨_,rfl,by decide,by decide,by simp[isF]⟩
 obtain ⟨cs,e,c1,c2,c3⟩:=this;refine bY e (bL ⟨p,n,cs,rfl,pp2,hn,c1,c2⟩ λd G3 ⟨p3,n3,cs3,l,e1,e2,q1,q2,q3,q4⟩=>?_);cases e1;exact ⟨p,n,l,rfl,e2,q1,λc hc=>c3 c (q2 c hc),q3,sb2.trans q4⟩
def zm:RF.Spec:=bz (λds _=>∃ns:List Int,ds=[.scr ns]/\ns.length<=63) (λ_ G d G'=>∃p,d=.ref p/\G p=none/\Pen G' p/\Sa G G')
theorem acn(Φ:aa)(ds:List D)(G:DH)(h:∃ns:List Int,ds=[.scr ns]/\ns.length<=63):au Φ yZ noE (env0 ds 3) G (ends λd G'=>∃p,d=.ref p/\G p=none/\Pen G' p/\Sa G G'):=by
 obtain ⟨ns,rfl,hl⟩:=h;simp_all_arith[yZ];refine seq λM hM=>?_;simp_arith[ends];intro c hc;refine hM _ _ ?_;refine seq λM hM=>?_;simp_arith[ends];refine ForG.inv (λi ρ G'=>∃(o2 o3:Option D)(xs:List Int),ρ=[some (.scr ns),some (.ref c),o2,o3]/\G'=aD G c (.lst (xs.map D.int))/\(12<=xs.length\/cut ns (some 12) (some 63)=[])) ⟨_,_,cut ns none (some 12),rfl,rfl,?_⟩ (λ_ _ _ _=>trivial) ?_ ?_
 ·by_cases h12:12<=ns.length
  ·left;simp[cut,HT.sIx];omega
  ·right;simp[cut,HT.sIx];omega
 ·rintro i d ρ G' hd ⟨o2,o3,xs,rfl,rfl,hx⟩ kk hk;rw[jy]at hd;obtain ⟨d',hd',e3⟩:=a8.mp hd;subst e3;rw[bp]at hd';obtain ⟨x,hx',e4⟩:=a8.mp hd';subst e4;have h12:12<=xs.length:=by
   rcases hx with h |h
   ·exact h
   ·rw[h]at hx';simp at hx'
  obtain ⟨j,hj⟩:=cy (e6 ((0+i:Nat):Int) (by decide:(12:Int)≠0));have hj12:j < 12:=by have:=eM ((0+i:Nat):Int) (by decide:(0:Int) < 12);omega
  have hjx:j < xs.length:=by omega
  simp_arith[hj,b7 aV,dD aV];refine ⟨by decide,bY (a:=.int xs[j]) (bJ (by simp[hjx])) ?_⟩;simp_arith[hj,b7 aV,dD aV,al,ab0 hjx];refine ⟨by decide,hk _ _ ⟨_,_,xs.set j (xs[j]+x),rfl,?_,by simp[h12]⟩⟩;rw[DK,List.map_set]
 ·rintro ρ G' ⟨o2,o3,xs,rfl,rfl,hx⟩;refine hM _ _ ?_;simp_arith[aV];refine ⟨by have hsz:sz=1000000:=rfl;omega,λp hp=>⟨p,rfl,?_,⟨xs,0,0,aV,by decide,by decide⟩,?_⟩⟩
  ·rw[DN hc]at hp;exact hp
  ·rw[DN hc]at hp ⊢;exact Sa.new hp
def mK:RF.Spec:=bz (λds _=>∃ns:List Int,ds=[.scr ns]/\ns.length<=63) (λ_ _ d _=>d=.bl true)
def whole:D->Bool
 |.int _=>true
 |_=>false
def iz:List D->Option D
 |[x]=>if nr x then some (.bl (whole x)) else none
 |_=>none
theorem aco(Φ:aa)(ds:List D)(G:DH)(d:D)(h:iz ds=some d):au Φ lz noE (env0 ds 0) G (ends λd' G'=>G'=G/\d'=d):=by
 unfold iz at h;split at h
 ·rename_i x;split at h
  ·rename_i hx;cases h;cases x <;> first | (simp[nr]at hx;done) | (simp_arith[lz,whole];try simp)
  ·cases h
 ·cases h
mutual
/-- no list within that is too long -/
noncomputable def d9:D->Bool
 |.tup l=>decide (l.length<=100000)&&fQ l
 |.lst l=>decide (l.length<=100000)&&fQ l
 |_=>true
noncomputable def fQ:List D->Bool
 |[]=>true
 |a::as=>d9 a&&fQ as
end
theorem Nm:∀{l:List D}{d:D},nrs l=true->d∈l->nr d=true
 |a::as,d,h,m=>by
  rw[nrs,ae]at h;rcases aT.mp m with e |m
  ·rw[e];exact h.1
  ·exact Nm h.2 m
theorem Np:∀{l:List D}{d:D},fQ l=true->d∈l->d9 d=true
 |a::as,d,h,m=>by
  rw[fQ,ae]at h;rcases aT.mp m with e |m
  ·rw[e];exact h.1
  ·exact Np h.2 m
theorem Nq:∀{l:List D}{d:D},d∈l->dpt d<=aQ l
 |a::as,d,m=>by
  rw[aQ];rcases aT.mp m with e |m
  ·rw[e];exact Nat.le_max_left _ _
  ·exact cm (Nq m) (Nat.le_max_right _ _)
theorem mL{n:Nat}:isIn (.bl false) (List.replicate n (.bl true))=false:=by
 induction n with
 |zero=>rfl
 |succ n ih=>simp only[isIn,bP,List.any_cons,deq]at ih ⊢;rw[ih];rfl
theorem mO{n:Nat}{b:Bool}:nrs (List.replicate n (.bl b))=true:=by
 induction n with
 |zero=>rfl
 |succ n ih=>rw[bP,nrs,ih];rfl
theorem mQ{n:Nat}{b:Bool}:aQ (List.replicate n (.bl b))=0:=by
 induction n with
 |zero=>rfl
 |succ n ih=>rw[bP,aQ,ih];rfl
theorem acp:∀(l:List D)(i:Nat)(d:D),(bI l l)[i]?=some d->∃a,a∈l/\d=.tup [a,a]
 |l,i,d,h=>by
  obtain ⟨a,b,h1,h2,rfl⟩:=yr l l i d h;rw[h1]at h2;cases h2;exact ⟨a,ce h1,rfl⟩
def Nr(n:Nat)(ds:List D)(G:DH):Prop:=∃x y v,ds=[x,y]/\view G x=v/\view G y=v/\nr v=true/\dpt v < n/\d9 v=true
def cY(n:Nat):RF.Spec:=bz (Nr n) (λ_ G d G'=>G'=G/\d=.bl true)
theorem acq{n:Nat}{x y v:D}{G:DH}{k:D->DH->Prop}{E:EK}(hx:view G x=v)(hy:view G y=v)(h1:nr v=true)(h2:dpt v < n)(h3:d9 v=true)(hk:k (.bl true) G):(cY n).t [x,y] G k E:=
 bL ⟨x,y,v,rfl,hx,hy,h1,h2,h3⟩ λd G' ⟨e1,e2⟩=>by subst e1 e2;exact hk
theorem Nt{x:D}{G:DH}(h1:nr x=true):view G x=x:=by cases x <;> first |rfl | (simp[nr]at h1)
theorem iB{n:Nat}{x:D}{G:DH}{k:D->DH->Prop}{E:EK}(h1:nr x=true)(h2:dpt x < n)(h3:d9 x=true)(hk:k (.bl true) G):(cY n).t [x,x] G k E:=
 acq (Nt h1) (Nt h1) h1 h2 h3 hk
theorem mR (Φ:aa) (n:Nat) (h1:Φ "_law_same"=cY n) {l:List D} {G:DH} {g:Hld} {k:List D->DH->Prop} (hg:held g G) (hn:nrs l=true) (hd:aQ l < n) (hs:fQ l=true) (hl:l.length<=100000)
  (he:k (List.replicate (bI l l).length (.bl true)) G):
  CompG Φ (Ex.call "_law_same" (Exs.cons (Ex.var 0) (Exs.cons (Ex.var 1) Exs.nil))) (Tg.tp (Tgs.cons (Tg.nm 0) (Tgs.cons (Tg.nm 1) Tgs.nil))) Tx.yes (bI l l) g [none,none] G k:=by
 refine CompG.inv (P:=λi acc ρ G'=>(∃o1 o2,ρ=[o1,o2])/\G'=G/\acc=List.replicate i (.bl true)) ⟨⟨_,_,rfl⟩,rfl,rfl⟩ (λ_ _ _ _ p=>by rw[p.2.1];exact hg) (by rw[ul];have hsz:sz=1000000:=rfl;omega) ?_ ?_
 ·rintro i d acc ρ G' hd' ⟨⟨o1,o2,rfl⟩,rfl,rfl⟩ kk hk;obtain ⟨a,ha,rfl⟩:=acp l i d hd';simp_arith[h1];refine iB (Nm hn ha) (Nat.lt_of_le_of_lt (Nq ha) hd) (Np hs ha) (hk _ _ _ ⟨⟨_,_,rfl⟩,rfl,?_⟩);simp[List.replicate_succ']
 ·rintro acc ρ G' ⟨_,rfl,rfl⟩;exact he
theorem zp{G:DH}{x:D}{l:List D}(hv:view G x=.lst l):x=.lst l\/∃p,x=.ref p/\G p=some (.lst l):=by
 cases x with
 |lst l'=>cases hv;exact .inl rfl
 |ref p=>
  refine .inr ⟨p,rfl,?_⟩;unfold view at hv;cases g:G p with
  |none=>simp only[g]at hv;cases hv
  |some o=>cases o;simp only[g]at hv;cases hv;rfl
 |_=>cases hv
theorem acr (Φ:aa) (n:Nat) (h1:Φ "_law_same"=cY n) (ds:List D) (G:DH) (h:Nr (n+1) ds G):au Φ d7 noE (env0 ds 0) G (ends λd G'=>G'=G/\d=.bl true):=by
 obtain ⟨x,y,v,rfl,hx,hy,hn,hd,hs⟩:=h;cases v with
 |non=>cases DP hx;cases DP hy;simp_arith[d7]
 |bl b=>cases wu hx;cases wu hy;simp_arith[d7];simp
 |int i=>cases dg hx;cases dg hy;simp_arith[d7];simp
 |str l=>cases eU hx;cases eU hy;simp_arith[d7];simp
 |ref p=>simp[nr]at hn
 |scr p=>simp[nr]at hn
 |exn p=>simp[nr]at hn
 |obj _ _ _=>simp[nr]at hn
 |tup l=>
  cases eQ hx;cases eQ hy;rw[nr]at hn;rw[dpt]at hd;rw[d9,ae,bq]at hs;simp_arith[d7];simp_arith[fo,BEq.rfl];refine mR Φ n h1 (by first |trivial | (unfold held;simp)) hn (by omega) hs.2 hs.1 ?_;rw[mL,mO,mQ];simp
 |lst l=>
  rw[nr]at hn;rw[dpt]at hd;rw[d9,ae,bq]at hs;rcases zp hx with rfl |⟨p,rfl,ex⟩
  ·rcases zp hy with rfl |⟨q,rfl,ey⟩
   ·simp_arith[d7];simp_arith[fo,BEq.rfl];refine mR Φ n h1 (by trivial) hn (by omega) hs.2 hs.1 ?_;rw[mL,mO,mQ];simp
   ·simp_arith[d7,b7 ey,gB ey];simp_arith[fo,BEq.rfl,b7 ey,gB ey];refine mR Φ n h1 (by exact ⟨ey,trivial⟩) hn (by omega) hs.2 hs.1 ?_;rw[mL,mO,mQ];simp
  ·rcases zp hy with rfl |⟨q,rfl,ey⟩
   ·simp_arith[d7,b7 ex,gB ex];simp_arith[fo,BEq.rfl,b7 ex,gB ex];refine mR Φ n h1 (by exact ⟨ex,trivial⟩) hn (by omega) hs.2 hs.1 ?_;rw[mL,mO,mQ];simp
   ·simp_arith[d7,b7 ex,gB ex,b7 ey,gB ey];simp_arith[fo,BEq.rfl,b7 ex,gB ex,b7 ey,gB ey];refine mR Φ n h1 (by exact ⟨ex,ey,trivial⟩) hn (by omega) hs.2 hs.1 ?_;rw[mL,mO,mQ];simp
theorem acs(ds:List D)(G:DH)(a:(cY 0).A):¬(cY 0).pre ds G a:=λ⟨_,_,_,_,_,_,_,_,h,_⟩=>by omega
def okF(w:Nat)(l:List Nat):Prop:=l.length=w/\∀c∈l,isF c
theorem okF.app{w v:Nat}{l m:List Nat}(h:okF w l)(h':okF v m):okF (w+v) (l++m):=⟨by rw[ay,h.1,h'.1],λc hc=>(aS.mp hc).elim (h.2 c) (h'.2 c)⟩
theorem okF.one{c:Nat}(h:isF c):okF 1 [c]:=⟨rfl,λd hd=>by rw[a9.mp hd];exact h⟩
theorem cB{p:Addr}{m:Int}{G:DH}{k:D->DH->Prop}{E:EK}(hp:Pen G p)(h1:0 < m)(h2:m < 1152921504606846976)(hk:∀(r:Nat)(G':DH),(r:Int) < m->Pen G' p->Sb p G G'->k (.int r) G'):d8.t [.ref p,.int m] G k E:=by refine bL ⟨p,m,rfl,hp,h1,h2⟩ λd G' hx=>?_;obtain ⟨p2,m2,r,e1,e2,r0,r1,hp',sb⟩:=hx;cases e1;subst e2;obtain ⟨n,rfl⟩:=cy r0;exact hk n G' r1 hp' sb
theorem acu{n:Nat}(h:(n:Int) < 2):∃c,atI [48,49] (n:Int)=some c/\isF c:=by
 have:n=0\/n=1:=by omega
 rcases this with rfl |rfl
 ·exact ⟨48,rfl,.inl rfl⟩
 ·exact ⟨49,rfl,.inr (.inl rfl)⟩
theorem acv{n:Nat}(h:(n:Int) < 3):∃c,atI [48,49,42] (n:Int)=some c/\isF c:=by
 have:n=0\/n=1\/n=2:=by omega
 rcases this with rfl |rfl |rfl
 ·exact ⟨48,rfl,.inl rfl⟩
 ·exact ⟨49,rfl,.inr (.inl rfl)⟩
 ·exact ⟨42,rfl,.inr (.inr rfl)⟩
def zq(ds:List D)(G:DH):Prop:=∃p l,ds=[.ref p,.str l]/\Pen G p/\(∀c∈l,isF c)/\l.length<=1000
def zr(ds:List D)(G:DH)(d:D)(G':DH):Prop:=∃p l m,ds=[.ref p,.str l]/\d=.str m/\okF l.length m/\Pen G' p/\Sb p G G'
def iC:RF.Spec:=bz zq zr
theorem Nu{p:Addr}{l:List Nat}{G:DH}{k:D->DH->Prop}{E:EK}(hp:Pen G p)(hl:∀c∈l,isF c)(h2:l.length<=1000)(hk:∀(m:List Nat)(G':DH),okF l.length m->Pen G' p->Sb p G G'->k (.str m) G'):iC.t [.ref p,.str l] G k E:=by refine bL ⟨p,l,rfl,hp,hl,h2⟩ λd G' hx=>?_;obtain ⟨p2,l2,m,e1,e2,h,hp',sb⟩:=hx;cases e1;subst e2;exact hk m G' h hp' sb
theorem acw (Φ:aa) (h1:Φ "_law_take"=d8) (ds:List D) (G:DH) (h:zq ds G):au Φ yS noE (env0 ds 2) G (ends (zr ds G)):=by
 obtain ⟨p,l,rfl,hp,hl,hl2⟩:=h;simp_all_arith[yS];refine seq λM hM=>?_;simp_arith[ends];refine hM _ _ (seq λM hM=>?_);simp_arith![ends];refine ForG.inv (P:=λi ρ G'=>(∃o m,ρ=[some (.ref p),some (.str l),some (.str m),o]/\okF i m)/\Pen G' p/\Sb p G G') ⟨⟨_,_,rfl,rfl,by simp⟩,hp,Sb.refl _ _⟩ (λ_ _ _ _=>trivial) ?_ ?_
 ·rintro i d ρ G2 hd ⟨⟨o,m,rfl,hm⟩,hp2,sb2⟩ kk hk;rw[bp]at hd;obtain ⟨c,hc,rfl⟩:=a8.mp hd;have hi:i < l.length:=(am.mp hc).1;have fc:=hl c (ce hc);have l1:=hm.1;simp_arith![ends];refine seq λM hM=>?_;have fin:∀(c:Nat)(G3:DH),isF c->Pen G3 p->Sb p G2 G3->M [some (.ref p),some (.str l),some (.str m),some (.str [c])] G3:=by
   intro c G3 fc hp3 sb3;refine hM _ _ (last ?_);simp_arith[ends];exact ⟨by have hsz:sz=1000000:=rfl;omega,hk _ _ ⟨⟨_,_,rfl,hm.app (okF.one fc)⟩,hp3,sb2.trans sb3⟩⟩
  simp_arith[h1];cases ht:([c]==[42]) with
  |false=>exact fin c G2 fc hp2 (Sb.refl _ _)
  |true=>
   refine cB hp2 (by decide) (by decide) λr G3 hr hp3 sb3=>?_;simp_arith[ends];cases hr0:((r:Int)==0) with
   |false=>exact fin c G3 fc hp3 sb3
   |true=>
    refine cB hp3 (by decide) (by decide) λr' G4 hr' hp4 sb4=>?_;obtain ⟨c',e,fc'⟩:=acu hr';simp_arith[e];exact fin c' G4 fc' hp4 (sb3.trans sb4)
 ·rintro ρ G2 ⟨⟨o,m,rfl,hm⟩,hp2,sb2⟩;refine hM _ _ ?_;simp_arith[ends];exact ⟨p,l,m,rfl,rfl,by simpa using hm,hp2,sb2⟩
theorem acx (Φ:aa) (h1:Φ "_law_take"=d8) (ds:List D) (G:DH) (h:zq ds G):au Φ yR noE (env0 ds 2) G (ends (zr ds G)):=by
 obtain ⟨p,l,rfl,hp,hl,hl2⟩:=h;simp_all_arith[yR];refine seq λM hM=>?_;simp_arith[ends];refine hM _ _ (seq λM hM=>?_);simp_arith![ends];refine ForG.inv (P:=λi ρ G'=>(∃o m,ρ=[some (.ref p),some (.str l),some (.str m),o]/\okF i m)/\Pen G' p/\Sb p G G') ⟨⟨_,_,rfl,rfl,by simp⟩,hp,Sb.refl _ _⟩ (λ_ _ _ _=>trivial) ?_ ?_
 ·rintro i d ρ G2 hd ⟨⟨o,m,rfl,hm⟩,hp2,sb2⟩ kk hk;rw[bp]at hd;obtain ⟨c,hc,rfl⟩:=a8.mp hd;have hi:i < l.length:=(am.mp hc).1;have fc:=hl c (ce hc);have l1:=hm.1;simp_arith![ends];refine seq λM hM=>?_;have fin:∀(c:Nat)(G3:DH),isF c->Pen G3 p->Sb p G2 G3->M [some (.ref p),some (.str l),some (.str m),some (.str [c])] G3:=by
   intro c G3 fc hp3 sb3;refine hM _ _ (last ?_);simp_arith[ends];exact ⟨by have hsz:sz=1000000:=rfl;omega,hk _ _ ⟨⟨_,_,rfl,hm.app (okF.one fc)⟩,hp3,sb2.trans sb3⟩⟩
  simp_arith[h1];refine cB hp2 (by decide) (by decide) λr G3 hr hp3 sb3=>?_;simp_arith[ends];cases hr0:((r:Int)==0) with
  |false=>exact fin c G3 fc hp3 sb3
  |true=>exact fin 42 G3 (.inr (.inr rfl)) hp3 sb3
 ·rintro ρ G2 ⟨⟨o,m,rfl,hm⟩,hp2,sb2⟩;refine hM _ _ ?_;simp_arith[ends];exact ⟨p,l,m,rfl,rfl,by simpa using hm,hp2,sb2⟩
theorem Nv{G G':DH}{p:Addr}{x:D}{fs:List (List Nat)}(hv:view G x=.lst (fs.map D.str))(hp:Pen G p)(sb:Sb p G G'):view G' x=.lst (fs.map D.str):=by
 cases x with
 |ref q=>
  unfold view at hv;dsimp only at hv;cases g:G q with
  |none=>rw[g]at hv;cases hv
  |some o=>
   cases o with
   |lst ds=>
    rw[g]at hv;have e:ds=fs.map D.str:=by simpa using hv
    have hn:q≠p:=by
     rintro rfl;obtain ⟨ns,k,st,e1,_⟩:=hp;rw[g,e]at e1;cases fs with
     |nil=>simp at e1
     |cons a r=>simp at e1
    rw[b7 (sb q _ g hn),e]
 |lst l=>exact hv
 |_=>cases hv
def Nx(ds:List D)(G:DH):Prop:=∃p,∃w:Nat,∃x,∃fs:List (List Nat),ds=[.ref p,.int w,x]/\Pen G p/\0 < w/\w<=1000/\view G x=.lst (fs.map D.str)/\fs.length<=1000/\∀f∈fs,okF w f
def zu(ds:List D)(G:DH)(d:D)(G':DH):Prop:=∃p,∃w:Nat,∃x m,ds=[.ref p,.int w,x]/\d=.str m/\okF w m/\Pen G' p/\Sb p G G'
def mU:RF.Spec:=bz Nx zu
theorem Ny{p:Addr}{w:Nat}{x:D}{fs:List (List Nat)}{G:DH}{k:D->DH->Prop}{E:EK}(hp:Pen G p)(h1:0 < w)(h2:w<=1000)(hv:view G x=.lst (fs.map D.str))(h3:fs.length<=1000)(h4:∀f∈fs,okF w f)
  (hk:∀(m:List Nat)(G':DH),okF w m->Pen G' p->Sb p G G'->k (.str m) G'):mU.t [.ref p,.int w,x] G k E:=by
 refine bL ⟨p,w,x,fs,rfl,hp,h1,h2,hv,h3,h4⟩ λd G' hx=>?_;obtain ⟨p2,w2,x2,m,e1,e2,h,hp',sb⟩:=hx;simp only[cr,D.ref.injEq,D.int.injEq,Int.ofNat_inj,eS]at e1;obtain ⟨rfl,rfl,rfl⟩:=e1;subst e2;exact hk m G' h hp' sb
theorem acy(fs:List (List Nat)):nrs (fs.map D.str)=true:=by
 induction fs with
 |nil=>rfl
 |cons a l ih=>rw[bn,nrs,ih];rfl
theorem acz(fs:List (List Nat)):aQ (fs.map D.str)=0:=by
 induction fs with
 |nil=>rfl
 |cons a l ih=>rw[bn,aQ,ih];rfl
theorem acA{w n:Nat}{l:List Nat}{c:Nat}(h:okF w l)(hn:n < w)(fc:isF c):okF w (cut l none (some (n:Int))++[c]++cut l (some ((n:Int)+1)) none):=by
 have h1:=h.1;rw[ur,HJ];refine ⟨?_,λd hd=>?_⟩
 ·simp;omega
 ·rcases aS.mp hd with hd |hd
  ·rcases aS.mp hd with hd |hd
   ·exact h.2 d (fb hd)
   ·rw[a9.mp hd];exact fc
  ·exact h.2 d (List.mem_of_mem_drop hd)
theorem acB (Φ:aa) (h1:Φ "_law_take"=d8) (h2:Φ "_law_form"=zj) (h3:Φ "_law_within"=iC) (h4:Φ "_law_wider"=iC) (ds:List D) (G:DH) (h:Nx ds G):au Φ yU noE (env0 ds 3) G (ends (zu ds G)):=by
 obtain ⟨p,w,x,fs,rfl,hp,w1,w2,hv,hf,hfs⟩:=h;simp_all_arith[yU];refine seq λM hM=>?_;simp_arith[h1];refine cB hp (by decide) (by decide) λkd G2 hkd hp2 sb2=>?_;have hv2:=Nv hv hp sb2;refine hM _ _ (seq λM hM=>?_);have drawn:∀(ρ:ak) (G3:DH),Pen G3 p->Sb p G G3->au Φ (.cons (.ret (.call "_law_form" (.cons (.var 0) (.cons (.var 1) .nil)))) .nil) noE (some (.ref p)::some (.int w)::ρ) G3 { nx:=M,rt:=zu [.ref p,.int w,x] G,bk:=λ_ _=>False,ct:=λ_ _=>False }:=by intro ρ G3 hp3 sb3;simp_arith[h2];refine bL ⟨p,w,rfl,hp3,w2⟩ λd G4 hx=>?_;obtain ⟨p4,n4,l,e1,e2,l1,l2,hp4,sb4⟩:=hx;simp only[cr,D.ref.injEq,D.int.injEq,Int.ofNat_inj,eS]at e1;obtain ⟨rfl,rfl⟩:=e1;exact ⟨p,w,x,l,rfl,e2,⟨l1,l2⟩,hp4,sb3.trans sb4⟩
 simp_arith![hv2,HH,acz,acy];refine ⟨by decide,?_⟩;cases he:(fs.map D.str).isEmpty with
 |true=>exact drawn _ _ hp2 sb2
 |false=>
  have hlen:0 < fs.length:=by
   cases fs with
   |nil=>simp at he
   |cons a r=>simp
  simp_arith![ends];cases hk2:decide ((kd:Int) < 2) with
  |true=>exact drawn _ _ hp2 sb2
  |false=>
   simp_arith[ends];refine hM _ _ (seq λM hM=>?_);simp_arith[h1,hv2,al];refine cB hp2 (by omega) (by omega) λr G3 hr hp3 sb3=>?_;have hv3:=Nv hv2 hp2 sb3;simp_arith[hv3];have hr':r < fs.length:=by omega
   refine bY (a:=.str fs[r]) (bJ (by simp[hr'])) ?_;have fok:=hfs fs[r] (cw _);generalize fs[r]=f at fok;refine hM _ _ (seq λM hM=>?_);have sb':=sb2.trans sb3;simp_arith[ends];cases hk3:((kd:Int)==2) with
   |true=>exact ⟨p,w,x,f,rfl,rfl,fok,hp3,sb'⟩
   |false=>
    refine hM _ _ (seq λM hM=>?_);simp_arith![ends];cases hk5:decide ((kd:Int) < 5) with
    |true=>
     simp_arith[h1];refine cB hp3 (by omega) (by omega) λat' G4 hat hp4 sb4=>?_;refine cB hp4 (by decide) (by decide) λs G5 hs hp5 sb5=>?_;obtain ⟨c,e,fc⟩:=acv hs;have c1:=HF f none (some (at':Int));have c2:=HF f (some ((at':Int)+1)) none;have f1:=fok.1;simp_arith[e,ay];exact ⟨by have hsz:sz=1000000:=rfl;omega,by have hsz:sz=1000000:=rfl;omega,p,w,x,_,rfl,rfl,acA fok (by omega) fc,hp5,sb'.trans (sb4.trans sb5)⟩
    |false=>
     simp_arith[ends];refine hM _ _ (seq λM hM=>?_);have f1:=fok.1;simp_arith[h3];cases hk6:((kd:Int)==5) with
     |true=>
      refine Nu hp3 fok.2 (by omega) λm G4 hm hp4 sb4=>?_;rw[f1]at hm;exact ⟨p,w,x,m,rfl,rfl,hm,hp4,sb'.trans sb4⟩
     |false=>
      refine hM _ _ ?_;simp_arith[h4];refine Nu hp3 fok.2 (by omega) λm G4 hm hp4 sb4=>?_;rw[f1]at hm;exact ⟨p,w,x,m,rfl,rfl,hm,hp4,sb'.trans sb4⟩
def okD(l:List Nat):Prop:=1<=l.length/\l.length<=8/\∀c∈l,97<=c/\c<=122
theorem acC{p:Addr}{n:Nat}{cs:List Nat}{G:DH}{k:D->DH->Prop}{E:EK}(hp:Pen G p)(hn:n<=1000)(h1:cs≠[])(h2:cs.length<=1000)(hk:∀(l:List Nat)(G':DH),l.length=n->(∀c∈l,c∈cs)->Pen G' p->Sb p G G'->k (.str l) G'):mJ.t [.ref p,.int n,.str cs] G k E:=by refine bL ⟨p,n,cs,rfl,hp,hn,h1,h2⟩ λd G' hx=>?_;obtain ⟨p2,n2,cs2,l,e1,e2,l1,l2,hp',sb⟩:=hx;simp only[cr,D.ref.injEq,D.int.injEq,D.str.injEq,Int.ofNat_inj,eS]at e1;obtain ⟨rfl,rfl,rfl⟩:=e1;subst e2;exact hk l G' l1 l2 hp' sb
def Nz(ds:List D)(G:DH):Prop:=∃p,∃m:Int,ds=[.ref p,.int m]/\Pen G p/\0 < m/\m<=100
def NB(ds:List D)(G:DH)(d:D)(G':DH):Prop:=∃p,∃m:Int,∃xs:List (List Nat),ds=[.ref p,.int m]/\d=.lst (xs.map D.str)/\0 < xs.length/\xs.length<=100/\(∀x∈xs,okD x)/\Pen G' p/\Sb p G G'
def uy:RF.Spec:=bz Nz NB
noncomputable def zx:List (List Nat):=[[97],[103,111],[115,116,97,121],[97,98,99,100,101,102,103,104],[110,111,110,101],[121,101,115],[105,110],[111,117,116],[107,101,101,112],[119,111,114,100],[122,122]]
theorem acD:∀x∈zx,okD x:=by
 have h:∀x∈zx,1<=x.length/\x.length<=8/\∀c∈x,97<=c/\c<=122:=by decide
 exact h
theorem NK{c:Nat}(h:c∈[97,98,99,100,101,102,103,104,105,106,107,108,109,110,111,112,113,114,115,116,117,118,119,120,121,122]):97<=c/\c<=122:=by
 have:∀c∈[97,98,99,100,101,102,103,104,105,106,107,108,109,110,111,112,113,114,115,116,117,118,119,120,121,122],97<=c/\c<=122:=by decide
 exact this c h
theorem acE (Φ:aa) (h1:Φ "_law_take"=d8) (h2:Φ "_law_signs"=mJ) (ds:List D) (G:DH) (h:Nz ds G):au Φ yP noE (env0 ds 4) G (ends (NB ds G)):=by
 obtain ⟨p,m,rfl,hp,m1,m2⟩:=h;simp_all_arith[yP];refine seq λM hM=>?_;simp_arith[ends];refine ⟨by decide,hM _ _ ?_⟩;refine (λtail=>tail zx rfl acD) (?_:∀xs:List (List Nat),xs.length=11->(∀x∈xs,okD x)->au Φ _ noE [some (.ref p),some (.int m),some (.lst (xs.map D.str)),none,none,none] G _);intro xs x1 x2;refine seq λM hM=>?_;simp_arith[h1];refine cB hp (by decide) (by decide) λt G2 ht hp2 sb2=>?_;refine hM _ _ (seq λM hM=>?_);simp_arith[h1];refine cB hp2 (by omega) (by omega) λr G3 hr hp3 sb3=>?_;simp_arith[ends];refine ⟨by omega,?_⟩;refine CompG.inv (P:=λi acc ρ G'=>(∃o,ρ=[o,some (.lst (xs.map D.str)),some (.int t)])/\G'=G3/\∃ys:List (List Nat),acc=ys.map D.str/\ys.length=i/\∀y∈ys,okD y) ⟨⟨_,rfl⟩,rfl,[],rfl,rfl,by simp⟩ (λ_ _ _ _ _=>trivial) (by simp[bC];have hsz:sz=1000000:=rfl;omega) ?_ ?_
 ·rintro i d acc ρ G' hd ⟨⟨o,rfl⟩,rfl,ys,rfl,y1,y2⟩ kk hk;unfold bC at hd;rw[bp]at hd;obtain ⟨j,hj,rfl⟩:=a8.mp hd;simp_arith[ends];have q0:0<=((t:Int)+3 * (0+(j:Int))) % 11:=e6 _ (by decide);have q1:((t:Int)+3 * (0+(j:Int))) % 11 < 11:=eM _ (by decide);refine ⟨zg (by decide),by decide,yH q0 (by rw[al,x1];exact q1) λa ha=>?_⟩;obtain ⟨x,hx,rfl⟩:=bX.mp ha;refine hk _ _ _ ⟨⟨_,rfl⟩,rfl,ys++[x],by simp,by simp[y1],λy hy=>?_⟩;rcases aS.mp hy with h |h
  ·exact y2 y h
  ·rw[a9.mp h];exact x2 x hx
 ·rintro acc ρ G' ⟨_,rfl,ys,rfl,y1,y2⟩;have hy:ys.length=r+1:=by rw[y1];simp[bC];omega
  refine hM _ _ (seq λM hM=>?_);simp_arith[h1];refine cB hp3 (by decide) (by decide) λq G4 hq hp4 sb4=>?_;have sb':=sb2.trans (sb3.trans sb4);simp_arith[ends];cases hq0:((q:Int)==0) with
  |false=>
   refine hM _ _ ?_;simp_arith[ends];exact ⟨p,m,ys,rfl,rfl,by omega,by omega,y2,hp4,sb'⟩
  |true=>
   simp_arith[ends];refine CompG.inv (P:=λi acc ρ G'=>(∃o,ρ=[o,some (.ref p),some (.str [97,98,99,100,101,102,103,104,105,106,107,108,109,110,111,112,113,114,115,116,117,118,119,120,121,122])])/\Pen G' p/\Sb p G G'/\∃zs:List (List Nat),acc=zs.map D.str/\zs.length=i/\∀z∈zs,okD z) ⟨⟨_,rfl⟩,hp4,sb',[],rfl,rfl,by simp⟩ (λ_ _ _ _ _=>trivial) (by simp;have hsz:sz=1000000:=rfl;omega) ?_ ?_
   ·rintro i d acc ρ G' hd ⟨⟨o,rfl⟩,hp5,sb5,zs,rfl,z1,z2⟩ kk hk;simp_arith[h1,h2];refine cB hp5 (by decide) (by decide) λn G6 hn hp6 sb6=>?_;simp_arith[ends];rw[show (1:Int)+(n:Int)=((n+1:Nat):Int) by omega];refine acC hp6 (by omega) (by simp) (by simp) λl G7 l1 l2 hp7 sb7=>?_;refine hk _ _ _ ⟨⟨_,rfl⟩,hp7,sb5.trans (sb6.trans sb7),zs++[l],by simp,by simp[z1],λz hz=>?_⟩;rcases aS.mp hz with h |h
    ·exact z2 z h
    ·rw[a9.mp h];exact ⟨by omega,by omega,λc hc=>NK (l2 c hc)⟩
   ·rintro acc ρ G' ⟨_,hp5,sb5,zs,rfl,z1,z2⟩;rw[al]at z1;refine hM _ _ ?_;simp_arith[ends];exact ⟨p,m,zs,rfl,rfl,by omega,by omega,z2,hp5,sb5⟩
abbrev Row:=List Nat×List Nat
def aB(r:Row):D:=.tup [.str r.1,.str r.2]
def aq(w:Nat)(rs:List Row):D:=.tup [.int w,.tup (rs.map aB)]
structure okB(w:Nat)(rs:List Row):Prop where
 w1:1<=w
 w6:w<=6
 len:rs.length<=12
 form:∀r∈rs,okF w r.1
 deed:∀r∈rs,okD r.2
def NP(ds:List D)(G:DH):Prop:=∃p,∃w m:Nat,ds=[.ref p,.int w,.int m]/\Pen G p/\1<=w/\w<=6/\m<=12
def NQ(ds:List D)(G:DH)(d:D)(G':DH):Prop:=∃p,∃w m v:Nat,∃rs:List Row,ds=[.ref p,.int w,.int m]/\d=aq v rs/\okB v rs/\v<=w/\rs.length<=m/\Pen G' p/\Sb p G G'
def uz:RF.Spec:=bz NP NQ
theorem acF{p:Addr}{w m:Nat}{G:DH}{k:D->DH->Prop}{E:EK}(hp:Pen G p)(h1:1<=w)(h2:w<=6)(h3:m<=12)(hk:∀(v:Nat)(rs:List Row)(G':DH),okB v rs->v<=w->rs.length<=m->Pen G' p->Sb p G G'->k (aq v rs) G'):uz.t [.ref p,.int w,.int m] G k E:=by refine bL ⟨p,w,m,rfl,hp,h1,h2,h3⟩ λd G' hx=>?_;obtain ⟨p2,w2,m2,v,rs,e1,e2,o,q1,q2,hp',sb⟩:=hx;simp only[cr,D.ref.injEq,D.int.injEq,Int.ofNat_inj,eS]at e1;obtain ⟨rfl,rfl,rfl⟩:=e1;subst e2;exact hk v rs G' o q1 q2 hp' sb
theorem acG{p:Addr}{m:Int}{G:DH}{k:D->DH->Prop}{E:EK}(hp:Pen G p)(h1:0 < m)(h2:m<=100)(hk:∀(xs:List (List Nat))(G':DH),0 < xs.length->xs.length<=100->(∀x∈xs,okD x)->Pen G' p->Sb p G G'->k (.lst (xs.map D.str)) G'):uy.t [.ref p,.int m] G k E:=by refine bL ⟨p,m,rfl,hp,h1,h2⟩ λd G' hx=>?_;obtain ⟨p2,m2,xs,e1,e2,q1,q2,q3,hp',sb⟩:=hx;cases e1;subst e2;exact hk xs G' q1 q2 q3 hp' sb
theorem vM{α:Type}{l:List α}{a:α}:atI (l++[a]) (-1)=some a:=by unfold atI ixN;rw[if_neg (by decide),if_pos (by simp;omega),ay,eK,show (-1+((l.length+1:Nat):Int)).toNat=l.length by omega];simp
theorem acH (Φ:aa) (h1:Φ "_law_take"=d8) (h2:Φ "_law_deeds_of"=uy) (h3:Φ "_law_form_like"=mU) (ds:List D) (G:DH) (h:NP ds G):au Φ yV noE (env0 ds 5) G (ends (NQ ds G)):=by
 obtain ⟨p,w,m,rfl,hp,w1,w2,m1⟩:=h;simp_all_arith[yV];refine seq λM hM=>?_;simp_arith[h1];refine cB hp (by omega) (by omega) λn G2 hn hp2 sb2=>?_;simp_arith[ends];rw[show (1:Int)+(n:Int)=((n+1:Nat):Int) by omega];refine hM _ _ (seq λM hM=>?_);simp_arith[h2];refine acG hp2 (by decide) (by decide) λxs G3 x1 x2 x3 hp3 sb3=>?_;refine hM _ _ (seq λM hM=>?_);simp_arith[ends];refine λq hq=>hM _ _ (seq λM hM=>?_);simp_arith[ends];refine λs hs=>hM _ _ (seq λM hM=>?_);have hqs:q≠s:=by rintro rfl;rw[aV]at hs;cases hs
 have hs3:G3 s=none:=by rw[cg (Ne.symm hqs)]at hs;exact hs
 have npq:p≠q:=hp3.ne hq;have nps:p≠s:=hp3.ne hs3;have sa4:Sa G3 (aD (aD G3 q (.lst [])) s (.lst [])):=(Sa.new hq).trans (Sa.new hs);have hp4:=hp3.sa sa4;simp_arith![h1];refine cB hp4 (by omega) (by omega) λr G5 hr hp5 sb5=>?_;simp_arith![ends];refine ⟨by omega,?_⟩;refine ForG.inv (P:=λi ρ G'=>(∃o,ρ=[some (.ref p),some (.int w),some (.int m),some (.int ((n+1:Nat):Int)),some (.lst (xs.map D.str)),some (.ref q),some (.ref s),o])/\Pen G' p/\Sb p G G'/\
   ∃rs:List Row,G' q=some (.lst ((rs.map (·.1)).map D.str))/\G' s=some (.lst (rs.map aB))/\rs.length=i/\(∀r∈rs,okF (n+1) r.1)/\∀r∈rs,okD r.2) ⟨⟨_,rfl⟩,hp5,sb2.trans (sb3.trans (sa4.sb.trans sb5)),[],?_,?_,rfl,by simp,by simp⟩ (λ_ _ _ _=>trivial) ?_ ?_
 ·exact sb5 q _ (by rw[cg hqs];exact aV) (Ne.symm npq)
 ·exact sb5 s _ aV (Ne.symm nps)
 ·rintro i d ρ G' hd ⟨⟨o,rfl⟩,hp6,sb6,rs,g1,g2,r1,r2,r3⟩ kk hk;have hi:i < r:=by
   have:=(am.mp hd).1;simpa [bC] using this
  simp_arith![ends];refine seq λM hM=>?_;simp_arith[h3,dD g1];refine Ny (fs:=rs.map (·.1)) hp6 (by omega) (by omega) (b7 g1) (by simp;omega) (λf hf=>?_) λf G7 hf hp7 sb7=>?_
  ·obtain ⟨r',hr',rfl⟩:=bX.mp hf;exact r2 r' hr'
  have g1':=sb7 q _ g1 (Ne.symm npq);have g2':=sb7 s _ g2 (Ne.symm nps);simp_arith[dD g1'];refine ⟨by simp;have hsz:sz=1000000:=rfl;omega,hM _ _ (last ?_)⟩;have e2:aD G7 q (.lst ((rs.map (·.1)).map D.str++[.str f])) s=some (.lst (rs.map aB)):=by rw[cg (Ne.symm hqs)];exact g2'
  have hp8:Pen (aD G7 q (.lst ((rs.map (·.1)).map D.str++[.str f]))) p:=hp7.sb Sb.upd npq;simp_arith[h1,dD e2,b7 aV,vM,al];refine cB hp8 (by omega) (by omega) λt G9 ht hp9 sb9=>?_;have e1':=sb9 q _ aV (Ne.symm npq);have e2':=sb9 s _ e2 (Ne.symm nps);simp_arith[dD e2'];refine yH (by omega) (by simp;omega) λx hx=>?_;obtain ⟨dd,hdd,rfl⟩:=bX.mp hx;refine ⟨by decide,by simp;have hsz:sz=1000000:=rfl;omega,hk _ _ ⟨⟨_,rfl⟩,hp9.sb Sb.upd nps,?_,rs++[(f,dd)],?_,?_,by simp[r1],?_,?_⟩⟩
  ·intro b ob hb nb;by_cases hbs:b=s
   ·subst hbs;exfalso;have z:=sb2 b _ hb nb;have z:=sb3 b _ z nb;rw[hs3]at z;cases z
   ·by_cases hbq:b=q
    ·subst hbq;exfalso;have z:=sb2 b _ hb nb;have z:=sb3 b _ z nb;rw[hq]at z;cases z
    ·rw[cg hbs];exact sb9 b _ (by rw[cg hbq];exact sb7 b _ (sb6 b _ hb nb) nb) nb
  ·rw[cg hqs,e1'];simp
  ·rw[aV];simp[aB]
  ·intro r' hr';rcases aS.mp hr' with h |h
   ·exact r2 r' h
   ·rw[a9.mp h];exact hf
  ·intro r' hr';rcases aS.mp hr' with h |h
   ·exact r3 r' h
   ·rw[a9.mp h];exact x3 dd hdd
 ·rintro ρ G' ⟨⟨o,rfl⟩,hp6,sb6,rs,g1,g2,r1,r2,r3⟩;have hl:rs.length=r:=by rw[r1];simp[bC]
  refine hM _ _ ?_;simp_arith[b7 g2];exact ⟨by decide,p,w,m,n+1,rs,rfl,rfl,⟨by omega,by omega,by omega,r2,r3⟩,by omega,by omega,hp6,sb6⟩
def alt(c:Nat):List Nat:=if c=42 then [48,49] else [c]
def step1(acc:List (List Nat))(c:Nat):List (List Nat):=acc.flatMap λt=>(alt c).map λs=>t++[s]
def fU(f:List Nat):List (List Nat):=f.foldl step1 [[]]
def Fits(f w:List Nat):Prop:=f.length=w.length/\∀(i c s:Nat),f[i]?=some c->w[i]?=some s->s∈alt c
theorem acI(f:List Nat)(c:Nat):fU (f++[c])=step1 (fU f) c:=by unfold fU;rw[List.foldl_append];rfl
theorem acJ{acc:List (List Nat)}{c:Nat}{w:List Nat}:w∈step1 acc c↔∃t s,t∈acc/\s∈alt c/\w=t++[s]:=by
 unfold step1;rw[List.mem_flatMap];constructor
 ·rintro ⟨t,ht,h⟩;obtain ⟨s,hs,rfl⟩:=bX.mp h;exact ⟨t,s,ht,hs,rfl⟩
 ·rintro ⟨t,s,ht,hs,rfl⟩;exact ⟨t,ht,bX.mpr ⟨s,hs,rfl⟩⟩
theorem zy{f w:List Nat}{c s:Nat}:Fits (f++[c]) (w++[s])↔Fits f w/\s∈alt c:=by
 constructor
 ·rintro ⟨h1,h2⟩;have hl:f.length=w.length:=by simpa using h1
  refine ⟨⟨hl,λi c' s' hc hs=>?_⟩,?_⟩
  ·have i1:=(am.mp hc).1;exact h2 i c' s' (by rw[ej i1];exact hc) (by rw[ej (by omega)];exact hs)
  ·exact h2 f.length c s (by simp) (by rw[hl];simp)
 ·rintro ⟨⟨h1,h2⟩,h3⟩;refine ⟨by simp[h1],λi c' s' hc hs=>?_⟩;by_cases hi:i < f.length
  ·rw[ej hi]at hc;rw[ej (by omega)]at hs;exact h2 i c' s' hc hs
  ·have i2:=(am.mp hc).1;simp at i2;have e:i=f.length:=by omega
   subst e;simp at hc;rw[h1]at hs;simp at hs;subst hc hs;exact h3
theorem fV{f w:List Nat}:w∈fU f↔Fits f w:=by
 induction f using ab2 generalizing w with
 |nil=>
  simp[fU,Fits];constructor
  ·rintro rfl;simp
  ·intro h;exact c8.mp h.symm
 |snoc f c ih=>
  rw[acI,acJ];constructor
  ·rintro ⟨t,s,ht,hs,rfl⟩;exact zy.mpr ⟨ih.mp ht,hs⟩
  ·intro h;have hl:=h.1;simp at hl;have hne:w≠[]:=by rintro rfl;simp at hl
   refine ⟨w.dropLast,w.getLast hne,?_,?_,(eT hne).symm⟩
   ·rw[<-eT hne]at h;exact ih.mpr (zy.mp h).1
   ·rw[<-eT hne]at h;exact (zy.mp h).2
noncomputable def letters:List Nat:=[97,98,99,100,101,102,103,104,105,106,107,108,109,110,111,112,113,114,115,116,117,118,119,120,121,122]
theorem acK:∀c:Fin 123,97<=c.1->letters.contains c.1=true:=by decide
theorem acL{c:Nat}:letters.contains c=true↔97<=c/\c<=122:=
 ⟨λh=>NK (a7.mp h),λ⟨h1,h2⟩=>acK ⟨c,Nat.lt_succ_of_le h2⟩ h1⟩
def okW(w:Nat)(l:List Nat):Prop:=l.length=w/\∀c∈l,c=48\/c=49
theorem zz{α:Type}(l:List α):bools (l.map λ_=>D.bl true)=some (l.map λ_=>true):=yD _ l
theorem zA{α:Type}(l:List α):(l.map λ_=>true).all id=true:=b9.mpr λx hx=>by obtain ⟨_,_,rfl⟩:=bX.mp hx;rfl
def uA:RF.Spec:=bM (λa:List Nat×List Nat=>[.str a.1,.int a.2.length,.str a.2]) (λa=>a.2.length<=1000/\∀c∈a.2,a.1.contains c=true) (λ_=>.bl true)
theorem acM(Φ:aa)(a:List Nat×List Nat)(G:DH)(h:a.2.length<=1000/\∀c∈a.2,a.1.contains c=true):au Φ lr noE (env0 [.str a.1,.int a.2.length,.str a.2] 0) G (ends λd G'=>G'=G/\d=.bl true):=by
 obtain ⟨s,l⟩:=a;obtain ⟨h1,h2⟩:=h;dsimp only at h1 h2;simp_arith[lr,BEq.rfl];refine CompG.map (f:=λ_=>.bl true) (I:=λρ=>∃o,ρ=[o,some (.str s)]) ⟨_,rfl⟩ trivial (by simp;have hsz:sz=1000000:=rfl;omega) ?_ ?_
 ·rintro d ρ hd ⟨o,rfl⟩ kk hk;obtain ⟨c,hc,rfl⟩:=bX.mp hd;simp_arith[h2 c hc];exact hk _ ⟨_,rfl⟩
 ·simp_arith[zz,zA]
def uB:RF.Spec:=bM (λl:List Nat=>[.int l.length,.str l]) (λl=>l.length<=1000/\∀c∈l,c=48\/c=49) (λ_=>.bl true)
theorem acN (Φ:aa) (h1:Φ "is_text_of"=uA) (l:List Nat) (G:DH) (h:l.length<=1000/\∀c∈l,c=48\/c=49):au Φ lZ noE (env0 [.int l.length,.str l] 0) G (ends λd G'=>G'=G/\d=.bl true):=by simp_arith[lZ,h1];exact bN ([48,49],l) rfl ⟨h.1,λc hc=>by rcases h.2 c hc with rfl |rfl <;> rfl⟩ ⟨rfl,rfl⟩
theorem acO{w:Nat}{l:List Nat}{G:DH}{k:D->DH->Prop}{E:EK}(h:okW w l)(hw:w<=1000)(hk:k (.bl true) G):uB.t [.int w,.str l] G k E:=
 bN l (by rw[h.1]) ⟨by rw[h.1];exact hw,h.2⟩ hk
def uC:RF.Spec:=bM (λl:List Nat=>[.int l.length,.str l]) (λl=>l.length<=1000/\∀c∈l,isF c) (λ_=>.bl true)
theorem acP (Φ:aa) (h1:Φ "is_text_of"=uA) (l:List Nat) (G:DH) (h:l.length<=1000/\∀c∈l,isF c):au Φ lu noE (env0 [.int l.length,.str l] 0) G (ends λd G'=>G'=G/\d=.bl true):=by simp_arith[lu,h1];exact bN ([48,49,42],l) rfl ⟨h.1,λc hc=>by rcases h.2 c hc with rfl |rfl |rfl <;> rfl⟩ ⟨rfl,rfl⟩
def uD:RF.Spec:=bM (λl:List Nat=>[.str l]) okD (λ_=>.bl true)
theorem acQ(Φ:aa)(l:List Nat)(G:DH)(h:okD l):au Φ lq noE (env0 [.str l] 0) G (ends λd G'=>G'=G/\d=.bl true):=by
 obtain ⟨h1,h2,h3⟩:=h;have b1:decide ((1:Int)<=(l.length:Int))=true:=bv (by omega);have b2:decide ((l.length:Int)<=8)=true:=bv (by omega);simp_arith[lq,b1,b2];refine CompG.map (f:=λ_=>.bl true) (I:=λρ=>∃o,ρ=[o]) ⟨_,rfl⟩ trivial (by simp;have hsz:sz=1000000:=rfl;omega) ?_ ?_
 ·rintro d ρ hd ⟨o,rfl⟩ kk hk;obtain ⟨c,hc,rfl⟩:=bX.mp hd;have hcl:[97,98,99,100,101,102,103,104,105,106,107,108,109,110,111,112,113,114,115,116,117,118,119,120,121,122].contains c=true:=acL.mpr (h3 c hc);simp_arith[hcl];exact hk _ ⟨_,rfl⟩
 ·simp_arith[zz,zA]
def zB:RF.Spec:=bM (λa:Nat×Row=>[.int a.1,aB a.2]) (λa=>a.1<=6/\okF a.1 a.2.1/\okD a.2.2) (λ_=>.bl true)
theorem acR (Φ:aa) (h1:Φ "is_form"=uC) (h2:Φ "is_deed"=uD) (a:Nat×Row) (G:DH) (h:a.1<=6/\okF a.1 a.2.1/\okD a.2.2):au Φ lw noE (env0 [.int a.1,aB a.2] 0) G (ends λd G'=>G'=G/\d=.bl true):=by obtain ⟨w,f,d⟩:=a;obtain ⟨hw,hf,hd⟩:=h;dsimp only at hw hf hd;simp_arith[lw,aB,h1,h2];simp_arith[show ((0+1+1:Nat):Int)=2 from rfl,BEq.rfl];refine bN f (by rw[hf.1]) ⟨by rw[hf.1];omega,hf.2⟩ ?_;simp_arith[ends];exact bN d rfl hd ⟨rfl,rfl⟩
def zE:RF.Spec:=bM (λw:Nat=>[.int w]) (λw=>1<=w/\w<=6) (λ_=>.bl true)
theorem acS (Φ:aa) (h1:Φ "is_whole"=aO iz) (w:Nat) (G:DH) (h:1<=w/\w<=6):au Φ lA noE (env0 [.int w] 0) G (ends λd G'=>G'=G/\d=.bl true):=by have b1:decide ((1:Int)<=(w:Int))=true:=bv (by omega);have b2:decide ((w:Int)<=6)=true:=bv (by omega);simp_arith[lA,h1];refine dj (d:=.bl true) rfl ?_;simp_arith[b1,b2]
def zF:RF.Spec:=bM (λa:Nat×List Row=>[aq a.1 a.2]) (λa=>okB a.1 a.2) (λ_=>.bl true)
theorem acT (Φ:aa) (h1:Φ "is_width"=zE) (h2:Φ "is_row"=zB) (a:Nat×List Row) (G:DH) (h:okB a.1 a.2):au Φ lB noE (env0 [aq a.1 a.2] 2) G (ends λd G'=>G'=G/\d=.bl true):=by
 obtain ⟨w,rs⟩:=a;dsimp only at h ⊢;have hlen:=h.len;simp_all_arith[lB,aq];refine seq λM hM=>?_;simp_arith[ends];simp_arith[show ((0+1+1:Nat):Int)=2 from rfl,BEq.rfl];refine hM _ _ (seq λM hM=>?_);simp_arith[ends];refine hM _ _ (seq λM hM=>?_);simp_arith[h1];refine bN w rfl ⟨h.w1,h.w6⟩ ?_;have hd:decide ((12:Int) < ((rs.map aB).length:Int))=false:=cq (by rw[al];omega);simp_arith[hd];refine hM _ _ ?_;simp_arith[ends];refine CompG.map (f:=λ_=>.bl true) (I:=λρ=>∃o,ρ=[o,some (.int w)]) ⟨_,rfl⟩ trivial (by rw[al];have hsz:sz=1000000:=rfl;omega) ?_ ?_
 ·rintro d ρ hd ⟨o,rfl⟩ kk hk;obtain ⟨r,hr,rfl⟩:=bX.mp hd;simp_arith[h2];exact bN (w,r) rfl ⟨h.w6,h.form r hr,h.deed r hr⟩ (hk _ ⟨_,rfl⟩)
 ·simp_arith[zz,zA]
def fW:RF.Spec:=bM (λa:Nat×List Row=>[aq a.1 a.2]) (λa=>okB a.1 a.2) (λ_=>.non)
theorem iD{w:Nat}{rs:List Row}{G:DH}{k:D->DH->Prop}{E:EK}(h:okB w rs)(hk:k .non G):fW.t [aq w rs] G k E:=bN (w,rs) rfl h hk
theorem acU (Φ:aa) (h1:Φ "is_book"=zF) (a:Nat×List Row) (G:DH) (h:okB a.1 a.2):au Φ lC noE (env0 [aq a.1 a.2] 0) G (ends λd G'=>G'=G/\d=.non):=by simp_arith[lC,h1];refine bN a rfl h ?_;simp_arith[ends]
def jH(c s:Nat):Bool:=c==42||c==s
def dm:List Nat->List Nat->Bool
 |c::f,s::w=>jH c s&&dm f w
 |_,_=>true
def dq(f w:List Nat):Bool:=decide (f.length=w.length)&&dm f w
noncomputable def mV:List D->Option D
 |[.str f,.str w]=>if decide (f.length<=100000) then some (.bl (dq f w)) else none
 |_=>none
theorem zG:∀(f w:List Nat),bI (f.map λc=>D.str [c]) (w.map λc=>D.str [c])=(f.zip w).map λp=>D.tup [.str [p.1],.str [p.2]]
 |[],w=>by simp[bI]
 |c::f,[]=>by simp[bI]
 |c::f,s::w=>by simp[bI,zG f w]
theorem NT:∀(f w:List Nat),((f.zip w).map λp=>jH p.1 p.2).all id=dm f w
 |[],w=>by simp[dm]
 |c::f,[]=>by simp[dm]
 |c::f,s::w=>by simp[dm,NT f w]
theorem iG{c s:Nat}:(([c]==[s]):Bool)=(c==s):=by
 by_cases h:c=s
 ·subst h;simp
 ·rw[c5.mpr h,c5.mpr (by simp[h])]
theorem acV{a b:Nat}:((((a:Nat):Int)==((b:Nat):Int)):Bool)=decide (a=b):=by
 by_cases h:a=b
 ·subst h;simp
 ·rw[cq h,c5];omega
theorem acW(Φ:aa)(ds:List D)(G:DH)(d:D)(h:mV ds=some d):au Φ lY noE (env0 ds 0) G (ends λd' G'=>G'=G/\d'=d):=by
 unfold mV at h;split at h
 ·rename_i f w;split at h
  ·rename_i hl;have hl:=dk hl;cases h;simp_arith[lY,acV,dq];cases he:decide (f.length=w.length) with
   |false=>simp_arith[Bool.false_and]
   |true=>
    simp_arith[zG,Bool.true_and];refine CompG.map (f:=λd=>match d with |.tup [.str [c],.str [s]]=>.bl (jH c s) |_=>.non) (I:=λρ=>∃o o',ρ=[o,o']) ⟨_,_,rfl⟩ trivial (by simp;have hsz:sz=1000000:=rfl;omega) ?_ ?_
    ·rintro d ρ hd ⟨o,o',rfl⟩ kk hk;obtain ⟨⟨c,s⟩,_,rfl⟩:=bX.mp hd;simp_arith[iG];have:=hk [some (.str [c]),some (.str [s])] ⟨_,_,rfl⟩;unfold jH at this;cases hc:(c==42) with
     |true=>simp_arith[hc]at this ⊢;exact this
     |false=>simp_arith[hc]at this ⊢;exact this
    ·rw[fv];simp_arith[Function.comp_def,yD,NT,and_self]
  ·cases h
 ·cases h
theorem zH{c s:Nat}(hs:s=48\/s=49):jH c s=true↔s∈alt c:=by
 unfold jH alt;by_cases h:c=42
 ·subst h;simp;rcases hs with rfl |rfl <;> simp
 ·simp[h];exact eq_comm
theorem zJ:∀{f w:List Nat},f.length=w.length->(∀s∈w,s=48\/s=49)->(dm f w=true↔∀(i c s:Nat),f[i]?=some c->w[i]?=some s->s∈alt c)
 |[],[],_,_=>by simp[dm]
 |[],s::w,h,_=>by simp at h
 |c::f,[],h,_=>by simp at h
 |c::f,s::w,h,hw=>by
  rw[dm,ae,zJ (by simpa using h) λs hs=>hw s (bi _ hs),zH (hw s bS)];constructor
  ·rintro ⟨h1,h2⟩ i c' s' hc hs;cases i with
   |zero=>simp at hc hs;subst hc hs;exact h1
   |succ i=>exact h2 i c' s' (by simpa using hc) (by simpa using hs)
  ·intro h;exact ⟨h 0 c s rfl rfl,λi c' s' hc hs=>h (i+1) c' s' (by simpa using hc) (by simpa using hs)⟩
theorem acX{f w:List Nat}(hw:∀s∈w,s=48\/s=49):dq f w=true↔Fits f w:=by
 unfold dq Fits;rw[ae,bq];constructor
 ·rintro ⟨h1,h2⟩;exact ⟨h1,(zJ h1 hw).mp h2⟩
 ·rintro ⟨h1,h2⟩;exact ⟨h1,(zJ h1 hw).mpr h2⟩
def bh(rs:List Row)(w:List Nat):Option Nat:=rs.findIdx? λr=>dq r.1 w
def aP:Option Nat->D
 |some n=>.int n
 |none=>.non
def uE:RF.Spec:=bz (λds _=>∃w rs l,ds=[aq w rs,.str l]/\okB w rs/\okW w l) (λds G d G'=>G'=G/\∃w rs l,ds=[aq w rs,.str l]/\d=aP (bh rs l))
theorem uF{w v:Nat}{rs ss:List Row}(h:aq w rs=aq v ss):w=v/\rs=ss:=by
 unfold aq at h;simp only[D.tup.injEq,cr,D.int.injEq,Int.ofNat_inj,eS]at h;refine ⟨h.1,?_⟩;have h2:=h.2;clear h;induction rs generalizing ss with
 |nil=>cases ss with
  |nil=>rfl
  |cons _ _=>simp at h2
 |cons r rs ih=>cases ss with
  |nil=>simp at h2
  |cons s ss=>
   simp only[bn,cr]at h2;have e:r=s:=by have:=h2.1;unfold aB at this;simp only[D.tup.injEq,cr,D.str.injEq,eS]at this;exact Prod.ext this.1 this.2
   rw[e,ih h2.2]
theorem acY{w:Nat}{rs:List Row}{l:List Nat}{G:DH}{k:D->DH->Prop}{E:EK}(h:okB w rs)(hl:okW w l)(hk:k (aP (bh rs l)) G):uE.t [aq w rs,.str l] G k E:=by refine bL ⟨w,rs,l,rfl,h,hl⟩ λd G' hx=>?_;obtain ⟨e1,w2,rs2,l2,e2,e3⟩:=hx;simp only[cr,D.str.injEq,eS]at e2;obtain ⟨e2,rfl⟩:=e2;obtain ⟨rfl,rfl⟩:=uF e2;subst e1 e3;exact hk
theorem acZ{rs:List Row}{l:List Nat}{i:Nat}{r:Row}(h:rs[i]?=some r):bh (rs.drop i) l=if dq r.1 l then some 0 else (bh (rs.drop (i+1)) l).map (·+1):=by
 have hi:=(am.mp h).1;have e:rs.drop i=r::rs.drop (i+1):=by rw[bd hi];rw[(am.mp h).2]
 rw[e];unfold bh;rw[eL]
theorem ac0 (Φ:aa) (h1:Φ "need_book"=fW) (h2:Φ "is_word"=uB) (h3:Φ "fits"=aO mV) (ds:List D) (G:DH) (h:∃w rs l,ds=[aq w rs,.str l]/\okB w rs/\okW w l):
  au Φ mj noE (env0 ds 4) G (ends λd G'=>G'=G/\∃w rs l,ds=[aq w rs,.str l]/\d=aP (bh rs l)):=by
 obtain ⟨w,rs,l,rfl,hb,hl⟩:=h;have hl1:=hl.1;have hw6:=hb.w6;simp_all_arith[mj];refine seq λM hM=>?_;simp_arith[h1];refine iD hb (hM _ _ (seq λM hM=>?_));conv=>enter [4,1,1];rw[aq]
 simp_arith[ends];refine hM _ _ (seq λM hM=>?_);simp_arith[h2];refine acO hl (by omega) ?_;simp_arith[ends];refine hM _ _ (seq λM hM=>?_);simp_arith![ends];refine ForG.inv (P:=λi ρ G'=>(∃o4 o5,ρ=[some (.tup [.int w,.tup (rs.map aB)]),some (.str l),some (.int w),some (.tup (rs.map aB)),o4,o5])/\G'=G/\bh rs l=(bh (rs.drop i) l).map (·+i)) ⟨⟨_,_,rfl⟩,rfl,by simp⟩ (λ_ _ _ _=>trivial) ?_ ?_
 ·rintro i d ρ G' hd ⟨⟨o4,o5,rfl⟩,rfl,hmet⟩ kk hk;rw[jy]at hd;obtain ⟨d',hd',rfl⟩:=a8.mp hd;rw[bp]at hd';obtain ⟨r,hr,rfl⟩:=a8.mp hd';have hrf:=(hb.form r (ce hr)).1;rw[acZ hr]at hmet;simp_arith![ends];refine last ?_;simp_arith[h3,aB];refine dj (d:=.bl (dq r.1 l)) (if_pos (bv (by omega))) ?_;simp_arith[ends];cases hf:dq r.1 l with
  |true=>
   rw[hf,if_pos rfl]at hmet;exact ⟨w,rs,l,rfl,by rw[hmet];simp[aP]⟩
  |false=>
   rw[hf,if_neg br]at hmet;refine hk _ _ ⟨⟨_,_,rfl⟩,rfl,?_⟩;rw[hmet,Option.map_map];congr 1;funext n;simp;omega
 ·rintro ρ G' ⟨⟨o4,o5,rfl⟩,rfl,hmet⟩;rw[jx,al,eI]at hmet;refine hM _ _ ?_;simp_arith[ends];exact ⟨w,rs,l,rfl,by rw[hmet];rfl⟩
noncomputable def fX(rs:List Row):Option Nat->D
 |some n=>match rs[n]? with |some r=>.str r.2 |none=>.non
 |none=>.non
theorem ac1{rs:List Row}{l:List Nat}{n:Nat}(h:bh rs l=some n):n < rs.length:=by unfold bh at h;exact (List.findIdx?_eq_some_iff_findIdx_eq.mp h).1
def mW:RF.Spec:=bz (λds _=>∃w rs o,ds=[aq w rs,aP o]/\∀n,o=some n->n < rs.length) (λds G d G'=>G'=G/\∃w rs o,ds=[aq w rs,aP o]/\d=fX rs o)
theorem ac2{a b:Option Nat}(h:aP a=aP b):a=b:=by cases a <;> cases b <;> simp[aP]at h ⊢ <;> omega
theorem zK{w:Nat}{rs:List Row}{o:Option Nat}{G:DH}{k:D->DH->Prop}{E:EK}(h:∀n,o=some n->n < rs.length)(hk:k (fX rs o) G):mW.t [aq w rs,aP o] G k E:=by refine bL ⟨w,rs,o,rfl,h⟩ λd G' hx=>?_;obtain ⟨e1,w2,rs2,o2,e2,e3⟩:=hx;simp only[cr,eS]at e2;obtain ⟨e2,e4⟩:=e2;obtain ⟨rfl,rfl⟩:=uF e2;cases ac2 e4;subst e1 e3;exact hk
theorem ac3(Φ:aa)(ds:List D)(G:DH)(h:∃w rs o,ds=[aq w rs,aP o]/\∀n,o=some n->n < rs.length):au Φ jG noE (env0 ds 0) G (ends λd G'=>G'=G/\∃w rs o,ds=[aq w rs,aP o]/\d=fX rs o):=by
 obtain ⟨w,rs,o,rfl,ho⟩:=h;cases o with
 |none=>
  simp_arith[jG,aP];exact ⟨w,rs,none,rfl,rfl⟩
 |some n=>
  have hn:=ho n rfl;simp_arith[jG,aP,aq];refine bY (a:=aB rs[n]) (bJ (by simp[hn])) ?_;simp_arith[aB];exact ⟨w,rs,some n,rfl,by simp[fX,hn]⟩
def uG:RF.Spec:=bz (λds _=>∃w rs l,ds=[aq w rs,.str l]/\okB w rs/\okW w l) (λds G d G'=>G'=G/\∃w rs l,ds=[aq w rs,.str l]/\d=fX rs (bh rs l))
theorem NZ{w:Nat}{rs:List Row}{l:List Nat}{G:DH}{k:D->DH->Prop}{E:EK}(h:okB w rs)(hl:okW w l)(hk:k (fX rs (bh rs l)) G):uG.t [aq w rs,.str l] G k E:=by refine bL ⟨w,rs,l,rfl,h,hl⟩ λd G' hx=>?_;obtain ⟨e1,w2,rs2,l2,e2,e3⟩:=hx;simp only[cr,D.str.injEq,eS]at e2;obtain ⟨e2,rfl⟩:=e2;obtain ⟨rfl,rfl⟩:=uF e2;subst e1 e3;exact hk
theorem ac4 (Φ:aa) (h1:Φ "deed_of"=mW) (h2:Φ "met"=uE) (ds:List D) (G:DH) (h:∃w rs l,ds=[aq w rs,.str l]/\okB w rs/\okW w l):au Φ mq noE (env0 ds 0) G (ends λd G'=>G'=G/\∃w rs l,ds=[aq w rs,.str l]/\d=fX rs (bh rs l)):=by obtain ⟨w,rs,l,rfl,hb,hl⟩:=h;simp_arith[mq,h1,h2];refine acY hb hl ?_;refine zK (λn hn=>ac1 hn) ?_;exact ⟨rfl,w,rs,l,rfl,rfl⟩
theorem uH{α β:Type}(f:α->β)(l:List α)(n:Nat):cut (l.map f) none (some (n:Int))=(l.take n).map f:=by rw[ur,List.map_take]
theorem zL{α β:Type}(f:α->β)(l:List α)(n:Nat):cut (l.map f) (some (n:Int)) none=(l.drop n).map f:=by rw[yE,List.map_drop]
theorem okB.sub{w:Nat}{rs ss:List Row}(h:okB w rs)(hl:ss.length<=rs.length)(hs:∀r∈ss,r∈rs):okB w ss:=
 ⟨h.w1,h.w6,cm hl h.len,λr hr=>h.form r (hs r hr),λr hr=>h.deed r (hs r hr)⟩
theorem zM(c:Nat)(n:Nat):reps [c] n=List.replicate n c:=by
 unfold reps;induction n with
 |zero=>rfl
 |succ n ih=>rw[bP,eA,ih,bP];rfl
theorem ac5(w:Nat):okF w (List.replicate w 42):=⟨ca,λc hc=>.inr (.inr (List.eq_of_mem_replicate hc))⟩
theorem zN{w:Nat}{l:List Nat}:Fits (List.replicate w 42) l↔okW w l:=by
 constructor
 ·rintro ⟨h1,h2⟩;rw[ca]at h1;refine ⟨h1.symm,λc hc=>?_⟩;obtain ⟨i,hi,rfl⟩:=List.getElem_of_mem hc;have:=h2 i 42 l[i] (by rw[List.getElem?_replicate];rw[if_pos (by omega)]) (by simp[hi]);simpa [alt] using this
 ·rintro ⟨h1,h2⟩;refine ⟨by rw[ca,h1],λi c s hc hs=>?_⟩;rw[List.getElem?_replicate]at hc;split at hc
  ·cases hc;have:=h2 s (ce hs);simpa [alt] using this
  ·cases hc
theorem ac6{p:Addr}{G:DH}{k:D->DH->Prop}{E:EK}(hp:Pen G p)(hk:∀G',Pen G' p->Sb p G G'->k (.ref p) G'):ux.t [.ref p] G k E:=
 bL ⟨p,rfl,hp⟩ λd G' hx=>by obtain ⟨p2,e1,e2,hp',sb⟩:=hx;cases e1;subst e2;exact hk G' hp' sb
def eE(a b:Nat):Option Nat:=if a=42 then some b else if b=42\/b=a then some a else none
noncomputable def cC:List Nat->List Nat->Option (List Nat)
 |a::f,b::g=>match eE a b with |some c=>(cC f g).map (c::·) |none=>none
 |_,_=>some []
def bA:Option (List Nat)->D
 |some l=>.str l
 |none=>.non
noncomputable def mX:List D->Option D
 |[.str f,.str g]=>if decide (f.length<=100000) then some (bA (cC f g)) else none
 |_=>none
theorem ac7{f g:List Nat}{i a b:Nat}(h:(f.zip g)[i]?=some (a,b)):cC (f.drop i) (g.drop i)=match eE a b with |some c=>(cC (f.drop (i+1)) (g.drop (i+1))).map (c::·) |none=>none:=by
 have hz:=am.mp h;obtain ⟨hl,he⟩:=hz;rw[List.length_zip]at hl;have h1:i < f.length:=by omega
 have h2:i < g.length:=by omega
 rw[List.getElem_zip]at he;rw[bd h1,bd h2];simp only[Prod.mk.injEq]at he;rw[he.1,he.2];rfl
theorem ac8{f g:List Nat}:cC (f.drop (f.zip g).length) (g.drop (f.zip g).length)=some []:=by
 rw[List.length_zip];by_cases h:f.length<=g.length
 ·rw[Nat.min_eq_left h,eI];cases g.drop f.length <;> rfl
 ·rw[Nat.min_eq_right (by omega),eI];cases f.drop g.length <;> rfl
theorem ac9(Φ:aa)(ds:List D)(G:DH)(d:D)(h:mX ds=some d):au Φ lD noE (env0 ds 3) G (ends λd' G'=>G'=G/\d'=d):=by
 unfold mX at h;split at h
 ·rename_i f g;split at h
  ·rename_i hl;have hl:=dk hl;cases h;simp_all_arith[lD];refine seq λM hM=>?_;simp_arith[ends];refine hM _ _ (seq λM hM=>?_);simp_arith![zG];refine ForG.inv (P:=λi ρ G'=>(∃o3 o4 m,ρ=[some (.str f),some (.str g),some (.str m),o3,o4]/\m.length=i/\cC f g=(cC (f.drop i) (g.drop i)).map (m ++ ·))/\G'=G) ⟨⟨_,_,[],rfl,rfl,by simp⟩,rfl⟩ (λ_ _ _ _=>trivial) ?_ ?_
   ·rintro i d ρ G' hd ⟨⟨o3,o4,m,rfl,hm,hb⟩,rfl⟩ kk hk;rw[bp]at hd;obtain ⟨⟨a,b⟩,hab,rfl⟩:=a8.mp hd;have hi:=(am.mp hab).1;rw[List.length_zip]at hi;rw[ac7 hab]at hb;simp_arith![ends];refine last ?_;have put:∀(c:Nat)(o3 o4:Option D),eE a b=some c->m.length+1<=sz/\kk [some (.str f),some (.str g),some (.str (m++[c])),o3,o4] G':=by
     intro c o3 o4 hc;rw[hc]at hb;refine ⟨by have hsz:sz=1000000:=rfl;omega,hk _ _ ⟨⟨_,_,_,rfl,by simp[hm],?_⟩,rfl⟩⟩;rw[hb,Option.map_map];congr 1;funext x;simp
    simp_arith[iG];by_cases h42:a=42
    ·have:((a==42):Bool)=true:=by simp[h42]
     simp_arith[this];exact put b _ _ (if_pos h42)
    ·have h0:((a==42):Bool)=false:=by simp[h42]
     simp_arith[h0,iG];by_cases hb42:b=42
     ·have:((b==42):Bool)=true:=by simp[hb42]
      simp_arith[this];exact put a _ _ (by unfold eE;rw[if_neg h42,if_pos (.inl hb42)])
     ·have h1:((b==42):Bool)=false:=by simp[hb42]
      simp_arith[h1,iG];by_cases hba:b=a
      ·have:((b==a):Bool)=true:=by simp[hba]
       simp_arith[this];exact put a _ _ (by unfold eE;rw[if_neg h42,if_pos (.inr hba)])
      ·have:((b==a):Bool)=false:=by simp[hba]
       simp_arith[this];have hn:eE a b=none:=by unfold eE;rw[if_neg h42,if_neg (by rintro (h |h);exact hb42 h;exact hba h)]
       rw[hn]at hb;rw[hb];rfl
   ·rintro ρ G' ⟨⟨o3,o4,m,rfl,hm,hb⟩,rfl⟩;rw[al,ac8]at hb;refine hM _ _ ?_;simp_arith[ends];rw[hb];simp[bA]
  ·cases h
 ·cases h
noncomputable def gD:List D->Option D
 |[.str f,.int n,.str [c]]=>if decide (0<=n)&&decide (n < f.length)&&decide (f.length<=1000) then some (.str (f.set n.toNat c)) else none
 |_=>none
theorem ada{l:List Nat}{n c:Nat}(h:n < l.length):l.take n++[c]++l.drop (n+1)=l.set n c:=by rw[List.set_eq_take_append_cons_drop,if_pos h];simp
theorem adb(Φ:aa)(ds:List D)(G:DH)(d:D)(h:gD ds=some d):au Φ lG noE (env0 ds 0) G (ends λd' G'=>G'=G/\d'=d):=by
 unfold gD at h;split at h
 ·rename_i f n c;split at h
  ·rename_i hl;simp only[ae,bq]at hl;obtain ⟨⟨h0,h1⟩,h2⟩:=hl;cases h;obtain ⟨k,rfl⟩:=cy h0;simp_arith[lG,ur,HJ,ay,b6,ci,c6,ada (show k < f.length by omega)];exact ⟨by have hsz:sz=1000000:=rfl;omega,by have hsz:sz=1000000:=rfl;omega⟩
  ·cases h
 ·cases h
noncomputable def iH:List D->Option D
 |[.int n]=>if decide (0<=n)&&decide (n<=1000) then some (.str (List.replicate n.toNat 42)) else none
 |_=>none
theorem adc(Φ:aa)(ds:List D)(G:DH)(d:D)(h:iH ds=some d):au Φ lQ noE (env0 ds 0) G (ends λd' G'=>G'=G/\d'=d):=by
 unfold iH at h;split at h
 ·rename_i n;split at h
  ·rename_i hl;simp only[ae,bq]at hl;cases h;simp_arith[lQ,zM];exact ⟨hl.1,hl.2,by have hsz:sz=1000000:=rfl;omega⟩
  ·cases h
 ·cases h
def aR(rs:List Row)(b:List Nat):Option Nat:=rs.findIdx? λr=>(cC r.1 b).isSome
def N5(ds:List D)(_:DH):Prop:=∃(rs:List Row)(b:List Nat),ds=[.tup (rs.map aB),.str b]/\∀r∈rs,r.1.length<=1000
def N6(ds:List D)(G:DH)(d:D)(G':DH):Prop:=G'=G/\∃(rs:List Row)(b:List Nat),ds=[.tup (rs.map aB),.str b]/\d=aP (aR rs b)
def mY:RF.Spec:=bz N5 N6
theorem zO{rs ss:List Row}(h:rs.map aB=ss.map aB):rs=ss:=(uF (w:=0) (v:=0) (by unfold aq;rw[h])).2
theorem N7{rs:List Row}{b:List Nat}{G:DH}{k:D->DH->Prop}{E:EK}(h:∀r∈rs,r.1.length<=1000)(hk:k (aP (aR rs b)) G):mY.t [.tup (rs.map aB),.str b] G k E:=by refine bL ⟨rs,b,rfl,h⟩ λd G' hx=>?_;obtain ⟨e1,rs2,b2,e2,e3⟩:=hx;simp only[cr,D.str.injEq,D.tup.injEq,eS]at e2;obtain ⟨e2,rfl⟩:=e2;cases zO e2;subst e1 e3;exact hk
theorem ade{o:Option (List Nat)}:dZ (bA o)=!o.isSome:=by cases o <;> rfl
theorem adf{G:DH}{o:Option (List Nat)}:view G (bA o)=bA o:=by cases o <;> rfl
theorem adg{rs:List Row}{b:List Nat}{i:Nat}{r:Row}(h:rs[i]?=some r):aR (rs.drop i) b=if (cC r.1 b).isSome then some 0 else (aR (rs.drop (i+1)) b).map (·+1):=by
 have hi:=(am.mp h).1;have e:rs.drop i=r::rs.drop (i+1):=by rw[bd hi];rw[(am.mp h).2]
 rw[e];unfold aR;rw[eL]
theorem adh (Φ:aa) (h1:Φ "both"=aO mX) (ds:List D) (G:DH) (h:N5 ds G):au Φ lE noE (env0 ds 2) G (ends (N6 ds G)):=by
 obtain ⟨rs,b,rfl,hb⟩:=h;simp_all_arith[lE];refine seq λM hM=>?_;simp_arith![ends];refine ForG.inv (P:=λi ρ G'=>(∃o2 o3,ρ=[some (.tup (rs.map aB)),some (.str b),o2,o3])/\G'=G/\aR rs b=(aR (rs.drop i) b).map (·+i)) ⟨⟨_,_,rfl⟩,rfl,by simp⟩ (λ_ _ _ _=>trivial) ?_ ?_
 ·rintro i d ρ G' hd ⟨⟨o2,o3,rfl⟩,rfl,hmet⟩ kk hk;rw[jy]at hd;obtain ⟨d',hd',rfl⟩:=a8.mp hd;rw[bp]at hd';obtain ⟨r,hr,rfl⟩:=a8.mp hd';have hrl:=hb r (ce hr);rw[adg hr]at hmet;simp_arith![ends];refine last ?_;simp_arith[h1,aB];refine dj (d:=bA (cC r.1 b)) (if_pos (bv (by omega))) ?_;simp_arith[adf,ade];cases hf:(cC r.1 b).isSome with
  |true=>
   rw[hf,if_pos rfl]at hmet;exact ⟨rfl,rs,b,rfl,by rw[hmet];simp[aP]⟩
  |false=>
   rw[hf,if_neg br]at hmet;refine hk _ _ ⟨⟨_,_,rfl⟩,rfl,?_⟩;rw[hmet,Option.map_map];congr 1;funext n;simp;omega
 ·rintro ρ G' ⟨⟨o2,o3,rfl⟩,rfl,hmet⟩;rw[jx,al,eI]at hmet;refine hM _ _ ?_;simp_arith[ends];exact ⟨rfl,rs,b,rfl,by rw[hmet];rfl⟩
def cQ(f b:List Nat):Option Nat:=(f.zip b).findIdx? λp=>p.2==42&&!(p.1==42)
noncomputable def cZ(rs:List Row)(b:List Nat):Option Nat:=match aR rs b with |some n=>(match rs[n]? with |some r=>cQ r.1 b |none=>none) |none=>none
def N8(ds:List D)(_:DH):Prop:=∃(rs:List Row)(b:List Nat),ds=[.tup (rs.map aB),.str b]/\(∀r∈rs,r.1.length=b.length)/\b.length<=1000
def Oa(ds:List D)(G:DH)(d:D)(G':DH):Prop:=G'=G/\∃(rs:List Row)(b:List Nat),ds=[.tup (rs.map aB),.str b]/\d=aP (cZ rs b)
def uI:RF.Spec:=bz N8 Oa
theorem adi{rs:List Row}{b:List Nat}{G:DH}{k:D->DH->Prop}{E:EK}(h:∀r∈rs,r.1.length=b.length)(hl:b.length<=1000)(hk:k (aP (cZ rs b)) G):uI.t [.tup (rs.map aB),.str b] G k E:=by refine bL ⟨rs,b,rfl,h,hl⟩ λd G' hx=>?_;obtain ⟨e1,rs2,b2,e2,e3⟩:=hx;simp only[cr,D.str.injEq,D.tup.injEq,eS]at e2;obtain ⟨e2,rfl⟩:=e2;cases zO e2;subst e1 e3;exact hk
theorem uJ{rs:List Row}{b:List Nat}{n:Nat}(h:aR rs b=some n):n < rs.length:=(List.findIdx?_eq_some_iff_findIdx_eq.mp h).1
theorem adk{f b:List Nat}{i s c:Nat}(hs:f[i]?=some s)(hc:b[i]?=some c):cQ (f.drop i) (b.drop i)=if (c==42&&!(s==42))=true then some 0 else (cQ (f.drop (i+1)) (b.drop (i+1))).map (·+1):=by have h1:=am.mp hs;have h2:=am.mp hc;rw[bd h1.1,bd h2.1,h1.2,h2.2];unfold cQ;rw[List.zip_cons_cons,eL]
theorem adl (Φ:aa) (h1:Φ "first_touching"=mY) (ds:List D) (G:DH) (h:N8 ds G):au Φ lF noE (env0 ds 3) G (ends (Oa ds G)):=by
 obtain ⟨rs,b,rfl,hb,hbl⟩:=h;simp_all_arith[lF];refine seq λM hM=>?_;simp_arith[h1];refine N7 (λr hr=>by rw[hb r hr];exact hbl) (hM _ _ (seq λM hM=>?_));cases ht:aR rs b with
 |none=>
  simp_arith[aP];exact ⟨rfl,rs,b,rfl,by unfold cZ;rw[ht];rfl⟩
 |some n=>
  have hn:=uJ ht;have hlen:=hb rs[n] (cw _);have hsp:cZ rs b=cQ rs[n].1 b:=by unfold cZ;rw[ht];simp[hn]
  simp_arith[aP];refine hM _ _ (seq λM hM=>?_);simp_arith![ends];refine bY (a:=aB rs[n]) (bJ (by simp[hn])) ?_;simp_arith![aB];generalize rs[n].1=f at hlen hsp;refine ForG.inv (P:=λi ρ G'=>(∃o3 o4,ρ=[some (.tup (rs.map aB)),some (.str b),some (.int (n:Int)),o3,o4])/\G'=G/\cQ f b=(cQ (f.drop i) (b.drop i)).map (·+i)) ⟨⟨_,_,rfl⟩,rfl,by simp⟩ (λ_ _ _ _=>trivial) ?_ ?_
  ·rintro i d ρ G' hd ⟨⟨o3,o4,rfl⟩,rfl,hs⟩ kk hk;rw[jy]at hd;obtain ⟨d',hd',rfl⟩:=a8.mp hd;rw[bp]at hd';obtain ⟨s,hsi,rfl⟩:=a8.mp hd';have hi:=(am.mp hsi).1;have hib:i < b.length:=by omega
   have hbi:b[i]?=some b[i]:=by simp[hib]
   rw[adk hsi hbi]at hs;simp_arith![ends];refine last ?_;simp_arith[ends];refine bY (a:=b[i]) (by rw[Nat.zero_add];exact bJ hbi) ?_;simp_arith[iG];cases h42:(b[i]==42) with
   |false=>
    simp only[h42,Bool.false_and,if_neg br]at hs;simp_arith[ends];refine hk _ _ ⟨⟨_,_,rfl⟩,rfl,?_⟩;rw[hs,Option.map_map];congr 1;funext n;simp;omega
   |true=>
    simp_arith[iG];cases hs42:(s==42) with
    |true=>
     simp only[h42,hs42,Bool.not_true,Bool.and_false,if_neg br]at hs;simp_arith[ends];refine hk _ _ ⟨⟨_,_,rfl⟩,rfl,?_⟩;rw[hs,Option.map_map];congr 1;funext n;simp;omega
    |false=>
     simp only[h42,hs42,Bool.not_false,Bool.and_true,if_pos]at hs;simp_arith[ends];exact ⟨rfl,rs,b,rfl,by rw[hsp,hs];simp[aP]⟩
  ·rintro ρ G' ⟨⟨o3,o4,rfl⟩,rfl,hs⟩;rw[jx,al,eI]at hs;refine hM _ _ ?_;simp_arith[ends];exact ⟨rfl,rs,b,rfl,by rw[hsp,hs];simp[cQ,aP]⟩
def jJ:List Nat:=[115,112,108,105,116]
def stc(b:List Nat):Nat:=b.countP (·==42)
theorem jK{b:List Nat}{n c:Nat}(h:b[n]?=some 42)(hc:c≠42):stc (b.set n c)+1=stc b:=by
 obtain ⟨hl,he⟩:=am.mp h;have e1:b=b.take n++42::b.drop (n+1):=by rw[<-he,<-bd hl,List.take_append_drop]
 have e2:b.set n c=b.take n++c::b.drop (n+1):=by rw[List.set_eq_take_append_cons_drop,if_pos hl]
 unfold stc;rw[e2];conv=>rhs;rw[e1]
 rw[List.countP_append,List.countP_append,List.countP_cons_of_neg (by simp[hc]),List.countP_cons_of_pos (by simp)];omega
theorem Ob{w n c:Nat}{b:List Nat}(h:okF w b)(hc:isF c):okF w (b.set n c):=⟨by rw[dS];exact h.1,λd hd=>by
 rcases List.mem_or_eq_of_mem_set hd with h' |h'
 ·exact h.2 d h'
 ·rw[h'];exact hc⟩
theorem adm:isF 48:=.inl rfl
theorem adn:isF 49:=.inr (.inl rfl)
inductive Gr (name:List Nat) (rss:List (List Row)):List Nat->D->Prop
 |leaf (b:List Nat) (h:∀rs∈rss,cZ rs b=none):Gr name rss b (.tup (.str name::rss.map λrs=>aP (aR rs b)))
 |node (b:List Nat) (n:Nat) (z o:D) (h:b[n]?=some 42) (hz:Gr name rss (b.set n 48) z) (ho:Gr name rss (b.set n 49) o):Gr name rss b (.tup [.str jJ,.int n,z,o])
def dG(rss:List (List Row)):List D:=rss.map λrs=>.tup (rs.map aB)
structure okG(w:Nat)(name:List Nat)(rss:List (List Row)):Prop where
 len:rss.length<=100
 nl:name.length<=100
 form:∀rs∈rss,∀r∈rs,r.1.length=w
 w1000:w<=1000
def Oc(n:Nat)(ds:List D)(_:DH):Prop:=∃(w:Nat)(name:List Nat)(rss:List (List Row))(b:List Nat),ds=[.str name,.lst (dG rss),.str b]/\okG w name rss/\b.length=w/\stc b < n
def Od(ds:List D)(G:DH)(d:D)(G':DH):Prop:=G'=G/\∃(name:List Nat)(rss:List (List Row))(b:List Nat),ds=[.str name,.lst (dG rss),.str b]/\Gr name rss b d
def eF(n:Nat):RF.Spec:=bz (Oc n) Od
theorem ado{a b:List (List Row)}(h:dG a=dG b):a=b:=by
 unfold dG at h;induction a generalizing b with
 |nil=>cases b with
  |nil=>rfl
  |cons _ _=>simp at h
 |cons x a ih=>cases b with
  |nil=>simp at h
  |cons y b=>
   simp only[bn,cr,D.tup.injEq]at h;rw[zO h.1,ih h.2]
theorem uK{n w:Nat}{name:List Nat}{rss:List (List Row)}{b:List Nat}{G:DH}{k:D->DH->Prop}{E:EK}(h:okG w name rss)(hb:b.length=w)(hs:stc b < n)(hk:∀d,Gr name rss b d->k d G):(eF n).t [.str name,.lst (dG rss),.str b] G k E:=by refine bL ⟨w,name,rss,b,rfl,h,hb,hs⟩ λd G' hx=>?_;obtain ⟨e1,name2,rss2,b2,e2,e3⟩:=hx;simp only[cr,D.str.injEq,D.lst.injEq,eS]at e2;obtain ⟨rfl,e2,rfl⟩:=e2;cases ado e2;subst e1;exact hk d e3
theorem adp{f b:List Nat}{n:Nat}(h:cQ f b=some n):b[n]?=some 42:=by unfold cQ at h;have h2:=fm.mp h;obtain ⟨hl,hp,_⟩:=h2;rw[List.length_zip]at hl;rw[List.getElem_zip]at hp;simp only[ae,av]at hp;rw[aI (by omega),hp.1]
theorem adq{rs:List Row}{b:List Nat}{n:Nat}(h:cZ rs b=some n):b[n]?=some 42:=by
 unfold cZ at h;split at h
 ·split at h
  ·exact adp h
  ·cases h
 ·cases h
theorem uL{b:List Nat}{n c:Nat}{G:DH}{k:D->DH->Prop}{E:EK}(h:n < b.length)(hl:b.length<=1000)(hk:k (.str (b.set n c)) G):(aO gD).t [.str b,.int n,.str [c]] G k E:=
 dj (by
  unfold gD;dsimp only;rw[if_pos (by simp only[ae,bq];omega),c6]) hk
theorem adt (Φ:aa) (n:Nat) (h0:Φ "grown"=eF n) (h1:Φ "first_touching"=mY) (h2:Φ "splitting_place"=uI) (h3:Φ "with_sign"=aO gD) (ds:List D) (G:DH) (h:Oc (n+1) ds G):au Φ jF noE (env0 ds 4) G (ends (Od ds G)):=by
 obtain ⟨w,name,rss,b,rfl,hg,hb,hs⟩:=h;have hw:=hg.w1000;simp_all_arith[jF];refine seq λM hM=>?_;simp_arith![ends];refine ForG.inv (P:=λi ρ G'=>(∃o3 o4 o5 o6,ρ=[some (.str name),some (.lst (dG rss)),some (.str b),o3,o4,o5,o6])/\G'=G/\∀rs∈rss.take i,cZ rs b=none) ⟨⟨_,_,_,_,rfl⟩,rfl,by simp⟩ (λ_ _ _ _=>trivial) ?_ ?_
 ·rintro i d ρ G' hd ⟨⟨o3,o4,o5,o6,rfl⟩,rfl,hall⟩ kk hk;unfold dG at hd;rw[bp]at hd;obtain ⟨rs,hrs,rfl⟩:=a8.mp hd;simp_arith![ends];refine seq λM hM=>?_;simp_arith[h2];refine adi (λr hr=>by rw[hg.form rs (ce hrs) r hr,hb]) (by omega) (hM _ _ (last ?_));cases hsp:cZ rs b with
  |none=>
   simp_arith[aP];refine hk _ _ ⟨⟨_,_,_,_,rfl⟩,rfl,λrs' hrs'=>?_⟩;rw[ft,hrs]at hrs';rcases aS.mp hrs' with h |h
   ·exact hall rs' h
   ·have:rs'=rs:=by simpa using h
    rw[this];exact hsp
  |some at'=>
   have hst:=adq hsp;have hat:=(am.mp hst).1;simp_arith![aP];refine seq λM hM=>?_;simp_arith[h0,h3];refine uL hat (by omega) (uK hg (by rw[dS];exact hb) (by have:=jK hst (show 48≠42 by decide);omega) λz hz=>hM _ _ (seq λM hM=>?_));simp_arith[h0,h3];refine uL hat (by omega) (uK hg (by rw[dS];exact hb) (by have:=jK hst (show 49≠42 by decide);omega) λo ho=>hM _ _ (last ?_));simp_arith[ends];exact ⟨by decide,rfl,name,rss,b,rfl,.node b at' z o hst hz ho⟩
 ·rintro ρ G' ⟨⟨o3,o4,o5,o6,rfl⟩,rfl,hall⟩;have hlen:(dG rss).length=rss.length:=al _;rw[hlen,fE]at hall;have hrl:=hg.len;refine hM _ _ ?_;simp_arith[h1];refine ⟨by decide,CompG.inv (P:=λi acc ρ G''=>(∃o,ρ=[o,some (.str b)])/\G''=G'/\acc=(rss.take i).map λrs=>aP (aR rs b)) ⟨⟨_,rfl⟩,rfl,rfl⟩ (λ_ _ _ _ _=>trivial) (by rw[hlen];have hsz:sz=1000000:=rfl;omega) ?_ ?_⟩
  ·rintro i d acc ρ G'' hd ⟨⟨o,rfl⟩,rfl,rfl⟩ kk hk;unfold dG at hd;rw[bp]at hd;obtain ⟨rs,hrs,rfl⟩:=a8.mp hd;simp_arith[h1];refine N7 (λr hr=>by rw[hg.form rs (ce hrs) r hr];omega) (hk _ _ _ ⟨⟨_,rfl⟩,rfl,?_⟩);rw[ft,hrs];simp
  ·rintro acc ρ G'' ⟨_,rfl,rfl⟩;rw[hlen,fE];simp_arith[al];exact ⟨by have hsz:sz=1000000:=rfl;omega,rfl,name,rss,b,rfl,.leaf b hall⟩
theorem adu(ds:List D)(G:DH)(a:(eF 0).A):¬(eF 0).pre ds G a:=λ⟨_,_,_,_,_,_,_,_,h⟩=>by omega
theorem adv(w:Nat):stc (List.replicate w 42)<=w:=by have:=List.countP_le_length (p:=(·==42)) (l:=List.replicate w 42);rw[ca]at this;exact this
theorem Oe:∀{f b w:List Nat},cC f b=none->(∀s∈w,s=48\/s=49)->Fits b w->dm f w=true->False
 |[],b,w,h,_,_,_=>by cases b <;> cases h
 |a::f,[],w,h,_,_,_=>by cases h
 |a::f,c::b,[],h,_,hf,_=>by have:=hf.1;simp at this
 |a::f,c::b,s::w,h,hw,hf,hz=>by
  rw[dm,ae]at hz;have hs:=hf.2 0 c s rfl rfl;have hf':Fits b w:=⟨by have:=hf.1;simpa using this,λi c' s' h1 h2=>hf.2 (i+1) c' s' (by simpa using h1) (by simpa using h2)⟩;unfold cC at h;cases h1:eE a c with
  |some x=>
   rw[h1]at h;simp only[Option.map_eq_none_iff]at h;exact Oe h (λs hs=>hw s (bi _ hs)) hf' hz.2
  |none=>
   unfold eE at h1;split at h1
   ·cases h1
   ·split at h1
    ·cases h1
    ·rename_i ha hc;have h2:=(zH (hw s bS)).mp hz.1;unfold alt at hs h2;rw[if_neg ha]at h2;have es:s=a:=by simpa using h2
     split at hs
     ·rename_i e;exact hc (.inl e)
     ·have:s=c:=by simpa using hs
      exact hc (.inr (by omega))
theorem Og:∀{f b w:List Nat},f.length=b.length->(cC f b).isSome=true->cQ f b=none->(∀s∈w,s=48\/s=49)->Fits b w->dm f w=true
 |[],b,w,_,_,_,_,_=>rfl
 |a::f,[],w,h,_,_,_,_=>by simp at h
 |a::f,c::b,[],_,_,_,_,hf=>rfl
 |a::f,c::b,s::w,hl,hb,hs,hw,hf=>by
  have hs0:=hf.2 0 c s rfl rfl;have hf':Fits b w:=⟨by have:=hf.1;simpa using this,λi c' s' h1 h2=>hf.2 (i+1) c' s' (by simpa using h1) (by simpa using h2)⟩;unfold cQ at hs;rw[List.zip_cons_cons,eL]at hs;split at hs
  ·cases hs
  ·rename_i hne;have hs':cQ f b=none:=by unfold cQ;simpa using hs
   unfold cC at hb;cases h1:eE a c with
   |none=>rw[h1]at hb;cases hb
   |some x=>
    rw[h1]at hb;have hb':(cC f b).isSome=true:=by simpa using hb
    rw[dm,ae];refine ⟨?_,Og (by simpa using hl) hb' hs' (λs hs=>hw s (bi _ hs)) hf'⟩;rw[zH (hw s bS)];by_cases ha:a=42
    ·unfold alt;rw[if_pos ha];rcases hw s bS with e |e <;> simp[e]
    ·have hc:c≠42:=by
      rintro rfl;exact hne (by simp[ha])
     unfold alt at hs0 ⊢;rw[if_neg hc]at hs0;rw[if_neg ha];unfold eE at h1;rw[if_neg ha]at h1;split at h1
     ·rename_i h2;rcases h2 with h2 |h2
      ·exact absurd h2 hc
      ·rw[<-h2];exact hs0
     ·cases h1
theorem Oh{rs:List Row}{b l:List Nat}(hf:∀r∈rs,r.1.length=b.length)(hs:cZ rs b=none)(hl:∀s∈l,s=48\/s=49)(hb:Fits b l):bh rs l=aR rs b:=by
 have no:∀r∈rs,(cC r.1 b).isSome=false->dq r.1 l=false:=by
  intro r hr h;cases e:dq r.1 l with
  |false=>rfl
  |true=>
   unfold dq at e;rw[ae]at e;exact (Oe (by simpa using h) hl hb e.2).elim
 cases ht:aR rs b with
 |none=>
  unfold aR at ht;unfold bh;rw[List.findIdx?_eq_none_iff]at ht ⊢;exact λr hr=>no r hr (by simpa using ht r hr)
 |some n=>
  have hn:=uJ ht;have ht':=fm.mp ht;obtain ⟨_,t1,t2⟩:=ht';unfold bh;rw[fm];refine ⟨hn,?_,λj hj=>?_⟩
  ·have hsf:cQ rs[n].1 b=none:=by
    unfold cZ at hs;rw[ht]at hs;simpa [hn] using hs
   have hlen:=hf rs[n] (cw _);unfold dq;rw[ae];exact ⟨bv (by rw[hlen,hb.1]),Og hlen t1 hsf hl hb⟩
  ·have:=no rs[j] (cw _) (by simpa using t2 j hj);simp[this]
noncomputable def mZ(name:List Nat)(rss:List (List Row))(b:List Nat):D:=.tup (.str name::rss.map λrs=>aP (aR rs b))
def jL(name:List Nat)(rss:List (List Row))(b:List Nat):D:=.tup [.str b,mZ name rss b]
inductive Lv (name:List Nat) (rss:List (List Row)):List Nat->D->List (List Nat)->Prop
 |leaf (b:List Nat) (h:∀rs∈rss,cZ rs b=none):Lv name rss b (mZ name rss b) [b]
 |node (b:List Nat) (n:Nat) (z o:D) (l m:List (List Nat)) (h:b[n]?=some 42) (hz:Lv name rss (b.set n 48) z l) (ho:Lv name rss (b.set n 49) o m):Lv name rss b (.tup [.str jJ,.int n,z,o]) (l++m)
theorem Gr.lv{name:List Nat}{rss:List (List Row)}{b:List Nat}{d:D}(h:Gr name rss b d):∃bs,Lv name rss b d bs:=by
 induction h with
 |leaf b h=>exact ⟨_,.leaf b h⟩
 |node b n z o h _ _ hz ho=>
  obtain ⟨l,hl⟩:=hz;obtain ⟨m,hm⟩:=ho;exact ⟨_,.node b n z o l m h hl hm⟩
theorem Lv.len{name:List Nat}{rss:List (List Row)}{b:List Nat}{d:D}{bs:List (List Nat)}(h:Lv name rss b d bs):bs.length<=2 ^ stc b:=by
 induction h with
 |leaf b h=>exact Nat.one_le_two_pow
 |node b n z o l m h _ _ hz ho=>
  have e1:=jK h (show 48≠42 by decide);have e2:=jK h (show 49≠42 by decide);rw[<-e1,Nat.pow_succ,ay];have e3:stc (b.set n 49)=stc (b.set n 48):=by omega
  rw[e3]at ho;omega
theorem Lv.len'{name:List Nat}{rss:List (List Row)}{b:List Nat}{d:D}{bs:List (List Nat)}(h:Lv name rss b d bs)(hb:b.length<=12):bs.length<=4096:=by
 have h1:=h.len;have h2:stc b<=12:=cm (List.countP_le_length) hb;have h3:=Nat.pow_le_pow_right (show 0 < 2 by decide) h2;have h4:2 ^ 12=4096:=by decide
 omega
theorem Lv.box{name:List Nat}{rss:List (List Row)}{b:List Nat}{d:D}{bs:List (List Nat)}(h:Lv name rss b d bs):∀c∈bs,c.length=b.length/\∀rs∈rss,cZ rs c=none:=by
 induction h with
 |leaf b h=>intro c hc;rw[a9.mp hc];exact ⟨rfl,h⟩
 |node b n z o l m h _ _ hz ho=>
  intro c hc;rcases aS.mp hc with hc |hc
  ·have:=hz c hc;rw[dS]at this;exact this
  ·have:=ho c hc;rw[dS]at this;exact this
theorem Lv.okf{w:Nat}{name:List Nat}{rss:List (List Row)}{b:List Nat}{d:D}{bs:List (List Nat)}(h:Lv name rss b d bs):okF w b->∀c∈bs,okF w c:=by
 induction h with
 |leaf b h=>intro hb c hc;rw[a9.mp hc];exact hb
 |node b n z o l m h _ _ hz ho=>
  intro hb c hc;rcases aS.mp hc with hc |hc
  ·exact hz (Ob hb adm) c hc
  ·exact ho (Ob hb adn) c hc
theorem zP{w:Nat}{f l:List Nat}(h:okF w f)(hf:Fits f l):∀s∈l,s=48\/s=49:=by
 intro s hs;obtain ⟨i,hi,rfl⟩:=List.getElem_of_mem hs;have hif:i < f.length:=by rw[hf.1];exact hi
 have:=hf.2 i f[i] l[i] (by simp[hif]) (by simp[hi]);rcases h.2 f[i] (cw _) with e |e |e <;> rw[e]at this <;> simp[alt]at this <;> omega
def isPlace(m:Int):D->Bool
 |.int i=>decide (0<=i)&&decide (i < m)
 |_=>false
def dH:List D->Option D
 |[.int m,x]=>if nr x then some (.bl (isPlace m x)) else none
 |_=>none
theorem adw (Φ:aa) (h1:Φ "is_whole"=aO iz) (ds:List D) (G:DH) (d:D) (h:dH ds=some d):au Φ lJ noE (env0 ds 0) G (ends λd' G'=>G'=G/\d'=d):=by
 unfold dH at h;split at h
 ·rename_i m x;split at h
  ·rename_i hx;cases h;have hf:iz [x]=some (.bl (whole x)):=if_pos hx;simp_arith[lJ,h1];refine dj hf ?_;cases x <;> first | (simp[nr]at hx;done) | (simp_arith[whole,isPlace];first | (simp;done) |skip)
   rename_i i;cases hi:decide (0<=i) with
   |true=>simp
   |false=>simp
  ·cases h
 ·cases h
theorem adx{m i:Nat}{G:DH}{k:D->DH->Prop}{E:EK}(h:i < m)(hk:k (.bl true) G):(aO dH).t [.int m,.int i] G k E:=
 dj (by unfold dH;simp only[nr,if_true,isPlace];rw[bv (by omega),bv (by omega)];rfl) hk
noncomputable def fY:List D->Option D
 |[.str name,.int many,.tup (.str s::r)]=>some (.bl ((((r.length+1:Nat):Int)==many+1)&&(s==name)))
 |_=>none
theorem ady(Φ:aa)(ds:List D)(G:DH)(d:D)(h:fY ds=some d):au Φ lH noE (env0 ds 0) G (ends λd' G'=>G'=G/\d'=d):=by
 unfold fY at h;split at h
 ·rename_i name many s r;cases h;simp_arith[lH];cases he:(((r.length+1:Nat):Int)==many+1) with
  |false=>simp_arith[Bool.false_and]
  |true=>simp_arith[Bool.true_and]
 ·cases h
theorem adz{name s:List Nat}{m:Int}{r:List D}{G:DH}{k:D->DH->Prop}{E:EK}(h:s≠name)(hk:k (.bl false) G):(aO fY).t [.str name,.int m,.tup (.str s::r)] G k E:=
 dj (by unfold fY;dsimp only;rw[c5.mpr h,Bool.and_false]) hk
theorem adA{name:List Nat}{m:Int}{r:List D}{G:DH}{k:D->DH->Prop}{E:EK}(h:(r.length:Int)=m)(hk:k (.bl true) G):(aO fY).t [.str name,.int m,.tup (.str name::r)] G k E:=
 dj (by unfold fY;dsimp only;rw[BEq.rfl,Bool.and_true,av.mpr (by omega)]) hk
def oI:Option Int->D
 |some i=>.int i
 |none=>.non
inductive T where
 |lf (r:List (Option Int))
 |sp (i:Int) (z o:T)
noncomputable def T.d(name:List Nat):T->D
 |.lf r=>.tup (.str name::r.map oI)
 |.sp i z o=>.tup [.str jJ,.int i,z.d name,o.d name]
def T.dep:T->Nat
 |.lf _=>0
 |.sp _ z o=>max z.dep o.dep+1
def iI(b:List Nat)(i:Int):Bool:=decide (0<=i)&&b[i.toNat]?==some 42
noncomputable def T.lvs:T->List Nat->Option (List (List Nat×List (Option Int)))
 |.lf r,b=>some [(b,r)]
 |.sp i z o,b=>match iI b i with
  |true=>(match z.lvs (b.set i.toNat 48),o.lvs (b.set i.toNat 49) with |some l,some m=>some (l++m) |_,_=>none)
  |false=>none
def m5(name:List Nat)(x:List Nat×List (Option Int)):D:=.tup [.str x.1,.tup (.str name::x.2.map oI)]
noncomputable def eG(name:List Nat):Option (List (List Nat×List (Option Int)))->D
 |none=>.non
 |some l=>.lst (l.map (m5 name))
theorem T.lvs_len:∀(t:T){b:List Nat}{l:List (List Nat×List (Option Int))},t.lvs b=some l->l.length<=2 ^ t.dep
 |.lf r,b,l,h=>by cases h;exact Nat.one_le_two_pow
 |.sp i z o,b,l,h=>by
  rw[T.lvs]at h;split at h
  ·split at h
   ·rename_i l1 l2 h1 h2;cases h;have e1:=z.lvs_len h1;have e2:=o.lvs_len h2;have e3:=Nat.pow_le_pow_right (show 0 < 2 by decide) (Nat.le_max_left z.dep o.dep);have e4:=Nat.pow_le_pow_right (show 0 < 2 by decide) (Nat.le_max_right z.dep o.dep);rw[ay,T.dep,Nat.pow_succ];omega
   ·cases h
  ·cases h
theorem T.lvs_len'{n:Nat}{t:T}{b:List Nat}{l:List (List Nat×List (Option Int))}(h:t.lvs b=some l)(hn:t.dep < n)(hn':n<=12):l.length<=4096:=by
 have h1:=t.lvs_len h;have h3:=Nat.pow_le_pow_right (show 0 < 2 by decide) (show t.dep<=12 by omega);have h4:2 ^ 12=4096:=by decide
 omega
structure TA where
 name:List Nat
 b:List Nat
 t:T
def Oi(n:Nat)(a:TA):Prop:=a.name≠jJ/\a.b.length<=12/\a.t.dep < n/\n<=12
def dI(n:Nat):RF.Spec:=bM (λa:TA=>[.str a.b,a.t.d a.name]) (Oi n) (λa=>eG a.name (a.t.lvs a.b))
theorem zQ{n:Nat}{name b:List Nat}{t:T}{G:DH}{k:D->DH->Prop}{E:EK}(h1:name≠jJ)(h2:b.length<=12)(h3:t.dep < n)(h4:n<=12)(hk:k (eG name (t.lvs b)) G):(dI n).t [.str b,t.d name] G k E:=bN ⟨name,b,t⟩ rfl ⟨h1,h2,h3,h4⟩ hk
theorem adB(ds:List D)(G:DH)(a:(dI 0).A):¬(dI 0).pre ds G a:=λ⟨_,_,_,_,h,_⟩=>by omega
theorem adC{b:List Nat}{i:Int}(h:iI b i=true):0<=i/\∃n:Nat,i=n/\n < b.length/\b[n]?=some 42:=by
 unfold iI at h;rw[ae]at h;have h1:=dk h.1;have h2:b[i.toNat]?=some 42:=by simpa using h.2
 exact ⟨h1,i.toNat,by omega,(am.mp h2).1,h2⟩
theorem adD (Φ:aa) (n:Nat) (h0:Φ "leaves"=dI n) (h1:Φ "is_named"=aO fY) (h2:Φ "is_place"=aO dH) (h3:Φ "with_sign"=aO gD) (a:TA) (G:DH) (h:Oi (n+1) a):au Φ iw noE (env0 [.str a.b,a.t.d a.name] 3) G (ends λd G'=>G'=G/\d=eG a.name (a.t.lvs a.b)):=by
 obtain ⟨name,b,t⟩:=a;obtain ⟨hne,hbl,hd,hn⟩:=h;dsimp only at hne hbl hd ⊢;cases t with
 |lf r=>
  simp_all_arith[iw];refine seq λM hM=>?_;simp_arith[h1,T.d];refine adz hne ?_;simp_arith[T.lvs,eG,bn,dP,m5];exact ⟨by decide,by decide⟩
 |sp i z o=>
  rw[T.dep]at hd;simp_all_arith[iw];refine seq λM hM=>?_;simp_arith[h1,T.d];refine adA rfl ?_;simp_arith[ends];refine hM _ _ (seq λM hM=>?_);simp_arith[ends];refine hM _ _ (seq λM hM=>?_);simp_arith[h2];refine dj (d:=.bl (isPlace b.length (.int i))) rfl ?_;cases hst:iI b i with
  |false=>
   rw[T.lvs,hst];cases hp:isPlace b.length (.int i) with
   |false=>simp_arith[eG]
   |true=>
    unfold isPlace at hp;rw[ae]at hp;have p1:=dk hp.1;have p2:=dk hp.2;obtain ⟨m,rfl⟩:∃m:Nat,i=m:=⟨i.toNat,by omega⟩;have hm:m < b.length:=by omega
    have hc:b[m]?=some b[m]:=aI hm;have hne42:((b[m]==42):Bool)=false:=by unfold iI at hst;rw[bv (by omega),Bool.true_and,c6,hc]at hst;simpa using hst
    simp_arith[ends];refine bY (a:=b[m]) (bJ hc) ?_;simp_arith[iG,hne42,eG]
  |true=>
   obtain ⟨_,m,rfl,hm,hc⟩:=adC hst;have hp:isPlace b.length (.int (m:Int))=true:=by show (decide (0<=(m:Int))&&decide ((m:Int) < b.length))=true;rw[bv (by omega),bv (by omega)];rfl
   have hl:(T.sp (m:Int) z o).lvs b=match z.lvs (b.set m 48),o.lvs (b.set m 49) with |some l,some m=>some (l++m) |_,_=>none:=by rw[T.lvs,hst,c6]
   rw[hp];simp_arith[ends];refine bY (a:=42) (bJ hc) ?_;simp_arith[BEq.rfl];refine hM _ _ (seq λM hM=>?_);simp_arith[h0,h3];refine uL hm (by omega) (zQ hne (by rw[dS];exact hbl) (by omega) (by omega) (hM _ _ (seq λM hM=>?_)));simp_arith[h0,h3];refine uL hm (by omega) (zQ hne (by rw[dS];exact hbl) (by omega) (by omega) (hM _ _ (seq λM hM=>?_)));cases e1:z.lvs (b.set m 48) with
   |none=>
    rw[e1]at hl;simp_arith[hl,eG]
   |some l1=>
    cases e2:o.lvs (b.set m 49) with
    |none=>
     rw[e1,e2]at hl;simp_arith[hl,eG]
    |some l2=>
     rw[e1,e2]at hl;have q1:=T.lvs_len' e1 (n:=n) (by omega) (by omega);have q2:=T.lvs_len' e2 (n:=n) (by omega) (by omega);simp_arith[eG];refine hM _ _ (last ?_);simp_arith[al,dv,hl,eG];have hsz:sz=1000000:=rfl;omega
theorem adE(o:Option Nat):aP o=oI (o.map λn=>(n:Int)):=by cases o <;> rfl
def jM(rss:List (List Row))(c:List Nat):List (Option Int):=rss.map λrs=>(aR rs c).map λn=>(n:Int)
theorem Oj{rss:List (List Row)}{c:List Nat}:(jM rss c).map oI=rss.map λrs=>aP (aR rs c):=by unfold jM;rw[fv];exact List.map_congr_left λrs _=>(adE _).symm
theorem Lv.tree{name:List Nat}{rss:List (List Row)}{b:List Nat}{d:D}{bs:List (List Nat)}(h:Lv name rss b d bs):∃t:T,d=t.d name/\t.dep<=stc b/\t.lvs b=some (bs.map λc=>(c,jM rss c)):=by
 induction h with
 |leaf b h=>exact ⟨.lf (jM rss b),by rw[T.d,Oj];rfl,eh _,rfl⟩
 |node b n z o l m h _ _ hz ho=>
  obtain ⟨tz,rfl,d1,e1⟩:=hz;obtain ⟨tO,rfl,d2,e2⟩:=ho;have s1:=jK h (show 48≠42 by decide);have s2:=jK h (show 49≠42 by decide);refine ⟨.sp n tz tO,rfl,?_,?_⟩
  ·rw[T.dep];have:=Nat.max_le.mpr ⟨show tz.dep<=stc (b.set n 48) from d1,show tO.dep<=stc (b.set n 48) by omega⟩;omega
  ·have hs:iI b (n:Int)=true:=by unfold iI;rw[bv (by omega),c6,h];rfl
   rw[T.lvs,hs,c6,e1,e2];simp
theorem adF{name:List Nat}{rss:List (List Row)}{c:List Nat}:m5 name (c,jM rss c)=jL name rss c:=by unfold m5 jL mZ;rw[Oj]
theorem Ol{n:Nat}{name:List Nat}{rss:List (List Row)}{b:List Nat}{d:D}{bs:List (List Nat)}{G:DH}{k:D->DH->Prop}{E:EK}(h:Lv name rss b d bs)(h1:name≠jJ)(h2:b.length<=12)(h3:stc b < n)(hk:k (.lst (bs.map (jL name rss))) G)(h4:n<=12:=by decide):(dI n).t [.str b,d] G k E:=by
 obtain ⟨t,rfl,e1,e2⟩:=h.tree;refine zQ h1 h2 (by omega) h4 ?_;rw[e2,eG,fv];have:(m5 name∘λc=>(c,jM rss c))=jL name rss:=by funext c;exact adF
 rw[this];exact hk
def fZ:List Nat->List (List Nat)
 |[]=>[[]]
 |c::f=>(alt c).flatMap λs=>(fZ f).map (s::·)
theorem Om:∀(f:List Nat)(acc:List (List Nat)),f.foldl step1 acc=acc.flatMap λt=>(fZ f).map (t ++ ·)
 |[],acc=>by simp[fZ]
 |c::f,acc=>by
  rw[List.foldl_cons,Om f,step1,List.flatMap_assoc];congr 1;funext t;rw[fZ,List.flatMap_map,List.map_flatMap];congr 1;funext s;rw[fv];congr 1;funext x;simp
theorem Oo(f:List Nat):fU f=fZ f:=by unfold fU;rw[Om];simp
theorem adG{w:Nat}{G:DH}{k:D->DH->Prop}{E:EK}(h:w<=1000)(hk:k (.str (List.replicate w 42)) G):(aO iH).t [.int w] G k E:=
 dj (d:=.str (List.replicate w 42)) (by unfold iH;dsimp only;rw[if_pos (by simp only[ae,bq];omega),c6]) hk
def bB(l:List Nat):List Nat:=l.map λa=>if a=42 then 48 else a
noncomputable def iJ:List D->Option D
 |[.str l]=>if decide (l.length<=1000) then some (.str (bB l)) else none
 |_=>none
theorem Oq{l:List Nat}{G:DH}{k:D->DH->Prop}{E:EK}(h:l.length<=1000)(hk:k (.str (bB l)) G):(aO iJ).t [.str l] G k E:=dj (if_pos (bv h)) hk
theorem adH{b l:List Nat}{n:Nat}(h:Fits b l)(hn:b[n]?=some 42):Fits (b.set n 48) l\/Fits (b.set n 49) l:=by
 obtain ⟨hl,he⟩:=am.mp hn;have hnl:n < l.length:=by rw[<-h.1];exact hl
 have hs:=h.2 n 42 l[n] hn (aI hnl);have put:∀c,l[n]=c->c≠42->Fits (b.set n c) l:=by
  intro c hc hc42;refine ⟨by rw[dS];exact h.1,λi x y hx hy=>?_⟩;rw[List.getElem?_set]at hx;by_cases hi:n=i
  ·subst hi;rw[if_pos rfl,if_pos hl]at hx;rw[aI hnl]at hy;cases hx;cases hy;unfold alt;rw[if_neg hc42,hc];simp
  ·rw[if_neg hi]at hx;exact h.2 i x y hx hy
 unfold alt at hs;rw[if_pos rfl]at hs;have:l[n]=48\/l[n]=49:=by simpa using hs
 rcases this with e |e
 ·exact .inl (put 48 e (by decide))
 ·exact .inr (put 49 e (by decide))
theorem Ot{b l:List Nat}{n c:Nat}(h:Fits (b.set n c) l)(hn:b[n]?=some 42)(hc:c=48\/c=49):Fits b l:=by
 have hl:=(am.mp hn).1;refine ⟨by have:=h.1;rwa [dS]at this,λi x y hx hy=>?_⟩;by_cases hi:n=i
 ·subst hi;rw[hn]at hx;cases hx;have:=h.2 n c y (by rw[List.getElem?_set,if_pos rfl,if_pos hl]) hy;unfold alt at this ⊢;rw[if_neg (by omega)]at this;rw[if_pos rfl];have e:y=c:=by simpa using this
  rw[e];simpa using hc
 ·exact h.2 i x y (by rw[List.getElem?_set,if_neg hi];exact hx) hy
theorem Lv.cover{name:List Nat}{rss:List (List Row)}{b:List Nat}{d:D}{bs:List (List Nat)}(h:Lv name rss b d bs):∀l,Fits b l->∃c∈bs,Fits c l:=by
 induction h with
 |leaf b h=>exact λl hl=>⟨b,by simp,hl⟩
 |node b n z o l m h _ _ hz ho=>
  intro w hw;rcases adH hw h with e |e
  ·obtain ⟨c,hc,hf⟩:=hz w e;exact ⟨c,aS.mpr (.inl hc),hf⟩
  ·obtain ⟨c,hc,hf⟩:=ho w e;exact ⟨c,aS.mpr (.inr hc),hf⟩
theorem Lv.within{name:List Nat}{rss:List (List Row)}{b:List Nat}{d:D}{bs:List (List Nat)}(h:Lv name rss b d bs):∀c∈bs,∀l,Fits c l->Fits b l:=by
 induction h with
 |leaf b h=>intro c hc l hl;rw[a9.mp hc]at hl;exact hl
 |node b n z o l m h _ _ hz ho=>
  intro c hc w hw;rcases aS.mp hc with hc |hc
  ·exact Ot (hz c hc w hw) h (.inl rfl)
  ·exact Ot (ho c hc w hw) h (.inr rfl)
theorem adI{a s:Nat}{f l:List Nat}(h:Fits (a::f) (s::l)):s∈alt a/\Fits f l:=
 ⟨h.2 0 a s rfl rfl,by have:=h.1;simpa using this,λi c t h1 h2=>h.2 (i+1) c t (by simpa using h1) (by simpa using h2)⟩
theorem adJ{a s:Nat}{f l:List Nat}(h1:s∈alt a)(h2:Fits f l):Fits (a::f) (s::l):=⟨by simp[h2.1],λi c t hc ht=>by
 cases i with
 |zero=>simp at hc ht;rw[<-hc,<-ht];exact h1
 |succ i=>exact h2.2 i c t (by simpa using hc) (by simpa using ht)⟩
theorem m6:∀c:List Nat,Fits c (bB c)
 |[]=>⟨rfl,λi c s h=>by simp at h⟩
 |a::c=>by
  show Fits (a::c) ((if a=42 then 48 else a)::bB c);refine adJ ?_ (m6 c);unfold alt;split <;> simp
theorem zR:∀{c l:List Nat},Fits c l->¬l < bB c
 |[],l,h=>by
  have:l=[]:=c8.mp h.1.symm;subst this;exact List.lt_irrefl _
 |a::c,[],h=>by have:=h.1;simp at this
 |a::c,s::l,h=>by
  obtain ⟨h1,h2⟩:=adI h;show ¬(s::l) < ((if a=42 then 48 else a)::bB c);rw[fy];have ih:=zR h2;unfold alt at h1;split at h1
  ·rename_i e;rw[if_pos e];have:s=48\/s=49:=by simpa using h1
   rintro (q |q)
   ·omega
   ·exact ih q.2
  ·rename_i e;rw[if_neg e];have:s=a:=by simpa using h1
   rintro (q |q)
   ·omega
   ·exact ih q.2
theorem zT:∀{x m a:List Nat},x < m->¬a < m->x < a
 |x,[],a,h,_=>absurd h (by simp)
 |x,b::m,[],_,h=>absurd (by simp) h
 |[],b::m,y::a,_,_=>by simp
 |c::x,b::m,y::a,h,g=>by
  rw[fy]at h g ⊢;have g1:¬y < b:=λe=>g (.inl e);rcases h with h |⟨h1,h2⟩
  ·exact .inl (by omega)
  ·by_cases e:y=b
   ·exact .inr ⟨by omega,zT h2 λz=>g (.inr ⟨e,z⟩)⟩
   ·exact .inl (by omega)
theorem zU:∀f:List Nat,(fZ f).Pairwise (· < ·)
 |[]=>by simp[fZ]
 |c::f=>by
  have ih:=zU f;have one:∀s:Nat,((fZ f).map (s::·)).Pairwise (· < ·):=λs=>List.pairwise_map.mpr (ih.imp λh=>fy.mpr (.inr ⟨rfl,h⟩));rw[fZ];unfold alt;split
  ·rw[List.flatMap_cons,List.flatMap_cons,List.flatMap_nil,eW,List.pairwise_append];refine ⟨one 48,one 49,λa ha b hb=>?_⟩;obtain ⟨x,_,rfl⟩:=bX.mp ha;obtain ⟨y,_,rfl⟩:=bX.mp hb;exact fy.mpr (.inl (by decide))
  ·rw[List.flatMap_cons,List.flatMap_nil,eW];exact one c
theorem Ou{u:List (List Nat)}{m:List Nat}(h:u.Pairwise (· < ·))(hm:m∈u)(hl:∀x∈u,¬x < m):u.head?=some m:=by
 cases u with
 |nil=>cases hm
 |cons a u=>
  rcases aT.mp hm with e |hm
  ·rw[e];rfl
  ·exact absurd ((List.pairwise_cons.mp h).1 m hm) (hl a bS)
theorem Ov{ds:List D}{ls:List (List Nat)}{k:D->Prop}(h0:bZ ds=none)(h:bw ds=some ls)(hk:∀m,m∈ls->(∀a,a∈ls->¬a < m)->k (.str m)):opB .min [.lst ds] k:=by show jY [.lst ds] k;unfold jY;dsimp only;rw[h0,h];exact hk
def Ow:List Nat:=[117,110,100,101,114]
def Oz:List Nat:=[119,111,114,100]
def du:List Nat:=[104,105,100,100,101,110]
def cD(rs:List Row)(n:Nat)(f:List Nat):List (List Nat):=(fU f).filter λl=>(bh (rs.take n) l).isNone
def jN:RF.Spec:=bM (λa:Nat×List Row×Nat=>[aq a.1 a.2.1,.int a.2.2]) (λa=>okB a.1 a.2.1/\a.2.2 < a.2.1.length) (λ_=>.non)
theorem uM{w n:Nat}{rs:List Row}{G:DH}{k:D->DH->Prop}{E:EK}(h:okB w rs)(hn:n < rs.length)(hk:k .non G):jN.t [aq w rs,.int n] G k E:=bN (w,rs,n) rfl ⟨h,hn⟩ hk
theorem adK (Φ:aa) (h1:Φ "need_book"=fW) (h2:Φ "is_place"=aO dH) (a:Nat×List Row×Nat) (G:DH) (h:okB a.1 a.2.1/\a.2.2 < a.2.1.length):au Φ lK noE (env0 [aq a.1 a.2.1,.int a.2.2] 0) G (ends λd G'=>G'=G/\d=.non):=by obtain ⟨w,rs,n⟩:=a;obtain ⟨hb,hn⟩:=h;dsimp only at hb hn ⊢;simp_all_arith[lK];refine seq λM hM=>?_;simp_arith[h1];refine iD hb (hM _ _ (last ?_));simp_arith[aq,h2,al];refine adx hn ?_;simp_arith[and_self]
def zV(rs:List Row)(n:Nat)(f:List Nat)(d:D):Prop:=
 (∃m,(cD rs n f).head?=some m/\d=.tup [.str Oz,.str m])\/(cD rs n f=[]/\∃t bs,d=.tup [.str du,t]/\Lv Ow [rs.take n] f t bs/\∀c∈bs,(aR (rs.take n) c).isSome=true)
def uN:RF.Spec:=ghS (A:=Nat×List Row×Nat) (λa ds _=>ds=[aq a.1 a.2.1,.int a.2.2]/\okB a.1 a.2.1/\a.2.2 < a.2.1.length) (λa G d G'=>G'=G/\∃r,a.2.1[a.2.2]?=some r/\zV a.2.1 a.2.2 r.1 d)
theorem adL{w n:Nat}{rs:List Row}{r:Row}{G:DH}{k:D->DH->Prop}{E:EK}(h:okB w rs)(hn:rs[n]?=some r)(hk:∀d,zV rs n r.1 d->k d G):uN.t [aq w rs,.int n] G k E:=
 cP (w,rs,n) ⟨rfl,h,(am.mp hn).1⟩ λd G' hx=>by
  obtain ⟨e,r',er,q⟩:=hx;subst e;have er:rs[n]?=some r':=er;rw[hn]at er;cases er;exact hk d q
theorem adM{l:List D}{n:Nat}:cut l none (some (n:Int))=l.take n:=ur l n
theorem adN (Φ:aa) (h1:Φ "need_row"=jN) (h2:Φ "grown"=eF 9) (h3:Φ "leaves"=dI 9) (h4:Φ "least"=aO iJ) (a:Nat×List Row×Nat) (ds:List D) (G:DH) (h:ds=[aq a.1 a.2.1,.int a.2.2]/\okB a.1 a.2.1/\a.2.2 < a.2.1.length):
  au Φ lL noE (env0 ds 4) G (ends λd G'=>G'=G/\∃r,a.2.1[a.2.2]?=some r/\zV a.2.1 a.2.2 r.1 d):=by
 obtain ⟨w,rs,n⟩:=a;obtain ⟨rfl,hb,hn⟩:=h;dsimp only at hb hn ⊢;have hw6:=hb.w6;have hc:rs[n]?=some rs[n]:=aI hn;have hf:=hb.form rs[n] (cw hn);have hfl:=hf.1;have hrt:∀r∈rs.take n,okF w r.1:=λr hr=>hb.form r (fb hr);simp_all_arith[lL];refine seq λM hM=>?_;simp_arith[h1];refine uM hb hn (hM _ _ (seq λM hM=>?_));simp_arith[aq];refine hM _ _ (seq λM hM=>?_);simp_arith[ends];refine bY (a:=aB rs[n]) (bJ (by rw[bp,hc];rfl)) ?_;simp_arith[aB];refine hM _ _ (seq λM hM=>?_);simp_arith[h2,adM];have er:[D.tup (List.take n (rs.map aB))]=dG [rs.take n]:=by rw[<-List.map_take];rfl
 have hst:stc rs[n].1<=6:=cm List.countP_le_length (by omega);rw[er];refine ⟨by decide,uK (name:=Ow) ⟨by simp,by decide,λrs' hrs' r hr=>by rw[a9.mp hrs']at hr;exact (hrt r hr).1,by omega⟩ hfl (by omega) λt ht=>hM _ _ (seq λM hM=>?_)⟩;obtain ⟨bs,hL⟩:=ht.lv;have hlen:=hL.len' (by omega);simp_arith[h3];refine Ol hL (by decide) (by omega) (by omega) ?_;simp_arith[ends];refine CompG.inv (P:=λi acc ρ G'=>(∃o1 o2,ρ=[o1,o2])/\G'=G/\acc=((bs.take i).filter λc=>(aR (rs.take n) c).isNone).map λc=>D.str (bB c)) ⟨⟨_,_,rfl⟩,rfl,rfl⟩ (λ_ _ _ _ _=>trivial) (by rw[al];have hsz:sz=1000000:=rfl;omega) ?_ ?_
 ·rintro i d acc ρ G' hd ⟨⟨o1,o2,rfl⟩,rfl,rfl⟩ kk hk;rw[bp]at hd;obtain ⟨c,hcb,rfl⟩:=a8.mp hd;have hcl:=(hL.box c (ce hcb)).1;have htk:bs.take (i+1)=bs.take i++[c]:=by rw[ft,hcb];rfl
  simp_arith[jL,mZ,bn,dP];cases htc:aR (rs.take n) c with
  |some j=>
   simp_arith[aP];exact hk _ _ _ ⟨⟨_,_,rfl⟩,rfl,by rw[htk,fi];simp[htc]⟩
  |none=>
   simp_arith[aP,h4];refine Oq (by omega) (hk _ _ _ ⟨⟨_,_,rfl⟩,rfl,by rw[htk,fi];simp[htc]⟩)
 ·rintro acc ρ G' ⟨_,rfl,rfl⟩;rw[al,fE];refine hM _ _ (seq λM hM=>?_);have meet:∀c∈bs,∀l,Fits c l->bh (rs.take n) l=aR (rs.take n) c:=by
   intro c hc l hl;obtain ⟨e1,e2⟩:=hL.box c hc;have okc:=hL.okf hf c hc;exact Oh (λr hr=>by rw[(hrt r hr).1,e1,hfl]) (e2 _ (by simp)) (zP okc hl) hl
  cases hfr:bs.filter λc=>(aR (rs.take n) c).isNone with
  |nil=>
   have hall:∀c∈bs,(aR (rs.take n) c).isSome=true:=by
    intro c hc;have:=ee.mp hfr c hc;cases h:aR (rs.take n) c with
    |none=>rw[h]at this;exact absurd rfl this
    |some _=>rfl
   simp_arith[dP];refine hM _ _ (last ?_);simp_arith[ends];refine ⟨by decide,rs[n],hc,.inr ⟨?_,t,bs,rfl,hL,hall⟩⟩;unfold cD;rw[ee];intro l hl;obtain ⟨c,hc',hfc⟩:=hL.cover l (fV.mp hl);rw[meet c hc' l hfc];have:=hall c hc';cases h:aR (rs.take n) c with
   |none=>rw[h]at this;cases this
   |some _=>simp
  |cons c0 cs=>
   have hne:(!(List.isEmpty (D.str (bB c0)::cs.map λc=>D.str (bB c))))=true:=rfl;simp_arith[bn,hne];rw[<-bn (f:=λc=>D.str (bB c)),<-hfr];have es:bw ((bs.filter λc=>(aR (rs.take n) c).isNone).map λc=>D.str (bB c))=some ((bs.filter λc=>(aR (rs.take n) c).isNone).map bB):=strs_map _ _;have ei:bZ ((bs.filter λc=>(aR (rs.take n) c).isNone).map λc=>D.str (bB c))=none:=by rw[hfr];rfl
   refine Ov ei es λm hm hlow=>?_;obtain ⟨c,hcm,rfl⟩:=bX.mp hm;obtain ⟨hcb,hcn⟩:=de.mp hcm;have htn:aR (rs.take n) c=none:=by simpa using hcn
   refine ⟨by decide,rs[n],hc,.inl ⟨bB c,?_,rfl⟩⟩;refine Ou ?_ ?_ ?_
   ·unfold cD;rw[Oo];exact (zU _).filter _
   ·unfold cD;rw[de];refine ⟨fV.mpr (hL.within c hcb _ (m6 c)),?_⟩;rw[meet c hcb _ (m6 c),htn];rfl
   ·intro x hx hlt;unfold cD at hx;obtain ⟨hx1,hx2⟩:=de.mp hx;obtain ⟨c',hc',hfc⟩:=hL.cover x (fV.mp hx1);rw[meet c' hc' x hfc]at hx2;have hlow':=hlow (bB c') (bX.mpr ⟨c',de.mpr ⟨hc',hx2⟩,rfl⟩);exact zR hfc (zT hlt hlow')
def nI(n:Nat):D:=.int (n:Int)
noncomputable def fj(rs:List Row):List Nat:=(List.range rs.length).filter λn=>match rs[n]? with |some r=>(cD rs n r.1).isEmpty |none=>false
theorem adO{rs:List Row}{i:Nat}{r:Row}(h:rs[i]?=some r):((List.range (i+1)).filter λn=>match rs[n]? with |some r=>(cD rs n r.1).isEmpty |none=>false)=((List.range i).filter λn=>match rs[n]? with |some r=>(cD rs n r.1).isEmpty |none=>false)++(if (cD rs i r.1).isEmpty then [i] else []):=by rw[List.range_succ,fi];congr 1;rw[List.filter_cons,h];cases hf:(cD rs i r.1).isEmpty <;> simp only[hf] <;> rfl
def jO:RF.Spec:=ghS (A:=Nat×List Row) (λa ds _=>ds=[aq a.1 a.2]/\okB a.1 a.2) (λa G d G'=>∃q,d=.ref q/\G q=none/\G' q=some (.lst ((fj a.2).map nI))/\Sa G G')
theorem adP{w:Nat}{rs:List Row}{G:DH}{k:D->DH->Prop}{E:EK}(h:okB w rs)(hk:∀q G',G q=none->G' q=some (.lst ((fj rs).map nI))->Sa G G'->k (.ref q) G'):jO.t [aq w rs] G k E:=
 cP (w,rs) ⟨rfl,h⟩ λd G' ⟨q,e1,e2,e3,e4⟩=>by subst e1;exact hk q G' e2 e3 e4
theorem adQ (Φ:aa) (h1:Φ "need_book"=fW) (h2:Φ "reach"=uN) (a:Nat×List Row) (ds:List D) (G:DH) (h:ds=[aq a.1 a.2]/\okB a.1 a.2):
  au Φ lM noE (env0 ds 0) G (ends λd G'=>∃q,d=.ref q/\G q=none/\G' q=some (.lst ((fj a.2).map nI))/\Sa G G'):=by
 obtain ⟨w,rs⟩:=a;obtain ⟨rfl,hb⟩:=h;dsimp only at hb ⊢;have hlen:=hb.len;simp_all_arith[lM];refine seq λM hM=>?_;simp_arith[h1];refine iD hb (hM _ _ (last ?_));have e0:aq w rs=.tup [.int w,.tup (rs.map aB)]:=rfl;simp_arith[e0,al];refine ⟨by omega,CompG.inv (P:=λi acc ρ G'=>(∃o,ρ=[o,some (.tup [.int w,.tup (rs.map aB)])])/\G'=G/\acc=((List.range i).filter λn=>match rs[n]? with |some r=>(cD rs n r.1).isEmpty |none=>false).map nI) ⟨⟨_,rfl⟩,rfl,rfl⟩ (λ_ _ _ _ _=>trivial) (by simp[bC];have hsz:sz=1000000:=rfl;omega) ?_ ?_⟩
 ·rintro i d acc ρ G' hd ⟨⟨o,rfl⟩,rfl,rfl⟩ kk hk;have hi:i < rs.length:=by
   have:=(am.mp hd).1;simpa [bC] using this
  have hdi:d=.int (i:Int):=by unfold bC at hd;rw[bp,List.getElem?_range (by simpa using hi)]at hd;simpa using hd.symm
  subst hdi;have hc:rs[i]?=some rs[i]:=aI hi;have ht:=adO hc;simp_arith[h2];rw[<-e0];refine adL hb hc λd' hq=>?_;rcases hq with ⟨m,hm,rfl⟩ |⟨hn,t,bs,rfl,hL,hall⟩
  ·have hne:(cD rs i rs[i].1).isEmpty=false:=by
    cases h:cD rs i rs[i].1 with
    |nil=>rw[h]at hm;cases hm
    |cons _ _=>rfl
   have eb:(([119,111,114,100]==[104,105,100,100,101,110]):Bool)=false:=by decide
   simp_arith[Oz,eb];exact hk _ _ _ ⟨⟨_,rfl⟩,rfl,by rw[ht,hne];simp[nI]⟩
  ·have hne:(cD rs i rs[i].1).isEmpty=true:=by rw[hn];rfl
   simp_arith[du,BEq.rfl];exact hk _ _ _ ⟨⟨_,rfl⟩,rfl,by rw[ht,hne];simp[nI]⟩
 ·rintro acc ρ G' ⟨_,rfl,rfl⟩;intro q hq;exact ⟨q,rfl,hq,by rw[aV];simp[bC,fj],Sa.new hq⟩
theorem adR(l:List Nat):nrs (l.map nI)=true:=yF λd hd=>by obtain ⟨_,_,rfl⟩:=bX.mp hd;rfl
theorem adS(l:List Nat):aQ (l.map nI)=0:=Nat.le_zero.mp (yG λd hd=>by obtain ⟨_,_,rfl⟩:=bX.mp hd;exact aw _)
def zW:List Nat:=[115,97,109,101]
def uO:List Nat:=[112,97,114,116,101,100]
def uP:List Nat:=[97,108,105,107,101]
def m7:RF.Spec:=bM (λa:Nat×List Row×List Row=>[aq a.1 a.2.1,aq a.1 a.2.2]) (λa=>okB a.1 a.2.1/\okB a.1 a.2.2) (λ_=>.non)
theorem OD{w:Nat}{rs ss:List Row}{G:DH}{k:D->DH->Prop}{E:EK}(h:okB w rs)(h':okB w ss)(hk:k .non G):m7.t [aq w rs,aq w ss] G k E:=bN (w,rs,ss) rfl ⟨h,h'⟩ hk
theorem adT (Φ:aa) (h1:Φ "need_book"=fW) (a:Nat×List Row×List Row) (G:DH) (h:okB a.1 a.2.1/\okB a.1 a.2.2):au Φ lN noE (env0 [aq a.1 a.2.1,aq a.1 a.2.2] 0) G (ends λd G'=>G'=G/\d=.non):=by obtain ⟨w,rs,ss⟩:=a;obtain ⟨hb,hc⟩:=h;dsimp only at hb hc ⊢;simp_all_arith[lN];refine seq λM hM=>?_;simp_arith[h1];refine iD hb (hM _ _ (seq λM hM=>?_));simp_arith[h1];refine iD hc (hM _ _ (last ?_));simp_arith[aq,BEq.rfl,and_self]
def bO(rs:List Row)(o:Option Nat):Option (List Nat):=o.bind λn=>rs[n]?.map (·.2)
theorem uQ{rs:List Row}{o:Option Nat}:fX rs o=bA (bO rs o):=by
 cases o with
 |none=>rfl
 |some n=>
  unfold fX bO;dsimp only[Option.bind];cases rs[n]? <;> rfl
structure SD where
 w:Nat
 rs:List Row
 ss:List Row
 name:List Nat
 o:Option Nat
 p:Option Nat
def sSD:RF.Spec:=bM (λa:SD=>[aq a.w a.rs,aq a.w a.ss,.tup [.str a.name,aP a.o,aP a.p]]) (λa=>(∀n,a.o=some n->n < a.rs.length)/\∀n,a.p=some n->n < a.ss.length) (λa=>.bl (bO a.rs a.o==bO a.ss a.p))
theorem adU{w:Nat}{rs ss:List Row}{name:List Nat}{o p:Option Nat}{G:DH}{k:D->DH->Prop}{E:EK}(h1:∀n,o=some n->n < rs.length)(h2:∀n,p=some n->n < ss.length)(hk:k (.bl (bO rs o==bO ss p)) G):sSD.t [aq w rs,aq w ss,.tup [.str name,aP o,aP p]] G k E:=bN ⟨w,rs,ss,name,o,p⟩ rfl ⟨h1,h2⟩ hk
theorem adV (Φ:aa) (h1:Φ "deed_of"=mW) (a:SD) (G:DH) (h:(∀n,a.o=some n->n < a.rs.length)/\∀n,a.p=some n->n < a.ss.length):au Φ lO noE (env0 [aq a.w a.rs,aq a.w a.ss,.tup [.str a.name,aP a.o,aP a.p]] 0) G (ends λd G'=>G'=G/\d=.bl (bO a.rs a.o==bO a.ss a.p)):=by obtain ⟨w,rs,ss,name,o,p⟩:=a;obtain ⟨ho,hp⟩:=h;dsimp only at ho hp ⊢;simp_arith[lO,h1];refine zK ho (zK hp ?_);rw[uQ,uQ];cases bO rs o <;> cases bO ss p <;> simp_arith[bA] <;> first |done | (simp;done) | (refine ⟨by decide,?_⟩;simp;done)
noncomputable def bj(w:Nat)(rs ss:List Row):List (List Nat):=(fU (List.replicate w 42)).filter λl=>!(bO rs (bh rs l)==bO ss (bh ss l))
def dJ(rs ss:List Row)(c:List Nat):Bool:=bO rs (aR rs c)==bO ss (aR ss c)
def zX(w:Nat)(rs ss:List Row)(d:D):Prop:=
 (∃m,(bj w rs ss).head?=some m/\d=.tup [.str uO,.str m])\/(bj w rs ss=[]/\∃t bs,d=.tup [.str uP,t]/\Lv zW [rs,ss] (List.replicate w 42) t bs/\∀c∈bs,dJ rs ss c=true)
def jP:RF.Spec:=ghS (A:=Nat×List Row×List Row) (λa ds _=>ds=[aq a.1 a.2.1,aq a.1 a.2.2]/\okB a.1 a.2.1/\okB a.1 a.2.2) (λa G d G'=>G'=G/\zX a.1 a.2.1 a.2.2 d)
theorem zY{w:Nat}{rs ss:List Row}{G:DH}{k:D->DH->Prop}{E:EK}(h:okB w rs)(h':okB w ss)(hk:∀d,zX w rs ss d->k d G):jP.t [aq w rs,aq w ss] G k E:=
 cP (w,rs,ss) ⟨rfl,h,h'⟩ λd G' hx=>by
  obtain ⟨e,q⟩:=hx;subst e;exact hk d q
theorem adW (Φ:aa) (h1:Φ "need_two_books"=m7) (h2:Φ "grown"=eF 9) (h3:Φ "leaves"=dI 9) (h4:Φ "least"=aO iJ) (h5:Φ "stars"=aO iH) (h6:Φ "same_deeds"=sSD) (a:Nat×List Row×List Row) (ds:List D) (G:DH) (h:ds=[aq a.1 a.2.1,aq a.1 a.2.2]/\okB a.1 a.2.1/\okB a.1 a.2.2):
  au Φ lR noE (env0 ds 3) G (ends λd G'=>G'=G/\zX a.1 a.2.1 a.2.2 d):=by
 obtain ⟨w,rs,ss⟩:=a;obtain ⟨rfl,hb,hb'⟩:=h;dsimp only at hb hb' ⊢;have hw6:=hb.w6;have hst:=adv w;have hrl:∀r∈rs,r.1.length=w:=λr hr=>(hb.form r hr).1;have hsl:∀r∈ss,r.1.length=w:=λr hr=>(hb'.form r hr).1;have e0:∀xs:List Row,D.tup [.int w,.tup (xs.map aB)]=aq w xs:=λ_=>rfl;simp_all_arith[lR];refine seq λM hM=>?_;simp_arith[h1];refine OD hb hb' (hM _ _ (seq λM hM=>?_));simp_arith[aq,h5];refine adG (by omega) (hM _ _ (seq λM hM=>?_));simp_arith[h2];have er:[D.tup (rs.map aB),.tup (ss.map aB)]=dG [rs,ss]:=rfl;rw[er];refine ⟨by decide,uK (name:=zW) ⟨by simp,by decide,λxs hxs r hr=>?_,by omega⟩ ca (by omega) λt ht=>hM _ _ (seq λM hM=>?_)⟩
 ·rcases aT.mp hxs with e |hxs
  ·rw[e]at hr;exact hrl r hr
  ·rw[a9.mp hxs]at hr;exact hsl r hr
 obtain ⟨bs,hL⟩:=ht.lv;have hlen:=hL.len' (by rw[ca];omega);simp_arith[h3];refine Ol hL (by decide) (by rw[ca];omega) (by omega) ?_;simp_arith[ends];refine CompG.inv (P:=λi acc ρ G'=>(∃o1 o2,ρ=[o1,o2,some (.tup [.int w,.tup (rs.map aB)]),some (.tup [.int w,.tup (ss.map aB)])])/\G'=G/\acc=((bs.take i).filter λc=>!dJ rs ss c).map λc=>D.str (bB c)) ⟨⟨_,_,rfl⟩,rfl,rfl⟩ (λ_ _ _ _ _=>trivial) (by rw[al];have hsz:sz=1000000:=rfl;omega) ?_ ?_
 ·rintro i d acc ρ G' hd ⟨⟨o1,o2,rfl⟩,rfl,rfl⟩ kk hk;rw[bp]at hd;obtain ⟨c,hcb,rfl⟩:=a8.mp hd;have hcl:=(hL.box c (ce hcb)).1;rw[ca]at hcl;have htk:bs.take (i+1)=bs.take i++[c]:=by rw[ft,hcb];rfl
  simp_arith[jL,mZ,bn,dP,h6];rw[e0,e0];refine adU (λn hn=>uJ hn) (λn hn=>uJ hn) ?_;have es:(bO rs (aR rs c)==bO ss (aR ss c))=dJ rs ss c:=rfl;rw[es];cases hsb:dJ rs ss c with
  |true=>
   simp_arith[ends];exact hk _ _ _ ⟨⟨_,_,rfl⟩,rfl,by rw[htk,fi];simp[hsb]⟩
  |false=>
   simp_arith[h4];refine Oq (by omega) (hk _ _ _ ⟨⟨_,_,rfl⟩,rfl,by rw[htk,fi];simp[hsb]⟩)
 ·rintro acc ρ G' ⟨_,rfl,rfl⟩;rw[al,fE];refine hM _ _ (seq λM hM=>?_);have meet:∀xs∈[rs,ss],∀c∈bs,∀l,Fits c l->bh xs l=aR xs c:=by
   intro xs hxs c hc l hl;obtain ⟨e1,e2⟩:=hL.box c hc;rw[ca]at e1;have okc:=hL.okf (ac5 w) c hc;refine Oh (λr hr=>?_) (e2 _ hxs) (zP okc hl) hl;rcases aT.mp hxs with e |hxs
   ·rw[e]at hr;rw[hrl r hr,e1]
   ·rw[a9.mp hxs]at hr;rw[hsl r hr,e1]
  have both:∀c∈bs,∀l,Fits c l->(bO rs (bh rs l)==bO ss (bh ss l))=dJ rs ss c:=by intro c hc l hl;rw[meet rs (by simp) c hc l hl,meet ss (by simp) c hc l hl];rfl
  cases hfr:bs.filter λc=>!dJ rs ss c with
  |nil=>
   have hall:∀c∈bs,dJ rs ss c=true:=by
    intro c hc;have:=ee.mp hfr c hc;cases h:dJ rs ss c with
    |false=>rw[h]at this;exact absurd rfl this
    |true=>rfl
   simp_arith[dP];refine hM _ _ (last ?_);simp_arith[ends];refine ⟨by decide,.inr ⟨?_,t,bs,rfl,hL,hall⟩⟩;unfold bj;rw[ee];intro l hl;obtain ⟨c,hc',hfc⟩:=hL.cover l (fV.mp hl);rw[both c hc' l hfc,hall c hc'];simp
  |cons c0 cs=>
   have hne:(!(List.isEmpty (D.str (bB c0)::cs.map λc=>D.str (bB c))))=true:=rfl;simp_arith[bn,hne];rw[<-bn (f:=λc=>D.str (bB c)),<-hfr];have es:bw ((bs.filter λc=>!dJ rs ss c).map λc=>D.str (bB c))=some ((bs.filter λc=>!dJ rs ss c).map bB):=strs_map _ _;have ei:bZ ((bs.filter λc=>!dJ rs ss c).map λc=>D.str (bB c))=none:=by rw[hfr];rfl
   refine Ov ei es λm hm hlow=>?_;obtain ⟨c,hcm,rfl⟩:=bX.mp hm;obtain ⟨hcb,hcn⟩:=de.mp hcm;refine ⟨by decide,.inl ⟨bB c,?_,rfl⟩⟩;refine Ou ?_ ?_ ?_
   ·unfold bj;rw[Oo];exact (zU _).filter _
   ·unfold bj;rw[de];refine ⟨fV.mpr (hL.within c hcb _ (m6 c)),?_⟩;rw[both c hcb _ (m6 c)];exact hcn
   ·intro x hx hlt;unfold bj at hx;obtain ⟨hx1,hx2⟩:=de.mp hx;obtain ⟨c',hc',hfc⟩:=hL.cover x (fV.mp hx1);rw[both c' hc' x hfc]at hx2;have hlow':=hlow (bB c') (bX.mpr ⟨c',de.mpr ⟨hc',hx2⟩,rfl⟩);exact zR hfc (zT hlt hlow')
def wo(rs:List Row)(n:Nat):List Row:=rs.take n++rs.drop (n+1)
theorem uR{rs:List Row}{n:Nat}(hn:n < rs.length):(wo rs n).length+1=rs.length:=by unfold wo;rw[ay,b6,ci];omega
theorem jQ{w n:Nat}{rs:List Row}(hb:okB w rs)(hn:n < rs.length):okB w (wo rs n):=hb.sub (by have:=uR hn;omega) λr hr=>by
 rcases aS.mp hr with h |h
 ·exact fb h
 ·exact List.mem_of_mem_drop h
def sWo:RF.Spec:=bM (λa:Nat×List Row×Nat=>[aq a.1 a.2.1,.int a.2.2]) (λa=>okB a.1 a.2.1/\a.2.2 < a.2.1.length) (λa=>aq a.1 (wo a.2.1 a.2.2))
theorem uT{w n:Nat}{rs:List Row}{G:DH}{k:D->DH->Prop}{E:EK}(h:okB w rs)(hn:n < rs.length)(hk:k (aq w (wo rs n)) G):sWo.t [aq w rs,.int n] G k E:=bN (w,rs,n) rfl ⟨h,hn⟩ hk
theorem adX{α β:Type}(f:α->β)(l:List α)(n:Nat):cut (l.map f) (some ((n:Int)+1)) none=(l.drop (n+1)).map f:=zL f l (n+1)
theorem adY (Φ:aa) (h1:Φ "need_row"=jN) (a:Nat×List Row×Nat) (G:DH) (h:okB a.1 a.2.1/\a.2.2 < a.2.1.length):au Φ lV noE (env0 [aq a.1 a.2.1,.int a.2.2] 2) G (ends λd G'=>G'=G/\d=aq a.1 (wo a.2.1 a.2.2)):=by obtain ⟨w,rs,n⟩:=a;obtain ⟨hb,hn⟩:=h;dsimp only at hb hn ⊢;have hlen:=hb.len;simp_all_arith[lV];refine seq λM hM=>?_;simp_arith[h1];refine uM hb hn (hM _ _ (seq λM hM=>?_));simp_arith[aq];refine hM _ _ (last ?_);simp_arith[uH,adX,al,b6,ci];refine ⟨by have hsz:sz=1000000:=rfl;omega,by decide,?_⟩;unfold wo aq;rw[dv]
theorem OJ{n:Nat}:∀l:List Nat,isIn (.int (n:Int)) (l.map nI)=l.contains n
 |[]=>rfl
 |a::l=>by
  have ih:=OJ (n:=n) l;unfold isIn at ih ⊢;rw[bn,List.any_cons,ih,List.contains_cons];congr 1;show (((a:Int)==(n:Int)):Bool)=(n==a);rw[e7,av,av];omega
theorem adZ{n:Nat}{rs:List Row}{r:Row}(h:rs[n]?=some r):(fj rs).contains n=(cD rs n r.1).isEmpty:=by have hn:=(am.mp h).1;rw[e7,a7];unfold fj;rw[de,h];simp[hn]
def ndT:List Nat:=[110,101,101,100,108,101,115,115]
def zZ:List Nat:=[110,101,101,100,101,100]
def ndQ(w n:Nat)(rs:List Row)(d:D):Prop:=
 (∃m,(bj w rs (wo rs n)).head?=some m/\d=.tup [.str zZ,.str m])\/(bj w rs (wo rs n)=[]/\∃t bs,d=.tup [.str ndT,t]/\Lv zW [rs,wo rs n] (List.replicate w 42) t bs/\∀c∈bs,dJ rs (wo rs n) c=true)
def uU:RF.Spec:=ghS (A:=Nat×List Row×Nat) (λa ds _=>ds=[aq a.1 a.2.1,.int a.2.2]/\okB a.1 a.2.1/\a.2.2 < a.2.1.length) (λa G d G'=>G'=G/\ndQ a.1 a.2.2 a.2.1 d)
theorem ad0{w n:Nat}{rs:List Row}{G:DH}{k:D->DH->Prop}{E:EK}(h:okB w rs)(hn:n < rs.length)(hk:∀d,ndQ w n rs d->k d G):uU.t [aq w rs,.int n] G k E:=
 cP (w,rs,n) ⟨rfl,h,hn⟩ λd G' hx=>by
  obtain ⟨e,q⟩:=hx;subst e;exact hk d q
theorem ad1 (Φ:aa) (h1:Φ "alike"=jP) (h2:Φ "without"=sWo) (a:Nat×List Row×Nat) (ds:List D) (G:DH) (h:ds=[aq a.1 a.2.1,.int a.2.2]/\okB a.1 a.2.1/\a.2.2 < a.2.1.length):au Φ mz noE (env0 ds 2) G (ends λd G'=>G'=G/\ndQ a.1 a.2.2 a.2.1 d):=by
 obtain ⟨w,rs,n⟩:=a;obtain ⟨rfl,hb,hn⟩:=h;dsimp only at hb hn ⊢;simp_all_arith[mz];refine seq λM hM=>?_;simp_arith[h1,h2];refine uT hb hn (zY hb (jQ hb hn) λd hq=>?_);rcases hq with ⟨m,hm,rfl⟩ |⟨hnil,t,bs,rfl,hL,hall⟩
 ·have eb:(([112,97,114,116,101,100]==[97,108,105,107,101]):Bool)=false:=by decide
  simp_arith[uO];refine hM _ _ (last ?_);simp_arith[eb];exact ⟨by decide,.inl ⟨m,hm,rfl⟩⟩
 ·simp_arith[uP];refine hM _ _ (last ?_);simp_arith[BEq.rfl];exact ⟨by decide,.inr ⟨hnil,t,bs,rfl,hL,hall⟩⟩
def m8:RF.Spec:=bM (λa:Nat×List Row×List Row=>[aq a.1 a.2.1,aq a.1 a.2.2]) (λa=>okB a.1 a.2.1/\okB a.1 a.2.2) (λa=>bA (bj a.1 a.2.1 a.2.2).head?)
theorem O1{w:Nat}{rs ss:List Row}{G:DH}{k:D->DH->Prop}{E:EK}(h:okB w rs)(h':okB w ss)(hk:k (bA (bj w rs ss).head?) G):m8.t [aq w rs,aq w ss] G k E:=bN (w,rs,ss) rfl ⟨h,h'⟩ hk
theorem ad2 (Φ:aa) (h1:Φ "alike"=jP) (a:Nat×List Row×List Row) (G:DH) (h:okB a.1 a.2.1/\okB a.1 a.2.2):au Φ lU noE (env0 [aq a.1 a.2.1,aq a.1 a.2.2] 2) G (ends λd G'=>G'=G/\d=bA (bj a.1 a.2.1 a.2.2).head?):=by
 obtain ⟨w,rs,ss⟩:=a;obtain ⟨hb,hb'⟩:=h;dsimp only at hb hb' ⊢;have eb:(([97,108,105,107,101]==[112,97,114,116,101,100]):Bool)=false:=by decide
 simp_all_arith[lU];refine seq λM hM=>?_;simp_arith[h1];refine zY hb hb' λd hq=>?_;rcases hq with ⟨m,hm,rfl⟩ |⟨hnil,t,bs,rfl,_,_⟩
 ·simp_arith[uO];refine hM _ _ (last ?_);simp_arith[BEq.rfl,hm,bA,and_self]
 ·simp_arith[uP];refine hM _ _ (last ?_);simp_arith[eb,hnil,List.head?_nil,bA,and_self]
noncomputable def swp(rs:List Row)(n:Nat):List Row:=rs.take n++[rs.getD (n+1) ([],[]),rs.getD n ([],[])]++rs.drop (n+2)
theorem ad3{w n:Nat}{rs:List Row}(hb:okB w rs)(hn:n+1 < rs.length):okB w (swp rs n):=by
 refine hb.sub ?_ λr hr=>?_
 ·unfold swp;rw[ay,ay,b6,ci];simp only[cb,List.length_nil];have:=hb.len;omega
 ·unfold swp at hr;rcases aS.mp hr with h |h
  ·rcases aS.mp h with h |h
   ·exact fb h
   ·simp only[aT,List.not_mem_nil,or_false]at h;rcases h with e |e
    ·rw[e,dc,aI hn];exact cw hn
    ·rw[e,dc,aI (by omega)];exact cw _
  ·exact List.mem_of_mem_drop h
theorem ad4{α:Type}(l:List α)(n:Nat):cut l (some ((n:Int)+2)) none=l.drop (n+2):=yE l (n+2)
theorem uV{rs:List Row}{n:Nat}(h:n < rs.length):(rs.map aB)[n]?=some (aB (rs.getD n ([],[]))):=by rw[bp,dc,aI h];rfl
theorem ad5{rs:List Row}{n:Nat}:(rs.take n).map aB++[aB (rs.getD (n+1) ([],[])),aB (rs.getD n ([],[]))]++(rs.drop (n+2)).map aB=(swp rs n).map aB:=by unfold swp;rw[dv,dv];rfl
def sEx:RF.Spec:=bM (λa:List Row×Nat=>[.tup (a.1.map aB),.int (a.2:Nat)]) (λa=>a.2+1 < a.1.length/\a.1.length<=12) (λa=>.tup ((swp a.1 a.2).map aB))
theorem ad6{rs:List Row}{n:Nat}{G:DH}{k:D->DH->Prop}{E:EK}(h1:n+1 < rs.length)(h2:rs.length<=12)(hk:k (.tup ((swp rs n).map aB)) G):sEx.t [.tup (rs.map aB),.int (n:Nat)] G k E:=bN (rs,n) rfl ⟨h1,h2⟩ hk
theorem ad7(Φ:aa)(a:List Row×Nat)(G:DH)(h:a.2+1 < a.1.length/\a.1.length<=12):au Φ lW noE (env0 [.tup (a.1.map aB),.int (a.2:Nat)] 0) G (ends λd G'=>G'=G/\d=.tup ((swp a.1 a.2).map aB)):=by obtain ⟨rs,n⟩:=a;obtain ⟨h1,h2⟩:=h;dsimp only at h1 h2 ⊢;simp_all_arith[lW];refine last ?_;simp_arith[uH,ad4,<-List.map_drop,al];refine bY (a:=aB (rs.getD (n+1) ([],[]))) (bJ (j:=n+1) (uV h1)) (bY (a:=aB (rs.getD n ([],[]))) (bJ (uV (by omega))) ?_);exact ⟨by decide,by rw[b6];have hsz:sz=1000000:=rfl;omega,by simp only[ay,al,b6,ci,cb,List.length_nil];have hsz:sz=1000000:=rfl;omega,by rw[ad5]⟩
def oS (q:Addr):D:=.obj "Sieve" "books" q
def stk(w:Nat)(bs:List (List Row)):List D:=bs.map (aq w)
theorem O2(w:Nat)(as:List (List Row))(rs:List Row):stk w (as++[rs])=stk w as++[aq w rs]:=by unfold stk;rw[dv];rfl
theorem ad8(w:Nat)(bs:List (List Row)):(stk w bs).length=bs.length:=al _
structure Sv where
 q:Addr
 w:Nat
 as:List (List Row)
 rs:List Row
def svG(a:Sv)(G:DH):Prop:=G a.q=some (.lst (stk a.w (a.as++[a.rs])))/\a.as.length < 1000/\okB a.w a.rs
def eH:RF.Spec:=ghS (A:=Sv) (λa ds G=>ds=[oS a.q]/\svG a G) (λa G d G'=>G'=G/\d=aq a.w a.rs)
theorem cR{q:Addr}{w:Nat}{as:List (List Row)}{rs:List Row}{G:DH}{k:D->DH->Prop}{E:EK}(h:svG ⟨q,w,as,rs⟩ G)(hk:k (aq w rs) G):eH.t [oS q] G k E:=cP (⟨q,w,as,rs⟩:Sv) ⟨rfl,h⟩ λd G' hx=>by
 obtain ⟨rfl,rfl⟩:=hx;exact hk
theorem ad9(Φ:aa)(a:Sv)(ds:List D)(G:DH)(h:ds=[oS a.q]/\svG a G):au Φ mC noE (env0 ds 0) G (ends λd G'=>G'=G/\d=aq a.w a.rs):=by obtain ⟨q,w,as,rs⟩:=a;obtain ⟨rfl,g,hl,hb⟩:=h;dsimp only at g hl hb ⊢;rw[O2]at g;simp_arith[mC,oS,jh,b7 g,vM,and_self,true_and]
def tld(w:Nat)(rs ss:List Row):D:=bA (bj w rs ss).head?
def O3(a:Sv×List Row)(ds:List D)(G:DH):Prop:=ds=[oS a.1.q,.tup (a.2.map aB)]/\svG a.1 G/\a.1.as.length < 100/\okB a.1.w a.2
def O4(a:Sv×List Row)(G:DH)(d:D)(G':DH):Prop:=G'=aD G a.1.q (.lst (stk a.1.w (a.1.as++[a.1.rs]++[a.2])))/\d=tld a.1.w a.1.rs a.2
def jR:RF.Spec:=ghS (A:=Sv×List Row) O3 O4
theorem z6{q:Addr}{w:Nat}{as:List (List Row)}{rs ss:List Row}{G:DH}{k:D->DH->Prop}{E:EK}(h:svG ⟨q,w,as,rs⟩ G)(h1:as.length < 100)(h2:okB w ss)(hk:k (tld w rs ss) (aD G q (.lst (stk w (as++[rs]++[ss]))))):jR.t [oS q,.tup (ss.map aB)] G k E:=cP ((⟨q,w,as,rs⟩,ss):Sv×List Row) ⟨rfl,h,h1,h2⟩ λd G' hx=>by
 obtain ⟨rfl,rfl⟩:=hx;exact hk
theorem aea:(Str.ofString "book"==Str.ofString "books")=false:=by decide +kernel
theorem aeb:(Str.ofString "turn"==Str.ofString "books")=false:=by decide +kernel
theorem cT {q:Addr}:fH "Sieve" "book" (.obj "Sieve" "books" q):=⟨rfl,aea⟩
theorem z7 {q:Addr}:fH "Sieve" "turn" (.obj "Sieve" "books" q):=⟨rfl,aeb⟩
theorem aec (Φ:aa) (h1:Φ "Sieve.book"=eH) (h2:Φ "parting_word"=m8) (a:Sv×List Row) (ds:List D) (G:DH) (h:O3 a ds G):au Φ mD noE (env0 ds 1) G (ends (O4 a G)):=by obtain ⟨⟨q,w,as,rs⟩,ss⟩:=a;obtain ⟨rfl,hv,h100,hss⟩:=h;have hv':=hv;obtain ⟨g,hl,hb⟩:=hv';dsimp only at g hl hb h100 hss ⊢;simp_all_arith[mD];refine seq λM hM=>?_;simp_arith[oS,h1];refine ⟨cT,cR hv (hM _ _ (seq λM hM=>?_))⟩;simp_arith[jh,aq,dD g,true_and,ad8];have e0:∀xs:List Row,D.tup [.int w,.tup (xs.map aB)]=aq w xs:=λ_=>rfl;refine ⟨by decide,by rw[ay,eK];have hsz:sz=1000000:=rfl;omega,hM _ _ (last ?_)⟩;rw[e0,e0,<-O2];have hv2:svG ⟨q,w,as++[rs],ss⟩ (aD G q (.lst (stk w (as++[rs]++[ss])))):=⟨aV,by rw[ay,eK];show as.length+1 < 1000;omega,hss⟩;simp_arith[h1,h2];refine ⟨cT,cR hv2 (O1 hb hss ?_)⟩;exact ⟨rfl,rfl⟩
def bD(rs:List Row)(n:Nat)(r:Row):List Row:=rs.take n++[r]++rs.drop n
theorem jT{w n:Nat}{rs:List Row}{r:Row}(hb:okB w rs)(hl:rs.length < 12)(hf:okF w r.1)(hd:okD r.2):okB w (bD rs n r):=by
 have hm:∀x∈bD rs n r,x∈rs\/x=r:=λx hx=>by
  unfold bD at hx;rcases aS.mp hx with h |h
  ·rcases aS.mp h with h |h
   ·exact .inl (fb h)
   ·exact .inr (a9.mp h)
  ·exact .inl (List.mem_of_mem_drop h)
 refine ⟨hb.w1,hb.w6,?_,λx hx=>?_,λx hx=>?_⟩
 ·unfold bD;rw[ay,ay,b6,ci,eK];omega
 ·rcases hm x hx with h |rfl
  ·exact hb.form x h
  ·exact hf
 ·rcases hm x hx with h |rfl
  ·exact hb.deed x h
  ·exact hd
def mvR(rs:List Row)(n p:Nat):List Row:=bD (wo rs n) p (rs.getD n ([],[]))
theorem getD_mem{rs:List Row}{n:Nat}(hn:n < rs.length):rs.getD n ([],[])∈rs:=by rw[dc,aI hn];exact cw hn
theorem O5{w n p:Nat}{rs:List Row}(hb:okB w rs)(hn:n < rs.length):okB w (mvR rs n p):=
 jT (jQ hb hn) (by have:=uR hn;have:=hb.len;omega) (hb.form _ (getD_mem hn)) (hb.deed _ (getD_mem hn))
structure Chg where
 s:Sv
 ss:List Row
def jU(a:Chg)(G:DH)(d:D)(G':DH):Prop:=G'=aD G a.s.q (.lst (stk a.s.w (a.s.as++[a.s.rs]++[a.ss])))/\d=tld a.s.w a.s.rs a.ss
structure PutS where
 s:Sv
 n:Nat
 r:Row
def PutS.c(a:PutS):Chg:=⟨a.s,bD a.s.rs a.n a.r⟩
def O6(a:PutS)(ds:List D)(G:DH):Prop:=ds=[oS a.s.q,.int (a.n:Nat),.str a.r.1,.str a.r.2]/\svG a.s G/\a.s.as.length < 50/\a.n<=a.s.rs.length/\a.s.rs.length < 12/\okF a.s.w a.r.1/\okD a.r.2
def m9:RF.Spec:=ghS (A:=PutS) O6 (λa=>jU a.c)
theorem aed (Φ:aa) (h1:Φ "Sieve.book"=eH) (h2:Φ "Sieve.turn"=jR) (h3:Φ "is_place"=aO dH) (h4:Φ "is_form"=uC) (h5:Φ "is_deed"=uD) (a:PutS) (ds:List D) (G:DH) (h:O6 a ds G):au Φ mF noE (env0 ds 2) G (ends (jU a.c G)):=by
 obtain ⟨⟨q,w,as,rs⟩,n,f,e⟩:=a;obtain ⟨rfl,hv,h50,hn,h12,hf,hd⟩:=h;have hv':=hv;obtain ⟨g,hl,hb⟩:=hv';dsimp only at g hl hb h50 hn h12 hf hd ⊢;have hw6:=hb.w6;simp_all_arith[mF];refine seq λM hM=>?_;simp_arith[oS,h1];refine ⟨cT,cR hv ?_⟩;simp_arith[aq];refine hM _ _ (seq λM hM=>?_);simp_arith[h3,al];have hp:isPlace ((rs.length:Int)+1) (.int (n:Int))=true:=by show (decide (0<=(n:Int))&&decide ((n:Int) < (rs.length:Int)+1))=true;rw[bv (by omega),bv (by omega)];rfl
 refine dj (show dH [.int ((rs.length:Int)+1),.int (n:Int)]=some (.bl true) from by rw[<-hp];rfl) ?_;simp_arith[ends];refine hM _ _ (seq λM hM=>?_);simp_arith[h4,h5];have ef:(w:Int)=(f.length:Int):=by rw[hf.1]
 rw[ef];refine bN f rfl ⟨by rw[hf.1];omega,hf.2⟩ ?_;simp_arith[ends];refine bN e rfl hd ?_;simp_arith[ends];refine hM _ _ (seq λM hM=>?_);simp_arith[al,cq (show ¬(12:Int)<=(rs.length:Int) by omega)];refine hM _ _ (last ?_);simp_arith[h2,uH,zL,al,b6,ci];have em:(rs.take n).map aB++[D.tup [.str f,.str e]]++(rs.drop n).map aB=(bD rs n (f,e)).map aB:=by unfold bD;rw[dv,dv];rfl
 rw[em];refine ⟨z7,by decide,by decide,by have hsz:sz=1000000:=rfl;omega,by rw[ay,al,b6,eK];have hsz:sz=1000000:=rfl;omega,?_⟩;exact z6 hv (by omega) (jT hb h12 hf hd) ⟨rfl,rfl⟩
structure OutS where
 s:Sv
 n:Nat
def OutS.c(a:OutS):Chg:=⟨a.s,wo a.s.rs a.n⟩
def O7(a:OutS)(ds:List D)(G:DH):Prop:=ds=[oS a.s.q,.int (a.n:Nat)]/\svG a.s G/\a.s.as.length < 50/\a.n < a.s.rs.length
def ni:RF.Spec:=ghS (A:=OutS) O7 (λa=>jU a.c)
theorem aee (Φ:aa) (h1:Φ "Sieve.book"=eH) (h2:Φ "Sieve.turn"=jR) (h3:Φ "without"=sWo) (a:OutS) (ds:List D) (G:DH) (h:O7 a ds G):au Φ mH noE (env0 ds 0) G (ends (jU a.c G)):=by obtain ⟨⟨q,w,as,rs⟩,n⟩:=a;obtain ⟨rfl,hv,h50,hn⟩:=h;have hv':=hv;obtain ⟨g,hl,hb⟩:=hv';dsimp only at g hl hb h50 hn ⊢;simp_all_arith[mH];refine last ?_;simp_arith[oS,h1,h2,h3];refine ⟨z7,cT,cR hv (uT hb hn ?_)⟩;simp_arith[aq];exact z6 hv (by omega) (jQ hb hn) ⟨rfl,rfl⟩
structure MovS where
 s:Sv
 n:Nat
 p:Nat
def MovS.c(a:MovS):Chg:=⟨a.s,mvR a.s.rs a.n a.p⟩
def O8(a:MovS)(ds:List D)(G:DH):Prop:=ds=[oS a.s.q,.int (a.n:Nat),.int (a.p:Nat)]/\svG a.s G/\a.s.as.length < 50/\a.n < a.s.rs.length/\a.p < a.s.rs.length
def uW:RF.Spec:=ghS (A:=MovS) O8 (λa=>jU a.c)
theorem aef (Φ:aa) (h1:Φ "Sieve.book"=eH) (h2:Φ "Sieve.turn"=jR) (h3:Φ "without"=sWo) (h4:Φ "need_row"=jN) (a:MovS) (ds:List D) (G:DH) (h:O8 a ds G):au Φ mG noE (env0 ds 2) G (ends (jU a.c G)):=by
 obtain ⟨⟨q,w,as,rs⟩,n,p⟩:=a;obtain ⟨rfl,hv,h50,hn,hp⟩:=h;have hv':=hv;obtain ⟨g,hl,hb⟩:=hv';dsimp only at g hl hb h50 hn hp ⊢;have hlen:=hb.len;have hwl:=uR hn;simp_all_arith[mG];refine seq λM hM=>?_;simp_arith[oS,h1,h4];refine ⟨cT,cR hv (uM hb hn (hM _ _ (seq λM hM=>?_)))⟩;simp_arith[h1,h4];refine ⟨cT,cR hv (uM hb hp (hM _ _ (seq λM hM=>?_)))⟩;simp_arith[h1];refine ⟨cT,cR hv ?_⟩;simp_arith[aq];refine bY (a:=aB (rs.getD n ([],[]))) (bJ (uV hn)) (hM _ _ (seq λM hM=>?_));simp_arith[h1,h3];refine ⟨cT,cR hv (uT hb hn ?_)⟩;simp_arith[aq];refine hM _ _ (last ?_);simp_arith[h2,uH,zL,al,b6,ci];have em:((wo rs n).take p).map aB++[aB (rs.getD n ([],[]))]++((wo rs n).drop p).map aB=(mvR rs n p).map aB:=by unfold mvR bD;rw[dv,dv];rfl
 rw[em];refine ⟨z7,by decide,by have hsz:sz=1000000:=rfl;omega,by rw[ay,al,b6,eK];have hsz:sz=1000000:=rfl;omega,?_⟩;exact z6 hv (by omega) (O5 hb hn) ⟨rfl,rfl⟩
def iK:RF.Spec:=ghS (A:=Nat×List Row) (λa ds _=>ds=[aq a.1 a.2]/\okB a.1 a.2) (λa G d G'=>∃q,d=oS q/\G q=none/\G'=aD G q (.lst (stk a.1 [a.2])))
theorem uX{w:Nat}{rs:List Row}{G:DH}{k:D->DH->Prop}{E:EK}(hb:okB w rs)(hk:∀q,G q=none->k (oS q) (aD G q (.lst (stk w [rs])))):iK.t [aq w rs] G k E:=cP (w,rs) ⟨rfl,hb⟩ λd G' hx=>by
 obtain ⟨q,rfl,hq,rfl⟩:=hx;exact hk q hq
theorem aeg (Φ:aa) (h1:Φ "need_book"=fW) (h2:Φ "Sieve"=iK) (d:D) (G:DH) (kk:D->DH->Prop) (E:EK) (h:(Φ "Sieve").t [d] G kk E):(Φ "need_book").t [d] G (λ_ G1=>∀q,G1 q=none->kk (.obj "Sieve" "books" q) (aD G1 q (.lst [d]))) E:=by
 rw[h2]at h;rw[h1];obtain ⟨⟨⟨w,rs⟩,G0⟩,hp,hq,_⟩:=h;obtain ⟨e,hd,hb⟩:=hp;dsimp only at e hd hb;have hd:d=aq w rs:=by simpa using hd
 subst e hd;exact iD hb λq hq'=>hq _ _ ⟨q,rfl,hq',rfl⟩
theorem z8(w:Nat)(rs ss:List Row):nr (tld w rs ss)=true/\dpt (tld w rs ss) < 9/\d9 (tld w rs ss)=true:=by unfold tld;cases (bj w rs ss).head? <;> exact ⟨rfl,Nat.succ_pos _,rfl⟩
theorem O9(rs:List Row):nrs (rs.map aB)=true:=yF λd hd=>by obtain ⟨r,_,rfl⟩:=bX.mp hd;rfl
theorem Pa{w:Nat}{rs:List Row}(h:okB w rs):nr (aq w rs)=true/\dpt (aq w rs) < 9/\d9 (aq w rs)=true:=by
 have hw6:=h.w6;have hlen:=h.len;have h1:=O9 rs;have h2:aQ (rs.map aB)<=1:=yG λd hd=>by obtain ⟨_,_,rfl⟩:=bX.mp hd;exact aw _
 have h3:fQ (rs.map aB)=true:=by
  have hall:∀r∈rs,d9 (aB r)=true:=λr hr=>rfl;clear h1 h2 h hlen;induction rs with
  |nil=>rfl
  |cons r rs ih=>rw[bn,fQ,hall r bS,ih λx hx=>hall x (bi _ hx)];rfl
 refine ⟨?_,?_,?_⟩
 ·simp only[aq,nr,nrs,h1,Bool.and_true]
 ·simp only[aq,dpt,aQ];omega
 ·simp only[aq,d9,fQ,h3,al,cb,List.length_nil,Bool.and_true,ae,bq];exact ⟨by decide,trivial,by omega⟩
def nq:RF.Spec:=bM (A:=Nat×List Row×List Row) (λa=>[aq a.1 a.2.1,aq a.1 a.2.2]) (λa=>okB a.1 a.2.1/\okB a.1 a.2.2) (λa=>tld a.1 a.2.1 a.2.2)
theorem Pb{w:Nat}{rs ss:List Row}{G:DH}{k:D->DH->Prop}{E:EK}(h:okB w rs)(h':okB w ss)(hk:k (tld w rs ss) G):nq.t [aq w rs,aq w ss] G k E:=bN (w,rs,ss) rfl ⟨h,h'⟩ hk
theorem aeh (Φ:aa) (h1:Φ "alike"=jP) (a:Nat×List Row×List Row) (G:DH) (h:okB a.1 a.2.1/\okB a.1 a.2.2):au Φ yX noE (env0 [aq a.1 a.2.1,aq a.1 a.2.2] 2) G (ends λd G'=>G'=G/\d=tld a.1 a.2.1 a.2.2):=by
 obtain ⟨w,rs,ss⟩:=a;obtain ⟨hb,hb'⟩:=h;dsimp only at hb hb' ⊢;have eb:(([97,108,105,107,101]==[112,97,114,116,101,100]):Bool)=false:=by decide
 simp_all_arith[yX];refine seq λM hM=>?_;simp_arith[h1];refine zY hb hb' λd hq=>?_;rcases hq with ⟨m,hm,rfl⟩ |⟨hnil,t,bs,rfl,_,_⟩
 ·simp_arith[uO];refine hM _ _ (last ?_);simp_arith[BEq.rfl,tld,hm,bA,and_self]
 ·simp_arith[uP];refine hM _ _ (last ?_);simp_arith[eb,tld,hnil,List.head?_nil,bA,and_self]
def nu:RF.Spec:=bM (A:=Nat×List Row×Nat) (λa=>[aq a.1 a.2.1,.int (a.2.2:Nat)]) (λa=>okB a.1 a.2.1/\a.2.2+1 < a.2.1.length) (λa=>.bl (bj a.1 a.2.1 (swp a.2.1 a.2.2)).isEmpty)
theorem aei{w n:Nat}{rs:List Row}{G:DH}{k:D->DH->Prop}{E:EK}(h:okB w rs)(hn:n+1 < rs.length)(hk:k (.bl (bj w rs (swp rs n)).isEmpty) G):nu.t [aq w rs,.int (n:Nat)] G k E:=bN (w,rs,n) rfl ⟨h,hn⟩ hk
theorem aej (Φ:aa) (h1:Φ "need_book"=fW) (h2:Φ "is_place"=aO dH) (h3:Φ "parting_word"=m8) (h4:Φ "exchanged"=sEx) (a:Nat×List Row×Nat) (G:DH) (h:okB a.1 a.2.1/\a.2.2+1 < a.2.1.length):au Φ lX noE (env0 [aq a.1 a.2.1,.int (a.2.2:Nat)] 2) G (ends λd G'=>G'=G/\d=.bl (bj a.1 a.2.1 (swp a.2.1 a.2.2)).isEmpty):=by
 obtain ⟨w,rs,n⟩:=a;obtain ⟨hb,hn⟩:=h;dsimp only at hb hn ⊢;have hlen:=hb.len;have ed:∀xs:List Row,aq w xs=.tup [.int w,.tup (xs.map aB)]:=λ_=>rfl;simp_all_arith[lX];refine seq λM hM=>?_;simp_arith[h1];refine iD hb (hM _ _ (seq λM hM=>?_));simp_arith[ed];refine hM _ _ (seq λM hM=>?_);simp_arith[h2,al];have hp:isPlace ((rs.length:Int) - 1) (.int (n:Int))=true:=by show (decide (0<=(n:Int))&&decide ((n:Int) < (rs.length:Int) - 1))=true;rw[bv (by omega),bv (by omega)];rfl
 refine dj (show dH [.int ((rs.length:Int) - 1),.int (n:Int)]=some (.bl true) from by rw[<-hp];rfl) ?_;simp_arith[ends];refine hM _ _ (last ?_);simp_arith[h3,h4];refine ad6 hn hlen ⟨by decide,?_⟩;rw[<-ed,<-ed];refine O1 hb (ad3 hb hn) ?_;cases bj w rs (swp rs n) <;> simp_arith[List.head?_nil,List.head?_cons,bA,List.isEmpty_nil,List.isEmpty_cons,and_self]
theorem aek(a b:Option (List Nat)):deq (bA a) (bA b)=(a==b):=by cases a <;> cases b <;> first |rfl | (show (_==_)=_;simp[bA])
def uY:RF.Spec:=ghS (A:=Nat×List Row×List Row×List Nat) (λa ds _=>ds=[aq a.1 a.2.1,aq a.1 a.2.2.1,.str a.2.2.2]/\okB a.1 a.2.1/\okB a.1 a.2.2.1/\a.2.2.2∈bj a.1 a.2.1 a.2.2.1) (λ_ G d G'=>G'=G/\d=.bl true)
theorem ael{w:Nat}{rs ss:List Row}{l:List Nat}{G:DH}{k:D->DH->Prop}{E:EK}(h:okB w rs)(h':okB w ss)(hl:l∈bj w rs ss)(hk:k (.bl true) G):uY.t [aq w rs,aq w ss,.str l] G k E:=
 cP (w,rs,ss,l) ⟨rfl,h,h',hl⟩ λd G' ⟨e1,e2⟩=>by subst e1 e2;exact hk
theorem aem (Φ:aa) (h1:Φ "need_two_books"=m7) (h2:Φ "deed"=uG) (a:Nat×List Row×List Row×List Nat) (ds:List D) (G:DH) (h:ds=[aq a.1 a.2.1,aq a.1 a.2.2.1,.str a.2.2.2]/\okB a.1 a.2.1/\okB a.1 a.2.2.1/\a.2.2.2∈bj a.1 a.2.1 a.2.2.1):au Φ my noE (env0 ds 0) G (ends λd G'=>G'=G/\d=.bl true):=by
 obtain ⟨w,rs,ss,l⟩:=a;obtain ⟨rfl,hb,hb',hl⟩:=h;dsimp only at hb hb' hl ⊢;have hm:=de.mp hl;have okl:okW w l:=zN.mp (fV.mp hm.1);have hne:=hm.2;have hvw:∀(o:Option (List Nat)),view G (bA o)=bA o/\nr (bA o)=true/\dpt (bA o)<=1:=λo=>by cases o <;> exact ⟨rfl,rfl,eh _⟩
 simp_all_arith[my];refine seq λM hM=>?_;simp_arith[h1];refine OD hb hb' (hM _ _ (last ?_));simp_arith[h2];refine NZ hb okl (NZ hb' okl ?_);rw[uQ,uQ];obtain ⟨v1,n1,p1⟩:=hvw (bO rs (bh rs l));obtain ⟨v2,n2,p2⟩:=hvw (bO ss (bh ss l));simp_arith[v1,v2,n1,n2,aek,true_and];refine ⟨by omega,?_⟩;rw[hne]
theorem Pg{rs:List Row}{m:Nat}(h:m+1 < rs.length):∃A a b C,rs=A++a::b::C/\A.length=m:=by refine ⟨rs.take m,rs[m],rs[m+1],rs.drop (m+2),?_,by rw[b6];omega⟩;rw[<-bd h,<-bd (show m < rs.length by omega),List.take_append_drop]
theorem aen{rs:List Row}{m:Nat}(h:m+1 < rs.length):mvR rs m (m+1)=swp rs m:=by
 obtain ⟨A,a,b,C,rfl,rfl⟩:=Pg h;unfold mvR bD wo swp;simp[List.take_append,List.drop_append,List.getElem?_append];have t1:A.take (A.length+1)=A:=df (by omega);have d1:A.drop (A.length+1)=[]:=cK (by omega);have d2:A.drop (A.length+1+1)=[]:=cK (by omega);have d3:A.drop (A.length+2)=[]:=cK (by omega);have d4:A.length+1+1 - A.length=2:=by omega
 simp[t1,d1,d2,d3,d4]
theorem aeo{rs:List Row}{m:Nat}(h:m+1 < rs.length):mvR rs (m+1) m=swp rs m:=by
 obtain ⟨A,a,b,C,rfl,rfl⟩:=Pg h;unfold mvR bD wo swp;simp[List.take_append,List.drop_append,List.getElem?_append];have t1:A.take (A.length+1)=A:=df (by omega);have d1:A.drop (A.length+1)=[]:=cK (by omega);have d2:A.drop (A.length+1+1)=[]:=cK (by omega);have d3:A.drop (A.length+2)=[]:=cK (by omega);have d4:A.length+1+1 - A.length=2:=by omega
 simp[t1,d1,d2,d3,d4]
theorem Ph{q:Addr}{w n:Nat}{as:List (List Row)}{rs:List Row}{G:DH}{k:D->DH->Prop}{E:EK}(hv:svG ⟨q,w,as,rs⟩ G)(h50:as.length < 50)(hn:n < rs.length)(hk:k (tld w rs (wo rs n)) (aD G q (.lst (stk w (as++[rs]++[wo rs n]))))):ni.t [oS q,.int (n:Nat)] G k E:=cP (⟨⟨q,w,as,rs⟩,n⟩:OutS) ⟨rfl,hv,h50,hn⟩ λd G' hx=>by
 obtain ⟨rfl,rfl⟩:=hx;exact hk
theorem aep{q:Addr}{w n p:Nat}{as:List (List Row)}{rs:List Row}{G:DH}{k:D->DH->Prop}{E:EK}(hv:svG ⟨q,w,as,rs⟩ G)(h50:as.length < 50)(hn:n < rs.length)(hp:p < rs.length)(hk:k (tld w rs (mvR rs n p)) (aD G q (.lst (stk w (as++[rs]++[mvR rs n p]))))):uW.t [oS q,.int (n:Nat),.int (p:Nat)] G k E:=cP (⟨⟨q,w,as,rs⟩,n,p⟩:MovS) ⟨rfl,hv,h50,hn,hp⟩ λd G' hx=>by
 obtain ⟨rfl,rfl⟩:=hx;exact hk
theorem uZ{q:Addr}{w n:Nat}{f e:List Nat}{as:List (List Row)}{rs:List Row}{G:DH}{k:D->DH->Prop}{E:EK}(hv:svG ⟨q,w,as,rs⟩ G)(h50:as.length < 50)(hn:n<=rs.length)(h12:rs.length < 12)(hf:okF w f)(hd:okD e)(hk:k (tld w rs (bD rs n (f,e))) (aD G q (.lst (stk w (as++[rs]++[bD rs n (f,e)]))))):m9.t [oS q,.int (n:Nat),.str f,.str e] G k E:=cP (⟨⟨q,w,as,rs⟩,n,(f,e)⟩:PutS) ⟨rfl,hv,h50,hn,h12,hf,hd⟩ λd G' hx=>by
 obtain ⟨rfl,rfl⟩:=hx;exact hk
theorem u5 {q:Addr}:fH "Sieve" "put" (.obj "Sieve" "books" q):=⟨rfl,by decide +kernel⟩
theorem Pj {q:Addr}:fH "Sieve" "out" (.obj "Sieve" "books" q):=⟨rfl,by decide +kernel⟩
theorem aeq {q:Addr}:fH "Sieve" "move" (.obj "Sieve" "books" q):=⟨rfl,by decide +kernel⟩
theorem aer {q:Addr}:fH "Sieve" "hidden" (.obj "Sieve" "books" q):=⟨rfl,by decide +kernel⟩
def u6:RF.Spec:=ghS (A:=Sv) (λa ds G=>ds=[oS a.q]/\svG a G) (λa G d G'=>∃q,d=.ref q/\G' q=some (.lst ((fj a.rs).map nI))/\Sa G G')
theorem aes{q:Addr}{w:Nat}{as:List (List Row)}{rs:List Row}{G:DH}{k:D->DH->Prop}{E:EK}(h:svG ⟨q,w,as,rs⟩ G)(hk:∀q' G',G' q'=some (.lst ((fj rs).map nI))->Sa G G'->k (.ref q') G'):u6.t [oS q] G k E:=cP (⟨q,w,as,rs⟩:Sv) ⟨rfl,h⟩ λd G' hx=>by
 obtain ⟨q',rfl,h1,h2⟩:=hx;exact hk q' G' h1 h2
theorem aet (Φ:aa) (h1:Φ "Sieve.book"=eH) (h2:Φ "hidden_reached"=jO) (a:Sv) (ds:List D) (G:DH) (h:ds=[oS a.q]/\svG a G):au Φ za noE (env0 ds 0) G (ends λd G'=>∃q,d=.ref q/\G' q=some (.lst ((fj a.rs).map nI))/\Sa G G'):=by obtain ⟨q,w,as,rs⟩:=a;obtain ⟨rfl,hv⟩:=h;have hb:=hv.2.2;dsimp only at hb ⊢;simp_arith[za,oS,h1,h2];refine ⟨cT,cR hv (adP hb λq' G' _ g s=>?_)⟩;exact ⟨q',rfl,g,s⟩
def u9:RF.Spec:=ghS (A:=Nat×List Row×Nat) (λa ds _=>ds=[aq a.1 a.2.1,.int (a.2.2:Nat)]/\okB a.1 a.2.1/\a.2.2 < a.2.1.length) (λ_ G d G'=>Sa G G'/\d=.bl true)
theorem aeu{w n:Nat}{rs:List Row}{G:DH}{k:D->DH->Prop}{E:EK}(h:okB w rs)(hn:n < rs.length)(hk:∀G',Sa G G'->k (.bl true) G'):u9.t [aq w rs,.int (n:Nat)] G k E:=cP (w,rs,n) ⟨rfl,h,hn⟩ λd G' hx=>by
 obtain ⟨s,rfl⟩:=hx;exact hk G' s
structure FO65(Φ:aa):Prop where
 ndl:Φ "needless"=uU
 make:Φ "Sieve"=iK
 out:Φ "Sieve.out"=ni
 book:Φ "Sieve.book"=eH
 wo:Φ "without"=sWo
 same:Φ "_law_same"=cY 9
theorem aev(Φ:aa)(F:FO65 Φ)(a:Nat×List Row×Nat)(ds:List D)(G:DH)(h:ds=[aq a.1 a.2.1,.int (a.2.2:Nat)]/\okB a.1 a.2.1/\a.2.2 < a.2.1.length):au Φ zc noE (env0 ds 4) G (ends λd G'=>Sa G G'/\d=.bl true):=by
 obtain ⟨w,rs,n⟩:=a;obtain ⟨rfl,hb,hn⟩:=h;dsimp only at hb hn ⊢;obtain ⟨b1,b2,b3⟩:=Pa (jQ hb hn);obtain ⟨t1,t2,t3⟩:=z8 w rs (wo rs n);have eb:(([110,101,101,100,101,100]==[110,101,101,100,108,101,115,115]):Bool)=false:=by decide
 simp_all_arith[zc];refine seq λM hM=>?_;simp_arith[F.ndl];refine ad0 hb hn λd hq=>?_;obtain ⟨wd,fd,rfl,hfd⟩:∃wd fd,d=.tup [.str wd,fd]/\((wd=zZ/\fd=tld w rs (wo rs n))\/(wd=ndT/\tld w rs (wo rs n)=.non)):=by
  rcases hq with ⟨m,hm,rfl⟩ |⟨hnil,t,bs,rfl,_,_⟩
  ·exact ⟨_,_,rfl,.inl ⟨rfl,by unfold tld;rw[hm];rfl⟩⟩
  ·exact ⟨_,_,rfl,.inr ⟨rfl,by unfold tld;rw[hnil];rfl⟩⟩
 simp_arith[ends];refine hM _ _ (seq λM hM=>?_);simp_arith[F.make];refine uX hb λq hq0=>hM _ _ (seq λM hM=>?_);have hv1:svG ⟨q,w,[],rs⟩ (aD G q (.lst (stk w [rs]))):=⟨aV,by show 0 < 1000;decide,hb⟩;simp_arith[F.out,oS];refine ⟨Pj,Ph hv1 (by decide) hn (hM _ _ (seq λM hM=>?_))⟩;rw[DK];have hv2:svG ⟨q,w,[rs],wo rs n⟩ (aD G q (.lst (stk w ([]++[rs]++[wo rs n])))):=⟨aV,by show 1 < 1000;decide,jQ hb hn⟩;simp_arith[F.book,F.wo,F.same];refine ⟨cT,cR hv2 (uT hb hn (iB b1 b2 b3 ?_))⟩;simp_arith[ends];refine hM _ _ (last ?_);rcases hfd with ⟨rfl,rfl⟩ |⟨rfl,hnon⟩
 ·simp_arith[zZ,eb,F.same];exact iB t1 t2 t3 ⟨Sa.new hq0,rfl⟩
 ·simp_arith[ndT,BEq.rfl,F.same];rw[hnon];exact iB rfl (by decide) rfl ⟨Sa.new hq0,rfl⟩
def vd:RF.Spec:=ghS (A:=Nat×List Row×Nat×Nat) (λa ds _=>ds=[aq a.1 a.2.1,.int (a.2.2.1:Nat),.int (a.2.2.2:Nat)]/\okB a.1 a.2.1/\a.2.2.1 < a.2.1.length/\a.2.2.2 < a.2.1.length) (λ_ G d G'=>Sa G G'/\d=.bl true)
theorem aew{w n p:Nat}{rs:List Row}{G:DH}{k:D->DH->Prop}{E:EK}(h:okB w rs)(hn:n < rs.length)(hp:p < rs.length)(hk:∀G',Sa G G'->k (.bl true) G'):vd.t [aq w rs,.int (n:Nat),.int (p:Nat)] G k E:=cP (w,rs,n,p) ⟨rfl,h,hn,hp⟩ λd G' hx=>by
 obtain ⟨s,rfl⟩:=hx;exact hk G' s
structure FM65(Φ:aa):Prop where
 make:Φ "Sieve"=iK
 mov:Φ "Sieve.move"=uW
 out:Φ "Sieve.out"=ni
 put:Φ "Sieve.put"=m9
 book:Φ "Sieve.book"=eH
 same:Φ "_law_same"=cY 9
 word:Φ "_law_word_of"=nq
 parts:Φ "parts"=uY
 may:Φ "may_swap"=nu
theorem aex{w:Nat}{rs:List Row}{n:Nat}(hn:n < rs.length):∃r:Row,rs.getD n ([],[])=r/\(rs.map aB)[n]?=some (.tup [.str r.1,.str r.2]):=⟨_,rfl,uV hn⟩
theorem aey(Φ:aa)(F:FM65 Φ)(a:Nat×List Row×Nat×Nat)(ds:List D)(G:DH)(h:ds=[aq a.1 a.2.1,.int (a.2.2.1:Nat),.int (a.2.2.2:Nat)]/\okB a.1 a.2.1/\a.2.2.1 < a.2.1.length/\a.2.2.2 < a.2.1.length):au Φ zb noE (env0 ds 3) G (ends λd G'=>Sa G G'/\d=.bl true):=by
 obtain ⟨w,rs,n,p⟩:=a;obtain ⟨rfl,hb,hn,hp⟩:=h;dsimp only at hb hn hp ⊢;have hlen:=hb.len;have hwl:=uR hn;have hm:=O5 (p:=p) hb hn;obtain ⟨b1,b2,b3⟩:=Pa hm;obtain ⟨t1,t2,t3⟩:=z8 w rs (mvR rs n p);have e0:∀xs:List Row,aq w xs=.tup [.int w,.tup (xs.map aB)]:=λ_=>rfl;obtain ⟨r,hr,hat⟩:=aex (w:=w) hn;have hrm:=getD_mem hn;rw[hr]at hrm;simp_all_arith[zb];refine seq λM hM=>?_;simp_arith[F.make];refine uX hb λq1 hq1=>hM _ _ (seq λM hM=>?_);simp_arith[F.make];refine uX hb λq2 hq2=>hM _ _ (seq λM hM=>?_);have hne:q1≠q2:=λe=>by rw[e,aV]at hq2;cases hq2
 have hG2:G q2=none:=by rw[cg (Ne.symm hne)]at hq2;exact hq2
 have s2:Sa G (aD (aD G q1 (.lst (stk w [rs]))) q2 (.lst (stk w [rs]))):=(Sa.new hq1).trans (Sa.new hq2);have g1:(aD (aD G q1 (.lst (stk w [rs]))) q2 (.lst (stk w [rs]))) q1=some (.lst (stk w ([]++[rs]))):=by rw[cg hne,aV];rfl
 have g2:(aD (aD G q1 (.lst (stk w [rs]))) q2 (.lst (stk w [rs]))) q2=some (.lst (stk w ([]++[rs]))):=aV;generalize aD (aD G q1 (.lst (stk w [rs]))) q2 (.lst (stk w [rs]))=G2 at s2 g1 g2 ⊢;simp_arith[F.mov,oS];refine ⟨aeq,aep ⟨g1,by show 0 < 1000;decide,hb⟩ (by decide) hn hp (hM _ _ (seq λM hM=>?_))⟩;have s3:=s2.then hq1 (Sb.upd (o:=.lst (stk w ([]++[rs]++[mvR rs n p]))));have g1':(aD G2 q1 (.lst (stk w ([]++[rs]++[mvR rs n p])))) q1=some (.lst (stk w ([rs]++[mvR rs n p]))):=aV;have g2':(aD G2 q1 (.lst (stk w ([]++[rs]++[mvR rs n p])))) q2=some (.lst (stk w ([]++[rs]))):=by rw[cg hne.symm];exact g2
 generalize aD G2 q1 (.lst (stk w ([]++[rs]++[mvR rs n p])))=G3 at s3 g1' g2' ⊢;simp_arith[F.out];refine ⟨Pj,Ph ⟨g2',by show 0 < 1000;decide,hb⟩ (by decide) hn (hM _ _ (seq λM hM=>?_))⟩;have s4:=s3.then hG2 (Sb.upd (o:=.lst (stk w ([]++[rs]++[wo rs n]))));have h1'':(aD G3 q2 (.lst (stk w ([]++[rs]++[wo rs n])))) q1=some (.lst (stk w ([rs]++[mvR rs n p]))):=by rw[cg hne];exact g1'
 have h2'':(aD G3 q2 (.lst (stk w ([]++[rs]++[wo rs n])))) q2=some (.lst (stk w ([rs]++[wo rs n]))):=aV;generalize aD G3 q2 (.lst (stk w ([]++[rs]++[wo rs n])))=G4 at s4 h1'' h2'' ⊢;simp_arith[F.put,e0];refine ⟨u5,bY (bJ hat) ?_⟩;simp_arith[ends];refine bY (bJ hat) ?_;simp_arith[ends];refine uZ (as:=[rs]) (rs:=wo rs n) (n:=p) (f:=r.1) (e:=r.2) ⟨h2'',by show 1 < 1000;decide,jQ hb hn⟩ (by show 1 < 50;decide) (by omega) (by omega) (hb.form r hrm) (hb.deed r hrm) (hM _ _ (seq λM hM=>?_));have em:bD (wo rs n) p (r.1,r.2)=mvR rs n p:=by unfold mvR;rw[hr]
 rw[em];have s5:=s4.then hG2 (Sb.upd (o:=.lst (stk w ([rs]++[wo rs n]++[mvR rs n p]))));have k1:(aD G4 q2 (.lst (stk w ([rs]++[wo rs n]++[mvR rs n p])))) q1=some (.lst (stk w ([rs]++[mvR rs n p]))):=by rw[cg hne];exact h1''
 have k2:(aD G4 q2 (.lst (stk w ([rs]++[wo rs n]++[mvR rs n p])))) q2=some (.lst (stk w ([rs,wo rs n]++[mvR rs n p]))):=aV;generalize aD G4 q2 (.lst (stk w ([rs]++[wo rs n]++[mvR rs n p])))=G5 at s5 k1 k2 ⊢;have v1:svG ⟨q1,w,[rs],mvR rs n p⟩ G5:=⟨k1,by show 1 < 1000;decide,hm⟩;have v2:svG ⟨q2,w,[rs,wo rs n],mvR rs n p⟩ G5:=⟨k2,by show 2 < 1000;decide,hm⟩;rw[<-e0];simp_arith[F.book,F.same,F.word];refine ⟨cT,cR v1 ⟨cT,cR v2 (iB b1 b2 b3 ?_)⟩⟩;simp_arith[ends];refine ⟨cT,cR v1 (Pb hb hm (iB t1 t2 t3 ?_))⟩;simp_arith[ends];refine hM _ _ (seq λM hM=>?_);have swap:∀m,m+1 < rs.length->mvR rs n p=swp rs m->(bj w rs (swp rs m)).isEmpty=(bj w rs (mvR rs n p)).isEmpty:=λm _ e=>by rw[e]
 have fin:M [some (aq w rs),some (.int (n:Int)),some (.int (p:Int)),some (D.obj "Sieve" "books" q1),some (D.obj "Sieve" "books" q2),some (tld w rs (mvR rs n p))] G5:=by
  refine hM _ _ (last ?_);have hnil:dZ (view G5 (tld w rs (mvR rs n p)))=(bj w rs (mvR rs n p)).isEmpty:=by unfold tld;cases bj w rs (mvR rs n p) <;> rfl
  simp_arith[F.may,hnil];have near:∀m:Nat,m+1 < rs.length->mvR rs n p=swp rs m->(if (p:Int) < (n:Int) then (p:Int) else (n:Int))=(m:Int)->(if (n:Int) - (p:Int) < 0 then -((n:Int) - (p:Int)) else (n:Int) - (p:Int))=1->(match false,!((if (n:Int) - (p:Int) < 0 then -((n:Int) - (p:Int)) else (n:Int) - (p:Int))==1) with
    |true,false=>Sa G G5/\D.bl false=D.bl true
    |false,true=>Sa G G5
    |_,_=>nu.t [aq w rs,D.int (if (p:Int) < (n:Int) then (p:Int) else (n:Int))] G5 (λy G2=>nr (view G2 y)=true/\Sa G G2/\D.bl (deq (D.bl (bj w rs (mvR rs n p)).isEmpty) (view G2 y))=D.bl true) noE):=λm hm1 e1 e2 e3=>by
   rw[e3,e2];refine aei hb hm1 ⟨rfl,s5,?_⟩;rw[e1];show D.bl (_==_)=_;rw[BEq.rfl]
  by_cases h1:p=n+1
  ·exact near n (by omega) (by rw[h1];exact aen (by omega)) (by rw[if_neg (by omega)]) (by rw[if_pos (by omega)];omega)
  ·by_cases h2:n=p+1
   ·exact near p (by omega) (by rw[h2];exact aeo (by omega)) (by rw[if_pos (by omega)]) (by rw[if_neg (by omega)];omega)
   ·have h3:(if (n:Int) - (p:Int) < 0 then -((n:Int) - (p:Int)) else (n:Int) - (p:Int))≠1:=by
     split <;> omega
    rw[c5.mpr h3];exact s5
 unfold tld at fin ⊢;cases hh:(bj w rs (mvR rs n p)).head? with
 |none=>
  rw[hh]at fin;simp_arith[bA];exact fin
 |some m=>
  rw[hh]at fin;simp_arith[bA,F.parts,F.book];refine ⟨cT,cR v1 (ael hb hm (List.mem_of_head? hh) ?_)⟩;simp_arith[ends];exact fin
theorem aez{w:Nat}{l:List Nat}(h:okW w l):dq (List.replicate w 42) l=true:=(acX h.2).mpr (zN.mpr h)
theorem z9{w:Nat}{l d:List Nat}{xs:List Row}(h:okW w l):bh ((List.replicate w 42,d)::xs) l=some 0:=by unfold bh;rw[eL,if_pos (aez h)]
theorem aeA{w:Nat}{d:List Nat}{xs ys:List Row}:bj w ((List.replicate w 42,d)::xs) ((List.replicate w 42,d)::ys)=[]:=by unfold bj;rw[ee];intro l hl;have okl:okW w l:=zN.mp (fV.mp hl);rw[z9 okl,z9 okl];simp[bO]
theorem aeB{w:Nat}{d:List Nat}{r:Row}{xs:List Row}(hr:okF w r.1):isIn (.int ((1:Nat):Int)) ((fj ((List.replicate w 42,d)::r::xs)).map nI)=true:=by rw[OJ,adZ (r:=r) rfl,fF];unfold cD;rw[ee];intro l hl;have hf:=fV.mp hl;have okl:okW w l:=⟨by rw[<-hf.1,hr.1],zP hr hf⟩;show ¬(bh [(List.replicate w 42,d)] l).isNone=true;rw[z9 okl];decide
def vf:RF.Spec:=bM (A:=List Row) (λrs=>[.tup (rs.map aB)]) (λrs=>rs.length<=12) (λrs=>.lst ((rs.map (·.1)).map D.str))
theorem aeC{rs:List Row}{G:DH}{k:D->DH->Prop}{E:EK}(h:rs.length<=12)(hk:k (.lst ((rs.map (·.1)).map D.str)) G):vf.t [.tup (rs.map aB)] G k E:=bN rs rfl h hk
def Pk:D->D
 |.tup (a::_)=>a
 |_=>.non
theorem aeD(Φ:aa)(rs:List Row)(G:DH)(h:rs.length<=12):au Φ yW noE (env0 [.tup (rs.map aB)] 0) G (ends λd G'=>G'=G/\d=.lst ((rs.map (·.1)).map D.str)):=by
 simp_arith[yW];refine CompG.map (f:=Pk) (I:=λρ=>∃o,ρ=[o]) ⟨_,rfl⟩ trivial (by rw[al];have hsz:sz=1000000:=rfl;omega) ?_ ?_
 ·rintro d ρ hd ⟨o,rfl⟩ kk hk;obtain ⟨r,_,rfl⟩:=bX.mp hd;simp_arith[aB];exact hk _ ⟨_,rfl⟩
 ·simp_arith[ends];have e:(rs.map aB).map Pk=(rs.map (·.1)).map D.str:=by rw[fv,fv];rfl
  rw[e]
structure F65(Φ:aa):Prop where
 opn:Φ "_law_open"=zm
 anew:Φ "_law_anew"=ux
 take:Φ "_law_take"=d8
 book:Φ "_law_book"=uz
 outr:Φ "_law_out_right"=u9
 movr:Φ "_law_move_right"=vd
 make:Φ "Sieve"=iK
 like:Φ "_law_form_like"=mU
 forms:Φ "_law_forms"=vf
 put:Φ "Sieve.put"=m9
 same:Φ "_law_same"=cY 9
 word:Φ "_law_word_of"=nq
 sbk:Φ "Sieve.book"=eH
 hid:Φ "Sieve.hidden"=u6
theorem aeE(Φ:aa)(F:F65 Φ)(ds:List D)(G:DH)(h:∃ns:List Int,ds=[.scr ns]/\ns.length<=63):au Φ zf noE (env0 ds 8) G (ends λd _=>d=.bl true):=by
 obtain ⟨ns,rfl,hl⟩:=h;simp_all_arith[zf];refine seq λM hM=>?_;simp_arith[F.opn];refine bL ⟨ns,rfl,hl⟩ λd' G1 hx=>?_;obtain ⟨p0,e1,_,hp,_⟩:=hx;subst e1;refine hM _ _ (seq λM hM=>?_);simp_arith![ends];refine ⟨by decide,ForG.inv (P:=λi ρ G'=>(∃o2 o3 o4 o5 o6 o7 o8,ρ=[some (.scr ns),some (.ref p0),o2,o3,o4,o5,o6,o7,o8])/\Pen G' p0) ⟨⟨_,_,_,_,_,_,_,rfl⟩,hp⟩ (λ_ _ _ _=>trivial) ?_ ?_⟩
 ·rintro i d ρ G2 hd ⟨⟨o2,o3,o4,o5,o6,o7,o8,rfl⟩,hp2⟩ kk hk;unfold bC at hd;rw[bp]at hd;obtain ⟨j,hj,rfl⟩:=a8.mp hd;obtain ⟨w0,hw0,ew⟩:∃n:Nat,(n=5\/n=6)/\atI [D.int 5,D.int 6] ((0+(j:Int)) % 2)=some (.int (n:Int)):=by
   have h2:(0+(j:Int)) % 2=0\/(0+(j:Int)) % 2=1:=by omega
   rcases h2 with e |e <;> rw[e]
   ·exact ⟨5,.inl rfl,rfl⟩
   ·exact ⟨6,.inr rfl,rfl⟩
  simp_arith![ends];refine seq λM hM=>?_;simp_arith[F.anew,F.book];refine ac6 hp2 λG3 hp3 _=>?_;refine ⟨by decide,by decide,bY ew ?_⟩;refine acF (m:=9) hp3 (by omega) (by omega) (by omega) λw rs0 G4 hb0 hw hrs0 hp4 _=>hM _ _ (seq λM hM=>?_);have hw1:=hb0.w1;have hw6:=hb0.w6;have e0:∀xs:List Row,aq w xs=.tup [.int w,.tup (xs.map aB)]:=λ_=>rfl;have main:∀rs:List Row,okB w rs->0 < rs.length->rs.length<=9->M [some (.scr ns),some (.ref p0),some (.int (0+(j:Int))),some (aq w rs),o4,o5,o6,o7,o8] G4:=by
   intro rs hb hr0 hr9;refine hM _ _ (seq λM hM=>?_);simp_arith[F.take,e0,al];refine cB hp4 (by omega) (by omega) λn G5 hn5 hp5 _=>hM _ _ (seq λM hM=>?_);simp_arith[F.take,al];refine cB hp5 (by omega) (by omega) λa G6 ha hp6 _=>⟨by decide,cB hp6 (by decide) (by decide) λc G7 hc hp7 _=>?_⟩;simp_arith[ends];refine yH (by omega) (by simpa using hc) λy hy=>?_;obtain ⟨p,rfl,hpl⟩:∃p:Nat,y=.int (p:Int)/\p < rs.length:=by
    simp only[aT,List.not_mem_nil,or_false]at hy;rcases hy with rfl |rfl
    ·exact ⟨a,rfl,by omega⟩
    ·by_cases hq:((rs.length:Int) - 1) < (n:Int)+1
     ·exact ⟨rs.length - 1,by rw[if_pos hq];congr 1;omega,by omega⟩
     ·exact ⟨n+1,by rw[if_neg hq];congr 1,by omega⟩
   have hn:n < rs.length:=by omega
   refine hM _ _ (seq λM hM=>?_);rw[<-e0];simp_arith[F.outr,F.movr];refine aeu hb hn λG8 s8=>?_;simp_arith[ends];refine aew hb hn hpl λG9 s9=>?_;simp_arith[ends];refine hM _ _ (seq λM hM=>?_);have hp9:=(hp7.sa s8).sa s9;simp_arith[F.make];refine uX hb λq hq=>hM _ _ (seq λM hM=>?_);have hqp:q≠p0:=(hp9.ne hq).symm;have hp10:=hp9.sa (Sa.new (o:=.lst (stk w [rs])) hq);simp_arith[F.like,F.forms,e0];refine aeC (by omega) (Ny (fs:=rs.map (·.1)) hp10 (by omega) (by omega) rfl (by rw[al];omega) (λf hf=>?_) λf G11 hf hp11 sb11=>hM _ _ (seq λM hM=>?_))
   ·obtain ⟨r,hr,rfl⟩:=bX.mp hf;exact hb.form r hr
   have g11:=sb11 _ _ (aV (G:=G9) (a:=q) (o:=.lst (stk w [rs]))) hqp;have v11:svG ⟨q,w,[],rs⟩ G11:=⟨g11,by show 0 < 1000;decide,hb⟩;have dStay:okD [115,116,97,121]:=⟨by decide,by decide,by decide⟩;have dFirst:okD [102,105,114,115,116]:=⟨by decide,by decide,by decide⟩;have dNever:okD [110,101,118,101,114]:=⟨by decide,by decide,by decide⟩;have okS:okF w (List.replicate w 42):=⟨ca,λc hc=>.inr (.inr (List.eq_of_mem_replicate hc))⟩;rw[<-e0];simp_arith[F.put,oS];refine ⟨u5,uZ v11 (by decide) (by omega) (by omega) hf dStay (hM _ _ (seq λM hM=>?_))⟩;have hb1:okB w (bD rs p (f,[115,116,97,121])):=jT hb (by omega) hf dStay;have hl1:(bD rs p (f,[115,116,97,121])).length=rs.length+1:=by unfold bD;simp;omega
   obtain ⟨t1,t2,t3⟩:=z8 w rs (bD rs p (f,[115,116,97,121]));have hp12:Pen (aD G11 q (.lst (stk w ([]++[rs]++[bD rs p (f,[115,116,97,121])])))) p0:=hp11.sb Sb.upd hqp.symm;have v12:svG ⟨q,w,[rs],bD rs p (f,[115,116,97,121])⟩ (aD G11 q (.lst (stk w ([]++[rs]++[bD rs p (f,[115,116,97,121])])))):=⟨aV,by show 1 < 1000;decide,hb1⟩;generalize aD G11 q (.lst (stk w ([]++[rs]++[bD rs p (f,[115,116,97,121])])))=G12 at hp12 v12 ⊢;generalize bD rs p (f,[115,116,97,121])=r1 at hb1 hl1 t1 t2 t3 v12 ⊢;simp_arith[F.same,F.word,F.sbk];refine ⟨cT,cR v12 (Pb hb hb1 (iB t1 t2 t3 ?_))⟩;simp_arith[ends];refine hM _ _ (seq λM hM=>?_);simp_arith[F.put,e0,c6,zM];refine ⟨u5,by omega,by omega,by have hsz:sz=1000000:=rfl;omega,uZ (n:=0) v12 (by show 1 < 50;decide) (by omega) (by omega) okS dFirst (hM _ _ (last ?_))⟩;have hb2:okB w ((List.replicate w 42,[102,105,114,115,116])::r1):=jT (n:=0) hb1 (by omega) okS dFirst;have hl2:((List.replicate w 42,[102,105,114,115,116])::r1:List Row).length=rs.length+2:=by rw[cb,hl1]
   have hp13:Pen (aD G12 q (.lst (stk w ([rs]++[r1]++[(List.replicate w 42,[102,105,114,115,116])::r1])))) p0:=hp12.sb Sb.upd hqp.symm;have v13:svG ⟨q,w,[rs,r1],(List.replicate w 42,[102,105,114,115,116])::r1⟩ (aD G12 q (.lst (stk w ([rs]++[r1]++[(List.replicate w 42,[102,105,114,115,116])::r1])))):=⟨aV,by show 2 < 1000;decide,hb2⟩;have ei:bD r1 0 (List.replicate w 42,[102,105,114,115,116])=(List.replicate w 42,[102,105,114,115,116])::r1:=rfl;rw[ei];generalize aD G12 q (.lst (stk w ([rs]++[r1]++[(List.replicate w 42,[102,105,114,115,116])::r1])))=G13 at hp13 v13 ⊢;simp_arith[F.put,F.hid];refine ⟨u5,uZ (n:=1) v13 (by show 2 < 50;decide) (by omega) (by omega) hf dNever ?_⟩;have e2:bD ((List.replicate w 42,[102,105,114,115,116])::r1) 1 (f,[110,101,118,101,114])=(List.replicate w 42,[102,105,114,115,116])::(f,[110,101,118,101,114])::r1:=rfl;have hb3:okB w ((List.replicate w 42,[102,105,114,115,116])::(f,[110,101,118,101,114])::r1):=jT (n:=1) hb2 (by omega) hf dNever;have e3:tld w ((List.replicate w 42,[102,105,114,115,116])::r1) ((List.replicate w 42,[102,105,114,115,116])::(f,[110,101,118,101,114])::r1)=.non:=by unfold tld;rw[aeA];rfl
   have hp14:Pen (aD G13 q (.lst (stk w ([rs,r1]++[(List.replicate w 42,[102,105,114,115,116])::r1]++[(List.replicate w 42,[102,105,114,115,116])::(f,[110,101,118,101,114])::r1])))) p0:=hp13.sb Sb.upd hqp.symm;have v14:svG ⟨q,w,[rs,r1,(List.replicate w 42,[102,105,114,115,116])::r1],(List.replicate w 42,[102,105,114,115,116])::(f,[110,101,118,101,114])::r1⟩ (aD G13 q (.lst (stk w ([rs,r1]++[(List.replicate w 42,[102,105,114,115,116])::r1]++[(List.replicate w 42,[102,105,114,115,116])::(f,[110,101,118,101,114])::r1])))):=⟨aV,by show 3 < 1000;decide,hb3⟩;rw[e2,e3];generalize aD G13 q (.lst (stk w ([rs,r1]++[(List.replicate w 42,[102,105,114,115,116])::r1]++[(List.replicate w 42,[102,105,114,115,116])::(f,[110,101,118,101,114])::r1])))=G14 at hp14 v14 ⊢;simp_arith[ends];refine ⟨aer,aes v14 λq2 G15 g15 s15=>?_⟩;have hs:=aeB (d:=[102,105,114,115,116]) (r:=(f,[110,101,118,101,114])) (xs:=r1) hf;simp_arith[b7 g15,inG,nr,adR,adS];rw[show isIn (D.int 1) _=true from hs];exact hk _ _ ⟨⟨_,_,_,_,_,_,_,rfl⟩,hp14.sa s15⟩
  simp_arith[e0,HH,c6,zM];refine ⟨⟨O9 _,cm (Nat.min_le_right _ _) (by decide)⟩,?_⟩;cases rs0 with
  |nil=>
   simp only[dP,List.isEmpty_nil];have okS:okF w (List.replicate w 42):=⟨ca,λc hc=>.inr (.inr (List.eq_of_mem_replicate hc))⟩;have dA:okD [97]:=⟨by decide,by decide,by decide⟩;exact ⟨by omega,by omega,by have hsz:sz=1000000:=rfl;omega,by decide,by decide,by decide,main [(List.replicate w 42,[97])] (jT (n:=0) hb0 (by decide) okS dA) (Nat.succ_pos _) (show 1<=9 by decide)⟩
  |cons r rs0=>
   simp only[bn,List.isEmpty_cons];exact main (r::rs0) hb0 (Nat.succ_pos _) (by omega)
 ·rintro ρ G2 ⟨_,hp2⟩;refine hM _ _ (last ?_);simp_arith[ends]
end RF
namespace HD
open PySem PySem.W
def sv(x:Str)(t:Nat):Value:=.str x t
def ri(n:Nat):Value:=.int n 0
def gF (l:List Value):Obj:=⟨.type "tuple",none,.seq ⟨l⟩ 0,⟨[]⟩⟩
def fu(c:Value)(l:List Value):Obj:=⟨c,none,.fields ⟨l⟩,⟨[]⟩⟩
def nA:Str:="/claim/cut.py"
noncomputable def Aa(n q:Str)(ln ac fl a b:Nat)(isf:Bool)(l1 l2 tm:Value)(t t2:Nat):Obj:=
 fu (.type "code") [sv n t,sv q (t+1),sv nA (t+2),ri ln,ri ac,ri 0,ri 0,ri fl,.ref a,.bool isf,ri 181,.ref b,.none,l1,l2,tm,ri t2,ri ln,sv nA (t2+1)]
def toks(t:Nat):List Str->List Value
 |[]=>[]
 |x::r=>sv x t::toks (t+1) r
def fdO(n q:Str)(p:Arguments)(b:List Stmt)(sc:Scope)(g:Nat)(md cd:Value):Data:=
 .func { name:=n,qualname:=q,params:=p,body:=.stmts b,scope:=sc,globals:=g,closure:=[],defaults:=.none,kwdefaults:=.none,pyModule:=md,code:=cd }
def enO(P:Params)(k:Str)(t:Nat)(v:Value):DictEntry:={ hash:=PyData.keyHash P k,key:=sv k t,val:=v }
def nF (l:List DictEntry) (e:Nat):Obj:=⟨.type "dict",none,.dict ⟨l⟩ e,⟨[]⟩⟩
noncomputable def frO (c l:Nat) (md:Value):Obj:=⟨.type "frame",none,.plain,⟨[some (.ref c),some (.ref 3),some (.ref l),none,some md,none,some (.ref 0)]⟩⟩
def bfO (s:String) (v:Value):Obj:=fu (.type "builtin_function_or_method") [.builtin s,v]
def veM:List Value:=[.type "ValueError",.type "Exception",.type "BaseException",.type "object"]
def vg (b:Expr):Bool:=match b with |.Name n _=>n==("ValueError":Str) |_=>false
noncomputable def fnO(q:Str)(a t:Nat)(md:Value)(n:Str)(p:Arguments)(b:List Stmt)(sc:Scope)(ln:Nat):List Obj:=match localNames p sc (.stmts b) with
 |some l=>[gF [],fu .none [],gF (toks (t+3) l.1),gF [],⟨.none,none,fdO n q p b sc 0 .none .none,⟨[]⟩⟩,
   Aa n q ln p.args.length 3 a (a+1) true (.ref (a+2)) (.ref (a+3)) (.ref (a+4)) t (t+3+l.1.length),⟨.type "function",none,fdO n q p b sc 3 md (.ref (a+5)),⟨[]⟩⟩]
 |none=>[gF [],fu .none [],⟨.none,none,fdO n q p b sc 0 .none .none,⟨[]⟩⟩,
   Aa n q ln p.args.length 3 a (a+1) true .none .none (.ref (a+2)) t (t+3),⟨.type "function",none,fdO n q p b sc 3 md (.ref (a+3)),⟨[]⟩⟩]
noncomputable def fnA(p:Arguments)(b:List Stmt)(sc:Scope):Nat:=match localNames p sc (.stmts b) with |some _=>7 |none=>5
noncomputable def fnT(p:Arguments)(b:List Stmt)(sc:Scope):Nat:=match localNames p sc (.stmts b) with |some l=>l.1.length+5 |none=>5
def dot:Str:="."
structure MO where
 os:List Obj
 es:List DictEntry
 cs:List Value
 a:Nat
 t:Nat
noncomputable def vh(P:Params)(c:Str)(md:Value):List Stmt->Nat->Nat->MO
 |.FunctionDef n p b _ _ _ sc _ _ pos::r,a,t=>
  let m:=vh P c md r (a+fnA p b sc) (t+fnT p b sc+1)
  ⟨fnO (c++dot++n) a t md n p b sc pos.line++m.os,enO P n (t+fnT p b sc) (.ref (a+fnA p b sc - 1))::m.es,ri pos.line::ri pos.col::.ref (a+fnA p b sc - 2)::m.cs,m.a,m.t⟩
 |_::r,a,t=>vh P c md r a t
 |[],a,t=>⟨[],[],[],a,t⟩
def clA(P:Params)(a:Nat)(b:List Stmt):Nat:=(vh P dot .none b (a+7) 0).a+2
noncomputable def stO(P:Params)(r:Nat)(sub:List Value)(a t:Nat)(md:Value)(s:Stmt):List Obj:=match s with
 |.FunctionDef n p b _ _ _ sc _ _ pos=>fnO n a t md n p b sc pos.line
 |.ClassDef n bs _ body _ _ _ _ _ st pos=>
  let m:=vh P n md body (a+7) (t+12)
  let c:=m.a+2
  let u:=m.t+st.length
  let d1:=[enO P "__module__" (t+7) md]
  let d2:=enO P "__firstlineno__" (t+11) (.int pos.line (t+10))::m.es++[enO P "__static_attributes__" u (.ref m.a)]
  let b:List Value:=match bs with |b::_=>(match vg b with |true=>[.type "ValueError"] |false=>[.ref r]) |[]=>[]
  let own:Bool:=match bs with |[]=>true |_=>false
  let ve:Bool:=match bs with |b::_=>vg b |[]=>false
  let wr (v:Nat):Obj:=fu (.type "getset_descriptor") [sv "__weakref__" v,.ref c,.builtin "ExceptionGroup.__weakref__",.none]
  let typ (mro:List Value) (sub:List Value) (nw:String):Obj:=
   ⟨.type "type",none,.cls { name:=n,bases:=(match own with |true=>[.type "object"] |false=>b),mro:=.ref c::mro,ns:=m.a+1,qualname:=n,subclasses:=sub },
    ⟨[(match own with |true=>none |false=>some (.ref a)),none,some (sv n t),some (sv n (t+8)),some (.builtin nw),some (.bool true)]⟩⟩
  [gF b,bfO "type.__prepare__" (.type "type"),nF (d1++enO P "__qualname__" (t+9) (sv n (t+8))::d2) (4+m.es.length),gF [],fu .none m.cs,
   Aa n n pos.line 0 0 (a+3) (a+4) false .none .none .none (t+2) (t+5),frO (a+5) (a+2) md]++m.os++[gF (toks m.t st)] ++
  (match own with
  |true=>[nF (d1++d2++[enO P "__dict__" (u+2) (.ref (c+1)),enO P "__weakref__" (u+4) (.ref (c+2)),enO P "__doc__" (u+5) .none]) 4,typ [.type "object"] [] "object.__new__",
    fu (.type "getset_descriptor") [sv "__dict__" (u+1),.ref c,.builtin "function.__dict__",.builtin "function.__dict__#set"],wr (u+3)]
  |false=>(match ve with
   |true=>[nF (d1++d2++[enO P "__weakref__" (u+2) (.ref (c+1)),enO P "__doc__" (u+3) .none]) 3,typ veM sub "ValueError.__new__",wr (u+1)]
   |false=>[nF (d1++d2++[enO P "__doc__" (u+1) .none]) 2,typ (.ref r::veM) [] "ValueError.__new__"])) ++
  [fu (.type "super") [.ref c,.ref c,.ref c],bfO "object.__init_subclass__" (.ref c)]
 |_=>[]
noncomputable def mdO(t:Nat)(md:Value)(s:Stmt):Value:=match s with
 |.Assign [.Name n _] (.Constant (.str x) _ _) _=>(match n==("__name__":Str) with |true=>sv x t |false=>md)
 |_=>md
noncomputable def enS(P:Params)(lk:Str->Value)(t u a a':Nat)(s:Stmt):List DictEntry:=match s with
 |.Assign [.Name n _] (.Name y _) _=>[enO P n t (lk y)]
 |.FunctionDef n _ _ _ _ _ _ _ _ _=>[enO P n (u-1) (.ref (a'-1))]
 |.ClassDef n _ _ b _ _ _ _ _ _ _=>[enO P n (u-1) (.ref (clA P a b))]
 |.Assign [.Name n _] (.Constant c _ _) _=>(match n==("__name__":Str) with
  |true=>[]
  |false=>[enO P n (t+1) (match c with |.int i=>.int i t |.str x=>sv x t |_=>.none)])
 |_=>[]
noncomputable def fnS(a':Nat)(s:Stmt):List (Str×Value):=match s with
 |.FunctionDef n _ _ _ _ _ _ _ _ _=>[(n,.ref (a'-1))]
 |_=>[]
noncomputable def cdS(a a':Nat)(s:Stmt):List Value:=match s with
 |.FunctionDef _ _ _ _ _ _ _ _ _ pos=>[ri pos.line,ri pos.col,.ref (a'-2)]
 |.ClassDef _ _ _ _ _ _ _ _ _ _ pos=>[ri pos.line,ri pos.col,.ref (a+5)]
 |_=>[]
noncomputable def sbS(P:Params)(a:Nat)(s:Stmt):List Value:=match s with
 |.ClassDef _ bs _ b0 _ _ _ _ _ _ _=>(match bs with |b::_=>(match vg b with |true=>[] |false=>[.ref (clA P a b0)]) |[]=>[])
 |_=>[]
noncomputable def aeF(P:Params)(a:Nat)(s:Stmt):List Nat:=match s with
 |.ClassDef _ bs _ b0 _ _ _ _ _ _ _=>(match bs with |b::_=>(match vg b with |true=>[clA P a b0] |false=>[]) |[]=>[])
 |_=>[]
noncomputable def fold{α:Type}(f:Nat->Nat->Nat->Nat->Value->Stmt->List α):List (Nat×Nat)->Value->List Stmt->List α
 | (a,t)::(a',u)::r,md,s::ss=>f a a' t u md s++fold f ((a',u)::r) (mdO t md s) ss
 |_,_,_=>[]
def Pn:List (Nat×Nat)->Value->List Stmt->Value
 | (_,t)::r,md,s::ss=>Pn r (mdO t md s) ss
 |_,md,_=>md
def gG:Value:=sv "__main__" 164
noncomputable def aeG(P:Params)(v:Value):List DictEntry:=
 [enO P "__name__" 165 v,enO P "__doc__" 166 .none,enO P "__package__" 167 .none,enO P "__loader__" 168 (.builtin "__main__.__loader__#opaque"),enO P "__spec__" 169 .none,
  enO P "__annotations__" 170 (.ref 6),enO P "__builtins__" 171 (.ref 4),enO P "__file__" 173 (sv nA 172),enO P "__cached__" 174 .none]
noncomputable def ents(N:List (Nat×Nat))(b:List Stmt)(P:Params):List DictEntry:=aeG P (Pn N gG b)++fold (λa a' t u _ s=>enS P (λy=>((fold (λ_ a' _ _ _ s=>fnS a' s) N gG b).lookup y).getD .none) t u a a' s) N gG b
def put{α:Type}:Nat->α->List α->List α
 |_,_,[]=>[]
 |0,x,_::r=>x::r
 |n+1,x,y::r=>y::put n x r
noncomputable def Pq(cs:List Value):List Obj:=[gF [],fu .none cs,
 fu (.type "code") [sv "<module>" 182,sv "<module>" 183,sv nA 184,ri 1,ri 0,ri 0,ri 0,ri 0,.ref 11,.bool false,ri 181,.ref 12,.none,.none,.none,.none,ri 185,ri 1,sv nA 186],frO 13 3 gG]
def aeH(B:List Obj):List Obj:=B++Pq []
noncomputable def objs(B:List Obj)(N:List (Nat×Nat))(b:List Stmt)(P:Params):List Obj:=
 let es:=ents N b P
 put 3 (nF es es.length) (B++Pq (fold (λa a' _ _ _ s=>cdS a a' s) N gG b) ++
  fold (λa _ t _ md s=>stO P ((fold (λa _ _ _ _ s=>aeF P a s) N gG b).headD 0) (fold (λa _ _ _ _ s=>sbS P a s) N gG b) a t md s) N gG b)
def evs{α:Type}:List α->List α
 |[]=>[]
 |[x]=>[x]
 |x::_::r=>x::evs r
noncomputable def bt:Nat->List Obj->BT
 |0,_=>.nil
 |_,[]=>.nil
 |n+1,x::r=>.node x (bt n (evs r)) (bt n (evs r.tail))
def nameless(s:Stmt):Bool:=match s with
 |.Assign [.Name n _] _ _=>!(n==("__name__":Str))
 |_=>true
noncomputable def pick:Nat->List Nat->List Obj->Frag
 |i,a::r,o::os=>(match Nat.beq a i with |true=>(a,o)::pick (i+1) r os |false=>pick (i+1) (a::r) os)
 |_,_,_=>[]
end HD
def PySem.W.Fast.tw11211404501089354263:PySem.Program:=PySem.Challenge.pw_starsieve_k65_whole_sieves_and_books
theorem PySem.W.Fast.te11211404501089354263:PySem.Challenge.pw_starsieve_k65_whole_sieves_and_books=PySem.W.Fast.tw11211404501089354263:=rfl
namespace HK
open PySem PySem.W PySem.W.Fast
def pw:Program:=PySem.Challenge.pw_starsieve_k65_whole_sieves_and_books
def rl:OpenLaw:=PySem.Challenge.rw_starsieve_k65_whole_sieves_and_books
noncomputable def NN:List (Nat×Nat):=[(15,187),(22,194),(22,196),(35,214),(47,230),(59,246),(71,262),(83,278),(95,294),(107,310),(107,312),(107,314),(114,321),(121,328),(128,336),(133,342),(140,350),(147,358),(152,364),(159,373),(166,384),(173,391),(173,393),(173,395),(173,397),(173,399),(178,405),(185,413),(190,419),(197,426),(204,434),(211,442),(218,454),(225,462),(232,470),(232,472),(239,479),(246,488),(253,499),(260,509),(267,520),(272,526),(272,528),(279,537),(284,543),(291,553),(298,562),(298,564),(305,574),(312,584),(312,586),(317,592),(322,598),(322,599),(322,601),(399,699),(399,701),(406,709),(413,719),(413,721),(420,732),(427,742),(434,749),(441,760),(446,766),(453,774),(460,784),(467,794),(474,806),(479,812),(486,826),(491,832),(496,838),(503,848),(510,860),(517,872),(524,887)]
def L1(P:Params):List Obj:=HD.objs (boot_heap P).objs.toList NN pw.main.body P
def H1(P:Params):Heap:=⟨⟨L1 P⟩,{}⟩
def T1(P:Params):BT:=HD.bt 12 (L1 P)
def LA(P:Params):List Obj:=HD.aeH (boot_heap P).objs.toList
def HA(P:Params):Heap:=⟨⟨LA P⟩,{}⟩
def T0(P:Params):BT:=HD.bt 5 (LA P)
def env:Env:={ scope:=pw.main.scope,locals:=mainNs,globals:=mainNs,cells:=[],code:=.ref 13,frame:=some 14 }
def bE:List Stmt:=behindTheImports pw
def cE:Code:=.body bE env
def p0:Pos:=⟨0,0,0,0⟩
def B:List Frame:=[topFrame p0]
def ann:Option Value:=some (.ref 6)
def qv:Program:={ pw with main:={ pw.main with body:=pw.main.body.filter HD.nameless } }
noncomputable def as:List Nat:=[3,30,31,43,44,55,56,67,68,79,80,91,92,103,104,112,113,119,120,126,127,131,132,138,139,145,146,150,151,157,158,164,165,171,172,176,177,183,184,188,189,195,196,202,203,209,210,216,217,223,224,230,231,237,238,244,245,251,252,258,259,265,266,270,271,277,278,282,283,289,290,296,297,303,304,310,311,315,316,320,321,334,335,341,342,355,356,362,363,369,370,376,377,383,384,393,394,404,405,411,412,418,419,425,426,432,433,439,440,444,445,451,452,458,459,465,466,472,473,477,478,484,485,489,490,494,495,501,502,508,509,515,516,522,523]
def K(P:Params):Frag:=HD.pick 0 as (L1 P)
def Xt(s:Shared):Bool:=xlAt qv [] s&&recOk (RowW.records rl.row.toRowW) s
def see{α:Type}(_:α):Bool:=true
theorem primed:(see T1&&see T0&&see H1&&see HA&&see cE&&see B&&see env&&see bE&&see qv&&see K&&see Xt)=true:=by k_qdec
theorem pre(w:World)(os:OsState):topGo treeTable pw w 11 ann 12 ⟨boot_heap w.params,⟨[]⟩,boot_drawn,boot_toks,os⟩ (topStub pw)=some (⟨HA w.params,⟨[]⟩,{},187,os⟩,⟨denote treeTable cE,cE,p0,B⟩):=by have _:=primed;rw[PySem.W.Fast.te15667345088766844465,PySem.W.Fast.te14364793385576792824,PySem.W.Fast.te1032975242618825031,PySem.W.Fast.te8093259214132618727,PySem.W.Fast.te1718297227530528222,PySem.W.Fast.te11892475500146522536];rfl'
theorem block(w:World)(os:OsState):segRun treeTable pw w 11 ann 1 2 ⟨HA w.params,⟨[]⟩,{},187,os⟩ (blockOf bE env cE p0 B)=some (.next,SharedT.abs ⟨T0 w.params,15,{},⟨[]⟩,{},187,os⟩,cE,p0):=by rw[PySem.W.Fast.te14374325043358763698,PySem.W.Fast.te14364793385576792824,PySem.W.Fast.te1032975242618825031,PySem.W.Fast.te8093259214132618727,PySem.W.Fast.te1718297227530528222,PySem.W.Fast.te14938417808399470215,PySem.W.Fast.te16330338443398637341,PySem.W.Fast.te10239294469119128424];rfl'
theorem piece(w:World)(os:OsState):segRunT treeTable pw w 11 ann 1 9000 ⟨T0 w.params,15,{},⟨[]⟩,{},187,os⟩ (piecesOf bE env cE p0 B)=some (.next,⟨T1 w.params,524,{},⟨[]⟩,{},887,os⟩,cE,⟨341,0,359,15⟩):=by rw[PySem.W.Fast.te10110043849684766642,PySem.W.Fast.te14364793385576792824,PySem.W.Fast.te1032975242618825031,PySem.W.Fast.te13069687644243786066,PySem.W.Fast.te14938417808399470215,PySem.W.Fast.te1718297227530528222,PySem.W.Fast.te16330338443398637341,PySem.W.Fast.te10239294469119128424];rfl'
theorem fin(w:World)(os:OsState):topRun treeTable pw w 11 ann 3 (SharedT.abs ⟨T1 w.params,524,{},⟨[]⟩,{},887,os⟩) ⟨doneF .next,cE,⟨341,0,359,15⟩,B⟩=some ⟨H1 w.params,⟨[]⟩,{},887,os⟩:=by rw[PySem.W.Fast.te14082659384304107361,PySem.W.Fast.te14364793385576792824,PySem.W.Fast.te1032975242618825031,PySem.W.Fast.te13069687644243786066,PySem.W.Fast.te1718297227530528222,PySem.W.Fast.te14158929756966004236];rfl'
theorem run(w:World)(os:OsState):topRun treeTable pw w 11 ann (12+(2+(9000+3))) ⟨boot_heap w.params,⟨[]⟩,boot_drawn,boot_toks,os⟩ (topStub pw)=some ⟨H1 w.params,⟨[]⟩,{},887,os⟩:=by refine go_top (pre w os) (piece_block (block w os) ?_);have h:=piece_app (rest:=[]) (segRun_of (piece w os)) (piece_nil (fin w os));rw[List.append_nil]at h;exact h
theorem size (w:World):((boot_heap w.params).isNs mainGlobals&&(Array.mk []:Array GenState).size==0,(boot_heap w.params).objs.size,(boot_heap w.params).nsMap mainGlobals "__annotations__")=(true,11,ann):=by rfl'
theorem aeI(w:World)(os:OsState):(staticsOk (importedModules pw.main.body) (boot_heap w.params) (H1 w.params)&&namesBound pw (H1 w.params)&&gensDone ⟨H1 w.params,⟨[]⟩,{},887,os⟩&&laidKept (boot_heap w.params) (H1 w.params))=true:=by rw[PySem.W.Fast.te1032975242618825031,PySem.W.Fast.te14158929756966004236,PySem.W.Fast.te5923862056798008813];rfl'
theorem aeJ (w:World) (os:OsState):openSeen qv ["hidden_reached"] (importedModules pw.main.body) Xt true ⟨H1 w.params,⟨[]⟩,{},887,os⟩=openGood qv ["hidden_reached"]:=by rw[PySem.W.Fast.te1032975242618825031,PySem.W.Fast.te14158929756966004236,PySem.W.Fast.te5923862056798008813,PySem.W.Fast.te3994408356199485718,PySem.W.Fast.te3154452736318265832,PySem.W.Fast.te4187177175401517315];rfl'
theorem aeK(w:World):as.map (H1 w.params).get?=(K w.params).map (λp=>some p.2):=by rw[PySem.W.Fast.te14158929756966004236,PySem.W.Fast.te538113369711794958];rfl'
theorem eAs(P:Params):as=(K P).map (·.1):=by rw[PySem.W.Fast.te538113369711794958];rfl'
def hook:Hook:=kHook K as eAs
theorem left:LeftO pw qv ["hidden_reached"] Xt hook.obs hook.val 12000:=by refine LeftO.of_pieces (boot_open (by rfl') (by decide) (λs=>by rfl')) size run (by decide) λw=>funext λos=>?_;exact Prod.ext (aeI w os) (Prod.ext (aeJ w os) (aeK w))
end HK
namespace Lk65
open PySem PySem.Spec PyProof.Rows L2 RF
open PySem.W (mg_of mg_none_of)
def Φ:aa:=λf=>if f="is_deed" then uD else if f="is_text_of" then uA else if f="is_form" then uC else if f="is_row" then zB else if f="is_whole" then aO iz else if f="is_width" then zE else if f="is_book" then zF else if f="need_book" then fW else if f="both" then aO mX else if f="first_touching" then mY else if f="splitting_place" then uI else if f="with_sign" then aO gD else if f="grown" then eF 9 else if f="least" then aO iJ else if f="is_named" then aO fY else if f="is_place" then aO dH else if f="leaves" then dI 9 else if f="need_row" then jN else if f="reach" then uN else if f="hidden" then jO else if f="hidden_reached" then jO else if f="need_two_books" then m7 else if f="deed_of" then mW else if f="same_deeds" then sSD else if f="stars" then aO iH else if f="alike" then jP else if f="parting_word" then m8 else if f="_law_anew" then ux else if f="_law_spread" then uw else if f="_law_take" then d8 else if f="_law_signs" then mJ else if f="_law_deeds_of" then uy else if f="_law_form" then zj else if f="_law_wider" then iC else if f="_law_within" then iC else if f="_law_form_like" then mU else if f="_law_book" then uz else if f="_law_forms" then vf else if f="without" then sWo else if f="_law_same" then cY 9 else if f="_law_word_of" then nq else if f="exchanged" then sEx else if f="may_swap" then nu else if f="fits" then aO mV else if f="is_word" then uB else if f="met" then uE else if f="deed" then uG else if f="parts" then uY else if f="_law_open" then zm else if f="needless" then uU else if f="Sieve" then iK else if f="Sieve.book" then eH else if f="Sieve.hidden" then u6 else if f="Sieve.turn" then jR else if f="Sieve.put" then m9 else if f="Sieve.move" then uW else if f="Sieve.out" then ni else if f="_law_move_right" then vd else if f="_law_out_right" then u9 else if f="law" then mK else bz (λ_ _=>False) (λ_ _ _ _=>False)
def Ab:Φ "is_deed"=uD:=by rfl'
def Ac:Φ "is_text_of"=uA:=by rfl'
def Ad:Φ "is_form"=uC:=by rfl'
def Pr:Φ "is_row"=zB:=by rfl'
def Ae:Φ "is_whole"=aO iz:=by rfl'
def Pu:Φ "is_width"=zE:=by rfl'
def Px:Φ "is_book"=zF:=by rfl'
def iM:Φ "need_book"=fW:=by rfl'
def Py:Φ "both"=aO mX:=by rfl'
def Af:Φ "first_touching"=mY:=by rfl'
def Pz:Φ "splitting_place"=uI:=by rfl'
def Ag:Φ "with_sign"=aO gD:=by rfl'
def Ah:Φ "grown"=eF 9:=by rfl'
def Ai:Φ "least"=aO iJ:=by rfl'
def PK:Φ "is_named"=aO fY:=by rfl'
def nG:Φ "is_place"=aO dH:=by rfl'
def Aj:Φ "leaves"=dI 9:=by rfl'
def vm:Φ "need_row"=jN:=by rfl'
def PL:Φ "reach"=uN:=by rfl'
def PN:Φ "hidden"=jO:=by rfl'
def PP:Φ "hidden_reached"=jO:=by rfl'
def Ak:Φ "need_two_books"=m7:=by rfl'
def Al:Φ "deed_of"=mW:=by rfl'
def PQ:Φ "same_deeds"=sSD:=by rfl'
def P0:Φ "stars"=aO iH:=by rfl'
def vo:Φ "alike"=jP:=by rfl'
def Am:Φ "parting_word"=m8:=by rfl'
def Qa:Φ "_law_anew"=ux:=by rfl'
def Qc:Φ "_law_spread"=uw:=by rfl'
def gb:Φ "_law_take"=d8:=by rfl'
def An:Φ "_law_signs"=mJ:=by rfl'
def Qd:Φ "_law_deeds_of"=uy:=by rfl'
def Qe:Φ "_law_form"=zj:=by rfl'
def Qf:Φ "_law_wider"=iC:=by rfl'
def Qg:Φ "_law_within"=iC:=by rfl'
def Ao:Φ "_law_form_like"=mU:=by rfl'
def Qh:Φ "_law_book"=uz:=by rfl'
def Qi:Φ "_law_forms"=vf:=by rfl'
def nH:Φ "without"=sWo:=by rfl'
def vp:Φ "_law_same"=cY 9:=by rfl'
def Aq:Φ "_law_word_of"=nq:=by rfl'
def Qj:Φ "exchanged"=sEx:=by rfl'
def Qk:Φ "may_swap"=nu:=by rfl'
def Ql:Φ "fits"=aO mV:=by rfl'
def Qm:Φ "is_word"=uB:=by rfl'
def Qn:Φ "met"=uE:=by rfl'
def Qo:Φ "deed"=uG:=by rfl'
def Qp:Φ "parts"=uY:=by rfl'
def Qq:Φ "_law_open"=zm:=by rfl'
def Qs:Φ "needless"=uU:=by rfl'
theorem vq:Φ "Sieve"=iK:=by rfl'
theorem gf:Φ "Sieve.book"=eH:=by rfl'
theorem Qt:Φ "Sieve.hidden"=u6:=by rfl'
theorem vy:Φ "Sieve.turn"=jR:=by rfl'
theorem Ar:Φ "Sieve.put"=m9:=by rfl'
theorem Qu:Φ "Sieve.move"=uW:=by rfl'
theorem Av:Φ "Sieve.out"=ni:=by rfl'
def Qv:Φ "_law_move_right"=vd:=by rfl'
def Qw:Φ "_law_out_right"=u9:=by rfl'
noncomputable def bt:List String:=["abs","all","bool","enumerate","int","isinstance","len","list","min","range","str","tuple","zip"]
noncomputable def cn:List (String×D):=[("LETTERS",(.str [97,98,99,100,101,102,103,104,105,106,107,108,109,110,111,112,113,114,115,116,117,118,119,120,121,122])),("LONGEST_DEED",(.int 8)),("MOST_ROWS",(.int 12)),("WIDEST",(.int 6))]
noncomputable def xs:List (String×Bool):=[("NoBook",true),("NoMatch",true),("NoWord",true),("NoRow",true),("NoForm",true),("Full",true)]
def f0:List (String×Nat):=[]
def o0:OT:={}
def f1:=("is_deed",1)::f0
def f2:=("is_text_of",3)::f1
def f3:=("is_form",2)::f2
def f4:=("is_row",2)::f3
def f5:=("is_whole",1)::f4
def f6:=("is_width",1)::f5
def f7:=("is_book",1)::f6
def f8:=("need_book",1)::f7
def f9:=("both",2)::f8
def f10:=("first_touching",2)::f9
def f11:=("splitting_place",2)::f10
def f12:=("with_sign",3)::f11
def f13:=("grown",3)::f12
def f14:=("least",1)::f13
def f15:=("is_named",3)::f14
def f16:=("is_place",2)::f15
def f17:=("leaves",2)::f16
def f18:=("need_row",2)::f17
def f19:=("reach",2)::f18
def f20:=("hidden",1)::f19
def f21:=("hidden_reached",1)::f20
def f22:=("need_two_books",2)::f21
def f23:=("deed_of",2)::f22
def f24:=("same_deeds",3)::f23
def f25:=("stars",1)::f24
def f26:=("alike",2)::f25
def f27:=("parting_word",2)::f26
def f28:=("_law_anew",1)::f27
def f29:=("_law_spread",2)::f28
def f30:=("_law_take",2)::f29
def f31:=("_law_signs",3)::f30
def f32:=("_law_deeds_of",2)::f31
def f33:=("_law_form",2)::f32
def f34:=("_law_wider",2)::f33
def f35:=("_law_within",2)::f34
def f36:=("_law_form_like",3)::f35
def f37:=("_law_book",3)::f36
def f38:=("_law_forms",1)::f37
def f39:=("without",2)::f38
def f40:=("_law_same",2)::f39
def f41:=("_law_word_of",2)::f40
def f42:=("exchanged",2)::f41
def f43:=("may_swap",2)::f42
def f44:=("fits",2)::f43
def f45:=("is_word",2)::f44
def f46:=("met",2)::f45
def f47:=("deed",2)::f46
def f48:=("parts",3)::f47
def f49:=("_law_open",1)::f48
def f50:=("needless",2)::f49
def o1:OT:={ o0 with fl:=("Sieve","books")::o0.fl }
def o2:OT:={ o1 with ks:=("Sieve",1)::o1.ks }
def o3:OT:={ o2 with ms:=("Sieve.book","Sieve","book",1)::o2.ms }
def o4:OT:={ o3 with ms:=("Sieve.hidden","Sieve","hidden",1)::o3.ms }
def o5:OT:={ o4 with ms:=("Sieve.turn","Sieve","turn",2)::o4.ms }
def o6:OT:={ o5 with ms:=("Sieve.put","Sieve","put",4)::o5.ms }
def o7:OT:={ o6 with ms:=("Sieve.move","Sieve","move",3)::o6.ms }
def o8:OT:={ o7 with ms:=("Sieve.out","Sieve","out",2)::o7.ms }
def f51:=("_law_move_right",3)::f50
def f52:=("_law_out_right",2)::f51
def S(i:Nat):Stmt:=HK.pw.main.body.getD i (.Pass ⟨0,0,0,0⟩)
noncomputable def SM(i j:Nat):Stmt:=match S i with |.ClassDef _ _ _ b _ _ _ _ _ _ _=>b.getD j (.Pass ⟨0,0,0,0⟩) |s=>s
def nJ:Stmt:=S 25
theorem aeL:fnB ["thing"] ["thing"] (ao nJ)=true:=by decide +kernel
theorem aeM:aC (aH ["thing"] (ao nJ) f0 bt cn xs o0) lq (aF nJ)=true:=by decide +kernel
def nM:Stmt:=S 14
theorem aeN:fnB ["signs","width","thing"] ["signs","width","thing"] (ao nM)=true:=by decide +kernel
theorem aeO:aC (aH ["signs","width","thing"] (ao nM) f1 bt cn xs o0) lr (aF nM)=true:=by decide +kernel
def nO:Stmt:=S 16
theorem aeP:fnB ["width","thing"] ["width","thing"] (ao nO)=true:=by decide +kernel
theorem aeQ:aC (aH ["width","thing"] (ao nO) f2 bt cn xs o0) lu (aF nO)=true:=by decide +kernel
def nP:Stmt:=S 26
theorem aeR:fnB ["width","thing"] ["width","thing"] (ao nP)=true:=by decide +kernel
theorem aeS:aC (aH ["width","thing"] (ao nP) f3 bt cn xs o0) lw (aF nP)=true:=by decide +kernel
def nQ:Stmt:=S 11
theorem aeT:fnB ["thing"] ["thing"] (ao nQ)=true:=by decide +kernel
theorem aeU:aC (aH ["thing"] (ao nQ) f4 bt cn xs o0) lz (aF nQ)=true:=by decide +kernel
def nR:Stmt:=S 12
theorem aeV:fnB ["thing"] ["thing"] (ao nR)=true:=by decide +kernel
theorem aeW:aC (aH ["thing"] (ao nR) f5 bt cn xs o0) lA (aF nR)=true:=by decide +kernel
def nT:Stmt:=S 27
theorem aeX:fnB ["thing","width","rows"] ["thing"] (ao nT)=true:=by decide +kernel
theorem aeY:aC (aH ["thing","width","rows"] (ao nT) f6 bt cn xs o0) lB (aF nT)=true:=by decide +kernel
def nU:Stmt:=S 28
theorem aeZ:fnB ["book"] ["book"] (ao nU)=true:=by decide +kernel
theorem ae0:aC (aH ["book"] (ao nU) f7 bt cn xs o0) lC (aF nU)=true:=by decide +kernel
def nW:Stmt:=S 19
theorem ae1:fnB ["form","other","shared","one","two"] ["form","other"] (ao nW)=true:=by decide +kernel
theorem ae2:aC (aH ["form","other","shared","one","two"] (ao nW) f8 bt cn xs o0) lD (aF nW)=true:=by decide +kernel
def nY:Stmt:=S 38
theorem ae3:fnB ["rows","box","number","row"] ["rows","box"] (ao nY)=true:=by decide +kernel
theorem ae4:aC (aH ["rows","box","number","row"] (ao nY) f9 bt cn xs o0) lE (aF nY)=true:=by decide +kernel
def nZ:Stmt:=S 39
theorem ae5:fnB ["rows","box","number","at","sign"] ["rows","box"] (ao nZ)=true:=by decide +kernel
theorem ae6:aC (aH ["rows","box","number","at","sign"] (ao nZ) f10 bt cn xs o0) lF (aF nZ)=true:=by decide +kernel
def n6:Stmt:=S 18
theorem ae7:fnB ["form","at","sign"] ["form","at","sign"] (ao n6)=true:=by decide +kernel
theorem ae8:aC (aH ["form","at","sign"] (ao n6) f11 bt cn xs o0) lG (aF n6)=true:=by decide +kernel
def oh:Stmt:=S 40
theorem ae9:fnB ["name","many_rows","box","rows","at","zero","one"] ["name","many_rows","box"] (ao oh)=true:=by decide +kernel
theorem afa:aC (aH ["name","many_rows","box","rows","at","zero","one"] (ao oh) f13 bt cn xs o0) jF (aF oh)=true:=by decide +kernel
def ou:Stmt:=S 20
def oA:Stmt:=S 36
theorem afb:fnB ["name","many","thing"] ["name","many","thing"] (ao oA)=true:=by decide +kernel
theorem afc:aC (aH ["name","many","thing"] (ao oA) f14 bt cn xs o0) lH (aF oA)=true:=by decide +kernel
def oE:Stmt:=S 13
theorem afd:fnB ["many","thing"] ["many","thing"] (ao oE)=true:=by decide +kernel
theorem afe:aC (aH ["many","thing"] (ao oE) f15 bt cn xs o0) lJ (aF oE)=true:=by decide +kernel
def oF:Stmt:=S 37
theorem afg:fnB ["box","tree","at","zero","one"] ["box","tree"] (ao oF)=true:=by decide +kernel
theorem afh:aC (aH ["box","tree","at","zero","one"] (ao oF) f17 bt cn xs o0) iw (aF oF)=true:=by decide +kernel
def oG:Stmt:=S 30
theorem afi:fnB ["book","number"] ["book","number"] (ao oG)=true:=by decide +kernel
theorem afj:aC (aH ["book","number"] (ao oG) f17 bt cn xs o0) lK (aF oG)=true:=by decide +kernel
def oH:Stmt:=S 50
theorem afk:fnB ["book","number","rows","form","tree","free"] ["book","number"] (ao oH)=true:=by decide +kernel
theorem afl:aC (aH ["book","number","rows","form","tree","free"] (ao oH) f18 bt cn xs o0) lL (aF oH)=true:=by decide +kernel
def oJ:Stmt:=S 51
theorem afm:fnB ["book"] ["book"] (ao oJ)=true:=by decide +kernel
theorem afn:aC (aH ["book"] (ao oJ) f19 bt cn xs o0) lM (aF oJ)=true:=by decide +kernel
def oK:Stmt:=S 29
theorem afo:fnB ["one","other"] ["one","other"] (ao oK)=true:=by decide +kernel
theorem afp:aC (aH ["one","other"] (ao oK) f21 bt cn xs o0) lN (aF oK)=true:=by decide +kernel
def oM:Stmt:=S 32
theorem afq:fnB ["book","number"] ["book","number"] (ao oM)=true:=by decide +kernel
theorem afr:aC (aH ["book","number"] (ao oM) f22 bt cn xs o0) jG (aF oM)=true:=by decide +kernel
def oN:Stmt:=S 42
theorem afs:fnB ["one","other","leaf"] ["one","other","leaf"] (ao oN)=true:=by decide +kernel
theorem aft:aC (aH ["one","other","leaf"] (ao oN) f23 bt cn xs o0) lO (aF oN)=true:=by decide +kernel
def oO:Stmt:=S 35
theorem afu:fnB ["width"] ["width"] (ao oO)=true:=by decide +kernel
theorem afv:aC (aH ["width"] (ao oO) f24 bt cn xs o0) lQ (aF oO)=true:=by decide +kernel
def oR:Stmt:=S 43
theorem afw:fnB ["one","other","box","tree","parting"] ["one","other"] (ao oR)=true:=by decide +kernel
theorem afx:aC (aH ["one","other","box","tree","parting"] (ao oR) f25 bt cn xs o0) lR (aF oR)=true:=by decide +kernel
def oU:Stmt:=S 44
theorem afy:fnB ["one","other","name","shown"] ["one","other"] (ao oU)=true:=by decide +kernel
theorem afz:aC (aH ["one","other","name","shown"] (ao oU) f26 bt cn xs o0) lU (aF oU)=true:=by decide +kernel
def oV:Stmt:=S 61
theorem afA:fnB ["pen"] ["pen"] (ao oV)=true:=by decide +kernel
theorem afB:aC (aH ["pen"] (ao oV) f27 bt cn xs o0) yL (aF oV)=true:=by decide +kernel
def oW:Stmt:=S 59
theorem afC:fnB ["cell","at","one","two","three"] ["cell","at"] (ao oW)=true:=by decide +kernel
theorem afD:aC (aH ["cell","at","one","two","three"] (ao oW) f28 bt cn xs o0) yM (aF oW)=true:=by decide +kernel
def oX:Stmt:=S 62
theorem afE:fnB ["pen","many","at","cell","found"] ["pen","many"] (ao oX)=true:=by decide +kernel
theorem afF:aC (aH ["pen","many","at","cell","found"] (ao oX) f29 bt cn xs o0) yN (aF oX)=true:=by decide +kernel
def oY:Stmt:=S 63
theorem afG:fnB ["pen","width","signs"] ["pen","width","signs"] (ao oY)=true:=by decide +kernel
theorem afH:aC (aH ["pen","width","signs"] (ao oY) f30 bt cn xs o0) yO (aF oY)=true:=by decide +kernel
def oZ:Stmt:=S 68
theorem afI:fnB ["pen","most","some","turn","found","letters"] ["pen","most"] (ao oZ)=true:=by decide +kernel
theorem afJ:aC (aH ["pen","most","some","turn","found","letters"] (ao oZ) f31 bt cn xs o0) yP (aF oZ)=true:=by decide +kernel
def o9:Stmt:=S 64
theorem afK:fnB ["pen","width"] ["pen","width"] (ao o9)=true:=by decide +kernel
theorem afL:aC (aH ["pen","width"] (ao o9) f32 bt cn xs o0) yQ (aF o9)=true:=by decide +kernel
def ph:Stmt:=S 66
theorem afM:fnB ["pen","form","found","sign"] ["pen","form"] (ao ph)=true:=by decide +kernel
theorem afN:aC (aH ["pen","form","found","sign"] (ao ph) f33 bt cn xs o0) yR (aF ph)=true:=by decide +kernel
def pq:Stmt:=S 65
theorem afO:fnB ["pen","form","found","sign"] ["pen","form"] (ao pq)=true:=by decide +kernel
theorem afP:aC (aH ["pen","form","found","sign"] (ao pq) f34 bt cn xs o0) yS (aF pq)=true:=by decide +kernel
def pA:Stmt:=S 67
theorem afQ:fnB ["pen","width","forms","kind","form","at"] ["pen","width","forms"] (ao pA)=true:=by decide +kernel
theorem afR:aC (aH ["pen","width","forms","kind","form","at"] (ao pA) f35 bt cn xs o0) yU (aF pA)=true:=by decide +kernel
def pB:Stmt:=S 69
theorem afS:fnB ["pen","widest","most","width","deeds","forms","rows","k"] ["pen","widest","most"] (ao pB)=true:=by decide +kernel
theorem afT:aC (aH ["pen","widest","most","width","deeds","forms","rows","k"] (ao pB) f36 bt cn xs o0) yV (aF pB)=true:=by decide +kernel
def pC:Stmt:=S 71
theorem afU:fnB ["rows"] ["rows"] (ao pC)=true:=by decide +kernel
theorem afV:aC (aH ["rows"] (ao pC) f37 bt cn xs o0) yW (aF pC)=true:=by decide +kernel
def pF:Stmt:=S 47
theorem afW:fnB ["book","number","width","rows"] ["book","number"] (ao pF)=true:=by decide +kernel
theorem afX:aC (aH ["book","number","width","rows"] (ao pF) f38 bt cn xs o0) lV (aF pF)=true:=by decide +kernel
def pG:Stmt:=S 70
theorem afY:fnB ["found","due"] ["found","due"] (ao pG)=true:=by decide +kernel
theorem afZ:aC (aH ["found","due"] (ao pG) f40 bt cn xs o0) d7 (aF pG)=true:=by decide +kernel
def pH:Stmt:=S 72
theorem af0:fnB ["one","other","word","found"] ["one","other"] (ao pH)=true:=by decide +kernel
theorem af1:aC (aH ["one","other","word","found"] (ao pH) f40 bt cn xs o0) yX (aF pH)=true:=by decide +kernel
def pI:Stmt:=S 56
theorem af2:fnB ["things","place"] ["things","place"] (ao pI)=true:=by decide +kernel
theorem af3:aC (aH ["things","place"] (ao pI) f41 bt cn xs o0) lW (aF pI)=true:=by decide +kernel
def pJ:Stmt:=S 57
theorem af4:fnB ["book","place","width","rows"] ["book","place"] (ao pJ)=true:=by decide +kernel
theorem af5:aC (aH ["book","place","width","rows"] (ao pJ) f42 bt cn xs o0) lX (aF pJ)=true:=by decide +kernel
def pK:Stmt:=S 17
theorem af6:fnB ["form","word"] ["form","word"] (ao pK)=true:=by decide +kernel
theorem af7:aC (aH ["form","word"] (ao pK) f43 bt cn xs o0) lY (aF pK)=true:=by decide +kernel
def pL:Stmt:=S 15
theorem af8:fnB ["width","thing"] ["width","thing"] (ao pL)=true:=by decide +kernel
theorem af9:aC (aH ["width","thing"] (ao pL) f44 bt cn xs o0) lZ (aF pL)=true:=by decide +kernel
def pM:Stmt:=S 31
theorem aga:fnB ["book","word","width","rows","number","row"] ["book","word"] (ao pM)=true:=by decide +kernel
theorem agb:aC (aH ["book","word","width","rows","number","row"] (ao pM) f45 bt cn xs o0) mj (aF pM)=true:=by decide +kernel
def pN:Stmt:=S 33
theorem agc:fnB ["book","word"] ["book","word"] (ao pN)=true:=by decide +kernel
theorem agd:aC (aH ["book","word"] (ao pN) f46 bt cn xs o0) mq (aF pN)=true:=by decide +kernel
def pO:Stmt:=S 45
theorem age:fnB ["one","other","word"] ["one","other","word"] (ao pO)=true:=by decide +kernel
theorem agf:aC (aH ["one","other","word"] (ao pO) f47 bt cn xs o0) my (aF pO)=true:=by decide +kernel
def pP:Stmt:=S 60
theorem agg:fnB ["script","cells","k","cell"] ["script"] (ao pP)=true:=by decide +kernel
theorem agh:aC (aH ["script","cells","k","cell"] (ao pP) f48 bt cn xs o0) yZ (aF pP)=true:=by decide +kernel
def pQ:Stmt:=S 48
theorem agi:fnB ["book","number","name","shown"] ["book","number"] (ao pQ)=true:=by decide +kernel
theorem agj:aC (aH ["book","number","name","shown"] (ao pQ) f49 bt cn xs o0) mz (aF pQ)=true:=by decide +kernel
def pR:Stmt:=SM 54 0
theorem agk:fnB ["self","book"] ["self","book"] (ao pR)=true:=by decide +kernel
theorem agl:uv (aH ["self","book"] (ao pR) f50 bt cn xs o1) "need_book" "books" (aF pR)=true:=by decide +kernel
def pU:Stmt:=SM 54 1
theorem agm:fnB ["self"] ["self"] (ao pU)=true:=by decide +kernel
theorem agn:aC (aH ["self"] (ao pU) f50 bt cn xs o2) mC (aF pU)=true:=by decide +kernel
def pW:Stmt:=SM 54 3
theorem ago:fnB ["self"] ["self"] (ao pW)=true:=by decide +kernel
theorem agp:aC (aH ["self"] (ao pW) f50 bt cn xs o3) za (aF pW)=true:=by decide +kernel
def pX:Stmt:=SM 54 4
theorem agq:fnB ["self","rows","before"] ["self","rows"] (ao pX)=true:=by decide +kernel
theorem agr:aC (aH ["self","rows","before"] (ao pX) f50 bt cn xs o4) mD (aF pX)=true:=by decide +kernel
def pY:Stmt:=SM 54 5
theorem ags:fnB ["self","number","form","deed","width","rows"] ["self","number","form","deed"] (ao pY)=true:=by decide +kernel
theorem agt:aC (aH ["self","number","form","deed","width","rows"] (ao pY) f50 bt cn xs o5) mF (aF pY)=true:=by decide +kernel
def pZ:Stmt:=SM 54 7
theorem agu:fnB ["self","number","place","row","others"] ["self","number","place"] (ao pZ)=true:=by decide +kernel
theorem agv:aC (aH ["self","number","place","row","others"] (ao pZ) f50 bt cn xs o6) mG (aF pZ)=true:=by decide +kernel
def p6:Stmt:=SM 54 6
theorem agw:fnB ["self","number"] ["self","number"] (ao p6)=true:=by decide +kernel
theorem agx:aC (aH ["self","number"] (ao p6) f50 bt cn xs o7) mH (aF p6)=true:=by decide +kernel
def p7:Stmt:=S 74
theorem agy:fnB ["book","number","place","one","other","told"] ["book","number","place"] (ao p7)=true:=by decide +kernel
theorem agz:aC (aH ["book","number","place","one","other","told"] (ao p7) f50 bt cn xs o8) zb (aF p7)=true:=by decide +kernel
def p8:Stmt:=S 73
theorem agA:fnB ["book","number","word","found","sieve","told"] ["book","number"] (ao p8)=true:=by decide +kernel
theorem agB:aC (aH ["book","number","word","found","sieve","told"] (ao p8) f51 bt cn xs o8) zc (aF p8)=true:=by decide +kernel
def qb:Stmt:=S 75
theorem agC:fnB ["script","pen","turn","book","number","place","sieve","form","told"] ["script"] (ao qb)=true:=by decide +kernel
theorem agD:aC (aH ["script","pen","turn","book","number","place","sieve","form","told"] (ao qb) f52 bt cn xs o8) zf (aF qb)=true:=by decide +kernel
theorem Qx:(Str.ofString "0":Str)=tx [48]:=by decide +kernel
theorem agE:(Str.ofString "*":Str)=tx [42]:=by decide +kernel
theorem agF:FnScope ["form"] ["form"] (ao ou):=⟨rfl,rfl,rfl,by decide +kernel,rfl,by decide +kernel,by decide +kernel⟩
def agG:Sp:=λvs H Q _=>∃l:List Nat,vs=[.str (tx l)]/\l.length<=1000/\Q (.str (tx (bB l))) H
theorem agH {P:Program} {w:World} {K:PySem.W.Frag} {mg:Str->Option Value} {base:Heap} {f:Addr} {fd:FuncData} (F:Fun K "least" "least" ou f fd):FnOk P w K mg base CX0 1 f fd ["form"] agG:=by
 refine F.ok1 agF rfl (by decide +kernel) (λ_=>rfl) (λvs H Q E h=>?_) (λcdv A outer s H vs Q E hr h=>?_)
 ·obtain ⟨l,rfl,_⟩:=h;rfl
 ·obtain ⟨l,rfl,hl,q⟩:=h;refine ⟨_,XQ (XX (pv 0) (by decide +kernel)),?_⟩;refine ⟨_,rfl,_,rfl,?_,?_⟩
  ·rw[Qx,bT,bT];simp;omega
  ·rw[agE,Qx,XS];exact q
theorem agI {P:Program} {w:World} {K:PySem.W.Frag} {mg:Str->Option Value} {base:Heap} {f:Addr} {fd:FuncData} (F:Fun K "least" "least" ou f fd):FnOk P w K mg base CX0 1 f fd ["form"] (lift K 1 (aO iJ)):=by
 refine (agH F).imp λvs H Q E h=>?_;obtain ⟨e0,Fz,G,ds,r,t,⟨ds',G'⟩,⟨e1,e2⟩,e3,e4⟩:=h;cases e1;obtain ⟨d,hd⟩:=Option.isSome_iff_exists.mp e2;have hd2:=hd;unfold iJ at hd;split at hd
 ·rename_i l;split at hd
  ·rename_i hl;cases hd;obtain ⟨v,rfl,rv⟩:=bx t;obtain ⟨rfl,_⟩:=rv;have hl':l.length<=1000:=of_decide_eq_true hl;exact ⟨l,rfl,hl',(e3 _ _ ⟨rfl,hd2⟩).now r ⟨rfl,by unfold bB;rw[List.length_map];exact Nat.le_trans hl' (by decide)⟩⟩
  ·cases hd
 ·cases hd
noncomputable def fdM(n:Str)(st:Stmt)(m:Str)(t c:Nat):FuncData:=PySem.W.fnOf n n (iU st) (aF st) (ao st) .none .none .none (.str m t) none (.ref c) .none
theorem mkF {K:PySem.W.Frag} {n m:Str} {st:Stmt} {a t c:Nat} (l:K.lookup a=some ⟨.type "function",none,.func (fdM n st m t c),⟨[]⟩⟩) (h1:PySem.W.codeIn K (.ref c) n=true) (h2:PySem.W.keepIn K (.ref a)=true):Fun K n n st a (fdM n st m t c):=Cy l h1 h2
theorem tK:type_of% @PySem.W.Fast.te538113369711794958:=PySem.W.Fast.te538113369711794958
local macro_rules|`(tactic|eq_refl)=>`(tactic|(rw[tK];rfl'))
section
variable {P:Params}
noncomputable def fdQ(n q:Str)(st:Stmt)(m:Str)(t c:Nat):FuncData:=PySem.W.fnOf n q (iU st) (aF st) (ao st) .none .none .none (.str m t) none (.ref c) .none
theorem mkQ {K:PySem.W.Frag} {n q m:Str} {st:Stmt} {a t c:Nat} (l:K.lookup a=some ⟨.type "function",none,.func (fdQ n q st m t c),⟨[]⟩⟩) (h1:PySem.W.codeIn K (.ref c) q=true) (h2:PySem.W.keepIn K (.ref a)=true):Fun K n q st a (fdQ n q st m t c):=Cy l h1 h2
theorem gh:PySem.W.nsIn (HK.K P) mainGlobals "Sieve"=some (some (.ref 394)):=by eq_refl
theorem gH:Cls (HK.K P) 394:=⟨by eq_refl,by eq_refl,by eq_refl,by eq_refl⟩
theorem Qy:NoAttr (HK.K P) 394 (Str.ofString "books"):=by show PySem.W.findIn (HK.K P) (.ref 394) (Str.ofString "books")=some none;rw[tK];rfl'
def Qz:FuncData:=fdM "is_deed" nJ "starsieve.books" 391 176
theorem QB:Fun (HK.K P) "is_deed" "is_deed" nJ 177 Qz:=mkF (by rfl') (by eq_refl) (by eq_refl)
theorem agJ:PySem.W.nsIn (HK.K P) mainGlobals "is_deed"=some (some (.ref 177)):=by eq_refl
theorem lq:Binds (HK.K P) Qz ["thing"] []:=QB.binds (ps:=["thing"]) λ_ _ _ _ _ _ us hl=>by obtain ⟨x0,rfl⟩:=cO hl;rfl
def QC:FuncData:=fdM "is_text_of" nM "starsieve.forms" 310 131
theorem QD:Fun (HK.K P) "is_text_of" "is_text_of" nM 132 QC:=mkF (by rfl') (by eq_refl) (by eq_refl)
theorem agK:PySem.W.nsIn (HK.K P) mainGlobals "is_text_of"=some (some (.ref 132)):=by eq_refl
theorem lr:Binds (HK.K P) QC ["signs","width","thing"] []:=QD.binds (ps:=["signs","width","thing"]) λ_ _ _ _ _ _ us hl=>by obtain ⟨x0,x1,x2,rfl⟩:=dF hl;rfl
def QF:FuncData:=fdM "is_form" nO "starsieve.forms" 310 145
theorem QG:Fun (HK.K P) "is_form" "is_form" nO 146 QF:=mkF (by rfl') (by eq_refl) (by eq_refl)
theorem agL:PySem.W.nsIn (HK.K P) mainGlobals "is_form"=some (some (.ref 146)):=by eq_refl
theorem lu:Binds (HK.K P) QF ["width","thing"] []:=QG.binds (ps:=["width","thing"]) λ_ _ _ _ _ _ us hl=>by obtain ⟨x0,x1,rfl⟩:=aU hl;rfl
def QH:FuncData:=fdM "is_row" nP "starsieve.books" 391 183
theorem QJ:Fun (HK.K P) "is_row" "is_row" nP 184 QH:=mkF (by rfl') (by eq_refl) (by eq_refl)
theorem agM:PySem.W.nsIn (HK.K P) mainGlobals "is_row"=some (some (.ref 184)):=by eq_refl
theorem lw:Binds (HK.K P) QH ["width","thing"] []:=QJ.binds (ps:=["width","thing"]) λ_ _ _ _ _ _ us hl=>by obtain ⟨x0,x1,rfl⟩:=aU hl;rfl
def QK:FuncData:=fdM "is_whole" nQ "starsieve.forms" 310 112
theorem QL:Fun (HK.K P) "is_whole" "is_whole" nQ 113 QK:=mkF (by rfl') (by eq_refl) (by eq_refl)
theorem agN:PySem.W.nsIn (HK.K P) mainGlobals "is_whole"=some (some (.ref 113)):=by eq_refl
theorem lz:Binds (HK.K P) QK ["thing"] []:=QL.binds (ps:=["thing"]) λ_ _ _ _ _ _ us hl=>by obtain ⟨x0,rfl⟩:=cO hl;rfl
def QM:FuncData:=fdM "is_width" nR "starsieve.forms" 310 119
theorem QQ:Fun (HK.K P) "is_width" "is_width" nR 120 QM:=mkF (by rfl') (by eq_refl) (by eq_refl)
theorem agO:PySem.W.nsIn (HK.K P) mainGlobals "is_width"=some (some (.ref 120)):=by eq_refl
theorem lA:Binds (HK.K P) QM ["thing"] []:=QQ.binds (ps:=["thing"]) λ_ _ _ _ _ _ us hl=>by obtain ⟨x0,rfl⟩:=cO hl;rfl
def QR:FuncData:=fdM "is_book" nT "starsieve.books" 391 188
theorem QS:Fun (HK.K P) "is_book" "is_book" nT 189 QR:=mkF (by rfl') (by eq_refl) (by eq_refl)
theorem agP:PySem.W.nsIn (HK.K P) mainGlobals "is_book"=some (some (.ref 189)):=by eq_refl
theorem lB:Binds (HK.K P) QR ["thing"] []:=QS.binds (ps:=["thing"]) λ_ _ _ _ _ _ us hl=>by obtain ⟨x0,rfl⟩:=cO hl;rfl
def QT:FuncData:=fdM "need_book" nU "starsieve.books" 391 195
theorem QV:Fun (HK.K P) "need_book" "need_book" nU 196 QT:=mkF (by rfl') (by eq_refl) (by eq_refl)
theorem agQ:PySem.W.nsIn (HK.K P) mainGlobals "need_book"=some (some (.ref 196)):=by eq_refl
theorem lC:Binds (HK.K P) QT ["book"] []:=QV.binds (ps:=["book"]) λ_ _ _ _ _ _ us hl=>by obtain ⟨x0,rfl⟩:=cO hl;rfl
def QW:FuncData:=fdM "both" nW "starsieve.forms" 310 164
theorem QX:Fun (HK.K P) "both" "both" nW 165 QW:=mkF (by rfl') (by eq_refl) (by eq_refl)
theorem agR:PySem.W.nsIn (HK.K P) mainGlobals "both"=some (some (.ref 165)):=by eq_refl
theorem lD:Binds (HK.K P) QW ["form","other"] []:=QX.binds (ps:=["form","other"]) λ_ _ _ _ _ _ us hl=>by obtain ⟨x0,x1,rfl⟩:=aU hl;rfl
def QZ:FuncData:=fdM "first_touching" nY "starsieve.laid" 470 258
theorem Q0:Fun (HK.K P) "first_touching" "first_touching" nY 259 QZ:=mkF (by rfl') (by eq_refl) (by eq_refl)
theorem agS:PySem.W.nsIn (HK.K P) mainGlobals "first_touching"=some (some (.ref 259)):=by eq_refl
theorem lE:Binds (HK.K P) QZ ["rows","box"] []:=Q0.binds (ps:=["rows","box"]) λ_ _ _ _ _ _ us hl=>by obtain ⟨x0,x1,rfl⟩:=aU hl;rfl
def Q3:FuncData:=fdM "splitting_place" nZ "starsieve.laid" 470 265
theorem Q4:Fun (HK.K P) "splitting_place" "splitting_place" nZ 266 Q3:=mkF (by rfl') (by eq_refl) (by eq_refl)
theorem agT:PySem.W.nsIn (HK.K P) mainGlobals "splitting_place"=some (some (.ref 266)):=by eq_refl
theorem lF:Binds (HK.K P) Q3 ["rows","box"] []:=Q4.binds (ps:=["rows","box"]) λ_ _ _ _ _ _ us hl=>by obtain ⟨x0,x1,rfl⟩:=aU hl;rfl
def Q5:FuncData:=fdM "with_sign" n6 "starsieve.forms" 310 157
theorem Q6:Fun (HK.K P) "with_sign" "with_sign" n6 158 Q5:=mkF (by rfl') (by eq_refl) (by eq_refl)
theorem agU:PySem.W.nsIn (HK.K P) mainGlobals "with_sign"=some (some (.ref 158)):=by eq_refl
theorem lG:Binds (HK.K P) Q5 ["form","at","sign"] []:=Q6.binds (ps:=["form","at","sign"]) λ_ _ _ _ _ _ us hl=>by obtain ⟨x0,x1,x2,rfl⟩:=dF hl;rfl
def Aw:FuncData:=fdM "grown" oh "starsieve.laid" 470 270
theorem vz:Fun (HK.K P) "grown" "grown" oh 271 Aw:=mkF (by rfl') (by eq_refl) (by eq_refl)
theorem Q7:PySem.W.nsIn (HK.K P) mainGlobals "grown"=some (some (.ref 271)):=by eq_refl
theorem jF:Binds (HK.K P) Aw ["name","many_rows","box"] []:=vz.binds (ps:=["name","many_rows","box"]) λ_ _ _ _ _ _ us hl=>by obtain ⟨x0,x1,x2,rfl⟩:=dF hl;rfl
def Q8:FuncData:=fdM "least" ou "starsieve.forms" 310 171
theorem Ax:Fun (HK.K P) "least" "least" ou 172 Q8:=mkF (by rfl') (by eq_refl) (by eq_refl)
theorem agV:PySem.W.nsIn (HK.K P) mainGlobals "least"=some (some (.ref 172)):=by eq_refl
theorem agW:Binds (HK.K P) Q8 ["form"] []:=Ax.binds (ps:=["form"]) λ_ _ _ _ _ _ us hl=>by obtain ⟨x0,rfl⟩:=cO hl;rfl
def Q9:FuncData:=fdM "is_named" oA "starsieve.laid" 470 244
theorem Ra:Fun (HK.K P) "is_named" "is_named" oA 245 Q9:=mkF (by rfl') (by eq_refl) (by eq_refl)
theorem agX:PySem.W.nsIn (HK.K P) mainGlobals "is_named"=some (some (.ref 245)):=by eq_refl
theorem lH:Binds (HK.K P) Q9 ["name","many","thing"] []:=Ra.binds (ps:=["name","many","thing"]) λ_ _ _ _ _ _ us hl=>by obtain ⟨x0,x1,x2,rfl⟩:=dF hl;rfl
def Rb:FuncData:=fdM "is_place" oE "starsieve.forms" 310 126
theorem Rc:Fun (HK.K P) "is_place" "is_place" oE 127 Rb:=mkF (by rfl') (by eq_refl) (by eq_refl)
theorem agY:PySem.W.nsIn (HK.K P) mainGlobals "is_place"=some (some (.ref 127)):=by eq_refl
theorem lJ:Binds (HK.K P) Rb ["many","thing"] []:=Rc.binds (ps:=["many","thing"]) λ_ _ _ _ _ _ us hl=>by obtain ⟨x0,x1,rfl⟩:=aU hl;rfl
def Ay:FuncData:=fdM "leaves" oF "starsieve.laid" 470 251
theorem vA:Fun (HK.K P) "leaves" "leaves" oF 252 Ay:=mkF (by rfl') (by eq_refl) (by eq_refl)
theorem Rf:PySem.W.nsIn (HK.K P) mainGlobals "leaves"=some (some (.ref 252)):=by eq_refl
theorem iw:Binds (HK.K P) Ay ["box","tree"] []:=vA.binds (ps:=["box","tree"]) λ_ _ _ _ _ _ us hl=>by obtain ⟨x0,x1,rfl⟩:=aU hl;rfl
def Rg:FuncData:=fdM "need_row" oG "starsieve.books" 391 209
theorem Rh:Fun (HK.K P) "need_row" "need_row" oG 210 Rg:=mkF (by rfl') (by eq_refl) (by eq_refl)
theorem agZ:PySem.W.nsIn (HK.K P) mainGlobals "need_row"=some (some (.ref 210)):=by eq_refl
theorem lK:Binds (HK.K P) Rg ["book","number"] []:=Rh.binds (ps:=["book","number"]) λ_ _ _ _ _ _ us hl=>by obtain ⟨x0,x1,rfl⟩:=aU hl;rfl
def Ri:FuncData:=fdM "reach" oH "starsieve.reached" 584 315
theorem Rj:Fun (HK.K P) "reach" "reach" oH 316 Ri:=mkF (by rfl') (by eq_refl) (by eq_refl)
theorem ag0:PySem.W.nsIn (HK.K P) mainGlobals "reach"=some (some (.ref 316)):=by eq_refl
theorem lL:Binds (HK.K P) Ri ["book","number"] []:=Rj.binds (ps:=["book","number"]) λ_ _ _ _ _ _ us hl=>by obtain ⟨x0,x1,rfl⟩:=aU hl;rfl
def Rk:FuncData:=fdM "hidden" oJ "starsieve.reached" 584 320
theorem Rm:Fun (HK.K P) "hidden" "hidden" oJ 321 Rk:=mkF (by rfl') (by eq_refl) (by eq_refl)
theorem Rn:PySem.W.nsIn (HK.K P) mainGlobals "hidden"=some (some (.ref 321)):=by eq_refl
theorem lM:Binds (HK.K P) Rk ["book"] []:=Rm.binds (ps:=["book"]) λ_ _ _ _ _ _ us hl=>by obtain ⟨x0,rfl⟩:=cO hl;rfl
theorem ag1:PySem.W.nsIn (HK.K P) mainGlobals "hidden_reached"=some (some (.ref 321)):=by eq_refl
def Ro:FuncData:=fdM "need_two_books" oK "starsieve.books" 391 202
theorem Rp:Fun (HK.K P) "need_two_books" "need_two_books" oK 203 Ro:=mkF (by rfl') (by eq_refl) (by eq_refl)
theorem ag2:PySem.W.nsIn (HK.K P) mainGlobals "need_two_books"=some (some (.ref 203)):=by eq_refl
theorem lN:Binds (HK.K P) Ro ["one","other"] []:=Rp.binds (ps:=["one","other"]) λ_ _ _ _ _ _ us hl=>by obtain ⟨x0,x1,rfl⟩:=aU hl;rfl
def Rq:FuncData:=fdM "deed_of" oM "starsieve.books" 391 223
theorem Rt:Fun (HK.K P) "deed_of" "deed_of" oM 224 Rq:=mkF (by rfl') (by eq_refl) (by eq_refl)
theorem ag3:PySem.W.nsIn (HK.K P) mainGlobals "deed_of"=some (some (.ref 224)):=by eq_refl
theorem jG:Binds (HK.K P) Rq ["book","number"] []:=Rt.binds (ps:=["book","number"]) λ_ _ _ _ _ _ us hl=>by obtain ⟨x0,x1,rfl⟩:=aU hl;rfl
def Ru:FuncData:=fdM "same_deeds" oN "starsieve.alike" 526 277
theorem Rv:Fun (HK.K P) "same_deeds" "same_deeds" oN 278 Ru:=mkF (by rfl') (by eq_refl) (by eq_refl)
theorem ag4:PySem.W.nsIn (HK.K P) mainGlobals "same_deeds"=some (some (.ref 278)):=by eq_refl
theorem lO:Binds (HK.K P) Ru ["one","other","leaf"] []:=Rv.binds (ps:=["one","other","leaf"]) λ_ _ _ _ _ _ us hl=>by obtain ⟨x0,x1,x2,rfl⟩:=dF hl;rfl
def Rw:FuncData:=fdM "stars" oO "starsieve.laid" 470 237
theorem Rx:Fun (HK.K P) "stars" "stars" oO 238 Rw:=mkF (by rfl') (by eq_refl) (by eq_refl)
theorem ag5:PySem.W.nsIn (HK.K P) mainGlobals "stars"=some (some (.ref 238)):=by eq_refl
theorem lQ:Binds (HK.K P) Rw ["width"] []:=Rx.binds (ps:=["width"]) λ_ _ _ _ _ _ us hl=>by obtain ⟨x0,rfl⟩:=cO hl;rfl
def Ry:FuncData:=fdM "alike" oR "starsieve.alike" 526 282
theorem Rz:Fun (HK.K P) "alike" "alike" oR 283 Ry:=mkF (by rfl') (by eq_refl) (by eq_refl)
theorem ag6:PySem.W.nsIn (HK.K P) mainGlobals "alike"=some (some (.ref 283)):=by eq_refl
theorem lR:Binds (HK.K P) Ry ["one","other"] []:=Rz.binds (ps:=["one","other"]) λ_ _ _ _ _ _ us hl=>by obtain ⟨x0,x1,rfl⟩:=aU hl;rfl
def RB:FuncData:=fdM "parting_word" oU "starsieve.alike" 526 289
theorem RC:Fun (HK.K P) "parting_word" "parting_word" oU 290 RB:=mkF (by rfl') (by eq_refl) (by eq_refl)
theorem ag7:PySem.W.nsIn (HK.K P) mainGlobals "parting_word"=some (some (.ref 290)):=by eq_refl
theorem lU:Binds (HK.K P) RB ["one","other"] []:=RC.binds (ps:=["one","other"]) λ_ _ _ _ _ _ us hl=>by obtain ⟨x0,x1,rfl⟩:=aU hl;rfl
def RD:FuncData:=fdM "_law_anew" oV "law_starsieve_k65_whole_sieves_and_books" 719 432
theorem RG:Fun (HK.K P) "_law_anew" "_law_anew" oV 433 RD:=mkF (by rfl') (by eq_refl) (by eq_refl)
theorem ag8:PySem.W.nsIn (HK.K P) mainGlobals "_law_anew"=some (some (.ref 433)):=by eq_refl
theorem ag9:Binds (HK.K P) RD ["pen"] []:=RG.binds (ps:=["pen"]) λ_ _ _ _ _ _ us hl=>by obtain ⟨x0,rfl⟩:=cO hl;rfl
def RJ:FuncData:=fdM "_law_spread" oW "law_starsieve_k65_whole_sieves_and_books" 719 418
theorem RK:Fun (HK.K P) "_law_spread" "_law_spread" oW 419 RJ:=mkF (by rfl') (by eq_refl) (by eq_refl)
theorem aha:PySem.W.nsIn (HK.K P) mainGlobals "_law_spread"=some (some (.ref 419)):=by eq_refl
theorem ahb:Binds (HK.K P) RJ ["cell","at"] []:=RK.binds (ps:=["cell","at"]) λ_ _ _ _ _ _ us hl=>by obtain ⟨x0,x1,rfl⟩:=aU hl;rfl
def RL:FuncData:=fdM "_law_take" oX "law_starsieve_k65_whole_sieves_and_books" 719 439
theorem RM:Fun (HK.K P) "_law_take" "_law_take" oX 440 RL:=mkF (by rfl') (by eq_refl) (by eq_refl)
theorem ahc:PySem.W.nsIn (HK.K P) mainGlobals "_law_take"=some (some (.ref 440)):=by eq_refl
theorem ahd:Binds (HK.K P) RL ["pen","many"] []:=RM.binds (ps:=["pen","many"]) λ_ _ _ _ _ _ us hl=>by obtain ⟨x0,x1,rfl⟩:=aU hl;rfl
def RN:FuncData:=fdM "_law_signs" oY "law_starsieve_k65_whole_sieves_and_books" 719 444
theorem RP:Fun (HK.K P) "_law_signs" "_law_signs" oY 445 RN:=mkF (by rfl') (by eq_refl) (by eq_refl)
theorem ahe:PySem.W.nsIn (HK.K P) mainGlobals "_law_signs"=some (some (.ref 445)):=by eq_refl
theorem ahf:Binds (HK.K P) RN ["pen","width","signs"] []:=RP.binds (ps:=["pen","width","signs"]) λ_ _ _ _ _ _ us hl=>by obtain ⟨x0,x1,x2,rfl⟩:=dF hl;rfl
def RQ:FuncData:=fdM "_law_deeds_of" oZ "law_starsieve_k65_whole_sieves_and_books" 719 477
theorem RT:Fun (HK.K P) "_law_deeds_of" "_law_deeds_of" oZ 478 RQ:=mkF (by rfl') (by eq_refl) (by eq_refl)
theorem ahg:PySem.W.nsIn (HK.K P) mainGlobals "_law_deeds_of"=some (some (.ref 478)):=by eq_refl
theorem ahh:Binds (HK.K P) RQ ["pen","most"] []:=RT.binds (ps:=["pen","most"]) λ_ _ _ _ _ _ us hl=>by obtain ⟨x0,x1,rfl⟩:=aU hl;rfl
def RV:FuncData:=fdM "_law_form" o9 "law_starsieve_k65_whole_sieves_and_books" 719 451
theorem RW:Fun (HK.K P) "_law_form" "_law_form" o9 452 RV:=mkF (by rfl') (by eq_refl) (by eq_refl)
theorem ahi:PySem.W.nsIn (HK.K P) mainGlobals "_law_form"=some (some (.ref 452)):=by eq_refl
theorem ahj:Binds (HK.K P) RV ["pen","width"] []:=RW.binds (ps:=["pen","width"]) λ_ _ _ _ _ _ us hl=>by obtain ⟨x0,x1,rfl⟩:=aU hl;rfl
def RX:FuncData:=fdM "_law_wider" ph "law_starsieve_k65_whole_sieves_and_books" 719 465
theorem RZ:Fun (HK.K P) "_law_wider" "_law_wider" ph 466 RX:=mkF (by rfl') (by eq_refl) (by eq_refl)
theorem ahk:PySem.W.nsIn (HK.K P) mainGlobals "_law_wider"=some (some (.ref 466)):=by eq_refl
theorem ahl:Binds (HK.K P) RX ["pen","form"] []:=RZ.binds (ps:=["pen","form"]) λ_ _ _ _ _ _ us hl=>by obtain ⟨x0,x1,rfl⟩:=aU hl;rfl
def R0:FuncData:=fdM "_law_within" pq "law_starsieve_k65_whole_sieves_and_books" 719 458
theorem R1:Fun (HK.K P) "_law_within" "_law_within" pq 459 R0:=mkF (by rfl') (by eq_refl) (by eq_refl)
theorem ahm:PySem.W.nsIn (HK.K P) mainGlobals "_law_within"=some (some (.ref 459)):=by eq_refl
theorem ahn:Binds (HK.K P) R0 ["pen","form"] []:=R1.binds (ps:=["pen","form"]) λ_ _ _ _ _ _ us hl=>by obtain ⟨x0,x1,rfl⟩:=aU hl;rfl
def R3:FuncData:=fdM "_law_form_like" pA "law_starsieve_k65_whole_sieves_and_books" 719 472
theorem R4:Fun (HK.K P) "_law_form_like" "_law_form_like" pA 473 R3:=mkF (by rfl') (by eq_refl) (by eq_refl)
theorem aho:PySem.W.nsIn (HK.K P) mainGlobals "_law_form_like"=some (some (.ref 473)):=by eq_refl
theorem ahp:Binds (HK.K P) R3 ["pen","width","forms"] []:=R4.binds (ps:=["pen","width","forms"]) λ_ _ _ _ _ _ us hl=>by obtain ⟨x0,x1,x2,rfl⟩:=dF hl;rfl
def R5:FuncData:=fdM "_law_book" pB "law_starsieve_k65_whole_sieves_and_books" 719 484
theorem R6:Fun (HK.K P) "_law_book" "_law_book" pB 485 R5:=mkF (by rfl') (by eq_refl) (by eq_refl)
theorem ahq:PySem.W.nsIn (HK.K P) mainGlobals "_law_book"=some (some (.ref 485)):=by eq_refl
theorem ahr:Binds (HK.K P) R5 ["pen","widest","most"] []:=R6.binds (ps:=["pen","widest","most"]) λ_ _ _ _ _ _ us hl=>by obtain ⟨x0,x1,x2,rfl⟩:=dF hl;rfl
def R7:FuncData:=fdM "_law_forms" pC "law_starsieve_k65_whole_sieves_and_books" 719 494
theorem R8:Fun (HK.K P) "_law_forms" "_law_forms" pC 495 R7:=mkF (by rfl') (by eq_refl) (by eq_refl)
theorem ahs:PySem.W.nsIn (HK.K P) mainGlobals "_law_forms"=some (some (.ref 495)):=by eq_refl
theorem aht:Binds (HK.K P) R7 ["rows"] []:=R8.binds (ps:=["rows"]) λ_ _ _ _ _ _ us hl=>by obtain ⟨x0,rfl⟩:=cO hl;rfl
def R9:FuncData:=fdM "without" pF "starsieve.lean" 562 303
theorem Sd:Fun (HK.K P) "without" "without" pF 304 R9:=mkF (by rfl') (by eq_refl) (by eq_refl)
theorem ahu:PySem.W.nsIn (HK.K P) mainGlobals "without"=some (some (.ref 304)):=by eq_refl
theorem lV:Binds (HK.K P) R9 ["book","number"] []:=Sd.binds (ps:=["book","number"]) λ_ _ _ _ _ _ us hl=>by obtain ⟨x0,x1,rfl⟩:=aU hl;rfl
def Az:FuncData:=fdM "_law_same" pG "law_starsieve_k65_whole_sieves_and_books" 719 489
theorem vB:Fun (HK.K P) "_law_same" "_law_same" pG 490 Az:=mkF (by rfl') (by eq_refl) (by eq_refl)
theorem Sg:PySem.W.nsIn (HK.K P) mainGlobals "_law_same"=some (some (.ref 490)):=by eq_refl
theorem Sh:Binds (HK.K P) Az ["found","due"] []:=vB.binds (ps:=["found","due"]) λ_ _ _ _ _ _ us hl=>by obtain ⟨x0,x1,rfl⟩:=aU hl;rfl
def Sq:FuncData:=fdM "_law_word_of" pH "law_starsieve_k65_whole_sieves_and_books" 719 501
theorem Ss:Fun (HK.K P) "_law_word_of" "_law_word_of" pH 502 Sq:=mkF (by rfl') (by eq_refl) (by eq_refl)
theorem ahv:PySem.W.nsIn (HK.K P) mainGlobals "_law_word_of"=some (some (.ref 502)):=by eq_refl
theorem ahw:Binds (HK.K P) Sq ["one","other"] []:=Ss.binds (ps:=["one","other"]) λ_ _ _ _ _ _ us hl=>by obtain ⟨x0,x1,rfl⟩:=aU hl;rfl
def Su:FuncData:=fdM "exchanged" pI "starsieve.moves" 699 404
theorem Sw:Fun (HK.K P) "exchanged" "exchanged" pI 405 Su:=mkF (by rfl') (by eq_refl) (by eq_refl)
theorem ahx:PySem.W.nsIn (HK.K P) mainGlobals "exchanged"=some (some (.ref 405)):=by eq_refl
theorem lW:Binds (HK.K P) Su ["things","place"] []:=Sw.binds (ps:=["things","place"]) λ_ _ _ _ _ _ us hl=>by obtain ⟨x0,x1,rfl⟩:=aU hl;rfl
def Sy:FuncData:=fdM "may_swap" pJ "starsieve.moves" 699 411
theorem SJ:Fun (HK.K P) "may_swap" "may_swap" pJ 412 Sy:=mkF (by rfl') (by eq_refl) (by eq_refl)
theorem ahy:PySem.W.nsIn (HK.K P) mainGlobals "may_swap"=some (some (.ref 412)):=by eq_refl
theorem lX:Binds (HK.K P) Sy ["book","place"] []:=SJ.binds (ps:=["book","place"]) λ_ _ _ _ _ _ us hl=>by obtain ⟨x0,x1,rfl⟩:=aU hl;rfl
def SN:FuncData:=fdM "fits" pK "starsieve.forms" 310 150
theorem SQ:Fun (HK.K P) "fits" "fits" pK 151 SN:=mkF (by rfl') (by eq_refl) (by eq_refl)
theorem ahz:PySem.W.nsIn (HK.K P) mainGlobals "fits"=some (some (.ref 151)):=by eq_refl
theorem lY:Binds (HK.K P) SN ["form","word"] []:=SQ.binds (ps:=["form","word"]) λ_ _ _ _ _ _ us hl=>by obtain ⟨x0,x1,rfl⟩:=aU hl;rfl
def SX:FuncData:=fdM "is_word" pL "starsieve.forms" 310 138
theorem S5:Fun (HK.K P) "is_word" "is_word" pL 139 SX:=mkF (by rfl') (by eq_refl) (by eq_refl)
theorem ahA:PySem.W.nsIn (HK.K P) mainGlobals "is_word"=some (some (.ref 139)):=by eq_refl
theorem lZ:Binds (HK.K P) SX ["width","thing"] []:=S5.binds (ps:=["width","thing"]) λ_ _ _ _ _ _ us hl=>by obtain ⟨x0,x1,rfl⟩:=aU hl;rfl
def S6:FuncData:=fdM "met" pM "starsieve.books" 391 216
theorem S7:Fun (HK.K P) "met" "met" pM 217 S6:=mkF (by rfl') (by eq_refl) (by eq_refl)
theorem ahB:PySem.W.nsIn (HK.K P) mainGlobals "met"=some (some (.ref 217)):=by eq_refl
theorem mj:Binds (HK.K P) S6 ["book","word"] []:=S7.binds (ps:=["book","word"]) λ_ _ _ _ _ _ us hl=>by obtain ⟨x0,x1,rfl⟩:=aU hl;rfl
def S8:FuncData:=fdM "deed" pN "starsieve.books" 391 230
theorem S9:Fun (HK.K P) "deed" "deed" pN 231 S8:=mkF (by rfl') (by eq_refl) (by eq_refl)
theorem ahC:PySem.W.nsIn (HK.K P) mainGlobals "deed"=some (some (.ref 231)):=by eq_refl
theorem mq:Binds (HK.K P) S8 ["book","word"] []:=S9.binds (ps:=["book","word"]) λ_ _ _ _ _ _ us hl=>by obtain ⟨x0,x1,rfl⟩:=aU hl;rfl
def Tc:FuncData:=fdM "parts" pO "starsieve.alike" 526 296
theorem Td:Fun (HK.K P) "parts" "parts" pO 297 Tc:=mkF (by rfl') (by eq_refl) (by eq_refl)
theorem ahD:PySem.W.nsIn (HK.K P) mainGlobals "parts"=some (some (.ref 297)):=by eq_refl
theorem my:Binds (HK.K P) Tc ["one","other","word"] []:=Td.binds (ps:=["one","other","word"]) λ_ _ _ _ _ _ us hl=>by obtain ⟨x0,x1,x2,rfl⟩:=dF hl;rfl
def Te:FuncData:=fdM "_law_open" pP "law_starsieve_k65_whole_sieves_and_books" 719 425
theorem Tf:Fun (HK.K P) "_law_open" "_law_open" pP 426 Te:=mkF (by rfl') (by eq_refl) (by eq_refl)
theorem ahE:PySem.W.nsIn (HK.K P) mainGlobals "_law_open"=some (some (.ref 426)):=by eq_refl
theorem ahF:Binds (HK.K P) Te ["script"] []:=Tf.binds (ps:=["script"]) λ_ _ _ _ _ _ us hl=>by obtain ⟨x0,rfl⟩:=cO hl;rfl
def Th:FuncData:=fdM "needless" pQ "starsieve.lean" 562 310
theorem Ti:Fun (HK.K P) "needless" "needless" pQ 311 Th:=mkF (by rfl') (by eq_refl) (by eq_refl)
theorem ahG:PySem.W.nsIn (HK.K P) mainGlobals "needless"=some (some (.ref 311)):=by eq_refl
theorem mz:Binds (HK.K P) Th ["book","number"] []:=Ti.binds (ps:=["book","number"]) λ_ _ _ _ _ _ us hl=>by obtain ⟨x0,x1,rfl⟩:=aU hl;rfl
def Tj:FuncData:=fdQ "__init__" "Sieve.__init__" pR "starsieve.sieve" 599 334
theorem Tn:Fun (HK.K P) "__init__" "Sieve.__init__" pR 335 Tj:=mkQ (by rfl') (by eq_refl) (by eq_refl)
theorem ahH:Mk (HK.K P) 394 335:=⟨by eq_refl,by eq_refl,by eq_refl,by eq_refl⟩
theorem ahI:Binds (HK.K P) Tj ["self","book"] []:=Tn.binds (ps:=["self","book"]) λ_ _ _ _ _ _ us hl=>by obtain ⟨x0,x1,rfl⟩:=aU hl;rfl
def Tp:FuncData:=fdQ "book" "Sieve.book" pU "starsieve.sieve" 599 341
theorem Tq:Fun (HK.K P) "book" "Sieve.book" pU 342 Tp:=mkQ (by rfl') (by eq_refl) (by eq_refl)
theorem ahJ:Meth (HK.K P) 394 (Str.ofString "book") 342:=⟨by eq_refl,by eq_refl,by eq_refl⟩
theorem mC:Binds (HK.K P) Tp ["self"] []:=Tq.binds (ps:=["self"]) λ_ _ _ _ _ _ us hl=>by obtain ⟨x0,rfl⟩:=cO hl;rfl
def Tt:FuncData:=fdQ "hidden" "Sieve.hidden" pW "starsieve.sieve" 599 355
theorem Tu:Fun (HK.K P) "hidden" "Sieve.hidden" pW 356 Tt:=mkQ (by rfl') (by eq_refl) (by eq_refl)
theorem ahK:Meth (HK.K P) 394 (Str.ofString "hidden") 356:=⟨by eq_refl,by eq_refl,by eq_refl⟩
theorem ahL:Binds (HK.K P) Tt ["self"] []:=Tu.binds (ps:=["self"]) λ_ _ _ _ _ _ us hl=>by obtain ⟨x0,rfl⟩:=cO hl;rfl
def Tv:FuncData:=fdQ "turn" "Sieve.turn" pX "starsieve.sieve" 599 362
theorem Tw:Fun (HK.K P) "turn" "Sieve.turn" pX 363 Tv:=mkQ (by rfl') (by eq_refl) (by eq_refl)
theorem ahM:Meth (HK.K P) 394 (Str.ofString "turn") 363:=⟨by eq_refl,by eq_refl,by eq_refl⟩
theorem mD:Binds (HK.K P) Tv ["self","rows"] []:=Tw.binds (ps:=["self","rows"]) λ_ _ _ _ _ _ us hl=>by obtain ⟨x0,x1,rfl⟩:=aU hl;rfl
def Tz:FuncData:=fdQ "put" "Sieve.put" pY "starsieve.sieve" 599 369
theorem TF:Fun (HK.K P) "put" "Sieve.put" pY 370 Tz:=mkQ (by rfl') (by eq_refl) (by eq_refl)
theorem ahN:Meth (HK.K P) 394 (Str.ofString "put") 370:=⟨by eq_refl,by eq_refl,by eq_refl⟩
theorem mF:Binds (HK.K P) Tz ["self","number","form","deed"] []:=TF.binds (ps:=["self","number","form","deed"]) λ_ _ _ _ _ _ us hl=>by obtain ⟨x0,x1,x2,x3,rfl⟩:=ab4 hl;rfl
def TQ:FuncData:=fdQ "move" "Sieve.move" pZ "starsieve.sieve" 599 383
theorem TV:Fun (HK.K P) "move" "Sieve.move" pZ 384 TQ:=mkQ (by rfl') (by eq_refl) (by eq_refl)
theorem ahO:Meth (HK.K P) 394 (Str.ofString "move") 384:=⟨by eq_refl,by eq_refl,by eq_refl⟩
theorem mG:Binds (HK.K P) TQ ["self","number","place"] []:=TV.binds (ps:=["self","number","place"]) λ_ _ _ _ _ _ us hl=>by obtain ⟨x0,x1,x2,rfl⟩:=dF hl;rfl
def TX:FuncData:=fdQ "out" "Sieve.out" p6 "starsieve.sieve" 599 376
theorem TY:Fun (HK.K P) "out" "Sieve.out" p6 377 TX:=mkQ (by rfl') (by eq_refl) (by eq_refl)
theorem ahP:Meth (HK.K P) 394 (Str.ofString "out") 377:=⟨by eq_refl,by eq_refl,by eq_refl⟩
theorem mH:Binds (HK.K P) TX ["self","number"] []:=TY.binds (ps:=["self","number"]) λ_ _ _ _ _ _ us hl=>by obtain ⟨x0,x1,rfl⟩:=aU hl;rfl
def T3:FuncData:=fdM "_law_move_right" p7 "law_starsieve_k65_whole_sieves_and_books" 719 515
theorem T4:Fun (HK.K P) "_law_move_right" "_law_move_right" p7 516 T3:=mkF (by rfl') (by eq_refl) (by eq_refl)
theorem ahQ:PySem.W.nsIn (HK.K P) mainGlobals "_law_move_right"=some (some (.ref 516)):=by eq_refl
theorem ahR:Binds (HK.K P) T3 ["book","number","place"] []:=T4.binds (ps:=["book","number","place"]) λ_ _ _ _ _ _ us hl=>by obtain ⟨x0,x1,x2,rfl⟩:=dF hl;rfl
def T5:FuncData:=fdM "_law_out_right" p8 "law_starsieve_k65_whole_sieves_and_books" 719 508
theorem T6:Fun (HK.K P) "_law_out_right" "_law_out_right" p8 509 T5:=mkF (by rfl') (by eq_refl) (by eq_refl)
theorem ahS:PySem.W.nsIn (HK.K P) mainGlobals "_law_out_right"=some (some (.ref 509)):=by eq_refl
theorem ahT:Binds (HK.K P) T5 ["book","number"] []:=T6.binds (ps:=["book","number"]) λ_ _ _ _ _ _ us hl=>by obtain ⟨x0,x1,rfl⟩:=aU hl;rfl
def Ba:FuncData:=fdM "law" qb "law_starsieve_k65_whole_sieves_and_books" 719 522
theorem ahU:Fun (HK.K P) "law" "law" qb 523 Ba:=mkF (by rfl') (by eq_refl) (by eq_refl)
theorem ahV:PySem.W.nsIn (HK.K P) mainGlobals "law"=some (some (.ref 523)):=by eq_refl
theorem ahW:PySem.W.nsIn (HK.K P) mainGlobals "abs"=some none:=by eq_refl
theorem ahX:PySem.W.nsIn (HK.K P) mainGlobals "all"=some none:=by eq_refl
theorem ahY:PySem.W.nsIn (HK.K P) mainGlobals "bool"=some none:=by eq_refl
theorem ahZ:PySem.W.nsIn (HK.K P) mainGlobals "enumerate"=some none:=by eq_refl
theorem ah0:PySem.W.nsIn (HK.K P) mainGlobals "int"=some none:=by eq_refl
theorem ah1:PySem.W.nsIn (HK.K P) mainGlobals "isinstance"=some none:=by eq_refl
theorem ah2:PySem.W.nsIn (HK.K P) mainGlobals "len"=some none:=by eq_refl
theorem ah3:PySem.W.nsIn (HK.K P) mainGlobals "list"=some none:=by eq_refl
theorem ah4:PySem.W.nsIn (HK.K P) mainGlobals "min"=some none:=by eq_refl
theorem ah5:PySem.W.nsIn (HK.K P) mainGlobals "range"=some none:=by eq_refl
theorem ah6:PySem.W.nsIn (HK.K P) mainGlobals "str"=some none:=by eq_refl
theorem ah7:PySem.W.nsIn (HK.K P) mainGlobals "tuple"=some none:=by eq_refl
theorem ah8:PySem.W.nsIn (HK.K P) mainGlobals "zip"=some none:=by eq_refl
theorem ah9:PySem.W.nsIn (HK.K P) mainGlobals "LETTERS"=some (some (.str "abcdefghijklmnopqrstuvwxyz" 397)):=by eq_refl
theorem aia:PySem.W.nsIn (HK.K P) mainGlobals "LONGEST_DEED"=some (some (.int 8 395)):=by eq_refl
theorem aib:PySem.W.nsIn (HK.K P) mainGlobals "MOST_ROWS"=some (some (.int 12 393)):=by eq_refl
theorem aic:PySem.W.nsIn (HK.K P) mainGlobals "WIDEST"=some (some (.int 6 312)):=by eq_refl
theorem x_s:xsB (HK.K P) xs=true:=by eq_refl
end
section
variable {l:PySem.W.OpenLaw} {w:World} {h:Heap} {mg:Str->Option Value} {base:Heap} (X:(HK.K w.params).In h) (G:h.Ns mainGlobals mg)
include X G
theorem B0:Bse Φ l.prog w (HK.K w.params) mg base (CX1 l.prog w) 0 f0 bt cn xs o0:=bse trivial ⟨mg_none_of X G ahW,mg_none_of X G ahX,mg_none_of X G ahY,mg_none_of X G ahZ,mg_none_of X G ah0,mg_none_of X G ah1,mg_none_of X G ah2,mg_none_of X G ah3,mg_none_of X G ah4,mg_none_of X G ah5,mg_none_of X G ah6,mg_none_of X G ah7,mg_none_of X G ah8,trivial⟩ ⟨ab7 (mg_of X G ah9) (by decide +kernel) (by decide),yJ (mg_of X G aia),yJ (mg_of X G aib),yJ (mg_of X G aic),trivial⟩ X G x_s
theorem B1:Bse Φ l.prog w (HK.K w.params) mg base (CX1 l.prog w) 1 f1 bt cn xs o0:=(B0 X G).step QB lq (mg_of X G agJ) Ab 0 aeL aeM rfl rfl (b8 (λa G h=>acQ Φ  a G h))
theorem B2:Bse Φ l.prog w (HK.K w.params) mg base (CX1 l.prog w) 2 f2 bt cn xs o0:=(B1 X G).step QD lr (mg_of X G agK) Ac 0 aeN aeO rfl rfl (b8 (λa G h=>acM Φ  a G h))
theorem B3:Bse Φ l.prog w (HK.K w.params) mg base (CX1 l.prog w) 3 f3 bt cn xs o0:=(B2 X G).step QG lu (mg_of X G agL) Ad 0 aeP aeQ rfl rfl (b8 (λa G h=>acP Φ Ac a G h))
theorem B4:Bse Φ l.prog w (HK.K w.params) mg base (CX1 l.prog w) 4 f4 bt cn xs o0:=(B3 X G).step QJ lw (mg_of X G agM) Pr 0 aeR aeS rfl rfl (b8 (λa G h=>acR Φ Ad Ab a G h))
theorem B5:Bse Φ l.prog w (HK.K w.params) mg base (CX1 l.prog w) 5 f5 bt cn xs o0:=(B4 X G).step QL lz (mg_of X G agN) Ae 0 aeT aeU rfl rfl (iu (λds G d h=>aco Φ  ds G d h))
theorem B6:Bse Φ l.prog w (HK.K w.params) mg base (CX1 l.prog w) 6 f6 bt cn xs o0:=(B5 X G).step QQ lA (mg_of X G agO) Pu 0 aeV aeW rfl rfl (b8 (λa G h=>acS Φ Ae a G h))
theorem B7:Bse Φ l.prog w (HK.K w.params) mg base (CX1 l.prog w) 7 f7 bt cn xs o0:=(B6 X G).step QS lB (mg_of X G agP) Px 2 aeX aeY rfl rfl (b8 (λa G h=>acT Φ Pu Pr a G h))
theorem B8:Bse Φ l.prog w (HK.K w.params) mg base (CX1 l.prog w) 8 f8 bt cn xs o0:=(B7 X G).step QV lC (mg_of X G agQ) iM 0 aeZ ae0 rfl rfl (b8 (λa G h=>acU Φ Px a G h))
theorem B9:Bse Φ l.prog w (HK.K w.params) mg base (CX1 l.prog w) 9 f9 bt cn xs o0:=(B8 X G).step QX lD (mg_of X G agR) Py 3 ae1 ae2 rfl rfl (iu (λds G d h=>ac9 Φ  ds G d h))
theorem B10:Bse Φ l.prog w (HK.K w.params) mg base (CX1 l.prog w) 10 f10 bt cn xs o0:=(B9 X G).step Q0 lE (mg_of X G agS) Af 2 ae3 ae4 rfl rfl (bR (λds G h=>adh Φ Py ds G h))
theorem B11:Bse Φ l.prog w (HK.K w.params) mg base (CX1 l.prog w) 11 f11 bt cn xs o0:=(B10 X G).step Q4 lF (mg_of X G agT) Pz 3 ae5 ae6 rfl rfl (bR (λds G h=>adl Φ Af ds G h))
theorem B12:Bse Φ l.prog w (HK.K w.params) mg base (CX1 l.prog w) 12 f12 bt cn xs o0:=(B11 X G).step Q6 lG (mg_of X G agU) Ag 0 ae7 ae8 rfl rfl (iu (λds G d h=>adb Φ  ds G d h))
theorem T7:∀n:Nat,FnOk l.prog w (HK.K w.params) mg base (CX1 l.prog w) (12+n) 271 Aw ["name","many_rows","box"] (lift (HK.K w.params) 3 (eF n))
 |0=>yK adu
 |n+1=>jC (fs:=f13) vz ((B12 X G).self (by decide +kernel) (T7 n) vz.kp jF (mg_of X G Q7)) (eF (n+1)) 3 4 ae9 afa rfl rfl (bR (λds G h=>adt (gC Φ "grown" (eF n)) n (if_pos rfl) (jE Af rfl) (jE Pz rfl) (jE Ag rfl) ds G h))
theorem B13:Bse Φ l.prog w (HK.K w.params) mg base (CX1 l.prog w) 21 f13 bt cn xs o0:=(B12 X G).add (j:=9) Ah (T7 X G 9) vz.kp jF (mg_of X G Q7)
theorem B14:Bse Φ l.prog w (HK.K w.params) mg base (CX1 l.prog w) 22 f14 bt cn xs o0:=(B13 X G).add (j:=1) Ai ((agI Ax).cx.mono (by decide)) Ax.kp agW (mg_of X G agV)
theorem B15:Bse Φ l.prog w (HK.K w.params) mg base (CX1 l.prog w) 23 f15 bt cn xs o0:=(B14 X G).step Ra lH (mg_of X G agX) PK 0 afb afc rfl rfl (iu (λds G d h=>ady Φ  ds G d h))
theorem B16:Bse Φ l.prog w (HK.K w.params) mg base (CX1 l.prog w) 24 f16 bt cn xs o0:=(B15 X G).step Rc lJ (mg_of X G agY) nG 0 afd afe rfl rfl (iu (λds G d h=>adw Φ Ae ds G d h))
theorem T8:∀n:Nat,FnOk l.prog w (HK.K w.params) mg base (CX1 l.prog w) (24+n) 252 Ay ["box","tree"] (lift (HK.K w.params) 2 (dI n))
 |0=>yK adB
 |n+1=>jC (fs:=f17) vA ((B16 X G).self (by decide +kernel) (T8 n) vA.kp iw (mg_of X G Rf)) (dI (n+1)) 2 3 afg afh rfl rfl (b8 (λa G h=>adD (gC Φ "leaves" (dI n)) n (if_pos rfl) (jE PK rfl) (jE nG rfl) (jE Ag rfl) a G h))
theorem B17:Bse Φ l.prog w (HK.K w.params) mg base (CX1 l.prog w) 33 f17 bt cn xs o0:=(B16 X G).add (j:=9) Aj (T8 X G 9) vA.kp iw (mg_of X G Rf)
theorem B18:Bse Φ l.prog w (HK.K w.params) mg base (CX1 l.prog w) 34 f18 bt cn xs o0:=(B17 X G).step Rh lK (mg_of X G agZ) vm 0 afi afj rfl rfl (b8 (λa G h=>adK Φ iM nG a G h))
theorem B19:Bse Φ l.prog w (HK.K w.params) mg base (CX1 l.prog w) 35 f19 bt cn xs o0:=(B18 X G).step Rj lL (mg_of X G ag0) PL 4 afk afl rfl rfl (cX (λa ds G h=>adN Φ vm Ah Aj Ai a ds G h))
theorem B20:Bse Φ l.prog w (HK.K w.params) mg base (CX1 l.prog w) 36 f20 bt cn xs o0:=(B19 X G).step Rm lM (mg_of X G Rn) PN 0 afm afn rfl rfl (cX (λa ds G h=>adQ Φ iM PL a ds G h))
theorem B21:Bse Φ l.prog w (HK.K w.params) mg base (CX1 l.prog w) 37 f21 bt cn xs o0:=(B20 X G).alias (x:="hidden") (by decide +kernel) (PP.trans PN.symm) ((mg_of X G ag1).trans (mg_of X G Rn).symm)
theorem B22:Bse Φ l.prog w (HK.K w.params) mg base (CX1 l.prog w) 38 f22 bt cn xs o0:=(B21 X G).step Rp lN (mg_of X G ag2) Ak 0 afo afp rfl rfl (b8 (λa G h=>adT Φ iM a G h))
theorem B23:Bse Φ l.prog w (HK.K w.params) mg base (CX1 l.prog w) 39 f23 bt cn xs o0:=(B22 X G).step Rt jG (mg_of X G ag3) Al 0 afq afr rfl rfl (bR (λds G h=>ac3 Φ  ds G h))
theorem B24:Bse Φ l.prog w (HK.K w.params) mg base (CX1 l.prog w) 40 f24 bt cn xs o0:=(B23 X G).step Rv lO (mg_of X G ag4) PQ 0 afs aft rfl rfl (b8 (λa G h=>adV Φ Al a G h))
theorem B25:Bse Φ l.prog w (HK.K w.params) mg base (CX1 l.prog w) 41 f25 bt cn xs o0:=(B24 X G).step Rx lQ (mg_of X G ag5) P0 0 afu afv rfl rfl (iu (λds G d h=>adc Φ  ds G d h))
theorem B26:Bse Φ l.prog w (HK.K w.params) mg base (CX1 l.prog w) 42 f26 bt cn xs o0:=(B25 X G).step Rz lR (mg_of X G ag6) vo 3 afw afx rfl rfl (cX (λa ds G h=>adW Φ Ak Ah Aj Ai P0 PQ a ds G h))
theorem B27:Bse Φ l.prog w (HK.K w.params) mg base (CX1 l.prog w) 43 f27 bt cn xs o0:=(B26 X G).step RC lU (mg_of X G ag7) Am 2 afy afz rfl rfl (b8 (λa G h=>ad2 Φ vo a G h))
theorem B28:Bse Φ l.prog w (HK.K w.params) mg base (CX1 l.prog w) 44 f28 bt cn xs o0:=(B27 X G).step RG ag9 (mg_of X G ag8) Qa 0 afA afB rfl rfl (bR (λds G h=>acg Φ  ds G h))
theorem B29:Bse Φ l.prog w (HK.K w.params) mg base (CX1 l.prog w) 45 f29 bt cn xs o0:=(B28 X G).step RK ahb (mg_of X G aha) Qc 3 afC afD rfl rfl (bR (λds G h=>acf Φ  ds G h))
theorem B30:Bse Φ l.prog w (HK.K w.params) mg base (CX1 l.prog w) 46 f30 bt cn xs o0:=(B29 X G).step RM ahd (mg_of X G ahc) gb 3 afE afF rfl rfl (bR (λds G h=>ach Φ Qc ds G h))
theorem B31:Bse Φ l.prog w (HK.K w.params) mg base (CX1 l.prog w) 47 f31 bt cn xs o0:=(B30 X G).step RP ahf (mg_of X G ahe) An 0 afG afH rfl rfl (bR (λds G h=>ack Φ gb ds G h))
theorem B32:Bse Φ l.prog w (HK.K w.params) mg base (CX1 l.prog w) 48 f32 bt cn xs o0:=(B31 X G).step RT ahh (mg_of X G ahg) Qd 4 afI afJ rfl rfl (bR (λds G h=>acE Φ gb An ds G h))
theorem B33:Bse Φ l.prog w (HK.K w.params) mg base (CX1 l.prog w) 49 f33 bt cn xs o0:=(B32 X G).step RW ahj (mg_of X G ahi) Qe 0 afK afL rfl rfl (bR (λds G h=>acl Φ gb An ds G h))
theorem B34:Bse Φ l.prog w (HK.K w.params) mg base (CX1 l.prog w) 50 f34 bt cn xs o0:=(B33 X G).step RZ ahl (mg_of X G ahk) Qf 2 afM afN rfl rfl (bR (λds G h=>acx Φ gb ds G h))
theorem B35:Bse Φ l.prog w (HK.K w.params) mg base (CX1 l.prog w) 51 f35 bt cn xs o0:=(B34 X G).step R1 ahn (mg_of X G ahm) Qg 2 afO afP rfl rfl (bR (λds G h=>acw Φ gb ds G h))
theorem B36:Bse Φ l.prog w (HK.K w.params) mg base (CX1 l.prog w) 52 f36 bt cn xs o0:=(B35 X G).step R4 ahp (mg_of X G aho) Ao 3 afQ afR rfl rfl (bR (λds G h=>acB Φ gb Qe Qg Qf ds G h))
theorem B37:Bse Φ l.prog w (HK.K w.params) mg base (CX1 l.prog w) 53 f37 bt cn xs o0:=(B36 X G).step R6 ahr (mg_of X G ahq) Qh 5 afS afT rfl rfl (bR (λds G h=>acH Φ gb Qd Ao ds G h))
theorem B38:Bse Φ l.prog w (HK.K w.params) mg base (CX1 l.prog w) 54 f38 bt cn xs o0:=(B37 X G).step R8 aht (mg_of X G ahs) Qi 0 afU afV rfl rfl (b8 (λa G h=>aeD Φ  a G h))
theorem B39:Bse Φ l.prog w (HK.K w.params) mg base (CX1 l.prog w) 55 f39 bt cn xs o0:=(B38 X G).step Sd lV (mg_of X G ahu) nH 2 afW afX rfl rfl (b8 (λa G h=>adY Φ vm a G h))
theorem T9:∀n:Nat,FnOk l.prog w (HK.K w.params) mg base (CX1 l.prog w) (55+n) 490 Az ["found","due"] (lift (HK.K w.params) 2 (cY n))
 |0=>yK acs
 |n+1=>jC (fs:=f40) vB ((B39 X G).self (by decide +kernel) (T9 n) vB.kp Sh (mg_of X G Sg)) (cY (n+1)) 2 0 afY afZ rfl rfl (bR (λds G h=>acr (gC Φ "_law_same" (cY n)) n (if_pos rfl) ds G h))
theorem B40:Bse Φ l.prog w (HK.K w.params) mg base (CX1 l.prog w) 64 f40 bt cn xs o0:=(B39 X G).add (j:=9) vp (T9 X G 9) vB.kp Sh (mg_of X G Sg)
theorem B41:Bse Φ l.prog w (HK.K w.params) mg base (CX1 l.prog w) 65 f41 bt cn xs o0:=(B40 X G).step Ss ahw (mg_of X G ahv) Aq 2 af0 af1 rfl rfl (b8 (λa G h=>aeh Φ vo a G h))
theorem B42:Bse Φ l.prog w (HK.K w.params) mg base (CX1 l.prog w) 66 f42 bt cn xs o0:=(B41 X G).step Sw lW (mg_of X G ahx) Qj 0 af2 af3 rfl rfl (b8 (λa G h=>ad7 Φ  a G h))
theorem B43:Bse Φ l.prog w (HK.K w.params) mg base (CX1 l.prog w) 67 f43 bt cn xs o0:=(B42 X G).step SJ lX (mg_of X G ahy) Qk 2 af4 af5 rfl rfl (b8 (λa G h=>aej Φ iM nG Am Qj a G h))
theorem B44:Bse Φ l.prog w (HK.K w.params) mg base (CX1 l.prog w) 68 f44 bt cn xs o0:=(B43 X G).step SQ lY (mg_of X G ahz) Ql 0 af6 af7 rfl rfl (iu (λds G d h=>acW Φ  ds G d h))
theorem B45:Bse Φ l.prog w (HK.K w.params) mg base (CX1 l.prog w) 69 f45 bt cn xs o0:=(B44 X G).step S5 lZ (mg_of X G ahA) Qm 0 af8 af9 rfl rfl (b8 (λa G h=>acN Φ Ac a G h))
theorem B46:Bse Φ l.prog w (HK.K w.params) mg base (CX1 l.prog w) 70 f46 bt cn xs o0:=(B45 X G).step S7 mj (mg_of X G ahB) Qn 4 aga agb rfl rfl (bR (λds G h=>ac0 Φ iM Qm Ql ds G h))
theorem B47:Bse Φ l.prog w (HK.K w.params) mg base (CX1 l.prog w) 71 f47 bt cn xs o0:=(B46 X G).step S9 mq (mg_of X G ahC) Qo 0 agc agd rfl rfl (bR (λds G h=>ac4 Φ Al Qn ds G h))
theorem B48:Bse Φ l.prog w (HK.K w.params) mg base (CX1 l.prog w) 72 f48 bt cn xs o0:=(B47 X G).step Td my (mg_of X G ahD) Qp 0 age agf rfl rfl (cX (λa ds G h=>aem Φ Ak Qo a ds G h))
theorem B49:Bse Φ l.prog w (HK.K w.params) mg base (CX1 l.prog w) 73 f49 bt cn xs o0:=(B48 X G).step Tf ahF (mg_of X G ahE) Qq 3 agg agh rfl rfl (bR (λds G h=>acn Φ  ds G h))
theorem B50:Bse Φ l.prog w (HK.K w.params) mg base (CX1 l.prog w) 74 f50 bt cn xs o0:=(B49 X G).step Ti mz (mg_of X G ahG) Qs 2 agi agj rfl rfl (cX (λa ds G h=>ad1 Φ vo nH a ds G h))
theorem BF:Bse Φ l.prog w (HK.K w.params) mg base (CX1 l.prog w) 74 f50 bt cn xs o1:=(B50 X G).addF ⟨394,gh,gH,Qy⟩
theorem B51:Bse Φ l.prog w (HK.K w.params) mg base (CX1 l.prog w) 76 f50 bt cn xs o2:=(BF X G).addK (j:=2) (ace (BF X G) Tn ahI (mg_of X G gh) gh gH Qy ahH agk agl rfl rfl (λd G kk E h=>aeg Φ iM vq d G kk E h))
theorem B52:Bse Φ l.prog w (HK.K w.params) mg base (CX1 l.prog w) 77 f50 bt cn xs o3:=(B51 X G).stepM0 Tq mC gh gH ahJ gf 0 agm agn rfl rfl (cX (λa ds G h=>ad9 Φ  a ds G h))
theorem B53:Bse Φ l.prog w (HK.K w.params) mg base (CX1 l.prog w) 78 f50 bt cn xs o4:=(B52 X G).stepM0 Tu ahL gh gH ahK Qt 0 ago agp rfl rfl (cX (λa ds G h=>aet Φ gf PP a ds G h))
theorem B54:Bse Φ l.prog w (HK.K w.params) mg base (CX1 l.prog w) 79 f50 bt cn xs o5:=(B53 X G).stepM0 Tw mD gh gH ahM vy 1 agq agr rfl rfl (cX (λa ds G h=>aec Φ gf Am a ds G h))
theorem B55:Bse Φ l.prog w (HK.K w.params) mg base (CX1 l.prog w) 80 f50 bt cn xs o6:=(B54 X G).stepM0 TF mF gh gH ahN Ar 2 ags agt rfl rfl (cX (λa ds G h=>aed Φ gf vy nG Ad Ab a ds G h))
theorem B56:Bse Φ l.prog w (HK.K w.params) mg base (CX1 l.prog w) 81 f50 bt cn xs o7:=(B55 X G).stepM0 TV mG gh gH ahO Qu 2 agu agv rfl rfl (cX (λa ds G h=>aef Φ gf vy nH vm a ds G h))
theorem B57:Bse Φ l.prog w (HK.K w.params) mg base (CX1 l.prog w) 82 f50 bt cn xs o8:=(B56 X G).stepM0 TY mH gh gH ahP Av 0 agw agx rfl rfl (cX (λa ds G h=>aee Φ gf vy nH a ds G h))
theorem B58:Bse Φ l.prog w (HK.K w.params) mg base (CX1 l.prog w) 83 f51 bt cn xs o8:=(B57 X G).step T4 ahR (mg_of X G ahQ) Qv 3 agy agz rfl rfl (cX (λa ds G h=>aey Φ ⟨vq,Qu,Av,Ar,gf,vp,Aq,Qp,Qk⟩ a ds G h))
theorem B59:Bse Φ l.prog w (HK.K w.params) mg base (CX1 l.prog w) 84 f52 bt cn xs o8:=(B58 X G).step T6 ahT (mg_of X G ahS) Qw 4 agA agB rfl rfl (cX (λa ds G h=>aev Φ ⟨Qs,vq,Av,gf,nH,vp⟩ a ds G h))
theorem aid:FnOk l.prog w (HK.K w.params) mg base (CX1 l.prog w) 85 523 Ba ["script"] (lift (HK.K w.params) 1 (mK)):=jC ahU (B59 X G) (mK) 1 8 agC agD rfl rfl (bR (λds G h=>aeE Φ ⟨Qq,Qa,gb,Qh,Qw,Qv,vq,Ao,Qi,Ar,vp,Aq,gf,Qt⟩ ds G h))
omit X G in
theorem all (fa:Addr) (X:(HK.K w.params).In h) (G:h.Ns mainGlobals mg) (hfa:mg "law"=some (.ref fa)):∃fd:FuncData,(∀(s:Shared) (v:Value),BindsTo s fd ⟨[v],[]⟩ [("script",v)])/\∀base:Heap,(HK.K w.params).In base->base.Ns mainGlobals mg->FnOk l.prog w (HK.K w.params) mg base (CX1 l.prog w) 85 fa fd ["script"] (lift (HK.K w.params) 1 (mK)):=by have e:=hfa.symm.trans (PySem.W.mg_of X G ahV);cases e;exact ⟨Ba,λs v=>.of_eq rfl,λbase _ _=>aid X G⟩
end
theorem walk {l:PySem.W.OpenLaw} {q:Program} {loose:List Str} {XP:(Str->Option Value)->Heap->Prop} {d:DefRec} (hn:l.most=some 63) (hdf:d.params.defaults=[]) (hdn:d.name="law"):
  PySem.W.WalkO q loose XP HK.hook.says l.row.toRowW d [] (λf vs=>PySem.call f vs):=
 L2.Xv (n:=63) (k:=85) (x:="script") (K:=HK.K) (CX:=λw=>CX1 l.prog w) (sp:=λw=>lift (HK.K w.params) 1 (mK)) hn (by decide) hdf ⟨rfl,by decide,by decide⟩ (λ_ _ Y=>Y) (λw mg fa h X G hmg=>all fa X G (hdn ▸ hmg)) (λw H a ns hl hO hS=>ab8 (ab9 λns _ hl=>⟨ns,rfl,hl⟩) (HK.K w.params) H a ns hl hO hS) λ_ _ _ _ _ z=>abW z
end Lk65
open PySem PySem.W PyProof.Rows
set_option maxRecDepth 100000 in
set_option maxHeartbeats 0 in
theorem PySem.Challenge.cw_starsieve_k65_whole_sieves_and_books_holds : PySem.Challenge.rw_starsieve_k65_whole_sieves_and_books.Holds := by
 have said:PySem.Challenge.rw_starsieve_k65_whole_sieves_and_books.row.wellSaid=true:=by decide +kernel
 refine ⟨by decide +kernel,?_⟩;refine PySem.W.holds_open (q:=HK.qv) (loose:=["hidden_reached"]) (Xt:=HK.Xt) (XP:=XL HK.qv []) (Yf:=HK.hook.obs) (Ya:=HK.hook.val) (YP:=HK.hook.says) (N:=12000) HK.left HK.hook.of HK.hook.keeps
  (λs e=>xl_of s (Bool.and_eq_true_iff.mp e).1) XL.keeps (by rfl) (by rfl) (by rfl) (λs e=>recFacts_of (Bool.and_eq_true_iff.mp e).2) (by rfl) (by assumption) (by decide +kernel) ⟨rfl,rfl,rfl,rfl,rfl,by decide +kernel⟩ ?hw ?hc
 case hw=>exact ⟨[.list []],by decide +kernel,by decide +kernel⟩
 exact Lk65.walk rfl rfl rfl
