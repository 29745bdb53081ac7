import PyProof.Rows.All
import Wide.All
import OpenK.AllK
import Wide.FinOn
import Lean
import PyProof.EqAt
import PyProof.EqKinds
import PyProof.TupleCall
import PyProof.NeKinds
import PyProof.FactsAll.range_2
import PyProof.FactsAll.tuple_2
import PyProof.FactsAll.tuple
import PyProof.ListRange
import PySem.Challenge.RW_starsieve_k13_no_books_refused_anywhere
set_option Elab.async false
set_option maxRecDepth 100000
noncomputable section
local macro_rules|`(tactic|rfl')=>`(tactic|kernel_rfl)
set_option Elab.async false
set_option linter.all false
set_option maxRecDepth 100000
namespace L2
open PySem PySem.Spec PyProof.Rows
def ae:=@Bool.and_eq_true
def af:=@And.intro
def ag:=@PySem.wpAny_bind
def ah:=@List.length_map
def al:=@PySem.Heap.get?_push_of_some
def am:=@List.size_toArray
def ar:=@List.getElem?_eq_some_iff
def av:=@beq_iff_eq
def aw:=@Nat.le_refl
def ax:=@PySem.Heap.lt_size
def ay:=@decide_eq_true
def aE:=@List.contains_iff_mem
def aI:=@List.length_append
def aS:=@List.getElem?_eq_getElem
def aT:=@Option.some.injEq
def a7:=@Option.map_eq_some_iff
def a8:=@PySem.wpAny_pure
def a9:=@List.getElem?_map
def ba:=@List.mem_singleton
def bb:=@List.mem_append
def bd:=@PySem.Heap.get?_push_size
def bg:=@decide_eq_true_iff
def bi:=@Nat.lt_of_lt_of_le
def bn:=@List.mem_cons
def bp:=@List.all_eq_true
def bq:=@List.mem_append_right
def br:=@Bool.false_ne_true
def bv:=@decide_eq_false
def bP:=@beq_eq_false_iff_ne
def bS:=@List.mem_cons_self
def bX:=@List.length_drop
def b6:=@List.map_cons
def b9:=@List.mem_cons_of_mem
def ca:=@List.length_replicate
def cb:=@Bool.and_true
theorem ce:type_of% @Int.toNat_natCast:=@Int.toNat_natCast
def cf:=@List.drop_eq_getElem_cons
def ci:=@List.length_take
def ck:=@List.getElem_mem
def cm:=@List.mem_map
def cp:=@Int.eq_ofNat_of_zero_le
def cq:=@Nat.ne_of_lt
theorem cr:type_of% @List.length_cons:=@List.length_cons
def cw:=@PySem.wpAny_mono
theorem cy:type_of% @List.replicate_succ:=@List.replicate_succ
def cK:=@List.mem_of_getElem?
def cS:=@Option.isSome_iff_exists
def c8:=@Bool.or_eq_true
def c9:=@Nat.le_trans
def da:=@List.cons.injEq
def db:=@Bool.and_false
def dc:=@of_decide_eq_true
def de:=@PyProof.Rows.callWith_type1
def df:=@List.length_eq_zero_iff
def dk:=@List.mem_append_left
def dn:=@Option.some.inj
theorem dv:type_of% @Array.length_toList:=@Array.length_toList
def dy:=@Bool.false_and
def dA:=@PySem.W.kia_one
def dE:=@PySem.wpAny_field
def dL:=@List.map_map
def dP:=@List.getD_eq_getElem?_getD
def dQ:=@PySem.mem_of_lookup
def dS:=@List.map_append
def d0:=@List.length_set
def d3:=@Nat.lt_irrefl
def d4:=@List.map_nil
def d5:=@Bool.true_and
def d6:=@List.take_add_one
def ee:=@List.append_nil
def ef:=@and_self
theorem eg:type_of% @List.length_nil:=@List.length_nil
def eh:=@PySem.Heap.size_push
def en:=@List.take_of_length_le
def ey:=@PySem.wpAny_truthy_bool
def ez:=@List.take_length
def eA:=@Option.isNone_iff_eq_none
def eD:=@List.getElem?_append_left
def eI:=@PySem.wpAny_setField_rec
def eJ:=@PySem.wpAny_seqItems
def eK:=@and_true
theorem eL:type_of% @List.flatten_cons:=@List.flatten_cons
def eM:=@PyProof.Rows.slot_tuple_getitem
def eP:=@PySem.F.plainAttrs_list
def eR:=@Nat.le_add_right
def eS:=@PySem.wpAny_holding
def eT:=@Int.emod_lt_of_pos
def eW:=@PySem.wpAny_callSpecial?_slot
def e7:=@congrArg
def e8:=@List.mem_filter
def e9:=@List.dropLast_concat_getLast
def fb:=@Int.emod_nonneg
def fe:=@Array.getElem?_toList
def ff:=@Bool.not_eq_true'
def fg:=@Nat.zero_le
def fh:=@List.mem_of_mem_drop
def fi:=@Array.getElem?_eq_some_iff
theorem fk:type_of% @List.filterMap_cons:=@List.filterMap_cons
def fm:=@List.drop_length
def fo:=@PySem.sizeLine_eq
def fq:=@PySem.F.slot_tuple_iterator_next
def ft:=@Bool.not_true
def fv:=@Bool.eq_iff_iff
def fw:=@PySem.wpAny_call_entry
def fx:=@List.countP_append
def fy:=@Bool.false_eq_true
def fA:=@List.findIdx?_eq_some_iff_getElem
def fE:=@Nat.ne_of_gt
def fF:=@List.getElem?_set_self
def fI:=@List.flatMap_cons
def fN:=@PySem.wpAny_execs_nil
def fR:=@PySem.wpAny_rule
def fS:=@PySem.call_meets
def fT:=@List.getElem?_eq_none
def gc:=@List.cons_lt_cons_iff
def gd:=@List.map_drop
def ge:=@PySem.wpAny_loadPart_at
abbrev Key:=Sum Int Str
def An:Key->Value->Bool
 |.inl k,v=>Value.isInt k v
 |.inr x,v=>Value.isStrOf x v
def T3(w:World):Key->Int
 |.inl k=>hashInt k
 |.inr x=>hashStr w x
theorem fU:∀{k:Key}{v:Value},An k v=true->(∃i t,k=Sum.inl i/\v=Value.int i t)\/(∃x t,k=Sum.inr x/\v=Value.str x t)
 |.inl i,v,h=>by
  obtain ⟨t,e⟩:=Value.isInt_shape (k:=i) (v:=v) h;exact .inl ⟨i,t,rfl,e⟩
 |.inr x,v,h=>by
  obtain ⟨t,e⟩:=Value.isStrOf_shape (x:=x) (v:=v) h;exact .inr ⟨x,t,rfl,e⟩
theorem T4(a b:Int):decide ((Sum.inl a:Key)=Sum.inl b)=(a==b):=by
 by_cases e:a=b
 ·subst e;simp
 ·have h:¬(Sum.inl a:Key)=Sum.inl b:=λq=>e (Sum.inl.inj q);rw[bv h];exact (bP.mpr e).symm
theorem T5(a b:Str):decide ((Sum.inr a:Key)=Sum.inr b)=decide (a=b):=by
 by_cases e:a=b
 ·subst e;simp
 ·have h:¬(Sum.inr a:Key)=Sum.inr b:=λq=>e (Sum.inr.inj q);rw[bv h,bv e]
theorem T6(a:Int)(b:Str):decide ((Sum.inl a:Key)=Sum.inr b)=false:=bv (λq=>nomatch q)
theorem T7(a:Str)(b:Int):decide ((Sum.inr a:Key)=Sum.inl b)=false:=bv (λq=>nomatch q)
def v9(prog:Program)(w:World):PySem.KeyKind prog w Key where
 is:=An
 hash:=T3 w
 inj:=λv a b ha hb=>by
  rcases fU ha with ⟨i,t,rfl,rfl⟩ |⟨x,t,rfl,rfl⟩
  ·rcases fU hb with ⟨j,u,rfl,e⟩ |⟨y,u,rfl,e⟩
   ·injection e with e1 _;rw[e1]
   ·exact nomatch e
  ·rcases fU hb with ⟨j,u,rfl,e⟩ |⟨y,u,rfl,e⟩
   ·exact nomatch e
   ·injection e with e1 _;rw[e1]
 byValue:=λk v h=>by
  rcases fU h with ⟨i,t,rfl,rfl⟩ |⟨x,t,rfl,rfl⟩ <;> rfl
 pyHash:=λhv h=>by
  rcases fU hv with ⟨i,t,rfl,rfl⟩ |⟨x,t,rfl,rfl⟩
  ·exact wpAny_pyHash_int h
  ·exact wpAny_pyHash_str h
 eqBool:=λhu hv h=>by
  rcases fU hu with ⟨i,t,rfl,rfl⟩ |⟨x,t,rfl,rfl⟩
  ·rcases fU hv with ⟨j,u,rfl,rfl⟩ |⟨y,u,rfl,rfl⟩
   ·rw[T4]at h;exact wpAny_eqBool_int h
   ·rw[T6]at h;exact SeqAt.EqAt.int_str i t y u _ _ _ _ h
  ·rcases fU hv with ⟨j,u,rfl,rfl⟩ |⟨y,u,rfl,rfl⟩
   ·rw[T7]at h;exact SeqAt.EqAt.str_int x t j u _ _ _ _ h
   ·rw[T5]at h;exact wpAny_eqBool_str h
 «strs»:=λk x t v h=>by
  rcases fU h with ⟨i,u,rfl,e⟩ |⟨y,u,rfl,e⟩
  ·exact nomatch e
  ·injection e with e1 _;subst e1;cases v <;> rfl
inductive V where
 |non |bl (b:Bool) |int (i:Int) |str (x:Str) |byt (b:Array UInt8) |flt (b:UInt64) |ref (a:Addr) |ty (n:String)
 deriving DecidableEq
def RelV:V->Value->Prop
 |.non,u=>u=Value.none
 |.bl b,u=>u=Value.bool b
 |.int i,u=>∃t,u=Value.int i t
 |.str x,u=>∃t,u=Value.str x t
 |.byt b,u=>∃t,u=Value.bytes b t
 |.flt b,u=>∃t,u=Value.float b t
 |.ref a,u=>u=Value.ref a
 |.ty n,u=>u=Value.type n
abbrev Vals:List V->List Value->Prop:=Paired RelV
theorem Vals.length{xs:List V}{us:List Value}(r:Vals xs us):xs.length=us.length:=Paired.length r
theorem Vals.get:∀{xs:List V}{us:List Value}{i:Nat}{x:V},Vals xs us->xs[i]?=some x->∃u,us[i]?=some u/\RelV x u
 |_,_,_,_,.nil,e=>by simp at e
 |_,_,0,_,.cons r _,e=>by simp at e;subst e;exact ⟨_,rfl,r⟩
 |_,_,i+1,x,.cons _ t,e=>by
  obtain ⟨u,h1,h2⟩:=Vals.get (i:=i) (x:=x) t (by simpa using e);exact ⟨u,by simpa using h1,h2⟩
theorem Vals.set{x:V}{u:Value}(r:RelV x u):∀{xs:List V}{us:List Value}(i:Nat),Vals xs us->Vals (xs.set i x) (us.set i u)
 |_,_,_,.nil=>.nil
 |_,_,0,.cons _ t=>.cons r t
 |_,_,i+1,.cons q t=>.cons q (Vals.set r i t)
theorem Vals.append:∀{xs ys:List V}{us ws:List Value},Vals xs us->Vals ys ws->Vals (xs++ys) (us++ws)
 |_,_,_,_,.nil,s=>s
 |_,_,_,_,.cons r t,s=>.cons r (Vals.append t s)
theorem Vals.take:∀{xs:List V}{us:List Value}(n:Nat),Vals xs us->Vals (xs.take n) (us.take n)
 |_,_,0,_=>.nil
 |_,_,_+1,.nil=>.nil
 |_,_,n+1,.cons r t=>.cons r (Vals.take n t)
theorem Vals.drop:∀{xs:List V}{us:List Value}(n:Nat),Vals xs us->Vals (xs.drop n) (us.drop n)
 |_,_,0,r=>r
 |_,_,_+1,.nil=>.nil
 |_,_,n+1,.cons _ t=>Vals.drop n t
def wg:Option V->Option Value->Prop
 |some v,some u=>RelV v u
 |none,none=>True
 |_,_=>False
def KV{κ:Type}:List (κ×V)->List (κ×Value)->Prop:=Paired λ(p:κ×V) (q:κ×Value)=>p.1=q.1/\RelV p.2 q.2
def kV:Key->V
 |.inl i=>.int i
 |.inr x=>.str x
inductive HO where
 |lst (xs:List V)
 |tup (xs:List V)
 |dK (kvs:List (Key×V)) |dT (kvs:List (List Key×V))
 |set (S:Int->Bool) (n:Nat)
 |ins (C dx:Addr) (fs:List (Str×V))
 |own (x:Addr)
 |xd (fs:List (Str×V))
 |met (f x:Addr)
 |rng (lo hi:Int)
 |frz (o:Obj) (u:HO)
 |tbl (ps:Array Value)
 |ext (φ:Heap->Prop)
abbrev Hp:=Addr->Option HO
def upd(H:Hp)(a:Addr)(o:HO):Hp:=λb=>if b=a then some o else H b
theorem dh{H:Hp}{a:Addr}{o:HO}:upd H a o a=some o:=by unfold upd;rw[if_pos rfl]
theorem aK{H:Hp}{a b:Addr}{o:HO}(h:b≠a):upd H a o b=H b:=by unfold upd;rw[if_neg h]
theorem Ao{H:Hp}{a b:Addr}{o u:HO}(h:H a=some o)(h':H b=some u)(d:o≠u):a≠b:=by intro e;subst e;rw[h]at h';exact d (dn h')
theorem bu{H:Hp}{a b:Addr}{o:HO}(h:H a=some o)(h':H b=none):a≠b:=by intro e;subst e;rw[h]at h';cases h'
section
variable (P:Program) (w:World)
def ObjOk(H:Hp)(h:Heap)(a:Addr):HO->Prop
 |.lst xs=>xs.length<=sizeLine/\∃(its:List Value) (n:Nat),Vals xs its/\h.get? a=some { cls:=.type "list",data:=.seq its.toArray n }
 |.tup xs=>xs.length<=sizeLine/\∃its:List Value,Vals xs its/\IsTup h a its.toArray
 |.dK kvs=>kvs.length<=sizeLine/\(a==sysModules)=false/\∃vs,KV kvs vs/\h.DictOf (v9 P w) a vs
 |.dT kvs=>kvs.length<=sizeLine/\(a==sysModules)=false/\∃xs:List (List Key×Addr×Value),
   Paired (λ(p:List Key×V) (q:List Key×Addr×Value)=>p.1=q.1/\H q.2.1=some (.tup (p.1.map kV))/\RelV p.2 q.2.2) kvs xs/\
   ∃o es ep,h.get? a=some o/\o.ExactDict/\o.data=.dict es ep/\es.toList=xs.map (entryOfKey (tupleKind (v9 P w)))/\(xs.map (·.1)).Nodup
 |.set S n=>h.SetOf (intKind P w) a S n
 |.ins C dx fs=>H dx=some (.own a)/\fs.length<=1000/\dx≠a/\h.get? a=some (PySem.W.instObj C dx)/\
   ∃mA,h.Ns1 dx mA/\(∀f,wg (fs.lookup f) (mA f))/\PySem.Within mA (fs.map (·.1))
 |.own _=>∃o,h.get? a=some o
 |.xd fs=>∃mA,h.Ns1 a mA/\∀f,wg (fs.lookup f) (mA f)
 |.rng lo hi=>∃t u v,h.get? a=some { cls:=.type "range",data:=.fields #[.int lo t,.int hi u,.int 1 v] }
 |.frz o u=>h.get? a=some o/\ObjOk H h a u
 |.tbl ps=>h.get? a=some { cls:=.none,data:=.fields ps }
 |.met f x=>h.get? a=some (PySem.W.methodObj (.ref f) (.ref x))
 |.ext φ=>φ h/\(∃o,h.get? a=some o)/\∀h1 h2:Heap,φ h1->(∀o,h1.get? a=some o->h2.get? a=some o)->φ h2
def HOk(H:Hp)(h:Heap):Prop:=∀a o,H a=some o->ObjOk P w H h a o
end
section
variable {P:Program} {w:World} {H H':Hp} {h h':Heap} {a:Addr} {o:HO}
theorem ObjOk.lt(x:ObjOk P w H h a o):a < h.objs.size:=by
 cases o with
 |lst xs=>obtain ⟨_,_,_,_,e⟩:=x;exact ax e
 |tup xs=>obtain ⟨_,_,_,p⟩:=x;exact p.lt
 |dK kvs=>obtain ⟨_,_,_,_,o,_,_,e,_⟩:=x;exact ax e
 |dT kvs=>obtain ⟨_,_,_,_,o,_,_,e,_⟩:=x;exact ax e
 |set S n=>obtain ⟨o,_,_,_,e,_⟩:=x;exact ax e
 |ins C dx fs=>obtain ⟨_,_,_,e,_⟩:=x;exact ax e
 |own y=>obtain ⟨_,e⟩:=x;exact ax e
 |xd fs=>obtain ⟨_,⟨_,_,_,e,_⟩,_⟩:=x;exact ax e
 |rng lo hi=>obtain ⟨_,_,_,e⟩:=x;exact ax e
 |frz ob u=>obtain ⟨e,_⟩:=x;exact ax e
 |tbl ps=>exact ax (show h.get? a=some _ from x)
 |met f y=>exact ax (show h.get? a=some _ from x)
 |ext φ=>obtain ⟨_,⟨_,e⟩,_⟩:=x;exact ax e
theorem Paired.mapP{α β:Type}{F G:α->β->Prop}:∀{l₁:List α}{l₂:List β},Paired F l₁ l₂->(∀a b,F a b->G a b)->Paired G l₁ l₂
 |_,_,.nil,_=>.nil
 |_,_,.cons r t,f=>.cons (f _ _ r) (Paired.mapP t f)
theorem ObjOk.stay(x:ObjOk P w H h a o)(k:∀b u,(b=a\/H b=some (.own a))->h.get? b=some u->h'.get? b=some u)
  (ho:∀b,H b=some (.own a)->H' b=some (.own a)) (ht:∀b xs,H b=some (.tup xs)->H' b=some (.tup xs)):ObjOk P w H' h' a o:=by
 induction o with
 |lst xs=>obtain ⟨z,its,n,r,e⟩:=x;exact ⟨z,its,n,r,k _ _ (.inl rfl) e⟩
 |tup xs=>obtain ⟨z,its,r,ob,e,c⟩:=x;exact ⟨z,its,r,ob,k _ _ (.inl rfl) e,c⟩
 |dK kvs=>obtain ⟨z,y,vs,r,ob,es,ep,e,c⟩:=x;exact ⟨z,y,vs,r,ob,es,ep,k _ _ (.inl rfl) e,c⟩
 |dT kvs=>
  obtain ⟨z,y,xs,r,ob,es,ep,e,c⟩:=x;exact ⟨z,y,xs,Paired.mapP r λp q z=>⟨z.1,ht _ _ z.2.1,z.2.2⟩,ob,es,ep,k _ _ (.inl rfl) e,c⟩
 |set S n=>obtain ⟨ob,es,ep,t,e,c⟩:=x;exact ⟨ob,es,ep,t,k _ _ (.inl rfl) e,c⟩
 |ins C dx fs=>
  obtain ⟨d,z,ne,e,mA,⟨od,es,ep,e2,c⟩,r⟩:=x;exact ⟨ho _ d,z,ne,k _ _ (.inl rfl) e,mA,⟨od,es,ep,k _ _ (.inr d) e2,c⟩,r⟩
 |own y=>obtain ⟨ob,e⟩:=x;exact ⟨ob,k _ _ (.inl rfl) e⟩
 |xd fs=>obtain ⟨mA,⟨od,es,ep,e,c⟩,r⟩:=x;exact ⟨mA,⟨od,es,ep,k _ _ (.inl rfl) e,c⟩,r⟩
 |rng lo hi=>obtain ⟨t,u,v,e⟩:=x;exact ⟨t,u,v,k _ _ (.inl rfl) e⟩
 |frz ob u ih=>obtain ⟨e,q⟩:=x;exact ⟨k _ _ (.inl rfl) e,ih q⟩
 |tbl ps=>
  have e:h.get? a=some { cls:=.none,data:=.fields ps }:=x;show h'.get? a=some { cls:=.none,data:=.fields ps };exact k a _ (.inl rfl) e
 |met f y=>
  have e:h.get? a=some (PySem.W.methodObj (.ref f) (.ref y)):=x;show h'.get? a=some (PySem.W.methodObj (.ref f) (.ref y));exact k a _ (.inl rfl) e
 |ext φ=>obtain ⟨p,⟨o,e⟩,st⟩:=x;exact ⟨st _ _ p λo q=>k _ _ (.inl rfl) q,⟨o,k _ _ (.inl rfl) e⟩,st⟩
theorem HOk.lt(x:HOk P w H h)(e:H a=some o):a < h.objs.size:=(x a o e).lt
theorem HOk.fresh(x:HOk P w H h)(e:h.objs.size<=a):H a=none:=by
 cases q:H a with
 |none=>rfl
 |some u=>exact absurd (bi (x.lt q) e) (d3 _)
theorem HOk.kept(x:HOk P w H h)(k:∀b u,h.get? b=some u->h'.get? b=some u):HOk P w H h':=λa o e=>
 (x a o e).stay (λb u _ q=>k b u q) (λ_ q=>q) λ_ _ q=>q
theorem HOk.laid(x:HOk P w H h)(k:∀b u,h.get? b=some u->h'.get? b=some u)(hp:h.objs.size<=a)(new:ObjOk P w (upd H a o) h' a o):HOk P w (upd H a o) h':=λb u e=>by
 have hn:=x.fresh hp;by_cases hb:b=a
 ·subst hb;rw[dh]at e;cases e;exact new
 ·rw[aK hb]at e;exact (x b u e).stay (λc v _ q=>k c v q) (λc q=>by rw[aK (bu q hn)];exact q) λc xs q=>by rw[aK (bu q hn)];exact q
end
def Rd(H:Hp)(a:Addr)(u:HO):Prop:=H a=some u\/∃o,H a=some (.frz o u)
theorem Rd.ok{P:Program}{w:World}{H:Hp}{h:Heap}{a:Addr}{u:HO}(r:Rd H a u)(x:HOk P w H h):ObjOk P w H h a u:=by
 rcases r with r |⟨o,r⟩
 ·exact x a u r
 ·obtain ⟨_,q⟩:=x a _ r;exact q
noncomputable def Mut:Option HO->Prop
 |some (.lst _)=>True
 |some (.dK _)=>True
 |some (.dT _)=>True
 |some (.set _ _)=>True
 |some (.ins _ _ _)=>True
 |some (.ext _)=>True
 |_=>False
section
variable {P:Program} {w:World} {H:Hp} {h h':Heap} {x e:Addr} {o':HO}
theorem HOk.write(ok:HOk P w H h)(mu:Mut (H x))(he:e=x\/H e=some (.own x))(k:∀b u,b≠e->h.get? b=some u->h'.get? b=some u)(heo:∃u,h'.get? e=some u)
  (new:ObjOk P w (upd H x o') h' x o'):HOk P w (upd H x o') h':=λb u q=>by
 have nown:∀c y,H c=some (.own y)->c≠x:=λc y r z=>by subst z;rw[r]at mu;exact mu
 have ntup:∀c xs,H c=some (.tup xs)->c≠x:=λc xs r z=>by subst z;rw[r]at mu;exact mu
 by_cases hb:b=x
 ·subst hb;rw[dh]at q;cases q;exact new
 ·rw[aK hb]at q;by_cases hbe:b=e
  ·have q':H b=some (.own x):=by
    rcases he with z |z
    ·exact absurd (hbe.trans z) hb
    ·rw[hbe];exact z
   rw[q]at q';cases q';obtain ⟨v,hv⟩:=heo;exact ⟨v,by rw[hbe];exact hv⟩
  ·refine (ok b u q).stay (λc v hc r=>k c v ?_ r) (λc r=>by rw[aK (nown c b r)];exact r) λc xs r=>by rw[aK (ntup c xs r)];exact r
   rcases hc with rfl |hc
   ·exact hbe
   ·rintro rfl;rcases he with z |z
    ·exact nown c b hc z
    ·rw[hc]at z;cases z;exact hb rfl
end
structure Un(fs ex:List Addr)(H H':Hp)(h h':Heap):Prop where
 keep:∀b o,h.get? b=some o->H b=none->b∉fs->b∉ex->h'.get? b=some o
 slot:∀b o,h.get? b=some o->H b=none->b∈fs->b∉ex->∃sl,h'.get? b=some { o with slots:=sl }
 free:∀b o,h.get? b=some o->H b=none->b∉ex->H' b=none
 there:∀b o,h.get? b=some o->b∉ex->∃o',h'.get? b=some o'
 tups:∀b xs,H b=some (.tup xs)->H' b=some (.tup xs)
 frzs:∀b o u,H b=some (.frz o u)->H' b=some (.frz o u)
 tbls:∀b ps,H b=some (.tbl ps)->∃more,H' b=some (.tbl (ps++more))
section
variable {fs fs' ex ex':List Addr} {H H1 H2:Hp} {h h1 h2 h':Heap} {a x e:Addr} {o:HO}
theorem Un.any(u:Un fs ex H H1 h h1){b:Addr}{ob:Obj}(q:h.get? b=some ob)(n:H b=none)(hx:b∉ex):∃sl,h1.get? b=some { ob with slots:=sl }:=by
 by_cases hb:b∈fs
 ·exact u.slot b ob q n hb hx
 ·exact ⟨ob.slots,u.keep b ob q n hb hx⟩
theorem Un.kept(k:∀b u,h.get? b=some u->h'.get? b=some u):Un fs ex H H h h':=
 ⟨λb ob q _ _ _=>k b ob q,λb ob q _ _ _=>⟨ob.slots,k b ob q⟩,λ_ _ _ n _=>n,λb ob q _=>⟨ob,k b ob q⟩,λ_ _ q=>q,λ_ _ _ q=>q,λ_ ps q=>⟨#[],by rw[q];simp⟩⟩
theorem Un.refl:Un fs ex H H h h:=Un.kept λ_ _ q=>q
theorem Un.laid(k:∀b u,h.get? b=some u->h'.get? b=some u)(hp:h.objs.size<=a)(hn:H a=none):Un fs ex H (upd H a o) h h' where
 keep:=λb u q _ _ _=>k b u q
 slot:=λb u q _ _ _=>⟨u.slots,k b u q⟩
 free:=λb u q n _=>by rw[aK (cq (bi (ax q) hp))];exact n
 there:=λb u q _=>⟨u,k b u q⟩
 tups:=λb xs q=>by rw[aK (bu q hn)];exact q
 frzs:=λb u xs q=>by rw[aK (bu q hn)];exact q
 tbls:=λb ps q=>⟨#[],by rw[aK (bu q hn),q];simp⟩
theorem Un.write(mu:Mut (H x))(he:e=x\/H e=some (.own x))(k:∀b u,b≠e->h.get? b=some u->h'.get? b=some u)(heo:∃u,h'.get? e=some u):Un fs ex H (upd H x o) h h':=by
 have hx:∀b,H b=none->b≠x:=λb n z=>by subst z;rw[n]at mu;exact mu
 have hb:∀b,H b=none->b≠e:=λb n z=>by
  subst z;rcases he with r |r
  ·exact hx b n r
  ·rw[n]at r;cases r
 have hm:∀b u,H b=some u->¬Mut (some u)->b≠x:=λb u q nm z=>by subst z;rw[q]at mu;exact nm mu
 refine ⟨λb u q n _ _=>k b u (hb b n) q,λb u q n _ _=>⟨u.slots,k b u (hb b n) q⟩,λb u q n _=>by rw[aK (hx b n)];exact n,λb u q _=>?_,
  λb xs q=>by rw[aK (hm b _ q λz=>z)];exact q,λb u xs q=>by rw[aK (hm b _ q λz=>z)];exact q,λb ps q=>⟨#[],by rw[aK (hm b _ q λz=>z),q];simp⟩⟩
 by_cases hbe:b=e
 ·subst hbe;exact heo
 ·exact ⟨u,k b u hbe q⟩
end
def trk(h:Heap)(H:Hp):List Addr:=(List.range h.objs.size).filter λa=>(H a).isSome
def fV(h:Heap)(H:Hp):Heap:=PySem.W.hideAll h (trk h H)
theorem T8(h:Heap)(H:Hp):(fV h H).objs.size=h.objs.size:=PySem.W.hideAll_size _ _
theorem T9{h:Heap}{H:Hp}{b:Addr}{o:Obj}(e:h.get? b=some o)(n:H b=none):(fV h H).get? b=some o:=
 PySem.W.hideAll_get _ e λhm=>by
  have q:(H b).isSome=true:=(e8.mp hm).2;rw[n]at q;simp at q
theorem Ua{h:Heap}{H:Hp}{b:Addr}{o:Obj}(e:(fV h H).get? b=some o):h.get? b=some o/\H b=none:=by
 have e':h.get? b=some o:=PySem.W.of_hideAll (trk h H) e;refine ⟨e',?_⟩;cases q:H b with
 |none=>rfl
 |some x=>
  have hm:b∈trk h H:=e8.mpr ⟨List.mem_range.mpr (ax e'),by simp[q]⟩;have z:(fV h H).get? b=none:=PySem.W.hideAll_none (trk h H) hm;rw[z]at e;cases e
noncomputable def Ub(g h:Heap)(L:Addr):List (Addr×Obj):=(List.range h.objs.size).filterMap λa=>if a=L\/(g.get? a).isSome=true then none else (h.get? a).map λo=>(a,o)
def rest(g h:Heap)(L d:Addr):List (Addr×Obj):=(Ub g h L).filter λp=>decide (p.1≠d)
structure Mod(K:PySem.W.Frag)(mg:Str->Option Value)(base:Heap):Prop where
 kin:K.In base
 glob:base.Ns mainGlobals mg
 blt:∃mb,base.Ns builtinsNs mb/\∀x:Str,x≠"__name__"->mb x=bootBuiltins x
 nolimit:base.NoLimit
structure Cx where
 prog:Program
 w:World
 K:PySem.W.Frag
 mg:Str->Option Value
 base:Heap
 A:Around
 N:List Str
 s₀:Shared
 H₀:Hp
 env:Env
 outer:List Env
 stack:List Env
 ex:List Addr
 fn:Str->Bool
 calm:Bool
 pn:List (Addr×Obj)
 xe:Value->Shared->Prop
def frs(l:List Env):List Addr:=l.filterMap (·.frame)
abbrev Cx.fs(X:Cx):List Addr:=frs X.outer
def Vis(sc:Scope)(x:Str):Prop:=sc.names.lookup x=some .local\/sc.names.lookup x=some .cell\/sc.names.lookup x=some .free
def Loc(sc:Scope)(x:Str):Prop:=sc.names.lookup x=some .local\/sc.names.lookup x=some .cell
def Look(env:Env)(h:Heap)(m:Str->Option Value)(x:Str)(u:Value):Prop:=
 (env.kindOf x=some .local/\m x=some u)\/((env.kindOf x=some .cell\/env.kindOf x=some .free)/\∃c,env.cells.lookup x=some c/\h.IsCell c (some u))
structure Cx.Ok(X:Cx):Prop where
 mod:Mod X.K X.mg X.base
 kind:X.env.scope.kind=.function
 glob:X.env.globals=mainGlobals
 blt:X.env.builtins=builtinsNs
 above:X.s₀.heap.objs.size<=X.env.locals
 inj:∀x y c,X.env.cells.lookup x=some c->X.env.cells.lookup y=some c->x=y
 has:∀x,(X.env.kindOf x=some .cell\/X.env.kindOf x=some .free)->∃c,X.env.cells.lookup x=some c
 cab:∀x c,X.fn x=true->X.env.cells.lookup x=some c->X.s₀.heap.objs.size<=c
 hd:X.calm=true->X.A.handled=none
 frames:X.A.frames=some X.stack
 stk:X.stack=X.outer\/(X.stack=X.env::X.outer/\X.env.frame=some X.env.locals)
 exf:∀b∈X.ex,b≠X.env.locals/\∀x c,X.env.cells.lookup x=some c->c≠b
 bs:∀b o,X.base.get? b=some o->X.s₀.heap.get? b=some o/\X.H₀ b=none
 bsz:X.base.objs.size<=X.s₀.heap.objs.size
 noex:∀b o,X.base.get? b=some o->b∉X.ex
 exfs:∀b∈X.ex,b∉X.fs
 funs:X.s₀.heap.FunFrames X.base X.outer
 frf:∀b∈X.fs,X.H₀ b=none
structure Inv(X:Cx)(pins:List (Addr×Obj))(σ:List (Option V))(H:Hp)(s:Shared):Prop where
 ok:X.Ok
 os:s.os=X.s₀.os
 bare:AllBare s.gens
 base:Un X.fs X.ex X.H₀ H X.s₀.heap s.heap
 loc:∃m,s.heap.Ns X.env.locals m/\∀(i:Nat)(x:Str)(v:V),X.N[i]?=some x->σ[i]?=some (some v)->Vis X.env.scope x->∃u,RelV v u/\Look X.env s.heap m x u
 cell:∀x c,X.env.cells.lookup x=some c->∃v,s.heap.IsCell c v
 free:H X.env.locals=none
 freeC:∀x c,X.env.cells.lookup x=some c->H c=none
 pin:∀p∈X.pn++pins,s.heap.get? p.1=some p.2/\H p.1=none/\p.1≠X.env.locals/\p.1∉X.fs/\∀v,p.2.data≠.cell v
 hok:HOk X.prog X.w H s.heap
 len:σ.length=X.N.length
section
variable {X:Cx} {pins:List (Addr×Obj)} {σ:List (Option V)} {H H':Hp} {s:Shared} {h':Heap}
theorem Cx.Ok.nofr(ok:X.Ok){b:Addr}{o:Obj}(e:X.base.get? b=some o):b∉X.fs:=λhb=>by
 have:=(ok.funs.mem hb).1;rw[e]at this;cases this
theorem Inv.bs(I:Inv X pins σ H s):∀b o,X.base.get? b=some o->s.heap.get? b=some o/\H b=none:=λb o e=>
 ⟨I.base.keep b o (I.ok.bs b o e).1 (I.ok.bs b o e).2 (I.ok.nofr e) (I.ok.noex b o e),I.base.free b o (I.ok.bs b o e).1 (I.ok.bs b o e).2 (I.ok.noex b o e)⟩
theorem Inv.bk(I:Inv X pins σ H s):∀b o,X.base.get? b=some o->s.heap.get? b=some o:=λb o e=>(I.bs b o e).1
theorem Inv.mod(I:Inv X pins σ H s):Mod X.K X.mg X.base:=I.ok.mod
theorem Inv.kIn(I:Inv X pins σ H s):X.K.In s.heap:=I.ok.mod.kin.keeps I.bk
theorem Inv.lt(I:Inv X pins σ H s):X.env.locals < s.heap.objs.size:=let ⟨_,hn,_⟩:=I.loc;hn.lt
theorem Inv.sz(I:Inv X pins σ H s):X.s₀.heap.objs.size<=s.heap.objs.size:=c9 I.ok.above (Nat.le_of_lt I.lt)
theorem Inv.nofs(I:Inv X pins σ H s){a:Addr}(h:s.heap.objs.size<=a):a∉X.fs:=λhb=>by
 obtain ⟨_,o,ho,_⟩:=I.ok.funs.mem hb;exact absurd (bi (ax ho) (c9 I.sz h)) (d3 _)
theorem Inv.cne(I:Inv X pins σ H s):∀x c,X.env.cells.lookup x=some c->c≠X.env.locals:=λx c e z=>by
 obtain ⟨v,o,ho,hd⟩:=I.cell x c e;obtain ⟨m,⟨o',es,ep,ho',hd',_⟩,_⟩:=I.loc;rw[z,ho']at ho;cases ho;rw[hd']at hd;cases hd
theorem Inv.funs(I:Inv X pins σ H s):s.heap.FunFrames X.base X.outer:=by
 have all:∀(l:List Env),(∀b∈frs l,b∈X.fs)->X.s₀.heap.FunFrames X.base l->s.heap.FunFrames X.base l:=by
  intro l;induction l with
  |nil=>intro _ _;trivial
  |cons env r ih=>
   intro hs hl;obtain ⟨hk,⟨L,o,hf,hn,ho,hd⟩,hr⟩:=hl;have hL:L∈X.fs:=hs L (by unfold frs;rw[fk,hf];exact bS);obtain ⟨sl,e⟩:=I.base.slot L o ho (I.ok.frf L hL) hL λz=>I.ok.exfs L z hL;exact ⟨hk,⟨L,_,hf,hn,e,hd⟩,ih (λb hb=>hs b (by unfold frs;rw[fk,hf];exact b9 _ hb)) hr⟩
 exact all X.outer (λ_ hb=>hb) I.ok.funs
theorem Inv.stack(I:Inv X pins σ H s):s.heap.FunFrames X.base X.stack:=by
 rcases I.ok.stk with e |⟨e,hf⟩
 ·rw[e];exact I.funs
 ·rw[e];obtain ⟨m,hn,_⟩:=I.loc;refine .cons (by rw[I.ok.kind];decide) hf hn ?_ I.funs;exact Heap.get?_none_of_le (c9 I.ok.bsz I.ok.above)
theorem Inv.stkSub(I:Inv X pins σ H s):∀b∈frs X.stack,b∈X.env.locals::X.fs:=λb hb=>by
 rcases I.ok.stk with e |⟨e,hf⟩
 ·rw[e]at hb;exact b9 _ hb
 ·rw[e]at hb;unfold frs at hb;rw[fk,hf]at hb;exact hb
theorem Inv.stkFree(I:Inv X pins σ H s):∀b∈frs X.stack,H b=none:=λb hb=>by
 rcases bn.mp (I.stkSub b hb) with e |hb
 ·rw[e];exact I.free
 ·obtain ⟨_,o,ho,_⟩:=I.ok.funs.mem hb;exact I.base.free b o ho (I.ok.frf b hb) λz=>I.ok.exfs b z hb
theorem Inv.step{g':Array GenState}{t':Nat}{d':Drawn}{ch:List Addr}(I:Inv X pins σ H s)
  (hch:∀b∈ch,(b∈X.ex\/X.s₀.heap.objs.size<=b)/\b≠X.env.locals/\(∀x c,X.env.cells.lookup x=some c->c≠b)/\∀p∈X.pn++pins,p.1≠b)
  (keep:∀b o,b≠X.env.locals->b∉X.fs->b∉ch->s.heap.get? b=some o->H b=none->h'.get? b=some o)
  (slot:∀b o,b≠X.env.locals->b∈X.fs->b∉ch->s.heap.get? b=some o->H b=none->∃sl,h'.get? b=some { o with slots:=sl }) (free:∀b o,b∉ch->s.heap.get? b=some o->H b=none->H' b=none)
  (there:∀b o,b∉ch->s.heap.get? b=some o->∃o',h'.get? b=some o')
  (tups:∀b xs,H b=some (.tup xs)->H' b=some (.tup xs)) (frzs:∀b o u,H b=some (.frz o u)->H' b=some (.frz o u)) (tbls:∀b ps,H b=some (.tbl ps)->∃more,H' b=some (.tbl (ps++more)))
  (ns:∀m,s.heap.Ns X.env.locals m->h'.Ns X.env.locals m) (hok:HOk X.prog X.w H' h') (hg:AllBare g'):
  Inv X pins σ H' { s with heap:=h',gens:=g',drawn:=d',toks:=t' }:=by
 have neL:∀b o,X.s₀.heap.get? b=some o->b≠X.env.locals:=λb o e=>cq (bi (ax e) I.ok.above);have neC:∀b o,X.s₀.heap.get? b=some o->b∉X.ex->b∉ch:=λb o e hx hb=>by
  rcases (hch b hb).1 with z |z
  ·exact hx z
  ·exact absurd (bi (ax e) z) (d3 _)
 have cellK:∀x c,X.env.cells.lookup x=some c->∀v,s.heap.IsCell c v->h'.IsCell c v:=λx c e v ⟨o,ho,hd⟩=>by
  have nch:c∉ch:=λz=>(hch c z).2.2.1 x c e rfl;by_cases hc:c∈X.fs
  ·obtain ⟨sl,q⟩:=slot c o (I.cne x c e) hc nch ho (I.freeC x c e);exact ⟨_,q,hd⟩
  ·exact ⟨o,keep c o (I.cne x c e) hc nch ho (I.freeC x c e),hd⟩
 refine ⟨I.ok,I.os,hg,⟨λb o e n hb hx=>?_,λb o e n hb hx=>?_,λb o e n hx=>?_,λb o e hx=>?_,λb xs e=>tups b xs (I.base.tups b xs e),λb o xs e=>frzs b o xs (I.base.frzs b o xs e),λb ps e=>?_⟩,?_,λx c e=>?_,?_,λx c e=>?_,λp hp=>?_,hok,I.len⟩
 ·exact keep b o (neL b o e) hb (neC b o e hx) (I.base.keep b o e n hb hx) (I.base.free b o e n hx)
 ·obtain ⟨sl,e1⟩:=I.base.slot b o e n hb hx;obtain ⟨sl',e2⟩:=slot b _ (neL b o e) hb (neC b o e hx) e1 (I.base.free b o e n hx);exact ⟨sl',e2⟩
 ·obtain ⟨o',e1⟩:=I.base.there b o e hx;exact free b o' (neC b o e hx) e1 (I.base.free b o e n hx)
 ·obtain ⟨o',e1⟩:=I.base.there b o e hx;exact there b o' (neC b o e hx) e1
 ·obtain ⟨m1,e1⟩:=I.base.tbls b ps e;obtain ⟨m2,e2⟩:=tbls b _ e1;exact ⟨m1++m2,by rw[e2,Array.append_assoc]⟩
 ·obtain ⟨m,hn,hl⟩:=I.loc;refine ⟨m,ns m hn,λi x v e1 e2 e3=>?_⟩;obtain ⟨u,r,l⟩:=hl i x v e1 e2 e3;refine ⟨u,r,?_⟩;rcases l with l |⟨k,c,e,z⟩
  ·exact .inl l
  ·exact .inr ⟨k,c,e,cellK x c e _ z⟩
 ·obtain ⟨v,z⟩:=I.cell x c e;exact ⟨v,cellK x c e v z⟩
 ·obtain ⟨m,⟨o,_,_,ho,_⟩,_⟩:=I.loc;exact free _ o (λz=>(hch _ z).2.1 rfl) ho I.free
 ·obtain ⟨v,o,ho,hd⟩:=I.cell x c e;exact free c o (λz=>(hch c z).2.2.1 x c e rfl) ho (I.freeC x c e)
 ·obtain ⟨e,n,ne,nf,d⟩:=I.pin p hp;have nch:p.1∉ch:=λz=>(hch p.1 z).2.2.2 p hp rfl;exact ⟨keep p.1 p.2 ne nf nch e n,free p.1 p.2 nch e n,ne,nf,d⟩
theorem Inv.un{t':Nat}(I:Inv X pins σ H s)(u:Un X.fs [] H H' s.heap h')(hok:HOk X.prog X.w H' h'):Inv X pins σ H' { s with heap:=h',toks:=t' }:=by
 obtain ⟨m,⟨o,es,ep,ho,r⟩,_⟩:=id I.loc;obtain ⟨sl,hL⟩:=u.any ho I.free (by simp);exact I.step (g':=s.gens) (d':=s.drawn) (ch:=[]) (λ_ z=>nomatch z) (λb o _ hb _ e n=>u.keep b o e n hb (by simp)) (λb o _ hb _ e n=>u.slot b o e n hb (by simp)) (λb o _ e n=>u.free b o e n (by simp)) (λb o _ e=>u.there b o e (by simp)) u.tups u.frzs u.tbls (λm' hm=>by
  obtain ⟨o',es',ep',ho',r'⟩:=hm;rw[ho]at ho';cases ho';exact ⟨_,es',ep',hL,r'⟩) hok I.bare
theorem Inv.call{g':Array GenState}{t':Nat}{d':Drawn}{ch:List Addr}(I:Inv X pins σ H s)(u:Un (frs X.stack) ch H H' s.heap h')(hok:HOk X.prog X.w H' h')(hg:AllBare g')
  (hch:∀b∈ch,(b∈X.ex\/X.s₀.heap.objs.size<=b)/\b≠X.env.locals/\(∀x c,X.env.cells.lookup x=some c->c≠b)/\∀p∈X.pn++pins,p.1≠b):
  Inv X pins σ H' { s with heap:=h',gens:=g',drawn:=d',toks:=t' }:=by
 obtain ⟨m,⟨o,es,ep,ho,r⟩,_⟩:=id I.loc;obtain ⟨sl,hL⟩:=u.any ho I.free λz=>(hch _ z).2.1 rfl;exact I.step (ch:=ch) hch (λb o hL hb hc e n=>u.keep b o e n (λz=>(bn.mp (I.stkSub b z)).elim hL hb) hc) (λb o _ _ hc e n=>u.any e n hc) (λb o hc e n=>u.free b o e n hc) (λb o hc e=>u.there b o e hc) u.tups u.frzs u.tbls (λm' hm=>by
  obtain ⟨o',es',ep',ho',r'⟩:=hm;rw[ho]at ho';cases ho';exact ⟨_,es',ep',hL,r'⟩) hok hg
theorem Inv.turned{t':Nat}{it:Addr}(I:Inv X pins σ H s)(k:∀b o,b≠it->s.heap.get? b=some o->h'.get? b=some o)(hn:H it=none)(hL:it≠X.env.locals)
  (h1:it∈X.ex\/X.s₀.heap.objs.size<=it) (h2:∀x c,X.env.cells.lookup x=some c->c≠it) (h3:∀p∈X.pn++pins,p.1≠it):Inv X pins σ H { s with heap:=h',toks:=t' }:=by
 have nit:∀b u,H b=some u->b≠it:=λb u e z=>by rw[z,hn]at e;cases e
 refine I.step (g':=s.gens) (d':=s.drawn) (ch:=[it]) (λb hb=>?_) (λb o _ _ hc e _=>k b o (λz=>hc (by simp[z])) e) (λb o _ _ hc e _=>⟨o.slots,k b o (λz=>hc (by simp[z])) e⟩) (λ_ _ _ _ n=>n)
  (λb o hc e=>⟨o,k b o (λz=>hc (by simp[z])) e⟩) (λ_ _ e=>e) (λ_ _ _ e=>e) (λb ps e=>⟨#[],by rw[e];simp⟩) (λm hm=>?_) (λb u e=>?_) I.bare
 ·have e:b=it:=by simpa using hb
  subst e;exact ⟨h1,hL,h2,h3⟩
 ·obtain ⟨o,es,ep,ho,r⟩:=hm;exact ⟨o,es,ep,k _ o (Ne.symm hL) ho,r⟩
 ·refine (I.hok b u e).stay (λc v hc q=>k c v ?_ q) (λ_ q=>q) λ_ _ q=>q;rcases hc with z |z
  ·rw[z];exact nit b u e
  ·exact nit c _ z
theorem Inv.tok(I:Inv X pins σ H s)(t:Nat):Inv X pins σ H { s with toks:=t }:=I.un (h':=s.heap) (t':=t) Un.refl I.hok
theorem Inv.kept{t':Nat}(I:Inv X pins σ H s)(k:∀b u,s.heap.get? b=some u->h'.get? b=some u):Inv X pins σ H { s with heap:=h',toks:=t' }:=I.un (Un.kept k) (I.hok.kept k)
theorem Inv.laid{a:Addr}{o:HO}{t':Nat}(I:Inv X pins σ H s)(k:∀b u,s.heap.get? b=some u->h'.get? b=some u)(hp:s.heap.objs.size<=a)(new:ObjOk X.prog X.w (upd H a o) h' a o):
  Inv X pins σ (upd H a o) { s with heap:=h',toks:=t' }:=I.un (Un.laid k hp (I.hok.fresh hp)) (I.hok.laid k hp new)
theorem Inv.write{x e:Addr}{o:HO}{t':Nat}(I:Inv X pins σ H s)(mu:Mut (H x))(he:e=x\/H e=some (.own x))(k:∀b u,b≠e->s.heap.get? b=some u->h'.get? b=some u)(heo:∃u,h'.get? e=some u)
  (new:ObjOk X.prog X.w (upd H x o) h' x o):Inv X pins σ (upd H x o) { s with heap:=h',toks:=t' }:=I.un (Un.write mu he k heo) (I.hok.write mu he k heo new)
theorem Inv.pins_of{pins':List (Addr×Obj)}(I:Inv X pins σ H s)(h:∀p∈pins',s.heap.get? p.1=some p.2/\H p.1=none/\p.1≠X.env.locals/\p.1∉X.fs/\∀v,p.2.data≠.cell v):Inv X pins' σ H s:=
 ⟨I.ok,I.os,I.bare,I.base,I.loc,I.cell,I.free,I.freeC,λp hp=>(bb.mp hp).elim (λz=>I.pin p (dk _ z)) (h p),I.hok,I.len⟩
theorem wj{N:List Str}(hN:N.Nodup){i j:Nat}{x:Str}(a:N[i]?=some x)(b:N[j]?=some x):i=j:=by obtain ⟨h1,e1⟩:=ar.mp a;obtain ⟨h2,e2⟩:=ar.mp b;exact (List.getElem_inj hN).mp (e1.trans e2.symm)
theorem Uc{M:Model}{A:Around}{E:Value->Shared->Prop}{i:Nat}{x:Str}{v:V}{u:Value}{Q:Unit->Shared->Prop}(I:Inv X pins σ H s)(hN:X.N.Nodup)(hi:X.N[i]?=some x)(hx:Loc X.env.scope x)(r:RelV v u)
  (h:∀s',Inv X pins (σ.set i (some v)) H s'->(∃a,Heap.SameBut a s.heap s'.heap/\(a=X.env.locals\/X.env.cells.lookup x=some a))->Q () s') (hf:X.fn x=true\/X.env.scope.names.lookup x=some .local:=by first |exact .inl rfl |exact .inr rfl |assumption):wpAny M A (storeName X.env x u) Q E s:=by
 obtain ⟨m,hn,hl⟩:=id I.loc;have hcls:(X.env.scope.kind==.class||(X.env.scope.kind==.module&&X.env.locals != X.env.globals))=false:=by rw[I.ok.kind];rfl
 have hiσ:i < σ.length:=by rw[I.len];exact (ar.mp hi).1
 have cne:=I.cne;have tracked:∀{a:Addr}{h':Heap},(∃o,s.heap.get? a=some o/\H a=none)->Heap.SameBut a s.heap h'->HOk X.prog X.w H h':=λ{a h'} ha hs b ob e=>by
  obtain ⟨_,_,hfree⟩:=ha;refine (I.hok b ob e).stay (λc w' hc q=>(hs.2 c ?_).trans q) (λ_ q=>q) λ_ _ q=>q;rintro rfl;rcases hc with rfl |hc
  ·rw[hfree]at e;cases e
  ·rw[hfree]at hc;cases hc
 rcases hx with hk |hk
 ·refine wpAny_storeName_local hk hn (λh' hn' hs=>?_) hcls;obtain ⟨oL,_,_,hoL,_⟩:=id hn;refine h _ ⟨I.ok,I.os,I.bare,⟨λb o e n hb hx=>?_,λb o e n hb hx=>?_,I.base.free,λb o e hx=>?_,I.base.tups,I.base.frzs,I.base.tbls⟩,⟨_,hn',λj y v' e1 e2 e3=>?_⟩,λy c e=>?_,I.free,I.freeC,λp hp=>?_,tracked ⟨oL,hoL,I.free⟩ hs,by simpa using I.len⟩ ⟨_,hs,.inl rfl⟩
  ·exact (hs.2 b (cq (bi (ax e) I.ok.above))).trans (I.base.keep b o e n hb hx)
  ·obtain ⟨sl,e1⟩:=I.base.slot b o e n hb hx;exact ⟨sl,(hs.2 b (cq (bi (ax e) I.ok.above))).trans e1⟩
  ·obtain ⟨o',e1⟩:=I.base.there b o e hx;exact ⟨o',(hs.2 b (cq (bi (ax e) I.ok.above))).trans e1⟩
  ·by_cases hj:j=i
   ·subst hj;rw[hi]at e1;cases e1;rw[fF hiσ]at e2;cases e2;exact ⟨u,r,.inl ⟨hk,by simp⟩⟩
   ·rw[List.getElem?_set_ne (Ne.symm hj)]at e2;obtain ⟨u',r',q⟩:=hl j y v' e1 e2 e3;refine ⟨u',r',?_⟩;rcases q with ⟨k,e⟩ |⟨k,c,e,z⟩
    ·refine .inl ⟨k,?_⟩;have:y≠x:=λe=>hj (wj hN e1 (e ▸ hi));simp[this,e]
    ·exact .inr ⟨k,c,e,z.sameBut hs (cne y c e)⟩
  ·obtain ⟨w',z⟩:=I.cell y c e;exact ⟨w',z.sameBut hs (cne y c e)⟩
  ·obtain ⟨e,n,ne,nf,d⟩:=I.pin p hp;exact ⟨(hs.2 p.1 ne).trans e,n,ne,nf,d⟩
 ·have hfn:X.fn x=true:=by
   rcases hf with z |z
   ·exact z
   ·rw[z]at hk;cases hk
  obtain ⟨c,hc⟩:=I.ok.has x (.inl hk);obtain ⟨w',z⟩:=I.cell x c hc;refine wpAny_storeName_cell I.ok.kind hk hc z (λh' hc' hs=>?_);obtain ⟨oc,hoc,hocd⟩:=id z;refine h { s with heap:=h' } ⟨I.ok,I.os,I.bare,⟨λb o e n hb hx=>?_,λb o e n hb hx=>?_,I.base.free,λb o e hx=>?_,I.base.tups,I.base.frzs,I.base.tbls⟩,⟨m,hn.sameBut hs (Ne.symm (cne x c hc)),λj y v' e1 e2 e3=>?_⟩,λy c' e=>?_,I.free,I.freeC,λp hp=>?_,tracked ⟨oc,hoc,I.freeC x c hc⟩ hs,by simpa using I.len⟩ ⟨c,hs,.inr hc⟩
  ·exact (hs.2 b (cq (bi (ax e) (I.ok.cab x c hfn hc)))).trans (I.base.keep b o e n hb hx)
  ·obtain ⟨sl,e1⟩:=I.base.slot b o e n hb hx;exact ⟨sl,(hs.2 b (cq (bi (ax e) (I.ok.cab x c hfn hc)))).trans e1⟩
  ·obtain ⟨o',e1⟩:=I.base.there b o e hx;exact ⟨o',(hs.2 b (cq (bi (ax e) (I.ok.cab x c hfn hc)))).trans e1⟩
  ·by_cases hj:j=i
   ·subst hj;rw[hi]at e1;cases e1;rw[fF hiσ]at e2;cases e2;exact ⟨u,r,.inr ⟨.inl hk,c,hc,hc'⟩⟩
   ·rw[List.getElem?_set_ne (Ne.symm hj)]at e2;obtain ⟨u',r',q⟩:=hl j y v' e1 e2 e3;refine ⟨u',r',?_⟩;rcases q with q |⟨k,c',e,z'⟩
    ·exact .inl q
    ·refine .inr ⟨k,c',e,z'.sameBut hs ?_⟩;rintro rfl;exact hj (wj hN e1 (I.ok.inj _ _ _ e hc ▸ hi))
  ·by_cases hcc:c'=c
   ·subst hcc;exact ⟨_,hc'⟩
   ·obtain ⟨w2,z2⟩:=I.cell y c' e;exact ⟨w2,z2.sameBut hs hcc⟩
  ·obtain ⟨e,n,ne,nf,d⟩:=I.pin p hp;refine ⟨(hs.2 p.1 ?_).trans e,n,ne,nf,d⟩;intro q;rw[q,hoc]at e;have q':oc=p.2:=dn e;exact d w' (by rw[<-q'];exact hocd)
theorem lg{M:Model}{A:Around}{E:Value->Shared->Prop}{i:Nat}{x:Str}{v:V}{u:Value}{Q:Unit->Shared->Prop}(I:Inv X pins σ H s)(hN:X.N.Nodup)(hi:X.N[i]?=some x)(hx:Loc X.env.scope x)(r:RelV v u)
  (h:∀s',Inv X pins (σ.set i (some v)) H s'->Q () s') (hf:X.fn x=true\/X.env.scope.names.lookup x=some .local:=by first |exact .inl rfl |exact .inr rfl |assumption):wpAny M A (storeName X.env x u) Q E s:=
 Uc I hN hi hx r (λs' I' _=>h s' I') hf
theorem Inv.call'{s':Shared}{ch:List Addr}(I:Inv X pins σ H s)(ho:s'.os=s.os)(u:Un (frs X.stack) ch H H' s.heap s'.heap)(hok:HOk X.prog X.w H' s'.heap)(hg:AllBare s'.gens)
  (hch:∀b∈ch,(b∈X.ex\/X.s₀.heap.objs.size<=b)/\b≠X.env.locals/\(∀x c,X.env.cells.lookup x=some c->c≠b)/\∀p∈X.pn++pins,p.1≠b):Inv X pins σ H' s':=by
 obtain ⟨h',g',d',t',o'⟩:=s';have e:o'=s.os:=ho;subst e;exact I.call (g':=g') (t':=t') (d':=d') u hok hg hch
end
abbrev XK:=Value->Option Addr->Hp->Prop
abbrev St:=List (Option V)
abbrev VK:=V->Hp->Prop
abbrev TE:=St->Hp->VK->Prop
abbrev TT:=St->Hp->(Bool->Hp->Prop)->Prop
abbrev TA:=St->Hp->(List V->Hp->Prop)->Prop
structure Ends where
 nx:St->Hp->Prop
 rt:VK
 bk:St->Hp->Prop:=λ_ _=>False
 ct:St->Hp->Prop:=λ_ _=>False
abbrev TS:=Ends->St->Hp->Prop
def EP(X:Cx)(pins:List (Addr×Obj))(σ:St)(Q:VK)(u:Value)(s':Shared):Prop:=∃v H',Inv X pins σ H' s'/\RelV v u/\Q v H'
def TP(X:Cx)(pins:List (Addr×Obj))(σ:St)(Q:Bool->Hp->Prop)(b:Bool)(s':Shared):Prop:=∃H',Inv X pins σ H' s'/\Q b H'
def AP(X:Cx)(pins:List (Addr×Obj))(σ:St)(Q:List V->Hp->Prop)(us:List Value)(s':Shared):Prop:=∃vs H',Inv X pins σ H' s'/\Vals vs us/\Q vs H'
def SP(X:Cx)(pins:List (Addr×Obj))(D:Ends)(f:Flow)(s':Shared):Prop:=
 match f with
 |.next=>∃σ' H',Inv X pins σ' H' s'/\D.nx σ' H'
 |.brk=>∃σ' H',Inv X pins σ' H' s'/\D.bk σ' H'
 |.cont=>∃σ' H',Inv X pins σ' H' s'/\D.ct σ' H'
 |.ret u=>∃v σ' H',Inv X pins σ' H' s'/\RelV v u/\D.rt v H'
def PE(X:Cx)(e:Expr)(t:TE):Prop:=
 ∀(pins:List (Addr×Obj))(s:Shared)(σ:St)(H:Hp)(Q:VK),Inv X pins σ H s->t σ H Q->wpAny (model X.prog X.w) X.A (eval e X.env) (EP X pins σ Q) X.xe s
def PT(X:Cx)(e:Expr)(t:TT):Prop:=
 ∀(pins:List (Addr×Obj))(s:Shared)(σ:St)(H:Hp)(Q:Bool->Hp->Prop),Inv X pins σ H s->t σ H Q->wpAny (model X.prog X.w) X.A (isTrue e X.env (eval e X.env)) (TP X pins σ Q) X.xe s
def PW(X:Cx)(e:Expr)(t:TT):Prop:=
 ∀(whole:Sem Value)(pins:List (Addr×Obj))(s:Shared)(σ:St)(H:Hp)(Q:Bool->Hp->Prop),Inv X pins σ H s->t σ H Q->wpAny (model X.prog X.w) X.A (isTrue e X.env whole) (TP X pins σ Q) X.xe s
theorem PW.pt{X:Cx}{e:Expr}{t:TT}(h:PW X e t):PT X e t:=h _
def PA(X:Cx)(es:List Expr)(t:TA):Prop:=
 ∀(pos:Pos)(pins:List (Addr×Obj))(s:Shared)(σ:St)(H:Hp)(Q:List V->Hp->Prop),Inv X pins σ H s->t σ H Q->wpAny (model X.prog X.w) X.A (spliced (backTo pos (starEach es X.env))) (AP X pins σ Q) X.xe s
def PS(X:Cx)(st:Stmt)(t:TS):Prop:=
 ∀(pins:List (Addr×Obj))(s:Shared)(σ:St)(H:Hp)(D:Ends),Inv X pins σ H s->t D σ H->wpAny (model X.prog X.w) X.A (exec st X.env) (SP X pins D) X.xe s
def PSs(X:Cx)(st:List Stmt)(t:TS):Prop:=
 ∀(pins:List (Addr×Obj))(s:Shared)(σ:St)(H:Hp)(D:Ends),Inv X pins σ H s->t D σ H->wpAny (model X.prog X.w) X.A (execs st X.env) (SP X pins D) X.xe s
theorem thn{α:Type}{t:Sem α}{Q Q':α->Shared->Prop}{M:Model}{A:Around}{E:Value->Shared->Prop}{s:Shared}(h:wpAny M A t Q E s)(hQ:∀a s,Q a s->Q' a s):wpAny M A t Q' E s:=cw h hQ λ_ _ x=>x
section
variable {X:Cx}
theorem bin{a b:Expr}{ta tb:TE}(ha:PE X a ta)(hb:PE X b tb){pins:List (Addr×Obj)}{s:Shared}{σ:St}{H:Hp}{R:V->V->Hp->Prop}(I:Inv X pins σ H s)(h:ta σ H λx H1=>tb σ H1 λy H2=>R x y H2)
  {α:Type} {Q:α->Shared->Prop} {f:Value->Value->Sem α}
  (hf:∀v u s2 x y H2,Inv X pins σ H2 s2->RelV x v->RelV y u->R x y H2->wpAny (model X.prog X.w) X.A (f v u) Q X.xe s2):
  wpAny (model X.prog X.w) X.A (eval a X.env) (λv s₁=>wpAny (model X.prog X.w) X.A (eval b X.env) (λu s₂=>wpAny (model X.prog X.w) X.A (f v u) Q X.xe s₂) X.xe s₁) X.xe s:=by
 refine thn (ha pins s σ H _ I h) λv s1 ⟨x,H1,I1,r1,q1⟩=>?_;refine thn (hb pins s1 σ H1 _ I1 q1) λu s2 ⟨y,H2,I2,r2,q2⟩=>?_;exact hf v u s2 x y H2 I2 r1 r2 q2
def Aq(i:Nat):TE:=λσ H Q=>∃v,σ[i]?=some (some v)/\Q v H
def tC(v:V):TE:=λ_ H Q=>Q v H
theorem wk {i:Nat} {x:Str} {pos:Pos} (hN:X.N[i]?=some x) (hv:Vis X.env.scope x) (hd:(x==("__debug__":Str))=false:=by decide) (hcd:(x==("__classdict__":Str))=false:=by decide):PE X (.Name x pos) (Aq i):=by
 intro pins s σ H Q I h;obtain ⟨v,e,h⟩:=h;obtain ⟨m,hn,hl⟩:=I.loc;obtain ⟨u,r,l⟩:=hl i x v hN e hv;have fin:EP X pins σ Q u s:=⟨v,H,I,r,h⟩;rcases l with ⟨hk,hm⟩ |⟨hk,c,hc,hcell⟩
 ·exact wpAny_Name (wpAny_loadName_local I.ok.kind hk hn hm fin) hd
 ·rcases hk with hk |hk
  ·exact wpAny_Name (wpAny_loadName_cell I.ok.kind hk hc hcell fin) hd
  ·exact wpAny_Name (wpAny_loadName_free I.ok.kind hk hc hcell fin hcd) hd
theorem Ud{i j pos}:PE X (.Constant (.int i) j pos) (tC (.int i)):=λ_ _ _ H _ I h=>wpAny_Constant_int ⟨.int i,H,I.tok _,⟨_,rfl⟩,h⟩
theorem Ar{b j pos}:PE X (.Constant (.bool b) j pos) (tC (.bl b)):=λ_ _ _ H _ I h=>Constant_bool ⟨.bl b,H,I,rfl,h⟩
theorem Ue{j pos}:PE X (.Constant .none j pos) (tC .non):=λ_ _ _ H _ I h=>Constant_none ⟨.non,H,I,rfl,h⟩
theorem Av{x j pos}:PE X (.Constant (.str x) j pos) (tC (.str x)):=λ_ _ _ H _ I h=>Calls.Constant_str ⟨.str x,H,I.tok _,⟨_,rfl⟩,h⟩
def Gl(X:Cx)(x:Str):Prop:=X.env.kindOf x=some .globalImplicit
theorem jh{E:Value->Shared->Prop}{pins:List (Addr×Obj)}{s:Shared}{σ:St}{H:Hp}{x:Str}{u:Value}{pos:Pos}{Q:Value->Shared->Prop}(I:Inv X pins σ H s)(hg:Gl X x)(hm:X.mg x=some u)(h:Q u s)
  (hd:(x==("__debug__":Str))=false:=by decide):wpAny (model X.prog X.w) X.A (eval (.Name x pos) X.env) Q E s:=
 Calls.Name_function_global I.ok.kind hg (Calls.loadGlobal_global (by rw[I.ok.glob];exact I.mod.glob.keeps I.bk) hm h) hd
theorem fW{E:Value->Shared->Prop}{pins:List (Addr×Obj)}{s:Shared}{σ:St}{H:Hp}{x:Str}{u:Value}{pos:Pos}{Q:Value->Shared->Prop}(I:Inv X pins σ H s)(hg:Gl X x)(hm:X.mg x=none)(hv:bootBuiltins x=some u)(h:Q u s)
  (hn:x≠"__name__":=by decide) (hd:(x==("__debug__":Str))=false:=by decide):wpAny (model X.prog X.w) X.A (eval (.Name x pos) X.env) Q E s:=by
 obtain ⟨mb,h1,h2⟩:=I.mod.blt;exact Calls.Name_function_global I.ok.kind hg (Calls.loadGlobal_builtin (by rw[I.ok.glob];exact I.mod.glob.keeps I.bk) hm (by rw[I.ok.blt];exact h1.keeps I.bk) ((h2 x hn).trans hv) h) hd
theorem Aw {x:Str} {v:V} {u:Value} {pos:Pos} (hg:Gl X x) (hm:X.mg x=some u) (r:RelV v u) (hd:(x==("__debug__":Str))=false:=by decide):PE X (.Name x pos) (tC v):=
 λ_ _ _ H _ I h=>jh I hg hm ⟨v,H,I,r,h⟩ hd
theorem Ug {x:Str} {v:V} {u:Value} {pos:Pos} (hg:Gl X x) (hm:X.mg x=none) (hv:bootBuiltins x=some u) (r:RelV v u) (hn:x≠"__name__":=by decide) (hd:(x==("__debug__":Str))=false:=by decide):PE X (.Name x pos) (tC v):=
 λ_ _ _ H _ I h=>fW I hg hm hv ⟨v,H,I,r,h⟩ hn hd
variable {a b:Expr} {ta tb:TE} {pos:Pos}
variable {tA tB':TT} {rest:List Expr}
def Uh(t u:TT):TT:=λσ H Q=>t σ H λc H1=>if c=true then u σ H1 Q else Q false H1
def tOr(t u:TT):TT:=λσ H Q=>t σ H λc H1=>if c=true then Q true H1 else u σ H1 Q
def Ui(t:TT):TT:=λσ H Q=>t σ H λc H1=>Q (!c) H1
theorem Uj(ha:PT X a tA):PW X (.BoolOp .And [a] pos) tA:=by
 intro wh pins s σ H Q I h;refine isTrue_and (thn (ha pins s σ H Q I h) λc s1 e=>?_);cases c with
 |true=>exact isTrue_and_nil e
 |false=>exact e
theorem Uk(ha:PT X a tA):PW X (.BoolOp .Or [a] pos) tA:=by
 intro wh pins s σ H Q I h;refine isTrue_or (thn (ha pins s σ H Q I h) λc s1 e=>?_);cases c with
 |false=>exact isTrue_or_nil e
 |true=>exact e
theorem Ul(ha:PT X a tA)(hb:PW X (.BoolOp .And (b::rest) pos) tB'):PW X (.BoolOp .And (a::b::rest) pos) (Uh tA tB'):=by
 intro wh pins s σ H Q I h;refine isTrue_and (thn (ha pins s σ H _ I h) λc s1 ⟨H1,I1,q1⟩=>?_);cases c with
 |true=>exact hb wh pins s1 σ H1 Q I1 q1
 |false=>exact ⟨H1,I1,q1⟩
theorem Um(ha:PT X a tA)(hb:PW X (.BoolOp .Or (b::rest) pos) tB'):PW X (.BoolOp .Or (a::b::rest) pos) (tOr tA tB'):=by
 intro wh pins s σ H Q I h;refine isTrue_or (thn (ha pins s σ H _ I h) λc s1 ⟨H1,I1,q1⟩=>?_);cases c with
 |true=>exact ⟨H1,I1,q1⟩
 |false=>exact hb wh pins s1 σ H1 Q I1 q1
theorem Uo(ha:PT X a tA):PT X (.UnaryOp .Not a pos) (Ui tA):=by intro pins s σ H Q I h;exact isTrue_not (ha pins s σ H (λc H1=>Q (!c) H1) I h)
def Up(ta tb:TE):TE:=λσ H Q=>ta σ H λx H1=>∃c,x=.bl c/\if c=true then tb σ H1 Q else Q (.bl false) H1
def Uq(ta tb:TE):TE:=λσ H Q=>ta σ H λx H1=>∃c,x=.bl c/\if c=true then Q (.bl true) H1 else tb σ H1 Q
theorem Ur{op}{t:TE}(h:PE X a t):PE X (.BoolOp op [a] pos) t:=λpins s σ H Q I hw=>BoolOp_one (h pins s σ H Q I hw)
theorem Us(ha:PE X a ta)(hb:PE X (.BoolOp .And (b::rest) pos) tb):PE X (.BoolOp .And (a::b::rest) pos) (Up ta tb):=by
 intro pins s σ H Q I h;refine BoolOp_and (thn (ha pins s σ H _ I h) λv s1 ⟨x,H1,I1,r1,q1⟩=>?_);obtain ⟨c,rfl,q1⟩:=q1;cases r1;refine ey ?_;cases c with
 |true=>exact hb pins s1 σ H1 Q I1 q1
 |false=>exact ⟨.bl false,H1,I1,rfl,q1⟩
theorem Ut(ha:PE X a ta)(hb:PE X (.BoolOp .Or (b::rest) pos) tb):PE X (.BoolOp .Or (a::b::rest) pos) (Uq ta tb):=by
 intro pins s σ H Q I h;refine BoolOp_or (thn (ha pins s σ H _ I h) λv s1 ⟨x,H1,I1,r1,q1⟩=>?_);obtain ⟨c,rfl,q1⟩:=q1;cases r1;refine ey ?_;cases c with
 |false=>exact hb pins s1 σ H1 Q I1 q1
 |true=>exact ⟨.bl true,H1,I1,rfl,q1⟩
def tIf(t:TT)(ta tb:TE):TE:=λσ H Q=>t σ H λc H1=>if c=true then ta σ H1 Q else tb σ H1 Q
theorem Uu{c:Expr}(hc:PT X c tA)(ha:PE X a ta)(hb:PE X b tb):PE X (.IfExp c a b pos) (tIf tA ta tb):=by
 intro pins s σ H Q I h;refine wpAny_IfExp (thn (hc pins s σ H _ I h) λd s1 ⟨H1,I1,q1⟩=>?_);cases d with
 |true=>exact ha pins s1 σ H1 Q I1 q1
 |false=>exact hb pins s1 σ H1 Q I1 q1
end
def SqL(K:PySem.W.Frag)(H:Hp)(a:Addr)(xs:List V):Prop:=
 Rd H a (.lst xs)\/
  ∃(o:Obj) (its:Array Value) (n:Nat),K.lookup a=some o/\o.cls=.type "list"/\o.dict=none/\o.data=.seq its n/\its.size<=sizeLine/\Vals xs its.toList
def SqT(K:PySem.W.Frag)(H:Hp)(a:Addr)(xs:List V):Prop:=
 Rd H a (.tup xs)\/
  ∃(o:Obj) (its:Array Value) (n:Nat),K.lookup a=some o/\o.cls=.type "tuple"/\o.data=.seq its n/\its.size<=sizeLine/\Vals xs its.toList
noncomputable def Uv:Value->Option V
 |.none=>some .non
 |.bool b=>some (.bl b)
 |.int i _=>some (.int i)
 |.str x _=>some (.str x)
 |.bytes b _=>some (.byt b)
 |.float b _=>some (.flt b)
 |.ref a=>some (.ref a)
 |.type n=>some (.ty n)
 |_=>none
theorem RelV.abs{x:V}{u:Value}(r:RelV x u):Uv u=some x:=by
 cases x with
 |non=>cases r;rfl
 |bl _=>cases r;rfl
 |int _=>obtain ⟨t,rfl⟩:=r;rfl
 |str _=>obtain ⟨t,rfl⟩:=r;rfl
 |byt _=>obtain ⟨t,rfl⟩:=r;rfl
 |flt _=>obtain ⟨t,rfl⟩:=r;rfl
 |ref _=>cases r;rfl
 |ty _=>cases r;rfl
theorem RelV.inj{x y:V}{u:Value}(r:RelV x u)(q:RelV y u):x=y:=dn (r.abs.symm.trans q.abs)
theorem Vals.inj:∀{xs ys:List V}{us:List Value},Vals xs us->Vals ys us->xs=ys
 |_,_,_,.nil,.nil=>rfl
 |_,_,_,.cons r t,.cons r' t'=>by rw[r.inj r',Vals.inj t t']
section
variable {X:Cx} {pins:List (Addr×Obj)} {σ:St} {H:Hp} {s:Shared} {a:Addr} {xs ys:List V}
theorem SqL.of{K:PySem.W.Frag}(h:H a=some (.lst xs)):SqL K H a xs:=.inl (.inl h)
theorem SqT.of{K:PySem.W.Frag}(h:H a=some (.tup xs)):SqT K H a xs:=.inl (.inl h)
theorem Inv.list(I:Inv X pins σ H s)(h:SqL X.K H a xs):∃its:List Value,Vals xs its/\PlainL s.heap a its.toArray/\xs.length<=sizeLine:=by
 rcases h with h |⟨o,its,n,hk,hc,hd,hs,hz,r⟩
 ·obtain ⟨z,its,n,r,e⟩:=h.ok I.hok;exact ⟨its,r,⟨_,n,e,rfl,rfl,rfl⟩,z⟩
 ·refine ⟨its.toList,r,⟨o,n,I.kIn a o hk,hc,hd,by simpa using hs⟩,?_⟩;have e:=r.length;simp only[dv]at e;omega
theorem Inv.tuple(I:Inv X pins σ H s)(h:SqT X.K H a xs):∃its:List Value,Vals xs its/\IsTup s.heap a its.toArray/\xs.length<=sizeLine:=by
 rcases h with h |⟨o,its,n,hk,hc,hs,hz,r⟩
 ·obtain ⟨z,its,r,p⟩:=h.ok I.hok;exact ⟨its,r,p,z⟩
 ·refine ⟨its.toList,r,⟨o,I.kIn a o hk,hc,n,by simpa using hs⟩,?_⟩;have e:=r.length;simp only[dv]at e;omega
theorem Inv.list_inj(I:Inv X pins σ H s)(h:SqL X.K H a xs)(h':SqL X.K H a ys):xs=ys:=by
 obtain ⟨its,r,⟨o,n,e,_,_,d⟩,_⟩:=I.list h;obtain ⟨its',r',⟨o',n',e',_,_,d'⟩,_⟩:=I.list h';rw[e]at e';cases e';rw[d]at d';injection d' with d1 _;have:its=its':=by simpa using e7 Array.toList d1
 subst this;exact r.inj r'
theorem Inv.tuple_inj(I:Inv X pins σ H s)(h:SqT X.K H a xs)(h':SqT X.K H a ys):xs=ys:=by
 obtain ⟨its,r,⟨o,e,_,n,d⟩,_⟩:=I.tuple h;obtain ⟨its',r',⟨o',e',_,n',d'⟩,_⟩:=I.tuple h';rw[e]at e';cases e';rw[d]at d';injection d' with d1 _;have:its=its':=by simpa using e7 Array.toList d1
 subst this;exact r.inj r'
end
abbrev Cx.wish(X:Cx)(E:Value->Shared->Prop):Cx:={ X with xe:=E }
abbrev Cx.nox(X:Cx):Cx:=X.wish λ_ _=>False
theorem Cx.Ok.wish{X:Cx}(ok:X.Ok)(E:Value->Shared->Prop):(X.wish E).Ok:=
 ⟨ok.mod,ok.kind,ok.glob,ok.blt,ok.above,ok.inj,ok.has,ok.cab,ok.hd,ok.frames,ok.stk,ok.exf,ok.bs,ok.bsz,ok.noex,ok.exfs,ok.funs,ok.frf⟩
theorem Cx.Ok.unwish{X:Cx}{E:Value->Shared->Prop}(ok:(X.wish E).Ok):X.Ok:=
 ⟨ok.mod,ok.kind,ok.glob,ok.blt,ok.above,ok.inj,ok.has,ok.cab,ok.hd,ok.frames,ok.stk,ok.exf,ok.bs,ok.bsz,ok.noex,ok.exfs,ok.funs,ok.frf⟩
section
variable {X:Cx} {pins:List (Addr×Obj)} {σ:St} {H:Hp} {s:Shared} {E:Value->Shared->Prop}
theorem Inv.wish(I:Inv X pins σ H s)(E:Value->Shared->Prop):Inv (X.wish E) pins σ H s:=⟨I.ok.wish E,I.os,I.bare,I.base,I.loc,I.cell,I.free,I.freeC,I.pin,I.hok,I.len⟩
theorem Inv.unwish(I:Inv (X.wish E) pins σ H s):Inv X pins σ H s:=⟨I.ok.unwish,I.os,I.bare,I.base,I.loc,I.cell,I.free,I.freeC,I.pin,I.hok,I.len⟩
theorem SP.unwish{D:Ends}{f:Flow}{s':Shared}(h:SP (X.wish E) pins D f s'):SP X pins D f s':=by
 cases f with
 |next=>obtain ⟨σ',H',I,q⟩:=h;exact ⟨σ',H',I.unwish,q⟩
 |brk=>obtain ⟨σ',H',I,q⟩:=h;exact ⟨σ',H',I.unwish,q⟩
 |cont=>obtain ⟨σ',H',I,q⟩:=h;exact ⟨σ',H',I.unwish,q⟩
 |ret u=>obtain ⟨v,σ',H',I,r,q⟩:=h;exact ⟨v,σ',H',I.unwish,r,q⟩
theorem PSs.nox{st:List Stmt}{t:TS}(h:PSs X.nox st t):PSs X st t:=λpins s σ H D I hw=>
 cw (h pins s σ H D (I.wish _) hw) (λ_ _ q=>q.unwish) λ_ _ z=>False.elim z
end
section
variable {X:Cx} {st:Stmt} {rest:List Stmt} {t u:TS} {e:Expr} {te:TE} {pos:Pos}
def Ax:TS:=λD σ H=>D.nx σ H
def Uw(t u:TS):TS:=λD σ H=>t { D with nx:=u D } σ H
theorem Ux:PSs X [] Ax:=λ_ _ σ H _ I h=>fN ⟨σ,H,I,h⟩
theorem Uy(h1:PS X st t)(h2:PSs X rest u):PSs X (st::rest) (Uw t u):=by
 intro pins s σ H D I h;refine wpAny_execs_cons (thn (h1 pins s σ H { D with nx:=u D } I h) λf s1 q=>?_);cases f with
 |next=>
  obtain ⟨σ',H',I',q⟩:=q;exact h2 pins s1 σ' H' D I' q
 |ret v=>exact q
 |brk=>exact q
 |cont=>exact q
theorem Ay(h1:PS X st t):PSs X [st] t:=by
 intro pins s σ H D I h;refine wpAny_execs_cons (thn (h1 pins s σ H D I h) λf s1 q=>?_);cases f with
 |next=>exact fN q
 |ret v=>exact q
 |brk=>exact q
 |cont=>exact q
def Uz:TS:=λD σ H=>D.bk σ H
def UG:TS:=λD σ H=>D.ct σ H
theorem UJ:PS X (.Pass pos) Ax:=λ_ _ σ H _ I h=>wpAny_Pass ⟨σ,H,I,h⟩
theorem UL:PS X (.Break pos) Uz:=λ_ _ σ H _ I h=>wpAny_Break ⟨σ,H,I,h⟩
theorem UT:PS X (.Continue pos) UG:=λ_ _ σ H _ I h=>wpAny_Continue ⟨σ,H,I,h⟩
theorem Inv.quiet{pins:List (Addr×Obj)}{σ:St}{H:Hp}{s:Shared}(I:Inv X pins σ H s):interactive X.env=false:=by simp[interactive,I.ok.kind]
def UV(te:TE):TS:=λD σ H=>te σ H λ_ H1=>D.nx σ H1
theorem UW(he:PE X e te)(hs:swapsWith e none pos.line X.env=pure false:=by rfl):PS X (.Expr e pos) (UV te):=by intro pins s σ H D I h;exact wpAny_Expr_any (thn (he pins s σ H _ I h) λv s1 ⟨x,H1,I1,r1,q1⟩=>⟨σ,H1,I1,q1⟩) I.quiet hs
def Az(te:TE):TS:=λD σ H=>te σ H D.rt
theorem U0(he:PE X e te):PS X (.Return (some e) pos) (Az te):=by intro pins s σ H D I h;exact wpAny_Return_some (thn (he pins s σ H _ I h) λv s1 ⟨x,H1,I1,r1,q1⟩=>⟨x,σ,H1,I1,r1,q1⟩)
def U3:TS:=λD _ H=>D.rt .non H
theorem U4:PS X (.Return none pos) U3:=λ_ _ σ H _ I h=>wpAny_Return_none ⟨.non,σ,H,I,rfl,h⟩
def U5(c:TT)(t u:TS):TS:=λD σ H=>c σ H λb H1=>if b=true then t D σ H1 else u D σ H1
theorem U6{c:Expr}{a b:List Stmt}{tc:TT}(hc:PT X c tc)(ha:PSs X a t)(hb:PSs X b u):PS X (.If c a b pos) (U5 tc t u):=by
 intro pins s σ H D I h;refine wpAny_If (thn (hc pins s σ H _ I h) λd s1 ⟨H1,I1,q1⟩=>?_);cases d with
 |true=>exact ha pins s1 σ H1 D I1 q1
 |false=>exact hb pins s1 σ H1 D I1 q1
def U7:TS:=λ_ _ _=>False
theorem U8:PS X st U7:=λ_ _ _ _ _ _ h=>h.elim
end
abbrev TG:=V->St->Hp->(St->Hp->Prop)->Prop
abbrev TGs:=List V->St->Hp->(St->Hp->Prop)->Prop
def PG(X:Cx)(target:Expr)(t:TG):Prop:=
 ∀(pins:List (Addr×Obj))(s:Shared)(σ:St)(H:Hp)(v:V)(u:Value)(Q:St->Hp->Prop),Inv X pins σ H s->RelV v u->t v σ H Q->
  wpAny (model X.prog X.w) X.A (assign target X.env u) (λ_ s'=>∃σ' H',Inv X pins σ' H' s'/\Q σ' H') X.xe s
def PGs(X:Cx)(ts:List Expr)(t:TGs):Prop:=
 ∀(pins:List (Addr×Obj))(s:Shared)(σ:St)(H:Hp)(vs:List V)(us:List Value)(Q:St->Hp->Prop),Inv X pins σ H s->Vals vs us->t vs σ H Q->
  wpAny (model X.prog X.w) X.A (assignInOrder ((assignEach ts X.env).map (·.2)) us) (λ_ s'=>∃σ' H',Inv X pins σ' H' s'/\Q σ' H') X.xe s
abbrev lq:=V->V->V->Hp->(Hp->Prop)->Prop
def qI(X:Cx)(t:lq):Prop:=
 ∀(pins:List (Addr×Obj))(s:Shared)(σ:St)(H:Hp)(o i v:V)(ov iv u:Value)(Q:Hp->Prop),Inv X pins σ H s->RelV o ov->RelV i iv->RelV v u->t o i v H Q->
  wpAny (model X.prog X.w) X.A (setItem ov iv u) (λ_ s'=>∃H',Inv X pins σ H' s'/\Q H') X.xe s
abbrev TIp:=V->V->Hp->VK->Prop
def PIp(X:Cx)(op:Operator)(t:TIp):Prop:=
 ∀(pins:List (Addr×Obj))(s:Shared)(σ:St)(H:Hp)(x y:V)(v u:Value)(Q:VK),Inv X pins σ H s->RelV x v->RelV y u->t x y H Q->
  wpAny (model X.prog X.w) X.A (inplaceOp op v u) (EP X pins σ Q) X.xe s
section
variable {X:Cx} {pos:Pos}
def qJ(i:Nat):TG:=λv σ H Q=>Q (σ.set i (some v)) H
theorem U9{i:Nat}{x:Str}(hN:X.N.Nodup)(hi:X.N[i]?=some x)(hx:Loc X.env.scope x)(hf:X.fn x=true\/X.env.scope.names.lookup x=some .local:=by first |exact .inl rfl |exact .inr rfl |assumption):PG X (.Name x pos) (qJ i):=by intro pins s σ H v u Q I r h;exact wpAny_assign_Name (lg I hN hi hx r (λs' I'=>⟨_,H,I',h⟩) hf)
def Va:TGs:=λvs σ H Q=>vs=[]/\Q σ H
def Vb(t:TG)(u:TGs):TGs:=λvs σ H Q=>∃v r,vs=v::r/\t v σ H λσ' H'=>u r σ' H' Q
theorem Vc:PGs X [] Va:=by intro pins s σ H vs us Q I r h;obtain ⟨e,h⟩:=h;subst e;cases r;exact assignInOrder_nil ⟨σ,H,I,h⟩
theorem Vd{e:Expr}{es:List Expr}{t:TG}{u:TGs}(h1:PG X e t)(h2:PGs X es u)
  (hs:(assignEach (e::es) X.env).map (·.2)=assign e X.env::(assignEach es X.env).map (·.2):=by rfl):PGs X (e::es) (Vb t u):=by
 intro pins s σ H vs us Q I r h;obtain ⟨v,vr,e1,h⟩:=h;subst e1;cases r with
 |cons r rr=>
  rw[hs];refine assignInOrder_cons (thn (h1 pins s σ H _ _ _ I r h) λ_ s1 ⟨σ1,H1,I1,q1⟩=>?_);exact h2 pins s1 σ1 H1 _ _ Q I1 rr q1
def Ve(K:PySem.W.Frag)(n:Nat)(t:TGs):TG:=λv σ H Q=>∃a xs,v=.ref a/\SqT K H a xs/\xs.length=n/\t xs σ H Q
theorem Vf{es:List Expr}{k:Nat}{t:TGs}{n:Nat}(hc:X.calm=true)(h:PGs X es t)
  (hn:(assignEach es X.env).length=n:=by rfl) (hst:(assignEach es X.env).findIdx? (·.1)=none:=by rfl):PG X (.Tuple es k pos) (Ve X.K n t):=by
 intro pins s σ H v u Q I r hw;obtain ⟨a,xs,e1,hq,hl,hw⟩:=hw;subst e1;cases r;obtain ⟨its,rv,ht,hz⟩:=I.tuple hq;refine assign_Tuple_tuple (I.ok.hd hc) ht (by simp[hn,<-hl,rv.length]) hst λh' hx=>?_;have I1:Inv X pins σ H { s with heap:=h' }:=I.kept (t':=s.toks) λb o e=>hx b o (cq (ax e)) e;exact h pins _ σ H xs _ Q I1 (by simpa using rv) hw
def Vg(to ti:TE)(t:lq):TG:=λv σ H Q=>to σ H λo H1=>ti σ H1 λi H2=>t o i v H2 λH3=>Q σ H3
theorem Vh{o i:Expr}{to ti:TE}{t:lq}(ho:PE X o to)(hi:PE X i ti)(hs:qI X t)
  (ha:∀v,assign (.Subscript o i pos) X.env v=(do
   let ov <-holding [v] (eval o X.env)
   let iv <-holding [v,ov] (eval i X.env)
   standAt pos
   holding [v,ov,iv] (setItem ov iv v)
   release [v,ov,iv] []):=by intro _;rfl):PG X (.Subscript o i pos) (Vg to ti t):=by
 intro pins s σ H v u Q I r h;rw[ha];refine ag (eS (thn (ho pins s σ H _ I h) λov s1 ⟨x,H1,I1,r1,q1⟩=>?_));refine ag (eS (thn (hi pins s1 σ H1 _ I1 q1) λiv s2 ⟨y,H2,I2,r2,q2⟩=>?_));refine ag (wpAny_standAt (ag (eS (thn (hs pins s2 σ H2 x y v ov iv u _ I2 r1 r2 r q2) λ_ s3 ⟨H3,I3,q3⟩=>?_))));exact wpAny_release ⟨σ,H3,I3,q3⟩
def qK(te:TE)(g:TG):TS:=λD σ H=>te σ H λx H1=>g x σ H1 D.nx
theorem Ba{tg e:Expr}{te:TE}{g:TG}(he:PE X e te)(hg:PG X tg g)(hs:swapsWithSole [tg] e pos.line X.env=pure false:=by rfl)(hw:swappedStores [tg] e X.env=pure none:=by rfl)
  (h1:(assignEach [tg] X.env).map (·.2)=[assign tg X.env]:=by rfl):PS X (.Assign [tg] e pos) (qK te g):=by
 intro pins s σ H D I h;refine wpAny_Assign_stores (thn (he pins s σ H _ I h) λv s1 ⟨x,H1,I1,r1,q1⟩=>?_) hs hw;rw[h1];exact thn (hg pins s1 σ H1 x v _ I1 r1 q1) λ_ s2 q=>q
theorem qL{i:Nat}{x:Str}{e:Expr}{te:TE}{pos':Pos}(hN:X.N.Nodup)(hi:X.N[i]?=some x)(hx:Loc X.env.scope x)(he:PE X e te)(hs:swapsWith e (some (.Name x pos')) pos.line X.env=pure false:=by rfl)(hf:X.fn x=true\/X.env.scope.names.lookup x=some .local:=by first |exact .inl rfl |exact .inr rfl |assumption):
  PS X (.Assign [.Name x pos'] e pos) (qK te (qJ i)):=by
 intro pins s σ H D I h;refine wpAny_Assign_Name (thn (he pins s σ H _ I h) λv s1 ⟨y,H1,I1,r1,q1⟩=>?_) hs;exact lg I1 hN hi hx r1 (λs2 I2=>⟨_,H1,I2,q1⟩) hf
def Vi(i:Nat)(te:TE)(ti:TIp):TS:=λD σ H=>∃x,σ[i]?=some (some x)/\te σ H λy H1=>ti x y H1 λz H2=>D.nx (σ.set i (some z)) H2
theorem Vj{i:Nat}{x:Str}{e:Expr}{te:TE}{op:Operator}{ti:TIp}{pos':Pos}(hN:X.N.Nodup)(hi:X.N[i]?=some x)(hx:Loc X.env.scope x)(he:PE X e te)(ho:PIp X op ti)(hf:X.fn x=true\/X.env.scope.names.lookup x=some .local:=by first |exact .inl rfl |exact .inr rfl |assumption):
  PS X (.AugAssign (.Name x pos') op e pos) (Vi i te ti):=by
 intro pins s σ H D I h;obtain ⟨v,e1,h⟩:=h;obtain ⟨m,hn,hl⟩:=I.loc;have vis:Vis X.env.scope x:=by rcases hx with k |k;exact .inl k;exact .inr (.inl k)
 obtain ⟨u,r,l⟩:=hl i x v hi e1 vis;refine wpAny_AugAssign_Name ?_;have go:wpAny (model X.prog X.w) X.A (eval e X.env) (λw s₂=>wpAny (model X.prog X.w) X.A (inplaceOp op u w) (λr s₃=>wpAny (model X.prog X.w) X.A (storeName X.env x r) (λ_=>SP X pins D .next) X.xe s₃) X.xe s₂) X.xe s:=by refine thn (he pins s σ H _ I h) λw s1 ⟨y,H1,I1,r1,q1⟩=>?_;refine thn (ho pins s1 σ H1 v y u w _ I1 r r1 q1) λz s2 ⟨zv,H2,I2,r2,q2⟩=>?_;exact lg I2 hN hi hx r2 (λs3 I3=>⟨_,H2,I3,q2⟩) hf
 rcases l with ⟨hk,hm⟩ |⟨hk,c,hc,hcell⟩
 ·exact wpAny_loadName_local I.ok.kind hk hn hm go
 ·rcases hk with hk |hk
  ·exact wpAny_loadName_cell I.ok.kind hk hc hcell go
  ·rcases hx with k |k
   ·have:X.env.scope.names.lookup x=some .free:=hk;rw[k]at this;cases this
   ·have:X.env.scope.names.lookup x=some .free:=hk;rw[k]at this;cases this
def Vk(to ti te:TE)(tget:V->V->Hp->VK->Prop)(tip:TIp)(tset:lq):TS:=λD σ H=>to σ H λo H1=>ti σ H1 λi H2=>tget o i H2 λx H3=>te σ H3 λy H4=>tip x y H4 λz H5=>tset o i z H5 λH6=>D.nx σ H6
def Bb(X:Cx)(t:V->V->Hp->VK->Prop):Prop:=
 ∀(pins:List (Addr×Obj))(s:Shared)(σ:St)(H:Hp)(o i:V)(ov iv:Value)(Q:VK),Inv X pins σ H s->RelV o ov->RelV i iv->t o i H Q->
  wpAny (model X.prog X.w) X.A (getItem ov iv) (EP X pins σ Q) X.xe s
theorem Vl{o i e:Expr}{to ti te:TE}{tget:V->V->Hp->VK->Prop}{tip:TIp}{tset:lq}{op:Operator}{tpos:Pos}(ho:PE X o to)(hi:PE X i ti)(hg:Bb X tget)(he:PE X e te)(hp:PIp X op tip)(hs:qI X tset)
  (ha:∀ov iv new,augStore i ov iv new=(do holding [new,ov,iv] (setItem ov iv new);release [new,ov,iv] [];pure .next):=by intros;rfl):PS X (.AugAssign (.Subscript o i tpos) op e pos) (Vk to ti te tget tip tset):=by
 intro pins s σ H D I h;refine wpAny_AugAssign_SubscriptAny (thn (ho pins s σ H _ I h) λov s1 ⟨x1,H1,I1,r1,q1⟩=>?_) ha;refine thn (hi pins s1 σ H1 _ I1 q1) λiv s2 ⟨x2,H2,I2,r2,q2⟩=>?_;refine thn (hg pins s2 σ H2 x1 x2 ov iv _ I2 r1 r2 q2) λold s3 ⟨x3,H3,I3,r3,q3⟩=>?_;refine thn (he pins s3 σ H3 _ I3 q3) λv s4 ⟨x4,H4,I4,r4,q4⟩=>?_;refine thn (hp pins s4 σ H4 x3 x4 old v _ I4 r3 r4 q4) λnew s5 ⟨x5,H5,I5,r5,q5⟩=>?_;exact thn (hs pins s5 σ H5 x1 x2 x5 ov iv new _ I5 r1 r2 r5 q5) λ_ s6 ⟨H6,I6,q6⟩=>⟨σ,H6,I6,q6⟩
end
structure It where
 go:Nat->Hp->Prop
 yld:Nat->Hp->V->Hp->Prop
 stop:Nat->Hp->Prop
def fD(X:Cx)(pins:List (Addr×Obj))(H:Hp)(b:Addr):Prop:=
 H b=none/\b≠X.env.locals/\b∉X.fs/\(b∈X.ex\/X.s₀.heap.objs.size<=b)/\(∀x c,X.env.cells.lookup x=some c->c≠b)/\∀p∈X.pn++pins,p.1≠b
theorem Inv.fpOk{X:Cx}{pins:List (Addr×Obj)}{σ:St}{H H':Hp}{s:Shared}{b:Addr}(I:Inv X pins σ H s)(hb:s.heap.objs.size<=b)(hn:H' b=none):fD X pins H' b:=by
 refine ⟨hn,fE (bi I.lt hb),I.nofs hb,.inr (c9 I.sz hb),λx c e z=>?_,λp hp z=>?_⟩
 ·obtain ⟨v,q⟩:=I.cell x c e;exact absurd (bi q.lt (by rw[z];exact hb)) (d3 _)
 ·exact absurd (bi (ax (I.pin p hp).1) (by rw[z];exact hb)) (d3 _)
structure Turn(P:Program)(w:World)(K:PySem.W.Frag)(tg:Expr)(J:It)(fp:List Addr)(it:Addr)(tn:Nat->Heap->Prop):Prop where
 mem:it∈fp
 obj:∀i h,tn i h->∀b∈fp,∃o,h.get? b=some o/\∀v,o.data≠.cell v
 keep:∀i h h',tn i h->(∀b∈fp,∀o,h.get? b=some o->h'.get? b=some o)->tn i h'
 item:∀(X:Cx),X.prog=P->X.w=w->X.K=K->X.calm=true->∀(i:Nat)(pins:List (Addr×Obj))(s:Shared)(σ:St)(H:Hp)(E:Value->Shared->Prop),Inv X pins σ H s->(∀b∈fp,fD X pins H b)->tn i s.heap->J.go i H->
  wpAny (model P w) X.A (pyNext (.ref it)) (λr s1=>∃u,r=some u/\
   wpAny (model P w) X.A (letOwnedTupleGo tg (.ref it) u) (λ_ s2=>∃x H',Inv X pins σ H' s2/\RelV x u/\J.yld i H x H'/\tn (i+1) s2.heap/\∀b∈fp,H' b=none) E s1) E s
 done:∀(X:Cx),X.prog=P->X.w=w->X.K=K->X.calm=true->∀(i:Nat)(pins:List (Addr×Obj))(s:Shared)(σ:St)(H:Hp)(E:Value->Shared->Prop),Inv X pins σ H s->(∀b∈fp,fD X pins H b)->tn i s.heap->J.stop i H->
  wpAny (model P w) X.A (pyNext (.ref it)) (λr s1=>r=none/\Inv X pins σ H s1) E s
 self:∀(A:Around)(i:Nat)(s:Shared)(Q:Value->Shared->Prop)(E:Value->Shared->Prop),tn i s.heap->Q (.ref it) s->wpAny (model P w) A (pyIter (.ref it)) Q E s
abbrev TI:=St->Hp->(It->Hp->Prop)->Prop
def PIE(X:Cx)(pins:List (Addr×Obj))(σ:St)(tg:Expr)(R:It->Hp->Prop)(itv:Value)(s2:Shared):Prop:=
 ∃(it:Addr)(fp:List Addr)(tn:Nat->Heap->Prop)(J:It)(H':Hp),itv=.ref it/\Inv X pins σ H' s2/\Turn X.prog X.w X.K tg J fp it tn/\tn 0 s2.heap/\(∀b∈fp,fD X pins H' b)/\R J H'
def PI(X:Cx)(tg iter:Expr)(wi:TI):Prop:=
 ∀(pins:List (Addr×Obj))(s:Shared)(σ:St)(H:Hp)(R:It->Hp->Prop),Inv X pins σ H s->wi σ H R->
  wpAny (model X.prog X.w) X.A (eval iter X.env) (λv s1=>wpAny (model X.prog X.w) X.A (pyIter v) (PIE X pins σ tg R) X.xe s1) X.xe s
theorem lr{M:Model}{A:Around}{E:Value->Shared->Prop}{s:Shared}{tg:Expr}{it:Addr}{u:Value}{o:Obj}{n:String}{vs:Array Value}{Q:Unit->Shared->Prop}(ho:s.heap.get? it=some o)(hc:o.cls=.type n)(hd:o.data=.fields vs)
  (hn:["enumerate","zip","dict_itemiterator","dict_reverseitemiterator","odict_iterator","itertools.zip_longest","itertools.pairwise"].contains n=false) (hQ:Q () s):wpAny M A (letOwnedTupleGo tg (.ref it) u) Q E s:=by
 unfold letOwnedTupleGo;cases tg <;> first
  |exact a8 hQ
  | (cases u <;> first
    |exact a8 hQ
    | (refine ag (wpAny_load ho ?_)
       rw[hc,hd];show wpAny M A (if (["enumerate","zip","dict_itemiterator","dict_reverseitemiterator","odict_iterator","itertools.zip_longest","itertools.pairwise"].contains n&&vs[0]?==some (rawInt _))=true then _ else _) Q E s;rw[if_neg (by intro h;rw[hn,dy]at h;cases h)];exact a8 hQ))
def Itl(K:PySem.W.Frag)(a:Addr):It:=
 ⟨λi H=>∃xs x,SqL K H a xs/\xs[i]?=some x,λi H x H'=>H'=H/\∀xs,SqL K H a xs->xs[i]?=some x,λi H=>∃xs,SqL K H a xs/\xs.length<=i⟩
def Itt(K:PySem.W.Frag)(a:Addr):It:=
 ⟨λi H=>∃xs x,SqT K H a xs/\xs[i]?=some x,λi H x H'=>H'=H/\∀xs,SqT K H a xs->xs[i]?=some x,λi H=>∃xs,SqT K H a xs/\xs.length<=i⟩
def Itr(lo:Int)(n:Nat):It:=⟨λi _=>i < n,λi H x H'=>H'=H/\x=.int (lo+i),λi _=>n<=i⟩
theorem Bc{P:Program}{w:World}{K:PySem.W.Frag}{tg:Expr}(a it:Addr):Turn P w K tg (Itl K a) [it] it (λi h=>h.IsListIter it a i) where
 mem:=by simp
 obj:=λi h st b hb=>by
  have e:b=it:=by simpa using hb
  subst e;obtain ⟨o,e,c,d⟩:=st;exact ⟨o,e,λv z=>by rw[d]at z;cases z⟩
 keep:=λi h h' st k=>st.at λo e=>k it (by simp) o e
 item:=by intro X hP hw hK hc i pins s σ H E I hf st hg;subst hP hw hK;obtain ⟨xs,x,hq,hx⟩:=hg;obtain ⟨its,rv,p,hz⟩:=I.list hq;obtain ⟨u,hu,ru⟩:=rv.get hx;obtain ⟨f0,f1,f2,f3,f4,f5⟩:=hf it (by simp);refine wpAny_pyNext_list_item st p.isList (x:=u) (by simpa using hu) λh' st' sb=>?_;have I1:Inv X pins σ H { s with heap:=h' }:=I.turned (t':=s.toks) (λb o hb e=>(sb.2 b hb).trans e) f0 f1 f3 f4 f5;obtain ⟨o,e,c,d⟩:=id st';exact ⟨u,rfl,lr (s:={ s with heap:=h' }) e c d (by decide) ⟨x,H,I1,ru,⟨rfl,λys hy=>by rw[I.list_inj hy hq];exact hx⟩,st',λb hb=>(hf b hb).1⟩⟩
 done:=by intro X hP hw hK hc i pins s σ H E I hf st hg;subst hP hw hK;obtain ⟨xs,hq,hx⟩:=hg;obtain ⟨its,rv,p,hz⟩:=I.list hq;obtain ⟨f0,f1,f2,f3,f4,f5⟩:=hf it (by simp);have hl:=rv.length;exact wpAny_pyNext_list_end (I.ok.hd hc) st p.isList (by simp;omega) λh' eb=>⟨rfl,I.turned (t':=s.toks) (λb o hb e=>eb b o hb e) f0 f1 f3 f4 f5⟩
 self:=λ_ _ _ _ _ st h=>wpAny_pyIter_listiter st h
theorem Bd{P:Program}{w:World}{K:PySem.W.Frag}{tg:Expr}(a it:Addr):Turn P w K tg (Itt K a) [it] it (λi h=>h.IsTupleIter it a i) where
 mem:=by simp
 obj:=λi h st b hb=>by
  have e:b=it:=by simpa using hb
  subst e;obtain ⟨o,e,c,d⟩:=st;exact ⟨o,e,λv z=>by rw[d]at z;cases z⟩
 keep:=λi h h' st k=>st.at λo e=>k it (by simp) o e
 item:=by intro X hP hw hK hc i pins s σ H E I hf st hg;subst hP hw hK;obtain ⟨xs,x,hq,hx⟩:=hg;obtain ⟨its,rv,p,hz⟩:=I.tuple hq;obtain ⟨u,hu,ru⟩:=rv.get hx;obtain ⟨f0,f1,f2,f3,f4,f5⟩:=hf it (by simp);refine wpAny_pyNext_tuple_item st (show s.heap.IsTuple a its.toArray from p) (x:=u) (by simpa using hu) λh' st' sb=>?_;have I1:Inv X pins σ H { s with heap:=h' }:=I.turned (t':=s.toks) (λb o hb e=>(sb.2 b hb).trans e) f0 f1 f3 f4 f5;obtain ⟨o,e,c,d⟩:=id st';exact ⟨u,rfl,lr (s:={ s with heap:=h' }) e c d (by decide) ⟨x,H,I1,ru,⟨rfl,λys hy=>by rw[I.tuple_inj hy hq];exact hx⟩,st',λb hb=>(hf b hb).1⟩⟩
 done:=by intro X hP hw hK hc i pins s σ H E I hf st hg;subst hP hw hK;obtain ⟨xs,hq,hx⟩:=hg;obtain ⟨its,rv,p,hz⟩:=I.tuple hq;obtain ⟨f0,f1,f2,f3,f4,f5⟩:=hf it (by simp);have hl:=rv.length;exact wpAny_pyNext_tuple_end (I.ok.hd hc) st (show s.heap.IsTuple a its.toArray from p) (by simp;omega) λh' eb=>⟨rfl,I.turned (t':=s.toks) (λb o hb e=>eb b o hb e) f0 f1 f3 f4 f5⟩
 self:=λ_ _ _ _ _ st h=>wpAny_pyIter_tupleiter st h
theorem Vm{P:Program}{w:World}{K:PySem.W.Frag}{tg:Expr}(it:Addr)(lo:Int)(n:Nat):Turn P w K tg (Itr lo n) [it] it (λi h=>IsRangeIter h it (lo+(i:Nat) * 1) ((n:Int) - (i:Nat)) 1) where
 mem:=by simp
 obj:=λi h st b hb=>by
  have e:b=it:=by simpa using hb
  subst e;exact ⟨_,st,λv z=>by
   have z':Data.fields _=Data.cell v:=z;cases z'⟩
 keep:=λi h h' st k=>k it (by simp) _ st
 item:=by intro X hP hw hK hc i pins s σ H E I hf st hg;subst hP hw hK;obtain ⟨f0,f1,f2,f3,f4,f5⟩:=hf it (by simp);have W:=Walks.range (prog:=X.prog) (w:=X.w) (I.ok.hd hc) it lo 1 n;refine W.item i s _ _ hg st λv h' tk hv st' kk=>?_;obtain ⟨t,rfl⟩:=hv;have I1:Inv X pins σ H { s with heap:=h',toks:=tk }:=I.turned (λb o hb e=>kk b o (by simpa using hb) e) f0 f1 f3 f4 f5;refine ⟨_,rfl,lr (s:={ s with heap:=h',toks:=tk }) (n:="range_iterator") st' rfl rfl (by decide) ⟨.int (lo+i),H,I1,⟨t,?_⟩,⟨rfl,rfl⟩,st',λb hb=>(hf b hb).1⟩⟩;rw[Int.mul_one]
 done:=by intro X hP hw hK hc i pins s σ H E I hf st hg;subst hP hw hK;obtain ⟨f0,f1,f2,f3,f4,f5⟩:=hf it (by simp);exact wpAny_pyNext_range_end (I.ok.hd hc) st (by have:n<=i:=hg;omega) λh' eb=>⟨rfl,I.turned (t':=s.toks) (λb o hb e=>eb b o hb e) f0 f1 f3 f4 f5⟩
 self:=λ_ _ _ _ _ st h=>wpAny_pyIter_rangeiter st h
section
variable {X:Cx} {tg:Expr}
theorem Vn{pins:List (Addr×Obj)}{σ:St}{H:Hp}{s:Shared}{R:It->Hp->Prop}{E:Value->Shared->Prop}{lo hi:Int}{t u v:Tok}{tk:Nat}(I:Inv X pins σ H s)(h1:-(2 ^ 62)<=lo)(h2:lo < 2 ^ 62)(h3:-(2 ^ 62)<=hi)(h4:hi < 2 ^ 62)
  (q:R (Itr lo (hi - lo).toNat) H):wpAny (model X.prog X.w) X.A (pyIter (.ref s.heap.objs.size)) (PIE X pins σ tg R) E { s with heap:=s.heap.push { cls:=.type "range",data:=.fields #[.int lo t,.int hi u,.int 1 v] },toks:=tk }:=by
 refine wpAny_pyIter_range (IsRange.new ..) (small_one h1 h2 h3 h4) ?_;have I1:Inv X pins σ H { s with heap:=s.heap.push { cls:=.type "range",data:=.fields #[.int lo t,.int hi u,.int 1 v] },toks:=tk }:=I.kept λb o e=>al _ e;refine ⟨(s.heap.push { cls:=.type "range",data:=.fields #[.int lo t,.int hi u,.int 1 v] }).objs.size,[(s.heap.push { cls:=.type "range",data:=.fields #[.int lo t,.int hi u,.int 1 v] }).objs.size],_,_,H,rfl,
  I1.kept (t':=tk) λb o e=>al _ e,Vm _ lo (hi - lo).toNat,?_,λb hb=>?_,q⟩
 ·have e1:lo+((0:Nat):Int) * 1=lo:=by simp
  have e2:(((hi - lo).toNat:Nat):Int) - ((0:Nat):Int)=Builtin.Range.rangeSize lo hi 1:=by rw[rangeSize_one];split <;> omega
  show IsRangeIter _ _ (lo+((0:Nat):Int) * 1) ((((hi - lo).toNat:Nat):Int) - ((0:Nat):Int)) 1;rw[e1,e2];exact bd _ rfl
 ·have e:b=(s.heap.push { cls:=.type "range",data:=.fields #[.int lo t,.int hi u,.int 1 v] }).objs.size:=by simpa using hb
  subst e;exact I1.fpOk (aw _) (I1.hok.fresh (aw _))
def Vo(ta:TA):TI:=λσ H R=>ta σ H λvs H1=>∃j:Int,vs=[.int j]/\-(2 ^ 62)<=j/\j < 2 ^ 62/\R (Itr 0 j.toNat) H1
theorem Vp {a:Expr} {ta:TA} {p pos:Pos} (hg:Gl X "range") (hm:X.mg "range"=none) (ha:PA X [a] ta) (hs:starEach [a] X.env=[(false,eval a X.env)]:=by rfl):PI X tg (.Call (.Name "range" p) [a] [] pos) (Vo ta):=by
 intro pins s σ H R I h;refine Call_ (fW I hg hm boot_range (de (thn (ha pos pins s σ H _ I h) λus s1 ⟨vs,H1,I1,r1,q1⟩=>?_) hs rfl));obtain ⟨j,e,q1,q2,q⟩:=q1;subst e;cases r1 with
 |cons r rr=>
  cases rr;obtain ⟨t,rfl⟩:=r;exact call_range_1 (Vn I1 (by omega) (by omega) q1 q2 (by simpa using q))
def Vq(wi:TI)(g:TG)(tb:TS):TS:=λD σ H=>wi σ H λJ H1=>∃W:Nat->Nat->St->Hp->Prop,(∃m,W 0 m σ H1)/\∀i m σ H,W i m σ H->
 (J.stop i H/\D.nx σ H)\/(J.go i H/\∃N:St->Hp->Prop,(∀σ' H',N σ' H'->∃m',m' < m/\W (i+1) m' σ' H')/\∀x H',J.yld i H x H'->g x σ H' λσ2 H2=>tb { D with nx:=N,ct:=N,bk:=D.nx } σ2 H2)
def lu(fp:List Addr)(h:Heap):List (Addr×Obj):=fp.filterMap λb=>(h.get? b).map λo=>(b,o)
theorem qM{fp:List Addr}{h:Heap}{b:Addr}{o:Obj}(hb:b∈fp)(e:h.get? b=some o):(b,o)∈lu fp h:=List.mem_filterMap.mpr ⟨b,hb,by rw[e];rfl⟩
theorem Vr{fp:List Addr}{h:Heap}{p:Addr×Obj}(hp:p∈lu fp h):p.1∈fp/\h.get? p.1=some p.2:=by
 obtain ⟨b,hb,e⟩:=List.mem_filterMap.mp hp;cases q:h.get? b with
 |none=>rw[q]at e;cases e
 |some o=>
  rw[q]at e;have e':(b,o)=p:=dn e;subst e';exact ⟨hb,q⟩
theorem Inv.pinned{pins:List (Addr×Obj)}{σ:St}{H:Hp}{s:Shared}{fp:List Addr}(I:Inv X pins σ H s)(hf:∀b∈fp,fD X pins H b)(ho:∀b∈fp,∃o,s.heap.get? b=some o/\∀v,o.data≠.cell v):Inv X (pins++lu fp s.heap) σ H s:=
 I.pins_of λp hp=>(bb.mp hp).elim (λz=>I.pin p (bq _ z)) λz=>by
  obtain ⟨hb,e⟩:=Vr z;obtain ⟨f0,f1,f2,_⟩:=hf p.1 hb;obtain ⟨o,e',d⟩:=ho p.1 hb;rw[e]at e';cases e';exact ⟨e,f0,f1,f2,d⟩
theorem Inv.unpinned{pins pl:List (Addr×Obj)}{σ:St}{H:Hp}{s:Shared}(I:Inv X (pins++pl) σ H s):Inv X pins σ H s:=I.pins_of λp hp=>I.pin p (bq _ (dk _ hp))
theorem Vs{iter:Expr}{body:List Stmt}{wi:TI}{g:TG}{tb:TS}{pos:Pos}(hp:PassesOwn (model X.prog X.w) X.A X.env X.xe)(hc:X.calm=true)(hi:PI X tg iter wi)(hg:PG X tg g)(hb:PSs X body tb)
  (hs:∀x,foldedSetIterable iter X.env x=pure x:=by intro _;rfl):PS X (.For tg iter body [] pos) (Vq wi g tb):=by
 intro pins s σ H D I h;refine wpAny_For (thn (hi pins s σ H _ I h) λv s1 h1=>thn h1 λitv s2 h2=>?_) hs;obtain ⟨it,fp,tn,J,H2,e,I2,T,st2,f2,W,⟨m0,w0⟩,turn⟩:=h2;subst e
 -- what stays true of the iterator's objects through the loop
 have stat:∀{H':Hp},(∀b∈fp,H' b=none)->∀b∈fp,fD X pins H' b:=λhn b hb=>⟨hn b hb,(f2 b hb).2⟩;refine codeAny_forLoop_any (λn s'=>∃i σ' H',Inv X pins σ' H' s'/\tn i s'.heap/\(∀b∈fp,H' b=none)/\W i n σ' H') ?_ m0 ⟨0,σ,H2,I2,st2,λb hb=>(f2 b hb).1,w0⟩;rintro n s3 ⟨i,σ3,H3,I3,st3,fr3,w3⟩;rcases turn i n σ3 H3 w3 with ⟨stop,qn⟩ |⟨go,N,hN,step⟩
 ·refine wpAny_passesOwn hp (thn (T.done X rfl rfl rfl hc i pins s3 σ3 H3 X.xe I3 (stat fr3) st3 stop) λr s4 ⟨hr,I4⟩=>?_);subst hr;exact fN ⟨σ3,H3,I4,qn⟩
 ·refine wpAny_passesOwn hp (thn (T.item X rfl rfl rfl hc i pins s3 σ3 H3 X.xe I3 (stat fr3) st3 go) λr s4 ⟨u,hr,h4⟩=>?_);subst hr;refine wpAny_passesOwn hp (thn h4 λ_ s5 ⟨x,H5,I5,r5,y5,st5,fr5⟩=>?_);have I5':=I5.pinned (stat fr5) (T.obj _ _ st5);refine wpAny_passesOwn hp (thn (hg _ s5 σ3 H5 x u _ I5' r5 (step x H5 y5)) λ_ s6 ⟨σ6,H6,I6,q6⟩=>?_);refine wpAny_passesOwn hp (thn (hb _ s6 σ6 H6 _ I6 q6) λf s7 q7=>?_);have again:∀{σ7:St}{H7:Hp},Inv X (pins++lu fp s5.heap) σ7 H7 s7->N σ7 H7->∃m,m < n/\∃i σ' H',Inv X pins σ' H' s7/\tn i s7.heap/\(∀b∈fp,H' b=none)/\W i m σ' H':=λ{σ7 H7} I7 n7=>by
   obtain ⟨m',hm,w7⟩:=hN σ7 H7 n7;refine ⟨m',hm,i+1,σ7,H7,I7.unpinned,T.keep _ _ _ st5 λb hb o e=>(I7.pin (b,o) (bq _ (bq _ (qM hb e)))).1,λb hb=>?_,w7⟩;obtain ⟨o,e,d⟩:=T.obj _ _ st5 b hb;exact (I7.pin (b,o) (bq _ (bq _ (qM hb e)))).2.1
  cases f with
  |next=>obtain ⟨σ7,H7,I7,n7⟩:=q7;exact again I7 n7
  |cont=>obtain ⟨σ7,H7,I7,n7⟩:=q7;exact again I7 n7
  |brk=>obtain ⟨σ7,H7,I7,q7⟩:=q7;exact ⟨σ7,H7,I7.unpinned,q7⟩
  |ret v=>obtain ⟨x7,σ7,H7,I7,r7,q7⟩:=q7;exact ⟨x7,σ7,H7,I7.unpinned,r7,q7⟩
end
abbrev R2:=V->V->Hp->VK->Prop
def OpR(X:Cx)(f:Value->Value->Sem Value)(r:R2):Prop:=
 ∀(pins:List (Addr×Obj))(s:Shared)(σ:St)(H:Hp)(x y:V)(v u:Value)(Q:VK),Inv X pins σ H s->RelV x v->RelV y u->r x y H Q->
  wpAny (model X.prog X.w) X.A (f v u) (EP X pins σ Q) X.xe s
def UnR(X:Cx)(f:Value->Sem Value)(r:V->Hp->VK->Prop):Prop:=
 ∀(pins:List (Addr×Obj))(s:Shared)(σ:St)(H:Hp)(x:V)(v:Value)(Q:VK),Inv X pins σ H s->RelV x v->r x H Q->
  wpAny (model X.prog X.w) X.A (f v) (EP X pins σ Q) X.xe s
def bw(X:Cx)(f:Value)(r:List V->Hp->VK->Prop):Prop:=
 ∀(pins:List (Addr×Obj))(s:Shared)(σ:St)(H:Hp)(xs:List V)(us:List Value)(Q:VK),Inv X pins σ H s->Vals xs us->r xs H Q->
  wpAny (model X.prog X.w) X.A (call f us) (EP X pins σ Q) X.xe s
def Vt(X:Cx)(r:V->Hp->(Bool->Hp->Prop)->Prop):Prop:=
 ∀(pins:List (Addr×Obj))(s:Shared)(σ:St)(H:Hp)(x:V)(v:Value)(Q:Bool->Hp->Prop),Inv X pins σ H s->RelV x v->r x H Q->
  wpAny (model X.prog X.w) X.A (truthy v) (TP X pins σ Q) X.xe s
def tOp(r:R2)(ta tb:TE):TE:=λσ H Q=>ta σ H λx H1=>tb σ H1 λy H2=>r x y H2 Q
def tUn(r:V->Hp->VK->Prop)(ta:TE):TE:=λσ H Q=>ta σ H λx H1=>r x H1 Q
def rI(C:Int->Int->Prop)(g:Int->Int->V):R2:=λx y H Q=>∃i j,x=.int i/\y=.int j/\C i j/\Q (g i j) H
def rI0(g:Int->Int->V):R2:=λx y H Q=>∃i j,x=.int i/\y=.int j/\Q (g i j) H
def rU(g:Int->V):V->Hp->VK->Prop:=λx H Q=>∃i,x=.int i/\Q (g i) H
section
variable {X:Cx} {a b c:Expr} {ta tb tc:TE} {pos:Pos}
theorem wu(ha:PE X a ta)(hb:PE X b tb){pins:List (Addr×Obj)}{s:Shared}{σ:St}{H:Hp}{R:V->V->Hp->Prop}(I:Inv X pins σ H s)
  (h:ta σ H λx H1=>tb σ H1 λy H2=>R x y H2) {Q:Value->Shared->Prop} {f:Value->Value->Sem Value}
  (hf:∀v u s2 x y H2,Inv X pins σ H2 s2->RelV x v->RelV y u->R x y H2->wpAny (model X.prog X.w) X.A (f v u) Q X.xe s2):
  wpAny (model X.prog X.w) X.A (eval a X.env) (λv s₁=>wpAny (model X.prog X.w) X.A (eval b X.env) (λu s₂=>wpAny (model X.prog X.w) X.A (f v u) Q X.xe s₂) X.xe s₁) X.xe s:=by
 refine thn (ha pins s σ H _ I h) λv s1 ⟨x,H1,I1,r1,q1⟩=>?_;refine thn (hb pins s1 σ H1 _ I1 q1) λu s2 ⟨y,H2,I2,r2,q2⟩=>?_;exact hf v u s2 x y H2 I2 r1 r2 q2
theorem Vu{op:Operator}{r:R2}(ho:OpR X (binaryOp op) r)(ha:PE X a ta)(hb:PE X b tb):PE X (.BinOp a op b pos) (tOp r ta tb):=by intro pins s σ H Q I h;exact wpAny_BinOp (wu ha hb I h λv u s2 x y H2 I2 rx ry q=>ho pins s2 σ H2 x y v u Q I2 rx ry q)
theorem Vv{op:UnaryOp}{r:V->Hp->VK->Prop}(ho:UnR X (unaryOp op) r)(ha:PE X a ta):PE X (.UnaryOp op a pos) (tUn r ta):=by intro pins s σ H Q I h;exact UnaryOp_ (thn (ha pins s σ H _ I h) λv s1 ⟨x,H1,I1,r1,q1⟩=>ho pins s1 σ H1 x v Q I1 r1 q1)
theorem opI{f:Value->Value->Sem Value}{C:Int->Int->Prop}{g:Int->Int->Int}
  (rule:∀(i j:Int)(t u:Tok)(s:Shared)(Q:Value->Shared->Prop)(E:Value->Shared->Prop),C i j->Q (.int (g i j) s.toks) { s with toks:=s.toks+1 }->wpAny (model X.prog X.w) X.A (f (.int i t) (.int j u)) Q E s):
  OpR X f (rI C λi j=>.int (g i j)):=by
 intro pins s σ H x y v u Q I rx ry h;obtain ⟨i,j,rfl,rfl,hc,q⟩:=h;obtain ⟨t,rfl⟩:=rx;obtain ⟨t',rfl⟩:=ry;exact rule i j t t' s _ _ hc ⟨.int (g i j),H,I.tok _,⟨_,rfl⟩,q⟩
theorem qN{f:Value->Value->Sem Value}{g:Int->Int->Int}
  (rule:∀(i j:Int)(t u:Tok)(s:Shared)(Q:Value->Shared->Prop)(E:Value->Shared->Prop),Q (.int (g i j) s.toks) { s with toks:=s.toks+1 }->wpAny (model X.prog X.w) X.A (f (.int i t) (.int j u)) Q E s):
  OpR X f (rI0 λi j=>.int (g i j)):=by
 intro pins s σ H x y v u Q I rx ry h;obtain ⟨i,j,rfl,rfl,q⟩:=h;obtain ⟨t,rfl⟩:=rx;obtain ⟨t',rfl⟩:=ry;exact rule i j t t' s _ _ ⟨.int (g i j),H,I.tok _,⟨_,rfl⟩,q⟩
def qO(i j:Int):Prop:=0<=j/\j<=1000000/\i.natAbs < 2 ^ 64
def CMul(i j:Int):Prop:=(-(2 ^ 64) < i/\i < 2 ^ 64)\/(-(2 ^ 64) < j/\j < 2 ^ 64)
theorem CMul.ok{i j:Int}(h:CMul i j):IntMulOk i j:=by
 rcases h with ⟨h1,h2⟩ |⟨h1,h2⟩
 ·exact .of_left (intBits_le_64 h1 h2)
 ·exact .of_right (intBits_le_64 h1 h2)
theorem Vw:OpR X (binaryOp .Add) (rI0 λi j=>.int (i+j)):=qN λ_ _ _ _ _ _ _ q=>add_int q
theorem Vx:OpR X (binaryOp .Sub) (rI0 λi j=>.int (i - j)):=qN λ_ _ _ _ _ _ _ q=>sub_int q
theorem Vy:OpR X (binaryOp .Mult) (rI CMul λi j=>.int (i * j)):=opI λ_ _ _ _ _ _ _ hc q=>mul_int q hc.ok
theorem Vz:OpR X (binaryOp .Mod) (rI (λ_ j=>0 < j) λi j=>.int (i % j)):=opI λi j _ _ _ _ _ hc q=>by
 have h1:(0:Int) < j:=hc;exact mod_int' (by omega) (by rw[Int.fmod_eq_emod_of_nonneg i (by omega)];exact q)
theorem VB:OpR X (binaryOp .Pow) (rI qO λi j=>.int (i ^ j.toNat)):=opI λ_ _ _ _ _ _ _ hc q=>pow_int_small hc.1 hc.2.1 hc.2.2 q
theorem VD:OpR X (inplaceOp .Add) (rI0 λi j=>.int (i+j)):=qN λ_ _ _ _ _ _ _ q=>iadd_int q
theorem VF:OpR X (inplaceOp .Sub) (rI0 λi j=>.int (i - j)):=qN λ_ _ _ _ _ _ _ q=>isub_int q
theorem unI{f:Value->Sem Value}{g:Int->Int}
  (rule:∀(i:Int)(t:Tok)(s:Shared)(Q:Value->Shared->Prop)(E:Value->Shared->Prop),Q (.int (g i) s.toks) { s with toks:=s.toks+1 }->wpAny (model X.prog X.w) X.A (f (.int i t)) Q E s):
  UnR X f (rU λi=>.int (g i)):=by
 intro pins s σ H x v Q I rx h;obtain ⟨i,rfl,q⟩:=h;obtain ⟨t,rfl⟩:=rx;exact rule i t s _ _ ⟨.int (g i),H,I.tok _,⟨_,rfl⟩,q⟩
theorem VG:UnR X (unaryOp .USub) (rU λi=>.int (-i)):=unI λ_ _ _ _ _ q=>neg_int q
end
section
variable {X:Cx} {a b c:Expr} {ta tb tc:TE} {pos:Pos}
theorem Be{pins:List (Addr×Obj)}{σ:St}{H:Hp}{s:Shared}{Q:VK}{k k':Bool}(I:Inv X pins σ H s)(q:Q (.bl k) H)(e:k=k'):EP X pins σ Q (.bool k') s:=by subst e;exact ⟨.bl k,H,I,rfl,q⟩
theorem VH:OpR X (compareOp .Is) (λx y H Q=>y=.non/\Q (.bl (decide (x=.non))) H):=by
 intro pins s σ H x y v u Q I rx ry h;obtain ⟨rfl,q⟩:=h;cases ry;refine is_none_gen (Be I q ?_);cases x <;> first
  | (cases rx;rfl)
  | (obtain ⟨t,rfl⟩:=rx;rfl)
theorem VJ:OpR X (compareOp .IsNot) (λx y H Q=>y=.non/\Q (.bl (!decide (x=.non))) H):=by
 intro pins s σ H x y v u Q I rx ry h;obtain ⟨rfl,q⟩:=h;cases ry;refine isnot_none_gen (Be I q ?_);cases x <;> first
  | (cases rx;rfl)
  | (obtain ⟨t,rfl⟩:=rx;rfl)
theorem VL{op:CmpOp}{r:R2}(ho:OpR X (compareOp op) r)(ha:PE X a ta)(hb:PE X b tb)(hm:behindInMarks op b=false):PE X (.Compare a [op] [b] pos) (tOp r ta tb):=by intro pins s σ H Q I h;exact wpAny_Compare1 (wu ha hb I h λv u s2 x y H2 I2 rx ry q=>ho pins s2 σ H2 x y v u Q I2 rx ry q) hm
def Bg(t:TE):TT:=λσ H Q=>t σ H λx H'=>∃k,x=.bl k/\Q k H'
theorem VM{op:CmpOp}{r:R2}(ho:OpR X (compareOp op) r)(ha:PE X a ta)(hb:PE X b tb)(hm:behindInMarks op b=false):PT X (.Compare a [op] [b] pos) (Bg (tOp r ta tb)):=by
 intro pins s σ H Q I h;refine wpAny_isTrue_Compare1 (thn (ha pins s σ H _ I h) λv s1 ⟨x,H1,I1,r1,q1⟩=>thn (hb pins s1 σ H1 _ I1 q1) λu s2 ⟨y,H2,I2,r2,q2⟩=>
  thn (ho pins s2 σ H2 x y v u _ I2 r1 r2 q2) λc s3 ⟨z,H3,I3,r3,k,e,q3⟩=>?_) hm
 subst e;cases r3;exact ey ⟨H3,I3,q3⟩
def ww(r r':R2)(ta tb tc:TE):TE:=λσ H Q=>ta σ H λx H1=>tb σ H1 λy H2=>r x y H2 λz H3=>∃k,z=.bl k/\
 (if k=true then tc σ H3 λw' H4=>r' y w' H4 Q else Q (.bl false) H3)
theorem VN{op op':CmpOp}{r r':R2}(ho:OpR X (compareOp op) r)(ho':OpR X (compareOp op') r')(ha:PE X a ta)(hb:PE X b tb)(hc:PE X c tc)
  (hm:lastMarks [op,op'] [b,c]=false:=by with_unfolding_all rfl):PE X (.Compare a [op,op'] [b,c] pos) (ww r r' ta tb tc):=by
 intro pins s σ H Q I h;refine Compare_chain (thn (ha pins s σ H _ I h) λv s1 ⟨x,H1,I1,r1,q1⟩=>chain_link (thn (hb pins s1 σ H1 _ I1 q1) λu s2 ⟨y,H2,I2,r2,q2⟩=>
  thn (ho pins s2 σ H2 x y v u _ I2 r1 r2 q2) λd s3 ⟨z,H3,I3,r3,k,e,q3⟩=>?_)) hm
 subst e;cases r3;refine ey ?_;cases k with
 |false=>exact ite_ff ⟨.bl false,H3,I3,rfl,q3⟩
 |true=>exact ite_tt (chain_last (thn (hc pins s3 σ H3 _ I3 q3) λw' s4 ⟨z',H4,I4,r4,q4⟩=>ho' pins s4 σ H4 y z' u w' Q I4 r2 r4 q4))
theorem VP{op op':CmpOp}{r r':R2}(ho:OpR X (compareOp op) r)(ho':OpR X (compareOp op') r')(ha:PE X a ta)(hb:PE X b tb)(hc:PE X c tc)
  (hm:lastMarks [op,op'] [b,c]=false:=by with_unfolding_all rfl):PT X (.Compare a [op,op'] [b,c] pos) (Bg (ww r r' ta tb tc)):=by
 intro pins s σ H Q I h;refine isTrue_chain (thn (ha pins s σ H _ I h) λv s1 ⟨x,H1,I1,r1,q1⟩=>test_link (thn (hb pins s1 σ H1 _ I1 q1) λu s2 ⟨y,H2,I2,r2,q2⟩=>
  thn (ho pins s2 σ H2 x y v u _ I2 r1 r2 q2) λd s3 ⟨z,H3,I3,r3,k,e,q3⟩=>?_)) hm
 subst e;cases r3;refine ey ?_;cases k with
 |false=>
  obtain ⟨k',e',q'⟩:=q3;cases e';exact ite_ff ⟨H3,I3,q'⟩
 |true=>
  refine ite_tt (test_last (thn (hc pins s3 σ H3 _ I3 q3) λw' s4 ⟨z',H4,I4,r4,q4⟩=>thn (ho' pins s4 σ H4 y z' u w' _ I4 r2 r4 q4) λd' s5 ⟨z2,H5,I5,r5,k2,e2,q5⟩=>?_));subst e2;cases r5;exact ey ⟨H5,I5,q5⟩
def qP(K:PySem.W.Frag)(x:V)(H:Hp)(k:Bool):Prop:=
 match x with
 |.non=>k=false
 |.bl b=>k=b
 |.int i=>k=(i != 0)
 |.str y=>y.length<=sizeLine/\k=((y.length:Int) != 0)
 |.byt y=>y.size<=sizeLine/\k=((y.size:Int) != 0)
 |.ref p=>(∃xs,SqL K H p xs/\k=!xs.isEmpty)\/(∃xs,SqT K H p xs/\k=!xs.isEmpty)\/∃kvs,H p=some (.dK kvs)/\k=!kvs.isEmpty
 |_=>False
theorem VR{κ:Type}{kvs:List (κ×V)}{vs:List (κ×Value)}(r:KV kvs vs):(!vs.isEmpty)=!kvs.isEmpty:=by cases r <;> rfl
theorem Bh{xs:List V}{its:List Value}(r:Vals xs its):(!its.toArray.isEmpty)=!xs.isEmpty:=by cases r <;> simp
theorem gw:(sizeLine:Nat) < 2 ^ 63:=by rw[fo];decide
theorem Bj:Vt X (λx H Q=>∃k,qP X.K x H k/\Q k H):=by
 intro pins s σ H x v Q I rx h;obtain ⟨k,e,q⟩:=h;have hl:=gw;have hs:sizeLine=16777216:=fo;cases x with
 |non=>
  cases rx;have e':k=false:=e;subst e';exact truthy_none ⟨H,I,q⟩
 |bl b=>
  cases rx;have e':k=b:=e;subst e';exact ey ⟨H,I,q⟩
 |int i=>
  obtain ⟨t,rfl⟩:=rx;have e':k=(i != 0):=e;subst e';exact PySem.P.truthy_int ⟨H,I,q⟩
 |str y=>
  obtain ⟨t,rfl⟩:=rx;obtain ⟨hy,e'⟩:y.length<=sizeLine/\k=((y.length:Int) != 0):=e;subst e';exact PySem.P.truthy_str (by omega) ⟨H,I.tok _,q⟩
 |byt y=>
  obtain ⟨t,rfl⟩:=rx;obtain ⟨hy,e'⟩:y.size<=sizeLine/\k=((y.size:Int) != 0):=e;subst e';exact PySem.W.truthy_bytes (by omega) ⟨H,I.tok _,q⟩
 |ref p=>
  cases rx;have e':(∃xs,SqL X.K H p xs/\k=!xs.isEmpty)\/(∃xs,SqT X.K H p xs/\k=!xs.isEmpty)\/∃kvs,H p=some (.dK kvs)/\k=!kvs.isEmpty:=e;rcases e' with ⟨xs,hx,e'⟩ |⟨xs,hx,e'⟩ |⟨kvs,hx,e'⟩
  ·subst e';obtain ⟨its,r,pl,hz⟩:=I.list hx;have hlen:=r.length;exact wpAny_truthy_list pl.isList (by simp only[am];omega) ⟨H,I.tok _,by rw[Bh r];exact q⟩
  ·subst e';obtain ⟨its,r,pl,hz⟩:=I.tuple hx;have hlen:=r.length;exact truthy_tuple pl (by simp only[am];omega) ⟨H,I.tok _,by rw[Bh r];exact q⟩
  ·subst e';obtain ⟨hz,hS,vs,r,m⟩:kvs.length<=sizeLine/\(p==sysModules)=false/\∃vs,KV kvs vs/\s.heap.DictOf (v9 X.prog X.w) p vs:=I.hok p _ hx;have hlen:kvs.length=vs.length:=Paired.length r;exact wpAny_truthy_dict hS m (by omega) ⟨H,I.tok _,by rw[VR r];exact q⟩
 |_=>exact (show False from e).elim
theorem VV(ha:PE X a ta)(he:∀whole,isTrue a X.env whole=(do let v <-whole;standAt a.pos;holding [v] (truthy v))):
  PT X a (λσ H Q=>ta σ H λx H'=>∃k,qP X.K x H' k/\Q k H'):=by
 intro pins s σ H Q I h;exact isTrue_plain (thn (ha pins s σ H _ I h) λv s1 ⟨x,H1,I1,r1,q1⟩=>Bj pins s1 σ H1 x v Q I1 r1 q1) (he _)
theorem V0:OpR X (binaryOp .Add) (λx y H Q=>∃i j,x=.str i/\y=.str j/\i.length+j.length<=sizeLine/\Q (.str (i++j)) H):=by intro pins s σ H x y v u Q I rx ry h;obtain ⟨i,j,rfl,rfl,hz,q⟩:=h;obtain ⟨t,rfl⟩:=rx;obtain ⟨t',rfl⟩:=ry;exact add_str (λt' tk=>⟨.str (i++j),H,I.tok _,⟨_,rfl⟩,q⟩) hz
theorem V1:OpR X (inplaceOp .Add) (λx y H Q=>∃i j,x=.str i/\y=.str j/\i.length+j.length<=sizeLine/\Q (.str (i++j)) H):=by intro pins s σ H x y v u Q I rx ry h;obtain ⟨i,j,rfl,rfl,hz,q⟩:=h;obtain ⟨t,rfl⟩:=rx;obtain ⟨t',rfl⟩:=ry;exact iadd_str (λt' tk=>⟨.str (i++j),H,I.tok _,⟨_,rfl⟩,q⟩) hz
theorem vals1{x:V}{us:List Value}(r:Vals [x] us):∃u,us=[u]/\RelV x u:=by
 cases r with
 |cons r1 r2=>cases r2;exact ⟨_,rfl,r1⟩
theorem vals2{x y:V}{us:List Value}(r:Vals [x,y] us):∃u w',us=[u,w']/\RelV x u/\RelV y w':=by
 cases r with
 |cons r1 r2=>
  cases r2 with
  |cons r3 r4=>cases r4;exact ⟨_,_,rfl,r1,r3⟩
theorem Bk:bw X (.type "int") (λxs H Q=>(∃i,xs=[.int i]/\Q (.int i) H)\/∃k,xs=[.bl k]/\Q (.int (if k then 1 else 0)) H):=by
 intro pins s σ H xs us Q I r h;rcases h with ⟨i,rfl,q⟩ |⟨k,rfl,q⟩
 ·obtain ⟨u,rfl,t,rfl⟩:=vals1 r;exact call_int_int ⟨.int i,H,I,⟨_,rfl⟩,q⟩
 ·obtain ⟨u,rfl,r1⟩:=vals1 r;cases r1;exact call_int_bool ⟨.int (if k then 1 else 0),H,I.tok _,⟨_,rfl⟩,q⟩
end
structure ObjM(h:Heap)(x dx C:Addr)(mA:Str->Option Value):Prop where
 obj:h.get? x=some (PySem.W.instObj C dx)
 ns:h.Ns1 dx mA
 ne:dx≠x
theorem V2{h:Heap}{dx:Addr}{mA:Str->Option Value}(n:h.Ns1 dx mA):∃od,h.get? dx=some od/\∀name,PySem.W.lookIn name od=some (mA name):=by
 obtain ⟨o,es,ep,ho,hd,hk,_,hm⟩:=n;refine ⟨o,ho,λname=>?_⟩;have e:=hm name;unfold nsFind findBy at e;rw[<-Array.find?_toList]at e;unfold PySem.W.lookIn;rw[hd];dsimp only;split
 ·rename_i y q;rw[q]at e;exact e7 some e
 ·rename_i q;rw[q]at e;have a:es.toList.any (·.refKey)=false:=by
   rw[List.any_eq_false];intro y hy;obtain ⟨z,t,hkey⟩:=hk y (Array.mem_toList_iff.mp hy);simp[DictEntry.refKey,hkey]
  have a':¬es.toList.any (·.refKey)=true:=by rw[a];exact br
  rw[if_neg a'];exact e7 some e
theorem ObjM.look{h:Heap}{x dx C:Addr}{mA:Str->Option Value}(I:ObjM h x dx C mA):∃od,PySem.W.InstAt h x (PySem.W.instObj C dx) C (some od)/\∀name,PySem.W.lookIn name od=some (mA name):=
 let ⟨od,ho,hl⟩:=V2 I.ns
 ⟨od,⟨I.obj,rfl,rfl,ho⟩,hl⟩
section
variable {P:Program} {w:World} {H H':Hp} {h h':Heap} {a C dx:Addr} {fs fs':List (Str×V)}
theorem V3(hok:HOk P w H h)(e:H a=some (.ins C dx fs)):∃mA,ObjM h a dx C mA/\(∀f,wg (fs.lookup f) (mA f))/\PySem.Within mA (fs.map (·.1))/\fs.length<=1000/\H dx=some (.own a):=by obtain ⟨d,z,ne,ob,mA,n,r,q⟩:=(show ObjOk P w H h a (.ins C dx fs) from hok a _ e);exact ⟨mA,⟨ob,n,ne⟩,r,q,z,d⟩
end
structure Cls(K:PySem.W.Frag)(C:Addr):Prop where
 pg:PySem.W.plainGet K C Str.empty=true
 hd:PySem.W.hasDictIn K C=true
 po:PySem.W.plainOver K C=true
 sa:PySem.W.findIn K (.ref C) "__setattr__"=some (some (.builtin "object.__setattr__"))
theorem Cls.get{K:PySem.W.Frag}{C:Addr}(c:Cls K C)(f:Str):PySem.W.plainGet K C f=true:=c.pg
section
variable {X:Cx} {pins:List (Addr×Obj)} {σ:St} {H:Hp} {s:Shared} {A:Around} {E:Value->Shared->Prop} {Q:Value->Shared->Prop} {c:Value} {b:Bool}
inductive TyOf (K:PySem.W.Frag) (H:Hp):V->Value->Prop where
 |non:TyOf K H .non (.type "NoneType")
 |bl (x:Bool):TyOf K H (.bl x) (.type "bool")
 |int (i:Int):TyOf K H (.int i) (.type "int")
 |str (x:Str):TyOf K H (.str x) (.type "str")
 |flt (x:UInt64):TyOf K H (.flt x) (.type "float")
 |lst {a:Addr} {xs:List V} (e:H a=some (.lst xs)):TyOf K H (.ref a) (.type "list")
 |frz {a:Addr} {o:Obj} {xs:List V} (e:H a=some (.frz o (.lst xs))):TyOf K H (.ref a) (.type "list")
 |tup {a:Addr} {xs:List V} (e:H a=some (.tup xs)):TyOf K H (.ref a) (.type "tuple")
 |dK {a:Addr} {kvs:List (Key×V)} (e:H a=some (.dK kvs)):TyOf K H (.ref a) (.type "dict")
 |dT {a:Addr} {kvs:List (List Key×V)} (e:H a=some (.dT kvs)):TyOf K H (.ref a) (.type "dict")
 |ins {a C dx:Addr} {fs:List (Str×V)} (e:H a=some (.ins C dx fs)) (cl:Cls K C) (ha:PySem.W.findIn K (.ref C) "__class__"=some (some (.builtin "object.__class__")))
   (hn:PySem.W.specialIn K (.builtin "object.__class__") "__get__"=some (some (.builtin "getset_descriptor.__get__"))) (htk:PySem.W.takesIn K (.builtin "object.__class__")=some true)
   (hm:PySem.W.mroIn K C (.type "object")=some true):TyOf K H (.ref a) (.ref C)
theorem V4{x:V}{u t:Value}(I:Inv X pins σ H s)(rx:RelV x u)(ty:TyOf X.K H x t)(e:PySem.W.kitOne X.K t c=some b)(h:∀tk,Q (.bool b) { s with toks:=tk }):
  wpAny (model X.prog X.w) A (call (.builtin "isinstance") [u,c]) Q E s:=by
 cases ty with
 |non=>cases (show u=Value.none from rx);exact dA PySem.W.kitx_none I.kIn True.intro e (λz=>nomatch z) h
 |bl y=>cases (show u=Value.bool y from rx);exact dA PySem.W.kitx_bool I.kIn True.intro e (λz=>nomatch z) h
 |int i=>obtain ⟨t,q⟩:=(show ∃t,u=Value.int i t from rx);cases q;exact dA PySem.W.kitx_int I.kIn True.intro e (λz=>nomatch z) h
 |str y=>obtain ⟨t,q⟩:=(show ∃t,u=Value.str y t from rx);cases q;exact dA PySem.W.kitx_str I.kIn True.intro e (λz=>nomatch z) h
 |flt y=>obtain ⟨t,q⟩:=(show ∃t,u=Value.float y t from rx);cases q;exact dA PySem.W.kitx_float I.kIn True.intro e (λz=>nomatch z) h
 | @lst a xs ea=>
  cases (show u=Value.ref a from rx);obtain ⟨_,_,n,_,h1⟩:=(show ObjOk X.prog X.w H s.heap a (.lst xs) from I.hok a _ ea);exact dA PySem.W.kitx_list I.kIn ⟨_,h1,rfl⟩ e (λz=>nomatch z) h
 | @frz a ob xs ea=>
  cases (show u=Value.ref a from rx);obtain ⟨_,_,_,n,_,h1⟩:=(show ObjOk X.prog X.w H s.heap a (.frz ob (.lst xs)) from I.hok a _ ea);exact dA PySem.W.kitx_list I.kIn ⟨_,h1,rfl⟩ e (λz=>nomatch z) h
 | @tup a xs ea=>
  cases (show u=Value.ref a from rx);obtain ⟨_,_,_,p⟩:=(show ObjOk X.prog X.w H s.heap a (.tup xs) from I.hok a _ ea);obtain ⟨o,h1,h2,_⟩:=p;exact dA PySem.W.kitx_tuple I.kIn ⟨o,h1,h2⟩ e (λz=>nomatch z) h
 | @dK a kvs ea=>
  cases (show u=Value.ref a from rx);obtain ⟨_,_,vs,_,p⟩:=(show ObjOk X.prog X.w H s.heap a (.dK kvs) from I.hok a _ ea);obtain ⟨o,es,ep,h1,h2,_⟩:=p;exact dA PySem.W.kitx_dict I.kIn ⟨o,h1,h2.1⟩ e (λz=>nomatch z) h
 | @dT a kvs ea=>
  cases (show u=Value.ref a from rx);obtain ⟨_,_,xs,_,o,es,ep,h1,h2,_⟩:=(show ObjOk X.prog X.w H s.heap a (.dT kvs) from I.hok a _ ea);exact dA PySem.W.kitx_dict I.kIn ⟨o,h1,h2.1⟩ e (λz=>nomatch z) h
 | @ins a C dx fs ea cl ha hn htk hm=>
  cases (show u=Value.ref a from rx);obtain ⟨mA,O,_⟩:=V3 I.hok ea;obtain ⟨od,J,_⟩:=O.look;exact dA (PySem.W.kitx_own (cl.get _) cl.hd ha hn htk hm) I.kIn J e (λz=>nomatch z) h
end
structure Room(k:Nat)(A:Around):Prop where
 hd:A.handled=none
 dp:A.depth+3 * k+5 < recursionLimit
 un:A.units+16 * k+200 < cLine
theorem Room.mono{j k:Nat}{A:Around}(r:Room k A)(h:j<=k):Room j A:=⟨r.hd,by have:=r.dp;omega,by have:=r.un;omega⟩
theorem Room.deeper{k:Nat}{A:Around}(r:Room (k+1) A)(env:Env):Room k (A.deeper env):=
 ⟨r.hd,by have:=r.dp;show A.depth+1+3 * k+5 < _;omega,by have:=r.un;show A.units+3+16 * k+200 < _;omega⟩
theorem Room.depth{k:Nat}{A:Around}(r:Room k A):A.depth < recursionLimit:=by have:=r.dp;omega
def V5:TA:=λ_ H Q=>Q [] H
def V6(ta:TE)(tr:TA):TA:=λσ H Q=>ta σ H λx H1=>tr σ H1 λxs H2=>Q (x::xs) H2
section
variable {X:Cx} {e:Expr} {es:List Expr} {te:TE} {t:TA} {pos:Pos}
theorem eG:PA X [] V5:=λ_ _ _ _ H Q I h=>Calls.spliced_nil ⟨[],H,I,.nil,h⟩
theorem di(ha:PE X e te)(hr:PA X es t)(hs:starEach (e::es) X.env=(false,eval e X.env)::starEach es X.env:=by rfl):PA X (e::es) (V6 te t):=by intro pos pins s σ H Q I h;rw[hs];show wpAny _ _ (spliced ((false,eval e X.env)::backTo pos (starEach es X.env))) _ _ s;refine Calls.spliced_cons (thn (ha pins s σ H _ I h) λu s1 ⟨x,H1,I1,r1,q1⟩=>?_);exact thn (hr pos pins s1 σ H1 _ I1 q1) λus s2 ⟨xs,H2,I2,r2,q2⟩=>⟨x::xs,H2,I2,.cons r1 r2,q2⟩
def V7(t:TA):TE:=λσ H Q=>t σ H λxs H1=>xs.length<=sizeLine/\∀p,H1 p=none->Q (.ref p) (upd H1 p (.tup xs))
def V8(t:TA):TE:=λσ H Q=>t σ H λxs H1=>xs.length<=sizeLine/\∀p,H1 p=none->Q (.ref p) (upd H1 p (.lst xs))
theorem V9{x1}(h:PA X es t):PE X (.Tuple es x1 pos) (V7 t):=by intro pins s σ H Q I hq;refine wpAny_Tuple_spliced (thn (h pos pins s σ H _ I hq) λus s1 ⟨xs,H1,I1,r,z,q⟩=>⟨by rw[<-r.length];exact z,?_⟩);have hf:H1 s1.heap.objs.size=none:=I1.hok.fresh (aw _);refine ⟨.ref s1.heap.objs.size,upd H1 s1.heap.objs.size (.tup xs),I1.laid (t':=s1.toks) (λb u e=>al _ e) (aw _) ?_,rfl,q _ hf⟩;exact ⟨z,us,r,⟨_,bd _ rfl,rfl,_,rfl⟩⟩
theorem Wa(h:PA X es t):PE X (.List es pos) (V8 t):=by intro pins s σ H Q I hq;refine wpAny_List_spliced (thn (h pos pins s σ H _ I hq) λus s1 ⟨xs,H1,I1,r,z,q⟩=>⟨by rw[<-r.length];exact z,?_⟩);have hf:H1 s1.heap.objs.size=none:=I1.hok.fresh (aw _);refine ⟨.ref s1.heap.objs.size,upd H1 s1.heap.objs.size (.lst xs),I1.laid (t':=s1.toks) (λb u e=>al _ e) (aw _) ?_,rfl,q _ hf⟩;exact ⟨z,us,0,r,bd _ rfl⟩
end
abbrev Sp:=List V->Hp->VK->XK->Prop
abbrev CXT:=List Env->Hp->Shared->XK->Value->Shared->Prop
structure Env0(P:Program)(w:World)(K:PySem.W.Frag)(mg:Str->Option Value)(base:Heap)(A:Around)(outer:List Env)(s:Shared)(H:Hp):Prop where
 frames:A.frames=some outer
 mod:Mod K mg base
 bs:∀b o,base.get? b=some o->s.heap.get? b=some o/\H b=none
 bsz:base.objs.size<=s.heap.objs.size
 funs:s.heap.FunFrames base outer
 frf:∀b∈frs outer,H b=none
 hok:HOk P w H s.heap
 bare:AllBare s.gens
def CE(outer:List Env)(P:Program)(w:World)(H:Hp)(s:Shared)(Q:VK)(u:Value)(s':Shared):Prop:=
 ∃v H',s'.os=s.os/\AllBare s'.gens/\Un (frs outer) [] H H' s.heap s'.heap/\HOk P w H' s'.heap/\RelV v u/\Q v H'
def CR(CX:CXT)(outer:List Env)(P:Program)(w:World)(H:Hp)(s:Shared)(Q:VK)(E:XK)(r:Result)(s':Shared):Prop:=
 match r with
 |.ok (.ret u)=>CE outer P w H s Q u s'
 |.ok _=>False
 |.error e=>CX outer H s E e s'
structure FnOk(P:Program)(w:World)(K:PySem.W.Frag)(mg:Str->Option Value)(base:Heap)(CX:CXT)(k:Nat)(f:Addr)(fd:FuncData)(ps:List Str)(sp:Sp):Prop where
 len:∀vs H Q E,sp vs H Q E->vs.length=ps.length
 run:∀(A:Around)(outer:List Env)(s:Shared)(H:Hp)(args:Args)(us:List Value)(vs:List V)(Q:VK)(E:XK),Room k A->Env0 P w K mg base A outer s H->BindsTo s fd args (ps.zip us)->Vals vs us->sp vs H Q E->
  codeAny (model P w) A (.call (.ref f) args) (CR CX outer P w H s Q E) s
theorem FnOk.mono{P:Program}{w:World}{K:PySem.W.Frag}{mg:Str->Option Value}{base:Heap}{CX:CXT}{j k:Nat}{f:Addr}{fd:FuncData}{ps:List Str}{sp:Sp}(F:FnOk P w K mg base CX j f fd ps sp)(h:j<=k):
  FnOk P w K mg base CX k f fd ps sp:=⟨F.len,λA outer s H args us vs Q E hr=>F.run A outer s H args us vs Q E (hr.mono h)⟩
theorem FnOk.imp{P:Program}{w:World}{K:PySem.W.Frag}{mg:Str->Option Value}{base:Heap}{CX:CXT}{k:Nat}{f:Addr}{fd:FuncData}{ps:List Str}{sp sp':Sp}(F:FnOk P w K mg base CX k f fd ps sp)
  (h:∀vs H Q E,sp' vs H Q E->sp vs H Q E):FnOk P w K mg base CX k f fd ps sp':=
 ⟨λvs H Q E q=>F.len vs H Q E (h _ _ _ _ q),λA outer s H args us vs Q E hr he hb hv hs=>F.run A outer s H args us vs Q E hr he hb hv (h _ _ _ _ hs)⟩
section
variable {X:Cx} {pins:List (Addr×Obj)} {σ:St} {H:Hp} {s s':Shared}
theorem Inv.env0(I:Inv X pins σ H s):Env0 X.prog X.w X.K X.mg X.base X.A X.stack s H:=
 ⟨I.ok.frames,I.ok.mod,I.bs,c9 I.ok.bsz I.sz,I.stack,I.stkFree,I.hok,I.bare⟩
theorem Inv.after{Q:VK}{u:Value}(I:Inv X pins σ H s)(h:CE X.stack X.prog X.w H s Q u s'):EP X pins σ Q u s':=by obtain ⟨v,H',os,bare,un,hok,r,q⟩:=h;obtain ⟨hh,g,d,t,os'⟩:=s';obtain rfl:os'=s.os:=os;exact ⟨v,H',I.call (h':=hh) (g':=g) (d':=d) (t':=t) (ch:=[]) un hok bare (λb z=>absurd z (by simp)),r,q⟩
end
def Wb(sp:Sp)(dvs:List V)(E:XK)(t:TA):TE:=λσ H Q=>t σ H λvs H1=>sp (vs++dvs) H1 Q E
def Binds(K:PySem.W.Frag)(fd:FuncData)(ps:List Str)(ds:List Value):Prop:=
 ∀(s:Shared)(us:List Value),K.In s.heap->(us++ds).length=ps.length->BindsTo s fd ⟨us,[]⟩ (ps.zip (us++ds))
theorem Binds.all{K:PySem.W.Frag}{fd:FuncData}{ps:List Str}(h:∀us:List Value,us.length=ps.length->bindArgs fd ⟨us,[]⟩=pure (ps.zip us)):Binds K fd ps []:=λs us _ hl=>by
 rw[ee]at hl ⊢;exact .of_eq (h us hl)
def ji(CX:CXT)(X:Cx)(E:XK):Prop:=∀(pins:List (Addr×Obj))(σ:St)(H:Hp)(s:Shared)(e:Value)(s':Shared),Inv X pins σ H s->CX X.stack H s E e s'->X.xe e s'
section
variable {X:Cx} {CX:CXT} {k:Nat} {f C:Addr} {fd:FuncData} {ps:List Str} {sp:Sp} {dvs:List V} {ds:List Value} {E:XK} {x m:Str} {p pos apos:Pos} {e o:Expr} {es:List Expr} {ta:TE} {t:TA}
theorem Wc{pins:List (Addr×Obj)}{σ:St}{H:Hp}{s:Shared}{Q:VK}{us:List Value}{vs:List V}(F:FnOk X.prog X.w X.K X.mg X.base CX k f fd ps sp)(hr:Room k X.A)(hb:Binds X.K fd ps ds)(hd:Vals dvs ds)(hx:ji CX X E)
  (I:Inv X pins σ H s) (r:Vals vs us) (h:sp (vs++dvs) H Q E):wpAny (model X.prog X.w) X.A (call (.ref f) us) (EP X pins σ Q) X.xe s:=by
 have r2:Vals (vs++dvs) (us++ds):=r.append hd;have hl:(us++ds).length=ps.length:=by rw[<-r2.length];exact F.len _ _ _ _ h
 refine wpAny_call (codeAny_mono (F.run X.A X.stack s H ⟨us,[]⟩ (us++ds) (vs++dvs) Q E hr I.env0 (hb s us I.kIn hl) r2 h) λr s' hq=>?_);cases r with
 |error e=>exact hx pins σ H s e s' I hq
 |ok fl=>
  cases fl with
  |ret u=>exact I.after hq
  |next=>exact False.elim hq
  |brk=>exact False.elim hq
  |cont=>exact False.elim hq
theorem Wd(F:FnOk X.prog X.w X.K X.mg X.base CX k f fd ps sp)(hr:Room k X.A)(hg:Gl X x)(hm:X.mg x=some (.ref f))(hk:PySem.W.keepIn X.K (.ref f)=true)(hb:Binds X.K fd ps ds)(hd:Vals dvs ds)(hx:ji CX X E)
  (ha:PA X (e::es) t) (hdb:(x==("__debug__":Str))=false:=by decide) (he:starEach (e::es) X.env=(false,eval e X.env)::starEach es X.env:=by rfl) (hpl:(backTo pos (starEach es X.env)).any (·.1)=false:=by rfl):
  PE X (.Call (.Name x p) (e::es) [] pos) (Wb sp dvs E t):=by
 intro pins s σ H Q I h;refine wpAny_Call_Name_kw (jh I hg hm ?_ hdb);refine PySem.W.callWith_K (h₀:=X.base) I.ok.mod.kin hk (thn (ha pos pins s σ H _ I h) λus s1 ⟨vs,H1,I1,r,q⟩=>⟨I1.kIn,?_⟩) he hpl;exact Wc F hr hb hd hx I1 r q
end
structure FnScope(N P:List Str)(sc:Scope):Prop where
 kind:sc.kind=.function
 co:sc.isCoroutine=false
 gen:sc.isGenerator=false
 nd:N.Nodup
 pre:N.take P.length=P
 par:∀x∈P,sc.names.lookup x=some .local\/sc.names.lookup x=some .cell
 nofree:∀y∈sc.names,y.2≠.free
theorem Bl{kindOf:Str->Option NameKind}{x:Str}:∀{binds:List (Str×Value)}{m:Str->Option Value},(∀v,(x,v)∉binds)->bindL kindOf binds m x=m x
 |[],_,_=>rfl
 | (n,v)::r,m,h=>by
  unfold bindL;rw[Bl λw hw=>h w (b9 _ hw)];split
  ·have:x≠n:=by rintro rfl;exact h v bS
   simp[this]
  ·rfl
theorem Bm{kindOf:Str->Option NameKind}{x:Str}:∀{binds:List (Str×Value)}{m:Str->Option Value},(∀v,(x,v)∉binds)->bindC kindOf binds m x=m x
 |[],_,_=>rfl
 | (n,v)::r,m,h=>by
  unfold bindC;rw[Bm λw hw=>h w (b9 _ hw)];split
  ·rfl
  ·have:x≠n:=by rintro rfl;exact h v bS
   simp[this]
theorem Bo{kindOf:Str->Option NameKind}{x:Str}{v:Value}:∀{P:List Str}{vs:List Value}{i:Nat}{m:Str->Option Value},P.Nodup->P[i]?=some x->vs[i]?=some v->kindOf x=some .local->
  bindL kindOf (P.zip vs) m x=some v
 |[],_,_,_,_,h,_,_=>by simp at h
 |_::_,[],_,_,_,_,h,_=>by simp at h
 |p::P,w::vs,0,m,nd,h1,h2,hk=>by
  simp at h1 h2;subst h1;subst h2;show bindL kindOf ((p,w)::P.zip vs) m p=_;unfold bindL;rw[Bl λv hv=>(List.nodup_cons.mp nd).1 (List.of_mem_zip hv).1,if_pos hk];simp
 |p::P,w::vs,i+1,m,nd,h1,h2,hk=>by
  show bindL kindOf ((p,w)::P.zip vs) m x=_;unfold bindL;exact Bo (i:=i) (List.nodup_cons.mp nd).2 (by simpa using h1) (by simpa using h2) hk
theorem Bp{kindOf:Str->Option NameKind}{x:Str}{v:Value}:∀{P:List Str}{vs:List Value}{i:Nat}{m:Str->Option Value},P.Nodup->P[i]?=some x->vs[i]?=some v->kindOf x≠some .local->
  bindC kindOf (P.zip vs) m x=some v
 |[],_,_,_,_,h,_,_=>by simp at h
 |_::_,[],_,_,_,_,h,_=>by simp at h
 |p::P,w::vs,0,m,nd,h1,h2,hk=>by
  simp at h1 h2;subst h1;subst h2;show bindC kindOf ((p,w)::P.zip vs) m p=_;unfold bindC;rw[Bm λv hv=>(List.nodup_cons.mp nd).1 (List.of_mem_zip hv).1,if_neg hk];simp
 |p::P,w::vs,i+1,m,nd,h1,h2,hk=>by
  show bindC kindOf ((p,w)::P.zip vs) m x=_;unfold bindC;exact Bp (i:=i) (List.nodup_cons.mp nd).2 (by simpa using h1) (by simpa using h2) hk
def start(N:List Str)(vs:List V):St:=vs.map some++List.replicate (N.length - vs.length) none
def cV(CX:CXT)(P:Program)(w:World)(K:PySem.W.Frag)(mg:Str->Option Value)(base:Heap)(N:List Str)(qual:Str)(scope:Scope)(f:Addr)(cd:Value)(A:Around)(outer:List Env)(s:Shared)(H:Hp)(E:XK):Cx where
 prog:=P
 w:=w
 K:=K
 mg:=mg
 base:=base
 A:=A.deeper (envOfC qual scope s.heap.objs.size f cd)
 N:=N
 s₀:=s
 H₀:=H
 env:=envOfC qual scope s.heap.objs.size f cd
 outer:=outer
 stack:=envOfC qual scope s.heap.objs.size f cd::outer
 ex:=[]
 calm:=true
 fn:=λ_=>true
 pn:=[]
 xe:=λe s'=>wpAny (model P w) (A.deeper (envOfC qual scope s.heap.objs.size f cd)) (leaving (envOfC qual scope s.heap.objs.size f cd) e) (λ_ s''=>CX outer H s E e s'') (λe' s''=>CX outer H s E e' s'') s'
theorem Bq{sc:Scope}{n:Nat}{x:Str}(h:sc.names.lookup x=some .cell):∃c,(cellsFrom n sc.names []).lookup x=some c:=by have q:=PySem.W.cellsFrom_some sc.names n [] (.inl h);exact cS.mp q
theorem Br{CX:CXT}{P:Program}{w:World}{K:PySem.W.Frag}{mg:Str->Option Value}{base:Heap}{N ps:List Str}{qual:Str}{scope:Scope}{f:Addr}{cd:Value}{A:Around}{outer:List Env}{s s1:Shared}{H:Hp}{E:XK}{us:List Value}{vs:List V}
  (S:FnScope N ps scope) (hd:A.handled=none) (e0:Env0 P w K mg base A outer s H) (hl:vs.length=ps.length) (r:Vals vs us)
  (x:InCallC s s.heap.objs.size (bindL (envOfC qual scope s.heap.objs.size f cd).kindOf (ps.zip us) λ_=>none) (cellsFrom (s.heap.objs.size+1) scope.names []) (bindC (envOfC qual scope s.heap.objs.size f cd).kindOf (ps.zip us) λ_=>none) s1):
  Inv (cV CX P w K mg base N qual scope f cd A outer s H E) [] (start N vs) H s1:=by
 have hpl:ps.length<=N.length:=by have:=e7 List.length S.pre;rw[ci]at this;omega
 obtain ⟨h1,tk,rfl,hk⟩:=x.done;have noA:∀b:Addr,b∉(cV CX P w K mg base N qual scope f cd A outer s H E).ex:=λb z=>absurd (show b∈([]:List Addr) from z) (by simp);refine ⟨⟨e0.mod,S.kind,rfl,rfl,aw _,λy z c h1 h2=>?_,λy hy=>?_,λy c _ h=>?_,λ_=>hd,Around.frames_deeper e0.frames,.inr ⟨rfl,rfl⟩,λb z=>absurd z (noA b),e0.bs,e0.bsz,λb _ _=>noA b,λb z=>absurd z (noA b),e0.funs,e0.frf⟩,
  rfl,e0.bare,Un.kept hk,⟨_,x.toInCall.ns,λi y v h1 h2 h3=>?_⟩,λy c h=>⟨_,x.cell y c h⟩,e0.hok.fresh (aw _),λy c h=>?_,λp hp=>absurd (show p∈([]:List (Addr×Obj)) from hp) (by simp),e0.hok.kept hk,?_⟩
 ·exact name_of_addr x.apart (dQ h1) (dQ h2)
 ·have hy:scope.names.lookup y=some .cell\/scope.names.lookup y=some .free:=hy;rcases hy with hy |hy
  ·exact Bq hy
  ·exact absurd rfl (S.nofree _ (dQ hy))
 ·exact Nat.le_of_lt (x.above y c (dQ h))
 ·have hi:i < vs.length:=by
   unfold start at h2;by_cases hi:i < vs.length
   ·exact hi
   ·rw[List.getElem?_append_right (by simpa using hi)]at h2;rw[List.getElem?_replicate]at h2;split at h2 <;> cases h2
  have ha:vs[i]?=some v:=by
   unfold start at h2;rw[eD (by simpa using hi),a9]at h2;cases e:vs[i]? with
   |none=>rw[e]at h2;cases h2
   |some a=>rw[e]at h2;cases h2;rfl
  obtain ⟨u,hu,rv⟩:=r.get ha;have hp:ps[i]?=some y:=by rw[<-S.pre,List.getElem?_take_of_lt (by omega)];exact h1
  have ndP:ps.Nodup:=by rw[<-S.pre];exact S.nd.sublist (List.take_sublist _ _)
  refine ⟨u,rv,?_⟩;rcases S.par y (cK hp) with k |k
  ·exact .inl ⟨k,Bo ndP hp hu k⟩
  ·obtain ⟨c,e⟩:=Bq (n:=s.heap.objs.size+1) k;refine .inr ⟨.inl k,c,e,?_⟩;have q:=x.cell y c e;rw[Bp ndP hp hu (by show scope.names.lookup y≠_;rw[k];decide)]at q;exact q
 ·exact e0.hok.fresh (Nat.le_of_lt (x.above y c (dQ h)))
 ·unfold start;show _=N.length;rw[aI,ah,ca];omega
theorem We{CX:CXT}{P:Program}{w:World}{K:PySem.W.Frag}{mg:Str->Option Value}{base:Heap}{k:Nat}{f:Addr}{name qual:Str}{params:Arguments}{body:List Stmt}{scope:Scope}{dV kV doc pm cdv ct oc:Value}{an od:Option Addr}
  {osl:Array (Option Value)} {N ps:List Str} {sp:Sp} (lk:K.lookup f=some ⟨oc,od,.func (PySem.W.fnOf name qual params body scope dV kV doc pm an cdv ct),osl⟩) (hcd:PySem.W.codeIn K cdv qual=true) (S:FnScope N ps scope)
  (len:∀vs H Q E,sp vs H Q E->vs.length=ps.length)
  (hbody:∀(A:Around)(outer:List Env)(s:Shared)(H:Hp)(vs:List V)(Q:VK)(E:XK),Room k (A.deeper (envOfC qual scope s.heap.objs.size f cdv))->sp vs H Q E->
   ∃t,PSs (cV CX P w K mg base N qual scope f cdv A outer s H E) body t/\t { nx:=λ_ H'=>Q .non H',rt:=Q } (start N vs) H):
  FnOk P w K mg base CX (k+1) f (PySem.W.fnOf name qual params body scope dV kV doc pm an cdv ct) ps sp:=by
 refine ⟨len,λA outer s H args us vs Q E hr e0 hb r hsp=>?_⟩;have hl:=len _ _ _ _ hsp;have KX:K.In s.heap:=e0.mod.kin.keeps λb o e=>(e0.bs b o e).1;have lim:s.heap.NoLimit:=e0.mod.nolimit.keeps λb o e=>(e0.bs b o e).1;have hkind:∀y∈ps.zip us,scope.names.lookup y.1=some .local\/(scope.names.lookup y.1=some .cell/\((cellsFrom (s.heap.objs.size+1) scope.names []).lookup y.1).isSome=true):=λ⟨n,v⟩ hy=>by
  rcases S.par n (List.of_mem_zip hy).1 with q |q
  ·exact .inl q
  ·exact .inr ⟨q,PySem.W.cellsFrom_some _ _ _ (.inl q)⟩
 refine codeAny_call_function hr.depth (KX _ _ lk) rfl S.co S.gen rfl (PySem.W.codeRec_of KX hcd) (hb _ _ _ _ ?_);refine wpAny_newFunctionEnv_cells S.kind hkind λenv he s1 x=>?_;subst he;refine ⟨lim.keeps x.toInCall.keep,codeAny_func ?_⟩;obtain ⟨t,ht,hq⟩:=hbody A outer s H vs Q E (hr.deeper _) hsp;have I:Inv (cV CX P w K mg base N qual scope f cdv A outer s H E) [] (start N vs) H s1:=Br S hr.hd e0 hl r x;refine cw (ht [] s1 (start N vs) H _ I hq) (λfl s' hs=>?_) λe s' hs=>hs;have fin:∀{σ':St}{H':Hp}{v:V}{u:Value},Inv (cV CX P w K mg base N qual scope f cdv A outer s H E) [] σ' H' s'->RelV v u->Q v H'->CE outer P w H s Q u s':=
  λ{σ' H' v u} J rv q=>⟨v,H',J.os,J.bare,J.base,J.hok,rv,q⟩
 cases fl with
 |ret u=>
  obtain ⟨v,σ',H',J,rv,q⟩:=hs;exact fin J rv q
 |next=>
  obtain ⟨σ',H',J,q⟩:=hs;exact fin (v:=V.non) (u:=Value.none) J rfl q
 |brk=>
  obtain ⟨_,_,_,q⟩:=hs;exact False.elim q
 |cont=>
  obtain ⟨_,_,_,q⟩:=hs;exact False.elim q
section
variable {X:Cx} {x:Str} {p pos:Pos} {e:Expr} {es:List Expr} {t:TA} {id T:String} {r:List V->Hp->VK->Prop}
def tCB(r:List V->Hp->VK->Prop)(t:TA):TE:=λσ H Q=>t σ H λvs H1=>r vs H1 Q
theorem jj (hc:bw X (.builtin id) r) (hg:Gl X x) (hm:X.mg x=none) (hv:bootBuiltins x=some (.builtin id)) (ha:PA X (e::es) t) (hn:x≠"__name__":=by decide) (hdb:(x==("__debug__":Str))=false:=by decide)
  (he:starEach (e::es) X.env=(false,eval e X.env)::starEach es X.env:=by rfl) (hpl:(backTo pos (starEach es X.env)).any (·.1)=false:=by rfl):PE X (.Call (.Name x p) (e::es) [] pos) (tCB r t):=by
 intro pins s σ H Q I h;refine wpAny_Call_Name_kw (fW I hg hm hv ?_ hn hdb);exact PyProof.Rows.callWith_builtin1 (thn (ha pos pins s σ H _ I h) λus s1 ⟨vs,H1,I1,r1,q1⟩=>hc pins s1 σ H1 vs us Q I1 r1 q1) he hpl
theorem jk (hc:bw X (.type T) r) (hg:Gl X x) (hm:X.mg x=none) (hv:bootBuiltins x=some (.type T)) (ha:PA X (e::es) t) (hn:x≠"__name__":=by decide) (hdb:(x==("__debug__":Str))=false:=by decide)
  (he:starEach (e::es) X.env=(false,eval e X.env)::starEach es X.env:=by rfl) (hpl:(backTo pos (starEach es X.env)).any (·.1)=false:=by rfl):PE X (.Call (.Name x p) (e::es) [] pos) (tCB r t):=by
 intro pins s σ H Q I h;refine wpAny_Call_Name_kw (fW I hg hm hv ?_ hn hdb);exact de (thn (ha pos pins s σ H _ I h) λus s1 ⟨vs,H1,I1,r1,q1⟩=>hc pins s1 σ H1 vs us Q I1 r1 q1) he hpl
end
end L2
namespace HT
open PySem PyProof.Rows
section
variable {prog:Program} {w:World} {A:Around} {E:Value->Shared->Prop} {s:Shared}
theorem Wf{t b:Addr}{vs ws:List Value}{Q:Value->Shared->Prop}(ht:IsTup s.heap t vs.toArray)(hb:IsTup s.heap b ws.toArray)(hv:vs≠[])
  (h1:ws=[]->Q (.ref t) s) (h2:ws≠[]->Q (.ref s.heap.objs.size) { s with heap:=s.heap.push { cls:=.type "tuple",data:=.seq (vs++ws).toArray } })
  (hsz:vs.length+ws.length<=sizeLine):wpAny (model prog w) A (binaryOp .Add (.ref t) (.ref b)) Q E s:=by
 obtain ⟨⟨cls,dd,data,sl⟩,ho,hc,n,hd⟩:=id ht;obtain ⟨⟨cls2,dd2,data2,sl2⟩,ho2,hc2,n2,hd2⟩:=id hb;simp only at hc hd hc2 hd2;subst hc hd hc2 hd2;have e:vs.toArray++ws.toArray=(vs++ws).toArray:=by simp
 by_cases hw:ws=[]
 ·exact concat_meets ⟨_,ho,rfl⟩ ⟨_,ho2,rfl⟩ noFill_tuple_add seq_tuple_add PySem.F.slot_tuple_add PySem.F.entry_tuple_add (PySem.F.args_tuple_add_2 _ _)
   (tuple_addW1 t b vs.toArray ws.toArray n n2 dd dd2 sl sl2 (by simpa using hv) (by simp[hw])) ⟨ho,ho2,h1 hw⟩
 ·refine concat_meets ⟨_,ho,rfl⟩ ⟨_,ho2,rfl⟩ noFill_tuple_add seq_tuple_add PySem.F.slot_tuple_add PySem.F.entry_tuple_add (PySem.F.args_tuple_add_2 _ _)
   (tuple_addW2 t b vs.toArray ws.toArray n n2 dd dd2 sl sl2 (by simpa using hv) (by simpa using hw) (by rw[List.size_toArray,List.size_toArray];exact hsz)) ⟨ho,ho2,?_⟩
  rw[e];exact h2 hw
noncomputable def sIx(n d:Nat):Option Int->Nat
 |none=>d
 |some v=>if v < 0 then (v+(n:Int)).toNat else min v.toNat n
theorem Bt(n d k:Nat):sIx n d (some (k:Int))=min k n:=by show (if (k:Int) < 0 then ((k:Int)+(n:Int)).toNat else min (k:Int).toNat n)=min k n;rw[if_neg (by omega),Int.toNat_natCast]
theorem Bu(n d:Nat)(hd:d<=n)(o:Option Int):sIx n d o<=n:=by
 cases o with
 |none=>exact hd
 |some v=>
  show (if v < 0 then (v+(n:Int)).toNat else min v.toNat n)<=n;by_cases hv:v < 0
  ·rw[if_pos hv];omega
  ·rw[if_neg hv];exact Nat.min_le_right _ _
theorem Bv(v:Int)(n d:Nat):(if v < 0 then max (v+(n:Int)) 0 else min v (n:Int))=((sIx n d (some v):Nat):Int):=by
 show (if v < 0 then max (v+(n:Int)) 0 else min v (n:Int))=(((if v < 0 then (v+(n:Int)).toNat else min v.toNat n):Nat):Int);by_cases hv:v < 0
 ·simp only[if_pos hv];omega
 ·simp only[if_neg hv];omega
theorem Wg(lo hi:Option Int)(n:Nat):Builtin.Slice.sliceAdjust lo hi 1 (n:Int)=(((sIx n 0 lo:Nat):Int),((sIx n n hi:Nat):Int)):=by
 have h1:¬((1:Int) < 0):=by omega
 unfold Builtin.Slice.sliceAdjust;simp only[h1,if_false];refine Prod.ext ?_ ?_
 ·cases lo with
  |none=>rfl
  |some v=>exact Bv v n 0
 ·cases hi with
  |none=>rfl
  |some v=>exact Bv v n n
theorem Wh(i j:Nat):Builtin.Slice.slicePlaces (i:Int) (j:Int) 1=j - i:=by
 unfold Builtin.Slice.slicePlaces;have h1:(1:Int) > 0:=by omega
 simp only[h1,if_true,Int.ediv_one];split <;> omega
theorem Bw{v:Value}{o:Option Int}{Q:Option Int->Shared->Prop}(p:IsPart v o)(h:Q o s):wpAny (model prog w) A (Builtin.Slice.slicePartIndex v) Q E s:=by
 cases p with
 |none=>exact slicePart_none h
 |int i t=>exact slicePart_int h
theorem Bx{sl:Addr}{vl vu:Value}{lo hi:Option Int}{n:Nat}{Q:Int×Int×Nat->Shared->Prop}(hs:s.heap.IsSliceOf sl vl vu .none)(pl:IsPart vl lo)(pu:IsPart vu hi)
  (h:Q (((sIx n 0 lo:Nat):Int),1,sIx n n hi - sIx n 0 lo) s):wpAny (model prog w) A (Builtin.Slice.sliceApplied (.ref sl) (pure (n:Int))) Q E s:=by
 obtain ⟨os,hos,hcs,hds⟩:=id hs;unfold Builtin.Slice.sliceApplied Builtin.Slice.sliceFields;refine wpAny_bind (wpAny_bind (wpAny_field hos hds (x:=vl) rfl (wpAny_bind (wpAny_field hos hds (x:=vu) rfl (wpAny_bind (wpAny_field hos hds (x:=.none) rfl (wpAny_pure ?_)))))));refine wpAny_bind (slicePart_none ?_);show wpAny _ _ (if ((1:Int)==0)=true then _ else _) _ _ s;rw[if_neg (by decide)];refine wpAny_bind (Bw pl (wpAny_bind (Bw pu (wpAny_bind (wpAny_pure ?_)))));show wpAny _ _ (match Builtin.Slice.sliceAdjust lo hi 1 (n:Int) with | (lo,hi)=>pure (lo,(1:Int),Builtin.Slice.slicePlaces lo hi 1)) _ _ s;rw[Wg lo hi n];show wpAny _ _ (pure (((sIx n 0 lo:Nat):Int),(1:Int),Builtin.Slice.slicePlaces ((sIx n 0 lo:Nat):Int) ((sIx n n hi:Nat):Int) 1)) _ _ s;rw[Wh];exact wpAny_pure h
theorem Wi(xs:Array Value)(i k:Nat):((List.range k).filterMap λ(m:Nat)=>xs[((i:Int)+(m:Int) * 1).toNat]?).toArray=((xs.toList.drop i).take k).toArray:=by
 have e:(λ(m:Nat)=>xs[((i:Int)+(m:Int) * 1).toNat]?)=λm=>xs[i+m]?:=by
  funext m;have:((i:Int)+(m:Int) * 1).toNat=i+m:=by omega
  rw[this]
 rw[e];have:=pick_run xs i k;rw[List.filterMap_map]at this;have e2:((λx=>xs[x]?)∘λx=>i+x)=λm=>xs[i+m]?:=rfl;rw[e2]at this;rw[this]
theorem Wj{t sl:Addr}{items:Array Value}{vl vu:Value}{lo hi:Option Int}{Q:Value->Shared->Prop}(ht:IsTup s.heap t items)(hs:s.heap.IsSliceOf sl vl vu .none)(pl:IsPart vl lo)(pu:IsPart vu hi)
  (hw:¬(sIx items.size 0 lo=0/\sIx items.size items.size hi=items.size))
  (h:Q (.ref s.heap.objs.size) { s with heap:=s.heap.push { cls:=.type "tuple",data:=.seq ((items.toList.drop (sIx items.size 0 lo)).take (sIx items.size items.size hi - sIx items.size 0 lo)).toArray } })
  (hsz:items.size<=sizeLine):wpAny (model prog w) A (getItem (.ref t) (.ref sl)) Q E s:=by
 have htake:sizeOk (.seq ((items.toList.drop (sIx items.size 0 lo)).take (sIx items.size items.size hi - sIx items.size 0 lo)).toArray):=by show ((items.toList.drop (sIx items.size 0 lo)).take (sIx items.size items.size hi - sIx items.size 0 lo)).toArray.size<=sizeLine;rw[List.size_toArray,List.length_take,List.length_drop,Array.length_toList];omega
 have hj:sIx items.size items.size hi<=items.size:=Bu _ _ (Nat.le_refl _) hi;obtain ⟨os,hos,hcs,hds⟩:=id hs;have hTs:s.TypeIs (.ref sl) "slice":=⟨os,hos,hcs⟩;unfold getItem;try with_reducible refine wpAny_holding ?_
 first |refine wpAny_bind (wpAny_pure ?_) |skip
 refine wpAny_bind (wpAny_sequenceKey ht.typeIs (by decide) ?_);refine wpAny_bind (wpAny_callSpecial?_slot (name:=Str.ofString "__getitem__") ht.typeIs PyProof.Rows.slot_tuple_getitem
  (wpAny_call_entry PyProof.Rows.slot_tuple_getitem ht.typeIs entry_tuple_getitem ?_ (args_tuple_getitem _ _)))
 show wpAny _ _ (Builtin.Tuple.tupleItemsOf (.ref t) >>= _) _ _ s;refine wpAny_bind (tupleItemsOf_ ht ?_);refine wpAny_bind (wpAny_typeOf hTs ?_);rw[if_pos (by decide)];refine wpAny_bind (Bx hs pl pu ?_);have hno:¬((((sIx items.size 0 lo:Nat):Int)==0&&(1:Int)==1&&(sIx items.size items.size hi - sIx items.size 0 lo)==items.size)=true):=by intro q;rw[Bool.and_eq_true,Bool.and_eq_true]at q;have q1:((sIx items.size 0 lo:Nat):Int)=0:=eq_of_beq q.1.1;have q2:sIx items.size items.size hi - sIx items.size 0 lo=items.size:=eq_of_beq q.2;exact hw ⟨by omega,by omega⟩
 show wpAny _ _ (if (((sIx items.size 0 lo:Nat):Int)==0&&(1:Int)==1&&(sIx items.size items.size hi - sIx items.size 0 lo)==items.size)=true then _ else _) _ _ s;rw[if_neg hno,Wi];first
  |exact wpAny_bind (m:=Builtin.Tuple.tupleExact _) (wpAny_newObj_type (wpAny_pure ⟨_,rfl,wpAny_pure h⟩) htake)
  |exact wpAny_bind (m:=Builtin.Tuple.tupleExact _) (wpAny_newObj_type (wpAny_bind (wpAny_pure (wpAny_pure ⟨_,rfl,wpAny_pure h⟩))) htake)
  |exact wpAny_bind (wpAny_bind (m:=Builtin.Tuple.tupleExact _) (wpAny_newObj_type (wpAny_pure (wpAny_pure ⟨_,rfl,wpAny_pure h⟩)) htake))
  |exact wpAny_bind (wpAny_bind (m:=Builtin.Tuple.tupleExact _) (wpAny_newObj_type (wpAny_pure ⟨_,rfl,wpAny_pure h⟩) htake))
end
end HT
namespace L2
open PySem PySem.Spec PyProof.Rows
abbrev TO:=St->Hp->(Option Int->Hp->Prop)->Prop
def PO(X:Cx)(e:Option Expr)(t:TO):Prop:=
 ∀(pins:List (Addr×Obj))(s:Shared)(σ:St)(H:Hp)(Q:Option Int->Hp->Prop),Inv X pins σ H s->t σ H Q->
  wpAny (model X.prog X.w) X.A (evalPart e X.env) (λu s'=>∃o H',Inv X pins σ H' s'/\IsPart u o/\Q o H') X.xe s
def Wk:TO:=λ_ H Q=>Q none H
def Wl(t:TE):TO:=λσ H Q=>t σ H λx H1=>∃i,x=.int i/\Q (some i) H1
theorem intsAre_of{ns:List Int}:∀{us:List Value},Vals (ns.map V.int) us->IntsAre us ns:=by
 induction ns with
 |nil=>intro us r;rw[d4]at r;cases r;exact .nil
 |cons n ns ih=>
  intro us r;rw[b6]at r;cases r with
  |cons r1 r2=>
   obtain ⟨t,e⟩:=r1;subst e;exact .cons n t (ih r2)
section
variable {X:Cx} {e:Expr} {te:TE} {lo hi:Option Expr} {tl th:TO} {pos p2:Pos}
theorem Wm:PO X none Wk:=by intro pins s σ H Q I h;rw[evalPart_none];exact a8 ⟨none,H,I,.none,h⟩
theorem Wn(h:PE X e te):PO X (some e) (Wl te):=by intro pins s σ H Q I hw;rw[evalPart_some];refine thn (h pins s σ H _ I hw) λu s1 ⟨x,H1,I1,r1,q1⟩=>?_;obtain ⟨i,rfl,q⟩:=q1;obtain ⟨t,rfl⟩:=r1;exact ⟨some i,H1,I1,.int i t,q⟩
def SlR(X:Cx)(r:V->Option Int->Option Int->Hp->VK->Prop):Prop:=
 ∀(pins:List (Addr×Obj))(s:Shared)(σ:St)(H:Hp)(x:V)(v vl vu:Value)(lo hi:Option Int)(sl:Addr)(Q:VK),Inv X pins σ H s->RelV x v->s.heap.IsSliceOf sl vl vu .none->IsPart vl lo->IsPart vu hi->r x lo hi H Q->
  ∃T id,typeLookup (.type T) "__getitem__"=pure (some (.builtin id))/\s.TypeIs v T/\wpAny (model X.prog X.w) X.A (getItem v (.ref sl)) (EP X pins σ Q) X.xe s
def tSl(r:V->Option Int->Option Int->Hp->VK->Prop)(te:TE)(tl th:TO):TE:=λσ H Q=>te σ H λx H1=>tl σ H1 λl H2=>th σ H2 λu H3=>r x l u H3 Q
theorem Wo{r:V->Option Int->Option Int->Hp->VK->Prop}(hr:SlR X r)(he:PE X e te)(hl:PO X lo tl)(hu:PO X hi th):PE X (.Subscript e (.Slice lo hi none p2) pos) (tSl r te tl th):=by intro pins s σ H Q I h;refine Subscript_ (thn (he pins s σ H _ I h) λv s1 ⟨x,H1,I1,r1,q1⟩=>?_);refine wpAny_Slice (thn (hl pins s1 σ H1 _ I1 q1) λvl s2 ⟨l,H2,I2,pl,q2⟩=>thn (hu pins s2 σ H2 _ I2 q2) λvu s3 ⟨u,H3,I3,pu,q3⟩=>?_);rw[evalPart_none];refine a8 ?_;have I4:Inv X pins σ H3 { s3 with heap:=s3.heap.push { cls:=.type "slice",data:=.fields #[vl,vu,.none] } }:=I3.kept (t':=s3.toks) λb ob q=>al _ q;obtain ⟨T,id,hT,ht,hg⟩:=hr pins { s3 with heap:=s3.heap.push { cls:=.type "slice",data:=.fields #[vl,vu,.none] } } σ H3 x v vl vu l u s3.heap.objs.size Q I4 r1 (Heap.IsSliceOf.new ..) pl pu q3;show wpAny (model X.prog X.w) X.A (subscriptTail e (.Slice lo hi none p2) v (.ref s3.heap.objs.size)) (EP X pins σ Q) X.xe { s3 with heap:=s3.heap.push { cls:=.type "slice",data:=.fields #[vl,vu,.none] } };exact tail_any (ops:=[.ref s3.heap.objs.size,v]) ht hT hg (by with_unfolding_all rfl)
noncomputable def eH(xs:List V)(lo hi:Option Int):List V:=(xs.drop (HT.sIx xs.length 0 lo)).take (HT.sIx xs.length xs.length hi - HT.sIx xs.length 0 lo)
theorem By(xs:List V)(lo hi:Option Int):(eH xs lo hi).length<=xs.length:=by unfold eH;rw[ci,bX];omega
noncomputable def Wq(K:PySem.W.Frag):V->Option Int->Option Int->Hp->VK->Prop:=λx lo hi H Q=>∃a xs,x=.ref a/\SqT K H a xs/\
 ¬(HT.sIx xs.length 0 lo=0/\HT.sIx xs.length xs.length hi=xs.length)/\∀p,H p=none->Q (.ref p) (upd H p (.tup (eH xs lo hi)))
theorem Wr:SlR X (Wq X.K):=by
 intro pins s σ H x v vl vu lo hi sl Q I rx hs pl pu h;obtain ⟨a,xs,rfl,hx,hw,q⟩:=h;cases rx;obtain ⟨its,r,ht,hz⟩:=I.tuple hx;have hlen:its.toArray.size=xs.length:=by rw[am];exact r.length.symm
 refine ⟨"tuple",_,eM.lookup,ht.typeIs,?_⟩;refine HT.Wj ht hs pl pu (by rw[hlen];exact hw) ?_ (by rw[hlen];exact hz);rw[hlen];refine ⟨.ref s.heap.objs.size,_,I.laid (t':=s.toks) (o:=.tup (eH xs lo hi)) (λb ob q=>al _ q) (aw _) ?_,rfl,q _ (I.hok.fresh (aw _))⟩;exact ⟨c9 (By xs lo hi) hz,_,(r.drop (HT.sIx xs.length 0 lo)).take (HT.sIx xs.length xs.length hi - HT.sIx xs.length 0 lo),IsTup.new _ _⟩
def Ws(K:PySem.W.Frag):R2:=λx y H Q=>∃a b xs ys,x=.ref a/\y=.ref b/\SqT K H a xs/\SqT K H b ys/\xs≠[]/\xs.length+ys.length<=sizeLine/\
 (ys=[]->Q (.ref a) H)/\(ys≠[]->∀p,H p=none->Q (.ref p) (upd H p (.tup (xs++ys))))
theorem Vals.nil_iff{xs:List V}{us:List Value}(r:Vals xs us):us=[]↔xs=[]:=by
 cases r with
 |nil=>simp
 |cons _ _=>simp
theorem Wt:OpR X (binaryOp .Add) (Ws X.K):=by intro pins s σ H x y v u Q I rx ry h;obtain ⟨a,b,xs,ys,rfl,rfl,ha,hb,hx,hz,q1,q2⟩:=h;cases rx;cases ry;obtain ⟨its,r1,p1,_⟩:=I.tuple ha;obtain ⟨its2,r2,p2,_⟩:=I.tuple hb;refine HT.Wf p1 p2 (λz=>hx (r1.nil_iff.mp z)) (λz=>⟨.ref a,H,I,rfl,q1 (r2.nil_iff.mp z)⟩) (λz=>?_) (by rw[<-r1.length,<-r2.length];exact hz);refine ⟨.ref s.heap.objs.size,_,I.laid (t':=s.toks) (o:=.tup (xs++ys)) (λb ob q=>al _ q) (aw _) ?_,rfl,q2 (λw=>z (r2.nil_iff.mpr w)) _ (I.hok.fresh (aw _))⟩;exact ⟨by rw[aI];exact hz,_,r1.append r2,IsTup.new _ _⟩
end
noncomputable def ixN(n:Nat)(i:Int):Option Nat:=if 0<=i then (if i < n then some i.toNat else none) else if -(n:Int)<=i then some (i+n).toNat else none
def atI{α:Type}(xs:List α)(i:Int):Option α:=(ixN xs.length i).bind λj=>xs[j]?
theorem BJ{n:Nat}{i:Int}{j:Nat}(h:ixN n i=some j):seqIndex? i n=some j/\j < n/\-(n:Int)<=i/\i < n:=by
 unfold ixN at h;by_cases h0:0<=i
 ·rw[if_pos h0]at h;by_cases h1:i < n
  ·rw[if_pos h1]at h;have e:i.toNat=j:=dn h;exact ⟨by rw[seqIndex_of h0 h1,e],by omega,by omega,h1⟩
  ·rw[if_neg h1]at h;cases h
 ·rw[if_neg h0]at h;by_cases h1:-(n:Int)<=i
  ·rw[if_pos h1]at h;have e:(i+n).toNat=j:=dn h;exact ⟨by rw[seqIndex_neg (by omega) h1,e],by omega,h1,by omega⟩
  ·rw[if_neg h1]at h;cases h
theorem jl{α:Type}{xs:List α}{i:Int}{v:α}(h:atI xs i=some v):∃j,seqIndex? i xs.length=some j/\xs[j]?=some v/\j < xs.length/\-(xs.length:Int)<=i/\i < xs.length:=by
 unfold atI at h;cases e:ixN xs.length i with
 |none=>rw[e]at h;cases h
 |some j=>
  rw[e]at h;obtain ⟨h1,h2,h3,h4⟩:=BJ e;exact ⟨j,h1,h,h2,h3,h4⟩
theorem bK{α:Type}{xs:List α}{j:Nat}{v:α}(h:xs[j]?=some v):atI xs (j:Int)=some v:=by
 have hj:j < xs.length:=(ar.mp h).1;have e:ixN xs.length (j:Int)=some j:=by unfold ixN;rw[if_pos (by omega),if_pos (by omega)];simp
 unfold atI;rw[e];exact h
theorem BK{α:Type}(xs:List α)(v:α):atI (xs++[v]) (-1)=some v:=by
 have hl:(xs++[v]).length=xs.length+1:=by simp
 have e:ixN (xs++[v]).length (-1)=some xs.length:=by unfold ixN;rw[hl,if_neg (by decide),if_pos (by omega)];congr 1;omega
 unfold atI;rw[e];show (xs++[v])[xs.length]?=some v;simp
def BL(b:Expr):Prop:=∀o i,subscripted b false o i=operate [o,i] (getItem o i)
def IxR(X:Cx)(r:R2):Prop:=
 ∀(value slice:Expr)(pins:List (Addr×Obj))(s:Shared)(σ:St)(H:Hp)(x y:V)(v u:Value)(Q:VK),Inv X pins σ H s->RelV x v->RelV y u->r x y H Q->
  subscripted slice false v u=operate [v,u] (getItem v u)->wpAny (model X.prog X.w) X.A (subscriptTail value slice v u) (EP X pins σ Q) X.xe s
def MtR(X:Cx)(id:String)(r:V->List V->Hp->VK->Prop):Prop:=
 ∀(pins:List (Addr×Obj))(s:Shared)(σ:St)(H:Hp)(x:V)(xs:List V)(v:Value)(us:List Value)(Q:VK),Inv X pins σ H s->RelV x v->Vals xs us->r x xs H Q->
  wpAny (model X.prog X.w) X.A (call (.builtin id) (v::us)) (EP X pins σ Q) X.xe s
section
variable {X:Cx} {a b:Expr} {ta tb:TE} {pos:Pos}
theorem Wu{r:R2}(hr:IxR X r)(ha:PE X a ta)(hb:PE X b tb)(hs:BL b):PE X (.Subscript a b pos) (tOp r ta tb):=by intro pins s σ H Q I h;exact Subscript_ (wu ha hb I h λv u s2 x y H2 I2 rx ry q=>hr a b pins s2 σ H2 x y v u Q I2 rx ry q (hs _ _))
def Wv(K:PySem.W.Frag):R2:=λx y H Q=>∃p xs i v,x=.ref p/\y=.int i/\SqL K H p xs/\atI xs i=some v/\Q v H
def Ww(K:PySem.W.Frag):R2:=λx y H Q=>∃p xs i v,x=.ref p/\y=.int i/\SqT K H p xs/\atI xs i=some v/\Q v H
def Wx:R2:=λx y H Q=>∃z i c,x=.str z/\y=.int i/\z.length<=sizeLine/\atI z.cps.toList i=some c/\Q (.str ⟨#[c]⟩) H
theorem Wy:IxR X (Wv X.K):=by
 intro value slice pins s σ H x y v u Q I rx ry h hs;obtain ⟨p,xs,i,z,rfl,rfl,hq,he,q⟩:=h;cases rx;obtain ⟨t,rfl⟩:=ry;obtain ⟨its,r,pl,hz⟩:=I.list hq;obtain ⟨j,h1,h2,h3,h4,h5⟩:=jl he;obtain ⟨w,ew,rw'⟩:=r.get h2;have hl:=r.length;have hn:=gw;have fin:EP X pins σ Q w s:=⟨z,H,I,rw',q⟩;by_cases h0:0<=i
 ·have hj:i.toNat=j:=by
   rw[seqIndex_of h0 h5]at h1;exact dn h1
  exact item_listR pl.isList h0 (by omega) (by rw[hj];simpa using ew) fin hs
 ·have hj:(i+(its.toArray.size:Int)).toNat=j:=by
   rw[seqIndex_neg (by omega) h4]at h1;rw[am,<-hl];exact dn h1
  exact subscriptTail_builtinR (x:=w) pl.isList.typeIs slot_list_getitem.lookup
   (wpAny_getItem_list_neg (Q:=λr s'=>r=w/\EP X pins σ Q r s') pl.isList (by omega) (by rw[am] <;> omega) (by omega) (by rw[hj];simpa using ew) ⟨rfl,fin⟩) hs
theorem Wz:IxR X (Ww X.K):=by
 intro value slice pins s σ H x y v u Q I rx ry h hs;obtain ⟨p,xs,i,z,rfl,rfl,hq,he,q⟩:=h;cases rx;obtain ⟨t,rfl⟩:=ry;obtain ⟨its,r,pl,hz⟩:=I.tuple hq;obtain ⟨j,h1,h2,h3,h4,h5⟩:=jl he;obtain ⟨w,ew,rw'⟩:=r.get h2;have hl:=r.length;have hn:=gw;have fin:EP X pins σ Q w s:=⟨z,H,I,rw',q⟩;exact subscriptTail_builtinR (x:=w) pl.typeIs slot_tuple_getitem.lookup
  (getItem_tuple (j:=j) (Q:=λr s'=>r=w/\EP X pins σ Q r s') pl (by omega) (by omega) (by rw[am,<-hl];exact h1) (by simpa using ew) ⟨rfl,fin⟩) hs
theorem WD:IxR X Wx:=by
 intro value slice pins s σ H x y v u Q I rx ry h hs;obtain ⟨z,i,c,rfl,rfl,hz,he,q⟩:=h;obtain ⟨t,rfl⟩:=rx;obtain ⟨t',rfl⟩:=ry;obtain ⟨j,h1,h2,h3,h4,h5⟩:=jl he;have hl:z.cps.toList.length=z.length:=by simp[Str.length]
 rw[hl]at h1 h4 h5;have hn:=gw;exact tail_any (typeIs_str s z t) slot_str_getitem.lookup (getItem_str (c:=c) (by
  have e1:decide (i < -(2 ^ 63:Int))=false:=bv (by omega);have e2:decide (i≥2 ^ 63)=false:=bv (by omega);rw[e1,e2,Bool.or_false]) (by rw[h1];simpa using h2) ⟨.str ⟨#[c]⟩,H,I.tok _,⟨_,rfl⟩,q⟩) hs
theorem WF (its:List Value) (n j:Nat) (u:Value):Obj.mapSeq (·.setIfInBounds j u) { cls:=.type "list",data:=.seq its.toArray n }={ cls:=.type "list",data:=.seq (its.set j u).toArray n }:=by simp[Obj.mapSeq]
theorem Inv.lst{pins:List (Addr×Obj)}{σ:St}{H:Hp}{s:Shared}{p:Addr}{xs:List V}(I:Inv X pins σ H s)(h:H p=some (.lst xs)):
  ∃(its:List Value) (n:Nat),Vals xs its/\s.heap.get? p=some { cls:=.type "list",data:=.seq its.toArray n }/\xs.length<=sizeLine:=by
 obtain ⟨z,its,n,r,e⟩:=I.hok p _ h;exact ⟨its,n,r,e,z⟩
theorem Inv.lstUpd{pins:List (Addr×Obj)}{σ:St}{H:Hp}{s:Shared}{p:Addr}{xs ys:List V}{its its':List Value}{n n':Nat}{f:Obj->Obj}(I:Inv X pins σ H s)(h:H p=some (.lst xs))
  (ho:s.heap.get? p=some { cls:=.type "list",data:=.seq its.toArray n }) (hf:f { cls:=.type "list",data:=.seq its.toArray n }={ cls:=.type "list",data:=.seq its'.toArray n' }) (r:Vals ys its') (hz:ys.length<=sizeLine) (t:Nat):
  Inv X pins σ (upd H p (.lst ys)) { s with heap:=s.heap.update p f,toks:=t }:=by
 have e:(s.heap.update p f).get? p=some { cls:=.type "list",data:=.seq its'.toArray n' }:=by rw[Heap.get?_update_self f ho (by rw[hf] <;> rfl),hf]
 refine I.write (x:=p) (e:=p) (by rw[h];trivial) (.inl rfl) (λb u hb q=>(Heap.get?_update_other _ _ (Ne.symm hb)).trans q) ⟨_,e⟩ ?_;exact ⟨hz,its',n',r,e⟩
def WK:V->V->V->Hp->(Hp->Prop)->Prop:=λo i v H Q=>∃p xs k j,o=.ref p/\i=.int k/\H p=some (.lst xs)/\ixN xs.length k=some j/\Q (upd H p (.lst (xs.set j v)))
theorem set_list:qI X WK:=by
 intro pins s σ H o i v ov iv u Q I ro ri rv h;obtain ⟨p,xs,k,j,rfl,rfl,hp,hj,q⟩:=h;cases ro;obtain ⟨t,rfl⟩:=ri;obtain ⟨its,n,r,ho,hz⟩:=I.lst hp;obtain ⟨h1,h2,h3,h4⟩:=BJ hj;have hl:=r.length;have hn:=gw;have I':Inv X pins σ (upd H p (.lst (xs.set j v))) { s with heap:=s.heap.update p (Obj.mapSeq (·.setIfInBounds j u)) }:=
  I.lstUpd hp ho (WF its n j u) (r.set rv j) (by rw[d0];exact hz) s.toks
 by_cases h0:0<=k
 ·have hk:k.toNat=j:=by
   rw[seqIndex_of h0 h4]at h1;exact dn h1
  exact PySem.W.ki_setAt ho h0 (by omega) (by rw[am,<-hl];exact h4) (by rw[hk];exact ⟨_,I',q⟩)
 ·have hk:(k+(its.toArray.size:Int)).toNat=j:=by
   rw[seqIndex_neg (by omega) h3]at h1;rw[am,<-hl];exact dn h1
  exact PySem.W.ki_setBack ho (by omega) (by rw[am,<-hl];exact h3) (by omega) (by rw[hk];exact ⟨_,I',q⟩)
theorem BP(lo hi:Option Int)(n:Nat):(sliceBounds lo hi none n).1=((HT.sIx n 0 lo:Nat):Int)/\(sliceBounds lo hi none n).2.1=((HT.sIx n n hi:Nat):Int)/\(sliceBounds lo hi none n).2.2=1:=by
 refine ⟨?_,?_,rfl⟩
 ·cases lo with
  |none=>simp[sliceBounds,HT.sIx]
  |some i=>
   simp only[sliceBounds,HT.sIx,Option.getD_none,show (1:Int) > 0 by decide,if_true];by_cases h:i < 0
   ·simp only[h,if_true] <;> omega
   ·simp only[h,if_false] <;> omega
 ·cases hi with
  |none=>simp[sliceBounds,HT.sIx]
  |some i=>
   simp only[sliceBounds,HT.sIx,Option.getD_none,show (1:Int) > 0 by decide,if_true];by_cases h:i < 0
   ·simp only[h,if_true] <;> omega
   ·simp only[h,if_false] <;> omega
theorem WL(its:List Value)(lo hi:Option Int):slicePick its.toArray lo hi none=((its.drop (HT.sIx its.length 0 lo)).take (HT.sIx its.length its.length hi - HT.sIx its.length 0 lo)).toArray:=by obtain ⟨h1,h2,h3⟩:=BP lo hi its.toArray.size;unfold slicePick;rw[h1,h2,h3];simp only[sliceRange_one,pick_run,am] <;> rfl
noncomputable def WM(K:PySem.W.Frag):V->Option Int->Option Int->Hp->VK->Prop:=λx lo hi H Q=>∃a xs,x=.ref a/\SqL K H a xs/\∀p,H p=none->Q (.ref p) (upd H p (.lst (eH xs lo hi)))
theorem BR:SlR X (WM X.K):=by intro pins s σ H x v vl vu lo hi sl Q I rx hs pl pu h;obtain ⟨a,xs,rfl,hx,q⟩:=h;cases rx;obtain ⟨its,r,ht,hz⟩:=I.list hx;have hlen:=r.length;refine ⟨"list",_,slot_list_getitem.lookup,ht.isList.typeIs,?_⟩;refine wpAny_getItem_list_slice ht.isList hs pl pu .none (by simp) ?_ (by rw[am] <;> omega);rw[WL,<-hlen];refine ⟨.ref s.heap.objs.size,_,I.laid (t':=s.toks) (o:=.lst (eH xs lo hi)) (λb ob q=>al _ q) (aw _) ?_,rfl,q _ (I.hok.fresh (aw _))⟩;exact ⟨c9 (By xs lo hi) hz,_,0,(r.drop (HT.sIx xs.length 0 lo)).take (HT.sIx xs.length xs.length hi - HT.sIx xs.length 0 lo),bd _ rfl⟩
theorem BV:bw X (.builtin "len") (λxs H Q=>∃p ys,xs=[.ref p]/\(SqL X.K H p ys\/SqT X.K H p ys)/\Q (.int ys.length) H):=by
 intro pins s σ H xs us Q I r h;obtain ⟨p,ys,rfl,hq,q⟩:=h;obtain ⟨u,rfl,rx⟩:=vals1 r;cases rx;have hn:=gw;rcases hq with hq |hq
 ·obtain ⟨its,r',pl,hz⟩:=I.list hq;have hlen:=r'.length;exact Calls.call_len_list pl.isList (by simp only[am] <;> omega) ⟨.int ys.length,H,I.tok _,⟨s.toks+1,by rw[am,hlen]⟩,q⟩
 ·obtain ⟨its,r',pl,hz⟩:=I.tuple hq;have hlen:=r'.length;exact len_tuple pl (by simp only[am] <;> omega) ⟨.int ys.length,H,I.tok _,⟨s.toks+1,by rw[am,hlen]⟩,q⟩
theorem WN:bw X (.builtin "len") (λxs H Q=>∃z,xs=[.str z]/\z.length<=sizeLine/\Q (.int z.length) H):=by intro pins s σ H xs us Q I r h;obtain ⟨z,rfl,hz,q⟩:=h;obtain ⟨u,rfl,t,rfl⟩:=vals1 r;have hn:=gw;exact len_str (by omega) ⟨.int z.length,H,I.tok _,⟨_,rfl⟩,q⟩
theorem BW:bw X (.type "list") (λxs H Q=>∃p ys,xs=[.ref p]/\(SqL X.K H p ys\/SqT X.K H p ys)/\∀l,H l=none->Q (.ref l) (upd H l (.lst ys))):=by
 intro pins s σ H xs us Q I r h;obtain ⟨p,ys,rfl,hq,q⟩:=h;obtain ⟨u,rfl,rx⟩:=vals1 r;cases rx;have fin:∀(its:List Value),Vals ys its->ys.length<=sizeLine->∀(h':Heap)(c':Nat),(∀b o',s.heap.get? b=some o'->h'.get? b=some o')->
   h'.get? s.heap.objs.size=some { cls:=.type "list",dict:=none,data:=.seq its.toArray c',slots:=#[] }->EP X pins σ Q (.ref s.heap.objs.size) { s with heap:=h' }:=λits r' hz h' c' kp e=>
  ⟨.ref s.heap.objs.size,_,I.laid (t':=s.toks) kp (aw _) (show ObjOk X.prog X.w _ h' _ (.lst ys) from ⟨hz,its,c',r',e⟩),rfl,q _ (I.hok.fresh (aw _))⟩
 rcases hq with hq |hq
 ·obtain ⟨its,r',pl,hz⟩:=I.list hq;have hlen:=r'.length;obtain ⟨o,ho,hc,n,hd⟩:=pl.isList;exact call_list_seq p (.inl rfl) ho hc hd (λh' c' kp e=>fin its r' hz h' c' kp e) (by simp only[am] <;> omega)
 ·obtain ⟨its,r',pl,hz⟩:=I.tuple hq;have hlen:=r'.length;obtain ⟨o,ho,hc,n,hd⟩:=pl;exact call_list_seq p (.inr rfl) ho hc hd (λh' c' kp e=>fin its r' hz h' c' kp e) (by simp only[am] <;> omega)
theorem BX:bw X (.type "tuple") (λxs H Q=>∃p ys,xs=[.ref p]/\((SqL X.K H p ys/\∀l,H l=none->Q (.ref l) (upd H l (.tup ys)))\/(SqT X.K H p ys/\Q (.ref p) H))):=by
 intro pins s σ H xs us Q I r h;obtain ⟨p,ys,rfl,h⟩:=h;obtain ⟨u,rfl,rx⟩:=vals1 r;cases rx;rcases h with ⟨hq,q⟩ |⟨hq,q⟩
 ·obtain ⟨its,r',pl,hz⟩:=I.list hq;have hlen:=r'.length;refine call_tuple_list pl.isList (λh' kp=>?_) (by simp only[am] <;> omega);have I1:Inv X pins σ H { s with heap:=h' }:=I.kept (t':=s.toks) kp;have I2:Inv X pins σ (upd H h'.objs.size (.tup ys)) { s with heap:=h'.push { cls:=.type "tuple",data:=.seq its.toArray } }:=
   I1.laid (t':=s.toks) (λb o e=>al _ e) (aw _) (show ObjOk X.prog X.w _ _ _ (.tup ys) from ⟨hz,its,r',IsTup.new _ _⟩)
  exact ⟨.ref h'.objs.size,_,I2,rfl,q _ (I1.hok.fresh (aw _))⟩
 ·obtain ⟨its,r',pl,hz⟩:=I.tuple hq;exact call_tuple_same pl ⟨.ref p,H,I,rfl,q⟩
def tyV(K:PySem.W.Frag)(T:String)(x:V)(H:Hp):Prop:=match x with
 |.str _=>T="str"
 |.int _=>T="int"
 |.ref p=>(T="list"/\∃xs,SqL K H p xs)\/(T="tuple"/\∃o,K.lookup p=some o/\o.cls=.type "tuple"/\o.dict=none)\/
   (T="dict"/\((∃kvs,H p=some (.dK kvs))\/∃kvs,H p=some (.dT kvs)))\/(T="set"/\∃S n,H p=some (.set S n))
 |_=>False
theorem WP{pins:List (Addr×Obj)}{σ:St}{H:Hp}{s:Shared}{T:String}{x:V}{v:Value}(I:Inv X pins σ H s)(r:RelV x v)(ty:tyV X.K T x H):
  s.TypeIs v T/\∀a,v=.ref a->∃ob,s.heap.get? a=some ob/\ob.dict=none:=by
 cases x with
 |str z=>
  obtain ⟨t,rfl⟩:=r;cases (show T="str" from ty);exact ⟨typeIs_str s z t,λ_ e=>nomatch e⟩
 |int i=>
  obtain ⟨t,rfl⟩:=r;cases (show T="int" from ty);exact ⟨typeIs_int s i t,λ_ e=>nomatch e⟩
 |ref p=>
  cases r;rcases ty with ⟨rfl,xs,hq⟩ |⟨rfl,o,hk,hc,hd⟩ |⟨rfl,hk⟩ |⟨rfl,S,n,hk⟩
  ·obtain ⟨its,_,pl,_⟩:=I.list hq;refine ⟨pl.isList.typeIs,λa e=>?_⟩;cases e;obtain ⟨o,n,e,c,hd,_⟩:=pl;exact ⟨o,e,hd⟩
  ·refine ⟨⟨o,I.kIn p o hk,hc⟩,λa e=>?_⟩;cases e;exact ⟨o,I.kIn _ o hk,hd⟩
  ·have z:∃o,s.heap.get? p=some o/\o.ExactDict:=by
    rcases hk with ⟨kvs,hk⟩ |⟨kvs,hk⟩
    ·obtain ⟨_,_,_,_,o,_,_,e,ex,_⟩:=I.hok p _ hk;exact ⟨o,e,ex⟩
    ·obtain ⟨_,_,_,_,o,_,_,e,ex,_⟩:=I.hok p _ hk;exact ⟨o,e,ex⟩
   obtain ⟨o,e,ex⟩:=z;refine ⟨⟨o,e,ex.1⟩,λa e2=>?_⟩;cases e2;exact ⟨o,e,ex.2.1⟩
  ·obtain ⟨o,_,_,_,e,ex,_⟩:=I.hok p _ hk;refine ⟨⟨o,e,ex.1⟩,λa e2=>?_⟩;cases e2;exact ⟨o,e,ex.2.1⟩
 |_=>exact False.elim ty
def tBM(K:PySem.W.Frag)(T:String)(r:V->List V->Hp->VK->Prop)(to:TE)(t:TA):TE:=λσ H Q=>to σ H λx H1=>tyV K T x H1/\t σ H1 λxs H2=>r x xs H2 Q
variable {o e:Expr} {es:List Expr} {to:TE} {t:TA} {name:Str} {apos cpos:Pos} {T id:String} {r:V->List V->Hp->VK->Prop}
theorem jm (pa:PlainAttrs T) (slot:Slot T name id) (hty:typeOf (.builtin id)=pure (.type "method_descriptor")) (hm:MtR X id r) (ho:PE X o to) (ha:PA X (e::es) t)
  (hbase:attributeBase o name X.env (eval o X.env)=eval o X.env:=by rfl)
  (hfew:((backTo cpos (starEach (e::es) X.env)).all (λx=>!x.1)&&(backToKw cpos (keywordEach [] X.env)).all (λx=>x.1.isSome)
  &&decide ((e::es).length+([]:List Keyword).length+(if ([]:List Keyword).isEmpty then 0 else 1) < 30))=true:=by rfl)
  (hline:(apos.endLine==cpos.line)=true:=by rfl) (hs:starEach (e::es) X.env=(false,eval e X.env)::starEach es X.env:=by rfl) (hplain:(backTo cpos (starEach es X.env)).any (·.1)=false:=by rfl):
  PE X (.Call (.Attribute o name apos) (e::es) [] cpos) (tBM X.K T r to t):=by
 intro pins s σ H Q I h;refine wpAny_Call_method_late hbase hfew hline rfl (thn (ho pins s σ H _ I h) λv s1 ⟨x,H1,I1,r1,ty,q1⟩=>?_);obtain ⟨h1,h2⟩:=WP I1 r1 ty;refine ⟨T,id,pa,slot,hty,h1,h2,?_⟩;have hA:=ha cpos pins s1 σ H1 _ I1 q1;rw[hs]at hA ⊢;refine Calls.callWith_builtin (by show (false||(backTo cpos (starEach es X.env)).any (·.1))=false;rw[hplain] <;> rfl) (Calls.evalArgs_plain ?_);exact thn hA λus s2 ⟨vs,H2,I2,r2,q2⟩=>hm pins s2 σ H2 x vs v us Q I2 r1 r2 q2
end
def MtM(X:Cx)(id:String)(r:V->List V->Hp->VK->Prop):Prop:=
 ∀(pins:List (Addr×Obj))(s:Shared)(σ:St)(H:Hp)(x:V)(xs:List V)(v:Value)(us:List Value)(Q:VK),Inv X pins σ H s->RelV x v->Vals xs us->r x xs H Q->
  wpAny (model X.prog X.w) X.A (call (.builtin id) (v::us)) (EP X pins σ Q) X.xe s
theorem Vals.one:∀{x:V}{us:List Value},Vals [x] us->∃u,us=[u]/\RelV x u
 |_,_,.cons r .nil=>⟨_,rfl,r⟩
theorem Vals.rep{xs:List V}{us:List Value}(h:Vals xs us):∀k:Nat,Vals (List.replicate k xs).flatten (List.replicate k us).flatten
 |0=>.nil
 |k+1=>by
  rw[cy,cy,eL,eL];exact Vals.append h (Vals.rep h k)
theorem foldl_rep(its:List Value):∀(k:Nat)(acc:List Value),
  List.foldl (λx1 x2=>x1++x2) acc.toArray (List.replicate k its.toArray)=(acc++(List.replicate k its).flatten).toArray
 |0,acc=>by simp
 |k+1,acc=>by
  have e:acc.toArray++its.toArray=(acc++its).toArray:=by simp
  have e2:(acc++its)++(List.replicate k its).flatten=acc++(List.replicate (k+1) its).flatten:=by rw[cy,eL,List.append_assoc]
  rw[<-e2,<-foldl_rep its k (acc++its),<-e,cy,List.foldl_cons]
section
variable {X:Cx} {pins:List (Addr×Obj)} {σ:St} {H:Hp} {s:Shared} {l b:Addr} {xs ys zs:List V}
theorem Inv.lset{its its':List Value}{n:Nat}{f:Array Value->Array Value}{t':Nat}(I:Inv X pins σ H s)(hH:H l=some (.lst xs))
  (e:s.heap.get? l=some { cls:=.type "list",data:=.seq its.toArray n }) (hf:f its.toArray=its'.toArray) (hv:Vals ys its') (hz:ys.length<=sizeLine):
  Inv X pins σ (upd H l (.lst ys)) { s with heap:=s.heap.update l (Obj.mapSeq f),toks:=t' }:=by
 have q:=PySem.IsL.update e f;rw[hf]at q;refine I.write (x:=l) (e:=l) (by rw[hH];exact trivial) (.inl rfl) (λb' u hb hu=>(Heap.get?_update_other s.heap (Obj.mapSeq f) (Ne.symm hb)).trans hu) ⟨_,q⟩ ?_;exact ⟨hz,its',_,hv,q⟩
theorem Inv.lnew{its:List Value}{t':Nat}(I:Inv X pins σ H s)(hv:Vals ys its)(hz:ys.length<=sizeLine):
  Inv X pins σ (upd H s.heap.objs.size (.lst ys)) { s with heap:=s.heap.push { cls:=.type "list",data:=.seq its.toArray },toks:=t' }:=
 I.laid (λ_ _ q=>al _ q) (aw _) ⟨hz,its,0,hv,bd _ rfl⟩
theorem Inv.fresh(I:Inv X pins σ H s):H s.heap.objs.size=none:=I.hok.fresh (aw _)
theorem Inv.lstM (I:Inv X pins σ H s) (hH:H l=some (.lst xs)):xs.length<=sizeLine/\∃(its:List Value) (n:Nat),Vals xs its/\xs.length=its.length/\s.heap.get? l=some { cls:=.type "list",data:=.seq its.toArray n }:=by obtain ⟨z,its,n,r,e⟩:=I.hok l _ hH;exact ⟨z,its,n,r,r.length,e⟩
theorem BZ{n:Nat}(h:n<=sizeLine):Builtin.List.listTooLong n=false:=by unfold Builtin.List.listTooLong;exact bv (by omega)
end
section
variable {X:Cx}
noncomputable def WQ:V->List V->Hp->VK->Prop:=λx vs H Q=>∃l xs y,x=.ref l/\vs=[y]/\H l=some (.lst xs)/\xs.length < sizeLine/\Q .non (upd H l (.lst (xs++[y])))
theorem WR:MtM X "list.append" WQ:=by intro pins s σ H x vs v us Q I rx rv h;obtain ⟨l,xs,y,rfl,rfl,hH,hz,q⟩:=h;cases rx;obtain ⟨u,rfl,ru⟩:=rv.one;obtain ⟨z,its,n,r,hl,e⟩:=I.lstM hH;refine fS F.slot_list_append ⟨_,e,rfl⟩ F.entry_list_append (F.args_list_append_2 _ _) (PySem.list_append l its.toArray n u (by rw[am];omega)) ⟨e,?_⟩;refine ⟨.non,_,I.lset (its':=its++[u]) hH e (by simp) (r.append (.cons ru .nil)) ?_,rfl,q⟩;rw[aI,List.length_singleton];omega
noncomputable def WT:V->List V->Hp->VK->Prop:=λx vs H Q=>∃l b xs zs,x=.ref l/\vs=[.ref b]/\H l=some (.lst xs)/\H b=some (.lst zs)/\xs.length+zs.length<=sizeLine/\Q .non (upd H l (.lst (xs++zs)))
theorem WW:MtM X "list.extend" WT:=by
 intro pins s σ H x vs v us Q I rx rv h;obtain ⟨l,b,xs,zs,rfl,rfl,hH,hB,hz,q⟩:=h;cases rx;obtain ⟨u,rfl,ru⟩:=rv.one;cases ru;obtain ⟨z,its,n,r,hl,e⟩:=I.lstM hH;obtain ⟨z2,its2,n2,r2,hl2,e2⟩:=I.lstM hB;have hsz:its.toArray.size+its2.toArray.size<=sizeLine:=by rw[am,am];omega
 have hlong:¬(!its.toArray.isEmpty&&Builtin.List.listTooLong (its.toArray.size+its2.toArray.size))=true:=by rw[BZ hsz,db];exact br
 refine fS F.slot_list_extend ⟨_,e,rfl⟩ F.entry_list_extend (F.args_list_extend_2 _ _)
  (AutoSeq1.list_extend_list_list_0 l its.toArray n b its2.toArray n2 hlong (by rw[am];omega) (by omega)) ⟨e,e2,?_⟩
 refine ⟨.non,_,I.lset (its':=its++its2) hH e (by simp) (r.append r2) ?_,rfl,q⟩;rw[aI];omega
theorem len_rep{α:Type}(xs:List α)(k:Nat):(List.replicate k xs).flatten.length=k * xs.length:=by
 induction k with
 |zero=>simp
 |succ k ih=>rw[cy,eL,aI,ih,Nat.succ_mul,Nat.add_comm]
end
end L2
namespace Att
open PySem PySem.W PySem.Calls PyProof.Rows
theorem WX{P:Params}{h:Heap}:∀(ns:List Int)(vs:List Value),WellAll P h vs (ns.map WData.int)->IntsAre vs ns:=by
 intro ns;induction ns with
 |nil=>
  intro vs w;rw[List.map_nil]at w;cases w;exact .nil
 |cons n ns ih=>
  intro vs w;rw[List.map_cons]at w;cases w with
  |cons a b=>
   cases a;exact .cons _ _ (ih _ b)
theorem WY{l:OpenLaw}{n:Nat}(hn:l.most=some n){P:Params}{h:Heap}{args:List WData}{vals:List Value}
  (hpre:l.row.toRowW.claim.pre args=true) (hwl:WellAll P h vals args):
  ∃a vs ns,vals=[Value.ref a]/\args=[WData.list (ns.map WData.int)]/\h.get? a=some { cls:=.type "list",data:=.seq vs.toArray }/\IntsAre vs ns/\ns.length<=n:=by
 have hsh:WShape.hasAll [] args [.list .int]=true:=(pre_splitW hpre).1;have hc:l.pre.holds [] { args:=args }=true:=(pre_splitW hpre).2;obtain ⟨d,r,rfl,h1,h2⟩:=hasAllW_cons hsh;obtain rfl:=hasAllW_nil h2;obtain ⟨xs,rfl,h3⟩:=hasW_list h1;obtain ⟨ns,rfl⟩:=items_int h3;have hlen:ns.length<=n:=by
  unfold OpenLaw.pre at hc;have h4:(WTm.not (.lt (.lit (.int (n:Int))) (.len (.arg 0)))).holds [] { args:=[.list (ns.map .int)] }=true:=by have h4:=(holds_andW hc).1;rw[hn]at h4;exact h4
  have h5:=condW_of h4 (w_not (w_lt w_lit (w_len_list (w_arg rfl))));rw[List.length_map]at h5;refine Nat.le_of_not_lt λq=>?_;have q':(n:Int) < ((ns.length:Nat):Int):=by omega
  first
   | (rw[decide_eq_true q']at h5;exact absurd h5 (by decide))
   | (simp at h5;omega)
 cases hwl with
 |cons w1 w2=>
  cases w2;cases w1 with
  |list ho hall=>exact ⟨_,_,ns,rfl,rfl,ho,WX ns _ hall,hlen⟩
theorem W0(l:OpenLaw)(args:List WData):l.row.toRowW.claim.post args (.bool true) args=true:=
 postW_of (r:=l.row.toRowW) (X:=(true==true))
  (show WShape.has [] (.bool true) .bool=true by first |rfl |decide |simp[WShape.has,WShape.arms,WShape.armsAll])
  (show (WTm.eq .res (.lit (.bool true))).value [] { args:=args,res:=some (.bool true),after:=args }=some (.bool (true==true)) from w_eq_bool (w_res rfl) w_lit) rfl
theorem attach_call{l:OpenLaw}{n:Nat}{q:Program}{loose:List Str}{XP:(Str->Option Value)->Heap->Prop}{YP:World->Heap->Prop}{d:DefRec}
  (hn:l.most=some n) (hdf:d.params.defaults=[])
  (call:∀(w:World)(s₀ s₁:Shared)(mg mb:Str->Option Value)(fa:Addr)(o:Obj)(pm cd doc:Value)(a:Addr)(vs:List Value)(ns:List Int),
   Ground q loose [] XP w s₀ mg mb s₁.heap->YP w s₁.heap->
   s₁.heap.get? fa=some o->o.data=.func (docDef d.name d.params d.body d.scope pm cd doc)->s₁.heap.CodeRec cd d.name->mg d.name=some (.ref fa)->
   s₁.heap.get? a=some { cls:=.type "list",data:=.seq vs.toArray }->IntsAre vs ns->ns.length<=n->s₁.gens=#[]->
   codeAny (model l.prog w) callerA (.call (.ref fa) ⟨[.ref a],[]⟩) (λr s'=>r=.ok (.ret (.bool true))/\OldK s₁.heap s'.heap/\s'.os=s₁.os/\AllBare s'.gens) s₁):
  WalkO q loose XP YP l.row.toRowW d [] (λf vs=>PySem.call f vs):=by
 intro w s₀ s₁ mg mb G Y fa o pm cd doc dV kV ho hd hcd hD hmg hg args vals as hpre hlay hrd hwl hlo;obtain rfl:dV=.none:=Dflts.none hD hdf;obtain rfl:kV=.none:=Dflts.noKw hD;obtain ⟨a,vs,ns,rfl,rfl,hobj,hints,hlen⟩:=WY hn hpre hwl;refine enter_call (codeAny_mono (call w s₀ s₁ mg mb fa o pm cd doc a vs ns G Y ho (fd_plain hd) hcd hmg hobj hints hlen hg) λr s' hq=>?_);obtain ⟨rfl,h2,h3,h4⟩:=hq;exact ⟨.inl ⟨.bool true,.bool true,[],rfl,λ_=>rfl,.bool true,W0 l _,λ_=>⟨List.Pairwise.nil,λ_ hm=>(nomatch hm)⟩⟩,h2,h3,h4⟩
end Att
namespace L2
open PySem PySem.Spec PyProof.Rows
theorem wy:∀{vs:List Value}{ns:List Int},IntsAre vs ns->Vals (ns.map V.int) vs
 |_,_,.nil=>.nil
 |_,_,.cons n t h=>.cons ⟨t,rfl⟩ (wy h)
def Only(H:Hp):Prop:=∀b,H b=none\/∃o xs,H b=some (.frz o (.lst xs))
theorem W2{P:Program}{w:World}{K:PySem.W.Frag}{mg mb:Str->Option Value}{CX:CXT}{k:Nat}{fa a:Addr}{fd:FuncData}{x:Str}{sp:Sp}{s₁:Shared}{vs:List Value}{ns:List Int}
  (KX:K.In s₁.heap) (hns:s₁.heap.Ns mainGlobals mg) (hb:s₁.heap.Ns builtinsNs mb) (hbb:∀x:Str,x≠"__name__"->mb x=bootBuiltins x) (hlim:s₁.heap.NoLimit) (hg:s₁.gens=#[])
  (ha:s₁.heap.get? a=some { cls:=.type "list",data:=.seq vs.toArray }) (hi:IntsAre vs ns) (hl:ns.length<=sizeLine) (hr:Room k callerA)
  (F:∀base:Heap,K.In base->base.Ns mainGlobals mg->FnOk P w K mg base CX k fa fd [x] sp) (hbind:∀(s:Shared)(u:Value),BindsTo s fd ⟨[u],[]⟩ [(x,u)])
  (hsp:∀H:Hp,Only H->SqL K H a (ns.map V.int)->sp [.ref a] H (λv _=>v=.bl true) λ_ _ _=>False)
  (hCX:∀H e s',CX [] H s₁ (λ_ _ _=>False) e s'->False):
  codeAny (model P w) callerA (.call (.ref fa) ⟨[.ref a],[]⟩) (λr s'=>r=.ok (.ret (.bool true))/\OldK s₁.heap s'.heap/\s'.os=s₁.os/\AllBare s'.gens) s₁:=by
 have rv:=wy hi;have lenV:=hi.length
 -- from an abstract heap in which nothing but the script may be tracked
 have core:∀H:Hp,Only H->SqL K H a (ns.map V.int)->HOk P w H s₁.heap->(∀b,H b≠none->b=a)->(H a≠none->K.lookup a=none)->
   codeAny (model P w) callerA (.call (.ref fa) ⟨[.ref a],[]⟩) (λr s'=>r=.ok (.ret (.bool true))/\OldK s₁.heap s'.heap/\s'.os=s₁.os/\AllBare s'.gens) s₁:=by
  intro H hO hS hok hA hK;have base_of:∀{b:Addr}{o:Obj},s₁.heap.get? b=some o->H b=none->(fV s₁.heap H).get? b=some o:=λe n=>T9 e n;have noA:∀{b:Addr}{o:Obj}{es:Array DictEntry}{ep:Nat},s₁.heap.get? b=some o->o.data=.dict es ep->H b=none:=λ{b o es ep} e d=>by
   cases q:H b with
   |none=>rfl
   |some u=>
    have e':b=a:=hA b (by rw[q];simp);subst e';rw[ha]at e;cases e;have d':Data.seq vs.toArray _=Data.dict es ep:=d;cases d'
  have nsK:∀{b:Addr}{m:Str->Option Value},s₁.heap.Ns b m->(fV s₁.heap H).Ns b m:=λ{b m} ⟨o,es,ep,e,d,r⟩=>⟨o,es,ep,base_of e (noA e d),d,r⟩;have hKb:K.In (fV s₁.heap H):=λb o e=>base_of (KX b o e) (by
   cases q:H b with
   |none=>rfl
   |some u=>
    have e':b=a:=hA b (by rw[q];simp);subst e';rw[hK (by rw[q];simp)]at e;cases e)
  have hM:Mod K mg (fV s₁.heap H):=⟨hKb,nsK hns,⟨mb,nsK hb,hbb⟩,let ⟨mc,h1,h2⟩:=hlim;⟨mc,nsK h1,h2⟩⟩;have e0:Env0 P w K mg (fV s₁.heap H) callerA [] s₁ H:=⟨rfl,hM,λb o e=>Ua e,Nat.le_of_eq (T8 _ _),trivial,λb hb=>absurd (show b∈([]:List Addr) from hb) (by simp),hok,.of_eq hg⟩;refine codeAny_mono ((F _ hKb (nsK hns)).run callerA [] s₁ H ⟨[.ref a],[]⟩ [.ref a] [.ref a] _ _ hr e0 (hbind s₁ (.ref a)) (.cons rfl .nil) (hsp H hO hS)) λr s' h=>?_;cases r with
  |error e=>exact (hCX H e s' h).elim
  |ok fl=>
   cases fl with
   |next=>exact False.elim h
   |brk=>exact False.elim h
   |cont=>exact False.elim h
   |ret u=>
    obtain ⟨v,H',os,bare,un,hok',r',q⟩:=h;have q':v=.bl true:=q;subst q';obtain rfl:u=Value.bool true:=r';refine ⟨rfl,OldK.of_keep λb o e=>?_,os,bare⟩;cases q:H b with
    |none=>exact un.keep b o e q (by intro z;exact absurd (show b∈([]:List Addr) from z) (by simp)) (by simp)
    |some u=>
     rcases hO b with z |⟨ob,xs,z⟩
     ·rw[q]at z;cases z
     ·have z2:=un.frzs b ob _ z;obtain ⟨e1,_⟩:=hok b _ z;obtain ⟨e2,_⟩:=hok' b _ z2;rw[e]at e1;cases e1;exact e2
 cases hk:K.lookup a with
 |some o=>
  -- the script is one of the module's own objects
  have e:=KX a o hk;rw[ha]at e;cases e;refine core (λ_=>none) (λ_=>.inl rfl) (.inr ⟨_,vs.toArray,_,hk,rfl,rfl,rfl,by rw[am,lenV];exact hl,by simpa using rv⟩) (λb u z=>by have z':(none:Option HO)=some u:=z;cases z') (λb z=>absurd rfl z) λz=>absurd rfl z
 |none=>
  refine core (λb=>if b=a then some (.frz { cls:=.type "list",data:=.seq vs.toArray } (.lst (ns.map V.int))) else none) (λb=>?_) (.inl (.inr ⟨{ cls:=.type "list",data:=.seq vs.toArray },if_pos rfl⟩)) (λb u z=>?_) (λb z=>?_) λ_=>hk
  ·by_cases hb:b=a
   ·exact .inr ⟨_,_,if_pos hb⟩
   ·exact .inl (if_neg hb)
  ·by_cases hb:b=a
   ·have z':=(if_pos hb).symm.trans z;cases z';subst hb;exact ⟨ha,by rw[ah];exact hl,vs,_,rv,ha⟩
   ·have z':=(if_neg hb).symm.trans z;cases z'
  ·by_cases hb:b=a
   ·exact hb
   ·exact absurd (if_neg hb) z
theorem W3{l:PySem.W.OpenLaw}{n k:Nat}{q:Program}{loose:List Str}{XP:(Str->Option Value)->Heap->Prop}{YP:World->Heap->Prop}{d:DefRec}{K:Params->PySem.W.Frag}{CX:World->CXT}{sp:World->Sp}{x:Str}
  (hn:l.most=some n) (hn2:n<=sizeLine) (hdf:d.params.defaults=[]) (hr:Room k callerA)
  (hY:∀(w:World)(h:Heap),YP w h->(K w.params).In h)
  (F:∀(w:World)(mg:Str->Option Value)(fa:Addr)(h:Heap),(K w.params).In h->h.Ns mainGlobals mg->mg d.name=some (.ref fa)->
   ∃fd:FuncData,(∀(s:Shared)(u:Value),BindsTo s fd ⟨[u],[]⟩ [(x,u)])/\
    ∀base:Heap,(K w.params).In base->base.Ns mainGlobals mg->FnOk l.prog w (K w.params) mg base (CX w) k fa fd [x] (sp w))
  (hsp:∀(w:World)(H:Hp)(a:Addr)(ns:List Int),ns.length<=n->Only H->SqL (K w.params) H a (ns.map V.int)->sp w [.ref a] H (λv _=>v=.bl true) λ_ _ _=>False)
  (hCX:∀(w:World)(H:Hp)(s:Shared)(e:Value)(s':Shared),CX w [] H s (λ_ _ _=>False) e s'->False):
  PySem.W.WalkO q loose XP YP l.row.toRowW d [] (λf vs=>PySem.call f vs):=by
 refine Att.attach_call hn hdf λw s₀ s₁ mg mb fa o pm cd doc a vs ns G Y ho hd hcd hmg hobj hints hlen hg=>?_;have KX:=hY w _ Y;obtain ⟨fd,hb,hF⟩:=F w mg fa _ KX G.T.g hmg;exact W2 KX G.T.g G.T.b G.T.builtins G.T.nolimit hg hobj hints (c9 hlen hn2) hr hF hb (λH hO hS=>hsp w H a ns hlen hO hS) λH e s'=>hCX w H s₁ e s'
def lw(s:Stmt):Arguments:=match s with
 |.FunctionDef _ a _ _ _ _ _ _ _ _=>a
 |_=>{ posonlyargs:=[],args:=[],vararg:=none,kwonlyargs:=[],kw_defaults:=[],kwarg:=none,defaults:=[] }
def aF(s:Stmt):List Stmt:=match s with
 |.FunctionDef _ _ b _ _ _ _ _ _ _=>b
 |_=>[]
def ao(s:Stmt):Scope:=match s with
 |.FunctionDef _ _ _ _ _ _ sc _ _ _=>sc
 |_=>{ kind:=.function,names:=[],isGenerator:=false,isCoroutine:=false }
abbrev CX0:CXT:=λ_ _ _ _ _ _=>False
structure Fun(K:PySem.W.Frag)(x qual:Str)(st:Stmt)(f:Addr)(fd:FuncData):Prop where
 ex:∃(oc:Value)(od:Option Addr)(kV doc pm:Value)(an:Option Addr)(cdv ct:Value)(osl:Array (Option Value)),
  fd=PySem.W.fnOf x qual (lw st) (aF st) (ao st) .none kV doc pm an cdv ct/\K.lookup f=some ⟨oc,od,.func fd,osl⟩/\PySem.W.codeIn K cdv qual=true
 kp:PySem.W.keepIn K (.ref f)=true
section
variable {P:Program} {w:World} {K:PySem.W.Frag} {mg:Str->Option Value} {base:Heap}
theorem Fun.binds{x qual:Str}{st:Stmt}{f:Addr}{fd:FuncData}{ps:List Str}(F:Fun K x qual st f fd)
  (h:∀(kV doc pm:Value)(an:Option Addr)(cdv ct:Value)(us:List Value),us.length=ps.length->bindArgs (PySem.W.fnOf x qual (lw st) (aF st) (ao st) .none kV doc pm an cdv ct) ⟨us,[]⟩=pure (ps.zip us)):Binds K fd ps []:=by
 obtain ⟨oc,od,kV,doc,pm,an,cdv,ct,osl,rfl,lk,hcd⟩:=F.ex;exact .all (h kV doc pm an cdv ct)
theorem W4{x qual:Str}{st:Stmt}{f:Addr}{oc:Value}{od an:Option Addr}{osl:Array (Option Value)}{kV doc pm cdv ct:Value}(l:K.lookup f=some ⟨oc,od,.func (PySem.W.fnOf x qual (lw st) (aF st) (ao st) .none kV doc pm an cdv ct),osl⟩)
  (c:PySem.W.codeIn K cdv qual=true) (k:PySem.W.keepIn K (.ref f)=true):Fun K x qual st f (PySem.W.fnOf x qual (lw st) (aF st) (ao st) .none kV doc pm an cdv ct):=⟨⟨oc,od,kV,doc,pm,an,cdv,ct,osl,rfl,l,c⟩,k⟩
end
section
variable {X:Cx}
theorem pv (i:Nat) {x:Str} {pos:Pos} (hN:X.N[i]?=some x:=by rfl) (hv:Vis X.env.scope x:=by first |exact Or.inl rfl |exact Or.inr (Or.inl rfl) |exact Or.inr (Or.inr rfl)) (hd:(x==("__debug__":Str))=false:=by decide)
  (hcd:(x==("__classdict__":Str))=false:=by decide):PE X (.Name x pos) (Aq i):=wk hN hv hd hcd
end
end L2
set_option maxHeartbeats 4000000
set_option bootstrap.genMatcherCode false
set_option genSizeOf false
set_option genSizeOfSpec false
namespace L2
open PySem PySem.Spec PyProof.Rows
section
variable {X:Cx} {pins:List (Addr×Obj)} {σ:St} {H:Hp} {s:Shared} {h':Heap}
theorem Inv.turnedL{t':Nat}{ch:List Addr}(I:Inv X pins σ H s)(hf:∀b∈ch,fD X pins H b)(k:∀b o,b∉ch->s.heap.get? b=some o->h'.get? b=some o):
  Inv X pins σ H { s with heap:=h',toks:=t' }:=by
 have nit:∀b u,H b=some u->b∉ch:=λb u e z=>by
  have q:=(hf b z).1;rw[q]at e;cases e
 refine I.step (g':=s.gens) (d':=s.drawn) (ch:=ch) (λb hb=>?_) (λb o _ _ hc e _=>k b o hc e) (λb o _ _ hc e _=>⟨o.slots,k b o hc e⟩) (λ_ _ _ _ n=>n)
  (λb o hc e=>⟨o,k b o hc e⟩) (λ_ _ e=>e) (λ_ _ _ e=>e) (λb ps e=>⟨#[],by rw[e];simp⟩) (λm hm=>?_) (λb u e=>?_) I.bare
 ·obtain ⟨_,f1,_,f3,f4,f5⟩:=hf b hb;exact ⟨f3,f1,f4,f5⟩
 ·obtain ⟨o,es,ep,ho,r⟩:=hm;exact ⟨o,es,ep,k _ o (λz=>(hf _ z).2.1 rfl) ho,r⟩
 ·refine (I.hok b u e).stay (λc v hc q=>k c v ?_ q) (λ_ q=>q) λ_ _ q=>q;rcases hc with z |z
  ·rw[z];exact nit b u e
  ·exact nit c _ z
theorem Inv.track{T:Addr}{o:HO}(I:Inv X pins σ H s)(hT:fD X pins H T)(new:ObjOk X.prog X.w (upd H T o) s.heap T o):Inv X pins σ (upd H T o) s:=by
 have hn:=hT.1;have hok:HOk X.prog X.w (upd H T o) s.heap:=λb u e=>by
  by_cases hb:b=T
  ·subst hb;rw[dh]at e;cases e;exact new
  ·rw[aK hb]at e;exact (I.hok b u e).stay (λc v _ q=>q) (λc q=>by rw[aK (bu q hn)];exact q) λc xs q=>by rw[aK (bu q hn)];exact q
 obtain ⟨hp,g,d,tk,os⟩:=s;refine I.step (h':=hp) (g':=g) (d':=d) (t':=tk) (ch:=[T]) (λb hb=>?_) (λb o _ _ _ e _=>e) (λb o _ _ _ e _=>⟨o.slots,e⟩) (λb u hc _ n=>?_)
  (λb o _ e=>⟨o,e⟩) (λb xs e=>by rw[aK (bu e hn)];exact e) (λb u v e=>by rw[aK (bu e hn)];exact e) (λb ps e=>⟨#[],by rw[aK (bu e hn),e];simp⟩) (λm hm=>hm) hok I.bare
 ·have e:b=T:=by simpa using hb
  subst e;obtain ⟨_,f1,_,f3,f4,f5⟩:=hT;exact ⟨f3,f1,f4,f5⟩
 ·rw[aK (by simpa using hc)];exact n
end
def Its(x:Str):It:=⟨λi _=>i < x.cps.size,λi H v H'=>H'=H/\∃c,x.cps[i]?=some c/\v=.str ⟨#[c]⟩,λi _=>i=x.cps.size⟩
theorem Ca{prog:Program}{w:World}{A:Around}(hh:A.handled=none)(I:Addr)(x:Str)(t:Tok):
  Walks prog w A I [I] [I] x.cps.size (SignAt x) (λi h=>h.IsStrIter I (strIterType x) x t i):=by
 unfold strIterType;split
 ·exact Walks.strAscii hh I x t
 ·exact Walks.strWide hh I x t
theorem wz{P:Program}{w:World}{K:PySem.W.Frag}{tg:Expr}(it:Addr)(x:Str)(t:Tok):Turn P w K tg (Its x) [it] it (λi h=>h.IsStrIter it (strIterType x) x t i) where
 mem:=by simp
 obj:=λi h st b hb=>by
  have e:b=it:=by simpa using hb
  subst e;obtain ⟨o,e,c,d⟩:=st;exact ⟨o,e,λv z=>by rw[d]at z;cases z⟩
 keep:=λi h h' st k=>let ⟨o,ho,r⟩:=st;⟨o,k it (by simp) o ho,r⟩
 item:=by intro X hP hw hK hc i pins s σ H E I hf st hg;subst hP hw hK;obtain ⟨f0,f1,f2,f3,f4,f5⟩:=hf it (by simp);have W:=Ca (prog:=X.prog) (w:=X.w) (I.ok.hd hc) it x t;refine W.item i s _ _ hg st λv h' tk hv st' kk=>?_;obtain ⟨c,u,e,rfl⟩:=hv;have I1:Inv X pins σ H { s with heap:=h',toks:=tk }:=I.turned (λb o hb e=>kk b o (by simpa using hb) e) f0 f1 f3 f4 f5;obtain ⟨o,eo,cc,d⟩:=id st';exact ⟨_,rfl,lr (s:={ s with heap:=h',toks:=tk }) (n:=strIterType x) eo cc d (by unfold strIterType;split <;> decide) ⟨.str ⟨#[c]⟩,H,I1,⟨u,rfl⟩,⟨rfl,c,e,rfl⟩,st',λb hb=>(hf b hb).1⟩⟩
 done:=by intro X hP hw hK hc i pins s σ H E I hf st hg;subst hP hw hK;obtain ⟨f0,f1,f2,f3,f4,f5⟩:=hf it (by simp);have W:=Ca (prog:=X.prog) (w:=X.w) (I.ok.hd hc) it x t;have hg':i=x.cps.size:=hg;subst hg';exact W.done s _ _ st λh' tk kk=>⟨rfl,I.turned (λb o hb e=>kk b o (by simpa using hb) e) f0 f1 f3 f4 f5⟩
 self:=λA i s Q E st h=>by
  unfold strIterType at st;split at st
  ·exact wpAny_pyIter_striter_ascii st h
  ·exact wpAny_pyIter_striter_wide st h
noncomputable def cF(env:Env):List (Str×NameKind)->List (Str×Addr)->List (Str×Addr)
 |[],cs=>cs
 | (n,k)::r,cs=>cF env r (if (k==.free)=true then (match env.cells.lookup n with |some c=>(n,c)::cs |none=>cs) else cs)
theorem Cd{env:Env}:∀{l:List (Str×NameKind)}{cs:List (Str×Addr)},(∀x c,cs.lookup x=some c->env.cells.lookup x=some c)->∀x c,(cF env l cs).lookup x=some c->env.cells.lookup x=some c
 |[],_,h,x,c,e=>h x c e
 | (n,k)::r,cs,h,x,c,e=>by
  refine Cd (l:=r) (cs:=_) ?_ x c e;intro y d q;by_cases hk:(k==NameKind.free)=true
  ·rw[if_pos hk]at q;cases hn:env.cells.lookup n with
   |none=>rw[hn]at q;exact h y d q
   |some c'=>
    rw[hn]at q;simp only[List.lookup_cons]at q;cases hy:y==n with
    |true=>
     rw[hy]at q;have e1:y=n:=eq_of_beq hy;rw[e1,hn];exact q
    |false=>rw[hy]at q;exact h y d q
  ·rw[if_neg hk]at q;exact h y d q
theorem Ce{env:Env}{x:Str}:∀{l:List (Str×NameKind)}{cs:List (Str×Addr)},(cs.lookup x).isSome=true->((cF env l cs).lookup x).isSome=true
 |[],_,h=>h
 | (n,k)::r,cs,h=>by
  refine Ce (l:=r) (cs:=_) ?_;by_cases hk:(k==NameKind.free)=true
  ·rw[if_pos hk];cases hn:env.cells.lookup n with
   |none=>exact h
   |some c'=>
    simp only[List.lookup_cons];cases hy:x==n with
    |true=>rfl
    |false=>exact h
  ·rw[if_neg hk];exact h
theorem Cg{env:Env}{x:Str}(hx:(env.cells.lookup x).isSome=true):∀{l:List (Str×NameKind)}{cs:List (Str×Addr)},(x,NameKind.free)∈l->((cF env l cs).lookup x).isSome=true
 | (n,k)::r,cs,h=>by
  rcases bn.mp h with e |h
  ·cases e;refine Ce (l:=r) (cs:=_) ?_;rw[if_pos (show (NameKind.free==NameKind.free)=true by decide)];obtain ⟨c,hc⟩:=cS.mp hx;rw[hc];simp
  ·exact Cg hx (l:=r) h
theorem Ci{scope:Scope}{env:Env}(h:∀y∈scope.names,y.2=NameKind.free->(env.cells.lookup y.1).isSome=true):closureFor scope env=pure (cF env scope.names []):=by
 simp only[closureFor];generalize ([]:List (Str×Addr))=cs;generalize scope.names=l at h;induction l generalizing cs with
 |nil=>rfl
 |cons y r ih=>
  obtain ⟨n,k⟩:=y;have ih':=λcs=>ih cs λy hy=>h y (b9 _ hy);rw[List.forIn_cons];by_cases hk:(k==NameKind.free)=true
  ·have hk':k=NameKind.free:=eq_of_beq hk;obtain ⟨c,hc⟩:=cS.mp (h (n,k) bS hk');have e1:cF env ((n,k)::r) cs=cF env r ((n,c)::cs):=by
    rw[cF,if_pos hk];show cF env r (match env.cells.lookup n with |some c=>(n,c)::cs |none=>cs)=_;have hc':env.cells.lookup n=some c:=hc;rw[hc']
   have e2:cellOf env n=pure c:=by unfold cellOf;have hc':env.cells.lookup n=some c:=hc;rw[hc']
   rw[e1,<-ih' ((n,c)::cs)];simp only[hk,if_true,e2];rfl
  ·have e1:cF env ((n,k)::r) cs=cF env r cs:=by rw[cF,if_neg hk]
   rw[e1,<-ih' cs];simp only[hk,if_false];rfl
theorem wA{env:Env}{x:Str}:∀{names:List (Str×NameKind)},
  (names.map λ(n,k)=>if (k==NameKind.free&&env.scope.kind==.function&&env.kindOf n==some .cell) then (n,NameKind.cell) else (n,k)).lookup x=
   (names.lookup x).map λk=>if (k==NameKind.free&&env.scope.kind==.function&&env.kindOf x==some .cell)=true then NameKind.cell else k
 |[]=>rfl
 | (n,k)::r=>by
  have ih:=@wA env x r;rw[b6];have hh:∀(c:Prop)[Decidable c],(if c then (n,NameKind.cell) else (n,k))=(n,if c then NameKind.cell else k):=λc _=>by split <;> rfl
  show List.lookup x ((if (k==NameKind.free&&env.scope.kind==.function&&env.kindOf n==some .cell)=true then (n,NameKind.cell) else (n,k))::_)=_;rw[hh];simp only[List.lookup_cons];cases hx:x==n with
  |true=>
   have e1:x=n:=eq_of_beq hx;subst e1;rfl
  |false=>exact ih
abbrev Cx.comp(X:Cx)(N':List Str)(scope:Scope)(cl:List (Str×Addr))(C:Addr)(s₁:Shared)(H₁:Hp)(fp:List Addr)(pn:List (Addr×Obj)):Cx where
 prog:=X.prog
 w:=X.w
 K:=X.K
 mg:=X.mg
 base:=X.base
 A:=X.A
 N:=N'
 s₀:=s₁
 H₀:=H₁
 env:=compEnvC scope cl C X.env
 outer:=X.stack
 stack:=X.stack
 ex:=fp
 fn:=λ_=>false
 calm:=X.calm
 pn:=pn
 xe:=λ_ _=>False
def PIf(X:Cx)(ifs:List Expr)(t:TT):Prop:=
 ∀(pins:List (Addr×Obj))(s:Shared)(σ:St)(H:Hp)(Q:Bool->Hp->Prop),Inv X pins σ H s->t σ H Q->
  wpAny (model X.prog X.w) X.A (forIn ifs true λc r=>if r=true then do let ok <-isTrue c X.env (eval c X.env);pure (ForInStep.yield ok) else pure (ForInStep.yield r)) (TP X pins σ Q) X.xe s
def W5:TT:=λ_ H Q=>Q true H
theorem W6{X:Cx}:PIf X [] W5:=λ_ _ _ H _ I h=>wpAny_tests_nil ⟨H,I,h⟩
theorem W7{X:Cx}{c:Expr}{t:TT}(h:PT X c t):PIf X [c] t:=λpins s σ H Q I q=>wpAny_tests_one (h pins s σ H Q I q)
def eN(cap:List (Option Nat))(σ:St):St:=cap.map λo=>match o with |none=>none |some j=>(σ[j]?).join
noncomputable def Caps(X:Cx)(scope:Scope):List Str->List (Option Nat)->Prop
 |[],[]=>True
 |_::N',none::cap=>Caps X scope N' cap
 |x::N',some j::cap=>(X.N[j]?=some x/\scope.names.lookup x=some NameKind.free)/\Caps X scope N' cap
 |_,_=>False
theorem Caps.len{X:Cx}{scope:Scope}:∀{N':List Str}{cap:List (Option Nat)},Caps X scope N' cap->cap.length=N'.length
 |[],[],_=>rfl
 |_::N',none::cap,h=>by
  have:=Caps.len (N':=N') (cap:=cap) h;simp[this]
 |_::N',some _::cap,h=>by
  have:=Caps.len (N':=N') (cap:=cap) h.2;simp[this]
 |[],_::_,h=>False.elim h
 |_::_,[],h=>False.elim h
theorem Caps.at{X:Cx}{scope:Scope}:∀{N':List Str}{cap:List (Option Nat)}{i:Nat}{x:Str}{v:V}{σ:St},Caps X scope N' cap->N'[i]?=some x->(eN cap σ)[i]?=some (some v)->
  ∃j:Nat,X.N[j]?=some x/\scope.names.lookup x=some NameKind.free/\σ[j]?=some (some v)
 |[],[],i,x,v,σ,_,e,_=>by simp at e
 |y::N',none::cap,0,x,v,σ,h,e,q=>by simp[eN]at q
 |y::N',some j::cap,0,x,v,σ,h,e,q=>by
  have e1:y=x:=by simpa using e
  subst e1;have q1:(σ[j]?).join=some v:=by simpa [eN] using q
  refine ⟨j,h.1.1,h.1.2,?_⟩;cases z:σ[j]? with
  |none=>rw[z]at q1;cases q1
  |some o=>rw[z]at q1;exact e7 some q1
 |y::N',none::cap,i+1,x,v,σ,h,e,q=>Caps.at (N':=N') (cap:=cap) (i:=i) h (by simpa using e) (by simpa [eN] using q)
 |y::N',some _::cap,i+1,x,v,σ,h,e,q=>Caps.at (N':=N') (cap:=cap) (i:=i) h.2 (by simpa using e) (by simpa [eN] using q)
 |[],_::_,_,_,_,_,h,_,_=>False.elim h
 |_::_,[],_,_,_,_,h,_,_=>False.elim h
def Cj(X:Cx)(N':List Str)(scope:Scope)(tg:Expr)(ifs:List Expr)(elt:Expr)(J:It)(σ0:St)(H1:Hp)(Q:VK):Prop:=
 ∃W:Nat->Nat->List V->St->Hp->Prop,(∃m,W 0 m [] σ0 H1)/\∀i m ys σ' H',W i m ys σ' H'->
  (J.stop i H'/\ys.length<=sizeLine/\∀D,H' D=none->Q (.ref D) (upd H' D (.lst ys)))\/
  (J.go i H'/\ys.length < sizeLine/\∀cl C s₁ H₁ fp pn,∃g tt te,PG (X.comp N' scope cl C s₁ H₁ fp pn) tg g/\PIf (X.comp N' scope cl C s₁ H₁ fp pn) ifs tt/\PE (X.comp N' scope cl C s₁ H₁ fp pn) elt te/\
   ∀x H2,J.yld i H' x H2->g x σ' H2 λσ3 H3=>tt σ3 H3 λb H4=>if b=true then te σ3 H4 λy H5=>∃m',m' < m/\W (i+1) m' (ys++[y]) σ3 H5 else ∃m',m' < m/\W (i+1) m' ys σ3 H4)
def wB(X:Cx)(N':List Str)(scope:Scope)(tg:Expr)(ifs:List Expr)(elt:Expr)(wi:TI)(cap:List (Option Nat)):TE:=λσ H Q=>wi σ H λJ H1=>Cj X N' scope tg ifs elt J (eN cap σ) H1 Q
section
variable {prog:Program} {w:World} {A:Around} {R:Result->Shared->Prop} {s:Shared}
theorem W8{elt target iter:Expr}{ifs:List Expr}{scope:Scope}{pos:Pos}{it acc:Value}{env:Env}(I:Nat->Shared->Prop)
  (turn:∀n s,I n s->wpAny (model prog w) A (pyNext it) (λr s₁=>match r with
   |none=>R (.ok .next) s₁
   |some v=>wpAny (model prog w) A (letOwnedTupleGo target it v) (λ_ s₁'=>wpAny (model prog w) A (assign target env v) (λ_ s₂=>
     wpAny (model prog w) A (forIn ifs true λc r=>if r=true then do let ok <-isTrue c env (eval c env);pure (ForInStep.yield ok) else pure (ForInStep.yield r)) (λok s₃=>
      if ok=true then wpAny (model prog w) A (eval elt env) (λx s₄=>
       wpAny (model prog w) A (call (.builtin "list.append") [acc,x]) (λ_ s₅=>∃m,m < n/\I m s₅) (λ_ _=>False) s₄) (λ_ _=>False) s₃
      else ∃m,m < n/\I m s₃) (λ_ _=>False) s₂) (λ_ _=>False) s₁') (λ_ _=>False) s₁) (λ_ _=>False) s)
  (n:Nat) (h:I n s):codeAny (model prog w) A (.compLoop (.ListComp elt [⟨target,iter,ifs,0⟩] scope pos) 0 it acc env) R s:=by
 refine codeAny_loop rfl I (λn s hI=>?_) n h;show wpAny _ A ((compTurn (.ListComp elt [⟨target,iter,ifs,0⟩] scope pos) 0 it acc env).onRaise (λx=>do noteFrame x env;theTreesLotGoes x)) _ _ s;refine wpAny_noted ?_;rw[compTurn_list];refine ag (wpAny_standAt (ag (cw (turn n s hI) (λr s₁ h₁=>?_) λ_ _ h'=>False.elim h')));cases r with
 |none=>exact a8 h₁
 |some v=>
  refine ag (cw h₁ (λ_ s₁' h₁'=>?_) λ_ _ h'=>False.elim h');refine ag (cw h₁' (λ_ s₂ h₂=>ag (cw h₂ (λok s₃ h₃=>?_) λ_ _ h'=>False.elim h')) λ_ _ h'=>False.elim h');cases ok with
  |false=>exact a8 ⟨rfl,h₃⟩
  |true=>
   exact ag (ag (cw h₃ (λx s₄ h₄=>ag (cw h₄ (λ_ s₅ h₅=>a8 (a8 ⟨rfl,h₅⟩)) λ_ _ h'=>False.elim h')) λ_ _ h'=>False.elim h'))
end
abbrev tx(l:List Nat):Str:=⟨l.toArray⟩
theorem bM(l:List Nat):(tx l).length=l.length:=by simp[Str.length]
theorem qQ(a b:List Nat):tx a++tx b=tx (a++b):=by show (⟨a.toArray++b.toArray⟩:Str)=⟨(a++b).toArray⟩;simp
theorem Ck{a b:List Nat}(h:tx a=tx b):a=b:=by have:=e7 (λx:Str=>x.cps.toList) h;simpa using this
theorem qR(x:Str):x=tx x.cps.toList:=by cases x;simp
section
variable {X:Cx}
theorem Cm:∀{ys:List Str}{us:List Value},Vals (ys.map V.str) us->StrsAre us ys
 |[],us,r=>by
  rw[d4]at r;cases r;exact .nil
 |y::ys,us,r=>by
  rw[b6]at r;cases r with
  |cons r1 r2=>
   obtain ⟨t,e⟩:=r1;subst e;exact .cons y t (Cm r2)
noncomputable def rJoin(K:PySem.W.Frag):V->List V->Hp->VK->Prop:=λx vs H Q=>∃z p ys,x=.str z/\vs=[.ref p]/\SqL K H p (ys.map V.str)/\(ys.map (·.length)).sum+ys.length * z.length<=16777216/\Q (.str (Str.join z ys)) H
theorem W9:MtR X "str.join" (rJoin X.K):=by intro pins s σ H x xs v us Q I rx rs h;obtain ⟨z,p,ys,rfl,rfl,hq,hb,q⟩:=h;obtain ⟨t,rfl⟩:=rx;obtain ⟨u,rfl,ru⟩:=vals1 rs;cases ru;obtain ⟨its,rv,pl,hz⟩:=I.list hq;refine join_list pl.isList (by simpa using Cm rv) hb λt' k=>⟨.str _,H,I.tok _,⟨_,rfl⟩,?_⟩;have e:Txt.join z ys=Str.join z ys:=StrLaws.glued_eq_join z ys;rw[e];exact q
noncomputable def Xa(K:PySem.W.Frag):List V->Hp->VK->Prop:=λxs H Q=>∃x n t b,xs=[x,.ty n]/\TyOf K H x t/\PySem.W.kitOne K t (.type n)=some b/\Q (.bl b) H
theorem Xb:bw X (.builtin "isinstance") (Xa X.K):=by intro pins s σ H xs us Q I r h;obtain ⟨x,n,t,b,rfl,ty,e,q⟩:=h;obtain ⟨u,w',rfl,rx,ry⟩:=vals2 r;cases ry;exact V4 I rx ty e λtk=>⟨.bl b,H,I.tok _,rfl,q⟩
theorem Xc:bootBuiltins "bool"=some (.type "bool"):=by decide +kernel
theorem Cp:bootBuiltins "int"=some (.type "int"):=by decide +kernel
theorem Cq:bootBuiltins "str"=some (.type "str"):=by decide +kernel
theorem wC:bootBuiltins "list"=some (.type "list"):=by decide +kernel
theorem Cr:bootBuiltins "isinstance"=some (.builtin "isinstance"):=by decide +kernel
theorem Cu {x:Str} {T:String} {pos:Pos} (hg:Gl X x) (hm:X.mg x=none) (hv:bootBuiltins x=some (.type T)) (hn:x≠"__name__":=by decide) (hd:(x==("__debug__":Str))=false:=by decide):PE X (.Name x pos) (tC (.ty T)):=
 Ug hg hm hv (v:=.ty T) rfl hn hd
theorem Xd:OpR X (binaryOp .Mult) (λx y H Q=>∃i n,x=.str i/\y=.int n/\MulOk i n/\Q (.str (Txt.mul i n)) H):=by intro pins s σ H x y v u Q I rx ry h;obtain ⟨i,n,rfl,rfl,hok,q⟩:=h;obtain ⟨t,rfl⟩:=rx;obtain ⟨t',rfl⟩:=ry;exact SB.mul hok λt' k=>⟨.str _,H,I.tok _,⟨_,rfl⟩,q⟩
end
def wD(X:Cx)(st:List Stmt)(t:TS):Prop:=
 ∀(pins:List (Addr×Obj))(s:Shared)(σ:St)(H:Hp)(D:Ends),1<=s.toks->Inv X pins σ H s->t D σ H->wpAny (model X.prog X.w) X.A (execs st X.env) (SP X pins D) X.xe s
def PE1(X:Cx)(e:Expr)(t:TE):Prop:=
 ∀(pins:List (Addr×Obj))(s:Shared)(σ:St)(H:Hp)(Q:VK),1<=s.toks->Inv X pins σ H s->t σ H Q->wpAny (model X.prog X.w) X.A (eval e X.env) (EP X pins σ Q) X.xe s
theorem Xe{X:Cx}{e:Expr}{te:TE}{pos:Pos}(he:PE1 X e te):wD X [.Return (some e) pos] (Az te):=by intro pins s σ H D h1 I h;refine wpAny_execs_cons (wpAny_Return_some (thn (he pins s σ H _ h1 I h) λv s1 ⟨x,H1,I1,r1,q1⟩=>?_));exact ⟨x,σ,H1,I1,r1,q1⟩
theorem wF{c d:Nat}:∀l:List Nat,c∉l->l.map (λa=>if a=c then d else a)=l
 |[],_=>rfl
 |a::r,h=>by
  have h1:a≠c:=λe=>h (by rw[e];exact bS);rw[b6,if_neg h1,wF r λz=>h (b9 _ z)]
theorem Cv(c d:Nat):∀parts:List Str,(∀p∈parts,c∉p.cps.toList)->(Str.join ⟨#[c]⟩ parts).cps.toList.map (λa=>if a=c then d else a)=(Str.join ⟨#[d]⟩ parts).cps.toList
 |[],_=>rfl
 |[x],h=>by
  simp only[Str.join];exact wF _ (h x bS)
 |x::y::r,h=>by
  have ih:=Cv c d (y::r) λp hp=>h p (b9 _ hp);have e:∀z:Str,Str.join z (x::y::r)=x++z++Str.join z (y::r):=λz=>by simp only[Str.join]
  have ap:∀u v:Str,(u++v).cps.toList=u.cps.toList++v.cps.toList:=λu v=>by
   show (u.cps++v.cps).toList=_;simp
  rw[e,e,ap,ap,ap,ap,dS,dS,ih,wF _ (h x bS)];simp
theorem Xf(l:List Nat)(c d:Nat):Txt.replace (tx l) (tx [c]) (tx [d])=tx (l.map λa=>if a=c then d else a):=by
 have e:(Txt.replace (tx l) ⟨#[c]⟩ ⟨#[d]⟩).cps.toList=l.map λa=>if a=c then d else a:=by rw[StrLaws.replace_one,<-Cv c d _ (StrLaws.split_free (tx l) c),StrLaws.join_split]
 rw[qR (Txt.replace (tx l) (tx [c]) (tx [d]))];exact e7 tx e
section
variable {X:Cx}
theorem Xg{o:Expr}{to:TE}{y z:Str}{ky kz:Nat}{py pz apos cpos:Pos}(ho:PE X o to)(hyz:(y==z)=false)
  (hbase:attributeBase o "replace" X.env (eval o X.env)=eval o X.env:=by rfl)
  (hfew:((backTo cpos (starEach [.Constant (.str y) ky py,.Constant (.str z) kz pz] X.env)).all (λx=>!x.1)&&(backToKw cpos (keywordEach [] X.env)).all (λx=>x.1.isSome)
  &&decide (([.Constant (.str y) ky py,.Constant (.str z) kz pz]:List Expr).length+([]:List Keyword).length+(if ([]:List Keyword).isEmpty then 0 else 1) < 30))=true:=by rfl)
  (hline:(apos.endLine==cpos.line)=true:=by rfl):
  PE1 X (.Call (.Attribute o "replace" apos) [.Constant (.str y) ky py,.Constant (.str z) kz pz] [] cpos)
   (λσ H Q=>to σ H λv H1=>∃x,v=.str x/\x.length+(x.length+1) * z.length<=16777216/\Q (.str (Txt.replace x y z)) H1):=by
 intro pins s σ H Q h1 I h;refine wpAny_Call_method_late hbase hfew hline rfl (cw (wpAny_toks_of (n:=1) h1 (ho pins s σ H _ I h)) (λv s1 h2=>?_) (λ_ _ e=>e.2));obtain ⟨t1,v',H1,I1,r1,x,e,hb,q⟩:=h2;subst e;obtain ⟨t,rfl⟩:=r1;refine ⟨"str","str.replace",F.plainAttrs_str,F.slot_str_replace,F.type_str_replace,typeIs_str _ _ _,(λ_ e=>nomatch e),?_⟩;refine Calls.callWith_builtin (by rfl) (Calls.evalArgs_plain ?_);show wpAny _ _ (spliced [(false,eval (.Constant (.str y) ky py) X.env),(false,eval (.Constant (.str z) kz pz) X.env)]) _ _ s1;refine Calls.spliced_cons (Calls.Constant_str (Calls.spliced_cons (Calls.Constant_str (Calls.spliced_nil ?_))));exact SC.replace (by show @Ne Nat s1.toks 0;omega) (by show @Ne Nat (s1.toks+1) 0;omega) (by show @Ne Nat s1.toks (s1.toks+1);omega) hyz hb λt' k=>⟨.str _,H1,I1.tok _,⟨_,rfl⟩,q⟩
end
theorem Xh{CX:CXT}{P:Program}{w:World}{K:PySem.W.Frag}{mg:Str->Option Value}{base:Heap}{k:Nat}{f:Addr}{name qual:Str}{params:Arguments}{body:List Stmt}{scope:Scope}{dV kV doc pm cdv ct oc:Value}{an od:Option Addr}
  {osl:Array (Option Value)} {N:List Str} {x:Str} {sp:Sp} (lk:K.lookup f=some ⟨oc,od,.func (PySem.W.fnOf name qual params body scope dV kV doc pm an cdv ct),osl⟩) (hcd:PySem.W.codeIn K cdv qual=true) (S:FnScope N [x] scope)
  (hx:scope.names.lookup x=some .local) (hnc:∀y∈scope.names,y.2≠NameKind.cell) (hcf:∀n,cellsFrom n scope.names []=[])
  (len:∀vs H Q E,sp vs H Q E->vs.length=[x].length)
  (hbody:∀(A:Around)(outer:List Env)(s:Shared)(H:Hp)(vs:List V)(Q:VK)(E:XK),Room k (A.deeper (envOfC qual scope s.heap.objs.size f cdv))->sp vs H Q E->
   ∃t,wD (cV CX P w K mg base N qual scope f cdv A outer s H E) body t/\t { nx:=λ_ H'=>Q .non H',rt:=Q } (start N vs) H):
  FnOk P w K mg base CX (k+1) f (PySem.W.fnOf name qual params body scope dV kV doc pm an cdv ct) [x] sp:=by
 refine ⟨len,λA outer s H args us vs Q E hr e0 hb r hsp=>?_⟩;have hl:=len _ _ _ _ hsp;have KX:K.In s.heap:=e0.mod.kin.keeps λb o e=>(e0.bs b o e).1;have lim:s.heap.NoLimit:=e0.mod.nolimit.keeps λb o e=>(e0.bs b o e).1;obtain ⟨u,rfl⟩:∃u,us=[u]:=by
  have h2:=r.length;rw[hl]at h2;match us,h2 with
  |[u],_=>exact ⟨u,rfl⟩
 refine codeAny_call_function hr.depth (KX _ _ lk) rfl S.co S.gen rfl (PySem.W.codeRec_of KX hcd) (hb _ _ _ _ ?_);refine wpAny_newFunctionEnv (binds:=[x].zip [u]) hnc (λy hy=>?_) (λh' hns hsb=>?_) S.kind
 ·have e:y=(x,u):=by simpa using hy
  rw[e];exact hx
 have envEq:newEnv scope s.heap.objs.size mainGlobals [] (qual++Str.ofString ".<locals>.") (some f) cdv none builtinsNs=envOfC qual scope s.heap.objs.size f cdv:=by unfold envOfC newEnv;rw[hcf]
 have kp:∀b o,s.heap.get? b=some o->h'.get? b=some o:=λb o e=>hsb.extBut b o (cq (ax e)) (al _ e);have mEq:bindL (envOfC qual scope s.heap.objs.size f cdv).kindOf ([x].zip [u]) (λ_=>none)=λy=>(([x].zip [u]).reverse).lookup y:=by
  funext y;have hk:(envOfC qual scope s.heap.objs.size f cdv).kindOf x=some .local:=hx;show bindL (envOfC qual scope s.heap.objs.size f cdv).kindOf [(x,u)] (λ_=>none) y=List.lookup y [(x,u)];unfold bindL;rw[if_pos hk];unfold bindL;by_cases hy:y=x
  ·subst hy;simp
  ·have:(y==x)=false:=by simpa using hy
   simp[hy,List.lookup_cons,this]
 have xx:InCallC s s.heap.objs.size (bindL (envOfC qual scope s.heap.objs.size f cdv).kindOf ([x].zip [u]) λ_=>none) (cellsFrom (s.heap.objs.size+1) scope.names []) (bindC (envOfC qual scope s.heap.objs.size f cdv).kindOf ([x].zip [u]) λ_=>none)
   { s with heap:=h',toks:=s.toks+([x].zip [u]).length }:=by
  rw[mEq,hcf];exact ⟨⟨⟨h',_,rfl⟩,hns,kp,aw _⟩,(λn c e=>by simp at e),List.Pairwise.nil,(λn c e=>nomatch e)⟩
 show _/\codeAny (model P w) A (.func body (newEnv scope s.heap.objs.size mainGlobals [] (qual++Str.ofString ".<locals>.") (some f) cdv none builtinsNs)) _ _;rw[envEq];refine ⟨lim.keeps kp,codeAny_func ?_⟩;obtain ⟨t,ht,hq⟩:=hbody A outer s H vs Q E (hr.deeper _) hsp;have I:Inv (cV CX P w K mg base N qual scope f cdv A outer s H E) [] (start N vs) H { s with heap:=h',toks:=s.toks+([x].zip [u]).length }:=Br S hr.hd e0 hl r xx;refine cw (ht [] _ (start N vs) H _ (Nat.le_add_left 1 s.toks) I hq) (λfl s' hs=>?_) λe s' hs=>hs;have fin:∀{σ':St}{H':Hp}{v:V}{u:Value},Inv (cV CX P w K mg base N qual scope f cdv A outer s H E) [] σ' H' s'->RelV v u->Q v H'->CE outer P w H s Q u s':=
  λ{σ' H' v u} J rv q=>⟨v,H',J.os,J.bare,J.base,J.hok,rv,q⟩
 cases fl with
 |ret u=>
  obtain ⟨v,σ',H',J,rv,q⟩:=hs;exact fin J rv q
 |next=>
  obtain ⟨σ',H',J,q⟩:=hs;exact fin (v:=V.non) (u:=Value.none) J rfl q
 |brk=>
  obtain ⟨_,_,_,q⟩:=hs;exact False.elim q
 |cont=>
  obtain ⟨_,_,_,q⟩:=hs;exact False.elim q
theorem Fun.ok1{P:Program}{w:World}{K:PySem.W.Frag}{mg:Str->Option Value}{base:Heap}{x qual:Str}{st:Stmt}{f:Addr}{fd:FuncData}{N:List Str}{y:Str}{k:Nat}{sp:Sp}(F:Fun K x qual st f fd)(S:FnScope N [y] (ao st))
  (hx:(ao st).names.lookup y=some .local) (hnc:∀z∈(ao st).names,z.2≠NameKind.cell) (hcf:∀n,cellsFrom n (ao st).names []=[]) (len:∀vs H Q E,sp vs H Q E->vs.length=[y].length)
  (hbody:∀(cdv:Value)(A:Around)(outer:List Env)(s:Shared)(H:Hp)(vs:List V)(Q:VK)(E:XK),Room k (A.deeper (envOfC qual (ao st) s.heap.objs.size f cdv))->sp vs H Q E->
   ∃t,wD (cV CX0 P w K mg base N qual (ao st) f cdv A outer s H E) (aF st) t/\t { nx:=λ_ H'=>Q .non H',rt:=Q } (start N vs) H):FnOk P w K mg base CX0 (k+1) f fd [y] sp:=by
 obtain ⟨oc,od,kV,doc,pm,an,cdv,ct,osl,rfl,lk,hcd⟩:=F.ex;exact Xh lk hcd S hx hnc hcf len λA outer s H vs Q E hr hsp=>hbody cdv A outer s H vs Q E hr hsp
open Builtin Builtin.Str
theorem Xi{prog:Program}{w:World}{A:Around}(hh:A.handled=none)(it:Addr)(x:Str)(t:Tok):
  Draws prog w A it [it] x.cps.size (λi v=>∃c u,x.cps[i]?=some c/\v=.str ⟨#[c]⟩ u) (λi h=>h.IsStrIter it (strIterType x) x t i):=by
 unfold strIterType;split
 ·exact Draws.strAscii hh it x t
 ·exact Draws.strWide hh it x t
structure ZApart(z TI TO i1 i2:Addr):Prop where
 TIz:TI≠z
 TOz:TO≠z
 i1z:i1≠z
 i2z:i2≠z
 TITO:TI≠TO
 TIi1:TI≠i1
 TIi2:TI≠i2
 TOi1:TO≠i1
 TOi2:TO≠i2
 i12:i1≠i2
section
variable {X:Cx}
theorem Cw:∀{bs:List Bool}{us:List Value}{i:Nat}{v:Value},Vals (bs.map V.bl) us->us[i]?=some v->∃b,bs[i]?=some b/\v=.bool b
 |[],us,i,v,r,e=>by
  rw[d4]at r;cases r;simp at e
 |b::bs,us,i,v,r,e=>by
  rw[b6]at r;cases r with
  |cons r1 r2=>
   cases i with
   |zero=>
    cases (show _=Value.bool b from r1);exact ⟨b,rfl,by simpa using e.symm⟩
   |succ i=>exact Cw (i:=i) r2 (by simpa using e)
theorem Xj:bootBuiltins "all"=some (.builtin "all"):=by decide +kernel
theorem Xk:bootBuiltins "zip"=some (.type "zip"):=by decide +kernel
theorem all_range(bs:List Bool)(n:Nat)(hn:n=bs.length):((List.range n).all λi=>(bs[i]?).getD true)=bs.all id:=by
 subst hn;rw[fv,bp,bp];constructor
 ·intro h b hb;obtain ⟨i,hi,e⟩:=List.mem_iff_getElem.mp hb;have:=h i (List.mem_range.mpr hi);rw[aS hi,e]at this;simpa using this
 ·intro h i hi;have hi':=List.mem_range.mp hi;rw[aS hi'];simpa using h _ (ck hi')
theorem Xl (hc:X.calm=true):bw X (.builtin "all") (λxs H Q=>∃(p:Addr) (bs:List Bool),xs=[.ref p]/\SqL X.K H p (bs.map V.bl)/\Q (.bl (bs.all id)) H):=by
 intro pins s σ H xs us Q I r h;obtain ⟨p,bs,rfl,hq,q⟩:=h;obtain ⟨u,rfl,ru⟩:=vals1 r;cases ru;obtain ⟨its,rv,pl,hz⟩:=I.list hq;have hl:=pl.isList;have hlt:p < s.heap.objs.size:=by obtain ⟨_,e,_⟩:=hl;exact ax e
 refine call_all_walk (wpAny_pyIter_list hl ?_);refine ⟨s.heap.objs.size,[s.heap.objs.size,p],[s.heap.objs.size],its.toArray.size,_,_,λi=>(bs[i]?).getD true,rfl,Walks.list (A:=X.A.in1) (I.ok.hd hc) _ p (cq hlt) its.toArray,
  ⟨⟨_,bd _ rfl,rfl,rfl⟩,hl.push _⟩,λi v s' Q' E' hP hQ=>?_,λh' tk hk=>?_⟩
 ·obtain ⟨b,e,rfl⟩:=Cw rv (i:=i) (v:=v) (by simpa using hP);simp only[e,Option.getD_some]at hQ;exact ey hQ
 ·have e:=all_range bs its.toArray.size (by rw[am,<-rv.length,ah]);rw[e];exact ⟨.bl _,H,I.kept (λb o q=>hk b o (λhm=>by rw[ba.mp hm]at q;exact d3 _ (ax q)) (al _ q)),rfl,q⟩
theorem Xm:OpR X (compareOp .Is) (λx y H Q=>∃i j,x=.bl i/\y=.bl j/\Q (.bl (i==j)) H):=by intro pins s σ H x y v u Q I rx ry h;obtain ⟨i,j,rfl,rfl,q⟩:=h;cases rx;cases ry;exact is_bool ⟨.bl _,H,I,rfl,q⟩
theorem Xo:bw X (.type "int") (λxs H Q=>∃z n,xs=[.str z]/\PySem.intText? z=some n/\z.length<=640/\Q (.int n) H):=by intro pins s σ H xs us Q I r h;obtain ⟨z,n,rfl,hn,hl,q⟩:=h;obtain ⟨u,rfl,t,rfl⟩:=vals1 r;exact PySem.W.KIN.call_text hn hl ⟨.int n,H,I.tok _,⟨_,rfl⟩,q⟩
noncomputable def Xp:V->Option Int->Option Int->Hp->VK->Prop:=λx lo hi H Q=>∃z,x=.str z/\z.length<=sizeLine/\Q (.str (Txt.slice z lo hi)) H
theorem Xq:SlR X Xp:=by
 intro pins s σ H x v vl vu lo hi sl Q I rx hs pl pu h;obtain ⟨z,rfl,hz,q⟩:=h;obtain ⟨t,rfl⟩:=rx;refine ⟨"str",_,slot_str_getitem.lookup,typeIs_str _ _ _,?_⟩;obtain ⟨l,el,e1⟩:∃l:Option (Int×Tok),vl=partValue l/\l.map (·.1)=lo:=by
  cases pl with
  |none=>exact ⟨none,rfl,rfl⟩
  |int i t=>exact ⟨some (i,t),rfl,rfl⟩
 obtain ⟨u,eu,e2⟩:∃u:Option (Int×Tok),vu=partValue u/\u.map (·.1)=hi:=by
  cases pu with
  |none=>exact ⟨none,rfl,rfl⟩
  |int i t=>exact ⟨some (i,t),rfl,rfl⟩
 subst el eu e1 e2;refine wpAny_getItem_str_slice (l:=l) (u:=u) (st:=none) hs rfl ?_;unfold sliceMade;unfold Txt.slice at q;show (if ((1:Int)==1&&(slicePicked z l u none).length==z.length)=true then Made.val (.str z t) else Made.str ⟨((slicePicked z l u none).filterMap (z.cps[·]?)).toArray⟩).post _ _;have ep:slicePicked z l u none=Builtin.Str.strSliceIndices (l.map (·.1)) (u.map (·.1)) 1 z.length:=rfl;rw[ep];by_cases hc:((1:Int)==1&&(Builtin.Str.strSliceIndices (l.map (·.1)) (u.map (·.1)) 1 z.length).length==z.length)=true
 ·rw[if_pos hc]at q ⊢;exact ⟨.str z,H,I,⟨t,rfl⟩,q⟩
 ·rw[if_neg hc]at q ⊢;refine ⟨?_,⟨.str _,H,I.tok _,⟨_,rfl⟩,q⟩⟩;show (List.filterMap _ _).toArray.size<=sizeLine;rw[am];have h1:=sliceIndices_le (l.map (·.1)) (u.map (·.1)) z.length;have h2:=List.length_filterMap_le (λx=>z.cps[x]?) (Builtin.Str.strSliceIndices (l.map (·.1)) (u.map (·.1)) 1 z.length);omega
end
theorem Cy{X:Cx}{elt tg iter:Expr}{ifs:List Expr}{scope:Scope}{pos:Pos}{wi:TI}{pins:List (Addr×Obj)}{s:Shared}{σ:St}{H:Hp}{Q:VK}{RR:Value->Addr->Result->Shared->Prop}(N':List Str)(cap:List (Option Nat))(hc:X.calm=true)(hi:PI X tg iter wi)(hcap:Caps X scope N' cap)
  (hcell:scope.names.all (λy=>y.2 != NameKind.cell)=true)
  (hfr:scope.names.all (λy=>y.2 != NameKind.free||(X.env.kindOf y.1==some NameKind.cell||X.env.kindOf y.1==some NameKind.free))=true)
  (hkind:scope.kind=.function) (I:Inv X pins σ H s) (h:wB X N' scope tg ifs elt wi cap σ H Q)
  (fin:∀(D C:Addr)(H':Hp)(s4:Shared)(m:Str->Option Value),Inv X pins σ H' s4->Q (.ref D) H'->s4.heap.Ns C m->fD X pins H' C->RR (.ref D) C (.ok .next) s4):
  wpAny (model X.prog X.w) X.A (eval iter X.env) (λx s₁=>wpAny (model X.prog X.w) X.A (pyIter x) (λit s₂=>wpAny (model X.prog X.w) X.A (newList []) (λacc s₃=>
   wpAny (model X.prog X.w) X.A (newFunctionEnv scope X.env.globals (cF X.env scope.names []) [] X.env.qual none .none (some X.env)) (λcenv s₄=>
    codeAny (model X.prog X.w) X.A (.compStart (.ListComp elt [⟨tg,iter,ifs,0⟩] scope pos) 0 it acc { cenv with scope:=relabel scope X.env }) (RR acc cenv.locals) s₄) X.xe s₃) X.xe s₂) X.xe s₁) X.xe s:=by
 have hcell':∀y∈scope.names,y.2≠NameKind.cell:=λy hy=>by
  have:=bp.mp hcell y hy;simpa using this
 have hfr':∀y∈scope.names,y.2=NameKind.free->(X.env.kindOf y.1=some NameKind.cell\/X.env.kindOf y.1=some NameKind.free):=λy hy hl=>by
  have:=bp.mp hfr y hy;simpa [hl] using this
 have hcs:∀y∈scope.names,y.2=NameKind.free->(X.env.cells.lookup y.1).isSome=true:=λy hy hl=>by
  obtain ⟨c,e⟩:=I.ok.has y.1 (hfr' y hy hl);rw[e];rfl
 have clsub:∀x c,(cF X.env scope.names []).lookup x=some c->X.env.cells.lookup x=some c:=Cd (λx c e=>by simp at e);have clhas:∀x,scope.names.lookup x=some NameKind.free->∃c,(cF X.env scope.names []).lookup x=some c:=λx e=>by
  have hm:=dQ e;exact cS.mp (Cg (hcs _ hm rfl) hm)
 have rel:∀x,(relabel scope X.env).names.lookup x=(scope.names.lookup x).map λk=>if (k==NameKind.free&&X.env.scope.kind==.function&&X.env.kindOf x==some .cell)=true then NameKind.cell else k:=λx=>wA
 have relfree:∀x,((relabel scope X.env).names.lookup x=some NameKind.cell\/(relabel scope X.env).names.lookup x=some NameKind.free)->scope.names.lookup x=some NameKind.free:=λx e=>by
  rw[rel x]at e;cases z:scope.names.lookup x with
  |none=>rw[z]at e;rcases e with e |e <;> cases e
  |some k=>
   have nk:=hcell' _ (dQ z);rw[z]at e;cases k with
   |free=>rfl
   |cell=>exact absurd rfl nk
   | «local»=>rcases e with e |e <;> simp[show (NameKind.«local»==NameKind.free)=false by decide]at e
   |globalExplicit=>rcases e with e |e <;> simp[show (NameKind.globalExplicit==NameKind.free)=false by decide]at e
   |globalImplicit=>rcases e with e |e <;> simp[show (NameKind.globalImplicit==NameKind.free)=false by decide]at e
 generalize hcl:cF X.env scope.names []=cl at clsub clhas;refine thn (hi pins s σ H _ I h) λxv s0 h0=>thn h0 λitv s2 h2=>?_;obtain ⟨it,fp,tn,J,H2,e,I2,T,st2,f2,W,⟨m0,w0⟩,turn⟩:=h2;subst e;refine wpAny_newObj_type (wpAny_newFunctionEnv hcell' (by intro y hy;simp at hy) (λh₁ hns₁ hsb₁=>?_) hkind);dsimp only at hns₁ hsb₁ ⊢;generalize hH2:s2.heap.push { cls:=.type "list",dict:=none,data:=.seq ([]:List Value).toArray }=HP at hns₁ hsb₁ ⊢;have hC:HP.objs.size=s2.heap.objs.size+1:=by rw[<-hH2,eh]
 have hDC:s2.heap.objs.size≠HP.objs.size:=by rw[hC];exact cq (Nat.lt_succ_self _)
 have below:∀b,b < s2.heap.objs.size->b≠HP.objs.size/\b≠s2.heap.objs.size:=λb hb=>⟨by rw[hC];exact cq (Nat.lt_succ_of_lt hb),cq hb⟩;have old:∀b o,s2.heap.get? b=some o->h₁.get? b=some o:=λb o e=>hsb₁.extBut b o (below b (ax e)).1 (al _ (hH2 ▸ al _ e));have hacc:h₁.get? s2.heap.objs.size=some { cls:=.type "list",data:=.seq ([]:List Value).toArray 0 }:=hsb₁.extBut _ _ hDC (al _ (hH2 ▸ bd _ rfl));have hst₁:tn 0 h₁:=T.keep _ _ _ st2 λb _ o e=>old b o e;have fplt:∀b∈fp,b < s2.heap.objs.size:=λb hb=>by
  obtain ⟨o,e,_⟩:=T.obj _ _ st2 b hb;exact ax e
 have fslt:∀b∈frs X.stack,b < s2.heap.objs.size:=λb hb=>by
  obtain ⟨_,o,e,_⟩:=I2.stack.mem hb;exact ax e
 have celllt:∀x c,cl.lookup x=some c->c < s2.heap.objs.size:=λx c e=>by
  obtain ⟨v,q⟩:=I2.cell x c (clsub x c e);exact q.lt
 have hDf:H2 s2.heap.objs.size=none:=I2.hok.fresh (aw _);have hCf:H2 HP.objs.size=none:=I2.hok.fresh (by rw[hC];exact Nat.le_succ _);have nofs:∀b∈fp,b∉frs X.stack:=λb hb z=>by
  obtain ⟨_,f1,f2',_⟩:=f2 b hb;rcases bn.mp (I2.stkSub b z) with e |e
  ·exact f1 e
  ·exact f2' e
 have ok':(X.comp N' scope cl HP.objs.size s2 H2 fp (X.pn++pins)).Ok:=
  ⟨I2.ok.mod,hkind,I2.ok.glob,I2.ok.blt,(by show s2.heap.objs.size<=HP.objs.size;rw[hC];exact Nat.le_succ _),
   λx y c e1 e2=>I2.ok.inj x y c (clsub x c e1) (clsub y c e2),λx hx=>clhas x (relfree x hx),λx c hf _=>(by cases hf),I2.ok.hd,I2.ok.frames,.inl rfl,
   λb hb=>⟨(below b (fplt b hb)).1,λx c e=>(f2 b hb).2.2.2.2.1 x c (clsub x c e)⟩,I2.bs,c9 I2.ok.bsz I2.sz,
   λb o e hb=>(by
    rcases (f2 b hb).2.2.2.1 with z |z
    ·exact I2.ok.noex b o e z
    ·exact absurd (bi (ax e) (c9 I2.ok.bsz z)) (d3 _)),
   nofs,I2.stack,I2.stkFree⟩
 have pnOk:∀p∈X.pn++pins,p.1 < s2.heap.objs.size/\p.1∉frs X.stack:=λp hp=>by
  obtain ⟨e,_,n1,n2,_⟩:=I2.pin p hp;refine ⟨ax e,λz=>?_⟩;rcases bn.mp (I2.stkSub _ z) with e |e
  ·exact n1 e
  ·exact n2 e
 have I0:∀t,Inv (X.comp N' scope cl HP.objs.size s2 H2 fp (X.pn++pins)) [(s2.heap.objs.size,{ cls:=.type "list",data:=.seq ([]:List Value).toArray 0 })] (eN cap σ) H2 { s2 with heap:=h₁,toks:=t }:=λt=>
  ⟨ok',rfl,I2.bare,Un.kept old,⟨_,hns₁,λi x v e1 e2 _=>by
    obtain ⟨j,nj,fr,sj⟩:=hcap.at e1 e2;obtain ⟨m,_,hl⟩:=I2.loc;have hk:=hfr' (x,NameKind.free) (dQ fr) rfl;obtain ⟨u,r,l⟩:=hl j x v nj sj (by rcases hk with hk |hk;exact .inr (.inl hk);exact .inr (.inr hk));refine ⟨u,r,.inr ⟨?_,?_⟩⟩
    ·show (relabel scope X.env).names.lookup x=some .cell\/(relabel scope X.env).names.lookup x=some .free;rw[rel x,fr,Option.map_some];by_cases hh:(NameKind.free==NameKind.free&&X.env.scope.kind==ScopeKind.function&&X.env.kindOf x==some NameKind.cell)=true
     ·exact .inl (by rw[if_pos hh])
     ·exact .inr (by rw[if_neg hh])
    ·obtain ⟨c,ec⟩:=clhas x fr;have ec':=clsub x c ec;rcases l with ⟨k1,_⟩ |⟨_,c',e',q⟩
     ·rcases hk with hk |hk <;> (rw[hk]at k1;cases k1)
     ·have ecc:X.env.cells.lookup x=some c:=ec';rw[e']at ecc;cases ecc;obtain ⟨o,ho,hd⟩:=q;exact ⟨_,ec,o,old _ _ ho,hd⟩⟩,
   λx c e=>(by obtain ⟨v,o,ho,hd⟩:=I2.cell x c (clsub x c e);exact ⟨v,o,old _ _ ho,hd⟩),hCf,λx c e=>I2.freeC x c (clsub x c e),
   λp hp=>by
    rcases bb.mp hp with z |z
    ·obtain ⟨e,n0,_,_,d⟩:=I2.pin p z;exact ⟨old _ _ e,n0,(below _ (pnOk p z).1).1,(pnOk p z).2,d⟩
    ·have e:p=_:=ba.mp z;subst e;exact ⟨hacc,hDf,hDC,λz=>absurd (fslt _ z) (d3 _),λv z=>by have z':Data.seq _ _=Data.cell v:=z;cases z'⟩,
   I2.hok.kept old,by show (eN cap σ).length=N'.length;unfold eN;rw[ah];exact hcap.len⟩
 have fpok:∀{H':Hp}{o:Obj},(∀b∈fp,H' b=none)->∀b∈fp,fD (X.comp N' scope cl HP.objs.size s2 H2 fp (X.pn++pins)) [(s2.heap.objs.size,o)] H' b:=λhn b hb=>
  ⟨hn b hb,(below b (fplt b hb)).1,nofs b hb,.inl hb,λx c e=>(f2 b hb).2.2.2.2.1 x c (clsub x c e),λp hp=>by
   rcases bb.mp hp with z |z
   ·exact (f2 b hb).2.2.2.2.2 p z
   ·have e:p=_:=ba.mp z;subst e;exact Ne.symm (below b (fplt b hb)).2⟩
 have loop:∀s₃:Shared,s₃={ s2 with heap:=h₁,toks:=s2.toks+([]:List (Str×Value)).length }->
   codeAny (model X.prog X.w) X.A (.compLoop (.ListComp elt [⟨tg,iter,ifs,0⟩] scope pos) 0 (.ref it) (.ref s2.heap.objs.size) (compEnvC scope cl HP.objs.size X.env))
    (RR (.ref s2.heap.objs.size) HP.objs.size) s₃:=by
  rintro s₃ rfl;refine W8
   (λk s'=>∃(i:Nat) (ys:List V) (its:List Value) (n:Nat) (σ':St) (H':Hp),Inv (X.comp N' scope cl HP.objs.size s2 H2 fp (X.pn++pins)) [(s2.heap.objs.size,{ cls:=.type "list",data:=.seq its.toArray n })] σ' H' s'/\Vals ys its/\
    tn i s'.heap/\(∀b∈fp,H' b=none)/\W i k ys σ' H') ?_ m0 ⟨0,[],[],0,_,H2,I0 _,.nil,hst₁,λb hb=>(f2 b hb).1,w0⟩
  rintro k s3 ⟨i,ys,its,n,σ3,H3,I3,rv3,st3,fr3,w3⟩;rcases turn i k ys σ3 H3 w3 with ⟨stop,hz,qn⟩ |⟨go,hz,step⟩
  ·refine thn (T.done (X.comp N' scope cl HP.objs.size s2 H2 fp (X.pn++pins)) rfl rfl rfl hc i _ s3 σ3 H3 _ I3 (fpok fr3) st3 stop) λr s4 ⟨hr,I4⟩=>?_;subst hr;obtain ⟨m,hn,_⟩:=I4.loc;obtain ⟨pD,nD,_,_,_⟩:=I4.pin (s2.heap.objs.size,{ cls:=.type "list",data:=.seq its.toArray n }) (bq _ (ba.mpr rfl));have nC:H3 HP.objs.size=none:=I4.free;have u:Un (frs X.stack) fp H2 H3 s2.heap s4.heap:=I4.base;refine fin s2.heap.objs.size HP.objs.size (upd H3 s2.heap.objs.size (.lst ys)) s4 m ?_ (qn _ nD) hn ?_
   ·refine I2.call' (s':=s4) (ch:=fp) I4.os ?_ ?_ I4.bare λb hb=>⟨(f2 b hb).2.2.2.1,(f2 b hb).2.1,(f2 b hb).2.2.2.2.1,(f2 b hb).2.2.2.2.2⟩
    ·refine ⟨λb o e n0 hb hx=>u.keep b o e n0 hb hx,λb o e n0 hb hx=>u.slot b o e n0 hb hx,λb o e n0 hx=>?_,λb o e hx=>u.there b o e hx,λb xs e=>?_,λb o v e=>?_,λb ps e=>?_⟩
     ·rw[aK (below b (ax e)).2];exact u.free b o e n0 hx
     ·rw[aK (bu e hDf)];exact u.tups b xs e
     ·rw[aK (bu e hDf)];exact u.frzs b o v e
     ·rw[aK (bu e hDf)];exact u.tbls b ps e
    ·intro b o e;by_cases hb:b=s2.heap.objs.size
     ·subst hb;rw[dh]at e;cases e;exact ⟨hz,its,n,rv3,pD⟩
     ·rw[aK hb]at e;exact (I4.hok b o e).stay (λc v _ q=>q) (λc q=>by rw[aK (bu q nD)];exact q) λc xs q=>by rw[aK (bu q nD)];exact q
   ·have hle:s2.heap.objs.size<=HP.objs.size:=by rw[hC];exact Nat.le_succ _
    exact I2.fpOk hle (by rw[aK (Ne.symm hDC)];exact nC)
  ·refine thn (T.item (X.comp N' scope cl HP.objs.size s2 H2 fp (X.pn++pins)) rfl rfl rfl hc i _ s3 σ3 H3 _ I3 (fpok fr3) st3 go) λr s4 ⟨u,hr,h4⟩=>?_;subst hr;refine thn h4 λ_ s5 ⟨x,H5,I5,r5,y5,st5,fr5⟩=>?_;obtain ⟨g,tt,te,hg,ht,he,body⟩:=step cl HP.objs.size s2 H2 fp (X.pn++pins);have I5':=I5.pinned (fpok fr5) (T.obj _ _ st5);have tail:∀{σ7:St}{H7:Hp}{s7:Shared}{po:Obj},Inv (X.comp N' scope cl HP.objs.size s2 H2 fp (X.pn++pins)) ([(s2.heap.objs.size,po)]++lu fp s5.heap) σ7 H7 s7->tn (i+1) s7.heap/\∀b∈fp,H7 b=none:=λ{σ7 H7 s7 po} I7=>by
    refine ⟨T.keep _ _ _ st5 λb hb o e=>(I7.pin (b,o) (bq _ (bq _ (qM hb e)))).1,λb hb=>?_⟩;obtain ⟨o,e,d⟩:=T.obj _ _ st5 b hb;exact (I7.pin (b,o) (bq _ (bq _ (qM hb e)))).2.1
   refine thn (hg _ s5 σ3 H5 x u _ I5' r5 (body x H5 y5)) λ_ s6 ⟨σ6,H6,I6,q6⟩=>?_;refine thn (ht _ s6 σ6 H6 _ I6 q6) λok s7 ⟨H7,I7,q7⟩=>?_;cases ok with
   |false=>
    obtain ⟨m',hm,w7⟩:=q7;obtain ⟨t7,n7⟩:=tail I7;exact ⟨m',hm,i+1,ys,its,n,σ6,H7,I7.unpinned,rv3,t7,n7,w7⟩
   |true=>
    refine thn (he _ s7 σ6 H7 _ I7 q7) λv s8 ⟨y,H8,I8,r8,m',hm,w8⟩=>?_;obtain ⟨t8,n8⟩:=tail I8;obtain ⟨pD,nD,_,_,_⟩:=I8.pin (s2.heap.objs.size,{ cls:=.type "list",data:=.seq its.toArray n }) (bq _ (dk _ (ba.mpr rfl)));have hl:=rv3.length;refine append_at (hsz:=by rw[am];omega) pD λh9 hs9 hD9=>?_;have I8a:Inv (X.comp N' scope cl HP.objs.size s2 H2 fp (X.pn++pins)) [] σ6 H8 s8:=I8.pins_of λp hp=>nomatch hp;have I9:Inv (X.comp N' scope cl HP.objs.size s2 H2 fp (X.pn++pins)) [] σ6 H8 { s8 with heap:=h9 }:=I8a.turned (t':=s8.toks) (it:=s2.heap.objs.size) (λb o hb e=>hs9.extBut b o hb e) nD hDC (.inr (aw _))
     (λx c e z=>absurd (celllt x c e) (by rw[z];exact d3 _)) (λp hp z=>by
      rcases bb.mp hp with hp |hp
      ·exact absurd (pnOk p hp).1 (by rw[z];exact d3 _)
      ·exact nomatch hp)
    have hD9':h9.get? s2.heap.objs.size=some { cls:=.type "list",data:=.seq (its++[v]).toArray (n+1) }:=by rw[hD9,List.push_toArray]
    refine ⟨m',hm,i+1,ys++[y],its++[v],n+1,σ6,H8,I9.pins_of λp hp=>?_,rv3.append (.cons r8 .nil),T.keep _ _ _ t8 λb hb o e=>hs9.extBut b o (below b (fplt b hb)).2 e,n8,w8⟩;have e:p=_:=ba.mp hp;subst e;exact ⟨hD9',nD,hDC,λz=>absurd (fslt _ z) (d3 _),λv z=>by have z':Data.seq _ _=Data.cell v:=z;cases z'⟩
 exact codeAny_compStart_list (loop _ rfl) (T.self X.A 0 _ _ _ hst₁ (loop _ rfl))
theorem Xr{X:Cx}{elt tg iter:Expr}{ifs:List Expr}{scope:Scope}{pos:Pos}{wi:TI}(N':List Str)(cap:List (Option Nat))(hc:X.calm=true)(hi:PI X tg iter wi)(hcap:Caps X scope N' cap)
  (hcell:scope.names.all (λy=>y.2 != NameKind.cell)=true) (hnames:scope.names.all (λy=>y.2 != NameKind.local||scope.names.lookup y.1==some NameKind.local)=true)
  (hfr:scope.names.all (λy=>y.2 != NameKind.free||(X.env.kindOf y.1==some NameKind.cell||X.env.kindOf y.1==some NameKind.free))=true)
  (hkind:scope.kind=.function) (hs:∀x,foldedSetIterable iter X.env x=pure x):
  PE X (.ListComp elt [⟨tg,iter,ifs,0⟩] scope pos) (wB X N' scope tg ifs elt wi cap):=by
 intro pins s σ H Q I h;have hnames':∀y∈scope.names,y.2=NameKind.local->scope.names.lookup y.1=some NameKind.local:=λy hy hl=>by
  have:=bp.mp hnames y hy;simpa [hl] using this
 have hcs:∀y∈scope.names,y.2=NameKind.free->(X.env.cells.lookup y.1).isSome=true:=λy hy hl=>by
  have:=bp.mp hfr y hy;obtain ⟨c,e⟩:=I.ok.has y.1 (by simpa [hl] using this);rw[e];rfl
 rw[eval_ListComp];refine wpAny_comprehension_free (use:=none) (Q:=EP X pins σ Q) rfl hs (Ci hcs) hkind hnames'
  (Cy (RR:=λacc C=>compPost (model X.prog X.w) X.A X.xe none (EP X pins σ Q) acc C) N' cap hc hi hcap hcell hfr hkind I h λL C H' s4 m I4 q hn fC=>?_)
 obtain ⟨f0,f1,f2,f3,f4,f5⟩:=fC;exact ⟨m,hn,λh' hs'=>⟨.ref L,H',I4.turned (t':=s4.toks) (it:=C) (λb o hb e=>hs'.extBut b o hb e) f0 f1 f3 f4 f5,rfl,q⟩⟩
theorem Xu{X:Cx}{elt tg iter:Expr}{ifs:List Expr}{scope:Scope}{pos py spos:Pos}{wi:TI}{i:Nat}{y:Str}(hN:X.N.Nodup)(hiy:X.N[i]?=some y)(hy:Loc X.env.scope y)(N':List Str)(cap:List (Option Nat))(hc:X.calm=true)(hi:PI X tg iter wi)(hcap:Caps X scope N' cap)
  (hcell:scope.names.all (λy=>y.2 != NameKind.cell)=true:=by rfl) (hnames:scope.names.all (λy=>y.2 != NameKind.local||scope.names.lookup y.1==some NameKind.local)=true:=by rfl)
  (hfr:scope.names.all (λy=>y.2 != NameKind.free||(X.env.kindOf y.1==some NameKind.cell||X.env.kindOf y.1==some NameKind.free))=true:=by rfl)
  (hkind:scope.kind=.function:=by rfl) (hs:∀x,foldedSetIterable iter X.env x=pure x:=by intro _;rfl)
  (hsw:swapsWith (.ListComp elt [⟨tg,iter,ifs,0⟩] scope pos) (some (.Name y py)) spos.line X.env=pure true:=by rfl)
  (hf:X.fn y=true\/X.env.scope.names.lookup y=some .local:=by first |exact .inl rfl |exact .inr rfl |assumption):
  PS X (.Assign [.Name y py] (.ListComp elt [⟨tg,iter,ifs,0⟩] scope pos) spos) (qK (wB X N' scope tg ifs elt wi cap) (qJ i)):=by
 intro pins s σ H D I h;have hnames':∀y∈scope.names,y.2=NameKind.local->scope.names.lookup y.1=some NameKind.local:=λy hy hl=>by
  have:=bp.mp hnames y hy;simpa [hl] using this
 have hcs:∀y∈scope.names,y.2=NameKind.free->(X.env.cells.lookup y.1).isSome=true:=λy hy hl=>by
  have:=bp.mp hfr y hy;obtain ⟨c,e⟩:=I.ok.has y.1 (by simpa [hl] using this);rw[e];rfl
 rw[exec_Assign_Name_used _ _ _ _ hsw];refine ag (wpAny_standAt (ag ?_));show wpAny _ X.A (do let _ <-comprehension (.ListComp elt [⟨tg,iter,ifs,0⟩] scope pos) scope X.env _ (newList []) false (eval iter X.env) (some (assign (.Name y py) X.env))) _ _ s;refine ag (cw (wpAny_comprehension_free (use:=some (assign (.Name y py) X.env)) (Q:=λ_ s'=>SP X pins D .next s') rfl hs (Ci hcs) hkind hnames'
  (Cy (RR:=λacc C=>compPost (model X.prog X.w) X.A X.xe (some (assign (.Name y py) X.env)) (λ_ s'=>SP X pins D .next s') acc C) N' cap hc hi hcap hcell hfr hkind I h λL C H' s4 m I4 q hn fC=>?_)) (λ_ s' hq=>a8 (a8 hq)) λ_ _ e=>e)
 obtain ⟨oC,es,ep,eC,rC⟩:=id hn;obtain ⟨f0,f1,f2,f3,f4,f5⟩:=fC;have ncell:∀v,oC.data≠.cell v:=λv z=>by rw[rC.1]at z;cases z
 have I5:Inv X (pins++[(C,oC)]) σ H' s4:=I4.pins_of λp hp=>by
  rcases bb.mp hp with z |z
  ·exact I4.pin p (bq _ z)
  ·have e:p=_:=ba.mp z;subst e;exact ⟨eC,f0,f1,f2,ncell⟩
 refine wpAny_assign_Name (lg I5 hN hiy hy (v:=.ref L) (u:=.ref L) rfl (λs5 I6=>?_) hf);have eC5:s5.heap.get? C=some oC:=(I6.pin (C,oC) (bq _ (bq _ (ba.mpr rfl)))).1;have I7:Inv X pins (σ.set i (some (.ref L))) H' s5:=I6.pins_of λp hp=>I6.pin p (bq _ (dk _ hp));refine ⟨m,⟨oC,es,ep,eC5,rC⟩,λh'' hs''=>?_⟩;exact ⟨_,H',I7.turned (t':=s5.toks) (it:=C) (λb o hb e=>hs''.extBut b o hb e) f0 f1 f3 f4 f5,q⟩
section
variable {X:Cx}
theorem Xv:OpR X (compareOp .IsNot) (λx y H Q=>∃i j,x=.bl i/\y=.bl j/\Q (.bl (i != j)) H):=by intro pins s σ H x y v u Q I rx ry h;obtain ⟨i,j,rfl,rfl,q⟩:=h;cases rx;cases ry;exact isnot_bool ⟨.bl _,H,I,rfl,q⟩
theorem Cz:∀us:List Value,(∀v∈us,∃x:V,RelV x v)->∃xs,Vals xs us
 |[],_=>⟨[],.nil⟩
 |u::r,h=>by
  obtain ⟨x,hx⟩:=h u bS;obtain ⟨xs,hr⟩:=Cz r λv hv=>h v (b9 _ hv);exact ⟨x::xs,.cons hx hr⟩
end
def noStar:Expr->Bool
 |.Starred ..=>false
 |_=>true
theorem bL(e:Expr)(es:List Expr)(env:Env)(h:noStar e=true):starEach (e::es) env=(false,eval e env)::starEach es env:=by cases e <;> first |rfl |cases h
section
variable {prog:Program} {w:World} {A:Around} {E:Value->Shared->Prop} {s:Shared}
def rIt (a n c:Int):Obj:={ cls:=.type "range_iterator",data:=.fields #[rawInt a,rawInt n,rawInt c] }
theorem Xw{r:Addr}{n:Int}{t u v:Tok}{Q:Value->Shared->Prop}(hr:IsRange s.heap r 0 n 1 t u v)(h1:-(2 ^ 62)<=n)(h2:n < 2 ^ 62)
  (h:Q (.ref s.heap.objs.size) { s with heap:=s.heap.push (rIt (0+(Builtin.Range.rangeSize 0 n 1 - 1) * 1) (Builtin.Range.rangeSize 0 n 1) (-1)) }):wpAny (model prog w) A (call (.builtin "range.__reversed__") [.ref r]) Q E s:=by
 have hT:s.TypeIs (.ref r) "range":=⟨_,hr,rfl⟩;refine fw F.slot_range_reversed hT F.entry_range_reversed ?_ (F.args_range_reversed_1 _);have hsm:(Builtin.Range.rangeFitsLong 0&&Builtin.Range.rangeFitsLong n&&Builtin.Range.rangeFitsLong 1&&Builtin.Range.rangeFitsLong (-1)&&Builtin.Range.rangeFitsLong (0 - 1)&&Builtin.Range.rangeFitsLong (Builtin.Range.rangeSize 0 n 1))=true:=by rw[rangeSize_one];simp only[Builtin.Range.rangeFitsLong,ae,c8,decide_eq_true_eq,av];split <;> omega
 obtain ⟨hp,g,d,tk,os⟩:=s;wp_walk using wpAny_loadPart' hr
 rw[if_neg (by rw[hsm];decide)];simp only[hsm,if_true];wp_walk
 exact ⟨_,rfl,h⟩
theorem Xx{r:Addr}{n:Int}{t u v:Tok}{Q₁:Value->Shared->Prop}(hr:IsRange s.heap r 0 n 1 t u v)(h1:-(2 ^ 62)<=n)(h2:n < 2 ^ 62)
  (h:Q₁ (.ref s.heap.objs.size) { s with heap:=s.heap.push (rIt (0+(Builtin.Range.rangeSize 0 n 1 - 1) * 1) (Builtin.Range.rangeSize 0 n 1) (-1)) }):
  codeAny (model prog w) A (.call (.builtin "reversed.__new__") ⟨[.type "reversed",.ref r],[]⟩) (wants Q₁ E) s:=by
 have hT:s.TypeIs (.ref r) "range":=⟨_,hr,rfl⟩;refine codeAny_of_tree ?_;show wpAny _ A.in1 (do checkBuiltinCall "reversed.__new__" ⟨[.type "reversed",.ref r],[]⟩;again (.builtin "reversed.__new__" ⟨[.type "reversed",.ref r],[]⟩)) _ _ s;refine ag (wpAny_of_eq (F.newCall_reversed_1 _) (a8 ⟨plainId_quiet F.plain_reversed_new _,codeAny_builtin F.entry_reversed_new ?_⟩));rw[Around.under_plainId F.plain_reversed_new _];unfold Builtin.«reversed.__new__»;refine ag (wpAny_of_eq (newClass_reversed _) ?_);try dsimp only
 refine ag (wpAny_of_eq (a:=()) (by first |rfl |rfl') ?_);refine ag (wpAny_of_eq (a:=()) (by first |rfl |rfl') ?_);try dsimp only
 refine ag (wpAny_specialOf hT F.slot_range_reversed.lookup ?_);try dsimp only
 refine ag (wpAny_of_eq (F.slot_range_reversed.bind _) ?_);try dsimp only
 first
 |rw[if_neg (show ¬((Value.builtin "range.__reversed__"==Value.none)=true) from br)]
 | (show wpAny _ _ (if (Value.builtin "range.__reversed__"==Value.none)=true then _ else _) _ _ _;rw[if_neg (show ¬((Value.builtin "range.__reversed__"==Value.none)=true) from br)])
 refine ag (fR ?_);refine ag (m:=runValue (.call (.builtin "range.__reversed__") ⟨[.ref r],[]⟩)) (show wpAny _ _ (call (.builtin "range.__reversed__") [.ref r]) _ _ _ from Xw hr h1 h2 ?_);first
 |exact a8 h
 |exact ag (a8 (a8 h))
theorem Xy{r:Addr}{n:Int}{t u v:Tok}{Q:Value->Shared->Prop}(hr:IsRange s.heap r 0 n 1 t u v)(h1:-(2 ^ 62)<=n)(h2:n < 2 ^ 62)
  (h:Q (.ref s.heap.objs.size) { s with heap:=s.heap.push (rIt (0+(Builtin.Range.rangeSize 0 n 1 - 1) * 1) (Builtin.Range.rangeSize 0 n 1) (-1)) }):wpAny (model prog w) A (call (.type "reversed") [.ref r]) Q E s:=by
 refine callType_other (U:="range_iterator") (Q₁:=λobj s₁=>obj=.ref s.heap.objs.size/\s₁={ s with heap:=s.heap.push (rIt (0+(Builtin.Range.rangeSize 0 n 1 - 1) * 1) (Builtin.Range.rangeSize 0 n 1) (-1)) }) (by decide +kernel) F.create_reversed ⟨_,_,F.mro_reversed⟩ F.made_reversed (by rw[isSubtype_type];rfl') (F.typeCall_reversed_1 _) (Xx hr h1 h2 ⟨rfl,rfl⟩) ?_;rintro obj s₁ ⟨rfl,rfl⟩;exact ⟨⟨_,bd _ rfl,rfl⟩,h⟩
end
def Itd(lo:Int)(n:Nat):It:=⟨λi _=>i < n,λi H x H'=>H'=H/\x=.int (lo - i),λi _=>n<=i⟩
theorem Xz{P:Program}{w:World}{K:PySem.W.Frag}{tg:Expr}(it:Addr)(lo:Int)(n:Nat):Turn P w K tg (Itd lo n) [it] it (λi h=>IsRangeIter h it (lo+(i:Nat) * (-1)) ((n:Int) - (i:Nat)) (-1)) where
 mem:=by simp
 obj:=λi h st b hb=>by
  have e:b=it:=by simpa using hb
  subst e;exact ⟨_,st,λv z=>by
   have z':Data.fields _=Data.cell v:=z;cases z'⟩
 keep:=λi h h' st k=>k it (by simp) _ st
 item:=by intro X hP hw hK hc i pins s σ H E I hf st hg;subst hP hw hK;obtain ⟨f0,f1,f2,f3,f4,f5⟩:=hf it (by simp);have W:=Walks.range (prog:=X.prog) (w:=X.w) (I.ok.hd hc) it lo (-1) n;refine W.item i s _ _ hg st λv h' tk hv st' kk=>?_;obtain ⟨t,rfl⟩:=hv;have I1:Inv X pins σ H { s with heap:=h',toks:=tk }:=I.turned (λb o hb e=>kk b o (by simpa using hb) e) f0 f1 f3 f4 f5;refine ⟨_,rfl,lr (s:={ s with heap:=h',toks:=tk }) (n:="range_iterator") st' rfl rfl (by decide) ⟨.int (lo - i),H,I1,⟨t,?_⟩,⟨rfl,rfl⟩,st',λb hb=>(hf b hb).1⟩⟩;rw[show lo+(i:Int) * (-1)=lo - i by omega]
 done:=by intro X hP hw hK hc i pins s σ H E I hf st hg;subst hP hw hK;obtain ⟨f0,f1,f2,f3,f4,f5⟩:=hf it (by simp);exact wpAny_pyNext_range_end (I.ok.hd hc) st (by have:n<=i:=hg;omega) λh' eb=>⟨rfl,I.turned (t':=s.toks) (λb o hb e=>eb b o hb e) f0 f1 f3 f4 f5⟩
 self:=λ_ _ _ _ _ st h=>wpAny_pyIter_rangeiter st h
section
variable {X:Cx} {tg:Expr}
theorem XC(j:Int):Builtin.Range.rangeSize 0 j 1=(j.toNat:Int):=by rw[rangeSize_one];split <;> omega
theorem XD:bootBuiltins "reversed"=some (.type "reversed"):=by decide +kernel
def XF(ta:TA):TI:=λσ H R=>ta σ H λvs H1=>∃j:Int,vs=[.int j]/\-(2 ^ 62)<=j/\j < 2 ^ 62/\R (Itd ((j.toNat:Int) - 1) j.toNat) H1
theorem XH {a:Expr} {ta:TA} {p q pos pos':Pos} (hgR:Gl X "reversed") (hmR:X.mg "reversed"=none) (hg:Gl X "range") (hm:X.mg "range"=none) (ha:PA X [a] ta) (hs:starEach [a] X.env=[(false,eval a X.env)]:=by rfl):
  PI X tg (.Call (.Name "reversed" q) [.Call (.Name "range" p) [a] [] pos] [] pos') (XF ta):=by
 intro pins s σ H R I h;refine Call_ (fW I hgR hmR XD (de (?_) rfl rfl));show wpAny _ _ (spliced ((false,eval (.Call (.Name "range" p) [a] [] pos) X.env)::[])) _ _ s;refine Calls.spliced_cons (Call_ (fW I hg hm boot_range (de (thn (ha pos pins s σ H _ I h) λus s1 ⟨vs,H1,I1,r1,q1⟩=>?_) hs rfl)));obtain ⟨j,e,q1,q2,qq⟩:=q1;subst e;cases r1 with
 |cons r rr=>
  cases rr;obtain ⟨t,rfl⟩:=r;refine call_range_1 (Calls.spliced_nil (Xy (IsRange.new ..) q1 q2 ?_));rw[XC];have I2:Inv X pins σ H1 { s1 with heap:=s1.heap.push { cls:=Value.type "range",data:=Data.fields #[Value.int 0 s1.toks,Value.int j t,Value.int 1 (s1.toks+1)] },toks:=s1.toks+1+1 }:=I1.kept λb o e=>al _ e;generalize s1.heap.push { cls:=Value.type "range",data:=Data.fields #[Value.int 0 s1.toks,Value.int j t,Value.int 1 (s1.toks+1)] }=hp1 at I2 ⊢;have st:IsRangeIter (hp1.push (rIt (0+((j.toNat:Int) - 1) * 1) j.toNat (-1))) hp1.objs.size (0+((j.toNat:Int) - 1) * 1) j.toNat (-1):=bd _ rfl;refine wpAny_pyIter_rangeiter (s:={ s1 with heap:=hp1.push (rIt (0+((j.toNat:Int) - 1) * 1) j.toNat (-1)),toks:=s1.toks+1+1 }) st ?_;refine ⟨hp1.objs.size,[hp1.objs.size],_,_,H1,rfl,I2.kept (t':=s1.toks+1+1) λb o e=>al _ e,Xz _ ((j.toNat:Int) - 1) j.toNat,?_,λb hb=>?_,qq⟩
  ·show IsRangeIter _ _ (((j.toNat:Int) - 1)+((0:Nat):Int) * (-1)) ((j.toNat:Int) - ((0:Nat):Int)) (-1);rw[show ((j.toNat:Int) - 1)+((0:Nat):Int) * (-1)=0+((j.toNat:Int) - 1) * 1 by omega,show (j.toNat:Int) - ((0:Nat):Int)=j.toNat by omega];exact st
  ·have e:b=hp1.objs.size:=by simpa using hb
   subst e;exact I2.fpOk (aw _) (I2.hok.fresh (aw _))
end
variable {X:Cx} {e st:Expr} {te ts:TE} {p2 pos:Pos}
noncomputable def holes(h:Heap)(l:List Addr):Heap:={ h with objs:=h.objs.mapIdx λi o=>if l.contains i then { o with data:=.freed } else o }
theorem CG{h:Heap}{l:List Addr}{b:Addr}:(holes h l).get? b=if l.contains b then none else h.get? b:=by
 unfold holes Heap.get?;simp only[Array.getElem?_mapIdx];cases hb:h.objs[b]? with
 |none=>simp
 |some o=>
  cases hc:l.contains b with
  |true=>simp[hc]
  |false=>simp[hc]
theorem gA{h:Heap}{l:List Addr}{b:Addr}(hb:b∈l):(holes h l).get? b=none:=by rw[CG,aE.mpr hb];rfl
theorem wG{h:Heap}{l:List Addr}{b:Addr}(hb:b∉l):(holes h l).get? b=h.get? b:=by
 rw[CG];cases hc:l.contains b with
 |true=>exact absurd (aE.mp hc) hb
 |false=>rfl
theorem qT{h:Heap}{l:List Addr}:(holes h l).StaysIn h:=λb o e=>by
 by_cases hb:b∈l
 ·rw[gA hb]at e;cases e
 ·rw[wG hb]at e;exact e
theorem ObjOk.at{P:Program}{w:World}{H:Hp}{h:Heap}{a:Addr}{o:HO}(x:ObjOk P w H h a o):∃u,h.get? a=some u:=by
 cases o with
 |lst xs=>obtain ⟨_,_,_,_,e⟩:=x;exact ⟨_,e⟩
 |tup xs=>obtain ⟨_,_,_,o,e,_⟩:=x;exact ⟨_,e⟩
 |dK kvs=>obtain ⟨_,_,_,_,o,_,_,e,_⟩:=x;exact ⟨_,e⟩
 |dT kvs=>obtain ⟨_,_,_,_,o,_,_,e,_⟩:=x;exact ⟨_,e⟩
 |set S n=>obtain ⟨o,_,_,_,e,_⟩:=x;exact ⟨_,e⟩
 |ins C dx fs=>obtain ⟨_,_,_,e,_⟩:=x;exact ⟨_,e⟩
 |own y=>exact x
 |xd fs=>obtain ⟨_,⟨_,_,_,e,_⟩,_⟩:=x;exact ⟨_,e⟩
 |rng lo hi=>obtain ⟨_,_,_,e⟩:=x;exact ⟨_,e⟩
 |frz ob u=>obtain ⟨e,_⟩:=x;exact ⟨_,e⟩
 |tbl ps=>exact ⟨_,(show h.get? a=some _ from x)⟩
 |met f y=>exact ⟨_,(show h.get? a=some _ from x)⟩
 |ext φ=>obtain ⟨_,e,_⟩:=x;exact e
theorem HOk.gone{P:Program}{w:World}{H:Hp}{h:Heap}{a:Addr}(x:HOk P w H h)(e:h.get? a=none):H a=none:=by
 cases q:H a with
 |none=>rfl
 |some u=>obtain ⟨o,ho⟩:=(x a u q).at;rw[ho]at e;cases e
theorem wH{h base:Heap}:∀{l:List Env},h.FunFrames base l->∀b∈frs l,∃o,h.get? b=some o/\∀vs,o.data≠.fields vs
 |[],_,b,hb=>by cases hb
 |env::l,hf,b,hb=>by
  unfold Heap.FunFrames at hf;obtain ⟨_,⟨L,o,e1,_,e3,e4⟩,hr⟩:=hf;unfold frs at hb;rw[fk,e1]at hb;rcases bn.mp hb with rfl |hb
  ·exact ⟨o,e3,e4⟩
  ·exact wH hr b hb
theorem lz{h base:Heap}{x:List Addr}:∀{l:List Env},h.FunFrames base l->(∀b∈frs l,b∈x)->h.FunFrames (holes h x) l
 |[],_,_=>by unfold Heap.FunFrames;trivial
 |env::l,hf,hx=>by
  unfold Heap.FunFrames at hf ⊢;obtain ⟨h1,⟨L,o,e1,_,e3,e4⟩,hr⟩:=hf;have hL:L∈frs (env::l):=by unfold frs;rw[fk,e1];exact bS
  refine ⟨h1,⟨L,o,e1,gA (hx L hL),e3,e4⟩,lz hr λb hb=>hx b ?_⟩;unfold frs at hb ⊢;rw[fk,e1];exact b9 _ hb
theorem wI{h base:Heap}{env:Env}{l:List Env}(hf:h.FunFrames base (env::l)):∃L,env.frame=some L:=by unfold Heap.FunFrames at hf;obtain ⟨_,⟨L,o,e1,_⟩,_⟩:=hf;exact ⟨L,e1⟩
def Tr(h0:Heap)(H:Hp)(h:Heap)(a:Addr)(c:Value):Prop:=
 ∃oe vs T oT ts,h.get? a=some oe/\oe.cls=c/\oe.data=.fields vs/\vs[1]?=some (.ref T)/\T≠a/\h.get? T=some oT/\oT.data=.fields ts/\ts[3]?=some .none/\
  h0.get? a=none/\h0.get? T=none/\H a=none/\H T=none
def CX1(P:Program)(w:World):CXT:=λouter H s E e s'=>
 ∃(a:Addr)(c:Value)(H':Hp),e=.ref a/\s'.os=s.os/\AllBare s'.gens/\Un (frs outer) [] H H' s.heap s'.heap/\HOk P w H' s'.heap/\Tr s.heap H' s'.heap a c/\E c none H'
theorem CJ{P:Program}{w:World}{fs st:List Addr}{H0 H:Hp}{h0 h h':Heap}{l:List Env}{a:Addr}{xs:List Addr}{c:Value}(un:Un fs [] H0 H h0 h)(hok:HOk P w H h)
  (up:∀b∈fs,b∈st) (old:∀b o,h0.get? b=some o->b∉fs->b∉st) (fr:∀b∈st,H b=none/\∃o,h.get? b=some o/\∀vs,o.data≠.fields vs)
  (ha:h0.get? a=none) (hHa:H a=none) (hxs:∀x∈xs,h0.get? x=none/\H x=none)
  (L:(holes h (st++a::xs)).Left l a c h h'):Un fs [] H0 H h0 h'/\HOk P w H h'/\Tr h0 H h' a c:=by
 obtain ⟨stay,_,tr,slots⟩:=L;have old:∀b o,h0.get? b=some o->b∉fs->b∉st++a::xs:=by
  intro b o hb hf hin;rcases bb.mp hin with hin |hin
  ·exact old b o hb hf hin
  ·rcases bn.mp hin with e |e
   ·rw[e,ha]at hb;cases hb
   ·rw[(hxs b e).1]at hb;cases hb
 have kept:∀b o,h.get? b=some o->b∉st++a::xs->h'.get? b=some o:=λb o e hn=>stay b o (by rw[wG hn];exact e);have trk:∀b o,H b=some o->b∉st++a::xs:=by
  intro b o hb hin;rcases bb.mp hin with hin |hin
  ·rw[(fr b hin).1]at hb;cases hb
  ·rcases bn.mp hin with e |e
   ·rw[e,hHa]at hb;cases hb
   ·rw[(hxs b e).2]at hb;cases hb
 have noex:∀b:Addr,b∉([]:List Addr):=λb hb=>by cases hb
 have frd:∀b∈st,∀o,h.get? b=some o->∀vs,o.data≠.fields vs:=by intro b hb o ho vs;obtain ⟨_,o',e1,e2⟩:=fr b hb;rw[e1]at ho;cases ho;exact e2 vs
 refine ⟨⟨?_,?_,?_,?_,un.tups,un.frzs,un.tbls⟩,?_,?_⟩
 ·intro b o hb hn hf _;exact kept b o (un.keep b o hb hn hf (noex b)) (old b o hb hf)
 ·intro b o hb hn hf _;obtain ⟨sl,e⟩:=un.slot b o hb hn hf (noex b);obtain ⟨sl',e'⟩:=slots b _ e (frd b (up b hf) _ e);exact ⟨sl',e'⟩
 ·intro b o hb hn _;exact un.free b o hb hn (noex b)
 ·intro b o hb _;obtain ⟨o',e⟩:=un.there b o hb (noex b);by_cases hin:b∈st++a::xs
  ·rcases bb.mp hin with h1 |h1
   ·obtain ⟨sl',e'⟩:=slots b _ e (frd b h1 _ e);exact ⟨_,e'⟩
   ·rcases bn.mp h1 with e2 |e2
    ·rw[e2,ha]at hb;cases hb
    ·rw[(hxs b e2).1]at hb;cases hb
  ·exact ⟨_,kept b o' e hin⟩
 ·intro b o hb;refine (hok b o hb).stay (λb' u hb' e=>kept b' u e ?_) (λ_ z=>z) λ_ _ z=>z;rcases hb' with rfl |hb'
  ·exact trk _ _ hb
  ·exact trk _ _ hb'
 ·obtain ⟨oe,vs,T,oT,ts,t1,t2,t3,t4,t5,t6,t7,t8,t9⟩:=tr;have hT:T∈xs\/h.get? T=none:=by
   by_cases hin:T∈st++a::xs
   ·rcases bb.mp hin with h1 |h1
    ·exfalso;obtain ⟨_,o,e1,e2⟩:=fr T h1;obtain ⟨sl,e3⟩:=slots T o e1 e2;rw[e3]at t7;cases t7;exact e2 ts t8
    ·rcases bn.mp h1 with e2 |e2
     ·exact absurd e2 t6
     ·exact .inl e2
   ·rw[wG hin]at t5;exact .inr t5
  refine ⟨oe,vs,T,oT,ts,t1,t2,t3,t4,t6,t7,t8,t9,ha,?_,hHa,?_⟩
  ·rcases hT with h1 |h1
   ·exact (hxs T h1).1
   ·cases e:h0.get? T with
    |none=>rfl
    |some o=>obtain ⟨o',e'⟩:=un.there T o e (noex T);rw[e']at h1;cases h1
  ·rcases hT with h1 |h1
   ·exact (hxs T h1).2
   ·exact hok.gone h1
section
variable {X:Cx} {pins:List (Addr×Obj)} {σ:St} {H:Hp} {s:Shared}
theorem CK(J:Inv X pins σ H s)(hst:X.stack=X.env::X.outer)(hex:X.ex=[]){a:Addr}{xs:List Addr}{c:Value}{E:XK}
  (ha:X.s₀.heap.get? a=none) (hHa:H a=none) (hxs:∀x∈xs,X.s₀.heap.get? x=none/\H x=none)
  {h':Heap} (L:(holes s.heap (frs X.stack++a::xs)).Left (X.env::X.outer) a c s.heap h') (q:E c none H):
  CX1 X.prog X.w X.outer X.H₀ X.s₀ E (.ref a) { s with heap:=h' }:=by
 have sub:=J.stkSub;have hb0:=J.base;rw[hex]at hb0;have up:∀b∈X.fs,b∈frs X.stack:=by
  intro b hb;rw[hst];unfold Cx.fs at hb;unfold frs at hb ⊢;rw[fk];split
  ·exact hb
  ·exact b9 _ hb
 have old:∀b o,X.s₀.heap.get? b=some o->b∉X.fs->b∉frs X.stack:=by
  intro b o hb hf hin;rcases bn.mp (sub b hin) with e |e
  ·have h1:=ax hb;have h2:=J.ok.above;rw[e]at h1;exact absurd h1 (Nat.not_lt.mpr h2)
  ·exact hf e
 obtain ⟨u,k,t⟩:=CJ hb0 J.hok up old (λb hb=>⟨J.stkFree b hb,wH J.stack b hb⟩) ha hHa hxs L;exact ⟨a,c,H,rfl,J.os,J.bare,u,k,t,q⟩
theorem XJ(J:Inv X pins σ H s)(hst:X.stack=X.env::X.outer)(hex:X.ex=[]){a:Addr}{c:Value}{E:XK}(t:Tr X.s₀.heap H s.heap a c)(q:E c none H){E':Value->Shared->Prop}:
  wpAny (model X.prog X.w) X.A (leaving X.env (.ref a)) (λ_ s''=>CX1 X.prog X.w X.outer X.H₀ X.s₀ E (.ref a) s'') E' s:=by
 obtain ⟨oe,vs,T,oT,ts,t1,t2,t3,t4,t6,t7,t8,t9,n1,n2,n3,n4⟩:=t;have hfr:=J.stack;rw[hst]at hfr;obtain ⟨L,hL⟩:=wI hfr;have sub:∀b∈frs (X.env::X.outer),b∈frs X.stack++a::[T]:=λb hb=>by rw[hst];exact dk _ hb
 refine wpAny_leaving_next (base:=holes s.heap (frs X.stack++a::[T])) (cls:=c) (by rw[J.ok.frames,hst]) (lz hfr sub) hL ?_ qT (gA (by simp)) λh' hl=>?_
 ·exact ⟨oe,vs,T,oT,ts,t1,t2,t3,t4,gA (by simp),t6,t7,t8,t9⟩
 ·exact CK J hst hex n1 n3 (λx hx=>by rw[ba.mp hx];exact ⟨n2,n4⟩) hl q
theorem XM{h':Heap}(I:Inv X pins σ H s)(hst:X.stack=X.env::X.outer)(hex:X.ex=[]){a:Addr}{c:Value}{args:List Value}{E:XK}(m:s.heap.MadeExcOf h' a c args)(q:E c none H){E':Value->Shared->Prop}:
  wpAny (model X.prog X.w) X.A (leaving X.env (.ref a)) (λ_ s''=>CX1 X.prog X.w X.outer X.H₀ X.s₀ E (.ref a) s'') E' { s with heap:=h' }:=by
 have J:Inv X pins σ H { s with heap:=h' }:=I.kept (t':=s.toks) m.keeps;have hfr:=J.stack;rw[hst]at hfr;obtain ⟨L,hL⟩:=wI hfr;have sub:∀b∈frs (X.env::X.outer),b∈frs X.stack++a::[]:=λb hb=>by rw[hst];exact dk _ hb
 obtain ⟨t,e,_,_⟩:=m.there;have n1:X.s₀.heap.get? a=none:=by
  cases e:X.s₀.heap.get? a with
  |none=>rfl
  |some o=>
   obtain ⟨o',e'⟩:=I.base.there a o e (by rw[hex];simp);rw[m.new]at e';cases e'
 refine wpAny_leaving_first (base:=holes h' (frs X.stack++a::[])) (by rw[J.ok.frames,hst]) (lz hfr sub) hL e qT (gA (by simp)) rfl rfl λh'' hl=>?_;exact CK J hst hex n1 (I.hok.gone m.new) (λx hx=>by cases hx) hl q
theorem XN{E:XK}(hst:X.stack=X.env::X.outer)(hex:X.ex=[])(hxe:∀e s',wpAny (model X.prog X.w) X.A (leaving X.env e) (λ_ s''=>CX1 X.prog X.w X.outer X.H₀ X.s₀ E e s'') (λe' s''=>CX1 X.prog X.w X.outer X.H₀ X.s₀ E e' s'') s'->X.xe e s'):
  ji (CX1 X.prog X.w) X E:=by
 intro pins σ H s e s' I h;obtain ⟨a,c,H',rfl,ho,hg,un,hok,tr,q⟩:=h;have J:Inv X pins σ H' s':=I.call' (ch:=[]) ho un hok hg (λb z=>absurd z (by simp));refine hxe _ _ (XJ J hst hex ?_ q);obtain ⟨oe,vs,T,oT,ts,t1,t2,t3,t4,t6,t7,t8,t9,n1,n2,n3,n4⟩:=tr;have old:∀b,s.heap.get? b=none->X.s₀.heap.get? b=none:=λb hb=>by
  cases e:X.s₀.heap.get? b with
  |none=>rfl
  |some o=>
   obtain ⟨o',e'⟩:=I.base.there b o e (by rw[hex];simp);rw[hb]at e';cases e'
 exact ⟨oe,vs,T,oT,ts,t1,t2,t3,t4,t6,t7,t8,t9,old a n1,old T n2,n3,n4⟩
theorem CN{P:Program}{w:World}(Y:Cx):ji (CX1 P w) Y λ_ _ _=>False:=λ_ _ _ _ _ _ _ h=>by
 obtain ⟨_,_,_,_,_,_,_,_,_,q⟩:=h;exact q.elim
end
abbrev veM:List Value:=[.type "ValueError",.type "Exception",.type "BaseException",.type "object"]
noncomputable def wJ:List Value->Bool
 |[.type a,.type b,.type c,.type d]=>a=="ValueError"&&b=="Exception"&&c=="BaseException"&&d=="object"
 |_=>false
theorem XQ{l:List Value}(h:wJ l=true):l=veM:=by
 unfold wJ at h;split at h
 ·simp only[ae,av]at h;obtain ⟨⟨⟨rfl,rfl⟩,rfl⟩,rfl⟩:=h;rfl
 ·cases h
def CP:Value->Bool
 |.str _ _=>true
 |_=>false
noncomputable def nsB(K:PySem.W.Frag)(N:Addr):Bool:=match K.lookup N with
 |some ⟨_,_,.dict es _,_⟩=>es.toList.all (λe=>CP e.key)&&quietNames.all λn=>(nsFind es n).isNone
 |_=>false
theorem CQ{K:PySem.W.Frag}{N:Addr}{h:Heap}(KX:K.In h)(b:nsB K N=true):∃m,h.Ns N m/\∀n∈quietNames,m n=none:=by
 unfold nsB at b;split at b
 ·rename_i c d es ep sl e;rw[ae,bp,bp]at b;refine ⟨nsFind es,⟨_,es,ep,KX _ _ e,rfl,λx hx=>?_,λ_=>rfl⟩,λn hn=>by simpa using b.2 n hn⟩;have:=b.1 x (Array.mem_toList_iff.mpr hx);unfold CP at this;split at this
  ·rename_i y t e;exact ⟨_,_,e⟩
  ·cases this
 ·cases b
noncomputable def CW(K:PySem.W.Frag)(A:Addr):Bool:=match K.lookup A with
 |some ⟨_,_,.cls cd,_⟩=>nsB K cd.ns
 |_=>false
noncomputable def qU(K:PySem.W.Frag):List Value->Bool
 |[]=>false
 |v::tl=>(match v with |.ref A=>CW K A&&qU K tl |_=>wJ (v::tl))
theorem CZ{K:PySem.W.Frag}{h:Heap}(KX:K.In h):∀{l:List Value},qU K l=true->OwnTailQ h veM l
 |[],b=>by cases b
 |v::tl,b=>by
  unfold qU at b;split at b
  ·rename_i A;rw[ae]at b;have b1:=b.1;unfold CW at b1;split at b1
   ·rename_i c d cd sl e;obtain ⟨m,hm,hq⟩:=CQ KX b1;exact .own (KX _ _ e) hm hq (CZ KX b.2)
   ·cases b1
  ·rw[XQ b];exact .base
def isRef(C:Addr):Value->Bool
 |.ref a=>a==C
 |_=>false
def isNew:Option Value->Bool
 |some (.builtin s)=>s=="ValueError.__new__"
 |_=>false
def Dc:Value->Bool
 |.type s=>s=="type"
 |_=>false
noncomputable def ig(K:PySem.W.Frag)(C:Addr):Bool:=match K.lookup C with
 |some ⟨ty,_,.cls cd,⟨[_,_,_,_,k,_]⟩⟩=>Dc ty&&isNew k&&nsB K cd.ns&&!cd.hasDel&&(match cd.mro with |v::tl=>isRef C v&&qU K tl |[]=>false)
 |_=>false
theorem XS {K:PySem.W.Frag} {C:Addr} {h:Heap} {mg:Str->Option Value} {x:Str} (KX:K.In h) (b:ig K C=true) (hm:mg x=some (.ref C)):OwnClsQ x C veM "ValueError.__new__" mg h:=by
 unfold ig at b;split at b
 ·rename_i ty dd cd k0 k1 k2 k3 k k5 e;simp only[ae]at b;obtain ⟨⟨⟨⟨b1,b2⟩,b3⟩,b5⟩,b4⟩:=b;obtain ⟨m,hns,hq⟩:=CQ KX b3;have e1:ty=.type "type":=by
   unfold Dc at b1;split at b1
   ·rw[av]at b1;rw[b1]
   ·cases b1
  have e2:k=some (.builtin "ValueError.__new__"):=by
   unfold isNew at b2;split at b2
   ·rw[av]at b2;rw[b2]
   ·cases b2
  obtain ⟨nm,bs,mro,ns,q,hd,sn,sub,ab,col,del⟩:=cd;dsimp only at b4 hns b5;have e4:del=false:=by simpa using b5
  subst e4;split at b4
  ·rename_i v tl;rw[ae]at b4;have e3:v=.ref C:=by
    have:=b4.1;unfold isRef at this;split at this
    ·rw[av]at this;rw[this]
    ·cases this
   subst e1 e2 e3;exact ⟨hm,tl,ns,nm,q,bs,hd,sn,sub,ab,col,dd,k0,k1,k2,k3,k5,m,KX _ _ e,hns,hq,CZ KX b4.2⟩
  ·cases b4
 ·cases b
theorem XX{h:Heap}{bmB bm:List Value}(t:OwnTail h bmB bm){v:Value}(hv:bmB.contains v=true):bm.contains v=true:=by
 induction t with
 |base=>exact hv
 |own _ _ _ _ ih=>rw[List.contains_cons,ih,Bool.or_true]
theorem Dd{h h':Heap}(k:∀b o,h.get? b=some o->h'.get? b=some o){N:Addr}{m:Str->Option Value}(n:h.Ns N m):h'.Ns N m:=by obtain ⟨o,es,ep,e,r⟩:=n;exact ⟨o,es,ep,k _ _ e,r⟩
theorem X3{h h':Heap}(k:∀b o,h.get? b=some o->h'.get? b=some o){bmB bm:List Value}(t:OwnTail h bmB bm):OwnTail h' bmB bm:=by
 induction t with
 |base=>exact .base
 |own e n i _ ih=>exact .own (k _ _ e) (Dd k n) i ih
section
variable {X:Cx}
abbrev TJ:=St->Hp->(Hp->Prop)->Prop
def PJ(X:Cx)(es:List Expr)(t:TJ)(n:Nat):Prop:=∀(pins:List (Addr×Obj))(s:Shared)(σ:St)(H:Hp)(Q:Hp->Prop)(out:Str),Inv X pins σ H s->out.length+n<=100000->t σ H Q->
 wpAny (model X.prog X.w) X.A (joinParts out (evalEach es X.env)) (EP X pins σ λv H'=>(∃x,v=.str x)/\Q H') X.xe s
theorem X4:PJ X [] (λ_ H Q=>Q H) 0:=λpins s σ H Q out I hl q=>by
 refine joinParts_nil ⟨.str out,H,I.tok _,⟨_,rfl⟩,⟨_,rfl⟩,q⟩ ?_;have:sizeLine≥100000:=by decide
 omega
theorem qW(x y:Str):(x++y).length=x.length+y.length:=by show (x.cps++y.cps).size=_;rw[Array.size_append];rfl
theorem X5{y:Str}{k:Nat}{p:Pos}{es:List Expr}{t:TJ}{n:Nat}(h:PJ X es t n):PJ X (.Constant (.str y) k p::es) t (y.length+n):=λpins s σ H Q out I hl q=>by
 have hz:sizeLine≥100000:=by decide
 refine joinParts_consE (joinParts_cons (Calls.Constant_str ?_));dsimp only;refine ⟨by rw[qW];omega,h pins _ σ H Q _ (I.tok _) (by rw[qW];omega) q⟩
theorem digits_le:∀n:Fin 100,(Str.ofString (toString (n.val:Int))).length<=3:=by decide +kernel
theorem X6{e:Expr}{te:TE}{p:Pos}{es:List Expr}{t:TJ}{n:Nat}(he:PE X e te)(h:PJ X es t n):PJ X (.FormattedValue e (-1) none p::es) (λσ H Q=>te σ H λv H1=>(∃m:Nat,v=.int m/\m < 100)/\t σ H1 Q) (3+n):=λpins s σ H Q out I hl q=>by
 have hz:sizeLine≥100000:=by decide
 refine joinParts_consE (joinParts_cons (FormattedValue_plain (thn (he pins s σ H _ I q) λv s1 hy=>?_)));obtain ⟨x,H1,I1,r1,⟨m,rfl,hm⟩,q1⟩:=hy;obtain ⟨tk,rfl⟩:=r1;have hd:(Str.ofString (toString (m:Int))).length<=3:=digits_le ⟨m,hm⟩;refine formatField_int_small ?_ ?_
 ·have:(m:Int).natAbs=m:=Int.natAbs_natCast m;rw[this];exact Nat.lt_of_le_of_lt (Nat.log2_le_self m) (by omega)
 ·dsimp only;exact ⟨by rw[qW];omega,h pins _ σ H1 Q _ ((I1.tok _)) (by rw[qW];omega) q1⟩
theorem X7{v1 v2:Expr}{es:List Expr}{t:TJ}{n:Nat}{pos:Pos}(h:PJ X (v1::v2::es) t n)(hn:n<=100000):PE X (.JoinedStr (v1::v2::es) pos) (λσ H Q=>t σ H λH1=>∀x,Q (.str x) H1):=λpins s σ H Q I q=>by
 refine JoinedStr_many ?_;refine cw (h pins s σ H _ Str.empty I (by show 0+n<=_;omega) q) (λv s1 hy=>?_) λ_ _ z=>z;obtain ⟨x,H1,I1,r1,⟨y,rfl⟩,q1⟩:=hy;exact ⟨_,H1,I1,r1,q1 y⟩
def Throws(X:Cx)(E:XK):Prop:=∀(pins:List (Addr×Obj))(σ:St)(H:Hp)(s:Shared)(h':Heap)(a:Addr)(c:Value)(args:List Value),Inv X pins σ H s->s.heap.MadeExcOf h' a c args->E c none H->X.xe (.ref a) { s with heap:=h' }
theorem X8{E:XK}(hst:X.stack=X.env::X.outer)(hex:X.ex=[])(hxe:∀e s',wpAny (model X.prog X.w) X.A (leaving X.env e) (λ_ s''=>CX1 X.prog X.w X.outer X.H₀ X.s₀ E e s'') (λe' s''=>CX1 X.prog X.w X.outer X.H₀ X.s₀ E e' s'') s'->X.xe e s'):Throws X E:=
 λ_ _ _ _ _ _ _ _ I m q=>hxe _ _ (XM I hst hex m q)
theorem De{x:Str}{C:Addr}{np cpos pos:Pos}{e:Expr}{es:List Expr}{ta:TA}{E:XK}(hc:X.calm=true)(hg:Gl X x)(hm:X.mg x=some (.ref C))(hb:ig X.K C=true)(hE:Throws X E)(ha:PA X (e::es) ta)
  (hdb:(x==("__debug__":Str))=false:=by decide) (he:starEach (e::es) X.env=(false,eval e X.env)::starEach es X.env:=by rfl) (hpl:(backTo cpos (starEach es X.env)).any (·.1)=false:=by rfl):
  PS X (.Raise (some (.Call (.Name x np) (e::es) [] cpos)) none pos) (λ_ σ H=>ta σ H λvs H1=>vs.length<=sizeLine/\E (.ref C) none H1):=by
 intro pins s σ H D I h;have kb:=I.ok.mod.kin;obtain ⟨bm,N,nm,q,bs,hd,sn,sub,ab,col,dd,k0,k1,k2,k3,k5,mN,b1,b2,b3,b4⟩:=(XS kb hb hm:OwnClsQ x C veM "ValueError.__new__" X.mg X.base).own.obj;refine wpAny_Raise_call_subT (nm:=nm) (q:=q) (N:=N) (bs:=bs) (hdct:=hd) (sn:=sn) (sub:=sub) (ab:=ab) (col:=col) (dd:=dd) (k0:=k0) (k1:=k1) (k2:=k2) (k3:=k3) (k5:=k5) (F.excBase_ValueError) (XX b4 (by decide)) (I.ok.hd hc) ?_ b3 (jh I hg hm ⟨rfl,?_⟩ hdb)
 ·rw[he];exact hpl
 ·have hsp:=ha cpos pins s σ H _ I h;rw[he]at hsp ⊢;refine Calls.evalArgs_plain (cw hsp (λvs s2 hy=>?_) λ_ _ z=>z);obtain ⟨ws,H2,I2,r2,hl,q2⟩:=hy;refine ⟨rfl,by rw[<-r2.length];exact hl,I2.bk _ _ b1,Dd I2.bk b2,X3 I2.bk b4,λh' a m=>hE pins σ H2 s2 h' a _ _ I2 m q2⟩
end
section
variable {X:Cx}
abbrev Cx.marked(X:Cx)(a:Addr)(E:Value->Shared->Prop):Cx:={ X with A:=X.A.mark (some (.ref a)),calm:=false,xe:=E }
theorem Cx.Ok.marked{X:Cx}(ok:X.Ok)(a:Addr)(E:Value->Shared->Prop):(X.marked a E).Ok:=
 ⟨ok.mod,ok.kind,ok.glob,ok.blt,ok.above,ok.inj,ok.has,ok.cab,λh=>(by cases h),ok.frames,ok.stk,ok.exf,ok.bs,ok.bsz,ok.noex,ok.exfs,ok.funs,ok.frf⟩
variable {pins:List (Addr×Obj)} {σ:St} {H:Hp} {s:Shared}
theorem Inv.marked(I:Inv X pins σ H s)(a:Addr)(E:Value->Shared->Prop):Inv (X.marked a E) pins σ H s:=⟨I.ok.marked a E,I.os,I.bare,I.base,I.loc,I.cell,I.free,I.freeC,I.pin,I.hok,I.len⟩
theorem Inv.unmarked{a:Addr}{E:Value->Shared->Prop}(I:Inv (X.marked a E) pins σ H s)(ok:X.Ok):Inv X pins σ H s:=⟨ok,I.os,I.bare,I.base,I.loc,I.cell,I.free,I.freeC,I.pin,I.hok,I.len⟩
theorem SP.unmarked{a:Addr}{E:Value->Shared->Prop}{D:Ends}{f:Flow}{s':Shared}(ok:X.Ok)(h:SP (X.marked a E) pins D f s'):SP X pins D f s':=by
 cases f with
 |next=>obtain ⟨σ',H',I,q⟩:=h;exact ⟨σ',H',I.unmarked ok,q⟩
 |brk=>obtain ⟨σ',H',I,q⟩:=h;exact ⟨σ',H',I.unmarked ok,q⟩
 |cont=>obtain ⟨σ',H',I,q⟩:=h;exact ⟨σ',H',I.unmarked ok,q⟩
 |ret u=>obtain ⟨v,σ',H',I,r,q⟩:=h;exact ⟨v,σ',H',I.unmarked ok,r,q⟩
structure Caught(X:Cx)(H:Hp)(s:Shared)(H':Hp)(a:Addr)(c:Value)(s':Shared):Prop where
 os:s'.os=s.os
 bare:AllBare s'.gens
 un:Un (frs X.stack) [] H H' s.heap s'.heap
 hok:HOk X.prog X.w H' s'.heap
 tr:Tr s.heap H' s'.heap a c
variable {H':Hp} {a:Addr} {c:Value} {s':Shared}
theorem Caught.inv(K:Caught X H s H' a c s')(I:Inv X pins σ H s):Inv X pins σ H' s':=I.call' (ch:=[]) K.os K.un K.hok K.bare (λb z=>absurd z (by simp))
theorem Caught.left(K:Caught X H s H' a c s')(I:Inv X pins σ H s){T:Addr}{h':Heap}{l:List Env}(hT:s.heap.get? T=none/\H' T=none)(L:(holes s'.heap (frs X.stack++a::[T])).Left l a c s'.heap h'):Caught X H s H' a c { s' with heap:=h' }:=by have J:=K.inv I;obtain ⟨_,_,_,_,_,_,_,_,_,_,_,_,_,n1,_,n3,_⟩:=K.tr;obtain ⟨u,k,t⟩:=CJ K.un K.hok (λb hb=>hb) (λb o _ hn=>hn) (λb hb=>⟨J.stkFree b hb,wH J.stack b hb⟩) n1 n3 (λx hx=>by rw[ba.mp hx];exact hT) L;exact ⟨K.os,K.bare,u,k,t⟩
theorem Caught.note(K:Caught X H s H' a c s')(I:Inv X pins σ H s)(hst:X.stack=X.env::X.outer){Q:Shared->Prop}{E1 E2:Value->Shared->Prop}(hQ:∀h2,Caught X H s H' a c { s' with heap:=h2 }->Q { s' with heap:=h2 }):
  wpAny (model X.prog X.w) X.A (noteFrame (.ref a) X.env) (λ_ s2=>wpAny (model X.prog X.w) X.A (setFlight (.ref a) none) (λ_ s3=>Q s3) E1 s2) E2 s':=by
 have J:=K.inv I;obtain ⟨oe,vs,T,oT,ts,t1,t2,t3,t4,t6,t7,t8,t9,n1,n2,n3,n4⟩:=K.tr;have hfr:=J.stack;rw[hst]at hfr;obtain ⟨L,hL⟩:=wI hfr;have sub:∀b∈frs (X.env::X.outer),b∈frs X.stack++a::[T]:=λb hb=>by rw[hst];exact dk _ hb
 obtain ⟨a0,h0⟩:∃a0,vs[0]?=some a0:=by obtain ⟨hi,_⟩:=fi.mp t4;exact ⟨vs[0],Array.getElem?_eq_getElem (by omega)⟩
 refine wpAny_noteFrame_onW (base:=holes s'.heap (frs X.stack++a::[T])) (cls:=c) (a0:=a0) (by rw[J.ok.frames,hst]) (lz hfr sub) hL ?_ qT (gA (by simp)) λh1 hn=>?_
 ·exact ⟨oe,vs,T,oT,ts,t1,⟨t2,h0⟩,t3,t4,gA (by simp),t6,t7,t8,t9⟩
 ·obtain ⟨m1,m2,m3,m4⟩:=hn;refine wpAny_setFlight_noneW m1 m2 m3 λh2 p1 p2 p3 p4=>?_;refine hQ h2 (K.left I ⟨n2,n4⟩ (l:=X.env::X.outer) ⟨p1,p2,?_,λb o e d=>?_⟩)
  ·obtain ⟨oe,vs,T,oT,ts,t1,⟨t2,_⟩,r⟩:=p3;exact ⟨oe,vs,T,oT,ts,t1,t2,r⟩
  ·obtain ⟨sl,e'⟩:=m4 b o e d;exact ⟨sl,p4 b _ e' d⟩
theorem Caught.flight(K:Caught X H s H' a c s')(I:Inv X pins σ H s){A:Around}{Q:Shared->Prop}{E1:Value->Shared->Prop}(hQ:∀h2,Caught X H s H' a c { s' with heap:=h2 }->Q { s' with heap:=h2 }):
  wpAny (model X.prog X.w) A (setFlight (.ref a) none) (λ_ s3=>Q s3) E1 s':=by
 have J:=K.inv I;obtain ⟨oe,vs,T,oT,ts,t1,t2,t3,t4,t6,t7,t8,t9,n1,n2,n3,n4⟩:=K.tr;obtain ⟨a0,h0⟩:∃a0,vs[0]?=some a0:=by obtain ⟨hi,_⟩:=fi.mp t4;exact ⟨vs[0],Array.getElem?_eq_getElem (by omega)⟩
 refine wpAny_setFlight_noneW (base:=holes s'.heap (frs X.stack++a::[T])) (l:=X.stack) (cls:=c) (a0:=a0) (fl:=.none) qT (lz J.stack λb hb=>dk _ hb) ?_ λh2 p1 p2 p3 p4=>?_
 ·exact ⟨oe,vs,T,oT,ts,t1,⟨t2,h0⟩,t3,t4,gA (by simp),t6,t7,t8,t9⟩
 ·refine hQ h2 (K.left I ⟨n2,n4⟩ (l:=X.stack) ⟨p1,p2,?_,λb o e d=>⟨o.slots,p4 b o e d⟩⟩);obtain ⟨oe,vs,T,oT,ts,t1,⟨t2,_⟩,r⟩:=p3;exact ⟨oe,vs,T,oT,ts,t1,t2,r⟩
end
open Builtin.ObjectAttr Builtin.Getset_descriptor
open PySem.W (findIn mroIn clsIn typeIn Looks InstAt looks_findIn looks_mroIn looks_typeIn)
noncomputable def lA(K:PySem.W.Frag)(D:Addr):Bool:=
 findIn K (.ref D) "__class__"==some (some (.builtin "object.__class__"))&&findIn K (.ref D) "__getattribute__"==some (some (.builtin "BaseException.__getattribute__"))&&findIn K (.ref D) "__getattr__"==some none &&
  mroIn K D (.type "object")==some true&&mroIn K D (.type "BaseException")==some true&&(clsIn K D).isSome
structure Xin(K:PySem.W.Frag)(D:Addr):Prop where
 c:findIn K (.ref D) "__class__"=some (some (.builtin "object.__class__"))
 ga:findIn K (.ref D) "__getattribute__"=some (some (.builtin "BaseException.__getattribute__"))
 g:findIn K (.ref D) "__getattr__"=some none
 o:mroIn K D (.type "object")=some true
 b:mroIn K D (.type "BaseException")=some true
 d:(clsIn K D).isSome=true
theorem Yb{K:PySem.W.Frag}{D:Addr}(h:lA K D=true):Xin K D:=by unfold lA at h;simp only[ae,av]at h;obtain ⟨⟨⟨⟨⟨h1,h2⟩,h3⟩,h4⟩,h5⟩,h6⟩:=h;exact ⟨h1,h2,h3,h4,h5,h6⟩
section
variable {prog:Program} {w:World} {A:Around} {E:Value->Shared->Prop} {h:Heap} {g:Array GenState} {d:Drawn} {t:Nat} {os:OsState} {a:Addr} {o:Obj} {K:PySem.W.Frag} {D:Addr}
theorem Df{M:Model}(hx:h.get? a=some o)(hc:o.cls=.ref D):Looks M h (typeOf (.ref a)) (.ref D):=by have:=(Looks.ld (M:=M) (part:=none) hx).andThen (f:=λo=>pure o.cls) (b:=.ref D) (by rw[hc];exact .now);exact this
theorem Yc {s:Shared} {R:Result->Shared->Prop} {tp:Value} (X:K.In s.heap) (hx:s.heap.get? a=some o) (hc:o.cls=.ref D) (hm:mroIn K D (.type "object")=some true)
  (h:R (.ok (.ret (.ref D))) s):codeAny (model prog w) A (.call (.builtin "getset_descriptor.__get__") ⟨[.builtin "object.__class__",.ref a,tp],[]⟩) R s:=by
 obtain ⟨hh,g,dr,t,os⟩:=s;have L0:=Df (M:=model prog w) hx hc;have L1:=looks_mroIn (M:=model prog w) X hm;refine codeAny_call_builtin PySem.W.KF.slot_gs.plain PySem.W.KF.entry_gs (PySem.W.KF.slot_gs.check _ _ _ _ _ _ _ _ PySem.W.KF.type_class (PySem.W.KF.args_gs _ _ _) ?_);unfold Builtin.«getset_descriptor.__get__» descrGet;rw[PySem.W.dga_obj];refine ag (a8 ?_);unfold descrGetter descrCheckInstance descrNameAndClass isInstance;simp only[PySem.W.KF.owner_class];repeat lk
 refine ⟨Code.quiet_builtin _ (by decide +kernel),codeAny_builtin PySem.W.KF.entry_class ?_⟩;unfold Builtin.«object.__class__» shownTypeOf;repeat lk
 exact h
theorem Yd{tk:Tok}{Q:Fin->Shared->Prop}(X:K.In h)(x:Xin K D)(hx:h.get? a=some o)(hc:o.cls=.ref D)(hq:Q (.done (.ret (.ref D))) ⟨h,g,d,t,os⟩):
  wpAny (model prog w) A (Builtin.«object.__getattribute__» ⟨[.ref a,.str "__class__" tk],[]⟩) Q E ⟨h,g,d,t,os⟩:=by
 have hT5:(⟨h,g,d,t,os⟩:Shared).TypeIs (.builtin "object.__class__") "getset_descriptor":=F.typeOf_object_class;have f5:=F.typeOf_object_class;have f6:=F.slot_gs_get.lookup;have f7:=F.slot_gs_set.lookup;have L1:=looks_findIn (M:=model prog w) X x.c;repeat (any_goals (first |assumption | (with_reducible refine ge hx ?_;rw[hc]) |with_reducible refine L1.at ?_ |wp_step))
 refine Yc (s:=⟨h,g,d,t,os⟩) X hx hc x.o ?_;repeat (any_goals (first |assumption |wp_step))
theorem Ye{M:Model}{nameV:Value}{Q:Unit->Shared->Prop}(X:K.In h)(x:Xin K D)(hx:h.get? a=some o)(hc:o.cls=.ref D)(hq:Q () ⟨h,g,d,t,os⟩):
  wpAny M A (checkBuiltinCall "BaseException.__getattribute__" ⟨[.ref a,nameV],[]⟩) Q E ⟨h,g,d,t,os⟩:=by
 have hk:builtinKind "BaseException.__getattribute__"=some .slot:=by decide +kernel
 have hsplit:splitId "BaseException.__getattribute__"=some ("BaseException","__getattribute__"):=by decide +kernel
 have L1:=looks_mroIn (M:=M) X x.b;have ha:=F.args_bexc_ga (.ref a) nameV;simp only[checkBuiltinCall,hk,hsplit];refine ag ?_
 ·unfold isInstance;repeat (first | (with_reducible refine ge hx ?_;rw[hc]) |with_reducible refine L1.at ?_ |wp_step)
  exact hq
theorem Yg{tk:Tok}{R:Result->Shared->Prop}(X:K.In h)(x:Xin K D)(hx:h.get? a=some o)(hc:o.cls=.ref D)(hq:R (.ok (.ret (.ref D))) ⟨h,g,d,t,os⟩):
  codeAny (model prog w) A (.call (.builtin "BaseException.__getattribute__") ⟨[.ref a,.str "__class__" tk],[]⟩) R ⟨h,g,d,t,os⟩:=
 codeAny_call_builtin (by decide +kernel) F.entry_bexc_ga (Ye X x hx hc (Yd X x hx hc hq))
theorem Yh{Q:Option Value->Shared->Prop}(X:K.In h)(x:Xin K D)(hx:h.get? a=some o)(hc:o.cls=.ref D)(hq:Q (some (.ref D)) ⟨h,g,d,t+1,os⟩):
  wpAny (model prog w) A (getAttr? (.ref a) "__class__") Q E ⟨h,g,d,t,os⟩:=by
 have L1:=looks_findIn (M:=model prog w) X x.ga;have L2:=looks_findIn (M:=model prog w) X x.g;have f3:bindSpecial (.builtin "BaseException.__getattribute__") (.ref a)=pure (.builtin "BaseException.__getattribute__",[.ref a]):=(PySem.F.excAttr_ValueError).ga.bind (.ref a);have hx2:(Value.builtin "BaseException.__getattribute__"==Value.builtin "object.__getattribute__")=false:=by decide +kernel
 have hx1:(onTheHeap (Value.ref D)&&Value.builtin "BaseException.__getattribute__"==Value.builtin "object.__getattribute__")=false:=by rw[hx2];rfl
 unfold getAttr? getAttrBy? getAttrBy;repeat (any_goals (first |assumption | (with_reducible refine ge hx ?_;rw[hc]) |with_reducible refine L1.at ?_ |with_reducible refine L2.at ?_ |wp_step))
 refine Yg X x hx hc ?_;repeat (any_goals (first |assumption |wp_step))
noncomputable def jo(K:PySem.W.Frag)(c:Value):Bool:=match c with
 |.ref C=>(clsIn K C).isSome&&typeIn K (.ref C)==some (.type "type")
 |.type T=>T=="ValueError"
 |_=>false
theorem ty_ValueError:typeOf (.type "ValueError")=pure (.type "type"):=by rfl'
theorem Yi {M:Model} {c:Value} (X:K.In h) (e:jo K c=true):Looks M h (typeOf c) (.type "type")/\Looks M h (isType c) true:=by
 unfold jo at e;split at e
 ·rename_i C;rw[ae,av]at e;obtain ⟨e0,e1⟩:=e;refine ⟨looks_typeIn X e1,?_⟩;unfold clsIn at e0;split at e0
  ·rename_i c' d' cd' sl' ho;intro A' Q' E' s' k q;unfold isType loadHead;exact ag (wpAny_loadPart (k _ _ (X _ _ ho)) (a8 q))
  ·cases e0
 ·rename_i T;rw[av]at e;subst e;exact ⟨Looks.of_pure ty_ValueError,Looks.of_pure rfl⟩
 ·cases e
theorem Yj{c:Value}{b:Bool}{dep:Int}{tk:Tok}{Q:Fin->Shared->Prop}(X:K.In h)(x:Xin K D)(hx:h.get? a=some o)(hc:o.cls=.ref D)(hk:jo K c=true)
  (hm:mroIn K D c=some b) (hne:b=false->(Value.ref D==c)=false) (hq:∀t',Q (.done (.ret (.bool b))) ⟨h,g,d,t',os⟩):
  wpAny (model prog w) A (Builtin.«isinstance.nested» ⟨[.ref a,c,.int dep tk],[]⟩) Q E ⟨h,g,d,t,os⟩:=by
 obtain ⟨hty,his⟩:=Yi (M:=model prog w) X hk;have hsub:=looks_mroIn (M:=model prog w) X hm;have L0:=Df (M:=model prog w) hx hc;have LI:Looks (model prog w) h (isInstance (.ref a) c) b:=L0.andThen hsub;have hisD:Looks (model prog w) h (isType (.ref D)) true:=by
  have e0:=x.d;unfold clsIn at e0;split at e0
  ·rename_i c' d' cd' sl' ho;intro A' Q' E' s' k q;unfold isType loadHead;exact ag (wpAny_loadPart (k _ _ (X _ _ ho)) (a8 q))
  ·cases e0
 unfold Builtin.«isinstance.nested»;refine ag (L0.at ?_);by_cases he:(Value.ref D==c)=true
 ·rw[if_pos he];cases b with
  |false=>rw[hne rfl]at he;cases he
  |true=>
   repeat (first |refine a8 ?_ |refine fR ?_ |refine ag ?_)
   exact hq t
 ·rw[if_neg he];refine ag (hty.at ?_);rw[if_pos (by decide)]
  k_delta "plainIsInstance"
  refine ag (ag (his.at ?_));simp only[ft,fy,if_false];refine ag (LI.at ?_);cases b with
  |true=>
   simp only[if_true];repeat (first |refine a8 ?_ |refine fR ?_ |refine ag ?_)
   exact hq t
  |false=>
   simp only[fy,if_false];refine ag (Yh X x hx hc ?_);refine ag (hisD.at ?_);simp only[ft,fy,if_false];refine ag (fR ?_);refine hsub.at ?_;first
    |exact a8 (hq _)
    |exact a8 (a8 (hq _))
    |exact ag (a8 (a8 (hq _)))
theorem Yk{c:Value}{b:Bool}{Q:Value->Shared->Prop}{s:Shared}(X:K.In s.heap)(x:Xin K D)(hx:s.heap.get? a=some o)(hc:o.cls=.ref D)(hk:jo K c=true)
  (hm:mroIn K D c=some b) (hne:b=false->(Value.ref D==c)=false) (hq:∀t',Q (.bool b) { s with toks:=t' }):wpAny (model prog w) A (call (.builtin "isinstance") [.ref a,c]) Q E s:=by
 obtain ⟨hh,g,d,t,os⟩:=s;exact call_isinstance_of (Yj X x hx hc hk hm hne λt'=>hq t') (by intro e;cases e)
end
open PySem.W (findIn mroIn clsIn typeIn Looks looks_findIn looks_mroIn looks_typeIn)
section
variable {X:Cx}
def XO(H:Hp)(a c:Addr):Prop:=∃o y,H a=some (.frz o (.own y))/\o.cls=.ref c
def valOf:V->Value
 |.ref a=>.ref a
 |.ty n=>.type n
 |_=>.none
noncomputable def Yl(K:PySem.W.Frag):List V->Hp->VK->Prop:=λxs H Q=>∃a c cv b,xs=[.ref a,cv]/\XO H a c/\lA K c=true/\jo K (valOf cv)=true/\mroIn K c (valOf cv)=some b/\(b=false->(Value.ref c==valOf cv)=false)/\Q (.bl b) H
theorem Ym:bw X (.builtin "isinstance") (Yl X.K):=by
 intro pins s σ H xs us Q I r h;obtain ⟨a,c,cv,b,rfl,⟨o,y,ho,hc⟩,hx,hk,hm,hne,q⟩:=h;obtain ⟨u,w',rfl,rx,ry⟩:=vals2 r;cases rx;have e2:w'=valOf cv:=by
  cases cv with
  |ref a=>exact ry
  |ty n=>exact ry
  |_=>cases hk
 subst e2;have hob:=(show ObjOk X.prog X.w H s.heap a (.frz o (.own y)) from I.hok a _ ho).1;exact Yk I.kIn (Yb hx) hob hc hk hm hne λt'=>⟨.bl b,H,I.tok _,rfl,q⟩
end
section
variable {M:Model} {A:Around} {E:Value->Shared->Prop} {h:Heap} {g:Array GenState} {d:Drawn} {t:Nat} {os:OsState} {e:Addr} {oe:Obj} {K:PySem.W.Frag} {D C:Addr}
theorem Dg {Q:Bool->Shared->Prop} (X:K.In h) (he:h.get? e=some oe) (hcls:oe.cls=.ref D) (hC:typeIn K (.ref C)=some (.type "type")) (hk:(clsIn K C).isSome=true) (hB:mroIn K C (.type "BaseException")=some true) (hm:mroIn K D (.ref C)=some true)
  (hq:Q true ⟨h,g,d,t,os⟩):wpAny M A (excMatches (.ref e) (.ref C)) Q E ⟨h,g,d,t,os⟩:=by
 have f:=tc_notTuple;have L0:=looks_typeIn (M:=M) X hC;have L1:=looks_mroIn (M:=M) X hB;have L2:=looks_mroIn (M:=M) X hm;unfold clsIn at hk;split at hk
 ·rename_i c' d' cd' sl' ho;have hoC:=X _ _ ho;unfold excMatches;have hC2:(K.lookup C).map (·.cls)=some (.type "type"):=hC;rw[ho]at hC2;have ec:c'=.type "type":=by simpa using hC2
  subst ec;repeat (first | (with_reducible refine ge he ?_;rw[hcls]) |with_reducible refine ge hoC ?_ |with_reducible refine L1.at ?_ |with_reducible refine L2.at ?_ |wp_step)
  exact hq
 ·cases hk
end
section
variable {X:Cx} {pins:List (Addr×Obj)} {σ:St} {H:Hp} {s:Shared}
theorem Inv.tell(I:Inv X pins σ H s){a:Addr}{o:Obj}{vs:Array Value}(h0:X.s₀.heap.get? a=none)(hH:H a=none)(ho:s.heap.get? a=some o)(hd:o.data=.fields vs)(hp:∀p∈X.pn++pins,p.1≠a):
  Inv X pins σ (upd H a (.frz o (.own a))) s:=by
 have nl:X.env.locals≠a:=by intro e;obtain ⟨m,⟨o',es,ep,e1,e2,_⟩,_⟩:=I.loc;rw[e,ho]at e1;cases e1;rw[hd]at e2;cases e2
 have nc:∀x c,X.env.cells.lookup x=some c->c≠a:=by intro x c hc e;obtain ⟨v,o',e1,e2⟩:=I.cell x c hc;rw[e,ho]at e1;cases e1;rw[hd]at e2;cases e2
 refine ⟨I.ok,I.os,I.bare,⟨I.base.keep,I.base.slot,λb u q n hx=>?_,I.base.there,λb xs q=>?_,λb u v q=>?_,λb ps q=>?_⟩,I.loc,I.cell,by rw[aK nl];exact I.free,λx c e=>by rw[aK (nc x c e)];exact I.freeC x c e,λp hpp=>?_,λb u q=>?_,I.len⟩
 ·rw[aK (λe=>by rw[e,h0]at q;cases q)];exact I.base.free b u q n hx
 ·have q':=I.base.tups b xs q;rw[aK (bu q' hH)];exact q'
 ·have q':=I.base.frzs b u v q;rw[aK (bu q' hH)];exact q'
 ·obtain ⟨m,q'⟩:=I.base.tbls b ps q;exact ⟨m,by rw[aK (bu q' hH)];exact q'⟩
 ·obtain ⟨p1,p2,p3⟩:=I.pin p hpp;exact ⟨p1,by rw[aK (hp p hpp)];exact p2,p3⟩
 ·by_cases hb:b=a
  ·subst hb;rw[dh]at q;cases q;exact ⟨ho,o,ho⟩
  ·rw[aK hb]at q;exact (I.hok b u q).stay (λ_ _ _ z=>z) (λc z=>by rw[aK (bu z hH)];exact z) λc xs z=>by rw[aK (bu z hH)];exact z
end
section
variable {X:Cx}
abbrev TX:=(St->Hp->Prop)->(Value->St->Hp->Prop)->St->Hp->Prop
def XP(X:Cx)(pins:List (Addr×Obj))(ex:Value->St->Hp->Prop)(σ:St)(e:Value)(s1:Shared):Prop:=∃a c H1 s0 H',e=.ref a/\Inv X pins σ H1 s0/\Caught X H1 s0 H' a c s1/\ex c σ H'
def NP(X:Cx)(pins:List (Addr×Obj))(nx:St->Hp->Prop)(f:Flow)(s1:Shared):Prop:=f=.next/\∃σ' H',Inv X pins σ' H' s1/\nx σ' H'
def PXs(X:Cx)(sts:List Stmt)(t:TX):Prop:=
 ∀(pins:List (Addr×Obj))(s:Shared)(σ:St)(H:Hp)(nx:St->Hp->Prop)(ex:Value->St->Hp->Prop)(E':Value->Shared->Prop),Inv X pins σ H s->PassesOwn (model X.prog X.w) X.A X.env E'->(∀e s1,XP X pins ex σ e s1->E' e s1)->t nx ex σ H->
  wpAny (model X.prog X.w) X.A (execs sts X.env) (NP X pins nx) E' s
theorem Yn{k:Nat}{f:Addr}{fd:FuncData}{ps:List Str}{sp:Sp}{x:Str}{p cpos p0:Pos}{e:Expr}{es:List Expr}{ta:TA}
  (F:FnOk X.prog X.w X.K X.mg X.base (CX1 X.prog X.w) k f fd ps sp) (hr:Room k X.A) (hg:Gl X x) (hm:X.mg x=some (.ref f)) (hk:PySem.W.keepIn X.K (.ref f)=true) (hbd:Binds X.K fd ps [])
  (ha:∀E':Value->Shared->Prop,PassesOwn (model X.prog X.w) X.A X.env E'->PA (X.wish E') (e::es) ta)
  (hs:swapsWith (.Call (.Name x p) (e::es) [] cpos) none p0.line X.env=pure false)
  (hdb:(x==("__debug__":Str))=false:=by decide) (he:starEach (e::es) X.env=(false,eval e X.env)::starEach es X.env:=by rfl) (hpl:(backTo cpos (starEach es X.env)).any (·.1)=false:=by rfl):
  PXs X [.Expr (.Call (.Name x p) (e::es) [] cpos) p0] (λnx ex σ H=>ta σ H λvs H1=>sp vs H1 (λ_ H2=>nx σ H2) (λc _ H2=>ex c σ H2)):=by
 intro pins s σ H nx ex E' I hpo hE h;refine wpAny_execs_cons (wpAny_Expr_any (wpAny_Call_Name_kw (jh (X:=X.wish E') (I.wish E') hg hm ?_ hdb)) I.quiet hs);refine PySem.W.callWith_K (h₀:=X.base) I.ok.mod.kin hk (thn (ha _ hpo cpos pins s σ H _ (I.wish _) h) λus s1 hy=>?_) he hpl;obtain ⟨vs,H1,I1,r,q⟩:=hy;have I1:=I1.unwish;refine ⟨I1.kIn,?_⟩;have hl:us.length=ps.length:=by rw[<-r.length];exact F.len _ _ _ _ q
 have hb2:=hbd s1 us I1.kIn (by rw[ee];exact hl);rw[ee]at hb2;refine wpAny_call (codeAny_mono (F.run X.A X.stack s1 H1 ⟨us,[]⟩ us vs _ _ hr I1.env0 hb2 r q) λrr s2 hq=>?_);cases rr with
 |error ev=>
  obtain ⟨a,c,H2,rfl,ho,hgn,un,hok,tr,qn⟩:=hq;exact hE _ _ ⟨a,c,H1,s1,H2,rfl,I1,⟨ho,hgn,un,hok,tr⟩,qn⟩
 |ok fl=>
  cases fl with
  |ret u=>
   obtain ⟨v,H2,I2,r2,q2⟩:=I1.after hq;exact fN ⟨rfl,σ,H2,I2,q2⟩
  |next=>exact False.elim hq
  |brk=>exact False.elim hq
  |cont=>exact False.elim hq
theorem Yo{prog:Program}{w:World}{A:Around}{E:Value->Shared->Prop}{s:Shared}{env:Env}{K:PySem.W.Frag}{e C D:Addr}{t:Expr}{b₀:Stmt}{suite:List Stmt}{pos:Pos}{rest:List ExceptHandler}{Q:Flow->Shared->Prop}
  (hC:typeIn K (.ref C)=some (.type "type")) (hk:(clsIn K C).isSome=true) (hB:mroIn K C (.type "BaseException")=some true) (hm:mroIn K D (.ref C)=some true)
  (h:wpAny (model prog w) (A.mark (some (.ref e))) (eval t env) (λc s₁=>c=.ref C/\K.In s₁.heap/\(∃oe,s₁.heap.get? e=some oe/\oe.cls=.ref D)/\
   wpAny (model prog w) (A.mark (some (.ref e))) (setFlight (.ref e) none) (λ_ s₂=>wpAny (model prog w) (A.mark (some (.ref e))) (execs (b₀::suite) env) Q (notedBy (model prog w) (A.mark (some (.ref e))) env (cameBackBy (model prog w) A env E)) s₂) (notedBy (model prog w) (A.mark (some (.ref e))) env (cameBackBy (model prog w) A env E)) s₁) (notedBy (model prog w) (A.mark (some (.ref e))) env (cameBackBy (model prog w) A env E)) s):
  wpAny (model prog w) A (handleBy (.ref e) env (.ExceptHandler (some t) none (b₀::suite) pos::rest)) Q E s:=by
 refine wpAny_handleBy_cons (codeAny_handlers_test (cw h (λc s₁ h₁=>?_) λ_ _ y=>y)) (by intro q;cases q);obtain ⟨rfl,O,⟨oe,he,hcls⟩,hkk⟩:=h₁;obtain ⟨hh,g,d,tk,os⟩:=s₁;exact Dg O he hcls hC hk hB hm (codeAny_handlers_suite hkk)
theorem Yp{prog:Program}{w:World}{A:Around}{E:Value->Shared->Prop}{s:Shared}{env:Env}{K:PySem.W.Frag}{e C D:Addr}{t:Expr}{n:Str}{b₀:Stmt}{suite:List Stmt}{pos:Pos}{rest:List ExceptHandler}{Q:Flow->Shared->Prop}
  (hC:typeIn K (.ref C)=some (.type "type")) (hk:(clsIn K C).isSome=true) (hB:mroIn K C (.type "BaseException")=some true) (hm:mroIn K D (.ref C)=some true)
  (h:wpAny (model prog w) (A.mark (some (.ref e))) (eval t env) (λc s₁=>c=.ref C/\K.In s₁.heap/\(∃oe,s₁.heap.get? e=some oe/\oe.cls=.ref D)/\
   wpAny (model prog w) (A.mark (some (.ref e))) (setFlight (.ref e) none) (λ_ s₂=>
     wpAny (model prog w) (A.mark (some (.ref e))) (storeName env n (.ref e)) (λ_ s₃=>
      wpAny (model prog w) (A.mark (some (.ref e))) (execs (b₀::suite) env)
       (λf s₄=>wpAny (model prog w) A (do bindName env n .none;unbindBehindTheSuite env n pos) (λ_ s₅=>Q f s₅) E s₄)
       (AsSuiteRaised (model prog w) (A.mark (some (.ref e))) env n pos (notedBy (model prog w) (A.mark (some (.ref e))) env (cameBackBy (model prog w) A env E))) s₃) (notedBy (model prog w) (A.mark (some (.ref e))) env (cameBackBy (model prog w) A env E)) s₂) (notedBy (model prog w) (A.mark (some (.ref e))) env (cameBackBy (model prog w) A env E)) s₁) (notedBy (model prog w) (A.mark (some (.ref e))) env (cameBackBy (model prog w) A env E)) s):
  wpAny (model prog w) A (handleBy (.ref e) env (.ExceptHandler (some t) (some n) (b₀::suite) pos::rest)) Q E s:=by
 refine wpAny_handleBy_cons (codeAny_handlers_test (cw h (λc s₁ h₁=>?_) λ_ _ y=>y)) (by intro q;cases q);obtain ⟨rfl,O,⟨oe,he,hcls⟩,hkk⟩:=h₁;obtain ⟨hh,g,d,tk,os⟩:=s₁;exact Dg O he hcls hC hk hB hm (codeAny_handlers_suite_as hkk)
structure Cat(K:PySem.W.Frag)(C:Addr):Prop where
 t:typeIn K (.ref C)=some (.type "type")
 c:(clsIn K C).isSome=true
 b:mroIn K C (.type "BaseException")=some true
noncomputable def qX (K:PySem.W.Frag) (C:Addr):Bool:=typeIn K (.ref C)==some (.type "type")&&(clsIn K C).isSome&&mroIn K C (.type "BaseException")==some true
theorem Dh{K:PySem.W.Frag}{C:Addr}(h:qX K C=true):Cat K C:=by unfold qX at h;rw[ae,ae,av,av]at h;exact ⟨h.1.1,h.1.2,h.2⟩
theorem Yq{C:Addr}{cx y:Str}{i:Nat}{b:Bool}{j:Nat}{p1 p2 p3 p4 p5 pos:Pos}{body:List Stmt}{t:TX}(hb:PXs X body t)(hst:X.stack=X.env::X.outer)
  (hcg:Gl X cx) (hcm:X.mg cx=some (.ref C)) (hcb:Cat X.K C) (hN:X.N.Nodup) (hi:X.N[i]?=some y) (hx:Loc X.env.scope y) (hf:X.fn y=true\/X.env.scope.names.lookup y=some .local)
  (hs2:swapsWith (.Constant (.bool b) j p3) (some (.Name y p2)) p4.line X.env=pure false:=by rfl) (hdc:(cx==("__debug__":Str))=false:=by decide):
  PS X (.Try body [.ExceptHandler (some (.Name cx p1)) none [.Assign [.Name y p2] (.Constant (.bool b) j p3) p4] p5] [] [] pos)
   (λD σ H=>t D.nx (λc σ' H2=>∃d,c=.ref d/\mroIn X.K d (.ref C)=some true/\D.nx (σ'.set i (some (.bl b))) H2) σ H):=by
 intro pins s σ H D I h;refine wpAny_Try_except (cw (hb pins s σ H _ _ _ I PassesOwn.looking (λe s1 q=>?_) h) (λf s1 q=>?_) λ_ _ q=>q)
 ·obtain ⟨a,c,H1,s0,H2,rfl,I1,K,d,rfl,hm,qn⟩:=q;refine K.note I1 hst λh3 K3=>Yo (K:=X.K) (C:=C) (D:=d) hcb.t hcb.c hcb.b hm ?_;have J3:=K3.inv I1;have hcl:∃oe,h3.get? a=some oe/\oe.cls=.ref d:=by
   obtain ⟨oe,_,_,_,_,t1,t2,_⟩:=K3.tr;exact ⟨oe,t1,t2⟩
  refine jh (X:=X.marked a X.xe) (J3.marked a X.xe) hcg hcm ⟨rfl,J3.kIn,hcl,?_⟩ hdc;refine K3.flight I1 λh4 K4=>?_;have J4:=K4.inv I1;exact cw (Ay (qL (X:=X.marked a _) hN hi hx Ar hs2 hf) pins _ σ H2 D (J4.marked a _) qn) (λf s5 z=>z.unmarked J4.ok) λ_ _ z=>z
 ·obtain ⟨rfl,σ',H',I',q'⟩:=q;exact fN ⟨σ',H',I',q'⟩
theorem Yr{M:Model}{A:Around}{E:Value->Shared->Prop}{pins:List (Addr×Obj)}{σ:St}{H:Hp}{s:Shared}{i:Nat}{x:Str}{pos:Pos}{Q:Unit->Shared->Prop}(I:Inv X pins σ H s)(hN:X.N.Nodup)(hi:X.N[i]?=some x)(hk:X.env.kindOf x=some .local)
  (h:∀s',Inv X pins (σ.set i none) H s'->Q () s'):wpAny M A (do bindName X.env x .none;unbindBehindTheSuite X.env x pos) Q E s:=by
 obtain ⟨m,hn,hl⟩:=id I.loc;have hcls:(X.env.scope.kind==.class||(X.env.scope.kind==.module&&X.env.locals != X.env.globals))=false:=by rw[I.ok.kind];rfl
 have hiσ:i < σ.length:=by rw[I.len];exact (ar.mp hi).1
 have cne:=I.cne;have tracked:∀{a:Addr}{h':Heap},(∃o,s.heap.get? a=some o/\H a=none)->Heap.SameBut a s.heap h'->HOk X.prog X.w H h':=λ{a h'} ha hs b ob e=>by
  obtain ⟨_,_,hfree⟩:=ha;refine (I.hok b ob e).stay (λc w' hc q=>(hs.2 c ?_).trans q) (λ_ q=>q) λ_ _ q=>q;rintro rfl;rcases hc with rfl |hc
  ·rw[hfree]at e;cases e
  ·rw[hfree]at hc;cases hc
 refine wpAny_nameGoes_keeps hk hn hcls λh' v hn' hs=>?_;obtain ⟨oL,_,_,hoL,_⟩:=id hn;refine h _ ⟨I.ok,I.os,I.bare,⟨λb o e n hb hx=>?_,λb o e n hb hx=>?_,I.base.free,λb o e hx=>?_,I.base.tups,I.base.frzs,I.base.tbls⟩,⟨_,hn',λj y v' e1 e2 e3=>?_⟩,λy c e=>?_,I.free,I.freeC,λp hp=>?_,tracked ⟨oL,hoL,I.free⟩ hs,by simpa using I.len⟩
 ·exact (hs.2 b (cq (bi (ax e) I.ok.above))).trans (I.base.keep b o e n hb hx)
 ·obtain ⟨sl,e1⟩:=I.base.slot b o e n hb hx;exact ⟨sl,(hs.2 b (cq (bi (ax e) I.ok.above))).trans e1⟩
 ·obtain ⟨o',e1⟩:=I.base.there b o e hx;exact ⟨o',(hs.2 b (cq (bi (ax e) I.ok.above))).trans e1⟩
 ·by_cases hj:j=i
  ·subst hj;rw[fF hiσ]at e2;cases e2
  ·rw[List.getElem?_set_ne (Ne.symm hj)]at e2;obtain ⟨u',r',q⟩:=hl j y v' e1 e2 e3;refine ⟨u',r',?_⟩;rcases q with ⟨k,e⟩ |⟨k,c,e,z⟩
   ·refine .inl ⟨k,?_⟩;have:y≠x:=λe=>hj (wj hN e1 (e ▸ hi));simp[this,e]
   ·exact .inr ⟨k,c,e,z.sameBut hs (cne y c e)⟩
 ·obtain ⟨w',z⟩:=I.cell y c e;exact ⟨w',z.sameBut hs (cne y c e)⟩
 ·obtain ⟨e,n,ne,nf,d⟩:=I.pin p hp;exact ⟨(hs.2 p.1 ne).trans e,n,ne,nf,d⟩
theorem Ys{C:Addr}{cx y n:Str}{i jn:Nat}{p1 p2 p3 p4 p5 pos:Pos}{body:List Stmt}{t:TX}(hb:PXs X body t)(hst:X.stack=X.env::X.outer)(hex:X.ex=[])
  (hcg:Gl X cx) (hcm:X.mg cx=some (.ref C)) (hcb:Cat X.K C) (hN:X.N.Nodup) (hi:X.N[i]?=some y) (hx:Loc X.env.scope y) (hf:X.fn y=true\/X.env.scope.names.lookup y=some .local)
  (hj:X.N[jn]?=some n) (hnk:X.env.kindOf n=some .local) (hnl:X.env.scope.names.lookup n=some .local) (hnd:(n==("__debug__":Str))=false) (hnc:(n==("__classdict__":Str))=false)
  (hs2:swapsWith (.Name n p3) (some (.Name y p2)) p4.line X.env=pure false) (hdc:(cx==("__debug__":Str))=false:=by decide):
  PS X (.Try body [.ExceptHandler (some (.Name cx p1)) (some n) [.Assign [.Name y p2] (.Name n p3) p4] p5] [] [] pos)
   (λD σ H=>t D.nx (λc σ' H2=>∃d,c=.ref d/\mroIn X.K d (.ref C)=some true/\∀a o,H2 a=none->o.cls=.ref d->D.nx (((σ'.set jn (some (.ref a))).set i (some (.ref a))).set jn none) (upd H2 a (.frz o (.own a)))) σ H):=by
 intro pins s σ H D I h;refine wpAny_Try_except (cw (hb pins s σ H _ _ _ I PassesOwn.looking (λe s1 q=>?_) h) (λf s1 q=>?_) λ_ _ q=>q)
 ·obtain ⟨a,c,H1,s0,H2,rfl,I1,K,d,rfl,hm,qn⟩:=q;refine K.note I1 hst λh3 K3=>Yp (K:=X.K) (C:=C) (D:=d) hcb.t hcb.c hcb.b hm ?_;have J3:=K3.inv I1;have hcl:∃oe,h3.get? a=some oe/\oe.cls=.ref d:=by
   obtain ⟨oe,_,_,_,_,t1,t2,_⟩:=K3.tr;exact ⟨oe,t1,t2⟩
  refine jh (X:=X.marked a X.xe) (J3.marked a X.xe) hcg hcm ⟨rfl,J3.kIn,hcl,?_⟩ hdc;refine K3.flight I1 λh4 K4=>?_;have J4:=K4.inv I1;obtain ⟨oe,vs,T,oT,ts,t1,t2,t3,t4,t6,t7,t8,t9,n1,n2,n3,n4⟩:=K4.tr;have n0:X.s₀.heap.get? a=none:=by
   cases e:X.s₀.heap.get? a with
   |none=>rfl
   |some o=>
    obtain ⟨o',e'⟩:=I1.base.there a o e (by rw[hex];simp);rw[n1]at e';cases e'
  have J5:=J4.tell n0 n3 t1 t3 (λp hp e=>by
   obtain ⟨e1,_⟩:=I1.pin p hp;rw[e,n1]at e1;cases e1)
  have q5:=qn a oe n3 t2;refine lg (X:=X.marked a X.xe) (J5.marked a X.xe) hN hj (.inl hnl) (v:=.ref a) rfl (λs6 J6=>?_) (.inr hnl);have J6':Inv X pins (σ.set jn (some (.ref a))) (upd H2 a (.frz oe (.own a))) s6:=J6.unmarked J4.ok;have hl6:jn < σ.length:=by rw[I1.len];exact (ar.mp hj).1
  refine cw (Ay (qL (X:=X.marked a _) hN hi hx (wk (i:=jn) hj (.inl hnl) hnd hnc) hs2 hf) pins s6 _ _ { nx:=λσ' H'=>D.nx (σ'.set jn none) H',rt:=λ_ _=>False,bk:=λ_ _=>False,ct:=λ_ _=>False } (J6'.marked a _) ⟨.ref a,fF hl6,q5⟩) (λf s7 z=>?_) λ_ _ z=>z;have z':=z.unmarked (X:=X) J4.ok;cases f with
  |next=>
   obtain ⟨σ7,H7,I7,q7⟩:=z';exact Yr I7 hN hj hnk λs8 I8=>⟨_,H7,I8,q7⟩
  |brk=>obtain ⟨_,_,_,q⟩:=z';exact q.elim
  |cont=>obtain ⟨_,_,_,q⟩:=z';exact q.elim
  |ret u=>obtain ⟨_,_,_,_,_,q⟩:=z';exact q.elim
 ·obtain ⟨rfl,σ',H',I',q'⟩:=q;exact fN ⟨σ',H',I',q'⟩
end
open PySem.SeqAt
section
variable {X:Cx}
theorem wK:∀{bs:List Bool}{us:List Value},Vals (bs.map V.bl) us->us=bs.map Value.bool
 |[],us,r=>by cases r;rfl
 |b::bs,us,r=>by
  cases r with
  |cons r1 r2=>
   have e:_=Value.bool b:=r1;rw[e,wK r2];rfl
theorem Di(k:Bool){bs:List Bool}:∀y,y∈(bs.map Value.bool)->∀(A:Around)(s:Shared),EqAt A s y (.bool k) (isBoolOf k y):=by intro y hy A s;obtain ⟨b,_,rfl⟩:=cm.mp hy;exact EqAt.bool_bool b k
theorem Yt(k:Bool)(bs:List Bool):(bs.map Value.bool).countP (isBoolOf k)=bs.count k:=by
 induction bs with
 |nil=>rfl
 |cons b bs ih=>
  rw[b6,List.countP_cons,ih,List.count_cons];rfl
noncomputable def Yu(K:PySem.W.Frag):V->List V->Hp->VK->Prop:=λx vs H Q=>∃(p:Addr)(bs:List Bool),x=.ref p/\vs=[.bl true]/\SqL K H p (bs.map V.bl)/\Q (.int (bs.count true:Nat)) H
theorem Yv:MtR X "list.count" (Yu X.K):=by intro pins s σ H x xs v us Q I rx rs h;obtain ⟨p,bs,rfl,rfl,hq,q⟩:=h;cases rx;obtain ⟨u,rfl,ru⟩:=vals1 rs;cases ru;obtain ⟨its,rv,⟨o,n,ho,hc,hd,hdd⟩,hz⟩:=I.list hq;obtain ⟨cls,dd,data,sl⟩:=o;simp only at hc hd hdd;subst hc hd hdd;have e:=wK rv;subst e;refine fS PySem.F.slot_list_count ⟨_,ho,rfl⟩ PySem.F.entry_list_count (PySem.F.args_list_count_2 _ _) (list_countAt p _ n _ sl (.bool true) (isBoolOf true)) ⟨ho,λy hy=>Di true y (by simpa using hy) _ _,?_⟩;refine ⟨.int _,H,I.tok _,⟨_,rfl⟩,?_⟩;rw[show ((bs.map Value.bool).toArray).toList=bs.map Value.bool from rfl,Yt];exact q
noncomputable def Yw(K:PySem.W.Frag):V->List V->Hp->VK->Prop:=λx vs H Q=>∃(p:Addr)(bs:List Bool),x=.ref p/\vs=[.bl true]/\SqL K H p (bs.map V.bl)/\true∈bs/\Q (.int (bs.idxOf true:Nat)) H
theorem Dj(bs:List Bool)(j:Nat)(h:j < (bs.map Value.bool).length)(h':j < bs.length):isBoolOf true (bs.map Value.bool)[j]=(bs[j]==true):=by rw[List.getElem_map];rfl
theorem Yx:MtR X "list.index" (Yw X.K):=by
 intro pins s σ H x xs v us Q I rx rs h;obtain ⟨p,bs,rfl,rfl,hq,hin,q⟩:=h;cases rx;obtain ⟨u,rfl,ru⟩:=vals1 rs;cases ru;obtain ⟨its,rv,⟨o,n,ho,hc,hd,hdd⟩,hz⟩:=I.list hq;obtain ⟨cls,dd,data,sl⟩:=o;simp only at hc hd hdd;subst hc hd hdd;have e:=wK rv;subst e;have hj:bs.idxOf true < bs.length:=List.idxOf_lt_length_iff.mpr hin;have hz':bs.length<=sizeLine:=by rw[ah]at hz;exact hz
 have hs:sizeLine < 2 ^ 63 - 1:=by decide
 refine fS PySem.F.slot_list_index ⟨_,ho,rfl⟩ PySem.F.entry_list_index (PySem.F.args_list_index_2 _ _) (list_indexAt p _ n _ sl (.bool true) (isBoolOf true) (bs.idxOf true) (by simpa using hj) (by omega) ?_ ?_) ⟨ho,λy hy=>Di true y (by simpa using hy) _ _,?_⟩
 ·have h3:bs.idxOf true < (bs.map Value.bool).length:=by rw[ah];exact hj
  show isBoolOf true ((bs.map Value.bool)[bs.idxOf true]'h3)=true;rw[Dj bs _ h3 hj];simpa using List.getElem_idxOf hj
 ·intro j hjs hlt;have h2:j < bs.length:=by omega
  have h3:j < (bs.map Value.bool).length:=by rw[ah];exact h2
  show isBoolOf true ((bs.map Value.bool)[j]'h3)=false;rw[Dj bs j h3 h2];have h4:j < bs.findIdx (·==true):=hlt;simpa using List.not_of_lt_findIdx h4
 ·exact ⟨.int _,H,I.tok _,⟨_,rfl⟩,q⟩
end
section
variable {X:Cx}
theorem Yy:OpR X (binaryOp .FloorDiv) (rI (λ_ j=>0 < j/\j < 1152921504606846976) λi j=>.int (i / j)):=opI λi j _ _ _ _ _ hc q=>by
 have h1:(0:Int) < j:=hc.1;have h2:j < 1152921504606846976:=hc.2;refine floordiv_int (by omega) (by rw[Int.fdiv_eq_ediv_of_nonneg i (by omega)];exact q) (.inl (PyProof.noPylong_of_log2 ?_));have:j.natAbs.log2 < 60:=(Nat.log2_lt (by omega)).mpr (by show j.natAbs < 1152921504606846976;omega);omega
def wL(m:Nat):Str:=Str.ofString (toString (m:Int))
theorem Yz{m:Nat}(h:m < 100):(m:Int).natAbs.log2 < 1920:=by have:(m:Int).natAbs=m:=Int.natAbs_natCast m;rw[this];exact Nat.lt_of_le_of_lt (Nat.log2_le_self m) (by omega)
theorem YB:bw X (.type "str") (λxs H Q=>∃m:Nat,xs=[.int m]/\m < 100/\Q (.str (wL m)) H):=by intro pins s σ H xs us Q I r h;obtain ⟨m,rfl,hm,q⟩:=h;obtain ⟨u,rfl,ru⟩:=vals1 r;obtain ⟨t,rfl⟩:=ru;exact PySem.P.str_of_int (Yz hm) ⟨.str _,H,I.tok _,⟨_,rfl⟩,q⟩
end
end L2
namespace HT
open PySem PySem.Spec PyProof.Rows Builtin
theorem YC:fillsNumberSlot (.type "tuple") "mul"=pure false:=
 PySem.fillsNumberSlot_seq (id:="tuple.__mul__") (r:=some (.builtin "tuple.__rmul__")) PySem.F.slot_tuple_mul.lookup (by decide +kernel) PySem.F.slot_tuple_rmul.lookup (by decide +kernel)
theorem YD:seqRepeat? (.type "tuple")=pure (some (.builtin "tuple.__mul__")):=by unfold seqRepeat?;rw[PySem.seqSlot_of (T:="tuple") (name:="__mul__") (id:="tuple.__mul__") PySem.F.slot_tuple_mul.lookup (by decide +kernel),PySem.seqSlot_of (T:="tuple") (name:="__rmul__") (id:="tuple.__rmul__") PySem.F.slot_tuple_rmul.lookup (by decide +kernel)];rfl
theorem YF(a:Int)(t:Tok)(l:Addr)(items:Array Value)(n:Nat)(dd:Option Addr)(sl:Array (Option Value)):
  Meets (Builtin.«int.__rmul__» ⟨[.int a t,.ref l],[]⟩) (λ_ R s=>s.heap.get? l=some { cls:=.type "tuple",dict:=dd,data:=.seq items n,slots:=sl }/\R (.ok (.ret Value.notImplemented)) s):=
 .of_wp λprog w A R s h=>by obtain ⟨hp,g,d,tk,os⟩:=s;obtain ⟨hl,h⟩:=h;wp_walk;exact ⟨_,rfl,h⟩
theorem YG(l:Addr)(items:Array Value)(n:Nat)(dd:Option Addr)(sl:Array (Option Value))(k:Int)(t:Tok)(h2:2<=k)(hk:k<=1000)(hne:items.isEmpty=false)(hz:items.size * k.toNat<=sizeLine)(hz2:(List.foldl (λx1 x2=>x1++x2) #[] (List.replicate k.toNat items)).size<=sizeLine):
  Meets (Builtin.«tuple.__mul__» ⟨[.ref l,.int k t],[]⟩) (λ_ R s=>s.heap.get? l=some { cls:=.type "tuple",dict:=dd,data:=.seq items n,slots:=sl }/\
   R (.ok (.ret (.ref s.heap.objs.size))) { s with heap:=s.heap.push { cls:=.type "tuple",data:=.seq ((List.replicate k.toNat items).foldl (· ++ ·) #[]) } }):=
 .of_wp λprog w A R s h=>by
  obtain ⟨hp,g,d,tk,os⟩:=s;obtain ⟨hl,h⟩:=h;have a1:(decide (k < -(2 ^ 63))||decide (k≥2 ^ 63))=false:=by rw[decide_eq_false (by omega),decide_eq_false (by omega)];rfl
  have a2:(items.isEmpty||k==1)=false:=by rw[hne,Bool.false_or,beq_eq_false_iff_ne];omega
  have a3:(decide (k<=0)||items.isEmpty)=false:=by rw[decide_eq_false (by omega),hne];rfl
  have hs:(items.size:Int) * k=((items.size * k.toNat:Nat):Int):=by rw[Int.natCast_mul,Int.toNat_of_nonneg (by omega)]
  have hsl:sizeLine<=1152921504606846975:=by decide
  have a4:¬((items.size:Int) * k > (2 ^ 63 - 1) / 8):=by rw[hs];omega
  have a5:¬(Tuple.tupleTooMany ((items.size:Int) * k)=true):=by unfold Tuple.tupleTooMany;rw[decide_eq_true_iff,hs];omega
  wp_walk
  rw[if_neg (by rw[a1];exact Bool.false_ne_true)];wp_walk
  rw[if_neg (by rw[a2];exact Bool.false_ne_true)];dsimp only;rw[if_neg (by rw[a3];exact Bool.false_ne_true),if_neg a4,if_neg a5];unfold Tuple.tupleExact;wp_walk
  exact ⟨_,rfl,h⟩
end HT
namespace L2
open PySem PySem.Spec PyProof.Rows
section
variable {X:Cx}
def YH(K:PySem.W.Frag):R2:=λx y H Q=>∃(l:Addr)(k:Int)(xs:List V),x=.ref l/\y=.int k/\SqT K H l xs/\xs≠[]/\2<=k/\k<=1000/\xs.length * k.toNat<=sizeLine/\∀p,H p=none->Q (.ref p) (upd H p (.tup (List.replicate k.toNat xs).flatten))
theorem YJ:OpR X (binaryOp .Mult) (YH X.K):=by
 intro pins s σ H x y v u Q I rx ry h;obtain ⟨l,k,xs,rfl,rfl,hT,hne,h2,hk,hz,q⟩:=h;cases rx;obtain ⟨t,rfl⟩:=ry;obtain ⟨its,r,pt,_⟩:=I.tuple hT;obtain ⟨⟨cls,dd,data,sl⟩,ho,hc,n,hd⟩:=id pt;simp only at hc hd;subst hc hd;have hl:=r.length;have hz':its.toArray.size * k.toNat<=sizeLine:=by rw[am,<-hl];exact hz
 have he:its.toArray.isEmpty=false:=by
  cases its with
  |nil=>exact absurd (df.mp hl) hne
  |cons _ _=>rfl
 have hnew:List.foldl (λx1 x2=>x1++x2) #[] (List.replicate k.toNat its.toArray)=(List.replicate k.toNat its).flatten.toArray:=by have:=foldl_rep its k.toNat [];rw[List.nil_append]at this;exact this
 refine wpAny_binaryOp_repeat_ref (T:="tuple") (U:="int") (by decide) ⟨_,ho,rfl⟩ (λs'=>typeIs_int s' k t) HT.YC F.fills_int_mul F.slot_int_rmul HT.YD F.slot_int_index.lookup
  (fS F.slot_int_rmul (typeIs_int s k t) F.entry_int_rmul (F.args_int_rmul_2 _ _) (HT.YF k t l its.toArray n dd sl)
   ⟨ho,rfl,⟨_,ho,rfl⟩,fS PySem.F.slot_tuple_mul ⟨_,ho,rfl⟩ PySem.F.entry_tuple_mul (PySem.F.args_tuple_mul_2 _ _) (HT.YG l its.toArray n dd sl k t h2 hk he hz' (by rw[hnew,am,len_rep,Nat.mul_comm,<-hl];exact hz)) ⟨ho,?_⟩⟩)
 rw[hnew];refine ⟨.ref s.heap.objs.size,_,I.laid (t':=s.toks) (o:=.tup (List.replicate k.toNat xs).flatten) (λb ob q=>al _ q) (aw _) ?_,rfl,q _ (I.hok.fresh (aw _))⟩;exact ⟨by rw[len_rep,Nat.mul_comm];exact hz,_,r.rep k.toNat,IsTup.new _ _⟩
end
end L2
namespace HT
open PySem PySem.Spec PyProof.Rows Builtin
theorem YK(a:Int)(t:Tok)(l:Addr)(items:Array Value)(n:Nat)(dd:Option Addr)(sl:Array (Option Value)):
  Meets (Builtin.«int.__rmul__» ⟨[.int a t,.ref l],[]⟩) (λ_ R s=>s.heap.get? l=some { cls:=.type "list",dict:=dd,data:=.seq items n,slots:=sl }/\R (.ok (.ret Value.notImplemented)) s):=
 .of_wp λprog w A R s h=>by obtain ⟨hp,g,d,tk,os⟩:=s;obtain ⟨hl,h⟩:=h;wp_walk;exact ⟨_,rfl,h⟩
theorem YL(l:Addr)(items:Array Value)(n:Nat)(dd:Option Addr)(sl:Array (Option Value))(x:Int)(u:Tok)(hc0:¬(!Builtin.List.listFitsIndex x)=true)(hc1:¬items.size * x.toNat > (2 ^ 63 - 1) / 8)(hc2:¬Builtin.List.listTooLong (items.size * x.toNat)=true):
  Meets (Builtin.«list.__mul__» ⟨[.ref l,.int x u],[]⟩) (λ_ R s=>s.heap.get? l=some { cls:=.type "list",dict:=dd,data:=.seq items n,slots:=sl }/\R (.ok (.ret (Value.ref s.heap.objs.size))) { s with heap:=s.heap.push { cls:=Value.type "list",data:=Data.seq (List.foldl (λx1 x2=>x1++x2) #[] (List.replicate (if items.isEmpty=true then 0 else x.toNat) items)) },toks:=s.toks }):=
 .of_wp λprog w A R s h=>by
  obtain ⟨hp,g,d,tk,os⟩:=s;obtain ⟨hl,h⟩:=h;have hsz:=AutoListH.joined_fits hc2;wp_walk;refine wpAny_ite_false (decide_eq_false (Nat.not_lt.mpr hsz)) ?_;wp_walk;exact ⟨_,rfl,h⟩
end HT
namespace L2
open PySem PySem.Spec PyProof.Rows
section
variable {X:Cx}
def YM(K:PySem.W.Frag):R2:=λx y H Q=>∃(l:Addr)(k:Int)(xs:List V),x=.ref l/\y=.int k/\SqL K H l xs/\0<=k/\k<=1000/\xs.length * k.toNat<=sizeLine/\∀p,H p=none->Q (.ref p) (upd H p (.lst (List.replicate k.toNat xs).flatten))
theorem YQ:OpR X (binaryOp .Mult) (YM X.K):=by
 intro pins s σ H x y v u Q I rx ry h;obtain ⟨l,k,xs,rfl,rfl,hH,h1,h2,hz,q⟩:=h;cases rx;obtain ⟨t,rfl⟩:=ry;obtain ⟨its,r,⟨⟨cls,dd,data,sl⟩,n,e,c1,c2,c3⟩,_⟩:=I.list hH;simp only at c1 c2 c3;have hl:=r.length;have hlen:its.toArray.size * k.toNat<=sizeLine:=by rw[am,<-hl];exact hz
 have hcap:¬its.toArray.size * k.toNat > (2 ^ 63 - 1) / 8:=by
  have:(sizeLine:Nat)<=(2 ^ 63 - 1) / 8:=by decide
  omega
 have hfit:¬(!Builtin.List.listFitsIndex k)=true:=by rw[fitsIndex_both (by omega) (by omega)];exact br
 have hlong:¬Builtin.List.listTooLong (its.toArray.size * k.toNat)=true:=by rw[BZ hlen];exact br
 have hnew:List.foldl (λx1 x2=>x1++x2) #[] (List.replicate (if its.toArray.isEmpty=true then 0 else k.toNat) its.toArray)=(List.replicate k.toNat its).flatten.toArray:=by
  have f0:∀m:Nat,List.foldl (λx1 x2=>x1++x2) #[] (List.replicate m its.toArray)=(List.replicate m its).flatten.toArray:=λm=>by
   have:=foldl_rep its m [];rw[List.nil_append]at this;exact this
  rw[f0];cases its with
  |nil=>simp
  |cons a r'=>rw[if_neg (by simp)]
 subst c1 c3;refine wpAny_binaryOp_repeat_ref (T:="list") (U:="int") (by decide) ⟨_,e,rfl⟩ (λs'=>typeIs_int s' k t) noFill_list_mul F.fills_int_mul F.slot_int_rmul repeat_list F.slot_int_index.lookup
  (fS F.slot_int_rmul (typeIs_int s k t) F.entry_int_rmul (F.args_int_rmul_2 _ _) (HT.YK k t l its.toArray n dd sl)
   ⟨e,rfl,⟨_,e,rfl⟩,fS F.slot_list_mul ⟨_,e,rfl⟩ F.entry_list_mul (F.args_list_mul_2 _ _) (HT.YL l its.toArray n dd sl k t hfit hcap hlong) ⟨e,?_⟩⟩)
 rw[hnew];exact ⟨.ref _,_,I.lnew (t':=s.toks) (r.rep k.toNat) (by rw[len_rep,Nat.mul_comm];exact hz),rfl,q _ I.fresh⟩
end
end L2
namespace PySem
theorem YS:plainId "list.__iadd__"=true:=by decide +kernel
theorem YT:plainId "proto.collect"=true:=by decide +kernel
theorem YW{prog:Program}{w:World}{A:Around}{R:Result->Shared->Prop}{s:Shared}{r:Addr}{a b c:Int}{t u v:Tok}{n:Nat}(hh:A.handled=none)(hr:IsRange s.heap r a b c t u v)(hsmall:Builtin.Range.small a b c=true)
  (hn:Builtin.Range.rangeSize a b c=n) (hlen:n<=2 ^ 24)
  (hR:∀h' tk acc' c',(∀b o,s.heap.get? b=some o->h'.get? b=some o)->h'.get? s.heap.objs.size=some { cls:=.type "list",dict:=none,data:=.seq acc' c',slots:=#[] }->ItemsOf (λi v=>∃t,v=.int (a+i * c) t) acc' n->R (.ok (.ret (.ref s.heap.objs.size))) { s with heap:=h',toks:=tk }):
  codeAny (model prog w) A (.builtin "proto.collect" ⟨[.ref r],[]⟩) R s:=by
 refine codeAny_builtin PyProof.Rows.entry_proto_collect' ?_;rw[Around.under_plainId YT _];show wpAny _ _ (do again (.builtin "list.__iadd__" ⟨[<-newList [],.ref r],[]⟩)) _ _ s;refine wpAny_bind (wpAny_newList (wpAny_pure ⟨Code.quiet_builtin _ (by decide +kernel),codeAny_builtin PyProof.Rows.entry_list_iadd' ?_⟩));rw[Around.under_plainId YS _];have hS:(s.heap.push { cls:=.type "list",data:=.seq #[] }).get? s.heap.objs.size=some { cls:=.type "list",data:=.seq #[] }:=Heap.get?_push_size _ rfl;exact wpAny_extend_range (R:=R) (s:={ s with heap:=s.heap.push { cls:=.type "list",data:=.seq #[] } }) hh (Heap.get?_push_of_some _ hr) hsmall hn hlen s.heap.objs.size (.ref s.heap.objs.size) _ hS λh' tk acc' c' hk hS' hacc=>
  hR h' tk acc' c' (λb o e=>hk b o (Nat.ne_of_lt (Heap.lt_size e)) (Heap.get?_push_of_some _ e)) hS' hacc
open AutoSeq1 (wpAny_loadPart') in
theorem YX(r:Addr)(lo hi:Int)(t u v:Tok)(n:Nat)(hsmall:Builtin.Range.small lo hi 1=true)(hn:Builtin.Range.rangeSize lo hi 1=n)(hlen:n<=1000):
  Meets (Builtin.«tuple.__new__» ⟨[.type "tuple",.ref r],[]⟩)
   (λA R s=>A.handled=none/\IsRange s.heap r lo hi 1 t u v/\∀(h':Heap) (tk:Nat) (acc:Array Value),(∀b o',s.heap.get? b=some o'->h'.get? b=some o')->ItemsOf (λi v=>∃t,v=.int (lo+i * 1) t) acc n->R (.ok (.ret (.ref h'.objs.size))) { s with heap:=h'.push { cls:=.type "tuple",data:=.seq acc },toks:=tk }):=
 .of_wp λprog w A R s h=>by
  obtain ⟨hp,g,d,tk,os⟩:=s;obtain ⟨hh,ht,h⟩:=h;have hsub:=sub_tuple_self;have hinit:=init_tuple_lookup;have hmh:=madeHere_tuple;have hT:Shared.TypeIs ⟨hp,g,d,tk,os⟩ (.ref r) "range":=⟨_,ht,rfl⟩;wp_walk using wpAny_loadPart' ht,wpAny_typeOf hT
  refine YW (A:=A.in1) hh ht hsmall hn (by omega) λh' tk' acc c' hk hS' hacc=>?_;dsimp only;refine wpAny_bind (wpAny_load hS' (wpAny_pure ?_));show wpAny _ _ (Builtin.Tuple.tupleExact acc.toList.toArray >>= λv=>ret v) _ _ _;unfold Builtin.Tuple.tupleExact;refine wpAny_bind (wpAny_newObj_type ?_ (by show acc.toList.toArray.size<=sizeLine;rw[show acc.toList.toArray=acc by simp,hacc.1,sizeLine_eq];omega));refine wpAny_pure ⟨_,rfl,?_⟩;have e:acc.toList.toArray=acc:=by simp
  rw[e];exact h h' tk' acc hk hacc
theorem YZ{prog:Program}{w:World}{A:Around}{E:Value->Shared->Prop}{s:Shared}{Q:Value->Shared->Prop}{r:Addr}{lo hi:Int}{t u v:Tok}{n:Nat}(hh:A.handled=none)(hr:IsRange s.heap r lo hi 1 t u v)(hsmall:Builtin.Range.small lo hi 1=true)(hn:Builtin.Range.rangeSize lo hi 1=n)(hlen:n<=1000)
  (h:∀(h':Heap) (tk:Nat) (acc:Array Value),(∀b o',s.heap.get? b=some o'->h'.get? b=some o')->ItemsOf (λi v=>∃t,v=.int (lo+i * 1) t) acc n->Q (.ref h'.objs.size) { s with heap:=h'.push { cls:=.type "tuple",data:=.seq acc },toks:=tk }):
  wpAny (model prog w) A (call (.type "tuple") [.ref r]) Q E s:=
 callType_new F.called_tuple (by decide) (F.typeCall_tuple_1 _) (F.newCall_tuple_1 _) (λobj=>F.args_object_init_2 obj _) F.entry_tuple_new
  (YX r lo hi t u v n hsmall hn hlen) ⟨hh,hr,λh' tk acc hk ha=>⟨⟨_,Heap.get?_push_size _ rfl,rfl⟩,h h' tk acc hk ha⟩⟩
end PySem
namespace L2
open PySem PySem.Spec PyProof.Rows
section
variable {X:Cx}
theorem Dk{acc:Array Value}{n:Nat}(h:ItemsOf (λi v=>∃t,v=.int (0+i * 1) t) acc n):Vals ((List.range n).map λi=>V.int (i:Nat)) acc.toList:=by
 have hz:=h.1;obtain ⟨ys,hv⟩:=Cz acc.toList λv hv=>by
  obtain ⟨j,hj,ej⟩:=List.mem_iff_getElem.mp hv;have ej':acc[j]?=some v:=by rw[<-fe,aS hj,ej]
  obtain ⟨t,e⟩:=h.2 j v ej';exact ⟨.int (0+j * 1),t,e⟩
 have hl:ys.length=n:=by rw[hv.length,dv,hz]
 have e:ys=(List.range n).map λi=>V.int (i:Nat):=by
  refine List.ext_getElem? λi=>?_;by_cases hi:i < n
  ·obtain ⟨y,hy⟩:∃y,ys[i]?=some y:=⟨_,aS (by omega)⟩;obtain ⟨w,ew,rw'⟩:=hv.get hy;obtain ⟨t,e⟩:=h.2 i w (by rw[<-fe];exact ew);rw[hy,a9,List.getElem?_range hi,Option.map_some];subst e;cases y with
   |int k=>
    obtain ⟨t',e'⟩:=(show ∃t',Value.int (0+i * 1) t=Value.int k t' from rw');simp only[Value.int.injEq]at e';rw[<-e'.1];simp
   |non=>cases (show Value.int _ _=Value.none from rw')
   |bl b=>cases (show Value.int _ _=Value.bool b from rw')
   |str x=>obtain ⟨_,z⟩:=(show ∃t',Value.int _ _=Value.str x t' from rw');cases z
   |byt x=>obtain ⟨_,z⟩:=(show ∃t',Value.int _ _=Value.bytes x t' from rw');cases z
   |flt x=>obtain ⟨_,z⟩:=(show ∃t',Value.int _ _=Value.float x t' from rw');cases z
   |ref a=>cases (show Value.int _ _=Value.ref a from rw')
   |ty a=>cases (show Value.int _ _=Value.type a from rw')
  ·rw[fT (by omega),fT (by simp;omega)]
 rw[<-e];exact hv
theorem Dl {a:Expr} {ta:TA} {p pos:Pos} (hg:Gl X "range") (hm:X.mg "range"=none) (ha:PA X [a] ta) (hs:starEach [a] X.env=[(false,eval a X.env)]:=by rfl):
  PE X (.Call (.Name "range" p) [a] [] pos) (λσ H Q=>ta σ H λvs H1=>∃j:Int,vs=[.int j]/\∀r,H1 r=none->Q (.ref r) (upd H1 r (.rng 0 j))):=by
 intro pins s σ H Q I h;refine Call_ (fW I hg hm boot_range (de (thn (ha pos pins s σ H _ I h) λus s1 ⟨vs,H1,I1,r1,q1⟩=>?_) hs rfl));obtain ⟨j,e,q⟩:=q1;subst e;cases r1 with
 |cons r rr=>
  cases rr;obtain ⟨t,rfl⟩:=r;exact call_range_1 ⟨.ref s1.heap.objs.size,_,I1.laid (t':=s1.toks+1+1) (λb u z=>al _ z) (aw _) (show ObjOk X.prog X.w _ _ _ (.rng 0 j) from ⟨_,_,_,bd _ rfl⟩),rfl,q _ (I1.hok.fresh (aw _))⟩
theorem Dm(n:Nat):Builtin.Range.rangeSize 0 (n:Int) 1=n:=by rw[rangeSize_one];split <;> omega
theorem Y0 (hc:X.calm=true):bw X (.type "list") (λxs H Q=>∃(r:Addr) (n:Nat),xs=[.ref r]/\H r=some (.rng 0 n)/\n<=1000/\∀l,H l=none->Q (.ref l) (upd H l (.lst ((List.range n).map λi=>V.int (i:Nat))))):=by
 intro pins s σ H xs us Q I r h;obtain ⟨p,n,rfl,hq,hn,q⟩:=h;obtain ⟨u,rfl,rx⟩:=vals1 r;cases rx;obtain ⟨t1,t2,t3,ho⟩:=(show ObjOk X.prog X.w H s.heap p (.rng 0 n) from I.hok p _ hq);refine call_list_range (I.ok.hd hc) ho (small_one (by decide) (by decide) (by omega) (by omega)) (Dm n) (by omega) λh' tk acc c' kp e hi=>?_;have hv:=Dk hi;have hl:((List.range n).map λi=>V.int (i:Nat)).length<=sizeLine:=by rw[ah,List.length_range,fo];omega
 exact ⟨.ref s.heap.objs.size,_,I.laid (t':=tk) kp (aw _) (show ObjOk X.prog X.w _ h' _ (.lst _) from ⟨hl,acc.toList,c',hv,by rw[Array.toArray_toList];exact e⟩),rfl,q _ (I.hok.fresh (aw _))⟩
theorem Y4 (hc:X.calm=true):bw X (.type "tuple") (λxs H Q=>∃(r:Addr) (n:Nat),xs=[.ref r]/\H r=some (.rng 0 n)/\n<=1000/\∀l,H l=none->Q (.ref l) (upd H l (.tup ((List.range n).map λi=>V.int (i:Nat))))):=by
 intro pins s σ H xs us Q I r h;obtain ⟨p,n,rfl,hq,hn,q⟩:=h;obtain ⟨u,rfl,rx⟩:=vals1 r;cases rx;obtain ⟨t1,t2,t3,ho⟩:=(show ObjOk X.prog X.w H s.heap p (.rng 0 n) from I.hok p _ hq);refine YZ (I.ok.hd hc) ho (small_one (by decide) (by decide) (by omega) (by omega)) (Dm n) hn λh' tk acc kp hi=>?_;have hv:=Dk hi;have hl:((List.range n).map λi=>V.int (i:Nat)).length<=sizeLine:=by rw[ah,List.length_range,fo];omega
 have I1:Inv X pins σ H { s with heap:=h',toks:=tk }:=I.kept (t':=tk) kp;have I2:Inv X pins σ (upd H h'.objs.size (.tup ((List.range n).map λi=>V.int (i:Nat)))) { s with heap:=h'.push { cls:=.type "tuple",data:=.seq acc },toks:=tk }:=
  I1.laid (t':=tk) (λb o e=>al _ e) (aw _) (show ObjOk X.prog X.w _ _ _ (.tup _) from ⟨hl,acc.toList,hv,by have:=IsTup.new h' acc.toList.toArray;rwa [Array.toArray_toList]at this⟩)
 exact ⟨.ref h'.objs.size,_,I2,rfl,q _ (I1.hok.fresh (aw _))⟩
end
end L2
namespace PyProof.Rows
open PySem
theorem Y5 {prog:Program} {w:World} {A:Around} {E:Value->Shared->Prop} {s:Shared} {it:Addr} {T:String} {o:Obj} {items:List Value} {n:Nat} {ns:List Int} {Q:Value->Shared->Prop} (hT:T="list"\/T="tuple")
  (ho:s.heap.get? it=some o) (hc:o.cls=.type T) (hd:o.data=.seq items.toArray n) (hI:IntsAre items ns) (h64:items.length < 64)
  (h:∀(h1 h':Heap) (e:Nat) (out:Array Value) (ns':List Int),IntsAre out.toList ns'->ns'.Perm ns->ns'.Pairwise (·<=·)->(∀b o',s.heap.get? b=some o'->h1.get? b=some o')->(∀b o',h1.get? b=some o'->h'.get? b=some o')->h'.get? h1.objs.size=some (seqObj "list" out e)->Q (.ref h1.objs.size) { s with heap:=h' }):
  wpAny (model prog w) A (call (.builtin "sorted") [.ref it]) Q E s:=by
 refine Calls.call_function_entry kind_sorted plain_sorted entry_sorted (args_sorted1 _) ?_;unfold Builtin.«sorted»;refine wpAny_bind (m:=checkCount "sorted" 1 1 _) (wpAny_pure ?_);refine wpAny_bind (wpAny_collect_seq it hT ho hc hd (λh1 k1=>?_) (by rw[List.size_toArray,sizeLine_eq];omega));refine wpAny_bind (wpAny_newList ?_);have e1:items.toArray.toList=items:=by simp
 rw[e1];have hoL:(h1.push (seqObj "list" items.toArray 0)).get? h1.objs.size=some (seqObj "list" items.toArray 0):=Heap.get?_push_size _ rfl;show wpAny _ _ _ _ _ { s with heap:=h1.push (seqObj "list" items.toArray 0) };refine wpAny_bind (wpAny_holding (wpAny_call_entry slot_list_sort ⟨_,hoL,rfl⟩ entry_list_sort (list_sort_tree hoL hI h64 λout ns' a1 a2 a3=>⟨_,rfl,?_⟩) (args_list_sort _)));obtain ⟨e,he⟩:=sortedHeap_at (vs:=items) (out:=out) hoL;refine wpAny_pure ⟨_,rfl,h h1 _ e out ns' a1 a2 a3 k1 (λb o' hb1=>?_) he⟩;rw[sortedHeap_old (Nat.ne_of_lt (Heap.lt_size hb1)) (by rw[size_push'];exact Nat.lt_succ_of_lt (Heap.lt_size hb1))];exact Heap.get?_push_of_some _ hb1
end PyProof.Rows
namespace L2
open PySem PySem.Spec PyProof.Rows
theorem Y6 {X:Cx}:bw X (.builtin "sorted") (λxs H Q=>∃(p:Addr) (ns:List Int),xs=[.ref p]/\SqT X.K H p (ns.map V.int)/\ns.length < 64/\∀ns':List Int,ns'.Perm ns->ns'.Pairwise (·<=·)->∀l,H l=none->Q (.ref l) (upd H l (.lst (ns'.map V.int)))):=by
 intro pins s σ H xs us Q I r h;obtain ⟨p,ns,rfl,hq,h64,q⟩:=h;obtain ⟨u,rfl,ru⟩:=vals1 r;cases ru;obtain ⟨its,rv,⟨o,ho,hc,n,hd⟩,hz⟩:=I.tuple hq;have hlen:its.length=ns.length:=by rw[<-rv.length];simp
 refine Y5 (.inr rfl) ho hc hd (intsAre_of rv) (by omega) λh1 h' e out ns' a1 a2 a3 k1 k2 he=>?_;have I1:Inv X pins σ H { s with heap:=h1 }:=I.kept (t':=s.toks) k1;have hsz:(ns'.map V.int).length<=sizeLine:=by rw[ah,a2.length_eq,fo];omega
 exact ⟨.ref h1.objs.size,_,I1.laid (t':=s.toks) k2 (aw _) (show ObjOk X.prog X.w _ _ _ (.lst (ns'.map V.int)) from ⟨hsz,out.toList,e,wy a1,by rw[Array.toArray_toList];exact he⟩),rfl,q ns' a2 a3 _ (I1.hok.fresh (aw _))⟩
end L2
namespace RF
open PySem PySem.Spec PyProof.Rows L2
inductive D where
 |non |bl (b:Bool) |int (i:Int) |str (l:List Nat) |tup (xs:List D) |lst (xs:List D) |ref (a:Addr) |scr (ns:List Int) |exn (C:String)
 deriving Inhabited
inductive DO where
 |lst (xs:List D)
 deriving Inhabited
abbrev DH:=Addr->Option DO
def aW(G:DH)(a:Addr)(o:DO):DH:=λb=>if b=a then some o else G b
def ik(G:DH)(a:Addr):DH:=λb=>if b=a then none else G b
theorem bI{G:DH}{a:Addr}{o:DO}:aW G a o a=some o:=if_pos rfl
theorem dH{G:DH}{a b:Addr}{o:DO}(h:b≠a):aW G a o b=G b:=if_neg h
theorem wM{G:DH}{a:Addr}:ik G a a=none:=if_pos rfl
theorem Do{G:DH}{a b:Addr}(h:b≠a):ik G a b=G b:=if_neg h
theorem Y7{G:DH}{a:Addr}{o u:DO}:aW (aW G a o) a u=aW G a u:=by funext b;unfold aW;split <;> rfl
theorem Dp{G:DH}{a:Addr}{o:DO}(h:G a=none):ik (aW G a o) a=G:=by
 funext b;unfold aW ik;split
 ·rename_i e;rw[e,h]
 ·rename_i e;exact if_neg e
theorem wN{G:DH}{a b:Addr}{o:DO}(h:G a=some o)(h':G b=none):a≠b:=by intro e;subst e;rw[h]at h';cases h'
abbrev sz:Nat:=1000000
abbrev FZ:=Addr->Prop
def FzL(H:Hp)(F:FZ)(a:Addr)(vs:List V):Prop:=F a/\H a=some (.lst vs)
theorem FzL.sq{K:PySem.W.Frag}{H:Hp}{F:FZ}{a:Addr}{vs:List V}(h:FzL H F a vs):SqL K H a vs:=.inl (.inl h.2)
structure TpT(K:PySem.W.Frag)(H:Hp)(a:Addr)(vs:List V):Prop where
 it:H a=some (.tup vs)
theorem TpT.sq{K:PySem.W.Frag}{H:Hp}{a:Addr}{vs:List V}(h:TpT K H a vs):SqT K H a vs:=.inl (.inl h.it)
def ScL(K:PySem.W.Frag)(H:Hp)(a:Addr)(vs:List V):Prop:=
 (∃o,H a=some (.frz o (.lst vs)))\/
  ∃(o:Obj) (its:Array Value) (n:Nat),K.lookup a=some o/\o.cls=.type "list"/\o.dict=none/\o.data=.seq its n/\its.size<=sizeLine/\Vals vs its.toList
theorem ScL.sq{K:PySem.W.Frag}{H:Hp}{a:Addr}{vs:List V}(h:ScL K H a vs):SqL K H a vs:=by
 rcases h with ⟨o,h⟩ |h
 ·exact .inl (.inr ⟨o,h⟩)
 ·exact .inr h
mutual
noncomputable def Rep(K:PySem.W.Frag)(H:Hp)(F:FZ):D->V->Prop
 |.non,v=>v=.non
 |.bl b,v=>v=.bl b
 |.int i,v=>v=.int i
 |.str l,v=>v=.str (tx l)/\l.length<=sz
 |.tup ds,v=>∃a vs,v=.ref a/\TpT K H a vs/\Reps K H F ds vs
 |.lst ds,v=>∃a vs,v=.ref a/\FzL H F a vs/\Reps K H F ds vs
 |.ref a,v=>v=.ref a
 |.scr ns,v=>∃a,v=.ref a/\ScL K H a (ns.map V.int)
 |.exn C,v=>∃a c,v=.ref a/\XO H a c/\PySem.W.nsIn K mainGlobals (Str.ofString C)=some (some (.ref c))
noncomputable def Reps(K:PySem.W.Frag)(H:Hp)(F:FZ):List D->List V->Prop
 |[],vs=>vs=[]
 |d::ds,vs=>∃v r,vs=v::r/\Rep K H F d v/\Reps K H F ds r
end
structure Ext(H:Hp)(F:FZ)(H':Hp)(F':FZ):Prop where
 sub:∀a,F a->F' a
 keep:∀a,F a->H' a=H a
 tups:∀a xs,H a=some (.tup xs)->H' a=some (.tup xs)
 frzs:∀a o u,H a=some (.frz o u)->H' a=some (.frz o u)
theorem Ext.refl(H:Hp)(F:FZ):Ext H F H F:=⟨λ_ h=>h,λ_ _=>rfl,λ_ _ h=>h,λ_ _ _ h=>h⟩
theorem Ext.trans{H H1 H2:Hp}{F F1 F2:FZ}(a:Ext H F H1 F1)(b:Ext H1 F1 H2 F2):Ext H F H2 F2:=
 ⟨λc h=>b.sub c (a.sub c h),λc h=>(b.keep c (a.sub c h)).trans (a.keep c h),λc xs h=>b.tups c xs (a.tups c xs h),λc o u h=>b.frzs c o u (a.frzs c o u h)⟩
section
variable {K:PySem.W.Frag} {H H':Hp} {F F':FZ}
theorem TpT.ext{a:Addr}{vs:List V}(x:Ext H F H' F')(h:TpT K H a vs):TpT K H' a vs:=⟨x.tups _ _ h.it⟩
theorem FzL.ext{a:Addr}{vs:List V}(x:Ext H F H' F')(h:FzL H F a vs):FzL H' F' a vs:=⟨x.sub _ h.1,(x.keep _ h.1).trans h.2⟩
theorem ScL.ext{a:Addr}{vs:List V}(x:Ext H F H' F')(h:ScL K H a vs):ScL K H' a vs:=by
 rcases h with ⟨o,h⟩ |h
 ·exact .inl ⟨o,x.frzs _ _ _ h⟩
 ·exact .inr h
mutual
theorem Rep.ext(x:Ext H F H' F'):∀{d:D}{v:V},Rep K H F d v->Rep K H' F' d v
 |.non,_,h=>h
 |.bl _,_,h=>h
 |.int _,_,h=>h
 |.str _,_,h=>h
 |.tup _,_,⟨a,vs,e,q,r⟩=>⟨a,vs,e,TpT.ext x q,Reps.ext x r⟩
 |.lst _,_,⟨a,vs,e,q,r⟩=>⟨a,vs,e,FzL.ext x q,Reps.ext x r⟩
 |.ref _,_,h=>h
 |.scr _,_,⟨a,e,q⟩=>⟨a,e,ScL.ext x q⟩
 |.exn _,_,⟨a,c,e,⟨o,y,q,hc⟩,n⟩=>⟨a,c,e,⟨o,y,x.frzs _ _ _ q,hc⟩,n⟩
theorem Reps.ext(x:Ext H F H' F'):∀{ds:List D}{vs:List V},Reps K H F ds vs->Reps K H' F' ds vs
 |[],_,h=>h
 |_::_,_,⟨v,r,e,h,t⟩=>⟨v,r,e,Rep.ext x h,Reps.ext x t⟩
end
theorem Reps.nil:Reps K H F [] []:=rfl
theorem Reps.cons{d:D}{v:V}{ds:List D}{vs:List V}(h:Rep K H F d v)(t:Reps K H F ds vs):Reps K H F (d::ds) (v::vs):=⟨v,vs,rfl,h,t⟩
theorem Reps.length:∀{ds:List D}{vs:List V},Reps K H F ds vs->ds.length=vs.length
 |[],_,h=>by cases h;rfl
 |_::_,_,⟨v,r,e,_,t⟩=>by subst e;simp[Reps.length t]
theorem Reps.append:∀{ds es:List D}{vs us:List V},Reps K H F ds vs->Reps K H F es us->Reps K H F (ds++es) (vs++us)
 |[],_,_,_,h,t=>by cases h;exact t
 |_::_,_,_,_,⟨v,r,e,h,t⟩,t'=>by subst e;exact ⟨v,_,rfl,h,Reps.append t t'⟩
theorem Reps.get:∀{ds:List D}{vs:List V}{i:Nat}{d:D},Reps K H F ds vs->ds[i]?=some d->∃v,vs[i]?=some v/\Rep K H F d v
 |[],_,_,_,_,e=>by simp at e
 |_::_,_,0,_,⟨v,r,e,h,t⟩,q=>by subst e;simp at q;subst q;exact ⟨v,rfl,h⟩
 |_::_,_,i+1,d,⟨v,r,e,h,t⟩,q=>by
  subst e;obtain ⟨u,h1,h2⟩:=Reps.get (i:=i) (d:=d) t (by simpa using q);exact ⟨u,by simpa using h1,h2⟩
theorem Reps.set{d:D}{v:V}(r:Rep K H F d v):∀{ds:List D}{vs:List V}(i:Nat),Reps K H F ds vs->Reps K H F (ds.set i d) (vs.set i v)
 |[],_,_,h=>by cases h;exact rfl
 |_::_,_,0,⟨v',r',e,h,t⟩=>by subst e;exact ⟨_,_,rfl,r,t⟩
 |_::_,_,i+1,⟨v',r',e,h,t⟩=>by subst e;exact ⟨_,_,rfl,h,Reps.set r i t⟩
theorem Reps.take:∀{ds:List D}{vs:List V}(n:Nat),Reps K H F ds vs->Reps K H F (ds.take n) (vs.take n)
 |_,_,0,_=>rfl
 |[],_,_+1,h=>by cases h;exact rfl
 |_::_,_,n+1,⟨v',r',e,h,t⟩=>by subst e;exact ⟨_,_,rfl,h,Reps.take n t⟩
theorem Reps.drop:∀{ds:List D}{vs:List V}(n:Nat),Reps K H F ds vs->Reps K H F (ds.drop n) (vs.drop n)
 |_,_,0,h=>h
 |[],_,_+1,h=>by cases h;exact rfl
 |_::_,_,n+1,⟨v',r',e,h,t⟩=>by subst e;exact Reps.drop n t
theorem Reps.cut{ds:List D}{vs:List V}(h:Reps K H F ds vs)(lo hi:Option Int):
  Reps K H F ((ds.drop (HT.sIx ds.length 0 lo)).take (HT.sIx ds.length ds.length hi - HT.sIx ds.length 0 lo)) (eH vs lo hi):=by
 unfold eH;rw[<-h.length];exact (h.drop _).take _
theorem Reps.rep{ds:List D}{vs:List V}(h:Reps K H F ds vs):∀k:Nat,Reps K H F (List.replicate k ds).flatten (List.replicate k vs).flatten
 |0=>rfl
 |k+1=>by
  rw[cy,cy,eL,eL];exact Reps.append h (Reps.rep h k)
end
def Y8(K:PySem.W.Frag)(H:Hp)(F:FZ)(a:Addr):DO->Prop
 |.lst ds=>∃vs,H a=some (.lst vs)/\Reps K H F ds vs
structure R(K:PySem.W.Frag)(H:Hp)(F:FZ)(G:DH):Prop where
 fz:∀a,F a->G a=none/\∃vs,H a=some (.lst vs)
 ob:∀a o,G a=some o->Y8 K H F a o
section
variable {K:PySem.W.Frag} {H:Hp} {F:FZ} {G:DH} {p:Addr} {vs:List V} {ds:List D}
theorem R.lst(r:R K H F G)(h:G p=some (.lst ds)):∃vs,H p=some (.lst vs)/\Reps K H F ds vs:=r.ob p _ h
theorem R.free(r:R K H F G)(h:H p=none):G p=none:=by
 cases e:G p with
 |none=>rfl
 |some o=>
  cases o with
  |lst ds=>obtain ⟨vs,q,_⟩:=r.lst e;rw[h]at q;cases q
theorem R.notF(r:R K H F G)(h:H p=none):¬F p:=λf=>by
 obtain ⟨_,vs,q⟩:=r.fz p f;rw[h]at q;cases q
theorem dj{o:HO}(r:R K H F G)(h:H p=none):Ext H F (upd H p o) F:=
 ⟨λ_ f=>f,λa f=>aK λe=>r.notF h (by rw[<-e];exact f),λa xs q=>by rw[aK (bu q h)];exact q,λa ob u q=>by rw[aK (bu q h)];exact q⟩
theorem R.new{o:HO}(r:R K H F G)(h:H p=none):R K (upd H p o) F G:=by
 have x:Ext H F (upd H p o) F:=dj r h;refine ⟨λa f=>⟨(r.fz a f).1,?_⟩,λa u e=>?_⟩
 ·obtain ⟨_,vs,q⟩:=r.fz a f;exact ⟨vs,by rw[x.keep a f];exact q⟩
 ·cases u with
  |lst ds=>
   obtain ⟨vs,q,t⟩:=r.lst e;exact ⟨vs,by rw[aK (bu q h)];exact q,Reps.ext x t⟩
theorem R.newL(r:R K H F G)(h:H p=none)(t:Reps K H F ds vs):R K (upd H p (.lst vs)) F (aW G p (.lst ds)):=by
 have x:Ext H F (upd H p (.lst vs)) F:=dj r h;have r':R K (upd H p (.lst vs)) F G:=r.new h;refine ⟨λa f=>⟨?_,(r'.fz a f).2⟩,λa u e=>?_⟩
 ·rw[dH λe=>r.notF h (by rw[<-e];exact f)];exact (r.fz a f).1
 ·by_cases ha:a=p
  ·subst ha;rw[bI]at e;cases e;exact ⟨vs,dh,Reps.ext x t⟩
  ·rw[dH ha]at e;exact r'.ob a u e
theorem wO(r:R K H F G)(h:H p=none):Ext H F (upd H p (.lst vs)) (λa=>F a\/a=p):=
 ⟨λ_ f=>.inl f,(dj r h).keep,(dj r h).tups,(dj r h).frzs⟩
theorem R.newF(r:R K H F G)(h:H p=none):R K (upd H p (.lst vs)) (λa=>F a\/a=p) G:=by
 have x:Ext H F (upd H p (.lst vs)) (λa=>F a\/a=p):=wO r h;refine ⟨λa f=>?_,λa u e=>?_⟩
 ·rcases f with f |f
  ·obtain ⟨g,vs',q⟩:=r.fz a f;exact ⟨g,vs',by rw[x.keep a f];exact q⟩
  ·subst f;exact ⟨r.free h,vs,dh⟩
 ·cases u with
  |lst ds=>
   obtain ⟨vs',q,t⟩:=r.lst e;exact ⟨vs',by rw[aK (bu q h)];exact q,Reps.ext x t⟩
theorem Y9(r:R K H F G)(h:H p=none)(t:Reps K H F ds vs):Rep K (upd H p (.lst vs)) (λa=>F a\/a=p) (.lst ds) (.ref p):=
 ⟨p,vs,rfl,⟨.inr rfl,dh⟩,Reps.ext (wO r h) t⟩
theorem wQ(r:R K H F G)(h:H p=none)(t:Reps K H F ds vs):Rep K (upd H p (.tup vs)) F (.tup ds) (.ref p):=
 ⟨p,vs,rfl,⟨dh⟩,Reps.ext (dj r h) t⟩
theorem lB{ds0:List D}{o:HO}(r:R K H F G)(h:G p=some (.lst ds0)):Ext H F (upd H p o) F:=by
 obtain ⟨vs0,q,_⟩:=r.lst h;refine ⟨λ_ f=>f,λa f=>aK λe=>?_,λa xs z=>?_,λa ob u z=>?_⟩
 ·subst e;rw[(r.fz a f).1]at h;cases h
 ·rw[aK (Ao z q (by intro w;cases w))];exact z
 ·rw[aK (Ao z q (by intro w;cases w))];exact z
theorem R.write{ds0:List D}(r:R K H F G)(h:G p=some (.lst ds0))(t:Reps K H F ds vs):R K (upd H p (.lst vs)) F (aW G p (.lst ds)):=by
 have x:Ext H F (upd H p (.lst vs)) F:=lB r h;refine ⟨λa f=>⟨?_,?_⟩,λa u e=>?_⟩
 ·rw[dH λe=>by subst e;rw[(r.fz a f).1]at h;cases h];exact (r.fz a f).1
 ·obtain ⟨_,vs',q⟩:=r.fz a f;exact ⟨vs',by rw[x.keep a f];exact q⟩
 ·by_cases ha:a=p
  ·subst ha;rw[bI]at e;cases e;exact ⟨vs,dh,Reps.ext x t⟩
  ·rw[dH ha]at e;cases u with
   |lst ds'=>
    obtain ⟨vs',q,t'⟩:=r.lst e;exact ⟨vs',by rw[aK ha];exact q,Reps.ext x t'⟩
theorem wR:Ext H F H (λa=>F a\/a=p):=⟨λ_ f=>.inl f,λ_ _=>rfl,λ_ _ h=>h,λ_ _ _ h=>h⟩
theorem R.frz(r:R K H F G)(h:G p=some (.lst ds)):R K H (λa=>F a\/a=p) (ik G p):=by
 have x:Ext H F H (λa=>F a\/a=p):=wR;refine ⟨λa f=>?_,λa u e=>?_⟩
 ·rcases f with f |f
  ·obtain ⟨g,vs',q⟩:=r.fz a f;refine ⟨?_,vs',q⟩;by_cases ha:a=p
   ·rw[ha];exact wM
   ·rw[Do ha];exact g
  ·subst f;obtain ⟨vs,q,_⟩:=r.lst h;exact ⟨wM,vs,q⟩
 ·by_cases ha:a=p
  ·rw[ha,wM]at e;cases e
  ·rw[Do ha]at e;cases u with
   |lst ds'=>
    obtain ⟨vs',q,t'⟩:=r.lst e;exact ⟨vs',q,Reps.ext x t'⟩
theorem Za(r:R K H F G)(h:G p=some (.lst ds)):Rep K H (λa=>F a\/a=p) (.lst ds) (.ref p):=by obtain ⟨vs,q,t⟩:=r.lst h;exact ⟨p,vs,rfl,⟨.inr rfl,q⟩,Reps.ext wR t⟩
end
def view(G:DH):D->D
 |.ref p=>match G p with |some (.lst ds)=>.lst ds |none=>.ref p
 |d=>d
theorem Rep.list{K:PySem.W.Frag}{H:Hp}{F:FZ}{G:DH}{d:D}{v:V}{ds:List D}(r:R K H F G)(h:Rep K H F d v)(e:view G d=.lst ds):∃a vs,v=.ref a/\SqL K H a vs/\Reps K H F ds vs:=by
 cases d with
 |lst xs=>
  have e':D.lst xs=.lst ds:=e;cases e';obtain ⟨a,vs,e1,q,t⟩:=h;exact ⟨a,vs,e1,q.sq,t⟩
 |ref p=>
  have hv:v=.ref p:=h;unfold view at e;cases g:G p with
  |none=>simp only[g]at e;cases e
  |some o=>
   cases o with
   |lst xs=>
    simp only[g]at e;cases e;obtain ⟨vs,q,t⟩:=r.lst g;exact ⟨p,vs,hv,.inl (.inl q),t⟩
 |_=>cases (show _=D.lst ds from e)
theorem fG{G:DH}{d:D}{ds:List D}(e:view G d=.tup ds):d=.tup ds:=by
 cases d with
 |ref p=>
  unfold view at e;cases g:G p with
  |none=>simp only[g]at e;cases e
  |some o=>cases o;simp only[g]at e;cases e
 |_=>exact e
theorem fX{G:DH}{d:D}{l:List Nat}(e:view G d=.str l):d=.str l:=by
 cases d with
 |ref p=>
  unfold view at e;cases g:G p with
  |none=>simp only[g]at e;cases e
  |some o=>cases o;simp only[g]at e;cases e
 |_=>exact e
theorem eO{G:DH}{d:D}{l:Int}(e:view G d=.int l):d=.int l:=by
 cases d with
 |ref p=>
  unfold view at e;cases g:G p with
  |none=>simp only[g]at e;cases e
  |some o=>cases o;simp only[g]at e;cases e
 |_=>exact e
theorem Zb{G:DH}{d:D}{l:Bool}(e:view G d=.bl l):d=.bl l:=by
 cases d with
 |ref p=>
  unfold view at e;cases g:G p with
  |none=>simp only[g]at e;cases e
  |some o=>cases o;simp only[g]at e;cases e
 |_=>exact e
abbrev ak:=List (Option D)
def EnvR(K:PySem.W.Frag)(H:Hp)(F:FZ):ak->L2.St->Prop
 |[],σ=>σ=[]
 |o::ρ,σ=>∃u τ,σ=u::τ/\(∀d,o=some d->∃v,u=some v/\Rep K H F d v)/\EnvR K H F ρ τ
section
variable {K:PySem.W.Frag} {H H':Hp} {F F':FZ}
theorem EnvR.ext(x:Ext H F H' F'):∀{ρ:ak}{σ:L2.St},EnvR K H F ρ σ->EnvR K H' F' ρ σ
 |[],_,h=>h
 |_::_,_,⟨u,τ,e,h,t⟩=>⟨u,τ,e,λd q=>by obtain ⟨v,e1,r⟩:=h d q;exact ⟨v,e1,Rep.ext x r⟩,EnvR.ext x t⟩
theorem EnvR.get:∀{ρ:ak}{σ:L2.St}{i:Nat}{d:D},EnvR K H F ρ σ->ρ[i]?=some (some d)->∃v,σ[i]?=some (some v)/\Rep K H F d v
 |[],_,_,_,_,e=>by simp at e
 |_::_,_,0,d,⟨u,τ,e,h,t⟩,q=>by
  subst e;obtain ⟨v,e1,r⟩:=h d (by simpa using q);exact ⟨v,by simp[e1],r⟩
 |_::_,_,i+1,d,⟨u,τ,e,h,t⟩,q=>by
  subst e;obtain ⟨v,e1,r⟩:=EnvR.get (i:=i) (d:=d) t (by simpa using q);exact ⟨v,by simpa using e1,r⟩
theorem EnvR.set{d:D}{v:V}(r:Rep K H F d v):∀{ρ:ak}{σ:L2.St}(i:Nat),EnvR K H F ρ σ->EnvR K H F (ρ.set i (some d)) (σ.set i (some v))
 |[],_,_,h=>by cases h;exact rfl
 |_::_,_,0,⟨u,τ,e,h,t⟩=>by subst e;exact ⟨_,_,rfl,λd' q=>⟨v,rfl,by cases q;exact r⟩,t⟩
 |_::_,_,i+1,⟨u,τ,e,h,t⟩=>by subst e;exact ⟨_,_,rfl,h,EnvR.set r i t⟩
theorem EnvR.unset:∀{ρ:ak}{σ:L2.St}(i:Nat),EnvR K H F ρ σ->EnvR K H F (ρ.set i Option.none) (σ.set i Option.none)
 |[],_,_,h=>by cases h;exact rfl
 |_::_,_,0,⟨u,τ,e,h,t⟩=>by subst e;exact ⟨_,_,rfl,λd' q=>(nomatch q),t⟩
 |_::_,_,i+1,⟨u,τ,e,h,t⟩=>by subst e;exact ⟨_,_,rfl,h,EnvR.unset i t⟩
theorem EnvR.none:∀(n:Nat),EnvR K H F (List.replicate n Option.none) (List.replicate n Option.none)
 |0=>rfl
 |n+1=>⟨_,_,rfl,λd q=>(nomatch q),EnvR.none n⟩
theorem EnvR.start:∀{ds:List D}{vs:List V}(n:Nat),Reps K H F ds vs->EnvR K H F (ds.map some++List.replicate n Option.none) (vs.map some++List.replicate n Option.none)
 |[],_,n,h=>by cases h;exact EnvR.none n
 |d::ds,_,n,⟨v,r,e,h,t⟩=>by
  subst e;exact ⟨_,_,rfl,λd' q=>⟨v,rfl,by cases q;exact h⟩,EnvR.start n t⟩
theorem EnvR.cap{ρ:ak}{σ:L2.St}(h:EnvR K H F ρ σ):∀(cap:List (Option Nat)),EnvR K H F (cap.map λo=>match o with |Option.none=>Option.none |some j=>(ρ[j]?).join) (eN cap σ)
 |[]=>rfl
 |Option.none::cap=>⟨_,_,rfl,λd q=>(nomatch q),EnvR.cap h cap⟩
 |some j::cap=>by
  refine ⟨_,_,rfl,λd q=>?_,EnvR.cap h cap⟩;have q':(ρ[j]?).join=some d:=q;have z:ρ[j]?=some (some d):=by
   cases e:ρ[j]? with
   |none=>rw[e]at q';cases q'
   |some o=>rw[e]at q';exact e7 some q'
  obtain ⟨v,e1,r⟩:=h.get z;exact ⟨v,by show (σ[j]?).join=some v;rw[e1];rfl,r⟩
end
mutual
noncomputable def deq:D->D->Bool
 |.non,.non=>true
 |.bl a,.bl b=>a==b
 |.bl a,.int b=>(if a then 1 else 0)==b
 |.int a,.bl b=>a==(if b then 1 else 0)
 |.int a,.int b=>a==b
 |.str a,.str b=>a==b
 |.tup a,.tup b=>bN a b
 |.lst a,.lst b=>bN a b
 |_,_=>false
noncomputable def bN:List D->List D->Bool
 |[],[]=>true
 |a::as,b::bs=>deq a b&&bN as bs
 |_,_=>false
end
mutual
/-- no tracked object within -/
def nr:D->Bool
 |.tup a=>nrs a
 |.lst a=>nrs a
 |.ref _=>false
 |.scr _=>false
 |.exn _=>false
 |_=>true
def nrs:List D->Bool
 |[]=>true
 |a::as=>nr a&&nrs as
end
mutual
def dpt:D->Nat
 |.tup a=>bf a+1
 |.lst a=>bf a+1
 |_=>0
def bf:List D->Nat
 |[]=>0
 |a::as=>max (dpt a) (bf as)
end
noncomputable def truth:D->Option Bool
 |.non=>some false
 |.bl b=>some b
 |.int i=>some (i != 0)
 |.str l=>some (!l.isEmpty)
 |.tup l=>some (!l.isEmpty)
 |.lst l=>some (!l.isEmpty)
 |_=>none
noncomputable def cut{α:Type}(xs:List α)(lo hi:Option Int):List α:=(xs.drop (HT.sIx xs.length 0 lo)).take (HT.sIx xs.length xs.length hi - HT.sIx xs.length 0 lo)
def reps{α:Type}(xs:List α)(n:Nat):List α:=(List.replicate n xs).flatten
def mk(fz:Bool)(xs:List D)(G:DH)(k:D->DH->Prop):Prop:=
 match fz with
 |true=>k (.lst xs) G
 |false=>∀p,G p=none->k (.ref p) (aW G p (.lst xs))
def jq(fz:Bool)(a b:D)(G:DH)(k:D->DH->Prop):Prop:=
 match a with
 |.int i=>(match b with |.int j=>k (.int (i+j)) G |_=>False)
 |.str x=>(match b with |.str y=>x.length+y.length<=sz/\k (.str (x++y)) G |_=>False)
 |.lst x=>(match b with |.lst y=>x.length+y.length<=sz/\mk fz (x++y) G k |_=>False)
 |.tup x=>(match b with |.tup y=>x.length+y.length<=sz/\k (.tup (x++y)) G |_=>False)
 |_=>False
def gB(a b:D)(p:Int->Int->Prop):Prop:=
 match a with
 |.int i=>(match b with |.int j=>p i j |_=>False)
 |_=>False
def jr(fz:Bool)(a b:D)(G:DH)(k:D->DH->Prop):Prop:=
 match b with
 |.int n=>(match a with |.int i=>CMul i n/\k (.int (i * n)) G |.str x=>0<=n/\n<=1000/\x.length * n.toNat<=sz/\k (.str (reps x n.toNat)) G |.tup x=>2<=n/\n<=1000/\x≠[]/\x.length * n.toNat<=sz/\k (.tup (reps x n.toNat)) G |.lst x=>0<=n/\n<=1000/\x.length * n.toNat<=sz/\mk fz (reps x n.toNat) G k |_=>False)
 |_=>False
def b8(op:Operator)(fz:Bool)(a b:D)(G:DH)(k:D->DH->Prop):Prop:=
 match op with
 |.Add=>jq fz a b G k
 |.Sub=>gB a b λi j=>k (.int (i - j)) G
 |.Mult=>jr fz a b G k
 |.FloorDiv=>gB a b λi j=>(0 < j/\j < 1152921504606846976)/\k (.int (i / j)) G
 |.Mod=>gB a b λi j=>0 < j/\k (.int (i % j)) G
 |.Pow=>gB a b λi j=>qO i j/\k (.int (i ^ j.toNat)) G
 |_=>False
def isIn(x:D)(ys:List D):Bool:=ys.any λy=>deq y x
def Dq(a b:D):Prop:=nr a=true/\nr b=true/\min (dpt a) (dpt b)<=60
def inG(a:D)(l:List D):Prop:=nr a=true/\nrs l=true/\bf l<=60
def jt(a b:D)(k:Bool->Prop):Prop:=
 match a,b with
 |.int i,.int j=>k (decide (i < j))
 |.str i,.str j=>k (decide (i < j))
 |_,_=>False
def ju(a b:D)(k:Bool->Prop):Prop:=
 match a,b with
 |.int i,.int j=>k (decide (i<=j))
 |.str i,.str j=>k (!decide (j < i))
 |_,_=>False
def jw(a b:D)(k:Bool->Prop):Prop:=
 match a,b with
 |.int i,.int j=>k (decide (j < i))
 |_,_=>False
def jx(a b:D)(k:Bool->Prop):Prop:=
 match a,b with
 |.int i,.int j=>k (decide (j<=i))
 |_,_=>False
def lC(a:D):Bool:=match a with |.non=>true |_=>false
def jy(a b:D)(k:Bool->Prop):Prop:=
 match b with
 |.non=>k (lC a)
 |.bl b=>(match a with |.bl a=>k (a==b) |_=>False)
 |_=>False
def jz(a b:D)(k:Bool->Prop):Prop:=
 match b with
 |.non=>k (!lC a)
 |.bl b=>(match a with |.bl a=>k (a != b) |_=>False)
 |_=>False
def fY(a b:D)(k:Bool->Prop):Prop:=
 match b with
 |.str l=>(match a with |.str [c]=>k (l.contains c) |_=>False)
 |.lst l=>inG a l/\k (isIn a l)
 |.tup l=>inG a l/\k (isIn a l)
 |_=>False
def aX(op:CmpOp)(a b:D)(k:Bool->Prop):Prop:=
 match op with
 |.Eq=>Dq a b/\k (deq a b)
 |.NotEq=>Dq a b/\k (!deq a b)
 |.Lt=>jt a b k
 |.LtE=>ju a b k
 |.Gt=>jw a b k
 |.GtE=>jx a b k
 |.Is=>jy a b k
 |.IsNot=>jz a b k
 |.In=>fY a b k
 |.NotIn=>fY a b λc=>k (!c)
def cg(a i:D)(k:D->Prop):Prop:=
 match a,i with
 |.lst ds,.int i=>match atI ds i with |some d=>k d |none=>False
 |.tup ds,.int i=>match atI ds i with |some d=>k d |none=>False
 |.str l,.int i=>match atI l i with |some c=>k (.str [c]) |none=>False
 |_,_=>False
def eQ(fz:Bool)(a:D)(lo hi:Option Int)(G:DH)(k:D->DH->Prop):Prop:=
 match a with
 |.lst ds=>mk fz (cut ds lo hi) G k
 |.scr ns=>mk fz ((cut ns lo hi).map .int) G k
 |.tup ds=>k (.tup (cut ds lo hi)) G
 |.str l=>k (.str (cut l lo hi)) G
 |_=>False
def jA(fz:Bool)(a y:D)(G:DH)(k:D->DH->Prop):Prop:=
 match a with
 |.lst ds=>y=.int (-1)/\mk fz ds.reverse G k
 |_=>False
noncomputable def bools:List D->Option (List Bool)
 |[]=>some []
 |.bl b::r=>match bools r with |some s=>some (b::s) |none=>none
 |_=>none
noncomputable def bT:List D->Option (List Int)
 |[]=>some []
 |.int b::r=>match bT r with |some s=>some (b::s) |none=>none
 |_=>none
noncomputable def bz:List D->Option (List (List Nat))
 |[]=>some []
 |.str b::r=>match bz r with |some s=>some (b::s) |none=>none
 |_=>none
def eU(s:List Nat):List (List Nat)->List Nat
 |[]=>[]
 |[x]=>x
 |x::y::r=>x++s++eU s (y::r)
inductive Bf where
 |len |all |int |tuple |sum |min |max |str
inductive Lf where
 |list |sorted
inductive Mf where
 |join |append |extend |insert |count |index
def wU(as:List D)(k:D->Prop):Prop:=
 match as with
 |[.lst ds]=>k (.int ds.length)
 |[.tup ds]=>k (.int ds.length)
 |[.str l]=>k (.int l.length)
 |_=>False
def qY(as:List D)(k:D->Prop):Prop:=
 match as with
 |[.lst ds]=>match bools ds with |some bs=>k (.bl (bs.all id)) |none=>False
 |_=>False
def qZ(as:List D)(k:D->Prop):Prop:=
 match as with
 |[.bl b]=>k (.int (if b then 1 else 0))
 |[.int i]=>k (.int i)
 |[.str l]=>match PySem.intText? (tx l) with |some n=>l.length<=640/\k (.int n) |none=>False
 |_=>False
def wV(as:List D)(k:D->Prop):Prop:=
 match as with
 |[.lst ds]=>k (.tup ds)
 |[.tup ds]=>k (.tup ds)
 |_=>False
def wW(as:List D)(k:D->Prop):Prop:=
 match as with
 |[.lst ds]=>match bT ds with |some ns=>k (.int ns.sum) |none=>False
 |_=>False
def lD(as:List D)(k:D->Prop):Prop:=
 match as with
 |[.lst ds]=>match bT ds with
  |some ns=>ns≠[]/\∀m,m∈ns->(∀a,a∈ns->m<=a)->k (.int m)
  |none=>match bz ds with
   |some ls=>∀m,m∈ls->(∀a,a∈ls->¬a < m)->k (.str m)
   |none=>False
 |_=>False
def Ds(as:List D)(k:D->Prop):Prop:=
 match as with
 |[.int a,.int b]=>k (.int (if b > a then b else a))
 |_=>False
def gC(m:Nat):List Nat:=(wL m).cps.toList
def wX(as:List D)(k:D->Prop):Prop:=
 match as with
 |[.int i]=>(0<=i/\i < 100)/\k (.str (gC i.toNat))
 |_=>False
noncomputable def opB:Bf->List D->(D->Prop)->Prop
 |.len=>wU
 |.all=>qY
 |.int=>qZ
 |.tuple=>wV
 |.sum=>wW
 |.min=>lD
 |.max=>Ds
 |.str=>wX
def wY(as:List D)(k:List D->Prop):Prop:=
 match as with
 |[.lst ds]=>k ds
 |[.tup ds]=>k ds
 |[.str l]=>k (l.map λc=>.str [c])
 |_=>False
def lE(as:List D)(k:List D->Prop):Prop:=
 match as with
 |[.lst ds]=>match bz ds with |some ls=>ls.length < 64/\∀ls':List (List Nat),ls'.Perm ls->PyProof.Rows.sortedS (ls'.map tx)=true->k (ls'.map D.str) |none=>False
 |[.tup ds]=>match bT ds with |some ns=>ns.length < 64/\∀ns':List Int,ns'.Perm ns->ns'.Pairwise (·<=·)->k (ns'.map D.int) |none=>False
 |_=>False
def cG:Lf->List D->(List D->Prop)->Prop
 |.list=>wY
 |.sorted=>lE
noncomputable def isT(t:String)(d:D):Option Bool:=
 match d with
 |.non=>some false
 |.bl _=>some (t=="bool"||t=="int")
 |.int _=>some (t=="int")
 |.str _=>some (t=="str")
 |.tup _=>some (t=="tuple")
 |.lst _=>some (t=="list")
 |_=>none
def fZ (t:String):Bool:=t=="bool"||t=="int"||t=="str"||t=="tuple"||t=="list"
def q8(o:D)(as:List D)(G:DH)(k:D->DH->Prop):Prop:=
 match o,as with
 |.str s,[.lst ds]=>match bz ds with |some ls=>((ls.map (·.length)).sum+ls.length * s.length<=sz)/\k (.str (eU s ls)) G |none=>False
 |_,_=>False
def q9(o:D)(as:List D)(G:DH)(k:D->DH->Prop):Prop:=
 match o,as with
 |.ref p,[x]=>match G p with |some (.lst ds)=>ds.length < sz/\k .non (aW G p (.lst (ds++[x]))) |none=>False
 |_,_=>False
def rm(o:D)(as:List D)(G:DH)(k:D->DH->Prop):Prop:=
 match o,as with
 |.ref p,[.lst xs]=>match G p with |some (.lst ds)=>ds.length+xs.length < sz/\k .non (aW G p (.lst (ds++xs))) |none=>False
 |_,_=>False
def rn(o:D)(as:List D)(G:DH)(k:D->DH->Prop):Prop:=
 match o,as with
 |.ref p,[.int i,x]=>match G p with |some (.lst ds)=>ds.length < sz/\0<=i/\i<=1000000/\k .non (aW G p (.lst (ds.take i.toNat++x::ds.drop i.toNat))) |none=>False
 |_,_=>False
def rA(o:D)(as:List D)(G:DH)(k:D->DH->Prop):Prop:=
 match o,as with
 |.lst ds,[.bl true]=>match bools ds with |some bs=>k (.int (bs.count true:Nat)) G |none=>False
 |_,_=>False
def rB(o:D)(as:List D)(G:DH)(k:D->DH->Prop):Prop:=
 match o,as with
 |.lst ds,[.bl true]=>match bools ds with |some bs=>true∈bs/\k (.int (bs.idxOf true:Nat)) G |none=>False
 |_,_=>False
def wZ:D->Prop
 |.lst _=>True
 |_=>False
def recv(m:Mf)(o:D)(G:DH):Prop:=
 match m,o with
 |.join,.str _=>True
 |.append,.ref p=>match G p with |some (.lst _)=>True |none=>False
 |.extend,.ref p=>match G p with |some (.lst _)=>True |none=>False
 |.insert,.ref p=>match G p with |some (.lst _)=>True |none=>False
 |.count,o=>wZ (view G o)
 |.index,o=>wZ (view G o)
 |_,_=>False
noncomputable def opM:Mf->D->List D->DH->(D->DH->Prop)->Prop
 |.join,o,as,G,k=>q8 o (as.map (view G)) G k
 |.append,o,as,G,k=>q9 o as G k
 |.extend,o,as,G,k=>rm o (as.map (view G)) G k
 |.insert,o,as,G,k=>rn o as G k
 |.count,o,as,G,k=>rA (view G o) as G k
 |.index,o,as,G,k=>rB (view G o) as G k
def bC (C C':String):Bool:=C==C'||C'=="SieveError"||C'=="ValueError"
mutual
inductive Tg where
 |nm (i:Nat)
 |tp (ts:Tgs)
inductive Tgs where
 |nil
 |cons (t:Tg) (r:Tgs)
end
mutual
inductive Ex where
 |var (i:Nat)
 |cst (d:D)
 |glb (x:String) (d:D)
 |bin (op:Operator) (fz:Bool) (a b:Ex)
 |neg (a:Ex)
 |cmp (op:CmpOp) (a b:Ex)
 |chn (op op':CmpOp) (a b c:Ex)
 |not (a:Ex)
 |boo (isAnd:Bool) (e:Ex) (es:Exs)
 |ife (c:Tx) (a b:Ex)
 |tup (es:Exs)
 |lst (fz:Bool) (es:Exs)
 |idx (a i:Ex)
 |slc (fz:Bool) (a:Ex) (lo hi:Ox)
 |rvs (fz:Bool) (a s:Ex)
 |call (f:String) (es:Exs)
 |bcl (f:Bf) (es:Exs)
 |lcl (fz:Bool) (f:Lf) (es:Exs)
 |isi (a:Ex) (t:String)
 |isx (a:Ex) (C:String) (xs:List String)
 |fst (es:Exs)
 |rgl (fz:Bool) (a:Ex)
 |rgt (a:Ex)
 |mth (m:Mf) (o:Ex) (es:Exs)
 |comp (fz:Bool) (elt:Ex) (tg:Tg) (it:It') (cond:Tx) (N:List String) (cap:List (Option Nat))
 |frz (a:Ex)
inductive Exs where
 |nil
 |cons (e:Ex) (es:Exs)
/-- a test -/
inductive Tx where
 |val (e:Ex)
 |not (t:Tx)
 |boo (isAnd:Bool) (t:Tx) (ts:Txs)
 |yes
inductive Txs where
 |nil
 |cons (t:Tx) (ts:Txs)
/-- a bound of a slice -/
inductive Ox where
 |no
 |ob (e:Ex)
/-- what a loop walks -/
inductive It' where
 |seq (e:Ex)
 |rng (a:Ex)
 |rng2 (a b:Ex)
 |rev (a:Ex)
 |dwn (a b c:Ex)
 |enm (e:Ex)
 |zip (a b:Ex)
end
inductive Tb where
 |call (f:String) (es:Exs)
 |asg (i:Nat) (f:String) (es:Exs)
 |pick (f g:String) (i:Nat) (es:Exs)
 |ite (c:Tx) (a b:Tb)
inductive Hd where
 |flag (i:Nat) (b:Bool)
 |bind (n i:Nat)
mutual
inductive Sx where
 |exp (e:Ex)
 |asg (t:Tg) (e:Ex)
 |set (o i e:Ex)
 |aug (i:Nat) (op:Operator) (e:Ex)
 |augs (o i:Ex) (op:Operator) (e:Ex)
 |ret (e:Ex)
 |rtn
 |ite (c:Tx) (a b:Sxs)
 |for_ (t:Tg) (it:It') (body:Sxs)
 |whl (c:Tx) (body:Sxs)
 |pas
 |brk
 |cnt
 |nev
 |rse (C:String) (es:Exs)
 |tryc (f:String) (es:Exs) (C:String) (i:Nat) (b:Bool)
 |tryx (b:Tb) (C:String) (h:Hd) (xs:List String)
inductive Sxs where
 |nil
 |cons (s:Sx) (r:Sxs)
end
structure Xn where
 cls:String
 fld:D
structure Spec where
 A:Type
 pre:List D->DH->A->Prop
 post:A->D->DH->Prop
 exc:A->Xn->DH->Prop
abbrev EK:=Xn->DH->Prop
def Spec.t(S:Spec)(ds:List D)(G:DH)(Q:D->DH->Prop)(E:EK):Prop:=
 ∃a,S.pre ds G a/\(∀d G',S.post a d G'->Q d G')/\∀x G',S.exc a x G'->E x G'
theorem Spec.mono{S:Spec}{ds:List D}{G:DH}{Q Q':D->DH->Prop}{E E':EK}(h:S.t ds G Q E)(hq:∀d G',Q d G'->Q' d G')(he:∀x G',E x G'->E' x G'):S.t ds G Q' E':=by obtain ⟨a,h1,h2,h3⟩:=h;exact ⟨a,h1,λd G' q=>hq _ _ (h2 d G' q),λx G' q=>he _ _ (h3 x G' q)⟩
abbrev aa:=String->Spec
mutual
noncomputable def bh:Tg->D->ak->DH->(ak->Prop)->Prop
 |.nm i,d,ρ,_,k=>k (ρ.set i (some d))
 |.tp ts,d,ρ,G,k=>match d with |.tup ds=>bJ ts ds ρ G k |.lst ds=>bJ ts ds ρ G k |_=>False
noncomputable def bJ:Tgs->List D->ak->DH->(ak->Prop)->Prop
 |.nil,ds,ρ,_,k=>match ds with |[]=>k ρ |_=>False
 |.cons t r,ds,ρ,G,k=>match ds with |d::ds=>bh t d ρ G (λρ'=>bJ r ds ρ' G k) |[]=>False
end
abbrev Hld:=List (Addr×List D)
def held:Hld->DH->Prop
 |[],_=>True
 | (a,ds)::r,G=>G a=some (.lst ds)/\held r G
noncomputable def compLoop(step:D->ak->DH->(Option D->ak->DH->Prop)->Prop)(g:Hld):List D->List D->ak->DH->(List D->DH->Prop)->Prop
 |[],acc,_,G,k=>held g G/\acc.length<=sz/\k acc G
 |d::ds,acc,ρ,G,k=>held g G/\acc.length < sz/\step d ρ G (λo ρ' G'=>match o with |some y=>compLoop step g ds (acc++[y]) ρ' G' k |none=>compLoop step g ds acc ρ' G' k)
def dI:Nat->List D->List D
 |_,[]=>[]
 |i,d::ds=>.tup [.int i,d]::dI (i+1) ds
def bU:List D->List D->List D
 |a::as,b::bs=>.tup [a,b]::bU as bs
 |_,_=>[]
noncomputable def itemsOf(G:DH):D->Option (List D×Hld)
 |.lst ds=>some (ds,[])
 |.tup ds=>some (ds,[])
 |.str l=>some (l.map λc=>.str [c],[])
 |.ref p=>match G p with |some (.lst ds)=>some (ds,[(p,ds)]) |none=>none
 |_=>none
def aO(lo:Int)(n:Nat):List D:=(List.range n).map λi=>.int (lo+(i:Nat))
def dm(lo:Int)(n:Nat):List D:=(List.range n).map λi=>.int (lo - (i:Nat))
def noE:EK:=λ_ _=>False
mutual
def wpE(Φ:aa):Ex->EK->ak->DH->(D->DH->Prop)->Prop
 |.var i,_,ρ,G,k=>match ρ[i]? with |some (some d)=>k d G |_=>False
 |.cst d,_,_,G,k=>k d G
 |.glb _ d,_,_,G,k=>k d G
 |.bin op fz a b,E,ρ,G,k=>wpE Φ a E ρ G λx G1=>wpE Φ b E ρ G1 λy G2=>b8 op fz (view G2 x) (view G2 y) G2 k
 |.neg a,E,ρ,G,k=>wpE Φ a E ρ G λx G1=>match x with |.int i=>k (.int (-i)) G1 |_=>False
 |.cmp op a b,E,ρ,G,k=>wpE Φ a E ρ G λx G1=>wpE Φ b E ρ G1 λy G2=>aX op (view G2 x) (view G2 y) λc=>k (.bl c) G2
 |.chn op op' a b c,E,ρ,G,k=>wpE Φ a E ρ G λx G1=>wpE Φ b E ρ G1 λy G2=>aX op (view G2 x) (view G2 y) λt=>
   match t with
   |true=>wpE Φ c E ρ G2 λz G3=>aX op' (view G3 y) (view G3 z) λt'=>k (.bl t') G3
   |false=>k (.bl false) G2
 |.not a,E,ρ,G,k=>wpE Φ a E ρ G λx G1=>match truth (view G1 x) with |some b=>k (.bl (!b)) G1 |none=>False
 |.boo isAnd e es,E,ρ,G,k=>wpE Φ e E ρ G λd G1=>match d with |.bl b=>wpB Φ es isAnd b E ρ G1 (λc G2=>k (.bl c) G2) |_=>False
 |.ife c a b,E,ρ,G,k=>wpT Φ c E ρ G λt G1=>match t with |true=>wpE Φ a E ρ G1 k |false=>wpE Φ b E ρ G1 k
 |.tup es,E,ρ,G,k=>aP Φ es E ρ G λds G1=>ds.length<=sz/\k (.tup ds) G1
 |.lst fz es,E,ρ,G,k=>aP Φ es E ρ G λds G1=>ds.length<=sz/\mk fz ds G1 k
 |.idx a i,E,ρ,G,k=>wpE Φ a E ρ G λx G1=>wpE Φ i E ρ G1 λy G2=>cg (view G2 x) y λd=>k d G2
 |.slc fz a lo hi,E,ρ,G,k=>wpE Φ a E ρ G λx G1=>wpO Φ lo E ρ G1 λl G2=>wpO Φ hi E ρ G2 λh G3=>eQ fz (view G3 x) l h G3 k
 |.rvs fz a s,E,ρ,G,k=>wpE Φ a E ρ G λx G1=>wpE Φ s E ρ G1 λy G2=>jA fz (view G2 x) y G2 k
 |.call f es,E,ρ,G,k=>aP Φ es E ρ G λds G1=>(Φ f).t ds G1 k E
 |.bcl f es,E,ρ,G,k=>aP Φ es E ρ G λds G1=>opB f (ds.map (view G1)) λd=>k d G1
 |.lcl fz f es,E,ρ,G,k=>aP Φ es E ρ G λds G1=>cG f (ds.map (view G1)) λxs=>mk fz xs G1 k
 |.isi a t,E,ρ,G,k=>wpE Φ a E ρ G λx G1=>match isT t (view G1 x) with |some b=>k (.bl b) G1 |none=>False
 |.isx a C xs,E,ρ,G,k=>wpE Φ a E ρ G λx G1=>match x with |.exn c=>xs.contains c=true/\k (.bl (bC c C)) G1 |_=>False
 |.fst es,E,ρ,G,k=>wpF Φ es E ρ G λl G1=>l.length<=sz/\k (.str l) G1
 |.rgl fz a,E,ρ,G,k=>wpE Φ a E ρ G λd G1=>match d with |.int n=>(0<=n/\n<=1000)/\mk fz (aO 0 n.toNat) G1 k |_=>False
 |.rgt a,E,ρ,G,k=>wpE Φ a E ρ G λd G1=>match d with |.int n=>(0<=n/\n<=1000)/\k (.tup (aO 0 n.toNat)) G1 |_=>False
 |.mth m o es,E,ρ,G,k=>wpE Φ o E ρ G λx G1=>recv m x G1/\aP Φ es E ρ G1 λds G2=>opM m x ds G2 k
 |.comp fz elt tg it cond _ cap,E,ρ,G,k=>wpI Φ it E ρ G λitems g G1=>
   compLoop (λd ρ' G' k'=>bh tg d ρ' G' λρ1=>wpT Φ cond noE ρ1 G' λb G2=>match b with |true=>wpE Φ elt noE ρ1 G2 λy G3=>k' (some y) ρ1 G3 |false=>k' none ρ1 G2)
    g items [] (cap.map λo=>match o with |none=>none |some j=>(ρ[j]?).join) G1 λds G2=>mk fz ds G2 k
 |.frz a,E,ρ,G,k=>wpE Φ a E ρ G λx G1=>match x with |.ref p=>(match G1 p with |some (.lst ds)=>k (.lst ds) (ik G1 p) |none=>False) |d=>k d G1
/-- a test -/
def wpT(Φ:aa):Tx->EK->ak->DH->(Bool->DH->Prop)->Prop
 |.not a,E,ρ,G,k=>wpT Φ a E ρ G λb G1=>k (!b) G1
 |.boo isAnd e es,E,ρ,G,k=>wpT Φ e E ρ G λb G1=>gb Φ es isAnd b E ρ G1 k
 |.yes,_,_,G,k=>k true G
 |.val x,E,ρ,G,k=>wpE Φ x E ρ G λd G1=>match truth (view G1 d) with |some b=>k b G1 |none=>False
def wpF(Φ:aa):Exs->EK->ak->DH->(List Nat->DH->Prop)->Prop
 |.nil,_,_,G,k=>k [] G
 |.cons e es,E,ρ,G,k=>wpE Φ e E ρ G λd G1=>match d with
  |.str l=>l.length<=1000/\wpF Φ es E ρ G1 λx G2=>k (l++x) G2
  |.int i=>(0<=i/\i < 100)/\wpF Φ es E ρ G1 λx G2=>k (gC i.toNat++x) G2
  |_=>False
def aP(Φ:aa):Exs->EK->ak->DH->(List D->DH->Prop)->Prop
 |.nil,_,_,G,k=>k [] G
 |.cons e es,E,ρ,G,k=>wpE Φ e E ρ G λd G1=>aP Φ es E ρ G1 λds G2=>k (d::ds) G2
/-- and,or as values:truths alone;b:the one ahead -/
def wpB(Φ:aa):Exs->Bool->Bool->EK->ak->DH->(Bool->DH->Prop)->Prop
 |.nil,_,b,_,_,G,k=>k b G
 |.cons e es,isAnd,b,E,ρ,G,k=>match isAnd,b with
  |true,false=>k false G
  |false,true=>k true G
  |_,_=>wpE Φ e E ρ G λd G1=>match d with |.bl b'=>wpB Φ es isAnd b' E ρ G1 k |_=>False
def gb(Φ:aa):Txs->Bool->Bool->EK->ak->DH->(Bool->DH->Prop)->Prop
 |.nil,_,b,_,_,G,k=>k b G
 |.cons e es,isAnd,b,E,ρ,G,k=>match isAnd,b with
  |true,false=>k false G
  |false,true=>k true G
  |_,_=>wpT Φ e E ρ G λb' G1=>gb Φ es isAnd b' E ρ G1 k
/-- a bound of a slice -/
def wpO(Φ:aa):Ox->EK->ak->DH->(Option Int->DH->Prop)->Prop
 |.no,_,_,G,k=>k none G
 |.ob x,E,ρ,G,k=>wpE Φ x E ρ G λd G1=>match d with |.int i=>k (some i) G1 |_=>False
def wpI(Φ:aa):It'->EK->ak->DH->(List D->Hld->DH->Prop)->Prop
 |.seq e,E,ρ,G,k=>wpE Φ e E ρ G λd G1=>match itemsOf G1 d with |some ds=>k ds.1 ds.2 G1 |none=>False
 |.rng a,E,ρ,G,k=>wpE Φ a E ρ G λd G1=>match d with |.int n=>(-(2 ^ 62)<=n/\n < 2 ^ 62)/\k (aO 0 n.toNat) [] G1 |_=>False
 |.rng2 a b,E,ρ,G,k=>wpE Φ a E ρ G λx G1=>wpE Φ b E ρ G1 λy G2=>match x,y with
  |.int m,.int n=>(-(2 ^ 62)<=m/\m < 2 ^ 62/\-(2 ^ 62)<=n/\n < 2 ^ 62)/\k (aO m (n - m).toNat) [] G2
  |_,_=>False
 |.rev a,E,ρ,G,k=>wpE Φ a E ρ G λd G1=>match d with |.int n=>(-(2 ^ 62)<=n/\n < 2 ^ 62)/\k (dm ((n.toNat:Int) - 1) n.toNat) [] G1 |_=>False
 |.dwn a b c,E,ρ,G,k=>wpE Φ a E ρ G λx G1=>wpE Φ b E ρ G1 λy G2=>wpE Φ c E ρ G2 λz G3=>match x,y,z with
  |.int m,.int n,.int s=>(s=-1/\-(2 ^ 62)<=m/\m < 2 ^ 62/\-(2 ^ 62)<=n/\n < 2 ^ 62)/\k (dm m (m - n).toNat) [] G3
  |_,_,_=>False
 |.enm e,E,ρ,G,k=>wpE Φ e E ρ G λd G1=>match itemsOf G1 d with |some ds=>k (dI 0 ds.1) ds.2 G1 |none=>False
 |.zip a b,E,ρ,G,k=>wpE Φ a E ρ G λx G1=>wpE Φ b E ρ G1 λy G2=>match itemsOf G2 x,itemsOf G2 y with |some ds,some es=>k (bU ds.1 es.1) (ds.2++es.2) G2 |_,_=>False
end
structure En where
 nx:ak->DH->Prop
 rt:D->DH->Prop
 bk:ak->DH->Prop
 ct:ak->DH->Prop
noncomputable def forLoop(step:D->ak->DH->(ak->DH->Prop)->Prop)(g:Hld):List D->ak->DH->(ak->DH->Prop)->Prop
 |[],ρ,G,k=>held g G/\k ρ G
 |d::ds,ρ,G,k=>held g G/\step d ρ G λρ' G'=>forLoop step g ds ρ' G' k
def whileLoop(test:ak->DH->(Bool->DH->Prop)->Prop)(body:ak->DH->(ak->DH->Prop)->Prop):Nat->ak->DH->(ak->DH->Prop)->Prop
 |0,_,_,_=>False
 |n+1,ρ,G,k=>test ρ G λb G1=>match b with |true=>body ρ G1 λρ' G'=>whileLoop test body n ρ' G' k |false=>k ρ G1
def eV(o i x:D)(G:DH)(k:DH->Prop):Prop:=
 match o,i with
 |.ref p,.int i=>match G p with |some (.lst ds)=>(match ixN ds.length i with |some j=>k (aW G p (.lst (ds.set j x))) |none=>False) |none=>False
 |_,_=>False
def dJ(op:Operator)(a b:D)(k:D->Prop):Prop:=
 match op,a,b with
 |.Add,.int i,.int j=>k (.int (i+j))
 |.Add,.str x,.str y=>x.length+y.length<=sz/\k (.str (x++y))
 |.Sub,.int i,.int j=>k (.int (i - j))
 |_,_,_=>False
def rD:D->Bool
 |.int i=>decide (0<=i)&&decide (i < 100)
 |_=>false
def wpM(Φ:aa):Exs->EK->ak->DH->(DH->Prop)->Prop
 |.nil,_,_,G,k=>k G
 |.cons e es,E,ρ,G,k=>wpE Φ e E ρ G λd G1=>rD d=true/\wpM Φ es E ρ G1 k
def wpX(Φ:aa):Tb->ak->DH->(ak->DH->Prop)->(Xn->ak->DH->Prop)->Prop
 |.call f es,ρ,G,nx,ex=>aP Φ es noE ρ G λds G1=>(Φ f).t ds G1 (λ_ G2=>nx ρ G2) λx G2=>ex x ρ G2
 |.asg i f es,ρ,G,nx,ex=>aP Φ es noE ρ G λds G1=>(Φ f).t ds G1 (λd G2=>nx (ρ.set i (some d)) G2) λx G2=>ex x ρ G2
 |.pick f g i es,ρ,G,nx,ex=>wpE Φ (.var i) noE ρ G λd G1=>∃b:Bool,d=.int (if b then 1 else 0)/\aP Φ es noE ρ G1 λds G2=>(Φ (if b then g else f)).t ds G2 (λ_ G3=>nx ρ G3) λx G3=>ex x ρ G3
 |.ite c a b,ρ,G,nx,ex=>wpT Φ c noE ρ G λt G1=>match t with |true=>wpX Φ a ρ G1 nx ex |false=>wpX Φ b ρ G1 nx ex
def caught(h:Hd)(C:String)(ρ:ak):ak:=match h with
 |.flag i b=>ρ.set i (some (.bl b))
 |.bind n i=>((ρ.set n (some (.exn C))).set i (some (.exn C))).set n none
mutual
def wpS(Φ:aa):Sx->EK->ak->DH->En->Prop
 |.exp e,E,ρ,G,D=>wpE Φ e E ρ G λ_ G1=>D.nx ρ G1
 |.asg t e,E,ρ,G,D=>wpE Φ e E ρ G λd G1=>bh t d ρ G1 λρ'=>D.nx ρ' G1
 |.set o i e,E,ρ,G,D=>wpE Φ e E ρ G λx G1=>wpE Φ o E ρ G1 λa G2=>wpE Φ i E ρ G2 λy G3=>eV a y x G3 λG4=>D.nx ρ G4
 |.aug i op e,E,ρ,G,D=>match ρ[i]? with
  |some (some a)=>wpE Φ e E ρ G λb G1=>dJ op a b λc=>D.nx (ρ.set i (some c)) G1
  |_=>False
 |.augs o i op e,E,ρ,G,D=>wpE Φ o E ρ G λa G1=>wpE Φ i E ρ G1 λy G2=>cg (view G2 a) y λold=>wpE Φ e E ρ G2 λb G3=>dJ op old b λc=>eV a y c G3 λG4=>D.nx ρ G4
 |.ret e,E,ρ,G,D=>wpE Φ e E ρ G D.rt
 |.rtn,_,_,G,D=>D.rt .non G
 |.ite c a b,E,ρ,G,D=>wpT Φ c E ρ G λt G1=>match t with |true=>aq Φ a E ρ G1 D |false=>aq Φ b E ρ G1 D
 |.for_ t it body,E,ρ,G,D=>wpI Φ it E ρ G λitems g G1=>
   forLoop (λd ρ' G' k=>bh t d ρ' G' λρ1=>aq Φ body E ρ1 G' { D with nx:=k,ct:=k,bk:=D.nx }) g items ρ G1 D.nx
 |.whl c body,E,ρ,G,D=>∃n,whileLoop (λρ' G' k=>wpT Φ c E ρ' G' k) (λρ' G' k=>aq Φ body E ρ' G' { D with nx:=k,ct:=k,bk:=D.nx }) n ρ G D.nx
 |.pas,_,ρ,G,D=>D.nx ρ G
 |.brk,_,ρ,G,D=>D.bk ρ G
 |.cnt,_,ρ,G,D=>D.ct ρ G
 |.nev,_,_,_,_=>False
 |.rse C es,E,ρ,G,_=>wpM Φ es E ρ G λG1=>E ⟨C,.non⟩ G1
 |.tryc f es C i b,_,ρ,G,D=>aP Φ es noE ρ G λds G1=>(Φ f).t ds G1 (λ_ G2=>D.nx ρ G2) λx G2=>x.cls=C/\x.fld=.non/\D.nx (ρ.set i (some (.bl b))) G2
 |.tryx b C h xs,_,ρ,G,D=>wpX Φ b ρ G D.nx λx ρ' G'=>x.fld=.non/\xs.contains x.cls=true/\bC x.cls C=true/\D.nx (caught h x.cls ρ') G'
def aq(Φ:aa):Sxs->EK->ak->DH->En->Prop
 |.nil,_,ρ,G,D=>D.nx ρ G
 |.cons s r,E,ρ,G,D=>wpS Φ s E ρ G { D with nx:=λρ' G'=>aq Φ r E ρ' G' D }
end
theorem rE{Φ:aa}{a}{E}{ρ}{G}{k}:wpT Φ (.not a) E ρ G k=(wpT Φ a E ρ G λb G1=>k (!b) G1):=rfl
theorem rF{Φ:aa}{isAnd}{e}{es}{E}{ρ}{G}{k}:wpT Φ (.boo isAnd e es) E ρ G k=(wpT Φ e E ρ G λb G1=>gb Φ es isAnd b E ρ G1 k):=rfl
theorem rG{Φ:aa}{E}{ρ}{G}{k}:wpT Φ .yes E ρ G k=(k true G):=rfl
theorem jB{Φ:aa}{x}{E}{ρ}{G}{k}:wpT Φ (.val x) E ρ G k=(wpE Φ x E ρ G λd G1=>match truth (view G1 d) with |some b=>k b G1 |none=>False):=rfl
theorem il{Φ:aa}{E}{ρ}{G}{k}:aP Φ .nil E ρ G k=(k [] G):=rfl
theorem gD{Φ:aa}{e}{es}{E}{ρ}{G}{k}:aP Φ (.cons e es) E ρ G k=(wpE Φ e E ρ G λd G1=>aP Φ es E ρ G1 λds G2=>k (d::ds) G2):=rfl
theorem rH{Φ:aa}{isAnd:Bool}{b:Bool}{E}{ρ}{G}{k}:wpB Φ .nil isAnd b E ρ G k=(k b G):=rfl
theorem lF{Φ:aa}{e}{es}{isAnd:Bool}{b:Bool}{E}{ρ}{G}{k}:wpB Φ (.cons e es) isAnd b E ρ G k=(match isAnd,b with
  |true,false=>k false G
  |false,true=>k true G
  |_,_=>wpE Φ e E ρ G λd G1=>match d with |.bl b'=>wpB Φ es isAnd b' E ρ G1 k |_=>False):=rfl
theorem rJ{Φ:aa}{isAnd:Bool}{b:Bool}{E}{ρ}{G}{k}:gb Φ .nil isAnd b E ρ G k=(k b G):=rfl
theorem lG{Φ:aa}{e}{es}{isAnd:Bool}{b:Bool}{E}{ρ}{G}{k}:gb Φ (.cons e es) isAnd b E ρ G k=(match isAnd,b with
  |true,false=>k false G
  |false,true=>k true G
  |_,_=>wpT Φ e E ρ G λb' G1=>gb Φ es isAnd b' E ρ G1 k):=rfl
theorem rK{Φ:aa}{E}{ρ}{G}{k}:wpO Φ .no E ρ G k=(k none G):=rfl
theorem rM{Φ:aa}{x}{E}{ρ}{G}{k}:wpO Φ (.ob x) E ρ G k=(wpE Φ x E ρ G λd G1=>match d with |.int i=>k (some i) G1 |_=>False):=rfl
theorem rN{Φ:aa}{e}{E}{ρ}{G}{k}:wpI Φ (.seq e) E ρ G k=(wpE Φ e E ρ G λd G1=>match itemsOf G1 d with |some ds=>k ds.1 ds.2 G1 |none=>False):=rfl
theorem rO{Φ:aa}{a}{E}{ρ}{G}{k}:wpI Φ (.rng a) E ρ G k=(wpE Φ a E ρ G λd G1=>match d with |.int n=>(-(2 ^ 62)<=n/\n < 2 ^ 62)/\k (aO 0 n.toNat) [] G1 |_=>False):=rfl
theorem w5{Φ:aa}{a}{b}{E}{ρ}{G}{k}:wpI Φ (.rng2 a b) E ρ G k=(wpE Φ a E ρ G λx G1=>wpE Φ b E ρ G1 λy G2=>match x,y with
  |.int m,.int n=>(-(2 ^ 62)<=m/\m < 2 ^ 62/\-(2 ^ 62)<=n/\n < 2 ^ 62)/\k (aO m (n - m).toNat) [] G2
  |_,_=>False):=rfl
theorem rP{Φ:aa}{a}{E}{ρ}{G}{k}:wpI Φ (.rev a) E ρ G k=(wpE Φ a E ρ G λd G1=>match d with |.int n=>(-(2 ^ 62)<=n/\n < 2 ^ 62)/\k (dm ((n.toNat:Int) - 1) n.toNat) [] G1 |_=>False):=rfl
theorem xf{Φ:aa}{a}{b}{c}{E}{ρ}{G}{k}:wpI Φ (.dwn a b c) E ρ G k=(wpE Φ a E ρ G λx G1=>wpE Φ b E ρ G1 λy G2=>wpE Φ c E ρ G2 λz G3=>match x,y,z with
  |.int m,.int n,.int s=>(s=-1/\-(2 ^ 62)<=m/\m < 2 ^ 62/\-(2 ^ 62)<=n/\n < 2 ^ 62)/\k (dm m (m - n).toNat) [] G3
  |_,_,_=>False):=rfl
theorem rQ{Φ:aa}{e}{E}{ρ}{G}{k}:wpI Φ (.enm e) E ρ G k=(wpE Φ e E ρ G λd G1=>match itemsOf G1 d with |some ds=>k (dI 0 ds.1) ds.2 G1 |none=>False):=rfl
theorem rR{Φ:aa}{a}{b}{E}{ρ}{G}{k}:wpI Φ (.zip a b) E ρ G k=(wpE Φ a E ρ G λx G1=>wpE Φ b E ρ G1 λy G2=>match itemsOf G2 x,itemsOf G2 y with |some ds,some es=>k (bU ds.1 es.1) (ds.2++es.2) G2 |_,_=>False):=rfl
theorem jC{Φ:aa}{E}{ρ}{G}{D}:aq Φ .nil E ρ G D=(D.nx ρ G):=rfl
theorem jD{Φ:aa}{s}{r}{E}{ρ}{G}{D}:aq Φ (.cons s r) E ρ G D=(wpS Φ s E ρ G { D with nx:=λρ' G'=>aq Φ r E ρ' G' D }):=rfl
theorem rT{Φ:aa}{i E ρ G k}:wpE Φ (.var i) E ρ G k=(match ρ[i]? with |some (some d)=>k d G |_=>False):=rfl
theorem ir{Φ:aa}{d E ρ G k}:wpE Φ (.cst d) E ρ G k=(k d G):=rfl
theorem rW{Φ:aa}{u0 d E ρ G k}:wpE Φ (.glb u0 d) E ρ G k=(k d G):=rfl
theorem rY{Φ:aa}{op fz a b E ρ G k}:wpE Φ (.bin op fz a b) E ρ G k=(wpE Φ a E ρ G λx G1=>wpE Φ b E ρ G1 λy G2=>b8 op fz (view G2 x) (view G2 y) G2 k):=rfl
theorem rZ{Φ:aa}{a E ρ G k}:wpE Φ (.neg a) E ρ G k=(wpE Φ a E ρ G λx G1=>match x with |.int i=>k (.int (-i)) G1 |_=>False):=rfl
theorem lH{Φ:aa}{op a b E ρ G k}:wpE Φ (.cmp op a b) E ρ G k=(wpE Φ a E ρ G λx G1=>wpE Φ b E ρ G1 λy G2=>aX op (view G2 x) (view G2 y) λc=>k (.bl c) G2):=rfl
theorem lJ{Φ:aa}{op op' a b c E ρ G k}:wpE Φ (.chn op op' a b c) E ρ G k=(wpE Φ a E ρ G λx G1=>wpE Φ b E ρ G1 λy G2=>aX op (view G2 x) (view G2 y) λt=>
   match t with
   |true=>wpE Φ c E ρ G2 λz G3=>aX op' (view G3 y) (view G3 z) λt'=>k (.bl t') G3
   |false=>k (.bl false) G2):=rfl
theorem sr{Φ:aa}{a E ρ G k}:wpE Φ (.not a) E ρ G k=(wpE Φ a E ρ G λx G1=>match truth (view G1 x) with |some b=>k (.bl (!b)) G1 |none=>False):=rfl
theorem su{Φ:aa}{isAnd e es E ρ G k}:wpE Φ (.boo isAnd e es) E ρ G k=(wpE Φ e E ρ G λd G1=>match d with |.bl b=>wpB Φ es isAnd b E ρ G1 (λc G2=>k (.bl c) G2) |_=>False):=rfl
theorem sy{Φ:aa}{c a b E ρ G k}:wpE Φ (.ife c a b) E ρ G k=(wpT Φ c E ρ G λt G1=>match t with |true=>wpE Φ a E ρ G1 k |false=>wpE Φ b E ρ G1 k):=rfl
theorem sE{Φ:aa}{es E ρ G k}:wpE Φ (.tup es) E ρ G k=(aP Φ es E ρ G λds G1=>ds.length<=sz/\k (.tup ds) G1):=rfl
theorem sG{Φ:aa}{fz es E ρ G k}:wpE Φ (.lst fz es) E ρ G k=(aP Φ es E ρ G λds G1=>ds.length<=sz/\mk fz ds G1 k):=rfl
theorem sH{Φ:aa}{a i E ρ G k}:wpE Φ (.idx a i) E ρ G k=(wpE Φ a E ρ G λx G1=>wpE Φ i E ρ G1 λy G2=>cg (view G2 x) y λd=>k d G2):=rfl
theorem xg{Φ:aa}{fz a s E ρ G k}:wpE Φ (.rvs fz a s) E ρ G k=(wpE Φ a E ρ G λx G1=>wpE Φ s E ρ G1 λy G2=>jA fz (view G2 x) y G2 k):=rfl
theorem sI{Φ:aa}{fz a lo hi E ρ G k}:wpE Φ (.slc fz a lo hi) E ρ G k=(wpE Φ a E ρ G λx G1=>wpO Φ lo E ρ G1 λl G2=>wpO Φ hi E ρ G2 λh G3=>eQ fz (view G3 x) l h G3 k):=rfl
theorem sJ{Φ:aa}{f es E ρ G k}:wpE Φ (.call f es) E ρ G k=(aP Φ es E ρ G λds G1=>(Φ f).t ds G1 k E):=rfl
theorem sO{Φ:aa}{f es E ρ G k}:wpE Φ (.bcl f es) E ρ G k=(aP Φ es E ρ G λds G1=>opB f (ds.map (view G1)) λd=>k d G1):=rfl
theorem sS{Φ:aa}{fz f es E ρ G k}:wpE Φ (.lcl fz f es) E ρ G k=(aP Φ es E ρ G λds G1=>cG f (ds.map (view G1)) λxs=>mk fz xs G1 k):=rfl
theorem sU{Φ:aa}{a t E ρ G k}:wpE Φ (.isi a t) E ρ G k=(wpE Φ a E ρ G λx G1=>match isT t (view G1 x) with |some b=>k (.bl b) G1 |none=>False):=rfl
theorem sV{Φ:aa}{a C xs E ρ G k}:wpE Φ (.isx a C xs) E ρ G k=(wpE Φ a E ρ G λx G1=>match x with |.exn c=>xs.contains c=true/\k (.bl (bC c C)) G1 |_=>False):=rfl
theorem sW{Φ:aa}{fz a E ρ G k}:wpE Φ (.rgl fz a) E ρ G k=(wpE Φ a E ρ G λd G1=>match d with |.int n=>(0<=n/\n<=1000)/\mk fz (aO 0 n.toNat) G1 k |_=>False):=rfl
theorem sX{Φ:aa}{a E ρ G k}:wpE Φ (.rgt a) E ρ G k=(wpE Φ a E ρ G λd G1=>match d with |.int n=>(0<=n/\n<=1000)/\k (.tup (aO 0 n.toNat)) G1 |_=>False):=rfl
theorem xj{Φ:aa}{es E ρ G k}:wpE Φ (.fst es) E ρ G k=(wpF Φ es E ρ G λl G1=>l.length<=sz/\k (.str l) G1):=rfl
theorem xm{Φ:aa}{E ρ G k}:wpF Φ .nil E ρ G k=k [] G:=rfl
theorem xq{Φ:aa}{e es E ρ G k}:wpF Φ (.cons e es) E ρ G k=(wpE Φ e E ρ G λd G1=>match d with
  |.str l=>l.length<=1000/\wpF Φ es E ρ G1 λx G2=>k (l++x) G2
  |.int i=>(0<=i/\i < 100)/\wpF Φ es E ρ G1 λx G2=>k (gC i.toNat++x) G2
  |_=>False):=rfl
theorem gf{Φ:aa}{m o es E ρ G k}:wpE Φ (.mth m o es) E ρ G k=(wpE Φ o E ρ G λx G1=>recv m x G1/\aP Φ es E ρ G1 λds G2=>opM m x ds G2 k):=rfl
theorem sY{Φ:aa}{a E ρ G k}:wpE Φ (.frz a) E ρ G k=(wpE Φ a E ρ G λx G1=>match x with |.ref p=>(match G1 p with |some (.lst ds)=>k (.lst ds) (ik G1 p) |none=>False) |d=>k d G1):=rfl
theorem sZ{Φ:aa}{e E ρ G D}:wpS Φ (.exp e) E ρ G D=(wpE Φ e E ρ G λ_ G1=>D.nx ρ G1):=rfl
theorem jE{Φ:aa}{t e E ρ G D}:wpS Φ (.asg t e) E ρ G D=(wpE Φ e E ρ G λd G1=>bh t d ρ G1 λρ'=>D.nx ρ' G1):=rfl
theorem tu{Φ:aa}{o i e E ρ G D}:wpS Φ (.set o i e) E ρ G D=(wpE Φ e E ρ G λx G1=>wpE Φ o E ρ G1 λa G2=>wpE Φ i E ρ G2 λy G3=>eV a y x G3 λG4=>D.nx ρ G4):=rfl
theorem tB{Φ:aa}{i op e E ρ G D}:wpS Φ (.aug i op e) E ρ G D=(match ρ[i]? with
  |some (some a)=>wpE Φ e E ρ G λb G1=>dJ op a b λc=>D.nx (ρ.set i (some c)) G1
  |_=>False):=rfl
theorem tD{Φ:aa}{o i op e E ρ G D}:wpS Φ (.augs o i op e) E ρ G D=(wpE Φ o E ρ G λa G1=>wpE Φ i E ρ G1 λy G2=>cg (view G2 a) y λold=>wpE Φ e E ρ G2 λb G3=>dJ op old b λc=>eV a y c G3 λG4=>D.nx ρ G4):=rfl
theorem tH{Φ:aa}{e E ρ G D}:wpS Φ (.ret e) E ρ G D=(wpE Φ e E ρ G D.rt):=rfl
theorem tM{Φ:aa}{E ρ G D}:wpS Φ .rtn E ρ G D=(D.rt .non G):=rfl
theorem tQ{Φ:aa}{c a b E ρ G D}:wpS Φ (.ite c a b) E ρ G D=(wpT Φ c E ρ G λt G1=>match t with |true=>aq Φ a E ρ G1 D |false=>aq Φ b E ρ G1 D):=rfl
theorem tR{Φ:aa}{E ρ G D}:wpS Φ .pas E ρ G D=(D.nx ρ G):=rfl
theorem tU{Φ:aa}{E ρ G D}:wpS Φ .brk E ρ G D=(D.bk ρ G):=rfl
theorem tV{Φ:aa}{E ρ G D}:wpS Φ .cnt E ρ G D=(D.ct ρ G):=rfl
theorem lK{Φ:aa}{C es E ρ G D}:wpS Φ (.rse C es) E ρ G D=(wpM Φ es E ρ G λG1=>E ⟨C,.non⟩ G1):=rfl
theorem xr{Φ:aa}{E ρ G k}:wpM Φ .nil E ρ G k=k G:=rfl
theorem tW{Φ:aa}{e es E ρ G k}:wpM Φ (.cons e es) E ρ G k=(wpE Φ e E ρ G λd G1=>rD d=true/\wpM Φ es E ρ G1 k):=rfl
theorem xu{Φ:aa}{f es C i b E ρ G D}:wpS Φ (.tryc f es C i b) E ρ G D=(aP Φ es noE ρ G λds G1=>(Φ f).t ds G1 (λ_ G2=>D.nx ρ G2) λx G2=>x.cls=C/\x.fld=.non/\D.nx (ρ.set i (some (.bl b))) G2):=rfl
theorem lL{Φ:aa}{b C h xs E ρ G D}:wpS Φ (.tryx b C h xs) E ρ G D=(wpX Φ b ρ G D.nx λx ρ' G'=>x.fld=.non/\xs.contains x.cls=true/\bC x.cls C=true/\D.nx (caught h x.cls ρ') G'):=rfl
theorem xF{Φ:aa}{f g i es ρ G nx ex}:wpX Φ (.pick f g i es) ρ G nx ex=(wpE Φ (.var i) noE ρ G λd G1=>∃b:Bool,d=.int (if b then 1 else 0)/\aP Φ es noE ρ G1 λds G2=>(Φ (if b then g else f)).t ds G2 (λ_ G3=>nx ρ G3) λx G3=>ex x ρ G3):=rfl
theorem tX{Φ:aa}{f es ρ G nx ex}:wpX Φ (.call f es) ρ G nx ex=(aP Φ es noE ρ G λds G1=>(Φ f).t ds G1 (λ_ G2=>nx ρ G2) λx G2=>ex x ρ G2):=rfl
theorem xG{Φ:aa}{i f es ρ G nx ex}:wpX Φ (.asg i f es) ρ G nx ex=(aP Φ es noE ρ G λds G1=>(Φ f).t ds G1 (λd G2=>nx (ρ.set i (some d)) G2) λx G2=>ex x ρ G2):=rfl
theorem xH{Φ:aa}{c a b ρ G nx ex}:wpX Φ (.ite c a b) ρ G nx ex=(wpT Φ c noE ρ G λt G1=>match t with |true=>wpX Φ a ρ G1 nx ex |false=>wpX Φ b ρ G1 nx ex):=rfl
theorem tY{Φ:aa}{E ρ G D}:wpS Φ .nev E ρ G D=(False):=rfl
theorem xJ{Φ:aa}{fz elt tg it cond N cap E ρ G k}:wpE Φ (.comp fz elt tg it cond N cap) E ρ G k=(wpI Φ it E ρ G λitems g G1=>
   compLoop (λd ρ' G' k'=>bh tg d ρ' G' λρ1=>wpT Φ cond noE ρ1 G' λb G2=>match b with |true=>wpE Φ elt noE ρ1 G2 λy G3=>k' (some y) ρ1 G3 |false=>k' none ρ1 G2)
    g items [] (cap.map λo=>match o with |none=>none |some j=>(ρ[j]?).join) G1 λds G2=>mk fz ds G2 k):=rfl
theorem Dt{Φ:aa}{t it body E ρ G D}:wpS Φ (.for_ t it body) E ρ G D=(wpI Φ it E ρ G λitems g G1=>
   forLoop (λd ρ' G' k=>bh t d ρ' G' λρ1=>aq Φ body E ρ1 G' { D with nx:=k,ct:=k,bk:=D.nx }) g items ρ G1 D.nx):=rfl
theorem Zc{Φ:aa}{c body E ρ G D}:wpS Φ (.whl c body) E ρ G D=(∃n,whileLoop (λρ' G' k=>wpT Φ c E ρ' G' k) (λρ' G' k=>aq Φ body E ρ' G' { D with nx:=k,ct:=k,bk:=D.nx }) n ρ G D.nx):=rfl
section
variable {k k':D->DH->Prop} {G:DH}
theorem dq{fz:Bool}{xs:List D}(h:∀d G',k d G'->k' d G')(q:mk fz xs G k):mk fz xs G k':=by
 cases fz with
 |true=>exact h _ _ q
 |false=>exact λp hp=>h _ _ (q p hp)
theorem Du{a b:D}{p:Int->Int->Prop}(h:gB a b p):∃i j,a=.int i/\b=.int j/\p i j:=by
 cases a with
 |int i=>cases b with
  |int j=>exact ⟨i,j,rfl,rfl,h⟩
  |_=>exact h.elim
 |_=>exact h.elim
theorem tZ{a b:D}{p q:Int->Int->Prop}(h:∀i j,p i j->q i j)(z:gB a b p):gB a b q:=by obtain ⟨i,j,rfl,rfl,z⟩:=Du z;exact h i j z
theorem Dv{op:Operator}{fz:Bool}{a b:D}(h:∀d G',k d G'->k' d G')(q:b8 op fz a b G k):b8 op fz a b G k':=by
 cases op with
 |Add=>
  have q:jq fz a b G k:=q;show jq fz a b G k';unfold jq at q ⊢;cases a with
  |int i=>cases b <;> first |exact h _ _ q |exact q
  |str i=>cases b <;> first |exact ⟨q.1,h _ _ q.2⟩ |exact q
  |lst i=>cases b <;> first |exact ⟨q.1,dq h q.2⟩ |exact q
  |tup i=>cases b <;> first |exact ⟨q.1,h _ _ q.2⟩ |exact q
  |_=>exact q
 |Sub=>exact tZ (λ_ _ z=>h _ _ z) q
 |Mult=>
  have q:jr fz a b G k:=q;show jr fz a b G k';unfold jr at q ⊢;cases b with
  |int n=>cases a <;> first |exact ⟨q.1,h _ _ q.2⟩ |exact ⟨q.1,q.2.1,q.2.2.1,h _ _ q.2.2.2⟩ |exact ⟨q.1,q.2.1,q.2.2.1,dq h q.2.2.2⟩ |exact ⟨q.1,q.2.1,q.2.2.1,q.2.2.2.1,h _ _ q.2.2.2.2⟩ |exact q
  |_=>exact q
 |FloorDiv=>exact tZ (λ_ _ z=>⟨z.1,h _ _ z.2⟩) q
 |Mod=>exact tZ (λ_ _ z=>⟨z.1,h _ _ z.2⟩) q
 |Pow=>exact tZ (λ_ _ z=>⟨z.1,h _ _ z.2⟩) q
 |_=>exact q
theorem Dw{a b:D}{k k':Bool->Prop}(h:∀c,k c->k' c)(q:fY a b k):fY a b k':=by
 unfold fY at q ⊢;split at q
 ·split at q
  ·exact h _ q
  ·exact q
 ·exact ⟨q.1,h _ q.2⟩
 ·exact ⟨q.1,h _ q.2⟩
 ·exact q
theorem iu{op:CmpOp}{a b:D}{k k':Bool->Prop}(h:∀c,k c->k' c)(q:aX op a b k):aX op a b k':=by
 cases op with
 |Eq=>exact ⟨q.1,h _ q.2⟩
 |NotEq=>exact ⟨q.1,h _ q.2⟩
 |Lt=>have q:jt a b k:=q;show jt a b k';unfold jt at q ⊢;split at q <;> first |exact h _ q |exact q
 |LtE=>have q:ju a b k:=q;show ju a b k';unfold ju at q ⊢;split at q <;> first |exact h _ q |exact q
 |Gt=>have q:jw a b k:=q;show jw a b k';unfold jw at q ⊢;split at q <;> first |exact h _ q |exact q
 |GtE=>have q:jx a b k:=q;show jx a b k';unfold jx at q ⊢;split at q <;> first |exact h _ q |exact q
 |Is=>
  have q:jy a b k:=q;show jy a b k';unfold jy at q ⊢;split at q
  ·exact h _ q
  ·split at q
   ·exact h _ q
   ·exact q
  ·exact q
 |IsNot=>
  have q:jz a b k:=q;show jz a b k';unfold jz at q ⊢;split at q
  ·exact h _ q
  ·split at q
   ·exact h _ q
   ·exact q
  ·exact q
 |In=>exact Dw h q
 |NotIn=>exact Dw (λc=>h _) q
theorem uc{a i:D}{k k':D->Prop}(h:∀c,k c->k' c)(q:cg a i k):cg a i k':=by
 unfold cg at q ⊢;split at q
 ·split at q
  ·exact h _ q
  ·exact q
 ·split at q
  ·exact h _ q
  ·exact q
 ·split at q
  ·exact h _ q
  ·exact q
 ·exact q
theorem Dy{fz:Bool}{a:D}{lo hi:Option Int}(h:∀d G',k d G'->k' d G')(q:eQ fz a lo hi G k):eQ fz a lo hi G k':=by
 unfold eQ at q ⊢;split at q <;> first
  |exact dq h q
  |exact h _ _ q
  |exact q.elim
theorem Zd{fz:Bool}{a y:D}(h:∀d G',k d G'->k' d G')(q:jA fz a y G k):jA fz a y G k':=by
 unfold jA at q ⊢;split at q
 ·exact ⟨q.1,dq h q.2⟩
 ·exact q.elim
theorem Dz{f:Bf}{as:List D}{k k':D->Prop}(h:∀c,k c->k' c)(q:opB f as k):opB f as k':=by
 cases f with
 |len=>simp only[opB,wU]at q ⊢;split at q <;> first |exact h _ q |exact q.elim
 |all=>
  simp only[opB,qY]at q ⊢;split at q
  ·split at q
   ·exact h _ q
   ·exact q
  ·exact q
 |int=>
  simp only[opB,qZ]at q ⊢;split at q
  ·exact h _ q
  ·exact h _ q
  ·split at q
   ·exact ⟨q.1,h _ q.2⟩
   ·exact q
  ·exact q
 |tuple=>simp only[opB,wV]at q ⊢;split at q <;> first |exact h _ q |exact q.elim
 |sum=>
  simp only[opB,wW]at q ⊢;split at q
  ·split at q
   ·exact h _ q
   ·exact q
  ·exact q
 |min=>
  simp only[opB,lD]at q ⊢;split at q
  ·split at q
   ·exact ⟨q.1,λm h1 h2=>h _ (q.2 m h1 h2)⟩
   ·split at q
    ·exact λm h1 h2=>h _ (q m h1 h2)
    ·exact q
  ·exact q
 |max=>simp only[opB,Ds]at q ⊢;split at q <;> first |exact h _ q |exact q.elim
 |str=>
  simp only[opB,wX]at q ⊢;split at q
  ·exact ⟨q.1,h _ q.2⟩
  ·exact q
theorem DG{f:Lf}{as:List D}{k k':List D->Prop}(h:∀c,k c->k' c)(q:cG f as k):cG f as k':=by
 cases f with
 |list=>simp only[cG,wY]at q ⊢;split at q <;> first |exact h _ q |exact q.elim
 |sorted=>
  simp only[cG,lE]at q ⊢;split at q
  ·split at q
   ·exact ⟨q.1,λls p z=>h _ (q.2 ls p z)⟩
   ·exact q
  ·split at q
   ·exact ⟨q.1,λls p z=>h _ (q.2 ls p z)⟩
   ·exact q
  ·exact q
theorem iw{m:Mf}{o:D}{as:List D}(h:∀d G',k d G'->k' d G')(q:opM m o as G k):opM m o as G k':=by
 cases m with
 |join=>
  simp only[opM,q8]at q ⊢;split at q
  ·split at q
   ·exact ⟨q.1,h _ _ q.2⟩
   ·exact q
  ·exact q
 |append=>
  simp only[opM,q9]at q ⊢;split at q
  ·split at q
   ·exact ⟨q.1,h _ _ q.2⟩
   ·exact q
  ·exact q
 |extend=>
  simp only[opM,rm]at q ⊢;split at q
  ·split at q
   ·exact ⟨q.1,h _ _ q.2⟩
   ·exact q
  ·exact q
 |insert=>
  simp only[opM,rn]at q ⊢;split at q
  ·split at q
   ·exact ⟨q.1,q.2.1,q.2.2.1,h _ _ q.2.2.2⟩
   ·exact q
  ·exact q
 |count=>
  simp only[opM,rA]at q ⊢;split at q
  ·split at q
   ·exact h _ _ q
   ·exact q
  ·exact q
 |index=>
  simp only[opM,rB]at q ⊢;split at q
  ·split at q
   ·exact ⟨q.1,h _ _ q.2⟩
   ·exact q
  ·exact q
theorem ud{o i x:D}{k k':DH->Prop}(h:∀G',k G'->k' G')(q:eV o i x G k):eV o i x G k':=by
 unfold eV at q ⊢;split at q
 ·split at q
  ·split at q
   ·exact h _ q
   ·exact q
  ·exact q
 ·exact q
theorem ue{op:Operator}{a b:D}{k k':D->Prop}(h:∀c,k c->k' c)(q:dJ op a b k):dJ op a b k':=by
 unfold dJ at q ⊢;split at q <;> first
  |exact h _ q
  |exact ⟨q.1,h _ q.2⟩
  |exact q.elim
mutual
theorem gh{k k':ak->Prop}(h:∀ρ,k ρ->k' ρ):∀(t:Tg){d:D}{ρ:ak},bh t d ρ G k->bh t d ρ G k'
 |.nm i,d,ρ,q=>h _ q
 |.tp ts,d,ρ,q=>by
  unfold bh at q ⊢;split at q
  ·exact xK h ts q
  ·exact xK h ts q
  ·exact q
theorem xK{k k':ak->Prop}(h:∀ρ,k ρ->k' ρ):∀(ts:Tgs){ds:List D}{ρ:ak},bJ ts ds ρ G k->bJ ts ds ρ G k'
 |.nil,ds,ρ,q=>by
  unfold bJ at q ⊢;split at q
  ·exact h _ q
  ·exact q
 |.cons t r,ds,ρ,q=>by
  unfold bJ at q ⊢;split at q
  ·exact gh (λρ' q'=>xK h r q') t q
  ·exact q
end
theorem uf{step step':D->ak->DH->(Option D->ak->DH->Prop)->Prop}(hs:∀d ρ G (k k':Option D->ak->DH->Prop),(∀o ρ' G',k o ρ' G'->k' o ρ' G')->step d ρ G k->step' d ρ G k')
  {g:Hld} {k k':List D->DH->Prop} (h:∀ds G',k ds G'->k' ds G'):∀(ds acc:List D)(ρ:ak)(G:DH),compLoop step g ds acc ρ G k->compLoop step' g ds acc ρ G k'
 |[],acc,ρ,G,q=>⟨q.1,q.2.1,h _ _ q.2.2⟩
 |d::ds,acc,ρ,G,q=>by
  refine ⟨q.1,q.2.1,hs d ρ G _ _ (λo ρ' G' z=>?_) q.2.2⟩;cases o with
  |some y=>exact uf hs h ds (acc++[y]) ρ' G' z
  |none=>exact uf hs h ds acc ρ' G' z
theorem DK{step step':D->ak->DH->(ak->DH->Prop)->Prop}(hs:∀d ρ G (k k':ak->DH->Prop),(∀ρ' G',k ρ' G'->k' ρ' G')->step d ρ G k->step' d ρ G k')
  {g:Hld} {k k':ak->DH->Prop} (h:∀ρ G',k ρ G'->k' ρ G'):∀(ds:List D)(ρ:ak)(G:DH),forLoop step g ds ρ G k->forLoop step' g ds ρ G k'
 |[],ρ,G,q=>⟨q.1,h _ _ q.2⟩
 |d::ds,ρ,G,q=>⟨q.1,hs d ρ G _ _ (λρ' G' z=>DK hs h ds ρ' G' z) q.2⟩
theorem DN{test test':ak->DH->(Bool->DH->Prop)->Prop}{body body':ak->DH->(ak->DH->Prop)->Prop}
  (ht:∀ρ G (k k':Bool->DH->Prop),(∀b G',k b G'->k' b G')->test ρ G k->test' ρ G k') (hb:∀ρ G (k k':ak->DH->Prop),(∀ρ' G',k ρ' G'->k' ρ' G')->body ρ G k->body' ρ G k')
  {k k':ak->DH->Prop} (h:∀ρ G',k ρ G'->k' ρ G'):∀(n:Nat)(ρ:ak)(G:DH),whileLoop test body n ρ G k->whileLoop test' body' n ρ G k'
 |0,ρ,G,q=>q
 |n+1,ρ,G,q=>ht ρ G _ _ (λb G' z=>by
   cases b with
   |true=>exact hb ρ G' _ _ (λρ' G'' z'=>DN ht hb h n ρ' G'' z') z
   |false=>exact h _ _ z) q
end
section
variable {Φ:aa} {G:DH}
mutual
theorem aH{E:EK}{ρ:ak}:∀(x:Ex){G:DH}{k k':D->DH->Prop},(∀d G',k d G'->k' d G')->wpE Φ x E ρ G k->wpE Φ x E ρ G k'
 |.var i,G,k,k',h,q=>by
  rw[rT]at q ⊢;split at q
  ·exact h _ _ q
  ·exact q
 |.cst d,G,k,k',h,q=>by rw[ir]at q ⊢;exact h _ _ q
 |.glb x d,G,k,k',h,q=>by rw[rW]at q ⊢;exact h _ _ q
 |.bin op fz a b,G,k,k',h,q=>by
  rw[rY]at q ⊢;exact aH a (λ_ _ q=>aH b (λ_ _ q=>Dv h q) q) q
 |.neg a,G,k,k',h,q=>by
  rw[rZ]at q ⊢;refine aH a (λx _ q=>?_) q;split at q
  ·exact h _ _ q
  ·exact q
 |.cmp op a b,G,k,k',h,q=>by
  rw[lH]at q ⊢;exact aH a (λ_ _ q=>aH b (λ_ _ q=>iu (λ_ q=>h _ _ q) q) q) q
 |.chn op op' a b c,G,k,k',h,q=>by
  rw[lJ]at q ⊢;refine aH a (λ_ _ q=>aH b (λ_ _ q=>iu (λt q=>?_) q) q) q;cases t with
  |true=>exact aH c (λ_ _ q=>iu (λ_ q=>h _ _ q) q) q
  |false=>exact h _ _ q
 |.not a,G,k,k',h,q=>by
  rw[sr]at q ⊢;refine aH a (λx _ q=>?_) q;split at q
  ·exact h _ _ q
  ·exact q
 |.boo isAnd e es,G,k,k',h,q=>by
  rw[su]at q ⊢;refine aH e (λx _ q=>?_) q;split at q
  ·exact ug es (λ_ _ q=>h _ _ q) q
  ·exact q
 |.ife c a b,G,k,k',h,q=>by
  rw[sy]at q ⊢;refine du c (λt _ q=>?_) q;cases t with
  |true=>exact aH a h q
  |false=>exact aH b h q
 |.tup es,G,k,k',h,q=>by
  rw[sE]at q ⊢;exact dw es (λ_ _ q=>⟨q.1,h _ _ q.2⟩) q
 |.lst fz es,G,k,k',h,q=>by
  rw[sG]at q ⊢;exact dw es (λ_ _ q=>⟨q.1,dq h q.2⟩) q
 |.idx a i,G,k,k',h,q=>by
  rw[sH]at q ⊢;exact aH a (λ_ _ q=>aH i (λ_ _ q=>uc (λ_ q=>h _ _ q) q) q) q
 |.slc fz a lo hi,G,k,k',h,q=>by
  rw[sI]at q ⊢;exact aH a (λ_ _ q=>xN lo (λ_ _ q=>xN hi (λ_ _ q=>Dy h q) q) q) q
 |.rvs fz a s,G,k,k',h,q=>by
  rw[xg]at q ⊢;exact aH a (λ_ _ q=>aH s (λ_ _ q=>Zd h q) q) q
 |.call f es,G,k,k',h,q=>by
  rw[sJ]at q ⊢;exact dw es (λ_ _ q=>Spec.mono q h λ_ _ z=>z) q
 |.bcl f es,G,k,k',h,q=>by
  rw[sO]at q ⊢;exact dw es (λ_ _ q=>Dz (λ_ q=>h _ _ q) q) q
 |.lcl fz f es,G,k,k',h,q=>by
  rw[sS]at q ⊢;exact dw es (λ_ _ q=>DG (λ_ q=>dq h q) q) q
 |.isi a t,G,k,k',h,q=>by
  rw[sU]at q ⊢;refine aH a (λx _ q=>?_) q;split at q
  ·exact h _ _ q
  ·exact q
 |.isx a C xs,G,k,k',h,q=>by
  rw[sV]at q ⊢;refine aH a (λx _ q=>?_) q;split at q
  ·exact ⟨q.1,h _ _ q.2⟩
  ·exact q
 |.rgl fz a,G,k,k',h,q=>by
  rw[sW]at q ⊢;refine aH a (λd _ q=>?_) q;split at q
  ·exact ⟨q.1,dq h q.2⟩
  ·exact q
 |.rgt a,G,k,k',h,q=>by
  rw[sX]at q ⊢;refine aH a (λd _ q=>?_) q;split at q
  ·exact ⟨q.1,h _ _ q.2⟩
  ·exact q
 |.fst es,G,k,k',h,q=>by
  rw[xj]at q ⊢;exact xM es (λ_ _ q=>⟨q.1,h _ _ q.2⟩) q
 |.mth m o es,G,k,k',h,q=>by
  rw[gf]at q ⊢;exact aH o (λ_ _ q=>⟨q.1,dw es (λ_ _ q=>iw h q) q.2⟩) q
 |.comp fz elt tg it cond N cap,G,k,k',h,q=>by
  rw[xJ]at q ⊢;refine lM it (λitems g G1 q=>?_) q;refine uf ?_ (λds G2 z=>dq h z) items [] _ G1 q;intro d ρ' G' k k' hk z;refine gh (λρ1 z=>?_) tg z;refine du cond (λb G2 z=>?_) z;cases b with
  |true=>exact aH elt (λy G3 z=>hk _ _ _ z) z
  |false=>exact hk _ _ _ z
 |.frz a,G,k,k',h,q=>by
  rw[sY]at q ⊢;refine aH a (λx G1 q=>?_) q;split at q
  ·split at q
   ·exact h _ _ q
   ·exact q
  ·exact h _ _ q
theorem du{E:EK}{ρ:ak}:∀(x:Tx){G:DH}{k k':Bool->DH->Prop},(∀d G',k d G'->k' d G')->wpT Φ x E ρ G k->wpT Φ x E ρ G k'
 |.not a,G,k,k',h,q=>by rw[rE]at q ⊢;exact du a (λ_ _ q=>h _ _ q) q
 |.boo isAnd e es,G,k,k',h,q=>by rw[rF]at q ⊢;exact du e (λ_ _ q=>uh es h q) q
 |.yes,G,k,k',h,q=>by rw[rG]at q ⊢;exact h _ _ q
 |.val a,G,k,k',h,q=>by
  rw[jB]at q ⊢;refine aH a (λx _ q=>?_) q;split at q
  ·exact h _ _ q
  ·exact q
theorem xM{E:EK}{ρ:ak}:∀(x:Exs){G:DH}{k k':List Nat->DH->Prop},(∀d G',k d G'->k' d G')->wpF Φ x E ρ G k->wpF Φ x E ρ G k'
 |.nil,G,k,k',h,q=>by rw[xm]at q ⊢;exact h _ _ q
 |.cons e es,G,k,k',h,q=>by
  rw[xq]at q ⊢;refine aH e (λd _ q=>?_) q;split at q
  ·exact ⟨q.1,xM es (λ_ _ q=>h _ _ q) q.2⟩
  ·exact ⟨q.1,xM es (λ_ _ q=>h _ _ q) q.2⟩
  ·exact q
theorem dw{E:EK}{ρ:ak}:∀(x:Exs){G:DH}{k k':List D->DH->Prop},(∀d G',k d G'->k' d G')->aP Φ x E ρ G k->aP Φ x E ρ G k'
 |.nil,G,k,k',h,q=>by rw[il]at q ⊢;exact h _ _ q
 |.cons e es,G,k,k',h,q=>by rw[gD]at q ⊢;exact aH e (λ_ _ q=>dw es (λ_ _ q=>h _ _ q) q) q
theorem ug{E:EK}{ρ:ak}:∀(x:Exs){isAnd b:Bool}{G:DH}{k k':Bool->DH->Prop},(∀d G',k d G'->k' d G')->wpB Φ x isAnd b E ρ G k->wpB Φ x isAnd b E ρ G k'
 |.nil,_,_,G,k,k',h,q=>by rw[rH]at q ⊢;exact h _ _ q
 |.cons e es,isAnd,b,G,k,k',h,q=>by
  rw[lF]at q ⊢;cases isAnd <;> cases b <;> first
   |exact h _ _ q
   | (refine aH e (λd _ q=>?_) q
      split at q
      ·exact ug es h q
      ·exact q)
theorem uh{E:EK}{ρ:ak}:∀(x:Txs){isAnd b:Bool}{G:DH}{k k':Bool->DH->Prop},(∀d G',k d G'->k' d G')->gb Φ x isAnd b E ρ G k->gb Φ x isAnd b E ρ G k'
 |.nil,_,_,G,k,k',h,q=>by rw[rJ]at q ⊢;exact h _ _ q
 |.cons e es,isAnd,b,G,k,k',h,q=>by
  rw[lG]at q ⊢;cases isAnd <;> cases b <;> first
   |exact h _ _ q
   |exact du e (λd _ q=>uh es h q) q
theorem xN{E:EK}{ρ:ak}:∀(x:Ox){G:DH}{k k':Option Int->DH->Prop},(∀d G',k d G'->k' d G')->wpO Φ x E ρ G k->wpO Φ x E ρ G k'
 |.no,G,k,k',h,q=>by rw[rK]at q ⊢;exact h _ _ q
 |.ob a,G,k,k',h,q=>by
  rw[rM]at q ⊢;refine aH a (λx _ q=>?_) q;split at q
  ·exact h _ _ q
  ·exact q
theorem lM{E:EK}{ρ:ak}:∀(x:It'){G:DH}{k k':List D->Hld->DH->Prop},(∀d g G',k d g G'->k' d g G')->wpI Φ x E ρ G k->wpI Φ x E ρ G k'
 |.seq a,G,k,k',h,q=>by
  rw[rN]at q ⊢;refine aH a (λx _ q=>?_) q;split at q
  ·exact h _ _ _ q
  ·exact q
 |.rng a,G,k,k',h,q=>by
  rw[rO]at q ⊢;refine aH a (λx _ q=>?_) q;split at q
  ·exact ⟨q.1,h _ _ _ q.2⟩
  ·exact q
 |.rev a,G,k,k',h,q=>by
  rw[rP]at q ⊢;refine aH a (λx _ q=>?_) q;split at q
  ·exact ⟨q.1,h _ _ _ q.2⟩
  ·exact q
 |.dwn a b d,G,k,k',h,q=>by
  rw[xf]at q ⊢;refine aH a (λx _ q=>aH b (λy _ q=>aH d (λz _ q=>?_) q) q) q;split at q
  ·exact ⟨q.1,h _ _ _ q.2⟩
  ·exact q
 |.rng2 a b,G,k,k',h,q=>by
  rw[w5]at q ⊢;refine aH a (λx _ q=>aH b (λy _ q=>?_) q) q;split at q
  ·exact ⟨q.1,h _ _ _ q.2⟩
  ·exact q
 |.enm a,G,k,k',h,q=>by
  rw[rQ]at q ⊢;refine aH a (λx _ q=>?_) q;split at q
  ·exact h _ _ _ q
  ·exact q
 |.zip a b,G,k,k',h,q=>by
  rw[rR]at q ⊢;refine aH a (λx _ q=>aH b (λy _ q=>?_) q) q;split at q
  ·exact h _ _ _ q
  ·exact q
end
structure En.Le(D D':En):Prop where
 nx:∀ρ G,D.nx ρ G->D'.nx ρ G
 rt:∀d G,D.rt d G->D'.rt d G
 bk:∀ρ G,D.bk ρ G->D'.bk ρ G
 ct:∀ρ G,D.ct ρ G->D'.ct ρ G
theorem lN:∀(b:Tb){ρ:ak}{G:DH}{nx nx':ak->DH->Prop}{ex ex':Xn->ak->DH->Prop},(∀ρ G,nx ρ G->nx' ρ G)->(∀x ρ G,ex x ρ G->ex' x ρ G)->wpX Φ b ρ G nx ex->wpX Φ b ρ G nx' ex'
 |.call f es,ρ,G,nx,nx',ex,ex',h,h',q=>by rw[tX]at q ⊢;exact dw es (λ_ _ q=>Spec.mono q (λ_ _ z=>h _ _ z) λ_ _ z=>h' _ _ _ z) q
 |.pick f g i es,ρ,G,nx,nx',ex,ex',h,h',q=>by
  rw[xF]at q ⊢;exact aH (.var i) (λ_ _ q=>let ⟨b,e,q⟩:=q;⟨b,e,dw es (λ_ _ q=>Spec.mono q (λ_ _ z=>h _ _ z) λ_ _ z=>h' _ _ _ z) q⟩) q
 |.asg i f es,ρ,G,nx,nx',ex,ex',h,h',q=>by rw[xG]at q ⊢;exact dw es (λ_ _ q=>Spec.mono q (λ_ _ z=>h _ _ z) λ_ _ z=>h' _ _ _ z) q
 |.ite c a b,ρ,G,nx,nx',ex,ex',h,h',q=>by
  rw[xH]at q ⊢;refine du c (λt _ q=>?_) q;cases t with
  |true=>exact lN a h h' q
  |false=>exact lN b h h' q
mutual
theorem wpS_mono{E:EK}:∀(x:Sx){ρ:ak}{G:DH}{D D':En},D.Le D'->wpS Φ x E ρ G D->wpS Φ x E ρ G D'
 |.exp e,ρ,G,D,D',h,q=>by rw[sZ]at q ⊢;exact aH e (λ_ _ q=>h.nx _ _ q) q
 |.asg t e,ρ,G,D,D',h,q=>by rw[jE]at q ⊢;exact aH e (λ_ _ q=>gh (λ_ q=>h.nx _ _ q) t q) q
 |.set o i e,ρ,G,D,D',h,q=>by rw[tu]at q ⊢;exact aH e (λ_ _ q=>aH o (λ_ _ q=>aH i (λ_ _ q=>ud (λ_ q=>h.nx _ _ q) q) q) q) q
 |.aug i op e,ρ,G,D,D',h,q=>by
  rw[tB]at q ⊢;split at q
  ·exact aH e (λ_ _ q=>ue (λ_ q=>h.nx _ _ q) q) q
  ·exact q
 |.augs o i op e,ρ,G,D,D',h,q=>by
  rw[tD]at q ⊢;exact aH o (λ_ _ q=>aH i (λ_ _ q=>uc (λ_ q=>aH e (λ_ _ q=>ue (λ_ q=>ud (λ_ q=>h.nx _ _ q) q) q) q) q) q) q
 |.ret e,ρ,G,D,D',h,q=>by rw[tH]at q ⊢;exact aH e (λ_ _ q=>h.rt _ _ q) q
 |.rtn,ρ,G,D,D',h,q=>by rw[tM]at q ⊢;exact h.rt _ _ q
 |.ite c a b,ρ,G,D,D',h,q=>by
  rw[tQ]at q ⊢;refine du c (λt _ q=>?_) q;cases t with
  |true=>exact dM a h q
  |false=>exact dM b h q
 |.for_ t it body,ρ,G,D,D',h,q=>by
  rw[Dt]at q ⊢;exact lM it (λitems g G1 q=>DK (λd ρ' G' k k' hk z=>gh (λρ1 z=>dM body (D:={ D with nx:=k,ct:=k,bk:=D.nx }) (D':={ D' with nx:=k',ct:=k',bk:=D'.nx }) ⟨hk,h.rt,h.nx,hk⟩ z) t z) h.nx items ρ G1 q) q
 |.whl c body,ρ,G,D,D',h,q=>by
  rw[Zc]at q ⊢;obtain ⟨n,q⟩:=q;refine ⟨n,?_⟩;refine DN ?_ ?_ h.nx n ρ G q
  ·exact λρ' G' k k' hk z=>du c hk z
  ·exact λρ' G' k k' hk z=>dM body (D:={ D with nx:=k,ct:=k,bk:=D.nx }) (D':={ D' with nx:=k',ct:=k',bk:=D'.nx }) ⟨hk,h.rt,h.nx,hk⟩ z
 |.pas,ρ,G,D,D',h,q=>by rw[tR]at q ⊢;exact h.nx _ _ q
 |.brk,ρ,G,D,D',h,q=>by rw[tU]at q ⊢;exact h.bk _ _ q
 |.cnt,ρ,G,D,D',h,q=>by rw[tV]at q ⊢;exact h.ct _ _ q
 |.nev,ρ,G,D,D',h,q=>by rw[tY]at q;exact q.elim
 |.rse C es,ρ,G,D,D',h,q=>by rw[lK]at q ⊢;exact q
 |.tryc f es C i b,ρ,G,D,D',h,q=>by rw[xu]at q ⊢;exact dw es (λ_ _ q=>Spec.mono q (λ_ _ z=>h.nx _ _ z) λ_ _ z=>⟨z.1,z.2.1,h.nx _ _ z.2.2⟩) q
 |.tryx b C hd xs,ρ,G,D,D',h,q=>by rw[lL]at q ⊢;exact lN b (λ_ _ z=>h.nx _ _ z) (λ_ _ _ z=>⟨z.1,z.2.1,z.2.2.1,h.nx _ _ z.2.2.2⟩) q
theorem dM{E:EK}:∀(x:Sxs){ρ:ak}{G:DH}{D D':En},D.Le D'->aq Φ x E ρ G D->aq Φ x E ρ G D'
 |.nil,ρ,G,D,D',h,q=>by rw[jC]at q ⊢;exact h.nx _ _ q
 |.cons s r,ρ,G,D,D',h,q=>by rw[jD]at q ⊢;exact wpS_mono s (D:={ D with nx:=λρ' G'=>aq Φ r E ρ' G' D }) (D':={ D' with nx:=λρ' G'=>aq Φ r E ρ' G' D' }) ⟨λ_ _ z=>dM r h z,h.rt,h.bk,h.ct⟩ q
end
end
def PV(K:PySem.W.Frag)(H:Hp)(F:FZ)(Q:VK):D->DH->Prop:=λd G'=>∀H' F' v,Ext H F H' F'->R K H' F' G'->Rep K H' F' d v->Q v H'
def PB(K:PySem.W.Frag)(H:Hp)(F:FZ)(Q:Bool->Hp->Prop):Bool->DH->Prop:=λb G'=>∀H' F',Ext H F H' F'->R K H' F' G'->Q b H'
noncomputable def PLs(K:PySem.W.Frag)(H:Hp)(F:FZ)(Q:List V->Hp->Prop):List D->DH->Prop:=λds G'=>∀H' F' vs,Ext H F H' F'->R K H' F' G'->Reps K H' F' ds vs->Q vs H'
section
variable {K:PySem.W.Frag} {H:Hp} {F:FZ} {G:DH} {Q:VK}
theorem PV.now{d:D}{v:V}(h:PV K H F Q d G)(r:R K H F G)(q:Rep K H F d v):Q v H:=h H F v (Ext.refl H F) r q
theorem dN{fz:Bool}{ds:List D}{vs:List V}(h:mk fz ds G (PV K H F Q))(r:R K H F G)(t:Reps K H F ds vs)(p:Addr)(hp:H p=none):Q (.ref p) (upd H p (.lst vs)):=by
 cases fz with
 |true=>exact h _ _ _ (wO r hp) (r.newF hp) (Y9 r hp t)
 |false=>exact h p (r.free hp) _ _ _ (dj r hp) (r.newL hp t) rfl
theorem jF{ds:List D}{vs:List V}(h:PV K H F Q (.tup ds) G)(r:R K H F G)(t:Reps K H F ds vs)(p:Addr)(hp:H p=none):Q (.ref p) (upd H p (.tup vs)):=
 h _ _ _ (dj r hp) (r.new hp) (wQ r hp t)
end
theorem szl:sz<=sizeLine:=by rw[fo];decide
theorem cN{n:Nat}(h:n<=sz):n<=sizeLine:=c9 h szl
def rB2(K:PySem.W.Frag)(f:D->D->DH->(D->DH->Prop)->Prop):R2:=λx y H Q=>∃F G a b,R K H F G/\Rep K H F a x/\Rep K H F b y/\f (view G a) (view G b) G (PV K H F Q)
section
variable {X:Cx}
theorem Ze:OpR X (binaryOp .Add) (λx y H Q=>∃a b xs ys,x=.ref a/\y=.ref b/\SqL X.K H a xs/\SqL X.K H b ys/\xs.length+ys.length<=sizeLine/\∀p,H p=none->Q (.ref p) (upd H p (.lst (xs++ys)))):=by
 intro pins s σ H x y v u Q I rx ry h;obtain ⟨a,b,xs,ys,rfl,rfl,ha,hb,hz,q⟩:=h;cases rx;cases ry;obtain ⟨its,r1,p1,_⟩:=I.list ha;obtain ⟨its2,r2,p2,_⟩:=I.list hb;obtain ⟨⟨cls,dd,data,sl⟩,ho,hc,n,hd⟩:=p1.isList;obtain ⟨⟨cls2,dd2,data2,sl2⟩,ho2,hc2,n2,hd2⟩:=p2.isList;simp only at hc hd hc2 hd2;subst hc hd hc2 hd2;have e:its.toArray++its2.toArray=(its++its2).toArray:=by simp
 refine concat_meets ⟨_,ho,rfl⟩ ⟨_,ho2,rfl⟩ noFill_list_add seq_list_add PySem.F.slot_list_add PySem.F.entry_list_add (PySem.F.args_list_add_2 _ _)
  (list_addW a b its.toArray its2.toArray n n2 dd dd2 sl sl2 (by rw[am,am,<-r1.length,<-r2.length];exact hz)) ⟨ho,ho2,?_⟩
 rw[e];exact ⟨.ref _,_,I.lnew (t':=s.toks) (r1.append r2) (by rw[aI];exact hz),rfl,q _ I.fresh⟩
theorem Zf:OpR X (binaryOp .Add) (λx y H Q=>∃a b ys,x=.ref a/\y=.ref b/\SqT X.K H a []/\SqT X.K H b ys/\Q (.ref b) H):=by
 intro pins s σ H x y v u Q I rx ry h;obtain ⟨a,b,ys,rfl,rfl,ha,hb,q⟩:=h;cases rx;cases ry;obtain ⟨its,r1,p1,_⟩:=I.tuple ha;obtain ⟨its2,r2,p2,_⟩:=I.tuple hb;obtain ⟨⟨cls,dd,data,sl⟩,ho,hc,n,hd⟩:=id p1;obtain ⟨⟨cls2,dd2,data2,sl2⟩,ho2,hc2,n2,hd2⟩:=id p2;simp only at hc hd hc2 hd2;subst hc hd hc2 hd2;cases r1;exact concat_meets ⟨_,ho,rfl⟩ ⟨_,ho2,rfl⟩ noFill_tuple_add seq_tuple_add PySem.F.slot_tuple_add PySem.F.entry_tuple_add (PySem.F.args_tuple_add_2 _ _)
   (tuple_addW0 a b _ its2.toArray n n2 dd dd2 sl sl2 (by simp)) ⟨ho,ho2,⟨.ref b,H,I,rfl,q⟩⟩
theorem xO{K:PySem.W.Frag}{H:Hp}{F:FZ}{ds:List D}{vs:List V}(t:Reps K H F ds vs):ds=[]↔vs=[]:=by
 have:=t.length;constructor
 ·intro e;subst e;exact df.mp this.symm
 ·intro e;subst e;exact df.mp this
theorem Zg{x:Str}{n:Nat}(h1:n<=1000)(h:x.length * n<=sz):MulOk x (n:Int):=by
 have h2:((x.length * n:Nat):Int)<=((1000000:Nat):Int):=Int.ofNat_le.mpr h;rw[Int.natCast_mul]at h2;refine ⟨?_,?_,?_⟩
 ·rw[bv (by omega),bv (by omega)];rfl
 ·intro hn _ hh;have hp:(0:Int) < n:=by omega
  have h3:(x.length:Int)<=(2 ^ 63 - 1) / n:=(Int.le_ediv_iff_mul_le hp).mpr (Int.le_trans h2 (by decide));exact absurd hh (Int.not_lt.mpr h3)
 ·intro _ _;unfold Builtin.Str.tooLong;rw[fo,ce];exact bv (by have:sz=1000000:=rfl;omega)
theorem DP(l:List Nat):∀(n:Nat)(acc:List Nat),(List.replicate n l.toArray).foldl (· ++ ·) acc.toArray=(acc++reps l n).toArray
 |0,acc=>by simp[reps]
 |n+1,acc=>by
  rw[cy,List.foldl_cons];have e:acc.toArray++l.toArray=(acc++l).toArray:=by simp
  rw[e,DP l n (acc++l)];unfold reps;rw[cy,eL,List.append_assoc]
theorem Zh(n:Nat):reps ([]:List Nat) n=[]:=by
 unfold reps;induction n with
 |zero=>rfl
 |succ n ih=>rw[cy,eL,ih];rfl
theorem DQ{α:Type}(l:List α)(n:Nat):(reps l n).length=n * l.length:=len_rep l n
theorem Zi(l:List Nat)(n:Nat):Txt.mul (tx l) (n:Int)=tx (reps l n):=by
 unfold Txt.mul;by_cases h:(n:Int) < 1
 ·rw[if_pos h];have:n=0:=by omega
  subst this;rfl
 ·rw[if_neg h];by_cases h2:((n:Int)==1||(tx l).length==0)=true
  ·rw[if_pos h2];rw[c8]at h2;rcases h2 with h2 |h2
   ·have:n=1:=by have:=eq_of_beq h2;omega
    subst this;simp[reps]
   ·have h3:=eq_of_beq h2;rw[bM]at h3;have:l=[]:=df.mp h3;subst this;rw[Zh]
  ·rw[if_neg h2];have e:=DP l n [];rw[List.nil_append]at e;exact e7 Str.mk (by simpa using e)
theorem Zj(op:Operator)(fz:Bool):OpR X (binaryOp op) (rB2 X.K (b8 op fz)):=by
 intro pins s σ H x y v u Q I rx ry h;obtain ⟨F,G,a,b,r,ra,rb,h⟩:=h;generalize ea:view G a=va at h;generalize eb:view G b=vb at h;have twoI:∀{p:Int->Int->Prop},gB va vb p->∃i j,x=.int i/\y=.int j/\p i j:=λ{p} h=>by
  obtain ⟨i,j,rfl,rfl,h⟩:=Du h;cases eO ea;cases eO eb;exact ⟨i,j,ra,rb,h⟩
 cases op with
 |Add=>
  have h:jq fz va vb G _:=h;unfold jq at h;cases va with
  |int _=>cases vb with
   |int _=>
    cases eO ea;cases eO eb;have ha:x=.int _:=ra;have hb:y=.int _:=rb;subst ha;subst hb;exact Vw pins s σ H _ _ v u Q I rx ry ⟨_,_,rfl,rfl,h.now r rfl⟩
   |_=>exact h.elim
  |str _=>cases vb with
   |str _=>
    cases fX ea;cases fX eb;obtain ⟨ha,la⟩:=ra;obtain ⟨hb,lb⟩:=rb;subst ha;subst hb;refine V0 pins s σ H _ _ v u Q I rx ry ⟨_,_,rfl,rfl,?_,?_⟩
    ·rw[bM,bM];exact cN h.1
    ·rw[qQ];exact h.2.now r ⟨rfl,by rw[aI];exact h.1⟩
   |_=>exact h.elim
  |lst _=>cases vb with
   |lst _=>
    obtain ⟨p,vs,rfl,q1,t1⟩:=Rep.list r ra ea;obtain ⟨p',vs',rfl,q2,t2⟩:=Rep.list r rb eb;exact Ze pins s σ H _ _ v u Q I rx ry ⟨p,p',vs,vs',rfl,rfl,q1,q2,by rw[<-t1.length,<-t2.length];exact cN h.1,dN h.2 r (t1.append t2)⟩
   |_=>exact h.elim
  |tup xs=>cases vb with
   |tup ys=>
    cases fG ea;cases fG eb;obtain ⟨p,vs,rfl,q1,t1⟩:=id ra;obtain ⟨p',vs',rfl,q2,t2⟩:=id rb;by_cases hx:vs=[]
    ·subst hx;have:xs=[]:=(xO t1).mpr rfl;subst this;exact Zf pins s σ H _ _ v u Q I rx ry ⟨p,p',vs',rfl,rfl,q1.sq,q2.sq,h.2.now r rb⟩
    ·refine Wt pins s σ H _ _ v u Q I rx ry ⟨p,p',vs,vs',rfl,rfl,q1.sq,q2.sq,hx,by rw[<-t1.length,<-t2.length];exact cN h.1,λe=>?_,λ_=>jF h.2 r (t1.append t2)⟩;subst e;have:ys=[]:=(xO t2).mpr rfl;subst this;have h2:=h.2;rw[ee]at h2;exact h2.now r ra
   |_=>exact h.elim
  |_=>exact h.elim
 |Sub=>
  obtain ⟨i,j,rfl,rfl,h⟩:=twoI h;exact Vx pins s σ H _ _ v u Q I rx ry ⟨_,_,rfl,rfl,h.now r rfl⟩
 |Mult=>
  have h:jr fz va vb G _:=h;unfold jr at h;cases vb with
  |int _=>cases va with
   |int _=>
    cases eO ea;cases eO eb;have ha:x=.int _:=ra;have hb:y=.int _:=rb;subst ha;subst hb;exact Vy pins s σ H _ _ v u Q I rx ry ⟨_,_,rfl,rfl,h.1,h.2.now r rfl⟩
   |str _=>
    cases fX ea;cases eO eb;obtain ⟨ha,la⟩:=ra;have hb:y=.int _:=rb;subst ha;subst hb;obtain ⟨h0,h1,h2,h3⟩:=h;obtain ⟨n,rfl⟩:=cp h0;rw[ce]at h2 h3;refine Xd pins s σ H _ _ v u Q I rx ry ⟨_,_,rfl,rfl,Zg (by omega) (by rw[bM];exact h2),?_⟩;rw[Zi];exact h3.now r ⟨rfl,by rw[DQ,Nat.mul_comm];exact h2⟩
   |tup _=>
    cases fG ea;cases eO eb;obtain ⟨p,vs,rfl,q1,t1⟩:=ra;have hb:y=.int _:=rb;subst hb;obtain ⟨h0,h1,h2,h3,h4⟩:=h;refine YJ pins s σ H _ _ v u Q I rx ry ⟨p,_,vs,rfl,rfl,q1.sq,λe=>h2 ((xO t1).mpr e),h0,h1,by rw[<-t1.length];exact cN h3,?_⟩;exact jF h4 r (t1.rep _)
   |lst _=>
    cases eO eb;have hb:y=.int _:=rb;subst hb;obtain ⟨p,vs,rfl,q1,t1⟩:=ra.list r ea;obtain ⟨h0,h1,h2,h3⟩:=h;exact YQ pins s σ H _ _ v u Q I rx ry ⟨p,_,vs,rfl,rfl,q1,h0,h1,by rw[<-t1.length];exact cN h2,dN h3 r (t1.rep _)⟩
   |_=>exact h.elim
  |_=>exact h.elim
 |FloorDiv=>
  obtain ⟨i,j,rfl,rfl,h⟩:=twoI h;exact Yy pins s σ H _ _ v u Q I rx ry ⟨_,_,rfl,rfl,h.1,h.2.now r rfl⟩
 |Mod=>
  obtain ⟨i,j,rfl,rfl,h⟩:=twoI h;exact Vz pins s σ H _ _ v u Q I rx ry ⟨_,_,rfl,rfl,h.1,h.2.now r rfl⟩
 |Pow=>
  obtain ⟨i,j,rfl,rfl,h⟩:=twoI h;exact VB pins s σ H _ _ v u Q I rx ry ⟨_,_,rfl,rfl,h.1,h.2.now r rfl⟩
 |_=>exact h.elim
end
mutual
theorem xP:∀{d:D},nr d=true->deq d d=true
 |.non,_=>rfl
 |.bl b,_=>by simp[deq]
 |.int i,_=>by simp[deq]
 |.str l,_=>by simp[deq]
 |.tup xs,h=>by rw[deq];exact ul (by rw[nr]at h;exact h)
 |.lst xs,h=>by rw[deq];exact ul (by rw[nr]at h;exact h)
 |.ref a,h=>by rw[nr]at h;cases h
 |.scr a,h=>by rw[nr]at h;cases h
 |.exn a,h=>by rw[nr]at h;cases h
theorem ul:∀{ds:List D},nrs ds=true->bN ds ds=true
 |[],_=>rfl
 |d::ds,h=>by
  rw[nrs,ae]at h;rw[bN,xP h.1,ul h.2];rfl
end
theorem um:∀(xs ys:List D),bN xs ys=((List.range (min xs.length ys.length)).all (λj=>deq (xs.getD j .non) (ys.getD j .non))&&xs.length==ys.length)
 |[],[]=>rfl
 |[],y::ys=>by simp[bN]
 |x::xs,[]=>by simp[bN]
 |x::xs,y::ys=>by
  have e:min (x::xs).length (y::ys).length=(min xs.length ys.length)+1:=by simp only[cr];omega
  rw[bN,um xs ys,e,List.range_succ_eq_map,List.all_cons,List.all_map];simp only[List.getD_cons_zero,cr,Bool.and_assoc];congr 1;congr 1;rw[fv];simp
theorem DR{xs ys:List D}(h:xs.length≠ys.length):bN xs ys=false:=by rw[um];rw[show (xs.length==ys.length)=false from bP.mpr h,db]
theorem lO:∀{xs:List D}{i:Nat},nrs xs=true->nr (xs.getD i .non)=true
 |[],_,_=>rfl
 |x::xs,0,h=>by rw[nrs,ae]at h;exact h.1
 |x::xs,i+1,h=>by rw[nrs,ae]at h;rw[List.getD_cons_succ];exact lO h.2
theorem lQ:∀{xs:List D}{i:Nat},dpt (xs.getD i .non)<=bf xs
 |[],_=>fg _
 |x::xs,0=>by rw[bf,List.getD_cons_zero];omega
 |x::xs,i+1=>by rw[bf,List.getD_cons_succ];have:=@lQ xs i;omega
section
variable {X:Cx} {pins:List (Addr×Obj)} {σ:L2.St} {H:Hp} {s:Shared} {F:FZ}
mutual
theorem uo(I:Inv X pins σ H s):∀{d d':D}{v:V},nr d=true->nr d'=true->Rep X.K H F d v->Rep X.K H F d' v->d=d'
 |.non,d',v,_,n',h,h'=>by
  have h:v=.non:=h;subst h;cases d' with
  |non=>rfl
  |bl _=>simp only[Rep]at h';cases h'
  |int _=>simp only[Rep]at h';cases h'
  |ref _=>simp only[Rep]at h';cases h'
  |scr _=>rw[nr]at n';cases n'
  |exn _=>rw[nr]at n';cases n'
  |str _=>simp only[Rep]at h';obtain ⟨e,_⟩:=h';cases e
  |tup _=>simp only[Rep]at h';obtain ⟨_,_,e,_⟩:=h';cases e
  |lst _=>simp only[Rep]at h';obtain ⟨_,_,e,_⟩:=h';cases e
 |.bl b,d',v,_,n',h,h'=>by
  have h:v=.bl b:=h;subst h;cases d' with
  |non=>simp only[Rep]at h';cases h'
  |bl _=>simp only[Rep]at h';cases h';rfl
  |int _=>simp only[Rep]at h';cases h'
  |ref _=>simp only[Rep]at h';cases h'
  |scr _=>rw[nr]at n';cases n'
  |exn _=>rw[nr]at n';cases n'
  |str _=>simp only[Rep]at h';obtain ⟨e,_⟩:=h';cases e
  |tup _=>simp only[Rep]at h';obtain ⟨_,_,e,_⟩:=h';cases e
  |lst _=>simp only[Rep]at h';obtain ⟨_,_,e,_⟩:=h';cases e
 |.int b,d',v,_,n',h,h'=>by
  have h:v=.int b:=h;subst h;cases d' with
  |non=>simp only[Rep]at h';cases h'
  |bl _=>simp only[Rep]at h';cases h'
  |int _=>simp only[Rep]at h';cases h';rfl
  |ref _=>simp only[Rep]at h';cases h'
  |scr _=>rw[nr]at n';cases n'
  |exn _=>rw[nr]at n';cases n'
  |str _=>simp only[Rep]at h';obtain ⟨e,_⟩:=h';cases e
  |tup _=>simp only[Rep]at h';obtain ⟨_,_,e,_⟩:=h';cases e
  |lst _=>simp only[Rep]at h';obtain ⟨_,_,e,_⟩:=h';cases e
 |.str l,d',v,_,n',h,h'=>by
  obtain ⟨h,_⟩:=h;subst h;cases d' with
  |str l'=>
   obtain ⟨e,_⟩:=h';injection e with e;rw[Ck e]
  |non=>simp only[Rep]at h';cases h'
  |bl _=>simp only[Rep]at h';cases h'
  |int _=>simp only[Rep]at h';cases h'
  |ref _=>simp only[Rep]at h';cases h'
  |scr _=>rw[nr]at n';cases n'
  |exn _=>rw[nr]at n';cases n'
  |tup _=>simp only[Rep]at h';obtain ⟨_,_,e,_⟩:=h';cases e
  |lst _=>simp only[Rep]at h';obtain ⟨_,_,e,_⟩:=h';cases e
 |.tup xs,d',v,n,n',h,h'=>by
  obtain ⟨a,vs,e,q,t⟩:=h;subst e;cases d' with
  |tup ys=>
   obtain ⟨a',vs',e,q',t'⟩:=h';injection e with e;subst e;have:=I.tuple_inj q.sq q'.sq;subst this;rw[nr]at n n';rw[xQ I n n' t t']
  |lst ys=>
   obtain ⟨a',vs',e,q',t'⟩:=h';injection e with e;subst e;obtain ⟨its,_,⟨o,e1,c1,_⟩,_⟩:=I.tuple q.sq;obtain ⟨its',_,⟨o',n',e2,c2,_⟩,_⟩:=I.list q'.sq;rw[e1]at e2;cases e2;rw[c1]at c2;exact absurd c2 (by decide +kernel)
  |ref _=>rw[nr]at n';cases n'
  |scr _=>rw[nr]at n';cases n'
  |exn _=>rw[nr]at n';cases n'
  |str _=>simp only[Rep]at h';obtain ⟨e,_⟩:=h';cases e
  |non=>simp only[Rep]at h';cases h'
  |bl _=>simp only[Rep]at h';cases h'
  |int _=>simp only[Rep]at h';cases h'
 |.lst xs,d',v,n,n',h,h'=>by
  obtain ⟨a,vs,e,q,t⟩:=h;subst e;cases d' with
  |lst ys=>
   obtain ⟨a',vs',e,q',t'⟩:=h';injection e with e;subst e;have:=I.list_inj q.sq q'.sq;subst this;rw[nr]at n n';rw[xQ I n n' t t']
  |tup ys=>
   obtain ⟨a',vs',e,q',t'⟩:=h';injection e with e;subst e;obtain ⟨its,_,⟨o,e1,c1,_⟩,_⟩:=I.tuple q'.sq;obtain ⟨its',_,⟨o',n',e2,c2,_⟩,_⟩:=I.list q.sq;rw[e1]at e2;cases e2;rw[c1]at c2;exact absurd c2 (by decide +kernel)
  |ref _=>rw[nr]at n';cases n'
  |scr _=>rw[nr]at n';cases n'
  |exn _=>rw[nr]at n';cases n'
  |str _=>simp only[Rep]at h';obtain ⟨e,_⟩:=h';cases e
  |non=>simp only[Rep]at h';cases h'
  |bl _=>simp only[Rep]at h';cases h'
  |int _=>simp only[Rep]at h';cases h'
 |.ref a,d',v,n,_,_,_=>by rw[nr]at n;cases n
 |.scr a,d',v,n,_,_,_=>by rw[nr]at n;cases n
 |.exn a,d',v,n,_,_,_=>by rw[nr]at n;cases n
theorem xQ(I:Inv X pins σ H s):∀{ds ds':List D}{vs:List V},nrs ds=true->nrs ds'=true->Reps X.K H F ds vs->Reps X.K H F ds' vs->ds=ds'
 |[],[],_,_,_,_,_=>rfl
 |[],_::_,_,_,_,h,⟨v,r,e,_⟩=>by have h:_=[]:=h;rw[h]at e;cases e
 |_::_,[],_,_,_,⟨v,r,e,_⟩,h=>by have h:_=[]:=h;rw[h]at e;cases e
 |d::ds,d'::ds',_,n,n',⟨v,r,e,h,t⟩,⟨v',r',e',h',t'⟩=>by
  subst e;injection e' with e1 e2;subst e1;subst e2;rw[nrs,ae]at n n';rw[uo I n.1 n'.1 h h',xQ I n.2 n'.2 t t']
end
theorem uq{I:Inv X pins σ H s}{ds:List D}{vs:List V}{its:List Value}(t:Reps X.K H F ds vs)(r:Vals vs its)(j:Nat)(h:j < its.length):∃v,Rep X.K H F (ds.getD j .non) v/\RelV v its[j]:=by
 have hl:j < ds.length:=by rw[t.length,r.length];exact h
 have e1:ds[j]?=some (ds.getD j .non):=by rw[dP,aS hl];rfl
 obtain ⟨v,e2,r2⟩:=t.get e1;obtain ⟨u,e3,r3⟩:=r.get e2;rw[aS h]at e3;cases e3;exact ⟨v,r2,r3⟩
theorem Zk(a b:List Nat):(tx a==tx b)=(a==b):=by rw[fv,av,av];exact ⟨λh=>Ck h,λh=>by rw[h]⟩
theorem Zm(I:Inv X pins σ H s){n:Nat}{A:Around}{xs ys:List D}{a a':Addr}{vs vs':List V}{its its':List Value}
  (ih:∀m,m < n->∀(A:Around)(d d':D)(v v':V)(u u':Value),A.units+m < cLine->min (dpt d) (dpt d')<=m->nr d=true->nr d'=true->Rep X.K H F d v->Rep X.K H F d' v'->RelV v u->RelV v' u'->
   SeqAt.RcAt A s u u' (deq d d')/\SeqAt.EqAt A s u u' (deq d d')/\SeqAt.RcNeAt A s u u' (!deq d d'))
  (hu:A.units+n < cLine) (hd:min (dpt (.tup xs)) (dpt (.tup ys))<=n) (n1:nr (.tup xs)=true) (n2:nr (.tup ys)=true) (h:Rep X.K H F (.tup xs) (.ref a)) (h':Rep X.K H F (.tup ys) (.ref a'))
  (pt:s.heap.IsTuple a its.toArray) (pt':s.heap.IsTuple a' its'.toArray) (rv:Vals vs its) (rv':Vals vs' its') (tt:Reps X.K H F xs vs) (tt':Reps X.K H F ys vs'):
  SeqAt.RcAt A s (.ref a) (.ref a') (deq (.tup xs) (.tup ys))/\SeqAt.EqAt A s (.ref a) (.ref a') (deq (.tup xs) (.tup ys))/\SeqAt.RcNeAt A s (.ref a) (.ref a') (!deq (.tup xs) (.tup ys)):=by
 have hd':min (bf xs+1) (bf ys+1)<=n:=by rw[dpt,dpt]at hd;exact hd
 have hn1:nrs xs=true:=by rw[nr]at n1;exact n1
 have hn2:nrs ys=true:=by rw[nr]at n2;exact n2
 have l1:its.toArray.size=xs.length:=by rw[am,<-rv.length,tt.length]
 have l2:its'.toArray.size=ys.length:=by rw[am,<-rv'.length,tt'.length]
 have he:∀j (h1:j < its.toArray.size) (h2:j < its'.toArray.size),SeqAt.EqAt A.in1 s its.toArray[j] its'.toArray[j] (deq (xs.getD j .non) (ys.getD j .non)):=by intro j h1 h2;obtain ⟨w1,q1,q2⟩:=uq (I:=I) tt rv j (by simpa using h1);obtain ⟨w2,q3,q4⟩:=uq (I:=I) tt' rv' j (by simpa using h2);have d1:=@lQ xs j;have d2:=@lQ ys j;exact (ih (n - 1) (by omega) A.in1 _ _ w1 w2 _ _ (by show A.units+1+(n - 1) < cLine;omega) (by omega) (lO hn1) (lO hn2) q1 q3 (by simpa using q2) (by simpa using q4)).2.1
 have e:deq (.tup xs) (.tup ys)=((List.range (min its.toArray.size its'.toArray.size)).all (λj=>deq (xs.getD j .non) (ys.getD j .non))&&its.toArray.size==its'.toArray.size):=by rw[deq,um,l1,l2]
 have rc:SeqAt.RcAt A s (.ref a) (.ref a') (deq (.tup xs) (.tup ys)):=by rw[e];exact .tuples pt pt' (by omega) he
 refine ⟨rc,?_,by rw[e];exact .tuples pt pt' (by omega) he⟩;by_cases z:a=a'
 ·subst z;have:=uo I n1 n2 h h';rw[<-this,xP n1];exact .same _
 ·exact .of_refs z rc
theorem Zn(I:Inv X pins σ H s){n:Nat}{A:Around}{xs ys:List D}{a a':Addr}{vs vs':List V}{its its':List Value}
  (ih:∀m,m < n->∀(A:Around)(d d':D)(v v':V)(u u':Value),A.units+m < cLine->min (dpt d) (dpt d')<=m->nr d=true->nr d'=true->Rep X.K H F d v->Rep X.K H F d' v'->RelV v u->RelV v' u'->
   SeqAt.RcAt A s u u' (deq d d')/\SeqAt.EqAt A s u u' (deq d d')/\SeqAt.RcNeAt A s u u' (!deq d d'))
  (hu:A.units+n < cLine) (hd:min (dpt (.lst xs)) (dpt (.lst ys))<=n) (n1:nr (.lst xs)=true) (n2:nr (.lst ys)=true) (h:a=a'->xs=ys)
  (pt:s.heap.IsList a its.toArray) (pt':s.heap.IsList a' its'.toArray) (rv:Vals vs its) (rv':Vals vs' its') (tt:Reps X.K H F xs vs) (tt':Reps X.K H F ys vs'):
  SeqAt.RcAt A s (.ref a) (.ref a') (deq (.lst xs) (.lst ys))/\SeqAt.EqAt A s (.ref a) (.ref a') (deq (.lst xs) (.lst ys))/\SeqAt.RcNeAt A s (.ref a) (.ref a') (!deq (.lst xs) (.lst ys)):=by
 have hd':min (bf xs+1) (bf ys+1)<=n:=by rw[dpt,dpt]at hd;exact hd
 have hn1:nrs xs=true:=by rw[nr]at n1;exact n1
 have hn2:nrs ys=true:=by rw[nr]at n2;exact n2
 have l1:its.toArray.size=xs.length:=by rw[am,<-rv.length,tt.length]
 have l2:its'.toArray.size=ys.length:=by rw[am,<-rv'.length,tt'.length]
 have eqs:∀(rc:SeqAt.RcAt A s (.ref a) (.ref a') (deq (.lst xs) (.lst ys))),SeqAt.EqAt A s (.ref a) (.ref a') (deq (.lst xs) (.lst ys)):=λrc=>by
  by_cases z:a=a'
  ·have:=h z;subst z;subst this;rw[xP n1];exact .same _
  ·exact .of_refs z rc
 by_cases hl:xs.length=ys.length
 ·have he:∀j (h1:j < its.toArray.size) (h2:j < its'.toArray.size),SeqAt.EqAt A.in1 s its.toArray[j] its'.toArray[j] (deq (xs.getD j .non) (ys.getD j .non)):=by
   intro j h1 h2;obtain ⟨w1,q1,q2⟩:=uq (I:=I) tt rv j (by simpa using h1);obtain ⟨w2,q3,q4⟩:=uq (I:=I) tt' rv' j (by simpa using h2);have d1:=@lQ xs j;have d2:=@lQ ys j;exact (ih (n - 1) (by omega) A.in1 _ _ w1 w2 _ _ (by show A.units+1+(n - 1) < cLine;omega) (by omega) (lO hn1) (lO hn2) q1 q3 (by simpa using q2) (by simpa using q4)).2.1
  have e:deq (.lst xs) (.lst ys)=(List.range its.toArray.size).all (λj=>deq (xs.getD j .non) (ys.getD j .non)):=by rw[deq,um,l1,hl,Nat.min_self];simp
  have rc:SeqAt.RcAt A s (.ref a) (.ref a') (deq (.lst xs) (.lst ys)):=by rw[e];exact .lists pt pt' (by rw[l1,l2];exact hl) (by omega) he
  exact ⟨rc,eqs rc,by rw[e];exact .lists pt pt' (by rw[l1,l2];exact hl) (by omega) he⟩
 ·have e:deq (.lst xs) (.lst ys)=false:=by rw[deq];exact DR hl
  have hne:(its.toArray.size != its'.toArray.size)=true:=by rw[l1,l2];simpa using hl
  have rc:SeqAt.RcAt A s (.ref a) (.ref a') (deq (.lst xs) (.lst ys)):=by rw[e];exact .lists_lengths pt pt' hne (by omega)
  exact ⟨rc,eqs rc,by rw[e];exact .lists_lengths pt pt' hne (by omega)⟩
theorem xR(I:Inv X pins σ H s):∀(n:Nat)(A:Around)(d d':D)(v v':V)(u u':Value),A.units+n < cLine->min (dpt d) (dpt d')<=n->nr d=true->nr d'=true->Rep X.K H F d v->Rep X.K H F d' v'->RelV v u->RelV v' u'->
  SeqAt.RcAt A s u u' (deq d d')/\SeqAt.EqAt A s u u' (deq d d')/\SeqAt.RcNeAt A s u u' (!deq d d'):=by
 intro n;induction n using Nat.strongRecOn with
 |_ n ih=>
  intro A d d' v v' u u' hu hd n1 n2 h h' r r';have hu0:A.units < cLine:=by omega
  cases d with
  |ref a=>rw[nr]at n1;cases n1
  |scr a=>rw[nr]at n1;cases n1
  |exn a=>rw[nr]at n1;cases n1
  |non=>
   have hv:v=.non:=h;subst hv;have hr:u=Value.none:=r;subst hr;cases d' with
   |ref a=>rw[nr]at n2;cases n2
   |scr a=>rw[nr]at n2;cases n2
   |exn a=>rw[nr]at n2;cases n2
   |non=>
    have hv:v'=.non:=h';subst hv;have hr:u'=Value.none:=r';subst hr;exact ⟨.none_none,.same _,.none_none⟩
   |bl b'=>
    have hv:v'=.bl b':=h';subst hv;have hr:u'=Value.bool b':=r';subst hr;exact ⟨.none_bool b',.none_bool b',.none_bool b'⟩
   |int i'=>
    have hv:v'=.int i':=h';subst hv;obtain ⟨t',hr⟩:∃t',u'=Value.int i' t':=r';subst hr;exact ⟨.none_int i' t',.none_int i' t',.none_int i' t'⟩
   |str l'=>
    obtain ⟨hv,_⟩:=h';subst hv;obtain ⟨t',hr⟩:∃t',u'=Value.str (tx l') t':=r';subst hr;exact ⟨.none_str (tx l') t',.none_str (tx l') t',.none_str (tx l') t'⟩
   |tup ys=>
    obtain ⟨a',vs',hv,q',tt'⟩:=id h';subst hv;have hr:u'=Value.ref a':=r';subst hr;obtain ⟨its',rv',pt',_⟩:=I.tuple q'.sq;have pt':s.heap.IsTuple a' its'.toArray:=pt';exact ⟨.none_tuple pt' hu0,.none_tuple pt' hu0,.none_tuple pt' hu0⟩
   |lst ys=>
    obtain ⟨a',vs',hv,q',tt'⟩:=id h';subst hv;have hr:u'=Value.ref a':=r';subst hr;obtain ⟨its',rv',pl',_⟩:=I.list q'.sq;have pt':s.heap.IsList a' its'.toArray:=pl'.isList;exact ⟨.none_list pt' hu0,.none_list pt' hu0,.none_list pt' hu0⟩
  |bl b=>
   have hv:v=.bl b:=h;subst hv;have hr:u=Value.bool b:=r;subst hr;cases d' with
   |ref a=>rw[nr]at n2;cases n2
   |scr a=>rw[nr]at n2;cases n2
   |exn a=>rw[nr]at n2;cases n2
   |non=>
    have hv:v'=.non:=h';subst hv;have hr:u'=Value.none:=r';subst hr;exact ⟨.bool_none b,.bool_none b,.bool_none b⟩
   |bl b'=>
    have hv:v'=.bl b':=h';subst hv;have hr:u'=Value.bool b':=r';subst hr;exact ⟨.bool_bool b b',.bool_bool b b',.bool_bool b b'⟩
   |int i'=>
    have hv:v'=.int i':=h';subst hv;obtain ⟨t',hr⟩:∃t',u'=Value.int i' t':=r';subst hr;exact ⟨.bool_int b i' t',.bool_int b i' t',.bool_int b i' t'⟩
   |str l'=>
    obtain ⟨hv,_⟩:=h';subst hv;obtain ⟨t',hr⟩:∃t',u'=Value.str (tx l') t':=r';subst hr;exact ⟨.bool_str b (tx l') t',.bool_str b (tx l') t',.bool_str b (tx l') t'⟩
   |tup ys=>
    obtain ⟨a',vs',hv,q',tt'⟩:=id h';subst hv;have hr:u'=Value.ref a':=r';subst hr;obtain ⟨its',rv',pt',_⟩:=I.tuple q'.sq;have pt':s.heap.IsTuple a' its'.toArray:=pt';exact ⟨.bool_tuple b pt' hu0,.bool_tuple b pt' hu0,.bool_tuple b pt' hu0⟩
   |lst ys=>
    obtain ⟨a',vs',hv,q',tt'⟩:=id h';subst hv;have hr:u'=Value.ref a':=r';subst hr;obtain ⟨its',rv',pl',_⟩:=I.list q'.sq;have pt':s.heap.IsList a' its'.toArray:=pl'.isList;exact ⟨.bool_list b pt' hu0,.bool_list b pt' hu0,.bool_list b pt' hu0⟩
  |int i=>
   have hv:v=.int i:=h;subst hv;obtain ⟨t,hr⟩:∃t,u=Value.int i t:=r;subst hr;cases d' with
   |ref a=>rw[nr]at n2;cases n2
   |scr a=>rw[nr]at n2;cases n2
   |exn a=>rw[nr]at n2;cases n2
   |non=>
    have hv:v'=.non:=h';subst hv;have hr:u'=Value.none:=r';subst hr;exact ⟨.int_none i t,.int_none i t,.int_none i t⟩
   |bl b'=>
    have hv:v'=.bl b':=h';subst hv;have hr:u'=Value.bool b':=r';subst hr;exact ⟨.int_bool i t b',.int_bool i t b',.int_bool i t b'⟩
   |int i'=>
    have hv:v'=.int i':=h';subst hv;obtain ⟨t',hr⟩:∃t',u'=Value.int i' t':=r';subst hr;exact ⟨.int_int i t i' t',.int_int i t i' t',.int_int i t i' t'⟩
   |str l'=>
    obtain ⟨hv,_⟩:=h';subst hv;obtain ⟨t',hr⟩:∃t',u'=Value.str (tx l') t':=r';subst hr;exact ⟨.int_str i t (tx l') t',.int_str i t (tx l') t',.int_str i t (tx l') t'⟩
   |tup ys=>
    obtain ⟨a',vs',hv,q',tt'⟩:=id h';subst hv;have hr:u'=Value.ref a':=r';subst hr;obtain ⟨its',rv',pt',_⟩:=I.tuple q'.sq;have pt':s.heap.IsTuple a' its'.toArray:=pt';exact ⟨.int_tuple i t pt' hu0,.int_tuple i t pt' hu0,.int_tuple i t pt' hu0⟩
   |lst ys=>
    obtain ⟨a',vs',hv,q',tt'⟩:=id h';subst hv;have hr:u'=Value.ref a':=r';subst hr;obtain ⟨its',rv',pl',_⟩:=I.list q'.sq;have pt':s.heap.IsList a' its'.toArray:=pl'.isList;exact ⟨.int_list i t pt' hu0,.int_list i t pt' hu0,.int_list i t pt' hu0⟩
  |str l=>
   obtain ⟨hv,_⟩:=h;subst hv;obtain ⟨t,hr⟩:∃t,u=Value.str (tx l) t:=r;subst hr;cases d' with
   |ref a=>rw[nr]at n2;cases n2
   |scr a=>rw[nr]at n2;cases n2
   |exn a=>rw[nr]at n2;cases n2
   |non=>
    have hv:v'=.non:=h';subst hv;have hr:u'=Value.none:=r';subst hr;exact ⟨.str_none (tx l) t,.str_none (tx l) t,.str_none (tx l) t⟩
   |bl b'=>
    have hv:v'=.bl b':=h';subst hv;have hr:u'=Value.bool b':=r';subst hr;exact ⟨.str_bool (tx l) t b',.str_bool (tx l) t b',.str_bool (tx l) t b'⟩
   |int i'=>
    have hv:v'=.int i':=h';subst hv;obtain ⟨t',hr⟩:∃t',u'=Value.int i' t':=r';subst hr;exact ⟨.str_int (tx l) t i' t',.str_int (tx l) t i' t',.str_int (tx l) t i' t'⟩
   |str l'=>
    obtain ⟨hv,_⟩:=h';subst hv;obtain ⟨t',hr⟩:∃t',u'=Value.str (tx l') t':=r';subst hr;rw[deq,<-Zk];exact ⟨.str_str (tx l) t (tx l') t',.str_str (tx l) t (tx l') t',.str_str (tx l) t (tx l') t'⟩
   |tup ys=>
    obtain ⟨a',vs',hv,q',tt'⟩:=id h';subst hv;have hr:u'=Value.ref a':=r';subst hr;obtain ⟨its',rv',pt',_⟩:=I.tuple q'.sq;have pt':s.heap.IsTuple a' its'.toArray:=pt';exact ⟨.str_tuple (tx l) t pt' hu0,.str_tuple (tx l) t pt' hu0,.str_tuple (tx l) t pt' hu0⟩
   |lst ys=>
    obtain ⟨a',vs',hv,q',tt'⟩:=id h';subst hv;have hr:u'=Value.ref a':=r';subst hr;obtain ⟨its',rv',pl',_⟩:=I.list q'.sq;have pt':s.heap.IsList a' its'.toArray:=pl'.isList;exact ⟨.str_list (tx l) t pt' hu0,.str_list (tx l) t pt' hu0,.str_list (tx l) t pt' hu0⟩
  |tup xs=>
   obtain ⟨a,vs,hv,q,tt⟩:=id h;subst hv;have hr:u=Value.ref a:=r;subst hr;obtain ⟨its,rv,pt,_⟩:=I.tuple q.sq;have pt:s.heap.IsTuple a its.toArray:=pt;cases d' with
   |ref a=>rw[nr]at n2;cases n2
   |scr a=>rw[nr]at n2;cases n2
   |exn a=>rw[nr]at n2;cases n2
   |non=>
    have hv:v'=.non:=h';subst hv;have hr:u'=Value.none:=r';subst hr;exact ⟨.tuple_none pt hu0,.tuple_none pt hu0,.tuple_none pt hu0⟩
   |bl b'=>
    have hv:v'=.bl b':=h';subst hv;have hr:u'=Value.bool b':=r';subst hr;exact ⟨.tuple_bool b' pt hu0,.tuple_bool b' pt hu0,.tuple_bool b' pt hu0⟩
   |int i'=>
    have hv:v'=.int i':=h';subst hv;obtain ⟨t',hr⟩:∃t',u'=Value.int i' t':=r';subst hr;exact ⟨.tuple_int i' t' pt hu0,.tuple_int i' t' pt hu0,.tuple_int i' t' pt hu0⟩
   |str l'=>
    obtain ⟨hv,_⟩:=h';subst hv;obtain ⟨t',hr⟩:∃t',u'=Value.str (tx l') t':=r';subst hr;exact ⟨.tuple_str (tx l') t' pt hu0,.tuple_str (tx l') t' pt hu0,.tuple_str (tx l') t' pt hu0⟩
   |tup ys=>
    obtain ⟨a',vs',hv,q',tt'⟩:=id h';subst hv;have hr:u'=Value.ref a':=r';subst hr;obtain ⟨its',rv',pt',_⟩:=I.tuple q'.sq;have pt':s.heap.IsTuple a' its'.toArray:=pt';exact Zm I ih hu hd n1 n2 h h' pt pt' rv rv' tt tt'
   |lst ys=>
    obtain ⟨a',vs',hv,q',tt'⟩:=id h';subst hv;have hr:u'=Value.ref a':=r';subst hr;obtain ⟨its',rv',pl',_⟩:=I.list q'.sq;have pt':s.heap.IsList a' its'.toArray:=pl'.isList;exact ⟨.tuple_list pt pt' hu0,.tuple_list pt pt' hu0,.tuple_list pt pt' hu0⟩
  |lst xs=>
   obtain ⟨a,vs,hv,q,tt⟩:=id h;subst hv;have hr:u=Value.ref a:=r;subst hr;obtain ⟨its,rv,pl,_⟩:=I.list q.sq;have pt:s.heap.IsList a its.toArray:=pl.isList;cases d' with
   |ref a=>rw[nr]at n2;cases n2
   |scr a=>rw[nr]at n2;cases n2
   |exn a=>rw[nr]at n2;cases n2
   |non=>
    have hv:v'=.non:=h';subst hv;have hr:u'=Value.none:=r';subst hr;exact ⟨.list_none pt hu0,.list_none pt hu0,.list_none pt hu0⟩
   |bl b'=>
    have hv:v'=.bl b':=h';subst hv;have hr:u'=Value.bool b':=r';subst hr;exact ⟨.list_bool b' pt hu0,.list_bool b' pt hu0,.list_bool b' pt hu0⟩
   |int i'=>
    have hv:v'=.int i':=h';subst hv;obtain ⟨t',hr⟩:∃t',u'=Value.int i' t':=r';subst hr;exact ⟨.list_int i' t' pt hu0,.list_int i' t' pt hu0,.list_int i' t' pt hu0⟩
   |str l'=>
    obtain ⟨hv,_⟩:=h';subst hv;obtain ⟨t',hr⟩:∃t',u'=Value.str (tx l') t':=r';subst hr;exact ⟨.list_str (tx l') t' pt hu0,.list_str (tx l') t' pt hu0,.list_str (tx l') t' pt hu0⟩
   |tup ys=>
    obtain ⟨a',vs',hv,q',tt'⟩:=id h';subst hv;have hr:u'=Value.ref a':=r';subst hr;obtain ⟨its',rv',pt',_⟩:=I.tuple q'.sq;have pt':s.heap.IsTuple a' its'.toArray:=pt';exact ⟨.list_tuple pt pt' hu0,.list_tuple pt pt' hu0,.list_tuple pt pt' hu0⟩
   |lst ys=>
    obtain ⟨a',vs',hv,q',tt'⟩:=id h';subst hv;have hr:u'=Value.ref a':=r';subst hr;obtain ⟨its',rv',pl',_⟩:=I.list q'.sq;have pt':s.heap.IsList a' its'.toArray:=pl'.isList;exact Zn I ih hu hd n1 n2 (λz=>by subst z;have e:=uo I n1 n2 h h';injection e) pt pt' rv rv' tt tt'
end
def FA(F:FZ)(G:DH):FZ:=λa=>F a\/∃o,G a=some o
theorem DW{H:Hp}{F:FZ}{G:DH}:Ext H F H (FA F G):=⟨λ_ f=>.inl f,λ_ _=>rfl,λ_ _ h=>h,λ_ _ _ h=>h⟩
theorem ur{K:PySem.W.Frag}{H:Hp}{F:FZ}{G:DH}{d:D}{v:V}(r:R K H F G)(h:Rep K H F d v):Rep K H (FA F G) (view G d) v:=by
 cases d with
 |ref p=>
  have hv:v=.ref p:=h;cases g:G p with
  |none=>
   have e:view G (.ref p)=.ref p:=by simp only[view,g]
   rw[e];exact hv
  |some o=>
   cases o with
   |lst ds=>
    have e:view G (.ref p)=.lst ds:=by simp only[view,g]
    rw[e];obtain ⟨vs,q,t⟩:=r.lst g;exact ⟨p,vs,hv,⟨.inr ⟨_,g⟩,q⟩,Reps.ext DW t⟩
 |_=>exact Rep.ext DW h
def rC2(K:PySem.W.Frag)(f:D->D->(Bool->Prop)->Prop):R2:=λx y H Q=>∃F G a b,R K H F G/\Rep K H F a x/\Rep K H F b y/\f (view G a) (view G b) (λc=>PV K H F Q (.bl c) G)
section
variable {X:Cx}
theorem DX(c:Nat)(l:List Nat):(!(Builtin.Str.occurrences (tx l) (tx [c]) 0 (tx l).length 1).isEmpty)=l.contains c:=by have:=StrLaws.found_one (tx l) c;rw[this,fv];simp
theorem Zo{pins:List (Addr×Obj)}{σ:L2.St}{H:Hp}{s:Shared}{F:FZ}(I:Inv X pins σ H s){A:Around}{x:D}{v:V}{u:Value}(hu:A.units+64 < cLine)(hx:nr x=true)(rx:Rep X.K H F x v)(ru:RelV v u):
  ∀{ds:List D}{vs:List V}{us:List Value},nrs ds=true->bf ds<=60->Reps X.K H F ds vs->Vals vs us->∃e:Value->Bool,(∀y∈us,SeqAt.EqAt A s y u (e y))/\us.any e=isIn x ds:=by
 intro ds vs us hn hd t r;let P:Value->D->Prop:=λy d=>nr d=true/\∃v,Rep X.K H F d v/\RelV v y
 have one:∀y d d',P y d->P y d'->d=d':=λy d d' ⟨n,v,q,z⟩ ⟨n',v',q',z'⟩=>by
  have e:=z.inj z';subst e;exact uo I n n' q q'
 have ⟨f,hf⟩:∃f:Value->D,∀y d,P y d->f y=d:=by refine ⟨λy=>Classical.epsilon (P y),λy d h=>?_⟩;exact one y _ _ (Classical.epsilon_spec ⟨d,h⟩) h
 refine ⟨λy=>deq (f y) x,?_,?_⟩
 ·skip;have key:∀{ds:List D}{vs:List V}{us:List Value},nrs ds=true->bf ds<=60->Reps X.K H F ds vs->Vals vs us->∀y∈us,SeqAt.EqAt A s y u (deq (f y) x):=by
   intro ds;induction ds with
   |nil=>
    intro vs us _ _ t r y hy;have t:vs=[]:=t;subst t;cases r;cases hy
   |cons d ds ih=>
    intro vs us hn hd t r y hy;obtain ⟨v1,r1,e,h1,t1⟩:=t;subst e;rw[nrs,ae]at hn;rw[bf]at hd;cases r with
    |cons p q=>
     rcases bn.mp hy with e |hy
     ·subst e;rw[hf _ d ⟨hn.1,_,h1,p⟩];exact (xR I 60 A d x v1 v _ u (by omega) (by omega) hn.1 hx h1 rx p ru).2.1
     ·exact ih hn.2 (by omega) t1 q y hy
  exact key hn hd t r
 ·have key:∀{ds:List D}{vs:List V}{us:List Value},nrs ds=true->Reps X.K H F ds vs->Vals vs us->us.any (λy=>deq (f y) x)=isIn x ds:=by
   intro ds;induction ds with
   |nil=>
    intro vs us _ t r;have t:vs=[]:=t;subst t;cases r;rfl
   |cons d ds ih=>
    intro vs us hn t r;obtain ⟨v1,r1,e,h1,t1⟩:=t;subst e;rw[nrs,ae]at hn;cases r with
    |cons p q=>
     rw[List.any_cons,hf _ d ⟨hn.1,_,h1,p⟩,ih hn.2 t1 q];rfl
  exact key hn t r
theorem jG(op:CmpOp)(hu:X.A.units+100 < cLine):OpR X (compareOp op) (rC2 X.K (aX op)):=by
 intro pins s σ H x y v u Q I rx ry h;obtain ⟨F,G,a,b,r,ra,rb,h⟩:=h;have ra':=ur r ra;have rb':=ur r rb;generalize ea:view G a=va at h ra';generalize eb:view G b=vb at h rb';have fin:∀c:Bool,PV X.K H F Q (.bl c) G->EP X pins σ Q (.bool c) s:=λc q=>⟨.bl c,H,I,rfl,q.now r rfl⟩;have hin:∀(l:List D)(k:Bool->Prop),(nr va=true/\nrs l=true/\bf l<=60)->∀{vs:List V}{us:List Value},Reps X.K H (FA F G) l vs->Vals vs us->
   ∃e:Value->Bool,(∀z∈us,SeqAt.EqAt X.A.in1 s z v (e z))/\us.any e=isIn va l:=λl k hh {vs us} t rv=>
  Zo I (A:=X.A.in1) (by show X.A.units+1+64 < cLine;omega) hh.1 ra' rx hh.2.1 hh.2.2 t rv
 cases op with
 |Eq=>
  obtain ⟨⟨n1,n2,n3⟩,q⟩:=h;exact (xR I 60 X.A _ _ x y v u (by omega) n3 n1 n2 ra' rb' rx ry).1 _ _ _ _ (fin _ q)
 |NotEq=>
  obtain ⟨⟨n1,n2,n3⟩,q⟩:=h;exact (xR I 60 X.A _ _ x y v u (by omega) n3 n1 n2 ra' rb' rx ry).2.2 _ _ _ _ (fin _ q)
 |Lt=>
  have h:jt va vb (λc=>PV X.K H F Q (.bl c) G):=h;unfold jt at h;split at h
  ·have e1:x=.int _:=ra';have e2:y=.int _:=rb';subst e1;subst e2;obtain ⟨t,rfl⟩:=rx;obtain ⟨t',rfl⟩:=ry;exact lt_int (fin _ h)
  ·obtain ⟨e1,_⟩:=ra';obtain ⟨e2,_⟩:=rb';subst e1;subst e2;obtain ⟨t,rfl⟩:=rx;obtain ⟨t',rfl⟩:=ry;exact lt_str (fin _ h)
  ·exact h.elim
 |LtE=>
  have h:ju va vb (λc=>PV X.K H F Q (.bl c) G):=h;unfold ju at h;split at h
  ·have e1:x=.int _:=ra';have e2:y=.int _:=rb';subst e1;subst e2;obtain ⟨t,rfl⟩:=rx;obtain ⟨t',rfl⟩:=ry;exact le_int (fin _ h)
  ·obtain ⟨e1,_⟩:=ra';obtain ⟨e2,_⟩:=rb';subst e1;subst e2;obtain ⟨t,rfl⟩:=rx;obtain ⟨t',rfl⟩:=ry;exact PySem.P.le_str (fin _ h)
  ·exact h.elim
 |Gt=>
  have h:jw va vb (λc=>PV X.K H F Q (.bl c) G):=h;unfold jw at h;split at h
  ·have e1:x=.int _:=ra';have e2:y=.int _:=rb';subst e1;subst e2;obtain ⟨t,rfl⟩:=rx;obtain ⟨t',rfl⟩:=ry;exact gt_int (fin _ h)
  ·exact h.elim
 |GtE=>
  have h:jx va vb (λc=>PV X.K H F Q (.bl c) G):=h;unfold jx at h;split at h
  ·have e1:x=.int _:=ra';have e2:y=.int _:=rb';subst e1;subst e2;obtain ⟨t,rfl⟩:=rx;obtain ⟨t',rfl⟩:=ry;exact ge_int (fin _ h)
  ·exact h.elim
 |Is=>
  have h:jy va vb (λc=>PV X.K H F Q (.bl c) G):=h;unfold jy at h;split at h
  ·have e2:y=.non:=rb';subst e2;have q:∀c,(c=decide (x=.non))->PV X.K H F Q (.bl c) G->wpAny (model X.prog X.w) X.A (compareOp .Is v u) (EP X pins σ Q) X.xe s:=λc e q=>
    VH pins s σ H _ _ v u Q I rx ry ⟨rfl,by rw[<-e];exact q.now r rfl⟩
   refine q _ ?_ h;have:lC va=decide (x=.non):=by
    cases va with
    |non=>have e1:x=.non:=ra';subst e1;rfl
    |bl _=>have e1:x=.bl _:=ra';subst e1;rfl
    |int _=>have e1:x=.int _:=ra';subst e1;rfl
    |str _=>obtain ⟨e1,_⟩:=ra';subst e1;rfl
    |tup _=>obtain ⟨_,_,e1,_⟩:=ra';subst e1;rfl
    |lst _=>obtain ⟨_,_,e1,_⟩:=ra';subst e1;rfl
    |ref _=>have e1:x=.ref _:=ra';subst e1;rfl
    |scr _=>obtain ⟨_,e1,_⟩:=ra';subst e1;rfl
    |exn _=>obtain ⟨_,_,e1,_⟩:=ra';subst e1;rfl
   rw[this]
  ·split at h
   ·have e1:x=.bl _:=ra';have e2:y=.bl _:=rb';subst e1;subst e2;exact Xm pins s σ H _ _ v u Q I rx ry ⟨_,_,rfl,rfl,h.now r rfl⟩
   ·exact h.elim
  ·exact h.elim
 |IsNot=>
  have h:jz va vb (λc=>PV X.K H F Q (.bl c) G):=h;unfold jz at h;split at h
  ·have e2:y=.non:=rb';subst e2;have q:∀c,(c=!decide (x=.non))->PV X.K H F Q (.bl c) G->wpAny (model X.prog X.w) X.A (compareOp .IsNot v u) (EP X pins σ Q) X.xe s:=λc e q=>
    VJ pins s σ H _ _ v u Q I rx ry ⟨rfl,by rw[<-e];exact q.now r rfl⟩
   refine q _ ?_ h;have:lC va=decide (x=.non):=by
    cases va with
    |non=>have e1:x=.non:=ra';subst e1;rfl
    |bl _=>have e1:x=.bl _:=ra';subst e1;rfl
    |int _=>have e1:x=.int _:=ra';subst e1;rfl
    |str _=>obtain ⟨e1,_⟩:=ra';subst e1;rfl
    |tup _=>obtain ⟨_,_,e1,_⟩:=ra';subst e1;rfl
    |lst _=>obtain ⟨_,_,e1,_⟩:=ra';subst e1;rfl
    |ref _=>have e1:x=.ref _:=ra';subst e1;rfl
    |scr _=>obtain ⟨_,e1,_⟩:=ra';subst e1;rfl
    |exn _=>obtain ⟨_,_,e1,_⟩:=ra';subst e1;rfl
   rw[this]
  ·split at h
   ·have e1:x=.bl _:=ra';have e2:y=.bl _:=rb';subst e1;subst e2;exact Xv pins s σ H _ _ v u Q I rx ry ⟨_,_,rfl,rfl,h.now r rfl⟩
   ·exact h.elim
  ·exact h.elim
 |In=>
  have h:fY va vb (λc=>PV X.K H F Q (.bl c) G):=h;unfold fY at h;split at h
  ·split at h
   ·obtain ⟨e1,_⟩:=ra';obtain ⟨e2,_⟩:=rb';subst e1;subst e2;obtain ⟨t,rfl⟩:=rx;obtain ⟨t',rfl⟩:=ry;exact in_str (by rw[DX];exact fin _ h)
   ·exact h.elim
  ·obtain ⟨hh,q⟩:=h;obtain ⟨p,vs,e2,q2,t⟩:=rb';subst e2;cases ry;obtain ⟨its,rv,pl,hz⟩:=I.list q2.sq;obtain ⟨e,he,hany⟩:=hin _ (λ_=>True) hh t rv;refine SeqAt.in_listAt e pl.isList (λw hw=>he w (by simpa using hw)) ?_;rw[show its.toArray.any e=its.any e by simp,hany];exact fin _ q
  ·obtain ⟨hh,q⟩:=h;obtain ⟨p,vs,e2,q2,t⟩:=rb';subst e2;cases ry;obtain ⟨its,rv,pl,hz⟩:=I.tuple q2.sq;obtain ⟨e,he,hany⟩:=hin _ (λ_=>True) hh t rv;refine SeqAt.in_tupleAt e pl (λw hw=>he w (by simpa using hw)) ?_;rw[show its.toArray.any e=its.any e by simp,hany];exact fin _ q
  ·exact h.elim
 |NotIn=>
  have h:fY va vb (λc=>PV X.K H F Q (.bl (!c)) G):=h;unfold fY at h;split at h
  ·split at h
   ·obtain ⟨e1,_⟩:=ra';obtain ⟨e2,_⟩:=rb';subst e1;subst e2;obtain ⟨t,rfl⟩:=rx;obtain ⟨t',rfl⟩:=ry;exact notIn_str (by rw[DX];exact fin _ h)
   ·exact h.elim
  ·obtain ⟨hh,q⟩:=h;obtain ⟨p,vs,e2,q2,t⟩:=rb';subst e2;cases ry;obtain ⟨its,rv,pl,hz⟩:=I.list q2.sq;obtain ⟨e,he,hany⟩:=hin _ (λ_=>True) hh t rv;refine SeqAt.notIn_listAt e pl.isList (λw hw=>he w (by simpa using hw)) ?_;rw[show its.toArray.any e=its.any e by simp,hany];exact fin _ q
  ·obtain ⟨hh,q⟩:=h;obtain ⟨p,vs,e2,q2,t⟩:=rb';subst e2;cases ry;obtain ⟨its,rv,pl,hz⟩:=I.tuple q2.sq;obtain ⟨e,he,hany⟩:=hin _ (λ_=>True) hh t rv;refine SeqAt.notIn_tupleAt e pl (λw hw=>he w (by simpa using hw)) ?_;rw[show its.toArray.any e=its.any e by simp,hany];exact fin _ q
  ·exact h.elim
end
section
variable {X:Cx}
def Zq(K:PySem.W.Frag):R2:=λx y H Q=>∃F G a b,R K H F G/\Rep K H F a x/\Rep K H F b y/\cg (view G a) b (λd=>PV K H F Q d G)
theorem ut{K:PySem.W.Frag}{H:Hp}{F:FZ}{ds:List D}{vs:List V}{i:Int}{d:D}(t:Reps K H F ds vs)(h:atI ds i=some d):∃v,atI vs i=some v/\Rep K H F d v:=by
 unfold atI at h ⊢;rw[<-t.length];cases e:ixN ds.length i with
 |none=>rw[e]at h;cases h
 |some j=>
  rw[e]at h;obtain ⟨v,e1,r⟩:=t.get (show ds[j]?=some d from h);exact ⟨v,e1,r⟩
theorem Zr:IxR X (Zq X.K):=by
 intro value slice pins s σ H x y v u Q I rx ry h hs;obtain ⟨F,G,a,b,r,ra,rb,h⟩:=h;generalize ea:view G a=va at h;unfold cg at h;split at h
 ·obtain ⟨p,vs,e,q,t⟩:=Rep.list r ra ea;subst e;have e2:y=.int _:=rb;subst e2;split at h
  ·rename_i d hd;obtain ⟨w,hw,rw'⟩:=ut t hd;exact Wy value slice pins s σ H _ _ v u Q I rx ry ⟨p,vs,_,w,rfl,rfl,q,hw,h.now r rw'⟩ hs
  ·exact h.elim
 ·cases fG ea;obtain ⟨p,vs,e,q,t⟩:=ra;subst e;have e2:y=.int _:=rb;subst e2;split at h
  ·rename_i d hd;obtain ⟨w,hw,rw'⟩:=ut t hd;exact Wz value slice pins s σ H _ _ v u Q I rx ry ⟨p,vs,_,w,rfl,rfl,q.sq,hw,h.now r rw'⟩ hs
  ·exact h.elim
 ·cases fX ea;obtain ⟨e,hl⟩:=ra;subst e;have e2:y=.int _:=rb;subst e2;split at h
  ·rename_i c hc;exact WD value slice pins s σ H _ _ v u Q I rx ry ⟨_,_,c,rfl,rfl,by rw[bM];exact cN hl,hc,h.now r ⟨rfl,by show 1<=sz;decide⟩⟩ hs
  ·exact h.elim
 ·exact h.elim
theorem Zt(l:List Nat)(lo hi:Option Int):Txt.slice (tx l) lo hi=tx (cut l lo hi):=by
 have e:Builtin.Str.strSliceIndices lo hi 1 (tx l).length=sliceRange (sliceBounds lo hi none (tx l).length).1 (sliceBounds lo hi none (tx l).length).2.1 1:=by unfold Builtin.Str.strSliceIndices sliceBounds;cases lo <;> cases hi <;> rfl
 obtain ⟨h1,h2,h3⟩:=BP lo hi (tx l).length;rw[h1,h2,sliceRange_one]at e;have e2:((Builtin.Str.strSliceIndices lo hi 1 (tx l).length).filterMap ((tx l).cps[·]?))=cut l lo hi:=by rw[e,pick_run];unfold cut;rw[bM]
 unfold Txt.slice;split
 ·rename_i hh;rw[ae]at hh;have hl:=eq_of_beq hh.2;rw[e,ah,List.length_range,bM]at hl;have b1:HT.sIx l.length l.length hi<=l.length:=HT.Bu _ _ (aw _) hi;unfold cut;by_cases hz:l=[]
  ·subst hz;simp
  ·have hp:0 < l.length:=List.length_pos_iff.mpr hz;have e3:HT.sIx l.length 0 lo=0:=by omega
   have e4:HT.sIx l.length l.length hi=l.length:=by omega
   rw[e3,e4];simp
 ·rw[e2]
theorem Zu{α:Type}(xs:List α)(lo hi:Option Int):(cut xs lo hi).length<=xs.length:=by unfold cut;rw[ci,bX];omega
theorem Zv{prog:Program}{w:World}{A:Around}{E:Value->Shared->Prop}{s:Shared}{t sl:Addr}{items:Array Value}{vl vu:Value}{lo hi:Option Int}{Q:Value->Shared->Prop}(ht:IsTup s.heap t items)(hs:s.heap.IsSliceOf sl vl vu .none)(pl:IsPart vl lo)(pu:IsPart vu hi)
  (hw:HT.sIx items.size 0 lo=0/\HT.sIx items.size items.size hi=items.size) (h:Q (.ref t) s):wpAny (model prog w) A (getItem (.ref t) (.ref sl)) Q E s:=by
 obtain ⟨os,hos,hcs,hds⟩:=id hs;have hTs:s.TypeIs (.ref sl) "slice":=⟨os,hos,hcs⟩;unfold getItem;try with_reducible refine eS ?_
 first |refine ag (a8 ?_) |skip
 refine ag (wpAny_sequenceKey ht.typeIs (by decide) ?_);refine ag (eW (name:=Str.ofString "__getitem__") ht.typeIs eM
  (fw eM ht.typeIs entry_tuple_getitem ?_ (args_tuple_getitem _ _)))
 show wpAny _ _ (Builtin.Tuple.tupleItemsOf (.ref t) >>= _) _ _ s;refine ag (tupleItemsOf_ ht ?_);refine ag (wpAny_typeOf hTs ?_);rw[if_pos (by decide)];refine ag (HT.Bx hs pl pu ?_);have hyes:(((HT.sIx items.size 0 lo:Nat):Int)==0&&(1:Int)==1&&(HT.sIx items.size items.size hi - HT.sIx items.size 0 lo)==items.size)=true:=by rw[hw.1,hw.2];simp
 show wpAny _ _ (if (((HT.sIx items.size 0 lo:Nat):Int)==0&&(1:Int)==1&&(HT.sIx items.size items.size hi - HT.sIx items.size 0 lo)==items.size)=true then _ else _) _ _ s;rw[if_pos hyes];refine ag (m:=Builtin.Tuple.tupleIsExact _) (ag (wpAny_typeOf ht.typeIs (a8 ?_)));rw[if_pos (by decide)];exact ag (fR (a8 ⟨_,rfl,a8 h⟩))
theorem Zw:SlR X (λx lo hi H Q=>∃a xs,x=.ref a/\SqT X.K H a xs/\(HT.sIx xs.length 0 lo=0/\HT.sIx xs.length xs.length hi=xs.length)/\Q (.ref a) H):=by
 intro pins s σ H x v vl vu lo hi sl Q I rx hs pl pu h;obtain ⟨a,xs,rfl,hx,hw,q⟩:=h;cases rx;obtain ⟨its,r,ht,hz⟩:=I.tuple hx;have hlen:its.toArray.size=xs.length:=by rw[am];exact r.length.symm
 exact ⟨"tuple",_,eM.lookup,ht.typeIs,Zv ht hs pl pu (by rw[hlen];exact hw) ⟨.ref a,H,I,rfl,q⟩⟩
theorem uv{K:PySem.W.Frag}{H:Hp}{F:FZ}:∀ns:List Int,Reps K H F (ns.map D.int) (ns.map V.int)
 |[]=>rfl
 |n::ns=>⟨_,_,rfl,rfl,uv ns⟩
noncomputable def Zx(K:PySem.W.Frag)(fz:Bool):V->Option Int->Option Int->Hp->VK->Prop:=λx lo hi H Q=>∃F G a,R K H F G/\Rep K H F a x/\eQ fz (view G a) lo hi G (PV K H F Q)
theorem DY{K:PySem.W.Frag}{H:Hp}{F:FZ}{ds:List D}{vs:List V}(t:Reps K H F ds vs)(lo hi:Option Int):Reps K H F (cut ds lo hi) (eH vs lo hi):=t.cut lo hi
theorem Zy(fz:Bool):SlR X (Zx X.K fz):=by
 intro pins s σ H x v vl vu lo hi sl Q I rx hs pl pu h;obtain ⟨F,G,a,r,ra,h⟩:=h;generalize ea:view G a=va at h;unfold eQ at h;split at h
 ·obtain ⟨p,vs,e,q,t⟩:=Rep.list r ra ea;subst e;exact BR pins s σ H _ v vl vu lo hi sl Q I rx hs pl pu ⟨p,vs,rfl,q,dN h r (DY t lo hi)⟩
 ·rename_i ns;have ea':a=.scr ns:=by
   cases a with
   |ref p=>
    unfold view at ea;cases g:G p with
    |none=>simp only[g]at ea;cases ea
    |some o=>cases o;simp only[g]at ea;cases ea
   |_=>exact ea
  subst ea';obtain ⟨p,e,q⟩:=ra;subst e;refine BR pins s σ H _ v vl vu lo hi sl Q I rx hs pl pu ⟨p,_,rfl,q.sq,dN h r ?_⟩;have e2:eH (ns.map V.int) lo hi=(cut ns lo hi).map V.int:=by unfold eH cut;rw[ah,List.map_take,gd]
  rw[e2];exact uv (cut ns lo hi)
 ·cases fG ea;obtain ⟨p,vs,e,q,t⟩:=id ra;subst e;by_cases hw:HT.sIx vs.length 0 lo=0/\HT.sIx vs.length vs.length hi=vs.length
  ·refine Zw pins s σ H _ v vl vu lo hi sl Q I rx hs pl pu ⟨p,vs,rfl,q.sq,hw,?_⟩;refine h.now r ?_;rename_i ds;have:cut ds lo hi=ds:=by
    unfold cut;rw[t.length,hw.1,hw.2];simp[<-t.length]
   rw[this];exact ra
  ·exact Wr pins s σ H _ v vl vu lo hi sl Q I rx hs pl pu ⟨p,vs,rfl,q.sq,hw,jF h r (DY t lo hi)⟩
 ·cases fX ea;obtain ⟨e,hl⟩:=ra;subst e;refine Xq pins s σ H _ v vl vu lo hi sl Q I rx hs pl pu ⟨_,rfl,by rw[bM];exact cN hl,?_⟩;rw[Zt];exact h.now r ⟨rfl,c9 (Zu _ _ _) hl⟩
 ·exact h.elim
theorem Ea{K:PySem.W.Frag}{H:Hp}{F:FZ}{G:DH}{d:D}{v:V}{b:Bool}(r:R K H F G)(h:Rep K H F d v)(e:truth (view G d)=some b):qP K v H b:=by
 have h':=ur r h;generalize view G d=w at e h';cases w with
 |non=>have e1:v=.non:=h';subst e1;simp only[truth,aT]at e;exact e.symm
 |bl x=>have e1:v=.bl x:=h';subst e1;simp only[truth,aT]at e;exact e.symm
 |int i=>have e1:v=.int i:=h';subst e1;simp only[truth,aT]at e;exact e.symm
 |str l=>
  obtain ⟨e1,hl⟩:=h';subst e1;simp only[truth,aT]at e;refine ⟨by rw[bM];exact cN hl,?_⟩;rw[bM,<-e];cases l with
  |nil=>rfl
  |cons c l=>simp;omega
 |tup l=>
  obtain ⟨a,vs,e1,q,t⟩:=h';subst e1;simp only[truth,aT]at e;refine .inr (.inl ⟨vs,q.sq,?_⟩);rw[<-e];cases l with
  |nil=>have t:vs=[]:=t;subst t;rfl
  |cons c l=>obtain ⟨_,_,e2,_⟩:=t;subst e2;rfl
 |lst l=>
  obtain ⟨a,vs,e1,q,t⟩:=h';subst e1;simp only[truth,aT]at e;refine .inl ⟨vs,q.sq,?_⟩;rw[<-e];cases l with
  |nil=>have t:vs=[]:=t;subst t;rfl
  |cons c l=>obtain ⟨_,_,e2,_⟩:=t;subst e2;rfl
 |ref a=>simp[truth]at e
 |scr a=>simp[truth]at e
 |exn a=>simp[truth]at e
theorem uw{K:PySem.W.Frag}{H:Hp}{F:FZ}:∀{ds:List D}{vs:List V}{bs:List Bool},bools ds=some bs->Reps K H F ds vs->vs=bs.map V.bl
 |[],_,bs,e,h=>by
  simp only[bools,aT]at e;subst e;exact h
 |d::ds,_,bs,e,⟨v,w,e1,h,t⟩=>by
  cases d with
  |bl b=>
   simp only[bools]at e;cases q:bools ds with
   |none=>rw[q]at e;cases e
   |some s=>
    rw[q]at e;cases e;have hv:v=.bl b:=h;rw[e1,hv,uw q t];rfl
  |_=>simp[bools]at e
theorem bA{K:PySem.W.Frag}{H:Hp}{F:FZ}{d:D}{vs:List V}(t:Reps K H F [d] vs):∃v,vs=[v]/\Rep K H F d v:=by obtain ⟨v,r,e,h,t⟩:=t;have t:r=[]:=t;subst t;exact ⟨v,e,h⟩
noncomputable def iy(K:PySem.W.Frag)(f:Bf):List V->Hp->VK->Prop:=λvs H Q=>∃F G ds,R K H F G/\Reps K H F ds vs/\opB f (ds.map (view G)) (λd=>PV K H F Q d G)
theorem map_one{G:DH}{ds:List D}{x:D}(h:ds.map (view G)=[x]):∃d,ds=[d]/\view G d=x:=by
 match ds,h with
 |[d],h=>exact ⟨d,rfl,by simpa using h⟩
theorem Zz:bw X (.builtin "len") (iy X.K .len):=by
 intro pins s σ H xs us Q I rs h;obtain ⟨F,G,ds,r,t,h⟩:=h;generalize ea:ds.map (view G)=va at h;simp only[opB,wU]at h;split at h
 ·obtain ⟨d,rfl,ev⟩:=map_one ea;obtain ⟨v,rfl,rv⟩:=bA t;obtain ⟨a,vs,e,q,t'⟩:=Rep.list r rv ev;subst e;exact BV pins s σ H _ us Q I rs ⟨a,vs,rfl,.inl q,by rw[<-t'.length];exact h.now r rfl⟩
 ·obtain ⟨d,rfl,ev⟩:=map_one ea;obtain ⟨v,rfl,rv⟩:=bA t;cases fG ev;obtain ⟨a,vs,e,q,t'⟩:=rv;subst e;exact BV pins s σ H _ us Q I rs ⟨a,vs,rfl,.inr q.sq,by rw[<-t'.length];exact h.now r rfl⟩
 ·obtain ⟨d,rfl,ev⟩:=map_one ea;obtain ⟨v,rfl,rv⟩:=bA t;cases fX ev;obtain ⟨e,hl⟩:=rv;subst e;exact WN pins s σ H _ us Q I rs ⟨_,rfl,by rw[bM];exact cN hl,by rw[bM];exact h.now r rfl⟩
 ·exact h.elim
theorem ZC (hc:X.calm=true):bw X (.builtin "all") (iy X.K .all):=by
 intro pins s σ H xs us Q I rs h;obtain ⟨F,G,ds,r,t,h⟩:=h;generalize ea:ds.map (view G)=va at h;simp only[opB,qY]at h;split at h
 ·obtain ⟨d,rfl,ev⟩:=map_one ea;obtain ⟨v,rfl,rv⟩:=bA t;obtain ⟨a,vs,e,q,t'⟩:=Rep.list r rv ev;subst e;split at h
  ·rename_i bs hb;have e2:=uw hb t';subst e2;exact Xl hc pins s σ H _ us Q I rs ⟨a,bs,rfl,q,h.now r rfl⟩
  ·exact h.elim
 ·exact h.elim
theorem ZD:bw X (.type "int") (iy X.K .int):=by
 intro pins s σ H xs us Q I rs h;obtain ⟨F,G,ds,r,t,h⟩:=h;generalize ea:ds.map (view G)=va at h;simp only[opB,qZ]at h;split at h
 ·obtain ⟨d,rfl,ev⟩:=map_one ea;obtain ⟨v,rfl,rv⟩:=bA t;cases Zb ev;have e:v=.bl _:=rv;subst e;exact Bk pins s σ H _ us Q I rs (.inr ⟨_,rfl,h.now r rfl⟩)
 ·obtain ⟨d,rfl,ev⟩:=map_one ea;obtain ⟨v,rfl,rv⟩:=bA t;cases eO ev;have e:v=.int _:=rv;subst e;exact Bk pins s σ H _ us Q I rs (.inl ⟨_,rfl,h.now r rfl⟩)
 ·obtain ⟨d,rfl,ev⟩:=map_one ea;obtain ⟨v,rfl,rv⟩:=bA t;cases fX ev;obtain ⟨e,hl⟩:=rv;subst e;split at h
  ·rename_i n hn;exact Xo pins s σ H _ us Q I rs ⟨_,n,rfl,hn,by rw[bM];exact h.1,h.2.now r rfl⟩
  ·exact h.elim
 ·exact h.elim
theorem ZF:bw X (.type "tuple") (iy X.K .tuple):=by
 intro pins s σ H xs us Q I rs h;obtain ⟨F,G,ds,r,t,h⟩:=h;generalize ea:ds.map (view G)=va at h;simp only[opB,wV]at h;split at h
 ·obtain ⟨d,rfl,ev⟩:=map_one ea;obtain ⟨v,rfl,rv⟩:=bA t;obtain ⟨a,vs,e,q,t'⟩:=Rep.list r rv ev;subst e;exact BX pins s σ H _ us Q I rs ⟨a,vs,rfl,.inl ⟨q,jF h r t'⟩⟩
 ·obtain ⟨d,rfl,ev⟩:=map_one ea;obtain ⟨v,rfl,rv⟩:=bA t;cases fG ev;obtain ⟨a,vs,e,q,t'⟩:=id rv;subst e;exact BX pins s σ H _ us Q I rs ⟨a,vs,rfl,.inr ⟨q.sq,h.now r rv⟩⟩
 ·exact h.elim
noncomputable def xT(K:PySem.W.Frag)(fz:Bool)(f:Lf):List V->Hp->VK->Prop:=λvs H Q=>∃F G ds,R K H F G/\Reps K H F ds vs/\cG f (ds.map (view G)) (λxs=>mk fz xs G (PV K H F Q))
theorem ZG(l:List Nat):∀(us:List Value),us.length=l.length->(∀(j:Nat)(v:Value),us[j]?=some v->∃(c:Nat)(u:Tok),l[j]?=some c/\v=Value.str ⟨#[c]⟩ u)->Vals (l.map λc=>V.str (tx [c])) us:=by
 induction l with
 |nil=>intro us h _;cases us with |nil=>exact .nil |cons _ _=>cases h
 |cons c l ih=>
  intro us h q;cases us with
  |nil=>cases h
  |cons u us=>
   obtain ⟨c',t,e1,e2⟩:=q 0 u (by simp);have e1:c=c':=by simpa using e1
   subst e1;exact .cons ⟨t,e2⟩ (ih us (by simpa using h) λj v hv=>by simpa using q (j+1) v (by simpa using hv))
theorem ZJ (hc:X.calm=true):bw X (.type "list") (λxs H Q=>∃l:List Nat,xs=[.str (tx l)]/\l.length<=sizeLine/\∀p,H p=none->Q (.ref p) (upd H p (.lst (l.map λc=>V.str (tx [c]))))):=by
 intro pins s σ H xs us Q I r h;obtain ⟨l,rfl,hz,q⟩:=h;obtain ⟨u,rfl,t,rfl⟩:=vals1 r;have hz':(tx l).cps.size<=sizeLine:=by simpa using hz
 refine call_list_str (hn:=hz') (I.ok.hd hc) (tx l) t λh' tk acc' c' kp e hi=>?_;have hv:Vals (l.map λc=>V.str (tx [c])) acc'.toList:=by
  refine ZG l _ ?_ λj v hv=>?_
  ·rw[dv,hi.1];simp
  ·obtain ⟨c,u,e1,e2⟩:=hi.2 j v (by rw[<-fe];exact hv);exact ⟨c,u,by simpa using e1,e2⟩
 exact ⟨.ref s.heap.objs.size,_,I.laid (t':=tk) kp (aw _) (show ObjOk X.prog X.w _ h' _ (.lst _) from ⟨by rw[ah];exact hz,acc'.toList,c',hv,by rw[Array.toArray_toList];exact e⟩),rfl,q _ (I.hok.fresh (aw _))⟩
theorem xU{K:PySem.W.Frag}{H:Hp}{F:FZ}:∀l:List Nat,Reps K H F (l.map λc=>D.str [c]) (l.map λc=>V.str (tx [c]))
 |[]=>rfl
 |c::l=>⟨_,_,rfl,⟨rfl,by show 1<=sz;decide⟩,xU l⟩
theorem ZK (hc:X.calm=true) (fz:Bool):bw X (.type "list") (xT X.K fz .list):=by
 intro pins s σ H xs us Q I rs h;obtain ⟨F,G,ds,r,t,h⟩:=h;generalize ea:ds.map (view G)=va at h;simp only[cG,wY]at h;split at h
 ·obtain ⟨d,rfl,ev⟩:=map_one ea;obtain ⟨v,rfl,rv⟩:=bA t;obtain ⟨a,vs,e,q,t'⟩:=Rep.list r rv ev;subst e;exact BW pins s σ H _ us Q I rs ⟨a,vs,rfl,.inl q,dN h r t'⟩
 ·obtain ⟨d,rfl,ev⟩:=map_one ea;obtain ⟨v,rfl,rv⟩:=bA t;cases fG ev;obtain ⟨a,vs,e,q,t'⟩:=id rv;subst e;exact BW pins s σ H _ us Q I rs ⟨a,vs,rfl,.inr q.sq,dN h r t'⟩
 ·obtain ⟨d,rfl,ev⟩:=map_one ea;obtain ⟨v,rfl,rv⟩:=bA t;cases fX ev;obtain ⟨e,hl⟩:=rv;subst e;exact ZJ hc pins s σ H _ us Q I rs ⟨_,rfl,cN hl,dN h r (xU _)⟩
 ·exact h.elim
theorem ux{K:PySem.W.Frag}{H:Hp}{F:FZ}:∀{ds:List D}{vs:List V}{ls:List (List Nat)},bz ds=some ls->Reps K H F ds vs->vs=(ls.map tx).map V.str
 |[],_,bs,e,h=>by
  simp only[bz,aT]at e;subst e;exact h
 |d::ds,_,bs,e,⟨v,w,e1,h,t⟩=>by
  cases d with
  |str b=>
   simp only[bz]at e;cases q:bz ds with
   |none=>rw[q]at e;cases e
   |some s=>
    rw[q]at e;cases e;obtain ⟨hv,_⟩:=h;rw[e1,hv,ux q t];rfl
  |_=>simp[bz]at e
theorem xV{K:PySem.W.Frag}{H:Hp}{F:FZ}:∀{ds:List D}{vs:List V}{ns:List Int},bT ds=some ns->Reps K H F ds vs->vs=ns.map V.int
 |[],vs,ns,e,t=>by
  simp only[bT,aT]at e;subst e;have t:vs=[]:=t;rw[t];rfl
 |d::ds,vs,ns,e,t=>by
  obtain ⟨v,r,e1,h,t⟩:=t;cases d with
  |int b=>
   simp only[bT]at e;cases q:bT ds with
   |none=>rw[q]at e;cases e
   |some s=>
    rw[q]at e;cases e;have hv:v=.int b:=h;rw[e1,hv,xV q t];rfl
  |_=>simp[bT]at e
theorem Eb:∀{ns:List Int}{its:List Value},Vals (ns.map V.int) its->IntsAre its ns
 |[],its,h=>by cases h;exact .nil
 |n::ns,its,h=>by
  cases h with
  |cons a b=>
   obtain ⟨t,rfl⟩:=a;exact .cons n t (Eb b)
theorem ZL:bootBuiltins "sorted"=some (.builtin "sorted"):=by decide +kernel
theorem xW:∀{ls:List (List Nat)}{its:List Value},Vals ((ls.map tx).map V.str) its->StrsAre its (ls.map tx)
 |[],its,h=>by cases h;exact .nil
 |n::ns,its,h=>by
  cases h with
  |cons a b=>
   obtain ⟨t,rfl⟩:=a;exact .cons _ t (xW b)
theorem Ec:∀{ss:List Str}{its:List Value},StrsAre its ss->Vals (ss.map V.str) its
 |_,_,.nil=>.nil
 |_,_,.cons y t h=>.cons ⟨t,rfl⟩ (Ec h)
theorem ZM{ss:List Str}{ls:List (List Nat)}(h:ss.Perm (ls.map tx)):∃ls':List (List Nat),ss=ls'.map tx/\ls'.Perm ls:=by
 refine ⟨ss.map λs=>s.cps.toList,?_,?_⟩
 ·rw[dL];refine (List.map_id ss).symm.trans (List.map_congr_left λs _=>?_);show s=tx s.cps.toList;exact qR s
 ·have:=h.map λs=>s.cps.toList;rw[dL]at this;have e:(λs:Str=>s.cps.toList)∘tx=id:=by funext l;rfl
  rw[e,List.map_id]at this;exact this
theorem ZP:bw X (.builtin "sorted") (λxs H Q=>∃(p:Addr) (ls:List (List Nat)),xs=[.ref p]/\SqL X.K H p ((ls.map tx).map V.str)/\ls.length < 64/\∀ls':List (List Nat),ls'.Perm ls->PyProof.Rows.sortedS (ls'.map tx)=true->∀l,H l=none->Q (.ref l) (upd H l (.lst ((ls'.map tx).map V.str)))):=by
 intro pins s σ H xs us Q I r h;obtain ⟨p,ls,rfl,hq,h64,q⟩:=h;obtain ⟨u,rfl,ru⟩:=vals1 r;cases ru;obtain ⟨its,rv,pl,hz⟩:=I.list hq;have hlen:its.length=ls.length:=by rw[<-rv.length];simp
 refine sorted_strs pl.isList (xW rv) (by omega) λout ss' a1 a2 a3=>?_;obtain ⟨ls',rfl,pm⟩:=ZM a2;obtain ⟨e,he⟩:=sortedAll_at s.heap its out;have hsz:((ls'.map tx).map V.str).length<=sizeLine:=by rw[ah,ah,pm.length_eq];exact c9 (Nat.le_of_lt h64) (by decide)
 exact ⟨.ref (s.heap.objs.size+1),_,I.laid (t':=s.toks) (λ_ _=>sortedAll_old) (Nat.le_succ _) (show ObjOk X.prog X.w _ _ _ (.lst ((ls'.map tx).map V.str)) from ⟨hsz,out.toList,e,Ec a1,he⟩),rfl,q ls' pm a3 _ (I.hok.fresh (Nat.le_succ _))⟩
theorem Ed{K:PySem.W.Frag}{H:Hp}{F:FZ}:∀{ls:List (List Nat)},(∀l∈ls,l.length<=sz)->Reps K H F (ls.map D.str) ((ls.map tx).map V.str)
 |[],_=>rfl
 |l::ls,h=>⟨_,_,rfl,⟨rfl,h l bS⟩,Ed λx hx=>h x (b9 _ hx)⟩
theorem xX{K:PySem.W.Frag}{H:Hp}{F:FZ}:∀{ds:List D}{vs:List V}{ls:List (List Nat)},bz ds=some ls->Reps K H F ds vs->∀l∈ls,l.length<=sz
 |[],vs,ls,e,t=>by simp only[bz,aT]at e;subst e;intro l hl;cases hl
 |d::ds,vs,ls,e,t=>by
  obtain ⟨v,r,e1,h,t⟩:=t;cases d with
  |str b=>
   simp only[bz]at e;cases q:bz ds with
   |none=>rw[q]at e;cases e
   |some s=>
    rw[q]at e;cases e;intro l hl;rcases bn.mp hl with e |hl
    ·rw[e];exact h.2
    ·exact xX q t l hl
  |_=>simp[bz]at e
theorem ZQ (fz:Bool):bw X (.builtin "sorted") (xT X.K fz .sorted):=by
 intro pins s σ H xs us Q I rs h;obtain ⟨F,G,ds,r,t,h⟩:=h;generalize ea:ds.map (view G)=va at h;simp only[cG,lE]at h;split at h
 ·obtain ⟨d,rfl,ev⟩:=map_one ea;obtain ⟨v,rfl,rv⟩:=bA t;obtain ⟨a,vs,e,q,t'⟩:=Rep.list r rv ev;subst e;split at h
  ·rename_i ls hb;have e2:=ux hb t';have hsz:=xX hb t';subst e2;exact ZP pins s σ H _ us Q I rs ⟨a,ls,rfl,q,h.1,λls' pm so=>dN (h.2 ls' pm so) r (Ed λl hl=>hsz l (pm.mem_iff.mp hl))⟩
  ·exact h.elim
 ·obtain ⟨d,rfl,ev⟩:=map_one ea;obtain ⟨v,rfl,rv⟩:=bA t;cases fG ev;obtain ⟨a,vs,e,q,t'⟩:=rv;subst e;split at h
  ·rename_i ns hb;have e2:=xV hb t';subst e2;exact Y6 pins s σ H _ us Q I rs ⟨a,ns,rfl,q.sq,h.1,λns' pm so=>dN (h.2 ns' pm so) r (uv ns')⟩
  ·exact h.elim
 ·exact h.elim
theorem Ef(val:Nat->List Nat):∀k,argBest (λi j=>decide (val i < val j)) k<=k/\∀j,j<=k->¬val j < val (argBest (λi j=>decide (val i < val j)) k)
 |0=>⟨aw _,λj hj=>by
  have:j=0:=by omega
  subst this;exact List.lt_irrefl _⟩
 |k+1=>by
  obtain ⟨h1,h2⟩:=Ef val k;simp only[argBest];by_cases hc:val (k+1) < val (argBest (λi j=>decide (val i < val j)) k)
  ·rw[if_pos (by simpa using hc)];refine ⟨aw _,λj hj=>?_⟩;rcases Nat.lt_or_ge j (k+1) with hlt |hge
   ·exact λh=>h2 j (by omega) (List.lt_trans h hc)
   ·have:j=k+1:=by omega
    subst this;exact List.lt_irrefl _
  ·rw[if_neg (by simpa using hc)];refine ⟨by omega,λj hj=>?_⟩;rcases Nat.lt_or_ge j (k+1) with hlt |hge
   ·exact h2 j (by omega)
   ·have:j=k+1:=by omega
    subst this;exact hc
section
variable {prog:Program} {w:World} {A:Around} {E:Value->Shared->Prop} {s:Shared} {l:Addr}
theorem uy:∀{its:List Value}{ls:List (List Nat)}{i:Nat}{v:Value},StrsAre its (ls.map tx)->its[i]?=some v->∃t,v=.str (tx (ls.getD i [])) t
 |[],ls,i,v,_,h=>by simp at h
 |x::its,[],i,v,hs,h=>by cases hs
 |x::its,a::ls,0,v,hs,h=>by
  cases hs with
  |cons y t q=>exact ⟨t,by simpa using h.symm⟩
 |x::its,a::ls,i+1,v,hs,h=>by
  cases hs with
  |cons y t q=>
   have:=uy (i:=i) (v:=v) q (by simpa using h);simpa using this
theorem ZR{Q:Value->Shared->Prop}{its:List Value}{ls:List (List Nat)}(hh:A.handled=none)(hl:s.heap.IsList l its.toArray)(hs:StrsAre its (ls.map tx))(hn:its.length=ls.length)(hne:0 < ls.length)
  (h:∀(m:List Nat)(t:Tok)(h':Heap)(tk:Nat),m∈ls->(∀a,a∈ls->¬a < m)->(∀b o,s.heap.get? b=some o->h'.get? b=some o)->Q (.str (tx m) t) { s with heap:=h',toks:=tk }):
  wpAny (model prog w) A (call (.builtin "min") [.ref l]) Q E s:=by
 have hlt:l < s.heap.objs.size:=by obtain ⟨_,e,_⟩:=hl;exact ax e
 refine call_min_walk (wpAny_pyIter_list hl ?_);refine ⟨_,_,_,_,_,_,λi j=>decide (ls.getD i [] < ls.getD j []),rfl,Walks.list (A:=A.in1) hh _ l (cq hlt) its.toArray,⟨⟨_,bd _ rfl,rfl,rfl⟩,hl.push _⟩,?_,?_,?_,?_⟩
 ·intro b hb;show b < (s.heap.push _).objs.size;rw[eh];rcases bn.mp hb with rfl |hb
  ·exact Nat.lt_succ_self _
  ·rcases bn.mp hb with rfl |hb
   ·exact Nat.lt_succ_of_lt hlt
   ·cases hb
 ·simpa [hn] using hne
 ·intro i j vi vj s Q E hi hj h;obtain ⟨t,rfl⟩:=uy hs (by simpa using hi);obtain ⟨u,rfl⟩:=uy hs (by simpa using hj);exact richCompare_gives (op:=.Lt) (typeIs_str s _ t) (typeIs_str s _ u) F.slot_str_lt F.entry_str_lt (F.args_str_lt_2 _ _) (gives_str_lt _ _ t u) (λe=>nomatch e) h
 ·intro v h' tk hP hk;obtain ⟨t,rfl⟩:=uy hs (show its[_]?=some v by rw[<-List.getElem?_toArray];exact hP);obtain ⟨b1,b2⟩:=Ef (λi=>ls.getD i []) (its.toArray.size - 1);have hsz:its.toArray.size=ls.length:=by simpa using hn
  refine h _ t h' tk ?_ (λa ha=>?_) (old_kept hk)
  ·rw[dP,aS (by omega)];exact ck _
  ·obtain ⟨j,hj,rfl⟩:=List.getElem_of_mem ha;have:=b2 j (by omega);rwa [show ls.getD j []=ls[j] by rw[dP,aS hj];rfl]at this
end
theorem ZS (hc:X.calm=true):bw X (.builtin "min") (λxs H Q=>∃(p:Addr) (ns:List Int),xs=[.ref p]/\SqL X.K H p (ns.map V.int)/\ns≠[]/\∀m,m∈ns->(∀a,a∈ns->m<=a)->Q (.int m) H):=by
 intro pins s σ H xs us Q I r h;obtain ⟨p,ns,rfl,hq,hne,q⟩:=h;obtain ⟨u,rfl,ru⟩:=vals1 r;cases ru;obtain ⟨its,rv,pl,hz⟩:=I.list hq;have hi:=Eb rv;obtain ⟨xs,ex⟩:=hi.allInts.items;have hl:=pl.isList;rw[ex]at hl;have e1:xs.toList.map (·.1)=ns:=by rw[<-PySem.nums_intItems,<-ex];exact hi.numsOf
 have hsz:0 < xs.size:=by have:=List.length_pos_iff.mpr hne;rw[<-e1,ah,dv]at this;exact this
 refine PySem.min_intList (I.ok.hd hc) hl hsz λv h' tk hv hk=>?_;obtain ⟨t,rfl⟩:=PySem.intItems_at hv;obtain ⟨b1,b2⟩:=PySem.argBest_lt (PySem.numAt xs) (xs.size - 1);refine ⟨.int _,H,I.kept hk,⟨t,rfl⟩,q _ ?_ λa ha=>?_⟩
 ·rw[<-e1,PySem.numAt_eq];exact PySem.getD_mem (by rw[ah,dv];omega)
 ·rw[<-e1]at ha;obtain ⟨j,hj,rfl⟩:=PySem.mem_getD ha;rw[ah,dv]at hj;rw[<-PySem.numAt_eq];exact b2 j (by omega)
theorem ZV (hc:X.calm=true):bw X (.builtin "min") (λxs H Q=>∃(p:Addr) (ls:List (List Nat)),xs=[.ref p]/\SqL X.K H p ((ls.map tx).map V.str)/\ls≠[]/\∀m,m∈ls->(∀a,a∈ls->¬a < m)->Q (.str (tx m)) H):=by
 intro pins s σ H xs us Q I r h;obtain ⟨p,ls,rfl,hq,hne,q⟩:=h;obtain ⟨u,rfl,ru⟩:=vals1 r;cases ru;obtain ⟨its,rv,pl,hz⟩:=I.list hq;have hlen:its.length=ls.length:=by rw[<-rv.length];simp
 refine ZR (I.ok.hd hc) pl.isList (xW rv) hlen (List.length_pos_iff.mpr hne) λm t h' tk h1 h2 hk=>?_;exact ⟨.str (tx m),H,I.kept hk,⟨t,rfl⟩,q m h1 h2⟩
theorem ZW{ds:List D}{ls:List (List Nat)}(h0:bT ds=none)(h1:bz ds=some ls):ls≠[]:=by
 rintro rfl;cases ds with
 |nil=>simp[bT]at h0
 |cons x y=>cases x <;> simp only[bz]at h1 <;> first | (cases h1;done) | (cases hd:bz y <;> rw[hd]at h1 <;> cases h1)
theorem ZX (hc:X.calm=true):bw X (.builtin "min") (iy X.K .min):=by
 intro pins s σ H xs us Q I rs h;obtain ⟨F,G,ds,r,t,h⟩:=h;generalize ea:ds.map (view G)=va at h;simp only[opB,lD]at h;split at h
 ·obtain ⟨d,rfl,ev⟩:=map_one ea;obtain ⟨v,rfl,rv⟩:=bA t;obtain ⟨a,vs,e,q,t'⟩:=Rep.list r rv ev;subst e;split at h
  ·rename_i ns hb;have e2:=xV hb t';subst e2;exact ZS hc pins s σ H _ us Q I rs ⟨a,ns,rfl,q,h.1,λm h1 h2=>(h.2 m h1 h2).now r rfl⟩
  ·split at h
   ·rename_i hb0 _ ls hb;have e2:=ux hb t';have hsz:=xX hb t';subst e2;refine ZV hc pins s σ H _ us Q I rs ⟨a,ls,rfl,q,?_,λm h1 h2=>(h m h1 h2).now r ⟨rfl,hsz m h1⟩⟩;exact ZW (by assumption) hb
   ·exact h.elim
 ·exact h.elim
theorem ZZ:bootBuiltins "min"=some (.builtin "min"):=by decide +kernel
theorem Z0:bw X (.type "str") (iy X.K .str):=by
 intro pins s σ H xs us Q I r h;obtain ⟨F,G,ds,rr,t,h⟩:=h;generalize ea:ds.map (view G)=va at h;simp only[opB,wX]at h;split at h
 ·rename_i i;obtain ⟨d',rfl,ev⟩:=map_one ea;obtain ⟨v',rfl,rv⟩:=bA t;have e1:=eO ev;subst e1;have e2:v'=.int i:=rv;subst e2;obtain ⟨⟨h0,h1⟩,h2⟩:=h;have hm:(i.toNat:Int)=i:=Int.toNat_of_nonneg h0;have hl:(gC i.toNat).length<=3:=by
   have:=digits_le ⟨i.toNat,by omega⟩;unfold gC;rw[dv];exact this
  have hs:=h2.now rr (v:=.str (tx (gC i.toNat))) ⟨rfl,by have hz:sz=1000000:=rfl;omega⟩;have ht:tx (gC i.toNat)=wL i.toNat:=(qR _).symm;rw[ht]at hs;exact YB pins s σ H _ us Q I r ⟨i.toNat,by rw[hm],by omega,hs⟩
 ·exact h.elim
noncomputable def eX:D->Option String
 |.non=>some "NoneType"
 |.bl _=>some "bool"
 |.int _=>some "int"
 |.str _=>some "str"
 |.tup _=>some "tuple"
 |.lst _=>some "list"
 |_=>none
theorem Z1{K:PySem.W.Frag}{H:Hp}{F:FZ}{G:DH}{d:D}{v:V}{T:String}(r:R K H F G)(h:Rep K H F d v)(e:eX (view G d)=some T):TyOf K H v (.type T):=by
 have h':=ur r h;generalize view G d=w at e h';cases w with
 |non=>have e1:v=.non:=h';subst e1;simp only[eX,aT]at e;subst e;exact .non
 |bl x=>have e1:v=.bl x:=h';subst e1;simp only[eX,aT]at e;subst e;exact .bl x
 |int i=>have e1:v=.int i:=h';subst e1;simp only[eX,aT]at e;subst e;exact .int i
 |str l=>obtain ⟨e1,hl⟩:=h';subst e1;simp only[eX,aT]at e;subst e;exact .str _
 |tup l=>obtain ⟨a,vs,e1,q,t⟩:=h';subst e1;simp only[eX,aT]at e;subst e;exact .tup q.it
 |lst l=>obtain ⟨a,vs,e1,q,t⟩:=h';subst e1;simp only[eX,aT]at e;subst e;exact .lst q.2
 |ref a=>simp[eX]at e
 |scr a=>simp[eX]at e
 |exn a=>simp[eX]at e
def Z2 (K:PySem.W.Frag):Prop:=∀T t:String,T∈["NoneType","bool","int","str","tuple","list"]->fZ t=true->PySem.W.kitOne K (.type T) (.type t)=some (T==t||(T=="bool"&&t=="int"))
theorem Z3{K:PySem.W.Frag}:Z2 K:=by intro T t hT ht;simp only[bn,List.not_mem_nil,or_false]at hT;simp only[fZ,c8,av]at ht;rcases hT with rfl |rfl |rfl |rfl |rfl |rfl <;> rcases ht with (((rfl |rfl) |rfl) |rfl) |rfl <;> (with_unfolding_all rfl)
theorem Z4 {d:D} {t:String} {b:Bool} (e:isT t d=some b):∃T,eX d=some T/\T∈["NoneType","bool","int","str","tuple","list"]/\(fZ t=true->b=(T==t||(T=="bool"&&t=="int"))):=by
 have comm:∀a b:String,(a==b)=(b==a):=λa b=>by rw[fv,av,av];exact ⟨Eq.symm,Eq.symm⟩
 cases d with
 |non=>
  refine ⟨"NoneType",rfl,by simp,λht=>?_⟩;simp only[isT,aT]at e;simp only[fZ,c8,av]at ht;subst e;rcases ht with (((rfl |rfl) |rfl) |rfl) |rfl <;> rfl
 |bl _=>
  refine ⟨"bool",rfl,by simp,λht=>?_⟩;simp only[isT,aT]at e;rw[<-e,comm t "bool"];rfl
 |int _=>
  refine ⟨"int",rfl,by simp,λht=>?_⟩;simp only[isT,aT]at e;rw[<-e,comm t "int"];simp
 |str _=>
  refine ⟨"str",rfl,by simp,λht=>?_⟩;simp only[isT,aT]at e;rw[<-e,comm t "str"];simp
 |tup _=>
  refine ⟨"tuple",rfl,by simp,λht=>?_⟩;simp only[isT,aT]at e;rw[<-e,comm t "tuple"];simp
 |lst _=>
  refine ⟨"list",rfl,by simp,λht=>?_⟩;simp only[isT,aT]at e;rw[<-e,comm t "list"];simp
 |ref a=>simp[isT]at e
 |scr a=>simp[isT]at e
 |exn a=>simp[isT]at e
theorem Eg(s:List Nat):∀ls:List (List Nat),Str.join (tx s) (ls.map tx)=tx (eU s ls)
 |[]=>rfl
 |[x]=>rfl
 |x::y::r=>by
  have ih:=Eg s (y::r);show tx x++tx s++Str.join (tx s) ((y::r).map tx)=_;rw[ih,qQ,qQ];rfl
theorem Eh(s:List Nat):∀ls:List (List Nat),(eU s ls).length<=(ls.map (·.length)).sum+ls.length * s.length
 |[]=>by simp[eU]
 |[x]=>by simp[eU]
 |x::y::r=>by
  have ih:=Eh s (y::r);simp only[eU,aI,b6,List.sum_cons,cr]at ih ⊢;have:(r.length+1+1) * s.length=(r.length+1) * s.length+s.length:=by rw[Nat.succ_mul]
  omega
noncomputable def jH(K:PySem.W.Frag)(m:Mf):V->List V->Hp->VK->Prop:=λx vs H Q=>∃F G d ds,R K H F G/\Rep K H F d x/\Reps K H F ds vs/\opM m d ds G (PV K H F Q)
theorem Z5:MtR X "str.join" (jH X.K .join):=by
 intro pins s σ H x xs v us Q I rx rs h;obtain ⟨F,G,d,ds,r,rd,t,h⟩:=h;simp only[opM]at h;generalize ea:ds.map (view G)=va at h;simp only[q8]at h;split at h
 ·obtain ⟨d',rfl,ev⟩:=map_one ea;obtain ⟨v',rfl,rv⟩:=bA t;obtain ⟨a,vs,e,q,t'⟩:=Rep.list r rv ev;subst e;obtain ⟨e1,hl⟩:=rd;subst e1;split at h
  ·rename_i ls hls;have e2:=ux hls t';subst e2;refine W9 pins s σ H _ _ v us Q I rx rs ⟨_,a,_,rfl,rfl,q,?_,?_⟩
   ·have hz:=h.1;rw[dL,ah,bM,show (λx:Str=>x.length)∘tx=λl=>l.length from funext bM];have:sz=1000000:=rfl;omega
   ·rw[Eg];exact h.2.now r ⟨rfl,c9 (Eh _ _) h.1⟩
  ·exact h.elim
 ·exact h.elim
theorem Z6:MtM X "list.append" (jH X.K .append):=by
 intro pins s σ H x xs v us Q I rx rs h;obtain ⟨F,G,d,ds,r,rd,t,h⟩:=h;simp only[opM,q9]at h;split at h
 ·obtain ⟨v',rfl,rv⟩:=bA t;have e1:x=.ref _:=rd;subst e1;split at h
  ·rename_i ds0 hg;obtain ⟨vs,q,t'⟩:=r.lst hg;refine WR pins s σ H _ _ v us Q I rx rs ⟨_,vs,v',rfl,rfl,q,?_,?_⟩
   ·rw[<-t'.length];exact bi h.1 szl
   ·exact h.2 _ _ _ (lB r hg) (r.write hg (t'.append (Reps.cons rv Reps.nil))) rfl
  ·exact h.elim
 ·exact h.elim
theorem Z7:MtR X "list.count" (jH X.K .count):=by
 intro pins s σ H x xs v us Q I rx rs h;obtain ⟨F,G,d,ds,r,rd,t,h⟩:=h;simp only[opM]at h;generalize ea:view G d=va at h;simp only[rA]at h;split at h
 ·obtain ⟨a,vs,e,q,t'⟩:=Rep.list r rd ea;subst e;obtain ⟨v',rfl,rv⟩:=bA t;have e2:v'=.bl true:=rv;subst e2;split at h
  ·rename_i bs hbs;have e3:=uw hbs t';subst e3;exact Yv pins s σ H _ _ v us Q I rx rs ⟨a,bs,rfl,rfl,q,h.now r rfl⟩
  ·exact h.elim
 ·exact h.elim
theorem Z8:MtR X "list.index" (jH X.K .index):=by
 intro pins s σ H x xs v us Q I rx rs h;obtain ⟨F,G,d,ds,r,rd,t,h⟩:=h;simp only[opM]at h;generalize ea:view G d=va at h;simp only[rB]at h;split at h
 ·obtain ⟨a,vs,e,q,t'⟩:=Rep.list r rd ea;subst e;obtain ⟨v',rfl,rv⟩:=bA t;have e2:v'=.bl true:=rv;subst e2;split at h
  ·rename_i bs hbs;have e3:=uw hbs t';subst e3;exact Yx pins s σ H _ _ v us Q I rx rs ⟨a,bs,rfl,rfl,q,h.1,h.2.now r rfl⟩
  ·exact h.elim
 ·exact h.elim
noncomputable def Z9:V->List V->Hp->VK->Prop:=λx vs H Q=>∃(l:Addr)(xs:List V)(i:Int)(y:V),x=.ref l/\vs=[.int i,y]/\H l=some (.lst xs)/\xs.length < sizeLine/\0<=i/\i<=1000000/\Q .non (upd H l (.lst (xs.take i.toNat++y::xs.drop i.toNat)))
theorem aaa{its:List Value}{i:Int}{u:Value}(h:0<=i):(its.toArray.extract 0 (if i < 0 then (i+(its.toArray.size:Int)).toNat else min i.toNat its.toArray.size)).push u++its.toArray.extract (if i < 0 then (i+(its.toArray.size:Int)).toNat else min i.toNat its.toArray.size)=(its.take i.toNat++u::its.drop i.toNat).toArray:=by
 rw[if_neg (by omega),PySem.W.kl_ins_eq,am];by_cases hc:i.toNat<=its.length
 ·rw[Nat.min_eq_left hc]
 ·rw[Nat.min_eq_right (by omega),en (aw _),List.drop_of_length_le (aw _),en (by omega),List.drop_of_length_le (by omega)]
theorem aab{i:Int}(h0:0<=i)(h1:i<=1000000):¬(!Builtin.List.listFitsIndex i)=true:=by
 have:Builtin.List.listFitsIndex i=true:=by unfold Builtin.List.listFitsIndex;rw[ae];exact ⟨ay (by omega),ay (by omega)⟩
 rw[this];decide
theorem aac:MtM X "list.insert" Z9:=by
 intro pins s σ H x vs v us Q I rx rv h;obtain ⟨l,xs,i,y,rfl,rfl,hH,hz,h0,h1,q⟩:=h;cases rx;cases rv with
 |cons r1 rv=>
  obtain ⟨t,rfl⟩:=r1;obtain ⟨u,rfl,ru⟩:=L2.Vals.one rv;obtain ⟨z,its,m,r,hl,e⟩:=I.lstM hH;refine fS PySem.F.slot_list_insert ⟨_,e,rfl⟩ PySem.F.entry_list_insert (PySem.F.args_list_insert_3 _ _ _) (PySem.AutoSeq1.list_insert_list_int_val_1 l its.toArray m i t u (aab h0 h1) (by rw[am];omega)) ⟨e,?_⟩;refine ⟨.non,_,I.lset (its':=its.take i.toNat++u::its.drop i.toNat) hH e (aaa h0) ((r.take _).append (.cons ru (r.drop _))) ?_,rfl,q⟩;rw[aI,cr,ci,bX];omega
theorem aad:MtM X "list.insert" (jH X.K .insert):=by
 intro pins s σ H x xs v us Q I rx rs h;obtain ⟨F,G,d,ds,r,rd,t,h⟩:=h;simp only[opM,rn]at h;split at h
 ·rename_i i y;obtain ⟨v1,r1,rfl,rv1,t⟩:=t;obtain ⟨v',rfl,rv⟩:=bA t;have e1:x=.ref _:=rd;subst e1;have e2:v1=.int i:=rv1;subst e2;split at h
  ·rename_i ds0 hg;obtain ⟨h1,h2,h3,h4⟩:=h;obtain ⟨vs,q,t'⟩:=r.lst hg;refine aac pins s σ H _ _ v us Q I rx rs ⟨_,vs,i,v',rfl,rfl,q,?_,h2,h3,?_⟩
   ·rw[<-t'.length];exact bi h1 szl
   ·exact h4 _ _ _ (lB r hg) (r.write hg ((t'.take _).append (Reps.cons rv (t'.drop _)))) rfl
  ·exact h.elim
 ·exact h.elim
theorem aae{K:PySem.W.Frag}{H:Hp}{F:FZ}{G:DH}{d:D}{v:V}{ds:List D}(r:R K H F G)(h:Rep K H F d v)(e:view G d=.lst ds):∃a vs,v=.ref a/\H a=some (.lst vs)/\Reps K H F ds vs:=by
 cases d with
 |lst xs=>
  have e':D.lst xs=.lst ds:=e;cases e';obtain ⟨a,vs,e1,q,t⟩:=h;exact ⟨a,vs,e1,q.2,t⟩
 |ref p=>
  have hv:v=.ref p:=h;unfold view at e;cases g:G p with
  |none=>simp only[g]at e;cases e
  |some o=>
   cases o with
   |lst xs=>
    simp only[g]at e;cases e;obtain ⟨vs,q,t⟩:=r.lst g;exact ⟨p,vs,hv,q,t⟩
 |_=>cases (show _=D.lst ds from e)
theorem aaf:MtM X "list.extend" (jH X.K .extend):=by
 intro pins s σ H x xs v us Q I rx rs h;obtain ⟨F,G,d,ds,r,rd,t,h⟩:=h;simp only[opM]at h;generalize ea:ds.map (view G)=va at h;simp only[rm]at h;split at h
 ·obtain ⟨d',rfl,ev⟩:=map_one ea;obtain ⟨v',rfl,rv⟩:=bA t;obtain ⟨b,vs2,e2,q2,t2⟩:=aae r rv ev;subst e2;have e1:x=.ref _:=rd;subst e1;split at h
  ·rename_i ds0 hg;obtain ⟨vs,q,t'⟩:=r.lst hg;refine WW pins s σ H _ _ v us Q I rx rs ⟨_,b,vs,vs2,rfl,rfl,q,q2,?_,?_⟩
   ·rw[<-t'.length,<-t2.length];exact Nat.le_of_lt (bi h.1 szl)
   ·exact h.2 _ _ _ (lB r hg) (r.write hg (t'.append t2)) rfl
  ·exact h.elim
 ·exact h.elim
theorem Ei:qI X (λo i x H Q=>∃F G a b c,R X.K H F G/\Rep X.K H F a o/\Rep X.K H F b i/\Rep X.K H F c x/\eV a b c G (λG'=>∀H' F',Ext H F H' F'->R X.K H' F' G'->Q H')):=by
 intro pins s σ H o i v ov iv u Q I ro ri rv h;obtain ⟨F,G,a,b,c,r,ra,rb,rc,h⟩:=h;unfold eV at h;split at h
 ·have e1:o=.ref _:=ra;have e2:i=.int _:=rb;subst e1;subst e2;split at h
  ·rename_i ds hg;obtain ⟨vs,q,t⟩:=r.lst hg;split at h
   ·rename_i j hj;refine set_list pins s σ H _ _ v ov iv u Q I ro ri rv ⟨_,vs,_,j,rfl,rfl,q,by rw[<-t.length];exact hj,?_⟩;exact h _ _ (lB r hg) (r.write hg (t.set rc j))
   ·exact h.elim
  ·exact h.elim
 ·exact h.elim
theorem Ej(op:Operator):PIp X op (λx y H Q=>∃F G a b,R X.K H F G/\Rep X.K H F a x/\Rep X.K H F b y/\dJ op a b (λd=>PV X.K H F Q d G)):=by
 intro pins s σ H x y v u Q I rx ry h;obtain ⟨F,G,a,b,r,ra,rb,h⟩:=h;unfold dJ at h;split at h
 ·have e1:x=.int _:=ra;have e2:y=.int _:=rb;subst e1;subst e2;exact VD pins s σ H _ _ v u Q I rx ry ⟨_,_,rfl,rfl,h.now r rfl⟩
 ·obtain ⟨e1,l1⟩:=ra;obtain ⟨e2,l2⟩:=rb;subst e1;subst e2;refine V1 pins s σ H _ _ v u Q I rx ry ⟨_,_,rfl,rfl,by rw[bM,bM];exact cN h.1,?_⟩;rw[qQ];exact h.2.now r ⟨rfl,by rw[aI];exact h.1⟩
 ·have e1:x=.int _:=ra;have e2:y=.int _:=rb;subst e1;subst e2;exact VF pins s σ H _ _ v u Q I rx ry ⟨_,_,rfl,rfl,h.now r rfl⟩
 ·exact h.elim
theorem aag:Bb X (λo i H Q=>∃F G a b,R X.K H F G/\Rep X.K H F a o/\Rep X.K H F b i/\cg (view G a) b (λd=>PV X.K H F Q d G)):=by
 intro pins s σ H o i ov iv Q I ro ri h;obtain ⟨F,G,a,b,r,ra,rb,h⟩:=h;generalize ea:view G a=va at h;have hn:=gw;unfold cg at h;split at h
 ·rename_i dd k;obtain ⟨p,vs,e,q,t⟩:=Rep.list r ra ea;subst e;have e2:i=.int _:=rb;subst e2;split at h
  ·rename_i d hd;obtain ⟨w,hw,rw'⟩:=ut t hd;cases ro;obtain ⟨tk,rfl⟩:=ri;obtain ⟨its,rv,pl,hz⟩:=I.list q;obtain ⟨j,h1,h2,h3,h4,h5⟩:=jl hw;obtain ⟨u,eu,ru⟩:=rv.get h2;have hl:=rv.length;have fin:EP X pins σ Q u s:=⟨w,H,I,ru,h.now r rw'⟩;by_cases h0:0<=k
   ·have hj:k.toNat=j:=by
     rw[seqIndex_of h0 h5]at h1;exact dn h1
    exact wpAny_getItem_list pl.isList h0 (by omega) (by rw[hj];simpa using eu) fin
   ·have hj:(k+(its.toArray.size:Int)).toNat=j:=by
     rw[seqIndex_neg (by omega) h4]at h1;rw[am,<-hl];exact dn h1
    exact wpAny_getItem_list_neg pl.isList (by omega) (by rw[am] <;> omega) (by omega) (by rw[hj];simpa using eu) fin
  ·exact h.elim
 ·cases fG ea;obtain ⟨p,vs,e,q,t⟩:=ra;subst e;have e2:i=.int _:=rb;subst e2;split at h
  ·rename_i d hd;obtain ⟨w,hw,rw'⟩:=ut t hd;cases ro;obtain ⟨tk,rfl⟩:=ri;obtain ⟨its,rv,pl,hz⟩:=I.tuple q.sq;obtain ⟨j,h1,h2,h3,h4,h5⟩:=jl hw;obtain ⟨u,eu,ru⟩:=rv.get h2;have hl:=rv.length;exact getItem_tuple (j:=j) pl (by omega) (by omega) (by rw[am,<-hl];exact h1) (by simpa using eu) ⟨w,H,I,ru,h.now r rw'⟩
  ·exact h.elim
 ·rename_i l k;cases fX ea;obtain ⟨e,hl⟩:=ra;subst e;have e2:i=.int _:=rb;subst e2;split at h
  ·rename_i c hc;obtain ⟨tk,rfl⟩:=ro;obtain ⟨tk',rfl⟩:=ri;obtain ⟨j,h1,h2,h3,h4,h5⟩:=jl hc;have hll:=cN hl;have e0:(tx l).length=l.length:=bM l;refine getItem_str (c:=c) (by
    have e1:decide (k < -(2 ^ 63:Int))=false:=bv (by omega);have e2:decide (k≥2 ^ 63)=false:=bv (by omega);rw[e1,e2,Bool.or_false]) (by rw[e0,h1];simpa using h2) ⟨.str (tx [c]),H,I.tok _,⟨_,rfl⟩,h.now r ⟨rfl,by show 1<=sz;decide⟩⟩
  ·exact h.elim
 ·exact h.elim
end
inductive SK where
 |lst (a:Addr) |tup (a:Addr) |str (x:Str) (t:Tok)
def SK.val:SK->Value
 |.lst a=>.ref a
 |.tup a=>.ref a
 |.str x t=>.str x t
def SK.cls:SK->String
 |.lst _=>"list_iterator"
 |.tup _=>"tuple_iterator"
 |.str x _=>strIterType x
def SK.obj(k:SK):Obj:={ cls:=.type k.cls,data:=.fields #[k.val,.int 0 0] }
def SK.pos(k:SK)(it:Addr)(i:Nat)(h:Heap):Prop:=∃o,h.get? it=some o/\o.cls=.type k.cls/\o.data=.fields #[k.val,.int i 0]
def SK.Sat(H:Hp)(vs:List V):SK->Prop
 |.lst a=>H a=some (.lst vs)
 |.tup a=>H a=some (.tup vs)
 |.str x _=>vs=x.cps.toList.map λc=>V.str ⟨#[c]⟩
def SK.No(e:Addr):SK->Prop
 |.lst a=>a≠e
 |.tup a=>a≠e
 |.str _ _=>True
theorem SK.Sat.no{H:Hp}{vs:List V}{k:SK}{e:Addr}(h:k.Sat H vs)(he:H e=none):k.No e:=by
 cases k with
 |lst a=>exact bu (show H a=some _ from h) he
 |tup a=>exact bu (show H a=some _ from h) he
 |str x t=>trivial
def SK.On(its:Array Value)(h:Heap):SK->Prop
 |.lst a=>h.IsList a its
 |.tup a=>h.IsTuple a its
 |.str _ _=>True
theorem SK.On.keeps{its:Array Value}{h h':Heap}{k:SK}(x:k.On its h)(kk:∀b o,k.val=.ref b->h.get? b=some o->h'.get? b=some o):k.On its h':=by
 cases k with
 |lst a=>obtain ⟨o,e,r⟩:=x;exact ⟨o,kk a o rfl e,r⟩
 |tup a=>obtain ⟨o,e,r⟩:=x;exact ⟨o,kk a o rfl e,r⟩
 |str _ _=>trivial
section
variable {prog:Program} {w:World} {A:Around} {E:Value->Shared->Prop} {s:Shared}
theorem SK.iter{k:SK}{its:Array Value}{Q:Value->Shared->Prop}(h:k.On its s.heap)(q:Q (.ref s.heap.objs.size) { s with heap:=s.heap.push k.obj }):wpAny (model prog w) A (pyIter k.val) Q E s:=by
 cases k with
 |lst a=>exact wpAny_pyIter_list h q
 |tup a=>exact wpAny_pyIter_tuple h q
 |str x t=>exact wpAny_pyIter_strU q
theorem SK.pos0{k:SK}{h:Heap}:k.pos h.objs.size 0 (h.push k.obj):=⟨_,bd _ rfl,rfl,rfl⟩
theorem SK.pos.keep{k:SK}{it:Addr}{i:Nat}{h h':Heap}(x:k.pos it i h)(kk:∀o,h.get? it=some o->h'.get? it=some o):k.pos it i h':=let ⟨o,e,r⟩:=x;⟨o,kk o e,r⟩
theorem aah{it t:Addr}{i:Nat}{items}{x:Value}{Q:Value->Shared->Prop}(hit:s.heap.IsTupleIter it t i)
  (ht:s.heap.IsTuple t items) (hx:items[i]?=some x)
  (hQ:∀h',h'.IsTupleIter it t (i+1)->Heap.SameBut it s.heap h'->Q x { s with heap:=h' }):
  wpAny (model prog w) A (Builtin.SmallTypes.nextOf (.ref it)) Q E s:=by
 obtain ⟨o,ho,hc,hd⟩:=id hit;obtain ⟨ol,hol,_,nl,hdl⟩:=ht;unfold Builtin.SmallTypes.nextOf;refine ag (eW (name:=Str.ofString "__next__") hit.typeIs fq
  (fw fq hit.typeIs F.entry_tuple_iterator_next ?_ (F.args_tuple_iterator_next_1 _)))
 show wpAny _ _ (field (.ref it) 0 >>= _) _ _ s;refine ag (dE ho hd (x:=.ref t) rfl ?_);show wpAny _ _ (if (Value.ref t==Value.none)=true then _ else _) _ _ s;rw[if_neg (show ¬((Value.ref t==Value.none)=true) from br)];show wpAny _ _ (field (.ref it) 1 >>= _) _ _ s;refine ag (dE ho hd (x:=.int i 0) rfl ?_);show wpAny _ _ (seqItems? (.ref t) >>= _) _ _ s;refine ag (eJ hol hdl ?_);simp only[ce,hx];refine ag (wpAny_setField ho hd (by simp) (a8 ⟨x,rfl,a8 (hQ _ ?_ (Heap.SameBut.update ..))⟩));exact ⟨_,Heap.get?_update_self _ ho (Obj.isFreed_of_fields (Obj.data_mapFields hd _)),(Obj.cls_mapFields ..).trans hc,by
  rw[Obj.data_mapFields hd];simp[rawInt]⟩
theorem aai{it t:Addr}{i:Nat}{items}{Q:Value->Shared->Prop}(hh:A.handled=none)
  (hit:s.heap.IsTupleIter it t i) (ht:s.heap.IsTuple t items) (hx:items[i]?=none)
  (hE:∀h' e,Heap.ExtBut it s.heap h'->(∃o,h'.get? e=some o/\o.cls=.type "StopIteration")->E (.ref e) { s with heap:=h' }):
  wpAny (model prog w) A (Builtin.SmallTypes.nextOf (.ref it)) Q E s:=by
 obtain ⟨o,ho,hc,hd⟩:=id hit;obtain ⟨ol,hol,_,nl,hdl⟩:=ht;unfold Builtin.SmallTypes.nextOf;refine ag (eW (name:=Str.ofString "__next__") hit.typeIs fq
  (fw fq hit.typeIs F.entry_tuple_iterator_next ?_ (F.args_tuple_iterator_next_1 _)))
 show wpAny _ _ (field (.ref it) 0 >>= _) _ _ s;refine ag (dE ho hd (x:=.ref t) rfl ?_);show wpAny _ _ (if (Value.ref t==Value.none)=true then _ else _) _ _ s;rw[if_neg (show ¬((Value.ref t==Value.none)=true) from br)];show wpAny _ _ (field (.ref it) 1 >>= _) _ _ s;refine ag (dE ho hd (x:=.int i 0) rfl ?_);show wpAny _ _ (seqItems? (.ref t) >>= _) _ _ s;refine ag (eJ hol hdl ?_);simp only[ce,hx];refine ag (fR (ag (wpAny_setField ho hd (by simp) ?_)));show wpAny _ _ (newExc (.type "StopIteration") [] >>= _) _ _ _;refine ag ?_;simp only[newExc,newTuple];refine ag (wpAny_newObj_type ?_ (by size_fits));refine ag (m:=firstArgMember _ _) (wpAny_of_eq (a:=Value.none) (by first |rfl | (simp only[firstArgMember];rfl)) ?_);refine wpAny_newObj_type ?_ (by size_fits);simp only[raiseNew];refine ag (wpAny_handled ?_);first |rw[show A.in1.handled=none from hh] |rw[hh]
 refine ag (a8 (wpAny_throw ?_));exact hE _ _ (((Heap.SameBut.update ..).extBut.push _).push _) ⟨_,bd _ rfl,rfl⟩
theorem aaj(hh:A.handled=none)(it l:Addr)(hne:l≠it)(items:Array Value):
  Draws prog w A it [it,l] items.size (λi v=>items[i]?=some v) (λi h=>h.IsTupleIter it l i/\h.IsTuple l items) where
 live:=λ_ _ st=>let ⟨o,ho,_⟩:=st.1;⟨o,ho⟩
 frame:=λ_ _ _ st hk=>⟨let ⟨o,e,r⟩:=st.1;⟨o,hk it (by simp) o e,r⟩,let ⟨o,e,r⟩:=st.2;⟨o,hk l (by simp) o e,r⟩⟩
 item:=λi s Q E hi st hQ=>by
  refine aah st.1 st.2 (x:=items[i]) (by simp[hi]) λh' hit' hs'=>?_;exact hQ _ h' s.toks (by simp[hi]) ⟨hit',let ⟨o,e,r⟩:=st.2;⟨o,hs'.extBut l o hne e,r⟩⟩ hs'
 done:=λs Q E st hE=>aai hh st.1 st.2 (by simp) hE
end
structure Drawn(P:Program)(w:World)(A:Around)(k:SK)(it:Addr)(i:Nat)(vs:List V)(h:Heap)(fp:List Addr)(Pd:Nat->Value->Prop)(S:Nat->Heap->Prop):Prop where
 D:Draws P w A it fp vs.length Pd S
 st:S i h
 val:∀j v,Pd j v->∃x,vs[j]?=some x/\RelV x v
 pos:∀j h,S j h->k.pos it j h
 fp:∀b∈fp,b=it\/k.val=.ref b
theorem drawn{X:Cx}{pins:List (Addr×Obj)}{σ:L2.St}{H:Hp}{s:Shared}{A:Around}(hh:A.handled=none)(I:Inv X pins σ H s){k:SK}{it:Addr}{i:Nat}{vs:List V}(sat:k.Sat H vs)(hit:H it=none)(p:k.pos it i s.heap):
  ∃fp Pd S,Drawn X.prog X.w A k it i vs s.heap fp Pd S:=by
 cases k with
 |lst a=>
  have sat:H a=some (.lst vs):=sat;obtain ⟨its,r,pl,_⟩:=I.list (SqL.of sat);refine ⟨[it,a],λj v=>its.toArray[j]?=some v,λj h=>h.IsListIter it a j/\h.IsList a its.toArray,?_,⟨p,pl.isList⟩,?_,λj h st=>st.1,?_⟩
  ·have D:=Draws.list (prog:=X.prog) (w:=X.w) hh it a (bu sat hit) its.toArray;rw[am,<-r.length]at D;exact D
  ·intro j v e;have e:its.toArray[j]?=some v:=e;have hj:j < vs.length:=by
    rw[r.length];have:=(fi.mp e).1;simpa using this
   obtain ⟨u,e2,r2⟩:=r.get (show vs[j]?=some vs[j] by simp[hj]);refine ⟨vs[j],by simp[hj],?_⟩;have:its[j]?=some v:=by simpa using e
   rw[this]at e2;cases e2;exact r2
  ·intro b hb;have hb:b=it\/b=a:=by simpa using hb
   rcases hb with e |e
   ·exact .inl e
   ·exact .inr (by rw[e];rfl)
 |tup a=>
  have sat:H a=some (.tup vs):=sat;obtain ⟨its,r,pl,_⟩:=I.tuple (SqT.of sat);refine ⟨[it,a],λj v=>its.toArray[j]?=some v,λj h=>h.IsTupleIter it a j/\h.IsTuple a its.toArray,?_,⟨p,pl⟩,?_,λj h st=>st.1,?_⟩
  ·have D:=aaj (prog:=X.prog) (w:=X.w) hh it a (bu sat hit) its.toArray;rw[am,<-r.length]at D;exact D
  ·intro j v e;have e:its.toArray[j]?=some v:=e;have hj:j < vs.length:=by
    rw[r.length];have:=(fi.mp e).1;simpa using this
   obtain ⟨u,e2,r2⟩:=r.get (show vs[j]?=some vs[j] by simp[hj]);refine ⟨vs[j],by simp[hj],?_⟩;have:its[j]?=some v:=by simpa using e
   rw[this]at e2;cases e2;exact r2
  ·intro b hb;have hb:b=it\/b=a:=by simpa using hb
   rcases hb with e |e
   ·exact .inl e
   ·exact .inr (by rw[e];rfl)
 |str x t=>
  have sat:vs=x.cps.toList.map λc=>V.str ⟨#[c]⟩:=sat;refine ⟨[it],λi v=>∃c u,x.cps[i]?=some c/\v=.str ⟨#[c]⟩ u,λi h=>h.IsStrIter it (strIterType x) x t i,?_,p,?_,λj h st=>st,?_⟩
  ·have D:=Xi (prog:=X.prog) (w:=X.w) hh it x t;have e:x.cps.size=vs.length:=by rw[sat,ah,dv]
   rw[e]at D;exact D
  ·rintro j v ⟨c,u,e1,e2⟩;refine ⟨V.str ⟨#[c]⟩,?_,u,e2⟩;rw[sat,a9,fe,e1];rfl
  ·intro b hb;exact .inl (by simpa using hb)
def Jk(k:SK):It:=⟨λi H=>∃vs,k.Sat H vs/\i < vs.length,λi H x H'=>H'=H/\∀vs,k.Sat H vs->vs[i]?=some x,λi H=>∃vs,k.Sat H vs/\vs.length=i⟩
def Je(k:SK):It:=⟨λi H=>∃vs,k.Sat H vs/\i < vs.length,λi H x H'=>∃T y,H T=none/\x=.ref T/\H'=upd H T (.tup [.int i,y])/\∀vs,k.Sat H vs->vs[i]?=some y,λi H=>∃vs,k.Sat H vs/\vs.length=i⟩
theorem xY{H:Hp}{k:SK}{vs ws:List V}(h:k.Sat H vs)(h':k.Sat H ws):vs=ws:=by
 cases k with
 |lst a=>have e:=(show H a=some _ from h).symm.trans h';cases e;rfl
 |tup a=>have e:=(show H a=some _ from h).symm.trans h';cases e;rfl
 |str x t=>exact (show vs=_ from h).trans (show ws=_ from h').symm
theorem aak{P:Program}{w:World}{K:PySem.W.Frag}{elts:List Expr}{x1:Nat}{pos:Pos}(k:SK)(e it:Addr)(hne:e≠it):
  Turn P w K (.Tuple elts x1 pos) (Je k) [e,it] e (λi h=>(∃old,IsEnum h e it i old)/\k.pos it i h) where
 mem:=by simp
 obj:=λi h st b hb=>by
  obtain ⟨⟨old,he⟩,o,ho,c,d⟩:=st;have hb:b=e\/b=it:=by simpa using hb
  rcases hb with rfl |rfl
  ·exact ⟨_,he,λv z=>by have z':Data.fields _=Data.cell v:=z;cases z'⟩
  ·exact ⟨o,ho,λv z=>by rw[d]at z;cases z⟩
 keep:=λi h h' st kk=>⟨let ⟨old,he⟩:=st.1;⟨old,kk e (by simp) _ he⟩,st.2.keep λo ho=>kk it (by simp) o ho⟩
 item:=by
  intro X hP hw hK hc i pins s σ H E I hf st hg;subst hP hw hK;obtain ⟨vs,sat,hi⟩:=hg;obtain ⟨⟨old,he⟩,hit⟩:=st;have hfe:=hf e (by simp);have hfi:=hf it (by simp);obtain ⟨fp,Pd,S,Dr⟩:=drawn (A:=X.A.in1) (I.ok.hd hc) I sat hfi.1 hit;have helt:e < s.heap.objs.size:=ax he;have hef:e∉fp:=λhb=>by
   rcases Dr.fp e hb with z |z
   ·exact hne z
   ·have:=sat.no hfe.1;cases k with
    |lst a=>cases z;exact this rfl
    |tup a=>cases z;exact this rfl
    |str _ _=>cases z
  refine wpAny_pyNext_enum_itemD Dr.D he Dr.st hi hne hef λu h1 tk hu heo hit1 ht1 hz1 hk1=>?_;obtain ⟨x,hx,ru⟩:=Dr.val _ _ hu;refine ⟨_,rfl,?_⟩;refine wpAny_letOwnedTupleGo_enum heo λh2 he2 hs2=>?_;have hs2':Heap.SameBut e h1 h2:=hs2;have hn:H s.heap.objs.size=none:=I.hok.fresh (aw _);have k2:∀b o,b∉[e,it]->s.heap.get? b=some o->h2.get? b=some o:=λb o hb q=>by
   have hb':b≠e/\b≠it:=by simpa using hb
   exact hs2'.extBut b o hb'.1 (hk1 b o hb'.1 hb'.2 q)
  have I2:Inv X pins σ H { s with heap:=h2,toks:=tk+1 }:=I.turnedL hf k2;have ht2:h2.get? s.heap.objs.size=some { cls:=.type "tuple",data:=.seq #[.int i tk,u] }:=hs2'.extBut _ _ (fE helt) ht1;have ob:ObjOk X.prog X.w (upd H s.heap.objs.size (.tup [.int i,x])) h2 s.heap.objs.size (.tup [.int i,x]):=
   ⟨by rw[fo];simp,[.int i tk,u],.cons ⟨_,rfl⟩ (.cons ru .nil),⟨_,ht2,rfl,_,rfl⟩⟩
  have I3:=I2.track (I.fpOk (aw _) hn) ob;have nee:s.heap.objs.size≠e:=fE helt;have nei:s.heap.objs.size≠it:=by obtain ⟨o,ho,_⟩:=hit;exact fE (ax ho)
  refine ⟨.ref s.heap.objs.size,_,I3,rfl,⟨s.heap.objs.size,x,hn,rfl,rfl,λys hy=>by rw[xY hy sat];exact hx⟩,⟨⟨u,?_⟩,?_⟩,λb hb=>?_⟩
  ·show IsEnum h2 e it (((i+1:Nat)):Int) u;rw[show (((i+1:Nat):Int))=(i:Int)+1 by omega];exact he2
  ·exact (Dr.pos _ _ hit1).keep λo ho=>hs2'.extBut _ _ (Ne.symm hne) ho
  ·have hb':b=e\/b=it:=by simpa using hb
   rw[aK (by rcases hb' with rfl |rfl;exact Ne.symm nee;exact Ne.symm nei)];exact (hf b hb).1
 done:=by
  intro X hP hw hK hc i pins s σ H E I hf st hg;subst hP hw hK;obtain ⟨vs,sat,hi⟩:=hg;subst hi;obtain ⟨⟨old,he⟩,hit⟩:=st;have hfi:=hf it (by simp);obtain ⟨fp,Pd,S,Dr⟩:=drawn (A:=X.A.in1) (I.ok.hd hc) I sat hfi.1 hit;refine wpAny_pyNext_enum_endD Dr.D he Dr.st λh' eb=>⟨rfl,I.turnedL (t':=s.toks) hf λb o hb q=>?_⟩;have hb':b≠e/\b≠it:=by simpa using hb
  exact eb b o hb'.2 q
 self:=λA i s Q E st h=>by
  obtain ⟨⟨old,he⟩,_⟩:=st;exact wpAny_pyIter_enum he h
theorem aal{P:Program}{w:World}{K:PySem.W.Frag}{tg:Expr}(k:SK)(it:Addr):Turn P w K tg (Jk k) [it] it (λi h=>k.pos it i h) where
 mem:=by simp
 obj:=λi h st b hb=>by
  have e:b=it:=by simpa using hb
  subst e;obtain ⟨o,e,c,d⟩:=st;exact ⟨o,e,λv z=>by rw[d]at z;cases z⟩
 keep:=λi h h' st kk=>st.keep λo e=>kk it (by simp) o e
 item:=by
  intro X hP hw hK hc i pins s σ H E I hf st hg;obtain ⟨vs,sat,hi⟩:=hg;have hfi:=hf it (by simp);cases k with
  |lst a=>
   have sat':H a=some (.lst vs):=sat;refine cw ((Bc (tg:=tg) a it).item X hP hw hK hc i pins s σ H E I hf st ⟨vs,vs[i],SqL.of sat',by simp[hi]⟩) ?_ (λ_ _ e=>e);rintro r s1 ⟨u,hr,h1⟩;refine ⟨u,hr,cw h1 ?_ (λ_ _ e=>e)⟩;rintro _ s2 ⟨x,H',I',rx,⟨e1,e2⟩,st',fr⟩;exact ⟨x,H',I',rx,⟨e1,λws hw'=>e2 ws (SqL.of (show H a=some (.lst ws) from hw'))⟩,st',fr⟩
  |tup a=>
   have sat':H a=some (.tup vs):=sat;refine cw ((Bd (tg:=tg) a it).item X hP hw hK hc i pins s σ H E I hf st ⟨vs,vs[i],SqT.of sat',by simp[hi]⟩) ?_ (λ_ _ e=>e);rintro r s1 ⟨u,hr,h1⟩;refine ⟨u,hr,cw h1 ?_ (λ_ _ e=>e)⟩;rintro _ s2 ⟨x,H',I',rx,⟨e1,e2⟩,st',fr⟩;exact ⟨x,H',I',rx,⟨e1,λws hw'=>e2 ws (SqT.of (show H a=some (.tup ws) from hw'))⟩,st',fr⟩
  |str y t=>
   have sat':vs=y.cps.toList.map λc=>V.str ⟨#[c]⟩:=sat;have hlen:vs.length=y.cps.size:=by rw[sat',ah,dv]
   refine cw ((wz (tg:=tg) it y t).item X hP hw hK hc i pins s σ H E I hf st (show i < y.cps.size by omega)) ?_ (λ_ _ e=>e);rintro r s1 ⟨u,hr,h1⟩;refine ⟨u,hr,cw h1 ?_ (λ_ _ e=>e)⟩;rintro _ s2 ⟨x,H',I',rx,⟨e1,c,e2,e3⟩,st',fr⟩;refine ⟨x,H',I',rx,⟨e1,λws hw'=>?_⟩,st',fr⟩;have hw':ws=y.cps.toList.map λc=>V.str ⟨#[c]⟩:=hw';rw[hw',e3,a9,fe,e2];rfl
 done:=by
  intro X hP hw hK hc i pins s σ H E I hf st hg;obtain ⟨vs,sat,hi⟩:=hg;cases k with
  |lst a=>exact (Bc (tg:=tg) a it).done X hP hw hK hc i pins s σ H E I hf st ⟨vs,SqL.of (show H a=some (.lst vs) from sat),by omega⟩
  |tup a=>exact (Bd (tg:=tg) a it).done X hP hw hK hc i pins s σ H E I hf st ⟨vs,SqT.of (show H a=some (.tup vs) from sat),by omega⟩
  |str y t=>
   have sat':vs=y.cps.toList.map λc=>V.str ⟨#[c]⟩:=sat;have hlen:vs.length=y.cps.size:=by rw[sat',ah,dv]
   exact (wz (tg:=tg) it y t).done X hP hw hK hc i pins s σ H E I hf st (show i=y.cps.size by omega)
 self:=λA i s Q E st h=>by
  cases k with
  |lst a=>exact wpAny_pyIter_listiter st h
  |tup a=>exact wpAny_pyIter_tupleiter st h
  |str y t=>exact (wz (K:=K) (tg:=tg) it y t).self A i s Q E st h
open Builtin Builtin.Str
section
variable {prog:Program} {w:World} {A:Around} {E:Value->Shared->Prop} {s:Shared}
theorem aam{z TI TO i1 i2:Addr}{k n1 n2:Nat}{fp1 fp2:List Addr}{P1 P2:Nat->Value->Prop}{S1 S2:Nat->Heap->Prop}{a b:Value}{Q:Value->Shared->Prop}(D:ZApart z TI TO i1 i2)
  (D1:Draws prog w A i1 fp1 n1 P1 S1) (D2:Draws prog w A i2 fp2 n2 P2 S2) (f1:∀c∈fp1,c≠z/\c≠TO/\c≠i2) (f2:∀c∈fp2,c≠z/\c≠TO/\c≠i1)
  (hz:IsZip s.heap z TI TO .none) (hTI:IsPair s.heap TI (.ref i1) (.ref i2)) (hTO:IsPair s.heap TO a b)
  (h1:S1 k s.heap) (h2:S2 k s.heap) (hx:k < n1) (hy:k < n2)
  (hQ:∀h' tk c d,P1 k c->P2 k d->IsZip h' z TI TO (rawInt s.heap.objs.size)->IsPair h' TO c d->S1 (k+1) h'->S2 (k+1) h'->
   IsPair h' s.heap.objs.size c d->h'.objs.size=s.heap.objs.size+1->
   (∀c o,c≠z->c≠TO->c≠i1->c≠i2->s.heap.get? c=some o->h'.get? c=some o)->Q (.ref s.heap.objs.size) { s with heap:=h',toks:=tk }):
  wpAny (model prog w) A (Builtin.«zip.__next__» ⟨[.ref z],[]⟩) (λfin s'=>∃v,fin=.done (.ret v)/\Q v s') E s:=by
 have e1:∀{h h':Heap}{c:Addr}{j:Nat},S1 j h->Heap.ExtBut c h h'->(∀b∈fp1,b≠c)->S1 j h':=λq e n=>D1.frame _ _ _ q λb hb o y=>e b o (n b hb) y;have e2:∀{h h':Heap}{c:Addr}{j:Nat},S2 j h->Heap.ExtBut c h h'->(∀b∈fp2,b≠c)->S2 j h':=λq e n=>D2.frame _ _ _ q λb hb o y=>e b o (n b hb) y;have z1:∀b∈fp1,b≠z:=λb hb=>(f1 b hb).1;have t1:∀b∈fp1,b≠TO:=λb hb=>(f1 b hb).2.1;have j1:∀b∈fp1,b≠i2:=λb hb=>(f1 b hb).2.2;have z2:∀b∈fp2,b≠z:=λb hb=>(f2 b hb).1;have t2:∀b∈fp2,b≠TO:=λb hb=>(f2 b hb).2.1;have j2:∀b∈fp2,b≠i1:=λb hb=>(f2 b hb).2.2;show wpAny _ _ (field (.ref z) 2 >>= _) _ _ _;refine ag (dE hz rfl (x:=.bool false) rfl ?_);show wpAny _ _ (field (.ref z) 3 >>= _) _ _ _;refine ag (dE hz rfl (x:=.ref TI) rfl ?_);refine ag (eJ hTI rfl ?_);show wpAny _ _ (Builtin.SmallTypes.ownedTupleIsFree (.ref z) >>= _) _ _ _;refine ag ?_;unfold Builtin.SmallTypes.ownedTupleIsFree;refine ag (dE hz rfl (x:=.none) rfl (a8 ?_));simp only[if_true];refine ag (fR ?_);refine ag (dE hz rfl (x:=.ref TO) rfl ?_);refine ag (eI hz (by simp) λh₁ hz₁ hs₁=>?_);replace hz₁:IsZip h₁ z TI TO .ellipsis:=hz₁;replace hs₁:Heap.SameBut z s.heap h₁:=hs₁;refine ag ?_;simp only[List.zipIdx_cons,List.zipIdx_nil,List.forIn_cons,List.forIn_nil];refine ag (ag (wpAny_onRaise ?_));show wpAny _ _ (Builtin.SmallTypes.nextOf (.ref i1) >>= _) _ _ _;refine ag (D1.item k _ _ _ hx (e1 h1 hs₁.extBut z1) λc h₂ tk₂ hc h1₂ hs₂=>a8 ?_);replace hs₂:Heap.SameBut i1 h₁ h₂:=hs₂;have hTO₂:IsPair h₂ TO a b:=hs₂.extBut _ _ D.TOi1 (hs₁.extBut _ _ D.TOz hTO);refine ag (eJ hTO₂ rfl ?_);refine ag (wpAny_updateSeq_pair hTO₂ λh₃ hTO₃ hs₃=>?_);replace hTO₃:IsPair h₃ TO c b:=hTO₃;replace hs₃:Heap.SameBut TO h₂ h₃:=hs₃;refine ag (wpAny_letGo (a8 ?_));refine ag (ag (wpAny_onRaise ?_));show wpAny _ _ (Builtin.SmallTypes.nextOf (.ref i2) >>= _) _ _ _;refine ag (D2.item k _ _ _ hy (e2 (e2 (e2 h2 hs₁.extBut z2) hs₂.extBut j2) hs₃.extBut t2) λd h₄ tk₄ hd h2₄ hs₄=>a8 ?_);replace hs₄:Heap.SameBut i2 h₃ h₄:=hs₄;have hTO₄:IsPair h₄ TO c b:=hs₄.extBut _ _ D.TOi2 hTO₃;refine ag (eJ hTO₄ rfl ?_);refine ag (wpAny_updateSeq_pair hTO₄ λh₅ hTO₅ hs₅=>?_);replace hTO₅:IsPair h₅ TO c d:=hTO₅;replace hs₅:Heap.SameBut TO h₄ h₅:=hs₅;refine ag (wpAny_letGo (a8 (a8 ?_)));refine ag (eJ hTO₅ rfl ?_);refine ag (wpAny_newTuple ?_);have hsz:h₅.objs.size=s.heap.objs.size:=by rw[hs₅.1,hs₄.1,hs₃.1,hs₂.1,hs₁.1]
 have hz₅:IsZip h₅ z TI TO .ellipsis:=hs₅.extBut _ _ D.TOz.symm (hs₄.extBut _ _ D.i2z.symm (hs₃.extBut _ _ D.TOz.symm (hs₂.extBut _ _ D.i1z.symm hz₁)));have hk₅:∀c o,c≠z->c≠TO->c≠i1->c≠i2->s.heap.get? c=some o->h₅.get? c=some o:=λc o c1 c2 c3 c4 e=>
  hs₅.extBut _ _ c2 (hs₄.extBut _ _ c4 (hs₃.extBut _ _ c2 (hs₂.extBut _ _ c3 (hs₁.extBut _ _ c1 e))))
 have h1₅:S1 (k+1) h₅:=e1 (e1 (e1 h1₂ hs₃.extBut t1) hs₄.extBut j1) hs₅.extBut t1;have h2₅:S2 (k+1) h₅:=e2 h2₄ hs₅.extBut t2;have hzlt:z < h₅.objs.size:=ax hz₅;show wpAny _ _ (Builtin.SmallTypes.ownedTupleHandOut (.ref z) (.ref h₅.objs.size) >>= _) _ _ _;refine ag ?_;unfold Builtin.SmallTypes.ownedTupleHandOut;have hz₆:IsZip (h₅.push { cls:=.type "tuple",data:=.seq #[c,d] }) z TI TO .ellipsis:=al _ hz₅;refine ag (eI hz₆ (by simp) λh₇ hz₇ hs₇=>?_);replace hz₇:IsZip h₇ z TI TO (rawInt h₅.objs.size):=hz₇;refine eI hz₇ (by simp) λh₈ hz₈ hs₈=>?_;replace hz₈:IsZip h₈ z TI TO (rawInt h₅.objs.size):=hz₈;have up:∀c o,c≠z->h₅.get? c=some o->h₈.get? c=some o:=λc o c1 e=>hs₈.extBut _ _ c1 (hs₇.extBut _ _ c1 (al _ e));have hT₈:IsPair h₈ h₅.objs.size c d:=hs₈.extBut _ _ (fE hzlt) (hs₇.extBut _ _ (fE hzlt) (bd _ rfl));have hz8:h₈.objs.size=h₅.objs.size+1:=by rw[hs₈.1,hs₇.1,eh]
 rw[hsz]at hz₈ hT₈ hz8;refine a8 ⟨_,rfl,?_⟩;show Q (.ref h₅.objs.size) _;rw[hsz];exact hQ h₈ tk₄ c d hc hd hz₈ (up _ _ D.TOz hTO₅) (D1.frame _ _ _ h1₅ λb hb o y=>up b o (z1 b hb) y) (D2.frame _ _ _ h2₅ λb hb o y=>up b o (z2 b hb) y) hT₈ hz8 λc o c1 c2 c3 c4 e=>up c o c1 (hk₅ c o c1 c2 c3 c4 e)
theorem aan{z TI TO i1 i2:Addr}{n1:Nat}{fp1:List Addr}{P1:Nat->Value->Prop}{S1:Nat->Heap->Prop}{a b:Value}{Q:Fin->Shared->Prop}(D:ZApart z TI TO i1 i2)
  (D1:Draws prog w A i1 fp1 n1 P1 S1) (f1:∀c∈fp1,c≠z)
  (hz:IsZip s.heap z TI TO .none) (hTI:IsPair s.heap TI (.ref i1) (.ref i2)) (hTO:IsPair s.heap TO a b) (h1:S1 n1 s.heap)
  (hE:∀h' e,(∀c o,c≠z->c≠TO->c≠i1->c≠i2->s.heap.get? c=some o->h'.get? c=some o)->(∃o,h'.get? e=some o/\o.cls=.type "StopIteration")->E (.ref e) { s with heap:=h' }):
  wpAny (model prog w) A (Builtin.«zip.__next__» ⟨[.ref z],[]⟩) Q E s:=by
 show wpAny _ _ (field (.ref z) 2 >>= _) _ _ _;refine ag (dE hz rfl (x:=.bool false) rfl ?_);show wpAny _ _ (field (.ref z) 3 >>= _) _ _ _;refine ag (dE hz rfl (x:=.ref TI) rfl ?_);refine ag (eJ hTI rfl ?_);show wpAny _ _ (Builtin.SmallTypes.ownedTupleIsFree (.ref z) >>= _) _ _ _;refine ag ?_;unfold Builtin.SmallTypes.ownedTupleIsFree;refine ag (dE hz rfl (x:=.none) rfl (a8 ?_));simp only[if_true];refine ag (fR ?_);refine ag (dE hz rfl (x:=.ref TO) rfl ?_);refine ag (eI hz (by simp) λh₁ hz₁ hs₁=>?_);replace hz₁:IsZip h₁ z TI TO .ellipsis:=hz₁;replace hs₁:Heap.SameBut z s.heap h₁:=hs₁;refine ag ?_;simp only[List.zipIdx_cons,List.zipIdx_nil,List.forIn_cons,List.forIn_nil];refine ag (ag (wpAny_onRaise ?_));show wpAny _ _ (Builtin.SmallTypes.nextOf (.ref i1) >>= _) _ _ _;refine ag (D1.done _ _ _ (D1.frame _ _ _ h1 λb hb o y=>hs₁.extBut b o (f1 b hb) y) λh₂ e hs₂ he=>?_);obtain ⟨oe,hoe,hce⟩:=he;have hz₂:IsZip h₂ z TI TO .ellipsis:=hs₂ _ _ D.i1z.symm hz₁;have hez:e≠z:=λx=>by subst x;rw[hz₂]at hoe;cases hoe;simp at hce
 refine eI hz₂ (by simp) λh₃ _ hs₃=>hE h₃ e (λc o c1 _ c3 _ x=>hs₃.extBut _ _ c1 (hs₂ _ _ c3 (hs₁.extBut _ _ c1 x))) ⟨oe,hs₃.extBut _ _ hez hoe,hce⟩
theorem aao{z TI TO i1 i2:Addr}{k n1 n2:Nat}{fp1 fp2:List Addr}{P1 P2:Nat->Value->Prop}{S1 S2:Nat->Heap->Prop}{a b:Value}{Q:Fin->Shared->Prop}(D:ZApart z TI TO i1 i2)
  (D1:Draws prog w A i1 fp1 n1 P1 S1) (D2:Draws prog w A i2 fp2 n2 P2 S2) (f1:∀c∈fp1,c≠z/\c≠TO/\c≠i2) (f2:∀c∈fp2,c≠z/\c≠TO/\c≠i1)
  (hz:IsZip s.heap z TI TO .none) (hTI:IsPair s.heap TI (.ref i1) (.ref i2)) (hTO:IsPair s.heap TO a b) (h1:S1 k s.heap) (h2:S2 k s.heap) (hx:k < n1) (hy:k=n2)
  (hE:∀h' tk e,(∀c o,c≠z->c≠TO->c≠i1->c≠i2->s.heap.get? c=some o->h'.get? c=some o)->(∃o,h'.get? e=some o/\o.cls=.type "StopIteration")->E (.ref e) { s with heap:=h',toks:=tk }):
  wpAny (model prog w) A (Builtin.«zip.__next__» ⟨[.ref z],[]⟩) Q E s:=by
 have e1:∀{h h':Heap}{c:Addr}{j:Nat},S1 j h->Heap.ExtBut c h h'->(∀b∈fp1,b≠c)->S1 j h':=λq e n=>D1.frame _ _ _ q λb hb o y=>e b o (n b hb) y;have e2:∀{h h':Heap}{c:Addr}{j:Nat},S2 j h->Heap.ExtBut c h h'->(∀b∈fp2,b≠c)->S2 j h':=λq e n=>D2.frame _ _ _ q λb hb o y=>e b o (n b hb) y;have z1:∀b∈fp1,b≠z:=λb hb=>(f1 b hb).1;have z2:∀b∈fp2,b≠z:=λb hb=>(f2 b hb).1;have t2:∀b∈fp2,b≠TO:=λb hb=>(f2 b hb).2.1;have j2:∀b∈fp2,b≠i1:=λb hb=>(f2 b hb).2.2;show wpAny _ _ (field (.ref z) 2 >>= _) _ _ _;refine ag (dE hz rfl (x:=.bool false) rfl ?_);show wpAny _ _ (field (.ref z) 3 >>= _) _ _ _;refine ag (dE hz rfl (x:=.ref TI) rfl ?_);refine ag (eJ hTI rfl ?_);show wpAny _ _ (Builtin.SmallTypes.ownedTupleIsFree (.ref z) >>= _) _ _ _;refine ag ?_;unfold Builtin.SmallTypes.ownedTupleIsFree;refine ag (dE hz rfl (x:=.none) rfl (a8 ?_));simp only[if_true];refine ag (fR ?_);refine ag (dE hz rfl (x:=.ref TO) rfl ?_);refine ag (eI hz (by simp) λh₁ hz₁ hs₁=>?_);replace hz₁:IsZip h₁ z TI TO .ellipsis:=hz₁;replace hs₁:Heap.SameBut z s.heap h₁:=hs₁;refine ag ?_;simp only[List.zipIdx_cons,List.zipIdx_nil,List.forIn_cons,List.forIn_nil];refine ag (ag (wpAny_onRaise ?_));show wpAny _ _ (Builtin.SmallTypes.nextOf (.ref i1) >>= _) _ _ _;refine ag (D1.item k _ _ _ hx (e1 h1 hs₁.extBut z1) λc h₂ tk₂ hc h1₂ hs₂=>a8 ?_);replace hs₂:Heap.SameBut i1 h₁ h₂:=hs₂;have hTO₂:IsPair h₂ TO a b:=hs₂.extBut _ _ D.TOi1 (hs₁.extBut _ _ D.TOz hTO);refine ag (eJ hTO₂ rfl ?_);refine ag (wpAny_updateSeq_pair hTO₂ λh₃ hTO₃ hs₃=>?_);replace hs₃:Heap.SameBut TO h₂ h₃:=hs₃;refine ag (wpAny_letGo (a8 ?_));refine ag (ag (wpAny_onRaise ?_));show wpAny _ _ (Builtin.SmallTypes.nextOf (.ref i2) >>= _) _ _ _;subst hy;refine ag (D2.done _ _ _ (e2 (e2 (e2 h2 hs₁.extBut z2) hs₂.extBut j2) hs₃.extBut t2) λh₄ e hs₄ he=>?_);obtain ⟨oe,hoe,hce⟩:=he;have hz₄:IsZip h₄ z TI TO .ellipsis:=hs₄ _ _ D.i2z.symm (hs₃.extBut _ _ D.TOz.symm (hs₂.extBut _ _ D.i1z.symm hz₁));have hez:e≠z:=λx=>by subst x;rw[hz₄]at hoe;cases hoe;simp at hce
 refine eI hz₄ (by simp) λh₅ _ hs₅=>hE h₅ tk₂ e (λc o c1 c2 c3 c4 x=>hs₅.extBut _ _ c1 (hs₄ _ _ c4 (hs₃.extBut _ _ c2 (hs₂.extBut _ _ c3 (hs₁.extBut _ _ c1 x))))) ⟨oe,hs₅.extBut _ _ hez hoe,hce⟩
end
def Jz(k l:SK):It:=⟨λi H=>∃vs ws,k.Sat H vs/\l.Sat H ws/\i < vs.length/\i < ws.length,
 λi H x H'=>∃T y z,H T=none/\x=.ref T/\H'=upd H T (.tup [y,z])/\(∀vs,k.Sat H vs->vs[i]?=some y)/\(∀ws,l.Sat H ws->ws[i]?=some z),
 λi H=>∃vs ws,k.Sat H vs/\l.Sat H ws/\(vs.length=i/\i<=ws.length\/i < vs.length/\ws.length=i)⟩
theorem aap{P:Program}{w:World}{K:PySem.W.Frag}{elts:List Expr}{x1:Nat}{pos:Pos}(k l:SK)(z TI TO i1 i2:Addr)(D:ZApart z TI TO i1 i2):
  Turn P w K (.Tuple elts x1 pos) (Jz k l) [z,TI,TO,i1,i2] z
   (λi h=>IsZip h z TI TO .none/\IsPair h TI (.ref i1) (.ref i2)/\(∃a b,IsPair h TO a b)/\k.pos i1 i h/\l.pos i2 i h) where
 mem:=by simp
 obj:=λi h st b hb=>by
  obtain ⟨hz,hTI,⟨a,c,hTO⟩,⟨o1,e1,_,d1⟩,⟨o2,e2,_,d2⟩⟩:=st;have hb':b=z\/b=TI\/b=TO\/b=i1\/b=i2:=by simpa using hb
  rcases hb' with rfl |rfl |rfl |rfl |rfl
  ·exact ⟨_,hz,λv q=>by have q':Data.fields _=Data.cell v:=q;cases q'⟩
  ·exact ⟨_,hTI,λv q=>by have q':Data.seq _ _=Data.cell v:=q;cases q'⟩
  ·exact ⟨_,hTO,λv q=>by have q':Data.seq _ _=Data.cell v:=q;cases q'⟩
  ·exact ⟨o1,e1,λv q=>by rw[d1]at q;cases q⟩
  ·exact ⟨o2,e2,λv q=>by rw[d2]at q;cases q⟩
 keep:=λi h h' st kk=>by
  obtain ⟨hz,hTI,⟨a,c,hTO⟩,p1,p2⟩:=st;exact ⟨kk z (by simp) _ hz,kk TI (by simp) _ hTI,⟨a,c,kk TO (by simp) _ hTO⟩,p1.keep λo e=>kk i1 (by simp) o e,p2.keep λo e=>kk i2 (by simp) o e⟩
 item:=by
  intro X hP hw hK hc i pins s σ H E I hf st hg;subst hP hw hK;obtain ⟨vs,ws,sat1,sat2,l1,l2⟩:=hg;obtain ⟨hz,hTI,⟨a,b,hTO⟩,h1,h2⟩:=st;have hT:s.TypeIs (.ref z) "zip":=⟨_,hz,rfl⟩;have fz:=hf z (by simp);have fTO:=hf TO (by simp);have fi1:=hf i1 (by simp);have fi2:=hf i2 (by simp);obtain ⟨fp1,P1,S1,Dr1⟩:=drawn (A:=X.A.in1) (I.ok.hd hc) I sat1 fi1.1 h1;obtain ⟨fp2,P2,S2,Dr2⟩:=drawn (A:=X.A.in1) (I.ok.hd hc) I sat2 fi2.1 h2;have no1:∀e,H e=none->e≠i1->∀c∈fp1,c≠e:=λe he hei c hc z=>by
   rcases Dr1.fp c hc with q |q
   ·exact hei (z.symm.trans q)
   ·have:=sat1.no he;cases k with
    |lst a=>injection q with q;exact this (q.trans z)
    |tup a=>injection q with q;exact this (q.trans z)
    |str _ _=>cases q
  have no2:∀e,H e=none->e≠i2->∀c∈fp2,c≠e:=λe he hei c hc z=>by
   rcases Dr2.fp c hc with q |q
   ·exact hei (z.symm.trans q)
   ·have:=sat2.no he;cases l with
    |lst a=>injection q with q;exact this (q.trans z)
    |tup a=>injection q with q;exact this (q.trans z)
    |str _ _=>cases q
  have f1:∀c∈fp1,c≠z/\c≠TO/\c≠i2:=λc hc=>⟨no1 z fz.1 D.i1z.symm c hc,no1 TO fTO.1 D.TOi1 c hc,no1 i2 fi2.1 D.i12.symm c hc⟩;have f2:∀c∈fp2,c≠z/\c≠TO/\c≠i1:=λc hc=>⟨no2 z fz.1 D.i2z.symm c hc,no2 TO fTO.1 D.TOi2 c hc,no2 i1 fi1.1 D.i12 c hc⟩;have ltz:z < s.heap.objs.size:=ax hz;have ltTI:TI < s.heap.objs.size:=ax hTI;have ltTO:TO < s.heap.objs.size:=ax hTO;have lti1:i1 < s.heap.objs.size:=by obtain ⟨_,e,_⟩:=h1;exact ax e
  have lti2:i2 < s.heap.objs.size:=by obtain ⟨_,e,_⟩:=h2;exact ax e
  unfold pyNext;refine ag (wpAny_attempt (eW (name:=Str.ofString "__next__") hT F.slot_zip_next
   (fw F.slot_zip_next hT F.entry_zip_next (aam D Dr1.D Dr2.D f1 f2 hz hTI hTO Dr1.st Dr2.st l1 l2 λh' tk c d pc pd a1 a2 a3 a4 a5 a6 hk=>a8 ?_) (F.args_zip_next_1 _))))
  obtain ⟨y,hy,ry⟩:=Dr1.val _ _ pc;obtain ⟨y',hy',ry'⟩:=Dr2.val _ _ pd;refine ⟨_,rfl,?_⟩;refine wpAny_letOwnedTupleGo_zip a1 λh2' hz2 hs2=>?_;have hs2':Heap.SameBut z h' h2':=hs2;have hn:H s.heap.objs.size=none:=I.hok.fresh (aw _);have k2:∀b o,b∉[z,TI,TO,i1,i2]->s.heap.get? b=some o->h2'.get? b=some o:=λb o hb q=>by
   have hb':b≠z/\b≠TI/\b≠TO/\b≠i1/\b≠i2:=by simpa using hb
   exact hs2'.extBut b o hb'.1 (hk b o hb'.1 hb'.2.2.1 hb'.2.2.2.1 hb'.2.2.2.2 q)
  have I2:Inv X pins σ H { s with heap:=h2',toks:=tk }:=I.turnedL hf k2;have ht2:h2'.get? s.heap.objs.size=some { cls:=.type "tuple",data:=.seq #[c,d] }:=hs2'.extBut _ _ (fE ltz) a5;have ob:ObjOk X.prog X.w (upd H s.heap.objs.size (.tup [y,y'])) h2' s.heap.objs.size (.tup [y,y']):=
   ⟨by rw[fo];simp,[c,d],.cons ry (.cons ry' .nil),⟨_,ht2,rfl,_,rfl⟩⟩
  have I3:=I2.track (I.fpOk (aw _) hn) ob;refine ⟨.ref s.heap.objs.size,_,I3,rfl,⟨s.heap.objs.size,y,y',hn,rfl,rfl,λus hu=>by rw[xY hu sat1];exact hy,λus hu=>by rw[xY hu sat2];exact hy'⟩,
   ⟨hz2,hs2'.extBut _ _ D.TIz (hk _ _ D.TIz D.TITO D.TIi1 D.TIi2 hTI),⟨_,_,hs2'.extBut _ _ D.TOz a2⟩,(Dr1.pos _ _ a3).keep λo e=>hs2'.extBut _ _ D.i1z e,(Dr2.pos _ _ a4).keep λo e=>hs2'.extBut _ _ D.i2z e⟩,λb hb=>?_⟩
  have hb':b=z\/b=TI\/b=TO\/b=i1\/b=i2:=by simpa using hb
  rw[aK (by rcases hb' with rfl |rfl |rfl |rfl |rfl <;> exact cq ‹_›)];exact (hf b hb).1
 done:=by
  intro X hP hw hK hc i pins s σ H E I hf st hg;subst hP hw hK;obtain ⟨vs,ws,sat1,sat2,hend⟩:=hg;obtain ⟨hz,hTI,⟨a,b,hTO⟩,h1,h2⟩:=st;have hT:s.TypeIs (.ref z) "zip":=⟨_,hz,rfl⟩;have fz:=hf z (by simp);have fTO:=hf TO (by simp);have fi1:=hf i1 (by simp);have fi2:=hf i2 (by simp);obtain ⟨fp1,P1,S1,Dr1⟩:=drawn (A:=X.A.in1) (I.ok.hd hc) I sat1 fi1.1 h1;obtain ⟨fp2,P2,S2,Dr2⟩:=drawn (A:=X.A.in1) (I.ok.hd hc) I sat2 fi2.1 h2;have no1:∀e,H e=none->e≠i1->∀c∈fp1,c≠e:=λe he hei c hc z=>by
   rcases Dr1.fp c hc with q |q
   ·exact hei (z.symm.trans q)
   ·have:=sat1.no he;cases k with
    |lst a=>injection q with q;exact this (q.trans z)
    |tup a=>injection q with q;exact this (q.trans z)
    |str _ _=>cases q
  have no2:∀e,H e=none->e≠i2->∀c∈fp2,c≠e:=λe he hei c hc z=>by
   rcases Dr2.fp c hc with q |q
   ·exact hei (z.symm.trans q)
   ·have:=sat2.no he;cases l with
    |lst a=>injection q with q;exact this (q.trans z)
    |tup a=>injection q with q;exact this (q.trans z)
    |str _ _=>cases q
  have f1:∀c∈fp1,c≠z/\c≠TO/\c≠i2:=λc hc=>⟨no1 z fz.1 D.i1z.symm c hc,no1 TO fTO.1 D.TOi1 c hc,no1 i2 fi2.1 D.i12.symm c hc⟩;have f2:∀c∈fp2,c≠z/\c≠TO/\c≠i1:=λc hc=>⟨no2 z fz.1 D.i2z.symm c hc,no2 TO fTO.1 D.TOi2 c hc,no2 i1 fi1.1 D.i12 c hc⟩;have fin:∀(h':Heap)(tk:Nat)(e:Addr),(∀c o,c≠z->c≠TO->c≠i1->c≠i2->s.heap.get? c=some o->h'.get? c=some o)->Inv X pins σ H { s with heap:=h',toks:=tk }:=λh' tk e hk=>I.turnedL (t':=tk) hf λb o hb q=>by
   have hb':b≠z/\b≠TI/\b≠TO/\b≠i1/\b≠i2:=by simpa using hb
   exact hk b o hb'.1 hb'.2.2.1 hb'.2.2.2.1 hb'.2.2.2.2 q
  unfold pyNext;refine ag (wpAny_attempt (eW (name:=Str.ofString "__next__") hT F.slot_zip_next
   (fw F.slot_zip_next hT F.entry_zip_next ?_ (F.args_zip_next_1 _))))
  rcases hend with ⟨e1,_⟩ |⟨e1,e2⟩
  ·subst e1;refine aan D Dr1.D (λc hc=>(f1 c hc).1) hz hTI hTO Dr1.st λh' e hk he=>?_;obtain ⟨o,ho,hc'⟩:=he;refine ag (wpAny_isInstance (T:="StopIteration") (b:=true) ⟨o,ho,hc'⟩ isSubtype_stop ?_);exact a8 ⟨rfl,fin h' s.toks e hk⟩
  ·refine aao D Dr1.D Dr2.D f1 f2 hz hTI hTO Dr1.st Dr2.st e1 e2.symm λh' tk e hk he=>?_;obtain ⟨o,ho,hc'⟩:=he;refine ag (wpAny_isInstance (T:="StopIteration") (b:=true) ⟨o,ho,hc'⟩ isSubtype_stop ?_);exact a8 ⟨rfl,fin h' tk e hk⟩
 self:=λA i s Q E st h=>wpAny_pyIter_zip st.1 h
open Sem (wp)
open AutoSeq1 (wpAny_loadPart')
set_option maxRecDepth 100000
set_option maxHeartbeats 1000000 in
theorem aaq(l:Addr)(items:Array Value)(n:Nat)(dct:Option Addr)(sl:Array (Option Value)):
  Meets (Builtin.«enumerate.__new__» ⟨[.type "enumerate",.ref l],[]⟩) (λ_ R s=>s.heap.get? l=some { cls:=.type "tuple",dict:=dct,data:=.seq items n,slots:=sl }/\
   R (.ok (.ret (.ref (s.heap.push { cls:=.type "tuple_iterator",data:=.fields #[.ref l,.int 0 0] }).objs.size)))
    { s with heap:=(s.heap.push { cls:=.type "tuple_iterator",data:=.fields #[.ref l,.int 0 0] }).push { cls:=.type "enumerate",data:=.fields #[.none,.bool false,.ref s.heap.objs.size,rawInt 0,.none,.none] } }):=
 .of_wp λprog w A R s h=>by
  obtain ⟨hp,g,d,tk,os⟩:=s;obtain ⟨hl,h⟩:=h;have hsub:=sub_enumerate;have hL:Heap.IsTuple (Shared.heap ⟨hp,g,d,tk,os⟩) l items:=⟨_,hl,rfl,n,rfl⟩;wp_walk using wpAny_loadPart' hl
  refine wpAny_stack_any λst=>a8 ?_;split
  ·rename_i c _ _ _ _ _;cases (c==Value.type "enumerate")
   ·wp_walk using wpAny_loadPart' hl,wpAny_pyIter_tuple hL
    exact ⟨_,rfl,h⟩
   ·wp_walk using wpAny_loadPart' hl,wpAny_pyIter_tuple hL
    exact ⟨_,rfl,h⟩
  ·wp_walk using wpAny_loadPart' hl,wpAny_pyIter_tuple hL
   exact ⟨_,rfl,h⟩
abbrev uz(h:Heap)(k:SK):Heap:=h.push k.obj
abbrev uA(h:Heap)(k l:SK):Heap:=(uz h k).push l.obj
abbrev uB (h:Heap) (k l:SK):Heap:=(uA h k l).push { cls:=.type "tuple",data:=.seq #[.ref h.objs.size,.ref (uz h k).objs.size] }
abbrev uC (h:Heap) (k l:SK):Heap:=(uB h k l).push { cls:=.type "tuple",data:=.seq #[.none,.none] }
abbrev iz (h:Heap) (k l:SK):Heap:=(uC h k l).push { cls:=.type "zip",data:=.fields #[.none,.bool false,.bool false,.ref (uA h k l).objs.size,.ref (uB h k l).objs.size] }
theorem aar(k l:SK)(xs ys:Array Value):
  Meets (Builtin.«zip.__new__» ⟨[.type "zip",k.val,l.val],[]⟩) (λ_ R s=>k.On xs s.heap/\l.On ys s.heap/\R (.ok (.ret (.ref (uC s.heap k l).objs.size))) { s with heap:=iz s.heap k l }):=
 .of_wp λprog w A R s h=>by
  obtain ⟨hp,g,d,tk,os⟩:=s;obtain ⟨h1,h2,h⟩:=h;have hsub:=sub_zip;have h1':k.On xs (Shared.heap ⟨hp,g,d,tk,os⟩):=h1;have h2':l.On ys (Shared.heap ⟨hp.push k.obj,g,d,tk,os⟩):=SK.On.keeps h2 λb o _ e=>al _ e;wp_walk using SK.iter h1',SK.iter h2'
  exact ⟨_,rfl,h⟩
section
variable {prog:Program} {w:World} {A:Around} {E:Value->Shared->Prop} {s:Shared}
theorem aas{k l:SK}{xs ys:Array Value}{Q:Value->Shared->Prop}(h1:k.On xs s.heap)(h2:l.On ys s.heap)
  (h:∀h',IsZip h' (s.heap.objs.size+4) (s.heap.objs.size+2) (s.heap.objs.size+3) .none->IsPair h' (s.heap.objs.size+2) (.ref s.heap.objs.size) (.ref (s.heap.objs.size+1))->
   IsPair h' (s.heap.objs.size+3) .none .none->k.pos s.heap.objs.size 0 h'->l.pos (s.heap.objs.size+1) 0 h'->h'.objs.size=s.heap.objs.size+5->
   (∀c o,s.heap.get? c=some o->h'.get? c=some o)->Q (.ref (s.heap.objs.size+4)) { s with heap:=h' }):
  wpAny (model prog w) A (call (.type "zip") [k.val,l.val]) Q E s:=by
 refine callType_new F.called_zip (by decide) (F.typeCall_zip_2 _ _) (F.newCall_zip_2 _ _) (λobj=>F.args_object_init_3 obj _ _) F.entry_zip_new
  (aar k l xs ys) ⟨h1,h2,?_⟩
 have z1:(uz s.heap k).objs.size=s.heap.objs.size+1:=eh ..;have z2:(uA s.heap k l).objs.size=s.heap.objs.size+2:=by rw[eh,z1]
 have z3:(uB s.heap k l).objs.size=s.heap.objs.size+3:=by rw[eh,z2]
 have z4:(uC s.heap k l).objs.size=s.heap.objs.size+4:=by rw[eh,z3]
 have z5:(iz s.heap k l).objs.size=s.heap.objs.size+5:=by rw[eh,z4]
 have g5:(iz s.heap k l).get? (uC s.heap k l).objs.size=some _:=bd _ rfl;have g4:(iz s.heap k l).get? (uB s.heap k l).objs.size=some _:=al _ (bd _ rfl);have g3:(iz s.heap k l).get? (uA s.heap k l).objs.size=some _:=al _ (al _ (bd _ rfl));have g2:(iz s.heap k l).get? (uz s.heap k).objs.size=some _:=al _ (al _ (al _ (bd _ rfl)));have g1:(iz s.heap k l).get? s.heap.objs.size=some _:=al _ (al _ (al _ (al _ (bd _ rfl))));show _/\_;rw[z2,z3,z4]at g5;rw[z1,z2]at g3;rw[z3]at g4;rw[z1]at g2;rw[z4];exact ⟨⟨_,g5,rfl⟩,h _ g5 g3 g4 ⟨_,g1,rfl,rfl⟩ ⟨_,g2,rfl,rfl⟩ z5 λc o x=>
  al _ (al _ (al _ (al _ (al _ x))))⟩
theorem aat{l:Addr}{items:Array Value}{Q:Value->Shared->Prop}(hL:s.heap.IsTuple l items)
  (h:∀h',IsEnum h' (s.heap.objs.size+1) s.heap.objs.size 0 .none->h'.IsTupleIter s.heap.objs.size l 0->h'.objs.size=s.heap.objs.size+2->
   (∀b o,s.heap.get? b=some o->h'.get? b=some o)->Q (.ref (s.heap.objs.size+1)) { s with heap:=h' }):
  wpAny (model prog w) A (call (.type "enumerate") [.ref l]) Q E s:=by
 obtain ⟨⟨c,dct,dt,sl⟩,hl,hc,n,hd⟩:=hL;replace hc:c=.type "tuple":=hc;replace hd:dt=.seq items n:=hd;subst hc hd;refine callType_new F.called_enumerate (by decide) (F.typeCall_enumerate_1 _) (F.newCall_enumerate_1 _) (λobj=>F.args_object_init_2 obj _) F.entry_enumerate_new
  (aaq l items n dct sl) ⟨hl,?_⟩
 have hz:(s.heap.push { cls:=.type "tuple_iterator",data:=.fields #[.ref l,.int 0 0] }).objs.size=s.heap.objs.size+1:=eh ..;show _/\_;rw[hz];have he:IsEnum ((s.heap.push { cls:=.type "tuple_iterator",data:=.fields #[.ref l,.int 0 0] }).push
   { cls:=.type "enumerate",data:=.fields #[.none,.bool false,.ref s.heap.objs.size,rawInt 0,.none,.none] }) (s.heap.objs.size+1) s.heap.objs.size 0 .none:=by
  have:=bd (s.heap.push { cls:=.type "tuple_iterator",data:=.fields #[.ref l,.int 0 0] })
   (o:={ cls:=.type "enumerate",data:=.fields #[.none,.bool false,.ref s.heap.objs.size,rawInt 0,.none,.none] }) rfl
  rw[hz]at this;exact this
 refine ⟨⟨_,he,rfl⟩,h _ he ⟨_,al _ (bd _ rfl),rfl,rfl⟩ (by rw[eh,hz]) λb o x=>al _ (al _ x)⟩
theorem aau{k:SK}{xs:Array Value}{Q:Value->Shared->Prop}(h1:k.On xs s.heap)
  (h:∀h',IsEnum h' (s.heap.objs.size+1) s.heap.objs.size 0 .none->k.pos s.heap.objs.size 0 h'->h'.objs.size=s.heap.objs.size+2->
   (∀b o,s.heap.get? b=some o->h'.get? b=some o)->Q (.ref (s.heap.objs.size+1)) { s with heap:=h' }):
  wpAny (model prog w) A (call (.type "enumerate") [k.val]) Q E s:=by
 cases k with
 |lst a=>exact call_enumerate_list h1 h
 |tup a=>exact aat h1 h
 |str x t=>exact call_enumerate_str h
end
structure CT where
 N:List Str
 kd:List (Str×NameKind)
 fn:Bool
 fs:List (String×Nat)
 bt:List String
 cn:List (String×D)
 xs:List (String×Bool):=[]
def iB:Option NameKind->Bool
 |some .local=>true
 |some .cell=>true
 |some .free=>true
 |_=>false
def CT.sto(c:CT)(x:Str):Bool:=c.kd.lookup x==some .local||(c.fn&&c.kd.lookup x==some .cell)
def okN (x:Str):Bool:=!(x==("__debug__":Str))&&!(x==("__classdict__":Str))&&!(x==("__name__":Str))
def CT.glo(c:CT)(x:Str):Bool:=c.kd.lookup x==some .globalImplicit&&okN x
noncomputable def sEq:D->D->Bool
 |.non,.non=>true
 |.bl a,.bl b=>a==b
 |.int a,.int b=>a==b
 |.str a,.str b=>a==b
 |_,_=>false
theorem aav{a b:D}(h:sEq a b=true):a=b:=by cases a <;> cases b <;> simp_all [sEq]
noncomputable def uD(d:D)(k:Const):Bool:=
 match d,k with
 |.non,.none=>true
 |.bl a,.bool b=>a==b
 |.int a,.int b=>a==b
 |.str a,.str b=>a==b.cps.toList&&decide (a.length<=sz)
 |_,_=>false
noncomputable def Bf.name:Bf->String
 |.len=>"len"
 |.all=>"all"
 |.int=>"int"
 |.tuple=>"tuple"
 |.sum=>"sum"
 |.min=>"min"
 |.max=>"max"
 |.str=>"str"
def xZ:Bf->Bool
 |.sum=>false
 |.min=>true
 |.max=>false
 |.str=>true
 |_=>true
def yc:Lf->Bool
 |.sorted=>true
 |_=>true
def Lf.name:Lf->String
 |.list=>"list"
 |.sorted=>"sorted"
noncomputable def Mf.name:Mf->String
 |.join=>"join"
 |.append=>"append"
 |.extend=>"extend"
 |.insert=>"insert"
 |.count=>"count"
 |.index=>"index"
def uE:Expr->Bool
 |.Call (.Name _ _) [] [] _=>true
 |_=>false
def dz:Expr->Bool
 |.ListComp ..=>true
 |.SetComp ..=>true
 |.DictComp ..=>true
 |_=>false
noncomputable def iC:Expr->Bool
 |.UnaryOp .Not _ _=>false
 |.BoolOp ..=>false
 |.IfExp ..=>false
 |.Compare ..=>false
 |_=>true
noncomputable def gF(N:List Str)(scope:Scope):List Str->List (Option Nat)->Bool
 |[],[]=>true
 |_::N',none::cap=>gF N scope N' cap
 |x::N',some j::cap=>(N[j]?==some x)&&(scope.names.lookup x==some NameKind.free)&&gF N scope N' cap
 |_,_=>false
noncomputable def jJ(c:CT)(scope:Scope):Bool:=
 scope.names.all (λy=>y.2 != NameKind.cell)&&scope.names.all (λy=>y.2 != NameKind.local||scope.names.lookup y.1==some NameKind.local) &&
 scope.names.all (λy=>y.2 != NameKind.free||(c.kd.lookup y.1==some NameKind.cell||c.kd.lookup y.1==some NameKind.free))&&decide (scope.kind=.function)&&decide (c.kd=c.kd)
def CT.comp(c:CT)(N:List Str)(scope:Scope):CT:={ N:=N,kd:=scope.names,fn:=false,fs:=c.fs,bt:=c.bt,cn:=c.cn }
def fH:List Str->Bool
 |[]=>true
 |x::r=>!r.contains x&&fH r
noncomputable def asName(e:Expr):Option { t:Str×Pos // e=.Name t.1 t.2 }:=match e with
 |.Name a0 a1=>some ⟨(a0,a1),rfl⟩
 |_=>none
noncomputable def uF(e:Expr):Option { t:Const×Nat×Pos // e=.Constant t.1 t.2.1 t.2.2 }:=match e with
 |.Constant a0 a1 a2=>some ⟨(a0,a1,a2),rfl⟩
 |_=>none
noncomputable def Ek(e:Expr):Option { t:Expr×Operator×Expr×Pos // e=.BinOp t.1 t.2.1 t.2.2.1 t.2.2.2 }:=match e with
 |.BinOp a0 a1 a2 a3=>some ⟨(a0,a1,a2,a3),rfl⟩
 |_=>none
noncomputable def jK(e:Expr):Option { t:UnaryOp×Expr×Pos // e=.UnaryOp t.1 t.2.1 t.2.2 }:=match e with
 |.UnaryOp a0 a1 a2=>some ⟨(a0,a1,a2),rfl⟩
 |_=>none
noncomputable def lR(e:Expr):Option { t:Expr×List CmpOp×List Expr×Pos // e=.Compare t.1 t.2.1 t.2.2.1 t.2.2.2 }:=match e with
 |.Compare a0 a1 a2 a3=>some ⟨(a0,a1,a2,a3),rfl⟩
 |_=>none
noncomputable def uG(e:Expr):Option { t:BoolOp×List Expr×Pos // e=.BoolOp t.1 t.2.1 t.2.2 }:=match e with
 |.BoolOp a0 a1 a2=>some ⟨(a0,a1,a2),rfl⟩
 |_=>none
noncomputable def El(e:Expr):Option { t:Expr×Expr×Expr×Pos // e=.IfExp t.1 t.2.1 t.2.2.1 t.2.2.2 }:=match e with
 |.IfExp a0 a1 a2 a3=>some ⟨(a0,a1,a2,a3),rfl⟩
 |_=>none
noncomputable def gG(e:Expr):Option { t:List Expr×Nat×Pos // e=.Tuple t.1 t.2.1 t.2.2 }:=match e with
 |.Tuple a0 a1 a2=>some ⟨(a0,a1,a2),rfl⟩
 |_=>none
noncomputable def asList(e:Expr):Option { t:List Expr×Pos // e=.List t.1 t.2 }:=match e with
 |.List a0 a1=>some ⟨(a0,a1),rfl⟩
 |_=>none
noncomputable def gH(e:Expr):Option { t:Expr×Expr×Pos // e=.Subscript t.1 t.2.1 t.2.2 }:=match e with
 |.Subscript a0 a1 a2=>some ⟨(a0,a1,a2),rfl⟩
 |_=>none
noncomputable def Em(e:Expr):Option { t:Option Expr×Option Expr×Option Expr×Pos // e=.Slice t.1 t.2.1 t.2.2.1 t.2.2.2 }:=match e with
 |.Slice a0 a1 a2 a3=>some ⟨(a0,a1,a2,a3),rfl⟩
 |_=>none
noncomputable def yd(e:Expr):Option { t:Expr×List Expr×List Keyword×Pos // e=.Call t.1 t.2.1 t.2.2.1 t.2.2.2 }:=match e with
 |.Call a0 a1 a2 a3=>some ⟨(a0,a1,a2,a3),rfl⟩
 |_=>none
noncomputable def Eo(e:Expr):Option { t:Expr×Str×Pos // e=.Attribute t.1 t.2.1 t.2.2 }:=match e with
 |.Attribute a0 a1 a2=>some ⟨(a0,a1,a2),rfl⟩
 |_=>none
noncomputable def Ep(e:Expr):Option { t:Expr×List Comprehension×Scope×Pos // e=.ListComp t.1 t.2.1 t.2.2.1 t.2.2.2 }:=match e with
 |.ListComp a0 a1 a2 a3=>some ⟨(a0,a1,a2,a3),rfl⟩
 |_=>none
noncomputable def uH(e:Stmt):Option { t:Expr×Pos // e=.Expr t.1 t.2 }:=match e with
 |.Expr a0 a1=>some ⟨(a0,a1),rfl⟩
 |_=>none
noncomputable def jL(e:Stmt):Option { t:List Expr×Expr×Pos // e=.Assign t.1 t.2.1 t.2.2 }:=match e with
 |.Assign a0 a1 a2=>some ⟨(a0,a1,a2),rfl⟩
 |_=>none
noncomputable def uI(e:Stmt):Option { t:Expr×Operator×Expr×Pos // e=.AugAssign t.1 t.2.1 t.2.2.1 t.2.2.2 }:=match e with
 |.AugAssign a0 a1 a2 a3=>some ⟨(a0,a1,a2,a3),rfl⟩
 |_=>none
noncomputable def Er(e:Stmt):Option { t:Option Expr×Option Expr×Pos // e=.Raise t.1 t.2.1 t.2.2 }:=match e with
 |.Raise a0 a1 a2=>some ⟨(a0,a1,a2),rfl⟩
 |_=>none
noncomputable def Es(e:Stmt):Option { t:List Stmt×List ExceptHandler×List Stmt×List Stmt×Pos // e=.Try t.1 t.2.1 t.2.2.1 t.2.2.2.1 t.2.2.2.2 }:=match e with
 |.Try a0 a1 a2 a3 a4=>some ⟨(a0,a1,a2,a3,a4),rfl⟩
 |_=>none
noncomputable def Et(e:ExceptHandler):Option { t:Option Expr×Option Str×List Stmt×Pos // e=.ExceptHandler t.1 t.2.1 t.2.2.1 t.2.2.2 }:=match e with
 |.ExceptHandler a0 a1 a2 a3=>some ⟨(a0,a1,a2,a3),rfl⟩
noncomputable def ye(e:Expr):Option { t:Expr×Int×Option Expr×Pos // e=.FormattedValue t.1 t.2.1 t.2.2.1 t.2.2.2 }:=match e with
 |.FormattedValue a0 a1 a2 a3=>some ⟨(a0,a1,a2,a3),rfl⟩
 |_=>none
noncomputable def aaw(e:Expr):Option { t:List Expr×Pos // e=.JoinedStr t.1 t.2 }:=match e with
 |.JoinedStr a0 a1=>some ⟨(a0,a1),rfl⟩
 |_=>none
def aax(k:Const):Option { x:Str // k=.str x }:=match k with
 |.str x=>some ⟨x,rfl⟩
 |_=>none
def aix(b:Bool)(k:Const):Bool:=match k with
 |.bool c=>c==b
 |_=>false
noncomputable def uJ(e:Stmt):Option { t:Option Expr×Pos // e=.Return t.1 t.2 }:=match e with
 |.Return a0 a1=>some ⟨(a0,a1),rfl⟩
 |_=>none
noncomputable def Eu(e:Stmt):Option { t:Expr×List Stmt×List Stmt×Pos // e=.If t.1 t.2.1 t.2.2.1 t.2.2.2 }:=match e with
 |.If a0 a1 a2 a3=>some ⟨(a0,a1,a2,a3),rfl⟩
 |_=>none
noncomputable def Ew(e:Stmt):Option { t:Expr×Expr×List Stmt×List Stmt×Pos // e=.For t.1 t.2.1 t.2.2.1 t.2.2.2.1 t.2.2.2.2 }:=match e with
 |.For a0 a1 a2 a3 a4=>some ⟨(a0,a1,a2,a3,a4),rfl⟩
 |_=>none
noncomputable def aiy(e:Stmt):Option { t:Expr×List Stmt×List Stmt×Pos // e=.While t.1 t.2.1 t.2.2.1 t.2.2.2 }:=match e with
 |.While a0 a1 a2 a3=>some ⟨(a0,a1,a2,a3),rfl⟩
 |_=>none
def Ey(e:Stmt):Option { t:Pos // e=.Pass t }:=match e with
 |.Pass a0=>some ⟨a0,rfl⟩
 |_=>none
def Ez(e:Stmt):Option { t:Pos // e=.Break t }:=match e with
 |.Break a0=>some ⟨a0,rfl⟩
 |_=>none
def EY(e:Stmt):Option { t:Pos // e=.Continue t }:=match e with
 |.Continue a0=>some ⟨a0,rfl⟩
 |_=>none
def one{α:Type}:List α->Option α
 |[a]=>some a
 |_=>none
def three{α:Type}:List α->Option (α×α×α)
 |[x,y,z]=>some (x,y,z)
 |_=>none
theorem aiz{α:Type}{l:List α}{v:α×α×α}(h:three l=some v):l=[v.1,v.2.1,v.2.2]:=by
 unfold three at h;split at h
 ·cases h;rfl
 ·cases h
def two{α:Type}:List α->Option (α×α)
 |[a,b]=>some (a,b)
 |_=>none
def hdT{α:Type}:List α->Option (α×List α)
 |a::r=>some (a,r)
 |[]=>none
theorem bV{α:Type}{l:List α}{a:α}(h:one l=some a):l=[a]:=by
 cases l with
 |nil=>cases h
 |cons x r=>cases r with
  |nil=>cases h;rfl
  |cons _ _=>cases h
theorem lU{α:Type}{l:List α}{a:α×α}(h:two l=some a):l=[a.1,a.2]:=by
 cases l with
 |nil=>cases h
 |cons x r=>cases r with
  |nil=>cases h
  |cons y r=>cases r with
   |nil=>cases h;rfl
   |cons _ _=>cases h
theorem Fb{α:Type}{l:List α}{a:α×List α}(h:hdT l=some a):l=a.1::a.2:=by
 cases l with
 |nil=>cases h
 |cons x r=>cases h;rfl
theorem aM{α:Type}{o:Option α}{p:α->Bool}(h:o.any p=true):∃t,o=some t/\p t=true:=by
 cases o with
 |none=>cases h
 |some t=>exact ⟨t,rfl,h⟩
def yf:UnaryOp->Bool
 |.USub=>true
 |_=>false
def lV:UnaryOp->Bool
 |.Not=>true
 |_=>false
theorem aay{o:UnaryOp}(h:yf o=true):o=.USub:=by cases o <;> first |rfl |cases h
theorem Fd{o:UnaryOp}(h:lV o=true):o=.Not:=by cases o <;> first |rfl |cases h
noncomputable def aU(e:Expr):Option (Str×Pos×List Expr×Pos):=(yd e).bind λt=>(asName t.1.1).bind λn=>match t.1.2.2.1 with |[]=>some (n.1.1,n.1.2,t.1.2.1,t.1.2.2.2) |_::_=>none
noncomputable def az{α:Type}{q:α->Prop}(o:Option { t:α // q t })(P:α->Bool):Bool:=match o with |some t=>P t.1 |none=>false
theorem aJ{α:Type}{q:α->Prop}{o:Option { t:α // q t }}{P:α->Bool}(h:az o P=true):∃t,q t/\P t=true:=by
 cases o with
 |none=>cases h
 |some t=>exact ⟨t.1,t.2,h⟩
theorem Fe{α β:Type}{o:Option α}{f:α->Option β}{b:β}(h:o.bind f=some b):∃t,o=some t/\f t=some b:=by
 cases o with
 |none=>cases h
 |some t=>exact ⟨t,rfl,h⟩
theorem cH{e:Expr}{t:Str×Pos×List Expr×Pos}(h:aU e=some t):e=.Call (.Name t.1 t.2.1) t.2.2.1 [] t.2.2.2:=by
 obtain ⟨⟨⟨f,as,ks,p⟩,hu⟩,_,h⟩:=Fe h;obtain ⟨⟨⟨x,p'⟩,hn⟩,_,h⟩:=Fe h;dsimp only at h hn hu;cases ks with
 |nil=>cases h;rw[hu,hn]
 |cons _ _=>cases h
def lW(e:Expr):Bool:=(lR e).isSome
def Ff:Ex->Bool
 |.frz _=>false
 |_=>true
def yg:Tx->Bool
 |.yes=>true
 |_=>false
mutual
noncomputable def cI(c:CT):Tg->Expr->Bool
 |.nm i,e=>az (asName e) λt=>(c.N[i]?==some t.1)&&c.sto t.1
 |.tp ts,e=>az (gG e) λt=>cj c ts t.1
noncomputable def cj(c:CT):Tgs->List Expr->Bool
 |.nil,es=>es.isEmpty
 |.cons t r,es=>match es with
  |e::es=>cI c t e&&cj c r es
  |[]=>false
end
def yh(e:Expr):Bool:=az (uF e) λt=>az (aax t.1) λx=>decide (x.length<=1000)
def unF(e:Expr):Expr:=match ye e with |some t=>t.1.1 |none=>e
def aaz:Ex->Bool
 |.cst (.str _)=>true
 |_=>false
noncomputable def aaA:Exs->List Expr->Bool
 |.cons x xs,p::ps=>(match ye p with |some t=>decide (t.1.2.1=-1)&&t.1.2.2.1.isNone |none=>aaz x)&&aaA xs ps
 |.nil,ps=>ps.isEmpty
 |_,[]=>false
mutual
noncomputable def aj(c:CT):Ex->Expr->Bool
 |.var i,e=>az (asName e) λt=>(c.N[i]?==some t.1)&&iB (c.kd.lookup t.1)&&okN t.1
 |.cst d,e=>az (uF e) λt=>uD d t.1
 |.glb x d,e=>az (asName e) λt=>t.1==Str.ofString x&&c.glo t.1&&c.cn.any (λp=>p.1==x&&sEq p.2 d)
 |.bin op _ a b,e=>az (Ek e) λt=>t.2.1==op&&aj c a t.1&&aj c b t.2.2.1
 |.neg a,e=>az (jK e) λt=>yf t.1&&aj c a t.2.1
 |.cmp op a b,e=>az (lR e) λt=>(one t.2.1).any λo=>(one t.2.2.1).any λr=>o==op&&aj c a t.1&&aj c b r
 |.chn op op' a b d,e=>az (lR e) λt=>(two t.2.1).any λo=>(two t.2.2.1).any λr=>o.1==op&&o.2==op'&&aj c a t.1&&aj c b r.1&&aj c d r.2
 |.not a,e=>az (jK e) λt=>lV t.1&&aj c a t.2.1
 |.boo isAnd x es,e=>az (uG e) λt=>(hdT t.2.1).any λv=>t.1==(if isAnd then .And else .Or)&&aj c x v.1&&aL c es v.2
 |.ife t a b,e=>az (El e) λu=>bF c t u.1&&aj c a u.2.1&&aj c b u.2.2.1
 |.tup es,e=>az (gG e) λt=>aL c es t.1
 |.lst _ es,e=>az (asList e) λt=>aL c es t.1
 |.idx a i,e=>az (gH e) λt=>aj c a t.1&&aj c i t.2.1
 |.slc _ a lo hi,e=>az (gH e) λt=>az (Em t.2.1) λs=>s.2.2.1.isNone&&(aj c a t.1&&gj c lo s.1&&gj c hi s.2.1)
 |.rvs _ _ _,_=>false
 |.call f es,e=>(aU e).any λt=>t.1==Str.ofString f&&c.glo t.1&&(c.fs.any λp=>p.1==f&&p.2==t.2.2.1.length)&&!t.2.2.1.isEmpty&&aL c es t.2.2.1
 |.bcl f es,e=>(aU e).any λt=>t.1==Str.ofString f.name&&xZ f&&c.glo t.1&&c.bt.contains f.name&&!t.2.2.1.isEmpty&&aL c es t.2.2.1
 |.lcl _ f es,e=>(aU e).any λt=>t.1==Str.ofString f.name&&yc f&&c.glo t.1&&c.bt.contains f.name&&!t.2.2.1.isEmpty&&aL c es t.2.2.1
 |.isi a t,e=>(aU e).any λu=>(two u.2.2.1).any λv=>az (asName v.2) λy=>u.1==Str.ofString "isinstance"&&c.glo u.1&&c.bt.contains "isinstance"&&aj c a v.1&&y.1==Str.ofString t&&c.glo y.1&&c.bt.contains t&&fZ t
 |.isx a C xs,e=>(aU e).any λu=>(two u.2.2.1).any λv=>az (asName v.2) λy=>u.1==Str.ofString "isinstance"&&c.glo u.1&&c.bt.contains "isinstance"&&aj c a v.1&&y.1==Str.ofString C&&c.glo y.1&&c.xs.contains (C,false)&&xs.all λx=>c.xs.contains (x,true)
 |.fst _,_=>false
 |.rgl _ a,e=>(aU e).any λt=>(one t.2.2.1).any λe1=>(aU e1).any λu=>(one u.2.2.1).any λe2=>t.1==Str.ofString "list"&&c.glo t.1&&c.bt.contains "list"&&u.1==Str.ofString "range"&&c.glo u.1&&c.bt.contains "range"&&aj c a e2
 |.rgt a,e=>(aU e).any λt=>(one t.2.2.1).any λe1=>(aU e1).any λu=>(one u.2.2.1).any λe2=>t.1==Str.ofString "tuple"&&c.glo t.1&&c.bt.contains "tuple"&&u.1==Str.ofString "range"&&c.glo u.1&&c.bt.contains "range"&&aj c a e2
 |.mth m o es,e=>az (yd e) λt=>az (Eo t.1) λv=>t.2.2.1.isEmpty&&(v.2.1==Str.ofString m.name&&aj c o v.1&&!uE v.1&&(v.2.2.endLine==t.2.2.2.line)&&decide (t.2.1.length < 29)&&!t.2.1.isEmpty&&aL c es t.2.1)
 |.comp _ elt tg it cond N cap,e=>az (Ep e) λt=>(one t.2.1).any λg=>decide (g.is_async=0)&&bO c it g.target g.iter&&gF c.N t.2.2.1 (N.map Str.ofString) cap&&jJ c t.2.2.1&&fH (N.map Str.ofString) &&
    cI (c.comp (N.map Str.ofString) t.2.2.1) tg g.target&&((yg cond&&g.ifs.isEmpty)||(one g.ifs).any λf=>bF (c.comp (N.map Str.ofString) t.2.2.1) cond f)&&aj (c.comp (N.map Str.ofString) t.2.2.1) elt t.1
 |.frz a,e=>aj c a e
noncomputable def bF(c:CT):Tx->Expr->Bool
 |.val x,e=>(iC e||lW e)&&aj c x e&&Ff x
 |.not t,e=>az (jK e) λu=>lV u.1&&bF c t u.2.1
 |.boo isAnd t ts,e=>az (uG e) λu=>(hdT u.2.1).any λv=>u.1==(if isAnd then .And else .Or)&&bF c t v.1&&iD c ts v.2
 |.yes,_=>false
noncomputable def iD(c:CT):Txs->List Expr->Bool
 |.nil,es=>es.isEmpty
 |.cons t r,es=>match es with
  |e::es=>bF c t e&&iD c r es
  |[]=>false
noncomputable def aL(c:CT):Exs->List Expr->Bool
 |.nil,es=>es.isEmpty
 |.cons t r,es=>match es with
  |e::es=>aj c t e&&aL c r es
  |[]=>false
noncomputable def gj(c:CT):Ox->Option Expr->Bool
 |.no,e=>e.isNone
 |.ob x,e=>match e with
  |some e=>aj c x e
  |none=>false
noncomputable def bO(c:CT):It'->Expr->Expr->Bool
 |.seq x,_,e=>aj c x e
 |.rng a,_,e=>(aU e).any λt=>(one t.2.2.1).any λv=>t.1==Str.ofString "range"&&c.glo t.1&&c.bt.contains "range"&&aj c a v
 |.rng2 _ _,_,_=>false
 |.rev a,_,e=>(aU e).any λt=>(one t.2.2.1).any λv=>(aU v).any λt'=>(one t'.2.2.1).any λv'=>t.1==Str.ofString "reversed"&&c.glo t.1&&c.bt.contains "reversed"&&t'.1==Str.ofString "range"&&c.glo t'.1&&c.bt.contains "range"&&aj c a v'
 |.dwn _ _ _,_,_=>false
 |.enm a,tg,e=>az (gG tg) λ_=>(aU e).any λt=>(one t.2.2.1).any λv=>t.1==Str.ofString "enumerate"&&c.glo t.1&&c.bt.contains "enumerate"&&aj c a v
 |.zip a b,tg,e=>az (gG tg) λ_=>(aU e).any λt=>(two t.2.2.1).any λv=>t.1==Str.ofString "zip"&&c.glo t.1&&c.bt.contains "zip"&&aj c a v.1&&aj c b v.2
end
def lX(c:CT)(cond:Tx)(ifs:List Expr):Bool:=(yg cond&&ifs.isEmpty)||(one ifs).any λf=>bF c cond f
def Fg:Ex->Bool
 |.comp ..=>true
 |_=>false
def Fi:Expr->Bool
 |.Tuple ..=>true
 |_=>false
def yj(g:Tg)(x:Ex)(e:Expr):Bool:=match g with |.nm _=>!dz e||Fg x |.tp _=>!Fi e&&!dz e
noncomputable def lY(c:CT):Exs->List Expr->Bool
 |es,[]=>(match es with |.nil=>true |_=>false)
 |es,p::ps=>match yh p with
  |true=>lY c es ps
  |false=>(match es with |.cons x r=>(az (ye p) λt=>decide (t.2.1=-1)&&t.2.2.1.isNone&&aj c x t.1)&&lY c r ps |.nil=>false)
noncomputable def uK(c:CT)(es:Exs)(e:Expr):Bool:=(match es with |.nil=>yh e |_=>false)||az (aaw e) λt=>decide (2<=t.1.length)&&decide (t.1.length<=50)&&lY c es t.1
noncomputable def jM(c:CT):Tb->List Stmt->Bool
 |.call f es,sts=>(one sts).any λs0=>az (uH s0) λe0=>(aU e0.1).any λu=>(u.1==Str.ofString f&&c.glo u.1&&(c.fs.any λp=>p.1==f&&p.2==u.2.2.1.length)&&!u.2.2.1.isEmpty&&aL c es u.2.2.1)
 |.pick _ _ _ _,_=>false
 |.asg _ _ _,_=>false
 |.ite _ _ _,_=>false
def yl(b:Bool):Const->Bool
 |.bool x=>x==b
 |_=>false
noncomputable def uL(c:CT)(h:Hd)(nm:Option Str)(y:Str)(e:Expr):Bool:=(match h with
 |.flag i b=>nm.isNone&&(c.N[i]?==some y)&&az (uF e) λk=>yl b k.1
 |.bind n i=>nm.any λx=>(c.N[i]?==some y)&&(c.N[n]?==some x)&&(c.kd.lookup x==some .local)&&okN x&&az (asName e) λz=>z.1==x)&&c.sto y&&okN y
mutual
noncomputable def aZ(c:CT):Sx->Stmt->Bool
 |.exp x,st=>az (uH st) λt=>!dz t.1&&aj c x t.1
 |.asg g x,st=>az (jL st) λt=>(one t.1).any λtg=>cI c g tg&&aj c x t.2.1&&yj g x t.2.1
 |.set o i x,st=>az (jL st) λt=>(one t.1).any λtg=>az (gH tg) λu=>aj c o u.1&&aj c i u.2.1&&aj c x t.2.1&&!dz t.2.1
 |.aug i op x,st=>az (uI st) λt=>az (asName t.1) λy=>t.2.1==op&&(c.N[i]?==some y.1)&&c.sto y.1&&okN y.1&&aj c x t.2.2.1
 |.augs o i op x,st=>az (uI st) λt=>az (gH t.1) λu=>t.2.1==op&&aj c o u.1&&aj c i u.2.1&&aj c x t.2.2.1
 |.ret x,st=>az (uJ st) λt=>t.1.any λe=>aj c x e
 |.rtn,st=>az (uJ st) λt=>t.1.isNone
 |.ite t a b,st=>az (Eu st) λu=>bF c t u.1&&aC c a u.2.1&&aC c b u.2.2.1
 |.for_ g it b,st=>az (Ew st) λt=>t.2.2.2.1.isEmpty&&(cI c g t.1&&bO c it t.1 t.2.1&&aC c b t.2.2.1)
 |.whl _ _,_=>false
 |.pas,st=>(Ey st).isSome
 |.brk,st=>(Ez st).isSome
 |.cnt,st=>(EY st).isSome
 |.nev,_=>true
 |.rse C es,st=>az (Er st) λt=>t.2.1.isNone&&t.1.any λe=>(aU e).any λu=>u.1==Str.ofString C&&c.glo u.1&&c.xs.contains (C,true)&&(one u.2.2.1).any λm=>uK c es m
 |.tryc _ _ _ _ _,_=>false
 |.tryx b C h xs,st=>az (Es st) λt=>t.2.2.1.isEmpty&&t.2.2.2.1.isEmpty&&jM c b t.1&&(xs.all λx=>c.xs.contains (x,true))&&!(C=="ValueError")&&(one t.2.1).any λhd=>az (Et hd) λw=>w.1.any λte=>az (asName te) λn=>(n.1==Str.ofString C&&c.glo n.1&&c.xs.contains (C,false))&&(one w.2.2.1).any λs1=>az (jL s1) λa=>(one a.1).any λtg=>az (asName tg) λy=>uL c h w.2.1 y.1 a.2.1
noncomputable def aC(c:CT):Sxs->List Stmt->Bool
 |.nil,es=>es.isEmpty
 |.cons t r,es=>match es with
  |e::es=>aZ c t e&&aC c r es
  |[]=>false
end
theorem ym{c:CT}{i:Nat}{e:Expr}(h:cI c (.nm i) e=true):∃x p,e=.Name x p/\((c.N[i]?==some x)&&c.sto x)=true:=by have h:(az (asName e) λt=>(c.N[i]?==some t.1)&&c.sto t.1)=true:=h;obtain ⟨t,ht,h⟩:=aJ h;exact ⟨_,_,ht,h⟩
theorem yo{c:CT}{ts:Tgs}{e:Expr}(h:cI c (.tp ts) e=true):∃es k p,e=.Tuple es k p/\(cj c ts es)=true:=by have h:(az (gG e) λt=>cj c ts t.1)=true:=h;obtain ⟨t,ht,h⟩:=aJ h;exact ⟨_,_,_,ht,h⟩
theorem Fj{c:CT}{i:Nat}{e:Expr}(h:aj c (.var i) e=true):∃x p,e=.Name x p/\((c.N[i]?==some x)&&iB (c.kd.lookup x)&&okN x)=true:=by have h:(az (asName e) λt=>(c.N[i]?==some t.1)&&iB (c.kd.lookup t.1)&&okN t.1)=true:=h;obtain ⟨t,ht,h⟩:=aJ h;exact ⟨_,_,ht,h⟩
theorem Fl{c:CT}{d:D}{e:Expr}(h:aj c (.cst d) e=true):∃k n p,e=.Constant k n p/\(uD d k)=true:=by have h:(az (uF e) λt=>uD d t.1)=true:=h;obtain ⟨t,ht,h⟩:=aJ h;exact ⟨_,_,_,ht,h⟩
theorem Fp{c:CT}{x:String}{d:D}{e:Expr}(h:aj c (.glb x d) e=true):∃y p,e=.Name y p/\(y==Str.ofString x&&c.glo y&&c.cn.any (λp=>p.1==x&&sEq p.2 d))=true:=by have h:(az (asName e) λt=>t.1==Str.ofString x&&c.glo t.1&&c.cn.any (λp=>p.1==x&&sEq p.2 d))=true:=h;obtain ⟨t,ht,h⟩:=aJ h;exact ⟨_,_,ht,h⟩
theorem Fq{c:CT}{op:Operator}{fz:Bool}{a b:Ex}{e:Expr}(h:aj c (.bin op fz a b) e=true):∃l o r p,e=.BinOp l o r p/\(o==op&&aj c a l&&aj c b r)=true:=by have h:(az (Ek e) λt=>t.2.1==op&&aj c a t.1&&aj c b t.2.2.1)=true:=h;obtain ⟨t,ht,h⟩:=aJ h;exact ⟨_,_,_,_,ht,h⟩
theorem Ft{c:CT}{a:Ex}{e:Expr}(h:aj c (.neg a) e=true):∃x p,e=.UnaryOp .USub x p/\(aj c a x)=true:=by have h:(az (jK e) λt=>yf t.1&&aj c a t.2.1)=true:=h;obtain ⟨t,ht,h⟩:=aJ h;rw[ae]at h;exact ⟨_,_,by rw[ht,aay h.1],h.2⟩
theorem Fv{c:CT}{a:Ex}{e:Expr}(h:aj c (.not a) e=true):∃x p,e=.UnaryOp .Not x p/\(aj c a x)=true:=by have h:(az (jK e) λt=>lV t.1&&aj c a t.2.1)=true:=h;obtain ⟨t,ht,h⟩:=aJ h;rw[ae]at h;exact ⟨_,_,by rw[ht,Fd h.1],h.2⟩
theorem Fw{c:CT}{op:CmpOp}{a b:Ex}{e:Expr}(h:aj c (.cmp op a b) e=true):∃l o r p,e=.Compare l [o] [r] p/\(o==op&&aj c a l&&aj c b r)=true:=by have h:(az (lR e) λt=>(one t.2.1).any λo=>(one t.2.2.1).any λr=>o==op&&aj c a t.1&&aj c b r)=true:=h;obtain ⟨t,ht,h⟩:=aJ h;obtain ⟨o,ho,h⟩:=aM h;obtain ⟨r,hr,h⟩:=aM h;exact ⟨_,_,_,_,by rw[ht,bV ho,bV hr],h⟩
theorem Fx{c:CT}{op op':CmpOp}{a b d:Ex}{e:Expr}(h:aj c (.chn op op' a b d) e=true):∃l o o' m r p,e=.Compare l [o,o'] [m,r] p/\(o==op&&o'==op'&&aj c a l&&aj c b m&&aj c d r)=true:=by have h:(az (lR e) λt=>(two t.2.1).any λo=>(two t.2.2.1).any λr=>o.1==op&&o.2==op'&&aj c a t.1&&aj c b r.1&&aj c d r.2)=true:=h;obtain ⟨t,ht,h⟩:=aJ h;obtain ⟨o,ho,h⟩:=aM h;obtain ⟨r,hr,h⟩:=aM h;exact ⟨_,_,_,_,_,_,by rw[ht,lU ho,lU hr],h⟩
theorem Fy{c:CT}{isAnd:Bool}{x:Ex}{es:Exs}{e:Expr}(h:aj c (.boo isAnd x es) e=true):∃op v vs p,e=.BoolOp op (v::vs) p/\(op==(if isAnd then .And else .Or)&&aj c x v&&aL c es vs)=true:=by have h:(az (uG e) λt=>(hdT t.2.1).any λv=>t.1==(if isAnd then .And else .Or)&&aj c x v.1&&aL c es v.2)=true:=h;obtain ⟨t,ht,h⟩:=aJ h;obtain ⟨v,hv,h⟩:=aM h;exact ⟨_,_,_,_,by rw[ht,Fb hv],h⟩
theorem FJ{c:CT}{t:Tx}{a b:Ex}{e:Expr}(h:aj c (.ife t a b) e=true):∃t' a' b' p,e=.IfExp t' a' b' p/\(bF c t t'&&aj c a a'&&aj c b b')=true:=by have h:(az (El e) λu=>bF c t u.1&&aj c a u.2.1&&aj c b u.2.2.1)=true:=h;obtain ⟨u,ht,h⟩:=aJ h;exact ⟨_,_,_,_,ht,h⟩
theorem FN{c:CT}{es:Exs}{e:Expr}(h:aj c (.tup es) e=true):∃vs k p,e=.Tuple vs k p/\(aL c es vs)=true:=by have h:(az (gG e) λt=>aL c es t.1)=true:=h;obtain ⟨t,ht,h⟩:=aJ h;exact ⟨_,_,_,ht,h⟩
theorem FP{c:CT}{fz:Bool}{es:Exs}{e:Expr}(h:aj c (.lst fz es) e=true):∃vs p,e=.List vs p/\(aL c es vs)=true:=by have h:(az (asList e) λt=>aL c es t.1)=true:=h;obtain ⟨t,ht,h⟩:=aJ h;exact ⟨_,_,ht,h⟩
theorem FQ{c:CT}{a i:Ex}{e:Expr}(h:aj c (.idx a i) e=true):∃v s p,e=.Subscript v s p/\(aj c a v&&aj c i s)=true:=by have h:(az (gH e) λt=>aj c a t.1&&aj c i t.2.1)=true:=h;obtain ⟨t,ht,h⟩:=aJ h;exact ⟨_,_,_,ht,h⟩
theorem FT{c:CT}{fz:Bool}{a:Ex}{lo hi:Ox}{e:Expr}(h:aj c (.slc fz a lo hi) e=true):∃v l u p' p,e=.Subscript v (.Slice l u none p') p/\(aj c a v&&gj c lo l&&gj c hi u)=true:=by have h:(az (gH e) λt=>az (Em t.2.1) λs=>s.2.2.1.isNone&&(aj c a t.1&&gj c lo s.1&&gj c hi s.2.1))=true:=h;obtain ⟨t,ht,h⟩:=aJ h;obtain ⟨s,hs,h⟩:=aJ h;rw[ae,eA]at h;exact ⟨_,_,_,_,_,by rw[ht,hs,h.1],h.2⟩
theorem FW{c:CT}{f:String}{es:Exs}{e:Expr}(h:aj c (.call f es) e=true):∃x p args pos,e=.Call (.Name x p) args [] pos/\(x==Str.ofString f&&c.glo x&&(c.fs.any λp=>p.1==f&&p.2==args.length)&&!args.isEmpty&&aL c es args)=true:=by have h:((aU e).any λt=>t.1==Str.ofString f&&c.glo t.1&&(c.fs.any λp=>p.1==f&&p.2==t.2.2.1.length)&&!t.2.2.1.isEmpty&&aL c es t.2.2.1)=true:=h;obtain ⟨t,ht,h⟩:=aM h;exact ⟨_,_,_,_,cH ht,h⟩
theorem Ga{c:CT}{f:Bf}{es:Exs}{e:Expr}(h:aj c (.bcl f es) e=true):∃x p args pos,e=.Call (.Name x p) args [] pos/\(x==Str.ofString f.name&&xZ f&&c.glo x&&c.bt.contains f.name&&!args.isEmpty&&aL c es args)=true:=by have h:((aU e).any λt=>t.1==Str.ofString f.name&&xZ f&&c.glo t.1&&c.bt.contains f.name&&!t.2.2.1.isEmpty&&aL c es t.2.2.1)=true:=h;obtain ⟨t,ht,h⟩:=aM h;exact ⟨_,_,_,_,cH ht,h⟩
theorem Gb{c:CT}{fz:Bool}{f:Lf}{es:Exs}{e:Expr}(h:aj c (.lcl fz f es) e=true):∃x p args pos,e=.Call (.Name x p) args [] pos/\(x==Str.ofString f.name&&yc f&&c.glo x&&c.bt.contains f.name&&!args.isEmpty&&aL c es args)=true:=by have h:((aU e).any λt=>t.1==Str.ofString f.name&&yc f&&c.glo t.1&&c.bt.contains f.name&&!t.2.2.1.isEmpty&&aL c es t.2.2.1)=true:=h;obtain ⟨t,ht,h⟩:=aM h;exact ⟨_,_,_,_,cH ht,h⟩
theorem Gd {c:CT} {a:Ex} {t:String} {e:Expr} (h:aj c (.isi a t) e=true):∃x p v y p' pos,e=.Call (.Name x p) [v,.Name y p'] [] pos/\(x==Str.ofString "isinstance"&&c.glo x&&c.bt.contains "isinstance"&&aj c a v&&y==Str.ofString t&&c.glo y&&c.bt.contains t&&fZ t)=true:=by have h:((aU e).any λu=>(two u.2.2.1).any λv=>az (asName v.2) λy=>u.1==Str.ofString "isinstance"&&c.glo u.1&&c.bt.contains "isinstance"&&aj c a v.1&&y.1==Str.ofString t&&c.glo y.1&&c.bt.contains t&&fZ t)=true:=h;obtain ⟨u,hu,h⟩:=aM h;obtain ⟨v,hv,h⟩:=aM h;obtain ⟨y,hy,h⟩:=aJ h;exact ⟨_,_,_,_,_,_,by rw[cH hu,lU hv,hy],h⟩
theorem Ge {c:CT} {a:Ex} {C:String} {xs:List String} {e:Expr} (h:aj c (.isx a C xs) e=true):∃x p v y p' pos,e=.Call (.Name x p) [v,.Name y p'] [] pos/\(x==Str.ofString "isinstance"&&c.glo x&&c.bt.contains "isinstance"&&aj c a v&&y==Str.ofString C&&c.glo y&&c.xs.contains (C,false)&&xs.all λx=>c.xs.contains (x,true))=true:=by have h:((aU e).any λu=>(two u.2.2.1).any λv=>az (asName v.2) λy=>u.1==Str.ofString "isinstance"&&c.glo u.1&&c.bt.contains "isinstance"&&aj c a v.1&&y.1==Str.ofString C&&c.glo y.1&&c.xs.contains (C,false)&&xs.all λx=>c.xs.contains (x,true))=true:=h;obtain ⟨u,hu,h⟩:=aM h;obtain ⟨v,hv,h⟩:=aM h;obtain ⟨y,hy,h⟩:=aJ h;exact ⟨_,_,_,_,_,_,by rw[cH hu,lU hv,hy],h⟩
theorem Gf {c:CT} {fz:Bool} {a:Ex} {e:Expr} (h:aj c (.rgl fz a) e=true):∃x p x' p' e2 pos' pos,e=.Call (.Name x p) [.Call (.Name x' p') [e2] [] pos'] [] pos/\(x==Str.ofString "list"&&c.glo x&&c.bt.contains "list"&&x'==Str.ofString "range"&&c.glo x'&&c.bt.contains "range"&&aj c a e2)=true:=by have h:((aU e).any λt=>(one t.2.2.1).any λe1=>(aU e1).any λu=>(one u.2.2.1).any λe2=>t.1==Str.ofString "list"&&c.glo t.1&&c.bt.contains "list"&&u.1==Str.ofString "range"&&c.glo u.1&&c.bt.contains "range"&&aj c a e2)=true:=h;obtain ⟨t,ht,h⟩:=aM h;obtain ⟨e1,he1,h⟩:=aM h;obtain ⟨u,hu,h⟩:=aM h;obtain ⟨e2,he2,h⟩:=aM h;exact ⟨_,_,_,_,_,_,_,by rw[cH ht,bV he1,cH hu,bV he2],h⟩
theorem Gg {c:CT} {a:Ex} {e:Expr} (h:aj c (.rgt a) e=true):∃x p x' p' e2 pos' pos,e=.Call (.Name x p) [.Call (.Name x' p') [e2] [] pos'] [] pos/\(x==Str.ofString "tuple"&&c.glo x&&c.bt.contains "tuple"&&x'==Str.ofString "range"&&c.glo x'&&c.bt.contains "range"&&aj c a e2)=true:=by have h:((aU e).any λt=>(one t.2.2.1).any λe1=>(aU e1).any λu=>(one u.2.2.1).any λe2=>t.1==Str.ofString "tuple"&&c.glo t.1&&c.bt.contains "tuple"&&u.1==Str.ofString "range"&&c.glo u.1&&c.bt.contains "range"&&aj c a e2)=true:=h;obtain ⟨t,ht,h⟩:=aM h;obtain ⟨e1,he1,h⟩:=aM h;obtain ⟨u,hu,h⟩:=aM h;obtain ⟨e2,he2,h⟩:=aM h;exact ⟨_,_,_,_,_,_,_,by rw[cH ht,bV he1,cH hu,bV he2],h⟩
theorem Gi{c:CT}{m:Mf}{o:Ex}{es:Exs}{e:Expr}(h:aj c (.mth m o es) e=true):∃v x apos args cpos,e=.Call (.Attribute v x apos) args [] cpos/\(x==Str.ofString m.name&&aj c o v&&!uE v&&(apos.endLine==cpos.line)&&decide (args.length < 29)&&!args.isEmpty&&aL c es args)=true:=by have h:(az (yd e) λt=>az (Eo t.1) λv=>t.2.2.1.isEmpty&&(v.2.1==Str.ofString m.name&&aj c o v.1&&!uE v.1&&(v.2.2.endLine==t.2.2.2.line)&&decide (t.2.1.length < 29)&&!t.2.1.isEmpty&&aL c es t.2.1))=true:=h;obtain ⟨t,ht,h⟩:=aJ h;obtain ⟨v,hv,h⟩:=aJ h;rw[ae,List.isEmpty_iff]at h;exact ⟨_,_,_,_,_,by rw[ht,hv,h.1],h.2⟩
theorem Gj{c:CT}{fz:Bool}{elt:Ex}{tg:Tg}{it:It'}{cond:Tx}{N:List String}{cap:List (Option Nat)}{e:Expr}(h:aj c (.comp fz elt tg it cond N cap) e=true):∃elt' tg' iter ifs as scope pos,e=.ListComp elt' [⟨tg',iter,ifs,as⟩] scope pos/\(decide (as=0)&&bO c it tg' iter&&gF c.N scope (N.map Str.ofString) cap&&jJ c scope&&fH (N.map Str.ofString)&&cI (c.comp (N.map Str.ofString) scope) tg tg'&&lX (c.comp (N.map Str.ofString) scope) cond ifs&&aj (c.comp (N.map Str.ofString) scope) elt elt')=true:=by have h:(az (Ep e) λt=>(one t.2.1).any λg=>decide (g.is_async=0)&&bO c it g.target g.iter&&gF c.N t.2.2.1 (N.map Str.ofString) cap&&jJ c t.2.2.1&&fH (N.map Str.ofString)&&cI (c.comp (N.map Str.ofString) t.2.2.1) tg g.target&&((yg cond&&g.ifs.isEmpty)||(one g.ifs).any λf=>bF (c.comp (N.map Str.ofString) t.2.2.1) cond f)&&aj (c.comp (N.map Str.ofString) t.2.2.1) elt t.1)=true:=h;obtain ⟨t,ht,h⟩:=aJ h;obtain ⟨⟨tg',iter,ifs,as⟩,hg,h⟩:=aM h;exact ⟨t.1,tg',iter,ifs,as,t.2.2.1,t.2.2.2,(ht).trans (by rw[bV hg]),h⟩
theorem aaB{c:CT}{t:Tx}{e:Expr}(h:bF c (.not t) e=true):∃x p,e=.UnaryOp .Not x p/\(bF c t x)=true:=by have h:(az (jK e) λu=>lV u.1&&bF c t u.2.1)=true:=h;obtain ⟨u,ht,h⟩:=aJ h;rw[ae]at h;exact ⟨_,_,by rw[ht,Fd h.1],h.2⟩
theorem aaC{c:CT}{isAnd:Bool}{x:Tx}{es:Txs}{e:Expr}(h:bF c (.boo isAnd x es) e=true):∃op v vs p,e=.BoolOp op (v::vs) p/\(op==(if isAnd then .And else .Or)&&bF c x v&&iD c es vs)=true:=by have h:(az (uG e) λu=>(hdT u.2.1).any λv=>u.1==(if isAnd then .And else .Or)&&bF c x v.1&&iD c es v.2)=true:=h;obtain ⟨t,ht,h⟩:=aJ h;obtain ⟨v,hv,h⟩:=aM h;exact ⟨_,_,_,_,by rw[ht,Fb hv],h⟩
theorem Gk {c:CT} {a:Ex} {tg e:Expr} (h:bO c (.rng a) tg e=true):∃x p v pos,e=.Call (.Name x p) [v] [] pos/\(x==Str.ofString "range"&&c.glo x&&c.bt.contains "range"&&aj c a v)=true:=by have h:((aU e).any λt=>(one t.2.2.1).any λv=>t.1==Str.ofString "range"&&c.glo t.1&&c.bt.contains "range"&&aj c a v)=true:=h;obtain ⟨t,ht,h⟩:=aM h;obtain ⟨v,hv,h⟩:=aM h;exact ⟨_,_,_,_,by rw[cH ht,bV hv],h⟩
theorem Gm {c:CT} {a:Ex} {tg e:Expr} (h:bO c (.rev a) tg e=true):∃x p y q v pos pos',e=.Call (.Name x p) [.Call (.Name y q) [v] [] pos] [] pos'/\(x==Str.ofString "reversed"&&c.glo x&&c.bt.contains "reversed"&&y==Str.ofString "range"&&c.glo y&&c.bt.contains "range"&&aj c a v)=true:=by have h:((aU e).any λt=>(one t.2.2.1).any λv=>(aU v).any λt'=>(one t'.2.2.1).any λv'=>t.1==Str.ofString "reversed"&&c.glo t.1&&c.bt.contains "reversed"&&t'.1==Str.ofString "range"&&c.glo t'.1&&c.bt.contains "range"&&aj c a v')=true:=h;obtain ⟨t,ht,h⟩:=aM h;obtain ⟨v,hv,h⟩:=aM h;obtain ⟨t',ht',h⟩:=aM h;obtain ⟨v',hv',h⟩:=aM h;exact ⟨_,_,_,_,_,_,_,by rw[cH ht,bV hv,cH ht',bV hv'],h⟩
theorem Gn {c:CT} {a:Ex} {tg e:Expr} (h:bO c (.enm a) tg e=true):∃ts k p0 x p v pos,tg=.Tuple ts k p0/\e=.Call (.Name x p) [v] [] pos/\(x==Str.ofString "enumerate"&&c.glo x&&c.bt.contains "enumerate"&&aj c a v)=true:=by have h:(az (gG tg) λ_=>(aU e).any λt=>(one t.2.2.1).any λv=>t.1==Str.ofString "enumerate"&&c.glo t.1&&c.bt.contains "enumerate"&&aj c a v)=true:=h;obtain ⟨g,hg,h⟩:=aJ h;obtain ⟨t,ht,h⟩:=aM h;obtain ⟨v,hv,h⟩:=aM h;exact ⟨_,_,_,_,_,_,_,hg,by rw[cH ht,bV hv],h⟩
theorem Gp {c:CT} {a b:Ex} {tg e:Expr} (h:bO c (.zip a b) tg e=true):∃ts k p0 x p v v' pos,tg=.Tuple ts k p0/\e=.Call (.Name x p) [v,v'] [] pos/\(x==Str.ofString "zip"&&c.glo x&&c.bt.contains "zip"&&aj c a v&&aj c b v')=true:=by have h:(az (gG tg) λ_=>(aU e).any λt=>(two t.2.2.1).any λv=>t.1==Str.ofString "zip"&&c.glo t.1&&c.bt.contains "zip"&&aj c a v.1&&aj c b v.2)=true:=h;obtain ⟨g,hg,h⟩:=aJ h;obtain ⟨t,ht,h⟩:=aM h;obtain ⟨v,hv,h⟩:=aM h;exact ⟨_,_,_,_,_,_,_,_,hg,by rw[cH ht,lU hv],h⟩
theorem aaD{c:CT}{x:Ex}{st:Stmt}(h:aZ c (.exp x) st=true):∃e pos,st=.Expr e pos/\(!dz e&&aj c x e)=true:=by have h:(az (uH st) λt=>!dz t.1&&aj c x t.1)=true:=h;obtain ⟨t,ht,h⟩:=aJ h;exact ⟨_,_,ht,h⟩
theorem Gq{c:CT}{g:Tg}{x:Ex}{st:Stmt}(h:aZ c (.asg g x) st=true):∃tg e pos,st=.Assign [tg] e pos/\(cI c g tg&&aj c x e&&yj g x e)=true:=by have h:(az (jL st) λt=>(one t.1).any λtg=>cI c g tg&&aj c x t.2.1&&yj g x t.2.1)=true:=h;obtain ⟨t,ht,h⟩:=aJ h;obtain ⟨g,hg,h⟩:=aM h;exact ⟨_,_,_,by rw[ht,bV hg],h⟩
theorem aaE{c:CT}{o i x:Ex}{st:Stmt}(h:aZ c (.set o i x) st=true):∃o' i' tpos e pos,st=.Assign [.Subscript o' i' tpos] e pos/\(aj c o o'&&aj c i i'&&aj c x e&&!dz e)=true:=by have h:(az (jL st) λt=>(one t.1).any λtg=>az (gH tg) λu=>aj c o u.1&&aj c i u.2.1&&aj c x t.2.1&&!dz t.2.1)=true:=h;obtain ⟨t,ht,h⟩:=aJ h;obtain ⟨g,hg,h⟩:=aM h;obtain ⟨u,hu,h⟩:=aJ h;exact ⟨_,_,_,_,_,by rw[ht,bV hg,hu],h⟩
theorem aaF{c:CT}{i:Nat}{op:Operator}{x:Ex}{st:Stmt}(h:aZ c (.aug i op x) st=true):∃y py o e pos,st=.AugAssign (.Name y py) o e pos/\(o==op&&(c.N[i]?==some y)&&c.sto y&&okN y&&aj c x e)=true:=by have h:(az (uI st) λt=>az (asName t.1) λy=>t.2.1==op&&(c.N[i]?==some y.1)&&c.sto y.1&&okN y.1&&aj c x t.2.2.1)=true:=h;obtain ⟨t,ht,h⟩:=aJ h;obtain ⟨u,hu,h⟩:=aJ h;exact ⟨_,_,_,_,_,by rw[ht,hu],h⟩
theorem aaG{c:CT}{o i:Ex}{op:Operator}{x:Ex}{st:Stmt}(h:aZ c (.augs o i op x) st=true):∃o' i' tpos p e pos,st=.AugAssign (.Subscript o' i' tpos) p e pos/\(p==op&&aj c o o'&&aj c i i'&&aj c x e)=true:=by have h:(az (uI st) λt=>az (gH t.1) λu=>t.2.1==op&&aj c o u.1&&aj c i u.2.1&&aj c x t.2.2.1)=true:=h;obtain ⟨t,ht,h⟩:=aJ h;obtain ⟨u,hu,h⟩:=aJ h;exact ⟨_,_,_,_,_,_,by rw[ht,hu],h⟩
theorem aaH{c:CT}{C:String}{es:Exs}{st:Stmt}(h:aZ c (.rse C es) st=true):∃x np m cpos pos,st=.Raise (some (.Call (.Name x np) [m] [] cpos)) none pos/\(x==Str.ofString C&&c.glo x&&c.xs.contains (C,true)&&uK c es m)=true:=by have h:(az (Er st) λt=>t.2.1.isNone&&t.1.any λe=>(aU e).any λu=>u.1==Str.ofString C&&c.glo u.1&&c.xs.contains (C,true)&&(one u.2.2.1).any λm=>uK c es m)=true:=h;obtain ⟨t,ht,h⟩:=aJ h;rw[ae,eA]at h;obtain ⟨e,he,h2⟩:=aM h.2;obtain ⟨u,hu,h3⟩:=aM h2;rw[ae]at h3;obtain ⟨m,hm,h4⟩:=aM h3.2;exact ⟨_,_,m,_,_,by rw[ht,h.1,he,cH hu,bV hm],by rw[ae];exact ⟨h3.1,h4⟩⟩
theorem aaI{b:Bool}{k:Const}(h:yl b k=true):k=.bool b:=by
 cases k <;> first | (cases h;done) |skip
 rw[show yl b (.bool _)=(_==b) from rfl,av]at h;rw[h]
theorem aaJ{c:CT}{b:Tb}{C:String}{h:Hd}{xs:List String}{st:Stmt}(hh:aZ c (.tryx b C h xs) st=true):
  ∃body cx p1 nm y p2 e p4 p5 pos,st=.Try body [.ExceptHandler (some (.Name cx p1)) nm [.Assign [.Name y p2] e p4] p5] [] [] pos/\
   jM c b body=true/\(xs.all λx=>c.xs.contains (x,true))=true/\(C=="ValueError")=false/\(cx==Str.ofString C&&c.glo cx&&c.xs.contains (C,false))=true/\uL c h nm y e=true:=by
 have hh:(az (Es st) λt=>t.2.2.1.isEmpty&&t.2.2.2.1.isEmpty&&jM c b t.1&&(xs.all λx=>c.xs.contains (x,true))&&!(C=="ValueError")&&(one t.2.1).any λhd=>az (Et hd) λw=>w.1.any λte=>az (asName te) λn=>(n.1==Str.ofString C&&c.glo n.1&&c.xs.contains (C,false))&&(one w.2.2.1).any λs1=>az (jL s1) λa=>(one a.1).any λtg=>az (asName tg) λy=>uL c h w.2.1 y.1 a.2.1)=true:=hh;obtain ⟨t,ht,h1⟩:=aJ hh;simp only[ae,List.isEmpty_iff,ff]at h1;obtain ⟨⟨⟨⟨⟨e1,e2⟩,hx⟩,ha⟩,hv⟩,h2⟩:=h1;obtain ⟨hd,hhd,h3⟩:=aM h2;obtain ⟨w,hw,h3⟩:=aJ h3;obtain ⟨te,hte,h4⟩:=aM h3;obtain ⟨n,hn',h4⟩:=aJ h4;simp only[ae]at h4;obtain ⟨s1,hs1,h5⟩:=aM h4.2;obtain ⟨a,ha',h5⟩:=aJ h5;obtain ⟨tg,htg,h5⟩:=aM h5;obtain ⟨y,hy,h5⟩:=aJ h5;exact ⟨_,_,_,_,_,_,_,_,_,_,by rw[ht,e1,e2,bV hhd,hw,hte,hn',bV hs1,ha',bV htg,hy],hx,ha,hv,by simp only[ae];exact h4.1,h5⟩
theorem aaK{c:CT}{f:String}{es:Exs}{sts:List Stmt}(h:jM c (.call f es) sts=true):∃x p args cpos p0,sts=[.Expr (.Call (.Name x p) args [] cpos) p0]/\
   (x==Str.ofString f&&c.glo x&&(c.fs.any λp=>p.1==f&&p.2==args.length)&&!args.isEmpty&&aL c es args)=true:=by
 have h:((one sts).any λs0=>az (uH s0) λe0=>(aU e0.1).any λu=>(u.1==Str.ofString f&&c.glo u.1&&(c.fs.any λp=>p.1==f&&p.2==u.2.2.1.length)&&!u.2.2.1.isEmpty&&aL c es u.2.2.1))=true:=h;obtain ⟨s0,hs0,h⟩:=aM h;obtain ⟨e0,he0,h⟩:=aJ h;obtain ⟨u,hu,h⟩:=aM h;exact ⟨_,_,_,_,_,by rw[bV hs0,he0,cH hu],h⟩
theorem aaL{c:CT}{x:Ex}{st:Stmt}(h:aZ c (.ret x) st=true):∃e pos,st=.Return (some e) pos/\(aj c x e)=true:=by have h:(az (uJ st) λt=>t.1.any λe=>aj c x e)=true:=h;obtain ⟨t,ht,h⟩:=aJ h;obtain ⟨e,he,h⟩:=aM h;exact ⟨_,_,by rw[ht,he],h⟩
theorem aaM{c:CT}{st:Stmt}(h:aZ c .rtn st=true):∃pos,st=.Return none pos/\(true)=true:=by have h:(az (uJ st) λt=>t.1.isNone)=true:=h;obtain ⟨t,ht,h⟩:=aJ h;rw[eA]at h;exact ⟨_,by rw[ht,h],rfl⟩
theorem aaN{c:CT}{t:Tx}{a b:Sxs}{st:Stmt}(h:aZ c (.ite t a b) st=true):∃t' a' b' pos,st=.If t' a' b' pos/\(bF c t t'&&aC c a a'&&aC c b b')=true:=by have h:(az (Eu st) λu=>bF c t u.1&&aC c a u.2.1&&aC c b u.2.2.1)=true:=h;obtain ⟨u,ht,h⟩:=aJ h;exact ⟨_,_,_,_,ht,h⟩
theorem aaO{c:CT}{g:Tg}{it:It'}{b:Sxs}{st:Stmt}(h:aZ c (.for_ g it b) st=true):∃tg iter body pos,st=.For tg iter body [] pos/\(cI c g tg&&bO c it tg iter&&aC c b body)=true:=by have h:(az (Ew st) λt=>t.2.2.2.1.isEmpty&&(cI c g t.1&&bO c it t.1 t.2.1&&aC c b t.2.2.1))=true:=h;obtain ⟨t,ht,h⟩:=aJ h;rw[ae,List.isEmpty_iff]at h;exact ⟨_,_,_,_,by rw[ht,h.1],h.2⟩
theorem aaP{c:CT}{st:Stmt}(h:aZ c .pas st=true):∃pos,st=.Pass pos/\(true)=true:=by obtain ⟨⟨t,ht⟩,_⟩:=cS.mp (show (Ey st).isSome=true from h);exact ⟨t,ht,rfl⟩
theorem aaQ{c:CT}{st:Stmt}(h:aZ c .brk st=true):∃pos,st=.Break pos/\(true)=true:=by obtain ⟨⟨t,ht⟩,_⟩:=cS.mp (show (Ez st).isSome=true from h);exact ⟨t,ht,rfl⟩
theorem aaR{c:CT}{st:Stmt}(h:aZ c .cnt st=true):∃pos,st=.Continue pos/\(true)=true:=by obtain ⟨⟨t,ht⟩,_⟩:=cS.mp (show (EY st).isSome=true from h);exact ⟨t,ht,rfl⟩
def lZ:Expr->Bool
 |.Starred ..=>false
 |.Set ..=>false
 |.Slice ..=>false
 |_=>true
theorem bD{c:CT}:∀(x:Ex){e:Expr},aj c x e=true->lZ e=true
 |.frz a,e,h=>bD a (show aj c a e=true from h)
 |.var _,e,h=>by obtain ⟨_,_,rfl,_⟩:=Fj h;rfl
 |.cst _,e,h=>by obtain ⟨_,_,_,rfl,_⟩:=Fl h;rfl
 |.glb _ _,e,h=>by obtain ⟨_,_,rfl,_⟩:=Fp h;rfl
 |.bin _ _ _ _,e,h=>by obtain ⟨_,_,_,_,rfl,_⟩:=Fq h;rfl
 |.neg _,e,h=>by obtain ⟨_,_,rfl,_⟩:=Ft h;rfl
 |.cmp _ _ _,e,h=>by obtain ⟨_,_,_,_,rfl,_⟩:=Fw h;rfl
 |.chn _ _ _ _ _,e,h=>by obtain ⟨_,_,_,_,_,_,rfl,_⟩:=Fx h;rfl
 |.not _,e,h=>by obtain ⟨_,_,rfl,_⟩:=Fv h;rfl
 |.boo _ _ _,e,h=>by obtain ⟨_,_,_,_,rfl,_⟩:=Fy h;rfl
 |.ife _ _ _,e,h=>by obtain ⟨_,_,_,_,rfl,_⟩:=FJ h;rfl
 |.tup _,e,h=>by obtain ⟨_,_,_,rfl,_⟩:=FN h;rfl
 |.lst _ _,e,h=>by obtain ⟨_,_,rfl,_⟩:=FP h;rfl
 |.idx _ _,e,h=>by obtain ⟨_,_,_,rfl,_⟩:=FQ h;rfl
 |.slc _ _ _ _,e,h=>by obtain ⟨_,_,_,_,_,rfl,_⟩:=FT h;rfl
 |.rvs _ _ _,_,h=>nomatch (show false=true from h)
 |.call _ _,e,h=>by obtain ⟨_,_,_,_,rfl,_⟩:=FW h;rfl
 |.bcl _ _,e,h=>by obtain ⟨_,_,_,_,rfl,_⟩:=Ga h;rfl
 |.lcl _ _ _,e,h=>by obtain ⟨_,_,_,_,rfl,_⟩:=Gb h;rfl
 |.isi _ _,e,h=>by obtain ⟨_,_,_,_,_,_,rfl,_⟩:=Gd h;rfl
 |.rgl _ _,e,h=>by obtain ⟨_,_,_,_,_,_,_,rfl,_⟩:=Gf h;rfl
 |.rgt _,e,h=>by obtain ⟨_,_,_,_,_,_,_,rfl,_⟩:=Gg h;rfl
 |.fst _,_,h=>nomatch (show false=true from h)
 |.isx _ _ _,e,h=>by obtain ⟨_,_,_,_,_,_,rfl,_⟩:=Ge h;rfl
 |.mth _ _ _,e,h=>by obtain ⟨_,_,_,_,_,rfl,_⟩:=Gi h;rfl
 |.comp _ _ _ _ _ _ _,e,h=>by obtain ⟨_,_,_,_,_,_,_,rfl,_⟩:=Gj h;rfl
theorem cu{e:Expr}(h:lZ e=true):noStar e=true:=by cases e <;> first |rfl |exact nomatch (show false=true from h)
theorem Gs{e:Expr}(h:lZ e=true)(op:CmpOp):behindInMarks op e=false:=by cases e <;> first |rfl |exact nomatch (show false=true from h)
theorem aaS{e:Expr}(h:lZ e=true)(env:Env)(x:Value):foldedSetIterable e env x=pure x:=by cases e <;> first |rfl |exact nomatch (show false=true from h)
theorem aaT{e:Expr}(h:lZ e=true):BL e:=by intro o i;cases e <;> first |rfl |exact nomatch (show false=true from h)
theorem aaU{e:Expr}(h:iC e=true)(env:Env)(whole:Sem Value):isTrue e env whole=(do let v <-whole;standAt e.pos;holding [v] (truthy v)):=by
 cases e with
 |UnaryOp op x p=>cases op <;> first |rfl |exact nomatch (show false=true from h)
 |_=>first |rfl |exact nomatch (show false=true from h)
def XV(K:PySem.W.Frag)(H:Hp)(F:FZ)(x:Xn)(cv:Value)(od:Option Addr):Prop:=
 ∃C,cv=.ref C/\PySem.W.nsIn K mainGlobals (Str.ofString x.cls)=some (some (.ref C))/\
  match x.fld with
  |.non=>True
  |d=>∃a f v,od=some a/\H a=some (.xd [(f,v)])/\Rep K H F d v
def XR(K:PySem.W.Frag)(H:Hp)(F:FZ)(x:Xn)(EX:XK):Prop:=∀cv od,XV K H F x cv od->EX cv od H
def PX(K:PySem.W.Frag)(H:Hp)(F:FZ)(EX:XK):EK:=λx G'=>∀H' F',Ext H F H' F'->R K H' F' G'->XR K H' F' x EX
theorem el{α β γ:Type}{p q r s:α->β->γ->Prop}{C:Prop}(h:∃x y z,p x y z/\q x y z/\r x y z/\s x y z)(k:∀x y z,p x y z->q x y z->r x y z->s x y z->C):C:=by obtain ⟨x,y,z,h1,h2,h3,h4⟩:=h;exact k x y z h1 h2 h3 h4
def lift(K:PySem.W.Frag)(n:Nat)(S:RF.Spec):Sp:=λvs H Q EX=>vs.length=n/\∃F G ds,R K H F G/\Reps K H F ds vs/\S.t ds G (PV K H F Q) (PX K H F EX)
def CV(K:PySem.W.Frag)(mg:Str->Option Value)(C':String)(cv:V):Prop:=
 (∃a,cv=.ref a/\mg (Str.ofString C')=some (.ref a)/\qX K a=true)\/(C'="ValueError"/\cv=.ty "ValueError"/\mg (Str.ofString C')=none)
def XI(K:PySem.W.Frag)(C C':String)(cv:V):Prop:=
 ∃c,PySem.W.nsIn K mainGlobals (Str.ofString C)=some (some (.ref c))/\lA K c=true/\PySem.W.mroIn K c (valOf cv)=some (bC C C')/\(bC C C'=false->(Value.ref c==valOf cv)=false)
theorem CV.ok{K:PySem.W.Frag}{mg:Str->Option Value}{C':String}{cv:V}(h:CV K mg C' cv):jo K (valOf cv)=true:=by
 rcases h with ⟨a,rfl,_,h⟩ |⟨_,rfl,_⟩
 ·have kc:=Dh h;show ((PySem.W.clsIn K a).isSome&&PySem.W.typeIn K (.ref a)==some (.type "type"))=true;rw[kc.c,kc.t];rfl
 ·rfl
structure Bs where
 H:Hp
 F:FZ
structure Stat(Φ:aa)(CX:CXT)(k:Nat)(c:CT)(E:EK)(B:Bs)(X:Cx):Prop where
 N:X.N=c.N
 nd:X.N.Nodup
 calm:X.calm=true
 own:PassesOwn (model X.prog X.w) X.A X.env X.xe
 kd:X.env.kindOf=λx=>X.env.scope.names.lookup x
 vis:∀x,iB (c.kd.lookup x)=true->Vis X.env.scope x
 cel:∀x,(c.kd.lookup x=some .cell\/c.kd.lookup x=some .free)->(X.env.kindOf x=some .cell\/X.env.kindOf x=some .free)
 glo:∀x,c.kd.lookup x=some .globalImplicit->Gl X x
 sto:∀x,c.sto x=true->Loc X.env.scope x/\(X.fn x=true\/X.env.scope.names.lookup x=some .local)
 room:Room k X.A
 call:∀f n,(f,n)∈c.fs->∃fa fd ps,FnOk X.prog X.w X.K X.mg X.base CX k fa fd ps (lift X.K n (Φ f))/\PySem.W.keepIn X.K (.ref fa)=true/\Binds X.K fd ps []/\X.mg (Str.ofString f)=some (.ref fa)
 blt:∀f,f∈c.bt->X.mg (Str.ofString f)=none
 con:∀x d,(x,d)∈c.cn->∃u v,X.mg (Str.ofString x)=some u/\RelV v u/\∀H F,Rep X.K H F d v
 exc:∃EX,ji CX X EX/\Throws X EX/\∀x G' H' F',E x G'->Ext B.H B.F H' F'->R X.K H' F' G'->XR X.K H' F' x EX
 nox:∀(Y:Cx),ji CX Y λ_ _ _=>False
 xcl:∀C,c.xs.contains (C,true)=true->∃a,X.mg (Str.ofString C)=some (.ref a)/\ig X.K a=true/\PySem.W.nsIn X.K mainGlobals (Str.ofString C)=some (some (.ref a))
 loc:∀x,c.kd.lookup x=some .local->X.env.scope.names.lookup x=some .local
 xis:∀C',c.xs.contains (C',false)=true->∃cv,CV X.K X.mg C' cv/\∀C,c.xs.contains (C,true)=true->XI X.K C C' cv
 trc:c.xs≠[]->CX=CX1 X.prog X.w/\X.stack=X.env::X.outer/\X.ex=[]
def tE(K:PySem.W.Frag)(B:Bs)(w:ak->DH->(D->DH->Prop)->Prop):TE:=λσ H Q=>∃ρ F G,Ext B.H B.F H F/\EnvR K H F ρ σ/\R K H F G/\w ρ G (PV K H F Q)
def tB'(K:PySem.W.Frag)(B:Bs)(w:ak->DH->(Bool->DH->Prop)->Prop):TT:=λσ H Q=>∃ρ F G,Ext B.H B.F H F/\EnvR K H F ρ σ/\R K H F G/\w ρ G (PB K H F Q)
def tL(K:PySem.W.Frag)(B:Bs)(w:ak->DH->(List D->DH->Prop)->Prop):TA:=λσ H Q=>∃ρ F G,Ext B.H B.F H F/\EnvR K H F ρ σ/\R K H F G/\w ρ G (PLs K H F Q)
noncomputable def POp(K:PySem.W.Frag)(H:Hp)(F:FZ)(Q:Option Int->Hp->Prop):Option Int->DH->Prop:=λb G'=>∀H' F',Ext H F H' F'->R K H' F' G'->Q b H'
def Gu(K:PySem.W.Frag)(B:Bs)(w:ak->DH->(Option Int->DH->Prop)->Prop):TO:=λσ H Q=>∃ρ F G,Ext B.H B.F H F/\EnvR K H F ρ σ/\R K H F G/\w ρ G (POp K H F Q)
theorem peI{X:Cx}{e:Expr}{t t':TE}(h:PE X e t)(i:∀σ H Q,t' σ H Q->t σ H Q):PE X e t':=λpins s σ H Q I q=>h pins s σ H Q I (i σ H Q q)
theorem ptI{X:Cx}{e:Expr}{t t':TT}(h:PT X e t)(i:∀σ H Q,t' σ H Q->t σ H Q):PT X e t':=λpins s σ H Q I q=>h pins s σ H Q I (i σ H Q q)
theorem pwI{X:Cx}{e:Expr}{t t':TT}(h:PW X e t)(i:∀σ H Q,t' σ H Q->t σ H Q):PW X e t':=λwh pins s σ H Q I q=>h wh pins s σ H Q I (i σ H Q q)
theorem paI{X:Cx}{e:List Expr}{t t':TA}(h:PA X e t)(i:∀σ H Q,t' σ H Q->t σ H Q):PA X e t':=λpos pins s σ H Q I q=>h pos pins s σ H Q I (i σ H Q q)
section
variable {Φ:aa} {CX:CXT} {k:Nat} {c:CT} {E:EK} {B:Bs} {X:Cx}
theorem aN{K:PySem.W.Frag}{x:Ex}{σ:L2.St}{H:Hp}{F:FZ}{G:DH}{ρ:ak}{W:D->DH->Prop}{Q:VK}(e0:Ext B.H B.F H F)(he:EnvR K H F ρ σ)(r:R K H F G)(hw:wpE Φ x E ρ G W)
  (h:∀d G1 H1 F1 v,W d G1->Ext B.H B.F H1 F1->Ext H F H1 F1->EnvR K H1 F1 ρ σ->R K H1 F1 G1->Rep K H1 F1 d v->Q v H1):tE K B (wpE Φ x E) σ H Q:=
 ⟨ρ,F,G,e0,he,r,aH x (λd G1 q H1 F1 v x1 r1 rv=>h d G1 H1 F1 v q (e0.trans x1) x1 (he.ext x1) r1 rv) hw⟩
theorem cO{K:PySem.W.Frag}{x:Exs}{σ:L2.St}{H:Hp}{F:FZ}{G:DH}{ρ:ak}{W:List D->DH->Prop}{Q:List V->Hp->Prop}(e0:Ext B.H B.F H F)(he:EnvR K H F ρ σ)(r:R K H F G)(hw:aP Φ x E ρ G W)
  (h:∀d G1 H1 F1 v,W d G1->Ext B.H B.F H1 F1->Ext H F H1 F1->EnvR K H1 F1 ρ σ->R K H1 F1 G1->Reps K H1 F1 d v->Q v H1):tL K B (aP Φ x E) σ H Q:=
 ⟨ρ,F,G,e0,he,r,dw x (λd G1 q H1 F1 v x1 r1 rv=>h d G1 H1 F1 v q (e0.trans x1) x1 (he.ext x1) r1 rv) hw⟩
theorem jN{K:PySem.W.Frag}{x:Tx}{σ:L2.St}{H:Hp}{F:FZ}{G:DH}{ρ:ak}{W:Bool->DH->Prop}{Q:Bool->Hp->Prop}(e0:Ext B.H B.F H F)(he:EnvR K H F ρ σ)(r:R K H F G)(hw:wpT Φ x E ρ G W)
  (h:∀d G1 H1 F1,W d G1->Ext B.H B.F H1 F1->Ext H F H1 F1->EnvR K H1 F1 ρ σ->R K H1 F1 G1->Q d H1):tB' K B (wpT Φ x E) σ H Q:=
 ⟨ρ,F,G,e0,he,r,du x (λd G1 q H1 F1 x1 r1=>h d G1 H1 F1 q (e0.trans x1) x1 (he.ext x1) r1) hw⟩
theorem Gv{K:PySem.W.Frag}{x:Ox}{σ:L2.St}{H:Hp}{F:FZ}{G:DH}{ρ:ak}{W:Option Int->DH->Prop}{Q:Option Int->Hp->Prop}(e0:Ext B.H B.F H F)(he:EnvR K H F ρ σ)(r:R K H F G)(hw:wpO Φ x E ρ G W)
  (h:∀d G1 H1 F1,W d G1->Ext B.H B.F H1 F1->Ext H F H1 F1->EnvR K H1 F1 ρ σ->R K H1 F1 G1->Q d H1):Gu K B (wpO Φ x E) σ H Q:=
 ⟨ρ,F,G,e0,he,r,xN x (λd G1 q H1 F1 x1 r1=>h d G1 H1 F1 q (e0.trans x1) x1 (he.ext x1) r1) hw⟩
theorem PV.later{K:PySem.W.Frag}{H H1:Hp}{F F1:FZ}{Q:VK}{d:D}{G:DH}(h:PV K H F Q d G)(x:Ext H F H1 F1):PV K H1 F1 Q d G:=λH' F' v x1=>h H' F' v (x.trans x1)
theorem PB.later{K:PySem.W.Frag}{H H1:Hp}{F F1:FZ}{Q:Bool->Hp->Prop}{d:Bool}{G:DH}(h:PB K H F Q d G)(x:Ext H F H1 F1):PB K H1 F1 Q d G:=λH' F' x1=>h H' F' (x.trans x1)
theorem PB.now{K:PySem.W.Frag}{H:Hp}{F:FZ}{Q:Bool->Hp->Prop}{d:Bool}{G:DH}(h:PB K H F Q d G)(r:R K H F G):Q d H:=h H F (Ext.refl H F) r
theorem jO(S:Stat Φ CX k c E B X):X.A.units+100 < cLine:=by have:=S.room.un;omega
theorem bx {x:Str} (h:okN x=true):(x==("__debug__":Str))=false:=by
 unfold okN at h;cases e:x==("__debug__":Str) with
 |false=>rfl
 |true=>rw[e]at h;simp at h
theorem Gw {x:Str} (h:okN x=true):(x==("__classdict__":Str))=false:=by
 unfold okN at h;cases e:x==("__classdict__":Str) with
 |false=>rfl
 |true=>rw[e]at h;simp at h
theorem cJ {x:Str} (h:okN x=true):x≠"__name__":=by unfold okN at h;intro e;rw[av.mpr e]at h;simp at h
theorem bQ{x:Str}(h:c.glo x=true):c.kd.lookup x=some .globalImplicit/\okN x=true:=by unfold CT.glo at h;rw[ae,av]at h;exact h
theorem aaV(S:Stat Φ CX k c E B X){i:Nat}{e:Expr}(h:aj c (.var i) e=true):PE X e (tE X.K B (wpE Φ (.var i) E)):=by
 replace h:=Fj h;obtain ⟨x,pos,rfl,h⟩:=h
 ·rw[ae,ae,av]at h;refine peI (wk (i:=i) (by rw[S.N];exact h.1.1) (S.vis x h.1.2) (bx h.2) (Gw h.2)) λσ H Q q=>?_;obtain ⟨ρ,F,G,_,he,r,hw⟩:=q;rw[rT]at hw;split at hw
  ·rename_i d hd;obtain ⟨v,e1,rv⟩:=he.get hd;exact ⟨v,e1,hw.now r rv⟩
  ·exact hw.elim
theorem aaW(S:Stat Φ CX k c E B X){d:D}{e:Expr}(h:aj c (.cst d) e=true):PE X e (tE X.K B (wpE Φ (.cst d) E)):=by
 replace h:=Fl h;obtain ⟨kk,_,_,rfl,h⟩:=h
 ·unfold uD at h;split at h
  ·exact peI Ue λσ H Q hq=>el hq λρ F G _ he r hw=>by rw[ir]at hw;exact hw.now r rfl
  ·rw[av]at h;subst h;exact peI Ar λσ H Q hq=>el hq λρ F G _ he r hw=>by rw[ir]at hw;exact hw.now r rfl
  ·rw[av]at h;subst h;exact peI Ud λσ H Q hq=>el hq λρ F G _ he r hw=>by rw[ir]at hw;exact hw.now r rfl
  ·rename_i l b;rw[ae,av,bg]at h;refine peI Av λσ H Q hq=>el hq λρ F G _ he r hw=>?_;rw[ir]at hw;refine hw.now r ⟨?_,h.2⟩;rw[h.1,<-qR]
  ·cases h
theorem aaX(S:Stat Φ CX k c E B X){x:String}{d:D}{e:Expr}(h:aj c (.glb x d) e=true):PE X e (tE X.K B (wpE Φ (.glb x d) E)):=by
 replace h:=Fp h;obtain ⟨y,pos,rfl,h⟩:=h
 ·rw[ae,ae,av,List.any_eq_true]at h;obtain ⟨⟨e1,h1⟩,⟨x',d'⟩,hm,h2⟩:=h;rw[ae,av]at h2;obtain ⟨e2,e3⟩:=h2;have e3:=aav e3;simp only at e2 e3;subst e1 e2 e3;obtain ⟨g1,g2⟩:=bQ h1;obtain ⟨u,v,hu,ru,hr⟩:=S.con _ _ hm;exact peI (Aw (S.glo _ g1) hu ru (bx g2)) λσ H Q hq=>el hq λρ F G _ he r hw=>by rw[rW]at hw;exact hw.now r (hr H F)
theorem aaY(S:Stat Φ CX k c E B X){op:Operator}{fz:Bool}{a b:Ex}(iha:∀{e},aj c a e=true->PE X e (tE X.K B (wpE Φ a E)))(ihb:∀{e},aj c b e=true->PE X e (tE X.K B (wpE Φ b E))){e:Expr}
  (h:aj c (.bin op fz a b) e=true):PE X e (tE X.K B (wpE Φ (.bin op fz a b) E)):=by
 replace h:=Fq h;obtain ⟨l,o,r,pos,rfl,h⟩:=h
 ·rw[ae,ae,av]at h;obtain ⟨⟨e1,h1⟩,h2⟩:=h;subst e1;refine peI (Vu (Zj _ fz) (iha h1) (ihb h2)) λσ H Q hq=>el hq λρ F G e0 he r hw=>?_;rw[rY]at hw;refine aN e0 he r hw λx G1 H1 F1 v q e1 x1 he1 r1 rv=>aN e1 he1 r1 q λy G2 H2 F2 u q e2 x2 he2 r2 ru=>?_;exact ⟨F2,G2,x,y,r2,Rep.ext x2 rv,ru,Dv (λd G' z=>PV.later z (x1.trans x2)) q⟩
theorem aaZ(S:Stat Φ CX k c E B X){a:Ex}(iha:∀{e},aj c a e=true->PE X e (tE X.K B (wpE Φ a E))){e:Expr}(h:aj c (.neg a) e=true):PE X e (tE X.K B (wpE Φ (.neg a) E)):=by
 replace h:=Ft h;obtain ⟨_,_,rfl,h⟩:=h
 ·refine peI (Vv VG (iha h)) λσ H Q hq=>el hq λρ F G e0 he r hw=>?_;rw[rZ]at hw;refine aN e0 he r hw λx G1 H1 F1 v q e1 x1 he1 r1 rv=>?_;split at q
  ·have e2:v=.int _:=rv;subst e2;exact ⟨_,rfl,q _ _ _ x1 r1 rfl⟩
  ·exact q.elim
theorem Gx(S:Stat Φ CX k c E B X){op:CmpOp}{a b:Ex}(iha:∀{e},aj c a e=true->PE X e (tE X.K B (wpE Φ a E)))(ihb:∀{e},aj c b e=true->PE X e (tE X.K B (wpE Φ b E))){e:Expr}
  (h:aj c (.cmp op a b) e=true):PE X e (tE X.K B (wpE Φ (.cmp op a b) E))/\PT X e (tB' X.K B (wpT Φ (.val (.cmp op a b)) E)):=by
 replace h:=Fw h;obtain ⟨l,o,r,pos,rfl,h⟩:=h
 ·rw[ae,ae,av]at h;obtain ⟨⟨e1,h1⟩,h2⟩:=h;subst e1;have hm:=Gs (bD b h2) o;refine ⟨peI (VL (jG _ (jO S)) (iha h1) (ihb h2) hm) λσ H Q hq=>el hq λρ F G e0 he r hw=>?_,ptI (VM (jG _ (jO S)) (iha h1) (ihb h2) hm) λσ H Q hq=>el hq λρ F G e0 he r hw=>?_⟩
  ·rw[lH]at hw;refine aN e0 he r hw λx G1 H1 F1 v q e1 x1 he1 r1 rv=>aN e1 he1 r1 q λy G2 H2 F2 u q e2 x2 he2 r2 ru=>?_;exact ⟨F2,G2,x,y,r2,Rep.ext x2 rv,ru,iu (λd z=>PV.later z (x1.trans x2)) q⟩
  ·rw[jB,lH]at hw;refine aN e0 he r hw λx G1 H1 F1 v q e1 x1 he1 r1 rv=>aN e1 he1 r1 q λy G2 H2 F2 u q e2 x2 he2 r2 ru=>?_;refine ⟨F2,G2,x,y,r2,Rep.ext x2 rv,ru,iu (λd z=>?_) q⟩;intro H' F' v' x' r' rv';have e3:v'=.bl d:=rv';exact ⟨d,e3,z H' F' ((x1.trans x2).trans x') r'⟩
theorem Gy(S:Stat Φ CX k c E B X){op op':CmpOp}{a b d:Ex}(iha:∀{e},aj c a e=true->PE X e (tE X.K B (wpE Φ a E)))(ihb:∀{e},aj c b e=true->PE X e (tE X.K B (wpE Φ b E)))(ihd:∀{e},aj c d e=true->PE X e (tE X.K B (wpE Φ d E))){e:Expr}
  (h:aj c (.chn op op' a b d) e=true):PE X e (tE X.K B (wpE Φ (.chn op op' a b d) E))/\PT X e (tB' X.K B (wpT Φ (.val (.chn op op' a b d)) E)):=by
 replace h:=Fx h;obtain ⟨l,o,o',m,r,pos,rfl,h⟩:=h
 ·simp only[ae,av]at h;obtain ⟨⟨⟨⟨e1,e2⟩,h1⟩,h2⟩,h3⟩:=h;subst e1 e2;have hm:lastMarks [o,o'] [m,r]=false:=Gs (bD d h3) o';have go:∀{σ H Q ρ F G}{W:Bool->DH->Prop},Ext B.H B.F H F->EnvR X.K H F ρ σ->R X.K H F G->
    wpE Φ a E ρ G (λx G1=>wpE Φ b E ρ G1 λy G2=>aX o (view G2 x) (view G2 y) λt=>match t with |true=>wpE Φ d E ρ G2 λz G3=>aX o' (view G3 y) (view G3 z) λt'=>W t' G3 |false=>W false G2)->
    (∀t G' H' F',W t G'->Ext H F H' F'->R X.K H' F' G'->Q (.bl t) H')->
    ww (rC2 X.K (aX o)) (rC2 X.K (aX o')) (tE X.K B (wpE Φ a E)) (tE X.K B (wpE Φ b E)) (tE X.K B (wpE Φ d E)) σ H Q:=by
   intro σ H Q ρ F G W e0 he r hw fin;refine aN e0 he r hw λx G1 H1 F1 v q e1 x1 he1 r1 rv=>aN e1 he1 r1 q λy G2 H2 F2 u q e2 x2 he2 r2 ru=>?_;refine ⟨F2,G2,x,y,r2,Rep.ext x2 rv,ru,iu (λt q=>?_) q⟩;intro H3 F3 v3 x3 r3 rv3;have e3:v3=.bl t:=rv3;refine ⟨t,e3,?_⟩;cases t with
   |true=>
    rw[if_pos rfl];refine aN (e2.trans x3) (he2.ext x3) r3 q λz G4 H4 F4 v4 q e4 x4 he4 r4 rv4=>?_;refine ⟨F4,G4,y,z,r4,Rep.ext (x3.trans x4) ru,rv4,iu (λt' q=>?_) q⟩;intro H5 F5 v5 x5 r5 rv5;have e5:v5=.bl t':=rv5;subst e5;exact fin _ _ _ _ q ((((x1.trans x2).trans x3).trans x4).trans x5) r5
   |false=>
    rw[if_neg br];exact fin _ _ _ _ q ((x1.trans x2).trans x3) r3
  refine ⟨peI (VN (jG _ (jO S)) (jG _ (jO S)) (iha h1) (ihb h2) (ihd h3) hm) λσ H Q hq=>el hq λρ F G e0 he r hw=>?_,ptI (VP (jG _ (jO S)) (jG _ (jO S)) (iha h1) (ihb h2) (ihd h3) hm) λσ H Q hq=>el hq λρ F G e0 he r hw=>?_⟩
  ·rw[lJ]at hw;exact go (W:=λt G'=>PV X.K H F Q (.bl t) G') e0 he r hw λt G' H' F' z x' r'=>z H' F' _ x' r' rfl
  ·rw[jB,lJ]at hw;refine go (W:=λt G'=>PB X.K H F Q t G') e0 he r hw λt G' H' F' z x' r'=>⟨t,rfl,z H' F' x' r'⟩
end
section
variable {Φ:aa} {CX:CXT} {k:Nat} {c:CT} {E:EK} {B:Bs} {X:Cx}
abbrev OkE(Φ:aa)(c:CT)(E:EK)(B:Bs)(X:Cx)(x:Ex):Prop:=∀{e:Expr},aj c x e=true->PE X e (tE X.K B (wpE Φ x E))
abbrev gJ(Φ:aa)(c:CT)(E:EK)(B:Bs)(X:Cx)(x:Exs):Prop:=∀{es:List Expr},aL c x es=true->PA X es (tL X.K B (aP Φ x E))
abbrev OkT(Φ:aa)(c:CT)(E:EK)(B:Bs)(X:Cx)(x:Tx):Prop:=∀{e:Expr},bF c x e=true->PT X e (tB' X.K B (wpT Φ x E))
theorem aa0(S:Stat Φ CX k c E B X){a:Ex}(iha:OkE Φ c E B X a){e:Expr}(h:aj c (.not a) e=true):PE X e (tE X.K B (wpE Φ (.not a) E)):=by
 replace h:=Fv h;obtain ⟨_,_,rfl,h⟩:=h
 ·intro pins s σ H Q I q;obtain ⟨ρ,F,G,e0,he,r,hw⟩:=q;rw[sr]at hw;have q':tE X.K B (wpE Φ a E) σ H (λx H1=>∃b,qP X.K x H1 b/\Q (.bl (!b)) H1):=aN e0 he r hw λx G1 H1 F1 v q e1 x1 he1 r1 rv=>by
   split at q
   ·rename_i b hb;exact ⟨b,Ea r1 rv hb,q _ _ _ x1 r1 rfl⟩
   ·exact q.elim
  refine UnaryOp_ (thn (iha h pins s σ H _ I q') λv s1 ⟨x,H1,I1,r1,b,tb,q1⟩=>?_);refine not_of (thn (Bj pins s1 σ H1 x v (λb' H'=>Q (.bl (!b')) H') I1 r1 ⟨b,tb,q1⟩) λb' s2 ⟨H2,I2,q2⟩=>?_);exact ⟨.bl (!b'),H2,I2,rfl,q2⟩
theorem yp{es:List Expr}(h:aL c .nil es=true):PA X es (tL X.K B (aP Φ .nil E)):=by
 unfold aL at h;cases es with
 |nil=>exact paI eG λσ H Q hq=>el hq λρ F G e0 he r hw=>by rw[il]at hw;exact hw H F [] (Ext.refl _ _) r rfl
 |cons _ _=>cases h
theorem uM{x:Ex}{xs:Exs}(ih:OkE Φ c E B X x)(ihs:gJ Φ c E B X xs){es:List Expr}(h:aL c (.cons x xs) es=true):PA X es (tL X.K B (aP Φ (.cons x xs) E)):=by
 unfold aL at h;split at h
 ·rename_i e es;rw[ae]at h;refine paI (di (ih h.1) (ihs h.2) (bL e es X.env (cu (bD x h.1)))) λσ H Q hq=>el hq λρ F G e0 he r hw=>?_;rw[gD]at hw;refine aN e0 he r hw λd G1 H1 F1 v q e1 x1 he1 r1 rv=>cO e1 he1 r1 q λds G2 H2 F2 vs q e2 x2 he2 r2 rvs=>?_;exact q H2 F2 _ (x1.trans x2) r2 ⟨v,vs,rfl,Rep.ext x2 rv,rvs⟩
 ·cases h
theorem aa1(S:Stat Φ CX k c E B X){es:Exs}(ih:gJ Φ c E B X es){e:Expr}(h:aj c (.tup es) e=true):PE X e (tE X.K B (wpE Φ (.tup es) E)):=by
 replace h:=FN h;obtain ⟨_,_,_,rfl,h⟩:=h
 ·refine peI (V9 (ih h)) λσ H Q hq=>el hq λρ F G e0 he r hw=>?_;rw[sE]at hw;refine cO e0 he r hw λds G1 H1 F1 vs q e1 x1 he1 r1 rvs=>⟨by rw[<-rvs.length];exact cN q.1,jF (PV.later q.2 x1) r1 rvs⟩
theorem aa2(S:Stat Φ CX k c E B X){fz:Bool}{es:Exs}(ih:gJ Φ c E B X es){e:Expr}(h:aj c (.lst fz es) e=true):PE X e (tE X.K B (wpE Φ (.lst fz es) E)):=by
 replace h:=FP h;obtain ⟨_,_,rfl,h⟩:=h
 ·refine peI (Wa (ih h)) λσ H Q hq=>el hq λρ F G e0 he r hw=>?_;rw[sG]at hw;refine cO e0 he r hw λds G1 H1 F1 vs q e1 x1 he1 r1 rvs=>⟨by rw[<-rvs.length];exact cN q.1,dN (dq (λd G' z=>PV.later z x1) q.2) r1 rvs⟩
theorem aa3(S:Stat Φ CX k c E B X){a i:Ex}(iha:OkE Φ c E B X a)(ihi:OkE Φ c E B X i){e:Expr}(h:aj c (.idx a i) e=true):PE X e (tE X.K B (wpE Φ (.idx a i) E)):=by
 replace h:=FQ h;obtain ⟨_,_,_,rfl,h⟩:=h
 ·rw[ae]at h;refine peI (Wu Zr (iha h.1) (ihi h.2) (aaT (bD i h.2))) λσ H Q hq=>el hq λρ F G e0 he r hw=>?_;rw[sH]at hw;refine aN e0 he r hw λx G1 H1 F1 v q e1 x1 he1 r1 rv=>aN e1 he1 r1 q λy G2 H2 F2 u q e2 x2 he2 r2 ru=>?_;exact ⟨F2,G2,x,y,r2,Rep.ext x2 rv,ru,uc (λd z=>PV.later z (x1.trans x2)) q⟩
theorem Gz{lo:Ox}(ih:∀x,lo=.ob x->OkE Φ c E B X x){l:Option Expr}(h:gj c lo l=true):PO X l (Gu X.K B (wpO Φ lo E)):=by
 cases lo with
 |no=>
  unfold gj at h;cases l with
  |none=>
   intro pins s σ H Q I q;refine Wm pins s σ H Q I ?_;obtain ⟨ρ,F,G,e0,he,r,hw⟩:=q;rw[rK]at hw;exact hw H F (Ext.refl _ _) r
  |some _=>cases h
 |ob x=>
  unfold gj at h;split at h
  ·intro pins s σ H Q I q;refine Wn (ih x rfl h) pins s σ H Q I ?_;obtain ⟨ρ,F,G,e0,he,r,hw⟩:=q;rw[rM]at hw;refine aN e0 he r hw λd G1 H1 F1 v q e1 x1 he1 r1 rv=>?_;split at q
   ·have e2:v=.int _:=rv;exact ⟨_,e2,q H1 F1 x1 r1⟩
   ·exact q.elim
  ·cases h
theorem aa4(S:Stat Φ CX k c E B X){fz:Bool}{a:Ex}{lo hi:Ox}(iha:OkE Φ c E B X a)(ihl:∀x,lo=.ob x->OkE Φ c E B X x)(ihh:∀x,hi=.ob x->OkE Φ c E B X x){e:Expr}(h:aj c (.slc fz a lo hi) e=true):
  PE X e (tE X.K B (wpE Φ (.slc fz a lo hi) E)):=by
 replace h:=FT h;obtain ⟨_,_,_,_,_,rfl,h⟩:=h
 ·rw[ae,ae]at h;refine peI (Wo (Zy fz) (iha h.1.1) (Gz ihl h.1.2) (Gz ihh h.2)) λσ H Q hq=>el hq λρ F G e0 he r hw=>?_;rw[sI]at hw;refine aN e0 he r hw λx G1 H1 F1 v q e1 x1 he1 r1 rv=>Gv e1 he1 r1 q λl G2 H2 F2 q e2 x2 he2 r2=>Gv e2 he2 r2 q λu G3 H3 F3 q e3 x3 he3 r3=>?_;exact ⟨F3,G3,x,r3,Rep.ext (x2.trans x3) rv,Dy (λd G' z=>PV.later z ((x1.trans x2).trans x3)) q⟩
theorem aa5(S:Stat Φ CX k c E B X){fz:Bool}{a s:Ex}(iha:OkE Φ c E B X a)(ihs:OkE Φ c E B X s){e:Expr}(h:aj c (.rvs fz a s) e=true):PE X e (tE X.K B (wpE Φ (.rvs fz a s) E)):=nomatch (show false=true from h)
theorem aa6(S:Stat Φ CX k c E B X){a:Ex}(iha:OkE Φ c E B X a){e:Expr}(h:aj c (.frz a) e=true):PE X e (tE X.K B (wpE Φ (.frz a) E)):=by
 have h:aj c a e=true:=h;refine peI (iha h) λσ H Q hq=>el hq λρ F G e0 he r hw=>?_;rw[sY]at hw;refine aN e0 he r hw λx G1 H1 F1 v q e1 x1 he1 r1 rv=>?_;split at q
 ·rename_i p;have e2:v=.ref p:=rv;subst e2;split at q
  ·rename_i ds hg;exact q _ _ _ (x1.trans wR) (r1.frz hg) (Za r1 hg)
  ·exact q.elim
 ·exact q _ _ _ x1 r1 rv
theorem mj{es:List Expr}{xs:Exs}(h:aL c xs es=true)(env:Env)(pos:Pos):(backTo pos (starEach es env)).any (·.1)=false:=by
 induction es generalizing xs with
 |nil=>rfl
 |cons e es ih=>
  cases xs with
  |nil=>unfold aL at h;cases h
  |cons x xs=>
   unfold aL at h;rw[ae]at h;rw[bL e es env (cu (bD x h.1))];show (false||(backTo pos (starEach es env)).any (·.1))=false;rw[ih h.2];rfl
theorem jP{e:Expr}{es:List Expr}{xs:Exs}(h:aL c xs (e::es)=true):∃x xs',xs=.cons x xs'/\aj c x e=true/\aL c xs' es=true:=by
 cases xs with
 |nil=>unfold aL at h;cases h
 |cons x xs'=>
  unfold aL at h;rw[ae]at h;exact ⟨x,xs',rfl,h.1,h.2⟩
theorem yq{ρ:ak}:∀(xs:Exs){es:List Expr}{G:DH}{Q:List D->DH->Prop},aL c xs es=true->aP Φ xs E ρ G Q->aP Φ xs E ρ G (λds G'=>ds.length=es.length/\Q ds G')
 |.nil,es,G,Q,h,q=>by
  unfold aL at h;rw[il]at q ⊢;cases es with
  |nil=>exact ⟨rfl,q⟩
  |cons _ _=>cases h
 |.cons x xs,es,G,Q,h,q=>by
  unfold aL at h;split at h
  ·rename_i e es;rw[ae]at h;rw[gD]at q ⊢;refine aH x (λd G1 q=>dw xs (λds G2 z=>?_) (yq xs h.2 q)) q;exact ⟨by simp[z.1],z.2⟩
  ·cases h
theorem aa7(S:Stat Φ CX k c E B X){f:String}{xs:Exs}(ih:gJ Φ c E B X xs){e:Expr}(h:aj c (.call f xs) e=true):PE X e (tE X.K B (wpE Φ (.call f xs) E)):=by
 replace h:=FW h;obtain ⟨x,p,args,pos,rfl,h⟩:=h
 ·simp only[ae,av,List.any_eq_true]at h;obtain ⟨⟨⟨⟨e1,h1⟩,⟨f',n⟩,hm,e2,e3⟩,h2⟩,h3⟩:=h;simp only at e2 e3;subst e1 e2 e3;obtain ⟨g1,g2⟩:=bQ h1;obtain ⟨fa,fd,ps,F0,hk,hb,hmg⟩:=S.call _ _ hm;obtain ⟨EX,hpass,_,hEX⟩:=S.exc;cases args with
  |nil=>cases h2
  |cons e es=>
   obtain ⟨x0,xs',rfl,c1,c2⟩:=jP h3;refine peI (Wd F0 S.room (S.glo _ g1) hmg hk hb .nil hpass (ih h3) (bx g2) (bL e es X.env (cu (bD x0 c1))) (mj c2 X.env pos)) λσ H Q hq=>el hq λρ F G e0 he r hw=>?_;rw[sJ]at hw;refine cO e0 he r (yq _ h3 hw) λds G1 H1 F1 vs q e1 x1 he1 r1 rvs=>?_;rw[ee];refine ⟨by rw[<-rvs.length];exact q.1,F1,G1,ds,r1,rvs,Spec.mono q.2 (λd G' z=>PV.later z x1) λx G' z H' F' x' r'=>?_⟩;exact hEX x G' H' F' z (e1.trans x') r'
theorem aa8(S:Stat Φ CX k c E B X){f:Bf}{xs:Exs}(ih:gJ Φ c E B X xs){e:Expr}(h:aj c (.bcl f xs) e=true):PE X e (tE X.K B (wpE Φ (.bcl f xs) E)):=by
 replace h:=Ga h;obtain ⟨x,p,args,pos,rfl,h⟩:=h
 ·simp only[ae,av]at h;obtain ⟨⟨⟨⟨⟨e1,hok⟩,h1⟩,hm⟩,h2⟩,h3⟩:=h;subst e1;obtain ⟨g1,g2⟩:=bQ h1;have hmg:=S.blt _ (aE.mp hm);cases args with
  |nil=>cases h2
  |cons e es=>
   obtain ⟨x0,xs',rfl,c1,c2⟩:=jP h3;have hs:=bL e es X.env (cu (bD x0 c1));have ha:=mj c2 X.env pos;have go:∀σ H Q,tE X.K B (wpE Φ (.bcl f (.cons x0 xs')) E) σ H Q->tCB (iy X.K f) (tL X.K B (aP Φ (.cons x0 xs') E)) σ H Q:=λσ H Q hq=>el hq λρ F G e0 he r hw=>by
    rw[sO]at hw;refine cO e0 he r hw λds G1 H1 F1 vs q e1 x1 he1 r1 rvs=>?_;exact ⟨F1,G1,ds,r1,rvs,Dz (λd z=>PV.later z x1) q⟩
   cases f with
   |len=>exact peI (jj Zz (S.glo _ g1) hmg PySem.boot_len (ih h3) (cJ g2) (bx g2) hs ha) go
   |all=>exact peI (jj (ZC S.calm) (S.glo _ g1) hmg Xj (ih h3) (cJ g2) (bx g2) hs ha) go
   |int=>exact peI (jk ZD (S.glo _ g1) hmg Cp (ih h3) (cJ g2) (bx g2) hs ha) go
   |tuple=>exact peI (jk ZF (S.glo _ g1) hmg (by decide +kernel) (ih h3) (cJ g2) (bx g2) hs ha) go
   |sum=>cases hok
   |min=>exact peI (jj (ZX S.calm) (S.glo _ g1) hmg ZZ (ih h3) (cJ g2) (bx g2) hs ha) go
   |max=>cases hok
   |str=>exact peI (jk Z0 (S.glo _ g1) hmg Cq (ih h3) (cJ g2) (bx g2) hs ha) go
theorem aa9(S:Stat Φ CX k c E B X){fz:Bool}{f:Lf}{xs:Exs}(ih:gJ Φ c E B X xs){e:Expr}(h:aj c (.lcl fz f xs) e=true):PE X e (tE X.K B (wpE Φ (.lcl fz f xs) E)):=by
 replace h:=Gb h;obtain ⟨x,p,args,pos,rfl,h⟩:=h
 ·simp only[ae,av]at h;obtain ⟨⟨⟨⟨⟨e1,hok⟩,h1⟩,hm⟩,h2⟩,h3⟩:=h;subst e1;obtain ⟨g1,g2⟩:=bQ h1;have hmg:=S.blt _ (aE.mp hm);cases args with
  |nil=>cases h2
  |cons e es=>
   obtain ⟨x0,xs',rfl,c1,c2⟩:=jP h3;have hs:=bL e es X.env (cu (bD x0 c1));have ha:=mj c2 X.env pos;have go:∀σ H Q,tE X.K B (wpE Φ (.lcl fz f (.cons x0 xs')) E) σ H Q->tCB (xT X.K fz f) (tL X.K B (aP Φ (.cons x0 xs') E)) σ H Q:=λσ H Q hq=>el hq λρ F G e0 he r hw=>by
    rw[sS]at hw;refine cO e0 he r hw λds G1 H1 F1 vs q e1 x1 he1 r1 rvs=>?_;exact ⟨F1,G1,ds,r1,rvs,DG (λd z=>dq (λd G' z=>PV.later z x1) z) q⟩
   cases f with
   |list=>exact peI (jk (ZK S.calm fz) (S.glo _ g1) hmg wC (ih h3) (cJ g2) (bx g2) hs ha) go
   |sorted=>exact peI (jj (ZQ fz) (S.glo _ g1) hmg ZL (ih h3) (cJ g2) (bx g2) hs ha) go
theorem GC{K:PySem.W.Frag}{H:Hp}{F:FZ}(n:Nat):Reps K H F (aO 0 n) ((List.range n).map λi=>V.int (i:Nat)):=by
 have e1:aO 0 n=((List.range n).map λi:Nat=>(i:Int)).map D.int:=by unfold aO;rw[dL];refine List.map_congr_left λi _=>?_;show D.int (0+(i:Int))=D.int i;rw[Int.zero_add]
 have e2:((List.range n).map λi:Nat=>V.int (i:Nat))=((List.range n).map λi:Nat=>(i:Int)).map V.int:=by rw[dL];rfl
 rw[e1,e2];exact uv _
theorem aba(S:Stat Φ CX k c E B X){fz:Bool}{a:Ex}(iha:OkE Φ c E B X a){e:Expr}(h:aj c (.rgl fz a) e=true):PE X e (tE X.K B (wpE Φ (.rgl fz a) E)):=by
 obtain ⟨x,p,x',p',e2,pos',pos,rfl,h'⟩:=Gf h;simp only[ae,av]at h';obtain ⟨⟨⟨⟨⟨⟨e1,h1⟩,hm⟩,e3⟩,h2⟩,hr⟩,h3⟩:=h';subst e1 e3;obtain ⟨g1,g2⟩:=bQ h1;obtain ⟨g1',g2'⟩:=bQ h2;have hmg:=S.blt _ (aE.mp hm);have hmr:=S.blt _ (aE.mp hr);have hs:=bL e2 [] X.env (cu (bD a h3));refine peI (jk (Y0 S.calm) (S.glo _ g1) hmg wC (di (Dl (S.glo _ g1') hmr (di (iha h3) eG hs) hs) eG rfl) (cJ g2) (bx g2) rfl rfl) λσ H Q hq=>el hq λρ F G e0 he r hw=>?_;rw[sW]at hw;refine aN e0 he r hw λd G1 H1 F1 v q e1 x1 he1 r1 rv=>?_;split at q
 ·rename_i n;have ev:v=.int n:=rv;subst ev;obtain ⟨⟨h0,hn⟩,q⟩:=q;obtain ⟨m,rfl⟩:=cp h0;refine ⟨_,rfl,λrr hrr=>⟨rr,m,rfl,dh,by omega,λl hl=>?_⟩⟩;have xn:=dj (o:=.rng 0 m) r1 hrr;exact dN (dq (λd G' z=>PV.later z (x1.trans xn)) q) (r1.new hrr) (GC m) l hl
 ·exact q.elim
theorem abb(S:Stat Φ CX k c E B X){a:Ex}(iha:OkE Φ c E B X a){e:Expr}(h:aj c (.rgt a) e=true):PE X e (tE X.K B (wpE Φ (.rgt a) E)):=by
 obtain ⟨x,p,x',p',e2,pos',pos,rfl,h'⟩:=Gg h;simp only[ae,av]at h';obtain ⟨⟨⟨⟨⟨⟨e1,h1⟩,hm⟩,e3⟩,h2⟩,hr⟩,h3⟩:=h';subst e1 e3;obtain ⟨g1,g2⟩:=bQ h1;obtain ⟨g1',g2'⟩:=bQ h2;have hmg:=S.blt _ (aE.mp hm);have hmr:=S.blt _ (aE.mp hr);have hs:=bL e2 [] X.env (cu (bD a h3));refine peI (jk (Y4 S.calm) (S.glo _ g1) hmg (by decide +kernel) (di (Dl (S.glo _ g1') hmr (di (iha h3) eG hs) hs) eG rfl) (cJ g2) (bx g2) rfl rfl) λσ H Q hq=>el hq λρ F G e0 he r hw=>?_;rw[sX]at hw;refine aN e0 he r hw λd G1 H1 F1 v q e1 x1 he1 r1 rv=>?_;split at q
 ·rename_i n;have ev:v=.int n:=rv;subst ev;obtain ⟨⟨h0,hn⟩,q⟩:=q;obtain ⟨m,rfl⟩:=cp h0;refine ⟨_,rfl,λrr hrr=>⟨rr,m,rfl,dh,by omega,λl hl=>?_⟩⟩;have xn:=dj (o:=.rng 0 m) r1 hrr;exact jF (PV.later q (x1.trans xn)) (r1.new hrr) (GC m) l hl
 ·exact q.elim
theorem abd{t:String}(h:fZ t=true):bootBuiltins (Str.ofString t)=some (.type t):=by
 simp only[fZ,c8,av]at h;rcases h with (((rfl |rfl) |rfl) |rfl) |rfl
 ·exact Xc
 ·exact Cp
 ·exact Cq
 ·decide +kernel
 ·exact wC
theorem abe(S:Stat Φ CX k c E B X){a:Ex}{t:String}(iha:OkE Φ c E B X a){e:Expr}(h:aj c (.isi a t) e=true):PE X e (tE X.K B (wpE Φ (.isi a t) E)):=by
 replace h:=Gd h;obtain ⟨x,p,v,y,p2,pos,rfl,h⟩:=h
 ·simp only[ae,av]at h;obtain ⟨⟨⟨⟨⟨⟨⟨e1,h1⟩,hm1⟩,h2⟩,e2⟩,h3⟩,hm2⟩,h4⟩:=h;subst e1 e2;obtain ⟨g1,g2⟩:=bQ h1;obtain ⟨g3,g4⟩:=bQ h3;have hmg:=S.blt _ (aE.mp hm1);have hmt:=S.blt _ (aE.mp hm2);have hty:PE X (.Name (Str.ofString t) p2) (tC (.ty t)):=Cu (S.glo _ g3) hmt (abd h4) (cJ g4) (bx g4);have sv:=cu (bD a h2);refine peI (jj Xb (S.glo _ g1) hmg Cr (di (iha h2) (di hty eG (bL _ _ _ rfl)) (bL _ _ _ sv)) (cJ g2) (bx g2) (bL _ _ _ sv) rfl) λσ H Q hq=>el hq λρ F G e0 he r hw=>?_;rw[sU]at hw;refine aN e0 he r hw λd G1 H1 F1 v q e1 x1 he1 r1 rv=>?_;split at q
  ·rename_i b hb;obtain ⟨T,hk,hT,hb'⟩:=Z4 hb;refine ⟨v,t,.type T,b,rfl,Z1 r1 rv hk,?_,q _ _ _ x1 r1 rfl⟩;rw[Z3 T t hT h4,hb' h4]
  ·exact q.elim
theorem abf:bootBuiltins (Str.ofString "ValueError")=some (.type "ValueError"):=by decide +kernel
theorem abg(S:Stat Φ CX k c E B X){a:Ex}{C:String}{xs:List String}(iha:OkE Φ c E B X a){e:Expr}(h:aj c (.isx a C xs) e=true):PE X e (tE X.K B (wpE Φ (.isx a C xs) E)):=by
 replace h:=Ge h;obtain ⟨x,p,v,y,p2,pos,rfl,h⟩:=h;simp only[ae,av]at h;obtain ⟨⟨⟨⟨⟨⟨⟨e1,h1⟩,hm1⟩,h2⟩,e2⟩,h3⟩,hC⟩,hxs⟩:=h;subst e1 e2;obtain ⟨g1,g2⟩:=bQ h1;obtain ⟨g3,g4⟩:=bQ h3;have hmg:=S.blt _ (aE.mp hm1);have sv:=cu (bD a h2);obtain ⟨cv,hcv,hall⟩:=S.xis C hC;have hok:=hcv.ok;have hty:PE X (.Name (Str.ofString C) p2) (tC cv):=by
  rcases hcv with ⟨a1,rfl,hm,_⟩ |⟨rfl,rfl,hm⟩
  ·exact Aw (S.glo _ g3) hm rfl (bx g4)
  ·exact Cu (S.glo _ g3) hm abf (cJ g4) (bx g4)
 refine peI (jj Ym (S.glo _ g1) hmg Cr (di (iha h2) (di hty eG (bL _ _ _ rfl)) (bL _ _ _ sv)) (cJ g2) (bx g2) (bL _ _ _ sv) rfl) λσ H Q hq=>el hq λρ F G e0 he r hw=>?_;rw[sV]at hw;refine aN e0 he r hw λd G1 H1 F1 v q e1 x1 he1 r1 rv=>?_;split at q
 ·rename_i C1;obtain ⟨c1,k1,k2,k4,k5⟩:=hall C1 (bp.mp hxs C1 (aE.mp q.1));obtain ⟨a',c',e2,xo,hn⟩:=rv;rw[k1]at hn;have ec:c1=c':=by simpa using hn
  subst ec;subst e2;exact ⟨a',c1,cv,_,rfl,xo,k2,hok,k4,k5,q.2 _ _ _ x1 r1 rfl⟩
 ·exact q.elim
theorem abh{v:Expr}(h:(!uE v)=true)(name:Str)(env:Env):attributeBase v name env (eval v env)=eval v env:=by
 cases v with
 |Call f args kw pos=>
  cases f with
  |Name id p=>
   cases args with
   |nil=>
    cases kw with
    |nil=>cases h
    |cons _ _=>rfl
   |cons _ _=>rfl
  |_=>rfl
 |_=>rfl
theorem all_plain{es:List Expr}{xs:Exs}(h:aL c xs es=true)(env:Env)(pos:Pos):(backTo pos (starEach es env)).all (λx=>!x.1)=true:=by
 induction es generalizing xs with
 |nil=>rfl
 |cons e es ih=>
  obtain ⟨x0,xs',rfl,c1,c2⟩:=jP h;rw[bL e es env (cu (bD x0 c1))];show (!false&&(backTo pos (starEach es env)).all (λx=>!x.1))=true;rw[ih c2];rfl
theorem abi(S:Stat Φ CX k c E B X){m:Mf}{o:Ex}{xs:Exs}(iho:OkE Φ c E B X o)(ih:gJ Φ c E B X xs){e:Expr}(h:aj c (.mth m o xs) e=true):PE X e (tE X.K B (wpE Φ (.mth m o xs) E)):=by
 replace h:=Gi h;obtain ⟨v,x,apos,args,cpos,rfl,h⟩:=h
 ·simp only[ae,av,bg]at h;obtain ⟨⟨⟨⟨⟨⟨e1,h1⟩,hb⟩,hl⟩,hn⟩,h2⟩,h3⟩:=h;subst e1;cases args with
  |nil=>cases h2
  |cons e es=>
   obtain ⟨x0,xs',rfl,c1,c2⟩:=jP h3;have hs:=bL e es X.env (cu (bD x0 c1));have ha:=mj c2 X.env cpos;have hbase:=abh hb (Str.ofString m.name) X.env;have hfew:((backTo cpos (starEach (e::es) X.env)).all (λx=>!x.1)&&(backToKw cpos (keywordEach [] X.env)).all (λx=>x.1.isSome)
    &&decide ((e::es).length+([]:List Keyword).length+(if ([]:List Keyword).isEmpty then 0 else 1) < 30))=true:=by
    rw[all_plain h3 X.env cpos];have:(e::es).length+([]:List Keyword).length+(if ([]:List Keyword).isEmpty then 0 else 1) < 30:=by have e0:(if ([]:List Keyword).isEmpty=true then 0 else 1)=0:=rfl;rw[e0];show (e::es).length+0+0 < 30;omega
    rw[ay this];rfl
   have hline:(apos.endLine==cpos.line)=true:=by rw[av];exact hl
   have lst:∀{d:D} {u:V} {G1:DH} {H1:Hp} {F1:FZ},(match d with |.ref p=>(match G1 p with |some (.lst _)=>True |none=>False) |_=>False)->R X.K H1 F1 G1->Rep X.K H1 F1 d u->tyV X.K "list" u H1:=λ{d u G1 H1 F1} q r1 ru=>by
    split at q
    ·rename_i p;split at q
     ·rename_i ds hg;obtain ⟨vs,hv,_⟩:=r1.lst hg;have e2:u=.ref p:=ru;subst e2;exact .inl ⟨rfl,vs,SqL.of hv⟩
     ·exact q.elim
    ·exact q.elim
   have lstV:∀{d:D} {u:V} {G1:DH} {H1:Hp} {F1:FZ},wZ (view G1 d)->R X.K H1 F1 G1->Rep X.K H1 F1 d u->tyV X.K "list" u H1:=λ{d u G1 H1 F1} q r1 ru=>by
    generalize hv:view G1 d=w at q;cases w with
    |lst ds=>
     obtain ⟨a,vs,rfl,sq,_⟩:=Rep.list r1 ru hv;exact .inl ⟨rfl,vs,sq⟩
    |_=>exact (show False from q).elim
   cases m with
   |join=>
    refine peI (jm PySem.F.plainAttrs_str PySem.F.slot_str_join PySem.F.type_str_join Z5 (iho h1) (ih h3) hbase hfew hline hs ha) λσ H Q hq=>el hq λρ F G e0 he r hw=>?_;rw[gf]at hw;refine aN e0 he r hw λd G1 H1 F1 u q e1 x1 he1 r1 ru=>⟨?_,cO e1 he1 r1 q.2 λds G2 H2 F2 vs q e2 x2 he2 r2 rvs=>?_⟩
    ·have q1:=q.1;cases d with
     |str l=>obtain ⟨e2,_⟩:=ru;subst e2;exact rfl
     |_=>exact (show False from q1).elim
    ·exact ⟨F2,G2,d,ds,r2,Rep.ext x2 ru,rvs,iw (λd G' z=>PV.later z (x1.trans x2)) q⟩
   |append=>
    refine peI (jm eP PySem.F.slot_list_append PySem.F.type_list_append Z6 (iho h1) (ih h3) hbase hfew hline hs ha) λσ H Q hq=>el hq λρ F G e0 he r hw=>?_;rw[gf]at hw;refine aN e0 he r hw λd G1 H1 F1 u q e1 x1 he1 r1 ru=>⟨?_,cO e1 he1 r1 q.2 λds G2 H2 F2 vs q e2 x2 he2 r2 rvs=>?_⟩
    ·refine lst (d:=d) (G1:=G1) ?_ r1 ru;have q1:=q.1;cases d <;> first |exact q1 |exact (show False from q1).elim
    ·exact ⟨F2,G2,d,ds,r2,Rep.ext x2 ru,rvs,iw (λd G' z=>PV.later z (x1.trans x2)) q⟩
   |extend=>
    refine peI (jm eP PySem.F.slot_list_extend PySem.F.type_list_extend aaf (iho h1) (ih h3) hbase hfew hline hs ha) λσ H Q hq=>el hq λρ F G e0 he r hw=>?_;rw[gf]at hw;refine aN e0 he r hw λd G1 H1 F1 u q e1 x1 he1 r1 ru=>⟨?_,cO e1 he1 r1 q.2 λds G2 H2 F2 vs q e2 x2 he2 r2 rvs=>?_⟩
    ·refine lst (d:=d) (G1:=G1) ?_ r1 ru;have q1:=q.1;cases d <;> first |exact q1 |exact (show False from q1).elim
    ·exact ⟨F2,G2,d,ds,r2,Rep.ext x2 ru,rvs,iw (λd G' z=>PV.later z (x1.trans x2)) q⟩
   |insert=>
    refine peI (jm eP PySem.F.slot_list_insert PySem.F.type_list_insert aad (iho h1) (ih h3) hbase hfew hline hs ha) λσ H Q hq=>el hq λρ F G e0 he r hw=>?_;rw[gf]at hw;refine aN e0 he r hw λd G1 H1 F1 u q e1 x1 he1 r1 ru=>⟨?_,cO e1 he1 r1 q.2 λds G2 H2 F2 vs q e2 x2 he2 r2 rvs=>?_⟩
    ·refine lst (d:=d) (G1:=G1) ?_ r1 ru;have q1:=q.1;cases d <;> first |exact q1 |exact (show False from q1).elim
    ·exact ⟨F2,G2,d,ds,r2,Rep.ext x2 ru,rvs,iw (λd G' z=>PV.later z (x1.trans x2)) q⟩
   |count=>
    refine peI (jm eP PySem.F.slot_list_count PySem.F.type_list_count Z7 (iho h1) (ih h3) hbase hfew hline hs ha) λσ H Q hq=>el hq λρ F G e0 he r hw=>?_;rw[gf]at hw;refine aN e0 he r hw λd G1 H1 F1 u q e1 x1 he1 r1 ru=>⟨lstV q.1 r1 ru,cO e1 he1 r1 q.2 λds G2 H2 F2 vs q e2 x2 he2 r2 rvs=>?_⟩;exact ⟨F2,G2,d,ds,r2,Rep.ext x2 ru,rvs,iw (λd G' z=>PV.later z (x1.trans x2)) q⟩
   |index=>
    refine peI (jm eP PySem.F.slot_list_index PySem.F.type_list_index Z8 (iho h1) (ih h3) hbase hfew hline hs ha) λσ H Q hq=>el hq λρ F G e0 he r hw=>?_;rw[gf]at hw;refine aN e0 he r hw λd G1 H1 F1 u q e1 x1 he1 r1 ru=>⟨lstV q.1 r1 ru,cO e1 he1 r1 q.2 λds G2 H2 F2 vs q e2 x2 he2 r2 rvs=>?_⟩;exact ⟨F2,G2,d,ds,r2,Rep.ext x2 ru,rvs,iw (λd G' z=>PV.later z (x1.trans x2)) q⟩
end
section
variable {Φ:aa} {CX:CXT} {k:Nat} {c:CT} {E:EK} {B:Bs} {X:Cx}
def EachE(Φ:aa)(c:CT)(E:EK)(B:Bs)(X:Cx):Exs->Prop
 |.nil=>True
 |.cons e es=>OkE Φ c E B X e/\EachE Φ c E B X es
def uN(Φ:aa)(c:CT)(E:EK)(B:Bs)(X:Cx):Txs->Prop
 |.nil=>True
 |.cons e es=>OkT Φ c E B X e/\uN Φ c E B X es
theorem abj(S:Stat Φ CX k c E B X){es:Exs}(ih:EachE Φ c E B X es){e:Expr}(h:aj c (.fst es) e=true):PE X e (tE X.K B (wpE Φ (.fst es) E)):=nomatch (show false=true from h)
theorem EachE.oks:∀{xs:Exs},EachE Φ c E B X xs->gJ Φ c E B X xs
 |.nil,_=>by intro h;exact yp h
 |.cons x xs,hh=>by intro h;exact uM hh.1 (EachE.oks hh.2) h
def uO(Φ:aa)(E:EK)(isAnd:Bool)(x:Ex)(xs:Exs):ak->DH->(D->DH->Prop)->Prop:=λρ G kk=>wpE Φ x E ρ G λd G1=>match d with |.bl b=>wpB Φ xs isAnd b E ρ G1 (λc G2=>kk (.bl c) G2) |_=>False
theorem GD{isAnd:Bool}{pos:Pos}:∀(xs:Exs){x:Ex},OkE Φ c E B X x->EachE Φ c E B X xs->∀{v:Expr}{vs:List Expr},aj c x v=true->aL c xs vs=true->
  PE X (.BoolOp (if isAnd then .And else .Or) (v::vs) pos) (tE X.K B (uO Φ E isAnd x xs))
 |.nil,x,ih,_,v,vs,h1,h2=>by
  unfold aL at h2;cases vs with
  |nil=>
   refine peI (Ur (ih h1)) λσ H Q hq=>el hq λρ F G e0 he r hw=>?_;unfold uO at hw;refine aN e0 he r hw λd G1 H1 F1 u q e1 x1 he1 r1 ru=>?_;split at q
   ·rw[rH]at q;exact q _ _ _ x1 r1 ru
   ·exact q.elim
  |cons _ _=>cases h2
 |.cons y ys,x,ih,hh,v,vs,h1,h2=>by
  unfold aL at h2;split at h2
  ·rename_i w ws;rw[ae]at h2;have rest:=GD (isAnd:=isAnd) (pos:=pos) ys hh.1 hh.2 h2.1 h2.2;cases isAnd with
   |true=>
    refine peI (Us (ih h1) rest) λσ H Q hq=>el hq λρ F G e0 he r hw=>?_;unfold uO at hw;refine aN e0 he r hw λd G1 H1 F1 u q e1 x1 he1 r1 ru=>?_;split at q
    ·rename_i b;refine ⟨b,ru,?_⟩;rw[lF]at q;cases b with
     |true=>
      rw[if_pos rfl];exact ⟨ρ,F1,G1,e1,he1,r1,aH y (λd G' z=>by
       cases d <;> first |exact (show False from z).elim |exact ug ys (λc G2 z=>PV.later z x1) z) q⟩
     |false=>
      rw[if_neg br];exact q _ _ _ x1 r1 rfl
    ·exact q.elim
   |false=>
    refine peI (Ut (ih h1) rest) λσ H Q hq=>el hq λρ F G e0 he r hw=>?_;unfold uO at hw;refine aN e0 he r hw λd G1 H1 F1 u q e1 x1 he1 r1 ru=>?_;split at q
    ·rename_i b;refine ⟨b,ru,?_⟩;rw[lF]at q;cases b with
     |false=>
      rw[if_neg br];exact ⟨ρ,F1,G1,e1,he1,r1,aH y (λd G' z=>by
       cases d <;> first |exact (show False from z).elim |exact ug ys (λc G2 z=>PV.later z x1) z) q⟩
     |true=>
      rw[if_pos rfl];exact q _ _ _ x1 r1 rfl
    ·exact q.elim
  ·cases h2
theorem abk{isAnd:Bool}{x:Ex}{xs:Exs}(ih:OkE Φ c E B X x)(hh:EachE Φ c E B X xs){e:Expr}(h:aj c (.boo isAnd x xs) e=true):PE X e (tE X.K B (wpE Φ (.boo isAnd x xs) E)):=by
 replace h:=Fy h;obtain ⟨_,_,_,_,rfl,h⟩:=h
 ·simp only[ae,av]at h;obtain ⟨⟨e1,h1⟩,h2⟩:=h;subst e1;refine peI (GD xs ih hh h1 h2) λσ H Q hq=>el hq λρ F G e0 he r hw=>⟨ρ,F,G,e0,he,r,?_⟩;rw[su]at hw;exact hw
theorem abl{t:Tx}{a b:Ex}(iht:OkT Φ c E B X t)(iha:OkE Φ c E B X a)(ihb:OkE Φ c E B X b){e:Expr}(h:aj c (.ife t a b) e=true):PE X e (tE X.K B (wpE Φ (.ife t a b) E)):=by
 replace h:=FJ h;obtain ⟨_,_,_,_,rfl,h⟩:=h
 ·simp only[ae]at h;obtain ⟨⟨h1,h2⟩,h3⟩:=h;refine peI (Uu (iht h1) (iha h2) (ihb h3)) λσ H Q hq=>el hq λρ F G e0 he r hw=>?_;rw[sy]at hw;refine jN e0 he r hw λb' G1 H1 F1 q e1 x1 he1 r1=>?_;cases b' with
  |true=>
   rw[if_pos rfl];exact ⟨ρ,F1,G1,e1,he1,r1,aH a (λd G' z=>PV.later z x1) q⟩
  |false=>
   rw[if_neg br];exact ⟨ρ,F1,G1,e1,he1,r1,aH b (λd G' z=>PV.later z x1) q⟩
theorem abm{x:Ex}(ih:OkE Φ c E B X x){e:Expr}(hp:iC e=true)(h:aj c x e=true):PT X e (tB' X.K B (wpT Φ (.val x) E)):=by
 refine ptI (VV (ih h) (aaU hp X.env)) λσ H Q hq=>el hq λρ F G e0 he r hw=>?_;rw[jB]at hw;refine aN e0 he r hw λd G1 H1 F1 u q e1 x1 he1 r1 ru=>?_;split at q
 ·rename_i b hb;exact ⟨b,Ea r1 ru hb,q _ _ x1 r1⟩
 ·exact q.elim
theorem abn{t:Tx}(ih:OkT Φ c E B X t){e:Expr}(h:bF c (.not t) e=true):PT X e (tB' X.K B (wpT Φ (.not t) E)):=by
 replace h:=aaB h;obtain ⟨_,_,rfl,h⟩:=h
 ·refine ptI (Uo (ih h)) λσ H Q hq=>el hq λρ F G e0 he r hw=>?_;rw[rE]at hw;exact jN e0 he r hw λb G1 H1 F1 q e1 x1 he1 r1=>q _ _ x1 r1
def mq(Φ:aa)(E:EK)(isAnd:Bool)(x:Tx)(xs:Txs):ak->DH->(Bool->DH->Prop)->Prop:=λρ G kk=>wpT Φ x E ρ G λb G1=>gb Φ xs isAnd b E ρ G1 kk
theorem GF{isAnd:Bool}{pos:Pos}:∀(xs:Txs){x:Tx},OkT Φ c E B X x->uN Φ c E B X xs->∀{v:Expr}{vs:List Expr},bF c x v=true->iD c xs vs=true->
  PW X (.BoolOp (if isAnd then .And else .Or) (v::vs) pos) (tB' X.K B (mq Φ E isAnd x xs))
 |.nil,x,ih,_,v,vs,h1,h2=>by
  unfold iD at h2;cases vs with
  |nil=>
   have go:∀σ H Q,tB' X.K B (mq Φ E isAnd x .nil) σ H Q->tB' X.K B (wpT Φ x E) σ H Q:=λσ H Q hq=>el hq λρ F G e0 he r hw=>by
    unfold mq at hw;refine ⟨ρ,F,G,e0,he,r,du x (λb G1 q=>?_) hw⟩;rw[rJ]at q;exact q
   cases isAnd with
   |true=>exact pwI (Uj (ih h1)) go
   |false=>exact pwI (Uk (ih h1)) go
  |cons _ _=>cases h2
 |.cons y ys,x,ih,hh,v,vs,h1,h2=>by
  unfold iD at h2;split at h2
  ·rename_i w ws;rw[ae]at h2;have rest:=GF (isAnd:=isAnd) (pos:=pos) ys hh.1 hh.2 h2.1 h2.2;cases isAnd with
   |true=>
    refine pwI (Ul (ih h1) rest) λσ H Q hq=>el hq λρ F G e0 he r hw=>?_;unfold mq at hw;refine jN e0 he r hw λb G1 H1 F1 q e1 x1 he1 r1=>?_;rw[lG]at q;cases b with
    |true=>
     rw[if_pos rfl];exact ⟨ρ,F1,G1,e1,he1,r1,du y (λb' G' z=>uh ys (λc G2 z=>PB.later z x1) z) q⟩
    |false=>
     rw[if_neg br];exact q _ _ x1 r1
   |false=>
    refine pwI (Um (ih h1) rest) λσ H Q hq=>el hq λρ F G e0 he r hw=>?_;unfold mq at hw;refine jN e0 he r hw λb G1 H1 F1 q e1 x1 he1 r1=>?_;rw[lG]at q;cases b with
    |false=>
     rw[if_neg br];exact ⟨ρ,F1,G1,e1,he1,r1,du y (λb' G' z=>uh ys (λc G2 z=>PB.later z x1) z) q⟩
    |true=>
     rw[if_pos rfl];exact q _ _ x1 r1
  ·cases h2
theorem abo{isAnd:Bool}{x:Tx}{xs:Txs}(ih:OkT Φ c E B X x)(hh:uN Φ c E B X xs){e:Expr}(h:bF c (.boo isAnd x xs) e=true):PT X e (tB' X.K B (wpT Φ (.boo isAnd x xs) E)):=by
 replace h:=aaC h;obtain ⟨_,_,_,_,rfl,h⟩:=h
 ·simp only[ae,av]at h;obtain ⟨⟨e1,h1⟩,h2⟩:=h;subst e1;refine ptI (PW.pt (GF xs ih hh h1 h2)) λσ H Q hq=>el hq λρ F G e0 he r hw=>⟨ρ,F,G,e0,he,r,?_⟩;rw[rF]at hw;exact hw
def tG(K:PySem.W.Frag)(B:Bs)(t:Tg):TG:=λv σ H Q=>∃ρ F G d,Ext B.H B.F H F/\EnvR K H F ρ σ/\R K H F G/\Rep K H F d v/\bh t d ρ G (λρ'=>∀σ',EnvR K H F ρ' σ'->Q σ' H)
def tGs(K:PySem.W.Frag)(B:Bs)(t:Tgs):TGs:=λvs σ H Q=>∃ρ F G ds,Ext B.H B.F H F/\EnvR K H F ρ σ/\R K H F G/\Reps K H F ds vs/\bJ t ds ρ G (λρ'=>∀σ',EnvR K H F ρ' σ'->Q σ' H)
theorem uP:∀{ts:Tgs}{es:List Expr}{env:Env},cj c ts es=true->(assignEach es env).length=es.length/\(assignEach es env).findIdx? (·.1)=none/\(assignEach es env).map (·.2)=es.map λe=>assign e env
 |.nil,[],env,_=>⟨rfl,rfl,rfl⟩
 |.nil,_::_,env,h=>by unfold cj at h;cases h
 |.cons t r,[],env,h=>by unfold cj at h;cases h
 |.cons t r,e::es,env,h=>by
  unfold cj at h;rw[ae]at h;obtain ⟨h1,h2,h3⟩:=uP (env:=env) h.2;have hs:assignEach (e::es) env=(false,assign e env)::assignEach es env:=by
   cases t with
   |nm i=>
    have h':=h.1;obtain ⟨_,_,rfl,_⟩:=ym h';rfl
   |tp ts=>
    have h':=h.1;obtain ⟨_,_,_,rfl,_⟩:=yo h';rfl
  rw[hs];refine ⟨by simp[h1],?_,by simp[h3]⟩;rw[List.findIdx?_cons];simp[h2]
section
variable {prog:Program} {w:World} {A:Around} {E:Value->Shared->Prop} {s:Shared}
theorem GJ{it t:Addr}{items:Array Value}(hne:t≠it):∀(n i:Nat)(s:Shared)(Q:List Value->Shared->Prop),s.heap.IsListIter it t i->s.heap.IsList t items->i+n<=items.size->
  (∀h',h'.IsListIter it t (i+n)->Heap.SameBut it s.heap h'->Q ((items.toList.drop i).take n) { s with heap:=h' })->wpAny (model prog w) A (draw (.ref it) n) Q E s
 |0,i,s,Q,hit,_,_,hQ=>by
  show wpAny _ _ (pure []) Q E s;exact a8 (by simpa using hQ s.heap hit (Heap.SameBut.refl ..))
 |n+1,i,s,Q,hit,ht,hle,hQ=>by
  have hlt:i < items.size:=by omega
  show wpAny _ _ (pyNext (.ref it) >>= _) Q E s;refine ag (wpAny_pyNext_list_item hit ht (x:=items[i]) (by simp[hlt]) λh₁ hit₁ hs₁=>?_);refine ag (eS (GJ hne n (i+1) _ _ hit₁ (ht.extBut hs₁.extBut hne) (by omega) λh₂ hit₂ hs₂=>a8 ?_));have hd:items.toList.drop i=items[i]::items.toList.drop (i+1):=by simp[cf,hlt]
  have:=hQ h₂ (by rw[show i+(n+1)=i+1+n by omega];exact hit₂) (hs₁.trans hs₂);rw[hd,List.take_succ_cons]at this;exact this
theorem abp{t:Addr}{items:Array Value}{Q:List Value->Shared->Prop}(hh:A.handled=none)(ht:s.heap.IsList t items)
  (hQ:∀h',Heap.ExtBut s.heap.objs.size s.heap h'->Q items.toList { s with heap:=h' }):wpAny (model prog w) A (unpackItems (.ref t) items.size none) Q E s:=by
 have hlt:t≠s.heap.objs.size:=by obtain ⟨o,ho,_⟩:=ht;exact cq (ax ho)
 unfold unpackItems;refine ag ?_;unfold notIterableAtAll;refine ag (wpAny_specialOf ht.typeIs PySem.F.slot_list_iter.lookup ?_);refine a8 ?_;simp only[fy,if_false];refine ag (eS (wpAny_pyIter_list ht ?_));refine ag (eS (GJ hlt items.size 0 _ _ ⟨_,bd _ rfl,rfl,rfl⟩ (ht.push _) (by omega) λh₁ hit₁ hs₁=>?_));have hall:List.take items.size (List.drop 0 items.toList)=items.toList:=by rw[List.drop_zero];exact en (by simp)
 rw[hall];rw[if_neg (by simp)];have ht₁:h₁.IsList t items:=(ht.push _).extBut hs₁.extBut hlt;refine ag (eS (wpAny_pyNext_list_end hh hit₁ ht₁ (by simp) λh₂ he₂=>?_));simp only[Option.isSome_none,fy,if_false];refine a8 (hQ h₂ λb o hb e=>he₂ b o hb (hs₁.extBut b o hb (al _ e)))
theorem abq{env:Env}{elts:List Expr}{x1}{pos:Pos}{t:Addr}{items:Array Value}{Q:Unit->Shared->Prop}(hh:A.handled=none)(ht:s.heap.IsList t items)
  (hn:(assignEach elts env).length=items.size) (hstar:(assignEach elts env).findIdx? (·.1)=none)
  (h:∀h',Heap.ExtBut s.heap.objs.size s.heap h'->wpAny (model prog w) A (assignInOrder ((assignEach elts env).map (·.2)) items.toList) Q E { s with heap:=h' }):
  wpAny (model prog w) A (assign (.Tuple elts x1 pos) env (.ref t)) Q E s:=by
 rw[assign_Tuple];refine ag (wpAny_standAt ?_);unfold unpack;rw[hn,hstar];exact ag (eS (abp hh ht h))
end
section
variable {X:Cx} {pos:Pos}
def abr(K:PySem.W.Frag)(n:Nat)(t:TGs):TG:=λv σ H Q=>∃a xs,v=.ref a/\SqL K H a xs/\xs.length=n/\t xs σ H Q
theorem abt{es:List Expr}{k:Nat}{t:TGs}{n:Nat}(hc:X.calm=true)(h:PGs X es t)
  (hn:(assignEach es X.env).length=n:=by rfl) (hst:(assignEach es X.env).findIdx? (·.1)=none:=by rfl):PG X (.Tuple es k pos) (abr X.K n t):=by
 intro pins s σ H v u Q I r hw;obtain ⟨a,xs,e1,hq,hl,hw⟩:=hw;subst e1;cases r;obtain ⟨its,rv,pl,hz⟩:=I.list hq;refine abq (I.ok.hd hc) pl.isList (by simp[hn,<-hl,rv.length]) hst λh' hx=>?_;have I1:Inv X pins σ H { s with heap:=h' }:=I.kept (t':=s.toks) λb o e=>hx b o (cq (ax e)) e;exact h pins _ σ H xs _ Q I1 (by simpa using rv) hw
end
mutual
theorem uQ(S:Stat Φ CX k c E B X):∀(t:Tg){e:Expr},cI c t e=true->PG X e (tG X.K B t)
 |.nm i,e,h=>by
  replace h:=ym h;obtain ⟨x,pos,rfl,h⟩:=h
  ·skip;rw[ae,av]at h;obtain ⟨l,f⟩:=S.sto x h.2;intro pins s σ H v u Q I rv q;refine U9 (i:=i) S.nd (by rw[S.N];exact h.1) l f pins s σ H v u Q I rv ?_;obtain ⟨ρ,F,G,d,e0,he,r,rd,hw⟩:=q;unfold bh at hw;exact hw _ (he.set rd i)
 |.tp ts,e,h=>by
  replace h:=yo h;obtain ⟨es,kk,pos,rfl,h⟩:=h
  ·skip;obtain ⟨h1,h2,h3⟩:=uP (env:=X.env) h;intro pins s σ H v u Q I rv q;obtain ⟨ρ,F,G,d,e0,he,r,rd,hw⟩:=q;unfold bh at hw;split at hw
   ·rename_i ds;refine Vf (n:=es.length) S.calm (yr S ts h) h1 h2 pins s σ H v u Q I rv ?_;obtain ⟨a,vs,e1,q,t⟩:=rd;refine ⟨a,vs,e1,q.sq,?_,ρ,F,G,ds,e0,he,r,t,hw⟩;rw[<-t.length];exact yt ts h hw
   ·rename_i ds;refine abt (n:=es.length) S.calm (yr S ts h) h1 h2 pins s σ H v u Q I rv ?_;obtain ⟨a,vs,e1,q,t⟩:=rd;refine ⟨a,vs,e1,q.sq,?_,ρ,F,G,ds,e0,he,r,t,hw⟩;rw[<-t.length];exact yt ts h hw
   ·exact hw.elim
theorem yr(S:Stat Φ CX k c E B X):∀(ts:Tgs){es:List Expr},cj c ts es=true->PGs X es (tGs X.K B ts)
 |.nil,es,h=>by
  unfold cj at h;cases es with
  |nil=>
   intro pins s σ H vs us Q I rv q;refine Vc pins s σ H vs us Q I rv ?_;obtain ⟨ρ,F,G,ds,e0,he,r,rd,hw⟩:=q;unfold bJ at hw;split at hw
   ·exact ⟨rd,hw _ he⟩
   ·exact hw.elim
  |cons _ _=>cases h
 |.cons t r,es,h=>by
  unfold cj at h;split at h
  ·rename_i e es;rw[ae]at h;intro pins s σ H vs us Q I rv q;have hs:(assignEach (e::es) X.env).map (·.2)=assign e X.env::(assignEach es X.env).map (·.2):=by
    have hh:cj c (.cons t r) (e::es)=true:=by unfold cj;show (cI c t e&&cj c r es)=true;rw[h.1,h.2];rfl
    rw[(uP (env:=X.env) hh).2.2,(uP (env:=X.env) h.2).2.2];rfl
   refine Vd (uQ S t h.1) (yr S r h.2) hs pins s σ H vs us Q I rv ?_;obtain ⟨ρ,F,G,ds,e0,he,rr,rd,hw⟩:=q;unfold bJ at hw;split at hw
   ·rename_i d ds;obtain ⟨v,vs',e1,rd1,rds⟩:=rd;refine ⟨v,vs',e1,ρ,F,G,d,e0,he,rr,rd1,gh (λρ' z σ' he'=>?_) t hw⟩;exact ⟨ρ',F,G,ds,e0,he',rr,rds,z⟩
   ·exact hw.elim
  ·cases h
theorem yt{G:DH}:∀(ts:Tgs){es:List Expr}{ds:List D}{ρ:ak}{Q:ak->Prop},cj c ts es=true->bJ ts ds ρ G Q->ds.length=es.length
 |.nil,es,ds,ρ,Q,h,q=>by
  unfold cj at h;unfold bJ at q;split at q
  ·cases es with
   |nil=>rfl
   |cons _ _=>cases h
  ·exact q.elim
 |.cons t r,es,ds,ρ,Q,h,q=>by
  unfold cj at h;split at h
  ·rw[ae]at h;unfold bJ at q;split at q
   ·rename_i d ds;have:∃ρ',bJ r ds ρ' G Q:=GK t q;obtain ⟨ρ',q'⟩:=this;have:=yt r h.2 q';simp[this]
   ·exact q.elim
  ·cases h
theorem GK{G:DH}:∀(t:Tg){d:D}{ρ:ak}{Q:ak->Prop},bh t d ρ G Q->∃ρ',Q ρ'
 |.nm i,d,ρ,Q,q=>⟨_,q⟩
 |.tp ts,d,ρ,Q,q=>by
  unfold bh at q;split at q
  ·exact yu ts q
  ·exact yu ts q
  ·exact q.elim
theorem yu{G:DH}:∀(ts:Tgs){ds:List D}{ρ:ak}{Q:ak->Prop},bJ ts ds ρ G Q->∃ρ',Q ρ'
 |.nil,ds,ρ,Q,q=>by
  unfold bJ at q;split at q
  ·exact ⟨_,q⟩
  ·exact q.elim
 |.cons t r,ds,ρ,Q,q=>by
  unfold bJ at q;split at q
  ·obtain ⟨ρ',q'⟩:=GK t q;exact yu r q'
  ·exact q.elim
end
end
structure WalkJ(K:PySem.W.Frag)(H:Hp)(F:FZ)(items:List D)(g:Hld)(J:It):Prop where
 go:∀H' F' G i,Ext H F H' F'->R K H' F' G->held g G->i < items.length->J.go i H'
 stop:∀H' F' G,Ext H F H' F'->R K H' F' G->held g G->J.stop items.length H'
 yld:∀H' F' i x H'' d G,Ext H F H' F'->R K H' F' G->held g G->items[i]?=some d->J.yld i H' x H''->Ext H' F' H'' F'/\R K H'' F' G/\Rep K H'' F' d x
section
variable {K:PySem.W.Frag} {H:Hp} {F:FZ}
structure Src(K:PySem.W.Frag)(H:Hp)(F:FZ)(u:Value)(ds:List D)(g:Hld)(k:SK):Prop where
 val:k.val=u
 sat:∀H' F' G,Ext H F H' F'->R K H' F' G->held g G->∃vs,k.Sat H' vs/\Reps K H' F' ds vs
theorem uR{d:D}{v:V}{u:Value}{G:DH}{ds:List D×Hld}(h:Rep K H F d v)(r:RelV v u)(e:itemsOf G d=some ds):∃k,Src K H F u ds.1 ds.2 k:=by
 cases d with
 |lst xs=>
  simp only[itemsOf,aT]at e;subst e;obtain ⟨a,vs,e1,q,t⟩:=h;subst e1;have hu:u=Value.ref a:=r;subst hu;exact ⟨.lst a,rfl,λH' F' G' x _ _=>⟨vs,(FzL.ext x q).2,Reps.ext x t⟩⟩
 |tup xs=>
  simp only[itemsOf,aT]at e;subst e;obtain ⟨a,vs,e1,q,t⟩:=h;subst e1;have hu:u=Value.ref a:=r;subst hu;exact ⟨.tup a,rfl,λH' F' G' x _ _=>⟨vs,(TpT.ext (K:=K) x q).it,Reps.ext x t⟩⟩
 |str l=>
  simp only[itemsOf,aT]at e;subst e;obtain ⟨e1,hl⟩:=h;subst e1;obtain ⟨t,hu⟩:∃t,u=Value.str (tx l) t:=r;subst hu;exact ⟨.str (tx l) t,rfl,λH' F' G' x _ _=>⟨_,rfl,by simpa using xU l⟩⟩
 |ref p=>
  simp only[itemsOf]at e;split at e
  ·rename_i xs hg;simp only[aT]at e;subst e;have e1:v=.ref p:=h;subst e1;have hu:u=Value.ref p:=r;subst hu;exact ⟨.lst p,rfl,λH' F' G' x r' hh=>r'.lst hh.1⟩
  ·cases e
 |_=>cases e
theorem uT{G:DH}{d:D}{ds:List D×Hld}(e:itemsOf G d=some ds):held ds.2 G:=by
 cases d with
 |ref p=>
  simp only[itemsOf]at e;split at e
  ·rename_i xs hg;simp only[aT]at e;subst e;exact ⟨hg,trivial⟩
  ·cases e
 |_=>simp only[itemsOf]at e;first | (cases e;done) | (simp only[aT]at e;subst e;exact trivial)
theorem abu{u:Value}{ds:List D}{g:Hld}{k:SK}(s:Src K H F u ds g k):WalkJ K H F ds g (Jk k) where
 go:=λH' F' G i x r hh hi=>by
  obtain ⟨vs,h1,h2⟩:=s.sat H' F' G x r hh;exact ⟨vs,h1,by rw[<-h2.length];exact hi⟩
 stop:=λH' F' G x r hh=>by
  obtain ⟨vs,h1,h2⟩:=s.sat H' F' G x r hh;exact ⟨vs,h1,h2.length.symm⟩
 yld:=λH' F' i v H'' d G x r hh hd y=>by
  obtain ⟨e,hv⟩:=y;subst e;obtain ⟨vs,h1,h2⟩:=s.sat _ F' G x r hh;obtain ⟨w,e1,rw'⟩:=h2.get hd;have e2:=hv vs h1;rw[e1]at e2;cases e2;exact ⟨Ext.refl _ _,r,rw'⟩
theorem my:∀(n:Nat)(ds:List D),(dI n ds).length=ds.length
 |_,[]=>rfl
 |n,d::ds=>by simp[dI,my (n+1) ds]
theorem mz:∀(n:Nat)(ds:List D)(i:Nat),(dI n ds)[i]?=(ds[i]?).map λd=>.tup [.int ((n+i:Nat):Int),d]
 |_,[],_=>by simp[dI]
 |n,d::ds,0=>by simp[dI]
 |n,d::ds,i+1=>by
  simp only[dI,List.getElem?_cons_succ];rw[mz (n+1) ds i];congr 1;funext d;rw[show n+1+i=n+(i+1) by omega]
theorem yw:∀(as bs:List D),(bU as bs).length=min as.length bs.length
 |[],bs=>by simp[bU]
 |a::as,[]=>by simp[bU]
 |a::as,b::bs=>by simp[bU,yw as bs]
theorem GP:∀(as bs:List D)(i:Nat)(d:D),(bU as bs)[i]?=some d->∃a b,as[i]?=some a/\bs[i]?=some b/\d=.tup [a,b]
 |[],bs,i,d,h=>by simp[bU]at h
 |a::as,[],i,d,h=>by simp[bU]at h
 |a::as,b::bs,0,d,h=>by simp[bU]at h;exact ⟨a,b,rfl,rfl,h.symm⟩
 |a::as,b::bs,i+1,d,h=>by
  simp only[bU,List.getElem?_cons_succ]at h;obtain ⟨x,y,h1,h2,h3⟩:=GP as bs i d h;exact ⟨x,y,by simpa using h1,by simpa using h2,h3⟩
theorem abv{u:Value}{ds:List D}{g:Hld}{k:SK}(s:Src K H F u ds g k):WalkJ K H F (dI 0 ds) g (Je k) where
 go:=λH' F' G i x r hh hi=>by
  obtain ⟨vs,h1,h2⟩:=s.sat H' F' G x r hh;exact ⟨vs,h1,by rw[<-h2.length,<-my 0];exact hi⟩
 stop:=λH' F' G x r hh=>by
  obtain ⟨vs,h1,h2⟩:=s.sat H' F' G x r hh;exact ⟨vs,h1,by rw[my];exact h2.length.symm⟩
 yld:=λH' F' i v H'' d G x r hh hd y=>by
  obtain ⟨vs,h1,h2⟩:=s.sat H' F' G x r hh;obtain ⟨T,y,hT,e1,e2,hv⟩:=y;subst e1 e2;rw[mz]at hd;obtain ⟨d',hd',e3⟩:=a7.mp hd;subst e3;obtain ⟨w,e1,rw'⟩:=h2.get hd';have e2:=hv vs h1;rw[e1]at e2;cases e2;refine ⟨dj r hT,r.new hT,?_⟩;rw[Nat.zero_add];exact wQ r hT (Reps.cons rfl (Reps.cons rw' Reps.nil))
theorem jQ{g g':Hld}{G:DH}:held (g++g') G->held g G/\held g' G:=by
 induction g with
 |nil=>exact λh=>⟨trivial,h⟩
 |cons p r ih=>
  intro h;obtain ⟨h1,h2⟩:=ih h.2;exact ⟨⟨h.1,h1⟩,h2⟩
theorem abw{u u':Value}{ds es:List D}{g g':Hld}{k l:SK}(s:Src K H F u ds g k)(s':Src K H F u' es g' l):WalkJ K H F (bU ds es) (g++g') (Jz k l) where
 go:=λH' F' G i x r hh hi=>by
  obtain ⟨vs,h1,h2⟩:=s.sat H' F' G x r (jQ hh).1;obtain ⟨ws,h3,h4⟩:=s'.sat H' F' G x r (jQ hh).2;rw[yw]at hi;exact ⟨vs,ws,h1,h3,by rw[<-h2.length];omega,by rw[<-h4.length];omega⟩
 stop:=λH' F' G x r hh=>by
  obtain ⟨vs,h1,h2⟩:=s.sat H' F' G x r (jQ hh).1;obtain ⟨ws,h3,h4⟩:=s'.sat H' F' G x r (jQ hh).2;exact ⟨vs,ws,h1,h3,by rw[yw,<-h2.length,<-h4.length];omega⟩
 yld:=λH' F' i v H'' d G x r hh hd y=>by
  obtain ⟨T,y,z,hT,e1,e2,hv,hz⟩:=y;subst e1 e2;obtain ⟨a,b,ha,hb,e3⟩:=GP _ _ _ _ hd;subst e3;obtain ⟨vs,h1,h2⟩:=s.sat H' F' G x r (jQ hh).1;obtain ⟨ws,h3,h4⟩:=s'.sat H' F' G x r (jQ hh).2;obtain ⟨w,e1,rw'⟩:=h2.get ha;obtain ⟨w2,e3,rw2⟩:=h4.get hb;have e2:=hv vs h1;have e4:=hz ws h3;rw[e1]at e2;cases e2;rw[e3]at e4;cases e4;exact ⟨dj r hT,r.new hT,wQ r hT (Reps.cons rw' (Reps.cons rw2 Reps.nil))⟩
theorem abx(lo:Int)(n:Nat):WalkJ K H F (aO lo n) [] (Itr lo n) where
 go:=λH' F' G i x _ _ hi=>by show i < n;simpa [aO] using hi
 stop:=λH' F' G x _ _=>by show n<=(aO lo n).length;simp[aO]
 yld:=λH' F' i v H'' d G x r _ hd y=>by
  obtain ⟨e1,e2⟩:=y;subst e1 e2;refine ⟨Ext.refl _ _,r,?_⟩;unfold aO at hd;rw[a9]at hd;obtain ⟨j,hj,e3⟩:=a7.mp hd;have:j=i:=by have:=ar.mp hj;obtain ⟨h1,h2⟩:=this;simpa using h2.symm
  subst this;subst e3;rfl
end
def tI(K:PySem.W.Frag)(B:Bs)(w:ak->DH->(List D->Hld->DH->Prop)->Prop):TI:=λσ H Rr=>∃ρ F G,Ext B.H B.F H F/\EnvR K H F ρ σ/\R K H F G/\
 w ρ G (λitems g G'=>∀H' F' J,Ext H F H' F'->R K H' F' G'->WalkJ K H' F' items g J->Rr J H')
section
variable {Φ:aa} {CX:CXT} {k:Nat} {c:CT} {E:EK} {B:Bs} {X:Cx}
theorem uU{pins:List (Addr×Obj)}{σ:L2.St}{H:Hp}{s:Shared}(I:Inv X pins σ H s){kk:SK}{vs:List V}(h:kk.Sat H vs):∃its:Array Value,kk.On its s.heap:=by
 cases kk with
 |lst a=>obtain ⟨its,_,pl,_⟩:=I.list (SqL.of (show H a=some _ from h));exact ⟨its.toArray,pl.isList⟩
 |tup a=>obtain ⟨its,_,pl,_⟩:=I.tuple (SqT.of (show H a=some _ from h));exact ⟨its.toArray,pl⟩
 |str x t=>exact ⟨#[],trivial⟩
theorem aby{x:Ex}(ih:OkE Φ c E B X x){tg e:Expr}(h:aj c x e=true):PI X tg e (tI X.K B (wpI Φ (.seq x) E)):=by
 intro pins s σ H Rr I q;obtain ⟨ρ,F,G,e0,he,r,hw⟩:=q;rw[rN]at hw;have q':tE X.K B (wpE Φ x E) σ H (λv H1=>∃F1 G1 d items,R X.K H1 F1 G1/\Rep X.K H1 F1 d v/\itemsOf G1 d=some items/\∀J,WalkJ X.K H1 F1 items.1 items.2 J->Rr J H1):=
  aN e0 he r hw λd G1 H1 F1 u q e1 x1 he1 r1 ru=>by
   split at q
   ·rename_i ds hd;exact ⟨F1,G1,d,ds,r1,ru,hd,λJ w=>q H1 F1 J x1 r1 w⟩
   ·exact q.elim
 refine thn (ih h pins s σ H _ I q') λu s1 ⟨v,H1,I1,rv,F1,G1,d,items,r1,rd,hd,q1⟩=>?_;obtain ⟨kk,src⟩:=uR rd rv hd;obtain ⟨vs,sat,_⟩:=src.sat H1 F1 G1 (Ext.refl _ _) r1 (uT hd);obtain ⟨its,on⟩:=uU I1 sat;rw[<-src.val];refine SK.iter on ?_;refine ⟨s1.heap.objs.size,[s1.heap.objs.size],_,_,H1,rfl,I1.kept (t':=s1.toks) λb o e=>al _ e,aal kk _,SK.pos0,λb hb=>?_,q1 _ (abu src)⟩;have e:b=s1.heap.objs.size:=by simpa using hb
 subst e;exact I1.fpOk (aw _) (I1.hok.fresh (aw _))
theorem abz(S:Stat Φ CX k c E B X){a:Ex}(ih:OkE Φ c E B X a){tg e:Expr}(h:bO c (.rng a) tg e=true):PI X tg e (tI X.K B (wpI Φ (.rng a) E)):=by
 replace h:=Gk h;obtain ⟨_,_,_,_,rfl,h⟩:=h
 ·simp only[ae,av]at h;obtain ⟨⟨⟨e1,h1⟩,hm⟩,h2⟩:=h;subst e1;obtain ⟨g1,g2⟩:=bQ h1;have hmg:=S.blt _ (aE.mp hm);have hs:=bL _ [] X.env (cu (bD a h2));intro pins s σ H Rr I q;refine Vp (S.glo _ g1) hmg (di (ih h2) eG hs) hs pins s σ H Rr I ?_;obtain ⟨ρ,F,G,e0,he,r,hw⟩:=q;rw[rO]at hw;refine aN e0 he r hw λd G1 H1 F1 u q e1 x1 he1 r1 ru=>?_;split at q
  ·rename_i n;have e2:u=.int n:=ru;subst e2;exact ⟨n,rfl,q.1.1,q.1.2,q.2 H1 F1 _ x1 r1 (abx 0 n.toNat)⟩
  ·exact q.elim
theorem abA{K:PySem.W.Frag}{H:Hp}{F:FZ}(lo:Int)(n:Nat):WalkJ K H F (dm lo n) [] (Itd lo n) where
 go:=λH' F' G i x _ _ hi=>by show i < n;simpa [dm] using hi
 stop:=λH' F' G x _ _=>by show n<=(dm lo n).length;simp[dm]
 yld:=λH' F' i v H'' d G x r _ hd y=>by
  obtain ⟨e1,e2⟩:=y;subst e1 e2;refine ⟨Ext.refl _ _,r,?_⟩;unfold dm at hd;rw[a9]at hd;obtain ⟨j,hj,e3⟩:=a7.mp hd;have:j=i:=by have:=ar.mp hj;obtain ⟨h1,h2⟩:=this;simpa using h2.symm
  subst this;subst e3;rfl
theorem abB(S:Stat Φ CX k c E B X){a:Ex}(ih:OkE Φ c E B X a){tg e:Expr}(h:bO c (.rev a) tg e=true):PI X tg e (tI X.K B (wpI Φ (.rev a) E)):=by
 replace h:=Gm h;obtain ⟨_,_,_,_,_,_,_,rfl,h⟩:=h;simp only[ae,av]at h;obtain ⟨⟨⟨⟨⟨⟨e1,h1⟩,hm⟩,e2⟩,h2⟩,hm2⟩,h3⟩:=h;subst e1 e2;obtain ⟨g1,_⟩:=bQ h1;obtain ⟨g2,_⟩:=bQ h2;have hmg:=S.blt _ (aE.mp hm);have hmg2:=S.blt _ (aE.mp hm2);have hs:=bL _ [] X.env (cu (bD a h3));intro pins s σ H Rr I q;refine XH (S.glo _ g1) hmg (S.glo _ g2) hmg2 (di (ih h3) eG hs) hs pins s σ H Rr I ?_;obtain ⟨ρ,F,G,e0,he,r,hw⟩:=q;rw[rP]at hw;refine aN e0 he r hw λd G1 H1 F1 u q e1 x1 he1 r1 ru=>?_;split at q
 ·rename_i n;have e2:u=.int n:=ru;subst e2;exact ⟨n,rfl,q.1.1,q.1.2,q.2 H1 F1 _ x1 r1 (abA _ n.toNat)⟩
 ·exact q.elim
theorem abC(S:Stat Φ CX k c E B X){a b d:Ex}(iha:OkE Φ c E B X a)(ihb:OkE Φ c E B X b)(ihd:OkE Φ c E B X d){tg e:Expr}(h:bO c (.dwn a b d) tg e=true):PI X tg e (tI X.K B (wpI Φ (.dwn a b d) E)):=nomatch (show false=true from h)
theorem abD(S:Stat Φ CX k c E B X){a b:Ex}(iha:OkE Φ c E B X a)(ihb:OkE Φ c E B X b){tg e:Expr}(h:bO c (.rng2 a b) tg e=true):PI X tg e (tI X.K B (wpI Φ (.rng2 a b) E)):=nomatch (show false=true from h)
theorem abE(S:Stat Φ CX k c E B X){a:Ex}(ih:OkE Φ c E B X a){tg e:Expr}(h:bO c (.enm a) tg e=true):PI X tg e (tI X.K B (wpI Φ (.enm a) E)):=by
 replace h:=Gn h;obtain ⟨_,_,_,_,_,_,_,rfl,rfl,h⟩:=h
 ·skip
  ·simp only[ae,av]at h;obtain ⟨⟨⟨e1,h1⟩,hm⟩,h2⟩:=h;subst e1;obtain ⟨g1,g2⟩:=bQ h1;have hmg:=S.blt _ (aE.mp hm);have hs:=bL _ [] X.env (cu (bD a h2));intro pins s σ H Rr I q;obtain ⟨ρ,F,G,e0,he,r,hw⟩:=q;rw[rQ]at hw;have q':tL X.K B (aP Φ (.cons a .nil) E) σ H (λvs H1=>∃v F1 G1 d items,vs=[v]/\R X.K H1 F1 G1/\Rep X.K H1 F1 d v/\itemsOf G1 d=some items/\∀J,WalkJ X.K H1 F1 (dI 0 items.1) items.2 J->Rr J H1):=by
    refine cO (W:=λds G1=>∃d items,ds=[d]/\itemsOf G1 d=some items/\∀H' F' J,Ext H F H' F'->R X.K H' F' G1->WalkJ X.K H' F' (dI 0 items.1) items.2 J->Rr J H') e0 he r ?_ λds G1 H1 F1 vs q e1 x1 he1 r1 rvs=>?_
    ·rw[gD];refine aH a (λd G1 q=>?_) hw;rw[il];split at q
     ·rename_i items hd;exact ⟨d,items,rfl,hd,q⟩
     ·exact q.elim
    ·obtain ⟨d,items,e2,hd,q⟩:=q;subst e2;obtain ⟨v,e3,rv⟩:=bA rvs;exact ⟨v,F1,G1,d,items,e3,r1,rv,hd,λJ w=>q H1 F1 J x1 r1 w⟩
   refine Call_ (fW I (S.glo _ g1) hmg (u:=.type "enumerate") boot_enumerate (de (thn (uM ih (λh=>yp h) (c:=c) (es:=[_]) (by unfold aL;show (aj c a _&&true)=true;rw[h2];rfl) _ pins s σ H _ I q') λus s1 ⟨vs,H1,I1,r1v,q1⟩=>?_) hs rfl) (cJ g2) (bx g2));obtain ⟨v,F1,G1,d,items,e1,r1,rd,hd,q1⟩:=q1;subst e1;obtain ⟨u,rfl,ru⟩:=vals1 r1v;obtain ⟨kk,src⟩:=uR rd ru hd;obtain ⟨vs,sat,_⟩:=src.sat H1 F1 G1 (Ext.refl _ _) r1 (uT hd);obtain ⟨its,on⟩:=uU I1 sat;rw[<-src.val];refine aau on λh' hen hit hsz hk=>?_;refine wpAny_pyIter_enum hen ?_;have n1:H1 s1.heap.objs.size=none:=I1.hok.fresh (aw _);have n2:H1 (s1.heap.objs.size+1)=none:=I1.hok.fresh (Nat.le_succ _);refine ⟨s1.heap.objs.size+1,[s1.heap.objs.size+1,s1.heap.objs.size],_,_,H1,rfl,I1.kept (t':=s1.toks) hk,aak kk _ _ (Nat.succ_ne_self _),⟨⟨_,hen⟩,hit⟩,λb hb=>?_,q1 _ (abv src)⟩;have hb':b=s1.heap.objs.size+1\/b=s1.heap.objs.size:=by simpa using hb
   rcases hb' with rfl |rfl
   ·exact I1.fpOk (Nat.le_succ _) n2
   ·exact I1.fpOk (aw _) n1
theorem zap(n:Nat):ZApart (n+4) (n+2) (n+3) n (n+1):=
 ⟨(by omega:(n+2:Nat)≠n+4),(by omega:(n+3:Nat)≠n+4),(by omega:(n:Nat)≠n+4),(by omega:(n+1:Nat)≠n+4),(by omega:(n+2:Nat)≠n+3),(by omega:(n+2:Nat)≠n),(by omega:(n+2:Nat)≠n+1),(by omega:(n+3:Nat)≠n),(by omega:(n+3:Nat)≠n+1),(by omega:(n:Nat)≠n+1)⟩
theorem abF(S:Stat Φ CX k c E B X){a b:Ex}(iha:OkE Φ c E B X a)(ihb:OkE Φ c E B X b){tg e:Expr}(h:bO c (.zip a b) tg e=true):PI X tg e (tI X.K B (wpI Φ (.zip a b) E)):=by
 replace h:=Gp h;obtain ⟨_,_,_,_,_,v,v',pos,rfl,rfl,h⟩:=h
 ·skip
  ·simp only[ae,av]at h;obtain ⟨⟨⟨⟨e1,h1⟩,hm⟩,h2⟩,h3⟩:=h;subst e1;obtain ⟨g1,g2⟩:=bQ h1;have hmg:=S.blt _ (aE.mp hm);have hs2:=bL v' [] X.env (cu (bD b h3));have hs:=bL v [v'] X.env (cu (bD a h2));intro pins s σ H Rr I q;obtain ⟨ρ,F,G,e0,he,r,hw⟩:=q;rw[rR]at hw;have hA:aL c (.cons a (.cons b .nil)) [v,v']=true:=by
    unfold aL aL aL;show (aj c a v&&(aj c b v'&&true))=true;rw[h2,h3];rfl
   have q':tL X.K B (aP Φ (.cons a (.cons b .nil)) E) σ H (λvs H1=>∃v v' F1 G1 d d' items items',vs=[v,v']/\R X.K H1 F1 G1/\Rep X.K H1 F1 d v/\Rep X.K H1 F1 d' v'/\itemsOf G1 d=some items/\itemsOf G1 d'=some items'/\∀J,WalkJ X.K H1 F1 (bU items.1 items'.1) (items.2++items'.2) J->Rr J H1):=by
    refine cO (W:=λds G1=>∃d d' items items',ds=[d,d']/\itemsOf G1 d=some items/\itemsOf G1 d'=some items'/\∀H' F' J,Ext H F H' F'->R X.K H' F' G1->WalkJ X.K H' F' (bU items.1 items'.1) (items.2++items'.2) J->Rr J H') e0 he r ?_ λds G1 H1 F1 vs q e1 x1 he1 r1 rvs=>?_
    ·rw[gD];refine aH a (λd G1 q=>?_) hw;rw[gD];refine aH b (λd' G2 q=>?_) q;rw[il];split at q
     ·rename_i items items' hd hd';exact ⟨d,d',items,items',rfl,hd,hd',q⟩
     ·exact q.elim
    ·obtain ⟨d,d',items,items',e2,hd,hd',q⟩:=q;subst e2;obtain ⟨w1,r2,e3,rw1,t2⟩:=rvs;obtain ⟨w2,e4,rw2⟩:=bA t2;subst e4;exact ⟨w1,w2,F1,G1,d,d',items,items',e3,r1,rw1,rw2,hd,hd',λJ w=>q H1 F1 J x1 r1 w⟩
   refine Call_ (fW I (S.glo _ g1) hmg (u:=.type "zip") Xk (de (thn (uM iha (λh=>uM ihb (λh=>yp h) h) (c:=c) (es:=[v,v']) hA _ pins s σ H _ I q') λus s1 ⟨vs,H1,I1,r1v,q1⟩=>?_) hs (by rw[hs2];rfl)) (cJ g2) (bx g2));obtain ⟨w1,w2,F1,G1,d,d',items,items',e1,r1,rd,rd',hd,hd',q1⟩:=q1;subst e1;obtain ⟨u,u',rfl,ru,ru'⟩:=vals2 r1v;obtain ⟨kk,src⟩:=uR rd ru hd;obtain ⟨ll,src'⟩:=uR rd' ru' hd';obtain ⟨vs,sat,_⟩:=src.sat H1 F1 G1 (Ext.refl _ _) r1 (uT hd);obtain ⟨ws,sat',_⟩:=src'.sat H1 F1 G1 (Ext.refl _ _) r1 (uT hd');obtain ⟨its,on⟩:=uU I1 sat;obtain ⟨its',on'⟩:=uU I1 sat';rw[<-src.val,<-src'.val];refine aas on on' λh' hz hTI hTO p1 p2 hsz hk=>?_;refine wpAny_pyIter_zip hz ?_;have fr:∀j,H1 (s1.heap.objs.size+j)=none:=λj=>I1.hok.fresh (eR _ _);refine ⟨s1.heap.objs.size+4,[s1.heap.objs.size+4,s1.heap.objs.size+2,s1.heap.objs.size+3,s1.heap.objs.size,s1.heap.objs.size+1],_,_,H1,rfl,I1.kept (t':=s1.toks) hk,
    aap kk ll (s1.heap.objs.size+4) (s1.heap.objs.size+2) (s1.heap.objs.size+3) s1.heap.objs.size (s1.heap.objs.size+1) (zap s1.heap.objs.size),⟨hz,hTI,⟨_,_,hTO⟩,p1,p2⟩,λb hb=>?_,q1 _ (abw src src')⟩
   have hb':b=s1.heap.objs.size+4\/b=s1.heap.objs.size+2\/b=s1.heap.objs.size+3\/b=s1.heap.objs.size\/b=s1.heap.objs.size+1:=by simpa using hb
   rcases hb' with rfl |rfl |rfl |rfl |rfl
   ·exact I1.fpOk (eR _ _) (fr 4)
   ·exact I1.fpOk (eR _ _) (fr 2)
   ·exact I1.fpOk (eR _ _) (fr 3)
   ·exact I1.fpOk (aw _) (fr 0)
   ·exact I1.fpOk (eR _ _) (fr 1)
end
section
variable {Φ:aa} {CX:CXT} {k:Nat} {c:CT} {E:EK} {B:Bs} {X:Cx}
theorem yx:∀{l:List Str},fH l=true->l.Nodup
 |[],_=>List.nodup_nil
 |x::r,h=>by
  unfold fH at h;rw[ae]at h;refine List.nodup_cons.mpr ⟨λhm=>?_,yx h.2⟩;have:=h.1;rw[aE.mpr hm]at this;cases this
theorem uV{N:List Str}{scope:Scope}:∀{N':List Str}{cap:List (Option Nat)},X.N=N->gF N scope N' cap=true->Caps X scope N' cap
 |[],[],_,_=>trivial
 |_::N',none::cap,e,h=>uV (N':=N') (cap:=cap) e h
 |x::N',some j::cap,e,h=>by
  unfold gF at h;simp only[ae,av]at h;exact ⟨⟨by rw[e];exact h.1.1,h.1.2⟩,uV (N':=N') (cap:=cap) e h.2⟩
 |[],_::_,_,h=>by cases h
 |_::_,[],_,h=>by cases h
theorem mC{scope:Scope}{env:Env}(x:Str):(relabel scope env).names.lookup x=(scope.names.lookup x).map λkk=>if (kk==NameKind.free&&env.scope.kind==.function&&env.kindOf x==some .cell)=true then NameKind.cell else kk:=wA
theorem Stat.comp(S:Stat Φ CX k c E B X){N':List Str}{scope:Scope}(hn:fH N'=true)(cl:List (Str×Addr))(C:Addr)(s₁:Shared)(H₁:Hp)(fp:List Addr)(pn:List (Addr×Obj)):
  Stat Φ CX k (c.comp N' scope) noE B (X.comp N' scope cl C s₁ H₁ fp pn) where
 N:=rfl
 nd:=yx hn
 calm:=S.calm
 own:=PassesOwn.never
 kd:=rfl
 vis:=λx h=>by
  have h:iB (scope.names.lookup x)=true:=h;show (relabel scope X.env).names.lookup x=_\/(relabel scope X.env).names.lookup x=_\/(relabel scope X.env).names.lookup x=_;rw[mC];cases e:scope.names.lookup x with
  |none=>rw[e]at h;cases h
  |some kk=>
   rw[e]at h;cases kk with
   | «local»=>exact .inl (by simp[show (NameKind.«local»==NameKind.free)=false by decide])
   |cell=>exact .inr (.inl (by simp[show (NameKind.cell==NameKind.free)=false by decide]))
   |free=>
    by_cases q:(NameKind.free==NameKind.free&&X.env.scope.kind==ScopeKind.function&&X.env.kindOf x==some NameKind.cell)=true
    ·exact .inr (.inl (by simp only[Option.map_some,if_pos q]))
    ·exact .inr (.inr (by simp only[Option.map_some,if_neg q]))
   |globalExplicit=>cases h
   |globalImplicit=>cases h
 cel:=λx h=>by
  have h:scope.names.lookup x=some .cell\/scope.names.lookup x=some .free:=h;show (relabel scope X.env).names.lookup x=_\/(relabel scope X.env).names.lookup x=_;rw[mC];rcases h with h |h
  ·exact .inl (by rw[h];simp[show (NameKind.cell==NameKind.free)=false by decide])
  ·rw[h];by_cases q:(NameKind.free==NameKind.free&&X.env.scope.kind==ScopeKind.function&&X.env.kindOf x==some NameKind.cell)=true
   ·exact .inl (by simp only[Option.map_some,if_pos q])
   ·exact .inr (by simp only[Option.map_some,if_neg q])
 glo:=λx h=>by
  have h:scope.names.lookup x=some .globalImplicit:=h;show (relabel scope X.env).names.lookup x=_;rw[mC,h];simp[show (NameKind.globalImplicit==NameKind.free)=false by decide]
 sto:=λx h=>by
  have h:(scope.names.lookup x==some .local||(false&&scope.names.lookup x==some .cell))=true:=h;rw[dy,Bool.or_false,av]at h;have e:(relabel scope X.env).names.lookup x=some .local:=by rw[mC,h];simp[show (NameKind.«local»==NameKind.free)=false by decide]
  exact ⟨.inl e,.inr e⟩
 room:=S.room
 call:=S.call
 blt:=S.blt
 con:=S.con
 exc:=⟨_,S.nox _,λ_ _ _ _ _ _ _ _ _ _ q=>q.elim,λx G' H' F' h=>h.elim⟩
 nox:=S.nox
 xcl:=λC h=>nomatch (show false=true from h)
 loc:=λx h=>by show (relabel scope X.env).names.lookup x=_;rw[mC,show scope.names.lookup x=some .local from h];simp[show (NameKind.«local»==NameKind.free)=false by decide]
 xis:=λC h=>nomatch (show false=true from h)
 trc:=λh=>absurd rfl h
theorem abG(S:Stat Φ CX k c E B X){t:Tx}(ih:OkT Φ c E B X t){ifs:List Expr}(h:lX c t ifs=true):PIf X ifs (tB' X.K B (wpT Φ t E)):=by
 unfold lX at h;rw[c8]at h;rcases h with h |h
 ·rw[ae,List.isEmpty_iff]at h;obtain ⟨hy,rfl⟩:=h;cases t with
  |yes=>
   intro pins s σ H Q I q;refine W6 pins s σ H Q I ?_;obtain ⟨ρ,F,G,e0,he,r,hw⟩:=q;rw[rG]at hw;exact hw.now r
  |_=>cases hy
 ·obtain ⟨e,he,h⟩:=aM h;rw[bV he];exact W7 (ih h)
theorem GQ(S:Stat Φ CX k c E B X){fz:Bool}{elt:Ex}{tg:Tg}{it:It'}{cond:Tx}{N':List Str}{cap:List (Option Nat)}{scope:Scope}{elt' tg':Expr}{ifs:List Expr}(hn:fH N'=true)
  (ihe:∀{X':Cx},Stat Φ CX k (c.comp N' scope) noE B X'->OkE Φ (c.comp N' scope) noE B X' elt) (iht:∀{X':Cx},Stat Φ CX k (c.comp N' scope) noE B X'->OkT Φ (c.comp N' scope) noE B X' cond)
  (hg:cI (c.comp N' scope) tg tg'=true) (hi:lX (c.comp N' scope) cond ifs=true) (he:aj (c.comp N' scope) elt elt'=true)
  {σ:L2.St} {H:Hp} {Q:VK} {ρ:ak} {F:FZ} {G:DH} (e0:Ext B.H B.F H F) (henv:EnvR X.K H F ρ σ) (r:R X.K H F G)
  (hw:wpI Φ it E ρ G λitems g G1=>
   compLoop (λd ρ' G' k'=>bh tg d ρ' G' λρ1=>wpT Φ cond noE ρ1 G' λb G2=>match b with |true=>wpE Φ elt noE ρ1 G2 λy G3=>k' (some y) ρ1 G3 |false=>k' none ρ1 G2)
    g items [] (cap.map λo=>match o with |none=>none |some j=>(ρ[j]?).join) G1 λds G2=>mk fz ds G2 (PV X.K H F Q)):
  tI X.K B (wpI Φ it E) σ H (λJ H1=>Cj X N' scope tg' ifs elt' J (eN cap σ) H1 Q):=by
 refine ⟨ρ,F,G,e0,henv,r,lM it (λitems g G1 q H1 F1 J x1 r1 W=>?_) hw⟩;let step:D->ak->DH->(Option D->ak->DH->Prop)->Prop:=λd ρ' G' k'=>bh tg d ρ' G' λρ1=>wpT Φ cond noE ρ1 G' λb G2=>match b with |true=>wpE Φ elt noE ρ1 G2 λy G3=>k' (some y) ρ1 G3 |false=>k' none ρ1 G2
 let fin:List D->DH->Prop:=λds G2=>mk fz ds G2 (PV X.K H F Q)
 refine ⟨λi m ys σ' H'=>m=items.length - i/\i<=items.length/\∃ρ' F' G' acc,Ext B.H B.F H' F'/\Ext H1 F1 H' F'/\EnvR X.K H' F' ρ' σ'/\R X.K H' F' G'/\Reps X.K H' F' acc ys/\compLoop step g (items.drop i) acc ρ' G' fin,
  ⟨items.length,by simp,fg _,_,F1,G1,[],e0.trans x1,Ext.refl _ _,(henv.ext x1).cap cap,r1,rfl,q⟩,?_⟩
 rintro i m ys σ' H' ⟨rfl,hle,ρ',F',G',acc,eB,e1,he',r',ra,hl⟩;by_cases hlt:i < items.length
 ·have hd:items.drop i=items[i]::items.drop (i+1):=cf hlt;rw[hd]at hl;obtain ⟨hh,hz,hl⟩:=hl;refine .inr ⟨W.go H' F' G' i e1 r' hh hlt,by rw[<-ra.length];exact bi hz szl,λcl C s₁ H₁ fp pn=>?_⟩;have S':=S.comp (scope:=scope) hn cl C s₁ H₁ fp pn;refine ⟨_,_,_,uQ S' tg hg,abG S' (iht S') hi,ihe S' he,λx H2 hy=>?_⟩;obtain ⟨xy,ry,rx⟩:=W.yld H' F' i x H2 items[i] G' e1 r' hh (by simp[hlt]) hy;refine ⟨ρ',F',G',items[i],eB.trans xy,he'.ext xy,ry,rx,gh (λρ1 z σ1 hσ1=>?_) tg hl⟩;refine jN (eB.trans xy) hσ1 ry z λb G2 H3 F3 z e3 x3 he3 r3=>?_;cases b with
  |true=>
   rw[if_pos rfl];refine aN e3 he3 r3 z λy G4 H4 F4 v z e4 x4 he4 r4 rv=>?_;exact ⟨items.length - (i+1),by omega,rfl,hlt,ρ1,F4,G4,acc++[y],e4,e1.trans (xy.trans (x3.trans x4)),he4,r4,(Reps.ext (xy.trans (x3.trans x4)) ra).append (Reps.cons rv Reps.nil),z⟩
  |false=>
   rw[if_neg br];exact ⟨items.length - (i+1),by omega,rfl,hlt,ρ1,F3,G2,acc,e3,e1.trans (xy.trans x3),he3,r3,Reps.ext (xy.trans x3) ra,z⟩
 ·have hi':i=items.length:=by omega
  subst hi';rw[fm]at hl;obtain ⟨hh,hz,hl⟩:=hl;refine .inl ⟨W.stop H' F' G' e1 r' hh,by rw[<-ra.length];exact cN hz,λp hp=>?_⟩;exact dN (dq (λd G' z=>PV.later z (x1.trans e1)) hl) r' ra p hp
structure CompC(c:CT)(elt:Ex)(tg:Tg)(it:It')(cond:Tx)(N':List Str)(cap:List (Option Nat))(elt' tg' iter:Expr)(ifs:List Expr)(scope:Scope):Prop where
 it:bO c it tg' iter=true
 cap:gF c.N scope N' cap=true
 sc:jJ c scope=true
 nd:fH N'=true
 tg:cI (c.comp N' scope) tg tg'=true
 cd:lX (c.comp N' scope) cond ifs=true
 el:aj (c.comp N' scope) elt elt'=true
theorem GR(S:Stat Φ CX k c E B X){scope:Scope}(h:jJ c scope=true):scope.names.all (λy=>y.2 != NameKind.cell)=true/\scope.names.all (λy=>y.2 != NameKind.local||scope.names.lookup y.1==some NameKind.local)=true/\
  scope.names.all (λy=>y.2 != NameKind.free||(X.env.kindOf y.1==some NameKind.cell||X.env.kindOf y.1==some NameKind.free))=true/\scope.kind=.function:=by
 unfold jJ at h;simp only[ae,bg]at h;obtain ⟨⟨⟨⟨h1,h2⟩,h3⟩,h4⟩,_⟩:=h;refine ⟨h1,h2,?_,h4⟩;rw[bp]at h3 ⊢;intro y hy;have:=h3 y hy;rw[c8,c8,av,av]at this;rw[c8,c8,av,av];rcases this with q |q
 ·exact .inl q
 ·exact .inr (S.cel y.1 q)
theorem GX{fz:Bool}{elt:Ex}{tg:Tg}{it:It'}{cond:Tx}{N:List String}{cap:List (Option Nat)}{e:Expr}(h:aj c (.comp fz elt tg it cond N cap) e=true):
  ∃elt' tg' iter ifs scope pos,e=.ListComp elt' [⟨tg',iter,ifs,0⟩] scope pos/\CompC c elt tg it cond (N.map Str.ofString) cap elt' tg' iter ifs scope:=by
 replace h:=Gj h;obtain ⟨_,_,_,_,_,_,_,rfl,h⟩:=h;simp only[ae,bg]at h;obtain ⟨⟨⟨⟨⟨⟨⟨h1,h2⟩,h3⟩,h4⟩,h5⟩,h6⟩,h7⟩,h8⟩:=h;subst h1;exact ⟨_,_,_,_,_,_,rfl,h2,h3,h4,h5,h6,h7,h8⟩
theorem yz{it:It'}{tg' iter:Expr}(h:bO c it tg' iter=true)(env:Env)(x:Value):foldedSetIterable iter env x=pure x:=by
 cases it with
 |seq y=>exact aaS (bD y (show aj c y iter=true from h)) env x
 |rng a=>obtain ⟨_,_,_,_,rfl,_⟩:=Gk h;rfl
 |rng2 _ _=>exact nomatch (show false=true from h)
 |rev a=>obtain ⟨_,_,_,_,_,_,_,rfl,_⟩:=Gm h;rfl
 |dwn _ _ _=>exact nomatch (show false=true from h)
 |enm a=>obtain ⟨_,_,_,_,_,_,_,_,rfl,_⟩:=Gn h;rfl
 |zip a b=>obtain ⟨_,_,_,_,_,_,_,_,_,rfl,_⟩:=Gp h;rfl
theorem abH(S:Stat Φ CX k c E B X){fz:Bool}{elt:Ex}{tg:Tg}{it:It'}{cond:Tx}{N:List String}{cap:List (Option Nat)}
  (ihe:∀{c':CT}{X':Cx},Stat Φ CX k c' noE B X'->OkE Φ c' noE B X' elt) (iht:∀{c':CT}{X':Cx},Stat Φ CX k c' noE B X'->OkT Φ c' noE B X' cond)
  (ihi:∀{tg' iter:Expr},bO c it tg' iter=true->PI X tg' iter (tI X.K B (wpI Φ it E))) {e:Expr} (h:aj c (.comp fz elt tg it cond N cap) e=true):
  PE X e (tE X.K B (wpE Φ (.comp fz elt tg it cond N cap) E)):=by
 obtain ⟨elt',tg',iter,ifs,scope,pos,rfl,C⟩:=GX h;obtain ⟨s1,s2,s3,s4⟩:=GR S C.sc;refine peI (Xr (N.map Str.ofString) cap S.calm (ihi C.it) (uV S.N C.cap) s1 s2 s3 s4 (yz C.it X.env)) λσ H Q hq=>el hq λρ F G e0 he r hw=>?_;rw[xJ]at hw;exact GQ S C.nd (λS'=>ihe S') (λS'=>iht S') C.tg C.cd C.el e0 he r hw
theorem bG{x:Ex}(ih:OkE Φ c E B X x)(hn:∀l os rs pos,aj c x (.Compare l os rs pos)=true->False){e:Expr}(h:bF c (.val x) e=true):PT X e (tB' X.K B (wpT Φ (.val x) E)):=by
 have h:((iC e||lW e)&&aj c x e&&Ff x)=true:=h;simp only[ae,c8]at h;obtain ⟨⟨h1,h2⟩,h3⟩:=h;rcases h1 with h1 |h1
 ·exact abm ih h1 h2
 ·obtain ⟨⟨t,ht⟩,_⟩:=cS.mp h1;rw[ht]at h2;exact (hn _ _ _ _ h2).elim
end
mutual
theorem aB{Φ:aa}{CX:CXT}{k:Nat}{B:Bs}:∀(x:Ex){c:CT}{E:EK}{X:Cx},Stat Φ CX k c E B X->OkE Φ c E B X x
 |.var i,c,E,X,S=>by intro h;exact aaV S h
 |.cst d,c,E,X,S=>by intro h;exact aaW S h
 |.glb x d,c,E,X,S=>by intro h;exact aaX S h
 |.bin op fz a b,c,E,X,S=>by intro h;exact aaY S (aB a S) (aB b S) h
 |.neg a,c,E,X,S=>by intro h;exact aaZ S (aB a S) h
 |.cmp op a b,c,E,X,S=>by intro h;exact (Gx S (aB a S) (aB b S) h).1
 |.chn op op' a b d,c,E,X,S=>by intro h;exact (Gy S (aB a S) (aB b S) (aB d S) h).1
 |.not a,c,E,X,S=>by intro h;exact aa0 S (aB a S) h
 |.boo isAnd e es,c,E,X,S=>by intro h;exact abk (aB e S) (fJ es S) h
 |.ife t a b,c,E,X,S=>by intro h;exact abl (iG t S) (aB a S) (aB b S) h
 |.tup es,c,E,X,S=>by intro h;exact aa1 S (EachE.oks (fJ es S)) h
 |.lst fz es,c,E,X,S=>by intro h;exact aa2 S (EachE.oks (fJ es S)) h
 |.idx a i,c,E,X,S=>by intro h;exact aa3 S (aB a S) (aB i S) h
 |.slc fz a lo hi,c,E,X,S=>by intro h;exact aa4 S (aB a S) (Ha lo S) (Ha hi S) h
 |.rvs fz a s,c,E,X,S=>by intro h;exact aa5 S (aB a S) (aB s S) h
 |.call f es,c,E,X,S=>by intro h;exact aa7 S (EachE.oks (fJ es S)) h
 |.bcl f es,c,E,X,S=>by intro h;exact aa8 S (EachE.oks (fJ es S)) h
 |.lcl fz f es,c,E,X,S=>by intro h;exact aa9 S (EachE.oks (fJ es S)) h
 |.isi a t,c,E,X,S=>by intro h;exact abe S (aB a S) h
 |.isx a C xs,c,E,X,S=>by intro h;exact abg S (aB a S) h
 |.fst es,c,E,X,S=>by intro h;exact abj S (fJ es S) h
 |.rgl fz a,c,E,X,S=>by intro h;exact aba S (aB a S) h
 |.rgt a,c,E,X,S=>by intro h;exact abb S (aB a S) h
 |.mth m o es,c,E,X,S=>by intro h;exact abi S (aB o S) (EachE.oks (fJ es S)) h
 |.comp fz elt tg it cond N cap,c,E,X,S=>by intro h;exact abH S (λS'=>aB elt S') (λS'=>iG cond S') (yC it S) h
 |.frz a,c,E,X,S=>by intro h;exact aa6 S (aB a S) h
theorem fJ{Φ:aa}{CX:CXT}{k:Nat}{B:Bs}:∀(x:Exs){c:CT}{E:EK}{X:Cx},Stat Φ CX k c E B X->EachE Φ c E B X x
 |.nil,_,_,_,_=>trivial
 |.cons e es,c,E,X,S=>⟨aB e S,fJ es S⟩
theorem iG{Φ:aa}{CX:CXT}{k:Nat}{B:Bs}:∀(x:Tx){c:CT}{E:EK}{X:Cx},Stat Φ CX k c E B X->OkT Φ c E B X x
 |.not t,c,E,X,S=>by intro h;exact abn (iG t S) h
 |.boo isAnd t ts,c,E,X,S=>by intro h;exact abo (iG t S) (GZ ts S) h
 |.yes,c,E,X,S=>by intro h;exact nomatch (show false=true from h)
 |.val (.cmp op a b),c,E,X,S=>by
  intro h;have h:((iC _||lW _)&&aj c (.cmp op a b) _&&true)=true:=h;simp only[ae]at h;exact (Gx S (aB a S) (aB b S) h.1.2).2
 |.val (.chn op op' a b d),c,E,X,S=>by
  intro h;have h:((iC _||lW _)&&aj c (.chn op op' a b d) _&&true)=true:=h;simp only[ae]at h;exact (Gy S (aB a S) (aB b S) (aB d S) h.1.2).2
 |.val (.frz a),c,E,X,S=>by
  intro h;have h:((iC _||lW _)&&aj c (.frz a) _&&false)=true:=h;rw[db]at h;cases h
 |.val (.var i),c,E,X,S=>by intro h;exact bG (aB (.var i) S) (λ_ _ _ _ h=>nomatch (show false=true from h)) h
 |.val (.cst d),c,E,X,S=>by intro h;exact bG (aB (.cst d) S) (λ_ _ _ _ h=>nomatch (show false=true from h)) h
 |.val (.glb x d),c,E,X,S=>by intro h;exact bG (aB (.glb x d) S) (λ_ _ _ _ h=>nomatch (show false=true from h)) h
 |.val (.bin op fz a b),c,E,X,S=>by intro h;exact bG (aB (.bin op fz a b) S) (λ_ _ _ _ h=>nomatch (show false=true from h)) h
 |.val (.neg a),c,E,X,S=>by intro h;exact bG (aB (.neg a) S) (λ_ _ _ _ h=>nomatch (show false=true from h)) h
 |.val (.not a),c,E,X,S=>by intro h;exact bG (aB (.not a) S) (λ_ _ _ _ h=>nomatch (show false=true from h)) h
 |.val (.boo isAnd e es),c,E,X,S=>by intro h;exact bG (aB (.boo isAnd e es) S) (λ_ _ _ _ h=>nomatch (show false=true from h)) h
 |.val (.ife t a b),c,E,X,S=>by intro h;exact bG (aB (.ife t a b) S) (λ_ _ _ _ h=>nomatch (show false=true from h)) h
 |.val (.tup es),c,E,X,S=>by intro h;exact bG (aB (.tup es) S) (λ_ _ _ _ h=>nomatch (show false=true from h)) h
 |.val (.lst fz es),c,E,X,S=>by intro h;exact bG (aB (.lst fz es) S) (λ_ _ _ _ h=>nomatch (show false=true from h)) h
 |.val (.idx a i),c,E,X,S=>by intro h;exact bG (aB (.idx a i) S) (λ_ _ _ _ h=>nomatch (show false=true from h)) h
 |.val (.slc fz a lo hi),c,E,X,S=>by intro h;exact bG (aB (.slc fz a lo hi) S) (λ_ _ _ _ h=>nomatch (show false=true from h)) h
 |.val (.rvs fz a s),c,E,X,S=>by intro h;exact bG (aB (.rvs fz a s) S) (λ_ _ _ _ h=>nomatch (show false=true from h)) h
 |.val (.call f es),c,E,X,S=>by intro h;exact bG (aB (.call f es) S) (λ_ _ _ _ h=>nomatch (show false=true from h)) h
 |.val (.bcl f es),c,E,X,S=>by intro h;exact bG (aB (.bcl f es) S) (λ_ _ _ _ h=>nomatch (show false=true from h)) h
 |.val (.lcl fz f es),c,E,X,S=>by intro h;exact bG (aB (.lcl fz f es) S) (λ_ _ _ _ h=>nomatch (show false=true from h)) h
 |.val (.isx a C xs),c,E,X,S=>by intro h;exact bG (aB (.isx a C xs) S) (λ_ _ _ _ h=>nomatch (show false=true from h)) h
 |.val (.rgl fz a),c,E,X,S=>by intro h;exact bG (aB (.rgl fz a) S) (λ_ _ _ _ h=>nomatch (show false=true from h)) h
 |.val (.rgt a),c,E,X,S=>by intro h;exact bG (aB (.rgt a) S) (λ_ _ _ _ h=>nomatch (show false=true from h)) h
 |.val (.fst es),c,E,X,S=>by intro h;exact bG (aB (.fst es) S) (λ_ _ _ _ h=>nomatch (show false=true from h)) h
 |.val (.isi a t),c,E,X,S=>by intro h;exact bG (aB (.isi a t) S) (λ_ _ _ _ h=>nomatch (show false=true from h)) h
 |.val (.mth m o es),c,E,X,S=>by intro h;exact bG (aB (.mth m o es) S) (λ_ _ _ _ h=>nomatch (show false=true from h)) h
 |.val (.comp fz elt tg it cond N cap),c,E,X,S=>by intro h;exact bG (aB (.comp fz elt tg it cond N cap) S) (λ_ _ _ _ h=>nomatch (show false=true from h)) h
theorem GZ{Φ:aa}{CX:CXT}{k:Nat}{B:Bs}:∀(x:Txs){c:CT}{E:EK}{X:Cx},Stat Φ CX k c E B X->uN Φ c E B X x
 |.nil,_,_,_,_=>trivial
 |.cons e es,c,E,X,S=>⟨iG e S,GZ es S⟩
theorem Ha{Φ:aa}{CX:CXT}{k:Nat}{B:Bs}:∀(x:Ox){c:CT}{E:EK}{X:Cx},Stat Φ CX k c E B X->∀y,x=.ob y->OkE Φ c E B X y
 |.no,c,E,X,S,y,e=>by cases e
 |.ob z,c,E,X,S,y,e=>by injection e with e;subst e;exact aB z S
theorem yC{Φ:aa}{CX:CXT}{k:Nat}{B:Bs}:∀(x:It'){c:CT}{E:EK}{X:Cx},Stat Φ CX k c E B X->∀{tg e:Expr},bO c x tg e=true->PI X tg e (tI X.K B (wpI Φ x E))
 |.seq y,c,E,X,S,tg,e,h=>aby (aB y S) (show aj c y e=true from h)
 |.rng a,c,E,X,S,tg,e,h=>abz S (aB a S) h
 |.rng2 a b,c,E,X,S,tg,e,h=>abD S (aB a S) (aB b S) h
 |.rev a,c,E,X,S,tg,e,h=>abB S (aB a S) h
 |.dwn a b d,c,E,X,S,tg,e,h=>abC S (aB a S) (aB b S) (aB d S) h
 |.enm a,c,E,X,S,tg,e,h=>abE S (aB a S) h
 |.zip a b,c,E,X,S,tg,e,h=>abF S (aB a S) (aB b S) h
end
def EnD(K:PySem.W.Frag)(H:Hp)(F:FZ)(D:Ends):En where
 nx:=λρ G'=>∀H' F' σ',Ext H F H' F'->EnvR K H' F' ρ σ'->R K H' F' G'->D.nx σ' H'
 rt:=PV K H F D.rt
 bk:=λρ G'=>∀H' F' σ',Ext H F H' F'->EnvR K H' F' ρ σ'->R K H' F' G'->D.bk σ' H'
 ct:=λρ G'=>∀H' F' σ',Ext H F H' F'->EnvR K H' F' ρ σ'->R K H' F' G'->D.ct σ' H'
theorem EnD.later{K:PySem.W.Frag}{H H1:Hp}{F F1:FZ}{D:Ends}(x:Ext H F H1 F1):(EnD K H F D).Le (EnD K H1 F1 D):=
 ⟨λ_ _ h H' F' σ' x1=>h H' F' σ' (x.trans x1),λ_ _ h=>PV.later h x,λ_ _ h H' F' σ' x1=>h H' F' σ' (x.trans x1),λ_ _ h H' F' σ' x1=>h H' F' σ' (x.trans x1)⟩
def tS(K:PySem.W.Frag)(B:Bs)(w:ak->DH->En->Prop):TS:=λD σ H=>∃ρ F G,Ext B.H B.F H F/\EnvR K H F ρ σ/\R K H F G/\w ρ G (EnD K H F D)
theorem psI{X:Cx}{st:Stmt}{t t':TS}(h:PS X st t)(i:∀D σ H,t' D σ H->t D σ H):PS X st t':=λpins s σ H D I q=>h pins s σ H D I (i D σ H q)
theorem Hb{X:Cx}{st:List Stmt}{t t':TS}(h:PSs X st t)(i:∀D σ H,t' D σ H->t D σ H):PSs X st t':=λpins s σ H D I q=>h pins s σ H D I (i D σ H q)
theorem yD{e:Expr}(h:dz e=false)(t:Option Expr)(n:Nat)(env:Env):swapsWith e t n env=pure false:=by cases e <;> first |rfl |exact nomatch (show true=false from h)
theorem Hc{e:Expr}(h:dz e=false)(t:Expr)(n:Nat)(env:Env):swapsWithSole [t] e n env=pure false:=yD h _ _ _
section
variable {Φ:aa} {CX:CXT} {k:Nat} {c:CT} {E:EK} {B:Bs} {X:Cx}
abbrev OkS(Φ:aa)(c:CT)(E:EK)(B:Bs)(X:Cx)(x:Sx):Prop:=∀{st:Stmt},aZ c x st=true->PS X st (tS X.K B (wpS Φ x E))
abbrev jR(Φ:aa)(c:CT)(E:EK)(B:Bs)(X:Cx)(x:Sxs):Prop:=∀{st:List Stmt},aC c x st=true->PSs X st (tS X.K B (aq Φ x E))
theorem abI(S:Stat Φ CX k c E B X){x:Ex}{st:Stmt}(h:aZ c (.exp x) st=true):PS X st (tS X.K B (wpS Φ (.exp x) E)):=by
 replace h:=aaD h;obtain ⟨_,_,rfl,h⟩:=h
 ·rw[ae]at h;refine psI (UW (aB x S h.2) (yD (by simpa using h.1) _ _ _)) λD σ H hq=>el hq λρ F G e0 he r hw=>?_;rw[sZ]at hw;exact aN e0 he r hw λd G1 H1 F1 v q e1 x1 he1 r1 rv=>q _ _ _ x1 he1 r1
theorem abJ(S:Stat Φ CX k c E B X){i:Nat}{x:Ex}{st:Stmt}(h:aZ c (.asg (.nm i) x) st=true):PS X st (tS X.K B (wpS Φ (.asg (.nm i) x) E)):=by
 replace h:=Gq h;obtain ⟨tg,e,pos,rfl,h⟩:=h
 ·simp only[ae]at h;obtain ⟨⟨h1,h2⟩,h3⟩:=h;have h3:(!dz e||Fg x)=true:=h3;replace h1:=ym h1;obtain ⟨y,py,rfl,h1⟩:=h1
  ·rw[ae,av]at h1;obtain ⟨l,f⟩:=S.sto y h1.2;have hi:X.N[i]?=some y:=by rw[S.N];exact h1.1
   have go:∀(D:Ends)(σ:L2.St)(H:Hp),tS X.K B (wpS Φ (.asg (.nm i) x) E) D σ H->qK (tE X.K B (wpE Φ x E)) (qJ i) D σ H:=λD σ H hq=>el hq λρ F G e0 he r hw=>by
    rw[jE]at hw;refine aN e0 he r hw λd G1 H1 F1 v q e1 x1 he1 r1 rv=>?_;unfold bh at q;exact q _ _ _ x1 (he1.set rv i) r1
   cases hc:dz e with
   |false=>exact psI (qL S.nd hi l (aB x S h2) (yD hc _ _ _) f) go
   |true=>
    rw[hc,ft,Bool.false_or]at h3;cases x with
    |comp fz elt tg it cond N cap=>
     obtain ⟨elt',tg',iter,ifs,scope,pos',rfl,C⟩:=GX h2;obtain ⟨s1,s2,s3,s4⟩:=GR S C.sc;have hb:∃b:Bool,swapsWith (.ListComp elt' [⟨tg',iter,ifs,0⟩] scope pos') (some (.Name y py)) pos.line X.env=pure b:=⟨_,rfl⟩;obtain ⟨b,hb⟩:=hb;cases b with
     |false=>exact psI (qL S.nd hi l (aB _ S h2) hb f) go
     |true=>
      refine psI (Xu S.nd hi l (N.map Str.ofString) cap S.calm (yC it S C.it) (uV S.N C.cap) s1 s2 s3 s4 (yz C.it X.env) hb f) λD σ H hq=>el hq λρ F G e0 he r hw=>?_;rw[jE]at hw;rw[xJ]at hw;refine GQ (fz:=fz) (Q:=λv H1=>D.nx (σ.set i (some v)) H1) S C.nd (λS'=>aB elt S') (λS'=>iG cond S') C.tg C.cd C.el e0 he r (lM it (λitems g G1 q=>?_) hw);refine uf (λd ρ' G' k1 k2 hk z=>gh (λρ1 z=>du cond (λb G2 z=>by
       cases b with
       |true=>exact aH elt (λy G3 z=>hk _ _ _ z) z
       |false=>exact hk _ _ _ z) z) tg z) ?_ _ _ _ _ q
      ·intro ds G2 q;refine dq (λd G3 q=>?_) q;intro H1 F1 v x1 r1 rv;unfold bh at q;exact q _ _ _ x1 ((he.ext x1).set rv i) r1
    |_=>cases h3
theorem abK(S:Stat Φ CX k c E B X){ts:Tgs}{x:Ex}{st:Stmt}(h:aZ c (.asg (.tp ts) x) st=true):PS X st (tS X.K B (wpS Φ (.asg (.tp ts) x) E)):=by
 replace h:=Gq h;obtain ⟨tg,e,pos,rfl,h⟩:=h
 ·rw[ae,ae]at h;have h34:(!Fi e&&!dz e)=true:=h.2;obtain ⟨h1,h2⟩:=h.1;rw[ae,ff,ff]at h34;obtain ⟨h3,h4⟩:=h34;have hg:=uQ S (.tp ts) h1;replace h1:=yo h1;obtain ⟨_,_,_,rfl,h1⟩:=h1
  ·refine psI (Ba (aB x S h2) hg (Hc h4 _ _ _) ?_ rfl) λD σ H hq=>el hq λρ F G e0 he r hw=>?_
   ·cases e <;> first |rfl |exact nomatch (show true=false from h3)
   ·rw[jE]at hw;refine aN e0 he r hw λd G1 H1 F1 v q e1 x1 he1 r1 rv=>?_;exact ⟨ρ,F1,G1,d,e1,he1,r1,rv,gh (λρ' z σ' hσ=>z H1 F1 σ' x1 hσ r1) (.tp ts) q⟩
theorem abL(S:Stat Φ CX k c E B X){o i x:Ex}{st:Stmt}(h:aZ c (.set o i x) st=true):PS X st (tS X.K B (wpS Φ (.set o i x) E)):=by
 replace h:=aaE h;obtain ⟨o',i',tpos,e,pos,rfl,h⟩:=h
 ·simp only[ae,ff]at h;obtain ⟨⟨⟨h1,h2⟩,h3⟩,h4⟩:=h;have hi:=bD i h2;refine psI (Ba (aB x S h3) (Vh (aB o S h1) (aB i S h2) Ei ?_) (Hc h4 _ _ _) ?_ rfl) λD σ H hq=>el hq λρ F G e0 he r hw=>?_
  ·intro v;cases i' <;> first |rfl |exact nomatch (show false=true from hi)
  ·cases e <;> rfl
  ·rw[tu]at hw;refine aN e0 he r hw λd G1 H1 F1 v q e1 x1 he1 r1 rv=>?_;refine aN e1 he1 r1 q λa G2 H2 F2 w q e2 x2 he2 r2 rw'=>?_;refine aN e2 he2 r2 q λy G3 H3 F3 u q e3 x3 he3 r3 ru=>?_;refine ⟨F3,G3,a,y,d,r3,rw'.ext x3,ru,rv.ext (x2.trans x3),ud (λG4 q=>?_) q⟩;intro H4 F4 x4 r4;exact q _ _ _ (x1.trans (x2.trans (x3.trans x4))) (he3.ext x4) r4
theorem abM(S:Stat Φ CX k c E B X){i:Nat}{op:Operator}{x:Ex}{st:Stmt}(h:aZ c (.aug i op x) st=true):PS X st (tS X.K B (wpS Φ (.aug i op x) E)):=by
 replace h:=aaF h;obtain ⟨y,py,o,e,pos,rfl,h⟩:=h
 ·simp only[ae,av]at h;obtain ⟨⟨⟨⟨rfl,h1⟩,h2⟩,h3⟩,h4⟩:=h;obtain ⟨l,f⟩:=S.sto y h2;refine psI (Vj S.nd (by rw[S.N];exact h1) l (aB x S h4) (Ej o) f) λD σ H hq=>el hq λρ F G e0 he r hw=>?_;rw[tB]at hw;split at hw
  ·rename_i a ha;obtain ⟨v,e1,rv⟩:=he.get ha;refine ⟨v,e1,aN e0 he r hw λb G1 H1 F1 u q e1 x1 he1 r1 ru=>?_⟩;refine ⟨F1,G1,a,b,r1,rv.ext x1,ru,ue (λd q=>?_) q⟩;intro H2 F2 w x2 r2 rw';exact q _ _ _ (x1.trans x2) ((he1.ext x2).set rw' i) r2
  ·exact hw.elim
theorem abN(S:Stat Φ CX k c E B X){o i:Ex}{op:Operator}{x:Ex}{st:Stmt}(h:aZ c (.augs o i op x) st=true):PS X st (tS X.K B (wpS Φ (.augs o i op x) E)):=by
 replace h:=aaG h;obtain ⟨o',i',tpos,p,e,pos,rfl,h⟩:=h
 ·simp only[ae,av]at h;obtain ⟨⟨⟨rfl,h1⟩,h2⟩,h3⟩:=h;have hi:=bD i h2;refine psI (Vl (aB o S h1) (aB i S h2) aag (aB x S h3) (Ej p) Ei ?_) λD σ H hq=>el hq λρ F G e0 he r hw=>?_
  ·intro a b d;cases i' <;> first |rfl |exact nomatch (show false=true from hi)
  ·rw[tD]at hw;refine aN e0 he r hw λa G1 H1 F1 v q e1 x1 he1 r1 rv=>?_;refine aN e1 he1 r1 q λy G2 H2 F2 u q e2 x2 he2 r2 ru=>?_;refine ⟨F2,G2,a,y,r2,rv.ext x2,ru,uc (λold q=>?_) q⟩;intro H3 F3 w x3 r3 rw';refine aN (e2.trans x3) (he2.ext x3) r3 q λb G4 H4 F4 z q e4 x4 he4 r4 rz=>?_;refine ⟨F4,G4,old,b,r4,rw'.ext x4,rz,ue (λcc q=>?_) q⟩;intro H5 F5 z' x5 r5 rz';refine ⟨F5,G4,a,y,cc,r5,rv.ext (x2.trans (x3.trans (x4.trans x5))),ru.ext (x3.trans (x4.trans x5)),rz',ud (λG6 q=>?_) q⟩;intro H6 F6 x6 r6;exact q _ _ _ (x1.trans (x2.trans (x3.trans (x4.trans (x5.trans x6))))) (he4.ext (x5.trans x6)) r6
theorem abO(S:Stat Φ CX k c E B X){x:Ex}{st:Stmt}(h:aZ c (.ret x) st=true):PS X st (tS X.K B (wpS Φ (.ret x) E)):=by
 replace h:=aaL h;obtain ⟨_,_,rfl,h⟩:=h
 ·refine psI (U0 (aB x S h)) λD σ H hq=>el hq λρ F G e0 he r hw=>?_;rw[tH]at hw;exact ⟨ρ,F,G,e0,he,r,hw⟩
theorem abP{st:Stmt}(h:aZ c .rtn st=true):PS X st (tS X.K B (wpS Φ .rtn E)):=by
 replace h:=aaM h;obtain ⟨_,rfl,h⟩:=h
 ·refine psI U4 λD σ H hq=>el hq λρ F G e0 he r hw=>?_;rw[tM]at hw;exact hw.now r rfl
theorem abQ(S:Stat Φ CX k c E B X){t:Tx}{a b:Sxs}(iha:jR Φ c E B X a)(ihb:jR Φ c E B X b){st:Stmt}(h:aZ c (.ite t a b) st=true):PS X st (tS X.K B (wpS Φ (.ite t a b) E)):=by
 replace h:=aaN h;obtain ⟨_,_,_,_,rfl,h⟩:=h
 ·simp only[ae]at h;obtain ⟨⟨h1,h2⟩,h3⟩:=h;refine psI (U6 (iG t S h1) (iha h2) (ihb h3)) λD σ H hq=>el hq λρ F G e0 he r hw=>?_;rw[tQ]at hw;refine jN e0 he r hw λb' G1 H1 F1 q e1 x1 he1 r1=>?_;cases b' with
  |true=>
   rw[if_pos rfl];exact ⟨ρ,F1,G1,e1,he1,r1,dM a (EnD.later x1) q⟩
  |false=>
   rw[if_neg br];exact ⟨ρ,F1,G1,e1,he1,r1,dM b (EnD.later x1) q⟩
theorem abR(S:Stat Φ CX k c E B X){t:Tg}{it:It'}{b:Sxs}(ihb:jR Φ c E B X b){st:Stmt}(h:aZ c (.for_ t it b) st=true):PS X st (tS X.K B (wpS Φ (.for_ t it b) E)):=by
 replace h:=aaO h;obtain ⟨tg,iter,body,pos,rfl,h⟩:=h
 ·simp only[ae]at h;obtain ⟨⟨h1,h2⟩,h3⟩:=h;refine psI (Vs S.own S.calm (yC it S h2) (uQ S t h1) (ihb h3) (yz h2 X.env)) λD σ H hq=>el hq λρ F G e0 he r hw=>?_;rw[Dt]at hw;refine ⟨ρ,F,G,e0,he,r,lM it (λitems g G1 q H1 F1 J x1 r1 W=>?_) hw⟩;let step:RF.D->ak->DH->(ak->DH->Prop)->Prop:=λd ρ' G' k=>bh t d ρ' G' λρ1=>aq Φ b E ρ1 G' { EnD X.K H F D with nx:=k,ct:=k,bk:=(EnD X.K H F D).nx }
  let P:Nat->L2.St->Hp->Prop:=λi σ' H'=>∃ρ' F' G',Ext B.H B.F H' F'/\Ext H1 F1 H' F'/\EnvR X.K H' F' ρ' σ'/\R X.K H' F' G'/\forLoop step g (items.drop i) ρ' G' (EnD X.K H F D).nx
  refine ⟨λi m σ' H'=>m=items.length - i/\i<=items.length/\P i σ' H',⟨items.length,by simp,fg _,ρ,F1,G1,e0.trans x1,Ext.refl _ _,he.ext x1,r1,q⟩,?_⟩;rintro i m σ' H' ⟨rfl,hle,ρ',F',G',eB,e1,he',r',hl⟩;by_cases hlt:i < items.length
  ·have hd:items.drop i=items[i]::items.drop (i+1):=cf hlt;rw[hd]at hl;obtain ⟨hh,hl⟩:=hl;refine .inr ⟨W.go H' F' G' i e1 r' hh hlt,P (i+1),λσ2 H2 p=>⟨items.length - (i+1),by omega,rfl,hlt,p⟩,λx H2 hy=>?_⟩;obtain ⟨xy,ry,rx⟩:=W.yld H' F' i x H2 items[i] G' e1 r' hh (by simp[hlt]) hy;refine ⟨ρ',F',G',items[i],eB.trans xy,he'.ext xy,ry,rx,gh (λρ1 z σ1 hσ1=>?_) t hl⟩;refine ⟨ρ1,F',G',eB.trans xy,hσ1,ry,dM b (D:={ EnD X.K H F D with nx:=λρ' G'=>forLoop step g (items.drop (i+1)) ρ' G' (EnD X.K H F D).nx,ct:=λρ' G'=>forLoop step g (items.drop (i+1)) ρ' G' (EnD X.K H F D).nx,bk:=(EnD X.K H F D).nx }) ⟨λρ2 G2 z H3 F3 σ3 x3 he3 r3=>?_,λd G2 z=>PV.later z (x1.trans (e1.trans xy)),λρ2 G2 z H3 F3 σ3 x3=>z H3 F3 σ3 (x1.trans (e1.trans (xy.trans x3))),λρ2 G2 z H3 F3 σ3 x3 he3 r3=>?_⟩ z⟩
   ·exact ⟨ρ2,F3,G2,eB.trans (xy.trans x3),e1.trans (xy.trans x3),he3,r3,z⟩
   ·exact ⟨ρ2,F3,G2,eB.trans (xy.trans x3),e1.trans (xy.trans x3),he3,r3,z⟩
  ·have hi':i=items.length:=by omega
   subst hi';rw[fm]at hl;exact .inl ⟨W.stop H' F' G' e1 r' hl.1,hl.2 _ _ _ (x1.trans e1) he' r'⟩
theorem abS(S:Stat Φ CX k c E B X){t:Tx}{b:Sxs}(ihb:jR Φ c E B X b){st:Stmt}(h:aZ c (.whl t b) st=true):PS X st (tS X.K B (wpS Φ (.whl t b) E)):=nomatch (show false=true from h)
def tJ(K:PySem.W.Frag)(B:Bs)(w:ak->DH->(DH->Prop)->Prop):TJ:=λσ H Q=>∃ρ F G,Ext B.H B.F H F/\EnvR K H F ρ σ/\R K H F G/\w ρ G λG'=>∀H' F',Ext H F H' F'->R K H' F' G'->Q H'
theorem pjI{X:Cx}{ps:List Expr}{t t':TJ}{n:Nat}(h:PJ X ps t n)(i:∀σ H Q,t' σ H Q->t σ H Q):PJ X ps t' n:=λpins s σ H Q out I hl q=>h pins s σ H Q out I hl (i σ H Q q)
theorem yE{E:EK}{ρ:ak}:∀(es:Exs){G:DH}{k k':DH->Prop},(∀G',k G'->k' G')->wpM Φ es E ρ G k->wpM Φ es E ρ G k'
 |.nil,G,k,k',h,q=>h G q
 |.cons e es,G,k,k',h,q=>by
  rw[tW]at q ⊢;exact aH e (λd G1 q=>⟨q.1,yE es h q.2⟩) q
theorem Hf{p:Expr}(h:yh p=true):∃y k pos,p=.Constant (.str y) k pos/\y.length<=1000:=by obtain ⟨t,ht,h⟩:=aJ h;obtain ⟨x,hx,h⟩:=aJ h;exact ⟨x,_,_,by rw[ht,hx],dc h⟩
theorem yF(S:Stat Φ CX k c E B X):∀(ps:List Expr){es:Exs},lY c es ps=true->∃n,n<=1000 * ps.length/\PJ X ps (tJ X.K B (wpM Φ es E)) n
 |[],es,h=>by
  cases es with
  |nil=>exact ⟨0,fg _,pjI X4 λσ H Q hq=>el hq λρ F G e0 he r hw=>hw H F (Ext.refl _ _) r⟩
  |cons _ _=>exact nomatch (show false=true from h)
 |p::ps,es,h=>by
  unfold lY at h;split at h
  ·rename_i hm;obtain ⟨y,kk,pos,rfl,hy⟩:=Hf hm;obtain ⟨n,hn,hp⟩:=yF S ps h;exact ⟨y.length+n,by rw[cr];omega,X5 hp⟩
  ·split at h
   ·rename_i x rr;rw[ae]at h;obtain ⟨t,ht,h1⟩:=aJ h.1;rw[ae,ae,eA,bg]at h1;obtain ⟨n,hn,hp⟩:=yF S ps h.2;refine ⟨3+n,by rw[cr];omega,?_⟩;rw[ht,h1.1.1,h1.1.2];refine pjI (X6 (aB x S h1.2) hp) λσ H Q hq=>el hq λρ F G e0 he r hw=>?_;rw[tW]at hw;refine aN e0 he r hw λd G1 H1 F1 v q e1 x1 he1 r1 rv=>?_;obtain ⟨q1,q2⟩:=q;unfold rD at q1;split at q1
    ·rename_i i;rw[ae,bg,bg]at q1;have e2:v=.int i:=rv;refine ⟨⟨i.toNat,by rw[e2];congr 1;omega,by omega⟩,ρ,F1,G1,e1,he1,r1,yE rr (λG' z H' F' x' r'=>z H' F' (x1.trans x') r') q2⟩
    ·cases q1
   ·cases h
theorem abT(S:Stat Φ CX k c E B X){C:String}{es:Exs}{st:Stmt}(h:aZ c (.rse C es) st=true):PS X st (tS X.K B (wpS Φ (.rse C es) E)):=by
 replace h:=aaH h;obtain ⟨x,np,m,cpos,pos,rfl,h⟩:=h;simp only[ae,av]at h;obtain ⟨⟨⟨e1,h1⟩,h2⟩,h3⟩:=h;subst e1;obtain ⟨g1,g2⟩:=bQ h1;obtain ⟨a,hm,hb,hn⟩:=S.xcl C h2;obtain ⟨EX,_,hth,hEX⟩:=S.exc;unfold uK at h3;rw[c8]at h3;rcases h3 with h3 |h3
 ·cases es with
  |cons _ _=>cases h3
  |nil=>
   obtain ⟨y,kk,p,rfl,hy⟩:=Hf h3;refine psI (De S.calm (S.glo _ g1) hm hb hth (di Av eG rfl) (bx g2) rfl rfl) λD σ H hq=>el hq λρ F G e0 he r hw=>?_;rw[lK,xr]at hw;exact ⟨show 1<=sizeLine by decide,hEX ⟨C,.non⟩ G H F hw e0 r (.ref a) none ⟨a,rfl,hn,trivial⟩⟩
 ·obtain ⟨t,ht,h3⟩:=aJ h3;rw[ae,ae,bg,bg]at h3;obtain ⟨n,hn',hp⟩:=yF S t.1 h3.2;rcases hps:t.1 with _ |⟨v1,_ |⟨v2,r⟩⟩
  ·rw[hps]at h3;simp at h3
  ·rw[hps]at h3;simp at h3
  ·rw[hps]at hp;subst ht;rw[hps]at *;refine psI (De S.calm (S.glo _ g1) hm hb hth (di (X7 hp (by omega)) eG rfl) (bx g2) rfl rfl) λD σ H hq=>el hq λρ F G e0 he r hw=>?_;rw[lK]at hw;refine ⟨ρ,F,G,e0,he,r,yE es (λG1 q H1 F1 x1 r1 y=>⟨show 1<=sizeLine by decide,?_⟩) hw⟩;exact hEX ⟨C,.non⟩ G1 H1 F1 q (e0.trans x1) r1 (.ref a) none ⟨a,rfl,hn,trivial⟩
theorem Stat.wish(S:Stat Φ CX k c E B X)(E':Value->Shared->Prop)(ho:PassesOwn (model X.prog X.w) X.A X.env E'):Stat Φ CX k c noE B (X.wish E'):=
 ⟨S.N,S.nd,S.calm,ho,S.kd,S.vis,S.cel,S.glo,S.sto,S.room,S.call,S.blt,S.con,⟨_,S.nox _,λ_ _ _ _ _ _ _ _ _ _ q=>q.elim,λx G' H' F' h=>h.elim⟩,S.nox,S.xcl,S.loc,S.xis,S.trc⟩
theorem abU(S:Stat Φ CX k c E B X){f:String}{es:Exs}{C:String}{i:Nat}{b:Bool}{st:Stmt}(h:aZ c (.tryc f es C i b) st=true):PS X st (tS X.K B (wpS Φ (.tryc f es C i b) E)):=nomatch (show false=true from h)
def PNx(K:PySem.W.Frag)(H:Hp)(F:FZ)(nx:L2.St->Hp->Prop):ak->DH->Prop:=λρ' G'=>∀H' F' σ',Ext H F H' F'->EnvR K H' F' ρ' σ'->R K H' F' G'->nx σ' H'
def PEx(K:PySem.W.Frag)(H:Hp)(F:FZ)(ex:Value->L2.St->Hp->Prop):Xn->ak->DH->Prop:=λx ρ' G'=>∀H' F' σ' cv od,Ext H F H' F'->EnvR K H' F' ρ' σ'->R K H' F' G'->XV K H' F' x cv od->ex cv σ' H'
def tXX(K:PySem.W.Frag)(B:Bs)(w:ak->DH->(ak->DH->Prop)->(Xn->ak->DH->Prop)->Prop):TX:=λnx ex σ H=>∃ρ F G,Ext B.H B.F H F/\EnvR K H F ρ σ/\R K H F G/\w ρ G (PNx K H F nx) (PEx K H F ex)
theorem pxI{X:Cx}{sts:List Stmt}{t t':TX}(h:PXs X sts t)(i:∀nx ex σ H,t' nx ex σ H->t nx ex σ H):PXs X sts t':=λpins s σ H nx ex E' I ho hE q=>h pins s σ H nx ex E' I ho hE (i nx ex σ H q)
theorem abV{B:Bs}{c:CT}{E:EK}{X:Cx}(S:Stat Φ (CX1 X.prog X.w) k c E B X){f g:String}{i:Nat}{es:Exs}{sts:List Stmt}(h:jM c (.pick f g i es) sts=true):PXs X sts (tXX X.K B (wpX Φ (.pick f g i es))):=nomatch (show false=true from h)
theorem Hg{B:Bs}{c:CT}{E:EK}{X:Cx}(S:Stat Φ (CX1 X.prog X.w) k c E B X):∀(b:Tb){sts:List Stmt},jM c b sts=true->PXs X sts (tXX X.K B (wpX Φ b))
 |.call f es,sts,h=>by
  obtain ⟨x,p,args,cpos,p0,rfl,h1⟩:=aaK h;simp only[ae,av,List.any_eq_true]at h1;obtain ⟨⟨⟨⟨e1,h1⟩,⟨f',n⟩,hm,e2,e3⟩,h4⟩,h5⟩:=h1;simp only at e2 e3;subst e1 e2 e3;obtain ⟨g1,g2⟩:=bQ h1;obtain ⟨fa,fd,ps,F0,hk,hb,hmg⟩:=S.call _ _ hm;cases args with
  |nil=>cases h4
  |cons e0 es0=>
   obtain ⟨x0,xs',rfl,c1,c2⟩:=jP h5;refine pxI (Yn (ta:=tL X.K B (aP Φ (.cons x0 xs') noE)) F0 S.room (S.glo _ g1) hmg hk hb (λE' ho=>EachE.oks (fJ (.cons x0 xs') (S.wish E' ho)) h5) rfl (bx g2) (bL e0 es0 X.env (cu (bD x0 c1))) (mj c2 X.env cpos)) λnx ex σ H hq=>el hq λρ F G eB he r hw=>?_;rw[tX]at hw;refine cO eB he r (yq _ h5 hw) λds G1 H1 F1 vs q e1 x1 he1 r1 rvs=>?_;exact ⟨by rw[<-rvs.length];exact q.1,F1,G1,ds,r1,rvs,Spec.mono q.2 (λd G2 z H2 F2 v x2 r2 _=>z H2 F2 σ (x1.trans x2) (he1.ext x2) r2) λxn G2 z H2 F2 x2 r2 cv od hv=>z H2 F2 σ cv od (x1.trans x2) (he1.ext x2) r2 hv⟩
 |.pick f g i es,sts,h=>abV S h
 |.asg _ _ _,_,h=>nomatch (show false=true from h)
 |.ite _ _ _,_,h=>nomatch (show false=true from h)
theorem abW(S:Stat Φ CX k c E B X){b:Tb}{C:String}{hd:Hd}{xs:List String}{st:Stmt}(h:aZ c (.tryx b C hd xs) st=true):PS X st (tS X.K B (wpS Φ (.tryx b C hd xs) E)):=by
 obtain ⟨body,cx,p1,nm,y,p2,e,p4,p5,pos,rfl,h1,h2,h3,h4,h5⟩:=aaJ h;simp only[ae,av]at h4;obtain ⟨⟨ec,hc⟩,hcx⟩:=h4;subst ec;obtain ⟨g3,g4⟩:=bQ hc;have hne:c.xs≠[]:=λe=>by rw[e]at hcx;cases hcx
 obtain ⟨ecx,hst,hex⟩:=S.trc hne;subst ecx;obtain ⟨cv,hcv,hall⟩:=S.xis C hcx;have hcat:∃a,cv=.ref a/\X.mg (Str.ofString C)=some (.ref a)/\Cat X.K a:=by
  rcases hcv with ⟨a,e,hm,hb⟩ |⟨e,_,_⟩
  ·exact ⟨a,e,hm,Dh hb⟩
  ·rw[e]at h3;cases h3
 obtain ⟨a,rfl,ham,hca⟩:=hcat;unfold uL at h5;rw[ae,ae]at h5;obtain ⟨⟨h5,hsy⟩,hoy⟩:=h5;obtain ⟨hloc,hfn⟩:=S.sto _ hsy;have cls:∀{x:Xn}{H':Hp}{F':FZ}{cv:Value}{od:Option Addr},xs.contains x.cls=true->bC x.cls C=true->XV X.K H' F' x cv od->∃d,cv=.ref d/\PySem.W.mroIn X.K d (.ref a)=some true/\PySem.W.nsIn X.K mainGlobals (Str.ofString x.cls)=some (some (.ref d)):=by
  intro x H' F' cv od hx hs hv;obtain ⟨d,rfl,hn,_⟩:=hv;obtain ⟨c1,k1,_,k4,_⟩:=hall x.cls (bp.mp h2 _ (aE.mp hx));rw[k1]at hn;have ed:c1=d:=by simpa using hn
  subst ed;rw[hs]at k4;exact ⟨c1,rfl,k4,k1⟩
 cases hd with
 |flag i v=>
  simp only[ae,av,eA]at h5;obtain ⟨⟨rfl,hi⟩,h6⟩:=h5;obtain ⟨kk,hk,h6⟩:=aJ h6;have ek:=aaI h6;subst hk;rw[ek];refine psI (Yq (Hg S b h1) hst (S.glo _ g3) ham hca S.nd (by rw[S.N];exact hi) hloc hfn rfl (bx g4)) λD σ H hq=>el hq λρ F G eB he r hw=>?_;rw[lL]at hw;refine ⟨ρ,F,G,eB,he,r,lN b (λρ' G' z H' F' σ' x' he' r'=>z H' F' σ' x' he' r') (λx ρ' G' z H' F' σ' cv od x' he' r' hv=>?_) hw⟩;obtain ⟨z1,z2,z3,z4⟩:=z;obtain ⟨d,e1,e2,_⟩:=cls z2 z3 hv;exact ⟨d,e1,e2,z4 H' F' _ x' (EnvR.set (d:=.bl v) (v:=.bl v) (show V.bl v=.bl v from rfl) i he') r'⟩
 |bind n i=>
  obtain ⟨nn,hnn,h6⟩:=aM h5;simp only[ae,av]at h6;obtain ⟨⟨⟨⟨hi,hj⟩,hkd⟩,hon⟩,h7⟩:=h6;obtain ⟨zz,hz,h8⟩:=aJ h7;rw[av]at h8;rw[h8]at hz;subst hz hnn;have hnl:X.env.scope.names.lookup nn=some .local:=S.loc nn hkd;refine psI (Ys (jn:=n) (Hg S b h1) hst hex (S.glo _ g3) ham hca S.nd (by rw[S.N];exact hi) hloc hfn (by rw[S.N];exact hj) (by rw[S.kd];exact hnl) hnl (bx hon) (Gw hon) rfl (bx g4)) λD σ H hq=>el hq λρ F G eB he r hw=>?_;rw[lL]at hw;refine ⟨ρ,F,G,eB,he,r,lN b (λρ' G' z H' F' σ' x' he' r'=>z H' F' σ' x' he' r') (λx ρ' G' z H' F' σ' cv od x' he' r' hv=>?_) hw⟩;obtain ⟨z1,z2,z3,z4⟩:=z;obtain ⟨d,e1,e2,e3⟩:=cls z2 z3 hv;refine ⟨d,e1,e2,λa0 o0 hn0 hc0=>?_⟩;have xx:Ext H' F' (upd H' a0 (.frz o0 (.own a0))) F':=dj r' hn0;have rr:R X.K (upd H' a0 (.frz o0 (.own a0))) F' G':=r'.new hn0;have rx:Rep X.K (upd H' a0 (.frz o0 (.own a0))) F' (.exn x.cls) (.ref a0):=⟨a0,d,rfl,⟨o0,a0,dh,hc0⟩,e3⟩;exact z4 _ F' _ (x'.trans xx) (EnvR.unset n (EnvR.set rx i (EnvR.set rx n (he'.ext xx)))) rr
theorem abX{st:List Stmt}(h:aC c .nil st=true):PSs X st (tS X.K B (aq Φ .nil E)):=by
 unfold aC at h;cases st with
 |nil=>exact Hb Ux λD σ H hq=>el hq λρ F G e0 he r hw=>by rw[jC]at hw;exact hw _ _ _ (Ext.refl _ _) he r
 |cons _ _=>cases h
theorem abY{x:Sx}{xs:Sxs}(ih:OkS Φ c E B X x)(ihs:jR Φ c E B X xs){st:List Stmt}(h:aC c (.cons x xs) st=true):PSs X st (tS X.K B (aq Φ (.cons x xs) E)):=by
 unfold aC at h;split at h
 ·rw[ae]at h;refine Hb (Uy (ih h.1) (ihs h.2)) λD σ H hq=>el hq λρ F G e0 he r hw=>?_;rw[jD]at hw;refine ⟨ρ,F,G,e0,he,r,wpS_mono x (D:={ EnD X.K H F D with nx:=λρ' G'=>aq Φ xs E ρ' G' (EnD X.K H F D) }) ⟨λρ1 G1 q H1 F1 σ1 x1 he1 r1=>?_,λ_ _ z=>z,λ_ _ z=>z,λ_ _ z=>z⟩ hw⟩;exact ⟨ρ1,F1,G1,e0.trans x1,he1,r1,dM xs (EnD.later x1) q⟩
 ·cases h
end
mutual
theorem abZ{Φ:aa}{CX:CXT}{k:Nat}{B:Bs}{c:CT}{E:EK}{X:Cx}(S:Stat Φ CX k c E B X):∀(x:Sx),OkS Φ c E B X x
 |.exp e=>by intro h;exact abI S h
 |.asg (.nm i) e=>by intro h;exact abJ S h
 |.asg (.tp ts) e=>by intro h;exact abK S h
 |.set o i e=>by intro h;exact abL S h
 |.aug i op e=>by intro h;exact abM S h
 |.augs o i op e=>by intro h;exact abN S h
 |.ret e=>by intro h;exact abO S h
 |.rtn=>by intro h;exact abP h
 |.ite t a b=>by intro h;exact abQ S (iH S a) (iH S b) h
 |.for_ t it b=>by intro h;exact abR S (iH S b) h
 |.whl t b=>by intro h;exact abS S (iH S b) h
 |.pas=>by
  intro h;obtain ⟨_,rfl,_⟩:=aaP h;exact psI UJ λD σ H hq=>el hq λρ F G e0 he r hw=>by rw[tR]at hw;exact hw _ _ _ (Ext.refl _ _) he r
 |.brk=>by
  intro h;obtain ⟨_,rfl,_⟩:=aaQ h;exact psI UL λD σ H hq=>el hq λρ F G e0 he r hw=>by rw[tU]at hw;exact hw _ _ _ (Ext.refl _ _) he r
 |.cnt=>by
  intro h;obtain ⟨_,rfl,_⟩:=aaR h;exact psI UT λD σ H hq=>el hq λρ F G e0 he r hw=>by rw[tV]at hw;exact hw _ _ _ (Ext.refl _ _) he r
 |.rse C es=>by intro h;exact abT S h
 |.tryc f es C i b=>by intro h;exact abU S h
 |.tryx b C h xs=>by intro hh;exact abW S hh
 |.nev=>by
  intro h;exact psI U8 λD σ H hq=>el hq λρ F G e0 he r hw=>by rw[tY]at hw;exact hw.elim
theorem iH{Φ:aa}{CX:CXT}{k:Nat}{B:Bs}{c:CT}{E:EK}{X:Cx}(S:Stat Φ CX k c E B X):∀(x:Sxs),jR Φ c E B X x
 |.nil=>by intro h;exact abX h
 |.cons s r=>by intro h;exact abY (abZ S s) (iH S r) h
end
end RF
namespace L2
open PySem PySem.Spec PyProof.Rows
theorem Fun.okX{P:Program}{w:World}{K:PySem.W.Frag}{mg:Str->Option Value}{base:Heap}{CX:CXT}{x qual:Str}{st:Stmt}{f:Addr}{fd:FuncData}{N ps:List Str}{k:Nat}{sp:Sp}(F:Fun K x qual st f fd)(S:FnScope N ps (ao st))(len:∀vs H Q E,sp vs H Q E->vs.length=ps.length)
  (hbody:∀(cdv:Value)(A:Around)(outer:List Env)(s:Shared)(H:Hp)(vs:List V)(Q:VK)(E:XK),Room k (A.deeper (envOfC qual (ao st) s.heap.objs.size f cdv))->sp vs H Q E->
   ∃t,PSs (cV CX P w K mg base N qual (ao st) f cdv A outer s H E) (aF st) t/\t { nx:=λ_ H'=>Q .non H',rt:=Q } (start N vs) H):FnOk P w K mg base CX (k+1) f fd ps sp:=by
 obtain ⟨oc,od,kV,doc,pm,an,cdv,ct,osl,rfl,lk,hcd⟩:=F.ex;exact We lk hcd S len λA outer s H vs Q E hr hsp=>hbody cdv A outer s H vs Q E hr hsp
theorem FnOk.cx{P:Program}{w:World}{K:PySem.W.Frag}{mg:Str->Option Value}{base:Heap}{k:Nat}{CX:CXT}{f:Addr}{fd:FuncData}{ps:List Str}{sp:Sp}(F:FnOk P w K mg base CX0 k f fd ps sp):FnOk P w K mg base CX k f fd ps sp:=
 ⟨F.len,λA outer s H args us vs Q E hr he hb hv hs=>codeAny_mono (F.run A outer s H args us vs Q E hr he hb hv hs) λr s' hq=>by
  cases r with
  |error e=>exact False.elim hq
  |ok fl=>cases fl <;> exact hq⟩
end L2
namespace RF
open PySem PySem.Spec PyProof.Rows L2
noncomputable def fnB(N ps:List Str)(sc:Scope):Bool:=
 decide (sc.kind=.function)&&!sc.isCoroutine&&!sc.isGenerator&&fH N&&(N.take ps.length==ps)&&ps.all (λx=>sc.names.lookup x==some .local||sc.names.lookup x==some .cell)&&sc.names.all (λy=>y.2 != .free)
theorem yG{N ps:List Str}{sc:Scope}(h:fnB N ps sc=true):FnScope N ps sc:=by unfold fnB at h;simp only[ae,ff,bg,av,bp,c8,bne_iff_ne]at h;obtain ⟨⟨⟨⟨⟨⟨h1,h2⟩,h3⟩,h4⟩,h5⟩,h6⟩,h7⟩:=h;exact ⟨h1,h2,h3,yx h4,h5,h6,λy hy=>h7 y hy⟩
structure Bse(Φ:aa)(P:Program)(w:World)(K:PySem.W.Frag)(mg:Str->Option Value)(base:Heap)(CX:CXT)(k:Nat)(fs:List (String×Nat))(bt:List String)(cn:List (String×D))(xs:List (String×Bool)):Prop where
 call:∀f n,(f,n)∈fs->∃fa fd ps,FnOk P w K mg base CX k fa fd ps (lift K n (Φ f))/\PySem.W.keepIn K (.ref fa)=true/\Binds K fd ps []/\mg (Str.ofString f)=some (.ref fa)
 blt:∀f,f∈bt->mg (Str.ofString f)=none
 con:∀x d,(x,d)∈cn->∃u v,mg (Str.ofString x)=some u/\RelV v u/\∀H F,Rep K H F d v
 xcl:∀C,xs.contains (C,true)=true->∃a,mg (Str.ofString C)=some (.ref a)/\ig K a=true/\PySem.W.nsIn K mainGlobals (Str.ofString C)=some (some (.ref a))
 xis:∀C',xs.contains (C',false)=true->∃cv,CV K mg C' cv/\∀C,xs.contains (C,true)=true->XI K C C' cv
def aG(N:List Str)(sc:Scope)(fs:List (String×Nat))(bt:List String)(cn:List (String×D))(xs:List (String×Bool)):CT:={ N:=N,kd:=sc.names,fn:=true,fs:=fs,bt:=bt,cn:=cn,xs:=xs }
section
variable {Φ:aa} {P:Program} {w:World} {K:PySem.W.Frag} {mg:Str->Option Value} {base:Heap} {k:Nat} {fs:List (String×Nat)} {bt:List String} {cn:List (String×D)} {xs:List (String×Bool)}
theorem Hh{N ps:List Str}{sc:Scope}{qual:Str}{f:Addr}{cdv:Value}{A:Around}{outer:List Env}{s:Shared}{H:Hp}{EX:XK}{B:Bs}(T:Bse Φ P w K mg base (CX1 P w) k fs bt cn xs)(hs:fnB N ps sc=true)
  (hr:Room k (A.deeper (envOfC qual sc s.heap.objs.size f cdv))):Stat Φ (CX1 P w) k (aG N sc fs bt cn xs) noE B (cV (CX1 P w) P w K mg base N qual sc f cdv A outer s H EX).nox where
 N:=rfl
 nd:=(yG hs).nd
 calm:=rfl
 own:=PassesOwn.never
 kd:=rfl
 vis:=λx h=>by
  have h:iB (sc.names.lookup x)=true:=h;show sc.names.lookup x=_\/sc.names.lookup x=_\/sc.names.lookup x=_;unfold iB at h;split at h <;> first | (cases h;done) |simp_all
 cel:=λx h=>h
 glo:=λx h=>h
 sto:=λx h=>by
  have h:(sc.names.lookup x==some .local||(true&&sc.names.lookup x==some .cell))=true:=h;rw[d5,c8,av,av]at h;exact ⟨h,.inl rfl⟩
 room:=hr
 call:=T.call
 blt:=T.blt
 con:=T.con
 exc:=⟨_,CN _,λ_ _ _ _ _ _ _ _ _ _ q=>q.elim,λ_ _ _ _ h=>h.elim⟩
 nox:=λY=>CN Y
 xcl:=T.xcl
 loc:=λx h=>h
 xis:=T.xis
 trc:=λ_=>⟨rfl,rfl,rfl⟩
theorem ab0{N ps:List Str}{sc:Scope}{qual:Str}{f:Addr}{cdv:Value}{A:Around}{outer:List Env}{s:Shared}{H:Hp}{EX:XK}{B:Bs}{E:EK}(T:Bse Φ P w K mg base (CX1 P w) k fs bt cn xs)(hs:fnB N ps sc=true)
  (hr:Room k (A.deeper (envOfC qual sc s.heap.objs.size f cdv))) (hE:∀x G' H' F',E x G'->Ext B.H B.F H' F'->R K H' F' G'->XR K H' F' x EX):Stat Φ (CX1 P w) k (aG N sc fs bt cn xs) E B (cV (CX1 P w) P w K mg base N qual sc f cdv A outer s H EX):=
 have S:=Hh (EX:=EX) (B:=B) (qual:=qual) (f:=f) (cdv:=cdv) (A:=A) (outer:=outer) (s:=s) (H:=H) T hs hr
 ⟨S.N,S.nd,S.calm,PassesOwn.leaving,S.kd,S.vis,S.cel,S.glo,S.sto,S.room,S.call,S.blt,S.con,⟨EX,XN rfl rfl λ_ _ h=>h,X8 rfl rfl λ_ _ h=>h,hE⟩,S.nox,S.xcl,S.loc,S.xis,λ_=>⟨rfl,rfl,rfl⟩⟩
theorem ab1{outer:List Env}{H:Hp}{s s':Shared}{e:Value}(h:CX1 P w outer H s (λ_ _ _=>False) e s'):False:=by obtain ⟨_,_,_,_,_,_,_,_,_,q⟩:=h;exact q
def ends(Q:D->DH->Prop):En:={ nx:=λ_ G=>Q .non G,rt:=Q,bk:=λ_ _=>False,ct:=λ_ _=>False }
def env0(ds:List D)(n:Nat):ak:=ds.map some++List.replicate n none
theorem ab2{x qual:Str}{st:Stmt}{f:Addr}{fd:FuncData}(Fu:Fun K x qual st f fd)(T:Bse Φ P w K mg base (CX1 P w) k fs bt cn xs){N ps:List Str}{body:Sxs}(S:RF.Spec)(n m:Nat)(hs:fnB N ps (ao st)=true)
  (hc:aC (aG N (ao st) fs bt cn xs) body (aF st)=true) (hn:ps.length=n) (hm:N.length=n+m)
  (hw:∀ds G a,ds.length=n->S.pre ds G a->aq Φ body (S.exc a) (env0 ds m) G (ends (S.post a))):FnOk P w K mg base (CX1 P w) (k+1) f fd ps (lift K n S):=by
 refine Fu.okX (yG hs) (λvs H Q E h=>by rw[hn];exact h.1) λcdv A outer s H vs Q EX hr hsp=>?_;obtain ⟨hl,F,G,ds,r,rs,a,h1,h2,h3⟩:=hsp;have St:Stat Φ (CX1 P w) k (aG N (ao st) fs bt cn xs) (S.exc a) ⟨H,F⟩ (cV (CX1 P w) P w K mg base N qual (ao st) f cdv A outer s H EX):=ab0 T hs hr λx G' H' F' hx e r'=>h3 x G' hx H' F' e r';refine ⟨_,iH St body hc,?_⟩;refine ⟨env0 ds m,F,G,Ext.refl _ _,?_,r,dM body (D:=ends (S.post a)) ⟨λρ G' q=>?_,λd G' q=>h2 d G' q,λ_ _ q=>False.elim q,λ_ _ q=>False.elim q⟩ (hw ds G a (by rw[rs.length];exact hl) h1)⟩
 ·unfold L2.start;rw[show N.length - vs.length=m by omega];exact EnvR.start m rs
 ·intro H' F' σ' x1 _ r1;exact h2 .non G' q H' F' .non x1 r1 rfl
theorem uW{x qual:Str}{st:Stmt}{f:Addr}{fd:FuncData}(Fu:Fun K x qual st f fd)(T:Bse Φ P w K mg base (CX1 P w) k fs bt cn xs){N ps:List Str}{body:Sxs}(S:RF.Spec)(n m:Nat)(hs:fnB N ps (ao st)=true)
  (hc:aC (aG N (ao st) fs bt cn xs) body (aF st)=true) (hn:ps.length=n) (hm:N.length=n+m)
  (hw:∀ds G a,ds.length=n->S.pre ds G a->aq Φ body noE (env0 ds m) G (ends (S.post a))):FnOk P w K mg base (CX1 P w) (k+1) f fd ps (lift K n S):=by
 refine Fu.okX (yG hs) (λvs H Q E h=>by rw[hn];exact h.1) λcdv A outer s H vs Q EX hr hsp=>?_;obtain ⟨hl,F,G,ds,r,rs,a,h1,h2,h3⟩:=hsp;have St:Stat Φ (CX1 P w) k (aG N (ao st) fs bt cn xs) noE ⟨H,F⟩ (cV (CX1 P w) P w K mg base N qual (ao st) f cdv A outer s H EX).nox:=Hh T hs hr;refine ⟨_,(iH St body hc).nox,?_⟩;refine ⟨env0 ds m,F,G,Ext.refl _ _,?_,r,dM body (D:=ends (S.post a)) ⟨λρ G' q=>?_,λd G' q=>h2 d G' q,λ_ _ q=>False.elim q,λ_ _ q=>False.elim q⟩ (hw ds G a (by rw[rs.length];exact hl) h1)⟩
 ·unfold L2.start;rw[show N.length - vs.length=m by omega];exact EnvR.start m rs
 ·intro H' F' σ' x1 _ r1;exact h2 .non G' q H' F' .non x1 r1 rfl
end
def bB(pre:List D->DH->Prop)(post:List D->DH->D->DH->Prop):RF.Spec where
 A:=List D×DH
 pre:=λds G a=>a=(ds,G)/\pre ds G
 post:=λa d G'=>post a.1 a.2 d G'
 exc:=λ_ _ _=>False
theorem bR{pre:List D->DH->Prop}{post:List D->DH->D->DH->Prop}{ds:List D}{G:DH}{k:D->DH->Prop}{E:EK}(h:pre ds G)(hk:∀d G',post ds G d G'->k d G'):(bB pre post).t ds G k E:=
 ⟨(ds,G),⟨rfl,h⟩,hk,λ_ _ z=>z.elim⟩
theorem bW{Φ:aa}{body:Sxs}{m n:Nat}{pre:List D->DH->Prop}{post:List D->DH->D->DH->Prop}(h:∀ds G,pre ds G->aq Φ body noE (env0 ds m) G (ends (post ds G))):
  ∀ds G a,ds.length=n->(bB pre post).pre ds G a->aq Φ body noE (env0 ds m) G (ends ((bB pre post).post a)):=by
 rintro ds G a _ ⟨rfl,h1⟩;exact h ds G h1
def aD(f:List D->Option D):RF.Spec:=bB (λds _=>(f ds).isSome=true) (λds G d G'=>G'=G/\f ds=some d)
theorem bj{f:List D->Option D}{ds:List D}{d:D}{G:DH}{k:D->DH->Prop}{E:EK}(h:f ds=some d)(hk:k d G):(aD f).t ds G k E:=
 bR (by rw[h];rfl) λd' G' ⟨e1,e2⟩=>by rw[h]at e2;cases e2;rw[e1];exact hk
theorem cP{Φ:aa}{body:Sxs}{m n:Nat}{f:List D->Option D}(h:∀ds G d,f ds=some d->aq Φ body noE (env0 ds m) G (ends λd' G'=>G'=G/\d'=d)):
  ∀ds G a,ds.length=n->(aD f).pre ds G a->aq Φ body noE (env0 ds m) G (ends ((aD f).post a)):=by
 refine bW λds G hf=>?_;obtain ⟨d,e⟩:=cS.mp hf;refine dM body (D:=ends λd' G'=>G'=G/\d'=d) ⟨λρ G' q=>?_,λd' G' q=>?_,λ_ _ q=>q,λ_ _ q=>q⟩ (h ds G d e)
 ·exact ⟨q.1,by rw[e];exact e7 some q.2.symm⟩
 ·exact ⟨q.1,by rw[e];exact e7 some q.2.symm⟩
theorem ab3{step:D->ak->DH->(ak->DH->Prop)->Prop}{g:Hld}{items:List D}{ρ:ak}{G:DH}{k:ak->DH->Prop}(P:Nat->ak->DH->Prop)(h0:P 0 ρ G)(hh:∀i ρ G,P i ρ G->held g G)
  (hs:∀i d ρ G,items[i]?=some d->P i ρ G->∀kk:ak->DH->Prop,(∀ρ' G',P (i+1) ρ' G'->kk ρ' G')->step d ρ G kk) (he:∀ρ G,P items.length ρ G->k ρ G):forLoop step g items ρ G k:=by
 have go:∀(l:List D)(i:Nat)(ρ:ak)(G:DH),items.drop i=l->i<=items.length->P i ρ G->forLoop step g l ρ G k:=by
  intro l;induction l with
  |nil=>
   intro i ρ G e hi p;have:i=items.length:=by have:=e7 List.length e;rw[bX]at this;simp at this;omega
   subst this;exact ⟨hh _ _ _ p,he _ _ p⟩
  |cons d l ih=>
   intro i ρ G e hi p;have hl:i < items.length:=by
    by_cases h:i < items.length
    ·exact h
    ·rw[List.drop_eq_nil_of_le (by omega)]at e;cases e
   rw[cf hl]at e;injection e with e1 e2;refine ⟨hh _ _ _ p,hs i d ρ G (by rw[aS hl,e1]) p _ λρ' G' p'=>ih (i+1) ρ' G' e2 hl p'⟩
 exact go _ 0 ρ G (by simp) (fg _) h0
theorem Hi{step:D->ak->DH->(Option D->ak->DH->Prop)->Prop}{g:Hld}{items acc:List D}{ρ:ak}{G:DH}{k:List D->DH->Prop}(P:Nat->List D->ak->DH->Prop)(h0:P 0 acc ρ G)(hh:∀i acc ρ G,P i acc ρ G->held g G)
  (hl:acc.length+items.length<=sz)
  (hs:∀i d acc ρ G,items[i]?=some d->P i acc ρ G->∀kk:Option D->ak->DH->Prop,(∀o ρ' G',P (i+1) (acc++o.toList) ρ' G'->kk o ρ' G')->step d ρ G kk) (he:∀acc ρ G,P items.length acc ρ G->k acc G):compLoop step g items acc ρ G k:=by
 have go:∀(l:List D)(i:Nat)(acc:List D)(ρ:ak)(G:DH),items.drop i=l->i<=items.length->acc.length+l.length<=sz->P i acc ρ G->compLoop step g l acc ρ G k:=by
  intro l;induction l with
  |nil=>
   intro i acc ρ G e hi ha p;have:i=items.length:=by have:=e7 List.length e;rw[bX]at this;simp at this;omega
   subst this;exact ⟨hh _ _ _ _ p,by simpa using ha,he _ _ _ p⟩
  |cons d l ih=>
   intro i acc ρ G e hi ha p;have hl:i < items.length:=by
    by_cases h:i < items.length
    ·exact h
    ·rw[List.drop_eq_nil_of_le (by omega)]at e;cases e
   rw[cf hl]at e;injection e with e1 e2;have ha':acc.length+(l.length+1)<=sz:=ha;refine ⟨hh _ _ _ _ p,by omega,hs i d acc ρ G (by rw[aS hl,e1]) p _ λo ρ' G' p'=>?_⟩;cases o with
   |some y=>exact ih (i+1) (acc++[y]) ρ' G' e2 hl (by rw[aI];simp;omega) p'
   |none=>exact ih (i+1) acc ρ' G' e2 hl (by omega) (by simpa using p')
 exact go _ 0 acc ρ G (by simp) (fg _) hl h0
theorem ab4{step:D->ak->DH->(Option D->ak->DH->Prop)->Prop}{items:List D}{ρ:ak}{G:DH}{k:List D->DH->Prop}(g:Hld)(f:D->Option D)(I:ak->Prop)(h0:I ρ)(hg:held g G)(hl:items.length<=sz)
  (hs:∀d ρ,d∈items->I ρ->∀kk:Option D->ak->DH->Prop,(∀ρ',I ρ'->kk (f d) ρ' G)->step d ρ G kk) (he:k (items.filterMap f) G):compLoop step g items [] ρ G k:=by
 refine Hi (λi acc ρ' G'=>I ρ'/\G'=G/\acc=(items.take i).filterMap f) ⟨h0,rfl,rfl⟩ (λi acc ρ' G' p=>by rw[p.2.1];exact hg) (by simpa using hl) ?_ ?_
 ·rintro i d acc ρ' G' hd ⟨p1,rfl,rfl⟩ kk hk;refine hs d ρ' (cK hd) p1 kk λρ2 i2=>hk _ _ _ ⟨i2,rfl,?_⟩;rw[d6,hd,List.filterMap_append];congr 1
 ·rintro acc ρ' G' ⟨_,rfl,rfl⟩;rw[ez];exact he
theorem ab5{step:D->ak->DH->(Option D->ak->DH->Prop)->Prop}{items:List D}{ρ:ak}{G:DH}{k:List D->DH->Prop}(g:Hld)(f:D->D)(I:ak->Prop)(h0:I ρ)(hg:held g G)(hl:items.length<=sz)
  (hs:∀d ρ,d∈items->I ρ->∀kk:Option D->ak->DH->Prop,(∀ρ',I ρ'->kk (some (f d)) ρ' G)->step d ρ G kk) (he:k (items.map f) G):compLoop step g items [] ρ G k:=
 ab4 g (λd=>some (f d)) I h0 hg hl hs (by rw[<-List.filterMap_eq_map]at he;exact he)
theorem iI{α:Type}(f:α->Bool):∀l:List α,bools (l.map λx=>D.bl (f x))=some (l.map f)
 |[]=>rfl
 |x::l=>by simp[bools,iI f l]
theorem strs_map{α:Type}(f:α->List Nat):∀l:List α,bz (l.map λx=>D.str (f x))=some (l.map f)
 |[]=>rfl
 |x::l=>by simp[bz,strs_map f l]
theorem Hj:∀l:List (List Nat),eU [] l=l.flatten
 |[]=>rfl
 |[x]=>by simp[eU]
 |x::y::r=>by simp[eU,Hj (y::r)]
def Sa(G G':DH):Prop:=∀b o,G b=some o->G' b=some o
def Sb(p:Addr)(G G':DH):Prop:=∀b o,G b=some o->b≠p->G' b=some o
theorem Sa.refl(G:DH):Sa G G:=λ_ _ h=>h
theorem Sb.refl(p:Addr)(G:DH):Sb p G G:=λ_ _ h _=>h
theorem Sa.trans{G G1 G2:DH}(a:Sa G G1)(b:Sa G1 G2):Sa G G2:=λc o h=>b c o (a c o h)
theorem Sb.trans{p:Addr}{G G1 G2:DH}(a:Sb p G G1)(b:Sb p G1 G2):Sb p G G2:=λc o h n=>b c o (a c o h n) n
theorem Sa.sb{p:Addr}{G G':DH}(a:Sa G G'):Sb p G G':=λc o h _=>a c o h
theorem Sa.new{G:DH}{p:Addr}{o:DO}(h:G p=none):Sa G (aW G p o):=λb u e=>by rw[dH (wN e h)];exact e
theorem Sb.upd{G:DH}{p:Addr}{o:DO}:Sb p G (aW G p o):=λb u e n=>by rw[dH n];exact e
theorem Sa.then{p:Addr}{G G1 G2:DH}(a:Sa G G1)(hp:G p=none)(b:Sb p G1 G2):Sa G G2:=λc o h=>b c o (a c o h) (wN h hp)
theorem Hk{α:Type}{a:α}{l:List α}:atI (a::l) 0=some a:=bK (j:=0) rfl
theorem Hl{α:Type}{a b:α}{l:List α}:atI (a::b::l) 1=some b:=bK (j:=1) rfl
theorem Hm{α:Type}{a b c:α}{l:List α}:atI (a::b::c::l) 2=some c:=bK (j:=2) rfl
theorem Hn{α:Type}{a b c d:α}{l:List α}:atI (a::b::c::d::l) 3=some d:=bK (j:=3) rfl
theorem Ho{n j:Nat}(h:j < n):ixN n (j:Int)=some j:=by unfold ixN;rw[if_pos (by omega),if_pos (by omega)];simp
theorem Hq{n:Nat}:ixN (n+1) 0=some 0:=by unfold ixN;rw[if_pos (by omega),if_pos (by omega)];rfl
theorem Hr{n:Nat}:ixN (n+2) 1=some 1:=by unfold ixN;rw[if_pos (by omega),if_pos (by omega)];rfl
theorem Hs{n:Nat}:ixN (n+3) 2=some 2:=by unfold ixN;rw[if_pos (by omega),if_pos (by omega)];rfl
theorem ab6{α:Type}{xs:List α}{i:Int}(h0:0<=i)(h1:i < xs.length):∃a,atI xs i=some a/\a∈xs:=by
 obtain ⟨n,rfl⟩:=cp h0;have hn:n < xs.length:=by omega
 exact ⟨xs[n],bK (by simp[hn]),ck _⟩
theorem yH{α:Type}(xs:List α)(lo hi:Option Int):(cut xs lo hi).length<=xs.length:=by unfold cut;rw[ci,bX];omega
theorem ab7{l:List D}:bN l []=l.isEmpty:=by cases l <;> rfl
theorem uX{α:Type}(l:List α)(n:Nat):cut l none (some (n:Int))=l.take n:=by
 unfold cut;rw[show HT.sIx l.length 0 none=0 from rfl,HT.Bt,List.drop_zero,Nat.sub_zero];by_cases h:n<=l.length
 ·rw[Nat.min_eq_left h]
 ·rw[Nat.min_eq_right (by omega),en (aw _),en (by omega)]
theorem mD{α:Type}(l:List α)(n:Nat):cut l (some (n:Int)) none=l.drop n:=by
 unfold cut;rw[show HT.sIx l.length l.length none=l.length from rfl,HT.Bt];by_cases h:n<=l.length
 ·rw[Nat.min_eq_left h,en (by rw[bX];exact aw _)]
 ·rw[Nat.min_eq_right (by omega),Nat.sub_self,List.take_zero,List.drop_eq_nil_of_le (by omega)]
theorem uY{α:Type}(l:List α)(n:Nat):cut l (some ((n:Int)+1)) none=l.drop (n+1):=mD l (n+1)
theorem yI:∀{l:List D},(∀d∈l,nr d=true)->nrs l=true
 |[],_=>rfl
 |a::l,h=>by rw[nrs,h a bS,yI λd hd=>h d (b9 _ hd)];rfl
theorem ab8{α:Type}{motive:List α->Prop}(l:List α)(nil:motive [])(snoc:∀(l:List α)(a:α),motive l->motive (l++[a])):motive l:=by
 have go:∀(n:Nat)(l:List α),l.length=n->motive l:=by
  intro n;induction n with
  |zero=>intro l h;rw[df.mp h];exact nil
  |succ n ih=>
   intro l h;have hne:l≠[]:=by rintro rfl;simp at h
   rw[<-e9 hne];exact snoc _ _ (ih _ (by rw[List.length_dropLast];omega))
 exact go _ l rfl
section
variable {G:DH} {k:D->DH->Prop} {fz:Bool} {kb:Bool->Prop} {kd:D->Prop} {p:Addr}
theorem Ht{i j:Int}:b8 .Add fz (.int i) (.int j) G k=k (.int (i+j)) G:=rfl
theorem Hu{x y:List Nat}:b8 .Add fz (.str x) (.str y) G k=(x.length+y.length<=sz/\k (.str (x++y)) G):=rfl
theorem Hv{x y:List D}:b8 .Add fz (.lst x) (.lst y) G k=(x.length+y.length<=sz/\mk fz (x++y) G k):=rfl
theorem Hw{x y:List D}:b8 .Add fz (.tup x) (.tup y) G k=(x.length+y.length<=sz/\k (.tup (x++y)) G):=rfl
theorem Hx{i j:Int}:b8 .Sub fz (.int i) (.int j) G k=k (.int (i - j)) G:=rfl
theorem Hy{i j:Int}:b8 .Mult fz (.int i) (.int j) G k=(CMul i j/\k (.int (i * j)) G):=rfl
theorem Hz{x:List D}{n:Int}:b8 .Mult fz (.tup x) (.int n) G k=(2<=n/\n<=1000/\x≠[]/\x.length * n.toNat<=sz/\k (.tup (reps x n.toNat)) G):=rfl
theorem HB{x:List D}{n:Int}:b8 .Mult fz (.lst x) (.int n) G k=(0<=n/\n<=1000/\x.length * n.toNat<=sz/\mk fz (reps x n.toNat) G k):=rfl
theorem HF{x:List Nat}{n:Int}:b8 .Mult fz (.str x) (.int n) G k=(0<=n/\n<=1000/\x.length * n.toNat<=sz/\k (.str (reps x n.toNat)) G):=rfl
theorem HH{i j:Int}:b8 .FloorDiv fz (.int i) (.int j) G k=((0 < j/\j < 1152921504606846976)/\k (.int (i / j)) G):=rfl
theorem HJ{i j:Int}:b8 .Mod fz (.int i) (.int j) G k=(0 < j/\k (.int (i % j)) G):=rfl
theorem HN{i j:Int}:b8 .Pow fz (.int i) (.int j) G k=(qO i j/\k (.int (i ^ j.toNat)) G):=rfl
def fK:D->Bool
 |.non=>true
 |_=>false
theorem HQ{a b:D}:aX .Eq a b kb=((nr a=true/\nr b=true/\min (dpt a) (dpt b)<=60)/\kb (deq a b)):=rfl
theorem HR{a b:D}:aX .NotEq a b kb=((nr a=true/\nr b=true/\min (dpt a) (dpt b)<=60)/\kb (!deq a b)):=rfl
theorem HS{i j:Int}:aX .Lt (.int i) (.int j) kb=kb (decide (i < j)):=rfl
theorem HW{i j:Int}:aX .LtE (.int i) (.int j) kb=kb (decide (i<=j)):=rfl
theorem HX{i j:Int}:aX .Gt (.int i) (.int j) kb=kb (decide (j < i)):=rfl
theorem HY{i j:Int}:aX .GtE (.int i) (.int j) kb=kb (decide (j<=i)):=rfl
theorem H9{i j:List Nat}:aX .Lt (.str i) (.str j) kb=kb (decide (i < j)):=rfl
theorem Ia{i j:List Nat}:aX .LtE (.str i) (.str j) kb=kb (!decide (j < i)):=rfl
theorem Ib{a:D}:aX .Is a .non kb=kb (fK a):=by cases a <;> rfl
theorem Ie{a:D}:aX .IsNot a .non kb=kb (!fK a):=by cases a <;> rfl
theorem Ig{a b:Bool}:aX .Is (.bl a) (.bl b) kb=kb (a==b):=rfl
theorem Ih{a b:Bool}:aX .IsNot (.bl a) (.bl b) kb=kb (a != b):=rfl
theorem Ii{c:Nat}{l:List Nat}:aX .In (.str [c]) (.str l) kb=kb (l.contains c):=rfl
theorem Ij{c:Nat}{l:List Nat}:aX .NotIn (.str [c]) (.str l) kb=kb (!l.contains c):=rfl
theorem Ik{a:D}{l:List D}:aX .In a (.lst l) kb=((nr a=true/\nrs l=true/\bf l<=60)/\kb (isIn a l)):=rfl
theorem Il{a:D}{l:List D}:aX .In a (.tup l) kb=((nr a=true/\nrs l=true/\bf l<=60)/\kb (isIn a l)):=rfl
theorem Im{a:D}{l:List D}:aX .NotIn a (.lst l) kb=((nr a=true/\nrs l=true/\bf l<=60)/\kb (!isIn a l)):=rfl
theorem Io{a:D}{l:List D}:aX .NotIn a (.tup l) kb=((nr a=true/\nrs l=true/\bf l<=60)/\kb (!isIn a l)):=rfl
theorem Ip{i:Int}:fK (.int i)=false:=rfl
theorem Ir{i:Bool}:fK (.bl i)=false:=rfl
theorem Iu{i:List Nat}:fK (.str i)=false:=rfl
theorem Iv{i:List D}:fK (.tup i)=false:=rfl
theorem Iw{i:List D}:fK (.lst i)=false:=rfl
theorem Iz{i:Addr}:fK (.ref i)=false:=rfl
theorem IK:fK .non=true:=rfl
def bc{α:Type}(o:Option α)(k:α->Prop):Prop:=match o with |some a=>k a |none=>False
theorem IV{α:Type}{a:α}{k:α->Prop}:bc (some a) k=k a:=rfl
theorem bH{α:Type}{o:Option α}{a:α}{k:α->Prop}(e:o=some a)(h:k a):bc o k:=by rw[e];exact h
theorem uZ{α:Type}{xs:List α}{i:Int}{k:α->Prop}(h0:0<=i)(h1:i < xs.length)(h:∀a,a∈xs->k a):bc (atI xs i) k:=by obtain ⟨a,e,m⟩:=ab6 h0 h1;exact bH e (h a m)
theorem IW{ds:List D}{i:Int}:cg (.lst ds) (.int i) kd=bc (atI ds i) kd:=by unfold cg bc;(try dsimp only) <;> (cases atI ds i <;> rfl)
theorem Ja{ds:List D}{i:Int}:cg (.tup ds) (.int i) kd=bc (atI ds i) kd:=by unfold cg bc;(try dsimp only) <;> (cases atI ds i <;> rfl)
theorem Jb{l:List Nat}{i:Int}:cg (.str l) (.int i) kd=bc (atI l i) (λc=>kd (.str [c])):=by unfold cg bc;(try dsimp only) <;> (cases atI l i <;> rfl)
theorem Jc{ds:List D}{lo hi:Option Int}:eQ fz (.lst ds) lo hi G k=mk fz (cut ds lo hi) G k:=rfl
theorem Jd{ds:List D}{y:D}:jA fz (.lst ds) y G k=(y=.int (-1)/\mk fz ds.reverse G k):=rfl
theorem Jf{ds:List Int}{lo hi:Option Int}:eQ fz (.scr ds) lo hi G k=mk fz ((cut ds lo hi).map .int) G k:=rfl
theorem Jg{ds:List D}{lo hi:Option Int}:eQ fz (.tup ds) lo hi G k=k (.tup (cut ds lo hi)) G:=rfl
theorem Jh{ds:List Nat}{lo hi:Option Int}:eQ fz (.str ds) lo hi G k=k (.str (cut ds lo hi)) G:=rfl
theorem Ji{ds:List D}:opB .len [.lst ds] kd=kd (.int ds.length):=rfl
theorem Jj{ds:List D}:opB .len [.tup ds] kd=kd (.int ds.length):=rfl
theorem Jl{ds:List Nat}:opB .len [.str ds] kd=kd (.int ds.length):=rfl
theorem Jm{ds:List D}:opB .all [.lst ds] kd=bc (bools ds) (λbs=>kd (.bl (bs.all id))):=by unfold opB qY bc;(try dsimp only) <;> (cases bools ds <;> rfl)
theorem Jo{b:Bool}:opB .int [.bl b] kd=kd (.int (if b then 1 else 0)):=rfl
theorem Jp{b:Int}:opB .int [.int b] kd=kd (.int b):=rfl
theorem Jq{l:List Nat}:opB .int [.str l] kd=bc (PySem.intText? (tx l)) (λn=>l.length<=640/\kd (.int n)):=by unfold opB qZ bc;(try dsimp only) <;> (cases PySem.intText? (tx l) <;> rfl)
theorem Jr{ds:List D}:opB .sum [.lst ds] kd=bc (bT ds) (λns=>kd (.int ns.sum)):=by unfold opB wW bc;(try dsimp only) <;> (cases bT ds <;> rfl)
theorem Js{a:Int}:opB .str [.int a] kd=((0<=a/\a < 100)/\kd (.str (gC a.toNat))):=rfl
theorem Jt{a b:Int}:opB .max [.int a,.int b] kd=kd (.int (if b > a then b else a)):=rfl
theorem Ju{ds:List D}{kl:List D->Prop}:cG .sorted [.tup ds] kl=bc (bT ds) (λns=>ns.length < 64/\∀ns':List Int,ns'.Perm ns->ns'.Pairwise (·<=·)->kl (ns'.map D.int)):=by unfold cG lE bc;(try dsimp only) <;> (cases bT ds <;> rfl)
theorem Jv{ds:List D}{kl:List D->Prop}:cG .sorted [.lst ds] kl=bc (bz ds) (λls=>ls.length < 64/\∀ls':List (List Nat),ls'.Perm ls->PyProof.Rows.sortedS (ls'.map tx)=true->kl (ls'.map D.str)):=by unfold cG lE bc;(try dsimp only) <;> (cases bz ds <;> rfl)
theorem Jw{ds:List D}:opB .tuple [.lst ds] kd=kd (.tup ds):=rfl
theorem Jx{ds:List D}:opB .tuple [.tup ds] kd=kd (.tup ds):=rfl
theorem Jy{ds:List D}{kl:List D->Prop}:cG .list [.lst ds] kl=kl ds:=rfl
theorem JB{ds:List D}{kl:List D->Prop}:cG .list [.tup ds] kl=kl ds:=rfl
theorem JC{l:List Nat}{kl:List D->Prop}:cG .list [.str l] kl=kl (l.map λc=>.str [c]):=rfl
theorem JD{s:List Nat}{ds:List D}:opM .join (.str s) [.lst ds] G k=bc (bz ds) (λls=>((ls.map (·.length)).sum+ls.length * s.length<=sz)/\k (.str (eU s ls)) G):=by unfold opM q8 bc;(simp only[b6,d4,view]) <;> (cases bz ds <;> rfl)
def trk(G:DH)(p:Addr)(k:List D->Prop):Prop:=match G p with |some (.lst ds)=>k ds |none=>False
theorem dB{ds:List D}{k:List D->Prop}(e:G p=some (.lst ds)):trk G p k=k ds:=by unfold trk;rw[e]
theorem JF{x:D}:opM .append (.ref p) [x] G k=trk G p (λds=>ds.length < sz/\k .non (aW G p (.lst (ds++[x])))):=by unfold opM q9 trk;(try dsimp only) <;> (cases G p <;> first |rfl | (rename_i o;cases o;rfl))
theorem JG{x:D}{i:Int}:opM .insert (.ref p) [.int i,x] G k=trk G p (λds=>ds.length < sz/\0<=i/\i<=1000000/\k .non (aW G p (.lst (ds.take i.toNat++x::ds.drop i.toNat)))):=by unfold opM rn trk;(try dsimp only) <;> (cases G p <;> first |rfl | (rename_i o;cases o;rfl))
theorem JH:recv .insert (.ref p) G=trk G p (λ_=>True):=by unfold recv trk;(try dsimp only) <;> (cases G p <;> first |rfl | (rename_i o;cases o;rfl))
theorem JK{xs:List D}:opM .extend (.ref p) [.lst xs] G k=trk G p (λds=>ds.length+xs.length < sz/\k .non (aW G p (.lst (ds++xs)))):=by unfold opM rm trk;(simp only[b6,d4,view]) <;> (cases G p <;> first |rfl | (rename_i o;cases o;rfl))
theorem yJ{ds:List D}:opM .count (.lst ds) [.bl true] G k=bc (bools ds) (λbs=>k (.int (bs.count true:Nat)) G):=by unfold opM rA bc;(try dsimp only[view]) <;> (cases bools ds <;> rfl)
theorem yK{ds:List D}:opM .index (.lst ds) [.bl true] G k=bc (bools ds) (λbs=>true∈bs/\k (.int (bs.idxOf true:Nat)) G):=by unfold opM rB bc;(try dsimp only[view]) <;> (cases bools ds <;> rfl)
theorem JL{ds:List D}:recv .count (.lst ds) G=True:=rfl
theorem JM{ds:List D}:recv .index (.lst ds) G=True:=rfl
theorem JN{s:List Nat}:recv .join (.str s) G=True:=rfl
theorem JP:recv .append (.ref p) G=trk G p (λ_=>True):=by unfold recv trk;(try dsimp only) <;> (cases G p <;> first |rfl | (rename_i o;cases o;rfl))
theorem JQ:recv .extend (.ref p) G=trk G p (λ_=>True):=by unfold recv trk;(try dsimp only) <;> (cases G p <;> first |rfl | (rename_i o;cases o;rfl))
theorem JR{i:Int}{x:D}{kg:DH->Prop}:eV (.ref p) (.int i) x G kg=trk G p (λds=>bc (ixN ds.length i) (λj=>kg (aW G p (.lst (ds.set j x))))):=by
 unfold eV trk bc
 (try dsimp only) <;> (cases G p <;> first |rfl | (rename_i o;cases o;(try dsimp only) <;> (rename_i ds;cases ixN ds.length i <;> rfl)))
theorem JS{i j:Int}:dJ .Add (.int i) (.int j) kd=kd (.int (i+j)):=rfl
theorem JT{x y:List Nat}:dJ .Add (.str x) (.str y) kd=(x.length+y.length<=sz/\kd (.str (x++y))):=rfl
theorem JV{i j:Int}:dJ .Sub (.int i) (.int j) kd=kd (.int (i - j)):=rfl
theorem JW{xs:List D}:mk true xs G k=k (.lst xs) G:=rfl
theorem JX{xs:List D}:mk false xs G k=∀p,G p=none->k (.ref p) (aW G p (.lst xs)):=rfl
theorem JZ:view G .non=.non:=rfl
theorem J0{b:Bool}:view G (.bl b)=.bl b:=rfl
theorem J1{b:Int}:view G (.int b)=.int b:=rfl
theorem J2{b:List Nat}:view G (.str b)=.str b:=rfl
theorem J7{b:List D}:view G (.tup b)=.tup b:=rfl
theorem J8{b:List D}:view G (.lst b)=.lst b:=rfl
theorem J9{b:String}:view G (.exn b)=.exn b:=rfl
theorem Ka{b:List Int}:view G (.scr b)=.scr b:=rfl
theorem cL{ds:List D}(e:G p=some (.lst ds)):view G (.ref p)=.lst ds:=by unfold view;dsimp only;rw[e]
theorem Kc:truth .non=some false:=rfl
theorem Kd{b:Bool}:truth (.bl b)=some b:=rfl
theorem Ke{i:Int}:truth (.int i)=some (i != 0):=rfl
theorem Kf{l:List Nat}:truth (.str l)=some (!l.isEmpty):=rfl
theorem Kg{l:List D}:truth (.tup l)=some (!l.isEmpty):=rfl
theorem Kh{l:List D}:truth (.lst l)=some (!l.isEmpty):=rfl
theorem Kl{l:List D}:itemsOf G (.lst l)=some (l,[]):=rfl
theorem Km{l:List D}:itemsOf G (.tup l)=some (l,[]):=rfl
theorem Ko{l:List Nat}:itemsOf G (.str l)=some (l.map λc=>.str [c],[]):=rfl
theorem Kp{t:String}:isT t .non=some false:=rfl
theorem Kq {t:String} {b:Bool}:isT t (.bl b)=some (t=="bool"||t=="int"):=rfl
theorem Kr {t:String} {b:Int}:isT t (.int b)=some (t=="int"):=rfl
theorem Ks {t:String} {b:List Nat}:isT t (.str b)=some (t=="str"):=rfl
theorem is_tup {t:String} {b:List D}:isT t (.tup b)=some (t=="tuple"):=rfl
theorem Ku {t:String} {b:List D}:isT t (.lst b)=some (t=="list"):=rfl
theorem Kv{i:Nat}{d:D}{ρ:ak}{kr:ak->Prop}:bh (.nm i) d ρ G kr=kr (ρ.set i (some d)):=rfl
theorem Kw{ts:Tgs}{ds:List D}{ρ:ak}{kr:ak->Prop}:bh (.tp ts) (.lst ds) ρ G kr=bJ ts ds ρ G kr:=rfl
theorem Ky{ts:Tgs}{ds:List D}{ρ:ak}{kr:ak->Prop}:bh (.tp ts) (.tup ds) ρ G kr=bJ ts ds ρ G kr:=rfl
theorem Kz{ρ:ak}{kr:ak->Prop}:bJ .nil [] ρ G kr=kr ρ:=rfl
theorem KC{t:Tg}{r:Tgs}{d:D}{ds:List D}{ρ:ak}{kr:ak->Prop}:bJ (.cons t r) (d::ds) ρ G kr=bh t d ρ G (λρ'=>bJ r ds ρ' G kr):=rfl
theorem KD:deq .non .non=true:=rfl
theorem KH  {y:Bool}:deq .non (.bl y)=false:=rfl
theorem KJ  {y:Int}:deq .non (.int y)=false:=rfl
theorem KN  {y:List Nat}:deq .non (.str y)=false:=rfl
theorem KQ  {y:List D}:deq .non (.tup y)=false:=rfl
theorem KR  {y:List D}:deq .non (.lst y)=false:=rfl
theorem KY{x:Bool} :deq (.bl x) .non=false:=rfl
theorem KZ{x:Bool}{y:Bool}:deq (.bl x) (.bl y)=(x==y):=by rw[deq]
theorem K1{x:Bool}{y:List Nat}:deq (.bl x) (.str y)=false:=rfl
theorem K5{x:Bool}{y:List D}:deq (.bl x) (.tup y)=false:=rfl
theorem K6{x:Bool}{y:List D}:deq (.bl x) (.lst y)=false:=rfl
theorem K7{x:Int} :deq (.int x) .non=false:=rfl
theorem K8{x:Int}{y:Int}:deq (.int x) (.int y)=(x==y):=by rw[deq]
theorem K9{x:Int}{y:List Nat}:deq (.int x) (.str y)=false:=rfl
theorem La{x:Int}{y:List D}:deq (.int x) (.tup y)=false:=rfl
theorem Lb{x:Int}{y:List D}:deq (.int x) (.lst y)=false:=rfl
theorem Ld{x:List Nat} :deq (.str x) .non=false:=rfl
theorem Lg{x:List Nat}{y:Bool}:deq (.str x) (.bl y)=false:=rfl
theorem Lh{x:List Nat}{y:Int}:deq (.str x) (.int y)=false:=rfl
theorem Li{x:List Nat}{y:List Nat}:deq (.str x) (.str y)=(x==y):=by rw[deq]
theorem Lj{x:List Nat}{y:List D}:deq (.str x) (.tup y)=false:=rfl
theorem Lk{x:List Nat}{y:List D}:deq (.str x) (.lst y)=false:=rfl
theorem Ln{x:List D} :deq (.tup x) .non=false:=rfl
theorem Lp{x:List D}{y:Bool}:deq (.tup x) (.bl y)=false:=rfl
theorem Lq{x:List D}{y:Int}:deq (.tup x) (.int y)=false:=rfl
theorem Lr{x:List D}{y:List Nat}:deq (.tup x) (.str y)=false:=rfl
theorem Ls{x:List D}{y:List D}:deq (.tup x) (.tup y)=bN x y:=by rw[deq]
theorem Lw{x:List D}{y:List D}:deq (.tup x) (.lst y)=false:=rfl
theorem Lx{x:List D} :deq (.lst x) .non=false:=rfl
theorem Ly{x:List D}{y:Bool}:deq (.lst x) (.bl y)=false:=rfl
theorem Lz{x:List D}{y:Int}:deq (.lst x) (.int y)=false:=rfl
theorem LC{x:List D}{y:List Nat}:deq (.lst x) (.str y)=false:=rfl
theorem LK{x:List D}{y:List D}:deq (.lst x) (.tup y)=false:=rfl
theorem LQ{x:List D}{y:List D}:deq (.lst x) (.lst y)=bN x y:=by rw[deq]
theorem LR:bN [] []=true:=rfl
theorem Ma{a b:D}{as bs:List D}:bN (a::as) (b::bs)=(deq a b&&bN as bs):=by rw[bN]
theorem Mg{b:D}{bs:List D}:bN [] (b::bs)=false:=rfl
theorem Mh{b:D}{bs:List D}:bN (b::bs) []=false:=rfl
theorem Mi :nr .non=true:=rfl
theorem Mj :dpt .non=0:=rfl
theorem Ml{x:Bool}:nr (.bl x)=true:=rfl
theorem Mm{x:Bool}:dpt (.bl x)=0:=rfl
theorem Mp{x:Int}:nr (.int x)=true:=rfl
theorem Mq{x:Int}:dpt (.int x)=0:=rfl
theorem Mr{x:List Nat}:nr (.str x)=true:=rfl
theorem Ms{x:List Nat}:dpt (.str x)=0:=rfl
theorem Mt{x:List D}:nr (.tup x)=nrs x:=by rw[nr]
theorem Mu{x:List D}:dpt (.tup x)=bf x+1:=by rw[dpt]
theorem Mv{x:List D}:nr (.lst x)=nrs x:=by rw[nr]
theorem Mw{x:List D}:dpt (.lst x)=bf x+1:=by rw[dpt]
theorem Mx:nrs []=true:=rfl
theorem My{a:D}{l:List D}:nrs (a::l)=(nr a&&nrs l):=by rw[nrs]
theorem Mz:bf []=0:=rfl
theorem MF{a:D}{l:List D}:bf (a::l)=max (dpt a) (bf l):=by rw[bf]
end
theorem seq{Φ:aa}{s:Sx}{r:Sxs}{E:EK}{ρ:ak}{G:DH}{D:En}(h:∀M:ak->DH->Prop,(∀ρ' G',aq Φ r E ρ' G' D->M ρ' G')->wpS Φ s E ρ G { D with nx:=M }):aq Φ (.cons s r) E ρ G D:=by rw[jD];exact h _ λ_ _ x=>x
theorem last{Φ:aa}{s:Sx}{E:EK}{ρ:ak}{G:DH}{D:En}(h:wpS Φ s E ρ G D):aq Φ (.cons s .nil) E ρ G D:=by rw[jD];exact wpS_mono s (D:=D) (D':={ D with nx:=λρ' G'=>aq Φ .nil E ρ' G' D }) ⟨λρ' G' q=>(show aq Φ .nil E ρ' G' D from by rw[jC];exact q),λ_ _ q=>q,λ_ _ q=>q,λ_ _ q=>q⟩ h
theorem done{Φ:aa}{E:EK}{ρ:ak}{G:DH}{D:En}(h:D.nx ρ G):aq Φ .nil E ρ G D:=by rw[jC];exact h
section
variable {Φ:aa} {E:EK} {ρ:ak} {G:DH}
def ForG(Φ:aa)(t:Tg)(body:Sxs)(E:EK)(D:En)(items:List RF.D)(g:Hld)(ρ:ak)(G:DH):Prop:=
 forLoop (λd ρ' G' k=>bh t d ρ' G' λρ1=>aq Φ body E ρ1 G' { D with nx:=k,ct:=k,bk:=D.nx }) g items ρ G D.nx
theorem MJ{t:Tg}{it:It'}{body:Sxs}{D:En}:wpS Φ (.for_ t it body) E ρ G D=wpI Φ it E ρ G λitems g G1=>ForG Φ t body E D items g ρ G1:=rfl
theorem ForG.inv{t:Tg}{body:Sxs}{D:En}{items:List RF.D}{g:Hld}(P:Nat->ak->DH->Prop)(h0:P 0 ρ G)(hh:∀i ρ G,P i ρ G->held g G)
  (hs:∀i d ρ G,items[i]?=some d->P i ρ G->∀kk:ak->DH->Prop,(∀ρ' G',P (i+1) ρ' G'->kk ρ' G')->bh t d ρ G λρ1=>aq Φ body E ρ1 G { D with nx:=kk,ct:=kk,bk:=D.nx })
  (he:∀ρ G,P items.length ρ G->D.nx ρ G):ForG Φ t body E D items g ρ G:=ab3 P h0 hh hs he
def CompG(Φ:aa)(elt:Ex)(tg:Tg)(cond:Tx)(items:List D)(g:Hld)(ρ:ak)(G:DH)(k:List D->DH->Prop):Prop:=
 compLoop (λd ρ' G' k'=>bh tg d ρ' G' λρ1=>wpT Φ cond noE ρ1 G' λb G2=>match b with |true=>wpE Φ elt noE ρ1 G2 λy G3=>k' (some y) ρ1 G3 |false=>k' none ρ1 G2) g items [] ρ G k
def jT(cap:List (Option Nat))(ρ:ak):ak:=cap.map λo=>match o with |none=>none |some j=>(ρ[j]?).join
theorem MK{ρ:ak}:jT [] ρ=[]:=rfl
theorem MN{cap:List (Option Nat)}{ρ:ak}:jT (none::cap) ρ=none::jT cap ρ:=rfl
theorem MP{cap:List (Option Nat)}{ρ:ak}{j:Nat}:jT (some j::cap) ρ=(ρ[j]?).join::jT cap ρ:=rfl
theorem MT{fz:Bool}{elt:Ex}{tg:Tg}{it:It'}{cond:Tx}{N:List String}{cap:List (Option Nat)}{k:D->DH->Prop}:
  wpE Φ (.comp fz elt tg it cond N cap) E ρ G k=wpI Φ it E ρ G λitems g G1=>CompG Φ elt tg cond items g (jT cap ρ) G1 λds G2=>mk fz ds G2 k:=rfl
theorem CompG.inv{elt:Ex}{tg:Tg}{cond:Tx}{items:List D}{g:Hld}{k:List D->DH->Prop}(P:Nat->List D->ak->DH->Prop)(h0:P 0 [] ρ G)(hh:∀i acc ρ G,P i acc ρ G->held g G)(hl:items.length<=sz)
  (hs:∀i d acc ρ G,items[i]?=some d->P i acc ρ G->∀kk:Option D->ak->DH->Prop,(∀o ρ' G',P (i+1) (acc++o.toList) ρ' G'->kk o ρ' G')->
   bh tg d ρ G λρ1=>wpT Φ cond noE ρ1 G λb G2=>match b with |true=>wpE Φ elt noE ρ1 G2 λy G3=>kk (some y) ρ1 G3 |false=>kk none ρ1 G2)
  (he:∀acc ρ G,P items.length acc ρ G->k acc G):CompG Φ elt tg cond items g ρ G k:=Hi P h0 hh (by simpa using hl) hs he
theorem CompG.map{elt:Ex}{tg:Tg}{cond:Tx}{items:List D}{g:Hld}{k:List D->DH->Prop}(f:D->D)(I:ak->Prop)(h0:I ρ)(hg:held g G)(hl:items.length<=sz)
  (hs:∀d ρ,d∈items->I ρ->∀kk:Option D->ak->DH->Prop,(∀ρ',I ρ'->kk (some (f d)) ρ' G)->bh tg d ρ G λρ1=>wpT Φ cond noE ρ1 G λb G2=>match b with |true=>wpE Φ elt noE ρ1 G2 λy G3=>kk (some y) ρ1 G3 |false=>kk none ρ1 G2)
  (he:k (items.map f) G):CompG Φ elt tg cond items g ρ G k:=ab5 g f I h0 hg hl hs he
def ab9(Φ:aa)(c:Tx)(body:Sxs)(E:EK)(D:En)(n:Nat)(ρ:ak)(G:DH):Prop:=
 whileLoop (λρ' G' k=>wpT Φ c E ρ' G' k) (λρ' G' k=>aq Φ body E ρ' G' { D with nx:=k,ct:=k,bk:=D.nx }) n ρ G D.nx
theorem M3{c:Tx}{body:Sxs}{D:En}:wpS Φ (.whl c body) E ρ G D=∃n,ab9 Φ c body E D n ρ G:=rfl
end
theorem len0{α:Type}{l:List α}(h:l.length=0):l=[]:=df.mp h
theorem u5{α:Type}{n:Nat}{l:List α}(h:l.length=n+1):∃a r,l=a::r/\r.length=n:=by
 cases l with
 |nil=>cases h
 |cons a r=>exact ⟨a,r,rfl,Nat.succ.inj h⟩
theorem cQ{α:Type}{l:List α}(h:l.length=1):∃a,l=[a]:=by obtain ⟨a,r,rfl,h2⟩:=u5 h;cases len0 h2;exact ⟨a,rfl⟩
theorem aY{α:Type}{l:List α}(h:l.length=2):∃a b,l=[a,b]:=by obtain ⟨a,r,rfl,h2⟩:=u5 h;obtain ⟨b,rfl⟩:=cQ h2;exact ⟨a,b,rfl⟩
theorem fL{α:Type}{l:List α}(h:l.length=3):∃a b c,l=[a,b,c]:=by obtain ⟨a,r,rfl,h2⟩:=u5 h;obtain ⟨b,c,rfl⟩:=aY h2;exact ⟨a,b,c,rfl⟩
theorem M4{α:Type}{l:List α}(h:l.length=4):∃a b c d,l=[a,b,c,d]:=by obtain ⟨a,r,rfl,h2⟩:=u5 h;obtain ⟨b,c,d,rfl⟩:=fL h2;exact ⟨a,b,c,d,rfl⟩
structure Fo(Φ:aa)(P:Program)(w:World)(K:PySem.W.Frag)(mg:Str->Option Value)(base:Heap)(k:Nat)(f:String)(n:Nat):Prop where
 ex:∃fa fd ps,FnOk P w K mg base (CX1 P w) k fa fd ps (lift K n (Φ f))/\PySem.W.keepIn K (.ref fa)=true/\Binds K fd ps []/\mg (Str.ofString f)=some (.ref fa)
section
variable {Φ:aa} {P:Program} {w:World} {K:PySem.W.Frag} {mg:Str->Option Value} {base:Heap} {k:Nat} {xs:List (String×Bool)}
noncomputable def AllF(Φ:aa)(P:Program)(w:World)(K:PySem.W.Frag)(mg:Str->Option Value)(base:Heap)(k:Nat):List (String×Nat)->Prop
 |[]=>True
 | (f,n)::r=>Fo Φ P w K mg base k f n/\AllF Φ P w K mg base k r
noncomputable def AllB(mg:Str->Option Value):List String->Prop
 |[]=>True
 |f::r=>mg (Str.ofString f)=none/\AllB mg r
noncomputable def AllC(K:PySem.W.Frag)(mg:Str->Option Value):List (String×D)->Prop
 |[]=>True
 | (x,d)::r=>(∃u v,mg (Str.ofString x)=some u/\RelV v u/\∀H F,Rep K H F d v)/\AllC K mg r
theorem AllF.get:∀{fs:List (String×Nat)}{f:String}{n:Nat},AllF Φ P w K mg base k fs->(f,n)∈fs->Fo Φ P w K mg base k f n
 | (f',n')::r,f,n,h,m=>by
  rcases bn.mp m with e |m
  ·cases e;exact h.1
  ·exact AllF.get h.2 m
theorem AllB.get:∀{fs:List String}{f:String},AllB mg fs->f∈fs->mg (Str.ofString f)=none
 |f'::r,f,h,m=>by
  rcases bn.mp m with e |m
  ·cases e;exact h.1
  ·exact AllB.get h.2 m
theorem AllC.get:∀{fs:List (String×D)}{x:String}{d:D},AllC K mg fs->(x,d)∈fs->∃u v,mg (Str.ofString x)=some u/\RelV v u/\∀H F,Rep K H F d v
 | (f',n')::r,f,n,h,m=>by
  rcases bn.mp m with e |m
  ·cases e;exact h.1
  ·exact AllC.get h.2 m
noncomputable def cvB(K:PySem.W.Frag)(C':String):Option V:=match PySem.W.nsIn K mainGlobals (Str.ofString C') with
 |some (some (.ref a))=>if qX K a then some (.ref a) else none
 |some none=>if C'=="ValueError" then some (.ty "ValueError") else none
 |_=>none
noncomputable def xiB(K:PySem.W.Frag)(C C':String)(cv:V):Bool:=match PySem.W.nsIn K mainGlobals (Str.ofString C) with
 |some (some (.ref c))=>lA K c&&PySem.W.mroIn K c (valOf cv)==some (bC C C')&&(bC C C'||!(Value.ref c==valOf cv))
 |_=>false
noncomputable def yL(K:PySem.W.Frag)(C:String):Bool:=match PySem.W.nsIn K mainGlobals (Str.ofString C) with
 |some (some (.ref c))=>ig K c
 |_=>false
noncomputable def xsB(K:PySem.W.Frag)(xs:List (String×Bool)):Bool:=xs.all λp=>match p.2 with
 |true=>yL K p.1
 |false=>(cvB K p.1).any λcv=>xs.all λq=>!q.2||xiB K q.1 p.1 cv
theorem aca{h:Heap}(X:K.In h)(Gh:h.Ns mainGlobals mg){xs:List (String×Bool)}(e:xsB K xs=true)(C:String)(hC:xs.contains (C,true)=true):∃a,mg (Str.ofString C)=some (.ref a)/\ig K a=true/\PySem.W.nsIn K mainGlobals (Str.ofString C)=some (some (.ref a)):=by
 have e1:yL K C=true:=bp.mp e _ (aE.mp hC);unfold yL at e1;split at e1
 ·rename_i a hn;exact ⟨a,PySem.W.mg_of X Gh hn,e1,hn⟩
 ·cases e1
theorem acb{h:Heap}(X:K.In h)(Gh:h.Ns mainGlobals mg){xs:List (String×Bool)}(e:xsB K xs=true)(C':String)(hC:xs.contains (C',false)=true):∃cv,CV K mg C' cv/\∀C,xs.contains (C,true)=true->XI K C C' cv:=by
 have e1:((cvB K C').any λcv=>xs.all λq=>!q.2||xiB K q.1 C' cv)=true:=bp.mp e _ (aE.mp hC);obtain ⟨cv,hcv,h2⟩:=aM e1;refine ⟨cv,?_,λC hC=>?_⟩
 ·unfold cvB at hcv;split at hcv
  ·rename_i a hn;split at hcv
   ·rename_i hb;cases hcv;exact .inl ⟨a,rfl,PySem.W.mg_of X Gh hn,hb⟩
   ·cases hcv
  ·rename_i hn;split at hcv
   ·rename_i hb;cases hcv;exact .inr ⟨av.mp hb,rfl,PySem.W.mg_none_of X Gh hn⟩
   ·cases hcv
  ·cases hcv
 ·have e3:(!true||xiB K C C' cv)=true:=bp.mp h2 _ (aE.mp hC);have e3:xiB K C C' cv=true:=e3;unfold xiB at e3;split at e3
  ·rename_i c hn;rw[ae,ae,av]at e3;refine ⟨c,hn,e3.1.1,e3.1.2,λhs=>?_⟩;have:=e3.2;rw[hs,Bool.false_or,ff]at this;exact this
  ·cases e3
theorem bse{h:Heap}{fs:List (String×Nat)}{bt:List String}{cn:List (String×D)}(h1:AllF Φ P w K mg base k fs)(h2:AllB mg bt)(h3:AllC K mg cn)(X:K.In h)(Gh:h.Ns mainGlobals mg)(e:xsB K xs=true):Bse Φ P w K mg base (CX1 P w) k fs bt cn xs:=
 ⟨λ_ _ m=>(h1.get m).ex,λ_ m=>h2.get m,λ_ _ m=>h3.get m,aca X Gh e,acb X Gh e⟩
theorem yM{x:String}{i:Int}{t:Tok}(h:mg (Str.ofString x)=some (.int i t)):∃u v,mg (Str.ofString x)=some u/\RelV v u/\∀H F,Rep K H F (.int i) v:=⟨_,.int i,h,⟨t,rfl⟩,λ_ _=>rfl⟩
theorem acd{x:String}{l:List Nat}{s:Str}{t:Tok}(h:mg (Str.ofString x)=some (.str s t))(e:s=tx l)(hl:l.length<=sz):∃u v,mg (Str.ofString x)=some u/\RelV v u/\∀H F,Rep K H F (.str l) v:=⟨_,.str s,h,⟨t,rfl⟩,λ_ _=>⟨by rw[e],hl⟩⟩
theorem M5{n:Nat}{S:RF.Spec}{fa:Addr}{fd:FuncData}{ps:List Str}(h:∀ds G a,¬S.pre ds G a):FnOk P w K mg base (CX1 P w) k fa fd ps (lift K n S):=
 ⟨λ_ _ _ _ ⟨_,_,_,_,_,_,a,hp,_⟩=>absurd hp (h _ _ a),λ_ _ _ _ _ _ _ _ _ _ _ _ _ ⟨_,_,_,_,_,_,a,hp,_⟩=>absurd hp (h _ _ a)⟩
end
section
variable {Φ:aa} {P:Program} {w:World} {K:PySem.W.Frag} {mg:Str->Option Value} {base:Heap} {k j n:Nat} {fs:List (String×Nat)} {bt:List String} {cn:List (String×D)} {xs:List (String×Bool)} {x:String} {S:RF.Spec} {fa:Addr} {fd:FuncData} {ps:List Str}
theorem Bse.add(B:Bse Φ P w K mg base (CX1 P w) k fs bt cn xs)(e:Φ x=S)(o:FnOk P w K mg base (CX1 P w) (k+j) fa fd ps (lift K n S))(h2:PySem.W.keepIn K (.ref fa)=true)(h3:Binds K fd ps [])(h4:mg (Str.ofString x)=some (.ref fa)):Bse Φ P w K mg base (CX1 P w) (k+j) ((x,n)::fs) bt cn xs:=by
 refine ⟨λf m hm=>?_,B.blt,B.con,B.xcl,B.xis⟩;rcases bn.mp hm with e' |hm
 ·cases e';exact ⟨fa,fd,ps,by rw[e];exact o,h2,h3,h4⟩
 ·obtain ⟨fa,fd,ps,h1,h⟩:=B.call f m hm;exact ⟨fa,fd,ps,h1.mono (eR _ _),h⟩
theorem Bse.step{qual:Str}{st:Stmt}{N:List Str}{body:Sxs}(B:Bse Φ P w K mg base (CX1 P w) k fs bt cn xs)(F:Fun K (Str.ofString x) qual st fa fd)(h3:Binds K fd ps [])(h4:mg (Str.ofString x)=some (.ref fa))(e:Φ x=S)(m:Nat)
  (hs:fnB N ps (ao st)=true) (hc:aC (aG N (ao st) fs bt cn xs) body (aF st)=true) (hn:ps.length=n) (hm:N.length=n+m)
  (hw:∀ds G a,ds.length=n->S.pre ds G a->aq Φ body noE (env0 ds m) G (ends (S.post a))):Bse Φ P w K mg base (CX1 P w) (k+1) ((x,n)::fs) bt cn xs:=
 B.add e (uW F B S n m hs hc hn hm hw) F.kp h3 h4
theorem Bse.stepX{qual:Str}{st:Stmt}{N:List Str}{body:Sxs}(B:Bse Φ P w K mg base (CX1 P w) k fs bt cn xs)(F:Fun K (Str.ofString x) qual st fa fd)(h3:Binds K fd ps [])(h4:mg (Str.ofString x)=some (.ref fa))(e:Φ x=S)(m:Nat)
  (hs:fnB N ps (ao st)=true) (hc:aC (aG N (ao st) fs bt cn xs) body (aF st)=true) (hn:ps.length=n) (hm:N.length=n+m)
  (hw:∀ds G a,ds.length=n->S.pre ds G a->aq Φ body (S.exc a) (env0 ds m) G (ends (S.post a))):Bse Φ P w K mg base (CX1 P w) (k+1) ((x,n)::fs) bt cn xs:=
 B.add e (ab2 F B S n m hs hc hn hm hw) F.kp h3 h4
def iJ(Φ:aa)(x:String)(S:RF.Spec):aa:=λf=>if f=x then S else Φ f
theorem jU{y:String}(e:Φ y=S){S':RF.Spec}(h:(y==x)=false):iJ Φ x S' y=S:=by unfold iJ;rw[if_neg (by simpa using h)];exact e
theorem Bse.self(B:Bse Φ P w K mg base (CX1 P w) k fs bt cn xs)(hx:(fs.map (·.1)).contains x=false)(o:FnOk P w K mg base (CX1 P w) (k+j) fa fd ps (lift K n S))(h2:PySem.W.keepIn K (.ref fa)=true)(h3:Binds K fd ps [])(h4:mg (Str.ofString x)=some (.ref fa)):Bse (iJ Φ x S) P w K mg base (CX1 P w) (k+j) ((x,n)::fs) bt cn xs:=by
 refine ⟨λf m hm=>?_,B.blt,B.con,B.xcl,B.xis⟩;rcases bn.mp hm with e' |hm'
 ·cases e';exact ⟨fa,fd,ps,by unfold iJ;rw[if_pos rfl];exact o,h2,h3,h4⟩
 ·obtain ⟨fa,fd,ps,h1,h⟩:=B.call f m hm';have hf:f≠x:=by
   rintro rfl;rw[<-Bool.not_eq_true,aE]at hx;exact hx (cm.mpr ⟨(f,m),hm',rfl⟩)
  exact ⟨fa,fd,ps,by unfold iJ;rw[if_neg hf];exact h1.mono (eR _ _),h⟩
end
theorem ace{S:RF.Spec}(hS:∀(ns:List Int)(G:DH),ns.length<=63->∃a,S.pre [.scr ns] G a/\(∀d G',S.post a d G'->d=.bl true)/\∀x G',¬S.exc a x G')(K:PySem.W.Frag)(H:Hp)(a:Addr)(ns:List Int)(hl:ns.length<=63)(hO:Only H)(hs:SqL K H a (ns.map V.int)):
  lift K 1 S [.ref a] H (λv _=>v=.bl true) λ_ _ _=>False:=by
 obtain ⟨b,h1,h2,h3⟩:=hS ns (λ_=>none) hl;refine ⟨rfl,λ_=>False,λ_=>none,[.scr ns],⟨λ_ f=>f.elim,λ_ _ e=>by cases e⟩,⟨.ref a,[],rfl,⟨a,rfl,?_⟩,rfl⟩,b,h1,λd G' q H' F' v _ _ rv=>?_,λx G' q=>absurd q (h3 x G')⟩
 ·rcases hs with (h |h) |h
  ·exfalso;rcases hO a with z |⟨o,u,z⟩
   ·rw[z]at h;cases h
   ·rw[z]at h;cases h
  ·exact .inl h
  ·exact .inr h
 ·rw[h2 d G' q]at rv;exact rv
theorem acf{pre:List D->DH->Prop}(h:∀(ns:List Int)(G:DH),ns.length<=63->pre [.scr ns] G):∀(ns:List Int)(G:DH),ns.length<=63->∃a,(bB pre (λ_ _ d _=>d=.bl true)).pre [.scr ns] G a/\(∀d G',(bB pre (λ_ _ d _=>d=.bl true)).post a d G'->d=.bl true)/\∀x G',¬(bB pre (λ_ _ d _=>d=.bl true)).exc a x G':=
 λns G hl=>⟨([.scr ns],G),⟨rfl,h ns G hl⟩,λ_ _ q=>q,λ_ _ z=>z⟩
def ghS{A:Type}(pre:A->List D->DH->Prop)(post:A->DH->D->DH->Prop):RF.Spec where
 A:=A×DH
 pre:=λds G a=>a.2=G/\pre a.1 ds G
 post:=λa d G'=>post a.1 a.2 d G'
 exc:=λ_ _ _=>False
theorem cW{A:Type}{pre:A->List D->DH->Prop}{post:A->DH->D->DH->Prop}{ds:List D}{G:DH}{k:D->DH->Prop}{E:EK}(a:A)(h:pre a ds G)(hk:∀d G',post a G d G'->k d G'):(ghS pre post).t ds G k E:=
 ⟨(a,G),⟨rfl,h⟩,hk,λ_ _ z=>z.elim⟩
theorem eY{A:Type}{Φ:aa}{body:Sxs}{m n:Nat}{pre:A->List D->DH->Prop}{post:A->DH->D->DH->Prop}(h:∀a ds G,pre a ds G->aq Φ body noE (env0 ds m) G (ends (post a G))):
  ∀ds G a,ds.length=n->(ghS pre post).pre ds G a->aq Φ body noE (env0 ds m) G (ends ((ghS pre post).post a)):=by
 rintro ds G ⟨a,G0⟩ _ ⟨rfl,h1⟩;exact h a ds _ h1
def cR{A:Type}(args:A->List D)(ok:A->Prop)(val:A->D):RF.Spec:=ghS (λa ds _=>ds=args a/\ok a) (λa G d G'=>G'=G/\d=val a)
theorem dO{A:Type}{args:A->List D}{ok:A->Prop}{val:A->D}{ds:List D}{G:DH}{k:D->DH->Prop}{E:EK}(a:A)(e:ds=args a)(h:ok a)(hk:k (val a) G):(cR args ok val).t ds G k E:=
 cW a ⟨e,h⟩ λd G' ⟨e1,e2⟩=>by subst e1 e2;exact hk
theorem dR{A:Type}{Φ:aa}{body:Sxs}{m n:Nat}{args:A->List D}{ok:A->Prop}{val:A->D}(h:∀a G,ok a->aq Φ body noE (env0 (args a) m) G (ends λd G'=>G'=G/\d=val a)):
  ∀ds G a,ds.length=n->(cR args ok val).pre ds G a->aq Φ body noE (env0 ds m) G (ends ((cR args ok val).post a)):=
 eY λa ds G ⟨e,h1⟩=>by subst e;exact h a G h1
theorem ai{a b:Prop}(x:a)(y:b):a/\b:=⟨x,y⟩
def M6:=ai @sZ (ai @jE (ai @tu (ai @tB (ai @tD (ai @tH (ai @tM (ai @tQ (ai @tR (ai @tU (ai @tV (ai (ai @tY (ai @lK (ai @xu (ai @lL (ai (ai @tX @xF) (ai @xG (ai @xH (ai (ai @sV (ai (ai @sW @sX) (ai @xj (ai @xm @xq)))) (ai @xr @tW))))))))) (ai @MJ (ai @M3 (ai (ai @rT (ai @rE (ai @rF (ai @rG (ai @jB (ai @il (ai @gD (ai @rH (ai @lF (ai @rJ (ai @lG (ai @rK (ai @rM (ai @rN (ai @rO (ai @w5 (ai @rP (ai @xf (ai @rQ @rR))))))))))))))))))) (ai @ir (ai @rW (ai @rY (ai @rZ (ai @lH (ai @lJ (ai @sr (ai @su (ai @sy (ai @sE (ai @sG (ai @sH (ai (ai @sI @xg) (ai @sJ (ai @sO (ai @sS (ai @sU (ai @gf (ai @sY (ai @MT (ai @Ht (ai @Hu (ai @Hv (ai @Hw (ai @Hx (ai @Hy (ai (ai @HF (ai @HB @Hz)) (ai @HH (ai @HJ (ai @HN (ai @HQ (ai @HR (ai @HS (ai @HW (ai @HX (ai @HY (ai @H9 (ai @Ia (ai @Ib (ai @Ie (ai @Ig (ai @Ih (ai @Ii (ai @Ij (ai @Ik (ai @Il (ai @Im (ai @Io (ai @Ip (ai @Ir (ai @Iu (ai @Iv (ai @Iw (ai @Iz (ai @IK (ai @IW (ai @Ja (ai @Jb (ai @Jc (ai (ai @Jf @Jd) (ai @Jg (ai @Jh (ai @Ji (ai @Jj (ai @Jl (ai @Jm (ai @Jo (ai @Jp (ai @Jq (ai @Jr (ai (ai @Jv @Ju) (ai (ai @Jw (ai @Jt @Js)) (ai @Jx (ai @Jy (ai @JB (ai @JC (ai (ai @JD (ai @yJ (ai @yK (ai @JL (ai @JM @J9))))) (ai @JF (ai (ai @JK (ai @JG @JH)) (ai @JN (ai @JP (ai @JQ (ai @JR (ai @JS (ai @JT (ai @JV (ai @JW (ai @JX (ai @JZ (ai @J0 (ai @J1 (ai @J2 (ai @J7 (ai @J8 (ai @Ka (ai @Kc (ai @Kd (ai @Ke (ai @Kf (ai @Kg (ai @Kh (ai @Kl (ai @Km (ai @Ko (ai @Kp (ai @Kq (ai @Kr (ai @Ks (ai @is_tup (ai @Ku (ai @Kv (ai (ai @Ky @Kw) (ai @Kz (ai @KC (@IV)))))))))))))))))))))))))))))))))))))))))))))))))))))))))))))))))))))))))))))))))))))))))))))))))))))))))))))))))))))))))))))))))
theorem acg:type_of% (af @jC @jD):=af @jC @jD
theorem M7:type_of% (af @MK (af @MN (af @MP (af @Option.join_some.{0} (af @b6.{0,0} (af @d4.{0,0} (af @List.cons_append.{0} (af @List.nil_append.{0} (af @cy.{0} (af @List.replicate_zero.{0} (af @List.getElem?_cons_zero.{0} (af @List.getElem?_cons_succ.{0} (af @List.set_cons_zero.{0} (af @List.set_cons_succ.{0} (af @cr.{0} (af @eg.{0} (af @Hk (af @Hl (af @Hm (af @Hn (af @Hq (af @Hr (af @Hs (af @true_and (af @eK (af @Nat.min_self (af @Nat.zero_min (af @Nat.min_zero (af @fg (af @Bool.or_false (af @Bool.or_true (af @Bool.false_or (af @Bool.true_or (af @ft (af @Bool.not_false (af @KD (af @KH (af @KJ (af @KN (af @KQ (af @KR (af @KY (af @KZ (af @K1 (af @K5 (af @K6 (af @K7 (af @K8 (af @K9 (af @La (af @Lb (af @Ld (af @Lg (af @Lh (af @Li (af @Lj (af @Lk (af @Ln (af @Lp (af @Lq (af @Lr (af @Ls (af @Lw (af @Lx (af @Ly (af @Lz (af @LC (af @LK (af @LQ (af @LR (af @Ma (af @Mg (af @Mh (af @Mi (af @Mj (af @Ml (af @Mm (af @Mp (af @Mq (af @Mr (af @Ms (af @Mt (af @Mu (af @Mv (af @Mw (af @Mx (af @My (af @Mz (@MF))))))))))))))))))))))))))))))))))))))))))))))))))))))))))))))))))))))))))))))))))))))))):=af @MK (af @MN (af @MP (af @Option.join_some.{0} (af @b6.{0,0} (af @d4.{0,0} (af @List.cons_append.{0} (af @List.nil_append.{0} (af @cy.{0} (af @List.replicate_zero.{0} (af @List.getElem?_cons_zero.{0} (af @List.getElem?_cons_succ.{0} (af @List.set_cons_zero.{0} (af @List.set_cons_succ.{0} (af @cr.{0} (af @eg.{0} (af @Hk (af @Hl (af @Hm (af @Hn (af @Hq (af @Hr (af @Hs (af @true_and (af @eK (af @Nat.min_self (af @Nat.zero_min (af @Nat.min_zero (af @fg (af @Bool.or_false (af @Bool.or_true (af @Bool.false_or (af @Bool.true_or (af @ft (af @Bool.not_false (af @KD (af @KH (af @KJ (af @KN (af @KQ (af @KR (af @KY (af @KZ (af @K1 (af @K5 (af @K6 (af @K7 (af @K8 (af @K9 (af @La (af @Lb (af @Ld (af @Lg (af @Lh (af @Li (af @Lj (af @Lk (af @Ln (af @Lp (af @Lq (af @Lr (af @Ls (af @Lw (af @Lx (af @Ly (af @Lz (af @LC (af @LK (af @LQ (af @LR (af @Ma (af @Mg (af @Mh (af @Mi (af @Mj (af @Ml (af @Mm (af @Mp (af @Mq (af @Mr (af @Ms (af @Mt (af @Mu (af @Mv (af @Mw (af @Mx (af @My (af @Mz (@MF))))))))))))))))))))))))))))))))))))))))))))))))))))))))))))))))))))))))))))))))))))))))
def yN:Sxs:=(.cons (.set (.var 0) (.cst (.int 2)) (.cst (.int 0))) (.cons (.ret (.var 0)) .nil))
noncomputable def yO:Sxs:=(.cons (.ite (.val (.cmp .GtE (.var 0) (.bin .Pow true (.cst (.int 10)) (.cst (.int 18))))) (.cons (.ret (.var 0)) .nil) .nil) (.cons (.asg (.nm 2) (.bin .Mod true (.bin .Add true (.bin .Add true (.bin .Mult true (.bin .Mod true (.var 0) (.cst (.int 1000000007))) (.cst (.int 69069))) (.bin .Mult true (.var 1) (.cst (.int 40503)))) (.cst (.int 977))) (.cst (.int 2147483629)))) (.cons (.asg (.nm 3) (.bin .Mod true (.bin .Add true (.bin .Add true (.bin .Mult true (.var 2) (.var 2)) (.bin .Mult true (.var 1) (.cst (.int 7919)))) (.bin .Mod true (.var 0) (.cst (.int 65537)))) (.cst (.int 2147483587)))) (.cons (.asg (.nm 4) (.bin .Mod true (.bin .Add true (.bin .Add true (.bin .Mult true (.var 3) (.var 3)) (.bin .Mult true (.var 2) (.cst (.int 31)))) (.cst (.int 5))) (.cst (.int 2147483563)))) (.cons (.ret (.bin .Add true (.bin .Mult true (.bin .Add true (.bin .Mult true (.var 2) (.cst (.int 2147483659))) (.var 3)) (.cst (.int 2147483693))) (.var 4))) .nil)))))
noncomputable def yP:Sxs:=(.cons (.ite (.val (.cmp .Lt (.idx (.var 0) (.cst (.int 2))) (.var 1))) (.cons (.asg (.nm 2) (.idx (.var 0) (.cst (.int 1)))) (.cons (.asg (.nm 3) (.cst (.int 0))) (.cons (.ite (.val (.cmp .Lt (.var 2) (.bcl .len (.cons (.idx (.var 0) (.cst (.int 0))) .nil)))) (.cons (.asg (.nm 3) (.idx (.idx (.var 0) (.cst (.int 0))) (.var 2))) .nil) (.cons (.ite (.val (.cmp .Gt (.bcl .len (.cons (.idx (.var 0) (.cst (.int 0))) .nil)) (.cst (.int 0)))) (.cons (.asg (.nm 3) (.bin .Mod true (.idx (.idx (.var 0) (.cst (.int 0))) (.bin .Mod true (.bin .Add true (.bin .Mult true (.var 2) (.cst (.int 5))) (.cst (.int 3))) (.bcl .len (.cons (.idx (.var 0) (.cst (.int 0))) .nil)))) (.bin .Add true (.bin .Pow true (.cst (.int 10)) (.cst (.int 17))) (.var 2)))) .nil) .nil) .nil)) (.cons (.set (.var 0) (.cst (.int 1)) (.bin .Add true (.var 2) (.cst (.int 1)))) (.cons (.set (.var 0) (.cst (.int 2)) (.call "_law_spread" (.cons (.var 3) (.cons (.var 2) .nil)))) .nil))))) .nil) (.cons (.asg (.nm 4) (.bin .Mod true (.idx (.var 0) (.cst (.int 2))) (.var 1))) (.cons (.set (.var 0) (.cst (.int 2)) (.bin .FloorDiv true (.idx (.var 0) (.cst (.int 2))) (.var 1))) (.cons (.ret (.var 4)) .nil))))
noncomputable def yQ:Sxs:=(.cons (.ret (.mth .join (.cst (.str [])) (.cons (.comp true (.idx (.var 1) (.call "_law_take" (.cons (.var 2) (.cons (.bcl .len (.cons (.var 1) .nil)) .nil)))) (.nm 0) (.rng (.var 1)) .yes ["at","signs","pen"] [none,some 2,some 0]) .nil))) .nil)
noncomputable def yR:Sxs:=(.cons (.asg (.nm 2) (.lst true (.cons (.cst (.str [97])) (.cons (.cst (.str [103,111])) (.cons (.cst (.str [115,116,97,121])) (.cons (.cst (.str [97,98,99,100,101,102,103,104])) (.cons (.cst (.str [110,111,110,101])) (.cons (.cst (.str [121,101,115])) (.cons (.cst (.str [105,110])) (.cons (.cst (.str [111,117,116])) (.cons (.cst (.str [107,101,101,112])) (.cons (.cst (.str [119,111,114,100])) (.cons (.cst (.str [122,122])) .nil))))))))))))) (.cons (.asg (.nm 3) (.call "_law_take" (.cons (.var 0) (.cons (.cst (.int 11)) .nil)))) (.cons (.asg (.nm 4) (.comp true (.idx (.var 1) (.bin .Mod true (.bin .Add true (.var 2) (.bin .Mult true (.cst (.int 3)) (.var 0))) (.cst (.int 11)))) (.nm 0) (.rng (.bin .Add true (.cst (.int 1)) (.call "_law_take" (.cons (.var 0) (.cons (.var 1) .nil))))) .yes ["k","some","turn"] [none,some 2,some 3])) (.cons (.ite (.val (.cmp .Eq (.call "_law_take" (.cons (.var 0) (.cons (.cst (.int 3)) .nil))) (.cst (.int 0)))) (.cons (.asg (.nm 5) (.cst (.str [97,98,99,100,101,102,103,104,105,106,107,108,109,110,111,112,113,114,115,116,117,118,119,120,121,122]))) (.cons (.asg (.nm 4) (.comp true (.call "_law_signs" (.cons (.var 1) (.cons (.bin .Add true (.cst (.int 1)) (.call "_law_take" (.cons (.var 1) (.cons (.cst (.int 8)) .nil)))) (.cons (.var 2) .nil)))) (.nm 0) (.seq (.var 4)) .yes ["one","pen","letters"] [none,some 0,some 5])) .nil)) .nil) (.cons (.ret (.var 4)) .nil)))))
noncomputable def yS:Sxs:=(.cons (.ret (.call "_law_signs" (.cons (.var 0) (.cons (.var 1) (.cons (.idx (.lst true (.cons (.cst (.str [48,49,42])) (.cons (.cst (.str [48,49,42,42])) (.cons (.cst (.str [48,49,42,42,42,42])) (.cons (.cst (.str [48,42])) (.cons (.cst (.str [48,49])) .nil)))))) (.call "_law_take" (.cons (.var 0) (.cons (.cst (.int 5)) .nil)))) .nil))))) .nil)
noncomputable def yU:Sxs:=(.cons (.asg (.nm 2) (.cst (.str []))) (.cons (.for_ (.nm 3) (.seq (.var 1)) (.cons (.ite (.val (.cmp .Eq (.call "_law_take" (.cons (.var 0) (.cons (.cst (.int 3)) .nil))) (.cst (.int 0)))) (.cons (.asg (.nm 3) (.cst (.str [42]))) .nil) .nil) (.cons (.asg (.nm 2) (.bin .Add true (.var 2) (.var 3))) .nil))) (.cons (.ret (.var 2)) .nil)))
noncomputable def yV:Sxs:=(.cons (.asg (.nm 2) (.cst (.str []))) (.cons (.for_ (.nm 3) (.seq (.var 1)) (.cons (.ite (.boo true (.val (.cmp .Eq (.var 3) (.cst (.str [42])))) (.cons (.val (.cmp .Eq (.call "_law_take" (.cons (.var 0) (.cons (.cst (.int 2)) .nil))) (.cst (.int 0)))) .nil)) (.cons (.asg (.nm 3) (.idx (.cst (.str [48,49])) (.call "_law_take" (.cons (.var 0) (.cons (.cst (.int 2)) .nil))))) .nil) .nil) (.cons (.asg (.nm 2) (.bin .Add true (.var 2) (.var 3))) .nil))) (.cons (.ret (.var 2)) .nil)))
noncomputable def yW:Sxs:=(.cons (.asg (.nm 3) (.call "_law_take" (.cons (.var 0) (.cons (.cst (.int 7)) .nil)))) (.cons (.ite (.boo false (.val (.cmp .Eq (.var 2) (.lst true .nil))) (.cons (.val (.cmp .Lt (.var 3) (.cst (.int 2)))) .nil)) (.cons (.ret (.call "_law_form" (.cons (.var 0) (.cons (.var 1) .nil)))) .nil) .nil) (.cons (.asg (.nm 4) (.idx (.var 2) (.call "_law_take" (.cons (.var 0) (.cons (.bcl .len (.cons (.var 2) .nil)) .nil))))) (.cons (.ite (.val (.cmp .Eq (.var 3) (.cst (.int 2)))) (.cons (.ret (.var 4)) .nil) .nil) (.cons (.ite (.val (.cmp .Lt (.var 3) (.cst (.int 5)))) (.cons (.asg (.nm 5) (.call "_law_take" (.cons (.var 0) (.cons (.var 1) .nil)))) (.cons (.ret (.bin .Add true (.bin .Add true (.slc true (.var 4) .no (.ob (.var 5))) (.idx (.cst (.str [48,49,42])) (.call "_law_take" (.cons (.var 0) (.cons (.cst (.int 3)) .nil))))) (.slc true (.var 4) (.ob (.bin .Add true (.var 5) (.cst (.int 1)))) .no))) .nil)) .nil) (.cons (.ite (.val (.cmp .Eq (.var 3) (.cst (.int 5)))) (.cons (.ret (.call "_law_within" (.cons (.var 0) (.cons (.var 4) .nil)))) .nil) .nil) (.cons (.ret (.call "_law_wider" (.cons (.var 0) (.cons (.var 4) .nil)))) .nil)))))))
noncomputable def yX:Sxs:=(.cons (.asg (.nm 3) (.bin .Add true (.cst (.int 1)) (.call "_law_take" (.cons (.var 0) (.cons (.var 1) .nil))))) (.cons (.asg (.nm 4) (.call "_law_deeds_of" (.cons (.var 0) (.cons (.cst (.int 3)) .nil)))) (.cons (.asg (.nm 5) (.lst false .nil)) (.cons (.asg (.nm 6) (.lst false .nil)) (.cons (.for_ (.nm 7) (.rng (.call "_law_take" (.cons (.var 0) (.cons (.bin .Add true (.var 2) (.cst (.int 1))) .nil)))) (.cons (.exp (.mth .append (.var 5) (.cons (.call "_law_form_like" (.cons (.var 0) (.cons (.var 3) (.cons (.var 5) .nil)))) .nil))) (.cons (.exp (.mth .append (.var 6) (.cons (.tup (.cons (.idx (.var 5) (.neg (.cst (.int 1)))) (.cons (.idx (.var 4) (.call "_law_take" (.cons (.var 0) (.cons (.bcl .len (.cons (.var 4) .nil)) .nil)))) .nil))) .nil))) .nil))) (.cons (.ret (.tup (.cons (.var 3) (.cons (.bcl .tuple (.cons (.var 6) .nil)) .nil)))) .nil))))))
noncomputable def yZ:Sxs:=(.cons (.asg (.nm 2) (.cst (.str [32,33,34,35,36,38,39,40,41,42,43,44,45,46,47,48,49,50,51,52,53,54,55,56,57,58,59,60,61,62,63,64,65,66,67,68,69,70,71,72,73,74,75,76,77,78,79,80,81,82,83,84,85,86,87,88,89,90,91,92,93,94,95,96]))) (.cons (.asg (.nm 2) (.bin .Add true (.var 2) (.cst (.str [97,98,99,100,101,102,103,104,105,106,107,108,109,110,111,112,113,114,115,116,117,118,119,120,121,122,123,124,125,126,9,10])))) (.cons (.asg (.nm 3) (.comp true (.var 0) (.nm 0) (.seq (.var 2)) (.val (.cmp .NotIn (.var 0) (.var 1))) ["sign","others"] [none,some 1])) (.cons (.ret (.idx (.var 3) (.call "_law_take" (.cons (.var 0) (.cons (.bcl .len (.cons (.var 3) .nil)) .nil))))) .nil))))
noncomputable def za:Sxs:=(.cons (.asg (.tp (.cons (.nm 2) (.cons (.nm 3) .nil))) (.var 1)) (.cons (.asg (.nm 4) (.call "_law_take" (.cons (.var 0) (.cons (.bcl .len (.cons (.var 3) .nil)) .nil)))) (.cons (.asg (.tp (.cons (.nm 5) (.cons (.nm 6) .nil))) (.idx (.var 3) (.var 4))) (.cons (.asg (.nm 7) (.call "_law_take" (.cons (.var 0) (.cons (.var 2) .nil)))) (.cons (.asg (.nm 8) (.call "_law_sign_but" (.cons (.var 0) (.cons (.cst (.str [48,49,42])) .nil)))) (.cons (.asg (.nm 9) (.call "_law_sign_but" (.cons (.var 0) (.cons (.cst (.str [97,98,99,100,101,102,103,104,105,106,107,108,109,110,111,112,113,114,115,116,117,118,119,120,121,122])) .nil)))) (.cons (.asg (.nm 10) (.lst true (.cons (.tup (.cons (.bin .Add true (.bin .Add true (.slc true (.var 5) .no (.ob (.var 7))) (.var 8)) (.slc true (.var 5) (.ob (.bin .Add true (.var 7) (.cst (.int 1)))) .no)) (.cons (.var 6) .nil))) (.cons (.tup (.cons (.var 5) (.cons (.bin .Add true (.slc true (.var 6) .no (.ob (.neg (.cst (.int 1))))) (.var 9)) .nil))) (.cons (.tup (.cons (.var 5) (.cons (.cst (.str [])) .nil))) (.cons (.tup (.cons (.var 5) (.cons (.cst (.str [97,98,99,100,101,102,103,104,105])) .nil))) .nil)))))) (.cons (.asg (.nm 10) (.bin .Add true (.var 10) (.lst true (.cons (.tup (.cons (.bin .Add true (.var 5) (.cst (.str [48]))) (.cons (.var 6) .nil))) (.cons (.tup (.cons (.slc true (.var 5) (.ob (.cst (.int 1))) .no) (.cons (.var 6) .nil))) (.cons (.tup (.cons (.var 5) (.cons (.var 6) (.cons (.var 6) .nil)))) (.cons (.lst true (.cons (.var 5) (.cons (.var 6) .nil))) (.cons (.tup (.cons (.var 5) .nil)) (.cons (.cst .non) (.cons (.tup (.cons (.var 6) (.cons (.var 5) .nil))) .nil)))))))))) (.cons (.asg (.nm 11) (.comp true (.tup (.cons (.var 1) (.cons (.bin .Add true (.bin .Add true (.slc true (.var 2) .no (.ob (.var 3))) (.tup (.cons (.var 0) .nil))) (.slc true (.var 2) (.ob (.bin .Add true (.var 3) (.cst (.int 1)))) .no)) .nil))) (.nm 0) (.seq (.var 10)) .yes ["row","width","rows","at"] [none,some 2,some 3,some 4])) (.cons (.asg (.nm 11) (.bin .Add true (.var 11) (.lst true (.cons (.cst .non) (.cons (.cst (.int 7)) (.cons (.cst (.str [])) (.cons (.tup .nil) (.cons (.var 3) (.cons (.lst true (.cons (.var 2) (.cons (.var 3) .nil))) (.cons (.tup (.cons (.var 2) (.cons (.lcl true .list (.cons (.var 3) .nil)) .nil))) (.cons (.tup (.cons (.var 2) .nil)) (.cons (.tup (.cons (.var 2) (.cons (.var 3) (.cons (.tup .nil) .nil)))) .nil)))))))))))) (.cons (.ret (.bin .Add true (.var 11) (.lst true (.cons (.tup (.cons (.cst (.int 0)) (.cons (.tup .nil) .nil))) (.cons (.tup (.cons (.cst (.int 7)) (.cons (.tup .nil) .nil))) (.cons (.tup (.cons (.cst (.bl true)) (.cons (.tup .nil) .nil))) (.cons (.tup (.cons (.cst .non) (.cons (.var 3) .nil))) (.cons (.tup (.cons (.var 2) (.cons (.bin .Mult true (.tup (.cons (.idx (.var 3) (.cst (.int 0))) .nil)) (.cst (.int 13))) .nil))) .nil)))))))) .nil)))))))))))
noncomputable def zb:Sxs:=(.cons (.asg (.nm 1) (.lcl false .list (.cons (.slc true (.var 0) .no (.ob (.cst (.int 12)))) .nil))) (.cons (.for_ (.tp (.cons (.nm 2) (.cons (.nm 3) .nil))) (.enm (.slc true (.var 0) (.ob (.cst (.int 12))) (.ob (.cst (.int 63))))) (.cons (.set (.var 1) (.bin .Mod true (.var 2) (.cst (.int 12))) (.bin .Add true (.idx (.var 1) (.bin .Mod true (.var 2) (.cst (.int 12)))) (.var 3))) .nil)) (.cons (.ret (.lst false (.cons (.frz (.var 1)) (.cons (.cst (.int 0)) (.cons (.cst (.int 0)) .nil))))) .nil)))
noncomputable def jV:Sxs:=(.cons (.ite (.boo false (.not (.val (.isi (.var 0) "str"))) (.cons (.not (.val (.chn .LtE .LtE (.cst (.int 1)) (.bcl .len (.cons (.var 0) .nil)) (.glb "LONGEST_DEED" (.int 8))))) .nil)) (.cons (.ret (.cst (.bl false))) .nil) .nil) (.cons (.ret (.bcl .all (.cons (.comp true (.cmp .In (.var 0) (.glb "LETTERS" (.str [97,98,99,100,101,102,103,104,105,106,107,108,109,110,111,112,113,114,115,116,117,118,119,120,121,122]))) (.nm 0) (.seq (.var 0)) .yes ["sign"] [none]) .nil))) .nil))
noncomputable def jW:Sxs:=(.cons (.ite (.boo false (.not (.val (.isi (.var 2) "str"))) (.cons (.val (.cmp .NotEq (.bcl .len (.cons (.var 2) .nil)) (.var 1))) .nil)) (.cons (.ret (.cst (.bl false))) .nil) .nil) (.cons (.ret (.bcl .all (.cons (.comp true (.cmp .In (.var 0) (.var 1)) (.nm 0) (.seq (.var 2)) .yes ["sign","signs"] [none,some 0]) .nil))) .nil))
noncomputable def mF:Sxs:=(.cons (.ret (.call "is_text_of" (.cons (.cst (.str [48,49,42])) (.cons (.var 0) (.cons (.var 1) .nil))))) .nil)
noncomputable def gk:Sxs:=(.cons (.ite (.boo false (.not (.val (.isi (.var 1) "tuple"))) (.cons (.val (.cmp .NotEq (.bcl .len (.cons (.var 1) .nil)) (.cst (.int 2)))) .nil)) (.cons (.ret (.cst (.bl false))) .nil) .nil) (.cons (.ret (.boo true (.call "is_form" (.cons (.var 0) (.cons (.idx (.var 1) (.cst (.int 0))) .nil))) (.cons (.call "is_deed" (.cons (.idx (.var 1) (.cst (.int 1))) .nil)) .nil))) .nil))
noncomputable def mG:Sxs:=(.cons (.ret (.boo true (.isi (.var 0) "int") (.cons (.not (.isi (.var 0) "bool")) .nil))) .nil)
noncomputable def mH:Sxs:=(.cons (.ret (.boo true (.call "is_whole" (.cons (.var 0) .nil)) (.cons (.chn .LtE .LtE (.cst (.int 1)) (.var 0) (.glb "WIDEST" (.int 6))) .nil))) .nil)
noncomputable def gm:Sxs:=(.cons (.ite (.boo false (.not (.val (.isi (.var 0) "tuple"))) (.cons (.val (.cmp .NotEq (.bcl .len (.cons (.var 0) .nil)) (.cst (.int 2)))) .nil)) (.cons (.ret (.cst (.bl false))) .nil) .nil) (.cons (.asg (.tp (.cons (.nm 1) (.cons (.nm 2) .nil))) (.var 0)) (.cons (.ite (.boo false (.not (.val (.call "is_width" (.cons (.var 1) .nil)))) (.cons (.not (.val (.isi (.var 2) "tuple"))) (.cons (.val (.cmp .Gt (.bcl .len (.cons (.var 2) .nil)) (.glb "MOST_ROWS" (.int 12)))) .nil))) (.cons (.ret (.cst (.bl false))) .nil) .nil) (.cons (.ret (.bcl .all (.cons (.comp true (.call "is_row" (.cons (.var 1) (.cons (.var 0) .nil))) (.nm 0) (.seq (.var 2)) .yes ["row","width"] [none,some 1]) .nil))) .nil))))
noncomputable def iK:Sxs:=(.cons (.ite (.not (.val (.call "is_book" (.cons (.var 0) .nil)))) (.cons (.rse "NoBook" .nil) .nil) .nil) .nil)
noncomputable def mJ:Sxs:=(.cons (.ret (.boo true (.call "is_whole" (.cons (.var 1) .nil)) (.cons (.chn .LtE .Lt (.cst (.int 0)) (.var 1) (.var 0)) .nil))) .nil)
noncomputable def iM:Sxs:=(.cons (.asg (.nm 2) (.bcl .len (.cons (.idx (.var 0) (.cst (.int 1))) .nil))) (.cons (.ite (.boo false (.not (.val (.isi (.var 1) "tuple"))) (.cons (.not (.val (.bcl .all (.cons (.comp true (.call "is_place" (.cons (.var 1) (.cons (.var 0) .nil))) (.nm 0) (.seq (.var 1)) .yes ["number","many"] [none,some 2]) .nil)))) .nil)) (.cons (.ret (.cst (.bl false))) .nil) .nil) (.cons (.ret (.cmp .Eq (.lcl true .sorted (.cons (.var 1) .nil)) (.rgl true (.var 2)))) .nil)))
noncomputable def iQ:Sxs:=(.cons (.ite (.not (.val (.call "is_order" (.cons (.var 0) (.cons (.var 1) .nil))))) (.cons (.rse "NoOrder" .nil) .nil) .nil) .nil)
noncomputable def gK:Sxs:=(.cons (.exp (.call "need_book" (.cons (.var 0) .nil))) (.cons (.exp (.call "need_order" (.cons (.var 0) (.cons (.var 1) .nil)))) (.cons (.asg (.tp (.cons (.nm 2) (.cons (.nm 3) .nil))) (.var 0)) (.cons (.ret (.tup (.cons (.var 2) (.cons (.bcl .tuple (.cons (.comp true (.idx (.var 1) (.var 0)) (.nm 0) (.seq (.var 1)) .yes ["number","rows"] [none,some 3]) .nil)) .nil)))) .nil))))
noncomputable def mK:Sxs:=(.cons (.asg (.nm 1) (.cst (.int 1))) (.cons (.for_ (.nm 2) (.seq (.var 0)) (.cons (.ite (.val (.cmp .Eq (.var 2) (.cst (.str [42])))) (.cons (.asg (.nm 1) (.bin .Mult true (.var 1) (.cst (.int 2)))) .nil) .nil) .nil)) (.cons (.ret (.var 1)) .nil)))
noncomputable def mL:Sxs:=(.cons (.asg (.nm 2) (.cst (.str []))) (.cons (.for_ (.tp (.cons (.nm 3) (.cons (.nm 4) .nil))) (.zip (.var 0) (.var 1)) (.cons (.ite (.val (.cmp .Eq (.var 3) (.cst (.str [42])))) (.cons (.aug 2 .Add (.var 4)) .nil) (.cons (.ite (.boo false (.val (.cmp .Eq (.var 4) (.cst (.str [42])))) (.cons (.val (.cmp .Eq (.var 4) (.var 3))) .nil)) (.cons (.aug 2 .Add (.var 3)) .nil) (.cons (.ret (.cst .non)) .nil)) .nil)) .nil)) (.cons (.ret (.var 2)) .nil)))
noncomputable def mO:Sxs:=(.cons (.for_ (.tp (.cons (.nm 2) (.cons (.nm 3) .nil))) (.enm (.var 0)) (.cons (.ite (.val (.cmp .IsNot (.call "both" (.cons (.idx (.var 3) (.cst (.int 0))) (.cons (.var 1) .nil))) (.cst .non))) (.cons (.ret (.var 2)) .nil) .nil) .nil)) (.cons (.ret (.cst .non)) .nil))
noncomputable def mQ:Sxs:=(.cons (.asg (.nm 2) (.call "first_touching" (.cons (.var 0) (.cons (.var 1) .nil)))) (.cons (.ite (.val (.cmp .Is (.var 2) (.cst .non))) (.cons (.ret (.cst .non)) .nil) .nil) (.cons (.for_ (.tp (.cons (.nm 3) (.cons (.nm 4) .nil))) (.enm (.idx (.idx (.var 0) (.var 2)) (.cst (.int 0)))) (.cons (.ite (.boo true (.val (.cmp .Eq (.idx (.var 1) (.var 3)) (.cst (.str [42])))) (.cons (.val (.cmp .NotEq (.var 4) (.cst (.str [42])))) .nil)) (.cons (.ret (.var 3)) .nil) .nil) .nil)) (.cons (.ret (.cst .non)) .nil))))
noncomputable def mR:Sxs:=(.cons (.ret (.bin .Add true (.bin .Add true (.slc true (.var 0) .no (.ob (.var 1))) (.var 2)) (.slc true (.var 0) (.ob (.bin .Add true (.var 1) (.cst (.int 1)))) .no))) .nil)
noncomputable def jX:Sxs:=(.cons (.for_ (.nm 3) (.seq (.var 1)) (.cons (.asg (.nm 4) (.call "splitting_place" (.cons (.var 3) (.cons (.var 2) .nil)))) (.cons (.ite (.val (.cmp .IsNot (.var 4) (.cst .non))) (.cons (.asg (.nm 5) (.call "grown" (.cons (.var 0) (.cons (.var 1) (.cons (.call "with_sign" (.cons (.var 2) (.cons (.var 4) (.cons (.cst (.str [48])) .nil)))) .nil))))) (.cons (.asg (.nm 6) (.call "grown" (.cons (.var 0) (.cons (.var 1) (.cons (.call "with_sign" (.cons (.var 2) (.cons (.var 4) (.cons (.cst (.str [49])) .nil)))) .nil))))) (.cons (.ret (.tup (.cons (.cst (.str [115,112,108,105,116])) (.cons (.var 4) (.cons (.var 5) (.cons (.var 6) .nil)))))) .nil))) .nil) .nil))) (.cons (.ret (.bin .Add true (.tup (.cons (.var 0) .nil)) (.bcl .tuple (.cons (.comp true (.call "first_touching" (.cons (.var 0) (.cons (.var 1) .nil))) (.nm 0) (.seq (.var 1)) .yes ["rows","box"] [none,some 2]) .nil)))) .nil))
def mU:Sxs:=(.cons (.ret (.bin .Mult true (.cst (.str [42])) (.var 0))) .nil)
noncomputable def iR:Sxs:=(.cons (.exp (.call "need_book" (.cons (.var 0) .nil))) (.cons (.asg (.tp (.cons (.nm 1) (.cons (.nm 2) .nil))) (.var 0)) (.cons (.ret (.call "grown" (.cons (.cst (.str [109,101,116])) (.cons (.lst true (.cons (.var 2) .nil)) (.cons (.call "stars" (.cons (.var 1) .nil)) .nil))))) .nil)))
noncomputable def mV:Sxs:=(.cons (.ret (.boo true (.isi (.var 2) "tuple") (.cons (.cmp .Eq (.bcl .len (.cons (.var 2) .nil)) (.bin .Add true (.var 1) (.cst (.int 1)))) (.cons (.cmp .Eq (.idx (.var 2) (.cst (.int 0))) (.var 0)) .nil)))) .nil)
noncomputable def iT:Sxs:=(.cons (.ite (.not (.val (.call "is_named" (.cons (.cst (.str [115,112,108,105,116])) (.cons (.cst (.int 3)) (.cons (.var 1) .nil)))))) (.cons (.ret (.lst true (.cons (.tup (.cons (.var 0) (.cons (.var 1) .nil))) .nil))) .nil) .nil) (.cons (.asg (.nm 2) (.idx (.var 1) (.cst (.int 1)))) (.cons (.ite (.boo false (.not (.val (.call "is_place" (.cons (.bcl .len (.cons (.var 0) .nil)) (.cons (.var 2) .nil))))) (.cons (.val (.cmp .NotEq (.idx (.var 0) (.var 2)) (.cst (.str [42])))) .nil)) (.cons (.ret (.cst .non)) .nil) .nil) (.cons (.asg (.nm 3) (.call "leaves" (.cons (.call "with_sign" (.cons (.var 0) (.cons (.var 2) (.cons (.cst (.str [48])) .nil)))) (.cons (.idx (.var 1) (.cst (.int 2))) .nil)))) (.cons (.asg (.nm 4) (.call "leaves" (.cons (.call "with_sign" (.cons (.var 0) (.cons (.var 2) (.cons (.cst (.str [49])) .nil)))) (.cons (.idx (.var 1) (.cst (.int 3))) .nil)))) (.cons (.ite (.boo false (.val (.cmp .Is (.var 3) (.cst .non))) (.cons (.val (.cmp .Is (.var 4) (.cst .non))) .nil)) (.cons (.ret (.cst .non)) .nil) .nil) (.cons (.ret (.bin .Add true (.var 3) (.var 4))) .nil)))))))
noncomputable def iU:Sxs:=(.cons (.asg (.nm 1) (.call "laid" (.cons (.var 0) .nil))) (.cons (.asg (.tp (.cons (.nm 2) (.cons (.nm 3) .nil))) (.var 0)) (.cons (.asg (.nm 4) (.bin .Add false (.comp true (.cst (.int 0)) (.nm 0) (.seq (.var 3)) .yes ["row"] [none]) (.lst true (.cons (.cst (.int 0)) .nil)))) (.cons (.for_ (.tp (.cons (.nm 5) (.cons (.nm 6) .nil))) (.seq (.call "leaves" (.cons (.call "stars" (.cons (.var 2) .nil)) (.cons (.var 1) .nil)))) (.cons (.asg (.nm 7) (.ife (.val (.cmp .Is (.idx (.var 6) (.cst (.int 1))) (.cst .non))) (.bcl .len (.cons (.var 3) .nil)) (.idx (.var 6) (.cst (.int 1))))) (.cons (.augs (.var 4) (.var 7) .Add (.call "how_many" (.cons (.var 5) .nil))) .nil))) (.cons (.ret (.var 4)) .nil)))))
noncomputable def mW:Sxs:=(.cons (.ite (.val (.cmp .NotEq (.bcl .len (.cons (.var 0) .nil)) (.bcl .len (.cons (.var 1) .nil)))) (.cons (.ret (.cst (.bl false))) .nil) .nil) (.cons (.ret (.bcl .all (.cons (.comp true (.boo false (.cmp .Eq (.var 0) (.cst (.str [42]))) (.cons (.cmp .Eq (.var 0) (.var 1)) .nil)) (.tp (.cons (.nm 0) (.cons (.nm 1) .nil))) (.zip (.var 0) (.var 1)) .yes ["sign","given"] [none,none]) .nil))) .nil))
def mX:Sxs:=(.cons (.ret (.call "fits" (.cons (.var 1) (.cons (.var 0) .nil)))) .nil)
noncomputable def mY:Sxs:=(.cons (.ite (.val (.cmp .Is (.var 2) (.cst .non))) (.cons (.ret (.cmp .Is (.call "first_touching" (.cons (.var 0) (.cons (.var 1) .nil))) (.cst .non))) .nil) .nil) (.cons (.ite (.boo false (.not (.val (.call "is_place" (.cons (.bcl .len (.cons (.var 0) .nil)) (.cons (.var 2) .nil))))) (.cons (.not (.val (.call "lies_in" (.cons (.var 1) (.cons (.idx (.idx (.var 0) (.var 2)) (.cst (.int 0))) .nil))))) .nil)) (.cons (.ret (.cst (.bl false))) .nil) .nil) (.cons (.ret (.cmp .Eq (.call "first_touching" (.cons (.var 0) (.cons (.var 1) .nil))) (.var 2))) .nil)))
noncomputable def iV:Sxs:=(.cons (.exp (.call "need_book" (.cons (.var 0) .nil))) (.cons (.asg (.tp (.cons (.nm 2) (.cons (.nm 3) .nil))) (.var 0)) (.cons (.asg (.nm 4) (.call "leaves" (.cons (.call "stars" (.cons (.var 2) .nil)) (.cons (.var 1) .nil)))) (.cons (.ite (.val (.cmp .Is (.var 4) (.cst .non))) (.cons (.ret (.cst (.bl false))) .nil) .nil) (.cons (.ret (.bcl .all (.cons (.comp true (.boo true (.call "is_named" (.cons (.cst (.str [109,101,116])) (.cons (.cst (.int 1)) (.cons (.var 1) .nil)))) (.cons (.call "is_met" (.cons (.var 2) (.cons (.var 0) (.cons (.idx (.var 1) (.cst (.int 1))) .nil)))) .nil)) (.tp (.cons (.nm 0) (.cons (.nm 1) .nil))) (.seq (.var 4)) .yes ["box","leaf","rows"] [none,none,some 3]) .nil))) .nil)))))
noncomputable def mZ:Sxs:=(.cons (.exp (.call "need_book" (.cons (.var 0) .nil))) (.cons (.exp (.call "need_book" (.cons (.var 1) .nil))) (.cons (.ite (.val (.cmp .NotEq (.idx (.var 0) (.cst (.int 0))) (.idx (.var 1) (.cst (.int 0))))) (.cons (.rse "NoMatch" (.cons (.idx (.var 0) (.cst (.int 0))) (.cons (.idx (.var 1) (.cst (.int 0))) .nil))) .nil) .nil) .nil)))
noncomputable def jY:Sxs:=(.cons (.ite (.val (.cmp .Is (.var 1) (.cst .non))) (.cons (.ret (.cst .non)) .nil) .nil) (.cons (.ret (.idx (.idx (.idx (.var 0) (.cst (.int 1))) (.var 1)) (.cst (.int 1)))) .nil))
noncomputable def m5:Sxs:=(.cons (.ret (.cmp .Eq (.call "deed_of" (.cons (.var 0) (.cons (.idx (.var 2) (.cst (.int 1))) .nil))) (.call "deed_of" (.cons (.var 1) (.cons (.idx (.var 2) (.cst (.int 2))) .nil))))) .nil)
noncomputable def m6:Sxs:=(.cons (.exp (.call "need_two_books" (.cons (.var 0) (.cons (.var 1) .nil)))) (.cons (.asg (.nm 2) (.call "stars" (.cons (.idx (.var 0) (.cst (.int 0))) .nil))) (.cons (.asg (.nm 3) (.call "grown" (.cons (.cst (.str [115,97,109,101])) (.cons (.lst true (.cons (.idx (.var 0) (.cst (.int 1))) (.cons (.idx (.var 1) (.cst (.int 1))) .nil))) (.cons (.var 2) .nil))))) (.cons (.asg (.nm 4) (.comp true (.call "least" (.cons (.var 0) .nil)) (.tp (.cons (.nm 0) (.cons (.nm 1) .nil))) (.seq (.call "leaves" (.cons (.var 2) (.cons (.var 3) .nil)))) (.not (.val (.call "same_deeds" (.cons (.var 2) (.cons (.var 3) (.cons (.var 1) .nil)))))) ["part","leaf","one","other"] [none,none,some 0,some 1])) (.cons (.ite (.val (.var 4)) (.cons (.ret (.tup (.cons (.cst (.str [112,97,114,116,101,100])) (.cons (.bcl .min (.cons (.var 4) .nil)) .nil)))) .nil) .nil) (.cons (.ret (.tup (.cons (.cst (.str [97,108,105,107,101])) (.cons (.var 3) .nil)))) .nil))))))
noncomputable def gM:Sxs:=(.cons (.exp (.call "need_book" (.cons (.var 0) .nil))) (.cons (.ite (.not (.val (.call "is_place" (.cons (.bcl .len (.cons (.idx (.var 0) (.cst (.int 1))) .nil)) (.cons (.var 1) .nil))))) (.cons (.rse "NoRow" (.cons (.bcl .len (.cons (.idx (.var 0) (.cst (.int 1))) .nil)) .nil)) .nil) .nil) .nil))
noncomputable def iW:Sxs:=(.cons (.exp (.call "need_row" (.cons (.var 0) (.cons (.var 1) .nil)))) (.cons (.asg (.tp (.cons (.nm 2) (.cons (.nm 3) .nil))) (.var 0)) (.cons (.ret (.tup (.cons (.var 2) (.cons (.bin .Add true (.slc true (.var 3) .no (.ob (.var 1))) (.slc true (.var 3) (.ob (.bin .Add true (.var 1) (.cst (.int 1)))) .no)) .nil)))) .nil)))
noncomputable def iY:Sxs:=(.cons (.asg (.tp (.cons (.nm 2) (.cons (.nm 3) .nil))) (.call "alike" (.cons (.var 0) (.cons (.call "without" (.cons (.var 0) (.cons (.var 1) .nil))) .nil)))) (.cons (.ret (.tup (.cons (.ife (.val (.cmp .Eq (.var 2) (.cst (.str [97,108,105,107,101])))) (.cst (.str [110,101,101,100,108,101,115,115])) (.cst (.str [110,101,101,100,101,100]))) (.cons (.var 3) .nil)))) .nil))
noncomputable def iZ:Sxs:=(.cons (.exp (.call "need_book" (.cons (.var 0) .nil))) (.cons (.asg (.nm 1) (.var 0)) (.cons (.for_ (.nm 2) (.rev (.bcl .len (.cons (.idx (.var 0) (.cst (.int 1))) .nil))) (.cons (.ite (.val (.cmp .Eq (.idx (.call "needless" (.cons (.var 1) (.cons (.var 2) .nil))) (.cst (.int 0))) (.cst (.str [110,101,101,100,108,101,115,115])))) (.cons (.asg (.nm 1) (.call "without" (.cons (.var 1) (.cons (.var 2) .nil)))) .nil) .nil) .nil)) (.cons (.ret (.var 1)) .nil))))
noncomputable def m7:Sxs:=(.cons (.ret (.bin .Add true (.bin .Add true (.slc true (.var 0) .no (.ob (.var 1))) (.tup (.cons (.idx (.var 0) (.bin .Add true (.var 1) (.cst (.int 1)))) (.cons (.idx (.var 0) (.var 1)) .nil)))) (.slc true (.var 0) (.ob (.bin .Add true (.var 1) (.cst (.int 2)))) .no))) .nil)
noncomputable def m8:Sxs:=(.cons (.asg (.tp (.cons (.nm 2) (.cons (.nm 3) .nil))) (.call "alike" (.cons (.var 0) (.cons (.var 1) .nil)))) (.cons (.ret (.ife (.val (.cmp .Eq (.var 2) (.cst (.str [112,97,114,116,101,100])))) (.var 3) (.cst .non))) .nil))
noncomputable def gO:Sxs:=(.cons (.exp (.call "need_book" (.cons (.var 0) .nil))) (.cons (.asg (.tp (.cons (.nm 2) (.cons (.nm 3) .nil))) (.var 0)) (.cons (.ite (.not (.val (.call "is_place" (.cons (.bin .Sub true (.bcl .len (.cons (.var 3) .nil)) (.cst (.int 1))) (.cons (.var 1) .nil))))) (.cons (.rse "NoRow" (.cons (.bcl .len (.cons (.var 3) .nil)) .nil)) .nil) .nil) (.cons (.ret (.cmp .Is (.call "parting_word" (.cons (.var 0) (.cons (.tup (.cons (.var 2) (.cons (.call "exchanged" (.cons (.var 3) (.cons (.var 1) .nil))) .nil))) .nil))) (.cst .non))) .nil))))
noncomputable def m9:Sxs:=(.cons (.ite (.val (.cmp .Eq (.var 0) (.cst (.int 0)))) (.cons (.ret (.call "laid" (.cons (.var 1) .nil))) .nil) .nil) (.cons (.ite (.val (.cmp .Eq (.var 0) (.cst (.int 1)))) (.cons (.ret (.call "is_laid" (.cons (.var 1) (.cons (.tup (.cons (.cst (.str [109,101,116])) (.cons (.cst .non) .nil))) .nil)))) .nil) .nil) (.cons (.ite (.val (.cmp .Eq (.var 0) (.cst (.int 2)))) (.cons (.ret (.call "counts" (.cons (.var 1) .nil))) .nil) .nil) (.cons (.ite (.val (.cmp .Eq (.var 0) (.cst (.int 3)))) (.cons (.ret (.call "lean" (.cons (.var 1) .nil))) .nil) .nil) (.cons (.ite (.val (.cmp .Eq (.var 0) (.cst (.int 4)))) (.cons (.ret (.call "needless" (.cons (.var 1) (.cons (.var 2) .nil)))) .nil) .nil) (.cons (.ite (.val (.cmp .Eq (.var 0) (.cst (.int 5)))) (.cons (.ret (.call "without" (.cons (.var 1) (.cons (.var 2) .nil)))) .nil) .nil) (.cons (.ite (.val (.cmp .Eq (.var 0) (.cst (.int 6)))) (.cons (.ret (.call "may_swap" (.cons (.var 1) (.cons (.var 2) .nil)))) .nil) .nil) (.cons (.ret (.call "by_order" (.cons (.var 1) (.cons (.var 3) .nil)))) .nil))))))))
noncomputable def zc:Sxs:=(.cons (.asg (.nm 1) (.lst false (.cons (.isx (.var 0) "Full" ["NoBook","NoMatch","NoRow","NoOrder"]) (.cons (.isx (.var 0) "NoBook" ["NoBook","NoMatch","NoRow","NoOrder"]) (.cons (.isx (.var 0) "NoForm" ["NoBook","NoMatch","NoRow","NoOrder"]) .nil))))) (.cons (.asg (.nm 1) (.bin .Add false (.var 1) (.lst true (.cons (.isx (.var 0) "NoJoin" ["NoBook","NoMatch","NoRow","NoOrder"]) (.cons (.isx (.var 0) "NoLine" ["NoBook","NoMatch","NoRow","NoOrder"]) (.cons (.isx (.var 0) "NoMatch" ["NoBook","NoMatch","NoRow","NoOrder"]) .nil)))))) (.cons (.asg (.nm 1) (.bin .Add false (.var 1) (.lst true (.cons (.isx (.var 0) "NoOrder" ["NoBook","NoMatch","NoRow","NoOrder"]) (.cons (.isx (.var 0) "NoRow" ["NoBook","NoMatch","NoRow","NoOrder"]) (.cons (.isx (.var 0) "NoText" ["NoBook","NoMatch","NoRow","NoOrder"]) .nil)))))) (.cons (.asg (.nm 1) (.bin .Add false (.var 1) (.lst true (.cons (.isx (.var 0) "NoWord" ["NoBook","NoMatch","NoRow","NoOrder"]) (.cons (.isx (.var 0) "Nothing" ["NoBook","NoMatch","NoRow","NoOrder"]) (.cons (.isx (.var 0) "TooMany" ["NoBook","NoMatch","NoRow","NoOrder"]) .nil)))))) (.cons (.exp (.mth .append (.var 1) (.cons (.isx (.var 0) "Turned" ["NoBook","NoMatch","NoRow","NoOrder"]) .nil))) (.cons (.ite (.boo false (.val (.cmp .NotEq (.mth .count (.var 1) (.cons (.cst (.bl true)) .nil)) (.cst (.int 1)))) (.cons (.not (.val (.isx (.var 0) "SieveError" ["NoBook","NoMatch","NoRow","NoOrder"]))) (.cons (.not (.val (.isx (.var 0) "ValueError" ["NoBook","NoMatch","NoRow","NoOrder"]))) .nil))) (.cons (.ret (.cst (.str [111,100,100]))) .nil) .nil) (.cons (.asg (.nm 2) (.lst true (.cons (.cst (.str [102,117,108,108])) (.cons (.cst (.str [98,111,111,107])) (.cons (.cst (.str [102,111,114,109])) (.cons (.cst (.str [106,111,105,110])) (.cons (.cst (.str [108,105,110,101])) (.cons (.cst (.str [109,97,116,99,104])) (.cons (.cst (.str [111,114,100,101,114])) (.cons (.cst (.str [114,111,119])) (.cons (.cst (.str [116,101,120,116])) (.cons (.cst (.str [119,111,114,100])) (.cons (.cst (.str [110,111,116,104,105,110,103])) (.cons (.cst (.str [109,97,110,121])) .nil)))))))))))))) (.cons (.ret (.idx (.bin .Add true (.var 2) (.lst true (.cons (.cst (.str [116,117,114,110,101,100])) .nil))) (.mth .index (.var 1) (.cons (.cst (.bl true)) .nil)))) .nil))))))))
noncomputable def u6:Sxs:=(.cons (.asg (.nm 4) (.cst .non)) (.cons (.tryx (.call "_law_asked" (.cons (.var 0) (.cons (.var 1) (.cons (.var 2) (.cons (.var 3) .nil))))) "SieveError" (.bind 5 4) ["NoBook","NoMatch","NoRow","NoOrder"]) (.cons (.ite (.val (.cmp .Is (.var 4) (.cst .non))) (.cons (.ret (.cst (.str [116,111,108,100]))) .nil) .nil) (.cons (.ret (.call "_law_refusal" (.cons (.var 4) .nil))) .nil))))
noncomputable def zf:Sxs:=(.cons (.asg (.nm 1) (.call "_law_open" (.cons (.var 0) .nil))) (.cons (.for_ (.nm 2) (.rng (.cst (.int 3))) (.cons (.asg (.tp (.cons (.nm 3) (.cons (.nm 4) .nil))) (.call "_law_book" (.cons (.call "_law_anew" (.cons (.var 1) .nil)) (.cons (.cst (.int 6)) (.cons (.cst (.int 6)) .nil))))) (.cons (.asg (.nm 5) (.tup (.cons (.var 3) (.cons (.bin .Add true (.bin .Add true (.tup (.cons (.tup (.cons (.bin .Mult true (.cst (.str [42])) (.var 3)) (.cons (.cst (.str [97])) .nil))) .nil)) (.var 4)) (.tup (.cons (.tup (.cons (.bin .Mult true (.cst (.str [48])) (.var 3)) (.cons (.cst (.str [103,111])) .nil))) .nil))) .nil)))) (.cons (.asg (.nm 6) (.rgt (.bcl .len (.cons (.idx (.var 5) (.cst (.int 1))) .nil)))) (.cons (.for_ (.nm 7) (.rng (.cst (.int 8))) (.cons (.for_ (.nm 8) (.seq (.call "_law_odd_books" (.cons (.var 1) (.cons (.var 5) .nil)))) (.cons (.ite (.boo false (.val (.cmp .NotEq (.call "_law_told" (.cons (.var 7) (.cons (.var 8) (.cons (.cst (.int 0)) (.cons (.var 6) .nil))))) (.cst (.str [98,111,111,107])))) (.cons (.val (.cmp .NotEq (.call "_law_told" (.cons (.var 7) (.cons (.var 8) (.cons (.cst .non) (.cons (.cst .non) .nil))))) (.cst (.str [98,111,111,107])))) .nil)) (.cons (.ret (.cst (.bl false))) .nil) .nil) .nil)) (.cons (.ite (.val (.cmp .NotEq (.call "_law_told" (.cons (.var 7) (.cons (.var 5) (.cons (.cst (.int 0)) (.cons (.var 6) .nil))))) (.cst (.str [116,111,108,100])))) (.cons (.ret (.cst (.bl false))) .nil) .nil) (.cons (.asg (.nm 9) (.idx (.lst true (.cons (.cst (.str [116,111,108,100])) (.cons (.cst (.str [114,111,119])) (.cons (.cst (.str [111,114,100,101,114])) .nil)))) (.bin .Add true (.bcl .int (.cons (.cmp .Gt (.var 7) (.cst (.int 3))) .nil)) (.bcl .int (.cons (.cmp .Gt (.var 7) (.cst (.int 6))) .nil))))) (.cons (.ite (.boo false (.val (.cmp .NotEq (.call "_law_told" (.cons (.var 7) (.cons (.var 5) (.cons (.cst (.bl true)) (.cons (.slc true (.var 6) (.ob (.cst (.int 1))) .no) .nil))))) (.var 9))) (.cons (.val (.cmp .NotEq (.call "_law_told" (.cons (.var 7) (.cons (.var 5) (.cons (.bcl .len (.cons (.var 6) .nil)) (.cons (.lcl true .list (.cons (.var 6) .nil)) .nil))))) (.var 9))) .nil)) (.cons (.ret (.cst (.bl false))) .nil) .nil) .nil))))) .nil))))) (.cons (.ret (.cst (.bl true))) .nil)))
end RF
local macro_rules | `(tactic| simp_arith [$l,*] $[$c:location]?) => `(tactic| simp -implicitDefEqProofs only [↓RF.acg, ↓RF.M6, RF.M7, RF.env0, RF.ends, String.reduceBEq, $l,*] $[$c:location]?)
local macro_rules | `(tactic| simp_arith! [$l,*] $[$c:location]?) => `(tactic| simp -implicitDefEqProofs only [↓RF.M6, RF.M7, RF.env0, RF.ends, String.reduceBEq, $l,*] $[$c:location]?)
local macro_rules | `(tactic| simp_all_arith [$l,*]) => `(tactic| simp -implicitDefEqProofs only [RF.env0, RF.ends, List.map_cons, List.map_nil, List.cons_append, List.nil_append, List.replicate_succ, List.replicate_zero, $l,*])
namespace RF
open PySem L2
theorem gP{i j:Int}(h:-(2 ^ 64) < j/\j < 2 ^ 64):CMul i j:=.inr h
theorem zg{i j:Int}(h:-(2 ^ 64) < i/\i < 2 ^ 64):CMul i j:=.inl h
theorem M8{j:Int}(h:0<=j/\j<=1000):qO 10 j:=⟨h.1,by omega,by decide⟩
def u9:RF.Spec:=bB (λds _=>∃c k:Int,ds=[.int c,.int k]/\0<=k) (λ_ G d G'=>G'=G/\∃r:Int,d=.int r/\0<=r)
theorem ach(Φ:aa)(ds:List D)(G:DH)(h:∃c k:Int,ds=[.int c,.int k]/\0<=k):aq Φ yO noE (env0 ds 3) G (ends λd G'=>G'=G/\∃r:Int,d=.int r/\0<=r):=by
 obtain ⟨c,k,rfl,hk⟩:=h;simp_arith[yO];refine ⟨M8 (by decide),?_⟩;cases hc:decide (10 ^ Int.toNat 18<=c) with
 |true=>
  refine ⟨c,rfl,?_⟩;have:=dc hc;have h2:(0:Int)<=(10:Int) ^ (18:Int).toNat:=by decide
  exact Int.le_trans h2 this
 |false=>
  generalize hone:(c % 1000000007 * 69069+k * 40503+977) % 2147483629=one;have o1:0<=one:=by rw[<-hone];exact fb _ (by decide)
  have o2:one < 2147483629:=by rw[<-hone];exact eT _ (by decide)
  generalize htwo:(one * one+k * 7919+c % 65537) % 2147483587=two;have t1:0<=two:=by rw[<-htwo];exact fb _ (by decide)
  have t2:two < 2147483587:=by rw[<-htwo];exact eT _ (by decide)
  generalize hthree:(two * two+one * 31+5) % 2147483563=three;have h1:0<=three:=by rw[<-hthree];exact fb _ (by decide)
  clear hone htwo hthree;refine ⟨by decide,gP (by decide),gP (by decide),by decide,zg (by omega),gP (by decide),by decide,by decide,zg (by omega),gP (by decide),by decide,gP (by decide),gP (by decide),_,rfl,?_⟩;omega
def Pen(G:DH)(p:Addr):Prop:=∃(ns:List Int)(k st:Int),G p=some (.lst [.lst (ns.map D.int),.int k,.int st])/\0<=k/\0<=st
theorem Pen.sa{G G':DH}{p:Addr}(h:Pen G p)(s:Sa G G'):Pen G' p:=by obtain ⟨ns,k,st,e,h1⟩:=h;exact ⟨ns,k,st,s _ _ e,h1⟩
theorem Pen.ne{G:DH}{p q:Addr}(h:Pen G p)(e:G q=none):p≠q:=by obtain ⟨ns,k,st,e1,h1⟩:=h;exact wN e1 e
theorem Pen.sb{G G':DH}{p q:Addr}(h:Pen G p)(s:Sb q G G')(n:p≠q):Pen G' p:=by obtain ⟨ns,k,st,e,h1⟩:=h;exact ⟨ns,k,st,s _ _ e n,h1⟩
def vd:RF.Spec:=bB (λds G=>∃p,ds=[.ref p]/\Pen G p) (λds G d G'=>∃p,ds=[.ref p]/\d=.ref p/\Pen G' p/\Sb p G G')
theorem aci(Φ:aa)(ds:List D)(G:DH)(h:∃p,ds=[.ref p]/\Pen G p):aq Φ yN noE (env0 ds 0) G (ends λd G'=>∃p,ds=[.ref p]/\d=.ref p/\Pen G' p/\Sb p G G'):=by obtain ⟨p,rfl,ns,k,st,e,h1,h2⟩:=h;simp_arith[yN,dB e];exact ⟨p,rfl,rfl,⟨ns,k,0,bI,h1,by decide⟩,Sb.upd⟩
def dU:RF.Spec:=bB (λds G=>∃p,∃m:Int,ds=[.ref p,.int m]/\Pen G p/\0 < m/\m < 1152921504606846976) (λds G d G'=>∃p,∃m r:Int,ds=[.ref p,.int m]/\d=.int r/\0<=r/\r < m/\Pen G' p/\Sb p G G')
theorem acj (Φ:aa) (hΦ:Φ "_law_spread"=u9) (ds:List D) (G:DH) (h:∃p,∃m:Int,ds=[.ref p,.int m]/\Pen G p/\0 < m/\m < 1152921504606846976):
  aq Φ yP noE (env0 ds 3) G (ends λd G'=>∃p,∃m r:Int,ds=[.ref p,.int m]/\d=.int r/\0<=r/\r < m/\Pen G' p/\Sb p G G'):=by
 obtain ⟨p,m,rfl,⟨ns,k,st,e,h1,h2⟩,h3,h4⟩:=h;simp_all_arith[yP];refine seq λM hM=>?_;have fin:∀(ρ2 ρ3 ρ4:Option D)(G1:DH)(k1 s1:Int),0<=k1->0<=s1->G1 p=some (.lst [.lst (ns.map D.int),.int k1,.int s1])->Sb p G G1->M [some (.ref p),some (.int m),ρ2,ρ3,ρ4] G1:=by intro ρ2 ρ3 ρ4 G1 k1 s1 q1 q2 e1 sb;refine hM _ _ ?_;simp_arith[cL e1,dB e1];refine ⟨h3,⟨h3,h4⟩,p,m,_,rfl,rfl,fb _ (by omega),eT _ h3,⟨ns,k1,_,bI,q1,?_⟩,sb.trans Sb.upd⟩;exact Int.ediv_nonneg q2 (by omega)
 simp_arith[cL e,dB e,hΦ];have draw:∀c:Int,u9.t [.int c,.int k] (aW G p (.lst [.lst (ns.map D.int),.int (k+1),.int st])) (λx G1=>trk G1 p λds=>bc (ixN ds.length 2) λj=>M [some (.ref p),some (.int m),some (.int k),some (.int c),none] (aW G1 p (.lst (ds.set j x)))) noE:=by intro c;refine bR ⟨c,k,rfl,h1⟩ λd G' hx=>?_;obtain ⟨e1,r,e2,hr⟩:=hx;subst e1 e2;simp_arith[dB bI];refine fin _ _ _ _ (k+1) r (by omega) hr bI (Sb.trans Sb.upd Sb.upd)
 cases hc:decide (st < m) with
 |false=>exact fin _ _ _ _ k st h1 h2 e (Sb.refl _ _)
 |true=>
  cases hk:decide (k < ((ns.map D.int).length:Int)) with
  |true=>
   have hk:=dc hk;rw[ah]at hk;refine bH (a:=.int ns[k.toNat]) ?_ ?_
   ·obtain ⟨n,rfl⟩:=cp h1;exact bK (by simp at hk ⊢)
   ·exact draw _
  |false=>
   cases hz:decide (0 < ((ns.map D.int).length:Int)) with
   |false=>exact draw 0
   |true=>
    have hz:=dc hz;have j1:0<=(k * 5+3) % ((ns.map D.int).length:Int):=fb _ (by omega);have j2:(k * 5+3) % ((ns.map D.int).length:Int) < ((ns.map D.int).length:Int):=eT _ hz;obtain ⟨j,hj⟩:=cp j1;rw[hj]at j2;have j3:j < ns.length:=by rw[ah]at j2;omega
    refine ⟨gP (by decide),hz,bH (a:=.int ns[j]) ?_ ⟨M8 (by decide),?_⟩⟩
    ·rw[hj];exact bK (by simp[j3])
    ·simp_arith[dB e];refine ⟨?_,draw _⟩;have:(0:Int) < 10 ^ Int.toNat 17:=by decide
     omega
def ni:RF.Spec:=bB (λds G=>∃p,∃n:Nat,∃cs:List Nat,ds=[.ref p,.int n,.str cs]/\Pen G p/\n<=1000/\cs≠[]/\cs.length<=1000)
 (λds G d G'=>∃p,∃n:Nat,∃cs l:List Nat,ds=[.ref p,.int n,.str cs]/\d=.str l/\l.length=n/\(∀c∈l,c∈cs)/\Pen G' p/\Sb p G G')
theorem ack(l:List Nat):((l.map λc=>[c]).map (·.length)).sum=l.length:=by
 induction l with
 |nil=>rfl
 |cons a l ih=>simp at ih ⊢;omega
theorem acl(l:List Nat):(l.map λc=>[c]).flatten=l:=by
 induction l with
 |nil=>rfl
 |cons a l ih=>simp at ih ⊢;exact ih
theorem acn (Φ:aa) (hΦ:Φ "_law_take"=dU) (ds:List D) (G:DH) (h:∃p,∃n:Nat,∃cs:List Nat,ds=[.ref p,.int n,.str cs]/\Pen G p/\n<=1000/\cs≠[]/\cs.length<=1000):
  aq Φ yQ noE (env0 ds 0) G (ends λd G'=>∃p,∃n:Nat,∃cs l:List Nat,ds=[.ref p,.int n,.str cs]/\d=.str l/\l.length=n/\(∀c∈l,c∈cs)/\Pen G' p/\Sb p G G'):=by
 obtain ⟨p,n,cs,rfl,hp,hn,hc,hl⟩:=h;have hc1:0 < cs.length:=List.length_pos_iff.mpr hc;simp_arith[yQ,hΦ];refine ⟨by omega,CompG.inv (P:=λi acc ρ G'=>(∃o,ρ=[o,some (.str cs),some (.ref p)])/\Pen G' p/\Sb p G G'/\∃l:List Nat,acc=l.map (λc=>D.str [c])/\l.length=i/\∀c∈l,c∈cs) (h0:=⟨⟨_,rfl⟩,hp,Sb.refl _ _,[],rfl,rfl,by simp⟩) (hh:=λ_ _ _ _ _=>trivial) (hl:=by simp[aO];have hsz:sz=1000000:=rfl;omega) (hs:=?_) (he:=?_)⟩
 ·rintro i d acc ρ G' hd ⟨⟨o,rfl⟩,hp',sb,l,rfl,hl',hm⟩ kk hk;simp_arith[hΦ];refine bR ⟨p,_,rfl,hp',by omega,by omega⟩ λd' G2 hx=>?_;obtain ⟨p2,m2,r,e1,e2,r0,r1,pp2,sb2⟩:=hx;cases e1;subst e2;obtain ⟨j,rfl⟩:=cp r0;have hj:j < cs.length:=by omega
  simp_arith[ends];refine bH (a:=cs[j]) (bK (by simp[hj])) (hk _ _ _ ⟨⟨_,rfl⟩,pp2,sb.trans sb2,l++[cs[j]],by simp,by simp[hl'],?_⟩);intro c hc;rcases bb.mp hc with h |h
  ·exact hm c h
  ·rw[ba.mp h];exact ck _
 ·rintro acc ρ G' ⟨_,hp',sb,l,rfl,hl',hm⟩;simp_arith[strs_map];have hl2:l.length=n:=by rw[hl'];simp[aO]
  refine ⟨?_,p,n,cs,l,rfl,?_,hl2,hm,hp',sb⟩
  ·rw[ack];simp;have hsz:sz=1000000:=rfl;omega
  ·rw[Hj,acl]
def isF(c:Nat):Prop:=c=48\/c=49\/c=42
def zj:RF.Spec:=bB (λds G=>∃p,∃n:Nat,ds=[.ref p,.int n]/\Pen G p/\n<=1000) (λds G d G'=>∃p,∃n:Nat,∃l:List Nat,ds=[.ref p,.int n]/\d=.str l/\l.length=n/\(∀c∈l,isF c)/\Pen G' p/\Sb p G G')
theorem aco (Φ:aa) (h1:Φ "_law_take"=dU) (h2:Φ "_law_signs"=ni) (ds:List D) (G:DH) (h:∃p,∃n:Nat,ds=[.ref p,.int n]/\Pen G p/\n<=1000):
  aq Φ yS noE (env0 ds 0) G (ends λd G'=>∃p,∃n:Nat,∃l:List Nat,ds=[.ref p,.int n]/\d=.str l/\l.length=n/\(∀c∈l,isF c)/\Pen G' p/\Sb p G G'):=by
 obtain ⟨p,n,rfl,hp,hn⟩:=h;simp_arith[yS,h1,h2];refine ⟨by decide,bR ⟨p,_,rfl,hp,by decide,by decide⟩ λd' G2 ⟨p2,m2,r,e1,e2,r0,r1,pp2,sb2⟩=>?_⟩;cases e1;subst e2;obtain ⟨j,rfl⟩:=cp r0;simp_arith[ends];have:∃cs:List Nat,atI [D.str [48,49,42],D.str [48,49,42,42],D.str [48,49,42,42,42,42],D.str [48,42],D.str [48,49]] ((j:Nat):Int)=some (.str cs)/\cs≠[]/\cs.length<=1000/\∀c∈cs,isF c:=by
  have hj:j=0\/j=1\/j=2\/j=3\/j=4:=by omega
  rcases hj with rfl |rfl |rfl |rfl |rfl <;> exact ⟨_,rfl,by decide,by decide,by simp[isF]⟩
 obtain ⟨cs,e,c1,c2,c3⟩:=this;refine bH e (bR ⟨p,n,cs,rfl,pp2,hn,c1,c2⟩ λd G3 ⟨p3,n3,cs3,l,e1,e2,q1,q2,q3,q4⟩=>?_);cases e1;exact ⟨p,n,l,rfl,e2,q1,λc hc=>c3 c (q2 c hc),q3,sb2.trans q4⟩
def zm:RF.Spec:=bB (λds _=>∃ns:List Int,ds=[.scr ns]/\ns.length<=63) (λ_ G d G'=>∃p,d=.ref p/\G p=none/\Pen G' p/\Sa G G')
theorem acp(Φ:aa)(ds:List D)(G:DH)(h:∃ns:List Int,ds=[.scr ns]/\ns.length<=63):aq Φ zb noE (env0 ds 3) G (ends λd G'=>∃p,d=.ref p/\G p=none/\Pen G' p/\Sa G G'):=by
 obtain ⟨ns,rfl,hl⟩:=h;simp_all_arith[zb];refine seq λM hM=>?_;simp_arith[ends];intro c hc;refine hM _ _ ?_;refine seq λM hM=>?_;simp_arith[ends];refine ForG.inv (λi ρ G'=>∃(o2 o3:Option D)(xs:List Int),ρ=[some (.scr ns),some (.ref c),o2,o3]/\G'=aW G c (.lst (xs.map D.int))/\(12<=xs.length\/cut ns (some 12) (some 63)=[])) ⟨_,_,cut ns none (some 12),rfl,rfl,?_⟩ (λ_ _ _ _=>trivial) ?_ ?_
 ·by_cases h12:12<=ns.length
  ·left;simp[cut,HT.sIx];omega
  ·right;simp[cut,HT.sIx];omega
 ·rintro i d ρ G' hd ⟨o2,o3,xs,rfl,rfl,hx⟩ kk hk;rw[mz]at hd;obtain ⟨d',hd',e3⟩:=a7.mp hd;subst e3;rw[a9]at hd';obtain ⟨x,hx',e4⟩:=a7.mp hd';subst e4;have h12:12<=xs.length:=by
   rcases hx with h |h
   ·exact h
   ·rw[h]at hx';simp at hx'
  obtain ⟨j,hj⟩:=cp (fb ((0+i:Nat):Int) (by decide:(12:Int)≠0));have hj12:j < 12:=by have:=eT ((0+i:Nat):Int) (by decide:(0:Int) < 12);omega
  have hjx:j < xs.length:=by omega
  simp_arith[hj,cL bI,dB bI];refine ⟨by decide,bH (a:=.int xs[j]) (bK (by simp[hjx])) ?_⟩;simp_arith[hj,cL bI,dB bI,ah,Ho hjx];refine ⟨by decide,hk _ _ ⟨_,_,xs.set j (xs[j]+x),rfl,?_,by simp[h12]⟩⟩;rw[Y7,List.map_set]
 ·rintro ρ G' ⟨o2,o3,xs,rfl,rfl,hx⟩;refine hM _ _ ?_;simp_arith[bI];refine ⟨by have hsz:sz=1000000:=rfl;omega,λp hp=>⟨p,rfl,?_,⟨xs,0,0,bI,by decide,by decide⟩,?_⟩⟩
  ·rw[Dp hc]at hp;exact hp
  ·rw[Dp hc]at hp ⊢;exact Sa.new hp
def nq:RF.Spec:=bB (λds _=>∃ns:List Int,ds=[.scr ns]/\ns.length<=63) (λ_ _ d _=>d=.bl true)
def whole:D->Bool
 |.int _=>true
 |_=>false
def gQ:List D->Option D
 |[x]=>if nr x then some (.bl (whole x)) else none
 |_=>none
theorem acq(Φ:aa)(ds:List D)(G:DH)(d:D)(h:gQ ds=some d):aq Φ mG noE (env0 ds 0) G (ends λd' G'=>G'=G/\d'=d):=by
 unfold gQ at h;split at h
 ·rename_i x;split at h
  ·rename_i hx;cases h;cases x <;> first | (simp[nr]at hx;done) | (simp_arith[mG,whole];try simp)
  ·cases h
 ·cases h
def vf:D->Bool
 |.int i=>decide (1<=i)&&decide (i<=6)
 |_=>false
def nu:List D->Option D
 |[x]=>if nr x then some (.bl (vf x)) else none
 |_=>none
theorem acr (Φ:aa) (h1:Φ "is_whole"=aD gQ) (ds:List D) (G:DH) (d:D) (h:nu ds=some d):aq Φ mH noE (env0 ds 0) G (ends λd' G'=>G'=G/\d'=d):=by
 unfold nu at h;split at h
 ·rename_i x;split at h
  ·rename_i hx;cases h;have hf:gQ [x]=some (.bl (whole x)):=if_pos hx;simp_arith[mH,h1];refine bj hf ?_;cases x <;> first | (simp[nr]at hx;done) | (simp_arith[whole,vf];first | (simp;done) |skip)
   rename_i i;cases hi:decide (1<=i) with
   |true=>simp
   |false=>simp
  ·cases h
 ·cases h
noncomputable def isText(s:List Nat)(w:Int):D->Bool
 |.str l=>decide ((l.length:Int)=w)&&l.all (λc=>s.contains c)
 |_=>false
def szd:D->Bool
 |.str l=>decide (l.length<=100000)
 |_=>true
noncomputable def fText:List D->Option D
 |[.str s,.int w,x]=>if nr x&&szd x then some (.bl (isText s w x)) else none
 |_=>none
theorem all_map{l:List Nat}{f:Nat->Bool}:((l.map f).all id)=l.all f:=by
 induction l with
 |nil=>rfl
 |cons a l ih=>simp[ih]
theorem acs(Φ:aa)(ds:List D)(G:DH)(d:D)(h:fText ds=some d):aq Φ jW noE (env0 ds 0) G (ends λd' G'=>G'=G/\d'=d):=by
 unfold fText at h;split at h
 ·rename_i s w x;split at h
  ·rename_i hx;cases h;rw[ae]at hx;cases x with
   |str l=>
    have hl:l.length<=100000:=by simpa [szd] using hx.2
    simp_arith[jW,isText];by_cases hw:(l.length:Int)=w
    ·have hb:(((l.length:Int)==w):Bool)=true:=by simp[hw]
     simp_arith[hb];refine CompG.map (f:=λd=>match d with |.str [c]=>.bl (s.contains c) |_=>.non) (I:=λρ=>∃o,ρ=[o,some (.str s)]) ⟨_,rfl⟩ trivial (by simp;have hsz:sz=1000000:=rfl;omega) ?_ ?_
     ·rintro d ρ hd ⟨o,rfl⟩ kk hk;obtain ⟨c,_,rfl⟩:=cm.mp hd;simp_arith[ends];exact hk _ ⟨_,rfl⟩
     ·rw[dL];simp_arith[Function.comp_def,iI,all_map];simp only[ay hw,d5,ef]
    ·have hb:(((l.length:Int)==w):Bool)=false:=by simp[hw]
     simp_arith[hb];simp[hw]
   |ref p=>simp[nr]at hx
   |scr p=>simp[nr]at hx
   |exn p=>simp[nr]at hx
   |_=>simp_arith[jW,isText];try simp
  ·cases h
 ·cases h
noncomputable def nA:List D->Option D
 |[.int w,x]=>if nr x&&szd x then some (.bl (isText [48,49,42] w x)) else none
 |_=>none
theorem acu (Φ:aa) (h1:Φ "is_text_of"=aD fText) (ds:List D) (G:DH) (d:D) (h:nA ds=some d):aq Φ mF noE (env0 ds 0) G (ends λd' G'=>G'=G/\d'=d):=by
 unfold nA at h;split at h
 ·rename_i w x;split at h
  ·rename_i hx;cases h;simp_arith[mF,h1];exact bj (d:=.bl (isText [48,49,42] w x)) (if_pos hx) ⟨rfl,rfl⟩
  ·cases h
 ·cases h
theorem vg:∀{l:List D}{d:D},nrs l=true->d∈l->nr d=true
 |a::as,d,h,m=>by
  rw[nrs,ae]at h;rcases bn.mp m with e |m
  ·rw[e];exact h.1
  ·exact vg h.2 m
def okF(w:Nat)(l:List Nat):Prop:=l.length=w/\∀c∈l,isF c
theorem okF.app{w v:Nat}{l m:List Nat}(h:okF w l)(h':okF v m):okF (w+v) (l++m):=⟨by rw[aI,h.1,h'.1],λc hc=>(bb.mp hc).elim (h.2 c) (h'.2 c)⟩
theorem okF.one{c:Nat}(h:isF c):okF 1 [c]:=⟨rfl,λd hd=>by rw[ba.mp hd];exact h⟩
theorem cz{p:Addr}{m:Int}{G:DH}{k:D->DH->Prop}{E:EK}(hp:Pen G p)(h1:0 < m)(h2:m < 1152921504606846976)(hk:∀(r:Nat)(G':DH),(r:Int) < m->Pen G' p->Sb p G G'->k (.int r) G'):dU.t [.ref p,.int m] G k E:=by refine bR ⟨p,m,rfl,hp,h1,h2⟩ λd G' hx=>?_;obtain ⟨p2,m2,r,e1,e2,r0,r1,hp',sb⟩:=hx;cases e1;subst e2;obtain ⟨n,rfl⟩:=cp r0;exact hk n G' r1 hp' sb
theorem acv{n:Nat}(h:(n:Int) < 2):∃c,atI [48,49] (n:Int)=some c/\isF c:=by
 have:n=0\/n=1:=by omega
 rcases this with rfl |rfl
 ·exact ⟨48,rfl,.inl rfl⟩
 ·exact ⟨49,rfl,.inr (.inl rfl)⟩
theorem acw{n:Nat}(h:(n:Int) < 3):∃c,atI [48,49,42] (n:Int)=some c/\isF c:=by
 have:n=0\/n=1\/n=2:=by omega
 rcases this with rfl |rfl |rfl
 ·exact ⟨48,rfl,.inl rfl⟩
 ·exact ⟨49,rfl,.inr (.inl rfl)⟩
 ·exact ⟨42,rfl,.inr (.inr rfl)⟩
def zp(ds:List D)(G:DH):Prop:=∃p l,ds=[.ref p,.str l]/\Pen G p/\(∀c∈l,isF c)/\l.length<=1000
def zq(ds:List D)(G:DH)(d:D)(G':DH):Prop:=∃p l m,ds=[.ref p,.str l]/\d=.str m/\okF l.length m/\Pen G' p/\Sb p G G'
def jb:RF.Spec:=bB zp zq
theorem M9{p:Addr}{l:List Nat}{G:DH}{k:D->DH->Prop}{E:EK}(hp:Pen G p)(hl:∀c∈l,isF c)(h2:l.length<=1000)(hk:∀(m:List Nat)(G':DH),okF l.length m->Pen G' p->Sb p G G'->k (.str m) G'):jb.t [.ref p,.str l] G k E:=by refine bR ⟨p,l,rfl,hp,hl,h2⟩ λd G' hx=>?_;obtain ⟨p2,l2,m,e1,e2,h,hp',sb⟩:=hx;cases e1;subst e2;exact hk m G' h hp' sb
theorem acx (Φ:aa) (h1:Φ "_law_take"=dU) (ds:List D) (G:DH) (h:zp ds G):aq Φ yV noE (env0 ds 2) G (ends (zq ds G)):=by
 obtain ⟨p,l,rfl,hp,hl,hl2⟩:=h;simp_all_arith[yV];refine seq λM hM=>?_;simp_arith[ends];refine hM _ _ (seq λM hM=>?_);simp_arith![ends];refine ForG.inv (P:=λi ρ G'=>(∃o m,ρ=[some (.ref p),some (.str l),some (.str m),o]/\okF i m)/\Pen G' p/\Sb p G G') ⟨⟨_,_,rfl,rfl,by simp⟩,hp,Sb.refl _ _⟩ (λ_ _ _ _=>trivial) ?_ ?_
 ·rintro i d ρ G2 hd ⟨⟨o,m,rfl,hm⟩,hp2,sb2⟩ kk hk;rw[a9]at hd;obtain ⟨c,hc,rfl⟩:=a7.mp hd;have hi:i < l.length:=(ar.mp hc).1;have fc:=hl c (cK hc);have l1:=hm.1;simp_arith![ends];refine seq λM hM=>?_;have fin:∀(c:Nat)(G3:DH),isF c->Pen G3 p->Sb p G2 G3->M [some (.ref p),some (.str l),some (.str m),some (.str [c])] G3:=by
   intro c G3 fc hp3 sb3;refine hM _ _ (last ?_);simp_arith[ends];exact ⟨by have hsz:sz=1000000:=rfl;omega,hk _ _ ⟨⟨_,_,rfl,hm.app (okF.one fc)⟩,hp3,sb2.trans sb3⟩⟩
  simp_arith[h1];cases ht:([c]==[42]) with
  |false=>exact fin c G2 fc hp2 (Sb.refl _ _)
  |true=>
   refine cz hp2 (by decide) (by decide) λr G3 hr hp3 sb3=>?_;simp_arith[ends];cases hr0:((r:Int)==0) with
   |false=>exact fin c G3 fc hp3 sb3
   |true=>
    refine cz hp3 (by decide) (by decide) λr' G4 hr' hp4 sb4=>?_;obtain ⟨c',e,fc'⟩:=acv hr';simp_arith[e];exact fin c' G4 fc' hp4 (sb3.trans sb4)
 ·rintro ρ G2 ⟨⟨o,m,rfl,hm⟩,hp2,sb2⟩;refine hM _ _ ?_;simp_arith[ends];exact ⟨p,l,m,rfl,rfl,by simpa using hm,hp2,sb2⟩
theorem acy (Φ:aa) (h1:Φ "_law_take"=dU) (ds:List D) (G:DH) (h:zp ds G):aq Φ yU noE (env0 ds 2) G (ends (zq ds G)):=by
 obtain ⟨p,l,rfl,hp,hl,hl2⟩:=h;simp_all_arith[yU];refine seq λM hM=>?_;simp_arith[ends];refine hM _ _ (seq λM hM=>?_);simp_arith![ends];refine ForG.inv (P:=λi ρ G'=>(∃o m,ρ=[some (.ref p),some (.str l),some (.str m),o]/\okF i m)/\Pen G' p/\Sb p G G') ⟨⟨_,_,rfl,rfl,by simp⟩,hp,Sb.refl _ _⟩ (λ_ _ _ _=>trivial) ?_ ?_
 ·rintro i d ρ G2 hd ⟨⟨o,m,rfl,hm⟩,hp2,sb2⟩ kk hk;rw[a9]at hd;obtain ⟨c,hc,rfl⟩:=a7.mp hd;have hi:i < l.length:=(ar.mp hc).1;have fc:=hl c (cK hc);have l1:=hm.1;simp_arith![ends];refine seq λM hM=>?_;have fin:∀(c:Nat)(G3:DH),isF c->Pen G3 p->Sb p G2 G3->M [some (.ref p),some (.str l),some (.str m),some (.str [c])] G3:=by
   intro c G3 fc hp3 sb3;refine hM _ _ (last ?_);simp_arith[ends];exact ⟨by have hsz:sz=1000000:=rfl;omega,hk _ _ ⟨⟨_,_,rfl,hm.app (okF.one fc)⟩,hp3,sb2.trans sb3⟩⟩
  simp_arith[h1];refine cz hp2 (by decide) (by decide) λr G3 hr hp3 sb3=>?_;simp_arith[ends];cases hr0:((r:Int)==0) with
  |false=>exact fin c G3 fc hp3 sb3
  |true=>exact fin 42 G3 (.inr (.inr rfl)) hp3 sb3
 ·rintro ρ G2 ⟨⟨o,m,rfl,hm⟩,hp2,sb2⟩;refine hM _ _ ?_;simp_arith[ends];exact ⟨p,l,m,rfl,rfl,by simpa using hm,hp2,sb2⟩
theorem Nb{G G':DH}{p:Addr}{x:D}{fs:List (List Nat)}(hv:view G x=.lst (fs.map D.str))(hp:Pen G p)(sb:Sb p G G'):view G' x=.lst (fs.map D.str):=by
 cases x with
 |ref q=>
  unfold view at hv;dsimp only at hv;cases g:G q with
  |none=>rw[g]at hv;cases hv
  |some o=>
   cases o with
   |lst ds=>
    rw[g]at hv;have e:ds=fs.map D.str:=by simpa using hv
    have hn:q≠p:=by
     rintro rfl;obtain ⟨ns,k,st,e1,_⟩:=hp;rw[g,e]at e1;cases fs with
     |nil=>simp at e1
     |cons a r=>simp at e1
    rw[cL (sb q _ g hn),e]
 |lst l=>exact hv
 |_=>cases hv
def Nf(ds:List D)(G:DH):Prop:=∃p,∃w:Nat,∃x,∃fs:List (List Nat),ds=[.ref p,.int w,x]/\Pen G p/\0 < w/\w<=1000/\view G x=.lst (fs.map D.str)/\fs.length<=1000/\∀f∈fs,okF w f
def zr(ds:List D)(G:DH)(d:D)(G':DH):Prop:=∃p,∃w:Nat,∃x m,ds=[.ref p,.int w,x]/\d=.str m/\okF w m/\Pen G' p/\Sb p G G'
def vh:RF.Spec:=bB Nf zr
theorem acz{p:Addr}{w:Nat}{x:D}{fs:List (List Nat)}{G:DH}{k:D->DH->Prop}{E:EK}(hp:Pen G p)(h1:0 < w)(h2:w<=1000)(hv:view G x=.lst (fs.map D.str))(h3:fs.length<=1000)(h4:∀f∈fs,okF w f)
  (hk:∀(m:List Nat)(G':DH),okF w m->Pen G' p->Sb p G G'->k (.str m) G'):vh.t [.ref p,.int w,x] G k E:=by
 refine bR ⟨p,w,x,fs,rfl,hp,h1,h2,hv,h3,h4⟩ λd G' hx=>?_;obtain ⟨p2,w2,x2,m,e1,e2,h,hp',sb⟩:=hx;simp only[da,D.ref.injEq,D.int.injEq,Int.ofNat_inj,eK]at e1;obtain ⟨rfl,rfl,rfl⟩:=e1;subst e2;exact hk m G' h hp' sb
theorem acA(fs:List (List Nat)):nrs (fs.map D.str)=true:=by
 induction fs with
 |nil=>rfl
 |cons a l ih=>rw[b6,nrs,ih];rfl
theorem acB(fs:List (List Nat)):bf (fs.map D.str)=0:=by
 induction fs with
 |nil=>rfl
 |cons a l ih=>rw[b6,bf,ih];rfl
theorem acC{w n:Nat}{l:List Nat}{c:Nat}(h:okF w l)(hn:n < w)(fc:isF c):okF w (cut l none (some (n:Int))++[c]++cut l (some ((n:Int)+1)) none):=by
 have h1:=h.1;rw[uX,uY];refine ⟨?_,λd hd=>?_⟩
 ·simp;omega
 ·rcases bb.mp hd with hd |hd
  ·rcases bb.mp hd with hd |hd
   ·exact h.2 d (List.mem_of_mem_take hd)
   ·rw[ba.mp hd];exact fc
  ·exact h.2 d (fh hd)
theorem acD (Φ:aa) (h1:Φ "_law_take"=dU) (h2:Φ "_law_form"=zj) (h3:Φ "_law_within"=jb) (h4:Φ "_law_wider"=jb) (ds:List D) (G:DH) (h:Nf ds G):aq Φ yW noE (env0 ds 3) G (ends (zr ds G)):=by
 obtain ⟨p,w,x,fs,rfl,hp,w1,w2,hv,hf,hfs⟩:=h;simp_all_arith[yW];refine seq λM hM=>?_;simp_arith[h1];refine cz hp (by decide) (by decide) λkd G2 hkd hp2 sb2=>?_;have hv2:=Nb hv hp sb2;refine hM _ _ (seq λM hM=>?_);have drawn:∀(ρ:ak) (G3:DH),Pen G3 p->Sb p G G3->aq Φ (.cons (.ret (.call "_law_form" (.cons (.var 0) (.cons (.var 1) .nil)))) .nil) noE (some (.ref p)::some (.int w)::ρ) G3 { nx:=M,rt:=zr [.ref p,.int w,x] G,bk:=λ_ _=>False,ct:=λ_ _=>False }:=by intro ρ G3 hp3 sb3;simp_arith[h2];refine bR ⟨p,w,rfl,hp3,w2⟩ λd G4 hx=>?_;obtain ⟨p4,n4,l,e1,e2,l1,l2,hp4,sb4⟩:=hx;simp only[da,D.ref.injEq,D.int.injEq,Int.ofNat_inj,eK]at e1;obtain ⟨rfl,rfl⟩:=e1;exact ⟨p,w,x,l,rfl,e2,⟨l1,l2⟩,hp4,sb3.trans sb4⟩
 simp_arith![hv2,ab7,acB,acA];refine ⟨by decide,?_⟩;cases he:(fs.map D.str).isEmpty with
 |true=>exact drawn _ _ hp2 sb2
 |false=>
  have hlen:0 < fs.length:=by
   cases fs with
   |nil=>simp at he
   |cons a r=>simp
  simp_arith![ends];cases hk2:decide ((kd:Int) < 2) with
  |true=>exact drawn _ _ hp2 sb2
  |false=>
   simp_arith[ends];refine hM _ _ (seq λM hM=>?_);simp_arith[h1,hv2,ah];refine cz hp2 (by omega) (by omega) λr G3 hr hp3 sb3=>?_;have hv3:=Nb hv2 hp2 sb3;simp_arith[hv3];have hr':r < fs.length:=by omega
   refine bH (a:=.str fs[r]) (bK (by simp[hr'])) ?_;have fok:=hfs fs[r] (ck _);generalize fs[r]=f at fok;refine hM _ _ (seq λM hM=>?_);have sb':=sb2.trans sb3;simp_arith[ends];cases hk3:((kd:Int)==2) with
   |true=>exact ⟨p,w,x,f,rfl,rfl,fok,hp3,sb'⟩
   |false=>
    refine hM _ _ (seq λM hM=>?_);simp_arith![ends];cases hk5:decide ((kd:Int) < 5) with
    |true=>
     simp_arith[h1];refine cz hp3 (by omega) (by omega) λat' G4 hat hp4 sb4=>?_;refine cz hp4 (by decide) (by decide) λs G5 hs hp5 sb5=>?_;obtain ⟨c,e,fc⟩:=acw hs;have c1:=yH f none (some (at':Int));have c2:=yH f (some ((at':Int)+1)) none;have f1:=fok.1;simp_arith[e,aI];exact ⟨by have hsz:sz=1000000:=rfl;omega,by have hsz:sz=1000000:=rfl;omega,p,w,x,_,rfl,rfl,acC fok (by omega) fc,hp5,sb'.trans (sb4.trans sb5)⟩
    |false=>
     simp_arith[ends];refine hM _ _ (seq λM hM=>?_);have f1:=fok.1;simp_arith[h3];cases hk6:((kd:Int)==5) with
     |true=>
      refine M9 hp3 fok.2 (by omega) λm G4 hm hp4 sb4=>?_;rw[f1]at hm;exact ⟨p,w,x,m,rfl,rfl,hm,hp4,sb'.trans sb4⟩
     |false=>
      refine hM _ _ ?_;simp_arith[h4];refine M9 hp3 fok.2 (by omega) λm G4 hm hp4 sb4=>?_;rw[f1]at hm;exact ⟨p,w,x,m,rfl,rfl,hm,hp4,sb'.trans sb4⟩
def okD(l:List Nat):Prop:=1<=l.length/\l.length<=8/\∀c∈l,97<=c/\c<=122
theorem acE{p:Addr}{n:Nat}{cs:List Nat}{G:DH}{k:D->DH->Prop}{E:EK}(hp:Pen G p)(hn:n<=1000)(h1:cs≠[])(h2:cs.length<=1000)(hk:∀(l:List Nat)(G':DH),l.length=n->(∀c∈l,c∈cs)->Pen G' p->Sb p G G'->k (.str l) G'):ni.t [.ref p,.int n,.str cs] G k E:=by refine bR ⟨p,n,cs,rfl,hp,hn,h1,h2⟩ λd G' hx=>?_;obtain ⟨p2,n2,cs2,l,e1,e2,l1,l2,hp',sb⟩:=hx;simp only[da,D.ref.injEq,D.int.injEq,D.str.injEq,Int.ofNat_inj,eK]at e1;obtain ⟨rfl,rfl,rfl⟩:=e1;subst e2;exact hk l G' l1 l2 hp' sb
def Ng(ds:List D)(G:DH):Prop:=∃p,∃m:Int,ds=[.ref p,.int m]/\Pen G p/\0 < m/\m<=100
def Nh(ds:List D)(G:DH)(d:D)(G':DH):Prop:=∃p,∃m:Int,∃xs:List (List Nat),ds=[.ref p,.int m]/\d=.lst (xs.map D.str)/\0 < xs.length/\xs.length<=100/\(∀x∈xs,okD x)/\Pen G' p/\Sb p G G'
def vm:RF.Spec:=bB Ng Nh
noncomputable def zu:List (List Nat):=[[97],[103,111],[115,116,97,121],[97,98,99,100,101,102,103,104],[110,111,110,101],[121,101,115],[105,110],[111,117,116],[107,101,101,112],[119,111,114,100],[122,122]]
theorem acF:∀x∈zu,okD x:=by
 have h:∀x∈zu,1<=x.length/\x.length<=8/\∀c∈x,97<=c/\c<=122:=by decide
 exact h
theorem Ni{c:Nat}(h:c∈[97,98,99,100,101,102,103,104,105,106,107,108,109,110,111,112,113,114,115,116,117,118,119,120,121,122]):97<=c/\c<=122:=by
 have:∀c∈[97,98,99,100,101,102,103,104,105,106,107,108,109,110,111,112,113,114,115,116,117,118,119,120,121,122],97<=c/\c<=122:=by decide
 exact this c h
theorem acG (Φ:aa) (h1:Φ "_law_take"=dU) (h2:Φ "_law_signs"=ni) (ds:List D) (G:DH) (h:Ng ds G):aq Φ yR noE (env0 ds 4) G (ends (Nh ds G)):=by
 obtain ⟨p,m,rfl,hp,m1,m2⟩:=h;simp_all_arith[yR];refine seq λM hM=>?_;simp_arith[ends];refine ⟨by decide,hM _ _ ?_⟩;refine (λtail=>tail zu rfl acF) (?_:∀xs:List (List Nat),xs.length=11->(∀x∈xs,okD x)->aq Φ _ noE [some (.ref p),some (.int m),some (.lst (xs.map D.str)),none,none,none] G _);intro xs x1 x2;refine seq λM hM=>?_;simp_arith[h1];refine cz hp (by decide) (by decide) λt G2 ht hp2 sb2=>?_;refine hM _ _ (seq λM hM=>?_);simp_arith[h1];refine cz hp2 (by omega) (by omega) λr G3 hr hp3 sb3=>?_;simp_arith[ends];refine ⟨by omega,?_⟩;refine CompG.inv (P:=λi acc ρ G'=>(∃o,ρ=[o,some (.lst (xs.map D.str)),some (.int t)])/\G'=G3/\∃ys:List (List Nat),acc=ys.map D.str/\ys.length=i/\∀y∈ys,okD y) ⟨⟨_,rfl⟩,rfl,[],rfl,rfl,by simp⟩ (λ_ _ _ _ _=>trivial) (by simp[aO];have hsz:sz=1000000:=rfl;omega) ?_ ?_
 ·rintro i d acc ρ G' hd ⟨⟨o,rfl⟩,rfl,ys,rfl,y1,y2⟩ kk hk;unfold aO at hd;rw[a9]at hd;obtain ⟨j,hj,rfl⟩:=a7.mp hd;simp_arith[ends];have q0:0<=((t:Int)+3 * (0+(j:Int))) % 11:=fb _ (by decide);have q1:((t:Int)+3 * (0+(j:Int))) % 11 < 11:=eT _ (by decide);refine ⟨zg (by decide),by decide,uZ q0 (by rw[ah,x1];exact q1) λa ha=>?_⟩;obtain ⟨x,hx,rfl⟩:=cm.mp ha;refine hk _ _ _ ⟨⟨_,rfl⟩,rfl,ys++[x],by simp,by simp[y1],λy hy=>?_⟩;rcases bb.mp hy with h |h
  ·exact y2 y h
  ·rw[ba.mp h];exact x2 x hx
 ·rintro acc ρ G' ⟨_,rfl,ys,rfl,y1,y2⟩;have hy:ys.length=r+1:=by rw[y1];simp[aO];omega
  refine hM _ _ (seq λM hM=>?_);simp_arith[h1];refine cz hp3 (by decide) (by decide) λq G4 hq hp4 sb4=>?_;have sb':=sb2.trans (sb3.trans sb4);simp_arith[ends];cases hq0:((q:Int)==0) with
  |false=>
   refine hM _ _ ?_;simp_arith[ends];exact ⟨p,m,ys,rfl,rfl,by omega,by omega,y2,hp4,sb'⟩
  |true=>
   simp_arith[ends];refine CompG.inv (P:=λi acc ρ G'=>(∃o,ρ=[o,some (.ref p),some (.str [97,98,99,100,101,102,103,104,105,106,107,108,109,110,111,112,113,114,115,116,117,118,119,120,121,122])])/\Pen G' p/\Sb p G G'/\∃zs:List (List Nat),acc=zs.map D.str/\zs.length=i/\∀z∈zs,okD z) ⟨⟨_,rfl⟩,hp4,sb',[],rfl,rfl,by simp⟩ (λ_ _ _ _ _=>trivial) (by simp;have hsz:sz=1000000:=rfl;omega) ?_ ?_
   ·rintro i d acc ρ G' hd ⟨⟨o,rfl⟩,hp5,sb5,zs,rfl,z1,z2⟩ kk hk;simp_arith[h1,h2];refine cz hp5 (by decide) (by decide) λn G6 hn hp6 sb6=>?_;simp_arith[ends];rw[show (1:Int)+(n:Int)=((n+1:Nat):Int) by omega];refine acE hp6 (by omega) (by simp) (by simp) λl G7 l1 l2 hp7 sb7=>?_;refine hk _ _ _ ⟨⟨_,rfl⟩,hp7,sb5.trans (sb6.trans sb7),zs++[l],by simp,by simp[z1],λz hz=>?_⟩;rcases bb.mp hz with h |h
    ·exact z2 z h
    ·rw[ba.mp h];exact ⟨by omega,by omega,λc hc=>Ni (l2 c hc)⟩
   ·rintro acc ρ G' ⟨_,hp5,sb5,zs,rfl,z1,z2⟩;rw[ah]at z1;refine hM _ _ ?_;simp_arith[ends];exact ⟨p,m,zs,rfl,rfl,by omega,by omega,z2,hp5,sb5⟩
abbrev Row:=List Nat×List Nat
def aA(r:Row):D:=.tup [.str r.1,.str r.2]
def au(w:Nat)(rs:List Row):D:=.tup [.int w,.tup (rs.map aA)]
structure okB(w:Nat)(rs:List Row):Prop where
 w1:1<=w
 w6:w<=6
 len:rs.length<=12
 form:∀r∈rs,okF w r.1
 deed:∀r∈rs,okD r.2
def Nj(ds:List D)(G:DH):Prop:=∃p,∃w m:Nat,ds=[.ref p,.int w,.int m]/\Pen G p/\1<=w/\w<=6/\m<=12
def Nk(ds:List D)(G:DH)(d:D)(G':DH):Prop:=∃p,∃w m v:Nat,∃rs:List Row,ds=[.ref p,.int w,.int m]/\d=au v rs/\okB v rs/\v<=w/\rs.length<=m/\Pen G' p/\Sb p G G'
def vo:RF.Spec:=bB Nj Nk
theorem acH{p:Addr}{w m:Nat}{G:DH}{k:D->DH->Prop}{E:EK}(hp:Pen G p)(h1:1<=w)(h2:w<=6)(h3:m<=12)(hk:∀(v:Nat)(rs:List Row)(G':DH),okB v rs->v<=w->rs.length<=m->Pen G' p->Sb p G G'->k (au v rs) G'):vo.t [.ref p,.int w,.int m] G k E:=by refine bR ⟨p,w,m,rfl,hp,h1,h2,h3⟩ λd G' hx=>?_;obtain ⟨p2,w2,m2,v,rs,e1,e2,o,q1,q2,hp',sb⟩:=hx;simp only[da,D.ref.injEq,D.int.injEq,Int.ofNat_inj,eK]at e1;obtain ⟨rfl,rfl,rfl⟩:=e1;subst e2;exact hk v rs G' o q1 q2 hp' sb
theorem acI{p:Addr}{m:Int}{G:DH}{k:D->DH->Prop}{E:EK}(hp:Pen G p)(h1:0 < m)(h2:m<=100)(hk:∀(xs:List (List Nat))(G':DH),0 < xs.length->xs.length<=100->(∀x∈xs,okD x)->Pen G' p->Sb p G G'->k (.lst (xs.map D.str)) G'):vm.t [.ref p,.int m] G k E:=by refine bR ⟨p,m,rfl,hp,h1,h2⟩ λd G' hx=>?_;obtain ⟨p2,m2,xs,e1,e2,q1,q2,q3,hp',sb⟩:=hx;cases e1;subst e2;exact hk xs G' q1 q2 q3 hp' sb
theorem BK{α:Type}{l:List α}{a:α}:atI (l++[a]) (-1)=some a:=by unfold atI ixN;rw[if_neg (by decide),if_pos (by simp;omega),aI,List.length_singleton,show (-1+((l.length+1:Nat):Int)).toNat=l.length by omega];simp
theorem acJ (Φ:aa) (h1:Φ "_law_take"=dU) (h2:Φ "_law_deeds_of"=vm) (h3:Φ "_law_form_like"=vh) (ds:List D) (G:DH) (h:Nj ds G):aq Φ yX noE (env0 ds 5) G (ends (Nk ds G)):=by
 obtain ⟨p,w,m,rfl,hp,w1,w2,m1⟩:=h;simp_all_arith[yX];refine seq λM hM=>?_;simp_arith[h1];refine cz hp (by omega) (by omega) λn G2 hn hp2 sb2=>?_;simp_arith[ends];rw[show (1:Int)+(n:Int)=((n+1:Nat):Int) by omega];refine hM _ _ (seq λM hM=>?_);simp_arith[h2];refine acI hp2 (by decide) (by decide) λxs G3 x1 x2 x3 hp3 sb3=>?_;refine hM _ _ (seq λM hM=>?_);simp_arith[ends];refine λq hq=>hM _ _ (seq λM hM=>?_);simp_arith[ends];refine λs hs=>hM _ _ (seq λM hM=>?_);have hqs:q≠s:=by rintro rfl;rw[bI]at hs;cases hs
 have hs3:G3 s=none:=by rw[dH (Ne.symm hqs)]at hs;exact hs
 have npq:p≠q:=hp3.ne hq;have nps:p≠s:=hp3.ne hs3;have sa4:Sa G3 (aW (aW G3 q (.lst [])) s (.lst [])):=(Sa.new hq).trans (Sa.new hs);have hp4:=hp3.sa sa4;simp_arith![h1];refine cz hp4 (by omega) (by omega) λr G5 hr hp5 sb5=>?_;simp_arith![ends];refine ⟨by omega,?_⟩;refine ForG.inv (P:=λi ρ G'=>(∃o,ρ=[some (.ref p),some (.int w),some (.int m),some (.int ((n+1:Nat):Int)),some (.lst (xs.map D.str)),some (.ref q),some (.ref s),o])/\Pen G' p/\Sb p G G'/\
   ∃rs:List Row,G' q=some (.lst ((rs.map (·.1)).map D.str))/\G' s=some (.lst (rs.map aA))/\rs.length=i/\(∀r∈rs,okF (n+1) r.1)/\∀r∈rs,okD r.2) ⟨⟨_,rfl⟩,hp5,sb2.trans (sb3.trans (sa4.sb.trans sb5)),[],?_,?_,rfl,by simp,by simp⟩ (λ_ _ _ _=>trivial) ?_ ?_
 ·exact sb5 q _ (by rw[dH hqs];exact bI) (Ne.symm npq)
 ·exact sb5 s _ bI (Ne.symm nps)
 ·rintro i d ρ G' hd ⟨⟨o,rfl⟩,hp6,sb6,rs,g1,g2,r1,r2,r3⟩ kk hk;have hi:i < r:=by
   have:=(ar.mp hd).1;simpa [aO] using this
  simp_arith![ends];refine seq λM hM=>?_;simp_arith[h3,dB g1];refine acz (fs:=rs.map (·.1)) hp6 (by omega) (by omega) (cL g1) (by simp;omega) (λf hf=>?_) λf G7 hf hp7 sb7=>?_
  ·obtain ⟨r',hr',rfl⟩:=cm.mp hf;exact r2 r' hr'
  have g1':=sb7 q _ g1 (Ne.symm npq);have g2':=sb7 s _ g2 (Ne.symm nps);simp_arith[dB g1'];refine ⟨by simp;have hsz:sz=1000000:=rfl;omega,hM _ _ (last ?_)⟩;have e2:aW G7 q (.lst ((rs.map (·.1)).map D.str++[.str f])) s=some (.lst (rs.map aA)):=by rw[dH (Ne.symm hqs)];exact g2'
  have hp8:Pen (aW G7 q (.lst ((rs.map (·.1)).map D.str++[.str f]))) p:=hp7.sb Sb.upd npq;simp_arith[h1,dB e2,cL bI,BK,ah];refine cz hp8 (by omega) (by omega) λt G9 ht hp9 sb9=>?_;have e1':=sb9 q _ bI (Ne.symm npq);have e2':=sb9 s _ e2 (Ne.symm nps);simp_arith[dB e2'];refine uZ (by omega) (by simp;omega) λx hx=>?_;obtain ⟨dd,hdd,rfl⟩:=cm.mp hx;refine ⟨by decide,by simp;have hsz:sz=1000000:=rfl;omega,hk _ _ ⟨⟨_,rfl⟩,hp9.sb Sb.upd nps,?_,rs++[(f,dd)],?_,?_,by simp[r1],?_,?_⟩⟩
  ·intro b ob hb nb;by_cases hbs:b=s
   ·subst hbs;exfalso;have z:=sb2 b _ hb nb;have z:=sb3 b _ z nb;rw[hs3]at z;cases z
   ·by_cases hbq:b=q
    ·subst hbq;exfalso;have z:=sb2 b _ hb nb;have z:=sb3 b _ z nb;rw[hq]at z;cases z
    ·rw[dH hbs];exact sb9 b _ (by rw[dH hbq];exact sb7 b _ (sb6 b _ hb nb) nb) nb
  ·rw[dH hqs,e1'];simp
  ·rw[bI];simp[aA]
  ·intro r' hr';rcases bb.mp hr' with h |h
   ·exact r2 r' h
   ·rw[ba.mp h];exact hf
  ·intro r' hr';rcases bb.mp hr' with h |h
   ·exact r3 r' h
   ·rw[ba.mp h];exact x3 dd hdd
 ·rintro ρ G' ⟨⟨o,rfl⟩,hp6,sb6,rs,g1,g2,r1,r2,r3⟩;have hl:rs.length=r:=by rw[r1];simp[aO]
  refine hM _ _ ?_;simp_arith[cL g2];exact ⟨by decide,p,w,m,n+1,rs,rfl,rfl,⟨by omega,by omega,by omega,r2,r3⟩,by omega,by omega,hp6,sb6⟩
def alt(c:Nat):List Nat:=if c=42 then [48,49] else [c]
def step1(acc:List (List Nat))(c:Nat):List (List Nat):=acc.flatMap λt=>(alt c).map λs=>t++[s]
def cX(f:List Nat):List (List Nat):=f.foldl step1 [[]]
def Fits(f w:List Nat):Prop:=f.length=w.length/\∀(i c s:Nat),f[i]?=some c->w[i]?=some s->s∈alt c
theorem acK(f:List Nat)(c:Nat):cX (f++[c])=step1 (cX f) c:=by unfold cX;rw[List.foldl_append];rfl
theorem acL{acc:List (List Nat)}{c:Nat}{w:List Nat}:w∈step1 acc c↔∃t s,t∈acc/\s∈alt c/\w=t++[s]:=by
 unfold step1;rw[List.mem_flatMap];constructor
 ·rintro ⟨t,ht,h⟩;obtain ⟨s,hs,rfl⟩:=cm.mp h;exact ⟨t,s,ht,hs,rfl⟩
 ·rintro ⟨t,s,ht,hs,rfl⟩;exact ⟨t,ht,cm.mpr ⟨s,hs,rfl⟩⟩
theorem zx{f w:List Nat}{c s:Nat}:Fits (f++[c]) (w++[s])↔Fits f w/\s∈alt c:=by
 constructor
 ·rintro ⟨h1,h2⟩;have hl:f.length=w.length:=by simpa using h1
  refine ⟨⟨hl,λi c' s' hc hs=>?_⟩,?_⟩
  ·have i1:=(ar.mp hc).1;exact h2 i c' s' (by rw[eD i1];exact hc) (by rw[eD (by omega)];exact hs)
  ·exact h2 f.length c s (by simp) (by rw[hl];simp)
 ·rintro ⟨⟨h1,h2⟩,h3⟩;refine ⟨by simp[h1],λi c' s' hc hs=>?_⟩;by_cases hi:i < f.length
  ·rw[eD hi]at hc;rw[eD (by omega)]at hs;exact h2 i c' s' hc hs
  ·have i2:=(ar.mp hc).1;simp at i2;have e:i=f.length:=by omega
   subst e;simp at hc;rw[h1]at hs;simp at hs;subst hc hs;exact h3
theorem nF{f w:List Nat}:w∈cX f↔Fits f w:=by
 induction f using ab8 generalizing w with
 |nil=>
  simp[cX,Fits];constructor
  ·rintro rfl;simp
  ·intro h;exact df.mp h.symm
 |snoc f c ih=>
  rw[acK,acL];constructor
  ·rintro ⟨t,s,ht,hs,rfl⟩;exact zx.mpr ⟨ih.mp ht,hs⟩
  ·intro h;have hl:=h.1;simp at hl;have hne:w≠[]:=by rintro rfl;simp at hl
   refine ⟨w.dropLast,w.getLast hne,?_,?_,(e9 hne).symm⟩
   ·rw[<-e9 hne]at h;exact ih.mpr (zx.mp h).1
   ·rw[<-e9 hne]at h;exact (zx.mp h).2
def orX(S:RF.Spec)(P:List D->String->Prop):RF.Spec where
 A:=S.A ⊕ (String×DH)
 pre:=λds G a=>match a with |.inl a=>S.pre ds G a |.inr c=>c.2=G/\P ds c.1
 post:=λa d G'=>match a with |.inl a=>S.post a d G' |.inr _=>False
 exc:=λa x G'=>match a with |.inl a=>S.exc a x G' |.inr c=>x=⟨c.1,.non⟩/\G'=c.2
theorem dW{S:RF.Spec}{P:List D->String->Prop}{ds:List D}{G:DH}{k:D->DH->Prop}{E:EK}(h:S.t ds G k E):(orX S P).t ds G k E:=by obtain ⟨a,h1,h2,h3⟩:=h;exact ⟨.inl a,h1,h2,h3⟩
theorem bY{S:RF.Spec}{P:List D->String->Prop}{ds:List D}{G:DH}{k:D->DH->Prop}{E:EK}{C:String}(h:P ds C)(hE:E ⟨C,.non⟩ G):(orX S P).t ds G k E:=
 ⟨.inr (C,G),⟨rfl,h⟩,λ_ _ q=>q.elim,λx G' ⟨e1,e2⟩=>by subst e1 e2;exact hE⟩
theorem dX{Φ:aa}{body:Sxs}{m n:Nat}{S:RF.Spec}{P:List D->String->Prop}(hS:S.exc=λ_ _ _=>False)(h1:∀ds G a,ds.length=n->S.pre ds G a->aq Φ body noE (env0 ds m) G (ends (S.post a)))
  (h2:∀ds G C,P ds C->aq Φ body (λx G'=>x=⟨C,.non⟩/\G'=G) (env0 ds m) G (ends λ_ _=>False)):∀ds G a,ds.length=n->(orX S P).pre ds G a->aq Φ body ((orX S P).exc a) (env0 ds m) G (ends ((orX S P).post a)):=by
 rintro ds G (a |c) hl h
 ·have e:(orX S P).exc (.inl a)=noE:=by show S.exc a=noE;rw[hS];rfl
  rw[e];exact h1 ds G a hl h
 ·obtain ⟨e,hp⟩:=h;subst e;exact h2 ds c.2 c.1 hp
mutual
noncomputable def szA:D->Bool
 |.str l=>decide (l.length<=100000)
 |.tup l=>decide (l.length<=100000)&&aV l
 |.lst l=>decide (l.length<=100000)&&aV l
 |_=>true
noncomputable def aV:List D->Bool
 |[]=>true
 |a::as=>szA a&&aV as
end
theorem Nm{x:D}(h:szA x=true):szd x=true:=by cases x <;> first |rfl | (rw[szA]at h;exact h)
theorem vp:∀{l:List D}{d:D},aV l=true->d∈l->szA d=true
 |a::as,d,h,m=>by
  rw[aV,ae]at h;rcases bn.mp m with e |m
  ·rw[e];exact h.1
  ·exact vp h.2 m
theorem vq:∀{l:List D},(∀d∈l,szA d=true)->aV l=true
 |[],_=>rfl
 |a::l,h=>by rw[aV,h a bS,vq λd hd=>h d (b9 _ hd)];rfl
noncomputable def letters:List Nat:=[97,98,99,100,101,102,103,104,105,106,107,108,109,110,111,112,113,114,115,116,117,118,119,120,121,122]
theorem acM:∀c:Fin 123,97<=c.1->letters.contains c.1=true:=by decide
theorem acN{c:Nat}:letters.contains c=true↔97<=c/\c<=122:=
 ⟨λh=>Ni (aE.mp h),λ⟨h1,h2⟩=>acM ⟨c,Nat.lt_succ_of_le h2⟩ h1⟩
noncomputable def fM:D->Bool
 |.str l=>decide (1<=l.length)&&decide (l.length<=8)&&l.all (λc=>letters.contains c)
 |_=>false
def nG:List D->Option D
 |[x]=>if nr x&&szd x then some (.bl (fM x)) else none
 |_=>none
theorem acO(Φ:aa)(ds:List D)(G:DH)(d:D)(h:nG ds=some d):aq Φ jV noE (env0 ds 0) G (ends λd' G'=>G'=G/\d'=d):=by
 unfold nG at h;split at h
 ·rename_i x;split at h
  ·rename_i hx;cases h;rw[ae]at hx;cases x with
   |str l=>
    have hl:l.length<=100000:=by simpa [szd] using hx.2
    simp_arith[jV,fM];by_cases hw:1<=l.length
    ·have hb:decide ((1:Int)<=(l.length:Int))=true:=ay (by omega);simp_arith[hb];by_cases hw8:l.length<=8
     ·have hb8:decide ((l.length:Int)<=8)=true:=ay (by omega);simp_arith[hb8];refine CompG.map (f:=λd=>match d with |.str [c]=>.bl (letters.contains c) |_=>.non) (I:=λρ=>∃o,ρ=[o]) ⟨_,rfl⟩ trivial (by simp;have hsz:sz=1000000:=rfl;omega) ?_ ?_
      ·rintro d ρ hd ⟨o,rfl⟩ kk hk;obtain ⟨c,_,rfl⟩:=cm.mp hd;simp_arith[ends];exact hk _ ⟨_,rfl⟩
      ·rw[dL];simp_arith[Function.comp_def,iI,all_map];simp only[ay hw,ay hw8,d5,ef]
     ·have hb8:decide ((l.length:Int)<=8)=false:=bv (by omega);simp_arith[hb8];simp only[bv hw8,db,dy]
    ·have hb:decide ((1:Int)<=(l.length:Int))=false:=bv (by omega);simp_arith[hb];simp only[bv hw,dy]
   |ref p=>simp[nr]at hx
   |scr p=>simp[nr]at hx
   |exn p=>simp[nr]at hx
   |_=>simp_arith[jV,fM];try simp
  ·cases h
 ·cases h
def cM(w:Int):D->Bool
 |.tup [a,b]=>isText [48,49,42] w a&&fM b
 |_=>false
def nH:List D->Option D
 |[.int w,x]=>if nr x&&szA x then some (.bl (cM w x)) else none
 |_=>none
theorem acP (Φ:aa) (h1:Φ "is_form"=aD nA) (h2:Φ "is_deed"=aD nG) (ds:List D) (G:DH) (d:D) (h:nH ds=some d):aq Φ gk noE (env0 ds 0) G (ends λd' G'=>G'=G/\d'=d):=by
 unfold nH at h;split at h
 ·rename_i w x;split at h
  ·rename_i hx;cases h;rw[ae]at hx;cases x with
   |tup l=>
    match l,hx with
    |[],_=>simp_arith[gk,cM];try simp
    |[a],_=>simp_arith[gk,cM];try simp
    |[a,b],hx=>
     simp only[nr,nrs,szA,aV,cb,ae]at hx;obtain ⟨⟨n1,n2⟩,_,s1,s2⟩:=hx;have g1:(nr a&&szd a)=true:=by rw[n1,Nm s1];rfl
     have g2:(nr b&&szd b)=true:=by rw[n2,Nm s2];rfl
     simp_arith[gk,h1,h2];simp_arith[show ((0+1+1:Nat):Int)=2 from rfl,BEq.rfl];refine bj (if_pos g1) ?_;simp_arith[ends];cases ht:isText [48,49,42] w a with
     |false=>simp[cM,ht]
     |true=>
      refine bj (if_pos g2) ?_;simp_arith[ends];simp[cM,ht]
    |a::b::c::r,_=>
     have hb:((((r.length+1+1+1:Nat):Int)==2):Bool)=false:=by rw[bP];omega
     simp_arith[gk,cM,hb]
   |ref p=>simp[nr]at hx
   |scr p=>simp[nr]at hx
   |exn p=>simp[nr]at hx
   |_=>simp_arith[gk,cM];try simp
  ·cases h
 ·cases h
noncomputable def dC:D->Bool
 |.tup [.int w,.tup rows]=>decide (1<=w)&&decide (w<=6)&&decide (rows.length<=12)&&rows.all (cM w)
 |_=>false
def jZ:List D->Option D
 |[x]=>if nr x&&szA x then some (.bl (dC x)) else none
 |_=>none
theorem acQ (Φ:aa) (h1:Φ "is_width"=aD nu) (h2:Φ "is_row"=aD nH) (ds:List D) (G:DH) (d:D) (h:jZ ds=some d):aq Φ gm noE (env0 ds 2) G (ends λd' G'=>G'=G/\d'=d):=by
 unfold jZ at h;split at h
 ·rename_i x;split at h
  ·rename_i hx;cases h;rw[ae]at hx;cases x with
   |tup l=>
    match l,hx with
    |[],_=>simp_arith[gm,dC];try simp
    |[a],_=>simp_arith[gm,dC];try simp
    |[a,b],hx=>
     simp only[nr,nrs,szA,aV,cb,ae]at hx;obtain ⟨⟨n1,n2⟩,_,s1,s2⟩:=hx;simp_all_arith[gm];refine seq λM hM=>?_;simp_arith[ends];simp_arith[show ((0+1+1:Nat):Int)=2 from rfl,BEq.rfl];refine hM _ _ (seq λM hM=>?_);simp_arith[ends];refine hM _ _ (seq λM hM=>?_);simp_arith[h1];refine bj (if_pos n1) ?_;simp_arith[ends];cases hw:vf a with
     |false=>
      have:dC (.tup [a,b])=false:=by
       cases a with
       |int i=>
        have hw:(decide (1<=i)&&decide (i<=6))=false:=hw;cases b <;> simp only[dC]
        rw[hw];simp
       |_=>rfl
      rw[this];simp_arith[ends]
     |true=>
      cases a with
      |int w=>
       have hw':decide (1<=w)=true/\decide (w<=6)=true:=by unfold vf at hw;simpa using hw
       cases b with
       |tup rows=>
        simp_arith[ends];simp only[nr,szA,ae,bg]at n2 s2;by_cases hr:rows.length<=12
        ·have hd:decide ((12:Int) < (rows.length:Int))=false:=bv (by omega);simp_arith[hd];refine hM _ _ ?_;simp_arith[ends];refine CompG.map (f:=λd=>.bl (cM w d)) (I:=λρ=>∃o,ρ=[o,some (.int w)]) ⟨_,rfl⟩ trivial (by have hsz:sz=1000000:=rfl;omega) ?_ ?_
         ·rintro d ρ hd ⟨o,rfl⟩ kk hk;simp_arith[h2];refine bj (if_pos (by rw[vg n2 hd,vp s2.2 hd];rfl)) ?_;exact hk _ ⟨_,rfl⟩
         ·simp_arith[iI];simp only[dC,hw'.1,hw'.2,ay hr,d5,List.all_map,Function.comp_def,id_eq]
        ·have hd:decide ((12:Int) < (rows.length:Int))=true:=ay (by omega);simp_arith[hd,dC,bv hr,db,dy]
       |ref p=>simp[nr]at n2
       |scr p=>simp[nr]at n2
       |exn p=>simp[nr]at n2
       |_=>simp_arith[dC];try simp
      |_=>cases hw
    |a::b::c::r,_=>
     have hb:((((r.length+1+1+1:Nat):Int)==2):Bool)=false:=by rw[bP];omega
     simp_arith[gm,dC,hb]
   |ref p=>simp[nr]at hx
   |scr p=>simp[nr]at hx
   |exn p=>simp[nr]at hx
   |_=>simp_arith[gm,dC];try simp
  ·cases h
 ·cases h
theorem acR{w:Nat}{l:List Nat}(h:okF w l):isText [48,49,42] (w:Int) (.str l)=true:=by unfold isText;rw[ae];refine ⟨ay (by rw[h.1]),bp.mpr λc hc=>?_⟩;rcases h.2 c hc with rfl |rfl |rfl <;> rfl
theorem acS{l:List Nat}(h:okD l):fM (.str l)=true:=by unfold fM;rw[ae,ae];exact ⟨⟨ay h.1,ay h.2.1⟩,bp.mpr λc hc=>acN.mpr (h.2.2 c hc)⟩
theorem acT{w:Nat}{r:Row}(h1:okF w r.1)(h2:okD r.2):cM (w:Int) (aA r)=true:=by show (isText [48,49,42] (w:Int) (.str r.1)&&fM (.str r.2))=true;rw[acR h1,acS h2];rfl
theorem acU{w:Nat}{rs:List Row}(h:okB w rs):dC (au w rs)=true:=by unfold au dC;simp only[ae,bg,ah,List.all_map,bp];have:=h.w1;have:=h.w6;refine ⟨⟨⟨by omega,by omega⟩,h.len⟩,λr hr=>acT (h.form r hr) (h.deed r hr)⟩
theorem gR(rs:List Row):nrs (rs.map aA)=true:=yI λd hd=>by obtain ⟨r,_,rfl⟩:=cm.mp hd;rfl
theorem acV(w:Nat)(rs:List Row):nr (au w rs)=true:=by unfold au;simp only[nr,nrs,gR,cb]
theorem Np{w:Nat}{rs:List Row}(h:okB w rs):szA (au w rs)=true:=by unfold au;simp only[szA,aV,cb,d5,ae,bg,ah];have hlen:=h.len;have hw:=h.w6;refine ⟨by simp,by omega,vq λd hd=>?_⟩;obtain ⟨r,hr,rfl⟩:=cm.mp hd;have h1:=(h.form r hr).1;have h2:=(h.deed r hr).2.1;unfold aA;simp only[szA,aV,cb,ae,bg];exact ⟨by simp,by omega,by omega⟩
def acW:RF.Spec:=bB (λds _=>∃w rs,ds=[au w rs]/\okB w rs) (λ_ G d G'=>G'=G/\d=.non)
def cT(x:D):Prop:=nr x=true/\szA x=true/\dC x=false
def gn (ds:List D) (C:String):Prop:=C="NoBook"/\∃x,ds=[x]/\cT x
def cA:RF.Spec:=orX acW gn
theorem eZ{w:Nat}{rs:List Row}{G:DH}{k:D->DH->Prop}{E:EK}(h:okB w rs)(hk:k .non G):cA.t [au w rs] G k E:=dW (bR ⟨w,rs,rfl,h⟩ λd G' ⟨e1,e2⟩=>by subst e1 e2;exact hk)
theorem j4 {x:D} {G:DH} {k:D->DH->Prop} {E:EK} (h:cT x) (hE:E ⟨"NoBook",.non⟩ G):cA.t [x] G k E:=bY ⟨rfl,x,rfl,h⟩ hE
theorem acX (Φ:aa) (h1:Φ "is_book"=aD jZ) (ds:List D) (G:DH) (h:∃w rs,ds=[au w rs]/\okB w rs):aq Φ iK noE (env0 ds 0) G (ends λd G'=>G'=G/\d=.non):=by obtain ⟨w,rs,rfl,hb⟩:=h;simp_arith[iK,h1];refine bj (d:=.bl true) (by rw[<-acU hb];exact if_pos (by rw[acV,Np hb];rfl)) ?_;simp_arith[ends]
theorem acY (Φ:aa) (h1:Φ "is_book"=aD jZ) (ds:List D) (G:DH) (C:String) (h:gn ds C):aq Φ iK (λx G'=>x=⟨C,.non⟩/\G'=G) (env0 ds 0) G (ends λ_ _=>False):=by obtain ⟨rfl,x,rfl,hx,hz,hn⟩:=h;simp_arith[iK,h1];refine bj (d:=.bl false) (by rw[<-hn];exact if_pos (by rw[hx,hz];rfl)) ?_;simp_arith[ef]
def j5(c s:Nat):Bool:=c==42||c==s
def fO:List Nat->List Nat->Bool
 |c::f,s::w=>j5 c s&&fO f w
 |_,_=>true
def dY(f w:List Nat):Bool:=decide (f.length=w.length)&&fO f w
noncomputable def nJ:List D->Option D
 |[.str f,.str w]=>if decide (f.length<=100000) then some (.bl (dY f w)) else none
 |_=>none
theorem zy:∀(f w:List Nat),bU (f.map λc=>D.str [c]) (w.map λc=>D.str [c])=(f.zip w).map λp=>D.tup [.str [p.1],.str [p.2]]
 |[],w=>by simp[bU]
 |c::f,[]=>by simp[bU]
 |c::f,s::w=>by simp[bU,zy f w]
theorem Nq:∀(f w:List Nat),((f.zip w).map λp=>j5 p.1 p.2).all id=fO f w
 |[],w=>by simp[fO]
 |c::f,[]=>by simp[fO]
 |c::f,s::w=>by simp[fO,Nq f w]
theorem gU{c s:Nat}:(([c]==[s]):Bool)=(c==s):=by
 by_cases h:c=s
 ·subst h;simp
 ·rw[bP.mpr h,bP.mpr (by simp[h])]
theorem acZ{a b:Nat}:((((a:Nat):Int)==((b:Nat):Int)):Bool)=decide (a=b):=by
 by_cases h:a=b
 ·subst h;simp
 ·rw[bv h,bP];omega
theorem ac0(Φ:aa)(ds:List D)(G:DH)(d:D)(h:nJ ds=some d):aq Φ mW noE (env0 ds 0) G (ends λd' G'=>G'=G/\d'=d):=by
 unfold nJ at h;split at h
 ·rename_i f w;split at h
  ·rename_i hl;have hl:=dc hl;cases h;simp_arith[mW,acZ,dY];cases he:decide (f.length=w.length) with
   |false=>simp_arith[dy]
   |true=>
    simp_arith[zy,d5];refine CompG.map (f:=λd=>match d with |.tup [.str [c],.str [s]]=>.bl (j5 c s) |_=>.non) (I:=λρ=>∃o o',ρ=[o,o']) ⟨_,_,rfl⟩ trivial (by simp;have hsz:sz=1000000:=rfl;omega) ?_ ?_
    ·rintro d ρ hd ⟨o,o',rfl⟩ kk hk;obtain ⟨⟨c,s⟩,_,rfl⟩:=cm.mp hd;simp_arith[gU];have:=hk [some (.str [c]),some (.str [s])] ⟨_,_,rfl⟩;unfold j5 at this;cases hc:(c==42) with
     |true=>simp_arith[hc]at this ⊢;exact this
     |false=>simp_arith[hc]at this ⊢;exact this
    ·rw[dL];simp_arith[Function.comp_def,iI,Nq,ef]
  ·cases h
 ·cases h
theorem Nr{c s:Nat}(hs:s=48\/s=49):j5 c s=true↔s∈alt c:=by
 unfold j5 alt;by_cases h:c=42
 ·subst h;simp;rcases hs with rfl |rfl <;> simp
 ·simp[h];exact eq_comm
def dD(rs:List Row)(w:List Nat):Option Nat:=rs.findIdx? λr=>dY r.1 w
def aQ:Option Nat->D
 |some n=>.int n
 |none=>.non
theorem zA{w v:Nat}{rs ss:List Row}(h:au w rs=au v ss):w=v/\rs=ss:=by
 unfold au at h;simp only[D.tup.injEq,da,D.int.injEq,Int.ofNat_inj,eK]at h;refine ⟨h.1,?_⟩;have h2:=h.2;clear h;induction rs generalizing ss with
 |nil=>cases ss with
  |nil=>rfl
  |cons _ _=>simp at h2
 |cons r rs ih=>cases ss with
  |nil=>simp at h2
  |cons s ss=>
   simp only[b6,da]at h2;have e:r=s:=by have:=h2.1;unfold aA at this;simp only[D.tup.injEq,da,D.str.injEq,eK]at this;exact Prod.ext this.1 this.2
   rw[e,ih h2.2]
noncomputable def j6(rs:List Row):Option Nat->D
 |some n=>match rs[n]? with |some r=>.str r.2 |none=>.non
 |none=>.non
def vy:RF.Spec:=bB (λds _=>∃w rs o,ds=[au w rs,aQ o]/\∀n,o=some n->n < rs.length) (λds G d G'=>G'=G/\∃w rs o,ds=[au w rs,aQ o]/\d=j6 rs o)
theorem ac1{a b:Option Nat}(h:aQ a=aQ b):a=b:=by cases a <;> cases b <;> simp[aQ]at h ⊢ <;> omega
theorem Nt{w:Nat}{rs:List Row}{o:Option Nat}{G:DH}{k:D->DH->Prop}{E:EK}(h:∀n,o=some n->n < rs.length)(hk:k (j6 rs o) G):vy.t [au w rs,aQ o] G k E:=by refine bR ⟨w,rs,o,rfl,h⟩ λd G' ⟨e1,w2,rs2,o2,e2,e3⟩=>?_;simp only[da,eK]at e2;obtain ⟨e2,e4⟩:=e2;obtain ⟨rfl,rfl⟩:=zA e2;cases ac1 e4;subst e1 e3;exact hk
theorem ac2(Φ:aa)(ds:List D)(G:DH)(h:∃w rs o,ds=[au w rs,aQ o]/\∀n,o=some n->n < rs.length):aq Φ jY noE (env0 ds 0) G (ends λd G'=>G'=G/\∃w rs o,ds=[au w rs,aQ o]/\d=j6 rs o):=by
 obtain ⟨w,rs,o,rfl,ho⟩:=h;cases o with
 |none=>
  simp_arith[jY,aQ];exact ⟨w,rs,none,rfl,rfl⟩
 |some n=>
  have hn:=ho n rfl;simp_arith[jY,aQ,au];refine bH (a:=aA rs[n]) (bK (by simp[hn])) ?_;simp_arith[aA];exact ⟨w,rs,some n,rfl,by simp[j6,hn]⟩
theorem zB{α β:Type}(f:α->β)(l:List α)(n:Nat):cut (l.map f) none (some (n:Int))=(l.take n).map f:=by rw[uX,List.map_take]
theorem ac3{α β:Type}(f:α->β)(l:List α)(n:Nat):cut (l.map f) (some (n:Int)) none=(l.drop n).map f:=by rw[mD,gd]
theorem okB.sub{w:Nat}{rs ss:List Row}(h:okB w rs)(hl:ss.length<=rs.length)(hs:∀r∈ss,r∈rs):okB w ss:=
 ⟨h.w1,h.w6,c9 hl h.len,λr hr=>h.form r (hs r hr),λr hr=>h.deed r (hs r hr)⟩
theorem Nu(c:Nat)(n:Nat):reps [c] n=List.replicate n c:=by
 unfold reps;induction n with
 |zero=>rfl
 |succ n ih=>rw[cy,eL,ih,cy];rfl
theorem Nv(w:Nat):okF w (List.replicate w 42):=⟨ca,λc hc=>.inr (.inr (List.eq_of_mem_replicate hc))⟩
theorem ac4{p:Addr}{G:DH}{k:D->DH->Prop}{E:EK}(hp:Pen G p)(hk:∀G',Pen G' p->Sb p G G'->k (.ref p) G'):vd.t [.ref p] G k E:=
 bR ⟨p,rfl,hp⟩ λd G' hx=>by obtain ⟨p2,e1,e2,hp',sb⟩:=hx;cases e1;subst e2;exact hk G' hp' sb
def fj(a b:Nat):Option Nat:=if a=42 then some b else if b=42\/b=a then some a else none
noncomputable def cB:List Nat->List Nat->Option (List Nat)
 |a::f,b::g=>match fj a b with |some c=>(cB f g).map (c::·) |none=>none
 |_,_=>some []
def cY:Option (List Nat)->D
 |some l=>.str l
 |none=>.non
noncomputable def nM:List D->Option D
 |[.str f,.str g]=>if decide (f.length<=100000) then some (cY (cB f g)) else none
 |_=>none
theorem ac5{f g:List Nat}{i a b:Nat}(h:(f.zip g)[i]?=some (a,b)):cB (f.drop i) (g.drop i)=match fj a b with |some c=>(cB (f.drop (i+1)) (g.drop (i+1))).map (c::·) |none=>none:=by
 have hz:=ar.mp h;obtain ⟨hl,he⟩:=hz;rw[List.length_zip]at hl;have h1:i < f.length:=by omega
 have h2:i < g.length:=by omega
 rw[List.getElem_zip]at he;rw[cf h1,cf h2];simp only[Prod.mk.injEq]at he;rw[he.1,he.2];rfl
theorem ac6{f g:List Nat}:cB (f.drop (f.zip g).length) (g.drop (f.zip g).length)=some []:=by
 rw[List.length_zip];by_cases h:f.length<=g.length
 ·rw[Nat.min_eq_left h,fm];cases g.drop f.length <;> rfl
 ·rw[Nat.min_eq_right (by omega),fm];cases f.drop g.length <;> rfl
theorem ac7(Φ:aa)(ds:List D)(G:DH)(d:D)(h:nM ds=some d):aq Φ mL noE (env0 ds 3) G (ends λd' G'=>G'=G/\d'=d):=by
 unfold nM at h;split at h
 ·rename_i f g;split at h
  ·rename_i hl;have hl:=dc hl;cases h;simp_all_arith[mL];refine seq λM hM=>?_;simp_arith[ends];refine hM _ _ (seq λM hM=>?_);simp_arith![zy];refine ForG.inv (P:=λi ρ G'=>(∃o3 o4 m,ρ=[some (.str f),some (.str g),some (.str m),o3,o4]/\m.length=i/\cB f g=(cB (f.drop i) (g.drop i)).map (m ++ ·))/\G'=G) ⟨⟨_,_,[],rfl,rfl,by simp⟩,rfl⟩ (λ_ _ _ _=>trivial) ?_ ?_
   ·rintro i d ρ G' hd ⟨⟨o3,o4,m,rfl,hm,hb⟩,rfl⟩ kk hk;rw[a9]at hd;obtain ⟨⟨a,b⟩,hab,rfl⟩:=a7.mp hd;have hi:=(ar.mp hab).1;rw[List.length_zip]at hi;rw[ac5 hab]at hb;simp_arith![ends];refine last ?_;have put:∀(c:Nat)(o3 o4:Option D),fj a b=some c->m.length+1<=sz/\kk [some (.str f),some (.str g),some (.str (m++[c])),o3,o4] G':=by
     intro c o3 o4 hc;rw[hc]at hb;refine ⟨by have hsz:sz=1000000:=rfl;omega,hk _ _ ⟨⟨_,_,_,rfl,by simp[hm],?_⟩,rfl⟩⟩;rw[hb,Option.map_map];congr 1;funext x;simp
    simp_arith[gU];by_cases h42:a=42
    ·have:((a==42):Bool)=true:=by simp[h42]
     simp_arith[this];exact put b _ _ (if_pos h42)
    ·have h0:((a==42):Bool)=false:=by simp[h42]
     simp_arith[h0,gU];by_cases hb42:b=42
     ·have:((b==42):Bool)=true:=by simp[hb42]
      simp_arith[this];exact put a _ _ (by unfold fj;rw[if_neg h42,if_pos (.inl hb42)])
     ·have h1:((b==42):Bool)=false:=by simp[hb42]
      simp_arith[h1,gU];by_cases hba:b=a
      ·have:((b==a):Bool)=true:=by simp[hba]
       simp_arith[this];exact put a _ _ (by unfold fj;rw[if_neg h42,if_pos (.inr hba)])
      ·have:((b==a):Bool)=false:=by simp[hba]
       simp_arith[this];have hn:fj a b=none:=by unfold fj;rw[if_neg h42,if_neg (by rintro (h |h);exact hb42 h;exact hba h)]
       rw[hn]at hb;rw[hb];rfl
   ·rintro ρ G' ⟨⟨o3,o4,m,rfl,hm,hb⟩,rfl⟩;rw[ah,ac6]at hb;refine hM _ _ ?_;simp_arith[ends];rw[hb];simp[cY]
  ·cases h
 ·cases h
noncomputable def gW:List D->Option D
 |[.str f,.int n,.str [c]]=>if decide (0<=n)&&decide (n < f.length)&&decide (f.length<=1000) then some (.str (f.set n.toNat c)) else none
 |_=>none
theorem ac8{l:List Nat}{n c:Nat}(h:n < l.length):l.take n++[c]++l.drop (n+1)=l.set n c:=by rw[List.set_eq_take_append_cons_drop,if_pos h];simp
theorem ac9(Φ:aa)(ds:List D)(G:DH)(d:D)(h:gW ds=some d):aq Φ mR noE (env0 ds 0) G (ends λd' G'=>G'=G/\d'=d):=by
 unfold gW at h;split at h
 ·rename_i f n c;split at h
  ·rename_i hl;simp only[ae,bg]at hl;obtain ⟨⟨h0,h1⟩,h2⟩:=hl;cases h;obtain ⟨k,rfl⟩:=cp h0;simp_arith[mR,uX,uY,aI,ci,bX,ce,ac8 (show k < f.length by omega)];exact ⟨by have hsz:sz=1000000:=rfl;omega,by have hsz:sz=1000000:=rfl;omega⟩
  ·cases h
 ·cases h
noncomputable def dZ:List D->Option D
 |[.int n]=>if decide (0<=n)&&decide (n<=1000) then some (.str (List.replicate n.toNat 42)) else none
 |_=>none
theorem ada(Φ:aa)(ds:List D)(G:DH)(d:D)(h:dZ ds=some d):aq Φ mU noE (env0 ds 0) G (ends λd' G'=>G'=G/\d'=d):=by
 unfold dZ at h;split at h
 ·rename_i n;split at h
  ·rename_i hl;simp only[ae,bg]at hl;cases h;simp_arith[mU,Nu];exact ⟨hl.1,hl.2,by have hsz:sz=1000000:=rfl;omega⟩
  ·cases h
 ·cases h
def aR(rs:List Row)(b:List Nat):Option Nat:=rs.findIdx? λr=>(cB r.1 b).isSome
def Nx(ds:List D)(_:DH):Prop:=∃(rs:List Row)(b:List Nat),ds=[.tup (rs.map aA),.str b]/\∀r∈rs,r.1.length<=1000
def Ny(ds:List D)(G:DH)(d:D)(G':DH):Prop:=G'=G/\∃(rs:List Row)(b:List Nat),ds=[.tup (rs.map aA),.str b]/\d=aQ (aR rs b)
def j7:RF.Spec:=bB Nx Ny
theorem zE{rs ss:List Row}(h:rs.map aA=ss.map aA):rs=ss:=(zA (w:=0) (v:=0) (by unfold au;rw[h])).2
theorem vz{rs:List Row}{b:List Nat}{G:DH}{k:D->DH->Prop}{E:EK}(h:∀r∈rs,r.1.length<=1000)(hk:k (aQ (aR rs b)) G):j7.t [.tup (rs.map aA),.str b] G k E:=by refine bR ⟨rs,b,rfl,h⟩ λd G' hx=>?_;obtain ⟨e1,rs2,b2,e2,e3⟩:=hx;simp only[da,D.str.injEq,D.tup.injEq,eK]at e2;obtain ⟨e2,rfl⟩:=e2;cases zE e2;subst e1 e3;exact hk
theorem adb{o:Option (List Nat)}:fK (cY o)=!o.isSome:=by cases o <;> rfl
theorem adc{G:DH}{o:Option (List Nat)}:view G (cY o)=cY o:=by cases o <;> rfl
theorem ade{rs:List Row}{b:List Nat}{i:Nat}{r:Row}(h:rs[i]?=some r):aR (rs.drop i) b=if (cB r.1 b).isSome then some 0 else (aR (rs.drop (i+1)) b).map (·+1):=by
 have hi:=(ar.mp h).1;have e:rs.drop i=r::rs.drop (i+1):=by rw[cf hi];rw[(ar.mp h).2]
 rw[e];unfold aR;rw[List.findIdx?_cons]
theorem adf (Φ:aa) (h1:Φ "both"=aD nM) (ds:List D) (G:DH) (h:Nx ds G):aq Φ mO noE (env0 ds 2) G (ends (Ny ds G)):=by
 obtain ⟨rs,b,rfl,hb⟩:=h;simp_all_arith[mO];refine seq λM hM=>?_;simp_arith![ends];refine ForG.inv (P:=λi ρ G'=>(∃o2 o3,ρ=[some (.tup (rs.map aA)),some (.str b),o2,o3])/\G'=G/\aR rs b=(aR (rs.drop i) b).map (·+i)) ⟨⟨_,_,rfl⟩,rfl,by simp⟩ (λ_ _ _ _=>trivial) ?_ ?_
 ·rintro i d ρ G' hd ⟨⟨o2,o3,rfl⟩,rfl,hmet⟩ kk hk;rw[mz]at hd;obtain ⟨d',hd',rfl⟩:=a7.mp hd;rw[a9]at hd';obtain ⟨r,hr,rfl⟩:=a7.mp hd';have hrl:=hb r (cK hr);rw[ade hr]at hmet;simp_arith![ends];refine last ?_;simp_arith[h1,aA];refine bj (d:=cY (cB r.1 b)) (if_pos (ay (by omega))) ?_;simp_arith[adc,adb];cases hf:(cB r.1 b).isSome with
  |true=>
   rw[hf,if_pos rfl]at hmet;exact ⟨rfl,rs,b,rfl,by rw[hmet];simp[aQ]⟩
  |false=>
   rw[hf,if_neg br]at hmet;refine hk _ _ ⟨⟨_,_,rfl⟩,rfl,?_⟩;rw[hmet,Option.map_map];congr 1;funext n;simp;omega
 ·rintro ρ G' ⟨⟨o2,o3,rfl⟩,rfl,hmet⟩;rw[my,ah,fm]at hmet;refine hM _ _ ?_;simp_arith[ends];exact ⟨rfl,rs,b,rfl,by rw[hmet];rfl⟩
def cU(f b:List Nat):Option Nat:=(f.zip b).findIdx? λp=>p.2==42&&!(p.1==42)
noncomputable def cZ(rs:List Row)(b:List Nat):Option Nat:=match aR rs b with |some n=>(match rs[n]? with |some r=>cU r.1 b |none=>none) |none=>none
def Nz(ds:List D)(_:DH):Prop:=∃(rs:List Row)(b:List Nat),ds=[.tup (rs.map aA),.str b]/\(∀r∈rs,r.1.length=b.length)/\b.length<=1000
def NB(ds:List D)(G:DH)(d:D)(G':DH):Prop:=G'=G/\∃(rs:List Row)(b:List Nat),ds=[.tup (rs.map aA),.str b]/\d=aQ (cZ rs b)
def vA:RF.Spec:=bB Nz NB
theorem adg{rs:List Row}{b:List Nat}{G:DH}{k:D->DH->Prop}{E:EK}(h:∀r∈rs,r.1.length=b.length)(hl:b.length<=1000)(hk:k (aQ (cZ rs b)) G):vA.t [.tup (rs.map aA),.str b] G k E:=by refine bR ⟨rs,b,rfl,h,hl⟩ λd G' hx=>?_;obtain ⟨e1,rs2,b2,e2,e3⟩:=hx;simp only[da,D.str.injEq,D.tup.injEq,eK]at e2;obtain ⟨e2,rfl⟩:=e2;cases zE e2;subst e1 e3;exact hk
theorem nO{rs:List Row}{b:List Nat}{n:Nat}(h:aR rs b=some n):n < rs.length:=(List.findIdx?_eq_some_iff_findIdx_eq.mp h).1
theorem adh{f b:List Nat}{i s c:Nat}(hs:f[i]?=some s)(hc:b[i]?=some c):cU (f.drop i) (b.drop i)=if (c==42&&!(s==42))=true then some 0 else (cU (f.drop (i+1)) (b.drop (i+1))).map (·+1):=by have h1:=ar.mp hs;have h2:=ar.mp hc;rw[cf h1.1,cf h2.1,h1.2,h2.2];unfold cU;rw[List.zip_cons_cons,List.findIdx?_cons]
theorem adi (Φ:aa) (h1:Φ "first_touching"=j7) (ds:List D) (G:DH) (h:Nz ds G):aq Φ mQ noE (env0 ds 3) G (ends (NB ds G)):=by
 obtain ⟨rs,b,rfl,hb,hbl⟩:=h;simp_all_arith[mQ];refine seq λM hM=>?_;simp_arith[h1];refine vz (λr hr=>by rw[hb r hr];exact hbl) (hM _ _ (seq λM hM=>?_));cases ht:aR rs b with
 |none=>
  simp_arith[aQ];exact ⟨rfl,rs,b,rfl,by unfold cZ;rw[ht];rfl⟩
 |some n=>
  have hn:=nO ht;have hlen:=hb rs[n] (ck _);have hsp:cZ rs b=cU rs[n].1 b:=by unfold cZ;rw[ht];simp[hn]
  simp_arith[aQ];refine hM _ _ (seq λM hM=>?_);simp_arith![ends];refine bH (a:=aA rs[n]) (bK (by simp[hn])) ?_;simp_arith![aA];generalize rs[n].1=f at hlen hsp;refine ForG.inv (P:=λi ρ G'=>(∃o3 o4,ρ=[some (.tup (rs.map aA)),some (.str b),some (.int (n:Int)),o3,o4])/\G'=G/\cU f b=(cU (f.drop i) (b.drop i)).map (·+i)) ⟨⟨_,_,rfl⟩,rfl,by simp⟩ (λ_ _ _ _=>trivial) ?_ ?_
  ·rintro i d ρ G' hd ⟨⟨o3,o4,rfl⟩,rfl,hs⟩ kk hk;rw[mz]at hd;obtain ⟨d',hd',rfl⟩:=a7.mp hd;rw[a9]at hd';obtain ⟨s,hsi,rfl⟩:=a7.mp hd';have hi:=(ar.mp hsi).1;have hib:i < b.length:=by omega
   have hbi:b[i]?=some b[i]:=by simp[hib]
   rw[adh hsi hbi]at hs;simp_arith![ends];refine last ?_;simp_arith[ends];refine bH (a:=b[i]) (by rw[Nat.zero_add];exact bK hbi) ?_;simp_arith[gU];cases h42:(b[i]==42) with
   |false=>
    simp only[h42,dy,if_neg br]at hs;simp_arith[ends];refine hk _ _ ⟨⟨_,_,rfl⟩,rfl,?_⟩;rw[hs,Option.map_map];congr 1;funext n;simp;omega
   |true=>
    simp_arith[gU];cases hs42:(s==42) with
    |true=>
     simp only[h42,hs42,ft,db,if_neg br]at hs;simp_arith[ends];refine hk _ _ ⟨⟨_,_,rfl⟩,rfl,?_⟩;rw[hs,Option.map_map];congr 1;funext n;simp;omega
    |false=>
     simp only[h42,hs42,Bool.not_false,cb,if_pos]at hs;simp_arith[ends];exact ⟨rfl,rs,b,rfl,by rw[hsp,hs];simp[aQ]⟩
  ·rintro ρ G' ⟨⟨o3,o4,rfl⟩,rfl,hs⟩;rw[my,ah,fm]at hs;refine hM _ _ ?_;simp_arith[ends];exact ⟨rfl,rs,b,rfl,by rw[hsp,hs];simp[cU,aQ]⟩
def j8:List Nat:=[115,112,108,105,116]
def stc(b:List Nat):Nat:=b.countP (·==42)
theorem j9{b:List Nat}{n c:Nat}(h:b[n]?=some 42)(hc:c≠42):stc (b.set n c)+1=stc b:=by
 obtain ⟨hl,he⟩:=ar.mp h;have e1:b=b.take n++42::b.drop (n+1):=by rw[<-he,<-cf hl,List.take_append_drop]
 have e2:b.set n c=b.take n++c::b.drop (n+1):=by rw[List.set_eq_take_append_cons_drop,if_pos hl]
 unfold stc;rw[e2];conv=>rhs;rw[e1]
 rw[fx,fx,List.countP_cons_of_neg (by simp[hc]),List.countP_cons_of_pos (by simp)];omega
theorem vB{w n c:Nat}{b:List Nat}(h:okF w b)(hc:isF c):okF w (b.set n c):=⟨by rw[d0];exact h.1,λd hd=>by
 rcases List.mem_or_eq_of_mem_set hd with h' |h'
 ·exact h.2 d h'
 ·rw[h'];exact hc⟩
theorem NK:isF 48:=.inl rfl
theorem NQ:isF 49:=.inr (.inl rfl)
inductive Gr (name:List Nat) (rss:List (List Row)):List Nat->D->Prop
 |leaf (b:List Nat) (h:∀rs∈rss,cZ rs b=none):Gr name rss b (.tup (.str name::rss.map λrs=>aQ (aR rs b)))
 |node (b:List Nat) (n:Nat) (z o:D) (h:b[n]?=some 42) (hz:Gr name rss (b.set n 48) z) (ho:Gr name rss (b.set n 49) o):Gr name rss b (.tup [.str j8,.int n,z,o])
def d8(rss:List (List Row)):List D:=rss.map λrs=>.tup (rs.map aA)
structure okG(w:Nat)(name:List Nat)(rss:List (List Row)):Prop where
 len:rss.length<=100
 nl:name.length<=100
 form:∀rs∈rss,∀r∈rs,r.1.length=w
 w1000:w<=1000
def NT(n:Nat)(ds:List D)(_:DH):Prop:=∃(w:Nat)(name:List Nat)(rss:List (List Row))(b:List Nat),ds=[.str name,.lst (d8 rss),.str b]/\okG w name rss/\b.length=w/\stc b < n
def NZ(ds:List D)(G:DH)(d:D)(G':DH):Prop:=G'=G/\∃(name:List Nat)(rss:List (List Row))(b:List Nat),ds=[.str name,.lst (d8 rss),.str b]/\Gr name rss b d
def fu(n:Nat):RF.Spec:=bB (NT n) NZ
theorem adk{a b:List (List Row)}(h:d8 a=d8 b):a=b:=by
 unfold d8 at h;induction a generalizing b with
 |nil=>cases b with
  |nil=>rfl
  |cons _ _=>simp at h
 |cons x a ih=>cases b with
  |nil=>simp at h
  |cons y b=>
   simp only[b6,da,D.tup.injEq]at h;rw[zE h.1,ih h.2]
theorem vC{n w:Nat}{name:List Nat}{rss:List (List Row)}{b:List Nat}{G:DH}{k:D->DH->Prop}{E:EK}(h:okG w name rss)(hb:b.length=w)(hs:stc b < n)(hk:∀d,Gr name rss b d->k d G):(fu n).t [.str name,.lst (d8 rss),.str b] G k E:=by refine bR ⟨w,name,rss,b,rfl,h,hb,hs⟩ λd G' hx=>?_;obtain ⟨e1,name2,rss2,b2,e2,e3⟩:=hx;simp only[da,D.str.injEq,D.lst.injEq,eK]at e2;obtain ⟨rfl,e2,rfl⟩:=e2;cases adk e2;subst e1;exact hk d e3
theorem adl{f b:List Nat}{n:Nat}(h:cU f b=some n):b[n]?=some 42:=by unfold cU at h;have h2:=fA.mp h;obtain ⟨hl,hp,_⟩:=h2;rw[List.length_zip]at hl;rw[List.getElem_zip]at hp;simp only[ae,av]at hp;rw[aS (by omega),hp.1]
theorem adm{rs:List Row}{b:List Nat}{n:Nat}(h:cZ rs b=some n):b[n]?=some 42:=by
 unfold cZ at h;split at h
 ·split at h
  ·exact adl h
  ·cases h
 ·cases h
theorem vD{b:List Nat}{n c:Nat}{G:DH}{k:D->DH->Prop}{E:EK}(h:n < b.length)(hl:b.length<=1000)(hk:k (.str (b.set n c)) G):(aD gW).t [.str b,.int n,.str [c]] G k E:=
 bj (by
  unfold gW;dsimp only;rw[if_pos (by simp only[ae,bg];omega),ce]) hk
theorem adn (Φ:aa) (n:Nat) (h0:Φ "grown"=fu n) (h1:Φ "first_touching"=j7) (h2:Φ "splitting_place"=vA) (h3:Φ "with_sign"=aD gW) (ds:List D) (G:DH) (h:NT (n+1) ds G):aq Φ jX noE (env0 ds 4) G (ends (NZ ds G)):=by
 obtain ⟨w,name,rss,b,rfl,hg,hb,hs⟩:=h;have hw:=hg.w1000;simp_all_arith[jX];refine seq λM hM=>?_;simp_arith![ends];refine ForG.inv (P:=λi ρ G'=>(∃o3 o4 o5 o6,ρ=[some (.str name),some (.lst (d8 rss)),some (.str b),o3,o4,o5,o6])/\G'=G/\∀rs∈rss.take i,cZ rs b=none) ⟨⟨_,_,_,_,rfl⟩,rfl,by simp⟩ (λ_ _ _ _=>trivial) ?_ ?_
 ·rintro i d ρ G' hd ⟨⟨o3,o4,o5,o6,rfl⟩,rfl,hall⟩ kk hk;unfold d8 at hd;rw[a9]at hd;obtain ⟨rs,hrs,rfl⟩:=a7.mp hd;simp_arith![ends];refine seq λM hM=>?_;simp_arith[h2];refine adg (λr hr=>by rw[hg.form rs (cK hrs) r hr,hb]) (by omega) (hM _ _ (last ?_));cases hsp:cZ rs b with
  |none=>
   simp_arith[aQ];refine hk _ _ ⟨⟨_,_,_,_,rfl⟩,rfl,λrs' hrs'=>?_⟩;rw[d6,hrs]at hrs';rcases bb.mp hrs' with h |h
   ·exact hall rs' h
   ·have:rs'=rs:=by simpa using h
    rw[this];exact hsp
  |some at'=>
   have hst:=adm hsp;have hat:=(ar.mp hst).1;simp_arith![aQ];refine seq λM hM=>?_;simp_arith[h0,h3];refine vD hat (by omega) (vC hg (by rw[d0];exact hb) (by have:=j9 hst (show 48≠42 by decide);omega) λz hz=>hM _ _ (seq λM hM=>?_));simp_arith[h0,h3];refine vD hat (by omega) (vC hg (by rw[d0];exact hb) (by have:=j9 hst (show 49≠42 by decide);omega) λo ho=>hM _ _ (last ?_));simp_arith[ends];exact ⟨by decide,rfl,name,rss,b,rfl,.node b at' z o hst hz ho⟩
 ·rintro ρ G' ⟨⟨o3,o4,o5,o6,rfl⟩,rfl,hall⟩;have hlen:(d8 rss).length=rss.length:=ah _;rw[hlen,ez]at hall;have hrl:=hg.len;refine hM _ _ ?_;simp_arith[h1];refine ⟨by decide,CompG.inv (P:=λi acc ρ G''=>(∃o,ρ=[o,some (.str b)])/\G''=G'/\acc=(rss.take i).map λrs=>aQ (aR rs b)) ⟨⟨_,rfl⟩,rfl,rfl⟩ (λ_ _ _ _ _=>trivial) (by rw[hlen];have hsz:sz=1000000:=rfl;omega) ?_ ?_⟩
  ·rintro i d acc ρ G'' hd ⟨⟨o,rfl⟩,rfl,rfl⟩ kk hk;unfold d8 at hd;rw[a9]at hd;obtain ⟨rs,hrs,rfl⟩:=a7.mp hd;simp_arith[h1];refine vz (λr hr=>by rw[hg.form rs (cK hrs) r hr];omega) (hk _ _ _ ⟨⟨_,rfl⟩,rfl,?_⟩);rw[d6,hrs];simp
  ·rintro acc ρ G'' ⟨_,rfl,rfl⟩;rw[hlen,ez];simp_arith[ah];exact ⟨by have hsz:sz=1000000:=rfl;omega,rfl,name,rss,b,rfl,.leaf b hall⟩
theorem ado(ds:List D)(G:DH)(a:(fu 0).A):¬(fu 0).pre ds G a:=λ⟨_,_,_,_,_,_,_,_,h⟩=>by omega
def gq:List Nat:=[109,101,116]
def adp:RF.Spec:=bB (λds _=>∃w rs,ds=[au w rs]/\okB w rs) (λds G d G'=>G'=G/\∃w rs,ds=[au w rs]/\Gr gq [rs] (List.replicate w 42) d)
def jc:RF.Spec:=orX adp gn
theorem N5{w:Nat}{rs:List Row}{G:DH}{k:D->DH->Prop}{E:EK}(h:okB w rs)(hk:∀d,Gr gq [rs] (List.replicate w 42) d->k d G):jc.t [au w rs] G k E:=by refine dW (bR ⟨w,rs,rfl,h⟩ λd G' hx=>?_);obtain ⟨e1,w2,rs2,e2,e3⟩:=hx;simp only[da,eK]at e2;obtain ⟨rfl,rfl⟩:=zA e2;subst e1;exact hk d e3
theorem zF(w:Nat):stc (List.replicate w 42)<=w:=by have:=List.countP_le_length (p:=(·==42)) (l:=List.replicate w 42);rw[ca]at this;exact this
theorem adq{w:Nat}{rs:List Row}(h:okB w rs):okG w gq [rs]:=⟨by simp,by decide,λrs' hrs' r hr=>by rw[ba.mp hrs']at hr;exact (h.form r hr).1,by have:=h.w6;omega⟩
theorem adt (Φ:aa) (h1:Φ "need_book"=cA) (h2:Φ "grown"=fu 9) (h3:Φ "stars"=aD dZ) (ds:List D) (G:DH) (h:∃w rs,ds=[au w rs]/\okB w rs):
  aq Φ iR noE (env0 ds 2) G (ends λd G'=>G'=G/\∃w rs,ds=[au w rs]/\Gr gq [rs] (List.replicate w 42) d):=by
 obtain ⟨w,rs,rfl,hb⟩:=h;have hw6:=hb.w6;simp_all_arith[iR];refine seq λM hM=>?_;simp_arith[h1];refine eZ hb (hM _ _ (seq λM hM=>?_));simp_arith[au];refine hM _ _ ?_;simp_arith[h2,h3];refine ⟨by decide,bj (d:=.str (List.replicate w 42)) (by unfold dZ;dsimp only;rw[if_pos (by simp only[ae,bg];omega),ce]) ?_⟩;have e:[D.tup (rs.map aA)]=d8 [rs]:=rfl;rw[e];refine vC (adq hb) ca (by have:=zF w;omega) λd hd=>?_;exact ⟨rfl,w,rs,rfl,hd⟩
theorem adu (Φ:aa) (h1:Φ "need_book"=cA) (ds:List D) (G:DH) (C:String) (h:gn ds C):aq Φ iR (λx G'=>x=⟨C,.non⟩/\G'=G) (env0 ds 2) G (ends λ_ _=>False):=by obtain ⟨rfl,x,rfl,hx⟩:=h;simp_all_arith[iR];refine seq λM hM=>?_;simp_arith[h1];exact j4 hx ⟨rfl,rfl⟩
theorem N6:∀{f b w:List Nat},cB f b=none->(∀s∈w,s=48\/s=49)->Fits b w->fO f w=true->False
 |[],b,w,h,_,_,_=>by cases b <;> cases h
 |a::f,[],w,h,_,_,_=>by cases h
 |a::f,c::b,[],h,_,hf,_=>by have:=hf.1;simp at this
 |a::f,c::b,s::w,h,hw,hf,hz=>by
  rw[fO,ae]at hz;have hs:=hf.2 0 c s rfl rfl;have hf':Fits b w:=⟨by have:=hf.1;simpa using this,λi c' s' h1 h2=>hf.2 (i+1) c' s' (by simpa using h1) (by simpa using h2)⟩;unfold cB at h;cases h1:fj a c with
  |some x=>
   rw[h1]at h;simp only[Option.map_eq_none_iff]at h;exact N6 h (λs hs=>hw s (b9 _ hs)) hf' hz.2
  |none=>
   unfold fj at h1;split at h1
   ·cases h1
   ·split at h1
    ·cases h1
    ·rename_i ha hc;have h2:=(Nr (hw s bS)).mp hz.1;unfold alt at hs h2;rw[if_neg ha]at h2;have es:s=a:=by simpa using h2
     split at hs
     ·rename_i e;exact hc (.inl e)
     ·have:s=c:=by simpa using hs
      exact hc (.inr (by omega))
theorem N7:∀{f b w:List Nat},f.length=b.length->(cB f b).isSome=true->cU f b=none->(∀s∈w,s=48\/s=49)->Fits b w->fO f w=true
 |[],b,w,_,_,_,_,_=>rfl
 |a::f,[],w,h,_,_,_,_=>by simp at h
 |a::f,c::b,[],_,_,_,_,hf=>rfl
 |a::f,c::b,s::w,hl,hb,hs,hw,hf=>by
  have hs0:=hf.2 0 c s rfl rfl;have hf':Fits b w:=⟨by have:=hf.1;simpa using this,λi c' s' h1 h2=>hf.2 (i+1) c' s' (by simpa using h1) (by simpa using h2)⟩;unfold cU at hs;rw[List.zip_cons_cons,List.findIdx?_cons]at hs;split at hs
  ·cases hs
  ·rename_i hne;have hs':cU f b=none:=by unfold cU;simpa using hs
   unfold cB at hb;cases h1:fj a c with
   |none=>rw[h1]at hb;cases hb
   |some x=>
    rw[h1]at hb;have hb':(cB f b).isSome=true:=by simpa using hb
    rw[fO,ae];refine ⟨?_,N7 (by simpa using hl) hb' hs' (λs hs=>hw s (b9 _ hs)) hf'⟩;rw[Nr (hw s bS)];by_cases ha:a=42
    ·unfold alt;rw[if_pos ha];rcases hw s bS with e |e <;> simp[e]
    ·have hc:c≠42:=by
      rintro rfl;exact hne (by simp[ha])
     unfold alt at hs0 ⊢;rw[if_neg hc]at hs0;rw[if_neg ha];unfold fj at h1;rw[if_neg ha]at h1;split at h1
     ·rename_i h2;rcases h2 with h2 |h2
      ·exact absurd h2 hc
      ·rw[<-h2];exact hs0
     ·cases h1
theorem N8{rs:List Row}{b l:List Nat}(hf:∀r∈rs,r.1.length=b.length)(hs:cZ rs b=none)(hl:∀s∈l,s=48\/s=49)(hb:Fits b l):dD rs l=aR rs b:=by
 have no:∀r∈rs,(cB r.1 b).isSome=false->dY r.1 l=false:=by
  intro r hr h;cases e:dY r.1 l with
  |false=>rfl
  |true=>
   unfold dY at e;rw[ae]at e;exact (N6 (by simpa using h) hl hb e.2).elim
 cases ht:aR rs b with
 |none=>
  unfold aR at ht;unfold dD;rw[List.findIdx?_eq_none_iff]at ht ⊢;exact λr hr=>no r hr (by simpa using ht r hr)
 |some n=>
  have hn:=nO ht;have ht':=fA.mp ht;obtain ⟨_,t1,t2⟩:=ht';unfold dD;rw[fA];refine ⟨hn,?_,λj hj=>?_⟩
  ·have hsf:cU rs[n].1 b=none:=by
    unfold cZ at hs;rw[ht]at hs;simpa [hn] using hs
   have hlen:=hf rs[n] (ck _);unfold dY;rw[ae];exact ⟨ay (by rw[hlen,hb.1]),N7 hlen t1 hsf hl hb⟩
  ·have:=no rs[j] (ck _) (by simpa using t2 j hj);simp[this]
noncomputable def nP(name:List Nat)(rss:List (List Row))(b:List Nat):D:=.tup (.str name::rss.map λrs=>aQ (aR rs b))
def kh(name:List Nat)(rss:List (List Row))(b:List Nat):D:=.tup [.str b,nP name rss b]
inductive Lv (name:List Nat) (rss:List (List Row)):List Nat->D->List (List Nat)->Prop
 |leaf (b:List Nat) (h:∀rs∈rss,cZ rs b=none):Lv name rss b (nP name rss b) [b]
 |node (b:List Nat) (n:Nat) (z o:D) (l m:List (List Nat)) (h:b[n]?=some 42) (hz:Lv name rss (b.set n 48) z l) (ho:Lv name rss (b.set n 49) o m):Lv name rss b (.tup [.str j8,.int n,z,o]) (l++m)
theorem Gr.lv{name:List Nat}{rss:List (List Row)}{b:List Nat}{d:D}(h:Gr name rss b d):∃bs,Lv name rss b d bs:=by
 induction h with
 |leaf b h=>exact ⟨_,.leaf b h⟩
 |node b n z o h _ _ hz ho=>
  obtain ⟨l,hl⟩:=hz;obtain ⟨m,hm⟩:=ho;exact ⟨_,.node b n z o l m h hl hm⟩
theorem Lv.len{name:List Nat}{rss:List (List Row)}{b:List Nat}{d:D}{bs:List (List Nat)}(h:Lv name rss b d bs):bs.length<=2 ^ stc b:=by
 induction h with
 |leaf b h=>exact Nat.one_le_two_pow
 |node b n z o l m h _ _ hz ho=>
  have e1:=j9 h (show 48≠42 by decide);have e2:=j9 h (show 49≠42 by decide);rw[<-e1,Nat.pow_succ,aI];have e3:stc (b.set n 49)=stc (b.set n 48):=by omega
  rw[e3]at ho;omega
theorem Lv.len'{name:List Nat}{rss:List (List Row)}{b:List Nat}{d:D}{bs:List (List Nat)}(h:Lv name rss b d bs)(hb:b.length<=12):bs.length<=4096:=by
 have h1:=h.len;have h2:stc b<=12:=c9 (List.countP_le_length) hb;have h3:=Nat.pow_le_pow_right (show 0 < 2 by decide) h2;have h4:2 ^ 12=4096:=by decide
 omega
theorem Lv.box{name:List Nat}{rss:List (List Row)}{b:List Nat}{d:D}{bs:List (List Nat)}(h:Lv name rss b d bs):∀c∈bs,c.length=b.length/\∀rs∈rss,cZ rs c=none:=by
 induction h with
 |leaf b h=>intro c hc;rw[ba.mp hc];exact ⟨rfl,h⟩
 |node b n z o l m h _ _ hz ho=>
  intro c hc;rcases bb.mp hc with hc |hc
  ·have:=hz c hc;rw[d0]at this;exact this
  ·have:=ho c hc;rw[d0]at this;exact this
theorem Lv.okf{w:Nat}{name:List Nat}{rss:List (List Row)}{b:List Nat}{d:D}{bs:List (List Nat)}(h:Lv name rss b d bs):okF w b->∀c∈bs,okF w c:=by
 induction h with
 |leaf b h=>intro hb c hc;rw[ba.mp hc];exact hb
 |node b n z o l m h _ _ hz ho=>
  intro hb c hc;rcases bb.mp hc with hc |hc
  ·exact hz (vB hb NK) c hc
  ·exact ho (vB hb NQ) c hc
theorem Oa{w:Nat}{f l:List Nat}(h:okF w f)(hf:Fits f l):∀s∈l,s=48\/s=49:=by
 intro s hs;obtain ⟨i,hi,rfl⟩:=List.getElem_of_mem hs;have hif:i < f.length:=by rw[hf.1];exact hi
 have:=hf.2 i f[i] l[i] (by simp[hif]) (by simp[hi]);rcases h.2 f[i] (ck _) with e |e |e <;> rw[e]at this <;> simp[alt]at this <;> omega
def isPlace(m:Int):D->Bool
 |.int i=>decide (0<=i)&&decide (i < m)
 |_=>false
def cC:List D->Option D
 |[.int m,x]=>if nr x then some (.bl (isPlace m x)) else none
 |_=>none
theorem adv (Φ:aa) (h1:Φ "is_whole"=aD gQ) (ds:List D) (G:DH) (d:D) (h:cC ds=some d):aq Φ mJ noE (env0 ds 0) G (ends λd' G'=>G'=G/\d'=d):=by
 unfold cC at h;split at h
 ·rename_i m x;split at h
  ·rename_i hx;cases h;have hf:gQ [x]=some (.bl (whole x)):=if_pos hx;simp_arith[mJ,h1];refine bj hf ?_;cases x <;> first | (simp[nr]at hx;done) | (simp_arith[whole,isPlace];first | (simp;done) |skip)
   rename_i i;cases hi:decide (0<=i) with
   |true=>simp
   |false=>simp
  ·cases h
 ·cases h
theorem adw{m i:Nat}{G:DH}{k:D->DH->Prop}{E:EK}(h:i < m)(hk:k (.bl true) G):(aD cC).t [.int m,.int i] G k E:=
 bj (by unfold cC;simp only[nr,if_true,isPlace];rw[ay (by omega),ay (by omega)];rfl) hk
noncomputable def d9:List D->Option D
 |[.str name,.int many,.tup (.str s::r)]=>some (.bl ((((r.length+1:Nat):Int)==many+1)&&(s==name)))
 |_=>none
theorem adx(Φ:aa)(ds:List D)(G:DH)(d:D)(h:d9 ds=some d):aq Φ mV noE (env0 ds 0) G (ends λd' G'=>G'=G/\d'=d):=by
 unfold d9 at h;split at h
 ·rename_i name many s r;cases h;simp_arith[mV];cases he:(((r.length+1:Nat):Int)==many+1) with
  |false=>simp_arith[dy]
  |true=>simp_arith[d5]
 ·cases h
theorem ady{name s:List Nat}{m:Int}{r:List D}{G:DH}{k:D->DH->Prop}{E:EK}(h:s≠name)(hk:k (.bl false) G):(aD d9).t [.str name,.int m,.tup (.str s::r)] G k E:=
 bj (by unfold d9;dsimp only;rw[bP.mpr h,db]) hk
theorem Ob{name:List Nat}{m:Int}{r:List D}{G:DH}{k:D->DH->Prop}{E:EK}(h:(r.length:Int)=m)(hk:k (.bl true) G):(aD d9).t [.str name,.int m,.tup (.str name::r)] G k E:=
 bj (by unfold d9;dsimp only;rw[BEq.rfl,cb,av.mpr (by omega)]) hk
theorem adz{f:List Nat}{i c:Nat}(h:f[i]?=some c):stc (f.take (i+1))=stc (f.take i)+(if (c==42)=true then 1 else 0):=by unfold stc;rw[d6,h,fx];cases hc:(c==42) <;> simp[hc]
def nQ:List D->Option D
 |[.str f]=>some (.int ((2 ^ stc f:Nat):Int))
 |_=>none
theorem adA(Φ:aa)(ds:List D)(G:DH)(d:D)(h:nQ ds=some d):aq Φ mK noE (env0 ds 2) G (ends λd' G'=>G'=G/\d'=d):=by
 unfold nQ at h;split at h
 ·rename_i f;cases h;simp_all_arith[mK];refine seq λM hM=>?_;simp_arith[ends];refine hM _ _ (seq λM hM=>?_);simp_arith![ends];refine ForG.inv (P:=λi ρ G'=>(∃o2,ρ=[some (.str f),some (.int ((2 ^ stc (f.take i):Nat):Int)),o2])/\G'=G) ⟨⟨_,rfl⟩,rfl⟩ (λ_ _ _ _=>trivial) ?_ ?_
  ·rintro i d ρ G' hd ⟨⟨o2,rfl⟩,rfl⟩ kk hk;rw[a9]at hd;obtain ⟨c,hc,rfl⟩:=a7.mp hd;have ht:=adz hc;simp_arith![ends];refine last ?_;simp_arith[gU];cases h42:(c==42) with
   |true=>
    rw[h42,if_pos rfl]at ht;simp_arith[ends];refine ⟨gP (by decide),hk _ _ ⟨⟨some (.str [c]),?_⟩,rfl⟩⟩;rw[ht,Nat.pow_succ,Int.natCast_mul];rfl
   |false=>
    rw[h42,if_neg br]at ht;simp_arith[ends];refine hk _ _ ⟨⟨some (.str [c]),?_⟩,rfl⟩;rw[ht];rfl
  ·rintro ρ G' ⟨⟨o2,rfl⟩,rfl⟩;rw[ah,ez];refine hM _ _ ?_;simp_arith[ends]
 ·cases h
def oI:Option Int->D
 |some i=>.int i
 |none=>.non
inductive T where
 |lf (r:List (Option Int))
 |sp (i:Int) (z o:T)
noncomputable def T.d(name:List Nat):T->D
 |.lf r=>.tup (.str name::r.map oI)
 |.sp i z o=>.tup [.str j8,.int i,z.d name,o.d name]
def T.dep:T->Nat
 |.lf _=>0
 |.sp _ z o=>max z.dep o.dep+1
def jd(b:List Nat)(i:Int):Bool:=decide (0<=i)&&b[i.toNat]?==some 42
noncomputable def T.lvs:T->List Nat->Option (List (List Nat×List (Option Int)))
 |.lf r,b=>some [(b,r)]
 |.sp i z o,b=>match jd b i with
  |true=>(match z.lvs (b.set i.toNat 48),o.lvs (b.set i.toNat 49) with |some l,some m=>some (l++m) |_,_=>none)
  |false=>none
def kj(name:List Nat)(x:List Nat×List (Option Int)):D:=.tup [.str x.1,.tup (.str name::x.2.map oI)]
noncomputable def dF(name:List Nat):Option (List (List Nat×List (Option Int)))->D
 |none=>.non
 |some l=>.lst (l.map (kj name))
theorem T.lvs_len:∀(t:T){b:List Nat}{l:List (List Nat×List (Option Int))},t.lvs b=some l->l.length<=2 ^ t.dep
 |.lf r,b,l,h=>by cases h;exact Nat.one_le_two_pow
 |.sp i z o,b,l,h=>by
  rw[T.lvs]at h;split at h
  ·split at h
   ·rename_i l1 l2 h1 h2;cases h;have e1:=z.lvs_len h1;have e2:=o.lvs_len h2;have e3:=Nat.pow_le_pow_right (show 0 < 2 by decide) (Nat.le_max_left z.dep o.dep);have e4:=Nat.pow_le_pow_right (show 0 < 2 by decide) (Nat.le_max_right z.dep o.dep);rw[aI,T.dep,Nat.pow_succ];omega
   ·cases h
  ·cases h
theorem T.lvs_len'{n:Nat}{t:T}{b:List Nat}{l:List (List Nat×List (Option Int))}(h:t.lvs b=some l)(hn:t.dep < n)(hn':n<=12):l.length<=4096:=by
 have h1:=t.lvs_len h;have h3:=Nat.pow_le_pow_right (show 0 < 2 by decide) (show t.dep<=12 by omega);have h4:2 ^ 12=4096:=by decide
 omega
structure TA where
 name:List Nat
 b:List Nat
 t:T
def Oc(n:Nat)(a:TA):Prop:=a.name≠j8/\a.b.length<=12/\a.t.dep < n/\n<=12
def dG(n:Nat):RF.Spec:=cR (λa:TA=>[.str a.b,a.t.d a.name]) (Oc n) (λa=>dF a.name (a.t.lvs a.b))
theorem vG{n:Nat}{name b:List Nat}{t:T}{G:DH}{k:D->DH->Prop}{E:EK}(h1:name≠j8)(h2:b.length<=12)(h3:t.dep < n)(h4:n<=12)(hk:k (dF name (t.lvs b)) G):(dG n).t [.str b,t.d name] G k E:=dO ⟨name,b,t⟩ rfl ⟨h1,h2,h3,h4⟩ hk
theorem adB(ds:List D)(G:DH)(a:(dG 0).A):¬(dG 0).pre ds G a:=λ⟨_,_,_,_,h,_⟩=>by omega
theorem adC{b:List Nat}{i:Int}(h:jd b i=true):0<=i/\∃n:Nat,i=n/\n < b.length/\b[n]?=some 42:=by
 unfold jd at h;rw[ae]at h;have h1:=dc h.1;have h2:b[i.toNat]?=some 42:=by simpa using h.2
 exact ⟨h1,i.toNat,by omega,(ar.mp h2).1,h2⟩
theorem adD (Φ:aa) (n:Nat) (h0:Φ "leaves"=dG n) (h1:Φ "is_named"=aD d9) (h2:Φ "is_place"=aD cC) (h3:Φ "with_sign"=aD gW) (a:TA) (G:DH) (h:Oc (n+1) a):aq Φ iT noE (env0 [.str a.b,a.t.d a.name] 3) G (ends λd G'=>G'=G/\d=dF a.name (a.t.lvs a.b)):=by
 obtain ⟨name,b,t⟩:=a;obtain ⟨hne,hbl,hd,hn⟩:=h;dsimp only at hne hbl hd ⊢;cases t with
 |lf r=>
  simp_all_arith[iT];refine seq λM hM=>?_;simp_arith[h1,T.d];refine ady hne ?_;simp_arith[T.lvs,dF,b6,d4,kj];exact ⟨by decide,by decide⟩
 |sp i z o=>
  rw[T.dep]at hd;simp_all_arith[iT];refine seq λM hM=>?_;simp_arith[h1,T.d];refine Ob rfl ?_;simp_arith[ends];refine hM _ _ (seq λM hM=>?_);simp_arith[ends];refine hM _ _ (seq λM hM=>?_);simp_arith[h2];refine bj (d:=.bl (isPlace b.length (.int i))) rfl ?_;cases hst:jd b i with
  |false=>
   rw[T.lvs,hst];cases hp:isPlace b.length (.int i) with
   |false=>simp_arith[dF]
   |true=>
    unfold isPlace at hp;rw[ae]at hp;have p1:=dc hp.1;have p2:=dc hp.2;obtain ⟨m,rfl⟩:∃m:Nat,i=m:=⟨i.toNat,by omega⟩;have hm:m < b.length:=by omega
    have hc:b[m]?=some b[m]:=aS hm;have hne42:((b[m]==42):Bool)=false:=by unfold jd at hst;rw[ay (by omega),d5,ce,hc]at hst;simpa using hst
    simp_arith[ends];refine bH (a:=b[m]) (bK hc) ?_;simp_arith[gU,hne42,dF]
  |true=>
   obtain ⟨_,m,rfl,hm,hc⟩:=adC hst;have hp:isPlace b.length (.int (m:Int))=true:=by show (decide (0<=(m:Int))&&decide ((m:Int) < b.length))=true;rw[ay (by omega),ay (by omega)];rfl
   have hl:(T.sp (m:Int) z o).lvs b=match z.lvs (b.set m 48),o.lvs (b.set m 49) with |some l,some m=>some (l++m) |_,_=>none:=by rw[T.lvs,hst,ce]
   rw[hp];simp_arith[ends];refine bH (a:=42) (bK hc) ?_;simp_arith[BEq.rfl];refine hM _ _ (seq λM hM=>?_);simp_arith[h0,h3];refine vD hm (by omega) (vG hne (by rw[d0];exact hbl) (by omega) (by omega) (hM _ _ (seq λM hM=>?_)));simp_arith[h0,h3];refine vD hm (by omega) (vG hne (by rw[d0];exact hbl) (by omega) (by omega) (hM _ _ (seq λM hM=>?_)));cases e1:z.lvs (b.set m 48) with
   |none=>
    rw[e1]at hl;simp_arith[hl,dF]
   |some l1=>
    cases e2:o.lvs (b.set m 49) with
    |none=>
     rw[e1,e2]at hl;simp_arith[hl,dF]
    |some l2=>
     rw[e1,e2]at hl;have q1:=T.lvs_len' e1 (n:=n) (by omega) (by omega);have q2:=T.lvs_len' e2 (n:=n) (by omega) (by omega);simp_arith[dF];refine hM _ _ (last ?_);simp_arith[ah,dS,hl,dF];have hsz:sz=1000000:=rfl;omega
theorem adE(o:Option Nat):aQ o=oI (o.map λn=>(n:Int)):=by cases o <;> rfl
def km(rss:List (List Row))(c:List Nat):List (Option Int):=rss.map λrs=>(aR rs c).map λn=>(n:Int)
theorem Od{rss:List (List Row)}{c:List Nat}:(km rss c).map oI=rss.map λrs=>aQ (aR rs c):=by unfold km;rw[dL];exact List.map_congr_left λrs _=>(adE _).symm
theorem Lv.tree{name:List Nat}{rss:List (List Row)}{b:List Nat}{d:D}{bs:List (List Nat)}(h:Lv name rss b d bs):∃t:T,d=t.d name/\t.dep<=stc b/\t.lvs b=some (bs.map λc=>(c,km rss c)):=by
 induction h with
 |leaf b h=>exact ⟨.lf (km rss b),by rw[T.d,Od];rfl,fg _,rfl⟩
 |node b n z o l m h _ _ hz ho=>
  obtain ⟨tz,rfl,d1,e1⟩:=hz;obtain ⟨tO,rfl,d2,e2⟩:=ho;have s1:=j9 h (show 48≠42 by decide);have s2:=j9 h (show 49≠42 by decide);refine ⟨.sp n tz tO,rfl,?_,?_⟩
  ·rw[T.dep];have:=Nat.max_le.mpr ⟨show tz.dep<=stc (b.set n 48) from d1,show tO.dep<=stc (b.set n 48) by omega⟩;omega
  ·have hs:jd b (n:Int)=true:=by unfold jd;rw[ay (by omega),ce,h];rfl
   rw[T.lvs,hs,ce,e1,e2];simp
theorem adF{name:List Nat}{rss:List (List Row)}{c:List Nat}:kj name (c,km rss c)=kh name rss c:=by unfold kj kh nP;rw[Od]
theorem Oe{n:Nat}{name:List Nat}{rss:List (List Row)}{b:List Nat}{d:D}{bs:List (List Nat)}{G:DH}{k:D->DH->Prop}{E:EK}(h:Lv name rss b d bs)(h1:name≠j8)(h2:b.length<=12)(h3:stc b < n)(hk:k (.lst (bs.map (kh name rss))) G)(h4:n<=12:=by decide):(dG n).t [.str b,d] G k E:=by
 obtain ⟨t,rfl,e1,e2⟩:=h.tree;refine vG h1 h2 (by omega) h4 ?_;rw[e2,dF,dL];have:(kj name∘λc=>(c,km rss c))=kh name rss:=by funext c;exact adF
 rw[this];exact hk
noncomputable def kE:List D->Option D
 |[.str f,.str g]=>if decide (g.length<=100000) then some (.bl (dY g f)) else none
 |_=>none
theorem adG (Φ:aa) (h1:Φ "fits"=aD nJ) (ds:List D) (G:DH) (d:D) (h:kE ds=some d):aq Φ mX noE (env0 ds 0) G (ends λd' G'=>G'=G/\d'=d):=by
 unfold kE at h;split at h
 ·rename_i f g;split at h
  ·rename_i hl;cases h;simp_arith[mX,h1];exact bj (d:=.bl (dY g f)) (if_pos hl) ⟨rfl,rfl⟩
  ·cases h
 ·cases h
theorem adH{f g:List Nat}{G:DH}{k:D->DH->Prop}{E:EK}(h:g.length<=1000)(hk:k (.bl (dY g f)) G):(aD kE).t [.str f,.str g] G k E:=bj (if_pos (ay (by omega))) hk
def bZ:List Nat->List (List Nat)
 |[]=>[[]]
 |c::f=>(alt c).flatMap λs=>(bZ f).map (s::·)
theorem Og:∀(f:List Nat)(acc:List (List Nat)),f.foldl step1 acc=acc.flatMap λt=>(bZ f).map (t ++ ·)
 |[],acc=>by simp[bZ]
 |c::f,acc=>by
  rw[List.foldl_cons,Og f,step1,List.flatMap_assoc];congr 1;funext t;rw[bZ,List.flatMap_map,List.map_flatMap];congr 1;funext s;rw[dL];congr 1;funext x;simp
theorem nR(f:List Nat):cX f=bZ f:=by unfold cX;rw[Og];simp
theorem Oh:∀(b:List Nat),(bZ b).length=2 ^ stc b
 |[]=>rfl
 |c::b=>by
  have ih:=Oh b;rw[bZ];unfold alt stc;unfold stc at ih;split
  ·rename_i h;subst h;simp[ih,Nat.pow_succ];omega
  ·rename_i h;simp[ih,h]
theorem Oi:∀(b:List Nat)(n:Nat)(p:List Nat->Bool),b[n]?=some 42->(bZ b).countP p=(bZ (b.set n 48)).countP p+(bZ (b.set n 49)).countP p
 |[],n,p,h=>by simp at h
 |c::b,0,p,h=>by
  have:c=42:=by simpa using h
  subst this;simp[bZ,alt,fx]
 |c::b,n+1,p,h=>by
  have h':b[n]?=some 42:=by simpa using h
  have ih:=λq=>Oi b n q h';rw[List.set_cons_succ,List.set_cons_succ,bZ,bZ,bZ];unfold alt;split
  ·simp only[fI,List.flatMap_nil,ee,fx,List.countP_map,ih];omega
  ·simp only[fI,List.flatMap_nil,ee,List.countP_map,ih]
def atN(rs:List Row):Option Nat->Nat
 |some n=>n
 |none=>rs.length
noncomputable def eE(rs:List Row)(bs:List (List Nat))(k:Nat):Nat:=(bs.map λb=>if atN rs (aR rs b)=k then 2 ^ stc b else 0).sum
theorem adI{w:Nat}{name:List Nat}{rs:List Row}{b:List Nat}{d:D}{bs:List (List Nat)}{k:Nat}(h:Lv name [rs] b d bs):okF w b->(∀r∈rs,r.1.length=w)->eE rs bs k=(cX b).countP λl=>atN rs (dD rs l)==k:=by
 induction h with
 |leaf b h=>
  intro hb hf;have hm:∀l∈cX b,dD rs l=aR rs b:=λl hl=>N8 (λr hr=>by rw[hf r hr,hb.1]) (h rs (by simp)) (Oa hb (nF.mp hl)) (nF.mp hl);have e:(cX b).countP (λl=>atN rs (dD rs l)==k)=(cX b).countP (λ_=>atN rs (aR rs b)==k):=List.countP_congr λl hl=>by rw[hm l hl]
  rw[e];unfold eE;rw[b6,d4,List.sum_cons,List.sum_nil,Nat.add_zero];by_cases hk:atN rs (aR rs b)=k
  ·rw[if_pos hk,av.mpr hk,List.countP_true,nR,Oh]
  ·rw[if_neg hk,bP.mpr hk];simp
 |node b n z o l m h _ _ hz ho=>
  intro hb hf;have e1:=hz (vB hb NK) hf;have e2:=ho (vB hb NQ) hf;have e3:eE rs (l++m) k=eE rs l k+eE rs m k:=by unfold eE;rw[dS,List.sum_append]
  rw[e3,e1,e2,nR,nR,nR];exact (Oi b n _ h).symm
def tell(n:Nat)(f:Nat->Nat):List D:=(List.range n).map λk=>D.int (f k:Int)
theorem vH{n:Nat}{f:Nat->Nat}:(tell n f).length=n:=by simp[tell]
theorem adJ{α:Type}(l:List α):l.map (λ_=>D.int 0)++[D.int 0]=tell (l.length+1) λ_=>0:=by unfold tell;rw[List.range_succ,dS];congr 1;rw[List.eq_replicate_of_mem (a:=D.int 0) (l:=l.map λ_=>D.int 0) (λx hx=>by obtain ⟨_,_,rfl⟩:=cm.mp hx;rfl)];rw[ah];exact (List.eq_replicate_iff.mpr ⟨by simp,λx hx=>by obtain ⟨_,_,rfl⟩:=cm.mp hx;rfl⟩).symm
theorem vI{n a:Nat}{f:Nat->Nat}(h:a < n):(tell n f)[a]?=some (.int (f a:Int)):=by unfold tell;rw[a9,List.getElem?_range h];rfl
theorem adK{n a v:Nat}{f g:Nat->Nat}(h:a < n)(hg:∀k,g k=f k+if a=k then v else 0):(tell n f).set a (.int ((f a:Int)+(v:Int)))=tell n g:=by
 apply List.ext_getElem?;intro j;rw[List.getElem?_set,vH];by_cases hj:a=j
 ·subst hj;rw[if_pos rfl,if_pos h,vI h,hg,if_pos rfl];simp
 ·rw[if_neg hj];by_cases hjn:j < n
  ·rw[vI hjn,vI hjn,hg,if_neg hj];simp
  ·rw[fT (by rw[vH];omega),fT (by rw[vH];omega)]
theorem adL{rs:List Row}{o:Option Nat}(h:∀n,o=some n->n < rs.length):atN rs o < rs.length+1:=by
 cases o with
 |none=>exact Nat.lt_succ_self _
 |some n=>have:=h n rfl;show n < _;omega
theorem adM{rs:List Row}{bs:List (List Nat)}{b:List Nat}{k:Nat}:eE rs (bs++[b]) k=eE rs bs k+if atN rs (aR rs b)=k then 2 ^ stc b else 0:=by unfold eE;rw[dS,List.sum_append];simp
noncomputable def vJ(w:Nat)(rs:List Row):List D:=tell (rs.length+1) λk=>(cX (List.replicate w 42)).countP λl=>atN rs (dD rs l)==k
def adN:RF.Spec:=ghS (A:=Nat×List Row) (λa ds _=>ds=[au a.1 a.2]/\okB a.1 a.2) (λa G d G'=>∃q,d=.ref q/\G q=none/\G' q=some (.lst (vJ a.1 a.2))/\Sa G G')
def nT:RF.Spec:=orX adN gn
theorem adO{w:Nat}{rs:List Row}{G:DH}{k:D->DH->Prop}{E:EK}(h:okB w rs)(hk:∀q G',G q=none->G' q=some (.lst (vJ w rs))->Sa G G'->k (.ref q) G'):nT.t [au w rs] G k E:=
 dW (cW (w,rs) ⟨rfl,h⟩ λd G' ⟨q,e1,e2,e3,e4⟩=>by subst e1;exact hk q G' e2 e3 e4)
theorem adP (Φ:aa) (h1:Φ "laid"=jc) (h2:Φ "leaves"=dG 9) (h3:Φ "stars"=aD dZ) (h4:Φ "how_many"=aD nQ) (a:Nat×List Row) (ds:List D) (G:DH) (h:ds=[au a.1 a.2]/\okB a.1 a.2):
  aq Φ iU noE (env0 ds 7) G (ends λd G'=>∃q,d=.ref q/\G q=none/\G' q=some (.lst (vJ a.1 a.2))/\Sa G G'):=by
 obtain ⟨w,rs⟩:=a;obtain ⟨rfl,hb⟩:=h;dsimp only at hb ⊢;have hw6:=hb.w6;have hlen:=hb.len;have hst:=zF w;simp_all_arith[iU];refine seq λM hM=>?_;simp_arith[h1];refine N5 hb λt ht=>hM _ _ (seq λM hM=>?_);obtain ⟨bs,hL⟩:=ht.lv;simp_arith[au];refine hM _ _ (seq λM hM=>?_);simp_arith[ends];refine CompG.map (f:=λ_=>.int 0) (I:=λρ=>∃o,ρ=[o]) ⟨_,rfl⟩ trivial (by simp;have hsz:sz=1000000:=rfl;omega) ?_ ?_
 ·rintro d ρ hd ⟨o,rfl⟩ kk hk;simp_arith[ends];exact hk _ ⟨_,rfl⟩
 rw[dL];simp_arith[Function.comp_def,ah];refine ⟨by have hsz:sz=1000000:=rfl;omega,by have hsz:sz=1000000:=rfl;omega,?_⟩;intro q hq;rw[adJ];refine hM _ _ (seq λM hM=>?_);simp_arith![h2,h3];refine bj (d:=.str (List.replicate w 42)) (by unfold dZ;dsimp only;rw[if_pos (by simp only[ae,bg];omega),ce]) ?_;refine Oe hL (by decide) (by rw[ca];omega) (by omega) ?_;simp_arith![ends];refine ForG.inv (P:=λi ρ G'=>(∃o5 o6 o7,ρ=[some (.tup [.int w,.tup (rs.map aA)]),some t,some (.int w),some (.tup (rs.map aA)),some (.ref q),o5,o6,o7])/\G' q=some (.lst (tell (rs.length+1) (eE rs (bs.take i))))/\Sa G G') ⟨⟨_,_,_,rfl⟩,bI,Sa.new hq⟩ (λ_ _ _ _=>trivial) ?_ ?_
 ·rintro i d ρ G' hd ⟨⟨o5,o6,o7,rfl⟩,g1,sa⟩ kk hk;rw[a9]at hd;obtain ⟨b,hbb,rfl⟩:=a7.mp hd;have hat:atN rs (aR rs b) < rs.length+1:=adL λn hn=>nO hn;have htk:bs.take (i+1)=bs.take i++[b]:=by rw[d6,hbb];rfl
  simp_arith![kh,nP];refine seq λM hM=>?_;have step:∀(R:D->DH->Prop) (B C:ak->DH->Prop) o6,aq Φ (.cons (.augs (.var 4) (.var 7) .Add (.call "how_many" (.cons (.var 5) .nil))) .nil) noE [some (.tup [.int w,.tup (rs.map aA)]),some t,some (.int w),some (.tup (rs.map aA)),some (.ref q),some (.str b),o6,some (.int (atN rs (aR rs b):Nat))] G' ⟨kk,R,B,C⟩:=by intro R B C o6;refine last ?_;simp_arith[h4,cL g1];refine bH (a:=.int (eE rs (bs.take i) (atN rs (aR rs b)):Nat)) (bK (vI hat)) ?_;refine bj (d:=.int ((2 ^ stc b:Nat):Int)) rfl ?_;simp_arith[dB g1,vH,Ho hat];refine hk _ _ ⟨⟨_,_,_,rfl⟩,?_,sa.then hq Sb.upd⟩;rw[bI,htk,adK hat λk=>adM]
  cases ht:aR rs b with
  |none=>
   rw[ht]at step;simp_arith[aQ,ah];exact hM _ _ (step _ _ _ _)
  |some n=>
   rw[ht]at step;simp_arith[aQ];exact hM _ _ (step _ _ _ _)
 ·rintro ρ G' ⟨⟨o5,o6,o7,rfl⟩,g1,sa⟩;rw[ah,ez]at g1;refine hM _ _ ?_;simp_arith[ends];refine ⟨q,rfl,hq,?_,sa⟩;rw[g1];unfold vJ;have:eE rs bs=λk=>(cX (List.replicate w 42)).countP λl=>atN rs (dD rs l)==k:=by
   funext k;exact adI hL (Nv w) λr hr=>(hb.form r hr).1
  rw[this]
theorem adQ (Φ:aa) (h1:Φ "laid"=jc) (ds:List D) (G:DH) (C:String) (h:gn ds C):aq Φ iU (λx G'=>x=⟨C,.non⟩/\G'=G) (env0 ds 7) G (ends λ_ _=>False):=by have h0:=h;obtain ⟨rfl,x,rfl,hx⟩:=h;simp_all_arith[iU];refine seq λM hM=>?_;simp_arith[h1];exact bY h0 ⟨rfl,rfl⟩
def zG(rs:List Row)(i:Int):List Nat:=match rs[i.toNat]? with |some r=>r.1 |none=>[]
noncomputable def fB(rs:List Row)(b:List Nat):Option Int->Bool
 |none=>(aR rs b).isNone
 |some i=>isPlace rs.length (.int i)&&(dY (zG rs i) b&&aR rs b==some i.toNat)
def vK:RF.Spec:=cR (λa:List Row×List Nat×Option Int=>[.tup (a.1.map aA),.str a.2.1,oI a.2.2]) (λa=>∀r∈a.1,r.1.length<=1000) (λa=>.bl (fB a.1 a.2.1 a.2.2))
theorem adR{rs:List Row}{b:List Nat}{x:Option Int}{G:DH}{k:D->DH->Prop}{E:EK}(h:∀r∈rs,r.1.length<=1000)(hk:k (.bl (fB rs b x)) G):vK.t [.tup (rs.map aA),.str b,oI x] G k E:=dO (rs,b,x) rfl h hk
theorem adS{rs:List Row}{i:Int}(h:isPlace rs.length (.int i)=true):∃(n:Nat)(hn:n < rs.length),i=n/\rs[n]?=some rs[n]:=by unfold isPlace at h;rw[ae]at h;have p1:=dc h.1;have p2:=dc h.2;exact ⟨i.toNat,by omega,by omega,aS _⟩
theorem adT (Φ:aa) (h1:Φ "first_touching"=j7) (h2:Φ "is_place"=aD cC) (h3:Φ "lies_in"=aD kE) (a:List Row×List Nat×Option Int) (G:DH) (h:∀r∈a.1,r.1.length<=1000):
  aq Φ mY noE (env0 [.tup (a.1.map aA),.str a.2.1,oI a.2.2] 0) G (ends λd G'=>G'=G/\d=.bl (fB a.1 a.2.1 a.2.2)):=by
 obtain ⟨rs,b,x⟩:=a;dsimp only at h ⊢;simp_all_arith[mY];refine seq λM hM=>?_;cases x with
 |none=>
  simp_arith[oI,h1];refine vz h ?_;cases ht:aR rs b with
  |none=>simp_arith[aQ,fB,ht,Option.isNone_none,ef]
  |some n=>simp_arith[aQ,fB,ht,Option.isNone_some,ef]
 |some i=>
  simp_arith[oI];refine hM _ _ (seq λM hM=>?_);simp_arith[h2,ah];refine bj (d:=.bl (isPlace rs.length (.int i))) rfl ?_;cases hp:isPlace rs.length (.int i) with
  |false=>simp_arith[fB,hp,dy,ef]
  |true=>
   obtain ⟨n,hn,rfl,hc⟩:=adS hp;have hf:zG rs (n:Int)=rs[n].1:=by unfold zG;rw[ce,hc]
   have hat:atI (rs.map aA) (n:Int)=some (aA rs[n]):=bK (by rw[a9,hc];rfl);simp_arith[ends];refine bH hat ?_;simp_arith[aA,h3];refine adH (h _ (ck _)) ?_;cases hfb:dY rs[n].1 b with
   |false=>simp_arith[fB,hf,hfb,hp,dy,db,ef]
   |true=>
    simp_arith[ends];refine hM _ _ ?_;simp_arith[h1];refine vz h ?_;cases ht:aR rs b with
    |none=>simp_arith[aQ,fB,hf,hfb,hp,ht,d5,eK];rfl
    |some m=>
     have e:(((m:Int)==(n:Int)):Bool)=(some m==some (n:Int).toNat):=by rw[ce,fv];simp;omega
     simp_arith[aQ,fB,hf,hfb,hp,ht,d5,e,ef]
def nU(f:Option Int->Bool):List (Option Int)->Bool
 |[y]=>f y
 |_=>false
noncomputable def nW(rs:List Row)(o:Option (List (List Nat×List (Option Int)))):Bool:=match o with
 |none=>false
 |some l=>l.all λx=>nU (fB rs x.1) x.2
def adU:RF.Spec:=cR (λa:Nat×List Row×T=>[au a.1 a.2.1,a.2.2.d gq]) (λa=>okB a.1 a.2.1/\a.2.2.dep < 9) (λa=>.bl (nW a.2.1 (a.2.2.lvs (List.replicate a.1 42))))
def Oj (ds:List D) (C:String):Prop:=C="NoBook"/\∃x y,ds=[x,y]/\cT x
def nY:RF.Spec:=orX adU Oj
theorem adV{w:Nat}{rs:List Row}{t:T}{G:DH}{k:D->DH->Prop}{E:EK}(h1:okB w rs)(h2:t.dep < 9)(hk:k (.bl (nW rs (t.lvs (List.replicate w 42)))) G):nY.t [au w rs,t.d gq] G k E:=dW (dO (w,rs,t) rfl ⟨h1,h2⟩ hk)
theorem Ol{w:Nat}{G:DH}{k:D->DH->Prop}{E:EK}(h:w<=1000)(hk:k (.str (List.replicate w 42)) G):(aD dZ).t [.int w] G k E:=
 bj (d:=.str (List.replicate w 42)) (by unfold dZ;dsimp only;rw[if_pos (by simp only[ae,bg];omega),ce]) hk
theorem adW{α:Type}(f:α->Bool)(l:List α):(l.map f).all id=l.all f:=by induction l with |nil=>rfl |cons a l ih=>simp[ih]
theorem adX (Φ:aa) (h1:Φ "need_book"=cA) (h2:Φ "leaves"=dG 9) (h3:Φ "stars"=aD dZ) (h4:Φ "is_named"=aD d9) (h5:Φ "is_met"=vK) (a:Nat×List Row×T) (G:DH) (h:okB a.1 a.2.1/\a.2.2.dep < 9):
  aq Φ iV noE (env0 [au a.1 a.2.1,a.2.2.d gq] 3) G (ends λd G'=>G'=G/\d=.bl (nW a.2.1 (a.2.2.lvs (List.replicate a.1 42)))):=by
 obtain ⟨w,rs,t⟩:=a;obtain ⟨hb,hd⟩:=h;dsimp only at hb hd ⊢;have hw6:=hb.w6;have hrl:∀r∈rs,r.1.length<=1000:=λr hr=>by rw[(hb.form r hr).1];omega
 simp_all_arith[iV];refine seq λM hM=>?_;simp_arith[h1];refine eZ hb (hM _ _ (seq λM hM=>?_));simp_arith[au];refine hM _ _ (seq λM hM=>?_);simp_arith[h2,h3];refine Ol (by omega) (vG (by decide) (by rw[ca];omega) hd (by decide) (hM _ _ (seq λM hM=>?_)));cases hl:t.lvs (List.replicate w 42) with
 |none=>simp_arith[dF,nW,ef]
 |some l=>
  have hlen:=T.lvs_len' hl hd (by decide);simp_arith[dF];refine hM _ _ (last ?_);simp_arith[ends];refine CompG.inv (P:=λi acc ρ G'=>(∃o1 o2,ρ=[o1,o2,some (.tup (rs.map aA))])/\G'=G/\acc=(l.take i).map λx=>D.bl (nU (fB rs x.1) x.2)) ⟨⟨_,_,rfl⟩,rfl,rfl⟩ (λ_ _ _ _ _=>trivial) (by rw[ah];have hsz:sz=1000000:=rfl;omega) ?_ ?_
  ·rintro i d acc ρ G' hd' ⟨⟨o1,o2,rfl⟩,rfl,rfl⟩ kk hk;rw[a9]at hd';obtain ⟨⟨c,r⟩,hx,rfl⟩:=a7.mp hd';have htk:l.take (i+1)=l.take i++[(c,r)]:=by rw[d6,hx];rfl
   simp_arith[kj,h4];cases r with
   |nil=>
    refine bj (d:=.bl false) (by unfold d9;rfl) ?_;simp_arith[ends];exact hk _ _ _ ⟨⟨_,_,rfl⟩,rfl,by rw[htk];simp[nU]⟩
   |cons y r=>
    cases r with
    |nil=>
     refine Ob rfl ?_;simp_arith[h5,b6,d4];refine adR hrl ?_;exact hk _ _ _ ⟨⟨_,_,rfl⟩,rfl,by rw[htk];simp[nU]⟩
    |cons z r=>
     refine bj (d:=.bl false) (by
      unfold d9;have:(((((List.map oI (y::z::r)).length+1:Nat):Int)==1+1):Bool)=false:=by rw[bP];simp;omega
      dsimp only;rw[this,dy]) ?_
     simp_arith[ends];exact hk _ _ _ ⟨⟨_,_,rfl⟩,rfl,by rw[htk];simp[nU]⟩
  ·rintro acc ρ G' ⟨_,rfl,rfl⟩;rw[ah,ez];simp_arith[iI,nW,adW,hl,ef]
theorem adY (Φ:aa) (h1:Φ "need_book"=cA) (ds:List D) (G:DH) (C:String) (h:Oj ds C):aq Φ iV (λx G'=>x=⟨C,.non⟩/\G'=G) (env0 ds 3) G (ends λ_ _=>False):=by obtain ⟨rfl,x,y,rfl,hx⟩:=h;simp_all_arith[iV];refine seq λM hM=>?_;simp_arith[h1];exact j4 hx ⟨rfl,rfl⟩
def cD(l:List Nat):List Nat:=l.map λa=>if a=42 then 48 else a
noncomputable def kI:List D->Option D
 |[.str l]=>if decide (l.length<=1000) then some (.str (cD l)) else none
 |_=>none
theorem adZ{l:List Nat}{G:DH}{k:D->DH->Prop}{E:EK}(h:l.length<=1000)(hk:k (.str (cD l)) G):(aD kI).t [.str l] G k E:=bj (if_pos (ay h)) hk
theorem ad0{b l:List Nat}{n:Nat}(h:Fits b l)(hn:b[n]?=some 42):Fits (b.set n 48) l\/Fits (b.set n 49) l:=by
 obtain ⟨hl,he⟩:=ar.mp hn;have hnl:n < l.length:=by rw[<-h.1];exact hl
 have hs:=h.2 n 42 l[n] hn (aS hnl);have put:∀c,l[n]=c->c≠42->Fits (b.set n c) l:=by
  intro c hc hc42;refine ⟨by rw[d0];exact h.1,λi x y hx hy=>?_⟩;rw[List.getElem?_set]at hx;by_cases hi:n=i
  ·subst hi;rw[if_pos rfl,if_pos hl]at hx;rw[aS hnl]at hy;cases hx;cases hy;unfold alt;rw[if_neg hc42,hc];simp
  ·rw[if_neg hi]at hx;exact h.2 i x y hx hy
 unfold alt at hs;rw[if_pos rfl]at hs;have:l[n]=48\/l[n]=49:=by simpa using hs
 rcases this with e |e
 ·exact .inl (put 48 e (by decide))
 ·exact .inr (put 49 e (by decide))
theorem Om{b l:List Nat}{n c:Nat}(h:Fits (b.set n c) l)(hn:b[n]?=some 42)(hc:c=48\/c=49):Fits b l:=by
 have hl:=(ar.mp hn).1;refine ⟨by have:=h.1;rwa [d0]at this,λi x y hx hy=>?_⟩;by_cases hi:n=i
 ·subst hi;rw[hn]at hx;cases hx;have:=h.2 n c y (by rw[List.getElem?_set,if_pos rfl,if_pos hl]) hy;unfold alt at this ⊢;rw[if_neg (by omega)]at this;rw[if_pos rfl];have e:y=c:=by simpa using this
  rw[e];simpa using hc
 ·exact h.2 i x y (by rw[List.getElem?_set,if_neg hi];exact hx) hy
theorem Lv.cover{name:List Nat}{rss:List (List Row)}{b:List Nat}{d:D}{bs:List (List Nat)}(h:Lv name rss b d bs):∀l,Fits b l->∃c∈bs,Fits c l:=by
 induction h with
 |leaf b h=>exact λl hl=>⟨b,by simp,hl⟩
 |node b n z o l m h _ _ hz ho=>
  intro w hw;rcases ad0 hw h with e |e
  ·obtain ⟨c,hc,hf⟩:=hz w e;exact ⟨c,bb.mpr (.inl hc),hf⟩
  ·obtain ⟨c,hc,hf⟩:=ho w e;exact ⟨c,bb.mpr (.inr hc),hf⟩
theorem Lv.within{name:List Nat}{rss:List (List Row)}{b:List Nat}{d:D}{bs:List (List Nat)}(h:Lv name rss b d bs):∀c∈bs,∀l,Fits c l->Fits b l:=by
 induction h with
 |leaf b h=>intro c hc l hl;rw[ba.mp hc]at hl;exact hl
 |node b n z o l m h _ _ hz ho=>
  intro c hc w hw;rcases bb.mp hc with hc |hc
  ·exact Om (hz c hc w hw) h (.inl rfl)
  ·exact Om (ho c hc w hw) h (.inr rfl)
theorem ad1{a s:Nat}{f l:List Nat}(h:Fits (a::f) (s::l)):s∈alt a/\Fits f l:=
 ⟨h.2 0 a s rfl rfl,by have:=h.1;simpa using this,λi c t h1 h2=>h.2 (i+1) c t (by simpa using h1) (by simpa using h2)⟩
theorem ad2{a s:Nat}{f l:List Nat}(h1:s∈alt a)(h2:Fits f l):Fits (a::f) (s::l):=⟨by simp[h2.1],λi c t hc ht=>by
 cases i with
 |zero=>simp at hc ht;rw[<-hc,<-ht];exact h1
 |succ i=>exact h2.2 i c t (by simpa using hc) (by simpa using ht)⟩
theorem zH:∀c:List Nat,Fits c (cD c)
 |[]=>⟨rfl,λi c s h=>by simp at h⟩
 |a::c=>by
  show Fits (a::c) ((if a=42 then 48 else a)::cD c);refine ad2 ?_ (zH c);unfold alt;split <;> simp
theorem Oo:∀{c l:List Nat},Fits c l->¬l < cD c
 |[],l,h=>by
  have:l=[]:=df.mp h.1.symm;subst this;exact List.lt_irrefl _
 |a::c,[],h=>by have:=h.1;simp at this
 |a::c,s::l,h=>by
  obtain ⟨h1,h2⟩:=ad1 h;show ¬(s::l) < ((if a=42 then 48 else a)::cD c);rw[gc];have ih:=Oo h2;unfold alt at h1;split at h1
  ·rename_i e;rw[if_pos e];have:s=48\/s=49:=by simpa using h1
   rintro (q |q)
   ·omega
   ·exact ih q.2
  ·rename_i e;rw[if_neg e];have:s=a:=by simpa using h1
   rintro (q |q)
   ·omega
   ·exact ih q.2
theorem Oq:∀{x m a:List Nat},x < m->¬a < m->x < a
 |x,[],a,h,_=>absurd h (by simp)
 |x,b::m,[],_,h=>absurd (by simp) h
 |[],b::m,y::a,_,_=>by simp
 |c::x,b::m,y::a,h,g=>by
  rw[gc]at h g ⊢;have g1:¬y < b:=λe=>g (.inl e);rcases h with h |⟨h1,h2⟩
  ·exact .inl (by omega)
  ·by_cases e:y=b
   ·exact .inr ⟨by omega,Oq h2 λz=>g (.inr ⟨e,z⟩)⟩
   ·exact .inl (by omega)
theorem Ot:∀f:List Nat,(bZ f).Pairwise (· < ·)
 |[]=>by simp[bZ]
 |c::f=>by
  have ih:=Ot f;have one:∀s:Nat,((bZ f).map (s::·)).Pairwise (· < ·):=λs=>List.pairwise_map.mpr (ih.imp λh=>gc.mpr (.inr ⟨rfl,h⟩));rw[bZ];unfold alt;split
  ·rw[fI,fI,List.flatMap_nil,ee,List.pairwise_append];refine ⟨one 48,one 49,λa ha b hb=>?_⟩;obtain ⟨x,_,rfl⟩:=cm.mp ha;obtain ⟨y,_,rfl⟩:=cm.mp hb;exact gc.mpr (.inl (by decide))
  ·rw[fI,List.flatMap_nil,ee];exact one c
theorem ad3{u:List (List Nat)}{m:List Nat}(h:u.Pairwise (· < ·))(hm:m∈u)(hl:∀x∈u,¬x < m):u.head?=some m:=by
 cases u with
 |nil=>cases hm
 |cons a u=>
  rcases bn.mp hm with e |hm
  ·rw[e];rfl
  ·exact absurd ((List.pairwise_cons.mp h).1 m hm) (hl a bS)
theorem ad4{ds:List D}{ls:List (List Nat)}{k:D->Prop}(h0:bT ds=none)(h:bz ds=some ls)(hk:∀m,m∈ls->(∀a,a∈ls->¬a < m)->k (.str m)):opB .min [.lst ds] k:=by show lD [.lst ds] k;unfold lD;dsimp only;rw[h0,h];exact hk
def ad5:RF.Spec:=cR (λa:Nat×List Row×Nat=>[au a.1 a.2.1,.int a.2.2]) (λa=>okB a.1 a.2.1/\a.2.2 < a.2.1.length) (λ_=>.non)
def ad6(rs:List Row)(y:D):Prop:=nr y=true/\isPlace (rs.length:Int) y=false
def gr (ds:List D) (C:String):Prop:=(C="NoBook"/\∃x y,ds=[x,y]/\cT x)\/(C="NoRow"/\∃w rs y,ds=[au w rs,y]/\okB w rs/\ad6 rs y)
def nZ:RF.Spec:=orX ad5 gr
theorem Ou{ds:List D}{C:String}(h:gr ds C):∃a b,ds=[a,b]:=by
 rcases h with ⟨_,x,y,e,_⟩ |⟨_,w,rs,y,e,_⟩
 ·exact ⟨_,_,e⟩
 ·exact ⟨_,_,e⟩
theorem ad7{w n:Nat}{rs:List Row}{G:DH}{k:D->DH->Prop}{E:EK}(h:okB w rs)(hn:n < rs.length)(hk:k .non G):nZ.t [au w rs,.int n] G k E:=dW (dO (w,rs,n) rfl ⟨h,hn⟩ hk)
theorem ad8 (Φ:aa) (h1:Φ "need_book"=cA) (h2:Φ "is_place"=aD cC) (a:Nat×List Row×Nat) (G:DH) (h:okB a.1 a.2.1/\a.2.2 < a.2.1.length):aq Φ gM noE (env0 [au a.1 a.2.1,.int a.2.2] 0) G (ends λd G'=>G'=G/\d=.non):=by obtain ⟨w,rs,n⟩:=a;obtain ⟨hb,hn⟩:=h;dsimp only at hb hn ⊢;simp_all_arith[gM];refine seq λM hM=>?_;simp_arith[h1];refine eZ hb (hM _ _ (last ?_));simp_arith[au,h2,ah];refine adw hn ?_;simp_arith[ef]
theorem ad9 (Φ:aa) (h1:Φ "need_book"=cA) (h2:Φ "is_place"=aD cC) (ds:List D) (G:DH) (C:String) (h:gr ds C):aq Φ gM (λx G'=>x=⟨C,.non⟩/\G'=G) (env0 ds 0) G (ends λ_ _=>False):=by
 rcases h with ⟨rfl,x,y,rfl,hx⟩ |⟨rfl,w,rs,y,rfl,hb,hy,hn⟩
 ·simp_all_arith[gM];refine seq λM hM=>?_;simp_arith[h1];exact j4 hx ⟨rfl,rfl⟩
 ·have hlen:=hb.len;simp_all_arith[gM];refine seq λM hM=>?_;simp_arith[h1];refine eZ hb (hM _ _ (last ?_));simp_arith[au,h2,ah];refine bj (d:=.bl false) (by rw[<-hn];exact if_pos hy) ?_;simp_arith[au,ah,ef,eK];unfold rD;rw[ae];exact ⟨ay (by omega),ay (by omega)⟩
def zJ:List Nat:=[115,97,109,101]
def zK:List Nat:=[112,97,114,116,101,100]
def zL:List Nat:=[97,108,105,107,101]
def vL:RF.Spec:=cR (λa:Nat×List Row×List Row=>[au a.1 a.2.1,au a.1 a.2.2]) (λa=>okB a.1 a.2.1/\okB a.1 a.2.2) (λ_=>.non)
theorem aea{w:Nat}{rs ss:List Row}{G:DH}{k:D->DH->Prop}{E:EK}(h:okB w rs)(h':okB w ss)(hk:k .non G):vL.t [au w rs,au w ss] G k E:=dO (w,rs,ss) rfl ⟨h,h'⟩ hk
theorem aeb (Φ:aa) (h1:Φ "need_book"=cA) (a:Nat×List Row×List Row) (G:DH) (h:okB a.1 a.2.1/\okB a.1 a.2.2):aq Φ mZ noE (env0 [au a.1 a.2.1,au a.1 a.2.2] 0) G (ends λd G'=>G'=G/\d=.non):=by obtain ⟨w,rs,ss⟩:=a;obtain ⟨hb,hc⟩:=h;dsimp only at hb hc ⊢;simp_all_arith[mZ];refine seq λM hM=>?_;simp_arith[h1];refine eZ hb (hM _ _ (seq λM hM=>?_));simp_arith[h1];refine eZ hc (hM _ _ (last ?_));simp_arith[au,BEq.rfl,ef]
def b7(rs:List Row)(o:Option Nat):Option (List Nat):=o.bind λn=>rs[n]?.map (·.2)
theorem Ov{rs:List Row}{o:Option Nat}:j6 rs o=cY (b7 rs o):=by
 cases o with
 |none=>rfl
 |some n=>
  unfold j6 b7;dsimp only[Option.bind];cases rs[n]? <;> rfl
structure SD where
 w:Nat
 rs:List Row
 ss:List Row
 name:List Nat
 o:Option Nat
 p:Option Nat
def sSD:RF.Spec:=cR (λa:SD=>[au a.w a.rs,au a.w a.ss,.tup [.str a.name,aQ a.o,aQ a.p]]) (λa=>(∀n,a.o=some n->n < a.rs.length)/\∀n,a.p=some n->n < a.ss.length) (λa=>.bl (b7 a.rs a.o==b7 a.ss a.p))
theorem aec{w:Nat}{rs ss:List Row}{name:List Nat}{o p:Option Nat}{G:DH}{k:D->DH->Prop}{E:EK}(h1:∀n,o=some n->n < rs.length)(h2:∀n,p=some n->n < ss.length)(hk:k (.bl (b7 rs o==b7 ss p)) G):sSD.t [au w rs,au w ss,.tup [.str name,aQ o,aQ p]] G k E:=dO ⟨w,rs,ss,name,o,p⟩ rfl ⟨h1,h2⟩ hk
theorem aed (Φ:aa) (h1:Φ "deed_of"=vy) (a:SD) (G:DH) (h:(∀n,a.o=some n->n < a.rs.length)/\∀n,a.p=some n->n < a.ss.length):aq Φ m5 noE (env0 [au a.w a.rs,au a.w a.ss,.tup [.str a.name,aQ a.o,aQ a.p]] 0) G (ends λd G'=>G'=G/\d=.bl (b7 a.rs a.o==b7 a.ss a.p)):=by obtain ⟨w,rs,ss,name,o,p⟩:=a;obtain ⟨ho,hp⟩:=h;dsimp only at ho hp ⊢;simp_arith[m5,h1];refine Nt ho (Nt hp ?_);rw[Ov,Ov];cases b7 rs o <;> cases b7 ss p <;> simp_arith[cY] <;> first |done | (simp;done) | (refine ⟨by decide,?_⟩;simp;done)
noncomputable def c7(w:Nat)(rs ss:List Row):List (List Nat):=(cX (List.replicate w 42)).filter λl=>!(b7 rs (dD rs l)==b7 ss (dD ss l))
def eF(rs ss:List Row)(c:List Nat):Bool:=b7 rs (aR rs c)==b7 ss (aR ss c)
def zM(w:Nat)(rs ss:List Row)(d:D):Prop:=
 (∃m,(c7 w rs ss).head?=some m/\d=.tup [.str zK,.str m])\/(c7 w rs ss=[]/\∃t bs,d=.tup [.str zL,t]/\Lv zJ [rs,ss] (List.replicate w 42) t bs/\∀c∈bs,eF rs ss c=true)
def n6:RF.Spec:=ghS (A:=Nat×List Row×List Row) (λa ds _=>ds=[au a.1 a.2.1,au a.1 a.2.2]/\okB a.1 a.2.1/\okB a.1 a.2.2) (λa G d G'=>G'=G/\zM a.1 a.2.1 a.2.2 d)
theorem Ow{w:Nat}{rs ss:List Row}{G:DH}{k:D->DH->Prop}{E:EK}(h:okB w rs)(h':okB w ss)(hk:∀d,zM w rs ss d->k d G):n6.t [au w rs,au w ss] G k E:=
 cW (w,rs,ss) ⟨rfl,h,h'⟩ λd G' hx=>by
  obtain ⟨e,q⟩:=hx;subst e;exact hk d q
theorem aee (Φ:aa) (h1:Φ "need_two_books"=vL) (h2:Φ "grown"=fu 9) (h3:Φ "leaves"=dG 9) (h4:Φ "least"=aD kI) (h5:Φ "stars"=aD dZ) (h6:Φ "same_deeds"=sSD) (a:Nat×List Row×List Row) (ds:List D) (G:DH) (h:ds=[au a.1 a.2.1,au a.1 a.2.2]/\okB a.1 a.2.1/\okB a.1 a.2.2):
  aq Φ m6 noE (env0 ds 3) G (ends λd G'=>G'=G/\zM a.1 a.2.1 a.2.2 d):=by
 obtain ⟨w,rs,ss⟩:=a;obtain ⟨rfl,hb,hb'⟩:=h;dsimp only at hb hb' ⊢;have hw6:=hb.w6;have hst:=zF w;have hrl:∀r∈rs,r.1.length=w:=λr hr=>(hb.form r hr).1;have hsl:∀r∈ss,r.1.length=w:=λr hr=>(hb'.form r hr).1;have e0:∀xs:List Row,D.tup [.int w,.tup (xs.map aA)]=au w xs:=λ_=>rfl;simp_all_arith[m6];refine seq λM hM=>?_;simp_arith[h1];refine aea hb hb' (hM _ _ (seq λM hM=>?_));simp_arith[au,h5];refine Ol (by omega) (hM _ _ (seq λM hM=>?_));simp_arith[h2];have er:[D.tup (rs.map aA),.tup (ss.map aA)]=d8 [rs,ss]:=rfl;rw[er];refine ⟨by decide,vC (name:=zJ) ⟨by simp,by decide,λxs hxs r hr=>?_,by omega⟩ ca (by omega) λt ht=>hM _ _ (seq λM hM=>?_)⟩
 ·rcases bn.mp hxs with e |hxs
  ·rw[e]at hr;exact hrl r hr
  ·rw[ba.mp hxs]at hr;exact hsl r hr
 obtain ⟨bs,hL⟩:=ht.lv;have hlen:=hL.len' (by rw[ca];omega);simp_arith[h3];refine Oe hL (by decide) (by rw[ca];omega) (by omega) ?_;simp_arith[ends];refine CompG.inv (P:=λi acc ρ G'=>(∃o1 o2,ρ=[o1,o2,some (.tup [.int w,.tup (rs.map aA)]),some (.tup [.int w,.tup (ss.map aA)])])/\G'=G/\acc=((bs.take i).filter λc=>!eF rs ss c).map λc=>D.str (cD c)) ⟨⟨_,_,rfl⟩,rfl,rfl⟩ (λ_ _ _ _ _=>trivial) (by rw[ah];have hsz:sz=1000000:=rfl;omega) ?_ ?_
 ·rintro i d acc ρ G' hd ⟨⟨o1,o2,rfl⟩,rfl,rfl⟩ kk hk;rw[a9]at hd;obtain ⟨c,hcb,rfl⟩:=a7.mp hd;have hcl:=(hL.box c (cK hcb)).1;rw[ca]at hcl;have htk:bs.take (i+1)=bs.take i++[c]:=by rw[d6,hcb];rfl
  simp_arith[kh,nP,b6,d4,h6];rw[e0,e0];refine aec (λn hn=>nO hn) (λn hn=>nO hn) ?_;have es:(b7 rs (aR rs c)==b7 ss (aR ss c))=eF rs ss c:=rfl;rw[es];cases hsb:eF rs ss c with
  |true=>
   simp_arith[ends];exact hk _ _ _ ⟨⟨_,_,rfl⟩,rfl,by rw[htk,List.filter_append];simp[hsb]⟩
  |false=>
   simp_arith[h4];refine adZ (by omega) (hk _ _ _ ⟨⟨_,_,rfl⟩,rfl,by rw[htk,List.filter_append];simp[hsb]⟩)
 ·rintro acc ρ G' ⟨_,rfl,rfl⟩;rw[ah,ez];refine hM _ _ (seq λM hM=>?_);have meet:∀xs∈[rs,ss],∀c∈bs,∀l,Fits c l->dD xs l=aR xs c:=by
   intro xs hxs c hc l hl;obtain ⟨e1,e2⟩:=hL.box c hc;rw[ca]at e1;have okc:=hL.okf (Nv w) c hc;refine N8 (λr hr=>?_) (e2 _ hxs) (Oa okc hl) hl;rcases bn.mp hxs with e |hxs
   ·rw[e]at hr;rw[hrl r hr,e1]
   ·rw[ba.mp hxs]at hr;rw[hsl r hr,e1]
  have both:∀c∈bs,∀l,Fits c l->(b7 rs (dD rs l)==b7 ss (dD ss l))=eF rs ss c:=by intro c hc l hl;rw[meet rs (by simp) c hc l hl,meet ss (by simp) c hc l hl];rfl
  cases hfr:bs.filter λc=>!eF rs ss c with
  |nil=>
   have hall:∀c∈bs,eF rs ss c=true:=by
    intro c hc;have:=List.filter_eq_nil_iff.mp hfr c hc;cases h:eF rs ss c with
    |false=>rw[h]at this;exact absurd rfl this
    |true=>rfl
   simp_arith[d4];refine hM _ _ (last ?_);simp_arith[ends];refine ⟨by decide,.inr ⟨?_,t,bs,rfl,hL,hall⟩⟩;unfold c7;rw[List.filter_eq_nil_iff];intro l hl;obtain ⟨c,hc',hfc⟩:=hL.cover l (nF.mp hl);rw[both c hc' l hfc,hall c hc'];simp
  |cons c0 cs=>
   have hne:(!(List.isEmpty (D.str (cD c0)::cs.map λc=>D.str (cD c))))=true:=rfl;simp_arith[b6,hne];rw[<-b6 (f:=λc=>D.str (cD c)),<-hfr];have es:bz ((bs.filter λc=>!eF rs ss c).map λc=>D.str (cD c))=some ((bs.filter λc=>!eF rs ss c).map cD):=strs_map _ _;have ei:bT ((bs.filter λc=>!eF rs ss c).map λc=>D.str (cD c))=none:=by rw[hfr];rfl
   refine ad4 ei es λm hm hlow=>?_;obtain ⟨c,hcm,rfl⟩:=cm.mp hm;obtain ⟨hcb,hcn⟩:=e8.mp hcm;refine ⟨by decide,.inl ⟨cD c,?_,rfl⟩⟩;refine ad3 ?_ ?_ ?_
   ·unfold c7;rw[nR];exact (Ot _).filter _
   ·unfold c7;rw[e8];refine ⟨nF.mpr (hL.within c hcb _ (zH c)),?_⟩;rw[both c hcb _ (zH c)];exact hcn
   ·intro x hx hlt;unfold c7 at hx;obtain ⟨hx1,hx2⟩:=e8.mp hx;obtain ⟨c',hc',hfc⟩:=hL.cover x (nF.mp hx1);rw[both c' hc' x hfc]at hx2;have hlow':=hlow (cD c') (cm.mpr ⟨c',e8.mpr ⟨hc',hx2⟩,rfl⟩);exact Oo hfc (Oq hlt hlow')
def wo(rs:List Row)(n:Nat):List Row:=rs.take n++rs.drop (n+1)
theorem Oz{rs:List Row}{n:Nat}(hn:n < rs.length):(wo rs n).length+1=rs.length:=by unfold wo;rw[aI,ci,bX];omega
theorem OD{w n:Nat}{rs:List Row}(hb:okB w rs)(hn:n < rs.length):okB w (wo rs n):=hb.sub (by have:=Oz hn;omega) λr hr=>by
 rcases bb.mp hr with h |h
 ·exact List.mem_of_mem_take h
 ·exact fh h
def aef:RF.Spec:=cR (λa:Nat×List Row×Nat=>[au a.1 a.2.1,.int a.2.2]) (λa=>okB a.1 a.2.1/\a.2.2 < a.2.1.length) (λa=>au a.1 (wo a.2.1 a.2.2))
def sWo:RF.Spec:=orX aef gr
theorem zN{w n:Nat}{rs:List Row}{G:DH}{k:D->DH->Prop}{E:EK}(h:okB w rs)(hn:n < rs.length)(hk:k (au w (wo rs n)) G):sWo.t [au w rs,.int n] G k E:=dW (dO (w,rs,n) rfl ⟨h,hn⟩ hk)
theorem aeg{α β:Type}(f:α->β)(l:List α)(n:Nat):cut (l.map f) (some ((n:Int)+1)) none=(l.drop (n+1)).map f:=ac3 f l (n+1)
theorem aeh (Φ:aa) (h1:Φ "need_row"=nZ) (a:Nat×List Row×Nat) (G:DH) (h:okB a.1 a.2.1/\a.2.2 < a.2.1.length):aq Φ iW noE (env0 [au a.1 a.2.1,.int a.2.2] 2) G (ends λd G'=>G'=G/\d=au a.1 (wo a.2.1 a.2.2)):=by obtain ⟨w,rs,n⟩:=a;obtain ⟨hb,hn⟩:=h;dsimp only at hb hn ⊢;have hlen:=hb.len;simp_all_arith[iW];refine seq λM hM=>?_;simp_arith[h1];refine ad7 hb hn (hM _ _ (seq λM hM=>?_));simp_arith[au];refine hM _ _ (last ?_);simp_arith[zB,aeg,ah,ci,bX];refine ⟨by have hsz:sz=1000000:=rfl;omega,by decide,?_⟩;unfold wo au;rw[dS]
theorem aei (Φ:aa) (h1:Φ "need_row"=nZ) (ds:List D) (G:DH) (C:String) (h:gr ds C):aq Φ iW (λx G'=>x=⟨C,.non⟩/\G'=G) (env0 ds 2) G (ends λ_ _=>False):=by obtain ⟨a,b,rfl⟩:=Ou h;simp_all_arith[iW];refine seq λM hM=>?_;simp_arith[h1];exact bY h ⟨rfl,rfl⟩
def ndT:List Nat:=[110,101,101,100,108,101,115,115]
def OJ:List Nat:=[110,101,101,100,101,100]
def ndQ(w n:Nat)(rs:List Row)(d:D):Prop:=
 (∃m,(c7 w rs (wo rs n)).head?=some m/\d=.tup [.str OJ,.str m])\/(c7 w rs (wo rs n)=[]/\∃t bs,d=.tup [.str ndT,t]/\Lv zJ [rs,wo rs n] (List.replicate w 42) t bs/\∀c∈bs,eF rs (wo rs n) c=true)
def aej:RF.Spec:=ghS (A:=Nat×List Row×Nat) (λa ds _=>ds=[au a.1 a.2.1,.int a.2.2]/\okB a.1 a.2.1/\a.2.2 < a.2.1.length) (λa G d G'=>G'=G/\ndQ a.1 a.2.2 a.2.1 d)
def kJ:RF.Spec:=orX aej gr
theorem O1{w n:Nat}{rs:List Row}{G:DH}{k:D->DH->Prop}{E:EK}(h:okB w rs)(hn:n < rs.length)(hk:∀d,ndQ w n rs d->k d G):kJ.t [au w rs,.int n] G k E:=
 dW (cW (w,rs,n) ⟨rfl,h,hn⟩ λd G' hx=>by
  obtain ⟨e,q⟩:=hx;subst e;exact hk d q)
theorem aek (Φ:aa) (h1:Φ "alike"=n6) (h2:Φ "without"=sWo) (a:Nat×List Row×Nat) (ds:List D) (G:DH) (h:ds=[au a.1 a.2.1,.int a.2.2]/\okB a.1 a.2.1/\a.2.2 < a.2.1.length):aq Φ iY noE (env0 ds 2) G (ends λd G'=>G'=G/\ndQ a.1 a.2.2 a.2.1 d):=by
 obtain ⟨w,rs,n⟩:=a;obtain ⟨rfl,hb,hn⟩:=h;dsimp only at hb hn ⊢;simp_all_arith[iY];refine seq λM hM=>?_;simp_arith[h1,h2];refine zN hb hn (Ow hb (OD hb hn) λd hq=>?_);rcases hq with ⟨m,hm,rfl⟩ |⟨hnil,t,bs,rfl,hL,hall⟩
 ·have eb:(([112,97,114,116,101,100]==[97,108,105,107,101]):Bool)=false:=by decide
  simp_arith[zK];refine hM _ _ (last ?_);simp_arith[eb];exact ⟨by decide,.inl ⟨m,hm,rfl⟩⟩
 ·simp_arith[zL];refine hM _ _ (last ?_);simp_arith[BEq.rfl];exact ⟨by decide,.inr ⟨hnil,t,bs,rfl,hL,hall⟩⟩
theorem ael (Φ:aa) (h2:Φ "without"=sWo) (ds:List D) (G:DH) (C:String) (h:gr ds C):aq Φ iY (λx G'=>x=⟨C,.non⟩/\G'=G) (env0 ds 2) G (ends λ_ _=>False):=by obtain ⟨a,b,rfl⟩:=Ou h;simp_all_arith[iY];refine seq λM hM=>?_;simp_arith[h2];exact bY h ⟨rfl,rfl⟩
def lnS(w:Nat)(rs:List Row)(n:Nat):List Row:=if (c7 w rs (wo rs n)).isEmpty then wo rs n else rs
def lnR(w:Nat):Nat->List Row->List Row
 |0,rs=>rs
 |k+1,rs=>lnR w k (lnS w rs k)
theorem aem{w n:Nat}{rs:List Row}(hb:okB w rs)(hn:n < rs.length):okB w (lnS w rs n)/\n<=(lnS w rs n).length:=by
 unfold lnS;split
 ·exact ⟨OD hb hn,by have:=Oz hn;omega⟩
 ·exact ⟨hb,by omega⟩
def aen:RF.Spec:=cR (λa:Nat×List Row=>[au a.1 a.2]) (λa=>okB a.1 a.2) (λa=>au a.1 (lnR a.1 a.2.length a.2))
def oh:RF.Spec:=orX aen gn
theorem aeo{w:Nat}{rs:List Row}{G:DH}{k:D->DH->Prop}{E:EK}(h:okB w rs)(hk:k (au w (lnR w rs.length rs)) G):oh.t [au w rs] G k E:=dW (dO (w,rs) rfl h hk)
theorem aep (Φ:aa) (h1:Φ "need_book"=cA) (h2:Φ "needless"=kJ) (h3:Φ "without"=sWo) (a:Nat×List Row) (G:DH) (h:okB a.1 a.2):aq Φ iZ noE (env0 [au a.1 a.2] 2) G (ends λd G'=>G'=G/\d=au a.1 (lnR a.1 a.2.length a.2)):=by
 obtain ⟨w,rs⟩:=a;dsimp only at h ⊢;have hlen:=h.len;have e0:∀xs:List Row,D.tup [.int w,.tup (xs.map aA)]=au w xs:=λ_=>rfl;simp_all_arith[iZ];refine seq λM hM=>?_;simp_arith[h1];refine eZ h (hM _ _ (seq λM hM=>?_));simp_arith[ends];refine hM _ _ (seq λM hM=>?_);have ed:au w rs=.tup [.int w,.tup (rs.map aA)]:=rfl;simp_arith![ed,ah,ce];refine ⟨by omega,ForG.inv (P:=λi ρ G'=>∃(xs:List Row)(o2:Option D),ρ=[some (.tup [.int w,.tup (rs.map aA)]),some (.tup [.int w,.tup (xs.map aA)]),o2]/\G'=G/\okB w xs/\rs.length - i<=xs.length/\lnR w (rs.length - i) xs=lnR w rs.length rs) ⟨rs,_,rfl,rfl,h,aw _,rfl⟩ (λ_ _ _ _=>trivial) ?_ ?_⟩
 ·rintro i d ρ G' hd ⟨xs,o2,rfl,rfl,hb,hl,hr⟩ kk hk;have hi:i < rs.length:=by
   have:=(ar.mp hd).1;simpa [dm] using this
  obtain ⟨m,hm⟩:∃m:Nat,rs.length - i=m+1:=⟨rs.length - i - 1,by omega⟩;have hdi:d=.int (m:Int):=by
   unfold dm at hd;rw[a9,List.getElem?_range hi]at hd;have:D.int ((rs.length:Int) - 1 - (i:Int))=d:=by simpa using hd
   rw[<-this];congr 1;omega
  subst hdi;rw[hm]at hl hr;rw[lnR]at hr;have hmx:m < xs.length:=by omega
  obtain ⟨k1,k2⟩:=aem hb hmx;have em:rs.length - (i+1)=m:=by omega
  simp_arith![ends];refine last ?_;simp_arith[h2];rw[e0];refine O1 hb hmx λd hq=>?_;rcases hq with ⟨l,hl',rfl⟩ |⟨hnil,t,bs,rfl,_,_⟩
  ·have eb:(([110,101,101,100,101,100]==[110,101,101,100,108,101,115,115]):Bool)=false:=by decide
   have es:lnS w xs m=xs:=by
    unfold lnS;cases hp:c7 w xs (wo xs m) with
    |nil=>rw[hp]at hl';cases hl'
    |cons _ _=>rfl
   rw[es]at hr;simp_arith[OJ,eb];exact hk _ _ ⟨xs,_,rfl,rfl,hb,by omega,by rw[em];exact hr⟩
  ·have es:lnS w xs m=wo xs m:=by unfold lnS;rw[hnil];rfl
   rw[es]at hr k1 k2;simp_arith[ndT,BEq.rfl,h3];refine zN hb hmx ?_;exact hk _ _ ⟨wo xs m,_,rfl,rfl,k1,by omega,by rw[em];exact hr⟩
 ·rintro ρ G' ⟨xs,o2,rfl,rfl,hb,hl,hr⟩;have e1:rs.length - (dm ((rs.length:Int) - 1) rs.length).length=0:=by simp[dm]
  rw[e1]at hr;refine hM _ _ (last ?_);simp_arith[ends];rw[e0,<-hr];rfl
theorem aeq (Φ:aa) (h1:Φ "need_book"=cA) (ds:List D) (G:DH) (C:String) (h:gn ds C):aq Φ iZ (λx G'=>x=⟨C,.non⟩/\G'=G) (env0 ds 2) G (ends λ_ _=>False):=by obtain ⟨rfl,x,rfl,hx⟩:=h;simp_all_arith[iZ];refine seq λM hM=>?_;simp_arith[h1];exact j4 hx ⟨rfl,rfl⟩
def vM:RF.Spec:=cR (λa:Nat×List Row×List Row=>[au a.1 a.2.1,au a.1 a.2.2]) (λa=>okB a.1 a.2.1/\okB a.1 a.2.2) (λa=>cY (c7 a.1 a.2.1 a.2.2).head?)
theorem aer{w:Nat}{rs ss:List Row}{G:DH}{k:D->DH->Prop}{E:EK}(h:okB w rs)(h':okB w ss)(hk:k (cY (c7 w rs ss).head?) G):vM.t [au w rs,au w ss] G k E:=dO (w,rs,ss) rfl ⟨h,h'⟩ hk
theorem aes (Φ:aa) (h1:Φ "alike"=n6) (a:Nat×List Row×List Row) (G:DH) (h:okB a.1 a.2.1/\okB a.1 a.2.2):aq Φ m8 noE (env0 [au a.1 a.2.1,au a.1 a.2.2] 2) G (ends λd G'=>G'=G/\d=cY (c7 a.1 a.2.1 a.2.2).head?):=by
 obtain ⟨w,rs,ss⟩:=a;obtain ⟨hb,hb'⟩:=h;dsimp only at hb hb' ⊢;have eb:(([97,108,105,107,101]==[112,97,114,116,101,100]):Bool)=false:=by decide
 simp_all_arith[m8];refine seq λM hM=>?_;simp_arith[h1];refine Ow hb hb' λd hq=>?_;rcases hq with ⟨m,hm,rfl⟩ |⟨hnil,t,bs,rfl,_,_⟩
 ·simp_arith[zK];refine hM _ _ (last ?_);simp_arith[BEq.rfl,hm,cY,ef]
 ·simp_arith[zL];refine hM _ _ (last ?_);simp_arith[eb,hnil,List.head?_nil,cY,ef]
noncomputable def swp(rs:List Row)(n:Nat):List Row:=rs.take n++[rs.getD (n+1) ([],[]),rs.getD n ([],[])]++rs.drop (n+2)
theorem aet{w n:Nat}{rs:List Row}(hb:okB w rs)(hn:n+1 < rs.length):okB w (swp rs n):=by
 refine hb.sub ?_ λr hr=>?_
 ·unfold swp;rw[aI,aI,ci,bX];simp only[cr,eg];have:=hb.len;omega
 ·unfold swp at hr;rcases bb.mp hr with h |h
  ·rcases bb.mp h with h |h
   ·exact List.mem_of_mem_take h
   ·simp only[bn,List.not_mem_nil,or_false]at h;rcases h with e |e
    ·rw[e,dP,aS hn];exact ck hn
    ·rw[e,dP,aS (by omega)];exact ck _
  ·exact fh h
theorem aeu{α:Type}(l:List α)(n:Nat):cut l (some ((n:Int)+2)) none=l.drop (n+2):=mD l (n+2)
theorem O2{rs:List Row}{n:Nat}(h:n < rs.length):(rs.map aA)[n]?=some (aA (rs.getD n ([],[]))):=by rw[a9,dP,aS h];rfl
theorem aev{rs:List Row}{n:Nat}:(rs.take n).map aA++[aA (rs.getD (n+1) ([],[])),aA (rs.getD n ([],[]))]++(rs.drop (n+2)).map aA=(swp rs n).map aA:=by unfold swp;rw[dS,dS];rfl
def sEx:RF.Spec:=cR (λa:List Row×Nat=>[.tup (a.1.map aA),.int (a.2:Nat)]) (λa=>a.2+1 < a.1.length/\a.1.length<=12) (λa=>.tup ((swp a.1 a.2).map aA))
theorem aew{rs:List Row}{n:Nat}{G:DH}{k:D->DH->Prop}{E:EK}(h1:n+1 < rs.length)(h2:rs.length<=12)(hk:k (.tup ((swp rs n).map aA)) G):sEx.t [.tup (rs.map aA),.int (n:Nat)] G k E:=dO (rs,n) rfl ⟨h1,h2⟩ hk
theorem aex(Φ:aa)(a:List Row×Nat)(G:DH)(h:a.2+1 < a.1.length/\a.1.length<=12):aq Φ m7 noE (env0 [.tup (a.1.map aA),.int (a.2:Nat)] 0) G (ends λd G'=>G'=G/\d=.tup ((swp a.1 a.2).map aA)):=by obtain ⟨rs,n⟩:=a;obtain ⟨h1,h2⟩:=h;dsimp only at h1 h2 ⊢;simp_all_arith[m7];refine last ?_;simp_arith[zB,aeu,<-gd,ah];refine bH (a:=aA (rs.getD (n+1) ([],[]))) (bK (j:=n+1) (O2 h1)) (bH (a:=aA (rs.getD n ([],[]))) (bK (O2 (by omega))) ?_);exact ⟨by decide,by rw[ci];have hsz:sz=1000000:=rfl;omega,by simp only[aI,ah,ci,bX,cr,eg];have hsz:sz=1000000:=rfl;omega,by rw[aev]⟩
def aey:RF.Spec:=ghS (A:=Nat×List Row×Nat) (λa ds _=>ds=[au a.1 a.2.1,.int (a.2.2:Nat)]/\okB a.1 a.2.1/\a.2.2+1 < a.2.1.length) (λ_ G _ G'=>G'=G)
def O3 (ds:List D) (C:String):Prop:=(C="NoBook"/\∃x y,ds=[x,y]/\cT x)\/(C="NoRow"/\∃w rs y,ds=[au w rs,y]/\okB w rs/\nr y=true/\isPlace ((rs.length:Int) - 1) y=false)
def ou:RF.Spec:=orX aey O3
theorem aez{w n:Nat}{rs:List Row}{G:DH}{k:D->DH->Prop}{E:EK}(hb:okB w rs)(hn:n+1 < rs.length)(hk:∀d,k d G):ou.t [au w rs,.int (n:Nat)] G k E:=
 dW (cW (w,rs,n) ⟨rfl,hb,hn⟩ λd G' e=>by subst e;exact hk d)
theorem aeA (Φ:aa) (h1:Φ "need_book"=cA) (h2:Φ "is_place"=aD cC) (h3:Φ "parting_word"=vM) (h4:Φ "exchanged"=sEx) (a:Nat×List Row×Nat) (ds:List D) (G:DH) (h:ds=[au a.1 a.2.1,.int (a.2.2:Nat)]/\okB a.1 a.2.1/\a.2.2+1 < a.2.1.length):aq Φ gO noE (env0 ds 2) G (ends λ_ G'=>G'=G):=by
 obtain ⟨w,rs,n⟩:=a;obtain ⟨rfl,hb,hn⟩:=h;dsimp only at hb hn ⊢;have hlen:=hb.len;have ed:∀xs:List Row,au w xs=.tup [.int w,.tup (xs.map aA)]:=λ_=>rfl;simp_all_arith[gO];refine seq λM hM=>?_;simp_arith[h1];refine eZ hb (hM _ _ (seq λM hM=>?_));simp_arith[ed];refine hM _ _ (seq λM hM=>?_);simp_arith[h2,ah];have hp:isPlace ((rs.length:Int) - 1) (.int (n:Int))=true:=by show (decide (0<=(n:Int))&&decide ((n:Int) < (rs.length:Int) - 1))=true;rw[ay (by omega),ay (by omega)];rfl
 refine bj (show cC [.int ((rs.length:Int) - 1),.int (n:Int)]=some (.bl true) from by rw[<-hp];rfl) ?_;simp_arith[ends];refine hM _ _ (last ?_);simp_arith[h3,h4];refine aew hn hlen ⟨by decide,?_⟩;rw[<-ed,<-ed];refine aer hb (aet hb hn) ?_;cases (c7 w rs (swp rs n)).head? <;> simp_arith[cY]
theorem aeB (Φ:aa) (h1:Φ "need_book"=cA) (h2:Φ "is_place"=aD cC) (ds:List D) (G:DH) (C:String) (h:O3 ds C):aq Φ gO (λx G'=>x=⟨C,.non⟩/\G'=G) (env0 ds 2) G (ends λ_ _=>False):=by
 rcases h with ⟨rfl,x,y,rfl,hx⟩ |⟨rfl,w,rs,y,rfl,hb,hd,hp⟩
 ·simp_all_arith[gO];refine seq λM hM=>?_;simp_arith[h1];exact j4 hx ⟨rfl,rfl⟩
 ·have hlen:=hb.len;have ed:∀xs:List Row,au w xs=.tup [.int w,.tup (xs.map aA)]:=λ_=>rfl;simp_all_arith[gO];refine seq λM hM=>?_;simp_arith[h1];refine eZ hb (hM _ _ (seq λM hM=>?_));simp_arith[ed];refine hM _ _ (seq λM hM=>?_);simp_arith[h2,ah];refine bj (show cC [.int ((rs.length:Int) - 1),y]=some (.bl false) from by rw[<-hp];exact if_pos hd) ?_;simp_arith[eK];show (decide (0<=(rs.length:Int))&&decide ((rs.length:Int) < 100))=true;rw[ay (by omega),ay (by omega)];rfl
def kO(n:Nat)(d:D)(b:Bool):Prop:=(d=.tup (aO 0 n)/\b=true)\/(((∃l,d=.lst l)\/d=.tup ((aO 0 n).drop 1))/\b=false)
def oA:RF.Spec:=cR (A:=Nat×List Row×D×Bool) (λa=>[au a.1 a.2.1,a.2.2.1]) (λa=>okB a.1 a.2.1/\0 < a.2.1.length/\kO a.2.1.length a.2.2.1 a.2.2.2) (λa=>.bl a.2.2.2)
theorem O4{w:Nat}{rs:List Row}{d:D}{b:Bool}{G:DH}{k:D->DH->Prop}{E:EK}(h:okB w rs)(h0:0 < rs.length)(ho:kO rs.length d b)(hk:k (.bl b) G):oA.t [au w rs,d] G k E:=dO (w,rs,d,b) rfl ⟨h,h0,ho⟩ hk
def gY(n:Nat):List Int:=(List.range n).map λi=>(0+(i:Nat):Int)
theorem gZ(n:Nat):aO 0 n=(gY n).map D.int:=by unfold aO gY;rw[dL];first |done |rfl
theorem O5:∀l:List Int,bT (l.map D.int)=some l
 |[]=>rfl
 |a::l=>by rw[b6,bT,O5 l]
theorem kW(n:Nat):(gY n).length=n:=by unfold gY;rw[ah,List.length_range]
theorem zO{n:Nat}{i:Int}(h:i∈gY n):0<=i/\i < n:=by unfold gY at h;obtain ⟨j,hj,rfl⟩:=cm.mp h;have:=List.mem_range.mp hj;omega
theorem aeC:∀n:Fin 13,(gY n.1).Pairwise (·<=·):=by decide
theorem O6:∀{a b:List Int},a.Perm b->a.Pairwise (·<=·)->b.Pairwise (·<=·)->a=b
 |[],b,h,_,_=>h.nil_eq
 |x::a,[],h,_,_=>absurd h.length_eq (by simp)
 |x::a,y::b,h,ha,hb=>by
  rw[List.pairwise_cons]at ha hb;have h1:x∈y::b:=h.mem_iff.mp bS;have h2:y∈x::a:=h.mem_iff.mpr bS;have e:x=y:=by
   rcases bn.mp h1 with e |m
   ·exact e
   ·rcases bn.mp h2 with e |m'
    ·exact e.symm
    ·have:=hb.1 x m;have:=ha.1 y m';omega
  subst e;rw[O6 (List.perm_cons x |>.mp h) ha.2 hb.2]
theorem vN:∀l:List Int,nrs (l.map D.int)=true/\bf (l.map D.int)=0
 |[]=>⟨rfl,rfl⟩
 |a::l=>by
  obtain ⟨h1,h2⟩:=vN l;rw[b6,nrs,bf,h1,h2];exact ⟨rfl,rfl⟩
theorem O7 (Φ:aa) (h1:Φ "is_place"=aD cC) {w:Nat} {rs:List Row} {l:List Int} {b:Bool} {G:DH} (hb:okB w rs) (hl:l.length<=12) (hi:∀i∈l,0<=i/\i < rs.length) (he:∀ns:List Int,ns.Perm l->ns.Pairwise (·<=·)->bN (ns.map D.int) (aO 0 rs.length)=b):
  aq Φ iM noE (env0 [au w rs,.tup (l.map D.int)] 1) G (ends λd G'=>G'=G/\d=.bl b):=by
 have hlen:=hb.len;simp_all_arith[iM];refine seq λM hM=>?_;simp_arith[au,ah];refine hM _ _ (seq λM hM=>?_);simp_arith[h1];refine CompG.map (f:=λ_=>.bl true) (I:=λρ=>∃o,ρ=[o,some (.int (rs.length:Nat))]) ⟨_,rfl⟩ trivial (by rw[ah];have hsz:sz=1000000:=rfl;omega) ?_ ?_
 ·rintro d ρ hd ⟨o,rfl⟩ kk hk;obtain ⟨i,hm,rfl⟩:=cm.mp hd;obtain ⟨i0,i1⟩:=hi i hm;have hp:isPlace (rs.length:Int) (.int i)=true:=by
   show (decide (0<=i)&&decide (i < (rs.length:Int)))=true;rw[ay i0,ay i1];rfl
  simp_arith[h1];refine bj (show cC [.int (rs.length:Int),.int i]=some (.bl true) from by rw[<-hp];rfl) ?_;exact hk _ ⟨_,rfl⟩
 ·have ea:∀m:List D,(m.map λ_=>true).all id=true:=λm=>by induction m with |nil=>rfl |cons _ _ ih=>rw[b6,List.all_cons,ih];rfl
  simp_arith[iI,ea];refine hM _ _ (last ?_);simp_arith[ends];refine bH (O5 l) ⟨by omega,λns hp hs=>?_⟩;have hn1:=(vN ns);have hn2:=vN (gY rs.length);rw[<-gZ]at hn2;refine ⟨⟨by omega,by omega⟩,?_⟩;simp only[ce];refine ⟨⟨hn1.1,hn2.1,by rw[hn1.2,hn2.2];decide⟩,?_⟩;rw[he ns hp hs]
theorem aeD (Φ:aa) (h1:Φ "is_place"=aD cC) (a:Nat×List Row×D×Bool) (G:DH) (h:okB a.1 a.2.1/\0 < a.2.1.length/\kO a.2.1.length a.2.2.1 a.2.2.2):aq Φ iM noE (env0 [au a.1 a.2.1,a.2.2.1] 1) G (ends λd G'=>G'=G/\d=.bl a.2.2.2):=by
 obtain ⟨w,rs,d,b⟩:=a;obtain ⟨hb,h0,ho⟩:=h;dsimp only at hb h0 ho ⊢;have hlen:=hb.len;rcases ho with ⟨rfl,rfl⟩ |⟨⟨l,rfl⟩ |rfl,rfl⟩
 ·rw[gZ];refine O7 Φ h1 hb (by rw[kW];exact hlen) (λi hi=>zO hi) λns hp hs=>?_;rw[O6 hp hs (aeC ⟨rs.length,by omega⟩),gZ];exact ul (vN _).1
 ·simp_all_arith[iM];refine seq λM hM=>?_;simp_arith[au,ah];refine hM _ _ (seq λM hM=>?_);simp_arith[ef]
 ·rw[gZ,<-gd];refine O7 Φ h1 hb (by rw[bX,kW];omega) (λi hi=>zO (fh hi)) λns hp _=>?_;refine DR ?_;rw[ah,hp.length_eq,bX,kW,gZ,ah,kW];omega
def zP (ds:List D) (C:String):Prop:=C="NoOrder"/\∃w rs d,ds=[au w rs,d]/\okB w rs/\0 < rs.length/\kO rs.length d false
def aeE:RF.Spec:=cR (A:=Nat×List Row) (λa=>[au a.1 a.2,.tup (aO 0 a.2.length)]) (λa=>okB a.1 a.2/\0 < a.2.length) (λ_=>.non)
def vO:RF.Spec:=orX aeE zP
theorem aeF (Φ:aa) (h1:Φ "is_order"=oA) (a:Nat×List Row) (G:DH) (h:okB a.1 a.2/\0 < a.2.length):aq Φ iQ noE (env0 [au a.1 a.2,.tup (aO 0 a.2.length)] 0) G (ends λd G'=>G'=G/\d=.non):=by simp_arith[iQ,h1];refine O4 (b:=true) h.1 h.2 (.inl ⟨rfl,rfl⟩) ?_;simp_arith[ends]
theorem aeG (Φ:aa) (h1:Φ "is_order"=oA) (ds:List D) (G:DH) (C:String) (h:zP ds C):aq Φ iQ (λx G'=>x=⟨C,.non⟩/\G'=G) (env0 ds 0) G (ends λ_ _=>False):=by obtain ⟨rfl,w,rs,d,rfl,hb,h0,ho⟩:=h;simp_arith[iQ,h1];refine O4 (b:=false) hb h0 ho ?_;simp_arith[ef]
def pBy (ds:List D) (C:String):Prop:=(C="NoBook"/\∃x y,ds=[x,y]/\cT x)\/zP ds C
def aeH:RF.Spec:=ghS (A:=Nat×List Row) (λa ds _=>ds=[au a.1 a.2,.tup (aO 0 a.2.length)]/\okB a.1 a.2/\0 < a.2.length) (λ_ G _ G'=>G'=G)
def sBy:RF.Spec:=orX aeH pBy
theorem aeI (Φ:aa) (h1:Φ "need_book"=cA) (h2:Φ "need_order"=vO) (a:Nat×List Row) (ds:List D) (G:DH) (h:ds=[au a.1 a.2,.tup (aO 0 a.2.length)]/\okB a.1 a.2/\0 < a.2.length):aq Φ gK noE (env0 ds 2) G (ends λ_ G'=>G'=G):=by
 obtain ⟨w,rs⟩:=a;obtain ⟨rfl,hb,h0⟩:=h;dsimp only at hb h0 ⊢;have hlen:=hb.len;have hrl:(aO 0 rs.length).length=rs.length:=by rw[gZ,ah,kW]
 simp_all_arith[gK];refine seq λM hM=>?_;simp_arith[h1];refine eZ hb (hM _ _ (seq λM hM=>?_));simp_arith[h2];refine dW (dO (w,rs) rfl ⟨hb,h0⟩ (hM _ _ (seq λM hM=>?_)));simp_arith[au];refine hM _ _ (last ?_);simp_arith[ends];refine CompG.inv (P:=λi acc ρ G'=>(∃o,ρ=[o,some (.tup (rs.map aA))])/\G'=G) ⟨⟨_,rfl⟩,rfl⟩ (λ_ _ _ _ _=>trivial) (by rw[hrl];have hsz:sz=1000000:=rfl;omega) ?_ ?_
 ·rintro i d acc ρ G' hd ⟨⟨o,rfl⟩,rfl⟩ kk hk;have hm:=cK hd;rw[gZ]at hm;obtain ⟨j,hj,rfl⟩:=cm.mp hm;obtain ⟨j0,j1⟩:=zO hj;simp_arith[ends];refine uZ j0 (by rw[ah];exact j1) λx _=>?_;exact hk _ _ _ ⟨⟨_,rfl⟩,rfl⟩
 ·rintro acc ρ G' ⟨⟨o,rfl⟩,rfl⟩;simp_arith[ends];decide
theorem aeJ (Φ:aa) (h1:Φ "need_book"=cA) (h2:Φ "need_order"=vO) (ds:List D) (G:DH) (C:String) (h:pBy ds C):aq Φ gK (λx G'=>x=⟨C,.non⟩/\G'=G) (env0 ds 2) G (ends λ_ _=>False):=by
 rcases h with ⟨rfl,x,y,rfl,hx⟩ |h
 ·simp_all_arith[gK];refine seq λM hM=>?_;simp_arith[h1];exact j4 hx ⟨rfl,rfl⟩
 ·have h':=h;obtain ⟨rfl,w,rs,d,rfl,hb,h0,ho⟩:=h;simp_all_arith[gK];refine seq λM hM=>?_;simp_arith[h1];refine eZ hb (hM _ _ (seq λM hM=>?_));simp_arith[h2];exact bY h' ⟨rfl,rfl⟩
def zQ(a:Int×Nat×List Row×D×D)(ds:List D)(_:DH):Prop:=ds=[.int a.1,au a.2.1 a.2.2.1,a.2.2.2.1,a.2.2.2.2]/\okB a.2.1 a.2.2.1/\2<=a.2.2.1.length/\0<=a.1/\a.1 < 8/\(a.1<=3\/(a.2.2.2.1=.int 0/\a.2.2.2.2=.tup (aO 0 a.2.2.1.length)))
def O8(rs:List Row)(y:D):Prop:=nr y=true/\isPlace (rs.length:Int) y=false/\isPlace ((rs.length:Int) - 1) y=false
def vP (ds:List D) (C:String):Prop:=∃(k:Int) (x y z:D),ds=[.int k,x,y,z]/\0<=k/\k < 8/\((C="NoBook"/\cT x)\/∃w rs,x=au w rs/\okB w rs/\2<=rs.length/\((C="NoRow"/\3 < k/\k < 7/\O8 rs y)\/(C="NoOrder"/\k=7/\kO rs.length z false)))
def aeK:RF.Spec:=ghS zQ (λ_ G _ G'=>Sa G G')
def zR:RF.Spec:=orX aeK vP
structure FA13(Φ:aa):Prop where
 laid:Φ "laid"=jc
 isl:Φ "is_laid"=nY
 cnt:Φ "counts"=nT
 lean:Φ "lean"=oh
 ndl:Φ "needless"=kJ
 wo:Φ "without"=sWo
 may:Φ "may_swap"=ou
 bo:Φ "by_order"=sBy
theorem vQ(Φ:aa)(F:FA13 Φ){k:Int}{x y z:D}{G:DH}{E:EK}{Q:D->DH->Prop}(k0:0<=k)(k8:k < 8)(h0:k=0->jc.t [x] G Q E)(h1:k=1->nY.t [x,(T.lf [none]).d gq] G Q E)(h2:k=2->nT.t [x] G Q E)(h3:k=3->oh.t [x] G Q E)(h4:k=4->kJ.t [x,y] G Q E)(h5:k=5->sWo.t [x,y] G Q E)(h6:k=6->ou.t [x,y] G Q E)(h7:k=7->sBy.t [x,z] G Q E):aq Φ m9 E (env0 [.int k,x,y,z] 0) G (ends Q):=by
 have et:D.tup [.str [109,101,116],.non]=(T.lf [none]).d gq:=rfl;simp_all_arith[m9];refine seq λM hM=>?_;by_cases e0:k=0
 ·subst e0;simp_arith[F.laid];exact h0 rfl
 simp_arith[bP.mpr e0];refine hM _ _ ?_;refine seq λM hM=>?_;by_cases e1:k=1
 ·subst e1;simp_arith[F.isl];exact ⟨by decide,et ▸ h1 rfl⟩
 simp_arith[bP.mpr e1];refine hM _ _ ?_;refine seq λM hM=>?_;by_cases e2:k=2
 ·subst e2;simp_arith[F.cnt];exact h2 rfl
 simp_arith[bP.mpr e2];refine hM _ _ ?_;refine seq λM hM=>?_;by_cases e3:k=3
 ·subst e3;simp_arith[F.lean];exact h3 rfl
 simp_arith[bP.mpr e3];refine hM _ _ ?_;refine seq λM hM=>?_;by_cases e4:k=4
 ·subst e4;simp_arith[F.ndl];exact h4 rfl
 simp_arith[bP.mpr e4];refine hM _ _ ?_;refine seq λM hM=>?_;by_cases e5:k=5
 ·subst e5;simp_arith[F.wo];exact h5 rfl
 simp_arith[bP.mpr e5];refine hM _ _ ?_;refine seq λM hM=>?_;by_cases e6:k=6
 ·subst e6;simp_arith[F.may];exact h6 rfl
 simp_arith[bP.mpr e6];refine hM _ _ ?_;refine last ?_;simp_arith[F.bo];exact h7 (by omega)
theorem aeL(Φ:aa)(F:FA13 Φ)(a:Int×Nat×List Row×D×D)(ds:List D)(G:DH)(h:zQ a ds G):aq Φ m9 noE (env0 ds 0) G (ends λ_ G'=>Sa G G'):=by
 obtain ⟨k,w,rs,y,z⟩:=a;obtain ⟨rfl,hb,h2,k0,k8,hyz⟩:=h;dsimp only at hb h2 k0 k8 hyz ⊢;refine vQ Φ F k0 k8 (λ_=>N5 hb λd _=>Sa.refl G) (λ_=>adV hb (by decide) (Sa.refl G)) (λ_=>adO hb λq G' _ _ s=>s) (λ_=>aeo hb (Sa.refl G)) (λe=>?_) (λe=>?_) (λe=>?_) (λe=>?_);all_goals obtain ⟨rfl,rfl⟩:=hyz.resolve_left (by omega)
 ·exact O1 (n:=0) hb (by omega) λd _=>Sa.refl G
 ·exact zN (n:=0) hb (by omega) (Sa.refl G)
 ·exact aez (n:=0) hb (by omega) λd=>Sa.refl G
 ·exact dW (cW (w,rs) ⟨rfl,hb,by dsimp only;omega⟩ λd G' e=>by subst e;exact Sa.refl _)
theorem aeM(Φ:aa)(F:FA13 Φ)(ds:List D)(G:DH)(C:String)(h:vP ds C):aq Φ m9 (λx G'=>x=⟨C,.non⟩/\G'=G) (env0 ds 0) G (ends λ_ _=>False):=by
 obtain ⟨k,x,y,z,rfl,k0,k8,h⟩:=h;rcases h with ⟨rfl,hx⟩ |⟨w,rs,rfl,hb,h2,⟨rfl,k3,k7,hn,hp,hp'⟩ |⟨rfl,rfl,ho⟩⟩
 ·have p1:gn [x] "NoBook":=⟨rfl,x,rfl,hx⟩;have p2:∀y,gr [x,y] "NoBook":=λy=>.inl ⟨rfl,x,y,rfl,hx⟩;exact vQ Φ F k0 k8 (λ_=>bY p1 ⟨rfl,rfl⟩) (λ_=>bY ⟨rfl,x,_,rfl,hx⟩ ⟨rfl,rfl⟩) (λ_=>bY p1 ⟨rfl,rfl⟩) (λ_=>bY p1 ⟨rfl,rfl⟩) (λ_=>bY (p2 y) ⟨rfl,rfl⟩) (λ_=>bY (p2 y) ⟨rfl,rfl⟩) (λ_=>bY (.inl ⟨rfl,x,y,rfl,hx⟩) ⟨rfl,rfl⟩) (λ_=>bY (.inl ⟨rfl,x,z,rfl,hx⟩) ⟨rfl,rfl⟩)
 ·have p2:gr [au w rs,y] "NoRow":=.inr ⟨rfl,w,rs,y,rfl,hb,hn,hp⟩;exact vQ Φ F k0 k8 (λ_=>by omega) (λ_=>by omega) (λ_=>by omega) (λ_=>by omega) (λ_=>bY p2 ⟨rfl,rfl⟩) (λ_=>bY p2 ⟨rfl,rfl⟩) (λ_=>bY (.inr ⟨rfl,w,rs,y,rfl,hb,hn,hp'⟩) ⟨rfl,rfl⟩) (λ_=>by omega)
 ·exact vQ Φ F k0 k8 (λ_=>by omega) (λ_=>by omega) (λ_=>by omega) (λ_=>by omega) (λ_=>by omega) (λ_=>by omega) (λ_=>by omega) (λ_=>bY (.inr ⟨rfl,w,rs,z,rfl,hb,by omega,ho⟩) ⟨rfl,rfl⟩)
theorem vR{Φ:aa}{ss:Sxs}{E:EK}{ρ:ak}{G:DH}{q:Addr}{L:List D}{Dn:En}(hq:G q=none)(h:∀G1,G1 q=some (.lst L)->Sa G G1->aq Φ ss E ρ G1 Dn):aq Φ ss E ρ (aW G q (.lst L)) Dn:=h _ bI (Sa.new hq)
theorem aeN{Φ:aa}{ss:Sxs}{E:EK}{ρ:ak}{G0 G:DH}{q:Addr}{L:List D}{Dn:En}(hq:G0 q=none)(s:Sa G0 G)(h:∀G1,G1 q=some (.lst L)->Sa G0 G1->aq Φ ss E ρ G1 Dn):aq Φ ss E ρ (aW G q (.lst L)) Dn:=h _ bI (s.then hq Sb.upd)
theorem aeO{p:Addr}{G:DH}{ds:List D}{k:D->DH->Prop}(e:G p=some (.lst ds)):opM .count (.ref p) [.bl true] G k=bc (bools ds) (λbs=>k (.int (bs.count true:Nat)) G):=by unfold opM;dsimp only;rw[cL e];exact yJ
theorem aeP{p:Addr}{G:DH}{ds:List D}{k:D->DH->Prop}(e:G p=some (.lst ds)):opM .index (.ref p) [.bl true] G k=bc (bools ds) (λbs=>true∈bs/\k (.int (bs.idxOf true:Nat)) G):=by unfold opM;dsimp only;rw[cL e];exact yK
theorem aeQ{p:Addr}{G:DH}{ds:List D}(e:G p=some (.lst ds)):recv .count (.ref p) G=True:=by unfold recv;dsimp only;rw[cL e];rfl
theorem aeR{p:Addr}{G:DH}{ds:List D}(e:G p=some (.lst ds)):recv .index (.ref p) G=True:=by unfold recv;dsimp only;rw[cL e];rfl
noncomputable def je (C:String):List Nat:=if C=="NoBook" then [98,111,111,107] else if C=="NoRow" then [114,111,119] else [111,114,100,101,114]
def vU (C:String):Prop:=C="NoBook"\/C="NoRow"\/C="NoOrder"
noncomputable def oE (C:String):List Bool:=[bC C "Full",bC C "NoBook",bC C "NoForm",bC C "NoJoin",bC C "NoLine",bC C "NoMatch",bC C "NoOrder",bC C "NoRow",bC C "NoText",bC C "NoWord",bC C "Nothing",bC C "TooMany",bC C "Turned"]
noncomputable def aeS:List (List Nat):=[[102,117,108,108],[98,111,111,107],[102,111,114,109],[106,111,105,110],[108,105,110,101],[109,97,116,99,104],[111,114,100,101,114],[114,111,119],[116,101,120,116],[119,111,114,100],[110,111,116,104,105,110,103],[109,97,110,121],[116,117,114,110,101,100]]
theorem O9 {C:String} (h:vU C):["NoBook","NoMatch","NoRow","NoOrder"].contains C=true/\bC C "SieveError"=true/\bC C "ValueError"=true/\(oE C).count true=1/\true∈oE C/\atI (aeS.map D.str) ((oE C).idxOf true:Nat)=some (.str (je C)):=by rcases h with rfl |rfl |rfl;all_goals exact ⟨by decide,by decide,by decide,by decide,by decide,rfl⟩
def zT:RF.Spec:=ghS (A:=String) (λC ds _=>ds=[.exn C]/\vU C) (λC G d G'=>Sa G G'/\d=.str (je C))
theorem aeT(Φ:aa)(C:String)(ds:List D)(G:DH)(h:ds=[.exn C]/\vU C):aq Φ zc noE (env0 ds 2) G (ends λd G'=>Sa G G'/\d=.str (je C)):=by
 obtain ⟨rfl,hC⟩:=h;obtain ⟨c1,c2,c3,c4,c5,c6⟩:=O9 hC;simp_all_arith[zc];refine seq λM hM=>?_;simp_arith[c1];repeat refine ⟨by first |trivial |decide,?_⟩
 intro q1 hq1;refine hM _ _ (vR hq1 λG1 g1 s1=>seq λM hM=>?_);simp_arith[c1,cL g1];repeat refine ⟨by first |trivial |decide,?_⟩
 intro q2 hq2;refine hM _ _ (vR hq2 λG2 g2 s2=>seq λM hM=>?_);simp_arith[c1,cL g2];repeat refine ⟨by first |trivial |decide,?_⟩
 intro q3 hq3;refine hM _ _ (vR hq3 λG3 g3 s3=>seq λM hM=>?_);simp_arith[c1,cL g3];repeat refine ⟨by first |trivial |decide,?_⟩
 intro q4 hq4;refine hM _ _ (vR hq4 λG4 g4 s4=>seq λM hM=>?_);simp_arith[c1,dB g4];repeat refine ⟨by first |trivial |decide,?_⟩
 refine hM _ _ (aeN hq4 s4 λG5 g5 s5=>seq λM hM=>?_);have sa:Sa G G5:=s1.trans (s2.trans (s3.trans s5));simp_arith[aeQ g5,aeO g5,c1];refine bH (a:=oE C) rfl ?_;simp_arith[c4,c2,c3];refine hM _ _ (seq λM hM=>?_);simp_arith[ends];refine ⟨by decide,hM _ _ (last ?_)⟩;simp_arith[aeR g5,aeP g5];refine ⟨by decide,by decide,bH (a:=oE C) rfl ⟨c5,?_⟩⟩;exact bH c6 ⟨sa,rfl⟩
def oF:List Nat:=[116,111,108,100]
structure T13 where
 ds:List D
 l:List Nat
def Pa(a:T13)(ds:List D)(G:DH):Prop:=ds=a.ds/\((a.l=oF/\∃b,zQ b a.ds G)\/∃C,a.l=je C/\vP a.ds C)
def kY:RF.Spec:=ghS Pa (λa G d G'=>Sa G G'/\d=.str a.l)
theorem aeU{ds:List D}{C:String}(h:vP ds C):vU C:=by
 obtain ⟨k,x,y,z,_,_,_,⟨e,_⟩ |⟨w,rs,_,_,_,⟨e,_⟩ |⟨e,_⟩⟩⟩:=h
 ·exact .inl e
 ·exact .inr (.inl e)
 ·exact .inr (.inr e)
theorem aeV (Φ:aa) (h1:Φ "_law_asked"=zR) (h2:Φ "_law_refusal"=zT) (a:T13) (ds:List D) (G:DH) (h:Pa a ds G):aq Φ u6 noE (env0 ds 2) G (ends λd G'=>Sa G G'/\d=.str a.l):=by
 obtain ⟨ds',l⟩:=a;obtain ⟨e,h⟩:=h;dsimp only at e h ⊢;subst e;rcases h with ⟨rfl,b,hb⟩ |⟨C,rfl,hC⟩
 ·have e:=hb.1;rw[e]at hb ⊢;simp_all_arith[u6];refine seq λM hM=>?_;simp_arith[ends];refine hM _ _ (seq λM hM=>?_);simp_arith[h1];refine dW (cW b hb λd G' s=>hM _ _ (seq λM hM=>?_));simp_arith[ends];exact ⟨s,rfl⟩
 ·have hi:=aeU hC;obtain ⟨c1,c2,_⟩:=O9 hi;obtain ⟨k,x,y,z,rfl,_⟩:=id hC;simp_all_arith[u6];refine seq λM hM=>?_;simp_arith[ends];refine hM _ _ (seq λM hM=>?_);simp_arith[h1];refine bY hC ⟨rfl,c1,c2,hM _ _ (seq λM hM=>?_)⟩;simp_arith[caught,lC];refine hM _ _ (last ?_);simp_arith[h2];refine cW C ⟨rfl,hi⟩ λd G' hx=>?_;obtain ⟨s,rfl⟩:=hx;exact ⟨s,rfl⟩
theorem Pb{k:Int}{x y z:D}{G:DH}{q:D->DH->Prop}{E:EK}(k0:0<=k)(k8:k < 8)(h:cT x)(hq:∀G',Sa G G'->q (.str [98,111,111,107]) G'):kY.t [.int k,x,y,z] G q E:=
 cW ⟨_,je "NoBook"⟩ ⟨rfl,.inr ⟨"NoBook",rfl,k,x,y,z,rfl,k0,k8,.inl ⟨rfl,h⟩⟩⟩ λd G' hx=>by
  obtain ⟨s,rfl⟩:=hx;exact hq G' s
theorem Pg{k:Int}{w:Nat}{rs:List Row}{y z:D}{G:DH}{q:D->DH->Prop}{E:EK}(k0:0<=k)(k8:k < 8)(hb:okB w rs)(h2:2<=rs.length)(h:k<=3\/(y=.int 0/\z=.tup (aO 0 rs.length)))(hq:∀G',Sa G G'->q (.str oF) G'):kY.t [.int k,au w rs,y,z] G q E:=
 cW ⟨_,oF⟩ ⟨rfl,.inl ⟨rfl,(k,w,rs,y,z),rfl,hb,h2,k0,k8,h⟩⟩ λd G' hx=>by
  obtain ⟨s,rfl⟩:=hx;exact hq G' s
def zU(k:Int):List Nat:=if k<=3 then oF else if k < 7 then [114,111,119] else [111,114,100,101,114]
theorem Ph{k:Int}{w:Nat}{rs:List Row}{y z:D}{G:DH}{q:D->DH->Prop}{E:EK}(k0:0<=k)(k8:k < 8)(hb:okB w rs)(h2:2<=rs.length)(hy:O8 rs y)(hz:kO rs.length z false)(hq:∀G',Sa G G'->q (.str (zU k)) G'):kY.t [.int k,au w rs,y,z] G q E:=by
 unfold zU at hq;by_cases h3:k<=3
 ·rw[if_pos h3]at hq;exact Pg k0 k8 hb h2 (.inl h3) hq
 ·rw[if_neg h3]at hq;by_cases h7:k < 7
  ·rw[if_pos h7]at hq;exact cW ⟨_,je "NoRow"⟩ ⟨rfl,.inr ⟨"NoRow",rfl,k,au w rs,y,z,rfl,k0,k8,.inr ⟨w,rs,rfl,hb,h2,.inl ⟨rfl,by omega,h7,hy⟩⟩⟩⟩ λd G' hx=>by
    obtain ⟨s,rfl⟩:=hx;exact hq G' s
  ·rw[if_neg h7]at hq;exact cW ⟨_,je "NoOrder"⟩ ⟨rfl,.inr ⟨"NoOrder",rfl,k,au w rs,y,z,rfl,k0,k8,.inr ⟨w,rs,rfl,hb,h2,.inr ⟨rfl,by omega,hz⟩⟩⟩⟩ λd G' hx=>by
    obtain ⟨s,rfl⟩:=hx;exact hq G' s
noncomputable def vV:List Nat:=[32,33,34,35,36,38,39,40,41,42,43,44,45,46,47,48,49,50,51,52,53,54,55,56,57,58,59,60,61,62,63,64,65,66,67,68,69,70,71,72,73,74,75,76,77,78,79,80,81,82,83,84,85,86,87,88,89,90,91,92,93,94,95,96]++[97,98,99,100,101,102,103,104,105,106,107,108,109,110,111,112,113,114,115,116,117,118,119,120,121,122,123,124,125,126,9,10]
def sSB:RF.Spec:=ghS (A:=Addr×List Nat) (λa ds G=>ds=[.ref a.1,.str a.2]/\Pen G a.1/\0 < (vV.filter λc=>!a.2.contains c).length) (λa G d G'=>∃c,d=.str [c]/\a.2.contains c=false/\Pen G' a.1/\Sb a.1 G G')
theorem Pj{p:Addr}{l:List Nat}{G:DH}{k:D->DH->Prop}{E:EK}(hp:Pen G p)(h:0 < (vV.filter λc=>!l.contains c).length)(hk:∀(c:Nat)(G':DH),l.contains c=false->Pen G' p->Sb p G G'->k (.str [c]) G'):sSB.t [.ref p,.str l] G k E:=cW (p,l) ⟨rfl,hp,h⟩ λd G' hx=>by
 obtain ⟨c,rfl,e1,e2,e3⟩:=hx;exact hk c G' e1 e2 e3
theorem aeW (Φ:aa) (h1:Φ "_law_take"=dU) (a:Addr×List Nat) (ds:List D) (G:DH) (h:ds=[.ref a.1,.str a.2]/\Pen G a.1/\0 < (vV.filter λc=>!a.2.contains c).length):aq Φ yZ noE (env0 ds 2) G (ends λd G'=>∃c,d=.str [c]/\a.2.contains c=false/\Pen G' a.1/\Sb a.1 G G'):=by
 obtain ⟨p,m⟩:=a;obtain ⟨rfl,hp,hm⟩:=h;dsimp only at hp hm ⊢;simp_all_arith[yZ];refine seq λM hM=>?_;simp_arith[ends];refine hM _ _ (seq λM hM=>?_);simp_arith[ends];refine ⟨by decide,hM _ _ ?_⟩;refine (λtail=>tail vV (by decide) hm) (?_:∀l:List Nat,l.length<=1000->0 < (l.filter λc=>!m.contains c).length->aq Φ _ noE [some (.ref p),some (.str m),some (.str l),none] G _);intro l l2 l3;have l4:(l.filter λc=>!m.contains c).length<=l.length:=List.length_filter_le _ _;refine seq λM hM=>?_;simp_arith[ends];refine CompG.inv (P:=λi acc ρ G'=>(∃o,ρ=[o,some (.str m)])/\G'=G/\acc=((l.take i).filter λc=>!m.contains c).map λc=>D.str [c]) ⟨⟨_,rfl⟩,rfl,rfl⟩ (λ_ _ _ _ _=>trivial) (by simp;have hsz:sz=1000000:=rfl;omega) ?_ ?_
 ·rintro i d acc ρ G' hd ⟨⟨o,rfl⟩,rfl,rfl⟩ kk hk;rw[a9]at hd;obtain ⟨c,hc,rfl⟩:=a7.mp hd;have htk:l.take (i+1)=l.take i++[c]:=by rw[d6,hc];rfl
  simp_arith[ends];cases hmc:m.contains c with
  |true=>
   simp only[ft];exact hk _ _ _ ⟨⟨_,rfl⟩,rfl,by rw[htk,List.filter_append,List.filter_cons,hmc];simp⟩
  |false=>
   simp only[Bool.not_false];exact hk _ _ _ ⟨⟨_,rfl⟩,rfl,by rw[htk,List.filter_append,List.filter_cons,hmc];simp⟩
 ·rintro acc ρ G' ⟨⟨o,rfl⟩,rfl,rfl⟩;rw[ah,ez];refine hM _ _ (last ?_);simp_arith[h1,ah];refine cz hp (by omega) (by omega) λr G2 hr hp2 sb2=>?_;simp_arith[ends];refine uZ (by omega) (by rw[ah];exact hr) λa ha=>?_;obtain ⟨c,hc,rfl⟩:=cm.mp ha;have:=(e8.mp hc).2;exact ⟨c,rfl,by simpa using this,hp2,sb2⟩
theorem zV:∀{a b:List D},aV a=true->aV b=true->aV (a++b)=true
 |[],_,_,hb=>hb
 |x::a,b,ha,hb=>by
  rw[aV,ae]at ha;rw[List.cons_append,aV,ha.1,zV ha.2 hb];rfl
theorem Pk{a b:List D}(ha:nrs a=true)(hb:nrs b=true):nrs (a++b)=true:=yI λd hd=>by
 rcases bb.mp hd with h |h
 ·exact vg ha h
 ·exact vg hb h
theorem zW{w:Nat}{rs:List Row}(h:okB w rs):aV (rs.map aA)=true/\(rs.map aA).length<=100000:=by have:=Np h;unfold au at this;simp only[szA,aV,cb,d5,ae,bg]at this;exact ⟨this.2.2,this.2.1⟩
theorem aeX{w:Nat}{l:List D}(h1:nrs l=true)(h2:aV l=true)(h3:l.length<=100000){d:D}(hd:d∈l)(hr:cM (w:Int) d=false):cT (.tup [.int w,.tup l]):=by
 refine ⟨by simp only[nr,nrs,h1,cb],by simp only[szA,aV,h2,ay h3,cb];rfl,?_⟩;show (decide (1<=(w:Int))&&decide ((w:Int)<=6)&&decide (l.length<=12)&&l.all (cM w))=false;have:l.all (cM (w:Int))=false:=by rw[<-Bool.not_eq_true,bp];intro z;rw[z d hd]at hr;cases hr
 rw[this,db]
theorem Pn{f d:List Nat}(hf:f.length<=100000)(hd:d.length<=100000):szA (.tup [.str f,.str d])=true:=by simp only[szA,aV,cb,ae,bg];exact ⟨by simp,hf,hd⟩
theorem Pq{s l:List Nat}{w:Nat}(h:l.length≠w):isText s (w:Int) (.str l)=false:=by show (decide ((l.length:Int)=w)&&l.all λc=>s.contains c)=false;rw[bv (by omega)];rfl
theorem aeY{s l:List Nat}{w c:Nat}(h:c∈l)(hc:s.contains c=false):isText s (w:Int) (.str l)=false:=by
 show (decide ((l.length:Int)=w)&&l.all λc=>s.contains c)=false;have:l.all (λc=>s.contains c)=false:=by rw[<-Bool.not_eq_true,bp];intro z;rw[z c h]at hc;cases hc
 rw[this,db]
theorem aeZ{w:Nat}{x:D}(h1:nr x=true)(h2:szA x=true):cT (.tup [.int w,.tup (reps [x] 13)]):=by have e:reps [x] 13=[x,x,x,x,x,x,x,x,x,x,x,x,x]:=rfl;rw[e];refine ⟨by simp only[nr,nrs,h1,cb],by simp only[szA,aV,h2,cb];rfl,?_⟩;show (decide (1<=(w:Int))&&decide ((w:Int)<=6)&&false&&_)=false;rw[db,dy]
theorem ae0{w:Nat}{rs:List Row}(h:okB w rs):cT (.tup (rs.map aA)):=by
 obtain ⟨h1,h2⟩:=zW h;refine ⟨by rw[nr];exact gR rs,by rw[szA,h1,ay h2];rfl,?_⟩;match rs with
 |[]=>rfl
 |[a]=>rfl
 |[a,b]=>rfl
 |a::b::c::r=>rfl
noncomputable def Pr(w:Nat)(rs:List Row)(n:Nat)(x:D):D:=.tup [.int w,.tup ((rs.take n).map aA++[x]++(rs.drop (n+1)).map aA)]
theorem ae1{w n:Nat}{rs:List Row}(hb:okB w rs){x:D}(h1:nr x=true)(h2:szA x=true)(hr:cM (w:Int) x=false):cT (Pr w rs n x):=by have hs:=(zW hb).1;have hlen:=hb.len;have ht:aV ((rs.take n).map aA)=true:=vq λd hd=>vp hs (by rw[List.map_take]at hd;exact List.mem_of_mem_take hd);have hd:aV ((rs.drop (n+1)).map aA)=true:=vq λd hd=>vp hs (by rw[gd]at hd;exact fh hd);exact aeX (Pk (Pk (gR _) (by simp only[nrs,h1,cb])) (gR _)) (zV (zV ht (by simp only[aV,h2,cb])) hd) (by simp;omega) (dk _ (bq _ (ba.mpr rfl))) hr
theorem Pu{l:List Nat}{c:Nat}(h:c∈l)(hc:letters.contains c=false):fM (.str l)=false:=by
 show (decide (1<=l.length)&&decide (l.length<=8)&&l.all λc=>letters.contains c)=false;have:l.all (λc=>letters.contains c)=false:=by rw[<-Bool.not_eq_true,bp];intro z;rw[z c h]at hc;cases hc
 rw[this,db]
theorem jf{w:Nat}{f d:List Nat}(h:isText [48,49,42] (w:Int) (.str f)=false\/fM (.str d)=false):cM (w:Int) (.tup [.str f,.str d])=false:=by
 show (isText [48,49,42] (w:Int) (.str f)&&fM (.str d))=false;rcases h with e |e
 ·rw[e];rfl
 ·rw[e,db]
def sOB:RF.Spec:=ghS (A:=Addr×Nat×List Row) (λa ds G=>ds=[.ref a.1,au a.2.1 a.2.2]/\Pen G a.1/\okB a.2.1 a.2.2/\0 < a.2.2.length) (λa G d G'=>∃l,d=.lst l/\(∀x∈l,cT x)/\Pen G' a.1/\Sb a.1 G G')
theorem ae2{p:Addr}{w:Nat}{rs:List Row}{G:DH}{k:D->DH->Prop}{E:EK}(hp:Pen G p)(hb:okB w rs)(h0:0 < rs.length)(hk:∀(l:List D)(G':DH),(∀x∈l,cT x)->Pen G' p->Sb p G G'->k (.lst l) G'):sOB.t [.ref p,au w rs] G k E:=cW (p,w,rs) ⟨rfl,hp,hb,h0⟩ λd G' hx=>by
 obtain ⟨l,rfl,e1,e2,e3⟩:=hx;exact hk l G' e1 e2 e3
theorem ae3 (Φ:aa) (h1:Φ "_law_take"=dU) (h2:Φ "_law_sign_but"=sSB) (a:Addr×Nat×List Row) (ds:List D) (G:DH) (h:ds=[.ref a.1,au a.2.1 a.2.2]/\Pen G a.1/\okB a.2.1 a.2.2/\0 < a.2.2.length):aq Φ za noE (env0 ds 10) G (ends λd G'=>∃l,d=.lst l/\(∀x∈l,cT x)/\Pen G' a.1/\Sb a.1 G G'):=by
 obtain ⟨p,w,rs⟩:=a;obtain ⟨rfl,hp,hb,h0⟩:=h;dsimp only at hp hb h0 ⊢;have hlen:=hb.len;have hw1:=hb.w1;have hw6:=hb.w6;obtain ⟨hz1,hz2⟩:=zW hb;simp_all_arith[za,au];refine seq λM hM=>?_;simp_arith[ends];refine hM _ _ (seq λM hM=>?_);simp_arith[h1,ah];refine cz hp (by omega) (by omega) λr G1 hr hp1 sb1=>hM _ _ (seq λM hM=>?_);have hr':r < rs.length:=by omega
 have hc:rs[r]?=some rs[r]:=aS hr';have hf:=hb.form _ (ck hr');have hd:=hb.deed _ (ck hr');simp_arith[ends];refine bH (a:=aA rs[r]) (bK (by rw[a9,hc];rfl)) ?_;generalize hrow:rs[r]=row at hf hd ⊢;obtain ⟨f,e⟩:=row;simp_arith[aA];refine hM _ _ (seq λM hM=>?_);dsimp only at hf hd;have hfl:=hf.1;have hd1:=hd.1;have hd8:=hd.2.1;simp_arith[h1];refine cz hp1 (by omega) (by omega) λs G2 hs hp2 sb2=>hM _ _ (seq λM hM=>?_);simp_arith[h2];refine Pj hp2 (by decide) λc G3 hcs hp3 sb3=>hM _ _ (seq λM hM=>?_);simp_arith[h2];refine Pj hp3 (by decide) λc' G4 hcs' hp4 sb4=>hM _ _ (seq λM hM=>?_);have he1:(cut e none (some (-1))).length<=8:=c9 (yH _ _ _) hd8;have hf1:cut f (some 1) none=f.drop 1:=mD f 1;simp_arith[uX,uY];generalize cut e none (some (-1))=e1 at he1 ⊢;repeat refine ⟨by first |decide | ((try simp only[aI,ci,bX,cr,eg]);have hsz:sz=1000000:=rfl;omega),?_⟩
 refine hM _ _ (seq λM hM=>?_);simp_arith[hf1];repeat refine ⟨by first |decide | ((try simp only[aI,ci,bX,cr,eg]);have hsz:sz=1000000:=rfl;omega),?_⟩
 refine hM _ _ ?_;refine (λtail=>tail _ ?hl ?hall) (?htail:∀L:List D,L.length<=11->(∀x∈L,nr x=true/\szA x=true/\cM (w:Int) x=false)->aq Φ _ noE [_,_,_,_,_,_,_,_,_,_,some (.lst L),none] G4 _);case hl=>simp
 case hall=>
  intro x hx;have s1:∀a b:List Nat,a.length<=100->b.length<=100->szA (.tup [.str a,.str b])=true:=λa b h1 h2=>Pn (by omega) (by omega);have sf:decide (f.length<=100000)=true:=ay (by omega);have se:decide (e.length<=100000)=true:=ay (by omega);simp only[bn,List.not_mem_nil,or_false,List.cons_append,List.nil_append]at hx;rcases hx with rfl |rfl |rfl |rfl |rfl |rfl |rfl |rfl |rfl |rfl |rfl
  ·exact ⟨rfl,s1 _ _ (by simp;omega) (by omega),jf (.inl (aeY (c:=c) (by simp) hcs))⟩
  ·exact ⟨rfl,s1 _ _ (by omega) (by simp;omega),jf (.inr (Pu (c:=c') (by simp) hcs'))⟩
  ·exact ⟨rfl,s1 _ _ (by omega) (by decide),jf (.inr rfl)⟩
  ·exact ⟨rfl,s1 _ _ (by omega) (by decide),jf (.inr rfl)⟩
  ·exact ⟨rfl,s1 _ _ (by simp;omega) (by omega),jf (.inl (Pq (by simp;omega)))⟩
  ·exact ⟨rfl,s1 _ _ (by simp;omega) (by omega),jf (.inl (Pq (by simp;omega)))⟩
  ·exact ⟨rfl,by simp only[szA,aV,sf,se];rfl,rfl⟩
  ·exact ⟨rfl,by simp only[szA,aV,sf,se];rfl,rfl⟩
  ·exact ⟨rfl,by simp only[szA,aV,sf];rfl,rfl⟩
  ·exact ⟨rfl,rfl,rfl⟩
  ·have hc0:f[0]'(by omega)∈f:=ck _;refine ⟨rfl,s1 _ _ (by omega) (by omega),jf (.inr (Pu hc0 ?_))⟩;rcases hf.2 _ hc0 with e0 |e0 |e0 <;> rw[e0] <;> rfl
 intro L hL hall;refine seq λM hM=>?_;simp_arith[ends];refine CompG.map (f:=Pr w rs r) (I:=λρ=>∃o,ρ=[o,some (.int w),some (.tup (rs.map aA)),some (.int r)]) ⟨_,rfl⟩ trivial (by have hsz:sz=1000000:=rfl;omega) ?_ ?_
 ·rintro d ρ hd ⟨o,rfl⟩ kk hk;simp_arith[zB,uY,<-gd];repeat refine ⟨by first |decide | ((try simp only[ah,aI,ci,bX,cr,eg]);have hsz:sz=1000000:=rfl;omega),?_⟩
  exact hk _ ⟨_,rfl⟩
 refine hM _ _ (seq λM hM=>?_);simp_arith[ah];repeat refine ⟨by first |decide | ((try simp only[ah,aI,ci,bX,cr,eg]);have hsz:sz=1000000:=rfl;omega),?_⟩
 refine hM _ _ (last ?_);have h00:rs[0]?=some rs[0]:=aS h0;simp_arith[ah];repeat refine ⟨by first |decide | ((try simp only[ah,aI,ci,bX,cr,eg]);have hsz:sz=1000000:=rfl;omega),?_⟩
 refine bH (a:=aA rs[0]) (bK (j:=0) (by rw[a9,h00];rfl)) ?_;repeat refine af (by first |decide |exact List.cons_ne_nil _ _ | ((try simp only[ah,aI,ci,bX,cr,eg,DQ]);have hsz:sz=1000000:=rfl;omega)) ?_
 refine ⟨_,rfl,λx hx=>?_,hp4,sb1.trans (sb2.trans (sb3.trans sb4))⟩;simp only[bb,bn,List.not_mem_nil,or_false,cm]at hx;rcases hx with (⟨y,hy,rfl⟩ |rfl |rfl |rfl |rfl |rfl |rfl |rfl |rfl |rfl) |rfl |rfl |rfl |rfl |rfl
 ·obtain ⟨h1,h2,h3⟩:=hall y hy;exact ae1 hb h1 h2 h3
 ·exact ⟨rfl,rfl,rfl⟩
 ·exact ⟨rfl,rfl,rfl⟩
 ·exact ⟨rfl,rfl,rfl⟩
 ·exact ⟨rfl,rfl,rfl⟩
 ·exact ae0 hb
 ·exact ⟨by simp only[nr,nrs,gR,cb],by simp only[szA,aV,hz1,ay hz2,cb];rfl,rfl⟩
 ·exact ⟨by simp only[nr,nrs,gR,cb],by simp only[szA,aV,hz1,ay hz2,cb];rfl,rfl⟩
 ·exact ⟨rfl,rfl,rfl⟩
 ·exact ⟨by simp only[nr,nrs,gR,cb],by simp only[szA,aV,hz1,ay hz2,cb];rfl,rfl⟩
 ·exact ⟨rfl,rfl,rfl⟩
 ·exact ⟨rfl,rfl,rfl⟩
 ·exact ⟨rfl,rfl,rfl⟩
 ·exact ⟨by simp only[nr,nrs,gR,cb],by simp only[szA,aV,hz1,ay hz2,cb];rfl,rfl⟩
 ·have hfr:=(hb.form _ (ck h0)).1;have hdr:=(hb.deed _ (ck h0)).2.1;exact aeZ rfl (Pn (by omega) (by omega))
theorem ae4{j:Nat}(h:j < 8):atI [D.str [116,111,108,100],.str [114,111,119],.str [111,114,100,101,114]] ((if decide ((3:Int) < 0+(j:Int)) then 1 else 0)+(if decide ((6:Int) < 0+(j:Int)) then 1 else 0))=some (.str (zU (0+(j:Int)))):=by
 have:j=0\/j=1\/j=2\/j=3\/j=4\/j=5\/j=6\/j=7:=by omega
 rcases this with rfl |rfl |rfl |rfl |rfl |rfl |rfl |rfl <;> rfl
structure F13(Φ:aa):Prop where
 opn:Φ "_law_open"=zm
 anew:Φ "_law_anew"=vd
 book:Φ "_law_book"=vo
 odd:Φ "_law_odd_books"=sOB
 told:Φ "_law_told"=kY
theorem ae5(Φ:aa)(F:F13 Φ)(ds:List D)(G:DH)(h:∃ns:List Int,ds=[.scr ns]/\ns.length<=63):aq Φ zf noE (env0 ds 9) G (ends λd _=>d=.bl true):=by
 obtain ⟨ns,rfl,hl⟩:=h;simp_all_arith[zf];refine seq λM hM=>?_;simp_arith[F.opn];refine bR ⟨ns,rfl,hl⟩ λd' G1 hx=>?_;obtain ⟨p,e1,_,hp,_⟩:=hx;subst e1;refine hM _ _ (seq λM hM=>?_);simp_arith![ends];refine ⟨by decide,ForG.inv (P:=λi ρ G'=>(∃o2 o3 o4 o5 o6 o7 o8 o9,ρ=[some (.scr ns),some (.ref p),o2,o3,o4,o5,o6,o7,o8,o9])/\Pen G' p) ⟨⟨_,_,_,_,_,_,_,_,rfl⟩,hp⟩ (λ_ _ _ _=>trivial) ?_ ?_⟩
 ·rintro i d ρ G2 hd ⟨⟨o2,o3,o4,o5,o6,o7,o8,o9,rfl⟩,hp2⟩ kk hk;simp_arith![ends];refine seq λM hM=>?_;simp_arith[F.anew,F.book];refine ac4 hp2 λG3 hp3 _=>?_;refine acH (w:=6) (m:=6) hp3 (by decide) (by decide) (by decide) λw rs G4 hb hw hrs hp4 _=>?_;have hw1:=hb.w1;have hw6:=hb.w6;simp_arith[au];refine hM _ _ (seq λM hM=>?_);simp_arith[ce,Nu];repeat refine ⟨by first |decide | ((try simp only[ah,aI,ca,cr,eg]);have hsz:sz=1000000:=rfl;omega),?_⟩
  obtain ⟨ss,hss⟩:∃ss:List Row,ss=(List.replicate w 42,[97])::rs++[(List.replicate w 48,[103,111])]:=⟨_,rfl⟩;have e2:D.tup [.str (List.replicate w 42),.str [97]]::(rs.map aA++[D.tup [.str (List.replicate w 48),.str [103,111]]])=ss.map aA:=by rw[hss,dS,b6];rfl
  have oa:okD [97]:=⟨by decide,by decide,by decide⟩;have og:okD [103,111]:=⟨by decide,by decide,by decide⟩;have hb2:okB w ss:=by
   have hm:∀r∈ss,r=(List.replicate w 42,[97])\/r∈rs\/r=(List.replicate w 48,[103,111]):=λr hr=>by
    rw[hss]at hr;simpa using hr
   refine ⟨hw1,hw6,by rw[hss];simp;omega,λr hr=>?_,λr hr=>?_⟩
   ·rcases hm r hr with rfl |h |rfl
    ·exact ⟨ca,λc hc=>.inr (.inr (List.eq_of_mem_replicate hc))⟩
    ·exact hb.form r h
    ·exact ⟨ca,λc hc=>.inl (List.eq_of_mem_replicate hc)⟩
   ·rcases hm r hr with rfl |h |rfl
    ·exact oa
    ·exact hb.deed r h
    ·exact og
  have h2:2<=ss.length:=by rw[hss];simp
  have hlen:=hb2.len;have hrl:(aO 0 ss.length).length=ss.length:=by rw[gZ,ah,kW]
  refine hM _ _ ?_;rw[e2];refine seq λM hM=>?_;simp_arith[ah,ce];refine ⟨⟨by omega,by omega⟩,hM _ _ (last ?_)⟩;simp_arith![ends];refine ⟨by decide,ForG.inv (P:=λi ρ G'=>(∃o7 o8 o9,ρ=[some (.scr ns),some (.ref p),some d,some (.int w),some (.tup (rs.map aA)),some (.tup [.int w,.tup (ss.map aA)]),some (.tup (aO 0 ss.length)),o7,o8,o9])/\Pen G' p) ⟨⟨_,_,_,rfl⟩,hp4⟩ (λ_ _ _ _=>trivial) ?_ ?_⟩
  ·rintro i7 d7 ρ G5 hd7 ⟨⟨o7,o8,o9,rfl⟩,hp5⟩ kk7 hk7;unfold aO at hd7;rw[a9]at hd7;obtain ⟨j,hj,rfl⟩:=a7.mp hd7;have hj8:j < 8:=by
    have:=cK hj;simpa using this
   have k0:(0:Int)<=0+(j:Int):=by omega
   have k8:0+(j:Int) < 8:=by omega
   have e0:∀xs:List Row,D.tup [.int w,.tup (xs.map aA)]=au w xs:=λ_=>rfl;have hdue:=ae4 hj8;generalize 0+(j:Int)=k at k0 k8 hdue ⊢;simp_arith![ends];refine seq λM hM=>?_;simp_arith![F.odd];rw[e0];refine ae2 hp5 hb2 (by omega) λl G6 hl6 hp6 sb6=>?_;simp_arith![ends];refine ForG.inv (P:=λi ρ G'=>(∃o8,ρ=[some (.scr ns),some (.ref p),some d,some (.int w),some (.tup (rs.map aA)),some (au w ss),some (.tup (aO 0 ss.length)),some (.int k),o8,o9])/\Pen G' p) ⟨⟨_,rfl⟩,hp6⟩ (λ_ _ _ _=>trivial) ?_ ?_
   ·rintro i8 x ρ G7 hx ⟨⟨o8,rfl⟩,hp7⟩ kk8 hk8;have hx:=hl6 x (cK hx);simp_arith![ends];refine last ?_;simp_arith[F.told];refine Pb k0 k8 hx λG8 s8=>?_;simp_arith[ends];refine Pb k0 k8 hx λG9 s9=>?_;simp_arith[ends];exact hk8 _ _ ⟨⟨_,rfl⟩,(hp7.sa s8).sa s9⟩
   ·rintro ρ G7 ⟨⟨o8',rfl⟩,hp7⟩;refine hM _ _ (seq λM hM=>?_);simp_arith[F.told];refine Pg k0 k8 hb2 h2 (.inr ⟨rfl,rfl⟩) λG8 s8=>?_;simp_arith[oF];refine hM _ _ (seq λM hM=>?_);simp_arith[ends];refine ⟨by decide,?_⟩;refine bH hdue (hM _ _ (last ?_));have hcut:cut (aO 0 ss.length) (some 1) none=(aO 0 ss.length).drop 1:=mD _ 1;simp_arith[F.told,hcut];refine Ph k0 k8 hb2 h2 ⟨rfl,rfl,rfl⟩ (.inr ⟨.inr rfl,rfl⟩) λG9 s9=>?_;simp_arith[hrl,BEq.rfl];have hint:∀m:Int,m<=(ss.length:Int)->isPlace m (.int (ss.length:Int))=false:=λm hm=>by
     show (decide (0<=(ss.length:Int))&&decide ((ss.length:Int) < m))=false;rw[bv (show ¬(ss.length:Int) < m by omega),db]
    refine Ph k0 k8 hb2 h2 ⟨rfl,hint _ (by omega),hint _ (by omega)⟩ (.inr ⟨.inl ⟨_,rfl⟩,rfl⟩) λG10 s10=>?_;simp_arith[BEq.rfl];exact hk7 _ _ ⟨⟨_,_,_,rfl⟩,((hp7.sa s8).sa s9).sa s10⟩
  ·rintro ρ G5 ⟨⟨o7,o8,o9,rfl⟩,hp5⟩;exact hk _ _ ⟨⟨_,_,_,_,_,_,_,_,rfl⟩,hp5⟩
 ·rintro ρ G2 ⟨_,hp2⟩;refine hM _ _ (last ?_);simp_arith[ends]
end RF
namespace HD
open PySem PySem.W
def sv(x:Str)(t:Nat):Value:=.str x t
def ri(n:Nat):Value:=.int n 0
def g8 (l:List Value):Obj:=⟨.type "tuple",none,.seq ⟨l⟩ 0,⟨[]⟩⟩
def fP(c:Value)(l:List Value):Obj:=⟨c,none,.fields ⟨l⟩,⟨[]⟩⟩
def oG:Str:="/claim/cut.py"
noncomputable def zX(n q:Str)(ln ac fl a b:Nat)(isf:Bool)(l1 l2 tm:Value)(t t2:Nat):Obj:=
 fP (.type "code") [sv n t,sv q (t+1),sv oG (t+2),ri ln,ri ac,ri 0,ri 0,ri fl,.ref a,.bool isf,ri 181,.ref b,.none,l1,l2,tm,ri t2,ri ln,sv oG (t2+1)]
def toks(t:Nat):List Str->List Value
 |[]=>[]
 |x::r=>sv x t::toks (t+1) r
def fdO(n q:Str)(p:Arguments)(b:List Stmt)(sc:Scope)(g:Nat)(md cd:Value):Data:=
 .func { name:=n,qualname:=q,params:=p,body:=.stmts b,scope:=sc,globals:=g,closure:=[],defaults:=.none,kwdefaults:=.none,pyModule:=md,code:=cd }
def enO(P:Params)(k:Str)(t:Nat)(v:Value):DictEntry:={ hash:=PyData.keyHash P k,key:=sv k t,val:=v }
def oH (l:List DictEntry) (e:Nat):Obj:=⟨.type "dict",none,.dict ⟨l⟩ e,⟨[]⟩⟩
noncomputable def frO (c l:Nat) (md:Value):Obj:=⟨.type "frame",none,.plain,⟨[some (.ref c),some (.ref 3),some (.ref l),none,some md,none,some (.ref 0)]⟩⟩
def bfO (s:String) (v:Value):Obj:=fP (.type "builtin_function_or_method") [.builtin s,v]
def veM:List Value:=[.type "ValueError",.type "Exception",.type "BaseException",.type "object"]
def vW (b:Expr):Bool:=match b with |.Name n _=>n==("ValueError":Str) |_=>false
noncomputable def fnO(q:Str)(a t:Nat)(md:Value)(n:Str)(p:Arguments)(b:List Stmt)(sc:Scope)(ln:Nat):List Obj:=match localNames p sc (.stmts b) with
 |some l=>[g8 [],fP .none [],g8 (toks (t+3) l.1),g8 [],⟨.none,none,fdO n q p b sc 0 .none .none,⟨[]⟩⟩,
   zX n q ln p.args.length 3 a (a+1) true (.ref (a+2)) (.ref (a+3)) (.ref (a+4)) t (t+3+l.1.length),⟨.type "function",none,fdO n q p b sc 3 md (.ref (a+5)),⟨[]⟩⟩]
 |none=>[g8 [],fP .none [],⟨.none,none,fdO n q p b sc 0 .none .none,⟨[]⟩⟩,
   zX n q ln p.args.length 3 a (a+1) true .none .none (.ref (a+2)) t (t+3),⟨.type "function",none,fdO n q p b sc 3 md (.ref (a+3)),⟨[]⟩⟩]
noncomputable def fnA(p:Arguments)(b:List Stmt)(sc:Scope):Nat:=match localNames p sc (.stmts b) with |some _=>7 |none=>5
noncomputable def fnT(p:Arguments)(b:List Stmt)(sc:Scope):Nat:=match localNames p sc (.stmts b) with |some l=>l.1.length+5 |none=>5
def dot:Str:="."
structure MO where
 os:List Obj
 es:List DictEntry
 cs:List Value
 a:Nat
 t:Nat
noncomputable def vX(P:Params)(c:Str)(md:Value):List Stmt->Nat->Nat->MO
 |.FunctionDef n p b _ _ _ sc _ _ pos::r,a,t=>
  let m:=vX P c md r (a+fnA p b sc) (t+fnT p b sc+1)
  ⟨fnO (c++dot++n) a t md n p b sc pos.line++m.os,enO P n (t+fnT p b sc) (.ref (a+fnA p b sc - 1))::m.es,ri pos.line::ri pos.col::.ref (a+fnA p b sc - 2)::m.cs,m.a,m.t⟩
 |_::r,a,t=>vX P c md r a t
 |[],a,t=>⟨[],[],[],a,t⟩
def clA(P:Params)(a:Nat)(b:List Stmt):Nat:=(vX P dot .none b (a+7) 0).a+2
noncomputable def stO(P:Params)(r:Nat)(sub:List Value)(a t:Nat)(md:Value)(s:Stmt):List Obj:=match s with
 |.FunctionDef n p b _ _ _ sc _ _ pos=>fnO n a t md n p b sc pos.line
 |.ClassDef n bs _ body _ _ _ _ _ st pos=>
  let m:=vX P n md body (a+7) (t+12)
  let c:=m.a+2
  let u:=m.t+st.length
  let d1:=[enO P "__module__" (t+7) md]
  let d2:=enO P "__firstlineno__" (t+11) (.int pos.line (t+10))::m.es++[enO P "__static_attributes__" u (.ref m.a)]
  let b:List Value:=match bs with |b::_=>(match vW b with |true=>[.type "ValueError"] |false=>[.ref r]) |[]=>[]
  let own:Bool:=match bs with |[]=>true |_=>false
  let ve:Bool:=match bs with |b::_=>vW b |[]=>false
  let wr (v:Nat):Obj:=fP (.type "getset_descriptor") [sv "__weakref__" v,.ref c,.builtin "ExceptionGroup.__weakref__",.none]
  let typ (mro:List Value) (sub:List Value) (nw:String):Obj:=
   ⟨.type "type",none,.cls { name:=n,bases:=(match own with |true=>[.type "object"] |false=>b),mro:=.ref c::mro,ns:=m.a+1,qualname:=n,subclasses:=sub },
    ⟨[(match own with |true=>none |false=>some (.ref a)),none,some (sv n t),some (sv n (t+8)),some (.builtin nw),some (.bool true)]⟩⟩
  [g8 b,bfO "type.__prepare__" (.type "type"),oH (d1++enO P "__qualname__" (t+9) (sv n (t+8))::d2) (4+m.es.length),g8 [],fP .none m.cs,
   zX n n pos.line 0 0 (a+3) (a+4) false .none .none .none (t+2) (t+5),frO (a+5) (a+2) md]++m.os++[g8 (toks m.t st)] ++
  (match own with
  |true=>[oH (d1++d2++[enO P "__dict__" (u+2) (.ref (c+1)),enO P "__weakref__" (u+4) (.ref (c+2)),enO P "__doc__" (u+5) .none]) 4,typ [.type "object"] [] "object.__new__",
    fP (.type "getset_descriptor") [sv "__dict__" (u+1),.ref c,.builtin "function.__dict__",.builtin "function.__dict__#set"],wr (u+3)]
  |false=>(match ve with
   |true=>[oH (d1++d2++[enO P "__weakref__" (u+2) (.ref (c+1)),enO P "__doc__" (u+3) .none]) 3,typ veM sub "ValueError.__new__",wr (u+1)]
   |false=>[oH (d1++d2++[enO P "__doc__" (u+1) .none]) 2,typ (.ref r::veM) [] "ValueError.__new__"])) ++
  [fP (.type "super") [.ref c,.ref c,.ref c],bfO "object.__init_subclass__" (.ref c)]
 |_=>[]
noncomputable def mdO(t:Nat)(md:Value)(s:Stmt):Value:=match s with
 |.Assign [.Name n _] (.Constant (.str x) _ _) _=>(match n==("__name__":Str) with |true=>sv x t |false=>md)
 |_=>md
noncomputable def enS(P:Params)(t u a a':Nat)(s:Stmt):List DictEntry:=match s with
 |.FunctionDef n _ _ _ _ _ _ _ _ _=>[enO P n (u-1) (.ref (a'-1))]
 |.ClassDef n _ _ b _ _ _ _ _ _ _=>[enO P n (u-1) (.ref (clA P a b))]
 |.Assign [.Name n _] (.Constant c _ _) _=>(match n==("__name__":Str) with
  |true=>[]
  |false=>[enO P n (t+1) (match c with |.int i=>.int i t |.str x=>sv x t |_=>.none)])
 |_=>[]
noncomputable def cdS(a a':Nat)(s:Stmt):List Value:=match s with
 |.FunctionDef _ _ _ _ _ _ _ _ _ pos=>[ri pos.line,ri pos.col,.ref (a'-2)]
 |.ClassDef _ _ _ _ _ _ _ _ _ _ pos=>[ri pos.line,ri pos.col,.ref (a+5)]
 |_=>[]
noncomputable def sbS(P:Params)(a:Nat)(s:Stmt):List Value:=match s with
 |.ClassDef _ bs _ b0 _ _ _ _ _ _ _=>(match bs with |b::_=>(match vW b with |true=>[] |false=>[.ref (clA P a b0)]) |[]=>[])
 |_=>[]
noncomputable def ae6(P:Params)(a:Nat)(s:Stmt):List Nat:=match s with
 |.ClassDef _ bs _ b0 _ _ _ _ _ _ _=>(match bs with |b::_=>(match vW b with |true=>[clA P a b0] |false=>[]) |[]=>[])
 |_=>[]
noncomputable def fold{α:Type}(f:Nat->Nat->Nat->Nat->Value->Stmt->List α):List (Nat×Nat)->Value->List Stmt->List α
 | (a,t)::(a',u)::r,md,s::ss=>f a a' t u md s++fold f ((a',u)::r) (mdO t md s) ss
 |_,_,_=>[]
def Px:List (Nat×Nat)->Value->List Stmt->Value
 | (_,t)::r,md,s::ss=>Px r (mdO t md s) ss
 |_,md,_=>md
def jg:Value:=sv "__main__" 164
noncomputable def ae7(P:Params)(v:Value):List DictEntry:=
 [enO P "__name__" 165 v,enO P "__doc__" 166 .none,enO P "__package__" 167 .none,enO P "__loader__" 168 (.builtin "__main__.__loader__#opaque"),enO P "__spec__" 169 .none,
  enO P "__annotations__" 170 (.ref 6),enO P "__builtins__" 171 (.ref 4),enO P "__file__" 173 (sv oG 172),enO P "__cached__" 174 .none]
noncomputable def ents(N:List (Nat×Nat))(b:List Stmt)(P:Params):List DictEntry:=ae7 P (Px N jg b)++fold (λa a' t u _ s=>enS P t u a a' s) N jg b
def put{α:Type}:Nat->α->List α->List α
 |_,_,[]=>[]
 |0,x,_::r=>x::r
 |n+1,x,y::r=>y::put n x r
noncomputable def Py(cs:List Value):List Obj:=[g8 [],fP .none cs,
 fP (.type "code") [sv "<module>" 182,sv "<module>" 183,sv oG 184,ri 1,ri 0,ri 0,ri 0,ri 0,.ref 11,.bool false,ri 181,.ref 12,.none,.none,.none,.none,ri 185,ri 1,sv oG 186],frO 13 3 jg]
def ae8(B:List Obj):List Obj:=B++Py []
noncomputable def objs(B:List Obj)(N:List (Nat×Nat))(b:List Stmt)(P:Params):List Obj:=
 let es:=ents N b P
 put 3 (oH es es.length) (B++Py (fold (λa a' _ _ _ s=>cdS a a' s) N jg b) ++
  fold (λa _ t _ md s=>stO P ((fold (λa _ _ _ _ s=>ae6 P a s) N jg b).headD 0) (fold (λa _ _ _ _ s=>sbS P a s) N jg b) a t md s) N jg b)
def evs{α:Type}:List α->List α
 |[]=>[]
 |[x]=>[x]
 |x::_::r=>x::evs r
noncomputable def bt:Nat->List Obj->BT
 |0,_=>.nil
 |_,[]=>.nil
 |n+1,x::r=>.node x (bt n (evs r)) (bt n (evs r.tail))
def nameless(s:Stmt):Bool:=match s with
 |.Assign [.Name n _] _ _=>!(n==("__name__":Str))
 |_=>true
noncomputable def pick:Nat->List Nat->List Obj->Frag
 |i,a::r,o::os=>(match Nat.beq a i with |true=>(a,o)::pick (i+1) r os |false=>pick (i+1) (a::r) os)
 |_,_,_=>[]
end HD
def PySem.W.Fast.tw1862143127753538727:PySem.Program:=PySem.Challenge.pw_starsieve_k13_no_books_refused_anywhere
theorem PySem.W.Fast.te1862143127753538727:PySem.Challenge.pw_starsieve_k13_no_books_refused_anywhere=PySem.W.Fast.tw1862143127753538727:=rfl
namespace HK
open PySem PySem.W PySem.W.Fast
def pw:Program:=PySem.Challenge.pw_starsieve_k13_no_books_refused_anywhere
def rl:OpenLaw:=PySem.Challenge.rw_starsieve_k13_no_books_refused_anywhere
noncomputable def NN:List (Nat×Nat):=[(15,187),(15,189),(28,207),(47,232),(66,257),(78,273),(90,289),(102,305),(114,321),(126,337),(138,353),(150,369),(162,385),(174,401),(186,417),(198,433),(198,435),(198,437),(205,444),(212,451),(219,459),(224,465),(231,473),(236,479),(243,487),(250,496),(257,507),(264,516),(271,523),(271,525),(271,527),(271,529),(271,531),(276,537),(283,545),(288,551),(295,558),(302,566),(309,574),(316,582),(316,584),(323,591),(330,600),(337,611),(344,621),(351,632),(356,638),(363,647),(370,656),(375,662),(380,668),(380,670),(387,679),(392,685),(399,695),(399,697),(406,707),(413,717),(420,726),(420,728),(425,734),(432,742),(437,748),(444,756),(451,766),(451,768),(458,779),(465,789),(472,796),(479,807),(484,813),(491,821),(498,831),(505,841),(512,853),(517,859),(524,873),(531,882),(536,888),(543,898),(550,910),(555,916),(562,932)]
def L1(P:Params):List Obj:=HD.objs (boot_heap P).objs.toList NN pw.main.body P
def H1(P:Params):Heap:=⟨⟨L1 P⟩,{}⟩
def T1(P:Params):BT:=HD.bt 12 (L1 P)
def LA(P:Params):List Obj:=HD.ae8 (boot_heap P).objs.toList
def HA(P:Params):Heap:=⟨⟨LA P⟩,{}⟩
def T0(P:Params):BT:=HD.bt 5 (LA P)
def env:Env:={ scope:=pw.main.scope,locals:=mainNs,globals:=mainNs,cells:=[],code:=.ref 13,frame:=some 14 }
def bE:List Stmt:=behindTheImports pw
def cE:Code:=.body bE env
def p0:Pos:=⟨0,0,0,0⟩
def B:List Frame:=[topFrame p0]
def ann:Option Value:=some (.ref 6)
def qv:Program:={ pw with main:={ pw.main with body:=pw.main.body.filter HD.nameless } }
noncomputable def as:List Nat:=[3,23,24,43,44,62,63,74,75,86,87,98,99,110,111,122,123,134,135,146,147,158,159,170,171,182,183,194,195,203,204,210,211,217,218,222,223,229,230,234,235,241,242,248,249,255,256,262,263,269,270,274,275,281,282,286,287,293,294,300,301,307,308,314,315,321,322,328,329,335,336,342,343,349,350,354,355,361,362,368,369,373,374,378,379,385,386,390,391,397,398,404,405,411,412,418,419,423,424,430,431,435,436,442,443,449,450,456,457,463,464,470,471,477,478,482,483,489,490,496,497,503,504,510,511,515,516,522,523,529,530,534,535,541,542,548,549,553,554,560,561]
def K(P:Params):Frag:=HD.pick 0 as (L1 P)
def Xt(s:Shared):Bool:=xlAt qv [] s&&recOk (RowW.records rl.row.toRowW) s
def see{α:Type}(_:α):Bool:=true
theorem primed:(see T1&&see T0&&see H1&&see HA&&see cE&&see B&&see env&&see bE&&see qv&&see K&&see Xt)=true:=by k_qdec
theorem pre(w:World)(os:OsState):topGo treeTable pw w 11 ann 12 ⟨boot_heap w.params,⟨[]⟩,boot_drawn,boot_toks,os⟩ (topStub pw)=some (⟨HA w.params,⟨[]⟩,{},187,os⟩,⟨denote treeTable cE,cE,p0,B⟩):=by have _:=primed;rw[PySem.W.Fast.te15667345088766844465,PySem.W.Fast.te14364793385576792824,PySem.W.Fast.te1032975242618825031,PySem.W.Fast.te8093259214132618727,PySem.W.Fast.te1718297227530528222,PySem.W.Fast.te11892475500146522536];rfl'
theorem block(w:World)(os:OsState):segRun treeTable pw w 11 ann 1 2 ⟨HA w.params,⟨[]⟩,{},187,os⟩ (blockOf bE env cE p0 B)=some (.next,SharedT.abs ⟨T0 w.params,15,{},⟨[]⟩,{},187,os⟩,cE,p0):=by rw[PySem.W.Fast.te14374325043358763698,PySem.W.Fast.te14364793385576792824,PySem.W.Fast.te1032975242618825031,PySem.W.Fast.te8093259214132618727,PySem.W.Fast.te1718297227530528222,PySem.W.Fast.te14938417808399470215,PySem.W.Fast.te16330338443398637341,PySem.W.Fast.te10239294469119128424];rfl'
theorem piece(w:World)(os:OsState):segRunT treeTable pw w 11 ann 1 9000 ⟨T0 w.params,15,{},⟨[]⟩,{},187,os⟩ (piecesOf bE env cE p0 B)=some (.next,⟨T1 w.params,562,{},⟨[]⟩,{},932,os⟩,cE,⟨353,0,368,15⟩):=by rw[PySem.W.Fast.te10110043849684766642,PySem.W.Fast.te14364793385576792824,PySem.W.Fast.te1032975242618825031,PySem.W.Fast.te13069687644243786066,PySem.W.Fast.te14938417808399470215,PySem.W.Fast.te1718297227530528222,PySem.W.Fast.te16330338443398637341,PySem.W.Fast.te10239294469119128424];rfl'
theorem fin(w:World)(os:OsState):topRun treeTable pw w 11 ann 3 (SharedT.abs ⟨T1 w.params,562,{},⟨[]⟩,{},932,os⟩) ⟨doneF .next,cE,⟨353,0,368,15⟩,B⟩=some ⟨H1 w.params,⟨[]⟩,{},932,os⟩:=by rw[PySem.W.Fast.te14082659384304107361,PySem.W.Fast.te14364793385576792824,PySem.W.Fast.te1032975242618825031,PySem.W.Fast.te13069687644243786066,PySem.W.Fast.te1718297227530528222,PySem.W.Fast.te14158929756966004236];rfl'
theorem run(w:World)(os:OsState):topRun treeTable pw w 11 ann (12+(2+(9000+3))) ⟨boot_heap w.params,⟨[]⟩,boot_drawn,boot_toks,os⟩ (topStub pw)=some ⟨H1 w.params,⟨[]⟩,{},932,os⟩:=by refine go_top (pre w os) (piece_block (block w os) ?_);have h:=piece_app (rest:=[]) (segRun_of (piece w os)) (piece_nil (fin w os));rw[List.append_nil]at h;exact h
theorem size (w:World):((boot_heap w.params).isNs mainGlobals&&(Array.mk []:Array GenState).size==0,(boot_heap w.params).objs.size,(boot_heap w.params).nsMap mainGlobals "__annotations__")=(true,11,ann):=by rfl'
theorem ae9(w:World)(os:OsState):(staticsOk (importedModules pw.main.body) (boot_heap w.params) (H1 w.params)&&namesBound pw (H1 w.params)&&gensDone ⟨H1 w.params,⟨[]⟩,{},932,os⟩&&laidKept (boot_heap w.params) (H1 w.params))=true:=by rw[PySem.W.Fast.te1032975242618825031,PySem.W.Fast.te14158929756966004236,PySem.W.Fast.te5923862056798008813];rfl'
theorem afa(w:World)(os:OsState):openSeen qv [] (importedModules pw.main.body) Xt true ⟨H1 w.params,⟨[]⟩,{},932,os⟩=openGood qv []:=by rw[PySem.W.Fast.te1032975242618825031,PySem.W.Fast.te14158929756966004236,PySem.W.Fast.te5923862056798008813,PySem.W.Fast.te3994408356199485718,PySem.W.Fast.te3154452736318265832,PySem.W.Fast.te4187177175401517315];rfl'
theorem afb(w:World):as.map (H1 w.params).get?=(K w.params).map (λp=>some p.2):=by rw[PySem.W.Fast.te14158929756966004236,PySem.W.Fast.te538113369711794958];rfl'
theorem eAs(P:Params):as=(K P).map (·.1):=by rw[PySem.W.Fast.te538113369711794958];rfl'
def hook:Hook:=kHook K as eAs
theorem left:LeftO pw qv [] Xt hook.obs hook.val 12000:=by refine LeftO.of_pieces (boot_open (by rfl') (by decide) (λs=>by rfl')) size run (by decide) λw=>funext λos=>?_;exact Prod.ext (ae9 w os) (Prod.ext (afa w os) (afb w))
end HK
namespace Lk13
open PySem PySem.Spec PyProof.Rows L2 RF
open PySem.W (mg_of mg_none_of)
def Φ:aa:=λf=>if f="_law_anew" then vd else if f="_law_spread" then u9 else if f="_law_take" then dU else if f="_law_signs" then ni else if f="_law_deeds_of" then vm else if f="_law_form" then zj else if f="_law_wider" then jb else if f="_law_within" then jb else if f="_law_form_like" then vh else if f="_law_book" then vo else if f="_law_sign_but" then sSB else if f="_law_odd_books" then sOB else if f="_law_open" then zm else if f="is_deed" then aD nG else if f="is_text_of" then aD fText else if f="is_form" then aD nA else if f="is_row" then aD nH else if f="is_whole" then aD gQ else if f="is_width" then aD nu else if f="is_book" then aD jZ else if f="need_book" then cA else if f="is_place" then aD cC else if f="is_order" then oA else if f="need_order" then vO else if f="by_order" then sBy else if f="how_many" then aD nQ else if f="both" then aD nM else if f="first_touching" then j7 else if f="splitting_place" then vA else if f="with_sign" then aD gW else if f="grown" then fu 9 else if f="stars" then aD dZ else if f="laid" then jc else if f="is_named" then aD d9 else if f="leaves" then dG 9 else if f="counts" then nT else if f="fits" then aD nJ else if f="lies_in" then aD kE else if f="is_met" then vK else if f="is_laid" then nY else if f="least" then aD kI else if f="need_two_books" then vL else if f="deed_of" then vy else if f="same_deeds" then sSD else if f="alike" then n6 else if f="need_row" then nZ else if f="without" then sWo else if f="needless" then kJ else if f="lean" then oh else if f="exchanged" then sEx else if f="parting_word" then vM else if f="may_swap" then ou else if f="_law_asked" then zR else if f="_law_refusal" then zT else if f="_law_told" then kY else if f="law" then nq else bB (λ_ _=>False) (λ_ _ _ _=>False)
def Pz:Φ "_law_anew"=vd:=by rfl'
def PK:Φ "_law_spread"=u9:=by rfl'
def fQ:Φ "_law_take"=dU:=by rfl'
def zY:Φ "_law_signs"=ni:=by rfl'
def PL:Φ "_law_deeds_of"=vm:=by rfl'
def PN:Φ "_law_form"=zj:=by rfl'
def PP:Φ "_law_wider"=jb:=by rfl'
def PQ:Φ "_law_within"=jb:=by rfl'
def P0:Φ "_law_form_like"=vh:=by rfl'
def Qa:Φ "_law_book"=vo:=by rfl'
def Qc:Φ "_law_sign_but"=sSB:=by rfl'
def Qd:Φ "_law_odd_books"=sOB:=by rfl'
def Qe:Φ "_law_open"=zm:=by rfl'
def Qf:Φ "is_deed"=aD nG:=by rfl'
def Qg:Φ "is_text_of"=aD fText:=by rfl'
def Qh:Φ "is_form"=aD nA:=by rfl'
def Qi:Φ "is_row"=aD nH:=by rfl'
def zZ:Φ "is_whole"=aD gQ:=by rfl'
def Qj:Φ "is_width"=aD nu:=by rfl'
def z6:Φ "is_book"=aD jZ:=by rfl'
def dg:Φ "need_book"=cA:=by rfl'
def ie:Φ "is_place"=aD cC:=by rfl'
def z7:Φ "is_order"=oA:=by rfl'
def z8:Φ "need_order"=vO:=by rfl'
def z9:Φ "by_order"=sBy:=by rfl'
def Qk:Φ "how_many"=aD nQ:=by rfl'
def Ql:Φ "both"=aD nM:=by rfl'
def vY:Φ "first_touching"=j7:=by rfl'
def Qm:Φ "splitting_place"=vA:=by rfl'
def Aa:Φ "with_sign"=aD gW:=by rfl'
def Ab:Φ "grown"=fu 9:=by rfl'
def oJ:Φ "stars"=aD dZ:=by rfl'
def oK:Φ "laid"=jc:=by rfl'
def Ac:Φ "is_named"=aD d9:=by rfl'
def vZ:Φ "leaves"=dG 9:=by rfl'
def Ad:Φ "counts"=nT:=by rfl'
def Qn:Φ "fits"=aD nJ:=by rfl'
def Qo:Φ "lies_in"=aD kE:=by rfl'
def Qp:Φ "is_met"=vK:=by rfl'
def Ae:Φ "is_laid"=nY:=by rfl'
def Qq:Φ "least"=aD kI:=by rfl'
def Qs:Φ "need_two_books"=vL:=by rfl'
def Qt:Φ "deed_of"=vy:=by rfl'
def Qu:Φ "same_deeds"=sSD:=by rfl'
def Af:Φ "alike"=n6:=by rfl'
def Ag:Φ "need_row"=nZ:=by rfl'
def kZ:Φ "without"=sWo:=by rfl'
def v6:Φ "needless"=kJ:=by rfl'
def Ah:Φ "lean"=oh:=by rfl'
def Qv:Φ "exchanged"=sEx:=by rfl'
def Qw:Φ "parting_word"=vM:=by rfl'
def Ai:Φ "may_swap"=ou:=by rfl'
def Qx:Φ "_law_asked"=zR:=by rfl'
def Qy:Φ "_law_refusal"=zT:=by rfl'
def Qz:Φ "_law_told"=kY:=by rfl'
noncomputable def bt:List String:=["all","bool","enumerate","int","isinstance","len","list","min","range","reversed","sorted","str","tuple","zip"]
noncomputable def cn:List (String×D):=[("LETTERS",(.str [97,98,99,100,101,102,103,104,105,106,107,108,109,110,111,112,113,114,115,116,117,118,119,120,121,122])),("LONGEST_DEED",(.int 8)),("MOST_ROWS",(.int 12)),("WIDEST",(.int 6))]
noncomputable def xs:List (String×Bool):=[("NoBook",true),("NoMatch",true),("NoRow",true),("NoOrder",true),("Full",false),("NoBook",false),("NoForm",false),("NoJoin",false),("NoLine",false),("NoMatch",false),("NoOrder",false),("NoRow",false),("NoText",false),("NoWord",false),("Nothing",false),("SieveError",false),("TooMany",false),("Turned",false),("ValueError",false)]
def f0:List (String×Nat):=[]
def f1:=("_law_anew",1)::f0
def f2:=("_law_spread",2)::f1
def f3:=("_law_take",2)::f2
def f4:=("_law_signs",3)::f3
def f5:=("_law_deeds_of",2)::f4
def f6:=("_law_form",2)::f5
def f7:=("_law_wider",2)::f6
def f8:=("_law_within",2)::f7
def f9:=("_law_form_like",3)::f8
def f10:=("_law_book",3)::f9
def f11:=("_law_sign_but",2)::f10
def f12:=("_law_odd_books",2)::f11
def f13:=("_law_open",1)::f12
def f14:=("is_deed",1)::f13
def f15:=("is_text_of",3)::f14
def f16:=("is_form",2)::f15
def f17:=("is_row",2)::f16
def f18:=("is_whole",1)::f17
def f19:=("is_width",1)::f18
def f20:=("is_book",1)::f19
def f21:=("need_book",1)::f20
def f22:=("is_place",2)::f21
def f23:=("is_order",2)::f22
def f24:=("need_order",2)::f23
def f25:=("by_order",2)::f24
def f26:=("how_many",1)::f25
def f27:=("both",2)::f26
def f28:=("first_touching",2)::f27
def f29:=("splitting_place",2)::f28
def f30:=("with_sign",3)::f29
def f31:=("grown",3)::f30
def f32:=("stars",1)::f31
def f33:=("laid",1)::f32
def f34:=("is_named",3)::f33
def f35:=("leaves",2)::f34
def f36:=("counts",1)::f35
def f37:=("fits",2)::f36
def f38:=("lies_in",2)::f37
def f39:=("is_met",3)::f38
def f40:=("is_laid",2)::f39
def f41:=("least",1)::f40
def f42:=("need_two_books",2)::f41
def f43:=("deed_of",2)::f42
def f44:=("same_deeds",3)::f43
def f45:=("alike",2)::f44
def f46:=("need_row",2)::f45
def f47:=("without",2)::f46
def f48:=("needless",2)::f47
def f49:=("lean",1)::f48
def f50:=("exchanged",2)::f49
def f51:=("parting_word",2)::f50
def f52:=("may_swap",2)::f51
def f53:=("_law_asked",4)::f52
def f54:=("_law_refusal",1)::f53
def f55:=("_law_told",4)::f54
def S(i:Nat):Stmt:=HK.pw.main.body.getD i (.Pass ⟨0,0,0,0⟩)
def oM:Stmt:=S 67
theorem afc:fnB ["pen"] ["pen"] (ao oM)=true:=by decide +kernel
theorem afd:aC (aG ["pen"] (ao oM) f0 bt cn xs) yN (aF oM)=true:=by decide +kernel
def oN:Stmt:=S 65
theorem afe:fnB ["cell","at","one","two","three"] ["cell","at"] (ao oN)=true:=by decide +kernel
theorem afg:aC (aG ["cell","at","one","two","three"] (ao oN) f1 bt cn xs) yO (aF oN)=true:=by decide +kernel
def oO:Stmt:=S 68
theorem afh:fnB ["pen","many","at","cell","found"] ["pen","many"] (ao oO)=true:=by decide +kernel
theorem afi:aC (aG ["pen","many","at","cell","found"] (ao oO) f2 bt cn xs) yP (aF oO)=true:=by decide +kernel
def oR:Stmt:=S 69
theorem afj:fnB ["pen","width","signs"] ["pen","width","signs"] (ao oR)=true:=by decide +kernel
theorem afk:aC (aG ["pen","width","signs"] (ao oR) f3 bt cn xs) yQ (aF oR)=true:=by decide +kernel
def oU:Stmt:=S 74
theorem afl:fnB ["pen","most","some","turn","found","letters"] ["pen","most"] (ao oU)=true:=by decide +kernel
theorem afm:aC (aG ["pen","most","some","turn","found","letters"] (ao oU) f4 bt cn xs) yR (aF oU)=true:=by decide +kernel
def oV:Stmt:=S 70
theorem afn:fnB ["pen","width"] ["pen","width"] (ao oV)=true:=by decide +kernel
theorem afo:aC (aG ["pen","width"] (ao oV) f5 bt cn xs) yS (aF oV)=true:=by decide +kernel
def oW:Stmt:=S 72
theorem afp:fnB ["pen","form","found","sign"] ["pen","form"] (ao oW)=true:=by decide +kernel
theorem afq:aC (aG ["pen","form","found","sign"] (ao oW) f6 bt cn xs) yU (aF oW)=true:=by decide +kernel
def oX:Stmt:=S 71
theorem afr:fnB ["pen","form","found","sign"] ["pen","form"] (ao oX)=true:=by decide +kernel
theorem afs:aC (aG ["pen","form","found","sign"] (ao oX) f7 bt cn xs) yV (aF oX)=true:=by decide +kernel
def oY:Stmt:=S 73
theorem aft:fnB ["pen","width","forms","kind","form","at"] ["pen","width","forms"] (ao oY)=true:=by decide +kernel
theorem afu:aC (aG ["pen","width","forms","kind","form","at"] (ao oY) f8 bt cn xs) yW (aF oY)=true:=by decide +kernel
def oZ:Stmt:=S 75
theorem afv:fnB ["pen","widest","most","width","deeds","forms","rows","k"] ["pen","widest","most"] (ao oZ)=true:=by decide +kernel
theorem afw:aC (aG ["pen","widest","most","width","deeds","forms","rows","k"] (ao oZ) f9 bt cn xs) yX (aF oZ)=true:=by decide +kernel
def ph:Stmt:=S 77
theorem afx:fnB ["pen","others","all_signs","some"] ["pen","others"] (ao ph)=true:=by decide +kernel
theorem afy:aC (aG ["pen","others","all_signs","some"] (ao ph) f10 bt cn xs) yZ (aF ph)=true:=by decide +kernel
def pq:Stmt:=S 80
theorem afz:fnB ["pen","book","width","rows","at","form","one","spot","sign","other","odd","found"] ["pen","book"] (ao pq)=true:=by decide +kernel
theorem afA:aC (aG ["pen","book","width","rows","at","form","one","spot","sign","other","odd","found"] (ao pq) f11 bt cn xs) za (aF pq)=true:=by decide +kernel
def pA:Stmt:=S 66
theorem afB:fnB ["script","cells","k","cell"] ["script"] (ao pA)=true:=by decide +kernel
theorem afC:aC (aG ["script","cells","k","cell"] (ao pA) f12 bt cn xs) zb (aF pA)=true:=by decide +kernel
def pB:Stmt:=S 32
theorem afD:fnB ["thing"] ["thing"] (ao pB)=true:=by decide +kernel
theorem afE:aC (aG ["thing"] (ao pB) f13 bt cn xs) jV (aF pB)=true:=by decide +kernel
def pC:Stmt:=S 20
theorem afF:fnB ["signs","width","thing"] ["signs","width","thing"] (ao pC)=true:=by decide +kernel
theorem afG:aC (aG ["signs","width","thing"] (ao pC) f14 bt cn xs) jW (aF pC)=true:=by decide +kernel
def pF:Stmt:=S 21
theorem afH:fnB ["width","thing"] ["width","thing"] (ao pF)=true:=by decide +kernel
theorem afI:aC (aG ["width","thing"] (ao pF) f15 bt cn xs) mF (aF pF)=true:=by decide +kernel
def pG:Stmt:=S 33
theorem afJ:fnB ["width","thing"] ["width","thing"] (ao pG)=true:=by decide +kernel
theorem afK:aC (aG ["width","thing"] (ao pG) f16 bt cn xs) gk (aF pG)=true:=by decide +kernel
def pH:Stmt:=S 17
theorem afL:fnB ["thing"] ["thing"] (ao pH)=true:=by decide +kernel
theorem afM:aC (aG ["thing"] (ao pH) f17 bt cn xs) mG (aF pH)=true:=by decide +kernel
def pI:Stmt:=S 18
theorem afN:fnB ["thing"] ["thing"] (ao pI)=true:=by decide +kernel
theorem afO:aC (aG ["thing"] (ao pI) f18 bt cn xs) mH (aF pI)=true:=by decide +kernel
def pJ:Stmt:=S 34
theorem afP:fnB ["thing","width","rows"] ["thing"] (ao pJ)=true:=by decide +kernel
theorem afQ:aC (aG ["thing","width","rows"] (ao pJ) f19 bt cn xs) gm (aF pJ)=true:=by decide +kernel
def pK:Stmt:=S 35
theorem afR:fnB ["book"] ["book"] (ao pK)=true:=by decide +kernel
theorem afS:aC (aG ["book"] (ao pK) f20 bt cn xs) iK (aF pK)=true:=by decide +kernel
def pL:Stmt:=S 19
theorem afT:fnB ["many","thing"] ["many","thing"] (ao pL)=true:=by decide +kernel
theorem afU:aC (aG ["many","thing"] (ao pL) f21 bt cn xs) mJ (aF pL)=true:=by decide +kernel
def pM:Stmt:=S 59
theorem afV:fnB ["book","thing","many"] ["book","thing"] (ao pM)=true:=by decide +kernel
theorem afW:aC (aG ["book","thing","many"] (ao pM) f22 bt cn xs) iM (aF pM)=true:=by decide +kernel
def pN:Stmt:=S 60
theorem afX:fnB ["book","order"] ["book","order"] (ao pN)=true:=by decide +kernel
theorem afY:aC (aG ["book","order"] (ao pN) f23 bt cn xs) iQ (aF pN)=true:=by decide +kernel
def pO:Stmt:=S 61
theorem afZ:fnB ["book","order","width","rows"] ["book","order"] (ao pO)=true:=by decide +kernel
theorem af0:aC (aG ["book","order","width","rows"] (ao pO) f24 bt cn xs) gK (aF pO)=true:=by decide +kernel
def pP:Stmt:=S 26
theorem af1:fnB ["form","many","sign"] ["form"] (ao pP)=true:=by decide +kernel
theorem af2:aC (aG ["form","many","sign"] (ao pP) f25 bt cn xs) mK (aF pP)=true:=by decide +kernel
def pQ:Stmt:=S 25
theorem af3:fnB ["form","other","shared","one","two"] ["form","other"] (ao pQ)=true:=by decide +kernel
theorem af4:aC (aG ["form","other","shared","one","two"] (ao pQ) f26 bt cn xs) mL (aF pQ)=true:=by decide +kernel
def pR:Stmt:=S 43
theorem af5:fnB ["rows","box","number","row"] ["rows","box"] (ao pR)=true:=by decide +kernel
theorem af6:aC (aG ["rows","box","number","row"] (ao pR) f27 bt cn xs) mO (aF pR)=true:=by decide +kernel
def pU:Stmt:=S 44
theorem af7:fnB ["rows","box","number","at","sign"] ["rows","box"] (ao pU)=true:=by decide +kernel
theorem af8:aC (aG ["rows","box","number","at","sign"] (ao pU) f28 bt cn xs) mQ (aF pU)=true:=by decide +kernel
def pW:Stmt:=S 24
theorem af9:fnB ["form","at","sign"] ["form","at","sign"] (ao pW)=true:=by decide +kernel
theorem aga:aC (aG ["form","at","sign"] (ao pW) f29 bt cn xs) mR (aF pW)=true:=by decide +kernel
def pX:Stmt:=S 45
theorem agb:fnB ["name","many_rows","box","rows","at","zero","one"] ["name","many_rows","box"] (ao pX)=true:=by decide +kernel
theorem agc:aC (aG ["name","many_rows","box","rows","at","zero","one"] (ao pX) f31 bt cn xs) jX (aF pX)=true:=by decide +kernel
def pY:Stmt:=S 40
theorem agd:fnB ["width"] ["width"] (ao pY)=true:=by decide +kernel
theorem age:aC (aG ["width"] (ao pY) f31 bt cn xs) mU (aF pY)=true:=by decide +kernel
def pZ:Stmt:=S 47
theorem agf:fnB ["book","width","rows"] ["book"] (ao pZ)=true:=by decide +kernel
theorem agg:aC (aG ["book","width","rows"] (ao pZ) f32 bt cn xs) iR (aF pZ)=true:=by decide +kernel
def p6:Stmt:=S 41
theorem agh:fnB ["name","many","thing"] ["name","many","thing"] (ao p6)=true:=by decide +kernel
theorem agi:aC (aG ["name","many","thing"] (ao p6) f33 bt cn xs) mV (aF p6)=true:=by decide +kernel
def p7:Stmt:=S 42
theorem agj:fnB ["box","tree","at","zero","one"] ["box","tree"] (ao p7)=true:=by decide +kernel
theorem agk:aC (aG ["box","tree","at","zero","one"] (ao p7) f35 bt cn xs) iT (aF p7)=true:=by decide +kernel
def p8:Stmt:=S 49
theorem agl:fnB ["book","tree","width","rows","many","box","leaf","at"] ["book"] (ao p8)=true:=by decide +kernel
theorem agm:aC (aG ["book","tree","width","rows","many","box","leaf","at"] (ao p8) f35 bt cn xs) iU (aF p8)=true:=by decide +kernel
def qb:Stmt:=S 22
theorem agn:fnB ["form","word"] ["form","word"] (ao qb)=true:=by decide +kernel
theorem ago:aC (aG ["form","word"] (ao qb) f36 bt cn xs) mW (aF qb)=true:=by decide +kernel
def qd:Stmt:=S 23
theorem agp:fnB ["form","other"] ["form","other"] (ao qd)=true:=by decide +kernel
theorem agq:aC (aG ["form","other"] (ao qd) f37 bt cn xs) mX (aF qd)=true:=by decide +kernel
def qe:Stmt:=S 46
theorem agr:fnB ["rows","box","number"] ["rows","box","number"] (ao qe)=true:=by decide +kernel
theorem ags:aC (aG ["rows","box","number"] (ao qe) f38 bt cn xs) mY (aF qe)=true:=by decide +kernel
def qg:Stmt:=S 48
theorem agt:fnB ["book","tree","width","rows","found"] ["book","tree"] (ao qg)=true:=by decide +kernel
theorem agu:aC (aG ["book","tree","width","rows","found"] (ao qg) f39 bt cn xs) iV (aF qg)=true:=by decide +kernel
def qi:Stmt:=S 27
def qj:Stmt:=S 36
theorem agv:fnB ["one","other"] ["one","other"] (ao qj)=true:=by decide +kernel
theorem agw:aC (aG ["one","other"] (ao qj) f41 bt cn xs) mZ (aF qj)=true:=by decide +kernel
def ql:Stmt:=S 38
theorem agx:fnB ["book","number"] ["book","number"] (ao ql)=true:=by decide +kernel
theorem agy:aC (aG ["book","number"] (ao ql) f42 bt cn xs) jY (aF ql)=true:=by decide +kernel
def qm:Stmt:=S 51
theorem agz:fnB ["one","other","leaf"] ["one","other","leaf"] (ao qm)=true:=by decide +kernel
theorem agA:aC (aG ["one","other","leaf"] (ao qm) f43 bt cn xs) m5 (aF qm)=true:=by decide +kernel
def qp:Stmt:=S 52
theorem agB:fnB ["one","other","box","tree","parting"] ["one","other"] (ao qp)=true:=by decide +kernel
theorem agC:aC (aG ["one","other","box","tree","parting"] (ao qp) f44 bt cn xs) m6 (aF qp)=true:=by decide +kernel
def qt:Stmt:=S 37
theorem agD:fnB ["book","number"] ["book","number"] (ao qt)=true:=by decide +kernel
theorem agE:aC (aG ["book","number"] (ao qt) f45 bt cn xs) gM (aF qt)=true:=by decide +kernel
def qu:Stmt:=S 55
theorem agF:fnB ["book","number","width","rows"] ["book","number"] (ao qu)=true:=by decide +kernel
theorem agG:aC (aG ["book","number","width","rows"] (ao qu) f46 bt cn xs) iW (aF qu)=true:=by decide +kernel
def qw:Stmt:=S 56
theorem agH:fnB ["book","number","name","shown"] ["book","number"] (ao qw)=true:=by decide +kernel
theorem agI:aC (aG ["book","number","name","shown"] (ao qw) f47 bt cn xs) iY (aF qw)=true:=by decide +kernel
def qx:Stmt:=S 57
theorem agJ:fnB ["book","left","number"] ["book"] (ao qx)=true:=by decide +kernel
theorem agK:aC (aG ["book","left","number"] (ao qx) f48 bt cn xs) iZ (aF qx)=true:=by decide +kernel
def qy:Stmt:=S 62
theorem agL:fnB ["things","place"] ["things","place"] (ao qy)=true:=by decide +kernel
theorem agM:aC (aG ["things","place"] (ao qy) f49 bt cn xs) m7 (aF qy)=true:=by decide +kernel
def qz:Stmt:=S 53
theorem agN:fnB ["one","other","name","shown"] ["one","other"] (ao qz)=true:=by decide +kernel
theorem agO:aC (aG ["one","other","name","shown"] (ao qz) f50 bt cn xs) m8 (aF qz)=true:=by decide +kernel
def qC:Stmt:=S 63
theorem agP:fnB ["book","place","width","rows"] ["book","place"] (ao qC)=true:=by decide +kernel
theorem agQ:aC (aG ["book","place","width","rows"] (ao qC) f51 bt cn xs) gO (aF qC)=true:=by decide +kernel
def qD:Stmt:=S 78
theorem agR:fnB ["at","book","number","order"] ["at","book","number","order"] (ao qD)=true:=by decide +kernel
theorem agS:aC (aG ["at","book","number","order"] (ao qD) f52 bt cn xs) m9 (aF qD)=true:=by decide +kernel
def qF:Stmt:=S 76
theorem agT:fnB ["caught","some","names"] ["caught"] (ao qF)=true:=by decide +kernel
theorem agU:aC (aG ["caught","some","names"] (ao qF) f53 bt cn xs) zc (aF qF)=true:=by decide +kernel
def qG:Stmt:=S 79
theorem agV:fnB ["at","book","number","order","caught","e"] ["at","book","number","order"] (ao qG)=true:=by decide +kernel
theorem agW:aC (aG ["at","book","number","order","caught","e"] (ao qG) f54 bt cn xs) u6 (aF qG)=true:=by decide +kernel
def qH:Stmt:=S 81
theorem agX:fnB ["script","pen","turn","width","rows","book","order","at","thing","due"] ["script"] (ao qH)=true:=by decide +kernel
theorem agY:aC (aG ["script","pen","turn","width","rows","book","order","at","thing","due"] (ao qH) f55 bt cn xs) zf (aF qH)=true:=by decide +kernel
theorem QB:(Str.ofString "0":Str)=tx [48]:=by decide +kernel
theorem agZ:(Str.ofString "*":Str)=tx [42]:=by decide +kernel
theorem ag0:FnScope ["form"] ["form"] (ao qi):=⟨rfl,rfl,rfl,by decide +kernel,rfl,by decide +kernel,by decide +kernel⟩
def ag1:Sp:=λvs H Q _=>∃l:List Nat,vs=[.str (tx l)]/\l.length<=1000/\Q (.str (tx (cD l))) H
theorem ag2 {P:Program} {w:World} {K:PySem.W.Frag} {mg:Str->Option Value} {base:Heap} {f:Addr} {fd:FuncData} (F:Fun K "least" "least" qi f fd):FnOk P w K mg base CX0 1 f fd ["form"] ag1:=by
 refine F.ok1 ag0 rfl (by decide +kernel) (λ_=>rfl) (λvs H Q E h=>?_) (λcdv A outer s H vs Q E hr h=>?_)
 ·obtain ⟨l,rfl,_⟩:=h;rfl
 ·obtain ⟨l,rfl,hl,q⟩:=h;refine ⟨_,Xe (Xg (pv 0) (by decide +kernel)),?_⟩;refine ⟨_,rfl,_,rfl,?_,?_⟩
  ·rw[QB,bM,bM];simp;omega
  ·rw[agZ,QB,Xf];exact q
theorem ag3 {P:Program} {w:World} {K:PySem.W.Frag} {mg:Str->Option Value} {base:Heap} {f:Addr} {fd:FuncData} (F:Fun K "least" "least" qi f fd):FnOk P w K mg base CX0 1 f fd ["form"] (lift K 1 (aD kI)):=by
 refine (ag2 F).imp λvs H Q E h=>?_;obtain ⟨e0,Fz,G,ds,r,t,⟨ds',G'⟩,⟨e1,e2⟩,e3,e4⟩:=h;cases e1;obtain ⟨d,hd⟩:=Option.isSome_iff_exists.mp e2;have hd2:=hd;unfold kI at hd;split at hd
 ·rename_i l;split at hd
  ·rename_i hl;cases hd;obtain ⟨v,rfl,rv⟩:=bA t;obtain ⟨rfl,_⟩:=rv;have hl':l.length<=1000:=of_decide_eq_true hl;exact ⟨l,rfl,hl',(e3 _ _ ⟨rfl,hd2⟩).now r ⟨rfl,by unfold cD;rw[List.length_map];exact Nat.le_trans hl' (by decide)⟩⟩
  ·cases hd
 ·cases hd
noncomputable def fdM(n:Str)(st:Stmt)(m:Str)(t c:Nat):FuncData:=PySem.W.fnOf n n (lw st) (aF st) (ao st) .none .none .none (.str m t) none (.ref c) .none
theorem mkF {K:PySem.W.Frag} {n m:Str} {st:Stmt} {a t c:Nat} (l:K.lookup a=some ⟨.type "function",none,.func (fdM n st m t c),⟨[]⟩⟩) (h1:PySem.W.codeIn K (.ref c) n=true) (h2:PySem.W.keepIn K (.ref a)=true):Fun K n n st a (fdM n st m t c):=W4 l h1 h2
theorem tK:type_of% @PySem.W.Fast.te538113369711794958:=PySem.W.Fast.te538113369711794958
local macro_rules|`(tactic|eq_refl)=>`(tactic|(rw[tK];rfl'))
section
variable {P:Params}
def QC:FuncData:=fdM "_law_anew" oM "law_starsieve_k13_no_books_refused_anywhere" 766 470
theorem QD:Fun (HK.K P) "_law_anew" "_law_anew" oM 471 QC:=mkF (by rfl') (by eq_refl) (by eq_refl)
theorem ag4:PySem.W.nsIn (HK.K P) mainGlobals "_law_anew"=some (some (.ref 471)):=by eq_refl
theorem ag5:Binds (HK.K P) QC ["pen"] []:=QD.binds (ps:=["pen"]) λ_ _ _ _ _ _ us hl=>by obtain ⟨x0,rfl⟩:=cQ hl;rfl
def QF:FuncData:=fdM "_law_spread" oN "law_starsieve_k13_no_books_refused_anywhere" 766 456
theorem QG:Fun (HK.K P) "_law_spread" "_law_spread" oN 457 QF:=mkF (by rfl') (by eq_refl) (by eq_refl)
theorem ag6:PySem.W.nsIn (HK.K P) mainGlobals "_law_spread"=some (some (.ref 457)):=by eq_refl
theorem ag7:Binds (HK.K P) QF ["cell","at"] []:=QG.binds (ps:=["cell","at"]) λ_ _ _ _ _ _ us hl=>by obtain ⟨x0,x1,rfl⟩:=aY hl;rfl
def QH:FuncData:=fdM "_law_take" oO "law_starsieve_k13_no_books_refused_anywhere" 766 477
theorem QJ:Fun (HK.K P) "_law_take" "_law_take" oO 478 QH:=mkF (by rfl') (by eq_refl) (by eq_refl)
theorem ag8:PySem.W.nsIn (HK.K P) mainGlobals "_law_take"=some (some (.ref 478)):=by eq_refl
theorem ag9:Binds (HK.K P) QH ["pen","many"] []:=QJ.binds (ps:=["pen","many"]) λ_ _ _ _ _ _ us hl=>by obtain ⟨x0,x1,rfl⟩:=aY hl;rfl
def QK:FuncData:=fdM "_law_signs" oR "law_starsieve_k13_no_books_refused_anywhere" 766 482
theorem QL:Fun (HK.K P) "_law_signs" "_law_signs" oR 483 QK:=mkF (by rfl') (by eq_refl) (by eq_refl)
theorem aha:PySem.W.nsIn (HK.K P) mainGlobals "_law_signs"=some (some (.ref 483)):=by eq_refl
theorem ahb:Binds (HK.K P) QK ["pen","width","signs"] []:=QL.binds (ps:=["pen","width","signs"]) λ_ _ _ _ _ _ us hl=>by obtain ⟨x0,x1,x2,rfl⟩:=fL hl;rfl
def QM:FuncData:=fdM "_law_deeds_of" oU "law_starsieve_k13_no_books_refused_anywhere" 766 515
theorem QQ:Fun (HK.K P) "_law_deeds_of" "_law_deeds_of" oU 516 QM:=mkF (by rfl') (by eq_refl) (by eq_refl)
theorem ahc:PySem.W.nsIn (HK.K P) mainGlobals "_law_deeds_of"=some (some (.ref 516)):=by eq_refl
theorem ahd:Binds (HK.K P) QM ["pen","most"] []:=QQ.binds (ps:=["pen","most"]) λ_ _ _ _ _ _ us hl=>by obtain ⟨x0,x1,rfl⟩:=aY hl;rfl
def QR:FuncData:=fdM "_law_form" oV "law_starsieve_k13_no_books_refused_anywhere" 766 489
theorem QS:Fun (HK.K P) "_law_form" "_law_form" oV 490 QR:=mkF (by rfl') (by eq_refl) (by eq_refl)
theorem ahe:PySem.W.nsIn (HK.K P) mainGlobals "_law_form"=some (some (.ref 490)):=by eq_refl
theorem ahf:Binds (HK.K P) QR ["pen","width"] []:=QS.binds (ps:=["pen","width"]) λ_ _ _ _ _ _ us hl=>by obtain ⟨x0,x1,rfl⟩:=aY hl;rfl
def QT:FuncData:=fdM "_law_wider" oW "law_starsieve_k13_no_books_refused_anywhere" 766 503
theorem QV:Fun (HK.K P) "_law_wider" "_law_wider" oW 504 QT:=mkF (by rfl') (by eq_refl) (by eq_refl)
theorem ahg:PySem.W.nsIn (HK.K P) mainGlobals "_law_wider"=some (some (.ref 504)):=by eq_refl
theorem ahh:Binds (HK.K P) QT ["pen","form"] []:=QV.binds (ps:=["pen","form"]) λ_ _ _ _ _ _ us hl=>by obtain ⟨x0,x1,rfl⟩:=aY hl;rfl
def QW:FuncData:=fdM "_law_within" oX "law_starsieve_k13_no_books_refused_anywhere" 766 496
theorem QX:Fun (HK.K P) "_law_within" "_law_within" oX 497 QW:=mkF (by rfl') (by eq_refl) (by eq_refl)
theorem ahi:PySem.W.nsIn (HK.K P) mainGlobals "_law_within"=some (some (.ref 497)):=by eq_refl
theorem ahj:Binds (HK.K P) QW ["pen","form"] []:=QX.binds (ps:=["pen","form"]) λ_ _ _ _ _ _ us hl=>by obtain ⟨x0,x1,rfl⟩:=aY hl;rfl
def QZ:FuncData:=fdM "_law_form_like" oY "law_starsieve_k13_no_books_refused_anywhere" 766 510
theorem Q0:Fun (HK.K P) "_law_form_like" "_law_form_like" oY 511 QZ:=mkF (by rfl') (by eq_refl) (by eq_refl)
theorem ahk:PySem.W.nsIn (HK.K P) mainGlobals "_law_form_like"=some (some (.ref 511)):=by eq_refl
theorem ahl:Binds (HK.K P) QZ ["pen","width","forms"] []:=Q0.binds (ps:=["pen","width","forms"]) λ_ _ _ _ _ _ us hl=>by obtain ⟨x0,x1,x2,rfl⟩:=fL hl;rfl
def Q3:FuncData:=fdM "_law_book" oZ "law_starsieve_k13_no_books_refused_anywhere" 766 522
theorem Q4:Fun (HK.K P) "_law_book" "_law_book" oZ 523 Q3:=mkF (by rfl') (by eq_refl) (by eq_refl)
theorem ahm:PySem.W.nsIn (HK.K P) mainGlobals "_law_book"=some (some (.ref 523)):=by eq_refl
theorem ahn:Binds (HK.K P) Q3 ["pen","widest","most"] []:=Q4.binds (ps:=["pen","widest","most"]) λ_ _ _ _ _ _ us hl=>by obtain ⟨x0,x1,x2,rfl⟩:=fL hl;rfl
def Q5:FuncData:=fdM "_law_sign_but" ph "law_starsieve_k13_no_books_refused_anywhere" 766 534
theorem Q6:Fun (HK.K P) "_law_sign_but" "_law_sign_but" ph 535 Q5:=mkF (by rfl') (by eq_refl) (by eq_refl)
theorem aho:PySem.W.nsIn (HK.K P) mainGlobals "_law_sign_but"=some (some (.ref 535)):=by eq_refl
theorem ahp:Binds (HK.K P) Q5 ["pen","others"] []:=Q6.binds (ps:=["pen","others"]) λ_ _ _ _ _ _ us hl=>by obtain ⟨x0,x1,rfl⟩:=aY hl;rfl
def Q7:FuncData:=fdM "_law_odd_books" pq "law_starsieve_k13_no_books_refused_anywhere" 766 553
theorem Q8:Fun (HK.K P) "_law_odd_books" "_law_odd_books" pq 554 Q7:=mkF (by rfl') (by eq_refl) (by eq_refl)
theorem ahq:PySem.W.nsIn (HK.K P) mainGlobals "_law_odd_books"=some (some (.ref 554)):=by eq_refl
theorem ahr:Binds (HK.K P) Q7 ["pen","book"] []:=Q8.binds (ps:=["pen","book"]) λ_ _ _ _ _ _ us hl=>by obtain ⟨x0,x1,rfl⟩:=aY hl;rfl
def Q9:FuncData:=fdM "_law_open" pA "law_starsieve_k13_no_books_refused_anywhere" 766 463
theorem Ra:Fun (HK.K P) "_law_open" "_law_open" pA 464 Q9:=mkF (by rfl') (by eq_refl) (by eq_refl)
theorem ahs:PySem.W.nsIn (HK.K P) mainGlobals "_law_open"=some (some (.ref 464)):=by eq_refl
theorem aht:Binds (HK.K P) Q9 ["script"] []:=Ra.binds (ps:=["script"]) λ_ _ _ _ _ _ us hl=>by obtain ⟨x0,rfl⟩:=cQ hl;rfl
def Rb:FuncData:=fdM "is_deed" pB "starsieve.books" 523 274
theorem Rc:Fun (HK.K P) "is_deed" "is_deed" pB 275 Rb:=mkF (by rfl') (by eq_refl) (by eq_refl)
theorem ahu:PySem.W.nsIn (HK.K P) mainGlobals "is_deed"=some (some (.ref 275)):=by eq_refl
theorem jV:Binds (HK.K P) Rb ["thing"] []:=Rc.binds (ps:=["thing"]) λ_ _ _ _ _ _ us hl=>by obtain ⟨x0,rfl⟩:=cQ hl;rfl
def Rf:FuncData:=fdM "is_text_of" pC "starsieve.forms" 433 222
theorem Rg:Fun (HK.K P) "is_text_of" "is_text_of" pC 223 Rf:=mkF (by rfl') (by eq_refl) (by eq_refl)
theorem ahv:PySem.W.nsIn (HK.K P) mainGlobals "is_text_of"=some (some (.ref 223)):=by eq_refl
theorem jW:Binds (HK.K P) Rf ["signs","width","thing"] []:=Rg.binds (ps:=["signs","width","thing"]) λ_ _ _ _ _ _ us hl=>by obtain ⟨x0,x1,x2,rfl⟩:=fL hl;rfl
def Rh:FuncData:=fdM "is_form" pF "starsieve.forms" 433 229
theorem Ri:Fun (HK.K P) "is_form" "is_form" pF 230 Rh:=mkF (by rfl') (by eq_refl) (by eq_refl)
theorem ahw:PySem.W.nsIn (HK.K P) mainGlobals "is_form"=some (some (.ref 230)):=by eq_refl
theorem mF:Binds (HK.K P) Rh ["width","thing"] []:=Ri.binds (ps:=["width","thing"]) λ_ _ _ _ _ _ us hl=>by obtain ⟨x0,x1,rfl⟩:=aY hl;rfl
def Rj:FuncData:=fdM "is_row" pG "starsieve.books" 523 281
theorem Rk:Fun (HK.K P) "is_row" "is_row" pG 282 Rj:=mkF (by rfl') (by eq_refl) (by eq_refl)
theorem ahx:PySem.W.nsIn (HK.K P) mainGlobals "is_row"=some (some (.ref 282)):=by eq_refl
theorem gk:Binds (HK.K P) Rj ["width","thing"] []:=Rk.binds (ps:=["width","thing"]) λ_ _ _ _ _ _ us hl=>by obtain ⟨x0,x1,rfl⟩:=aY hl;rfl
def Rm:FuncData:=fdM "is_whole" pH "starsieve.forms" 433 203
theorem Rn:Fun (HK.K P) "is_whole" "is_whole" pH 204 Rm:=mkF (by rfl') (by eq_refl) (by eq_refl)
theorem ahy:PySem.W.nsIn (HK.K P) mainGlobals "is_whole"=some (some (.ref 204)):=by eq_refl
theorem mG:Binds (HK.K P) Rm ["thing"] []:=Rn.binds (ps:=["thing"]) λ_ _ _ _ _ _ us hl=>by obtain ⟨x0,rfl⟩:=cQ hl;rfl
def Ro:FuncData:=fdM "is_width" pI "starsieve.forms" 433 210
theorem Rp:Fun (HK.K P) "is_width" "is_width" pI 211 Ro:=mkF (by rfl') (by eq_refl) (by eq_refl)
theorem ahz:PySem.W.nsIn (HK.K P) mainGlobals "is_width"=some (some (.ref 211)):=by eq_refl
theorem mH:Binds (HK.K P) Ro ["thing"] []:=Rp.binds (ps:=["thing"]) λ_ _ _ _ _ _ us hl=>by obtain ⟨x0,rfl⟩:=cQ hl;rfl
def Rq:FuncData:=fdM "is_book" pJ "starsieve.books" 523 286
theorem Rt:Fun (HK.K P) "is_book" "is_book" pJ 287 Rq:=mkF (by rfl') (by eq_refl) (by eq_refl)
theorem ahA:PySem.W.nsIn (HK.K P) mainGlobals "is_book"=some (some (.ref 287)):=by eq_refl
theorem gm:Binds (HK.K P) Rq ["thing"] []:=Rt.binds (ps:=["thing"]) λ_ _ _ _ _ _ us hl=>by obtain ⟨x0,rfl⟩:=cQ hl;rfl
def Ru:FuncData:=fdM "need_book" pK "starsieve.books" 523 293
theorem Rv:Fun (HK.K P) "need_book" "need_book" pK 294 Ru:=mkF (by rfl') (by eq_refl) (by eq_refl)
theorem ahB:PySem.W.nsIn (HK.K P) mainGlobals "need_book"=some (some (.ref 294)):=by eq_refl
theorem iK:Binds (HK.K P) Ru ["book"] []:=Rv.binds (ps:=["book"]) λ_ _ _ _ _ _ us hl=>by obtain ⟨x0,rfl⟩:=cQ hl;rfl
def Rw:FuncData:=fdM "is_place" pL "starsieve.forms" 433 217
theorem Rx:Fun (HK.K P) "is_place" "is_place" pL 218 Rw:=mkF (by rfl') (by eq_refl) (by eq_refl)
theorem ahC:PySem.W.nsIn (HK.K P) mainGlobals "is_place"=some (some (.ref 218)):=by eq_refl
theorem mJ:Binds (HK.K P) Rw ["many","thing"] []:=Rx.binds (ps:=["many","thing"]) λ_ _ _ _ _ _ us hl=>by obtain ⟨x0,x1,rfl⟩:=aY hl;rfl
def Ry:FuncData:=fdM "is_order" pM "starsieve.moves" 726 423
theorem Rz:Fun (HK.K P) "is_order" "is_order" pM 424 Ry:=mkF (by rfl') (by eq_refl) (by eq_refl)
theorem ahD:PySem.W.nsIn (HK.K P) mainGlobals "is_order"=some (some (.ref 424)):=by eq_refl
theorem iM:Binds (HK.K P) Ry ["book","thing"] []:=Rz.binds (ps:=["book","thing"]) λ_ _ _ _ _ _ us hl=>by obtain ⟨x0,x1,rfl⟩:=aY hl;rfl
def RB:FuncData:=fdM "need_order" pN "starsieve.moves" 726 430
theorem RC:Fun (HK.K P) "need_order" "need_order" pN 431 RB:=mkF (by rfl') (by eq_refl) (by eq_refl)
theorem ahE:PySem.W.nsIn (HK.K P) mainGlobals "need_order"=some (some (.ref 431)):=by eq_refl
theorem iQ:Binds (HK.K P) RB ["book","order"] []:=RC.binds (ps:=["book","order"]) λ_ _ _ _ _ _ us hl=>by obtain ⟨x0,x1,rfl⟩:=aY hl;rfl
def RD:FuncData:=fdM "by_order" pO "starsieve.moves" 726 435
theorem RG:Fun (HK.K P) "by_order" "by_order" pO 436 RD:=mkF (by rfl') (by eq_refl) (by eq_refl)
theorem ahF:PySem.W.nsIn (HK.K P) mainGlobals "by_order"=some (some (.ref 436)):=by eq_refl
theorem gK:Binds (HK.K P) RD ["book","order"] []:=RG.binds (ps:=["book","order"]) λ_ _ _ _ _ _ us hl=>by obtain ⟨x0,x1,rfl⟩:=aY hl;rfl
def RJ:FuncData:=fdM "how_many" pP "starsieve.forms" 433 262
theorem RK:Fun (HK.K P) "how_many" "how_many" pP 263 RJ:=mkF (by rfl') (by eq_refl) (by eq_refl)
theorem ahG:PySem.W.nsIn (HK.K P) mainGlobals "how_many"=some (some (.ref 263)):=by eq_refl
theorem mK:Binds (HK.K P) RJ ["form"] []:=RK.binds (ps:=["form"]) λ_ _ _ _ _ _ us hl=>by obtain ⟨x0,rfl⟩:=cQ hl;rfl
def RL:FuncData:=fdM "both" pQ "starsieve.forms" 433 255
theorem RM:Fun (HK.K P) "both" "both" pQ 256 RL:=mkF (by rfl') (by eq_refl) (by eq_refl)
theorem ahH:PySem.W.nsIn (HK.K P) mainGlobals "both"=some (some (.ref 256)):=by eq_refl
theorem mL:Binds (HK.K P) RL ["form","other"] []:=RM.binds (ps:=["form","other"]) λ_ _ _ _ _ _ us hl=>by obtain ⟨x0,x1,rfl⟩:=aY hl;rfl
def RN:FuncData:=fdM "first_touching" pR "starsieve.laid" 582 342
theorem RP:Fun (HK.K P) "first_touching" "first_touching" pR 343 RN:=mkF (by rfl') (by eq_refl) (by eq_refl)
theorem ahI:PySem.W.nsIn (HK.K P) mainGlobals "first_touching"=some (some (.ref 343)):=by eq_refl
theorem mO:Binds (HK.K P) RN ["rows","box"] []:=RP.binds (ps:=["rows","box"]) λ_ _ _ _ _ _ us hl=>by obtain ⟨x0,x1,rfl⟩:=aY hl;rfl
def RQ:FuncData:=fdM "splitting_place" pU "starsieve.laid" 582 349
theorem RT:Fun (HK.K P) "splitting_place" "splitting_place" pU 350 RQ:=mkF (by rfl') (by eq_refl) (by eq_refl)
theorem ahJ:PySem.W.nsIn (HK.K P) mainGlobals "splitting_place"=some (some (.ref 350)):=by eq_refl
theorem mQ:Binds (HK.K P) RQ ["rows","box"] []:=RT.binds (ps:=["rows","box"]) λ_ _ _ _ _ _ us hl=>by obtain ⟨x0,x1,rfl⟩:=aY hl;rfl
def RV:FuncData:=fdM "with_sign" pW "starsieve.forms" 433 248
theorem RW:Fun (HK.K P) "with_sign" "with_sign" pW 249 RV:=mkF (by rfl') (by eq_refl) (by eq_refl)
theorem ahK:PySem.W.nsIn (HK.K P) mainGlobals "with_sign"=some (some (.ref 249)):=by eq_refl
theorem mR:Binds (HK.K P) RV ["form","at","sign"] []:=RW.binds (ps:=["form","at","sign"]) λ_ _ _ _ _ _ us hl=>by obtain ⟨x0,x1,x2,rfl⟩:=fL hl;rfl
def Aj:FuncData:=fdM "grown" pX "starsieve.laid" 582 354
theorem v7:Fun (HK.K P) "grown" "grown" pX 355 Aj:=mkF (by rfl') (by eq_refl) (by eq_refl)
theorem RX:PySem.W.nsIn (HK.K P) mainGlobals "grown"=some (some (.ref 355)):=by eq_refl
theorem jX:Binds (HK.K P) Aj ["name","many_rows","box"] []:=v7.binds (ps:=["name","many_rows","box"]) λ_ _ _ _ _ _ us hl=>by obtain ⟨x0,x1,x2,rfl⟩:=fL hl;rfl
def RZ:FuncData:=fdM "stars" pY "starsieve.laid" 582 321
theorem R0:Fun (HK.K P) "stars" "stars" pY 322 RZ:=mkF (by rfl') (by eq_refl) (by eq_refl)
theorem ahL:PySem.W.nsIn (HK.K P) mainGlobals "stars"=some (some (.ref 322)):=by eq_refl
theorem mU:Binds (HK.K P) RZ ["width"] []:=R0.binds (ps:=["width"]) λ_ _ _ _ _ _ us hl=>by obtain ⟨x0,rfl⟩:=cQ hl;rfl
def R1:FuncData:=fdM "laid" pZ "starsieve.laid" 582 368
theorem R3:Fun (HK.K P) "laid" "laid" pZ 369 R1:=mkF (by rfl') (by eq_refl) (by eq_refl)
theorem ahM:PySem.W.nsIn (HK.K P) mainGlobals "laid"=some (some (.ref 369)):=by eq_refl
theorem iR:Binds (HK.K P) R1 ["book"] []:=R3.binds (ps:=["book"]) λ_ _ _ _ _ _ us hl=>by obtain ⟨x0,rfl⟩:=cQ hl;rfl
def R4:FuncData:=fdM "is_named" p6 "starsieve.laid" 582 328
theorem R5:Fun (HK.K P) "is_named" "is_named" p6 329 R4:=mkF (by rfl') (by eq_refl) (by eq_refl)
theorem ahN:PySem.W.nsIn (HK.K P) mainGlobals "is_named"=some (some (.ref 329)):=by eq_refl
theorem mV:Binds (HK.K P) R4 ["name","many","thing"] []:=R5.binds (ps:=["name","many","thing"]) λ_ _ _ _ _ _ us hl=>by obtain ⟨x0,x1,x2,rfl⟩:=fL hl;rfl
def Ak:FuncData:=fdM "leaves" p7 "starsieve.laid" 582 335
theorem v8:Fun (HK.K P) "leaves" "leaves" p7 336 Ak:=mkF (by rfl') (by eq_refl) (by eq_refl)
theorem R6:PySem.W.nsIn (HK.K P) mainGlobals "leaves"=some (some (.ref 336)):=by eq_refl
theorem iT:Binds (HK.K P) Ak ["box","tree"] []:=v8.binds (ps:=["box","tree"]) λ_ _ _ _ _ _ us hl=>by obtain ⟨x0,x1,rfl⟩:=aY hl;rfl
def R7:FuncData:=fdM "counts" p8 "starsieve.laid" 582 378
theorem R8:Fun (HK.K P) "counts" "counts" p8 379 R7:=mkF (by rfl') (by eq_refl) (by eq_refl)
theorem ahO:PySem.W.nsIn (HK.K P) mainGlobals "counts"=some (some (.ref 379)):=by eq_refl
theorem iU:Binds (HK.K P) R7 ["book"] []:=R8.binds (ps:=["book"]) λ_ _ _ _ _ _ us hl=>by obtain ⟨x0,rfl⟩:=cQ hl;rfl
def R9:FuncData:=fdM "fits" qb "starsieve.forms" 433 234
theorem Sd:Fun (HK.K P) "fits" "fits" qb 235 R9:=mkF (by rfl') (by eq_refl) (by eq_refl)
theorem ahP:PySem.W.nsIn (HK.K P) mainGlobals "fits"=some (some (.ref 235)):=by eq_refl
theorem mW:Binds (HK.K P) R9 ["form","word"] []:=Sd.binds (ps:=["form","word"]) λ_ _ _ _ _ _ us hl=>by obtain ⟨x0,x1,rfl⟩:=aY hl;rfl
def Sg:FuncData:=fdM "lies_in" qd "starsieve.forms" 433 241
theorem Sh:Fun (HK.K P) "lies_in" "lies_in" qd 242 Sg:=mkF (by rfl') (by eq_refl) (by eq_refl)
theorem ahQ:PySem.W.nsIn (HK.K P) mainGlobals "lies_in"=some (some (.ref 242)):=by eq_refl
theorem mX:Binds (HK.K P) Sg ["form","other"] []:=Sh.binds (ps:=["form","other"]) λ_ _ _ _ _ _ us hl=>by obtain ⟨x0,x1,rfl⟩:=aY hl;rfl
def Sq:FuncData:=fdM "is_met" qe "starsieve.laid" 582 361
theorem Ss:Fun (HK.K P) "is_met" "is_met" qe 362 Sq:=mkF (by rfl') (by eq_refl) (by eq_refl)
theorem ahR:PySem.W.nsIn (HK.K P) mainGlobals "is_met"=some (some (.ref 362)):=by eq_refl
theorem mY:Binds (HK.K P) Sq ["rows","box","number"] []:=Ss.binds (ps:=["rows","box","number"]) λ_ _ _ _ _ _ us hl=>by obtain ⟨x0,x1,x2,rfl⟩:=fL hl;rfl
def Su:FuncData:=fdM "is_laid" qg "starsieve.laid" 582 373
theorem Sv:Fun (HK.K P) "is_laid" "is_laid" qg 374 Su:=mkF (by rfl') (by eq_refl) (by eq_refl)
theorem ahS:PySem.W.nsIn (HK.K P) mainGlobals "is_laid"=some (some (.ref 374)):=by eq_refl
theorem iV:Binds (HK.K P) Su ["book","tree"] []:=Sv.binds (ps:=["book","tree"]) λ_ _ _ _ _ _ us hl=>by obtain ⟨x0,x1,rfl⟩:=aY hl;rfl
def Sw:FuncData:=fdM "least" qi "starsieve.forms" 433 269
theorem Al:Fun (HK.K P) "least" "least" qi 270 Sw:=mkF (by rfl') (by eq_refl) (by eq_refl)
theorem ahT:PySem.W.nsIn (HK.K P) mainGlobals "least"=some (some (.ref 270)):=by eq_refl
theorem ahU:Binds (HK.K P) Sw ["form"] []:=Al.binds (ps:=["form"]) λ_ _ _ _ _ _ us hl=>by obtain ⟨x0,rfl⟩:=cQ hl;rfl
def Sy:FuncData:=fdM "need_two_books" qj "starsieve.books" 523 300
theorem SJ:Fun (HK.K P) "need_two_books" "need_two_books" qj 301 Sy:=mkF (by rfl') (by eq_refl) (by eq_refl)
theorem ahV:PySem.W.nsIn (HK.K P) mainGlobals "need_two_books"=some (some (.ref 301)):=by eq_refl
theorem mZ:Binds (HK.K P) Sy ["one","other"] []:=SJ.binds (ps:=["one","other"]) λ_ _ _ _ _ _ us hl=>by obtain ⟨x0,x1,rfl⟩:=aY hl;rfl
def SM:FuncData:=fdM "deed_of" ql "starsieve.books" 523 314
theorem SN:Fun (HK.K P) "deed_of" "deed_of" ql 315 SM:=mkF (by rfl') (by eq_refl) (by eq_refl)
theorem ahW:PySem.W.nsIn (HK.K P) mainGlobals "deed_of"=some (some (.ref 315)):=by eq_refl
theorem jY:Binds (HK.K P) SM ["book","number"] []:=SN.binds (ps:=["book","number"]) λ_ _ _ _ _ _ us hl=>by obtain ⟨x0,x1,rfl⟩:=aY hl;rfl
def SQ:FuncData:=fdM "same_deeds" qm "starsieve.alike" 668 385
theorem SX:Fun (HK.K P) "same_deeds" "same_deeds" qm 386 SQ:=mkF (by rfl') (by eq_refl) (by eq_refl)
theorem ahX:PySem.W.nsIn (HK.K P) mainGlobals "same_deeds"=some (some (.ref 386)):=by eq_refl
theorem m5:Binds (HK.K P) SQ ["one","other","leaf"] []:=SX.binds (ps:=["one","other","leaf"]) λ_ _ _ _ _ _ us hl=>by obtain ⟨x0,x1,x2,rfl⟩:=fL hl;rfl
def S5:FuncData:=fdM "alike" qp "starsieve.alike" 668 390
theorem S6:Fun (HK.K P) "alike" "alike" qp 391 S5:=mkF (by rfl') (by eq_refl) (by eq_refl)
theorem ahY:PySem.W.nsIn (HK.K P) mainGlobals "alike"=some (some (.ref 391)):=by eq_refl
theorem m6:Binds (HK.K P) S5 ["one","other"] []:=S6.binds (ps:=["one","other"]) λ_ _ _ _ _ _ us hl=>by obtain ⟨x0,x1,rfl⟩:=aY hl;rfl
def S7:FuncData:=fdM "need_row" qt "starsieve.books" 523 307
theorem S8:Fun (HK.K P) "need_row" "need_row" qt 308 S7:=mkF (by rfl') (by eq_refl) (by eq_refl)
theorem ahZ:PySem.W.nsIn (HK.K P) mainGlobals "need_row"=some (some (.ref 308)):=by eq_refl
theorem gM:Binds (HK.K P) S7 ["book","number"] []:=S8.binds (ps:=["book","number"]) λ_ _ _ _ _ _ us hl=>by obtain ⟨x0,x1,rfl⟩:=aY hl;rfl
def S9:FuncData:=fdM "without" qu "starsieve.lean" 695 404
theorem Tc:Fun (HK.K P) "without" "without" qu 405 S9:=mkF (by rfl') (by eq_refl) (by eq_refl)
theorem ah0:PySem.W.nsIn (HK.K P) mainGlobals "without"=some (some (.ref 405)):=by eq_refl
theorem iW:Binds (HK.K P) S9 ["book","number"] []:=Tc.binds (ps:=["book","number"]) λ_ _ _ _ _ _ us hl=>by obtain ⟨x0,x1,rfl⟩:=aY hl;rfl
def Td:FuncData:=fdM "needless" qw "starsieve.lean" 695 411
theorem Te:Fun (HK.K P) "needless" "needless" qw 412 Td:=mkF (by rfl') (by eq_refl) (by eq_refl)
theorem ah1:PySem.W.nsIn (HK.K P) mainGlobals "needless"=some (some (.ref 412)):=by eq_refl
theorem iY:Binds (HK.K P) Td ["book","number"] []:=Te.binds (ps:=["book","number"]) λ_ _ _ _ _ _ us hl=>by obtain ⟨x0,x1,rfl⟩:=aY hl;rfl
def Tf:FuncData:=fdM "lean" qx "starsieve.lean" 695 418
theorem Th:Fun (HK.K P) "lean" "lean" qx 419 Tf:=mkF (by rfl') (by eq_refl) (by eq_refl)
theorem ah2:PySem.W.nsIn (HK.K P) mainGlobals "lean"=some (some (.ref 419)):=by eq_refl
theorem iZ:Binds (HK.K P) Tf ["book"] []:=Th.binds (ps:=["book"]) λ_ _ _ _ _ _ us hl=>by obtain ⟨x0,rfl⟩:=cQ hl;rfl
def Ti:FuncData:=fdM "exchanged" qy "starsieve.moves" 726 442
theorem Tj:Fun (HK.K P) "exchanged" "exchanged" qy 443 Ti:=mkF (by rfl') (by eq_refl) (by eq_refl)
theorem ah3:PySem.W.nsIn (HK.K P) mainGlobals "exchanged"=some (some (.ref 443)):=by eq_refl
theorem m7:Binds (HK.K P) Ti ["things","place"] []:=Tj.binds (ps:=["things","place"]) λ_ _ _ _ _ _ us hl=>by obtain ⟨x0,x1,rfl⟩:=aY hl;rfl
def Tn:FuncData:=fdM "parting_word" qz "starsieve.alike" 668 397
theorem Tp:Fun (HK.K P) "parting_word" "parting_word" qz 398 Tn:=mkF (by rfl') (by eq_refl) (by eq_refl)
theorem ah4:PySem.W.nsIn (HK.K P) mainGlobals "parting_word"=some (some (.ref 398)):=by eq_refl
theorem m8:Binds (HK.K P) Tn ["one","other"] []:=Tp.binds (ps:=["one","other"]) λ_ _ _ _ _ _ us hl=>by obtain ⟨x0,x1,rfl⟩:=aY hl;rfl
def Tq:FuncData:=fdM "may_swap" qC "starsieve.moves" 726 449
theorem Tt:Fun (HK.K P) "may_swap" "may_swap" qC 450 Tq:=mkF (by rfl') (by eq_refl) (by eq_refl)
theorem ah5:PySem.W.nsIn (HK.K P) mainGlobals "may_swap"=some (some (.ref 450)):=by eq_refl
theorem gO:Binds (HK.K P) Tq ["book","place"] []:=Tt.binds (ps:=["book","place"]) λ_ _ _ _ _ _ us hl=>by obtain ⟨x0,x1,rfl⟩:=aY hl;rfl
def Tu:FuncData:=fdM "_law_asked" qD "law_starsieve_k13_no_books_refused_anywhere" 766 541
theorem Tv:Fun (HK.K P) "_law_asked" "_law_asked" qD 542 Tu:=mkF (by rfl') (by eq_refl) (by eq_refl)
theorem ah6:PySem.W.nsIn (HK.K P) mainGlobals "_law_asked"=some (some (.ref 542)):=by eq_refl
theorem ah7:Binds (HK.K P) Tu ["at","book","number","order"] []:=Tv.binds (ps:=["at","book","number","order"]) λ_ _ _ _ _ _ us hl=>by obtain ⟨x0,x1,x2,x3,rfl⟩:=M4 hl;rfl
def Tw:FuncData:=fdM "_law_refusal" qF "law_starsieve_k13_no_books_refused_anywhere" 766 529
theorem Tz:Fun (HK.K P) "_law_refusal" "_law_refusal" qF 530 Tw:=mkF (by rfl') (by eq_refl) (by eq_refl)
theorem ah8:PySem.W.nsIn (HK.K P) mainGlobals "_law_refusal"=some (some (.ref 530)):=by eq_refl
theorem ah9:Binds (HK.K P) Tw ["caught"] []:=Tz.binds (ps:=["caught"]) λ_ _ _ _ _ _ us hl=>by obtain ⟨x0,rfl⟩:=cQ hl;rfl
def TF:FuncData:=fdM "_law_told" qG "law_starsieve_k13_no_books_refused_anywhere" 766 548
theorem TQ:Fun (HK.K P) "_law_told" "_law_told" qG 549 TF:=mkF (by rfl') (by eq_refl) (by eq_refl)
theorem aia:PySem.W.nsIn (HK.K P) mainGlobals "_law_told"=some (some (.ref 549)):=by eq_refl
theorem aib:Binds (HK.K P) TF ["at","book","number","order"] []:=TQ.binds (ps:=["at","book","number","order"]) λ_ _ _ _ _ _ us hl=>by obtain ⟨x0,x1,x2,x3,rfl⟩:=M4 hl;rfl
def Am:FuncData:=fdM "law" qH "law_starsieve_k13_no_books_refused_anywhere" 766 560
theorem aic:Fun (HK.K P) "law" "law" qH 561 Am:=mkF (by rfl') (by eq_refl) (by eq_refl)
theorem aid:PySem.W.nsIn (HK.K P) mainGlobals "law"=some (some (.ref 561)):=by eq_refl
theorem aie:PySem.W.nsIn (HK.K P) mainGlobals "all"=some none:=by eq_refl
theorem aif:PySem.W.nsIn (HK.K P) mainGlobals "bool"=some none:=by eq_refl
theorem aig:PySem.W.nsIn (HK.K P) mainGlobals "enumerate"=some none:=by eq_refl
theorem aih:PySem.W.nsIn (HK.K P) mainGlobals "int"=some none:=by eq_refl
theorem aii:PySem.W.nsIn (HK.K P) mainGlobals "isinstance"=some none:=by eq_refl
theorem aij:PySem.W.nsIn (HK.K P) mainGlobals "len"=some none:=by eq_refl
theorem aik:PySem.W.nsIn (HK.K P) mainGlobals "list"=some none:=by eq_refl
theorem ail:PySem.W.nsIn (HK.K P) mainGlobals "min"=some none:=by eq_refl
theorem aim:PySem.W.nsIn (HK.K P) mainGlobals "range"=some none:=by eq_refl
theorem ain:PySem.W.nsIn (HK.K P) mainGlobals "reversed"=some none:=by eq_refl
theorem aio:PySem.W.nsIn (HK.K P) mainGlobals "sorted"=some none:=by eq_refl
theorem aip:PySem.W.nsIn (HK.K P) mainGlobals "str"=some none:=by eq_refl
theorem aiq:PySem.W.nsIn (HK.K P) mainGlobals "tuple"=some none:=by eq_refl
theorem air:PySem.W.nsIn (HK.K P) mainGlobals "zip"=some none:=by eq_refl
theorem ais:PySem.W.nsIn (HK.K P) mainGlobals "LETTERS"=some (some (.str "abcdefghijklmnopqrstuvwxyz" 529)):=by eq_refl
theorem ait:PySem.W.nsIn (HK.K P) mainGlobals "LONGEST_DEED"=some (some (.int 8 527)):=by eq_refl
theorem aiu:PySem.W.nsIn (HK.K P) mainGlobals "MOST_ROWS"=some (some (.int 12 525)):=by eq_refl
theorem aiv:PySem.W.nsIn (HK.K P) mainGlobals "WIDEST"=some (some (.int 6 435)):=by eq_refl
theorem x_s:xsB (HK.K P) xs=true:=by eq_refl
end
section
variable {l:PySem.W.OpenLaw} {w:World} {h:Heap} {mg:Str->Option Value} {base:Heap} (X:(HK.K w.params).In h) (G:h.Ns mainGlobals mg)
include X G
theorem B0:Bse Φ l.prog w (HK.K w.params) mg base (CX1 l.prog w) 0 f0 bt cn xs:=bse trivial ⟨mg_none_of X G aie,mg_none_of X G aif,mg_none_of X G aig,mg_none_of X G aih,mg_none_of X G aii,mg_none_of X G aij,mg_none_of X G aik,mg_none_of X G ail,mg_none_of X G aim,mg_none_of X G ain,mg_none_of X G aio,mg_none_of X G aip,mg_none_of X G aiq,mg_none_of X G air,trivial⟩ ⟨acd (mg_of X G ais) (by decide +kernel) (by decide),yM (mg_of X G ait),yM (mg_of X G aiu),yM (mg_of X G aiv),trivial⟩ X G x_s
theorem B1:Bse Φ l.prog w (HK.K w.params) mg base (CX1 l.prog w) 1 f1 bt cn xs:=(B0 X G).step QD ag5 (mg_of X G ag4) Pz 0 afc afd rfl rfl (bW (λds G h=>aci Φ  ds G h))
theorem B2:Bse Φ l.prog w (HK.K w.params) mg base (CX1 l.prog w) 2 f2 bt cn xs:=(B1 X G).step QG ag7 (mg_of X G ag6) PK 3 afe afg rfl rfl (bW (λds G h=>ach Φ  ds G h))
theorem B3:Bse Φ l.prog w (HK.K w.params) mg base (CX1 l.prog w) 3 f3 bt cn xs:=(B2 X G).step QJ ag9 (mg_of X G ag8) fQ 3 afh afi rfl rfl (bW (λds G h=>acj Φ PK ds G h))
theorem B4:Bse Φ l.prog w (HK.K w.params) mg base (CX1 l.prog w) 4 f4 bt cn xs:=(B3 X G).step QL ahb (mg_of X G aha) zY 0 afj afk rfl rfl (bW (λds G h=>acn Φ fQ ds G h))
theorem B5:Bse Φ l.prog w (HK.K w.params) mg base (CX1 l.prog w) 5 f5 bt cn xs:=(B4 X G).step QQ ahd (mg_of X G ahc) PL 4 afl afm rfl rfl (bW (λds G h=>acG Φ fQ zY ds G h))
theorem B6:Bse Φ l.prog w (HK.K w.params) mg base (CX1 l.prog w) 6 f6 bt cn xs:=(B5 X G).step QS ahf (mg_of X G ahe) PN 0 afn afo rfl rfl (bW (λds G h=>aco Φ fQ zY ds G h))
theorem B7:Bse Φ l.prog w (HK.K w.params) mg base (CX1 l.prog w) 7 f7 bt cn xs:=(B6 X G).step QV ahh (mg_of X G ahg) PP 2 afp afq rfl rfl (bW (λds G h=>acy Φ fQ ds G h))
theorem B8:Bse Φ l.prog w (HK.K w.params) mg base (CX1 l.prog w) 8 f8 bt cn xs:=(B7 X G).step QX ahj (mg_of X G ahi) PQ 2 afr afs rfl rfl (bW (λds G h=>acx Φ fQ ds G h))
theorem B9:Bse Φ l.prog w (HK.K w.params) mg base (CX1 l.prog w) 9 f9 bt cn xs:=(B8 X G).step Q0 ahl (mg_of X G ahk) P0 3 aft afu rfl rfl (bW (λds G h=>acD Φ fQ PN PQ PP ds G h))
theorem B10:Bse Φ l.prog w (HK.K w.params) mg base (CX1 l.prog w) 10 f10 bt cn xs:=(B9 X G).step Q4 ahn (mg_of X G ahm) Qa 5 afv afw rfl rfl (bW (λds G h=>acJ Φ fQ PL P0 ds G h))
theorem B11:Bse Φ l.prog w (HK.K w.params) mg base (CX1 l.prog w) 11 f11 bt cn xs:=(B10 X G).step Q6 ahp (mg_of X G aho) Qc 2 afx afy rfl rfl (eY (λa ds G h=>aeW Φ fQ a ds G h))
theorem B12:Bse Φ l.prog w (HK.K w.params) mg base (CX1 l.prog w) 12 f12 bt cn xs:=(B11 X G).step Q8 ahr (mg_of X G ahq) Qd 10 afz afA rfl rfl (eY (λa ds G h=>ae3 Φ fQ Qc a ds G h))
theorem B13:Bse Φ l.prog w (HK.K w.params) mg base (CX1 l.prog w) 13 f13 bt cn xs:=(B12 X G).step Ra aht (mg_of X G ahs) Qe 3 afB afC rfl rfl (bW (λds G h=>acp Φ  ds G h))
theorem B14:Bse Φ l.prog w (HK.K w.params) mg base (CX1 l.prog w) 14 f14 bt cn xs:=(B13 X G).step Rc jV (mg_of X G ahu) Qf 0 afD afE rfl rfl (cP (λds G d h=>acO Φ  ds G d h))
theorem B15:Bse Φ l.prog w (HK.K w.params) mg base (CX1 l.prog w) 15 f15 bt cn xs:=(B14 X G).step Rg jW (mg_of X G ahv) Qg 0 afF afG rfl rfl (cP (λds G d h=>acs Φ  ds G d h))
theorem B16:Bse Φ l.prog w (HK.K w.params) mg base (CX1 l.prog w) 16 f16 bt cn xs:=(B15 X G).step Ri mF (mg_of X G ahw) Qh 0 afH afI rfl rfl (cP (λds G d h=>acu Φ Qg ds G d h))
theorem B17:Bse Φ l.prog w (HK.K w.params) mg base (CX1 l.prog w) 17 f17 bt cn xs:=(B16 X G).step Rk gk (mg_of X G ahx) Qi 0 afJ afK rfl rfl (cP (λds G d h=>acP Φ Qh Qf ds G d h))
theorem B18:Bse Φ l.prog w (HK.K w.params) mg base (CX1 l.prog w) 18 f18 bt cn xs:=(B17 X G).step Rn mG (mg_of X G ahy) zZ 0 afL afM rfl rfl (cP (λds G d h=>acq Φ  ds G d h))
theorem B19:Bse Φ l.prog w (HK.K w.params) mg base (CX1 l.prog w) 19 f19 bt cn xs:=(B18 X G).step Rp mH (mg_of X G ahz) Qj 0 afN afO rfl rfl (cP (λds G d h=>acr Φ zZ ds G d h))
theorem B20:Bse Φ l.prog w (HK.K w.params) mg base (CX1 l.prog w) 20 f20 bt cn xs:=(B19 X G).step Rt gm (mg_of X G ahA) z6 2 afP afQ rfl rfl (cP (λds G d h=>acQ Φ Qj Qi ds G d h))
theorem B21:Bse Φ l.prog w (HK.K w.params) mg base (CX1 l.prog w) 21 f21 bt cn xs:=(B20 X G).stepX Rv iK (mg_of X G ahB) dg 0 afR afS rfl rfl (dX rfl (bW (λds G h=>acX Φ z6 ds G h)) (λds G C h=>acY Φ z6 ds G C h))
theorem B22:Bse Φ l.prog w (HK.K w.params) mg base (CX1 l.prog w) 22 f22 bt cn xs:=(B21 X G).step Rx mJ (mg_of X G ahC) ie 0 afT afU rfl rfl (cP (λds G d h=>adv Φ zZ ds G d h))
theorem B23:Bse Φ l.prog w (HK.K w.params) mg base (CX1 l.prog w) 23 f23 bt cn xs:=(B22 X G).step Rz iM (mg_of X G ahD) z7 1 afV afW rfl rfl (dR (λa G h=>aeD Φ ie a G h))
theorem B24:Bse Φ l.prog w (HK.K w.params) mg base (CX1 l.prog w) 24 f24 bt cn xs:=(B23 X G).stepX RC iQ (mg_of X G ahE) z8 0 afX afY rfl rfl (dX rfl (dR (λa G h=>aeF Φ z7 a G h)) (λds G C h=>aeG Φ z7 ds G C h))
theorem B25:Bse Φ l.prog w (HK.K w.params) mg base (CX1 l.prog w) 25 f25 bt cn xs:=(B24 X G).stepX RG gK (mg_of X G ahF) z9 2 afZ af0 rfl rfl (dX rfl (eY (λa ds G h=>aeI Φ dg z8 a ds G h)) (λds G C h=>aeJ Φ dg z8 ds G C h))
theorem B26:Bse Φ l.prog w (HK.K w.params) mg base (CX1 l.prog w) 26 f26 bt cn xs:=(B25 X G).step RK mK (mg_of X G ahG) Qk 2 af1 af2 rfl rfl (cP (λds G d h=>adA Φ  ds G d h))
theorem B27:Bse Φ l.prog w (HK.K w.params) mg base (CX1 l.prog w) 27 f27 bt cn xs:=(B26 X G).step RM mL (mg_of X G ahH) Ql 3 af3 af4 rfl rfl (cP (λds G d h=>ac7 Φ  ds G d h))
theorem B28:Bse Φ l.prog w (HK.K w.params) mg base (CX1 l.prog w) 28 f28 bt cn xs:=(B27 X G).step RP mO (mg_of X G ahI) vY 2 af5 af6 rfl rfl (bW (λds G h=>adf Φ Ql ds G h))
theorem B29:Bse Φ l.prog w (HK.K w.params) mg base (CX1 l.prog w) 29 f29 bt cn xs:=(B28 X G).step RT mQ (mg_of X G ahJ) Qm 3 af7 af8 rfl rfl (bW (λds G h=>adi Φ vY ds G h))
theorem B30:Bse Φ l.prog w (HK.K w.params) mg base (CX1 l.prog w) 30 f30 bt cn xs:=(B29 X G).step RW mR (mg_of X G ahK) Aa 0 af9 aga rfl rfl (cP (λds G d h=>ac9 Φ  ds G d h))
theorem TV:∀n:Nat,FnOk l.prog w (HK.K w.params) mg base (CX1 l.prog w) (30+n) 355 Aj ["name","many_rows","box"] (lift (HK.K w.params) 3 (fu n))
 |0=>M5 ado
 |n+1=>uW (fs:=f31) v7 ((B30 X G).self (by decide +kernel) (TV n) v7.kp jX (mg_of X G RX)) (fu (n+1)) 3 4 agb agc rfl rfl (bW (λds G h=>adn (iJ Φ "grown" (fu n)) n (if_pos rfl) (jU vY rfl) (jU Qm rfl) (jU Aa rfl) ds G h))
theorem B31:Bse Φ l.prog w (HK.K w.params) mg base (CX1 l.prog w) 39 f31 bt cn xs:=(B30 X G).add (j:=9) Ab (TV X G 9) v7.kp jX (mg_of X G RX)
theorem B32:Bse Φ l.prog w (HK.K w.params) mg base (CX1 l.prog w) 40 f32 bt cn xs:=(B31 X G).step R0 mU (mg_of X G ahL) oJ 0 agd age rfl rfl (cP (λds G d h=>ada Φ  ds G d h))
theorem B33:Bse Φ l.prog w (HK.K w.params) mg base (CX1 l.prog w) 41 f33 bt cn xs:=(B32 X G).stepX R3 iR (mg_of X G ahM) oK 2 agf agg rfl rfl (dX rfl (bW (λds G h=>adt Φ dg Ab oJ ds G h)) (λds G C h=>adu Φ dg ds G C h))
theorem B34:Bse Φ l.prog w (HK.K w.params) mg base (CX1 l.prog w) 42 f34 bt cn xs:=(B33 X G).step R5 mV (mg_of X G ahN) Ac 0 agh agi rfl rfl (cP (λds G d h=>adx Φ  ds G d h))
theorem TY:∀n:Nat,FnOk l.prog w (HK.K w.params) mg base (CX1 l.prog w) (42+n) 336 Ak ["box","tree"] (lift (HK.K w.params) 2 (dG n))
 |0=>M5 adB
 |n+1=>uW (fs:=f35) v8 ((B34 X G).self (by decide +kernel) (TY n) v8.kp iT (mg_of X G R6)) (dG (n+1)) 2 3 agj agk rfl rfl (dR (λa G h=>adD (iJ Φ "leaves" (dG n)) n (if_pos rfl) (jU Ac rfl) (jU ie rfl) (jU Aa rfl) a G h))
theorem B35:Bse Φ l.prog w (HK.K w.params) mg base (CX1 l.prog w) 51 f35 bt cn xs:=(B34 X G).add (j:=9) vZ (TY X G 9) v8.kp iT (mg_of X G R6)
theorem B36:Bse Φ l.prog w (HK.K w.params) mg base (CX1 l.prog w) 52 f36 bt cn xs:=(B35 X G).stepX R8 iU (mg_of X G ahO) Ad 7 agl agm rfl rfl (dX rfl (eY (λa ds G h=>adP Φ oK vZ oJ Qk a ds G h)) (λds G C h=>adQ Φ oK ds G C h))
theorem B37:Bse Φ l.prog w (HK.K w.params) mg base (CX1 l.prog w) 53 f37 bt cn xs:=(B36 X G).step Sd mW (mg_of X G ahP) Qn 0 agn ago rfl rfl (cP (λds G d h=>ac0 Φ  ds G d h))
theorem B38:Bse Φ l.prog w (HK.K w.params) mg base (CX1 l.prog w) 54 f38 bt cn xs:=(B37 X G).step Sh mX (mg_of X G ahQ) Qo 0 agp agq rfl rfl (cP (λds G d h=>adG Φ Qn ds G d h))
theorem B39:Bse Φ l.prog w (HK.K w.params) mg base (CX1 l.prog w) 55 f39 bt cn xs:=(B38 X G).step Ss mY (mg_of X G ahR) Qp 0 agr ags rfl rfl (dR (λa G h=>adT Φ vY ie Qo a G h))
theorem B40:Bse Φ l.prog w (HK.K w.params) mg base (CX1 l.prog w) 56 f40 bt cn xs:=(B39 X G).stepX Sv iV (mg_of X G ahS) Ae 3 agt agu rfl rfl (dX rfl (dR (λa G h=>adX Φ dg vZ oJ Ac Qp a G h)) (λds G C h=>adY Φ dg ds G C h))
theorem B41:Bse Φ l.prog w (HK.K w.params) mg base (CX1 l.prog w) 57 f41 bt cn xs:=(B40 X G).add (j:=1) Qq ((ag3 Al).cx.mono (by decide)) Al.kp ahU (mg_of X G ahT)
theorem B42:Bse Φ l.prog w (HK.K w.params) mg base (CX1 l.prog w) 58 f42 bt cn xs:=(B41 X G).step SJ mZ (mg_of X G ahV) Qs 0 agv agw rfl rfl (dR (λa G h=>aeb Φ dg a G h))
theorem B43:Bse Φ l.prog w (HK.K w.params) mg base (CX1 l.prog w) 59 f43 bt cn xs:=(B42 X G).step SN jY (mg_of X G ahW) Qt 0 agx agy rfl rfl (bW (λds G h=>ac2 Φ  ds G h))
theorem B44:Bse Φ l.prog w (HK.K w.params) mg base (CX1 l.prog w) 60 f44 bt cn xs:=(B43 X G).step SX m5 (mg_of X G ahX) Qu 0 agz agA rfl rfl (dR (λa G h=>aed Φ Qt a G h))
theorem B45:Bse Φ l.prog w (HK.K w.params) mg base (CX1 l.prog w) 61 f45 bt cn xs:=(B44 X G).step S6 m6 (mg_of X G ahY) Af 3 agB agC rfl rfl (eY (λa ds G h=>aee Φ Qs Ab vZ Qq oJ Qu a ds G h))
theorem B46:Bse Φ l.prog w (HK.K w.params) mg base (CX1 l.prog w) 62 f46 bt cn xs:=(B45 X G).stepX S8 gM (mg_of X G ahZ) Ag 0 agD agE rfl rfl (dX rfl (dR (λa G h=>ad8 Φ dg ie a G h)) (λds G C h=>ad9 Φ dg ie ds G C h))
theorem B47:Bse Φ l.prog w (HK.K w.params) mg base (CX1 l.prog w) 63 f47 bt cn xs:=(B46 X G).stepX Tc iW (mg_of X G ah0) kZ 2 agF agG rfl rfl (dX rfl (dR (λa G h=>aeh Φ Ag a G h)) (λds G C h=>aei Φ Ag ds G C h))
theorem B48:Bse Φ l.prog w (HK.K w.params) mg base (CX1 l.prog w) 64 f48 bt cn xs:=(B47 X G).stepX Te iY (mg_of X G ah1) v6 2 agH agI rfl rfl (dX rfl (eY (λa ds G h=>aek Φ Af kZ a ds G h)) (λds G C h=>ael Φ kZ ds G C h))
theorem B49:Bse Φ l.prog w (HK.K w.params) mg base (CX1 l.prog w) 65 f49 bt cn xs:=(B48 X G).stepX Th iZ (mg_of X G ah2) Ah 2 agJ agK rfl rfl (dX rfl (dR (λa G h=>aep Φ dg v6 kZ a G h)) (λds G C h=>aeq Φ dg ds G C h))
theorem B50:Bse Φ l.prog w (HK.K w.params) mg base (CX1 l.prog w) 66 f50 bt cn xs:=(B49 X G).step Tj m7 (mg_of X G ah3) Qv 0 agL agM rfl rfl (dR (λa G h=>aex Φ  a G h))
theorem B51:Bse Φ l.prog w (HK.K w.params) mg base (CX1 l.prog w) 67 f51 bt cn xs:=(B50 X G).step Tp m8 (mg_of X G ah4) Qw 2 agN agO rfl rfl (dR (λa G h=>aes Φ Af a G h))
theorem B52:Bse Φ l.prog w (HK.K w.params) mg base (CX1 l.prog w) 68 f52 bt cn xs:=(B51 X G).stepX Tt gO (mg_of X G ah5) Ai 2 agP agQ rfl rfl (dX rfl (eY (λa ds G h=>aeA Φ dg ie Qw Qv a ds G h)) (λds G C h=>aeB Φ dg ie ds G C h))
theorem B53:Bse Φ l.prog w (HK.K w.params) mg base (CX1 l.prog w) 69 f53 bt cn xs:=(B52 X G).stepX Tv ah7 (mg_of X G ah6) Qx 0 agR agS rfl rfl (dX rfl (eY (λa ds G h=>aeL Φ ⟨oK,Ae,Ad,Ah,v6,kZ,Ai,z9⟩ a ds G h)) (λds G C h=>aeM Φ ⟨oK,Ae,Ad,Ah,v6,kZ,Ai,z9⟩ ds G C h))
theorem B54:Bse Φ l.prog w (HK.K w.params) mg base (CX1 l.prog w) 70 f54 bt cn xs:=(B53 X G).step Tz ah9 (mg_of X G ah8) Qy 2 agT agU rfl rfl (eY (λa ds G h=>aeT Φ  a ds G h))
theorem B55:Bse Φ l.prog w (HK.K w.params) mg base (CX1 l.prog w) 71 f55 bt cn xs:=(B54 X G).step TQ aib (mg_of X G aia) Qz 2 agV agW rfl rfl (eY (λa ds G h=>aeV Φ Qx Qy a ds G h))
theorem aiw:FnOk l.prog w (HK.K w.params) mg base (CX1 l.prog w) 72 561 Am ["script"] (lift (HK.K w.params) 1 (nq)):=uW aic (B55 X G) (nq) 1 9 agX agY rfl rfl (bW (λds G h=>ae5 Φ ⟨Qe,Pz,Qa,Qd,Qz⟩ ds G h))
omit X G in
theorem all (fa:Addr) (X:(HK.K w.params).In h) (G:h.Ns mainGlobals mg) (hfa:mg "law"=some (.ref fa)):∃fd:FuncData,(∀(s:Shared) (v:Value),BindsTo s fd ⟨[v],[]⟩ [("script",v)])/\∀base:Heap,(HK.K w.params).In base->base.Ns mainGlobals mg->FnOk l.prog w (HK.K w.params) mg base (CX1 l.prog w) 72 fa fd ["script"] (lift (HK.K w.params) 1 (nq)):=by have e:=hfa.symm.trans (PySem.W.mg_of X G aid);cases e;exact ⟨Am,λs v=>.of_eq rfl,λbase _ _=>aiw X G⟩
end
theorem walk {l:PySem.W.OpenLaw} {q:Program} {loose:List Str} {XP:(Str->Option Value)->Heap->Prop} {d:DefRec} (hn:l.most=some 63) (hdf:d.params.defaults=[]) (hdn:d.name="law"):
  PySem.W.WalkO q loose XP HK.hook.says l.row.toRowW d [] (λf vs=>PySem.call f vs):=
 L2.W3 (n:=63) (k:=72) (x:="script") (K:=HK.K) (CX:=λw=>CX1 l.prog w) (sp:=λw=>lift (HK.K w.params) 1 (nq)) hn (by decide) hdf ⟨rfl,by decide,by decide⟩ (λ_ _ Y=>Y) (λw mg fa h X G hmg=>all fa X G (hdn ▸ hmg)) (λw H a ns hl hO hS=>ace (acf λns _ hl=>⟨ns,rfl,hl⟩) (HK.K w.params) H a ns hl hO hS) λ_ _ _ _ _ z=>ab1 z
end Lk13
open PySem PySem.W PyProof.Rows
set_option maxRecDepth 100000 in
set_option maxHeartbeats 0 in
theorem PySem.Challenge.cw_starsieve_k13_no_books_refused_anywhere_holds : PySem.Challenge.rw_starsieve_k13_no_books_refused_anywhere.Holds := by
 have said:PySem.Challenge.rw_starsieve_k13_no_books_refused_anywhere.row.wellSaid=true:=by decide +kernel
 refine ⟨by decide +kernel,?_⟩;refine PySem.W.holds_open (q:=HK.qv) (loose:=[]) (Xt:=HK.Xt) (XP:=XL HK.qv []) (Yf:=HK.hook.obs) (Ya:=HK.hook.val) (YP:=HK.hook.says) (N:=12000) HK.left HK.hook.of HK.hook.keeps
  (λs e=>xl_of s (Bool.and_eq_true_iff.mp e).1) XL.keeps (by rfl) (by rfl) (by rfl) (λs e=>recFacts_of (Bool.and_eq_true_iff.mp e).2) (by rfl) (by assumption) (by decide +kernel) ⟨rfl,rfl,rfl,rfl,rfl,by decide +kernel⟩ ?hw ?hc
 case hw=>exact ⟨[.list []],by decide +kernel,by decide +kernel⟩
 exact Lk13.walk rfl rfl rfl
