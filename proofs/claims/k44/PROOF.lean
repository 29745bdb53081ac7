import PyProof.Rows.All
import Wide.All
import OpenK.AllK
import Wide.FinOn
import Lean
import PyProof.EqAt
import PyProof.EqKinds
import PyProof.TupleCall
import PyProof.NeKinds
import PyProof.FactsAll.range_2
import PyProof.FactsAll.tuple_2
import PyProof.FactsAll.tuple
import PyProof.ListRange
import PySem.Challenge.RW_starsieve_k44_whole_pressed_ones_do_the
set_option compiler.extract_closed false
set_option bootstrap.genMatcherCode false
set_option genSizeOf false
set_option Elab.async false
set_option maxRecDepth 100000
noncomputable section
local macro_rules|`(tactic|rfl')=>`(tactic|kernel_rfl)
local macro_rules|`(tactic|ac_rfl)=>`(tactic|decide +kernel)
abbrev PF:=PySem.W.Frag
set_option linter.all false
namespace L2
open PySem PySem.Spec PyProof.Rows
def ae:=@Bool.and_eq_true
def af:=@And.intro
def ag:=@List.length_map
def ah:=@List.getElem?_eq_some_iff
def al:=@PySem.wpAny_bind
def am:=@PySem.Heap.get?_push_of_some
def ar:=@List.length_append
def av:=@List.size_toArray
def aw:=@Nat.le_refl
def ax:=@Option.map_eq_some_iff
def ay:=@List.getElem?_map
def aE:=@List.mem_append_right
def aI:=@beq_iff_eq
def aS:=@PySem.Heap.lt_size
def aT:=@List.length_take
def a7:=@List.getElem?_eq_getElem
def a8:=@Option.some.injEq
def a9:=@Bool.false_ne_true
def ba:=@List.mem_cons_of_mem
def bb:=@List.drop_eq_getElem_cons
def bg:=@List.mem_cons_self
def bi:=@PySem.Heap.get?_push_size
def bn:=@List.mem_append
def bo:=@PySem.wpAny_pure
def bp:=@List.length_drop
def bq:=@List.mem_singleton
def br:=@List.map_cons
def bv:=@List.mem_of_getElem?
def bP:=@Nat.lt_of_lt_of_le
def bS:=@List.mem_cons
def bX:=@List.contains_iff_mem
def b6:=@Nat.le_trans
def b9:=@decide_eq_true
def ca:=@List.map_append
def cb:=@decide_eq_true_iff
def ce:=@List.mem_map
theorem cf:type_of% @List.length_cons:=@List.length_cons
def ci:=@List.length_set
def ck:=@List.all_eq_true
def cm:=@decide_eq_false
theorem cp:type_of% @List.replicate_succ:=@List.replicate_succ
def cq:=@Bool.or_eq_true
def cr:=@List.append_assoc
def cw:=@Option.isSome_iff_exists
def cy:=@List.length_replicate
def cK:=@Nat.ne_of_lt
def cS:=@Int.eq_ofNat_of_zero_le
def dc:=@PySem.wpAny_mono
def de:=@List.map_nil
def df:=@List.filter_eq_nil_iff
def dk:=@List.mem_filter
def dr:=@PyProof.Rows.callWith_type1
def dv:=@List.length_eq_zero_iff
def dy:=@Option.some.inj
def dA:=@List.cons.injEq
def dE:=@Nat.le_add_right
def dL:=@of_decide_eq_true
theorem dP:type_of% @Int.toNat_natCast:=@Int.toNat_natCast
def dQ:=@PySem.W.kia_one
def dS:=@PySem.wpAny_field
def d3:=@Nat.zero_le
def d4:=@List.getElem_mem
theorem d5:type_of% @Array.length_toList:=@Array.length_toList
def d6:=@List.take_add_one
def ee:=@List.getD_eq_getElem?_getD
def ef:=@beq_eq_false_iff_ne
def eg:=@PySem.mem_of_lookup
def eh:=@List.getElem?_append_left
def ek:=@List.isEmpty_iff
def en:=@List.filter_append
def ey:=@Nat.lt_irrefl
def ez:=@PySem.F.plainAttrs_list
def eA:=@congrArg
def eI:=@List.getElem?_range
def eJ:=@PySem.Heap.size_push
def eK:=@List.take_of_length_le
def eL:=@PySem.wpAny_truthy_bool
def eM:=@List.take_length
def eP:=@List.drop_length
def eR:=@PySem.wpAny_holding
def eS:=@PySem.wpAny_setField_rec
def eT:=@PySem.wpAny_seqItems
def eW:=@List.mem_append_left
theorem e6:type_of% @List.flatten_cons:=@List.flatten_cons
theorem e7:type_of% @List.length_nil:=@List.length_nil
def e8:=@Bool.true_and
def e9:=@PyProof.Rows.slot_tuple_getitem
def fb:=@List.mem_filterMap
theorem fe:type_of% @List.length_singleton:=@List.length_singleton
def ff:=@Int.emod_lt_of_pos
def fg:=@PySem.wpAny_callSpecial?_slot
def fh:=@List.dropLast_concat_getLast
def fk:=@Int.emod_nonneg
def fm:=@List.take_append_drop
def fo:=@List.getElem?_set
def fq:=@PySem.wpAny_passesOwn
def ft:=@List.mem_of_mem_take
def fv:=@List.getElem?_append_right
def fw:=@Nat.lt_succ_self
def fx:=@Option.isNone_iff_eq_none
def fy:=@List.length_pos_iff
def fA:=@PySem.call_meets
def fE:=@and_true
def fF:=@PySem.F.slot_tuple_iterator_next
def fI:=@Bool.and_true
def fN:=@List.append_nil
def fR:=@PySem.wpAny_call_entry
def fS:=@List.findIdx?_cons
def fT:=@List.set_eq_take_append_cons_drop
def ga:=@List.findIdx?_eq_some_iff_getElem
def gc:=@Nat.ne_of_gt
def gd:=@List.mem_range
def ge:=@List.drop_eq_nil_of_le
def gg:=@Bool.not_eq_true'
def gi:=@List.cons_lt_cons_iff
def gl:=@Array.getElem?_toList
def gp:=@Nat.min_le_right
def gs:=@List.not_mem_nil
def gt:=@List.mem_flatMap
def gu:=@PySem.wpAny_standAt
theorem gv:type_of% @List.getElem?_cons_succ:=@List.getElem?_cons_succ
abbrev Key:=Sum Int Str
def Bg:Key->Value->Bool
 |.inl k,v=>Value.isInt k v
 |.inr x,v=>Value.isStrOf x v
def Ur(w:World):Key->Int
 |.inl k=>hashInt k
 |.inr x=>hashStr w x
theorem fO:∀{k:Key}{v:Value},Bg k v=true->(∃i t,k=Sum.inl i/\v=Value.int i t)\/(∃x t,k=Sum.inr x/\v=Value.str x t)
 |.inl i,v,h=>by
  obtain ⟨t,e⟩:=Value.isInt_shape (k:=i) (v:=v) h;exact .inl ⟨i,t,rfl,e⟩
 |.inr x,v,h=>by
  obtain ⟨t,e⟩:=Value.isStrOf_shape (x:=x) (v:=v) h;exact .inr ⟨x,t,rfl,e⟩
theorem Us(a b:Int):decide ((Sum.inl a:Key)=Sum.inl b)=(a==b):=by
 by_cases e:a=b
 ·subst e;simp
 ·have h:¬(Sum.inl a:Key)=Sum.inl b:=λq=>e (Sum.inl.inj q);rw[cm h];exact (ef.mpr e).symm
theorem Ut(a b:Str):decide ((Sum.inr a:Key)=Sum.inr b)=decide (a=b):=by
 by_cases e:a=b
 ·subst e;simp
 ·have h:¬(Sum.inr a:Key)=Sum.inr b:=λq=>e (Sum.inr.inj q);rw[cm h,cm e]
theorem Uu(a:Int)(b:Str):decide ((Sum.inl a:Key)=Sum.inr b)=false:=cm (λq=>nomatch q)
theorem Uv(a:Str)(b:Int):decide ((Sum.inr a:Key)=Sum.inl b)=false:=cm (λq=>nomatch q)
def vy(prog:Program)(w:World):PySem.KeyKind prog w Key where
 is:=Bg
 hash:=Ur w
 inj:=λv a b ha hb=>by
  rcases fO ha with ⟨i,t,rfl,rfl⟩ |⟨x,t,rfl,rfl⟩
  ·rcases fO hb with ⟨j,u,rfl,e⟩ |⟨y,u,rfl,e⟩
   ·injection e with e1 _;rw[e1]
   ·exact nomatch e
  ·rcases fO hb with ⟨j,u,rfl,e⟩ |⟨y,u,rfl,e⟩
   ·exact nomatch e
   ·injection e with e1 _;rw[e1]
 byValue:=λk v h=>by
  rcases fO h with ⟨i,t,rfl,rfl⟩ |⟨x,t,rfl,rfl⟩ <;> rfl
 pyHash:=λhv h=>by
  rcases fO hv with ⟨i,t,rfl,rfl⟩ |⟨x,t,rfl,rfl⟩
  ·exact wpAny_pyHash_int h
  ·exact wpAny_pyHash_str h
 eqBool:=λhu hv h=>by
  rcases fO hu with ⟨i,t,rfl,rfl⟩ |⟨x,t,rfl,rfl⟩
  ·rcases fO hv with ⟨j,u,rfl,rfl⟩ |⟨y,u,rfl,rfl⟩
   ·rw[Us]at h;exact wpAny_eqBool_int h
   ·rw[Uu]at h;exact SeqAt.EqAt.int_str i t y u _ _ _ _ h
  ·rcases fO hv with ⟨j,u,rfl,rfl⟩ |⟨y,u,rfl,rfl⟩
   ·rw[Uv]at h;exact SeqAt.EqAt.str_int x t j u _ _ _ _ h
   ·rw[Ut]at h;exact wpAny_eqBool_str h
 «strs»:=λk x t v h=>by
  rcases fO h with ⟨i,u,rfl,e⟩ |⟨y,u,rfl,e⟩
  ·exact nomatch e
  ·injection e with e1 _;subst e1;cases v <;> rfl
inductive V where
 |non |bl (b:Bool) |int (i:Int) |str (x:Str) |byt (b:Array UInt8) |flt (b:UInt64) |ref (a:Addr) |ty (n:String)
 deriving DecidableEq
def RelV:V->Value->Prop
 |.non,u=>u=Value.none
 |.bl b,u=>u=Value.bool b
 |.int i,u=>∃t,u=Value.int i t
 |.str x,u=>∃t,u=Value.str x t
 |.byt b,u=>∃t,u=Value.bytes b t
 |.flt b,u=>∃t,u=Value.float b t
 |.ref a,u=>u=Value.ref a
 |.ty n,u=>u=Value.type n
abbrev Vals:List V->List Value->Prop:=Paired RelV
theorem Vals.length{xs:List V}{us:List Value}(r:Vals xs us):xs.length=us.length:=Paired.length r
theorem Vals.get:∀{xs:List V}{us:List Value}{i:Nat}{x:V},Vals xs us->xs[i]?=some x->∃u,us[i]?=some u/\RelV x u
 |_,_,_,_,.nil,e=>by simp at e
 |_,_,0,_,.cons r _,e=>by simp at e;subst e;exact ⟨_,rfl,r⟩
 |_,_,i+1,x,.cons _ t,e=>by
  obtain ⟨u,h1,h2⟩:=Vals.get (i:=i) (x:=x) t (by simpa using e);exact ⟨u,by simpa using h1,h2⟩
theorem Vals.set{x:V}{u:Value}(r:RelV x u):∀{xs:List V}{us:List Value}(i:Nat),Vals xs us->Vals (xs.set i x) (us.set i u)
 |_,_,_,.nil=>.nil
 |_,_,0,.cons _ t=>.cons r t
 |_,_,i+1,.cons q t=>.cons q (Vals.set r i t)
theorem Vals.append:∀{xs ys:List V}{us ws:List Value},Vals xs us->Vals ys ws->Vals (xs++ys) (us++ws)
 |_,_,_,_,.nil,s=>s
 |_,_,_,_,.cons r t,s=>.cons r (Vals.append t s)
theorem Vals.take:∀{xs:List V}{us:List Value}(n:Nat),Vals xs us->Vals (xs.take n) (us.take n)
 |_,_,0,_=>.nil
 |_,_,_+1,.nil=>.nil
 |_,_,n+1,.cons r t=>.cons r (Vals.take n t)
theorem Vals.drop:∀{xs:List V}{us:List Value}(n:Nat),Vals xs us->Vals (xs.drop n) (us.drop n)
 |_,_,0,r=>r
 |_,_,_+1,.nil=>.nil
 |_,_,n+1,.cons _ t=>Vals.drop n t
def vz:Option V->Option Value->Prop
 |some v,some u=>RelV v u
 |none,none=>True
 |_,_=>False
def KV{κ:Type}:List (κ×V)->List (κ×Value)->Prop:=Paired λ(p:κ×V) (q:κ×Value)=>p.1=q.1/\RelV p.2 q.2
def kV:Key->V
 |.inl i=>.int i
 |.inr x=>.str x
inductive HO where
 |lst (xs:List V)
 |tup (xs:List V)
 |dK (kvs:List (Key×V)) |dT (kvs:List (List Key×V))
 |set (S:Int->Bool) (n:Nat)
 |ins (C dx:Addr) (fs:List (Str×V))
 |own (x:Addr)
 |xd (fs:List (Str×V))
 |met (f x:Addr)
 |rng (lo hi:Int)
 |frz (o:Obj) (u:HO)
 |tbl (ps:Array Value)
 |ext (φ:Heap->Prop)
abbrev Hp:=Addr->Option HO
def upd(H:Hp)(a:Addr)(o:HO):Hp:=λb=>if b=a then some o else H b
theorem fP{H:Hp}{a:Addr}{o:HO}:upd H a o a=some o:=by unfold upd;rw[if_pos rfl]
theorem aP{H:Hp}{a b:Addr}{o:HO}(h:b≠a):upd H a o b=H b:=by unfold upd;rw[if_neg h]
theorem Bh{H:Hp}{a b:Addr}{o u:HO}(h:H a=some o)(h':H b=some u)(d:o≠u):a≠b:=by intro e;subst e;rw[h]at h';exact d (dy h')
theorem bN{H:Hp}{a b:Addr}{o:HO}(h:H a=some o)(h':H b=none):a≠b:=by intro e;subst e;rw[h]at h';cases h'
section
variable (P:Program) (w:World)
def ObjOk(H:Hp)(h:Heap)(a:Addr):HO->Prop
 |.lst xs=>xs.length<=sizeLine/\∃(its:List Value) (n:Nat),Vals xs its/\h.get? a=some { cls:=.type "list",data:=.seq its.toArray n }
 |.tup xs=>xs.length<=sizeLine/\∃its:List Value,Vals xs its/\IsTup h a its.toArray
 |.dK kvs=>kvs.length<=sizeLine/\(a==sysModules)=false/\∃vs,KV kvs vs/\h.DictOf (vy P w) a vs
 |.dT kvs=>kvs.length<=sizeLine/\(a==sysModules)=false/\∃xs:List (List Key×Addr×Value),
   Paired (λ(p:List Key×V) (q:List Key×Addr×Value)=>p.1=q.1/\H q.2.1=some (.tup (p.1.map kV))/\RelV p.2 q.2.2) kvs xs/\
   ∃o es ep,h.get? a=some o/\o.ExactDict/\o.data=.dict es ep/\es.toList=xs.map (entryOfKey (tupleKind (vy P w)))/\(xs.map (·.1)).Nodup
 |.set S n=>h.SetOf (intKind P w) a S n
 |.ins C dx fs=>H dx=some (.own a)/\fs.length<=1000/\dx≠a/\h.get? a=some (PySem.W.instObj C dx)/\
   ∃mA,h.Ns1 dx mA/\(∀f,vz (fs.lookup f) (mA f))/\PySem.Within mA (fs.map (·.1))
 |.own _=>∃o,h.get? a=some o
 |.xd fs=>∃mA,h.Ns1 a mA/\∀f,vz (fs.lookup f) (mA f)
 |.rng lo hi=>∃t u v,h.get? a=some { cls:=.type "range",data:=.fields #[.int lo t,.int hi u,.int 1 v] }
 |.frz o u=>h.get? a=some o/\ObjOk H h a u
 |.tbl ps=>h.get? a=some { cls:=.none,data:=.fields ps }
 |.met f x=>h.get? a=some (PySem.W.methodObj (.ref f) (.ref x))
 |.ext φ=>φ h/\(∃o,h.get? a=some o)/\∀h1 h2:Heap,φ h1->(∀o,h1.get? a=some o->h2.get? a=some o)->φ h2
def HOk(H:Hp)(h:Heap):Prop:=∀a o,H a=some o->ObjOk P w H h a o
end
section
variable {P:Program} {w:World} {H H':Hp} {h h':Heap} {a:Addr} {o:HO}
theorem ObjOk.lt(x:ObjOk P w H h a o):a < h.objs.size:=by
 cases o with
 |lst xs=>obtain ⟨_,_,_,_,e⟩:=x;exact aS e
 |tup xs=>obtain ⟨_,_,_,p⟩:=x;exact p.lt
 |dK kvs=>obtain ⟨_,_,_,_,o,_,_,e,_⟩:=x;exact aS e
 |dT kvs=>obtain ⟨_,_,_,_,o,_,_,e,_⟩:=x;exact aS e
 |set S n=>obtain ⟨o,_,_,_,e,_⟩:=x;exact aS e
 |ins C dx fs=>obtain ⟨_,_,_,e,_⟩:=x;exact aS e
 |own y=>obtain ⟨_,e⟩:=x;exact aS e
 |xd fs=>obtain ⟨_,⟨_,_,_,e,_⟩,_⟩:=x;exact aS e
 |rng lo hi=>obtain ⟨_,_,_,e⟩:=x;exact aS e
 |frz ob u=>obtain ⟨e,_⟩:=x;exact aS e
 |tbl ps=>exact aS (show h.get? a=some _ from x)
 |met f y=>exact aS (show h.get? a=some _ from x)
 |ext φ=>obtain ⟨_,⟨_,e⟩,_⟩:=x;exact aS e
theorem Paired.mapP{α β:Type}{F G:α->β->Prop}:∀{l₁:List α}{l₂:List β},Paired F l₁ l₂->(∀a b,F a b->G a b)->Paired G l₁ l₂
 |_,_,.nil,_=>.nil
 |_,_,.cons r t,f=>.cons (f _ _ r) (Paired.mapP t f)
theorem ObjOk.stay(x:ObjOk P w H h a o)(k:∀b u,(b=a\/H b=some (.own a))->h.get? b=some u->h'.get? b=some u)
  (ho:∀b,H b=some (.own a)->H' b=some (.own a)) (ht:∀b xs,H b=some (.tup xs)->H' b=some (.tup xs)):ObjOk P w H' h' a o:=by
 induction o with
 |lst xs=>obtain ⟨z,its,n,r,e⟩:=x;exact ⟨z,its,n,r,k _ _ (.inl rfl) e⟩
 |tup xs=>obtain ⟨z,its,r,ob,e,c⟩:=x;exact ⟨z,its,r,ob,k _ _ (.inl rfl) e,c⟩
 |dK kvs=>obtain ⟨z,y,vs,r,ob,es,ep,e,c⟩:=x;exact ⟨z,y,vs,r,ob,es,ep,k _ _ (.inl rfl) e,c⟩
 |dT kvs=>
  obtain ⟨z,y,xs,r,ob,es,ep,e,c⟩:=x;exact ⟨z,y,xs,Paired.mapP r λp q z=>⟨z.1,ht _ _ z.2.1,z.2.2⟩,ob,es,ep,k _ _ (.inl rfl) e,c⟩
 |set S n=>obtain ⟨ob,es,ep,t,e,c⟩:=x;exact ⟨ob,es,ep,t,k _ _ (.inl rfl) e,c⟩
 |ins C dx fs=>
  obtain ⟨d,z,ne,e,mA,⟨od,es,ep,e2,c⟩,r⟩:=x;exact ⟨ho _ d,z,ne,k _ _ (.inl rfl) e,mA,⟨od,es,ep,k _ _ (.inr d) e2,c⟩,r⟩
 |own y=>obtain ⟨ob,e⟩:=x;exact ⟨ob,k _ _ (.inl rfl) e⟩
 |xd fs=>obtain ⟨mA,⟨od,es,ep,e,c⟩,r⟩:=x;exact ⟨mA,⟨od,es,ep,k _ _ (.inl rfl) e,c⟩,r⟩
 |rng lo hi=>obtain ⟨t,u,v,e⟩:=x;exact ⟨t,u,v,k _ _ (.inl rfl) e⟩
 |frz ob u ih=>obtain ⟨e,q⟩:=x;exact ⟨k _ _ (.inl rfl) e,ih q⟩
 |tbl ps=>
  have e:h.get? a=some { cls:=.none,data:=.fields ps }:=x;show h'.get? a=some { cls:=.none,data:=.fields ps };exact k a _ (.inl rfl) e
 |met f y=>
  have e:h.get? a=some (PySem.W.methodObj (.ref f) (.ref y)):=x;show h'.get? a=some (PySem.W.methodObj (.ref f) (.ref y));exact k a _ (.inl rfl) e
 |ext φ=>obtain ⟨p,⟨o,e⟩,st⟩:=x;exact ⟨st _ _ p λo q=>k _ _ (.inl rfl) q,⟨o,k _ _ (.inl rfl) e⟩,st⟩
theorem HOk.lt(x:HOk P w H h)(e:H a=some o):a < h.objs.size:=(x a o e).lt
theorem HOk.fresh(x:HOk P w H h)(e:h.objs.size<=a):H a=none:=by
 cases q:H a with
 |none=>rfl
 |some u=>exact absurd (bP (x.lt q) e) (ey _)
theorem HOk.kept(x:HOk P w H h)(k:∀b u,h.get? b=some u->h'.get? b=some u):HOk P w H h':=λa o e=>
 (x a o e).stay (λb u _ q=>k b u q) (λ_ q=>q) λ_ _ q=>q
theorem HOk.laid(x:HOk P w H h)(k:∀b u,h.get? b=some u->h'.get? b=some u)(hp:h.objs.size<=a)(new:ObjOk P w (upd H a o) h' a o):HOk P w (upd H a o) h':=λb u e=>by
 have hn:=x.fresh hp;by_cases hb:b=a
 ·subst hb;rw[fP]at e;cases e;exact new
 ·rw[aP hb]at e;exact (x b u e).stay (λc v _ q=>k c v q) (λc q=>by rw[aP (bN q hn)];exact q) λc xs q=>by rw[aP (bN q hn)];exact q
end
def Rd(H:Hp)(a:Addr)(u:HO):Prop:=H a=some u\/∃o,H a=some (.frz o u)
theorem Rd.ok{P:Program}{w:World}{H:Hp}{h:Heap}{a:Addr}{u:HO}(r:Rd H a u)(x:HOk P w H h):ObjOk P w H h a u:=by
 rcases r with r |⟨o,r⟩
 ·exact x a u r
 ·obtain ⟨_,q⟩:=x a _ r;exact q
noncomputable def Mut:Option HO->Prop
 |some (.lst _)=>True
 |some (.dK _)=>True
 |some (.dT _)=>True
 |some (.set _ _)=>True
 |some (.ins _ _ _)=>True
 |some (.ext _)=>True
 |_=>False
section
variable {P:Program} {w:World} {H:Hp} {h h':Heap} {x e:Addr} {o':HO}
theorem HOk.write(ok:HOk P w H h)(mu:Mut (H x))(he:e=x\/H e=some (.own x))(k:∀b u,b≠e->h.get? b=some u->h'.get? b=some u)(heo:∃u,h'.get? e=some u)
  (new:ObjOk P w (upd H x o') h' x o'):HOk P w (upd H x o') h':=λb u q=>by
 have nown:∀c y,H c=some (.own y)->c≠x:=λc y r z=>by subst z;rw[r]at mu;exact mu
 have ntup:∀c xs,H c=some (.tup xs)->c≠x:=λc xs r z=>by subst z;rw[r]at mu;exact mu
 by_cases hb:b=x
 ·subst hb;rw[fP]at q;cases q;exact new
 ·rw[aP hb]at q;by_cases hbe:b=e
  ·have q':H b=some (.own x):=by
    rcases he with z |z
    ·exact absurd (hbe.trans z) hb
    ·rw[hbe];exact z
   rw[q]at q';cases q';obtain ⟨v,hv⟩:=heo;exact ⟨v,by rw[hbe];exact hv⟩
  ·refine (ok b u q).stay (λc v hc r=>k c v ?_ r) (λc r=>by rw[aP (nown c b r)];exact r) λc xs r=>by rw[aP (ntup c xs r)];exact r
   rcases hc with rfl |hc
   ·exact hbe
   ·rintro rfl;rcases he with z |z
    ·exact nown c b hc z
    ·rw[hc]at z;cases z;exact hb rfl
end
structure Un(fs ex:List Addr)(H H':Hp)(h h':Heap):Prop where
 keep:∀b o,h.get? b=some o->H b=none->b∉fs->b∉ex->h'.get? b=some o
 slot:∀b o,h.get? b=some o->H b=none->b∈fs->b∉ex->∃sl,h'.get? b=some { o with slots:=sl }
 free:∀b o,h.get? b=some o->H b=none->b∉ex->H' b=none
 there:∀b o,h.get? b=some o->b∉ex->∃o',h'.get? b=some o'
 tups:∀b xs,H b=some (.tup xs)->H' b=some (.tup xs)
 frzs:∀b o u,H b=some (.frz o u)->H' b=some (.frz o u)
 tbls:∀b ps,H b=some (.tbl ps)->∃more,H' b=some (.tbl (ps++more))
section
variable {fs fs' ex ex':List Addr} {H H1 H2:Hp} {h h1 h2 h':Heap} {a x e:Addr} {o:HO}
theorem Un.any(u:Un fs ex H H1 h h1){b:Addr}{ob:Obj}(q:h.get? b=some ob)(n:H b=none)(hx:b∉ex):∃sl,h1.get? b=some { ob with slots:=sl }:=by
 by_cases hb:b∈fs
 ·exact u.slot b ob q n hb hx
 ·exact ⟨ob.slots,u.keep b ob q n hb hx⟩
theorem Un.kept(k:∀b u,h.get? b=some u->h'.get? b=some u):Un fs ex H H h h':=
 ⟨λb ob q _ _ _=>k b ob q,λb ob q _ _ _=>⟨ob.slots,k b ob q⟩,λ_ _ _ n _=>n,λb ob q _=>⟨ob,k b ob q⟩,λ_ _ q=>q,λ_ _ _ q=>q,λ_ ps q=>⟨#[],by rw[q];simp⟩⟩
theorem Un.refl:Un fs ex H H h h:=Un.kept λ_ _ q=>q
theorem Un.laid(k:∀b u,h.get? b=some u->h'.get? b=some u)(hp:h.objs.size<=a)(hn:H a=none):Un fs ex H (upd H a o) h h' where
 keep:=λb u q _ _ _=>k b u q
 slot:=λb u q _ _ _=>⟨u.slots,k b u q⟩
 free:=λb u q n _=>by rw[aP (cK (bP (aS q) hp))];exact n
 there:=λb u q _=>⟨u,k b u q⟩
 tups:=λb xs q=>by rw[aP (bN q hn)];exact q
 frzs:=λb u xs q=>by rw[aP (bN q hn)];exact q
 tbls:=λb ps q=>⟨#[],by rw[aP (bN q hn),q];simp⟩
theorem Un.write(mu:Mut (H x))(he:e=x\/H e=some (.own x))(k:∀b u,b≠e->h.get? b=some u->h'.get? b=some u)(heo:∃u,h'.get? e=some u):Un fs ex H (upd H x o) h h':=by
 have hx:∀b,H b=none->b≠x:=λb n z=>by subst z;rw[n]at mu;exact mu
 have hb:∀b,H b=none->b≠e:=λb n z=>by
  subst z;rcases he with r |r
  ·exact hx b n r
  ·rw[n]at r;cases r
 have hm:∀b u,H b=some u->¬Mut (some u)->b≠x:=λb u q nm z=>by subst z;rw[q]at mu;exact nm mu
 refine ⟨λb u q n _ _=>k b u (hb b n) q,λb u q n _ _=>⟨u.slots,k b u (hb b n) q⟩,λb u q n _=>by rw[aP (hx b n)];exact n,λb u q _=>?_,
  λb xs q=>by rw[aP (hm b _ q λz=>z)];exact q,λb u xs q=>by rw[aP (hm b _ q λz=>z)];exact q,λb ps q=>⟨#[],by rw[aP (hm b _ q λz=>z),q];simp⟩⟩
 by_cases hbe:b=e
 ·subst hbe;exact heo
 ·exact ⟨u,k b u hbe q⟩
end
def trk(h:Heap)(H:Hp):List Addr:=(List.range h.objs.size).filter λa=>(H a).isSome
def dz(h:Heap)(H:Hp):Heap:=PySem.W.hideAll h (trk h H)
theorem Uw(h:Heap)(H:Hp):(dz h H).objs.size=h.objs.size:=PySem.W.hideAll_size _ _
theorem Ux{h:Heap}{H:Hp}{b:Addr}{o:Obj}(e:h.get? b=some o)(n:H b=none):(dz h H).get? b=some o:=
 PySem.W.hideAll_get _ e λhm=>by
  have q:(H b).isSome=true:=(dk.mp hm).2;rw[n]at q;simp at q
theorem Uy{h:Heap}{H:Hp}{b:Addr}{o:Obj}(e:(dz h H).get? b=some o):h.get? b=some o/\H b=none:=by
 have e':h.get? b=some o:=PySem.W.of_hideAll (trk h H) e;refine ⟨e',?_⟩;cases q:H b with
 |none=>rfl
 |some x=>
  have hm:b∈trk h H:=dk.mpr ⟨gd.mpr (aS e'),by simp[q]⟩;have z:(dz h H).get? b=none:=PySem.W.hideAll_none (trk h H) hm;rw[z]at e;cases e
noncomputable def Uz(g h:Heap)(L:Addr):List (Addr×Obj):=(List.range h.objs.size).filterMap λa=>if a=L\/(g.get? a).isSome=true then none else (h.get? a).map λo=>(a,o)
def rest(g h:Heap)(L d:Addr):List (Addr×Obj):=(Uz g h L).filter λp=>decide (p.1≠d)
structure Mod(K:PF)(mg:Str->Option Value)(base:Heap):Prop where
 kin:K.In base
 glob:base.Ns mainGlobals mg
 blt:∃mb,base.Ns builtinsNs mb/\∀x:Str,x≠"__name__"->mb x=bootBuiltins x
 nolimit:base.NoLimit
structure Cx where
 prog:Program
 w:World
 K:PF
 mg:Str->Option Value
 base:Heap
 A:Around
 N:List Str
 s₀:Shared
 H₀:Hp
 env:Env
 outer:List Env
 stack:List Env
 ex:List Addr
 fn:Str->Bool
 calm:Bool
 pn:List (Addr×Obj)
 xe:Value->Shared->Prop
def frs(l:List Env):List Addr:=l.filterMap (·.frame)
abbrev Cx.fs(X:Cx):List Addr:=frs X.outer
def Vis(sc:Scope)(x:Str):Prop:=sc.names.lookup x=some .local\/sc.names.lookup x=some .cell\/sc.names.lookup x=some .free
def Loc(sc:Scope)(x:Str):Prop:=sc.names.lookup x=some .local\/sc.names.lookup x=some .cell
def Look(env:Env)(h:Heap)(m:Str->Option Value)(x:Str)(u:Value):Prop:=
 (env.kindOf x=some .local/\m x=some u)\/((env.kindOf x=some .cell\/env.kindOf x=some .free)/\∃c,env.cells.lookup x=some c/\h.IsCell c (some u))
structure Cx.Ok(X:Cx):Prop where
 mod:Mod X.K X.mg X.base
 kind:X.env.scope.kind=.function
 glob:X.env.globals=mainGlobals
 blt:X.env.builtins=builtinsNs
 above:X.s₀.heap.objs.size<=X.env.locals
 inj:∀x y c,X.env.cells.lookup x=some c->X.env.cells.lookup y=some c->x=y
 has:∀x,(X.env.kindOf x=some .cell\/X.env.kindOf x=some .free)->∃c,X.env.cells.lookup x=some c
 cab:∀x c,X.fn x=true->X.env.cells.lookup x=some c->X.s₀.heap.objs.size<=c
 hd:X.calm=true->X.A.handled=none
 frames:X.A.frames=some X.stack
 stk:X.stack=X.outer\/(X.stack=X.env::X.outer/\X.env.frame=some X.env.locals)
 exf:∀b∈X.ex,b≠X.env.locals/\∀x c,X.env.cells.lookup x=some c->c≠b
 bs:∀b o,X.base.get? b=some o->X.s₀.heap.get? b=some o/\X.H₀ b=none
 bsz:X.base.objs.size<=X.s₀.heap.objs.size
 noex:∀b o,X.base.get? b=some o->b∉X.ex
 exfs:∀b∈X.ex,b∉X.fs
 funs:X.s₀.heap.FunFrames X.base X.outer
 frf:∀b∈X.fs,X.H₀ b=none
structure Inv(X:Cx)(pins:List (Addr×Obj))(σ:List (Option V))(H:Hp)(s:Shared):Prop where
 ok:X.Ok
 os:s.os=X.s₀.os
 bare:AllBare s.gens
 base:Un X.fs X.ex X.H₀ H X.s₀.heap s.heap
 loc:∃m,s.heap.Ns X.env.locals m/\∀(i:Nat)(x:Str)(v:V),X.N[i]?=some x->σ[i]?=some (some v)->Vis X.env.scope x->∃u,RelV v u/\Look X.env s.heap m x u
 cell:∀x c,X.env.cells.lookup x=some c->∃v,s.heap.IsCell c v
 free:H X.env.locals=none
 freeC:∀x c,X.env.cells.lookup x=some c->H c=none
 pin:∀p∈X.pn++pins,s.heap.get? p.1=some p.2/\H p.1=none/\p.1≠X.env.locals/\p.1∉X.fs/\∀v,p.2.data≠.cell v
 hok:HOk X.prog X.w H s.heap
 len:σ.length=X.N.length
section
variable {X:Cx} {pins:List (Addr×Obj)} {σ:List (Option V)} {H H':Hp} {s:Shared} {h':Heap}
theorem Cx.Ok.nofr(ok:X.Ok){b:Addr}{o:Obj}(e:X.base.get? b=some o):b∉X.fs:=λhb=>by
 have:=(ok.funs.mem hb).1;rw[e]at this;cases this
theorem Inv.bs(I:Inv X pins σ H s):∀b o,X.base.get? b=some o->s.heap.get? b=some o/\H b=none:=λb o e=>
 ⟨I.base.keep b o (I.ok.bs b o e).1 (I.ok.bs b o e).2 (I.ok.nofr e) (I.ok.noex b o e),I.base.free b o (I.ok.bs b o e).1 (I.ok.bs b o e).2 (I.ok.noex b o e)⟩
theorem Inv.bk(I:Inv X pins σ H s):∀b o,X.base.get? b=some o->s.heap.get? b=some o:=λb o e=>(I.bs b o e).1
theorem Inv.mod(I:Inv X pins σ H s):Mod X.K X.mg X.base:=I.ok.mod
theorem Inv.kIn(I:Inv X pins σ H s):X.K.In s.heap:=I.ok.mod.kin.keeps I.bk
theorem Inv.lt(I:Inv X pins σ H s):X.env.locals < s.heap.objs.size:=let ⟨_,hn,_⟩:=I.loc;hn.lt
theorem Inv.sz(I:Inv X pins σ H s):X.s₀.heap.objs.size<=s.heap.objs.size:=b6 I.ok.above (Nat.le_of_lt I.lt)
theorem Inv.nofs(I:Inv X pins σ H s){a:Addr}(h:s.heap.objs.size<=a):a∉X.fs:=λhb=>by
 obtain ⟨_,o,ho,_⟩:=I.ok.funs.mem hb;exact absurd (bP (aS ho) (b6 I.sz h)) (ey _)
theorem Inv.cne(I:Inv X pins σ H s):∀x c,X.env.cells.lookup x=some c->c≠X.env.locals:=λx c e z=>by
 obtain ⟨v,o,ho,hd⟩:=I.cell x c e;obtain ⟨m,⟨o',es,ep,ho',hd',_⟩,_⟩:=I.loc;rw[z,ho']at ho;cases ho;rw[hd']at hd;cases hd
theorem Inv.funs(I:Inv X pins σ H s):s.heap.FunFrames X.base X.outer:=by
 have all:∀(l:List Env),(∀b∈frs l,b∈X.fs)->X.s₀.heap.FunFrames X.base l->s.heap.FunFrames X.base l:=by
  intro l;induction l with
  |nil=>intro _ _;trivial
  |cons env r ih=>
   intro hs hl;obtain ⟨hk,⟨L,o,hf,hn,ho,hd⟩,hr⟩:=hl;have hL:L∈X.fs:=hs L (by unfold frs;rw[List.filterMap_cons,hf];exact bg);obtain ⟨sl,e⟩:=I.base.slot L o ho (I.ok.frf L hL) hL λz=>I.ok.exfs L z hL;exact ⟨hk,⟨L,_,hf,hn,e,hd⟩,ih (λb hb=>hs b (by unfold frs;rw[List.filterMap_cons,hf];exact ba _ hb)) hr⟩
 exact all X.outer (λ_ hb=>hb) I.ok.funs
theorem Inv.stack(I:Inv X pins σ H s):s.heap.FunFrames X.base X.stack:=by
 rcases I.ok.stk with e |⟨e,hf⟩
 ·rw[e];exact I.funs
 ·rw[e];obtain ⟨m,hn,_⟩:=I.loc;refine .cons (by rw[I.ok.kind];decide) hf hn ?_ I.funs;exact Heap.get?_none_of_le (b6 I.ok.bsz I.ok.above)
theorem Inv.stkSub(I:Inv X pins σ H s):∀b∈frs X.stack,b∈X.env.locals::X.fs:=λb hb=>by
 rcases I.ok.stk with e |⟨e,hf⟩
 ·rw[e]at hb;exact ba _ hb
 ·rw[e]at hb;unfold frs at hb;rw[List.filterMap_cons,hf]at hb;exact hb
theorem Inv.stkFree(I:Inv X pins σ H s):∀b∈frs X.stack,H b=none:=λb hb=>by
 rcases bS.mp (I.stkSub b hb) with e |hb
 ·rw[e];exact I.free
 ·obtain ⟨_,o,ho,_⟩:=I.ok.funs.mem hb;exact I.base.free b o ho (I.ok.frf b hb) λz=>I.ok.exfs b z hb
theorem Inv.step{g':Array GenState}{t':Nat}{d':Drawn}{ch:List Addr}(I:Inv X pins σ H s)
  (hch:∀b∈ch,(b∈X.ex\/X.s₀.heap.objs.size<=b)/\b≠X.env.locals/\(∀x c,X.env.cells.lookup x=some c->c≠b)/\∀p∈X.pn++pins,p.1≠b)
  (keep:∀b o,b≠X.env.locals->b∉X.fs->b∉ch->s.heap.get? b=some o->H b=none->h'.get? b=some o)
  (slot:∀b o,b≠X.env.locals->b∈X.fs->b∉ch->s.heap.get? b=some o->H b=none->∃sl,h'.get? b=some { o with slots:=sl }) (free:∀b o,b∉ch->s.heap.get? b=some o->H b=none->H' b=none)
  (there:∀b o,b∉ch->s.heap.get? b=some o->∃o',h'.get? b=some o')
  (tups:∀b xs,H b=some (.tup xs)->H' b=some (.tup xs)) (frzs:∀b o u,H b=some (.frz o u)->H' b=some (.frz o u)) (tbls:∀b ps,H b=some (.tbl ps)->∃more,H' b=some (.tbl (ps++more)))
  (ns:∀m,s.heap.Ns X.env.locals m->h'.Ns X.env.locals m) (hok:HOk X.prog X.w H' h') (hg:AllBare g'):
  Inv X pins σ H' { s with heap:=h',gens:=g',drawn:=d',toks:=t' }:=by
 have neL:∀b o,X.s₀.heap.get? b=some o->b≠X.env.locals:=λb o e=>cK (bP (aS e) I.ok.above);have neC:∀b o,X.s₀.heap.get? b=some o->b∉X.ex->b∉ch:=λb o e hx hb=>by
  rcases (hch b hb).1 with z |z
  ·exact hx z
  ·exact absurd (bP (aS e) z) (ey _)
 have cellK:∀x c,X.env.cells.lookup x=some c->∀v,s.heap.IsCell c v->h'.IsCell c v:=λx c e v ⟨o,ho,hd⟩=>by
  have nch:c∉ch:=λz=>(hch c z).2.2.1 x c e rfl;by_cases hc:c∈X.fs
  ·obtain ⟨sl,q⟩:=slot c o (I.cne x c e) hc nch ho (I.freeC x c e);exact ⟨_,q,hd⟩
  ·exact ⟨o,keep c o (I.cne x c e) hc nch ho (I.freeC x c e),hd⟩
 refine ⟨I.ok,I.os,hg,⟨λb o e n hb hx=>?_,λb o e n hb hx=>?_,λb o e n hx=>?_,λb o e hx=>?_,λb xs e=>tups b xs (I.base.tups b xs e),λb o xs e=>frzs b o xs (I.base.frzs b o xs e),λb ps e=>?_⟩,?_,λx c e=>?_,?_,λx c e=>?_,λp hp=>?_,hok,I.len⟩
 ·exact keep b o (neL b o e) hb (neC b o e hx) (I.base.keep b o e n hb hx) (I.base.free b o e n hx)
 ·obtain ⟨sl,e1⟩:=I.base.slot b o e n hb hx;obtain ⟨sl',e2⟩:=slot b _ (neL b o e) hb (neC b o e hx) e1 (I.base.free b o e n hx);exact ⟨sl',e2⟩
 ·obtain ⟨o',e1⟩:=I.base.there b o e hx;exact free b o' (neC b o e hx) e1 (I.base.free b o e n hx)
 ·obtain ⟨o',e1⟩:=I.base.there b o e hx;exact there b o' (neC b o e hx) e1
 ·obtain ⟨m1,e1⟩:=I.base.tbls b ps e;obtain ⟨m2,e2⟩:=tbls b _ e1;exact ⟨m1++m2,by rw[e2,Array.append_assoc]⟩
 ·obtain ⟨m,hn,hl⟩:=I.loc;refine ⟨m,ns m hn,λi x v e1 e2 e3=>?_⟩;obtain ⟨u,r,l⟩:=hl i x v e1 e2 e3;refine ⟨u,r,?_⟩;rcases l with l |⟨k,c,e,z⟩
  ·exact .inl l
  ·exact .inr ⟨k,c,e,cellK x c e _ z⟩
 ·obtain ⟨v,z⟩:=I.cell x c e;exact ⟨v,cellK x c e v z⟩
 ·obtain ⟨m,⟨o,_,_,ho,_⟩,_⟩:=I.loc;exact free _ o (λz=>(hch _ z).2.1 rfl) ho I.free
 ·obtain ⟨v,o,ho,hd⟩:=I.cell x c e;exact free c o (λz=>(hch c z).2.2.1 x c e rfl) ho (I.freeC x c e)
 ·obtain ⟨e,n,ne,nf,d⟩:=I.pin p hp;have nch:p.1∉ch:=λz=>(hch p.1 z).2.2.2 p hp rfl;exact ⟨keep p.1 p.2 ne nf nch e n,free p.1 p.2 nch e n,ne,nf,d⟩
theorem Inv.un{t':Nat}(I:Inv X pins σ H s)(u:Un X.fs [] H H' s.heap h')(hok:HOk X.prog X.w H' h'):Inv X pins σ H' { s with heap:=h',toks:=t' }:=by
 obtain ⟨m,⟨o,es,ep,ho,r⟩,_⟩:=id I.loc;obtain ⟨sl,hL⟩:=u.any ho I.free (by simp);exact I.step (g':=s.gens) (d':=s.drawn) (ch:=[]) (λ_ z=>nomatch z) (λb o _ hb _ e n=>u.keep b o e n hb (by simp)) (λb o _ hb _ e n=>u.slot b o e n hb (by simp)) (λb o _ e n=>u.free b o e n (by simp)) (λb o _ e=>u.there b o e (by simp)) u.tups u.frzs u.tbls (λm' hm=>by
  obtain ⟨o',es',ep',ho',r'⟩:=hm;rw[ho]at ho';cases ho';exact ⟨_,es',ep',hL,r'⟩) hok I.bare
theorem Inv.call{g':Array GenState}{t':Nat}{d':Drawn}{ch:List Addr}(I:Inv X pins σ H s)(u:Un (frs X.stack) ch H H' s.heap h')(hok:HOk X.prog X.w H' h')(hg:AllBare g')
  (hch:∀b∈ch,(b∈X.ex\/X.s₀.heap.objs.size<=b)/\b≠X.env.locals/\(∀x c,X.env.cells.lookup x=some c->c≠b)/\∀p∈X.pn++pins,p.1≠b):
  Inv X pins σ H' { s with heap:=h',gens:=g',drawn:=d',toks:=t' }:=by
 obtain ⟨m,⟨o,es,ep,ho,r⟩,_⟩:=id I.loc;obtain ⟨sl,hL⟩:=u.any ho I.free λz=>(hch _ z).2.1 rfl;exact I.step (ch:=ch) hch (λb o hL hb hc e n=>u.keep b o e n (λz=>(bS.mp (I.stkSub b z)).elim hL hb) hc) (λb o _ _ hc e n=>u.any e n hc) (λb o hc e n=>u.free b o e n hc) (λb o hc e=>u.there b o e hc) u.tups u.frzs u.tbls (λm' hm=>by
  obtain ⟨o',es',ep',ho',r'⟩:=hm;rw[ho]at ho';cases ho';exact ⟨_,es',ep',hL,r'⟩) hok hg
theorem Inv.turned{t':Nat}{it:Addr}(I:Inv X pins σ H s)(k:∀b o,b≠it->s.heap.get? b=some o->h'.get? b=some o)(hn:H it=none)(hL:it≠X.env.locals)
  (h1:it∈X.ex\/X.s₀.heap.objs.size<=it) (h2:∀x c,X.env.cells.lookup x=some c->c≠it) (h3:∀p∈X.pn++pins,p.1≠it):Inv X pins σ H { s with heap:=h',toks:=t' }:=by
 have nit:∀b u,H b=some u->b≠it:=λb u e z=>by rw[z,hn]at e;cases e
 refine I.step (g':=s.gens) (d':=s.drawn) (ch:=[it]) (λb hb=>?_) (λb o _ _ hc e _=>k b o (λz=>hc (by simp[z])) e) (λb o _ _ hc e _=>⟨o.slots,k b o (λz=>hc (by simp[z])) e⟩) (λ_ _ _ _ n=>n)
  (λb o hc e=>⟨o,k b o (λz=>hc (by simp[z])) e⟩) (λ_ _ e=>e) (λ_ _ _ e=>e) (λb ps e=>⟨#[],by rw[e];simp⟩) (λm hm=>?_) (λb u e=>?_) I.bare
 ·have e:b=it:=by simpa using hb
  subst e;exact ⟨h1,hL,h2,h3⟩
 ·obtain ⟨o,es,ep,ho,r⟩:=hm;exact ⟨o,es,ep,k _ o (Ne.symm hL) ho,r⟩
 ·refine (I.hok b u e).stay (λc v hc q=>k c v ?_ q) (λ_ q=>q) λ_ _ q=>q;rcases hc with z |z
  ·rw[z];exact nit b u e
  ·exact nit c _ z
theorem Inv.tok(I:Inv X pins σ H s)(t:Nat):Inv X pins σ H { s with toks:=t }:=I.un (h':=s.heap) (t':=t) Un.refl I.hok
theorem Inv.kept{t':Nat}(I:Inv X pins σ H s)(k:∀b u,s.heap.get? b=some u->h'.get? b=some u):Inv X pins σ H { s with heap:=h',toks:=t' }:=I.un (Un.kept k) (I.hok.kept k)
theorem Inv.laid{a:Addr}{o:HO}{t':Nat}(I:Inv X pins σ H s)(k:∀b u,s.heap.get? b=some u->h'.get? b=some u)(hp:s.heap.objs.size<=a)(new:ObjOk X.prog X.w (upd H a o) h' a o):
  Inv X pins σ (upd H a o) { s with heap:=h',toks:=t' }:=I.un (Un.laid k hp (I.hok.fresh hp)) (I.hok.laid k hp new)
theorem Inv.write{x e:Addr}{o:HO}{t':Nat}(I:Inv X pins σ H s)(mu:Mut (H x))(he:e=x\/H e=some (.own x))(k:∀b u,b≠e->s.heap.get? b=some u->h'.get? b=some u)(heo:∃u,h'.get? e=some u)
  (new:ObjOk X.prog X.w (upd H x o) h' x o):Inv X pins σ (upd H x o) { s with heap:=h',toks:=t' }:=I.un (Un.write mu he k heo) (I.hok.write mu he k heo new)
theorem Inv.pins_of{pins':List (Addr×Obj)}(I:Inv X pins σ H s)(h:∀p∈pins',s.heap.get? p.1=some p.2/\H p.1=none/\p.1≠X.env.locals/\p.1∉X.fs/\∀v,p.2.data≠.cell v):Inv X pins' σ H s:=
 ⟨I.ok,I.os,I.bare,I.base,I.loc,I.cell,I.free,I.freeC,λp hp=>(bn.mp hp).elim (λz=>I.pin p (eW _ z)) (h p),I.hok,I.len⟩
theorem Bj{N:List Str}(hN:N.Nodup){i j:Nat}{x:Str}(a:N[i]?=some x)(b:N[j]?=some x):i=j:=by obtain ⟨h1,e1⟩:=ah.mp a;obtain ⟨h2,e2⟩:=ah.mp b;exact (List.getElem_inj hN).mp (e1.trans e2.symm)
theorem UG{M:Model}{A:Around}{E:Value->Shared->Prop}{i:Nat}{x:Str}{v:V}{u:Value}{Q:Unit->Shared->Prop}(I:Inv X pins σ H s)(hN:X.N.Nodup)(hi:X.N[i]?=some x)(hx:Loc X.env.scope x)(r:RelV v u)
  (h:∀s',Inv X pins (σ.set i (some v)) H s'->(∃a,Heap.SameBut a s.heap s'.heap/\(a=X.env.locals\/X.env.cells.lookup x=some a))->Q () s') (hf:X.fn x=true\/X.env.scope.names.lookup x=some .local:=by first |exact .inl rfl |exact .inr rfl |assumption):wpAny M A (storeName X.env x u) Q E s:=by
 obtain ⟨m,hn,hl⟩:=id I.loc;have hcls:(X.env.scope.kind==.class||(X.env.scope.kind==.module&&X.env.locals != X.env.globals))=false:=by rw[I.ok.kind];rfl
 have hiσ:i < σ.length:=by rw[I.len];exact (ah.mp hi).1
 have cne:=I.cne;have tracked:∀{a:Addr}{h':Heap},(∃o,s.heap.get? a=some o/\H a=none)->Heap.SameBut a s.heap h'->HOk X.prog X.w H h':=λ{a h'} ha hs b ob e=>by
  obtain ⟨_,_,hfree⟩:=ha;refine (I.hok b ob e).stay (λc w' hc q=>(hs.2 c ?_).trans q) (λ_ q=>q) λ_ _ q=>q;rintro rfl;rcases hc with rfl |hc
  ·rw[hfree]at e;cases e
  ·rw[hfree]at hc;cases hc
 rcases hx with hk |hk
 ·refine wpAny_storeName_local hk hn (λh' hn' hs=>?_) hcls;obtain ⟨oL,_,_,hoL,_⟩:=id hn;refine h _ ⟨I.ok,I.os,I.bare,⟨λb o e n hb hx=>?_,λb o e n hb hx=>?_,I.base.free,λb o e hx=>?_,I.base.tups,I.base.frzs,I.base.tbls⟩,⟨_,hn',λj y v' e1 e2 e3=>?_⟩,λy c e=>?_,I.free,I.freeC,λp hp=>?_,tracked ⟨oL,hoL,I.free⟩ hs,by simpa using I.len⟩ ⟨_,hs,.inl rfl⟩
  ·exact (hs.2 b (cK (bP (aS e) I.ok.above))).trans (I.base.keep b o e n hb hx)
  ·obtain ⟨sl,e1⟩:=I.base.slot b o e n hb hx;exact ⟨sl,(hs.2 b (cK (bP (aS e) I.ok.above))).trans e1⟩
  ·obtain ⟨o',e1⟩:=I.base.there b o e hx;exact ⟨o',(hs.2 b (cK (bP (aS e) I.ok.above))).trans e1⟩
  ·by_cases hj:j=i
   ·subst hj;rw[hi]at e1;cases e1;rw[List.getElem?_set_self hiσ]at e2;cases e2;exact ⟨u,r,.inl ⟨hk,by simp⟩⟩
   ·rw[List.getElem?_set_ne (Ne.symm hj)]at e2;obtain ⟨u',r',q⟩:=hl j y v' e1 e2 e3;refine ⟨u',r',?_⟩;rcases q with ⟨k,e⟩ |⟨k,c,e,z⟩
    ·refine .inl ⟨k,?_⟩;have:y≠x:=λe=>hj (Bj hN e1 (e ▸ hi));simp[this,e]
    ·exact .inr ⟨k,c,e,z.sameBut hs (cne y c e)⟩
  ·obtain ⟨w',z⟩:=I.cell y c e;exact ⟨w',z.sameBut hs (cne y c e)⟩
  ·obtain ⟨e,n,ne,nf,d⟩:=I.pin p hp;exact ⟨(hs.2 p.1 ne).trans e,n,ne,nf,d⟩
 ·have hfn:X.fn x=true:=by
   rcases hf with z |z
   ·exact z
   ·rw[z]at hk;cases hk
  obtain ⟨c,hc⟩:=I.ok.has x (.inl hk);obtain ⟨w',z⟩:=I.cell x c hc;refine wpAny_storeName_cell I.ok.kind hk hc z (λh' hc' hs=>?_);obtain ⟨oc,hoc,hocd⟩:=id z;refine h { s with heap:=h' } ⟨I.ok,I.os,I.bare,⟨λb o e n hb hx=>?_,λb o e n hb hx=>?_,I.base.free,λb o e hx=>?_,I.base.tups,I.base.frzs,I.base.tbls⟩,⟨m,hn.sameBut hs (Ne.symm (cne x c hc)),λj y v' e1 e2 e3=>?_⟩,λy c' e=>?_,I.free,I.freeC,λp hp=>?_,tracked ⟨oc,hoc,I.freeC x c hc⟩ hs,by simpa using I.len⟩ ⟨c,hs,.inr hc⟩
  ·exact (hs.2 b (cK (bP (aS e) (I.ok.cab x c hfn hc)))).trans (I.base.keep b o e n hb hx)
  ·obtain ⟨sl,e1⟩:=I.base.slot b o e n hb hx;exact ⟨sl,(hs.2 b (cK (bP (aS e) (I.ok.cab x c hfn hc)))).trans e1⟩
  ·obtain ⟨o',e1⟩:=I.base.there b o e hx;exact ⟨o',(hs.2 b (cK (bP (aS e) (I.ok.cab x c hfn hc)))).trans e1⟩
  ·by_cases hj:j=i
   ·subst hj;rw[hi]at e1;cases e1;rw[List.getElem?_set_self hiσ]at e2;cases e2;exact ⟨u,r,.inr ⟨.inl hk,c,hc,hc'⟩⟩
   ·rw[List.getElem?_set_ne (Ne.symm hj)]at e2;obtain ⟨u',r',q⟩:=hl j y v' e1 e2 e3;refine ⟨u',r',?_⟩;rcases q with q |⟨k,c',e,z'⟩
    ·exact .inl q
    ·refine .inr ⟨k,c',e,z'.sameBut hs ?_⟩;rintro rfl;exact hj (Bj hN e1 (I.ok.inj _ _ _ e hc ▸ hi))
  ·by_cases hcc:c'=c
   ·subst hcc;exact ⟨_,hc'⟩
   ·obtain ⟨w2,z2⟩:=I.cell y c' e;exact ⟨w2,z2.sameBut hs hcc⟩
  ·obtain ⟨e,n,ne,nf,d⟩:=I.pin p hp;refine ⟨(hs.2 p.1 ?_).trans e,n,ne,nf,d⟩;intro q;rw[q,hoc]at e;have q':oc=p.2:=dy e;exact d w' (by rw[<-q'];exact hocd)
theorem qm{M:Model}{A:Around}{E:Value->Shared->Prop}{i:Nat}{x:Str}{v:V}{u:Value}{Q:Unit->Shared->Prop}(I:Inv X pins σ H s)(hN:X.N.Nodup)(hi:X.N[i]?=some x)(hx:Loc X.env.scope x)(r:RelV v u)
  (h:∀s',Inv X pins (σ.set i (some v)) H s'->Q () s') (hf:X.fn x=true\/X.env.scope.names.lookup x=some .local:=by first |exact .inl rfl |exact .inr rfl |assumption):wpAny M A (storeName X.env x u) Q E s:=
 UG I hN hi hx r (λs' I' _=>h s' I') hf
theorem Inv.call'{s':Shared}{ch:List Addr}(I:Inv X pins σ H s)(ho:s'.os=s.os)(u:Un (frs X.stack) ch H H' s.heap s'.heap)(hok:HOk X.prog X.w H' s'.heap)(hg:AllBare s'.gens)
  (hch:∀b∈ch,(b∈X.ex\/X.s₀.heap.objs.size<=b)/\b≠X.env.locals/\(∀x c,X.env.cells.lookup x=some c->c≠b)/\∀p∈X.pn++pins,p.1≠b):Inv X pins σ H' s':=by
 obtain ⟨h',g',d',t',o'⟩:=s';have e:o'=s.os:=ho;subst e;exact I.call (g':=g') (t':=t') (d':=d') u hok hg hch
end
abbrev XK:=Value->Option Addr->Hp->Prop
abbrev St:=List (Option V)
abbrev VK:=V->Hp->Prop
abbrev TE:=St->Hp->VK->Prop
abbrev TT:=St->Hp->(Bool->Hp->Prop)->Prop
abbrev TA:=St->Hp->(List V->Hp->Prop)->Prop
structure Ends where
 nx:St->Hp->Prop
 rt:VK
 bk:St->Hp->Prop:=λ_ _=>False
 ct:St->Hp->Prop:=λ_ _=>False
abbrev TS:=Ends->St->Hp->Prop
def EP(X:Cx)(pins:List (Addr×Obj))(σ:St)(Q:VK)(u:Value)(s':Shared):Prop:=∃v H',Inv X pins σ H' s'/\RelV v u/\Q v H'
def TP(X:Cx)(pins:List (Addr×Obj))(σ:St)(Q:Bool->Hp->Prop)(b:Bool)(s':Shared):Prop:=∃H',Inv X pins σ H' s'/\Q b H'
def AP(X:Cx)(pins:List (Addr×Obj))(σ:St)(Q:List V->Hp->Prop)(us:List Value)(s':Shared):Prop:=∃vs H',Inv X pins σ H' s'/\Vals vs us/\Q vs H'
def SP(X:Cx)(pins:List (Addr×Obj))(D:Ends)(f:Flow)(s':Shared):Prop:=
 match f with
 |.next=>∃σ' H',Inv X pins σ' H' s'/\D.nx σ' H'
 |.brk=>∃σ' H',Inv X pins σ' H' s'/\D.bk σ' H'
 |.cont=>∃σ' H',Inv X pins σ' H' s'/\D.ct σ' H'
 |.ret u=>∃v σ' H',Inv X pins σ' H' s'/\RelV v u/\D.rt v H'
def PE(X:Cx)(e:Expr)(t:TE):Prop:=
 ∀(pins:List (Addr×Obj))(s:Shared)(σ:St)(H:Hp)(Q:VK),Inv X pins σ H s->t σ H Q->wpAny (model X.prog X.w) X.A (eval e X.env) (EP X pins σ Q) X.xe s
def PT(X:Cx)(e:Expr)(t:TT):Prop:=
 ∀(pins:List (Addr×Obj))(s:Shared)(σ:St)(H:Hp)(Q:Bool->Hp->Prop),Inv X pins σ H s->t σ H Q->wpAny (model X.prog X.w) X.A (isTrue e X.env (eval e X.env)) (TP X pins σ Q) X.xe s
def PW(X:Cx)(e:Expr)(t:TT):Prop:=
 ∀(whole:Sem Value)(pins:List (Addr×Obj))(s:Shared)(σ:St)(H:Hp)(Q:Bool->Hp->Prop),Inv X pins σ H s->t σ H Q->wpAny (model X.prog X.w) X.A (isTrue e X.env whole) (TP X pins σ Q) X.xe s
theorem PW.pt{X:Cx}{e:Expr}{t:TT}(h:PW X e t):PT X e t:=h _
def PA(X:Cx)(es:List Expr)(t:TA):Prop:=
 ∀(pos:Pos)(pins:List (Addr×Obj))(s:Shared)(σ:St)(H:Hp)(Q:List V->Hp->Prop),Inv X pins σ H s->t σ H Q->wpAny (model X.prog X.w) X.A (spliced (backTo pos (starEach es X.env))) (AP X pins σ Q) X.xe s
def PS(X:Cx)(st:Stmt)(t:TS):Prop:=
 ∀(pins:List (Addr×Obj))(s:Shared)(σ:St)(H:Hp)(D:Ends),Inv X pins σ H s->t D σ H->wpAny (model X.prog X.w) X.A (exec st X.env) (SP X pins D) X.xe s
def PSs(X:Cx)(st:List Stmt)(t:TS):Prop:=
 ∀(pins:List (Addr×Obj))(s:Shared)(σ:St)(H:Hp)(D:Ends),Inv X pins σ H s->t D σ H->wpAny (model X.prog X.w) X.A (execs st X.env) (SP X pins D) X.xe s
theorem thn{α:Type}{t:Sem α}{Q Q':α->Shared->Prop}{M:Model}{A:Around}{E:Value->Shared->Prop}{s:Shared}(h:wpAny M A t Q E s)(hQ:∀a s,Q a s->Q' a s):wpAny M A t Q' E s:=dc h hQ λ_ _ x=>x
section
variable {X:Cx}
theorem bin{a b:Expr}{ta tb:TE}(ha:PE X a ta)(hb:PE X b tb){pins:List (Addr×Obj)}{s:Shared}{σ:St}{H:Hp}{R:V->V->Hp->Prop}(I:Inv X pins σ H s)(h:ta σ H λx H1=>tb σ H1 λy H2=>R x y H2)
  {α:Type} {Q:α->Shared->Prop} {f:Value->Value->Sem α}
  (hf:∀v u s2 x y H2,Inv X pins σ H2 s2->RelV x v->RelV y u->R x y H2->wpAny (model X.prog X.w) X.A (f v u) Q X.xe s2):
  wpAny (model X.prog X.w) X.A (eval a X.env) (λv s₁=>wpAny (model X.prog X.w) X.A (eval b X.env) (λu s₂=>wpAny (model X.prog X.w) X.A (f v u) Q X.xe s₂) X.xe s₁) X.xe s:=by
 refine thn (ha pins s σ H _ I h) λv s1 ⟨x,H1,I1,r1,q1⟩=>?_;refine thn (hb pins s1 σ H1 _ I1 q1) λu s2 ⟨y,H2,I2,r2,q2⟩=>?_;exact hf v u s2 x y H2 I2 r1 r2 q2
def Bk(i:Nat):TE:=λσ H Q=>∃v,σ[i]?=some (some v)/\Q v H
def tC(v:V):TE:=λ_ H Q=>Q v H
theorem Bl {i:Nat} {x:Str} {pos:Pos} (hN:X.N[i]?=some x) (hv:Vis X.env.scope x) (hd:(x==("__debug__":Str))=false:=by decide) (hcd:(x==("__classdict__":Str))=false:=by decide):PE X (.Name x pos) (Bk i):=by
 intro pins s σ H Q I h;obtain ⟨v,e,h⟩:=h;obtain ⟨m,hn,hl⟩:=I.loc;obtain ⟨u,r,l⟩:=hl i x v hN e hv;have fin:EP X pins σ Q u s:=⟨v,H,I,r,h⟩;rcases l with ⟨hk,hm⟩ |⟨hk,c,hc,hcell⟩
 ·exact wpAny_Name (wpAny_loadName_local I.ok.kind hk hn hm fin) hd
 ·rcases hk with hk |hk
  ·exact wpAny_Name (wpAny_loadName_cell I.ok.kind hk hc hcell fin) hd
  ·exact wpAny_Name (wpAny_loadName_free I.ok.kind hk hc hcell fin hcd) hd
theorem UJ{i j pos}:PE X (.Constant (.int i) j pos) (tC (.int i)):=λ_ _ _ H _ I h=>wpAny_Constant_int ⟨.int i,H,I.tok _,⟨_,rfl⟩,h⟩
theorem UL{b j pos}:PE X (.Constant (.bool b) j pos) (tC (.bl b)):=λ_ _ _ H _ I h=>Constant_bool ⟨.bl b,H,I,rfl,h⟩
theorem UT{j pos}:PE X (.Constant .none j pos) (tC .non):=λ_ _ _ H _ I h=>Constant_none ⟨.non,H,I,rfl,h⟩
theorem Bm{x j pos}:PE X (.Constant (.str x) j pos) (tC (.str x)):=λ_ _ _ H _ I h=>Calls.Constant_str ⟨.str x,H,I.tok _,⟨_,rfl⟩,h⟩
def Gl(X:Cx)(x:Str):Prop:=X.env.kindOf x=some .globalImplicit
theorem vA{E:Value->Shared->Prop}{pins:List (Addr×Obj)}{s:Shared}{σ:St}{H:Hp}{x:Str}{u:Value}{pos:Pos}{Q:Value->Shared->Prop}(I:Inv X pins σ H s)(hg:Gl X x)(hm:X.mg x=some u)(h:Q u s)
  (hd:(x==("__debug__":Str))=false:=by decide):wpAny (model X.prog X.w) X.A (eval (.Name x pos) X.env) Q E s:=
 Calls.Name_function_global I.ok.kind hg (Calls.loadGlobal_global (by rw[I.ok.glob];exact I.mod.glob.keeps I.bk) hm h) hd
theorem fQ{E:Value->Shared->Prop}{pins:List (Addr×Obj)}{s:Shared}{σ:St}{H:Hp}{x:Str}{u:Value}{pos:Pos}{Q:Value->Shared->Prop}(I:Inv X pins σ H s)(hg:Gl X x)(hm:X.mg x=none)(hv:bootBuiltins x=some u)(h:Q u s)
  (hn:x≠"__name__":=by decide) (hd:(x==("__debug__":Str))=false:=by decide):wpAny (model X.prog X.w) X.A (eval (.Name x pos) X.env) Q E s:=by
 obtain ⟨mb,h1,h2⟩:=I.mod.blt;exact Calls.Name_function_global I.ok.kind hg (Calls.loadGlobal_builtin (by rw[I.ok.glob];exact I.mod.glob.keeps I.bk) hm (by rw[I.ok.blt];exact h1.keeps I.bk) ((h2 x hn).trans hv) h) hd
theorem UV {x:Str} {v:V} {u:Value} {pos:Pos} (hg:Gl X x) (hm:X.mg x=some u) (r:RelV v u) (hd:(x==("__debug__":Str))=false:=by decide):PE X (.Name x pos) (tC v):=
 λ_ _ _ H _ I h=>vA I hg hm ⟨v,H,I,r,h⟩ hd
theorem UW {x:Str} {v:V} {u:Value} {pos:Pos} (hg:Gl X x) (hm:X.mg x=none) (hv:bootBuiltins x=some u) (r:RelV v u) (hn:x≠"__name__":=by decide) (hd:(x==("__debug__":Str))=false:=by decide):PE X (.Name x pos) (tC v):=
 λ_ _ _ H _ I h=>fQ I hg hm hv ⟨v,H,I,r,h⟩ hn hd
variable {a b:Expr} {ta tb:TE} {pos:Pos}
variable {tA tB':TT} {rest:List Expr}
def U0(t u:TT):TT:=λσ H Q=>t σ H λc H1=>if c=true then u σ H1 Q else Q false H1
def tOr(t u:TT):TT:=λσ H Q=>t σ H λc H1=>if c=true then Q true H1 else u σ H1 Q
def U3(t:TT):TT:=λσ H Q=>t σ H λc H1=>Q (!c) H1
theorem U4(ha:PT X a tA):PW X (.BoolOp .And [a] pos) tA:=by
 intro wh pins s σ H Q I h;refine isTrue_and (thn (ha pins s σ H Q I h) λc s1 e=>?_);cases c with
 |true=>exact isTrue_and_nil e
 |false=>exact e
theorem U5(ha:PT X a tA):PW X (.BoolOp .Or [a] pos) tA:=by
 intro wh pins s σ H Q I h;refine isTrue_or (thn (ha pins s σ H Q I h) λc s1 e=>?_);cases c with
 |false=>exact isTrue_or_nil e
 |true=>exact e
theorem U6(ha:PT X a tA)(hb:PW X (.BoolOp .And (b::rest) pos) tB'):PW X (.BoolOp .And (a::b::rest) pos) (U0 tA tB'):=by
 intro wh pins s σ H Q I h;refine isTrue_and (thn (ha pins s σ H _ I h) λc s1 ⟨H1,I1,q1⟩=>?_);cases c with
 |true=>exact hb wh pins s1 σ H1 Q I1 q1
 |false=>exact ⟨H1,I1,q1⟩
theorem U7(ha:PT X a tA)(hb:PW X (.BoolOp .Or (b::rest) pos) tB'):PW X (.BoolOp .Or (a::b::rest) pos) (tOr tA tB'):=by
 intro wh pins s σ H Q I h;refine isTrue_or (thn (ha pins s σ H _ I h) λc s1 ⟨H1,I1,q1⟩=>?_);cases c with
 |true=>exact ⟨H1,I1,q1⟩
 |false=>exact hb wh pins s1 σ H1 Q I1 q1
theorem U8(ha:PT X a tA):PT X (.UnaryOp .Not a pos) (U3 tA):=by intro pins s σ H Q I h;exact isTrue_not (ha pins s σ H (λc H1=>Q (!c) H1) I h)
def U9(ta tb:TE):TE:=λσ H Q=>ta σ H λx H1=>∃c,x=.bl c/\if c=true then tb σ H1 Q else Q (.bl false) H1
def Va(ta tb:TE):TE:=λσ H Q=>ta σ H λx H1=>∃c,x=.bl c/\if c=true then Q (.bl true) H1 else tb σ H1 Q
theorem Vb{op}{t:TE}(h:PE X a t):PE X (.BoolOp op [a] pos) t:=λpins s σ H Q I hw=>BoolOp_one (h pins s σ H Q I hw)
theorem Vc(ha:PE X a ta)(hb:PE X (.BoolOp .And (b::rest) pos) tb):PE X (.BoolOp .And (a::b::rest) pos) (U9 ta tb):=by
 intro pins s σ H Q I h;refine BoolOp_and (thn (ha pins s σ H _ I h) λv s1 ⟨x,H1,I1,r1,q1⟩=>?_);obtain ⟨c,rfl,q1⟩:=q1;cases r1;refine eL ?_;cases c with
 |true=>exact hb pins s1 σ H1 Q I1 q1
 |false=>exact ⟨.bl false,H1,I1,rfl,q1⟩
theorem Vd(ha:PE X a ta)(hb:PE X (.BoolOp .Or (b::rest) pos) tb):PE X (.BoolOp .Or (a::b::rest) pos) (Va ta tb):=by
 intro pins s σ H Q I h;refine BoolOp_or (thn (ha pins s σ H _ I h) λv s1 ⟨x,H1,I1,r1,q1⟩=>?_);obtain ⟨c,rfl,q1⟩:=q1;cases r1;refine eL ?_;cases c with
 |false=>exact hb pins s1 σ H1 Q I1 q1
 |true=>exact ⟨.bl true,H1,I1,rfl,q1⟩
def tIf(t:TT)(ta tb:TE):TE:=λσ H Q=>t σ H λc H1=>if c=true then ta σ H1 Q else tb σ H1 Q
theorem Ve{c:Expr}(hc:PT X c tA)(ha:PE X a ta)(hb:PE X b tb):PE X (.IfExp c a b pos) (tIf tA ta tb):=by
 intro pins s σ H Q I h;refine wpAny_IfExp (thn (hc pins s σ H _ I h) λd s1 ⟨H1,I1,q1⟩=>?_);cases d with
 |true=>exact ha pins s1 σ H1 Q I1 q1
 |false=>exact hb pins s1 σ H1 Q I1 q1
end
def SqL(K:PF)(H:Hp)(a:Addr)(xs:List V):Prop:=
 Rd H a (.lst xs)\/
  ∃(o:Obj) (its:Array Value) (n:Nat),K.lookup a=some o/\o.cls=.type "list"/\o.dict=none/\o.data=.seq its n/\its.size<=sizeLine/\Vals xs its.toList
def SqT(K:PF)(H:Hp)(a:Addr)(xs:List V):Prop:=
 Rd H a (.tup xs)\/
  ∃(o:Obj) (its:Array Value) (n:Nat),K.lookup a=some o/\o.cls=.type "tuple"/\o.data=.seq its n/\its.size<=sizeLine/\Vals xs its.toList
noncomputable def Vf:Value->Option V
 |.none=>some .non
 |.bool b=>some (.bl b)
 |.int i _=>some (.int i)
 |.str x _=>some (.str x)
 |.bytes b _=>some (.byt b)
 |.float b _=>some (.flt b)
 |.ref a=>some (.ref a)
 |.type n=>some (.ty n)
 |_=>none
theorem RelV.abs{x:V}{u:Value}(r:RelV x u):Vf u=some x:=by
 cases x with
 |non=>cases r;rfl
 |bl _=>cases r;rfl
 |int _=>obtain ⟨t,rfl⟩:=r;rfl
 |str _=>obtain ⟨t,rfl⟩:=r;rfl
 |byt _=>obtain ⟨t,rfl⟩:=r;rfl
 |flt _=>obtain ⟨t,rfl⟩:=r;rfl
 |ref _=>cases r;rfl
 |ty _=>cases r;rfl
theorem RelV.inj{x y:V}{u:Value}(r:RelV x u)(q:RelV y u):x=y:=dy (r.abs.symm.trans q.abs)
theorem Vals.inj:∀{xs ys:List V}{us:List Value},Vals xs us->Vals ys us->xs=ys
 |_,_,_,.nil,.nil=>rfl
 |_,_,_,.cons r t,.cons r' t'=>by rw[r.inj r',Vals.inj t t']
section
variable {X:Cx} {pins:List (Addr×Obj)} {σ:St} {H:Hp} {s:Shared} {a:Addr} {xs ys:List V}
theorem SqL.of{K:PF}(h:H a=some (.lst xs)):SqL K H a xs:=.inl (.inl h)
theorem SqT.of{K:PF}(h:H a=some (.tup xs)):SqT K H a xs:=.inl (.inl h)
theorem Inv.list(I:Inv X pins σ H s)(h:SqL X.K H a xs):∃its:List Value,Vals xs its/\PlainL s.heap a its.toArray/\xs.length<=sizeLine:=by
 rcases h with h |⟨o,its,n,hk,hc,hd,hs,hz,r⟩
 ·obtain ⟨z,its,n,r,e⟩:=h.ok I.hok;exact ⟨its,r,⟨_,n,e,rfl,rfl,rfl⟩,z⟩
 ·refine ⟨its.toList,r,⟨o,n,I.kIn a o hk,hc,hd,by simpa using hs⟩,?_⟩;have e:=r.length;simp only[d5]at e;omega
theorem Inv.tuple(I:Inv X pins σ H s)(h:SqT X.K H a xs):∃its:List Value,Vals xs its/\IsTup s.heap a its.toArray/\xs.length<=sizeLine:=by
 rcases h with h |⟨o,its,n,hk,hc,hs,hz,r⟩
 ·obtain ⟨z,its,r,p⟩:=h.ok I.hok;exact ⟨its,r,p,z⟩
 ·refine ⟨its.toList,r,⟨o,I.kIn a o hk,hc,n,by simpa using hs⟩,?_⟩;have e:=r.length;simp only[d5]at e;omega
theorem Inv.list_inj(I:Inv X pins σ H s)(h:SqL X.K H a xs)(h':SqL X.K H a ys):xs=ys:=by
 obtain ⟨its,r,⟨o,n,e,_,_,d⟩,_⟩:=I.list h;obtain ⟨its',r',⟨o',n',e',_,_,d'⟩,_⟩:=I.list h';rw[e]at e';cases e';rw[d]at d';injection d' with d1 _;have:its=its':=by simpa using eA Array.toList d1
 subst this;exact r.inj r'
theorem Inv.tuple_inj(I:Inv X pins σ H s)(h:SqT X.K H a xs)(h':SqT X.K H a ys):xs=ys:=by
 obtain ⟨its,r,⟨o,e,_,n,d⟩,_⟩:=I.tuple h;obtain ⟨its',r',⟨o',e',_,n',d'⟩,_⟩:=I.tuple h';rw[e]at e';cases e';rw[d]at d';injection d' with d1 _;have:its=its':=by simpa using eA Array.toList d1
 subst this;exact r.inj r'
end
abbrev Cx.wish(X:Cx)(E:Value->Shared->Prop):Cx:={ X with xe:=E }
abbrev Cx.nox(X:Cx):Cx:=X.wish λ_ _=>False
theorem Cx.Ok.wish{X:Cx}(ok:X.Ok)(E:Value->Shared->Prop):(X.wish E).Ok:=
 ⟨ok.mod,ok.kind,ok.glob,ok.blt,ok.above,ok.inj,ok.has,ok.cab,ok.hd,ok.frames,ok.stk,ok.exf,ok.bs,ok.bsz,ok.noex,ok.exfs,ok.funs,ok.frf⟩
theorem Cx.Ok.unwish{X:Cx}{E:Value->Shared->Prop}(ok:(X.wish E).Ok):X.Ok:=
 ⟨ok.mod,ok.kind,ok.glob,ok.blt,ok.above,ok.inj,ok.has,ok.cab,ok.hd,ok.frames,ok.stk,ok.exf,ok.bs,ok.bsz,ok.noex,ok.exfs,ok.funs,ok.frf⟩
section
variable {X:Cx} {pins:List (Addr×Obj)} {σ:St} {H:Hp} {s:Shared} {E:Value->Shared->Prop}
theorem Inv.wish(I:Inv X pins σ H s)(E:Value->Shared->Prop):Inv (X.wish E) pins σ H s:=⟨I.ok.wish E,I.os,I.bare,I.base,I.loc,I.cell,I.free,I.freeC,I.pin,I.hok,I.len⟩
theorem Inv.unwish(I:Inv (X.wish E) pins σ H s):Inv X pins σ H s:=⟨I.ok.unwish,I.os,I.bare,I.base,I.loc,I.cell,I.free,I.freeC,I.pin,I.hok,I.len⟩
theorem SP.unwish{D:Ends}{f:Flow}{s':Shared}(h:SP (X.wish E) pins D f s'):SP X pins D f s':=by
 cases f with
 |next=>obtain ⟨σ',H',I,q⟩:=h;exact ⟨σ',H',I.unwish,q⟩
 |brk=>obtain ⟨σ',H',I,q⟩:=h;exact ⟨σ',H',I.unwish,q⟩
 |cont=>obtain ⟨σ',H',I,q⟩:=h;exact ⟨σ',H',I.unwish,q⟩
 |ret u=>obtain ⟨v,σ',H',I,r,q⟩:=h;exact ⟨v,σ',H',I.unwish,r,q⟩
theorem PSs.nox{st:List Stmt}{t:TS}(h:PSs X.nox st t):PSs X st t:=λpins s σ H D I hw=>
 dc (h pins s σ H D (I.wish _) hw) (λ_ _ q=>q.unwish) λ_ _ z=>False.elim z
end
section
variable {X:Cx} {st:Stmt} {rest:List Stmt} {t u:TS} {e:Expr} {te:TE} {pos:Pos}
def Bo:TS:=λD σ H=>D.nx σ H
def Vg(t u:TS):TS:=λD σ H=>t { D with nx:=u D } σ H
theorem Vh:PSs X [] Bo:=λ_ _ σ H _ I h=>wpAny_execs_nil ⟨σ,H,I,h⟩
theorem Vi(h1:PS X st t)(h2:PSs X rest u):PSs X (st::rest) (Vg t u):=by
 intro pins s σ H D I h;refine wpAny_execs_cons (thn (h1 pins s σ H { D with nx:=u D } I h) λf s1 q=>?_);cases f with
 |next=>
  obtain ⟨σ',H',I',q⟩:=q;exact h2 pins s1 σ' H' D I' q
 |ret v=>exact q
 |brk=>exact q
 |cont=>exact q
def Vj:TS:=λD σ H=>D.bk σ H
def Vk:TS:=λD σ H=>D.ct σ H
theorem Vl:PS X (.Pass pos) Bo:=λ_ _ σ H _ I h=>wpAny_Pass ⟨σ,H,I,h⟩
theorem Vm:PS X (.Break pos) Vj:=λ_ _ σ H _ I h=>wpAny_Break ⟨σ,H,I,h⟩
theorem Vn:PS X (.Continue pos) Vk:=λ_ _ σ H _ I h=>wpAny_Continue ⟨σ,H,I,h⟩
theorem Inv.quiet{pins:List (Addr×Obj)}{σ:St}{H:Hp}{s:Shared}(I:Inv X pins σ H s):interactive X.env=false:=by simp[interactive,I.ok.kind]
def Vo(te:TE):TS:=λD σ H=>te σ H λ_ H1=>D.nx σ H1
theorem Vp(he:PE X e te)(hs:swapsWith e none pos.line X.env=pure false:=by rfl):PS X (.Expr e pos) (Vo te):=by intro pins s σ H D I h;exact wpAny_Expr_any (thn (he pins s σ H _ I h) λv s1 ⟨x,H1,I1,r1,q1⟩=>⟨σ,H1,I1,q1⟩) I.quiet hs
def Bp(te:TE):TS:=λD σ H=>te σ H D.rt
theorem Vq(he:PE X e te):PS X (.Return (some e) pos) (Bp te):=by intro pins s σ H D I h;exact wpAny_Return_some (thn (he pins s σ H _ I h) λv s1 ⟨x,H1,I1,r1,q1⟩=>⟨x,σ,H1,I1,r1,q1⟩)
def Vr:TS:=λD _ H=>D.rt .non H
theorem Vs:PS X (.Return none pos) Vr:=λ_ _ σ H _ I h=>wpAny_Return_none ⟨.non,σ,H,I,rfl,h⟩
def Vt(c:TT)(t u:TS):TS:=λD σ H=>c σ H λb H1=>if b=true then t D σ H1 else u D σ H1
theorem Vu{c:Expr}{a b:List Stmt}{tc:TT}(hc:PT X c tc)(ha:PSs X a t)(hb:PSs X b u):PS X (.If c a b pos) (Vt tc t u):=by
 intro pins s σ H D I h;refine wpAny_If (thn (hc pins s σ H _ I h) λd s1 ⟨H1,I1,q1⟩=>?_);cases d with
 |true=>exact ha pins s1 σ H1 D I1 q1
 |false=>exact hb pins s1 σ H1 D I1 q1
def Vv:TS:=λ_ _ _=>False
theorem Vw:PS X st Vv:=λ_ _ _ _ _ _ h=>h.elim
end
abbrev TG:=V->St->Hp->(St->Hp->Prop)->Prop
abbrev TGs:=List V->St->Hp->(St->Hp->Prop)->Prop
def PG(X:Cx)(target:Expr)(t:TG):Prop:=
 ∀(pins:List (Addr×Obj))(s:Shared)(σ:St)(H:Hp)(v:V)(u:Value)(Q:St->Hp->Prop),Inv X pins σ H s->RelV v u->t v σ H Q->
  wpAny (model X.prog X.w) X.A (assign target X.env u) (λ_ s'=>∃σ' H',Inv X pins σ' H' s'/\Q σ' H') X.xe s
def PGs(X:Cx)(ts:List Expr)(t:TGs):Prop:=
 ∀(pins:List (Addr×Obj))(s:Shared)(σ:St)(H:Hp)(vs:List V)(us:List Value)(Q:St->Hp->Prop),Inv X pins σ H s->Vals vs us->t vs σ H Q->
  wpAny (model X.prog X.w) X.A (assignInOrder ((assignEach ts X.env).map (·.2)) us) (λ_ s'=>∃σ' H',Inv X pins σ' H' s'/\Q σ' H') X.xe s
abbrev vB:=V->V->V->Hp->(Hp->Prop)->Prop
def vC(X:Cx)(t:vB):Prop:=
 ∀(pins:List (Addr×Obj))(s:Shared)(σ:St)(H:Hp)(o i v:V)(ov iv u:Value)(Q:Hp->Prop),Inv X pins σ H s->RelV o ov->RelV i iv->RelV v u->t o i v H Q->
  wpAny (model X.prog X.w) X.A (setItem ov iv u) (λ_ s'=>∃H',Inv X pins σ H' s'/\Q H') X.xe s
abbrev TIp:=V->V->Hp->VK->Prop
def PIp(X:Cx)(op:Operator)(t:TIp):Prop:=
 ∀(pins:List (Addr×Obj))(s:Shared)(σ:St)(H:Hp)(x y:V)(v u:Value)(Q:VK),Inv X pins σ H s->RelV x v->RelV y u->t x y H Q->
  wpAny (model X.prog X.w) X.A (inplaceOp op v u) (EP X pins σ Q) X.xe s
section
variable {X:Cx} {pos:Pos}
def qp(i:Nat):TG:=λv σ H Q=>Q (σ.set i (some v)) H
theorem Vx{i:Nat}{x:Str}(hN:X.N.Nodup)(hi:X.N[i]?=some x)(hx:Loc X.env.scope x)(hf:X.fn x=true\/X.env.scope.names.lookup x=some .local:=by first |exact .inl rfl |exact .inr rfl |assumption):PG X (.Name x pos) (qp i):=by intro pins s σ H v u Q I r h;exact wpAny_assign_Name (qm I hN hi hx r (λs' I'=>⟨_,H,I',h⟩) hf)
def Vy:TGs:=λvs σ H Q=>vs=[]/\Q σ H
def Vz(t:TG)(u:TGs):TGs:=λvs σ H Q=>∃v r,vs=v::r/\t v σ H λσ' H'=>u r σ' H' Q
theorem VB:PGs X [] Vy:=by intro pins s σ H vs us Q I r h;obtain ⟨e,h⟩:=h;subst e;cases r;exact assignInOrder_nil ⟨σ,H,I,h⟩
theorem VD{e:Expr}{es:List Expr}{t:TG}{u:TGs}(h1:PG X e t)(h2:PGs X es u)
  (hs:(assignEach (e::es) X.env).map (·.2)=assign e X.env::(assignEach es X.env).map (·.2):=by rfl):PGs X (e::es) (Vz t u):=by
 intro pins s σ H vs us Q I r h;obtain ⟨v,vr,e1,h⟩:=h;subst e1;cases r with
 |cons r rr=>
  rw[hs];refine assignInOrder_cons (thn (h1 pins s σ H _ _ _ I r h) λ_ s1 ⟨σ1,H1,I1,q1⟩=>?_);exact h2 pins s1 σ1 H1 _ _ Q I1 rr q1
def VF(K:PF)(n:Nat)(t:TGs):TG:=λv σ H Q=>∃a xs,v=.ref a/\SqT K H a xs/\xs.length=n/\t xs σ H Q
theorem VG{es:List Expr}{k:Nat}{t:TGs}{n:Nat}(hc:X.calm=true)(h:PGs X es t)
  (hn:(assignEach es X.env).length=n:=by rfl) (hst:(assignEach es X.env).findIdx? (·.1)=none:=by rfl):PG X (.Tuple es k pos) (VF X.K n t):=by
 intro pins s σ H v u Q I r hw;obtain ⟨a,xs,e1,hq,hl,hw⟩:=hw;subst e1;cases r;obtain ⟨its,rv,ht,hz⟩:=I.tuple hq;refine assign_Tuple_tuple (I.ok.hd hc) ht (by simp[hn,<-hl,rv.length]) hst λh' hx=>?_;have I1:Inv X pins σ H { s with heap:=h' }:=I.kept (t':=s.toks) λb o e=>hx b o (cK (aS e)) e;exact h pins _ σ H xs _ Q I1 (by simpa using rv) hw
def VH(to ti:TE)(t:vB):TG:=λv σ H Q=>to σ H λo H1=>ti σ H1 λi H2=>t o i v H2 λH3=>Q σ H3
theorem VJ{o i:Expr}{to ti:TE}{t:vB}(ho:PE X o to)(hi:PE X i ti)(hs:vC X t)
  (ha:∀v,assign (.Subscript o i pos) X.env v=(do
   let ov <-holding [v] (eval o X.env)
   let iv <-holding [v,ov] (eval i X.env)
   standAt pos
   holding [v,ov,iv] (setItem ov iv v)
   release [v,ov,iv] []):=by intro _;rfl):PG X (.Subscript o i pos) (VH to ti t):=by
 intro pins s σ H v u Q I r h;rw[ha];refine al (eR (thn (ho pins s σ H _ I h) λov s1 ⟨x,H1,I1,r1,q1⟩=>?_));refine al (eR (thn (hi pins s1 σ H1 _ I1 q1) λiv s2 ⟨y,H2,I2,r2,q2⟩=>?_));refine al (gu (al (eR (thn (hs pins s2 σ H2 x y v ov iv u _ I2 r1 r2 r q2) λ_ s3 ⟨H3,I3,q3⟩=>?_))));exact wpAny_release ⟨σ,H3,I3,q3⟩
def qt(te:TE)(g:TG):TS:=λD σ H=>te σ H λx H1=>g x σ H1 D.nx
theorem Bq{tg e:Expr}{te:TE}{g:TG}(he:PE X e te)(hg:PG X tg g)(hs:swapsWithSole [tg] e pos.line X.env=pure false:=by rfl)(hw:swappedStores [tg] e X.env=pure none:=by rfl)
  (h1:(assignEach [tg] X.env).map (·.2)=[assign tg X.env]:=by rfl):PS X (.Assign [tg] e pos) (qt te g):=by
 intro pins s σ H D I h;refine wpAny_Assign_stores (thn (he pins s σ H _ I h) λv s1 ⟨x,H1,I1,r1,q1⟩=>?_) hs hw;rw[h1];exact thn (hg pins s1 σ H1 x v _ I1 r1 q1) λ_ s2 q=>q
theorem vD{i:Nat}{x:Str}{e:Expr}{te:TE}{pos':Pos}(hN:X.N.Nodup)(hi:X.N[i]?=some x)(hx:Loc X.env.scope x)(he:PE X e te)(hs:swapsWith e (some (.Name x pos')) pos.line X.env=pure false:=by rfl)(hf:X.fn x=true\/X.env.scope.names.lookup x=some .local:=by first |exact .inl rfl |exact .inr rfl |assumption):
  PS X (.Assign [.Name x pos'] e pos) (qt te (qp i)):=by
 intro pins s σ H D I h;refine wpAny_Assign_Name (thn (he pins s σ H _ I h) λv s1 ⟨y,H1,I1,r1,q1⟩=>?_) hs;exact qm I1 hN hi hx r1 (λs2 I2=>⟨_,H1,I2,q1⟩) hf
def VL(i:Nat)(te:TE)(ti:TIp):TS:=λD σ H=>∃x,σ[i]?=some (some x)/\te σ H λy H1=>ti x y H1 λz H2=>D.nx (σ.set i (some z)) H2
theorem VM{i:Nat}{x:Str}{e:Expr}{te:TE}{op:Operator}{ti:TIp}{pos':Pos}(hN:X.N.Nodup)(hi:X.N[i]?=some x)(hx:Loc X.env.scope x)(he:PE X e te)(ho:PIp X op ti)(hf:X.fn x=true\/X.env.scope.names.lookup x=some .local:=by first |exact .inl rfl |exact .inr rfl |assumption):
  PS X (.AugAssign (.Name x pos') op e pos) (VL i te ti):=by
 intro pins s σ H D I h;obtain ⟨v,e1,h⟩:=h;obtain ⟨m,hn,hl⟩:=I.loc;have vis:Vis X.env.scope x:=by rcases hx with k |k;exact .inl k;exact .inr (.inl k)
 obtain ⟨u,r,l⟩:=hl i x v hi e1 vis;refine wpAny_AugAssign_Name ?_;have go:wpAny (model X.prog X.w) X.A (eval e X.env) (λw s₂=>wpAny (model X.prog X.w) X.A (inplaceOp op u w) (λr s₃=>wpAny (model X.prog X.w) X.A (storeName X.env x r) (λ_=>SP X pins D .next) X.xe s₃) X.xe s₂) X.xe s:=by refine thn (he pins s σ H _ I h) λw s1 ⟨y,H1,I1,r1,q1⟩=>?_;refine thn (ho pins s1 σ H1 v y u w _ I1 r r1 q1) λz s2 ⟨zv,H2,I2,r2,q2⟩=>?_;exact qm I2 hN hi hx r2 (λs3 I3=>⟨_,H2,I3,q2⟩) hf
 rcases l with ⟨hk,hm⟩ |⟨hk,c,hc,hcell⟩
 ·exact wpAny_loadName_local I.ok.kind hk hn hm go
 ·rcases hk with hk |hk
  ·exact wpAny_loadName_cell I.ok.kind hk hc hcell go
  ·rcases hx with k |k
   ·have:X.env.scope.names.lookup x=some .free:=hk;rw[k]at this;cases this
   ·have:X.env.scope.names.lookup x=some .free:=hk;rw[k]at this;cases this
end
section
variable {X:Cx} {pos:Pos}
def VN(c:TT)(tb:TS):TS:=λD σ H=>∃W:Nat->St->Hp->Prop,(∃m,W m σ H)/\∀m σ H,W m σ H->
 c σ H λb H1=>if b=true then ∃N:St->Hp->Prop,(∀σ' H',N σ' H'->∃m',m' < m/\W m' σ' H')/\tb { D with nx:=N,ct:=N,bk:=D.nx } σ H1 else D.nx σ H1
theorem VP{c:Expr}{body:List Stmt}{tc:TT}{tb:TS}(hp:PassesOwn (model X.prog X.w) X.A X.env X.xe)(hc:PT X c tc)(hb:PSs X body tb):PS X (.While c body [] pos) (VN tc tb):=by
 intro pins s σ H D I h;obtain ⟨W,⟨m0,w0⟩,turn⟩:=h;refine wpAny_While (codeAny_whileLoop (λn s'=>∃σ' H',Inv X pins σ' H' s'/\W n σ' H') ?_ m0 ⟨σ,H,I,w0⟩);rintro n s1 ⟨σ1,H1,I1,w1⟩;refine fq hp (thn (hc pins s1 σ1 H1 _ I1 (turn n σ1 H1 w1)) λb s2 ⟨H2,I2,q2⟩=>?_);cases b with
 |true=>
  obtain ⟨N,hN,q2⟩:=q2;rw[if_pos rfl];refine fq hp (thn (hb pins s2 σ1 H2 _ I2 q2) λf s3 q3=>?_);cases f with
  |next=>
   obtain ⟨σ3,H3,I3,n3⟩:=q3;obtain ⟨m',hm,w3⟩:=hN σ3 H3 n3;exact ⟨m',hm,σ3,H3,I3,w3⟩
  |cont=>
   obtain ⟨σ3,H3,I3,n3⟩:=q3;obtain ⟨m',hm,w3⟩:=hN σ3 H3 n3;exact ⟨m',hm,σ3,H3,I3,w3⟩
  |brk=>exact q3
  |ret v=>exact q3
 |false=>
  rw[if_neg a9];exact wpAny_execs_nil ⟨σ1,H2,I2,q2⟩
end
structure It where
 go:Nat->Hp->Prop
 yld:Nat->Hp->V->Hp->Prop
 stop:Nat->Hp->Prop
def dU(X:Cx)(pins:List (Addr×Obj))(H:Hp)(b:Addr):Prop:=
 H b=none/\b≠X.env.locals/\b∉X.fs/\(b∈X.ex\/X.s₀.heap.objs.size<=b)/\(∀x c,X.env.cells.lookup x=some c->c≠b)/\∀p∈X.pn++pins,p.1≠b
theorem Inv.fpOk{X:Cx}{pins:List (Addr×Obj)}{σ:St}{H H':Hp}{s:Shared}{b:Addr}(I:Inv X pins σ H s)(hb:s.heap.objs.size<=b)(hn:H' b=none):dU X pins H' b:=by
 refine ⟨hn,gc (bP I.lt hb),I.nofs hb,.inr (b6 I.sz hb),λx c e z=>?_,λp hp z=>?_⟩
 ·obtain ⟨v,q⟩:=I.cell x c e;exact absurd (bP q.lt (by rw[z];exact hb)) (ey _)
 ·exact absurd (bP (aS (I.pin p hp).1) (by rw[z];exact hb)) (ey _)
structure Turn(P:Program)(w:World)(K:PF)(tg:Expr)(J:It)(fp:List Addr)(it:Addr)(tn:Nat->Heap->Prop):Prop where
 mem:it∈fp
 obj:∀i h,tn i h->∀b∈fp,∃o,h.get? b=some o/\∀v,o.data≠.cell v
 keep:∀i h h',tn i h->(∀b∈fp,∀o,h.get? b=some o->h'.get? b=some o)->tn i h'
 item:∀(X:Cx),X.prog=P->X.w=w->X.K=K->X.calm=true->∀(i:Nat)(pins:List (Addr×Obj))(s:Shared)(σ:St)(H:Hp)(E:Value->Shared->Prop),Inv X pins σ H s->(∀b∈fp,dU X pins H b)->tn i s.heap->J.go i H->
  wpAny (model P w) X.A (pyNext (.ref it)) (λr s1=>∃u,r=some u/\
   wpAny (model P w) X.A (letOwnedTupleGo tg (.ref it) u) (λ_ s2=>∃x H',Inv X pins σ H' s2/\RelV x u/\J.yld i H x H'/\tn (i+1) s2.heap/\∀b∈fp,H' b=none) E s1) E s
 done:∀(X:Cx),X.prog=P->X.w=w->X.K=K->X.calm=true->∀(i:Nat)(pins:List (Addr×Obj))(s:Shared)(σ:St)(H:Hp)(E:Value->Shared->Prop),Inv X pins σ H s->(∀b∈fp,dU X pins H b)->tn i s.heap->J.stop i H->
  wpAny (model P w) X.A (pyNext (.ref it)) (λr s1=>r=none/\Inv X pins σ H s1) E s
 self:∀(A:Around)(i:Nat)(s:Shared)(Q:Value->Shared->Prop)(E:Value->Shared->Prop),tn i s.heap->Q (.ref it) s->wpAny (model P w) A (pyIter (.ref it)) Q E s
abbrev TI:=St->Hp->(It->Hp->Prop)->Prop
def PIE(X:Cx)(pins:List (Addr×Obj))(σ:St)(tg:Expr)(R:It->Hp->Prop)(itv:Value)(s2:Shared):Prop:=
 ∃(it:Addr)(fp:List Addr)(tn:Nat->Heap->Prop)(J:It)(H':Hp),itv=.ref it/\Inv X pins σ H' s2/\Turn X.prog X.w X.K tg J fp it tn/\tn 0 s2.heap/\(∀b∈fp,dU X pins H' b)/\R J H'
def PI(X:Cx)(tg iter:Expr)(wi:TI):Prop:=
 ∀(pins:List (Addr×Obj))(s:Shared)(σ:St)(H:Hp)(R:It->Hp->Prop),Inv X pins σ H s->wi σ H R->
  wpAny (model X.prog X.w) X.A (eval iter X.env) (λv s1=>wpAny (model X.prog X.w) X.A (pyIter v) (PIE X pins σ tg R) X.xe s1) X.xe s
theorem j6{M:Model}{A:Around}{E:Value->Shared->Prop}{s:Shared}{tg:Expr}{it:Addr}{u:Value}{o:Obj}{n:String}{vs:Array Value}{Q:Unit->Shared->Prop}(ho:s.heap.get? it=some o)(hc:o.cls=.type n)(hd:o.data=.fields vs)
  (hn:["enumerate","zip","dict_itemiterator","dict_reverseitemiterator","odict_iterator","itertools.zip_longest","itertools.pairwise"].contains n=false) (hQ:Q () s):wpAny M A (letOwnedTupleGo tg (.ref it) u) Q E s:=by
 unfold letOwnedTupleGo;cases tg <;> first
  |exact bo hQ
  | (cases u <;> first
    |exact bo hQ
    | (refine al (wpAny_load ho ?_)
       rw[hc,hd];show wpAny M A (if (["enumerate","zip","dict_itemiterator","dict_reverseitemiterator","odict_iterator","itertools.zip_longest","itertools.pairwise"].contains n&&vs[0]?==some (rawInt _))=true then _ else _) Q E s;rw[if_neg (by intro h;rw[hn,Bool.false_and]at h;cases h)];exact bo hQ))
def Itl(K:PF)(a:Addr):It:=
 ⟨λi H=>∃xs x,SqL K H a xs/\xs[i]?=some x,λi H x H'=>H'=H/\∀xs,SqL K H a xs->xs[i]?=some x,λi H=>∃xs,SqL K H a xs/\xs.length<=i⟩
def Itt(K:PF)(a:Addr):It:=
 ⟨λi H=>∃xs x,SqT K H a xs/\xs[i]?=some x,λi H x H'=>H'=H/\∀xs,SqT K H a xs->xs[i]?=some x,λi H=>∃xs,SqT K H a xs/\xs.length<=i⟩
def Itr(lo:Int)(n:Nat):It:=⟨λi _=>i < n,λi H x H'=>H'=H/\x=.int (lo+i),λi _=>n<=i⟩
theorem Br{P:Program}{w:World}{K:PF}{tg:Expr}(a it:Addr):Turn P w K tg (Itl K a) [it] it (λi h=>h.IsListIter it a i) where
 mem:=by simp
 obj:=λi h st b hb=>by
  have e:b=it:=by simpa using hb
  subst e;obtain ⟨o,e,c,d⟩:=st;exact ⟨o,e,λv z=>by rw[d]at z;cases z⟩
 keep:=λi h h' st k=>st.at λo e=>k it (by simp) o e
 item:=by intro X hP hw hK hc i pins s σ H E I hf st hg;subst hP hw hK;obtain ⟨xs,x,hq,hx⟩:=hg;obtain ⟨its,rv,p,hz⟩:=I.list hq;obtain ⟨u,hu,ru⟩:=rv.get hx;obtain ⟨f0,f1,f2,f3,f4,f5⟩:=hf it (by simp);refine wpAny_pyNext_list_item st p.isList (x:=u) (by simpa using hu) λh' st' sb=>?_;have I1:Inv X pins σ H { s with heap:=h' }:=I.turned (t':=s.toks) (λb o hb e=>(sb.2 b hb).trans e) f0 f1 f3 f4 f5;obtain ⟨o,e,c,d⟩:=id st';exact ⟨u,rfl,j6 (s:={ s with heap:=h' }) e c d (by decide) ⟨x,H,I1,ru,⟨rfl,λys hy=>by rw[I.list_inj hy hq];exact hx⟩,st',λb hb=>(hf b hb).1⟩⟩
 done:=by intro X hP hw hK hc i pins s σ H E I hf st hg;subst hP hw hK;obtain ⟨xs,hq,hx⟩:=hg;obtain ⟨its,rv,p,hz⟩:=I.list hq;obtain ⟨f0,f1,f2,f3,f4,f5⟩:=hf it (by simp);have hl:=rv.length;exact wpAny_pyNext_list_end (I.ok.hd hc) st p.isList (by simp;omega) λh' eb=>⟨rfl,I.turned (t':=s.toks) (λb o hb e=>eb b o hb e) f0 f1 f3 f4 f5⟩
 self:=λ_ _ _ _ _ st h=>wpAny_pyIter_listiter st h
theorem Bt{P:Program}{w:World}{K:PF}{tg:Expr}(a it:Addr):Turn P w K tg (Itt K a) [it] it (λi h=>h.IsTupleIter it a i) where
 mem:=by simp
 obj:=λi h st b hb=>by
  have e:b=it:=by simpa using hb
  subst e;obtain ⟨o,e,c,d⟩:=st;exact ⟨o,e,λv z=>by rw[d]at z;cases z⟩
 keep:=λi h h' st k=>st.at λo e=>k it (by simp) o e
 item:=by intro X hP hw hK hc i pins s σ H E I hf st hg;subst hP hw hK;obtain ⟨xs,x,hq,hx⟩:=hg;obtain ⟨its,rv,p,hz⟩:=I.tuple hq;obtain ⟨u,hu,ru⟩:=rv.get hx;obtain ⟨f0,f1,f2,f3,f4,f5⟩:=hf it (by simp);refine wpAny_pyNext_tuple_item st (show s.heap.IsTuple a its.toArray from p) (x:=u) (by simpa using hu) λh' st' sb=>?_;have I1:Inv X pins σ H { s with heap:=h' }:=I.turned (t':=s.toks) (λb o hb e=>(sb.2 b hb).trans e) f0 f1 f3 f4 f5;obtain ⟨o,e,c,d⟩:=id st';exact ⟨u,rfl,j6 (s:={ s with heap:=h' }) e c d (by decide) ⟨x,H,I1,ru,⟨rfl,λys hy=>by rw[I.tuple_inj hy hq];exact hx⟩,st',λb hb=>(hf b hb).1⟩⟩
 done:=by intro X hP hw hK hc i pins s σ H E I hf st hg;subst hP hw hK;obtain ⟨xs,hq,hx⟩:=hg;obtain ⟨its,rv,p,hz⟩:=I.tuple hq;obtain ⟨f0,f1,f2,f3,f4,f5⟩:=hf it (by simp);have hl:=rv.length;exact wpAny_pyNext_tuple_end (I.ok.hd hc) st (show s.heap.IsTuple a its.toArray from p) (by simp;omega) λh' eb=>⟨rfl,I.turned (t':=s.toks) (λb o hb e=>eb b o hb e) f0 f1 f3 f4 f5⟩
 self:=λ_ _ _ _ _ st h=>wpAny_pyIter_tupleiter st h
theorem VR{P:Program}{w:World}{K:PF}{tg:Expr}(it:Addr)(lo:Int)(n:Nat):Turn P w K tg (Itr lo n) [it] it (λi h=>IsRangeIter h it (lo+(i:Nat) * 1) ((n:Int) - (i:Nat)) 1) where
 mem:=by simp
 obj:=λi h st b hb=>by
  have e:b=it:=by simpa using hb
  subst e;exact ⟨_,st,λv z=>by
   have z':Data.fields _=Data.cell v:=z;cases z'⟩
 keep:=λi h h' st k=>k it (by simp) _ st
 item:=by intro X hP hw hK hc i pins s σ H E I hf st hg;subst hP hw hK;obtain ⟨f0,f1,f2,f3,f4,f5⟩:=hf it (by simp);have W:=Walks.range (prog:=X.prog) (w:=X.w) (I.ok.hd hc) it lo 1 n;refine W.item i s _ _ hg st λv h' tk hv st' kk=>?_;obtain ⟨t,rfl⟩:=hv;have I1:Inv X pins σ H { s with heap:=h',toks:=tk }:=I.turned (λb o hb e=>kk b o (by simpa using hb) e) f0 f1 f3 f4 f5;refine ⟨_,rfl,j6 (s:={ s with heap:=h',toks:=tk }) (n:="range_iterator") st' rfl rfl (by decide) ⟨.int (lo+i),H,I1,⟨t,?_⟩,⟨rfl,rfl⟩,st',λb hb=>(hf b hb).1⟩⟩;rw[Int.mul_one]
 done:=by intro X hP hw hK hc i pins s σ H E I hf st hg;subst hP hw hK;obtain ⟨f0,f1,f2,f3,f4,f5⟩:=hf it (by simp);exact wpAny_pyNext_range_end (I.ok.hd hc) st (by have:n<=i:=hg;omega) λh' eb=>⟨rfl,I.turned (t':=s.toks) (λb o hb e=>eb b o hb e) f0 f1 f3 f4 f5⟩
 self:=λ_ _ _ _ _ st h=>wpAny_pyIter_rangeiter st h
section
variable {X:Cx} {tg:Expr}
theorem Bu{pins:List (Addr×Obj)}{σ:St}{H:Hp}{s:Shared}{R:It->Hp->Prop}{E:Value->Shared->Prop}{lo hi:Int}{t u v:Tok}{tk:Nat}(I:Inv X pins σ H s)(h1:-(2 ^ 62)<=lo)(h2:lo < 2 ^ 62)(h3:-(2 ^ 62)<=hi)(h4:hi < 2 ^ 62)
  (q:R (Itr lo (hi - lo).toNat) H):wpAny (model X.prog X.w) X.A (pyIter (.ref s.heap.objs.size)) (PIE X pins σ tg R) E { s with heap:=s.heap.push { cls:=.type "range",data:=.fields #[.int lo t,.int hi u,.int 1 v] },toks:=tk }:=by
 refine wpAny_pyIter_range (IsRange.new ..) (small_one h1 h2 h3 h4) ?_;have I1:Inv X pins σ H { s with heap:=s.heap.push { cls:=.type "range",data:=.fields #[.int lo t,.int hi u,.int 1 v] },toks:=tk }:=I.kept λb o e=>am _ e;refine ⟨(s.heap.push { cls:=.type "range",data:=.fields #[.int lo t,.int hi u,.int 1 v] }).objs.size,[(s.heap.push { cls:=.type "range",data:=.fields #[.int lo t,.int hi u,.int 1 v] }).objs.size],_,_,H,rfl,
  I1.kept (t':=tk) λb o e=>am _ e,VR _ lo (hi - lo).toNat,?_,λb hb=>?_,q⟩
 ·have e1:lo+((0:Nat):Int) * 1=lo:=by simp
  have e2:(((hi - lo).toNat:Nat):Int) - ((0:Nat):Int)=Builtin.Range.rangeSize lo hi 1:=by rw[rangeSize_one];split <;> omega
  show IsRangeIter _ _ (lo+((0:Nat):Int) * 1) ((((hi - lo).toNat:Nat):Int) - ((0:Nat):Int)) 1;rw[e1,e2];exact bi _ rfl
 ·have e:b=(s.heap.push { cls:=.type "range",data:=.fields #[.int lo t,.int hi u,.int 1 v] }).objs.size:=by simpa using hb
  subst e;exact I1.fpOk (aw _) (I1.hok.fresh (aw _))
def VV(ta:TA):TI:=λσ H R=>ta σ H λvs H1=>∃j:Int,vs=[.int j]/\-(2 ^ 62)<=j/\j < 2 ^ 62/\R (Itr 0 j.toNat) H1
def V0(ta:TA):TI:=λσ H R=>ta σ H λvs H1=>∃i j:Int,vs=[.int i,.int j]/\(-(2 ^ 62)<=i/\i < 2 ^ 62/\-(2 ^ 62)<=j/\j < 2 ^ 62)/\R (Itr i (j - i).toNat) H1
theorem V1 {a:Expr} {ta:TA} {p pos:Pos} (hg:Gl X "range") (hm:X.mg "range"=none) (ha:PA X [a] ta) (hs:starEach [a] X.env=[(false,eval a X.env)]:=by rfl):PI X tg (.Call (.Name "range" p) [a] [] pos) (VV ta):=by
 intro pins s σ H R I h;refine Call_ (fQ I hg hm boot_range (dr (thn (ha pos pins s σ H _ I h) λus s1 ⟨vs,H1,I1,r1,q1⟩=>?_) hs rfl));obtain ⟨j,e,q1,q2,q⟩:=q1;subst e;cases r1 with
 |cons r rr=>
  cases rr;obtain ⟨t,rfl⟩:=r;exact call_range_1 (Bu I1 (by omega) (by omega) q1 q2 (by simpa using q))
theorem V2 {a b:Expr} {ta:TA} {p pos:Pos} (hg:Gl X "range") (hm:X.mg "range"=none) (ha:PA X [a,b] ta) (hs:starEach [a,b] X.env=[(false,eval a X.env),(false,eval b X.env)]:=by rfl) (hs2:starEach [b] X.env=[(false,eval b X.env)]:=by rfl):
  PI X tg (.Call (.Name "range" p) [a,b] [] pos) (V0 ta):=by
 intro pins s σ H R I h;refine Call_ (fQ I hg hm boot_range (dr (thn (ha pos pins s σ H _ I h) λus s1 ⟨vs,H1,I1,r1,q1⟩=>?_) (by rw[hs,hs2]) (by rw[hs2];rfl)));obtain ⟨i,j,e,⟨q1,q2,q3,q4⟩,q⟩:=q1;subst e;cases r1 with
 |cons r rr=>
  cases rr with
  |cons r' rr=>
   cases rr;obtain ⟨t,rfl⟩:=r;obtain ⟨t',rfl⟩:=r';exact call_range_2 (Bu I1 q1 q2 q3 q4 q)
def V3(wi:TI)(g:TG)(tb:TS):TS:=λD σ H=>wi σ H λJ H1=>∃W:Nat->Nat->St->Hp->Prop,(∃m,W 0 m σ H1)/\∀i m σ H,W i m σ H->
 (J.stop i H/\D.nx σ H)\/(J.go i H/\∃N:St->Hp->Prop,(∀σ' H',N σ' H'->∃m',m' < m/\W (i+1) m' σ' H')/\∀x H',J.yld i H x H'->g x σ H' λσ2 H2=>tb { D with nx:=N,ct:=N,bk:=D.nx } σ2 H2)
def jf(fp:List Addr)(h:Heap):List (Addr×Obj):=fp.filterMap λb=>(h.get? b).map λo=>(b,o)
theorem jg{fp:List Addr}{h:Heap}{b:Addr}{o:Obj}(hb:b∈fp)(e:h.get? b=some o):(b,o)∈jf fp h:=fb.mpr ⟨b,hb,by rw[e];rfl⟩
theorem vG{fp:List Addr}{h:Heap}{p:Addr×Obj}(hp:p∈jf fp h):p.1∈fp/\h.get? p.1=some p.2:=by
 obtain ⟨b,hb,e⟩:=fb.mp hp;cases q:h.get? b with
 |none=>rw[q]at e;cases e
 |some o=>
  rw[q]at e;have e':(b,o)=p:=dy e;subst e';exact ⟨hb,q⟩
theorem Inv.pinned{pins:List (Addr×Obj)}{σ:St}{H:Hp}{s:Shared}{fp:List Addr}(I:Inv X pins σ H s)(hf:∀b∈fp,dU X pins H b)(ho:∀b∈fp,∃o,s.heap.get? b=some o/\∀v,o.data≠.cell v):Inv X (pins++jf fp s.heap) σ H s:=
 I.pins_of λp hp=>(bn.mp hp).elim (λz=>I.pin p (aE _ z)) λz=>by
  obtain ⟨hb,e⟩:=vG z;obtain ⟨f0,f1,f2,_⟩:=hf p.1 hb;obtain ⟨o,e',d⟩:=ho p.1 hb;rw[e]at e';cases e';exact ⟨e,f0,f1,f2,d⟩
theorem Inv.unpinned{pins pl:List (Addr×Obj)}{σ:St}{H:Hp}{s:Shared}(I:Inv X (pins++pl) σ H s):Inv X pins σ H s:=I.pins_of λp hp=>I.pin p (aE _ (eW _ hp))
theorem V4{iter:Expr}{body:List Stmt}{wi:TI}{g:TG}{tb:TS}{pos:Pos}(hp:PassesOwn (model X.prog X.w) X.A X.env X.xe)(hc:X.calm=true)(hi:PI X tg iter wi)(hg:PG X tg g)(hb:PSs X body tb)
  (hs:∀x,foldedSetIterable iter X.env x=pure x:=by intro _;rfl):PS X (.For tg iter body [] pos) (V3 wi g tb):=by
 intro pins s σ H D I h;refine wpAny_For (thn (hi pins s σ H _ I h) λv s1 h1=>thn h1 λitv s2 h2=>?_) hs;obtain ⟨it,fp,tn,J,H2,e,I2,T,st2,f2,W,⟨m0,w0⟩,turn⟩:=h2;subst e
 -- what stays true of the iterator's objects through the loop
 have stat:∀{H':Hp},(∀b∈fp,H' b=none)->∀b∈fp,dU X pins H' b:=λhn b hb=>⟨hn b hb,(f2 b hb).2⟩;refine codeAny_forLoop_any (λn s'=>∃i σ' H',Inv X pins σ' H' s'/\tn i s'.heap/\(∀b∈fp,H' b=none)/\W i n σ' H') ?_ m0 ⟨0,σ,H2,I2,st2,λb hb=>(f2 b hb).1,w0⟩;rintro n s3 ⟨i,σ3,H3,I3,st3,fr3,w3⟩;rcases turn i n σ3 H3 w3 with ⟨stop,qn⟩ |⟨go,N,hN,step⟩
 ·refine fq hp (thn (T.done X rfl rfl rfl hc i pins s3 σ3 H3 X.xe I3 (stat fr3) st3 stop) λr s4 ⟨hr,I4⟩=>?_);subst hr;exact wpAny_execs_nil ⟨σ3,H3,I4,qn⟩
 ·refine fq hp (thn (T.item X rfl rfl rfl hc i pins s3 σ3 H3 X.xe I3 (stat fr3) st3 go) λr s4 ⟨u,hr,h4⟩=>?_);subst hr;refine fq hp (thn h4 λ_ s5 ⟨x,H5,I5,r5,y5,st5,fr5⟩=>?_);have I5':=I5.pinned (stat fr5) (T.obj _ _ st5);refine fq hp (thn (hg _ s5 σ3 H5 x u _ I5' r5 (step x H5 y5)) λ_ s6 ⟨σ6,H6,I6,q6⟩=>?_);refine fq hp (thn (hb _ s6 σ6 H6 _ I6 q6) λf s7 q7=>?_);have again:∀{σ7:St}{H7:Hp},Inv X (pins++jf fp s5.heap) σ7 H7 s7->N σ7 H7->∃m,m < n/\∃i σ' H',Inv X pins σ' H' s7/\tn i s7.heap/\(∀b∈fp,H' b=none)/\W i m σ' H':=λ{σ7 H7} I7 n7=>by
   obtain ⟨m',hm,w7⟩:=hN σ7 H7 n7;refine ⟨m',hm,i+1,σ7,H7,I7.unpinned,T.keep _ _ _ st5 λb hb o e=>(I7.pin (b,o) (aE _ (aE _ (jg hb e)))).1,λb hb=>?_,w7⟩;obtain ⟨o,e,d⟩:=T.obj _ _ st5 b hb;exact (I7.pin (b,o) (aE _ (aE _ (jg hb e)))).2.1
  cases f with
  |next=>obtain ⟨σ7,H7,I7,n7⟩:=q7;exact again I7 n7
  |cont=>obtain ⟨σ7,H7,I7,n7⟩:=q7;exact again I7 n7
  |brk=>obtain ⟨σ7,H7,I7,q7⟩:=q7;exact ⟨σ7,H7,I7.unpinned,q7⟩
  |ret v=>obtain ⟨x7,σ7,H7,I7,r7,q7⟩:=q7;exact ⟨x7,σ7,H7,I7.unpinned,r7,q7⟩
end
abbrev R2:=V->V->Hp->VK->Prop
def OpR(X:Cx)(f:Value->Value->Sem Value)(r:R2):Prop:=
 ∀(pins:List (Addr×Obj))(s:Shared)(σ:St)(H:Hp)(x y:V)(v u:Value)(Q:VK),Inv X pins σ H s->RelV x v->RelV y u->r x y H Q->
  wpAny (model X.prog X.w) X.A (f v u) (EP X pins σ Q) X.xe s
def UnR(X:Cx)(f:Value->Sem Value)(r:V->Hp->VK->Prop):Prop:=
 ∀(pins:List (Addr×Obj))(s:Shared)(σ:St)(H:Hp)(x:V)(v:Value)(Q:VK),Inv X pins σ H s->RelV x v->r x H Q->
  wpAny (model X.prog X.w) X.A (f v) (EP X pins σ Q) X.xe s
def bT(X:Cx)(f:Value)(r:List V->Hp->VK->Prop):Prop:=
 ∀(pins:List (Addr×Obj))(s:Shared)(σ:St)(H:Hp)(xs:List V)(us:List Value)(Q:VK),Inv X pins σ H s->Vals xs us->r xs H Q->
  wpAny (model X.prog X.w) X.A (call f us) (EP X pins σ Q) X.xe s
def V5(X:Cx)(r:V->Hp->(Bool->Hp->Prop)->Prop):Prop:=
 ∀(pins:List (Addr×Obj))(s:Shared)(σ:St)(H:Hp)(x:V)(v:Value)(Q:Bool->Hp->Prop),Inv X pins σ H s->RelV x v->r x H Q->
  wpAny (model X.prog X.w) X.A (truthy v) (TP X pins σ Q) X.xe s
def tOp(r:R2)(ta tb:TE):TE:=λσ H Q=>ta σ H λx H1=>tb σ H1 λy H2=>r x y H2 Q
def tUn(r:V->Hp->VK->Prop)(ta:TE):TE:=λσ H Q=>ta σ H λx H1=>r x H1 Q
def rI(C:Int->Int->Prop)(g:Int->Int->V):R2:=λx y H Q=>∃i j,x=.int i/\y=.int j/\C i j/\Q (g i j) H
def rI0(g:Int->Int->V):R2:=λx y H Q=>∃i j,x=.int i/\y=.int j/\Q (g i j) H
def rU(g:Int->V):V->Hp->VK->Prop:=λx H Q=>∃i,x=.int i/\Q (g i) H
section
variable {X:Cx} {a b c:Expr} {ta tb tc:TE} {pos:Pos}
theorem vH(ha:PE X a ta)(hb:PE X b tb){pins:List (Addr×Obj)}{s:Shared}{σ:St}{H:Hp}{R:V->V->Hp->Prop}(I:Inv X pins σ H s)
  (h:ta σ H λx H1=>tb σ H1 λy H2=>R x y H2) {Q:Value->Shared->Prop} {f:Value->Value->Sem Value}
  (hf:∀v u s2 x y H2,Inv X pins σ H2 s2->RelV x v->RelV y u->R x y H2->wpAny (model X.prog X.w) X.A (f v u) Q X.xe s2):
  wpAny (model X.prog X.w) X.A (eval a X.env) (λv s₁=>wpAny (model X.prog X.w) X.A (eval b X.env) (λu s₂=>wpAny (model X.prog X.w) X.A (f v u) Q X.xe s₂) X.xe s₁) X.xe s:=by
 refine thn (ha pins s σ H _ I h) λv s1 ⟨x,H1,I1,r1,q1⟩=>?_;refine thn (hb pins s1 σ H1 _ I1 q1) λu s2 ⟨y,H2,I2,r2,q2⟩=>?_;exact hf v u s2 x y H2 I2 r1 r2 q2
theorem V6{op:Operator}{r:R2}(ho:OpR X (binaryOp op) r)(ha:PE X a ta)(hb:PE X b tb):PE X (.BinOp a op b pos) (tOp r ta tb):=by intro pins s σ H Q I h;exact wpAny_BinOp (vH ha hb I h λv u s2 x y H2 I2 rx ry q=>ho pins s2 σ H2 x y v u Q I2 rx ry q)
theorem V7{op:UnaryOp}{r:V->Hp->VK->Prop}(ho:UnR X (unaryOp op) r)(ha:PE X a ta):PE X (.UnaryOp op a pos) (tUn r ta):=by intro pins s σ H Q I h;exact UnaryOp_ (thn (ha pins s σ H _ I h) λv s1 ⟨x,H1,I1,r1,q1⟩=>ho pins s1 σ H1 x v Q I1 r1 q1)
theorem opI{f:Value->Value->Sem Value}{C:Int->Int->Prop}{g:Int->Int->Int}
  (rule:∀(i j:Int)(t u:Tok)(s:Shared)(Q:Value->Shared->Prop)(E:Value->Shared->Prop),C i j->Q (.int (g i j) s.toks) { s with toks:=s.toks+1 }->wpAny (model X.prog X.w) X.A (f (.int i t) (.int j u)) Q E s):
  OpR X f (rI C λi j=>.int (g i j)):=by
 intro pins s σ H x y v u Q I rx ry h;obtain ⟨i,j,rfl,rfl,hc,q⟩:=h;obtain ⟨t,rfl⟩:=rx;obtain ⟨t',rfl⟩:=ry;exact rule i j t t' s _ _ hc ⟨.int (g i j),H,I.tok _,⟨_,rfl⟩,q⟩
theorem qu{f:Value->Value->Sem Value}{g:Int->Int->Int}
  (rule:∀(i j:Int)(t u:Tok)(s:Shared)(Q:Value->Shared->Prop)(E:Value->Shared->Prop),Q (.int (g i j) s.toks) { s with toks:=s.toks+1 }->wpAny (model X.prog X.w) X.A (f (.int i t) (.int j u)) Q E s):
  OpR X f (rI0 λi j=>.int (g i j)):=by
 intro pins s σ H x y v u Q I rx ry h;obtain ⟨i,j,rfl,rfl,q⟩:=h;obtain ⟨t,rfl⟩:=rx;obtain ⟨t',rfl⟩:=ry;exact rule i j t t' s _ _ ⟨.int (g i j),H,I.tok _,⟨_,rfl⟩,q⟩
def qw(i j:Int):Prop:=0<=j/\j<=1000000/\i.natAbs < 2 ^ 64
def CMul(i j:Int):Prop:=(-(2 ^ 64) < i/\i < 2 ^ 64)\/(-(2 ^ 64) < j/\j < 2 ^ 64)
theorem CMul.ok{i j:Int}(h:CMul i j):IntMulOk i j:=by
 rcases h with ⟨h1,h2⟩ |⟨h1,h2⟩
 ·exact .of_left (intBits_le_64 h1 h2)
 ·exact .of_right (intBits_le_64 h1 h2)
theorem V8:OpR X (binaryOp .Add) (rI0 λi j=>.int (i+j)):=qu λ_ _ _ _ _ _ _ q=>add_int q
theorem V9:OpR X (binaryOp .Sub) (rI0 λi j=>.int (i - j)):=qu λ_ _ _ _ _ _ _ q=>sub_int q
theorem Wa:OpR X (binaryOp .Mult) (rI CMul λi j=>.int (i * j)):=opI λ_ _ _ _ _ _ _ hc q=>mul_int q hc.ok
theorem Wb:OpR X (binaryOp .Mod) (rI (λ_ j=>0 < j) λi j=>.int (i % j)):=opI λi j _ _ _ _ _ hc q=>by
 have h1:(0:Int) < j:=hc;exact mod_int' (by omega) (by rw[Int.fmod_eq_emod_of_nonneg i (by omega)];exact q)
theorem Wc:OpR X (binaryOp .Pow) (rI qw λi j=>.int (i ^ j.toNat)):=opI λ_ _ _ _ _ _ _ hc q=>pow_int_small hc.1 hc.2.1 hc.2.2 q
theorem Wd:OpR X (inplaceOp .Add) (rI0 λi j=>.int (i+j)):=qu λ_ _ _ _ _ _ _ q=>iadd_int q
theorem We:OpR X (inplaceOp .Sub) (rI0 λi j=>.int (i - j)):=qu λ_ _ _ _ _ _ _ q=>isub_int q
theorem unI{f:Value->Sem Value}{g:Int->Int}
  (rule:∀(i:Int)(t:Tok)(s:Shared)(Q:Value->Shared->Prop)(E:Value->Shared->Prop),Q (.int (g i) s.toks) { s with toks:=s.toks+1 }->wpAny (model X.prog X.w) X.A (f (.int i t)) Q E s):
  UnR X f (rU λi=>.int (g i)):=by
 intro pins s σ H x v Q I rx h;obtain ⟨i,rfl,q⟩:=h;obtain ⟨t,rfl⟩:=rx;exact rule i t s _ _ ⟨.int (g i),H,I.tok _,⟨_,rfl⟩,q⟩
theorem Wf:UnR X (unaryOp .USub) (rU λi=>.int (-i)):=unI λ_ _ _ _ _ q=>neg_int q
end
section
variable {X:Cx} {a b c:Expr} {ta tb tc:TE} {pos:Pos}
theorem Bv{pins:List (Addr×Obj)}{σ:St}{H:Hp}{s:Shared}{Q:VK}{k k':Bool}(I:Inv X pins σ H s)(q:Q (.bl k) H)(e:k=k'):EP X pins σ Q (.bool k') s:=by subst e;exact ⟨.bl k,H,I,rfl,q⟩
theorem Wg:OpR X (compareOp .Is) (λx y H Q=>y=.non/\Q (.bl (decide (x=.non))) H):=by
 intro pins s σ H x y v u Q I rx ry h;obtain ⟨rfl,q⟩:=h;cases ry;refine is_none_gen (Bv I q ?_);cases x <;> first
  | (cases rx;rfl)
  | (obtain ⟨t,rfl⟩:=rx;rfl)
theorem Wh:OpR X (compareOp .IsNot) (λx y H Q=>y=.non/\Q (.bl (!decide (x=.non))) H):=by
 intro pins s σ H x y v u Q I rx ry h;obtain ⟨rfl,q⟩:=h;cases ry;refine isnot_none_gen (Bv I q ?_);cases x <;> first
  | (cases rx;rfl)
  | (obtain ⟨t,rfl⟩:=rx;rfl)
theorem Wi{op:CmpOp}{r:R2}(ho:OpR X (compareOp op) r)(ha:PE X a ta)(hb:PE X b tb)(hm:behindInMarks op b=false):PE X (.Compare a [op] [b] pos) (tOp r ta tb):=by intro pins s σ H Q I h;exact wpAny_Compare1 (vH ha hb I h λv u s2 x y H2 I2 rx ry q=>ho pins s2 σ H2 x y v u Q I2 rx ry q) hm
def Bw(t:TE):TT:=λσ H Q=>t σ H λx H'=>∃k,x=.bl k/\Q k H'
theorem Wj{op:CmpOp}{r:R2}(ho:OpR X (compareOp op) r)(ha:PE X a ta)(hb:PE X b tb)(hm:behindInMarks op b=false):PT X (.Compare a [op] [b] pos) (Bw (tOp r ta tb)):=by
 intro pins s σ H Q I h;refine wpAny_isTrue_Compare1 (thn (ha pins s σ H _ I h) λv s1 ⟨x,H1,I1,r1,q1⟩=>thn (hb pins s1 σ H1 _ I1 q1) λu s2 ⟨y,H2,I2,r2,q2⟩=>
  thn (ho pins s2 σ H2 x y v u _ I2 r1 r2 q2) λc s3 ⟨z,H3,I3,r3,k,e,q3⟩=>?_) hm
 subst e;cases r3;exact eL ⟨H3,I3,q3⟩
def vI(r r':R2)(ta tb tc:TE):TE:=λσ H Q=>ta σ H λx H1=>tb σ H1 λy H2=>r x y H2 λz H3=>∃k,z=.bl k/\
 (if k=true then tc σ H3 λw' H4=>r' y w' H4 Q else Q (.bl false) H3)
theorem Wl{op op':CmpOp}{r r':R2}(ho:OpR X (compareOp op) r)(ho':OpR X (compareOp op') r')(ha:PE X a ta)(hb:PE X b tb)(hc:PE X c tc)
  (hm:lastMarks [op,op'] [b,c]=false:=by with_unfolding_all rfl):PE X (.Compare a [op,op'] [b,c] pos) (vI r r' ta tb tc):=by
 intro pins s σ H Q I h;refine Compare_chain (thn (ha pins s σ H _ I h) λv s1 ⟨x,H1,I1,r1,q1⟩=>chain_link (thn (hb pins s1 σ H1 _ I1 q1) λu s2 ⟨y,H2,I2,r2,q2⟩=>
  thn (ho pins s2 σ H2 x y v u _ I2 r1 r2 q2) λd s3 ⟨z,H3,I3,r3,k,e,q3⟩=>?_)) hm
 subst e;cases r3;refine eL ?_;cases k with
 |false=>exact ite_ff ⟨.bl false,H3,I3,rfl,q3⟩
 |true=>exact ite_tt (chain_last (thn (hc pins s3 σ H3 _ I3 q3) λw' s4 ⟨z',H4,I4,r4,q4⟩=>ho' pins s4 σ H4 y z' u w' Q I4 r2 r4 q4))
theorem Wm{op op':CmpOp}{r r':R2}(ho:OpR X (compareOp op) r)(ho':OpR X (compareOp op') r')(ha:PE X a ta)(hb:PE X b tb)(hc:PE X c tc)
  (hm:lastMarks [op,op'] [b,c]=false:=by with_unfolding_all rfl):PT X (.Compare a [op,op'] [b,c] pos) (Bw (vI r r' ta tb tc)):=by
 intro pins s σ H Q I h;refine isTrue_chain (thn (ha pins s σ H _ I h) λv s1 ⟨x,H1,I1,r1,q1⟩=>test_link (thn (hb pins s1 σ H1 _ I1 q1) λu s2 ⟨y,H2,I2,r2,q2⟩=>
  thn (ho pins s2 σ H2 x y v u _ I2 r1 r2 q2) λd s3 ⟨z,H3,I3,r3,k,e,q3⟩=>?_)) hm
 subst e;cases r3;refine eL ?_;cases k with
 |false=>
  obtain ⟨k',e',q'⟩:=q3;cases e';exact ite_ff ⟨H3,I3,q'⟩
 |true=>
  refine ite_tt (test_last (thn (hc pins s3 σ H3 _ I3 q3) λw' s4 ⟨z',H4,I4,r4,q4⟩=>thn (ho' pins s4 σ H4 y z' u w' _ I4 r2 r4 q4) λd' s5 ⟨z2,H5,I5,r5,k2,e2,q5⟩=>?_));subst e2;cases r5;exact eL ⟨H5,I5,q5⟩
def qx(K:PF)(x:V)(H:Hp)(k:Bool):Prop:=
 match x with
 |.non=>k=false
 |.bl b=>k=b
 |.int i=>k=(i != 0)
 |.str y=>y.length<=sizeLine/\k=((y.length:Int) != 0)
 |.byt y=>y.size<=sizeLine/\k=((y.size:Int) != 0)
 |.ref p=>(∃xs,SqL K H p xs/\k=!xs.isEmpty)\/(∃xs,SqT K H p xs/\k=!xs.isEmpty)\/∃kvs,H p=some (.dK kvs)/\k=!kvs.isEmpty
 |_=>False
theorem Wn{κ:Type}{kvs:List (κ×V)}{vs:List (κ×Value)}(r:KV kvs vs):(!vs.isEmpty)=!kvs.isEmpty:=by cases r <;> rfl
theorem Bx{xs:List V}{its:List Value}(r:Vals xs its):(!its.toArray.isEmpty)=!xs.isEmpty:=by cases r <;> simp
theorem ik:(sizeLine:Nat) < 2 ^ 63:=by rw[sizeLine_eq];decide
theorem By:V5 X (λx H Q=>∃k,qx X.K x H k/\Q k H):=by
 intro pins s σ H x v Q I rx h;obtain ⟨k,e,q⟩:=h;have hl:=ik;have hs:sizeLine=16777216:=sizeLine_eq;cases x with
 |non=>
  cases rx;have e':k=false:=e;subst e';exact truthy_none ⟨H,I,q⟩
 |bl b=>
  cases rx;have e':k=b:=e;subst e';exact eL ⟨H,I,q⟩
 |int i=>
  obtain ⟨t,rfl⟩:=rx;have e':k=(i != 0):=e;subst e';exact PySem.P.truthy_int ⟨H,I,q⟩
 |str y=>
  obtain ⟨t,rfl⟩:=rx;obtain ⟨hy,e'⟩:y.length<=sizeLine/\k=((y.length:Int) != 0):=e;subst e';exact PySem.P.truthy_str (by omega) ⟨H,I.tok _,q⟩
 |byt y=>
  obtain ⟨t,rfl⟩:=rx;obtain ⟨hy,e'⟩:y.size<=sizeLine/\k=((y.size:Int) != 0):=e;subst e';exact PySem.W.truthy_bytes (by omega) ⟨H,I.tok _,q⟩
 |ref p=>
  cases rx;have e':(∃xs,SqL X.K H p xs/\k=!xs.isEmpty)\/(∃xs,SqT X.K H p xs/\k=!xs.isEmpty)\/∃kvs,H p=some (.dK kvs)/\k=!kvs.isEmpty:=e;rcases e' with ⟨xs,hx,e'⟩ |⟨xs,hx,e'⟩ |⟨kvs,hx,e'⟩
  ·subst e';obtain ⟨its,r,pl,hz⟩:=I.list hx;have hlen:=r.length;exact wpAny_truthy_list pl.isList (by simp only[av];omega) ⟨H,I.tok _,by rw[Bx r];exact q⟩
  ·subst e';obtain ⟨its,r,pl,hz⟩:=I.tuple hx;have hlen:=r.length;exact truthy_tuple pl (by simp only[av];omega) ⟨H,I.tok _,by rw[Bx r];exact q⟩
  ·subst e';obtain ⟨hz,hS,vs,r,m⟩:kvs.length<=sizeLine/\(p==sysModules)=false/\∃vs,KV kvs vs/\s.heap.DictOf (vy X.prog X.w) p vs:=I.hok p _ hx;have hlen:kvs.length=vs.length:=Paired.length r;exact wpAny_truthy_dict hS m (by omega) ⟨H,I.tok _,by rw[Wn r];exact q⟩
 |_=>exact (show False from e).elim
theorem Wo(ha:PE X a ta)(he:∀whole,isTrue a X.env whole=(do let v <-whole;standAt a.pos;holding [v] (truthy v))):
  PT X a (λσ H Q=>ta σ H λx H'=>∃k,qx X.K x H' k/\Q k H'):=by
 intro pins s σ H Q I h;exact isTrue_plain (thn (ha pins s σ H _ I h) λv s1 ⟨x,H1,I1,r1,q1⟩=>By pins s1 σ H1 x v Q I1 r1 q1) (he _)
theorem Wq:OpR X (binaryOp .Add) (λx y H Q=>∃i j,x=.str i/\y=.str j/\i.length+j.length<=sizeLine/\Q (.str (i++j)) H):=by intro pins s σ H x y v u Q I rx ry h;obtain ⟨i,j,rfl,rfl,hz,q⟩:=h;obtain ⟨t,rfl⟩:=rx;obtain ⟨t',rfl⟩:=ry;exact add_str (λt' tk=>⟨.str (i++j),H,I.tok _,⟨_,rfl⟩,q⟩) hz
theorem Wr:OpR X (inplaceOp .Add) (λx y H Q=>∃i j,x=.str i/\y=.str j/\i.length+j.length<=sizeLine/\Q (.str (i++j)) H):=by intro pins s σ H x y v u Q I rx ry h;obtain ⟨i,j,rfl,rfl,hz,q⟩:=h;obtain ⟨t,rfl⟩:=rx;obtain ⟨t',rfl⟩:=ry;exact iadd_str (λt' tk=>⟨.str (i++j),H,I.tok _,⟨_,rfl⟩,q⟩) hz
theorem vals1{x:V}{us:List Value}(r:Vals [x] us):∃u,us=[u]/\RelV x u:=by
 cases r with
 |cons r1 r2=>cases r2;exact ⟨_,rfl,r1⟩
theorem vals2{x y:V}{us:List Value}(r:Vals [x,y] us):∃u w',us=[u,w']/\RelV x u/\RelV y w':=by
 cases r with
 |cons r1 r2=>
  cases r2 with
  |cons r3 r4=>cases r4;exact ⟨_,_,rfl,r1,r3⟩
theorem BJ:bT X (.type "int") (λxs H Q=>(∃i,xs=[.int i]/\Q (.int i) H)\/∃k,xs=[.bl k]/\Q (.int (if k then 1 else 0)) H):=by
 intro pins s σ H xs us Q I r h;rcases h with ⟨i,rfl,q⟩ |⟨k,rfl,q⟩
 ·obtain ⟨u,rfl,t,rfl⟩:=vals1 r;exact call_int_int ⟨.int i,H,I,⟨_,rfl⟩,q⟩
 ·obtain ⟨u,rfl,r1⟩:=vals1 r;cases r1;exact call_int_bool ⟨.int (if k then 1 else 0),H,I.tok _,⟨_,rfl⟩,q⟩
end
structure ObjM(h:Heap)(x dx C:Addr)(mA:Str->Option Value):Prop where
 obj:h.get? x=some (PySem.W.instObj C dx)
 ns:h.Ns1 dx mA
 ne:dx≠x
theorem Ws{h:Heap}{dx:Addr}{mA:Str->Option Value}(n:h.Ns1 dx mA):∃od,h.get? dx=some od/\∀name,PySem.W.lookIn name od=some (mA name):=by
 obtain ⟨o,es,ep,ho,hd,hk,_,hm⟩:=n;refine ⟨o,ho,λname=>?_⟩;have e:=hm name;unfold nsFind findBy at e;rw[<-Array.find?_toList]at e;unfold PySem.W.lookIn;rw[hd];dsimp only;split
 ·rename_i y q;rw[q]at e;exact eA some e
 ·rename_i q;rw[q]at e;have a:es.toList.any (·.refKey)=false:=by
   rw[List.any_eq_false];intro y hy;obtain ⟨z,t,hkey⟩:=hk y (Array.mem_toList_iff.mp hy);simp[DictEntry.refKey,hkey]
  have a':¬es.toList.any (·.refKey)=true:=by rw[a];exact a9
  rw[if_neg a'];exact eA some e
theorem ObjM.look{h:Heap}{x dx C:Addr}{mA:Str->Option Value}(I:ObjM h x dx C mA):∃od,PySem.W.InstAt h x (PySem.W.instObj C dx) C (some od)/\∀name,PySem.W.lookIn name od=some (mA name):=
 let ⟨od,ho,hl⟩:=Ws I.ns
 ⟨od,⟨I.obj,rfl,rfl,ho⟩,hl⟩
section
variable {P:Program} {w:World} {H H':Hp} {h h':Heap} {a C dx:Addr} {fs fs':List (Str×V)}
theorem Wt(hok:HOk P w H h)(e:H a=some (.ins C dx fs)):∃mA,ObjM h a dx C mA/\(∀f,vz (fs.lookup f) (mA f))/\PySem.Within mA (fs.map (·.1))/\fs.length<=1000/\H dx=some (.own a):=by obtain ⟨d,z,ne,ob,mA,n,r,q⟩:=(show ObjOk P w H h a (.ins C dx fs) from hok a _ e);exact ⟨mA,⟨ob,n,ne⟩,r,q,z,d⟩
end
structure Cls(K:PF)(C:Addr):Prop where
 pg:PySem.W.plainGet K C Str.empty=true
 hd:PySem.W.hasDictIn K C=true
 po:PySem.W.plainOver K C=true
 sa:PySem.W.findIn K (.ref C) "__setattr__"=some (some (.builtin "object.__setattr__"))
theorem Cls.get{K:PF}{C:Addr}(c:Cls K C)(f:Str):PySem.W.plainGet K C f=true:=c.pg
def Wu(K:PF)(C:Addr)(f:Str):Prop:=PySem.W.findIn K (.ref C) f=some none
structure Meth(K:PF)(C:Addr)(m:Str)(f:Addr):Prop where
 at_:PySem.W.findIn K (.ref C) m=some (some (.ref f))
 fn:PySem.W.isFn K (.ref f)=true
 kp:PySem.W.keepIn K (.ref f)=true
section
variable {X:Cx} {pins:List (Addr×Obj)} {σ:St} {H:Hp} {s:Shared} {A:Around} {E:Value->Shared->Prop} {Q:Value->Shared->Prop} {c:Value} {b:Bool}
inductive TyOf (K:PF) (H:Hp):V->Value->Prop where
 |non:TyOf K H .non (.type "NoneType")
 |bl (x:Bool):TyOf K H (.bl x) (.type "bool")
 |int (i:Int):TyOf K H (.int i) (.type "int")
 |str (x:Str):TyOf K H (.str x) (.type "str")
 |flt (x:UInt64):TyOf K H (.flt x) (.type "float")
 |lst {a:Addr} {xs:List V} (e:H a=some (.lst xs)):TyOf K H (.ref a) (.type "list")
 |frz {a:Addr} {o:Obj} {xs:List V} (e:H a=some (.frz o (.lst xs))):TyOf K H (.ref a) (.type "list")
 |tup {a:Addr} {xs:List V} (e:H a=some (.tup xs)):TyOf K H (.ref a) (.type "tuple")
 |dK {a:Addr} {kvs:List (Key×V)} (e:H a=some (.dK kvs)):TyOf K H (.ref a) (.type "dict")
 |dT {a:Addr} {kvs:List (List Key×V)} (e:H a=some (.dT kvs)):TyOf K H (.ref a) (.type "dict")
 |ins {a C dx:Addr} {fs:List (Str×V)} (e:H a=some (.ins C dx fs)) (cl:Cls K C) (ha:PySem.W.findIn K (.ref C) "__class__"=some (some (.builtin "object.__class__")))
   (hn:PySem.W.specialIn K (.builtin "object.__class__") "__get__"=some (some (.builtin "getset_descriptor.__get__"))) (htk:PySem.W.takesIn K (.builtin "object.__class__")=some true)
   (hm:PySem.W.mroIn K C (.type "object")=some true):TyOf K H (.ref a) (.ref C)
theorem Wv{x:V}{u t:Value}(I:Inv X pins σ H s)(rx:RelV x u)(ty:TyOf X.K H x t)(e:PySem.W.kitOne X.K t c=some b)(h:∀tk,Q (.bool b) { s with toks:=tk }):
  wpAny (model X.prog X.w) A (call (.builtin "isinstance") [u,c]) Q E s:=by
 cases ty with
 |non=>cases (show u=Value.none from rx);exact dQ PySem.W.kitx_none I.kIn True.intro e (λz=>nomatch z) h
 |bl y=>cases (show u=Value.bool y from rx);exact dQ PySem.W.kitx_bool I.kIn True.intro e (λz=>nomatch z) h
 |int i=>obtain ⟨t,q⟩:=(show ∃t,u=Value.int i t from rx);cases q;exact dQ PySem.W.kitx_int I.kIn True.intro e (λz=>nomatch z) h
 |str y=>obtain ⟨t,q⟩:=(show ∃t,u=Value.str y t from rx);cases q;exact dQ PySem.W.kitx_str I.kIn True.intro e (λz=>nomatch z) h
 |flt y=>obtain ⟨t,q⟩:=(show ∃t,u=Value.float y t from rx);cases q;exact dQ PySem.W.kitx_float I.kIn True.intro e (λz=>nomatch z) h
 | @lst a xs ea=>
  cases (show u=Value.ref a from rx);obtain ⟨_,_,n,_,h1⟩:=(show ObjOk X.prog X.w H s.heap a (.lst xs) from I.hok a _ ea);exact dQ PySem.W.kitx_list I.kIn ⟨_,h1,rfl⟩ e (λz=>nomatch z) h
 | @frz a ob xs ea=>
  cases (show u=Value.ref a from rx);obtain ⟨_,_,_,n,_,h1⟩:=(show ObjOk X.prog X.w H s.heap a (.frz ob (.lst xs)) from I.hok a _ ea);exact dQ PySem.W.kitx_list I.kIn ⟨_,h1,rfl⟩ e (λz=>nomatch z) h
 | @tup a xs ea=>
  cases (show u=Value.ref a from rx);obtain ⟨_,_,_,p⟩:=(show ObjOk X.prog X.w H s.heap a (.tup xs) from I.hok a _ ea);obtain ⟨o,h1,h2,_⟩:=p;exact dQ PySem.W.kitx_tuple I.kIn ⟨o,h1,h2⟩ e (λz=>nomatch z) h
 | @dK a kvs ea=>
  cases (show u=Value.ref a from rx);obtain ⟨_,_,vs,_,p⟩:=(show ObjOk X.prog X.w H s.heap a (.dK kvs) from I.hok a _ ea);obtain ⟨o,es,ep,h1,h2,_⟩:=p;exact dQ PySem.W.kitx_dict I.kIn ⟨o,h1,h2.1⟩ e (λz=>nomatch z) h
 | @dT a kvs ea=>
  cases (show u=Value.ref a from rx);obtain ⟨_,_,xs,_,o,es,ep,h1,h2,_⟩:=(show ObjOk X.prog X.w H s.heap a (.dT kvs) from I.hok a _ ea);exact dQ PySem.W.kitx_dict I.kIn ⟨o,h1,h2.1⟩ e (λz=>nomatch z) h
 | @ins a C dx fs ea cl ha hn htk hm=>
  cases (show u=Value.ref a from rx);obtain ⟨mA,O,_⟩:=Wt I.hok ea;obtain ⟨od,J,_⟩:=O.look;exact dQ (PySem.W.kitx_own (cl.get _) cl.hd ha hn htk hm) I.kIn J e (λz=>nomatch z) h
end
structure Room(k:Nat)(A:Around):Prop where
 hd:A.handled=none
 dp:A.depth+3 * k+5 < recursionLimit
 un:A.units+16 * k+200 < cLine
theorem Room.mono{j k:Nat}{A:Around}(r:Room k A)(h:j<=k):Room j A:=⟨r.hd,by have:=r.dp;omega,by have:=r.un;omega⟩
theorem Room.deeper{k:Nat}{A:Around}(r:Room (k+1) A)(env:Env):Room k (A.deeper env):=
 ⟨r.hd,by have:=r.dp;show A.depth+1+3 * k+5 < _;omega,by have:=r.un;show A.units+3+16 * k+200 < _;omega⟩
theorem Room.depth{k:Nat}{A:Around}(r:Room k A):A.depth < recursionLimit:=by have:=r.dp;omega
def Ww:TA:=λ_ H Q=>Q [] H
def Wx(ta:TE)(tr:TA):TA:=λσ H Q=>ta σ H λx H1=>tr σ H1 λxs H2=>Q (x::xs) H2
section
variable {X:Cx} {e:Expr} {es:List Expr} {te:TE} {t:TA} {pos:Pos}
theorem il:PA X [] Ww:=λ_ _ _ _ H Q I h=>Calls.spliced_nil ⟨[],H,I,.nil,h⟩
theorem fU(ha:PE X e te)(hr:PA X es t)(hs:starEach (e::es) X.env=(false,eval e X.env)::starEach es X.env:=by rfl):PA X (e::es) (Wx te t):=by intro pos pins s σ H Q I h;rw[hs];show wpAny _ _ (spliced ((false,eval e X.env)::backTo pos (starEach es X.env))) _ _ s;refine Calls.spliced_cons (thn (ha pins s σ H _ I h) λu s1 ⟨x,H1,I1,r1,q1⟩=>?_);exact thn (hr pos pins s1 σ H1 _ I1 q1) λus s2 ⟨xs,H2,I2,r2,q2⟩=>⟨x::xs,H2,I2,.cons r1 r2,q2⟩
def Wy(t:TA):TE:=λσ H Q=>t σ H λxs H1=>xs.length<=sizeLine/\∀p,H1 p=none->Q (.ref p) (upd H1 p (.tup xs))
def Wz(t:TA):TE:=λσ H Q=>t σ H λxs H1=>xs.length<=sizeLine/\∀p,H1 p=none->Q (.ref p) (upd H1 p (.lst xs))
theorem WD{x1}(h:PA X es t):PE X (.Tuple es x1 pos) (Wy t):=by intro pins s σ H Q I hq;refine wpAny_Tuple_spliced (thn (h pos pins s σ H _ I hq) λus s1 ⟨xs,H1,I1,r,z,q⟩=>⟨by rw[<-r.length];exact z,?_⟩);have hf:H1 s1.heap.objs.size=none:=I1.hok.fresh (aw _);refine ⟨.ref s1.heap.objs.size,upd H1 s1.heap.objs.size (.tup xs),I1.laid (t':=s1.toks) (λb u e=>am _ e) (aw _) ?_,rfl,q _ hf⟩;exact ⟨z,us,r,⟨_,bi _ rfl,rfl,_,rfl⟩⟩
theorem WF(h:PA X es t):PE X (.List es pos) (Wz t):=by intro pins s σ H Q I hq;refine wpAny_List_spliced (thn (h pos pins s σ H _ I hq) λus s1 ⟨xs,H1,I1,r,z,q⟩=>⟨by rw[<-r.length];exact z,?_⟩);have hf:H1 s1.heap.objs.size=none:=I1.hok.fresh (aw _);refine ⟨.ref s1.heap.objs.size,upd H1 s1.heap.objs.size (.lst xs),I1.laid (t':=s1.toks) (λb u e=>am _ e) (aw _) ?_,rfl,q _ hf⟩;exact ⟨z,us,0,r,bi _ rfl⟩
end
abbrev Sp:=List V->Hp->VK->XK->Prop
abbrev CXT:=List Env->Hp->Shared->XK->Value->Shared->Prop
structure Env0(P:Program)(w:World)(K:PF)(mg:Str->Option Value)(base:Heap)(A:Around)(outer:List Env)(s:Shared)(H:Hp):Prop where
 frames:A.frames=some outer
 mod:Mod K mg base
 bs:∀b o,base.get? b=some o->s.heap.get? b=some o/\H b=none
 bsz:base.objs.size<=s.heap.objs.size
 funs:s.heap.FunFrames base outer
 frf:∀b∈frs outer,H b=none
 hok:HOk P w H s.heap
 bare:AllBare s.gens
def CE(outer:List Env)(P:Program)(w:World)(H:Hp)(s:Shared)(Q:VK)(u:Value)(s':Shared):Prop:=
 ∃v H',s'.os=s.os/\AllBare s'.gens/\Un (frs outer) [] H H' s.heap s'.heap/\HOk P w H' s'.heap/\RelV v u/\Q v H'
def CR(CX:CXT)(outer:List Env)(P:Program)(w:World)(H:Hp)(s:Shared)(Q:VK)(E:XK)(r:Result)(s':Shared):Prop:=
 match r with
 |.ok (.ret u)=>CE outer P w H s Q u s'
 |.ok _=>False
 |.error e=>CX outer H s E e s'
structure FnOk(P:Program)(w:World)(K:PF)(mg:Str->Option Value)(base:Heap)(CX:CXT)(k:Nat)(f:Addr)(fd:FuncData)(ps:List Str)(sp:Sp):Prop where
 len:∀vs H Q E,sp vs H Q E->vs.length=ps.length
 run:∀(A:Around)(outer:List Env)(s:Shared)(H:Hp)(args:Args)(us:List Value)(vs:List V)(Q:VK)(E:XK),Room k A->Env0 P w K mg base A outer s H->BindsTo s fd args (ps.zip us)->Vals vs us->sp vs H Q E->
  codeAny (model P w) A (.call (.ref f) args) (CR CX outer P w H s Q E) s
theorem FnOk.mono{P:Program}{w:World}{K:PF}{mg:Str->Option Value}{base:Heap}{CX:CXT}{j k:Nat}{f:Addr}{fd:FuncData}{ps:List Str}{sp:Sp}(F:FnOk P w K mg base CX j f fd ps sp)(h:j<=k):
  FnOk P w K mg base CX k f fd ps sp:=⟨F.len,λA outer s H args us vs Q E hr=>F.run A outer s H args us vs Q E (hr.mono h)⟩
theorem FnOk.imp{P:Program}{w:World}{K:PF}{mg:Str->Option Value}{base:Heap}{CX:CXT}{k:Nat}{f:Addr}{fd:FuncData}{ps:List Str}{sp sp':Sp}(F:FnOk P w K mg base CX k f fd ps sp)
  (h:∀vs H Q E,sp' vs H Q E->sp vs H Q E):FnOk P w K mg base CX k f fd ps sp':=
 ⟨λvs H Q E q=>F.len vs H Q E (h _ _ _ _ q),λA outer s H args us vs Q E hr he hb hv hs=>F.run A outer s H args us vs Q E hr he hb hv (h _ _ _ _ hs)⟩
section
variable {X:Cx} {pins:List (Addr×Obj)} {σ:St} {H:Hp} {s s':Shared}
theorem Inv.env0(I:Inv X pins σ H s):Env0 X.prog X.w X.K X.mg X.base X.A X.stack s H:=
 ⟨I.ok.frames,I.ok.mod,I.bs,b6 I.ok.bsz I.sz,I.stack,I.stkFree,I.hok,I.bare⟩
theorem Inv.after{Q:VK}{u:Value}(I:Inv X pins σ H s)(h:CE X.stack X.prog X.w H s Q u s'):EP X pins σ Q u s':=by obtain ⟨v,H',os,bare,un,hok,r,q⟩:=h;obtain ⟨hh,g,d,t,os'⟩:=s';obtain rfl:os'=s.os:=os;exact ⟨v,H',I.call (h':=hh) (g':=g) (d':=d) (t':=t) (ch:=[]) un hok bare (λb z=>absurd z (by simp)),r,q⟩
end
def WK(sp:Sp)(dvs:List V)(E:XK)(t:TA):TE:=λσ H Q=>t σ H λvs H1=>sp (vs++dvs) H1 Q E
def Binds(K:PF)(fd:FuncData)(ps:List Str)(ds:List Value):Prop:=
 ∀(s:Shared)(us:List Value),K.In s.heap->(us++ds).length=ps.length->BindsTo s fd ⟨us,[]⟩ (ps.zip (us++ds))
theorem Binds.all{K:PF}{fd:FuncData}{ps:List Str}(h:∀us:List Value,us.length=ps.length->bindArgs fd ⟨us,[]⟩=pure (ps.zip us)):Binds K fd ps []:=λs us _ hl=>by
 rw[fN]at hl ⊢;exact .of_eq (h us hl)
def j7(CX:CXT)(X:Cx)(E:XK):Prop:=∀(pins:List (Addr×Obj))(σ:St)(H:Hp)(s:Shared)(e:Value)(s':Shared),Inv X pins σ H s->CX X.stack H s E e s'->X.xe e s'
section
variable {X:Cx} {CX:CXT} {k:Nat} {f C:Addr} {fd:FuncData} {ps:List Str} {sp:Sp} {dvs:List V} {ds:List Value} {E:XK} {x m:Str} {p pos apos:Pos} {e o:Expr} {es:List Expr} {ta:TE} {t:TA}
theorem WL{pins:List (Addr×Obj)}{σ:St}{H:Hp}{s:Shared}{Q:VK}{us:List Value}{vs:List V}(F:FnOk X.prog X.w X.K X.mg X.base CX k f fd ps sp)(hr:Room k X.A)(hb:Binds X.K fd ps ds)(hd:Vals dvs ds)(hx:j7 CX X E)
  (I:Inv X pins σ H s) (r:Vals vs us) (h:sp (vs++dvs) H Q E):wpAny (model X.prog X.w) X.A (call (.ref f) us) (EP X pins σ Q) X.xe s:=by
 have r2:Vals (vs++dvs) (us++ds):=r.append hd;have hl:(us++ds).length=ps.length:=by rw[<-r2.length];exact F.len _ _ _ _ h
 refine wpAny_call (codeAny_mono (F.run X.A X.stack s H ⟨us,[]⟩ (us++ds) (vs++dvs) Q E hr I.env0 (hb s us I.kIn hl) r2 h) λr s' hq=>?_);cases r with
 |error e=>exact hx pins σ H s e s' I hq
 |ok fl=>
  cases fl with
  |ret u=>exact I.after hq
  |next=>exact False.elim hq
  |brk=>exact False.elim hq
  |cont=>exact False.elim hq
theorem WM(F:FnOk X.prog X.w X.K X.mg X.base CX k f fd ps sp)(hr:Room k X.A)(hg:Gl X x)(hm:X.mg x=some (.ref f))(hk:PySem.W.keepIn X.K (.ref f)=true)(hb:Binds X.K fd ps ds)(hd:Vals dvs ds)(hx:j7 CX X E)
  (ha:PA X (e::es) t) (hdb:(x==("__debug__":Str))=false:=by decide) (he:starEach (e::es) X.env=(false,eval e X.env)::starEach es X.env:=by rfl) (hpl:(backTo pos (starEach es X.env)).any (·.1)=false:=by rfl):
  PE X (.Call (.Name x p) (e::es) [] pos) (WK sp dvs E t):=by
 intro pins s σ H Q I h;refine wpAny_Call_Name_kw (vA I hg hm ?_ hdb);refine PySem.W.callWith_K (h₀:=X.base) I.ok.mod.kin hk (thn (ha pos pins s σ H _ I h) λus s1 ⟨vs,H1,I1,r,q⟩=>⟨I1.kIn,?_⟩) he hpl;exact WL F hr hb hd hx I1 r q
structure Mk(K:PF)(C f:Addr):Prop where
 makes:PySem.W.makesIn K C=true
 init:PySem.W.findIn K (.ref C) "__init__"=some (some (.ref f))
 fn:PySem.W.isFn K (.ref f)=true
 kp:PySem.W.keepIn K (.ref C)=true
end
structure FnScope(N P:List Str)(sc:Scope):Prop where
 kind:sc.kind=.function
 co:sc.isCoroutine=false
 gen:sc.isGenerator=false
 nd:N.Nodup
 pre:N.take P.length=P
 par:∀x∈P,sc.names.lookup x=some .local\/sc.names.lookup x=some .cell
 nofree:∀y∈sc.names,y.2≠.free
theorem BK{kindOf:Str->Option NameKind}{x:Str}:∀{binds:List (Str×Value)}{m:Str->Option Value},(∀v,(x,v)∉binds)->bindL kindOf binds m x=m x
 |[],_,_=>rfl
 | (n,v)::r,m,h=>by
  unfold bindL;rw[BK λw hw=>h w (ba _ hw)];split
  ·have:x≠n:=by rintro rfl;exact h v bg
   simp[this]
  ·rfl
theorem BL{kindOf:Str->Option NameKind}{x:Str}:∀{binds:List (Str×Value)}{m:Str->Option Value},(∀v,(x,v)∉binds)->bindC kindOf binds m x=m x
 |[],_,_=>rfl
 | (n,v)::r,m,h=>by
  unfold bindC;rw[BL λw hw=>h w (ba _ hw)];split
  ·rfl
  ·have:x≠n:=by rintro rfl;exact h v bg
   simp[this]
theorem BP{kindOf:Str->Option NameKind}{x:Str}{v:Value}:∀{P:List Str}{vs:List Value}{i:Nat}{m:Str->Option Value},P.Nodup->P[i]?=some x->vs[i]?=some v->kindOf x=some .local->
  bindL kindOf (P.zip vs) m x=some v
 |[],_,_,_,_,h,_,_=>by simp at h
 |_::_,[],_,_,_,_,h,_=>by simp at h
 |p::P,w::vs,0,m,nd,h1,h2,hk=>by
  simp at h1 h2;subst h1;subst h2;show bindL kindOf ((p,w)::P.zip vs) m p=_;unfold bindL;rw[BK λv hv=>(List.nodup_cons.mp nd).1 (List.of_mem_zip hv).1,if_pos hk];simp
 |p::P,w::vs,i+1,m,nd,h1,h2,hk=>by
  show bindL kindOf ((p,w)::P.zip vs) m x=_;unfold bindL;exact BP (i:=i) (List.nodup_cons.mp nd).2 (by simpa using h1) (by simpa using h2) hk
theorem BR{kindOf:Str->Option NameKind}{x:Str}{v:Value}:∀{P:List Str}{vs:List Value}{i:Nat}{m:Str->Option Value},P.Nodup->P[i]?=some x->vs[i]?=some v->kindOf x≠some .local->
  bindC kindOf (P.zip vs) m x=some v
 |[],_,_,_,_,h,_,_=>by simp at h
 |_::_,[],_,_,_,_,h,_=>by simp at h
 |p::P,w::vs,0,m,nd,h1,h2,hk=>by
  simp at h1 h2;subst h1;subst h2;show bindC kindOf ((p,w)::P.zip vs) m p=_;unfold bindC;rw[BL λv hv=>(List.nodup_cons.mp nd).1 (List.of_mem_zip hv).1,if_neg hk];simp
 |p::P,w::vs,i+1,m,nd,h1,h2,hk=>by
  show bindC kindOf ((p,w)::P.zip vs) m x=_;unfold bindC;exact BR (i:=i) (List.nodup_cons.mp nd).2 (by simpa using h1) (by simpa using h2) hk
def start(N:List Str)(vs:List V):St:=vs.map some++List.replicate (N.length - vs.length) none
def dB(CX:CXT)(P:Program)(w:World)(K:PF)(mg:Str->Option Value)(base:Heap)(N:List Str)(qual:Str)(scope:Scope)(f:Addr)(cd:Value)(A:Around)(outer:List Env)(s:Shared)(H:Hp)(E:XK):Cx where
 prog:=P
 w:=w
 K:=K
 mg:=mg
 base:=base
 A:=A.deeper (envOfC qual scope s.heap.objs.size f cd)
 N:=N
 s₀:=s
 H₀:=H
 env:=envOfC qual scope s.heap.objs.size f cd
 outer:=outer
 stack:=envOfC qual scope s.heap.objs.size f cd::outer
 ex:=[]
 calm:=true
 fn:=λ_=>true
 pn:=[]
 xe:=λe s'=>wpAny (model P w) (A.deeper (envOfC qual scope s.heap.objs.size f cd)) (leaving (envOfC qual scope s.heap.objs.size f cd) e) (λ_ s''=>CX outer H s E e s'') (λe' s''=>CX outer H s E e' s'') s'
theorem BV{sc:Scope}{n:Nat}{x:Str}(h:sc.names.lookup x=some .cell):∃c,(cellsFrom n sc.names []).lookup x=some c:=by have q:=PySem.W.cellsFrom_some sc.names n [] (.inl h);exact cw.mp q
theorem BW{CX:CXT}{P:Program}{w:World}{K:PF}{mg:Str->Option Value}{base:Heap}{N ps:List Str}{qual:Str}{scope:Scope}{f:Addr}{cd:Value}{A:Around}{outer:List Env}{s s1:Shared}{H:Hp}{E:XK}{us:List Value}{vs:List V}
  (S:FnScope N ps scope) (hd:A.handled=none) (e0:Env0 P w K mg base A outer s H) (hl:vs.length=ps.length) (r:Vals vs us)
  (x:InCallC s s.heap.objs.size (bindL (envOfC qual scope s.heap.objs.size f cd).kindOf (ps.zip us) λ_=>none) (cellsFrom (s.heap.objs.size+1) scope.names []) (bindC (envOfC qual scope s.heap.objs.size f cd).kindOf (ps.zip us) λ_=>none) s1):
  Inv (dB CX P w K mg base N qual scope f cd A outer s H E) [] (start N vs) H s1:=by
 have hpl:ps.length<=N.length:=by have:=eA List.length S.pre;rw[aT]at this;omega
 obtain ⟨h1,tk,rfl,hk⟩:=x.done;have noA:∀b:Addr,b∉(dB CX P w K mg base N qual scope f cd A outer s H E).ex:=λb z=>absurd (show b∈([]:List Addr) from z) (by simp);refine ⟨⟨e0.mod,S.kind,rfl,rfl,aw _,λy z c h1 h2=>?_,λy hy=>?_,λy c _ h=>?_,λ_=>hd,Around.frames_deeper e0.frames,.inr ⟨rfl,rfl⟩,λb z=>absurd z (noA b),e0.bs,e0.bsz,λb _ _=>noA b,λb z=>absurd z (noA b),e0.funs,e0.frf⟩,
  rfl,e0.bare,Un.kept hk,⟨_,x.toInCall.ns,λi y v h1 h2 h3=>?_⟩,λy c h=>⟨_,x.cell y c h⟩,e0.hok.fresh (aw _),λy c h=>?_,λp hp=>absurd (show p∈([]:List (Addr×Obj)) from hp) (by simp),e0.hok.kept hk,?_⟩
 ·exact name_of_addr x.apart (eg h1) (eg h2)
 ·have hy:scope.names.lookup y=some .cell\/scope.names.lookup y=some .free:=hy;rcases hy with hy |hy
  ·exact BV hy
  ·exact absurd rfl (S.nofree _ (eg hy))
 ·exact Nat.le_of_lt (x.above y c (eg h))
 ·have hi:i < vs.length:=by
   unfold start at h2;by_cases hi:i < vs.length
   ·exact hi
   ·rw[fv (by simpa using hi)]at h2;rw[List.getElem?_replicate]at h2;split at h2 <;> cases h2
  have ha:vs[i]?=some v:=by
   unfold start at h2;rw[eh (by simpa using hi),ay]at h2;cases e:vs[i]? with
   |none=>rw[e]at h2;cases h2
   |some a=>rw[e]at h2;cases h2;rfl
  obtain ⟨u,hu,rv⟩:=r.get ha;have hp:ps[i]?=some y:=by rw[<-S.pre,List.getElem?_take_of_lt (by omega)];exact h1
  have ndP:ps.Nodup:=by rw[<-S.pre];exact S.nd.sublist (List.take_sublist _ _)
  refine ⟨u,rv,?_⟩;rcases S.par y (bv hp) with k |k
  ·exact .inl ⟨k,BP ndP hp hu k⟩
  ·obtain ⟨c,e⟩:=BV (n:=s.heap.objs.size+1) k;refine .inr ⟨.inl k,c,e,?_⟩;have q:=x.cell y c e;rw[BR ndP hp hu (by show scope.names.lookup y≠_;rw[k];decide)]at q;exact q
 ·exact e0.hok.fresh (Nat.le_of_lt (x.above y c (eg h)))
 ·unfold start;show _=N.length;rw[ar,ag,cy];omega
theorem WN{CX:CXT}{P:Program}{w:World}{K:PF}{mg:Str->Option Value}{base:Heap}{k:Nat}{f:Addr}{name qual:Str}{params:Arguments}{body:List Stmt}{scope:Scope}{dV kV doc pm cdv ct oc:Value}{an od:Option Addr}
  {osl:Array (Option Value)} {N ps:List Str} {sp:Sp} (lk:K.lookup f=some ⟨oc,od,.func (PySem.W.fnOf name qual params body scope dV kV doc pm an cdv ct),osl⟩) (hcd:PySem.W.codeIn K cdv qual=true) (S:FnScope N ps scope)
  (len:∀vs H Q E,sp vs H Q E->vs.length=ps.length)
  (hbody:∀(A:Around)(outer:List Env)(s:Shared)(H:Hp)(vs:List V)(Q:VK)(E:XK),Room k (A.deeper (envOfC qual scope s.heap.objs.size f cdv))->sp vs H Q E->
   ∃t,PSs (dB CX P w K mg base N qual scope f cdv A outer s H E) body t/\t { nx:=λ_ H'=>Q .non H',rt:=Q } (start N vs) H):
  FnOk P w K mg base CX (k+1) f (PySem.W.fnOf name qual params body scope dV kV doc pm an cdv ct) ps sp:=by
 refine ⟨len,λA outer s H args us vs Q E hr e0 hb r hsp=>?_⟩;have hl:=len _ _ _ _ hsp;have KX:K.In s.heap:=e0.mod.kin.keeps λb o e=>(e0.bs b o e).1;have lim:s.heap.NoLimit:=e0.mod.nolimit.keeps λb o e=>(e0.bs b o e).1;have hkind:∀y∈ps.zip us,scope.names.lookup y.1=some .local\/(scope.names.lookup y.1=some .cell/\((cellsFrom (s.heap.objs.size+1) scope.names []).lookup y.1).isSome=true):=λ⟨n,v⟩ hy=>by
  rcases S.par n (List.of_mem_zip hy).1 with q |q
  ·exact .inl q
  ·exact .inr ⟨q,PySem.W.cellsFrom_some _ _ _ (.inl q)⟩
 refine codeAny_call_function hr.depth (KX _ _ lk) rfl S.co S.gen rfl (PySem.W.codeRec_of KX hcd) (hb _ _ _ _ ?_);refine wpAny_newFunctionEnv_cells S.kind hkind λenv he s1 x=>?_;subst he;refine ⟨lim.keeps x.toInCall.keep,codeAny_func ?_⟩;obtain ⟨t,ht,hq⟩:=hbody A outer s H vs Q E (hr.deeper _) hsp;have I:Inv (dB CX P w K mg base N qual scope f cdv A outer s H E) [] (start N vs) H s1:=BW S hr.hd e0 hl r x;refine dc (ht [] s1 (start N vs) H _ I hq) (λfl s' hs=>?_) λe s' hs=>hs;have fin:∀{σ':St}{H':Hp}{v:V}{u:Value},Inv (dB CX P w K mg base N qual scope f cdv A outer s H E) [] σ' H' s'->RelV v u->Q v H'->CE outer P w H s Q u s':=
  λ{σ' H' v u} J rv q=>⟨v,H',J.os,J.bare,J.base,J.hok,rv,q⟩
 cases fl with
 |ret u=>
  obtain ⟨v,σ',H',J,rv,q⟩:=hs;exact fin J rv q
 |next=>
  obtain ⟨σ',H',J,q⟩:=hs;exact fin (v:=V.non) (u:=Value.none) J rfl q
 |brk=>
  obtain ⟨_,_,_,q⟩:=hs;exact False.elim q
 |cont=>
  obtain ⟨_,_,_,q⟩:=hs;exact False.elim q
section
variable {X:Cx} {x:Str} {p pos:Pos} {e:Expr} {es:List Expr} {t:TA} {id T:String} {r:List V->Hp->VK->Prop}
def tCB(r:List V->Hp->VK->Prop)(t:TA):TE:=λσ H Q=>t σ H λvs H1=>r vs H1 Q
theorem qy (hc:bT X (.builtin id) r) (hg:Gl X x) (hm:X.mg x=none) (hv:bootBuiltins x=some (.builtin id)) (ha:PA X (e::es) t) (hn:x≠"__name__":=by decide) (hdb:(x==("__debug__":Str))=false:=by decide)
  (he:starEach (e::es) X.env=(false,eval e X.env)::starEach es X.env:=by rfl) (hpl:(backTo pos (starEach es X.env)).any (·.1)=false:=by rfl):PE X (.Call (.Name x p) (e::es) [] pos) (tCB r t):=by
 intro pins s σ H Q I h;refine wpAny_Call_Name_kw (fQ I hg hm hv ?_ hn hdb);exact PyProof.Rows.callWith_builtin1 (thn (ha pos pins s σ H _ I h) λus s1 ⟨vs,H1,I1,r1,q1⟩=>hc pins s1 σ H1 vs us Q I1 r1 q1) he hpl
theorem qz (hc:bT X (.type T) r) (hg:Gl X x) (hm:X.mg x=none) (hv:bootBuiltins x=some (.type T)) (ha:PA X (e::es) t) (hn:x≠"__name__":=by decide) (hdb:(x==("__debug__":Str))=false:=by decide)
  (he:starEach (e::es) X.env=(false,eval e X.env)::starEach es X.env:=by rfl) (hpl:(backTo pos (starEach es X.env)).any (·.1)=false:=by rfl):PE X (.Call (.Name x p) (e::es) [] pos) (tCB r t):=by
 intro pins s σ H Q I h;refine wpAny_Call_Name_kw (fQ I hg hm hv ?_ hn hdb);exact dr (thn (ha pos pins s σ H _ I h) λus s1 ⟨vs,H1,I1,r1,q1⟩=>hc pins s1 σ H1 vs us Q I1 r1 q1) he hpl
end
end L2
namespace HT
open PySem PyProof.Rows
section
variable {prog:Program} {w:World} {A:Around} {E:Value->Shared->Prop} {s:Shared}
theorem WP{t b:Addr}{vs ws:List Value}{Q:Value->Shared->Prop}(ht:IsTup s.heap t vs.toArray)(hb:IsTup s.heap b ws.toArray)(hv:vs≠[])
  (h1:ws=[]->Q (.ref t) s) (h2:ws≠[]->Q (.ref s.heap.objs.size) { s with heap:=s.heap.push { cls:=.type "tuple",data:=.seq (vs++ws).toArray } })
  (hsz:vs.length+ws.length<=sizeLine):wpAny (model prog w) A (binaryOp .Add (.ref t) (.ref b)) Q E s:=by
 obtain ⟨⟨cls,dd,data,sl⟩,ho,hc,n,hd⟩:=id ht;obtain ⟨⟨cls2,dd2,data2,sl2⟩,ho2,hc2,n2,hd2⟩:=id hb;simp only at hc hd hc2 hd2;subst hc hd hc2 hd2;have e:vs.toArray++ws.toArray=(vs++ws).toArray:=by simp
 by_cases hw:ws=[]
 ·exact concat_meets ⟨_,ho,rfl⟩ ⟨_,ho2,rfl⟩ noFill_tuple_add seq_tuple_add PySem.F.slot_tuple_add PySem.F.entry_tuple_add (PySem.F.args_tuple_add_2 _ _)
   (tuple_addW1 t b vs.toArray ws.toArray n n2 dd dd2 sl sl2 (by simpa using hv) (by simp[hw])) ⟨ho,ho2,h1 hw⟩
 ·refine concat_meets ⟨_,ho,rfl⟩ ⟨_,ho2,rfl⟩ noFill_tuple_add seq_tuple_add PySem.F.slot_tuple_add PySem.F.entry_tuple_add (PySem.F.args_tuple_add_2 _ _)
   (tuple_addW2 t b vs.toArray ws.toArray n n2 dd dd2 sl sl2 (by simpa using hv) (by simpa using hw) (by rw[List.size_toArray,List.size_toArray];exact hsz)) ⟨ho,ho2,?_⟩
  rw[e];exact h2 hw
noncomputable def sIx(n d:Nat):Option Int->Nat
 |none=>d
 |some v=>if v < 0 then (v+(n:Int)).toNat else min v.toNat n
theorem BX(n d k:Nat):sIx n d (some (k:Int))=min k n:=by show (if (k:Int) < 0 then ((k:Int)+(n:Int)).toNat else min (k:Int).toNat n)=min k n;rw[if_neg (by omega),Int.toNat_natCast]
theorem BZ(n d:Nat)(hd:d<=n)(o:Option Int):sIx n d o<=n:=by
 cases o with
 |none=>exact hd
 |some v=>
  show (if v < 0 then (v+(n:Int)).toNat else min v.toNat n)<=n;by_cases hv:v < 0
  ·rw[if_pos hv];omega
  ·rw[if_neg hv];exact Nat.min_le_right _ _
theorem Ca(v:Int)(n d:Nat):(if v < 0 then max (v+(n:Int)) 0 else min v (n:Int))=((sIx n d (some v):Nat):Int):=by
 show (if v < 0 then max (v+(n:Int)) 0 else min v (n:Int))=(((if v < 0 then (v+(n:Int)).toNat else min v.toNat n):Nat):Int);by_cases hv:v < 0
 ·simp only[if_pos hv];omega
 ·simp only[if_neg hv];omega
theorem WQ(lo hi:Option Int)(n:Nat):Builtin.Slice.sliceAdjust lo hi 1 (n:Int)=(((sIx n 0 lo:Nat):Int),((sIx n n hi:Nat):Int)):=by
 have h1:¬((1:Int) < 0):=by omega
 unfold Builtin.Slice.sliceAdjust;simp only[h1,if_false];refine Prod.ext ?_ ?_
 ·cases lo with
  |none=>rfl
  |some v=>exact Ca v n 0
 ·cases hi with
  |none=>rfl
  |some v=>exact Ca v n n
theorem WR(i j:Nat):Builtin.Slice.slicePlaces (i:Int) (j:Int) 1=j - i:=by
 unfold Builtin.Slice.slicePlaces;have h1:(1:Int) > 0:=by omega
 simp only[h1,if_true,Int.ediv_one];split <;> omega
theorem Cd{v:Value}{o:Option Int}{Q:Option Int->Shared->Prop}(p:IsPart v o)(h:Q o s):wpAny (model prog w) A (Builtin.Slice.slicePartIndex v) Q E s:=by
 cases p with
 |none=>exact slicePart_none h
 |int i t=>exact slicePart_int h
theorem Ce{sl:Addr}{vl vu:Value}{lo hi:Option Int}{n:Nat}{Q:Int×Int×Nat->Shared->Prop}(hs:s.heap.IsSliceOf sl vl vu .none)(pl:IsPart vl lo)(pu:IsPart vu hi)
  (h:Q (((sIx n 0 lo:Nat):Int),1,sIx n n hi - sIx n 0 lo) s):wpAny (model prog w) A (Builtin.Slice.sliceApplied (.ref sl) (pure (n:Int))) Q E s:=by
 obtain ⟨os,hos,hcs,hds⟩:=id hs;unfold Builtin.Slice.sliceApplied Builtin.Slice.sliceFields;refine wpAny_bind (wpAny_bind (wpAny_field hos hds (x:=vl) rfl (wpAny_bind (wpAny_field hos hds (x:=vu) rfl (wpAny_bind (wpAny_field hos hds (x:=.none) rfl (wpAny_pure ?_)))))));refine wpAny_bind (slicePart_none ?_);show wpAny _ _ (if ((1:Int)==0)=true then _ else _) _ _ s;rw[if_neg (by decide)];refine wpAny_bind (Cd pl (wpAny_bind (Cd pu (wpAny_bind (wpAny_pure ?_)))));show wpAny _ _ (match Builtin.Slice.sliceAdjust lo hi 1 (n:Int) with | (lo,hi)=>pure (lo,(1:Int),Builtin.Slice.slicePlaces lo hi 1)) _ _ s;rw[WQ lo hi n];show wpAny _ _ (pure (((sIx n 0 lo:Nat):Int),(1:Int),Builtin.Slice.slicePlaces ((sIx n 0 lo:Nat):Int) ((sIx n n hi:Nat):Int) 1)) _ _ s;rw[WR];exact wpAny_pure h
theorem WT(xs:Array Value)(i k:Nat):((List.range k).filterMap λ(m:Nat)=>xs[((i:Int)+(m:Int) * 1).toNat]?).toArray=((xs.toList.drop i).take k).toArray:=by
 have e:(λ(m:Nat)=>xs[((i:Int)+(m:Int) * 1).toNat]?)=λm=>xs[i+m]?:=by
  funext m;have:((i:Int)+(m:Int) * 1).toNat=i+m:=by omega
  rw[this]
 rw[e];have:=pick_run xs i k;rw[List.filterMap_map]at this;have e2:((λx=>xs[x]?)∘λx=>i+x)=λm=>xs[i+m]?:=rfl;rw[e2]at this;rw[this]
theorem WX{t sl:Addr}{items:Array Value}{vl vu:Value}{lo hi:Option Int}{Q:Value->Shared->Prop}(ht:IsTup s.heap t items)(hs:s.heap.IsSliceOf sl vl vu .none)(pl:IsPart vl lo)(pu:IsPart vu hi)
  (hw:¬(sIx items.size 0 lo=0/\sIx items.size items.size hi=items.size))
  (h:Q (.ref s.heap.objs.size) { s with heap:=s.heap.push { cls:=.type "tuple",data:=.seq ((items.toList.drop (sIx items.size 0 lo)).take (sIx items.size items.size hi - sIx items.size 0 lo)).toArray } })
  (hsz:items.size<=sizeLine):wpAny (model prog w) A (getItem (.ref t) (.ref sl)) Q E s:=by
 have htake:sizeOk (.seq ((items.toList.drop (sIx items.size 0 lo)).take (sIx items.size items.size hi - sIx items.size 0 lo)).toArray):=by show ((items.toList.drop (sIx items.size 0 lo)).take (sIx items.size items.size hi - sIx items.size 0 lo)).toArray.size<=sizeLine;rw[List.size_toArray,List.length_take,List.length_drop,Array.length_toList];omega
 have hj:sIx items.size items.size hi<=items.size:=BZ _ _ (Nat.le_refl _) hi;obtain ⟨os,hos,hcs,hds⟩:=id hs;have hTs:s.TypeIs (.ref sl) "slice":=⟨os,hos,hcs⟩;unfold getItem;try with_reducible refine wpAny_holding ?_
 first |refine wpAny_bind (wpAny_pure ?_) |skip
 refine wpAny_bind (wpAny_sequenceKey ht.typeIs (by decide) ?_);refine wpAny_bind (wpAny_callSpecial?_slot (name:=Str.ofString "__getitem__") ht.typeIs PyProof.Rows.slot_tuple_getitem
  (wpAny_call_entry PyProof.Rows.slot_tuple_getitem ht.typeIs entry_tuple_getitem ?_ (args_tuple_getitem _ _)))
 show wpAny _ _ (Builtin.Tuple.tupleItemsOf (.ref t) >>= _) _ _ s;refine wpAny_bind (tupleItemsOf_ ht ?_);refine wpAny_bind (wpAny_typeOf hTs ?_);rw[if_pos (by decide)];refine wpAny_bind (Ce hs pl pu ?_);have hno:¬((((sIx items.size 0 lo:Nat):Int)==0&&(1:Int)==1&&(sIx items.size items.size hi - sIx items.size 0 lo)==items.size)=true):=by intro q;rw[Bool.and_eq_true,Bool.and_eq_true]at q;have q1:((sIx items.size 0 lo:Nat):Int)=0:=eq_of_beq q.1.1;have q2:sIx items.size items.size hi - sIx items.size 0 lo=items.size:=eq_of_beq q.2;exact hw ⟨by omega,by omega⟩
 show wpAny _ _ (if (((sIx items.size 0 lo:Nat):Int)==0&&(1:Int)==1&&(sIx items.size items.size hi - sIx items.size 0 lo)==items.size)=true then _ else _) _ _ s;rw[if_neg hno,WT];first
  |exact wpAny_bind (m:=Builtin.Tuple.tupleExact _) (wpAny_newObj_type (wpAny_pure ⟨_,rfl,wpAny_pure h⟩) htake)
  |exact wpAny_bind (m:=Builtin.Tuple.tupleExact _) (wpAny_newObj_type (wpAny_bind (wpAny_pure (wpAny_pure ⟨_,rfl,wpAny_pure h⟩))) htake)
  |exact wpAny_bind (wpAny_bind (m:=Builtin.Tuple.tupleExact _) (wpAny_newObj_type (wpAny_pure (wpAny_pure ⟨_,rfl,wpAny_pure h⟩)) htake))
  |exact wpAny_bind (wpAny_bind (m:=Builtin.Tuple.tupleExact _) (wpAny_newObj_type (wpAny_pure ⟨_,rfl,wpAny_pure h⟩) htake))
end
end HT
namespace L2
open PySem PySem.Spec PyProof.Rows
abbrev TO:=St->Hp->(Option Int->Hp->Prop)->Prop
def PO(X:Cx)(e:Option Expr)(t:TO):Prop:=
 ∀(pins:List (Addr×Obj))(s:Shared)(σ:St)(H:Hp)(Q:Option Int->Hp->Prop),Inv X pins σ H s->t σ H Q->
  wpAny (model X.prog X.w) X.A (evalPart e X.env) (λu s'=>∃o H',Inv X pins σ H' s'/\IsPart u o/\Q o H') X.xe s
def WY:TO:=λ_ H Q=>Q none H
def W0(t:TE):TO:=λσ H Q=>t σ H λx H1=>∃i,x=.int i/\Q (some i) H1
theorem intsAre_of{ns:List Int}:∀{us:List Value},Vals (ns.map V.int) us->IntsAre us ns:=by
 induction ns with
 |nil=>intro us r;rw[de]at r;cases r;exact .nil
 |cons n ns ih=>
  intro us r;rw[br]at r;cases r with
  |cons r1 r2=>
   obtain ⟨t,e⟩:=r1;subst e;exact .cons n t (ih r2)
section
variable {X:Cx} {e:Expr} {te:TE} {lo hi:Option Expr} {tl th:TO} {pos p2:Pos}
theorem W2:PO X none WY:=by intro pins s σ H Q I h;rw[evalPart_none];exact bo ⟨none,H,I,.none,h⟩
theorem W3(h:PE X e te):PO X (some e) (W0 te):=by intro pins s σ H Q I hw;rw[evalPart_some];refine thn (h pins s σ H _ I hw) λu s1 ⟨x,H1,I1,r1,q1⟩=>?_;obtain ⟨i,rfl,q⟩:=q1;obtain ⟨t,rfl⟩:=r1;exact ⟨some i,H1,I1,.int i t,q⟩
def SlR(X:Cx)(r:V->Option Int->Option Int->Hp->VK->Prop):Prop:=
 ∀(pins:List (Addr×Obj))(s:Shared)(σ:St)(H:Hp)(x:V)(v vl vu:Value)(lo hi:Option Int)(sl:Addr)(Q:VK),Inv X pins σ H s->RelV x v->s.heap.IsSliceOf sl vl vu .none->IsPart vl lo->IsPart vu hi->r x lo hi H Q->
  ∃T id,typeLookup (.type T) "__getitem__"=pure (some (.builtin id))/\s.TypeIs v T/\wpAny (model X.prog X.w) X.A (getItem v (.ref sl)) (EP X pins σ Q) X.xe s
def tSl(r:V->Option Int->Option Int->Hp->VK->Prop)(te:TE)(tl th:TO):TE:=λσ H Q=>te σ H λx H1=>tl σ H1 λl H2=>th σ H2 λu H3=>r x l u H3 Q
theorem W4{r:V->Option Int->Option Int->Hp->VK->Prop}(hr:SlR X r)(he:PE X e te)(hl:PO X lo tl)(hu:PO X hi th):PE X (.Subscript e (.Slice lo hi none p2) pos) (tSl r te tl th):=by intro pins s σ H Q I h;refine Subscript_ (thn (he pins s σ H _ I h) λv s1 ⟨x,H1,I1,r1,q1⟩=>?_);refine wpAny_Slice (thn (hl pins s1 σ H1 _ I1 q1) λvl s2 ⟨l,H2,I2,pl,q2⟩=>thn (hu pins s2 σ H2 _ I2 q2) λvu s3 ⟨u,H3,I3,pu,q3⟩=>?_);rw[evalPart_none];refine bo ?_;have I4:Inv X pins σ H3 { s3 with heap:=s3.heap.push { cls:=.type "slice",data:=.fields #[vl,vu,.none] } }:=I3.kept (t':=s3.toks) λb ob q=>am _ q;obtain ⟨T,id,hT,ht,hg⟩:=hr pins { s3 with heap:=s3.heap.push { cls:=.type "slice",data:=.fields #[vl,vu,.none] } } σ H3 x v vl vu l u s3.heap.objs.size Q I4 r1 (Heap.IsSliceOf.new ..) pl pu q3;show wpAny (model X.prog X.w) X.A (subscriptTail e (.Slice lo hi none p2) v (.ref s3.heap.objs.size)) (EP X pins σ Q) X.xe { s3 with heap:=s3.heap.push { cls:=.type "slice",data:=.fields #[vl,vu,.none] } };exact tail_any (ops:=[.ref s3.heap.objs.size,v]) ht hT hg (by with_unfolding_all rfl)
noncomputable def dW(xs:List V)(lo hi:Option Int):List V:=(xs.drop (HT.sIx xs.length 0 lo)).take (HT.sIx xs.length xs.length hi - HT.sIx xs.length 0 lo)
theorem Cg(xs:List V)(lo hi:Option Int):(dW xs lo hi).length<=xs.length:=by unfold dW;rw[aT,bp];omega
noncomputable def W5(K:PF):V->Option Int->Option Int->Hp->VK->Prop:=λx lo hi H Q=>∃a xs,x=.ref a/\SqT K H a xs/\
 ¬(HT.sIx xs.length 0 lo=0/\HT.sIx xs.length xs.length hi=xs.length)/\∀p,H p=none->Q (.ref p) (upd H p (.tup (dW xs lo hi)))
theorem W6:SlR X (W5 X.K):=by
 intro pins s σ H x v vl vu lo hi sl Q I rx hs pl pu h;obtain ⟨a,xs,rfl,hx,hw,q⟩:=h;cases rx;obtain ⟨its,r,ht,hz⟩:=I.tuple hx;have hlen:its.toArray.size=xs.length:=by rw[av];exact r.length.symm
 refine ⟨"tuple",_,e9.lookup,ht.typeIs,?_⟩;refine HT.WX ht hs pl pu (by rw[hlen];exact hw) ?_ (by rw[hlen];exact hz);rw[hlen];refine ⟨.ref s.heap.objs.size,_,I.laid (t':=s.toks) (o:=.tup (dW xs lo hi)) (λb ob q=>am _ q) (aw _) ?_,rfl,q _ (I.hok.fresh (aw _))⟩;exact ⟨b6 (Cg xs lo hi) hz,_,(r.drop (HT.sIx xs.length 0 lo)).take (HT.sIx xs.length xs.length hi - HT.sIx xs.length 0 lo),IsTup.new _ _⟩
def W7(K:PF):R2:=λx y H Q=>∃a b xs ys,x=.ref a/\y=.ref b/\SqT K H a xs/\SqT K H b ys/\xs≠[]/\xs.length+ys.length<=sizeLine/\
 (ys=[]->Q (.ref a) H)/\(ys≠[]->∀p,H p=none->Q (.ref p) (upd H p (.tup (xs++ys))))
theorem Vals.nil_iff{xs:List V}{us:List Value}(r:Vals xs us):us=[]↔xs=[]:=by
 cases r with
 |nil=>simp
 |cons _ _=>simp
theorem W8:OpR X (binaryOp .Add) (W7 X.K):=by intro pins s σ H x y v u Q I rx ry h;obtain ⟨a,b,xs,ys,rfl,rfl,ha,hb,hx,hz,q1,q2⟩:=h;cases rx;cases ry;obtain ⟨its,r1,p1,_⟩:=I.tuple ha;obtain ⟨its2,r2,p2,_⟩:=I.tuple hb;refine HT.WP p1 p2 (λz=>hx (r1.nil_iff.mp z)) (λz=>⟨.ref a,H,I,rfl,q1 (r2.nil_iff.mp z)⟩) (λz=>?_) (by rw[<-r1.length,<-r2.length];exact hz);refine ⟨.ref s.heap.objs.size,_,I.laid (t':=s.toks) (o:=.tup (xs++ys)) (λb ob q=>am _ q) (aw _) ?_,rfl,q2 (λw=>z (r2.nil_iff.mpr w)) _ (I.hok.fresh (aw _))⟩;exact ⟨by rw[ar];exact hz,_,r1.append r2,IsTup.new _ _⟩
end
noncomputable def ixN(n:Nat)(i:Int):Option Nat:=if 0<=i then (if i < n then some i.toNat else none) else if -(n:Int)<=i then some (i+n).toNat else none
def atI{α:Type}(xs:List α)(i:Int):Option α:=(ixN xs.length i).bind λj=>xs[j]?
theorem Ci{n:Nat}{i:Int}{j:Nat}(h:ixN n i=some j):seqIndex? i n=some j/\j < n/\-(n:Int)<=i/\i < n:=by
 unfold ixN at h;by_cases h0:0<=i
 ·rw[if_pos h0]at h;by_cases h1:i < n
  ·rw[if_pos h1]at h;have e:i.toNat=j:=dy h;exact ⟨by rw[seqIndex_of h0 h1,e],by omega,by omega,h1⟩
  ·rw[if_neg h1]at h;cases h
 ·rw[if_neg h0]at h;by_cases h1:-(n:Int)<=i
  ·rw[if_pos h1]at h;have e:(i+n).toNat=j:=dy h;exact ⟨by rw[seqIndex_neg (by omega) h1,e],by omega,h1,by omega⟩
  ·rw[if_neg h1]at h;cases h
theorem vJ{α:Type}{xs:List α}{i:Int}{v:α}(h:atI xs i=some v):∃j,seqIndex? i xs.length=some j/\xs[j]?=some v/\j < xs.length/\-(xs.length:Int)<=i/\i < xs.length:=by
 unfold atI at h;cases e:ixN xs.length i with
 |none=>rw[e]at h;cases h
 |some j=>
  rw[e]at h;obtain ⟨h1,h2,h3,h4⟩:=Ci e;exact ⟨j,h1,h,h2,h3,h4⟩
theorem bU{α:Type}{xs:List α}{j:Nat}{v:α}(h:xs[j]?=some v):atI xs (j:Int)=some v:=by
 have hj:j < xs.length:=(ah.mp h).1;have e:ixN xs.length (j:Int)=some j:=by unfold ixN;rw[if_pos (by omega),if_pos (by omega)];simp
 unfold atI;rw[e];exact h
theorem Cj{α:Type}(xs:List α)(v:α):atI (xs++[v]) (-1)=some v:=by
 have hl:(xs++[v]).length=xs.length+1:=by simp
 have e:ixN (xs++[v]).length (-1)=some xs.length:=by unfold ixN;rw[hl,if_neg (by decide),if_pos (by omega)];congr 1;omega
 unfold atI;rw[e];show (xs++[v])[xs.length]?=some v;simp
def Ck(b:Expr):Prop:=∀o i,subscripted b false o i=operate [o,i] (getItem o i)
def IxR(X:Cx)(r:R2):Prop:=
 ∀(value slice:Expr)(pins:List (Addr×Obj))(s:Shared)(σ:St)(H:Hp)(x y:V)(v u:Value)(Q:VK),Inv X pins σ H s->RelV x v->RelV y u->r x y H Q->
  subscripted slice false v u=operate [v,u] (getItem v u)->wpAny (model X.prog X.w) X.A (subscriptTail value slice v u) (EP X pins σ Q) X.xe s
def MtR(X:Cx)(id:String)(r:V->List V->Hp->VK->Prop):Prop:=
 ∀(pins:List (Addr×Obj))(s:Shared)(σ:St)(H:Hp)(x:V)(xs:List V)(v:Value)(us:List Value)(Q:VK),Inv X pins σ H s->RelV x v->Vals xs us->r x xs H Q->
  wpAny (model X.prog X.w) X.A (call (.builtin id) (v::us)) (EP X pins σ Q) X.xe s
section
variable {X:Cx} {a b:Expr} {ta tb:TE} {pos:Pos}
theorem W9{r:R2}(hr:IxR X r)(ha:PE X a ta)(hb:PE X b tb)(hs:Ck b):PE X (.Subscript a b pos) (tOp r ta tb):=by intro pins s σ H Q I h;exact Subscript_ (vH ha hb I h λv u s2 x y H2 I2 rx ry q=>hr a b pins s2 σ H2 x y v u Q I2 rx ry q (hs _ _))
def Xa(K:PF):R2:=λx y H Q=>∃p xs i v,x=.ref p/\y=.int i/\SqL K H p xs/\atI xs i=some v/\Q v H
def Xb(K:PF):R2:=λx y H Q=>∃p xs i v,x=.ref p/\y=.int i/\SqT K H p xs/\atI xs i=some v/\Q v H
def Xc:R2:=λx y H Q=>∃z i c,x=.str z/\y=.int i/\z.length<=sizeLine/\atI z.cps.toList i=some c/\Q (.str ⟨#[c]⟩) H
theorem Xd:IxR X (Xa X.K):=by
 intro value slice pins s σ H x y v u Q I rx ry h hs;obtain ⟨p,xs,i,z,rfl,rfl,hq,he,q⟩:=h;cases rx;obtain ⟨t,rfl⟩:=ry;obtain ⟨its,r,pl,hz⟩:=I.list hq;obtain ⟨j,h1,h2,h3,h4,h5⟩:=vJ he;obtain ⟨w,ew,rw'⟩:=r.get h2;have hl:=r.length;have hn:=ik;have fin:EP X pins σ Q w s:=⟨z,H,I,rw',q⟩;by_cases h0:0<=i
 ·have hj:i.toNat=j:=by
   rw[seqIndex_of h0 h5]at h1;exact dy h1
  exact item_listR pl.isList h0 (by omega) (by rw[hj];simpa using ew) fin hs
 ·have hj:(i+(its.toArray.size:Int)).toNat=j:=by
   rw[seqIndex_neg (by omega) h4]at h1;rw[av,<-hl];exact dy h1
  exact subscriptTail_builtinR (x:=w) pl.isList.typeIs slot_list_getitem.lookup
   (wpAny_getItem_list_neg (Q:=λr s'=>r=w/\EP X pins σ Q r s') pl.isList (by omega) (by rw[av] <;> omega) (by omega) (by rw[hj];simpa using ew) ⟨rfl,fin⟩) hs
theorem Xe:IxR X (Xb X.K):=by
 intro value slice pins s σ H x y v u Q I rx ry h hs;obtain ⟨p,xs,i,z,rfl,rfl,hq,he,q⟩:=h;cases rx;obtain ⟨t,rfl⟩:=ry;obtain ⟨its,r,pl,hz⟩:=I.tuple hq;obtain ⟨j,h1,h2,h3,h4,h5⟩:=vJ he;obtain ⟨w,ew,rw'⟩:=r.get h2;have hl:=r.length;have hn:=ik;have fin:EP X pins σ Q w s:=⟨z,H,I,rw',q⟩;exact subscriptTail_builtinR (x:=w) pl.typeIs slot_tuple_getitem.lookup
  (getItem_tuple (j:=j) (Q:=λr s'=>r=w/\EP X pins σ Q r s') pl (by omega) (by omega) (by rw[av,<-hl];exact h1) (by simpa using ew) ⟨rfl,fin⟩) hs
theorem Xf:IxR X Xc:=by
 intro value slice pins s σ H x y v u Q I rx ry h hs;obtain ⟨z,i,c,rfl,rfl,hz,he,q⟩:=h;obtain ⟨t,rfl⟩:=rx;obtain ⟨t',rfl⟩:=ry;obtain ⟨j,h1,h2,h3,h4,h5⟩:=vJ he;have hl:z.cps.toList.length=z.length:=by simp[Str.length]
 rw[hl]at h1 h4 h5;have hn:=ik;exact tail_any (typeIs_str s z t) slot_str_getitem.lookup (getItem_str (c:=c) (by
  have e1:decide (i < -(2 ^ 63:Int))=false:=cm (by omega);have e2:decide (i≥2 ^ 63)=false:=cm (by omega);rw[e1,e2,Bool.or_false]) (by rw[h1];simpa using h2) ⟨.str ⟨#[c]⟩,H,I.tok _,⟨_,rfl⟩,q⟩) hs
theorem Xg (its:List Value) (n j:Nat) (u:Value):Obj.mapSeq (·.setIfInBounds j u) { cls:=.type "list",data:=.seq its.toArray n }={ cls:=.type "list",data:=.seq (its.set j u).toArray n }:=by simp[Obj.mapSeq]
theorem Inv.lst{pins:List (Addr×Obj)}{σ:St}{H:Hp}{s:Shared}{p:Addr}{xs:List V}(I:Inv X pins σ H s)(h:H p=some (.lst xs)):
  ∃(its:List Value) (n:Nat),Vals xs its/\s.heap.get? p=some { cls:=.type "list",data:=.seq its.toArray n }/\xs.length<=sizeLine:=by
 obtain ⟨z,its,n,r,e⟩:=I.hok p _ h;exact ⟨its,n,r,e,z⟩
theorem Inv.lstUpd{pins:List (Addr×Obj)}{σ:St}{H:Hp}{s:Shared}{p:Addr}{xs ys:List V}{its its':List Value}{n n':Nat}{f:Obj->Obj}(I:Inv X pins σ H s)(h:H p=some (.lst xs))
  (ho:s.heap.get? p=some { cls:=.type "list",data:=.seq its.toArray n }) (hf:f { cls:=.type "list",data:=.seq its.toArray n }={ cls:=.type "list",data:=.seq its'.toArray n' }) (r:Vals ys its') (hz:ys.length<=sizeLine) (t:Nat):
  Inv X pins σ (upd H p (.lst ys)) { s with heap:=s.heap.update p f,toks:=t }:=by
 have e:(s.heap.update p f).get? p=some { cls:=.type "list",data:=.seq its'.toArray n' }:=by rw[Heap.get?_update_self f ho (by rw[hf] <;> rfl),hf]
 refine I.write (x:=p) (e:=p) (by rw[h];trivial) (.inl rfl) (λb u hb q=>(Heap.get?_update_other _ _ (Ne.symm hb)).trans q) ⟨_,e⟩ ?_;exact ⟨hz,its',n',r,e⟩
def Xh:V->V->V->Hp->(Hp->Prop)->Prop:=λo i v H Q=>∃p xs k j,o=.ref p/\i=.int k/\H p=some (.lst xs)/\ixN xs.length k=some j/\Q (upd H p (.lst (xs.set j v)))
theorem set_list:vC X Xh:=by
 intro pins s σ H o i v ov iv u Q I ro ri rv h;obtain ⟨p,xs,k,j,rfl,rfl,hp,hj,q⟩:=h;cases ro;obtain ⟨t,rfl⟩:=ri;obtain ⟨its,n,r,ho,hz⟩:=I.lst hp;obtain ⟨h1,h2,h3,h4⟩:=Ci hj;have hl:=r.length;have hn:=ik;have I':Inv X pins σ (upd H p (.lst (xs.set j v))) { s with heap:=s.heap.update p (Obj.mapSeq (·.setIfInBounds j u)) }:=
  I.lstUpd hp ho (Xg its n j u) (r.set rv j) (by rw[ci];exact hz) s.toks
 by_cases h0:0<=k
 ·have hk:k.toNat=j:=by
   rw[seqIndex_of h0 h4]at h1;exact dy h1
  exact PySem.W.ki_setAt ho h0 (by omega) (by rw[av,<-hl];exact h4) (by rw[hk];exact ⟨_,I',q⟩)
 ·have hk:(k+(its.toArray.size:Int)).toNat=j:=by
   rw[seqIndex_neg (by omega) h3]at h1;rw[av,<-hl];exact dy h1
  exact PySem.W.ki_setBack ho (by omega) (by rw[av,<-hl];exact h3) (by omega) (by rw[hk];exact ⟨_,I',q⟩)
theorem Cm(lo hi:Option Int)(n:Nat):(sliceBounds lo hi none n).1=((HT.sIx n 0 lo:Nat):Int)/\(sliceBounds lo hi none n).2.1=((HT.sIx n n hi:Nat):Int)/\(sliceBounds lo hi none n).2.2=1:=by
 refine ⟨?_,?_,rfl⟩
 ·cases lo with
  |none=>simp[sliceBounds,HT.sIx]
  |some i=>
   simp only[sliceBounds,HT.sIx,Option.getD_none,show (1:Int) > 0 by decide,if_true];by_cases h:i < 0
   ·simp only[h,if_true] <;> omega
   ·simp only[h,if_false] <;> omega
 ·cases hi with
  |none=>simp[sliceBounds,HT.sIx]
  |some i=>
   simp only[sliceBounds,HT.sIx,Option.getD_none,show (1:Int) > 0 by decide,if_true];by_cases h:i < 0
   ·simp only[h,if_true] <;> omega
   ·simp only[h,if_false] <;> omega
theorem Xi(its:List Value)(lo hi:Option Int):slicePick its.toArray lo hi none=((its.drop (HT.sIx its.length 0 lo)).take (HT.sIx its.length its.length hi - HT.sIx its.length 0 lo)).toArray:=by obtain ⟨h1,h2,h3⟩:=Cm lo hi its.toArray.size;unfold slicePick;rw[h1,h2,h3];simp only[sliceRange_one,pick_run,av] <;> rfl
noncomputable def Xj(K:PF):V->Option Int->Option Int->Hp->VK->Prop:=λx lo hi H Q=>∃a xs,x=.ref a/\SqL K H a xs/\∀p,H p=none->Q (.ref p) (upd H p (.lst (dW xs lo hi)))
theorem Cp:SlR X (Xj X.K):=by intro pins s σ H x v vl vu lo hi sl Q I rx hs pl pu h;obtain ⟨a,xs,rfl,hx,q⟩:=h;cases rx;obtain ⟨its,r,ht,hz⟩:=I.list hx;have hlen:=r.length;refine ⟨"list",_,slot_list_getitem.lookup,ht.isList.typeIs,?_⟩;refine wpAny_getItem_list_slice ht.isList hs pl pu .none (by simp) ?_ (by rw[av] <;> omega);rw[Xi,<-hlen];refine ⟨.ref s.heap.objs.size,_,I.laid (t':=s.toks) (o:=.lst (dW xs lo hi)) (λb ob q=>am _ q) (aw _) ?_,rfl,q _ (I.hok.fresh (aw _))⟩;exact ⟨b6 (Cg xs lo hi) hz,_,0,(r.drop (HT.sIx xs.length 0 lo)).take (HT.sIx xs.length xs.length hi - HT.sIx xs.length 0 lo),bi _ rfl⟩
theorem Cq:bT X (.builtin "len") (λxs H Q=>∃p ys,xs=[.ref p]/\(SqL X.K H p ys\/SqT X.K H p ys)/\Q (.int ys.length) H):=by
 intro pins s σ H xs us Q I r h;obtain ⟨p,ys,rfl,hq,q⟩:=h;obtain ⟨u,rfl,rx⟩:=vals1 r;cases rx;have hn:=ik;rcases hq with hq |hq
 ·obtain ⟨its,r',pl,hz⟩:=I.list hq;have hlen:=r'.length;exact Calls.call_len_list pl.isList (by simp only[av] <;> omega) ⟨.int ys.length,H,I.tok _,⟨s.toks+1,by rw[av,hlen]⟩,q⟩
 ·obtain ⟨its,r',pl,hz⟩:=I.tuple hq;have hlen:=r'.length;exact len_tuple pl (by simp only[av] <;> omega) ⟨.int ys.length,H,I.tok _,⟨s.toks+1,by rw[av,hlen]⟩,q⟩
theorem Xk:bT X (.builtin "len") (λxs H Q=>∃z,xs=[.str z]/\z.length<=sizeLine/\Q (.int z.length) H):=by intro pins s σ H xs us Q I r h;obtain ⟨z,rfl,hz,q⟩:=h;obtain ⟨u,rfl,t,rfl⟩:=vals1 r;have hn:=ik;exact len_str (by omega) ⟨.int z.length,H,I.tok _,⟨_,rfl⟩,q⟩
theorem Cr:bT X (.type "list") (λxs H Q=>∃p ys,xs=[.ref p]/\(SqL X.K H p ys\/SqT X.K H p ys)/\∀l,H l=none->Q (.ref l) (upd H l (.lst ys))):=by
 intro pins s σ H xs us Q I r h;obtain ⟨p,ys,rfl,hq,q⟩:=h;obtain ⟨u,rfl,rx⟩:=vals1 r;cases rx;have fin:∀(its:List Value),Vals ys its->ys.length<=sizeLine->∀(h':Heap)(c':Nat),(∀b o',s.heap.get? b=some o'->h'.get? b=some o')->
   h'.get? s.heap.objs.size=some { cls:=.type "list",dict:=none,data:=.seq its.toArray c',slots:=#[] }->EP X pins σ Q (.ref s.heap.objs.size) { s with heap:=h' }:=λits r' hz h' c' kp e=>
  ⟨.ref s.heap.objs.size,_,I.laid (t':=s.toks) kp (aw _) (show ObjOk X.prog X.w _ h' _ (.lst ys) from ⟨hz,its,c',r',e⟩),rfl,q _ (I.hok.fresh (aw _))⟩
 rcases hq with hq |hq
 ·obtain ⟨its,r',pl,hz⟩:=I.list hq;have hlen:=r'.length;obtain ⟨o,ho,hc,n,hd⟩:=pl.isList;exact call_list_seq p (.inl rfl) ho hc hd (λh' c' kp e=>fin its r' hz h' c' kp e) (by simp only[av] <;> omega)
 ·obtain ⟨its,r',pl,hz⟩:=I.tuple hq;have hlen:=r'.length;obtain ⟨o,ho,hc,n,hd⟩:=pl;exact call_list_seq p (.inr rfl) ho hc hd (λh' c' kp e=>fin its r' hz h' c' kp e) (by simp only[av] <;> omega)
theorem Cu:bT X (.type "tuple") (λxs H Q=>∃p ys,xs=[.ref p]/\((SqL X.K H p ys/\∀l,H l=none->Q (.ref l) (upd H l (.tup ys)))\/(SqT X.K H p ys/\Q (.ref p) H))):=by
 intro pins s σ H xs us Q I r h;obtain ⟨p,ys,rfl,h⟩:=h;obtain ⟨u,rfl,rx⟩:=vals1 r;cases rx;rcases h with ⟨hq,q⟩ |⟨hq,q⟩
 ·obtain ⟨its,r',pl,hz⟩:=I.list hq;have hlen:=r'.length;refine call_tuple_list pl.isList (λh' kp=>?_) (by simp only[av] <;> omega);have I1:Inv X pins σ H { s with heap:=h' }:=I.kept (t':=s.toks) kp;have I2:Inv X pins σ (upd H h'.objs.size (.tup ys)) { s with heap:=h'.push { cls:=.type "tuple",data:=.seq its.toArray } }:=
   I1.laid (t':=s.toks) (λb o e=>am _ e) (aw _) (show ObjOk X.prog X.w _ _ _ (.tup ys) from ⟨hz,its,r',IsTup.new _ _⟩)
  exact ⟨.ref h'.objs.size,_,I2,rfl,q _ (I1.hok.fresh (aw _))⟩
 ·obtain ⟨its,r',pl,hz⟩:=I.tuple hq;exact call_tuple_same pl ⟨.ref p,H,I,rfl,q⟩
def tyV(K:PF)(T:String)(x:V)(H:Hp):Prop:=match x with
 |.str _=>T="str"
 |.int _=>T="int"
 |.ref p=>(T="list"/\∃xs,SqL K H p xs)\/(T="tuple"/\∃o,K.lookup p=some o/\o.cls=.type "tuple"/\o.dict=none)\/
   (T="dict"/\((∃kvs,H p=some (.dK kvs))\/∃kvs,H p=some (.dT kvs)))\/(T="set"/\∃S n,H p=some (.set S n))
 |_=>False
theorem Xl{pins:List (Addr×Obj)}{σ:St}{H:Hp}{s:Shared}{T:String}{x:V}{v:Value}(I:Inv X pins σ H s)(r:RelV x v)(ty:tyV X.K T x H):
  s.TypeIs v T/\∀a,v=.ref a->∃ob,s.heap.get? a=some ob/\ob.dict=none:=by
 cases x with
 |str z=>
  obtain ⟨t,rfl⟩:=r;cases (show T="str" from ty);exact ⟨typeIs_str s z t,λ_ e=>nomatch e⟩
 |int i=>
  obtain ⟨t,rfl⟩:=r;cases (show T="int" from ty);exact ⟨typeIs_int s i t,λ_ e=>nomatch e⟩
 |ref p=>
  cases r;rcases ty with ⟨rfl,xs,hq⟩ |⟨rfl,o,hk,hc,hd⟩ |⟨rfl,hk⟩ |⟨rfl,S,n,hk⟩
  ·obtain ⟨its,_,pl,_⟩:=I.list hq;refine ⟨pl.isList.typeIs,λa e=>?_⟩;cases e;obtain ⟨o,n,e,c,hd,_⟩:=pl;exact ⟨o,e,hd⟩
  ·refine ⟨⟨o,I.kIn p o hk,hc⟩,λa e=>?_⟩;cases e;exact ⟨o,I.kIn _ o hk,hd⟩
  ·have z:∃o,s.heap.get? p=some o/\o.ExactDict:=by
    rcases hk with ⟨kvs,hk⟩ |⟨kvs,hk⟩
    ·obtain ⟨_,_,_,_,o,_,_,e,ex,_⟩:=I.hok p _ hk;exact ⟨o,e,ex⟩
    ·obtain ⟨_,_,_,_,o,_,_,e,ex,_⟩:=I.hok p _ hk;exact ⟨o,e,ex⟩
   obtain ⟨o,e,ex⟩:=z;refine ⟨⟨o,e,ex.1⟩,λa e2=>?_⟩;cases e2;exact ⟨o,e,ex.2.1⟩
  ·obtain ⟨o,_,_,_,e,ex,_⟩:=I.hok p _ hk;refine ⟨⟨o,e,ex.1⟩,λa e2=>?_⟩;cases e2;exact ⟨o,e,ex.2.1⟩
 |_=>exact False.elim ty
def tBM(K:PF)(T:String)(r:V->List V->Hp->VK->Prop)(to:TE)(t:TA):TE:=λσ H Q=>to σ H λx H1=>tyV K T x H1/\t σ H1 λxs H2=>r x xs H2 Q
variable {o e:Expr} {es:List Expr} {to:TE} {t:TA} {name:Str} {apos cpos:Pos} {T id:String} {r:V->List V->Hp->VK->Prop}
theorem gG (pa:PlainAttrs T) (slot:Slot T name id) (hty:typeOf (.builtin id)=pure (.type "method_descriptor")) (hm:MtR X id r) (ho:PE X o to) (ha:PA X (e::es) t)
  (hbase:attributeBase o name X.env (eval o X.env)=eval o X.env:=by rfl)
  (hfew:((backTo cpos (starEach (e::es) X.env)).all (λx=>!x.1)&&(backToKw cpos (keywordEach [] X.env)).all (λx=>x.1.isSome)
  &&decide ((e::es).length+([]:List Keyword).length+(if ([]:List Keyword).isEmpty then 0 else 1) < 30))=true:=by rfl)
  (hline:(apos.endLine==cpos.line)=true:=by rfl) (hs:starEach (e::es) X.env=(false,eval e X.env)::starEach es X.env:=by rfl) (hplain:(backTo cpos (starEach es X.env)).any (·.1)=false:=by rfl):
  PE X (.Call (.Attribute o name apos) (e::es) [] cpos) (tBM X.K T r to t):=by
 intro pins s σ H Q I h;refine wpAny_Call_method_late hbase hfew hline rfl (thn (ho pins s σ H _ I h) λv s1 ⟨x,H1,I1,r1,ty,q1⟩=>?_);obtain ⟨h1,h2⟩:=Xl I1 r1 ty;refine ⟨T,id,pa,slot,hty,h1,h2,?_⟩;have hA:=ha cpos pins s1 σ H1 _ I1 q1;rw[hs]at hA ⊢;refine Calls.callWith_builtin (by show (false||(backTo cpos (starEach es X.env)).any (·.1))=false;rw[hplain] <;> rfl) (Calls.evalArgs_plain ?_);exact thn hA λus s2 ⟨vs,H2,I2,r2,q2⟩=>hm pins s2 σ H2 x vs v us Q I2 r1 r2 q2
end
def MtM(X:Cx)(id:String)(r:V->List V->Hp->VK->Prop):Prop:=
 ∀(pins:List (Addr×Obj))(s:Shared)(σ:St)(H:Hp)(x:V)(xs:List V)(v:Value)(us:List Value)(Q:VK),Inv X pins σ H s->RelV x v->Vals xs us->r x xs H Q->
  wpAny (model X.prog X.w) X.A (call (.builtin id) (v::us)) (EP X pins σ Q) X.xe s
theorem Vals.one:∀{x:V}{us:List Value},Vals [x] us->∃u,us=[u]/\RelV x u
 |_,_,.cons r .nil=>⟨_,rfl,r⟩
theorem Vals.eraseIdx:∀{xs:List V}{us:List Value}(i:Nat),Vals xs us->Vals (xs.eraseIdx i) (us.eraseIdx i)
 |_,_,_,.nil=>.nil
 |_,_,0,.cons _ t=>t
 |_,_,i+1,.cons r t=>.cons r (Vals.eraseIdx i t)
theorem Vals.rep{xs:List V}{us:List Value}(h:Vals xs us):∀k:Nat,Vals (List.replicate k xs).flatten (List.replicate k us).flatten
 |0=>.nil
 |k+1=>by
  rw[cp,cp,e6,e6];exact Vals.append h (Vals.rep h k)
theorem Cv{α:Type}:∀(l:List α)(i:Nat),(l.eraseIdx i).length<=l.length
 |[],_=>aw _
 |_::_,0=>Nat.le_succ _
 |_::r,i+1=>Nat.succ_le_succ (Cv r i)
theorem foldl_rep(its:List Value):∀(k:Nat)(acc:List Value),
  List.foldl (λx1 x2=>x1++x2) acc.toArray (List.replicate k its.toArray)=(acc++(List.replicate k its).flatten).toArray
 |0,acc=>by simp
 |k+1,acc=>by
  have e:acc.toArray++its.toArray=(acc++its).toArray:=by simp
  have e2:(acc++its)++(List.replicate k its).flatten=acc++(List.replicate (k+1) its).flatten:=by rw[cp,e6,cr]
  rw[<-e2,<-foldl_rep its k (acc++its),<-e,cp,List.foldl_cons]
section
variable {X:Cx} {pins:List (Addr×Obj)} {σ:St} {H:Hp} {s:Shared} {l b:Addr} {xs ys zs:List V}
theorem Inv.lset{its its':List Value}{n:Nat}{f:Array Value->Array Value}{t':Nat}(I:Inv X pins σ H s)(hH:H l=some (.lst xs))
  (e:s.heap.get? l=some { cls:=.type "list",data:=.seq its.toArray n }) (hf:f its.toArray=its'.toArray) (hv:Vals ys its') (hz:ys.length<=sizeLine):
  Inv X pins σ (upd H l (.lst ys)) { s with heap:=s.heap.update l (Obj.mapSeq f),toks:=t' }:=by
 have q:=PySem.IsL.update e f;rw[hf]at q;refine I.write (x:=l) (e:=l) (by rw[hH];exact trivial) (.inl rfl) (λb' u hb hu=>(Heap.get?_update_other s.heap (Obj.mapSeq f) (Ne.symm hb)).trans hu) ⟨_,q⟩ ?_;exact ⟨hz,its',_,hv,q⟩
theorem Inv.lnew{its:List Value}{t':Nat}(I:Inv X pins σ H s)(hv:Vals ys its)(hz:ys.length<=sizeLine):
  Inv X pins σ (upd H s.heap.objs.size (.lst ys)) { s with heap:=s.heap.push { cls:=.type "list",data:=.seq its.toArray },toks:=t' }:=
 I.laid (λ_ _ q=>am _ q) (aw _) ⟨hz,its,0,hv,bi _ rfl⟩
theorem Inv.fresh(I:Inv X pins σ H s):H s.heap.objs.size=none:=I.hok.fresh (aw _)
theorem Inv.lstM (I:Inv X pins σ H s) (hH:H l=some (.lst xs)):xs.length<=sizeLine/\∃(its:List Value) (n:Nat),Vals xs its/\xs.length=its.length/\s.heap.get? l=some { cls:=.type "list",data:=.seq its.toArray n }:=by obtain ⟨z,its,n,r,e⟩:=I.hok l _ hH;exact ⟨z,its,n,r,r.length,e⟩
theorem Cw{n:Nat}(h:n<=sizeLine):Builtin.List.listTooLong n=false:=by unfold Builtin.List.listTooLong;exact cm (by omega)
end
section
variable {X:Cx}
noncomputable def Xm:V->List V->Hp->VK->Prop:=λx vs H Q=>∃l xs y,x=.ref l/\vs=[y]/\H l=some (.lst xs)/\xs.length < sizeLine/\Q .non (upd H l (.lst (xs++[y])))
theorem Xo:MtM X "list.append" Xm:=by intro pins s σ H x vs v us Q I rx rv h;obtain ⟨l,xs,y,rfl,rfl,hH,hz,q⟩:=h;cases rx;obtain ⟨u,rfl,ru⟩:=rv.one;obtain ⟨z,its,n,r,hl,e⟩:=I.lstM hH;refine fA F.slot_list_append ⟨_,e,rfl⟩ F.entry_list_append (F.args_list_append_2 _ _) (PySem.list_append l its.toArray n u (by rw[av];omega)) ⟨e,?_⟩;refine ⟨.non,_,I.lset (its':=its++[u]) hH e (by simp) (r.append (.cons ru .nil)) ?_,rfl,q⟩;rw[ar,fe];omega
noncomputable def Xp:V->List V->Hp->VK->Prop:=λx vs H Q=>∃l b xs zs,x=.ref l/\vs=[.ref b]/\H l=some (.lst xs)/\H b=some (.lst zs)/\xs.length+zs.length<=sizeLine/\Q .non (upd H l (.lst (xs++zs)))
theorem Xq:MtM X "list.extend" Xp:=by
 intro pins s σ H x vs v us Q I rx rv h;obtain ⟨l,b,xs,zs,rfl,rfl,hH,hB,hz,q⟩:=h;cases rx;obtain ⟨u,rfl,ru⟩:=rv.one;cases ru;obtain ⟨z,its,n,r,hl,e⟩:=I.lstM hH;obtain ⟨z2,its2,n2,r2,hl2,e2⟩:=I.lstM hB;have hsz:its.toArray.size+its2.toArray.size<=sizeLine:=by rw[av,av];omega
 have hlong:¬(!its.toArray.isEmpty&&Builtin.List.listTooLong (its.toArray.size+its2.toArray.size))=true:=by rw[Cw hsz,Bool.and_false];exact a9
 refine fA F.slot_list_extend ⟨_,e,rfl⟩ F.entry_list_extend (F.args_list_extend_2 _ _)
  (AutoSeq1.list_extend_list_list_0 l its.toArray n b its2.toArray n2 hlong (by rw[av];omega) (by omega)) ⟨e,e2,?_⟩
 refine ⟨.non,_,I.lset (its':=its++its2) hH e (by simp) (r.append r2) ?_,rfl,q⟩;rw[ar];omega
noncomputable def Xr:V->List V->Hp->VK->Prop:=λx vs H Q=>∃l xs i k y,x=.ref l/\vs=[.int i]/\H l=some (.lst xs)/\-(2 ^ 63)<=i/\i < 2 ^ 63/\seqIndex? i xs.length=some k/\xs[k]?=some y/\Q y (upd H l (.lst (xs.eraseIdx k)))
theorem Xu:MtM X "list.pop" Xr:=by
 intro pins s σ H x vs v us Q I rx rv h;obtain ⟨l,xs,i,k,y,rfl,rfl,hH,h1,h2,hk,hy,q⟩:=h;cases rx;obtain ⟨u,rfl,ru⟩:=rv.one;obtain ⟨t,rfl⟩:=ru;obtain ⟨z,its,n,r,hl,e⟩:=I.lstM hH;obtain ⟨w,hw,rw'⟩:=r.get hy;refine fA F.slot_list_pop ⟨_,e,rfl⟩ F.entry_list_pop (F.args_list_pop_2 _ _)
  (MeetsSeq.list_pop_at l its.toArray n i t k w (fitsIndex_both h1 h2) (by rw[av,<-hl];exact hk) (by rw[<-gl];exact hw) (by rw[av];omega)) ⟨e,?_⟩
 refine ⟨y,_,I.lset (its':=its.eraseIdx k) hH e ?_ (r.eraseIdx k) ?_,rw',q⟩
 ·show its.toArray.eraseIdxIfInBounds k=(its.eraseIdx k).toArray;rw[List.eraseIdxIfInBounds_toArray]
 ·have:=Cv xs k;omega
theorem len_rep{α:Type}(xs:List α)(k:Nat):(List.replicate k xs).flatten.length=k * xs.length:=by
 induction k with
 |zero=>simp
 |succ k ih=>rw[cp,e6,ar,ih,Nat.succ_mul,Nat.add_comm]
end
end L2
namespace Att
open PySem PySem.W PySem.Calls PyProof.Rows
theorem Xv{P:Params}{h:Heap}:∀(ns:List Int)(vs:List Value),WellAll P h vs (ns.map WData.int)->IntsAre vs ns:=by
 intro ns;induction ns with
 |nil=>
  intro vs w;rw[List.map_nil]at w;cases w;exact .nil
 |cons n ns ih=>
  intro vs w;rw[List.map_cons]at w;cases w with
  |cons a b=>
   cases a;exact .cons _ _ (ih _ b)
theorem Xw{l:OpenLaw}{n:Nat}(hn:l.most=some n){P:Params}{h:Heap}{args:List WData}{vals:List Value}
  (hpre:l.row.toRowW.claim.pre args=true) (hwl:WellAll P h vals args):
  ∃a vs ns,vals=[Value.ref a]/\args=[WData.list (ns.map WData.int)]/\h.get? a=some { cls:=.type "list",data:=.seq vs.toArray }/\IntsAre vs ns/\ns.length<=n:=by
 have hsh:WShape.hasAll [] args [.list .int]=true:=(pre_splitW hpre).1;have hc:l.pre.holds [] { args:=args }=true:=(pre_splitW hpre).2;obtain ⟨d,r,rfl,h1,h2⟩:=hasAllW_cons hsh;obtain rfl:=hasAllW_nil h2;obtain ⟨xs,rfl,h3⟩:=hasW_list h1;obtain ⟨ns,rfl⟩:=items_int h3;have hlen:ns.length<=n:=by
  unfold OpenLaw.pre at hc;have h4:(WTm.not (.lt (.lit (.int (n:Int))) (.len (.arg 0)))).holds [] { args:=[.list (ns.map .int)] }=true:=by have h4:=(holds_andW hc).1;rw[hn]at h4;exact h4
  have h5:=condW_of h4 (w_not (w_lt w_lit (w_len_list (w_arg rfl))));rw[List.length_map]at h5;refine Nat.le_of_not_lt λq=>?_;have q':(n:Int) < ((ns.length:Nat):Int):=by omega
  first
   | (rw[decide_eq_true q']at h5;exact absurd h5 (by decide))
   | (simp at h5;omega)
 cases hwl with
 |cons w1 w2=>
  cases w2;cases w1 with
  |list ho hall=>exact ⟨_,_,ns,rfl,rfl,ho,Xv ns _ hall,hlen⟩
theorem Xx(l:OpenLaw)(args:List WData):l.row.toRowW.claim.post args (.bool true) args=true:=
 postW_of (r:=l.row.toRowW) (X:=(true==true))
  (show WShape.has [] (.bool true) .bool=true by first |rfl |decide |simp[WShape.has,WShape.arms,WShape.armsAll])
  (show (WTm.eq .res (.lit (.bool true))).value [] { args:=args,res:=some (.bool true),after:=args }=some (.bool (true==true)) from w_eq_bool (w_res rfl) w_lit) rfl
theorem attach_call{l:OpenLaw}{n:Nat}{q:Program}{loose:List Str}{XP:(Str->Option Value)->Heap->Prop}{YP:World->Heap->Prop}{d:DefRec}
  (hn:l.most=some n) (hdf:d.params.defaults=[])
  (call:∀(w:World)(s₀ s₁:Shared)(mg mb:Str->Option Value)(fa:Addr)(o:Obj)(pm cd doc:Value)(a:Addr)(vs:List Value)(ns:List Int),
   Ground q loose [] XP w s₀ mg mb s₁.heap->YP w s₁.heap->
   s₁.heap.get? fa=some o->o.data=.func (docDef d.name d.params d.body d.scope pm cd doc)->s₁.heap.CodeRec cd d.name->mg d.name=some (.ref fa)->
   s₁.heap.get? a=some { cls:=.type "list",data:=.seq vs.toArray }->IntsAre vs ns->ns.length<=n->s₁.gens=#[]->
   codeAny (model l.prog w) callerA (.call (.ref fa) ⟨[.ref a],[]⟩) (λr s'=>r=.ok (.ret (.bool true))/\OldK s₁.heap s'.heap/\s'.os=s₁.os/\AllBare s'.gens) s₁):
  WalkO q loose XP YP l.row.toRowW d [] (λf vs=>PySem.call f vs):=by
 intro w s₀ s₁ mg mb G Y fa o pm cd doc dV kV ho hd hcd hD hmg hg args vals as hpre hlay hrd hwl hlo;obtain rfl:dV=.none:=Dflts.none hD hdf;obtain rfl:kV=.none:=Dflts.noKw hD;obtain ⟨a,vs,ns,rfl,rfl,hobj,hints,hlen⟩:=Xw hn hpre hwl;refine enter_call (codeAny_mono (call w s₀ s₁ mg mb fa o pm cd doc a vs ns G Y ho (fd_plain hd) hcd hmg hobj hints hlen hg) λr s' hq=>?_);obtain ⟨rfl,h2,h3,h4⟩:=hq;exact ⟨.inl ⟨.bool true,.bool true,[],rfl,λ_=>rfl,.bool true,Xx l _,λ_=>⟨List.Pairwise.nil,λ_ hm=>(nomatch hm)⟩⟩,h2,h3,h4⟩
end Att
namespace L2
open PySem PySem.Spec PyProof.Rows
theorem vK:∀{vs:List Value}{ns:List Int},IntsAre vs ns->Vals (ns.map V.int) vs
 |_,_,.nil=>.nil
 |_,_,.cons n t h=>.cons ⟨t,rfl⟩ (vK h)
def Only(H:Hp):Prop:=∀b,H b=none\/∃o xs,H b=some (.frz o (.lst xs))
theorem Xy{P:Program}{w:World}{K:PF}{mg mb:Str->Option Value}{CX:CXT}{k:Nat}{fa a:Addr}{fd:FuncData}{x:Str}{sp:Sp}{s₁:Shared}{vs:List Value}{ns:List Int}
  (KX:K.In s₁.heap) (hns:s₁.heap.Ns mainGlobals mg) (hb:s₁.heap.Ns builtinsNs mb) (hbb:∀x:Str,x≠"__name__"->mb x=bootBuiltins x) (hlim:s₁.heap.NoLimit) (hg:s₁.gens=#[])
  (ha:s₁.heap.get? a=some { cls:=.type "list",data:=.seq vs.toArray }) (hi:IntsAre vs ns) (hl:ns.length<=sizeLine) (hr:Room k callerA)
  (F:∀base:Heap,K.In base->base.Ns mainGlobals mg->FnOk P w K mg base CX k fa fd [x] sp) (hbind:∀(s:Shared)(u:Value),BindsTo s fd ⟨[u],[]⟩ [(x,u)])
  (hsp:∀H:Hp,Only H->SqL K H a (ns.map V.int)->sp [.ref a] H (λv _=>v=.bl true) λ_ _ _=>False)
  (hCX:∀H e s',CX [] H s₁ (λ_ _ _=>False) e s'->False):
  codeAny (model P w) callerA (.call (.ref fa) ⟨[.ref a],[]⟩) (λr s'=>r=.ok (.ret (.bool true))/\OldK s₁.heap s'.heap/\s'.os=s₁.os/\AllBare s'.gens) s₁:=by
 have rv:=vK hi;have lenV:=hi.length
 -- from an abstract heap in which nothing but the script may be tracked
 have core:∀H:Hp,Only H->SqL K H a (ns.map V.int)->HOk P w H s₁.heap->(∀b,H b≠none->b=a)->(H a≠none->K.lookup a=none)->
   codeAny (model P w) callerA (.call (.ref fa) ⟨[.ref a],[]⟩) (λr s'=>r=.ok (.ret (.bool true))/\OldK s₁.heap s'.heap/\s'.os=s₁.os/\AllBare s'.gens) s₁:=by
  intro H hO hS hok hA hK;have base_of:∀{b:Addr}{o:Obj},s₁.heap.get? b=some o->H b=none->(dz s₁.heap H).get? b=some o:=λe n=>Ux e n;have noA:∀{b:Addr}{o:Obj}{es:Array DictEntry}{ep:Nat},s₁.heap.get? b=some o->o.data=.dict es ep->H b=none:=λ{b o es ep} e d=>by
   cases q:H b with
   |none=>rfl
   |some u=>
    have e':b=a:=hA b (by rw[q];simp);subst e';rw[ha]at e;cases e;have d':Data.seq vs.toArray _=Data.dict es ep:=d;cases d'
  have nsK:∀{b:Addr}{m:Str->Option Value},s₁.heap.Ns b m->(dz s₁.heap H).Ns b m:=λ{b m} ⟨o,es,ep,e,d,r⟩=>⟨o,es,ep,base_of e (noA e d),d,r⟩;have hKb:K.In (dz s₁.heap H):=λb o e=>base_of (KX b o e) (by
   cases q:H b with
   |none=>rfl
   |some u=>
    have e':b=a:=hA b (by rw[q];simp);subst e';rw[hK (by rw[q];simp)]at e;cases e)
  have hM:Mod K mg (dz s₁.heap H):=⟨hKb,nsK hns,⟨mb,nsK hb,hbb⟩,let ⟨mc,h1,h2⟩:=hlim;⟨mc,nsK h1,h2⟩⟩;have e0:Env0 P w K mg (dz s₁.heap H) callerA [] s₁ H:=⟨rfl,hM,λb o e=>Uy e,Nat.le_of_eq (Uw _ _),trivial,λb hb=>absurd (show b∈([]:List Addr) from hb) (by simp),hok,.of_eq hg⟩;refine codeAny_mono ((F _ hKb (nsK hns)).run callerA [] s₁ H ⟨[.ref a],[]⟩ [.ref a] [.ref a] _ _ hr e0 (hbind s₁ (.ref a)) (.cons rfl .nil) (hsp H hO hS)) λr s' h=>?_;cases r with
  |error e=>exact (hCX H e s' h).elim
  |ok fl=>
   cases fl with
   |next=>exact False.elim h
   |brk=>exact False.elim h
   |cont=>exact False.elim h
   |ret u=>
    obtain ⟨v,H',os,bare,un,hok',r',q⟩:=h;have q':v=.bl true:=q;subst q';obtain rfl:u=Value.bool true:=r';refine ⟨rfl,OldK.of_keep λb o e=>?_,os,bare⟩;cases q:H b with
    |none=>exact un.keep b o e q (by intro z;exact absurd (show b∈([]:List Addr) from z) (by simp)) (by simp)
    |some u=>
     rcases hO b with z |⟨ob,xs,z⟩
     ·rw[q]at z;cases z
     ·have z2:=un.frzs b ob _ z;obtain ⟨e1,_⟩:=hok b _ z;obtain ⟨e2,_⟩:=hok' b _ z2;rw[e]at e1;cases e1;exact e2
 cases hk:K.lookup a with
 |some o=>
  -- the script is one of the module's own objects
  have e:=KX a o hk;rw[ha]at e;cases e;refine core (λ_=>none) (λ_=>.inl rfl) (.inr ⟨_,vs.toArray,_,hk,rfl,rfl,rfl,by rw[av,lenV];exact hl,by simpa using rv⟩) (λb u z=>by have z':(none:Option HO)=some u:=z;cases z') (λb z=>absurd rfl z) λz=>absurd rfl z
 |none=>
  refine core (λb=>if b=a then some (.frz { cls:=.type "list",data:=.seq vs.toArray } (.lst (ns.map V.int))) else none) (λb=>?_) (.inl (.inr ⟨{ cls:=.type "list",data:=.seq vs.toArray },if_pos rfl⟩)) (λb u z=>?_) (λb z=>?_) λ_=>hk
  ·by_cases hb:b=a
   ·exact .inr ⟨_,_,if_pos hb⟩
   ·exact .inl (if_neg hb)
  ·by_cases hb:b=a
   ·have z':=(if_pos hb).symm.trans z;cases z';subst hb;exact ⟨ha,by rw[ag];exact hl,vs,_,rv,ha⟩
   ·have z':=(if_neg hb).symm.trans z;cases z'
  ·by_cases hb:b=a
   ·exact hb
   ·exact absurd (if_neg hb) z
theorem Xz{l:PySem.W.OpenLaw}{n k:Nat}{q:Program}{loose:List Str}{XP:(Str->Option Value)->Heap->Prop}{YP:World->Heap->Prop}{d:DefRec}{K:Params->PF}{CX:World->CXT}{sp:World->Sp}{x:Str}
  (hn:l.most=some n) (hn2:n<=sizeLine) (hdf:d.params.defaults=[]) (hr:Room k callerA)
  (hY:∀(w:World)(h:Heap),YP w h->(K w.params).In h)
  (F:∀(w:World)(mg:Str->Option Value)(fa:Addr)(h:Heap),(K w.params).In h->h.Ns mainGlobals mg->mg d.name=some (.ref fa)->
   ∃fd:FuncData,(∀(s:Shared)(u:Value),BindsTo s fd ⟨[u],[]⟩ [(x,u)])/\
    ∀base:Heap,(K w.params).In base->base.Ns mainGlobals mg->FnOk l.prog w (K w.params) mg base (CX w) k fa fd [x] (sp w))
  (hsp:∀(w:World)(H:Hp)(a:Addr)(ns:List Int),ns.length<=n->Only H->SqL (K w.params) H a (ns.map V.int)->sp w [.ref a] H (λv _=>v=.bl true) λ_ _ _=>False)
  (hCX:∀(w:World)(H:Hp)(s:Shared)(e:Value)(s':Shared),CX w [] H s (λ_ _ _=>False) e s'->False):
  PySem.W.WalkO q loose XP YP l.row.toRowW d [] (λf vs=>PySem.call f vs):=by
 refine Att.attach_call hn hdf λw s₀ s₁ mg mb fa o pm cd doc a vs ns G Y ho hd hcd hmg hobj hints hlen hg=>?_;have KX:=hY w _ Y;obtain ⟨fd,hb,hF⟩:=F w mg fa _ KX G.T.g hmg;exact Xy KX G.T.g G.T.b G.T.builtins G.T.nolimit hg hobj hints (b6 hlen hn2) hr hF hb (λH hO hS=>hsp w H a ns hlen hO hS) λH e s'=>hCX w H s₁ e s'
def j8(s:Stmt):Arguments:=match s with
 |.FunctionDef _ a _ _ _ _ _ _ _ _=>a
 |_=>{ posonlyargs:=[],args:=[],vararg:=none,kwonlyargs:=[],kw_defaults:=[],kwarg:=none,defaults:=[] }
def aF(s:Stmt):List Stmt:=match s with
 |.FunctionDef _ _ b _ _ _ _ _ _ _=>b
 |_=>[]
def aq(s:Stmt):Scope:=match s with
 |.FunctionDef _ _ _ _ _ _ sc _ _ _=>sc
 |_=>{ kind:=.function,names:=[],isGenerator:=false,isCoroutine:=false }
abbrev CX0:CXT:=λ_ _ _ _ _ _=>False
structure Fun(K:PF)(x qual:Str)(st:Stmt)(f:Addr)(fd:FuncData):Prop where
 ex:∃(oc:Value)(od:Option Addr)(kV doc pm:Value)(an:Option Addr)(cdv ct:Value)(osl:Array (Option Value)),
  fd=PySem.W.fnOf x qual (j8 st) (aF st) (aq st) .none kV doc pm an cdv ct/\K.lookup f=some ⟨oc,od,.func fd,osl⟩/\PySem.W.codeIn K cdv qual=true
 kp:PySem.W.keepIn K (.ref f)=true
section
variable {P:Program} {w:World} {K:PF} {mg:Str->Option Value} {base:Heap}
theorem Fun.binds{x qual:Str}{st:Stmt}{f:Addr}{fd:FuncData}{ps:List Str}(F:Fun K x qual st f fd)
  (h:∀(kV doc pm:Value)(an:Option Addr)(cdv ct:Value)(us:List Value),us.length=ps.length->bindArgs (PySem.W.fnOf x qual (j8 st) (aF st) (aq st) .none kV doc pm an cdv ct) ⟨us,[]⟩=pure (ps.zip us)):Binds K fd ps []:=by
 obtain ⟨oc,od,kV,doc,pm,an,cdv,ct,osl,rfl,lk,hcd⟩:=F.ex;exact .all (h kV doc pm an cdv ct)
theorem XC{x qual:Str}{st:Stmt}{f:Addr}{oc:Value}{od an:Option Addr}{osl:Array (Option Value)}{kV doc pm cdv ct:Value}(l:K.lookup f=some ⟨oc,od,.func (PySem.W.fnOf x qual (j8 st) (aF st) (aq st) .none kV doc pm an cdv ct),osl⟩)
  (c:PySem.W.codeIn K cdv qual=true) (k:PySem.W.keepIn K (.ref f)=true):Fun K x qual st f (PySem.W.fnOf x qual (j8 st) (aF st) (aq st) .none kV doc pm an cdv ct):=⟨⟨oc,od,kV,doc,pm,an,cdv,ct,osl,rfl,l,c⟩,k⟩
end
section
variable {X:Cx}
theorem pv (i:Nat) {x:Str} {pos:Pos} (hN:X.N[i]?=some x:=by rfl) (hv:Vis X.env.scope x:=by first |exact Or.inl rfl |exact Or.inr (Or.inl rfl) |exact Or.inr (Or.inr rfl)) (hd:(x==("__debug__":Str))=false:=by decide)
  (hcd:(x==("__classdict__":Str))=false:=by decide):PE X (.Name x pos) (Bk i):=Bl hN hv hd hcd
end
end L2
set_option maxHeartbeats 4000000
namespace L2
open PySem PySem.Spec PyProof.Rows
section
variable {X:Cx} {pins:List (Addr×Obj)} {σ:St} {H:Hp} {s:Shared} {h':Heap}
theorem Inv.turnedL{t':Nat}{ch:List Addr}(I:Inv X pins σ H s)(hf:∀b∈ch,dU X pins H b)(k:∀b o,b∉ch->s.heap.get? b=some o->h'.get? b=some o):
  Inv X pins σ H { s with heap:=h',toks:=t' }:=by
 have nit:∀b u,H b=some u->b∉ch:=λb u e z=>by
  have q:=(hf b z).1;rw[q]at e;cases e
 refine I.step (g':=s.gens) (d':=s.drawn) (ch:=ch) (λb hb=>?_) (λb o _ _ hc e _=>k b o hc e) (λb o _ _ hc e _=>⟨o.slots,k b o hc e⟩) (λ_ _ _ _ n=>n)
  (λb o hc e=>⟨o,k b o hc e⟩) (λ_ _ e=>e) (λ_ _ _ e=>e) (λb ps e=>⟨#[],by rw[e];simp⟩) (λm hm=>?_) (λb u e=>?_) I.bare
 ·obtain ⟨_,f1,_,f3,f4,f5⟩:=hf b hb;exact ⟨f3,f1,f4,f5⟩
 ·obtain ⟨o,es,ep,ho,r⟩:=hm;exact ⟨o,es,ep,k _ o (λz=>(hf _ z).2.1 rfl) ho,r⟩
 ·refine (I.hok b u e).stay (λc v hc q=>k c v ?_ q) (λ_ q=>q) λ_ _ q=>q;rcases hc with z |z
  ·rw[z];exact nit b u e
  ·exact nit c _ z
theorem Inv.track{T:Addr}{o:HO}(I:Inv X pins σ H s)(hT:dU X pins H T)(new:ObjOk X.prog X.w (upd H T o) s.heap T o):Inv X pins σ (upd H T o) s:=by
 have hn:=hT.1;have hok:HOk X.prog X.w (upd H T o) s.heap:=λb u e=>by
  by_cases hb:b=T
  ·subst hb;rw[fP]at e;cases e;exact new
  ·rw[aP hb]at e;exact (I.hok b u e).stay (λc v _ q=>q) (λc q=>by rw[aP (bN q hn)];exact q) λc xs q=>by rw[aP (bN q hn)];exact q
 obtain ⟨hp,g,d,tk,os⟩:=s;refine I.step (h':=hp) (g':=g) (d':=d) (t':=tk) (ch:=[T]) (λb hb=>?_) (λb o _ _ _ e _=>e) (λb o _ _ _ e _=>⟨o.slots,e⟩) (λb u hc _ n=>?_)
  (λb o _ e=>⟨o,e⟩) (λb xs e=>by rw[aP (bN e hn)];exact e) (λb u v e=>by rw[aP (bN e hn)];exact e) (λb ps e=>⟨#[],by rw[aP (bN e hn),e];simp⟩) (λm hm=>hm) hok I.bare
 ·have e:b=T:=by simpa using hb
  subst e;obtain ⟨_,f1,_,f3,f4,f5⟩:=hT;exact ⟨f3,f1,f4,f5⟩
 ·rw[aP (by simpa using hc)];exact n
end
def Its(x:Str):It:=⟨λi _=>i < x.cps.size,λi H v H'=>H'=H/\∃c,x.cps[i]?=some c/\v=.str ⟨#[c]⟩,λi _=>i=x.cps.size⟩
theorem Cy{prog:Program}{w:World}{A:Around}(hh:A.handled=none)(I:Addr)(x:Str)(t:Tok):
  Walks prog w A I [I] [I] x.cps.size (SignAt x) (λi h=>h.IsStrIter I (strIterType x) x t i):=by
 unfold strIterType;split
 ·exact Walks.strAscii hh I x t
 ·exact Walks.strWide hh I x t
theorem vL{P:Program}{w:World}{K:PF}{tg:Expr}(it:Addr)(x:Str)(t:Tok):Turn P w K tg (Its x) [it] it (λi h=>h.IsStrIter it (strIterType x) x t i) where
 mem:=by simp
 obj:=λi h st b hb=>by
  have e:b=it:=by simpa using hb
  subst e;obtain ⟨o,e,c,d⟩:=st;exact ⟨o,e,λv z=>by rw[d]at z;cases z⟩
 keep:=λi h h' st k=>let ⟨o,ho,r⟩:=st;⟨o,k it (by simp) o ho,r⟩
 item:=by intro X hP hw hK hc i pins s σ H E I hf st hg;subst hP hw hK;obtain ⟨f0,f1,f2,f3,f4,f5⟩:=hf it (by simp);have W:=Cy (prog:=X.prog) (w:=X.w) (I.ok.hd hc) it x t;refine W.item i s _ _ hg st λv h' tk hv st' kk=>?_;obtain ⟨c,u,e,rfl⟩:=hv;have I1:Inv X pins σ H { s with heap:=h',toks:=tk }:=I.turned (λb o hb e=>kk b o (by simpa using hb) e) f0 f1 f3 f4 f5;obtain ⟨o,eo,cc,d⟩:=id st';exact ⟨_,rfl,j6 (s:={ s with heap:=h',toks:=tk }) (n:=strIterType x) eo cc d (by unfold strIterType;split <;> decide) ⟨.str ⟨#[c]⟩,H,I1,⟨u,rfl⟩,⟨rfl,c,e,rfl⟩,st',λb hb=>(hf b hb).1⟩⟩
 done:=by intro X hP hw hK hc i pins s σ H E I hf st hg;subst hP hw hK;obtain ⟨f0,f1,f2,f3,f4,f5⟩:=hf it (by simp);have W:=Cy (prog:=X.prog) (w:=X.w) (I.ok.hd hc) it x t;have hg':i=x.cps.size:=hg;subst hg';exact W.done s _ _ st λh' tk kk=>⟨rfl,I.turned (λb o hb e=>kk b o (by simpa using hb) e) f0 f1 f3 f4 f5⟩
 self:=λA i s Q E st h=>by
  unfold strIterType at st;split at st
  ·exact wpAny_pyIter_striter_ascii st h
  ·exact wpAny_pyIter_striter_wide st h
noncomputable def cM(env:Env):List (Str×NameKind)->List (Str×Addr)->List (Str×Addr)
 |[],cs=>cs
 | (n,k)::r,cs=>cM env r (if (k==.free)=true then (match env.cells.lookup n with |some c=>(n,c)::cs |none=>cs) else cs)
theorem Cz{env:Env}:∀{l:List (Str×NameKind)}{cs:List (Str×Addr)},(∀x c,cs.lookup x=some c->env.cells.lookup x=some c)->∀x c,(cM env l cs).lookup x=some c->env.cells.lookup x=some c
 |[],_,h,x,c,e=>h x c e
 | (n,k)::r,cs,h,x,c,e=>by
  refine Cz (l:=r) (cs:=_) ?_ x c e;intro y d q;by_cases hk:(k==NameKind.free)=true
  ·rw[if_pos hk]at q;cases hn:env.cells.lookup n with
   |none=>rw[hn]at q;exact h y d q
   |some c'=>
    rw[hn]at q;simp only[List.lookup_cons]at q;cases hy:y==n with
    |true=>
     rw[hy]at q;have e1:y=n:=eq_of_beq hy;rw[e1,hn];exact q
    |false=>rw[hy]at q;exact h y d q
  ·rw[if_neg hk]at q;exact h y d q
theorem CG{env:Env}{x:Str}:∀{l:List (Str×NameKind)}{cs:List (Str×Addr)},(cs.lookup x).isSome=true->((cM env l cs).lookup x).isSome=true
 |[],_,h=>h
 | (n,k)::r,cs,h=>by
  refine CG (l:=r) (cs:=_) ?_;by_cases hk:(k==NameKind.free)=true
  ·rw[if_pos hk];cases hn:env.cells.lookup n with
   |none=>exact h
   |some c'=>
    simp only[List.lookup_cons];cases hy:x==n with
    |true=>rfl
    |false=>exact h
  ·rw[if_neg hk];exact h
theorem CJ{env:Env}{x:Str}(hx:(env.cells.lookup x).isSome=true):∀{l:List (Str×NameKind)}{cs:List (Str×Addr)},(x,NameKind.free)∈l->((cM env l cs).lookup x).isSome=true
 | (n,k)::r,cs,h=>by
  rcases bS.mp h with e |h
  ·cases e;refine CG (l:=r) (cs:=_) ?_;rw[if_pos (show (NameKind.free==NameKind.free)=true by decide)];obtain ⟨c,hc⟩:=cw.mp hx;rw[hc];simp
  ·exact CJ hx (l:=r) h
theorem CK{scope:Scope}{env:Env}(h:∀y∈scope.names,y.2=NameKind.free->(env.cells.lookup y.1).isSome=true):closureFor scope env=pure (cM env scope.names []):=by
 simp only[closureFor];generalize ([]:List (Str×Addr))=cs;generalize scope.names=l at h;induction l generalizing cs with
 |nil=>rfl
 |cons y r ih=>
  obtain ⟨n,k⟩:=y;have ih':=λcs=>ih cs λy hy=>h y (ba _ hy);rw[List.forIn_cons];by_cases hk:(k==NameKind.free)=true
  ·have hk':k=NameKind.free:=eq_of_beq hk;obtain ⟨c,hc⟩:=cw.mp (h (n,k) bg hk');have e1:cM env ((n,k)::r) cs=cM env r ((n,c)::cs):=by
    rw[cM,if_pos hk];show cM env r (match env.cells.lookup n with |some c=>(n,c)::cs |none=>cs)=_;have hc':env.cells.lookup n=some c:=hc;rw[hc']
   have e2:cellOf env n=pure c:=by unfold cellOf;have hc':env.cells.lookup n=some c:=hc;rw[hc']
   rw[e1,<-ih' ((n,c)::cs)];simp only[hk,if_true,e2];rfl
  ·have e1:cM env ((n,k)::r) cs=cM env r cs:=by rw[cM,if_neg hk]
   rw[e1,<-ih' cs];simp only[hk,if_false];rfl
theorem vM{env:Env}{x:Str}:∀{names:List (Str×NameKind)},
  (names.map λ(n,k)=>if (k==NameKind.free&&env.scope.kind==.function&&env.kindOf n==some .cell) then (n,NameKind.cell) else (n,k)).lookup x=
   (names.lookup x).map λk=>if (k==NameKind.free&&env.scope.kind==.function&&env.kindOf x==some .cell)=true then NameKind.cell else k
 |[]=>rfl
 | (n,k)::r=>by
  have ih:=@vM env x r;rw[br];have hh:∀(c:Prop)[Decidable c],(if c then (n,NameKind.cell) else (n,k))=(n,if c then NameKind.cell else k):=λc _=>by split <;> rfl
  show List.lookup x ((if (k==NameKind.free&&env.scope.kind==.function&&env.kindOf n==some .cell)=true then (n,NameKind.cell) else (n,k))::_)=_;rw[hh];simp only[List.lookup_cons];cases hx:x==n with
  |true=>
   have e1:x=n:=eq_of_beq hx;subst e1;rfl
  |false=>exact ih
abbrev Cx.comp(X:Cx)(N':List Str)(scope:Scope)(cl:List (Str×Addr))(C:Addr)(s₁:Shared)(H₁:Hp)(fp:List Addr)(pn:List (Addr×Obj)):Cx where
 prog:=X.prog
 w:=X.w
 K:=X.K
 mg:=X.mg
 base:=X.base
 A:=X.A
 N:=N'
 s₀:=s₁
 H₀:=H₁
 env:=compEnvC scope cl C X.env
 outer:=X.stack
 stack:=X.stack
 ex:=fp
 fn:=λ_=>false
 calm:=X.calm
 pn:=pn
 xe:=λ_ _=>False
def PIf(X:Cx)(ifs:List Expr)(t:TT):Prop:=
 ∀(pins:List (Addr×Obj))(s:Shared)(σ:St)(H:Hp)(Q:Bool->Hp->Prop),Inv X pins σ H s->t σ H Q->
  wpAny (model X.prog X.w) X.A (forIn ifs true λc r=>if r=true then do let ok <-isTrue c X.env (eval c X.env);pure (ForInStep.yield ok) else pure (ForInStep.yield r)) (TP X pins σ Q) X.xe s
def XD:TT:=λ_ H Q=>Q true H
theorem XF{X:Cx}:PIf X [] XD:=λ_ _ _ H _ I h=>wpAny_tests_nil ⟨H,I,h⟩
theorem XH{X:Cx}{c:Expr}{t:TT}(h:PT X c t):PIf X [c] t:=λpins s σ H Q I q=>wpAny_tests_one (h pins s σ H Q I q)
def dD(cap:List (Option Nat))(σ:St):St:=cap.map λo=>match o with |none=>none |some j=>(σ[j]?).join
noncomputable def Caps(X:Cx)(scope:Scope):List Str->List (Option Nat)->Prop
 |[],[]=>True
 |_::N',none::cap=>Caps X scope N' cap
 |x::N',some j::cap=>(X.N[j]?=some x/\scope.names.lookup x=some NameKind.free)/\Caps X scope N' cap
 |_,_=>False
theorem Caps.len{X:Cx}{scope:Scope}:∀{N':List Str}{cap:List (Option Nat)},Caps X scope N' cap->cap.length=N'.length
 |[],[],_=>rfl
 |_::N',none::cap,h=>by
  have:=Caps.len (N':=N') (cap:=cap) h;simp[this]
 |_::N',some _::cap,h=>by
  have:=Caps.len (N':=N') (cap:=cap) h.2;simp[this]
 |[],_::_,h=>False.elim h
 |_::_,[],h=>False.elim h
theorem Caps.at{X:Cx}{scope:Scope}:∀{N':List Str}{cap:List (Option Nat)}{i:Nat}{x:Str}{v:V}{σ:St},Caps X scope N' cap->N'[i]?=some x->(dD cap σ)[i]?=some (some v)->
  ∃j:Nat,X.N[j]?=some x/\scope.names.lookup x=some NameKind.free/\σ[j]?=some (some v)
 |[],[],i,x,v,σ,_,e,_=>by simp at e
 |y::N',none::cap,0,x,v,σ,h,e,q=>by simp[dD]at q
 |y::N',some j::cap,0,x,v,σ,h,e,q=>by
  have e1:y=x:=by simpa using e
  subst e1;have q1:(σ[j]?).join=some v:=by simpa [dD] using q
  refine ⟨j,h.1.1,h.1.2,?_⟩;cases z:σ[j]? with
  |none=>rw[z]at q1;cases q1
  |some o=>rw[z]at q1;exact eA some q1
 |y::N',none::cap,i+1,x,v,σ,h,e,q=>Caps.at (N':=N') (cap:=cap) (i:=i) h (by simpa using e) (by simpa [dD] using q)
 |y::N',some _::cap,i+1,x,v,σ,h,e,q=>Caps.at (N':=N') (cap:=cap) (i:=i) h.2 (by simpa using e) (by simpa [dD] using q)
 |[],_::_,_,_,_,_,h,_,_=>False.elim h
 |_::_,[],_,_,_,_,h,_,_=>False.elim h
abbrev tx(l:List Nat):Str:=⟨l.toArray⟩
theorem bZ(l:List Nat):(tx l).length=l.length:=by simp[Str.length]
theorem qC(a b:List Nat):tx a++tx b=tx (a++b):=by show (⟨a.toArray++b.toArray⟩:Str)=⟨(a++b).toArray⟩;simp
theorem CN{a b:List Nat}(h:tx a=tx b):a=b:=by have:=eA (λx:Str=>x.cps.toList) h;simpa using this
theorem vN(x:Str):x=tx x.cps.toList:=by cases x;simp
section
variable {X:Cx}
theorem CP:∀{ys:List Str}{us:List Value},Vals (ys.map V.str) us->StrsAre us ys
 |[],us,r=>by
  rw[de]at r;cases r;exact .nil
 |y::ys,us,r=>by
  rw[br]at r;cases r with
  |cons r1 r2=>
   obtain ⟨t,e⟩:=r1;subst e;exact .cons y t (CP r2)
noncomputable def rJoin(K:PF):V->List V->Hp->VK->Prop:=λx vs H Q=>∃z p ys,x=.str z/\vs=[.ref p]/\SqL K H p (ys.map V.str)/\(ys.map (·.length)).sum+ys.length * z.length<=16777216/\Q (.str (Str.join z ys)) H
theorem XJ:MtR X "str.join" (rJoin X.K):=by intro pins s σ H x xs v us Q I rx rs h;obtain ⟨z,p,ys,rfl,rfl,hq,hb,q⟩:=h;obtain ⟨t,rfl⟩:=rx;obtain ⟨u,rfl,ru⟩:=vals1 rs;cases ru;obtain ⟨its,rv,pl,hz⟩:=I.list hq;refine join_list pl.isList (by simpa using CP rv) hb λt' k=>⟨.str _,H,I.tok _,⟨_,rfl⟩,?_⟩;have e:Txt.join z ys=Str.join z ys:=StrLaws.glued_eq_join z ys;rw[e];exact q
noncomputable def XM(K:PF):List V->Hp->VK->Prop:=λxs H Q=>∃x n t b,xs=[x,.ty n]/\TyOf K H x t/\PySem.W.kitOne K t (.type n)=some b/\Q (.bl b) H
theorem XN:bT X (.builtin "isinstance") (XM X.K):=by intro pins s σ H xs us Q I r h;obtain ⟨x,n,t,b,rfl,ty,e,q⟩:=h;obtain ⟨u,w',rfl,rx,ry⟩:=vals2 r;cases ry;exact Wv I rx ty e λtk=>⟨.bl b,H,I.tok _,rfl,q⟩
theorem XQ:bootBuiltins "bool"=some (.type "bool"):=by ac_rfl
theorem CQ:bootBuiltins "int"=some (.type "int"):=by ac_rfl
theorem CW:bootBuiltins "str"=some (.type "str"):=by ac_rfl
theorem CZ:bootBuiltins "list"=some (.type "list"):=by ac_rfl
theorem XS:bootBuiltins "isinstance"=some (.builtin "isinstance"):=by ac_rfl
theorem XX {x:Str} {T:String} {pos:Pos} (hg:Gl X x) (hm:X.mg x=none) (hv:bootBuiltins x=some (.type T)) (hn:x≠"__name__":=by decide) (hd:(x==("__debug__":Str))=false:=by decide):PE X (.Name x pos) (tC (.ty T)):=
 UW hg hm hv (v:=.ty T) rfl hn hd
theorem X3:OpR X (binaryOp .Mult) (λx y H Q=>∃i n,x=.str i/\y=.int n/\MulOk i n/\Q (.str (Txt.mul i n)) H):=by intro pins s σ H x y v u Q I rx ry h;obtain ⟨i,n,rfl,rfl,hok,q⟩:=h;obtain ⟨t,rfl⟩:=rx;obtain ⟨t',rfl⟩:=ry;exact SB.mul hok λt' k=>⟨.str _,H,I.tok _,⟨_,rfl⟩,q⟩
end
def vO(X:Cx)(st:List Stmt)(t:TS):Prop:=
 ∀(pins:List (Addr×Obj))(s:Shared)(σ:St)(H:Hp)(D:Ends),1<=s.toks->Inv X pins σ H s->t D σ H->wpAny (model X.prog X.w) X.A (execs st X.env) (SP X pins D) X.xe s
def PE1(X:Cx)(e:Expr)(t:TE):Prop:=
 ∀(pins:List (Addr×Obj))(s:Shared)(σ:St)(H:Hp)(Q:VK),1<=s.toks->Inv X pins σ H s->t σ H Q->wpAny (model X.prog X.w) X.A (eval e X.env) (EP X pins σ Q) X.xe s
theorem X4{X:Cx}{e:Expr}{te:TE}{pos:Pos}(he:PE1 X e te):vO X [.Return (some e) pos] (Bp te):=by intro pins s σ H D h1 I h;refine wpAny_execs_cons (wpAny_Return_some (thn (he pins s σ H _ h1 I h) λv s1 ⟨x,H1,I1,r1,q1⟩=>?_));exact ⟨x,σ,H1,I1,r1,q1⟩
theorem vP{c d:Nat}:∀l:List Nat,c∉l->l.map (λa=>if a=c then d else a)=l
 |[],_=>rfl
 |a::r,h=>by
  have h1:a≠c:=λe=>h (by rw[e];exact bg);rw[br,if_neg h1,vP r λz=>h (ba _ z)]
theorem Dc(c d:Nat):∀parts:List Str,(∀p∈parts,c∉p.cps.toList)->(Str.join ⟨#[c]⟩ parts).cps.toList.map (λa=>if a=c then d else a)=(Str.join ⟨#[d]⟩ parts).cps.toList
 |[],_=>rfl
 |[x],h=>by
  simp only[Str.join];exact vP _ (h x bg)
 |x::y::r,h=>by
  have ih:=Dc c d (y::r) λp hp=>h p (ba _ hp);have e:∀z:Str,Str.join z (x::y::r)=x++z++Str.join z (y::r):=λz=>by simp only[Str.join]
  have ap:∀u v:Str,(u++v).cps.toList=u.cps.toList++v.cps.toList:=λu v=>by
   show (u.cps++v.cps).toList=_;simp
  rw[e,e,ap,ap,ap,ap,ca,ca,ih,vP _ (h x bg)];simp
theorem X5(l:List Nat)(c d:Nat):Txt.replace (tx l) (tx [c]) (tx [d])=tx (l.map λa=>if a=c then d else a):=by
 have e:(Txt.replace (tx l) ⟨#[c]⟩ ⟨#[d]⟩).cps.toList=l.map λa=>if a=c then d else a:=by rw[StrLaws.replace_one,<-Dc c d _ (StrLaws.split_free (tx l) c),StrLaws.join_split]
 rw[vN (Txt.replace (tx l) (tx [c]) (tx [d]))];exact eA tx e
section
variable {X:Cx}
theorem X6{o:Expr}{to:TE}{y z:Str}{ky kz:Nat}{py pz apos cpos:Pos}(ho:PE X o to)(hyz:(y==z)=false)
  (hbase:attributeBase o "replace" X.env (eval o X.env)=eval o X.env:=by rfl)
  (hfew:((backTo cpos (starEach [.Constant (.str y) ky py,.Constant (.str z) kz pz] X.env)).all (λx=>!x.1)&&(backToKw cpos (keywordEach [] X.env)).all (λx=>x.1.isSome)
  &&decide (([.Constant (.str y) ky py,.Constant (.str z) kz pz]:List Expr).length+([]:List Keyword).length+(if ([]:List Keyword).isEmpty then 0 else 1) < 30))=true:=by rfl)
  (hline:(apos.endLine==cpos.line)=true:=by rfl):
  PE1 X (.Call (.Attribute o "replace" apos) [.Constant (.str y) ky py,.Constant (.str z) kz pz] [] cpos)
   (λσ H Q=>to σ H λv H1=>∃x,v=.str x/\x.length+(x.length+1) * z.length<=16777216/\Q (.str (Txt.replace x y z)) H1):=by
 intro pins s σ H Q h1 I h;refine wpAny_Call_method_late hbase hfew hline rfl (dc (wpAny_toks_of (n:=1) h1 (ho pins s σ H _ I h)) (λv s1 h2=>?_) (λ_ _ e=>e.2));obtain ⟨t1,v',H1,I1,r1,x,e,hb,q⟩:=h2;subst e;obtain ⟨t,rfl⟩:=r1;refine ⟨"str","str.replace",F.plainAttrs_str,F.slot_str_replace,F.type_str_replace,typeIs_str _ _ _,(λ_ e=>nomatch e),?_⟩;refine Calls.callWith_builtin (by rfl) (Calls.evalArgs_plain ?_);show wpAny _ _ (spliced [(false,eval (.Constant (.str y) ky py) X.env),(false,eval (.Constant (.str z) kz pz) X.env)]) _ _ s1;refine Calls.spliced_cons (Calls.Constant_str (Calls.spliced_cons (Calls.Constant_str (Calls.spliced_nil ?_))));exact SC.replace (by show @Ne Nat s1.toks 0;omega) (by show @Ne Nat (s1.toks+1) 0;omega) (by show @Ne Nat s1.toks (s1.toks+1);omega) hyz hb λt' k=>⟨.str _,H1,I1.tok _,⟨_,rfl⟩,q⟩
end
theorem X7{CX:CXT}{P:Program}{w:World}{K:PF}{mg:Str->Option Value}{base:Heap}{k:Nat}{f:Addr}{name qual:Str}{params:Arguments}{body:List Stmt}{scope:Scope}{dV kV doc pm cdv ct oc:Value}{an od:Option Addr}
  {osl:Array (Option Value)} {N:List Str} {x:Str} {sp:Sp} (lk:K.lookup f=some ⟨oc,od,.func (PySem.W.fnOf name qual params body scope dV kV doc pm an cdv ct),osl⟩) (hcd:PySem.W.codeIn K cdv qual=true) (S:FnScope N [x] scope)
  (hx:scope.names.lookup x=some .local) (hnc:∀y∈scope.names,y.2≠NameKind.cell) (hcf:∀n,cellsFrom n scope.names []=[])
  (len:∀vs H Q E,sp vs H Q E->vs.length=[x].length)
  (hbody:∀(A:Around)(outer:List Env)(s:Shared)(H:Hp)(vs:List V)(Q:VK)(E:XK),Room k (A.deeper (envOfC qual scope s.heap.objs.size f cdv))->sp vs H Q E->
   ∃t,vO (dB CX P w K mg base N qual scope f cdv A outer s H E) body t/\t { nx:=λ_ H'=>Q .non H',rt:=Q } (start N vs) H):
  FnOk P w K mg base CX (k+1) f (PySem.W.fnOf name qual params body scope dV kV doc pm an cdv ct) [x] sp:=by
 refine ⟨len,λA outer s H args us vs Q E hr e0 hb r hsp=>?_⟩;have hl:=len _ _ _ _ hsp;have KX:K.In s.heap:=e0.mod.kin.keeps λb o e=>(e0.bs b o e).1;have lim:s.heap.NoLimit:=e0.mod.nolimit.keeps λb o e=>(e0.bs b o e).1;obtain ⟨u,rfl⟩:∃u,us=[u]:=by
  have h2:=r.length;rw[hl]at h2;match us,h2 with
  |[u],_=>exact ⟨u,rfl⟩
 refine codeAny_call_function hr.depth (KX _ _ lk) rfl S.co S.gen rfl (PySem.W.codeRec_of KX hcd) (hb _ _ _ _ ?_);refine wpAny_newFunctionEnv (binds:=[x].zip [u]) hnc (λy hy=>?_) (λh' hns hsb=>?_) S.kind
 ·have e:y=(x,u):=by simpa using hy
  rw[e];exact hx
 have envEq:newEnv scope s.heap.objs.size mainGlobals [] (qual++Str.ofString ".<locals>.") (some f) cdv none builtinsNs=envOfC qual scope s.heap.objs.size f cdv:=by unfold envOfC newEnv;rw[hcf]
 have kp:∀b o,s.heap.get? b=some o->h'.get? b=some o:=λb o e=>hsb.extBut b o (cK (aS e)) (am _ e);have mEq:bindL (envOfC qual scope s.heap.objs.size f cdv).kindOf ([x].zip [u]) (λ_=>none)=λy=>(([x].zip [u]).reverse).lookup y:=by
  funext y;have hk:(envOfC qual scope s.heap.objs.size f cdv).kindOf x=some .local:=hx;show bindL (envOfC qual scope s.heap.objs.size f cdv).kindOf [(x,u)] (λ_=>none) y=List.lookup y [(x,u)];unfold bindL;rw[if_pos hk];unfold bindL;by_cases hy:y=x
  ·subst hy;simp
  ·have:(y==x)=false:=by simpa using hy
   simp[hy,List.lookup_cons,this]
 have xx:InCallC s s.heap.objs.size (bindL (envOfC qual scope s.heap.objs.size f cdv).kindOf ([x].zip [u]) λ_=>none) (cellsFrom (s.heap.objs.size+1) scope.names []) (bindC (envOfC qual scope s.heap.objs.size f cdv).kindOf ([x].zip [u]) λ_=>none)
   { s with heap:=h',toks:=s.toks+([x].zip [u]).length }:=by
  rw[mEq,hcf];exact ⟨⟨⟨h',_,rfl⟩,hns,kp,aw _⟩,(λn c e=>by simp at e),List.Pairwise.nil,(λn c e=>nomatch e)⟩
 show _/\codeAny (model P w) A (.func body (newEnv scope s.heap.objs.size mainGlobals [] (qual++Str.ofString ".<locals>.") (some f) cdv none builtinsNs)) _ _;rw[envEq];refine ⟨lim.keeps kp,codeAny_func ?_⟩;obtain ⟨t,ht,hq⟩:=hbody A outer s H vs Q E (hr.deeper _) hsp;have I:Inv (dB CX P w K mg base N qual scope f cdv A outer s H E) [] (start N vs) H { s with heap:=h',toks:=s.toks+([x].zip [u]).length }:=BW S hr.hd e0 hl r xx;refine dc (ht [] _ (start N vs) H _ (Nat.le_add_left 1 s.toks) I hq) (λfl s' hs=>?_) λe s' hs=>hs;have fin:∀{σ':St}{H':Hp}{v:V}{u:Value},Inv (dB CX P w K mg base N qual scope f cdv A outer s H E) [] σ' H' s'->RelV v u->Q v H'->CE outer P w H s Q u s':=
  λ{σ' H' v u} J rv q=>⟨v,H',J.os,J.bare,J.base,J.hok,rv,q⟩
 cases fl with
 |ret u=>
  obtain ⟨v,σ',H',J,rv,q⟩:=hs;exact fin J rv q
 |next=>
  obtain ⟨σ',H',J,q⟩:=hs;exact fin (v:=V.non) (u:=Value.none) J rfl q
 |brk=>
  obtain ⟨_,_,_,q⟩:=hs;exact False.elim q
 |cont=>
  obtain ⟨_,_,_,q⟩:=hs;exact False.elim q
theorem Fun.ok1{P:Program}{w:World}{K:PF}{mg:Str->Option Value}{base:Heap}{x qual:Str}{st:Stmt}{f:Addr}{fd:FuncData}{N:List Str}{y:Str}{k:Nat}{sp:Sp}(F:Fun K x qual st f fd)(S:FnScope N [y] (aq st))
  (hx:(aq st).names.lookup y=some .local) (hnc:∀z∈(aq st).names,z.2≠NameKind.cell) (hcf:∀n,cellsFrom n (aq st).names []=[]) (len:∀vs H Q E,sp vs H Q E->vs.length=[y].length)
  (hbody:∀(cdv:Value)(A:Around)(outer:List Env)(s:Shared)(H:Hp)(vs:List V)(Q:VK)(E:XK),Room k (A.deeper (envOfC qual (aq st) s.heap.objs.size f cdv))->sp vs H Q E->
   ∃t,vO (dB CX0 P w K mg base N qual (aq st) f cdv A outer s H E) (aF st) t/\t { nx:=λ_ H'=>Q .non H',rt:=Q } (start N vs) H):FnOk P w K mg base CX0 (k+1) f fd [y] sp:=by
 obtain ⟨oc,od,kV,doc,pm,an,cdv,ct,osl,rfl,lk,hcd⟩:=F.ex;exact X7 lk hcd S hx hnc hcf len λA outer s H vs Q E hr hsp=>hbody cdv A outer s H vs Q E hr hsp
open Builtin Builtin.Str
theorem X8{prog:Program}{w:World}{A:Around}(hh:A.handled=none)(it:Addr)(x:Str)(t:Tok):
  Draws prog w A it [it] x.cps.size (λi v=>∃c u,x.cps[i]?=some c/\v=.str ⟨#[c]⟩ u) (λi h=>h.IsStrIter it (strIterType x) x t i):=by
 unfold strIterType;split
 ·exact Draws.strAscii hh it x t
 ·exact Draws.strWide hh it x t
structure ZApart(z TI TO i1 i2:Addr):Prop where
 TIz:TI≠z
 TOz:TO≠z
 i1z:i1≠z
 i2z:i2≠z
 TITO:TI≠TO
 TIi1:TI≠i1
 TIi2:TI≠i2
 TOi1:TO≠i1
 TOi2:TO≠i2
 i12:i1≠i2
section
variable {X:Cx}
theorem Dd:∀{bs:List Bool}{us:List Value}{i:Nat}{v:Value},Vals (bs.map V.bl) us->us[i]?=some v->∃b,bs[i]?=some b/\v=.bool b
 |[],us,i,v,r,e=>by
  rw[de]at r;cases r;simp at e
 |b::bs,us,i,v,r,e=>by
  rw[br]at r;cases r with
  |cons r1 r2=>
   cases i with
   |zero=>
    cases (show _=Value.bool b from r1);exact ⟨b,rfl,by simpa using e.symm⟩
   |succ i=>exact Dd (i:=i) r2 (by simpa using e)
theorem Yb:bootBuiltins "all"=some (.builtin "all"):=by ac_rfl
theorem Yc:bootBuiltins "zip"=some (.type "zip"):=by ac_rfl
theorem all_range(bs:List Bool)(n:Nat)(hn:n=bs.length):((List.range n).all λi=>(bs[i]?).getD true)=bs.all id:=by
 subst hn;rw[Bool.eq_iff_iff,ck,ck];constructor
 ·intro h b hb;obtain ⟨i,hi,e⟩:=List.mem_iff_getElem.mp hb;have:=h i (gd.mpr hi);rw[a7 hi,e]at this;simpa using this
 ·intro h i hi;have hi':=gd.mp hi;rw[a7 hi'];simpa using h _ (d4 hi')
theorem Yd (hc:X.calm=true):bT X (.builtin "all") (λxs H Q=>∃(p:Addr) (bs:List Bool),xs=[.ref p]/\SqL X.K H p (bs.map V.bl)/\Q (.bl (bs.all id)) H):=by
 intro pins s σ H xs us Q I r h;obtain ⟨p,bs,rfl,hq,q⟩:=h;obtain ⟨u,rfl,ru⟩:=vals1 r;cases ru;obtain ⟨its,rv,pl,hz⟩:=I.list hq;have hl:=pl.isList;have hlt:p < s.heap.objs.size:=by obtain ⟨_,e,_⟩:=hl;exact aS e
 refine call_all_walk (wpAny_pyIter_list hl ?_);refine ⟨s.heap.objs.size,[s.heap.objs.size,p],[s.heap.objs.size],its.toArray.size,_,_,λi=>(bs[i]?).getD true,rfl,Walks.list (A:=X.A.in1) (I.ok.hd hc) _ p (cK hlt) its.toArray,
  ⟨⟨_,bi _ rfl,rfl,rfl⟩,hl.push _⟩,λi v s' Q' E' hP hQ=>?_,λh' tk hk=>?_⟩
 ·obtain ⟨b,e,rfl⟩:=Dd rv (i:=i) (v:=v) (by simpa using hP);simp only[e,Option.getD_some]at hQ;exact eL hQ
 ·have e:=all_range bs its.toArray.size (by rw[av,<-rv.length,ag]);rw[e];exact ⟨.bl _,H,I.kept (λb o q=>hk b o (λhm=>by rw[bq.mp hm]at q;exact ey _ (aS q)) (am _ q)),rfl,q⟩
theorem Ye:OpR X (compareOp .Is) (λx y H Q=>∃i j,x=.bl i/\y=.bl j/\Q (.bl (i==j)) H):=by intro pins s σ H x y v u Q I rx ry h;obtain ⟨i,j,rfl,rfl,q⟩:=h;cases rx;cases ry;exact is_bool ⟨.bl _,H,I,rfl,q⟩
theorem Yg:bT X (.type "int") (λxs H Q=>∃z n,xs=[.str z]/\PySem.intText? z=some n/\z.length<=640/\Q (.int n) H):=by intro pins s σ H xs us Q I r h;obtain ⟨z,n,rfl,hn,hl,q⟩:=h;obtain ⟨u,rfl,t,rfl⟩:=vals1 r;exact PySem.W.KIN.call_text hn hl ⟨.int n,H,I.tok _,⟨_,rfl⟩,q⟩
noncomputable def Yh:V->Option Int->Option Int->Hp->VK->Prop:=λx lo hi H Q=>∃z,x=.str z/\z.length<=sizeLine/\Q (.str (Txt.slice z lo hi)) H
theorem Yi:SlR X Yh:=by
 intro pins s σ H x v vl vu lo hi sl Q I rx hs pl pu h;obtain ⟨z,rfl,hz,q⟩:=h;obtain ⟨t,rfl⟩:=rx;refine ⟨"str",_,slot_str_getitem.lookup,typeIs_str _ _ _,?_⟩;obtain ⟨l,el,e1⟩:∃l:Option (Int×Tok),vl=partValue l/\l.map (·.1)=lo:=by
  cases pl with
  |none=>exact ⟨none,rfl,rfl⟩
  |int i t=>exact ⟨some (i,t),rfl,rfl⟩
 obtain ⟨u,eu,e2⟩:∃u:Option (Int×Tok),vu=partValue u/\u.map (·.1)=hi:=by
  cases pu with
  |none=>exact ⟨none,rfl,rfl⟩
  |int i t=>exact ⟨some (i,t),rfl,rfl⟩
 subst el eu e1 e2;refine wpAny_getItem_str_slice (l:=l) (u:=u) (st:=none) hs rfl ?_;unfold sliceMade;unfold Txt.slice at q;show (if ((1:Int)==1&&(slicePicked z l u none).length==z.length)=true then Made.val (.str z t) else Made.str ⟨((slicePicked z l u none).filterMap (z.cps[·]?)).toArray⟩).post _ _;have ep:slicePicked z l u none=Builtin.Str.strSliceIndices (l.map (·.1)) (u.map (·.1)) 1 z.length:=rfl;rw[ep];by_cases hc:((1:Int)==1&&(Builtin.Str.strSliceIndices (l.map (·.1)) (u.map (·.1)) 1 z.length).length==z.length)=true
 ·rw[if_pos hc]at q ⊢;exact ⟨.str z,H,I,⟨t,rfl⟩,q⟩
 ·rw[if_neg hc]at q ⊢;refine ⟨?_,⟨.str _,H,I.tok _,⟨_,rfl⟩,q⟩⟩;show (List.filterMap _ _).toArray.size<=sizeLine;rw[av];have h1:=sliceIndices_le (l.map (·.1)) (u.map (·.1)) z.length;have h2:=List.length_filterMap_le (λx=>z.cps[x]?) (Builtin.Str.strSliceIndices (l.map (·.1)) (u.map (·.1)) 1 z.length);omega
end
section
variable {X:Cx}
theorem Yj:OpR X (compareOp .IsNot) (λx y H Q=>∃i j,x=.bl i/\y=.bl j/\Q (.bl (i != j)) H):=by intro pins s σ H x y v u Q I rx ry h;obtain ⟨i,j,rfl,rfl,q⟩:=h;cases rx;cases ry;exact isnot_bool ⟨.bl _,H,I,rfl,q⟩
end
def noStar:Expr->Bool
 |.Starred ..=>false
 |_=>true
theorem cC(e:Expr)(es:List Expr)(env:Env)(h:noStar e=true):starEach (e::es) env=(false,eval e env)::starEach es env:=by cases e <;> first |rfl |cases h
section
variable {prog:Program} {w:World} {A:Around} {E:Value->Shared->Prop} {s:Shared}
def rIt (a n c:Int):Obj:={ cls:=.type "range_iterator",data:=.fields #[rawInt a,rawInt n,rawInt c] }
theorem Yk{r:Addr}{n:Int}{t u v:Tok}{Q:Value->Shared->Prop}(hr:IsRange s.heap r 0 n 1 t u v)(h1:-(2 ^ 62)<=n)(h2:n < 2 ^ 62)
  (h:Q (.ref s.heap.objs.size) { s with heap:=s.heap.push (rIt (0+(Builtin.Range.rangeSize 0 n 1 - 1) * 1) (Builtin.Range.rangeSize 0 n 1) (-1)) }):wpAny (model prog w) A (call (.builtin "range.__reversed__") [.ref r]) Q E s:=by
 have hT:s.TypeIs (.ref r) "range":=⟨_,hr,rfl⟩;refine fR F.slot_range_reversed hT F.entry_range_reversed ?_ (F.args_range_reversed_1 _);have hsm:(Builtin.Range.rangeFitsLong 0&&Builtin.Range.rangeFitsLong n&&Builtin.Range.rangeFitsLong 1&&Builtin.Range.rangeFitsLong (-1)&&Builtin.Range.rangeFitsLong (0 - 1)&&Builtin.Range.rangeFitsLong (Builtin.Range.rangeSize 0 n 1))=true:=by rw[rangeSize_one];simp only[Builtin.Range.rangeFitsLong,ae,cq,decide_eq_true_eq,aI];split <;> omega
 obtain ⟨hp,g,d,tk,os⟩:=s;wp_walk using wpAny_loadPart' hr
 rw[if_neg (by rw[hsm];decide)];simp only[hsm,if_true];wp_walk
 exact ⟨_,rfl,h⟩
theorem Yl{r:Addr}{n:Int}{t u v:Tok}{Q₁:Value->Shared->Prop}(hr:IsRange s.heap r 0 n 1 t u v)(h1:-(2 ^ 62)<=n)(h2:n < 2 ^ 62)
  (h:Q₁ (.ref s.heap.objs.size) { s with heap:=s.heap.push (rIt (0+(Builtin.Range.rangeSize 0 n 1 - 1) * 1) (Builtin.Range.rangeSize 0 n 1) (-1)) }):
  codeAny (model prog w) A (.call (.builtin "reversed.__new__") ⟨[.type "reversed",.ref r],[]⟩) (wants Q₁ E) s:=by
 have hT:s.TypeIs (.ref r) "range":=⟨_,hr,rfl⟩;refine codeAny_of_tree ?_;show wpAny _ A.in1 (do checkBuiltinCall "reversed.__new__" ⟨[.type "reversed",.ref r],[]⟩;again (.builtin "reversed.__new__" ⟨[.type "reversed",.ref r],[]⟩)) _ _ s;refine al (wpAny_of_eq (F.newCall_reversed_1 _) (bo ⟨plainId_quiet F.plain_reversed_new _,codeAny_builtin F.entry_reversed_new ?_⟩));rw[Around.under_plainId F.plain_reversed_new _];unfold Builtin.«reversed.__new__»;refine al (wpAny_of_eq (newClass_reversed _) ?_);try dsimp only
 refine al (wpAny_of_eq (a:=()) (by first |rfl |rfl') ?_);refine al (wpAny_of_eq (a:=()) (by first |rfl |rfl') ?_);try dsimp only
 refine al (wpAny_specialOf hT F.slot_range_reversed.lookup ?_);try dsimp only
 refine al (wpAny_of_eq (F.slot_range_reversed.bind _) ?_);try dsimp only
 first
 |rw[if_neg (show ¬((Value.builtin "range.__reversed__"==Value.none)=true) from a9)]
 | (show wpAny _ _ (if (Value.builtin "range.__reversed__"==Value.none)=true then _ else _) _ _ _;rw[if_neg (show ¬((Value.builtin "range.__reversed__"==Value.none)=true) from a9)])
 refine al (wpAny_rule ?_);refine al (m:=runValue (.call (.builtin "range.__reversed__") ⟨[.ref r],[]⟩)) (show wpAny _ _ (call (.builtin "range.__reversed__") [.ref r]) _ _ _ from Yk hr h1 h2 ?_);first
 |exact bo h
 |exact al (bo (bo h))
theorem Ym{r:Addr}{n:Int}{t u v:Tok}{Q:Value->Shared->Prop}(hr:IsRange s.heap r 0 n 1 t u v)(h1:-(2 ^ 62)<=n)(h2:n < 2 ^ 62)
  (h:Q (.ref s.heap.objs.size) { s with heap:=s.heap.push (rIt (0+(Builtin.Range.rangeSize 0 n 1 - 1) * 1) (Builtin.Range.rangeSize 0 n 1) (-1)) }):wpAny (model prog w) A (call (.type "reversed") [.ref r]) Q E s:=by
 refine callType_other (U:="range_iterator") (Q₁:=λobj s₁=>obj=.ref s.heap.objs.size/\s₁={ s with heap:=s.heap.push (rIt (0+(Builtin.Range.rangeSize 0 n 1 - 1) * 1) (Builtin.Range.rangeSize 0 n 1) (-1)) }) (by ac_rfl) F.create_reversed ⟨_,_,F.mro_reversed⟩ F.made_reversed (by rw[isSubtype_type];rfl') (F.typeCall_reversed_1 _) (Yl hr h1 h2 ⟨rfl,rfl⟩) ?_;rintro obj s₁ ⟨rfl,rfl⟩;exact ⟨⟨_,bi _ rfl,rfl⟩,h⟩
end
def Itd(lo:Int)(n:Nat):It:=⟨λi _=>i < n,λi H x H'=>H'=H/\x=.int (lo - i),λi _=>n<=i⟩
theorem Yn{P:Program}{w:World}{K:PF}{tg:Expr}(it:Addr)(lo:Int)(n:Nat):Turn P w K tg (Itd lo n) [it] it (λi h=>IsRangeIter h it (lo+(i:Nat) * (-1)) ((n:Int) - (i:Nat)) (-1)) where
 mem:=by simp
 obj:=λi h st b hb=>by
  have e:b=it:=by simpa using hb
  subst e;exact ⟨_,st,λv z=>by
   have z':Data.fields _=Data.cell v:=z;cases z'⟩
 keep:=λi h h' st k=>k it (by simp) _ st
 item:=by intro X hP hw hK hc i pins s σ H E I hf st hg;subst hP hw hK;obtain ⟨f0,f1,f2,f3,f4,f5⟩:=hf it (by simp);have W:=Walks.range (prog:=X.prog) (w:=X.w) (I.ok.hd hc) it lo (-1) n;refine W.item i s _ _ hg st λv h' tk hv st' kk=>?_;obtain ⟨t,rfl⟩:=hv;have I1:Inv X pins σ H { s with heap:=h',toks:=tk }:=I.turned (λb o hb e=>kk b o (by simpa using hb) e) f0 f1 f3 f4 f5;refine ⟨_,rfl,j6 (s:={ s with heap:=h',toks:=tk }) (n:="range_iterator") st' rfl rfl (by decide) ⟨.int (lo - i),H,I1,⟨t,?_⟩,⟨rfl,rfl⟩,st',λb hb=>(hf b hb).1⟩⟩;rw[show lo+(i:Int) * (-1)=lo - i by omega]
 done:=by intro X hP hw hK hc i pins s σ H E I hf st hg;subst hP hw hK;obtain ⟨f0,f1,f2,f3,f4,f5⟩:=hf it (by simp);exact wpAny_pyNext_range_end (I.ok.hd hc) st (by have:n<=i:=hg;omega) λh' eb=>⟨rfl,I.turned (t':=s.toks) (λb o hb e=>eb b o hb e) f0 f1 f3 f4 f5⟩
 self:=λ_ _ _ _ _ st h=>wpAny_pyIter_rangeiter st h
section
variable {X:Cx} {tg:Expr}
theorem Yo(j:Int):Builtin.Range.rangeSize 0 j 1=(j.toNat:Int):=by rw[rangeSize_one];split <;> omega
theorem Yp:bootBuiltins "reversed"=some (.type "reversed"):=by ac_rfl
def Yq(ta:TA):TI:=λσ H R=>ta σ H λvs H1=>∃j:Int,vs=[.int j]/\-(2 ^ 62)<=j/\j < 2 ^ 62/\R (Itd ((j.toNat:Int) - 1) j.toNat) H1
theorem Yr {a:Expr} {ta:TA} {p q pos pos':Pos} (hgR:Gl X "reversed") (hmR:X.mg "reversed"=none) (hg:Gl X "range") (hm:X.mg "range"=none) (ha:PA X [a] ta) (hs:starEach [a] X.env=[(false,eval a X.env)]:=by rfl):
  PI X tg (.Call (.Name "reversed" q) [.Call (.Name "range" p) [a] [] pos] [] pos') (Yq ta):=by
 intro pins s σ H R I h;refine Call_ (fQ I hgR hmR Yp (dr (?_) rfl rfl));show wpAny _ _ (spliced ((false,eval (.Call (.Name "range" p) [a] [] pos) X.env)::[])) _ _ s;refine Calls.spliced_cons (Call_ (fQ I hg hm boot_range (dr (thn (ha pos pins s σ H _ I h) λus s1 ⟨vs,H1,I1,r1,q1⟩=>?_) hs rfl)));obtain ⟨j,e,q1,q2,qq⟩:=q1;subst e;cases r1 with
 |cons r rr=>
  cases rr;obtain ⟨t,rfl⟩:=r;refine call_range_1 (Calls.spliced_nil (Ym (IsRange.new ..) q1 q2 ?_));rw[Yo];have I2:Inv X pins σ H1 { s1 with heap:=s1.heap.push { cls:=Value.type "range",data:=Data.fields #[Value.int 0 s1.toks,Value.int j t,Value.int 1 (s1.toks+1)] },toks:=s1.toks+1+1 }:=I1.kept λb o e=>am _ e;generalize s1.heap.push { cls:=Value.type "range",data:=Data.fields #[Value.int 0 s1.toks,Value.int j t,Value.int 1 (s1.toks+1)] }=hp1 at I2 ⊢;have st:IsRangeIter (hp1.push (rIt (0+((j.toNat:Int) - 1) * 1) j.toNat (-1))) hp1.objs.size (0+((j.toNat:Int) - 1) * 1) j.toNat (-1):=bi _ rfl;refine wpAny_pyIter_rangeiter (s:={ s1 with heap:=hp1.push (rIt (0+((j.toNat:Int) - 1) * 1) j.toNat (-1)),toks:=s1.toks+1+1 }) st ?_;refine ⟨hp1.objs.size,[hp1.objs.size],_,_,H1,rfl,I2.kept (t':=s1.toks+1+1) λb o e=>am _ e,Yn _ ((j.toNat:Int) - 1) j.toNat,?_,λb hb=>?_,qq⟩
  ·show IsRangeIter _ _ (((j.toNat:Int) - 1)+((0:Nat):Int) * (-1)) ((j.toNat:Int) - ((0:Nat):Int)) (-1);rw[show ((j.toNat:Int) - 1)+((0:Nat):Int) * (-1)=0+((j.toNat:Int) - 1) * 1 by omega,show (j.toNat:Int) - ((0:Nat):Int)=j.toNat by omega];exact st
  ·have e:b=hp1.objs.size:=by simpa using hb
   subst e;exact I2.fpOk (aw _) (I2.hok.fresh (aw _))
end
variable {X:Cx} {e st:Expr} {te ts:TE} {p2 pos:Pos}
def Tr(h0:Heap)(H:Hp)(h:Heap)(a:Addr)(c:Value):Prop:=
 ∃oe vs T oT ts,h.get? a=some oe/\oe.cls=c/\oe.data=.fields vs/\vs[1]?=some (.ref T)/\T≠a/\h.get? T=some oT/\oT.data=.fields ts/\ts[3]?=some .none/\
  h0.get? a=none/\h0.get? T=none/\H a=none/\H T=none
def CX1(P:Program)(w:World):CXT:=λouter H s E e s'=>
 ∃(a:Addr)(c:Value)(H':Hp),e=.ref a/\s'.os=s.os/\AllBare s'.gens/\Un (frs outer) [] H H' s.heap s'.heap/\HOk P w H' s'.heap/\Tr s.heap H' s'.heap a c/\E c none H'
section
variable {X:Cx} {pins:List (Addr×Obj)} {σ:St} {H:Hp} {s:Shared}
theorem De{P:Program}{w:World}(Y:Cx):j7 (CX1 P w) Y λ_ _ _=>False:=λ_ _ _ _ _ _ _ h=>by
 obtain ⟨_,_,_,_,_,_,_,_,_,q⟩:=h;exact q.elim
end
abbrev veM:List Value:=[.type "ValueError",.type "Exception",.type "BaseException",.type "object"]
noncomputable def vQ:List Value->Bool
 |[.type a,.type b,.type c,.type d]=>a=="ValueError"&&b=="Exception"&&c=="BaseException"&&d=="object"
 |_=>false
theorem Ys{l:List Value}(h:vQ l=true):l=veM:=by
 unfold vQ at h;split at h
 ·simp only[ae,aI]at h;obtain ⟨⟨⟨rfl,rfl⟩,rfl⟩,rfl⟩:=h;rfl
 ·cases h
def Df:Value->Bool
 |.str _ _=>true
 |_=>false
noncomputable def nsB(K:PF)(N:Addr):Bool:=match K.lookup N with
 |some ⟨_,_,.dict es _,_⟩=>es.toList.all (λe=>Df e.key)&&quietNames.all λn=>(nsFind es n).isNone
 |_=>false
theorem Dg{K:PF}{N:Addr}{h:Heap}(KX:K.In h)(b:nsB K N=true):∃m,h.Ns N m/\∀n∈quietNames,m n=none:=by
 unfold nsB at b;split at b
 ·rename_i c d es ep sl e;rw[ae,ck,ck]at b;refine ⟨nsFind es,⟨_,es,ep,KX _ _ e,rfl,λx hx=>?_,λ_=>rfl⟩,λn hn=>by simpa using b.2 n hn⟩;have:=b.1 x (Array.mem_toList_iff.mpr hx);unfold Df at this;split at this
  ·rename_i y t e;exact ⟨_,_,e⟩
  ·cases this
 ·cases b
noncomputable def Dh(K:PF)(A:Addr):Bool:=match K.lookup A with
 |some ⟨_,_,.cls cd,_⟩=>nsB K cd.ns
 |_=>false
noncomputable def qD(K:PF):List Value->Bool
 |[]=>false
 |v::tl=>(match v with |.ref A=>Dh K A&&qD K tl |_=>vQ (v::tl))
theorem Di{K:PF}{h:Heap}(KX:K.In h):∀{l:List Value},qD K l=true->OwnTailQ h veM l
 |[],b=>by cases b
 |v::tl,b=>by
  unfold qD at b;split at b
  ·rename_i A;rw[ae]at b;have b1:=b.1;unfold Dh at b1;split at b1
   ·rename_i c d cd sl e;obtain ⟨m,hm,hq⟩:=Dg KX b1;exact .own (KX _ _ e) hm hq (Di KX b.2)
   ·cases b1
  ·rw[Ys b];exact .base
def isRef(C:Addr):Value->Bool
 |.ref a=>a==C
 |_=>false
def isNew:Option Value->Bool
 |some (.builtin s)=>s=="ValueError.__new__"
 |_=>false
def Dj:Value->Bool
 |.type s=>s=="type"
 |_=>false
noncomputable def ir(K:PF)(C:Addr):Bool:=match K.lookup C with
 |some ⟨ty,_,.cls cd,⟨[_,_,_,_,k,_]⟩⟩=>Dj ty&&isNew k&&nsB K cd.ns&&!cd.hasDel&&(match cd.mro with |v::tl=>isRef C v&&qD K tl |[]=>false)
 |_=>false
theorem Yt {K:PF} {C:Addr} {h:Heap} {mg:Str->Option Value} {x:Str} (KX:K.In h) (b:ir K C=true) (hm:mg x=some (.ref C)):OwnClsQ x C veM "ValueError.__new__" mg h:=by
 unfold ir at b;split at b
 ·rename_i ty dd cd k0 k1 k2 k3 k k5 e;simp only[ae]at b;obtain ⟨⟨⟨⟨b1,b2⟩,b3⟩,b5⟩,b4⟩:=b;obtain ⟨m,hns,hq⟩:=Dg KX b3;have e1:ty=.type "type":=by
   unfold Dj at b1;split at b1
   ·rw[aI]at b1;rw[b1]
   ·cases b1
  have e2:k=some (.builtin "ValueError.__new__"):=by
   unfold isNew at b2;split at b2
   ·rw[aI]at b2;rw[b2]
   ·cases b2
  obtain ⟨nm,bs,mro,ns,q,hd,sn,sub,ab,col,del⟩:=cd;dsimp only at b4 hns b5;have e4:del=false:=by simpa using b5
  subst e4;split at b4
  ·rename_i v tl;rw[ae]at b4;have e3:v=.ref C:=by
    have:=b4.1;unfold isRef at this;split at this
    ·rw[aI]at this;rw[this]
    ·cases this
   subst e1 e2 e3;exact ⟨hm,tl,ns,nm,q,bs,hd,sn,sub,ab,col,dd,k0,k1,k2,k3,k5,m,KX _ _ e,hns,hq,Di KX b4.2⟩
  ·cases b4
 ·cases b
theorem Yu{h:Heap}{bmB bm:List Value}(t:OwnTail h bmB bm){v:Value}(hv:bmB.contains v=true):bm.contains v=true:=by
 induction t with
 |base=>exact hv
 |own _ _ _ _ ih=>rw[List.contains_cons,ih,Bool.or_true]
theorem Dk{h h':Heap}(k:∀b o,h.get? b=some o->h'.get? b=some o){N:Addr}{m:Str->Option Value}(n:h.Ns N m):h'.Ns N m:=by obtain ⟨o,es,ep,e,r⟩:=n;exact ⟨o,es,ep,k _ _ e,r⟩
theorem Yv{h h':Heap}(k:∀b o,h.get? b=some o->h'.get? b=some o){bmB bm:List Value}(t:OwnTail h bmB bm):OwnTail h' bmB bm:=by
 induction t with
 |base=>exact .base
 |own e n i _ ih=>exact .own (k _ _ e) (Dk k n) i ih
section
variable {X:Cx}
abbrev TJ:=St->Hp->(Hp->Prop)->Prop
def PJ(X:Cx)(es:List Expr)(t:TJ)(n:Nat):Prop:=∀(pins:List (Addr×Obj))(s:Shared)(σ:St)(H:Hp)(Q:Hp->Prop)(out:Str),Inv X pins σ H s->out.length+n<=100000->t σ H Q->
 wpAny (model X.prog X.w) X.A (joinParts out (evalEach es X.env)) (EP X pins σ λv H'=>(∃x,v=.str x)/\Q H') X.xe s
theorem Yw:PJ X [] (λ_ H Q=>Q H) 0:=λpins s σ H Q out I hl q=>by
 refine joinParts_nil ⟨.str out,H,I.tok _,⟨_,rfl⟩,⟨_,rfl⟩,q⟩ ?_;have:sizeLine≥100000:=by decide
 omega
theorem qF(x y:Str):(x++y).length=x.length+y.length:=by show (x.cps++y.cps).size=_;rw[Array.size_append];rfl
theorem Yx{y:Str}{k:Nat}{p:Pos}{es:List Expr}{t:TJ}{n:Nat}(h:PJ X es t n):PJ X (.Constant (.str y) k p::es) t (y.length+n):=λpins s σ H Q out I hl q=>by
 have hz:sizeLine≥100000:=by decide
 refine joinParts_consE (joinParts_cons (Calls.Constant_str ?_));dsimp only;refine ⟨by rw[qF];omega,h pins _ σ H Q _ (I.tok _) (by rw[qF];omega) q⟩
theorem digits_le:∀n:Fin 100,(Str.ofString (toString (n.val:Int))).length<=3:=by ac_rfl
theorem Yy{e:Expr}{te:TE}{p:Pos}{es:List Expr}{t:TJ}{n:Nat}(he:PE X e te)(h:PJ X es t n):PJ X (.FormattedValue e (-1) none p::es) (λσ H Q=>te σ H λv H1=>(∃m:Nat,v=.int m/\m < 100)/\t σ H1 Q) (3+n):=λpins s σ H Q out I hl q=>by
 have hz:sizeLine≥100000:=by decide
 refine joinParts_consE (joinParts_cons (FormattedValue_plain (thn (he pins s σ H _ I q) λv s1 hy=>?_)));obtain ⟨x,H1,I1,r1,⟨m,rfl,hm⟩,q1⟩:=hy;obtain ⟨tk,rfl⟩:=r1;have hd:(Str.ofString (toString (m:Int))).length<=3:=digits_le ⟨m,hm⟩;refine formatField_int_small ?_ ?_
 ·have:(m:Int).natAbs=m:=Int.natAbs_natCast m;rw[this];exact Nat.lt_of_le_of_lt (Nat.log2_le_self m) (by omega)
 ·dsimp only;exact ⟨by rw[qF];omega,h pins _ σ H1 Q _ ((I1.tok _)) (by rw[qF];omega) q1⟩
theorem Yz{v1 v2:Expr}{es:List Expr}{t:TJ}{n:Nat}{pos:Pos}(h:PJ X (v1::v2::es) t n)(hn:n<=100000):PE X (.JoinedStr (v1::v2::es) pos) (λσ H Q=>t σ H λH1=>∀x,Q (.str x) H1):=λpins s σ H Q I q=>by
 refine JoinedStr_many ?_;refine dc (h pins s σ H _ Str.empty I (by show 0+n<=_;omega) q) (λv s1 hy=>?_) λ_ _ z=>z;obtain ⟨x,H1,I1,r1,⟨y,rfl⟩,q1⟩:=hy;exact ⟨_,H1,I1,r1,q1 y⟩
def Throws(X:Cx)(E:XK):Prop:=∀(pins:List (Addr×Obj))(σ:St)(H:Hp)(s:Shared)(h':Heap)(a:Addr)(c:Value)(args:List Value),Inv X pins σ H s->s.heap.MadeExcOf h' a c args->E c none H->X.xe (.ref a) { s with heap:=h' }
theorem Dl{x:Str}{C:Addr}{np cpos pos:Pos}{e:Expr}{es:List Expr}{ta:TA}{E:XK}(hc:X.calm=true)(hg:Gl X x)(hm:X.mg x=some (.ref C))(hb:ir X.K C=true)(hE:Throws X E)(ha:PA X (e::es) ta)
  (hdb:(x==("__debug__":Str))=false:=by decide) (he:starEach (e::es) X.env=(false,eval e X.env)::starEach es X.env:=by rfl) (hpl:(backTo cpos (starEach es X.env)).any (·.1)=false:=by rfl):
  PS X (.Raise (some (.Call (.Name x np) (e::es) [] cpos)) none pos) (λ_ σ H=>ta σ H λvs H1=>vs.length<=sizeLine/\E (.ref C) none H1):=by
 intro pins s σ H D I h;have kb:=I.ok.mod.kin;obtain ⟨bm,N,nm,q,bs,hd,sn,sub,ab,col,dd,k0,k1,k2,k3,k5,mN,b1,b2,b3,b4⟩:=(Yt kb hb hm:OwnClsQ x C veM "ValueError.__new__" X.mg X.base).own.obj;refine wpAny_Raise_call_subT (nm:=nm) (q:=q) (N:=N) (bs:=bs) (hdct:=hd) (sn:=sn) (sub:=sub) (ab:=ab) (col:=col) (dd:=dd) (k0:=k0) (k1:=k1) (k2:=k2) (k3:=k3) (k5:=k5) (F.excBase_ValueError) (Yu b4 (by decide)) (I.ok.hd hc) ?_ b3 (vA I hg hm ⟨rfl,?_⟩ hdb)
 ·rw[he];exact hpl
 ·have hsp:=ha cpos pins s σ H _ I h;rw[he]at hsp ⊢;refine Calls.evalArgs_plain (dc hsp (λvs s2 hy=>?_) λ_ _ z=>z);obtain ⟨ws,H2,I2,r2,hl,q2⟩:=hy;refine ⟨rfl,by rw[<-r2.length];exact hl,I2.bk _ _ b1,Dk I2.bk b2,Yv I2.bk b4,λh' a m=>hE pins σ H2 s2 h' a _ _ I2 m q2⟩
end
section
variable {X:Cx}
variable {pins:List (Addr×Obj)} {σ:St} {H:Hp} {s:Shared}
structure Caught(X:Cx)(H:Hp)(s:Shared)(H':Hp)(a:Addr)(c:Value)(s':Shared):Prop where
 os:s'.os=s.os
 bare:AllBare s'.gens
 un:Un (frs X.stack) [] H H' s.heap s'.heap
 hok:HOk X.prog X.w H' s'.heap
 tr:Tr s.heap H' s'.heap a c
variable {H':Hp} {a:Addr} {c:Value} {s':Shared}
end
open Builtin.ObjectAttr Builtin.Getset_descriptor
open PySem.W (findIn mroIn clsIn typeIn Looks InstAt looks_findIn looks_mroIn looks_typeIn)
noncomputable def Dm(K:PF)(D:Addr):Bool:=
 findIn K (.ref D) "__class__"==some (some (.builtin "object.__class__"))&&findIn K (.ref D) "__getattribute__"==some (some (.builtin "BaseException.__getattribute__"))&&findIn K (.ref D) "__getattr__"==some none &&
  mroIn K D (.type "object")==some true&&mroIn K D (.type "BaseException")==some true&&(clsIn K D).isSome
open PySem.W (findIn mroIn clsIn typeIn Looks looks_findIn looks_mroIn looks_typeIn)
section
variable {X:Cx}
def XO(H:Hp)(a c:Addr):Prop:=∃o y,H a=some (.frz o (.own y))/\o.cls=.ref c
def valOf:V->Value
 |.ref a=>.ref a
 |.ty n=>.type n
 |_=>.none
end
section
variable {X:Cx}
def XP(X:Cx)(pins:List (Addr×Obj))(ex:Value->St->Hp->Prop)(σ:St)(e:Value)(s1:Shared):Prop:=∃a c H1 s0 H',e=.ref a/\Inv X pins σ H1 s0/\Caught X H1 s0 H' a c s1/\ex c σ H'
noncomputable def Dn (K:PF) (C:Addr):Bool:=typeIn K (.ref C)==some (.type "type")&&(clsIn K C).isSome&&mroIn K C (.type "BaseException")==some true
end
open PySem.SeqAt
section
variable {X:Cx}
theorem vR:∀{bs:List Bool}{us:List Value},Vals (bs.map V.bl) us->us=bs.map Value.bool
 |[],us,r=>by cases r;rfl
 |b::bs,us,r=>by
  cases r with
  |cons r1 r2=>
   have e:_=Value.bool b:=r1;rw[e,vR r2];rfl
theorem Do(k:Bool){bs:List Bool}:∀y,y∈(bs.map Value.bool)->∀(A:Around)(s:Shared),EqAt A s y (.bool k) (isBoolOf k y):=by intro y hy A s;obtain ⟨b,_,rfl⟩:=ce.mp hy;exact EqAt.bool_bool b k
theorem YB(k:Bool)(bs:List Bool):(bs.map Value.bool).countP (isBoolOf k)=bs.count k:=by
 induction bs with
 |nil=>rfl
 |cons b bs ih=>
  rw[br,List.countP_cons,ih,List.count_cons];rfl
noncomputable def YC(K:PF):V->List V->Hp->VK->Prop:=λx vs H Q=>∃(p:Addr)(bs:List Bool),x=.ref p/\vs=[.bl true]/\SqL K H p (bs.map V.bl)/\Q (.int (bs.count true:Nat)) H
theorem YD:MtR X "list.count" (YC X.K):=by intro pins s σ H x xs v us Q I rx rs h;obtain ⟨p,bs,rfl,rfl,hq,q⟩:=h;cases rx;obtain ⟨u,rfl,ru⟩:=vals1 rs;cases ru;obtain ⟨its,rv,⟨o,n,ho,hc,hd,hdd⟩,hz⟩:=I.list hq;obtain ⟨cls,dd,data,sl⟩:=o;simp only at hc hd hdd;subst hc hd hdd;have e:=vR rv;subst e;refine fA PySem.F.slot_list_count ⟨_,ho,rfl⟩ PySem.F.entry_list_count (PySem.F.args_list_count_2 _ _) (list_countAt p _ n _ sl (.bool true) (isBoolOf true)) ⟨ho,λy hy=>Do true y (by simpa using hy) _ _,?_⟩;refine ⟨.int _,H,I.tok _,⟨_,rfl⟩,?_⟩;rw[show ((bs.map Value.bool).toArray).toList=bs.map Value.bool from rfl,YB];exact q
noncomputable def YF(K:PF):V->List V->Hp->VK->Prop:=λx vs H Q=>∃(p:Addr)(bs:List Bool),x=.ref p/\vs=[.bl true]/\SqL K H p (bs.map V.bl)/\true∈bs/\Q (.int (bs.idxOf true:Nat)) H
theorem Dp(bs:List Bool)(j:Nat)(h:j < (bs.map Value.bool).length)(h':j < bs.length):isBoolOf true (bs.map Value.bool)[j]=(bs[j]==true):=by rw[List.getElem_map];rfl
theorem YG:MtR X "list.index" (YF X.K):=by
 intro pins s σ H x xs v us Q I rx rs h;obtain ⟨p,bs,rfl,rfl,hq,hin,q⟩:=h;cases rx;obtain ⟨u,rfl,ru⟩:=vals1 rs;cases ru;obtain ⟨its,rv,⟨o,n,ho,hc,hd,hdd⟩,hz⟩:=I.list hq;obtain ⟨cls,dd,data,sl⟩:=o;simp only at hc hd hdd;subst hc hd hdd;have e:=vR rv;subst e;have hj:bs.idxOf true < bs.length:=List.idxOf_lt_length_iff.mpr hin;have hz':bs.length<=sizeLine:=by rw[ag]at hz;exact hz
 have hs:sizeLine < 2 ^ 63 - 1:=by decide
 refine fA PySem.F.slot_list_index ⟨_,ho,rfl⟩ PySem.F.entry_list_index (PySem.F.args_list_index_2 _ _) (list_indexAt p _ n _ sl (.bool true) (isBoolOf true) (bs.idxOf true) (by simpa using hj) (by omega) ?_ ?_) ⟨ho,λy hy=>Do true y (by simpa using hy) _ _,?_⟩
 ·have h3:bs.idxOf true < (bs.map Value.bool).length:=by rw[ag];exact hj
  show isBoolOf true ((bs.map Value.bool)[bs.idxOf true]'h3)=true;rw[Dp bs _ h3 hj];simpa using List.getElem_idxOf hj
 ·intro j hjs hlt;have h2:j < bs.length:=by omega
  have h3:j < (bs.map Value.bool).length:=by rw[ag];exact h2
  show isBoolOf true ((bs.map Value.bool)[j]'h3)=false;rw[Dp bs j h3 h2];have h4:j < bs.findIdx (·==true):=hlt;simpa using List.not_of_lt_findIdx h4
 ·exact ⟨.int _,H,I.tok _,⟨_,rfl⟩,q⟩
end
section
variable {X:Cx}
theorem YH:OpR X (binaryOp .FloorDiv) (rI (λ_ j=>0 < j/\j < 1152921504606846976) λi j=>.int (i / j)):=opI λi j _ _ _ _ _ hc q=>by
 have h1:(0:Int) < j:=hc.1;have h2:j < 1152921504606846976:=hc.2;refine floordiv_int (by omega) (by rw[Int.fdiv_eq_ediv_of_nonneg i (by omega)];exact q) (.inl (PyProof.noPylong_of_log2 ?_));have:j.natAbs.log2 < 60:=(Nat.log2_lt (by omega)).mpr (by show j.natAbs < 1152921504606846976;omega);omega
def vU(m:Nat):Str:=Str.ofString (toString (m:Int))
theorem YJ{m:Nat}(h:m < 100):(m:Int).natAbs.log2 < 1920:=by have:(m:Int).natAbs=m:=Int.natAbs_natCast m;rw[this];exact Nat.lt_of_le_of_lt (Nat.log2_le_self m) (by omega)
theorem YK:bT X (.type "str") (λxs H Q=>∃m:Nat,xs=[.int m]/\m < 100/\Q (.str (vU m)) H):=by intro pins s σ H xs us Q I r h;obtain ⟨m,rfl,hm,q⟩:=h;obtain ⟨u,rfl,ru⟩:=vals1 r;obtain ⟨t,rfl⟩:=ru;exact PySem.P.str_of_int (YJ hm) ⟨.str _,H,I.tok _,⟨_,rfl⟩,q⟩
end
end L2
namespace HT
open PySem PySem.Spec PyProof.Rows Builtin
theorem YL:fillsNumberSlot (.type "tuple") "mul"=pure false:=
 PySem.fillsNumberSlot_seq (id:="tuple.__mul__") (r:=some (.builtin "tuple.__rmul__")) PySem.F.slot_tuple_mul.lookup (by ac_rfl) PySem.F.slot_tuple_rmul.lookup (by ac_rfl)
theorem YM:seqRepeat? (.type "tuple")=pure (some (.builtin "tuple.__mul__")):=by unfold seqRepeat?;rw[PySem.seqSlot_of (T:="tuple") (name:="__mul__") (id:="tuple.__mul__") PySem.F.slot_tuple_mul.lookup (by ac_rfl),PySem.seqSlot_of (T:="tuple") (name:="__rmul__") (id:="tuple.__rmul__") PySem.F.slot_tuple_rmul.lookup (by ac_rfl)];rfl
theorem YQ(a:Int)(t:Tok)(l:Addr)(items:Array Value)(n:Nat)(dd:Option Addr)(sl:Array (Option Value)):
  Meets (Builtin.«int.__rmul__» ⟨[.int a t,.ref l],[]⟩) (λ_ R s=>s.heap.get? l=some { cls:=.type "tuple",dict:=dd,data:=.seq items n,slots:=sl }/\R (.ok (.ret Value.notImplemented)) s):=
 .of_wp λprog w A R s h=>by obtain ⟨hp,g,d,tk,os⟩:=s;obtain ⟨hl,h⟩:=h;wp_walk;exact ⟨_,rfl,h⟩
theorem YS(l:Addr)(items:Array Value)(n:Nat)(dd:Option Addr)(sl:Array (Option Value))(k:Int)(t:Tok)(h2:2<=k)(hk:k<=1000)(hne:items.isEmpty=false)(hz:items.size * k.toNat<=sizeLine)(hz2:(List.foldl (λx1 x2=>x1++x2) #[] (List.replicate k.toNat items)).size<=sizeLine):
  Meets (Builtin.«tuple.__mul__» ⟨[.ref l,.int k t],[]⟩) (λ_ R s=>s.heap.get? l=some { cls:=.type "tuple",dict:=dd,data:=.seq items n,slots:=sl }/\
   R (.ok (.ret (.ref s.heap.objs.size))) { s with heap:=s.heap.push { cls:=.type "tuple",data:=.seq ((List.replicate k.toNat items).foldl (· ++ ·) #[]) } }):=
 .of_wp λprog w A R s h=>by
  obtain ⟨hp,g,d,tk,os⟩:=s;obtain ⟨hl,h⟩:=h;have a1:(decide (k < -(2 ^ 63))||decide (k≥2 ^ 63))=false:=by rw[decide_eq_false (by omega),decide_eq_false (by omega)];rfl
  have a2:(items.isEmpty||k==1)=false:=by rw[hne,Bool.false_or,beq_eq_false_iff_ne];omega
  have a3:(decide (k<=0)||items.isEmpty)=false:=by rw[decide_eq_false (by omega),hne];rfl
  have hs:(items.size:Int) * k=((items.size * k.toNat:Nat):Int):=by rw[Int.natCast_mul,Int.toNat_of_nonneg (by omega)]
  have hsl:sizeLine<=1152921504606846975:=by decide
  have a4:¬((items.size:Int) * k > (2 ^ 63 - 1) / 8):=by rw[hs];omega
  have a5:¬(Tuple.tupleTooMany ((items.size:Int) * k)=true):=by unfold Tuple.tupleTooMany;rw[decide_eq_true_iff,hs];omega
  wp_walk
  rw[if_neg (by rw[a1];exact Bool.false_ne_true)];wp_walk
  rw[if_neg (by rw[a2];exact Bool.false_ne_true)];dsimp only;rw[if_neg (by rw[a3];exact Bool.false_ne_true),if_neg a4,if_neg a5];unfold Tuple.tupleExact;wp_walk
  exact ⟨_,rfl,h⟩
end HT
namespace L2
open PySem PySem.Spec PyProof.Rows
section
variable {X:Cx}
def YT(K:PF):R2:=λx y H Q=>∃(l:Addr)(k:Int)(xs:List V),x=.ref l/\y=.int k/\SqT K H l xs/\xs≠[]/\2<=k/\k<=1000/\xs.length * k.toNat<=sizeLine/\∀p,H p=none->Q (.ref p) (upd H p (.tup (List.replicate k.toNat xs).flatten))
theorem YW:OpR X (binaryOp .Mult) (YT X.K):=by
 intro pins s σ H x y v u Q I rx ry h;obtain ⟨l,k,xs,rfl,rfl,hT,hne,h2,hk,hz,q⟩:=h;cases rx;obtain ⟨t,rfl⟩:=ry;obtain ⟨its,r,pt,_⟩:=I.tuple hT;obtain ⟨⟨cls,dd,data,sl⟩,ho,hc,n,hd⟩:=id pt;simp only at hc hd;subst hc hd;have hl:=r.length;have hz':its.toArray.size * k.toNat<=sizeLine:=by rw[av,<-hl];exact hz
 have he:its.toArray.isEmpty=false:=by
  cases its with
  |nil=>exact absurd (dv.mp hl) hne
  |cons _ _=>rfl
 have hnew:List.foldl (λx1 x2=>x1++x2) #[] (List.replicate k.toNat its.toArray)=(List.replicate k.toNat its).flatten.toArray:=by have:=foldl_rep its k.toNat [];rw[List.nil_append]at this;exact this
 refine wpAny_binaryOp_repeat_ref (T:="tuple") (U:="int") (by decide) ⟨_,ho,rfl⟩ (λs'=>typeIs_int s' k t) HT.YL F.fills_int_mul F.slot_int_rmul HT.YM F.slot_int_index.lookup
  (fA F.slot_int_rmul (typeIs_int s k t) F.entry_int_rmul (F.args_int_rmul_2 _ _) (HT.YQ k t l its.toArray n dd sl)
   ⟨ho,rfl,⟨_,ho,rfl⟩,fA PySem.F.slot_tuple_mul ⟨_,ho,rfl⟩ PySem.F.entry_tuple_mul (PySem.F.args_tuple_mul_2 _ _) (HT.YS l its.toArray n dd sl k t h2 hk he hz' (by rw[hnew,av,len_rep,Nat.mul_comm,<-hl];exact hz)) ⟨ho,?_⟩⟩)
 rw[hnew];refine ⟨.ref s.heap.objs.size,_,I.laid (t':=s.toks) (o:=.tup (List.replicate k.toNat xs).flatten) (λb ob q=>am _ q) (aw _) ?_,rfl,q _ (I.hok.fresh (aw _))⟩;exact ⟨by rw[len_rep,Nat.mul_comm];exact hz,_,r.rep k.toNat,IsTup.new _ _⟩
end
end L2
namespace HT
open PySem PySem.Spec PyProof.Rows Builtin
theorem YX(a:Int)(t:Tok)(l:Addr)(items:Array Value)(n:Nat)(dd:Option Addr)(sl:Array (Option Value)):
  Meets (Builtin.«int.__rmul__» ⟨[.int a t,.ref l],[]⟩) (λ_ R s=>s.heap.get? l=some { cls:=.type "list",dict:=dd,data:=.seq items n,slots:=sl }/\R (.ok (.ret Value.notImplemented)) s):=
 .of_wp λprog w A R s h=>by obtain ⟨hp,g,d,tk,os⟩:=s;obtain ⟨hl,h⟩:=h;wp_walk;exact ⟨_,rfl,h⟩
theorem YZ(l:Addr)(items:Array Value)(n:Nat)(dd:Option Addr)(sl:Array (Option Value))(x:Int)(u:Tok)(hc0:¬(!Builtin.List.listFitsIndex x)=true)(hc1:¬items.size * x.toNat > (2 ^ 63 - 1) / 8)(hc2:¬Builtin.List.listTooLong (items.size * x.toNat)=true):
  Meets (Builtin.«list.__mul__» ⟨[.ref l,.int x u],[]⟩) (λ_ R s=>s.heap.get? l=some { cls:=.type "list",dict:=dd,data:=.seq items n,slots:=sl }/\R (.ok (.ret (Value.ref s.heap.objs.size))) { s with heap:=s.heap.push { cls:=Value.type "list",data:=Data.seq (List.foldl (λx1 x2=>x1++x2) #[] (List.replicate (if items.isEmpty=true then 0 else x.toNat) items)) },toks:=s.toks }):=
 .of_wp λprog w A R s h=>by
  obtain ⟨hp,g,d,tk,os⟩:=s;obtain ⟨hl,h⟩:=h;have hsz:=AutoListH.joined_fits hc2;wp_walk;refine wpAny_ite_false (decide_eq_false (Nat.not_lt.mpr hsz)) ?_;wp_walk;exact ⟨_,rfl,h⟩
end HT
namespace L2
open PySem PySem.Spec PyProof.Rows
section
variable {X:Cx}
def Y0(K:PF):R2:=λx y H Q=>∃(l:Addr)(k:Int)(xs:List V),x=.ref l/\y=.int k/\SqL K H l xs/\0<=k/\k<=1000/\xs.length * k.toNat<=sizeLine/\∀p,H p=none->Q (.ref p) (upd H p (.lst (List.replicate k.toNat xs).flatten))
theorem Y4:OpR X (binaryOp .Mult) (Y0 X.K):=by
 intro pins s σ H x y v u Q I rx ry h;obtain ⟨l,k,xs,rfl,rfl,hH,h1,h2,hz,q⟩:=h;cases rx;obtain ⟨t,rfl⟩:=ry;obtain ⟨its,r,⟨⟨cls,dd,data,sl⟩,n,e,c1,c2,c3⟩,_⟩:=I.list hH;simp only at c1 c2 c3;have hl:=r.length;have hlen:its.toArray.size * k.toNat<=sizeLine:=by rw[av,<-hl];exact hz
 have hcap:¬its.toArray.size * k.toNat > (2 ^ 63 - 1) / 8:=by
  have:(sizeLine:Nat)<=(2 ^ 63 - 1) / 8:=by decide
  omega
 have hfit:¬(!Builtin.List.listFitsIndex k)=true:=by rw[fitsIndex_both (by omega) (by omega)];exact a9
 have hlong:¬Builtin.List.listTooLong (its.toArray.size * k.toNat)=true:=by rw[Cw hlen];exact a9
 have hnew:List.foldl (λx1 x2=>x1++x2) #[] (List.replicate (if its.toArray.isEmpty=true then 0 else k.toNat) its.toArray)=(List.replicate k.toNat its).flatten.toArray:=by
  have f0:∀m:Nat,List.foldl (λx1 x2=>x1++x2) #[] (List.replicate m its.toArray)=(List.replicate m its).flatten.toArray:=λm=>by
   have:=foldl_rep its m [];rw[List.nil_append]at this;exact this
  rw[f0];cases its with
  |nil=>simp
  |cons a r'=>rw[if_neg (by simp)]
 subst c1 c3;refine wpAny_binaryOp_repeat_ref (T:="list") (U:="int") (by decide) ⟨_,e,rfl⟩ (λs'=>typeIs_int s' k t) noFill_list_mul F.fills_int_mul F.slot_int_rmul repeat_list F.slot_int_index.lookup
  (fA F.slot_int_rmul (typeIs_int s k t) F.entry_int_rmul (F.args_int_rmul_2 _ _) (HT.YX k t l its.toArray n dd sl)
   ⟨e,rfl,⟨_,e,rfl⟩,fA F.slot_list_mul ⟨_,e,rfl⟩ F.entry_list_mul (F.args_list_mul_2 _ _) (HT.YZ l its.toArray n dd sl k t hfit hcap hlong) ⟨e,?_⟩⟩)
 rw[hnew];exact ⟨.ref _,_,I.lnew (t':=s.toks) (r.rep k.toNat) (by rw[len_rep,Nat.mul_comm];exact hz),rfl,q _ I.fresh⟩
end
end L2
namespace PySem
end PySem
namespace L2
open PySem PySem.Spec PyProof.Rows
end L2
namespace PyProof.Rows
open PySem
theorem Y5 {prog:Program} {w:World} {A:Around} {E:Value->Shared->Prop} {s:Shared} {it:Addr} {T:String} {o:Obj} {items:List Value} {n:Nat} {ns:List Int} {Q:Value->Shared->Prop} (hT:T="list"\/T="tuple")
  (ho:s.heap.get? it=some o) (hc:o.cls=.type T) (hd:o.data=.seq items.toArray n) (hI:IntsAre items ns) (h64:items.length < 64)
  (h:∀(h1 h':Heap) (e:Nat) (out:Array Value) (ns':List Int),IntsAre out.toList ns'->ns'.Perm ns->ns'.Pairwise (·<=·)->(∀b o',s.heap.get? b=some o'->h1.get? b=some o')->(∀b o',h1.get? b=some o'->h'.get? b=some o')->h'.get? h1.objs.size=some (seqObj "list" out e)->Q (.ref h1.objs.size) { s with heap:=h' }):
  wpAny (model prog w) A (call (.builtin "sorted") [.ref it]) Q E s:=by
 refine Calls.call_function_entry kind_sorted plain_sorted entry_sorted (args_sorted1 _) ?_;unfold Builtin.«sorted»;refine wpAny_bind (m:=checkCount "sorted" 1 1 _) (wpAny_pure ?_);refine wpAny_bind (wpAny_collect_seq it hT ho hc hd (λh1 k1=>?_) (by rw[List.size_toArray,sizeLine_eq];omega));refine wpAny_bind (wpAny_newList ?_);have e1:items.toArray.toList=items:=by simp
 rw[e1];have hoL:(h1.push (seqObj "list" items.toArray 0)).get? h1.objs.size=some (seqObj "list" items.toArray 0):=Heap.get?_push_size _ rfl;show wpAny _ _ _ _ _ { s with heap:=h1.push (seqObj "list" items.toArray 0) };refine wpAny_bind (wpAny_holding (wpAny_call_entry slot_list_sort ⟨_,hoL,rfl⟩ entry_list_sort (list_sort_tree hoL hI h64 λout ns' a1 a2 a3=>⟨_,rfl,?_⟩) (args_list_sort _)));obtain ⟨e,he⟩:=sortedHeap_at (vs:=items) (out:=out) hoL;refine wpAny_pure ⟨_,rfl,h h1 _ e out ns' a1 a2 a3 k1 (λb o' hb1=>?_) he⟩;rw[sortedHeap_old (Nat.ne_of_lt (Heap.lt_size hb1)) (by rw[size_push'];exact Nat.lt_succ_of_lt (Heap.lt_size hb1))];exact Heap.get?_push_of_some _ hb1
end PyProof.Rows
namespace L2
open PySem PySem.Spec PyProof.Rows
theorem aib {X:Cx}:bT X (.builtin "sorted") (λxs H Q=>∃(p:Addr) (ns:List Int),xs=[.ref p]/\SqT X.K H p (ns.map V.int)/\ns.length < 64/\∀ns':List Int,ns'.Perm ns->ns'.Pairwise (·<=·)->∀l,H l=none->Q (.ref l) (upd H l (.lst (ns'.map V.int)))):=by
 intro pins s σ H xs us Q I r h;obtain ⟨p,ns,rfl,hq,h64,q⟩:=h;obtain ⟨u,rfl,ru⟩:=vals1 r;cases ru;obtain ⟨its,rv,⟨o,ho,hc,n,hd⟩,hz⟩:=I.tuple hq;have hlen:its.length=ns.length:=by rw[<-rv.length];simp
 refine Y5 (.inr rfl) ho hc hd (intsAre_of rv) (by omega) λh1 h' e out ns' a1 a2 a3 k1 k2 he=>?_;have I1:Inv X pins σ H { s with heap:=h1 }:=I.kept (t':=s.toks) k1;have hsz:(ns'.map V.int).length<=sizeLine:=by rw[ag,a2.length_eq,sizeLine_eq];omega
 exact ⟨.ref h1.objs.size,_,I1.laid (t':=s.toks) k2 (aw _) (show ObjOk X.prog X.w _ _ _ (.lst (ns'.map V.int)) from ⟨hsz,out.toList,e,vK a1,by rw[Array.toArray_toList];exact he⟩),rfl,q ns' a2 a3 _ (I1.hok.fresh (aw _))⟩
section
variable {prog:Program} {w:World} {A:Around} {R:Result->Shared->Prop} {s:Shared}
def fV(e:Expr)(d:Nat)(target iter:Expr)(em:Value->Env->Sem Fin->Sem Fin):Prop:=
 ∀it acc env,compTurn e d it acc env=(standAt iter.pos >>= λ_=>pyNext it >>= λr=>match r with
   |none=>pure (.done .next)
   |some v=>letOwnedTupleGo target it v >>= λ_=>assign target env v >>= λ_=>em acc env (again (.compLoop e d it acc env)))
def emE (elt:Expr) (acc:Value) (env:Env) (k:Sem Fin):Sem Fin:=(eval elt env >>= λx=>call (.builtin "list.append") [acc,x] >>= λ_=>pure ()) >>= λ_=>k
def emG(e:Expr)(d:Nat)(iter:Expr)(acc:Value)(env:Env)(k:Sem Fin):Sem Fin:=
 eval iter env >>= λx=>standAt iter.pos >>= λ_=>foldedSetIterable iter env x >>= λx=>holding [x] (pyIter x) >>= λit=>runOwn (.compStart e d it acc env) env >>= λ_=>k
theorem Y6(elt t1 i1 t2 i2 t3 i3:Expr)(scope:Scope)(pos:Pos):fV (.ListComp elt [⟨t1,i1,[],0⟩,⟨t2,i2,[],0⟩,⟨t3,i3,[],0⟩] scope pos) 2 t3 i3 (emE elt):=λ_ _ _=>rfl
theorem Y7(elt t1 i1 t2 i2 t3 i3:Expr)(scope:Scope)(pos:Pos):fV (.ListComp elt [⟨t1,i1,[],0⟩,⟨t2,i2,[],0⟩,⟨t3,i3,[],0⟩] scope pos) 1 t2 i2 (emG (.ListComp elt [⟨t1,i1,[],0⟩,⟨t2,i2,[],0⟩,⟨t3,i3,[],0⟩] scope pos) 2 i3):=λ_ _ _=>rfl
theorem Dq(elt t1 i1 t2 i2 t3 i3:Expr)(scope:Scope)(pos:Pos):fV (.ListComp elt [⟨t1,i1,[],0⟩,⟨t2,i2,[],0⟩,⟨t3,i3,[],0⟩] scope pos) 0 t1 i1 (emG (.ListComp elt [⟨t1,i1,[],0⟩,⟨t2,i2,[],0⟩,⟨t3,i3,[],0⟩] scope pos) 1 i2):=λ_ _ _=>rfl
theorem Ds{elt:Expr}{gens:List Comprehension}{scope:Scope}{pos:Pos}{d:Nat}{target iter:Expr}{em:Value->Env->Sem Fin->Sem Fin}{it acc:Value}{env:Env}(hT:fV (.ListComp elt gens scope pos) d target iter em)(I:Nat->Shared->Prop)
  (turn:∀n s,I n s->wpAny (model prog w) A (pyNext it) (λr s₁=>match r with
   |none=>R (.ok .next) s₁
   |some v=>wpAny (model prog w) A (letOwnedTupleGo target it v) (λ_ s₁'=>wpAny (model prog w) A (assign target env v) (λ_ s₂=>
     ∀(k:Sem Fin)(Q:Fin->Shared->Prop)(E:Value->Shared->Prop),(∀s₅,(∃m,m < n/\I m s₅)->wpAny (model prog w) A k Q E s₅)->wpAny (model prog w) A (em acc env k) Q E s₂) (λ_ _=>False) s₁') (λ_ _=>False) s₁) (λ_ _=>False) s)
  (n:Nat) (h:I n s):codeAny (model prog w) A (.compLoop (.ListComp elt gens scope pos) d it acc env) R s:=by
 refine codeAny_loop rfl I (λn s hI=>?_) n h;show wpAny _ A ((compTurn (.ListComp elt gens scope pos) d it acc env).onRaise (λx=>do noteFrame x env;theTreesLotGoes x)) _ _ s;refine wpAny_noted ?_;rw[hT];refine al (gu (al (dc (turn n s hI) (λr s₁ h₁=>?_) λ_ _ h'=>False.elim h')));cases r with
 |none=>exact bo h₁
 |some v=>
  refine al (dc h₁ (λ_ s₁' h₁'=>?_) λ_ _ h'=>False.elim h');exact al (dc h₁' (λ_ s₂ h₂=>h₂ _ _ _ λs₃ h₃=>bo ⟨rfl,h₃⟩) λ_ _ h'=>False.elim h')
theorem Y8{elt:Expr}{gens:List Comprehension}{scope:Scope}{pos:Pos}{d:Nat}{t i:Expr}{it acc:Value}{env:Env}(hg:gens[d]?=some ⟨t,i,[],0⟩)
  (h0:codeAny (model prog w) A (.compLoop (.ListComp elt gens scope pos) d it acc env) R s)
  (h:wpAny (model prog w) A (pyIter it) (λit' s'=>codeAny (model prog w) A (.compLoop (.ListComp elt gens scope pos) d it' acc env) R s') (λ_ _=>False) s):
  codeAny (model prog w) A (.compStart (.ListComp elt gens scope pos) d it acc env) R s:=by
 refine codeAny_of_tree ?_;show wpAny _ _ ((compStart (.ListComp elt gens scope pos) d it acc env).onRaise (λx=>do noteFrame x env;standAt theWindowsPlace)) _ _ s;refine wpAny_notedAt ?_;unfold compStart;have e:(clausesOf (.ListComp elt gens scope pos))[d]?=some ⟨t,i,[],0⟩:=hg;rw[e];show wpAny _ _ (ask >>= _) _ _ s;refine al (wpAny_askSetting (wpAny_ite ?_));split
 ·exact bo (af rfl h0)
 ·refine al (wpAny_rule ?_);show wpAny _ _ (standAt i.pos >>= _) _ _ s;exact al (gu (al (dc h (λit' s' h'=>bo (af rfl h')) λ_ _ x=>False.elim x)))
end
abbrev TM:=List V->St->Hp->(List V->St->Hp->Prop)->Prop
def lob (its:List Value) (n:Nat):Obj:={ cls:=.type "list",data:=.seq its.toArray n }
structure AccOk(X:Cx)(a:Addr):Prop where
 new:a∈X.ex\/X.s₀.heap.objs.size<=a
 cel:∀x c,X.env.cells.lookup x=some c->c≠a
 pin:∀p∈X.pn,p.1≠a
def PM(X:Cx)(lim:Bool)(a:Addr)(em:Sem Fin->Sem Fin)(t:TM):Prop:=
 ∀(pins:List (Addr×Obj))(its:List Value)(n:Nat)(ys:List V)(σ:St)(H:Hp)(s:Shared)(K:List V->St->Hp->Prop),Inv X ((a,lob its n)::pins) σ H s->(∀p∈pins,p.1≠a)->Vals ys its->(lim=true->ys.length < sizeLine)->t ys σ H K->
  ∀(k:Sem Fin)(Q:Fin->Shared->Prop)(E:Value->Shared->Prop),(∀s' its' n' ys' σ' H',Inv X ((a,lob its' n')::pins) σ' H' s'->Vals ys' its'->K ys' σ' H'->wpAny (model X.prog X.w) X.A k Q E s')->wpAny (model X.prog X.w) X.A (em k) Q E s
def tmE(te:TE):TM:=λys σ H K=>ys.length < sizeLine/\te σ H λy H'=>K (ys++[y]) σ H'
theorem Dt{X:Cx}{a:Addr}{elt:Expr}{te:TE}(hx:X.xe=λ_ _=>False)(ha:AccOk X a)(he:PE X elt te):PM X false a (emE elt (.ref a) X.env) (tmE te):=by
 intro pins its n ys σ H s K I hp rv _ h kk Q E hk;obtain ⟨hz,h⟩:=h;have h0:=he _ s σ H _ I h;rw[hx]at h0;refine al (al (dc h0 (λv s8 h8=>?_) λ_ _ z=>False.elim z));obtain ⟨y,H8,I8,r8,k8⟩:=h8;obtain ⟨pD,nD,lD,fD,cD⟩:=I8.pin (a,lob its n) (aE _ bg);have hl:=rv.length;refine al (append_at (hsz:=by rw[av];omega) pD λh9 hs9 hD9=>bo ?_);have I8a:Inv X pins σ H8 s8:=I8.pins_of λp hp=>I8.pin p (aE _ (ba _ hp));have I9:Inv X pins σ H8 { s8 with heap:=h9 }:=I8a.turned (t':=s8.toks) (it:=a) (λb o hb e=>hs9.extBut b o hb e) nD lD ha.new ha.cel (λp hp'=>by
  rcases bn.mp hp' with z |z
  ·exact ha.pin p z
  ·exact hp p z)
 have hD9':h9.get? a=some (lob (its++[v]) (n+1)):=by rw[hD9,List.push_toArray];rfl
 refine hk _ (its++[v]) (n+1) (ys++[y]) σ H8 (I9.pins_of λp hp'=>?_) (rv.append (.cons r8 .nil)) k8;rcases bS.mp hp' with e |z
 ·subst e;exact ⟨hD9',nD,lD,fD,λv z=>by have z':Data.seq _ _=Data.cell v:=z;cases z'⟩
 ·exact I9.pin p (aE _ z)
def emT(ifs:List Expr)(elt:Expr)(acc:Value)(env:Env)(k:Sem Fin):Sem Fin:=
 (forIn ifs true λc r=>if r=true then do let ok <-isTrue c env (eval c env);pure (ForInStep.yield ok) else pure (ForInStep.yield r)) >>= λok=>if ok=true then emE elt acc env k else k
theorem Du(elt tg iter:Expr)(ifs:List Expr)(scope:Scope)(pos:Pos):fV (.ListComp elt [⟨tg,iter,ifs,0⟩] scope pos) 0 tg iter (emT ifs elt):=λ_ _ _=>rfl
def tmT(tt:TT)(te:TE):TM:=λys σ H K=>tt σ H λb H4=>if b=true then te σ H4 λy H5=>K (ys++[y]) σ H5 else K ys σ H4
theorem Y9{X:Cx}{a:Addr}{elt:Expr}{ifs:List Expr}{tt:TT}{te:TE}(hx:X.xe=λ_ _=>False)(ha:AccOk X a)(ht:PIf X ifs tt)(he:PE X elt te):PM X true a (emT ifs elt (.ref a) X.env) (tmT tt te):=by
 intro pins its n ys σ H s K I hp rv hl h kk Q E hk;have h0:=ht _ s σ H _ I h;rw[hx]at h0;refine al (dc h0 (λb s4 h4=>?_) λ_ _ z=>False.elim z);obtain ⟨H4,I4,q4⟩:=h4;cases b with
 |false=>exact hk s4 its n ys σ H4 I4 rv q4
 |true=>exact Dt hx ha he pins its n ys σ H4 s4 K I4 hp rv (λz=>nomatch z) ⟨hl rfl,q4⟩ kk Q E hk
def Dv(J:It)(g:TG)(tm:TM)(ys:List V)(σ0:St)(H1:Hp)(K:List V->St->Hp->Prop):Prop:=
 ∃W:Nat->Nat->List V->St->Hp->Prop,(∃m,W 0 m ys σ0 H1)/\∀i m ys σ' H',W i m ys σ' H'->
  (J.stop i H'/\K ys σ' H')\/(J.go i H'/\∀x H2,J.yld i H' x H2->g x σ' H2 λσ3 H3=>tm ys σ3 H3 λys' σ4 H4=>∃m',m' < m/\W (i+1) m' ys' σ4 H4)
def tmG(wi:TI)(g:TG)(tm:TM):TM:=λys σ H K=>wi σ H λJ H1=>Dv J g tm ys σ H1 K
theorem Dw{X:Cx}{a:Addr}{elt:Expr}{gens:List Comprehension}{scope:Scope}{pos:Pos}{d:Nat}{t i:Expr}{em:Value->Env->Sem Fin->Sem Fin}{wi:TI}{g:TG}{tm:TM}(hx:X.xe=λ_ _=>False)(hc:X.calm=true)
  (hg:gens[d]?=some ⟨t,i,[],0⟩) (hT:fV (.ListComp elt gens scope pos) d t i em) (hi:PI X t i wi) (hG:PG X t g) (hs:∀x,foldedSetIterable i X.env x=pure x) (hm:PM X false a (em (.ref a) X.env) tm):
  PM X false a (emG (.ListComp elt gens scope pos) d i (.ref a) X.env) (tmG wi g tm):=by
 intro pins its n ys σ H s K I hp rv _ h kk Q E hk;have h0:=hi _ s σ H _ I h;rw[hx]at h0;refine al (dc h0 (λxv s1 h1=>?_) λ_ _ z=>False.elim z);refine al (gu (al (wpAny_of_eq (hs xv) ?_)));refine al (eR (dc h1 (λitv s2 h2=>?_) λ_ _ z=>False.elim z));obtain ⟨it,fp,tn,J,H2,e,I2,T,st2,f2,W,⟨m0,w0⟩,turn⟩:=h2;subst e;have fpok:∀{H':Hp}{o:Obj},(∀b∈fp,H' b=none)->∀b∈fp,dU X ((a,o)::pins) H' b:=λhn b hb=>by
  obtain ⟨_,q1,q2,q3,q4,q5⟩:=f2 b hb;refine ⟨hn b hb,q1,q2,q3,q4,λp hp=>?_⟩;rcases bn.mp hp with z |z
  ·exact q5 p (eW _ z)
  ·rcases bS.mp z with z |z
   ·subst z;exact q5 (a,lob its n) (aE _ bg)
   ·exact q5 p (aE _ (ba _ z))
 have hap:∀b∈fp,a≠b:=λb hb=>(f2 b hb).2.2.2.2.2 (a,lob its n) (aE _ bg);have loop:codeAny (model X.prog X.w) X.A (.compLoop (.ListComp elt gens scope pos) d (.ref it) (.ref a) X.env) (λr s'=>match r with |.ok f=>wpAny (model X.prog X.w) X.A kk Q E s' |.error e=>cameBackBy (model X.prog X.w) X.A X.env E e s') s2:=by
  refine Ds hT (λm s'=>∃(i:Nat)(ys:List V)(its:List Value)(n:Nat)(σ':St)(H':Hp),Inv X ((a,lob its n)::pins) σ' H' s'/\Vals ys its/\tn i s'.heap/\(∀b∈fp,H' b=none)/\W i m ys σ' H') ?_ m0 ⟨0,ys,its,n,σ,H2,I2,rv,st2,λb hb=>(f2 b hb).1,w0⟩;rintro m s3 ⟨i,ys,its,n,σ3,H3,I3,rv3,st3,fr3,w3⟩;rcases turn i m ys σ3 H3 w3 with ⟨stop,qn⟩ |⟨go,step⟩
  ·refine thn (T.done X rfl rfl rfl hc i _ s3 σ3 H3 _ I3 (fpok fr3) st3 stop) λr s4 ⟨hr,I4⟩=>?_;subst hr;exact hk s4 its n ys σ3 H3 I4 rv3 qn
  ·refine thn (T.item X rfl rfl rfl hc i _ s3 σ3 H3 _ I3 (fpok fr3) st3 go) λr s4 ⟨u,hr,h4⟩=>?_;subst hr;refine thn h4 λ_ s5 ⟨x,H5,I5,r5,y5,st5,fr5⟩=>?_;have I5':=I5.pinned (fpok fr5) (T.obj _ _ st5);have h6:=hG _ s5 σ3 H5 x u _ I5' r5 (step x H5 y5);rw[hx]at h6;refine thn h6 λ_ s6 ⟨σ6,H6,I6,q6⟩=>?_;intro k Q' E' hk';refine hm (pins++jf fp s5.heap) its n ys σ6 H6 s6 _ I6 (λp hp'=>?_) rv3 (λz=>nomatch z) q6 k Q' E' λs7 its' n' ys' σ7 H7 I7 rv7 ⟨m',hm',w7⟩=>hk' s7 ⟨m',hm',i+1,ys',its',n',σ7,H7,I7.pins_of λp hp'=>?_,rv7,?_,λb hb=>?_,w7⟩
   ·rcases bn.mp hp' with z |z
    ·exact hp p z
    ·exact λe=>hap p.1 (vG z).1 e.symm
   ·refine I7.pin p (aE _ ?_);rcases bS.mp hp' with z |z
    ·rw[z];exact bg
    ·exact ba _ (eW _ z)
   ·exact T.keep _ _ _ st5 λb hb o e=>(I7.pin (b,o) (aE _ (ba _ (aE _ (jg hb e))))).1
   ·obtain ⟨o,e,_⟩:=T.obj _ _ st5 b hb;exact (I7.pin (b,o) (aE _ (ba _ (aE _ (jg hb e))))).2.1
 exact al (wpAny_runOwn (Y8 hg loop (T.self X.A 0 _ _ _ st2 loop)))
def vV(lim:Bool)(X:Cx)(N':List Str)(scope:Scope)(tg:Expr)(em:Value->Env->Sem Fin->Sem Fin)(J:It)(σ0:St)(H1:Hp)(Q:VK):Prop:=
 ∃W:Nat->Nat->List V->St->Hp->Prop,(∃m,W 0 m [] σ0 H1)/\∀i m ys σ' H',W i m ys σ' H'->
  (J.stop i H'/\ys.length<=sizeLine/\∀D,H' D=none->Q (.ref D) (upd H' D (.lst ys)))\/
  (J.go i H'/\(lim=true->ys.length < sizeLine)/\∀cl C s₁ H₁ fp pn,∃g tm,PG (X.comp N' scope cl C s₁ H₁ fp pn) tg g/\(∀a,AccOk (X.comp N' scope cl C s₁ H₁ fp pn) a->PM (X.comp N' scope cl C s₁ H₁ fp pn) lim a (em (.ref a) (X.comp N' scope cl C s₁ H₁ fp pn).env) tm)/\
   ∀x H2,J.yld i H' x H2->g x σ' H2 λσ3 H3=>tm ys σ3 H3 λys' σ4 H4=>∃m',m' < m/\W (i+1) m' ys' σ4 H4)
def vW(lim:Bool)(X:Cx)(N':List Str)(scope:Scope)(tg:Expr)(em:Value->Env->Sem Fin->Sem Fin)(wi:TI)(cap:List (Option Nat)):TE:=λσ H Q=>wi σ H λJ H1=>vV lim X N' scope tg em J (dD cap σ) H1 Q
theorem Dy{X:Cx}{elt tg iter:Expr}{ifs:List Expr}{lim:Bool}{rest:List Comprehension}{em:Value->Env->Sem Fin->Sem Fin}{scope:Scope}{pos:Pos}{wi:TI}{pins:List (Addr×Obj)}{s:Shared}{σ:St}{H:Hp}{Q:VK}{RR:Value->Addr->Result->Shared->Prop}(N':List Str)(cap:List (Option Nat))(hc:X.calm=true)(hi:PI X tg iter wi)(hcap:Caps X scope N' cap)
  (hcell:scope.names.all (λy=>y.2 != NameKind.cell)=true)
  (hfr:scope.names.all (λy=>y.2 != NameKind.free||(X.env.kindOf y.1==some NameKind.cell||X.env.kindOf y.1==some NameKind.free))=true)
  (hkind:scope.kind=.function) (hT:fV (.ListComp elt (⟨tg,iter,ifs,0⟩::rest) scope pos) 0 tg iter em) (I:Inv X pins σ H s) (h:vW lim X N' scope tg em wi cap σ H Q)
  (fin:∀(D C:Addr)(H':Hp)(s4:Shared)(m:Str->Option Value),Inv X pins σ H' s4->Q (.ref D) H'->s4.heap.Ns C m->dU X pins H' C->RR (.ref D) C (.ok .next) s4):
  wpAny (model X.prog X.w) X.A (eval iter X.env) (λx s₁=>wpAny (model X.prog X.w) X.A (pyIter x) (λit s₂=>wpAny (model X.prog X.w) X.A (newList []) (λacc s₃=>
   wpAny (model X.prog X.w) X.A (newFunctionEnv scope X.env.globals (cM X.env scope.names []) [] X.env.qual none .none (some X.env)) (λcenv s₄=>
    codeAny (model X.prog X.w) X.A (.compStart (.ListComp elt (⟨tg,iter,ifs,0⟩::rest) scope pos) 0 it acc { cenv with scope:=relabel scope X.env }) (RR acc cenv.locals) s₄) X.xe s₃) X.xe s₂) X.xe s₁) X.xe s:=by
 have hcell':∀y∈scope.names,y.2≠NameKind.cell:=λy hy=>by
  have:=ck.mp hcell y hy;simpa using this
 have hfr':∀y∈scope.names,y.2=NameKind.free->(X.env.kindOf y.1=some NameKind.cell\/X.env.kindOf y.1=some NameKind.free):=λy hy hl=>by
  have:=ck.mp hfr y hy;simpa [hl] using this
 have hcs:∀y∈scope.names,y.2=NameKind.free->(X.env.cells.lookup y.1).isSome=true:=λy hy hl=>by
  obtain ⟨c,e⟩:=I.ok.has y.1 (hfr' y hy hl);rw[e];rfl
 have clsub:∀x c,(cM X.env scope.names []).lookup x=some c->X.env.cells.lookup x=some c:=Cz (λx c e=>by simp at e);have clhas:∀x,scope.names.lookup x=some NameKind.free->∃c,(cM X.env scope.names []).lookup x=some c:=λx e=>by
  have hm:=eg e;exact cw.mp (CJ (hcs _ hm rfl) hm)
 have rel:∀x,(relabel scope X.env).names.lookup x=(scope.names.lookup x).map λk=>if (k==NameKind.free&&X.env.scope.kind==.function&&X.env.kindOf x==some .cell)=true then NameKind.cell else k:=λx=>vM
 have relfree:∀x,((relabel scope X.env).names.lookup x=some NameKind.cell\/(relabel scope X.env).names.lookup x=some NameKind.free)->scope.names.lookup x=some NameKind.free:=λx e=>by
  rw[rel x]at e;cases z:scope.names.lookup x with
  |none=>rw[z]at e;rcases e with e |e <;> cases e
  |some k=>
   have nk:=hcell' _ (eg z);rw[z]at e;cases k with
   |free=>rfl
   |cell=>exact absurd rfl nk
   | «local»=>rcases e with e |e <;> simp[show (NameKind.«local»==NameKind.free)=false by decide]at e
   |globalExplicit=>rcases e with e |e <;> simp[show (NameKind.globalExplicit==NameKind.free)=false by decide]at e
   |globalImplicit=>rcases e with e |e <;> simp[show (NameKind.globalImplicit==NameKind.free)=false by decide]at e
 generalize hcl:cM X.env scope.names []=cl at clsub clhas;refine thn (hi pins s σ H _ I h) λxv s0 h0=>thn h0 λitv s2 h2=>?_;obtain ⟨it,fp,tn,J,H2,e,I2,T,st2,f2,W,⟨m0,w0⟩,turn⟩:=h2;subst e;refine wpAny_newObj_type (wpAny_newFunctionEnv hcell' (by intro y hy;simp at hy) (λh₁ hns₁ hsb₁=>?_) hkind);dsimp only at hns₁ hsb₁ ⊢;generalize hH2:s2.heap.push { cls:=.type "list",dict:=none,data:=.seq ([]:List Value).toArray }=HP at hns₁ hsb₁ ⊢;have hC:HP.objs.size=s2.heap.objs.size+1:=by rw[<-hH2,eJ]
 have hDC:s2.heap.objs.size≠HP.objs.size:=by rw[hC];exact cK (fw _)
 have below:∀b,b < s2.heap.objs.size->b≠HP.objs.size/\b≠s2.heap.objs.size:=λb hb=>⟨by rw[hC];exact cK (Nat.lt_succ_of_lt hb),cK hb⟩;have old:∀b o,s2.heap.get? b=some o->h₁.get? b=some o:=λb o e=>hsb₁.extBut b o (below b (aS e)).1 (am _ (hH2 ▸ am _ e));have hacc:h₁.get? s2.heap.objs.size=some { cls:=.type "list",data:=.seq ([]:List Value).toArray 0 }:=hsb₁.extBut _ _ hDC (am _ (hH2 ▸ bi _ rfl));have hst₁:tn 0 h₁:=T.keep _ _ _ st2 λb _ o e=>old b o e;have fplt:∀b∈fp,b < s2.heap.objs.size:=λb hb=>by
  obtain ⟨o,e,_⟩:=T.obj _ _ st2 b hb;exact aS e
 have fslt:∀b∈frs X.stack,b < s2.heap.objs.size:=λb hb=>by
  obtain ⟨_,o,e,_⟩:=I2.stack.mem hb;exact aS e
 have celllt:∀x c,cl.lookup x=some c->c < s2.heap.objs.size:=λx c e=>by
  obtain ⟨v,q⟩:=I2.cell x c (clsub x c e);exact q.lt
 have hDf:H2 s2.heap.objs.size=none:=I2.hok.fresh (aw _);have hCf:H2 HP.objs.size=none:=I2.hok.fresh (by rw[hC];exact Nat.le_succ _);have nofs:∀b∈fp,b∉frs X.stack:=λb hb z=>by
  obtain ⟨_,f1,f2',_⟩:=f2 b hb;rcases bS.mp (I2.stkSub b z) with e |e
  ·exact f1 e
  ·exact f2' e
 have ok':(X.comp N' scope cl HP.objs.size s2 H2 fp (X.pn++pins)).Ok:=
  ⟨I2.ok.mod,hkind,I2.ok.glob,I2.ok.blt,(by show s2.heap.objs.size<=HP.objs.size;rw[hC];exact Nat.le_succ _),
   λx y c e1 e2=>I2.ok.inj x y c (clsub x c e1) (clsub y c e2),λx hx=>clhas x (relfree x hx),λx c hf _=>(by cases hf),I2.ok.hd,I2.ok.frames,.inl rfl,
   λb hb=>⟨(below b (fplt b hb)).1,λx c e=>(f2 b hb).2.2.2.2.1 x c (clsub x c e)⟩,I2.bs,b6 I2.ok.bsz I2.sz,
   λb o e hb=>(by
    rcases (f2 b hb).2.2.2.1 with z |z
    ·exact I2.ok.noex b o e z
    ·exact absurd (bP (aS e) (b6 I2.ok.bsz z)) (ey _)),
   nofs,I2.stack,I2.stkFree⟩
 have pnOk:∀p∈X.pn++pins,p.1 < s2.heap.objs.size/\p.1∉frs X.stack:=λp hp=>by
  obtain ⟨e,_,n1,n2,_⟩:=I2.pin p hp;refine ⟨aS e,λz=>?_⟩;rcases bS.mp (I2.stkSub _ z) with e |e
  ·exact n1 e
  ·exact n2 e
 have I0:∀t,Inv (X.comp N' scope cl HP.objs.size s2 H2 fp (X.pn++pins)) [(s2.heap.objs.size,{ cls:=.type "list",data:=.seq ([]:List Value).toArray 0 })] (dD cap σ) H2 { s2 with heap:=h₁,toks:=t }:=λt=>
  ⟨ok',rfl,I2.bare,Un.kept old,⟨_,hns₁,λi x v e1 e2 _=>by
    obtain ⟨j,nj,fr,sj⟩:=hcap.at e1 e2;obtain ⟨m,_,hl⟩:=I2.loc;have hk:=hfr' (x,NameKind.free) (eg fr) rfl;obtain ⟨u,r,l⟩:=hl j x v nj sj (by rcases hk with hk |hk;exact .inr (.inl hk);exact .inr (.inr hk));refine ⟨u,r,.inr ⟨?_,?_⟩⟩
    ·show (relabel scope X.env).names.lookup x=some .cell\/(relabel scope X.env).names.lookup x=some .free;rw[rel x,fr,Option.map_some];by_cases hh:(NameKind.free==NameKind.free&&X.env.scope.kind==ScopeKind.function&&X.env.kindOf x==some NameKind.cell)=true
     ·exact .inl (by rw[if_pos hh])
     ·exact .inr (by rw[if_neg hh])
    ·obtain ⟨c,ec⟩:=clhas x fr;have ec':=clsub x c ec;rcases l with ⟨k1,_⟩ |⟨_,c',e',q⟩
     ·rcases hk with hk |hk <;> (rw[hk]at k1;cases k1)
     ·have ecc:X.env.cells.lookup x=some c:=ec';rw[e']at ecc;cases ecc;obtain ⟨o,ho,hd⟩:=q;exact ⟨_,ec,o,old _ _ ho,hd⟩⟩,
   λx c e=>(by obtain ⟨v,o,ho,hd⟩:=I2.cell x c (clsub x c e);exact ⟨v,o,old _ _ ho,hd⟩),hCf,λx c e=>I2.freeC x c (clsub x c e),
   λp hp=>by
    rcases bn.mp hp with z |z
    ·obtain ⟨e,n0,_,_,d⟩:=I2.pin p z;exact ⟨old _ _ e,n0,(below _ (pnOk p z).1).1,(pnOk p z).2,d⟩
    ·have e:p=_:=bq.mp z;subst e;exact ⟨hacc,hDf,hDC,λz=>absurd (fslt _ z) (ey _),λv z=>by have z':Data.seq _ _=Data.cell v:=z;cases z'⟩,
   I2.hok.kept old,by show (dD cap σ).length=N'.length;unfold dD;rw[ag];exact hcap.len⟩
 have fpok:∀{H':Hp}{o:Obj},(∀b∈fp,H' b=none)->∀b∈fp,dU (X.comp N' scope cl HP.objs.size s2 H2 fp (X.pn++pins)) [(s2.heap.objs.size,o)] H' b:=λhn b hb=>
  ⟨hn b hb,(below b (fplt b hb)).1,nofs b hb,.inl hb,λx c e=>(f2 b hb).2.2.2.2.1 x c (clsub x c e),λp hp=>by
   rcases bn.mp hp with z |z
   ·exact (f2 b hb).2.2.2.2.2 p z
   ·have e:p=_:=bq.mp z;subst e;exact Ne.symm (below b (fplt b hb)).2⟩
 have loop:∀s₃:Shared,s₃={ s2 with heap:=h₁,toks:=s2.toks+([]:List (Str×Value)).length }->
   codeAny (model X.prog X.w) X.A (.compLoop (.ListComp elt (⟨tg,iter,ifs,0⟩::rest) scope pos) 0 (.ref it) (.ref s2.heap.objs.size) (compEnvC scope cl HP.objs.size X.env))
    (RR (.ref s2.heap.objs.size) HP.objs.size) s₃:=by
  rintro s₃ rfl;refine Ds hT
   (λk s'=>∃(i:Nat) (ys:List V) (its:List Value) (n:Nat) (σ':St) (H':Hp),Inv (X.comp N' scope cl HP.objs.size s2 H2 fp (X.pn++pins)) [(s2.heap.objs.size,{ cls:=.type "list",data:=.seq its.toArray n })] σ' H' s'/\Vals ys its/\
    tn i s'.heap/\(∀b∈fp,H' b=none)/\W i k ys σ' H') ?_ m0 ⟨0,[],[],0,_,H2,I0 _,.nil,hst₁,λb hb=>(f2 b hb).1,w0⟩
  rintro k s3 ⟨i,ys,its,n,σ3,H3,I3,rv3,st3,fr3,w3⟩;rcases turn i k ys σ3 H3 w3 with ⟨stop,hz,qn⟩ |⟨go,hlim,step⟩
  ·refine thn (T.done (X.comp N' scope cl HP.objs.size s2 H2 fp (X.pn++pins)) rfl rfl rfl hc i _ s3 σ3 H3 _ I3 (fpok fr3) st3 stop) λr s4 ⟨hr,I4⟩=>?_;subst hr;obtain ⟨m,hn,_⟩:=I4.loc;obtain ⟨pD,nD,_,_,_⟩:=I4.pin (s2.heap.objs.size,{ cls:=.type "list",data:=.seq its.toArray n }) (aE _ (bq.mpr rfl));have nC:H3 HP.objs.size=none:=I4.free;have u:Un (frs X.stack) fp H2 H3 s2.heap s4.heap:=I4.base;refine fin s2.heap.objs.size HP.objs.size (upd H3 s2.heap.objs.size (.lst ys)) s4 m ?_ (qn _ nD) hn ?_
   ·refine I2.call' (s':=s4) (ch:=fp) I4.os ?_ ?_ I4.bare λb hb=>⟨(f2 b hb).2.2.2.1,(f2 b hb).2.1,(f2 b hb).2.2.2.2.1,(f2 b hb).2.2.2.2.2⟩
    ·refine ⟨λb o e n0 hb hx=>u.keep b o e n0 hb hx,λb o e n0 hb hx=>u.slot b o e n0 hb hx,λb o e n0 hx=>?_,λb o e hx=>u.there b o e hx,λb xs e=>?_,λb o v e=>?_,λb ps e=>?_⟩
     ·rw[aP (below b (aS e)).2];exact u.free b o e n0 hx
     ·rw[aP (bN e hDf)];exact u.tups b xs e
     ·rw[aP (bN e hDf)];exact u.frzs b o v e
     ·rw[aP (bN e hDf)];exact u.tbls b ps e
    ·intro b o e;by_cases hb:b=s2.heap.objs.size
     ·subst hb;rw[fP]at e;cases e;exact ⟨hz,its,n,rv3,pD⟩
     ·rw[aP hb]at e;exact (I4.hok b o e).stay (λc v _ q=>q) (λc q=>by rw[aP (bN q nD)];exact q) λc xs q=>by rw[aP (bN q nD)];exact q
   ·have hle:s2.heap.objs.size<=HP.objs.size:=by rw[hC];exact Nat.le_succ _
    exact I2.fpOk hle (by rw[aP (Ne.symm hDC)];exact nC)
  ·refine thn (T.item (X.comp N' scope cl HP.objs.size s2 H2 fp (X.pn++pins)) rfl rfl rfl hc i _ s3 σ3 H3 _ I3 (fpok fr3) st3 go) λr s4 ⟨u,hr,h4⟩=>?_;subst hr;refine thn h4 λ_ s5 ⟨x,H5,I5,r5,y5,st5,fr5⟩=>?_;obtain ⟨g,tm,hg,hm,body⟩:=step cl HP.objs.size s2 H2 fp (X.pn++pins);have acc:AccOk (X.comp N' scope cl HP.objs.size s2 H2 fp (X.pn++pins)) s2.heap.objs.size:=
    ⟨.inr (aw _),λx c e z=>absurd (celllt x c e) (by rw[z];exact ey _),λp hp z=>absurd (pnOk p hp).1 (by rw[z];exact ey _)⟩
   have I5':=I5.pinned (fpok fr5) (T.obj _ _ st5);refine thn (hg _ s5 σ3 H5 x u _ I5' r5 (body x H5 y5)) λ_ s6 ⟨σ6,H6,I6,q6⟩=>?_;intro kk Q' E' hk';refine hm _ acc (jf fp s5.heap) its n ys σ6 H6 s6 _ I6 (λp hp' e=>?_) rv3 hlim q6 kk Q' E' λs7 its' n' ys' σ7 H7 I7 rv7 ⟨m',hm',w7⟩=>hk' s7 ⟨m',hm',i+1,ys',its',n',σ7,H7,I7.pins_of λp hp'=>?_,rv7,?_,λb hb=>?_,w7⟩
   ·exact (below p.1 (fplt p.1 (vG hp').1)).2 e
   ·refine I7.pin p (aE _ ?_);rw[bq.mp hp'];exact bg
   ·exact T.keep _ _ _ st5 λb hb o e=>(I7.pin (b,o) (aE _ (ba _ (jg hb e)))).1
   ·obtain ⟨o,e,_⟩:=T.obj _ _ st5 b hb;exact (I7.pin (b,o) (aE _ (ba _ (jg hb e)))).2.1
 exact codeAny_compStart_list (loop _ rfl) (T.self X.A 0 _ _ _ hst₁ (loop _ rfl))
theorem Dz{X:Cx}{elt tg iter:Expr}{ifs:List Expr}{lim:Bool}{rest:List Comprehension}{em:Value->Env->Sem Fin->Sem Fin}{scope:Scope}{pos:Pos}{wi:TI}(N':List Str)(cap:List (Option Nat))(hc:X.calm=true)(hi:PI X tg iter wi)(hcap:Caps X scope N' cap)
  (hcell:scope.names.all (λy=>y.2 != NameKind.cell)=true) (hnames:scope.names.all (λy=>y.2 != NameKind.local||scope.names.lookup y.1==some NameKind.local)=true)
  (hfr:scope.names.all (λy=>y.2 != NameKind.free||(X.env.kindOf y.1==some NameKind.cell||X.env.kindOf y.1==some NameKind.free))=true)
  (hkind:scope.kind=.function) (hs:∀x,foldedSetIterable iter X.env x=pure x) (hT:fV (.ListComp elt (⟨tg,iter,ifs,0⟩::rest) scope pos) 0 tg iter em):
  PE X (.ListComp elt (⟨tg,iter,ifs,0⟩::rest) scope pos) (vW lim X N' scope tg em wi cap):=by
 intro pins s σ H Q I h;have hnames':∀y∈scope.names,y.2=NameKind.local->scope.names.lookup y.1=some NameKind.local:=λy hy hl=>by
  have:=ck.mp hnames y hy;simpa [hl] using this
 have hcs:∀y∈scope.names,y.2=NameKind.free->(X.env.cells.lookup y.1).isSome=true:=λy hy hl=>by
  have:=ck.mp hfr y hy;obtain ⟨c,e⟩:=I.ok.has y.1 (by simpa [hl] using this);rw[e];rfl
 rw[eval_ListComp];refine wpAny_comprehension_free (use:=none) (Q:=EP X pins σ Q) rfl hs (CK hcs) hkind hnames'
  (Dy (RR:=λacc C=>compPost (model X.prog X.w) X.A X.xe none (EP X pins σ Q) acc C) N' cap hc hi hcap hcell hfr hkind hT I h λL C H' s4 m I4 q hn fC=>?_)
 obtain ⟨f0,f1,f2,f3,f4,f5⟩:=fC;exact ⟨m,hn,λh' hs'=>⟨.ref L,H',I4.turned (t':=s4.toks) (it:=C) (λb o hb e=>hs'.extBut b o hb e) f0 f1 f3 f4 f5,rfl,q⟩⟩
theorem DG{X:Cx}{elt tg iter:Expr}{ifs:List Expr}{lim:Bool}{rest:List Comprehension}{em:Value->Env->Sem Fin->Sem Fin}{scope:Scope}{pos py spos:Pos}{wi:TI}{i:Nat}{y:Str}(hT:fV (.ListComp elt (⟨tg,iter,ifs,0⟩::rest) scope pos) 0 tg iter em)(hN:X.N.Nodup)(hiy:X.N[i]?=some y)(hy:Loc X.env.scope y)(N':List Str)(cap:List (Option Nat))(hc:X.calm=true)(hi:PI X tg iter wi)(hcap:Caps X scope N' cap)
  (hcell:scope.names.all (λy=>y.2 != NameKind.cell)=true:=by rfl) (hnames:scope.names.all (λy=>y.2 != NameKind.local||scope.names.lookup y.1==some NameKind.local)=true:=by rfl)
  (hfr:scope.names.all (λy=>y.2 != NameKind.free||(X.env.kindOf y.1==some NameKind.cell||X.env.kindOf y.1==some NameKind.free))=true:=by rfl)
  (hkind:scope.kind=.function:=by rfl) (hs:∀x,foldedSetIterable iter X.env x=pure x:=by intro _;rfl)
  (hsw:swapsWith (.ListComp elt (⟨tg,iter,ifs,0⟩::rest) scope pos) (some (.Name y py)) spos.line X.env=pure true:=by rfl)
  (hf:X.fn y=true\/X.env.scope.names.lookup y=some .local:=by first |exact .inl rfl |exact .inr rfl |assumption):
  PS X (.Assign [.Name y py] (.ListComp elt (⟨tg,iter,ifs,0⟩::rest) scope pos) spos) (qt (vW lim X N' scope tg em wi cap) (qp i)):=by
 intro pins s σ H D I h;have hnames':∀y∈scope.names,y.2=NameKind.local->scope.names.lookup y.1=some NameKind.local:=λy hy hl=>by
  have:=ck.mp hnames y hy;simpa [hl] using this
 have hcs:∀y∈scope.names,y.2=NameKind.free->(X.env.cells.lookup y.1).isSome=true:=λy hy hl=>by
  have:=ck.mp hfr y hy;obtain ⟨c,e⟩:=I.ok.has y.1 (by simpa [hl] using this);rw[e];rfl
 rw[exec_Assign_Name_used _ _ _ _ hsw];refine al (gu (al ?_));show wpAny _ X.A (do let _ <-comprehension (.ListComp elt (⟨tg,iter,ifs,0⟩::rest) scope pos) scope X.env _ (newList []) false (eval iter X.env) (some (assign (.Name y py) X.env))) _ _ s;refine al (dc (wpAny_comprehension_free (use:=some (assign (.Name y py) X.env)) (Q:=λ_ s'=>SP X pins D .next s') rfl hs (CK hcs) hkind hnames'
  (Dy (RR:=λacc C=>compPost (model X.prog X.w) X.A X.xe (some (assign (.Name y py) X.env)) (λ_ s'=>SP X pins D .next s') acc C) N' cap hc hi hcap hcell hfr hkind hT I h λL C H' s4 m I4 q hn fC=>?_)) (λ_ s' hq=>bo (bo hq)) λ_ _ e=>e)
 obtain ⟨oC,es,ep,eC,rC⟩:=id hn;obtain ⟨f0,f1,f2,f3,f4,f5⟩:=fC;have ncell:∀v,oC.data≠.cell v:=λv z=>by rw[rC.1]at z;cases z
 have I5:Inv X (pins++[(C,oC)]) σ H' s4:=I4.pins_of λp hp=>by
  rcases bn.mp hp with z |z
  ·exact I4.pin p (aE _ z)
  ·have e:p=_:=bq.mp z;subst e;exact ⟨eC,f0,f1,f2,ncell⟩
 refine wpAny_assign_Name (qm I5 hN hiy hy (v:=.ref L) (u:=.ref L) rfl (λs5 I6=>?_) hf);have eC5:s5.heap.get? C=some oC:=(I6.pin (C,oC) (aE _ (aE _ (bq.mpr rfl)))).1;have I7:Inv X pins (σ.set i (some (.ref L))) H' s5:=I6.pins_of λp hp=>I6.pin p (aE _ (eW _ hp));refine ⟨m,⟨oC,es,ep,eC5,rC⟩,λh'' hs''=>?_⟩;exact ⟨_,H',I7.turned (t':=s5.toks) (it:=C) (λb o hb e=>hs''.extBut b o hb e) f0 f1 f3 f4 f5,q⟩
end L2
namespace RF
open PySem PySem.Spec PyProof.Rows L2
inductive D where
 |non |bl (b:Bool) |int (i:Int) |str (l:List Nat) |tup (xs:List D) |lst (xs:List D) |ref (a:Addr) |scr (ns:List Int) |exn (C:String) |obj (C f:String) (q:Addr)
 deriving Inhabited
inductive DO where
 |lst (xs:List D)
 deriving Inhabited
abbrev DH:=Addr->Option DO
def bf(G:DH)(a:Addr)(o:DO):DH:=λb=>if b=a then some o else G b
def iu(G:DH)(a:Addr):DH:=λb=>if b=a then none else G b
theorem b8{G:DH}{a:Addr}{o:DO}:bf G a o a=some o:=if_pos rfl
theorem dF{G:DH}{a b:Addr}{o:DO}(h:b≠a):bf G a o b=G b:=if_neg h
theorem vX{G:DH}{a:Addr}:iu G a a=none:=if_pos rfl
theorem DK{G:DH}{a b:Addr}(h:b≠a):iu G a b=G b:=if_neg h
theorem Za{G:DH}{a:Addr}{o u:DO}:bf (bf G a o) a u=bf G a u:=by funext b;unfold bf;split <;> rfl
theorem DN{G:DH}{a:Addr}{o:DO}(h:G a=none):iu (bf G a o) a=G:=by
 funext b;unfold bf iu;split
 ·rename_i e;rw[e,h]
 ·rename_i e;exact if_neg e
theorem DP{G:DH}{a b:Addr}{o:DO}(h:G a=some o)(h':G b=none):a≠b:=by intro e;subst e;rw[h]at h';cases h'
abbrev sz:Nat:=1000000
abbrev FZ:=Addr->Prop
def FzL(H:Hp)(F:FZ)(a:Addr)(vs:List V):Prop:=F a/\H a=some (.lst vs)
theorem FzL.sq{K:PF}{H:Hp}{F:FZ}{a:Addr}{vs:List V}(h:FzL H F a vs):SqL K H a vs:=.inl (.inl h.2)
structure TpT(K:PF)(H:Hp)(a:Addr)(vs:List V):Prop where
 it:H a=some (.tup vs)
theorem TpT.sq{K:PF}{H:Hp}{a:Addr}{vs:List V}(h:TpT K H a vs):SqT K H a vs:=.inl (.inl h.it)
def ScL(K:PF)(H:Hp)(a:Addr)(vs:List V):Prop:=
 (∃o,H a=some (.frz o (.lst vs)))\/
  ∃(o:Obj) (its:Array Value) (n:Nat),K.lookup a=some o/\o.cls=.type "list"/\o.dict=none/\o.data=.seq its n/\its.size<=sizeLine/\Vals vs its.toList
theorem ScL.sq{K:PF}{H:Hp}{a:Addr}{vs:List V}(h:ScL K H a vs):SqL K H a vs:=by
 rcases h with ⟨o,h⟩ |h
 ·exact .inl (.inr ⟨o,h⟩)
 ·exact .inr h
def FzO(H:Hp)(F:FZ)(a c dx:Addr)(f:Str)(q:Addr):Prop:=F a/\H a=some (.ins c dx [(f,.ref q)])
mutual
noncomputable def Rep(K:PF)(H:Hp)(F:FZ):D->V->Prop
 |.non,v=>v=.non
 |.bl b,v=>v=.bl b
 |.int i,v=>v=.int i
 |.str l,v=>v=.str (tx l)/\l.length<=sz
 |.tup ds,v=>∃a vs,v=.ref a/\TpT K H a vs/\Reps K H F ds vs
 |.lst ds,v=>∃a vs,v=.ref a/\FzL H F a vs/\Reps K H F ds vs
 |.ref a,v=>v=.ref a
 |.scr ns,v=>∃a,v=.ref a/\ScL K H a (ns.map V.int)
 |.obj C f q,v=>∃a c dx,v=.ref a/\FzO H F a c dx (Str.ofString f) q/\PySem.W.nsIn K mainGlobals (Str.ofString C)=some (some (.ref c))
 |.exn C,v=>∃a c,v=.ref a/\XO H a c/\PySem.W.nsIn K mainGlobals (Str.ofString C)=some (some (.ref c))
noncomputable def Reps(K:PF)(H:Hp)(F:FZ):List D->List V->Prop
 |[],vs=>vs=[]
 |d::ds,vs=>∃v r,vs=v::r/\Rep K H F d v/\Reps K H F ds r
end
structure Ext(H:Hp)(F:FZ)(H':Hp)(F':FZ):Prop where
 sub:∀a,F a->F' a
 keep:∀a,F a->H' a=H a
 tups:∀a xs,H a=some (.tup xs)->H' a=some (.tup xs)
 frzs:∀a o u,H a=some (.frz o u)->H' a=some (.frz o u)
theorem Ext.refl(H:Hp)(F:FZ):Ext H F H F:=⟨λ_ h=>h,λ_ _=>rfl,λ_ _ h=>h,λ_ _ _ h=>h⟩
theorem Ext.trans{H H1 H2:Hp}{F F1 F2:FZ}(a:Ext H F H1 F1)(b:Ext H1 F1 H2 F2):Ext H F H2 F2:=
 ⟨λc h=>b.sub c (a.sub c h),λc h=>(b.keep c (a.sub c h)).trans (a.keep c h),λc xs h=>b.tups c xs (a.tups c xs h),λc o u h=>b.frzs c o u (a.frzs c o u h)⟩
section
variable {K:PF} {H H':Hp} {F F':FZ}
theorem TpT.ext{a:Addr}{vs:List V}(x:Ext H F H' F')(h:TpT K H a vs):TpT K H' a vs:=⟨x.tups _ _ h.it⟩
theorem FzL.ext{a:Addr}{vs:List V}(x:Ext H F H' F')(h:FzL H F a vs):FzL H' F' a vs:=⟨x.sub _ h.1,(x.keep _ h.1).trans h.2⟩
theorem ScL.ext{a:Addr}{vs:List V}(x:Ext H F H' F')(h:ScL K H a vs):ScL K H' a vs:=by
 rcases h with ⟨o,h⟩ |h
 ·exact .inl ⟨o,x.frzs _ _ _ h⟩
 ·exact .inr h
mutual
theorem Rep.ext(x:Ext H F H' F'):∀{d:D}{v:V},Rep K H F d v->Rep K H' F' d v
 |.non,_,h=>h
 |.bl _,_,h=>h
 |.int _,_,h=>h
 |.str _,_,h=>h
 |.tup _,_,⟨a,vs,e,q,r⟩=>⟨a,vs,e,TpT.ext x q,Reps.ext x r⟩
 |.lst _,_,⟨a,vs,e,q,r⟩=>⟨a,vs,e,FzL.ext x q,Reps.ext x r⟩
 |.ref _,_,h=>h
 |.scr _,_,⟨a,e,q⟩=>⟨a,e,ScL.ext x q⟩
 |.obj _ _ _,_,⟨a,c,dx,e,⟨hf,hh⟩,n⟩=>⟨a,c,dx,e,⟨x.sub _ hf,(x.keep _ hf).trans hh⟩,n⟩
 |.exn _,_,⟨a,c,e,⟨o,y,q,hc⟩,n⟩=>⟨a,c,e,⟨o,y,x.frzs _ _ _ q,hc⟩,n⟩
theorem Reps.ext(x:Ext H F H' F'):∀{ds:List D}{vs:List V},Reps K H F ds vs->Reps K H' F' ds vs
 |[],_,h=>h
 |_::_,_,⟨v,r,e,h,t⟩=>⟨v,r,e,Rep.ext x h,Reps.ext x t⟩
end
theorem Reps.nil:Reps K H F [] []:=rfl
theorem Reps.cons{d:D}{v:V}{ds:List D}{vs:List V}(h:Rep K H F d v)(t:Reps K H F ds vs):Reps K H F (d::ds) (v::vs):=⟨v,vs,rfl,h,t⟩
theorem Reps.length:∀{ds:List D}{vs:List V},Reps K H F ds vs->ds.length=vs.length
 |[],_,h=>by cases h;rfl
 |_::_,_,⟨v,r,e,_,t⟩=>by subst e;simp[Reps.length t]
theorem Reps.append:∀{ds es:List D}{vs us:List V},Reps K H F ds vs->Reps K H F es us->Reps K H F (ds++es) (vs++us)
 |[],_,_,_,h,t=>by cases h;exact t
 |_::_,_,_,_,⟨v,r,e,h,t⟩,t'=>by subst e;exact ⟨v,_,rfl,h,Reps.append t t'⟩
theorem Reps.get:∀{ds:List D}{vs:List V}{i:Nat}{d:D},Reps K H F ds vs->ds[i]?=some d->∃v,vs[i]?=some v/\Rep K H F d v
 |[],_,_,_,_,e=>by simp at e
 |_::_,_,0,_,⟨v,r,e,h,t⟩,q=>by subst e;simp at q;subst q;exact ⟨v,rfl,h⟩
 |_::_,_,i+1,d,⟨v,r,e,h,t⟩,q=>by
  subst e;obtain ⟨u,h1,h2⟩:=Reps.get (i:=i) (d:=d) t (by simpa using q);exact ⟨u,by simpa using h1,h2⟩
theorem Reps.set{d:D}{v:V}(r:Rep K H F d v):∀{ds:List D}{vs:List V}(i:Nat),Reps K H F ds vs->Reps K H F (ds.set i d) (vs.set i v)
 |[],_,_,h=>by cases h;exact rfl
 |_::_,_,0,⟨v',r',e,h,t⟩=>by subst e;exact ⟨_,_,rfl,r,t⟩
 |_::_,_,i+1,⟨v',r',e,h,t⟩=>by subst e;exact ⟨_,_,rfl,h,Reps.set r i t⟩
theorem Reps.take:∀{ds:List D}{vs:List V}(n:Nat),Reps K H F ds vs->Reps K H F (ds.take n) (vs.take n)
 |_,_,0,_=>rfl
 |[],_,_+1,h=>by cases h;exact rfl
 |_::_,_,n+1,⟨v',r',e,h,t⟩=>by subst e;exact ⟨_,_,rfl,h,Reps.take n t⟩
theorem Reps.drop:∀{ds:List D}{vs:List V}(n:Nat),Reps K H F ds vs->Reps K H F (ds.drop n) (vs.drop n)
 |_,_,0,h=>h
 |[],_,_+1,h=>by cases h;exact rfl
 |_::_,_,n+1,⟨v',r',e,h,t⟩=>by subst e;exact Reps.drop n t
theorem Reps.cut{ds:List D}{vs:List V}(h:Reps K H F ds vs)(lo hi:Option Int):
  Reps K H F ((ds.drop (HT.sIx ds.length 0 lo)).take (HT.sIx ds.length ds.length hi - HT.sIx ds.length 0 lo)) (dW vs lo hi):=by
 unfold dW;rw[<-h.length];exact (h.drop _).take _
theorem Reps.rep{ds:List D}{vs:List V}(h:Reps K H F ds vs):∀k:Nat,Reps K H F (List.replicate k ds).flatten (List.replicate k vs).flatten
 |0=>rfl
 |k+1=>by
  rw[cp,cp,e6,e6];exact Reps.append h (Reps.rep h k)
end
def Zb(K:PF)(H:Hp)(F:FZ)(a:Addr):DO->Prop
 |.lst ds=>∃vs,H a=some (.lst vs)/\Reps K H F ds vs
structure R(K:PF)(H:Hp)(F:FZ)(G:DH):Prop where
 fz:∀a,F a->G a=none/\∃o,H a=some o
 ob:∀a o,G a=some o->Zb K H F a o
section
variable {K:PF} {H:Hp} {F:FZ} {G:DH} {p:Addr} {vs:List V} {ds:List D}
theorem R.lst(r:R K H F G)(h:G p=some (.lst ds)):∃vs,H p=some (.lst vs)/\Reps K H F ds vs:=r.ob p _ h
theorem R.free(r:R K H F G)(h:H p=none):G p=none:=by
 cases e:G p with
 |none=>rfl
 |some o=>
  cases o with
  |lst ds=>obtain ⟨vs,q,_⟩:=r.lst e;rw[h]at q;cases q
theorem R.notF(r:R K H F G)(h:H p=none):¬F p:=λf=>by
 obtain ⟨_,vs,q⟩:=r.fz p f;rw[h]at q;cases q
theorem eY{o:HO}(r:R K H F G)(h:H p=none):Ext H F (upd H p o) F:=
 ⟨λ_ f=>f,λa f=>aP λe=>r.notF h (by rw[<-e];exact f),λa xs q=>by rw[aP (bN q h)];exact q,λa ob u q=>by rw[aP (bN q h)];exact q⟩
theorem R.new{o:HO}(r:R K H F G)(h:H p=none):R K (upd H p o) F G:=by
 have x:Ext H F (upd H p o) F:=eY r h;refine ⟨λa f=>⟨(r.fz a f).1,?_⟩,λa u e=>?_⟩
 ·obtain ⟨_,vs,q⟩:=r.fz a f;exact ⟨vs,by rw[x.keep a f];exact q⟩
 ·cases u with
  |lst ds=>
   obtain ⟨vs,q,t⟩:=r.lst e;exact ⟨vs,by rw[aP (bN q h)];exact q,Reps.ext x t⟩
theorem R.newL(r:R K H F G)(h:H p=none)(t:Reps K H F ds vs):R K (upd H p (.lst vs)) F (bf G p (.lst ds)):=by
 have x:Ext H F (upd H p (.lst vs)) F:=eY r h;have r':R K (upd H p (.lst vs)) F G:=r.new h;refine ⟨λa f=>⟨?_,(r'.fz a f).2⟩,λa u e=>?_⟩
 ·rw[dF λe=>r.notF h (by rw[<-e];exact f)];exact (r.fz a f).1
 ·by_cases ha:a=p
  ·subst ha;rw[b8]at e;cases e;exact ⟨vs,fP,Reps.ext x t⟩
  ·rw[dF ha]at e;exact r'.ob a u e
theorem vY(r:R K H F G)(h:H p=none):Ext H F (upd H p (.lst vs)) (λa=>F a\/a=p):=
 ⟨λ_ f=>.inl f,(eY r h).keep,(eY r h).tups,(eY r h).frzs⟩
theorem R.newF(r:R K H F G)(h:H p=none):R K (upd H p (.lst vs)) (λa=>F a\/a=p) G:=by
 have x:Ext H F (upd H p (.lst vs)) (λa=>F a\/a=p):=vY r h;refine ⟨λa f=>?_,λa u e=>?_⟩
 ·rcases f with f |f
  ·obtain ⟨g,vs',q⟩:=r.fz a f;exact ⟨g,vs',by rw[x.keep a f];exact q⟩
  ·subst f;exact ⟨r.free h,_,fP⟩
 ·cases u with
  |lst ds=>
   obtain ⟨vs',q,t⟩:=r.lst e;exact ⟨vs',by rw[aP (bN q h)];exact q,Reps.ext x t⟩
theorem Zc(r:R K H F G)(h:H p=none)(t:Reps K H F ds vs):Rep K (upd H p (.lst vs)) (λa=>F a\/a=p) (.lst ds) (.ref p):=
 ⟨p,vs,rfl,⟨.inr rfl,fP⟩,Reps.ext (vY r h) t⟩
theorem vZ(r:R K H F G)(h:H p=none)(t:Reps K H F ds vs):Rep K (upd H p (.tup vs)) F (.tup ds) (.ref p):=
 ⟨p,vs,rfl,⟨fP⟩,Reps.ext (eY r h) t⟩
theorem iw{ds0:List D}{o:HO}(r:R K H F G)(h:G p=some (.lst ds0)):Ext H F (upd H p o) F:=by
 obtain ⟨vs0,q,_⟩:=r.lst h;refine ⟨λ_ f=>f,λa f=>aP λe=>?_,λa xs z=>?_,λa ob u z=>?_⟩
 ·subst e;rw[(r.fz a f).1]at h;cases h
 ·rw[aP (Bh z q (by intro w;cases w))];exact z
 ·rw[aP (Bh z q (by intro w;cases w))];exact z
theorem R.write{ds0:List D}(r:R K H F G)(h:G p=some (.lst ds0))(t:Reps K H F ds vs):R K (upd H p (.lst vs)) F (bf G p (.lst ds)):=by
 have x:Ext H F (upd H p (.lst vs)) F:=iw r h;refine ⟨λa f=>⟨?_,?_⟩,λa u e=>?_⟩
 ·rw[dF λe=>by subst e;rw[(r.fz a f).1]at h;cases h];exact (r.fz a f).1
 ·obtain ⟨_,vs',q⟩:=r.fz a f;exact ⟨vs',by rw[x.keep a f];exact q⟩
 ·by_cases ha:a=p
  ·subst ha;rw[b8]at e;cases e;exact ⟨vs,fP,Reps.ext x t⟩
  ·rw[dF ha]at e;cases u with
   |lst ds'=>
    obtain ⟨vs',q,t'⟩:=r.lst e;exact ⟨vs',by rw[aP ha];exact q,Reps.ext x t'⟩
theorem v6:Ext H F H (λa=>F a\/a=p):=⟨λ_ f=>.inl f,λ_ _=>rfl,λ_ _ h=>h,λ_ _ _ h=>h⟩
theorem R.frz(r:R K H F G)(h:G p=some (.lst ds)):R K H (λa=>F a\/a=p) (iu G p):=by
 have x:Ext H F H (λa=>F a\/a=p):=v6;refine ⟨λa f=>?_,λa u e=>?_⟩
 ·rcases f with f |f
  ·obtain ⟨g,vs',q⟩:=r.fz a f;refine ⟨?_,vs',q⟩;by_cases ha:a=p
   ·rw[ha];exact vX
   ·rw[DK ha];exact g
  ·subst f;obtain ⟨vs,q,_⟩:=r.lst h;exact ⟨vX,_,q⟩
 ·by_cases ha:a=p
  ·rw[ha,vX]at e;cases e
  ·rw[DK ha]at e;cases u with
   |lst ds'=>
    obtain ⟨vs',q,t'⟩:=r.lst e;exact ⟨vs',q,Reps.ext x t'⟩
theorem Zd(r:R K H F G)(h:G p=some (.lst ds)):Rep K H (λa=>F a\/a=p) (.lst ds) (.ref p):=by obtain ⟨vs,q,t⟩:=r.lst h;exact ⟨p,vs,rfl,⟨.inr rfl,q⟩,Reps.ext v6 t⟩
end
def view(G:DH):D->D
 |.ref p=>match G p with |some (.lst ds)=>.lst ds |none=>.ref p
 |d=>d
theorem Rep.list{K:PF}{H:Hp}{F:FZ}{G:DH}{d:D}{v:V}{ds:List D}(r:R K H F G)(h:Rep K H F d v)(e:view G d=.lst ds):∃a vs,v=.ref a/\SqL K H a vs/\Reps K H F ds vs:=by
 cases d with
 |lst xs=>
  have e':D.lst xs=.lst ds:=e;cases e';obtain ⟨a,vs,e1,q,t⟩:=h;exact ⟨a,vs,e1,q.sq,t⟩
 |ref p=>
  have hv:v=.ref p:=h;unfold view at e;cases g:G p with
  |none=>simp only[g]at e;cases e
  |some o=>
   cases o with
   |lst xs=>
    simp only[g]at e;cases e;obtain ⟨vs,q,t⟩:=r.lst g;exact ⟨p,vs,hv,.inl (.inl q),t⟩
 |_=>cases (show _=D.lst ds from e)
theorem gH{G:DH}{d:D}{ds:List D}(e:view G d=.tup ds):d=.tup ds:=by
 cases d with
 |ref p=>
  unfold view at e;cases g:G p with
  |none=>simp only[g]at e;cases e
  |some o=>cases o;simp only[g]at e;cases e
 |_=>exact e
theorem gJ{G:DH}{d:D}{l:List Nat}(e:view G d=.str l):d=.str l:=by
 cases d with
 |ref p=>
  unfold view at e;cases g:G p with
  |none=>simp only[g]at e;cases e
  |some o=>cases o;simp only[g]at e;cases e
 |_=>exact e
theorem dX{G:DH}{d:D}{l:Int}(e:view G d=.int l):d=.int l:=by
 cases d with
 |ref p=>
  unfold view at e;cases g:G p with
  |none=>simp only[g]at e;cases e
  |some o=>cases o;simp only[g]at e;cases e
 |_=>exact e
theorem Ze{G:DH}{d:D}{l:Bool}(e:view G d=.bl l):d=.bl l:=by
 cases d with
 |ref p=>
  unfold view at e;cases g:G p with
  |none=>simp only[g]at e;cases e
  |some o=>cases o;simp only[g]at e;cases e
 |_=>exact e
abbrev ak:=List (Option D)
def EnvR(K:PF)(H:Hp)(F:FZ):ak->L2.St->Prop
 |[],σ=>σ=[]
 |o::ρ,σ=>∃u τ,σ=u::τ/\(∀d,o=some d->∃v,u=some v/\Rep K H F d v)/\EnvR K H F ρ τ
section
variable {K:PF} {H H':Hp} {F F':FZ}
theorem EnvR.ext(x:Ext H F H' F'):∀{ρ:ak}{σ:L2.St},EnvR K H F ρ σ->EnvR K H' F' ρ σ
 |[],_,h=>h
 |_::_,_,⟨u,τ,e,h,t⟩=>⟨u,τ,e,λd q=>by obtain ⟨v,e1,r⟩:=h d q;exact ⟨v,e1,Rep.ext x r⟩,EnvR.ext x t⟩
theorem EnvR.get:∀{ρ:ak}{σ:L2.St}{i:Nat}{d:D},EnvR K H F ρ σ->ρ[i]?=some (some d)->∃v,σ[i]?=some (some v)/\Rep K H F d v
 |[],_,_,_,_,e=>by simp at e
 |_::_,_,0,d,⟨u,τ,e,h,t⟩,q=>by
  subst e;obtain ⟨v,e1,r⟩:=h d (by simpa using q);exact ⟨v,by simp[e1],r⟩
 |_::_,_,i+1,d,⟨u,τ,e,h,t⟩,q=>by
  subst e;obtain ⟨v,e1,r⟩:=EnvR.get (i:=i) (d:=d) t (by simpa using q);exact ⟨v,by simpa using e1,r⟩
theorem EnvR.set{d:D}{v:V}(r:Rep K H F d v):∀{ρ:ak}{σ:L2.St}(i:Nat),EnvR K H F ρ σ->EnvR K H F (ρ.set i (some d)) (σ.set i (some v))
 |[],_,_,h=>by cases h;exact rfl
 |_::_,_,0,⟨u,τ,e,h,t⟩=>by subst e;exact ⟨_,_,rfl,λd' q=>⟨v,rfl,by cases q;exact r⟩,t⟩
 |_::_,_,i+1,⟨u,τ,e,h,t⟩=>by subst e;exact ⟨_,_,rfl,h,EnvR.set r i t⟩
theorem EnvR.none:∀(n:Nat),EnvR K H F (List.replicate n Option.none) (List.replicate n Option.none)
 |0=>rfl
 |n+1=>⟨_,_,rfl,λd q=>(nomatch q),EnvR.none n⟩
theorem EnvR.start:∀{ds:List D}{vs:List V}(n:Nat),Reps K H F ds vs->EnvR K H F (ds.map some++List.replicate n Option.none) (vs.map some++List.replicate n Option.none)
 |[],_,n,h=>by cases h;exact EnvR.none n
 |d::ds,_,n,⟨v,r,e,h,t⟩=>by
  subst e;exact ⟨_,_,rfl,λd' q=>⟨v,rfl,by cases q;exact h⟩,EnvR.start n t⟩
theorem EnvR.cap{ρ:ak}{σ:L2.St}(h:EnvR K H F ρ σ):∀(cap:List (Option Nat)),EnvR K H F (cap.map λo=>match o with |Option.none=>Option.none |some j=>(ρ[j]?).join) (dD cap σ)
 |[]=>rfl
 |Option.none::cap=>⟨_,_,rfl,λd q=>(nomatch q),EnvR.cap h cap⟩
 |some j::cap=>by
  refine ⟨_,_,rfl,λd q=>?_,EnvR.cap h cap⟩;have q':(ρ[j]?).join=some d:=q;have z:ρ[j]?=some (some d):=by
   cases e:ρ[j]? with
   |none=>rw[e]at q';cases q'
   |some o=>rw[e]at q';exact eA some q'
  obtain ⟨v,e1,r⟩:=h.get z;exact ⟨v,by show (σ[j]?).join=some v;rw[e1];rfl,r⟩
end
mutual
noncomputable def deq:D->D->Bool
 |.non,.non=>true
 |.bl a,.bl b=>a==b
 |.bl a,.int b=>(if a then 1 else 0)==b
 |.int a,.bl b=>a==(if b then 1 else 0)
 |.int a,.int b=>a==b
 |.str a,.str b=>a==b
 |.tup a,.tup b=>bL a b
 |.lst a,.lst b=>bL a b
 |_,_=>false
noncomputable def bL:List D->List D->Bool
 |[],[]=>true
 |a::as,b::bs=>deq a b&&bL as bs
 |_,_=>false
end
mutual
/-- no tracked object within -/
noncomputable def nr:D->Bool
 |.tup a=>nrs a
 |.lst a=>nrs a
 |.ref _=>false
 |.scr _=>false
 |.exn _=>false
 |.obj _ _ _=>false
 |_=>true
noncomputable def nrs:List D->Bool
 |[]=>true
 |a::as=>nr a&&nrs as
end
mutual
def dpt:D->Nat
 |.tup a=>aW a+1
 |.lst a=>aW a+1
 |_=>0
def aW:List D->Nat
 |[]=>0
 |a::as=>max (dpt a) (aW as)
end
noncomputable def truth:D->Option Bool
 |.non=>some false
 |.bl b=>some b
 |.int i=>some (i != 0)
 |.str l=>some (!l.isEmpty)
 |.tup l=>some (!l.isEmpty)
 |.lst l=>some (!l.isEmpty)
 |_=>none
noncomputable def cut{α:Type}(xs:List α)(lo hi:Option Int):List α:=(xs.drop (HT.sIx xs.length 0 lo)).take (HT.sIx xs.length xs.length hi - HT.sIx xs.length 0 lo)
def reps{α:Type}(xs:List α)(n:Nat):List α:=(List.replicate n xs).flatten
def mk(fz:Bool)(xs:List D)(G:DH)(k:D->DH->Prop):Prop:=
 match fz with
 |true=>k (.lst xs) G
 |false=>∀p,G p=none->k (.ref p) (bf G p (.lst xs))
def jh(fz:Bool)(a b:D)(G:DH)(k:D->DH->Prop):Prop:=
 match a with
 |.int i=>(match b with |.int j=>k (.int (i+j)) G |_=>False)
 |.str x=>(match b with |.str y=>x.length+y.length<=sz/\k (.str (x++y)) G |_=>False)
 |.lst x=>(match b with |.lst y=>x.length+y.length<=sz/\mk fz (x++y) G k |_=>False)
 |.tup x=>(match b with |.tup y=>x.length+y.length<=sz/\k (.tup (x++y)) G |_=>False)
 |_=>False
def gK(a b:D)(p:Int->Int->Prop):Prop:=
 match a with
 |.int i=>(match b with |.int j=>p i j |_=>False)
 |_=>False
def ji(fz:Bool)(a b:D)(G:DH)(k:D->DH->Prop):Prop:=
 match b with
 |.int n=>(match a with |.int i=>CMul i n/\k (.int (i * n)) G |.str x=>0<=n/\n<=1000/\x.length * n.toNat<=sz/\k (.str (reps x n.toNat)) G |.tup x=>2<=n/\n<=1000/\x≠[]/\x.length * n.toNat<=sz/\k (.tup (reps x n.toNat)) G |.lst x=>0<=n/\n<=1000/\x.length * n.toNat<=sz/\mk fz (reps x n.toNat) G k |_=>False)
 |_=>False
def cF(op:Operator)(fz:Bool)(a b:D)(G:DH)(k:D->DH->Prop):Prop:=
 match op with
 |.Add=>jh fz a b G k
 |.Sub=>gK a b λi j=>k (.int (i - j)) G
 |.Mult=>ji fz a b G k
 |.FloorDiv=>gK a b λi j=>(0 < j/\j < 1152921504606846976)/\k (.int (i / j)) G
 |.Mod=>gK a b λi j=>0 < j/\k (.int (i % j)) G
 |.Pow=>gK a b λi j=>qw i j/\k (.int (i ^ j.toNat)) G
 |_=>False
def isIn(x:D)(ys:List D):Bool:=ys.any λy=>deq y x
def DQ(a b:D):Prop:=nr a=true/\nr b=true/\min (dpt a) (dpt b)<=60
def inG(a:D)(l:List D):Prop:=nr a=true/\nrs l=true/\aW l<=60
def jj(a b:D)(k:Bool->Prop):Prop:=
 match a,b with
 |.int i,.int j=>k (decide (i < j))
 |.str i,.str j=>k (decide (i < j))
 |_,_=>False
def jk(a b:D)(k:Bool->Prop):Prop:=
 match a,b with
 |.int i,.int j=>k (decide (i<=j))
 |.str i,.str j=>k (!decide (j < i))
 |_,_=>False
def jl(a b:D)(k:Bool->Prop):Prop:=
 match a,b with
 |.int i,.int j=>k (decide (j < i))
 |_,_=>False
def jm(a b:D)(k:Bool->Prop):Prop:=
 match a,b with
 |.int i,.int j=>k (decide (j<=i))
 |_,_=>False
def eZ(a:D):Bool:=match a with |.non=>true |_=>false
def jo(a b:D)(k:Bool->Prop):Prop:=
 match b with
 |.non=>k (eZ a)
 |.bl b=>(match a with |.bl a=>k (a==b) |_=>False)
 |_=>False
def jq(a b:D)(k:Bool->Prop):Prop:=
 match b with
 |.non=>k (!eZ a)
 |.bl b=>(match a with |.bl a=>k (a != b) |_=>False)
 |_=>False
def fW(a b:D)(k:Bool->Prop):Prop:=
 match b with
 |.str l=>(match a with |.str [c]=>k (l.contains c) |_=>False)
 |.lst l=>inG a l/\k (isIn a l)
 |.tup l=>inG a l/\k (isIn a l)
 |_=>False
def bh(op:CmpOp)(a b:D)(k:Bool->Prop):Prop:=
 match op with
 |.Eq=>DQ a b/\k (deq a b)
 |.NotEq=>DQ a b/\k (!deq a b)
 |.Lt=>jj a b k
 |.LtE=>jk a b k
 |.Gt=>jl a b k
 |.GtE=>jm a b k
 |.Is=>jo a b k
 |.IsNot=>jq a b k
 |.In=>fW a b k
 |.NotIn=>fW a b λc=>k (!c)
def cG(a i:D)(k:D->Prop):Prop:=
 match a,i with
 |.lst ds,.int i=>match atI ds i with |some d=>k d |none=>False
 |.tup ds,.int i=>match atI ds i with |some d=>k d |none=>False
 |.str l,.int i=>match atI l i with |some c=>k (.str [c]) |none=>False
 |_,_=>False
def dY(fz:Bool)(a:D)(lo hi:Option Int)(G:DH)(k:D->DH->Prop):Prop:=
 match a with
 |.lst ds=>mk fz (cut ds lo hi) G k
 |.scr ns=>mk fz ((cut ns lo hi).map .int) G k
 |.tup ds=>k (.tup (cut ds lo hi)) G
 |.str l=>k (.str (cut l lo hi)) G
 |_=>False
def jr(fz:Bool)(a y:D)(G:DH)(k:D->DH->Prop):Prop:=
 match a with
 |.lst ds=>y=.int (-1)/\mk fz ds.reverse G k
 |_=>False
noncomputable def bools:List D->Option (List Bool)
 |[]=>some []
 |.bl b::r=>match bools r with |some s=>some (b::s) |none=>none
 |_=>none
noncomputable def cu:List D->Option (List Int)
 |[]=>some []
 |.int b::r=>match cu r with |some s=>some (b::s) |none=>none
 |_=>none
noncomputable def bF:List D->Option (List (List Nat))
 |[]=>some []
 |.str b::r=>match bF r with |some s=>some (b::s) |none=>none
 |_=>none
def dZ(s:List Nat):List (List Nat)->List Nat
 |[]=>[]
 |[x]=>x
 |x::y::r=>x++s++dZ s (y::r)
inductive Bf where
 |len |all |int |tuple |sum |min |max |str |abs |min2
inductive Lf where
 |list |sorted
inductive Mf where
 |join |append |extend |insert |count |index |pop |find
def v7(as:List D)(k:D->Prop):Prop:=
 match as with
 |[.lst ds]=>k (.int ds.length)
 |[.tup ds]=>k (.int ds.length)
 |[.str l]=>k (.int l.length)
 |_=>False
def qG(as:List D)(k:D->Prop):Prop:=
 match as with
 |[.lst ds]=>match bools ds with |some bs=>k (.bl (bs.all id)) |none=>False
 |_=>False
def qH(as:List D)(k:D->Prop):Prop:=
 match as with
 |[.bl b]=>k (.int (if b then 1 else 0))
 |[.int i]=>k (.int i)
 |[.str l]=>match PySem.intText? (tx l) with |some n=>l.length<=640/\k (.int n) |none=>False
 |_=>False
def v8(as:List D)(k:D->Prop):Prop:=
 match as with
 |[.lst ds]=>k (.tup ds)
 |[.tup ds]=>k (.tup ds)
 |_=>False
def v9(as:List D)(k:D->Prop):Prop:=
 match as with
 |[.lst ds]=>match cu ds with |some ns=>k (.int ns.sum) |none=>False
 |_=>False
def j9(as:List D)(k:D->Prop):Prop:=
 match as with
 |[.lst ds]=>match cu ds with
  |some ns=>ns≠[]/\∀m,m∈ns->(∀a,a∈ns->m<=a)->k (.int m)
  |none=>match bF ds with
   |some ls=>∀m,m∈ls->(∀a,a∈ls->¬a < m)->k (.str m)
   |none=>False
 |_=>False
def DR(as:List D)(k:D->Prop):Prop:=match as with
 |[.int a]=>k (.int (if a < 0 then -a else a))
 |_=>False
def DW(as:List D)(k:D->Prop):Prop:=match as with
 |[.int a,.int b]=>k (.int (if b < a then b else a))
 |_=>False
def DX(as:List D)(k:D->Prop):Prop:=
 match as with
 |[.int a,.int b]=>k (.int (if b > a then b else a))
 |_=>False
def gM(m:Nat):List Nat:=(vU m).cps.toList
def wg(as:List D)(k:D->Prop):Prop:=
 match as with
 |[.int i]=>(0<=i/\i < 100)/\k (.str (gM i.toNat))
 |_=>False
noncomputable def opB:Bf->List D->(D->Prop)->Prop
 |.len=>v7
 |.all=>qG
 |.int=>qH
 |.tuple=>v8
 |.sum=>v9
 |.min=>j9
 |.max=>DX
 |.abs=>DR
 |.min2=>DW
 |.str=>wg
def wj(as:List D)(k:List D->Prop):Prop:=
 match as with
 |[.lst ds]=>k ds
 |[.tup ds]=>k ds
 |[.str l]=>k (l.map λc=>.str [c])
 |_=>False
def qI(as:List D)(k:List D->Prop):Prop:=
 match as with
 |[.lst ds]=>match bF ds with |some ls=>ls.length < 64/\∀ls':List (List Nat),ls'.Perm ls->PyProof.Rows.sortedS (ls'.map tx)=true->k (ls'.map D.str) |none=>False
 |[.tup ds]=>match cu ds with |some ns=>ns.length < 64/\∀ns':List Int,ns'.Perm ns->ns'.Pairwise (·<=·)->k (ns'.map D.int) |none=>False
 |_=>False
def cP:Lf->List D->(List D->Prop)->Prop
 |.list=>wj
 |.sorted=>qI
noncomputable def isT(t:String)(d:D):Option Bool:=
 match d with
 |.non=>some false
 |.bl _=>some (t=="bool"||t=="int")
 |.int _=>some (t=="int")
 |.str _=>some (t=="str")
 |.tup _=>some (t=="tuple")
 |.lst _=>some (t=="list")
 |_=>none
def fX (t:String):Bool:=t=="bool"||t=="int"||t=="str"||t=="tuple"||t=="list"
def qJ(o:D)(as:List D)(G:DH)(k:D->DH->Prop):Prop:=
 match o,as with
 |.str s,[.lst ds]=>match bF ds with |some ls=>((ls.map (·.length)).sum+ls.length * s.length<=sz)/\k (.str (dZ s ls)) G |none=>False
 |_,_=>False
def qK(o:D)(as:List D)(G:DH)(k:D->DH->Prop):Prop:=
 match o,as with
 |.ref p,[x]=>match G p with |some (.lst ds)=>ds.length < sz/\k .non (bf G p (.lst (ds++[x]))) |none=>False
 |_,_=>False
def qL(o:D)(as:List D)(G:DH)(k:D->DH->Prop):Prop:=
 match o,as with
 |.ref p,[.lst xs]=>match G p with |some (.lst ds)=>ds.length+xs.length < sz/\k .non (bf G p (.lst (ds++xs))) |none=>False
 |_,_=>False
def qM(o:D)(as:List D)(G:DH)(k:D->DH->Prop):Prop:=
 match o,as with
 |.ref p,[.int i,x]=>match G p with |some (.lst ds)=>ds.length < sz/\0<=i/\i<=1000000/\k .non (bf G p (.lst (ds.take i.toNat++x::ds.drop i.toNat))) |none=>False
 |_,_=>False
def wk(o:D)(as:List D)(G:DH)(k:D->DH->Prop):Prop:=
 match o,as with
 |.ref p,[.int i]=>match G p with |some (.lst ds)=>0<=i/\i<=1000000/\(match ds[i.toNat]? with |some y=>k y (bf G p (.lst (ds.eraseIdx i.toNat))) |none=>False) |none=>False
 |_,_=>False
def qN(o:D)(as:List D)(G:DH)(k:D->DH->Prop):Prop:=
 match o,as with
 |.lst ds,[.bl true]=>match bools ds with |some bs=>k (.int (bs.count true:Nat)) G |none=>False
 |_,_=>False
def qO(o:D)(as:List D)(G:DH)(k:D->DH->Prop):Prop:=
 match o,as with
 |.lst ds,[.bl true]=>match bools ds with |some bs=>true∈bs/\k (.int (bs.idxOf true:Nat)) G |none=>False
 |_,_=>False
def wu(o:D)(as:List D)(G:DH)(k:D->DH->Prop):Prop:=
 match o,as with
 |.str l,[.str [c]]=>k (.int (-1)) G/\∀i:Nat,l[i]?=some c->k (.int (i:Int)) G
 |_,_=>False
def ww:D->Prop
 |.lst _=>True
 |_=>False
def recv(m:Mf)(o:D)(G:DH):Prop:=
 match m,o with
 |.join,.str _=>True
 |.find,.str _=>True
 |.append,.ref p=>match G p with |some (.lst _)=>True |none=>False
 |.extend,.ref p=>match G p with |some (.lst _)=>True |none=>False
 |.insert,.ref p=>match G p with |some (.lst _)=>True |none=>False
 |.pop,.ref p=>match G p with |some (.lst _)=>True |none=>False
 |.count,o=>ww (view G o)
 |.index,o=>ww (view G o)
 |_,_=>False
noncomputable def opM:Mf->D->List D->DH->(D->DH->Prop)->Prop
 |.join,o,as,G,k=>qJ o (as.map (view G)) G k
 |.append,o,as,G,k=>qK o as G k
 |.find,o,as,G,k=>wu o as G k
 |.extend,o,as,G,k=>qL o (as.map (view G)) G k
 |.insert,o,as,G,k=>qM o as G k
 |.pop,o,as,G,k=>wk o as G k
 |.count,o,as,G,k=>qN (view G o) as G k
 |.index,o,as,G,k=>qO (view G o) as G k
def gO (C C':String):Bool:=C==C'||C'=="SieveError"||C'=="ValueError"
mutual
inductive Tg where
 |nm (i:Nat)
 |tp (ts:Tgs)
inductive Tgs where
 |nil
 |cons (t:Tg) (r:Tgs)
end
mutual
inductive Ex where
 |var (i:Nat)
 |cst (d:D)
 |glb (x:String) (d:D)
 |bin (op:Operator) (fz:Bool) (a b:Ex)
 |neg (a:Ex)
 |cmp (op:CmpOp) (a b:Ex)
 |chn (op op':CmpOp) (a b c:Ex)
 |not (a:Ex)
 |boo (isAnd:Bool) (e:Ex) (es:Exs)
 |ife (c:Tx) (a b:Ex)
 |tup (es:Exs)
 |lst (fz:Bool) (es:Exs)
 |idx (a i:Ex)
 |slc (fz:Bool) (a:Ex) (lo hi:Ox)
 |rvs (fz:Bool) (a s:Ex)
 |call (f:String) (es:Exs)
 |bcl (f:Bf) (es:Exs)
 |lcl (fz:Bool) (f:Lf) (es:Exs)
 |isi (a:Ex) (t:String)
 |isx (a:Ex) (C:String) (xs:List String)
 |fst (es:Exs)
 |rgl (fz:Bool) (a:Ex)
 |rgt (a:Ex)
 |rpl (f:String) (a b ix:Ex)
 |fld (C f:String) (o:Ex)
 |mcl (f C m:String) (o:Ex) (es:Exs)
 |mko (C:String) (es:Exs)
 |pp0 (o:Ex)
 |mth (m:Mf) (o:Ex) (es:Exs)
 |comp (fz:Bool) (elt:Ex) (tg:Tg) (it:It') (cond:Tx) (N:List String) (cap:List (Option Nat))
 |cm3 (elt:Ex) (t1:Tg) (i1:It') (t2:Tg) (i2:It') (t3:Tg) (i3:It') (N:List String) (cap:List (Option Nat))
 |frz (a:Ex)
inductive Exs where
 |nil
 |cons (e:Ex) (es:Exs)
/-- a test -/
inductive Tx where
 |val (e:Ex)
 |not (t:Tx)
 |boo (isAnd:Bool) (t:Tx) (ts:Txs)
 |yes
inductive Txs where
 |nil
 |cons (t:Tx) (ts:Txs)
/-- a bound of a slice -/
inductive Ox where
 |no
 |ob (e:Ex)
/-- what a loop walks -/
inductive It' where
 |seq (e:Ex)
 |rng (a:Ex)
 |rng2 (a b:Ex)
 |rev (a:Ex)
 |dwn (a b c:Ex)
 |enm (e:Ex)
 |zip (a b:Ex)
end
inductive Tb where
 |call (f:String) (es:Exs)
 |asg (i:Nat) (f:String) (es:Exs)
 |pick (f g:String) (i:Nat) (es:Exs)
 |ite (c:Tx) (a b:Tb)
 |mcl (f C m:String) (o:Ex) (es:Exs)
 |mko (C:String) (es:Exs)
inductive Hd where
 |flag (i:Nat) (b:Bool)
 |bind (n i:Nat)
mutual
inductive Sx where
 |exp (e:Ex)
 |asg (t:Tg) (e:Ex)
 |set (o i e:Ex)
 |aug (i:Nat) (op:Operator) (e:Ex)
 |augs (o i:Ex) (op:Operator) (e:Ex)
 |ret (e:Ex)
 |rtn
 |ite (c:Tx) (a b:Sxs)
 |for_ (t:Tg) (it:It') (body:Sxs)
 |whl (c:Tx) (body:Sxs)
 |pas
 |brk
 |cnt
 |nev
 |rse (C:String) (es:Exs)
 |tryc (f:String) (es:Exs) (C:String) (i:Nat) (b:Bool)
 |tryx (b:Tb) (C:String) (h:Hd) (xs:List String)
inductive Sxs where
 |nil
 |cons (s:Sx) (r:Sxs)
end
structure Xn where
 cls:String
 fld:D
structure Spec where
 A:Type
 pre:List D->DH->A->Prop
 post:A->D->DH->Prop
 exc:A->Xn->DH->Prop
abbrev EK:=Xn->DH->Prop
def Spec.t(S:Spec)(ds:List D)(G:DH)(Q:D->DH->Prop)(E:EK):Prop:=
 ∃a,S.pre ds G a/\(∀d G',S.post a d G'->Q d G')/\∀x G',S.exc a x G'->E x G'
theorem Spec.mono{S:Spec}{ds:List D}{G:DH}{Q Q':D->DH->Prop}{E E':EK}(h:S.t ds G Q E)(hq:∀d G',Q d G'->Q' d G')(he:∀x G',E x G'->E' x G'):S.t ds G Q' E':=by obtain ⟨a,h1,h2,h3⟩:=h;exact ⟨a,h1,λd G' q=>hq _ _ (h2 d G' q),λx G' q=>he _ _ (h3 x G' q)⟩
abbrev aa:=String->Spec
def wy(C f:String)(d:D)(k:Addr->Prop):Prop:=match d with |.obj C' f' q=>C'=C/\f'=f/\k q |_=>False
def qP(C m:String)(d:D):Prop:=match d with |.obj C' f' _=>C'=C/\(Str.ofString m==Str.ofString f')=false |_=>False
def wz(d:D)(G:DH)(k:D->DH->Prop):Prop:=match d with |.ref p=>(match G p with |some (.lst ds)=>(match ds[ds.length - 1]? with |some y=>k y (bf G p (.lst ds.dropLast)) |none=>False) |none=>False) |_=>False
def wA(d:D)(k:List Nat->Prop):Prop:=match d with |.str l=>l.length<=1000/\k l |_=>False
def wB(i:D)(l:List Nat)(k:List Nat->Prop):Prop:=match i with |.int n=>(match atI [48,49] n with |some c=>k (l.map λa=>if a=42 then c else a) |none=>False) |_=>False
mutual
noncomputable def aQ:Tg->D->ak->DH->(ak->Prop)->Prop
 |.nm i,d,ρ,_,k=>k (ρ.set i (some d))
 |.tp ts,d,ρ,G,k=>match d with |.tup ds=>bV ts ds ρ G k |.lst ds=>bV ts ds ρ G k |_=>False
noncomputable def bV:Tgs->List D->ak->DH->(ak->Prop)->Prop
 |.nil,ds,ρ,_,k=>match ds with |[]=>k ρ |_=>False
 |.cons t r,ds,ρ,G,k=>match ds with |d::ds=>aQ t d ρ G (λρ'=>bV r ds ρ' G k) |[]=>False
end
abbrev Hld:=List (Addr×List D)
def held:Hld->DH->Prop
 |[],_=>True
 | (a,ds)::r,G=>G a=some (.lst ds)/\held r G
noncomputable def compLoop(step:D->ak->DH->(Option D->ak->DH->Prop)->Prop)(g:Hld):List D->List D->ak->DH->(List D->DH->Prop)->Prop
 |[],acc,_,G,k=>held g G/\acc.length<=sz/\k acc G
 |d::ds,acc,ρ,G,k=>held g G/\acc.length < sz/\step d ρ G (λo ρ' G'=>match o with |some y=>compLoop step g ds (acc++[y]) ρ' G' k |none=>compLoop step g ds acc ρ' G' k)
noncomputable def dg(step:D->List D->ak->DH->(List D->ak->DH->Prop)->Prop)(g:Hld):List D->List D->ak->DH->(List D->ak->DH->Prop)->Prop
 |[],acc,ρ,G,k=>held g G/\k acc ρ G
 |d::ds,acc,ρ,G,k=>held g G/\step d acc ρ G (λacc' ρ' G'=>dg step g ds acc' ρ' G' k)
def dG:Nat->List D->List D
 |_,[]=>[]
 |i,d::ds=>.tup [.int i,d]::dG (i+1) ds
def cg:List D->List D->List D
 |a::as,b::bs=>.tup [a,b]::cg as bs
 |_,_=>[]
noncomputable def itemsOf(G:DH):D->Option (List D×Hld)
 |.lst ds=>some (ds,[])
 |.tup ds=>some (ds,[])
 |.str l=>some (l.map λc=>.str [c],[])
 |.ref p=>match G p with |some (.lst ds)=>some (ds,[(p,ds)]) |none=>none
 |_=>none
def aN(lo:Int)(n:Nat):List D:=(List.range n).map λi=>.int (lo+(i:Nat))
def dh(lo:Int)(n:Nat):List D:=(List.range n).map λi=>.int (lo - (i:Nat))
def noE:EK:=λ_ _=>False
mutual
def wpE(Φ:aa):Ex->EK->ak->DH->(D->DH->Prop)->Prop
 |.var i,_,ρ,G,k=>match ρ[i]? with |some (some d)=>k d G |_=>False
 |.cst d,_,_,G,k=>k d G
 |.glb _ d,_,_,G,k=>k d G
 |.bin op fz a b,E,ρ,G,k=>wpE Φ a E ρ G λx G1=>wpE Φ b E ρ G1 λy G2=>cF op fz (view G2 x) (view G2 y) G2 k
 |.neg a,E,ρ,G,k=>wpE Φ a E ρ G λx G1=>match x with |.int i=>k (.int (-i)) G1 |_=>False
 |.cmp op a b,E,ρ,G,k=>wpE Φ a E ρ G λx G1=>wpE Φ b E ρ G1 λy G2=>bh op (view G2 x) (view G2 y) λc=>k (.bl c) G2
 |.chn op op' a b c,E,ρ,G,k=>wpE Φ a E ρ G λx G1=>wpE Φ b E ρ G1 λy G2=>bh op (view G2 x) (view G2 y) λt=>
   match t with
   |true=>wpE Φ c E ρ G2 λz G3=>bh op' (view G3 y) (view G3 z) λt'=>k (.bl t') G3
   |false=>k (.bl false) G2
 |.not a,E,ρ,G,k=>wpE Φ a E ρ G λx G1=>match truth (view G1 x) with |some b=>k (.bl (!b)) G1 |none=>False
 |.boo isAnd e es,E,ρ,G,k=>wpE Φ e E ρ G λd G1=>match d with |.bl b=>wpB Φ es isAnd b E ρ G1 (λc G2=>k (.bl c) G2) |_=>False
 |.ife c a b,E,ρ,G,k=>wpT Φ c E ρ G λt G1=>match t with |true=>wpE Φ a E ρ G1 k |false=>wpE Φ b E ρ G1 k
 |.tup es,E,ρ,G,k=>aL Φ es E ρ G λds G1=>ds.length<=sz/\k (.tup ds) G1
 |.lst fz es,E,ρ,G,k=>aL Φ es E ρ G λds G1=>ds.length<=sz/\mk fz ds G1 k
 |.idx a i,E,ρ,G,k=>wpE Φ a E ρ G λx G1=>wpE Φ i E ρ G1 λy G2=>cG (view G2 x) y λd=>k d G2
 |.slc fz a lo hi,E,ρ,G,k=>wpE Φ a E ρ G λx G1=>wpO Φ lo E ρ G1 λl G2=>wpO Φ hi E ρ G2 λh G3=>dY fz (view G3 x) l h G3 k
 |.rvs fz a s,E,ρ,G,k=>wpE Φ a E ρ G λx G1=>wpE Φ s E ρ G1 λy G2=>jr fz (view G2 x) y G2 k
 |.call f es,E,ρ,G,k=>aL Φ es E ρ G λds G1=>(Φ f).t ds G1 k E
 |.bcl f es,E,ρ,G,k=>aL Φ es E ρ G λds G1=>opB f (ds.map (view G1)) λd=>k d G1
 |.lcl fz f es,E,ρ,G,k=>aL Φ es E ρ G λds G1=>cP f (ds.map (view G1)) λxs=>mk fz xs G1 k
 |.isi a t,E,ρ,G,k=>wpE Φ a E ρ G λx G1=>match isT t (view G1 x) with |some b=>k (.bl b) G1 |none=>False
 |.isx a C xs,E,ρ,G,k=>wpE Φ a E ρ G λx G1=>match x with |.exn c=>xs.contains c=true/\k (.bl (gO c C)) G1 |_=>False
 |.fst es,E,ρ,G,k=>wpF Φ es E ρ G λl G1=>l.length<=sz/\k (.str l) G1
 |.rgl fz a,E,ρ,G,k=>wpE Φ a E ρ G λd G1=>match d with |.int n=>(0<=n/\n<=1000)/\mk fz (aN 0 n.toNat) G1 k |_=>False
 |.rpl f a b ix,E,ρ,G,k=>wpE Φ a E ρ G λda G1=>wpE Φ b E ρ G1 λdb G2=>cG (view G2 db) (.int 0) λd0=>(Φ f).t [da,d0] G2 (λd G3=>wA d λl=>wpE Φ ix E ρ G3 λi G4=>wB i l λm=>k (.str m) G4) E
 |.fld C f o,E,ρ,G,k=>wpE Φ o E ρ G λd G1=>wy C f d λq=>k (.ref q) G1
 |.mcl f C m o es,E,ρ,G,k=>wpE Φ o E ρ G λd G1=>qP C m d/\aL Φ es E ρ G1 λds G2=>(Φ f).t (d::ds) G2 k E
 |.mko C es,E,ρ,G,k=>aL Φ es E ρ G λds G1=>(Φ C).t ds G1 k E
 |.pp0 o,E,ρ,G,k=>wpE Φ o E ρ G λd G1=>wz d G1 k
 |.rgt a,E,ρ,G,k=>wpE Φ a E ρ G λd G1=>match d with |.int n=>(0<=n/\n<=1000)/\k (.tup (aN 0 n.toNat)) G1 |_=>False
 |.mth m o es,E,ρ,G,k=>wpE Φ o E ρ G λx G1=>recv m x G1/\aL Φ es E ρ G1 λds G2=>opM m x ds G2 k
 |.comp fz elt tg it cond _ cap,E,ρ,G,k=>wpI Φ it E ρ G λitems g G1=>
   compLoop (λd ρ' G' k'=>aQ tg d ρ' G' λρ1=>wpT Φ cond noE ρ1 G' λb G2=>match b with |true=>wpE Φ elt noE ρ1 G2 λy G3=>k' (some y) ρ1 G3 |false=>k' none ρ1 G2)
    g items [] (cap.map λo=>match o with |none=>none |some j=>(ρ[j]?).join) G1 λds G2=>mk fz ds G2 k
 |.cm3 elt t1 i1 t2 i2 t3 i3 _ cap,E,ρ,G,k=>wpI Φ i1 E ρ G λitems g G1=>dg (λd acc ρ' G' k1=>aQ t1 d ρ' G' λρ1=>wpI Φ i2 noE ρ1 G' λitems2 g2 G2=>dg (λd acc ρ' G' k2=>aQ t2 d ρ' G' λρ1=>wpI Φ i3 noE ρ1 G' λitems3 g3 G3=>dg (λd acc ρ' G' k3=>aQ t3 d ρ' G' λρ1=>acc.length < sz/\wpE Φ elt noE ρ1 G' λy G4=>k3 (acc++[y]) ρ1 G4) g3 items3 acc ρ1 G3 k2) g2 items2 acc ρ1 G2 k1) g items [] (cap.map λo=>match o with |none=>none |some j=>(ρ[j]?).join) G1 λds _ G2=>ds.length<=sz/\mk true ds G2 k
 |.frz a,E,ρ,G,k=>wpE Φ a E ρ G λx G1=>match x with |.ref p=>(match G1 p with |some (.lst ds)=>k (.lst ds) (iu G1 p) |none=>False) |d=>k d G1
/-- a test -/
def wpT(Φ:aa):Tx->EK->ak->DH->(Bool->DH->Prop)->Prop
 |.not a,E,ρ,G,k=>wpT Φ a E ρ G λb G1=>k (!b) G1
 |.boo isAnd e es,E,ρ,G,k=>wpT Φ e E ρ G λb G1=>fY Φ es isAnd b E ρ G1 k
 |.yes,_,_,G,k=>k true G
 |.val x,E,ρ,G,k=>wpE Φ x E ρ G λd G1=>match truth (view G1 d) with |some b=>k b G1 |none=>False
def wpF(Φ:aa):Exs->EK->ak->DH->(List Nat->DH->Prop)->Prop
 |.nil,_,_,G,k=>k [] G
 |.cons e es,E,ρ,G,k=>wpE Φ e E ρ G λd G1=>match d with
  |.str l=>l.length<=1000/\wpF Φ es E ρ G1 λx G2=>k (l++x) G2
  |.int i=>(0<=i/\i < 100)/\wpF Φ es E ρ G1 λx G2=>k (gM i.toNat++x) G2
  |_=>False
def aL(Φ:aa):Exs->EK->ak->DH->(List D->DH->Prop)->Prop
 |.nil,_,_,G,k=>k [] G
 |.cons e es,E,ρ,G,k=>wpE Φ e E ρ G λd G1=>aL Φ es E ρ G1 λds G2=>k (d::ds) G2
/-- and,or as values:truths alone;b:the one ahead -/
def wpB(Φ:aa):Exs->Bool->Bool->EK->ak->DH->(Bool->DH->Prop)->Prop
 |.nil,_,b,_,_,G,k=>k b G
 |.cons e es,isAnd,b,E,ρ,G,k=>match isAnd,b with
  |true,false=>k false G
  |false,true=>k true G
  |_,_=>wpE Φ e E ρ G λd G1=>match d with |.bl b'=>wpB Φ es isAnd b' E ρ G1 k |_=>False
def fY(Φ:aa):Txs->Bool->Bool->EK->ak->DH->(Bool->DH->Prop)->Prop
 |.nil,_,b,_,_,G,k=>k b G
 |.cons e es,isAnd,b,E,ρ,G,k=>match isAnd,b with
  |true,false=>k false G
  |false,true=>k true G
  |_,_=>wpT Φ e E ρ G λb' G1=>fY Φ es isAnd b' E ρ G1 k
/-- a bound of a slice -/
def wpO(Φ:aa):Ox->EK->ak->DH->(Option Int->DH->Prop)->Prop
 |.no,_,_,G,k=>k none G
 |.ob x,E,ρ,G,k=>wpE Φ x E ρ G λd G1=>match d with |.int i=>k (some i) G1 |_=>False
def wpI(Φ:aa):It'->EK->ak->DH->(List D->Hld->DH->Prop)->Prop
 |.seq e,E,ρ,G,k=>wpE Φ e E ρ G λd G1=>match itemsOf G1 d with |some ds=>k ds.1 ds.2 G1 |none=>False
 |.rng a,E,ρ,G,k=>wpE Φ a E ρ G λd G1=>match d with |.int n=>(-(2 ^ 62)<=n/\n < 2 ^ 62)/\k (aN 0 n.toNat) [] G1 |_=>False
 |.rng2 a b,E,ρ,G,k=>wpE Φ a E ρ G λx G1=>wpE Φ b E ρ G1 λy G2=>match x,y with
  |.int m,.int n=>(-(2 ^ 62)<=m/\m < 2 ^ 62/\-(2 ^ 62)<=n/\n < 2 ^ 62)/\k (aN m (n - m).toNat) [] G2
  |_,_=>False
 |.rev a,E,ρ,G,k=>wpE Φ a E ρ G λd G1=>match d with |.int n=>(-(2 ^ 62)<=n/\n < 2 ^ 62)/\k (dh ((n.toNat:Int) - 1) n.toNat) [] G1 |_=>False
 |.dwn a b c,E,ρ,G,k=>wpE Φ a E ρ G λx G1=>wpE Φ b E ρ G1 λy G2=>wpE Φ c E ρ G2 λz G3=>match x,y,z with
  |.int m,.int n,.int s=>(s=-1/\-(2 ^ 62)<=m/\m < 2 ^ 62/\-(2 ^ 62)<=n/\n < 2 ^ 62)/\k (dh m (m - n).toNat) [] G3
  |_,_,_=>False
 |.enm e,E,ρ,G,k=>wpE Φ e E ρ G λd G1=>match itemsOf G1 d with |some ds=>k (dG 0 ds.1) ds.2 G1 |none=>False
 |.zip a b,E,ρ,G,k=>wpE Φ a E ρ G λx G1=>wpE Φ b E ρ G1 λy G2=>match itemsOf G2 x,itemsOf G2 y with |some ds,some es=>k (cg ds.1 es.1) (ds.2++es.2) G2 |_,_=>False
end
structure En where
 nx:ak->DH->Prop
 rt:D->DH->Prop
 bk:ak->DH->Prop
 ct:ak->DH->Prop
noncomputable def forLoop(step:D->ak->DH->(ak->DH->Prop)->Prop)(g:Hld):List D->ak->DH->(ak->DH->Prop)->Prop
 |[],ρ,G,k=>held g G/\k ρ G
 |d::ds,ρ,G,k=>held g G/\step d ρ G λρ' G'=>forLoop step g ds ρ' G' k
def whileLoop(test:ak->DH->(Bool->DH->Prop)->Prop)(body:ak->DH->(ak->DH->Prop)->Prop):Nat->ak->DH->(ak->DH->Prop)->Prop
 |0,_,_,_=>False
 |n+1,ρ,G,k=>test ρ G λb G1=>match b with |true=>body ρ G1 λρ' G'=>whileLoop test body n ρ' G' k |false=>k ρ G1
def d7(o i x:D)(G:DH)(k:DH->Prop):Prop:=
 match o,i with
 |.ref p,.int i=>match G p with |some (.lst ds)=>(match ixN ds.length i with |some j=>k (bf G p (.lst (ds.set j x))) |none=>False) |none=>False
 |_,_=>False
def dH(op:Operator)(a b:D)(k:D->Prop):Prop:=
 match op,a,b with
 |.Add,.int i,.int j=>k (.int (i+j))
 |.Add,.str x,.str y=>x.length+y.length<=sz/\k (.str (x++y))
 |.Sub,.int i,.int j=>k (.int (i - j))
 |_,_,_=>False
def wC:D->Bool
 |.int i=>decide (0<=i)&&decide (i < 100)
 |_=>false
def wpM(Φ:aa):Exs->EK->ak->DH->(DH->Prop)->Prop
 |.nil,_,_,G,k=>k G
 |.cons e es,E,ρ,G,k=>wpE Φ e E ρ G λd G1=>wC d=true/\wpM Φ es E ρ G1 k
def wpX(Φ:aa):Tb->ak->DH->(ak->DH->Prop)->(Xn->ak->DH->Prop)->Prop
 |.call f es,ρ,G,nx,ex=>aL Φ es noE ρ G λds G1=>(Φ f).t ds G1 (λ_ G2=>nx ρ G2) λx G2=>ex x ρ G2
 |.asg i f es,ρ,G,nx,ex=>aL Φ es noE ρ G λds G1=>(Φ f).t ds G1 (λd G2=>nx (ρ.set i (some d)) G2) λx G2=>ex x ρ G2
 |.pick f g i es,ρ,G,nx,ex=>wpE Φ (.var i) noE ρ G λd G1=>∃b:Bool,d=.int (if b then 1 else 0)/\aL Φ es noE ρ G1 λds G2=>(Φ (if b then g else f)).t ds G2 (λ_ G3=>nx ρ G3) λx G3=>ex x ρ G3
 |.ite c a b,ρ,G,nx,ex=>wpT Φ c noE ρ G λt G1=>match t with |true=>wpX Φ a ρ G1 nx ex |false=>wpX Φ b ρ G1 nx ex
 |.mcl f C m o es,ρ,G,nx,ex=>wpE Φ o noE ρ G λd G1=>qP C m d/\aL Φ es noE ρ G1 λds G2=>(Φ f).t (d::ds) G2 (λ_ G3=>nx ρ G3) λx G3=>ex x ρ G3
 |.mko C es,ρ,G,nx,ex=>aL Φ es noE ρ G λds G1=>(Φ C).t ds G1 (λ_ G2=>nx ρ G2) λx G2=>ex x ρ G2
def caught(h:Hd)(C:String)(ρ:ak):ak:=match h with
 |.flag i b=>ρ.set i (some (.bl b))
 |.bind n i=>((ρ.set n (some (.exn C))).set i (some (.exn C))).set n none
mutual
def wpS(Φ:aa):Sx->EK->ak->DH->En->Prop
 |.exp e,E,ρ,G,D=>wpE Φ e E ρ G λ_ G1=>D.nx ρ G1
 |.asg t e,E,ρ,G,D=>wpE Φ e E ρ G λd G1=>aQ t d ρ G1 λρ'=>D.nx ρ' G1
 |.set o i e,E,ρ,G,D=>wpE Φ e E ρ G λx G1=>wpE Φ o E ρ G1 λa G2=>wpE Φ i E ρ G2 λy G3=>d7 a y x G3 λG4=>D.nx ρ G4
 |.aug i op e,E,ρ,G,D=>match ρ[i]? with
  |some (some a)=>wpE Φ e E ρ G λb G1=>dH op a b λc=>D.nx (ρ.set i (some c)) G1
  |_=>False
 |.augs o i op e,E,ρ,G,D=>wpE Φ o E ρ G λa G1=>wpE Φ i E ρ G1 λy G2=>cG (view G2 a) y λold=>wpE Φ e E ρ G2 λb G3=>dH op old b λc=>d7 a y c G3 λG4=>D.nx ρ G4
 |.ret e,E,ρ,G,D=>wpE Φ e E ρ G D.rt
 |.rtn,_,_,G,D=>D.rt .non G
 |.ite c a b,E,ρ,G,D=>wpT Φ c E ρ G λt G1=>match t with |true=>au Φ a E ρ G1 D |false=>au Φ b E ρ G1 D
 |.for_ t it body,E,ρ,G,D=>wpI Φ it E ρ G λitems g G1=>
   forLoop (λd ρ' G' k=>aQ t d ρ' G' λρ1=>au Φ body E ρ1 G' { D with nx:=k,ct:=k,bk:=D.nx }) g items ρ G1 D.nx
 |.whl c body,E,ρ,G,D=>∃n,whileLoop (λρ' G' k=>wpT Φ c E ρ' G' k) (λρ' G' k=>au Φ body E ρ' G' { D with nx:=k,ct:=k,bk:=D.nx }) n ρ G D.nx
 |.pas,_,ρ,G,D=>D.nx ρ G
 |.brk,_,ρ,G,D=>D.bk ρ G
 |.cnt,_,ρ,G,D=>D.ct ρ G
 |.nev,_,_,_,_=>False
 |.rse C es,E,ρ,G,_=>wpM Φ es E ρ G λG1=>E ⟨C,.non⟩ G1
 |.tryc f es C i b,_,ρ,G,D=>aL Φ es noE ρ G λds G1=>(Φ f).t ds G1 (λ_ G2=>D.nx ρ G2) λx G2=>x.cls=C/\x.fld=.non/\D.nx (ρ.set i (some (.bl b))) G2
 |.tryx b C h xs,_,ρ,G,D=>wpX Φ b ρ G D.nx λx ρ' G'=>x.fld=.non/\xs.contains x.cls=true/\gO x.cls C=true/\D.nx (caught h x.cls ρ') G'
def au(Φ:aa):Sxs->EK->ak->DH->En->Prop
 |.nil,_,ρ,G,D=>D.nx ρ G
 |.cons s r,E,ρ,G,D=>wpS Φ s E ρ G { D with nx:=λρ' G'=>au Φ r E ρ' G' D }
end
theorem qQ{Φ:aa}{a}{E}{ρ}{G}{k}:wpT Φ (.not a) E ρ G k=(wpT Φ a E ρ G λb G1=>k (!b) G1):=rfl
theorem qR{Φ:aa}{isAnd}{e}{es}{E}{ρ}{G}{k}:wpT Φ (.boo isAnd e es) E ρ G k=(wpT Φ e E ρ G λb G1=>fY Φ es isAnd b E ρ G1 k):=rfl
theorem qT{Φ:aa}{E}{ρ}{G}{k}:wpT Φ .yes E ρ G k=(k true G):=rfl
theorem jt{Φ:aa}{x}{E}{ρ}{G}{k}:wpT Φ (.val x) E ρ G k=(wpE Φ x E ρ G λd G1=>match truth (view G1 d) with |some b=>k b G1 |none=>False):=rfl
theorem iy{Φ:aa}{E}{ρ}{G}{k}:aL Φ .nil E ρ G k=(k [] G):=rfl
theorem gP{Φ:aa}{e}{es}{E}{ρ}{G}{k}:aL Φ (.cons e es) E ρ G k=(wpE Φ e E ρ G λd G1=>aL Φ es E ρ G1 λds G2=>k (d::ds) G2):=rfl
theorem qU{Φ:aa}{isAnd:Bool}{b:Bool}{E}{ρ}{G}{k}:wpB Φ .nil isAnd b E ρ G k=(k b G):=rfl
theorem kh{Φ:aa}{e}{es}{isAnd:Bool}{b:Bool}{E}{ρ}{G}{k}:wpB Φ (.cons e es) isAnd b E ρ G k=(match isAnd,b with
  |true,false=>k false G
  |false,true=>k true G
  |_,_=>wpE Φ e E ρ G λd G1=>match d with |.bl b'=>wpB Φ es isAnd b' E ρ G1 k |_=>False):=rfl
theorem qW{Φ:aa}{isAnd:Bool}{b:Bool}{E}{ρ}{G}{k}:fY Φ .nil isAnd b E ρ G k=(k b G):=rfl
theorem kj{Φ:aa}{e}{es}{isAnd:Bool}{b:Bool}{E}{ρ}{G}{k}:fY Φ (.cons e es) isAnd b E ρ G k=(match isAnd,b with
  |true,false=>k false G
  |false,true=>k true G
  |_,_=>wpT Φ e E ρ G λb' G1=>fY Φ es isAnd b' E ρ G1 k):=rfl
theorem qX{Φ:aa}{E}{ρ}{G}{k}:wpO Φ .no E ρ G k=(k none G):=rfl
theorem qY{Φ:aa}{x}{E}{ρ}{G}{k}:wpO Φ (.ob x) E ρ G k=(wpE Φ x E ρ G λd G1=>match d with |.int i=>k (some i) G1 |_=>False):=rfl
theorem qZ{Φ:aa}{e}{E}{ρ}{G}{k}:wpI Φ (.seq e) E ρ G k=(wpE Φ e E ρ G λd G1=>match itemsOf G1 d with |some ds=>k ds.1 ds.2 G1 |none=>False):=rfl
theorem q8{Φ:aa}{a}{E}{ρ}{G}{k}:wpI Φ (.rng a) E ρ G k=(wpE Φ a E ρ G λd G1=>match d with |.int n=>(-(2 ^ 62)<=n/\n < 2 ^ 62)/\k (aN 0 n.toNat) [] G1 |_=>False):=rfl
theorem q9{Φ:aa}{a}{b}{E}{ρ}{G}{k}:wpI Φ (.rng2 a b) E ρ G k=(wpE Φ a E ρ G λx G1=>wpE Φ b E ρ G1 λy G2=>match x,y with
  |.int m,.int n=>(-(2 ^ 62)<=m/\m < 2 ^ 62/\-(2 ^ 62)<=n/\n < 2 ^ 62)/\k (aN m (n - m).toNat) [] G2
  |_,_=>False):=rfl
theorem rm{Φ:aa}{a}{E}{ρ}{G}{k}:wpI Φ (.rev a) E ρ G k=(wpE Φ a E ρ G λd G1=>match d with |.int n=>(-(2 ^ 62)<=n/\n < 2 ^ 62)/\k (dh ((n.toNat:Int) - 1) n.toNat) [] G1 |_=>False):=rfl
theorem wD{Φ:aa}{a}{b}{c}{E}{ρ}{G}{k}:wpI Φ (.dwn a b c) E ρ G k=(wpE Φ a E ρ G λx G1=>wpE Φ b E ρ G1 λy G2=>wpE Φ c E ρ G2 λz G3=>match x,y,z with
  |.int m,.int n,.int s=>(s=-1/\-(2 ^ 62)<=m/\m < 2 ^ 62/\-(2 ^ 62)<=n/\n < 2 ^ 62)/\k (dh m (m - n).toNat) [] G3
  |_,_,_=>False):=rfl
theorem rn{Φ:aa}{e}{E}{ρ}{G}{k}:wpI Φ (.enm e) E ρ G k=(wpE Φ e E ρ G λd G1=>match itemsOf G1 d with |some ds=>k (dG 0 ds.1) ds.2 G1 |none=>False):=rfl
theorem rz{Φ:aa}{a}{b}{E}{ρ}{G}{k}:wpI Φ (.zip a b) E ρ G k=(wpE Φ a E ρ G λx G1=>wpE Φ b E ρ G1 λy G2=>match itemsOf G2 x,itemsOf G2 y with |some ds,some es=>k (cg ds.1 es.1) (ds.2++es.2) G2 |_,_=>False):=rfl
theorem ju{Φ:aa}{E}{ρ}{G}{D}:au Φ .nil E ρ G D=(D.nx ρ G):=rfl
theorem jw{Φ:aa}{s}{r}{E}{ρ}{G}{D}:au Φ (.cons s r) E ρ G D=(wpS Φ s E ρ G { D with nx:=λρ' G'=>au Φ r E ρ' G' D }):=rfl
theorem rA{Φ:aa}{i E ρ G k}:wpE Φ (.var i) E ρ G k=(match ρ[i]? with |some (some d)=>k d G |_=>False):=rfl
theorem iz{Φ:aa}{d E ρ G k}:wpE Φ (.cst d) E ρ G k=(k d G):=rfl
theorem rB{Φ:aa}{u0 d E ρ G k}:wpE Φ (.glb u0 d) E ρ G k=(k d G):=rfl
theorem rD{Φ:aa}{op fz a b E ρ G k}:wpE Φ (.bin op fz a b) E ρ G k=(wpE Φ a E ρ G λx G1=>wpE Φ b E ρ G1 λy G2=>cF op fz (view G2 x) (view G2 y) G2 k):=rfl
theorem rE{Φ:aa}{a E ρ G k}:wpE Φ (.neg a) E ρ G k=(wpE Φ a E ρ G λx G1=>match x with |.int i=>k (.int (-i)) G1 |_=>False):=rfl
theorem km{Φ:aa}{op a b E ρ G k}:wpE Φ (.cmp op a b) E ρ G k=(wpE Φ a E ρ G λx G1=>wpE Φ b E ρ G1 λy G2=>bh op (view G2 x) (view G2 y) λc=>k (.bl c) G2):=rfl
theorem kE{Φ:aa}{op op' a b c E ρ G k}:wpE Φ (.chn op op' a b c) E ρ G k=(wpE Φ a E ρ G λx G1=>wpE Φ b E ρ G1 λy G2=>bh op (view G2 x) (view G2 y) λt=>
   match t with
   |true=>wpE Φ c E ρ G2 λz G3=>bh op' (view G3 y) (view G3 z) λt'=>k (.bl t') G3
   |false=>k (.bl false) G2):=rfl
theorem rF{Φ:aa}{a E ρ G k}:wpE Φ (.not a) E ρ G k=(wpE Φ a E ρ G λx G1=>match truth (view G1 x) with |some b=>k (.bl (!b)) G1 |none=>False):=rfl
theorem rG{Φ:aa}{isAnd e es E ρ G k}:wpE Φ (.boo isAnd e es) E ρ G k=(wpE Φ e E ρ G λd G1=>match d with |.bl b=>wpB Φ es isAnd b E ρ G1 (λc G2=>k (.bl c) G2) |_=>False):=rfl
theorem rH{Φ:aa}{c a b E ρ G k}:wpE Φ (.ife c a b) E ρ G k=(wpT Φ c E ρ G λt G1=>match t with |true=>wpE Φ a E ρ G1 k |false=>wpE Φ b E ρ G1 k):=rfl
theorem rJ{Φ:aa}{es E ρ G k}:wpE Φ (.tup es) E ρ G k=(aL Φ es E ρ G λds G1=>ds.length<=sz/\k (.tup ds) G1):=rfl
theorem rK{Φ:aa}{fz es E ρ G k}:wpE Φ (.lst fz es) E ρ G k=(aL Φ es E ρ G λds G1=>ds.length<=sz/\mk fz ds G1 k):=rfl
theorem rM{Φ:aa}{a i E ρ G k}:wpE Φ (.idx a i) E ρ G k=(wpE Φ a E ρ G λx G1=>wpE Φ i E ρ G1 λy G2=>cG (view G2 x) y λd=>k d G2):=rfl
theorem wF{Φ:aa}{fz a s E ρ G k}:wpE Φ (.rvs fz a s) E ρ G k=(wpE Φ a E ρ G λx G1=>wpE Φ s E ρ G1 λy G2=>jr fz (view G2 x) y G2 k):=rfl
theorem rN{Φ:aa}{fz a lo hi E ρ G k}:wpE Φ (.slc fz a lo hi) E ρ G k=(wpE Φ a E ρ G λx G1=>wpO Φ lo E ρ G1 λl G2=>wpO Φ hi E ρ G2 λh G3=>dY fz (view G3 x) l h G3 k):=rfl
theorem rO{Φ:aa}{f es E ρ G k}:wpE Φ (.call f es) E ρ G k=(aL Φ es E ρ G λds G1=>(Φ f).t ds G1 k E):=rfl
theorem rP{Φ:aa}{f es E ρ G k}:wpE Φ (.bcl f es) E ρ G k=(aL Φ es E ρ G λds G1=>opB f (ds.map (view G1)) λd=>k d G1):=rfl
theorem rQ{Φ:aa}{fz f es E ρ G k}:wpE Φ (.lcl fz f es) E ρ G k=(aL Φ es E ρ G λds G1=>cP f (ds.map (view G1)) λxs=>mk fz xs G1 k):=rfl
theorem rR{Φ:aa}{a t E ρ G k}:wpE Φ (.isi a t) E ρ G k=(wpE Φ a E ρ G λx G1=>match isT t (view G1 x) with |some b=>k (.bl b) G1 |none=>False):=rfl
theorem wG{Φ:aa}{a C xs E ρ G k}:wpE Φ (.isx a C xs) E ρ G k=(wpE Φ a E ρ G λx G1=>match x with |.exn c=>xs.contains c=true/\k (.bl (gO c C)) G1 |_=>False):=rfl
theorem wH{Φ:aa}{fz a E ρ G k}:wpE Φ (.rgl fz a) E ρ G k=(wpE Φ a E ρ G λd G1=>match d with |.int n=>(0<=n/\n<=1000)/\mk fz (aN 0 n.toNat) G1 k |_=>False):=rfl
theorem Zf{Φ:aa}{f a b ix E ρ G k}:wpE Φ (.rpl f a b ix) E ρ G k=(wpE Φ a E ρ G λda G1=>wpE Φ b E ρ G1 λdb G2=>cG (view G2 db) (.int 0) λd0=>(Φ f).t [da,d0] G2 (λd G3=>wA d λl=>wpE Φ ix E ρ G3 λi G4=>wB i l λm=>k (.str m) G4) E):=rfl
theorem wI{Φ:aa}{C f o E ρ G k}:wpE Φ (.fld C f o) E ρ G k=(wpE Φ o E ρ G λd G1=>wy C f d λq=>k (.ref q) G1):=rfl
theorem wJ{Φ:aa}{f C m o es E ρ G k}:wpE Φ (.mcl f C m o es) E ρ G k=(wpE Φ o E ρ G λd G1=>qP C m d/\aL Φ es E ρ G1 λds G2=>(Φ f).t (d::ds) G2 k E):=rfl
theorem wK{Φ:aa}{C es E ρ G k}:wpE Φ (.mko C es) E ρ G k=(aL Φ es E ρ G λds G1=>(Φ C).t ds G1 k E):=rfl
theorem wL{Φ:aa}{o E ρ G k}:wpE Φ (.pp0 o) E ρ G k=(wpE Φ o E ρ G λd G1=>wz d G1 k):=rfl
theorem wM{Φ:aa}{a E ρ G k}:wpE Φ (.rgt a) E ρ G k=(wpE Φ a E ρ G λd G1=>match d with |.int n=>(0<=n/\n<=1000)/\k (.tup (aN 0 n.toNat)) G1 |_=>False):=rfl
theorem wN{Φ:aa}{es E ρ G k}:wpE Φ (.fst es) E ρ G k=(wpF Φ es E ρ G λl G1=>l.length<=sz/\k (.str l) G1):=rfl
theorem wO{Φ:aa}{E ρ G k}:wpF Φ .nil E ρ G k=k [] G:=rfl
theorem wQ{Φ:aa}{e es E ρ G k}:wpF Φ (.cons e es) E ρ G k=(wpE Φ e E ρ G λd G1=>match d with
  |.str l=>l.length<=1000/\wpF Φ es E ρ G1 λx G2=>k (l++x) G2
  |.int i=>(0<=i/\i < 100)/\wpF Φ es E ρ G1 λx G2=>k (gM i.toNat++x) G2
  |_=>False):=rfl
theorem d8{Φ:aa}{m o es E ρ G k}:wpE Φ (.mth m o es) E ρ G k=(wpE Φ o E ρ G λx G1=>recv m x G1/\aL Φ es E ρ G1 λds G2=>opM m x ds G2 k):=rfl
theorem rT{Φ:aa}{a E ρ G k}:wpE Φ (.frz a) E ρ G k=(wpE Φ a E ρ G λx G1=>match x with |.ref p=>(match G1 p with |some (.lst ds)=>k (.lst ds) (iu G1 p) |none=>False) |d=>k d G1):=rfl
theorem rW{Φ:aa}{e E ρ G D}:wpS Φ (.exp e) E ρ G D=(wpE Φ e E ρ G λ_ G1=>D.nx ρ G1):=rfl
theorem gQ{Φ:aa}{t e E ρ G D}:wpS Φ (.asg t e) E ρ G D=(wpE Φ e E ρ G λd G1=>aQ t d ρ G1 λρ'=>D.nx ρ' G1):=rfl
theorem rY{Φ:aa}{o i e E ρ G D}:wpS Φ (.set o i e) E ρ G D=(wpE Φ e E ρ G λx G1=>wpE Φ o E ρ G1 λa G2=>wpE Φ i E ρ G2 λy G3=>d7 a y x G3 λG4=>D.nx ρ G4):=rfl
theorem rZ{Φ:aa}{i op e E ρ G D}:wpS Φ (.aug i op e) E ρ G D=(match ρ[i]? with
  |some (some a)=>wpE Φ e E ρ G λb G1=>dH op a b λc=>D.nx (ρ.set i (some c)) G1
  |_=>False):=rfl
theorem wR{Φ:aa}{o i op e E ρ G D}:wpS Φ (.augs o i op e) E ρ G D=(wpE Φ o E ρ G λa G1=>wpE Φ i E ρ G1 λy G2=>cG (view G2 a) y λold=>wpE Φ e E ρ G2 λb G3=>dH op old b λc=>d7 a y c G3 λG4=>D.nx ρ G4):=rfl
theorem sr{Φ:aa}{e E ρ G D}:wpS Φ (.ret e) E ρ G D=(wpE Φ e E ρ G D.rt):=rfl
theorem su{Φ:aa}{E ρ G D}:wpS Φ .rtn E ρ G D=(D.rt .non G):=rfl
theorem sy{Φ:aa}{c a b E ρ G D}:wpS Φ (.ite c a b) E ρ G D=(wpT Φ c E ρ G λt G1=>match t with |true=>au Φ a E ρ G1 D |false=>au Φ b E ρ G1 D):=rfl
theorem sE{Φ:aa}{E ρ G D}:wpS Φ .pas E ρ G D=(D.nx ρ G):=rfl
theorem sG{Φ:aa}{E ρ G D}:wpS Φ .brk E ρ G D=(D.bk ρ G):=rfl
theorem sH{Φ:aa}{E ρ G D}:wpS Φ .cnt E ρ G D=(D.ct ρ G):=rfl
theorem kI{Φ:aa}{C es E ρ G D}:wpS Φ (.rse C es) E ρ G D=(wpM Φ es E ρ G λG1=>E ⟨C,.non⟩ G1):=rfl
theorem wU{Φ:aa}{E ρ G k}:wpM Φ .nil E ρ G k=k G:=rfl
theorem sI{Φ:aa}{e es E ρ G k}:wpM Φ (.cons e es) E ρ G k=(wpE Φ e E ρ G λd G1=>wC d=true/\wpM Φ es E ρ G1 k):=rfl
theorem wV{Φ:aa}{f es C i b E ρ G D}:wpS Φ (.tryc f es C i b) E ρ G D=(aL Φ es noE ρ G λds G1=>(Φ f).t ds G1 (λ_ G2=>D.nx ρ G2) λx G2=>x.cls=C/\x.fld=.non/\D.nx (ρ.set i (some (.bl b))) G2):=rfl
theorem wW{Φ:aa}{b C h xs E ρ G D}:wpS Φ (.tryx b C h xs) E ρ G D=(wpX Φ b ρ G D.nx λx ρ' G'=>x.fld=.non/\xs.contains x.cls=true/\gO x.cls C=true/\D.nx (caught h x.cls ρ') G'):=rfl
theorem wX{Φ:aa}{f g i es ρ G nx ex}:wpX Φ (.pick f g i es) ρ G nx ex=(wpE Φ (.var i) noE ρ G λd G1=>∃b:Bool,d=.int (if b then 1 else 0)/\aL Φ es noE ρ G1 λds G2=>(Φ (if b then g else f)).t ds G2 (λ_ G3=>nx ρ G3) λx G3=>ex x ρ G3):=rfl
theorem wY{Φ:aa}{f C m o es ρ G nx ex}:wpX Φ (.mcl f C m o es) ρ G nx ex=(wpE Φ o noE ρ G λd G1=>qP C m d/\aL Φ es noE ρ G1 λds G2=>(Φ f).t (d::ds) G2 (λ_ G3=>nx ρ G3) λx G3=>ex x ρ G3):=rfl
theorem wZ{Φ:aa}{C es ρ G nx ex}:wpX Φ (.mko C es) ρ G nx ex=(aL Φ es noE ρ G λds G1=>(Φ C).t ds G1 (λ_ G2=>nx ρ G2) λx G2=>ex x ρ G2):=rfl
theorem w5{Φ:aa}{f es ρ G nx ex}:wpX Φ (.call f es) ρ G nx ex=(aL Φ es noE ρ G λds G1=>(Φ f).t ds G1 (λ_ G2=>nx ρ G2) λx G2=>ex x ρ G2):=rfl
theorem xf{Φ:aa}{i f es ρ G nx ex}:wpX Φ (.asg i f es) ρ G nx ex=(aL Φ es noE ρ G λds G1=>(Φ f).t ds G1 (λd G2=>nx (ρ.set i (some d)) G2) λx G2=>ex x ρ G2):=rfl
theorem xg{Φ:aa}{c a b ρ G nx ex}:wpX Φ (.ite c a b) ρ G nx ex=(wpT Φ c noE ρ G λt G1=>match t with |true=>wpX Φ a ρ G1 nx ex |false=>wpX Φ b ρ G1 nx ex):=rfl
theorem sJ{Φ:aa}{E ρ G D}:wpS Φ .nev E ρ G D=(False):=rfl
theorem xj{Φ:aa}{fz elt tg it cond N cap E ρ G k}:wpE Φ (.comp fz elt tg it cond N cap) E ρ G k=(wpI Φ it E ρ G λitems g G1=>
   compLoop (λd ρ' G' k'=>aQ tg d ρ' G' λρ1=>wpT Φ cond noE ρ1 G' λb G2=>match b with |true=>wpE Φ elt noE ρ1 G2 λy G3=>k' (some y) ρ1 G3 |false=>k' none ρ1 G2)
    g items [] (cap.map λo=>match o with |none=>none |some j=>(ρ[j]?).join) G1 λds G2=>mk fz ds G2 k):=rfl
theorem xm{Φ:aa}{elt t1 i1 t2 i2 t3 i3 N cap E ρ G k}:wpE Φ (.cm3 elt t1 i1 t2 i2 t3 i3 N cap) E ρ G k=(wpI Φ i1 E ρ G λitems g G1=>dg (λd acc ρ' G' k1=>aQ t1 d ρ' G' λρ1=>wpI Φ i2 noE ρ1 G' λitems2 g2 G2=>dg (λd acc ρ' G' k2=>aQ t2 d ρ' G' λρ1=>wpI Φ i3 noE ρ1 G' λitems3 g3 G3=>dg (λd acc ρ' G' k3=>aQ t3 d ρ' G' λρ1=>acc.length < sz/\wpE Φ elt noE ρ1 G' λy G4=>k3 (acc++[y]) ρ1 G4) g3 items3 acc ρ1 G3 k2) g2 items2 acc ρ1 G2 k1) g items [] (cap.map λo=>match o with |none=>none |some j=>(ρ[j]?).join) G1 λds _ G2=>ds.length<=sz/\mk true ds G2 k):=rfl
theorem DY{Φ:aa}{t it body E ρ G D}:wpS Φ (.for_ t it body) E ρ G D=(wpI Φ it E ρ G λitems g G1=>
   forLoop (λd ρ' G' k=>aQ t d ρ' G' λρ1=>au Φ body E ρ1 G' { D with nx:=k,ct:=k,bk:=D.nx }) g items ρ G1 D.nx):=rfl
theorem Ea{Φ:aa}{c body E ρ G D}:wpS Φ (.whl c body) E ρ G D=(∃n,whileLoop (λρ' G' k=>wpT Φ c E ρ' G' k) (λρ' G' k=>au Φ body E ρ' G' { D with nx:=k,ct:=k,bk:=D.nx }) n ρ G D.nx):=rfl
section
variable {k k':D->DH->Prop} {G:DH}
theorem cW{fz:Bool}{xs:List D}(h:∀d G',k d G'->k' d G')(q:mk fz xs G k):mk fz xs G k':=by
 cases fz with
 |true=>exact h _ _ q
 |false=>exact λp hp=>h _ _ (q p hp)
theorem Eb{a b:D}{p:Int->Int->Prop}(h:gK a b p):∃i j,a=.int i/\b=.int j/\p i j:=by
 cases a with
 |int i=>cases b with
  |int j=>exact ⟨i,j,rfl,rfl,h⟩
  |_=>exact h.elim
 |_=>exact h.elim
theorem sO{a b:D}{p q:Int->Int->Prop}(h:∀i j,p i j->q i j)(z:gK a b p):gK a b q:=by obtain ⟨i,j,rfl,rfl,z⟩:=Eb z;exact h i j z
theorem Ec{op:Operator}{fz:Bool}{a b:D}(h:∀d G',k d G'->k' d G')(q:cF op fz a b G k):cF op fz a b G k':=by
 cases op with
 |Add=>
  have q:jh fz a b G k:=q;show jh fz a b G k';unfold jh at q ⊢;cases a with
  |int i=>cases b <;> first |exact h _ _ q |exact q
  |str i=>cases b <;> first |exact ⟨q.1,h _ _ q.2⟩ |exact q
  |lst i=>cases b <;> first |exact ⟨q.1,cW h q.2⟩ |exact q
  |tup i=>cases b <;> first |exact ⟨q.1,h _ _ q.2⟩ |exact q
  |_=>exact q
 |Sub=>exact sO (λ_ _ z=>h _ _ z) q
 |Mult=>
  have q:ji fz a b G k:=q;show ji fz a b G k';unfold ji at q ⊢;cases b with
  |int n=>cases a <;> first |exact ⟨q.1,h _ _ q.2⟩ |exact ⟨q.1,q.2.1,q.2.2.1,h _ _ q.2.2.2⟩ |exact ⟨q.1,q.2.1,q.2.2.1,cW h q.2.2.2⟩ |exact ⟨q.1,q.2.1,q.2.2.1,q.2.2.2.1,h _ _ q.2.2.2.2⟩ |exact q
  |_=>exact q
 |FloorDiv=>exact sO (λ_ _ z=>⟨z.1,h _ _ z.2⟩) q
 |Mod=>exact sO (λ_ _ z=>⟨z.1,h _ _ z.2⟩) q
 |Pow=>exact sO (λ_ _ z=>⟨z.1,h _ _ z.2⟩) q
 |_=>exact q
theorem Ed{a b:D}{k k':Bool->Prop}(h:∀c,k c->k' c)(q:fW a b k):fW a b k':=by
 unfold fW at q ⊢;split at q
 ·split at q
  ·exact h _ q
  ·exact q
 ·exact ⟨q.1,h _ q.2⟩
 ·exact ⟨q.1,h _ q.2⟩
 ·exact q
theorem iB{op:CmpOp}{a b:D}{k k':Bool->Prop}(h:∀c,k c->k' c)(q:bh op a b k):bh op a b k':=by
 cases op with
 |Eq=>exact ⟨q.1,h _ q.2⟩
 |NotEq=>exact ⟨q.1,h _ q.2⟩
 |Lt=>have q:jj a b k:=q;show jj a b k';unfold jj at q ⊢;split at q <;> first |exact h _ q |exact q
 |LtE=>have q:jk a b k:=q;show jk a b k';unfold jk at q ⊢;split at q <;> first |exact h _ q |exact q
 |Gt=>have q:jl a b k:=q;show jl a b k';unfold jl at q ⊢;split at q <;> first |exact h _ q |exact q
 |GtE=>have q:jm a b k:=q;show jm a b k';unfold jm at q ⊢;split at q <;> first |exact h _ q |exact q
 |Is=>
  have q:jo a b k:=q;show jo a b k';unfold jo at q ⊢;split at q
  ·exact h _ q
  ·split at q
   ·exact h _ q
   ·exact q
  ·exact q
 |IsNot=>
  have q:jq a b k:=q;show jq a b k';unfold jq at q ⊢;split at q
  ·exact h _ q
  ·split at q
   ·exact h _ q
   ·exact q
  ·exact q
 |In=>exact Ed h q
 |NotIn=>exact Ed (λc=>h _) q
theorem sS{a i:D}{k k':D->Prop}(h:∀c,k c->k' c)(q:cG a i k):cG a i k':=by
 unfold cG at q ⊢;split at q
 ·split at q
  ·exact h _ q
  ·exact q
 ·split at q
  ·exact h _ q
  ·exact q
 ·split at q
  ·exact h _ q
  ·exact q
 ·exact q
theorem Ef{fz:Bool}{a:D}{lo hi:Option Int}(h:∀d G',k d G'->k' d G')(q:dY fz a lo hi G k):dY fz a lo hi G k':=by
 unfold dY at q ⊢;split at q <;> first
  |exact cW h q
  |exact h _ _ q
  |exact q.elim
theorem Zg{fz:Bool}{a y:D}(h:∀d G',k d G'->k' d G')(q:jr fz a y G k):jr fz a y G k':=by
 unfold jr at q ⊢;split at q
 ·exact ⟨q.1,cW h q.2⟩
 ·exact q.elim
theorem Eg{f:Bf}{as:List D}{k k':D->Prop}(h:∀c,k c->k' c)(q:opB f as k):opB f as k':=by
 cases f with
 |len=>simp only[opB,v7]at q ⊢;split at q <;> first |exact h _ q |exact q.elim
 |all=>
  simp only[opB,qG]at q ⊢;split at q
  ·split at q
   ·exact h _ q
   ·exact q
  ·exact q
 |int=>
  simp only[opB,qH]at q ⊢;split at q
  ·exact h _ q
  ·exact h _ q
  ·split at q
   ·exact ⟨q.1,h _ q.2⟩
   ·exact q
  ·exact q
 |tuple=>simp only[opB,v8]at q ⊢;split at q <;> first |exact h _ q |exact q.elim
 |sum=>
  simp only[opB,v9]at q ⊢;split at q
  ·split at q
   ·exact h _ q
   ·exact q
  ·exact q
 |min=>
  simp only[opB,j9]at q ⊢;split at q
  ·split at q
   ·exact ⟨q.1,λm h1 h2=>h _ (q.2 m h1 h2)⟩
   ·split at q
    ·exact λm h1 h2=>h _ (q m h1 h2)
    ·exact q
  ·exact q
 |max=>simp only[opB,DX]at q ⊢;split at q <;> first |exact h _ q |exact q.elim
 |abs=>simp only[opB,DR]at q ⊢;split at q <;> first |exact h _ q |exact q.elim
 |min2=>simp only[opB,DW]at q ⊢;split at q <;> first |exact h _ q |exact q.elim
 |str=>
  simp only[opB,wg]at q ⊢;split at q
  ·exact ⟨q.1,h _ q.2⟩
  ·exact q
theorem Eh{f:Lf}{as:List D}{k k':List D->Prop}(h:∀c,k c->k' c)(q:cP f as k):cP f as k':=by
 cases f with
 |list=>simp only[cP,wj]at q ⊢;split at q <;> first |exact h _ q |exact q.elim
 |sorted=>
  simp only[cP,qI]at q ⊢;split at q
  ·split at q
   ·exact ⟨q.1,λls p z=>h _ (q.2 ls p z)⟩
   ·exact q
  ·split at q
   ·exact ⟨q.1,λls p z=>h _ (q.2 ls p z)⟩
   ·exact q
  ·exact q
theorem fZ{m:Mf}{o:D}{as:List D}(h:∀d G',k d G'->k' d G')(q:opM m o as G k):opM m o as G k':=by
 cases m with
 |join=>
  simp only[opM,qJ]at q ⊢;split at q
  ·split at q
   ·exact ⟨q.1,h _ _ q.2⟩
   ·exact q
  ·exact q
 |find=>
  simp only[opM,wu]at q ⊢;split at q
  ·exact ⟨h _ _ q.1,λi hi=>h _ _ (q.2 i hi)⟩
  ·exact q
 |append=>
  simp only[opM,qK]at q ⊢;split at q
  ·split at q
   ·exact ⟨q.1,h _ _ q.2⟩
   ·exact q
  ·exact q
 |extend=>
  simp only[opM,qL]at q ⊢;split at q
  ·split at q
   ·exact ⟨q.1,h _ _ q.2⟩
   ·exact q
  ·exact q
 |insert=>
  simp only[opM,qM]at q ⊢;split at q
  ·split at q
   ·exact ⟨q.1,q.2.1,q.2.2.1,h _ _ q.2.2.2⟩
   ·exact q
  ·exact q
 |pop=>
  simp only[opM,wk]at q ⊢;split at q
  ·split at q
   ·refine ⟨q.1,q.2.1,?_⟩;have q2:=q.2.2;split at q2
    ·exact h _ _ q2
    ·exact q2
   ·exact q
  ·exact q
 |count=>
  simp only[opM,qN]at q ⊢;split at q
  ·split at q
   ·exact h _ _ q
   ·exact q
  ·exact q
 |index=>
  simp only[opM,qO]at q ⊢;split at q
  ·split at q
   ·exact ⟨q.1,h _ _ q.2⟩
   ·exact q
  ·exact q
theorem xn{o i x:D}{k k':DH->Prop}(h:∀G',k G'->k' G')(q:d7 o i x G k):d7 o i x G k':=by
 unfold d7 at q ⊢;split at q
 ·split at q
  ·split at q
   ·exact h _ q
   ·exact q
  ·exact q
 ·exact q
theorem xq{op:Operator}{a b:D}{k k':D->Prop}(h:∀c,k c->k' c)(q:dH op a b k):dH op a b k':=by
 unfold dH at q ⊢;split at q <;> first
  |exact h _ q
  |exact ⟨q.1,h _ q.2⟩
  |exact q.elim
mutual
theorem di{k k':ak->Prop}(h:∀ρ,k ρ->k' ρ):∀(t:Tg){d:D}{ρ:ak},aQ t d ρ G k->aQ t d ρ G k'
 |.nm i,d,ρ,q=>h _ q
 |.tp ts,d,ρ,q=>by
  unfold aQ at q ⊢;split at q
  ·exact xr h ts q
  ·exact xr h ts q
  ·exact q
theorem xr{k k':ak->Prop}(h:∀ρ,k ρ->k' ρ):∀(ts:Tgs){ds:List D}{ρ:ak},bV ts ds ρ G k->bV ts ds ρ G k'
 |.nil,ds,ρ,q=>by
  unfold bV at q ⊢;split at q
  ·exact h _ q
  ·exact q
 |.cons t r,ds,ρ,q=>by
  unfold bV at q ⊢;split at q
  ·exact di (λρ' q'=>xr h r q') t q
  ·exact q
end
theorem sU{step step':D->ak->DH->(Option D->ak->DH->Prop)->Prop}(hs:∀d ρ G (k k':Option D->ak->DH->Prop),(∀o ρ' G',k o ρ' G'->k' o ρ' G')->step d ρ G k->step' d ρ G k')
  {g:Hld} {k k':List D->DH->Prop} (h:∀ds G',k ds G'->k' ds G'):∀(ds acc:List D)(ρ:ak)(G:DH),compLoop step g ds acc ρ G k->compLoop step' g ds acc ρ G k'
 |[],acc,ρ,G,q=>⟨q.1,q.2.1,h _ _ q.2.2⟩
 |d::ds,acc,ρ,G,q=>by
  refine ⟨q.1,q.2.1,hs d ρ G _ _ (λo ρ' G' z=>?_) q.2.2⟩;cases o with
  |some y=>exact sU hs h ds (acc++[y]) ρ' G' z
  |none=>exact sU hs h ds acc ρ' G' z
theorem sV{step step':D->List D->ak->DH->(List D->ak->DH->Prop)->Prop}(hs:∀d acc ρ G (k k':List D->ak->DH->Prop),(∀a ρ' G',k a ρ' G'->k' a ρ' G')->step d acc ρ G k->step' d acc ρ G k')
  {g:Hld} {k k':List D->ak->DH->Prop} (h:∀a ρ G',k a ρ G'->k' a ρ G'):∀(ds acc:List D)(ρ:ak)(G:DH),dg step g ds acc ρ G k->dg step' g ds acc ρ G k'
 |[],acc,ρ,G,q=>⟨q.1,h _ _ _ q.2⟩
 |d::ds,acc,ρ,G,q=>⟨q.1,hs d acc ρ G _ _ (λa ρ' G' z=>sV hs h ds a ρ' G' z) q.2⟩
theorem Ei{step step':D->ak->DH->(ak->DH->Prop)->Prop}(hs:∀d ρ G (k k':ak->DH->Prop),(∀ρ' G',k ρ' G'->k' ρ' G')->step d ρ G k->step' d ρ G k')
  {g:Hld} {k k':ak->DH->Prop} (h:∀ρ G',k ρ G'->k' ρ G'):∀(ds:List D)(ρ:ak)(G:DH),forLoop step g ds ρ G k->forLoop step' g ds ρ G k'
 |[],ρ,G,q=>⟨q.1,h _ _ q.2⟩
 |d::ds,ρ,G,q=>⟨q.1,hs d ρ G _ _ (λρ' G' z=>Ei hs h ds ρ' G' z) q.2⟩
theorem Ej{test test':ak->DH->(Bool->DH->Prop)->Prop}{body body':ak->DH->(ak->DH->Prop)->Prop}
  (ht:∀ρ G (k k':Bool->DH->Prop),(∀b G',k b G'->k' b G')->test ρ G k->test' ρ G k') (hb:∀ρ G (k k':ak->DH->Prop),(∀ρ' G',k ρ' G'->k' ρ' G')->body ρ G k->body' ρ G k')
  {k k':ak->DH->Prop} (h:∀ρ G',k ρ G'->k' ρ G'):∀(n:Nat)(ρ:ak)(G:DH),whileLoop test body n ρ G k->whileLoop test' body' n ρ G k'
 |0,ρ,G,q=>q
 |n+1,ρ,G,q=>ht ρ G _ _ (λb G' z=>by
   cases b with
   |true=>exact hb ρ G' _ _ (λρ' G'' z'=>Ej ht hb h n ρ' G'' z') z
   |false=>exact h _ _ z) q
end
section
variable {Φ:aa} {G:DH}
mutual
theorem aD{E:EK}{ρ:ak}:∀(x:Ex){G:DH}{k k':D->DH->Prop},(∀d G',k d G'->k' d G')->wpE Φ x E ρ G k->wpE Φ x E ρ G k'
 |.var i,G,k,k',h,q=>by
  rw[rA]at q ⊢;split at q
  ·exact h _ _ q
  ·exact q
 |.cst d,G,k,k',h,q=>by rw[iz]at q ⊢;exact h _ _ q
 |.glb x d,G,k,k',h,q=>by rw[rB]at q ⊢;exact h _ _ q
 |.bin op fz a b,G,k,k',h,q=>by
  rw[rD]at q ⊢;exact aD a (λ_ _ q=>aD b (λ_ _ q=>Ec h q) q) q
 |.neg a,G,k,k',h,q=>by
  rw[rE]at q ⊢;refine aD a (λx _ q=>?_) q;split at q
  ·exact h _ _ q
  ·exact q
 |.cmp op a b,G,k,k',h,q=>by
  rw[km]at q ⊢;exact aD a (λ_ _ q=>aD b (λ_ _ q=>iB (λ_ q=>h _ _ q) q) q) q
 |.chn op op' a b c,G,k,k',h,q=>by
  rw[kE]at q ⊢;refine aD a (λ_ _ q=>aD b (λ_ _ q=>iB (λt q=>?_) q) q) q;cases t with
  |true=>exact aD c (λ_ _ q=>iB (λ_ q=>h _ _ q) q) q
  |false=>exact h _ _ q
 |.not a,G,k,k',h,q=>by
  rw[rF]at q ⊢;refine aD a (λx _ q=>?_) q;split at q
  ·exact h _ _ q
  ·exact q
 |.boo isAnd e es,G,k,k',h,q=>by
  rw[rG]at q ⊢;refine aD e (λx _ q=>?_) q;split at q
  ·exact sW es (λ_ _ q=>h _ _ q) q
  ·exact q
 |.ife c a b,G,k,k',h,q=>by
  rw[rH]at q ⊢;refine cQ c (λt _ q=>?_) q;cases t with
  |true=>exact aD a h q
  |false=>exact aD b h q
 |.tup es,G,k,k',h,q=>by
  rw[rJ]at q ⊢;exact cH es (λ_ _ q=>⟨q.1,h _ _ q.2⟩) q
 |.lst fz es,G,k,k',h,q=>by
  rw[rK]at q ⊢;exact cH es (λ_ _ q=>⟨q.1,cW h q.2⟩) q
 |.idx a i,G,k,k',h,q=>by
  rw[rM]at q ⊢;exact aD a (λ_ _ q=>aD i (λ_ _ q=>sS (λ_ q=>h _ _ q) q) q) q
 |.slc fz a lo hi,G,k,k',h,q=>by
  rw[rN]at q ⊢;exact aD a (λ_ _ q=>xF lo (λ_ _ q=>xF hi (λ_ _ q=>Ef h q) q) q) q
 |.rvs fz a s,G,k,k',h,q=>by
  rw[wF]at q ⊢;exact aD a (λ_ _ q=>aD s (λ_ _ q=>Zg h q) q) q
 |.call f es,G,k,k',h,q=>by
  rw[rO]at q ⊢;exact cH es (λ_ _ q=>Spec.mono q h λ_ _ z=>z) q
 |.bcl f es,G,k,k',h,q=>by
  rw[rP]at q ⊢;exact cH es (λ_ _ q=>Eg (λ_ q=>h _ _ q) q) q
 |.lcl fz f es,G,k,k',h,q=>by
  rw[rQ]at q ⊢;exact cH es (λ_ _ q=>Eh (λ_ q=>cW h q) q) q
 |.isi a t,G,k,k',h,q=>by
  rw[rR]at q ⊢;refine aD a (λx _ q=>?_) q;split at q
  ·exact h _ _ q
  ·exact q
 |.isx a C xs,G,k,k',h,q=>by
  rw[wG]at q ⊢;refine aD a (λx _ q=>?_) q;split at q
  ·exact ⟨q.1,h _ _ q.2⟩
  ·exact q
 |.rgl fz a,G,k,k',h,q=>by
  rw[wH]at q ⊢;refine aD a (λd _ q=>?_) q;split at q
  ·exact ⟨q.1,cW h q.2⟩
  ·exact q
 |.rpl f a b ix,G,k,k',h,q=>by
  rw[Zf]at q ⊢;refine aD a (λ_ _ q=>aD b (λ_ _ q=>sS (λ_ q=>Spec.mono q (λd G3 q=>?_) λ_ _ z=>z) q) q) q;unfold wA at q ⊢;split at q
  ·refine ⟨q.1,aD ix (λi G4 q=>?_) q.2⟩;unfold wB at q ⊢;split at q
   ·split at q
    ·exact h _ _ q
    ·exact q
   ·exact q
  ·exact q
 |.fld C f o,G,k,k',h,q=>by
  rw[wI]at q ⊢;refine aD o (λd _ q=>?_) q;unfold wy at q ⊢;split at q
  ·exact ⟨q.1,q.2.1,h _ _ q.2.2⟩
  ·exact q
 |.mcl f C m o es,G,k,k',h,q=>by
  rw[wJ]at q ⊢;exact aD o (λd _ q=>⟨q.1,cH es (λ_ _ q=>Spec.mono q h λ_ _ z=>z) q.2⟩) q
 |.mko C es,G,k,k',h,q=>by
  rw[wK]at q ⊢;exact cH es (λ_ _ q=>Spec.mono q h λ_ _ z=>z) q
 |.pp0 o,G,k,k',h,q=>by
  rw[wL]at q ⊢;refine aD o (λd _ q=>?_) q;unfold wz at q ⊢;split at q
  ·split at q
   ·split at q
    ·exact h _ _ q
    ·exact q
   ·exact q
  ·exact q
 |.rgt a,G,k,k',h,q=>by
  rw[wM]at q ⊢;refine aD a (λd _ q=>?_) q;split at q
  ·exact ⟨q.1,h _ _ q.2⟩
  ·exact q
 |.fst es,G,k,k',h,q=>by
  rw[wN]at q ⊢;exact xu es (λ_ _ q=>⟨q.1,h _ _ q.2⟩) q
 |.mth m o es,G,k,k',h,q=>by
  rw[d8]at q ⊢;exact aD o (λ_ _ q=>⟨q.1,cH es (λ_ _ q=>fZ h q) q.2⟩) q
 |.comp fz elt tg it cond N cap,G,k,k',h,q=>by
  rw[xj]at q ⊢;refine fu it (λitems g G1 q=>?_) q;refine sU ?_ (λds G2 z=>cW h z) items [] _ G1 q;intro d ρ' G' k k' hk z;refine di (λρ1 z=>?_) tg z;refine cQ cond (λb G2 z=>?_) z;cases b with
  |true=>exact aD elt (λy G3 z=>hk _ _ _ z) z
  |false=>exact hk _ _ _ z
 |.cm3 elt t1 i1 t2 i2 t3 i3 N cap,G,k,k',h,q=>by
  rw[xm]at q ⊢;refine fu i1 (λitems g G1 q=>?_) q;refine sV ?_ (λds _ G2 z=>⟨z.1,cW h z.2⟩) items [] _ G1 q;intro d acc ρ' G' k k' hk z;refine di (λρ1 z=>fu i2 (λitems g G1 q=>?_) z) t1 z;refine sV ?_ hk items _ _ G1 q;intro d acc ρ' G' k k' hk z;refine di (λρ1 z=>fu i3 (λitems g G1 q=>?_) z) t2 z;refine sV ?_ hk items _ _ G1 q;intro d acc ρ' G' k k' hk z;exact di (λρ1 z=>⟨z.1,aD elt (λy G3 z=>hk _ _ _ z) z.2⟩) t3 z
 |.frz a,G,k,k',h,q=>by
  rw[rT]at q ⊢;refine aD a (λx G1 q=>?_) q;split at q
  ·split at q
   ·exact h _ _ q
   ·exact q
  ·exact h _ _ q
theorem cQ{E:EK}{ρ:ak}:∀(x:Tx){G:DH}{k k':Bool->DH->Prop},(∀d G',k d G'->k' d G')->wpT Φ x E ρ G k->wpT Φ x E ρ G k'
 |.not a,G,k,k',h,q=>by rw[qQ]at q ⊢;exact cQ a (λ_ _ q=>h _ _ q) q
 |.boo isAnd e es,G,k,k',h,q=>by rw[qR]at q ⊢;exact cQ e (λ_ _ q=>sX es h q) q
 |.yes,G,k,k',h,q=>by rw[qT]at q ⊢;exact h _ _ q
 |.val a,G,k,k',h,q=>by
  rw[jt]at q ⊢;refine aD a (λx _ q=>?_) q;split at q
  ·exact h _ _ q
  ·exact q
theorem xu{E:EK}{ρ:ak}:∀(x:Exs){G:DH}{k k':List Nat->DH->Prop},(∀d G',k d G'->k' d G')->wpF Φ x E ρ G k->wpF Φ x E ρ G k'
 |.nil,G,k,k',h,q=>by rw[wO]at q ⊢;exact h _ _ q
 |.cons e es,G,k,k',h,q=>by
  rw[wQ]at q ⊢;refine aD e (λd _ q=>?_) q;split at q
  ·exact ⟨q.1,xu es (λ_ _ q=>h _ _ q) q.2⟩
  ·exact ⟨q.1,xu es (λ_ _ q=>h _ _ q) q.2⟩
  ·exact q
theorem cH{E:EK}{ρ:ak}:∀(x:Exs){G:DH}{k k':List D->DH->Prop},(∀d G',k d G'->k' d G')->aL Φ x E ρ G k->aL Φ x E ρ G k'
 |.nil,G,k,k',h,q=>by rw[iy]at q ⊢;exact h _ _ q
 |.cons e es,G,k,k',h,q=>by rw[gP]at q ⊢;exact aD e (λ_ _ q=>cH es (λ_ _ q=>h _ _ q) q) q
theorem sW{E:EK}{ρ:ak}:∀(x:Exs){isAnd b:Bool}{G:DH}{k k':Bool->DH->Prop},(∀d G',k d G'->k' d G')->wpB Φ x isAnd b E ρ G k->wpB Φ x isAnd b E ρ G k'
 |.nil,_,_,G,k,k',h,q=>by rw[qU]at q ⊢;exact h _ _ q
 |.cons e es,isAnd,b,G,k,k',h,q=>by
  rw[kh]at q ⊢;cases isAnd <;> cases b <;> first
   |exact h _ _ q
   | (refine aD e (λd _ q=>?_) q
      split at q
      ·exact sW es h q
      ·exact q)
theorem sX{E:EK}{ρ:ak}:∀(x:Txs){isAnd b:Bool}{G:DH}{k k':Bool->DH->Prop},(∀d G',k d G'->k' d G')->fY Φ x isAnd b E ρ G k->fY Φ x isAnd b E ρ G k'
 |.nil,_,_,G,k,k',h,q=>by rw[qW]at q ⊢;exact h _ _ q
 |.cons e es,isAnd,b,G,k,k',h,q=>by
  rw[kj]at q ⊢;cases isAnd <;> cases b <;> first
   |exact h _ _ q
   |exact cQ e (λd _ q=>sX es h q) q
theorem xF{E:EK}{ρ:ak}:∀(x:Ox){G:DH}{k k':Option Int->DH->Prop},(∀d G',k d G'->k' d G')->wpO Φ x E ρ G k->wpO Φ x E ρ G k'
 |.no,G,k,k',h,q=>by rw[qX]at q ⊢;exact h _ _ q
 |.ob a,G,k,k',h,q=>by
  rw[qY]at q ⊢;refine aD a (λx _ q=>?_) q;split at q
  ·exact h _ _ q
  ·exact q
theorem fu{E:EK}{ρ:ak}:∀(x:It'){G:DH}{k k':List D->Hld->DH->Prop},(∀d g G',k d g G'->k' d g G')->wpI Φ x E ρ G k->wpI Φ x E ρ G k'
 |.seq a,G,k,k',h,q=>by
  rw[qZ]at q ⊢;refine aD a (λx _ q=>?_) q;split at q
  ·exact h _ _ _ q
  ·exact q
 |.rng a,G,k,k',h,q=>by
  rw[q8]at q ⊢;refine aD a (λx _ q=>?_) q;split at q
  ·exact ⟨q.1,h _ _ _ q.2⟩
  ·exact q
 |.rev a,G,k,k',h,q=>by
  rw[rm]at q ⊢;refine aD a (λx _ q=>?_) q;split at q
  ·exact ⟨q.1,h _ _ _ q.2⟩
  ·exact q
 |.dwn a b d,G,k,k',h,q=>by
  rw[wD]at q ⊢;refine aD a (λx _ q=>aD b (λy _ q=>aD d (λz _ q=>?_) q) q) q;split at q
  ·exact ⟨q.1,h _ _ _ q.2⟩
  ·exact q
 |.rng2 a b,G,k,k',h,q=>by
  rw[q9]at q ⊢;refine aD a (λx _ q=>aD b (λy _ q=>?_) q) q;split at q
  ·exact ⟨q.1,h _ _ _ q.2⟩
  ·exact q
 |.enm a,G,k,k',h,q=>by
  rw[rn]at q ⊢;refine aD a (λx _ q=>?_) q;split at q
  ·exact h _ _ _ q
  ·exact q
 |.zip a b,G,k,k',h,q=>by
  rw[rz]at q ⊢;refine aD a (λx _ q=>aD b (λy _ q=>?_) q) q;split at q
  ·exact h _ _ _ q
  ·exact q
end
structure En.Le(D D':En):Prop where
 nx:∀ρ G,D.nx ρ G->D'.nx ρ G
 rt:∀d G,D.rt d G->D'.rt d G
 bk:∀ρ G,D.bk ρ G->D'.bk ρ G
 ct:∀ρ G,D.ct ρ G->D'.ct ρ G
theorem xG:∀(b:Tb){ρ:ak}{G:DH}{nx nx':ak->DH->Prop}{ex ex':Xn->ak->DH->Prop},(∀ρ G,nx ρ G->nx' ρ G)->(∀x ρ G,ex x ρ G->ex' x ρ G)->wpX Φ b ρ G nx ex->wpX Φ b ρ G nx' ex'
 |.call f es,ρ,G,nx,nx',ex,ex',h,h',q=>by rw[w5]at q ⊢;exact cH es (λ_ _ q=>Spec.mono q (λ_ _ z=>h _ _ z) λ_ _ z=>h' _ _ _ z) q
 |.pick f g i es,ρ,G,nx,nx',ex,ex',h,h',q=>by
  rw[wX]at q ⊢;exact aD (.var i) (λ_ _ q=>let ⟨b,e,q⟩:=q;⟨b,e,cH es (λ_ _ q=>Spec.mono q (λ_ _ z=>h _ _ z) λ_ _ z=>h' _ _ _ z) q⟩) q
 |.mcl f C m o es,ρ,G,nx,nx',ex,ex',h,h',q=>by
  rw[wY]at q ⊢;exact aD o (λ_ _ q=>⟨q.1,cH es (λ_ _ q=>Spec.mono q (λ_ _ z=>h _ _ z) λ_ _ z=>h' _ _ _ z) q.2⟩) q
 |.mko C es,ρ,G,nx,nx',ex,ex',h,h',q=>by rw[wZ]at q ⊢;exact cH es (λ_ _ q=>Spec.mono q (λ_ _ z=>h _ _ z) λ_ _ z=>h' _ _ _ z) q
 |.asg i f es,ρ,G,nx,nx',ex,ex',h,h',q=>by rw[xf]at q ⊢;exact cH es (λ_ _ q=>Spec.mono q (λ_ _ z=>h _ _ z) λ_ _ z=>h' _ _ _ z) q
 |.ite c a b,ρ,G,nx,nx',ex,ex',h,h',q=>by
  rw[xg]at q ⊢;refine cQ c (λt _ q=>?_) q;cases t with
  |true=>exact xG a h h' q
  |false=>exact xG b h h' q
mutual
theorem wpS_mono{E:EK}:∀(x:Sx){ρ:ak}{G:DH}{D D':En},D.Le D'->wpS Φ x E ρ G D->wpS Φ x E ρ G D'
 |.exp e,ρ,G,D,D',h,q=>by rw[rW]at q ⊢;exact aD e (λ_ _ q=>h.nx _ _ q) q
 |.asg t e,ρ,G,D,D',h,q=>by rw[gQ]at q ⊢;exact aD e (λ_ _ q=>di (λ_ q=>h.nx _ _ q) t q) q
 |.set o i e,ρ,G,D,D',h,q=>by rw[rY]at q ⊢;exact aD e (λ_ _ q=>aD o (λ_ _ q=>aD i (λ_ _ q=>xn (λ_ q=>h.nx _ _ q) q) q) q) q
 |.aug i op e,ρ,G,D,D',h,q=>by
  rw[rZ]at q ⊢;split at q
  ·exact aD e (λ_ _ q=>xq (λ_ q=>h.nx _ _ q) q) q
  ·exact q
 |.augs o i op e,ρ,G,D,D',h,q=>by
  rw[wR]at q ⊢;exact aD o (λ_ _ q=>aD i (λ_ _ q=>sS (λ_ q=>aD e (λ_ _ q=>xq (λ_ q=>xn (λ_ q=>h.nx _ _ q) q) q) q) q) q) q
 |.ret e,ρ,G,D,D',h,q=>by rw[sr]at q ⊢;exact aD e (λ_ _ q=>h.rt _ _ q) q
 |.rtn,ρ,G,D,D',h,q=>by rw[su]at q ⊢;exact h.rt _ _ q
 |.ite c a b,ρ,G,D,D',h,q=>by
  rw[sy]at q ⊢;refine cQ c (λt _ q=>?_) q;cases t with
  |true=>exact dj a h q
  |false=>exact dj b h q
 |.for_ t it body,ρ,G,D,D',h,q=>by
  rw[DY]at q ⊢;exact fu it (λitems g G1 q=>Ei (λd ρ' G' k k' hk z=>di (λρ1 z=>dj body (D:={ D with nx:=k,ct:=k,bk:=D.nx }) (D':={ D' with nx:=k',ct:=k',bk:=D'.nx }) ⟨hk,h.rt,h.nx,hk⟩ z) t z) h.nx items ρ G1 q) q
 |.whl c body,ρ,G,D,D',h,q=>by
  rw[Ea]at q ⊢;obtain ⟨n,q⟩:=q;refine ⟨n,?_⟩;refine Ej ?_ ?_ h.nx n ρ G q
  ·exact λρ' G' k k' hk z=>cQ c hk z
  ·exact λρ' G' k k' hk z=>dj body (D:={ D with nx:=k,ct:=k,bk:=D.nx }) (D':={ D' with nx:=k',ct:=k',bk:=D'.nx }) ⟨hk,h.rt,h.nx,hk⟩ z
 |.pas,ρ,G,D,D',h,q=>by rw[sE]at q ⊢;exact h.nx _ _ q
 |.brk,ρ,G,D,D',h,q=>by rw[sG]at q ⊢;exact h.bk _ _ q
 |.cnt,ρ,G,D,D',h,q=>by rw[sH]at q ⊢;exact h.ct _ _ q
 |.nev,ρ,G,D,D',h,q=>by rw[sJ]at q;exact q.elim
 |.rse C es,ρ,G,D,D',h,q=>by rw[kI]at q ⊢;exact q
 |.tryc f es C i b,ρ,G,D,D',h,q=>by rw[wV]at q ⊢;exact cH es (λ_ _ q=>Spec.mono q (λ_ _ z=>h.nx _ _ z) λ_ _ z=>⟨z.1,z.2.1,h.nx _ _ z.2.2⟩) q
 |.tryx b C hd xs,ρ,G,D,D',h,q=>by rw[wW]at q ⊢;exact xG b (λ_ _ z=>h.nx _ _ z) (λ_ _ _ z=>⟨z.1,z.2.1,z.2.2.1,h.nx _ _ z.2.2.2⟩) q
theorem dj{E:EK}:∀(x:Sxs){ρ:ak}{G:DH}{D D':En},D.Le D'->au Φ x E ρ G D->au Φ x E ρ G D'
 |.nil,ρ,G,D,D',h,q=>by rw[ju]at q ⊢;exact h.nx _ _ q
 |.cons s r,ρ,G,D,D',h,q=>by rw[jw]at q ⊢;exact wpS_mono s (D:={ D with nx:=λρ' G'=>au Φ r E ρ' G' D }) (D':={ D' with nx:=λρ' G'=>au Φ r E ρ' G' D' }) ⟨λ_ _ z=>dj r h z,h.rt,h.bk,h.ct⟩ q
end
end
def PV(K:PF)(H:Hp)(F:FZ)(Q:VK):D->DH->Prop:=λd G'=>∀H' F' v,Ext H F H' F'->R K H' F' G'->Rep K H' F' d v->Q v H'
def PB(K:PF)(H:Hp)(F:FZ)(Q:Bool->Hp->Prop):Bool->DH->Prop:=λb G'=>∀H' F',Ext H F H' F'->R K H' F' G'->Q b H'
noncomputable def PLs(K:PF)(H:Hp)(F:FZ)(Q:List V->Hp->Prop):List D->DH->Prop:=λds G'=>∀H' F' vs,Ext H F H' F'->R K H' F' G'->Reps K H' F' ds vs->Q vs H'
section
variable {K:PF} {H:Hp} {F:FZ} {G:DH} {Q:VK}
theorem PV.now{d:D}{v:V}(h:PV K H F Q d G)(r:R K H F G)(q:Rep K H F d v):Q v H:=h H F v (Ext.refl H F) r q
theorem fB{fz:Bool}{ds:List D}{vs:List V}(h:mk fz ds G (PV K H F Q))(r:R K H F G)(t:Reps K H F ds vs)(p:Addr)(hp:H p=none):Q (.ref p) (upd H p (.lst vs)):=by
 cases fz with
 |true=>exact h _ _ _ (vY r hp) (r.newF hp) (Zc r hp t)
 |false=>exact h p (r.free hp) _ _ _ (eY r hp) (r.newL hp t) rfl
theorem kJ{ds:List D}{vs:List V}(h:PV K H F Q (.tup ds) G)(r:R K H F G)(t:Reps K H F ds vs)(p:Addr)(hp:H p=none):Q (.ref p) (upd H p (.tup vs)):=
 h _ _ _ (eY r hp) (r.new hp) (vZ r hp t)
end
theorem szl:sz<=sizeLine:=by rw[sizeLine_eq];decide
theorem cR{n:Nat}(h:n<=sz):n<=sizeLine:=b6 h szl
def rB2(K:PF)(f:D->D->DH->(D->DH->Prop)->Prop):R2:=λx y H Q=>∃F G a b,R K H F G/\Rep K H F a x/\Rep K H F b y/\f (view G a) (view G b) G (PV K H F Q)
section
variable {X:Cx}
theorem Zh:OpR X (binaryOp .Add) (λx y H Q=>∃a b xs ys,x=.ref a/\y=.ref b/\SqL X.K H a xs/\SqL X.K H b ys/\xs.length+ys.length<=sizeLine/\∀p,H p=none->Q (.ref p) (upd H p (.lst (xs++ys)))):=by
 intro pins s σ H x y v u Q I rx ry h;obtain ⟨a,b,xs,ys,rfl,rfl,ha,hb,hz,q⟩:=h;cases rx;cases ry;obtain ⟨its,r1,p1,_⟩:=I.list ha;obtain ⟨its2,r2,p2,_⟩:=I.list hb;obtain ⟨⟨cls,dd,data,sl⟩,ho,hc,n,hd⟩:=p1.isList;obtain ⟨⟨cls2,dd2,data2,sl2⟩,ho2,hc2,n2,hd2⟩:=p2.isList;simp only at hc hd hc2 hd2;subst hc hd hc2 hd2;have e:its.toArray++its2.toArray=(its++its2).toArray:=by simp
 refine concat_meets ⟨_,ho,rfl⟩ ⟨_,ho2,rfl⟩ noFill_list_add seq_list_add PySem.F.slot_list_add PySem.F.entry_list_add (PySem.F.args_list_add_2 _ _)
  (list_addW a b its.toArray its2.toArray n n2 dd dd2 sl sl2 (by rw[av,av,<-r1.length,<-r2.length];exact hz)) ⟨ho,ho2,?_⟩
 rw[e];exact ⟨.ref _,_,I.lnew (t':=s.toks) (r1.append r2) (by rw[ar];exact hz),rfl,q _ I.fresh⟩
theorem Zi:OpR X (binaryOp .Add) (λx y H Q=>∃a b ys,x=.ref a/\y=.ref b/\SqT X.K H a []/\SqT X.K H b ys/\Q (.ref b) H):=by
 intro pins s σ H x y v u Q I rx ry h;obtain ⟨a,b,ys,rfl,rfl,ha,hb,q⟩:=h;cases rx;cases ry;obtain ⟨its,r1,p1,_⟩:=I.tuple ha;obtain ⟨its2,r2,p2,_⟩:=I.tuple hb;obtain ⟨⟨cls,dd,data,sl⟩,ho,hc,n,hd⟩:=id p1;obtain ⟨⟨cls2,dd2,data2,sl2⟩,ho2,hc2,n2,hd2⟩:=id p2;simp only at hc hd hc2 hd2;subst hc hd hc2 hd2;cases r1;exact concat_meets ⟨_,ho,rfl⟩ ⟨_,ho2,rfl⟩ noFill_tuple_add seq_tuple_add PySem.F.slot_tuple_add PySem.F.entry_tuple_add (PySem.F.args_tuple_add_2 _ _)
   (tuple_addW0 a b _ its2.toArray n n2 dd dd2 sl sl2 (by simp)) ⟨ho,ho2,⟨.ref b,H,I,rfl,q⟩⟩
theorem xH{K:PF}{H:Hp}{F:FZ}{ds:List D}{vs:List V}(t:Reps K H F ds vs):ds=[]↔vs=[]:=by
 have:=t.length;constructor
 ·intro e;subst e;exact dv.mp this.symm
 ·intro e;subst e;exact dv.mp this
theorem Zj{x:Str}{n:Nat}(h1:n<=1000)(h:x.length * n<=sz):MulOk x (n:Int):=by
 have h2:((x.length * n:Nat):Int)<=((1000000:Nat):Int):=Int.ofNat_le.mpr h;rw[Int.natCast_mul]at h2;refine ⟨?_,?_,?_⟩
 ·rw[cm (by omega),cm (by omega)];rfl
 ·intro hn _ hh;have hp:(0:Int) < n:=by omega
  have h3:(x.length:Int)<=(2 ^ 63 - 1) / n:=(Int.le_ediv_iff_mul_le hp).mpr (Int.le_trans h2 (by decide));exact absurd hh (Int.not_lt.mpr h3)
 ·intro _ _;unfold Builtin.Str.tooLong;rw[sizeLine_eq,dP];exact cm (by have:sz=1000000:=rfl;omega)
theorem Ek(l:List Nat):∀(n:Nat)(acc:List Nat),(List.replicate n l.toArray).foldl (· ++ ·) acc.toArray=(acc++reps l n).toArray
 |0,acc=>by simp[reps]
 |n+1,acc=>by
  rw[cp,List.foldl_cons];have e:acc.toArray++l.toArray=(acc++l).toArray:=by simp
  rw[e,Ek l n (acc++l)];unfold reps;rw[cp,e6,cr]
theorem Zk(n:Nat):reps ([]:List Nat) n=[]:=by
 unfold reps;induction n with
 |zero=>rfl
 |succ n ih=>rw[cp,e6,ih];rfl
theorem Zm{α:Type}(l:List α)(n:Nat):(reps l n).length=n * l.length:=len_rep l n
theorem Zn(l:List Nat)(n:Nat):Txt.mul (tx l) (n:Int)=tx (reps l n):=by
 unfold Txt.mul;by_cases h:(n:Int) < 1
 ·rw[if_pos h];have:n=0:=by omega
  subst this;rfl
 ·rw[if_neg h];by_cases h2:((n:Int)==1||(tx l).length==0)=true
  ·rw[if_pos h2];rw[cq]at h2;rcases h2 with h2 |h2
   ·have:n=1:=by have:=eq_of_beq h2;omega
    subst this;simp[reps]
   ·have h3:=eq_of_beq h2;rw[bZ]at h3;have:l=[]:=dv.mp h3;subst this;rw[Zk]
  ·rw[if_neg h2];have e:=Ek l n [];rw[List.nil_append]at e;exact eA Str.mk (by simpa using e)
theorem Zo(op:Operator)(fz:Bool):OpR X (binaryOp op) (rB2 X.K (cF op fz)):=by
 intro pins s σ H x y v u Q I rx ry h;obtain ⟨F,G,a,b,r,ra,rb,h⟩:=h;generalize ea:view G a=va at h;generalize eb:view G b=vb at h;have twoI:∀{p:Int->Int->Prop},gK va vb p->∃i j,x=.int i/\y=.int j/\p i j:=λ{p} h=>by
  obtain ⟨i,j,rfl,rfl,h⟩:=Eb h;cases dX ea;cases dX eb;exact ⟨i,j,ra,rb,h⟩
 cases op with
 |Add=>
  have h:jh fz va vb G _:=h;unfold jh at h;cases va with
  |int _=>cases vb with
   |int _=>
    cases dX ea;cases dX eb;have ha:x=.int _:=ra;have hb:y=.int _:=rb;subst ha;subst hb;exact V8 pins s σ H _ _ v u Q I rx ry ⟨_,_,rfl,rfl,h.now r rfl⟩
   |_=>exact h.elim
  |str _=>cases vb with
   |str _=>
    cases gJ ea;cases gJ eb;obtain ⟨ha,la⟩:=ra;obtain ⟨hb,lb⟩:=rb;subst ha;subst hb;refine Wq pins s σ H _ _ v u Q I rx ry ⟨_,_,rfl,rfl,?_,?_⟩
    ·rw[bZ,bZ];exact cR h.1
    ·rw[qC];exact h.2.now r ⟨rfl,by rw[ar];exact h.1⟩
   |_=>exact h.elim
  |lst _=>cases vb with
   |lst _=>
    obtain ⟨p,vs,rfl,q1,t1⟩:=Rep.list r ra ea;obtain ⟨p',vs',rfl,q2,t2⟩:=Rep.list r rb eb;exact Zh pins s σ H _ _ v u Q I rx ry ⟨p,p',vs,vs',rfl,rfl,q1,q2,by rw[<-t1.length,<-t2.length];exact cR h.1,fB h.2 r (t1.append t2)⟩
   |_=>exact h.elim
  |tup xs=>cases vb with
   |tup ys=>
    cases gH ea;cases gH eb;obtain ⟨p,vs,rfl,q1,t1⟩:=id ra;obtain ⟨p',vs',rfl,q2,t2⟩:=id rb;by_cases hx:vs=[]
    ·subst hx;have:xs=[]:=(xH t1).mpr rfl;subst this;exact Zi pins s σ H _ _ v u Q I rx ry ⟨p,p',vs',rfl,rfl,q1.sq,q2.sq,h.2.now r rb⟩
    ·refine W8 pins s σ H _ _ v u Q I rx ry ⟨p,p',vs,vs',rfl,rfl,q1.sq,q2.sq,hx,by rw[<-t1.length,<-t2.length];exact cR h.1,λe=>?_,λ_=>kJ h.2 r (t1.append t2)⟩;subst e;have:ys=[]:=(xH t2).mpr rfl;subst this;have h2:=h.2;rw[fN]at h2;exact h2.now r ra
   |_=>exact h.elim
  |_=>exact h.elim
 |Sub=>
  obtain ⟨i,j,rfl,rfl,h⟩:=twoI h;exact V9 pins s σ H _ _ v u Q I rx ry ⟨_,_,rfl,rfl,h.now r rfl⟩
 |Mult=>
  have h:ji fz va vb G _:=h;unfold ji at h;cases vb with
  |int _=>cases va with
   |int _=>
    cases dX ea;cases dX eb;have ha:x=.int _:=ra;have hb:y=.int _:=rb;subst ha;subst hb;exact Wa pins s σ H _ _ v u Q I rx ry ⟨_,_,rfl,rfl,h.1,h.2.now r rfl⟩
   |str _=>
    cases gJ ea;cases dX eb;obtain ⟨ha,la⟩:=ra;have hb:y=.int _:=rb;subst ha;subst hb;obtain ⟨h0,h1,h2,h3⟩:=h;obtain ⟨n,rfl⟩:=cS h0;rw[dP]at h2 h3;refine X3 pins s σ H _ _ v u Q I rx ry ⟨_,_,rfl,rfl,Zj (by omega) (by rw[bZ];exact h2),?_⟩;rw[Zn];exact h3.now r ⟨rfl,by rw[Zm,Nat.mul_comm];exact h2⟩
   |tup _=>
    cases gH ea;cases dX eb;obtain ⟨p,vs,rfl,q1,t1⟩:=ra;have hb:y=.int _:=rb;subst hb;obtain ⟨h0,h1,h2,h3,h4⟩:=h;refine YW pins s σ H _ _ v u Q I rx ry ⟨p,_,vs,rfl,rfl,q1.sq,λe=>h2 ((xH t1).mpr e),h0,h1,by rw[<-t1.length];exact cR h3,?_⟩;exact kJ h4 r (t1.rep _)
   |lst _=>
    cases dX eb;have hb:y=.int _:=rb;subst hb;obtain ⟨p,vs,rfl,q1,t1⟩:=ra.list r ea;obtain ⟨h0,h1,h2,h3⟩:=h;exact Y4 pins s σ H _ _ v u Q I rx ry ⟨p,_,vs,rfl,rfl,q1,h0,h1,by rw[<-t1.length];exact cR h2,fB h3 r (t1.rep _)⟩
   |_=>exact h.elim
  |_=>exact h.elim
 |FloorDiv=>
  obtain ⟨i,j,rfl,rfl,h⟩:=twoI h;exact YH pins s σ H _ _ v u Q I rx ry ⟨_,_,rfl,rfl,h.1,h.2.now r rfl⟩
 |Mod=>
  obtain ⟨i,j,rfl,rfl,h⟩:=twoI h;exact Wb pins s σ H _ _ v u Q I rx ry ⟨_,_,rfl,rfl,h.1,h.2.now r rfl⟩
 |Pow=>
  obtain ⟨i,j,rfl,rfl,h⟩:=twoI h;exact Wc pins s σ H _ _ v u Q I rx ry ⟨_,_,rfl,rfl,h.1,h.2.now r rfl⟩
 |_=>exact h.elim
end
mutual
theorem gb:∀{d:D},nr d=true->deq d d=true
 |.non,_=>rfl
 |.bl b,_=>by simp[deq]
 |.int i,_=>by simp[deq]
 |.str l,_=>by simp[deq]
 |.tup xs,h=>by rw[deq];exact xJ (by rw[nr]at h;exact h)
 |.lst xs,h=>by rw[deq];exact xJ (by rw[nr]at h;exact h)
 |.ref a,h=>by rw[nr]at h;cases h
 |.scr a,h=>by rw[nr]at h;cases h
 |.exn a,h=>by rw[nr]at h;cases h
 |.obj _ _ _,h=>by rw[nr]at h;cases h
theorem xJ:∀{ds:List D},nrs ds=true->bL ds ds=true
 |[],_=>rfl
 |d::ds,h=>by
  rw[nrs,ae]at h;rw[bL,gb h.1,xJ h.2];rfl
end
theorem sY:∀(xs ys:List D),bL xs ys=((List.range (min xs.length ys.length)).all (λj=>deq (xs.getD j .non) (ys.getD j .non))&&xs.length==ys.length)
 |[],[]=>rfl
 |[],y::ys=>by simp[bL]
 |x::xs,[]=>by simp[bL]
 |x::xs,y::ys=>by
  have e:min (x::xs).length (y::ys).length=(min xs.length ys.length)+1:=by simp only[cf];omega
  rw[bL,sY xs ys,e,List.range_succ_eq_map,List.all_cons,List.all_map];simp only[List.getD_cons_zero,cf,Bool.and_assoc];congr 1;congr 1;rw[Bool.eq_iff_iff];simp
theorem Zq{xs ys:List D}(h:xs.length≠ys.length):bL xs ys=false:=by rw[sY];rw[show (xs.length==ys.length)=false from ef.mpr h,Bool.and_false]
theorem kO:∀{xs:List D}{i:Nat},nrs xs=true->nr (xs.getD i .non)=true
 |[],_,_=>rfl
 |x::xs,0,h=>by rw[nrs,ae]at h;exact h.1
 |x::xs,i+1,h=>by rw[nrs,ae]at h;rw[List.getD_cons_succ];exact kO h.2
theorem kW:∀{xs:List D}{i:Nat},dpt (xs.getD i .non)<=aW xs
 |[],_=>d3 _
 |x::xs,0=>by rw[aW,List.getD_cons_zero];omega
 |x::xs,i+1=>by rw[aW,List.getD_cons_succ];have:=@kW xs i;omega
section
variable {X:Cx} {pins:List (Addr×Obj)} {σ:L2.St} {H:Hp} {s:Shared} {F:FZ}
mutual
theorem sZ(I:Inv X pins σ H s):∀{d d':D}{v:V},nr d=true->nr d'=true->Rep X.K H F d v->Rep X.K H F d' v->d=d'
 |.non,d',v,_,n',h,h'=>by
  have h:v=.non:=h;subst h;cases d' with
  |non=>rfl
  |bl _=>simp only[Rep]at h';cases h'
  |int _=>simp only[Rep]at h';cases h'
  |ref _=>simp only[Rep]at h';cases h'
  |scr _=>rw[nr]at n';cases n'
  |exn _=>rw[nr]at n';cases n'
  |obj _ _ _=>rw[nr]at n';cases n'
  |str _=>simp only[Rep]at h';obtain ⟨e,_⟩:=h';cases e
  |tup _=>simp only[Rep]at h';obtain ⟨_,_,e,_⟩:=h';cases e
  |lst _=>simp only[Rep]at h';obtain ⟨_,_,e,_⟩:=h';cases e
 |.bl b,d',v,_,n',h,h'=>by
  have h:v=.bl b:=h;subst h;cases d' with
  |non=>simp only[Rep]at h';cases h'
  |bl _=>simp only[Rep]at h';cases h';rfl
  |int _=>simp only[Rep]at h';cases h'
  |ref _=>simp only[Rep]at h';cases h'
  |scr _=>rw[nr]at n';cases n'
  |exn _=>rw[nr]at n';cases n'
  |obj _ _ _=>rw[nr]at n';cases n'
  |str _=>simp only[Rep]at h';obtain ⟨e,_⟩:=h';cases e
  |tup _=>simp only[Rep]at h';obtain ⟨_,_,e,_⟩:=h';cases e
  |lst _=>simp only[Rep]at h';obtain ⟨_,_,e,_⟩:=h';cases e
 |.int b,d',v,_,n',h,h'=>by
  have h:v=.int b:=h;subst h;cases d' with
  |non=>simp only[Rep]at h';cases h'
  |bl _=>simp only[Rep]at h';cases h'
  |int _=>simp only[Rep]at h';cases h';rfl
  |ref _=>simp only[Rep]at h';cases h'
  |scr _=>rw[nr]at n';cases n'
  |exn _=>rw[nr]at n';cases n'
  |obj _ _ _=>rw[nr]at n';cases n'
  |str _=>simp only[Rep]at h';obtain ⟨e,_⟩:=h';cases e
  |tup _=>simp only[Rep]at h';obtain ⟨_,_,e,_⟩:=h';cases e
  |lst _=>simp only[Rep]at h';obtain ⟨_,_,e,_⟩:=h';cases e
 |.str l,d',v,_,n',h,h'=>by
  obtain ⟨h,_⟩:=h;subst h;cases d' with
  |str l'=>
   obtain ⟨e,_⟩:=h';injection e with e;rw[CN e]
  |non=>simp only[Rep]at h';cases h'
  |bl _=>simp only[Rep]at h';cases h'
  |int _=>simp only[Rep]at h';cases h'
  |ref _=>simp only[Rep]at h';cases h'
  |scr _=>rw[nr]at n';cases n'
  |exn _=>rw[nr]at n';cases n'
  |obj _ _ _=>rw[nr]at n';cases n'
  |tup _=>simp only[Rep]at h';obtain ⟨_,_,e,_⟩:=h';cases e
  |lst _=>simp only[Rep]at h';obtain ⟨_,_,e,_⟩:=h';cases e
 |.tup xs,d',v,n,n',h,h'=>by
  obtain ⟨a,vs,e,q,t⟩:=h;subst e;cases d' with
  |tup ys=>
   obtain ⟨a',vs',e,q',t'⟩:=h';injection e with e;subst e;have:=I.tuple_inj q.sq q'.sq;subst this;rw[nr]at n n';rw[xK I n n' t t']
  |lst ys=>
   obtain ⟨a',vs',e,q',t'⟩:=h';injection e with e;subst e;obtain ⟨its,_,⟨o,e1,c1,_⟩,_⟩:=I.tuple q.sq;obtain ⟨its',_,⟨o',n',e2,c2,_⟩,_⟩:=I.list q'.sq;rw[e1]at e2;cases e2;rw[c1]at c2;exact absurd c2 (by ac_rfl)
  |ref _=>rw[nr]at n';cases n'
  |scr _=>rw[nr]at n';cases n'
  |exn _=>rw[nr]at n';cases n'
  |obj _ _ _=>rw[nr]at n';cases n'
  |str _=>simp only[Rep]at h';obtain ⟨e,_⟩:=h';cases e
  |non=>simp only[Rep]at h';cases h'
  |bl _=>simp only[Rep]at h';cases h'
  |int _=>simp only[Rep]at h';cases h'
 |.lst xs,d',v,n,n',h,h'=>by
  obtain ⟨a,vs,e,q,t⟩:=h;subst e;cases d' with
  |lst ys=>
   obtain ⟨a',vs',e,q',t'⟩:=h';injection e with e;subst e;have:=I.list_inj q.sq q'.sq;subst this;rw[nr]at n n';rw[xK I n n' t t']
  |tup ys=>
   obtain ⟨a',vs',e,q',t'⟩:=h';injection e with e;subst e;obtain ⟨its,_,⟨o,e1,c1,_⟩,_⟩:=I.tuple q'.sq;obtain ⟨its',_,⟨o',n',e2,c2,_⟩,_⟩:=I.list q.sq;rw[e1]at e2;cases e2;rw[c1]at c2;exact absurd c2 (by ac_rfl)
  |ref _=>rw[nr]at n';cases n'
  |scr _=>rw[nr]at n';cases n'
  |exn _=>rw[nr]at n';cases n'
  |obj _ _ _=>rw[nr]at n';cases n'
  |str _=>simp only[Rep]at h';obtain ⟨e,_⟩:=h';cases e
  |non=>simp only[Rep]at h';cases h'
  |bl _=>simp only[Rep]at h';cases h'
  |int _=>simp only[Rep]at h';cases h'
 |.ref a,d',v,n,_,_,_=>by rw[nr]at n;cases n
 |.scr a,d',v,n,_,_,_=>by rw[nr]at n;cases n
 |.exn a,d',v,n,_,_,_=>by rw[nr]at n;cases n
 |.obj _ _ _,d',v,n,_,_,_=>by rw[nr]at n;cases n
theorem xK(I:Inv X pins σ H s):∀{ds ds':List D}{vs:List V},nrs ds=true->nrs ds'=true->Reps X.K H F ds vs->Reps X.K H F ds' vs->ds=ds'
 |[],[],_,_,_,_,_=>rfl
 |[],_::_,_,_,_,h,⟨v,r,e,_⟩=>by have h:_=[]:=h;rw[h]at e;cases e
 |_::_,[],_,_,_,⟨v,r,e,_⟩,h=>by have h:_=[]:=h;rw[h]at e;cases e
 |d::ds,d'::ds',_,n,n',⟨v,r,e,h,t⟩,⟨v',r',e',h',t'⟩=>by
  subst e;injection e' with e1 e2;subst e1;subst e2;rw[nrs,ae]at n n';rw[sZ I n.1 n'.1 h h',xK I n.2 n'.2 t t']
end
theorem tB{I:Inv X pins σ H s}{ds:List D}{vs:List V}{its:List Value}(t:Reps X.K H F ds vs)(r:Vals vs its)(j:Nat)(h:j < its.length):∃v,Rep X.K H F (ds.getD j .non) v/\RelV v its[j]:=by
 have hl:j < ds.length:=by rw[t.length,r.length];exact h
 have e1:ds[j]?=some (ds.getD j .non):=by rw[ee,a7 hl];rfl
 obtain ⟨v,e2,r2⟩:=t.get e1;obtain ⟨u,e3,r3⟩:=r.get e2;rw[a7 h]at e3;cases e3;exact ⟨v,r2,r3⟩
theorem Zr(a b:List Nat):(tx a==tx b)=(a==b):=by rw[Bool.eq_iff_iff,aI,aI];exact ⟨λh=>CN h,λh=>by rw[h]⟩
theorem Zt(I:Inv X pins σ H s){n:Nat}{A:Around}{xs ys:List D}{a a':Addr}{vs vs':List V}{its its':List Value}
  (ih:∀m,m < n->∀(A:Around)(d d':D)(v v':V)(u u':Value),A.units+m < cLine->min (dpt d) (dpt d')<=m->nr d=true->nr d'=true->Rep X.K H F d v->Rep X.K H F d' v'->RelV v u->RelV v' u'->
   SeqAt.RcAt A s u u' (deq d d')/\SeqAt.EqAt A s u u' (deq d d')/\SeqAt.RcNeAt A s u u' (!deq d d'))
  (hu:A.units+n < cLine) (hd:min (dpt (.tup xs)) (dpt (.tup ys))<=n) (n1:nr (.tup xs)=true) (n2:nr (.tup ys)=true) (h:Rep X.K H F (.tup xs) (.ref a)) (h':Rep X.K H F (.tup ys) (.ref a'))
  (pt:s.heap.IsTuple a its.toArray) (pt':s.heap.IsTuple a' its'.toArray) (rv:Vals vs its) (rv':Vals vs' its') (tt:Reps X.K H F xs vs) (tt':Reps X.K H F ys vs'):
  SeqAt.RcAt A s (.ref a) (.ref a') (deq (.tup xs) (.tup ys))/\SeqAt.EqAt A s (.ref a) (.ref a') (deq (.tup xs) (.tup ys))/\SeqAt.RcNeAt A s (.ref a) (.ref a') (!deq (.tup xs) (.tup ys)):=by
 have hd':min (aW xs+1) (aW ys+1)<=n:=by rw[dpt,dpt]at hd;exact hd
 have hn1:nrs xs=true:=by rw[nr]at n1;exact n1
 have hn2:nrs ys=true:=by rw[nr]at n2;exact n2
 have l1:its.toArray.size=xs.length:=by rw[av,<-rv.length,tt.length]
 have l2:its'.toArray.size=ys.length:=by rw[av,<-rv'.length,tt'.length]
 have he:∀j (h1:j < its.toArray.size) (h2:j < its'.toArray.size),SeqAt.EqAt A.in1 s its.toArray[j] its'.toArray[j] (deq (xs.getD j .non) (ys.getD j .non)):=by intro j h1 h2;obtain ⟨w1,q1,q2⟩:=tB (I:=I) tt rv j (by simpa using h1);obtain ⟨w2,q3,q4⟩:=tB (I:=I) tt' rv' j (by simpa using h2);have d1:=@kW xs j;have d2:=@kW ys j;exact (ih (n - 1) (by omega) A.in1 _ _ w1 w2 _ _ (by show A.units+1+(n - 1) < cLine;omega) (by omega) (kO hn1) (kO hn2) q1 q3 (by simpa using q2) (by simpa using q4)).2.1
 have e:deq (.tup xs) (.tup ys)=((List.range (min its.toArray.size its'.toArray.size)).all (λj=>deq (xs.getD j .non) (ys.getD j .non))&&its.toArray.size==its'.toArray.size):=by rw[deq,sY,l1,l2]
 have rc:SeqAt.RcAt A s (.ref a) (.ref a') (deq (.tup xs) (.tup ys)):=by rw[e];exact .tuples pt pt' (by omega) he
 refine ⟨rc,?_,by rw[e];exact .tuples pt pt' (by omega) he⟩;by_cases z:a=a'
 ·subst z;have:=sZ I n1 n2 h h';rw[<-this,gb n1];exact .same _
 ·exact .of_refs z rc
theorem Zu(I:Inv X pins σ H s){n:Nat}{A:Around}{xs ys:List D}{a a':Addr}{vs vs':List V}{its its':List Value}
  (ih:∀m,m < n->∀(A:Around)(d d':D)(v v':V)(u u':Value),A.units+m < cLine->min (dpt d) (dpt d')<=m->nr d=true->nr d'=true->Rep X.K H F d v->Rep X.K H F d' v'->RelV v u->RelV v' u'->
   SeqAt.RcAt A s u u' (deq d d')/\SeqAt.EqAt A s u u' (deq d d')/\SeqAt.RcNeAt A s u u' (!deq d d'))
  (hu:A.units+n < cLine) (hd:min (dpt (.lst xs)) (dpt (.lst ys))<=n) (n1:nr (.lst xs)=true) (n2:nr (.lst ys)=true) (h:a=a'->xs=ys)
  (pt:s.heap.IsList a its.toArray) (pt':s.heap.IsList a' its'.toArray) (rv:Vals vs its) (rv':Vals vs' its') (tt:Reps X.K H F xs vs) (tt':Reps X.K H F ys vs'):
  SeqAt.RcAt A s (.ref a) (.ref a') (deq (.lst xs) (.lst ys))/\SeqAt.EqAt A s (.ref a) (.ref a') (deq (.lst xs) (.lst ys))/\SeqAt.RcNeAt A s (.ref a) (.ref a') (!deq (.lst xs) (.lst ys)):=by
 have hd':min (aW xs+1) (aW ys+1)<=n:=by rw[dpt,dpt]at hd;exact hd
 have hn1:nrs xs=true:=by rw[nr]at n1;exact n1
 have hn2:nrs ys=true:=by rw[nr]at n2;exact n2
 have l1:its.toArray.size=xs.length:=by rw[av,<-rv.length,tt.length]
 have l2:its'.toArray.size=ys.length:=by rw[av,<-rv'.length,tt'.length]
 have eqs:∀(rc:SeqAt.RcAt A s (.ref a) (.ref a') (deq (.lst xs) (.lst ys))),SeqAt.EqAt A s (.ref a) (.ref a') (deq (.lst xs) (.lst ys)):=λrc=>by
  by_cases z:a=a'
  ·have:=h z;subst z;subst this;rw[gb n1];exact .same _
  ·exact .of_refs z rc
 by_cases hl:xs.length=ys.length
 ·have he:∀j (h1:j < its.toArray.size) (h2:j < its'.toArray.size),SeqAt.EqAt A.in1 s its.toArray[j] its'.toArray[j] (deq (xs.getD j .non) (ys.getD j .non)):=by
   intro j h1 h2;obtain ⟨w1,q1,q2⟩:=tB (I:=I) tt rv j (by simpa using h1);obtain ⟨w2,q3,q4⟩:=tB (I:=I) tt' rv' j (by simpa using h2);have d1:=@kW xs j;have d2:=@kW ys j;exact (ih (n - 1) (by omega) A.in1 _ _ w1 w2 _ _ (by show A.units+1+(n - 1) < cLine;omega) (by omega) (kO hn1) (kO hn2) q1 q3 (by simpa using q2) (by simpa using q4)).2.1
  have e:deq (.lst xs) (.lst ys)=(List.range its.toArray.size).all (λj=>deq (xs.getD j .non) (ys.getD j .non)):=by rw[deq,sY,l1,hl,Nat.min_self];simp
  have rc:SeqAt.RcAt A s (.ref a) (.ref a') (deq (.lst xs) (.lst ys)):=by rw[e];exact .lists pt pt' (by rw[l1,l2];exact hl) (by omega) he
  exact ⟨rc,eqs rc,by rw[e];exact .lists pt pt' (by rw[l1,l2];exact hl) (by omega) he⟩
 ·have e:deq (.lst xs) (.lst ys)=false:=by rw[deq];exact Zq hl
  have hne:(its.toArray.size != its'.toArray.size)=true:=by rw[l1,l2];simpa using hl
  have rc:SeqAt.RcAt A s (.ref a) (.ref a') (deq (.lst xs) (.lst ys)):=by rw[e];exact .lists_lengths pt pt' hne (by omega)
  exact ⟨rc,eqs rc,by rw[e];exact .lists_lengths pt pt' hne (by omega)⟩
theorem xM(I:Inv X pins σ H s):∀(n:Nat)(A:Around)(d d':D)(v v':V)(u u':Value),A.units+n < cLine->min (dpt d) (dpt d')<=n->nr d=true->nr d'=true->Rep X.K H F d v->Rep X.K H F d' v'->RelV v u->RelV v' u'->
  SeqAt.RcAt A s u u' (deq d d')/\SeqAt.EqAt A s u u' (deq d d')/\SeqAt.RcNeAt A s u u' (!deq d d'):=by
 intro n;induction n using Nat.strongRecOn with
 |_ n ih=>
  intro A d d' v v' u u' hu hd n1 n2 h h' r r';have hu0:A.units < cLine:=by omega
  cases d with
  |ref a=>rw[nr]at n1;cases n1
  |scr a=>rw[nr]at n1;cases n1
  |exn a=>rw[nr]at n1;cases n1
  |obj _ _ _=>rw[nr]at n1;cases n1
  |non=>
   have hv:v=.non:=h;subst hv;have hr:u=Value.none:=r;subst hr;cases d' with
   |ref a=>rw[nr]at n2;cases n2
   |scr a=>rw[nr]at n2;cases n2
   |exn a=>rw[nr]at n2;cases n2
   |obj _ _ _=>rw[nr]at n2;cases n2
   |non=>
    have hv:v'=.non:=h';subst hv;have hr:u'=Value.none:=r';subst hr;exact ⟨.none_none,.same _,.none_none⟩
   |bl b'=>
    have hv:v'=.bl b':=h';subst hv;have hr:u'=Value.bool b':=r';subst hr;exact ⟨.none_bool b',.none_bool b',.none_bool b'⟩
   |int i'=>
    have hv:v'=.int i':=h';subst hv;obtain ⟨t',hr⟩:∃t',u'=Value.int i' t':=r';subst hr;exact ⟨.none_int i' t',.none_int i' t',.none_int i' t'⟩
   |str l'=>
    obtain ⟨hv,_⟩:=h';subst hv;obtain ⟨t',hr⟩:∃t',u'=Value.str (tx l') t':=r';subst hr;exact ⟨.none_str (tx l') t',.none_str (tx l') t',.none_str (tx l') t'⟩
   |tup ys=>
    obtain ⟨a',vs',hv,q',tt'⟩:=id h';subst hv;have hr:u'=Value.ref a':=r';subst hr;obtain ⟨its',rv',pt',_⟩:=I.tuple q'.sq;have pt':s.heap.IsTuple a' its'.toArray:=pt';exact ⟨.none_tuple pt' hu0,.none_tuple pt' hu0,.none_tuple pt' hu0⟩
   |lst ys=>
    obtain ⟨a',vs',hv,q',tt'⟩:=id h';subst hv;have hr:u'=Value.ref a':=r';subst hr;obtain ⟨its',rv',pl',_⟩:=I.list q'.sq;have pt':s.heap.IsList a' its'.toArray:=pl'.isList;exact ⟨.none_list pt' hu0,.none_list pt' hu0,.none_list pt' hu0⟩
  |bl b=>
   have hv:v=.bl b:=h;subst hv;have hr:u=Value.bool b:=r;subst hr;cases d' with
   |ref a=>rw[nr]at n2;cases n2
   |scr a=>rw[nr]at n2;cases n2
   |exn a=>rw[nr]at n2;cases n2
   |obj _ _ _=>rw[nr]at n2;cases n2
   |non=>
    have hv:v'=.non:=h';subst hv;have hr:u'=Value.none:=r';subst hr;exact ⟨.bool_none b,.bool_none b,.bool_none b⟩
   |bl b'=>
    have hv:v'=.bl b':=h';subst hv;have hr:u'=Value.bool b':=r';subst hr;exact ⟨.bool_bool b b',.bool_bool b b',.bool_bool b b'⟩
   |int i'=>
    have hv:v'=.int i':=h';subst hv;obtain ⟨t',hr⟩:∃t',u'=Value.int i' t':=r';subst hr;exact ⟨.bool_int b i' t',.bool_int b i' t',.bool_int b i' t'⟩
   |str l'=>
    obtain ⟨hv,_⟩:=h';subst hv;obtain ⟨t',hr⟩:∃t',u'=Value.str (tx l') t':=r';subst hr;exact ⟨.bool_str b (tx l') t',.bool_str b (tx l') t',.bool_str b (tx l') t'⟩
   |tup ys=>
    obtain ⟨a',vs',hv,q',tt'⟩:=id h';subst hv;have hr:u'=Value.ref a':=r';subst hr;obtain ⟨its',rv',pt',_⟩:=I.tuple q'.sq;have pt':s.heap.IsTuple a' its'.toArray:=pt';exact ⟨.bool_tuple b pt' hu0,.bool_tuple b pt' hu0,.bool_tuple b pt' hu0⟩
   |lst ys=>
    obtain ⟨a',vs',hv,q',tt'⟩:=id h';subst hv;have hr:u'=Value.ref a':=r';subst hr;obtain ⟨its',rv',pl',_⟩:=I.list q'.sq;have pt':s.heap.IsList a' its'.toArray:=pl'.isList;exact ⟨.bool_list b pt' hu0,.bool_list b pt' hu0,.bool_list b pt' hu0⟩
  |int i=>
   have hv:v=.int i:=h;subst hv;obtain ⟨t,hr⟩:∃t,u=Value.int i t:=r;subst hr;cases d' with
   |ref a=>rw[nr]at n2;cases n2
   |scr a=>rw[nr]at n2;cases n2
   |exn a=>rw[nr]at n2;cases n2
   |obj _ _ _=>rw[nr]at n2;cases n2
   |non=>
    have hv:v'=.non:=h';subst hv;have hr:u'=Value.none:=r';subst hr;exact ⟨.int_none i t,.int_none i t,.int_none i t⟩
   |bl b'=>
    have hv:v'=.bl b':=h';subst hv;have hr:u'=Value.bool b':=r';subst hr;exact ⟨.int_bool i t b',.int_bool i t b',.int_bool i t b'⟩
   |int i'=>
    have hv:v'=.int i':=h';subst hv;obtain ⟨t',hr⟩:∃t',u'=Value.int i' t':=r';subst hr;exact ⟨.int_int i t i' t',.int_int i t i' t',.int_int i t i' t'⟩
   |str l'=>
    obtain ⟨hv,_⟩:=h';subst hv;obtain ⟨t',hr⟩:∃t',u'=Value.str (tx l') t':=r';subst hr;exact ⟨.int_str i t (tx l') t',.int_str i t (tx l') t',.int_str i t (tx l') t'⟩
   |tup ys=>
    obtain ⟨a',vs',hv,q',tt'⟩:=id h';subst hv;have hr:u'=Value.ref a':=r';subst hr;obtain ⟨its',rv',pt',_⟩:=I.tuple q'.sq;have pt':s.heap.IsTuple a' its'.toArray:=pt';exact ⟨.int_tuple i t pt' hu0,.int_tuple i t pt' hu0,.int_tuple i t pt' hu0⟩
   |lst ys=>
    obtain ⟨a',vs',hv,q',tt'⟩:=id h';subst hv;have hr:u'=Value.ref a':=r';subst hr;obtain ⟨its',rv',pl',_⟩:=I.list q'.sq;have pt':s.heap.IsList a' its'.toArray:=pl'.isList;exact ⟨.int_list i t pt' hu0,.int_list i t pt' hu0,.int_list i t pt' hu0⟩
  |str l=>
   obtain ⟨hv,_⟩:=h;subst hv;obtain ⟨t,hr⟩:∃t,u=Value.str (tx l) t:=r;subst hr;cases d' with
   |ref a=>rw[nr]at n2;cases n2
   |scr a=>rw[nr]at n2;cases n2
   |exn a=>rw[nr]at n2;cases n2
   |obj _ _ _=>rw[nr]at n2;cases n2
   |non=>
    have hv:v'=.non:=h';subst hv;have hr:u'=Value.none:=r';subst hr;exact ⟨.str_none (tx l) t,.str_none (tx l) t,.str_none (tx l) t⟩
   |bl b'=>
    have hv:v'=.bl b':=h';subst hv;have hr:u'=Value.bool b':=r';subst hr;exact ⟨.str_bool (tx l) t b',.str_bool (tx l) t b',.str_bool (tx l) t b'⟩
   |int i'=>
    have hv:v'=.int i':=h';subst hv;obtain ⟨t',hr⟩:∃t',u'=Value.int i' t':=r';subst hr;exact ⟨.str_int (tx l) t i' t',.str_int (tx l) t i' t',.str_int (tx l) t i' t'⟩
   |str l'=>
    obtain ⟨hv,_⟩:=h';subst hv;obtain ⟨t',hr⟩:∃t',u'=Value.str (tx l') t':=r';subst hr;rw[deq,<-Zr];exact ⟨.str_str (tx l) t (tx l') t',.str_str (tx l) t (tx l') t',.str_str (tx l) t (tx l') t'⟩
   |tup ys=>
    obtain ⟨a',vs',hv,q',tt'⟩:=id h';subst hv;have hr:u'=Value.ref a':=r';subst hr;obtain ⟨its',rv',pt',_⟩:=I.tuple q'.sq;have pt':s.heap.IsTuple a' its'.toArray:=pt';exact ⟨.str_tuple (tx l) t pt' hu0,.str_tuple (tx l) t pt' hu0,.str_tuple (tx l) t pt' hu0⟩
   |lst ys=>
    obtain ⟨a',vs',hv,q',tt'⟩:=id h';subst hv;have hr:u'=Value.ref a':=r';subst hr;obtain ⟨its',rv',pl',_⟩:=I.list q'.sq;have pt':s.heap.IsList a' its'.toArray:=pl'.isList;exact ⟨.str_list (tx l) t pt' hu0,.str_list (tx l) t pt' hu0,.str_list (tx l) t pt' hu0⟩
  |tup xs=>
   obtain ⟨a,vs,hv,q,tt⟩:=id h;subst hv;have hr:u=Value.ref a:=r;subst hr;obtain ⟨its,rv,pt,_⟩:=I.tuple q.sq;have pt:s.heap.IsTuple a its.toArray:=pt;cases d' with
   |ref a=>rw[nr]at n2;cases n2
   |scr a=>rw[nr]at n2;cases n2
   |exn a=>rw[nr]at n2;cases n2
   |obj _ _ _=>rw[nr]at n2;cases n2
   |non=>
    have hv:v'=.non:=h';subst hv;have hr:u'=Value.none:=r';subst hr;exact ⟨.tuple_none pt hu0,.tuple_none pt hu0,.tuple_none pt hu0⟩
   |bl b'=>
    have hv:v'=.bl b':=h';subst hv;have hr:u'=Value.bool b':=r';subst hr;exact ⟨.tuple_bool b' pt hu0,.tuple_bool b' pt hu0,.tuple_bool b' pt hu0⟩
   |int i'=>
    have hv:v'=.int i':=h';subst hv;obtain ⟨t',hr⟩:∃t',u'=Value.int i' t':=r';subst hr;exact ⟨.tuple_int i' t' pt hu0,.tuple_int i' t' pt hu0,.tuple_int i' t' pt hu0⟩
   |str l'=>
    obtain ⟨hv,_⟩:=h';subst hv;obtain ⟨t',hr⟩:∃t',u'=Value.str (tx l') t':=r';subst hr;exact ⟨.tuple_str (tx l') t' pt hu0,.tuple_str (tx l') t' pt hu0,.tuple_str (tx l') t' pt hu0⟩
   |tup ys=>
    obtain ⟨a',vs',hv,q',tt'⟩:=id h';subst hv;have hr:u'=Value.ref a':=r';subst hr;obtain ⟨its',rv',pt',_⟩:=I.tuple q'.sq;have pt':s.heap.IsTuple a' its'.toArray:=pt';exact Zt I ih hu hd n1 n2 h h' pt pt' rv rv' tt tt'
   |lst ys=>
    obtain ⟨a',vs',hv,q',tt'⟩:=id h';subst hv;have hr:u'=Value.ref a':=r';subst hr;obtain ⟨its',rv',pl',_⟩:=I.list q'.sq;have pt':s.heap.IsList a' its'.toArray:=pl'.isList;exact ⟨.tuple_list pt pt' hu0,.tuple_list pt pt' hu0,.tuple_list pt pt' hu0⟩
  |lst xs=>
   obtain ⟨a,vs,hv,q,tt⟩:=id h;subst hv;have hr:u=Value.ref a:=r;subst hr;obtain ⟨its,rv,pl,_⟩:=I.list q.sq;have pt:s.heap.IsList a its.toArray:=pl.isList;cases d' with
   |ref a=>rw[nr]at n2;cases n2
   |scr a=>rw[nr]at n2;cases n2
   |exn a=>rw[nr]at n2;cases n2
   |obj _ _ _=>rw[nr]at n2;cases n2
   |non=>
    have hv:v'=.non:=h';subst hv;have hr:u'=Value.none:=r';subst hr;exact ⟨.list_none pt hu0,.list_none pt hu0,.list_none pt hu0⟩
   |bl b'=>
    have hv:v'=.bl b':=h';subst hv;have hr:u'=Value.bool b':=r';subst hr;exact ⟨.list_bool b' pt hu0,.list_bool b' pt hu0,.list_bool b' pt hu0⟩
   |int i'=>
    have hv:v'=.int i':=h';subst hv;obtain ⟨t',hr⟩:∃t',u'=Value.int i' t':=r';subst hr;exact ⟨.list_int i' t' pt hu0,.list_int i' t' pt hu0,.list_int i' t' pt hu0⟩
   |str l'=>
    obtain ⟨hv,_⟩:=h';subst hv;obtain ⟨t',hr⟩:∃t',u'=Value.str (tx l') t':=r';subst hr;exact ⟨.list_str (tx l') t' pt hu0,.list_str (tx l') t' pt hu0,.list_str (tx l') t' pt hu0⟩
   |tup ys=>
    obtain ⟨a',vs',hv,q',tt'⟩:=id h';subst hv;have hr:u'=Value.ref a':=r';subst hr;obtain ⟨its',rv',pt',_⟩:=I.tuple q'.sq;have pt':s.heap.IsTuple a' its'.toArray:=pt';exact ⟨.list_tuple pt pt' hu0,.list_tuple pt pt' hu0,.list_tuple pt pt' hu0⟩
   |lst ys=>
    obtain ⟨a',vs',hv,q',tt'⟩:=id h';subst hv;have hr:u'=Value.ref a':=r';subst hr;obtain ⟨its',rv',pl',_⟩:=I.list q'.sq;have pt':s.heap.IsList a' its'.toArray:=pl'.isList;exact Zu I ih hu hd n1 n2 (λz=>by subst z;have e:=sZ I n1 n2 h h';injection e) pt pt' rv rv' tt tt'
end
def FA(F:FZ)(G:DH):FZ:=λa=>F a\/∃o,G a=some o
theorem El{H:Hp}{F:FZ}{G:DH}:Ext H F H (FA F G):=⟨λ_ f=>.inl f,λ_ _=>rfl,λ_ _ h=>h,λ_ _ _ h=>h⟩
theorem tD{K:PF}{H:Hp}{F:FZ}{G:DH}{d:D}{v:V}(r:R K H F G)(h:Rep K H F d v):Rep K H (FA F G) (view G d) v:=by
 cases d with
 |ref p=>
  have hv:v=.ref p:=h;cases g:G p with
  |none=>
   have e:view G (.ref p)=.ref p:=by simp only[view,g]
   rw[e];exact hv
  |some o=>
   cases o with
   |lst ds=>
    have e:view G (.ref p)=.lst ds:=by simp only[view,g]
    rw[e];obtain ⟨vs,q,t⟩:=r.lst g;exact ⟨p,vs,hv,⟨.inr ⟨_,g⟩,q⟩,Reps.ext El t⟩
 |_=>exact Rep.ext El h
def rC2(K:PF)(f:D->D->(Bool->Prop)->Prop):R2:=λx y H Q=>∃F G a b,R K H F G/\Rep K H F a x/\Rep K H F b y/\f (view G a) (view G b) (λc=>PV K H F Q (.bl c) G)
section
variable {X:Cx}
theorem Em(c:Nat)(l:List Nat):(!(Builtin.Str.occurrences (tx l) (tx [c]) 0 (tx l).length 1).isEmpty)=l.contains c:=by have:=StrLaws.found_one (tx l) c;rw[this,Bool.eq_iff_iff];simp
theorem Zv{pins:List (Addr×Obj)}{σ:L2.St}{H:Hp}{s:Shared}{F:FZ}(I:Inv X pins σ H s){A:Around}{x:D}{v:V}{u:Value}(hu:A.units+64 < cLine)(hx:nr x=true)(rx:Rep X.K H F x v)(ru:RelV v u):
  ∀{ds:List D}{vs:List V}{us:List Value},nrs ds=true->aW ds<=60->Reps X.K H F ds vs->Vals vs us->∃e:Value->Bool,(∀y∈us,SeqAt.EqAt A s y u (e y))/\us.any e=isIn x ds:=by
 intro ds vs us hn hd t r;let P:Value->D->Prop:=λy d=>nr d=true/\∃v,Rep X.K H F d v/\RelV v y
 have one:∀y d d',P y d->P y d'->d=d':=λy d d' ⟨n,v,q,z⟩ ⟨n',v',q',z'⟩=>by
  have e:=z.inj z';subst e;exact sZ I n n' q q'
 have ⟨f,hf⟩:∃f:Value->D,∀y d,P y d->f y=d:=by refine ⟨λy=>Classical.epsilon (P y),λy d h=>?_⟩;exact one y _ _ (Classical.epsilon_spec ⟨d,h⟩) h
 refine ⟨λy=>deq (f y) x,?_,?_⟩
 ·skip;have key:∀{ds:List D}{vs:List V}{us:List Value},nrs ds=true->aW ds<=60->Reps X.K H F ds vs->Vals vs us->∀y∈us,SeqAt.EqAt A s y u (deq (f y) x):=by
   intro ds;induction ds with
   |nil=>
    intro vs us _ _ t r y hy;have t:vs=[]:=t;subst t;cases r;cases hy
   |cons d ds ih=>
    intro vs us hn hd t r y hy;obtain ⟨v1,r1,e,h1,t1⟩:=t;subst e;rw[nrs,ae]at hn;rw[aW]at hd;cases r with
    |cons p q=>
     rcases bS.mp hy with e |hy
     ·subst e;rw[hf _ d ⟨hn.1,_,h1,p⟩];exact (xM I 60 A d x v1 v _ u (by omega) (by omega) hn.1 hx h1 rx p ru).2.1
     ·exact ih hn.2 (by omega) t1 q y hy
  exact key hn hd t r
 ·have key:∀{ds:List D}{vs:List V}{us:List Value},nrs ds=true->Reps X.K H F ds vs->Vals vs us->us.any (λy=>deq (f y) x)=isIn x ds:=by
   intro ds;induction ds with
   |nil=>
    intro vs us _ t r;have t:vs=[]:=t;subst t;cases r;rfl
   |cons d ds ih=>
    intro vs us hn t r;obtain ⟨v1,r1,e,h1,t1⟩:=t;subst e;rw[nrs,ae]at hn;cases r with
    |cons p q=>
     rw[List.any_cons,hf _ d ⟨hn.1,_,h1,p⟩,ih hn.2 t1 q];rfl
  exact key hn t r
theorem jx(op:CmpOp)(hu:X.A.units+100 < cLine):OpR X (compareOp op) (rC2 X.K (bh op)):=by
 intro pins s σ H x y v u Q I rx ry h;obtain ⟨F,G,a,b,r,ra,rb,h⟩:=h;have ra':=tD r ra;have rb':=tD r rb;generalize ea:view G a=va at h ra';generalize eb:view G b=vb at h rb';have fin:∀c:Bool,PV X.K H F Q (.bl c) G->EP X pins σ Q (.bool c) s:=λc q=>⟨.bl c,H,I,rfl,q.now r rfl⟩;have hin:∀(l:List D)(k:Bool->Prop),(nr va=true/\nrs l=true/\aW l<=60)->∀{vs:List V}{us:List Value},Reps X.K H (FA F G) l vs->Vals vs us->
   ∃e:Value->Bool,(∀z∈us,SeqAt.EqAt X.A.in1 s z v (e z))/\us.any e=isIn va l:=λl k hh {vs us} t rv=>
  Zv I (A:=X.A.in1) (by show X.A.units+1+64 < cLine;omega) hh.1 ra' rx hh.2.1 hh.2.2 t rv
 cases op with
 |Eq=>
  obtain ⟨⟨n1,n2,n3⟩,q⟩:=h;exact (xM I 60 X.A _ _ x y v u (by omega) n3 n1 n2 ra' rb' rx ry).1 _ _ _ _ (fin _ q)
 |NotEq=>
  obtain ⟨⟨n1,n2,n3⟩,q⟩:=h;exact (xM I 60 X.A _ _ x y v u (by omega) n3 n1 n2 ra' rb' rx ry).2.2 _ _ _ _ (fin _ q)
 |Lt=>
  have h:jj va vb (λc=>PV X.K H F Q (.bl c) G):=h;unfold jj at h;split at h
  ·have e1:x=.int _:=ra';have e2:y=.int _:=rb';subst e1;subst e2;obtain ⟨t,rfl⟩:=rx;obtain ⟨t',rfl⟩:=ry;exact lt_int (fin _ h)
  ·obtain ⟨e1,_⟩:=ra';obtain ⟨e2,_⟩:=rb';subst e1;subst e2;obtain ⟨t,rfl⟩:=rx;obtain ⟨t',rfl⟩:=ry;exact lt_str (fin _ h)
  ·exact h.elim
 |LtE=>
  have h:jk va vb (λc=>PV X.K H F Q (.bl c) G):=h;unfold jk at h;split at h
  ·have e1:x=.int _:=ra';have e2:y=.int _:=rb';subst e1;subst e2;obtain ⟨t,rfl⟩:=rx;obtain ⟨t',rfl⟩:=ry;exact le_int (fin _ h)
  ·obtain ⟨e1,_⟩:=ra';obtain ⟨e2,_⟩:=rb';subst e1;subst e2;obtain ⟨t,rfl⟩:=rx;obtain ⟨t',rfl⟩:=ry;exact PySem.P.le_str (fin _ h)
  ·exact h.elim
 |Gt=>
  have h:jl va vb (λc=>PV X.K H F Q (.bl c) G):=h;unfold jl at h;split at h
  ·have e1:x=.int _:=ra';have e2:y=.int _:=rb';subst e1;subst e2;obtain ⟨t,rfl⟩:=rx;obtain ⟨t',rfl⟩:=ry;exact gt_int (fin _ h)
  ·exact h.elim
 |GtE=>
  have h:jm va vb (λc=>PV X.K H F Q (.bl c) G):=h;unfold jm at h;split at h
  ·have e1:x=.int _:=ra';have e2:y=.int _:=rb';subst e1;subst e2;obtain ⟨t,rfl⟩:=rx;obtain ⟨t',rfl⟩:=ry;exact ge_int (fin _ h)
  ·exact h.elim
 |Is=>
  have h:jo va vb (λc=>PV X.K H F Q (.bl c) G):=h;unfold jo at h;split at h
  ·have e2:y=.non:=rb';subst e2;have q:∀c,(c=decide (x=.non))->PV X.K H F Q (.bl c) G->wpAny (model X.prog X.w) X.A (compareOp .Is v u) (EP X pins σ Q) X.xe s:=λc e q=>
    Wg pins s σ H _ _ v u Q I rx ry ⟨rfl,by rw[<-e];exact q.now r rfl⟩
   refine q _ ?_ h;have:eZ va=decide (x=.non):=by
    cases va with
    |non=>have e1:x=.non:=ra';subst e1;rfl
    |bl _=>have e1:x=.bl _:=ra';subst e1;rfl
    |int _=>have e1:x=.int _:=ra';subst e1;rfl
    |str _=>obtain ⟨e1,_⟩:=ra';subst e1;rfl
    |tup _=>obtain ⟨_,_,e1,_⟩:=ra';subst e1;rfl
    |lst _=>obtain ⟨_,_,e1,_⟩:=ra';subst e1;rfl
    |ref _=>have e1:x=.ref _:=ra';subst e1;rfl
    |scr _=>obtain ⟨_,e1,_⟩:=ra';subst e1;rfl
    |exn _=>obtain ⟨_,_,e1,_⟩:=ra';subst e1;rfl
    |obj _ _ _=>obtain ⟨_,_,_,e1,_⟩:=ra';subst e1;rfl
   rw[this]
  ·split at h
   ·have e1:x=.bl _:=ra';have e2:y=.bl _:=rb';subst e1;subst e2;exact Ye pins s σ H _ _ v u Q I rx ry ⟨_,_,rfl,rfl,h.now r rfl⟩
   ·exact h.elim
  ·exact h.elim
 |IsNot=>
  have h:jq va vb (λc=>PV X.K H F Q (.bl c) G):=h;unfold jq at h;split at h
  ·have e2:y=.non:=rb';subst e2;have q:∀c,(c=!decide (x=.non))->PV X.K H F Q (.bl c) G->wpAny (model X.prog X.w) X.A (compareOp .IsNot v u) (EP X pins σ Q) X.xe s:=λc e q=>
    Wh pins s σ H _ _ v u Q I rx ry ⟨rfl,by rw[<-e];exact q.now r rfl⟩
   refine q _ ?_ h;have:eZ va=decide (x=.non):=by
    cases va with
    |non=>have e1:x=.non:=ra';subst e1;rfl
    |bl _=>have e1:x=.bl _:=ra';subst e1;rfl
    |int _=>have e1:x=.int _:=ra';subst e1;rfl
    |str _=>obtain ⟨e1,_⟩:=ra';subst e1;rfl
    |tup _=>obtain ⟨_,_,e1,_⟩:=ra';subst e1;rfl
    |lst _=>obtain ⟨_,_,e1,_⟩:=ra';subst e1;rfl
    |ref _=>have e1:x=.ref _:=ra';subst e1;rfl
    |scr _=>obtain ⟨_,e1,_⟩:=ra';subst e1;rfl
    |exn _=>obtain ⟨_,_,e1,_⟩:=ra';subst e1;rfl
    |obj _ _ _=>obtain ⟨_,_,_,e1,_⟩:=ra';subst e1;rfl
   rw[this]
  ·split at h
   ·have e1:x=.bl _:=ra';have e2:y=.bl _:=rb';subst e1;subst e2;exact Yj pins s σ H _ _ v u Q I rx ry ⟨_,_,rfl,rfl,h.now r rfl⟩
   ·exact h.elim
  ·exact h.elim
 |In=>
  have h:fW va vb (λc=>PV X.K H F Q (.bl c) G):=h;unfold fW at h;split at h
  ·split at h
   ·obtain ⟨e1,_⟩:=ra';obtain ⟨e2,_⟩:=rb';subst e1;subst e2;obtain ⟨t,rfl⟩:=rx;obtain ⟨t',rfl⟩:=ry;exact in_str (by rw[Em];exact fin _ h)
   ·exact h.elim
  ·obtain ⟨hh,q⟩:=h;obtain ⟨p,vs,e2,q2,t⟩:=rb';subst e2;cases ry;obtain ⟨its,rv,pl,hz⟩:=I.list q2.sq;obtain ⟨e,he,hany⟩:=hin _ (λ_=>True) hh t rv;refine SeqAt.in_listAt e pl.isList (λw hw=>he w (by simpa using hw)) ?_;rw[show its.toArray.any e=its.any e by simp,hany];exact fin _ q
  ·obtain ⟨hh,q⟩:=h;obtain ⟨p,vs,e2,q2,t⟩:=rb';subst e2;cases ry;obtain ⟨its,rv,pl,hz⟩:=I.tuple q2.sq;obtain ⟨e,he,hany⟩:=hin _ (λ_=>True) hh t rv;refine SeqAt.in_tupleAt e pl (λw hw=>he w (by simpa using hw)) ?_;rw[show its.toArray.any e=its.any e by simp,hany];exact fin _ q
  ·exact h.elim
 |NotIn=>
  have h:fW va vb (λc=>PV X.K H F Q (.bl (!c)) G):=h;unfold fW at h;split at h
  ·split at h
   ·obtain ⟨e1,_⟩:=ra';obtain ⟨e2,_⟩:=rb';subst e1;subst e2;obtain ⟨t,rfl⟩:=rx;obtain ⟨t',rfl⟩:=ry;exact notIn_str (by rw[Em];exact fin _ h)
   ·exact h.elim
  ·obtain ⟨hh,q⟩:=h;obtain ⟨p,vs,e2,q2,t⟩:=rb';subst e2;cases ry;obtain ⟨its,rv,pl,hz⟩:=I.list q2.sq;obtain ⟨e,he,hany⟩:=hin _ (λ_=>True) hh t rv;refine SeqAt.notIn_listAt e pl.isList (λw hw=>he w (by simpa using hw)) ?_;rw[show its.toArray.any e=its.any e by simp,hany];exact fin _ q
  ·obtain ⟨hh,q⟩:=h;obtain ⟨p,vs,e2,q2,t⟩:=rb';subst e2;cases ry;obtain ⟨its,rv,pl,hz⟩:=I.tuple q2.sq;obtain ⟨e,he,hany⟩:=hin _ (λ_=>True) hh t rv;refine SeqAt.notIn_tupleAt e pl (λw hw=>he w (by simpa using hw)) ?_;rw[show its.toArray.any e=its.any e by simp,hany];exact fin _ q
  ·exact h.elim
end
section
variable {X:Cx}
def Zw(K:PF):R2:=λx y H Q=>∃F G a b,R K H F G/\Rep K H F a x/\Rep K H F b y/\cG (view G a) b (λd=>PV K H F Q d G)
theorem Eo{K:PF}{H:Hp}{F:FZ}{ds:List D}{vs:List V}{i:Int}{d:D}(t:Reps K H F ds vs)(h:atI ds i=some d):∃v,atI vs i=some v/\Rep K H F d v:=by
 unfold atI at h ⊢;rw[<-t.length];cases e:ixN ds.length i with
 |none=>rw[e]at h;cases h
 |some j=>
  rw[e]at h;obtain ⟨v,e1,r⟩:=t.get (show ds[j]?=some d from h);exact ⟨v,e1,r⟩
theorem Zx:IxR X (Zw X.K):=by
 intro value slice pins s σ H x y v u Q I rx ry h hs;obtain ⟨F,G,a,b,r,ra,rb,h⟩:=h;generalize ea:view G a=va at h;unfold cG at h;split at h
 ·obtain ⟨p,vs,e,q,t⟩:=Rep.list r ra ea;subst e;have e2:y=.int _:=rb;subst e2;split at h
  ·rename_i d hd;obtain ⟨w,hw,rw'⟩:=Eo t hd;exact Xd value slice pins s σ H _ _ v u Q I rx ry ⟨p,vs,_,w,rfl,rfl,q,hw,h.now r rw'⟩ hs
  ·exact h.elim
 ·cases gH ea;obtain ⟨p,vs,e,q,t⟩:=ra;subst e;have e2:y=.int _:=rb;subst e2;split at h
  ·rename_i d hd;obtain ⟨w,hw,rw'⟩:=Eo t hd;exact Xe value slice pins s σ H _ _ v u Q I rx ry ⟨p,vs,_,w,rfl,rfl,q.sq,hw,h.now r rw'⟩ hs
  ·exact h.elim
 ·cases gJ ea;obtain ⟨e,hl⟩:=ra;subst e;have e2:y=.int _:=rb;subst e2;split at h
  ·rename_i c hc;exact Xf value slice pins s σ H _ _ v u Q I rx ry ⟨_,_,c,rfl,rfl,by rw[bZ];exact cR hl,hc,h.now r ⟨rfl,by show 1<=sz;decide⟩⟩ hs
  ·exact h.elim
 ·exact h.elim
theorem Zy(l:List Nat)(lo hi:Option Int):Txt.slice (tx l) lo hi=tx (cut l lo hi):=by
 have e:Builtin.Str.strSliceIndices lo hi 1 (tx l).length=sliceRange (sliceBounds lo hi none (tx l).length).1 (sliceBounds lo hi none (tx l).length).2.1 1:=by unfold Builtin.Str.strSliceIndices sliceBounds;cases lo <;> cases hi <;> rfl
 obtain ⟨h1,h2,h3⟩:=Cm lo hi (tx l).length;rw[h1,h2,sliceRange_one]at e;have e2:((Builtin.Str.strSliceIndices lo hi 1 (tx l).length).filterMap ((tx l).cps[·]?))=cut l lo hi:=by rw[e,pick_run];unfold cut;rw[bZ]
 unfold Txt.slice;split
 ·rename_i hh;rw[ae]at hh;have hl:=eq_of_beq hh.2;rw[e,ag,List.length_range,bZ]at hl;have b1:HT.sIx l.length l.length hi<=l.length:=HT.BZ _ _ (aw _) hi;unfold cut;by_cases hz:l=[]
  ·subst hz;simp
  ·have hp:0 < l.length:=fy.mpr hz;have e3:HT.sIx l.length 0 lo=0:=by omega
   have e4:HT.sIx l.length l.length hi=l.length:=by omega
   rw[e3,e4];simp
 ·rw[e2]
theorem Zz{α:Type}(xs:List α)(lo hi:Option Int):(cut xs lo hi).length<=xs.length:=by unfold cut;rw[aT,bp];omega
theorem ZC{prog:Program}{w:World}{A:Around}{E:Value->Shared->Prop}{s:Shared}{t sl:Addr}{items:Array Value}{vl vu:Value}{lo hi:Option Int}{Q:Value->Shared->Prop}(ht:IsTup s.heap t items)(hs:s.heap.IsSliceOf sl vl vu .none)(pl:IsPart vl lo)(pu:IsPart vu hi)
  (hw:HT.sIx items.size 0 lo=0/\HT.sIx items.size items.size hi=items.size) (h:Q (.ref t) s):wpAny (model prog w) A (getItem (.ref t) (.ref sl)) Q E s:=by
 obtain ⟨os,hos,hcs,hds⟩:=id hs;have hTs:s.TypeIs (.ref sl) "slice":=⟨os,hos,hcs⟩;unfold getItem;try with_reducible refine eR ?_
 first |refine al (bo ?_) |skip
 refine al (wpAny_sequenceKey ht.typeIs (by decide) ?_);refine al (fg (name:=Str.ofString "__getitem__") ht.typeIs e9
  (fR e9 ht.typeIs entry_tuple_getitem ?_ (args_tuple_getitem _ _)))
 show wpAny _ _ (Builtin.Tuple.tupleItemsOf (.ref t) >>= _) _ _ s;refine al (tupleItemsOf_ ht ?_);refine al (wpAny_typeOf hTs ?_);rw[if_pos (by decide)];refine al (HT.Ce hs pl pu ?_);have hyes:(((HT.sIx items.size 0 lo:Nat):Int)==0&&(1:Int)==1&&(HT.sIx items.size items.size hi - HT.sIx items.size 0 lo)==items.size)=true:=by rw[hw.1,hw.2];simp
 show wpAny _ _ (if (((HT.sIx items.size 0 lo:Nat):Int)==0&&(1:Int)==1&&(HT.sIx items.size items.size hi - HT.sIx items.size 0 lo)==items.size)=true then _ else _) _ _ s;rw[if_pos hyes];refine al (m:=Builtin.Tuple.tupleIsExact _) (al (wpAny_typeOf ht.typeIs (bo ?_)));rw[if_pos (by decide)];exact al (wpAny_rule (bo ⟨_,rfl,bo h⟩))
theorem ZD:SlR X (λx lo hi H Q=>∃a xs,x=.ref a/\SqT X.K H a xs/\(HT.sIx xs.length 0 lo=0/\HT.sIx xs.length xs.length hi=xs.length)/\Q (.ref a) H):=by
 intro pins s σ H x v vl vu lo hi sl Q I rx hs pl pu h;obtain ⟨a,xs,rfl,hx,hw,q⟩:=h;cases rx;obtain ⟨its,r,ht,hz⟩:=I.tuple hx;have hlen:its.toArray.size=xs.length:=by rw[av];exact r.length.symm
 exact ⟨"tuple",_,e9.lookup,ht.typeIs,ZC ht hs pl pu (by rw[hlen];exact hw) ⟨.ref a,H,I,rfl,q⟩⟩
theorem Ep{K:PF}{H:Hp}{F:FZ}:∀ns:List Int,Reps K H F (ns.map D.int) (ns.map V.int)
 |[]=>rfl
 |n::ns=>⟨_,_,rfl,rfl,Ep ns⟩
noncomputable def ZF(K:PF)(fz:Bool):V->Option Int->Option Int->Hp->VK->Prop:=λx lo hi H Q=>∃F G a,R K H F G/\Rep K H F a x/\dY fz (view G a) lo hi G (PV K H F Q)
theorem Er{K:PF}{H:Hp}{F:FZ}{ds:List D}{vs:List V}(t:Reps K H F ds vs)(lo hi:Option Int):Reps K H F (cut ds lo hi) (dW vs lo hi):=t.cut lo hi
theorem ZG(fz:Bool):SlR X (ZF X.K fz):=by
 intro pins s σ H x v vl vu lo hi sl Q I rx hs pl pu h;obtain ⟨F,G,a,r,ra,h⟩:=h;generalize ea:view G a=va at h;unfold dY at h;split at h
 ·obtain ⟨p,vs,e,q,t⟩:=Rep.list r ra ea;subst e;exact Cp pins s σ H _ v vl vu lo hi sl Q I rx hs pl pu ⟨p,vs,rfl,q,fB h r (Er t lo hi)⟩
 ·rename_i ns;have ea':a=.scr ns:=by
   cases a with
   |ref p=>
    unfold view at ea;cases g:G p with
    |none=>simp only[g]at ea;cases ea
    |some o=>cases o;simp only[g]at ea;cases ea
   |_=>exact ea
  subst ea';obtain ⟨p,e,q⟩:=ra;subst e;refine Cp pins s σ H _ v vl vu lo hi sl Q I rx hs pl pu ⟨p,_,rfl,q.sq,fB h r ?_⟩;have e2:dW (ns.map V.int) lo hi=(cut ns lo hi).map V.int:=by unfold dW cut;rw[ag,List.map_take,List.map_drop]
  rw[e2];exact Ep (cut ns lo hi)
 ·cases gH ea;obtain ⟨p,vs,e,q,t⟩:=id ra;subst e;by_cases hw:HT.sIx vs.length 0 lo=0/\HT.sIx vs.length vs.length hi=vs.length
  ·refine ZD pins s σ H _ v vl vu lo hi sl Q I rx hs pl pu ⟨p,vs,rfl,q.sq,hw,?_⟩;refine h.now r ?_;rename_i ds;have:cut ds lo hi=ds:=by
    unfold cut;rw[t.length,hw.1,hw.2];simp[<-t.length]
   rw[this];exact ra
  ·exact W6 pins s σ H _ v vl vu lo hi sl Q I rx hs pl pu ⟨p,vs,rfl,q.sq,hw,kJ h r (Er t lo hi)⟩
 ·cases gJ ea;obtain ⟨e,hl⟩:=ra;subst e;refine Yi pins s σ H _ v vl vu lo hi sl Q I rx hs pl pu ⟨_,rfl,by rw[bZ];exact cR hl,?_⟩;rw[Zy];exact h.now r ⟨rfl,b6 (Zz _ _ _) hl⟩
 ·exact h.elim
theorem Es{K:PF}{H:Hp}{F:FZ}{G:DH}{d:D}{v:V}{b:Bool}(r:R K H F G)(h:Rep K H F d v)(e:truth (view G d)=some b):qx K v H b:=by
 have h':=tD r h;generalize view G d=w at e h';cases w with
 |non=>have e1:v=.non:=h';subst e1;simp only[truth,a8]at e;exact e.symm
 |bl x=>have e1:v=.bl x:=h';subst e1;simp only[truth,a8]at e;exact e.symm
 |int i=>have e1:v=.int i:=h';subst e1;simp only[truth,a8]at e;exact e.symm
 |str l=>
  obtain ⟨e1,hl⟩:=h';subst e1;simp only[truth,a8]at e;refine ⟨by rw[bZ];exact cR hl,?_⟩;rw[bZ,<-e];cases l with
  |nil=>rfl
  |cons c l=>simp;omega
 |tup l=>
  obtain ⟨a,vs,e1,q,t⟩:=h';subst e1;simp only[truth,a8]at e;refine .inr (.inl ⟨vs,q.sq,?_⟩);rw[<-e];cases l with
  |nil=>have t:vs=[]:=t;subst t;rfl
  |cons c l=>obtain ⟨_,_,e2,_⟩:=t;subst e2;rfl
 |lst l=>
  obtain ⟨a,vs,e1,q,t⟩:=h';subst e1;simp only[truth,a8]at e;refine .inl ⟨vs,q.sq,?_⟩;rw[<-e];cases l with
  |nil=>have t:vs=[]:=t;subst t;rfl
  |cons c l=>obtain ⟨_,_,e2,_⟩:=t;subst e2;rfl
 |ref a=>simp[truth]at e
 |scr a=>simp[truth]at e
 |exn a=>simp[truth]at e
 |obj _ _ _=>simp[truth]at e
theorem tH{K:PF}{H:Hp}{F:FZ}:∀{ds:List D}{vs:List V}{bs:List Bool},bools ds=some bs->Reps K H F ds vs->vs=bs.map V.bl
 |[],_,bs,e,h=>by
  simp only[bools,a8]at e;subst e;exact h
 |d::ds,_,bs,e,⟨v,w,e1,h,t⟩=>by
  cases d with
  |bl b=>
   simp only[bools]at e;cases q:bools ds with
   |none=>rw[q]at e;cases e
   |some s=>
    rw[q]at e;cases e;have hv:v=.bl b:=h;rw[e1,hv,tH q t];rfl
  |_=>simp[bools]at e
theorem bI{K:PF}{H:Hp}{F:FZ}{d:D}{vs:List V}(t:Reps K H F [d] vs):∃v,vs=[v]/\Rep K H F d v:=by obtain ⟨v,r,e,h,t⟩:=t;have t:r=[]:=t;subst t;exact ⟨v,e,h⟩
noncomputable def iC(K:PF)(f:Bf):List V->Hp->VK->Prop:=λvs H Q=>∃F G ds,R K H F G/\Reps K H F ds vs/\opB f (ds.map (view G)) (λd=>PV K H F Q d G)
theorem map_one{G:DH}{ds:List D}{x:D}(h:ds.map (view G)=[x]):∃d,ds=[d]/\view G d=x:=by
 match ds,h with
 |[d],h=>exact ⟨d,rfl,by simpa using h⟩
theorem ZJ:bT X (.builtin "len") (iC X.K .len):=by
 intro pins s σ H xs us Q I rs h;obtain ⟨F,G,ds,r,t,h⟩:=h;generalize ea:ds.map (view G)=va at h;simp only[opB,v7]at h;split at h
 ·obtain ⟨d,rfl,ev⟩:=map_one ea;obtain ⟨v,rfl,rv⟩:=bI t;obtain ⟨a,vs,e,q,t'⟩:=Rep.list r rv ev;subst e;exact Cq pins s σ H _ us Q I rs ⟨a,vs,rfl,.inl q,by rw[<-t'.length];exact h.now r rfl⟩
 ·obtain ⟨d,rfl,ev⟩:=map_one ea;obtain ⟨v,rfl,rv⟩:=bI t;cases gH ev;obtain ⟨a,vs,e,q,t'⟩:=rv;subst e;exact Cq pins s σ H _ us Q I rs ⟨a,vs,rfl,.inr q.sq,by rw[<-t'.length];exact h.now r rfl⟩
 ·obtain ⟨d,rfl,ev⟩:=map_one ea;obtain ⟨v,rfl,rv⟩:=bI t;cases gJ ev;obtain ⟨e,hl⟩:=rv;subst e;exact Xk pins s σ H _ us Q I rs ⟨_,rfl,by rw[bZ];exact cR hl,by rw[bZ];exact h.now r rfl⟩
 ·exact h.elim
theorem ZK (hc:X.calm=true):bT X (.builtin "all") (iC X.K .all):=by
 intro pins s σ H xs us Q I rs h;obtain ⟨F,G,ds,r,t,h⟩:=h;generalize ea:ds.map (view G)=va at h;simp only[opB,qG]at h;split at h
 ·obtain ⟨d,rfl,ev⟩:=map_one ea;obtain ⟨v,rfl,rv⟩:=bI t;obtain ⟨a,vs,e,q,t'⟩:=Rep.list r rv ev;subst e;split at h
  ·rename_i bs hb;have e2:=tH hb t';subst e2;exact Yd hc pins s σ H _ us Q I rs ⟨a,bs,rfl,q,h.now r rfl⟩
  ·exact h.elim
 ·exact h.elim
theorem ZL:bT X (.type "int") (iC X.K .int):=by
 intro pins s σ H xs us Q I rs h;obtain ⟨F,G,ds,r,t,h⟩:=h;generalize ea:ds.map (view G)=va at h;simp only[opB,qH]at h;split at h
 ·obtain ⟨d,rfl,ev⟩:=map_one ea;obtain ⟨v,rfl,rv⟩:=bI t;cases Ze ev;have e:v=.bl _:=rv;subst e;exact BJ pins s σ H _ us Q I rs (.inr ⟨_,rfl,h.now r rfl⟩)
 ·obtain ⟨d,rfl,ev⟩:=map_one ea;obtain ⟨v,rfl,rv⟩:=bI t;cases dX ev;have e:v=.int _:=rv;subst e;exact BJ pins s σ H _ us Q I rs (.inl ⟨_,rfl,h.now r rfl⟩)
 ·obtain ⟨d,rfl,ev⟩:=map_one ea;obtain ⟨v,rfl,rv⟩:=bI t;cases gJ ev;obtain ⟨e,hl⟩:=rv;subst e;split at h
  ·rename_i n hn;exact Yg pins s σ H _ us Q I rs ⟨_,n,rfl,hn,by rw[bZ];exact h.1,h.2.now r rfl⟩
  ·exact h.elim
 ·exact h.elim
theorem ZM:bT X (.type "tuple") (iC X.K .tuple):=by
 intro pins s σ H xs us Q I rs h;obtain ⟨F,G,ds,r,t,h⟩:=h;generalize ea:ds.map (view G)=va at h;simp only[opB,v8]at h;split at h
 ·obtain ⟨d,rfl,ev⟩:=map_one ea;obtain ⟨v,rfl,rv⟩:=bI t;obtain ⟨a,vs,e,q,t'⟩:=Rep.list r rv ev;subst e;exact Cu pins s σ H _ us Q I rs ⟨a,vs,rfl,.inl ⟨q,kJ h r t'⟩⟩
 ·obtain ⟨d,rfl,ev⟩:=map_one ea;obtain ⟨v,rfl,rv⟩:=bI t;cases gH ev;obtain ⟨a,vs,e,q,t'⟩:=id rv;subst e;exact Cu pins s σ H _ us Q I rs ⟨a,vs,rfl,.inr ⟨q.sq,h.now r rv⟩⟩
 ·exact h.elim
noncomputable def Et(K:PF)(fz:Bool)(f:Lf):List V->Hp->VK->Prop:=λvs H Q=>∃F G ds,R K H F G/\Reps K H F ds vs/\cP f (ds.map (view G)) (λxs=>mk fz xs G (PV K H F Q))
theorem ZP(l:List Nat):∀(us:List Value),us.length=l.length->(∀(j:Nat)(v:Value),us[j]?=some v->∃(c:Nat)(u:Tok),l[j]?=some c/\v=Value.str ⟨#[c]⟩ u)->Vals (l.map λc=>V.str (tx [c])) us:=by
 induction l with
 |nil=>intro us h _;cases us with |nil=>exact .nil |cons _ _=>cases h
 |cons c l ih=>
  intro us h q;cases us with
  |nil=>cases h
  |cons u us=>
   obtain ⟨c',t,e1,e2⟩:=q 0 u (by simp);have e1:c=c':=by simpa using e1
   subst e1;exact .cons ⟨t,e2⟩ (ih us (by simpa using h) λj v hv=>by simpa using q (j+1) v (by simpa using hv))
theorem ZQ (hc:X.calm=true):bT X (.type "list") (λxs H Q=>∃l:List Nat,xs=[.str (tx l)]/\l.length<=sizeLine/\∀p,H p=none->Q (.ref p) (upd H p (.lst (l.map λc=>V.str (tx [c]))))):=by
 intro pins s σ H xs us Q I r h;obtain ⟨l,rfl,hz,q⟩:=h;obtain ⟨u,rfl,t,rfl⟩:=vals1 r;have hz':(tx l).cps.size<=sizeLine:=by simpa using hz
 refine call_list_str (hn:=hz') (I.ok.hd hc) (tx l) t λh' tk acc' c' kp e hi=>?_;have hv:Vals (l.map λc=>V.str (tx [c])) acc'.toList:=by
  refine ZP l _ ?_ λj v hv=>?_
  ·rw[d5,hi.1];simp
  ·obtain ⟨c,u,e1,e2⟩:=hi.2 j v (by rw[<-gl];exact hv);exact ⟨c,u,by simpa using e1,e2⟩
 exact ⟨.ref s.heap.objs.size,_,I.laid (t':=tk) kp (aw _) (show ObjOk X.prog X.w _ h' _ (.lst _) from ⟨by rw[ag];exact hz,acc'.toList,c',hv,by rw[Array.toArray_toList];exact e⟩),rfl,q _ (I.hok.fresh (aw _))⟩
theorem xN{K:PF}{H:Hp}{F:FZ}:∀l:List Nat,Reps K H F (l.map λc=>D.str [c]) (l.map λc=>V.str (tx [c]))
 |[]=>rfl
 |c::l=>⟨_,_,rfl,⟨rfl,by show 1<=sz;decide⟩,xN l⟩
theorem ZR (hc:X.calm=true) (fz:Bool):bT X (.type "list") (Et X.K fz .list):=by
 intro pins s σ H xs us Q I rs h;obtain ⟨F,G,ds,r,t,h⟩:=h;generalize ea:ds.map (view G)=va at h;simp only[cP,wj]at h;split at h
 ·obtain ⟨d,rfl,ev⟩:=map_one ea;obtain ⟨v,rfl,rv⟩:=bI t;obtain ⟨a,vs,e,q,t'⟩:=Rep.list r rv ev;subst e;exact Cr pins s σ H _ us Q I rs ⟨a,vs,rfl,.inl q,fB h r t'⟩
 ·obtain ⟨d,rfl,ev⟩:=map_one ea;obtain ⟨v,rfl,rv⟩:=bI t;cases gH ev;obtain ⟨a,vs,e,q,t'⟩:=id rv;subst e;exact Cr pins s σ H _ us Q I rs ⟨a,vs,rfl,.inr q.sq,fB h r t'⟩
 ·obtain ⟨d,rfl,ev⟩:=map_one ea;obtain ⟨v,rfl,rv⟩:=bI t;cases gJ ev;obtain ⟨e,hl⟩:=rv;subst e;exact ZQ hc pins s σ H _ us Q I rs ⟨_,rfl,cR hl,fB h r (xN _)⟩
 ·exact h.elim
theorem xO{K:PF}{H:Hp}{F:FZ}:∀{ds:List D}{vs:List V}{ls:List (List Nat)},bF ds=some ls->Reps K H F ds vs->vs=(ls.map tx).map V.str
 |[],_,bs,e,h=>by
  simp only[bF,a8]at e;subst e;exact h
 |d::ds,_,bs,e,⟨v,w,e1,h,t⟩=>by
  cases d with
  |str b=>
   simp only[bF]at e;cases q:bF ds with
   |none=>rw[q]at e;cases e
   |some s=>
    rw[q]at e;cases e;obtain ⟨hv,_⟩:=h;rw[e1,hv,xO q t];rfl
  |_=>simp[bF]at e
theorem Eu{K:PF}{H:Hp}{F:FZ}:∀{ds:List D}{vs:List V}{ns:List Int},cu ds=some ns->Reps K H F ds vs->vs=ns.map V.int
 |[],vs,ns,e,t=>by
  simp only[cu,a8]at e;subst e;have t:vs=[]:=t;rw[t];rfl
 |d::ds,vs,ns,e,t=>by
  obtain ⟨v,r,e1,h,t⟩:=t;cases d with
  |int b=>
   simp only[cu]at e;cases q:cu ds with
   |none=>rw[q]at e;cases e
   |some s=>
    rw[q]at e;cases e;have hv:v=.int b:=h;rw[e1,hv,Eu q t];rfl
  |_=>simp[cu]at e
theorem Ew:∀{ns:List Int}{its:List Value},Vals (ns.map V.int) its->IntsAre its ns
 |[],its,h=>by cases h;exact .nil
 |n::ns,its,h=>by
  cases h with
  |cons a b=>
   obtain ⟨t,rfl⟩:=a;exact .cons n t (Ew b)
theorem Ey:∀{ls:List (List Nat)}{its:List Value},Vals ((ls.map tx).map V.str) its->StrsAre its (ls.map tx)
 |[],its,h=>by cases h;exact .nil
 |n::ns,its,h=>by
  cases h with
  |cons a b=>
   obtain ⟨t,rfl⟩:=a;exact .cons _ t (Ey b)
theorem Ez{K:PF}{H:Hp}{F:FZ}:∀{ds:List D}{vs:List V}{ls:List (List Nat)},bF ds=some ls->Reps K H F ds vs->∀l∈ls,l.length<=sz
 |[],vs,ls,e,t=>by simp only[bF,a8]at e;subst e;intro l hl;cases hl
 |d::ds,vs,ls,e,t=>by
  obtain ⟨v,r,e1,h,t⟩:=t;cases d with
  |str b=>
   simp only[bF]at e;cases q:bF ds with
   |none=>rw[q]at e;cases e
   |some s=>
    rw[q]at e;cases e;intro l hl;rcases bS.mp hl with e |hl
    ·rw[e];exact h.2
    ·exact Ez q t l hl
  |_=>simp[bF]at e
theorem EY(val:Nat->List Nat):∀k,argBest (λi j=>decide (val i < val j)) k<=k/\∀j,j<=k->¬val j < val (argBest (λi j=>decide (val i < val j)) k)
 |0=>⟨aw _,λj hj=>by
  have:j=0:=by omega
  subst this;exact List.lt_irrefl _⟩
 |k+1=>by
  obtain ⟨h1,h2⟩:=EY val k;simp only[argBest];by_cases hc:val (k+1) < val (argBest (λi j=>decide (val i < val j)) k)
  ·rw[if_pos (by simpa using hc)];refine ⟨aw _,λj hj=>?_⟩;rcases Nat.lt_or_ge j (k+1) with hlt |hge
   ·exact λh=>h2 j (by omega) (List.lt_trans h hc)
   ·have:j=k+1:=by omega
    subst this;exact List.lt_irrefl _
  ·rw[if_neg (by simpa using hc)];refine ⟨by omega,λj hj=>?_⟩;rcases Nat.lt_or_ge j (k+1) with hlt |hge
   ·exact h2 j (by omega)
   ·have:j=k+1:=by omega
    subst this;exact hc
section
variable {prog:Program} {w:World} {A:Around} {E:Value->Shared->Prop} {s:Shared} {l:Addr}
theorem tM:∀{its:List Value}{ls:List (List Nat)}{i:Nat}{v:Value},StrsAre its (ls.map tx)->its[i]?=some v->∃t,v=.str (tx (ls.getD i [])) t
 |[],ls,i,v,_,h=>by simp at h
 |x::its,[],i,v,hs,h=>by cases hs
 |x::its,a::ls,0,v,hs,h=>by
  cases hs with
  |cons y t q=>exact ⟨t,by simpa using h.symm⟩
 |x::its,a::ls,i+1,v,hs,h=>by
  cases hs with
  |cons y t q=>
   have:=tM (i:=i) (v:=v) q (by simpa using h);simpa using this
theorem ZS{Q:Value->Shared->Prop}{its:List Value}{ls:List (List Nat)}(hh:A.handled=none)(hl:s.heap.IsList l its.toArray)(hs:StrsAre its (ls.map tx))(hn:its.length=ls.length)(hne:0 < ls.length)
  (h:∀(m:List Nat)(t:Tok)(h':Heap)(tk:Nat),m∈ls->(∀a,a∈ls->¬a < m)->(∀b o,s.heap.get? b=some o->h'.get? b=some o)->Q (.str (tx m) t) { s with heap:=h',toks:=tk }):
  wpAny (model prog w) A (call (.builtin "min") [.ref l]) Q E s:=by
 have hlt:l < s.heap.objs.size:=by obtain ⟨_,e,_⟩:=hl;exact aS e
 refine call_min_walk (wpAny_pyIter_list hl ?_);refine ⟨_,_,_,_,_,_,λi j=>decide (ls.getD i [] < ls.getD j []),rfl,Walks.list (A:=A.in1) hh _ l (cK hlt) its.toArray,⟨⟨_,bi _ rfl,rfl,rfl⟩,hl.push _⟩,?_,?_,?_,?_⟩
 ·intro b hb;show b < (s.heap.push _).objs.size;rw[eJ];rcases bS.mp hb with rfl |hb
  ·exact fw _
  ·rcases bS.mp hb with rfl |hb
   ·exact Nat.lt_succ_of_lt hlt
   ·cases hb
 ·simpa [hn] using hne
 ·intro i j vi vj s Q E hi hj h;obtain ⟨t,rfl⟩:=tM hs (by simpa using hi);obtain ⟨u,rfl⟩:=tM hs (by simpa using hj);exact richCompare_gives (op:=.Lt) (typeIs_str s _ t) (typeIs_str s _ u) F.slot_str_lt F.entry_str_lt (F.args_str_lt_2 _ _) (gives_str_lt _ _ t u) (λe=>nomatch e) h
 ·intro v h' tk hP hk;obtain ⟨t,rfl⟩:=tM hs (show its[_]?=some v by rw[<-List.getElem?_toArray];exact hP);obtain ⟨b1,b2⟩:=EY (λi=>ls.getD i []) (its.toArray.size - 1);have hsz:its.toArray.size=ls.length:=by simpa using hn
  refine h _ t h' tk ?_ (λa ha=>?_) (old_kept hk)
  ·rw[ee,a7 (by omega)];exact d4 _
  ·obtain ⟨j,hj,rfl⟩:=List.getElem_of_mem ha;have:=b2 j (by omega);rwa [show ls.getD j []=ls[j] by rw[ee,a7 hj];rfl]at this
end
theorem ZV (hc:X.calm=true):bT X (.builtin "min") (λxs H Q=>∃(p:Addr) (ns:List Int),xs=[.ref p]/\SqL X.K H p (ns.map V.int)/\ns≠[]/\∀m,m∈ns->(∀a,a∈ns->m<=a)->Q (.int m) H):=by
 intro pins s σ H xs us Q I r h;obtain ⟨p,ns,rfl,hq,hne,q⟩:=h;obtain ⟨u,rfl,ru⟩:=vals1 r;cases ru;obtain ⟨its,rv,pl,hz⟩:=I.list hq;have hi:=Ew rv;obtain ⟨xs,ex⟩:=hi.allInts.items;have hl:=pl.isList;rw[ex]at hl;have e1:xs.toList.map (·.1)=ns:=by rw[<-PySem.nums_intItems,<-ex];exact hi.numsOf
 have hsz:0 < xs.size:=by have:=fy.mpr hne;rw[<-e1,ag,d5]at this;exact this
 refine PySem.min_intList (I.ok.hd hc) hl hsz λv h' tk hv hk=>?_;obtain ⟨t,rfl⟩:=PySem.intItems_at hv;obtain ⟨b1,b2⟩:=PySem.argBest_lt (PySem.numAt xs) (xs.size - 1);refine ⟨.int _,H,I.kept hk,⟨t,rfl⟩,q _ ?_ λa ha=>?_⟩
 ·rw[<-e1,PySem.numAt_eq];exact PySem.getD_mem (by rw[ag,d5];omega)
 ·rw[<-e1]at ha;obtain ⟨j,hj,rfl⟩:=PySem.mem_getD ha;rw[ag,d5]at hj;rw[<-PySem.numAt_eq];exact b2 j (by omega)
theorem ZW (hc:X.calm=true):bT X (.builtin "min") (λxs H Q=>∃(p:Addr) (ls:List (List Nat)),xs=[.ref p]/\SqL X.K H p ((ls.map tx).map V.str)/\ls≠[]/\∀m,m∈ls->(∀a,a∈ls->¬a < m)->Q (.str (tx m)) H):=by
 intro pins s σ H xs us Q I r h;obtain ⟨p,ls,rfl,hq,hne,q⟩:=h;obtain ⟨u,rfl,ru⟩:=vals1 r;cases ru;obtain ⟨its,rv,pl,hz⟩:=I.list hq;have hlen:its.length=ls.length:=by rw[<-rv.length];simp
 refine ZS (I.ok.hd hc) pl.isList (Ey rv) hlen (fy.mpr hne) λm t h' tk h1 h2 hk=>?_;exact ⟨.str (tx m),H,I.kept hk,⟨t,rfl⟩,q m h1 h2⟩
theorem ZX{ds:List D}{ls:List (List Nat)}(h0:cu ds=none)(h1:bF ds=some ls):ls≠[]:=by
 rintro rfl;cases ds with
 |nil=>simp[cu]at h0
 |cons x y=>cases x <;> simp only[bF]at h1 <;> first | (cases h1;done) | (cases hd:bF y <;> rw[hd]at h1 <;> cases h1)
theorem ZZ (hc:X.calm=true):bT X (.builtin "min") (iC X.K .min):=by
 intro pins s σ H xs us Q I rs h;obtain ⟨F,G,ds,r,t,h⟩:=h;generalize ea:ds.map (view G)=va at h;simp only[opB,j9]at h;split at h
 ·obtain ⟨d,rfl,ev⟩:=map_one ea;obtain ⟨v,rfl,rv⟩:=bI t;obtain ⟨a,vs,e,q,t'⟩:=Rep.list r rv ev;subst e;split at h
  ·rename_i ns hb;have e2:=Eu hb t';subst e2;exact ZV hc pins s σ H _ us Q I rs ⟨a,ns,rfl,q,h.1,λm h1 h2=>(h.2 m h1 h2).now r rfl⟩
  ·split at h
   ·rename_i hb0 _ ls hb;have e2:=xO hb t';have hsz:=Ez hb t';subst e2;refine ZW hc pins s σ H _ us Q I rs ⟨a,ls,rfl,q,?_,λm h1 h2=>(h m h1 h2).now r ⟨rfl,hsz m h1⟩⟩;exact ZX (by assumption) hb
   ·exact h.elim
 ·exact h.elim
theorem Z0:bootBuiltins "min"=some (.builtin "min"):=by ac_rfl
theorem Z1:bT X (.type "str") (iC X.K .str):=by
 intro pins s σ H xs us Q I r h;obtain ⟨F,G,ds,rr,t,h⟩:=h;generalize ea:ds.map (view G)=va at h;simp only[opB,wg]at h;split at h
 ·rename_i i;obtain ⟨d',rfl,ev⟩:=map_one ea;obtain ⟨v',rfl,rv⟩:=bI t;have e1:=dX ev;subst e1;have e2:v'=.int i:=rv;subst e2;obtain ⟨⟨h0,h1⟩,h2⟩:=h;have hm:(i.toNat:Int)=i:=Int.toNat_of_nonneg h0;have hl:(gM i.toNat).length<=3:=by
   have:=digits_le ⟨i.toNat,by omega⟩;unfold gM;rw[d5];exact this
  have hs:=h2.now rr (v:=.str (tx (gM i.toNat))) ⟨rfl,by have hz:sz=1000000:=rfl;omega⟩;have ht:tx (gM i.toNat)=vU i.toNat:=(vN _).symm;rw[ht]at hs;exact YK pins s σ H _ us Q I r ⟨i.toNat,by rw[hm],by omega,hs⟩
 ·exact h.elim
noncomputable def dI:D->Option String
 |.non=>some "NoneType"
 |.bl _=>some "bool"
 |.int _=>some "int"
 |.str _=>some "str"
 |.tup _=>some "tuple"
 |.lst _=>some "list"
 |_=>none
theorem Z2{K:PF}{H:Hp}{F:FZ}{G:DH}{d:D}{v:V}{T:String}(r:R K H F G)(h:Rep K H F d v)(e:dI (view G d)=some T):TyOf K H v (.type T):=by
 have h':=tD r h;generalize view G d=w at e h';cases w with
 |non=>have e1:v=.non:=h';subst e1;simp only[dI,a8]at e;subst e;exact .non
 |bl x=>have e1:v=.bl x:=h';subst e1;simp only[dI,a8]at e;subst e;exact .bl x
 |int i=>have e1:v=.int i:=h';subst e1;simp only[dI,a8]at e;subst e;exact .int i
 |str l=>obtain ⟨e1,hl⟩:=h';subst e1;simp only[dI,a8]at e;subst e;exact .str _
 |tup l=>obtain ⟨a,vs,e1,q,t⟩:=h';subst e1;simp only[dI,a8]at e;subst e;exact .tup q.it
 |lst l=>obtain ⟨a,vs,e1,q,t⟩:=h';subst e1;simp only[dI,a8]at e;subst e;exact .lst q.2
 |ref a=>simp[dI]at e
 |scr a=>simp[dI]at e
 |exn a=>simp[dI]at e
 |obj _ _ _=>simp[dI]at e
def Z3 (K:PF):Prop:=∀T t:String,T∈["NoneType","bool","int","str","tuple","list"]->fX t=true->PySem.W.kitOne K (.type T) (.type t)=some (T==t||(T=="bool"&&t=="int"))
theorem Z4{K:PF}:Z3 K:=by intro T t hT ht;simp only[bS,gs,or_false]at hT;simp only[fX,cq,aI]at ht;rcases hT with rfl |rfl |rfl |rfl |rfl |rfl <;> rcases ht with (((rfl |rfl) |rfl) |rfl) |rfl <;> (with_unfolding_all rfl)
theorem Z5 {d:D} {t:String} {b:Bool} (e:isT t d=some b):∃T,dI d=some T/\T∈["NoneType","bool","int","str","tuple","list"]/\(fX t=true->b=(T==t||(T=="bool"&&t=="int"))):=by
 have comm:∀a b:String,(a==b)=(b==a):=λa b=>by rw[Bool.eq_iff_iff,aI,aI];exact ⟨Eq.symm,Eq.symm⟩
 cases d with
 |non=>
  refine ⟨"NoneType",rfl,by simp,λht=>?_⟩;simp only[isT,a8]at e;simp only[fX,cq,aI]at ht;subst e;rcases ht with (((rfl |rfl) |rfl) |rfl) |rfl <;> rfl
 |bl _=>
  refine ⟨"bool",rfl,by simp,λht=>?_⟩;simp only[isT,a8]at e;rw[<-e,comm t "bool"];rfl
 |int _=>
  refine ⟨"int",rfl,by simp,λht=>?_⟩;simp only[isT,a8]at e;rw[<-e,comm t "int"];simp
 |str _=>
  refine ⟨"str",rfl,by simp,λht=>?_⟩;simp only[isT,a8]at e;rw[<-e,comm t "str"];simp
 |tup _=>
  refine ⟨"tuple",rfl,by simp,λht=>?_⟩;simp only[isT,a8]at e;rw[<-e,comm t "tuple"];simp
 |lst _=>
  refine ⟨"list",rfl,by simp,λht=>?_⟩;simp only[isT,a8]at e;rw[<-e,comm t "list"];simp
 |ref a=>simp[isT]at e
 |scr a=>simp[isT]at e
 |exn a=>simp[isT]at e
 |obj _ _ _=>simp[isT]at e
theorem Fb(s:List Nat):∀ls:List (List Nat),Str.join (tx s) (ls.map tx)=tx (dZ s ls)
 |[]=>rfl
 |[x]=>rfl
 |x::y::r=>by
  have ih:=Fb s (y::r);show tx x++tx s++Str.join (tx s) ((y::r).map tx)=_;rw[ih,qC,qC];rfl
theorem Fd(s:List Nat):∀ls:List (List Nat),(dZ s ls).length<=(ls.map (·.length)).sum+ls.length * s.length
 |[]=>by simp[dZ]
 |[x]=>by simp[dZ]
 |x::y::r=>by
  have ih:=Fd s (y::r);simp only[dZ,ar,br,List.sum_cons,cf]at ih ⊢;have:(r.length+1+1) * s.length=(r.length+1) * s.length+s.length:=by rw[Nat.succ_mul]
  omega
noncomputable def gR(K:PF)(m:Mf):V->List V->Hp->VK->Prop:=λx vs H Q=>∃F G d ds,R K H F G/\Rep K H F d x/\Reps K H F ds vs/\opM m d ds G (PV K H F Q)
theorem Z6:MtR X "str.join" (gR X.K .join):=by
 intro pins s σ H x xs v us Q I rx rs h;obtain ⟨F,G,d,ds,r,rd,t,h⟩:=h;simp only[opM]at h;generalize ea:ds.map (view G)=va at h;simp only[qJ]at h;split at h
 ·obtain ⟨d',rfl,ev⟩:=map_one ea;obtain ⟨v',rfl,rv⟩:=bI t;obtain ⟨a,vs,e,q,t'⟩:=Rep.list r rv ev;subst e;obtain ⟨e1,hl⟩:=rd;subst e1;split at h
  ·rename_i ls hls;have e2:=xO hls t';subst e2;refine XJ pins s σ H _ _ v us Q I rx rs ⟨_,a,_,rfl,rfl,q,?_,?_⟩
   ·have hz:=h.1;rw[List.map_map,ag,bZ,show (λx:Str=>x.length)∘tx=λl=>l.length from funext bZ];have:sz=1000000:=rfl;omega
   ·rw[Fb];exact h.2.now r ⟨rfl,b6 (Fd _ _) h.1⟩
  ·exact h.elim
 ·exact h.elim
theorem Z7{l:List Nat}{c i:Nat}(h1:i+(tx [c]).length<=(tx l).length)(h:PySem.Builtin.Str.strSub (tx l) i (i+(tx [c]).length)=tx [c]):l[i]?=some c:=by
 have e:(⟨(tx l).cps.extract i (i+1)⟩:Str)=⟨#[c]⟩:=h;have e2:(tx l).cps.extract i (i+1)=#[c]:=eA Str.cps e;have h1':i+1<=l.length:=by have:=h1;rw[bZ,bZ]at this;exact this
 have e3:((tx l).cps.extract i (i+1)).toList=[c]:=eA Array.toList e2;rw[Array.toList_extract]at e3;have e4:(tx l).cps.toList=l:=rfl;rw[e4]at e3;have e5:=eA (·[0]?) e3;simpa [List.extract,List.getElem?_take,List.getElem?_drop] using e5
theorem m_find:MtR X "str.find" (gR X.K .find):=by
 intro pins s σ H x xs v us Q I rx rs h;obtain ⟨F,G,d,ds,r,rd,t,h⟩:=h;simp only[opM,wu]at h;split at h
 ·rename_i l c;obtain ⟨v',rfl,rv⟩:=bI t;obtain ⟨e1,_⟩:=rd;subst e1;obtain ⟨e2,_⟩:=rv;subst e2;obtain ⟨tt,rfl⟩:=rx;obtain ⟨u,rfl,ru⟩:=vals1 rs;obtain ⟨tu,rfl⟩:=ru;refine SC.find ?_;rcases find_spec (tx l) (tx [c]) with e |⟨i,e,hl,hs⟩
  ·rw[e];exact ⟨.int (-1),H,I.tok _,⟨_,rfl⟩,h.1.now r rfl⟩
  ·rw[e];exact ⟨.int i,H,I.tok _,⟨_,rfl⟩,(h.2 i (Z7 hl hs)).now r rfl⟩
 ·exact h.elim
theorem Z8:MtM X "list.append" (gR X.K .append):=by
 intro pins s σ H x xs v us Q I rx rs h;obtain ⟨F,G,d,ds,r,rd,t,h⟩:=h;simp only[opM,qK]at h;split at h
 ·obtain ⟨v',rfl,rv⟩:=bI t;have e1:x=.ref _:=rd;subst e1;split at h
  ·rename_i ds0 hg;obtain ⟨vs,q,t'⟩:=r.lst hg;refine Xo pins s σ H _ _ v us Q I rx rs ⟨_,vs,v',rfl,rfl,q,?_,?_⟩
   ·rw[<-t'.length];exact bP h.1 szl
   ·exact h.2 _ _ _ (iw r hg) (r.write hg (t'.append (Reps.cons rv Reps.nil))) rfl
  ·exact h.elim
 ·exact h.elim
theorem Z9:MtR X "list.count" (gR X.K .count):=by
 intro pins s σ H x xs v us Q I rx rs h;obtain ⟨F,G,d,ds,r,rd,t,h⟩:=h;simp only[opM]at h;generalize ea:view G d=va at h;simp only[qN]at h;split at h
 ·obtain ⟨a,vs,e,q,t'⟩:=Rep.list r rd ea;subst e;obtain ⟨v',rfl,rv⟩:=bI t;have e2:v'=.bl true:=rv;subst e2;split at h
  ·rename_i bs hbs;have e3:=tH hbs t';subst e3;exact YD pins s σ H _ _ v us Q I rx rs ⟨a,bs,rfl,rfl,q,h.now r rfl⟩
  ·exact h.elim
 ·exact h.elim
theorem aaa:MtR X "list.index" (gR X.K .index):=by
 intro pins s σ H x xs v us Q I rx rs h;obtain ⟨F,G,d,ds,r,rd,t,h⟩:=h;simp only[opM]at h;generalize ea:view G d=va at h;simp only[qO]at h;split at h
 ·obtain ⟨a,vs,e,q,t'⟩:=Rep.list r rd ea;subst e;obtain ⟨v',rfl,rv⟩:=bI t;have e2:v'=.bl true:=rv;subst e2;split at h
  ·rename_i bs hbs;have e3:=tH hbs t';subst e3;exact YG pins s σ H _ _ v us Q I rx rs ⟨a,bs,rfl,rfl,q,h.1,h.2.now r rfl⟩
  ·exact h.elim
 ·exact h.elim
noncomputable def aab:V->List V->Hp->VK->Prop:=λx vs H Q=>∃(l:Addr)(xs:List V)(i:Int)(y:V),x=.ref l/\vs=[.int i,y]/\H l=some (.lst xs)/\xs.length < sizeLine/\0<=i/\i<=1000000/\Q .non (upd H l (.lst (xs.take i.toNat++y::xs.drop i.toNat)))
theorem aac{its:List Value}{i:Int}{u:Value}(h:0<=i):(its.toArray.extract 0 (if i < 0 then (i+(its.toArray.size:Int)).toNat else min i.toNat its.toArray.size)).push u++its.toArray.extract (if i < 0 then (i+(its.toArray.size:Int)).toNat else min i.toNat its.toArray.size)=(its.take i.toNat++u::its.drop i.toNat).toArray:=by
 rw[if_neg (by omega),PySem.W.kl_ins_eq,av];by_cases hc:i.toNat<=its.length
 ·rw[Nat.min_eq_left hc]
 ·rw[Nat.min_eq_right (by omega),eK (aw _),List.drop_of_length_le (aw _),eK (by omega),List.drop_of_length_le (by omega)]
theorem aad{i:Int}(h0:0<=i)(h1:i<=1000000):¬(!Builtin.List.listFitsIndex i)=true:=by
 have:Builtin.List.listFitsIndex i=true:=by unfold Builtin.List.listFitsIndex;rw[ae];exact ⟨b9 (by omega),b9 (by omega)⟩
 rw[this];decide
theorem aae:MtM X "list.insert" aab:=by
 intro pins s σ H x vs v us Q I rx rv h;obtain ⟨l,xs,i,y,rfl,rfl,hH,hz,h0,h1,q⟩:=h;cases rx;cases rv with
 |cons r1 rv=>
  obtain ⟨t,rfl⟩:=r1;obtain ⟨u,rfl,ru⟩:=L2.Vals.one rv;obtain ⟨z,its,m,r,hl,e⟩:=I.lstM hH;refine fA PySem.F.slot_list_insert ⟨_,e,rfl⟩ PySem.F.entry_list_insert (PySem.F.args_list_insert_3 _ _ _) (PySem.AutoSeq1.list_insert_list_int_val_1 l its.toArray m i t u (aad h0 h1) (by rw[av];omega)) ⟨e,?_⟩;refine ⟨.non,_,I.lset (its':=its.take i.toNat++u::its.drop i.toNat) hH e (aac h0) ((r.take _).append (.cons ru (r.drop _))) ?_,rfl,q⟩;rw[ar,cf,aT,bp];omega
theorem aaf:MtM X "list.insert" (gR X.K .insert):=by
 intro pins s σ H x xs v us Q I rx rs h;obtain ⟨F,G,d,ds,r,rd,t,h⟩:=h;simp only[opM,qM]at h;split at h
 ·rename_i i y;obtain ⟨v1,r1,rfl,rv1,t⟩:=t;obtain ⟨v',rfl,rv⟩:=bI t;have e1:x=.ref _:=rd;subst e1;have e2:v1=.int i:=rv1;subst e2;split at h
  ·rename_i ds0 hg;obtain ⟨h1,h2,h3,h4⟩:=h;obtain ⟨vs,q,t'⟩:=r.lst hg;refine aae pins s σ H _ _ v us Q I rx rs ⟨_,vs,i,v',rfl,rfl,q,?_,h2,h3,?_⟩
   ·rw[<-t'.length];exact bP h1 szl
   ·exact h4 _ _ _ (iw r hg) (r.write hg ((t'.take _).append (Reps.cons rv (t'.drop _)))) rfl
  ·exact h.elim
 ·exact h.elim
theorem aag:MtM X "list.pop" (gR X.K .pop):=by
 intro pins s σ H x xs v us Q I rx rs h;obtain ⟨F,G,d,ds,r,rd,t,h⟩:=h;simp only[opM,wk]at h;split at h
 ·rename_i i;obtain ⟨v',rfl,rv⟩:=bI t;have e1:x=.ref _:=rd;subst e1;have e2:v'=.int i:=rv;subst e2;split at h
  ·rename_i ds0 hg;obtain ⟨h1,h2,h3⟩:=h;obtain ⟨vs,q,t'⟩:=r.lst hg;split at h3
   ·rename_i y hy;obtain ⟨u,hu,ru⟩:=t'.get hy;have hlt:i.toNat < vs.length:=(ah.mp hu).1;refine Xu pins s σ H _ _ v us Q I rx rs ⟨_,vs,i,i.toNat,u,rfl,rfl,q,by omega,by omega,?_,hu,?_⟩
    ·unfold seqIndex?;have e3:¬i < 0:=by omega
     simp[e3];omega
    ·rw[List.eraseIdx_eq_take_drop_succ];rw[List.eraseIdx_eq_take_drop_succ]at h3;have rw2:=r.write hg ((t'.take i.toNat).append (t'.drop (i.toNat+1)));exact h3 _ _ _ (iw r hg) rw2 (Rep.ext (iw r hg) ru)
   ·exact h3.elim
  ·exact h.elim
 ·exact h.elim
theorem aah{K:PF}{H:Hp}{F:FZ}{G:DH}{d:D}{v:V}{ds:List D}(r:R K H F G)(h:Rep K H F d v)(e:view G d=.lst ds):∃a vs,v=.ref a/\H a=some (.lst vs)/\Reps K H F ds vs:=by
 cases d with
 |lst xs=>
  have e':D.lst xs=.lst ds:=e;cases e';obtain ⟨a,vs,e1,q,t⟩:=h;exact ⟨a,vs,e1,q.2,t⟩
 |ref p=>
  have hv:v=.ref p:=h;unfold view at e;cases g:G p with
  |none=>simp only[g]at e;cases e
  |some o=>
   cases o with
   |lst xs=>
    simp only[g]at e;cases e;obtain ⟨vs,q,t⟩:=r.lst g;exact ⟨p,vs,hv,q,t⟩
 |_=>cases (show _=D.lst ds from e)
theorem aai:MtM X "list.extend" (gR X.K .extend):=by
 intro pins s σ H x xs v us Q I rx rs h;obtain ⟨F,G,d,ds,r,rd,t,h⟩:=h;simp only[opM]at h;generalize ea:ds.map (view G)=va at h;simp only[qL]at h;split at h
 ·obtain ⟨d',rfl,ev⟩:=map_one ea;obtain ⟨v',rfl,rv⟩:=bI t;obtain ⟨b,vs2,e2,q2,t2⟩:=aah r rv ev;subst e2;have e1:x=.ref _:=rd;subst e1;split at h
  ·rename_i ds0 hg;obtain ⟨vs,q,t'⟩:=r.lst hg;refine Xq pins s σ H _ _ v us Q I rx rs ⟨_,b,vs,vs2,rfl,rfl,q,q2,?_,?_⟩
   ·rw[<-t'.length,<-t2.length];exact Nat.le_of_lt (bP h.1 szl)
   ·exact h.2 _ _ _ (iw r hg) (r.write hg (t'.append t2)) rfl
  ·exact h.elim
 ·exact h.elim
theorem aaj:vC X (λo i x H Q=>∃F G a b c,R X.K H F G/\Rep X.K H F a o/\Rep X.K H F b i/\Rep X.K H F c x/\d7 a b c G (λG'=>∀H' F',Ext H F H' F'->R X.K H' F' G'->Q H')):=by
 intro pins s σ H o i v ov iv u Q I ro ri rv h;obtain ⟨F,G,a,b,c,r,ra,rb,rc,h⟩:=h;unfold d7 at h;split at h
 ·have e1:o=.ref _:=ra;have e2:i=.int _:=rb;subst e1;subst e2;split at h
  ·rename_i ds hg;obtain ⟨vs,q,t⟩:=r.lst hg;split at h
   ·rename_i j hj;refine set_list pins s σ H _ _ v ov iv u Q I ro ri rv ⟨_,vs,_,j,rfl,rfl,q,by rw[<-t.length];exact hj,?_⟩;exact h _ _ (iw r hg) (r.write hg (t.set rc j))
   ·exact h.elim
  ·exact h.elim
 ·exact h.elim
theorem aak(op:Operator):PIp X op (λx y H Q=>∃F G a b,R X.K H F G/\Rep X.K H F a x/\Rep X.K H F b y/\dH op a b (λd=>PV X.K H F Q d G)):=by
 intro pins s σ H x y v u Q I rx ry h;obtain ⟨F,G,a,b,r,ra,rb,h⟩:=h;unfold dH at h;split at h
 ·have e1:x=.int _:=ra;have e2:y=.int _:=rb;subst e1;subst e2;exact Wd pins s σ H _ _ v u Q I rx ry ⟨_,_,rfl,rfl,h.now r rfl⟩
 ·obtain ⟨e1,l1⟩:=ra;obtain ⟨e2,l2⟩:=rb;subst e1;subst e2;refine Wr pins s σ H _ _ v u Q I rx ry ⟨_,_,rfl,rfl,by rw[bZ,bZ];exact cR h.1,?_⟩;rw[qC];exact h.2.now r ⟨rfl,by rw[ar];exact h.1⟩
 ·have e1:x=.int _:=ra;have e2:y=.int _:=rb;subst e1;subst e2;exact We pins s σ H _ _ v u Q I rx ry ⟨_,_,rfl,rfl,h.now r rfl⟩
 ·exact h.elim
end
inductive SK where
 |lst (a:Addr) |tup (a:Addr) |str (x:Str) (t:Tok)
def SK.val:SK->Value
 |.lst a=>.ref a
 |.tup a=>.ref a
 |.str x t=>.str x t
def SK.cls:SK->String
 |.lst _=>"list_iterator"
 |.tup _=>"tuple_iterator"
 |.str x _=>strIterType x
def SK.obj(k:SK):Obj:={ cls:=.type k.cls,data:=.fields #[k.val,.int 0 0] }
def SK.pos(k:SK)(it:Addr)(i:Nat)(h:Heap):Prop:=∃o,h.get? it=some o/\o.cls=.type k.cls/\o.data=.fields #[k.val,.int i 0]
def SK.Sat(H:Hp)(vs:List V):SK->Prop
 |.lst a=>H a=some (.lst vs)
 |.tup a=>H a=some (.tup vs)
 |.str x _=>vs=x.cps.toList.map λc=>V.str ⟨#[c]⟩
def SK.No(e:Addr):SK->Prop
 |.lst a=>a≠e
 |.tup a=>a≠e
 |.str _ _=>True
theorem SK.Sat.no{H:Hp}{vs:List V}{k:SK}{e:Addr}(h:k.Sat H vs)(he:H e=none):k.No e:=by
 cases k with
 |lst a=>exact bN (show H a=some _ from h) he
 |tup a=>exact bN (show H a=some _ from h) he
 |str x t=>trivial
def SK.On(its:Array Value)(h:Heap):SK->Prop
 |.lst a=>h.IsList a its
 |.tup a=>h.IsTuple a its
 |.str _ _=>True
theorem SK.On.keeps{its:Array Value}{h h':Heap}{k:SK}(x:k.On its h)(kk:∀b o,k.val=.ref b->h.get? b=some o->h'.get? b=some o):k.On its h':=by
 cases k with
 |lst a=>obtain ⟨o,e,r⟩:=x;exact ⟨o,kk a o rfl e,r⟩
 |tup a=>obtain ⟨o,e,r⟩:=x;exact ⟨o,kk a o rfl e,r⟩
 |str _ _=>trivial
section
variable {prog:Program} {w:World} {A:Around} {E:Value->Shared->Prop} {s:Shared}
theorem SK.iter{k:SK}{its:Array Value}{Q:Value->Shared->Prop}(h:k.On its s.heap)(q:Q (.ref s.heap.objs.size) { s with heap:=s.heap.push k.obj }):wpAny (model prog w) A (pyIter k.val) Q E s:=by
 cases k with
 |lst a=>exact wpAny_pyIter_list h q
 |tup a=>exact wpAny_pyIter_tuple h q
 |str x t=>exact wpAny_pyIter_strU q
theorem SK.pos0{k:SK}{h:Heap}:k.pos h.objs.size 0 (h.push k.obj):=⟨_,bi _ rfl,rfl,rfl⟩
theorem SK.pos.keep{k:SK}{it:Addr}{i:Nat}{h h':Heap}(x:k.pos it i h)(kk:∀o,h.get? it=some o->h'.get? it=some o):k.pos it i h':=let ⟨o,e,r⟩:=x;⟨o,kk o e,r⟩
theorem aal{it t:Addr}{i:Nat}{items}{x:Value}{Q:Value->Shared->Prop}(hit:s.heap.IsTupleIter it t i)
  (ht:s.heap.IsTuple t items) (hx:items[i]?=some x)
  (hQ:∀h',h'.IsTupleIter it t (i+1)->Heap.SameBut it s.heap h'->Q x { s with heap:=h' }):
  wpAny (model prog w) A (Builtin.SmallTypes.nextOf (.ref it)) Q E s:=by
 obtain ⟨o,ho,hc,hd⟩:=id hit;obtain ⟨ol,hol,_,nl,hdl⟩:=ht;unfold Builtin.SmallTypes.nextOf;refine al (fg (name:=Str.ofString "__next__") hit.typeIs fF
  (fR fF hit.typeIs F.entry_tuple_iterator_next ?_ (F.args_tuple_iterator_next_1 _)))
 show wpAny _ _ (field (.ref it) 0 >>= _) _ _ s;refine al (dS ho hd (x:=.ref t) rfl ?_);show wpAny _ _ (if (Value.ref t==Value.none)=true then _ else _) _ _ s;rw[if_neg (show ¬((Value.ref t==Value.none)=true) from a9)];show wpAny _ _ (field (.ref it) 1 >>= _) _ _ s;refine al (dS ho hd (x:=.int i 0) rfl ?_);show wpAny _ _ (seqItems? (.ref t) >>= _) _ _ s;refine al (eT hol hdl ?_);simp only[dP,hx];refine al (wpAny_setField ho hd (by simp) (bo ⟨x,rfl,bo (hQ _ ?_ (Heap.SameBut.update ..))⟩));exact ⟨_,Heap.get?_update_self _ ho (Obj.isFreed_of_fields (Obj.data_mapFields hd _)),(Obj.cls_mapFields ..).trans hc,by
  rw[Obj.data_mapFields hd];simp[rawInt]⟩
theorem aam{it t:Addr}{i:Nat}{items}{Q:Value->Shared->Prop}(hh:A.handled=none)
  (hit:s.heap.IsTupleIter it t i) (ht:s.heap.IsTuple t items) (hx:items[i]?=none)
  (hE:∀h' e,Heap.ExtBut it s.heap h'->(∃o,h'.get? e=some o/\o.cls=.type "StopIteration")->E (.ref e) { s with heap:=h' }):
  wpAny (model prog w) A (Builtin.SmallTypes.nextOf (.ref it)) Q E s:=by
 obtain ⟨o,ho,hc,hd⟩:=id hit;obtain ⟨ol,hol,_,nl,hdl⟩:=ht;unfold Builtin.SmallTypes.nextOf;refine al (fg (name:=Str.ofString "__next__") hit.typeIs fF
  (fR fF hit.typeIs F.entry_tuple_iterator_next ?_ (F.args_tuple_iterator_next_1 _)))
 show wpAny _ _ (field (.ref it) 0 >>= _) _ _ s;refine al (dS ho hd (x:=.ref t) rfl ?_);show wpAny _ _ (if (Value.ref t==Value.none)=true then _ else _) _ _ s;rw[if_neg (show ¬((Value.ref t==Value.none)=true) from a9)];show wpAny _ _ (field (.ref it) 1 >>= _) _ _ s;refine al (dS ho hd (x:=.int i 0) rfl ?_);show wpAny _ _ (seqItems? (.ref t) >>= _) _ _ s;refine al (eT hol hdl ?_);simp only[dP,hx];refine al (wpAny_rule (al (wpAny_setField ho hd (by simp) ?_)));show wpAny _ _ (newExc (.type "StopIteration") [] >>= _) _ _ _;refine al ?_;simp only[newExc,newTuple];refine al (wpAny_newObj_type ?_ (by size_fits));refine al (m:=firstArgMember _ _) (wpAny_of_eq (a:=Value.none) (by first |rfl | (simp only[firstArgMember];rfl)) ?_);refine wpAny_newObj_type ?_ (by size_fits);simp only[raiseNew];refine al (wpAny_handled ?_);first |rw[show A.in1.handled=none from hh] |rw[hh]
 refine al (bo (wpAny_throw ?_));exact hE _ _ (((Heap.SameBut.update ..).extBut.push _).push _) ⟨_,bi _ rfl,rfl⟩
theorem aan(hh:A.handled=none)(it l:Addr)(hne:l≠it)(items:Array Value):
  Draws prog w A it [it,l] items.size (λi v=>items[i]?=some v) (λi h=>h.IsTupleIter it l i/\h.IsTuple l items) where
 live:=λ_ _ st=>let ⟨o,ho,_⟩:=st.1;⟨o,ho⟩
 frame:=λ_ _ _ st hk=>⟨let ⟨o,e,r⟩:=st.1;⟨o,hk it (by simp) o e,r⟩,let ⟨o,e,r⟩:=st.2;⟨o,hk l (by simp) o e,r⟩⟩
 item:=λi s Q E hi st hQ=>by
  refine aal st.1 st.2 (x:=items[i]) (by simp[hi]) λh' hit' hs'=>?_;exact hQ _ h' s.toks (by simp[hi]) ⟨hit',let ⟨o,e,r⟩:=st.2;⟨o,hs'.extBut l o hne e,r⟩⟩ hs'
 done:=λs Q E st hE=>aam hh st.1 st.2 (by simp) hE
end
structure Drawn(P:Program)(w:World)(A:Around)(k:SK)(it:Addr)(i:Nat)(vs:List V)(h:Heap)(fp:List Addr)(Pd:Nat->Value->Prop)(S:Nat->Heap->Prop):Prop where
 D:Draws P w A it fp vs.length Pd S
 st:S i h
 val:∀j v,Pd j v->∃x,vs[j]?=some x/\RelV x v
 pos:∀j h,S j h->k.pos it j h
 fp:∀b∈fp,b=it\/k.val=.ref b
theorem drawn{X:Cx}{pins:List (Addr×Obj)}{σ:L2.St}{H:Hp}{s:Shared}{A:Around}(hh:A.handled=none)(I:Inv X pins σ H s){k:SK}{it:Addr}{i:Nat}{vs:List V}(sat:k.Sat H vs)(hit:H it=none)(p:k.pos it i s.heap):
  ∃fp Pd S,Drawn X.prog X.w A k it i vs s.heap fp Pd S:=by
 cases k with
 |lst a=>
  have sat:H a=some (.lst vs):=sat;obtain ⟨its,r,pl,_⟩:=I.list (SqL.of sat);refine ⟨[it,a],λj v=>its.toArray[j]?=some v,λj h=>h.IsListIter it a j/\h.IsList a its.toArray,?_,⟨p,pl.isList⟩,?_,λj h st=>st.1,?_⟩
  ·have D:=Draws.list (prog:=X.prog) (w:=X.w) hh it a (bN sat hit) its.toArray;rw[av,<-r.length]at D;exact D
  ·intro j v e;have e:its.toArray[j]?=some v:=e;have hj:j < vs.length:=by
    rw[r.length];have:=(Array.getElem?_eq_some_iff.mp e).1;simpa using this
   obtain ⟨u,e2,r2⟩:=r.get (show vs[j]?=some vs[j] by simp[hj]);refine ⟨vs[j],by simp[hj],?_⟩;have:its[j]?=some v:=by simpa using e
   rw[this]at e2;cases e2;exact r2
  ·intro b hb;have hb:b=it\/b=a:=by simpa using hb
   rcases hb with e |e
   ·exact .inl e
   ·exact .inr (by rw[e];rfl)
 |tup a=>
  have sat:H a=some (.tup vs):=sat;obtain ⟨its,r,pl,_⟩:=I.tuple (SqT.of sat);refine ⟨[it,a],λj v=>its.toArray[j]?=some v,λj h=>h.IsTupleIter it a j/\h.IsTuple a its.toArray,?_,⟨p,pl⟩,?_,λj h st=>st.1,?_⟩
  ·have D:=aan (prog:=X.prog) (w:=X.w) hh it a (bN sat hit) its.toArray;rw[av,<-r.length]at D;exact D
  ·intro j v e;have e:its.toArray[j]?=some v:=e;have hj:j < vs.length:=by
    rw[r.length];have:=(Array.getElem?_eq_some_iff.mp e).1;simpa using this
   obtain ⟨u,e2,r2⟩:=r.get (show vs[j]?=some vs[j] by simp[hj]);refine ⟨vs[j],by simp[hj],?_⟩;have:its[j]?=some v:=by simpa using e
   rw[this]at e2;cases e2;exact r2
  ·intro b hb;have hb:b=it\/b=a:=by simpa using hb
   rcases hb with e |e
   ·exact .inl e
   ·exact .inr (by rw[e];rfl)
 |str x t=>
  have sat:vs=x.cps.toList.map λc=>V.str ⟨#[c]⟩:=sat;refine ⟨[it],λi v=>∃c u,x.cps[i]?=some c/\v=.str ⟨#[c]⟩ u,λi h=>h.IsStrIter it (strIterType x) x t i,?_,p,?_,λj h st=>st,?_⟩
  ·have D:=X8 (prog:=X.prog) (w:=X.w) hh it x t;have e:x.cps.size=vs.length:=by rw[sat,ag,d5]
   rw[e]at D;exact D
  ·rintro j v ⟨c,u,e1,e2⟩;refine ⟨V.str ⟨#[c]⟩,?_,u,e2⟩;rw[sat,ay,gl,e1];rfl
  ·intro b hb;exact .inl (by simpa using hb)
def Jk(k:SK):It:=⟨λi H=>∃vs,k.Sat H vs/\i < vs.length,λi H x H'=>H'=H/\∀vs,k.Sat H vs->vs[i]?=some x,λi H=>∃vs,k.Sat H vs/\vs.length=i⟩
def Je(k:SK):It:=⟨λi H=>∃vs,k.Sat H vs/\i < vs.length,λi H x H'=>∃T y,H T=none/\x=.ref T/\H'=upd H T (.tup [.int i,y])/\∀vs,k.Sat H vs->vs[i]?=some y,λi H=>∃vs,k.Sat H vs/\vs.length=i⟩
theorem xP{H:Hp}{k:SK}{vs ws:List V}(h:k.Sat H vs)(h':k.Sat H ws):vs=ws:=by
 cases k with
 |lst a=>have e:=(show H a=some _ from h).symm.trans h';cases e;rfl
 |tup a=>have e:=(show H a=some _ from h).symm.trans h';cases e;rfl
 |str x t=>exact (show vs=_ from h).trans (show ws=_ from h').symm
theorem aao{P:Program}{w:World}{K:PF}{elts:List Expr}{x1:Nat}{pos:Pos}(k:SK)(e it:Addr)(hne:e≠it):
  Turn P w K (.Tuple elts x1 pos) (Je k) [e,it] e (λi h=>(∃old,IsEnum h e it i old)/\k.pos it i h) where
 mem:=by simp
 obj:=λi h st b hb=>by
  obtain ⟨⟨old,he⟩,o,ho,c,d⟩:=st;have hb:b=e\/b=it:=by simpa using hb
  rcases hb with rfl |rfl
  ·exact ⟨_,he,λv z=>by have z':Data.fields _=Data.cell v:=z;cases z'⟩
  ·exact ⟨o,ho,λv z=>by rw[d]at z;cases z⟩
 keep:=λi h h' st kk=>⟨let ⟨old,he⟩:=st.1;⟨old,kk e (by simp) _ he⟩,st.2.keep λo ho=>kk it (by simp) o ho⟩
 item:=by
  intro X hP hw hK hc i pins s σ H E I hf st hg;subst hP hw hK;obtain ⟨vs,sat,hi⟩:=hg;obtain ⟨⟨old,he⟩,hit⟩:=st;have hfe:=hf e (by simp);have hfi:=hf it (by simp);obtain ⟨fp,Pd,S,Dr⟩:=drawn (A:=X.A.in1) (I.ok.hd hc) I sat hfi.1 hit;have helt:e < s.heap.objs.size:=aS he;have hef:e∉fp:=λhb=>by
   rcases Dr.fp e hb with z |z
   ·exact hne z
   ·have:=sat.no hfe.1;cases k with
    |lst a=>cases z;exact this rfl
    |tup a=>cases z;exact this rfl
    |str _ _=>cases z
  refine wpAny_pyNext_enum_itemD Dr.D he Dr.st hi hne hef λu h1 tk hu heo hit1 ht1 hz1 hk1=>?_;obtain ⟨x,hx,ru⟩:=Dr.val _ _ hu;refine ⟨_,rfl,?_⟩;refine wpAny_letOwnedTupleGo_enum heo λh2 he2 hs2=>?_;have hs2':Heap.SameBut e h1 h2:=hs2;have hn:H s.heap.objs.size=none:=I.hok.fresh (aw _);have k2:∀b o,b∉[e,it]->s.heap.get? b=some o->h2.get? b=some o:=λb o hb q=>by
   have hb':b≠e/\b≠it:=by simpa using hb
   exact hs2'.extBut b o hb'.1 (hk1 b o hb'.1 hb'.2 q)
  have I2:Inv X pins σ H { s with heap:=h2,toks:=tk+1 }:=I.turnedL hf k2;have ht2:h2.get? s.heap.objs.size=some { cls:=.type "tuple",data:=.seq #[.int i tk,u] }:=hs2'.extBut _ _ (gc helt) ht1;have ob:ObjOk X.prog X.w (upd H s.heap.objs.size (.tup [.int i,x])) h2 s.heap.objs.size (.tup [.int i,x]):=
   ⟨by rw[sizeLine_eq];simp,[.int i tk,u],.cons ⟨_,rfl⟩ (.cons ru .nil),⟨_,ht2,rfl,_,rfl⟩⟩
  have I3:=I2.track (I.fpOk (aw _) hn) ob;have nee:s.heap.objs.size≠e:=gc helt;have nei:s.heap.objs.size≠it:=by obtain ⟨o,ho,_⟩:=hit;exact gc (aS ho)
  refine ⟨.ref s.heap.objs.size,_,I3,rfl,⟨s.heap.objs.size,x,hn,rfl,rfl,λys hy=>by rw[xP hy sat];exact hx⟩,⟨⟨u,?_⟩,?_⟩,λb hb=>?_⟩
  ·show IsEnum h2 e it (((i+1:Nat)):Int) u;rw[show (((i+1:Nat):Int))=(i:Int)+1 by omega];exact he2
  ·exact (Dr.pos _ _ hit1).keep λo ho=>hs2'.extBut _ _ (Ne.symm hne) ho
  ·have hb':b=e\/b=it:=by simpa using hb
   rw[aP (by rcases hb' with rfl |rfl;exact Ne.symm nee;exact Ne.symm nei)];exact (hf b hb).1
 done:=by
  intro X hP hw hK hc i pins s σ H E I hf st hg;subst hP hw hK;obtain ⟨vs,sat,hi⟩:=hg;subst hi;obtain ⟨⟨old,he⟩,hit⟩:=st;have hfi:=hf it (by simp);obtain ⟨fp,Pd,S,Dr⟩:=drawn (A:=X.A.in1) (I.ok.hd hc) I sat hfi.1 hit;refine wpAny_pyNext_enum_endD Dr.D he Dr.st λh' eb=>⟨rfl,I.turnedL (t':=s.toks) hf λb o hb q=>?_⟩;have hb':b≠e/\b≠it:=by simpa using hb
  exact eb b o hb'.2 q
 self:=λA i s Q E st h=>by
  obtain ⟨⟨old,he⟩,_⟩:=st;exact wpAny_pyIter_enum he h
theorem aap{P:Program}{w:World}{K:PF}{tg:Expr}(k:SK)(it:Addr):Turn P w K tg (Jk k) [it] it (λi h=>k.pos it i h) where
 mem:=by simp
 obj:=λi h st b hb=>by
  have e:b=it:=by simpa using hb
  subst e;obtain ⟨o,e,c,d⟩:=st;exact ⟨o,e,λv z=>by rw[d]at z;cases z⟩
 keep:=λi h h' st kk=>st.keep λo e=>kk it (by simp) o e
 item:=by
  intro X hP hw hK hc i pins s σ H E I hf st hg;obtain ⟨vs,sat,hi⟩:=hg;have hfi:=hf it (by simp);cases k with
  |lst a=>
   have sat':H a=some (.lst vs):=sat;refine dc ((Br (tg:=tg) a it).item X hP hw hK hc i pins s σ H E I hf st ⟨vs,vs[i],SqL.of sat',by simp[hi]⟩) ?_ (λ_ _ e=>e);rintro r s1 ⟨u,hr,h1⟩;refine ⟨u,hr,dc h1 ?_ (λ_ _ e=>e)⟩;rintro _ s2 ⟨x,H',I',rx,⟨e1,e2⟩,st',fr⟩;exact ⟨x,H',I',rx,⟨e1,λws hw'=>e2 ws (SqL.of (show H a=some (.lst ws) from hw'))⟩,st',fr⟩
  |tup a=>
   have sat':H a=some (.tup vs):=sat;refine dc ((Bt (tg:=tg) a it).item X hP hw hK hc i pins s σ H E I hf st ⟨vs,vs[i],SqT.of sat',by simp[hi]⟩) ?_ (λ_ _ e=>e);rintro r s1 ⟨u,hr,h1⟩;refine ⟨u,hr,dc h1 ?_ (λ_ _ e=>e)⟩;rintro _ s2 ⟨x,H',I',rx,⟨e1,e2⟩,st',fr⟩;exact ⟨x,H',I',rx,⟨e1,λws hw'=>e2 ws (SqT.of (show H a=some (.tup ws) from hw'))⟩,st',fr⟩
  |str y t=>
   have sat':vs=y.cps.toList.map λc=>V.str ⟨#[c]⟩:=sat;have hlen:vs.length=y.cps.size:=by rw[sat',ag,d5]
   refine dc ((vL (tg:=tg) it y t).item X hP hw hK hc i pins s σ H E I hf st (show i < y.cps.size by omega)) ?_ (λ_ _ e=>e);rintro r s1 ⟨u,hr,h1⟩;refine ⟨u,hr,dc h1 ?_ (λ_ _ e=>e)⟩;rintro _ s2 ⟨x,H',I',rx,⟨e1,c,e2,e3⟩,st',fr⟩;refine ⟨x,H',I',rx,⟨e1,λws hw'=>?_⟩,st',fr⟩;have hw':ws=y.cps.toList.map λc=>V.str ⟨#[c]⟩:=hw';rw[hw',e3,ay,gl,e2];rfl
 done:=by
  intro X hP hw hK hc i pins s σ H E I hf st hg;obtain ⟨vs,sat,hi⟩:=hg;cases k with
  |lst a=>exact (Br (tg:=tg) a it).done X hP hw hK hc i pins s σ H E I hf st ⟨vs,SqL.of (show H a=some (.lst vs) from sat),by omega⟩
  |tup a=>exact (Bt (tg:=tg) a it).done X hP hw hK hc i pins s σ H E I hf st ⟨vs,SqT.of (show H a=some (.tup vs) from sat),by omega⟩
  |str y t=>
   have sat':vs=y.cps.toList.map λc=>V.str ⟨#[c]⟩:=sat;have hlen:vs.length=y.cps.size:=by rw[sat',ag,d5]
   exact (vL (tg:=tg) it y t).done X hP hw hK hc i pins s σ H E I hf st (show i=y.cps.size by omega)
 self:=λA i s Q E st h=>by
  cases k with
  |lst a=>exact wpAny_pyIter_listiter st h
  |tup a=>exact wpAny_pyIter_tupleiter st h
  |str y t=>exact (vL (K:=K) (tg:=tg) it y t).self A i s Q E st h
open Builtin Builtin.Str
section
variable {prog:Program} {w:World} {A:Around} {E:Value->Shared->Prop} {s:Shared}
theorem aaq{z TI TO i1 i2:Addr}{k n1 n2:Nat}{fp1 fp2:List Addr}{P1 P2:Nat->Value->Prop}{S1 S2:Nat->Heap->Prop}{a b:Value}{Q:Value->Shared->Prop}(D:ZApart z TI TO i1 i2)
  (D1:Draws prog w A i1 fp1 n1 P1 S1) (D2:Draws prog w A i2 fp2 n2 P2 S2) (f1:∀c∈fp1,c≠z/\c≠TO/\c≠i2) (f2:∀c∈fp2,c≠z/\c≠TO/\c≠i1)
  (hz:IsZip s.heap z TI TO .none) (hTI:IsPair s.heap TI (.ref i1) (.ref i2)) (hTO:IsPair s.heap TO a b)
  (h1:S1 k s.heap) (h2:S2 k s.heap) (hx:k < n1) (hy:k < n2)
  (hQ:∀h' tk c d,P1 k c->P2 k d->IsZip h' z TI TO (rawInt s.heap.objs.size)->IsPair h' TO c d->S1 (k+1) h'->S2 (k+1) h'->
   IsPair h' s.heap.objs.size c d->h'.objs.size=s.heap.objs.size+1->
   (∀c o,c≠z->c≠TO->c≠i1->c≠i2->s.heap.get? c=some o->h'.get? c=some o)->Q (.ref s.heap.objs.size) { s with heap:=h',toks:=tk }):
  wpAny (model prog w) A (Builtin.«zip.__next__» ⟨[.ref z],[]⟩) (λfin s'=>∃v,fin=.done (.ret v)/\Q v s') E s:=by
 have e1:∀{h h':Heap}{c:Addr}{j:Nat},S1 j h->Heap.ExtBut c h h'->(∀b∈fp1,b≠c)->S1 j h':=λq e n=>D1.frame _ _ _ q λb hb o y=>e b o (n b hb) y;have e2:∀{h h':Heap}{c:Addr}{j:Nat},S2 j h->Heap.ExtBut c h h'->(∀b∈fp2,b≠c)->S2 j h':=λq e n=>D2.frame _ _ _ q λb hb o y=>e b o (n b hb) y;have z1:∀b∈fp1,b≠z:=λb hb=>(f1 b hb).1;have t1:∀b∈fp1,b≠TO:=λb hb=>(f1 b hb).2.1;have j1:∀b∈fp1,b≠i2:=λb hb=>(f1 b hb).2.2;have z2:∀b∈fp2,b≠z:=λb hb=>(f2 b hb).1;have t2:∀b∈fp2,b≠TO:=λb hb=>(f2 b hb).2.1;have j2:∀b∈fp2,b≠i1:=λb hb=>(f2 b hb).2.2;show wpAny _ _ (field (.ref z) 2 >>= _) _ _ _;refine al (dS hz rfl (x:=.bool false) rfl ?_);show wpAny _ _ (field (.ref z) 3 >>= _) _ _ _;refine al (dS hz rfl (x:=.ref TI) rfl ?_);refine al (eT hTI rfl ?_);show wpAny _ _ (Builtin.SmallTypes.ownedTupleIsFree (.ref z) >>= _) _ _ _;refine al ?_;unfold Builtin.SmallTypes.ownedTupleIsFree;refine al (dS hz rfl (x:=.none) rfl (bo ?_));simp only[if_true];refine al (wpAny_rule ?_);refine al (dS hz rfl (x:=.ref TO) rfl ?_);refine al (eS hz (by simp) λh₁ hz₁ hs₁=>?_);replace hz₁:IsZip h₁ z TI TO .ellipsis:=hz₁;replace hs₁:Heap.SameBut z s.heap h₁:=hs₁;refine al ?_;simp only[List.zipIdx_cons,List.zipIdx_nil,List.forIn_cons,List.forIn_nil];refine al (al (wpAny_onRaise ?_));show wpAny _ _ (Builtin.SmallTypes.nextOf (.ref i1) >>= _) _ _ _;refine al (D1.item k _ _ _ hx (e1 h1 hs₁.extBut z1) λc h₂ tk₂ hc h1₂ hs₂=>bo ?_);replace hs₂:Heap.SameBut i1 h₁ h₂:=hs₂;have hTO₂:IsPair h₂ TO a b:=hs₂.extBut _ _ D.TOi1 (hs₁.extBut _ _ D.TOz hTO);refine al (eT hTO₂ rfl ?_);refine al (wpAny_updateSeq_pair hTO₂ λh₃ hTO₃ hs₃=>?_);replace hTO₃:IsPair h₃ TO c b:=hTO₃;replace hs₃:Heap.SameBut TO h₂ h₃:=hs₃;refine al (wpAny_letGo (bo ?_));refine al (al (wpAny_onRaise ?_));show wpAny _ _ (Builtin.SmallTypes.nextOf (.ref i2) >>= _) _ _ _;refine al (D2.item k _ _ _ hy (e2 (e2 (e2 h2 hs₁.extBut z2) hs₂.extBut j2) hs₃.extBut t2) λd h₄ tk₄ hd h2₄ hs₄=>bo ?_);replace hs₄:Heap.SameBut i2 h₃ h₄:=hs₄;have hTO₄:IsPair h₄ TO c b:=hs₄.extBut _ _ D.TOi2 hTO₃;refine al (eT hTO₄ rfl ?_);refine al (wpAny_updateSeq_pair hTO₄ λh₅ hTO₅ hs₅=>?_);replace hTO₅:IsPair h₅ TO c d:=hTO₅;replace hs₅:Heap.SameBut TO h₄ h₅:=hs₅;refine al (wpAny_letGo (bo (bo ?_)));refine al (eT hTO₅ rfl ?_);refine al (wpAny_newTuple ?_);have hsz:h₅.objs.size=s.heap.objs.size:=by rw[hs₅.1,hs₄.1,hs₃.1,hs₂.1,hs₁.1]
 have hz₅:IsZip h₅ z TI TO .ellipsis:=hs₅.extBut _ _ D.TOz.symm (hs₄.extBut _ _ D.i2z.symm (hs₃.extBut _ _ D.TOz.symm (hs₂.extBut _ _ D.i1z.symm hz₁)));have hk₅:∀c o,c≠z->c≠TO->c≠i1->c≠i2->s.heap.get? c=some o->h₅.get? c=some o:=λc o c1 c2 c3 c4 e=>
  hs₅.extBut _ _ c2 (hs₄.extBut _ _ c4 (hs₃.extBut _ _ c2 (hs₂.extBut _ _ c3 (hs₁.extBut _ _ c1 e))))
 have h1₅:S1 (k+1) h₅:=e1 (e1 (e1 h1₂ hs₃.extBut t1) hs₄.extBut j1) hs₅.extBut t1;have h2₅:S2 (k+1) h₅:=e2 h2₄ hs₅.extBut t2;have hzlt:z < h₅.objs.size:=aS hz₅;show wpAny _ _ (Builtin.SmallTypes.ownedTupleHandOut (.ref z) (.ref h₅.objs.size) >>= _) _ _ _;refine al ?_;unfold Builtin.SmallTypes.ownedTupleHandOut;have hz₆:IsZip (h₅.push { cls:=.type "tuple",data:=.seq #[c,d] }) z TI TO .ellipsis:=am _ hz₅;refine al (eS hz₆ (by simp) λh₇ hz₇ hs₇=>?_);replace hz₇:IsZip h₇ z TI TO (rawInt h₅.objs.size):=hz₇;refine eS hz₇ (by simp) λh₈ hz₈ hs₈=>?_;replace hz₈:IsZip h₈ z TI TO (rawInt h₅.objs.size):=hz₈;have up:∀c o,c≠z->h₅.get? c=some o->h₈.get? c=some o:=λc o c1 e=>hs₈.extBut _ _ c1 (hs₇.extBut _ _ c1 (am _ e));have hT₈:IsPair h₈ h₅.objs.size c d:=hs₈.extBut _ _ (gc hzlt) (hs₇.extBut _ _ (gc hzlt) (bi _ rfl));have hz8:h₈.objs.size=h₅.objs.size+1:=by rw[hs₈.1,hs₇.1,eJ]
 rw[hsz]at hz₈ hT₈ hz8;refine bo ⟨_,rfl,?_⟩;show Q (.ref h₅.objs.size) _;rw[hsz];exact hQ h₈ tk₄ c d hc hd hz₈ (up _ _ D.TOz hTO₅) (D1.frame _ _ _ h1₅ λb hb o y=>up b o (z1 b hb) y) (D2.frame _ _ _ h2₅ λb hb o y=>up b o (z2 b hb) y) hT₈ hz8 λc o c1 c2 c3 c4 e=>up c o c1 (hk₅ c o c1 c2 c3 c4 e)
theorem aar{z TI TO i1 i2:Addr}{n1:Nat}{fp1:List Addr}{P1:Nat->Value->Prop}{S1:Nat->Heap->Prop}{a b:Value}{Q:Fin->Shared->Prop}(D:ZApart z TI TO i1 i2)
  (D1:Draws prog w A i1 fp1 n1 P1 S1) (f1:∀c∈fp1,c≠z)
  (hz:IsZip s.heap z TI TO .none) (hTI:IsPair s.heap TI (.ref i1) (.ref i2)) (hTO:IsPair s.heap TO a b) (h1:S1 n1 s.heap)
  (hE:∀h' e,(∀c o,c≠z->c≠TO->c≠i1->c≠i2->s.heap.get? c=some o->h'.get? c=some o)->(∃o,h'.get? e=some o/\o.cls=.type "StopIteration")->E (.ref e) { s with heap:=h' }):
  wpAny (model prog w) A (Builtin.«zip.__next__» ⟨[.ref z],[]⟩) Q E s:=by
 show wpAny _ _ (field (.ref z) 2 >>= _) _ _ _;refine al (dS hz rfl (x:=.bool false) rfl ?_);show wpAny _ _ (field (.ref z) 3 >>= _) _ _ _;refine al (dS hz rfl (x:=.ref TI) rfl ?_);refine al (eT hTI rfl ?_);show wpAny _ _ (Builtin.SmallTypes.ownedTupleIsFree (.ref z) >>= _) _ _ _;refine al ?_;unfold Builtin.SmallTypes.ownedTupleIsFree;refine al (dS hz rfl (x:=.none) rfl (bo ?_));simp only[if_true];refine al (wpAny_rule ?_);refine al (dS hz rfl (x:=.ref TO) rfl ?_);refine al (eS hz (by simp) λh₁ hz₁ hs₁=>?_);replace hz₁:IsZip h₁ z TI TO .ellipsis:=hz₁;replace hs₁:Heap.SameBut z s.heap h₁:=hs₁;refine al ?_;simp only[List.zipIdx_cons,List.zipIdx_nil,List.forIn_cons,List.forIn_nil];refine al (al (wpAny_onRaise ?_));show wpAny _ _ (Builtin.SmallTypes.nextOf (.ref i1) >>= _) _ _ _;refine al (D1.done _ _ _ (D1.frame _ _ _ h1 λb hb o y=>hs₁.extBut b o (f1 b hb) y) λh₂ e hs₂ he=>?_);obtain ⟨oe,hoe,hce⟩:=he;have hz₂:IsZip h₂ z TI TO .ellipsis:=hs₂ _ _ D.i1z.symm hz₁;have hez:e≠z:=λx=>by subst x;rw[hz₂]at hoe;cases hoe;simp at hce
 refine eS hz₂ (by simp) λh₃ _ hs₃=>hE h₃ e (λc o c1 _ c3 _ x=>hs₃.extBut _ _ c1 (hs₂ _ _ c3 (hs₁.extBut _ _ c1 x))) ⟨oe,hs₃.extBut _ _ hez hoe,hce⟩
theorem aas{z TI TO i1 i2:Addr}{k n1 n2:Nat}{fp1 fp2:List Addr}{P1 P2:Nat->Value->Prop}{S1 S2:Nat->Heap->Prop}{a b:Value}{Q:Fin->Shared->Prop}(D:ZApart z TI TO i1 i2)
  (D1:Draws prog w A i1 fp1 n1 P1 S1) (D2:Draws prog w A i2 fp2 n2 P2 S2) (f1:∀c∈fp1,c≠z/\c≠TO/\c≠i2) (f2:∀c∈fp2,c≠z/\c≠TO/\c≠i1)
  (hz:IsZip s.heap z TI TO .none) (hTI:IsPair s.heap TI (.ref i1) (.ref i2)) (hTO:IsPair s.heap TO a b) (h1:S1 k s.heap) (h2:S2 k s.heap) (hx:k < n1) (hy:k=n2)
  (hE:∀h' tk e,(∀c o,c≠z->c≠TO->c≠i1->c≠i2->s.heap.get? c=some o->h'.get? c=some o)->(∃o,h'.get? e=some o/\o.cls=.type "StopIteration")->E (.ref e) { s with heap:=h',toks:=tk }):
  wpAny (model prog w) A (Builtin.«zip.__next__» ⟨[.ref z],[]⟩) Q E s:=by
 have e1:∀{h h':Heap}{c:Addr}{j:Nat},S1 j h->Heap.ExtBut c h h'->(∀b∈fp1,b≠c)->S1 j h':=λq e n=>D1.frame _ _ _ q λb hb o y=>e b o (n b hb) y;have e2:∀{h h':Heap}{c:Addr}{j:Nat},S2 j h->Heap.ExtBut c h h'->(∀b∈fp2,b≠c)->S2 j h':=λq e n=>D2.frame _ _ _ q λb hb o y=>e b o (n b hb) y;have z1:∀b∈fp1,b≠z:=λb hb=>(f1 b hb).1;have z2:∀b∈fp2,b≠z:=λb hb=>(f2 b hb).1;have t2:∀b∈fp2,b≠TO:=λb hb=>(f2 b hb).2.1;have j2:∀b∈fp2,b≠i1:=λb hb=>(f2 b hb).2.2;show wpAny _ _ (field (.ref z) 2 >>= _) _ _ _;refine al (dS hz rfl (x:=.bool false) rfl ?_);show wpAny _ _ (field (.ref z) 3 >>= _) _ _ _;refine al (dS hz rfl (x:=.ref TI) rfl ?_);refine al (eT hTI rfl ?_);show wpAny _ _ (Builtin.SmallTypes.ownedTupleIsFree (.ref z) >>= _) _ _ _;refine al ?_;unfold Builtin.SmallTypes.ownedTupleIsFree;refine al (dS hz rfl (x:=.none) rfl (bo ?_));simp only[if_true];refine al (wpAny_rule ?_);refine al (dS hz rfl (x:=.ref TO) rfl ?_);refine al (eS hz (by simp) λh₁ hz₁ hs₁=>?_);replace hz₁:IsZip h₁ z TI TO .ellipsis:=hz₁;replace hs₁:Heap.SameBut z s.heap h₁:=hs₁;refine al ?_;simp only[List.zipIdx_cons,List.zipIdx_nil,List.forIn_cons,List.forIn_nil];refine al (al (wpAny_onRaise ?_));show wpAny _ _ (Builtin.SmallTypes.nextOf (.ref i1) >>= _) _ _ _;refine al (D1.item k _ _ _ hx (e1 h1 hs₁.extBut z1) λc h₂ tk₂ hc h1₂ hs₂=>bo ?_);replace hs₂:Heap.SameBut i1 h₁ h₂:=hs₂;have hTO₂:IsPair h₂ TO a b:=hs₂.extBut _ _ D.TOi1 (hs₁.extBut _ _ D.TOz hTO);refine al (eT hTO₂ rfl ?_);refine al (wpAny_updateSeq_pair hTO₂ λh₃ hTO₃ hs₃=>?_);replace hs₃:Heap.SameBut TO h₂ h₃:=hs₃;refine al (wpAny_letGo (bo ?_));refine al (al (wpAny_onRaise ?_));show wpAny _ _ (Builtin.SmallTypes.nextOf (.ref i2) >>= _) _ _ _;subst hy;refine al (D2.done _ _ _ (e2 (e2 (e2 h2 hs₁.extBut z2) hs₂.extBut j2) hs₃.extBut t2) λh₄ e hs₄ he=>?_);obtain ⟨oe,hoe,hce⟩:=he;have hz₄:IsZip h₄ z TI TO .ellipsis:=hs₄ _ _ D.i2z.symm (hs₃.extBut _ _ D.TOz.symm (hs₂.extBut _ _ D.i1z.symm hz₁));have hez:e≠z:=λx=>by subst x;rw[hz₄]at hoe;cases hoe;simp at hce
 refine eS hz₄ (by simp) λh₅ _ hs₅=>hE h₅ tk₂ e (λc o c1 c2 c3 c4 x=>hs₅.extBut _ _ c1 (hs₄ _ _ c4 (hs₃.extBut _ _ c2 (hs₂.extBut _ _ c3 (hs₁.extBut _ _ c1 x))))) ⟨oe,hs₅.extBut _ _ hez hoe,hce⟩
end
def Jz(k l:SK):It:=⟨λi H=>∃vs ws,k.Sat H vs/\l.Sat H ws/\i < vs.length/\i < ws.length,
 λi H x H'=>∃T y z,H T=none/\x=.ref T/\H'=upd H T (.tup [y,z])/\(∀vs,k.Sat H vs->vs[i]?=some y)/\(∀ws,l.Sat H ws->ws[i]?=some z),
 λi H=>∃vs ws,k.Sat H vs/\l.Sat H ws/\(vs.length=i/\i<=ws.length\/i < vs.length/\ws.length=i)⟩
theorem aat{P:Program}{w:World}{K:PF}{elts:List Expr}{x1:Nat}{pos:Pos}(k l:SK)(z TI TO i1 i2:Addr)(D:ZApart z TI TO i1 i2):
  Turn P w K (.Tuple elts x1 pos) (Jz k l) [z,TI,TO,i1,i2] z
   (λi h=>IsZip h z TI TO .none/\IsPair h TI (.ref i1) (.ref i2)/\(∃a b,IsPair h TO a b)/\k.pos i1 i h/\l.pos i2 i h) where
 mem:=by simp
 obj:=λi h st b hb=>by
  obtain ⟨hz,hTI,⟨a,c,hTO⟩,⟨o1,e1,_,d1⟩,⟨o2,e2,_,d2⟩⟩:=st;have hb':b=z\/b=TI\/b=TO\/b=i1\/b=i2:=by simpa using hb
  rcases hb' with rfl |rfl |rfl |rfl |rfl
  ·exact ⟨_,hz,λv q=>by have q':Data.fields _=Data.cell v:=q;cases q'⟩
  ·exact ⟨_,hTI,λv q=>by have q':Data.seq _ _=Data.cell v:=q;cases q'⟩
  ·exact ⟨_,hTO,λv q=>by have q':Data.seq _ _=Data.cell v:=q;cases q'⟩
  ·exact ⟨o1,e1,λv q=>by rw[d1]at q;cases q⟩
  ·exact ⟨o2,e2,λv q=>by rw[d2]at q;cases q⟩
 keep:=λi h h' st kk=>by
  obtain ⟨hz,hTI,⟨a,c,hTO⟩,p1,p2⟩:=st;exact ⟨kk z (by simp) _ hz,kk TI (by simp) _ hTI,⟨a,c,kk TO (by simp) _ hTO⟩,p1.keep λo e=>kk i1 (by simp) o e,p2.keep λo e=>kk i2 (by simp) o e⟩
 item:=by
  intro X hP hw hK hc i pins s σ H E I hf st hg;subst hP hw hK;obtain ⟨vs,ws,sat1,sat2,l1,l2⟩:=hg;obtain ⟨hz,hTI,⟨a,b,hTO⟩,h1,h2⟩:=st;have hT:s.TypeIs (.ref z) "zip":=⟨_,hz,rfl⟩;have fz:=hf z (by simp);have fTO:=hf TO (by simp);have fi1:=hf i1 (by simp);have fi2:=hf i2 (by simp);obtain ⟨fp1,P1,S1,Dr1⟩:=drawn (A:=X.A.in1) (I.ok.hd hc) I sat1 fi1.1 h1;obtain ⟨fp2,P2,S2,Dr2⟩:=drawn (A:=X.A.in1) (I.ok.hd hc) I sat2 fi2.1 h2;have no1:∀e,H e=none->e≠i1->∀c∈fp1,c≠e:=λe he hei c hc z=>by
   rcases Dr1.fp c hc with q |q
   ·exact hei (z.symm.trans q)
   ·have:=sat1.no he;cases k with
    |lst a=>injection q with q;exact this (q.trans z)
    |tup a=>injection q with q;exact this (q.trans z)
    |str _ _=>cases q
  have no2:∀e,H e=none->e≠i2->∀c∈fp2,c≠e:=λe he hei c hc z=>by
   rcases Dr2.fp c hc with q |q
   ·exact hei (z.symm.trans q)
   ·have:=sat2.no he;cases l with
    |lst a=>injection q with q;exact this (q.trans z)
    |tup a=>injection q with q;exact this (q.trans z)
    |str _ _=>cases q
  have f1:∀c∈fp1,c≠z/\c≠TO/\c≠i2:=λc hc=>⟨no1 z fz.1 D.i1z.symm c hc,no1 TO fTO.1 D.TOi1 c hc,no1 i2 fi2.1 D.i12.symm c hc⟩;have f2:∀c∈fp2,c≠z/\c≠TO/\c≠i1:=λc hc=>⟨no2 z fz.1 D.i2z.symm c hc,no2 TO fTO.1 D.TOi2 c hc,no2 i1 fi1.1 D.i12 c hc⟩;have ltz:z < s.heap.objs.size:=aS hz;have ltTI:TI < s.heap.objs.size:=aS hTI;have ltTO:TO < s.heap.objs.size:=aS hTO;have lti1:i1 < s.heap.objs.size:=by obtain ⟨_,e,_⟩:=h1;exact aS e
  have lti2:i2 < s.heap.objs.size:=by obtain ⟨_,e,_⟩:=h2;exact aS e
  unfold pyNext;refine al (wpAny_attempt (fg (name:=Str.ofString "__next__") hT F.slot_zip_next
   (fR F.slot_zip_next hT F.entry_zip_next (aaq D Dr1.D Dr2.D f1 f2 hz hTI hTO Dr1.st Dr2.st l1 l2 λh' tk c d pc pd a1 a2 a3 a4 a5 a6 hk=>bo ?_) (F.args_zip_next_1 _))))
  obtain ⟨y,hy,ry⟩:=Dr1.val _ _ pc;obtain ⟨y',hy',ry'⟩:=Dr2.val _ _ pd;refine ⟨_,rfl,?_⟩;refine wpAny_letOwnedTupleGo_zip a1 λh2' hz2 hs2=>?_;have hs2':Heap.SameBut z h' h2':=hs2;have hn:H s.heap.objs.size=none:=I.hok.fresh (aw _);have k2:∀b o,b∉[z,TI,TO,i1,i2]->s.heap.get? b=some o->h2'.get? b=some o:=λb o hb q=>by
   have hb':b≠z/\b≠TI/\b≠TO/\b≠i1/\b≠i2:=by simpa using hb
   exact hs2'.extBut b o hb'.1 (hk b o hb'.1 hb'.2.2.1 hb'.2.2.2.1 hb'.2.2.2.2 q)
  have I2:Inv X pins σ H { s with heap:=h2',toks:=tk }:=I.turnedL hf k2;have ht2:h2'.get? s.heap.objs.size=some { cls:=.type "tuple",data:=.seq #[c,d] }:=hs2'.extBut _ _ (gc ltz) a5;have ob:ObjOk X.prog X.w (upd H s.heap.objs.size (.tup [y,y'])) h2' s.heap.objs.size (.tup [y,y']):=
   ⟨by rw[sizeLine_eq];simp,[c,d],.cons ry (.cons ry' .nil),⟨_,ht2,rfl,_,rfl⟩⟩
  have I3:=I2.track (I.fpOk (aw _) hn) ob;refine ⟨.ref s.heap.objs.size,_,I3,rfl,⟨s.heap.objs.size,y,y',hn,rfl,rfl,λus hu=>by rw[xP hu sat1];exact hy,λus hu=>by rw[xP hu sat2];exact hy'⟩,
   ⟨hz2,hs2'.extBut _ _ D.TIz (hk _ _ D.TIz D.TITO D.TIi1 D.TIi2 hTI),⟨_,_,hs2'.extBut _ _ D.TOz a2⟩,(Dr1.pos _ _ a3).keep λo e=>hs2'.extBut _ _ D.i1z e,(Dr2.pos _ _ a4).keep λo e=>hs2'.extBut _ _ D.i2z e⟩,λb hb=>?_⟩
  have hb':b=z\/b=TI\/b=TO\/b=i1\/b=i2:=by simpa using hb
  rw[aP (by rcases hb' with rfl |rfl |rfl |rfl |rfl <;> exact cK ‹_›)];exact (hf b hb).1
 done:=by
  intro X hP hw hK hc i pins s σ H E I hf st hg;subst hP hw hK;obtain ⟨vs,ws,sat1,sat2,hend⟩:=hg;obtain ⟨hz,hTI,⟨a,b,hTO⟩,h1,h2⟩:=st;have hT:s.TypeIs (.ref z) "zip":=⟨_,hz,rfl⟩;have fz:=hf z (by simp);have fTO:=hf TO (by simp);have fi1:=hf i1 (by simp);have fi2:=hf i2 (by simp);obtain ⟨fp1,P1,S1,Dr1⟩:=drawn (A:=X.A.in1) (I.ok.hd hc) I sat1 fi1.1 h1;obtain ⟨fp2,P2,S2,Dr2⟩:=drawn (A:=X.A.in1) (I.ok.hd hc) I sat2 fi2.1 h2;have no1:∀e,H e=none->e≠i1->∀c∈fp1,c≠e:=λe he hei c hc z=>by
   rcases Dr1.fp c hc with q |q
   ·exact hei (z.symm.trans q)
   ·have:=sat1.no he;cases k with
    |lst a=>injection q with q;exact this (q.trans z)
    |tup a=>injection q with q;exact this (q.trans z)
    |str _ _=>cases q
  have no2:∀e,H e=none->e≠i2->∀c∈fp2,c≠e:=λe he hei c hc z=>by
   rcases Dr2.fp c hc with q |q
   ·exact hei (z.symm.trans q)
   ·have:=sat2.no he;cases l with
    |lst a=>injection q with q;exact this (q.trans z)
    |tup a=>injection q with q;exact this (q.trans z)
    |str _ _=>cases q
  have f1:∀c∈fp1,c≠z/\c≠TO/\c≠i2:=λc hc=>⟨no1 z fz.1 D.i1z.symm c hc,no1 TO fTO.1 D.TOi1 c hc,no1 i2 fi2.1 D.i12.symm c hc⟩;have f2:∀c∈fp2,c≠z/\c≠TO/\c≠i1:=λc hc=>⟨no2 z fz.1 D.i2z.symm c hc,no2 TO fTO.1 D.TOi2 c hc,no2 i1 fi1.1 D.i12 c hc⟩;have fin:∀(h':Heap)(tk:Nat)(e:Addr),(∀c o,c≠z->c≠TO->c≠i1->c≠i2->s.heap.get? c=some o->h'.get? c=some o)->Inv X pins σ H { s with heap:=h',toks:=tk }:=λh' tk e hk=>I.turnedL (t':=tk) hf λb o hb q=>by
   have hb':b≠z/\b≠TI/\b≠TO/\b≠i1/\b≠i2:=by simpa using hb
   exact hk b o hb'.1 hb'.2.2.1 hb'.2.2.2.1 hb'.2.2.2.2 q
  unfold pyNext;refine al (wpAny_attempt (fg (name:=Str.ofString "__next__") hT F.slot_zip_next
   (fR F.slot_zip_next hT F.entry_zip_next ?_ (F.args_zip_next_1 _))))
  rcases hend with ⟨e1,_⟩ |⟨e1,e2⟩
  ·subst e1;refine aar D Dr1.D (λc hc=>(f1 c hc).1) hz hTI hTO Dr1.st λh' e hk he=>?_;obtain ⟨o,ho,hc'⟩:=he;refine al (wpAny_isInstance (T:="StopIteration") (b:=true) ⟨o,ho,hc'⟩ isSubtype_stop ?_);exact bo ⟨rfl,fin h' s.toks e hk⟩
  ·refine aas D Dr1.D Dr2.D f1 f2 hz hTI hTO Dr1.st Dr2.st e1 e2.symm λh' tk e hk he=>?_;obtain ⟨o,ho,hc'⟩:=he;refine al (wpAny_isInstance (T:="StopIteration") (b:=true) ⟨o,ho,hc'⟩ isSubtype_stop ?_);exact bo ⟨rfl,fin h' tk e hk⟩
 self:=λA i s Q E st h=>wpAny_pyIter_zip st.1 h
open Sem (wp)
open AutoSeq1 (wpAny_loadPart')
set_option maxHeartbeats 1000000 in
theorem aau(l:Addr)(items:Array Value)(n:Nat)(dct:Option Addr)(sl:Array (Option Value)):
  Meets (Builtin.«enumerate.__new__» ⟨[.type "enumerate",.ref l],[]⟩) (λ_ R s=>s.heap.get? l=some { cls:=.type "tuple",dict:=dct,data:=.seq items n,slots:=sl }/\
   R (.ok (.ret (.ref (s.heap.push { cls:=.type "tuple_iterator",data:=.fields #[.ref l,.int 0 0] }).objs.size)))
    { s with heap:=(s.heap.push { cls:=.type "tuple_iterator",data:=.fields #[.ref l,.int 0 0] }).push { cls:=.type "enumerate",data:=.fields #[.none,.bool false,.ref s.heap.objs.size,rawInt 0,.none,.none] } }):=
 .of_wp λprog w A R s h=>by
  obtain ⟨hp,g,d,tk,os⟩:=s;obtain ⟨hl,h⟩:=h;have hsub:=sub_enumerate;have hL:Heap.IsTuple (Shared.heap ⟨hp,g,d,tk,os⟩) l items:=⟨_,hl,rfl,n,rfl⟩;wp_walk using wpAny_loadPart' hl
  refine wpAny_stack_any λst=>bo ?_;split
  ·rename_i c _ _ _ _ _;cases (c==Value.type "enumerate")
   ·wp_walk using wpAny_loadPart' hl,wpAny_pyIter_tuple hL
    exact ⟨_,rfl,h⟩
   ·wp_walk using wpAny_loadPart' hl,wpAny_pyIter_tuple hL
    exact ⟨_,rfl,h⟩
  ·wp_walk using wpAny_loadPart' hl,wpAny_pyIter_tuple hL
   exact ⟨_,rfl,h⟩
abbrev tQ(h:Heap)(k:SK):Heap:=h.push k.obj
abbrev tR(h:Heap)(k l:SK):Heap:=(tQ h k).push l.obj
abbrev tU (h:Heap) (k l:SK):Heap:=(tR h k l).push { cls:=.type "tuple",data:=.seq #[.ref h.objs.size,.ref (tQ h k).objs.size] }
abbrev tV (h:Heap) (k l:SK):Heap:=(tU h k l).push { cls:=.type "tuple",data:=.seq #[.none,.none] }
abbrev iD (h:Heap) (k l:SK):Heap:=(tV h k l).push { cls:=.type "zip",data:=.fields #[.none,.bool false,.bool false,.ref (tR h k l).objs.size,.ref (tU h k l).objs.size] }
theorem aav(k l:SK)(xs ys:Array Value):
  Meets (Builtin.«zip.__new__» ⟨[.type "zip",k.val,l.val],[]⟩) (λ_ R s=>k.On xs s.heap/\l.On ys s.heap/\R (.ok (.ret (.ref (tV s.heap k l).objs.size))) { s with heap:=iD s.heap k l }):=
 .of_wp λprog w A R s h=>by
  obtain ⟨hp,g,d,tk,os⟩:=s;obtain ⟨h1,h2,h⟩:=h;have hsub:=sub_zip;have h1':k.On xs (Shared.heap ⟨hp,g,d,tk,os⟩):=h1;have h2':l.On ys (Shared.heap ⟨hp.push k.obj,g,d,tk,os⟩):=SK.On.keeps h2 λb o _ e=>am _ e;wp_walk using SK.iter h1',SK.iter h2'
  exact ⟨_,rfl,h⟩
section
variable {prog:Program} {w:World} {A:Around} {E:Value->Shared->Prop} {s:Shared}
theorem aaw{k l:SK}{xs ys:Array Value}{Q:Value->Shared->Prop}(h1:k.On xs s.heap)(h2:l.On ys s.heap)
  (h:∀h',IsZip h' (s.heap.objs.size+4) (s.heap.objs.size+2) (s.heap.objs.size+3) .none->IsPair h' (s.heap.objs.size+2) (.ref s.heap.objs.size) (.ref (s.heap.objs.size+1))->
   IsPair h' (s.heap.objs.size+3) .none .none->k.pos s.heap.objs.size 0 h'->l.pos (s.heap.objs.size+1) 0 h'->h'.objs.size=s.heap.objs.size+5->
   (∀c o,s.heap.get? c=some o->h'.get? c=some o)->Q (.ref (s.heap.objs.size+4)) { s with heap:=h' }):
  wpAny (model prog w) A (call (.type "zip") [k.val,l.val]) Q E s:=by
 refine callType_new F.called_zip (by decide) (F.typeCall_zip_2 _ _) (F.newCall_zip_2 _ _) (λobj=>F.args_object_init_3 obj _ _) F.entry_zip_new
  (aav k l xs ys) ⟨h1,h2,?_⟩
 have z1:(tQ s.heap k).objs.size=s.heap.objs.size+1:=eJ ..;have z2:(tR s.heap k l).objs.size=s.heap.objs.size+2:=by rw[eJ,z1]
 have z3:(tU s.heap k l).objs.size=s.heap.objs.size+3:=by rw[eJ,z2]
 have z4:(tV s.heap k l).objs.size=s.heap.objs.size+4:=by rw[eJ,z3]
 have z5:(iD s.heap k l).objs.size=s.heap.objs.size+5:=by rw[eJ,z4]
 have g5:(iD s.heap k l).get? (tV s.heap k l).objs.size=some _:=bi _ rfl;have g4:(iD s.heap k l).get? (tU s.heap k l).objs.size=some _:=am _ (bi _ rfl);have g3:(iD s.heap k l).get? (tR s.heap k l).objs.size=some _:=am _ (am _ (bi _ rfl));have g2:(iD s.heap k l).get? (tQ s.heap k).objs.size=some _:=am _ (am _ (am _ (bi _ rfl)));have g1:(iD s.heap k l).get? s.heap.objs.size=some _:=am _ (am _ (am _ (am _ (bi _ rfl))));show _/\_;rw[z2,z3,z4]at g5;rw[z1,z2]at g3;rw[z3]at g4;rw[z1]at g2;rw[z4];exact ⟨⟨_,g5,rfl⟩,h _ g5 g3 g4 ⟨_,g1,rfl,rfl⟩ ⟨_,g2,rfl,rfl⟩ z5 λc o x=>
  am _ (am _ (am _ (am _ (am _ x))))⟩
theorem aax{l:Addr}{items:Array Value}{Q:Value->Shared->Prop}(hL:s.heap.IsTuple l items)
  (h:∀h',IsEnum h' (s.heap.objs.size+1) s.heap.objs.size 0 .none->h'.IsTupleIter s.heap.objs.size l 0->h'.objs.size=s.heap.objs.size+2->
   (∀b o,s.heap.get? b=some o->h'.get? b=some o)->Q (.ref (s.heap.objs.size+1)) { s with heap:=h' }):
  wpAny (model prog w) A (call (.type "enumerate") [.ref l]) Q E s:=by
 obtain ⟨⟨c,dct,dt,sl⟩,hl,hc,n,hd⟩:=hL;replace hc:c=.type "tuple":=hc;replace hd:dt=.seq items n:=hd;subst hc hd;refine callType_new F.called_enumerate (by decide) (F.typeCall_enumerate_1 _) (F.newCall_enumerate_1 _) (λobj=>F.args_object_init_2 obj _) F.entry_enumerate_new
  (aau l items n dct sl) ⟨hl,?_⟩
 have hz:(s.heap.push { cls:=.type "tuple_iterator",data:=.fields #[.ref l,.int 0 0] }).objs.size=s.heap.objs.size+1:=eJ ..;show _/\_;rw[hz];have he:IsEnum ((s.heap.push { cls:=.type "tuple_iterator",data:=.fields #[.ref l,.int 0 0] }).push
   { cls:=.type "enumerate",data:=.fields #[.none,.bool false,.ref s.heap.objs.size,rawInt 0,.none,.none] }) (s.heap.objs.size+1) s.heap.objs.size 0 .none:=by
  have:=bi (s.heap.push { cls:=.type "tuple_iterator",data:=.fields #[.ref l,.int 0 0] })
   (o:={ cls:=.type "enumerate",data:=.fields #[.none,.bool false,.ref s.heap.objs.size,rawInt 0,.none,.none] }) rfl
  rw[hz]at this;exact this
 refine ⟨⟨_,he,rfl⟩,h _ he ⟨_,am _ (bi _ rfl),rfl,rfl⟩ (by rw[eJ,hz]) λb o x=>am _ (am _ x)⟩
theorem aay{k:SK}{xs:Array Value}{Q:Value->Shared->Prop}(h1:k.On xs s.heap)
  (h:∀h',IsEnum h' (s.heap.objs.size+1) s.heap.objs.size 0 .none->k.pos s.heap.objs.size 0 h'->h'.objs.size=s.heap.objs.size+2->
   (∀b o,s.heap.get? b=some o->h'.get? b=some o)->Q (.ref (s.heap.objs.size+1)) { s with heap:=h' }):
  wpAny (model prog w) A (call (.type "enumerate") [k.val]) Q E s:=by
 cases k with
 |lst a=>exact call_enumerate_list h1 h
 |tup a=>exact aax h1 h
 |str x t=>exact call_enumerate_str h
end
structure OT where
 ms:List (String×String×String×Nat):=[]
 ks:List (String×Nat):=[]
 fl:List (String×String):=[]
structure CT where
 N:List Str
 kd:List (Str×NameKind)
 fn:Bool
 fs:List (String×Nat)
 bt:List String
 cn:List (String×D)
 xs:List (String×Bool):=[]
 ot:OT:={}
def iG:Option NameKind->Bool
 |some .local=>true
 |some .cell=>true
 |some .free=>true
 |_=>false
def CT.sto(c:CT)(x:Str):Bool:=c.kd.lookup x==some .local||(c.fn&&c.kd.lookup x==some .cell)
def okN (x:Str):Bool:=!(x==("__debug__":Str))&&!(x==("__classdict__":Str))&&!(x==("__name__":Str))
def CT.glo(c:CT)(x:Str):Bool:=c.kd.lookup x==some .globalImplicit&&okN x
noncomputable def sEq:D->D->Bool
 |.non,.non=>true
 |.bl a,.bl b=>a==b
 |.int a,.int b=>a==b
 |.str a,.str b=>a==b
 |_,_=>false
theorem aaz{a b:D}(h:sEq a b=true):a=b:=by cases a <;> cases b <;> simp_all [sEq]
noncomputable def tW(d:D)(k:Const):Bool:=
 match d,k with
 |.non,.none=>true
 |.bl a,.bool b=>a==b
 |.int a,.int b=>a==b
 |.str a,.str b=>a==b.cps.toList&&decide (a.length<=sz)
 |_,_=>false
noncomputable def Bf.name:Bf->String
 |.len=>"len"
 |.all=>"all"
 |.int=>"int"
 |.tuple=>"tuple"
 |.sum=>"sum"
 |.min=>"min"
 |.max=>"max"
 |.abs=>"abs"
 |.min2=>"min"
 |.str=>"str"
noncomputable def xQ:Bf->Bool
 |.sum=>false
 |.min=>true
 |.max=>false
 |.abs=>false
 |.min2=>false
 |.str=>true
 |_=>true
def xR:Lf->Bool
 |.sorted=>false
 |_=>true
def Lf.name:Lf->String
 |.list=>"list"
 |.sorted=>"sorted"
noncomputable def Mf.name:Mf->String
 |.join=>"join"
 |.find=>"find"
 |.append=>"append"
 |.extend=>"extend"
 |.insert=>"insert"
 |.pop=>"pop"
 |.count=>"count"
 |.index=>"index"
def tX:Expr->Bool
 |.Call (.Name _ _) [] [] _=>true
 |_=>false
def dm:Expr->Bool
 |.ListComp ..=>true
 |.SetComp ..=>true
 |.DictComp ..=>true
 |_=>false
noncomputable def iH:Expr->Bool
 |.UnaryOp .Not _ _=>false
 |.BoolOp ..=>false
 |.IfExp ..=>false
 |.Compare ..=>false
 |_=>true
noncomputable def d9(N:List Str)(scope:Scope):List Str->List (Option Nat)->Bool
 |[],[]=>true
 |_::N',none::cap=>d9 N scope N' cap
 |x::N',some j::cap=>(N[j]?==some x)&&(scope.names.lookup x==some NameKind.free)&&d9 N scope N' cap
 |_,_=>false
noncomputable def gf(c:CT)(scope:Scope):Bool:=
 scope.names.all (λy=>y.2 != NameKind.cell)&&scope.names.all (λy=>y.2 != NameKind.local||scope.names.lookup y.1==some NameKind.local) &&
 scope.names.all (λy=>y.2 != NameKind.free||(c.kd.lookup y.1==some NameKind.cell||c.kd.lookup y.1==some NameKind.free))&&decide (scope.kind=.function)&&decide (c.kd=c.kd)
def CT.comp(c:CT)(N:List Str)(scope:Scope):CT:={ N:=N,kd:=scope.names,fn:=false,fs:=c.fs,bt:=c.bt,cn:=c.cn,ot:=c.ot }
def cX:List Str->Bool
 |[]=>true
 |x::r=>!r.contains x&&cX r
noncomputable def asName(e:Expr):Option { t:Str×Pos // e=.Name t.1 t.2 }:=match e with
 |.Name a0 a1=>some ⟨(a0,a1),rfl⟩
 |_=>none
noncomputable def tY(e:Expr):Option { t:Const×Nat×Pos // e=.Constant t.1 t.2.1 t.2.2 }:=match e with
 |.Constant a0 a1 a2=>some ⟨(a0,a1,a2),rfl⟩
 |_=>none
noncomputable def Fe(e:Expr):Option { t:Expr×Operator×Expr×Pos // e=.BinOp t.1 t.2.1 t.2.2.1 t.2.2.2 }:=match e with
 |.BinOp a0 a1 a2 a3=>some ⟨(a0,a1,a2,a3),rfl⟩
 |_=>none
noncomputable def jy(e:Expr):Option { t:UnaryOp×Expr×Pos // e=.UnaryOp t.1 t.2.1 t.2.2 }:=match e with
 |.UnaryOp a0 a1 a2=>some ⟨(a0,a1,a2),rfl⟩
 |_=>none
noncomputable def kY(e:Expr):Option { t:Expr×List CmpOp×List Expr×Pos // e=.Compare t.1 t.2.1 t.2.2.1 t.2.2.2 }:=match e with
 |.Compare a0 a1 a2 a3=>some ⟨(a0,a1,a2,a3),rfl⟩
 |_=>none
noncomputable def tZ(e:Expr):Option { t:BoolOp×List Expr×Pos // e=.BoolOp t.1 t.2.1 t.2.2 }:=match e with
 |.BoolOp a0 a1 a2=>some ⟨(a0,a1,a2),rfl⟩
 |_=>none
noncomputable def Ff(e:Expr):Option { t:Expr×Expr×Expr×Pos // e=.IfExp t.1 t.2.1 t.2.2.1 t.2.2.2 }:=match e with
 |.IfExp a0 a1 a2 a3=>some ⟨(a0,a1,a2,a3),rfl⟩
 |_=>none
noncomputable def gU(e:Expr):Option { t:List Expr×Nat×Pos // e=.Tuple t.1 t.2.1 t.2.2 }:=match e with
 |.Tuple a0 a1 a2=>some ⟨(a0,a1,a2),rfl⟩
 |_=>none
noncomputable def asList(e:Expr):Option { t:List Expr×Pos // e=.List t.1 t.2 }:=match e with
 |.List a0 a1=>some ⟨(a0,a1),rfl⟩
 |_=>none
noncomputable def jz(e:Expr):Option { t:Expr×Expr×Pos // e=.Subscript t.1 t.2.1 t.2.2 }:=match e with
 |.Subscript a0 a1 a2=>some ⟨(a0,a1,a2),rfl⟩
 |_=>none
noncomputable def Fg(e:Expr):Option { t:Option Expr×Option Expr×Option Expr×Pos // e=.Slice t.1 t.2.1 t.2.2.1 t.2.2.2 }:=match e with
 |.Slice a0 a1 a2 a3=>some ⟨(a0,a1,a2,a3),rfl⟩
 |_=>none
noncomputable def xT(e:Expr):Option { t:Expr×List Expr×List Keyword×Pos // e=.Call t.1 t.2.1 t.2.2.1 t.2.2.2 }:=match e with
 |.Call a0 a1 a2 a3=>some ⟨(a0,a1,a2,a3),rfl⟩
 |_=>none
noncomputable def Fi(e:Expr):Option { t:Expr×Str×Pos // e=.Attribute t.1 t.2.1 t.2.2 }:=match e with
 |.Attribute a0 a1 a2=>some ⟨(a0,a1,a2),rfl⟩
 |_=>none
noncomputable def t6(e:Expr):Option { t:Expr×List Comprehension×Scope×Pos // e=.ListComp t.1 t.2.1 t.2.2.1 t.2.2.2 }:=match e with
 |.ListComp a0 a1 a2 a3=>some ⟨(a0,a1,a2,a3),rfl⟩
 |_=>none
noncomputable def kZ(e:Stmt):Option { t:Expr×Pos // e=.Expr t.1 t.2 }:=match e with
 |.Expr a0 a1=>some ⟨(a0,a1),rfl⟩
 |_=>none
noncomputable def lg(e:Stmt):Option { t:List Expr×Expr×Pos // e=.Assign t.1 t.2.1 t.2.2 }:=match e with
 |.Assign a0 a1 a2=>some ⟨(a0,a1,a2),rfl⟩
 |_=>none
noncomputable def Fj(e:Stmt):Option { t:Expr×Operator×Expr×Pos // e=.AugAssign t.1 t.2.1 t.2.2.1 t.2.2.2 }:=match e with
 |.AugAssign a0 a1 a2 a3=>some ⟨(a0,a1,a2,a3),rfl⟩
 |_=>none
noncomputable def Fl(e:Stmt):Option { t:Option Expr×Option Expr×Pos // e=.Raise t.1 t.2.1 t.2.2 }:=match e with
 |.Raise a0 a1 a2=>some ⟨(a0,a1,a2),rfl⟩
 |_=>none
noncomputable def aic(e:Stmt):Option { t:List Stmt×List ExceptHandler×List Stmt×List Stmt×Pos // e=.Try t.1 t.2.1 t.2.2.1 t.2.2.2.1 t.2.2.2.2 }:=match e with
 |.Try a0 a1 a2 a3 a4=>some ⟨(a0,a1,a2,a3,a4),rfl⟩
 |_=>none
noncomputable def aid(e:ExceptHandler):Option { t:Option Expr×Option Str×List Stmt×Pos // e=.ExceptHandler t.1 t.2.1 t.2.2.1 t.2.2.2 }:=match e with
 |.ExceptHandler a0 a1 a2 a3=>some ⟨(a0,a1,a2,a3),rfl⟩
noncomputable def xU(e:Expr):Option { t:Expr×Int×Option Expr×Pos // e=.FormattedValue t.1 t.2.1 t.2.2.1 t.2.2.2 }:=match e with
 |.FormattedValue a0 a1 a2 a3=>some ⟨(a0,a1,a2,a3),rfl⟩
 |_=>none
noncomputable def aaA(e:Expr):Option { t:List Expr×Pos // e=.JoinedStr t.1 t.2 }:=match e with
 |.JoinedStr a0 a1=>some ⟨(a0,a1),rfl⟩
 |_=>none
def aaB(k:Const):Option { x:Str // k=.str x }:=match k with
 |.str x=>some ⟨x,rfl⟩
 |_=>none
def aie(b:Bool)(k:Const):Bool:=match k with
 |.bool c=>c==b
 |_=>false
noncomputable def t7(e:Stmt):Option { t:Option Expr×Pos // e=.Return t.1 t.2 }:=match e with
 |.Return a0 a1=>some ⟨(a0,a1),rfl⟩
 |_=>none
noncomputable def xV(e:Stmt):Option { t:Expr×List Stmt×List Stmt×Pos // e=.If t.1 t.2.1 t.2.2.1 t.2.2.2 }:=match e with
 |.If a0 a1 a2 a3=>some ⟨(a0,a1,a2,a3),rfl⟩
 |_=>none
noncomputable def Fp(e:Stmt):Option { t:Expr×Expr×List Stmt×List Stmt×Pos // e=.For t.1 t.2.1 t.2.2.1 t.2.2.2.1 t.2.2.2.2 }:=match e with
 |.For a0 a1 a2 a3 a4=>some ⟨(a0,a1,a2,a3,a4),rfl⟩
 |_=>none
noncomputable def Fq(e:Stmt):Option { t:Expr×List Stmt×List Stmt×Pos // e=.While t.1 t.2.1 t.2.2.1 t.2.2.2 }:=match e with
 |.While a0 a1 a2 a3=>some ⟨(a0,a1,a2,a3),rfl⟩
 |_=>none
def Ft(e:Stmt):Option { t:Pos // e=.Pass t }:=match e with
 |.Pass a0=>some ⟨a0,rfl⟩
 |_=>none
def Fv(e:Stmt):Option { t:Pos // e=.Break t }:=match e with
 |.Break a0=>some ⟨a0,rfl⟩
 |_=>none
def Fw(e:Stmt):Option { t:Pos // e=.Continue t }:=match e with
 |.Continue a0=>some ⟨a0,rfl⟩
 |_=>none
def one{α:Type}:List α->Option α
 |[a]=>some a
 |_=>none
def three{α:Type}:List α->Option (α×α×α)
 |[x,y,z]=>some (x,y,z)
 |_=>none
theorem aaC{α:Type}{l:List α}{v:α×α×α}(h:three l=some v):l=[v.1,v.2.1,v.2.2]:=by
 unfold three at h;split at h
 ·cases h;rfl
 ·cases h
def two{α:Type}:List α->Option (α×α)
 |[a,b]=>some (a,b)
 |_=>none
def hdT{α:Type}:List α->Option (α×List α)
 |a::r=>some (a,r)
 |[]=>none
theorem eE{α:Type}{l:List α}{a:α}(h:one l=some a):l=[a]:=by
 cases l with
 |nil=>cases h
 |cons x r=>cases r with
  |nil=>cases h;rfl
  |cons _ _=>cases h
theorem lq{α:Type}{l:List α}{a:α×α}(h:two l=some a):l=[a.1,a.2]:=by
 cases l with
 |nil=>cases h
 |cons x r=>cases r with
  |nil=>cases h
  |cons y r=>cases r with
   |nil=>cases h;rfl
   |cons _ _=>cases h
theorem Fx{α:Type}{l:List α}{a:α×List α}(h:hdT l=some a):l=a.1::a.2:=by
 cases l with
 |nil=>cases h
 |cons x r=>cases h;rfl
theorem aY{α:Type}{o:Option α}{p:α->Bool}(h:o.any p=true):∃t,o=some t/\p t=true:=by
 cases o with
 |none=>cases h
 |some t=>exact ⟨t,rfl,h⟩
def xW:UnaryOp->Bool
 |.USub=>true
 |_=>false
def lr:UnaryOp->Bool
 |.Not=>true
 |_=>false
theorem aaD{o:UnaryOp}(h:xW o=true):o=.USub:=by cases o <;> first |rfl |cases h
theorem Fy{o:UnaryOp}(h:lr o=true):o=.Not:=by cases o <;> first |rfl |cases h
noncomputable def bJ(e:Expr):Option (Str×Pos×List Expr×Pos):=(xT e).bind λt=>(asName t.1.1).bind λn=>match t.1.2.2.1 with |[]=>some (n.1.1,n.1.2,t.1.2.1,t.1.2.2.2) |_::_=>none
noncomputable def aB{α:Type}{q:α->Prop}(o:Option { t:α // q t })(P:α->Bool):Bool:=match o with |some t=>P t.1 |none=>false
theorem aO{α:Type}{q:α->Prop}{o:Option { t:α // q t }}{P:α->Bool}(h:aB o P=true):∃t,q t/\P t=true:=by
 cases o with
 |none=>cases h
 |some t=>exact ⟨t.1,t.2,h⟩
theorem FJ{α β:Type}{o:Option α}{f:α->Option β}{b:β}(h:o.bind f=some b):∃t,o=some t/\f t=some b:=by
 cases o with
 |none=>cases h
 |some t=>exact ⟨t,rfl,h⟩
theorem eF{e:Expr}{t:Str×Pos×List Expr×Pos}(h:bJ e=some t):e=.Call (.Name t.1 t.2.1) t.2.2.1 [] t.2.2.2:=by
 obtain ⟨⟨⟨f,as,ks,p⟩,hu⟩,_,h⟩:=FJ h;obtain ⟨⟨⟨x,p'⟩,hn⟩,_,h⟩:=FJ h;dsimp only at h hn hu;cases ks with
 |nil=>cases h;rw[hu,hn]
 |cons _ _=>cases h
def lu(e:Expr):Bool:=(kY e).isSome
def FN:Ex->Bool
 |.frz _=>false
 |_=>true
def xX:Tx->Bool
 |.yes=>true
 |_=>false
mutual
noncomputable def bB(c:CT):Tg->Expr->Bool
 |.nm i,e=>aB (asName e) λt=>(c.N[i]?==some t.1)&&c.sto t.1
 |.tp ts,e=>aB (gU e) λt=>cI c ts t.1
noncomputable def cI(c:CT):Tgs->List Expr->Bool
 |.nil,es=>es.isEmpty
 |.cons t r,es=>match es with
  |e::es=>bB c t e&&cI c r es
  |[]=>false
end
def xY(e:Expr):Bool:=aB (tY e) λt=>aB (aaB t.1) λx=>decide (x.length<=1000)
def unF(e:Expr):Expr:=match xU e with |some t=>t.1.1 |none=>e
def aaE:Ex->Bool
 |.cst (.str _)=>true
 |_=>false
noncomputable def aaF:Exs->List Expr->Bool
 |.cons x xs,p::ps=>(match xU p with |some t=>decide (t.1.2.1=-1)&&t.1.2.2.1.isNone |none=>aaE x)&&aaF xs ps
 |.nil,ps=>ps.isEmpty
 |_,[]=>false
mutual
noncomputable def aj(c:CT):Ex->Expr->Bool
 |.var i,e=>aB (asName e) λt=>(c.N[i]?==some t.1)&&iG (c.kd.lookup t.1)&&okN t.1
 |.cst d,e=>aB (tY e) λt=>tW d t.1
 |.glb x d,e=>aB (asName e) λt=>t.1==Str.ofString x&&c.glo t.1&&c.cn.any (λp=>p.1==x&&sEq p.2 d)
 |.bin op _ a b,e=>aB (Fe e) λt=>t.2.1==op&&aj c a t.1&&aj c b t.2.2.1
 |.neg a,e=>aB (jy e) λt=>xW t.1&&aj c a t.2.1
 |.cmp op a b,e=>aB (kY e) λt=>(one t.2.1).any λo=>(one t.2.2.1).any λr=>o==op&&aj c a t.1&&aj c b r
 |.chn op op' a b d,e=>aB (kY e) λt=>(two t.2.1).any λo=>(two t.2.2.1).any λr=>o.1==op&&o.2==op'&&aj c a t.1&&aj c b r.1&&aj c d r.2
 |.not a,e=>aB (jy e) λt=>lr t.1&&aj c a t.2.1
 |.boo isAnd x es,e=>aB (tZ e) λt=>(hdT t.2.1).any λv=>t.1==(if isAnd then .And else .Or)&&aj c x v.1&&aJ c es v.2
 |.ife t a b,e=>aB (Ff e) λu=>bC c t u.1&&aj c a u.2.1&&aj c b u.2.2.1
 |.tup es,e=>aB (gU e) λt=>aJ c es t.1
 |.lst _ es,e=>aB (asList e) λt=>aJ c es t.1
 |.idx a i,e=>aB (jz e) λt=>aj c a t.1&&aj c i t.2.1
 |.slc _ a lo hi,e=>aB (jz e) λt=>aB (Fg t.2.1) λs=>s.2.2.1.isNone&&(aj c a t.1&&gh c lo s.1&&gh c hi s.2.1)
 |.rvs _ _ _,_=>false
 |.call f es,e=>(bJ e).any λt=>t.1==Str.ofString f&&c.glo t.1&&(c.fs.any λp=>p.1==f&&p.2==t.2.2.1.length)&&!t.2.2.1.isEmpty&&aJ c es t.2.2.1
 |.bcl f es,e=>(bJ e).any λt=>t.1==Str.ofString f.name&&xQ f&&c.glo t.1&&c.bt.contains f.name&&!t.2.2.1.isEmpty&&aJ c es t.2.2.1
 |.lcl _ f es,e=>(bJ e).any λt=>t.1==Str.ofString f.name&&xR f&&c.glo t.1&&c.bt.contains f.name&&!t.2.2.1.isEmpty&&aJ c es t.2.2.1
 |.isi a t,e=>(bJ e).any λu=>(two u.2.2.1).any λv=>aB (asName v.2) λy=>u.1==Str.ofString "isinstance"&&c.glo u.1&&c.bt.contains "isinstance"&&aj c a v.1&&y.1==Str.ofString t&&c.glo y.1&&c.bt.contains t&&fX t
 |.isx _ _ _,_=>false
 |.fst _,_=>false
 |.rgl _ _,_=>false
 |.rgt _,_=>false
 |.rpl _ _ _ _,_=>false
 |.fld _ _ _,_=>false
 |.mcl _ _ _ _ _,_=>false
 |.mko _ _,_=>false
 |.pp0 _,_=>false
 |.mth m o es,e=>aB (xT e) λt=>aB (Fi t.1) λv=>t.2.2.1.isEmpty&&(v.2.1==Str.ofString m.name&&aj c o v.1&&!tX v.1&&(v.2.2.endLine==t.2.2.2.line)&&decide (t.2.1.length < 29)&&!t.2.1.isEmpty&&aJ c es t.2.1)
 |.comp _ elt tg it cond N cap,e=>aB (t6 e) λt=>(one t.2.1).any λg=>decide (g.is_async=0)&&aZ c it g.target g.iter&&d9 c.N t.2.2.1 (N.map Str.ofString) cap&&gf c t.2.2.1&&cX (N.map Str.ofString) &&
    bB (c.comp (N.map Str.ofString) t.2.2.1) tg g.target&&((xX cond&&g.ifs.isEmpty)||(one g.ifs).any λf=>bC (c.comp (N.map Str.ofString) t.2.2.1) cond f)&&aj (c.comp (N.map Str.ofString) t.2.2.1) elt t.1
 |.cm3 elt t1 i1 t2 i2 t3 i3 N cap,e=>aB (t6 e) λt=>(three t.2.1).any λg=>decide (g.1.is_async=0)&&decide (g.2.1.is_async=0)&&decide (g.2.2.is_async=0)&&g.1.ifs.isEmpty&&g.2.1.ifs.isEmpty&&g.2.2.ifs.isEmpty&&aZ c i1 g.1.target g.1.iter&&d9 c.N t.2.2.1 (N.map Str.ofString) cap&&gf c t.2.2.1&&cX (N.map Str.ofString)&&bB (c.comp (N.map Str.ofString) t.2.2.1) t1 g.1.target&&aZ (c.comp (N.map Str.ofString) t.2.2.1) i2 g.2.1.target g.2.1.iter&&bB (c.comp (N.map Str.ofString) t.2.2.1) t2 g.2.1.target&&aZ (c.comp (N.map Str.ofString) t.2.2.1) i3 g.2.2.target g.2.2.iter&&bB (c.comp (N.map Str.ofString) t.2.2.1) t3 g.2.2.target&&aj (c.comp (N.map Str.ofString) t.2.2.1) elt t.1
 |.frz a,e=>aj c a e
noncomputable def bC(c:CT):Tx->Expr->Bool
 |.val x,e=>(iH e||lu e)&&aj c x e&&FN x
 |.not t,e=>aB (jy e) λu=>lr u.1&&bC c t u.2.1
 |.boo isAnd t ts,e=>aB (tZ e) λu=>(hdT u.2.1).any λv=>u.1==(if isAnd then .And else .Or)&&bC c t v.1&&iI c ts v.2
 |.yes,_=>false
noncomputable def iI(c:CT):Txs->List Expr->Bool
 |.nil,es=>es.isEmpty
 |.cons t r,es=>match es with
  |e::es=>bC c t e&&iI c r es
  |[]=>false
noncomputable def aJ(c:CT):Exs->List Expr->Bool
 |.nil,es=>es.isEmpty
 |.cons t r,es=>match es with
  |e::es=>aj c t e&&aJ c r es
  |[]=>false
noncomputable def gh(c:CT):Ox->Option Expr->Bool
 |.no,e=>e.isNone
 |.ob x,e=>match e with
  |some e=>aj c x e
  |none=>false
noncomputable def aZ(c:CT):It'->Expr->Expr->Bool
 |.seq x,_,e=>aj c x e
 |.rng a,_,e=>(bJ e).any λt=>(one t.2.2.1).any λv=>t.1==Str.ofString "range"&&c.glo t.1&&c.bt.contains "range"&&aj c a v
 |.rng2 a b,_,e=>(bJ e).any λt=>(two t.2.2.1).any λv=>t.1==Str.ofString "range"&&c.glo t.1&&c.bt.contains "range"&&aj c a v.1&&aj c b v.2
 |.rev a,_,e=>(bJ e).any λt=>(one t.2.2.1).any λv=>(bJ v).any λt'=>(one t'.2.2.1).any λv'=>t.1==Str.ofString "reversed"&&c.glo t.1&&c.bt.contains "reversed"&&t'.1==Str.ofString "range"&&c.glo t'.1&&c.bt.contains "range"&&aj c a v'
 |.dwn _ _ _,_,_=>false
 |.enm a,tg,e=>aB (gU tg) λ_=>(bJ e).any λt=>(one t.2.2.1).any λv=>t.1==Str.ofString "enumerate"&&c.glo t.1&&c.bt.contains "enumerate"&&aj c a v
 |.zip a b,tg,e=>aB (gU tg) λ_=>(bJ e).any λt=>(two t.2.2.1).any λv=>t.1==Str.ofString "zip"&&c.glo t.1&&c.bt.contains "zip"&&aj c a v.1&&aj c b v.2
end
def lw(c:CT)(cond:Tx)(ifs:List Expr):Bool:=(xX cond&&ifs.isEmpty)||(one ifs).any λf=>bC c cond f
def FP:Ex->Bool
 |.comp ..=>true
 |.cm3 ..=>true
 |_=>false
def FQ:Expr->Bool
 |.Tuple ..=>true
 |_=>false
def xZ(g:Tg)(x:Ex)(e:Expr):Bool:=match g with |.nm _=>!dm e||FP x |.tp _=>!FQ e&&!dm e
noncomputable def lz(c:CT):Exs->List Expr->Bool
 |es,[]=>(match es with |.nil=>true |_=>false)
 |es,p::ps=>match xY p with
  |true=>lz c es ps
  |false=>(match es with |.cons x r=>(aB (xU p) λt=>decide (t.2.1=-1)&&t.2.2.1.isNone&&aj c x t.1)&&lz c r ps |.nil=>false)
noncomputable def t8(c:CT)(es:Exs)(e:Expr):Bool:=(match es with |.nil=>xY e |_=>false)||aB (aaA e) λt=>decide (2<=t.1.length)&&decide (t.1.length<=50)&&lz c es t.1
noncomputable def FT(c:CT):Tb->List Stmt->Bool
 |.call f es,sts=>(one sts).any λs0=>aB (kZ s0) λe0=>(bJ e0.1).any λu=>(u.1==Str.ofString f&&c.glo u.1&&(c.fs.any λp=>p.1==f&&p.2==u.2.2.1.length)&&!u.2.2.1.isEmpty&&aJ c es u.2.2.1)
 |.pick _ _ _ _,_=>false
 |.asg i f es,sts=>(one sts).any λs0=>aB (lg s0) λa=>(one a.1).any λtg=>aB (asName tg) λy=>(bJ a.2.1).any λu=>(c.N[i]?==some y.1&&c.sto y.1&&okN y.1)&&(u.1==Str.ofString f&&c.glo u.1&&(c.fs.any λp=>p.1==f&&p.2==u.2.2.1.length)&&!u.2.2.1.isEmpty&&aJ c es u.2.2.1)
 |.ite t a b,sts=>(one sts).any λs0=>aB (xV s0) λu=>bC c t u.1&&FT c a u.2.1&&FT c b u.2.2.1
 |.mcl f C m o es,sts=>(one sts).any λs0=>aB (kZ s0) λe0=>aj c (.mcl f C m o es) e0.1
 |.mko C es,sts=>(one sts).any λs0=>aB (kZ s0) λe0=>aj c (.mko C es) e0.1
def aaG(b:Bool):Const->Bool
 |.bool x=>x==b
 |_=>false
noncomputable def aif(c:CT)(h:Hd)(nm:Option Str)(y:Str)(e:Expr):Bool:=(match h with
 |.flag i b=>nm.isNone&&(c.N[i]?==some y)&&aB (tY e) λk=>aaG b k.1
 |.bind n i=>nm.any λx=>(c.N[i]?==some y)&&(c.N[n]?==some x)&&(c.kd.lookup x==some .local)&&okN x&&aB (asName e) λz=>z.1==x)&&c.sto y&&okN y
mutual
noncomputable def bw(c:CT):Sx->Stmt->Bool
 |.exp x,st=>aB (kZ st) λt=>!dm t.1&&aj c x t.1
 |.asg g x,st=>aB (lg st) λt=>(one t.1).any λtg=>bB c g tg&&aj c x t.2.1&&xZ g x t.2.1
 |.set o i x,st=>aB (lg st) λt=>(one t.1).any λtg=>aB (jz tg) λu=>aj c o u.1&&aj c i u.2.1&&aj c x t.2.1&&!dm t.2.1
 |.aug i op x,st=>aB (Fj st) λt=>aB (asName t.1) λy=>t.2.1==op&&(c.N[i]?==some y.1)&&c.sto y.1&&okN y.1&&aj c x t.2.2.1
 |.augs _ _ _ _,_=>false
 |.ret x,st=>aB (t7 st) λt=>t.1.any λe=>aj c x e
 |.rtn,st=>aB (t7 st) λt=>t.1.isNone
 |.ite t a b,st=>aB (xV st) λu=>bC c t u.1&&aC c a u.2.1&&aC c b u.2.2.1
 |.for_ g it b,st=>aB (Fp st) λt=>t.2.2.2.1.isEmpty&&(bB c g t.1&&aZ c it t.1 t.2.1&&aC c b t.2.2.1)
 |.whl t b,st=>aB (Fq st) λu=>u.2.2.1.isEmpty&&(bC c t u.1&&aC c b u.2.1)
 |.pas,st=>(Ft st).isSome
 |.brk,st=>(Fv st).isSome
 |.cnt,st=>(Fw st).isSome
 |.nev,_=>true
 |.rse C es,st=>aB (Fl st) λt=>t.2.1.isNone&&t.1.any λe=>(bJ e).any λu=>u.1==Str.ofString C&&c.glo u.1&&c.xs.contains (C,true)&&(one u.2.2.1).any λm=>t8 c es m
 |.tryc _ _ _ _ _,_=>false
 |.tryx _ _ _ _,_=>false
noncomputable def aC(c:CT):Sxs->List Stmt->Bool
 |.nil,es=>es.isEmpty
 |.cons t r,es=>match es with
  |e::es=>bw c t e&&aC c r es
  |[]=>false
end
theorem yc{c:CT}{i:Nat}{e:Expr}(h:bB c (.nm i) e=true):∃x p,e=.Name x p/\((c.N[i]?==some x)&&c.sto x)=true:=by have h:(aB (asName e) λt=>(c.N[i]?==some t.1)&&c.sto t.1)=true:=h;obtain ⟨t,ht,h⟩:=aO h;exact ⟨_,_,ht,h⟩
theorem yd{c:CT}{ts:Tgs}{e:Expr}(h:bB c (.tp ts) e=true):∃es k p,e=.Tuple es k p/\(cI c ts es)=true:=by have h:(aB (gU e) λt=>cI c ts t.1)=true:=h;obtain ⟨t,ht,h⟩:=aO h;exact ⟨_,_,_,ht,h⟩
theorem FW{c:CT}{i:Nat}{e:Expr}(h:aj c (.var i) e=true):∃x p,e=.Name x p/\((c.N[i]?==some x)&&iG (c.kd.lookup x)&&okN x)=true:=by have h:(aB (asName e) λt=>(c.N[i]?==some t.1)&&iG (c.kd.lookup t.1)&&okN t.1)=true:=h;obtain ⟨t,ht,h⟩:=aO h;exact ⟨_,_,ht,h⟩
theorem Ga{c:CT}{d:D}{e:Expr}(h:aj c (.cst d) e=true):∃k n p,e=.Constant k n p/\(tW d k)=true:=by have h:(aB (tY e) λt=>tW d t.1)=true:=h;obtain ⟨t,ht,h⟩:=aO h;exact ⟨_,_,_,ht,h⟩
theorem Gb{c:CT}{x:String}{d:D}{e:Expr}(h:aj c (.glb x d) e=true):∃y p,e=.Name y p/\(y==Str.ofString x&&c.glo y&&c.cn.any (λp=>p.1==x&&sEq p.2 d))=true:=by have h:(aB (asName e) λt=>t.1==Str.ofString x&&c.glo t.1&&c.cn.any (λp=>p.1==x&&sEq p.2 d))=true:=h;obtain ⟨t,ht,h⟩:=aO h;exact ⟨_,_,ht,h⟩
theorem Gd{c:CT}{op:Operator}{fz:Bool}{a b:Ex}{e:Expr}(h:aj c (.bin op fz a b) e=true):∃l o r p,e=.BinOp l o r p/\(o==op&&aj c a l&&aj c b r)=true:=by have h:(aB (Fe e) λt=>t.2.1==op&&aj c a t.1&&aj c b t.2.2.1)=true:=h;obtain ⟨t,ht,h⟩:=aO h;exact ⟨_,_,_,_,ht,h⟩
theorem Ge{c:CT}{a:Ex}{e:Expr}(h:aj c (.neg a) e=true):∃x p,e=.UnaryOp .USub x p/\(aj c a x)=true:=by have h:(aB (jy e) λt=>xW t.1&&aj c a t.2.1)=true:=h;obtain ⟨t,ht,h⟩:=aO h;rw[ae]at h;exact ⟨_,_,by rw[ht,aaD h.1],h.2⟩
theorem Gf{c:CT}{a:Ex}{e:Expr}(h:aj c (.not a) e=true):∃x p,e=.UnaryOp .Not x p/\(aj c a x)=true:=by have h:(aB (jy e) λt=>lr t.1&&aj c a t.2.1)=true:=h;obtain ⟨t,ht,h⟩:=aO h;rw[ae]at h;exact ⟨_,_,by rw[ht,Fy h.1],h.2⟩
theorem Gg{c:CT}{op:CmpOp}{a b:Ex}{e:Expr}(h:aj c (.cmp op a b) e=true):∃l o r p,e=.Compare l [o] [r] p/\(o==op&&aj c a l&&aj c b r)=true:=by have h:(aB (kY e) λt=>(one t.2.1).any λo=>(one t.2.2.1).any λr=>o==op&&aj c a t.1&&aj c b r)=true:=h;obtain ⟨t,ht,h⟩:=aO h;obtain ⟨o,ho,h⟩:=aY h;obtain ⟨r,hr,h⟩:=aY h;exact ⟨_,_,_,_,by rw[ht,eE ho,eE hr],h⟩
theorem Gi{c:CT}{op op':CmpOp}{a b d:Ex}{e:Expr}(h:aj c (.chn op op' a b d) e=true):∃l o o' m r p,e=.Compare l [o,o'] [m,r] p/\(o==op&&o'==op'&&aj c a l&&aj c b m&&aj c d r)=true:=by have h:(aB (kY e) λt=>(two t.2.1).any λo=>(two t.2.2.1).any λr=>o.1==op&&o.2==op'&&aj c a t.1&&aj c b r.1&&aj c d r.2)=true:=h;obtain ⟨t,ht,h⟩:=aO h;obtain ⟨o,ho,h⟩:=aY h;obtain ⟨r,hr,h⟩:=aY h;exact ⟨_,_,_,_,_,_,by rw[ht,lq ho,lq hr],h⟩
theorem Gj{c:CT}{isAnd:Bool}{x:Ex}{es:Exs}{e:Expr}(h:aj c (.boo isAnd x es) e=true):∃op v vs p,e=.BoolOp op (v::vs) p/\(op==(if isAnd then .And else .Or)&&aj c x v&&aJ c es vs)=true:=by have h:(aB (tZ e) λt=>(hdT t.2.1).any λv=>t.1==(if isAnd then .And else .Or)&&aj c x v.1&&aJ c es v.2)=true:=h;obtain ⟨t,ht,h⟩:=aO h;obtain ⟨v,hv,h⟩:=aY h;exact ⟨_,_,_,_,by rw[ht,Fx hv],h⟩
theorem Gk{c:CT}{t:Tx}{a b:Ex}{e:Expr}(h:aj c (.ife t a b) e=true):∃t' a' b' p,e=.IfExp t' a' b' p/\(bC c t t'&&aj c a a'&&aj c b b')=true:=by have h:(aB (Ff e) λu=>bC c t u.1&&aj c a u.2.1&&aj c b u.2.2.1)=true:=h;obtain ⟨u,ht,h⟩:=aO h;exact ⟨_,_,_,_,ht,h⟩
theorem Gm{c:CT}{es:Exs}{e:Expr}(h:aj c (.tup es) e=true):∃vs k p,e=.Tuple vs k p/\(aJ c es vs)=true:=by have h:(aB (gU e) λt=>aJ c es t.1)=true:=h;obtain ⟨t,ht,h⟩:=aO h;exact ⟨_,_,_,ht,h⟩
theorem Gn{c:CT}{fz:Bool}{es:Exs}{e:Expr}(h:aj c (.lst fz es) e=true):∃vs p,e=.List vs p/\(aJ c es vs)=true:=by have h:(aB (asList e) λt=>aJ c es t.1)=true:=h;obtain ⟨t,ht,h⟩:=aO h;exact ⟨_,_,ht,h⟩
theorem Gp{c:CT}{a i:Ex}{e:Expr}(h:aj c (.idx a i) e=true):∃v s p,e=.Subscript v s p/\(aj c a v&&aj c i s)=true:=by have h:(aB (jz e) λt=>aj c a t.1&&aj c i t.2.1)=true:=h;obtain ⟨t,ht,h⟩:=aO h;exact ⟨_,_,_,ht,h⟩
theorem Gq{c:CT}{fz:Bool}{a:Ex}{lo hi:Ox}{e:Expr}(h:aj c (.slc fz a lo hi) e=true):∃v l u p' p,e=.Subscript v (.Slice l u none p') p/\(aj c a v&&gh c lo l&&gh c hi u)=true:=by have h:(aB (jz e) λt=>aB (Fg t.2.1) λs=>s.2.2.1.isNone&&(aj c a t.1&&gh c lo s.1&&gh c hi s.2.1))=true:=h;obtain ⟨t,ht,h⟩:=aO h;obtain ⟨s,hs,h⟩:=aO h;rw[ae,fx]at h;exact ⟨_,_,_,_,_,by rw[ht,hs,h.1],h.2⟩
theorem Gs{c:CT}{f:String}{es:Exs}{e:Expr}(h:aj c (.call f es) e=true):∃x p args pos,e=.Call (.Name x p) args [] pos/\(x==Str.ofString f&&c.glo x&&(c.fs.any λp=>p.1==f&&p.2==args.length)&&!args.isEmpty&&aJ c es args)=true:=by have h:((bJ e).any λt=>t.1==Str.ofString f&&c.glo t.1&&(c.fs.any λp=>p.1==f&&p.2==t.2.2.1.length)&&!t.2.2.1.isEmpty&&aJ c es t.2.2.1)=true:=h;obtain ⟨t,ht,h⟩:=aY h;exact ⟨_,_,_,_,eF ht,h⟩
theorem Gu{c:CT}{f:Bf}{es:Exs}{e:Expr}(h:aj c (.bcl f es) e=true):∃x p args pos,e=.Call (.Name x p) args [] pos/\(x==Str.ofString f.name&&xQ f&&c.glo x&&c.bt.contains f.name&&!args.isEmpty&&aJ c es args)=true:=by have h:((bJ e).any λt=>t.1==Str.ofString f.name&&xQ f&&c.glo t.1&&c.bt.contains f.name&&!t.2.2.1.isEmpty&&aJ c es t.2.2.1)=true:=h;obtain ⟨t,ht,h⟩:=aY h;exact ⟨_,_,_,_,eF ht,h⟩
theorem Gv{c:CT}{fz:Bool}{f:Lf}{es:Exs}{e:Expr}(h:aj c (.lcl fz f es) e=true):∃x p args pos,e=.Call (.Name x p) args [] pos/\(x==Str.ofString f.name&&xR f&&c.glo x&&c.bt.contains f.name&&!args.isEmpty&&aJ c es args)=true:=by have h:((bJ e).any λt=>t.1==Str.ofString f.name&&xR f&&c.glo t.1&&c.bt.contains f.name&&!t.2.2.1.isEmpty&&aJ c es t.2.2.1)=true:=h;obtain ⟨t,ht,h⟩:=aY h;exact ⟨_,_,_,_,eF ht,h⟩
theorem Gw {c:CT} {a:Ex} {t:String} {e:Expr} (h:aj c (.isi a t) e=true):∃x p v y p' pos,e=.Call (.Name x p) [v,.Name y p'] [] pos/\(x==Str.ofString "isinstance"&&c.glo x&&c.bt.contains "isinstance"&&aj c a v&&y==Str.ofString t&&c.glo y&&c.bt.contains t&&fX t)=true:=by have h:((bJ e).any λu=>(two u.2.2.1).any λv=>aB (asName v.2) λy=>u.1==Str.ofString "isinstance"&&c.glo u.1&&c.bt.contains "isinstance"&&aj c a v.1&&y.1==Str.ofString t&&c.glo y.1&&c.bt.contains t&&fX t)=true:=h;obtain ⟨u,hu,h⟩:=aY h;obtain ⟨v,hv,h⟩:=aY h;obtain ⟨y,hy,h⟩:=aO h;exact ⟨_,_,_,_,_,_,by rw[eF hu,lq hv,hy],h⟩
theorem Gx{c:CT}{m:Mf}{o:Ex}{es:Exs}{e:Expr}(h:aj c (.mth m o es) e=true):∃v x apos args cpos,e=.Call (.Attribute v x apos) args [] cpos/\(x==Str.ofString m.name&&aj c o v&&!tX v&&(apos.endLine==cpos.line)&&decide (args.length < 29)&&!args.isEmpty&&aJ c es args)=true:=by have h:(aB (xT e) λt=>aB (Fi t.1) λv=>t.2.2.1.isEmpty&&(v.2.1==Str.ofString m.name&&aj c o v.1&&!tX v.1&&(v.2.2.endLine==t.2.2.2.line)&&decide (t.2.1.length < 29)&&!t.2.1.isEmpty&&aJ c es t.2.1))=true:=h;obtain ⟨t,ht,h⟩:=aO h;obtain ⟨v,hv,h⟩:=aO h;rw[ae,ek]at h;exact ⟨_,_,_,_,_,by rw[ht,hv,h.1],h.2⟩
theorem Gy{c:CT}{fz:Bool}{elt:Ex}{tg:Tg}{it:It'}{cond:Tx}{N:List String}{cap:List (Option Nat)}{e:Expr}(h:aj c (.comp fz elt tg it cond N cap) e=true):∃elt' tg' iter ifs as scope pos,e=.ListComp elt' [⟨tg',iter,ifs,as⟩] scope pos/\(decide (as=0)&&aZ c it tg' iter&&d9 c.N scope (N.map Str.ofString) cap&&gf c scope&&cX (N.map Str.ofString)&&bB (c.comp (N.map Str.ofString) scope) tg tg'&&lw (c.comp (N.map Str.ofString) scope) cond ifs&&aj (c.comp (N.map Str.ofString) scope) elt elt')=true:=by have h:(aB (t6 e) λt=>(one t.2.1).any λg=>decide (g.is_async=0)&&aZ c it g.target g.iter&&d9 c.N t.2.2.1 (N.map Str.ofString) cap&&gf c t.2.2.1&&cX (N.map Str.ofString)&&bB (c.comp (N.map Str.ofString) t.2.2.1) tg g.target&&((xX cond&&g.ifs.isEmpty)||(one g.ifs).any λf=>bC (c.comp (N.map Str.ofString) t.2.2.1) cond f)&&aj (c.comp (N.map Str.ofString) t.2.2.1) elt t.1)=true:=h;obtain ⟨t,ht,h⟩:=aO h;obtain ⟨⟨tg',iter,ifs,as⟩,hg,h⟩:=aY h;exact ⟨t.1,tg',iter,ifs,as,t.2.2.1,t.2.2.2,(ht).trans (by rw[eE hg]),h⟩
theorem ye{c:CT}{elt:Ex}{t1 t2 t3:Tg}{i1 i2 i3:It'}{N:List String}{cap:List (Option Nat)}{e:Expr}(h:aj c (.cm3 elt t1 i1 t2 i2 t3 i3 N cap) e=true):∃elt' a1 b1 a2 b2 a3 b3 scope pos,e=.ListComp elt' [⟨a1,b1,[],0⟩,⟨a2,b2,[],0⟩,⟨a3,b3,[],0⟩] scope pos/\
  (aZ c i1 a1 b1=true/\d9 c.N scope (N.map Str.ofString) cap=true/\gf c scope=true/\cX (N.map Str.ofString)=true/\bB (c.comp (N.map Str.ofString) scope) t1 a1=true/\aZ (c.comp (N.map Str.ofString) scope) i2 a2 b2=true/\bB (c.comp (N.map Str.ofString) scope) t2 a2=true/\aZ (c.comp (N.map Str.ofString) scope) i3 a3 b3=true/\bB (c.comp (N.map Str.ofString) scope) t3 a3=true/\aj (c.comp (N.map Str.ofString) scope) elt elt'=true):=by
 have h:(aB (t6 e) λt=>(three t.2.1).any λg=>decide (g.1.is_async=0)&&decide (g.2.1.is_async=0)&&decide (g.2.2.is_async=0)&&g.1.ifs.isEmpty&&g.2.1.ifs.isEmpty&&g.2.2.ifs.isEmpty&&aZ c i1 g.1.target g.1.iter&&d9 c.N t.2.2.1 (N.map Str.ofString) cap&&gf c t.2.2.1&&cX (N.map Str.ofString)&&bB (c.comp (N.map Str.ofString) t.2.2.1) t1 g.1.target&&aZ (c.comp (N.map Str.ofString) t.2.2.1) i2 g.2.1.target g.2.1.iter&&bB (c.comp (N.map Str.ofString) t.2.2.1) t2 g.2.1.target&&aZ (c.comp (N.map Str.ofString) t.2.2.1) i3 g.2.2.target g.2.2.iter&&bB (c.comp (N.map Str.ofString) t.2.2.1) t3 g.2.2.target&&aj (c.comp (N.map Str.ofString) t.2.2.1) elt t.1)=true:=h;obtain ⟨t,ht,h⟩:=aO h;obtain ⟨⟨⟨a1,b1,f1,z1⟩,⟨a2,b2,f2,z2⟩,⟨a3,b3,f3,z3⟩⟩,hg,h⟩:=aY h;simp only[ae,cb,ek,and_assoc]at h;obtain ⟨rfl,rfl,rfl,rfl,rfl,rfl,h⟩:=h;exact ⟨t.1,a1,b1,a2,b2,a3,b3,t.2.2.1,t.2.2.2,(ht).trans (by rw[aaC hg]),h⟩
theorem aaH{c:CT}{t:Tx}{e:Expr}(h:bC c (.not t) e=true):∃x p,e=.UnaryOp .Not x p/\(bC c t x)=true:=by have h:(aB (jy e) λu=>lr u.1&&bC c t u.2.1)=true:=h;obtain ⟨u,ht,h⟩:=aO h;rw[ae]at h;exact ⟨_,_,by rw[ht,Fy h.1],h.2⟩
theorem aaI{c:CT}{isAnd:Bool}{x:Tx}{es:Txs}{e:Expr}(h:bC c (.boo isAnd x es) e=true):∃op v vs p,e=.BoolOp op (v::vs) p/\(op==(if isAnd then .And else .Or)&&bC c x v&&iI c es vs)=true:=by have h:(aB (tZ e) λu=>(hdT u.2.1).any λv=>u.1==(if isAnd then .And else .Or)&&bC c x v.1&&iI c es v.2)=true:=h;obtain ⟨t,ht,h⟩:=aO h;obtain ⟨v,hv,h⟩:=aY h;exact ⟨_,_,_,_,by rw[ht,Fx hv],h⟩
theorem Gz {c:CT} {a:Ex} {tg e:Expr} (h:aZ c (.rng a) tg e=true):∃x p v pos,e=.Call (.Name x p) [v] [] pos/\(x==Str.ofString "range"&&c.glo x&&c.bt.contains "range"&&aj c a v)=true:=by have h:((bJ e).any λt=>(one t.2.2.1).any λv=>t.1==Str.ofString "range"&&c.glo t.1&&c.bt.contains "range"&&aj c a v)=true:=h;obtain ⟨t,ht,h⟩:=aY h;obtain ⟨v,hv,h⟩:=aY h;exact ⟨_,_,_,_,by rw[eF ht,eE hv],h⟩
theorem GC {c:CT} {a:Ex} {tg e:Expr} (h:aZ c (.rev a) tg e=true):∃x p y q v pos pos',e=.Call (.Name x p) [.Call (.Name y q) [v] [] pos] [] pos'/\(x==Str.ofString "reversed"&&c.glo x&&c.bt.contains "reversed"&&y==Str.ofString "range"&&c.glo y&&c.bt.contains "range"&&aj c a v)=true:=by have h:((bJ e).any λt=>(one t.2.2.1).any λv=>(bJ v).any λt'=>(one t'.2.2.1).any λv'=>t.1==Str.ofString "reversed"&&c.glo t.1&&c.bt.contains "reversed"&&t'.1==Str.ofString "range"&&c.glo t'.1&&c.bt.contains "range"&&aj c a v')=true:=h;obtain ⟨t,ht,h⟩:=aY h;obtain ⟨v,hv,h⟩:=aY h;obtain ⟨t',ht',h⟩:=aY h;obtain ⟨v',hv',h⟩:=aY h;exact ⟨_,_,_,_,_,_,_,by rw[eF ht,eE hv,eF ht',eE hv'],h⟩
theorem GD {c:CT} {a b:Ex} {tg e:Expr} (h:aZ c (.rng2 a b) tg e=true):∃x p v v' pos,e=.Call (.Name x p) [v,v'] [] pos/\(x==Str.ofString "range"&&c.glo x&&c.bt.contains "range"&&aj c a v&&aj c b v')=true:=by have h:((bJ e).any λt=>(two t.2.2.1).any λv=>t.1==Str.ofString "range"&&c.glo t.1&&c.bt.contains "range"&&aj c a v.1&&aj c b v.2)=true:=h;obtain ⟨t,ht,h⟩:=aY h;obtain ⟨v,hv,h⟩:=aY h;exact ⟨_,_,_,_,_,by rw[eF ht,lq hv],h⟩
theorem GF {c:CT} {a:Ex} {tg e:Expr} (h:aZ c (.enm a) tg e=true):∃ts k p0 x p v pos,tg=.Tuple ts k p0/\e=.Call (.Name x p) [v] [] pos/\(x==Str.ofString "enumerate"&&c.glo x&&c.bt.contains "enumerate"&&aj c a v)=true:=by have h:(aB (gU tg) λ_=>(bJ e).any λt=>(one t.2.2.1).any λv=>t.1==Str.ofString "enumerate"&&c.glo t.1&&c.bt.contains "enumerate"&&aj c a v)=true:=h;obtain ⟨g,hg,h⟩:=aO h;obtain ⟨t,ht,h⟩:=aY h;obtain ⟨v,hv,h⟩:=aY h;exact ⟨_,_,_,_,_,_,_,hg,by rw[eF ht,eE hv],h⟩
theorem GJ {c:CT} {a b:Ex} {tg e:Expr} (h:aZ c (.zip a b) tg e=true):∃ts k p0 x p v v' pos,tg=.Tuple ts k p0/\e=.Call (.Name x p) [v,v'] [] pos/\(x==Str.ofString "zip"&&c.glo x&&c.bt.contains "zip"&&aj c a v&&aj c b v')=true:=by have h:(aB (gU tg) λ_=>(bJ e).any λt=>(two t.2.2.1).any λv=>t.1==Str.ofString "zip"&&c.glo t.1&&c.bt.contains "zip"&&aj c a v.1&&aj c b v.2)=true:=h;obtain ⟨g,hg,h⟩:=aO h;obtain ⟨t,ht,h⟩:=aY h;obtain ⟨v,hv,h⟩:=aY h;exact ⟨_,_,_,_,_,_,_,_,hg,by rw[eF ht,lq hv],h⟩
theorem aaJ{c:CT}{x:Ex}{st:Stmt}(h:bw c (.exp x) st=true):∃e pos,st=.Expr e pos/\(!dm e&&aj c x e)=true:=by have h:(aB (kZ st) λt=>!dm t.1&&aj c x t.1)=true:=h;obtain ⟨t,ht,h⟩:=aO h;exact ⟨_,_,ht,h⟩
theorem GK{c:CT}{g:Tg}{x:Ex}{st:Stmt}(h:bw c (.asg g x) st=true):∃tg e pos,st=.Assign [tg] e pos/\(bB c g tg&&aj c x e&&xZ g x e)=true:=by have h:(aB (lg st) λt=>(one t.1).any λtg=>bB c g tg&&aj c x t.2.1&&xZ g x t.2.1)=true:=h;obtain ⟨t,ht,h⟩:=aO h;obtain ⟨g,hg,h⟩:=aY h;exact ⟨_,_,_,by rw[ht,eE hg],h⟩
theorem aaK{c:CT}{o i x:Ex}{st:Stmt}(h:bw c (.set o i x) st=true):∃o' i' tpos e pos,st=.Assign [.Subscript o' i' tpos] e pos/\(aj c o o'&&aj c i i'&&aj c x e&&!dm e)=true:=by have h:(aB (lg st) λt=>(one t.1).any λtg=>aB (jz tg) λu=>aj c o u.1&&aj c i u.2.1&&aj c x t.2.1&&!dm t.2.1)=true:=h;obtain ⟨t,ht,h⟩:=aO h;obtain ⟨g,hg,h⟩:=aY h;obtain ⟨u,hu,h⟩:=aO h;exact ⟨_,_,_,_,_,by rw[ht,eE hg,hu],h⟩
theorem aaL{c:CT}{i:Nat}{op:Operator}{x:Ex}{st:Stmt}(h:bw c (.aug i op x) st=true):∃y py o e pos,st=.AugAssign (.Name y py) o e pos/\(o==op&&(c.N[i]?==some y)&&c.sto y&&okN y&&aj c x e)=true:=by have h:(aB (Fj st) λt=>aB (asName t.1) λy=>t.2.1==op&&(c.N[i]?==some y.1)&&c.sto y.1&&okN y.1&&aj c x t.2.2.1)=true:=h;obtain ⟨t,ht,h⟩:=aO h;obtain ⟨u,hu,h⟩:=aO h;exact ⟨_,_,_,_,_,by rw[ht,hu],h⟩
theorem aaM{c:CT}{C:String}{es:Exs}{st:Stmt}(h:bw c (.rse C es) st=true):∃x np m cpos pos,st=.Raise (some (.Call (.Name x np) [m] [] cpos)) none pos/\(x==Str.ofString C&&c.glo x&&c.xs.contains (C,true)&&t8 c es m)=true:=by have h:(aB (Fl st) λt=>t.2.1.isNone&&t.1.any λe=>(bJ e).any λu=>u.1==Str.ofString C&&c.glo u.1&&c.xs.contains (C,true)&&(one u.2.2.1).any λm=>t8 c es m)=true:=h;obtain ⟨t,ht,h⟩:=aO h;rw[ae,fx]at h;obtain ⟨e,he,h2⟩:=aY h.2;obtain ⟨u,hu,h3⟩:=aY h2;rw[ae]at h3;obtain ⟨m,hm,h4⟩:=aY h3.2;exact ⟨_,_,m,_,_,by rw[ht,h.1,he,eF hu,eE hm],by rw[ae];exact ⟨h3.1,h4⟩⟩
theorem aaN{c:CT}{x:Ex}{st:Stmt}(h:bw c (.ret x) st=true):∃e pos,st=.Return (some e) pos/\(aj c x e)=true:=by have h:(aB (t7 st) λt=>t.1.any λe=>aj c x e)=true:=h;obtain ⟨t,ht,h⟩:=aO h;obtain ⟨e,he,h⟩:=aY h;exact ⟨_,_,by rw[ht,he],h⟩
theorem aaO{c:CT}{st:Stmt}(h:bw c .rtn st=true):∃pos,st=.Return none pos/\(true)=true:=by have h:(aB (t7 st) λt=>t.1.isNone)=true:=h;obtain ⟨t,ht,h⟩:=aO h;rw[fx]at h;exact ⟨_,by rw[ht,h],rfl⟩
theorem aaP{c:CT}{t:Tx}{a b:Sxs}{st:Stmt}(h:bw c (.ite t a b) st=true):∃t' a' b' pos,st=.If t' a' b' pos/\(bC c t t'&&aC c a a'&&aC c b b')=true:=by have h:(aB (xV st) λu=>bC c t u.1&&aC c a u.2.1&&aC c b u.2.2.1)=true:=h;obtain ⟨u,ht,h⟩:=aO h;exact ⟨_,_,_,_,ht,h⟩
theorem aaQ{c:CT}{g:Tg}{it:It'}{b:Sxs}{st:Stmt}(h:bw c (.for_ g it b) st=true):∃tg iter body pos,st=.For tg iter body [] pos/\(bB c g tg&&aZ c it tg iter&&aC c b body)=true:=by have h:(aB (Fp st) λt=>t.2.2.2.1.isEmpty&&(bB c g t.1&&aZ c it t.1 t.2.1&&aC c b t.2.2.1))=true:=h;obtain ⟨t,ht,h⟩:=aO h;rw[ae,ek]at h;exact ⟨_,_,_,_,by rw[ht,h.1],h.2⟩
theorem aaR{c:CT}{t:Tx}{b:Sxs}{st:Stmt}(h:bw c (.whl t b) st=true):∃t' body pos,st=.While t' body [] pos/\(bC c t t'&&aC c b body)=true:=by have h:(aB (Fq st) λu=>u.2.2.1.isEmpty&&(bC c t u.1&&aC c b u.2.1))=true:=h;obtain ⟨u,ht,h⟩:=aO h;rw[ae,ek]at h;exact ⟨_,_,_,by rw[ht,h.1],h.2⟩
theorem aaS{c:CT}{st:Stmt}(h:bw c .pas st=true):∃pos,st=.Pass pos/\(true)=true:=by obtain ⟨⟨t,ht⟩,_⟩:=cw.mp (show (Ft st).isSome=true from h);exact ⟨t,ht,rfl⟩
theorem aaT{c:CT}{st:Stmt}(h:bw c .brk st=true):∃pos,st=.Break pos/\(true)=true:=by obtain ⟨⟨t,ht⟩,_⟩:=cw.mp (show (Fv st).isSome=true from h);exact ⟨t,ht,rfl⟩
theorem aaU{c:CT}{st:Stmt}(h:bw c .cnt st=true):∃pos,st=.Continue pos/\(true)=true:=by obtain ⟨⟨t,ht⟩,_⟩:=cw.mp (show (Fw st).isSome=true from h);exact ⟨t,ht,rfl⟩
def lA:Expr->Bool
 |.Starred ..=>false
 |.Set ..=>false
 |.Slice ..=>false
 |_=>true
theorem b7{c:CT}:∀(x:Ex){e:Expr},aj c x e=true->lA e=true
 |.frz a,e,h=>b7 a (show aj c a e=true from h)
 |.var _,e,h=>by obtain ⟨_,_,rfl,_⟩:=FW h;rfl
 |.cst _,e,h=>by obtain ⟨_,_,_,rfl,_⟩:=Ga h;rfl
 |.glb _ _,e,h=>by obtain ⟨_,_,rfl,_⟩:=Gb h;rfl
 |.bin _ _ _ _,e,h=>by obtain ⟨_,_,_,_,rfl,_⟩:=Gd h;rfl
 |.neg _,e,h=>by obtain ⟨_,_,rfl,_⟩:=Ge h;rfl
 |.cmp _ _ _,e,h=>by obtain ⟨_,_,_,_,rfl,_⟩:=Gg h;rfl
 |.chn _ _ _ _ _,e,h=>by obtain ⟨_,_,_,_,_,_,rfl,_⟩:=Gi h;rfl
 |.not _,e,h=>by obtain ⟨_,_,rfl,_⟩:=Gf h;rfl
 |.boo _ _ _,e,h=>by obtain ⟨_,_,_,_,rfl,_⟩:=Gj h;rfl
 |.ife _ _ _,e,h=>by obtain ⟨_,_,_,_,rfl,_⟩:=Gk h;rfl
 |.tup _,e,h=>by obtain ⟨_,_,_,rfl,_⟩:=Gm h;rfl
 |.lst _ _,e,h=>by obtain ⟨_,_,rfl,_⟩:=Gn h;rfl
 |.idx _ _,e,h=>by obtain ⟨_,_,_,rfl,_⟩:=Gp h;rfl
 |.slc _ _ _ _,e,h=>by obtain ⟨_,_,_,_,_,rfl,_⟩:=Gq h;rfl
 |.rvs _ _ _,_,h=>nomatch (show false=true from h)
 |.call _ _,e,h=>by obtain ⟨_,_,_,_,rfl,_⟩:=Gs h;rfl
 |.bcl _ _,e,h=>by obtain ⟨_,_,_,_,rfl,_⟩:=Gu h;rfl
 |.lcl _ _ _,e,h=>by obtain ⟨_,_,_,_,rfl,_⟩:=Gv h;rfl
 |.isi _ _,e,h=>by obtain ⟨_,_,_,_,_,_,rfl,_⟩:=Gw h;rfl
 |.rgl _ _,_,h=>nomatch (show false=true from h)
 |.rgt _,_,h=>nomatch (show false=true from h)
 |.fst _,_,h=>nomatch (show false=true from h)
 |.isx _ _ _,_,h=>nomatch (show false=true from h)
 |.rpl _ _ _ _,_,h=>nomatch (show false=true from h)
 |.fld _ _ _,_,h=>nomatch (show false=true from h)
 |.mcl _ _ _ _ _,_,h=>nomatch (show false=true from h)
 |.mko _ _,_,h=>nomatch (show false=true from h)
 |.pp0 _,_,h=>nomatch (show false=true from h)
 |.mth _ _ _,e,h=>by obtain ⟨_,_,_,_,_,rfl,_⟩:=Gx h;rfl
 |.comp _ _ _ _ _ _ _,e,h=>by obtain ⟨_,_,_,_,_,_,_,rfl,_⟩:=Gy h;rfl
 |.cm3 _ _ _ _ _ _ _ _ _,e,h=>by obtain ⟨_,_,_,_,_,_,_,_,_,rfl,_⟩:=ye h;rfl
theorem cT{e:Expr}(h:lA e=true):noStar e=true:=by cases e <;> first |rfl |exact nomatch (show false=true from h)
theorem GP{e:Expr}(h:lA e=true)(op:CmpOp):behindInMarks op e=false:=by cases e <;> first |rfl |exact nomatch (show false=true from h)
theorem aaV{e:Expr}(h:lA e=true)(env:Env)(x:Value):foldedSetIterable e env x=pure x:=by cases e <;> first |rfl |exact nomatch (show false=true from h)
theorem aaW{e:Expr}(h:lA e=true):Ck e:=by intro o i;cases e <;> first |rfl |exact nomatch (show false=true from h)
theorem aaX{e:Expr}(h:iH e=true)(env:Env)(whole:Sem Value):isTrue e env whole=(do let v <-whole;standAt e.pos;holding [v] (truthy v)):=by
 cases e with
 |UnaryOp op x p=>cases op <;> first |rfl |exact nomatch (show false=true from h)
 |_=>first |rfl |exact nomatch (show false=true from h)
def XV(K:PF)(H:Hp)(F:FZ)(x:Xn)(cv:Value)(od:Option Addr):Prop:=
 ∃C,cv=.ref C/\PySem.W.nsIn K mainGlobals (Str.ofString x.cls)=some (some (.ref C))/\
  match x.fld with
  |.non=>True
  |d=>∃a f v,od=some a/\H a=some (.xd [(f,v)])/\Rep K H F d v
def XR(K:PF)(H:Hp)(F:FZ)(x:Xn)(EX:XK):Prop:=∀cv od,XV K H F x cv od->EX cv od H
def PX(K:PF)(H:Hp)(F:FZ)(EX:XK):EK:=λx G'=>∀H' F',Ext H F H' F'->R K H' F' G'->XR K H' F' x EX
theorem el{α β γ:Type}{p q r s:α->β->γ->Prop}{C:Prop}(h:∃x y z,p x y z/\q x y z/\r x y z/\s x y z)(k:∀x y z,p x y z->q x y z->r x y z->s x y z->C):C:=by obtain ⟨x,y,z,h1,h2,h3,h4⟩:=h;exact k x y z h1 h2 h3 h4
def lift(K:PF)(n:Nat)(S:RF.Spec):Sp:=λvs H Q EX=>vs.length=n/\∃F G ds,R K H F G/\Reps K H F ds vs/\S.t ds G (PV K H F Q) (PX K H F EX)
def CV(K:PF)(mg:Str->Option Value)(C':String)(cv:V):Prop:=
 (∃a,cv=.ref a/\mg (Str.ofString C')=some (.ref a)/\Dn K a=true)\/(C'="ValueError"/\cv=.ty "ValueError"/\mg (Str.ofString C')=none)
def XI(K:PF)(C C':String)(cv:V):Prop:=
 ∃c,PySem.W.nsIn K mainGlobals (Str.ofString C)=some (some (.ref c))/\Dm K c=true/\PySem.W.mroIn K c (valOf cv)=some (gO C C')/\(gO C C'=false->(Value.ref c==valOf cv)=false)
structure Bs where
 H:Hp
 F:FZ
def GQ(K:PF)(C f:String):Prop:=∃c,PySem.W.nsIn K mainGlobals (Str.ofString C)=some (some (.ref c))/\Cls K c/\Wu K c (Str.ofString f)
def MthOk(Φ:aa)(P:Program)(w:World)(K:PF)(mg:Str->Option Value)(base:Heap)(CX:CXT)(k:Nat)(f C m:String)(n:Nat):Prop:=
 ∃c fa fd ps,PySem.W.nsIn K mainGlobals (Str.ofString C)=some (some (.ref c))/\Cls K c/\Meth K c (Str.ofString m) fa/\Binds K fd ps []/\FnOk P w K mg base CX k fa fd ps (lift K n (Φ f))
def MkoOk(Φ:aa)(P:Program)(w:World)(K:PF)(mg:Str->Option Value)(base:Heap)(CX:CXT)(k:Nat)(C:String)(n:Nat):Prop:=
 ∃c fa fd ps sp j,j+1<=k/\mg (Str.ofString C)=some (.ref c)/\Mk K c fa/\Binds K fd ps []/\FnOk P w K mg base CX j fa fd ps sp/\
  ∀vs H Q E,lift K n (Φ C) vs H Q E->∀x dx,H x=none->H dx=none->dx≠x->sp (.ref x::vs) (upd (upd H dx (.own x)) x (.ins c dx [])) (λv H2=>v=.non/\Q (.ref x) H2) E
structure Stat(Φ:aa)(CX:CXT)(k:Nat)(c:CT)(E:EK)(B:Bs)(X:Cx):Prop where
 N:X.N=c.N
 nd:X.N.Nodup
 calm:X.calm=true
 own:PassesOwn (model X.prog X.w) X.A X.env X.xe
 kd:X.env.kindOf=λx=>X.env.scope.names.lookup x
 vis:∀x,iG (c.kd.lookup x)=true->Vis X.env.scope x
 cel:∀x,(c.kd.lookup x=some .cell\/c.kd.lookup x=some .free)->(X.env.kindOf x=some .cell\/X.env.kindOf x=some .free)
 glo:∀x,c.kd.lookup x=some .globalImplicit->Gl X x
 sto:∀x,c.sto x=true->Loc X.env.scope x/\(X.fn x=true\/X.env.scope.names.lookup x=some .local)
 room:Room k X.A
 call:∀f n,(f,n)∈c.fs->∃fa fd ps,FnOk X.prog X.w X.K X.mg X.base CX k fa fd ps (lift X.K n (Φ f))/\PySem.W.keepIn X.K (.ref fa)=true/\Binds X.K fd ps []/\X.mg (Str.ofString f)=some (.ref fa)
 blt:∀f,f∈c.bt->X.mg (Str.ofString f)=none
 con:∀x d,(x,d)∈c.cn->∃u v,X.mg (Str.ofString x)=some u/\RelV v u/\∀H F,Rep X.K H F d v
 exc:∃EX,j7 CX X EX/\Throws X EX/\∀x G' H' F',E x G'->Ext B.H B.F H' F'->R X.K H' F' G'->XR X.K H' F' x EX
 nox:∀(Y:Cx),j7 CX Y λ_ _ _=>False
 xcl:∀C,c.xs.contains (C,true)=true->∃a,X.mg (Str.ofString C)=some (.ref a)/\ir X.K a=true/\PySem.W.nsIn X.K mainGlobals (Str.ofString C)=some (some (.ref a))
 loc:∀x,c.kd.lookup x=some .local->X.env.scope.names.lookup x=some .local
 xis:∀C',c.xs.contains (C',false)=true->∃cv,CV X.K X.mg C' cv/\∀C,c.xs.contains (C,true)=true->XI X.K C C' cv
 mth:∀f C m n,(f,C,m,n)∈c.ot.ms->MthOk Φ X.prog X.w X.K X.mg X.base CX k f C m n
 mko:∀C n,(C,n)∈c.ot.ks->MkoOk Φ X.prog X.w X.K X.mg X.base CX k C n
 fld:∀C f,(C,f)∈c.ot.fl->GQ X.K C f
 trc:c.xs≠[]->CX=CX1 X.prog X.w/\X.stack=X.env::X.outer/\X.ex=[]
def tE(K:PF)(B:Bs)(w:ak->DH->(D->DH->Prop)->Prop):TE:=λσ H Q=>∃ρ F G,Ext B.H B.F H F/\EnvR K H F ρ σ/\R K H F G/\w ρ G (PV K H F Q)
def tB'(K:PF)(B:Bs)(w:ak->DH->(Bool->DH->Prop)->Prop):TT:=λσ H Q=>∃ρ F G,Ext B.H B.F H F/\EnvR K H F ρ σ/\R K H F G/\w ρ G (PB K H F Q)
def tL(K:PF)(B:Bs)(w:ak->DH->(List D->DH->Prop)->Prop):TA:=λσ H Q=>∃ρ F G,Ext B.H B.F H F/\EnvR K H F ρ σ/\R K H F G/\w ρ G (PLs K H F Q)
noncomputable def POp(K:PF)(H:Hp)(F:FZ)(Q:Option Int->Hp->Prop):Option Int->DH->Prop:=λb G'=>∀H' F',Ext H F H' F'->R K H' F' G'->Q b H'
def GR(K:PF)(B:Bs)(w:ak->DH->(Option Int->DH->Prop)->Prop):TO:=λσ H Q=>∃ρ F G,Ext B.H B.F H F/\EnvR K H F ρ σ/\R K H F G/\w ρ G (POp K H F Q)
theorem peI{X:Cx}{e:Expr}{t t':TE}(h:PE X e t)(i:∀σ H Q,t' σ H Q->t σ H Q):PE X e t':=λpins s σ H Q I q=>h pins s σ H Q I (i σ H Q q)
theorem ptI{X:Cx}{e:Expr}{t t':TT}(h:PT X e t)(i:∀σ H Q,t' σ H Q->t σ H Q):PT X e t':=λpins s σ H Q I q=>h pins s σ H Q I (i σ H Q q)
theorem pwI{X:Cx}{e:Expr}{t t':TT}(h:PW X e t)(i:∀σ H Q,t' σ H Q->t σ H Q):PW X e t':=λwh pins s σ H Q I q=>h wh pins s σ H Q I (i σ H Q q)
theorem paI{X:Cx}{e:List Expr}{t t':TA}(h:PA X e t)(i:∀σ H Q,t' σ H Q->t σ H Q):PA X e t':=λpos pins s σ H Q I q=>h pos pins s σ H Q I (i σ H Q q)
section
variable {Φ:aa} {CX:CXT} {k:Nat} {c:CT} {E:EK} {B:Bs} {X:Cx}
theorem aM{K:PF}{x:Ex}{σ:L2.St}{H:Hp}{F:FZ}{G:DH}{ρ:ak}{W:D->DH->Prop}{Q:VK}(e0:Ext B.H B.F H F)(he:EnvR K H F ρ σ)(r:R K H F G)(hw:wpE Φ x E ρ G W)
  (h:∀d G1 H1 F1 v,W d G1->Ext B.H B.F H1 F1->Ext H F H1 F1->EnvR K H1 F1 ρ σ->R K H1 F1 G1->Rep K H1 F1 d v->Q v H1):tE K B (wpE Φ x E) σ H Q:=
 ⟨ρ,F,G,e0,he,r,aD x (λd G1 q H1 F1 v x1 r1 rv=>h d G1 H1 F1 v q (e0.trans x1) x1 (he.ext x1) r1 rv) hw⟩
theorem cN{K:PF}{x:Exs}{σ:L2.St}{H:Hp}{F:FZ}{G:DH}{ρ:ak}{W:List D->DH->Prop}{Q:List V->Hp->Prop}(e0:Ext B.H B.F H F)(he:EnvR K H F ρ σ)(r:R K H F G)(hw:aL Φ x E ρ G W)
  (h:∀d G1 H1 F1 v,W d G1->Ext B.H B.F H1 F1->Ext H F H1 F1->EnvR K H1 F1 ρ σ->R K H1 F1 G1->Reps K H1 F1 d v->Q v H1):tL K B (aL Φ x E) σ H Q:=
 ⟨ρ,F,G,e0,he,r,cH x (λd G1 q H1 F1 v x1 r1 rv=>h d G1 H1 F1 v q (e0.trans x1) x1 (he.ext x1) r1 rv) hw⟩
theorem iJ{K:PF}{x:Tx}{σ:L2.St}{H:Hp}{F:FZ}{G:DH}{ρ:ak}{W:Bool->DH->Prop}{Q:Bool->Hp->Prop}(e0:Ext B.H B.F H F)(he:EnvR K H F ρ σ)(r:R K H F G)(hw:wpT Φ x E ρ G W)
  (h:∀d G1 H1 F1,W d G1->Ext B.H B.F H1 F1->Ext H F H1 F1->EnvR K H1 F1 ρ σ->R K H1 F1 G1->Q d H1):tB' K B (wpT Φ x E) σ H Q:=
 ⟨ρ,F,G,e0,he,r,cQ x (λd G1 q H1 F1 x1 r1=>h d G1 H1 F1 q (e0.trans x1) x1 (he.ext x1) r1) hw⟩
theorem GX{K:PF}{x:Ox}{σ:L2.St}{H:Hp}{F:FZ}{G:DH}{ρ:ak}{W:Option Int->DH->Prop}{Q:Option Int->Hp->Prop}(e0:Ext B.H B.F H F)(he:EnvR K H F ρ σ)(r:R K H F G)(hw:wpO Φ x E ρ G W)
  (h:∀d G1 H1 F1,W d G1->Ext B.H B.F H1 F1->Ext H F H1 F1->EnvR K H1 F1 ρ σ->R K H1 F1 G1->Q d H1):GR K B (wpO Φ x E) σ H Q:=
 ⟨ρ,F,G,e0,he,r,xF x (λd G1 q H1 F1 x1 r1=>h d G1 H1 F1 q (e0.trans x1) x1 (he.ext x1) r1) hw⟩
theorem PV.later{K:PF}{H H1:Hp}{F F1:FZ}{Q:VK}{d:D}{G:DH}(h:PV K H F Q d G)(x:Ext H F H1 F1):PV K H1 F1 Q d G:=λH' F' v x1=>h H' F' v (x.trans x1)
theorem PB.later{K:PF}{H H1:Hp}{F F1:FZ}{Q:Bool->Hp->Prop}{d:Bool}{G:DH}(h:PB K H F Q d G)(x:Ext H F H1 F1):PB K H1 F1 Q d G:=λH' F' x1=>h H' F' (x.trans x1)
theorem PB.now{K:PF}{H:Hp}{F:FZ}{Q:Bool->Hp->Prop}{d:Bool}{G:DH}(h:PB K H F Q d G)(r:R K H F G):Q d H:=h H F (Ext.refl H F) r
theorem jA(S:Stat Φ CX k c E B X):X.A.units+100 < cLine:=by have:=S.room.un;omega
theorem cO {x:Str} (h:okN x=true):(x==("__debug__":Str))=false:=by
 unfold okN at h;cases e:x==("__debug__":Str) with
 |false=>rfl
 |true=>rw[e]at h;simp at h
theorem aaY {x:Str} (h:okN x=true):(x==("__classdict__":Str))=false:=by
 unfold okN at h;cases e:x==("__classdict__":Str) with
 |false=>rfl
 |true=>rw[e]at h;simp at h
theorem eG {x:Str} (h:okN x=true):x≠"__name__":=by unfold okN at h;intro e;rw[aI.mpr e]at h;simp at h
theorem dq{x:Str}(h:c.glo x=true):c.kd.lookup x=some .globalImplicit/\okN x=true:=by unfold CT.glo at h;rw[ae,aI]at h;exact h
theorem aaZ(S:Stat Φ CX k c E B X){i:Nat}{e:Expr}(h:aj c (.var i) e=true):PE X e (tE X.K B (wpE Φ (.var i) E)):=by
 replace h:=FW h;obtain ⟨x,pos,rfl,h⟩:=h
 ·rw[ae,ae,aI]at h;refine peI (Bl (i:=i) (by rw[S.N];exact h.1.1) (S.vis x h.1.2) (cO h.2) (aaY h.2)) λσ H Q q=>?_;obtain ⟨ρ,F,G,_,he,r,hw⟩:=q;rw[rA]at hw;split at hw
  ·rename_i d hd;obtain ⟨v,e1,rv⟩:=he.get hd;exact ⟨v,e1,hw.now r rv⟩
  ·exact hw.elim
theorem aa0(S:Stat Φ CX k c E B X){d:D}{e:Expr}(h:aj c (.cst d) e=true):PE X e (tE X.K B (wpE Φ (.cst d) E)):=by
 replace h:=Ga h;obtain ⟨kk,_,_,rfl,h⟩:=h
 ·unfold tW at h;split at h
  ·exact peI UT λσ H Q hq=>el hq λρ F G _ he r hw=>by rw[iz]at hw;exact hw.now r rfl
  ·rw[aI]at h;subst h;exact peI UL λσ H Q hq=>el hq λρ F G _ he r hw=>by rw[iz]at hw;exact hw.now r rfl
  ·rw[aI]at h;subst h;exact peI UJ λσ H Q hq=>el hq λρ F G _ he r hw=>by rw[iz]at hw;exact hw.now r rfl
  ·rename_i l b;rw[ae,aI,cb]at h;refine peI Bm λσ H Q hq=>el hq λρ F G _ he r hw=>?_;rw[iz]at hw;refine hw.now r ⟨?_,h.2⟩;rw[h.1,<-vN]
  ·cases h
theorem aa1(S:Stat Φ CX k c E B X){x:String}{d:D}{e:Expr}(h:aj c (.glb x d) e=true):PE X e (tE X.K B (wpE Φ (.glb x d) E)):=by
 replace h:=Gb h;obtain ⟨y,pos,rfl,h⟩:=h
 ·rw[ae,ae,aI,List.any_eq_true]at h;obtain ⟨⟨e1,h1⟩,⟨x',d'⟩,hm,h2⟩:=h;rw[ae,aI]at h2;obtain ⟨e2,e3⟩:=h2;have e3:=aaz e3;simp only at e2 e3;subst e1 e2 e3;obtain ⟨g1,g2⟩:=dq h1;obtain ⟨u,v,hu,ru,hr⟩:=S.con _ _ hm;exact peI (UV (S.glo _ g1) hu ru (cO g2)) λσ H Q hq=>el hq λρ F G _ he r hw=>by rw[rB]at hw;exact hw.now r (hr H F)
theorem aa2(S:Stat Φ CX k c E B X){op:Operator}{fz:Bool}{a b:Ex}(iha:∀{e},aj c a e=true->PE X e (tE X.K B (wpE Φ a E)))(ihb:∀{e},aj c b e=true->PE X e (tE X.K B (wpE Φ b E))){e:Expr}
  (h:aj c (.bin op fz a b) e=true):PE X e (tE X.K B (wpE Φ (.bin op fz a b) E)):=by
 replace h:=Gd h;obtain ⟨l,o,r,pos,rfl,h⟩:=h
 ·rw[ae,ae,aI]at h;obtain ⟨⟨e1,h1⟩,h2⟩:=h;subst e1;refine peI (V6 (Zo _ fz) (iha h1) (ihb h2)) λσ H Q hq=>el hq λρ F G e0 he r hw=>?_;rw[rD]at hw;refine aM e0 he r hw λx G1 H1 F1 v q e1 x1 he1 r1 rv=>aM e1 he1 r1 q λy G2 H2 F2 u q e2 x2 he2 r2 ru=>?_;exact ⟨F2,G2,x,y,r2,Rep.ext x2 rv,ru,Ec (λd G' z=>PV.later z (x1.trans x2)) q⟩
theorem aa3(S:Stat Φ CX k c E B X){a:Ex}(iha:∀{e},aj c a e=true->PE X e (tE X.K B (wpE Φ a E))){e:Expr}(h:aj c (.neg a) e=true):PE X e (tE X.K B (wpE Φ (.neg a) E)):=by
 replace h:=Ge h;obtain ⟨_,_,rfl,h⟩:=h
 ·refine peI (V7 Wf (iha h)) λσ H Q hq=>el hq λρ F G e0 he r hw=>?_;rw[rE]at hw;refine aM e0 he r hw λx G1 H1 F1 v q e1 x1 he1 r1 rv=>?_;split at q
  ·have e2:v=.int _:=rv;subst e2;exact ⟨_,rfl,q _ _ _ x1 r1 rfl⟩
  ·exact q.elim
theorem GZ(S:Stat Φ CX k c E B X){op:CmpOp}{a b:Ex}(iha:∀{e},aj c a e=true->PE X e (tE X.K B (wpE Φ a E)))(ihb:∀{e},aj c b e=true->PE X e (tE X.K B (wpE Φ b E))){e:Expr}
  (h:aj c (.cmp op a b) e=true):PE X e (tE X.K B (wpE Φ (.cmp op a b) E))/\PT X e (tB' X.K B (wpT Φ (.val (.cmp op a b)) E)):=by
 replace h:=Gg h;obtain ⟨l,o,r,pos,rfl,h⟩:=h
 ·rw[ae,ae,aI]at h;obtain ⟨⟨e1,h1⟩,h2⟩:=h;subst e1;have hm:=GP (b7 b h2) o;refine ⟨peI (Wi (jx _ (jA S)) (iha h1) (ihb h2) hm) λσ H Q hq=>el hq λρ F G e0 he r hw=>?_,ptI (Wj (jx _ (jA S)) (iha h1) (ihb h2) hm) λσ H Q hq=>el hq λρ F G e0 he r hw=>?_⟩
  ·rw[km]at hw;refine aM e0 he r hw λx G1 H1 F1 v q e1 x1 he1 r1 rv=>aM e1 he1 r1 q λy G2 H2 F2 u q e2 x2 he2 r2 ru=>?_;exact ⟨F2,G2,x,y,r2,Rep.ext x2 rv,ru,iB (λd z=>PV.later z (x1.trans x2)) q⟩
  ·rw[jt,km]at hw;refine aM e0 he r hw λx G1 H1 F1 v q e1 x1 he1 r1 rv=>aM e1 he1 r1 q λy G2 H2 F2 u q e2 x2 he2 r2 ru=>?_;refine ⟨F2,G2,x,y,r2,Rep.ext x2 rv,ru,iB (λd z=>?_) q⟩;intro H' F' v' x' r' rv';have e3:v'=.bl d:=rv';exact ⟨d,e3,z H' F' ((x1.trans x2).trans x') r'⟩
theorem G8(S:Stat Φ CX k c E B X){op op':CmpOp}{a b d:Ex}(iha:∀{e},aj c a e=true->PE X e (tE X.K B (wpE Φ a E)))(ihb:∀{e},aj c b e=true->PE X e (tE X.K B (wpE Φ b E)))(ihd:∀{e},aj c d e=true->PE X e (tE X.K B (wpE Φ d E))){e:Expr}
  (h:aj c (.chn op op' a b d) e=true):PE X e (tE X.K B (wpE Φ (.chn op op' a b d) E))/\PT X e (tB' X.K B (wpT Φ (.val (.chn op op' a b d)) E)):=by
 replace h:=Gi h;obtain ⟨l,o,o',m,r,pos,rfl,h⟩:=h
 ·simp only[ae,aI]at h;obtain ⟨⟨⟨⟨e1,e2⟩,h1⟩,h2⟩,h3⟩:=h;subst e1 e2;have hm:lastMarks [o,o'] [m,r]=false:=GP (b7 d h3) o';have go:∀{σ H Q ρ F G}{W:Bool->DH->Prop},Ext B.H B.F H F->EnvR X.K H F ρ σ->R X.K H F G->
    wpE Φ a E ρ G (λx G1=>wpE Φ b E ρ G1 λy G2=>bh o (view G2 x) (view G2 y) λt=>match t with |true=>wpE Φ d E ρ G2 λz G3=>bh o' (view G3 y) (view G3 z) λt'=>W t' G3 |false=>W false G2)->
    (∀t G' H' F',W t G'->Ext H F H' F'->R X.K H' F' G'->Q (.bl t) H')->
    vI (rC2 X.K (bh o)) (rC2 X.K (bh o')) (tE X.K B (wpE Φ a E)) (tE X.K B (wpE Φ b E)) (tE X.K B (wpE Φ d E)) σ H Q:=by
   intro σ H Q ρ F G W e0 he r hw fin;refine aM e0 he r hw λx G1 H1 F1 v q e1 x1 he1 r1 rv=>aM e1 he1 r1 q λy G2 H2 F2 u q e2 x2 he2 r2 ru=>?_;refine ⟨F2,G2,x,y,r2,Rep.ext x2 rv,ru,iB (λt q=>?_) q⟩;intro H3 F3 v3 x3 r3 rv3;have e3:v3=.bl t:=rv3;refine ⟨t,e3,?_⟩;cases t with
   |true=>
    rw[if_pos rfl];refine aM (e2.trans x3) (he2.ext x3) r3 q λz G4 H4 F4 v4 q e4 x4 he4 r4 rv4=>?_;refine ⟨F4,G4,y,z,r4,Rep.ext (x3.trans x4) ru,rv4,iB (λt' q=>?_) q⟩;intro H5 F5 v5 x5 r5 rv5;have e5:v5=.bl t':=rv5;subst e5;exact fin _ _ _ _ q ((((x1.trans x2).trans x3).trans x4).trans x5) r5
   |false=>
    rw[if_neg a9];exact fin _ _ _ _ q ((x1.trans x2).trans x3) r3
  refine ⟨peI (Wl (jx _ (jA S)) (jx _ (jA S)) (iha h1) (ihb h2) (ihd h3) hm) λσ H Q hq=>el hq λρ F G e0 he r hw=>?_,ptI (Wm (jx _ (jA S)) (jx _ (jA S)) (iha h1) (ihb h2) (ihd h3) hm) λσ H Q hq=>el hq λρ F G e0 he r hw=>?_⟩
  ·rw[kE]at hw;exact go (W:=λt G'=>PV X.K H F Q (.bl t) G') e0 he r hw λt G' H' F' z x' r'=>z H' F' _ x' r' rfl
  ·rw[jt,kE]at hw;refine go (W:=λt G'=>PB X.K H F Q t G') e0 he r hw λt G' H' F' z x' r'=>⟨t,rfl,z H' F' x' r'⟩
end
section
variable {Φ:aa} {CX:CXT} {k:Nat} {c:CT} {E:EK} {B:Bs} {X:Cx}
abbrev OkE(Φ:aa)(c:CT)(E:EK)(B:Bs)(X:Cx)(x:Ex):Prop:=∀{e:Expr},aj c x e=true->PE X e (tE X.K B (wpE Φ x E))
abbrev fG(Φ:aa)(c:CT)(E:EK)(B:Bs)(X:Cx)(x:Exs):Prop:=∀{es:List Expr},aJ c x es=true->PA X es (tL X.K B (aL Φ x E))
abbrev OkT(Φ:aa)(c:CT)(E:EK)(B:Bs)(X:Cx)(x:Tx):Prop:=∀{e:Expr},bC c x e=true->PT X e (tB' X.K B (wpT Φ x E))
theorem aa4(S:Stat Φ CX k c E B X){a:Ex}(iha:OkE Φ c E B X a){e:Expr}(h:aj c (.not a) e=true):PE X e (tE X.K B (wpE Φ (.not a) E)):=by
 replace h:=Gf h;obtain ⟨_,_,rfl,h⟩:=h
 ·intro pins s σ H Q I q;obtain ⟨ρ,F,G,e0,he,r,hw⟩:=q;rw[rF]at hw;have q':tE X.K B (wpE Φ a E) σ H (λx H1=>∃b,qx X.K x H1 b/\Q (.bl (!b)) H1):=aM e0 he r hw λx G1 H1 F1 v q e1 x1 he1 r1 rv=>by
   split at q
   ·rename_i b hb;exact ⟨b,Es r1 rv hb,q _ _ _ x1 r1 rfl⟩
   ·exact q.elim
  refine UnaryOp_ (thn (iha h pins s σ H _ I q') λv s1 ⟨x,H1,I1,r1,b,tb,q1⟩=>?_);refine not_of (thn (By pins s1 σ H1 x v (λb' H'=>Q (.bl (!b')) H') I1 r1 ⟨b,tb,q1⟩) λb' s2 ⟨H2,I2,q2⟩=>?_);exact ⟨.bl (!b'),H2,I2,rfl,q2⟩
theorem yf{es:List Expr}(h:aJ c .nil es=true):PA X es (tL X.K B (aL Φ .nil E)):=by
 unfold aJ at h;cases es with
 |nil=>exact paI il λσ H Q hq=>el hq λρ F G e0 he r hw=>by rw[iy]at hw;exact hw H F [] (Ext.refl _ _) r rfl
 |cons _ _=>cases h
theorem uc{x:Ex}{xs:Exs}(ih:OkE Φ c E B X x)(ihs:fG Φ c E B X xs){es:List Expr}(h:aJ c (.cons x xs) es=true):PA X es (tL X.K B (aL Φ (.cons x xs) E)):=by
 unfold aJ at h;split at h
 ·rename_i e es;rw[ae]at h;refine paI (fU (ih h.1) (ihs h.2) (cC e es X.env (cT (b7 x h.1)))) λσ H Q hq=>el hq λρ F G e0 he r hw=>?_;rw[gP]at hw;refine aM e0 he r hw λd G1 H1 F1 v q e1 x1 he1 r1 rv=>cN e1 he1 r1 q λds G2 H2 F2 vs q e2 x2 he2 r2 rvs=>?_;exact q H2 F2 _ (x1.trans x2) r2 ⟨v,vs,rfl,Rep.ext x2 rv,rvs⟩
 ·cases h
theorem aa5(S:Stat Φ CX k c E B X){es:Exs}(ih:fG Φ c E B X es){e:Expr}(h:aj c (.tup es) e=true):PE X e (tE X.K B (wpE Φ (.tup es) E)):=by
 replace h:=Gm h;obtain ⟨_,_,_,rfl,h⟩:=h
 ·refine peI (WD (ih h)) λσ H Q hq=>el hq λρ F G e0 he r hw=>?_;rw[rJ]at hw;refine cN e0 he r hw λds G1 H1 F1 vs q e1 x1 he1 r1 rvs=>⟨by rw[<-rvs.length];exact cR q.1,kJ (PV.later q.2 x1) r1 rvs⟩
theorem aa6(S:Stat Φ CX k c E B X){fz:Bool}{es:Exs}(ih:fG Φ c E B X es){e:Expr}(h:aj c (.lst fz es) e=true):PE X e (tE X.K B (wpE Φ (.lst fz es) E)):=by
 replace h:=Gn h;obtain ⟨_,_,rfl,h⟩:=h
 ·refine peI (WF (ih h)) λσ H Q hq=>el hq λρ F G e0 he r hw=>?_;rw[rK]at hw;refine cN e0 he r hw λds G1 H1 F1 vs q e1 x1 he1 r1 rvs=>⟨by rw[<-rvs.length];exact cR q.1,fB (cW (λd G' z=>PV.later z x1) q.2) r1 rvs⟩
theorem aa7(S:Stat Φ CX k c E B X){a i:Ex}(iha:OkE Φ c E B X a)(ihi:OkE Φ c E B X i){e:Expr}(h:aj c (.idx a i) e=true):PE X e (tE X.K B (wpE Φ (.idx a i) E)):=by
 replace h:=Gp h;obtain ⟨_,_,_,rfl,h⟩:=h
 ·rw[ae]at h;refine peI (W9 Zx (iha h.1) (ihi h.2) (aaW (b7 i h.2))) λσ H Q hq=>el hq λρ F G e0 he r hw=>?_;rw[rM]at hw;refine aM e0 he r hw λx G1 H1 F1 v q e1 x1 he1 r1 rv=>aM e1 he1 r1 q λy G2 H2 F2 u q e2 x2 he2 r2 ru=>?_;exact ⟨F2,G2,x,y,r2,Rep.ext x2 rv,ru,sS (λd z=>PV.later z (x1.trans x2)) q⟩
theorem Ha{lo:Ox}(ih:∀x,lo=.ob x->OkE Φ c E B X x){l:Option Expr}(h:gh c lo l=true):PO X l (GR X.K B (wpO Φ lo E)):=by
 cases lo with
 |no=>
  unfold gh at h;cases l with
  |none=>
   intro pins s σ H Q I q;refine W2 pins s σ H Q I ?_;obtain ⟨ρ,F,G,e0,he,r,hw⟩:=q;rw[qX]at hw;exact hw H F (Ext.refl _ _) r
  |some _=>cases h
 |ob x=>
  unfold gh at h;split at h
  ·intro pins s σ H Q I q;refine W3 (ih x rfl h) pins s σ H Q I ?_;obtain ⟨ρ,F,G,e0,he,r,hw⟩:=q;rw[qY]at hw;refine aM e0 he r hw λd G1 H1 F1 v q e1 x1 he1 r1 rv=>?_;split at q
   ·have e2:v=.int _:=rv;exact ⟨_,e2,q H1 F1 x1 r1⟩
   ·exact q.elim
  ·cases h
theorem aa8(S:Stat Φ CX k c E B X){fz:Bool}{a:Ex}{lo hi:Ox}(iha:OkE Φ c E B X a)(ihl:∀x,lo=.ob x->OkE Φ c E B X x)(ihh:∀x,hi=.ob x->OkE Φ c E B X x){e:Expr}(h:aj c (.slc fz a lo hi) e=true):
  PE X e (tE X.K B (wpE Φ (.slc fz a lo hi) E)):=by
 replace h:=Gq h;obtain ⟨_,_,_,_,_,rfl,h⟩:=h
 ·rw[ae,ae]at h;refine peI (W4 (ZG fz) (iha h.1.1) (Ha ihl h.1.2) (Ha ihh h.2)) λσ H Q hq=>el hq λρ F G e0 he r hw=>?_;rw[rN]at hw;refine aM e0 he r hw λx G1 H1 F1 v q e1 x1 he1 r1 rv=>GX e1 he1 r1 q λl G2 H2 F2 q e2 x2 he2 r2=>GX e2 he2 r2 q λu G3 H3 F3 q e3 x3 he3 r3=>?_;exact ⟨F3,G3,x,r3,Rep.ext (x2.trans x3) rv,Ef (λd G' z=>PV.later z ((x1.trans x2).trans x3)) q⟩
theorem aa9(S:Stat Φ CX k c E B X){fz:Bool}{a s:Ex}(iha:OkE Φ c E B X a)(ihs:OkE Φ c E B X s){e:Expr}(h:aj c (.rvs fz a s) e=true):PE X e (tE X.K B (wpE Φ (.rvs fz a s) E)):=nomatch (show false=true from h)
theorem aba(S:Stat Φ CX k c E B X){a:Ex}(iha:OkE Φ c E B X a){e:Expr}(h:aj c (.frz a) e=true):PE X e (tE X.K B (wpE Φ (.frz a) E)):=by
 have h:aj c a e=true:=h;refine peI (iha h) λσ H Q hq=>el hq λρ F G e0 he r hw=>?_;rw[rT]at hw;refine aM e0 he r hw λx G1 H1 F1 v q e1 x1 he1 r1 rv=>?_;split at q
 ·rename_i p;have e2:v=.ref p:=rv;subst e2;split at q
  ·rename_i ds hg;exact q _ _ _ (x1.trans v6) (r1.frz hg) (Zd r1 hg)
  ·exact q.elim
 ·exact q _ _ _ x1 r1 rv
theorem ud{es:List Expr}{xs:Exs}(h:aJ c xs es=true)(env:Env)(pos:Pos):(backTo pos (starEach es env)).any (·.1)=false:=by
 induction es generalizing xs with
 |nil=>rfl
 |cons e es ih=>
  cases xs with
  |nil=>unfold aJ at h;cases h
  |cons x xs=>
   unfold aJ at h;rw[ae]at h;rw[cC e es env (cT (b7 x h.1))];show (false||(backTo pos (starEach es env)).any (·.1))=false;rw[ih h.2];rfl
theorem lB{e:Expr}{es:List Expr}{xs:Exs}(h:aJ c xs (e::es)=true):∃x xs',xs=.cons x xs'/\aj c x e=true/\aJ c xs' es=true:=by
 cases xs with
 |nil=>unfold aJ at h;cases h
 |cons x xs'=>
  unfold aJ at h;rw[ae]at h;exact ⟨x,xs',rfl,h.1,h.2⟩
theorem Hb{ρ:ak}:∀(xs:Exs){es:List Expr}{G:DH}{Q:List D->DH->Prop},aJ c xs es=true->aL Φ xs E ρ G Q->aL Φ xs E ρ G (λds G'=>ds.length=es.length/\Q ds G')
 |.nil,es,G,Q,h,q=>by
  unfold aJ at h;rw[iy]at q ⊢;cases es with
  |nil=>exact ⟨rfl,q⟩
  |cons _ _=>cases h
 |.cons x xs,es,G,Q,h,q=>by
  unfold aJ at h;split at h
  ·rename_i e es;rw[ae]at h;rw[gP]at q ⊢;refine aD x (λd G1 q=>cH xs (λds G2 z=>?_) (Hb xs h.2 q)) q;exact ⟨by simp[z.1],z.2⟩
  ·cases h
theorem abb(S:Stat Φ CX k c E B X){f:String}{xs:Exs}(ih:fG Φ c E B X xs){e:Expr}(h:aj c (.call f xs) e=true):PE X e (tE X.K B (wpE Φ (.call f xs) E)):=by
 replace h:=Gs h;obtain ⟨x,p,args,pos,rfl,h⟩:=h
 ·simp only[ae,aI,List.any_eq_true]at h;obtain ⟨⟨⟨⟨e1,h1⟩,⟨f',n⟩,hm,e2,e3⟩,h2⟩,h3⟩:=h;simp only at e2 e3;subst e1 e2 e3;obtain ⟨g1,g2⟩:=dq h1;obtain ⟨fa,fd,ps,F0,hk,hb,hmg⟩:=S.call _ _ hm;obtain ⟨EX,hpass,_,hEX⟩:=S.exc;cases args with
  |nil=>cases h2
  |cons e es=>
   obtain ⟨x0,xs',rfl,c1,c2⟩:=lB h3;refine peI (WM F0 S.room (S.glo _ g1) hmg hk hb .nil hpass (ih h3) (cO g2) (cC e es X.env (cT (b7 x0 c1))) (ud c2 X.env pos)) λσ H Q hq=>el hq λρ F G e0 he r hw=>?_;rw[rO]at hw;refine cN e0 he r (Hb _ h3 hw) λds G1 H1 F1 vs q e1 x1 he1 r1 rvs=>?_;rw[fN];refine ⟨by rw[<-rvs.length];exact q.1,F1,G1,ds,r1,rvs,Spec.mono q.2 (λd G' z=>PV.later z x1) λx G' z H' F' x' r'=>?_⟩;exact hEX x G' H' F' z (e1.trans x') r'
theorem abd(S:Stat Φ CX k c E B X){f:Bf}{xs:Exs}(ih:fG Φ c E B X xs){e:Expr}(h:aj c (.bcl f xs) e=true):PE X e (tE X.K B (wpE Φ (.bcl f xs) E)):=by
 replace h:=Gu h;obtain ⟨x,p,args,pos,rfl,h⟩:=h
 ·simp only[ae,aI]at h;obtain ⟨⟨⟨⟨⟨e1,hok⟩,h1⟩,hm⟩,h2⟩,h3⟩:=h;subst e1;obtain ⟨g1,g2⟩:=dq h1;have hmg:=S.blt _ (bX.mp hm);cases args with
  |nil=>cases h2
  |cons e es=>
   obtain ⟨x0,xs',rfl,c1,c2⟩:=lB h3;have hs:=cC e es X.env (cT (b7 x0 c1));have ha:=ud c2 X.env pos;have go:∀σ H Q,tE X.K B (wpE Φ (.bcl f (.cons x0 xs')) E) σ H Q->tCB (iC X.K f) (tL X.K B (aL Φ (.cons x0 xs') E)) σ H Q:=λσ H Q hq=>el hq λρ F G e0 he r hw=>by
    rw[rP]at hw;refine cN e0 he r hw λds G1 H1 F1 vs q e1 x1 he1 r1 rvs=>?_;exact ⟨F1,G1,ds,r1,rvs,Eg (λd z=>PV.later z x1) q⟩
   cases f with
   |len=>exact peI (qy ZJ (S.glo _ g1) hmg PySem.boot_len (ih h3) (eG g2) (cO g2) hs ha) go
   |all=>exact peI (qy (ZK S.calm) (S.glo _ g1) hmg Yb (ih h3) (eG g2) (cO g2) hs ha) go
   |int=>exact peI (qz ZL (S.glo _ g1) hmg CQ (ih h3) (eG g2) (cO g2) hs ha) go
   |tuple=>exact peI (qz ZM (S.glo _ g1) hmg (by ac_rfl) (ih h3) (eG g2) (cO g2) hs ha) go
   |sum=>cases hok
   |min=>exact peI (qy (ZZ S.calm) (S.glo _ g1) hmg Z0 (ih h3) (eG g2) (cO g2) hs ha) go
   |max=>cases hok
   |abs=>cases hok
   |min2=>cases hok
   |str=>exact peI (qz Z1 (S.glo _ g1) hmg CW (ih h3) (eG g2) (cO g2) hs ha) go
theorem abe(S:Stat Φ CX k c E B X){fz:Bool}{f:Lf}{xs:Exs}(ih:fG Φ c E B X xs){e:Expr}(h:aj c (.lcl fz f xs) e=true):PE X e (tE X.K B (wpE Φ (.lcl fz f xs) E)):=by
 replace h:=Gv h;obtain ⟨x,p,args,pos,rfl,h⟩:=h
 ·simp only[ae,aI]at h;obtain ⟨⟨⟨⟨⟨e1,hok⟩,h1⟩,hm⟩,h2⟩,h3⟩:=h;subst e1;obtain ⟨g1,g2⟩:=dq h1;have hmg:=S.blt _ (bX.mp hm);cases args with
  |nil=>cases h2
  |cons e es=>
   obtain ⟨x0,xs',rfl,c1,c2⟩:=lB h3;have hs:=cC e es X.env (cT (b7 x0 c1));have ha:=ud c2 X.env pos;have go:∀σ H Q,tE X.K B (wpE Φ (.lcl fz f (.cons x0 xs')) E) σ H Q->tCB (Et X.K fz f) (tL X.K B (aL Φ (.cons x0 xs') E)) σ H Q:=λσ H Q hq=>el hq λρ F G e0 he r hw=>by
    rw[rQ]at hw;refine cN e0 he r hw λds G1 H1 F1 vs q e1 x1 he1 r1 rvs=>?_;exact ⟨F1,G1,ds,r1,rvs,Eh (λd z=>cW (λd G' z=>PV.later z x1) z) q⟩
   cases f with
   |list=>exact peI (qz (ZR S.calm fz) (S.glo _ g1) hmg CZ (ih h3) (eG g2) (cO g2) hs ha) go
   |sorted=>cases hok
theorem abf(S:Stat Φ CX k c E B X){fz:Bool}{a:Ex}(iha:OkE Φ c E B X a){e:Expr}(h:aj c (.rgl fz a) e=true):PE X e (tE X.K B (wpE Φ (.rgl fz a) E)):=nomatch (show false=true from h)
theorem abg(S:Stat Φ CX k c E B X){a:Ex}(iha:OkE Φ c E B X a){e:Expr}(h:aj c (.rgt a) e=true):PE X e (tE X.K B (wpE Φ (.rgt a) E)):=nomatch (show false=true from h)
theorem abh{t:String}(h:fX t=true):bootBuiltins (Str.ofString t)=some (.type t):=by
 simp only[fX,cq,aI]at h;rcases h with (((rfl |rfl) |rfl) |rfl) |rfl
 ·exact XQ
 ·exact CQ
 ·exact CW
 ·ac_rfl
 ·exact CZ
theorem abi(S:Stat Φ CX k c E B X){a:Ex}{t:String}(iha:OkE Φ c E B X a){e:Expr}(h:aj c (.isi a t) e=true):PE X e (tE X.K B (wpE Φ (.isi a t) E)):=by
 replace h:=Gw h;obtain ⟨x,p,v,y,p2,pos,rfl,h⟩:=h
 ·simp only[ae,aI]at h;obtain ⟨⟨⟨⟨⟨⟨⟨e1,h1⟩,hm1⟩,h2⟩,e2⟩,h3⟩,hm2⟩,h4⟩:=h;subst e1 e2;obtain ⟨g1,g2⟩:=dq h1;obtain ⟨g3,g4⟩:=dq h3;have hmg:=S.blt _ (bX.mp hm1);have hmt:=S.blt _ (bX.mp hm2);have hty:PE X (.Name (Str.ofString t) p2) (tC (.ty t)):=XX (S.glo _ g3) hmt (abh h4) (eG g4) (cO g4);have sv:=cT (b7 a h2);refine peI (qy XN (S.glo _ g1) hmg XS (fU (iha h2) (fU hty il (cC _ _ _ rfl)) (cC _ _ _ sv)) (eG g2) (cO g2) (cC _ _ _ sv) rfl) λσ H Q hq=>el hq λρ F G e0 he r hw=>?_;rw[rR]at hw;refine aM e0 he r hw λd G1 H1 F1 v q e1 x1 he1 r1 rv=>?_;split at q
  ·rename_i b hb;obtain ⟨T,hk,hT,hb'⟩:=Z5 hb;refine ⟨v,t,.type T,b,rfl,Z2 r1 rv hk,?_,q _ _ _ x1 r1 rfl⟩;rw[Z4 T t hT h4,hb' h4]
  ·exact q.elim
theorem abj(S:Stat Φ CX k c E B X){a:Ex}{C:String}{xs:List String}(iha:OkE Φ c E B X a){e:Expr}(h:aj c (.isx a C xs) e=true):PE X e (tE X.K B (wpE Φ (.isx a C xs) E)):=nomatch (show false=true from h)
theorem abk{v:Expr}(h:(!tX v)=true)(name:Str)(env:Env):attributeBase v name env (eval v env)=eval v env:=by
 cases v with
 |Call f args kw pos=>
  cases f with
  |Name id p=>
   cases args with
   |nil=>
    cases kw with
    |nil=>cases h
    |cons _ _=>rfl
   |cons _ _=>rfl
  |_=>rfl
 |_=>rfl
theorem all_plain{es:List Expr}{xs:Exs}(h:aJ c xs es=true)(env:Env)(pos:Pos):(backTo pos (starEach es env)).all (λx=>!x.1)=true:=by
 induction es generalizing xs with
 |nil=>rfl
 |cons e es ih=>
  obtain ⟨x0,xs',rfl,c1,c2⟩:=lB h;rw[cC e es env (cT (b7 x0 c1))];show (!false&&(backTo pos (starEach es env)).all (λx=>!x.1))=true;rw[ih c2];rfl
theorem abl(S:Stat Φ CX k c E B X){f:String}{a b ix:Ex}(iha:OkE Φ c E B X a)(ihb:OkE Φ c E B X b)(ihx:OkE Φ c E B X ix){e:Expr}(h:aj c (.rpl f a b ix) e=true):PE X e (tE X.K B (wpE Φ (.rpl f a b ix) E)):=nomatch (show false=true from h)
theorem abm(S:Stat Φ CX k c E B X){C f:String}{o:Ex}(iho:OkE Φ c E B X o){e:Expr}(h:aj c (.fld C f o) e=true):PE X e (tE X.K B (wpE Φ (.fld C f o) E)):=nomatch (show false=true from h)
theorem abn(S:Stat Φ CX k c E B X){f C m:String}{o:Ex}{xs:Exs}(iho:OkE Φ c E B X o)(ih:fG Φ c E B X xs){e:Expr}(h:aj c (.mcl f C m o xs) e=true):PE X e (tE X.K B (wpE Φ (.mcl f C m o xs) E)):=nomatch (show false=true from h)
theorem abo(S:Stat Φ CX k c E B X){C:String}{xs:Exs}(ih:fG Φ c E B X xs){e:Expr}(h:aj c (.mko C xs) e=true):PE X e (tE X.K B (wpE Φ (.mko C xs) E)):=nomatch (show false=true from h)
theorem abp(S:Stat Φ CX k c E B X){o:Ex}(iho:OkE Φ c E B X o){e:Expr}(h:aj c (.pp0 o) e=true):PE X e (tE X.K B (wpE Φ (.pp0 o) E)):=nomatch (show false=true from h)
theorem abq(S:Stat Φ CX k c E B X){m:Mf}{o:Ex}{xs:Exs}(iho:OkE Φ c E B X o)(ih:fG Φ c E B X xs){e:Expr}(h:aj c (.mth m o xs) e=true):PE X e (tE X.K B (wpE Φ (.mth m o xs) E)):=by
 replace h:=Gx h;obtain ⟨v,x,apos,args,cpos,rfl,h⟩:=h
 ·simp only[ae,aI,cb]at h;obtain ⟨⟨⟨⟨⟨⟨e1,h1⟩,hb⟩,hl⟩,hn⟩,h2⟩,h3⟩:=h;subst e1;cases args with
  |nil=>cases h2
  |cons e es=>
   obtain ⟨x0,xs',rfl,c1,c2⟩:=lB h3;have hs:=cC e es X.env (cT (b7 x0 c1));have ha:=ud c2 X.env cpos;have hbase:=abk hb (Str.ofString m.name) X.env;have hfew:((backTo cpos (starEach (e::es) X.env)).all (λx=>!x.1)&&(backToKw cpos (keywordEach [] X.env)).all (λx=>x.1.isSome)
    &&decide ((e::es).length+([]:List Keyword).length+(if ([]:List Keyword).isEmpty then 0 else 1) < 30))=true:=by
    rw[all_plain h3 X.env cpos];have:(e::es).length+([]:List Keyword).length+(if ([]:List Keyword).isEmpty then 0 else 1) < 30:=by have e0:(if ([]:List Keyword).isEmpty=true then 0 else 1)=0:=rfl;rw[e0];show (e::es).length+0+0 < 30;omega
    rw[b9 this];rfl
   have hline:(apos.endLine==cpos.line)=true:=by rw[aI];exact hl
   have lst:∀{d:D} {u:V} {G1:DH} {H1:Hp} {F1:FZ},(match d with |.ref p=>(match G1 p with |some (.lst _)=>True |none=>False) |_=>False)->R X.K H1 F1 G1->Rep X.K H1 F1 d u->tyV X.K "list" u H1:=λ{d u G1 H1 F1} q r1 ru=>by
    split at q
    ·rename_i p;split at q
     ·rename_i ds hg;obtain ⟨vs,hv,_⟩:=r1.lst hg;have e2:u=.ref p:=ru;subst e2;exact .inl ⟨rfl,vs,SqL.of hv⟩
     ·exact q.elim
    ·exact q.elim
   have lstV:∀{d:D} {u:V} {G1:DH} {H1:Hp} {F1:FZ},ww (view G1 d)->R X.K H1 F1 G1->Rep X.K H1 F1 d u->tyV X.K "list" u H1:=λ{d u G1 H1 F1} q r1 ru=>by
    generalize hv:view G1 d=w at q;cases w with
    |lst ds=>
     obtain ⟨a,vs,rfl,sq,_⟩:=Rep.list r1 ru hv;exact .inl ⟨rfl,vs,sq⟩
    |_=>exact (show False from q).elim
   cases m with
   |join=>
    refine peI (gG PySem.F.plainAttrs_str PySem.F.slot_str_join PySem.F.type_str_join Z6 (iho h1) (ih h3) hbase hfew hline hs ha) λσ H Q hq=>el hq λρ F G e0 he r hw=>?_;rw[d8]at hw;refine aM e0 he r hw λd G1 H1 F1 u q e1 x1 he1 r1 ru=>⟨?_,cN e1 he1 r1 q.2 λds G2 H2 F2 vs q e2 x2 he2 r2 rvs=>?_⟩
    ·have q1:=q.1;cases d with
     |str l=>obtain ⟨e2,_⟩:=ru;subst e2;exact rfl
     |_=>exact (show False from q1).elim
    ·exact ⟨F2,G2,d,ds,r2,Rep.ext x2 ru,rvs,fZ (λd G' z=>PV.later z (x1.trans x2)) q⟩
   |find=>
    refine peI (gG PySem.F.plainAttrs_str PySem.F.slot_str_find PySem.F.type_str_find m_find (iho h1) (ih h3) hbase hfew hline hs ha) λσ H Q hq=>el hq λρ F G e0 he r hw=>?_;rw[d8]at hw;refine aM e0 he r hw λd G1 H1 F1 u q e1 x1 he1 r1 ru=>⟨?_,cN e1 he1 r1 q.2 λds G2 H2 F2 vs q e2 x2 he2 r2 rvs=>?_⟩
    ·have q1:=q.1;cases d with
     |str l=>obtain ⟨e2,_⟩:=ru;subst e2;exact rfl
     |_=>exact (show False from q1).elim
    ·exact ⟨F2,G2,d,ds,r2,Rep.ext x2 ru,rvs,fZ (λd G' z=>PV.later z (x1.trans x2)) q⟩
   |append=>
    refine peI (gG ez PySem.F.slot_list_append PySem.F.type_list_append Z8 (iho h1) (ih h3) hbase hfew hline hs ha) λσ H Q hq=>el hq λρ F G e0 he r hw=>?_;rw[d8]at hw;refine aM e0 he r hw λd G1 H1 F1 u q e1 x1 he1 r1 ru=>⟨?_,cN e1 he1 r1 q.2 λds G2 H2 F2 vs q e2 x2 he2 r2 rvs=>?_⟩
    ·refine lst (d:=d) (G1:=G1) ?_ r1 ru;have q1:=q.1;cases d <;> first |exact q1 |exact (show False from q1).elim
    ·exact ⟨F2,G2,d,ds,r2,Rep.ext x2 ru,rvs,fZ (λd G' z=>PV.later z (x1.trans x2)) q⟩
   |extend=>
    refine peI (gG ez PySem.F.slot_list_extend PySem.F.type_list_extend aai (iho h1) (ih h3) hbase hfew hline hs ha) λσ H Q hq=>el hq λρ F G e0 he r hw=>?_;rw[d8]at hw;refine aM e0 he r hw λd G1 H1 F1 u q e1 x1 he1 r1 ru=>⟨?_,cN e1 he1 r1 q.2 λds G2 H2 F2 vs q e2 x2 he2 r2 rvs=>?_⟩
    ·refine lst (d:=d) (G1:=G1) ?_ r1 ru;have q1:=q.1;cases d <;> first |exact q1 |exact (show False from q1).elim
    ·exact ⟨F2,G2,d,ds,r2,Rep.ext x2 ru,rvs,fZ (λd G' z=>PV.later z (x1.trans x2)) q⟩
   |insert=>
    refine peI (gG ez PySem.F.slot_list_insert PySem.F.type_list_insert aaf (iho h1) (ih h3) hbase hfew hline hs ha) λσ H Q hq=>el hq λρ F G e0 he r hw=>?_;rw[d8]at hw;refine aM e0 he r hw λd G1 H1 F1 u q e1 x1 he1 r1 ru=>⟨?_,cN e1 he1 r1 q.2 λds G2 H2 F2 vs q e2 x2 he2 r2 rvs=>?_⟩
    ·refine lst (d:=d) (G1:=G1) ?_ r1 ru;have q1:=q.1;cases d <;> first |exact q1 |exact (show False from q1).elim
    ·exact ⟨F2,G2,d,ds,r2,Rep.ext x2 ru,rvs,fZ (λd G' z=>PV.later z (x1.trans x2)) q⟩
   |pop=>
    refine peI (gG ez PySem.F.slot_list_pop PySem.F.type_list_pop aag (iho h1) (ih h3) hbase hfew hline hs ha) λσ H Q hq=>el hq λρ F G e0 he r hw=>?_;rw[d8]at hw;refine aM e0 he r hw λd G1 H1 F1 u q e1 x1 he1 r1 ru=>⟨?_,cN e1 he1 r1 q.2 λds G2 H2 F2 vs q e2 x2 he2 r2 rvs=>?_⟩
    ·refine lst (d:=d) (G1:=G1) ?_ r1 ru;have q1:=q.1;cases d <;> first |exact q1 |exact (show False from q1).elim
    ·exact ⟨F2,G2,d,ds,r2,Rep.ext x2 ru,rvs,fZ (λd G' z=>PV.later z (x1.trans x2)) q⟩
   |count=>
    refine peI (gG ez PySem.F.slot_list_count PySem.F.type_list_count Z9 (iho h1) (ih h3) hbase hfew hline hs ha) λσ H Q hq=>el hq λρ F G e0 he r hw=>?_;rw[d8]at hw;refine aM e0 he r hw λd G1 H1 F1 u q e1 x1 he1 r1 ru=>⟨lstV q.1 r1 ru,cN e1 he1 r1 q.2 λds G2 H2 F2 vs q e2 x2 he2 r2 rvs=>?_⟩;exact ⟨F2,G2,d,ds,r2,Rep.ext x2 ru,rvs,fZ (λd G' z=>PV.later z (x1.trans x2)) q⟩
   |index=>
    refine peI (gG ez PySem.F.slot_list_index PySem.F.type_list_index aaa (iho h1) (ih h3) hbase hfew hline hs ha) λσ H Q hq=>el hq λρ F G e0 he r hw=>?_;rw[d8]at hw;refine aM e0 he r hw λd G1 H1 F1 u q e1 x1 he1 r1 ru=>⟨lstV q.1 r1 ru,cN e1 he1 r1 q.2 λds G2 H2 F2 vs q e2 x2 he2 r2 rvs=>?_⟩;exact ⟨F2,G2,d,ds,r2,Rep.ext x2 ru,rvs,fZ (λd G' z=>PV.later z (x1.trans x2)) q⟩
end
section
variable {Φ:aa} {CX:CXT} {k:Nat} {c:CT} {E:EK} {B:Bs} {X:Cx}
def EachE(Φ:aa)(c:CT)(E:EK)(B:Bs)(X:Cx):Exs->Prop
 |.nil=>True
 |.cons e es=>OkE Φ c E B X e/\EachE Φ c E B X es
def ue(Φ:aa)(c:CT)(E:EK)(B:Bs)(X:Cx):Txs->Prop
 |.nil=>True
 |.cons e es=>OkT Φ c E B X e/\ue Φ c E B X es
theorem abr(S:Stat Φ CX k c E B X){es:Exs}(ih:EachE Φ c E B X es){e:Expr}(h:aj c (.fst es) e=true):PE X e (tE X.K B (wpE Φ (.fst es) E)):=nomatch (show false=true from h)
theorem EachE.oks:∀{xs:Exs},EachE Φ c E B X xs->fG Φ c E B X xs
 |.nil,_=>by intro h;exact yf h
 |.cons x xs,hh=>by intro h;exact uc hh.1 (EachE.oks hh.2) h
def uf(Φ:aa)(E:EK)(isAnd:Bool)(x:Ex)(xs:Exs):ak->DH->(D->DH->Prop)->Prop:=λρ G kk=>wpE Φ x E ρ G λd G1=>match d with |.bl b=>wpB Φ xs isAnd b E ρ G1 (λc G2=>kk (.bl c) G2) |_=>False
theorem Hc{isAnd:Bool}{pos:Pos}:∀(xs:Exs){x:Ex},OkE Φ c E B X x->EachE Φ c E B X xs->∀{v:Expr}{vs:List Expr},aj c x v=true->aJ c xs vs=true->
  PE X (.BoolOp (if isAnd then .And else .Or) (v::vs) pos) (tE X.K B (uf Φ E isAnd x xs))
 |.nil,x,ih,_,v,vs,h1,h2=>by
  unfold aJ at h2;cases vs with
  |nil=>
   refine peI (Vb (ih h1)) λσ H Q hq=>el hq λρ F G e0 he r hw=>?_;unfold uf at hw;refine aM e0 he r hw λd G1 H1 F1 u q e1 x1 he1 r1 ru=>?_;split at q
   ·rw[qU]at q;exact q _ _ _ x1 r1 ru
   ·exact q.elim
  |cons _ _=>cases h2
 |.cons y ys,x,ih,hh,v,vs,h1,h2=>by
  unfold aJ at h2;split at h2
  ·rename_i w ws;rw[ae]at h2;have rest:=Hc (isAnd:=isAnd) (pos:=pos) ys hh.1 hh.2 h2.1 h2.2;cases isAnd with
   |true=>
    refine peI (Vc (ih h1) rest) λσ H Q hq=>el hq λρ F G e0 he r hw=>?_;unfold uf at hw;refine aM e0 he r hw λd G1 H1 F1 u q e1 x1 he1 r1 ru=>?_;split at q
    ·rename_i b;refine ⟨b,ru,?_⟩;rw[kh]at q;cases b with
     |true=>
      rw[if_pos rfl];exact ⟨ρ,F1,G1,e1,he1,r1,aD y (λd G' z=>by
       cases d <;> first |exact (show False from z).elim |exact sW ys (λc G2 z=>PV.later z x1) z) q⟩
     |false=>
      rw[if_neg a9];exact q _ _ _ x1 r1 rfl
    ·exact q.elim
   |false=>
    refine peI (Vd (ih h1) rest) λσ H Q hq=>el hq λρ F G e0 he r hw=>?_;unfold uf at hw;refine aM e0 he r hw λd G1 H1 F1 u q e1 x1 he1 r1 ru=>?_;split at q
    ·rename_i b;refine ⟨b,ru,?_⟩;rw[kh]at q;cases b with
     |false=>
      rw[if_neg a9];exact ⟨ρ,F1,G1,e1,he1,r1,aD y (λd G' z=>by
       cases d <;> first |exact (show False from z).elim |exact sW ys (λc G2 z=>PV.later z x1) z) q⟩
     |true=>
      rw[if_pos rfl];exact q _ _ _ x1 r1 rfl
    ·exact q.elim
  ·cases h2
theorem abt{isAnd:Bool}{x:Ex}{xs:Exs}(ih:OkE Φ c E B X x)(hh:EachE Φ c E B X xs){e:Expr}(h:aj c (.boo isAnd x xs) e=true):PE X e (tE X.K B (wpE Φ (.boo isAnd x xs) E)):=by
 replace h:=Gj h;obtain ⟨_,_,_,_,rfl,h⟩:=h
 ·simp only[ae,aI]at h;obtain ⟨⟨e1,h1⟩,h2⟩:=h;subst e1;refine peI (Hc xs ih hh h1 h2) λσ H Q hq=>el hq λρ F G e0 he r hw=>⟨ρ,F,G,e0,he,r,?_⟩;rw[rG]at hw;exact hw
theorem abu{t:Tx}{a b:Ex}(iht:OkT Φ c E B X t)(iha:OkE Φ c E B X a)(ihb:OkE Φ c E B X b){e:Expr}(h:aj c (.ife t a b) e=true):PE X e (tE X.K B (wpE Φ (.ife t a b) E)):=by
 replace h:=Gk h;obtain ⟨_,_,_,_,rfl,h⟩:=h
 ·simp only[ae]at h;obtain ⟨⟨h1,h2⟩,h3⟩:=h;refine peI (Ve (iht h1) (iha h2) (ihb h3)) λσ H Q hq=>el hq λρ F G e0 he r hw=>?_;rw[rH]at hw;refine iJ e0 he r hw λb' G1 H1 F1 q e1 x1 he1 r1=>?_;cases b' with
  |true=>
   rw[if_pos rfl];exact ⟨ρ,F1,G1,e1,he1,r1,aD a (λd G' z=>PV.later z x1) q⟩
  |false=>
   rw[if_neg a9];exact ⟨ρ,F1,G1,e1,he1,r1,aD b (λd G' z=>PV.later z x1) q⟩
theorem abv{x:Ex}(ih:OkE Φ c E B X x){e:Expr}(hp:iH e=true)(h:aj c x e=true):PT X e (tB' X.K B (wpT Φ (.val x) E)):=by
 refine ptI (Wo (ih h) (aaX hp X.env)) λσ H Q hq=>el hq λρ F G e0 he r hw=>?_;rw[jt]at hw;refine aM e0 he r hw λd G1 H1 F1 u q e1 x1 he1 r1 ru=>?_;split at q
 ·rename_i b hb;exact ⟨b,Es r1 ru hb,q _ _ x1 r1⟩
 ·exact q.elim
theorem abw{t:Tx}(ih:OkT Φ c E B X t){e:Expr}(h:bC c (.not t) e=true):PT X e (tB' X.K B (wpT Φ (.not t) E)):=by
 replace h:=aaH h;obtain ⟨_,_,rfl,h⟩:=h
 ·refine ptI (U8 (ih h)) λσ H Q hq=>el hq λρ F G e0 he r hw=>?_;rw[qQ]at hw;exact iJ e0 he r hw λb G1 H1 F1 q e1 x1 he1 r1=>q _ _ x1 r1
def lC(Φ:aa)(E:EK)(isAnd:Bool)(x:Tx)(xs:Txs):ak->DH->(Bool->DH->Prop)->Prop:=λρ G kk=>wpT Φ x E ρ G λb G1=>fY Φ xs isAnd b E ρ G1 kk
theorem Hf{isAnd:Bool}{pos:Pos}:∀(xs:Txs){x:Tx},OkT Φ c E B X x->ue Φ c E B X xs->∀{v:Expr}{vs:List Expr},bC c x v=true->iI c xs vs=true->
  PW X (.BoolOp (if isAnd then .And else .Or) (v::vs) pos) (tB' X.K B (lC Φ E isAnd x xs))
 |.nil,x,ih,_,v,vs,h1,h2=>by
  unfold iI at h2;cases vs with
  |nil=>
   have go:∀σ H Q,tB' X.K B (lC Φ E isAnd x .nil) σ H Q->tB' X.K B (wpT Φ x E) σ H Q:=λσ H Q hq=>el hq λρ F G e0 he r hw=>by
    unfold lC at hw;refine ⟨ρ,F,G,e0,he,r,cQ x (λb G1 q=>?_) hw⟩;rw[qW]at q;exact q
   cases isAnd with
   |true=>exact pwI (U4 (ih h1)) go
   |false=>exact pwI (U5 (ih h1)) go
  |cons _ _=>cases h2
 |.cons y ys,x,ih,hh,v,vs,h1,h2=>by
  unfold iI at h2;split at h2
  ·rename_i w ws;rw[ae]at h2;have rest:=Hf (isAnd:=isAnd) (pos:=pos) ys hh.1 hh.2 h2.1 h2.2;cases isAnd with
   |true=>
    refine pwI (U6 (ih h1) rest) λσ H Q hq=>el hq λρ F G e0 he r hw=>?_;unfold lC at hw;refine iJ e0 he r hw λb G1 H1 F1 q e1 x1 he1 r1=>?_;rw[kj]at q;cases b with
    |true=>
     rw[if_pos rfl];exact ⟨ρ,F1,G1,e1,he1,r1,cQ y (λb' G' z=>sX ys (λc G2 z=>PB.later z x1) z) q⟩
    |false=>
     rw[if_neg a9];exact q _ _ x1 r1
   |false=>
    refine pwI (U7 (ih h1) rest) λσ H Q hq=>el hq λρ F G e0 he r hw=>?_;unfold lC at hw;refine iJ e0 he r hw λb G1 H1 F1 q e1 x1 he1 r1=>?_;rw[kj]at q;cases b with
    |false=>
     rw[if_neg a9];exact ⟨ρ,F1,G1,e1,he1,r1,cQ y (λb' G' z=>sX ys (λc G2 z=>PB.later z x1) z) q⟩
    |true=>
     rw[if_pos rfl];exact q _ _ x1 r1
  ·cases h2
theorem abx{isAnd:Bool}{x:Tx}{xs:Txs}(ih:OkT Φ c E B X x)(hh:ue Φ c E B X xs){e:Expr}(h:bC c (.boo isAnd x xs) e=true):PT X e (tB' X.K B (wpT Φ (.boo isAnd x xs) E)):=by
 replace h:=aaI h;obtain ⟨_,_,_,_,rfl,h⟩:=h
 ·simp only[ae,aI]at h;obtain ⟨⟨e1,h1⟩,h2⟩:=h;subst e1;refine ptI (PW.pt (Hf xs ih hh h1 h2)) λσ H Q hq=>el hq λρ F G e0 he r hw=>⟨ρ,F,G,e0,he,r,?_⟩;rw[qR]at hw;exact hw
def tG(K:PF)(B:Bs)(t:Tg):TG:=λv σ H Q=>∃ρ F G d,Ext B.H B.F H F/\EnvR K H F ρ σ/\R K H F G/\Rep K H F d v/\aQ t d ρ G (λρ'=>∀σ',EnvR K H F ρ' σ'->Q σ' H)
def tGs(K:PF)(B:Bs)(t:Tgs):TGs:=λvs σ H Q=>∃ρ F G ds,Ext B.H B.F H F/\EnvR K H F ρ σ/\R K H F G/\Reps K H F ds vs/\bV t ds ρ G (λρ'=>∀σ',EnvR K H F ρ' σ'->Q σ' H)
theorem ug:∀{ts:Tgs}{es:List Expr}{env:Env},cI c ts es=true->(assignEach es env).length=es.length/\(assignEach es env).findIdx? (·.1)=none/\(assignEach es env).map (·.2)=es.map λe=>assign e env
 |.nil,[],env,_=>⟨rfl,rfl,rfl⟩
 |.nil,_::_,env,h=>by unfold cI at h;cases h
 |.cons t r,[],env,h=>by unfold cI at h;cases h
 |.cons t r,e::es,env,h=>by
  unfold cI at h;rw[ae]at h;obtain ⟨h1,h2,h3⟩:=ug (env:=env) h.2;have hs:assignEach (e::es) env=(false,assign e env)::assignEach es env:=by
   cases t with
   |nm i=>
    have h':=h.1;obtain ⟨_,_,rfl,_⟩:=yc h';rfl
   |tp ts=>
    have h':=h.1;obtain ⟨_,_,_,rfl,_⟩:=yd h';rfl
  rw[hs];refine ⟨by simp[h1],?_,by simp[h3]⟩;rw[fS];simp[h2]
section
variable {prog:Program} {w:World} {A:Around} {E:Value->Shared->Prop} {s:Shared}
theorem Hg{it t:Addr}{items:Array Value}(hne:t≠it):∀(n i:Nat)(s:Shared)(Q:List Value->Shared->Prop),s.heap.IsListIter it t i->s.heap.IsList t items->i+n<=items.size->
  (∀h',h'.IsListIter it t (i+n)->Heap.SameBut it s.heap h'->Q ((items.toList.drop i).take n) { s with heap:=h' })->wpAny (model prog w) A (draw (.ref it) n) Q E s
 |0,i,s,Q,hit,_,_,hQ=>by
  show wpAny _ _ (pure []) Q E s;exact bo (by simpa using hQ s.heap hit (Heap.SameBut.refl ..))
 |n+1,i,s,Q,hit,ht,hle,hQ=>by
  have hlt:i < items.size:=by omega
  show wpAny _ _ (pyNext (.ref it) >>= _) Q E s;refine al (wpAny_pyNext_list_item hit ht (x:=items[i]) (by simp[hlt]) λh₁ hit₁ hs₁=>?_);refine al (eR (Hg hne n (i+1) _ _ hit₁ (ht.extBut hs₁.extBut hne) (by omega) λh₂ hit₂ hs₂=>bo ?_));have hd:items.toList.drop i=items[i]::items.toList.drop (i+1):=by simp[bb,hlt]
  have:=hQ h₂ (by rw[show i+(n+1)=i+1+n by omega];exact hit₂) (hs₁.trans hs₂);rw[hd,List.take_succ_cons]at this;exact this
theorem aby{t:Addr}{items:Array Value}{Q:List Value->Shared->Prop}(hh:A.handled=none)(ht:s.heap.IsList t items)
  (hQ:∀h',Heap.ExtBut s.heap.objs.size s.heap h'->Q items.toList { s with heap:=h' }):wpAny (model prog w) A (unpackItems (.ref t) items.size none) Q E s:=by
 have hlt:t≠s.heap.objs.size:=by obtain ⟨o,ho,_⟩:=ht;exact cK (aS ho)
 unfold unpackItems;refine al ?_;unfold notIterableAtAll;refine al (wpAny_specialOf ht.typeIs PySem.F.slot_list_iter.lookup ?_);refine bo ?_;simp only[Bool.false_eq_true,if_false];refine al (eR (wpAny_pyIter_list ht ?_));refine al (eR (Hg hlt items.size 0 _ _ ⟨_,bi _ rfl,rfl,rfl⟩ (ht.push _) (by omega) λh₁ hit₁ hs₁=>?_));have hall:List.take items.size (List.drop 0 items.toList)=items.toList:=by rw[List.drop_zero];exact eK (by simp)
 rw[hall];rw[if_neg (by simp)];have ht₁:h₁.IsList t items:=(ht.push _).extBut hs₁.extBut hlt;refine al (eR (wpAny_pyNext_list_end hh hit₁ ht₁ (by simp) λh₂ he₂=>?_));simp only[Option.isSome_none,Bool.false_eq_true,if_false];refine bo (hQ h₂ λb o hb e=>he₂ b o hb (hs₁.extBut b o hb (am _ e)))
theorem abz{env:Env}{elts:List Expr}{x1}{pos:Pos}{t:Addr}{items:Array Value}{Q:Unit->Shared->Prop}(hh:A.handled=none)(ht:s.heap.IsList t items)
  (hn:(assignEach elts env).length=items.size) (hstar:(assignEach elts env).findIdx? (·.1)=none)
  (h:∀h',Heap.ExtBut s.heap.objs.size s.heap h'->wpAny (model prog w) A (assignInOrder ((assignEach elts env).map (·.2)) items.toList) Q E { s with heap:=h' }):
  wpAny (model prog w) A (assign (.Tuple elts x1 pos) env (.ref t)) Q E s:=by
 rw[assign_Tuple];refine al (gu ?_);unfold unpack;rw[hn,hstar];exact al (eR (aby hh ht h))
end
section
variable {X:Cx} {pos:Pos}
def abA(K:PF)(n:Nat)(t:TGs):TG:=λv σ H Q=>∃a xs,v=.ref a/\SqL K H a xs/\xs.length=n/\t xs σ H Q
theorem abB{es:List Expr}{k:Nat}{t:TGs}{n:Nat}(hc:X.calm=true)(h:PGs X es t)
  (hn:(assignEach es X.env).length=n:=by rfl) (hst:(assignEach es X.env).findIdx? (·.1)=none:=by rfl):PG X (.Tuple es k pos) (abA X.K n t):=by
 intro pins s σ H v u Q I r hw;obtain ⟨a,xs,e1,hq,hl,hw⟩:=hw;subst e1;cases r;obtain ⟨its,rv,pl,hz⟩:=I.list hq;refine abz (I.ok.hd hc) pl.isList (by simp[hn,<-hl,rv.length]) hst λh' hx=>?_;have I1:Inv X pins σ H { s with heap:=h' }:=I.kept (t':=s.toks) λb o e=>hx b o (cK (aS e)) e;exact h pins _ σ H xs _ Q I1 (by simpa using rv) hw
end
mutual
theorem iK(S:Stat Φ CX k c E B X):∀(t:Tg){e:Expr},bB c t e=true->PG X e (tG X.K B t)
 |.nm i,e,h=>by
  replace h:=yc h;obtain ⟨x,pos,rfl,h⟩:=h
  ·skip;rw[ae,aI]at h;obtain ⟨l,f⟩:=S.sto x h.2;intro pins s σ H v u Q I rv q;refine Vx (i:=i) S.nd (by rw[S.N];exact h.1) l f pins s σ H v u Q I rv ?_;obtain ⟨ρ,F,G,d,e0,he,r,rd,hw⟩:=q;unfold aQ at hw;exact hw _ (he.set rd i)
 |.tp ts,e,h=>by
  replace h:=yd h;obtain ⟨es,kk,pos,rfl,h⟩:=h
  ·skip;obtain ⟨h1,h2,h3⟩:=ug (env:=X.env) h;intro pins s σ H v u Q I rv q;obtain ⟨ρ,F,G,d,e0,he,r,rd,hw⟩:=q;unfold aQ at hw;split at hw
   ·rename_i ds;refine VG (n:=es.length) S.calm (yg S ts h) h1 h2 pins s σ H v u Q I rv ?_;obtain ⟨a,vs,e1,q,t⟩:=rd;refine ⟨a,vs,e1,q.sq,?_,ρ,F,G,ds,e0,he,r,t,hw⟩;rw[<-t.length];exact yh ts h hw
   ·rename_i ds;refine abB (n:=es.length) S.calm (yg S ts h) h1 h2 pins s σ H v u Q I rv ?_;obtain ⟨a,vs,e1,q,t⟩:=rd;refine ⟨a,vs,e1,q.sq,?_,ρ,F,G,ds,e0,he,r,t,hw⟩;rw[<-t.length];exact yh ts h hw
   ·exact hw.elim
theorem yg(S:Stat Φ CX k c E B X):∀(ts:Tgs){es:List Expr},cI c ts es=true->PGs X es (tGs X.K B ts)
 |.nil,es,h=>by
  unfold cI at h;cases es with
  |nil=>
   intro pins s σ H vs us Q I rv q;refine VB pins s σ H vs us Q I rv ?_;obtain ⟨ρ,F,G,ds,e0,he,r,rd,hw⟩:=q;unfold bV at hw;split at hw
   ·exact ⟨rd,hw _ he⟩
   ·exact hw.elim
  |cons _ _=>cases h
 |.cons t r,es,h=>by
  unfold cI at h;split at h
  ·rename_i e es;rw[ae]at h;intro pins s σ H vs us Q I rv q;have hs:(assignEach (e::es) X.env).map (·.2)=assign e X.env::(assignEach es X.env).map (·.2):=by
    have hh:cI c (.cons t r) (e::es)=true:=by unfold cI;show (bB c t e&&cI c r es)=true;rw[h.1,h.2];rfl
    rw[(ug (env:=X.env) hh).2.2,(ug (env:=X.env) h.2).2.2];rfl
   refine VD (iK S t h.1) (yg S r h.2) hs pins s σ H vs us Q I rv ?_;obtain ⟨ρ,F,G,ds,e0,he,rr,rd,hw⟩:=q;unfold bV at hw;split at hw
   ·rename_i d ds;obtain ⟨v,vs',e1,rd1,rds⟩:=rd;refine ⟨v,vs',e1,ρ,F,G,d,e0,he,rr,rd1,di (λρ' z σ' he'=>?_) t hw⟩;exact ⟨ρ',F,G,ds,e0,he',rr,rds,z⟩
   ·exact hw.elim
  ·cases h
theorem yh{G:DH}:∀(ts:Tgs){es:List Expr}{ds:List D}{ρ:ak}{Q:ak->Prop},cI c ts es=true->bV ts ds ρ G Q->ds.length=es.length
 |.nil,es,ds,ρ,Q,h,q=>by
  unfold cI at h;unfold bV at q;split at q
  ·cases es with
   |nil=>rfl
   |cons _ _=>cases h
  ·exact q.elim
 |.cons t r,es,ds,ρ,Q,h,q=>by
  unfold cI at h;split at h
  ·rw[ae]at h;unfold bV at q;split at q
   ·rename_i d ds;have:∃ρ',bV r ds ρ' G Q:=Hh t q;obtain ⟨ρ',q'⟩:=this;have:=yh r h.2 q';simp[this]
   ·exact q.elim
  ·cases h
theorem Hh{G:DH}:∀(t:Tg){d:D}{ρ:ak}{Q:ak->Prop},aQ t d ρ G Q->∃ρ',Q ρ'
 |.nm i,d,ρ,Q,q=>⟨_,q⟩
 |.tp ts,d,ρ,Q,q=>by
  unfold aQ at q;split at q
  ·exact yj ts q
  ·exact yj ts q
  ·exact q.elim
theorem yj{G:DH}:∀(ts:Tgs){ds:List D}{ρ:ak}{Q:ak->Prop},bV ts ds ρ G Q->∃ρ',Q ρ'
 |.nil,ds,ρ,Q,q=>by
  unfold bV at q;split at q
  ·exact ⟨_,q⟩
  ·exact q.elim
 |.cons t r,ds,ρ,Q,q=>by
  unfold bV at q;split at q
  ·obtain ⟨ρ',q'⟩:=Hh t q;exact yj r q'
  ·exact q.elim
end
end
structure WalkJ(K:PF)(H:Hp)(F:FZ)(items:List D)(g:Hld)(J:It):Prop where
 go:∀H' F' G i,Ext H F H' F'->R K H' F' G->held g G->i < items.length->J.go i H'
 stop:∀H' F' G,Ext H F H' F'->R K H' F' G->held g G->J.stop items.length H'
 yld:∀H' F' i x H'' d G,Ext H F H' F'->R K H' F' G->held g G->items[i]?=some d->J.yld i H' x H''->Ext H' F' H'' F'/\R K H'' F' G/\Rep K H'' F' d x
section
variable {K:PF} {H:Hp} {F:FZ}
structure Src(K:PF)(H:Hp)(F:FZ)(u:Value)(ds:List D)(g:Hld)(k:SK):Prop where
 val:k.val=u
 sat:∀H' F' G,Ext H F H' F'->R K H' F' G->held g G->∃vs,k.Sat H' vs/\Reps K H' F' ds vs
theorem uh{d:D}{v:V}{u:Value}{G:DH}{ds:List D×Hld}(h:Rep K H F d v)(r:RelV v u)(e:itemsOf G d=some ds):∃k,Src K H F u ds.1 ds.2 k:=by
 cases d with
 |lst xs=>
  simp only[itemsOf,a8]at e;subst e;obtain ⟨a,vs,e1,q,t⟩:=h;subst e1;have hu:u=Value.ref a:=r;subst hu;exact ⟨.lst a,rfl,λH' F' G' x _ _=>⟨vs,(FzL.ext x q).2,Reps.ext x t⟩⟩
 |tup xs=>
  simp only[itemsOf,a8]at e;subst e;obtain ⟨a,vs,e1,q,t⟩:=h;subst e1;have hu:u=Value.ref a:=r;subst hu;exact ⟨.tup a,rfl,λH' F' G' x _ _=>⟨vs,(TpT.ext (K:=K) x q).it,Reps.ext x t⟩⟩
 |str l=>
  simp only[itemsOf,a8]at e;subst e;obtain ⟨e1,hl⟩:=h;subst e1;obtain ⟨t,hu⟩:∃t,u=Value.str (tx l) t:=r;subst hu;exact ⟨.str (tx l) t,rfl,λH' F' G' x _ _=>⟨_,rfl,by simpa using xN l⟩⟩
 |ref p=>
  simp only[itemsOf]at e;split at e
  ·rename_i xs hg;simp only[a8]at e;subst e;have e1:v=.ref p:=h;subst e1;have hu:u=Value.ref p:=r;subst hu;exact ⟨.lst p,rfl,λH' F' G' x r' hh=>r'.lst hh.1⟩
  ·cases e
 |_=>cases e
theorem um{G:DH}{d:D}{ds:List D×Hld}(e:itemsOf G d=some ds):held ds.2 G:=by
 cases d with
 |ref p=>
  simp only[itemsOf]at e;split at e
  ·rename_i xs hg;simp only[a8]at e;subst e;exact ⟨hg,trivial⟩
  ·cases e
 |_=>simp only[itemsOf]at e;first | (cases e;done) | (simp only[a8]at e;subst e;exact trivial)
theorem abC{u:Value}{ds:List D}{g:Hld}{k:SK}(s:Src K H F u ds g k):WalkJ K H F ds g (Jk k) where
 go:=λH' F' G i x r hh hi=>by
  obtain ⟨vs,h1,h2⟩:=s.sat H' F' G x r hh;exact ⟨vs,h1,by rw[<-h2.length];exact hi⟩
 stop:=λH' F' G x r hh=>by
  obtain ⟨vs,h1,h2⟩:=s.sat H' F' G x r hh;exact ⟨vs,h1,h2.length.symm⟩
 yld:=λH' F' i v H'' d G x r hh hd y=>by
  obtain ⟨e,hv⟩:=y;subst e;obtain ⟨vs,h1,h2⟩:=s.sat _ F' G x r hh;obtain ⟨w,e1,rw'⟩:=h2.get hd;have e2:=hv vs h1;rw[e1]at e2;cases e2;exact ⟨Ext.refl _ _,r,rw'⟩
theorem iM:∀(n:Nat)(ds:List D),(dG n ds).length=ds.length
 |_,[]=>rfl
 |n,d::ds=>by simp[dG,iM (n+1) ds]
theorem jB:∀(n:Nat)(ds:List D)(i:Nat),(dG n ds)[i]?=(ds[i]?).map λd=>.tup [.int ((n+i:Nat):Int),d]
 |_,[],_=>by simp[dG]
 |n,d::ds,0=>by simp[dG]
 |n,d::ds,i+1=>by
  simp only[dG,gv];rw[jB (n+1) ds i];congr 1;funext d;rw[show n+1+i=n+(i+1) by omega]
theorem yl:∀(as bs:List D),(cg as bs).length=min as.length bs.length
 |[],bs=>by simp[cg]
 |a::as,[]=>by simp[cg]
 |a::as,b::bs=>by simp[cg,yl as bs]
theorem Hi:∀(as bs:List D)(i:Nat)(d:D),(cg as bs)[i]?=some d->∃a b,as[i]?=some a/\bs[i]?=some b/\d=.tup [a,b]
 |[],bs,i,d,h=>by simp[cg]at h
 |a::as,[],i,d,h=>by simp[cg]at h
 |a::as,b::bs,0,d,h=>by simp[cg]at h;exact ⟨a,b,rfl,rfl,h.symm⟩
 |a::as,b::bs,i+1,d,h=>by
  simp only[cg,gv]at h;obtain ⟨x,y,h1,h2,h3⟩:=Hi as bs i d h;exact ⟨x,y,by simpa using h1,by simpa using h2,h3⟩
theorem abD{u:Value}{ds:List D}{g:Hld}{k:SK}(s:Src K H F u ds g k):WalkJ K H F (dG 0 ds) g (Je k) where
 go:=λH' F' G i x r hh hi=>by
  obtain ⟨vs,h1,h2⟩:=s.sat H' F' G x r hh;exact ⟨vs,h1,by rw[<-h2.length,<-iM 0];exact hi⟩
 stop:=λH' F' G x r hh=>by
  obtain ⟨vs,h1,h2⟩:=s.sat H' F' G x r hh;exact ⟨vs,h1,by rw[iM];exact h2.length.symm⟩
 yld:=λH' F' i v H'' d G x r hh hd y=>by
  obtain ⟨vs,h1,h2⟩:=s.sat H' F' G x r hh;obtain ⟨T,y,hT,e1,e2,hv⟩:=y;subst e1 e2;rw[jB]at hd;obtain ⟨d',hd',e3⟩:=ax.mp hd;subst e3;obtain ⟨w,e1,rw'⟩:=h2.get hd';have e2:=hv vs h1;rw[e1]at e2;cases e2;refine ⟨eY r hT,r.new hT,?_⟩;rw[Nat.zero_add];exact vZ r hT (Reps.cons rfl (Reps.cons rw' Reps.nil))
theorem jC{g g':Hld}{G:DH}:held (g++g') G->held g G/\held g' G:=by
 induction g with
 |nil=>exact λh=>⟨trivial,h⟩
 |cons p r ih=>
  intro h;obtain ⟨h1,h2⟩:=ih h.2;exact ⟨⟨h.1,h1⟩,h2⟩
theorem abE{u u':Value}{ds es:List D}{g g':Hld}{k l:SK}(s:Src K H F u ds g k)(s':Src K H F u' es g' l):WalkJ K H F (cg ds es) (g++g') (Jz k l) where
 go:=λH' F' G i x r hh hi=>by
  obtain ⟨vs,h1,h2⟩:=s.sat H' F' G x r (jC hh).1;obtain ⟨ws,h3,h4⟩:=s'.sat H' F' G x r (jC hh).2;rw[yl]at hi;exact ⟨vs,ws,h1,h3,by rw[<-h2.length];omega,by rw[<-h4.length];omega⟩
 stop:=λH' F' G x r hh=>by
  obtain ⟨vs,h1,h2⟩:=s.sat H' F' G x r (jC hh).1;obtain ⟨ws,h3,h4⟩:=s'.sat H' F' G x r (jC hh).2;exact ⟨vs,ws,h1,h3,by rw[yl,<-h2.length,<-h4.length];omega⟩
 yld:=λH' F' i v H'' d G x r hh hd y=>by
  obtain ⟨T,y,z,hT,e1,e2,hv,hz⟩:=y;subst e1 e2;obtain ⟨a,b,ha,hb,e3⟩:=Hi _ _ _ _ hd;subst e3;obtain ⟨vs,h1,h2⟩:=s.sat H' F' G x r (jC hh).1;obtain ⟨ws,h3,h4⟩:=s'.sat H' F' G x r (jC hh).2;obtain ⟨w,e1,rw'⟩:=h2.get ha;obtain ⟨w2,e3,rw2⟩:=h4.get hb;have e2:=hv vs h1;have e4:=hz ws h3;rw[e1]at e2;cases e2;rw[e3]at e4;cases e4;exact ⟨eY r hT,r.new hT,vZ r hT (Reps.cons rw' (Reps.cons rw2 Reps.nil))⟩
theorem Hj(lo:Int)(n:Nat):WalkJ K H F (aN lo n) [] (Itr lo n) where
 go:=λH' F' G i x _ _ hi=>by show i < n;simpa [aN] using hi
 stop:=λH' F' G x _ _=>by show n<=(aN lo n).length;simp[aN]
 yld:=λH' F' i v H'' d G x r _ hd y=>by
  obtain ⟨e1,e2⟩:=y;subst e1 e2;refine ⟨Ext.refl _ _,r,?_⟩;unfold aN at hd;rw[ay]at hd;obtain ⟨j,hj,e3⟩:=ax.mp hd;have:j=i:=by have:=ah.mp hj;obtain ⟨h1,h2⟩:=this;simpa using h2.symm
  subst this;subst e3;rfl
end
def tI(K:PF)(B:Bs)(w:ak->DH->(List D->Hld->DH->Prop)->Prop):TI:=λσ H Rr=>∃ρ F G,Ext B.H B.F H F/\EnvR K H F ρ σ/\R K H F G/\
 w ρ G (λitems g G'=>∀H' F' J,Ext H F H' F'->R K H' F' G'->WalkJ K H' F' items g J->Rr J H')
section
variable {Φ:aa} {CX:CXT} {k:Nat} {c:CT} {E:EK} {B:Bs} {X:Cx}
theorem uo{pins:List (Addr×Obj)}{σ:L2.St}{H:Hp}{s:Shared}(I:Inv X pins σ H s){kk:SK}{vs:List V}(h:kk.Sat H vs):∃its:Array Value,kk.On its s.heap:=by
 cases kk with
 |lst a=>obtain ⟨its,_,pl,_⟩:=I.list (SqL.of (show H a=some _ from h));exact ⟨its.toArray,pl.isList⟩
 |tup a=>obtain ⟨its,_,pl,_⟩:=I.tuple (SqT.of (show H a=some _ from h));exact ⟨its.toArray,pl⟩
 |str x t=>exact ⟨#[],trivial⟩
theorem abF{x:Ex}(ih:OkE Φ c E B X x){tg e:Expr}(h:aj c x e=true):PI X tg e (tI X.K B (wpI Φ (.seq x) E)):=by
 intro pins s σ H Rr I q;obtain ⟨ρ,F,G,e0,he,r,hw⟩:=q;rw[qZ]at hw;have q':tE X.K B (wpE Φ x E) σ H (λv H1=>∃F1 G1 d items,R X.K H1 F1 G1/\Rep X.K H1 F1 d v/\itemsOf G1 d=some items/\∀J,WalkJ X.K H1 F1 items.1 items.2 J->Rr J H1):=
  aM e0 he r hw λd G1 H1 F1 u q e1 x1 he1 r1 ru=>by
   split at q
   ·rename_i ds hd;exact ⟨F1,G1,d,ds,r1,ru,hd,λJ w=>q H1 F1 J x1 r1 w⟩
   ·exact q.elim
 refine thn (ih h pins s σ H _ I q') λu s1 ⟨v,H1,I1,rv,F1,G1,d,items,r1,rd,hd,q1⟩=>?_;obtain ⟨kk,src⟩:=uh rd rv hd;obtain ⟨vs,sat,_⟩:=src.sat H1 F1 G1 (Ext.refl _ _) r1 (um hd);obtain ⟨its,on⟩:=uo I1 sat;rw[<-src.val];refine SK.iter on ?_;refine ⟨s1.heap.objs.size,[s1.heap.objs.size],_,_,H1,rfl,I1.kept (t':=s1.toks) λb o e=>am _ e,aap kk _,SK.pos0,λb hb=>?_,q1 _ (abC src)⟩;have e:b=s1.heap.objs.size:=by simpa using hb
 subst e;exact I1.fpOk (aw _) (I1.hok.fresh (aw _))
theorem abG(S:Stat Φ CX k c E B X){a:Ex}(ih:OkE Φ c E B X a){tg e:Expr}(h:aZ c (.rng a) tg e=true):PI X tg e (tI X.K B (wpI Φ (.rng a) E)):=by
 replace h:=Gz h;obtain ⟨_,_,_,_,rfl,h⟩:=h
 ·simp only[ae,aI]at h;obtain ⟨⟨⟨e1,h1⟩,hm⟩,h2⟩:=h;subst e1;obtain ⟨g1,g2⟩:=dq h1;have hmg:=S.blt _ (bX.mp hm);have hs:=cC _ [] X.env (cT (b7 a h2));intro pins s σ H Rr I q;refine V1 (S.glo _ g1) hmg (fU (ih h2) il hs) hs pins s σ H Rr I ?_;obtain ⟨ρ,F,G,e0,he,r,hw⟩:=q;rw[q8]at hw;refine aM e0 he r hw λd G1 H1 F1 u q e1 x1 he1 r1 ru=>?_;split at q
  ·rename_i n;have e2:u=.int n:=ru;subst e2;exact ⟨n,rfl,q.1.1,q.1.2,q.2 H1 F1 _ x1 r1 (Hj 0 n.toNat)⟩
  ·exact q.elim
theorem abH{K:PF}{H:Hp}{F:FZ}(lo:Int)(n:Nat):WalkJ K H F (dh lo n) [] (Itd lo n) where
 go:=λH' F' G i x _ _ hi=>by show i < n;simpa [dh] using hi
 stop:=λH' F' G x _ _=>by show n<=(dh lo n).length;simp[dh]
 yld:=λH' F' i v H'' d G x r _ hd y=>by
  obtain ⟨e1,e2⟩:=y;subst e1 e2;refine ⟨Ext.refl _ _,r,?_⟩;unfold dh at hd;rw[ay]at hd;obtain ⟨j,hj,e3⟩:=ax.mp hd;have:j=i:=by have:=ah.mp hj;obtain ⟨h1,h2⟩:=this;simpa using h2.symm
  subst this;subst e3;rfl
theorem abI(S:Stat Φ CX k c E B X){a:Ex}(ih:OkE Φ c E B X a){tg e:Expr}(h:aZ c (.rev a) tg e=true):PI X tg e (tI X.K B (wpI Φ (.rev a) E)):=by
 replace h:=GC h;obtain ⟨_,_,_,_,_,_,_,rfl,h⟩:=h;simp only[ae,aI]at h;obtain ⟨⟨⟨⟨⟨⟨e1,h1⟩,hm⟩,e2⟩,h2⟩,hm2⟩,h3⟩:=h;subst e1 e2;obtain ⟨g1,_⟩:=dq h1;obtain ⟨g2,_⟩:=dq h2;have hmg:=S.blt _ (bX.mp hm);have hmg2:=S.blt _ (bX.mp hm2);have hs:=cC _ [] X.env (cT (b7 a h3));intro pins s σ H Rr I q;refine Yr (S.glo _ g1) hmg (S.glo _ g2) hmg2 (fU (ih h3) il hs) hs pins s σ H Rr I ?_;obtain ⟨ρ,F,G,e0,he,r,hw⟩:=q;rw[rm]at hw;refine aM e0 he r hw λd G1 H1 F1 u q e1 x1 he1 r1 ru=>?_;split at q
 ·rename_i n;have e2:u=.int n:=ru;subst e2;exact ⟨n,rfl,q.1.1,q.1.2,q.2 H1 F1 _ x1 r1 (abH _ n.toNat)⟩
 ·exact q.elim
theorem abJ(S:Stat Φ CX k c E B X){a b d:Ex}(iha:OkE Φ c E B X a)(ihb:OkE Φ c E B X b)(ihd:OkE Φ c E B X d){tg e:Expr}(h:aZ c (.dwn a b d) tg e=true):PI X tg e (tI X.K B (wpI Φ (.dwn a b d) E)):=nomatch (show false=true from h)
theorem abK(S:Stat Φ CX k c E B X){a b:Ex}(iha:OkE Φ c E B X a)(ihb:OkE Φ c E B X b){tg e:Expr}(h:aZ c (.rng2 a b) tg e=true):PI X tg e (tI X.K B (wpI Φ (.rng2 a b) E)):=by
 replace h:=GD h;obtain ⟨_,_,v,v',pos,rfl,h⟩:=h
 ·simp only[ae,aI]at h;obtain ⟨⟨⟨⟨e1,h1⟩,hm⟩,h2⟩,h3⟩:=h;subst e1;obtain ⟨g1,g2⟩:=dq h1;have hmg:=S.blt _ (bX.mp hm);have hs2:=cC v' [] X.env (cT (b7 b h3));have hs:=cC v [v'] X.env (cT (b7 a h2));intro pins s σ H Rr I q;refine V2 (S.glo _ g1) hmg (fU (iha h2) (fU (ihb h3) il hs2) hs) (by rw[hs,hs2];rfl) hs2 pins s σ H Rr I ?_;obtain ⟨ρ,F,G,e0,he,r,hw⟩:=q;rw[q9]at hw;refine aM e0 he r hw λd G1 H1 F1 u q e1 x1 he1 r1 ru=>aM e1 he1 r1 q λd' G2 H2 F2 u' q e2 x2 he2 r2 ru'=>?_;cases d with
  |int m=>
   cases d' with
   |int n=>
    have e3:u=.int m:=ru;have e4:u'=.int n:=ru';subst e3 e4;exact ⟨m,n,rfl,q.1,q.2 H2 F2 _ (x1.trans x2) r2 (Hj m (n - m).toNat)⟩
   |_=>exact (show False from q).elim
  |_=>exact (show False from q).elim
theorem abL(S:Stat Φ CX k c E B X){a:Ex}(ih:OkE Φ c E B X a){tg e:Expr}(h:aZ c (.enm a) tg e=true):PI X tg e (tI X.K B (wpI Φ (.enm a) E)):=by
 replace h:=GF h;obtain ⟨_,_,_,_,_,_,_,rfl,rfl,h⟩:=h
 ·skip
  ·simp only[ae,aI]at h;obtain ⟨⟨⟨e1,h1⟩,hm⟩,h2⟩:=h;subst e1;obtain ⟨g1,g2⟩:=dq h1;have hmg:=S.blt _ (bX.mp hm);have hs:=cC _ [] X.env (cT (b7 a h2));intro pins s σ H Rr I q;obtain ⟨ρ,F,G,e0,he,r,hw⟩:=q;rw[rn]at hw;have q':tL X.K B (aL Φ (.cons a .nil) E) σ H (λvs H1=>∃v F1 G1 d items,vs=[v]/\R X.K H1 F1 G1/\Rep X.K H1 F1 d v/\itemsOf G1 d=some items/\∀J,WalkJ X.K H1 F1 (dG 0 items.1) items.2 J->Rr J H1):=by
    refine cN (W:=λds G1=>∃d items,ds=[d]/\itemsOf G1 d=some items/\∀H' F' J,Ext H F H' F'->R X.K H' F' G1->WalkJ X.K H' F' (dG 0 items.1) items.2 J->Rr J H') e0 he r ?_ λds G1 H1 F1 vs q e1 x1 he1 r1 rvs=>?_
    ·rw[gP];refine aD a (λd G1 q=>?_) hw;rw[iy];split at q
     ·rename_i items hd;exact ⟨d,items,rfl,hd,q⟩
     ·exact q.elim
    ·obtain ⟨d,items,e2,hd,q⟩:=q;subst e2;obtain ⟨v,e3,rv⟩:=bI rvs;exact ⟨v,F1,G1,d,items,e3,r1,rv,hd,λJ w=>q H1 F1 J x1 r1 w⟩
   refine Call_ (fQ I (S.glo _ g1) hmg (u:=.type "enumerate") boot_enumerate (dr (thn (uc ih (λh=>yf h) (c:=c) (es:=[_]) (by unfold aJ;show (aj c a _&&true)=true;rw[h2];rfl) _ pins s σ H _ I q') λus s1 ⟨vs,H1,I1,r1v,q1⟩=>?_) hs rfl) (eG g2) (cO g2));obtain ⟨v,F1,G1,d,items,e1,r1,rd,hd,q1⟩:=q1;subst e1;obtain ⟨u,rfl,ru⟩:=vals1 r1v;obtain ⟨kk,src⟩:=uh rd ru hd;obtain ⟨vs,sat,_⟩:=src.sat H1 F1 G1 (Ext.refl _ _) r1 (um hd);obtain ⟨its,on⟩:=uo I1 sat;rw[<-src.val];refine aay on λh' hen hit hsz hk=>?_;refine wpAny_pyIter_enum hen ?_;have n1:H1 s1.heap.objs.size=none:=I1.hok.fresh (aw _);have n2:H1 (s1.heap.objs.size+1)=none:=I1.hok.fresh (Nat.le_succ _);refine ⟨s1.heap.objs.size+1,[s1.heap.objs.size+1,s1.heap.objs.size],_,_,H1,rfl,I1.kept (t':=s1.toks) hk,aao kk _ _ (Nat.succ_ne_self _),⟨⟨_,hen⟩,hit⟩,λb hb=>?_,q1 _ (abD src)⟩;have hb':b=s1.heap.objs.size+1\/b=s1.heap.objs.size:=by simpa using hb
   rcases hb' with rfl |rfl
   ·exact I1.fpOk (Nat.le_succ _) n2
   ·exact I1.fpOk (aw _) n1
theorem zap(n:Nat):ZApart (n+4) (n+2) (n+3) n (n+1):=
 ⟨(by omega:(n+2:Nat)≠n+4),(by omega:(n+3:Nat)≠n+4),(by omega:(n:Nat)≠n+4),(by omega:(n+1:Nat)≠n+4),(by omega:(n+2:Nat)≠n+3),(by omega:(n+2:Nat)≠n),(by omega:(n+2:Nat)≠n+1),(by omega:(n+3:Nat)≠n),(by omega:(n+3:Nat)≠n+1),(by omega:(n:Nat)≠n+1)⟩
theorem abM(S:Stat Φ CX k c E B X){a b:Ex}(iha:OkE Φ c E B X a)(ihb:OkE Φ c E B X b){tg e:Expr}(h:aZ c (.zip a b) tg e=true):PI X tg e (tI X.K B (wpI Φ (.zip a b) E)):=by
 replace h:=GJ h;obtain ⟨_,_,_,_,_,v,v',pos,rfl,rfl,h⟩:=h
 ·skip
  ·simp only[ae,aI]at h;obtain ⟨⟨⟨⟨e1,h1⟩,hm⟩,h2⟩,h3⟩:=h;subst e1;obtain ⟨g1,g2⟩:=dq h1;have hmg:=S.blt _ (bX.mp hm);have hs2:=cC v' [] X.env (cT (b7 b h3));have hs:=cC v [v'] X.env (cT (b7 a h2));intro pins s σ H Rr I q;obtain ⟨ρ,F,G,e0,he,r,hw⟩:=q;rw[rz]at hw;have hA:aJ c (.cons a (.cons b .nil)) [v,v']=true:=by
    unfold aJ aJ aJ;show (aj c a v&&(aj c b v'&&true))=true;rw[h2,h3];rfl
   have q':tL X.K B (aL Φ (.cons a (.cons b .nil)) E) σ H (λvs H1=>∃v v' F1 G1 d d' items items',vs=[v,v']/\R X.K H1 F1 G1/\Rep X.K H1 F1 d v/\Rep X.K H1 F1 d' v'/\itemsOf G1 d=some items/\itemsOf G1 d'=some items'/\∀J,WalkJ X.K H1 F1 (cg items.1 items'.1) (items.2++items'.2) J->Rr J H1):=by
    refine cN (W:=λds G1=>∃d d' items items',ds=[d,d']/\itemsOf G1 d=some items/\itemsOf G1 d'=some items'/\∀H' F' J,Ext H F H' F'->R X.K H' F' G1->WalkJ X.K H' F' (cg items.1 items'.1) (items.2++items'.2) J->Rr J H') e0 he r ?_ λds G1 H1 F1 vs q e1 x1 he1 r1 rvs=>?_
    ·rw[gP];refine aD a (λd G1 q=>?_) hw;rw[gP];refine aD b (λd' G2 q=>?_) q;rw[iy];split at q
     ·rename_i items items' hd hd';exact ⟨d,d',items,items',rfl,hd,hd',q⟩
     ·exact q.elim
    ·obtain ⟨d,d',items,items',e2,hd,hd',q⟩:=q;subst e2;obtain ⟨w1,r2,e3,rw1,t2⟩:=rvs;obtain ⟨w2,e4,rw2⟩:=bI t2;subst e4;exact ⟨w1,w2,F1,G1,d,d',items,items',e3,r1,rw1,rw2,hd,hd',λJ w=>q H1 F1 J x1 r1 w⟩
   refine Call_ (fQ I (S.glo _ g1) hmg (u:=.type "zip") Yc (dr (thn (uc iha (λh=>uc ihb (λh=>yf h) h) (c:=c) (es:=[v,v']) hA _ pins s σ H _ I q') λus s1 ⟨vs,H1,I1,r1v,q1⟩=>?_) hs (by rw[hs2];rfl)) (eG g2) (cO g2));obtain ⟨w1,w2,F1,G1,d,d',items,items',e1,r1,rd,rd',hd,hd',q1⟩:=q1;subst e1;obtain ⟨u,u',rfl,ru,ru'⟩:=vals2 r1v;obtain ⟨kk,src⟩:=uh rd ru hd;obtain ⟨ll,src'⟩:=uh rd' ru' hd';obtain ⟨vs,sat,_⟩:=src.sat H1 F1 G1 (Ext.refl _ _) r1 (um hd);obtain ⟨ws,sat',_⟩:=src'.sat H1 F1 G1 (Ext.refl _ _) r1 (um hd');obtain ⟨its,on⟩:=uo I1 sat;obtain ⟨its',on'⟩:=uo I1 sat';rw[<-src.val,<-src'.val];refine aaw on on' λh' hz hTI hTO p1 p2 hsz hk=>?_;refine wpAny_pyIter_zip hz ?_;have fr:∀j,H1 (s1.heap.objs.size+j)=none:=λj=>I1.hok.fresh (dE _ _);refine ⟨s1.heap.objs.size+4,[s1.heap.objs.size+4,s1.heap.objs.size+2,s1.heap.objs.size+3,s1.heap.objs.size,s1.heap.objs.size+1],_,_,H1,rfl,I1.kept (t':=s1.toks) hk,
    aat kk ll (s1.heap.objs.size+4) (s1.heap.objs.size+2) (s1.heap.objs.size+3) s1.heap.objs.size (s1.heap.objs.size+1) (zap s1.heap.objs.size),⟨hz,hTI,⟨_,_,hTO⟩,p1,p2⟩,λb hb=>?_,q1 _ (abE src src')⟩
   have hb':b=s1.heap.objs.size+4\/b=s1.heap.objs.size+2\/b=s1.heap.objs.size+3\/b=s1.heap.objs.size\/b=s1.heap.objs.size+1:=by simpa using hb
   rcases hb' with rfl |rfl |rfl |rfl |rfl
   ·exact I1.fpOk (dE _ _) (fr 4)
   ·exact I1.fpOk (dE _ _) (fr 2)
   ·exact I1.fpOk (dE _ _) (fr 3)
   ·exact I1.fpOk (aw _) (fr 0)
   ·exact I1.fpOk (dE _ _) (fr 1)
end
section
variable {Φ:aa} {CX:CXT} {k:Nat} {c:CT} {E:EK} {B:Bs} {X:Cx}
theorem ym:∀{l:List Str},cX l=true->l.Nodup
 |[],_=>List.nodup_nil
 |x::r,h=>by
  unfold cX at h;rw[ae]at h;refine List.nodup_cons.mpr ⟨λhm=>?_,ym h.2⟩;have:=h.1;rw[bX.mpr hm]at this;cases this
theorem jD{N:List Str}{scope:Scope}:∀{N':List Str}{cap:List (Option Nat)},X.N=N->d9 N scope N' cap=true->Caps X scope N' cap
 |[],[],_,_=>trivial
 |_::N',none::cap,e,h=>jD (N':=N') (cap:=cap) e h
 |x::N',some j::cap,e,h=>by
  unfold d9 at h;simp only[ae,aI]at h;exact ⟨⟨by rw[e];exact h.1.1,h.1.2⟩,jD (N':=N') (cap:=cap) e h.2⟩
 |[],_::_,_,h=>by cases h
 |_::_,[],_,h=>by cases h
theorem lE{scope:Scope}{env:Env}(x:Str):(relabel scope env).names.lookup x=(scope.names.lookup x).map λkk=>if (kk==NameKind.free&&env.scope.kind==.function&&env.kindOf x==some .cell)=true then NameKind.cell else kk:=vM
theorem Stat.comp(S:Stat Φ CX k c E B X){N':List Str}{scope:Scope}(hn:cX N'=true)(cl:List (Str×Addr))(C:Addr)(s₁:Shared)(H₁:Hp)(fp:List Addr)(pn:List (Addr×Obj)):
  Stat Φ CX k (c.comp N' scope) noE B (X.comp N' scope cl C s₁ H₁ fp pn) where
 N:=rfl
 nd:=ym hn
 calm:=S.calm
 own:=PassesOwn.never
 kd:=rfl
 vis:=λx h=>by
  have h:iG (scope.names.lookup x)=true:=h;show (relabel scope X.env).names.lookup x=_\/(relabel scope X.env).names.lookup x=_\/(relabel scope X.env).names.lookup x=_;rw[lE];cases e:scope.names.lookup x with
  |none=>rw[e]at h;cases h
  |some kk=>
   rw[e]at h;cases kk with
   | «local»=>exact .inl (by simp[show (NameKind.«local»==NameKind.free)=false by decide])
   |cell=>exact .inr (.inl (by simp[show (NameKind.cell==NameKind.free)=false by decide]))
   |free=>
    by_cases q:(NameKind.free==NameKind.free&&X.env.scope.kind==ScopeKind.function&&X.env.kindOf x==some NameKind.cell)=true
    ·exact .inr (.inl (by simp only[Option.map_some,if_pos q]))
    ·exact .inr (.inr (by simp only[Option.map_some,if_neg q]))
   |globalExplicit=>cases h
   |globalImplicit=>cases h
 cel:=λx h=>by
  have h:scope.names.lookup x=some .cell\/scope.names.lookup x=some .free:=h;show (relabel scope X.env).names.lookup x=_\/(relabel scope X.env).names.lookup x=_;rw[lE];rcases h with h |h
  ·exact .inl (by rw[h];simp[show (NameKind.cell==NameKind.free)=false by decide])
  ·rw[h];by_cases q:(NameKind.free==NameKind.free&&X.env.scope.kind==ScopeKind.function&&X.env.kindOf x==some NameKind.cell)=true
   ·exact .inl (by simp only[Option.map_some,if_pos q])
   ·exact .inr (by simp only[Option.map_some,if_neg q])
 glo:=λx h=>by
  have h:scope.names.lookup x=some .globalImplicit:=h;show (relabel scope X.env).names.lookup x=_;rw[lE,h];simp[show (NameKind.globalImplicit==NameKind.free)=false by decide]
 sto:=λx h=>by
  have h:(scope.names.lookup x==some .local||(false&&scope.names.lookup x==some .cell))=true:=h;rw[Bool.false_and,Bool.or_false,aI]at h;have e:(relabel scope X.env).names.lookup x=some .local:=by rw[lE,h];simp[show (NameKind.«local»==NameKind.free)=false by decide]
  exact ⟨.inl e,.inr e⟩
 room:=S.room
 call:=S.call
 blt:=S.blt
 con:=S.con
 exc:=⟨_,S.nox _,λ_ _ _ _ _ _ _ _ _ _ q=>q.elim,λx G' H' F' h=>h.elim⟩
 nox:=S.nox
 xcl:=λC h=>nomatch (show false=true from h)
 loc:=λx h=>by show (relabel scope X.env).names.lookup x=_;rw[lE,show scope.names.lookup x=some .local from h];simp[show (NameKind.«local»==NameKind.free)=false by decide]
 xis:=λC h=>nomatch (show false=true from h)
 mth:=S.mth
 mko:=S.mko
 fld:=S.fld
 trc:=λh=>absurd rfl h
theorem abN(S:Stat Φ CX k c E B X){t:Tx}(ih:OkT Φ c E B X t){ifs:List Expr}(h:lw c t ifs=true):PIf X ifs (tB' X.K B (wpT Φ t E)):=by
 unfold lw at h;rw[cq]at h;rcases h with h |h
 ·rw[ae,ek]at h;obtain ⟨hy,rfl⟩:=h;cases t with
  |yes=>
   intro pins s σ H Q I q;refine XF pins s σ H Q I ?_;obtain ⟨ρ,F,G,e0,he,r,hw⟩:=q;rw[qT]at hw;exact hw.now r
  |_=>cases hy
 ·obtain ⟨e,he,h⟩:=aY h;rw[eE he];exact XH (ih h)
theorem Hk(S:Stat Φ CX k c E B X){fz:Bool}{elt:Ex}{tg:Tg}{it:It'}{cond:Tx}{N':List Str}{cap:List (Option Nat)}{scope:Scope}{elt' tg':Expr}{ifs:List Expr}(hn:cX N'=true)
  (ihe:∀{X':Cx},Stat Φ CX k (c.comp N' scope) noE B X'->OkE Φ (c.comp N' scope) noE B X' elt) (iht:∀{X':Cx},Stat Φ CX k (c.comp N' scope) noE B X'->OkT Φ (c.comp N' scope) noE B X' cond)
  (hg:bB (c.comp N' scope) tg tg'=true) (hi:lw (c.comp N' scope) cond ifs=true) (he:aj (c.comp N' scope) elt elt'=true)
  {σ:L2.St} {H:Hp} {Q:VK} {ρ:ak} {F:FZ} {G:DH} (e0:Ext B.H B.F H F) (henv:EnvR X.K H F ρ σ) (r:R X.K H F G)
  (hw:wpI Φ it E ρ G λitems g G1=>
   compLoop (λd ρ' G' k'=>aQ tg d ρ' G' λρ1=>wpT Φ cond noE ρ1 G' λb G2=>match b with |true=>wpE Φ elt noE ρ1 G2 λy G3=>k' (some y) ρ1 G3 |false=>k' none ρ1 G2)
    g items [] (cap.map λo=>match o with |none=>none |some j=>(ρ[j]?).join) G1 λds G2=>mk fz ds G2 (PV X.K H F Q)):
  tI X.K B (wpI Φ it E) σ H (λJ H1=>vV true X N' scope tg' (emT ifs elt') J (dD cap σ) H1 Q):=by
 refine ⟨ρ,F,G,e0,henv,r,fu it (λitems g G1 q H1 F1 J x1 r1 W=>?_) hw⟩;let step:D->ak->DH->(Option D->ak->DH->Prop)->Prop:=λd ρ' G' k'=>aQ tg d ρ' G' λρ1=>wpT Φ cond noE ρ1 G' λb G2=>match b with |true=>wpE Φ elt noE ρ1 G2 λy G3=>k' (some y) ρ1 G3 |false=>k' none ρ1 G2
 let fin:List D->DH->Prop:=λds G2=>mk fz ds G2 (PV X.K H F Q)
 refine ⟨λi m ys σ' H'=>m=items.length - i/\i<=items.length/\∃ρ' F' G' acc,Ext B.H B.F H' F'/\Ext H1 F1 H' F'/\EnvR X.K H' F' ρ' σ'/\R X.K H' F' G'/\Reps X.K H' F' acc ys/\compLoop step g (items.drop i) acc ρ' G' fin,
  ⟨items.length,by simp,d3 _,_,F1,G1,[],e0.trans x1,Ext.refl _ _,(henv.ext x1).cap cap,r1,rfl,q⟩,?_⟩
 rintro i m ys σ' H' ⟨rfl,hle,ρ',F',G',acc,eB,e1,he',r',ra,hl⟩;by_cases hlt:i < items.length
 ·have hd:items.drop i=items[i]::items.drop (i+1):=bb hlt;rw[hd]at hl;obtain ⟨hh,hz,hl⟩:=hl;refine .inr ⟨W.go H' F' G' i e1 r' hh hlt,λ_=>by rw[<-ra.length];exact bP hz szl,λcl C s₁ H₁ fp pn=>?_⟩;have S':=S.comp (scope:=scope) hn cl C s₁ H₁ fp pn;refine ⟨_,tmT _ _,iK S' tg hg,λa ha=>Y9 rfl ha (abN S' (iht S') hi) (ihe S' he),λx H2 hy=>?_⟩;obtain ⟨xy,ry,rx⟩:=W.yld H' F' i x H2 items[i] G' e1 r' hh (by simp[hlt]) hy;refine ⟨ρ',F',G',items[i],eB.trans xy,he'.ext xy,ry,rx,di (λρ1 z σ1 hσ1=>?_) tg hl⟩;unfold tmT;refine iJ (eB.trans xy) hσ1 ry z λb G2 H3 F3 z e3 x3 he3 r3=>?_;cases b with
  |true=>
   rw[if_pos rfl];refine aM e3 he3 r3 z λy G4 H4 F4 v z e4 x4 he4 r4 rv=>?_;exact ⟨items.length - (i+1),by omega,rfl,hlt,ρ1,F4,G4,acc++[y],e4,e1.trans (xy.trans (x3.trans x4)),he4,r4,(Reps.ext (xy.trans (x3.trans x4)) ra).append (Reps.cons rv Reps.nil),z⟩
  |false=>
   rw[if_neg a9];exact ⟨items.length - (i+1),by omega,rfl,hlt,ρ1,F3,G2,acc,e3,e1.trans (xy.trans x3),he3,r3,Reps.ext (xy.trans x3) ra,z⟩
 ·have hi':i=items.length:=by omega
  subst hi';rw[eP]at hl;obtain ⟨hh,hz,hl⟩:=hl;refine .inl ⟨W.stop H' F' G' e1 r' hh,by rw[<-ra.length];exact cR hz,λp hp=>?_⟩;exact fB (cW (λd G' z=>PV.later z (x1.trans e1)) hl) r' ra p hp
structure CompC(c:CT)(elt:Ex)(tg:Tg)(it:It')(cond:Tx)(N':List Str)(cap:List (Option Nat))(elt' tg' iter:Expr)(ifs:List Expr)(scope:Scope):Prop where
 it:aZ c it tg' iter=true
 cap:d9 c.N scope N' cap=true
 sc:gf c scope=true
 nd:cX N'=true
 tg:bB (c.comp N' scope) tg tg'=true
 cd:lw (c.comp N' scope) cond ifs=true
 el:aj (c.comp N' scope) elt elt'=true
theorem uq(S:Stat Φ CX k c E B X){scope:Scope}(h:gf c scope=true):scope.names.all (λy=>y.2 != NameKind.cell)=true/\scope.names.all (λy=>y.2 != NameKind.local||scope.names.lookup y.1==some NameKind.local)=true/\
  scope.names.all (λy=>y.2 != NameKind.free||(X.env.kindOf y.1==some NameKind.cell||X.env.kindOf y.1==some NameKind.free))=true/\scope.kind=.function:=by
 unfold gf at h;simp only[ae,cb]at h;obtain ⟨⟨⟨⟨h1,h2⟩,h3⟩,h4⟩,_⟩:=h;refine ⟨h1,h2,?_,h4⟩;rw[ck]at h3 ⊢;intro y hy;have:=h3 y hy;rw[cq,cq,aI,aI]at this;rw[cq,cq,aI,aI];rcases this with q |q
 ·exact .inl q
 ·exact .inr (S.cel y.1 q)
theorem Hl{fz:Bool}{elt:Ex}{tg:Tg}{it:It'}{cond:Tx}{N:List String}{cap:List (Option Nat)}{e:Expr}(h:aj c (.comp fz elt tg it cond N cap) e=true):
  ∃elt' tg' iter ifs scope pos,e=.ListComp elt' [⟨tg',iter,ifs,0⟩] scope pos/\CompC c elt tg it cond (N.map Str.ofString) cap elt' tg' iter ifs scope:=by
 replace h:=Gy h;obtain ⟨_,_,_,_,_,_,_,rfl,h⟩:=h;simp only[ae,cb]at h;obtain ⟨⟨⟨⟨⟨⟨⟨h1,h2⟩,h3⟩,h4⟩,h5⟩,h6⟩,h7⟩,h8⟩:=h;subst h1;exact ⟨_,_,_,_,_,_,rfl,h2,h3,h4,h5,h6,h7,h8⟩
theorem gj{it:It'}{tg' iter:Expr}(h:aZ c it tg' iter=true)(env:Env)(x:Value):foldedSetIterable iter env x=pure x:=by
 cases it with
 |seq y=>exact aaV (b7 y (show aj c y iter=true from h)) env x
 |rng a=>obtain ⟨_,_,_,_,rfl,_⟩:=Gz h;rfl
 |rng2 a b=>obtain ⟨_,_,_,_,_,rfl,_⟩:=GD h;rfl
 |rev a=>obtain ⟨_,_,_,_,_,_,_,rfl,_⟩:=GC h;rfl
 |dwn _ _ _=>exact nomatch (show false=true from h)
 |enm a=>obtain ⟨_,_,_,_,_,_,_,_,rfl,_⟩:=GF h;rfl
 |zip a b=>obtain ⟨_,_,_,_,_,_,_,_,_,rfl,_⟩:=GJ h;rfl
theorem abO(S:Stat Φ CX k c E B X){fz:Bool}{elt:Ex}{tg:Tg}{it:It'}{cond:Tx}{N:List String}{cap:List (Option Nat)}
  (ihe:∀{c':CT}{X':Cx},Stat Φ CX k c' noE B X'->OkE Φ c' noE B X' elt) (iht:∀{c':CT}{X':Cx},Stat Φ CX k c' noE B X'->OkT Φ c' noE B X' cond)
  (ihi:∀{tg' iter:Expr},aZ c it tg' iter=true->PI X tg' iter (tI X.K B (wpI Φ it E))) {e:Expr} (h:aj c (.comp fz elt tg it cond N cap) e=true):
  PE X e (tE X.K B (wpE Φ (.comp fz elt tg it cond N cap) E)):=by
 obtain ⟨elt',tg',iter,ifs,scope,pos,rfl,C⟩:=Hl h;obtain ⟨s1,s2,s3,s4⟩:=uq S C.sc;refine peI (Dz (lim:=true) (N.map Str.ofString) cap S.calm (ihi C.it) (jD S.N C.cap) s1 s2 s3 s4 (gj C.it X.env) (Du _ _ _ _ _ _)) λσ H Q hq=>el hq λρ F G e0 he r hw=>?_;rw[xj]at hw;exact Hk S C.nd (λS'=>ihe S') (λS'=>iht S') C.tg C.cd C.el e0 he r hw
def RelM(K:PF)(B:Bs)(eD:List D->ak->DH->(List D->ak->DH->Prop)->Prop)(tm:TM):Prop:=
 ∀(σ:L2.St)(H:Hp)(ρ:ak)(F:FZ)(G:DH)(acc:List D)(ys:List V)(W:List D->ak->DH->Prop)(Q:List V->L2.St->Hp->Prop),Ext B.H B.F H F->EnvR K H F ρ σ->R K H F G->Reps K H F acc ys->eD acc ρ G W->
  (∀acc' ρ' G' H' F' σ' ys',W acc' ρ' G'->Ext H F H' F'->EnvR K H' F' ρ' σ'->R K H' F' G'->Reps K H' F' acc' ys'->Q ys' σ' H')->tm ys σ H Q
theorem abP{K:PF}{elt:Ex}:RelM K B (λacc ρ G k=>acc.length < sz/\wpE Φ elt noE ρ G λy G'=>k (acc++[y]) ρ G') (tmE (tE K B (wpE Φ elt noE))):=by intro σ H ρ F G acc ys W Q e0 he r ra hw hk;refine ⟨by rw[<-ra.length];exact bP hw.1 szl,aM e0 he r hw.2 λy G1 H1 F1 v q e1 x1 he1 r1 rv=>?_⟩;exact hk _ _ _ H1 F1 _ _ q x1 he1 r1 ((Reps.ext x1 ra).append (Reps.cons rv Reps.nil))
theorem Hm{K:PF}{t:Tg}{eD:List D->ak->DH->(List D->ak->DH->Prop)->Prop}{tm:TM}(hr:RelM K B eD tm){items:List D}{g:Hld}{ρ:ak}{G:DH}{acc:List D}{ys:List V}{σ:L2.St}{H:Hp}{F:FZ}{J:It}{W:List D->ak->DH->Prop}{Q:List V->L2.St->Hp->Prop}
  (e0:Ext B.H B.F H F) (he:EnvR K H F ρ σ) (r:R K H F G) (ra:Reps K H F acc ys) (Wk:WalkJ K H F items g J) (hw:dg (λd acc ρ' G' k=>aQ t d ρ' G' λρ1=>eD acc ρ1 G' k) g items acc ρ G W)
  (hk:∀acc' ρ' G' H' F' σ' ys',W acc' ρ' G'->Ext H F H' F'->EnvR K H' F' ρ' σ'->R K H' F' G'->Reps K H' F' acc' ys'->Q ys' σ' H'):Dv J (tG K B t) tm ys σ H Q:=by
 refine ⟨λi m ys σ' H'=>m=items.length - i/\i<=items.length/\∃ρ' F' G' acc,Ext B.H B.F H' F'/\Ext H F H' F'/\EnvR K H' F' ρ' σ'/\R K H' F' G'/\Reps K H' F' acc ys/\dg (λd acc ρ' G' k=>aQ t d ρ' G' λρ1=>eD acc ρ1 G' k) g (items.drop i) acc ρ' G' W,
  ⟨items.length,by simp,d3 _,ρ,F,G,acc,e0,Ext.refl _ _,he,r,ra,hw⟩,?_⟩
 rintro i m ys σ' H' ⟨rfl,hle,ρ',F',G',acc,eB,e1,he',r',ra,hl⟩;by_cases hlt:i < items.length
 ·have hd:items.drop i=items[i]::items.drop (i+1):=bb hlt;rw[hd]at hl;obtain ⟨hh,hl⟩:=hl;refine .inr ⟨Wk.go H' F' G' i e1 r' hh hlt,λx H2 hy=>?_⟩;obtain ⟨xy,ry,rx⟩:=Wk.yld H' F' i x H2 items[i] G' e1 r' hh (by simp[hlt]) hy;refine ⟨ρ',F',G',items[i],eB.trans xy,he'.ext xy,ry,rx,di (λρ1 z σ1 hσ1=>?_) t hl⟩;refine hr _ _ _ _ _ _ _ _ _ (eB.trans xy) hσ1 ry (Reps.ext xy ra) z λacc' ρ2 G2 H3 F3 σ3 ys3 q x3 he3 r3 ra3=>?_;exact ⟨items.length - (i+1),by omega,rfl,hlt,ρ2,F3,G2,acc',(eB.trans xy).trans x3,e1.trans (xy.trans x3),he3,r3,ra3,q⟩
 ·have hi':i=items.length:=by omega
  subst hi';rw[eP]at hl;exact .inl ⟨Wk.stop H' F' G' e1 r' hl.1,hk _ _ _ _ _ _ _ hl.2 e1 he' r' ra⟩
theorem Hn{K:PF}{t:Tg}{it:It'}{eD:List D->ak->DH->(List D->ak->DH->Prop)->Prop}{tm:TM}(hr:RelM K B eD tm):
  RelM K B (λacc ρ G k=>wpI Φ it noE ρ G λitems g G1=>dg (λd acc ρ' G' k=>aQ t d ρ' G' λρ1=>eD acc ρ1 G' k) g items acc ρ G1 k) (tmG (tI K B (wpI Φ it noE)) (tG K B t) tm):=by
 intro σ H ρ F G acc ys W Q e0 he r ra hw hk;refine ⟨ρ,F,G,e0,he,r,fu it (λitems g G1 q H1 F1 J x1 r1 Wk=>?_) hw⟩;exact Hm hr (e0.trans x1) (he.ext x1) r1 (Reps.ext x1 ra) Wk q λacc' ρ' G' H' F' σ' ys' z x2 he2 r2 ra2=>hk _ _ _ _ _ _ _ z (x1.trans x2) he2 r2 ra2
theorem Ho(S:Stat Φ CX k c E B X){elt:Ex}{t1 t2 t3:Tg}{i1 i2 i3:It'}{N':List Str}{cap:List (Option Nat)}{scope:Scope}{elt' a1 b1 a2 b2 a3 b3:Expr}{pos:Pos}(hn:cX N'=true)
  (ihe:∀{X':Cx},Stat Φ CX k (c.comp N' scope) noE B X'->OkE Φ (c.comp N' scope) noE B X' elt)
  (ih2:∀{X':Cx},Stat Φ CX k (c.comp N' scope) noE B X'->PI X' a2 b2 (tI X'.K B (wpI Φ i2 noE))) (ih3:∀{X':Cx},Stat Φ CX k (c.comp N' scope) noE B X'->PI X' a3 b3 (tI X'.K B (wpI Φ i3 noE)))
  (f2:∀env x,foldedSetIterable b2 env x=pure x) (f3:∀env x,foldedSetIterable b3 env x=pure x)
  (hg1:bB (c.comp N' scope) t1 a1=true) (hg2:bB (c.comp N' scope) t2 a2=true) (hg3:bB (c.comp N' scope) t3 a3=true) (he:aj (c.comp N' scope) elt elt'=true)
  {σ:L2.St} {H:Hp} {Q:VK} {ρ:ak} {F:FZ} {G:DH} (e0:Ext B.H B.F H F) (henv:EnvR X.K H F ρ σ) (r:R X.K H F G)
  (hw:wpE Φ (.cm3 elt t1 i1 t2 i2 t3 i3 N0 cap) E ρ G (PV X.K H F Q)):
  tI X.K B (wpI Φ i1 E) σ H (λJ H1=>vV false X N' scope a1 (emG (.ListComp elt' [⟨a1,b1,[],0⟩,⟨a2,b2,[],0⟩,⟨a3,b3,[],0⟩] scope pos) 1 b2) J (dD cap σ) H1 Q):=by
 rw[xm]at hw;refine ⟨ρ,F,G,e0,henv,r,fu i1 (λitems g G1 q H1 F1 J x1 r1 W=>?_) hw⟩;have rel:=Hn (Φ:=Φ) (K:=X.K) (B:=B) (t:=t2) (it:=i2) (Hn (Φ:=Φ) (t:=t3) (it:=i3) (abP (Φ:=Φ) (elt:=elt)));obtain ⟨WW,⟨m0,w0⟩,turn⟩:=Hm (t:=t1) (Q:=λys _ H'=>ys.length<=sizeLine/\∀D,H' D=none->Q (.ref D) (upd H' D (.lst ys))) rel (e0.trans x1) ((henv.ext x1).cap cap) r1 (Reps.nil) W q λacc' ρ' G' H' F' σ' ys' z x2 he2 r2 ra2=>
  ⟨by rw[<-ra2.length];exact cR z.1,λp hp=>fB (cW (λd G' z=>PV.later z (x1.trans x2)) z.2) r2 ra2 p hp⟩
 refine ⟨WW,⟨m0,w0⟩,λi m ys σ' H' w=>?_⟩;rcases turn i m ys σ' H' w with ⟨st,z1,z2⟩ |⟨go,step⟩
 ·exact .inl ⟨st,z1,z2⟩
 ·refine .inr ⟨go,(λz=>nomatch z),λcl C s₁ H₁ fp pn=>?_⟩;have S':=S.comp (scope:=scope) hn cl C s₁ H₁ fp pn;exact ⟨_,_,iK S' t1 hg1,λa ha=>Dw rfl S'.calm rfl (Y7 _ _ _ _ _ _ _ _ _) (ih2 S') (iK S' t2 hg2) (f2 _) (Dw rfl S'.calm rfl (Y6 _ _ _ _ _ _ _ _ _) (ih3 S') (iK S' t3 hg3) (f3 _) (Dt rfl ha (ihe S' he))),step⟩
theorem abQ(S:Stat Φ CX k c E B X){elt:Ex}{t1 t2 t3:Tg}{i1 i2 i3:It'}{N:List String}{cap:List (Option Nat)}
  (ihe:∀{c':CT}{X':Cx},Stat Φ CX k c' noE B X'->OkE Φ c' noE B X' elt) (ih1:∀{tg' iter:Expr},aZ c i1 tg' iter=true->PI X tg' iter (tI X.K B (wpI Φ i1 E)))
  (ih2:∀{c':CT}{X':Cx},Stat Φ CX k c' noE B X'->∀{tg' iter:Expr},aZ c' i2 tg' iter=true->PI X' tg' iter (tI X'.K B (wpI Φ i2 noE)))
  (ih3:∀{c':CT}{X':Cx},Stat Φ CX k c' noE B X'->∀{tg' iter:Expr},aZ c' i3 tg' iter=true->PI X' tg' iter (tI X'.K B (wpI Φ i3 noE))) {e:Expr} (h:aj c (.cm3 elt t1 i1 t2 i2 t3 i3 N cap) e=true):
  PE X e (tE X.K B (wpE Φ (.cm3 elt t1 i1 t2 i2 t3 i3 N cap) E)):=by
 obtain ⟨elt',a1,b1,a2,b2,a3,b3,scope,pos,rfl,c1,c2,c3,c4,c5,c6,c7,c8,c9,c10⟩:=ye h;obtain ⟨s1,s2,s3,s4⟩:=uq S c3;refine peI (Dz (lim:=false) (N.map Str.ofString) cap S.calm (ih1 c1) (jD S.N c2) s1 s2 s3 s4 (gj c1 X.env) (Dq _ _ _ _ _ _ _ _ _)) λσ H Q hq=>el hq λρ F G e0 he r hw=>?_;exact Ho S c4 (λS'=>ihe S') (λS'=>ih2 S' c6) (λS'=>ih3 S' c8) (gj c6) (gj c8) c5 c7 c9 c10 e0 he r hw
theorem bx{x:Ex}(ih:OkE Φ c E B X x)(hn:∀l os rs pos,aj c x (.Compare l os rs pos)=true->False){e:Expr}(h:bC c (.val x) e=true):PT X e (tB' X.K B (wpT Φ (.val x) E)):=by
 have h:((iH e||lu e)&&aj c x e&&FN x)=true:=h;simp only[ae,cq]at h;obtain ⟨⟨h1,h2⟩,h3⟩:=h;rcases h1 with h1 |h1
 ·exact abv ih h1 h2
 ·obtain ⟨⟨t,ht⟩,_⟩:=cw.mp h1;rw[ht]at h2;exact (hn _ _ _ _ h2).elim
end
mutual
theorem aA{Φ:aa}{CX:CXT}{k:Nat}{B:Bs}:∀(x:Ex){c:CT}{E:EK}{X:Cx},Stat Φ CX k c E B X->OkE Φ c E B X x
 |.var i,c,E,X,S=>by intro h;exact aaZ S h
 |.cst d,c,E,X,S=>by intro h;exact aa0 S h
 |.glb x d,c,E,X,S=>by intro h;exact aa1 S h
 |.bin op fz a b,c,E,X,S=>by intro h;exact aa2 S (aA a S) (aA b S) h
 |.neg a,c,E,X,S=>by intro h;exact aa3 S (aA a S) h
 |.cmp op a b,c,E,X,S=>by intro h;exact (GZ S (aA a S) (aA b S) h).1
 |.chn op op' a b d,c,E,X,S=>by intro h;exact (G8 S (aA a S) (aA b S) (aA d S) h).1
 |.not a,c,E,X,S=>by intro h;exact aa4 S (aA a S) h
 |.boo isAnd e es,c,E,X,S=>by intro h;exact abt (aA e S) (eH es S) h
 |.ife t a b,c,E,X,S=>by intro h;exact abu (gW t S) (aA a S) (aA b S) h
 |.tup es,c,E,X,S=>by intro h;exact aa5 S (EachE.oks (eH es S)) h
 |.lst fz es,c,E,X,S=>by intro h;exact aa6 S (EachE.oks (eH es S)) h
 |.idx a i,c,E,X,S=>by intro h;exact aa7 S (aA a S) (aA i S) h
 |.slc fz a lo hi,c,E,X,S=>by intro h;exact aa8 S (aA a S) (Hr lo S) (Hr hi S) h
 |.rvs fz a s,c,E,X,S=>by intro h;exact aa9 S (aA a S) (aA s S) h
 |.call f es,c,E,X,S=>by intro h;exact abb S (EachE.oks (eH es S)) h
 |.bcl f es,c,E,X,S=>by intro h;exact abd S (EachE.oks (eH es S)) h
 |.lcl fz f es,c,E,X,S=>by intro h;exact abe S (EachE.oks (eH es S)) h
 |.isi a t,c,E,X,S=>by intro h;exact abi S (aA a S) h
 |.isx a C xs,c,E,X,S=>by intro h;exact abj S (aA a S) h
 |.fst es,c,E,X,S=>by intro h;exact abr S (eH es S) h
 |.rgl fz a,c,E,X,S=>by intro h;exact abf S (aA a S) h
 |.rgt a,c,E,X,S=>by intro h;exact abg S (aA a S) h
 |.fld C f o,c,E,X,S=>by intro h;exact abm S (aA o S) h
 |.mcl f C m o es,c,E,X,S=>by intro h;exact abn S (aA o S) (EachE.oks (eH es S)) h
 |.mko C es,c,E,X,S=>by intro h;exact abo S (EachE.oks (eH es S)) h
 |.pp0 o,c,E,X,S=>by intro h;exact abp S (aA o S) h
 |.rpl f a b ix,c,E,X,S=>by intro h;exact abl S (aA a S) (aA b S) (aA ix S) h
 |.mth m o es,c,E,X,S=>by intro h;exact abq S (aA o S) (EachE.oks (eH es S)) h
 |.comp fz elt tg it cond N cap,c,E,X,S=>by intro h;exact abO S (λS'=>aA elt S') (λS'=>gW cond S') (gk it S) h
 |.cm3 elt t1 i1 t2 i2 t3 i3 N cap,c,E,X,S=>by intro h;exact abQ S (λS'=>aA elt S') (gk i1 S) (λS'=>gk i2 S') (λS'=>gk i3 S') h
 |.frz a,c,E,X,S=>by intro h;exact aba S (aA a S) h
theorem eH{Φ:aa}{CX:CXT}{k:Nat}{B:Bs}:∀(x:Exs){c:CT}{E:EK}{X:Cx},Stat Φ CX k c E B X->EachE Φ c E B X x
 |.nil,_,_,_,_=>trivial
 |.cons e es,c,E,X,S=>⟨aA e S,eH es S⟩
theorem gW{Φ:aa}{CX:CXT}{k:Nat}{B:Bs}:∀(x:Tx){c:CT}{E:EK}{X:Cx},Stat Φ CX k c E B X->OkT Φ c E B X x
 |.not t,c,E,X,S=>by intro h;exact abw (gW t S) h
 |.boo isAnd t ts,c,E,X,S=>by intro h;exact abx (gW t S) (Hq ts S) h
 |.yes,c,E,X,S=>by intro h;exact nomatch (show false=true from h)
 |.val (.cmp op a b),c,E,X,S=>by
  intro h;have h:((iH _||lu _)&&aj c (.cmp op a b) _&&true)=true:=h;simp only[ae]at h;exact (GZ S (aA a S) (aA b S) h.1.2).2
 |.val (.chn op op' a b d),c,E,X,S=>by
  intro h;have h:((iH _||lu _)&&aj c (.chn op op' a b d) _&&true)=true:=h;simp only[ae]at h;exact (G8 S (aA a S) (aA b S) (aA d S) h.1.2).2
 |.val (.frz a),c,E,X,S=>by
  intro h;have h:((iH _||lu _)&&aj c (.frz a) _&&false)=true:=h;rw[Bool.and_false]at h;cases h
 |.val (.var i),c,E,X,S=>by intro h;exact bx (aA (.var i) S) (λ_ _ _ _ h=>nomatch (show false=true from h)) h
 |.val (.cst d),c,E,X,S=>by intro h;exact bx (aA (.cst d) S) (λ_ _ _ _ h=>nomatch (show false=true from h)) h
 |.val (.glb x d),c,E,X,S=>by intro h;exact bx (aA (.glb x d) S) (λ_ _ _ _ h=>nomatch (show false=true from h)) h
 |.val (.bin op fz a b),c,E,X,S=>by intro h;exact bx (aA (.bin op fz a b) S) (λ_ _ _ _ h=>nomatch (show false=true from h)) h
 |.val (.neg a),c,E,X,S=>by intro h;exact bx (aA (.neg a) S) (λ_ _ _ _ h=>nomatch (show false=true from h)) h
 |.val (.not a),c,E,X,S=>by intro h;exact bx (aA (.not a) S) (λ_ _ _ _ h=>nomatch (show false=true from h)) h
 |.val (.boo isAnd e es),c,E,X,S=>by intro h;exact bx (aA (.boo isAnd e es) S) (λ_ _ _ _ h=>nomatch (show false=true from h)) h
 |.val (.ife t a b),c,E,X,S=>by intro h;exact bx (aA (.ife t a b) S) (λ_ _ _ _ h=>nomatch (show false=true from h)) h
 |.val (.tup es),c,E,X,S=>by intro h;exact bx (aA (.tup es) S) (λ_ _ _ _ h=>nomatch (show false=true from h)) h
 |.val (.lst fz es),c,E,X,S=>by intro h;exact bx (aA (.lst fz es) S) (λ_ _ _ _ h=>nomatch (show false=true from h)) h
 |.val (.idx a i),c,E,X,S=>by intro h;exact bx (aA (.idx a i) S) (λ_ _ _ _ h=>nomatch (show false=true from h)) h
 |.val (.slc fz a lo hi),c,E,X,S=>by intro h;exact bx (aA (.slc fz a lo hi) S) (λ_ _ _ _ h=>nomatch (show false=true from h)) h
 |.val (.rvs fz a s),c,E,X,S=>by intro h;exact bx (aA (.rvs fz a s) S) (λ_ _ _ _ h=>nomatch (show false=true from h)) h
 |.val (.call f es),c,E,X,S=>by intro h;exact bx (aA (.call f es) S) (λ_ _ _ _ h=>nomatch (show false=true from h)) h
 |.val (.bcl f es),c,E,X,S=>by intro h;exact bx (aA (.bcl f es) S) (λ_ _ _ _ h=>nomatch (show false=true from h)) h
 |.val (.lcl fz f es),c,E,X,S=>by intro h;exact bx (aA (.lcl fz f es) S) (λ_ _ _ _ h=>nomatch (show false=true from h)) h
 |.val (.isx a C xs),c,E,X,S=>by intro h;exact bx (aA (.isx a C xs) S) (λ_ _ _ _ h=>nomatch (show false=true from h)) h
 |.val (.rgl fz a),c,E,X,S=>by intro h;exact bx (aA (.rgl fz a) S) (λ_ _ _ _ h=>nomatch (show false=true from h)) h
 |.val (.rpl f a b ix),c,E,X,S=>by intro h;exact bx (aA (.rpl f a b ix) S) (λ_ _ _ _ h=>nomatch (show false=true from h)) h
 |.val (.fld C f o),c,E,X,S=>by intro h;exact bx (aA (.fld C f o) S) (λ_ _ _ _ h=>nomatch (show false=true from h)) h
 |.val (.mcl f C m o es),c,E,X,S=>by intro h;exact bx (aA (.mcl f C m o es) S) (λ_ _ _ _ h=>nomatch (show false=true from h)) h
 |.val (.mko C es),c,E,X,S=>by intro h;exact bx (aA (.mko C es) S) (λ_ _ _ _ h=>nomatch (show false=true from h)) h
 |.val (.pp0 o),c,E,X,S=>by intro h;exact bx (aA (.pp0 o) S) (λ_ _ _ _ h=>nomatch (show false=true from h)) h
 |.val (.rgt a),c,E,X,S=>by intro h;exact bx (aA (.rgt a) S) (λ_ _ _ _ h=>nomatch (show false=true from h)) h
 |.val (.fst es),c,E,X,S=>by intro h;exact bx (aA (.fst es) S) (λ_ _ _ _ h=>nomatch (show false=true from h)) h
 |.val (.isi a t),c,E,X,S=>by intro h;exact bx (aA (.isi a t) S) (λ_ _ _ _ h=>nomatch (show false=true from h)) h
 |.val (.mth m o es),c,E,X,S=>by intro h;exact bx (aA (.mth m o es) S) (λ_ _ _ _ h=>nomatch (show false=true from h)) h
 |.val (.comp fz elt tg it cond N cap),c,E,X,S=>by intro h;exact bx (aA (.comp fz elt tg it cond N cap) S) (λ_ _ _ _ h=>nomatch (show false=true from h)) h
 |.val (.cm3 elt t1 i1 t2 i2 t3 i3 N cap),c,E,X,S=>by intro h;exact bx (aA (.cm3 elt t1 i1 t2 i2 t3 i3 N cap) S) (λ_ _ _ _ h=>nomatch (show false=true from h)) h
theorem Hq{Φ:aa}{CX:CXT}{k:Nat}{B:Bs}:∀(x:Txs){c:CT}{E:EK}{X:Cx},Stat Φ CX k c E B X->ue Φ c E B X x
 |.nil,_,_,_,_=>trivial
 |.cons e es,c,E,X,S=>⟨gW e S,Hq es S⟩
theorem Hr{Φ:aa}{CX:CXT}{k:Nat}{B:Bs}:∀(x:Ox){c:CT}{E:EK}{X:Cx},Stat Φ CX k c E B X->∀y,x=.ob y->OkE Φ c E B X y
 |.no,c,E,X,S,y,e=>by cases e
 |.ob z,c,E,X,S,y,e=>by injection e with e;subst e;exact aA z S
theorem gk{Φ:aa}{CX:CXT}{k:Nat}{B:Bs}:∀(x:It'){c:CT}{E:EK}{X:Cx},Stat Φ CX k c E B X->∀{tg e:Expr},aZ c x tg e=true->PI X tg e (tI X.K B (wpI Φ x E))
 |.seq y,c,E,X,S,tg,e,h=>abF (aA y S) (show aj c y e=true from h)
 |.rng a,c,E,X,S,tg,e,h=>abG S (aA a S) h
 |.rng2 a b,c,E,X,S,tg,e,h=>abK S (aA a S) (aA b S) h
 |.rev a,c,E,X,S,tg,e,h=>abI S (aA a S) h
 |.dwn a b d,c,E,X,S,tg,e,h=>abJ S (aA a S) (aA b S) (aA d S) h
 |.enm a,c,E,X,S,tg,e,h=>abL S (aA a S) h
 |.zip a b,c,E,X,S,tg,e,h=>abM S (aA a S) (aA b S) h
end
def EnD(K:PF)(H:Hp)(F:FZ)(D:Ends):En where
 nx:=λρ G'=>∀H' F' σ',Ext H F H' F'->EnvR K H' F' ρ σ'->R K H' F' G'->D.nx σ' H'
 rt:=PV K H F D.rt
 bk:=λρ G'=>∀H' F' σ',Ext H F H' F'->EnvR K H' F' ρ σ'->R K H' F' G'->D.bk σ' H'
 ct:=λρ G'=>∀H' F' σ',Ext H F H' F'->EnvR K H' F' ρ σ'->R K H' F' G'->D.ct σ' H'
theorem EnD.later{K:PF}{H H1:Hp}{F F1:FZ}{D:Ends}(x:Ext H F H1 F1):(EnD K H F D).Le (EnD K H1 F1 D):=
 ⟨λ_ _ h H' F' σ' x1=>h H' F' σ' (x.trans x1),λ_ _ h=>PV.later h x,λ_ _ h H' F' σ' x1=>h H' F' σ' (x.trans x1),λ_ _ h H' F' σ' x1=>h H' F' σ' (x.trans x1)⟩
def tS(K:PF)(B:Bs)(w:ak->DH->En->Prop):TS:=λD σ H=>∃ρ F G,Ext B.H B.F H F/\EnvR K H F ρ σ/\R K H F G/\w ρ G (EnD K H F D)
theorem psI{X:Cx}{st:Stmt}{t t':TS}(h:PS X st t)(i:∀D σ H,t' D σ H->t D σ H):PS X st t':=λpins s σ H D I q=>h pins s σ H D I (i D σ H q)
theorem Hs{X:Cx}{st:List Stmt}{t t':TS}(h:PSs X st t)(i:∀D σ H,t' D σ H->t D σ H):PSs X st t':=λpins s σ H D I q=>h pins s σ H D I (i D σ H q)
theorem yo{e:Expr}(h:dm e=false)(t:Option Expr)(n:Nat)(env:Env):swapsWith e t n env=pure false:=by cases e <;> first |rfl |exact nomatch (show true=false from h)
theorem Ht{e:Expr}(h:dm e=false)(t:Expr)(n:Nat)(env:Env):swapsWithSole [t] e n env=pure false:=yo h _ _ _
section
variable {Φ:aa} {CX:CXT} {k:Nat} {c:CT} {E:EK} {B:Bs} {X:Cx}
abbrev OkS(Φ:aa)(c:CT)(E:EK)(B:Bs)(X:Cx)(x:Sx):Prop:=∀{st:Stmt},bw c x st=true->PS X st (tS X.K B (wpS Φ x E))
abbrev jE(Φ:aa)(c:CT)(E:EK)(B:Bs)(X:Cx)(x:Sxs):Prop:=∀{st:List Stmt},aC c x st=true->PSs X st (tS X.K B (au Φ x E))
theorem abR(S:Stat Φ CX k c E B X){x:Ex}{st:Stmt}(h:bw c (.exp x) st=true):PS X st (tS X.K B (wpS Φ (.exp x) E)):=by
 replace h:=aaJ h;obtain ⟨_,_,rfl,h⟩:=h
 ·rw[ae]at h;refine psI (Vp (aA x S h.2) (yo (by simpa using h.1) _ _ _)) λD σ H hq=>el hq λρ F G e0 he r hw=>?_;rw[rW]at hw;exact aM e0 he r hw λd G1 H1 F1 v q e1 x1 he1 r1 rv=>q _ _ _ x1 he1 r1
theorem abS(S:Stat Φ CX k c E B X){i:Nat}{x:Ex}{st:Stmt}(h:bw c (.asg (.nm i) x) st=true):PS X st (tS X.K B (wpS Φ (.asg (.nm i) x) E)):=by
 replace h:=GK h;obtain ⟨tg,e,pos,rfl,h⟩:=h
 ·simp only[ae]at h;obtain ⟨⟨h1,h2⟩,h3⟩:=h;have h3:(!dm e||FP x)=true:=h3;replace h1:=yc h1;obtain ⟨y,py,rfl,h1⟩:=h1
  ·rw[ae,aI]at h1;obtain ⟨l,f⟩:=S.sto y h1.2;have hi:X.N[i]?=some y:=by rw[S.N];exact h1.1
   have go:∀(D:Ends)(σ:L2.St)(H:Hp),tS X.K B (wpS Φ (.asg (.nm i) x) E) D σ H->qt (tE X.K B (wpE Φ x E)) (qp i) D σ H:=λD σ H hq=>el hq λρ F G e0 he r hw=>by
    rw[gQ]at hw;refine aM e0 he r hw λd G1 H1 F1 v q e1 x1 he1 r1 rv=>?_;unfold aQ at q;exact q _ _ _ x1 (he1.set rv i) r1
   cases hc:dm e with
   |false=>exact psI (vD S.nd hi l (aA x S h2) (yo hc _ _ _) f) go
   |true=>
    rw[hc,Bool.not_true,Bool.false_or]at h3;cases x with
    |comp fz elt tg it cond N cap=>
     obtain ⟨elt',tg',iter,ifs,scope,pos',rfl,C⟩:=Hl h2;obtain ⟨s1,s2,s3,s4⟩:=uq S C.sc;have hb:∃b:Bool,swapsWith (.ListComp elt' [⟨tg',iter,ifs,0⟩] scope pos') (some (.Name y py)) pos.line X.env=pure b:=⟨_,rfl⟩;obtain ⟨b,hb⟩:=hb;cases b with
     |false=>exact psI (vD S.nd hi l (aA _ S h2) hb f) go
     |true=>
      refine psI (DG (lim:=true) (Du _ _ _ _ _ _) S.nd hi l (N.map Str.ofString) cap S.calm (gk it S C.it) (jD S.N C.cap) s1 s2 s3 s4 (gj C.it X.env) hb f) λD σ H hq=>el hq λρ F G e0 he r hw=>?_;rw[gQ]at hw;rw[xj]at hw;refine Hk (fz:=fz) (Q:=λv H1=>D.nx (σ.set i (some v)) H1) S C.nd (λS'=>aA elt S') (λS'=>gW cond S') C.tg C.cd C.el e0 he r (fu it (λitems g G1 q=>?_) hw);refine sU (λd ρ' G' k1 k2 hk z=>di (λρ1 z=>cQ cond (λb G2 z=>by
       cases b with
       |true=>exact aD elt (λy G3 z=>hk _ _ _ z) z
       |false=>exact hk _ _ _ z) z) tg z) ?_ _ _ _ _ q
      ·intro ds G2 q;refine cW (λd G3 q=>?_) q;intro H1 F1 v x1 r1 rv;unfold aQ at q;exact q _ _ _ x1 ((he.ext x1).set rv i) r1
    |cm3 elt t1 i1 t2 i2 t3 i3 N cap=>
     obtain ⟨elt',a1,b1,a2,b2,a3,b3,scope,pos',rfl,c1,c2,c3,c4,c5,c6,c7,c8,c9,c10⟩:=ye h2;obtain ⟨s1,s2,s3,s4⟩:=uq S c3;have hb:∃b:Bool,swapsWith (.ListComp elt' [⟨a1,b1,[],0⟩,⟨a2,b2,[],0⟩,⟨a3,b3,[],0⟩] scope pos') (some (.Name y py)) pos.line X.env=pure b:=⟨_,rfl⟩;obtain ⟨b,hb⟩:=hb;cases b with
     |false=>exact psI (vD S.nd hi l (aA _ S h2) hb f) go
     |true=>
      refine psI (DG (lim:=false) (Dq _ _ _ _ _ _ _ _ _) S.nd hi l (N.map Str.ofString) cap S.calm (gk i1 S c1) (jD S.N c2) s1 s2 s3 s4 (gj c1 X.env) hb f) λD σ H hq=>el hq λρ F G e0 he r hw=>?_;rw[gQ]at hw;refine Ho (Q:=λv H1=>D.nx (σ.set i (some v)) H1) S c4 (λS'=>aA elt S') (λS'=>gk i2 S' c6) (λS'=>gk i3 S' c8) (gj c6) (gj c8) c5 c7 c9 c10 e0 he r (aD _ (λd G3 q=>?_) hw);intro H1 F1 v x1 r1 rv;unfold aQ at q;exact q _ _ _ x1 ((he.ext x1).set rv i) r1
    |_=>cases h3
theorem abT(S:Stat Φ CX k c E B X){ts:Tgs}{x:Ex}{st:Stmt}(h:bw c (.asg (.tp ts) x) st=true):PS X st (tS X.K B (wpS Φ (.asg (.tp ts) x) E)):=by
 replace h:=GK h;obtain ⟨tg,e,pos,rfl,h⟩:=h
 ·rw[ae,ae]at h;have h34:(!FQ e&&!dm e)=true:=h.2;obtain ⟨h1,h2⟩:=h.1;rw[ae,gg,gg]at h34;obtain ⟨h3,h4⟩:=h34;have hg:=iK S (.tp ts) h1;replace h1:=yd h1;obtain ⟨_,_,_,rfl,h1⟩:=h1
  ·refine psI (Bq (aA x S h2) hg (Ht h4 _ _ _) ?_ rfl) λD σ H hq=>el hq λρ F G e0 he r hw=>?_
   ·cases e <;> first |rfl |exact nomatch (show true=false from h3)
   ·rw[gQ]at hw;refine aM e0 he r hw λd G1 H1 F1 v q e1 x1 he1 r1 rv=>?_;exact ⟨ρ,F1,G1,d,e1,he1,r1,rv,di (λρ' z σ' hσ=>z H1 F1 σ' x1 hσ r1) (.tp ts) q⟩
theorem abU(S:Stat Φ CX k c E B X){o i x:Ex}{st:Stmt}(h:bw c (.set o i x) st=true):PS X st (tS X.K B (wpS Φ (.set o i x) E)):=by
 replace h:=aaK h;obtain ⟨o',i',tpos,e,pos,rfl,h⟩:=h
 ·simp only[ae,gg]at h;obtain ⟨⟨⟨h1,h2⟩,h3⟩,h4⟩:=h;have hi:=b7 i h2;refine psI (Bq (aA x S h3) (VJ (aA o S h1) (aA i S h2) aaj ?_) (Ht h4 _ _ _) ?_ rfl) λD σ H hq=>el hq λρ F G e0 he r hw=>?_
  ·intro v;cases i' <;> first |rfl |exact nomatch (show false=true from hi)
  ·cases e <;> rfl
  ·rw[rY]at hw;refine aM e0 he r hw λd G1 H1 F1 v q e1 x1 he1 r1 rv=>?_;refine aM e1 he1 r1 q λa G2 H2 F2 w q e2 x2 he2 r2 rw'=>?_;refine aM e2 he2 r2 q λy G3 H3 F3 u q e3 x3 he3 r3 ru=>?_;refine ⟨F3,G3,a,y,d,r3,rw'.ext x3,ru,rv.ext (x2.trans x3),xn (λG4 q=>?_) q⟩;intro H4 F4 x4 r4;exact q _ _ _ (x1.trans (x2.trans (x3.trans x4))) (he3.ext x4) r4
theorem abV(S:Stat Φ CX k c E B X){i:Nat}{op:Operator}{x:Ex}{st:Stmt}(h:bw c (.aug i op x) st=true):PS X st (tS X.K B (wpS Φ (.aug i op x) E)):=by
 replace h:=aaL h;obtain ⟨y,py,o,e,pos,rfl,h⟩:=h
 ·simp only[ae,aI]at h;obtain ⟨⟨⟨⟨rfl,h1⟩,h2⟩,h3⟩,h4⟩:=h;obtain ⟨l,f⟩:=S.sto y h2;refine psI (VM S.nd (by rw[S.N];exact h1) l (aA x S h4) (aak o) f) λD σ H hq=>el hq λρ F G e0 he r hw=>?_;rw[rZ]at hw;split at hw
  ·rename_i a ha;obtain ⟨v,e1,rv⟩:=he.get ha;refine ⟨v,e1,aM e0 he r hw λb G1 H1 F1 u q e1 x1 he1 r1 ru=>?_⟩;refine ⟨F1,G1,a,b,r1,rv.ext x1,ru,xq (λd q=>?_) q⟩;intro H2 F2 w x2 r2 rw';exact q _ _ _ (x1.trans x2) ((he1.ext x2).set rw' i) r2
  ·exact hw.elim
theorem abW(S:Stat Φ CX k c E B X){o i:Ex}{op:Operator}{x:Ex}{st:Stmt}(h:bw c (.augs o i op x) st=true):PS X st (tS X.K B (wpS Φ (.augs o i op x) E)):=nomatch (show false=true from h)
theorem abX(S:Stat Φ CX k c E B X){x:Ex}{st:Stmt}(h:bw c (.ret x) st=true):PS X st (tS X.K B (wpS Φ (.ret x) E)):=by
 replace h:=aaN h;obtain ⟨_,_,rfl,h⟩:=h
 ·refine psI (Vq (aA x S h)) λD σ H hq=>el hq λρ F G e0 he r hw=>?_;rw[sr]at hw;exact ⟨ρ,F,G,e0,he,r,hw⟩
theorem abY{st:Stmt}(h:bw c .rtn st=true):PS X st (tS X.K B (wpS Φ .rtn E)):=by
 replace h:=aaO h;obtain ⟨_,rfl,h⟩:=h
 ·refine psI Vs λD σ H hq=>el hq λρ F G e0 he r hw=>?_;rw[su]at hw;exact hw.now r rfl
theorem abZ(S:Stat Φ CX k c E B X){t:Tx}{a b:Sxs}(iha:jE Φ c E B X a)(ihb:jE Φ c E B X b){st:Stmt}(h:bw c (.ite t a b) st=true):PS X st (tS X.K B (wpS Φ (.ite t a b) E)):=by
 replace h:=aaP h;obtain ⟨_,_,_,_,rfl,h⟩:=h
 ·simp only[ae]at h;obtain ⟨⟨h1,h2⟩,h3⟩:=h;refine psI (Vu (gW t S h1) (iha h2) (ihb h3)) λD σ H hq=>el hq λρ F G e0 he r hw=>?_;rw[sy]at hw;refine iJ e0 he r hw λb' G1 H1 F1 q e1 x1 he1 r1=>?_;cases b' with
  |true=>
   rw[if_pos rfl];exact ⟨ρ,F1,G1,e1,he1,r1,dj a (EnD.later x1) q⟩
  |false=>
   rw[if_neg a9];exact ⟨ρ,F1,G1,e1,he1,r1,dj b (EnD.later x1) q⟩
theorem ab0(S:Stat Φ CX k c E B X){t:Tg}{it:It'}{b:Sxs}(ihb:jE Φ c E B X b){st:Stmt}(h:bw c (.for_ t it b) st=true):PS X st (tS X.K B (wpS Φ (.for_ t it b) E)):=by
 replace h:=aaQ h;obtain ⟨tg,iter,body,pos,rfl,h⟩:=h
 ·simp only[ae]at h;obtain ⟨⟨h1,h2⟩,h3⟩:=h;refine psI (V4 S.own S.calm (gk it S h2) (iK S t h1) (ihb h3) (gj h2 X.env)) λD σ H hq=>el hq λρ F G e0 he r hw=>?_;rw[DY]at hw;refine ⟨ρ,F,G,e0,he,r,fu it (λitems g G1 q H1 F1 J x1 r1 W=>?_) hw⟩;let step:RF.D->ak->DH->(ak->DH->Prop)->Prop:=λd ρ' G' k=>aQ t d ρ' G' λρ1=>au Φ b E ρ1 G' { EnD X.K H F D with nx:=k,ct:=k,bk:=(EnD X.K H F D).nx }
  let P:Nat->L2.St->Hp->Prop:=λi σ' H'=>∃ρ' F' G',Ext B.H B.F H' F'/\Ext H1 F1 H' F'/\EnvR X.K H' F' ρ' σ'/\R X.K H' F' G'/\forLoop step g (items.drop i) ρ' G' (EnD X.K H F D).nx
  refine ⟨λi m σ' H'=>m=items.length - i/\i<=items.length/\P i σ' H',⟨items.length,by simp,d3 _,ρ,F1,G1,e0.trans x1,Ext.refl _ _,he.ext x1,r1,q⟩,?_⟩;rintro i m σ' H' ⟨rfl,hle,ρ',F',G',eB,e1,he',r',hl⟩;by_cases hlt:i < items.length
  ·have hd:items.drop i=items[i]::items.drop (i+1):=bb hlt;rw[hd]at hl;obtain ⟨hh,hl⟩:=hl;refine .inr ⟨W.go H' F' G' i e1 r' hh hlt,P (i+1),λσ2 H2 p=>⟨items.length - (i+1),by omega,rfl,hlt,p⟩,λx H2 hy=>?_⟩;obtain ⟨xy,ry,rx⟩:=W.yld H' F' i x H2 items[i] G' e1 r' hh (by simp[hlt]) hy;refine ⟨ρ',F',G',items[i],eB.trans xy,he'.ext xy,ry,rx,di (λρ1 z σ1 hσ1=>?_) t hl⟩;refine ⟨ρ1,F',G',eB.trans xy,hσ1,ry,dj b (D:={ EnD X.K H F D with nx:=λρ' G'=>forLoop step g (items.drop (i+1)) ρ' G' (EnD X.K H F D).nx,ct:=λρ' G'=>forLoop step g (items.drop (i+1)) ρ' G' (EnD X.K H F D).nx,bk:=(EnD X.K H F D).nx }) ⟨λρ2 G2 z H3 F3 σ3 x3 he3 r3=>?_,λd G2 z=>PV.later z (x1.trans (e1.trans xy)),λρ2 G2 z H3 F3 σ3 x3=>z H3 F3 σ3 (x1.trans (e1.trans (xy.trans x3))),λρ2 G2 z H3 F3 σ3 x3 he3 r3=>?_⟩ z⟩
   ·exact ⟨ρ2,F3,G2,eB.trans (xy.trans x3),e1.trans (xy.trans x3),he3,r3,z⟩
   ·exact ⟨ρ2,F3,G2,eB.trans (xy.trans x3),e1.trans (xy.trans x3),he3,r3,z⟩
  ·have hi':i=items.length:=by omega
   subst hi';rw[eP]at hl;exact .inl ⟨W.stop H' F' G' e1 r' hl.1,hl.2 _ _ _ (x1.trans e1) he' r'⟩
theorem ab1(S:Stat Φ CX k c E B X){t:Tx}{b:Sxs}(ihb:jE Φ c E B X b){st:Stmt}(h:bw c (.whl t b) st=true):PS X st (tS X.K B (wpS Φ (.whl t b) E)):=by
 replace h:=aaR h;obtain ⟨_,_,_,rfl,h⟩:=h
 ·simp only[ae]at h;obtain ⟨h1,h2⟩:=h;refine psI (VP S.own (gW t S h1) (ihb h2)) λD σ H hq=>el hq λρ F G e0 he r hw=>?_;rw[Ea]at hw;obtain ⟨n,hw⟩:=hw;let test:ak->DH->(Bool->DH->Prop)->Prop:=λρ' G' k=>wpT Φ t E ρ' G' k
  let bd:ak->DH->(ak->DH->Prop)->Prop:=λρ' G' k=>au Φ b E ρ' G' { EnD X.K H F D with nx:=k,ct:=k,bk:=(EnD X.K H F D).nx }
  let P:Nat->L2.St->Hp->Prop:=λm σ' H'=>∃ρ' F' G',Ext B.H B.F H' F'/\Ext H F H' F'/\EnvR X.K H' F' ρ' σ'/\R X.K H' F' G'/\whileLoop test bd m ρ' G' (EnD X.K H F D).nx
  refine ⟨P,⟨n,ρ,F,G,e0,Ext.refl _ _,he,r,hw⟩,?_⟩;rintro m σ' H' ⟨ρ',F',G',eB,e1,he',r',hl⟩;cases m with
  |zero=>exact hl.elim
  |succ m=>
   refine iJ eB he' r' hl λb' G1 H1 F1 q e2 x2 he2 r2=>?_;cases b' with
   |true=>
    rw[if_pos rfl];refine ⟨P m,λσ2 H2 p=>⟨m,fw _,p⟩,ρ',F1,G1,e2,he2,r2,dj b (D:={ EnD X.K H F D with nx:=λρ' G'=>whileLoop test bd m ρ' G' (EnD X.K H F D).nx,ct:=λρ' G'=>whileLoop test bd m ρ' G' (EnD X.K H F D).nx,bk:=(EnD X.K H F D).nx }) ⟨λρ2 G2 z H3 F3 σ3 x3 he3 r3=>?_,λd G2 z=>PV.later z (e1.trans x2),λρ2 G2 z H3 F3 σ3 x3=>z H3 F3 σ3 (e1.trans (x2.trans x3)),λρ2 G2 z H3 F3 σ3 x3 he3 r3=>?_⟩ q⟩
    ·exact ⟨ρ2,F3,G2,e2.trans x3,e1.trans (x2.trans x3),he3,r3,z⟩
    ·exact ⟨ρ2,F3,G2,e2.trans x3,e1.trans (x2.trans x3),he3,r3,z⟩
   |false=>
    rw[if_neg a9];exact q _ _ _ (e1.trans x2) he2 r2
def tJ(K:PF)(B:Bs)(w:ak->DH->(DH->Prop)->Prop):TJ:=λσ H Q=>∃ρ F G,Ext B.H B.F H F/\EnvR K H F ρ σ/\R K H F G/\w ρ G λG'=>∀H' F',Ext H F H' F'->R K H' F' G'->Q H'
theorem pjI{X:Cx}{ps:List Expr}{t t':TJ}{n:Nat}(h:PJ X ps t n)(i:∀σ H Q,t' σ H Q->t σ H Q):PJ X ps t' n:=λpins s σ H Q out I hl q=>h pins s σ H Q out I hl (i σ H Q q)
theorem yp{E:EK}{ρ:ak}:∀(es:Exs){G:DH}{k k':DH->Prop},(∀G',k G'->k' G')->wpM Φ es E ρ G k->wpM Φ es E ρ G k'
 |.nil,G,k,k',h,q=>h G q
 |.cons e es,G,k,k',h,q=>by
  rw[sI]at q ⊢;exact aD e (λd G1 q=>⟨q.1,yp es h q.2⟩) q
theorem Hu{p:Expr}(h:xY p=true):∃y k pos,p=.Constant (.str y) k pos/\y.length<=1000:=by obtain ⟨t,ht,h⟩:=aO h;obtain ⟨x,hx,h⟩:=aO h;exact ⟨x,_,_,by rw[ht,hx],dL h⟩
theorem yq(S:Stat Φ CX k c E B X):∀(ps:List Expr){es:Exs},lz c es ps=true->∃n,n<=1000 * ps.length/\PJ X ps (tJ X.K B (wpM Φ es E)) n
 |[],es,h=>by
  cases es with
  |nil=>exact ⟨0,d3 _,pjI Yw λσ H Q hq=>el hq λρ F G e0 he r hw=>hw H F (Ext.refl _ _) r⟩
  |cons _ _=>exact nomatch (show false=true from h)
 |p::ps,es,h=>by
  unfold lz at h;split at h
  ·rename_i hm;obtain ⟨y,kk,pos,rfl,hy⟩:=Hu hm;obtain ⟨n,hn,hp⟩:=yq S ps h;exact ⟨y.length+n,by rw[cf];omega,Yx hp⟩
  ·split at h
   ·rename_i x rr;rw[ae]at h;obtain ⟨t,ht,h1⟩:=aO h.1;rw[ae,ae,fx,cb]at h1;obtain ⟨n,hn,hp⟩:=yq S ps h.2;refine ⟨3+n,by rw[cf];omega,?_⟩;rw[ht,h1.1.1,h1.1.2];refine pjI (Yy (aA x S h1.2) hp) λσ H Q hq=>el hq λρ F G e0 he r hw=>?_;rw[sI]at hw;refine aM e0 he r hw λd G1 H1 F1 v q e1 x1 he1 r1 rv=>?_;obtain ⟨q1,q2⟩:=q;unfold wC at q1;split at q1
    ·rename_i i;rw[ae,cb,cb]at q1;have e2:v=.int i:=rv;refine ⟨⟨i.toNat,by rw[e2];congr 1;omega,by omega⟩,ρ,F1,G1,e1,he1,r1,yp rr (λG' z H' F' x' r'=>z H' F' (x1.trans x') r') q2⟩
    ·cases q1
   ·cases h
theorem ab2(S:Stat Φ CX k c E B X){C:String}{es:Exs}{st:Stmt}(h:bw c (.rse C es) st=true):PS X st (tS X.K B (wpS Φ (.rse C es) E)):=by
 replace h:=aaM h;obtain ⟨x,np,m,cpos,pos,rfl,h⟩:=h;simp only[ae,aI]at h;obtain ⟨⟨⟨e1,h1⟩,h2⟩,h3⟩:=h;subst e1;obtain ⟨g1,g2⟩:=dq h1;obtain ⟨a,hm,hb,hn⟩:=S.xcl C h2;obtain ⟨EX,_,hth,hEX⟩:=S.exc;unfold t8 at h3;rw[cq]at h3;rcases h3 with h3 |h3
 ·cases es with
  |cons _ _=>cases h3
  |nil=>
   obtain ⟨y,kk,p,rfl,hy⟩:=Hu h3;refine psI (Dl S.calm (S.glo _ g1) hm hb hth (fU Bm il rfl) (cO g2) rfl rfl) λD σ H hq=>el hq λρ F G e0 he r hw=>?_;rw[kI,wU]at hw;exact ⟨show 1<=sizeLine by decide,hEX ⟨C,.non⟩ G H F hw e0 r (.ref a) none ⟨a,rfl,hn,trivial⟩⟩
 ·obtain ⟨t,ht,h3⟩:=aO h3;rw[ae,ae,cb,cb]at h3;obtain ⟨n,hn',hp⟩:=yq S t.1 h3.2;rcases hps:t.1 with _ |⟨v1,_ |⟨v2,r⟩⟩
  ·rw[hps]at h3;simp at h3
  ·rw[hps]at h3;simp at h3
  ·rw[hps]at hp;subst ht;rw[hps]at *;refine psI (Dl S.calm (S.glo _ g1) hm hb hth (fU (Yz hp (by omega)) il rfl) (cO g2) rfl rfl) λD σ H hq=>el hq λρ F G e0 he r hw=>?_;rw[kI]at hw;refine ⟨ρ,F,G,e0,he,r,yp es (λG1 q H1 F1 x1 r1 y=>⟨show 1<=sizeLine by decide,?_⟩) hw⟩;exact hEX ⟨C,.non⟩ G1 H1 F1 q (e0.trans x1) r1 (.ref a) none ⟨a,rfl,hn,trivial⟩
theorem ab3(S:Stat Φ CX k c E B X){f:String}{es:Exs}{C:String}{i:Nat}{b:Bool}{st:Stmt}(h:bw c (.tryc f es C i b) st=true):PS X st (tS X.K B (wpS Φ (.tryc f es C i b) E)):=nomatch (show false=true from h)
theorem ab4(S:Stat Φ CX k c E B X){b:Tb}{C:String}{hd:Hd}{xs:List String}{st:Stmt}(h:bw c (.tryx b C hd xs) st=true):PS X st (tS X.K B (wpS Φ (.tryx b C hd xs) E)):=nomatch (show false=true from h)
theorem ab5{st:List Stmt}(h:aC c .nil st=true):PSs X st (tS X.K B (au Φ .nil E)):=by
 unfold aC at h;cases st with
 |nil=>exact Hs Vh λD σ H hq=>el hq λρ F G e0 he r hw=>by rw[ju]at hw;exact hw _ _ _ (Ext.refl _ _) he r
 |cons _ _=>cases h
theorem ab6{x:Sx}{xs:Sxs}(ih:OkS Φ c E B X x)(ihs:jE Φ c E B X xs){st:List Stmt}(h:aC c (.cons x xs) st=true):PSs X st (tS X.K B (au Φ (.cons x xs) E)):=by
 unfold aC at h;split at h
 ·rw[ae]at h;refine Hs (Vi (ih h.1) (ihs h.2)) λD σ H hq=>el hq λρ F G e0 he r hw=>?_;rw[jw]at hw;refine ⟨ρ,F,G,e0,he,r,wpS_mono x (D:={ EnD X.K H F D with nx:=λρ' G'=>au Φ xs E ρ' G' (EnD X.K H F D) }) ⟨λρ1 G1 q H1 F1 σ1 x1 he1 r1=>?_,λ_ _ z=>z,λ_ _ z=>z,λ_ _ z=>z⟩ hw⟩;exact ⟨ρ1,F1,G1,e0.trans x1,he1,r1,dj xs (EnD.later x1) q⟩
 ·cases h
end
mutual
theorem ab7{Φ:aa}{CX:CXT}{k:Nat}{B:Bs}{c:CT}{E:EK}{X:Cx}(S:Stat Φ CX k c E B X):∀(x:Sx),OkS Φ c E B X x
 |.exp e=>by intro h;exact abR S h
 |.asg (.nm i) e=>by intro h;exact abS S h
 |.asg (.tp ts) e=>by intro h;exact abT S h
 |.set o i e=>by intro h;exact abU S h
 |.aug i op e=>by intro h;exact abV S h
 |.augs o i op e=>by intro h;exact abW S h
 |.ret e=>by intro h;exact abX S h
 |.rtn=>by intro h;exact abY h
 |.ite t a b=>by intro h;exact abZ S (jF S a) (jF S b) h
 |.for_ t it b=>by intro h;exact ab0 S (jF S b) h
 |.whl t b=>by intro h;exact ab1 S (jF S b) h
 |.pas=>by
  intro h;obtain ⟨_,rfl,_⟩:=aaS h;exact psI Vl λD σ H hq=>el hq λρ F G e0 he r hw=>by rw[sE]at hw;exact hw _ _ _ (Ext.refl _ _) he r
 |.brk=>by
  intro h;obtain ⟨_,rfl,_⟩:=aaT h;exact psI Vm λD σ H hq=>el hq λρ F G e0 he r hw=>by rw[sG]at hw;exact hw _ _ _ (Ext.refl _ _) he r
 |.cnt=>by
  intro h;obtain ⟨_,rfl,_⟩:=aaU h;exact psI Vn λD σ H hq=>el hq λρ F G e0 he r hw=>by rw[sH]at hw;exact hw _ _ _ (Ext.refl _ _) he r
 |.rse C es=>by intro h;exact ab2 S h
 |.tryc f es C i b=>by intro h;exact ab3 S h
 |.tryx b C h xs=>by intro hh;exact ab4 S hh
 |.nev=>by
  intro h;exact psI Vw λD σ H hq=>el hq λρ F G e0 he r hw=>by rw[sJ]at hw;exact hw.elim
theorem jF{Φ:aa}{CX:CXT}{k:Nat}{B:Bs}{c:CT}{E:EK}{X:Cx}(S:Stat Φ CX k c E B X):∀(x:Sxs),jE Φ c E B X x
 |.nil=>by intro h;exact ab5 h
 |.cons s r=>by intro h;exact ab6 (ab7 S s) (jF S r) h
end
end RF
namespace L2
open PySem PySem.Spec PyProof.Rows
theorem Fun.okX{P:Program}{w:World}{K:PF}{mg:Str->Option Value}{base:Heap}{CX:CXT}{x qual:Str}{st:Stmt}{f:Addr}{fd:FuncData}{N ps:List Str}{k:Nat}{sp:Sp}(F:Fun K x qual st f fd)(S:FnScope N ps (aq st))(len:∀vs H Q E,sp vs H Q E->vs.length=ps.length)
  (hbody:∀(cdv:Value)(A:Around)(outer:List Env)(s:Shared)(H:Hp)(vs:List V)(Q:VK)(E:XK),Room k (A.deeper (envOfC qual (aq st) s.heap.objs.size f cdv))->sp vs H Q E->
   ∃t,PSs (dB CX P w K mg base N qual (aq st) f cdv A outer s H E) (aF st) t/\t { nx:=λ_ H'=>Q .non H',rt:=Q } (start N vs) H):FnOk P w K mg base CX (k+1) f fd ps sp:=by
 obtain ⟨oc,od,kV,doc,pm,an,cdv,ct,osl,rfl,lk,hcd⟩:=F.ex;exact WN lk hcd S len λA outer s H vs Q E hr hsp=>hbody cdv A outer s H vs Q E hr hsp
theorem FnOk.cx{P:Program}{w:World}{K:PF}{mg:Str->Option Value}{base:Heap}{k:Nat}{CX:CXT}{f:Addr}{fd:FuncData}{ps:List Str}{sp:Sp}(F:FnOk P w K mg base CX0 k f fd ps sp):FnOk P w K mg base CX k f fd ps sp:=
 ⟨F.len,λA outer s H args us vs Q E hr he hb hv hs=>codeAny_mono (F.run A outer s H args us vs Q E hr he hb hv hs) λr s' hq=>by
  cases r with
  |error e=>exact False.elim hq
  |ok fl=>cases fl <;> exact hq⟩
end L2
namespace RF
open PySem PySem.Spec PyProof.Rows L2
noncomputable def fnB(N ps:List Str)(sc:Scope):Bool:=
 decide (sc.kind=.function)&&!sc.isCoroutine&&!sc.isGenerator&&cX N&&(N.take ps.length==ps)&&ps.all (λx=>sc.names.lookup x==some .local||sc.names.lookup x==some .cell)&&sc.names.all (λy=>y.2 != .free)
theorem Hv{N ps:List Str}{sc:Scope}(h:fnB N ps sc=true):FnScope N ps sc:=by unfold fnB at h;simp only[ae,gg,cb,aI,ck,cq,bne_iff_ne]at h;obtain ⟨⟨⟨⟨⟨⟨h1,h2⟩,h3⟩,h4⟩,h5⟩,h6⟩,h7⟩:=h;exact ⟨h1,h2,h3,ym h4,h5,h6,λy hy=>h7 y hy⟩
structure Bse(Φ:aa)(P:Program)(w:World)(K:PF)(mg:Str->Option Value)(base:Heap)(CX:CXT)(k:Nat)(fs:List (String×Nat))(bt:List String)(cn:List (String×D))(xs:List (String×Bool))(ot:OT):Prop where
 call:∀f n,(f,n)∈fs->∃fa fd ps,FnOk P w K mg base CX k fa fd ps (lift K n (Φ f))/\PySem.W.keepIn K (.ref fa)=true/\Binds K fd ps []/\mg (Str.ofString f)=some (.ref fa)
 blt:∀f,f∈bt->mg (Str.ofString f)=none
 con:∀x d,(x,d)∈cn->∃u v,mg (Str.ofString x)=some u/\RelV v u/\∀H F,Rep K H F d v
 xcl:∀C,xs.contains (C,true)=true->∃a,mg (Str.ofString C)=some (.ref a)/\ir K a=true/\PySem.W.nsIn K mainGlobals (Str.ofString C)=some (some (.ref a))
 xis:∀C',xs.contains (C',false)=true->∃cv,CV K mg C' cv/\∀C,xs.contains (C,true)=true->XI K C C' cv
 mth:∀f C m n,(f,C,m,n)∈ot.ms->MthOk Φ P w K mg base CX k f C m n
 mko:∀C n,(C,n)∈ot.ks->MkoOk Φ P w K mg base CX k C n
 fld:∀C f,(C,f)∈ot.fl->GQ K C f
def aG(N:List Str)(sc:Scope)(fs:List (String×Nat))(bt:List String)(cn:List (String×D))(xs:List (String×Bool))(ot:OT):CT:={ N:=N,kd:=sc.names,fn:=true,fs:=fs,bt:=bt,cn:=cn,xs:=xs,ot:=ot }
section
variable {Φ:aa} {P:Program} {w:World} {K:PF} {mg:Str->Option Value} {base:Heap} {k:Nat} {fs:List (String×Nat)} {bt:List String} {cn:List (String×D)} {xs:List (String×Bool)} {ot:OT}
theorem ab8{N ps:List Str}{sc:Scope}{qual:Str}{f:Addr}{cdv:Value}{A:Around}{outer:List Env}{s:Shared}{H:Hp}{EX:XK}{B:Bs}(T:Bse Φ P w K mg base (CX1 P w) k fs bt cn xs ot)(hs:fnB N ps sc=true)
  (hr:Room k (A.deeper (envOfC qual sc s.heap.objs.size f cdv))):Stat Φ (CX1 P w) k (aG N sc fs bt cn xs ot) noE B (dB (CX1 P w) P w K mg base N qual sc f cdv A outer s H EX).nox where
 N:=rfl
 nd:=(Hv hs).nd
 calm:=rfl
 own:=PassesOwn.never
 kd:=rfl
 vis:=λx h=>by
  have h:iG (sc.names.lookup x)=true:=h;show sc.names.lookup x=_\/sc.names.lookup x=_\/sc.names.lookup x=_;unfold iG at h;split at h <;> first | (cases h;done) |simp_all
 cel:=λx h=>h
 glo:=λx h=>h
 sto:=λx h=>by
  have h:(sc.names.lookup x==some .local||(true&&sc.names.lookup x==some .cell))=true:=h;rw[e8,cq,aI,aI]at h;exact ⟨h,.inl rfl⟩
 room:=hr
 call:=T.call
 blt:=T.blt
 con:=T.con
 exc:=⟨_,De _,λ_ _ _ _ _ _ _ _ _ _ q=>q.elim,λ_ _ _ _ h=>h.elim⟩
 nox:=λY=>De Y
 xcl:=T.xcl
 loc:=λx h=>h
 xis:=T.xis
 mth:=T.mth
 mko:=T.mko
 fld:=T.fld
 trc:=λ_=>⟨rfl,rfl,rfl⟩
theorem ab9{outer:List Env}{H:Hp}{s s':Shared}{e:Value}(h:CX1 P w outer H s (λ_ _ _=>False) e s'):False:=by obtain ⟨_,_,_,_,_,_,_,_,_,q⟩:=h;exact q
def ends(Q:D->DH->Prop):En:={ nx:=λ_ G=>Q .non G,rt:=Q,bk:=λ_ _=>False,ct:=λ_ _=>False }
def env0(ds:List D)(n:Nat):ak:=ds.map some++List.replicate n none
theorem ur{x qual:Str}{st:Stmt}{f:Addr}{fd:FuncData}(Fu:Fun K x qual st f fd)(T:Bse Φ P w K mg base (CX1 P w) k fs bt cn xs ot){N ps:List Str}{body:Sxs}(S:RF.Spec)(n m:Nat)(hs:fnB N ps (aq st)=true)
  (hc:aC (aG N (aq st) fs bt cn xs ot) body (aF st)=true) (hn:ps.length=n) (hm:N.length=n+m)
  (hw:∀ds G a,ds.length=n->S.pre ds G a->au Φ body noE (env0 ds m) G (ends (S.post a))):FnOk P w K mg base (CX1 P w) (k+1) f fd ps (lift K n S):=by
 refine Fu.okX (Hv hs) (λvs H Q E h=>by rw[hn];exact h.1) λcdv A outer s H vs Q EX hr hsp=>?_;obtain ⟨hl,F,G,ds,r,rs,a,h1,h2,h3⟩:=hsp;have St:Stat Φ (CX1 P w) k (aG N (aq st) fs bt cn xs ot) noE ⟨H,F⟩ (dB (CX1 P w) P w K mg base N qual (aq st) f cdv A outer s H EX).nox:=ab8 T hs hr;refine ⟨_,(jF St body hc).nox,?_⟩;refine ⟨env0 ds m,F,G,Ext.refl _ _,?_,r,dj body (D:=ends (S.post a)) ⟨λρ G' q=>?_,λd G' q=>h2 d G' q,λ_ _ q=>False.elim q,λ_ _ q=>False.elim q⟩ (hw ds G a (by rw[rs.length];exact hl) h1)⟩
 ·unfold L2.start;rw[show N.length - vs.length=m by omega];exact EnvR.start m rs
 ·intro H' F' σ' x1 _ r1;exact h2 .non G' q H' F' .non x1 r1 rfl
end
def bO(pre:List D->DH->Prop)(post:List D->DH->D->DH->Prop):RF.Spec where
 A:=List D×DH
 pre:=λds G a=>a=(ds,G)/\pre ds G
 post:=λa d G'=>post a.1 a.2 d G'
 exc:=λ_ _ _=>False
theorem cz{pre:List D->DH->Prop}{post:List D->DH->D->DH->Prop}{ds:List D}{G:DH}{k:D->DH->Prop}{E:EK}(h:pre ds G)(hk:∀d G',post ds G d G'->k d G'):(bO pre post).t ds G k E:=
 ⟨(ds,G),⟨rfl,h⟩,hk,λ_ _ z=>z.elim⟩
theorem cJ{Φ:aa}{body:Sxs}{m n:Nat}{pre:List D->DH->Prop}{post:List D->DH->D->DH->Prop}(h:∀ds G,pre ds G->au Φ body noE (env0 ds m) G (ends (post ds G))):
  ∀ds G a,ds.length=n->(bO pre post).pre ds G a->au Φ body noE (env0 ds m) G (ends ((bO pre post).post a)):=by
 rintro ds G a _ ⟨rfl,h1⟩;exact h ds G h1
def aK(f:List D->Option D):RF.Spec:=bO (λds _=>(f ds).isSome=true) (λds G d G'=>G'=G/\f ds=some d)
theorem du{f:List D->Option D}{ds:List D}{d:D}{G:DH}{k:D->DH->Prop}{E:EK}(h:f ds=some d)(hk:k d G):(aK f).t ds G k E:=
 cz (by rw[h];rfl) λd' G' ⟨e1,e2⟩=>by rw[h]at e2;cases e2;rw[e1];exact hk
theorem gm{Φ:aa}{body:Sxs}{m n:Nat}{f:List D->Option D}(h:∀ds G d,f ds=some d->au Φ body noE (env0 ds m) G (ends λd' G'=>G'=G/\d'=d)):
  ∀ds G a,ds.length=n->(aK f).pre ds G a->au Φ body noE (env0 ds m) G (ends ((aK f).post a)):=by
 refine cJ λds G hf=>?_;obtain ⟨d,e⟩:=cw.mp hf;refine dj body (D:=ends λd' G'=>G'=G/\d'=d) ⟨λρ G' q=>?_,λd' G' q=>?_,λ_ _ q=>q,λ_ _ q=>q⟩ (h ds G d e)
 ·exact ⟨q.1,by rw[e];exact eA some q.2.symm⟩
 ·exact ⟨q.1,by rw[e];exact eA some q.2.symm⟩
theorem aca{step:D->ak->DH->(ak->DH->Prop)->Prop}{g:Hld}{items:List D}{ρ:ak}{G:DH}{k:ak->DH->Prop}(P:Nat->ak->DH->Prop)(h0:P 0 ρ G)(hh:∀i ρ G,P i ρ G->held g G)
  (hs:∀i d ρ G,items[i]?=some d->P i ρ G->∀kk:ak->DH->Prop,(∀ρ' G',P (i+1) ρ' G'->kk ρ' G')->step d ρ G kk) (he:∀ρ G,P items.length ρ G->k ρ G):forLoop step g items ρ G k:=by
 have go:∀(l:List D)(i:Nat)(ρ:ak)(G:DH),items.drop i=l->i<=items.length->P i ρ G->forLoop step g l ρ G k:=by
  intro l;induction l with
  |nil=>
   intro i ρ G e hi p;have:i=items.length:=by have:=eA List.length e;rw[bp]at this;simp at this;omega
   subst this;exact ⟨hh _ _ _ p,he _ _ p⟩
  |cons d l ih=>
   intro i ρ G e hi p;have hl:i < items.length:=by
    by_cases h:i < items.length
    ·exact h
    ·rw[ge (by omega)]at e;cases e
   rw[bb hl]at e;injection e with e1 e2;refine ⟨hh _ _ _ p,hs i d ρ G (by rw[a7 hl,e1]) p _ λρ' G' p'=>ih (i+1) ρ' G' e2 hl p'⟩
 exact go _ 0 ρ G (by simp) (d3 _) h0
theorem Hw{step:D->ak->DH->(Option D->ak->DH->Prop)->Prop}{g:Hld}{items acc:List D}{ρ:ak}{G:DH}{k:List D->DH->Prop}(P:Nat->List D->ak->DH->Prop)(h0:P 0 acc ρ G)(hh:∀i acc ρ G,P i acc ρ G->held g G)
  (hl:acc.length+items.length<=sz)
  (hs:∀i d acc ρ G,items[i]?=some d->P i acc ρ G->∀kk:Option D->ak->DH->Prop,(∀o ρ' G',P (i+1) (acc++o.toList) ρ' G'->kk o ρ' G')->step d ρ G kk) (he:∀acc ρ G,P items.length acc ρ G->k acc G):compLoop step g items acc ρ G k:=by
 have go:∀(l:List D)(i:Nat)(acc:List D)(ρ:ak)(G:DH),items.drop i=l->i<=items.length->acc.length+l.length<=sz->P i acc ρ G->compLoop step g l acc ρ G k:=by
  intro l;induction l with
  |nil=>
   intro i acc ρ G e hi ha p;have:i=items.length:=by have:=eA List.length e;rw[bp]at this;simp at this;omega
   subst this;exact ⟨hh _ _ _ _ p,by simpa using ha,he _ _ _ p⟩
  |cons d l ih=>
   intro i acc ρ G e hi ha p;have hl:i < items.length:=by
    by_cases h:i < items.length
    ·exact h
    ·rw[ge (by omega)]at e;cases e
   rw[bb hl]at e;injection e with e1 e2;have ha':acc.length+(l.length+1)<=sz:=ha;refine ⟨hh _ _ _ _ p,by omega,hs i d acc ρ G (by rw[a7 hl,e1]) p _ λo ρ' G' p'=>?_⟩;cases o with
   |some y=>exact ih (i+1) (acc++[y]) ρ' G' e2 hl (by rw[ar];simp;omega) p'
   |none=>exact ih (i+1) acc ρ' G' e2 hl (by omega) (by simpa using p')
 exact go _ 0 acc ρ G (by simp) (d3 _) hl h0
theorem Hx{step:D->ak->DH->(Option D->ak->DH->Prop)->Prop}{items:List D}{ρ:ak}{G:DH}{k:List D->DH->Prop}(g:Hld)(f:D->Option D)(I:ak->Prop)(h0:I ρ)(hg:held g G)(hl:items.length<=sz)
  (hs:∀d ρ,d∈items->I ρ->∀kk:Option D->ak->DH->Prop,(∀ρ',I ρ'->kk (f d) ρ' G)->step d ρ G kk) (he:k (items.filterMap f) G):compLoop step g items [] ρ G k:=by
 refine Hw (λi acc ρ' G'=>I ρ'/\G'=G/\acc=(items.take i).filterMap f) ⟨h0,rfl,rfl⟩ (λi acc ρ' G' p=>by rw[p.2.1];exact hg) (by simpa using hl) ?_ ?_
 ·rintro i d acc ρ' G' hd ⟨p1,rfl,rfl⟩ kk hk;refine hs d ρ' (bv hd) p1 kk λρ2 i2=>hk _ _ _ ⟨i2,rfl,?_⟩;rw[d6,hd,List.filterMap_append];congr 1
 ·rintro acc ρ' G' ⟨_,rfl,rfl⟩;rw[eM];exact he
theorem acb{step:D->ak->DH->(Option D->ak->DH->Prop)->Prop}{items:List D}{ρ:ak}{G:DH}{k:List D->DH->Prop}(g:Hld)(f:D->D)(I:ak->Prop)(h0:I ρ)(hg:held g G)(hl:items.length<=sz)
  (hs:∀d ρ,d∈items->I ρ->∀kk:Option D->ak->DH->Prop,(∀ρ',I ρ'->kk (some (f d)) ρ' G)->step d ρ G kk) (he:k (items.map f) G):compLoop step g items [] ρ G k:=
 Hx g (λd=>some (f d)) I h0 hg hl hs (by rw[<-List.filterMap_eq_map]at he;exact he)
theorem yr{α:Type}(f:α->Bool):∀l:List α,bools (l.map λx=>D.bl (f x))=some (l.map f)
 |[]=>rfl
 |x::l=>by simp[bools,yr f l]
theorem strs_map{α:Type}(f:α->List Nat):∀l:List α,bF (l.map λx=>D.str (f x))=some (l.map f)
 |[]=>rfl
 |x::l=>by simp[bF,strs_map f l]
theorem Hy:∀l:List (List Nat),dZ [] l=l.flatten
 |[]=>rfl
 |[x]=>by simp[dZ]
 |x::y::r=>by simp[dZ,Hy (y::r)]
def Sa(G G':DH):Prop:=∀b o,G b=some o->G' b=some o
def Sb(p:Addr)(G G':DH):Prop:=∀b o,G b=some o->b≠p->G' b=some o
theorem Sb.refl(p:Addr)(G:DH):Sb p G G:=λ_ _ h _=>h
theorem Sa.trans{G G1 G2:DH}(a:Sa G G1)(b:Sa G1 G2):Sa G G2:=λc o h=>b c o (a c o h)
theorem Sb.trans{p:Addr}{G G1 G2:DH}(a:Sb p G G1)(b:Sb p G1 G2):Sb p G G2:=λc o h n=>b c o (a c o h n) n
theorem Sa.sb{p:Addr}{G G':DH}(a:Sa G G'):Sb p G G':=λc o h _=>a c o h
theorem Sa.new{G:DH}{p:Addr}{o:DO}(h:G p=none):Sa G (bf G p o):=λb u e=>by rw[dF (DP e h)];exact e
theorem Sb.upd{G:DH}{p:Addr}{o:DO}:Sb p G (bf G p o):=λb u e n=>by rw[dF n];exact e
theorem Hz{α:Type}{a:α}{l:List α}:atI (a::l) 0=some a:=bU (j:=0) rfl
theorem HB{α:Type}{a b:α}{l:List α}:atI (a::b::l) 1=some b:=bU (j:=1) rfl
theorem HF{α:Type}{a b c:α}{l:List α}:atI (a::b::c::l) 2=some c:=bU (j:=2) rfl
theorem HH{α:Type}{a b c d:α}{l:List α}:atI (a::b::c::d::l) 3=some d:=bU (j:=3) rfl
theorem acd{n j:Nat}(h:j < n):ixN n (j:Int)=some j:=by unfold ixN;rw[if_pos (by omega),if_pos (by omega)];simp
theorem HJ{n:Nat}:ixN (n+1) 0=some 0:=by unfold ixN;rw[if_pos (by omega),if_pos (by omega)];rfl
theorem HN{n:Nat}:ixN (n+2) 1=some 1:=by unfold ixN;rw[if_pos (by omega),if_pos (by omega)];rfl
theorem HQ{n:Nat}:ixN (n+3) 2=some 2:=by unfold ixN;rw[if_pos (by omega),if_pos (by omega)];rfl
theorem ace{α:Type}{xs:List α}{i:Int}(h0:0<=i)(h1:i < xs.length):∃a,atI xs i=some a/\a∈xs:=by
 obtain ⟨n,rfl⟩:=cS h0;have hn:n < xs.length:=by omega
 exact ⟨xs[n],bU (by simp[hn]),d4 _⟩
theorem HR{α:Type}(xs:List α)(lo hi:Option Int):(cut xs lo hi).length<=xs.length:=by unfold cut;rw[aT,bp];omega
theorem HS{l:List D}:bL l []=l.isEmpty:=by cases l <;> rfl
theorem jG{α:Type}(l:List α)(n:Nat):cut l none (some (n:Int))=l.take n:=by
 unfold cut;rw[show HT.sIx l.length 0 none=0 from rfl,HT.BX,List.drop_zero,Nat.sub_zero];by_cases h:n<=l.length
 ·rw[Nat.min_eq_left h]
 ·rw[Nat.min_eq_right (by omega),eK (aw _),eK (by omega)]
theorem ut{α:Type}(l:List α)(n:Nat):cut l (some (n:Int)) none=l.drop n:=by
 unfold cut;rw[show HT.sIx l.length l.length none=l.length from rfl,HT.BX];by_cases h:n<=l.length
 ·rw[Nat.min_eq_left h,eK (by rw[bp];exact aw _)]
 ·rw[Nat.min_eq_right (by omega),Nat.sub_self,List.take_zero,ge (by omega)]
theorem yt{α:Type}(l:List α)(n:Nat):cut l (some ((n:Int)+1)) none=l.drop (n+1):=ut l (n+1)
theorem lF:∀{l:List D},(∀d∈l,nr d=true)->nrs l=true
 |[],_=>rfl
 |a::l,h=>by rw[nrs,h a bg,lF λd hd=>h d (ba _ hd)];rfl
theorem yu{n:Nat}:∀{l:List D},(∀d∈l,dpt d<=n)->aW l<=n
 |[],_=>d3 _
 |a::l,h=>by rw[aW];exact Nat.max_le.mpr ⟨h a bg,yu λd hd=>h d (ba _ hd)⟩
theorem acf{α:Type}{motive:List α->Prop}(l:List α)(nil:motive [])(snoc:∀(l:List α)(a:α),motive l->motive (l++[a])):motive l:=by
 have go:∀(n:Nat)(l:List α),l.length=n->motive l:=by
  intro n;induction n with
  |zero=>intro l h;rw[dv.mp h];exact nil
  |succ n ih=>
   intro l h;have hne:l≠[]:=by rintro rfl;simp at h
   rw[<-fh hne];exact snoc _ _ (ih _ (by rw[List.length_dropLast];omega))
 exact go _ l rfl
section
variable {G:DH} {k:D->DH->Prop} {fz:Bool} {kb:Bool->Prop} {kd:D->Prop} {p:Addr}
theorem HW{i j:Int}:cF .Add fz (.int i) (.int j) G k=k (.int (i+j)) G:=rfl
theorem HX{x y:List Nat}:cF .Add fz (.str x) (.str y) G k=(x.length+y.length<=sz/\k (.str (x++y)) G):=rfl
theorem HY{x y:List D}:cF .Add fz (.lst x) (.lst y) G k=(x.length+y.length<=sz/\mk fz (x++y) G k):=rfl
theorem H9{x y:List D}:cF .Add fz (.tup x) (.tup y) G k=(x.length+y.length<=sz/\k (.tup (x++y)) G):=rfl
theorem Ia{i j:Int}:cF .Sub fz (.int i) (.int j) G k=k (.int (i - j)) G:=rfl
theorem Ib{i j:Int}:cF .Mult fz (.int i) (.int j) G k=(CMul i j/\k (.int (i * j)) G):=rfl
theorem Ie{x:List D}{n:Int}:cF .Mult fz (.tup x) (.int n) G k=(2<=n/\n<=1000/\x≠[]/\x.length * n.toNat<=sz/\k (.tup (reps x n.toNat)) G):=rfl
theorem Ig{x:List D}{n:Int}:cF .Mult fz (.lst x) (.int n) G k=(0<=n/\n<=1000/\x.length * n.toNat<=sz/\mk fz (reps x n.toNat) G k):=rfl
theorem Ih{x:List Nat}{n:Int}:cF .Mult fz (.str x) (.int n) G k=(0<=n/\n<=1000/\x.length * n.toNat<=sz/\k (.str (reps x n.toNat)) G):=rfl
theorem Ii{i j:Int}:cF .FloorDiv fz (.int i) (.int j) G k=((0 < j/\j < 1152921504606846976)/\k (.int (i / j)) G):=rfl
theorem Ij{i j:Int}:cF .Mod fz (.int i) (.int j) G k=(0 < j/\k (.int (i % j)) G):=rfl
theorem Ik{i j:Int}:cF .Pow fz (.int i) (.int j) G k=(qw i j/\k (.int (i ^ j.toNat)) G):=rfl
def fH:D->Bool
 |.non=>true
 |_=>false
theorem Il{a b:D}:bh .Eq a b kb=((nr a=true/\nr b=true/\min (dpt a) (dpt b)<=60)/\kb (deq a b)):=rfl
theorem Im{a b:D}:bh .NotEq a b kb=((nr a=true/\nr b=true/\min (dpt a) (dpt b)<=60)/\kb (!deq a b)):=rfl
theorem Io{i j:Int}:bh .Lt (.int i) (.int j) kb=kb (decide (i < j)):=rfl
theorem Ip{i j:Int}:bh .LtE (.int i) (.int j) kb=kb (decide (i<=j)):=rfl
theorem Ir{i j:Int}:bh .Gt (.int i) (.int j) kb=kb (decide (j < i)):=rfl
theorem Iu{i j:Int}:bh .GtE (.int i) (.int j) kb=kb (decide (j<=i)):=rfl
theorem Iv{i j:List Nat}:bh .Lt (.str i) (.str j) kb=kb (decide (i < j)):=rfl
theorem Iw{i j:List Nat}:bh .LtE (.str i) (.str j) kb=kb (!decide (j < i)):=rfl
theorem Iz{a:D}:bh .Is a .non kb=kb (fH a):=by cases a <;> rfl
theorem IK{a:D}:bh .IsNot a .non kb=kb (!fH a):=by cases a <;> rfl
theorem IV{a b:Bool}:bh .Is (.bl a) (.bl b) kb=kb (a==b):=rfl
theorem IW{a b:Bool}:bh .IsNot (.bl a) (.bl b) kb=kb (a != b):=rfl
theorem Ja{c:Nat}{l:List Nat}:bh .In (.str [c]) (.str l) kb=kb (l.contains c):=rfl
theorem Jb{c:Nat}{l:List Nat}:bh .NotIn (.str [c]) (.str l) kb=kb (!l.contains c):=rfl
theorem Jc{a:D}{l:List D}:bh .In a (.lst l) kb=((nr a=true/\nrs l=true/\aW l<=60)/\kb (isIn a l)):=rfl
theorem Jd{a:D}{l:List D}:bh .In a (.tup l) kb=((nr a=true/\nrs l=true/\aW l<=60)/\kb (isIn a l)):=rfl
theorem Jf{a:D}{l:List D}:bh .NotIn a (.lst l) kb=((nr a=true/\nrs l=true/\aW l<=60)/\kb (!isIn a l)):=rfl
theorem Jg{a:D}{l:List D}:bh .NotIn a (.tup l) kb=((nr a=true/\nrs l=true/\aW l<=60)/\kb (!isIn a l)):=rfl
theorem Jh{i:Int}:fH (.int i)=false:=rfl
theorem Ji{i:Bool}:fH (.bl i)=false:=rfl
theorem Jj{i:List Nat}:fH (.str i)=false:=rfl
theorem Jl{i:List D}:fH (.tup i)=false:=rfl
theorem Jm{i:List D}:fH (.lst i)=false:=rfl
theorem Jo{i:Addr}:fH (.ref i)=false:=rfl
theorem Jp:fH .non=true:=rfl
def bj{α:Type}(o:Option α)(k:α->Prop):Prop:=match o with |some a=>k a |none=>False
theorem Jq{α:Type}{a:α}{k:α->Prop}:bj (some a) k=k a:=rfl
theorem bu{α:Type}{o:Option α}{a:α}{k:α->Prop}(e:o=some a)(h:k a):bj o k:=by rw[e];exact h
theorem lG{α:Type}{xs:List α}{i:Int}{k:α->Prop}(h0:0<=i)(h1:i < xs.length)(h:∀a,a∈xs->k a):bj (atI xs i) k:=by obtain ⟨a,e,m⟩:=ace h0 h1;exact bu e (h a m)
theorem Jr{ds:List D}{i:Int}:cG (.lst ds) (.int i) kd=bj (atI ds i) kd:=by unfold cG bj;(try dsimp only) <;> (cases atI ds i <;> rfl)
theorem Js{ds:List D}{i:Int}:cG (.tup ds) (.int i) kd=bj (atI ds i) kd:=by unfold cG bj;(try dsimp only) <;> (cases atI ds i <;> rfl)
theorem Jt{l:List Nat}{i:Int}:cG (.str l) (.int i) kd=bj (atI l i) (λc=>kd (.str [c])):=by unfold cG bj;(try dsimp only) <;> (cases atI l i <;> rfl)
theorem Ju{ds:List D}{lo hi:Option Int}:dY fz (.lst ds) lo hi G k=mk fz (cut ds lo hi) G k:=rfl
theorem Jv{ds:List D}{y:D}:jr fz (.lst ds) y G k=(y=.int (-1)/\mk fz ds.reverse G k):=rfl
theorem Jw{ds:List Int}{lo hi:Option Int}:dY fz (.scr ds) lo hi G k=mk fz ((cut ds lo hi).map .int) G k:=rfl
theorem Jx{ds:List D}{lo hi:Option Int}:dY fz (.tup ds) lo hi G k=k (.tup (cut ds lo hi)) G:=rfl
theorem Jy{ds:List Nat}{lo hi:Option Int}:dY fz (.str ds) lo hi G k=k (.str (cut ds lo hi)) G:=rfl
theorem JC{ds:List D}:opB .len [.lst ds] kd=kd (.int ds.length):=rfl
theorem JD{ds:List D}:opB .len [.tup ds] kd=kd (.int ds.length):=rfl
theorem JF{ds:List Nat}:opB .len [.str ds] kd=kd (.int ds.length):=rfl
theorem JG{ds:List D}:opB .all [.lst ds] kd=bj (bools ds) (λbs=>kd (.bl (bs.all id))):=by unfold opB qG bj;(try dsimp only) <;> (cases bools ds <;> rfl)
theorem JH{b:Bool}:opB .int [.bl b] kd=kd (.int (if b then 1 else 0)):=rfl
theorem JK{b:Int}:opB .int [.int b] kd=kd (.int b):=rfl
theorem JL{l:List Nat}:opB .int [.str l] kd=bj (PySem.intText? (tx l)) (λn=>l.length<=640/\kd (.int n)):=by unfold opB qH bj;(try dsimp only) <;> (cases PySem.intText? (tx l) <;> rfl)
theorem JM{ds:List D}:opB .sum [.lst ds] kd=bj (cu ds) (λns=>kd (.int ns.sum)):=by unfold opB v9 bj;(try dsimp only) <;> (cases cu ds <;> rfl)
theorem JN{a:Int}:opB .str [.int a] kd=((0<=a/\a < 100)/\kd (.str (gM a.toNat))):=rfl
theorem JP{a:Int}:opB .abs [.int a] kd=kd (.int (if a < 0 then -a else a)):=rfl
theorem JQ{a b:Int}:opB .min2 [.int a,.int b] kd=kd (.int (if b < a then b else a)):=rfl
theorem JR{a b:Int}:opB .max [.int a,.int b] kd=kd (.int (if b > a then b else a)):=rfl
theorem JS{ds:List D}{kl:List D->Prop}:cP .sorted [.tup ds] kl=bj (cu ds) (λns=>ns.length < 64/\∀ns':List Int,ns'.Perm ns->ns'.Pairwise (·<=·)->kl (ns'.map D.int)):=by unfold cP qI bj;(try dsimp only) <;> (cases cu ds <;> rfl)
theorem JT{ds:List D}{kl:List D->Prop}:cP .sorted [.lst ds] kl=bj (bF ds) (λls=>ls.length < 64/\∀ls':List (List Nat),ls'.Perm ls->PyProof.Rows.sortedS (ls'.map tx)=true->kl (ls'.map D.str)):=by unfold cP qI bj;(try dsimp only) <;> (cases bF ds <;> rfl)
theorem JV{ds:List D}:opB .tuple [.lst ds] kd=kd (.tup ds):=rfl
theorem JW{ds:List D}:opB .tuple [.tup ds] kd=kd (.tup ds):=rfl
theorem JX{ds:List D}{kl:List D->Prop}:cP .list [.lst ds] kl=kl ds:=rfl
theorem JZ{ds:List D}{kl:List D->Prop}:cP .list [.tup ds] kl=kl ds:=rfl
theorem J0{l:List Nat}{kl:List D->Prop}:cP .list [.str l] kl=kl (l.map λc=>.str [c]):=rfl
theorem J1{s:List Nat}{ds:List D}:opM .join (.str s) [.lst ds] G k=bj (bF ds) (λls=>((ls.map (·.length)).sum+ls.length * s.length<=sz)/\k (.str (dZ s ls)) G):=by unfold opM qJ bj;(simp only[br,de,view]) <;> (cases bF ds <;> rfl)
def trk(G:DH)(p:Addr)(k:List D->Prop):Prop:=match G p with |some (.lst ds)=>k ds |none=>False
theorem eN{ds:List D}{k:List D->Prop}(e:G p=some (.lst ds)):trk G p k=k ds:=by unfold trk;rw[e]
theorem J2{x:D}:opM .append (.ref p) [x] G k=trk G p (λds=>ds.length < sz/\k .non (bf G p (.lst (ds++[x])))):=by unfold opM qK trk;(try dsimp only) <;> (cases G p <;> first |rfl | (rename_i o;cases o;rfl))
theorem J3{x:D}{i:Int}:opM .insert (.ref p) [.int i,x] G k=trk G p (λds=>ds.length < sz/\0<=i/\i<=1000000/\k .non (bf G p (.lst (ds.take i.toNat++x::ds.drop i.toNat)))):=by unfold opM qM trk;(try dsimp only) <;> (cases G p <;> first |rfl | (rename_i o;cases o;rfl))
theorem J4:recv .insert (.ref p) G=trk G p (λ_=>True):=by unfold recv trk;(try dsimp only) <;> (cases G p <;> first |rfl | (rename_i o;cases o;rfl))
theorem J5{xs:List D}:opM .extend (.ref p) [.lst xs] G k=trk G p (λds=>ds.length+xs.length < sz/\k .non (bf G p (.lst (ds++xs)))):=by unfold opM qL trk;(simp only[br,de,view]) <;> (cases G p <;> first |rfl | (rename_i o;cases o;rfl))
theorem J6{ds:List D}:opM .count (.lst ds) [.bl true] G k=bj (bools ds) (λbs=>k (.int (bs.count true:Nat)) G):=by unfold opM qN bj;(try dsimp only[view]) <;> (cases bools ds <;> rfl)
theorem J7{ds:List D}:opM .index (.lst ds) [.bl true] G k=bj (bools ds) (λbs=>true∈bs/\k (.int (bs.idxOf true:Nat)) G):=by unfold opM qO bj;(try dsimp only[view]) <;> (cases bools ds <;> rfl)
theorem J8{ds:List D}:recv .count (.lst ds) G=True:=rfl
theorem J9{ds:List D}:recv .index (.lst ds) G=True:=rfl
theorem acg{l:List Nat}{c:Nat}:opM .find (.str l) [.str [c]] G k=(k (.int (-1)) G/\∀i:Nat,l[i]?=some c->k (.int (i:Int)) G):=rfl
theorem ach{s:List Nat}:recv .find (.str s) G=True:=rfl
theorem Ka{s:List Nat}:recv .join (.str s) G=True:=rfl
theorem Kc:recv .append (.ref p) G=trk G p (λ_=>True):=by unfold recv trk;(try dsimp only) <;> (cases G p <;> first |rfl | (rename_i o;cases o;rfl))
theorem Kd:recv .extend (.ref p) G=trk G p (λ_=>True):=by unfold recv trk;(try dsimp only) <;> (cases G p <;> first |rfl | (rename_i o;cases o;rfl))
theorem Ke{i:Int}{x:D}{kg:DH->Prop}:d7 (.ref p) (.int i) x G kg=trk G p (λds=>bj (ixN ds.length i) (λj=>kg (bf G p (.lst (ds.set j x))))):=by
 unfold d7 trk bj
 (try dsimp only) <;> (cases G p <;> first |rfl | (rename_i o;cases o;(try dsimp only) <;> (rename_i ds;cases ixN ds.length i <;> rfl)))
theorem Kf{i j:Int}:dH .Add (.int i) (.int j) kd=kd (.int (i+j)):=rfl
theorem Kg{x y:List Nat}:dH .Add (.str x) (.str y) kd=(x.length+y.length<=sz/\kd (.str (x++y))):=rfl
theorem Kh{i j:Int}:dH .Sub (.int i) (.int j) kd=kd (.int (i - j)):=rfl
theorem Kl{xs:List D}:mk true xs G k=k (.lst xs) G:=rfl
theorem Km{xs:List D}:mk false xs G k=∀p,G p=none->k (.ref p) (bf G p (.lst xs)):=rfl
theorem Ko:view G .non=.non:=rfl
theorem Kp{b:Bool}:view G (.bl b)=.bl b:=rfl
theorem Kq{b:Int}:view G (.int b)=.int b:=rfl
theorem Kr{b:List Nat}:view G (.str b)=.str b:=rfl
theorem Ks{b:List D}:view G (.tup b)=.tup b:=rfl
theorem Ku{b:List D}:view G (.lst b)=.lst b:=rfl
theorem Kv{C f:String}{q:Addr}:view G (.obj C f q)=.obj C f q:=rfl
theorem Kw{b:String}:view G (.exn b)=.exn b:=rfl
theorem Ky{b:List Int}:view G (.scr b)=.scr b:=rfl
theorem gn{ds:List D}(e:G p=some (.lst ds)):view G (.ref p)=.lst ds:=by unfold view;dsimp only;rw[e]
theorem Kz:truth .non=some false:=rfl
theorem KC{b:Bool}:truth (.bl b)=some b:=rfl
theorem KD{i:Int}:truth (.int i)=some (i != 0):=rfl
theorem KH{l:List Nat}:truth (.str l)=some (!l.isEmpty):=rfl
theorem KJ{l:List D}:truth (.tup l)=some (!l.isEmpty):=rfl
theorem KN{l:List D}:truth (.lst l)=some (!l.isEmpty):=rfl
theorem KQ{l:List D}:itemsOf G (.lst l)=some (l,[]):=rfl
theorem KR{l:List D}:itemsOf G (.tup l)=some (l,[]):=rfl
theorem KY{l:List Nat}:itemsOf G (.str l)=some (l.map λc=>.str [c],[]):=rfl
theorem KZ{t:String}:isT t .non=some false:=rfl
theorem K1 {t:String} {b:Bool}:isT t (.bl b)=some (t=="bool"||t=="int"):=rfl
theorem K3 {t:String} {b:Int}:isT t (.int b)=some (t=="int"):=rfl
theorem K4 {t:String} {b:List Nat}:isT t (.str b)=some (t=="str"):=rfl
theorem is_tup {t:String} {b:List D}:isT t (.tup b)=some (t=="tuple"):=rfl
theorem K5 {t:String} {b:List D}:isT t (.lst b)=some (t=="list"):=rfl
theorem K6{i:Nat}{d:D}{ρ:ak}{kr:ak->Prop}:aQ (.nm i) d ρ G kr=kr (ρ.set i (some d)):=rfl
theorem K7{ts:Tgs}{ds:List D}{ρ:ak}{kr:ak->Prop}:aQ (.tp ts) (.lst ds) ρ G kr=bV ts ds ρ G kr:=rfl
theorem K8{ts:Tgs}{ds:List D}{ρ:ak}{kr:ak->Prop}:aQ (.tp ts) (.tup ds) ρ G kr=bV ts ds ρ G kr:=rfl
theorem K9{ρ:ak}{kr:ak->Prop}:bV .nil [] ρ G kr=kr ρ:=rfl
theorem La{t:Tg}{r:Tgs}{d:D}{ds:List D}{ρ:ak}{kr:ak->Prop}:bV (.cons t r) (d::ds) ρ G kr=aQ t d ρ G (λρ'=>bV r ds ρ' G kr):=rfl
theorem Lb:deq .non .non=true:=rfl
theorem Ld  {y:Bool}:deq .non (.bl y)=false:=rfl
theorem Lg  {y:Int}:deq .non (.int y)=false:=rfl
theorem Lh  {y:List Nat}:deq .non (.str y)=false:=rfl
theorem Li  {y:List D}:deq .non (.tup y)=false:=rfl
theorem Lj  {y:List D}:deq .non (.lst y)=false:=rfl
theorem Lk{x:Bool} :deq (.bl x) .non=false:=rfl
theorem Ln{x:Bool}{y:Bool}:deq (.bl x) (.bl y)=(x==y):=by rw[deq]
theorem Lp{x:Bool}{y:List Nat}:deq (.bl x) (.str y)=false:=rfl
theorem Lq{x:Bool}{y:List D}:deq (.bl x) (.tup y)=false:=rfl
theorem Lr{x:Bool}{y:List D}:deq (.bl x) (.lst y)=false:=rfl
theorem Ls{x:Int} :deq (.int x) .non=false:=rfl
theorem Lw{x:Int}{y:Int}:deq (.int x) (.int y)=(x==y):=by rw[deq]
theorem Lx{x:Int}{y:List Nat}:deq (.int x) (.str y)=false:=rfl
theorem Ly{x:Int}{y:List D}:deq (.int x) (.tup y)=false:=rfl
theorem Lz{x:Int}{y:List D}:deq (.int x) (.lst y)=false:=rfl
theorem LC{x:List Nat} :deq (.str x) .non=false:=rfl
theorem LK{x:List Nat}{y:Bool}:deq (.str x) (.bl y)=false:=rfl
theorem LQ{x:List Nat}{y:Int}:deq (.str x) (.int y)=false:=rfl
theorem yw{x:List Nat}{y:List Nat}:deq (.str x) (.str y)=(x==y):=by rw[deq]
theorem LR{x:List Nat}{y:List D}:deq (.str x) (.tup y)=false:=rfl
theorem Ma{x:List Nat}{y:List D}:deq (.str x) (.lst y)=false:=rfl
theorem Mg{x:List D} :deq (.tup x) .non=false:=rfl
theorem Mh{x:List D}{y:Bool}:deq (.tup x) (.bl y)=false:=rfl
theorem Mi{x:List D}{y:Int}:deq (.tup x) (.int y)=false:=rfl
theorem Mj{x:List D}{y:List Nat}:deq (.tup x) (.str y)=false:=rfl
theorem Ml{x:List D}{y:List D}:deq (.tup x) (.tup y)=bL x y:=by rw[deq]
theorem Mm{x:List D}{y:List D}:deq (.tup x) (.lst y)=false:=rfl
theorem Mp{x:List D} :deq (.lst x) .non=false:=rfl
theorem Mq{x:List D}{y:Bool}:deq (.lst x) (.bl y)=false:=rfl
theorem Mr{x:List D}{y:Int}:deq (.lst x) (.int y)=false:=rfl
theorem Ms{x:List D}{y:List Nat}:deq (.lst x) (.str y)=false:=rfl
theorem Mt{x:List D}{y:List D}:deq (.lst x) (.tup y)=false:=rfl
theorem Mu{x:List D}{y:List D}:deq (.lst x) (.lst y)=bL x y:=by rw[deq]
theorem Mv:bL [] []=true:=rfl
theorem Mw{a b:D}{as bs:List D}:bL (a::as) (b::bs)=(deq a b&&bL as bs):=by rw[bL]
theorem Mx{b:D}{bs:List D}:bL [] (b::bs)=false:=rfl
theorem My{b:D}{bs:List D}:bL (b::bs) []=false:=rfl
theorem Mz :nr .non=true:=rfl
theorem MF :dpt .non=0:=rfl
theorem MJ{x:Bool}:nr (.bl x)=true:=rfl
theorem MK{x:Bool}:dpt (.bl x)=0:=rfl
theorem MN{x:Int}:nr (.int x)=true:=rfl
theorem MP{x:Int}:dpt (.int x)=0:=rfl
theorem MT{x:List Nat}:nr (.str x)=true:=rfl
theorem M3{x:List Nat}:dpt (.str x)=0:=rfl
theorem M4{x:List D}:nr (.tup x)=nrs x:=by rw[nr]
theorem M5{x:List D}:dpt (.tup x)=aW x+1:=by rw[dpt]
theorem M6{x:List D}:nr (.lst x)=nrs x:=by rw[nr]
theorem M7{x:List D}:dpt (.lst x)=aW x+1:=by rw[dpt]
theorem M8:nrs []=true:=rfl
theorem M9{a:D}{l:List D}:nrs (a::l)=(nr a&&nrs l):=by rw[nrs]
theorem Nb:aW []=0:=rfl
theorem Nf{a:D}{l:List D}:aW (a::l)=max (dpt a) (aW l):=by rw[aW]
end
theorem seq{Φ:aa}{s:Sx}{r:Sxs}{E:EK}{ρ:ak}{G:DH}{D:En}(h:∀M:ak->DH->Prop,(∀ρ' G',au Φ r E ρ' G' D->M ρ' G')->wpS Φ s E ρ G { D with nx:=M }):au Φ (.cons s r) E ρ G D:=by rw[jw];exact h _ λ_ _ x=>x
theorem last{Φ:aa}{s:Sx}{E:EK}{ρ:ak}{G:DH}{D:En}(h:wpS Φ s E ρ G D):au Φ (.cons s .nil) E ρ G D:=by rw[jw];exact wpS_mono s (D:=D) (D':={ D with nx:=λρ' G'=>au Φ .nil E ρ' G' D }) ⟨λρ' G' q=>(show au Φ .nil E ρ' G' D from by rw[ju];exact q),λ_ _ q=>q,λ_ _ q=>q,λ_ _ q=>q⟩ h
theorem done{Φ:aa}{E:EK}{ρ:ak}{G:DH}{D:En}(h:D.nx ρ G):au Φ .nil E ρ G D:=by rw[ju];exact h
section
variable {Φ:aa} {E:EK} {ρ:ak} {G:DH}
def ForG(Φ:aa)(t:Tg)(body:Sxs)(E:EK)(D:En)(items:List RF.D)(g:Hld)(ρ:ak)(G:DH):Prop:=
 forLoop (λd ρ' G' k=>aQ t d ρ' G' λρ1=>au Φ body E ρ1 G' { D with nx:=k,ct:=k,bk:=D.nx }) g items ρ G D.nx
theorem Ng{t:Tg}{it:It'}{body:Sxs}{D:En}:wpS Φ (.for_ t it body) E ρ G D=wpI Φ it E ρ G λitems g G1=>ForG Φ t body E D items g ρ G1:=rfl
theorem ForG.inv{t:Tg}{body:Sxs}{D:En}{items:List RF.D}{g:Hld}(P:Nat->ak->DH->Prop)(h0:P 0 ρ G)(hh:∀i ρ G,P i ρ G->held g G)
  (hs:∀i d ρ G,items[i]?=some d->P i ρ G->∀kk:ak->DH->Prop,(∀ρ' G',P (i+1) ρ' G'->kk ρ' G')->aQ t d ρ G λρ1=>au Φ body E ρ1 G { D with nx:=kk,ct:=kk,bk:=D.nx })
  (he:∀ρ G,P items.length ρ G->D.nx ρ G):ForG Φ t body E D items g ρ G:=aca P h0 hh hs he
def CompG(Φ:aa)(elt:Ex)(tg:Tg)(cond:Tx)(items:List D)(g:Hld)(ρ:ak)(G:DH)(k:List D->DH->Prop):Prop:=
 compLoop (λd ρ' G' k'=>aQ tg d ρ' G' λρ1=>wpT Φ cond noE ρ1 G' λb G2=>match b with |true=>wpE Φ elt noE ρ1 G2 λy G3=>k' (some y) ρ1 G3 |false=>k' none ρ1 G2) g items [] ρ G k
def jH(cap:List (Option Nat))(ρ:ak):ak:=cap.map λo=>match o with |none=>none |some j=>(ρ[j]?).join
theorem Nh{ρ:ak}:jH [] ρ=[]:=rfl
theorem Ni{cap:List (Option Nat)}{ρ:ak}:jH (none::cap) ρ=none::jH cap ρ:=rfl
theorem Nj{cap:List (Option Nat)}{ρ:ak}{j:Nat}:jH (some j::cap) ρ=(ρ[j]?).join::jH cap ρ:=rfl
theorem Nk{fz:Bool}{elt:Ex}{tg:Tg}{it:It'}{cond:Tx}{N:List String}{cap:List (Option Nat)}{k:D->DH->Prop}:
  wpE Φ (.comp fz elt tg it cond N cap) E ρ G k=wpI Φ it E ρ G λitems g G1=>CompG Φ elt tg cond items g (jH cap ρ) G1 λds G2=>mk fz ds G2 k:=rfl
theorem CompG.inv{elt:Ex}{tg:Tg}{cond:Tx}{items:List D}{g:Hld}{k:List D->DH->Prop}(P:Nat->List D->ak->DH->Prop)(h0:P 0 [] ρ G)(hh:∀i acc ρ G,P i acc ρ G->held g G)(hl:items.length<=sz)
  (hs:∀i d acc ρ G,items[i]?=some d->P i acc ρ G->∀kk:Option D->ak->DH->Prop,(∀o ρ' G',P (i+1) (acc++o.toList) ρ' G'->kk o ρ' G')->
   aQ tg d ρ G λρ1=>wpT Φ cond noE ρ1 G λb G2=>match b with |true=>wpE Φ elt noE ρ1 G2 λy G3=>kk (some y) ρ1 G3 |false=>kk none ρ1 G2)
  (he:∀acc ρ G,P items.length acc ρ G->k acc G):CompG Φ elt tg cond items g ρ G k:=Hw P h0 hh (by simpa using hl) hs he
theorem CompG.pure{elt:Ex}{tg:Tg}{cond:Tx}{items:List D}{g:Hld}{k:List D->DH->Prop}(f:D->Option D)(I:ak->Prop)(h0:I ρ)(hg:held g G)(hl:items.length<=sz)
  (hs:∀d ρ,d∈items->I ρ->∀kk:Option D->ak->DH->Prop,(∀ρ',I ρ'->kk (f d) ρ' G)->aQ tg d ρ G λρ1=>wpT Φ cond noE ρ1 G λb G2=>match b with |true=>wpE Φ elt noE ρ1 G2 λy G3=>kk (some y) ρ1 G3 |false=>kk none ρ1 G2)
  (he:k (items.filterMap f) G):CompG Φ elt tg cond items g ρ G k:=Hx g f I h0 hg hl hs he
theorem CompG.map{elt:Ex}{tg:Tg}{cond:Tx}{items:List D}{g:Hld}{k:List D->DH->Prop}(f:D->D)(I:ak->Prop)(h0:I ρ)(hg:held g G)(hl:items.length<=sz)
  (hs:∀d ρ,d∈items->I ρ->∀kk:Option D->ak->DH->Prop,(∀ρ',I ρ'->kk (some (f d)) ρ' G)->aQ tg d ρ G λρ1=>wpT Φ cond noE ρ1 G λb G2=>match b with |true=>wpE Φ elt noE ρ1 G2 λy G3=>kk (some y) ρ1 G3 |false=>kk none ρ1 G2)
  (he:k (items.map f) G):CompG Φ elt tg cond items g ρ G k:=acb g f I h0 hg hl hs he
def WhlG(Φ:aa)(c:Tx)(body:Sxs)(E:EK)(D:En)(n:Nat)(ρ:ak)(G:DH):Prop:=
 whileLoop (λρ' G' k=>wpT Φ c E ρ' G' k) (λρ' G' k=>au Φ body E ρ' G' { D with nx:=k,ct:=k,bk:=D.nx }) n ρ G D.nx
theorem yx{c:Tx}{body:Sxs}{D:En}:wpS Φ (.whl c body) E ρ G D=∃n,WhlG Φ c body E D n ρ G:=rfl
theorem WhlG.inv{c:Tx}{body:Sxs}{D:En}(P:Nat->ak->DH->Prop)(hs:∀n ρ G,P n ρ G->wpT Φ c E ρ G λb G1=>match b with |true=>∀kk:ak->DH->Prop,(∀m ρ' G',m < n->P m ρ' G'->kk ρ' G')->au Φ body E ρ G1 { D with nx:=kk,ct:=kk,bk:=D.nx } |false=>D.nx ρ G1):
  ∀n ρ G,P n ρ G->WhlG Φ c body E D (n+1) ρ G:=by
 intro n;induction n using Nat.strongRecOn with
 |_ n ih=>
  intro ρ G p;refine cQ c (λb G1 q=>?_) (hs n ρ G p);cases b with
  |false=>exact q
  |true=>
   refine q _ λm ρ' G' hm p'=>?_;have:=ih m hm ρ' G' p';have up:∀(i j:Nat)(ρ:ak)(G:DH),i<=j->WhlG Φ c body E D i ρ G->WhlG Φ c body E D j ρ G:=by
    intro i;induction i with
    |zero=>intro j ρ G _ h;exact h.elim
    |succ i ihi=>
     intro j ρ G hij h;cases j with
     |zero=>omega
     |succ j=>
      refine cQ c (λb G1 q=>?_) h;cases b with
      |false=>exact q
      |true=>exact dj body (D:={ D with nx:=λρ' G'=>WhlG Φ c body E D i ρ' G',ct:=λρ' G'=>WhlG Φ c body E D i ρ' G',bk:=D.nx }) ⟨λρ' G' z=>ihi j ρ' G' (by omega) z,λ_ _ z=>z,λ_ _ z=>z,λρ' G' z=>ihi j ρ' G' (by omega) z⟩ q
   exact up (m+1) n ρ' G' hm this
end
theorem len0{α:Type}{l:List α}(h:l.length=0):l=[]:=dv.mp h
theorem uv{α:Type}{n:Nat}{l:List α}(h:l.length=n+1):∃a r,l=a::r/\r.length=n:=by
 cases l with
 |nil=>cases h
 |cons a r=>exact ⟨a,r,rfl,Nat.succ.inj h⟩
theorem cL{α:Type}{l:List α}(h:l.length=1):∃a,l=[a]:=by obtain ⟨a,r,rfl,h2⟩:=uv h;cases len0 h2;exact ⟨a,rfl⟩
theorem bz{α:Type}{l:List α}(h:l.length=2):∃a b,l=[a,b]:=by obtain ⟨a,r,rfl,h2⟩:=uv h;obtain ⟨b,rfl⟩:=cL h2;exact ⟨a,b,rfl⟩
theorem eO{α:Type}{l:List α}(h:l.length=3):∃a b c,l=[a,b,c]:=by obtain ⟨a,r,rfl,h2⟩:=uv h;obtain ⟨b,c,rfl⟩:=bz h2;exact ⟨a,b,c,rfl⟩
theorem Nm{α:Type}{l:List α}(h:l.length=4):∃a b c d,l=[a,b,c,d]:=by obtain ⟨a,r,rfl,h2⟩:=uv h;obtain ⟨b,c,d,rfl⟩:=eO h2;exact ⟨a,b,c,d,rfl⟩
structure Fo(Φ:aa)(P:Program)(w:World)(K:PF)(mg:Str->Option Value)(base:Heap)(k:Nat)(f:String)(n:Nat):Prop where
 ex:∃fa fd ps,FnOk P w K mg base (CX1 P w) k fa fd ps (lift K n (Φ f))/\PySem.W.keepIn K (.ref fa)=true/\Binds K fd ps []/\mg (Str.ofString f)=some (.ref fa)
section
variable {Φ:aa} {P:Program} {w:World} {K:PF} {mg:Str->Option Value} {base:Heap} {k:Nat} {xs:List (String×Bool)} {ot:OT}
noncomputable def AllF(Φ:aa)(P:Program)(w:World)(K:PF)(mg:Str->Option Value)(base:Heap)(k:Nat):List (String×Nat)->Prop
 |[]=>True
 | (f,n)::r=>Fo Φ P w K mg base k f n/\AllF Φ P w K mg base k r
noncomputable def AllB(mg:Str->Option Value):List String->Prop
 |[]=>True
 |f::r=>mg (Str.ofString f)=none/\AllB mg r
noncomputable def AllC(K:PF)(mg:Str->Option Value):List (String×D)->Prop
 |[]=>True
 | (x,d)::r=>(∃u v,mg (Str.ofString x)=some u/\RelV v u/\∀H F,Rep K H F d v)/\AllC K mg r
theorem AllF.get:∀{fs:List (String×Nat)}{f:String}{n:Nat},AllF Φ P w K mg base k fs->(f,n)∈fs->Fo Φ P w K mg base k f n
 | (f',n')::r,f,n,h,m=>by
  rcases bS.mp m with e |m
  ·cases e;exact h.1
  ·exact AllF.get h.2 m
theorem AllB.get:∀{fs:List String}{f:String},AllB mg fs->f∈fs->mg (Str.ofString f)=none
 |f'::r,f,h,m=>by
  rcases bS.mp m with e |m
  ·cases e;exact h.1
  ·exact AllB.get h.2 m
theorem AllC.get:∀{fs:List (String×D)}{x:String}{d:D},AllC K mg fs->(x,d)∈fs->∃u v,mg (Str.ofString x)=some u/\RelV v u/\∀H F,Rep K H F d v
 | (f',n')::r,f,n,h,m=>by
  rcases bS.mp m with e |m
  ·cases e;exact h.1
  ·exact AllC.get h.2 m
noncomputable def cvB(K:PF)(C':String):Option V:=match PySem.W.nsIn K mainGlobals (Str.ofString C') with
 |some (some (.ref a))=>if Dn K a then some (.ref a) else none
 |some none=>if C'=="ValueError" then some (.ty "ValueError") else none
 |_=>none
noncomputable def xiB(K:PF)(C C':String)(cv:V):Bool:=match PySem.W.nsIn K mainGlobals (Str.ofString C) with
 |some (some (.ref c))=>Dm K c&&PySem.W.mroIn K c (valOf cv)==some (gO C C')&&(gO C C'||!(Value.ref c==valOf cv))
 |_=>false
noncomputable def yz(K:PF)(C:String):Bool:=match PySem.W.nsIn K mainGlobals (Str.ofString C) with
 |some (some (.ref c))=>ir K c
 |_=>false
noncomputable def xsB(K:PF)(xs:List (String×Bool)):Bool:=xs.all λp=>match p.2 with
 |true=>yz K p.1
 |false=>(cvB K p.1).any λcv=>xs.all λq=>!q.2||xiB K q.1 p.1 cv
theorem aci{h:Heap}(X:K.In h)(Gh:h.Ns mainGlobals mg){xs:List (String×Bool)}(e:xsB K xs=true)(C:String)(hC:xs.contains (C,true)=true):∃a,mg (Str.ofString C)=some (.ref a)/\ir K a=true/\PySem.W.nsIn K mainGlobals (Str.ofString C)=some (some (.ref a)):=by
 have e1:yz K C=true:=ck.mp e _ (bX.mp hC);unfold yz at e1;split at e1
 ·rename_i a hn;exact ⟨a,PySem.W.mg_of X Gh hn,e1,hn⟩
 ·cases e1
theorem acj{h:Heap}(X:K.In h)(Gh:h.Ns mainGlobals mg){xs:List (String×Bool)}(e:xsB K xs=true)(C':String)(hC:xs.contains (C',false)=true):∃cv,CV K mg C' cv/\∀C,xs.contains (C,true)=true->XI K C C' cv:=by
 have e1:((cvB K C').any λcv=>xs.all λq=>!q.2||xiB K q.1 C' cv)=true:=ck.mp e _ (bX.mp hC);obtain ⟨cv,hcv,h2⟩:=aY e1;refine ⟨cv,?_,λC hC=>?_⟩
 ·unfold cvB at hcv;split at hcv
  ·rename_i a hn;split at hcv
   ·rename_i hb;cases hcv;exact .inl ⟨a,rfl,PySem.W.mg_of X Gh hn,hb⟩
   ·cases hcv
  ·rename_i hn;split at hcv
   ·rename_i hb;cases hcv;exact .inr ⟨aI.mp hb,rfl,PySem.W.mg_none_of X Gh hn⟩
   ·cases hcv
  ·cases hcv
 ·have e3:(!true||xiB K C C' cv)=true:=ck.mp h2 _ (bX.mp hC);have e3:xiB K C C' cv=true:=e3;unfold xiB at e3;split at e3
  ·rename_i c hn;rw[ae,ae,aI]at e3;refine ⟨c,hn,e3.1.1,e3.1.2,λhs=>?_⟩;have:=e3.2;rw[hs,Bool.false_or,gg]at this;exact this
  ·cases e3
theorem bse{h:Heap}{fs:List (String×Nat)}{bt:List String}{cn:List (String×D)}(h1:AllF Φ P w K mg base k fs)(h2:AllB mg bt)(h3:AllC K mg cn)(X:K.In h)(Gh:h.Ns mainGlobals mg)(e:xsB K xs=true):Bse Φ P w K mg base (CX1 P w) k fs bt cn xs {}:=
 ⟨λ_ _ m=>(h1.get m).ex,λ_ m=>h2.get m,λ_ _ m=>h3.get m,aci X Gh e,acj X Gh e,(λ_ _ _ _ h=>(nomatch h)),(λ_ _ h=>(nomatch h)),(λ_ _ h=>(nomatch h))⟩
theorem yC{x:String}{i:Int}{t:Tok}(h:mg (Str.ofString x)=some (.int i t)):∃u v,mg (Str.ofString x)=some u/\RelV v u/\∀H F,Rep K H F (.int i) v:=⟨_,.int i,h,⟨t,rfl⟩,λ_ _=>rfl⟩
theorem ack{x:String}{l:List Nat}{s:Str}{t:Tok}(h:mg (Str.ofString x)=some (.str s t))(e:s=tx l)(hl:l.length<=sz):∃u v,mg (Str.ofString x)=some u/\RelV v u/\∀H F,Rep K H F (.str l) v:=⟨_,.str s,h,⟨t,rfl⟩,λ_ _=>⟨by rw[e],hl⟩⟩
theorem Np{n:Nat}{S:RF.Spec}{fa:Addr}{fd:FuncData}{ps:List Str}(h:∀ds G a,¬S.pre ds G a):FnOk P w K mg base (CX1 P w) k fa fd ps (lift K n S):=
 ⟨λ_ _ _ _ ⟨_,_,_,_,_,_,a,hp,_⟩=>absurd hp (h _ _ a),λ_ _ _ _ _ _ _ _ _ _ _ _ _ ⟨_,_,_,_,_,_,a,hp,_⟩=>absurd hp (h _ _ a)⟩
end
section
variable {Φ:aa} {P:Program} {w:World} {K:PF} {mg:Str->Option Value} {base:Heap} {k j n:Nat} {fs:List (String×Nat)} {bt:List String} {cn:List (String×D)} {xs:List (String×Bool)} {ot:OT} {x:String} {S:RF.Spec} {fa:Addr} {fd:FuncData} {ps:List Str}
theorem MthOk.mono{f C m:String}(h:MthOk Φ P w K mg base (CX1 P w) k f C m n)(hk:k<=j):MthOk Φ P w K mg base (CX1 P w) j f C m n:=by obtain ⟨c,fa,fd,ps,h1,h2,h3,h4,h5⟩:=h;exact ⟨c,fa,fd,ps,h1,h2,h3,h4,h5.mono hk⟩
theorem MkoOk.mono{C:String}(h:MkoOk Φ P w K mg base (CX1 P w) k C n)(hk:k<=j):MkoOk Φ P w K mg base (CX1 P w) j C n:=by obtain ⟨c,fa,fd,ps,sp,i,h0,h⟩:=h;exact ⟨c,fa,fd,ps,sp,i,b6 h0 hk,h⟩
theorem Bse.add(B:Bse Φ P w K mg base (CX1 P w) k fs bt cn xs ot)(e:Φ x=S)(o:FnOk P w K mg base (CX1 P w) (k+j) fa fd ps (lift K n S))(h2:PySem.W.keepIn K (.ref fa)=true)(h3:Binds K fd ps [])(h4:mg (Str.ofString x)=some (.ref fa)):Bse Φ P w K mg base (CX1 P w) (k+j) ((x,n)::fs) bt cn xs ot:=by
 refine ⟨λf m hm=>?_,B.blt,B.con,B.xcl,B.xis,λf C m n h=>(B.mth f C m n h).mono (dE _ _),λC n h=>(B.mko C n h).mono (dE _ _),B.fld⟩;rcases bS.mp hm with e' |hm
 ·cases e';exact ⟨fa,fd,ps,by rw[e];exact o,h2,h3,h4⟩
 ·obtain ⟨fa,fd,ps,h1,h⟩:=B.call f m hm;exact ⟨fa,fd,ps,h1.mono (dE _ _),h⟩
theorem Bse.step{qual:Str}{st:Stmt}{N:List Str}{body:Sxs}(B:Bse Φ P w K mg base (CX1 P w) k fs bt cn xs ot)(F:Fun K (Str.ofString x) qual st fa fd)(h3:Binds K fd ps [])(h4:mg (Str.ofString x)=some (.ref fa))(e:Φ x=S)(m:Nat)
  (hs:fnB N ps (aq st)=true) (hc:aC (aG N (aq st) fs bt cn xs ot) body (aF st)=true) (hn:ps.length=n) (hm:N.length=n+m)
  (hw:∀ds G a,ds.length=n->S.pre ds G a->au Φ body noE (env0 ds m) G (ends (S.post a))):Bse Φ P w K mg base (CX1 P w) (k+1) ((x,n)::fs) bt cn xs ot:=
 B.add e (ur F B S n m hs hc hn hm hw) F.kp h3 h4
def iQ(Φ:aa)(x:String)(S:RF.Spec):aa:=λf=>if f=x then S else Φ f
theorem jJ{y:String}(e:Φ y=S){S':RF.Spec}(h:(y==x)=false):iQ Φ x S' y=S:=by unfold iQ;rw[if_neg (by simpa using h)];exact e
theorem Bse.self(B:Bse Φ P w K mg base (CX1 P w) k fs bt cn xs {})(hx:(fs.map (·.1)).contains x=false)(o:FnOk P w K mg base (CX1 P w) (k+j) fa fd ps (lift K n S))(h2:PySem.W.keepIn K (.ref fa)=true)(h3:Binds K fd ps [])(h4:mg (Str.ofString x)=some (.ref fa)):Bse (iQ Φ x S) P w K mg base (CX1 P w) (k+j) ((x,n)::fs) bt cn xs {}:=by
 refine ⟨λf m hm=>?_,B.blt,B.con,B.xcl,B.xis,(λ_ _ _ _ h=>(nomatch h)),(λ_ _ h=>(nomatch h)),(λ_ _ h=>(nomatch h))⟩;rcases bS.mp hm with e' |hm'
 ·cases e';exact ⟨fa,fd,ps,by unfold iQ;rw[if_pos rfl];exact o,h2,h3,h4⟩
 ·obtain ⟨fa,fd,ps,h1,h⟩:=B.call f m hm';have hf:f≠x:=by
   rintro rfl;rw[<-Bool.not_eq_true,bX]at hx;exact hx (ce.mpr ⟨(f,m),hm',rfl⟩)
  exact ⟨fa,fd,ps,by unfold iQ;rw[if_neg hf];exact h1.mono (dE _ _),h⟩
end
theorem acl{S:RF.Spec}(hS:∀(ns:List Int)(G:DH),ns.length<=63->∃a,S.pre [.scr ns] G a/\(∀d G',S.post a d G'->d=.bl true)/\∀x G',¬S.exc a x G')(K:PF)(H:Hp)(a:Addr)(ns:List Int)(hl:ns.length<=63)(hO:Only H)(hs:SqL K H a (ns.map V.int)):
  lift K 1 S [.ref a] H (λv _=>v=.bl true) λ_ _ _=>False:=by
 obtain ⟨b,h1,h2,h3⟩:=hS ns (λ_=>none) hl;refine ⟨rfl,λ_=>False,λ_=>none,[.scr ns],⟨λ_ f=>f.elim,λ_ _ e=>by cases e⟩,⟨.ref a,[],rfl,⟨a,rfl,?_⟩,rfl⟩,b,h1,λd G' q H' F' v _ _ rv=>?_,λx G' q=>absurd q (h3 x G')⟩
 ·rcases hs with (h |h) |h
  ·exfalso;rcases hO a with z |⟨o,u,z⟩
   ·rw[z]at h;cases h
   ·rw[z]at h;cases h
  ·exact .inl h
  ·exact .inr h
 ·rw[h2 d G' q]at rv;exact rv
theorem acn{pre:List D->DH->Prop}(h:∀(ns:List Int)(G:DH),ns.length<=63->pre [.scr ns] G):∀(ns:List Int)(G:DH),ns.length<=63->∃a,(bO pre (λ_ _ d _=>d=.bl true)).pre [.scr ns] G a/\(∀d G',(bO pre (λ_ _ d _=>d=.bl true)).post a d G'->d=.bl true)/\∀x G',¬(bO pre (λ_ _ d _=>d=.bl true)).exc a x G':=
 λns G hl=>⟨([.scr ns],G),⟨rfl,h ns G hl⟩,λ_ _ q=>q,λ_ _ z=>z⟩
def ghS{A:Type}(pre:A->List D->DH->Prop)(post:A->DH->D->DH->Prop):RF.Spec where
 A:=A×DH
 pre:=λds G a=>a.2=G/\pre a.1 ds G
 post:=λa d G'=>post a.1 a.2 d G'
 exc:=λ_ _ _=>False
theorem fJ{A:Type}{pre:A->List D->DH->Prop}{post:A->DH->D->DH->Prop}{ds:List D}{G:DH}{k:D->DH->Prop}{E:EK}(a:A)(h:pre a ds G)(hk:∀d G',post a G d G'->k d G'):(ghS pre post).t ds G k E:=
 ⟨(a,G),⟨rfl,h⟩,hk,λ_ _ z=>z.elim⟩
theorem fK{A:Type}{Φ:aa}{body:Sxs}{m n:Nat}{pre:A->List D->DH->Prop}{post:A->DH->D->DH->Prop}(h:∀a ds G,pre a ds G->au Φ body noE (env0 ds m) G (ends (post a G))):
  ∀ds G a,ds.length=n->(ghS pre post).pre ds G a->au Φ body noE (env0 ds m) G (ends ((ghS pre post).post a)):=by
 rintro ds G ⟨a,G0⟩ _ ⟨rfl,h1⟩;exact h a ds _ h1
def bK{A:Type}(args:A->List D)(ok:A->Prop)(val:A->D):RF.Spec:=ghS (λa ds _=>ds=args a/\ok a) (λa G d G'=>G'=G/\d=val a)
theorem bQ{A:Type}{args:A->List D}{ok:A->Prop}{val:A->D}{ds:List D}{G:DH}{k:D->DH->Prop}{E:EK}(a:A)(e:ds=args a)(h:ok a)(hk:k (val a) G):(bK args ok val).t ds G k E:=
 fJ a ⟨e,h⟩ λd G' ⟨e1,e2⟩=>by subst e1 e2;exact hk
theorem bW{A:Type}{Φ:aa}{body:Sxs}{m n:Nat}{args:A->List D}{ok:A->Prop}{val:A->D}(h:∀a G,ok a->au Φ body noE (env0 (args a) m) G (ends λd G'=>G'=G/\d=val a)):
  ∀ds G a,ds.length=n->(bK args ok val).pre ds G a->au Φ body noE (env0 ds m) G (ends ((bK args ok val).post a)):=
 fK λa ds G ⟨e,h1⟩=>by subst e;exact h a G h1
theorem ai{a b:Prop}(x:a)(y:b):a/\b:=⟨x,y⟩
def Nq:=ai @rW (ai @gQ (ai @rY (ai @rZ (ai @wR (ai @sr (ai @su (ai @sy (ai @sE (ai @sG (ai @sH (ai (ai @sJ (ai @kI (ai @wV (ai @wW (ai (ai @w5 (ai @wX (ai @wY @wZ))) (ai @xf (ai @xg (ai (ai @wG (ai (ai (ai @wI (ai @wJ (ai @wK @wL))) (ai @wH @wM)) (ai @wN (ai @wO @wQ)))) (ai @wU @sI))))))))) (ai @Ng (ai @yx (ai (ai @rA (ai @qQ (ai @qR (ai @qT (ai @jt (ai @iy (ai @gP (ai @qU (ai @kh (ai @qW (ai @kj (ai @qX (ai @qY (ai @qZ (ai @q8 (ai @q9 (ai @rm (ai @wD (ai @rn @rz))))))))))))))))))) (ai @iz (ai @rB (ai @rD (ai @rE (ai @km (ai @kE (ai @rF (ai @rG (ai @rH (ai @rJ (ai @rK (ai @rM (ai (ai @rN @wF) (ai @rO (ai @rP (ai @rQ (ai @rR (ai @d8 (ai @rT (ai @Nk (ai @HW (ai @HX (ai @HY (ai @H9 (ai @Ia (ai @Ib (ai (ai @Ih (ai @Ig @Ie)) (ai @Ii (ai @Ij (ai @Ik (ai @Il (ai @Im (ai @Io (ai @Ip (ai @Ir (ai @Iu (ai @Iv (ai @Iw (ai @Iz (ai @IK (ai @IV (ai @IW (ai @Ja (ai @Jb (ai @Jc (ai @Jd (ai @Jf (ai @Jg (ai @Jh (ai @Ji (ai @Jj (ai @Jl (ai @Jm (ai @Jo (ai @Jp (ai @Jr (ai @Js (ai @Jt (ai @Ju (ai (ai @Jw @Jv) (ai @Jx (ai @Jy (ai @JC (ai @JD (ai @JF (ai @JG (ai @JH (ai @JK (ai @JL (ai @JM (ai (ai @JT @JS) (ai (ai @JV (ai (ai @JR (ai @JP @JQ)) @JN)) (ai @JW (ai @JX (ai @JZ (ai @J0 (ai (ai @J1 (ai @J6 (ai @J7 (ai @J8 (ai @J9 (ai @Kw @Kv)))))) (ai @J2 (ai (ai @J5 (ai @J3 @J4)) (ai @Ka (ai @Kc (ai @Kd (ai @Ke (ai @Kf (ai @Kg (ai @Kh (ai @Kl (ai @Km (ai @Ko (ai @Kp (ai @Kq (ai @Kr (ai @Ks (ai @Ku (ai @Ky (ai @Kz (ai @KC (ai @KD (ai @KH (ai @KJ (ai @KN (ai @KQ (ai @KR (ai @KY (ai @KZ (ai @K1 (ai @K3 (ai @K4 (ai @is_tup (ai @K5 (ai @K6 (ai (ai @K8 @K7) (ai @K9 (ai @La (@Jq)))))))))))))))))))))))))))))))))))))))))))))))))))))))))))))))))))))))))))))))))))))))))))))))))))))))))))))))))))))))))))))))))
theorem aco:type_of% (af @ju @jw):=af @ju @jw
theorem Nr:type_of% (af @Nh (af @Ni (af @Nj (af @Option.join_some.{0} (af @br.{0,0} (af @de.{0,0} (af @List.cons_append.{0} (af @List.nil_append.{0} (af @cp.{0} (af @List.replicate_zero.{0} (af @List.getElem?_cons_zero.{0} (af @gv.{0} (af @List.set_cons_zero.{0} (af @List.set_cons_succ.{0} (af @cf.{0} (af @e7.{0} (af @Hz (af @HB (af @HF (af @HH (af @HJ (af @HN (af @HQ (af @true_and (af @fE (af @Nat.min_self (af @Nat.zero_min (af @Nat.min_zero (af @d3 (af @Bool.or_false (af @Bool.or_true (af @Bool.false_or (af @Bool.true_or (af @Bool.not_true (af @Bool.not_false (af @Lb (af @Ld (af @Lg (af @Lh (af @Li (af @Lj (af @Lk (af @Ln (af @Lp (af @Lq (af @Lr (af @Ls (af @Lw (af @Lx (af @Ly (af @Lz (af @LC (af @LK (af @LQ (af @yw (af @LR (af @Ma (af @Mg (af @Mh (af @Mi (af @Mj (af @Ml (af @Mm (af @Mp (af @Mq (af @Mr (af @Ms (af @Mt (af @Mu (af @Mv (af @Mw (af @Mx (af @My (af @Mz (af @MF (af @MJ (af @MK (af @MN (af @MP (af @MT (af @M3 (af @M4 (af @M5 (af @M6 (af @M7 (af @M8 (af @M9 (af @Nb (@Nf))))))))))))))))))))))))))))))))))))))))))))))))))))))))))))))))))))))))))))))))))))))))):=af @Nh (af @Ni (af @Nj (af @Option.join_some.{0} (af @br.{0,0} (af @de.{0,0} (af @List.cons_append.{0} (af @List.nil_append.{0} (af @cp.{0} (af @List.replicate_zero.{0} (af @List.getElem?_cons_zero.{0} (af @gv.{0} (af @List.set_cons_zero.{0} (af @List.set_cons_succ.{0} (af @cf.{0} (af @e7.{0} (af @Hz (af @HB (af @HF (af @HH (af @HJ (af @HN (af @HQ (af @true_and (af @fE (af @Nat.min_self (af @Nat.zero_min (af @Nat.min_zero (af @d3 (af @Bool.or_false (af @Bool.or_true (af @Bool.false_or (af @Bool.true_or (af @Bool.not_true (af @Bool.not_false (af @Lb (af @Ld (af @Lg (af @Lh (af @Li (af @Lj (af @Lk (af @Ln (af @Lp (af @Lq (af @Lr (af @Ls (af @Lw (af @Lx (af @Ly (af @Lz (af @LC (af @LK (af @LQ (af @yw (af @LR (af @Ma (af @Mg (af @Mh (af @Mi (af @Mj (af @Ml (af @Mm (af @Mp (af @Mq (af @Mr (af @Ms (af @Mt (af @Mu (af @Mv (af @Mw (af @Mx (af @My (af @Mz (af @MF (af @MJ (af @MK (af @MN (af @MP (af @MT (af @M3 (af @M4 (af @M5 (af @M6 (af @M7 (af @M8 (af @M9 (af @Nb (@Nf))))))))))))))))))))))))))))))))))))))))))))))))))))))))))))))))))))))))))))))))))))))))
section
local macro_rules|`(#[])=>`(.nil)|`(#[$x])=>`(.cons $x .nil)|`(#[$x,$y,*])=>`(.cons $x #[$y,*])
local macro_rules|`(-$x)=>`(.var $x)
local macro_rules|`(¬$x)=>`(.cst (.int $x))
local macro_rules|`(!$x)=>`(.cst (.str $x))
local macro_rules|`($x<|$y)=>`(.call $x $y)
def yD:Sxs:=#[.set (-0) (¬2) (¬0),.ret (-0)]
noncomputable def yE:Sxs:=#[.ite (.val (.cmp .GtE (-0) (.bin .Pow true (¬10) (¬18)))) #[.ret (-0)] #[],.asg (.nm 2) (.bin .Mod true (.bin .Add true (.bin .Add true (.bin .Mult true (.bin .Mod true (-0) (¬1000000007)) (¬69069)) (.bin .Mult true (-1) (¬40503))) (¬977)) (¬2147483629)),.asg (.nm 3) (.bin .Mod true (.bin .Add true (.bin .Add true (.bin .Mult true (-2) (-2)) (.bin .Mult true (-1) (¬7919))) (.bin .Mod true (-0) (¬65537))) (¬2147483587)),.asg (.nm 4) (.bin .Mod true (.bin .Add true (.bin .Add true (.bin .Mult true (-3) (-3)) (.bin .Mult true (-2) (¬31))) (¬5)) (¬2147483563)),.ret (.bin .Add true (.bin .Mult true (.bin .Add true (.bin .Mult true (-2) (¬2147483659)) (-3)) (¬2147483693)) (-4))]
noncomputable def yF:Sxs:=#[.ite (.val (.cmp .Lt (.idx (-0) (¬2)) (-1))) #[.asg (.nm 2) (.idx (-0) (¬1)),.asg (.nm 3) (¬0),.ite (.val (.cmp .Lt (-2) (.bcl .len #[.idx (-0) (¬0)]))) #[.asg (.nm 3) (.idx (.idx (-0) (¬0)) (-2))] #[.ite (.val (.cmp .Gt (.bcl .len #[.idx (-0) (¬0)]) (¬0))) #[.asg (.nm 3) (.bin .Mod true (.idx (.idx (-0) (¬0)) (.bin .Mod true (.bin .Add true (.bin .Mult true (-2) (¬5)) (¬3)) (.bcl .len #[.idx (-0) (¬0)]))) (.bin .Add true (.bin .Pow true (¬10) (¬17)) (-2)))] #[]],.set (-0) (¬1) (.bin .Add true (-2) (¬1)),.set (-0) (¬2) ("_law_spread"<|#[-3,-2])] #[],.asg (.nm 4) (.bin .Mod true (.idx (-0) (¬2)) (-1)),.set (-0) (¬2) (.bin .FloorDiv true (.idx (-0) (¬2)) (-1)),.ret (-4)]
noncomputable def yG:Sxs:=#[.ret (.mth .join (![]) #[.comp true (.idx (-1) ("_law_take"<|#[-2,.bcl .len #[-1]])) (.nm 0) (.rng (-1)) .yes ["at","signs","pen"] [none,some 2,some 0]])]
noncomputable def yH:Sxs:=#[.asg (.nm 2) (.lst true #[![97],![103,111],![115,116,97,121],![97,98,99,100,101,102,103,104],![110,111,110,101],![121,101,115],![105,110],![111,117,116],![107,101,101,112],![119,111,114,100],![122,122]]),.asg (.nm 3) ("_law_take"<|#[-0,¬11]),.asg (.nm 4) (.comp true (.idx (-1) (.bin .Mod true (.bin .Add true (-2) (.bin .Mult true (¬3) (-0))) (¬11))) (.nm 0) (.rng (.bin .Add true (¬1) ("_law_take"<|#[-0,-1]))) .yes ["k","some","turn"] [none,some 2,some 3]),.ite (.val (.cmp .Eq ("_law_take"<|#[-0,¬3]) (¬0))) #[.asg (.nm 5) (![97,98,99,100,101,102,103,104,105,106,107,108,109,110,111,112,113,114,115,116,117,118,119,120,121,122]),.asg (.nm 4) (.comp true ("_law_signs"<|#[-1,.bin .Add true (¬1) ("_law_take"<|#[-1,¬8]),-2]) (.nm 0) (.seq (-4)) .yes ["one","pen","letters"] [none,some 0,some 5])] #[],.ret (-4)]
noncomputable def yI:Sxs:=#[.ret ("_law_signs"<|#[-0,-1,.idx (.lst true #[![48,49,42],![48,49,42,42],![48,49,42,42,42,42],![48,42],![48,49]]) ("_law_take"<|#[-0,¬5])])]
noncomputable def yJ:Sxs:=#[.asg (.nm 2) (![]),.for_ (.nm 3) (.seq (-1)) #[.ite (.val (.cmp .Eq ("_law_take"<|#[-0,¬3]) (¬0))) #[.asg (.nm 3) (![42])] #[],.asg (.nm 2) (.bin .Add true (-2) (-3))],.ret (-2)]
noncomputable def yK:Sxs:=#[.asg (.nm 2) (![]),.for_ (.nm 3) (.seq (-1)) #[.ite (.boo true (.val (.cmp .Eq (-3) (![42]))) #[.val (.cmp .Eq ("_law_take"<|#[-0,¬2]) (¬0))]) #[.asg (.nm 3) (.idx (![48,49]) ("_law_take"<|#[-0,¬2]))] #[],.asg (.nm 2) (.bin .Add true (-2) (-3))],.ret (-2)]
noncomputable def yL:Sxs:=#[.asg (.nm 3) ("_law_take"<|#[-0,¬7]),.ite (.boo false (.val (.cmp .Eq (-2) (.lst true #[]))) #[.val (.cmp .Lt (-3) (¬2))]) #[.ret ("_law_form"<|#[-0,-1])] #[],.asg (.nm 4) (.idx (-2) ("_law_take"<|#[-0,.bcl .len #[-2]])),.ite (.val (.cmp .Eq (-3) (¬2))) #[.ret (-4)] #[],.ite (.val (.cmp .Lt (-3) (¬5))) #[.asg (.nm 5) ("_law_take"<|#[-0,-1]),.ret (.bin .Add true (.bin .Add true (.slc true (-4) .no (.ob (-5))) (.idx (![48,49,42]) ("_law_take"<|#[-0,¬3]))) (.slc true (-4) (.ob (.bin .Add true (-5) (¬1))) .no))] #[],.ite (.val (.cmp .Eq (-3) (¬5))) #[.ret ("_law_within"<|#[-0,-4])] #[],.ret ("_law_wider"<|#[-0,-4])]
noncomputable def yM:Sxs:=#[.asg (.nm 3) (.bin .Add true (¬1) ("_law_take"<|#[-0,-1])),.asg (.nm 4) ("_law_deeds_of"<|#[-0,¬3]),.asg (.nm 5) (.lst false #[]),.asg (.nm 6) (.lst false #[]),.for_ (.nm 7) (.rng ("_law_take"<|#[-0,.bin .Add true (-2) (¬1)])) #[.exp (.mth .append (-5) #["_law_form_like"<|#[-0,-3,-5]]),.exp (.mth .append (-6) #[.tup #[.idx (-5) (.neg (¬1)),.idx (-4) ("_law_take"<|#[-0,.bcl .len #[-4]])]])],.ret (.tup #[-3,.bcl .tuple #[-6]])]
noncomputable def yN:Sxs:=#[.ret (.cmp .Eq (.comp true (¬1) (.tp #[.nm 0,.nm 1]) (.zip (-0) (-1)) (.val (.cmp .In (.bin .Add true (-0) (-1)) (.tup #[![48,49],![49,48]]))) ["one","two"] [none,none]) (.lst true #[]))]
noncomputable def yO:Sxs:=#[.asg (.nm 2) ("_law_take"<|#[-0,.bcl .len #[-1]]),.asg (.tp #[.nm 3,.nm 4]) (.idx (-1) (-2)),.asg (.nm 5) (.comp true (-0) (.nm 0) (.rng (.bcl .len #[-3])) (.val (.cmp .Eq (.idx (-1) (-0)) (![42]))) ["place","form"] [none,some 3]),.asg (.nm 6) ("_law_take"<|#[-0,¬5]),.ite (.boo true (.val (.cmp .Eq (-6) (¬0))) #[.val (.cmp .NotEq (-5) (.lst true #[]))]) #[.asg (.nm 7) (.idx (-5) ("_law_take"<|#[-0,.bcl .len #[-5]])),.asg (.nm 8) (.comp true (.tup #[.bin .Add true (.bin .Add true (.slc true (-2) .no (.ob (-3))) (-0)) (.slc true (-2) (.ob (.bin .Add true (-3) (¬1))) .no),-1]) (.nm 0) (.seq (.idx (.lst true #[![48,49],![49,48]]) ("_law_take"<|#[-0,¬2]))) .yes ["sign","one","form","place"] [none,some 4,some 3,some 7]),.ret (.bin .Add true (.bin .Add true (.slc true (-1) .no (.ob (-2))) (-8)) (.slc true (-1) (.ob (.bin .Add true (-2) (¬1))) .no))] #[],.ite (.val (.cmp .Eq (-6) (¬1))) #[.asg (.nm 7) (.bin .Add true (.bin .Add true (-2) (¬1)) ("_law_take"<|#[-0,.bin .Sub true (.bcl .len #[-1]) (-2)])),.ret (.bin .Add true (.bin .Add true (.slc true (-1) .no (.ob (-7))) (.lst true #[.tup #["_law_within"<|#[-0,-3],.idx (.idx (-1) ("_law_take"<|#[-0,.bcl .len #[-1]])) (¬1)]])) (.slc true (-1) (.ob (-7)) .no))] #[],.ite (.val (.cmp .Eq (-6) (¬2))) #[.ret (.bin .Add true (.bin .Add true (.slc true (-1) .no (.ob (-2))) (.lst true #[.tup #["_law_within"<|#[-0,-3],-4]])) (.slc true (-1) (.ob (-2)) .no))] #[],.ite (.boo true (.val (.cmp .Lt (.bin .Add true (-2) (¬1)) (.bcl .len #[-1]))) #[.boo false (.val (.cmp .Eq (.idx (.idx (-1) (.bin .Add true (-2) (¬1))) (¬1)) (-4))) #[.not (.val ("_law_meet"<|#[-3,.idx (.idx (-1) (.bin .Add true (-2) (¬1))) (¬0)]))]]) #[.ret (.bin .Add true (.bin .Add true (.slc true (-1) .no (.ob (-2))) (.lst true #[.idx (-1) (.bin .Add true (-2) (¬1)),.idx (-1) (-2)])) (.slc true (-1) (.ob (.bin .Add true (-2) (¬2))) .no))] #[],.ret (-1)]
noncomputable def yP:Sxs:=#[.asg (.nm 3) (.lcl true .list #[.idx (-1) (¬1)]),.for_ (.nm 4) (.rng (.bin .Mult true (-2) (.bcl .int #[.cmp .NotEq (-3) (.lst true #[])]))) #[.ite (.val (.cmp .Lt (.bcl .len #[-3]) (¬12))) #[.asg (.nm 3) ("_law_one_turning"<|#[-0,-3])] #[]],.ret (.tup #[.idx (-1) (¬0),.bcl .tuple #[-3]])]
noncomputable def yQ:Sxs:=#[.asg (.nm 3) ("_law_book"<|#[-0,-1,-2]),.ret ("_law_turned_alike"<|#[-0,-3,"_law_take"<|#[-0,¬5]])]
noncomputable def yR:Sxs:=#[.asg (.nm 1) (.lcl false .list #[.slc true (-0) .no (.ob (¬12))]),.for_ (.tp #[.nm 2,.nm 3]) (.enm (.slc true (-0) (.ob (¬12)) (.ob (¬63)))) #[.set (-1) (.bin .Mod true (-2) (¬12)) (.bin .Add true (.idx (-1) (.bin .Mod true (-2) (¬12))) (-3))],.ret (.lst false #[.frz (-1),¬0,¬0])]
noncomputable def lH:Sxs:=#[.asg (.nm 2) (![]),.for_ (.tp #[.nm 3,.nm 4]) (.zip (-0) (-1)) #[.ite (.val (.cmp .Eq (-3) (![42]))) #[.aug 2 .Add (-4)] #[.ite (.boo false (.val (.cmp .Eq (-4) (![42]))) #[.val (.cmp .Eq (-4) (-3))]) #[.aug 2 .Add (-3)] #[.ret (.cst .non)]]],.ret (-2)]
noncomputable def lJ:Sxs:=#[.for_ (.tp #[.nm 2,.nm 3]) (.enm (-0)) #[.ite (.val (.cmp .IsNot ("both"<|#[.idx (-3) (¬0),-1]) (.cst .non))) #[.ret (-2)] #[]],.ret (.cst .non)]
noncomputable def lK:Sxs:=#[.asg (.nm 2) ("first_touching"<|#[-0,-1]),.ite (.val (.cmp .Is (-2) (.cst .non))) #[.ret (.cst .non)] #[],.for_ (.tp #[.nm 3,.nm 4]) (.enm (.idx (.idx (-0) (-2)) (¬0))) #[.ite (.boo true (.val (.cmp .Eq (.idx (-1) (-3)) (![42]))) #[.val (.cmp .NotEq (-4) (![42]))]) #[.ret (-3)] #[]],.ret (.cst .non)]
noncomputable def lL:Sxs:=#[.ret (.bin .Add true (.bin .Add true (.slc true (-0) .no (.ob (-1))) (-2)) (.slc true (-0) (.ob (.bin .Add true (-1) (¬1))) .no))]
noncomputable def jK:Sxs:=#[.for_ (.nm 3) (.seq (-1)) #[.asg (.nm 4) ("splitting_place"<|#[-3,-2]),.ite (.val (.cmp .IsNot (-4) (.cst .non))) #[.asg (.nm 5) ("grown"<|#[-0,-1,"with_sign"<|#[-2,-4,![48]]]),.asg (.nm 6) ("grown"<|#[-0,-1,"with_sign"<|#[-2,-4,![49]]]),.ret (.tup #[![115,112,108,105,116],-4,-5,-6])] #[]],.ret (.bin .Add true (.tup #[-0]) (.bcl .tuple #[.comp true ("first_touching"<|#[-0,-1]) (.nm 0) (.seq (-1)) .yes ["rows","box"] [none,some 2]]))]
noncomputable def lM:Sxs:=#[.ret (.boo true (.isi (-2) "tuple") #[.cmp .Eq (.bcl .len #[-2]) (.bin .Add true (-1) (¬1)),.cmp .Eq (.idx (-2) (¬0)) (-0)])]
noncomputable def lN:Sxs:=#[.ret (.boo true (.isi (-0) "int") #[.not (.isi (-0) "bool")])]
noncomputable def lO:Sxs:=#[.ret (.boo true ("is_whole"<|#[-1]) #[.chn .LtE .Lt (¬0) (-1) (-0)])]
noncomputable def iR:Sxs:=#[.ite (.not (.val ("is_named"<|#[![115,112,108,105,116],¬3,-1]))) #[.ret (.lst true #[.tup #[-0,-1]])] #[],.asg (.nm 2) (.idx (-1) (¬1)),.ite (.boo false (.not (.val ("is_place"<|#[.bcl .len #[-0],-2]))) #[.val (.cmp .NotEq (.idx (-0) (-2)) (![42]))]) #[.ret (.cst .non)] #[],.asg (.nm 3) ("leaves"<|#["with_sign"<|#[-0,-2,![48]],.idx (-1) (¬2)]),.asg (.nm 4) ("leaves"<|#["with_sign"<|#[-0,-2,![49]],.idx (-1) (¬3)]),.ite (.boo false (.val (.cmp .Is (-3) (.cst .non))) #[.val (.cmp .Is (-4) (.cst .non))]) #[.ret (.cst .non)] #[],.ret (.bin .Add true (-3) (-4))]
noncomputable def lQ:Sxs:=#[.ite (.boo false (.not (.val (.isi (-0) "str"))) #[.not (.val (.chn .LtE .LtE (¬1) (.bcl .len #[-0]) (.glb "LONGEST_DEED" (.int 8))))]) #[.ret (.cst (.bl false))] #[],.ret (.bcl .all #[.comp true (.cmp .In (-0) (.glb "LETTERS" (.str [97,98,99,100,101,102,103,104,105,106,107,108,109,110,111,112,113,114,115,116,117,118,119,120,121,122]))) (.nm 0) (.seq (-0)) .yes ["sign"] [none]])]
noncomputable def lR:Sxs:=#[.ite (.boo false (.not (.val (.isi (-2) "str"))) #[.val (.cmp .NotEq (.bcl .len #[-2]) (-1))]) #[.ret (.cst (.bl false))] #[],.ret (.bcl .all #[.comp true (.cmp .In (-0) (-1)) (.nm 0) (.seq (-2)) .yes ["sign","signs"] [none,some 0]])]
noncomputable def lU:Sxs:=#[.ret ("is_text_of"<|#[![48,49,42],-0,-1])]
noncomputable def lV:Sxs:=#[.ite (.boo false (.not (.val (.isi (-1) "tuple"))) #[.val (.cmp .NotEq (.bcl .len #[-1]) (¬2))]) #[.ret (.cst (.bl false))] #[],.ret (.boo true ("is_form"<|#[-0,.idx (-1) (¬0)]) #["is_deed"<|#[.idx (-1) (¬1)]])]
noncomputable def lW:Sxs:=#[.ret (.boo true ("is_whole"<|#[-0]) #[.chn .LtE .LtE (¬1) (-0) (.glb "WIDEST" (.int 6))])]
noncomputable def lX:Sxs:=#[.ite (.boo false (.not (.val (.isi (-0) "tuple"))) #[.val (.cmp .NotEq (.bcl .len #[-0]) (¬2))]) #[.ret (.cst (.bl false))] #[],.asg (.tp #[.nm 1,.nm 2]) (-0),.ite (.boo false (.not (.val ("is_width"<|#[-1]))) #[.not (.val (.isi (-2) "tuple")),.val (.cmp .Gt (.bcl .len #[-2]) (.glb "MOST_ROWS" (.int 12)))]) #[.ret (.cst (.bl false))] #[],.ret (.bcl .all #[.comp true ("is_row"<|#[-1,-0]) (.nm 0) (.seq (-2)) .yes ["row","width"] [none,some 1]])]
noncomputable def lY:Sxs:=#[.ite (.not (.val ("is_book"<|#[-0]))) #[.rse "NoBook" #[]] #[]]
noncomputable def lZ:Sxs:=#[.exp ("need_book"<|#[-0]),.exp ("need_book"<|#[-1]),.ite (.val (.cmp .NotEq (.idx (-0) (¬0)) (.idx (-1) (¬0)))) #[.rse "NoMatch" #[.idx (-0) (¬0),.idx (-1) (¬0)]] #[]]
noncomputable def jL:Sxs:=#[.ite (.val (.cmp .Is (-1) (.cst .non))) #[.ret (.cst .non)] #[],.ret (.idx (.idx (.idx (-0) (¬1)) (-1)) (¬1))]
noncomputable def mj:Sxs:=#[.ret (.cmp .Eq ("deed_of"<|#[-0,.idx (-2) (¬1)]) ("deed_of"<|#[-1,.idx (-2) (¬2)]))]
def mq:Sxs:=#[.ret (.bin .Mult true (![42]) (-0))]
noncomputable def my:Sxs:=#[.exp ("need_two_books"<|#[-0,-1]),.asg (.nm 2) ("stars"<|#[.idx (-0) (¬0)]),.asg (.nm 3) ("grown"<|#[![115,97,109,101],.lst true #[.idx (-0) (¬1),.idx (-1) (¬1)],-2]),.asg (.nm 4) (.comp true ("least"<|#[-0]) (.tp #[.nm 0,.nm 1]) (.seq ("leaves"<|#[-2,-3])) (.not (.val ("same_deeds"<|#[-2,-3,-1]))) ["part","leaf","one","other"] [none,none,some 0,some 1]),.ite (.val (-4)) #[.ret (.tup #[![112,97,114,116,101,100],.bcl .min #[-4]])] #[],.ret (.tup #[![97,108,105,107,101],-3])]
noncomputable def mz:Sxs:=#[.exp ("need_book"<|#[-0]),.ite (.not (.val ("is_place"<|#[.bcl .len #[.idx (-0) (¬1)],-1]))) #[.rse "NoRow" #[.bcl .len #[.idx (-0) (¬1)]]] #[]]
noncomputable def mC:Sxs:=#[.exp ("need_row"<|#[-0,-1]),.asg (.nm 2) (.idx (-0) (¬1)),.asg (.nm 3) (.idx (.idx (-2) (-1)) (¬0)),.asg (.nm 4) ("grown"<|#[![117,110,100,101,114],.lst true #[.slc true (-2) .no (.ob (-1))],-3]),.asg (.nm 5) (.comp true ("least"<|#[-0]) (.tp #[.nm 0,.nm 1]) (.seq ("leaves"<|#[-3,-4])) (.val (.cmp .Is (.idx (-1) (¬1)) (.cst .non))) ["box","leaf"] [none,none]),.ite (.val (-5)) #[.ret (.tup #[![119,111,114,100],.bcl .min #[-5]])] #[],.ret (.tup #[![104,105,100,100,101,110],-4])]
noncomputable def mD:Sxs:=#[.exp ("need_book"<|#[-0]),.ret (.comp false (-0) (.nm 0) (.rng (.bcl .len #[.idx (-0) (¬1)])) (.val (.cmp .Eq (.idx ("reach"<|#[-1,-0]) (¬0)) (![104,105,100,100,101,110]))) ["number","book"] [none,some 0])]
noncomputable def mF:Sxs:=#[.ite (.val (.cmp .NotEq (.bcl .len #[-0]) (.bcl .len #[-1]))) #[.ret (.cst (.bl false))] #[],.ret (.bcl .all #[.comp true (.boo false (.cmp .Eq (-0) (![42])) #[.cmp .Eq (-0) (-1)]) (.tp #[.nm 0,.nm 1]) (.zip (-0) (-1)) .yes ["sign","given"] [none,none]])]
def mG:Sxs:=#[.ret ("fits"<|#[-1,-0])]
noncomputable def mH:Sxs:=#[.ite (.val ("lies_in"<|#[-0,-1])) #[.ret (-1)] #[],.ite (.val ("lies_in"<|#[-1,-0])) #[.ret (-0)] #[],.asg (.nm 2) (.comp true (-0) (.tp #[.nm 0,.nm 1]) (.enm (-0)) (.val (.cmp .NotEq (-1) (.idx (-2) (-0)))) ["at","sign","other"] [none,none,some 1]),.ite (.val (.cmp .Eq (.bcl .len #[-2]) (¬1))) #[.ret ("with_sign"<|#[-0,.idx (-2) (¬0),![42]])] #[],.ret (.cst .non)]
noncomputable def mJ:Sxs:=#[.exp ("need_row"<|#[-0,-1]),.asg (.tp #[.nm 2,.nm 3]) (-0),.ret (.tup #[-2,.bin .Add true (.slc true (-3) .no (.ob (-1))) (.slc true (-3) (.ob (.bin .Add true (-1) (¬1))) .no)])]
noncomputable def mK:Sxs:=#[.asg (.tp #[.nm 4,.nm 5]) (-0),.asg (.nm 6) ("joined"<|#[.idx (.idx (-5) (-1)) (¬0),.idx (.idx (-5) (-2)) (¬0)]),.ite (.boo false (.val (.cmp .Is (-6) (.cst .non))) #[.val (.cmp .NotEq (.idx (.idx (-5) (-1)) (¬1)) (.idx (.idx (-5) (-2)) (¬1)))]) #[.ret (.cst .non)] #[],.asg (.nm 7) (.tup #[-4,.bin .Add true (.bin .Add true (.slc true (-5) .no (.ob (-3))) (.tup #[.tup #[-6,.idx (.idx (-5) (-3)) (¬1)]])) (.slc true (-5) (.ob (.bin .Add true (-3) (¬1))) .no)]),.ret ("without"<|#[-7,.ife (.val (.cmp .Eq (-3) (-1))) (-2) (-1)])]
noncomputable def mL:Sxs:=#[.asg (.nm 1) (.bcl .len #[.idx (-0) (¬1)]),.asg (.nm 2) (.cm3 (.tup #[-0,-1,-2]) (.nm 0) (.rng (-1)) (.nm 1) (.rng2 (.bin .Add true (-0) (¬1)) (-3)) (.nm 2) (.seq (.tup #[-0,-1])) ["one","other","at","many"] [none,none,none,some 1]),.asg (.nm 3) (.comp true (.tup #[-0,-1,-2,"joined_book"<|#[-3,-0,-1,-2]]) (.tp #[.nm 0,.nm 1,.nm 2]) (.seq (-2)) .yes ["one","other","at","book"] [none,none,none,some 0]),.ret (.comp true (-0) (.nm 0) (.seq (-3)) (.val (.cmp .IsNot (.idx (-0) (¬3)) (.cst .non))) ["candidate"] [none])]
noncomputable def mO:Sxs:=#[.asg (.tp #[.nm 2,.nm 3]) ("alike"<|#[-0,-1]),.ret (.ife (.val (.cmp .Eq (-2) (![112,97,114,116,101,100]))) (-3) (.cst .non))]
noncomputable def mQ:Sxs:=#[.exp ("need_book"<|#[-0]),.ret (.comp true (.tup #[-0,-1,-2]) (.tp #[.nm 0,.nm 1,.nm 2,.nm 3]) (.seq ("candidates"<|#[-0])) (.val (.cmp .Is ("parting_word"<|#[-4,-3]) (.cst .non))) ["one","other","at","made","book"] [none,none,none,none,some 0])]
noncomputable def mR:Sxs:=#[.asg (.tp #[.nm 2,.nm 3]) ("alike"<|#[-0,"without"<|#[-0,-1]]),.ret (.tup #[.ife (.val (.cmp .Eq (-2) (![97,108,105,107,101]))) (![110,101,101,100,108,101,115,115]) (![110,101,101,100,101,100]),-3])]
noncomputable def mU:Sxs:=#[.for_ (.tp #[.nm 1,.nm 2,.nm 3,.nm 4]) (.seq ("candidates"<|#[-0])) #[.ite (.val (.cmp .Is ("parting_word"<|#[-0,-4]) (.cst .non))) #[.ret (-4)] #[]],.ret (.cst .non)]
noncomputable def mV:Sxs:=#[.asg (.nm 1) (-0),.asg (.nm 2) ("first_joined"<|#[-1]),.whl (.val (.cmp .IsNot (-2) (.cst .non))) #[.asg (.nm 1) (-2),.asg (.nm 2) ("first_joined"<|#[-1])],.ret (-1)]
noncomputable def mW:Sxs:=#[.exp ("need_book"<|#[-0]),.asg (.nm 1) (-0),.for_ (.nm 2) (.rev (.bcl .len #[.idx (-0) (¬1)])) #[.ite (.val (.cmp .Eq (.idx ("needless"<|#[-1,-2]) (¬0)) (![110,101,101,100,108,101,115,115]))) #[.asg (.nm 1) ("without"<|#[-1,-2])] #[]],.ret (-1)]
noncomputable def mX:Sxs:=#[.exp ("need_book"<|#[-0]),.asg (.nm 1) (-0),.asg (.nm 2) ("lean"<|#["all_joined"<|#[-1]]),.whl (.val (.cmp .NotEq (-2) (-1))) #[.asg (.nm 1) (-2),.asg (.nm 2) ("lean"<|#["all_joined"<|#[-1]])],.ret (-2)]
noncomputable def yS:Sxs:=#[.ite (.boo false (.not (.val ("is_book"<|#[-1]))) #[.val (.cmp .Gt (.bcl .len #[.idx (-1) (¬1)]) (.bcl .len #[.idx (-0) (¬1)])),.val (.cmp .NotEq (.idx ("alike"<|#[-0,-1]) (¬0)) (![97,108,105,107,101]))]) #[.ret (.cst (.bl false))] #[],.ite (.boo false (.val (.cmp .NotEq ("joins"<|#[-1]) (.lst true #[]))) #[.val (.cmp .NotEq ("hidden"<|#[-1]) (.lst true #[])),.val (.cmp .NotEq ("press"<|#[-1]) (-1))]) #[.ret (.cst (.bl false))] #[],.ret (.bcl .all #[.comp true (.cmp .Eq (.idx ("needless"<|#[-1,-0]) (¬0)) (![110,101,101,100,101,100])) (.nm 0) (.rng (.bcl .len #[.idx (-1) (¬1)])) .yes ["number","found"] [none,some 1]])]
noncomputable def mY:Sxs:=#[.exp ("need_row"<|#[-0,-1]),.exp ("need_row"<|#[-0,-2]),.ite (.boo false (.not (.val ("is_place"<|#[.bcl .len #[.idx (-0) (¬1)],-3]))) #[.val (.cmp .NotIn (-3) (.tup #[-1,-2]))]) #[.rse "NoRow" #[]] #[],.asg (.nm 4) (.ife (.val (.cmp .Lt (-1) (-2))) ("joined_book"<|#[-0,-1,-2,-3]) (.cst .non)),.ite (.val (.cmp .Is (-4) (.cst .non))) #[.rse "NoJoin" #[]] #[],.asg (.nm 5) ("parting_word"<|#[-0,-4]),.ite (.val (.cmp .IsNot (-5) (.cst .non))) #[.nev] #[],.ret (-4)]
noncomputable def yU:Sxs:=#[.asg (.tp #[.nm 2,.nm 3]) (-1),.asg (.nm 4) ("_law_take"<|#[-0,.bcl .len #[-3]]),.asg (.tp #[.nm 5,.nm 6]) (.idx (-3) (-4)),.asg (.nm 7) (.mth .find (-5) #[![42]]),.ite (.val (.cmp .Lt (-7) (¬0))) #[.ret (.cst (.bl true))] #[],.asg (.nm 8) (.bcl .tuple #[.comp true (.tup #[.bin .Add true (.bin .Add true (.slc true (-2) .no (.ob (-3))) (-0)) (.slc true (-2) (.ob (.bin .Add true (-3) (¬1))) .no),-1]) (.nm 0) (.seq (![48,49])) .yes ["sign","one","form","place"] [none,some 6,some 5,some 7]]),.asg (.nm 9) (.tup #[-2,.bin .Add true (.bin .Add true (.slc true (-3) .no (.ob (-4))) (-8)) (.slc true (-3) (.ob (.bin .Add true (-4) (¬1))) .no)]),.ite (.val (.cmp .NotIn (.tup #[-4,.bin .Add true (-4) (¬1),.bin .Add true (-4) (¬1)]) ("joins"<|#[-9]))) #[.ret (.cst (.bl false))] #[],.ret (.boo true (.cmp .Eq ("join"<|#[-9,-4,.bin .Add true (-4) (¬1),.bin .Add true (-4) (¬1)]) (-1)) #[.cmp .Eq ("join"<|#[-9,-4,.bin .Add true (-4) (¬1),-4]) (-1)])]
noncomputable def yV:Sxs:=#[.asg (.nm 1) ("_law_open"<|#[-0]),.for_ (.nm 2) (.rng (¬4)) #[.asg (.nm 3) ("_law_join_book"<|#["_law_anew"<|#[-1],.idx (.lst true #[¬6,¬4]) (.bin .Mod true (-2) (¬2)),.idx (.lst true #[¬4,¬8]) (.bin .Mod true (-2) (¬2))]),.ite (.not (.val ("_law_pressed_right"<|#[-3,"press"<|#[-3]]))) #[.ret (.cst (.bl false))] #[],.asg (.nm 4) ("joins"<|#[-3]),.ite (.val (.cmp .NotEq (-4) (.lst true #[]))) #[.asg (.tp #[.nm 5,.nm 6,.nm 7]) (.idx (-4) ("_law_take"<|#[-1,.bcl .len #[-4]])),.asg (.nm 8) ("join"<|#[-3,-5,-6,-7]),.ite (.boo false (.val (.cmp .NotEq (.bcl .len #[.idx (-8) (¬1)]) (.bin .Sub true (.bcl .len #[.idx (-3) (¬1)]) (¬1)))) #[.val (.cmp .NotEq (.idx ("alike"<|#[-3,-8]) (¬0)) (![97,108,105,107,101]))]) #[.ret (.cst (.bl false))] #[]] #[],.ite (.boo true (.val (.cmp .NotEq (.idx (-3) (¬1)) (.tup #[]))) #[.val (.cmp .Lt (.bcl .len #[.idx (-3) (¬1)]) (¬12)),.not (.val ("_law_split_right"<|#[-1,-3]))]) #[.ret (.cst (.bl false))] #[]],.ret (.cst (.bl true))]
end
end RF
local macro_rules | `(tactic| simp_arith [$l,*] $[$c:location]?) => `(tactic| simp -implicitDefEqProofs only [↓RF.aco, ↓RF.Nq, RF.Nr, RF.env0, RF.ends, String.reduceBEq, $l,*] $[$c:location]?)
local macro_rules | `(tactic| simp_arith! [$l,*] $[$c:location]?) => `(tactic| simp -implicitDefEqProofs only [↓RF.Nq, RF.Nr, RF.env0, RF.ends, String.reduceBEq, $l,*] $[$c:location]?)
local macro_rules | `(tactic| simp_all_arith [$l,*]) => `(tactic| simp -implicitDefEqProofs only [RF.env0, RF.ends, List.map_cons, List.map_nil, List.cons_append, List.nil_append, List.replicate_succ, List.replicate_zero, $l,*])
namespace RF
open PySem L2
theorem gY{i j:Int}(h:-(2 ^ 64) < j/\j < 2 ^ 64):CMul i j:=.inr h
theorem yW{i j:Int}(h:-(2 ^ 64) < i/\i < 2 ^ 64):CMul i j:=.inl h
theorem Nt{j:Int}(h:0<=j/\j<=1000):qw 10 j:=⟨h.1,by omega,by decide⟩
def uw:RF.Spec:=bO (λds _=>∃c k:Int,ds=[.int c,.int k]/\0<=k) (λ_ G d G'=>G'=G/\∃r:Int,d=.int r/\0<=r)
theorem acp(Φ:aa)(ds:List D)(G:DH)(h:∃c k:Int,ds=[.int c,.int k]/\0<=k):au Φ yE noE (env0 ds 3) G (ends λd G'=>G'=G/\∃r:Int,d=.int r/\0<=r):=by
 obtain ⟨c,k,rfl,hk⟩:=h;simp_arith[yE];refine ⟨Nt (by decide),?_⟩;cases hc:decide (10 ^ Int.toNat 18<=c) with
 |true=>
  refine ⟨c,rfl,?_⟩;have:=dL hc;have h2:(0:Int)<=(10:Int) ^ (18:Int).toNat:=by decide
  exact Int.le_trans h2 this
 |false=>
  generalize hone:(c % 1000000007 * 69069+k * 40503+977) % 2147483629=one;have o1:0<=one:=by rw[<-hone];exact fk _ (by decide)
  have o2:one < 2147483629:=by rw[<-hone];exact ff _ (by decide)
  generalize htwo:(one * one+k * 7919+c % 65537) % 2147483587=two;have t1:0<=two:=by rw[<-htwo];exact fk _ (by decide)
  have t2:two < 2147483587:=by rw[<-htwo];exact ff _ (by decide)
  generalize hthree:(two * two+one * 31+5) % 2147483563=three;have h1:0<=three:=by rw[<-hthree];exact fk _ (by decide)
  clear hone htwo hthree;refine ⟨by decide,gY (by decide),gY (by decide),by decide,yW (by omega),gY (by decide),by decide,by decide,yW (by omega),gY (by decide),by decide,gY (by decide),gY (by decide),_,rfl,?_⟩;omega
def Pen(G:DH)(p:Addr):Prop:=∃(ns:List Int)(k st:Int),G p=some (.lst [.lst (ns.map D.int),.int k,.int st])/\0<=k/\0<=st
theorem Pen.sa{G G':DH}{p:Addr}(h:Pen G p)(s:Sa G G'):Pen G' p:=by obtain ⟨ns,k,st,e,h1⟩:=h;exact ⟨ns,k,st,s _ _ e,h1⟩
theorem Pen.ne{G:DH}{p q:Addr}(h:Pen G p)(e:G q=none):p≠q:=by obtain ⟨ns,k,st,e1,h1⟩:=h;exact DP e1 e
theorem Pen.sb{G G':DH}{p q:Addr}(h:Pen G p)(s:Sb q G G')(n:p≠q):Pen G' p:=by obtain ⟨ns,k,st,e,h1⟩:=h;exact ⟨ns,k,st,s _ _ e n,h1⟩
def ux:RF.Spec:=bO (λds G=>∃p,ds=[.ref p]/\Pen G p) (λds G d G'=>∃p,ds=[.ref p]/\d=.ref p/\Pen G' p/\Sb p G G')
theorem acq(Φ:aa)(ds:List D)(G:DH)(h:∃p,ds=[.ref p]/\Pen G p):au Φ yD noE (env0 ds 0) G (ends λd G'=>∃p,ds=[.ref p]/\d=.ref p/\Pen G' p/\Sb p G G'):=by obtain ⟨p,rfl,ns,k,st,e,h1,h2⟩:=h;simp_arith[yD,eN e];exact ⟨p,rfl,rfl,⟨ns,k,0,b8,h1,by decide⟩,Sb.upd⟩
def cY:RF.Spec:=bO (λds G=>∃p,∃m:Int,ds=[.ref p,.int m]/\Pen G p/\0 < m/\m < 1152921504606846976) (λds G d G'=>∃p,∃m r:Int,ds=[.ref p,.int m]/\d=.int r/\0<=r/\r < m/\Pen G' p/\Sb p G G')
theorem acr (Φ:aa) (hΦ:Φ "_law_spread"=uw) (ds:List D) (G:DH) (h:∃p,∃m:Int,ds=[.ref p,.int m]/\Pen G p/\0 < m/\m < 1152921504606846976):
  au Φ yF noE (env0 ds 3) G (ends λd G'=>∃p,∃m r:Int,ds=[.ref p,.int m]/\d=.int r/\0<=r/\r < m/\Pen G' p/\Sb p G G'):=by
 obtain ⟨p,m,rfl,⟨ns,k,st,e,h1,h2⟩,h3,h4⟩:=h;simp_all_arith[yF];refine seq λM hM=>?_;have fin:∀(ρ2 ρ3 ρ4:Option D)(G1:DH)(k1 s1:Int),0<=k1->0<=s1->G1 p=some (.lst [.lst (ns.map D.int),.int k1,.int s1])->Sb p G G1->M [some (.ref p),some (.int m),ρ2,ρ3,ρ4] G1:=by intro ρ2 ρ3 ρ4 G1 k1 s1 q1 q2 e1 sb;refine hM _ _ ?_;simp_arith[gn e1,eN e1];refine ⟨h3,⟨h3,h4⟩,p,m,_,rfl,rfl,fk _ (by omega),ff _ h3,⟨ns,k1,_,b8,q1,?_⟩,sb.trans Sb.upd⟩;exact Int.ediv_nonneg q2 (by omega)
 simp_arith[gn e,eN e,hΦ];have draw:∀c:Int,uw.t [.int c,.int k] (bf G p (.lst [.lst (ns.map D.int),.int (k+1),.int st])) (λx G1=>trk G1 p λds=>bj (ixN ds.length 2) λj=>M [some (.ref p),some (.int m),some (.int k),some (.int c),none] (bf G1 p (.lst (ds.set j x)))) noE:=by intro c;refine cz ⟨c,k,rfl,h1⟩ λd G' hx=>?_;obtain ⟨e1,r,e2,hr⟩:=hx;subst e1 e2;simp_arith[eN b8];refine fin _ _ _ _ (k+1) r (by omega) hr b8 (Sb.trans Sb.upd Sb.upd)
 cases hc:decide (st < m) with
 |false=>exact fin _ _ _ _ k st h1 h2 e (Sb.refl _ _)
 |true=>
  cases hk:decide (k < ((ns.map D.int).length:Int)) with
  |true=>
   have hk:=dL hk;rw[ag]at hk;refine bu (a:=.int ns[k.toNat]) ?_ ?_
   ·obtain ⟨n,rfl⟩:=cS h1;exact bU (by simp at hk ⊢)
   ·exact draw _
  |false=>
   cases hz:decide (0 < ((ns.map D.int).length:Int)) with
   |false=>exact draw 0
   |true=>
    have hz:=dL hz;have j1:0<=(k * 5+3) % ((ns.map D.int).length:Int):=fk _ (by omega);have j2:(k * 5+3) % ((ns.map D.int).length:Int) < ((ns.map D.int).length:Int):=ff _ hz;obtain ⟨j,hj⟩:=cS j1;rw[hj]at j2;have j3:j < ns.length:=by rw[ag]at j2;omega
    refine ⟨gY (by decide),hz,bu (a:=.int ns[j]) ?_ ⟨Nt (by decide),?_⟩⟩
    ·rw[hj];exact bU (by simp[j3])
    ·simp_arith[eN e];refine ⟨?_,draw _⟩;have:(0:Int) < 10 ^ Int.toNat 17:=by decide
     omega
def mZ:RF.Spec:=bO (λds G=>∃p,∃n:Nat,∃cs:List Nat,ds=[.ref p,.int n,.str cs]/\Pen G p/\n<=1000/\cs≠[]/\cs.length<=1000)
 (λds G d G'=>∃p,∃n:Nat,∃cs l:List Nat,ds=[.ref p,.int n,.str cs]/\d=.str l/\l.length=n/\(∀c∈l,c∈cs)/\Pen G' p/\Sb p G G')
theorem acs(l:List Nat):((l.map λc=>[c]).map (·.length)).sum=l.length:=by
 induction l with
 |nil=>rfl
 |cons a l ih=>simp at ih ⊢;omega
theorem acu(l:List Nat):(l.map λc=>[c]).flatten=l:=by
 induction l with
 |nil=>rfl
 |cons a l ih=>simp at ih ⊢;exact ih
theorem acv (Φ:aa) (hΦ:Φ "_law_take"=cY) (ds:List D) (G:DH) (h:∃p,∃n:Nat,∃cs:List Nat,ds=[.ref p,.int n,.str cs]/\Pen G p/\n<=1000/\cs≠[]/\cs.length<=1000):
  au Φ yG noE (env0 ds 0) G (ends λd G'=>∃p,∃n:Nat,∃cs l:List Nat,ds=[.ref p,.int n,.str cs]/\d=.str l/\l.length=n/\(∀c∈l,c∈cs)/\Pen G' p/\Sb p G G'):=by
 obtain ⟨p,n,cs,rfl,hp,hn,hc,hl⟩:=h;have hc1:0 < cs.length:=fy.mpr hc;simp_arith[yG,hΦ];refine ⟨by omega,CompG.inv (P:=λi acc ρ G'=>(∃o,ρ=[o,some (.str cs),some (.ref p)])/\Pen G' p/\Sb p G G'/\∃l:List Nat,acc=l.map (λc=>D.str [c])/\l.length=i/\∀c∈l,c∈cs) (h0:=⟨⟨_,rfl⟩,hp,Sb.refl _ _,[],rfl,rfl,by simp⟩) (hh:=λ_ _ _ _ _=>trivial) (hl:=by simp[aN];have hsz:sz=1000000:=rfl;omega) (hs:=?_) (he:=?_)⟩
 ·rintro i d acc ρ G' hd ⟨⟨o,rfl⟩,hp',sb,l,rfl,hl',hm⟩ kk hk;simp_arith[hΦ];refine cz ⟨p,_,rfl,hp',by omega,by omega⟩ λd' G2 hx=>?_;obtain ⟨p2,m2,r,e1,e2,r0,r1,pp2,sb2⟩:=hx;cases e1;subst e2;obtain ⟨j,rfl⟩:=cS r0;have hj:j < cs.length:=by omega
  simp_arith[ends];refine bu (a:=cs[j]) (bU (by simp[hj])) (hk _ _ _ ⟨⟨_,rfl⟩,pp2,sb.trans sb2,l++[cs[j]],by simp,by simp[hl'],?_⟩);intro c hc;rcases bn.mp hc with h |h
  ·exact hm c h
  ·rw[bq.mp h];exact d4 _
 ·rintro acc ρ G' ⟨_,hp',sb,l,rfl,hl',hm⟩;simp_arith[strs_map];have hl2:l.length=n:=by rw[hl'];simp[aN]
  refine ⟨?_,p,n,cs,l,rfl,?_,hl2,hm,hp',sb⟩
  ·rw[acs];simp;have hsz:sz=1000000:=rfl;omega
  ·rw[Hy,acu]
def isF(c:Nat):Prop:=c=48\/c=49\/c=42
def yX:RF.Spec:=bO (λds G=>∃p,∃n:Nat,ds=[.ref p,.int n]/\Pen G p/\n<=1000) (λds G d G'=>∃p,∃n:Nat,∃l:List Nat,ds=[.ref p,.int n]/\d=.str l/\l.length=n/\(∀c∈l,isF c)/\Pen G' p/\Sb p G G')
theorem acw (Φ:aa) (h1:Φ "_law_take"=cY) (h2:Φ "_law_signs"=mZ) (ds:List D) (G:DH) (h:∃p,∃n:Nat,ds=[.ref p,.int n]/\Pen G p/\n<=1000):
  au Φ yI noE (env0 ds 0) G (ends λd G'=>∃p,∃n:Nat,∃l:List Nat,ds=[.ref p,.int n]/\d=.str l/\l.length=n/\(∀c∈l,isF c)/\Pen G' p/\Sb p G G'):=by
 obtain ⟨p,n,rfl,hp,hn⟩:=h;simp_arith[yI,h1,h2];refine ⟨by decide,cz ⟨p,_,rfl,hp,by decide,by decide⟩ λd' G2 ⟨p2,m2,r,e1,e2,r0,r1,pp2,sb2⟩=>?_⟩;cases e1;subst e2;obtain ⟨j,rfl⟩:=cS r0;simp_arith[ends];have:∃cs:List Nat,atI [D.str [48,49,42],D.str [48,49,42,42],D.str [48,49,42,42,42,42],D.str [48,42],D.str [48,49]] ((j:Nat):Int)=some (.str cs)/\cs≠[]/\cs.length<=1000/\∀c∈cs,isF c:=by
  have hj:j=0\/j=1\/j=2\/j=3\/j=4:=by omega
  rcases hj with rfl |rfl |rfl |rfl |rfl <;> exact ⟨_,rfl,by decide,by decide,by simp[isF]⟩
 obtain ⟨cs,e,c1,c2,c3⟩:=this;refine bu e (cz ⟨p,n,cs,rfl,pp2,hn,c1,c2⟩ λd G3 ⟨p3,n3,cs3,l,e1,e2,q1,q2,q3,q4⟩=>?_);cases e1;exact ⟨p,n,l,rfl,e2,q1,λc hc=>c3 c (q2 c hc),q3,sb2.trans q4⟩
def yZ:RF.Spec:=bO (λds _=>∃ns:List Int,ds=[.scr ns]/\ns.length<=63) (λ_ G d G'=>∃p,d=.ref p/\G p=none/\Pen G' p/\Sa G G')
theorem acx(Φ:aa)(ds:List D)(G:DH)(h:∃ns:List Int,ds=[.scr ns]/\ns.length<=63):au Φ yR noE (env0 ds 3) G (ends λd G'=>∃p,d=.ref p/\G p=none/\Pen G' p/\Sa G G'):=by
 obtain ⟨ns,rfl,hl⟩:=h;simp_all_arith[yR];refine seq λM hM=>?_;simp_arith[ends];intro c hc;refine hM _ _ ?_;refine seq λM hM=>?_;simp_arith[ends];refine ForG.inv (λi ρ G'=>∃(o2 o3:Option D)(xs:List Int),ρ=[some (.scr ns),some (.ref c),o2,o3]/\G'=bf G c (.lst (xs.map D.int))/\(12<=xs.length\/cut ns (some 12) (some 63)=[])) ⟨_,_,cut ns none (some 12),rfl,rfl,?_⟩ (λ_ _ _ _=>trivial) ?_ ?_
 ·by_cases h12:12<=ns.length
  ·left;simp[cut,HT.sIx];omega
  ·right;simp[cut,HT.sIx];omega
 ·rintro i d ρ G' hd ⟨o2,o3,xs,rfl,rfl,hx⟩ kk hk;rw[jB]at hd;obtain ⟨d',hd',e3⟩:=ax.mp hd;subst e3;rw[ay]at hd';obtain ⟨x,hx',e4⟩:=ax.mp hd';subst e4;have h12:12<=xs.length:=by
   rcases hx with h |h
   ·exact h
   ·rw[h]at hx';simp at hx'
  obtain ⟨j,hj⟩:=cS (fk ((0+i:Nat):Int) (by decide:(12:Int)≠0));have hj12:j < 12:=by have:=ff ((0+i:Nat):Int) (by decide:(0:Int) < 12);omega
  have hjx:j < xs.length:=by omega
  simp_arith[hj,gn b8,eN b8];refine ⟨by decide,bu (a:=.int xs[j]) (bU (by simp[hjx])) ?_⟩;simp_arith[hj,gn b8,eN b8,ag,acd hjx];refine ⟨by decide,hk _ _ ⟨_,_,xs.set j (xs[j]+x),rfl,?_,by simp[h12]⟩⟩;rw[Za,List.map_set]
 ·rintro ρ G' ⟨o2,o3,xs,rfl,rfl,hx⟩;refine hM _ _ ?_;simp_arith[b8];refine ⟨by have hsz:sz=1000000:=rfl;omega,λp hp=>⟨p,rfl,?_,⟨xs,0,0,b8,by decide,by decide⟩,?_⟩⟩
  ·rw[DN hc]at hp;exact hp
  ·rw[DN hc]at hp ⊢;exact Sa.new hp
def m5:RF.Spec:=bO (λds _=>∃ns:List Int,ds=[.scr ns]/\ns.length<=63) (λ_ _ d _=>d=.bl true)
def whole:D->Bool
 |.int _=>true
 |_=>false
def iT:List D->Option D
 |[x]=>if nr x then some (.bl (whole x)) else none
 |_=>none
theorem acy(Φ:aa)(ds:List D)(G:DH)(d:D)(h:iT ds=some d):au Φ lN noE (env0 ds 0) G (ends λd' G'=>G'=G/\d'=d):=by
 unfold iT at h;split at h
 ·rename_i x;split at h
  ·rename_i hx;cases h;cases x <;> first | (simp[nr]at hx;done) | (simp_arith[lN,whole];try simp)
  ·cases h
 ·cases h
theorem uy{x:D}{G:DH}(h1:nr x=true):view G x=x:=by cases x <;> first |rfl | (simp[nr]at h1)
def okF(w:Nat)(l:List Nat):Prop:=l.length=w/\∀c∈l,isF c
theorem okF.app{w v:Nat}{l m:List Nat}(h:okF w l)(h':okF v m):okF (w+v) (l++m):=⟨by rw[ar,h.1,h'.1],λc hc=>(bn.mp hc).elim (h.2 c) (h'.2 c)⟩
theorem okF.one{c:Nat}(h:isF c):okF 1 [c]:=⟨rfl,λd hd=>by rw[bq.mp hd];exact h⟩
theorem bR{p:Addr}{m:Int}{G:DH}{k:D->DH->Prop}{E:EK}(hp:Pen G p)(h1:0 < m)(h2:m < 1152921504606846976)(hk:∀(r:Nat)(G':DH),(r:Int) < m->Pen G' p->Sb p G G'->k (.int r) G'):cY.t [.ref p,.int m] G k E:=by refine cz ⟨p,m,rfl,hp,h1,h2⟩ λd G' hx=>?_;obtain ⟨p2,m2,r,e1,e2,r0,r1,hp',sb⟩:=hx;cases e1;subst e2;obtain ⟨n,rfl⟩:=cS r0;exact hk n G' r1 hp' sb
theorem acz{n:Nat}(h:(n:Int) < 2):∃c,atI [48,49] (n:Int)=some c/\isF c:=by
 have:n=0\/n=1:=by omega
 rcases this with rfl |rfl
 ·exact ⟨48,rfl,.inl rfl⟩
 ·exact ⟨49,rfl,.inr (.inl rfl)⟩
theorem acA{n:Nat}(h:(n:Int) < 3):∃c,atI [48,49,42] (n:Int)=some c/\isF c:=by
 have:n=0\/n=1\/n=2:=by omega
 rcases this with rfl |rfl |rfl
 ·exact ⟨48,rfl,.inl rfl⟩
 ·exact ⟨49,rfl,.inr (.inl rfl)⟩
 ·exact ⟨42,rfl,.inr (.inr rfl)⟩
def za(ds:List D)(G:DH):Prop:=∃p l,ds=[.ref p,.str l]/\Pen G p/\(∀c∈l,isF c)/\l.length<=1000
def zb(ds:List D)(G:DH)(d:D)(G':DH):Prop:=∃p l m,ds=[.ref p,.str l]/\d=.str m/\okF l.length m/\Pen G' p/\Sb p G G'
def gZ:RF.Spec:=bO za zb
theorem uz{p:Addr}{l:List Nat}{G:DH}{k:D->DH->Prop}{E:EK}(hp:Pen G p)(hl:∀c∈l,isF c)(h2:l.length<=1000)(hk:∀(m:List Nat)(G':DH),okF l.length m->Pen G' p->Sb p G G'->k (.str m) G'):gZ.t [.ref p,.str l] G k E:=by refine cz ⟨p,l,rfl,hp,hl,h2⟩ λd G' hx=>?_;obtain ⟨p2,l2,m,e1,e2,h,hp',sb⟩:=hx;cases e1;subst e2;exact hk m G' h hp' sb
theorem acB (Φ:aa) (h1:Φ "_law_take"=cY) (ds:List D) (G:DH) (h:za ds G):au Φ yK noE (env0 ds 2) G (ends (zb ds G)):=by
 obtain ⟨p,l,rfl,hp,hl,hl2⟩:=h;simp_all_arith[yK];refine seq λM hM=>?_;simp_arith[ends];refine hM _ _ (seq λM hM=>?_);simp_arith![ends];refine ForG.inv (P:=λi ρ G'=>(∃o m,ρ=[some (.ref p),some (.str l),some (.str m),o]/\okF i m)/\Pen G' p/\Sb p G G') ⟨⟨_,_,rfl,rfl,by simp⟩,hp,Sb.refl _ _⟩ (λ_ _ _ _=>trivial) ?_ ?_
 ·rintro i d ρ G2 hd ⟨⟨o,m,rfl,hm⟩,hp2,sb2⟩ kk hk;rw[ay]at hd;obtain ⟨c,hc,rfl⟩:=ax.mp hd;have hi:i < l.length:=(ah.mp hc).1;have fc:=hl c (bv hc);have l1:=hm.1;simp_arith![ends];refine seq λM hM=>?_;have fin:∀(c:Nat)(G3:DH),isF c->Pen G3 p->Sb p G2 G3->M [some (.ref p),some (.str l),some (.str m),some (.str [c])] G3:=by
   intro c G3 fc hp3 sb3;refine hM _ _ (last ?_);simp_arith[ends];exact ⟨by have hsz:sz=1000000:=rfl;omega,hk _ _ ⟨⟨_,_,rfl,hm.app (okF.one fc)⟩,hp3,sb2.trans sb3⟩⟩
  simp_arith[h1];cases ht:([c]==[42]) with
  |false=>exact fin c G2 fc hp2 (Sb.refl _ _)
  |true=>
   refine bR hp2 (by decide) (by decide) λr G3 hr hp3 sb3=>?_;simp_arith[ends];cases hr0:((r:Int)==0) with
   |false=>exact fin c G3 fc hp3 sb3
   |true=>
    refine bR hp3 (by decide) (by decide) λr' G4 hr' hp4 sb4=>?_;obtain ⟨c',e,fc'⟩:=acz hr';simp_arith[e];exact fin c' G4 fc' hp4 (sb3.trans sb4)
 ·rintro ρ G2 ⟨⟨o,m,rfl,hm⟩,hp2,sb2⟩;refine hM _ _ ?_;simp_arith[ends];exact ⟨p,l,m,rfl,rfl,by simpa using hm,hp2,sb2⟩
theorem acC (Φ:aa) (h1:Φ "_law_take"=cY) (ds:List D) (G:DH) (h:za ds G):au Φ yJ noE (env0 ds 2) G (ends (zb ds G)):=by
 obtain ⟨p,l,rfl,hp,hl,hl2⟩:=h;simp_all_arith[yJ];refine seq λM hM=>?_;simp_arith[ends];refine hM _ _ (seq λM hM=>?_);simp_arith![ends];refine ForG.inv (P:=λi ρ G'=>(∃o m,ρ=[some (.ref p),some (.str l),some (.str m),o]/\okF i m)/\Pen G' p/\Sb p G G') ⟨⟨_,_,rfl,rfl,by simp⟩,hp,Sb.refl _ _⟩ (λ_ _ _ _=>trivial) ?_ ?_
 ·rintro i d ρ G2 hd ⟨⟨o,m,rfl,hm⟩,hp2,sb2⟩ kk hk;rw[ay]at hd;obtain ⟨c,hc,rfl⟩:=ax.mp hd;have hi:i < l.length:=(ah.mp hc).1;have fc:=hl c (bv hc);have l1:=hm.1;simp_arith![ends];refine seq λM hM=>?_;have fin:∀(c:Nat)(G3:DH),isF c->Pen G3 p->Sb p G2 G3->M [some (.ref p),some (.str l),some (.str m),some (.str [c])] G3:=by
   intro c G3 fc hp3 sb3;refine hM _ _ (last ?_);simp_arith[ends];exact ⟨by have hsz:sz=1000000:=rfl;omega,hk _ _ ⟨⟨_,_,rfl,hm.app (okF.one fc)⟩,hp3,sb2.trans sb3⟩⟩
  simp_arith[h1];refine bR hp2 (by decide) (by decide) λr G3 hr hp3 sb3=>?_;simp_arith[ends];cases hr0:((r:Int)==0) with
  |false=>exact fin c G3 fc hp3 sb3
  |true=>exact fin 42 G3 (.inr (.inr rfl)) hp3 sb3
 ·rintro ρ G2 ⟨⟨o,m,rfl,hm⟩,hp2,sb2⟩;refine hM _ _ ?_;simp_arith[ends];exact ⟨p,l,m,rfl,rfl,by simpa using hm,hp2,sb2⟩
theorem Nu{G G':DH}{p:Addr}{x:D}{fs:List (List Nat)}(hv:view G x=.lst (fs.map D.str))(hp:Pen G p)(sb:Sb p G G'):view G' x=.lst (fs.map D.str):=by
 cases x with
 |ref q=>
  unfold view at hv;dsimp only at hv;cases g:G q with
  |none=>rw[g]at hv;cases hv
  |some o=>
   cases o with
   |lst ds=>
    rw[g]at hv;have e:ds=fs.map D.str:=by simpa using hv
    have hn:q≠p:=by
     rintro rfl;obtain ⟨ns,k,st,e1,_⟩:=hp;rw[g,e]at e1;cases fs with
     |nil=>simp at e1
     |cons a r=>simp at e1
    rw[gn (sb q _ g hn),e]
 |lst l=>exact hv
 |_=>cases hv
def Nv(ds:List D)(G:DH):Prop:=∃p,∃w:Nat,∃x,∃fs:List (List Nat),ds=[.ref p,.int w,x]/\Pen G p/\0 < w/\w<=1000/\view G x=.lst (fs.map D.str)/\fs.length<=1000/\∀f∈fs,okF w f
def zc(ds:List D)(G:DH)(d:D)(G':DH):Prop:=∃p,∃w:Nat,∃x m,ds=[.ref p,.int w,x]/\d=.str m/\okF w m/\Pen G' p/\Sb p G G'
def uA:RF.Spec:=bO Nv zc
theorem acD{p:Addr}{w:Nat}{x:D}{fs:List (List Nat)}{G:DH}{k:D->DH->Prop}{E:EK}(hp:Pen G p)(h1:0 < w)(h2:w<=1000)(hv:view G x=.lst (fs.map D.str))(h3:fs.length<=1000)(h4:∀f∈fs,okF w f)
  (hk:∀(m:List Nat)(G':DH),okF w m->Pen G' p->Sb p G G'->k (.str m) G'):uA.t [.ref p,.int w,x] G k E:=by
 refine cz ⟨p,w,x,fs,rfl,hp,h1,h2,hv,h3,h4⟩ λd G' hx=>?_;obtain ⟨p2,w2,x2,m,e1,e2,h,hp',sb⟩:=hx;simp only[dA,D.ref.injEq,D.int.injEq,Int.ofNat_inj,fE]at e1;obtain ⟨rfl,rfl,rfl⟩:=e1;subst e2;exact hk m G' h hp' sb
theorem acE(fs:List (List Nat)):nrs (fs.map D.str)=true:=by
 induction fs with
 |nil=>rfl
 |cons a l ih=>rw[br,nrs,ih];rfl
theorem acF(fs:List (List Nat)):aW (fs.map D.str)=0:=by
 induction fs with
 |nil=>rfl
 |cons a l ih=>rw[br,aW,ih];rfl
theorem acG{w n:Nat}{l:List Nat}{c:Nat}(h:okF w l)(hn:n < w)(fc:isF c):okF w (cut l none (some (n:Int))++[c]++cut l (some ((n:Int)+1)) none):=by
 have h1:=h.1;rw[jG,yt];refine ⟨?_,λd hd=>?_⟩
 ·simp;omega
 ·rcases bn.mp hd with hd |hd
  ·rcases bn.mp hd with hd |hd
   ·exact h.2 d (ft hd)
   ·rw[bq.mp hd];exact fc
  ·exact h.2 d (List.mem_of_mem_drop hd)
theorem acH (Φ:aa) (h1:Φ "_law_take"=cY) (h2:Φ "_law_form"=yX) (h3:Φ "_law_within"=gZ) (h4:Φ "_law_wider"=gZ) (ds:List D) (G:DH) (h:Nv ds G):au Φ yL noE (env0 ds 3) G (ends (zc ds G)):=by
 obtain ⟨p,w,x,fs,rfl,hp,w1,w2,hv,hf,hfs⟩:=h;simp_all_arith[yL];refine seq λM hM=>?_;simp_arith[h1];refine bR hp (by decide) (by decide) λkd G2 hkd hp2 sb2=>?_;have hv2:=Nu hv hp sb2;refine hM _ _ (seq λM hM=>?_);have drawn:∀(ρ:ak) (G3:DH),Pen G3 p->Sb p G G3->au Φ (.cons (.ret (.call "_law_form" (.cons (.var 0) (.cons (.var 1) .nil)))) .nil) noE (some (.ref p)::some (.int w)::ρ) G3 { nx:=M,rt:=zc [.ref p,.int w,x] G,bk:=λ_ _=>False,ct:=λ_ _=>False }:=by intro ρ G3 hp3 sb3;simp_arith[h2];refine cz ⟨p,w,rfl,hp3,w2⟩ λd G4 hx=>?_;obtain ⟨p4,n4,l,e1,e2,l1,l2,hp4,sb4⟩:=hx;simp only[dA,D.ref.injEq,D.int.injEq,Int.ofNat_inj,fE]at e1;obtain ⟨rfl,rfl⟩:=e1;exact ⟨p,w,x,l,rfl,e2,⟨l1,l2⟩,hp4,sb3.trans sb4⟩
 simp_arith![hv2,HS,acF,acE];refine ⟨by decide,?_⟩;cases he:(fs.map D.str).isEmpty with
 |true=>exact drawn _ _ hp2 sb2
 |false=>
  have hlen:0 < fs.length:=by
   cases fs with
   |nil=>simp at he
   |cons a r=>simp
  simp_arith![ends];cases hk2:decide ((kd:Int) < 2) with
  |true=>exact drawn _ _ hp2 sb2
  |false=>
   simp_arith[ends];refine hM _ _ (seq λM hM=>?_);simp_arith[h1,hv2,ag];refine bR hp2 (by omega) (by omega) λr G3 hr hp3 sb3=>?_;have hv3:=Nu hv2 hp2 sb3;simp_arith[hv3];have hr':r < fs.length:=by omega
   refine bu (a:=.str fs[r]) (bU (by simp[hr'])) ?_;have fok:=hfs fs[r] (d4 _);generalize fs[r]=f at fok;refine hM _ _ (seq λM hM=>?_);have sb':=sb2.trans sb3;simp_arith[ends];cases hk3:((kd:Int)==2) with
   |true=>exact ⟨p,w,x,f,rfl,rfl,fok,hp3,sb'⟩
   |false=>
    refine hM _ _ (seq λM hM=>?_);simp_arith![ends];cases hk5:decide ((kd:Int) < 5) with
    |true=>
     simp_arith[h1];refine bR hp3 (by omega) (by omega) λat' G4 hat hp4 sb4=>?_;refine bR hp4 (by decide) (by decide) λs G5 hs hp5 sb5=>?_;obtain ⟨c,e,fc⟩:=acA hs;have c1:=HR f none (some (at':Int));have c2:=HR f (some ((at':Int)+1)) none;have f1:=fok.1;simp_arith[e,ar];exact ⟨by have hsz:sz=1000000:=rfl;omega,by have hsz:sz=1000000:=rfl;omega,p,w,x,_,rfl,rfl,acG fok (by omega) fc,hp5,sb'.trans (sb4.trans sb5)⟩
    |false=>
     simp_arith[ends];refine hM _ _ (seq λM hM=>?_);have f1:=fok.1;simp_arith[h3];cases hk6:((kd:Int)==5) with
     |true=>
      refine uz hp3 fok.2 (by omega) λm G4 hm hp4 sb4=>?_;rw[f1]at hm;exact ⟨p,w,x,m,rfl,rfl,hm,hp4,sb'.trans sb4⟩
     |false=>
      refine hM _ _ ?_;simp_arith[h4];refine uz hp3 fok.2 (by omega) λm G4 hm hp4 sb4=>?_;rw[f1]at hm;exact ⟨p,w,x,m,rfl,rfl,hm,hp4,sb'.trans sb4⟩
def okD(l:List Nat):Prop:=1<=l.length/\l.length<=8/\∀c∈l,97<=c/\c<=122
theorem acI{p:Addr}{n:Nat}{cs:List Nat}{G:DH}{k:D->DH->Prop}{E:EK}(hp:Pen G p)(hn:n<=1000)(h1:cs≠[])(h2:cs.length<=1000)(hk:∀(l:List Nat)(G':DH),l.length=n->(∀c∈l,c∈cs)->Pen G' p->Sb p G G'->k (.str l) G'):mZ.t [.ref p,.int n,.str cs] G k E:=by refine cz ⟨p,n,cs,rfl,hp,hn,h1,h2⟩ λd G' hx=>?_;obtain ⟨p2,n2,cs2,l,e1,e2,l1,l2,hp',sb⟩:=hx;simp only[dA,D.ref.injEq,D.int.injEq,D.str.injEq,Int.ofNat_inj,fE]at e1;obtain ⟨rfl,rfl,rfl⟩:=e1;subst e2;exact hk l G' l1 l2 hp' sb
def Nx(ds:List D)(G:DH):Prop:=∃p,∃m:Int,ds=[.ref p,.int m]/\Pen G p/\0 < m/\m<=100
def Ny(ds:List D)(G:DH)(d:D)(G':DH):Prop:=∃p,∃m:Int,∃xs:List (List Nat),ds=[.ref p,.int m]/\d=.lst (xs.map D.str)/\0 < xs.length/\xs.length<=100/\(∀x∈xs,okD x)/\Pen G' p/\Sb p G G'
def uB:RF.Spec:=bO Nx Ny
noncomputable def zf:List (List Nat):=[[97],[103,111],[115,116,97,121],[97,98,99,100,101,102,103,104],[110,111,110,101],[121,101,115],[105,110],[111,117,116],[107,101,101,112],[119,111,114,100],[122,122]]
theorem acJ:∀x∈zf,okD x:=by
 have h:∀x∈zf,1<=x.length/\x.length<=8/\∀c∈x,97<=c/\c<=122:=by decide
 exact h
theorem Nz{c:Nat}(h:c∈[97,98,99,100,101,102,103,104,105,106,107,108,109,110,111,112,113,114,115,116,117,118,119,120,121,122]):97<=c/\c<=122:=by
 have:∀c∈[97,98,99,100,101,102,103,104,105,106,107,108,109,110,111,112,113,114,115,116,117,118,119,120,121,122],97<=c/\c<=122:=by decide
 exact this c h
theorem acK (Φ:aa) (h1:Φ "_law_take"=cY) (h2:Φ "_law_signs"=mZ) (ds:List D) (G:DH) (h:Nx ds G):au Φ yH noE (env0 ds 4) G (ends (Ny ds G)):=by
 obtain ⟨p,m,rfl,hp,m1,m2⟩:=h;simp_all_arith[yH];refine seq λM hM=>?_;simp_arith[ends];refine ⟨by decide,hM _ _ ?_⟩;refine (λtail=>tail zf rfl acJ) (?_:∀xs:List (List Nat),xs.length=11->(∀x∈xs,okD x)->au Φ _ noE [some (.ref p),some (.int m),some (.lst (xs.map D.str)),none,none,none] G _);intro xs x1 x2;refine seq λM hM=>?_;simp_arith[h1];refine bR hp (by decide) (by decide) λt G2 ht hp2 sb2=>?_;refine hM _ _ (seq λM hM=>?_);simp_arith[h1];refine bR hp2 (by omega) (by omega) λr G3 hr hp3 sb3=>?_;simp_arith[ends];refine ⟨by omega,?_⟩;refine CompG.inv (P:=λi acc ρ G'=>(∃o,ρ=[o,some (.lst (xs.map D.str)),some (.int t)])/\G'=G3/\∃ys:List (List Nat),acc=ys.map D.str/\ys.length=i/\∀y∈ys,okD y) ⟨⟨_,rfl⟩,rfl,[],rfl,rfl,by simp⟩ (λ_ _ _ _ _=>trivial) (by simp[aN];have hsz:sz=1000000:=rfl;omega) ?_ ?_
 ·rintro i d acc ρ G' hd ⟨⟨o,rfl⟩,rfl,ys,rfl,y1,y2⟩ kk hk;unfold aN at hd;rw[ay]at hd;obtain ⟨j,hj,rfl⟩:=ax.mp hd;simp_arith[ends];have q0:0<=((t:Int)+3 * (0+(j:Int))) % 11:=fk _ (by decide);have q1:((t:Int)+3 * (0+(j:Int))) % 11 < 11:=ff _ (by decide);refine ⟨yW (by decide),by decide,lG q0 (by rw[ag,x1];exact q1) λa ha=>?_⟩;obtain ⟨x,hx,rfl⟩:=ce.mp ha;refine hk _ _ _ ⟨⟨_,rfl⟩,rfl,ys++[x],by simp,by simp[y1],λy hy=>?_⟩;rcases bn.mp hy with h |h
  ·exact y2 y h
  ·rw[bq.mp h];exact x2 x hx
 ·rintro acc ρ G' ⟨_,rfl,ys,rfl,y1,y2⟩;have hy:ys.length=r+1:=by rw[y1];simp[aN];omega
  refine hM _ _ (seq λM hM=>?_);simp_arith[h1];refine bR hp3 (by decide) (by decide) λq G4 hq hp4 sb4=>?_;have sb':=sb2.trans (sb3.trans sb4);simp_arith[ends];cases hq0:((q:Int)==0) with
  |false=>
   refine hM _ _ ?_;simp_arith[ends];exact ⟨p,m,ys,rfl,rfl,by omega,by omega,y2,hp4,sb'⟩
  |true=>
   simp_arith[ends];refine CompG.inv (P:=λi acc ρ G'=>(∃o,ρ=[o,some (.ref p),some (.str [97,98,99,100,101,102,103,104,105,106,107,108,109,110,111,112,113,114,115,116,117,118,119,120,121,122])])/\Pen G' p/\Sb p G G'/\∃zs:List (List Nat),acc=zs.map D.str/\zs.length=i/\∀z∈zs,okD z) ⟨⟨_,rfl⟩,hp4,sb',[],rfl,rfl,by simp⟩ (λ_ _ _ _ _=>trivial) (by simp;have hsz:sz=1000000:=rfl;omega) ?_ ?_
   ·rintro i d acc ρ G' hd ⟨⟨o,rfl⟩,hp5,sb5,zs,rfl,z1,z2⟩ kk hk;simp_arith[h1,h2];refine bR hp5 (by decide) (by decide) λn G6 hn hp6 sb6=>?_;simp_arith[ends];rw[show (1:Int)+(n:Int)=((n+1:Nat):Int) by omega];refine acI hp6 (by omega) (by simp) (by simp) λl G7 l1 l2 hp7 sb7=>?_;refine hk _ _ _ ⟨⟨_,rfl⟩,hp7,sb5.trans (sb6.trans sb7),zs++[l],by simp,by simp[z1],λz hz=>?_⟩;rcases bn.mp hz with h |h
    ·exact z2 z h
    ·rw[bq.mp h];exact ⟨by omega,by omega,λc hc=>Nz (l2 c hc)⟩
   ·rintro acc ρ G' ⟨_,hp5,sb5,zs,rfl,z1,z2⟩;rw[ag]at z1;refine hM _ _ ?_;simp_arith[ends];exact ⟨p,m,zs,rfl,rfl,by omega,by omega,z2,hp5,sb5⟩
abbrev Row:=List Nat×List Nat
def az(r:Row):D:=.tup [.str r.1,.str r.2]
def ao(w:Nat)(rs:List Row):D:=.tup [.int w,.tup (rs.map az)]
structure okB(w:Nat)(rs:List Row):Prop where
 w1:1<=w
 w6:w<=6
 len:rs.length<=12
 form:∀r∈rs,okF w r.1
 deed:∀r∈rs,okD r.2
def NB(ds:List D)(G:DH):Prop:=∃p,∃w m:Nat,ds=[.ref p,.int w,.int m]/\Pen G p/\1<=w/\w<=6/\m<=12
def NK(ds:List D)(G:DH)(d:D)(G':DH):Prop:=∃p,∃w m v:Nat,∃rs:List Row,ds=[.ref p,.int w,.int m]/\d=ao v rs/\okB v rs/\v<=w/\rs.length<=m/\Pen G' p/\Sb p G G'
def uC:RF.Spec:=bO NB NK
theorem acL{p:Addr}{w m:Nat}{G:DH}{k:D->DH->Prop}{E:EK}(hp:Pen G p)(h1:1<=w)(h2:w<=6)(h3:m<=12)(hk:∀(v:Nat)(rs:List Row)(G':DH),okB v rs->v<=w->rs.length<=m->Pen G' p->Sb p G G'->k (ao v rs) G'):uC.t [.ref p,.int w,.int m] G k E:=by refine cz ⟨p,w,m,rfl,hp,h1,h2,h3⟩ λd G' hx=>?_;obtain ⟨p2,w2,m2,v,rs,e1,e2,o,q1,q2,hp',sb⟩:=hx;simp only[dA,D.ref.injEq,D.int.injEq,Int.ofNat_inj,fE]at e1;obtain ⟨rfl,rfl,rfl⟩:=e1;subst e2;exact hk v rs G' o q1 q2 hp' sb
theorem acM{p:Addr}{m:Int}{G:DH}{k:D->DH->Prop}{E:EK}(hp:Pen G p)(h1:0 < m)(h2:m<=100)(hk:∀(xs:List (List Nat))(G':DH),0 < xs.length->xs.length<=100->(∀x∈xs,okD x)->Pen G' p->Sb p G G'->k (.lst (xs.map D.str)) G'):uB.t [.ref p,.int m] G k E:=by refine cz ⟨p,m,rfl,hp,h1,h2⟩ λd G' hx=>?_;obtain ⟨p2,m2,xs,e1,e2,q1,q2,q3,hp',sb⟩:=hx;cases e1;subst e2;exact hk xs G' q1 q2 q3 hp' sb
theorem Cj{α:Type}{l:List α}{a:α}:atI (l++[a]) (-1)=some a:=by unfold atI ixN;rw[if_neg (by decide),if_pos (by simp;omega),ar,fe,show (-1+((l.length+1:Nat):Int)).toNat=l.length by omega];simp
theorem acN (Φ:aa) (h1:Φ "_law_take"=cY) (h2:Φ "_law_deeds_of"=uB) (h3:Φ "_law_form_like"=uA) (ds:List D) (G:DH) (h:NB ds G):au Φ yM noE (env0 ds 5) G (ends (NK ds G)):=by
 obtain ⟨p,w,m,rfl,hp,w1,w2,m1⟩:=h;simp_all_arith[yM];refine seq λM hM=>?_;simp_arith[h1];refine bR hp (by omega) (by omega) λn G2 hn hp2 sb2=>?_;simp_arith[ends];rw[show (1:Int)+(n:Int)=((n+1:Nat):Int) by omega];refine hM _ _ (seq λM hM=>?_);simp_arith[h2];refine acM hp2 (by decide) (by decide) λxs G3 x1 x2 x3 hp3 sb3=>?_;refine hM _ _ (seq λM hM=>?_);simp_arith[ends];refine λq hq=>hM _ _ (seq λM hM=>?_);simp_arith[ends];refine λs hs=>hM _ _ (seq λM hM=>?_);have hqs:q≠s:=by rintro rfl;rw[b8]at hs;cases hs
 have hs3:G3 s=none:=by rw[dF (Ne.symm hqs)]at hs;exact hs
 have npq:p≠q:=hp3.ne hq;have nps:p≠s:=hp3.ne hs3;have sa4:Sa G3 (bf (bf G3 q (.lst [])) s (.lst [])):=(Sa.new hq).trans (Sa.new hs);have hp4:=hp3.sa sa4;simp_arith![h1];refine bR hp4 (by omega) (by omega) λr G5 hr hp5 sb5=>?_;simp_arith![ends];refine ⟨by omega,?_⟩;refine ForG.inv (P:=λi ρ G'=>(∃o,ρ=[some (.ref p),some (.int w),some (.int m),some (.int ((n+1:Nat):Int)),some (.lst (xs.map D.str)),some (.ref q),some (.ref s),o])/\Pen G' p/\Sb p G G'/\
   ∃rs:List Row,G' q=some (.lst ((rs.map (·.1)).map D.str))/\G' s=some (.lst (rs.map az))/\rs.length=i/\(∀r∈rs,okF (n+1) r.1)/\∀r∈rs,okD r.2) ⟨⟨_,rfl⟩,hp5,sb2.trans (sb3.trans (sa4.sb.trans sb5)),[],?_,?_,rfl,by simp,by simp⟩ (λ_ _ _ _=>trivial) ?_ ?_
 ·exact sb5 q _ (by rw[dF hqs];exact b8) (Ne.symm npq)
 ·exact sb5 s _ b8 (Ne.symm nps)
 ·rintro i d ρ G' hd ⟨⟨o,rfl⟩,hp6,sb6,rs,g1,g2,r1,r2,r3⟩ kk hk;have hi:i < r:=by
   have:=(ah.mp hd).1;simpa [aN] using this
  simp_arith![ends];refine seq λM hM=>?_;simp_arith[h3,eN g1];refine acD (fs:=rs.map (·.1)) hp6 (by omega) (by omega) (gn g1) (by simp;omega) (λf hf=>?_) λf G7 hf hp7 sb7=>?_
  ·obtain ⟨r',hr',rfl⟩:=ce.mp hf;exact r2 r' hr'
  have g1':=sb7 q _ g1 (Ne.symm npq);have g2':=sb7 s _ g2 (Ne.symm nps);simp_arith[eN g1'];refine ⟨by simp;have hsz:sz=1000000:=rfl;omega,hM _ _ (last ?_)⟩;have e2:bf G7 q (.lst ((rs.map (·.1)).map D.str++[.str f])) s=some (.lst (rs.map az)):=by rw[dF (Ne.symm hqs)];exact g2'
  have hp8:Pen (bf G7 q (.lst ((rs.map (·.1)).map D.str++[.str f]))) p:=hp7.sb Sb.upd npq;simp_arith[h1,eN e2,gn b8,Cj,ag];refine bR hp8 (by omega) (by omega) λt G9 ht hp9 sb9=>?_;have e1':=sb9 q _ b8 (Ne.symm npq);have e2':=sb9 s _ e2 (Ne.symm nps);simp_arith[eN e2'];refine lG (by omega) (by simp;omega) λx hx=>?_;obtain ⟨dd,hdd,rfl⟩:=ce.mp hx;refine ⟨by decide,by simp;have hsz:sz=1000000:=rfl;omega,hk _ _ ⟨⟨_,rfl⟩,hp9.sb Sb.upd nps,?_,rs++[(f,dd)],?_,?_,by simp[r1],?_,?_⟩⟩
  ·intro b ob hb nb;by_cases hbs:b=s
   ·subst hbs;exfalso;have z:=sb2 b _ hb nb;have z:=sb3 b _ z nb;rw[hs3]at z;cases z
   ·by_cases hbq:b=q
    ·subst hbq;exfalso;have z:=sb2 b _ hb nb;have z:=sb3 b _ z nb;rw[hq]at z;cases z
    ·rw[dF hbs];exact sb9 b _ (by rw[dF hbq];exact sb7 b _ (sb6 b _ hb nb) nb) nb
  ·rw[dF hqs,e1'];simp
  ·rw[b8];simp[az]
  ·intro r' hr';rcases bn.mp hr' with h |h
   ·exact r2 r' h
   ·rw[bq.mp h];exact hf
  ·intro r' hr';rcases bn.mp hr' with h |h
   ·exact r3 r' h
   ·rw[bq.mp h];exact x3 dd hdd
 ·rintro ρ G' ⟨⟨o,rfl⟩,hp6,sb6,rs,g1,g2,r1,r2,r3⟩;have hl:rs.length=r:=by rw[r1];simp[aN]
  refine hM _ _ ?_;simp_arith[gn g2];exact ⟨by decide,p,w,m,n+1,rs,rfl,rfl,⟨by omega,by omega,by omega,r2,r3⟩,by omega,by omega,hp6,sb6⟩
def alt(c:Nat):List Nat:=if c=42 then [48,49] else [c]
def step1(acc:List (List Nat))(c:Nat):List (List Nat):=acc.flatMap λt=>(alt c).map λs=>t++[s]
def gr(f:List Nat):List (List Nat):=f.foldl step1 [[]]
def Fits(f w:List Nat):Prop:=f.length=w.length/\∀(i c s:Nat),f[i]?=some c->w[i]?=some s->s∈alt c
theorem acO(f:List Nat)(c:Nat):gr (f++[c])=step1 (gr f) c:=by unfold gr;rw[List.foldl_append];rfl
theorem acP{acc:List (List Nat)}{c:Nat}{w:List Nat}:w∈step1 acc c↔∃t s,t∈acc/\s∈alt c/\w=t++[s]:=by
 unfold step1;rw[gt];constructor
 ·rintro ⟨t,ht,h⟩;obtain ⟨s,hs,rfl⟩:=ce.mp h;exact ⟨t,s,ht,hs,rfl⟩
 ·rintro ⟨t,s,ht,hs,rfl⟩;exact ⟨t,ht,ce.mpr ⟨s,hs,rfl⟩⟩
theorem zg{f w:List Nat}{c s:Nat}:Fits (f++[c]) (w++[s])↔Fits f w/\s∈alt c:=by
 constructor
 ·rintro ⟨h1,h2⟩;have hl:f.length=w.length:=by simpa using h1
  refine ⟨⟨hl,λi c' s' hc hs=>?_⟩,?_⟩
  ·have i1:=(ah.mp hc).1;exact h2 i c' s' (by rw[eh i1];exact hc) (by rw[eh (by omega)];exact hs)
  ·exact h2 f.length c s (by simp) (by rw[hl];simp)
 ·rintro ⟨⟨h1,h2⟩,h3⟩;refine ⟨by simp[h1],λi c' s' hc hs=>?_⟩;by_cases hi:i < f.length
  ·rw[eh hi]at hc;rw[eh (by omega)]at hs;exact h2 i c' s' hc hs
  ·have i2:=(ah.mp hc).1;simp at i2;have e:i=f.length:=by omega
   subst e;simp at hc;rw[h1]at hs;simp at hs;subst hc hs;exact h3
theorem eQ{f w:List Nat}:w∈gr f↔Fits f w:=by
 induction f using acf generalizing w with
 |nil=>
  simp[gr,Fits];constructor
  ·rintro rfl;simp
  ·intro h;exact dv.mp h.symm
 |snoc f c ih=>
  rw[acO,acP];constructor
  ·rintro ⟨t,s,ht,hs,rfl⟩;exact zg.mpr ⟨ih.mp ht,hs⟩
  ·intro h;have hl:=h.1;simp at hl;have hne:w≠[]:=by rintro rfl;simp at hl
   refine ⟨w.dropLast,w.getLast hne,?_,?_,(fh hne).symm⟩
   ·rw[<-fh hne]at h;exact ih.mpr (zg.mp h).1
   ·rw[<-fh hne]at h;exact (zg.mp h).2
noncomputable def letters:List Nat:=[97,98,99,100,101,102,103,104,105,106,107,108,109,110,111,112,113,114,115,116,117,118,119,120,121,122]
theorem acQ:∀c:Fin 123,97<=c.1->letters.contains c.1=true:=by decide
theorem acR{c:Nat}:letters.contains c=true↔97<=c/\c<=122:=
 ⟨λh=>Nz (bX.mp h),λ⟨h1,h2⟩=>acQ ⟨c,Nat.lt_succ_of_le h2⟩ h1⟩
def okW(w:Nat)(l:List Nat):Prop:=l.length=w/\∀c∈l,c=48\/c=49
theorem zj{α:Type}(l:List α):bools (l.map λ_=>D.bl true)=some (l.map λ_=>true):=yr _ l
theorem zm{α:Type}(l:List α):(l.map λ_=>true).all id=true:=ck.mpr λx hx=>by obtain ⟨_,_,rfl⟩:=ce.mp hx;rfl
def zp:RF.Spec:=bK (λa:List Nat×List Nat=>[.str a.1,.int a.2.length,.str a.2]) (λa=>a.2.length<=1000/\∀c∈a.2,a.1.contains c=true) (λ_=>.bl true)
theorem acS(Φ:aa)(a:List Nat×List Nat)(G:DH)(h:a.2.length<=1000/\∀c∈a.2,a.1.contains c=true):au Φ lR noE (env0 [.str a.1,.int a.2.length,.str a.2] 0) G (ends λd G'=>G'=G/\d=.bl true):=by
 obtain ⟨s,l⟩:=a;obtain ⟨h1,h2⟩:=h;dsimp only at h1 h2;simp_arith[lR,BEq.rfl];refine CompG.map (f:=λ_=>.bl true) (I:=λρ=>∃o,ρ=[o,some (.str s)]) ⟨_,rfl⟩ trivial (by simp;have hsz:sz=1000000:=rfl;omega) ?_ ?_
 ·rintro d ρ hd ⟨o,rfl⟩ kk hk;obtain ⟨c,hc,rfl⟩:=ce.mp hd;simp_arith[h2 c hc];exact hk _ ⟨_,rfl⟩
 ·simp_arith[zj,zm]
def zq:RF.Spec:=bK (λl:List Nat=>[.int l.length,.str l]) (λl=>l.length<=1000/\∀c∈l,isF c) (λ_=>.bl true)
theorem acT (Φ:aa) (h1:Φ "is_text_of"=zp) (l:List Nat) (G:DH) (h:l.length<=1000/\∀c∈l,isF c):au Φ lU noE (env0 [.int l.length,.str l] 0) G (ends λd G'=>G'=G/\d=.bl true):=by simp_arith[lU,h1];exact bQ ([48,49,42],l) rfl ⟨h.1,λc hc=>by rcases h.2 c hc with rfl |rfl |rfl <;> rfl⟩ ⟨rfl,rfl⟩
def zr:RF.Spec:=bK (λl:List Nat=>[.str l]) okD (λ_=>.bl true)
theorem acU(Φ:aa)(l:List Nat)(G:DH)(h:okD l):au Φ lQ noE (env0 [.str l] 0) G (ends λd G'=>G'=G/\d=.bl true):=by
 obtain ⟨h1,h2,h3⟩:=h;have b1:decide ((1:Int)<=(l.length:Int))=true:=b9 (by omega);have b2:decide ((l.length:Int)<=8)=true:=b9 (by omega);simp_arith[lQ,b1,b2];refine CompG.map (f:=λ_=>.bl true) (I:=λρ=>∃o,ρ=[o]) ⟨_,rfl⟩ trivial (by simp;have hsz:sz=1000000:=rfl;omega) ?_ ?_
 ·rintro d ρ hd ⟨o,rfl⟩ kk hk;obtain ⟨c,hc,rfl⟩:=ce.mp hd;have hcl:[97,98,99,100,101,102,103,104,105,106,107,108,109,110,111,112,113,114,115,116,117,118,119,120,121,122].contains c=true:=acR.mpr (h3 c hc);simp_arith[hcl];exact hk _ ⟨_,rfl⟩
 ·simp_arith[zj,zm]
def zu:RF.Spec:=bK (λa:Nat×Row=>[.int a.1,az a.2]) (λa=>a.1<=6/\okF a.1 a.2.1/\okD a.2.2) (λ_=>.bl true)
theorem acV (Φ:aa) (h1:Φ "is_form"=zq) (h2:Φ "is_deed"=zr) (a:Nat×Row) (G:DH) (h:a.1<=6/\okF a.1 a.2.1/\okD a.2.2):au Φ lV noE (env0 [.int a.1,az a.2] 0) G (ends λd G'=>G'=G/\d=.bl true):=by obtain ⟨w,f,d⟩:=a;obtain ⟨hw,hf,hd⟩:=h;dsimp only at hw hf hd;simp_arith[lV,az,h1,h2];simp_arith[show ((0+1+1:Nat):Int)=2 from rfl,BEq.rfl];refine bQ f (by rw[hf.1]) ⟨by rw[hf.1];omega,hf.2⟩ ?_;simp_arith[ends];exact bQ d rfl hd ⟨rfl,rfl⟩
def zx:RF.Spec:=bK (λw:Nat=>[.int w]) (λw=>1<=w/\w<=6) (λ_=>.bl true)
theorem acW (Φ:aa) (h1:Φ "is_whole"=aK iT) (w:Nat) (G:DH) (h:1<=w/\w<=6):au Φ lW noE (env0 [.int w] 0) G (ends λd G'=>G'=G/\d=.bl true):=by have b1:decide ((1:Int)<=(w:Int))=true:=b9 (by omega);have b2:decide ((w:Int)<=6)=true:=b9 (by omega);simp_arith[lW,h1];refine du (d:=.bl true) rfl ?_;simp_arith[b1,b2]
def uD:RF.Spec:=bK (λa:Nat×List Row=>[ao a.1 a.2]) (λa=>okB a.1 a.2) (λ_=>.bl true)
theorem acX (Φ:aa) (h1:Φ "is_width"=zx) (h2:Φ "is_row"=zu) (a:Nat×List Row) (G:DH) (h:okB a.1 a.2):au Φ lX noE (env0 [ao a.1 a.2] 2) G (ends λd G'=>G'=G/\d=.bl true):=by
 obtain ⟨w,rs⟩:=a;dsimp only at h ⊢;have hlen:=h.len;simp_all_arith[lX,ao];refine seq λM hM=>?_;simp_arith[ends];simp_arith[show ((0+1+1:Nat):Int)=2 from rfl,BEq.rfl];refine hM _ _ (seq λM hM=>?_);simp_arith[ends];refine hM _ _ (seq λM hM=>?_);simp_arith[h1];refine bQ w rfl ⟨h.w1,h.w6⟩ ?_;have hd:decide ((12:Int) < ((rs.map az).length:Int))=false:=cm (by rw[ag];omega);simp_arith[hd];refine hM _ _ ?_;simp_arith[ends];refine CompG.map (f:=λ_=>.bl true) (I:=λρ=>∃o,ρ=[o,some (.int w)]) ⟨_,rfl⟩ trivial (by rw[ag];have hsz:sz=1000000:=rfl;omega) ?_ ?_
 ·rintro d ρ hd ⟨o,rfl⟩ kk hk;obtain ⟨r,hr,rfl⟩:=ce.mp hd;simp_arith[h2];exact bQ (w,r) rfl ⟨h.w6,h.form r hr,h.deed r hr⟩ (hk _ ⟨_,rfl⟩)
 ·simp_arith[zj,zm]
def gw:RF.Spec:=bK (λa:Nat×List Row=>[ao a.1 a.2]) (λa=>okB a.1 a.2) (λ_=>.non)
theorem iU{w:Nat}{rs:List Row}{G:DH}{k:D->DH->Prop}{E:EK}(h:okB w rs)(hk:k .non G):gw.t [ao w rs] G k E:=bQ (w,rs) rfl h hk
theorem acY (Φ:aa) (h1:Φ "is_book"=uD) (a:Nat×List Row) (G:DH) (h:okB a.1 a.2):au Φ lY noE (env0 [ao a.1 a.2] 0) G (ends λd G'=>G'=G/\d=.non):=by simp_arith[lY,h1];refine bQ a rfl h ?_;simp_arith[ends]
def bD(c s:Nat):Bool:=c==42||c==s
def bA:List Nat->List Nat->Bool
 |c::f,s::w=>bD c s&&bA f w
 |_,_=>true
def aU(f w:List Nat):Bool:=decide (f.length=w.length)&&bA f w
noncomputable def m6:List D->Option D
 |[.str f,.str w]=>if decide (f.length<=100000) then some (.bl (aU f w)) else none
 |_=>none
theorem uE:∀(f w:List Nat),cg (f.map λc=>D.str [c]) (w.map λc=>D.str [c])=(f.zip w).map λp=>D.tup [.str [p.1],.str [p.2]]
 |[],w=>by simp[cg]
 |c::f,[]=>by simp[cg]
 |c::f,s::w=>by simp[cg,uE f w]
theorem NP:∀(f w:List Nat),((f.zip w).map λp=>bD p.1 p.2).all id=bA f w
 |[],w=>by simp[bA]
 |c::f,[]=>by simp[bA]
 |c::f,s::w=>by simp[bA,NP f w]
theorem gA{c s:Nat}:(([c]==[s]):Bool)=(c==s):=by
 by_cases h:c=s
 ·subst h;simp
 ·rw[ef.mpr h,ef.mpr (by simp[h])]
theorem acZ{a b:Nat}:((((a:Nat):Int)==((b:Nat):Int)):Bool)=decide (a=b):=by
 by_cases h:a=b
 ·subst h;simp
 ·rw[cm h,ef];omega
theorem ac0(Φ:aa)(ds:List D)(G:DH)(d:D)(h:m6 ds=some d):au Φ mF noE (env0 ds 0) G (ends λd' G'=>G'=G/\d'=d):=by
 unfold m6 at h;split at h
 ·rename_i f w;split at h
  ·rename_i hl;have hl:=dL hl;cases h;simp_arith[mF,acZ,aU];cases he:decide (f.length=w.length) with
   |false=>simp_arith[Bool.false_and]
   |true=>
    simp_arith[uE,e8];refine CompG.map (f:=λd=>match d with |.tup [.str [c],.str [s]]=>.bl (bD c s) |_=>.non) (I:=λρ=>∃o o',ρ=[o,o']) ⟨_,_,rfl⟩ trivial (by simp;have hsz:sz=1000000:=rfl;omega) ?_ ?_
    ·rintro d ρ hd ⟨o,o',rfl⟩ kk hk;obtain ⟨⟨c,s⟩,_,rfl⟩:=ce.mp hd;simp_arith[gA];have:=hk [some (.str [c]),some (.str [s])] ⟨_,_,rfl⟩;unfold bD at this;cases hc:(c==42) with
     |true=>simp_arith[hc]at this ⊢;exact this
     |false=>simp_arith[hc]at this ⊢;exact this
    ·rw[List.map_map];simp_arith[Function.comp_def,yr,NP,and_self]
  ·cases h
 ·cases h
theorem zy{c s:Nat}(hs:s=48\/s=49):bD c s=true↔s∈alt c:=by
 unfold bD alt;by_cases h:c=42
 ·subst h;simp;rcases hs with rfl |rfl <;> simp
 ·simp[h];exact eq_comm
theorem zz:∀{f w:List Nat},f.length=w.length->(∀s∈w,s=48\/s=49)->(bA f w=true↔∀(i c s:Nat),f[i]?=some c->w[i]?=some s->s∈alt c)
 |[],[],_,_=>by simp[bA]
 |[],s::w,h,_=>by simp at h
 |c::f,[],h,_=>by simp at h
 |c::f,s::w,h,hw=>by
  rw[bA,ae,zz (by simpa using h) λs hs=>hw s (ba _ hs),zy (hw s bg)];constructor
  ·rintro ⟨h1,h2⟩ i c' s' hc hs;cases i with
   |zero=>simp at hc hs;subst hc hs;exact h1
   |succ i=>exact h2 i c' s' (by simpa using hc) (by simpa using hs)
  ·intro h;exact ⟨h 0 c s rfl rfl,λi c' s' hc hs=>h (i+1) c' s' (by simpa using hc) (by simpa using hs)⟩
theorem NQ{f w:List Nat}(hw:∀s∈w,s=48\/s=49):aU f w=true↔Fits f w:=by
 unfold aU Fits;rw[ae,cb];constructor
 ·rintro ⟨h1,h2⟩;exact ⟨h1,(zz h1 hw).mp h2⟩
 ·rintro ⟨h1,h2⟩;exact ⟨h1,(zz h1 hw).mpr h2⟩
def aR(rs:List Row)(w:List Nat):Option Nat:=rs.findIdx? λr=>aU r.1 w
def aX:Option Nat->D
 |some n=>.int n
 |none=>.non
theorem NT{w v:Nat}{rs ss:List Row}(h:ao w rs=ao v ss):w=v/\rs=ss:=by
 unfold ao at h;simp only[D.tup.injEq,dA,D.int.injEq,Int.ofNat_inj,fE]at h;refine ⟨h.1,?_⟩;have h2:=h.2;clear h;induction rs generalizing ss with
 |nil=>cases ss with
  |nil=>rfl
  |cons _ _=>simp at h2
 |cons r rs ih=>cases ss with
  |nil=>simp at h2
  |cons s ss=>
   simp only[br,dA]at h2;have e:r=s:=by have:=h2.1;unfold az at this;simp only[D.tup.injEq,dA,D.str.injEq,fE]at this;exact Prod.ext this.1 this.2
   rw[e,ih h2.2]
theorem NZ{rs:List Row}{l:List Nat}{i:Nat}{r:Row}(h:rs[i]?=some r):aR (rs.drop i) l=if aU r.1 l then some 0 else (aR (rs.drop (i+1)) l).map (·+1):=by
 have hi:=(ah.mp h).1;have e:rs.drop i=r::rs.drop (i+1):=by rw[bb hi];rw[(ah.mp h).2]
 rw[e];unfold aR;rw[fS]
noncomputable def jM(rs:List Row):Option Nat->D
 |some n=>match rs[n]? with |some r=>.str r.2 |none=>.non
 |none=>.non
theorem N5{rs:List Row}{l:List Nat}{n:Nat}(h:aR rs l=some n):n < rs.length:=by unfold aR at h;exact (List.findIdx?_eq_some_iff_findIdx_eq.mp h).1
def uF:RF.Spec:=bO (λds _=>∃w rs o,ds=[ao w rs,aX o]/\∀n,o=some n->n < rs.length) (λds G d G'=>G'=G/\∃w rs o,ds=[ao w rs,aX o]/\d=jM rs o)
theorem ac1{a b:Option Nat}(h:aX a=aX b):a=b:=by cases a <;> cases b <;> simp[aX]at h ⊢ <;> omega
theorem N6{w:Nat}{rs:List Row}{o:Option Nat}{G:DH}{k:D->DH->Prop}{E:EK}(h:∀n,o=some n->n < rs.length)(hk:k (jM rs o) G):uF.t [ao w rs,aX o] G k E:=by refine cz ⟨w,rs,o,rfl,h⟩ λd G' hx=>?_;obtain ⟨e1,w2,rs2,o2,e2,e3⟩:=hx;simp only[dA,fE]at e2;obtain ⟨e2,e4⟩:=e2;obtain ⟨rfl,rfl⟩:=NT e2;cases ac1 e4;subst e1 e3;exact hk
theorem ac2(Φ:aa)(ds:List D)(G:DH)(h:∃w rs o,ds=[ao w rs,aX o]/\∀n,o=some n->n < rs.length):au Φ jL noE (env0 ds 0) G (ends λd G'=>G'=G/\∃w rs o,ds=[ao w rs,aX o]/\d=jM rs o):=by
 obtain ⟨w,rs,o,rfl,ho⟩:=h;cases o with
 |none=>
  simp_arith[jL,aX];exact ⟨w,rs,none,rfl,rfl⟩
 |some n=>
  have hn:=ho n rfl;simp_arith[jL,aX,ao];refine bu (a:=az rs[n]) (bU (by simp[hn])) ?_;simp_arith[az];exact ⟨w,rs,some n,rfl,by simp[jM,hn]⟩
theorem iV{α β:Type}(f:α->β)(l:List α)(n:Nat):cut (l.map f) none (some (n:Int))=(l.take n).map f:=by rw[jG,List.map_take]
theorem zA{α β:Type}(f:α->β)(l:List α)(n:Nat):cut (l.map f) (some (n:Int)) none=(l.drop n).map f:=by rw[ut,List.map_drop]
theorem okB.sub{w:Nat}{rs ss:List Row}(h:okB w rs)(hl:ss.length<=rs.length)(hs:∀r∈ss,r∈rs):okB w ss:=
 ⟨h.w1,h.w6,b6 hl h.len,λr hr=>h.form r (hs r hr),λr hr=>h.deed r (hs r hr)⟩
theorem N7(a b:List Row)(l:List Nat):aR (a++b) l=match aR a l with |some n=>some n |none=>(aR b l).map (a.length + ·):=by
 unfold aR;rw[List.findIdx?_append];cases List.findIdx? (λr=>aU r.1 l) a with
 |some n=>rfl
 |none=>
  cases List.findIdx? (λr=>aU r.1 l) b with
  |none=>rfl
  |some n=>simp[Nat.add_comm]
theorem ac3(c:Nat)(n:Nat):reps [c] n=List.replicate n c:=by
 unfold reps;induction n with
 |zero=>rfl
 |succ n ih=>rw[cp,e6,ih,cp];rfl
theorem ac4(w:Nat):okF w (List.replicate w 42):=⟨cy,λc hc=>.inr (.inr (List.eq_of_mem_replicate hc))⟩
theorem zB{w:Nat}{l:List Nat}:Fits (List.replicate w 42) l↔okW w l:=by
 constructor
 ·rintro ⟨h1,h2⟩;rw[cy]at h1;refine ⟨h1.symm,λc hc=>?_⟩;obtain ⟨i,hi,rfl⟩:=List.getElem_of_mem hc;have:=h2 i 42 l[i] (by rw[List.getElem?_replicate];rw[if_pos (by omega)]) (by simp[hi]);simpa [alt] using this
 ·rintro ⟨h1,h2⟩;refine ⟨by rw[cy,h1],λi c s hc hs=>?_⟩;rw[List.getElem?_replicate]at hc;split at hc
  ·cases hc;have:=h2 s (bv hs);simpa [alt] using this
  ·cases hc
theorem ac5{p:Addr}{G:DH}{k:D->DH->Prop}{E:EK}(hp:Pen G p)(hk:∀G',Pen G' p->Sb p G G'->k (.ref p) G'):ux.t [.ref p] G k E:=
 cz ⟨p,rfl,hp⟩ λd G' hx=>by obtain ⟨p2,e1,e2,hp',sb⟩:=hx;cases e1;subst e2;exact hk G' hp' sb
def cj(a b:Nat):Option Nat:=if a=42 then some b else if b=42\/b=a then some a else none
noncomputable def bM:List Nat->List Nat->Option (List Nat)
 |a::f,b::g=>match cj a b with |some c=>(bM f g).map (c::·) |none=>none
 |_,_=>some []
def bG:Option (List Nat)->D
 |some l=>.str l
 |none=>.non
noncomputable def m7:List D->Option D
 |[.str f,.str g]=>if decide (f.length<=100000) then some (bG (bM f g)) else none
 |_=>none
theorem ac6{f g:List Nat}{i a b:Nat}(h:(f.zip g)[i]?=some (a,b)):bM (f.drop i) (g.drop i)=match cj a b with |some c=>(bM (f.drop (i+1)) (g.drop (i+1))).map (c::·) |none=>none:=by
 have hz:=ah.mp h;obtain ⟨hl,he⟩:=hz;rw[List.length_zip]at hl;have h1:i < f.length:=by omega
 have h2:i < g.length:=by omega
 rw[List.getElem_zip]at he;rw[bb h1,bb h2];simp only[Prod.mk.injEq]at he;rw[he.1,he.2];rfl
theorem ac7{f g:List Nat}:bM (f.drop (f.zip g).length) (g.drop (f.zip g).length)=some []:=by
 rw[List.length_zip];by_cases h:f.length<=g.length
 ·rw[Nat.min_eq_left h,eP];cases g.drop f.length <;> rfl
 ·rw[Nat.min_eq_right (by omega),eP];cases f.drop g.length <;> rfl
theorem ac8(Φ:aa)(ds:List D)(G:DH)(d:D)(h:m7 ds=some d):au Φ lH noE (env0 ds 3) G (ends λd' G'=>G'=G/\d'=d):=by
 unfold m7 at h;split at h
 ·rename_i f g;split at h
  ·rename_i hl;have hl:=dL hl;cases h;simp_all_arith[lH];refine seq λM hM=>?_;simp_arith[ends];refine hM _ _ (seq λM hM=>?_);simp_arith![uE];refine ForG.inv (P:=λi ρ G'=>(∃o3 o4 m,ρ=[some (.str f),some (.str g),some (.str m),o3,o4]/\m.length=i/\bM f g=(bM (f.drop i) (g.drop i)).map (m ++ ·))/\G'=G) ⟨⟨_,_,[],rfl,rfl,by simp⟩,rfl⟩ (λ_ _ _ _=>trivial) ?_ ?_
   ·rintro i d ρ G' hd ⟨⟨o3,o4,m,rfl,hm,hb⟩,rfl⟩ kk hk;rw[ay]at hd;obtain ⟨⟨a,b⟩,hab,rfl⟩:=ax.mp hd;have hi:=(ah.mp hab).1;rw[List.length_zip]at hi;rw[ac6 hab]at hb;simp_arith![ends];refine last ?_;have put:∀(c:Nat)(o3 o4:Option D),cj a b=some c->m.length+1<=sz/\kk [some (.str f),some (.str g),some (.str (m++[c])),o3,o4] G':=by
     intro c o3 o4 hc;rw[hc]at hb;refine ⟨by have hsz:sz=1000000:=rfl;omega,hk _ _ ⟨⟨_,_,_,rfl,by simp[hm],?_⟩,rfl⟩⟩;rw[hb,Option.map_map];congr 1;funext x;simp
    simp_arith[gA];by_cases h42:a=42
    ·have:((a==42):Bool)=true:=by simp[h42]
     simp_arith[this];exact put b _ _ (if_pos h42)
    ·have h0:((a==42):Bool)=false:=by simp[h42]
     simp_arith[h0,gA];by_cases hb42:b=42
     ·have:((b==42):Bool)=true:=by simp[hb42]
      simp_arith[this];exact put a _ _ (by unfold cj;rw[if_neg h42,if_pos (.inl hb42)])
     ·have h1:((b==42):Bool)=false:=by simp[hb42]
      simp_arith[h1,gA];by_cases hba:b=a
      ·have:((b==a):Bool)=true:=by simp[hba]
       simp_arith[this];exact put a _ _ (by unfold cj;rw[if_neg h42,if_pos (.inr hba)])
      ·have:((b==a):Bool)=false:=by simp[hba]
       simp_arith[this];have hn:cj a b=none:=by unfold cj;rw[if_neg h42,if_neg (by rintro (h |h);exact hb42 h;exact hba h)]
       rw[hn]at hb;rw[hb];rfl
   ·rintro ρ G' ⟨⟨o3,o4,m,rfl,hm,hb⟩,rfl⟩;rw[ag,ac7]at hb;refine hM _ _ ?_;simp_arith[ends];rw[hb];simp[bG]
  ·cases h
 ·cases h
noncomputable def gB:List D->Option D
 |[.str f,.int n,.str [c]]=>if decide (0<=n)&&decide (n < f.length)&&decide (f.length<=1000) then some (.str (f.set n.toNat c)) else none
 |_=>none
theorem zE{l:List Nat}{n c:Nat}(h:n < l.length):l.take n++[c]++l.drop (n+1)=l.set n c:=by rw[fT,if_pos h];simp
theorem ac9(Φ:aa)(ds:List D)(G:DH)(d:D)(h:gB ds=some d):au Φ lL noE (env0 ds 0) G (ends λd' G'=>G'=G/\d'=d):=by
 unfold gB at h;split at h
 ·rename_i f n c;split at h
  ·rename_i hl;simp only[ae,cb]at hl;obtain ⟨⟨h0,h1⟩,h2⟩:=hl;cases h;obtain ⟨k,rfl⟩:=cS h0;simp_arith[lL,jG,yt,ar,aT,bp,dP,zE (show k < f.length by omega)];exact ⟨by have hsz:sz=1000000:=rfl;omega,by have hsz:sz=1000000:=rfl;omega⟩
  ·cases h
 ·cases h
noncomputable def iW:List D->Option D
 |[.int n]=>if decide (0<=n)&&decide (n<=1000) then some (.str (List.replicate n.toNat 42)) else none
 |_=>none
theorem ada(Φ:aa)(ds:List D)(G:DH)(d:D)(h:iW ds=some d):au Φ mq noE (env0 ds 0) G (ends λd' G'=>G'=G/\d'=d):=by
 unfold iW at h;split at h
 ·rename_i n;split at h
  ·rename_i hl;simp only[ae,cb]at hl;cases h;simp_arith[mq,ac3];exact ⟨hl.1,hl.2,by have hsz:sz=1000000:=rfl;omega⟩
  ·cases h
 ·cases h
def aV(rs:List Row)(b:List Nat):Option Nat:=rs.findIdx? λr=>(bM r.1 b).isSome
def N8(ds:List D)(_:DH):Prop:=∃(rs:List Row)(b:List Nat),ds=[.tup (rs.map az),.str b]/\∀r∈rs,r.1.length<=1000
def Oa(ds:List D)(G:DH)(d:D)(G':DH):Prop:=G'=G/\∃(rs:List Row)(b:List Nat),ds=[.tup (rs.map az),.str b]/\d=aX (aV rs b)
def m8:RF.Spec:=bO N8 Oa
theorem zF{rs ss:List Row}(h:rs.map az=ss.map az):rs=ss:=(NT (w:=0) (v:=0) (by unfold ao;rw[h])).2
theorem Ob{rs:List Row}{b:List Nat}{G:DH}{k:D->DH->Prop}{E:EK}(h:∀r∈rs,r.1.length<=1000)(hk:k (aX (aV rs b)) G):m8.t [.tup (rs.map az),.str b] G k E:=by refine cz ⟨rs,b,rfl,h⟩ λd G' hx=>?_;obtain ⟨e1,rs2,b2,e2,e3⟩:=hx;simp only[dA,D.str.injEq,D.tup.injEq,fE]at e2;obtain ⟨e2,rfl⟩:=e2;cases zF e2;subst e1 e3;exact hk
theorem adb{o:Option (List Nat)}:fH (bG o)=!o.isSome:=by cases o <;> rfl
theorem adc{G:DH}{o:Option (List Nat)}:view G (bG o)=bG o:=by cases o <;> rfl
theorem ade{rs:List Row}{b:List Nat}{i:Nat}{r:Row}(h:rs[i]?=some r):aV (rs.drop i) b=if (bM r.1 b).isSome then some 0 else (aV (rs.drop (i+1)) b).map (·+1):=by
 have hi:=(ah.mp h).1;have e:rs.drop i=r::rs.drop (i+1):=by rw[bb hi];rw[(ah.mp h).2]
 rw[e];unfold aV;rw[fS]
theorem adf (Φ:aa) (h1:Φ "both"=aK m7) (ds:List D) (G:DH) (h:N8 ds G):au Φ lJ noE (env0 ds 2) G (ends (Oa ds G)):=by
 obtain ⟨rs,b,rfl,hb⟩:=h;simp_all_arith[lJ];refine seq λM hM=>?_;simp_arith![ends];refine ForG.inv (P:=λi ρ G'=>(∃o2 o3,ρ=[some (.tup (rs.map az)),some (.str b),o2,o3])/\G'=G/\aV rs b=(aV (rs.drop i) b).map (·+i)) ⟨⟨_,_,rfl⟩,rfl,by simp⟩ (λ_ _ _ _=>trivial) ?_ ?_
 ·rintro i d ρ G' hd ⟨⟨o2,o3,rfl⟩,rfl,hmet⟩ kk hk;rw[jB]at hd;obtain ⟨d',hd',rfl⟩:=ax.mp hd;rw[ay]at hd';obtain ⟨r,hr,rfl⟩:=ax.mp hd';have hrl:=hb r (bv hr);rw[ade hr]at hmet;simp_arith![ends];refine last ?_;simp_arith[h1,az];refine du (d:=bG (bM r.1 b)) (if_pos (b9 (by omega))) ?_;simp_arith[adc,adb];cases hf:(bM r.1 b).isSome with
  |true=>
   rw[hf,if_pos rfl]at hmet;exact ⟨rfl,rs,b,rfl,by rw[hmet];simp[aX]⟩
  |false=>
   rw[hf,if_neg a9]at hmet;refine hk _ _ ⟨⟨_,_,rfl⟩,rfl,?_⟩;rw[hmet,Option.map_map];congr 1;funext n;simp;omega
 ·rintro ρ G' ⟨⟨o2,o3,rfl⟩,rfl,hmet⟩;rw[iM,ag,eP]at hmet;refine hM _ _ ?_;simp_arith[ends];exact ⟨rfl,rs,b,rfl,by rw[hmet];rfl⟩
def cU(f b:List Nat):Option Nat:=(f.zip b).findIdx? λp=>p.2==42&&!(p.1==42)
noncomputable def cZ(rs:List Row)(b:List Nat):Option Nat:=match aV rs b with |some n=>(match rs[n]? with |some r=>cU r.1 b |none=>none) |none=>none
def Oc(ds:List D)(_:DH):Prop:=∃(rs:List Row)(b:List Nat),ds=[.tup (rs.map az),.str b]/\(∀r∈rs,r.1.length=b.length)/\b.length<=1000
def Od(ds:List D)(G:DH)(d:D)(G':DH):Prop:=G'=G/\∃(rs:List Row)(b:List Nat),ds=[.tup (rs.map az),.str b]/\d=aX (cZ rs b)
def uG:RF.Spec:=bO Oc Od
theorem adg{rs:List Row}{b:List Nat}{G:DH}{k:D->DH->Prop}{E:EK}(h:∀r∈rs,r.1.length=b.length)(hl:b.length<=1000)(hk:k (aX (cZ rs b)) G):uG.t [.tup (rs.map az),.str b] G k E:=by refine cz ⟨rs,b,rfl,h,hl⟩ λd G' hx=>?_;obtain ⟨e1,rs2,b2,e2,e3⟩:=hx;simp only[dA,D.str.injEq,D.tup.injEq,fE]at e2;obtain ⟨e2,rfl⟩:=e2;cases zF e2;subst e1 e3;exact hk
theorem uH{rs:List Row}{b:List Nat}{n:Nat}(h:aV rs b=some n):n < rs.length:=(List.findIdx?_eq_some_iff_findIdx_eq.mp h).1
theorem adh{f b:List Nat}{i s c:Nat}(hs:f[i]?=some s)(hc:b[i]?=some c):cU (f.drop i) (b.drop i)=if (c==42&&!(s==42))=true then some 0 else (cU (f.drop (i+1)) (b.drop (i+1))).map (·+1):=by have h1:=ah.mp hs;have h2:=ah.mp hc;rw[bb h1.1,bb h2.1,h1.2,h2.2];unfold cU;rw[List.zip_cons_cons,fS]
theorem adi (Φ:aa) (h1:Φ "first_touching"=m8) (ds:List D) (G:DH) (h:Oc ds G):au Φ lK noE (env0 ds 3) G (ends (Od ds G)):=by
 obtain ⟨rs,b,rfl,hb,hbl⟩:=h;simp_all_arith[lK];refine seq λM hM=>?_;simp_arith[h1];refine Ob (λr hr=>by rw[hb r hr];exact hbl) (hM _ _ (seq λM hM=>?_));cases ht:aV rs b with
 |none=>
  simp_arith[aX];exact ⟨rfl,rs,b,rfl,by unfold cZ;rw[ht];rfl⟩
 |some n=>
  have hn:=uH ht;have hlen:=hb rs[n] (d4 _);have hsp:cZ rs b=cU rs[n].1 b:=by unfold cZ;rw[ht];simp[hn]
  simp_arith[aX];refine hM _ _ (seq λM hM=>?_);simp_arith![ends];refine bu (a:=az rs[n]) (bU (by simp[hn])) ?_;simp_arith![az];generalize rs[n].1=f at hlen hsp;refine ForG.inv (P:=λi ρ G'=>(∃o3 o4,ρ=[some (.tup (rs.map az)),some (.str b),some (.int (n:Int)),o3,o4])/\G'=G/\cU f b=(cU (f.drop i) (b.drop i)).map (·+i)) ⟨⟨_,_,rfl⟩,rfl,by simp⟩ (λ_ _ _ _=>trivial) ?_ ?_
  ·rintro i d ρ G' hd ⟨⟨o3,o4,rfl⟩,rfl,hs⟩ kk hk;rw[jB]at hd;obtain ⟨d',hd',rfl⟩:=ax.mp hd;rw[ay]at hd';obtain ⟨s,hsi,rfl⟩:=ax.mp hd';have hi:=(ah.mp hsi).1;have hib:i < b.length:=by omega
   have hbi:b[i]?=some b[i]:=by simp[hib]
   rw[adh hsi hbi]at hs;simp_arith![ends];refine last ?_;simp_arith[ends];refine bu (a:=b[i]) (by rw[Nat.zero_add];exact bU hbi) ?_;simp_arith[gA];cases h42:(b[i]==42) with
   |false=>
    simp only[h42,Bool.false_and,if_neg a9]at hs;simp_arith[ends];refine hk _ _ ⟨⟨_,_,rfl⟩,rfl,?_⟩;rw[hs,Option.map_map];congr 1;funext n;simp;omega
   |true=>
    simp_arith[gA];cases hs42:(s==42) with
    |true=>
     simp only[h42,hs42,Bool.not_true,Bool.and_false,if_neg a9]at hs;simp_arith[ends];refine hk _ _ ⟨⟨_,_,rfl⟩,rfl,?_⟩;rw[hs,Option.map_map];congr 1;funext n;simp;omega
    |false=>
     simp only[h42,hs42,Bool.not_false,fI,if_pos]at hs;simp_arith[ends];exact ⟨rfl,rs,b,rfl,by rw[hsp,hs];simp[aX]⟩
  ·rintro ρ G' ⟨⟨o3,o4,rfl⟩,rfl,hs⟩;rw[iM,ag,eP]at hs;refine hM _ _ ?_;simp_arith[ends];exact ⟨rfl,rs,b,rfl,by rw[hsp,hs];simp[cU,aX]⟩
def jN:List Nat:=[115,112,108,105,116]
def stc(b:List Nat):Nat:=b.countP (·==42)
theorem jO{b:List Nat}{n c:Nat}(h:b[n]?=some 42)(hc:c≠42):stc (b.set n c)+1=stc b:=by
 obtain ⟨hl,he⟩:=ah.mp h;have e1:b=b.take n++42::b.drop (n+1):=by rw[<-he,<-bb hl,fm]
 have e2:b.set n c=b.take n++c::b.drop (n+1):=by rw[fT,if_pos hl]
 unfold stc;rw[e2];conv=>rhs;rw[e1]
 rw[List.countP_append,List.countP_append,List.countP_cons_of_neg (by simp[hc]),List.countP_cons_of_pos (by simp)];omega
theorem iY{w n c:Nat}{b:List Nat}(h:okF w b)(hc:isF c):okF w (b.set n c):=⟨by rw[ci];exact h.1,λd hd=>by
 rcases List.mem_or_eq_of_mem_set hd with h' |h'
 ·exact h.2 d h'
 ·rw[h'];exact hc⟩
theorem zG:isF 48:=.inl rfl
theorem zH:isF 49:=.inr (.inl rfl)
inductive Gr (name:List Nat) (rss:List (List Row)):List Nat->D->Prop
 |leaf (b:List Nat) (h:∀rs∈rss,cZ rs b=none):Gr name rss b (.tup (.str name::rss.map λrs=>aX (aV rs b)))
 |node (b:List Nat) (n:Nat) (z o:D) (h:b[n]?=some 42) (hz:Gr name rss (b.set n 48) z) (ho:Gr name rss (b.set n 49) o):Gr name rss b (.tup [.str jN,.int n,z,o])
def dJ(rss:List (List Row)):List D:=rss.map λrs=>.tup (rs.map az)
structure okG(w:Nat)(name:List Nat)(rss:List (List Row)):Prop where
 len:rss.length<=100
 nl:name.length<=100
 form:∀rs∈rss,∀r∈rs,r.1.length=w
 w1000:w<=1000
def Oe(n:Nat)(ds:List D)(_:DH):Prop:=∃(w:Nat)(name:List Nat)(rss:List (List Row))(b:List Nat),ds=[.str name,.lst (dJ rss),.str b]/\okG w name rss/\b.length=w/\stc b < n
def Og(ds:List D)(G:DH)(d:D)(G':DH):Prop:=G'=G/\∃(name:List Nat)(rss:List (List Row))(b:List Nat),ds=[.str name,.lst (dJ rss),.str b]/\Gr name rss b d
def eU(n:Nat):RF.Spec:=bO (Oe n) Og
theorem adk{a b:List (List Row)}(h:dJ a=dJ b):a=b:=by
 unfold dJ at h;induction a generalizing b with
 |nil=>cases b with
  |nil=>rfl
  |cons _ _=>simp at h
 |cons x a ih=>cases b with
  |nil=>simp at h
  |cons y b=>
   simp only[br,dA,D.tup.injEq]at h;rw[zF h.1,ih h.2]
theorem uI{n w:Nat}{name:List Nat}{rss:List (List Row)}{b:List Nat}{G:DH}{k:D->DH->Prop}{E:EK}(h:okG w name rss)(hb:b.length=w)(hs:stc b < n)(hk:∀d,Gr name rss b d->k d G):(eU n).t [.str name,.lst (dJ rss),.str b] G k E:=by refine cz ⟨w,name,rss,b,rfl,h,hb,hs⟩ λd G' hx=>?_;obtain ⟨e1,name2,rss2,b2,e2,e3⟩:=hx;simp only[dA,D.str.injEq,D.lst.injEq,fE]at e2;obtain ⟨rfl,e2,rfl⟩:=e2;cases adk e2;subst e1;exact hk d e3
theorem adl{f b:List Nat}{n:Nat}(h:cU f b=some n):b[n]?=some 42:=by unfold cU at h;have h2:=ga.mp h;obtain ⟨hl,hp,_⟩:=h2;rw[List.length_zip]at hl;rw[List.getElem_zip]at hp;simp only[ae,aI]at hp;rw[a7 (by omega),hp.1]
theorem adm{rs:List Row}{b:List Nat}{n:Nat}(h:cZ rs b=some n):b[n]?=some 42:=by
 unfold cZ at h;split at h
 ·split at h
  ·exact adl h
  ·cases h
 ·cases h
theorem m9{b:List Nat}{n c:Nat}{G:DH}{k:D->DH->Prop}{E:EK}(h:n < b.length)(hl:b.length<=1000)(hk:k (.str (b.set n c)) G):(aK gB).t [.str b,.int n,.str [c]] G k E:=
 du (by
  unfold gB;dsimp only;rw[if_pos (by simp only[ae,cb];omega),dP]) hk
theorem adn (Φ:aa) (n:Nat) (h0:Φ "grown"=eU n) (h1:Φ "first_touching"=m8) (h2:Φ "splitting_place"=uG) (h3:Φ "with_sign"=aK gB) (ds:List D) (G:DH) (h:Oe (n+1) ds G):au Φ jK noE (env0 ds 4) G (ends (Og ds G)):=by
 obtain ⟨w,name,rss,b,rfl,hg,hb,hs⟩:=h;have hw:=hg.w1000;simp_all_arith[jK];refine seq λM hM=>?_;simp_arith![ends];refine ForG.inv (P:=λi ρ G'=>(∃o3 o4 o5 o6,ρ=[some (.str name),some (.lst (dJ rss)),some (.str b),o3,o4,o5,o6])/\G'=G/\∀rs∈rss.take i,cZ rs b=none) ⟨⟨_,_,_,_,rfl⟩,rfl,by simp⟩ (λ_ _ _ _=>trivial) ?_ ?_
 ·rintro i d ρ G' hd ⟨⟨o3,o4,o5,o6,rfl⟩,rfl,hall⟩ kk hk;unfold dJ at hd;rw[ay]at hd;obtain ⟨rs,hrs,rfl⟩:=ax.mp hd;simp_arith![ends];refine seq λM hM=>?_;simp_arith[h2];refine adg (λr hr=>by rw[hg.form rs (bv hrs) r hr,hb]) (by omega) (hM _ _ (last ?_));cases hsp:cZ rs b with
  |none=>
   simp_arith[aX];refine hk _ _ ⟨⟨_,_,_,_,rfl⟩,rfl,λrs' hrs'=>?_⟩;rw[d6,hrs]at hrs';rcases bn.mp hrs' with h |h
   ·exact hall rs' h
   ·have:rs'=rs:=by simpa using h
    rw[this];exact hsp
  |some at'=>
   have hst:=adm hsp;have hat:=(ah.mp hst).1;simp_arith![aX];refine seq λM hM=>?_;simp_arith[h0,h3];refine m9 hat (by omega) (uI hg (by rw[ci];exact hb) (by have:=jO hst (show 48≠42 by decide);omega) λz hz=>hM _ _ (seq λM hM=>?_));simp_arith[h0,h3];refine m9 hat (by omega) (uI hg (by rw[ci];exact hb) (by have:=jO hst (show 49≠42 by decide);omega) λo ho=>hM _ _ (last ?_));simp_arith[ends];exact ⟨by decide,rfl,name,rss,b,rfl,.node b at' z o hst hz ho⟩
 ·rintro ρ G' ⟨⟨o3,o4,o5,o6,rfl⟩,rfl,hall⟩;have hlen:(dJ rss).length=rss.length:=ag _;rw[hlen,eM]at hall;have hrl:=hg.len;refine hM _ _ ?_;simp_arith[h1];refine ⟨by decide,CompG.inv (P:=λi acc ρ G''=>(∃o,ρ=[o,some (.str b)])/\G''=G'/\acc=(rss.take i).map λrs=>aX (aV rs b)) ⟨⟨_,rfl⟩,rfl,rfl⟩ (λ_ _ _ _ _=>trivial) (by rw[hlen];have hsz:sz=1000000:=rfl;omega) ?_ ?_⟩
  ·rintro i d acc ρ G'' hd ⟨⟨o,rfl⟩,rfl,rfl⟩ kk hk;unfold dJ at hd;rw[ay]at hd;obtain ⟨rs,hrs,rfl⟩:=ax.mp hd;simp_arith[h1];refine Ob (λr hr=>by rw[hg.form rs (bv hrs) r hr];omega) (hk _ _ _ ⟨⟨_,rfl⟩,rfl,?_⟩);rw[d6,hrs];simp
  ·rintro acc ρ G'' ⟨_,rfl,rfl⟩;rw[hlen,eM];simp_arith[ag];exact ⟨by have hsz:sz=1000000:=rfl;omega,rfl,name,rss,b,rfl,.leaf b hall⟩
theorem ado(ds:List D)(G:DH)(a:(eU 0).A):¬(eU 0).pre ds G a:=λ⟨_,_,_,_,_,_,_,_,h⟩=>by omega
theorem adp(w:Nat):stc (List.replicate w 42)<=w:=by have:=List.countP_le_length (p:=(·==42)) (l:=List.replicate w 42);rw[cy]at this;exact this
theorem Oh:∀{f b w:List Nat},bM f b=none->(∀s∈w,s=48\/s=49)->Fits b w->bA f w=true->False
 |[],b,w,h,_,_,_=>by cases b <;> cases h
 |a::f,[],w,h,_,_,_=>by cases h
 |a::f,c::b,[],h,_,hf,_=>by have:=hf.1;simp at this
 |a::f,c::b,s::w,h,hw,hf,hz=>by
  rw[bA,ae]at hz;have hs:=hf.2 0 c s rfl rfl;have hf':Fits b w:=⟨by have:=hf.1;simpa using this,λi c' s' h1 h2=>hf.2 (i+1) c' s' (by simpa using h1) (by simpa using h2)⟩;unfold bM at h;cases h1:cj a c with
  |some x=>
   rw[h1]at h;simp only[Option.map_eq_none_iff]at h;exact Oh h (λs hs=>hw s (ba _ hs)) hf' hz.2
  |none=>
   unfold cj at h1;split at h1
   ·cases h1
   ·split at h1
    ·cases h1
    ·rename_i ha hc;have h2:=(zy (hw s bg)).mp hz.1;unfold alt at hs h2;rw[if_neg ha]at h2;have es:s=a:=by simpa using h2
     split at hs
     ·rename_i e;exact hc (.inl e)
     ·have:s=c:=by simpa using hs
      exact hc (.inr (by omega))
theorem Oi:∀{f b w:List Nat},f.length=b.length->(bM f b).isSome=true->cU f b=none->(∀s∈w,s=48\/s=49)->Fits b w->bA f w=true
 |[],b,w,_,_,_,_,_=>rfl
 |a::f,[],w,h,_,_,_,_=>by simp at h
 |a::f,c::b,[],_,_,_,_,hf=>rfl
 |a::f,c::b,s::w,hl,hb,hs,hw,hf=>by
  have hs0:=hf.2 0 c s rfl rfl;have hf':Fits b w:=⟨by have:=hf.1;simpa using this,λi c' s' h1 h2=>hf.2 (i+1) c' s' (by simpa using h1) (by simpa using h2)⟩;unfold cU at hs;rw[List.zip_cons_cons,fS]at hs;split at hs
  ·cases hs
  ·rename_i hne;have hs':cU f b=none:=by unfold cU;simpa using hs
   unfold bM at hb;cases h1:cj a c with
   |none=>rw[h1]at hb;cases hb
   |some x=>
    rw[h1]at hb;have hb':(bM f b).isSome=true:=by simpa using hb
    rw[bA,ae];refine ⟨?_,Oi (by simpa using hl) hb' hs' (λs hs=>hw s (ba _ hs)) hf'⟩;rw[zy (hw s bg)];by_cases ha:a=42
    ·unfold alt;rw[if_pos ha];rcases hw s bg with e |e <;> simp[e]
    ·have hc:c≠42:=by
      rintro rfl;exact hne (by simp[ha])
     unfold alt at hs0 ⊢;rw[if_neg hc]at hs0;rw[if_neg ha];unfold cj at h1;rw[if_neg ha]at h1;split at h1
     ·rename_i h2;rcases h2 with h2 |h2
      ·exact absurd h2 hc
      ·rw[<-h2];exact hs0
     ·cases h1
theorem Oj{rs:List Row}{b l:List Nat}(hf:∀r∈rs,r.1.length=b.length)(hs:cZ rs b=none)(hl:∀s∈l,s=48\/s=49)(hb:Fits b l):aR rs l=aV rs b:=by
 have no:∀r∈rs,(bM r.1 b).isSome=false->aU r.1 l=false:=by
  intro r hr h;cases e:aU r.1 l with
  |false=>rfl
  |true=>
   unfold aU at e;rw[ae]at e;exact (Oh (by simpa using h) hl hb e.2).elim
 cases ht:aV rs b with
 |none=>
  unfold aV at ht;unfold aR;rw[List.findIdx?_eq_none_iff]at ht ⊢;exact λr hr=>no r hr (by simpa using ht r hr)
 |some n=>
  have hn:=uH ht;have ht':=ga.mp ht;obtain ⟨_,t1,t2⟩:=ht';unfold aR;rw[ga];refine ⟨hn,?_,λj hj=>?_⟩
  ·have hsf:cU rs[n].1 b=none:=by
    unfold cZ at hs;rw[ht]at hs;simpa [hn] using hs
   have hlen:=hf rs[n] (d4 _);unfold aU;rw[ae];exact ⟨b9 (by rw[hlen,hb.1]),Oi hlen t1 hsf hl hb⟩
  ·have:=no rs[j] (d4 _) (by simpa using t2 j hj);simp[this]
noncomputable def ni(name:List Nat)(rss:List (List Row))(b:List Nat):D:=.tup (.str name::rss.map λrs=>aX (aV rs b))
def jP(name:List Nat)(rss:List (List Row))(b:List Nat):D:=.tup [.str b,ni name rss b]
inductive Lv (name:List Nat) (rss:List (List Row)):List Nat->D->List (List Nat)->Prop
 |leaf (b:List Nat) (h:∀rs∈rss,cZ rs b=none):Lv name rss b (ni name rss b) [b]
 |node (b:List Nat) (n:Nat) (z o:D) (l m:List (List Nat)) (h:b[n]?=some 42) (hz:Lv name rss (b.set n 48) z l) (ho:Lv name rss (b.set n 49) o m):Lv name rss b (.tup [.str jN,.int n,z,o]) (l++m)
theorem Gr.lv{name:List Nat}{rss:List (List Row)}{b:List Nat}{d:D}(h:Gr name rss b d):∃bs,Lv name rss b d bs:=by
 induction h with
 |leaf b h=>exact ⟨_,.leaf b h⟩
 |node b n z o h _ _ hz ho=>
  obtain ⟨l,hl⟩:=hz;obtain ⟨m,hm⟩:=ho;exact ⟨_,.node b n z o l m h hl hm⟩
theorem Lv.len{name:List Nat}{rss:List (List Row)}{b:List Nat}{d:D}{bs:List (List Nat)}(h:Lv name rss b d bs):bs.length<=2 ^ stc b:=by
 induction h with
 |leaf b h=>exact Nat.one_le_two_pow
 |node b n z o l m h _ _ hz ho=>
  have e1:=jO h (show 48≠42 by decide);have e2:=jO h (show 49≠42 by decide);rw[<-e1,Nat.pow_succ,ar];have e3:stc (b.set n 49)=stc (b.set n 48):=by omega
  rw[e3]at ho;omega
theorem Lv.len'{name:List Nat}{rss:List (List Row)}{b:List Nat}{d:D}{bs:List (List Nat)}(h:Lv name rss b d bs)(hb:b.length<=12):bs.length<=4096:=by
 have h1:=h.len;have h2:stc b<=12:=b6 (List.countP_le_length) hb;have h3:=Nat.pow_le_pow_right (show 0 < 2 by decide) h2;have h4:2 ^ 12=4096:=by decide
 omega
theorem Lv.box{name:List Nat}{rss:List (List Row)}{b:List Nat}{d:D}{bs:List (List Nat)}(h:Lv name rss b d bs):∀c∈bs,c.length=b.length/\∀rs∈rss,cZ rs c=none:=by
 induction h with
 |leaf b h=>intro c hc;rw[bq.mp hc];exact ⟨rfl,h⟩
 |node b n z o l m h _ _ hz ho=>
  intro c hc;rcases bn.mp hc with hc |hc
  ·have:=hz c hc;rw[ci]at this;exact this
  ·have:=ho c hc;rw[ci]at this;exact this
theorem Lv.okf{w:Nat}{name:List Nat}{rss:List (List Row)}{b:List Nat}{d:D}{bs:List (List Nat)}(h:Lv name rss b d bs):okF w b->∀c∈bs,okF w c:=by
 induction h with
 |leaf b h=>intro hb c hc;rw[bq.mp hc];exact hb
 |node b n z o l m h _ _ hz ho=>
  intro hb c hc;rcases bn.mp hc with hc |hc
  ·exact hz (iY hb zG) c hc
  ·exact ho (iY hb zH) c hc
theorem zJ{w:Nat}{f l:List Nat}(h:okF w f)(hf:Fits f l):∀s∈l,s=48\/s=49:=by
 intro s hs;obtain ⟨i,hi,rfl⟩:=List.getElem_of_mem hs;have hif:i < f.length:=by rw[hf.1];exact hi
 have:=hf.2 i f[i] l[i] (by simp[hif]) (by simp[hi]);rcases h.2 f[i] (d4 _) with e |e |e <;> rw[e]at this <;> simp[alt]at this <;> omega
def isPlace(m:Int):D->Bool
 |.int i=>decide (0<=i)&&decide (i < m)
 |_=>false
def gC:List D->Option D
 |[.int m,x]=>if nr x then some (.bl (isPlace m x)) else none
 |_=>none
theorem adq (Φ:aa) (h1:Φ "is_whole"=aK iT) (ds:List D) (G:DH) (d:D) (h:gC ds=some d):au Φ lO noE (env0 ds 0) G (ends λd' G'=>G'=G/\d'=d):=by
 unfold gC at h;split at h
 ·rename_i m x;split at h
  ·rename_i hx;cases h;have hf:iT [x]=some (.bl (whole x)):=if_pos hx;simp_arith[lO,h1];refine du hf ?_;cases x <;> first | (simp[nr]at hx;done) | (simp_arith[whole,isPlace];first | (simp;done) |skip)
   rename_i i;cases hi:decide (0<=i) with
   |true=>simp
   |false=>simp
  ·cases h
 ·cases h
theorem Ol{m i:Nat}{G:DH}{k:D->DH->Prop}{E:EK}(h:i < m)(hk:k (.bl true) G):(aK gC).t [.int m,.int i] G k E:=
 du (by unfold gC;simp only[nr,if_true,isPlace];rw[b9 (by omega),b9 (by omega)];rfl) hk
noncomputable def gD:List D->Option D
 |[.str name,.int many,.tup (.str s::r)]=>some (.bl ((((r.length+1:Nat):Int)==many+1)&&(s==name)))
 |_=>none
theorem adt(Φ:aa)(ds:List D)(G:DH)(d:D)(h:gD ds=some d):au Φ lM noE (env0 ds 0) G (ends λd' G'=>G'=G/\d'=d):=by
 unfold gD at h;split at h
 ·rename_i name many s r;cases h;simp_arith[lM];cases he:(((r.length+1:Nat):Int)==many+1) with
  |false=>simp_arith[Bool.false_and]
  |true=>simp_arith[e8]
 ·cases h
theorem adu{name s:List Nat}{m:Int}{r:List D}{G:DH}{k:D->DH->Prop}{E:EK}(h:s≠name)(hk:k (.bl false) G):(aK gD).t [.str name,.int m,.tup (.str s::r)] G k E:=
 du (by unfold gD;dsimp only;rw[ef.mpr h,Bool.and_false]) hk
theorem adv{name:List Nat}{m:Int}{r:List D}{G:DH}{k:D->DH->Prop}{E:EK}(h:(r.length:Int)=m)(hk:k (.bl true) G):(aK gD).t [.str name,.int m,.tup (.str name::r)] G k E:=
 du (by unfold gD;dsimp only;rw[BEq.rfl,fI,aI.mpr (by omega)]) hk
def oI:Option Int->D
 |some i=>.int i
 |none=>.non
inductive T where
 |lf (r:List (Option Int))
 |sp (i:Int) (z o:T)
noncomputable def T.d(name:List Nat):T->D
 |.lf r=>.tup (.str name::r.map oI)
 |.sp i z o=>.tup [.str jN,.int i,z.d name,o.d name]
def T.dep:T->Nat
 |.lf _=>0
 |.sp _ z o=>max z.dep o.dep+1
def iZ(b:List Nat)(i:Int):Bool:=decide (0<=i)&&b[i.toNat]?==some 42
noncomputable def T.lvs:T->List Nat->Option (List (List Nat×List (Option Int)))
 |.lf r,b=>some [(b,r)]
 |.sp i z o,b=>match iZ b i with
  |true=>(match z.lvs (b.set i.toNat 48),o.lvs (b.set i.toNat 49) with |some l,some m=>some (l++m) |_,_=>none)
  |false=>none
def nq(name:List Nat)(x:List Nat×List (Option Int)):D:=.tup [.str x.1,.tup (.str name::x.2.map oI)]
noncomputable def eV(name:List Nat):Option (List (List Nat×List (Option Int)))->D
 |none=>.non
 |some l=>.lst (l.map (nq name))
theorem T.lvs_len:∀(t:T){b:List Nat}{l:List (List Nat×List (Option Int))},t.lvs b=some l->l.length<=2 ^ t.dep
 |.lf r,b,l,h=>by cases h;exact Nat.one_le_two_pow
 |.sp i z o,b,l,h=>by
  rw[T.lvs]at h;split at h
  ·split at h
   ·rename_i l1 l2 h1 h2;cases h;have e1:=z.lvs_len h1;have e2:=o.lvs_len h2;have e3:=Nat.pow_le_pow_right (show 0 < 2 by decide) (Nat.le_max_left z.dep o.dep);have e4:=Nat.pow_le_pow_right (show 0 < 2 by decide) (Nat.le_max_right z.dep o.dep);rw[ar,T.dep,Nat.pow_succ];omega
   ·cases h
  ·cases h
theorem T.lvs_len'{n:Nat}{t:T}{b:List Nat}{l:List (List Nat×List (Option Int))}(h:t.lvs b=some l)(hn:t.dep < n)(hn':n<=12):l.length<=4096:=by
 have h1:=t.lvs_len h;have h3:=Nat.pow_le_pow_right (show 0 < 2 by decide) (show t.dep<=12 by omega);have h4:2 ^ 12=4096:=by decide
 omega
structure TA where
 name:List Nat
 b:List Nat
 t:T
def Om(n:Nat)(a:TA):Prop:=a.name≠jN/\a.b.length<=12/\a.t.dep < n/\n<=12
def dM(n:Nat):RF.Spec:=bK (λa:TA=>[.str a.b,a.t.d a.name]) (Om n) (λa=>eV a.name (a.t.lvs a.b))
theorem zK{n:Nat}{name b:List Nat}{t:T}{G:DH}{k:D->DH->Prop}{E:EK}(h1:name≠jN)(h2:b.length<=12)(h3:t.dep < n)(h4:n<=12)(hk:k (eV name (t.lvs b)) G):(dM n).t [.str b,t.d name] G k E:=bQ ⟨name,b,t⟩ rfl ⟨h1,h2,h3,h4⟩ hk
theorem adw(ds:List D)(G:DH)(a:(dM 0).A):¬(dM 0).pre ds G a:=λ⟨_,_,_,_,h,_⟩=>by omega
theorem adx{b:List Nat}{i:Int}(h:iZ b i=true):0<=i/\∃n:Nat,i=n/\n < b.length/\b[n]?=some 42:=by
 unfold iZ at h;rw[ae]at h;have h1:=dL h.1;have h2:b[i.toNat]?=some 42:=by simpa using h.2
 exact ⟨h1,i.toNat,by omega,(ah.mp h2).1,h2⟩
theorem ady (Φ:aa) (n:Nat) (h0:Φ "leaves"=dM n) (h1:Φ "is_named"=aK gD) (h2:Φ "is_place"=aK gC) (h3:Φ "with_sign"=aK gB) (a:TA) (G:DH) (h:Om (n+1) a):au Φ iR noE (env0 [.str a.b,a.t.d a.name] 3) G (ends λd G'=>G'=G/\d=eV a.name (a.t.lvs a.b)):=by
 obtain ⟨name,b,t⟩:=a;obtain ⟨hne,hbl,hd,hn⟩:=h;dsimp only at hne hbl hd ⊢;cases t with
 |lf r=>
  simp_all_arith[iR];refine seq λM hM=>?_;simp_arith[h1,T.d];refine adu hne ?_;simp_arith[T.lvs,eV,br,de,nq];exact ⟨by decide,by decide⟩
 |sp i z o=>
  rw[T.dep]at hd;simp_all_arith[iR];refine seq λM hM=>?_;simp_arith[h1,T.d];refine adv rfl ?_;simp_arith[ends];refine hM _ _ (seq λM hM=>?_);simp_arith[ends];refine hM _ _ (seq λM hM=>?_);simp_arith[h2];refine du (d:=.bl (isPlace b.length (.int i))) rfl ?_;cases hst:iZ b i with
  |false=>
   rw[T.lvs,hst];cases hp:isPlace b.length (.int i) with
   |false=>simp_arith[eV]
   |true=>
    unfold isPlace at hp;rw[ae]at hp;have p1:=dL hp.1;have p2:=dL hp.2;obtain ⟨m,rfl⟩:∃m:Nat,i=m:=⟨i.toNat,by omega⟩;have hm:m < b.length:=by omega
    have hc:b[m]?=some b[m]:=a7 hm;have hne42:((b[m]==42):Bool)=false:=by unfold iZ at hst;rw[b9 (by omega),e8,dP,hc]at hst;simpa using hst
    simp_arith[ends];refine bu (a:=b[m]) (bU hc) ?_;simp_arith[gA,hne42,eV]
  |true=>
   obtain ⟨_,m,rfl,hm,hc⟩:=adx hst;have hp:isPlace b.length (.int (m:Int))=true:=by show (decide (0<=(m:Int))&&decide ((m:Int) < b.length))=true;rw[b9 (by omega),b9 (by omega)];rfl
   have hl:(T.sp (m:Int) z o).lvs b=match z.lvs (b.set m 48),o.lvs (b.set m 49) with |some l,some m=>some (l++m) |_,_=>none:=by rw[T.lvs,hst,dP]
   rw[hp];simp_arith[ends];refine bu (a:=42) (bU hc) ?_;simp_arith[BEq.rfl];refine hM _ _ (seq λM hM=>?_);simp_arith[h0,h3];refine m9 hm (by omega) (zK hne (by rw[ci];exact hbl) (by omega) (by omega) (hM _ _ (seq λM hM=>?_)));simp_arith[h0,h3];refine m9 hm (by omega) (zK hne (by rw[ci];exact hbl) (by omega) (by omega) (hM _ _ (seq λM hM=>?_)));cases e1:z.lvs (b.set m 48) with
   |none=>
    rw[e1]at hl;simp_arith[hl,eV]
   |some l1=>
    cases e2:o.lvs (b.set m 49) with
    |none=>
     rw[e1,e2]at hl;simp_arith[hl,eV]
    |some l2=>
     rw[e1,e2]at hl;have q1:=T.lvs_len' e1 (n:=n) (by omega) (by omega);have q2:=T.lvs_len' e2 (n:=n) (by omega) (by omega);simp_arith[eV];refine hM _ _ (last ?_);simp_arith[ag,ca,hl,eV];have hsz:sz=1000000:=rfl;omega
theorem adz(o:Option Nat):aX o=oI (o.map λn=>(n:Int)):=by cases o <;> rfl
def jQ(rss:List (List Row))(c:List Nat):List (Option Int):=rss.map λrs=>(aV rs c).map λn=>(n:Int)
theorem Oo{rss:List (List Row)}{c:List Nat}:(jQ rss c).map oI=rss.map λrs=>aX (aV rs c):=by unfold jQ;rw[List.map_map];exact List.map_congr_left λrs _=>(adz _).symm
theorem Lv.tree{name:List Nat}{rss:List (List Row)}{b:List Nat}{d:D}{bs:List (List Nat)}(h:Lv name rss b d bs):∃t:T,d=t.d name/\t.dep<=stc b/\t.lvs b=some (bs.map λc=>(c,jQ rss c)):=by
 induction h with
 |leaf b h=>exact ⟨.lf (jQ rss b),by rw[T.d,Oo];rfl,d3 _,rfl⟩
 |node b n z o l m h _ _ hz ho=>
  obtain ⟨tz,rfl,d1,e1⟩:=hz;obtain ⟨tO,rfl,d2,e2⟩:=ho;have s1:=jO h (show 48≠42 by decide);have s2:=jO h (show 49≠42 by decide);refine ⟨.sp n tz tO,rfl,?_,?_⟩
  ·rw[T.dep];have:=Nat.max_le.mpr ⟨show tz.dep<=stc (b.set n 48) from d1,show tO.dep<=stc (b.set n 48) by omega⟩;omega
  ·have hs:iZ b (n:Int)=true:=by unfold iZ;rw[b9 (by omega),dP,h];rfl
   rw[T.lvs,hs,dP,e1,e2];simp
theorem adA{name:List Nat}{rss:List (List Row)}{c:List Nat}:nq name (c,jQ rss c)=jP name rss c:=by unfold nq jP ni;rw[Oo]
theorem Oq{n:Nat}{name:List Nat}{rss:List (List Row)}{b:List Nat}{d:D}{bs:List (List Nat)}{G:DH}{k:D->DH->Prop}{E:EK}(h:Lv name rss b d bs)(h1:name≠jN)(h2:b.length<=12)(h3:stc b < n)(hk:k (.lst (bs.map (jP name rss))) G)(h4:n<=12:=by decide):(dM n).t [.str b,d] G k E:=by
 obtain ⟨t,rfl,e1,e2⟩:=h.tree;refine zK h1 h2 (by omega) h4 ?_;rw[e2,eV,List.map_map];have:(nq name∘λc=>(c,jQ rss c))=jP name rss:=by funext c;exact adA
 rw[this];exact hk
theorem Ot:∀f:List Nat,bA f f=true
 |[]=>rfl
 |c::f=>by rw[bA,Ot f,fI];unfold bD;simp
theorem adB{c s:Nat}:bD c s=true↔c=42\/c=s:=by unfold bD;simp
noncomputable def jR:List D->Option D
 |[.str f,.str g]=>if decide (g.length<=100000) then some (.bl (aU g f)) else none
 |_=>none
theorem adC (Φ:aa) (h1:Φ "fits"=aK m6) (ds:List D) (G:DH) (d:D) (h:jR ds=some d):au Φ mG noE (env0 ds 0) G (ends λd' G'=>G'=G/\d'=d):=by
 unfold jR at h;split at h
 ·rename_i f g;split at h
  ·rename_i hl;cases h;simp_arith[mG,h1];exact du (d:=.bl (aU g f)) (if_pos hl) ⟨rfl,rfl⟩
  ·cases h
 ·cases h
theorem Ou{f g:List Nat}{G:DH}{k:D->DH->Prop}{E:EK}(h:g.length<=1000)(hk:k (.bl (aU g f)) G):(aK jR).t [.str f,.str g] G k E:=du (if_pos (b9 (by omega))) hk
def gF:List Nat->List (List Nat)
 |[]=>[[]]
 |c::f=>(alt c).flatMap λs=>(gF f).map (s::·)
theorem Ov:∀(f:List Nat)(acc:List (List Nat)),f.foldl step1 acc=acc.flatMap λt=>(gF f).map (t ++ ·)
 |[],acc=>by simp[gF]
 |c::f,acc=>by
  rw[List.foldl_cons,Ov f,step1,List.flatMap_assoc];congr 1;funext t;rw[gF,List.flatMap_map,List.map_flatMap];congr 1;funext s;rw[List.map_map];congr 1;funext x;simp
theorem Ow(f:List Nat):gr f=gF f:=by unfold gr;rw[Ov];simp
def atN(rs:List Row):Option Nat->Nat
 |some n=>n
 |none=>rs.length
theorem adD{w:Nat}{G:DH}{k:D->DH->Prop}{E:EK}(h:w<=1000)(hk:k (.str (List.replicate w 42)) G):(aK iW).t [.int w] G k E:=
 du (d:=.str (List.replicate w 42)) (by unfold iW;dsimp only;rw[if_pos (by simp only[ae,cb];omega),dP]) hk
def bH(l:List Nat):List Nat:=l.map λa=>if a=42 then 48 else a
noncomputable def jb:List D->Option D
 |[.str l]=>if decide (l.length<=1000) then some (.str (bH l)) else none
 |_=>none
theorem Oz{l:List Nat}{G:DH}{k:D->DH->Prop}{E:EK}(h:l.length<=1000)(hk:k (.str (bH l)) G):(aK jb).t [.str l] G k E:=du (if_pos (b9 h)) hk
theorem adE{b l:List Nat}{n:Nat}(h:Fits b l)(hn:b[n]?=some 42):Fits (b.set n 48) l\/Fits (b.set n 49) l:=by
 obtain ⟨hl,he⟩:=ah.mp hn;have hnl:n < l.length:=by rw[<-h.1];exact hl
 have hs:=h.2 n 42 l[n] hn (a7 hnl);have put:∀c,l[n]=c->c≠42->Fits (b.set n c) l:=by
  intro c hc hc42;refine ⟨by rw[ci];exact h.1,λi x y hx hy=>?_⟩;rw[fo]at hx;by_cases hi:n=i
  ·subst hi;rw[if_pos rfl,if_pos hl]at hx;rw[a7 hnl]at hy;cases hx;cases hy;unfold alt;rw[if_neg hc42,hc];simp
  ·rw[if_neg hi]at hx;exact h.2 i x y hx hy
 unfold alt at hs;rw[if_pos rfl]at hs;have:l[n]=48\/l[n]=49:=by simpa using hs
 rcases this with e |e
 ·exact .inl (put 48 e (by decide))
 ·exact .inr (put 49 e (by decide))
theorem OD{b l:List Nat}{n c:Nat}(h:Fits (b.set n c) l)(hn:b[n]?=some 42)(hc:c=48\/c=49):Fits b l:=by
 have hl:=(ah.mp hn).1;refine ⟨by have:=h.1;rwa [ci]at this,λi x y hx hy=>?_⟩;by_cases hi:n=i
 ·subst hi;rw[hn]at hx;cases hx;have:=h.2 n c y (by rw[fo,if_pos rfl,if_pos hl]) hy;unfold alt at this ⊢;rw[if_neg (by omega)]at this;rw[if_pos rfl];have e:y=c:=by simpa using this
  rw[e];simpa using hc
 ·exact h.2 i x y (by rw[fo,if_neg hi];exact hx) hy
theorem Lv.cover{name:List Nat}{rss:List (List Row)}{b:List Nat}{d:D}{bs:List (List Nat)}(h:Lv name rss b d bs):∀l,Fits b l->∃c∈bs,Fits c l:=by
 induction h with
 |leaf b h=>exact λl hl=>⟨b,by simp,hl⟩
 |node b n z o l m h _ _ hz ho=>
  intro w hw;rcases adE hw h with e |e
  ·obtain ⟨c,hc,hf⟩:=hz w e;exact ⟨c,bn.mpr (.inl hc),hf⟩
  ·obtain ⟨c,hc,hf⟩:=ho w e;exact ⟨c,bn.mpr (.inr hc),hf⟩
theorem Lv.within{name:List Nat}{rss:List (List Row)}{b:List Nat}{d:D}{bs:List (List Nat)}(h:Lv name rss b d bs):∀c∈bs,∀l,Fits c l->Fits b l:=by
 induction h with
 |leaf b h=>intro c hc l hl;rw[bq.mp hc]at hl;exact hl
 |node b n z o l m h _ _ hz ho=>
  intro c hc w hw;rcases bn.mp hc with hc |hc
  ·exact OD (hz c hc w hw) h (.inl rfl)
  ·exact OD (ho c hc w hw) h (.inr rfl)
theorem adF{a s:Nat}{f l:List Nat}(h:Fits (a::f) (s::l)):s∈alt a/\Fits f l:=
 ⟨h.2 0 a s rfl rfl,by have:=h.1;simpa using this,λi c t h1 h2=>h.2 (i+1) c t (by simpa using h1) (by simpa using h2)⟩
theorem adG{a s:Nat}{f l:List Nat}(h1:s∈alt a)(h2:Fits f l):Fits (a::f) (s::l):=⟨by simp[h2.1],λi c t hc ht=>by
 cases i with
 |zero=>simp at hc ht;rw[<-hc,<-ht];exact h1
 |succ i=>exact h2.2 i c t (by simpa using hc) (by simpa using ht)⟩
theorem nu:∀c:List Nat,Fits c (bH c)
 |[]=>⟨rfl,λi c s h=>by simp at h⟩
 |a::c=>by
  show Fits (a::c) ((if a=42 then 48 else a)::bH c);refine adG ?_ (nu c);unfold alt;split <;> simp
theorem zL:∀{c l:List Nat},Fits c l->¬l < bH c
 |[],l,h=>by
  have:l=[]:=dv.mp h.1.symm;subst this;exact List.lt_irrefl _
 |a::c,[],h=>by have:=h.1;simp at this
 |a::c,s::l,h=>by
  obtain ⟨h1,h2⟩:=adF h;show ¬(s::l) < ((if a=42 then 48 else a)::bH c);rw[gi];have ih:=zL h2;unfold alt at h1;split at h1
  ·rename_i e;rw[if_pos e];have:s=48\/s=49:=by simpa using h1
   rintro (q |q)
   ·omega
   ·exact ih q.2
  ·rename_i e;rw[if_neg e];have:s=a:=by simpa using h1
   rintro (q |q)
   ·omega
   ·exact ih q.2
theorem zM:∀{x m a:List Nat},x < m->¬a < m->x < a
 |x,[],a,h,_=>absurd h (by simp)
 |x,b::m,[],_,h=>absurd (by simp) h
 |[],b::m,y::a,_,_=>by simp
 |c::x,b::m,y::a,h,g=>by
  rw[gi]at h g ⊢;have g1:¬y < b:=λe=>g (.inl e);rcases h with h |⟨h1,h2⟩
  ·exact .inl (by omega)
  ·by_cases e:y=b
   ·exact .inr ⟨by omega,zM h2 λz=>g (.inr ⟨e,z⟩)⟩
   ·exact .inl (by omega)
theorem zN:∀f:List Nat,(gF f).Pairwise (· < ·)
 |[]=>by simp[gF]
 |c::f=>by
  have ih:=zN f;have one:∀s:Nat,((gF f).map (s::·)).Pairwise (· < ·):=λs=>List.pairwise_map.mpr (ih.imp λh=>gi.mpr (.inr ⟨rfl,h⟩));rw[gF];unfold alt;split
  ·rw[List.flatMap_cons,List.flatMap_cons,List.flatMap_nil,fN,List.pairwise_append];refine ⟨one 48,one 49,λa ha b hb=>?_⟩;obtain ⟨x,_,rfl⟩:=ce.mp ha;obtain ⟨y,_,rfl⟩:=ce.mp hb;exact gi.mpr (.inl (by decide))
  ·rw[List.flatMap_cons,List.flatMap_nil,fN];exact one c
theorem OJ{u:List (List Nat)}{m:List Nat}(h:u.Pairwise (· < ·))(hm:m∈u)(hl:∀x∈u,¬x < m):u.head?=some m:=by
 cases u with
 |nil=>cases hm
 |cons a u=>
  rcases bS.mp hm with e |hm
  ·rw[e];rfl
  ·exact absurd ((List.pairwise_cons.mp h).1 m hm) (hl a bg)
theorem O1{ds:List D}{ls:List (List Nat)}{k:D->Prop}(h0:cu ds=none)(h:bF ds=some ls)(hk:∀m,m∈ls->(∀a,a∈ls->¬a < m)->k (.str m)):opB .min [.lst ds] k:=by show j9 [.lst ds] k;unfold j9;dsimp only;rw[h0,h];exact hk
def O2:List Nat:=[117,110,100,101,114]
def O3:List Nat:=[119,111,114,100]
def dz:List Nat:=[104,105,100,100,101,110]
def cA(rs:List Row)(n:Nat)(f:List Nat):List (List Nat):=(gr f).filter λl=>(aR (rs.take n) l).isNone
def jT:RF.Spec:=bK (λa:Nat×List Row×Nat=>[ao a.1 a.2.1,.int a.2.2]) (λa=>okB a.1 a.2.1/\a.2.2 < a.2.1.length) (λ_=>.non)
theorem uJ{w n:Nat}{rs:List Row}{G:DH}{k:D->DH->Prop}{E:EK}(h:okB w rs)(hn:n < rs.length)(hk:k .non G):jT.t [ao w rs,.int n] G k E:=bQ (w,rs,n) rfl ⟨h,hn⟩ hk
theorem adH (Φ:aa) (h1:Φ "need_book"=gw) (h2:Φ "is_place"=aK gC) (a:Nat×List Row×Nat) (G:DH) (h:okB a.1 a.2.1/\a.2.2 < a.2.1.length):au Φ mz noE (env0 [ao a.1 a.2.1,.int a.2.2] 0) G (ends λd G'=>G'=G/\d=.non):=by obtain ⟨w,rs,n⟩:=a;obtain ⟨hb,hn⟩:=h;dsimp only at hb hn ⊢;simp_all_arith[mz];refine seq λM hM=>?_;simp_arith[h1];refine iU hb (hM _ _ (last ?_));simp_arith[ao,h2,ag];refine Ol hn ?_;simp_arith[and_self]
def zO(rs:List Row)(n:Nat)(f:List Nat)(d:D):Prop:=
 (∃m,(cA rs n f).head?=some m/\d=.tup [.str O3,.str m])\/(cA rs n f=[]/\∃t bs,d=.tup [.str dz,t]/\Lv O2 [rs.take n] f t bs/\∀c∈bs,(aV (rs.take n) c).isSome=true)
def uK:RF.Spec:=ghS (A:=Nat×List Row×Nat) (λa ds _=>ds=[ao a.1 a.2.1,.int a.2.2]/\okB a.1 a.2.1/\a.2.2 < a.2.1.length) (λa G d G'=>G'=G/\∃r,a.2.1[a.2.2]?=some r/\zO a.2.1 a.2.2 r.1 d)
theorem adI{w n:Nat}{rs:List Row}{r:Row}{G:DH}{k:D->DH->Prop}{E:EK}(h:okB w rs)(hn:rs[n]?=some r)(hk:∀d,zO rs n r.1 d->k d G):uK.t [ao w rs,.int n] G k E:=
 fJ (w,rs,n) ⟨rfl,h,(ah.mp hn).1⟩ λd G' hx=>by
  obtain ⟨e,r',er,q⟩:=hx;subst e;have er:rs[n]?=some r':=er;rw[hn]at er;cases er;exact hk d q
theorem adJ{l:List D}{n:Nat}:cut l none (some (n:Int))=l.take n:=jG l n
theorem adK (Φ:aa) (h1:Φ "need_row"=jT) (h2:Φ "grown"=eU 9) (h3:Φ "leaves"=dM 9) (h4:Φ "least"=aK jb) (a:Nat×List Row×Nat) (ds:List D) (G:DH) (h:ds=[ao a.1 a.2.1,.int a.2.2]/\okB a.1 a.2.1/\a.2.2 < a.2.1.length):
  au Φ mC noE (env0 ds 4) G (ends λd G'=>G'=G/\∃r,a.2.1[a.2.2]?=some r/\zO a.2.1 a.2.2 r.1 d):=by
 obtain ⟨w,rs,n⟩:=a;obtain ⟨rfl,hb,hn⟩:=h;dsimp only at hb hn ⊢;have hw6:=hb.w6;have hc:rs[n]?=some rs[n]:=a7 hn;have hf:=hb.form rs[n] (d4 hn);have hfl:=hf.1;have hrt:∀r∈rs.take n,okF w r.1:=λr hr=>hb.form r (ft hr);simp_all_arith[mC];refine seq λM hM=>?_;simp_arith[h1];refine uJ hb hn (hM _ _ (seq λM hM=>?_));simp_arith[ao];refine hM _ _ (seq λM hM=>?_);simp_arith[ends];refine bu (a:=az rs[n]) (bU (by rw[ay,hc];rfl)) ?_;simp_arith[az];refine hM _ _ (seq λM hM=>?_);simp_arith[h2,adJ];have er:[D.tup (List.take n (rs.map az))]=dJ [rs.take n]:=by rw[<-List.map_take];rfl
 have hst:stc rs[n].1<=6:=b6 List.countP_le_length (by omega);rw[er];refine ⟨by decide,uI (name:=O2) ⟨by simp,by decide,λrs' hrs' r hr=>by rw[bq.mp hrs']at hr;exact (hrt r hr).1,by omega⟩ hfl (by omega) λt ht=>hM _ _ (seq λM hM=>?_)⟩;obtain ⟨bs,hL⟩:=ht.lv;have hlen:=hL.len' (by omega);simp_arith[h3];refine Oq hL (by decide) (by omega) (by omega) ?_;simp_arith[ends];refine CompG.inv (P:=λi acc ρ G'=>(∃o1 o2,ρ=[o1,o2])/\G'=G/\acc=((bs.take i).filter λc=>(aV (rs.take n) c).isNone).map λc=>D.str (bH c)) ⟨⟨_,_,rfl⟩,rfl,rfl⟩ (λ_ _ _ _ _=>trivial) (by rw[ag];have hsz:sz=1000000:=rfl;omega) ?_ ?_
 ·rintro i d acc ρ G' hd ⟨⟨o1,o2,rfl⟩,rfl,rfl⟩ kk hk;rw[ay]at hd;obtain ⟨c,hcb,rfl⟩:=ax.mp hd;have hcl:=(hL.box c (bv hcb)).1;have htk:bs.take (i+1)=bs.take i++[c]:=by rw[d6,hcb];rfl
  simp_arith[jP,ni,br,de];cases htc:aV (rs.take n) c with
  |some j=>
   simp_arith[aX];exact hk _ _ _ ⟨⟨_,_,rfl⟩,rfl,by rw[htk,en];simp[htc]⟩
  |none=>
   simp_arith[aX,h4];refine Oz (by omega) (hk _ _ _ ⟨⟨_,_,rfl⟩,rfl,by rw[htk,en];simp[htc]⟩)
 ·rintro acc ρ G' ⟨_,rfl,rfl⟩;rw[ag,eM];refine hM _ _ (seq λM hM=>?_);have meet:∀c∈bs,∀l,Fits c l->aR (rs.take n) l=aV (rs.take n) c:=by
   intro c hc l hl;obtain ⟨e1,e2⟩:=hL.box c hc;have okc:=hL.okf hf c hc;exact Oj (λr hr=>by rw[(hrt r hr).1,e1,hfl]) (e2 _ (by simp)) (zJ okc hl) hl
  cases hfr:bs.filter λc=>(aV (rs.take n) c).isNone with
  |nil=>
   have hall:∀c∈bs,(aV (rs.take n) c).isSome=true:=by
    intro c hc;have:=df.mp hfr c hc;cases h:aV (rs.take n) c with
    |none=>rw[h]at this;exact absurd rfl this
    |some _=>rfl
   simp_arith[de];refine hM _ _ (last ?_);simp_arith[ends];refine ⟨by decide,rs[n],hc,.inr ⟨?_,t,bs,rfl,hL,hall⟩⟩;unfold cA;rw[df];intro l hl;obtain ⟨c,hc',hfc⟩:=hL.cover l (eQ.mp hl);rw[meet c hc' l hfc];have:=hall c hc';cases h:aV (rs.take n) c with
   |none=>rw[h]at this;cases this
   |some _=>simp
  |cons c0 cs=>
   have hne:(!(List.isEmpty (D.str (bH c0)::cs.map λc=>D.str (bH c))))=true:=rfl;simp_arith[br,hne];rw[<-br (f:=λc=>D.str (bH c)),<-hfr];have es:bF ((bs.filter λc=>(aV (rs.take n) c).isNone).map λc=>D.str (bH c))=some ((bs.filter λc=>(aV (rs.take n) c).isNone).map bH):=strs_map _ _;have ei:cu ((bs.filter λc=>(aV (rs.take n) c).isNone).map λc=>D.str (bH c))=none:=by rw[hfr];rfl
   refine O1 ei es λm hm hlow=>?_;obtain ⟨c,hcm,rfl⟩:=ce.mp hm;obtain ⟨hcb,hcn⟩:=dk.mp hcm;have htn:aV (rs.take n) c=none:=by simpa using hcn
   refine ⟨by decide,rs[n],hc,.inl ⟨bH c,?_,rfl⟩⟩;refine OJ ?_ ?_ ?_
   ·unfold cA;rw[Ow];exact (zN _).filter _
   ·unfold cA;rw[dk];refine ⟨eQ.mpr (hL.within c hcb _ (nu c)),?_⟩;rw[meet c hcb _ (nu c),htn];rfl
   ·intro x hx hlt;unfold cA at hx;obtain ⟨hx1,hx2⟩:=dk.mp hx;obtain ⟨c',hc',hfc⟩:=hL.cover x (eQ.mp hx1);rw[meet c' hc' x hfc]at hx2;have hlow':=hlow (bH c') (ce.mpr ⟨c',dk.mpr ⟨hc',hx2⟩,rfl⟩);exact zL hfc (zM hlt hlow')
theorem zP(rs:List Row):nrs (rs.map az)=true:=by
 induction rs with
 |nil=>rfl
 |cons r rs ih=>rw[br,nrs,ih];rfl
def okRs(w:Nat)(rs:List Row):Prop:=∀r∈rs,okF w r.1/\okD r.2
theorem okRs.ins{w n:Nat}{rs:List Row}{r:Row}(h:okRs w rs)(h1:okF w r.1)(h2:okD r.2):okRs w (rs.take n++r::rs.drop n):=by
 intro x hx;rcases bn.mp hx with hx |hx
 ·exact h x (ft hx)
 ·rcases bS.mp hx with e |hx
  ·rw[e];exact ⟨h1,h2⟩
  ·exact h x (List.mem_of_mem_drop hx)
theorem O4{rs:List Row}{n:Nat}{r:Row}:(rs.take n++r::rs.drop n).length=rs.length+1:=by rw[ar,cf,aT,bp];omega
def nI(n:Nat):D:=.int (n:Int)
noncomputable def jU(rs:List Row):List Nat:=(List.range rs.length).filter λn=>match rs[n]? with |some r=>(cA rs n r.1).isEmpty |none=>false
theorem adL{rs:List Row}{i:Nat}{r:Row}(h:rs[i]?=some r):((List.range (i+1)).filter λn=>match rs[n]? with |some r=>(cA rs n r.1).isEmpty |none=>false)=((List.range i).filter λn=>match rs[n]? with |some r=>(cA rs n r.1).isEmpty |none=>false)++(if (cA rs i r.1).isEmpty then [i] else []):=by rw[List.range_succ,en];congr 1;rw[List.filter_cons,h];cases hf:(cA rs i r.1).isEmpty <;> simp only[hf] <;> rfl
def uL:RF.Spec:=ghS (A:=Nat×List Row) (λa ds _=>ds=[ao a.1 a.2]/\okB a.1 a.2) (λa G d G'=>∃q,d=.ref q/\G q=none/\G' q=some (.lst ((jU a.2).map nI))/\Sa G G')
theorem adM{w:Nat}{rs:List Row}{G:DH}{k:D->DH->Prop}{E:EK}(h:okB w rs)(hk:∀q G',G q=none->G' q=some (.lst ((jU rs).map nI))->Sa G G'->k (.ref q) G'):uL.t [ao w rs] G k E:=
 fJ (w,rs) ⟨rfl,h⟩ λd G' ⟨q,e1,e2,e3,e4⟩=>by subst e1;exact hk q G' e2 e3 e4
theorem adN (Φ:aa) (h1:Φ "need_book"=gw) (h2:Φ "reach"=uK) (a:Nat×List Row) (ds:List D) (G:DH) (h:ds=[ao a.1 a.2]/\okB a.1 a.2):
  au Φ mD noE (env0 ds 0) G (ends λd G'=>∃q,d=.ref q/\G q=none/\G' q=some (.lst ((jU a.2).map nI))/\Sa G G'):=by
 obtain ⟨w,rs⟩:=a;obtain ⟨rfl,hb⟩:=h;dsimp only at hb ⊢;have hlen:=hb.len;simp_all_arith[mD];refine seq λM hM=>?_;simp_arith[h1];refine iU hb (hM _ _ (last ?_));have e0:ao w rs=.tup [.int w,.tup (rs.map az)]:=rfl;simp_arith[e0,ag];refine ⟨by omega,CompG.inv (P:=λi acc ρ G'=>(∃o,ρ=[o,some (.tup [.int w,.tup (rs.map az)])])/\G'=G/\acc=((List.range i).filter λn=>match rs[n]? with |some r=>(cA rs n r.1).isEmpty |none=>false).map nI) ⟨⟨_,rfl⟩,rfl,rfl⟩ (λ_ _ _ _ _=>trivial) (by simp[aN];have hsz:sz=1000000:=rfl;omega) ?_ ?_⟩
 ·rintro i d acc ρ G' hd ⟨⟨o,rfl⟩,rfl,rfl⟩ kk hk;have hi:i < rs.length:=by
   have:=(ah.mp hd).1;simpa [aN] using this
  have hdi:d=.int (i:Int):=by unfold aN at hd;rw[ay,eI (by simpa using hi)]at hd;simpa using hd.symm
  subst hdi;have hc:rs[i]?=some rs[i]:=a7 hi;have ht:=adL hc;simp_arith[h2];rw[<-e0];refine adI hb hc λd' hq=>?_;rcases hq with ⟨m,hm,rfl⟩ |⟨hn,t,bs,rfl,hL,hall⟩
  ·have hne:(cA rs i rs[i].1).isEmpty=false:=by
    cases h:cA rs i rs[i].1 with
    |nil=>rw[h]at hm;cases hm
    |cons _ _=>rfl
   have eb:(([119,111,114,100]==[104,105,100,100,101,110]):Bool)=false:=by decide
   simp_arith[O3,eb];exact hk _ _ _ ⟨⟨_,rfl⟩,rfl,by rw[ht,hne];simp[nI]⟩
  ·have hne:(cA rs i rs[i].1).isEmpty=true:=by rw[hn];rfl
   simp_arith[dz,BEq.rfl];exact hk _ _ _ ⟨⟨_,rfl⟩,rfl,by rw[ht,hne];simp[nI]⟩
 ·rintro acc ρ G' ⟨_,rfl,rfl⟩;intro q hq;exact ⟨q,rfl,hq,by rw[b8];simp[aN,jU],Sa.new hq⟩
def zQ:List Nat:=[115,97,109,101]
def zR:List Nat:=[112,97,114,116,101,100]
def jV:List Nat:=[97,108,105,107,101]
def uM:RF.Spec:=bK (λa:Nat×List Row×List Row=>[ao a.1 a.2.1,ao a.1 a.2.2]) (λa=>okB a.1 a.2.1/\okB a.1 a.2.2) (λ_=>.non)
theorem adO{w:Nat}{rs ss:List Row}{G:DH}{k:D->DH->Prop}{E:EK}(h:okB w rs)(h':okB w ss)(hk:k .non G):uM.t [ao w rs,ao w ss] G k E:=bQ (w,rs,ss) rfl ⟨h,h'⟩ hk
theorem adP (Φ:aa) (h1:Φ "need_book"=gw) (a:Nat×List Row×List Row) (G:DH) (h:okB a.1 a.2.1/\okB a.1 a.2.2):au Φ lZ noE (env0 [ao a.1 a.2.1,ao a.1 a.2.2] 0) G (ends λd G'=>G'=G/\d=.non):=by obtain ⟨w,rs,ss⟩:=a;obtain ⟨hb,hc⟩:=h;dsimp only at hb hc ⊢;simp_all_arith[lZ];refine seq λM hM=>?_;simp_arith[h1];refine iU hb (hM _ _ (seq λM hM=>?_));simp_arith[h1];refine iU hc (hM _ _ (last ?_));simp_arith[ao,BEq.rfl,and_self]
def bY(rs:List Row)(o:Option Nat):Option (List Nat):=o.bind λn=>rs[n]?.map (·.2)
theorem O5{rs:List Row}{o:Option Nat}:jM rs o=bG (bY rs o):=by
 cases o with
 |none=>rfl
 |some n=>
  unfold jM bY;dsimp only[Option.bind];cases rs[n]? <;> rfl
structure SD where
 w:Nat
 rs:List Row
 ss:List Row
 name:List Nat
 o:Option Nat
 p:Option Nat
def sSD:RF.Spec:=bK (λa:SD=>[ao a.w a.rs,ao a.w a.ss,.tup [.str a.name,aX a.o,aX a.p]]) (λa=>(∀n,a.o=some n->n < a.rs.length)/\∀n,a.p=some n->n < a.ss.length) (λa=>.bl (bY a.rs a.o==bY a.ss a.p))
theorem adQ{w:Nat}{rs ss:List Row}{name:List Nat}{o p:Option Nat}{G:DH}{k:D->DH->Prop}{E:EK}(h1:∀n,o=some n->n < rs.length)(h2:∀n,p=some n->n < ss.length)(hk:k (.bl (bY rs o==bY ss p)) G):sSD.t [ao w rs,ao w ss,.tup [.str name,aX o,aX p]] G k E:=bQ ⟨w,rs,ss,name,o,p⟩ rfl ⟨h1,h2⟩ hk
theorem adR (Φ:aa) (h1:Φ "deed_of"=uF) (a:SD) (G:DH) (h:(∀n,a.o=some n->n < a.rs.length)/\∀n,a.p=some n->n < a.ss.length):au Φ mj noE (env0 [ao a.w a.rs,ao a.w a.ss,.tup [.str a.name,aX a.o,aX a.p]] 0) G (ends λd G'=>G'=G/\d=.bl (bY a.rs a.o==bY a.ss a.p)):=by obtain ⟨w,rs,ss,name,o,p⟩:=a;obtain ⟨ho,hp⟩:=h;dsimp only at ho hp ⊢;simp_arith[mj,h1];refine N6 ho (N6 hp ?_);rw[O5,O5];cases bY rs o <;> cases bY ss p <;> simp_arith[bG] <;> first |done | (simp;done) | (refine ⟨by decide,?_⟩;simp;done)
noncomputable def aH(w:Nat)(rs ss:List Row):List (List Nat):=(gr (List.replicate w 42)).filter λl=>!(bY rs (aR rs l)==bY ss (aR ss l))
def dN(rs ss:List Row)(c:List Nat):Bool:=bY rs (aV rs c)==bY ss (aV ss c)
def uN(w:Nat)(rs ss:List Row)(d:D):Prop:=
 (∃m,(aH w rs ss).head?=some m/\d=.tup [.str zR,.str m])\/(aH w rs ss=[]/\∃t bs,d=.tup [.str jV,t]/\Lv zQ [rs,ss] (List.replicate w 42) t bs/\∀c∈bs,dN rs ss c=true)
def jc:RF.Spec:=ghS (A:=Nat×List Row×List Row) (λa ds _=>ds=[ao a.1 a.2.1,ao a.1 a.2.2]/\okB a.1 a.2.1/\okB a.1 a.2.2) (λa G d G'=>G'=G/\uN a.1 a.2.1 a.2.2 d)
theorem uO{w:Nat}{rs ss:List Row}{G:DH}{k:D->DH->Prop}{E:EK}(h:okB w rs)(h':okB w ss)(hk:∀d,uN w rs ss d->k d G):jc.t [ao w rs,ao w ss] G k E:=
 fJ (w,rs,ss) ⟨rfl,h,h'⟩ λd G' hx=>by
  obtain ⟨e,q⟩:=hx;subst e;exact hk d q
theorem adS (Φ:aa) (h1:Φ "need_two_books"=uM) (h2:Φ "grown"=eU 9) (h3:Φ "leaves"=dM 9) (h4:Φ "least"=aK jb) (h5:Φ "stars"=aK iW) (h6:Φ "same_deeds"=sSD) (a:Nat×List Row×List Row) (ds:List D) (G:DH) (h:ds=[ao a.1 a.2.1,ao a.1 a.2.2]/\okB a.1 a.2.1/\okB a.1 a.2.2):
  au Φ my noE (env0 ds 3) G (ends λd G'=>G'=G/\uN a.1 a.2.1 a.2.2 d):=by
 obtain ⟨w,rs,ss⟩:=a;obtain ⟨rfl,hb,hb'⟩:=h;dsimp only at hb hb' ⊢;have hw6:=hb.w6;have hst:=adp w;have hrl:∀r∈rs,r.1.length=w:=λr hr=>(hb.form r hr).1;have hsl:∀r∈ss,r.1.length=w:=λr hr=>(hb'.form r hr).1;have e0:∀xs:List Row,D.tup [.int w,.tup (xs.map az)]=ao w xs:=λ_=>rfl;simp_all_arith[my];refine seq λM hM=>?_;simp_arith[h1];refine adO hb hb' (hM _ _ (seq λM hM=>?_));simp_arith[ao,h5];refine adD (by omega) (hM _ _ (seq λM hM=>?_));simp_arith[h2];have er:[D.tup (rs.map az),.tup (ss.map az)]=dJ [rs,ss]:=rfl;rw[er];refine ⟨by decide,uI (name:=zQ) ⟨by simp,by decide,λxs hxs r hr=>?_,by omega⟩ cy (by omega) λt ht=>hM _ _ (seq λM hM=>?_)⟩
 ·rcases bS.mp hxs with e |hxs
  ·rw[e]at hr;exact hrl r hr
  ·rw[bq.mp hxs]at hr;exact hsl r hr
 obtain ⟨bs,hL⟩:=ht.lv;have hlen:=hL.len' (by rw[cy];omega);simp_arith[h3];refine Oq hL (by decide) (by rw[cy];omega) (by omega) ?_;simp_arith[ends];refine CompG.inv (P:=λi acc ρ G'=>(∃o1 o2,ρ=[o1,o2,some (.tup [.int w,.tup (rs.map az)]),some (.tup [.int w,.tup (ss.map az)])])/\G'=G/\acc=((bs.take i).filter λc=>!dN rs ss c).map λc=>D.str (bH c)) ⟨⟨_,_,rfl⟩,rfl,rfl⟩ (λ_ _ _ _ _=>trivial) (by rw[ag];have hsz:sz=1000000:=rfl;omega) ?_ ?_
 ·rintro i d acc ρ G' hd ⟨⟨o1,o2,rfl⟩,rfl,rfl⟩ kk hk;rw[ay]at hd;obtain ⟨c,hcb,rfl⟩:=ax.mp hd;have hcl:=(hL.box c (bv hcb)).1;rw[cy]at hcl;have htk:bs.take (i+1)=bs.take i++[c]:=by rw[d6,hcb];rfl
  simp_arith[jP,ni,br,de,h6];rw[e0,e0];refine adQ (λn hn=>uH hn) (λn hn=>uH hn) ?_;have es:(bY rs (aV rs c)==bY ss (aV ss c))=dN rs ss c:=rfl;rw[es];cases hsb:dN rs ss c with
  |true=>
   simp_arith[ends];exact hk _ _ _ ⟨⟨_,_,rfl⟩,rfl,by rw[htk,en];simp[hsb]⟩
  |false=>
   simp_arith[h4];refine Oz (by omega) (hk _ _ _ ⟨⟨_,_,rfl⟩,rfl,by rw[htk,en];simp[hsb]⟩)
 ·rintro acc ρ G' ⟨_,rfl,rfl⟩;rw[ag,eM];refine hM _ _ (seq λM hM=>?_);have meet:∀xs∈[rs,ss],∀c∈bs,∀l,Fits c l->aR xs l=aV xs c:=by
   intro xs hxs c hc l hl;obtain ⟨e1,e2⟩:=hL.box c hc;rw[cy]at e1;have okc:=hL.okf (ac4 w) c hc;refine Oj (λr hr=>?_) (e2 _ hxs) (zJ okc hl) hl;rcases bS.mp hxs with e |hxs
   ·rw[e]at hr;rw[hrl r hr,e1]
   ·rw[bq.mp hxs]at hr;rw[hsl r hr,e1]
  have both:∀c∈bs,∀l,Fits c l->(bY rs (aR rs l)==bY ss (aR ss l))=dN rs ss c:=by intro c hc l hl;rw[meet rs (by simp) c hc l hl,meet ss (by simp) c hc l hl];rfl
  cases hfr:bs.filter λc=>!dN rs ss c with
  |nil=>
   have hall:∀c∈bs,dN rs ss c=true:=by
    intro c hc;have:=df.mp hfr c hc;cases h:dN rs ss c with
    |false=>rw[h]at this;exact absurd rfl this
    |true=>rfl
   simp_arith[de];refine hM _ _ (last ?_);simp_arith[ends];refine ⟨by decide,.inr ⟨?_,t,bs,rfl,hL,hall⟩⟩;unfold aH;rw[df];intro l hl;obtain ⟨c,hc',hfc⟩:=hL.cover l (eQ.mp hl);rw[both c hc' l hfc,hall c hc'];simp
  |cons c0 cs=>
   have hne:(!(List.isEmpty (D.str (bH c0)::cs.map λc=>D.str (bH c))))=true:=rfl;simp_arith[br,hne];rw[<-br (f:=λc=>D.str (bH c)),<-hfr];have es:bF ((bs.filter λc=>!dN rs ss c).map λc=>D.str (bH c))=some ((bs.filter λc=>!dN rs ss c).map bH):=strs_map _ _;have ei:cu ((bs.filter λc=>!dN rs ss c).map λc=>D.str (bH c))=none:=by rw[hfr];rfl
   refine O1 ei es λm hm hlow=>?_;obtain ⟨c,hcm,rfl⟩:=ce.mp hm;obtain ⟨hcb,hcn⟩:=dk.mp hcm;refine ⟨by decide,.inl ⟨bH c,?_,rfl⟩⟩;refine OJ ?_ ?_ ?_
   ·unfold aH;rw[Ow];exact (zN _).filter _
   ·unfold aH;rw[dk];refine ⟨eQ.mpr (hL.within c hcb _ (nu c)),?_⟩;rw[both c hcb _ (nu c)];exact hcn
   ·intro x hx hlt;unfold aH at hx;obtain ⟨hx1,hx2⟩:=dk.mp hx;obtain ⟨c',hc',hfc⟩:=hL.cover x (eQ.mp hx1);rw[both c' hc' x hfc]at hx2;have hlow':=hlow (bH c') (ce.mpr ⟨c',dk.mpr ⟨hc',hx2⟩,rfl⟩);exact zL hfc (zM hlt hlow')
theorem O6{rs:List Row}{n:Nat}{r:Row}(h:rs[n]?=some r)(l:List Nat):aR rs l=match aR (rs.take n) l with |some m=>some m |none=>if aU r.1 l then some n else (aR (rs.drop (n+1)) l).map (n+1 + ·):=by
 have hn:=(ah.mp h).1;have e:=N7 (rs.take n) (rs.drop n) l;rw[fm,NZ h,aT,Nat.min_eq_left (by omega)]at e;rw[e];cases aR (rs.take n) l with
 |some m=>rfl
 |none=>
  dsimp only;split
  ·simp
  ·rw[Option.map_map];congr 1;funext x;simp;omega
theorem O7{rs:List Row}{n:Nat}{r:Row}(h:rs[n]?=some r){l:List Nat}:aR rs l=some n↔aR (rs.take n) l=none/\aU r.1 l=true:=by
 have hn:=(ah.mp h).1;have e:=O6 h l;cases ht:aR (rs.take n) l with
 |some m=>
  rw[ht]at e;have:=N5 ht;rw[aT]at this;constructor
  ·intro h';rw[e]at h';have:m=n:=by simpa using h'
   omega
  ·rintro ⟨h',_⟩;cases h'
 |none=>
  rw[ht]at e;dsimp only at e;cases hf:aU r.1 l with
  |true=>rw[hf,if_pos rfl]at e;simp[e]
  |false=>
   rw[hf,if_neg a9]at e;constructor
   ·intro h';rw[e]at h';obtain ⟨x,_,hx⟩:=ax.mp h';omega
   ·rintro ⟨_,h'⟩;cases h'
theorem adT{w n:Nat}{rs:List Row}{r:Row}(hb:okB w rs)(h:rs[n]?=some r):cA rs n r.1=[]↔∀l,okW w l->aR rs l≠some n:=by
 have hf:=hb.form r (bv h);unfold cA;rw[df];constructor
 ·intro q l hl e;obtain ⟨e1,e2⟩:=(O7 h).mp e;exact q l (eQ.mpr ((NQ hl.2).mp e2)) (by rw[e1];rfl)
 ·intro q l hl e;have hfit:=eQ.mp hl;have hw:okW w l:=⟨by rw[<-hfit.1,hf.1],zJ hf hfit⟩;exact q l hw ((O7 h).mpr ⟨by simpa using e,(NQ hw.2).mpr hfit⟩)
def wo(rs:List Row)(n:Nat):List Row:=rs.take n++rs.drop (n+1)
def dn(n a:Nat):Nat:=if a < n then a else a - 1
theorem jW{rs:List Row}{n:Nat}(hn:n < rs.length):(wo rs n).length+1=rs.length:=by unfold wo;rw[ar,aT,bp];omega
theorem zT{w n:Nat}{rs:List Row}(hb:okB w rs)(hn:n < rs.length):okB w (wo rs n):=hb.sub (by have:=jW hn;omega) λr hr=>by
 rcases bn.mp hr with h |h
 ·exact ft h
 ·exact List.mem_of_mem_drop h
theorem adU{n:Nat}{rs:List Row}{r:Row}(h:rs[n]?=some r){l:List Nat}(hl:aR rs l≠some n):atN (wo rs n) (aR (wo rs n) l)=dn n (atN rs (aR rs l))/\atN rs (aR rs l)≠n/\bY (wo rs n) (aR (wo rs n) l)=bY rs (aR rs l):=by
 have hn:=(ah.mp h).1;have hwl:=jW hn;have e:=O6 h l;have e':aR (wo rs n) l=_:=N7 (rs.take n) (rs.drop (n+1)) l;have tl:(rs.take n).length=n:=by rw[aT];omega
 rw[tl]at e';cases ht:aR (rs.take n) l with
 |some m=>
  have hm:=N5 ht;rw[tl]at hm;rw[ht]at e e';dsimp only at e e';rw[e,e'];refine ⟨?_,?_,?_⟩
  ·show m=dn n m;unfold dn;rw[if_pos hm]
  ·show m≠n;omega
  ·unfold bY wo;dsimp only[Option.bind];rw[eh (by omega),List.getElem?_take,if_pos hm]
 |none=>
  rw[ht]at e e';dsimp only at e e';cases hf:aU r.1 l with
  |true=>rw[hf,if_pos rfl]at e;exact absurd e hl
  |false=>
   rw[hf,if_neg a9]at e;cases hd:aR (rs.drop (n+1)) l with
   |none=>
    rw[hd]at e e';rw[e,e'];refine ⟨?_,?_,rfl⟩
    ·show (wo rs n).length=dn n rs.length;unfold dn;rw[if_neg (by omega)];omega
    ·show rs.length≠n;omega
   |some x=>
    rw[hd]at e e';rw[e,e'];refine ⟨?_,?_,?_⟩
    ·show n+x=dn n (n+1+x);unfold dn;rw[if_neg (by omega)];omega
    ·show n+1+x≠n;omega
    ·show ((wo rs n)[n+x]?).map (·.2)=(rs[n+1+x]?).map (·.2);unfold wo;rw[fv (by omega),tl,List.getElem?_drop];congr 2;omega
theorem adV{w n:Nat}{rs:List Row}{r:Row}(hb:okB w rs)(h:rs[n]?=some r)(hf:cA rs n r.1=[]):aH w rs (wo rs n)=[]:=by have hfree:=(adT hb h).mp hf;unfold aH;rw[df];intro l hl;obtain ⟨_,_,e⟩:=adU h (hfree l (zB.mp (eQ.mp hl)));rw[e];simp
def sWo:RF.Spec:=bK (λa:Nat×List Row×Nat=>[ao a.1 a.2.1,.int a.2.2]) (λa=>okB a.1 a.2.1/\a.2.2 < a.2.1.length) (λa=>ao a.1 (wo a.2.1 a.2.2))
theorem uP{w n:Nat}{rs:List Row}{G:DH}{k:D->DH->Prop}{E:EK}(h:okB w rs)(hn:n < rs.length)(hk:k (ao w (wo rs n)) G):sWo.t [ao w rs,.int n] G k E:=bQ (w,rs,n) rfl ⟨h,hn⟩ hk
theorem zU{α β:Type}(f:α->β)(l:List α)(n:Nat):cut (l.map f) (some ((n:Int)+1)) none=(l.drop (n+1)).map f:=zA f l (n+1)
theorem adW (Φ:aa) (h1:Φ "need_row"=jT) (a:Nat×List Row×Nat) (G:DH) (h:okB a.1 a.2.1/\a.2.2 < a.2.1.length):au Φ mJ noE (env0 [ao a.1 a.2.1,.int a.2.2] 2) G (ends λd G'=>G'=G/\d=ao a.1 (wo a.2.1 a.2.2)):=by obtain ⟨w,rs,n⟩:=a;obtain ⟨hb,hn⟩:=h;dsimp only at hb hn ⊢;have hlen:=hb.len;simp_all_arith[mJ];refine seq λM hM=>?_;simp_arith[h1];refine uJ hb hn (hM _ _ (seq λM hM=>?_));simp_arith[ao];refine hM _ _ (last ?_);simp_arith[iV,zU,ag,aT,bp];refine ⟨by have hsz:sz=1000000:=rfl;omega,by decide,?_⟩;unfold wo ao;rw[ca]
def ndT:List Nat:=[110,101,101,100,108,101,115,115]
def zV:List Nat:=[110,101,101,100,101,100]
def ndQ(w n:Nat)(rs:List Row)(d:D):Prop:=
 (∃m,(aH w rs (wo rs n)).head?=some m/\d=.tup [.str zV,.str m])\/(aH w rs (wo rs n)=[]/\∃t bs,d=.tup [.str ndT,t]/\Lv zQ [rs,wo rs n] (List.replicate w 42) t bs/\∀c∈bs,dN rs (wo rs n) c=true)
def nA:RF.Spec:=ghS (A:=Nat×List Row×Nat) (λa ds _=>ds=[ao a.1 a.2.1,.int a.2.2]/\okB a.1 a.2.1/\a.2.2 < a.2.1.length) (λa G d G'=>G'=G/\ndQ a.1 a.2.2 a.2.1 d)
theorem O8{w n:Nat}{rs:List Row}{G:DH}{k:D->DH->Prop}{E:EK}(h:okB w rs)(hn:n < rs.length)(hk:∀d,ndQ w n rs d->k d G):nA.t [ao w rs,.int n] G k E:=
 fJ (w,rs,n) ⟨rfl,h,hn⟩ λd G' hx=>by
  obtain ⟨e,q⟩:=hx;subst e;exact hk d q
theorem adX (Φ:aa) (h1:Φ "alike"=jc) (h2:Φ "without"=sWo) (a:Nat×List Row×Nat) (ds:List D) (G:DH) (h:ds=[ao a.1 a.2.1,.int a.2.2]/\okB a.1 a.2.1/\a.2.2 < a.2.1.length):au Φ mR noE (env0 ds 2) G (ends λd G'=>G'=G/\ndQ a.1 a.2.2 a.2.1 d):=by
 obtain ⟨w,rs,n⟩:=a;obtain ⟨rfl,hb,hn⟩:=h;dsimp only at hb hn ⊢;simp_all_arith[mR];refine seq λM hM=>?_;simp_arith[h1,h2];refine uP hb hn (uO hb (zT hb hn) λd hq=>?_);rcases hq with ⟨m,hm,rfl⟩ |⟨hnil,t,bs,rfl,hL,hall⟩
 ·have eb:(([112,97,114,116,101,100]==[97,108,105,107,101]):Bool)=false:=by decide
  simp_arith[zR];refine hM _ _ (last ?_);simp_arith[eb];exact ⟨by decide,.inl ⟨m,hm,rfl⟩⟩
 ·simp_arith[jV];refine hM _ _ (last ?_);simp_arith[BEq.rfl];exact ⟨by decide,.inr ⟨hnil,t,bs,rfl,hL,hall⟩⟩
def lnS(w:Nat)(rs:List Row)(n:Nat):List Row:=if (aH w rs (wo rs n)).isEmpty then wo rs n else rs
def lnR(w:Nat):Nat->List Row->List Row
 |0,rs=>rs
 |k+1,rs=>lnR w k (lnS w rs k)
theorem O9{w n:Nat}{rs:List Row}(hb:okB w rs)(hn:n < rs.length):okB w (lnS w rs n)/\n<=(lnS w rs n).length:=by
 unfold lnS;split
 ·exact ⟨zT hb hn,by have:=jW hn;omega⟩
 ·exact ⟨hb,by omega⟩
theorem Pa{w:Nat}:∀(k:Nat){rs:List Row},okB w rs->k<=rs.length->okB w (lnR w k rs)
 |0,rs,hb,_=>hb
 |k+1,rs,hb,hk=>by
  obtain ⟨h1,h2⟩:=O9 hb (show k < rs.length by omega);exact Pa k h1 h2
def uQ:RF.Spec:=bK (λa:Nat×List Row=>[ao a.1 a.2]) (λa=>okB a.1 a.2) (λa=>ao a.1 (lnR a.1 a.2.length a.2))
theorem Pb{w:Nat}{rs:List Row}{G:DH}{k:D->DH->Prop}{E:EK}(h:okB w rs)(hk:k (ao w (lnR w rs.length rs)) G):uQ.t [ao w rs] G k E:=bQ (w,rs) rfl h hk
theorem adY (Φ:aa) (h1:Φ "need_book"=gw) (h2:Φ "needless"=nA) (h3:Φ "without"=sWo) (a:Nat×List Row) (G:DH) (h:okB a.1 a.2):au Φ mW noE (env0 [ao a.1 a.2] 2) G (ends λd G'=>G'=G/\d=ao a.1 (lnR a.1 a.2.length a.2)):=by
 obtain ⟨w,rs⟩:=a;dsimp only at h ⊢;have hlen:=h.len;have e0:∀xs:List Row,D.tup [.int w,.tup (xs.map az)]=ao w xs:=λ_=>rfl;simp_all_arith[mW];refine seq λM hM=>?_;simp_arith[h1];refine iU h (hM _ _ (seq λM hM=>?_));simp_arith[ends];refine hM _ _ (seq λM hM=>?_);have ed:ao w rs=.tup [.int w,.tup (rs.map az)]:=rfl;simp_arith![ed,ag,dP];refine ⟨by omega,ForG.inv (P:=λi ρ G'=>∃(xs:List Row)(o2:Option D),ρ=[some (.tup [.int w,.tup (rs.map az)]),some (.tup [.int w,.tup (xs.map az)]),o2]/\G'=G/\okB w xs/\rs.length - i<=xs.length/\lnR w (rs.length - i) xs=lnR w rs.length rs) ⟨rs,_,rfl,rfl,h,aw _,rfl⟩ (λ_ _ _ _=>trivial) ?_ ?_⟩
 ·rintro i d ρ G' hd ⟨xs,o2,rfl,rfl,hb,hl,hr⟩ kk hk;have hi:i < rs.length:=by
   have:=(ah.mp hd).1;simpa [dh] using this
  obtain ⟨m,hm⟩:∃m:Nat,rs.length - i=m+1:=⟨rs.length - i - 1,by omega⟩;have hdi:d=.int (m:Int):=by
   unfold dh at hd;rw[ay,eI hi]at hd;have:D.int ((rs.length:Int) - 1 - (i:Int))=d:=by simpa using hd
   rw[<-this];congr 1;omega
  subst hdi;rw[hm]at hl hr;rw[lnR]at hr;have hmx:m < xs.length:=by omega
  obtain ⟨k1,k2⟩:=O9 hb hmx;have em:rs.length - (i+1)=m:=by omega
  simp_arith![ends];refine last ?_;simp_arith[h2];rw[e0];refine O8 hb hmx λd hq=>?_;rcases hq with ⟨l,hl',rfl⟩ |⟨hnil,t,bs,rfl,_,_⟩
  ·have eb:(([110,101,101,100,101,100]==[110,101,101,100,108,101,115,115]):Bool)=false:=by decide
   have es:lnS w xs m=xs:=by
    unfold lnS;cases hp:aH w xs (wo xs m) with
    |nil=>rw[hp]at hl';cases hl'
    |cons _ _=>rfl
   rw[es]at hr;simp_arith[zV,eb];exact hk _ _ ⟨xs,_,rfl,rfl,hb,by omega,by rw[em];exact hr⟩
  ·have es:lnS w xs m=wo xs m:=by unfold lnS;rw[hnil];rfl
   rw[es]at hr k1 k2;simp_arith[ndT,BEq.rfl,h3];refine uP hb hmx ?_;exact hk _ _ ⟨wo xs m,_,rfl,rfl,k1,by omega,by rw[em];exact hr⟩
 ·rintro ρ G' ⟨xs,o2,rfl,rfl,hb,hl,hr⟩;have e1:rs.length - (dh ((rs.length:Int) - 1) rs.length).length=0:=by simp[dh]
  rw[e1]at hr;refine hM _ _ (last ?_);simp_arith[ends];rw[e0,<-hr];rfl
def ddF(rs:List Row)(l:List Nat):Option (List Nat):=(rs.find? λr=>aU r.1 l).map (·.2)
theorem nF(r:Row)(rs:List Row)(l:List Nat):ddF (r::rs) l=if aU r.1 l then some r.2 else ddF rs l:=by unfold ddF;rw[List.find?_cons];cases aU r.1 l <;> rfl
theorem zW(as bs:List Row)(l:List Nat):ddF (as++bs) l=(ddF as l).or (ddF bs l):=by unfold ddF;rw[List.find?_append];cases as.find? λr=>aU r.1 l <;> rfl
theorem nG(l:List Nat):∀rs:List Row,bY rs (aR rs l)=ddF rs l
 |[]=>rfl
 |r::rs=>by
  have ih:=nG l rs;have e:=NZ (rs:=r::rs) (i:=0) (l:=l) (r:=r) rfl;rw[List.drop_zero,Nat.zero_add,List.drop_succ_cons,List.drop_zero]at e;rw[e,nF,<-ih];cases aU r.1 l with
  |true=>rfl
  |false=>cases aR rs l <;> rfl
theorem uR{w:Nat}{rs ss:List Row}:aH w rs ss=[]↔∀l,okW w l->ddF rs l=ddF ss l:=by
 unfold aH;rw[df];constructor
 ·intro h l hl;have:=h l (eQ.mpr (zB.mpr hl));rw[nG,nG]at this;simpa using this
 ·intro h l hl;rw[nG,nG,h l (zB.mp (eQ.mp hl))];simp
theorem uT{w:Nat}{rs ss ts:List Row}(h1:aH w rs ss=[])(h2:aH w ss ts=[]):aH w rs ts=[]:=by rw[uR]at h1 h2 ⊢;intro l hl;rw[h1 l hl,h2 l hl]
theorem nH{w:Nat}(rs:List Row):aH w rs rs=[]:=uR.mpr λ_ _=>rfl
theorem adZ{w:Nat}{A B C:List Row}{x y:Row}(h1:aH w (A++x::(B++y::C)) (A++(B++y::C))=[])(h2:aH w (A++(B++y::C)) (A++(B++C))=[]):aH w (A++x::(B++y::C)) (A++x::(B++C))=[]:=by
 rw[uR]at h1 h2 ⊢;intro l hl;have e1:=h1 l hl;have e2:=h2 l hl;simp only[zW,nF]at e1 e2 ⊢;cases hA:ddF A l with
 |some d=>rfl
 |none=>
  rw[hA]at e1 e2;simp only[Option.none_or]at e1 e2 ⊢;cases hx:aU x.1 l with
  |true=>rfl
  |false=>
   rw[hx]at e1;simpa using e2
theorem nJ(A R:List Row)(x:Row):wo (A++x::R) A.length=A++R:=by unfold wo;rw[List.take_left' rfl,List.drop_append,ge (by omega),show A.length+1 - A.length=1 by omega];rfl
theorem ad0{w k n:Nat}{rs:List Row}(hk:k<=n)(hn:n+1 < rs.length)(h1:aH w rs (wo rs k)=[])(h2:aH w (wo rs k) (wo (wo rs k) n)=[]):aH w rs (wo rs (n+1))=[]:=by
 obtain ⟨A,x,R,rfl,hA⟩:∃A x R,rs=A++x::R/\A.length=k:=⟨rs.take k,rs[k],rs.drop (k+1),by rw[<-bb,fm],by rw[aT];omega⟩;subst hA;rw[ar,cf]at hn;obtain ⟨B,y,C,rfl,hB⟩:∃B y C,R=B++y::C/\B.length=n - A.length:=⟨R.take (n - A.length),R[n - A.length],R.drop (n - A.length+1),by rw[<-bb,fm],by rw[aT];omega⟩;rw[nJ]at h1 h2;have l1:(A++B).length=n:=by rw[ar];omega
 have l2:(A++x::B).length=n+1:=by rw[ar,cf];omega
 have e1:=nJ (A++B) C y;have e2:=nJ (A++x::B) C y;rw[l1,cr,cr]at e1;rw[l2,cr,cr,List.cons_append,List.cons_append]at e2;rw[e1]at h2;rw[e2];exact adZ h1 h2
def nM(w k:Nat)(rs:List Row):Prop:=∀n,k<=n->n < rs.length->aH w rs (wo rs n)≠[]
theorem zX{w:Nat}:∀(k:Nat){rs:List Row},k<=rs.length->nM w k rs->nM w 0 (lnR w k rs)
 |0,rs,_,h=>h
 |k+1,rs,hk,h=>by
  rw[lnR];unfold lnS;cases hp:aH w rs (wo rs k) with
  |nil=>
   have hl:=jW (rs:=rs) (n:=k) (by omega);rw[List.isEmpty_nil,if_pos rfl];refine zX k (by omega) λn h1 h2 e=>?_;exact h (n+1) (by omega) (by omega) (ad0 h1 (by omega) hp e)
  |cons a as=>
   rw[if_neg (by simp)];refine zX k (by omega) λn h1 h2 e=>?_;by_cases hnk:n=k
   ·subst hnk;rw[hp]at e;cases e
   ·exact h n (by omega) h2 e
theorem ad1{w:Nat}(rs:List Row):nM w 0 (lnR w rs.length rs):=zX rs.length (aw _) λn h1 h2=>by omega
theorem Pg{w:Nat}:∀(k:Nat)(rs:List Row),aH w rs (lnR w k rs)=[]
 |0,rs=>nH rs
 |k+1,rs=>by
  rw[lnR];refine uT ?_ (Pg k _);unfold lnS;cases hp:aH w rs (wo rs k) with
  |nil=>exact hp
  |cons _ _=>exact nH rs
theorem ad2{w:Nat}{rs:List Row}(hb:okB w rs)(h:nM w 0 rs):jU rs=[]:=by
 unfold jU;rw[df];intro n hn;have hn':n < rs.length:=by simpa using hn
 have hc:rs[n]?=some rs[n]:=a7 hn';rw[hc];dsimp only;intro e;exact h n (d3 _) hn' (adV hb hc (ek.mp e))
def okP(a:List Nat×List Nat):Prop:=a.1.length=a.2.length/\a.1.length<=1000/\(∀x∈a.1,isF x)/\∀x∈a.2,isF x
def uU:RF.Spec:=bK (λa:List Nat×List Nat=>[.str a.1,.str a.2]) okP (λa=>.bl (bM a.1 a.2).isSome)
noncomputable def clash:D->Option D
 |.tup [.str [a],.str [b]]=>if (cj a b).isSome then none else some (.int 1)
 |_=>none
theorem Ph:∀(f g:List Nat),(((f.zip g).map λp=>D.tup [.str [p.1],.str [p.2]]).filterMap clash).isEmpty=(bM f g).isSome
 |[],g=>by cases g <;> rfl
 |a::f,[]=>rfl
 |a::f,b::g=>by
  have ih:=Ph f g;rw[List.zip_cons_cons,br,bM];cases h:cj a b with
  |none=>
   have:clash (D.tup [.str [a],.str [b]])=some (.int 1):=by show (if (cj a b).isSome=true then none else some (D.int 1))=_;rw[h];rfl
   rw[List.filterMap_cons,this];rfl
  |some c=>
   have:clash (D.tup [.str [a],.str [b]])=none:=by show (if (cj a b).isSome=true then none else some (D.int 1))=_;rw[h];rfl
   rw[List.filterMap_cons,this];show (List.filterMap clash _).isEmpty=_;rw[ih];cases bM f g <;> rfl
theorem ad3(Φ:aa)(a:List Nat×List Nat)(G:DH)(h:okP a):au Φ yN noE (env0 [.str a.1,.str a.2] 0) G (ends λd G'=>G'=G/\d=.bl (bM a.1 a.2).isSome):=by
 obtain ⟨f,g⟩:=a;obtain ⟨hl,hz,hf,hg⟩:=h;dsimp only at hl hz hf hg ⊢;simp_arith[yN,uE];refine CompG.pure (f:=clash) (I:=λρ=>∃o1 o2,ρ=[o1,o2]) ⟨_,_,rfl⟩ trivial (by rw[ag,List.length_zip];have hsz:sz=1000000:=rfl;omega) ?_ ?_
 ·rintro d ρ hd ⟨o1,o2,rfl⟩ kk hk;obtain ⟨⟨x,y⟩,hxy,rfl⟩:=ce.mp hd;have hx:=hf x (List.of_mem_zip hxy).1;have hy:=hg y (List.of_mem_zip hxy).2;have hin:isIn (.str [x,y]) [.str [48,49],.str [49,48]]=!(cj x y).isSome:=by
   rcases hx with rfl |rfl |rfl <;> rcases hy with rfl |rfl |rfl <;> simp[isIn,yw,cj]
  have go:=λρ' hr=>hk ρ' hr;have ec:clash (D.tup [.str [x],.str [y]])=if (cj x y).isSome then none else some (.int 1):=rfl
  simp_arith[hin];refine ⟨by decide,by decide,⟨by decide,by decide⟩,?_⟩;cases hb:(cj x y).isSome with
  |true=>simp_arith[ends];have:=hk [some (.str [x]),some (.str [y])] ⟨_,_,rfl⟩;rw[ec,hb]at this;exact this
  |false=>simp_arith[ends];have:=hk [some (.str [x]),some (.str [y])] ⟨_,_,rfl⟩;rw[ec,hb]at this;exact this
 ·simp_arith[HS,Ph];refine ⟨lF λd hd=>?_,b6 (gp _ _) (by decide)⟩;obtain ⟨e,_,he⟩:=fb.mp hd;unfold clash at he;split at he
  ·split at he
   ·cases he
   ·cases he;rfl
  ·cases he
theorem ad4{f g:List Nat}{G:DH}{k:D->DH->Prop}{E:EK}(h:okP (f,g))(hk:k (.bl (bM f g).isSome) G):uU.t [.str f,.str g] G k E:=bQ (f,g) rfl h hk
def Pj(a:Addr×Nat×List Row)(ds:List D)(G:DH):Prop:=ds=[.ref a.1,.lst (a.2.2.map az)]/\Pen G a.1/\a.2.1<=6/\okRs a.2.1 a.2.2/\0 < a.2.2.length/\a.2.2.length<=12
def zY(a:Addr×Nat×List Row)(G:DH)(d:D)(G':DH):Prop:=∃rs':List Row,d=.lst (rs'.map az)/\okRs a.2.1 rs'/\a.2.2.length<=rs'.length/\rs'.length<=a.2.2.length+1/\Pen G' a.1/\Sb a.1 G G'
def uV:RF.Spec:=ghS Pj zY
theorem ad5{p:Addr}{w:Nat}{rs:List Row}{G:DH}{k:D->DH->Prop}{E:EK}(hp:Pen G p)(hw:w<=6)(h1:okRs w rs)(h2:0 < rs.length)(h3:rs.length<=12)(hk:∀(rs':List Row)(G':DH),okRs w rs'->rs.length<=rs'.length->rs'.length<=rs.length+1->Pen G' p->Sb p G G'->k (.lst (rs'.map az)) G'):uV.t [.ref p,.lst (rs.map az)] G k E:=
 fJ (p,w,rs) ⟨rfl,hp,hw,h1,h2,h3⟩ λd G' ⟨rs',e,h1,h2,h3,h4,h5⟩=>by subst e;exact hk rs' G' h1 h2 h3 h4 h5
def fL(b:List Nat):List Nat:=(List.range b.length).filter λn=>b[n]?==some 42
def iN'(n:Nat):D:=.int (n:Int)
theorem Pk{α:Type}(l:List α)(n:Nat):cut l (some ((n:Int)+1)) none=l.drop (n+1):=ut l (n+1)
theorem ad6{α:Type}(l:List α)(n:Nat):cut l (some ((n:Int)+2)) none=l.drop (n+2):=ut l (n+2)
theorem okRs.cat{w:Nat}{as bs:List Row}(h:okRs w as)(h':okRs w bs):okRs w (as++bs):=λr hr=>by
 rcases bn.mp hr with e |e
 ·exact h r e
 ·exact h' r e
theorem okRs.take{w:Nat}{as:List Row}(n:Nat)(h:okRs w as):okRs w (as.take n):=λr hr=>h r (ft hr)
theorem okRs.drop{w:Nat}{as:List Row}(n:Nat)(h:okRs w as):okRs w (as.drop n):=λr hr=>h r (List.mem_of_mem_drop hr)
theorem Pn{w n:Nat}{rs:List Row}{m dd:List Nat}(hr:okRs w rs)(hm:okF w m)(hd:okD dd)(h:rs.length<=12):(rs.take n).length+(0+1)<=sz/\((rs.take n).map az++[D.tup [.str m,.str dd]]).length+(rs.drop n).length<=sz/\∃rs':List Row,D.lst ((rs.take n).map az++[D.tup [.str m,.str dd]]++(rs.drop n).map az)=.lst (rs'.map az)/\okRs w rs'/\rs.length<=rs'.length/\rs'.length<=rs.length+1:=by refine ⟨by rw[aT];have hsz:sz=1000000:=rfl;omega,by rw[ar,ag,aT,bp,fe];have hsz:sz=1000000:=rfl;omega,rs.take n++(m,dd)::rs.drop n,?_,hr.ins hm hd,by rw[O4];omega,by rw[O4];omega⟩;rw[ca,br,cr];rfl
theorem ad7 (Φ:aa) (h1:Φ "_law_take"=cY) (h2:Φ "_law_within"=gZ) (h3:Φ "_law_meet"=uU) (a:Addr×Nat×List Row) (ds:List D) (G:DH) (h:Pj a ds G):au Φ yO noE (env0 ds 7) G (ends (zY a G)):=by
 obtain ⟨p,w,rs⟩:=a;obtain ⟨rfl,hp,hw,hr,h0,h12⟩:=h;dsimp only at hp hw hr h0 h12 ⊢;simp_all_arith[yO];refine seq λM hM=>?_;simp_arith[h1,ag];refine bR hp (by omega) (by omega) λat' G1 hat hp1 sb1=>hM _ _ (seq λM hM=>?_);have hat:at' < rs.length:=by omega
 have hc:rs[at']?=some rs[at']:=a7 hat;generalize rs[at']=r at hc;have hok:=hr r (bv hc);have hbl:=hok.1.1;have hatI:atI (rs.map az) (at':Int)=some (az r):=bU (by rw[ay,hc];rfl);simp_arith[ends];refine bu hatI ?_;simp_arith[az];refine hM _ _ (seq λM hM=>?_);simp_arith[ends];refine ⟨by omega,CompG.inv (P:=λi acc ρ G'=>(∃o,ρ=[o,some (.str r.1)])/\G'=G1/\acc=((List.range i).filter λn=>r.1[n]?==some 42).map iN') ⟨⟨_,rfl⟩,rfl,rfl⟩ (λ_ _ _ _ _=>trivial) (by simp[aN];have hsz:sz=1000000:=rfl;omega) ?_ ?_⟩
 ·rintro i d acc ρ G' hd ⟨⟨o,rfl⟩,rfl,rfl⟩ kk hk;have hi:i < r.1.length:=by
   have:=(ah.mp hd).1;simpa [aN] using this
  have hdi:d=.int (i:Int):=by unfold aN at hd;rw[ay,eI (by simpa using hi)]at hd;simpa using hd.symm
  subst hdi;have hc:r.1[i]?=some r.1[i]:=a7 hi;simp_arith[ends];refine bu (a:=r.1[i]) (bU hc) ?_;simp_arith[gA];cases h42:(r.1[i]==42) with
  |true=>exact hk _ _ _ ⟨⟨_,rfl⟩,rfl,by rw[List.range_succ,en,List.filter_cons,hc];simp[iN',h42]⟩
  |false=>exact hk _ _ _ ⟨⟨_,rfl⟩,rfl,by rw[List.range_succ,en,List.filter_cons,hc];simp[iN',h42]⟩
 ·rintro acc ρ G2 ⟨_,rfl,rfl⟩;have el:((List.range (aN 0 (r.1.length:Int).toNat).length).filter λn=>r.1[n]?==some 42).map iN'=(fL r.1).map iN':=by unfold fL;simp[aN]
  rw[el];have hsl:(fL r.1).length<=r.1.length:=b6 (List.length_filter_le _ _) (by simp);refine hM _ _ (seq λM hM=>?_);simp_arith[h1];refine bR hp1 (by decide) (by decide) λkd G3 hkd hp3 sb3=>hM _ _ (seq λM hM=>?_);have sb30:=sb1.trans sb3;have more:kd≠0\/fL r.1=[]->∀G4,Pen G4 p->Sb p G G4->M [some (.ref p),some (.lst (rs.map az)),some (.int at'),some (.str r.1),some (.str r.2),some (.lst ((fL r.1).map iN')),some (.int kd),none,none] G4:=by
   intro _ G4 hp4 sb4;refine hM _ _ (seq λM hM=>?_);cases hk1:((kd:Int)==1) with
   |true=>
    simp_arith![hk1];refine seq λM hM=>?_;simp_arith[h1,ag];refine bR hp4 (by omega) (by omega) λq G5 hq hp5 sb5=>?_;have epl:(at':Int)+1+(q:Int)=((at'+1+q:Nat):Int):=by omega
    simp_arith[epl];refine hM _ _ (last ?_);simp_arith[h1,h2,iV,zA,ag];refine uz hp5 hok.1.2 (by omega) λm G6 hm hp6 sb6=>?_;rw[hbl]at hm;refine bR hp6 (by omega) (by omega) λq2 G7 hq2 hp7 sb7=>?_;simp_arith[ends];refine lG (by omega) (by simp;omega) λy hy=>?_;obtain ⟨r2,hr2,rfl⟩:=ce.mp hy;simp_arith[az];obtain ⟨i1,i2,rs',i3,i4,i5,i6⟩:=Pn (n:=at'+1+q) hr hm (hr r2 hr2).2 h12;exact ⟨by decide,by decide,i1,i2,rs',i3,i4,i5,i6,hp7,((sb4.trans sb5).trans sb6).trans sb7⟩
   |false=>
    simp_arith[hk1];refine hM _ _ (seq λM hM=>?_);cases hk2:((kd:Int)==2) with
    |true=>
     simp_arith[hk2,h2,iV,zA,ag];refine uz hp4 hok.1.2 (by omega) λm G6 hm hp6 sb6=>?_;rw[hbl]at hm;obtain ⟨i1,i2,rs',i3,i4,i5,i6⟩:=Pn (n:=at') hr hm hok.2 h12;exact ⟨by decide,by decide,i1,i2,rs',i3,i4,i5,i6,hp6,sb4.trans sb6⟩
    |false=>
     simp_arith[hk2];refine hM _ _ (seq λM hM=>?_);have stay:∀G5,Pen G5 p->Sb p G G5->M [some (.ref p),some (.lst (rs.map az)),some (.int at'),some (.str r.1),some (.str r.2),some (.lst ((fL r.1).map iN')),some (.int kd),none,none] G5:=by intro G5 hp5 sb5;refine hM _ _ (last ?_);simp_arith[ends];exact ⟨rs,rfl,hr,aw _,Nat.le_succ _,hp5,sb5⟩
     by_cases hlt:at'+1 < rs.length
     ·have hl1:decide ((at':Int)+1 < (rs.length:Int))=true:=b9 (by omega);have hc2:rs[at'+1]?=some rs[at'+1]:=a7 hlt;generalize rs[at'+1]=r2 at hc2;have hok2:=hr r2 (bv hc2);have hatJ:atI (rs.map az) ((at':Int)+1)=some (az r2):=bU (j:=at'+1) (by rw[ay,hc2];rfl);simp_arith[ag,hl1];refine bu hatJ ?_;have swap:∀G5,Pen G5 p->Sb p G G5->bj (atI (rs.map az) ((at':Int)+1)) λd=>bj (atI (rs.map az) (at':Int)) λd1=>0+1+1<=sz/\(cut (rs.map az) none (some (at':Int))).length+(0+1+1)<=sz/\(cut (rs.map az) none (some (at':Int))++[d,d1]).length+(cut (rs.map az) (some ((at':Int)+2)) none).length<=sz/\zY (p,w,rs) G (D.lst (cut (rs.map az) none (some (at':Int))++[d,d1]++cut (rs.map az) (some ((at':Int)+2)) none)) G5:=by
       intro G5 hp5 sb5;refine bu hatJ (bu hatI ?_);rw[iV,ad6,<-List.map_drop];refine ⟨by decide,by rw[ag,aT];have hsz:sz=1000000:=rfl;omega,by rw[ar,ag,ag,aT,bp];simp only[cf,e7];have hsz:sz=1000000:=rfl;omega,rs.take at'++[r2,r]++rs.drop (at'+2),?_,?_,?_,?_,hp5,sb5⟩
       ·rw[ca,ca];rfl
       ·refine ((hr.take at').cat ?_).cat (hr.drop _);intro x hx;simp only[bS,gs,or_false]at hx;rcases hx with e |e <;> subst e
        ·exact hok2
        ·exact hok
       ·rw[ar,ar,aT,bp];simp only[cf,e7];omega
       ·rw[ar,ar,aT,bp];simp only[cf,e7];omega
      simp_arith[az];cases hdd:(r2.2==r.2) with
      |true=>exact swap G4 hp4 sb4
      |false=>
       simp_arith[h3];refine bu hatJ ?_;simp_arith[az];refine ad4 ⟨by rw[hbl,hok2.1.1],show r.1.length<=1000 by omega,hok.1.2,hok2.1.2⟩ ?_;cases (bM r.1 r2.1).isSome with
       |true=>
        simp_arith[ends];exact stay _ hp4 sb4
       |false=>
        simp_arith[ends];exact swap G4 hp4 sb4
     ·have hl1:decide ((at':Int)+1 < (rs.length:Int))=false:=cm (by omega);simp_arith[ag,hl1];exact stay _ hp4 sb4
  cases hk0:((kd:Int)==0) with
  |false=>
   simp_arith[hk0];exact more (.inl (by have:=ef.mp hk0;omega)) _ hp3 sb30
  |true=>
   cases hst:fL r.1 with
   |nil=>
    rw[hst]at more;simp_arith[de,hk0];exact ⟨by decide,more (.inr rfl) _ hp3 sb30⟩
   |cons y ys=>
    have hne:fL r.1≠[]:=by rw[hst];simp
    have hpos:0 < (fL r.1).length:=fy.mpr hne;have hnr:nrs ((y::ys).map iN')=true:=lF λd hd=>by obtain ⟨_,_,rfl⟩:=ce.mp hd;rfl
    rw[br]at hnr;simp_arith![br,hk0];refine ⟨⟨by simpa [nrs] using hnr,b6 (gp _ _) (by decide)⟩,?_⟩;rw[<-br (f:=iN'),<-hst];refine seq λM hM=>?_;simp_arith[h1,ag];refine bR hp3 (by omega) (by omega) λq G4 hq hp4 sb4=>?_;simp_arith[ends];refine lG (by omega) (by simp;omega) λy hy=>?_;obtain ⟨pl,hpl,rfl⟩:=ce.mp hy;have hpl42:r.1[pl]?=some 42:=by unfold fL at hpl;simpa using (dk.mp hpl).2
    have hpll:=(ah.mp hpl42).1;refine hM _ _ (seq λM hM=>?_);simp_arith[h1,iN'];refine ⟨by decide,bR hp4 (by decide) (by decide) λq5 G5 hq5 hp5 sb5=>?_⟩;simp_arith[ends];refine lG (by omega) (by simp;omega) λy hy=>?_;obtain ⟨c1,c2,f1,f2,rfl⟩:∃c1 c2:Nat,isF c1/\isF c2/\y=.str [c1,c2]:=by
     simp only[bS,gs,or_false]at hy;rcases hy with e |e
     ·exact ⟨48,49,zG,zH,e⟩
     ·exact ⟨49,48,zH,zG,e⟩
    simp_arith[ends];refine CompG.inv (P:=λi acc ρ G'=>(∃o,ρ=[o,some (.str r.2),some (.str r.1),some (.int pl)])/\G'=G5/\acc=(([c1,c2].take i).map λc=>((r.1.set pl c,r.2):Row)).map az) ⟨⟨_,rfl⟩,rfl,rfl⟩ (λ_ _ _ _ _=>trivial) (show 2<=sz by decide) ?_ ?_
    ·rintro i d acc ρ G' hd ⟨⟨o,rfl⟩,rfl,rfl⟩ kk hk;replace hd:([c1,c2].map λc=>D.str [c])[i]?=some d:=hd;rw[ay]at hd;obtain ⟨c,hcc,rfl⟩:=ax.mp hd;have htk:[c1,c2].take (i+1)=[c1,c2].take i++[c]:=by rw[d6,hcc];rfl
     simp_arith[jG,Pk];refine ⟨by rw[aT];have hsz:sz=1000000:=rfl;omega,by rw[ar,aT,bp,fe];have hsz:sz=1000000:=rfl;omega,by decide,?_⟩;rw[zE hpll];exact hk _ _ _ ⟨⟨_,rfl⟩,rfl,by rw[htk,ca,ca];rfl⟩
    ·rintro acc ρ G' ⟨_,rfl,rfl⟩;have e2:((([c1,c2].take [D.str [c1],D.str [c2]].length).map λc=>((r.1.set pl c,r.2):Row)).map az)=([(r.1.set pl c1,r.2),(r.1.set pl c2,r.2)]:List Row).map az:=rfl;rw[e2];refine hM _ _ (last ?_);simp_arith[iV,Pk,<-List.map_drop,ag];refine ⟨by simp only[aT,ar,ag,bp,cf,e7];have hsz:sz=1000000:=rfl;omega,by simp only[aT,ar,ag,bp,cf,e7];have hsz:sz=1000000:=rfl;omega,rs.take at'++[(r.1.set pl c1,r.2),(r.1.set pl c2,r.2)]++rs.drop (at'+1),?_,?_,?_,?_,hp5,(sb30.trans sb4).trans sb5⟩
     ·rw[ca,ca];rfl
     ·refine ((hr.take at').cat ?_).cat (hr.drop _);intro x hx;simp only[bS,gs,or_false]at hx;rcases hx with e |e <;> subst e
      ·exact ⟨iY hok.1 f1,hok.2⟩
      ·exact ⟨iY hok.1 f2,hok.2⟩
     ·rw[ar,ar,aT,bp];simp only[cf,e7];omega
     ·rw[ar,ar,aT,bp];simp only[cf,e7];omega
def pTA(a:Addr×Nat×List Row×Nat)(ds:List D)(G:DH):Prop:=ds=[.ref a.1,ao a.2.1 a.2.2.1,.int (a.2.2.2:Nat)]/\Pen G a.1/\okB a.2.1 a.2.2.1/\a.2.2.2<=100
def qTA(a:Addr×Nat×List Row×Nat)(G:DH)(d:D)(G':DH):Prop:=∃rs',d=ao a.2.1 rs'/\okB a.2.1 rs'/\Pen G' a.1/\Sb a.1 G G'
def sTA:RF.Spec:=ghS pTA qTA
theorem ad8{p:Addr}{w m:Nat}{rs:List Row}{G:DH}{k:D->DH->Prop}{E:EK}(hp:Pen G p)(h1:okB w rs)(h2:m<=100)(hk:∀(rs':List Row)(G':DH),okB w rs'->Pen G' p->Sb p G G'->k (ao w rs') G'):sTA.t [.ref p,ao w rs,.int (m:Nat)] G k E:=
 fJ (p,w,rs,m) ⟨rfl,hp,h1,h2⟩ λd G' ⟨rs',e,h1,h2,h3⟩=>by subst e;exact hk rs' G' h1 h2 h3
theorem ad9 (Φ:aa) (h1:Φ "_law_one_turning"=uV) (a:Addr×Nat×List Row×Nat) (ds:List D) (G:DH) (h:pTA a ds G):au Φ yP noE (env0 ds 2) G (ends (qTA a G)):=by
 obtain ⟨p,w,rs,m⟩:=a;obtain ⟨rfl,hp,hb,hm⟩:=h;dsimp only at hp hb hm ⊢;have hw6:=hb.w6;have hlen:=hb.len;have hr:okRs w rs:=λr hr=>⟨hb.form r hr,hb.deed r hr⟩;simp_all_arith[yP];refine seq λM hM=>?_;simp_arith[ao];refine hM _ _ (seq λM hM=>?_);have hdq:deq (.lst (rs.map az)) (.lst [])=rs.isEmpty:=by
  cases rs with
  |nil=>rfl
  |cons r rs=>rfl
 simp_arith![hdq];refine ⟨⟨zP rs,b6 (gp _ _) (by decide)⟩,gY (by split <;> decide),⟨by split <;> omega,by split <;> omega⟩,?_⟩;refine ForG.inv (P:=λi ρ G'=>∃(rs':List Row)(o4:Option D),ρ=[some (.ref p),some (.tup [.int w,.tup (rs.map az)]),some (.int (m:Nat)),some (.lst (rs'.map az)),o4]/\okRs w rs'/\rs.length<=rs'.length/\rs'.length<=12/\Pen G' p/\Sb p G G') ⟨rs,none,rfl,hr,aw _,hlen,hp,Sb.refl _ _⟩ (λ_ _ _ _=>trivial) ?_ ?_
 ·rintro i d ρ G' hd ⟨rs',o4,rfl,ok',hle,h12,hp',sb'⟩ kk hk;have hne:0 < rs.length:=by
   cases rs with
   |nil=>simp[aN]at hd
   |cons _ _=>simp
  simp_arith![ends];refine last ?_;by_cases hlt:rs'.length < 12
  ·have hl:decide ((rs'.length:Int) < 12)=true:=b9 (by omega);simp_arith[ag,hl,h1];refine ad5 hp' hw6 ok' (by omega) h12 λrs2 G2 ok2 l1 l2 hp2 sb2=>hk _ _ ⟨rs2,_,rfl,ok2,by omega,by omega,hp2,sb'.trans sb2⟩
  ·have hl:decide ((rs'.length:Int) < 12)=false:=cm (by omega);simp_arith[ag,hl];exact hk _ _ ⟨rs',_,rfl,ok',hle,h12,hp',sb'⟩
 ·rintro ρ G' ⟨rs',o4,rfl,ok',hle,h12,hp',sb'⟩;refine hM _ _ (last ?_);simp_arith[ends];exact ⟨by decide,rs',rfl,⟨hb.w1,hb.w6,h12,λr hr=>(ok' r hr).1,λr hr=>(ok' r hr).2⟩,hp',sb'⟩
def jX:RF.Spec:=bK (λa:Nat×List Row×List Row=>[ao a.1 a.2.1,ao a.1 a.2.2]) (λa=>okB a.1 a.2.1/\okB a.1 a.2.2) (λa=>bG (aH a.1 a.2.1 a.2.2).head?)
theorem zZ{w:Nat}{rs ss:List Row}{G:DH}{k:D->DH->Prop}{E:EK}(h:okB w rs)(h':okB w ss)(hk:k (bG (aH w rs ss).head?) G):jX.t [ao w rs,ao w ss] G k E:=bQ (w,rs,ss) rfl ⟨h,h'⟩ hk
theorem aea (Φ:aa) (h1:Φ "alike"=jc) (a:Nat×List Row×List Row) (G:DH) (h:okB a.1 a.2.1/\okB a.1 a.2.2):au Φ mO noE (env0 [ao a.1 a.2.1,ao a.1 a.2.2] 2) G (ends λd G'=>G'=G/\d=bG (aH a.1 a.2.1 a.2.2).head?):=by
 obtain ⟨w,rs,ss⟩:=a;obtain ⟨hb,hb'⟩:=h;dsimp only at hb hb' ⊢;have eb:(([97,108,105,107,101]==[112,97,114,116,101,100]):Bool)=false:=by decide
 simp_all_arith[mO];refine seq λM hM=>?_;simp_arith[h1];refine uO hb hb' λd hq=>?_;rcases hq with ⟨m,hm,rfl⟩ |⟨hnil,t,bs,rfl,_,_⟩
 ·simp_arith[zR];refine hM _ _ (last ?_);simp_arith[BEq.rfl,hm,bG,and_self]
 ·simp_arith[jV];refine hM _ _ (last ?_);simp_arith[eb,hnil,List.head?_nil,bG,and_self]
def unl(f g:List Nat)(n:Nat):List Nat:=(List.range n).filter λi=>f[i]? != g[i]?
noncomputable def cV(f g:List Nat):Option (List Nat):=if aU g f=true then some g else if aU f g=true then some f else match unl f g f.length with |[i]=>some (f.set i 42) |_=>none
noncomputable def jY:List D->Option D
 |[.str f,.str g]=>if decide (f.length=g.length)&&decide (f.length<=1000) then some (bG (cV f g)) else none
 |_=>none
theorem aeb{f g:List Nat}{G:DH}{k:D->DH->Prop}{E:EK}(hl:f.length=g.length)(h:f.length<=1000)(hk:k (bG (cV f g)) G):(aK jY).t [.str f,.str g] G k E:=du (if_pos (by rw[b9 hl,b9 h];rfl)) hk
theorem Pq{f g:List Nat}{n:Nat}:unl f g (n+1)=unl f g n++(if (f[n]? != g[n]?)=true then [n] else []):=by unfold unl;rw[List.range_succ,en];congr 1;rw[List.filter_cons,List.filter_nil]
theorem aec{f g:List Nat}{n:Nat}:(unl f g n).length<=n:=by unfold unl;exact b6 (List.length_filter_le _ _) (by simp)
theorem aed{f g:List Nat}{i:Nat}(hl:f.length=g.length)(h:unl f g f.length=[i]):i < f.length/\f[i]?≠g[i]?/\∀j,j≠i->f[j]?=g[j]?:=by
 have hm:∀j,j∈unl f g f.length↔j < f.length/\f[j]?≠g[j]?:=λj=>by unfold unl;simp
 have h1:=(hm i).mp (by rw[h];simp);refine ⟨h1.1,h1.2,λj hj=>?_⟩;by_cases hlt:j < f.length
 ·apply Classical.byContradiction;intro hne;have:=(hm j).mpr ⟨hlt,hne⟩;rw[h]at this;exact hj (bq.mp this)
 ·rw[List.getElem?_eq_none (by omega),List.getElem?_eq_none (by omega)]
theorem aee (Φ:aa) (h1:Φ "lies_in"=aK jR) (h2:Φ "with_sign"=aK gB) (ds:List D) (G:DH) (d:D) (h:jY ds=some d):au Φ mH noE (env0 ds 1) G (ends λd' G'=>G'=G/\d'=d):=by
 unfold jY at h;split at h
 ·rename_i f g;split at h
  ·rename_i hh;rw[ae,cb,cb]at hh;obtain ⟨hl,hz⟩:=hh;cases h;simp_all_arith[mH];refine seq λM hM=>?_;simp_arith[h1];refine Ou (by omega) ?_;cases q1:aU g f with
   |true=>
    have ej:cV f g=some g:=by unfold cV;rw[if_pos q1]
    simp_arith[ej,bG]
   |false=>
    simp_arith[ends];refine hM _ _ (seq λM hM=>?_);simp_arith[h1];refine Ou (by omega) ?_;cases q2:aU f g with
    |true=>
     have ej:cV f g=some f:=by unfold cV;rw[if_neg (by rw[q1];decide),if_pos q2]
     simp_arith[ej,bG]
    |false=>
     have ej:cV f g=match unl f g f.length with |[i]=>some (f.set i 42) |_=>none:=by unfold cV;rw[if_neg (by rw[q1];decide),if_neg (by rw[q2];decide)]
     simp_arith[ends];refine hM _ _ (seq λM hM=>?_);simp_arith[ends];refine CompG.inv (P:=λi acc ρ G'=>(∃o0 o1,ρ=[o0,o1,some (.str g)])/\G'=G/\acc=(unl f g i).map λj:Nat=>D.int (j:Int)) ⟨⟨_,_,rfl⟩,rfl,rfl⟩ (λ_ _ _ _ _=>trivial) (by rw[iM,ag];have hsz:sz=1000000:=rfl;omega) ?_ ?_
     ·rintro i d acc ρ G' hd ⟨⟨o0,o1,rfl⟩,rfl,rfl⟩ kk hk;rw[jB]at hd;obtain ⟨d',hd',rfl⟩:=ax.mp hd;rw[ay]at hd';obtain ⟨x,hx,rfl⟩:=ax.mp hd';have hi:=(ah.mp hx).1;have hy:g[i]?=some (g[i]'(by omega)):=by simp[show i < g.length by omega]
      generalize (g[i]'(by omega))=y at hy;have us:=@Pq f g i;simp_arith![ends];refine bu (a:=y) (by rw[Nat.zero_add];exact bU hy) ?_;simp_arith[gA];cases hxy:(x==y) with
      |true=>
       have e:x=y:=by simpa using hxy
       simp_arith[ends];refine hk none _ _ ⟨⟨some (.int ((0+i:Nat):Int)),some (.str [x]),rfl⟩,rfl,?_⟩;rw[us,hx,hy,e];simp
      |false=>
       have e:x≠y:=by simpa using hxy
       simp_arith[ends];refine hk (some (.int ((0+i:Nat):Int))) _ _ ⟨⟨some (.int ((0+i:Nat):Int)),some (.str [x]),rfl⟩,rfl,?_⟩;rw[us,hx,hy];simp[e]
     ·rintro acc ρ G' ⟨_,rfl,rfl⟩;rw[iM,ag];have ul:=@aec f g f.length;refine hM _ _ (seq λM hM=>?_);cases hu:unl f g f.length with
      |nil=>
       rw[hu]at ej;simp_arith[ends];refine hM _ _ ?_;simp_arith[ej,bG]
      |cons i r=>
       cases r with
       |nil=>
        rw[hu]at ej;have:=(aed hl hu).1;simp_arith[h2];exact m9 this hz ⟨rfl,by rw[ej];rfl⟩
       |cons j r=>
        have e:((((List.map (λj:Nat=>D.int (j:Int)) (i::j::r)).length:Nat):Int)==1)=false:=by rw[ef,ag,cf,cf];omega
        rw[hu]at ej;simp_arith![e];refine hM _ _ ?_;simp_arith[ej,bG]
  ·cases h
 ·cases h
theorem Pr{w:Nat}{f g h:List Nat}(hf:okF w f)(hg:okF w g)(e:cV f g=some h):okF w h:=by
 unfold cV at e;split at e
 ·cases e;exact hg
 ·split at e
  ·cases e;exact hf
  ·split at e
   ·cases e;exact iY hf (.inr (.inr rfl))
   ·cases e
def rw0(rs:List Row)(i:Nat):Row:=rs.getD i ([],[])
noncomputable def jbR(rs:List Row)(i j a:Nat):Option (List Row):=
 match cV (rw0 rs i).1 (rw0 rs j).1 with
 |none=>none
 |some f=>if (rw0 rs i).2=(rw0 rs j).2 then some (wo (rs.set a (f,(rw0 rs a).2)) (if a=i then j else i)) else none
def cB(w:Nat):Option (List Row)->D
 |none=>.non
 |some rs=>ao w rs
structure JB where
 w:Nat
 rs:List Row
 i:Nat
 j:Nat
 a:Nat
def jZ(a:JB):Prop:=okB a.w a.rs/\a.i < a.j/\a.j < a.rs.length/\(a.a=a.i\/a.a=a.j)
def sJB:RF.Spec:=bK (λa:JB=>[ao a.w a.rs,.int (a.i:Nat),.int (a.j:Nat),.int (a.a:Nat)]) jZ (λa=>cB a.w (jbR a.rs a.i a.j a.a))
theorem z6{rs:List Row}{i:Nat}(h:i < rs.length):rs[i]?=some (rw0 rs i):=by unfold rw0;rw[ee,a7 h];rfl
theorem jd{rs:List Row}{i:Nat}(h:i < rs.length):rw0 rs i∈rs:=bv (z6 h)
theorem j0{rs:List Row}{i:Nat}(h:i < rs.length):atI (rs.map az) (i:Int)=some (az (rw0 rs i)):=bU (by rw[ay,z6 h];rfl)
theorem Pu{w p:Nat}{rs:List Row}{f:List Nat}(hb:okB w rs)(hp:p < rs.length)(hf:okF w f):okB w (rs.set p (f,(rw0 rs p).2)):=by
 have hm:∀x∈rs.set p (f,(rw0 rs p).2),x∈rs\/x=(f,(rw0 rs p).2):=λx hx=>List.mem_or_eq_of_mem_set hx;refine ⟨hb.w1,hb.w6,by rw[ci];exact hb.len,λr hr=>?_,λr hr=>?_⟩
 ·rcases hm r hr with h |rfl
  ·exact hb.form r h
  ·exact hf
 ·rcases hm r hr with h |rfl
  ·exact hb.deed r h
  ·exact show okD (rw0 rs p).2 from hb.deed _ (jd hp)
theorem z7{a:JB}(h:jZ a){ss:List Row}(e:jbR a.rs a.i a.j a.a=some ss):okB a.w ss/\ss.length+1=a.rs.length:=by
 obtain ⟨w,rs,i,j,p⟩:=a;obtain ⟨hb,h1,h2,h3⟩:=h;dsimp only at hb h1 h2 h3 e ⊢;unfold jbR at e;cases hj:cV (rw0 rs i).1 (rw0 rs j).1 with
 |none=>rw[hj]at e;cases e
 |some f=>
  rw[hj]at e;dsimp only at e;split at e
  ·cases e;have hf:=Pr (hb.form _ (jd (show i < rs.length by omega))) (hb.form _ (jd h2)) hj;have hp:p < rs.length:=by omega
   have hs:okB w (rs.set p (f,(rw0 rs p).2)):=Pu hb hp hf;have hk:(if p=i then j else i) < (rs.set p (f,(rw0 rs p).2)).length:=by rw[ci];split <;> omega
   refine ⟨zT hs hk,?_⟩;have:=jW hk;rw[ci]at this hk;omega
  ·cases e
theorem aef{α:Type}{l:List α}{n:Nat}{x:α}(h:n < l.length):l.take n++[x]++l.drop (n+1)=l.set n x:=by rw[fT,if_pos h,cr];rfl
theorem aeg (Φ:aa) (h1:Φ "joined"=aK jY) (h2:Φ "without"=sWo) (a:JB) (G:DH) (h:jZ a):au Φ mK noE (env0 [ao a.w a.rs,.int (a.i:Nat),.int (a.j:Nat),.int (a.a:Nat)] 4) G (ends λd G'=>G'=G/\d=cB a.w (jbR a.rs a.i a.j a.a)):=by
 have hall:=h;obtain ⟨w,rs,i,j,p⟩:=a;obtain ⟨hb,hij,hj,hp⟩:=h;dsimp only at hb hij hj hp ⊢;have hw6:=hb.w6;have hlen:=hb.len;have hi:i < rs.length:=by omega
 have hpl:p < rs.length:=by omega
 have fi:=hb.form _ (jd hi);have fj:=hb.form _ (jd hj);have fi1:=fi.1;have fj1:=fj.1;simp_all_arith[mK,ao];refine seq λM hM=>?_;simp_arith[ends];refine hM _ _ (seq λM hM=>?_);simp_arith[h1];refine bu (j0 hi) ?_;simp_arith[az];refine bu (j0 hj) ?_;simp_arith[az];refine aeb (by omega) (by omega) (hM _ _ (seq λM hM=>?_));cases hjn:cV (rw0 rs i).1 (rw0 rs j).1 with
 |none=>
  have e:jbR rs i j p=none:=by unfold jbR;rw[hjn]
  simp_arith[bG,e,cB]
 |some f=>
  have hf:=Pr fi fj hjn;have hfl:=hf.1;simp_arith[bG];refine bu (j0 hi) ?_;simp_arith[az];refine bu (j0 hj) ?_;simp_arith[az];by_cases hd:(rw0 rs i).2=(rw0 rs j).2
  ·have e:jbR rs i j p=some (wo (rs.set p (f,(rw0 rs p).2)) (if p=i then j else i)):=by unfold jbR;rw[hjn];exact if_pos hd
   have hsb:=(z7 hall e).1;rw[hd];simp_arith[BEq.rfl];refine hM _ _ (seq λM hM=>?_);simp_arith[iV,zU,ag,aT,bp];refine bu (j0 hpl) ?_;simp_arith[az];have em:(rs.take p).map az++[D.tup [.str f,.str (rw0 rs p).2]]++(rs.drop (p+1)).map az=(rs.set p (f,(rw0 rs p).2)).map az:=by rw[<-aef hpl,ca,ca];rfl
   refine ⟨by decide,by decide,by have hsz:sz=1000000:=rfl;omega,by rw[ar,ag,aT,fe];have hsz:sz=1000000:=rfl;omega,by decide,hM _ _ (last ?_)⟩;have hsl:(rs.set p (f,(rw0 rs p).2)).length=rs.length:=ci;have e0:D.tup [.int w,.tup ((rs.set p (f,(rw0 rs p).2)).map az)]=ao w (rs.set p (f,(rw0 rs p).2)):=rfl;rw[em,e0];have hset:okB w (rs.set p (f,(rw0 rs p).2)):=Pu hb hpl hf;by_cases hpi:p=i
   ·subst hpi;rw[if_pos rfl]at e;simp_arith[BEq.rfl,h2];refine uP hset (by omega) ⟨rfl,?_⟩;rw[e];rfl
   ·have hne:((p:Int)==(i:Int))=false:=by simpa using (λh=>hpi (by omega))
    rw[if_neg hpi]at e;simp_arith[hne,h2];refine uP hset (by omega) ⟨rfl,?_⟩;rw[e];rfl
  ·have e:jbR rs i j p=none:=by unfold jbR;rw[hjn];exact if_neg hd
   have hne:((rw0 rs i).2==(rw0 rs j).2)=false:=by simpa using hd
   simp_arith[hne,e,cB]
theorem z8{step:D->List D->ak->DH->(List D->ak->DH->Prop)->Prop}{g:Hld}{k:List D->ak->DH->Prop}:∀{items:List D}{acc:List D}{ρ:ak}{G:DH}(P:Nat->List D->ak->DH->Prop)(_:P 0 acc ρ G)(_:∀i a ρ G,P i a ρ G->held g G)
  (_:∀i d a ρ G,items[i]?=some d->P i a ρ G->∀kk:List D->ak->DH->Prop,(∀a' ρ' G',P (i+1) a' ρ' G'->kk a' ρ' G')->step d a ρ G kk) (_:∀a ρ G,P items.length a ρ G->k a ρ G),dg step g items acc ρ G k
 |[],acc,ρ,G,P,h0,hh,_,he=>⟨hh _ _ _ _ h0,he _ _ _ h0⟩
 |d::ds,acc,ρ,G,P,h0,hh,hs,he=>⟨hh _ _ _ _ h0,hs 0 d acc ρ G rfl h0 _ λa' ρ' G' p=>z8 (λi=>P (i+1)) p (λi=>hh (i+1)) (λi d a ρ G e=>hs (i+1) d a ρ G (by rw[gv];exact e)) he⟩
def j4(i j:Nat):List (Nat×Nat×Nat):=[(i,j,i),(i,j,j)]
def g8(n i:Nat):List (Nat×Nat×Nat):=(List.range (n - (i+1))).flatMap λj=>j4 i (i+1+j)
def dO(n:Nat):List (Nat×Nat×Nat):=(List.range n).flatMap (g8 n)
def dT3(t:Nat×Nat×Nat):D:=.tup [.int (t.1:Nat),.int (t.2.1:Nat),.int (t.2.2:Nat)]
theorem z9{α:Type}(f:Nat->List α)(i:Nat):(List.range (i+1)).flatMap f=(List.range i).flatMap f++f i:=by rw[List.range_succ,List.flatMap_append,List.flatMap_cons,List.flatMap_nil,fN]
theorem nO{α:Type}(f:Nat->List α)(m:Nat):∀i:Nat,(∀j,j < i->(f j).length<=m)->((List.range i).flatMap f).length<=i * m
 |0,_=>Nat.le_of_eq (by simp)
 |i+1,h=>by
  rw[z9,ar,Nat.succ_mul];exact Nat.add_le_add (nO f m i λj hj=>h j (by omega)) (h i (by omega))
theorem Px{n i:Nat}(hn:n<=12):(g8 n i).length<=24:=b6 (nO _ 2 _ λ_ _=>aw _) (by omega)
theorem Aa{n:Nat}(hn:n<=12):(dO n).length<=288:=b6 (nO _ 24 _ λ_ _=>Px hn) (by omega)
theorem Ab{n i j a:Nat}(h:(i,j,a)∈dO n):i < j/\j < n/\(a=i\/a=j):=by unfold dO at h;obtain ⟨x,hx,h⟩:=gt.mp h;unfold g8 at h;obtain ⟨y,hy,h⟩:=gt.mp h;rw[gd]at hx hy;simp only[j4,bS,gs,or_false,Prod.mk.injEq]at h;omega
theorem aeh{Φ:aa}{n:Nat}{b:D}{o2 o3:Option D}{G:DH}{k:D->DH->Prop}(hn:n<=12)(hk:k (.lst ((dO n).map dT3)) G):
  wpE Φ (.cm3 (.tup (.cons (.var 0) (.cons (.var 1) (.cons (.var 2) .nil)))) (.nm 0) (.rng (.var 1)) (.nm 1) (.rng2 (.bin .Add true (.var 0) (.cst (.int 1))) (.var 3)) (.nm 2) (.seq (.tup (.cons (.var 0) (.cons (.var 1) .nil)))) ["one","other","at","many"] [none,none,none,some 1]) noE [some b,some (.int (n:Int)),o2,o3] G k:=by
 rw[xm];simp_arith[ends];refine ⟨by omega,z8 (P:=λi acc ρ G'=>(∃o0 o1 o2,ρ=[o0,o1,o2,some (.int (n:Int))])/\G'=G/\i<=n/\acc=((List.range i).flatMap (g8 n)).map dT3) ⟨⟨_,_,_,rfl⟩,rfl,d3 _,rfl⟩ (λ_ _ _ _ _=>trivial) ?_ ?_⟩
 ·rintro i d acc ρ G' hd ⟨⟨o0,o1,o2,rfl⟩,rfl,hin,rfl⟩ kk hkk;have hi:i < n:=by
   have:=(ah.mp hd).1;simpa [aN] using this
  have hdi:d=.int (i:Int):=by unfold aN at hd;rw[ay,eI (by simpa using hi)]at hd;simpa using hd.symm
  subst hdi;simp_arith[ends];refine ⟨by omega,z8 (P:=λj acc ρ G''=>(∃o1 o2,ρ=[some (.int (i:Int)),o1,o2,some (.int (n:Int))])/\G''=G'/\j<=n - (i+1)/\acc=(((List.range i).flatMap (g8 n))++(List.range j).flatMap λj=>j4 i (i+1+j)).map dT3) ⟨⟨_,_,rfl⟩,rfl,d3 _,by simp⟩ (λ_ _ _ _ _=>trivial) ?_ ?_⟩
  ·rintro j d acc ρ G'' hd ⟨⟨o1,o2,rfl⟩,rfl,hjn,rfl⟩ kk2 hkk2;have hj:j < n - (i+1):=by
    have:=(ah.mp hd).1;unfold aN at this;rw[ag,List.length_range]at this;omega
   have hdj:d=.int ((i+1+j:Nat):Int):=by unfold aN at hd;rw[ay,eI (by omega)]at hd;rw[<-dy hd];congr 1
   subst hdj;have l1:=nO (g8 n) 24 i λ_ _=>Px hn;have l2:=nO (λj=>j4 i (i+1+j)) 2 j λ_ _=>aw _;have hl:((((List.range i).flatMap (g8 n))++(List.range j).flatMap λj=>j4 i (i+1+j)).map dT3).length<=400:=by rw[ag,ar];omega
   simp_arith[ends];refine ⟨by decide,trivial,by have hsz:sz=1000000:=rfl;omega,by decide,trivial,?_⟩;refine ⟨by rw[ar,fe];have hsz:sz=1000000:=rfl;omega,?_⟩;simp_arith[ends];refine ⟨by decide,trivial,hkk2 _ _ _ ⟨⟨_,_,rfl⟩,rfl,by omega,?_⟩⟩;rw[z9,<-cr,ca (l₁:=_++_),cr];rfl
  ·rintro acc ρ G'' ⟨⟨o1,o2,rfl⟩,rfl,_,rfl⟩;refine hkk _ _ _ ⟨⟨_,_,_,rfl⟩,rfl,hi,?_⟩;have el:(aN ((i:Int)+1) ((n:Int) - ((i:Int)+1)).toNat).length=n - (i+1):=by unfold aN;rw[ag,List.length_range];omega
   rw[el,z9];rfl
 ·rintro acc ρ G' ⟨_,rfl,_,rfl⟩;have el:(aN 0 (n:Int).toNat).length=n:=by simp[aN]
  rw[el];have:=Aa hn;exact ⟨by rw[ag];unfold dO at this;have hsz:sz=1000000:=rfl;omega,hk⟩
noncomputable def dw(rs:List Row)(t:Nat×Nat×Nat):Option ((Nat×Nat×Nat)×List Row):=(jbR rs t.1 t.2.1 t.2.2).map λss=>(t,ss)
def cnd(rs:List Row):List ((Nat×Nat×Nat)×List Row):=(dO rs.length).filterMap (dw rs)
noncomputable def dC(w:Nat)(c:(Nat×Nat×Nat)×List Row):D:=.tup [.int (c.1.1:Nat),.int (c.1.2.1:Nat),.int (c.1.2.2:Nat),ao w c.2]
noncomputable def mk3(w:Nat)(rs:List Row)(t:Nat×Nat×Nat):D:=.tup [.int (t.1:Nat),.int (t.2.1:Nat),.int (t.2.2:Nat),cB w (jbR rs t.1 t.2.1 t.2.2)]
theorem uW{w:Nat}{rs:List Row}(hb:okB w rs){c:(Nat×Nat×Nat)×List Row}(h:c∈cnd rs):okB w c.2/\c.2.length+1=rs.length:=by obtain ⟨t,ht,e⟩:=fb.mp h;unfold dw at e;obtain ⟨ss,hs,rfl⟩:=ax.mp e;obtain ⟨h1,h2,h3⟩:=Ab (i:=t.1) (j:=t.2.1) (a:=t.2.2) ht;exact z7 (a:=⟨w,rs,t.1,t.2.1,t.2.2⟩) ⟨hb,h1,h2,h3⟩ hs
theorem Py{rs:List Row}(h:rs.length<=12):(cnd rs).length<=288:=b6 (List.length_filterMap_le _ _) (Aa h)
def nP:RF.Spec:=bK (λa:Nat×List Row=>[ao a.1 a.2]) (λa=>okB a.1 a.2) (λa=>.lst ((cnd a.2).map (dC a.1)))
theorem Pz{w:Nat}{rs:List Row}{G:DH}{k:D->DH->Prop}{E:EK}(h:okB w rs)(hk:k (.lst ((cnd rs).map (dC w))) G):nP.t [ao w rs] G k E:=bQ (w,rs) rfl h hk
theorem PK{w i j a:Nat}{rs:List Row}{G:DH}{k:D->DH->Prop}{E:EK}(h:jZ ⟨w,rs,i,j,a⟩)(hk:k (cB w (jbR rs i j a)) G):sJB.t [ao w rs,.int (i:Int),.int (j:Int),.int (a:Int)] G k E:=bQ (⟨w,rs,i,j,a⟩:JB) rfl h hk
theorem aei (Φ:aa) (h1:Φ "joined_book"=sJB) (a:Nat×List Row) (G:DH) (h:okB a.1 a.2):au Φ mL noE (env0 [ao a.1 a.2] 3) G (ends λd G'=>G'=G/\d=.lst ((cnd a.2).map (dC a.1))):=by
 obtain ⟨w,rs⟩:=a;have hb:okB w rs:=h;dsimp only;have hlen:=hb.len;have htl:=Aa hlen;have e0:ao w rs=.tup [.int w,.tup (rs.map az)]:=rfl;simp_all_arith[mL];refine seq λM hM=>?_;conv=>enter [4,1,1];rw[e0]
 simp_arith[ag];refine hM _ _ (seq λM hM=>?_);rw[gQ];refine aeh hlen ?_;simp_arith[ends];refine hM _ _ (seq λM hM=>?_);simp_arith[ends];refine CompG.inv (P:=λi acc ρ G'=>(∃o0 o1 o2,ρ=[o0,o1,o2,some (ao w rs)])/\G'=G/\acc=((dO rs.length).take i).map (mk3 w rs)) ⟨⟨_,_,_,rfl⟩,rfl,rfl⟩ (λ_ _ _ _ _=>trivial) (by rw[ag];have hsz:sz=1000000:=rfl;omega) ?_ ?_
 ·rintro i d acc ρ G' hd ⟨⟨o0,o1,o2,rfl⟩,rfl,rfl⟩ kk hk;rw[ay]at hd;obtain ⟨⟨x,y,z⟩,ht,rfl⟩:=ax.mp hd;obtain ⟨m1,m2,m3⟩:=Ab (bv ht);simp_arith[dT3,h1];refine PK ⟨hb,m1,m2,m3⟩ ⟨by decide,hk _ _ _ ⟨⟨_,_,_,rfl⟩,rfl,?_⟩⟩;rw[d6,ht,ca];rfl
 ·rintro acc ρ G' ⟨_,rfl,rfl⟩;rw[ag,eM];refine hM _ _ (last ?_);simp_arith[ends];refine CompG.inv (P:=λi acc ρ G''=>(∃o0,ρ=[o0])/\G''=G'/\acc=(((dO rs.length).take i).filterMap (dw rs)).map (dC w)) ⟨⟨_,rfl⟩,rfl,rfl⟩ (λ_ _ _ _ _=>trivial) (by rw[ag];have hsz:sz=1000000:=rfl;omega) ?_ ?_
  ·rintro i d acc ρ G'' hd ⟨⟨o0,rfl⟩,rfl,rfl⟩ kk hk;rw[ay]at hd;obtain ⟨⟨x,y,z⟩,ht,rfl⟩:=ax.mp hd;have et:((dO rs.length).take (i+1)).filterMap (dw rs)=((dO rs.length).take i).filterMap (dw rs)++(dw rs (x,y,z)).toList:=by
    rw[d6,ht,List.filterMap_append];cases hc:dw rs (x,y,z) with
    |none=>rw[Option.toList_some,List.filterMap_cons_none hc];rfl
    |some c=>rw[Option.toList_some,List.filterMap_cons_some hc];rfl
   cases hj:jbR rs x y z with
   |none=>
    have hc:dw rs (x,y,z)=none:=by unfold dw;rw[hj];rfl
    simp_arith[mk3,hj,cB,eZ];refine hk none _ _ ⟨⟨_,rfl⟩,rfl,?_⟩;rw[et,hc,ca];rfl
   |some ss=>
    have hc:dw rs (x,y,z)=some ((x,y,z),ss):=by unfold dw;rw[hj];rfl
    simp_arith[mk3,hj,cB,ao,eZ];refine hk (some _) _ _ ⟨⟨_,rfl⟩,rfl,?_⟩;rw[et,hc,ca];rfl
  ·rintro acc ρ G'' ⟨_,rfl,rfl⟩;rw[ag,eM];exact ⟨rfl,rfl⟩
theorem eX(w:Nat)(rs:List Row):nr (ao w rs)=true:=by unfold ao;simp only[nr,nrs,zP,fI]
def jns(w:Nat)(rs:List Row):List ((Nat×Nat×Nat)×List Row):=(cnd rs).filter λc=>(aH w rs c.2).isEmpty
def aej:RF.Spec:=bK (λa:Nat×List Row=>[ao a.1 a.2]) (λa=>okB a.1 a.2) (λa=>.lst ((jns a.1 a.2).map λc=>dT3 c.1))
def j5:RF.Spec:=aej
theorem Ac{α:Type}(l:List α):l.isEmpty=l.head?.isNone:=by cases l <;> rfl
theorem aek (Φ:aa) (h1:Φ "need_book"=gw) (h2:Φ "candidates"=nP) (h3:Φ "parting_word"=jX) (a:Nat×List Row) (G:DH) (h:okB a.1 a.2):au Φ mQ noE (env0 [ao a.1 a.2] 0) G (ends λd G'=>G'=G/\d=.lst ((jns a.1 a.2).map λc=>dT3 c.1)):=by
 obtain ⟨w,rs⟩:=a;have hb:okB w rs:=h;dsimp only;have hcl:=Py hb.len;simp_all_arith[mQ];refine seq λM hM=>?_;simp_arith[h1];refine iU hb (hM _ _ (last ?_));simp_arith[h2];refine Pz hb ?_;simp_arith[ends];refine CompG.inv (P:=λi acc ρ G'=>(∃o0 o1 o2 o3,ρ=[o0,o1,o2,o3,some (ao w rs)])/\G'=G/\acc=(((cnd rs).take i).filter λc=>(aH w rs c.2).isEmpty).map λc=>dT3 c.1) ⟨⟨_,_,_,_,rfl⟩,rfl,rfl⟩ (λ_ _ _ _ _=>trivial) (by rw[ag];have hsz:sz=1000000:=rfl;omega) ?_ ?_
 ·rintro i d acc ρ G' hd ⟨⟨o0,o1,o2,o3,rfl⟩,rfl,rfl⟩ kk hk;rw[ay]at hd;obtain ⟨⟨⟨x,y,z⟩,ss⟩,ht,rfl⟩:=ax.mp hd;have hs:=(uW hb (bv ht)).1;have et:=take_succ_filter (λc:(Nat×Nat×Nat)×List Row=>(aH w rs c.2).isEmpty) (cnd rs) i _ ht;simp_arith[dC,h3];refine zZ hb hs ?_;dsimp only at et;rw[Ac]at et;cases hh:(aH w rs ss).head? with
  |none=>
   rw[hh]at et;simp_arith[bG];refine ⟨by decide,hk (some _) _ _ ⟨⟨_,_,_,_,rfl⟩,rfl,?_⟩⟩;rw[et,ca];rfl
  |some m=>
   rw[hh]at et;simp_arith[bG];refine hk none _ _ ⟨⟨_,_,_,_,rfl⟩,rfl,?_⟩;rw[et,ca];rfl
 ·rintro acc ρ G' ⟨_,rfl,rfl⟩;rw[ag,eM];exact ⟨rfl,rfl⟩
def fjO(w:Nat)(rs:List Row):Option (List Row):=((cnd rs).find? λc=>(aH w rs c.2).isEmpty).map (·.2)
def sFJ:RF.Spec:=bK (λa:Nat×List Row=>[ao a.1 a.2]) (λa=>okB a.1 a.2) (λa=>cB a.1 (fjO a.1 a.2))
theorem PL{w:Nat}{rs:List Row}{G:DH}{k:D->DH->Prop}{E:EK}(h:okB w rs)(hk:k (cB w (fjO w rs)) G):sFJ.t [ao w rs] G k E:=bQ (w,rs) rfl h hk
theorem uX{w:Nat}{rs ss:List Row}(hb:okB w rs)(h:fjO w rs=some ss):okB w ss/\ss.length+1=rs.length/\aH w rs ss=[]:=by unfold fjO at h;obtain ⟨c,hc,rfl⟩:=ax.mp h;obtain ⟨h1,h2⟩:=uW hb (List.mem_of_find?_eq_some hc);exact ⟨h1,h2,ek.mp (List.find?_some (p:=λc:(Nat×Nat×Nat)×List Row=>(aH w rs c.2).isEmpty) hc)⟩
theorem ael (Φ:aa) (h2:Φ "candidates"=nP) (h3:Φ "parting_word"=jX) (a:Nat×List Row) (G:DH) (h:okB a.1 a.2):au Φ mU noE (env0 [ao a.1 a.2] 4) G (ends λd G'=>G'=G/\d=cB a.1 (fjO a.1 a.2)):=by
 obtain ⟨w,rs⟩:=a;have hb:okB w rs:=h;dsimp only;simp_all_arith[mU];refine seq λM hM=>?_;simp_arith![h2];refine Pz hb ?_;simp_arith![ends];refine ForG.inv (P:=λi ρ G'=>(∃o1 o2 o3 o4,ρ=[some (ao w rs),o1,o2,o3,o4])/\G'=G/\fjO w rs=(((cnd rs).drop i).find? λc=>(aH w rs c.2).isEmpty).map (·.2)) ⟨⟨_,_,_,_,rfl⟩,rfl,rfl⟩ (λ_ _ _ _=>trivial) ?_ ?_
 ·rintro i d ρ G' hd ⟨⟨o1,o2,o3,o4,rfl⟩,rfl,hf⟩ kk hk;rw[ay]at hd;obtain ⟨⟨⟨x,y,z⟩,ss⟩,ht,rfl⟩:=ax.mp hd;have hs:=(uW hb (bv ht)).1;have hlt:=(ah.mp ht).1;have hdr:(cnd rs).drop i=((x,y,z),ss)::(cnd rs).drop (i+1):=by
   rw[bb hlt,(ah.mp ht).2]
  rw[hdr]at hf;simp_arith![dC];refine last ?_;simp_arith[h3];refine zZ hb hs ?_;cases hh:(aH w rs ss).head? with
  |none=>
   rw[List.find?_cons_of_pos (by rw[Ac,hh];rfl)]at hf;simp_arith[bG,hf];rfl
  |some m=>
   rw[List.find?_cons_of_neg (by rw[Ac,hh];exact a9)]at hf;simp_arith[bG];exact hk _ _ ⟨⟨_,_,_,_,rfl⟩,rfl,hf⟩
 ·rintro ρ G' ⟨⟨o1,o2,o3,o4,rfl⟩,rfl,hf⟩;rw[ag,eP]at hf;refine hM _ _ (last ?_);simp_arith[hf];rfl
noncomputable def ajR(w:Nat):Nat->List Row->List Row
 |0,rs=>rs
 |n+1,rs=>match fjO w rs with |none=>rs |some ss=>ajR w n ss
theorem Ad{w:Nat}{rs:List Row}(h:fjO w rs=none)(n:Nat):ajR w n rs=rs:=by
 cases n with
 |zero=>rfl
 |succ n=>rw[ajR,h]
theorem uY{w n:Nat}{rs ss:List Row}(h:fjO w rs=some ss):ajR w (n+1) rs=ajR w n ss:=by rw[ajR,h]
theorem nQ{w:Nat}:∀(n:Nat){rs:List Row},okB w rs->okB w (ajR w n rs)/\(ajR w n rs=rs\/(ajR w n rs).length < rs.length)
 |0,rs,hb=>⟨hb,.inl rfl⟩
 |n+1,rs,hb=>by
  cases hf:fjO w rs with
  |none=>rw[Ad hf];exact ⟨hb,.inl rfl⟩
  |some ss=>
   rw[uY hf];obtain ⟨h1,h2,_⟩:=uX hb hf;obtain ⟨q1,q2⟩:=nQ n h1;refine ⟨q1,.inr ?_⟩;rcases q2 with e |e
   ·rw[e];omega
   ·omega
def sAJ:RF.Spec:=bK (λa:Nat×List Row=>[ao a.1 a.2]) (λa=>okB a.1 a.2) (λa=>ao a.1 (ajR a.1 a.2.length a.2))
theorem PN{w:Nat}{rs:List Row}{G:DH}{k:D->DH->Prop}{E:EK}(h:okB w rs)(hk:k (ao w (ajR w rs.length rs)) G):sAJ.t [ao w rs] G k E:=bQ (w,rs) rfl h hk
theorem aem (Φ:aa) (h1:Φ "first_joined"=sFJ) (a:Nat×List Row) (G:DH) (h:okB a.1 a.2):au Φ mV noE (env0 [ao a.1 a.2] 2) G (ends λd G'=>G'=G/\d=ao a.1 (ajR a.1 a.2.length a.2)):=by
 obtain ⟨w,rs⟩:=a;have hb:okB w rs:=h;dsimp only;simp_all_arith[mV];refine seq λM hM=>?_;simp_arith[ends];refine hM _ _ (seq λM hM=>?_);simp_arith[h1];refine PL hb (hM _ _ (seq λM hM=>?_));simp_arith![ends];refine ⟨rs.length+1,WhlG.inv (P:=λn ρ G'=>∃cur,ρ=[some (ao w rs),some (ao w cur),some (cB w (fjO w cur))]/\G'=G/\okB w cur/\cur.length=n/\ajR w cur.length cur=ajR w rs.length rs) ?_ rs.length _ _ ⟨rs,rfl,rfl,hb,rfl,rfl⟩⟩;rintro n ρ G' ⟨cur,rfl,rfl,hc,rfl,he⟩;cases hf:fjO w cur with
 |none=>
  rw[Ad hf]at he;simp_arith[cB,eZ];refine hM _ _ (last ?_);simp_arith[he]
 |some ss=>
  obtain ⟨q1,q2,_⟩:=uX hc hf;rw[<-q2,uY hf]at he;simp_arith![cB,ao,eZ];intro kk hk;refine seq λM hM=>?_;simp_arith[ends];refine hM _ _ (last ?_);simp_arith[h1];exact PL q1 (hk ss.length _ _ (by omega) ⟨ss,rfl,rfl,q1,rfl,he⟩)
def prS(w:Nat)(rs:List Row):List Row:=lnR w (ajR w rs.length rs).length (ajR w rs.length rs)
theorem Ae{w:Nat}:∀(k:Nat){rs:List Row},k<=rs.length->lnR w k rs=rs\/(lnR w k rs).length < rs.length:=by
 intro k;induction k with
 |zero=>exact λ{_} _=>.inl rfl
 |succ k ih=>
  intro rs hk;rw[lnR];by_cases h:(aH w rs (wo rs k)).isEmpty=true
  ·have hl:=jW (show k < rs.length by omega);have e:lnS w rs k=wo rs k:=if_pos h;rw[e];rcases ih (rs:=wo rs k) (by omega) with q |q
   ·rw[q];exact .inr (by omega)
   ·exact .inr (by omega)
  ·have e:lnS w rs k=rs:=if_neg h;rw[e];exact ih (by omega)
theorem Af{w:Nat}{rs:List Row}(hb:okB w rs):okB w (prS w rs)/\(prS w rs=rs\/(prS w rs).length < rs.length):=by
 obtain ⟨h1,h2⟩:=nQ rs.length hb;refine ⟨Pa _ h1 (aw _),?_⟩;unfold prS;rcases h2 with e |e
 ·rw[e];exact Ae _ (aw _)
 ·rcases Ae (w:=w) (ajR w rs.length rs).length (aw (ajR w rs.length rs).length) with q |q
  ·rw[q];exact .inr e
  ·exact .inr (by omega)
def bkE(w:Nat)(rs ss:List Row):Bool:=deq (ao w rs) (ao w ss)
noncomputable def prR(w:Nat):Nat->List Row->List Row
 |0,rs=>prS w rs
 |n+1,rs=>if bkE w (prS w rs) rs=true then prS w rs else prR w n (prS w rs)
def aen:RF.Spec:=bK (λa:Nat×List Row=>[ao a.1 a.2]) (λa=>okB a.1 a.2) (λa=>ao a.1 (prR a.1 (a.2.length+1) a.2))
def nR:RF.Spec:=aen
theorem Ag{w:Nat}{rs ss:List Row}:nr (ao w rs)=true/\nr (ao w ss)=true/\min (dpt (ao w rs)) (dpt (ao w ss))<=60:=by
 have h:∀l:List Row,aW (l.map az)<=1:=λl=>yu λd hd=>by obtain ⟨_,_,rfl⟩:=ce.mp hd;exact aw _
 refine ⟨eX w rs,eX w ss,b6 (Nat.min_le_left _ _) ?_⟩;have:=h rs;unfold ao;simp only[dpt,aW];omega
theorem aeo (Φ:aa) (h1:Φ "need_book"=gw) (h2:Φ "all_joined"=sAJ) (h3:Φ "lean"=uQ) (a:Nat×List Row) (G:DH) (h:okB a.1 a.2):au Φ mX noE (env0 [ao a.1 a.2] 2) G (ends λd G'=>G'=G/\d=ao a.1 (prR a.1 (a.2.length+1) a.2)):=by
 obtain ⟨w,rs⟩:=a;have hb:okB w rs:=h;dsimp only;simp_all_arith[mX];refine seq λM hM=>?_;simp_arith[h1];refine iU hb (hM _ _ (seq λM hM=>?_));simp_arith[ends];refine hM _ _ (seq λM hM=>?_);simp_arith[h2,h3];refine PN hb (Pb (nQ _ hb).1 (hM _ _ (seq λM hM=>?_)));rw[yx];refine ⟨rs.length+1,WhlG.inv (P:=λn ρ G'=>∃cur f,ρ=[some (ao w rs),some (ao w cur),some (ao w (prS w cur))]/\G'=G/\okB w cur/\cur.length=n/\cur.length < f/\prR w f cur=prR w (rs.length+1) rs) ?_ rs.length _ _ ⟨rs,rs.length+1,rfl,rfl,hb,rfl,fw _,rfl⟩⟩;rintro n ρ G' ⟨cur,f,rfl,rfl,hc,rfl,hf,he⟩;obtain ⟨f,rfl⟩:∃f',f=f'+1:=⟨f - 1,by omega⟩;obtain ⟨q1,q2⟩:=Af hc;rw[prR]at he;simp_arith![uy (eX _ _)];refine ⟨Ag,?_⟩;cases hd:deq (ao w (prS w cur)) (ao w cur) with
 |true=>
  rw[if_pos (show bkE w (prS w cur) cur=true from hd)]at he;refine hM _ _ (last ?_);simp_arith[he]
 |false=>
  rw[if_neg (by unfold bkE;rw[hd];exact a9)]at he;have hlt:(prS w cur).length < cur.length:=by
   rcases q2 with e |e
   ·rw[e,gb (eX _ _)]at hd;cases hd
   ·exact e
  intro kk hk;refine seq λM hM=>?_;simp_arith[ends];refine hM _ _ (last ?_);simp_arith[h2,h3];exact PN q1 (Pb (nQ _ q1).1 (hk (prS w cur).length _ _ hlt ⟨prS w cur,f,rfl,rfl,q1,rfl,by omega,he⟩))
theorem PP:∀{rs ss:List Row},bL (rs.map az) (ss.map az)=true->rs=ss
 |[],[],_=>rfl
 |[],_::_,h=>by cases h
 |_::_,[],h=>by cases h
 | (f,d)::rs,(g,e)::ss,h=>by
  simp only[br,bL,az,deq,ae,fI,aI]at h;obtain ⟨⟨h1,h2⟩,h3⟩:=h;rw[h1,h2,PP h3]
theorem aep{w:Nat}{rs ss:List Row}(h:bkE w rs ss=true):rs=ss:=by unfold bkE ao at h;simp only[deq,bL,ae,fI]at h;exact PP h.2
theorem PQ(w:Nat)(rs:List Row):bkE w rs rs=true:=gb (eX _ _)
theorem P0{w:Nat}:∀(n:Nat){rs:List Row},okB w rs->aH w rs (ajR w n rs)=[]
 |0,rs,_=>nH rs
 |n+1,rs,hb=>by
  cases hf:fjO w rs with
  |none=>rw[Ad hf];exact nH rs
  |some ss=>
   rw[uY hf];obtain ⟨h1,_,h3⟩:=uX hb hf;exact uT h3 (P0 n h1)
theorem aeq{w:Nat}{rs:List Row}(hb:okB w rs):aH w rs (prS w rs)=[]:=uT (P0 _ hb) (Pg _ _)
structure Prd(w:Nat)(rs p:List Row):Prop where
 ok:okB w p
 len:p.length<=rs.length
 alike:aH w rs p=[]
 fix:prS w p=p
theorem prd{w:Nat}:∀(f:Nat){rs:List Row},okB w rs->rs.length < f->Prd w rs (prR w f rs)
 |0,rs,_,h=>absurd h (Nat.not_lt_zero _)
 |f+1,rs,hb,h=>by
  rw[prR];by_cases hd:bkE w (prS w rs) rs=true
  ·rw[if_pos hd];have e:=aep hd;rw[e];exact ⟨hb,aw _,nH _,e⟩
  ·rw[if_neg hd];have hl:(prS w rs).length < rs.length:=by
    rcases (Af hb).2 with e |e
    ·rw[e,PQ]at hd;exact absurd rfl hd
    ·exact e
   have ih:=prd f (Af hb).1 (by omega);exact ⟨ih.ok,by have:=ih.len;omega,uT (aeq hb) ih.alike,ih.fix⟩
theorem Prd.thin{w:Nat}{rs p:List Row}(h:Prd w rs p):nM w 0 p:=by have:=ad1 (w:=w) (ajR w p.length p);have e:lnR w (ajR w p.length p).length (ajR w p.length p)=p:=h.fix;rwa [e]at this
theorem Prd.none{w:Nat}{rs p:List Row}(h:Prd w rs p):fjO w p=none:=by
 cases hf:fjO w p with
 |none=>rfl
 |some ss=>
  obtain ⟨h1,h2,_⟩:=uX h.ok hf;have e:prS w p=p:=h.fix;have l1:(ajR w p.length p).length < p.length:=by
   rw[<-h2,uY hf];rcases (nQ ss.length h1).2 with q |q
   ·rw[q];omega
   ·omega
  have l2:(prS w p).length<=(ajR w p.length p).length:=by
   rcases Ae (w:=w) (ajR w p.length p).length (aw (ajR w p.length p).length) with q |q
   ·unfold prS;rw[q];exact aw _
   ·unfold prS;omega
  rw[e]at l2;omega
theorem Prd.jns{w:Nat}{rs p:List Row}(h:Prd w rs p):jns w p=[]:=by have hn:=h.none;unfold fjO at hn;have:=Option.map_eq_none_iff.mp hn;rw[List.find?_eq_none]at this;exact df.mpr this
theorem Prd.again{w:Nat}{rs p:List Row}(h:Prd w rs p):prR w (p.length+1) p=p:=by rw[prR,h.fix,if_pos (PQ w p)]
theorem Qa{w:Nat}{rs:List Row}{G:DH}{k:D->DH->Prop}{E:EK}(h:okB w rs)(hk:k (ao w (prR w (rs.length+1) rs)) G):nR.t [ao w rs] G k E:=bQ (w,rs) rfl h hk
theorem Ah{w:Nat}{rs:List Row}{G:DH}{k:D->DH->Prop}{E:EK}(h:okB w rs)(hk:k (.lst ((jns w rs).map λc=>dT3 c.1)) G):j5.t [ao w rs] G k E:=bQ (w,rs) rfl h hk
theorem Qc{w:Nat}{rs ss:List Row}{d:D}(h:aH w rs ss=[])(hq:uN w rs ss d):∃t,d=.tup [.str jV,t]:=by
 rcases hq with ⟨m,hm,_⟩ |⟨_,t,_,rfl,_⟩
 ·rw[h]at hm;cases hm
 ·exact ⟨t,rfl⟩
def Qd(a:JB):Prop:=jZ a/\∃ss,jbR a.rs a.i a.j a.a=some ss/\aH a.w a.rs ss=[]
def sJn:RF.Spec:=bK (λa:JB=>[ao a.w a.rs,.int (a.i:Nat),.int (a.j:Nat),.int (a.a:Nat)]) Qd (λa=>cB a.w (jbR a.rs a.i a.j a.a))
theorem Ai{w i j a:Nat}{rs ss:List Row}{G:DH}{k:D->DH->Prop}{E:EK}(h:jZ ⟨w,rs,i,j,a⟩)(e:jbR rs i j a=some ss)(hp:aH w rs ss=[])(hk:k (ao w ss) G):sJn.t [ao w rs,.int (i:Int),.int (j:Int),.int (a:Int)] G k E:=bQ (⟨w,rs,i,j,a⟩:JB) rfl ⟨h,ss,e,hp⟩ (by show k (cB w (jbR rs i j a)) G;rw[e];exact hk)
theorem aer (Φ:aa) (h1:Φ "need_row"=jT) (h2:Φ "is_place"=aK gC) (h3:Φ "joined_book"=sJB) (h4:Φ "parting_word"=jX) (a:JB) (G:DH) (h:Qd a):au Φ mY noE (env0 [ao a.w a.rs,.int (a.i:Nat),.int (a.j:Nat),.int (a.a:Nat)] 2) G (ends λd G'=>G'=G/\d=cB a.w (jbR a.rs a.i a.j a.a)):=by
 obtain ⟨w,rs,i,j,p⟩:=a;obtain ⟨hj,ss,e,hp⟩:=h;have hok:=(z7 hj e).1;obtain ⟨hb,hij,hjl,hpp⟩:=id hj;dsimp only at hb hij hjl hpp e hp hok ⊢;have e0:ao w rs=.tup [.int w,.tup (rs.map az)]:=rfl;have hin:isIn (.int (p:Int)) [.int (i:Int),.int (j:Int)]=true:=by simp only[isIn,List.any_cons,List.any_nil,deq,Bool.or_false,cq,aI];omega
 simp_all_arith[mY];refine seq λM hM=>?_;simp_arith[h1];refine uJ hb (by omega) (hM _ _ (seq λM hM=>?_));simp_arith[h1];refine uJ hb hjl (hM _ _ (seq λM hM=>?_));conv=>enter [4,1,1];rw[e0]
 simp_arith[h2,ag];refine Ol (show p < rs.length by omega) ?_;simp_arith[hin];refine ⟨by decide,⟨rfl,by decide⟩,hM _ _ (seq λM hM=>?_)⟩;rw[<-e0];simp_arith[b9 (show (i:Int) < (j:Int) by omega),h3];refine PK hj (hM _ _ (seq λM hM=>?_));rw[e];simp_arith[cB,ao,eZ];refine hM _ _ (seq λM hM=>?_);simp_arith[h4];refine zZ (rs:=rs) (ss:=ss) hb hok (hM _ _ (seq λM hM=>?_));rw[hp];simp_arith[List.head?_nil,bG,eZ];refine hM _ _ (last ?_);simp_arith[e];rfl
theorem aes(n:Nat):bools (List.replicate n (.bl true))=some (List.replicate n true):=by
 induction n with
 |zero=>rfl
 |succ n ih=>rw[cp,bools,ih];rfl
theorem aet(n:Nat):(List.replicate n true).all id=true:=by rw[ck];intro b hb;rw[List.eq_of_mem_replicate hb];rfl
structure F44(Φ:aa):Prop where
 book:Φ "is_book"=uD
 alk:Φ "alike"=jc
 jns:Φ "joins"=j5
 hid:Φ "hidden"=uL
 prs:Φ "press"=nR
 ndl:Φ "needless"=nA
def sPR:RF.Spec:=ghS (A:=Nat×List Row) (λa ds _=>ds=[ao a.1 a.2,ao a.1 (prR a.1 (a.2.length+1) a.2)]/\okB a.1 a.2) (λ_ G d G'=>d=.bl true/\Sa G G')
theorem aeu{w:Nat}{rs:List Row}{G:DH}{k:D->DH->Prop}{E:EK}(h:okB w rs)(hk:∀G',Sa G G'->k (.bl true) G'):sPR.t [ao w rs,ao w (prR w (rs.length+1) rs)] G k E:=fJ (w,rs) ⟨rfl,h⟩ λd G' hx=>by
 obtain ⟨rfl,s⟩:=hx;exact hk G' s
theorem aev(Φ:aa)(F:F44 Φ)(a:Nat×List Row)(ds:List D)(G:DH)(h:ds=[ao a.1 a.2,ao a.1 (prR a.1 (a.2.length+1) a.2)]/\okB a.1 a.2):au Φ yS noE (env0 ds 0) G (ends λd G'=>d=.bl true/\Sa G G'):=by
 obtain ⟨w,rs⟩:=a;obtain ⟨rfl,hb⟩:=h;dsimp only at hb ⊢;have hp:=prd (rs.length+1) hb (fw _);generalize prR w (rs.length+1) rs=p at hp ⊢;have hbp:=hp.ok;have hlen:=hp.len;have hl12:=hbp.len;have e0:∀xs:List Row,ao w xs=.tup [.int w,.tup (xs.map az)]:=λ_=>rfl;simp_all_arith[yS];refine seq λM hM=>?_;simp_arith[F.book];refine bQ (w,p) rfl hbp ?_;simp_arith[e0,ag,F.alk];rw[cm (show ¬((rs.length:Int) < (p.length:Int)) by omega)];dsimp only;rw[<-e0 rs,<-e0 p];refine uO hb hbp λd hq=>?_;obtain ⟨t,rfl⟩:=Qc hp.alike hq;simp_arith[jV,BEq.rfl];refine hM _ _ (seq λM hM=>?_);simp_arith[F.jns];refine Ah hbp ?_;rw[hp.jns];simp_arith[de,F.hid];refine ⟨by decide,adM hbp λq G2 hq gq sa=>?_⟩;rw[ad2 hbp hp.thin]at gq;simp_arith[gn gq,de,F.prs];refine ⟨by decide,Qa hbp ?_⟩;rw[hp.again];simp_arith[uy (eX _ _),gb (eX _ _)];have bc:=@Ag w p p;rw[Nat.min_self]at bc;refine ⟨bc,hM _ _ (last ?_)⟩;simp_arith[e0,ag];refine ⟨by omega,CompG.inv (P:=λi acc ρ G'=>(∃o0,ρ=[o0,some (ao w p)])/\G'=G2/\acc=List.replicate i (.bl true)) ⟨⟨_,rfl⟩,rfl,rfl⟩ (λ_ _ _ _ _=>trivial) (by simp[aN];have hsz:sz=1000000:=rfl;omega) ?_ ?_⟩
 ·rintro i d acc ρ G' hd ⟨⟨o0,rfl⟩,rfl,rfl⟩ kk hk;have hi:i < p.length:=by
   have:=(ah.mp hd).1;simpa [aN] using this
  have hdi:d=.int (i:Int):=by unfold aN at hd;rw[ay,eI (by simpa using hi)]at hd;simpa using hd.symm
  subst hdi;simp_arith[F.ndl];refine O8 hbp hi λd hq=>?_;rcases hq with ⟨m,_,rfl⟩ |⟨e,_⟩
  ·simp_arith[zV,BEq.rfl];exact hk _ _ _ ⟨⟨_,rfl⟩,rfl,List.replicate_succ'.symm⟩
  ·exact absurd e (hp.thin i (d3 _) hi)
 ·rintro acc ρ G' ⟨_,rfl,rfl⟩;refine bu (aes _) ?_;rw[aet];exact ⟨rfl,sa⟩
theorem Qe{a b:Nat}:∀{f:List Nat}{n:Nat},n < f.length->bA (f.set n a) (f.set n b)=bD a b
 |[],n,h=>absurd h (Nat.not_lt_zero _)
 |c::f,0,_=>by
  show (bD a b&&bA f f)=bD a b;rw[Ot,fI]
 |c::f,n+1,h=>by
  show (bD c c&&bA (f.set n a) (f.set n b))=bD a b;rw[Qe (Nat.lt_of_succ_lt_succ h),adB.mpr (.inr rfl),e8]
theorem Qf{f:List Nat}{n a b:Nat}(h:n < f.length):aU (f.set n a) (f.set n b)=bD a b:=by unfold aU;rw[Qe h,b9 (by rw[ci,ci]),e8]
theorem aew{α:Type}{l:List α}{n:Nat}{x:α}(h:l[n]?=some x):l.set n x=l:=by
 apply List.ext_getElem?;intro j;rw[fo];by_cases e:n=j
 ·subst e;rw[if_pos rfl,if_pos (ah.mp h).1,h]
 ·rw[if_neg e]
theorem Qg{f:List Nat}{n:Nat}(hn:n < f.length):∀m,unl (f.set n 48) (f.set n 49) m=if n < m then [n] else []
 |0=>rfl
 |m+1=>by
  rw[Pq,Qg hn m,fo,fo];by_cases e:n=m
  ·subst e;rw[if_pos rfl,if_pos rfl,if_pos hn,if_pos hn,if_neg (ey _),if_pos (fw _)];rfl
  ·rw[if_neg e,if_neg e];by_cases h:n < m
   ·rw[if_pos h,if_pos (show n < m+1 by omega)];simp
   ·rw[if_neg h,if_neg (show ¬n < m+1 by omega)];simp
theorem Qh{f:List Nat}{n:Nat}(h:f[n]?=some 42):cV (f.set n 48) (f.set n 49)=some f:=by have hn:=(ah.mp h).1;unfold cV;rw[Qf hn,Qf hn,if_neg (by decide),if_neg (by decide),ci,Qg hn,if_pos hn];show some ((f.set n 48).set n 42)=some f;rw[List.set_set,aew h]
noncomputable def spl(rs:List Row)(a n:Nat):List Row:=rs.take a++[((rw0 rs a).1.set n 48,(rw0 rs a).2),((rw0 rs a).1.set n 49,(rw0 rs a).2)]++rs.drop (a+1)
theorem aex{rs:List Row}{a n:Nat}(h:a < rs.length):∃A C,rs=A++rw0 rs a::C/\A.length=a/\spl rs a n=A++((rw0 rs a).1.set n 48,(rw0 rs a).2)::((rw0 rs a).1.set n 49,(rw0 rs a).2)::C:=by
 refine ⟨rs.take a,rs.drop (a+1),?_,by rw[aT];omega,?_⟩
 ·have e:=z6 h;have hg:=(ah.mp e).2;conv=>lhs;rw[<-fm a rs,bb h,hg]
 ·unfold spl;rw[cr];rfl
theorem Qi:∀{f l:List Nat}{n:Nat},f[n]?=some 42->f.length=l.length->(∀s∈l,s=48\/s=49)->bA f l=(bA (f.set n 48) l||bA (f.set n 49) l)
 |[],_,_,h,_,_=>by cases h
 |_::_,[],_,_,h,_=>by cases h
 |c::f,s::l,0,h,_,hl=>by
  have e:c=42:=dy h;subst e;show (bD 42 s&&bA f l)=((bD 48 s&&bA f l)||(bD 49 s&&bA f l));rcases hl s bg with rfl |rfl
  ·rw[show bD 42 48=true from rfl,show bD 48 48=true from rfl,show bD 49 48=false from rfl];cases bA f l <;> rfl
  ·rw[show bD 42 49=true from rfl,show bD 48 49=false from rfl,show bD 49 49=true from rfl];cases bA f l <;> rfl
 |c::f,s::l,n+1,h,hlen,hl=>by
  show (bD c s&&bA f l)=((bD c s&&bA (f.set n 48) l)||(bD c s&&bA (f.set n 49) l));rw[Qi (f:=f) (l:=l) (n:=n) (by simpa using h) (by simpa using hlen) λx hx=>hl x (ba _ hx),Bool.and_or_distrib_left]
theorem aey{f l:List Nat}{n:Nat}(h:f[n]?=some 42)(hl:∀s∈l,s=48\/s=49):aU f l=(aU (f.set n 48) l||aU (f.set n 49) l):=by
 unfold aU;rw[ci,ci];by_cases e:f.length=l.length
 ·rw[b9 e,e8,e8,e8];exact Qi h e hl
 ·rw[cm e];rfl
theorem aez{w n:Nat}{A C:List Row}{r:Row}(h:r.1[n]?=some 42):aH w (A++(r.1.set n 48,r.2)::(r.1.set n 49,r.2)::C) (A++r::C)=[]:=uR.mpr λl hl=>by
 rw[zW,zW,nF,nF,nF,aey h hl.2];congr 1;cases aU (r.1.set n 48) l <;> cases aU (r.1.set n 49) l <;> rfl
theorem aeA{n i j a:Nat}(h1:i < j)(h2:j < n)(h3:a=i\/a=j):(i,j,a)∈dO n:=by
 unfold dO;refine gt.mpr ⟨i,gd.mpr (by omega),?_⟩;unfold g8;refine gt.mpr ⟨j - (i+1),gd.mpr (by omega),?_⟩;have e:i+1+(j - (i+1))=j:=by omega
 rw[e];unfold j4;rcases h3 with rfl |rfl
 ·exact bg
 ·exact ba _ bg
theorem aeB{w a n:Nat}{rs:List Row}(hb:okB w rs)(h:a < rs.length)(h12:rs.length < 12)(hn:(rw0 rs a).1[n]?=some 42):
  okB w (spl rs a n)/\(spl rs a n).length=rs.length+1/\aH w (spl rs a n) rs=[]/\jbR (spl rs a n) a (a+1) (a+1)=some rs/\jbR (spl rs a n) a (a+1) a=some rs:=by
 obtain ⟨A,C,e1,e2,e3⟩:=aex (n:=n) h;generalize hr:rw0 rs a=r at e1 e3 hn;have hrm:r∈rs:=hr ▸ jd h;have hf:=hb.form r hrm;have hd:=hb.deed r hrm;have hlen:(spl rs a n).length=rs.length+1:=by rw[e3,e1];simp;omega
 have g0:rw0 (spl rs a n) a=(r.1.set n 48,r.2):=by rw[e3,<-e2];unfold rw0;rw[ee,fv (aw _),Nat.sub_self];rfl
 have g1:rw0 (spl rs a n) (a+1)=(r.1.set n 49,r.2):=by rw[e3,<-e2];unfold rw0;rw[ee,fv (dE _ 1),Nat.add_sub_cancel_left];rfl
 refine ⟨?_,hlen,?_,?_,?_⟩
 ·have hm:∀x∈spl rs a n,x∈rs\/x=(r.1.set n 48,r.2)\/x=(r.1.set n 49,r.2):=λx hx=>by
   rw[e3]at hx;rcases bn.mp hx with q |q
   ·exact .inl (by rw[e1];exact eW _ q)
   ·rcases bS.mp q with q |q
    ·exact .inr (.inl q)
    ·rcases bS.mp q with q |q
     ·exact .inr (.inr q)
     ·exact .inl (by rw[e1];exact aE _ (ba _ q))
  refine ⟨hb.w1,hb.w6,by omega,λx hx=>?_,λx hx=>?_⟩
  ·rcases hm x hx with q |rfl |rfl
   ·exact hb.form x q
   ·exact iY hf (.inl rfl)
   ·exact iY hf (.inr (.inl rfl))
  ·rcases hm x hx with q |rfl |rfl
   ·exact hb.deed x q
   ·exact hd
   ·exact hd
 ·rw[e3];conv=>enter [1,3];rw[e1]
  exact aez hn
 ·unfold jbR;rw[g0,g1];dsimp only;rw[Qh hn];dsimp only;rw[if_pos rfl,if_neg (by omega)];congr 1;rw[e3];conv=>rhs;rw[e1]
  have es:(A++(r.1.set n 48,r.2)::(r.1.set n 49,r.2)::C).set (a+1) (r.1,r.2)=A++(r.1.set n 48,r.2)::r::C:=by rw[<-e2,List.set_append_right _ _ (dE _ 1),Nat.add_sub_cancel_left];rfl
  rw[es,<-e2];exact nJ A (r::C) _
 ·unfold jbR;rw[g0,g1];dsimp only;rw[Qh hn];dsimp only;rw[if_pos rfl,if_pos rfl];congr 1;rw[e3];conv=>rhs;rw[e1]
  have es:(A++(r.1.set n 48,r.2)::(r.1.set n 49,r.2)::C).set a (r.1,r.2)=(A++[r])++(r.1.set n 49,r.2)::C:=by rw[<-e2,List.set_append_right _ _ (aw _),Nat.sub_self,cr];rfl
  have el:a+1=(A++[r]).length:=by rw[ar,fe,e2]
  rw[es,el,nJ,cr];rfl
structure FS44(Φ:aa):Prop where
 take:Φ "_law_take"=cY
 jns:Φ "joins"=j5
 jn:Φ "join"=sJn
def Qj(a:Addr×Nat×List Row)(ds:List D)(G:DH):Prop:=ds=[.ref a.1,ao a.2.1 a.2.2]/\Pen G a.1/\okB a.2.1 a.2.2/\0 < a.2.2.length/\a.2.2.length < 12
def uZ:RF.Spec:=ghS (A:=Addr×Nat×List Row) Qj (λa G d G'=>d=.bl true/\Pen G' a.1/\Sb a.1 G G')
theorem aeC{p:Addr}{w:Nat}{rs:List Row}{G:DH}{k:D->DH->Prop}{E:EK}(hp:Pen G p)(hb:okB w rs)(h0:0 < rs.length)(h12:rs.length < 12)(hk:∀G',Pen G' p->Sb p G G'->k (.bl true) G'):uZ.t [.ref p,ao w rs] G k E:=fJ (p,w,rs) ⟨rfl,hp,hb,h0,h12⟩ λd G' hx=>by
 obtain ⟨rfl,h1,h2⟩:=hx;exact hk G' h1 h2
theorem aeD(Φ:aa)(F:FS44 Φ)(a:Addr×Nat×List Row)(ds:List D)(G:DH)(h:Qj a ds G):au Φ yU noE (env0 ds 8) G (ends λd G'=>d=.bl true/\Pen G' a.1/\Sb a.1 G G'):=by
 obtain ⟨p,w,rs⟩:=a;obtain ⟨rfl,hp,hb,h0,h12⟩:=h;dsimp only at hp hb h0 h12 ⊢;have e0:∀xs:List Row,ao w xs=.tup [.int w,.tup (xs.map az)]:=λ_=>rfl;have hw6:=hb.w6;simp_all_arith[yU,e0];refine seq λM hM=>?_;simp_arith[ends];refine hM _ _ (seq λM hM=>?_);simp_arith[F.take,ag];refine bR hp (by omega) (by omega) λat_ G1 hat' hp1 sb1=>hM _ _ (seq λM hM=>?_);have hat:at_ < rs.length:=by omega
 simp_arith[ends];refine bu (j0 hat) ?_;have hr:=hb.form _ (jd hat);have hrl:=hr.1;simp_arith[az];refine hM _ _ (seq λM hM=>?_);simp_arith[ach,acg];refine ⟨?_,λn hn=>?_⟩
 ·refine hM _ _ (seq λM hM=>?_);simp_arith[show decide ((-1:Int) < 0)=true from rfl];exact ⟨hp1,sb1⟩
 ·obtain ⟨s1,s2,s3,s4,s5⟩:=aeB hb hat h12 hn;have hnl:=(ah.mp hn).1;refine hM _ _ (seq λM hM=>?_);simp_arith[cm (show ¬((n:Int) < 0) by omega)];refine hM _ _ (seq λM hM=>?_);simp_arith[ends];have ei:[D.str [48],D.str [49]]=[48,49].map λc:Nat=>D.str [c]:=rfl;rw[ei];refine CompG.inv (P:=λi acc ρ G'=>(∃o0,ρ=[o0,some (.str (rw0 rs at_).2),some (.str (rw0 rs at_).1),some (.int (n:Int))])/\G'=G1/\acc=([48,49].take i).map λc=>az ((rw0 rs at_).1.set n c,(rw0 rs at_).2)) ⟨⟨_,rfl⟩,rfl,rfl⟩ (λ_ _ _ _ _=>trivial) (by decide) ?_ ?_
  ·rintro i d acc ρ G' hd ⟨⟨o0,rfl⟩,rfl,rfl⟩ kk hk;rw[ay]at hd;obtain ⟨c,hc,rfl⟩:=ax.mp hd;simp_arith[jG,yt,ar,aT,bp,zE hnl];refine ⟨by have hsz:sz=1000000:=rfl;omega,by have hsz:sz=1000000:=rfl;omega,by decide,hk _ _ _ ⟨⟨_,rfl⟩,rfl,?_⟩⟩;rw[d6,hc,ca];rfl
  ·rintro acc ρ G' ⟨_,rfl,rfl⟩;refine hM _ _ (seq λM hM=>?_);simp_arith[iV,zU,ag,aT,bp,cf,e7];have em:(rs.take at_).map az++([48,49].take (0+1+1)).map (λc=>az ((rw0 rs at_).1.set n c,(rw0 rs at_).2))++(rs.drop (at_+1)).map az=(spl rs at_ n).map az:=by unfold spl;rw[ca,ca];rfl
   have el:=eA List.length em;rw[ar,ag,ag,s2]at el;rw[em];refine ⟨by have hsz:sz=1000000:=rfl;omega,by rw[bp]at el;have hsz:sz=1000000:=rfl;omega,by decide,hM _ _ (seq λM hM=>?_)⟩;rw[<-e0 (spl rs at_ n),<-e0 rs];simp_arith[F.jns];have ed:D.tup [.int (at_:Int),.int ((at_:Int)+1),.int ((at_:Int)+1)]=dT3 (at_,at_+1,at_+1):=by unfold dT3;simp
   have hmem:((at_,at_+1,at_+1),rs)∈jns w (spl rs at_ n):=by refine dk.mpr ⟨fb.mpr ⟨(at_,at_+1,at_+1),aeA (by omega) (by omega) (.inr rfl),?_⟩,ek.mpr s3⟩;unfold dw;dsimp only;rw[s4];rfl
   have hin:isIn (.tup [.int (at_:Int),.int ((at_:Int)+1),.int ((at_:Int)+1)]) ((jns w (spl rs at_ n)).map λc=>dT3 c.1)=true:=by unfold isIn;rw[List.any_eq_true,ed];exact ⟨_,ce.mpr ⟨_,hmem,rfl⟩,gb rfl⟩
   have hnr:nrs ((jns w (spl rs at_ n)).map λc=>dT3 c.1)=true:=lF λd hd=>by obtain ⟨_,_,rfl⟩:=ce.mp hd;rfl
   have hdp:aW ((jns w (spl rs at_ n)).map λc=>dT3 c.1)<=1:=yu λd hd=>by obtain ⟨_,_,rfl⟩:=ce.mp hd;exact aw _
   refine ⟨by decide,Ah s1 ?_⟩;simp_arith[hin,hnr];refine ⟨⟨rfl,by omega⟩,hM _ _ (last ?_)⟩;have ec:((at_:Int)+1)=((at_+1:Nat):Int):=by omega
   have bc:=@Ag w rs rs;rw[Nat.min_self]at bc;simp_arith[F.jn,ec];refine Ai ⟨s1,by dsimp only;omega,by dsimp only;omega,.inr rfl⟩ s4 s3 ?_;simp_arith[uy (eX _ _),gb (eX _ _)];refine ⟨bc,Ai ⟨s1,by dsimp only;omega,by dsimp only;omega,.inl rfl⟩ s5 s3 ?_⟩;simp_arith[uy (eX _ _),gb (eX _ _)];exact ⟨bc,hp1,sb1⟩
def u5:RF.Spec:=ghS (A:=Addr×Nat×Nat) (λa ds G=>ds=[.ref a.1,.int (a.2.1:Nat),.int (a.2.2:Nat)]/\Pen G a.1/\1<=a.2.1/\a.2.1<=6/\a.2.2<=12) (λa G d G'=>∃w rs,d=ao w rs/\okB w rs/\Pen G' a.1/\Sb a.1 G G')
theorem aeE{p:Addr}{v m:Nat}{G:DH}{k:D->DH->Prop}{E:EK}(hp:Pen G p)(h1:1<=v)(h2:v<=6)(h3:m<=12)(hk:∀w rs G',okB w rs->Pen G' p->Sb p G G'->k (ao w rs) G'):u5.t [.ref p,.int (v:Int),.int (m:Int)] G k E:=fJ (p,v,m) ⟨rfl,hp,h1,h2,h3⟩ λd G' hx=>by
 obtain ⟨w,rs,rfl,q1,q2,q3⟩:=hx;exact hk w rs G' q1 q2 q3
theorem aeF (Φ:aa) (h1:Φ "_law_book"=uC) (h2:Φ "_law_turned_alike"=sTA) (h3:Φ "_law_take"=cY) (a:Addr×Nat×Nat) (ds:List D) (G:DH) (h:ds=[.ref a.1,.int (a.2.1:Nat),.int (a.2.2:Nat)]/\Pen G a.1/\1<=a.2.1/\a.2.1<=6/\a.2.2<=12):
  au Φ yQ noE (env0 ds 1) G (ends λd G'=>∃w rs,d=ao w rs/\okB w rs/\Pen G' a.1/\Sb a.1 G G'):=by
 obtain ⟨p,v,m⟩:=a;obtain ⟨rfl,hp,hv1,hv2,hm⟩:=h;dsimp only at hp hv1 hv2 hm ⊢;simp_all_arith[yQ];refine seq λM hM=>?_;simp_arith[h1];refine acL hp hv1 hv2 hm λw rs G1 hb _ _ hp1 sb1=>hM _ _ (last ?_);simp_arith[h2,h3];refine bR hp1 (by decide) (by decide) λt G2 ht hp2 sb2=>?_;exact ad8 hp2 hb (by omega) λrs' G3 hb' hp3 sb3=>⟨w,rs',rfl,hb',hp3,(sb1.trans sb2).trans sb3⟩
structure FL44(Φ:aa):Prop where
 opn:Φ "_law_open"=yZ
 anew:Φ "_law_anew"=ux
 take:Φ "_law_take"=cY
 book:Φ "_law_join_book"=u5
 pr:Φ "_law_pressed_right"=sPR
 prs:Φ "press"=nR
 jns:Φ "joins"=j5
 jn:Φ "join"=sJn
 alk:Φ "alike"=jc
 spl:Φ "_law_split_right"=uZ
theorem aeG(Φ:aa)(F:FL44 Φ)(ds:List D)(G:DH)(h:∃ns:List Int,ds=[.scr ns]/\ns.length<=63):au Φ yV noE (env0 ds 8) G (ends λd _=>d=.bl true):=by
 obtain ⟨ns,rfl,hl⟩:=h;simp_all_arith[yV];refine seq λM hM=>?_;simp_arith[F.opn];refine cz ⟨ns,rfl,hl⟩ λd' G1 hx=>?_;obtain ⟨p,e1,_,hp,_⟩:=hx;subst e1;refine hM _ _ (seq λM hM=>?_);simp_arith![ends];refine ⟨by decide,ForG.inv (P:=λi ρ G'=>(∃o2 o3 o4 o5 o6 o7 o8,ρ=[some (.scr ns),some (.ref p),o2,o3,o4,o5,o6,o7,o8])/\Pen G' p) ⟨⟨_,_,_,_,_,_,_,rfl⟩,hp⟩ (λ_ _ _ _=>trivial) ?_ ?_⟩
 ·rintro i d ρ G2 hd ⟨⟨o2,o3,o4,o5,o6,o7,o8,rfl⟩,hp2⟩ kk hk;have hi4:i < 4:=by
   have:=(ah.mp hd).1;simpa [aN] using this
  have hdi:d=.int (i:Int):=by unfold aN at hd;rw[ay,eI (by simpa using hi4)]at hd;simpa using hd.symm
  subst hdi;obtain ⟨v,m,hv,hm,ev,em⟩:∃a b:Nat,(1<=a/\a<=6)/\b<=12/\atI [D.int 6,D.int 4] ((i:Int) % 2)=some (.int (a:Int))/\atI [D.int 4,D.int 8] ((i:Int) % 2)=some (.int (b:Int)):=by
   have:i=0\/i=1\/i=2\/i=3:=by omega
   rcases this with rfl |rfl |rfl |rfl
   ·exact ⟨6,4,by decide,by decide,rfl,rfl⟩
   ·exact ⟨4,8,by decide,by decide,rfl,rfl⟩
   ·exact ⟨6,4,by decide,by decide,rfl,rfl⟩
   ·exact ⟨4,8,by decide,by decide,rfl,rfl⟩
  simp_arith![ends];refine seq λM hM=>?_;simp_arith[F.anew,F.book];refine ac5 hp2 λG3 hp3 _=>?_;refine ⟨by decide,by decide,bu ev ⟨by decide,by decide,bu em (aeE hp3 hv.1 hv.2 hm λw rs G4 hb hp4 _=>hM _ _ (seq λM hM=>?_))⟩⟩;have e0:∀xs:List Row,ao w xs=.tup [.int w,.tup (xs.map az)]:=λ_=>rfl;have hlen:=hb.len;simp_arith[F.pr,F.prs];refine Qa hb (aeu hb λG5 sa5=>?_);have hp5:=hp4.sa sa5;simp_arith[ends];refine hM _ _ (seq λM hM=>?_);simp_arith[F.jns];refine Ah hb (hM _ _ (seq λM hM=>?_));have hfin:∀(o5 o6 o7 o8:Option D)(G':DH),Pen G' p->M [some (.scr ns),some (.ref p),some (.int (i:Int)),some (ao w rs),some (.lst ((jns w rs).map λc=>dT3 c.1)),o5,o6,o7,o8] G':=by
   intro o5 o6 o7 o8 G' hp';refine hM _ _ (last ?_);have fin:∀G',Pen G' p->kk [some (.scr ns),some (.ref p),some (.int (i:Int)),some (ao w rs),some (.lst ((jns w rs).map λc=>dT3 c.1)),o5,o6,o7,o8] G':=λG' hp'=>hk _ _ ⟨⟨_,_,_,_,_,_,_,rfl⟩,hp'⟩;rw[e0]at fin ⊢;have hnr:=zP rs;have hmin:min (aW (rs.map az)+1) (0+1)<=60:=b6 (gp _ _) (by decide);cases hrs:rs with
   |nil=>
    rw[hrs]at fin;simp_arith[de,F.spl];exact ⟨by decide,fin _ hp'⟩
   |cons r l=>
    rw[<-hrs];have hne:bL (rs.map az) []=false:=by rw[hrs];rfl
    simp_arith[hne,hnr,ag,F.spl];refine ⟨hmin,?_⟩;cases h12:decide ((rs.length:Int) < 12) with
    |false=>exact fin _ hp'
    |true=>
     have h12':rs.length < 12:=by have:=dL h12;omega
     dsimp only;rw[<-e0 rs];refine aeC hp' hb (by rw[hrs];exact Nat.succ_pos _) h12' λG6 hp6 _=>?_;simp_arith[ends];exact fin _ hp6
  have hjn:=lF (l:=(jns w rs).map λc=>dT3 c.1) λd hd=>by obtain ⟨_,_,rfl⟩:=ce.mp hd;rfl
  have hmin:min (aW ((jns w rs).map λc=>dT3 c.1)+1) (0+1)<=60:=b6 (gp _ _) (by decide);cases hj:jns w rs with
  |nil=>
   rw[hj]at hfin;simp_arith[de];exact ⟨by decide,hfin _ _ _ _ _ hp5⟩
  |cons c cs=>
   rw[<-hj];have hne:bL ((jns w rs).map λc=>dT3 c.1) []=false:=by rw[hj];rfl
   have hjl:0 < (jns w rs).length:=by rw[hj];exact Nat.succ_pos _
   have hjl2:(jns w rs).length<=288:=b6 (List.length_filter_le _ _) (Py hb.len);simp_arith![hne,hjn];refine ⟨hmin,seq λM2 hM2=>?_⟩;simp_arith[F.take,ag];refine bR hp5 (by omega) (by omega) λn G6 hn hp6 _=>?_;have hn':n < (jns w rs).length:=by omega
   obtain ⟨⟨⟨x,y,z⟩,ss⟩,hc⟩:∃c,(jns w rs)[n]?=some c:=⟨_,a7 hn'⟩;have hm:=dk.mp (bv hc);obtain ⟨t3,ht3,hcf⟩:=fb.mp hm.1;unfold dw at hcf;obtain ⟨ss',hjb,hpe⟩:=ax.mp hcf;cases hpe;obtain ⟨m1,m2,m3⟩:=Ab ht3;obtain ⟨k1,k2⟩:=uW hb hm.1;have hpt:aH w rs ss=[]:=ek.mp hm.2;have hat3:((jns w rs).map λc=>dT3 c.1)[n]?=some (dT3 (x,y,z)):=by rw[ay,hc];rfl
   simp_arith[ends];refine bu (bU hat3) ?_;simp_arith[dT3];refine hM2 _ _ (seq λM2 hM2=>?_);simp_arith[F.jn];refine Ai ⟨hb,m1,m2,m3⟩ hjb hpt (hM2 _ _ (last ?_));have hlen2:((ss.length:Int)==(rs.length:Int) - 1)=true:=by rw[aI];dsimp only at k2;omega
   simp_arith[e0,ag,hlen2,F.alk];rw[<-e0 rs,<-e0 ss];refine uO hb k1 λd hq=>?_;obtain ⟨t,rfl⟩:=Qc hpt hq;simp_arith[jV,BEq.rfl];exact hfin _ _ _ _ _ hp6
 ·rintro ρ G2 ⟨_,hp2⟩;refine hM _ _ (last ?_);simp_arith[ends]
end RF
namespace HD
open PySem PySem.W
def sv(x:Str)(t:Nat):Value:=.str x t
def ri(n:Nat):Value:=.int n 0
def ie (l:List Value):Obj:=⟨.type "tuple",none,.seq ⟨l⟩ 0,⟨[]⟩⟩
def fM(c:Value)(l:List Value):Obj:=⟨c,none,.fields ⟨l⟩,⟨[]⟩⟩
def nT:Str:="/claim/cut.py"
noncomputable def Aj(n q:Str)(ln ac fl a b:Nat)(isf:Bool)(l1 l2 tm:Value)(t t2:Nat):Obj:=
 fM (.type "code") [sv n t,sv q (t+1),sv nT (t+2),ri ln,ri ac,ri 0,ri 0,ri fl,.ref a,.bool isf,ri 181,.ref b,.none,l1,l2,tm,ri t2,ri ln,sv nT (t2+1)]
def toks(t:Nat):List Str->List Value
 |[]=>[]
 |x::r=>sv x t::toks (t+1) r
def fdO(n q:Str)(p:Arguments)(b:List Stmt)(sc:Scope)(g:Nat)(md cd:Value):Data:=
 .func { name:=n,qualname:=q,params:=p,body:=.stmts b,scope:=sc,globals:=g,closure:=[],defaults:=.none,kwdefaults:=.none,pyModule:=md,code:=cd }
def enO(P:Params)(k:Str)(t:Nat)(v:Value):DictEntry:={ hash:=PyData.keyHash P k,key:=sv k t,val:=v }
def nU (l:List DictEntry) (e:Nat):Obj:=⟨.type "dict",none,.dict ⟨l⟩ e,⟨[]⟩⟩
noncomputable def frO (c l:Nat) (md:Value):Obj:=⟨.type "frame",none,.plain,⟨[some (.ref c),some (.ref 3),some (.ref l),none,some md,none,some (.ref 0)]⟩⟩
def bfO (s:String) (v:Value):Obj:=fM (.type "builtin_function_or_method") [.builtin s,v]
def veM:List Value:=[.type "ValueError",.type "Exception",.type "BaseException",.type "object"]
def u6 (b:Expr):Bool:=match b with |.Name n _=>n==("ValueError":Str) |_=>false
noncomputable def fnO(q:Str)(a t:Nat)(md:Value)(n:Str)(p:Arguments)(b:List Stmt)(sc:Scope)(ln:Nat):List Obj:=match localNames p sc (.stmts b) with
 |some l=>[ie [],fM .none [],ie (toks (t+3) l.1),ie [],⟨.none,none,fdO n q p b sc 0 .none .none,⟨[]⟩⟩,
   Aj n q ln p.args.length 3 a (a+1) true (.ref (a+2)) (.ref (a+3)) (.ref (a+4)) t (t+3+l.1.length),⟨.type "function",none,fdO n q p b sc 3 md (.ref (a+5)),⟨[]⟩⟩]
 |none=>[ie [],fM .none [],⟨.none,none,fdO n q p b sc 0 .none .none,⟨[]⟩⟩,
   Aj n q ln p.args.length 3 a (a+1) true .none .none (.ref (a+2)) t (t+3),⟨.type "function",none,fdO n q p b sc 3 md (.ref (a+3)),⟨[]⟩⟩]
noncomputable def fnA(p:Arguments)(b:List Stmt)(sc:Scope):Nat:=match localNames p sc (.stmts b) with |some _=>7 |none=>5
noncomputable def fnT(p:Arguments)(b:List Stmt)(sc:Scope):Nat:=match localNames p sc (.stmts b) with |some l=>l.1.length+5 |none=>5
def dot:Str:="."
structure MO where
 os:List Obj
 es:List DictEntry
 cs:List Value
 a:Nat
 t:Nat
noncomputable def u9(P:Params)(c:Str)(md:Value):List Stmt->Nat->Nat->MO
 |.FunctionDef n p b _ _ _ sc _ _ pos::r,a,t=>
  let m:=u9 P c md r (a+fnA p b sc) (t+fnT p b sc+1)
  ⟨fnO (c++dot++n) a t md n p b sc pos.line++m.os,enO P n (t+fnT p b sc) (.ref (a+fnA p b sc - 1))::m.es,ri pos.line::ri pos.col::.ref (a+fnA p b sc - 2)::m.cs,m.a,m.t⟩
 |_::r,a,t=>u9 P c md r a t
 |[],a,t=>⟨[],[],[],a,t⟩
def clA(P:Params)(a:Nat)(b:List Stmt):Nat:=(u9 P dot .none b (a+7) 0).a+2
noncomputable def stO(P:Params)(r:Nat)(sub:List Value)(a t:Nat)(md:Value)(s:Stmt):List Obj:=match s with
 |.FunctionDef n p b _ _ _ sc _ _ pos=>fnO n a t md n p b sc pos.line
 |.ClassDef n bs _ body _ _ _ _ _ st pos=>
  let m:=u9 P n md body (a+7) (t+12)
  let c:=m.a+2
  let u:=m.t+st.length
  let d1:=[enO P "__module__" (t+7) md]
  let d2:=enO P "__firstlineno__" (t+11) (.int pos.line (t+10))::m.es++[enO P "__static_attributes__" u (.ref m.a)]
  let b:List Value:=match bs with |b::_=>(match u6 b with |true=>[.type "ValueError"] |false=>[.ref r]) |[]=>[]
  let own:Bool:=match bs with |[]=>true |_=>false
  let ve:Bool:=match bs with |b::_=>u6 b |[]=>false
  let wr (v:Nat):Obj:=fM (.type "getset_descriptor") [sv "__weakref__" v,.ref c,.builtin "ExceptionGroup.__weakref__",.none]
  let typ (mro:List Value) (sub:List Value) (nw:String):Obj:=
   ⟨.type "type",none,.cls { name:=n,bases:=(match own with |true=>[.type "object"] |false=>b),mro:=.ref c::mro,ns:=m.a+1,qualname:=n,subclasses:=sub },
    ⟨[(match own with |true=>none |false=>some (.ref a)),none,some (sv n t),some (sv n (t+8)),some (.builtin nw),some (.bool true)]⟩⟩
  [ie b,bfO "type.__prepare__" (.type "type"),nU (d1++enO P "__qualname__" (t+9) (sv n (t+8))::d2) (4+m.es.length),ie [],fM .none m.cs,
   Aj n n pos.line 0 0 (a+3) (a+4) false .none .none .none (t+2) (t+5),frO (a+5) (a+2) md]++m.os++[ie (toks m.t st)] ++
  (match own with
  |true=>[nU (d1++d2++[enO P "__dict__" (u+2) (.ref (c+1)),enO P "__weakref__" (u+4) (.ref (c+2)),enO P "__doc__" (u+5) .none]) 4,typ [.type "object"] [] "object.__new__",
    fM (.type "getset_descriptor") [sv "__dict__" (u+1),.ref c,.builtin "function.__dict__",.builtin "function.__dict__#set"],wr (u+3)]
  |false=>(match ve with
   |true=>[nU (d1++d2++[enO P "__weakref__" (u+2) (.ref (c+1)),enO P "__doc__" (u+3) .none]) 3,typ veM sub "ValueError.__new__",wr (u+1)]
   |false=>[nU (d1++d2++[enO P "__doc__" (u+1) .none]) 2,typ (.ref r::veM) [] "ValueError.__new__"])) ++
  [fM (.type "super") [.ref c,.ref c,.ref c],bfO "object.__init_subclass__" (.ref c)]
 |_=>[]
noncomputable def mdO(t:Nat)(md:Value)(s:Stmt):Value:=match s with
 |.Assign [.Name n _] (.Constant (.str x) _ _) _=>(match n==("__name__":Str) with |true=>sv x t |false=>md)
 |_=>md
noncomputable def enS(P:Params)(lk:Str->Value)(t u a a':Nat)(s:Stmt):List DictEntry:=match s with
 |.Assign [.Name n _] (.Name y _) _=>[enO P n t (lk y)]
 |.FunctionDef n _ _ _ _ _ _ _ _ _=>[enO P n (u-1) (.ref (a'-1))]
 |.ClassDef n _ _ b _ _ _ _ _ _ _=>[enO P n (u-1) (.ref (clA P a b))]
 |.Assign [.Name n _] (.Constant c _ _) _=>(match n==("__name__":Str) with
  |true=>[]
  |false=>[enO P n (t+1) (match c with |.int i=>.int i t |.str x=>sv x t |_=>.none)])
 |_=>[]
noncomputable def fnS(a':Nat)(s:Stmt):List (Str×Value):=match s with
 |.FunctionDef n _ _ _ _ _ _ _ _ _=>[(n,.ref (a'-1))]
 |_=>[]
noncomputable def cdS(a a':Nat)(s:Stmt):List Value:=match s with
 |.FunctionDef _ _ _ _ _ _ _ _ _ pos=>[ri pos.line,ri pos.col,.ref (a'-2)]
 |.ClassDef _ _ _ _ _ _ _ _ _ _ pos=>[ri pos.line,ri pos.col,.ref (a+5)]
 |_=>[]
noncomputable def sbS(P:Params)(a:Nat)(s:Stmt):List Value:=match s with
 |.ClassDef _ bs _ b0 _ _ _ _ _ _ _=>(match bs with |b::_=>(match u6 b with |true=>[] |false=>[.ref (clA P a b0)]) |[]=>[])
 |_=>[]
noncomputable def aeH(P:Params)(a:Nat)(s:Stmt):List Nat:=match s with
 |.ClassDef _ bs _ b0 _ _ _ _ _ _ _=>(match bs with |b::_=>(match u6 b with |true=>[clA P a b0] |false=>[]) |[]=>[])
 |_=>[]
noncomputable def fold{α:Type}(f:Nat->Nat->Nat->Nat->Value->Stmt->List α):List (Nat×Nat)->Value->List Stmt->List α
 | (a,t)::(a',u)::r,md,s::ss=>f a a' t u md s++fold f ((a',u)::r) (mdO t md s) ss
 |_,_,_=>[]
def Qk:List (Nat×Nat)->Value->List Stmt->Value
 | (_,t)::r,md,s::ss=>Qk r (mdO t md s) ss
 |_,md,_=>md
def ig:Value:=sv "__main__" 164
noncomputable def aeI(P:Params)(v:Value):List DictEntry:=
 [enO P "__name__" 165 v,enO P "__doc__" 166 .none,enO P "__package__" 167 .none,enO P "__loader__" 168 (.builtin "__main__.__loader__#opaque"),enO P "__spec__" 169 .none,
  enO P "__annotations__" 170 (.ref 6),enO P "__builtins__" 171 (.ref 4),enO P "__file__" 173 (sv nT 172),enO P "__cached__" 174 .none]
noncomputable def ents(N:List (Nat×Nat))(b:List Stmt)(P:Params):List DictEntry:=aeI P (Qk N ig b)++fold (λa a' t u _ s=>enS P (λy=>((fold (λ_ a' _ _ _ s=>fnS a' s) N ig b).lookup y).getD .none) t u a a' s) N ig b
def put{α:Type}:Nat->α->List α->List α
 |_,_,[]=>[]
 |0,x,_::r=>x::r
 |n+1,x,y::r=>y::put n x r
noncomputable def Ql(cs:List Value):List Obj:=[ie [],fM .none cs,
 fM (.type "code") [sv "<module>" 182,sv "<module>" 183,sv nT 184,ri 1,ri 0,ri 0,ri 0,ri 0,.ref 11,.bool false,ri 181,.ref 12,.none,.none,.none,.none,ri 185,ri 1,sv nT 186],frO 13 3 ig]
def aeJ(B:List Obj):List Obj:=B++Ql []
noncomputable def objs(B:List Obj)(N:List (Nat×Nat))(b:List Stmt)(P:Params):List Obj:=
 let es:=ents N b P
 put 3 (nU es es.length) (B++Ql (fold (λa a' _ _ _ s=>cdS a a' s) N ig b) ++
  fold (λa _ t _ md s=>stO P ((fold (λa _ _ _ _ s=>aeH P a s) N ig b).headD 0) (fold (λa _ _ _ _ s=>sbS P a s) N ig b) a t md s) N ig b)
def evs{α:Type}:List α->List α
 |[]=>[]
 |[x]=>[x]
 |x::_::r=>x::evs r
noncomputable def bt:Nat->List Obj->BT
 |0,_=>.nil
 |_,[]=>.nil
 |n+1,x::r=>.node x (bt n (evs r)) (bt n (evs r.tail))
def nameless(s:Stmt):Bool:=match s with
 |.Assign [.Name n _] _ _=>!(n==("__name__":Str))
 |_=>true
noncomputable def pick:Nat->List Nat->List Obj->Frag
 |i,a::r,o::os=>(match Nat.beq a i with |true=>(a,o)::pick (i+1) r os |false=>pick (i+1) (a::r) os)
 |_,_,_=>[]
end HD
def PySem.W.Fast.tw4234932119691960605:PySem.Program:=PySem.Challenge.pw_starsieve_k44_whole_pressed_ones_do_the
theorem PySem.W.Fast.te4234932119691960605:PySem.Challenge.pw_starsieve_k44_whole_pressed_ones_do_the=PySem.W.Fast.tw4234932119691960605:=rfl
namespace HK
open PySem PySem.W PySem.W.Fast
def pw:Program:=PySem.Challenge.pw_starsieve_k44_whole_pressed_ones_do_the
def rl:OpenLaw:=PySem.Challenge.rw_starsieve_k44_whole_pressed_ones_do_the
noncomputable def NN:List (Nat×Nat):=[(15,187),(15,189),(28,207),(47,232),(59,248),(71,264),(83,280),(95,296),(95,298),(95,300),(102,307),(109,314),(116,322),(121,328),(128,336),(133,342),(140,350),(147,359),(154,370),(159,376),(166,383),(166,385),(166,387),(166,389),(166,391),(171,397),(178,405),(183,411),(190,418),(197,426),(204,434),(211,442),(211,444),(218,451),(225,460),(232,471),(239,481),(246,492),(251,498),(251,500),(258,509),(263,515),(270,525),(270,527),(277,537),(284,547),(291,556),(291,558),(298,572),(303,578),(308,584),(315,596),(322,607),(329,616),(336,625),(336,627),(341,633),(346,639),(346,641),(353,652),(360,662),(367,669),(374,680),(379,686),(386,694),(393,704),(400,714),(407,726),(412,732),(419,746),(424,752),(429,758),(436,769),(443,779),(448,785),(453,791),(460,806)]
def L1(P:Params):List Obj:=HD.objs (boot_heap P).objs.toList NN pw.main.body P
def H1(P:Params):Heap:=⟨⟨L1 P⟩,{}⟩
def T1(P:Params):BT:=HD.bt 12 (L1 P)
def LA(P:Params):List Obj:=HD.aeJ (boot_heap P).objs.toList
def HA(P:Params):Heap:=⟨⟨LA P⟩,{}⟩
def T0(P:Params):BT:=HD.bt 5 (LA P)
def env:Env:={ scope:=pw.main.scope,locals:=mainNs,globals:=mainNs,cells:=[],code:=.ref 13,frame:=some 14 }
def bE:List Stmt:=behindTheImports pw
def cE:Code:=.body bE env
def p0:Pos:=⟨0,0,0,0⟩
def B:List Frame:=[topFrame p0]
def ann:Option Value:=some (.ref 6)
def qv:Program:={ pw with main:={ pw.main with body:=pw.main.body.filter HD.nameless } }
noncomputable def as:List Nat:=[3,23,24,43,44,55,56,67,68,79,80,91,92,100,101,107,108,114,115,119,120,126,127,131,132,138,139,145,146,152,153,157,158,164,165,169,170,176,177,181,182,188,189,195,196,202,203,209,210,216,217,223,224,230,231,237,238,244,245,249,250,256,257,261,262,268,269,275,276,282,283,289,290,296,297,301,302,306,307,313,314,320,321,327,328,334,335,339,340,344,345,351,352,358,359,365,366,372,373,377,378,384,385,391,392,398,399,405,406,410,411,417,418,422,423,427,428,434,435,441,442,446,447,451,452,458,459]
def K(P:Params):Frag:=HD.pick 0 as (L1 P)
def Xt(s:Shared):Bool:=xlAt qv [] s&&recOk (RowW.records rl.row.toRowW) s
def see{α:Type}(_:α):Bool:=true
theorem primed:(see T1&&see T0&&see H1&&see HA&&see cE&&see B&&see env&&see bE&&see qv&&see K&&see Xt)=true:=by k_qdec
theorem pre(w:World)(os:OsState):topGo treeTable pw w 11 ann 12 ⟨boot_heap w.params,⟨[]⟩,boot_drawn,boot_toks,os⟩ (topStub pw)=some (⟨HA w.params,⟨[]⟩,{},187,os⟩,⟨denote treeTable cE,cE,p0,B⟩):=by have _:=primed;rw[PySem.W.Fast.te15667345088766844465,PySem.W.Fast.te14364793385576792824,PySem.W.Fast.te1032975242618825031,PySem.W.Fast.te8093259214132618727,PySem.W.Fast.te1718297227530528222,PySem.W.Fast.te11892475500146522536];rfl'
theorem block(w:World)(os:OsState):segRun treeTable pw w 11 ann 1 2 ⟨HA w.params,⟨[]⟩,{},187,os⟩ (blockOf bE env cE p0 B)=some (.next,SharedT.abs ⟨T0 w.params,15,{},⟨[]⟩,{},187,os⟩,cE,p0):=by rw[PySem.W.Fast.te14374325043358763698,PySem.W.Fast.te14364793385576792824,PySem.W.Fast.te1032975242618825031,PySem.W.Fast.te8093259214132618727,PySem.W.Fast.te1718297227530528222,PySem.W.Fast.te14938417808399470215,PySem.W.Fast.te16330338443398637341,PySem.W.Fast.te10239294469119128424];rfl'
theorem piece(w:World)(os:OsState):segRunT treeTable pw w 11 ann 1 9000 ⟨T0 w.params,15,{},⟨[]⟩,{},187,os⟩ (piecesOf bE env cE p0 B)=some (.next,⟨T1 w.params,460,{},⟨[]⟩,{},806,os⟩,cE,⟨345,0,359,15⟩):=by rw[PySem.W.Fast.te10110043849684766642,PySem.W.Fast.te14364793385576792824,PySem.W.Fast.te1032975242618825031,PySem.W.Fast.te13069687644243786066,PySem.W.Fast.te14938417808399470215,PySem.W.Fast.te1718297227530528222,PySem.W.Fast.te16330338443398637341,PySem.W.Fast.te10239294469119128424];rfl'
theorem fin(w:World)(os:OsState):topRun treeTable pw w 11 ann 3 (SharedT.abs ⟨T1 w.params,460,{},⟨[]⟩,{},806,os⟩) ⟨doneF .next,cE,⟨345,0,359,15⟩,B⟩=some ⟨H1 w.params,⟨[]⟩,{},806,os⟩:=by rw[PySem.W.Fast.te14082659384304107361,PySem.W.Fast.te14364793385576792824,PySem.W.Fast.te1032975242618825031,PySem.W.Fast.te13069687644243786066,PySem.W.Fast.te1718297227530528222,PySem.W.Fast.te14158929756966004236];rfl'
theorem run(w:World)(os:OsState):topRun treeTable pw w 11 ann (12+(2+(9000+3))) ⟨boot_heap w.params,⟨[]⟩,boot_drawn,boot_toks,os⟩ (topStub pw)=some ⟨H1 w.params,⟨[]⟩,{},806,os⟩:=by refine go_top (pre w os) (piece_block (block w os) ?_);have h:=piece_app (rest:=[]) (segRun_of (piece w os)) (piece_nil (fin w os));rw[List.append_nil]at h;exact h
theorem size (w:World):((boot_heap w.params).isNs mainGlobals&&(Array.mk []:Array GenState).size==0,(boot_heap w.params).objs.size,(boot_heap w.params).nsMap mainGlobals "__annotations__")=(true,11,ann):=by rfl'
theorem aeK(w:World)(os:OsState):(staticsOk (importedModules pw.main.body) (boot_heap w.params) (H1 w.params)&&namesBound pw (H1 w.params)&&gensDone ⟨H1 w.params,⟨[]⟩,{},806,os⟩&&laidKept (boot_heap w.params) (H1 w.params))=true:=by rw[PySem.W.Fast.te1032975242618825031,PySem.W.Fast.te14158929756966004236,PySem.W.Fast.te5923862056798008813];rfl'
theorem aeL(w:World)(os:OsState):openSeen qv [] (importedModules pw.main.body) Xt true ⟨H1 w.params,⟨[]⟩,{},806,os⟩=openGood qv []:=by rw[PySem.W.Fast.te1032975242618825031,PySem.W.Fast.te14158929756966004236,PySem.W.Fast.te5923862056798008813,PySem.W.Fast.te3994408356199485718,PySem.W.Fast.te3154452736318265832,PySem.W.Fast.te4187177175401517315];rfl'
theorem aeM(w:World):as.map (H1 w.params).get?=(K w.params).map (λp=>some p.2):=by rw[PySem.W.Fast.te14158929756966004236,PySem.W.Fast.te538113369711794958];rfl'
theorem eAs(P:Params):as=(K P).map (·.1):=by rw[PySem.W.Fast.te538113369711794958];rfl'
def hook:Hook:=kHook K as eAs
theorem left:LeftO pw qv [] Xt hook.obs hook.val 12000:=by refine LeftO.of_pieces (boot_open (by rfl') (by decide) (λs=>by rfl')) size run (by decide) λw=>funext λos=>?_;exact Prod.ext (aeK w os) (Prod.ext (aeL w os) (aeM w))
end HK
namespace Lk44
open PySem PySem.Spec PyProof.Rows L2 RF
open PySem.W (mg_of mg_none_of)
def Φ:aa:=λf=>if f="_law_anew" then ux else if f="_law_spread" then uw else if f="_law_take" then cY else if f="_law_signs" then mZ else if f="_law_deeds_of" then uB else if f="_law_form" then yX else if f="_law_wider" then gZ else if f="_law_within" then gZ else if f="_law_form_like" then uA else if f="_law_book" then uC else if f="_law_meet" then uU else if f="_law_one_turning" then uV else if f="_law_turned_alike" then sTA else if f="_law_join_book" then u5 else if f="_law_open" then yZ else if f="both" then aK m7 else if f="first_touching" then m8 else if f="splitting_place" then uG else if f="with_sign" then aK gB else if f="grown" then eU 9 else if f="least" then aK jb else if f="is_named" then aK gD else if f="is_whole" then aK iT else if f="is_place" then aK gC else if f="leaves" then dM 9 else if f="is_deed" then zr else if f="is_text_of" then zp else if f="is_form" then zq else if f="is_row" then zu else if f="is_width" then zx else if f="is_book" then uD else if f="need_book" then gw else if f="need_two_books" then uM else if f="deed_of" then uF else if f="same_deeds" then sSD else if f="stars" then aK iW else if f="alike" then jc else if f="need_row" then jT else if f="reach" then uK else if f="hidden" then uL else if f="fits" then aK m6 else if f="lies_in" then aK jR else if f="joined" then aK jY else if f="without" then sWo else if f="joined_book" then sJB else if f="candidates" then nP else if f="parting_word" then jX else if f="joins" then j5 else if f="needless" then nA else if f="first_joined" then sFJ else if f="all_joined" then sAJ else if f="lean" then uQ else if f="press" then nR else if f="_law_pressed_right" then sPR else if f="join" then sJn else if f="_law_split_right" then uZ else if f="law" then m5 else bO (λ_ _=>False) (λ_ _ _ _=>False)
def Qm:Φ "_law_anew"=ux:=by rfl'
def Qn:Φ "_law_spread"=uw:=by rfl'
def dR:Φ "_law_take"=cY:=by rfl'
def Ak:Φ "_law_signs"=mZ:=by rfl'
def Qo:Φ "_law_deeds_of"=uB:=by rfl'
def Qp:Φ "_law_form"=yX:=by rfl'
def Qq:Φ "_law_wider"=gZ:=by rfl'
def Al:Φ "_law_within"=gZ:=by rfl'
def Qs:Φ "_law_form_like"=uA:=by rfl'
def Qt:Φ "_law_book"=uC:=by rfl'
def Qu:Φ "_law_meet"=uU:=by rfl'
def Qv:Φ "_law_one_turning"=uV:=by rfl'
def Qw:Φ "_law_turned_alike"=sTA:=by rfl'
def Qx:Φ "_law_join_book"=u5:=by rfl'
def Qy:Φ "_law_open"=yZ:=by rfl'
def Qz:Φ "both"=aK m7:=by rfl'
def Am:Φ "first_touching"=m8:=by rfl'
def QB:Φ "splitting_place"=uG:=by rfl'
def vd:Φ "with_sign"=aK gB:=by rfl'
def An:Φ "grown"=eU 9:=by rfl'
def Ao:Φ "least"=aK jb:=by rfl'
def QC:Φ "is_named"=aK gD:=by rfl'
def Aq:Φ "is_whole"=aK iT:=by rfl'
def vf:Φ "is_place"=aK gC:=by rfl'
def Ar:Φ "leaves"=dM 9:=by rfl'
def QD:Φ "is_deed"=zr:=by rfl'
def QF:Φ "is_text_of"=zp:=by rfl'
def QG:Φ "is_form"=zq:=by rfl'
def QH:Φ "is_row"=zu:=by rfl'
def QJ:Φ "is_width"=zx:=by rfl'
def Av:Φ "is_book"=uD:=by rfl'
def je:Φ "need_book"=gw:=by rfl'
def QK:Φ "need_two_books"=uM:=by rfl'
def QL:Φ "deed_of"=uF:=by rfl'
def QM:Φ "same_deeds"=sSD:=by rfl'
def QQ:Φ "stars"=aK iW:=by rfl'
def nW:Φ "alike"=jc:=by rfl'
def vg:Φ "need_row"=jT:=by rfl'
def QR:Φ "reach"=uK:=by rfl'
def QS:Φ "hidden"=uL:=by rfl'
def QT:Φ "fits"=aK m6:=by rfl'
def QV:Φ "lies_in"=aK jR:=by rfl'
def QW:Φ "joined"=aK jY:=by rfl'
def vh:Φ "without"=sWo:=by rfl'
def Aw:Φ "joined_book"=sJB:=by rfl'
def Ax:Φ "candidates"=nP:=by rfl'
def vm:Φ "parting_word"=jX:=by rfl'
def vo:Φ "joins"=j5:=by rfl'
def Ay:Φ "needless"=nA:=by rfl'
def QX:Φ "first_joined"=sFJ:=by rfl'
def QZ:Φ "all_joined"=sAJ:=by rfl'
def Q0:Φ "lean"=uQ:=by rfl'
def Az:Φ "press"=nR:=by rfl'
def Q3:Φ "_law_pressed_right"=sPR:=by rfl'
def Ba:Φ "join"=sJn:=by rfl'
def Q4:Φ "_law_split_right"=uZ:=by rfl'
noncomputable def bt:List String:=["all","bool","enumerate","int","isinstance","len","list","min","range","reversed","str","tuple","zip"]
noncomputable def cn:List (String×D):=[("LETTERS",(.str [97,98,99,100,101,102,103,104,105,106,107,108,109,110,111,112,113,114,115,116,117,118,119,120,121,122])),("LONGEST_DEED",(.int 8)),("MOST_ROWS",(.int 12)),("WIDEST",(.int 6))]
def xs:List (String×Bool):=[("NoBook",true),("NoMatch",true),("NoRow",true),("NoJoin",true)]
abbrev CK:=λN s f o b=>aC (aG N (aq s) f bt cn xs o) b (aF s)=true
abbrev BB:=λ(l:PySem.W.OpenLaw) (w:World) (mg:Str->Option Value) (base:Heap) k f o=>Bse Φ l.prog w (HK.K w.params) mg base (CX1 l.prog w) k f bt cn xs o
abbrev NQ:=λP (s:Str) (n:Nat)=>PySem.W.nsIn (HK.K P) mainGlobals s=some (some (.ref n))
abbrev BQ:=λP fd ps=>Binds (HK.K P) fd ps []
abbrev LN:Str:="law_starsieve_k44_whole_pressed_ones_do_the"
def f0:List (String×Nat):=[]
def f1:=("_law_anew",1)::f0
def f2:=("_law_spread",2)::f1
def f3:=("_law_take",2)::f2
def f4:=("_law_signs",3)::f3
def f5:=("_law_deeds_of",2)::f4
def f6:=("_law_form",2)::f5
def f7:=("_law_wider",2)::f6
def f8:=("_law_within",2)::f7
def f9:=("_law_form_like",3)::f8
def f10:=("_law_book",3)::f9
def f11:=("_law_meet",2)::f10
def f12:=("_law_one_turning",2)::f11
def f13:=("_law_turned_alike",3)::f12
def f14:=("_law_join_book",3)::f13
def f15:=("_law_open",1)::f14
def f16:=("both",2)::f15
def f17:=("first_touching",2)::f16
def f18:=("splitting_place",2)::f17
def f19:=("with_sign",3)::f18
def f20:=("grown",3)::f19
def f21:=("least",1)::f20
def f22:=("is_named",3)::f21
def f23:=("is_whole",1)::f22
def f24:=("is_place",2)::f23
def f25:=("leaves",2)::f24
def f26:=("is_deed",1)::f25
def f27:=("is_text_of",3)::f26
def f28:=("is_form",2)::f27
def f29:=("is_row",2)::f28
def f30:=("is_width",1)::f29
def f31:=("is_book",1)::f30
def f32:=("need_book",1)::f31
def f33:=("need_two_books",2)::f32
def f34:=("deed_of",2)::f33
def f35:=("same_deeds",3)::f34
def f36:=("stars",1)::f35
def f37:=("alike",2)::f36
def f38:=("need_row",2)::f37
def f39:=("reach",2)::f38
def f40:=("hidden",1)::f39
def f41:=("fits",2)::f40
def f42:=("lies_in",2)::f41
def f43:=("joined",2)::f42
def f44:=("without",2)::f43
def f45:=("joined_book",4)::f44
def f46:=("candidates",1)::f45
def f47:=("parting_word",2)::f46
def f48:=("joins",1)::f47
def f49:=("needless",2)::f48
def f50:=("first_joined",1)::f49
def f51:=("all_joined",1)::f50
def f52:=("lean",1)::f51
def f53:=("press",1)::f52
def f54:=("_law_pressed_right",2)::f53
def f55:=("join",4)::f54
def f56:=("_law_split_right",2)::f55
def S(i:Nat):Stmt:=HK.pw.main.body.getD i (.Pass ⟨0,0,0,0⟩)
def nY:Stmt:=S 60
theorem aeN:fnB ["pen"] ["pen"] (aq nY)=true:=by ac_rfl
theorem aeO:CK ["pen"] nY f0 {} yD:=by ac_rfl
def nZ:Stmt:=S 58
theorem aeP:fnB ["cell","at","one","two","three"] ["cell","at"] (aq nZ)=true:=by ac_rfl
theorem aeQ:CK ["cell","at","one","two","three"] nZ f1 {} yE:=by ac_rfl
def n6:Stmt:=S 61
theorem aeR:fnB ["pen","many","at","cell","found"] ["pen","many"] (aq n6)=true:=by ac_rfl
theorem aeS:CK ["pen","many","at","cell","found"] n6 f2 {} yF:=by ac_rfl
def n8:Stmt:=S 62
theorem aeT:fnB ["pen","width","signs"] ["pen","width","signs"] (aq n8)=true:=by ac_rfl
theorem aeU:CK ["pen","width","signs"] n8 f3 {} yG:=by ac_rfl
def oh:Stmt:=S 67
theorem aeV:fnB ["pen","most","some","turn","found","letters"] ["pen","most"] (aq oh)=true:=by ac_rfl
theorem aeW:CK ["pen","most","some","turn","found","letters"] oh f4 {} yH:=by ac_rfl
def ou:Stmt:=S 63
theorem aeX:fnB ["pen","width"] ["pen","width"] (aq ou)=true:=by ac_rfl
theorem aeY:CK ["pen","width"] ou f5 {} yI:=by ac_rfl
def oA:Stmt:=S 65
theorem aeZ:fnB ["pen","form","found","sign"] ["pen","form"] (aq oA)=true:=by ac_rfl
theorem ae0:CK ["pen","form","found","sign"] oA f6 {} yJ:=by ac_rfl
def oE:Stmt:=S 64
theorem ae1:fnB ["pen","form","found","sign"] ["pen","form"] (aq oE)=true:=by ac_rfl
theorem ae2:CK ["pen","form","found","sign"] oE f7 {} yK:=by ac_rfl
def oF:Stmt:=S 66
theorem ae3:fnB ["pen","width","forms","kind","form","at"] ["pen","width","forms"] (aq oF)=true:=by ac_rfl
theorem ae4:CK ["pen","width","forms","kind","form","at"] oF f8 {} yL:=by ac_rfl
def oG:Stmt:=S 68
theorem ae5:fnB ["pen","widest","most","width","deeds","forms","rows","k"] ["pen","widest","most"] (aq oG)=true:=by ac_rfl
theorem ae6:CK ["pen","widest","most","width","deeds","forms","rows","k"] oG f9 {} yM:=by ac_rfl
def oH:Stmt:=S 69
theorem ae7:fnB ["form","other"] ["form","other"] (aq oH)=true:=by ac_rfl
theorem ae8:CK ["form","other"] oH f10 {} yN:=by ac_rfl
def oJ:Stmt:=S 70
theorem ae9:fnB ["pen","rows","at","form","one","stars_v","kind","place","two"] ["pen","rows"] (aq oJ)=true:=by ac_rfl
theorem afa:CK ["pen","rows","at","form","one","stars_v","kind","place","two"] oJ f11 {} yO:=by ac_rfl
def oK:Stmt:=S 71
theorem afb:fnB ["pen","book","times","rows","turn"] ["pen","book","times"] (aq oK)=true:=by ac_rfl
theorem afc:CK ["pen","book","times","rows","turn"] oK f12 {} yP:=by ac_rfl
def oM:Stmt:=S 72
theorem afd:fnB ["pen","widest","most","book"] ["pen","widest","most"] (aq oM)=true:=by ac_rfl
theorem afe:CK ["pen","widest","most","book"] oM f13 {} yQ:=by ac_rfl
def oN:Stmt:=S 59
theorem afg:fnB ["script","cells","k","cell"] ["script"] (aq oN)=true:=by ac_rfl
theorem afh:CK ["script","cells","k","cell"] oN f14 {} yR:=by ac_rfl
def oO:Stmt:=S 17
theorem afi:fnB ["form","other","shared","one","two"] ["form","other"] (aq oO)=true:=by ac_rfl
theorem afj:CK ["form","other","shared","one","two"] oO f15 {} lH:=by ac_rfl
def oR:Stmt:=S 35
theorem afk:fnB ["rows","box","number","row"] ["rows","box"] (aq oR)=true:=by ac_rfl
theorem afl:CK ["rows","box","number","row"] oR f16 {} lJ:=by ac_rfl
def oU:Stmt:=S 36
theorem afm:fnB ["rows","box","number","at","sign"] ["rows","box"] (aq oU)=true:=by ac_rfl
theorem afn:CK ["rows","box","number","at","sign"] oU f17 {} lK:=by ac_rfl
def oV:Stmt:=S 16
theorem afo:fnB ["form","at","sign"] ["form","at","sign"] (aq oV)=true:=by ac_rfl
theorem afp:CK ["form","at","sign"] oV f18 {} lL:=by ac_rfl
def oW:Stmt:=S 37
theorem afq:fnB ["name","many_rows","box","rows","at","zero","one"] ["name","many_rows","box"] (aq oW)=true:=by ac_rfl
theorem afr:CK ["name","many_rows","box","rows","at","zero","one"] oW f20 {} jK:=by ac_rfl
def oX:Stmt:=S 19
def oY:Stmt:=S 33
theorem afs:fnB ["name","many","thing"] ["name","many","thing"] (aq oY)=true:=by ac_rfl
theorem aft:CK ["name","many","thing"] oY f21 {} lM:=by ac_rfl
def oZ:Stmt:=S 9
theorem afu:fnB ["thing"] ["thing"] (aq oZ)=true:=by ac_rfl
theorem afv:CK ["thing"] oZ f22 {} lN:=by ac_rfl
def o9:Stmt:=S 11
theorem afw:fnB ["many","thing"] ["many","thing"] (aq o9)=true:=by ac_rfl
theorem afx:CK ["many","thing"] o9 f23 {} lO:=by ac_rfl
def ph:Stmt:=S 34
theorem afy:fnB ["box","tree","at","zero","one"] ["box","tree"] (aq ph)=true:=by ac_rfl
theorem afz:CK ["box","tree","at","zero","one"] ph f25 {} iR:=by ac_rfl
def pq:Stmt:=S 24
theorem afA:fnB ["thing"] ["thing"] (aq pq)=true:=by ac_rfl
theorem afB:CK ["thing"] pq f25 {} lQ:=by ac_rfl
def pA:Stmt:=S 12
theorem afC:fnB ["signs","width","thing"] ["signs","width","thing"] (aq pA)=true:=by ac_rfl
theorem afD:CK ["signs","width","thing"] pA f26 {} lR:=by ac_rfl
def pB:Stmt:=S 13
theorem afE:fnB ["width","thing"] ["width","thing"] (aq pB)=true:=by ac_rfl
theorem afF:CK ["width","thing"] pB f27 {} lU:=by ac_rfl
def pC:Stmt:=S 25
theorem afG:fnB ["width","thing"] ["width","thing"] (aq pC)=true:=by ac_rfl
theorem afH:CK ["width","thing"] pC f28 {} lV:=by ac_rfl
def pF:Stmt:=S 10
theorem afI:fnB ["thing"] ["thing"] (aq pF)=true:=by ac_rfl
theorem afJ:CK ["thing"] pF f29 {} lW:=by ac_rfl
def pG:Stmt:=S 26
theorem afK:fnB ["thing","width","rows"] ["thing"] (aq pG)=true:=by ac_rfl
theorem afL:CK ["thing","width","rows"] pG f30 {} lX:=by ac_rfl
def pH:Stmt:=S 27
theorem afM:fnB ["book"] ["book"] (aq pH)=true:=by ac_rfl
theorem afN:CK ["book"] pH f31 {} lY:=by ac_rfl
def pI:Stmt:=S 28
theorem afO:fnB ["one","other"] ["one","other"] (aq pI)=true:=by ac_rfl
theorem afP:CK ["one","other"] pI f32 {} lZ:=by ac_rfl
def pJ:Stmt:=S 30
theorem afQ:fnB ["book","number"] ["book","number"] (aq pJ)=true:=by ac_rfl
theorem afR:CK ["book","number"] pJ f33 {} jL:=by ac_rfl
def pK:Stmt:=S 39
theorem afS:fnB ["one","other","leaf"] ["one","other","leaf"] (aq pK)=true:=by ac_rfl
theorem afT:CK ["one","other","leaf"] pK f34 {} mj:=by ac_rfl
def pL:Stmt:=S 32
theorem afU:fnB ["width"] ["width"] (aq pL)=true:=by ac_rfl
theorem afV:CK ["width"] pL f35 {} mq:=by ac_rfl
def pM:Stmt:=S 40
theorem afW:fnB ["one","other","box","tree","parting"] ["one","other"] (aq pM)=true:=by ac_rfl
theorem afX:CK ["one","other","box","tree","parting"] pM f36 {} my:=by ac_rfl
def pN:Stmt:=S 29
theorem afY:fnB ["book","number"] ["book","number"] (aq pN)=true:=by ac_rfl
theorem afZ:CK ["book","number"] pN f37 {} mz:=by ac_rfl
def pO:Stmt:=S 55
theorem af0:fnB ["book","number","rows","form","tree","free"] ["book","number"] (aq pO)=true:=by ac_rfl
theorem af1:CK ["book","number","rows","form","tree","free"] pO f38 {} mC:=by ac_rfl
def pP:Stmt:=S 56
theorem af2:fnB ["book"] ["book"] (aq pP)=true:=by ac_rfl
theorem af3:CK ["book"] pP f39 {} mD:=by ac_rfl
def pQ:Stmt:=S 14
theorem af4:fnB ["form","word"] ["form","word"] (aq pQ)=true:=by ac_rfl
theorem af5:CK ["form","word"] pQ f40 {} mF:=by ac_rfl
def pR:Stmt:=S 15
theorem af6:fnB ["form","other"] ["form","other"] (aq pR)=true:=by ac_rfl
theorem af7:CK ["form","other"] pR f41 {} mG:=by ac_rfl
def pU:Stmt:=S 18
theorem af8:fnB ["form","other","unlike"] ["form","other"] (aq pU)=true:=by ac_rfl
theorem af9:CK ["form","other","unlike"] pU f42 {} mH:=by ac_rfl
def pW:Stmt:=S 43
theorem aga:fnB ["book","number","width","rows"] ["book","number"] (aq pW)=true:=by ac_rfl
theorem agb:CK ["book","number","width","rows"] pW f43 {} mJ:=by ac_rfl
def pX:Stmt:=S 47
theorem agc:fnB ["book","one","other","at","width","rows","form","grown"] ["book","one","other","at"] (aq pX)=true:=by ac_rfl
theorem agd:CK ["book","one","other","at","width","rows","form","grown"] pX f44 {} mK:=by ac_rfl
def pY:Stmt:=S 48
theorem age:fnB ["book","many","numbers","made"] ["book"] (aq pY)=true:=by ac_rfl
theorem agf:CK ["book","many","numbers","made"] pY f45 {} mL:=by ac_rfl
def pZ:Stmt:=S 41
theorem agg:fnB ["one","other","name","shown"] ["one","other"] (aq pZ)=true:=by ac_rfl
theorem agh:CK ["one","other","name","shown"] pZ f46 {} mO:=by ac_rfl
def p6:Stmt:=S 49
theorem agi:fnB ["book"] ["book"] (aq p6)=true:=by ac_rfl
theorem agj:CK ["book"] p6 f47 {} mQ:=by ac_rfl
def p7:Stmt:=S 44
theorem agk:fnB ["book","number","name","shown"] ["book","number"] (aq p7)=true:=by ac_rfl
theorem agl:CK ["book","number","name","shown"] p7 f48 {} mR:=by ac_rfl
def p8:Stmt:=S 51
theorem agm:fnB ["book","one","other","at","made"] ["book"] (aq p8)=true:=by ac_rfl
theorem agn:CK ["book","one","other","at","made"] p8 f49 {} mU:=by ac_rfl
def qb:Stmt:=S 52
theorem ago:fnB ["book","left","made"] ["book"] (aq qb)=true:=by ac_rfl
theorem agp:CK ["book","left","made"] qb f50 {} mV:=by ac_rfl
def qd:Stmt:=S 45
theorem agq:fnB ["book","left","number"] ["book"] (aq qd)=true:=by ac_rfl
theorem agr:CK ["book","left","number"] qd f51 {} mW:=by ac_rfl
def qe:Stmt:=S 53
theorem ags:fnB ["book","left","pressed"] ["book"] (aq qe)=true:=by ac_rfl
theorem agt:CK ["book","left","pressed"] qe f52 {} mX:=by ac_rfl
def qg:Stmt:=S 73
theorem agu:fnB ["book","found"] ["book","found"] (aq qg)=true:=by ac_rfl
theorem agv:CK ["book","found"] qg f53 {} yS:=by ac_rfl
def qi:Stmt:=S 50
theorem agw:fnB ["book","one","other","at","made","word"] ["book","one","other","at"] (aq qi)=true:=by ac_rfl
theorem agx:CK ["book","one","other","at","made","word"] qi f54 {} mY:=by ac_rfl
def qj:Stmt:=S 74
theorem agy:fnB ["pen","book","width","rows","at","form","one","place","two","longer"] ["pen","book"] (aq qj)=true:=by ac_rfl
theorem agz:CK ["pen","book","width","rows","at","form","one","place","two","longer"] qj f55 {} yU:=by ac_rfl
def ql:Stmt:=S 75
theorem agA:fnB ["script","pen","turn","book","some","one","other","at","built"] ["script"] (aq ql)=true:=by ac_rfl
theorem agB:CK ["script","pen","turn","book","some","one","other","at","built"] ql f56 {} yV:=by ac_rfl
theorem Q5:(Str.ofString "0":Str)=tx [48]:=by ac_rfl
theorem agC:(Str.ofString "*":Str)=tx [42]:=by ac_rfl
theorem agD:FnScope ["form"] ["form"] (aq oX):=⟨rfl,rfl,rfl,by ac_rfl,rfl,by ac_rfl,by ac_rfl⟩
def agE:Sp:=λvs H Q _=>∃l:List Nat,vs=[.str (tx l)]/\l.length<=1000/\Q (.str (tx (bH l))) H
theorem agF {P:Program} {w:World} {K:PF} {mg:Str->Option Value} {base:Heap} {f:Addr} {fd:FuncData} (F:Fun K "least" "least" oX f fd):FnOk P w K mg base CX0 1 f fd ["form"] agE:=by
 refine F.ok1 agD rfl (by ac_rfl) (λ_=>rfl) (λvs H Q E h=>?_) (λcdv A outer s H vs Q E hr h=>?_)
 ·obtain ⟨l,rfl,_⟩:=h;rfl
 ·obtain ⟨l,rfl,hl,q⟩:=h;refine ⟨_,X4 (X6 (pv 0) (by ac_rfl)),?_⟩;refine ⟨_,rfl,_,rfl,?_,?_⟩
  ·rw[Q5,bZ,bZ];simp;omega
  ·rw[agC,Q5,X5];exact q
theorem agG {P:Program} {w:World} {K:PF} {mg:Str->Option Value} {base:Heap} {f:Addr} {fd:FuncData} (F:Fun K "least" "least" oX f fd):FnOk P w K mg base CX0 1 f fd ["form"] (lift K 1 (aK jb)):=by
 refine (agF F).imp λvs H Q E h=>?_;obtain ⟨e0,Fz,G,ds,r,t,⟨ds',G'⟩,⟨e1,e2⟩,e3,e4⟩:=h;cases e1;obtain ⟨d,hd⟩:=Option.isSome_iff_exists.mp e2;have hd2:=hd;unfold jb at hd;split at hd
 ·rename_i l;split at hd
  ·rename_i hl;cases hd;obtain ⟨v,rfl,rv⟩:=bI t;obtain ⟨rfl,_⟩:=rv;have hl':l.length<=1000:=of_decide_eq_true hl;exact ⟨l,rfl,hl',(e3 _ _ ⟨rfl,hd2⟩).now r ⟨rfl,by unfold bH;rw[List.length_map];exact Nat.le_trans hl' (by decide)⟩⟩
  ·cases hd
 ·cases hd
noncomputable def fdM(n:Str)(st:Stmt)(m:Str)(t c:Nat):FuncData:=PySem.W.fnOf n n (j8 st) (aF st) (aq st) .none .none .none (.str m t) none (.ref c) .none
theorem mkF {K:PF} {n m:Str} {st:Stmt} {a t c:Nat}(l:K.lookup a=some ⟨.type "function",none,.func (fdM n st m t c),⟨[]⟩⟩:=by rfl')(h1:PySem.W.codeIn K (.ref c) n=true:=by eq_refl)(h2:PySem.W.keepIn K (.ref a)=true:=by eq_refl):Fun K n n st a (fdM n st m t c):=XC l h1 h2
theorem tK:type_of% @PySem.W.Fast.te538113369711794958:=PySem.W.Fast.te538113369711794958
local macro_rules|`(tactic|ac_nf)=>`(tactic|(intro _ _ _ _ _ _ us hl;first|(obtain ⟨_,h⟩:=cL hl;subst h;rfl)|(obtain ⟨_,_,h⟩:=bz hl;subst h;rfl)|(obtain ⟨_,_,_,h⟩:=eO hl;subst h;rfl)|(obtain ⟨_,_,_,_,h⟩:=Nm hl;subst h;rfl)))
local macro_rules|`(tactic|eq_refl)=>`(tactic|(first|rw[tK]|(unfold NQ;rw[tK]));rfl')
section
variable {P:Params}
def Q6:FuncData:=fdM "_law_anew" nY LN 639 365
theorem Q7:Fun (HK.K P) "_law_anew" "_law_anew" nY 366 Q6:=mkF
theorem agH:NQ P "_law_anew" 366:=by eq_refl
theorem agI:BQ P Q6 ["pen"]:=Q7.binds (by ac_nf)
def Q8:FuncData:=fdM "_law_spread" nZ LN 639 351
theorem Q9:Fun (HK.K P) "_law_spread" "_law_spread" nZ 352 Q8:=mkF
theorem agJ:NQ P "_law_spread" 352:=by eq_refl
theorem agK:BQ P Q8 ["cell","at"]:=Q9.binds (by ac_nf)
def Ra:FuncData:=fdM "_law_take" n6 LN 639 372
theorem Rb:Fun (HK.K P) "_law_take" "_law_take" n6 373 Ra:=mkF
theorem agL:NQ P "_law_take" 373:=by eq_refl
theorem agM:BQ P Ra ["pen","many"]:=Rb.binds (by ac_nf)
def Rc:FuncData:=fdM "_law_signs" n8 LN 639 377
theorem Rf:Fun (HK.K P) "_law_signs" "_law_signs" n8 378 Rc:=mkF
theorem agN:NQ P "_law_signs" 378:=by eq_refl
theorem agO:BQ P Rc ["pen","width","signs"]:=Rf.binds (by ac_nf)
def Rg:FuncData:=fdM "_law_deeds_of" oh LN 639 410
theorem Rh:Fun (HK.K P) "_law_deeds_of" "_law_deeds_of" oh 411 Rg:=mkF
theorem agP:NQ P "_law_deeds_of" 411:=by eq_refl
theorem agQ:BQ P Rg ["pen","most"]:=Rh.binds (by ac_nf)
def Ri:FuncData:=fdM "_law_form" ou LN 639 384
theorem Rj:Fun (HK.K P) "_law_form" "_law_form" ou 385 Ri:=mkF
theorem agR:NQ P "_law_form" 385:=by eq_refl
theorem agS:BQ P Ri ["pen","width"]:=Rj.binds (by ac_nf)
def Rk:FuncData:=fdM "_law_wider" oA LN 639 398
theorem Rm:Fun (HK.K P) "_law_wider" "_law_wider" oA 399 Rk:=mkF
theorem agT:NQ P "_law_wider" 399:=by eq_refl
theorem agU:BQ P Rk ["pen","form"]:=Rm.binds (by ac_nf)
def Rn:FuncData:=fdM "_law_within" oE LN 639 391
theorem Ro:Fun (HK.K P) "_law_within" "_law_within" oE 392 Rn:=mkF
theorem agV:NQ P "_law_within" 392:=by eq_refl
theorem agW:BQ P Rn ["pen","form"]:=Ro.binds (by ac_nf)
def Rp:FuncData:=fdM "_law_form_like" oF LN 639 405
theorem Rq:Fun (HK.K P) "_law_form_like" "_law_form_like" oF 406 Rp:=mkF
theorem agX:NQ P "_law_form_like" 406:=by eq_refl
theorem agY:BQ P Rp ["pen","width","forms"]:=Rq.binds (by ac_nf)
def Rt:FuncData:=fdM "_law_book" oG LN 639 417
theorem Ru:Fun (HK.K P) "_law_book" "_law_book" oG 418 Rt:=mkF
theorem agZ:NQ P "_law_book" 418:=by eq_refl
theorem ag0:BQ P Rt ["pen","widest","most"]:=Ru.binds (by ac_nf)
def Rv:FuncData:=fdM "_law_meet" oH LN 639 422
theorem Rw:Fun (HK.K P) "_law_meet" "_law_meet" oH 423 Rv:=mkF
theorem ag1:NQ P "_law_meet" 423:=by eq_refl
theorem ag2:BQ P Rv ["form","other"]:=Rw.binds (by ac_nf)
def Rx:FuncData:=fdM "_law_one_turning" oJ LN 639 427
theorem Ry:Fun (HK.K P) "_law_one_turning" "_law_one_turning" oJ 428 Rx:=mkF
theorem ag3:NQ P "_law_one_turning" 428:=by eq_refl
theorem ag4:BQ P Rx ["pen","rows"]:=Ry.binds (by ac_nf)
def Rz:FuncData:=fdM "_law_turned_alike" oK LN 639 434
theorem RB:Fun (HK.K P) "_law_turned_alike" "_law_turned_alike" oK 435 Rz:=mkF
theorem ag5:NQ P "_law_turned_alike" 435:=by eq_refl
theorem ag6:BQ P Rz ["pen","book","times"]:=RB.binds (by ac_nf)
def RC:FuncData:=fdM "_law_join_book" oM LN 639 441
theorem RD:Fun (HK.K P) "_law_join_book" "_law_join_book" oM 442 RC:=mkF
theorem ag7:NQ P "_law_join_book" 442:=by eq_refl
theorem ag8:BQ P RC ["pen","widest","most"]:=RD.binds (by ac_nf)
def RG:FuncData:=fdM "_law_open" oN LN 639 358
theorem RJ:Fun (HK.K P) "_law_open" "_law_open" oN 359 RG:=mkF
theorem ag9:NQ P "_law_open" 359:=by eq_refl
theorem aha:BQ P RG ["script"]:=RJ.binds (by ac_nf)
def RK:FuncData:=fdM "both" oO "starsieve.forms" 296 152
theorem RL:Fun (HK.K P) "both" "both" oO 153 RK:=mkF
theorem ahb:NQ P "both" 153:=by eq_refl
theorem lH:BQ P RK ["form","other"]:=RL.binds (by ac_nf)
def RM:FuncData:=fdM "first_touching" oR "starsieve.laid" 442 237
theorem RN:Fun (HK.K P) "first_touching" "first_touching" oR 238 RM:=mkF
theorem ahc:NQ P "first_touching" 238:=by eq_refl
theorem lJ:BQ P RM ["rows","box"]:=RN.binds (by ac_nf)
def RP:FuncData:=fdM "splitting_place" oU "starsieve.laid" 442 244
theorem RQ:Fun (HK.K P) "splitting_place" "splitting_place" oU 245 RP:=mkF
theorem ahd:NQ P "splitting_place" 245:=by eq_refl
theorem lK:BQ P RP ["rows","box"]:=RQ.binds (by ac_nf)
def RT:FuncData:=fdM "with_sign" oV "starsieve.forms" 296 145
theorem RV:Fun (HK.K P) "with_sign" "with_sign" oV 146 RT:=mkF
theorem ahe:NQ P "with_sign" 146:=by eq_refl
theorem lL:BQ P RT ["form","at","sign"]:=RV.binds (by ac_nf)
def Bb:FuncData:=fdM "grown" oW "starsieve.laid" 442 249
theorem vp:Fun (HK.K P) "grown" "grown" oW 250 Bb:=mkF
theorem RW:NQ P "grown" 250:=by eq_refl
theorem jK:BQ P Bb ["name","many_rows","box"]:=vp.binds (by ac_nf)
def RX:FuncData:=fdM "least" oX "starsieve.forms" 296 164
theorem Bc:Fun (HK.K P) "least" "least" oX 165 RX:=mkF
theorem ahf:NQ P "least" 165:=by eq_refl
theorem ahg:BQ P RX ["form"]:=Bc.binds (by ac_nf)
def RZ:FuncData:=fdM "is_named" oY "starsieve.laid" 442 223
theorem R0:Fun (HK.K P) "is_named" "is_named" oY 224 RZ:=mkF
theorem ahh:NQ P "is_named" 224:=by eq_refl
theorem lM:BQ P RZ ["name","many","thing"]:=R0.binds (by ac_nf)
def R1:FuncData:=fdM "is_whole" oZ "starsieve.forms" 296 100
theorem R3:Fun (HK.K P) "is_whole" "is_whole" oZ 101 R1:=mkF
theorem ahi:NQ P "is_whole" 101:=by eq_refl
theorem lN:BQ P R1 ["thing"]:=R3.binds (by ac_nf)
def R4:FuncData:=fdM "is_place" o9 "starsieve.forms" 296 114
theorem R5:Fun (HK.K P) "is_place" "is_place" o9 115 R4:=mkF
theorem ahj:NQ P "is_place" 115:=by eq_refl
theorem lO:BQ P R4 ["many","thing"]:=R5.binds (by ac_nf)
def Bd:FuncData:=fdM "leaves" ph "starsieve.laid" 442 230
theorem vq:Fun (HK.K P) "leaves" "leaves" ph 231 Bd:=mkF
theorem R6:NQ P "leaves" 231:=by eq_refl
theorem iR:BQ P Bd ["box","tree"]:=vq.binds (by ac_nf)
def R7:FuncData:=fdM "is_deed" pq "starsieve.books" 383 169
theorem R8:Fun (HK.K P) "is_deed" "is_deed" pq 170 R7:=mkF
theorem ahk:NQ P "is_deed" 170:=by eq_refl
theorem lQ:BQ P R7 ["thing"]:=R8.binds (by ac_nf)
def R9:FuncData:=fdM "is_text_of" pA "starsieve.forms" 296 119
theorem Sd:Fun (HK.K P) "is_text_of" "is_text_of" pA 120 R9:=mkF
theorem ahl:NQ P "is_text_of" 120:=by eq_refl
theorem lR:BQ P R9 ["signs","width","thing"]:=Sd.binds (by ac_nf)
def Sg:FuncData:=fdM "is_form" pB "starsieve.forms" 296 126
theorem Sh:Fun (HK.K P) "is_form" "is_form" pB 127 Sg:=mkF
theorem ahm:NQ P "is_form" 127:=by eq_refl
theorem lU:BQ P Sg ["width","thing"]:=Sh.binds (by ac_nf)
def Sq:FuncData:=fdM "is_row" pC "starsieve.books" 383 176
theorem Ss:Fun (HK.K P) "is_row" "is_row" pC 177 Sq:=mkF
theorem ahn:NQ P "is_row" 177:=by eq_refl
theorem lV:BQ P Sq ["width","thing"]:=Ss.binds (by ac_nf)
def Su:FuncData:=fdM "is_width" pF "starsieve.forms" 296 107
theorem Sv:Fun (HK.K P) "is_width" "is_width" pF 108 Su:=mkF
theorem aho:NQ P "is_width" 108:=by eq_refl
theorem lW:BQ P Su ["thing"]:=Sv.binds (by ac_nf)
def Sw:FuncData:=fdM "is_book" pG "starsieve.books" 383 181
theorem Sy:Fun (HK.K P) "is_book" "is_book" pG 182 Sw:=mkF
theorem ahp:NQ P "is_book" 182:=by eq_refl
theorem lX:BQ P Sw ["thing"]:=Sy.binds (by ac_nf)
def SJ:FuncData:=fdM "need_book" pH "starsieve.books" 383 188
theorem SM:Fun (HK.K P) "need_book" "need_book" pH 189 SJ:=mkF
theorem ahq:NQ P "need_book" 189:=by eq_refl
theorem lY:BQ P SJ ["book"]:=SM.binds (by ac_nf)
def SN:FuncData:=fdM "need_two_books" pI "starsieve.books" 383 195
theorem SQ:Fun (HK.K P) "need_two_books" "need_two_books" pI 196 SN:=mkF
theorem ahr:NQ P "need_two_books" 196:=by eq_refl
theorem lZ:BQ P SN ["one","other"]:=SQ.binds (by ac_nf)
def SX:FuncData:=fdM "deed_of" pJ "starsieve.books" 383 209
theorem S5:Fun (HK.K P) "deed_of" "deed_of" pJ 210 SX:=mkF
theorem ahs:NQ P "deed_of" 210:=by eq_refl
theorem jL:BQ P SX ["book","number"]:=S5.binds (by ac_nf)
def S6:FuncData:=fdM "same_deeds" pK "starsieve.alike" 498 256
theorem S7:Fun (HK.K P) "same_deeds" "same_deeds" pK 257 S6:=mkF
theorem aht:NQ P "same_deeds" 257:=by eq_refl
theorem mj:BQ P S6 ["one","other","leaf"]:=S7.binds (by ac_nf)
def S8:FuncData:=fdM "stars" pL "starsieve.laid" 442 216
theorem S9:Fun (HK.K P) "stars" "stars" pL 217 S8:=mkF
theorem ahu:NQ P "stars" 217:=by eq_refl
theorem mq:BQ P S8 ["width"]:=S9.binds (by ac_nf)
def Tc:FuncData:=fdM "alike" pM "starsieve.alike" 498 261
theorem Td:Fun (HK.K P) "alike" "alike" pM 262 Tc:=mkF
theorem ahv:NQ P "alike" 262:=by eq_refl
theorem my:BQ P Tc ["one","other"]:=Td.binds (by ac_nf)
def Te:FuncData:=fdM "need_row" pN "starsieve.books" 383 202
theorem Tf:Fun (HK.K P) "need_row" "need_row" pN 203 Te:=mkF
theorem ahw:NQ P "need_row" 203:=by eq_refl
theorem mz:BQ P Te ["book","number"]:=Tf.binds (by ac_nf)
def Th:FuncData:=fdM "reach" pO "starsieve.reached" 625 339
theorem Ti:Fun (HK.K P) "reach" "reach" pO 340 Th:=mkF
theorem ahx:NQ P "reach" 340:=by eq_refl
theorem mC:BQ P Th ["book","number"]:=Ti.binds (by ac_nf)
def Tj:FuncData:=fdM "hidden" pP "starsieve.reached" 625 344
theorem Tn:Fun (HK.K P) "hidden" "hidden" pP 345 Tj:=mkF
theorem ahy:NQ P "hidden" 345:=by eq_refl
theorem mD:BQ P Tj ["book"]:=Tn.binds (by ac_nf)
def Tp:FuncData:=fdM "fits" pQ "starsieve.forms" 296 131
theorem Tq:Fun (HK.K P) "fits" "fits" pQ 132 Tp:=mkF
theorem ahz:NQ P "fits" 132:=by eq_refl
theorem mF:BQ P Tp ["form","word"]:=Tq.binds (by ac_nf)
def Tt:FuncData:=fdM "lies_in" pR "starsieve.forms" 296 138
theorem Tu:Fun (HK.K P) "lies_in" "lies_in" pR 139 Tt:=mkF
theorem ahA:NQ P "lies_in" 139:=by eq_refl
theorem mG:BQ P Tt ["form","other"]:=Tu.binds (by ac_nf)
def Tv:FuncData:=fdM "joined" pU "starsieve.forms" 296 157
theorem Tw:Fun (HK.K P) "joined" "joined" pU 158 Tv:=mkF
theorem ahB:NQ P "joined" 158:=by eq_refl
theorem mH:BQ P Tv ["form","other"]:=Tw.binds (by ac_nf)
def Tz:FuncData:=fdM "without" pW "starsieve.lean" 525 275
theorem TF:Fun (HK.K P) "without" "without" pW 276 Tz:=mkF
theorem ahC:NQ P "without" 276:=by eq_refl
theorem mJ:BQ P Tz ["book","number"]:=TF.binds (by ac_nf)
def TQ:FuncData:=fdM "joined_book" pX "starsieve.joins" 556 296
theorem TV:Fun (HK.K P) "joined_book" "joined_book" pX 297 TQ:=mkF
theorem ahD:NQ P "joined_book" 297:=by eq_refl
theorem mK:BQ P TQ ["book","one","other","at"]:=TV.binds (by ac_nf)
def TX:FuncData:=fdM "candidates" pY "starsieve.joins" 556 301
theorem TY:Fun (HK.K P) "candidates" "candidates" pY 302 TX:=mkF
theorem ahE:NQ P "candidates" 302:=by eq_refl
theorem mL:BQ P TX ["book"]:=TY.binds (by ac_nf)
def T3:FuncData:=fdM "parting_word" pZ "starsieve.alike" 498 268
theorem T4:Fun (HK.K P) "parting_word" "parting_word" pZ 269 T3:=mkF
theorem ahF:NQ P "parting_word" 269:=by eq_refl
theorem mO:BQ P T3 ["one","other"]:=T4.binds (by ac_nf)
def T5:FuncData:=fdM "joins" p6 "starsieve.joins" 556 306
theorem T6:Fun (HK.K P) "joins" "joins" p6 307 T5:=mkF
theorem ahG:NQ P "joins" 307:=by eq_refl
theorem mQ:BQ P T5 ["book"]:=T6.binds (by ac_nf)
def T7:FuncData:=fdM "needless" p7 "starsieve.lean" 525 282
theorem T8:Fun (HK.K P) "needless" "needless" p7 283 T7:=mkF
theorem ahH:NQ P "needless" 283:=by eq_refl
theorem mR:BQ P T7 ["book","number"]:=T8.binds (by ac_nf)
def T9:FuncData:=fdM "first_joined" p8 "starsieve.joins" 556 320
theorem Ua:Fun (HK.K P) "first_joined" "first_joined" p8 321 T9:=mkF
theorem ahI:NQ P "first_joined" 321:=by eq_refl
theorem mU:BQ P T9 ["book"]:=Ua.binds (by ac_nf)
def Ub:FuncData:=fdM "all_joined" qb "starsieve.joins" 556 327
theorem Uc:Fun (HK.K P) "all_joined" "all_joined" qb 328 Ub:=mkF
theorem ahJ:NQ P "all_joined" 328:=by eq_refl
theorem mV:BQ P Ub ["book"]:=Uc.binds (by ac_nf)
def Ud:FuncData:=fdM "lean" qd "starsieve.lean" 525 289
theorem Ue:Fun (HK.K P) "lean" "lean" qd 290 Ud:=mkF
theorem ahK:NQ P "lean" 290:=by eq_refl
theorem mW:BQ P Ud ["book"]:=Ue.binds (by ac_nf)
def Ug:FuncData:=fdM "press" qe "starsieve.joins" 556 334
theorem Uh:Fun (HK.K P) "press" "press" qe 335 Ug:=mkF
theorem ahL:NQ P "press" 335:=by eq_refl
theorem mX:BQ P Ug ["book"]:=Uh.binds (by ac_nf)
def Ui:FuncData:=fdM "_law_pressed_right" qg LN 639 446
theorem Uj:Fun (HK.K P) "_law_pressed_right" "_law_pressed_right" qg 447 Ui:=mkF
theorem ahM:NQ P "_law_pressed_right" 447:=by eq_refl
theorem ahN:BQ P Ui ["book","found"]:=Uj.binds (by ac_nf)
def Uk:FuncData:=fdM "join" qi "starsieve.joins" 556 313
theorem Ul:Fun (HK.K P) "join" "join" qi 314 Uk:=mkF
theorem ahO:NQ P "join" 314:=by eq_refl
theorem mY:BQ P Uk ["book","one","other","at"]:=Ul.binds (by ac_nf)
def Um:FuncData:=fdM "_law_split_right" qj LN 639 451
theorem Uo:Fun (HK.K P) "_law_split_right" "_law_split_right" qj 452 Um:=mkF
theorem ahP:NQ P "_law_split_right" 452:=by eq_refl
theorem ahQ:BQ P Um ["pen","book"]:=Uo.binds (by ac_nf)
def Be:FuncData:=fdM "law" ql LN 639 458
theorem ahR:Fun (HK.K P) "law" "law" ql 459 Be:=mkF
theorem ahS:NQ P "law" 459:=by eq_refl
theorem ahT:PySem.W.nsIn (HK.K P) mainGlobals "all"=some none:=by eq_refl
theorem ahU:PySem.W.nsIn (HK.K P) mainGlobals "bool"=some none:=by eq_refl
theorem ahV:PySem.W.nsIn (HK.K P) mainGlobals "enumerate"=some none:=by eq_refl
theorem ahW:PySem.W.nsIn (HK.K P) mainGlobals "int"=some none:=by eq_refl
theorem ahX:PySem.W.nsIn (HK.K P) mainGlobals "isinstance"=some none:=by eq_refl
theorem ahY:PySem.W.nsIn (HK.K P) mainGlobals "len"=some none:=by eq_refl
theorem ahZ:PySem.W.nsIn (HK.K P) mainGlobals "list"=some none:=by eq_refl
theorem ah0:PySem.W.nsIn (HK.K P) mainGlobals "min"=some none:=by eq_refl
theorem ah1:PySem.W.nsIn (HK.K P) mainGlobals "range"=some none:=by eq_refl
theorem ah2:PySem.W.nsIn (HK.K P) mainGlobals "reversed"=some none:=by eq_refl
theorem ah3:PySem.W.nsIn (HK.K P) mainGlobals "str"=some none:=by eq_refl
theorem ah4:PySem.W.nsIn (HK.K P) mainGlobals "tuple"=some none:=by eq_refl
theorem ah5:PySem.W.nsIn (HK.K P) mainGlobals "zip"=some none:=by eq_refl
theorem ah6:PySem.W.nsIn (HK.K P) mainGlobals "LETTERS"=some (some (.str "abcdefghijklmnopqrstuvwxyz" 389)):=by eq_refl
theorem ah7:PySem.W.nsIn (HK.K P) mainGlobals "LONGEST_DEED"=some (some (.int 8 387)):=by eq_refl
theorem ah8:PySem.W.nsIn (HK.K P) mainGlobals "MOST_ROWS"=some (some (.int 12 385)):=by eq_refl
theorem ah9:PySem.W.nsIn (HK.K P) mainGlobals "WIDEST"=some (some (.int 6 298)):=by eq_refl
theorem x_s:xsB (HK.K P) xs=true:=by eq_refl
end
section
variable {l:PySem.W.OpenLaw} {w:World} {h:Heap} {mg:Str->Option Value} {base:Heap} (X:(HK.K w.params).In h) (G:h.Ns mainGlobals mg)
include X G
theorem B0:BB l w mg base 0 f0 {}:=bse trivial ⟨mg_none_of X G ahT,mg_none_of X G ahU,mg_none_of X G ahV,mg_none_of X G ahW,mg_none_of X G ahX,mg_none_of X G ahY,mg_none_of X G ahZ,mg_none_of X G ah0,mg_none_of X G ah1,mg_none_of X G ah2,mg_none_of X G ah3,mg_none_of X G ah4,mg_none_of X G ah5,trivial⟩ ⟨ack (mg_of X G ah6) (by ac_rfl) (by decide),yC (mg_of X G ah7),yC (mg_of X G ah8),yC (mg_of X G ah9),trivial⟩ X G x_s
theorem B1:BB l w mg base 1 f1 {}:=(B0 X G).step Q7 agI (mg_of X G agH) Qm 0 aeN aeO rfl rfl (cJ (λds G h=>acq Φ  ds G h))
theorem B2:BB l w mg base 2 f2 {}:=(B1 X G).step Q9 agK (mg_of X G agJ) Qn 3 aeP aeQ rfl rfl (cJ (λds G h=>acp Φ  ds G h))
theorem B3:BB l w mg base 3 f3 {}:=(B2 X G).step Rb agM (mg_of X G agL) dR 3 aeR aeS rfl rfl (cJ (λds G h=>acr Φ Qn ds G h))
theorem B4:BB l w mg base 4 f4 {}:=(B3 X G).step Rf agO (mg_of X G agN) Ak 0 aeT aeU rfl rfl (cJ (λds G h=>acv Φ dR ds G h))
theorem B5:BB l w mg base 5 f5 {}:=(B4 X G).step Rh agQ (mg_of X G agP) Qo 4 aeV aeW rfl rfl (cJ (λds G h=>acK Φ dR Ak ds G h))
theorem B6:BB l w mg base 6 f6 {}:=(B5 X G).step Rj agS (mg_of X G agR) Qp 0 aeX aeY rfl rfl (cJ (λds G h=>acw Φ dR Ak ds G h))
theorem B7:BB l w mg base 7 f7 {}:=(B6 X G).step Rm agU (mg_of X G agT) Qq 2 aeZ ae0 rfl rfl (cJ (λds G h=>acC Φ dR ds G h))
theorem B8:BB l w mg base 8 f8 {}:=(B7 X G).step Ro agW (mg_of X G agV) Al 2 ae1 ae2 rfl rfl (cJ (λds G h=>acB Φ dR ds G h))
theorem B9:BB l w mg base 9 f9 {}:=(B8 X G).step Rq agY (mg_of X G agX) Qs 3 ae3 ae4 rfl rfl (cJ (λds G h=>acH Φ dR Qp Al Qq ds G h))
theorem B10:BB l w mg base 10 f10 {}:=(B9 X G).step Ru ag0 (mg_of X G agZ) Qt 5 ae5 ae6 rfl rfl (cJ (λds G h=>acN Φ dR Qo Qs ds G h))
theorem B11:BB l w mg base 11 f11 {}:=(B10 X G).step Rw ag2 (mg_of X G ag1) Qu 0 ae7 ae8 rfl rfl (bW (λa G h=>ad3 Φ  a G h))
theorem B12:BB l w mg base 12 f12 {}:=(B11 X G).step Ry ag4 (mg_of X G ag3) Qv 7 ae9 afa rfl rfl (fK (λa ds G h=>ad7 Φ dR Al Qu a ds G h))
theorem B13:BB l w mg base 13 f13 {}:=(B12 X G).step RB ag6 (mg_of X G ag5) Qw 2 afb afc rfl rfl (fK (λa ds G h=>ad9 Φ Qv a ds G h))
theorem B14:BB l w mg base 14 f14 {}:=(B13 X G).step RD ag8 (mg_of X G ag7) Qx 1 afd afe rfl rfl (fK (λa ds G h=>aeF Φ Qt Qw dR a ds G h))
theorem B15:BB l w mg base 15 f15 {}:=(B14 X G).step RJ aha (mg_of X G ag9) Qy 3 afg afh rfl rfl (cJ (λds G h=>acx Φ  ds G h))
theorem B16:BB l w mg base 16 f16 {}:=(B15 X G).step RL lH (mg_of X G ahb) Qz 3 afi afj rfl rfl (gm (λds G d h=>ac8 Φ  ds G d h))
theorem B17:BB l w mg base 17 f17 {}:=(B16 X G).step RN lJ (mg_of X G ahc) Am 2 afk afl rfl rfl (cJ (λds G h=>adf Φ Qz ds G h))
theorem B18:BB l w mg base 18 f18 {}:=(B17 X G).step RQ lK (mg_of X G ahd) QB 3 afm afn rfl rfl (cJ (λds G h=>adi Φ Am ds G h))
theorem B19:BB l w mg base 19 f19 {}:=(B18 X G).step RV lL (mg_of X G ahe) vd 0 afo afp rfl rfl (gm (λds G d h=>ac9 Φ  ds G d h))
theorem Up:∀n:Nat,FnOk l.prog w (HK.K w.params) mg base (CX1 l.prog w) (19+n) 250 Bb ["name","many_rows","box"] (lift (HK.K w.params) 3 (eU n))
 |0=>Np ado
 |n+1=>ur (fs:=f20) vp ((B19 X G).self (by ac_rfl) (Up n) vp.kp jK (mg_of X G RW)) (eU (n+1)) 3 4 afq afr rfl rfl (cJ (λds G h=>adn (iQ Φ "grown" (eU n)) n (if_pos rfl) (jJ Am rfl) (jJ QB rfl) (jJ vd rfl) ds G h))
theorem B20:BB l w mg base 28 f20 {}:=(B19 X G).add (j:=9) An (Up X G 9) vp.kp jK (mg_of X G RW)
theorem B21:BB l w mg base 29 f21 {}:=(B20 X G).add (j:=1) Ao ((agG Bc).cx.mono (by decide)) Bc.kp ahg (mg_of X G ahf)
theorem B22:BB l w mg base 30 f22 {}:=(B21 X G).step R0 lM (mg_of X G ahh) QC 0 afs aft rfl rfl (gm (λds G d h=>adt Φ  ds G d h))
theorem B23:BB l w mg base 31 f23 {}:=(B22 X G).step R3 lN (mg_of X G ahi) Aq 0 afu afv rfl rfl (gm (λds G d h=>acy Φ  ds G d h))
theorem B24:BB l w mg base 32 f24 {}:=(B23 X G).step R5 lO (mg_of X G ahj) vf 0 afw afx rfl rfl (gm (λds G d h=>adq Φ Aq ds G d h))
theorem Uq:∀n:Nat,FnOk l.prog w (HK.K w.params) mg base (CX1 l.prog w) (32+n) 231 Bd ["box","tree"] (lift (HK.K w.params) 2 (dM n))
 |0=>Np adw
 |n+1=>ur (fs:=f25) vq ((B24 X G).self (by ac_rfl) (Uq n) vq.kp iR (mg_of X G R6)) (dM (n+1)) 2 3 afy afz rfl rfl (bW (λa G h=>ady (iQ Φ "leaves" (dM n)) n (if_pos rfl) (jJ QC rfl) (jJ vf rfl) (jJ vd rfl) a G h))
theorem B25:BB l w mg base 41 f25 {}:=(B24 X G).add (j:=9) Ar (Uq X G 9) vq.kp iR (mg_of X G R6)
theorem B26:BB l w mg base 42 f26 {}:=(B25 X G).step R8 lQ (mg_of X G ahk) QD 0 afA afB rfl rfl (bW (λa G h=>acU Φ  a G h))
theorem B27:BB l w mg base 43 f27 {}:=(B26 X G).step Sd lR (mg_of X G ahl) QF 0 afC afD rfl rfl (bW (λa G h=>acS Φ  a G h))
theorem B28:BB l w mg base 44 f28 {}:=(B27 X G).step Sh lU (mg_of X G ahm) QG 0 afE afF rfl rfl (bW (λa G h=>acT Φ QF a G h))
theorem B29:BB l w mg base 45 f29 {}:=(B28 X G).step Ss lV (mg_of X G ahn) QH 0 afG afH rfl rfl (bW (λa G h=>acV Φ QG QD a G h))
theorem B30:BB l w mg base 46 f30 {}:=(B29 X G).step Sv lW (mg_of X G aho) QJ 0 afI afJ rfl rfl (bW (λa G h=>acW Φ Aq a G h))
theorem B31:BB l w mg base 47 f31 {}:=(B30 X G).step Sy lX (mg_of X G ahp) Av 2 afK afL rfl rfl (bW (λa G h=>acX Φ QJ QH a G h))
theorem B32:BB l w mg base 48 f32 {}:=(B31 X G).step SM lY (mg_of X G ahq) je 0 afM afN rfl rfl (bW (λa G h=>acY Φ Av a G h))
theorem B33:BB l w mg base 49 f33 {}:=(B32 X G).step SQ lZ (mg_of X G ahr) QK 0 afO afP rfl rfl (bW (λa G h=>adP Φ je a G h))
theorem B34:BB l w mg base 50 f34 {}:=(B33 X G).step S5 jL (mg_of X G ahs) QL 0 afQ afR rfl rfl (cJ (λds G h=>ac2 Φ  ds G h))
theorem B35:BB l w mg base 51 f35 {}:=(B34 X G).step S7 mj (mg_of X G aht) QM 0 afS afT rfl rfl (bW (λa G h=>adR Φ QL a G h))
theorem B36:BB l w mg base 52 f36 {}:=(B35 X G).step S9 mq (mg_of X G ahu) QQ 0 afU afV rfl rfl (gm (λds G d h=>ada Φ  ds G d h))
theorem B37:BB l w mg base 53 f37 {}:=(B36 X G).step Td my (mg_of X G ahv) nW 3 afW afX rfl rfl (fK (λa ds G h=>adS Φ QK An Ar Ao QQ QM a ds G h))
theorem B38:BB l w mg base 54 f38 {}:=(B37 X G).step Tf mz (mg_of X G ahw) vg 0 afY afZ rfl rfl (bW (λa G h=>adH Φ je vf a G h))
theorem B39:BB l w mg base 55 f39 {}:=(B38 X G).step Ti mC (mg_of X G ahx) QR 4 af0 af1 rfl rfl (fK (λa ds G h=>adK Φ vg An Ar Ao a ds G h))
theorem B40:BB l w mg base 56 f40 {}:=(B39 X G).step Tn mD (mg_of X G ahy) QS 0 af2 af3 rfl rfl (fK (λa ds G h=>adN Φ je QR a ds G h))
theorem B41:BB l w mg base 57 f41 {}:=(B40 X G).step Tq mF (mg_of X G ahz) QT 0 af4 af5 rfl rfl (gm (λds G d h=>ac0 Φ  ds G d h))
theorem B42:BB l w mg base 58 f42 {}:=(B41 X G).step Tu mG (mg_of X G ahA) QV 0 af6 af7 rfl rfl (gm (λds G d h=>adC Φ QT ds G d h))
theorem B43:BB l w mg base 59 f43 {}:=(B42 X G).step Tw mH (mg_of X G ahB) QW 1 af8 af9 rfl rfl (gm (λds G d h=>aee Φ QV vd ds G d h))
theorem B44:BB l w mg base 60 f44 {}:=(B43 X G).step TF mJ (mg_of X G ahC) vh 2 aga agb rfl rfl (bW (λa G h=>adW Φ vg a G h))
theorem B45:BB l w mg base 61 f45 {}:=(B44 X G).step TV mK (mg_of X G ahD) Aw 4 agc agd rfl rfl (bW (λa G h=>aeg Φ QW vh a G h))
theorem B46:BB l w mg base 62 f46 {}:=(B45 X G).step TY mL (mg_of X G ahE) Ax 3 age agf rfl rfl (bW (λa G h=>aei Φ Aw a G h))
theorem B47:BB l w mg base 63 f47 {}:=(B46 X G).step T4 mO (mg_of X G ahF) vm 2 agg agh rfl rfl (bW (λa G h=>aea Φ nW a G h))
theorem B48:BB l w mg base 64 f48 {}:=(B47 X G).step T6 mQ (mg_of X G ahG) vo 0 agi agj rfl rfl (bW (λa G h=>aek Φ je Ax vm a G h))
theorem B49:BB l w mg base 65 f49 {}:=(B48 X G).step T8 mR (mg_of X G ahH) Ay 2 agk agl rfl rfl (fK (λa ds G h=>adX Φ nW vh a ds G h))
theorem B50:BB l w mg base 66 f50 {}:=(B49 X G).step Ua mU (mg_of X G ahI) QX 4 agm agn rfl rfl (bW (λa G h=>ael Φ Ax vm a G h))
theorem B51:BB l w mg base 67 f51 {}:=(B50 X G).step Uc mV (mg_of X G ahJ) QZ 2 ago agp rfl rfl (bW (λa G h=>aem Φ QX a G h))
theorem B52:BB l w mg base 68 f52 {}:=(B51 X G).step Ue mW (mg_of X G ahK) Q0 2 agq agr rfl rfl (bW (λa G h=>adY Φ je Ay vh a G h))
theorem B53:BB l w mg base 69 f53 {}:=(B52 X G).step Uh mX (mg_of X G ahL) Az 2 ags agt rfl rfl (bW (λa G h=>aeo Φ je QZ Q0 a G h))
theorem B54:BB l w mg base 70 f54 {}:=(B53 X G).step Uj ahN (mg_of X G ahM) Q3 0 agu agv rfl rfl (fK (λa ds G h=>aev Φ ⟨Av,nW,vo,QS,Az,Ay⟩ a ds G h))
theorem B55:BB l w mg base 71 f55 {}:=(B54 X G).step Ul mY (mg_of X G ahO) Ba 2 agw agx rfl rfl (bW (λa G h=>aer Φ vg vf Aw vm a G h))
theorem B56:BB l w mg base 72 f56 {}:=(B55 X G).step Uo ahQ (mg_of X G ahP) Q4 8 agy agz rfl rfl (fK (λa ds G h=>aeD Φ ⟨dR,vo,Ba⟩ a ds G h))
theorem aia:FnOk l.prog w (HK.K w.params) mg base (CX1 l.prog w) 73 459 Be ["script"] (lift (HK.K w.params) 1 (m5)):=ur ahR (B56 X G) (m5) 1 8 agA agB rfl rfl (cJ (λds G h=>aeG Φ ⟨Qy,Qm,dR,Qx,Q3,Az,vo,Ba,nW,Q4⟩ ds G h))
omit X G in
theorem all (fa:Addr) (X:(HK.K w.params).In h) (G:h.Ns mainGlobals mg) (hfa:mg "law"=some (.ref fa)):∃fd:FuncData,(∀(s:Shared) (v:Value),BindsTo s fd ⟨[v],[]⟩ [("script",v)])/\∀base:Heap,(HK.K w.params).In base->base.Ns mainGlobals mg->FnOk l.prog w (HK.K w.params) mg base (CX1 l.prog w) 73 fa fd ["script"] (lift (HK.K w.params) 1 (m5)):=by have e:=hfa.symm.trans (PySem.W.mg_of X G ahS);cases e;exact ⟨Be,λs v=>.of_eq rfl,λbase _ _=>aia X G⟩
end
theorem walk {l:PySem.W.OpenLaw} {q:Program} {loose:List Str} {XP:(Str->Option Value)->Heap->Prop} {d:DefRec} (hn:l.most=some 63) (hdf:d.params.defaults=[]) (hdn:d.name="law"):
  PySem.W.WalkO q loose XP HK.hook.says l.row.toRowW d [] (λf vs=>PySem.call f vs):=
 L2.Xz (n:=63) (k:=73) (x:="script") (K:=HK.K) (CX:=λw=>CX1 l.prog w) (sp:=λw=>lift (HK.K w.params) 1 (m5)) hn (by decide) hdf ⟨rfl,by decide,by decide⟩ (λ_ _ Y=>Y) (λw mg fa h X G hmg=>all fa X G (hdn ▸ hmg)) (λw H a ns hl hO hS=>acl (acn λns _ hl=>⟨ns,rfl,hl⟩) (HK.K w.params) H a ns hl hO hS) λ_ _ _ _ _ z=>ab9 z
end Lk44
open PySem PySem.W PyProof.Rows
set_option maxHeartbeats 0 in
theorem PySem.Challenge.cw_starsieve_k44_whole_pressed_ones_do_the_holds : PySem.Challenge.rw_starsieve_k44_whole_pressed_ones_do_the.Holds := by
 have said:PySem.Challenge.rw_starsieve_k44_whole_pressed_ones_do_the.row.wellSaid=true:=by ac_rfl
 refine ⟨by ac_rfl,?_⟩;refine PySem.W.holds_open (q:=HK.qv) (loose:=[]) (Xt:=HK.Xt) (XP:=XL HK.qv []) (Yf:=HK.hook.obs) (Ya:=HK.hook.val) (YP:=HK.hook.says) (N:=12000) HK.left HK.hook.of HK.hook.keeps
  (λs e=>xl_of s (Bool.and_eq_true_iff.mp e).1) XL.keeps (by rfl) (by rfl) (by rfl) (λs e=>recFacts_of (Bool.and_eq_true_iff.mp e).2) (by rfl) (by assumption) (by ac_rfl) ⟨rfl,rfl,rfl,rfl,rfl,by ac_rfl⟩ ?hw ?hc
 case hw=>exact ⟨[.list []],by ac_rfl,by ac_rfl⟩
 exact Lk44.walk rfl rfl rfl
