import PyProof.Rows.All
import Wide.All
import OpenK.AllK
import Wide.FinOn
import Lean
import PyProof.EqAt
import PyProof.EqKinds
import PyProof.TupleCall
import PyProof.NeKinds
import PyProof.FactsAll.range_2
import PyProof.FactsAll.tuple_2
import PyProof.FactsAll.tuple
import PyProof.ListRange
import PySem.Challenge.RW_starsieve_k62_changes_refused
set_option compiler.extract_closed false
set_option bootstrap.genMatcherCode false
set_option genSizeOf false
set_option genSizeOfSpec false
set_option Elab.async false
set_option maxRecDepth 100000
noncomputable section
local macro_rules|`(tactic|rfl')=>`(tactic|kernel_rfl)
local macro_rules|`(tactic|ac_rfl)=>`(tactic|decide +kernel)
abbrev PF:=PySem.W.Frag
set_option Elab.async false
set_option linter.all false
set_option maxRecDepth 100000
namespace L2
open PySem PySem.Spec PyProof.Rows
def ae:=@Bool.and_eq_true
def af:=@And.intro
def ag:=@PySem.wpAny_bind
def ah:=@PySem.Heap.get?_push_of_some
def al:=@List.length_map
def am:=@List.size_toArray
def ar:=@beq_iff_eq
def av:=@decide_eq_true
def aw:=@List.getElem?_eq_some_iff
def ax:=@List.length_append
def ay:=@PySem.Heap.lt_size
def aE:=@Nat.le_refl
def aI:=@List.mem_cons
def aS:=@Option.some.injEq
def aT:=@List.contains_iff_mem
def a7:=@PySem.wpAny_pure
def a8:=@List.mem_singleton
def a9:=@List.mem_append
def ba:=@Nat.lt_of_lt_of_le
def bb:=@PySem.Heap.get?_push_size
def bd:=@decide_eq_true_iff
def bg:=@List.mem_append_right
def bi:=@Option.map_eq_some_iff
def bn:=@List.getElem?_eq_getElem
def bo:=@List.all_eq_true
def bp:=@List.mem_cons_of_mem
def bq:=@Bool.false_ne_true
def br:=@decide_eq_false
theorem bv:type_of% @List.replicate_succ:=@List.replicate_succ
def bP:=@List.map_cons
def bS:=@Bool.and_true
def bX:=@Nat.ne_of_lt
def b6:=@List.drop_eq_getElem_cons
def b9:=@List.getElem?_map
theorem ca:type_of% @Int.toNat_natCast:=@Int.toNat_natCast
def cb:=@List.mem_cons_self
def ce:=@List.length_drop
def cf:=@List.mem_of_getElem?
def ci:=@List.length_take
def ck:=@List.length_replicate
def cm:=@Nat.le_add_right
def cp:=@PySem.wpAny_mono
def cq:=@Option.isSome_iff_exists
def cr:=@beq_eq_false_iff_ne
def cw:=@Nat.le_trans
def cy:=@Int.eq_ofNat_of_zero_le
theorem cK:type_of% @List.length_cons:=@List.length_cons
def cS:=@List.cons.injEq
def c8:=@Bool.or_eq_true
def dc:=@List.mem_map
def de:=@List.length_eq_zero_iff
def df:=@List.append_nil
def dk:=@of_decide_eq_true
def dn:=@PySem.W.kia_one
def dv:=@Option.some.inj
def dy:=@List.map_append
def dA:=@PySem.wpAny_field
def dE:=@PySem.F.plainAttrs_list
def dL:=@List.mem_append_left
def dP:=@List.getElem_mem
def dQ:=@PySem.Heap.size_push
theorem dS:type_of% @Array.length_toList:=@Array.length_toList
def d4:=@PySem.mem_of_lookup
theorem d5:type_of% @List.length_singleton:=@List.length_singleton
def d6:=@List.length_set
def ee:=@Nat.lt_irrefl
def ef:=@Bool.true_and
def eg:=@decide_eq_false_iff_not
def eh:=@List.take_of_length_le
def ej:=@PySem.wpAny_truthy_bool
def et:=@and_true
def ey:=@List.getD_eq_getElem?_getD
def ez:=@Bool.and_false
def eA:=@Option.isNone_iff_eq_none
def eD:=@List.getElem?_append_left
def eI:=@PySem.wpAny_setField_rec
def eJ:=@PySem.wpAny_seqItems
def eK:=@Nat.zero_le
def eL:=@List.map_nil
theorem eM:type_of% @List.flatten_cons:=@List.flatten_cons
def eP:=@Bool.not_eq_true'
def eR:=@List.eq_of_mem_replicate
def eS:=@PyProof.Rows.slot_tuple_getitem
def eT:=@List.isEmpty_iff
def eW:=@List.drop_length
def e7:=@Bool.false_and
def e8:=@PySem.wpAny_holding
def e9:=@Int.emod_lt_of_pos
def fb:=@PySem.wpAny_callSpecial?_slot
def fe:=@congrArg
def ff:=@List.dropLast_concat_getLast
def fg:=@Int.emod_nonneg
def fh:=@Array.getElem?_toList
def fi:=@PyProof.Rows.callWith_type1
def fk:=@PySem.wpAny_Call_Name_kw
def fm:=@PySem.call_meets
def fo:=@PySem.wpAny_execs_nil
def fq:=@Array.getElem?_eq_some_iff
def ft:=@List.not_mem_nil
theorem fv:type_of% @List.filterMap_cons:=@List.filterMap_cons
def fw:=@and_self
def fy:=@PySem.F.slot_tuple_iterator_next
def fA:=@List.mem_filter
def fE:=@PySem.W.callWith_K
def fF:=@Bool.false_eq_true
def fI:=@Nat.le_succ
def fN:=@List.findIdx?_eq_some_iff_getElem
def fR:=@Nat.ne_of_gt
def fS:=@List.getElem?_set_self
def fT:=@PySem.sizeLine_eq
def gc:=@List.cons_lt_cons_iff
def gd:=@Bool.and_eq_false_iff
def ge:=@Nat.lt_succ_self
def gg:=@List.take_length
def gi:=@Int.ofNat_inj
def gl:=@Bool.not_true
def gp:=@PySem.wpAny_loadPart_at
def gs:=@PySem.wpAny_rule
def gt:=@PySem.wpAny_execs_cons
def gu:=@PySem.wpAny_call_entry
abbrev Key:=Sum Int Str
def Bc:Key->Value->Bool
 |.inl k,v=>Value.isInt k v
 |.inr x,v=>Value.isStrOf x v
def Uk(w:World):Key->Int
 |.inl k=>hashInt k
 |.inr x=>hashStr w x
theorem fG:∀{k:Key}{v:Value},Bc k v=true->(∃i t,k=Sum.inl i/\v=Value.int i t)\/(∃x t,k=Sum.inr x/\v=Value.str x t)
 |.inl i,v,h=>by
  obtain ⟨t,e⟩:=Value.isInt_shape (k:=i) (v:=v) h;exact .inl ⟨i,t,rfl,e⟩
 |.inr x,v,h=>by
  obtain ⟨t,e⟩:=Value.isStrOf_shape (x:=x) (v:=v) h;exact .inr ⟨x,t,rfl,e⟩
theorem Ul(a b:Int):decide ((Sum.inl a:Key)=Sum.inl b)=(a==b):=by
 by_cases e:a=b
 ·subst e;simp
 ·have h:¬(Sum.inl a:Key)=Sum.inl b:=λq=>e (Sum.inl.inj q);rw[br h];exact (cr.mpr e).symm
theorem Um(a b:Str):decide ((Sum.inr a:Key)=Sum.inr b)=decide (a=b):=by
 by_cases e:a=b
 ·subst e;simp
 ·have h:¬(Sum.inr a:Key)=Sum.inr b:=λq=>e (Sum.inr.inj q);rw[br h,br e]
theorem Uo(a:Int)(b:Str):decide ((Sum.inl a:Key)=Sum.inr b)=false:=br (λq=>nomatch q)
theorem Up(a:Str)(b:Int):decide ((Sum.inr a:Key)=Sum.inl b)=false:=br (λq=>nomatch q)
def vI(prog:Program)(w:World):PySem.KeyKind prog w Key where
 is:=Bc
 hash:=Uk w
 inj:=λv a b ha hb=>by
  rcases fG ha with ⟨i,t,rfl,rfl⟩ |⟨x,t,rfl,rfl⟩
  ·rcases fG hb with ⟨j,u,rfl,e⟩ |⟨y,u,rfl,e⟩
   ·injection e with e1 _;rw[e1]
   ·exact nomatch e
  ·rcases fG hb with ⟨j,u,rfl,e⟩ |⟨y,u,rfl,e⟩
   ·exact nomatch e
   ·injection e with e1 _;rw[e1]
 byValue:=λk v h=>by
  rcases fG h with ⟨i,t,rfl,rfl⟩ |⟨x,t,rfl,rfl⟩ <;> rfl
 pyHash:=λhv h=>by
  rcases fG hv with ⟨i,t,rfl,rfl⟩ |⟨x,t,rfl,rfl⟩
  ·exact wpAny_pyHash_int h
  ·exact wpAny_pyHash_str h
 eqBool:=λhu hv h=>by
  rcases fG hu with ⟨i,t,rfl,rfl⟩ |⟨x,t,rfl,rfl⟩
  ·rcases fG hv with ⟨j,u,rfl,rfl⟩ |⟨y,u,rfl,rfl⟩
   ·rw[Ul]at h;exact wpAny_eqBool_int h
   ·rw[Uo]at h;exact SeqAt.EqAt.int_str i t y u _ _ _ _ h
  ·rcases fG hv with ⟨j,u,rfl,rfl⟩ |⟨y,u,rfl,rfl⟩
   ·rw[Up]at h;exact SeqAt.EqAt.str_int x t j u _ _ _ _ h
   ·rw[Um]at h;exact wpAny_eqBool_str h
 «strs»:=λk x t v h=>by
  rcases fG h with ⟨i,u,rfl,e⟩ |⟨y,u,rfl,e⟩
  ·exact nomatch e
  ·injection e with e1 _;subst e1;cases v <;> rfl
inductive V where
 |non |bl (b:Bool) |int (i:Int) |str (x:Str) |byt (b:Array UInt8) |flt (b:UInt64) |ref (a:Addr) |ty (n:String)
 deriving DecidableEq
def RelV:V->Value->Prop
 |.non,u=>u=Value.none
 |.bl b,u=>u=Value.bool b
 |.int i,u=>∃t,u=Value.int i t
 |.str x,u=>∃t,u=Value.str x t
 |.byt b,u=>∃t,u=Value.bytes b t
 |.flt b,u=>∃t,u=Value.float b t
 |.ref a,u=>u=Value.ref a
 |.ty n,u=>u=Value.type n
abbrev Vals:List V->List Value->Prop:=Paired RelV
theorem Vals.length{xs:List V}{us:List Value}(r:Vals xs us):xs.length=us.length:=Paired.length r
theorem Vals.get:∀{xs:List V}{us:List Value}{i:Nat}{x:V},Vals xs us->xs[i]?=some x->∃u,us[i]?=some u/\RelV x u
 |_,_,_,_,.nil,e=>by simp at e
 |_,_,0,_,.cons r _,e=>by simp at e;subst e;exact ⟨_,rfl,r⟩
 |_,_,i+1,x,.cons _ t,e=>by
  obtain ⟨u,h1,h2⟩:=Vals.get (i:=i) (x:=x) t (by simpa using e);exact ⟨u,by simpa using h1,h2⟩
theorem Vals.set{x:V}{u:Value}(r:RelV x u):∀{xs:List V}{us:List Value}(i:Nat),Vals xs us->Vals (xs.set i x) (us.set i u)
 |_,_,_,.nil=>.nil
 |_,_,0,.cons _ t=>.cons r t
 |_,_,i+1,.cons q t=>.cons q (Vals.set r i t)
theorem Vals.append:∀{xs ys:List V}{us ws:List Value},Vals xs us->Vals ys ws->Vals (xs++ys) (us++ws)
 |_,_,_,_,.nil,s=>s
 |_,_,_,_,.cons r t,s=>.cons r (Vals.append t s)
theorem Vals.take:∀{xs:List V}{us:List Value}(n:Nat),Vals xs us->Vals (xs.take n) (us.take n)
 |_,_,0,_=>.nil
 |_,_,_+1,.nil=>.nil
 |_,_,n+1,.cons r t=>.cons r (Vals.take n t)
theorem Vals.drop:∀{xs:List V}{us:List Value}(n:Nat),Vals xs us->Vals (xs.drop n) (us.drop n)
 |_,_,0,r=>r
 |_,_,_+1,.nil=>.nil
 |_,_,n+1,.cons _ t=>Vals.drop n t
def RelO:Option V->Option Value->Prop
 |some v,some u=>RelV v u
 |none,none=>True
 |_,_=>False
def KV{κ:Type}:List (κ×V)->List (κ×Value)->Prop:=Paired λ(p:κ×V) (q:κ×Value)=>p.1=q.1/\RelV p.2 q.2
def kV:Key->V
 |.inl i=>.int i
 |.inr x=>.str x
inductive HO where
 |lst (xs:List V)
 |tup (xs:List V)
 |dK (kvs:List (Key×V)) |dT (kvs:List (List Key×V))
 |set (S:Int->Bool) (n:Nat)
 |ins (C dx:Addr) (fs:List (Str×V))
 |own (x:Addr)
 |xd (fs:List (Str×V))
 |met (f x:Addr)
 |rng (lo hi:Int)
 |frz (o:Obj) (u:HO)
 |tbl (ps:Array Value)
 |ext (φ:Heap->Prop)
abbrev Hp:=Addr->Option HO
def upd(H:Hp)(a:Addr)(o:HO):Hp:=λb=>if b=a then some o else H b
theorem bW{H:Hp}{a:Addr}{o:HO}:upd H a o a=some o:=by unfold upd;rw[if_pos rfl]
theorem aG{H:Hp}{a b:Addr}{o:HO}(h:b≠a):upd H a o b=H b:=by unfold upd;rw[if_neg h]
theorem Bd{H:Hp}{a b:Addr}{o u:HO}(h:H a=some o)(h':H b=some u)(d:o≠u):a≠b:=by intro e;subst e;rw[h]at h';exact d (dv h')
theorem aU{H:Hp}{a b:Addr}{o:HO}(h:H a=some o)(h':H b=none):a≠b:=by intro e;subst e;rw[h]at h';cases h'
section
variable (P:Program) (w:World)
def ObjOk(H:Hp)(h:Heap)(a:Addr):HO->Prop
 |.lst xs=>xs.length<=sizeLine/\∃(its:List Value) (n:Nat),Vals xs its/\h.get? a=some { cls:=.type "list",data:=.seq its.toArray n }
 |.tup xs=>xs.length<=sizeLine/\∃its:List Value,Vals xs its/\IsTup h a its.toArray
 |.dK kvs=>kvs.length<=sizeLine/\(a==sysModules)=false/\∃vs,KV kvs vs/\h.DictOf (vI P w) a vs
 |.dT kvs=>kvs.length<=sizeLine/\(a==sysModules)=false/\∃xs:List (List Key×Addr×Value),
   Paired (λ(p:List Key×V) (q:List Key×Addr×Value)=>p.1=q.1/\H q.2.1=some (.tup (p.1.map kV))/\RelV p.2 q.2.2) kvs xs/\
   ∃o es ep,h.get? a=some o/\o.ExactDict/\o.data=.dict es ep/\es.toList=xs.map (entryOfKey (tupleKind (vI P w)))/\(xs.map (·.1)).Nodup
 |.set S n=>h.SetOf (intKind P w) a S n
 |.ins C dx fs=>H dx=some (.own a)/\fs.length<=1000/\dx≠a/\h.get? a=some (PySem.W.instObj C dx)/\
   ∃mA,h.Ns1 dx mA/\(∀f,RelO (fs.lookup f) (mA f))/\PySem.Within mA (fs.map (·.1))
 |.own _=>∃o,h.get? a=some o
 |.xd fs=>∃mA,h.Ns1 a mA/\∀f,RelO (fs.lookup f) (mA f)
 |.rng lo hi=>∃t u v,h.get? a=some { cls:=.type "range",data:=.fields #[.int lo t,.int hi u,.int 1 v] }
 |.frz o u=>h.get? a=some o/\ObjOk H h a u
 |.tbl ps=>h.get? a=some { cls:=.none,data:=.fields ps }
 |.met f x=>h.get? a=some (PySem.W.methodObj (.ref f) (.ref x))
 |.ext φ=>φ h/\(∃o,h.get? a=some o)/\∀h1 h2:Heap,φ h1->(∀o,h1.get? a=some o->h2.get? a=some o)->φ h2
def HOk(H:Hp)(h:Heap):Prop:=∀a o,H a=some o->ObjOk P w H h a o
end
section
variable {P:Program} {w:World} {H H':Hp} {h h':Heap} {a:Addr} {o:HO}
theorem ObjOk.lt(x:ObjOk P w H h a o):a < h.objs.size:=by
 cases o with
 |lst xs=>obtain ⟨_,_,_,_,e⟩:=x;exact ay e
 |tup xs=>obtain ⟨_,_,_,p⟩:=x;exact p.lt
 |dK kvs=>obtain ⟨_,_,_,_,o,_,_,e,_⟩:=x;exact ay e
 |dT kvs=>obtain ⟨_,_,_,_,o,_,_,e,_⟩:=x;exact ay e
 |set S n=>obtain ⟨o,_,_,_,e,_⟩:=x;exact ay e
 |ins C dx fs=>obtain ⟨_,_,_,e,_⟩:=x;exact ay e
 |own y=>obtain ⟨_,e⟩:=x;exact ay e
 |xd fs=>obtain ⟨_,⟨_,_,_,e,_⟩,_⟩:=x;exact ay e
 |rng lo hi=>obtain ⟨_,_,_,e⟩:=x;exact ay e
 |frz ob u=>obtain ⟨e,_⟩:=x;exact ay e
 |tbl ps=>exact ay (show h.get? a=some _ from x)
 |met f y=>exact ay (show h.get? a=some _ from x)
 |ext φ=>obtain ⟨_,⟨_,e⟩,_⟩:=x;exact ay e
theorem Paired.mapP{α β:Type}{F G:α->β->Prop}:∀{l₁:List α}{l₂:List β},Paired F l₁ l₂->(∀a b,F a b->G a b)->Paired G l₁ l₂
 |_,_,.nil,_=>.nil
 |_,_,.cons r t,f=>.cons (f _ _ r) (Paired.mapP t f)
theorem ObjOk.stay(x:ObjOk P w H h a o)(k:∀b u,(b=a\/H b=some (.own a))->h.get? b=some u->h'.get? b=some u)
  (ho:∀b,H b=some (.own a)->H' b=some (.own a)) (ht:∀b xs,H b=some (.tup xs)->H' b=some (.tup xs)):ObjOk P w H' h' a o:=by
 induction o with
 |lst xs=>obtain ⟨z,its,n,r,e⟩:=x;exact ⟨z,its,n,r,k _ _ (.inl rfl) e⟩
 |tup xs=>obtain ⟨z,its,r,ob,e,c⟩:=x;exact ⟨z,its,r,ob,k _ _ (.inl rfl) e,c⟩
 |dK kvs=>obtain ⟨z,y,vs,r,ob,es,ep,e,c⟩:=x;exact ⟨z,y,vs,r,ob,es,ep,k _ _ (.inl rfl) e,c⟩
 |dT kvs=>
  obtain ⟨z,y,xs,r,ob,es,ep,e,c⟩:=x;exact ⟨z,y,xs,Paired.mapP r λp q z=>⟨z.1,ht _ _ z.2.1,z.2.2⟩,ob,es,ep,k _ _ (.inl rfl) e,c⟩
 |set S n=>obtain ⟨ob,es,ep,t,e,c⟩:=x;exact ⟨ob,es,ep,t,k _ _ (.inl rfl) e,c⟩
 |ins C dx fs=>
  obtain ⟨d,z,ne,e,mA,⟨od,es,ep,e2,c⟩,r⟩:=x;exact ⟨ho _ d,z,ne,k _ _ (.inl rfl) e,mA,⟨od,es,ep,k _ _ (.inr d) e2,c⟩,r⟩
 |own y=>obtain ⟨ob,e⟩:=x;exact ⟨ob,k _ _ (.inl rfl) e⟩
 |xd fs=>obtain ⟨mA,⟨od,es,ep,e,c⟩,r⟩:=x;exact ⟨mA,⟨od,es,ep,k _ _ (.inl rfl) e,c⟩,r⟩
 |rng lo hi=>obtain ⟨t,u,v,e⟩:=x;exact ⟨t,u,v,k _ _ (.inl rfl) e⟩
 |frz ob u ih=>obtain ⟨e,q⟩:=x;exact ⟨k _ _ (.inl rfl) e,ih q⟩
 |tbl ps=>
  have e:h.get? a=some { cls:=.none,data:=.fields ps }:=x;show h'.get? a=some { cls:=.none,data:=.fields ps };exact k a _ (.inl rfl) e
 |met f y=>
  have e:h.get? a=some (PySem.W.methodObj (.ref f) (.ref y)):=x;show h'.get? a=some (PySem.W.methodObj (.ref f) (.ref y));exact k a _ (.inl rfl) e
 |ext φ=>obtain ⟨p,⟨o,e⟩,st⟩:=x;exact ⟨st _ _ p λo q=>k _ _ (.inl rfl) q,⟨o,k _ _ (.inl rfl) e⟩,st⟩
theorem HOk.lt(x:HOk P w H h)(e:H a=some o):a < h.objs.size:=(x a o e).lt
theorem HOk.fresh(x:HOk P w H h)(e:h.objs.size<=a):H a=none:=by
 cases q:H a with
 |none=>rfl
 |some u=>exact absurd (ba (x.lt q) e) (ee _)
theorem HOk.kept(x:HOk P w H h)(k:∀b u,h.get? b=some u->h'.get? b=some u):HOk P w H h':=λa o e=>
 (x a o e).stay (λb u _ q=>k b u q) (λ_ q=>q) λ_ _ q=>q
theorem HOk.laid(x:HOk P w H h)(k:∀b u,h.get? b=some u->h'.get? b=some u)(hp:h.objs.size<=a)(new:ObjOk P w (upd H a o) h' a o):HOk P w (upd H a o) h':=λb u e=>by
 have hn:=x.fresh hp;by_cases hb:b=a
 ·subst hb;rw[bW]at e;cases e;exact new
 ·rw[aG hb]at e;exact (x b u e).stay (λc v _ q=>k c v q) (λc q=>by rw[aG (aU q hn)];exact q) λc xs q=>by rw[aG (aU q hn)];exact q
end
def Rd(H:Hp)(a:Addr)(u:HO):Prop:=H a=some u\/∃o,H a=some (.frz o u)
theorem Rd.ok{P:Program}{w:World}{H:Hp}{h:Heap}{a:Addr}{u:HO}(r:Rd H a u)(x:HOk P w H h):ObjOk P w H h a u:=by
 rcases r with r |⟨o,r⟩
 ·exact x a u r
 ·obtain ⟨_,q⟩:=x a _ r;exact q
noncomputable def Mut:Option HO->Prop
 |some (.lst _)=>True
 |some (.dK _)=>True
 |some (.dT _)=>True
 |some (.set _ _)=>True
 |some (.ins _ _ _)=>True
 |some (.ext _)=>True
 |_=>False
section
variable {P:Program} {w:World} {H:Hp} {h h':Heap} {x e:Addr} {o':HO}
theorem HOk.write(ok:HOk P w H h)(mu:Mut (H x))(he:e=x\/H e=some (.own x))(k:∀b u,b≠e->h.get? b=some u->h'.get? b=some u)(heo:∃u,h'.get? e=some u)
  (new:ObjOk P w (upd H x o') h' x o'):HOk P w (upd H x o') h':=λb u q=>by
 have nown:∀c y,H c=some (.own y)->c≠x:=λc y r z=>by subst z;rw[r]at mu;exact mu
 have ntup:∀c xs,H c=some (.tup xs)->c≠x:=λc xs r z=>by subst z;rw[r]at mu;exact mu
 by_cases hb:b=x
 ·subst hb;rw[bW]at q;cases q;exact new
 ·rw[aG hb]at q;by_cases hbe:b=e
  ·have q':H b=some (.own x):=by
    rcases he with z |z
    ·exact absurd (hbe.trans z) hb
    ·rw[hbe];exact z
   rw[q]at q';cases q';obtain ⟨v,hv⟩:=heo;exact ⟨v,by rw[hbe];exact hv⟩
  ·refine (ok b u q).stay (λc v hc r=>k c v ?_ r) (λc r=>by rw[aG (nown c b r)];exact r) λc xs r=>by rw[aG (ntup c xs r)];exact r
   rcases hc with rfl |hc
   ·exact hbe
   ·rintro rfl;rcases he with z |z
    ·exact nown c b hc z
    ·rw[hc]at z;cases z;exact hb rfl
end
structure Un(fs ex:List Addr)(H H':Hp)(h h':Heap):Prop where
 keep:∀b o,h.get? b=some o->H b=none->b∉fs->b∉ex->h'.get? b=some o
 slot:∀b o,h.get? b=some o->H b=none->b∈fs->b∉ex->∃sl,h'.get? b=some { o with slots:=sl }
 free:∀b o,h.get? b=some o->H b=none->b∉ex->H' b=none
 there:∀b o,h.get? b=some o->b∉ex->∃o',h'.get? b=some o'
 tups:∀b xs,H b=some (.tup xs)->H' b=some (.tup xs)
 frzs:∀b o u,H b=some (.frz o u)->H' b=some (.frz o u)
 tbls:∀b ps,H b=some (.tbl ps)->∃more,H' b=some (.tbl (ps++more))
section
variable {fs fs' ex ex':List Addr} {H H1 H2:Hp} {h h1 h2 h':Heap} {a x e:Addr} {o:HO}
theorem Un.any(u:Un fs ex H H1 h h1){b:Addr}{ob:Obj}(q:h.get? b=some ob)(n:H b=none)(hx:b∉ex):∃sl,h1.get? b=some { ob with slots:=sl }:=by
 by_cases hb:b∈fs
 ·exact u.slot b ob q n hb hx
 ·exact ⟨ob.slots,u.keep b ob q n hb hx⟩
theorem Un.kept(k:∀b u,h.get? b=some u->h'.get? b=some u):Un fs ex H H h h':=
 ⟨λb ob q _ _ _=>k b ob q,λb ob q _ _ _=>⟨ob.slots,k b ob q⟩,λ_ _ _ n _=>n,λb ob q _=>⟨ob,k b ob q⟩,λ_ _ q=>q,λ_ _ _ q=>q,λ_ ps q=>⟨#[],by rw[q];simp⟩⟩
theorem Un.refl:Un fs ex H H h h:=Un.kept λ_ _ q=>q
theorem Un.laid(k:∀b u,h.get? b=some u->h'.get? b=some u)(hp:h.objs.size<=a)(hn:H a=none):Un fs ex H (upd H a o) h h' where
 keep:=λb u q _ _ _=>k b u q
 slot:=λb u q _ _ _=>⟨u.slots,k b u q⟩
 free:=λb u q n _=>by rw[aG (bX (ba (ay q) hp))];exact n
 there:=λb u q _=>⟨u,k b u q⟩
 tups:=λb xs q=>by rw[aG (aU q hn)];exact q
 frzs:=λb u xs q=>by rw[aG (aU q hn)];exact q
 tbls:=λb ps q=>⟨#[],by rw[aG (aU q hn),q];simp⟩
theorem Un.write(mu:Mut (H x))(he:e=x\/H e=some (.own x))(k:∀b u,b≠e->h.get? b=some u->h'.get? b=some u)(heo:∃u,h'.get? e=some u):Un fs ex H (upd H x o) h h':=by
 have hx:∀b,H b=none->b≠x:=λb n z=>by subst z;rw[n]at mu;exact mu
 have hb:∀b,H b=none->b≠e:=λb n z=>by
  subst z;rcases he with r |r
  ·exact hx b n r
  ·rw[n]at r;cases r
 have hm:∀b u,H b=some u->¬Mut (some u)->b≠x:=λb u q nm z=>by subst z;rw[q]at mu;exact nm mu
 refine ⟨λb u q n _ _=>k b u (hb b n) q,λb u q n _ _=>⟨u.slots,k b u (hb b n) q⟩,λb u q n _=>by rw[aG (hx b n)];exact n,λb u q _=>?_,
  λb xs q=>by rw[aG (hm b _ q λz=>z)];exact q,λb u xs q=>by rw[aG (hm b _ q λz=>z)];exact q,λb ps q=>⟨#[],by rw[aG (hm b _ q λz=>z),q];simp⟩⟩
 by_cases hbe:b=e
 ·subst hbe;exact heo
 ·exact ⟨u,k b u hbe q⟩
end
def trk(h:Heap)(H:Hp):List Addr:=(List.range h.objs.size).filter λa=>(H a).isSome
def fH(h:Heap)(H:Hp):Heap:=PySem.W.hideAll h (trk h H)
theorem Uq(h:Heap)(H:Hp):(fH h H).objs.size=h.objs.size:=PySem.W.hideAll_size _ _
theorem Ur{h:Heap}{H:Hp}{b:Addr}{o:Obj}(e:h.get? b=some o)(n:H b=none):(fH h H).get? b=some o:=
 PySem.W.hideAll_get _ e λhm=>by
  have q:(H b).isSome=true:=(fA.mp hm).2;rw[n]at q;simp at q
theorem Us{h:Heap}{H:Hp}{b:Addr}{o:Obj}(e:(fH h H).get? b=some o):h.get? b=some o/\H b=none:=by
 have e':h.get? b=some o:=PySem.W.of_hideAll (trk h H) e;refine ⟨e',?_⟩;cases q:H b with
 |none=>rfl
 |some x=>
  have hm:b∈trk h H:=fA.mpr ⟨List.mem_range.mpr (ay e'),by simp[q]⟩;have z:(fH h H).get? b=none:=PySem.W.hideAll_none (trk h H) hm;rw[z]at e;cases e
noncomputable def Ut(g h:Heap)(L:Addr):List (Addr×Obj):=(List.range h.objs.size).filterMap λa=>if a=L\/(g.get? a).isSome=true then none else (h.get? a).map λo=>(a,o)
def rest(g h:Heap)(L d:Addr):List (Addr×Obj):=(Ut g h L).filter λp=>decide (p.1≠d)
structure Mod(K:PF)(mg:Str->Option Value)(base:Heap):Prop where
 kin:K.In base
 glob:base.Ns mainGlobals mg
 blt:∃mb,base.Ns builtinsNs mb/\∀x:Str,x≠"__name__"->mb x=bootBuiltins x
 nolimit:base.NoLimit
structure Cx where
 prog:Program
 w:World
 K:PF
 mg:Str->Option Value
 base:Heap
 A:Around
 N:List Str
 s₀:Shared
 H₀:Hp
 env:Env
 outer:List Env
 stack:List Env
 ex:List Addr
 fn:Str->Bool
 calm:Bool
 pn:List (Addr×Obj)
 xe:Value->Shared->Prop
def frs(l:List Env):List Addr:=l.filterMap (·.frame)
abbrev Cx.fs(X:Cx):List Addr:=frs X.outer
def Vis(sc:Scope)(x:Str):Prop:=sc.names.lookup x=some .local\/sc.names.lookup x=some .cell\/sc.names.lookup x=some .free
def Loc(sc:Scope)(x:Str):Prop:=sc.names.lookup x=some .local\/sc.names.lookup x=some .cell
def Look(env:Env)(h:Heap)(m:Str->Option Value)(x:Str)(u:Value):Prop:=
 (env.kindOf x=some .local/\m x=some u)\/((env.kindOf x=some .cell\/env.kindOf x=some .free)/\∃c,env.cells.lookup x=some c/\h.IsCell c (some u))
structure Cx.Ok(X:Cx):Prop where
 mod:Mod X.K X.mg X.base
 kind:X.env.scope.kind=.function
 glob:X.env.globals=mainGlobals
 blt:X.env.builtins=builtinsNs
 above:X.s₀.heap.objs.size<=X.env.locals
 inj:∀x y c,X.env.cells.lookup x=some c->X.env.cells.lookup y=some c->x=y
 has:∀x,(X.env.kindOf x=some .cell\/X.env.kindOf x=some .free)->∃c,X.env.cells.lookup x=some c
 cab:∀x c,X.fn x=true->X.env.cells.lookup x=some c->X.s₀.heap.objs.size<=c
 hd:X.calm=true->X.A.handled=none
 frames:X.A.frames=some X.stack
 stk:X.stack=X.outer\/(X.stack=X.env::X.outer/\X.env.frame=some X.env.locals)
 exf:∀b∈X.ex,b≠X.env.locals/\∀x c,X.env.cells.lookup x=some c->c≠b
 bs:∀b o,X.base.get? b=some o->X.s₀.heap.get? b=some o/\X.H₀ b=none
 bsz:X.base.objs.size<=X.s₀.heap.objs.size
 noex:∀b o,X.base.get? b=some o->b∉X.ex
 exfs:∀b∈X.ex,b∉X.fs
 funs:X.s₀.heap.FunFrames X.base X.outer
 frf:∀b∈X.fs,X.H₀ b=none
structure Inv(X:Cx)(pins:List (Addr×Obj))(σ:List (Option V))(H:Hp)(s:Shared):Prop where
 ok:X.Ok
 os:s.os=X.s₀.os
 bare:AllBare s.gens
 base:Un X.fs X.ex X.H₀ H X.s₀.heap s.heap
 loc:∃m,s.heap.Ns X.env.locals m/\∀(i:Nat)(x:Str)(v:V),X.N[i]?=some x->σ[i]?=some (some v)->Vis X.env.scope x->∃u,RelV v u/\Look X.env s.heap m x u
 cell:∀x c,X.env.cells.lookup x=some c->∃v,s.heap.IsCell c v
 free:H X.env.locals=none
 freeC:∀x c,X.env.cells.lookup x=some c->H c=none
 pin:∀p∈X.pn++pins,s.heap.get? p.1=some p.2/\H p.1=none/\p.1≠X.env.locals/\p.1∉X.fs/\∀v,p.2.data≠.cell v
 hok:HOk X.prog X.w H s.heap
 len:σ.length=X.N.length
section
variable {X:Cx} {pins:List (Addr×Obj)} {σ:List (Option V)} {H H':Hp} {s:Shared} {h':Heap}
theorem Cx.Ok.nofr(ok:X.Ok){b:Addr}{o:Obj}(e:X.base.get? b=some o):b∉X.fs:=λhb=>by
 have:=(ok.funs.mem hb).1;rw[e]at this;cases this
theorem Inv.bs(I:Inv X pins σ H s):∀b o,X.base.get? b=some o->s.heap.get? b=some o/\H b=none:=λb o e=>
 ⟨I.base.keep b o (I.ok.bs b o e).1 (I.ok.bs b o e).2 (I.ok.nofr e) (I.ok.noex b o e),I.base.free b o (I.ok.bs b o e).1 (I.ok.bs b o e).2 (I.ok.noex b o e)⟩
theorem Inv.bk(I:Inv X pins σ H s):∀b o,X.base.get? b=some o->s.heap.get? b=some o:=λb o e=>(I.bs b o e).1
theorem Inv.mod(I:Inv X pins σ H s):Mod X.K X.mg X.base:=I.ok.mod
theorem Inv.kIn(I:Inv X pins σ H s):X.K.In s.heap:=I.ok.mod.kin.keeps I.bk
theorem Inv.lt(I:Inv X pins σ H s):X.env.locals < s.heap.objs.size:=let ⟨_,hn,_⟩:=I.loc;hn.lt
theorem Inv.sz(I:Inv X pins σ H s):X.s₀.heap.objs.size<=s.heap.objs.size:=cw I.ok.above (Nat.le_of_lt I.lt)
theorem Inv.nofs(I:Inv X pins σ H s){a:Addr}(h:s.heap.objs.size<=a):a∉X.fs:=λhb=>by
 obtain ⟨_,o,ho,_⟩:=I.ok.funs.mem hb;exact absurd (ba (ay ho) (cw I.sz h)) (ee _)
theorem Inv.cne(I:Inv X pins σ H s):∀x c,X.env.cells.lookup x=some c->c≠X.env.locals:=λx c e z=>by
 obtain ⟨v,o,ho,hd⟩:=I.cell x c e;obtain ⟨m,⟨o',es,ep,ho',hd',_⟩,_⟩:=I.loc;rw[z,ho']at ho;cases ho;rw[hd']at hd;cases hd
theorem Inv.funs(I:Inv X pins σ H s):s.heap.FunFrames X.base X.outer:=by
 have all:∀(l:List Env),(∀b∈frs l,b∈X.fs)->X.s₀.heap.FunFrames X.base l->s.heap.FunFrames X.base l:=by
  intro l;induction l with
  |nil=>intro _ _;trivial
  |cons env r ih=>
   intro hs hl;obtain ⟨hk,⟨L,o,hf,hn,ho,hd⟩,hr⟩:=hl;have hL:L∈X.fs:=hs L (by unfold frs;rw[fv,hf];exact cb);obtain ⟨sl,e⟩:=I.base.slot L o ho (I.ok.frf L hL) hL λz=>I.ok.exfs L z hL;exact ⟨hk,⟨L,_,hf,hn,e,hd⟩,ih (λb hb=>hs b (by unfold frs;rw[fv,hf];exact bp _ hb)) hr⟩
 exact all X.outer (λ_ hb=>hb) I.ok.funs
theorem Inv.stack(I:Inv X pins σ H s):s.heap.FunFrames X.base X.stack:=by
 rcases I.ok.stk with e |⟨e,hf⟩
 ·rw[e];exact I.funs
 ·rw[e];obtain ⟨m,hn,_⟩:=I.loc;refine .cons (by rw[I.ok.kind];decide) hf hn ?_ I.funs;exact Heap.get?_none_of_le (cw I.ok.bsz I.ok.above)
theorem Inv.stkSub(I:Inv X pins σ H s):∀b∈frs X.stack,b∈X.env.locals::X.fs:=λb hb=>by
 rcases I.ok.stk with e |⟨e,hf⟩
 ·rw[e]at hb;exact bp _ hb
 ·rw[e]at hb;unfold frs at hb;rw[fv,hf]at hb;exact hb
theorem Inv.stkFree(I:Inv X pins σ H s):∀b∈frs X.stack,H b=none:=λb hb=>by
 rcases aI.mp (I.stkSub b hb) with e |hb
 ·rw[e];exact I.free
 ·obtain ⟨_,o,ho,_⟩:=I.ok.funs.mem hb;exact I.base.free b o ho (I.ok.frf b hb) λz=>I.ok.exfs b z hb
theorem Inv.step{g':Array GenState}{t':Nat}{d':Drawn}{ch:List Addr}(I:Inv X pins σ H s)
  (hch:∀b∈ch,(b∈X.ex\/X.s₀.heap.objs.size<=b)/\b≠X.env.locals/\(∀x c,X.env.cells.lookup x=some c->c≠b)/\∀p∈X.pn++pins,p.1≠b)
  (keep:∀b o,b≠X.env.locals->b∉X.fs->b∉ch->s.heap.get? b=some o->H b=none->h'.get? b=some o)
  (slot:∀b o,b≠X.env.locals->b∈X.fs->b∉ch->s.heap.get? b=some o->H b=none->∃sl,h'.get? b=some { o with slots:=sl }) (free:∀b o,b∉ch->s.heap.get? b=some o->H b=none->H' b=none)
  (there:∀b o,b∉ch->s.heap.get? b=some o->∃o',h'.get? b=some o')
  (tups:∀b xs,H b=some (.tup xs)->H' b=some (.tup xs)) (frzs:∀b o u,H b=some (.frz o u)->H' b=some (.frz o u)) (tbls:∀b ps,H b=some (.tbl ps)->∃more,H' b=some (.tbl (ps++more)))
  (ns:∀m,s.heap.Ns X.env.locals m->h'.Ns X.env.locals m) (hok:HOk X.prog X.w H' h') (hg:AllBare g'):
  Inv X pins σ H' { s with heap:=h',gens:=g',drawn:=d',toks:=t' }:=by
 have neL:∀b o,X.s₀.heap.get? b=some o->b≠X.env.locals:=λb o e=>bX (ba (ay e) I.ok.above);have neC:∀b o,X.s₀.heap.get? b=some o->b∉X.ex->b∉ch:=λb o e hx hb=>by
  rcases (hch b hb).1 with z |z
  ·exact hx z
  ·exact absurd (ba (ay e) z) (ee _)
 have cellK:∀x c,X.env.cells.lookup x=some c->∀v,s.heap.IsCell c v->h'.IsCell c v:=λx c e v ⟨o,ho,hd⟩=>by
  have nch:c∉ch:=λz=>(hch c z).2.2.1 x c e rfl;by_cases hc:c∈X.fs
  ·obtain ⟨sl,q⟩:=slot c o (I.cne x c e) hc nch ho (I.freeC x c e);exact ⟨_,q,hd⟩
  ·exact ⟨o,keep c o (I.cne x c e) hc nch ho (I.freeC x c e),hd⟩
 refine ⟨I.ok,I.os,hg,⟨λb o e n hb hx=>?_,λb o e n hb hx=>?_,λb o e n hx=>?_,λb o e hx=>?_,λb xs e=>tups b xs (I.base.tups b xs e),λb o xs e=>frzs b o xs (I.base.frzs b o xs e),λb ps e=>?_⟩,?_,λx c e=>?_,?_,λx c e=>?_,λp hp=>?_,hok,I.len⟩
 ·exact keep b o (neL b o e) hb (neC b o e hx) (I.base.keep b o e n hb hx) (I.base.free b o e n hx)
 ·obtain ⟨sl,e1⟩:=I.base.slot b o e n hb hx;obtain ⟨sl',e2⟩:=slot b _ (neL b o e) hb (neC b o e hx) e1 (I.base.free b o e n hx);exact ⟨sl',e2⟩
 ·obtain ⟨o',e1⟩:=I.base.there b o e hx;exact free b o' (neC b o e hx) e1 (I.base.free b o e n hx)
 ·obtain ⟨o',e1⟩:=I.base.there b o e hx;exact there b o' (neC b o e hx) e1
 ·obtain ⟨m1,e1⟩:=I.base.tbls b ps e;obtain ⟨m2,e2⟩:=tbls b _ e1;exact ⟨m1++m2,by rw[e2,Array.append_assoc]⟩
 ·obtain ⟨m,hn,hl⟩:=I.loc;refine ⟨m,ns m hn,λi x v e1 e2 e3=>?_⟩;obtain ⟨u,r,l⟩:=hl i x v e1 e2 e3;refine ⟨u,r,?_⟩;rcases l with l |⟨k,c,e,z⟩
  ·exact .inl l
  ·exact .inr ⟨k,c,e,cellK x c e _ z⟩
 ·obtain ⟨v,z⟩:=I.cell x c e;exact ⟨v,cellK x c e v z⟩
 ·obtain ⟨m,⟨o,_,_,ho,_⟩,_⟩:=I.loc;exact free _ o (λz=>(hch _ z).2.1 rfl) ho I.free
 ·obtain ⟨v,o,ho,hd⟩:=I.cell x c e;exact free c o (λz=>(hch c z).2.2.1 x c e rfl) ho (I.freeC x c e)
 ·obtain ⟨e,n,ne,nf,d⟩:=I.pin p hp;have nch:p.1∉ch:=λz=>(hch p.1 z).2.2.2 p hp rfl;exact ⟨keep p.1 p.2 ne nf nch e n,free p.1 p.2 nch e n,ne,nf,d⟩
theorem Inv.un{t':Nat}(I:Inv X pins σ H s)(u:Un X.fs [] H H' s.heap h')(hok:HOk X.prog X.w H' h'):Inv X pins σ H' { s with heap:=h',toks:=t' }:=by
 obtain ⟨m,⟨o,es,ep,ho,r⟩,_⟩:=id I.loc;obtain ⟨sl,hL⟩:=u.any ho I.free (by simp);exact I.step (g':=s.gens) (d':=s.drawn) (ch:=[]) (λ_ z=>nomatch z) (λb o _ hb _ e n=>u.keep b o e n hb (by simp)) (λb o _ hb _ e n=>u.slot b o e n hb (by simp)) (λb o _ e n=>u.free b o e n (by simp)) (λb o _ e=>u.there b o e (by simp)) u.tups u.frzs u.tbls (λm' hm=>by
  obtain ⟨o',es',ep',ho',r'⟩:=hm;rw[ho]at ho';cases ho';exact ⟨_,es',ep',hL,r'⟩) hok I.bare
theorem Inv.call{g':Array GenState}{t':Nat}{d':Drawn}{ch:List Addr}(I:Inv X pins σ H s)(u:Un (frs X.stack) ch H H' s.heap h')(hok:HOk X.prog X.w H' h')(hg:AllBare g')
  (hch:∀b∈ch,(b∈X.ex\/X.s₀.heap.objs.size<=b)/\b≠X.env.locals/\(∀x c,X.env.cells.lookup x=some c->c≠b)/\∀p∈X.pn++pins,p.1≠b):
  Inv X pins σ H' { s with heap:=h',gens:=g',drawn:=d',toks:=t' }:=by
 obtain ⟨m,⟨o,es,ep,ho,r⟩,_⟩:=id I.loc;obtain ⟨sl,hL⟩:=u.any ho I.free λz=>(hch _ z).2.1 rfl;exact I.step (ch:=ch) hch (λb o hL hb hc e n=>u.keep b o e n (λz=>(aI.mp (I.stkSub b z)).elim hL hb) hc) (λb o _ _ hc e n=>u.any e n hc) (λb o hc e n=>u.free b o e n hc) (λb o hc e=>u.there b o e hc) u.tups u.frzs u.tbls (λm' hm=>by
  obtain ⟨o',es',ep',ho',r'⟩:=hm;rw[ho]at ho';cases ho';exact ⟨_,es',ep',hL,r'⟩) hok hg
theorem Inv.turned{t':Nat}{it:Addr}(I:Inv X pins σ H s)(k:∀b o,b≠it->s.heap.get? b=some o->h'.get? b=some o)(hn:H it=none)(hL:it≠X.env.locals)
  (h1:it∈X.ex\/X.s₀.heap.objs.size<=it) (h2:∀x c,X.env.cells.lookup x=some c->c≠it) (h3:∀p∈X.pn++pins,p.1≠it):Inv X pins σ H { s with heap:=h',toks:=t' }:=by
 have nit:∀b u,H b=some u->b≠it:=λb u e z=>by rw[z,hn]at e;cases e
 refine I.step (g':=s.gens) (d':=s.drawn) (ch:=[it]) (λb hb=>?_) (λb o _ _ hc e _=>k b o (λz=>hc (by simp[z])) e) (λb o _ _ hc e _=>⟨o.slots,k b o (λz=>hc (by simp[z])) e⟩) (λ_ _ _ _ n=>n)
  (λb o hc e=>⟨o,k b o (λz=>hc (by simp[z])) e⟩) (λ_ _ e=>e) (λ_ _ _ e=>e) (λb ps e=>⟨#[],by rw[e];simp⟩) (λm hm=>?_) (λb u e=>?_) I.bare
 ·have e:b=it:=by simpa using hb
  subst e;exact ⟨h1,hL,h2,h3⟩
 ·obtain ⟨o,es,ep,ho,r⟩:=hm;exact ⟨o,es,ep,k _ o (Ne.symm hL) ho,r⟩
 ·refine (I.hok b u e).stay (λc v hc q=>k c v ?_ q) (λ_ q=>q) λ_ _ q=>q;rcases hc with z |z
  ·rw[z];exact nit b u e
  ·exact nit c _ z
theorem Inv.tok(I:Inv X pins σ H s)(t:Nat):Inv X pins σ H { s with toks:=t }:=I.un (h':=s.heap) (t':=t) Un.refl I.hok
theorem Inv.kept{t':Nat}(I:Inv X pins σ H s)(k:∀b u,s.heap.get? b=some u->h'.get? b=some u):Inv X pins σ H { s with heap:=h',toks:=t' }:=I.un (Un.kept k) (I.hok.kept k)
theorem Inv.laid{a:Addr}{o:HO}{t':Nat}(I:Inv X pins σ H s)(k:∀b u,s.heap.get? b=some u->h'.get? b=some u)(hp:s.heap.objs.size<=a)(new:ObjOk X.prog X.w (upd H a o) h' a o):
  Inv X pins σ (upd H a o) { s with heap:=h',toks:=t' }:=I.un (Un.laid k hp (I.hok.fresh hp)) (I.hok.laid k hp new)
theorem Inv.write{x e:Addr}{o:HO}{t':Nat}(I:Inv X pins σ H s)(mu:Mut (H x))(he:e=x\/H e=some (.own x))(k:∀b u,b≠e->s.heap.get? b=some u->h'.get? b=some u)(heo:∃u,h'.get? e=some u)
  (new:ObjOk X.prog X.w (upd H x o) h' x o):Inv X pins σ (upd H x o) { s with heap:=h',toks:=t' }:=I.un (Un.write mu he k heo) (I.hok.write mu he k heo new)
theorem Inv.pins_of{pins':List (Addr×Obj)}(I:Inv X pins σ H s)(h:∀p∈pins',s.heap.get? p.1=some p.2/\H p.1=none/\p.1≠X.env.locals/\p.1∉X.fs/\∀v,p.2.data≠.cell v):Inv X pins' σ H s:=
 ⟨I.ok,I.os,I.bare,I.base,I.loc,I.cell,I.free,I.freeC,λp hp=>(a9.mp hp).elim (λz=>I.pin p (dL _ z)) (h p),I.hok,I.len⟩
theorem vJ{N:List Str}(hN:N.Nodup){i j:Nat}{x:Str}(a:N[i]?=some x)(b:N[j]?=some x):i=j:=by obtain ⟨h1,e1⟩:=aw.mp a;obtain ⟨h2,e2⟩:=aw.mp b;exact (List.getElem_inj hN).mp (e1.trans e2.symm)
theorem Uu{M:Model}{A:Around}{E:Value->Shared->Prop}{i:Nat}{x:Str}{v:V}{u:Value}{Q:Unit->Shared->Prop}(I:Inv X pins σ H s)(hN:X.N.Nodup)(hi:X.N[i]?=some x)(hx:Loc X.env.scope x)(r:RelV v u)
  (h:∀s',Inv X pins (σ.set i (some v)) H s'->(∃a,Heap.SameBut a s.heap s'.heap/\(a=X.env.locals\/X.env.cells.lookup x=some a))->Q () s') (hf:X.fn x=true\/X.env.scope.names.lookup x=some .local:=by first |exact .inl rfl |exact .inr rfl |assumption):wpAny M A (storeName X.env x u) Q E s:=by
 obtain ⟨m,hn,hl⟩:=id I.loc;have hcls:(X.env.scope.kind==.class||(X.env.scope.kind==.module&&X.env.locals != X.env.globals))=false:=by rw[I.ok.kind];rfl
 have hiσ:i < σ.length:=by rw[I.len];exact (aw.mp hi).1
 have cne:=I.cne;have tracked:∀{a:Addr}{h':Heap},(∃o,s.heap.get? a=some o/\H a=none)->Heap.SameBut a s.heap h'->HOk X.prog X.w H h':=λ{a h'} ha hs b ob e=>by
  obtain ⟨_,_,hfree⟩:=ha;refine (I.hok b ob e).stay (λc w' hc q=>(hs.2 c ?_).trans q) (λ_ q=>q) λ_ _ q=>q;rintro rfl;rcases hc with rfl |hc
  ·rw[hfree]at e;cases e
  ·rw[hfree]at hc;cases hc
 rcases hx with hk |hk
 ·refine wpAny_storeName_local hk hn (λh' hn' hs=>?_) hcls;obtain ⟨oL,_,_,hoL,_⟩:=id hn;refine h _ ⟨I.ok,I.os,I.bare,⟨λb o e n hb hx=>?_,λb o e n hb hx=>?_,I.base.free,λb o e hx=>?_,I.base.tups,I.base.frzs,I.base.tbls⟩,⟨_,hn',λj y v' e1 e2 e3=>?_⟩,λy c e=>?_,I.free,I.freeC,λp hp=>?_,tracked ⟨oL,hoL,I.free⟩ hs,by simpa using I.len⟩ ⟨_,hs,.inl rfl⟩
  ·exact (hs.2 b (bX (ba (ay e) I.ok.above))).trans (I.base.keep b o e n hb hx)
  ·obtain ⟨sl,e1⟩:=I.base.slot b o e n hb hx;exact ⟨sl,(hs.2 b (bX (ba (ay e) I.ok.above))).trans e1⟩
  ·obtain ⟨o',e1⟩:=I.base.there b o e hx;exact ⟨o',(hs.2 b (bX (ba (ay e) I.ok.above))).trans e1⟩
  ·by_cases hj:j=i
   ·subst hj;rw[hi]at e1;cases e1;rw[fS hiσ]at e2;cases e2;exact ⟨u,r,.inl ⟨hk,by simp⟩⟩
   ·rw[List.getElem?_set_ne (Ne.symm hj)]at e2;obtain ⟨u',r',q⟩:=hl j y v' e1 e2 e3;refine ⟨u',r',?_⟩;rcases q with ⟨k,e⟩ |⟨k,c,e,z⟩
    ·refine .inl ⟨k,?_⟩;have:y≠x:=λe=>hj (vJ hN e1 (e ▸ hi));simp[this,e]
    ·exact .inr ⟨k,c,e,z.sameBut hs (cne y c e)⟩
  ·obtain ⟨w',z⟩:=I.cell y c e;exact ⟨w',z.sameBut hs (cne y c e)⟩
  ·obtain ⟨e,n,ne,nf,d⟩:=I.pin p hp;exact ⟨(hs.2 p.1 ne).trans e,n,ne,nf,d⟩
 ·have hfn:X.fn x=true:=by
   rcases hf with z |z
   ·exact z
   ·rw[z]at hk;cases hk
  obtain ⟨c,hc⟩:=I.ok.has x (.inl hk);obtain ⟨w',z⟩:=I.cell x c hc;refine wpAny_storeName_cell I.ok.kind hk hc z (λh' hc' hs=>?_);obtain ⟨oc,hoc,hocd⟩:=id z;refine h { s with heap:=h' } ⟨I.ok,I.os,I.bare,⟨λb o e n hb hx=>?_,λb o e n hb hx=>?_,I.base.free,λb o e hx=>?_,I.base.tups,I.base.frzs,I.base.tbls⟩,⟨m,hn.sameBut hs (Ne.symm (cne x c hc)),λj y v' e1 e2 e3=>?_⟩,λy c' e=>?_,I.free,I.freeC,λp hp=>?_,tracked ⟨oc,hoc,I.freeC x c hc⟩ hs,by simpa using I.len⟩ ⟨c,hs,.inr hc⟩
  ·exact (hs.2 b (bX (ba (ay e) (I.ok.cab x c hfn hc)))).trans (I.base.keep b o e n hb hx)
  ·obtain ⟨sl,e1⟩:=I.base.slot b o e n hb hx;exact ⟨sl,(hs.2 b (bX (ba (ay e) (I.ok.cab x c hfn hc)))).trans e1⟩
  ·obtain ⟨o',e1⟩:=I.base.there b o e hx;exact ⟨o',(hs.2 b (bX (ba (ay e) (I.ok.cab x c hfn hc)))).trans e1⟩
  ·by_cases hj:j=i
   ·subst hj;rw[hi]at e1;cases e1;rw[fS hiσ]at e2;cases e2;exact ⟨u,r,.inr ⟨.inl hk,c,hc,hc'⟩⟩
   ·rw[List.getElem?_set_ne (Ne.symm hj)]at e2;obtain ⟨u',r',q⟩:=hl j y v' e1 e2 e3;refine ⟨u',r',?_⟩;rcases q with q |⟨k,c',e,z'⟩
    ·exact .inl q
    ·refine .inr ⟨k,c',e,z'.sameBut hs ?_⟩;rintro rfl;exact hj (vJ hN e1 (I.ok.inj _ _ _ e hc ▸ hi))
  ·by_cases hcc:c'=c
   ·subst hcc;exact ⟨_,hc'⟩
   ·obtain ⟨w2,z2⟩:=I.cell y c' e;exact ⟨w2,z2.sameBut hs hcc⟩
  ·obtain ⟨e,n,ne,nf,d⟩:=I.pin p hp;refine ⟨(hs.2 p.1 ?_).trans e,n,ne,nf,d⟩;intro q;rw[q,hoc]at e;have q':oc=p.2:=dv e;exact d w' (by rw[<-q'];exact hocd)
theorem lg{M:Model}{A:Around}{E:Value->Shared->Prop}{i:Nat}{x:Str}{v:V}{u:Value}{Q:Unit->Shared->Prop}(I:Inv X pins σ H s)(hN:X.N.Nodup)(hi:X.N[i]?=some x)(hx:Loc X.env.scope x)(r:RelV v u)
  (h:∀s',Inv X pins (σ.set i (some v)) H s'->Q () s') (hf:X.fn x=true\/X.env.scope.names.lookup x=some .local:=by first |exact .inl rfl |exact .inr rfl |assumption):wpAny M A (storeName X.env x u) Q E s:=
 Uu I hN hi hx r (λs' I' _=>h s' I') hf
theorem Inv.call'{s':Shared}{ch:List Addr}(I:Inv X pins σ H s)(ho:s'.os=s.os)(u:Un (frs X.stack) ch H H' s.heap s'.heap)(hok:HOk X.prog X.w H' s'.heap)(hg:AllBare s'.gens)
  (hch:∀b∈ch,(b∈X.ex\/X.s₀.heap.objs.size<=b)/\b≠X.env.locals/\(∀x c,X.env.cells.lookup x=some c->c≠b)/\∀p∈X.pn++pins,p.1≠b):Inv X pins σ H' s':=by
 obtain ⟨h',g',d',t',o'⟩:=s';have e:o'=s.os:=ho;subst e;exact I.call (g':=g') (t':=t') (d':=d') u hok hg hch
end
abbrev XK:=Value->Option Addr->Hp->Prop
abbrev St:=List (Option V)
abbrev VK:=V->Hp->Prop
abbrev TE:=St->Hp->VK->Prop
abbrev TT:=St->Hp->(Bool->Hp->Prop)->Prop
abbrev TA:=St->Hp->(List V->Hp->Prop)->Prop
structure Ends where
 nx:St->Hp->Prop
 rt:VK
 bk:St->Hp->Prop:=λ_ _=>False
 ct:St->Hp->Prop:=λ_ _=>False
abbrev TS:=Ends->St->Hp->Prop
def EP(X:Cx)(pins:List (Addr×Obj))(σ:St)(Q:VK)(u:Value)(s':Shared):Prop:=∃v H',Inv X pins σ H' s'/\RelV v u/\Q v H'
def TP(X:Cx)(pins:List (Addr×Obj))(σ:St)(Q:Bool->Hp->Prop)(b:Bool)(s':Shared):Prop:=∃H',Inv X pins σ H' s'/\Q b H'
def AP(X:Cx)(pins:List (Addr×Obj))(σ:St)(Q:List V->Hp->Prop)(us:List Value)(s':Shared):Prop:=∃vs H',Inv X pins σ H' s'/\Vals vs us/\Q vs H'
def SP(X:Cx)(pins:List (Addr×Obj))(D:Ends)(f:Flow)(s':Shared):Prop:=
 match f with
 |.next=>∃σ' H',Inv X pins σ' H' s'/\D.nx σ' H'
 |.brk=>∃σ' H',Inv X pins σ' H' s'/\D.bk σ' H'
 |.cont=>∃σ' H',Inv X pins σ' H' s'/\D.ct σ' H'
 |.ret u=>∃v σ' H',Inv X pins σ' H' s'/\RelV v u/\D.rt v H'
def PE(X:Cx)(e:Expr)(t:TE):Prop:=
 ∀(pins:List (Addr×Obj))(s:Shared)(σ:St)(H:Hp)(Q:VK),Inv X pins σ H s->t σ H Q->wpAny (model X.prog X.w) X.A (eval e X.env) (EP X pins σ Q) X.xe s
def PT(X:Cx)(e:Expr)(t:TT):Prop:=
 ∀(pins:List (Addr×Obj))(s:Shared)(σ:St)(H:Hp)(Q:Bool->Hp->Prop),Inv X pins σ H s->t σ H Q->wpAny (model X.prog X.w) X.A (isTrue e X.env (eval e X.env)) (TP X pins σ Q) X.xe s
def PW(X:Cx)(e:Expr)(t:TT):Prop:=
 ∀(whole:Sem Value)(pins:List (Addr×Obj))(s:Shared)(σ:St)(H:Hp)(Q:Bool->Hp->Prop),Inv X pins σ H s->t σ H Q->wpAny (model X.prog X.w) X.A (isTrue e X.env whole) (TP X pins σ Q) X.xe s
theorem PW.pt{X:Cx}{e:Expr}{t:TT}(h:PW X e t):PT X e t:=h _
def PA(X:Cx)(es:List Expr)(t:TA):Prop:=
 ∀(pos:Pos)(pins:List (Addr×Obj))(s:Shared)(σ:St)(H:Hp)(Q:List V->Hp->Prop),Inv X pins σ H s->t σ H Q->wpAny (model X.prog X.w) X.A (spliced (backTo pos (starEach es X.env))) (AP X pins σ Q) X.xe s
def PS(X:Cx)(st:Stmt)(t:TS):Prop:=
 ∀(pins:List (Addr×Obj))(s:Shared)(σ:St)(H:Hp)(D:Ends),Inv X pins σ H s->t D σ H->wpAny (model X.prog X.w) X.A (exec st X.env) (SP X pins D) X.xe s
def PSs(X:Cx)(st:List Stmt)(t:TS):Prop:=
 ∀(pins:List (Addr×Obj))(s:Shared)(σ:St)(H:Hp)(D:Ends),Inv X pins σ H s->t D σ H->wpAny (model X.prog X.w) X.A (execs st X.env) (SP X pins D) X.xe s
theorem thn{α:Type}{t:Sem α}{Q Q':α->Shared->Prop}{M:Model}{A:Around}{E:Value->Shared->Prop}{s:Shared}(h:wpAny M A t Q E s)(hQ:∀a s,Q a s->Q' a s):wpAny M A t Q' E s:=cp h hQ λ_ _ x=>x
section
variable {X:Cx}
theorem bin{a b:Expr}{ta tb:TE}(ha:PE X a ta)(hb:PE X b tb){pins:List (Addr×Obj)}{s:Shared}{σ:St}{H:Hp}{R:V->V->Hp->Prop}(I:Inv X pins σ H s)(h:ta σ H λx H1=>tb σ H1 λy H2=>R x y H2)
  {α:Type} {Q:α->Shared->Prop} {f:Value->Value->Sem α}
  (hf:∀v u s2 x y H2,Inv X pins σ H2 s2->RelV x v->RelV y u->R x y H2->wpAny (model X.prog X.w) X.A (f v u) Q X.xe s2):
  wpAny (model X.prog X.w) X.A (eval a X.env) (λv s₁=>wpAny (model X.prog X.w) X.A (eval b X.env) (λu s₂=>wpAny (model X.prog X.w) X.A (f v u) Q X.xe s₂) X.xe s₁) X.xe s:=by
 refine thn (ha pins s σ H _ I h) λv s1 ⟨x,H1,I1,r1,q1⟩=>?_;refine thn (hb pins s1 σ H1 _ I1 q1) λu s2 ⟨y,H2,I2,r2,q2⟩=>?_;exact hf v u s2 x y H2 I2 r1 r2 q2
def Be(i:Nat):TE:=λσ H Q=>∃v,σ[i]?=some (some v)/\Q v H
def tC(v:V):TE:=λ_ H Q=>Q v H
theorem vK {i:Nat} {x:Str} {pos:Pos} (hN:X.N[i]?=some x) (hv:Vis X.env.scope x) (hd:(x==("__debug__":Str))=false:=by decide) (hcd:(x==("__classdict__":Str))=false:=by decide):PE X (.Name x pos) (Be i):=by
 intro pins s σ H Q I h;obtain ⟨v,e,h⟩:=h;obtain ⟨m,hn,hl⟩:=I.loc;obtain ⟨u,r,l⟩:=hl i x v hN e hv;have fin:EP X pins σ Q u s:=⟨v,H,I,r,h⟩;rcases l with ⟨hk,hm⟩ |⟨hk,c,hc,hcell⟩
 ·exact wpAny_Name (wpAny_loadName_local I.ok.kind hk hn hm fin) hd
 ·rcases hk with hk |hk
  ·exact wpAny_Name (wpAny_loadName_cell I.ok.kind hk hc hcell fin) hd
  ·exact wpAny_Name (wpAny_loadName_free I.ok.kind hk hc hcell fin hcd) hd
theorem Uv{i j pos}:PE X (.Constant (.int i) j pos) (tC (.int i)):=λ_ _ _ H _ I h=>wpAny_Constant_int ⟨.int i,H,I.tok _,⟨_,rfl⟩,h⟩
theorem Bg{b j pos}:PE X (.Constant (.bool b) j pos) (tC (.bl b)):=λ_ _ _ H _ I h=>Constant_bool ⟨.bl b,H,I,rfl,h⟩
theorem Uw{j pos}:PE X (.Constant .none j pos) (tC .non):=λ_ _ _ H _ I h=>Constant_none ⟨.non,H,I,rfl,h⟩
theorem Bh{x j pos}:PE X (.Constant (.str x) j pos) (tC (.str x)):=λ_ _ _ H _ I h=>Calls.Constant_str ⟨.str x,H,I.tok _,⟨_,rfl⟩,h⟩
def Gl(X:Cx)(x:Str):Prop:=X.env.kindOf x=some .globalImplicit
theorem gn{E:Value->Shared->Prop}{pins:List (Addr×Obj)}{s:Shared}{σ:St}{H:Hp}{x:Str}{u:Value}{pos:Pos}{Q:Value->Shared->Prop}(I:Inv X pins σ H s)(hg:Gl X x)(hm:X.mg x=some u)(h:Q u s)
  (hd:(x==("__debug__":Str))=false:=by decide):wpAny (model X.prog X.w) X.A (eval (.Name x pos) X.env) Q E s:=
 Calls.Name_function_global I.ok.kind hg (Calls.loadGlobal_global (by rw[I.ok.glob];exact I.mod.glob.keeps I.bk) hm h) hd
theorem jm{E:Value->Shared->Prop}{pins:List (Addr×Obj)}{s:Shared}{σ:St}{H:Hp}{x:Str}{u:Value}{pos:Pos}{Q:Value->Shared->Prop}(I:Inv X pins σ H s)(hg:Gl X x)(hm:X.mg x=none)(hv:bootBuiltins x=some u)(h:Q u s)
  (hn:x≠"__name__":=by decide) (hd:(x==("__debug__":Str))=false:=by decide):wpAny (model X.prog X.w) X.A (eval (.Name x pos) X.env) Q E s:=by
 obtain ⟨mb,h1,h2⟩:=I.mod.blt;exact Calls.Name_function_global I.ok.kind hg (Calls.loadGlobal_builtin (by rw[I.ok.glob];exact I.mod.glob.keeps I.bk) hm (by rw[I.ok.blt];exact h1.keeps I.bk) ((h2 x hn).trans hv) h) hd
theorem Bj {x:Str} {v:V} {u:Value} {pos:Pos} (hg:Gl X x) (hm:X.mg x=some u) (r:RelV v u) (hd:(x==("__debug__":Str))=false:=by decide):PE X (.Name x pos) (tC v):=
 λ_ _ _ H _ I h=>gn I hg hm ⟨v,H,I,r,h⟩ hd
theorem Ux {x:Str} {v:V} {u:Value} {pos:Pos} (hg:Gl X x) (hm:X.mg x=none) (hv:bootBuiltins x=some u) (r:RelV v u) (hn:x≠"__name__":=by decide) (hd:(x==("__debug__":Str))=false:=by decide):PE X (.Name x pos) (tC v):=
 λ_ _ _ H _ I h=>jm I hg hm hv ⟨v,H,I,r,h⟩ hn hd
variable {a b:Expr} {ta tb:TE} {pos:Pos}
variable {tA tB':TT} {rest:List Expr}
def Uy(t u:TT):TT:=λσ H Q=>t σ H λc H1=>if c=true then u σ H1 Q else Q false H1
def tOr(t u:TT):TT:=λσ H Q=>t σ H λc H1=>if c=true then Q true H1 else u σ H1 Q
def Uz(t:TT):TT:=λσ H Q=>t σ H λc H1=>Q (!c) H1
theorem UG(ha:PT X a tA):PW X (.BoolOp .And [a] pos) tA:=by
 intro wh pins s σ H Q I h;refine isTrue_and (thn (ha pins s σ H Q I h) λc s1 e=>?_);cases c with
 |true=>exact isTrue_and_nil e
 |false=>exact e
theorem UJ(ha:PT X a tA):PW X (.BoolOp .Or [a] pos) tA:=by
 intro wh pins s σ H Q I h;refine isTrue_or (thn (ha pins s σ H Q I h) λc s1 e=>?_);cases c with
 |false=>exact isTrue_or_nil e
 |true=>exact e
theorem UL(ha:PT X a tA)(hb:PW X (.BoolOp .And (b::rest) pos) tB'):PW X (.BoolOp .And (a::b::rest) pos) (Uy tA tB'):=by
 intro wh pins s σ H Q I h;refine isTrue_and (thn (ha pins s σ H _ I h) λc s1 ⟨H1,I1,q1⟩=>?_);cases c with
 |true=>exact hb wh pins s1 σ H1 Q I1 q1
 |false=>exact ⟨H1,I1,q1⟩
theorem UT(ha:PT X a tA)(hb:PW X (.BoolOp .Or (b::rest) pos) tB'):PW X (.BoolOp .Or (a::b::rest) pos) (tOr tA tB'):=by
 intro wh pins s σ H Q I h;refine isTrue_or (thn (ha pins s σ H _ I h) λc s1 ⟨H1,I1,q1⟩=>?_);cases c with
 |true=>exact ⟨H1,I1,q1⟩
 |false=>exact hb wh pins s1 σ H1 Q I1 q1
theorem UV(ha:PT X a tA):PT X (.UnaryOp .Not a pos) (Uz tA):=by intro pins s σ H Q I h;exact isTrue_not (ha pins s σ H (λc H1=>Q (!c) H1) I h)
def UW(ta tb:TE):TE:=λσ H Q=>ta σ H λx H1=>∃c,x=.bl c/\if c=true then tb σ H1 Q else Q (.bl false) H1
def U0(ta tb:TE):TE:=λσ H Q=>ta σ H λx H1=>∃c,x=.bl c/\if c=true then Q (.bl true) H1 else tb σ H1 Q
theorem U3{op}{t:TE}(h:PE X a t):PE X (.BoolOp op [a] pos) t:=λpins s σ H Q I hw=>BoolOp_one (h pins s σ H Q I hw)
theorem U4(ha:PE X a ta)(hb:PE X (.BoolOp .And (b::rest) pos) tb):PE X (.BoolOp .And (a::b::rest) pos) (UW ta tb):=by
 intro pins s σ H Q I h;refine BoolOp_and (thn (ha pins s σ H _ I h) λv s1 ⟨x,H1,I1,r1,q1⟩=>?_);obtain ⟨c,rfl,q1⟩:=q1;cases r1;refine ej ?_;cases c with
 |true=>exact hb pins s1 σ H1 Q I1 q1
 |false=>exact ⟨.bl false,H1,I1,rfl,q1⟩
theorem U5(ha:PE X a ta)(hb:PE X (.BoolOp .Or (b::rest) pos) tb):PE X (.BoolOp .Or (a::b::rest) pos) (U0 ta tb):=by
 intro pins s σ H Q I h;refine BoolOp_or (thn (ha pins s σ H _ I h) λv s1 ⟨x,H1,I1,r1,q1⟩=>?_);obtain ⟨c,rfl,q1⟩:=q1;cases r1;refine ej ?_;cases c with
 |false=>exact hb pins s1 σ H1 Q I1 q1
 |true=>exact ⟨.bl true,H1,I1,rfl,q1⟩
def tIf(t:TT)(ta tb:TE):TE:=λσ H Q=>t σ H λc H1=>if c=true then ta σ H1 Q else tb σ H1 Q
theorem U6{c:Expr}(hc:PT X c tA)(ha:PE X a ta)(hb:PE X b tb):PE X (.IfExp c a b pos) (tIf tA ta tb):=by
 intro pins s σ H Q I h;refine wpAny_IfExp (thn (hc pins s σ H _ I h) λd s1 ⟨H1,I1,q1⟩=>?_);cases d with
 |true=>exact ha pins s1 σ H1 Q I1 q1
 |false=>exact hb pins s1 σ H1 Q I1 q1
end
def SqL(K:PF)(H:Hp)(a:Addr)(xs:List V):Prop:=
 Rd H a (.lst xs)\/
  ∃(o:Obj) (its:Array Value) (n:Nat),K.lookup a=some o/\o.cls=.type "list"/\o.dict=none/\o.data=.seq its n/\its.size<=sizeLine/\Vals xs its.toList
def SqT(K:PF)(H:Hp)(a:Addr)(xs:List V):Prop:=
 Rd H a (.tup xs)\/
  ∃(o:Obj) (its:Array Value) (n:Nat),K.lookup a=some o/\o.cls=.type "tuple"/\o.data=.seq its n/\its.size<=sizeLine/\Vals xs its.toList
noncomputable def U7:Value->Option V
 |.none=>some .non
 |.bool b=>some (.bl b)
 |.int i _=>some (.int i)
 |.str x _=>some (.str x)
 |.bytes b _=>some (.byt b)
 |.float b _=>some (.flt b)
 |.ref a=>some (.ref a)
 |.type n=>some (.ty n)
 |_=>none
theorem RelV.abs{x:V}{u:Value}(r:RelV x u):U7 u=some x:=by
 cases x with
 |non=>cases r;rfl
 |bl _=>cases r;rfl
 |int _=>obtain ⟨t,rfl⟩:=r;rfl
 |str _=>obtain ⟨t,rfl⟩:=r;rfl
 |byt _=>obtain ⟨t,rfl⟩:=r;rfl
 |flt _=>obtain ⟨t,rfl⟩:=r;rfl
 |ref _=>cases r;rfl
 |ty _=>cases r;rfl
theorem RelV.inj{x y:V}{u:Value}(r:RelV x u)(q:RelV y u):x=y:=dv (r.abs.symm.trans q.abs)
theorem Vals.inj:∀{xs ys:List V}{us:List Value},Vals xs us->Vals ys us->xs=ys
 |_,_,_,.nil,.nil=>rfl
 |_,_,_,.cons r t,.cons r' t'=>by rw[r.inj r',Vals.inj t t']
section
variable {X:Cx} {pins:List (Addr×Obj)} {σ:St} {H:Hp} {s:Shared} {a:Addr} {xs ys:List V}
theorem SqL.of{K:PF}(h:H a=some (.lst xs)):SqL K H a xs:=.inl (.inl h)
theorem SqT.of{K:PF}(h:H a=some (.tup xs)):SqT K H a xs:=.inl (.inl h)
theorem Inv.list(I:Inv X pins σ H s)(h:SqL X.K H a xs):∃its:List Value,Vals xs its/\PlainL s.heap a its.toArray/\xs.length<=sizeLine:=by
 rcases h with h |⟨o,its,n,hk,hc,hd,hs,hz,r⟩
 ·obtain ⟨z,its,n,r,e⟩:=h.ok I.hok;exact ⟨its,r,⟨_,n,e,rfl,rfl,rfl⟩,z⟩
 ·refine ⟨its.toList,r,⟨o,n,I.kIn a o hk,hc,hd,by simpa using hs⟩,?_⟩;have e:=r.length;simp only[dS]at e;omega
theorem Inv.tuple(I:Inv X pins σ H s)(h:SqT X.K H a xs):∃its:List Value,Vals xs its/\IsTup s.heap a its.toArray/\xs.length<=sizeLine:=by
 rcases h with h |⟨o,its,n,hk,hc,hs,hz,r⟩
 ·obtain ⟨z,its,r,p⟩:=h.ok I.hok;exact ⟨its,r,p,z⟩
 ·refine ⟨its.toList,r,⟨o,I.kIn a o hk,hc,n,by simpa using hs⟩,?_⟩;have e:=r.length;simp only[dS]at e;omega
theorem Inv.list_inj(I:Inv X pins σ H s)(h:SqL X.K H a xs)(h':SqL X.K H a ys):xs=ys:=by
 obtain ⟨its,r,⟨o,n,e,_,_,d⟩,_⟩:=I.list h;obtain ⟨its',r',⟨o',n',e',_,_,d'⟩,_⟩:=I.list h';rw[e]at e';cases e';rw[d]at d';injection d' with d1 _;have:its=its':=by simpa using fe Array.toList d1
 subst this;exact r.inj r'
theorem Inv.tuple_inj(I:Inv X pins σ H s)(h:SqT X.K H a xs)(h':SqT X.K H a ys):xs=ys:=by
 obtain ⟨its,r,⟨o,e,_,n,d⟩,_⟩:=I.tuple h;obtain ⟨its',r',⟨o',e',_,n',d'⟩,_⟩:=I.tuple h';rw[e]at e';cases e';rw[d]at d';injection d' with d1 _;have:its=its':=by simpa using fe Array.toList d1
 subst this;exact r.inj r'
end
abbrev Cx.wish(X:Cx)(E:Value->Shared->Prop):Cx:={ X with xe:=E }
abbrev Cx.nox(X:Cx):Cx:=X.wish λ_ _=>False
theorem Cx.Ok.wish{X:Cx}(ok:X.Ok)(E:Value->Shared->Prop):(X.wish E).Ok:=
 ⟨ok.mod,ok.kind,ok.glob,ok.blt,ok.above,ok.inj,ok.has,ok.cab,ok.hd,ok.frames,ok.stk,ok.exf,ok.bs,ok.bsz,ok.noex,ok.exfs,ok.funs,ok.frf⟩
theorem Cx.Ok.unwish{X:Cx}{E:Value->Shared->Prop}(ok:(X.wish E).Ok):X.Ok:=
 ⟨ok.mod,ok.kind,ok.glob,ok.blt,ok.above,ok.inj,ok.has,ok.cab,ok.hd,ok.frames,ok.stk,ok.exf,ok.bs,ok.bsz,ok.noex,ok.exfs,ok.funs,ok.frf⟩
section
variable {X:Cx} {pins:List (Addr×Obj)} {σ:St} {H:Hp} {s:Shared} {E:Value->Shared->Prop}
theorem Inv.wish(I:Inv X pins σ H s)(E:Value->Shared->Prop):Inv (X.wish E) pins σ H s:=⟨I.ok.wish E,I.os,I.bare,I.base,I.loc,I.cell,I.free,I.freeC,I.pin,I.hok,I.len⟩
theorem Inv.unwish(I:Inv (X.wish E) pins σ H s):Inv X pins σ H s:=⟨I.ok.unwish,I.os,I.bare,I.base,I.loc,I.cell,I.free,I.freeC,I.pin,I.hok,I.len⟩
theorem SP.unwish{D:Ends}{f:Flow}{s':Shared}(h:SP (X.wish E) pins D f s'):SP X pins D f s':=by
 cases f with
 |next=>obtain ⟨σ',H',I,q⟩:=h;exact ⟨σ',H',I.unwish,q⟩
 |brk=>obtain ⟨σ',H',I,q⟩:=h;exact ⟨σ',H',I.unwish,q⟩
 |cont=>obtain ⟨σ',H',I,q⟩:=h;exact ⟨σ',H',I.unwish,q⟩
 |ret u=>obtain ⟨v,σ',H',I,r,q⟩:=h;exact ⟨v,σ',H',I.unwish,r,q⟩
theorem PSs.nox{st:List Stmt}{t:TS}(h:PSs X.nox st t):PSs X st t:=λpins s σ H D I hw=>
 cp (h pins s σ H D (I.wish _) hw) (λ_ _ q=>q.unwish) λ_ _ z=>False.elim z
end
section
variable {X:Cx} {st:Stmt} {rest:List Stmt} {t u:TS} {e:Expr} {te:TE} {pos:Pos}
def Bk:TS:=λD σ H=>D.nx σ H
def U8(t u:TS):TS:=λD σ H=>t { D with nx:=u D } σ H
theorem U9:PSs X [] Bk:=λ_ _ σ H _ I h=>fo ⟨σ,H,I,h⟩
theorem Bl(h1:PS X st t)(h2:PSs X rest u):PSs X (st::rest) (U8 t u):=by
 intro pins s σ H D I h;refine gt (thn (h1 pins s σ H { D with nx:=u D } I h) λf s1 q=>?_);cases f with
 |next=>
  obtain ⟨σ',H',I',q⟩:=q;exact h2 pins s1 σ' H' D I' q
 |ret v=>exact q
 |brk=>exact q
 |cont=>exact q
theorem vL(h1:PS X st t):PSs X [st] t:=by
 intro pins s σ H D I h;refine gt (thn (h1 pins s σ H D I h) λf s1 q=>?_);cases f with
 |next=>exact fo q
 |ret v=>exact q
 |brk=>exact q
 |cont=>exact q
def Va:TS:=λD σ H=>D.bk σ H
def Vb:TS:=λD σ H=>D.ct σ H
theorem Vc:PS X (.Pass pos) Bk:=λ_ _ σ H _ I h=>wpAny_Pass ⟨σ,H,I,h⟩
theorem Vd:PS X (.Break pos) Va:=λ_ _ σ H _ I h=>wpAny_Break ⟨σ,H,I,h⟩
theorem Ve:PS X (.Continue pos) Vb:=λ_ _ σ H _ I h=>wpAny_Continue ⟨σ,H,I,h⟩
theorem Inv.quiet{pins:List (Addr×Obj)}{σ:St}{H:Hp}{s:Shared}(I:Inv X pins σ H s):interactive X.env=false:=by simp[interactive,I.ok.kind]
def Vf(te:TE):TS:=λD σ H=>te σ H λ_ H1=>D.nx σ H1
theorem Vg(he:PE X e te)(hs:swapsWith e none pos.line X.env=pure false:=by rfl):PS X (.Expr e pos) (Vf te):=by intro pins s σ H D I h;exact wpAny_Expr_any (thn (he pins s σ H _ I h) λv s1 ⟨x,H1,I1,r1,q1⟩=>⟨σ,H1,I1,q1⟩) I.quiet hs
def Bm(te:TE):TS:=λD σ H=>te σ H D.rt
theorem Vh(he:PE X e te):PS X (.Return (some e) pos) (Bm te):=by intro pins s σ H D I h;exact wpAny_Return_some (thn (he pins s σ H _ I h) λv s1 ⟨x,H1,I1,r1,q1⟩=>⟨x,σ,H1,I1,r1,q1⟩)
def Vi:TS:=λD _ H=>D.rt .non H
theorem Vj:PS X (.Return none pos) Vi:=λ_ _ σ H _ I h=>wpAny_Return_none ⟨.non,σ,H,I,rfl,h⟩
def Vk(c:TT)(t u:TS):TS:=λD σ H=>c σ H λb H1=>if b=true then t D σ H1 else u D σ H1
theorem Vl{c:Expr}{a b:List Stmt}{tc:TT}(hc:PT X c tc)(ha:PSs X a t)(hb:PSs X b u):PS X (.If c a b pos) (Vk tc t u):=by
 intro pins s σ H D I h;refine wpAny_If (thn (hc pins s σ H _ I h) λd s1 ⟨H1,I1,q1⟩=>?_);cases d with
 |true=>exact ha pins s1 σ H1 D I1 q1
 |false=>exact hb pins s1 σ H1 D I1 q1
def Vm:TS:=λ_ _ _=>False
theorem Vn:PS X st Vm:=λ_ _ _ _ _ _ h=>h.elim
end
abbrev TG:=V->St->Hp->(St->Hp->Prop)->Prop
abbrev TGs:=List V->St->Hp->(St->Hp->Prop)->Prop
def PG(X:Cx)(target:Expr)(t:TG):Prop:=
 ∀(pins:List (Addr×Obj))(s:Shared)(σ:St)(H:Hp)(v:V)(u:Value)(Q:St->Hp->Prop),Inv X pins σ H s->RelV v u->t v σ H Q->
  wpAny (model X.prog X.w) X.A (assign target X.env u) (λ_ s'=>∃σ' H',Inv X pins σ' H' s'/\Q σ' H') X.xe s
def PGs(X:Cx)(ts:List Expr)(t:TGs):Prop:=
 ∀(pins:List (Addr×Obj))(s:Shared)(σ:St)(H:Hp)(vs:List V)(us:List Value)(Q:St->Hp->Prop),Inv X pins σ H s->Vals vs us->t vs σ H Q->
  wpAny (model X.prog X.w) X.A (assignInOrder ((assignEach ts X.env).map (·.2)) us) (λ_ s'=>∃σ' H',Inv X pins σ' H' s'/\Q σ' H') X.xe s
abbrev vM:=V->V->V->Hp->(Hp->Prop)->Prop
def vN(X:Cx)(t:vM):Prop:=
 ∀(pins:List (Addr×Obj))(s:Shared)(σ:St)(H:Hp)(o i v:V)(ov iv u:Value)(Q:Hp->Prop),Inv X pins σ H s->RelV o ov->RelV i iv->RelV v u->t o i v H Q->
  wpAny (model X.prog X.w) X.A (setItem ov iv u) (λ_ s'=>∃H',Inv X pins σ H' s'/\Q H') X.xe s
abbrev TIp:=V->V->Hp->VK->Prop
def PIp(X:Cx)(op:Operator)(t:TIp):Prop:=
 ∀(pins:List (Addr×Obj))(s:Shared)(σ:St)(H:Hp)(x y:V)(v u:Value)(Q:VK),Inv X pins σ H s->RelV x v->RelV y u->t x y H Q->
  wpAny (model X.prog X.w) X.A (inplaceOp op v u) (EP X pins σ Q) X.xe s
section
variable {X:Cx} {pos:Pos}
def qg(i:Nat):TG:=λv σ H Q=>Q (σ.set i (some v)) H
theorem Vo{i:Nat}{x:Str}(hN:X.N.Nodup)(hi:X.N[i]?=some x)(hx:Loc X.env.scope x)(hf:X.fn x=true\/X.env.scope.names.lookup x=some .local:=by first |exact .inl rfl |exact .inr rfl |assumption):PG X (.Name x pos) (qg i):=by intro pins s σ H v u Q I r h;exact wpAny_assign_Name (lg I hN hi hx r (λs' I'=>⟨_,H,I',h⟩) hf)
def Vp:TGs:=λvs σ H Q=>vs=[]/\Q σ H
def Vq(t:TG)(u:TGs):TGs:=λvs σ H Q=>∃v r,vs=v::r/\t v σ H λσ' H'=>u r σ' H' Q
theorem Vr:PGs X [] Vp:=by intro pins s σ H vs us Q I r h;obtain ⟨e,h⟩:=h;subst e;cases r;exact assignInOrder_nil ⟨σ,H,I,h⟩
theorem Vs{e:Expr}{es:List Expr}{t:TG}{u:TGs}(h1:PG X e t)(h2:PGs X es u)
  (hs:(assignEach (e::es) X.env).map (·.2)=assign e X.env::(assignEach es X.env).map (·.2):=by rfl):PGs X (e::es) (Vq t u):=by
 intro pins s σ H vs us Q I r h;obtain ⟨v,vr,e1,h⟩:=h;subst e1;cases r with
 |cons r rr=>
  rw[hs];refine assignInOrder_cons (thn (h1 pins s σ H _ _ _ I r h) λ_ s1 ⟨σ1,H1,I1,q1⟩=>?_);exact h2 pins s1 σ1 H1 _ _ Q I1 rr q1
def Vt(K:PF)(n:Nat)(t:TGs):TG:=λv σ H Q=>∃a xs,v=.ref a/\SqT K H a xs/\xs.length=n/\t xs σ H Q
theorem Vu{es:List Expr}{k:Nat}{t:TGs}{n:Nat}(hc:X.calm=true)(h:PGs X es t)
  (hn:(assignEach es X.env).length=n:=by rfl) (hst:(assignEach es X.env).findIdx? (·.1)=none:=by rfl):PG X (.Tuple es k pos) (Vt X.K n t):=by
 intro pins s σ H v u Q I r hw;obtain ⟨a,xs,e1,hq,hl,hw⟩:=hw;subst e1;cases r;obtain ⟨its,rv,ht,hz⟩:=I.tuple hq;refine assign_Tuple_tuple (I.ok.hd hc) ht (by simp[hn,<-hl,rv.length]) hst λh' hx=>?_;have I1:Inv X pins σ H { s with heap:=h' }:=I.kept (t':=s.toks) λb o e=>hx b o (bX (ay e)) e;exact h pins _ σ H xs _ Q I1 (by simpa using rv) hw
def Vv(to ti:TE)(t:vM):TG:=λv σ H Q=>to σ H λo H1=>ti σ H1 λi H2=>t o i v H2 λH3=>Q σ H3
theorem Vw{o i:Expr}{to ti:TE}{t:vM}(ho:PE X o to)(hi:PE X i ti)(hs:vN X t)
  (ha:∀v,assign (.Subscript o i pos) X.env v=(do
   let ov <-holding [v] (eval o X.env)
   let iv <-holding [v,ov] (eval i X.env)
   standAt pos
   holding [v,ov,iv] (setItem ov iv v)
   release [v,ov,iv] []):=by intro _;rfl):PG X (.Subscript o i pos) (Vv to ti t):=by
 intro pins s σ H v u Q I r h;rw[ha];refine ag (e8 (thn (ho pins s σ H _ I h) λov s1 ⟨x,H1,I1,r1,q1⟩=>?_));refine ag (e8 (thn (hi pins s1 σ H1 _ I1 q1) λiv s2 ⟨y,H2,I2,r2,q2⟩=>?_));refine ag (wpAny_standAt (ag (e8 (thn (hs pins s2 σ H2 x y v ov iv u _ I2 r1 r2 r q2) λ_ s3 ⟨H3,I3,q3⟩=>?_))));exact wpAny_release ⟨σ,H3,I3,q3⟩
def qi(te:TE)(g:TG):TS:=λD σ H=>te σ H λx H1=>g x σ H1 D.nx
theorem Bo{tg e:Expr}{te:TE}{g:TG}(he:PE X e te)(hg:PG X tg g)(hs:swapsWithSole [tg] e pos.line X.env=pure false:=by rfl)(hw:swappedStores [tg] e X.env=pure none:=by rfl)
  (h1:(assignEach [tg] X.env).map (·.2)=[assign tg X.env]:=by rfl):PS X (.Assign [tg] e pos) (qi te g):=by
 intro pins s σ H D I h;refine wpAny_Assign_stores (thn (he pins s σ H _ I h) λv s1 ⟨x,H1,I1,r1,q1⟩=>?_) hs hw;rw[h1];exact thn (hg pins s1 σ H1 x v _ I1 r1 q1) λ_ s2 q=>q
theorem qj{i:Nat}{x:Str}{e:Expr}{te:TE}{pos':Pos}(hN:X.N.Nodup)(hi:X.N[i]?=some x)(hx:Loc X.env.scope x)(he:PE X e te)(hs:swapsWith e (some (.Name x pos')) pos.line X.env=pure false:=by rfl)(hf:X.fn x=true\/X.env.scope.names.lookup x=some .local:=by first |exact .inl rfl |exact .inr rfl |assumption):
  PS X (.Assign [.Name x pos'] e pos) (qi te (qg i)):=by
 intro pins s σ H D I h;refine wpAny_Assign_Name (thn (he pins s σ H _ I h) λv s1 ⟨y,H1,I1,r1,q1⟩=>?_) hs;exact lg I1 hN hi hx r1 (λs2 I2=>⟨_,H1,I2,q1⟩) hf
def Vx(i:Nat)(te:TE)(ti:TIp):TS:=λD σ H=>∃x,σ[i]?=some (some x)/\te σ H λy H1=>ti x y H1 λz H2=>D.nx (σ.set i (some z)) H2
theorem Vy{i:Nat}{x:Str}{e:Expr}{te:TE}{op:Operator}{ti:TIp}{pos':Pos}(hN:X.N.Nodup)(hi:X.N[i]?=some x)(hx:Loc X.env.scope x)(he:PE X e te)(ho:PIp X op ti)(hf:X.fn x=true\/X.env.scope.names.lookup x=some .local:=by first |exact .inl rfl |exact .inr rfl |assumption):
  PS X (.AugAssign (.Name x pos') op e pos) (Vx i te ti):=by
 intro pins s σ H D I h;obtain ⟨v,e1,h⟩:=h;obtain ⟨m,hn,hl⟩:=I.loc;have vis:Vis X.env.scope x:=by rcases hx with k |k;exact .inl k;exact .inr (.inl k)
 obtain ⟨u,r,l⟩:=hl i x v hi e1 vis;refine wpAny_AugAssign_Name ?_;have go:wpAny (model X.prog X.w) X.A (eval e X.env) (λw s₂=>wpAny (model X.prog X.w) X.A (inplaceOp op u w) (λr s₃=>wpAny (model X.prog X.w) X.A (storeName X.env x r) (λ_=>SP X pins D .next) X.xe s₃) X.xe s₂) X.xe s:=by refine thn (he pins s σ H _ I h) λw s1 ⟨y,H1,I1,r1,q1⟩=>?_;refine thn (ho pins s1 σ H1 v y u w _ I1 r r1 q1) λz s2 ⟨zv,H2,I2,r2,q2⟩=>?_;exact lg I2 hN hi hx r2 (λs3 I3=>⟨_,H2,I3,q2⟩) hf
 rcases l with ⟨hk,hm⟩ |⟨hk,c,hc,hcell⟩
 ·exact wpAny_loadName_local I.ok.kind hk hn hm go
 ·rcases hk with hk |hk
  ·exact wpAny_loadName_cell I.ok.kind hk hc hcell go
  ·rcases hx with k |k
   ·have:X.env.scope.names.lookup x=some .free:=hk;rw[k]at this;cases this
   ·have:X.env.scope.names.lookup x=some .free:=hk;rw[k]at this;cases this
end
structure It where
 go:Nat->Hp->Prop
 yld:Nat->Hp->V->Hp->Prop
 stop:Nat->Hp->Prop
def eF(X:Cx)(pins:List (Addr×Obj))(H:Hp)(b:Addr):Prop:=
 H b=none/\b≠X.env.locals/\b∉X.fs/\(b∈X.ex\/X.s₀.heap.objs.size<=b)/\(∀x c,X.env.cells.lookup x=some c->c≠b)/\∀p∈X.pn++pins,p.1≠b
theorem Inv.fpOk{X:Cx}{pins:List (Addr×Obj)}{σ:St}{H H':Hp}{s:Shared}{b:Addr}(I:Inv X pins σ H s)(hb:s.heap.objs.size<=b)(hn:H' b=none):eF X pins H' b:=by
 refine ⟨hn,fR (ba I.lt hb),I.nofs hb,.inr (cw I.sz hb),λx c e z=>?_,λp hp z=>?_⟩
 ·obtain ⟨v,q⟩:=I.cell x c e;exact absurd (ba q.lt (by rw[z];exact hb)) (ee _)
 ·exact absurd (ba (ay (I.pin p hp).1) (by rw[z];exact hb)) (ee _)
structure Turn(P:Program)(w:World)(K:PF)(tg:Expr)(J:It)(fp:List Addr)(it:Addr)(tn:Nat->Heap->Prop):Prop where
 mem:it∈fp
 obj:∀i h,tn i h->∀b∈fp,∃o,h.get? b=some o/\∀v,o.data≠.cell v
 keep:∀i h h',tn i h->(∀b∈fp,∀o,h.get? b=some o->h'.get? b=some o)->tn i h'
 item:∀(X:Cx),X.prog=P->X.w=w->X.K=K->X.calm=true->∀(i:Nat)(pins:List (Addr×Obj))(s:Shared)(σ:St)(H:Hp)(E:Value->Shared->Prop),Inv X pins σ H s->(∀b∈fp,eF X pins H b)->tn i s.heap->J.go i H->
  wpAny (model P w) X.A (pyNext (.ref it)) (λr s1=>∃u,r=some u/\
   wpAny (model P w) X.A (letOwnedTupleGo tg (.ref it) u) (λ_ s2=>∃x H',Inv X pins σ H' s2/\RelV x u/\J.yld i H x H'/\tn (i+1) s2.heap/\∀b∈fp,H' b=none) E s1) E s
 done:∀(X:Cx),X.prog=P->X.w=w->X.K=K->X.calm=true->∀(i:Nat)(pins:List (Addr×Obj))(s:Shared)(σ:St)(H:Hp)(E:Value->Shared->Prop),Inv X pins σ H s->(∀b∈fp,eF X pins H b)->tn i s.heap->J.stop i H->
  wpAny (model P w) X.A (pyNext (.ref it)) (λr s1=>r=none/\Inv X pins σ H s1) E s
 self:∀(A:Around)(i:Nat)(s:Shared)(Q:Value->Shared->Prop)(E:Value->Shared->Prop),tn i s.heap->Q (.ref it) s->wpAny (model P w) A (pyIter (.ref it)) Q E s
abbrev TI:=St->Hp->(It->Hp->Prop)->Prop
def PIE(X:Cx)(pins:List (Addr×Obj))(σ:St)(tg:Expr)(R:It->Hp->Prop)(itv:Value)(s2:Shared):Prop:=
 ∃(it:Addr)(fp:List Addr)(tn:Nat->Heap->Prop)(J:It)(H':Hp),itv=.ref it/\Inv X pins σ H' s2/\Turn X.prog X.w X.K tg J fp it tn/\tn 0 s2.heap/\(∀b∈fp,eF X pins H' b)/\R J H'
def PI(X:Cx)(tg iter:Expr)(wi:TI):Prop:=
 ∀(pins:List (Addr×Obj))(s:Shared)(σ:St)(H:Hp)(R:It->Hp->Prop),Inv X pins σ H s->wi σ H R->
  wpAny (model X.prog X.w) X.A (eval iter X.env) (λv s1=>wpAny (model X.prog X.w) X.A (pyIter v) (PIE X pins σ tg R) X.xe s1) X.xe s
theorem ql{M:Model}{A:Around}{E:Value->Shared->Prop}{s:Shared}{tg:Expr}{it:Addr}{u:Value}{o:Obj}{n:String}{vs:Array Value}{Q:Unit->Shared->Prop}(ho:s.heap.get? it=some o)(hc:o.cls=.type n)(hd:o.data=.fields vs)
  (hn:["enumerate","zip","dict_itemiterator","dict_reverseitemiterator","odict_iterator","itertools.zip_longest","itertools.pairwise"].contains n=false) (hQ:Q () s):wpAny M A (letOwnedTupleGo tg (.ref it) u) Q E s:=by
 unfold letOwnedTupleGo;cases tg <;> first
  |exact a7 hQ
  | (cases u <;> first
    |exact a7 hQ
    | (refine ag (wpAny_load ho ?_)
       rw[hc,hd];show wpAny M A (if (["enumerate","zip","dict_itemiterator","dict_reverseitemiterator","odict_iterator","itertools.zip_longest","itertools.pairwise"].contains n&&vs[0]?==some (rawInt _))=true then _ else _) Q E s;rw[if_neg (by intro h;rw[hn,e7]at h;cases h)];exact a7 hQ))
def Itl(K:PF)(a:Addr):It:=
 ⟨λi H=>∃xs x,SqL K H a xs/\xs[i]?=some x,λi H x H'=>H'=H/\∀xs,SqL K H a xs->xs[i]?=some x,λi H=>∃xs,SqL K H a xs/\xs.length<=i⟩
def Itt(K:PF)(a:Addr):It:=
 ⟨λi H=>∃xs x,SqT K H a xs/\xs[i]?=some x,λi H x H'=>H'=H/\∀xs,SqT K H a xs->xs[i]?=some x,λi H=>∃xs,SqT K H a xs/\xs.length<=i⟩
def Itr(lo:Int)(n:Nat):It:=⟨λi _=>i < n,λi H x H'=>H'=H/\x=.int (lo+i),λi _=>n<=i⟩
theorem Bp{P:Program}{w:World}{K:PF}{tg:Expr}(a it:Addr):Turn P w K tg (Itl K a) [it] it (λi h=>h.IsListIter it a i) where
 mem:=by simp
 obj:=λi h st b hb=>by
  have e:b=it:=by simpa using hb
  subst e;obtain ⟨o,e,c,d⟩:=st;exact ⟨o,e,λv z=>by rw[d]at z;cases z⟩
 keep:=λi h h' st k=>st.at λo e=>k it (by simp) o e
 item:=by intro X hP hw hK hc i pins s σ H E I hf st hg;subst hP hw hK;obtain ⟨xs,x,hq,hx⟩:=hg;obtain ⟨its,rv,p,hz⟩:=I.list hq;obtain ⟨u,hu,ru⟩:=rv.get hx;obtain ⟨f0,f1,f2,f3,f4,f5⟩:=hf it (by simp);refine wpAny_pyNext_list_item st p.isList (x:=u) (by simpa using hu) λh' st' sb=>?_;have I1:Inv X pins σ H { s with heap:=h' }:=I.turned (t':=s.toks) (λb o hb e=>(sb.2 b hb).trans e) f0 f1 f3 f4 f5;obtain ⟨o,e,c,d⟩:=id st';exact ⟨u,rfl,ql (s:={ s with heap:=h' }) e c d (by decide) ⟨x,H,I1,ru,⟨rfl,λys hy=>by rw[I.list_inj hy hq];exact hx⟩,st',λb hb=>(hf b hb).1⟩⟩
 done:=by intro X hP hw hK hc i pins s σ H E I hf st hg;subst hP hw hK;obtain ⟨xs,hq,hx⟩:=hg;obtain ⟨its,rv,p,hz⟩:=I.list hq;obtain ⟨f0,f1,f2,f3,f4,f5⟩:=hf it (by simp);have hl:=rv.length;exact wpAny_pyNext_list_end (I.ok.hd hc) st p.isList (by simp;omega) λh' eb=>⟨rfl,I.turned (t':=s.toks) (λb o hb e=>eb b o hb e) f0 f1 f3 f4 f5⟩
 self:=λ_ _ _ _ _ st h=>wpAny_pyIter_listiter st h
theorem Bq{P:Program}{w:World}{K:PF}{tg:Expr}(a it:Addr):Turn P w K tg (Itt K a) [it] it (λi h=>h.IsTupleIter it a i) where
 mem:=by simp
 obj:=λi h st b hb=>by
  have e:b=it:=by simpa using hb
  subst e;obtain ⟨o,e,c,d⟩:=st;exact ⟨o,e,λv z=>by rw[d]at z;cases z⟩
 keep:=λi h h' st k=>st.at λo e=>k it (by simp) o e
 item:=by intro X hP hw hK hc i pins s σ H E I hf st hg;subst hP hw hK;obtain ⟨xs,x,hq,hx⟩:=hg;obtain ⟨its,rv,p,hz⟩:=I.tuple hq;obtain ⟨u,hu,ru⟩:=rv.get hx;obtain ⟨f0,f1,f2,f3,f4,f5⟩:=hf it (by simp);refine wpAny_pyNext_tuple_item st (show s.heap.IsTuple a its.toArray from p) (x:=u) (by simpa using hu) λh' st' sb=>?_;have I1:Inv X pins σ H { s with heap:=h' }:=I.turned (t':=s.toks) (λb o hb e=>(sb.2 b hb).trans e) f0 f1 f3 f4 f5;obtain ⟨o,e,c,d⟩:=id st';exact ⟨u,rfl,ql (s:={ s with heap:=h' }) e c d (by decide) ⟨x,H,I1,ru,⟨rfl,λys hy=>by rw[I.tuple_inj hy hq];exact hx⟩,st',λb hb=>(hf b hb).1⟩⟩
 done:=by intro X hP hw hK hc i pins s σ H E I hf st hg;subst hP hw hK;obtain ⟨xs,hq,hx⟩:=hg;obtain ⟨its,rv,p,hz⟩:=I.tuple hq;obtain ⟨f0,f1,f2,f3,f4,f5⟩:=hf it (by simp);have hl:=rv.length;exact wpAny_pyNext_tuple_end (I.ok.hd hc) st (show s.heap.IsTuple a its.toArray from p) (by simp;omega) λh' eb=>⟨rfl,I.turned (t':=s.toks) (λb o hb e=>eb b o hb e) f0 f1 f3 f4 f5⟩
 self:=λ_ _ _ _ _ st h=>wpAny_pyIter_tupleiter st h
theorem Vz{P:Program}{w:World}{K:PF}{tg:Expr}(it:Addr)(lo:Int)(n:Nat):Turn P w K tg (Itr lo n) [it] it (λi h=>IsRangeIter h it (lo+(i:Nat) * 1) ((n:Int) - (i:Nat)) 1) where
 mem:=by simp
 obj:=λi h st b hb=>by
  have e:b=it:=by simpa using hb
  subst e;exact ⟨_,st,λv z=>by
   have z':Data.fields _=Data.cell v:=z;cases z'⟩
 keep:=λi h h' st k=>k it (by simp) _ st
 item:=by intro X hP hw hK hc i pins s σ H E I hf st hg;subst hP hw hK;obtain ⟨f0,f1,f2,f3,f4,f5⟩:=hf it (by simp);have W:=Walks.range (prog:=X.prog) (w:=X.w) (I.ok.hd hc) it lo 1 n;refine W.item i s _ _ hg st λv h' tk hv st' kk=>?_;obtain ⟨t,rfl⟩:=hv;have I1:Inv X pins σ H { s with heap:=h',toks:=tk }:=I.turned (λb o hb e=>kk b o (by simpa using hb) e) f0 f1 f3 f4 f5;refine ⟨_,rfl,ql (s:={ s with heap:=h',toks:=tk }) (n:="range_iterator") st' rfl rfl (by decide) ⟨.int (lo+i),H,I1,⟨t,?_⟩,⟨rfl,rfl⟩,st',λb hb=>(hf b hb).1⟩⟩;rw[Int.mul_one]
 done:=by intro X hP hw hK hc i pins s σ H E I hf st hg;subst hP hw hK;obtain ⟨f0,f1,f2,f3,f4,f5⟩:=hf it (by simp);exact wpAny_pyNext_range_end (I.ok.hd hc) st (by have:n<=i:=hg;omega) λh' eb=>⟨rfl,I.turned (t':=s.toks) (λb o hb e=>eb b o hb e) f0 f1 f3 f4 f5⟩
 self:=λ_ _ _ _ _ st h=>wpAny_pyIter_rangeiter st h
section
variable {X:Cx} {tg:Expr}
theorem VB{pins:List (Addr×Obj)}{σ:St}{H:Hp}{s:Shared}{R:It->Hp->Prop}{E:Value->Shared->Prop}{lo hi:Int}{t u v:Tok}{tk:Nat}(I:Inv X pins σ H s)(h1:-(2 ^ 62)<=lo)(h2:lo < 2 ^ 62)(h3:-(2 ^ 62)<=hi)(h4:hi < 2 ^ 62)
  (q:R (Itr lo (hi - lo).toNat) H):wpAny (model X.prog X.w) X.A (pyIter (.ref s.heap.objs.size)) (PIE X pins σ tg R) E { s with heap:=s.heap.push { cls:=.type "range",data:=.fields #[.int lo t,.int hi u,.int 1 v] },toks:=tk }:=by
 refine wpAny_pyIter_range (IsRange.new ..) (small_one h1 h2 h3 h4) ?_;have I1:Inv X pins σ H { s with heap:=s.heap.push { cls:=.type "range",data:=.fields #[.int lo t,.int hi u,.int 1 v] },toks:=tk }:=I.kept λb o e=>ah _ e;refine ⟨(s.heap.push { cls:=.type "range",data:=.fields #[.int lo t,.int hi u,.int 1 v] }).objs.size,[(s.heap.push { cls:=.type "range",data:=.fields #[.int lo t,.int hi u,.int 1 v] }).objs.size],_,_,H,rfl,
  I1.kept (t':=tk) λb o e=>ah _ e,Vz _ lo (hi - lo).toNat,?_,λb hb=>?_,q⟩
 ·have e1:lo+((0:Nat):Int) * 1=lo:=by simp
  have e2:(((hi - lo).toNat:Nat):Int) - ((0:Nat):Int)=Builtin.Range.rangeSize lo hi 1:=by rw[rangeSize_one];split <;> omega
  show IsRangeIter _ _ (lo+((0:Nat):Int) * 1) ((((hi - lo).toNat:Nat):Int) - ((0:Nat):Int)) 1;rw[e1,e2];exact bb _ rfl
 ·have e:b=(s.heap.push { cls:=.type "range",data:=.fields #[.int lo t,.int hi u,.int 1 v] }).objs.size:=by simpa using hb
  subst e;exact I1.fpOk (aE _) (I1.hok.fresh (aE _))
def VD(ta:TA):TI:=λσ H R=>ta σ H λvs H1=>∃j:Int,vs=[.int j]/\-(2 ^ 62)<=j/\j < 2 ^ 62/\R (Itr 0 j.toNat) H1
theorem VF {a:Expr} {ta:TA} {p pos:Pos} (hg:Gl X "range") (hm:X.mg "range"=none) (ha:PA X [a] ta) (hs:starEach [a] X.env=[(false,eval a X.env)]:=by rfl):PI X tg (.Call (.Name "range" p) [a] [] pos) (VD ta):=by
 intro pins s σ H R I h;refine Call_ (jm I hg hm boot_range (fi (thn (ha pos pins s σ H _ I h) λus s1 ⟨vs,H1,I1,r1,q1⟩=>?_) hs rfl));obtain ⟨j,e,q1,q2,q⟩:=q1;subst e;cases r1 with
 |cons r rr=>
  cases rr;obtain ⟨t,rfl⟩:=r;exact call_range_1 (VB I1 (by omega) (by omega) q1 q2 (by simpa using q))
def VG(wi:TI)(g:TG)(tb:TS):TS:=λD σ H=>wi σ H λJ H1=>∃W:Nat->Nat->St->Hp->Prop,(∃m,W 0 m σ H1)/\∀i m σ H,W i m σ H->
 (J.stop i H/\D.nx σ H)\/(J.go i H/\∃N:St->Hp->Prop,(∀σ' H',N σ' H'->∃m',m' < m/\W (i+1) m' σ' H')/\∀x H',J.yld i H x H'->g x σ H' λσ2 H2=>tb { D with nx:=N,ct:=N,bk:=D.nx } σ2 H2)
def lq(fp:List Addr)(h:Heap):List (Addr×Obj):=fp.filterMap λb=>(h.get? b).map λo=>(b,o)
theorem qm{fp:List Addr}{h:Heap}{b:Addr}{o:Obj}(hb:b∈fp)(e:h.get? b=some o):(b,o)∈lq fp h:=List.mem_filterMap.mpr ⟨b,hb,by rw[e];rfl⟩
theorem VH{fp:List Addr}{h:Heap}{p:Addr×Obj}(hp:p∈lq fp h):p.1∈fp/\h.get? p.1=some p.2:=by
 obtain ⟨b,hb,e⟩:=List.mem_filterMap.mp hp;cases q:h.get? b with
 |none=>rw[q]at e;cases e
 |some o=>
  rw[q]at e;have e':(b,o)=p:=dv e;subst e';exact ⟨hb,q⟩
theorem Inv.pinned{pins:List (Addr×Obj)}{σ:St}{H:Hp}{s:Shared}{fp:List Addr}(I:Inv X pins σ H s)(hf:∀b∈fp,eF X pins H b)(ho:∀b∈fp,∃o,s.heap.get? b=some o/\∀v,o.data≠.cell v):Inv X (pins++lq fp s.heap) σ H s:=
 I.pins_of λp hp=>(a9.mp hp).elim (λz=>I.pin p (bg _ z)) λz=>by
  obtain ⟨hb,e⟩:=VH z;obtain ⟨f0,f1,f2,_⟩:=hf p.1 hb;obtain ⟨o,e',d⟩:=ho p.1 hb;rw[e]at e';cases e';exact ⟨e,f0,f1,f2,d⟩
theorem Inv.unpinned{pins pl:List (Addr×Obj)}{σ:St}{H:Hp}{s:Shared}(I:Inv X (pins++pl) σ H s):Inv X pins σ H s:=I.pins_of λp hp=>I.pin p (bg _ (dL _ hp))
theorem VJ{iter:Expr}{body:List Stmt}{wi:TI}{g:TG}{tb:TS}{pos:Pos}(hp:PassesOwn (model X.prog X.w) X.A X.env X.xe)(hc:X.calm=true)(hi:PI X tg iter wi)(hg:PG X tg g)(hb:PSs X body tb)
  (hs:∀x,foldedSetIterable iter X.env x=pure x:=by intro _;rfl):PS X (.For tg iter body [] pos) (VG wi g tb):=by
 intro pins s σ H D I h;refine wpAny_For (thn (hi pins s σ H _ I h) λv s1 h1=>thn h1 λitv s2 h2=>?_) hs;obtain ⟨it,fp,tn,J,H2,e,I2,T,st2,f2,W,⟨m0,w0⟩,turn⟩:=h2;subst e
 -- what stays true of the iterator's objects through the loop
 have stat:∀{H':Hp},(∀b∈fp,H' b=none)->∀b∈fp,eF X pins H' b:=λhn b hb=>⟨hn b hb,(f2 b hb).2⟩;refine codeAny_forLoop_any (λn s'=>∃i σ' H',Inv X pins σ' H' s'/\tn i s'.heap/\(∀b∈fp,H' b=none)/\W i n σ' H') ?_ m0 ⟨0,σ,H2,I2,st2,λb hb=>(f2 b hb).1,w0⟩;rintro n s3 ⟨i,σ3,H3,I3,st3,fr3,w3⟩;rcases turn i n σ3 H3 w3 with ⟨stop,qn⟩ |⟨go,N,hN,step⟩
 ·refine wpAny_passesOwn hp (thn (T.done X rfl rfl rfl hc i pins s3 σ3 H3 X.xe I3 (stat fr3) st3 stop) λr s4 ⟨hr,I4⟩=>?_);subst hr;exact fo ⟨σ3,H3,I4,qn⟩
 ·refine wpAny_passesOwn hp (thn (T.item X rfl rfl rfl hc i pins s3 σ3 H3 X.xe I3 (stat fr3) st3 go) λr s4 ⟨u,hr,h4⟩=>?_);subst hr;refine wpAny_passesOwn hp (thn h4 λ_ s5 ⟨x,H5,I5,r5,y5,st5,fr5⟩=>?_);have I5':=I5.pinned (stat fr5) (T.obj _ _ st5);refine wpAny_passesOwn hp (thn (hg _ s5 σ3 H5 x u _ I5' r5 (step x H5 y5)) λ_ s6 ⟨σ6,H6,I6,q6⟩=>?_);refine wpAny_passesOwn hp (thn (hb _ s6 σ6 H6 _ I6 q6) λf s7 q7=>?_);have again:∀{σ7:St}{H7:Hp},Inv X (pins++lq fp s5.heap) σ7 H7 s7->N σ7 H7->∃m,m < n/\∃i σ' H',Inv X pins σ' H' s7/\tn i s7.heap/\(∀b∈fp,H' b=none)/\W i m σ' H':=λ{σ7 H7} I7 n7=>by
   obtain ⟨m',hm,w7⟩:=hN σ7 H7 n7;refine ⟨m',hm,i+1,σ7,H7,I7.unpinned,T.keep _ _ _ st5 λb hb o e=>(I7.pin (b,o) (bg _ (bg _ (qm hb e)))).1,λb hb=>?_,w7⟩;obtain ⟨o,e,d⟩:=T.obj _ _ st5 b hb;exact (I7.pin (b,o) (bg _ (bg _ (qm hb e)))).2.1
  cases f with
  |next=>obtain ⟨σ7,H7,I7,n7⟩:=q7;exact again I7 n7
  |cont=>obtain ⟨σ7,H7,I7,n7⟩:=q7;exact again I7 n7
  |brk=>obtain ⟨σ7,H7,I7,q7⟩:=q7;exact ⟨σ7,H7,I7.unpinned,q7⟩
  |ret v=>obtain ⟨x7,σ7,H7,I7,r7,q7⟩:=q7;exact ⟨x7,σ7,H7,I7.unpinned,r7,q7⟩
end
abbrev R2:=V->V->Hp->VK->Prop
def OpR(X:Cx)(f:Value->Value->Sem Value)(r:R2):Prop:=
 ∀(pins:List (Addr×Obj))(s:Shared)(σ:St)(H:Hp)(x y:V)(v u:Value)(Q:VK),Inv X pins σ H s->RelV x v->RelV y u->r x y H Q->
  wpAny (model X.prog X.w) X.A (f v u) (EP X pins σ Q) X.xe s
def UnR(X:Cx)(f:Value->Sem Value)(r:V->Hp->VK->Prop):Prop:=
 ∀(pins:List (Addr×Obj))(s:Shared)(σ:St)(H:Hp)(x:V)(v:Value)(Q:VK),Inv X pins σ H s->RelV x v->r x H Q->
  wpAny (model X.prog X.w) X.A (f v) (EP X pins σ Q) X.xe s
def bB(X:Cx)(f:Value)(r:List V->Hp->VK->Prop):Prop:=
 ∀(pins:List (Addr×Obj))(s:Shared)(σ:St)(H:Hp)(xs:List V)(us:List Value)(Q:VK),Inv X pins σ H s->Vals xs us->r xs H Q->
  wpAny (model X.prog X.w) X.A (call f us) (EP X pins σ Q) X.xe s
def VL(X:Cx)(r:V->Hp->(Bool->Hp->Prop)->Prop):Prop:=
 ∀(pins:List (Addr×Obj))(s:Shared)(σ:St)(H:Hp)(x:V)(v:Value)(Q:Bool->Hp->Prop),Inv X pins σ H s->RelV x v->r x H Q->
  wpAny (model X.prog X.w) X.A (truthy v) (TP X pins σ Q) X.xe s
def tOp(r:R2)(ta tb:TE):TE:=λσ H Q=>ta σ H λx H1=>tb σ H1 λy H2=>r x y H2 Q
def tUn(r:V->Hp->VK->Prop)(ta:TE):TE:=λσ H Q=>ta σ H λx H1=>r x H1 Q
def rI(C:Int->Int->Prop)(g:Int->Int->V):R2:=λx y H Q=>∃i j,x=.int i/\y=.int j/\C i j/\Q (g i j) H
def rI0(g:Int->Int->V):R2:=λx y H Q=>∃i j,x=.int i/\y=.int j/\Q (g i j) H
def rU(g:Int->V):V->Hp->VK->Prop:=λx H Q=>∃i,x=.int i/\Q (g i) H
section
variable {X:Cx} {a b c:Expr} {ta tb tc:TE} {pos:Pos}
theorem vO(ha:PE X a ta)(hb:PE X b tb){pins:List (Addr×Obj)}{s:Shared}{σ:St}{H:Hp}{R:V->V->Hp->Prop}(I:Inv X pins σ H s)
  (h:ta σ H λx H1=>tb σ H1 λy H2=>R x y H2) {Q:Value->Shared->Prop} {f:Value->Value->Sem Value}
  (hf:∀v u s2 x y H2,Inv X pins σ H2 s2->RelV x v->RelV y u->R x y H2->wpAny (model X.prog X.w) X.A (f v u) Q X.xe s2):
  wpAny (model X.prog X.w) X.A (eval a X.env) (λv s₁=>wpAny (model X.prog X.w) X.A (eval b X.env) (λu s₂=>wpAny (model X.prog X.w) X.A (f v u) Q X.xe s₂) X.xe s₁) X.xe s:=by
 refine thn (ha pins s σ H _ I h) λv s1 ⟨x,H1,I1,r1,q1⟩=>?_;refine thn (hb pins s1 σ H1 _ I1 q1) λu s2 ⟨y,H2,I2,r2,q2⟩=>?_;exact hf v u s2 x y H2 I2 r1 r2 q2
theorem VM{op:Operator}{r:R2}(ho:OpR X (binaryOp op) r)(ha:PE X a ta)(hb:PE X b tb):PE X (.BinOp a op b pos) (tOp r ta tb):=by intro pins s σ H Q I h;exact wpAny_BinOp (vO ha hb I h λv u s2 x y H2 I2 rx ry q=>ho pins s2 σ H2 x y v u Q I2 rx ry q)
theorem VN{op:UnaryOp}{r:V->Hp->VK->Prop}(ho:UnR X (unaryOp op) r)(ha:PE X a ta):PE X (.UnaryOp op a pos) (tUn r ta):=by intro pins s σ H Q I h;exact UnaryOp_ (thn (ha pins s σ H _ I h) λv s1 ⟨x,H1,I1,r1,q1⟩=>ho pins s1 σ H1 x v Q I1 r1 q1)
theorem opI{f:Value->Value->Sem Value}{C:Int->Int->Prop}{g:Int->Int->Int}
  (rule:∀(i j:Int)(t u:Tok)(s:Shared)(Q:Value->Shared->Prop)(E:Value->Shared->Prop),C i j->Q (.int (g i j) s.toks) { s with toks:=s.toks+1 }->wpAny (model X.prog X.w) X.A (f (.int i t) (.int j u)) Q E s):
  OpR X f (rI C λi j=>.int (g i j)):=by
 intro pins s σ H x y v u Q I rx ry h;obtain ⟨i,j,rfl,rfl,hc,q⟩:=h;obtain ⟨t,rfl⟩:=rx;obtain ⟨t',rfl⟩:=ry;exact rule i j t t' s _ _ hc ⟨.int (g i j),H,I.tok _,⟨_,rfl⟩,q⟩
theorem qp{f:Value->Value->Sem Value}{g:Int->Int->Int}
  (rule:∀(i j:Int)(t u:Tok)(s:Shared)(Q:Value->Shared->Prop)(E:Value->Shared->Prop),Q (.int (g i j) s.toks) { s with toks:=s.toks+1 }->wpAny (model X.prog X.w) X.A (f (.int i t) (.int j u)) Q E s):
  OpR X f (rI0 λi j=>.int (g i j)):=by
 intro pins s σ H x y v u Q I rx ry h;obtain ⟨i,j,rfl,rfl,q⟩:=h;obtain ⟨t,rfl⟩:=rx;obtain ⟨t',rfl⟩:=ry;exact rule i j t t' s _ _ ⟨.int (g i j),H,I.tok _,⟨_,rfl⟩,q⟩
def qt(i j:Int):Prop:=0<=j/\j<=1000000/\i.natAbs < 2 ^ 64
def CMul(i j:Int):Prop:=(-(2 ^ 64) < i/\i < 2 ^ 64)\/(-(2 ^ 64) < j/\j < 2 ^ 64)
theorem CMul.ok{i j:Int}(h:CMul i j):IntMulOk i j:=by
 rcases h with ⟨h1,h2⟩ |⟨h1,h2⟩
 ·exact .of_left (intBits_le_64 h1 h2)
 ·exact .of_right (intBits_le_64 h1 h2)
theorem VP:OpR X (binaryOp .Add) (rI0 λi j=>.int (i+j)):=qp λ_ _ _ _ _ _ _ q=>add_int q
theorem VR:OpR X (binaryOp .Sub) (rI0 λi j=>.int (i - j)):=qp λ_ _ _ _ _ _ _ q=>sub_int q
theorem VV:OpR X (binaryOp .Mult) (rI CMul λi j=>.int (i * j)):=opI λ_ _ _ _ _ _ _ hc q=>mul_int q hc.ok
theorem V0:OpR X (binaryOp .Mod) (rI (λ_ j=>0 < j) λi j=>.int (i % j)):=opI λi j _ _ _ _ _ hc q=>by
 have h1:(0:Int) < j:=hc;exact mod_int' (by omega) (by rw[Int.fmod_eq_emod_of_nonneg i (by omega)];exact q)
theorem V1:OpR X (binaryOp .Pow) (rI qt λi j=>.int (i ^ j.toNat)):=opI λ_ _ _ _ _ _ _ hc q=>pow_int_small hc.1 hc.2.1 hc.2.2 q
theorem V2:OpR X (inplaceOp .Add) (rI0 λi j=>.int (i+j)):=qp λ_ _ _ _ _ _ _ q=>iadd_int q
theorem V3:OpR X (inplaceOp .Sub) (rI0 λi j=>.int (i - j)):=qp λ_ _ _ _ _ _ _ q=>isub_int q
theorem unI{f:Value->Sem Value}{g:Int->Int}
  (rule:∀(i:Int)(t:Tok)(s:Shared)(Q:Value->Shared->Prop)(E:Value->Shared->Prop),Q (.int (g i) s.toks) { s with toks:=s.toks+1 }->wpAny (model X.prog X.w) X.A (f (.int i t)) Q E s):
  UnR X f (rU λi=>.int (g i)):=by
 intro pins s σ H x v Q I rx h;obtain ⟨i,rfl,q⟩:=h;obtain ⟨t,rfl⟩:=rx;exact rule i t s _ _ ⟨.int (g i),H,I.tok _,⟨_,rfl⟩,q⟩
theorem V4:UnR X (unaryOp .USub) (rU λi=>.int (-i)):=unI λ_ _ _ _ _ q=>neg_int q
end
section
variable {X:Cx} {a b c:Expr} {ta tb tc:TE} {pos:Pos}
theorem Br{pins:List (Addr×Obj)}{σ:St}{H:Hp}{s:Shared}{Q:VK}{k k':Bool}(I:Inv X pins σ H s)(q:Q (.bl k) H)(e:k=k'):EP X pins σ Q (.bool k') s:=by subst e;exact ⟨.bl k,H,I,rfl,q⟩
theorem V5:OpR X (compareOp .Is) (λx y H Q=>y=.non/\Q (.bl (decide (x=.non))) H):=by
 intro pins s σ H x y v u Q I rx ry h;obtain ⟨rfl,q⟩:=h;cases ry;refine is_none_gen (Br I q ?_);cases x <;> first
  | (cases rx;rfl)
  | (obtain ⟨t,rfl⟩:=rx;rfl)
theorem V6:OpR X (compareOp .IsNot) (λx y H Q=>y=.non/\Q (.bl (!decide (x=.non))) H):=by
 intro pins s σ H x y v u Q I rx ry h;obtain ⟨rfl,q⟩:=h;cases ry;refine isnot_none_gen (Br I q ?_);cases x <;> first
  | (cases rx;rfl)
  | (obtain ⟨t,rfl⟩:=rx;rfl)
theorem V7{op:CmpOp}{r:R2}(ho:OpR X (compareOp op) r)(ha:PE X a ta)(hb:PE X b tb)(hm:behindInMarks op b=false):PE X (.Compare a [op] [b] pos) (tOp r ta tb):=by intro pins s σ H Q I h;exact wpAny_Compare1 (vO ha hb I h λv u s2 x y H2 I2 rx ry q=>ho pins s2 σ H2 x y v u Q I2 rx ry q) hm
def Bt(t:TE):TT:=λσ H Q=>t σ H λx H'=>∃k,x=.bl k/\Q k H'
theorem V8{op:CmpOp}{r:R2}(ho:OpR X (compareOp op) r)(ha:PE X a ta)(hb:PE X b tb)(hm:behindInMarks op b=false):PT X (.Compare a [op] [b] pos) (Bt (tOp r ta tb)):=by
 intro pins s σ H Q I h;refine wpAny_isTrue_Compare1 (thn (ha pins s σ H _ I h) λv s1 ⟨x,H1,I1,r1,q1⟩=>thn (hb pins s1 σ H1 _ I1 q1) λu s2 ⟨y,H2,I2,r2,q2⟩=>
  thn (ho pins s2 σ H2 x y v u _ I2 r1 r2 q2) λc s3 ⟨z,H3,I3,r3,k,e,q3⟩=>?_) hm
 subst e;cases r3;exact ej ⟨H3,I3,q3⟩
def vP(r r':R2)(ta tb tc:TE):TE:=λσ H Q=>ta σ H λx H1=>tb σ H1 λy H2=>r x y H2 λz H3=>∃k,z=.bl k/\
 (if k=true then tc σ H3 λw' H4=>r' y w' H4 Q else Q (.bl false) H3)
theorem V9{op op':CmpOp}{r r':R2}(ho:OpR X (compareOp op) r)(ho':OpR X (compareOp op') r')(ha:PE X a ta)(hb:PE X b tb)(hc:PE X c tc)
  (hm:lastMarks [op,op'] [b,c]=false:=by with_unfolding_all rfl):PE X (.Compare a [op,op'] [b,c] pos) (vP r r' ta tb tc):=by
 intro pins s σ H Q I h;refine Compare_chain (thn (ha pins s σ H _ I h) λv s1 ⟨x,H1,I1,r1,q1⟩=>chain_link (thn (hb pins s1 σ H1 _ I1 q1) λu s2 ⟨y,H2,I2,r2,q2⟩=>
  thn (ho pins s2 σ H2 x y v u _ I2 r1 r2 q2) λd s3 ⟨z,H3,I3,r3,k,e,q3⟩=>?_)) hm
 subst e;cases r3;refine ej ?_;cases k with
 |false=>exact ite_ff ⟨.bl false,H3,I3,rfl,q3⟩
 |true=>exact ite_tt (chain_last (thn (hc pins s3 σ H3 _ I3 q3) λw' s4 ⟨z',H4,I4,r4,q4⟩=>ho' pins s4 σ H4 y z' u w' Q I4 r2 r4 q4))
theorem Wa{op op':CmpOp}{r r':R2}(ho:OpR X (compareOp op) r)(ho':OpR X (compareOp op') r')(ha:PE X a ta)(hb:PE X b tb)(hc:PE X c tc)
  (hm:lastMarks [op,op'] [b,c]=false:=by with_unfolding_all rfl):PT X (.Compare a [op,op'] [b,c] pos) (Bt (vP r r' ta tb tc)):=by
 intro pins s σ H Q I h;refine isTrue_chain (thn (ha pins s σ H _ I h) λv s1 ⟨x,H1,I1,r1,q1⟩=>test_link (thn (hb pins s1 σ H1 _ I1 q1) λu s2 ⟨y,H2,I2,r2,q2⟩=>
  thn (ho pins s2 σ H2 x y v u _ I2 r1 r2 q2) λd s3 ⟨z,H3,I3,r3,k,e,q3⟩=>?_)) hm
 subst e;cases r3;refine ej ?_;cases k with
 |false=>
  obtain ⟨k',e',q'⟩:=q3;cases e';exact ite_ff ⟨H3,I3,q'⟩
 |true=>
  refine ite_tt (test_last (thn (hc pins s3 σ H3 _ I3 q3) λw' s4 ⟨z',H4,I4,r4,q4⟩=>thn (ho' pins s4 σ H4 y z' u w' _ I4 r2 r4 q4) λd' s5 ⟨z2,H5,I5,r5,k2,e2,q5⟩=>?_));subst e2;cases r5;exact ej ⟨H5,I5,q5⟩
def qu(K:PF)(x:V)(H:Hp)(k:Bool):Prop:=
 match x with
 |.non=>k=false
 |.bl b=>k=b
 |.int i=>k=(i != 0)
 |.str y=>y.length<=sizeLine/\k=((y.length:Int) != 0)
 |.byt y=>y.size<=sizeLine/\k=((y.size:Int) != 0)
 |.ref p=>(∃xs,SqL K H p xs/\k=!xs.isEmpty)\/(∃xs,SqT K H p xs/\k=!xs.isEmpty)\/∃kvs,H p=some (.dK kvs)/\k=!kvs.isEmpty
 |_=>False
theorem Wb{κ:Type}{kvs:List (κ×V)}{vs:List (κ×Value)}(r:KV kvs vs):(!vs.isEmpty)=!kvs.isEmpty:=by cases r <;> rfl
theorem Bu{xs:List V}{its:List Value}(r:Vals xs its):(!its.toArray.isEmpty)=!xs.isEmpty:=by cases r <;> simp
theorem ir:(sizeLine:Nat) < 2 ^ 63:=by rw[fT];decide
theorem Bv:VL X (λx H Q=>∃k,qu X.K x H k/\Q k H):=by
 intro pins s σ H x v Q I rx h;obtain ⟨k,e,q⟩:=h;have hl:=ir;have hs:sizeLine=16777216:=fT;cases x with
 |non=>
  cases rx;have e':k=false:=e;subst e';exact truthy_none ⟨H,I,q⟩
 |bl b=>
  cases rx;have e':k=b:=e;subst e';exact ej ⟨H,I,q⟩
 |int i=>
  obtain ⟨t,rfl⟩:=rx;have e':k=(i != 0):=e;subst e';exact PySem.P.truthy_int ⟨H,I,q⟩
 |str y=>
  obtain ⟨t,rfl⟩:=rx;obtain ⟨hy,e'⟩:y.length<=sizeLine/\k=((y.length:Int) != 0):=e;subst e';exact PySem.P.truthy_str (by omega) ⟨H,I.tok _,q⟩
 |byt y=>
  obtain ⟨t,rfl⟩:=rx;obtain ⟨hy,e'⟩:y.size<=sizeLine/\k=((y.size:Int) != 0):=e;subst e';exact PySem.W.truthy_bytes (by omega) ⟨H,I.tok _,q⟩
 |ref p=>
  cases rx;have e':(∃xs,SqL X.K H p xs/\k=!xs.isEmpty)\/(∃xs,SqT X.K H p xs/\k=!xs.isEmpty)\/∃kvs,H p=some (.dK kvs)/\k=!kvs.isEmpty:=e;rcases e' with ⟨xs,hx,e'⟩ |⟨xs,hx,e'⟩ |⟨kvs,hx,e'⟩
  ·subst e';obtain ⟨its,r,pl,hz⟩:=I.list hx;have hlen:=r.length;exact wpAny_truthy_list pl.isList (by simp only[am];omega) ⟨H,I.tok _,by rw[Bu r];exact q⟩
  ·subst e';obtain ⟨its,r,pl,hz⟩:=I.tuple hx;have hlen:=r.length;exact truthy_tuple pl (by simp only[am];omega) ⟨H,I.tok _,by rw[Bu r];exact q⟩
  ·subst e';obtain ⟨hz,hS,vs,r,m⟩:kvs.length<=sizeLine/\(p==sysModules)=false/\∃vs,KV kvs vs/\s.heap.DictOf (vI X.prog X.w) p vs:=I.hok p _ hx;have hlen:kvs.length=vs.length:=Paired.length r;exact wpAny_truthy_dict hS m (by omega) ⟨H,I.tok _,by rw[Wb r];exact q⟩
 |_=>exact (show False from e).elim
theorem Wc(ha:PE X a ta)(he:∀whole,isTrue a X.env whole=(do let v <-whole;standAt a.pos;holding [v] (truthy v))):
  PT X a (λσ H Q=>ta σ H λx H'=>∃k,qu X.K x H' k/\Q k H'):=by
 intro pins s σ H Q I h;exact isTrue_plain (thn (ha pins s σ H _ I h) λv s1 ⟨x,H1,I1,r1,q1⟩=>Bv pins s1 σ H1 x v Q I1 r1 q1) (he _)
theorem Wd:OpR X (binaryOp .Add) (λx y H Q=>∃i j,x=.str i/\y=.str j/\i.length+j.length<=sizeLine/\Q (.str (i++j)) H):=by intro pins s σ H x y v u Q I rx ry h;obtain ⟨i,j,rfl,rfl,hz,q⟩:=h;obtain ⟨t,rfl⟩:=rx;obtain ⟨t',rfl⟩:=ry;exact add_str (λt' tk=>⟨.str (i++j),H,I.tok _,⟨_,rfl⟩,q⟩) hz
theorem We:OpR X (inplaceOp .Add) (λx y H Q=>∃i j,x=.str i/\y=.str j/\i.length+j.length<=sizeLine/\Q (.str (i++j)) H):=by intro pins s σ H x y v u Q I rx ry h;obtain ⟨i,j,rfl,rfl,hz,q⟩:=h;obtain ⟨t,rfl⟩:=rx;obtain ⟨t',rfl⟩:=ry;exact iadd_str (λt' tk=>⟨.str (i++j),H,I.tok _,⟨_,rfl⟩,q⟩) hz
theorem vals1{x:V}{us:List Value}(r:Vals [x] us):∃u,us=[u]/\RelV x u:=by
 cases r with
 |cons r1 r2=>cases r2;exact ⟨_,rfl,r1⟩
theorem vals2{x y:V}{us:List Value}(r:Vals [x,y] us):∃u w',us=[u,w']/\RelV x u/\RelV y w':=by
 cases r with
 |cons r1 r2=>
  cases r2 with
  |cons r3 r4=>cases r4;exact ⟨_,_,rfl,r1,r3⟩
theorem Bw:bB X (.type "int") (λxs H Q=>(∃i,xs=[.int i]/\Q (.int i) H)\/∃k,xs=[.bl k]/\Q (.int (if k then 1 else 0)) H):=by
 intro pins s σ H xs us Q I r h;rcases h with ⟨i,rfl,q⟩ |⟨k,rfl,q⟩
 ·obtain ⟨u,rfl,t,rfl⟩:=vals1 r;exact call_int_int ⟨.int i,H,I,⟨_,rfl⟩,q⟩
 ·obtain ⟨u,rfl,r1⟩:=vals1 r;cases r1;exact call_int_bool ⟨.int (if k then 1 else 0),H,I.tok _,⟨_,rfl⟩,q⟩
end
structure ObjM(h:Heap)(x dx C:Addr)(mA:Str->Option Value):Prop where
 obj:h.get? x=some (PySem.W.instObj C dx)
 ns:h.Ns1 dx mA
 ne:dx≠x
theorem Wf{h:Heap}{dx:Addr}{mA:Str->Option Value}(n:h.Ns1 dx mA):∃od,h.get? dx=some od/\∀name,PySem.W.lookIn name od=some (mA name):=by
 obtain ⟨o,es,ep,ho,hd,hk,_,hm⟩:=n;refine ⟨o,ho,λname=>?_⟩;have e:=hm name;unfold nsFind findBy at e;rw[<-Array.find?_toList]at e;unfold PySem.W.lookIn;rw[hd];dsimp only;split
 ·rename_i y q;rw[q]at e;exact fe some e
 ·rename_i q;rw[q]at e;have a:es.toList.any (·.refKey)=false:=by
   rw[List.any_eq_false];intro y hy;obtain ⟨z,t,hkey⟩:=hk y (Array.mem_toList_iff.mp hy);simp[DictEntry.refKey,hkey]
  have a':¬es.toList.any (·.refKey)=true:=by rw[a];exact bq
  rw[if_neg a'];exact fe some e
theorem ObjM.look{h:Heap}{x dx C:Addr}{mA:Str->Option Value}(I:ObjM h x dx C mA):∃od,PySem.W.InstAt h x (PySem.W.instObj C dx) C (some od)/\∀name,PySem.W.lookIn name od=some (mA name):=
 let ⟨od,ho,hl⟩:=Wf I.ns
 ⟨od,⟨I.obj,rfl,rfl,ho⟩,hl⟩
section
variable {prog:Program} {w:World} {A:Around} {E:Value->Shared->Prop} {s:Shared} {K:PF} {x dx C f:Addr} {mA:Str->Option Value} {name:Str} {v:Value}
theorem Wg{expr:Bool}{Q:Value->Shared->Prop}(X:K.In s.heap)(I:ObjM s.heap x dx C mA)(hg:PySem.W.plainGet K C name=true)(hh:PySem.W.hasDictIn K C=true)
  (ha:PySem.W.findIn K (.ref C) name=some none) (hv:mA name=some v) (hv':PySem.W.handedIn v=true) (h:Q v { s with toks:=s.toks+1 }):
  wpAny (model prog w) A (getAttr (.ref x) name expr) Q E s:=by
 obtain ⟨od,J,hl⟩:=I.look;exact PySem.W.get_value X J (PySem.W.plainGet_of hg).1 (PySem.W.findObj_own hh ha rfl (by rw[hl,hv])) hv' h
theorem Wh{pl:Sem Bool}{Q:Value×List Value->Shared->Prop}(X:K.In s.heap)(I:ObjM s.heap x dx C mA)(hg:PySem.W.plainGet K C name=true)
  (hf:PySem.W.findIn K (.ref C) name=some (some (.ref f))) (ht:PySem.W.isFn K (.ref f)=true) (hv:mA name=none) (h:Q (.ref f,[.ref x]) s):
  wpAny (model prog w) A (getMethod (.ref x) name pl) Q E s:=by
 obtain ⟨od,J,hl⟩:=I.look;exact PySem.W.method_fn X J (PySem.W.plainGet_of hg).1 (PySem.W.plainGet_of hg).2 hf (ar.mp ht) (by show (PySem.W.lookIn name od).map (·.isSome)=some false;rw[hl,hv];rfl) h
theorem Wi{ns:List Str}{Q:Unit->Shared->Prop}(X:K.In s.heap)(I:ObjM s.heap x dx C mA)
  (hs:PySem.W.findIn K (.ref C) "__setattr__"=some (some (.builtin "object.__setattr__"))) (hp:PySem.W.plainOver K C=true) (ht:PySem.W.takerIn K C name=some none) (hh:PySem.W.hasDictIn K C=true)
  (hw:PySem.Within mA ns) (hsz:ns.length<=sizeLine)
  (h:∀h',ObjM h' x dx C (λy=>if y=name then some v else mA y)->Heap.SameBut dx s.heap h'->Q () { s with heap:=h',toks:=s.toks+2 }):
  wpAny (model prog w) A (setAttr (.ref x) name v) Q E s:=by
 obtain ⟨od,J,hl⟩:=I.look;refine PySem.W.set_plain X J hs (PySem.W.osa_open (s:={ s with toks:=s.toks+1 }) (r:=none) X J hp ht λb=>?_);obtain ⟨cd,hc,hd'⟩:=PySem.W.any_some hh;have hx:s.heap.get? x=some ⟨.ref C,some dx,.plain,#[]⟩:=I.obj;refine ag (a7 (ag (ag (wpAny_loadPart hx (ag (PySem.W.Looks.here (s:={ s with toks:=s.toks+1 }) (PySem.W.looks_clsIn X hc) ?_))))));rw[hd'];refine a7 (a:=some dx) (ag (a7 (ag ?_)));refine wpAny_nsSet1 (s:={ s with toks:=s.toks+1 }) I.ns λh' hn2 hs2=>?_;obtain ⟨oD,esD,epD,hoD,hdD,hcD⟩:=hn2.count (PySem.Within.cons name v hw);refine ag (wpAny_lookBehind hoD (by rw[hdD];exact pastItsLine_dict (cw hcD (by rw[cK];omega))) ?_);exact a7 (h _ ⟨(hs2.2 _ (Ne.symm I.ne)).trans I.obj,hn2,I.ne⟩ hs2)
theorem Bx{R:Result->Shared->Prop}{vs:List Value}{kw:List (Str×Value)}(X:K.In s.heap)(hm:PySem.W.makesIn K C=true)
  (hi:PySem.W.findIn K (.ref C) "__init__"=some (some (.ref f))) (hf:PySem.W.typeIn K (.ref f)=some (.type "function"))
  (h:codeAny (model prog w) (A.under (.builtin "type.__call__" ⟨.ref C::vs,kw⟩)) (.call (.ref f) ⟨.ref (s.heap.objs.size+1)::vs,kw⟩) (PySem.W.InitBack (s.heap.objs.size+1) R)
   { s with heap:=(s.heap.push PySem.W.emptyDict).push (PySem.W.instObj C s.heap.objs.size) }):
  codeAny (model prog w) A (.call (.ref C) ⟨vs,kw⟩) R s:=by
 obtain ⟨hh,g,d,t,os⟩:=s;exact PySem.W.make_core (PySem.W.makes_of X hm) (PySem.W.looks_findIn X hi) (λself=>PySem.W.bind_fn X self hf) (.inl rfl) h
end
noncomputable def cA(f:Str)(v:V):List (Str×V)->List (Str×V)
 |[]=>[(f,v)]
 | (g,x)::r=>if g=f then (g,v)::r else (g,x)::cA f v r
theorem By(f g:Str)(v:V):∀fs:List (Str×V),(cA f v fs).lookup g=if g=f then some v else fs.lookup g
 |[]=>by
  show List.lookup g [(f,v)]=_;by_cases h:g=f
  ·have hb:(g==f)=true:=ar.mpr h;simp only[List.lookup,hb,if_pos h]
  ·have hb:(g==f)=false:=cr.mpr h;simp only[List.lookup,hb,if_neg h]
 | (k,x)::r=>by
  have ih:=By f g v r;rw[show cA f v ((k,x)::r)=(if k=f then (k,v)::r else (k,x)::cA f v r) from rfl];by_cases hk:k=f
  ·rw[if_pos hk];by_cases h:g=k
   ·have hb:(g==k)=true:=ar.mpr h;simp only[List.lookup,hb,if_pos (h.trans hk)]
   ·have hb:(g==k)=false:=cr.mpr h;simp only[List.lookup,hb,if_neg (λe:g=f=>h (e.trans hk.symm))]
  ·rw[if_neg hk];by_cases h:g=k
   ·have hb:(g==k)=true:=ar.mpr h;simp only[List.lookup,hb,if_neg (λe:g=f=>hk (h.symm.trans e))]
   ·have hb:(g==k)=false:=cr.mpr h;simp only[List.lookup,hb];exact ih
theorem vQ(f:Str)(v:V):∀fs:List (Str×V),f∈(cA f v fs).map (·.1)/\∀g,g∈fs.map (·.1)->g∈(cA f v fs).map (·.1)
 |[]=>⟨by simp[cA],λg h=>by simp at h⟩
 | (k,x)::r=>by
  obtain ⟨i1,i2⟩:=vQ f v r;rw[show cA f v ((k,x)::r)=(if k=f then (k,v)::r else (k,x)::cA f v r) from rfl];by_cases hk:k=f
  ·rw[if_pos hk];subst hk;exact ⟨by simp,λg h=>by simpa using h⟩
  ·rw[if_neg hk];refine ⟨?_,λg h=>?_⟩
   ·rw[bP];exact bp _ i1
   ·rw[bP]at h ⊢;rcases aI.mp h with e |e
    ·exact aI.mpr (.inl e)
    ·exact bp _ (i2 g e)
theorem BJ(f:Str)(v:V):∀fs:List (Str×V),(cA f v fs).length<=fs.length+1
 |[]=>by simp[cA]
 | (k,x)::r=>by
  have ih:=BJ f v r;rw[show cA f v ((k,x)::r)=(if k=f then (k,v)::r else (k,x)::cA f v r) from rfl];by_cases hk:k=f
  ·rw[if_pos hk,cK,cK];omega
  ·rw[if_neg hk,cK,cK];omega
theorem RelO.some_of{v:V}{o:Option Value}(r:RelO (some v) o):∃u,o=some u/\RelV v u:=by
 cases o with
 |none=>exact (show False from r).elim
 |some u=>exact ⟨u,rfl,r⟩
theorem RelO.none_of{o:Option Value}(r:RelO none o):o=none:=by
 cases o with
 |none=>rfl
 |some u=>exact (show False from r).elim
theorem Wj{v:V}{u:Value}(r:RelV v u):PySem.W.handedIn u=true:=by
 cases v with
 |non=>cases (show u=Value.none from r);rfl
 |bl b=>cases (show u=Value.bool b from r);rfl
 |int i=>obtain ⟨t,e⟩:=(show ∃t,u=Value.int i t from r);cases e;rfl
 |str x=>obtain ⟨t,e⟩:=(show ∃t,u=Value.str x t from r);cases e;rfl
 |byt b=>obtain ⟨t,e⟩:=(show ∃t,u=Value.bytes b t from r);cases e;rfl
 |flt b=>obtain ⟨t,e⟩:=(show ∃t,u=Value.float b t from r);cases e;rfl
 |ref a=>cases (show u=Value.ref a from r);rfl
 |ty n=>cases (show u=Value.type n from r);rfl
section
variable {P:Program} {w:World} {H H':Hp} {h h':Heap} {a C dx:Addr} {fs fs':List (Str×V)}
theorem qw(hok:HOk P w H h)(e:H a=some (.ins C dx fs)):∃mA,ObjM h a dx C mA/\(∀f,RelO (fs.lookup f) (mA f))/\PySem.Within mA (fs.map (·.1))/\fs.length<=1000/\H dx=some (.own a):=by obtain ⟨d,z,ne,ob,mA,n,r,q⟩:=(show ObjOk P w H h a (.ins C dx fs) from hok a _ e);exact ⟨mA,⟨ob,n,ne⟩,r,q,z,d⟩
end
structure Cls(K:PF)(C:Addr):Prop where
 pg:PySem.W.plainGet K C Str.empty=true
 hd:PySem.W.hasDictIn K C=true
 po:PySem.W.plainOver K C=true
 sa:PySem.W.findIn K (.ref C) "__setattr__"=some (some (.builtin "object.__setattr__"))
theorem Cls.get{K:PF}{C:Addr}(c:Cls K C)(f:Str):PySem.W.plainGet K C f=true:=c.pg
def NoAttr(K:PF)(C:Addr)(f:Str):Prop:=PySem.W.findIn K (.ref C) f=some none
theorem NoAttr.taker{K:PF}{C:Addr}{f:Str}(n:NoAttr K C f):PySem.W.takerIn K C f=some none:=by unfold PySem.W.takerIn;rw[show PySem.W.findIn K (.ref C) f=some none from n];rfl
structure Meth(K:PF)(C:Addr)(m:Str)(f:Addr):Prop where
 at_:PySem.W.findIn K (.ref C) m=some (some (.ref f))
 fn:PySem.W.isFn K (.ref f)=true
 kp:PySem.W.keepIn K (.ref f)=true
section
variable {X:Cx} {pins:List (Addr×Obj)} {σ:St} {H:Hp} {s:Shared} {a C dx:Addr} {fs:List (Str×V)} {f:Str} {v:V} {A:Around} {E:Value->Shared->Prop}
theorem Wk{b:Bool}{Q:Value->Shared->Prop}(I:Inv X pins σ H s)(e:H a=some (.ins C dx fs))(c:Cls X.K C)(n:NoAttr X.K C f)(l:fs.lookup f=some v)
  (h:∀u s',Inv X pins σ H s'->RelV v u->Q u s'):wpAny (model X.prog X.w) A (getAttr (.ref a) f b) Q E s:=by
 obtain ⟨mA,O,r,_,_,_⟩:=qw I.hok e;obtain ⟨u,hu,ru⟩:=RelO.some_of (v:=v) (o:=mA f) (by rw[<-l];exact r f);exact Wg I.kIn O (c.get f) c.hd n hu (Wj ru) (h u _ (I.tok _) ru)
theorem BK{m:Str}{g:Addr}{pl:Sem Bool}{Q:Value×List Value->Shared->Prop}(I:Inv X pins σ H s)(e:H a=some (.ins C dx fs))(c:Cls X.K C)(k:Meth X.K C m g)(l:fs.lookup m=none)
  (h:Q (.ref g,[.ref a]) s):wpAny (model X.prog X.w) A (getMethod (.ref a) m pl) Q E s:=by
 obtain ⟨mA,O,r,_,_,_⟩:=qw I.hok e;have hn:mA m=none:=RelO.none_of (by rw[<-l];exact r m);exact Wh I.kIn O (c.get m) k.at_ k.fn hn h
theorem Wl{y:V}{u:Value}{Q:Unit->Shared->Prop}(I:Inv X pins σ H s)(e:H a=some (.ins C dx fs))(c:Cls X.K C)(n:NoAttr X.K C f)(hl:fs.length < 1000)(ry:RelV y u)
  (h:∀s',Inv X pins σ (upd H a (.ins C dx (cA f y fs))) s'->Q () s'):wpAny (model X.prog X.w) A (setAttr (.ref a) f u) Q E s:=by
 obtain ⟨mA,O,r,wi,_,ho⟩:=qw I.hok e;have hz:(fs.map (·.1)).length<=sizeLine:=by rw[al,fT];omega
 refine Wi I.kIn O c.sa c.po n.taker c.hd wi hz λh' O' sb=>h _ ?_;have hd:∃o,h'.get? dx=some o:=let ⟨o,_,_,e',_⟩:=O'.ns;⟨o,e'⟩;refine I.write (x:=a) (e:=dx) (by rw[e];exact True.intro) (.inr ho) (λb q hb z=>(sb.2 b hb).trans z) hd ?_;refine ⟨by rw[aG O.ne];exact ho,?_,O.ne,O'.obj,_,O'.ns,λg=>?_,λg hg=>?_⟩
 ·have:=BJ f y fs;omega
 ·show RelO ((cA f y fs).lookup g) (if g=f then some u else mA g);rw[By];by_cases q:g=f
  ·rw[if_pos q,if_pos q];exact ry
  ·rw[if_neg q,if_neg q];exact r g
 ·by_cases q:g=f
  ·rw[q];exact (vQ f y fs).1
  ·refine (vQ f y fs).2 g (wi g λz=>hg ?_);show (if g=f then some u else mA g)=none;rw[if_neg q];exact z
theorem Inv.made(I:Inv X pins σ H s):Inv X pins σ (upd (upd H s.heap.objs.size (.own (s.heap.objs.size+1))) (s.heap.objs.size+1) (.ins C s.heap.objs.size []))
  { s with heap:=(s.heap.push PySem.W.emptyDict).push (PySem.W.instObj C s.heap.objs.size) }:=by
 have e1:(s.heap.push PySem.W.emptyDict).get? s.heap.objs.size=some PySem.W.emptyDict:=bb s.heap rfl;have e2:((s.heap.push PySem.W.emptyDict).push (PySem.W.instObj C s.heap.objs.size)).get? (s.heap.objs.size+1)=some (PySem.W.instObj C s.heap.objs.size):=by have:=bb (s.heap.push PySem.W.emptyDict) (o:=PySem.W.instObj C s.heap.objs.size) rfl;rwa [dQ]at this
 have e3:(s.heap.push PySem.W.emptyDict).Ns s.heap.objs.size (λ_=>none):=⟨PySem.W.emptyDict,#[],_,e1,rfl,(λe he=>absurd he (by simp)),λ_=>rfl⟩;have I1:=I.laid (a:=s.heap.objs.size) (o:=.own (s.heap.objs.size+1)) (h':=s.heap.push PySem.W.emptyDict) (t':=s.toks) (λb u q=>ah _ q) (aE _) ⟨_,e1⟩;refine I1.laid (a:=s.heap.objs.size+1) (o:=.ins C s.heap.objs.size []) (t':=s.toks) (λb u q=>ah _ q) (Nat.le_of_eq (dQ _ _)) ?_;have ne:s.heap.objs.size≠s.heap.objs.size+1:=bX (ge _);refine ⟨by rw[aG ne,bW],eK _,ne,e2,λ_=>none,(Heap.Ns1.of_empty e3).at λo q=>ah _ q,λ_=>True.intro,λy hy=>absurd rfl hy⟩
theorem Wm{prog:Program}{w:World}{env:Env}{e:Expr}{f:Str}{pos:Pos}{s:Shared}{Q:Value->Shared->Prop}(hb:attributeBase e f env (eval e env)=eval e env)
  (h:wpAny (model prog w) A (eval e env) (λo s₁=>wpAny (model prog w) A (getAttr o f true) Q E s₁) E s):wpAny (model prog w) A (eval (.Attribute e f pos) env) Q E s:=
 Attribute_any_ h (by rw[arm_eval_Attribute,hb])
end
def Wn(K:PF)(ta:TE)(f:Str):TE:=λσ H Q=>ta σ H λx H1=>∃a C dx fs v,x=.ref a/\H1 a=some (.ins C dx fs)/\Cls K C/\NoAttr K C f/\fs.lookup f=some v/\Q v H1
def Wo(K:PF)(ta tv:TE)(f:Str):TS:=λD σ H=>tv σ H λy H1=>ta σ H1 λx H2=>∃a C dx fs,x=.ref a/\H2 a=some (.ins C dx fs)/\Cls K C/\NoAttr K C f/\fs.length < 1000/\
 D.nx σ (upd H2 a (.ins C dx (cA f y fs)))
section
variable {X:Cx} {o e value:Expr} {f:Str} {pos pos' tpos:Pos} {ta tv:TE}
theorem Wq(he:PE X e ta)(hb:attributeBase e f X.env (eval e X.env)=eval e X.env):PE X (.Attribute e f pos) (Wn X.K ta f):=by intro pins s σ H Q I h;refine Wm hb (thn (he pins s σ H _ I h) λu s1 ⟨x,H1,I1,rx,a,C,dx,fs,v,ex,ea,c,n,l,q⟩=>?_);subst ex;obtain rfl:u=Value.ref a:=rx;exact Wk I1 ea c n l λu' s2 I2 ru=>⟨v,H1,I2,ru,q⟩
theorem Wr(ha:PE X o ta)(hv:PE X value tv)(hs:swapsWith value (some (.Attribute o f pos')) pos.line X.env=pure false):PS X (.Assign [.Attribute o f pos'] value pos) (Wo X.K ta tv f):=by intro pins s σ H D I h;refine plainObj_wpAny_Assign_Attribute (thn (hv pins s σ H _ I h) λu s1 ⟨y,H1,I1,ry,q⟩=>thn (ha pins s1 σ H1 _ I1 q) λov s2 ⟨x,H2,I2,rx,a,C,dx,fs,ex,ea,c,n,l,q2⟩=>?_) hs;subst ex;obtain rfl:ov=Value.ref a:=rx;exact Wl I2 ea c n l ry λs3 I3=>⟨σ,_,I3,q2⟩
end
section
variable {X:Cx} {pins:List (Addr×Obj)} {σ:St} {H:Hp} {s:Shared} {A:Around} {E:Value->Shared->Prop} {Q:Value->Shared->Prop} {c:Value} {b:Bool}
inductive TyOf (K:PF) (H:Hp):V->Value->Prop where
 |non:TyOf K H .non (.type "NoneType")
 |bl (x:Bool):TyOf K H (.bl x) (.type "bool")
 |int (i:Int):TyOf K H (.int i) (.type "int")
 |str (x:Str):TyOf K H (.str x) (.type "str")
 |flt (x:UInt64):TyOf K H (.flt x) (.type "float")
 |lst {a:Addr} {xs:List V} (e:H a=some (.lst xs)):TyOf K H (.ref a) (.type "list")
 |frz {a:Addr} {o:Obj} {xs:List V} (e:H a=some (.frz o (.lst xs))):TyOf K H (.ref a) (.type "list")
 |tup {a:Addr} {xs:List V} (e:H a=some (.tup xs)):TyOf K H (.ref a) (.type "tuple")
 |dK {a:Addr} {kvs:List (Key×V)} (e:H a=some (.dK kvs)):TyOf K H (.ref a) (.type "dict")
 |dT {a:Addr} {kvs:List (List Key×V)} (e:H a=some (.dT kvs)):TyOf K H (.ref a) (.type "dict")
 |ins {a C dx:Addr} {fs:List (Str×V)} (e:H a=some (.ins C dx fs)) (cl:Cls K C) (ha:PySem.W.findIn K (.ref C) "__class__"=some (some (.builtin "object.__class__")))
   (hn:PySem.W.specialIn K (.builtin "object.__class__") "__get__"=some (some (.builtin "getset_descriptor.__get__"))) (htk:PySem.W.takesIn K (.builtin "object.__class__")=some true)
   (hm:PySem.W.mroIn K C (.type "object")=some true):TyOf K H (.ref a) (.ref C)
theorem Ws{x:V}{u t:Value}(I:Inv X pins σ H s)(rx:RelV x u)(ty:TyOf X.K H x t)(e:PySem.W.kitOne X.K t c=some b)(h:∀tk,Q (.bool b) { s with toks:=tk }):
  wpAny (model X.prog X.w) A (call (.builtin "isinstance") [u,c]) Q E s:=by
 cases ty with
 |non=>cases (show u=Value.none from rx);exact dn PySem.W.kitx_none I.kIn True.intro e (λz=>nomatch z) h
 |bl y=>cases (show u=Value.bool y from rx);exact dn PySem.W.kitx_bool I.kIn True.intro e (λz=>nomatch z) h
 |int i=>obtain ⟨t,q⟩:=(show ∃t,u=Value.int i t from rx);cases q;exact dn PySem.W.kitx_int I.kIn True.intro e (λz=>nomatch z) h
 |str y=>obtain ⟨t,q⟩:=(show ∃t,u=Value.str y t from rx);cases q;exact dn PySem.W.kitx_str I.kIn True.intro e (λz=>nomatch z) h
 |flt y=>obtain ⟨t,q⟩:=(show ∃t,u=Value.float y t from rx);cases q;exact dn PySem.W.kitx_float I.kIn True.intro e (λz=>nomatch z) h
 | @lst a xs ea=>
  cases (show u=Value.ref a from rx);obtain ⟨_,_,n,_,h1⟩:=(show ObjOk X.prog X.w H s.heap a (.lst xs) from I.hok a _ ea);exact dn PySem.W.kitx_list I.kIn ⟨_,h1,rfl⟩ e (λz=>nomatch z) h
 | @frz a ob xs ea=>
  cases (show u=Value.ref a from rx);obtain ⟨_,_,_,n,_,h1⟩:=(show ObjOk X.prog X.w H s.heap a (.frz ob (.lst xs)) from I.hok a _ ea);exact dn PySem.W.kitx_list I.kIn ⟨_,h1,rfl⟩ e (λz=>nomatch z) h
 | @tup a xs ea=>
  cases (show u=Value.ref a from rx);obtain ⟨_,_,_,p⟩:=(show ObjOk X.prog X.w H s.heap a (.tup xs) from I.hok a _ ea);obtain ⟨o,h1,h2,_⟩:=p;exact dn PySem.W.kitx_tuple I.kIn ⟨o,h1,h2⟩ e (λz=>nomatch z) h
 | @dK a kvs ea=>
  cases (show u=Value.ref a from rx);obtain ⟨_,_,vs,_,p⟩:=(show ObjOk X.prog X.w H s.heap a (.dK kvs) from I.hok a _ ea);obtain ⟨o,es,ep,h1,h2,_⟩:=p;exact dn PySem.W.kitx_dict I.kIn ⟨o,h1,h2.1⟩ e (λz=>nomatch z) h
 | @dT a kvs ea=>
  cases (show u=Value.ref a from rx);obtain ⟨_,_,xs,_,o,es,ep,h1,h2,_⟩:=(show ObjOk X.prog X.w H s.heap a (.dT kvs) from I.hok a _ ea);exact dn PySem.W.kitx_dict I.kIn ⟨o,h1,h2.1⟩ e (λz=>nomatch z) h
 | @ins a C dx fs ea cl ha hn htk hm=>
  cases (show u=Value.ref a from rx);obtain ⟨mA,O,_⟩:=qw I.hok ea;obtain ⟨od,J,_⟩:=O.look;exact dn (PySem.W.kitx_own (cl.get _) cl.hd ha hn htk hm) I.kIn J e (λz=>nomatch z) h
end
structure Room(k:Nat)(A:Around):Prop where
 hd:A.handled=none
 dp:A.depth+3 * k+5 < recursionLimit
 un:A.units+16 * k+200 < cLine
theorem Room.mono{j k:Nat}{A:Around}(r:Room k A)(h:j<=k):Room j A:=⟨r.hd,by have:=r.dp;omega,by have:=r.un;omega⟩
theorem Room.deeper{k:Nat}{A:Around}(r:Room (k+1) A)(env:Env):Room k (A.deeper env):=
 ⟨r.hd,by have:=r.dp;show A.depth+1+3 * k+5 < _;omega,by have:=r.un;show A.units+3+16 * k+200 < _;omega⟩
theorem Wt {A:Around} {C:Addr} {us:List Value} {kw:List (Str×Value)}:(A.under (.builtin "type.__call__" ⟨.ref C::us,kw⟩)).depth=A.depth+1:=by first |rfl |simp[Around.under,Code.weight,Code.isCreation,Code.isGuard,Code.isCaller,Code.frames,Code.isFrame,guardIds]
theorem Wu {A:Around} {C:Addr} {us:List Value} {kw:List (Str×Value)}:(A.under (.builtin "type.__call__" ⟨.ref C::us,kw⟩)).units=A.units+1:=by first |rfl |simp[Around.under,Code.cUnits,Code.frames,Code.isFrame]
theorem Room.make {k:Nat} {A:Around} (r:Room (k+1) A) (C:Addr) (us:List Value) (kw:List (Str×Value)):Room k (A.under (.builtin "type.__call__" ⟨.ref C::us,kw⟩)):=
 ⟨r.hd,by have:=r.dp;rw[Wt];omega,by have:=r.un;rw[Wu];omega⟩
theorem Room.depth{k:Nat}{A:Around}(r:Room k A):A.depth < recursionLimit:=by have:=r.dp;omega
def BL:TA:=λ_ H Q=>Q [] H
def Wv(ta:TE)(tr:TA):TA:=λσ H Q=>ta σ H λx H1=>tr σ H1 λxs H2=>Q (x::xs) H2
section
variable {X:Cx} {e:Expr} {es:List Expr} {te:TE} {t:TA} {pos:Pos}
theorem jo:PA X [] BL:=λ_ _ _ _ H Q I h=>Calls.spliced_nil ⟨[],H,I,.nil,h⟩
theorem gq(ha:PE X e te)(hr:PA X es t)(hs:starEach (e::es) X.env=(false,eval e X.env)::starEach es X.env:=by rfl):PA X (e::es) (Wv te t):=by intro pos pins s σ H Q I h;rw[hs];show wpAny _ _ (spliced ((false,eval e X.env)::backTo pos (starEach es X.env))) _ _ s;refine Calls.spliced_cons (thn (ha pins s σ H _ I h) λu s1 ⟨x,H1,I1,r1,q1⟩=>?_);exact thn (hr pos pins s1 σ H1 _ I1 q1) λus s2 ⟨xs,H2,I2,r2,q2⟩=>⟨x::xs,H2,I2,.cons r1 r2,q2⟩
def Ww(t:TA):TE:=λσ H Q=>t σ H λxs H1=>xs.length<=sizeLine/\∀p,H1 p=none->Q (.ref p) (upd H1 p (.tup xs))
def Wx(t:TA):TE:=λσ H Q=>t σ H λxs H1=>xs.length<=sizeLine/\∀p,H1 p=none->Q (.ref p) (upd H1 p (.lst xs))
theorem Wy{x1}(h:PA X es t):PE X (.Tuple es x1 pos) (Ww t):=by intro pins s σ H Q I hq;refine wpAny_Tuple_spliced (thn (h pos pins s σ H _ I hq) λus s1 ⟨xs,H1,I1,r,z,q⟩=>⟨by rw[<-r.length];exact z,?_⟩);have hf:H1 s1.heap.objs.size=none:=I1.hok.fresh (aE _);refine ⟨.ref s1.heap.objs.size,upd H1 s1.heap.objs.size (.tup xs),I1.laid (t':=s1.toks) (λb u e=>ah _ e) (aE _) ?_,rfl,q _ hf⟩;exact ⟨z,us,r,⟨_,bb _ rfl,rfl,_,rfl⟩⟩
theorem Wz(h:PA X es t):PE X (.List es pos) (Wx t):=by intro pins s σ H Q I hq;refine wpAny_List_spliced (thn (h pos pins s σ H _ I hq) λus s1 ⟨xs,H1,I1,r,z,q⟩=>⟨by rw[<-r.length];exact z,?_⟩);have hf:H1 s1.heap.objs.size=none:=I1.hok.fresh (aE _);refine ⟨.ref s1.heap.objs.size,upd H1 s1.heap.objs.size (.lst xs),I1.laid (t':=s1.toks) (λb u e=>ah _ e) (aE _) ?_,rfl,q _ hf⟩;exact ⟨z,us,0,r,bb _ rfl⟩
end
abbrev Sp:=List V->Hp->VK->XK->Prop
abbrev CXT:=List Env->Hp->Shared->XK->Value->Shared->Prop
structure Env0(P:Program)(w:World)(K:PF)(mg:Str->Option Value)(base:Heap)(A:Around)(outer:List Env)(s:Shared)(H:Hp):Prop where
 frames:A.frames=some outer
 mod:Mod K mg base
 bs:∀b o,base.get? b=some o->s.heap.get? b=some o/\H b=none
 bsz:base.objs.size<=s.heap.objs.size
 funs:s.heap.FunFrames base outer
 frf:∀b∈frs outer,H b=none
 hok:HOk P w H s.heap
 bare:AllBare s.gens
def CE(outer:List Env)(P:Program)(w:World)(H:Hp)(s:Shared)(Q:VK)(u:Value)(s':Shared):Prop:=
 ∃v H',s'.os=s.os/\AllBare s'.gens/\Un (frs outer) [] H H' s.heap s'.heap/\HOk P w H' s'.heap/\RelV v u/\Q v H'
def CR(CX:CXT)(outer:List Env)(P:Program)(w:World)(H:Hp)(s:Shared)(Q:VK)(E:XK)(r:Result)(s':Shared):Prop:=
 match r with
 |.ok (.ret u)=>CE outer P w H s Q u s'
 |.ok _=>False
 |.error e=>CX outer H s E e s'
structure FnOk(P:Program)(w:World)(K:PF)(mg:Str->Option Value)(base:Heap)(CX:CXT)(k:Nat)(f:Addr)(fd:FuncData)(ps:List Str)(sp:Sp):Prop where
 len:∀vs H Q E,sp vs H Q E->vs.length=ps.length
 run:∀(A:Around)(outer:List Env)(s:Shared)(H:Hp)(args:Args)(us:List Value)(vs:List V)(Q:VK)(E:XK),Room k A->Env0 P w K mg base A outer s H->BindsTo s fd args (ps.zip us)->Vals vs us->sp vs H Q E->
  codeAny (model P w) A (.call (.ref f) args) (CR CX outer P w H s Q E) s
theorem FnOk.mono{P:Program}{w:World}{K:PF}{mg:Str->Option Value}{base:Heap}{CX:CXT}{j k:Nat}{f:Addr}{fd:FuncData}{ps:List Str}{sp:Sp}(F:FnOk P w K mg base CX j f fd ps sp)(h:j<=k):
  FnOk P w K mg base CX k f fd ps sp:=⟨F.len,λA outer s H args us vs Q E hr=>F.run A outer s H args us vs Q E (hr.mono h)⟩
theorem FnOk.imp{P:Program}{w:World}{K:PF}{mg:Str->Option Value}{base:Heap}{CX:CXT}{k:Nat}{f:Addr}{fd:FuncData}{ps:List Str}{sp sp':Sp}(F:FnOk P w K mg base CX k f fd ps sp)
  (h:∀vs H Q E,sp' vs H Q E->sp vs H Q E):FnOk P w K mg base CX k f fd ps sp':=
 ⟨λvs H Q E q=>F.len vs H Q E (h _ _ _ _ q),λA outer s H args us vs Q E hr he hb hv hs=>F.run A outer s H args us vs Q E hr he hb hv (h _ _ _ _ hs)⟩
theorem Env0.make{P:Program}{w:World}{K:PF}{mg:Str->Option Value}{base:Heap}{A:Around}{outer:List Env}{s:Shared}{H:Hp}(e:Env0 P w K mg base A outer s H)(C:Addr)(us:List Value)(kw:List (Str×Value)):
  Env0 P w K mg base (A.under (.builtin "type.__call__" ⟨.ref C::us,kw⟩)) outer s H:=⟨by first |exact e.frames | (simpa [Around.under,Code.envs,Code.isFrame,pushEnvs] using e.frames),e.mod,e.bs,e.bsz,e.funs,e.frf,e.hok,e.bare⟩
section
variable {X:Cx} {pins:List (Addr×Obj)} {σ:St} {H:Hp} {s s':Shared}
theorem Inv.env0(I:Inv X pins σ H s):Env0 X.prog X.w X.K X.mg X.base X.A X.stack s H:=
 ⟨I.ok.frames,I.ok.mod,I.bs,cw I.ok.bsz I.sz,I.stack,I.stkFree,I.hok,I.bare⟩
theorem Inv.after{Q:VK}{u:Value}(I:Inv X pins σ H s)(h:CE X.stack X.prog X.w H s Q u s'):EP X pins σ Q u s':=by obtain ⟨v,H',os,bare,un,hok,r,q⟩:=h;obtain ⟨hh,g,d,t,os'⟩:=s';obtain rfl:os'=s.os:=os;exact ⟨v,H',I.call (h':=hh) (g':=g) (d':=d) (t':=t) (ch:=[]) un hok bare (λb z=>absurd z (by simp)),r,q⟩
end
def WD(sp:Sp)(dvs:List V)(E:XK)(t:TA):TE:=λσ H Q=>t σ H λvs H1=>sp (vs++dvs) H1 Q E
def qx(C:Addr)(m:Str)(sp:Sp)(dvs:List V)(E:XK)(ta:TE)(t:TA):TE:=λσ H Q=>ta σ H λx H1=>∃a dx fs,x=.ref a/\H1 a=some (.ins C dx fs)/\fs.lookup m=none/\
 t σ H1 λvs H2=>sp (x::(vs++dvs)) H2 Q E
def WF(C:Addr)(sp:Sp)(dvs:List V)(E:XK)(t:TA):TE:=λσ H Q=>t σ H λvs H1=>∀x dx,H1 x=none->H1 dx=none->dx≠x->
 sp (.ref x::(vs++dvs)) (upd (upd H1 dx (.own x)) x (.ins C dx [])) (λv H2=>v=.non/\Q (.ref x) H2) E
def Binds(K:PF)(fd:FuncData)(ps:List Str)(ds:List Value):Prop:=
 ∀(s:Shared)(us:List Value),K.In s.heap->(us++ds).length=ps.length->BindsTo s fd ⟨us,[]⟩ (ps.zip (us++ds))
theorem Binds.all{K:PF}{fd:FuncData}{ps:List Str}(h:∀us:List Value,us.length=ps.length->bindArgs fd ⟨us,[]⟩=pure (ps.zip us)):Binds K fd ps []:=λs us _ hl=>by
 rw[df]at hl ⊢;exact .of_eq (h us hl)
def eG(CX:CXT)(X:Cx)(E:XK):Prop:=∀(pins:List (Addr×Obj))(σ:St)(H:Hp)(s:Shared)(e:Value)(s':Shared),Inv X pins σ H s->CX X.stack H s E e s'->X.xe e s'
section
variable {X:Cx} {CX:CXT} {k:Nat} {f C:Addr} {fd:FuncData} {ps:List Str} {sp:Sp} {dvs:List V} {ds:List Value} {E:XK} {x m:Str} {p pos apos:Pos} {e o:Expr} {es:List Expr} {ta:TE} {t:TA}
theorem vR{pins:List (Addr×Obj)}{σ:St}{H:Hp}{s:Shared}{Q:VK}{us:List Value}{vs:List V}(F:FnOk X.prog X.w X.K X.mg X.base CX k f fd ps sp)(hr:Room k X.A)(hb:Binds X.K fd ps ds)(hd:Vals dvs ds)(hx:eG CX X E)
  (I:Inv X pins σ H s) (r:Vals vs us) (h:sp (vs++dvs) H Q E):wpAny (model X.prog X.w) X.A (call (.ref f) us) (EP X pins σ Q) X.xe s:=by
 have r2:Vals (vs++dvs) (us++ds):=r.append hd;have hl:(us++ds).length=ps.length:=by rw[<-r2.length];exact F.len _ _ _ _ h
 refine wpAny_call (codeAny_mono (F.run X.A X.stack s H ⟨us,[]⟩ (us++ds) (vs++dvs) Q E hr I.env0 (hb s us I.kIn hl) r2 h) λr s' hq=>?_);cases r with
 |error e=>exact hx pins σ H s e s' I hq
 |ok fl=>
  cases fl with
  |ret u=>exact I.after hq
  |next=>exact False.elim hq
  |brk=>exact False.elim hq
  |cont=>exact False.elim hq
theorem WK(F:FnOk X.prog X.w X.K X.mg X.base CX k f fd ps sp)(hr:Room k X.A)(hg:Gl X x)(hm:X.mg x=some (.ref f))(hk:PySem.W.keepIn X.K (.ref f)=true)(hb:Binds X.K fd ps ds)(hd:Vals dvs ds)(hx:eG CX X E)
  (ha:PA X (e::es) t) (hdb:(x==("__debug__":Str))=false:=by decide) (he:starEach (e::es) X.env=(false,eval e X.env)::starEach es X.env:=by rfl) (hpl:(backTo pos (starEach es X.env)).any (·.1)=false:=by rfl):
  PE X (.Call (.Name x p) (e::es) [] pos) (WD sp dvs E t):=by
 intro pins s σ H Q I h;refine fk (gn I hg hm ?_ hdb);refine fE (h₀:=X.base) I.ok.mod.kin hk (thn (ha pos pins s σ H _ I h) λus s1 ⟨vs,H1,I1,r,q⟩=>⟨I1.kIn,?_⟩) he hpl;exact vR F hr hb hd hx I1 r q
theorem WL{pl:Sem Bool}(he:PE X o ta)(c:Cls X.K C)(hm:Meth X.K C m f)(F:FnOk X.prog X.w X.K X.mg X.base CX k f fd ps sp)(hr:Room k X.A)(hb:Binds X.K fd ps ds)(hd:Vals dvs ds)(hx:eG CX X E)(ha:PA X (e::es) t)
  (hst:starEach (e::es) X.env=(false,eval e X.env)::starEach es X.env:=by rfl) (hpl:(backTo pos (starEach es X.env)).any (·.1)=false:=by rfl)
  (ht:eval (.Call (.Attribute o m apos) (e::es) [] pos) X.env=(do
   let ov <-eval o X.env
   standAt apos.atName
   let (f,first) <-holding [ov] (getMethod ov m pl)
   callWith pos f first (backTo pos (starEach (e::es) X.env)) (backToKw pos (keywordEach [] X.env))):=by rfl):
  PE X (.Call (.Attribute o m apos) (e::es) [] pos) (qx C m sp dvs E ta t):=by
 intro pins s σ H Q I h;refine PySem.W.methodCall_KW (pl:=pl) (thn (he pins s σ H _ I h) λu s1 ⟨x,H1,I1,rx,a,dx,fs,ex,ea,l,q⟩=>?_) ht;subst ex;obtain rfl:u=Value.ref a:=rx;refine BK I1 ea c hm l ?_;refine fE (first:=[.ref a]) (h₀:=X.base) I.ok.mod.kin hm.kp (thn (ha pos pins s1 σ H1 _ I1 q) λus s2 ⟨vs,H2,I2,r,q2⟩=>⟨I2.kIn,?_⟩) hst hpl;exact vR (us:=.ref a::us) (vs:=.ref a::vs) F hr hb hd hx I2 (.cons rfl r) q2
theorem WM{pl:Sem Bool}(he:PE X o ta)(c:Cls X.K C)(hm:Meth X.K C m f)(F:FnOk X.prog X.w X.K X.mg X.base CX k f fd ps sp)(hr:Room k X.A)(hb:Binds X.K fd ps ds)(hd:Vals dvs ds)(hx:eG CX X E)
  (ht:eval (.Call (.Attribute o m apos) [] [] pos) X.env=(do
   let ov <-eval o X.env
   standAt apos.atName
   let (f,first) <-holding [ov] (getMethod ov m pl)
   callWith pos f first (backTo pos (starEach [] X.env)) (backToKw pos (keywordEach [] X.env))):=by rfl):
  PE X (.Call (.Attribute o m apos) [] [] pos) (qx C m sp dvs E ta BL):=by
 intro pins s σ H Q I h;refine PySem.W.methodCall_KW (pl:=pl) (thn (he pins s σ H _ I h) λu s1 ⟨x,H1,I1,rx,a,dx,fs,ex,ea,l,q⟩=>?_) ht;subst ex;obtain rfl:u=Value.ref a:=rx;refine BK I1 ea c hm l ?_;exact PySem.W.callWith_K0 (first:=[.ref a]) I1.kIn hm.kp (vR (us:=[.ref a]) (vs:=[.ref a]) F hr hb hd hx I1 (.cons rfl .nil) q)
structure Mk(K:PF)(C f:Addr):Prop where
 makes:PySem.W.makesIn K C=true
 init:PySem.W.findIn K (.ref C) "__init__"=some (some (.ref f))
 fn:PySem.W.isFn K (.ref f)=true
 kp:PySem.W.keepIn K (.ref C)=true
theorem WN{pins:List (Addr×Obj)}{σ:St}{H:Hp}{s:Shared}{Q:VK}{us:List Value}{vs:List V}(M:Mk X.K C f)(F:FnOk X.prog X.w X.K X.mg X.base CX k f fd ps sp)(hr:Room (k+1) X.A)(hb:Binds X.K fd ps ds)(hd:Vals dvs ds)
  (hx:eG CX X E) (I:Inv X pins σ H s) (r:Vals vs us)
  (h:∀x dx,H x=none->H dx=none->dx≠x->sp (.ref x::(vs++dvs)) (upd (upd H dx (.own x)) x (.ins C dx [])) (λv H2=>v=.non/\Q (.ref x) H2) E):
  wpAny (model X.prog X.w) X.A (call (.ref C) us) (EP X pins σ Q) X.xe s:=by
 have hq:=h (s.heap.objs.size+1) s.heap.objs.size (I.hok.fresh (fI _)) (I.hok.fresh (aE _)) (bX (ge _));have I2:=Inv.made (C:=C) I;have r2:Vals (V.ref (s.heap.objs.size+1)::(vs++dvs)) (Value.ref (s.heap.objs.size+1)::(us++ds)):=.cons rfl (r.append hd);have hl:(Value.ref (s.heap.objs.size+1)::us++ds).length=ps.length:=by have e:=r2.length;rw[F.len _ _ _ _ hq]at e;exact e.symm
 refine wpAny_call (Bx (f:=f) I.kIn M.makes M.init (ar.mp M.fn) (codeAny_mono (F.run _ X.stack _ _ ⟨Value.ref (s.heap.objs.size+1)::us,[]⟩ (Value.ref (s.heap.objs.size+1)::(us++ds)) _ _ E (hr.make C us [])
  (I2.env0.make C us []) (hb _ (Value.ref (s.heap.objs.size+1)::us) I2.kIn hl) r2 hq) λr s' hq'=>?_))
 cases r with
 |error e=>exact hx pins σ _ _ e s' I2 hq'
 |ok fl=>
  cases fl with
  |ret u=>
   obtain ⟨v,H',I3,rv,ev,q3⟩:=I2.after hq';subst ev;exact ⟨rv,⟨V.ref (s.heap.objs.size+1),H',I3,rfl,q3⟩⟩
  |next=>exact False.elim hq'
  |brk=>exact False.elim hq'
  |cont=>exact False.elim hq'
theorem WP(M:Mk X.K C f)(F:FnOk X.prog X.w X.K X.mg X.base CX k f fd ps sp)(hr:Room (k+1) X.A)(hg:Gl X x)(hm:X.mg x=some (.ref C))(hb:Binds X.K fd ps ds)(hd:Vals dvs ds)(hx:eG CX X E)
  (ha:PA X (e::es) t) (hdb:(x==("__debug__":Str))=false:=by decide) (he:starEach (e::es) X.env=(false,eval e X.env)::starEach es X.env:=by rfl) (hpl:(backTo pos (starEach es X.env)).any (·.1)=false:=by rfl):
  PE X (.Call (.Name x p) (e::es) [] pos) (WF C sp dvs E t):=by
 intro pins s σ H Q I h;refine fk (gn I hg hm ?_ hdb);refine fE (h₀:=X.base) I.ok.mod.kin M.kp (thn (ha pos pins s σ H _ I h) λus s1 ⟨vs,H1,I1,r,q⟩=>⟨I1.kIn,?_⟩) he hpl;exact WN M F hr hb hd hx I1 r q
end
structure FnScope(N P:List Str)(sc:Scope):Prop where
 kind:sc.kind=.function
 co:sc.isCoroutine=false
 gen:sc.isGenerator=false
 nd:N.Nodup
 pre:N.take P.length=P
 par:∀x∈P,sc.names.lookup x=some .local\/sc.names.lookup x=some .cell
 nofree:∀y∈sc.names,y.2≠.free
theorem BP{kindOf:Str->Option NameKind}{x:Str}:∀{binds:List (Str×Value)}{m:Str->Option Value},(∀v,(x,v)∉binds)->bindL kindOf binds m x=m x
 |[],_,_=>rfl
 | (n,v)::r,m,h=>by
  unfold bindL;rw[BP λw hw=>h w (bp _ hw)];split
  ·have:x≠n:=by rintro rfl;exact h v cb
   simp[this]
  ·rfl
theorem BR{kindOf:Str->Option NameKind}{x:Str}:∀{binds:List (Str×Value)}{m:Str->Option Value},(∀v,(x,v)∉binds)->bindC kindOf binds m x=m x
 |[],_,_=>rfl
 | (n,v)::r,m,h=>by
  unfold bindC;rw[BR λw hw=>h w (bp _ hw)];split
  ·rfl
  ·have:x≠n:=by rintro rfl;exact h v cb
   simp[this]
theorem BV{kindOf:Str->Option NameKind}{x:Str}{v:Value}:∀{P:List Str}{vs:List Value}{i:Nat}{m:Str->Option Value},P.Nodup->P[i]?=some x->vs[i]?=some v->kindOf x=some .local->
  bindL kindOf (P.zip vs) m x=some v
 |[],_,_,_,_,h,_,_=>by simp at h
 |_::_,[],_,_,_,_,h,_=>by simp at h
 |p::P,w::vs,0,m,nd,h1,h2,hk=>by
  simp at h1 h2;subst h1;subst h2;show bindL kindOf ((p,w)::P.zip vs) m p=_;unfold bindL;rw[BP λv hv=>(List.nodup_cons.mp nd).1 (List.of_mem_zip hv).1,if_pos hk];simp
 |p::P,w::vs,i+1,m,nd,h1,h2,hk=>by
  show bindL kindOf ((p,w)::P.zip vs) m x=_;unfold bindL;exact BV (i:=i) (List.nodup_cons.mp nd).2 (by simpa using h1) (by simpa using h2) hk
theorem BW{kindOf:Str->Option NameKind}{x:Str}{v:Value}:∀{P:List Str}{vs:List Value}{i:Nat}{m:Str->Option Value},P.Nodup->P[i]?=some x->vs[i]?=some v->kindOf x≠some .local->
  bindC kindOf (P.zip vs) m x=some v
 |[],_,_,_,_,h,_,_=>by simp at h
 |_::_,[],_,_,_,_,h,_=>by simp at h
 |p::P,w::vs,0,m,nd,h1,h2,hk=>by
  simp at h1 h2;subst h1;subst h2;show bindC kindOf ((p,w)::P.zip vs) m p=_;unfold bindC;rw[BR λv hv=>(List.nodup_cons.mp nd).1 (List.of_mem_zip hv).1,if_neg hk];simp
 |p::P,w::vs,i+1,m,nd,h1,h2,hk=>by
  show bindC kindOf ((p,w)::P.zip vs) m x=_;unfold bindC;exact BW (i:=i) (List.nodup_cons.mp nd).2 (by simpa using h1) (by simpa using h2) hk
def start(N:List Str)(vs:List V):St:=vs.map some++List.replicate (N.length - vs.length) none
def cL(CX:CXT)(P:Program)(w:World)(K:PF)(mg:Str->Option Value)(base:Heap)(N:List Str)(qual:Str)(scope:Scope)(f:Addr)(cd:Value)(A:Around)(outer:List Env)(s:Shared)(H:Hp)(E:XK):Cx where
 prog:=P
 w:=w
 K:=K
 mg:=mg
 base:=base
 A:=A.deeper (envOfC qual scope s.heap.objs.size f cd)
 N:=N
 s₀:=s
 H₀:=H
 env:=envOfC qual scope s.heap.objs.size f cd
 outer:=outer
 stack:=envOfC qual scope s.heap.objs.size f cd::outer
 ex:=[]
 calm:=true
 fn:=λ_=>true
 pn:=[]
 xe:=λe s'=>wpAny (model P w) (A.deeper (envOfC qual scope s.heap.objs.size f cd)) (leaving (envOfC qual scope s.heap.objs.size f cd) e) (λ_ s''=>CX outer H s E e s'') (λe' s''=>CX outer H s E e' s'') s'
theorem BX{sc:Scope}{n:Nat}{x:Str}(h:sc.names.lookup x=some .cell):∃c,(cellsFrom n sc.names []).lookup x=some c:=by have q:=PySem.W.cellsFrom_some sc.names n [] (.inl h);exact cq.mp q
theorem BZ{CX:CXT}{P:Program}{w:World}{K:PF}{mg:Str->Option Value}{base:Heap}{N ps:List Str}{qual:Str}{scope:Scope}{f:Addr}{cd:Value}{A:Around}{outer:List Env}{s s1:Shared}{H:Hp}{E:XK}{us:List Value}{vs:List V}
  (S:FnScope N ps scope) (hd:A.handled=none) (e0:Env0 P w K mg base A outer s H) (hl:vs.length=ps.length) (r:Vals vs us)
  (x:InCallC s s.heap.objs.size (bindL (envOfC qual scope s.heap.objs.size f cd).kindOf (ps.zip us) λ_=>none) (cellsFrom (s.heap.objs.size+1) scope.names []) (bindC (envOfC qual scope s.heap.objs.size f cd).kindOf (ps.zip us) λ_=>none) s1):
  Inv (cL CX P w K mg base N qual scope f cd A outer s H E) [] (start N vs) H s1:=by
 have hpl:ps.length<=N.length:=by have:=fe List.length S.pre;rw[ci]at this;omega
 obtain ⟨h1,tk,rfl,hk⟩:=x.done;have noA:∀b:Addr,b∉(cL CX P w K mg base N qual scope f cd A outer s H E).ex:=λb z=>absurd (show b∈([]:List Addr) from z) (by simp);refine ⟨⟨e0.mod,S.kind,rfl,rfl,aE _,λy z c h1 h2=>?_,λy hy=>?_,λy c _ h=>?_,λ_=>hd,Around.frames_deeper e0.frames,.inr ⟨rfl,rfl⟩,λb z=>absurd z (noA b),e0.bs,e0.bsz,λb _ _=>noA b,λb z=>absurd z (noA b),e0.funs,e0.frf⟩,
  rfl,e0.bare,Un.kept hk,⟨_,x.toInCall.ns,λi y v h1 h2 h3=>?_⟩,λy c h=>⟨_,x.cell y c h⟩,e0.hok.fresh (aE _),λy c h=>?_,λp hp=>absurd (show p∈([]:List (Addr×Obj)) from hp) (by simp),e0.hok.kept hk,?_⟩
 ·exact name_of_addr x.apart (d4 h1) (d4 h2)
 ·have hy:scope.names.lookup y=some .cell\/scope.names.lookup y=some .free:=hy;rcases hy with hy |hy
  ·exact BX hy
  ·exact absurd rfl (S.nofree _ (d4 hy))
 ·exact Nat.le_of_lt (x.above y c (d4 h))
 ·have hi:i < vs.length:=by
   unfold start at h2;by_cases hi:i < vs.length
   ·exact hi
   ·rw[List.getElem?_append_right (by simpa using hi)]at h2;rw[List.getElem?_replicate]at h2;split at h2 <;> cases h2
  have ha:vs[i]?=some v:=by
   unfold start at h2;rw[eD (by simpa using hi),b9]at h2;cases e:vs[i]? with
   |none=>rw[e]at h2;cases h2
   |some a=>rw[e]at h2;cases h2;rfl
  obtain ⟨u,hu,rv⟩:=r.get ha;have hp:ps[i]?=some y:=by rw[<-S.pre,List.getElem?_take_of_lt (by omega)];exact h1
  have ndP:ps.Nodup:=by rw[<-S.pre];exact S.nd.sublist (List.take_sublist _ _)
  refine ⟨u,rv,?_⟩;rcases S.par y (cf hp) with k |k
  ·exact .inl ⟨k,BV ndP hp hu k⟩
  ·obtain ⟨c,e⟩:=BX (n:=s.heap.objs.size+1) k;refine .inr ⟨.inl k,c,e,?_⟩;have q:=x.cell y c e;rw[BW ndP hp hu (by show scope.names.lookup y≠_;rw[k];decide)]at q;exact q
 ·exact e0.hok.fresh (Nat.le_of_lt (x.above y c (d4 h)))
 ·unfold start;show _=N.length;rw[ax,al,ck];omega
theorem WQ{CX:CXT}{P:Program}{w:World}{K:PF}{mg:Str->Option Value}{base:Heap}{k:Nat}{f:Addr}{name qual:Str}{params:Arguments}{body:List Stmt}{scope:Scope}{dV kV doc pm cdv ct oc:Value}{an od:Option Addr}
  {osl:Array (Option Value)} {N ps:List Str} {sp:Sp} (lk:K.lookup f=some ⟨oc,od,.func (PySem.W.fnOf name qual params body scope dV kV doc pm an cdv ct),osl⟩) (hcd:PySem.W.codeIn K cdv qual=true) (S:FnScope N ps scope)
  (len:∀vs H Q E,sp vs H Q E->vs.length=ps.length)
  (hbody:∀(A:Around)(outer:List Env)(s:Shared)(H:Hp)(vs:List V)(Q:VK)(E:XK),Room k (A.deeper (envOfC qual scope s.heap.objs.size f cdv))->sp vs H Q E->
   ∃t,PSs (cL CX P w K mg base N qual scope f cdv A outer s H E) body t/\t { nx:=λ_ H'=>Q .non H',rt:=Q } (start N vs) H):
  FnOk P w K mg base CX (k+1) f (PySem.W.fnOf name qual params body scope dV kV doc pm an cdv ct) ps sp:=by
 refine ⟨len,λA outer s H args us vs Q E hr e0 hb r hsp=>?_⟩;have hl:=len _ _ _ _ hsp;have KX:K.In s.heap:=e0.mod.kin.keeps λb o e=>(e0.bs b o e).1;have lim:s.heap.NoLimit:=e0.mod.nolimit.keeps λb o e=>(e0.bs b o e).1;have hkind:∀y∈ps.zip us,scope.names.lookup y.1=some .local\/(scope.names.lookup y.1=some .cell/\((cellsFrom (s.heap.objs.size+1) scope.names []).lookup y.1).isSome=true):=λ⟨n,v⟩ hy=>by
  rcases S.par n (List.of_mem_zip hy).1 with q |q
  ·exact .inl q
  ·exact .inr ⟨q,PySem.W.cellsFrom_some _ _ _ (.inl q)⟩
 refine codeAny_call_function hr.depth (KX _ _ lk) rfl S.co S.gen rfl (PySem.W.codeRec_of KX hcd) (hb _ _ _ _ ?_);refine wpAny_newFunctionEnv_cells S.kind hkind λenv he s1 x=>?_;subst he;refine ⟨lim.keeps x.toInCall.keep,codeAny_func ?_⟩;obtain ⟨t,ht,hq⟩:=hbody A outer s H vs Q E (hr.deeper _) hsp;have I:Inv (cL CX P w K mg base N qual scope f cdv A outer s H E) [] (start N vs) H s1:=BZ S hr.hd e0 hl r x;refine cp (ht [] s1 (start N vs) H _ I hq) (λfl s' hs=>?_) λe s' hs=>hs;have fin:∀{σ':St}{H':Hp}{v:V}{u:Value},Inv (cL CX P w K mg base N qual scope f cdv A outer s H E) [] σ' H' s'->RelV v u->Q v H'->CE outer P w H s Q u s':=
  λ{σ' H' v u} J rv q=>⟨v,H',J.os,J.bare,J.base,J.hok,rv,q⟩
 cases fl with
 |ret u=>
  obtain ⟨v,σ',H',J,rv,q⟩:=hs;exact fin J rv q
 |next=>
  obtain ⟨σ',H',J,q⟩:=hs;exact fin (v:=V.non) (u:=Value.none) J rfl q
 |brk=>
  obtain ⟨_,_,_,q⟩:=hs;exact False.elim q
 |cont=>
  obtain ⟨_,_,_,q⟩:=hs;exact False.elim q
section
variable {X:Cx} {x:Str} {p pos:Pos} {e:Expr} {es:List Expr} {t:TA} {id T:String} {r:List V->Hp->VK->Prop}
def tCB(r:List V->Hp->VK->Prop)(t:TA):TE:=λσ H Q=>t σ H λvs H1=>r vs H1 Q
theorem lr (hc:bB X (.builtin id) r) (hg:Gl X x) (hm:X.mg x=none) (hv:bootBuiltins x=some (.builtin id)) (ha:PA X (e::es) t) (hn:x≠"__name__":=by decide) (hdb:(x==("__debug__":Str))=false:=by decide)
  (he:starEach (e::es) X.env=(false,eval e X.env)::starEach es X.env:=by rfl) (hpl:(backTo pos (starEach es X.env)).any (·.1)=false:=by rfl):PE X (.Call (.Name x p) (e::es) [] pos) (tCB r t):=by
 intro pins s σ H Q I h;refine fk (jm I hg hm hv ?_ hn hdb);exact PyProof.Rows.callWith_builtin1 (thn (ha pos pins s σ H _ I h) λus s1 ⟨vs,H1,I1,r1,q1⟩=>hc pins s1 σ H1 vs us Q I1 r1 q1) he hpl
theorem qy (hc:bB X (.type T) r) (hg:Gl X x) (hm:X.mg x=none) (hv:bootBuiltins x=some (.type T)) (ha:PA X (e::es) t) (hn:x≠"__name__":=by decide) (hdb:(x==("__debug__":Str))=false:=by decide)
  (he:starEach (e::es) X.env=(false,eval e X.env)::starEach es X.env:=by rfl) (hpl:(backTo pos (starEach es X.env)).any (·.1)=false:=by rfl):PE X (.Call (.Name x p) (e::es) [] pos) (tCB r t):=by
 intro pins s σ H Q I h;refine fk (jm I hg hm hv ?_ hn hdb);exact fi (thn (ha pos pins s σ H _ I h) λus s1 ⟨vs,H1,I1,r1,q1⟩=>hc pins s1 σ H1 vs us Q I1 r1 q1) he hpl
end
end L2
namespace HT
open PySem PyProof.Rows
section
variable {prog:Program} {w:World} {A:Around} {E:Value->Shared->Prop} {s:Shared}
theorem WR{t b:Addr}{vs ws:List Value}{Q:Value->Shared->Prop}(ht:IsTup s.heap t vs.toArray)(hb:IsTup s.heap b ws.toArray)(hv:vs≠[])
  (h1:ws=[]->Q (.ref t) s) (h2:ws≠[]->Q (.ref s.heap.objs.size) { s with heap:=s.heap.push { cls:=.type "tuple",data:=.seq (vs++ws).toArray } })
  (hsz:vs.length+ws.length<=sizeLine):wpAny (model prog w) A (binaryOp .Add (.ref t) (.ref b)) Q E s:=by
 obtain ⟨⟨cls,dd,data,sl⟩,ho,hc,n,hd⟩:=id ht;obtain ⟨⟨cls2,dd2,data2,sl2⟩,ho2,hc2,n2,hd2⟩:=id hb;simp only at hc hd hc2 hd2;subst hc hd hc2 hd2;have e:vs.toArray++ws.toArray=(vs++ws).toArray:=by simp
 by_cases hw:ws=[]
 ·exact concat_meets ⟨_,ho,rfl⟩ ⟨_,ho2,rfl⟩ noFill_tuple_add seq_tuple_add PySem.F.slot_tuple_add PySem.F.entry_tuple_add (PySem.F.args_tuple_add_2 _ _)
   (tuple_addW1 t b vs.toArray ws.toArray n n2 dd dd2 sl sl2 (by simpa using hv) (by simp[hw])) ⟨ho,ho2,h1 hw⟩
 ·refine concat_meets ⟨_,ho,rfl⟩ ⟨_,ho2,rfl⟩ noFill_tuple_add seq_tuple_add PySem.F.slot_tuple_add PySem.F.entry_tuple_add (PySem.F.args_tuple_add_2 _ _)
   (tuple_addW2 t b vs.toArray ws.toArray n n2 dd dd2 sl sl2 (by simpa using hv) (by simpa using hw) (by rw[List.size_toArray,List.size_toArray];exact hsz)) ⟨ho,ho2,?_⟩
  rw[e];exact h2 hw
noncomputable def sIx(n d:Nat):Option Int->Nat
 |none=>d
 |some v=>if v < 0 then (v+(n:Int)).toNat else min v.toNat n
theorem Ca(n d k:Nat):sIx n d (some (k:Int))=min k n:=by show (if (k:Int) < 0 then ((k:Int)+(n:Int)).toNat else min (k:Int).toNat n)=min k n;rw[if_neg (by omega),Int.toNat_natCast]
theorem Cd(n d:Nat)(hd:d<=n)(o:Option Int):sIx n d o<=n:=by
 cases o with
 |none=>exact hd
 |some v=>
  show (if v < 0 then (v+(n:Int)).toNat else min v.toNat n)<=n;by_cases hv:v < 0
  ·rw[if_pos hv];omega
  ·rw[if_neg hv];exact Nat.min_le_right _ _
theorem Ce(v:Int)(n d:Nat):(if v < 0 then max (v+(n:Int)) 0 else min v (n:Int))=((sIx n d (some v):Nat):Int):=by
 show (if v < 0 then max (v+(n:Int)) 0 else min v (n:Int))=(((if v < 0 then (v+(n:Int)).toNat else min v.toNat n):Nat):Int);by_cases hv:v < 0
 ·simp only[if_pos hv];omega
 ·simp only[if_neg hv];omega
theorem WT(lo hi:Option Int)(n:Nat):Builtin.Slice.sliceAdjust lo hi 1 (n:Int)=(((sIx n 0 lo:Nat):Int),((sIx n n hi:Nat):Int)):=by
 have h1:¬((1:Int) < 0):=by omega
 unfold Builtin.Slice.sliceAdjust;simp only[h1,if_false];refine Prod.ext ?_ ?_
 ·cases lo with
  |none=>rfl
  |some v=>exact Ce v n 0
 ·cases hi with
  |none=>rfl
  |some v=>exact Ce v n n
theorem WW(i j:Nat):Builtin.Slice.slicePlaces (i:Int) (j:Int) 1=j - i:=by
 unfold Builtin.Slice.slicePlaces;have h1:(1:Int) > 0:=by omega
 simp only[h1,if_true,Int.ediv_one];split <;> omega
theorem Cg{v:Value}{o:Option Int}{Q:Option Int->Shared->Prop}(p:IsPart v o)(h:Q o s):wpAny (model prog w) A (Builtin.Slice.slicePartIndex v) Q E s:=by
 cases p with
 |none=>exact slicePart_none h
 |int i t=>exact slicePart_int h
theorem Ci{sl:Addr}{vl vu:Value}{lo hi:Option Int}{n:Nat}{Q:Int×Int×Nat->Shared->Prop}(hs:s.heap.IsSliceOf sl vl vu .none)(pl:IsPart vl lo)(pu:IsPart vu hi)
  (h:Q (((sIx n 0 lo:Nat):Int),1,sIx n n hi - sIx n 0 lo) s):wpAny (model prog w) A (Builtin.Slice.sliceApplied (.ref sl) (pure (n:Int))) Q E s:=by
 obtain ⟨os,hos,hcs,hds⟩:=id hs;unfold Builtin.Slice.sliceApplied Builtin.Slice.sliceFields;refine wpAny_bind (wpAny_bind (wpAny_field hos hds (x:=vl) rfl (wpAny_bind (wpAny_field hos hds (x:=vu) rfl (wpAny_bind (wpAny_field hos hds (x:=.none) rfl (wpAny_pure ?_)))))));refine wpAny_bind (slicePart_none ?_);show wpAny _ _ (if ((1:Int)==0)=true then _ else _) _ _ s;rw[if_neg (by decide)];refine wpAny_bind (Cg pl (wpAny_bind (Cg pu (wpAny_bind (wpAny_pure ?_)))));show wpAny _ _ (match Builtin.Slice.sliceAdjust lo hi 1 (n:Int) with | (lo,hi)=>pure (lo,(1:Int),Builtin.Slice.slicePlaces lo hi 1)) _ _ s;rw[WT lo hi n];show wpAny _ _ (pure (((sIx n 0 lo:Nat):Int),(1:Int),Builtin.Slice.slicePlaces ((sIx n 0 lo:Nat):Int) ((sIx n n hi:Nat):Int) 1)) _ _ s;rw[WW];exact wpAny_pure h
theorem WX(xs:Array Value)(i k:Nat):((List.range k).filterMap λ(m:Nat)=>xs[((i:Int)+(m:Int) * 1).toNat]?).toArray=((xs.toList.drop i).take k).toArray:=by
 have e:(λ(m:Nat)=>xs[((i:Int)+(m:Int) * 1).toNat]?)=λm=>xs[i+m]?:=by
  funext m;have:((i:Int)+(m:Int) * 1).toNat=i+m:=by omega
  rw[this]
 rw[e];have:=pick_run xs i k;rw[List.filterMap_map]at this;have e2:((λx=>xs[x]?)∘λx=>i+x)=λm=>xs[i+m]?:=rfl;rw[e2]at this;rw[this]
theorem WY{t sl:Addr}{items:Array Value}{vl vu:Value}{lo hi:Option Int}{Q:Value->Shared->Prop}(ht:IsTup s.heap t items)(hs:s.heap.IsSliceOf sl vl vu .none)(pl:IsPart vl lo)(pu:IsPart vu hi)
  (hw:¬(sIx items.size 0 lo=0/\sIx items.size items.size hi=items.size))
  (h:Q (.ref s.heap.objs.size) { s with heap:=s.heap.push { cls:=.type "tuple",data:=.seq ((items.toList.drop (sIx items.size 0 lo)).take (sIx items.size items.size hi - sIx items.size 0 lo)).toArray } })
  (hsz:items.size<=sizeLine):wpAny (model prog w) A (getItem (.ref t) (.ref sl)) Q E s:=by
 have htake:sizeOk (.seq ((items.toList.drop (sIx items.size 0 lo)).take (sIx items.size items.size hi - sIx items.size 0 lo)).toArray):=by show ((items.toList.drop (sIx items.size 0 lo)).take (sIx items.size items.size hi - sIx items.size 0 lo)).toArray.size<=sizeLine;rw[List.size_toArray,List.length_take,List.length_drop,Array.length_toList];omega
 have hj:sIx items.size items.size hi<=items.size:=Cd _ _ (Nat.le_refl _) hi;obtain ⟨os,hos,hcs,hds⟩:=id hs;have hTs:s.TypeIs (.ref sl) "slice":=⟨os,hos,hcs⟩;unfold getItem;try with_reducible refine wpAny_holding ?_
 first |refine wpAny_bind (wpAny_pure ?_) |skip
 refine wpAny_bind (wpAny_sequenceKey ht.typeIs (by decide) ?_);refine wpAny_bind (wpAny_callSpecial?_slot (name:=Str.ofString "__getitem__") ht.typeIs PyProof.Rows.slot_tuple_getitem
  (wpAny_call_entry PyProof.Rows.slot_tuple_getitem ht.typeIs entry_tuple_getitem ?_ (args_tuple_getitem _ _)))
 show wpAny _ _ (Builtin.Tuple.tupleItemsOf (.ref t) >>= _) _ _ s;refine wpAny_bind (tupleItemsOf_ ht ?_);refine wpAny_bind (wpAny_typeOf hTs ?_);rw[if_pos (by decide)];refine wpAny_bind (Ci hs pl pu ?_);have hno:¬((((sIx items.size 0 lo:Nat):Int)==0&&(1:Int)==1&&(sIx items.size items.size hi - sIx items.size 0 lo)==items.size)=true):=by intro q;rw[Bool.and_eq_true,Bool.and_eq_true]at q;have q1:((sIx items.size 0 lo:Nat):Int)=0:=eq_of_beq q.1.1;have q2:sIx items.size items.size hi - sIx items.size 0 lo=items.size:=eq_of_beq q.2;exact hw ⟨by omega,by omega⟩
 show wpAny _ _ (if (((sIx items.size 0 lo:Nat):Int)==0&&(1:Int)==1&&(sIx items.size items.size hi - sIx items.size 0 lo)==items.size)=true then _ else _) _ _ s;rw[if_neg hno,WX];first
  |exact wpAny_bind (m:=Builtin.Tuple.tupleExact _) (wpAny_newObj_type (wpAny_pure ⟨_,rfl,wpAny_pure h⟩) htake)
  |exact wpAny_bind (m:=Builtin.Tuple.tupleExact _) (wpAny_newObj_type (wpAny_bind (wpAny_pure (wpAny_pure ⟨_,rfl,wpAny_pure h⟩))) htake)
  |exact wpAny_bind (wpAny_bind (m:=Builtin.Tuple.tupleExact _) (wpAny_newObj_type (wpAny_pure (wpAny_pure ⟨_,rfl,wpAny_pure h⟩)) htake))
  |exact wpAny_bind (wpAny_bind (m:=Builtin.Tuple.tupleExact _) (wpAny_newObj_type (wpAny_pure ⟨_,rfl,wpAny_pure h⟩) htake))
end
end HT
namespace L2
open PySem PySem.Spec PyProof.Rows
abbrev TO:=St->Hp->(Option Int->Hp->Prop)->Prop
def PO(X:Cx)(e:Option Expr)(t:TO):Prop:=
 ∀(pins:List (Addr×Obj))(s:Shared)(σ:St)(H:Hp)(Q:Option Int->Hp->Prop),Inv X pins σ H s->t σ H Q->
  wpAny (model X.prog X.w) X.A (evalPart e X.env) (λu s'=>∃o H',Inv X pins σ H' s'/\IsPart u o/\Q o H') X.xe s
def W0:TO:=λ_ H Q=>Q none H
def W2(t:TE):TO:=λσ H Q=>t σ H λx H1=>∃i,x=.int i/\Q (some i) H1
theorem intsAre_of{ns:List Int}:∀{us:List Value},Vals (ns.map V.int) us->IntsAre us ns:=by
 induction ns with
 |nil=>intro us r;rw[eL]at r;cases r;exact .nil
 |cons n ns ih=>
  intro us r;rw[bP]at r;cases r with
  |cons r1 r2=>
   obtain ⟨t,e⟩:=r1;subst e;exact .cons n t (ih r2)
section
variable {X:Cx} {e:Expr} {te:TE} {lo hi:Option Expr} {tl th:TO} {pos p2:Pos}
theorem W3:PO X none W0:=by intro pins s σ H Q I h;rw[evalPart_none];exact a7 ⟨none,H,I,.none,h⟩
theorem W4(h:PE X e te):PO X (some e) (W2 te):=by intro pins s σ H Q I hw;rw[evalPart_some];refine thn (h pins s σ H _ I hw) λu s1 ⟨x,H1,I1,r1,q1⟩=>?_;obtain ⟨i,rfl,q⟩:=q1;obtain ⟨t,rfl⟩:=r1;exact ⟨some i,H1,I1,.int i t,q⟩
def SlR(X:Cx)(r:V->Option Int->Option Int->Hp->VK->Prop):Prop:=
 ∀(pins:List (Addr×Obj))(s:Shared)(σ:St)(H:Hp)(x:V)(v vl vu:Value)(lo hi:Option Int)(sl:Addr)(Q:VK),Inv X pins σ H s->RelV x v->s.heap.IsSliceOf sl vl vu .none->IsPart vl lo->IsPart vu hi->r x lo hi H Q->
  ∃T id,typeLookup (.type T) "__getitem__"=pure (some (.builtin id))/\s.TypeIs v T/\wpAny (model X.prog X.w) X.A (getItem v (.ref sl)) (EP X pins σ Q) X.xe s
def tSl(r:V->Option Int->Option Int->Hp->VK->Prop)(te:TE)(tl th:TO):TE:=λσ H Q=>te σ H λx H1=>tl σ H1 λl H2=>th σ H2 λu H3=>r x l u H3 Q
theorem W5{r:V->Option Int->Option Int->Hp->VK->Prop}(hr:SlR X r)(he:PE X e te)(hl:PO X lo tl)(hu:PO X hi th):PE X (.Subscript e (.Slice lo hi none p2) pos) (tSl r te tl th):=by intro pins s σ H Q I h;refine Subscript_ (thn (he pins s σ H _ I h) λv s1 ⟨x,H1,I1,r1,q1⟩=>?_);refine wpAny_Slice (thn (hl pins s1 σ H1 _ I1 q1) λvl s2 ⟨l,H2,I2,pl,q2⟩=>thn (hu pins s2 σ H2 _ I2 q2) λvu s3 ⟨u,H3,I3,pu,q3⟩=>?_);rw[evalPart_none];refine a7 ?_;have I4:Inv X pins σ H3 { s3 with heap:=s3.heap.push { cls:=.type "slice",data:=.fields #[vl,vu,.none] } }:=I3.kept (t':=s3.toks) λb ob q=>ah _ q;obtain ⟨T,id,hT,ht,hg⟩:=hr pins { s3 with heap:=s3.heap.push { cls:=.type "slice",data:=.fields #[vl,vu,.none] } } σ H3 x v vl vu l u s3.heap.objs.size Q I4 r1 (Heap.IsSliceOf.new ..) pl pu q3;show wpAny (model X.prog X.w) X.A (subscriptTail e (.Slice lo hi none p2) v (.ref s3.heap.objs.size)) (EP X pins σ Q) X.xe { s3 with heap:=s3.heap.push { cls:=.type "slice",data:=.fields #[vl,vu,.none] } };exact tail_any (ops:=[.ref s3.heap.objs.size,v]) ht hT hg (by with_unfolding_all rfl)
noncomputable def dI(xs:List V)(lo hi:Option Int):List V:=(xs.drop (HT.sIx xs.length 0 lo)).take (HT.sIx xs.length xs.length hi - HT.sIx xs.length 0 lo)
theorem Cj(xs:List V)(lo hi:Option Int):(dI xs lo hi).length<=xs.length:=by unfold dI;rw[ci,ce];omega
noncomputable def W6(K:PF):V->Option Int->Option Int->Hp->VK->Prop:=λx lo hi H Q=>∃a xs,x=.ref a/\SqT K H a xs/\
 ¬(HT.sIx xs.length 0 lo=0/\HT.sIx xs.length xs.length hi=xs.length)/\∀p,H p=none->Q (.ref p) (upd H p (.tup (dI xs lo hi)))
theorem W7:SlR X (W6 X.K):=by
 intro pins s σ H x v vl vu lo hi sl Q I rx hs pl pu h;obtain ⟨a,xs,rfl,hx,hw,q⟩:=h;cases rx;obtain ⟨its,r,ht,hz⟩:=I.tuple hx;have hlen:its.toArray.size=xs.length:=by rw[am];exact r.length.symm
 refine ⟨"tuple",_,eS.lookup,ht.typeIs,?_⟩;refine HT.WY ht hs pl pu (by rw[hlen];exact hw) ?_ (by rw[hlen];exact hz);rw[hlen];refine ⟨.ref s.heap.objs.size,_,I.laid (t':=s.toks) (o:=.tup (dI xs lo hi)) (λb ob q=>ah _ q) (aE _) ?_,rfl,q _ (I.hok.fresh (aE _))⟩;exact ⟨cw (Cj xs lo hi) hz,_,(r.drop (HT.sIx xs.length 0 lo)).take (HT.sIx xs.length xs.length hi - HT.sIx xs.length 0 lo),IsTup.new _ _⟩
def W8(K:PF):R2:=λx y H Q=>∃a b xs ys,x=.ref a/\y=.ref b/\SqT K H a xs/\SqT K H b ys/\xs≠[]/\xs.length+ys.length<=sizeLine/\
 (ys=[]->Q (.ref a) H)/\(ys≠[]->∀p,H p=none->Q (.ref p) (upd H p (.tup (xs++ys))))
theorem Vals.nil_iff{xs:List V}{us:List Value}(r:Vals xs us):us=[]↔xs=[]:=by
 cases r with
 |nil=>simp
 |cons _ _=>simp
theorem W9:OpR X (binaryOp .Add) (W8 X.K):=by intro pins s σ H x y v u Q I rx ry h;obtain ⟨a,b,xs,ys,rfl,rfl,ha,hb,hx,hz,q1,q2⟩:=h;cases rx;cases ry;obtain ⟨its,r1,p1,_⟩:=I.tuple ha;obtain ⟨its2,r2,p2,_⟩:=I.tuple hb;refine HT.WR p1 p2 (λz=>hx (r1.nil_iff.mp z)) (λz=>⟨.ref a,H,I,rfl,q1 (r2.nil_iff.mp z)⟩) (λz=>?_) (by rw[<-r1.length,<-r2.length];exact hz);refine ⟨.ref s.heap.objs.size,_,I.laid (t':=s.toks) (o:=.tup (xs++ys)) (λb ob q=>ah _ q) (aE _) ?_,rfl,q2 (λw=>z (r2.nil_iff.mpr w)) _ (I.hok.fresh (aE _))⟩;exact ⟨by rw[ax];exact hz,_,r1.append r2,IsTup.new _ _⟩
end
noncomputable def ixN(n:Nat)(i:Int):Option Nat:=if 0<=i then (if i < n then some i.toNat else none) else if -(n:Int)<=i then some (i+n).toNat else none
def atI{α:Type}(xs:List α)(i:Int):Option α:=(ixN xs.length i).bind λj=>xs[j]?
theorem Ck{n:Nat}{i:Int}{j:Nat}(h:ixN n i=some j):seqIndex? i n=some j/\j < n/\-(n:Int)<=i/\i < n:=by
 unfold ixN at h;by_cases h0:0<=i
 ·rw[if_pos h0]at h;by_cases h1:i < n
  ·rw[if_pos h1]at h;have e:i.toNat=j:=dv h;exact ⟨by rw[seqIndex_of h0 h1,e],by omega,by omega,h1⟩
  ·rw[if_neg h1]at h;cases h
 ·rw[if_neg h0]at h;by_cases h1:-(n:Int)<=i
  ·rw[if_pos h1]at h;have e:(i+n).toNat=j:=dv h;exact ⟨by rw[seqIndex_neg (by omega) h1,e],by omega,h1,by omega⟩
  ·rw[if_neg h1]at h;cases h
theorem vU{α:Type}{xs:List α}{i:Int}{v:α}(h:atI xs i=some v):∃j,seqIndex? i xs.length=some j/\xs[j]?=some v/\j < xs.length/\-(xs.length:Int)<=i/\i < xs.length:=by
 unfold atI at h;cases e:ixN xs.length i with
 |none=>rw[e]at h;cases h
 |some j=>
  rw[e]at h;obtain ⟨h1,h2,h3,h4⟩:=Ck e;exact ⟨j,h1,h,h2,h3,h4⟩
theorem cB{α:Type}{xs:List α}{j:Nat}{v:α}(h:xs[j]?=some v):atI xs (j:Int)=some v:=by
 have hj:j < xs.length:=(aw.mp h).1;have e:ixN xs.length (j:Int)=some j:=by unfold ixN;rw[if_pos (by omega),if_pos (by omega)];simp
 unfold atI;rw[e];exact h
theorem vV{α:Type}(xs:List α)(v:α):atI (xs++[v]) (-1)=some v:=by
 have hl:(xs++[v]).length=xs.length+1:=by simp
 have e:ixN (xs++[v]).length (-1)=some xs.length:=by unfold ixN;rw[hl,if_neg (by decide),if_pos (by omega)];congr 1;omega
 unfold atI;rw[e];show (xs++[v])[xs.length]?=some v;simp
def Cm(b:Expr):Prop:=∀o i,subscripted b false o i=operate [o,i] (getItem o i)
def IxR(X:Cx)(r:R2):Prop:=
 ∀(value slice:Expr)(pins:List (Addr×Obj))(s:Shared)(σ:St)(H:Hp)(x y:V)(v u:Value)(Q:VK),Inv X pins σ H s->RelV x v->RelV y u->r x y H Q->
  subscripted slice false v u=operate [v,u] (getItem v u)->wpAny (model X.prog X.w) X.A (subscriptTail value slice v u) (EP X pins σ Q) X.xe s
def MtR(X:Cx)(id:String)(r:V->List V->Hp->VK->Prop):Prop:=
 ∀(pins:List (Addr×Obj))(s:Shared)(σ:St)(H:Hp)(x:V)(xs:List V)(v:Value)(us:List Value)(Q:VK),Inv X pins σ H s->RelV x v->Vals xs us->r x xs H Q->
  wpAny (model X.prog X.w) X.A (call (.builtin id) (v::us)) (EP X pins σ Q) X.xe s
section
variable {X:Cx} {a b:Expr} {ta tb:TE} {pos:Pos}
theorem Xa{r:R2}(hr:IxR X r)(ha:PE X a ta)(hb:PE X b tb)(hs:Cm b):PE X (.Subscript a b pos) (tOp r ta tb):=by intro pins s σ H Q I h;exact Subscript_ (vO ha hb I h λv u s2 x y H2 I2 rx ry q=>hr a b pins s2 σ H2 x y v u Q I2 rx ry q (hs _ _))
def Xb(K:PF):R2:=λx y H Q=>∃p xs i v,x=.ref p/\y=.int i/\SqL K H p xs/\atI xs i=some v/\Q v H
def Xc(K:PF):R2:=λx y H Q=>∃p xs i v,x=.ref p/\y=.int i/\SqT K H p xs/\atI xs i=some v/\Q v H
def Xd:R2:=λx y H Q=>∃z i c,x=.str z/\y=.int i/\z.length<=sizeLine/\atI z.cps.toList i=some c/\Q (.str ⟨#[c]⟩) H
theorem Xe:IxR X (Xb X.K):=by
 intro value slice pins s σ H x y v u Q I rx ry h hs;obtain ⟨p,xs,i,z,rfl,rfl,hq,he,q⟩:=h;cases rx;obtain ⟨t,rfl⟩:=ry;obtain ⟨its,r,pl,hz⟩:=I.list hq;obtain ⟨j,h1,h2,h3,h4,h5⟩:=vU he;obtain ⟨w,ew,rw'⟩:=r.get h2;have hl:=r.length;have hn:=ir;have fin:EP X pins σ Q w s:=⟨z,H,I,rw',q⟩;by_cases h0:0<=i
 ·have hj:i.toNat=j:=by
   rw[seqIndex_of h0 h5]at h1;exact dv h1
  exact item_listR pl.isList h0 (by omega) (by rw[hj];simpa using ew) fin hs
 ·have hj:(i+(its.toArray.size:Int)).toNat=j:=by
   rw[seqIndex_neg (by omega) h4]at h1;rw[am,<-hl];exact dv h1
  exact subscriptTail_builtinR (x:=w) pl.isList.typeIs slot_list_getitem.lookup
   (wpAny_getItem_list_neg (Q:=λr s'=>r=w/\EP X pins σ Q r s') pl.isList (by omega) (by rw[am] <;> omega) (by omega) (by rw[hj];simpa using ew) ⟨rfl,fin⟩) hs
theorem Xf:IxR X (Xc X.K):=by
 intro value slice pins s σ H x y v u Q I rx ry h hs;obtain ⟨p,xs,i,z,rfl,rfl,hq,he,q⟩:=h;cases rx;obtain ⟨t,rfl⟩:=ry;obtain ⟨its,r,pl,hz⟩:=I.tuple hq;obtain ⟨j,h1,h2,h3,h4,h5⟩:=vU he;obtain ⟨w,ew,rw'⟩:=r.get h2;have hl:=r.length;have hn:=ir;have fin:EP X pins σ Q w s:=⟨z,H,I,rw',q⟩;exact subscriptTail_builtinR (x:=w) pl.typeIs slot_tuple_getitem.lookup
  (getItem_tuple (j:=j) (Q:=λr s'=>r=w/\EP X pins σ Q r s') pl (by omega) (by omega) (by rw[am,<-hl];exact h1) (by simpa using ew) ⟨rfl,fin⟩) hs
theorem Xg:IxR X Xd:=by
 intro value slice pins s σ H x y v u Q I rx ry h hs;obtain ⟨z,i,c,rfl,rfl,hz,he,q⟩:=h;obtain ⟨t,rfl⟩:=rx;obtain ⟨t',rfl⟩:=ry;obtain ⟨j,h1,h2,h3,h4,h5⟩:=vU he;have hl:z.cps.toList.length=z.length:=by simp[Str.length]
 rw[hl]at h1 h4 h5;have hn:=ir;exact tail_any (typeIs_str s z t) slot_str_getitem.lookup (getItem_str (c:=c) (by
  have e1:decide (i < -(2 ^ 63:Int))=false:=br (by omega);have e2:decide (i≥2 ^ 63)=false:=br (by omega);rw[e1,e2,Bool.or_false]) (by rw[h1];simpa using h2) ⟨.str ⟨#[c]⟩,H,I.tok _,⟨_,rfl⟩,q⟩) hs
theorem Xh (its:List Value) (n j:Nat) (u:Value):Obj.mapSeq (·.setIfInBounds j u) { cls:=.type "list",data:=.seq its.toArray n }={ cls:=.type "list",data:=.seq (its.set j u).toArray n }:=by simp[Obj.mapSeq]
theorem Inv.lst{pins:List (Addr×Obj)}{σ:St}{H:Hp}{s:Shared}{p:Addr}{xs:List V}(I:Inv X pins σ H s)(h:H p=some (.lst xs)):
  ∃(its:List Value) (n:Nat),Vals xs its/\s.heap.get? p=some { cls:=.type "list",data:=.seq its.toArray n }/\xs.length<=sizeLine:=by
 obtain ⟨z,its,n,r,e⟩:=I.hok p _ h;exact ⟨its,n,r,e,z⟩
theorem Inv.lstUpd{pins:List (Addr×Obj)}{σ:St}{H:Hp}{s:Shared}{p:Addr}{xs ys:List V}{its its':List Value}{n n':Nat}{f:Obj->Obj}(I:Inv X pins σ H s)(h:H p=some (.lst xs))
  (ho:s.heap.get? p=some { cls:=.type "list",data:=.seq its.toArray n }) (hf:f { cls:=.type "list",data:=.seq its.toArray n }={ cls:=.type "list",data:=.seq its'.toArray n' }) (r:Vals ys its') (hz:ys.length<=sizeLine) (t:Nat):
  Inv X pins σ (upd H p (.lst ys)) { s with heap:=s.heap.update p f,toks:=t }:=by
 have e:(s.heap.update p f).get? p=some { cls:=.type "list",data:=.seq its'.toArray n' }:=by rw[Heap.get?_update_self f ho (by rw[hf] <;> rfl),hf]
 refine I.write (x:=p) (e:=p) (by rw[h];trivial) (.inl rfl) (λb u hb q=>(Heap.get?_update_other _ _ (Ne.symm hb)).trans q) ⟨_,e⟩ ?_;exact ⟨hz,its',n',r,e⟩
def Xi:V->V->V->Hp->(Hp->Prop)->Prop:=λo i v H Q=>∃p xs k j,o=.ref p/\i=.int k/\H p=some (.lst xs)/\ixN xs.length k=some j/\Q (upd H p (.lst (xs.set j v)))
theorem set_list:vN X Xi:=by
 intro pins s σ H o i v ov iv u Q I ro ri rv h;obtain ⟨p,xs,k,j,rfl,rfl,hp,hj,q⟩:=h;cases ro;obtain ⟨t,rfl⟩:=ri;obtain ⟨its,n,r,ho,hz⟩:=I.lst hp;obtain ⟨h1,h2,h3,h4⟩:=Ck hj;have hl:=r.length;have hn:=ir;have I':Inv X pins σ (upd H p (.lst (xs.set j v))) { s with heap:=s.heap.update p (Obj.mapSeq (·.setIfInBounds j u)) }:=
  I.lstUpd hp ho (Xh its n j u) (r.set rv j) (by rw[d6];exact hz) s.toks
 by_cases h0:0<=k
 ·have hk:k.toNat=j:=by
   rw[seqIndex_of h0 h4]at h1;exact dv h1
  exact PySem.W.ki_setAt ho h0 (by omega) (by rw[am,<-hl];exact h4) (by rw[hk];exact ⟨_,I',q⟩)
 ·have hk:(k+(its.toArray.size:Int)).toNat=j:=by
   rw[seqIndex_neg (by omega) h3]at h1;rw[am,<-hl];exact dv h1
  exact PySem.W.ki_setBack ho (by omega) (by rw[am,<-hl];exact h3) (by omega) (by rw[hk];exact ⟨_,I',q⟩)
theorem Cp(lo hi:Option Int)(n:Nat):(sliceBounds lo hi none n).1=((HT.sIx n 0 lo:Nat):Int)/\(sliceBounds lo hi none n).2.1=((HT.sIx n n hi:Nat):Int)/\(sliceBounds lo hi none n).2.2=1:=by
 refine ⟨?_,?_,rfl⟩
 ·cases lo with
  |none=>simp[sliceBounds,HT.sIx]
  |some i=>
   simp only[sliceBounds,HT.sIx,Option.getD_none,show (1:Int) > 0 by decide,if_true];by_cases h:i < 0
   ·simp only[h,if_true] <;> omega
   ·simp only[h,if_false] <;> omega
 ·cases hi with
  |none=>simp[sliceBounds,HT.sIx]
  |some i=>
   simp only[sliceBounds,HT.sIx,Option.getD_none,show (1:Int) > 0 by decide,if_true];by_cases h:i < 0
   ·simp only[h,if_true] <;> omega
   ·simp only[h,if_false] <;> omega
theorem Xj(its:List Value)(lo hi:Option Int):slicePick its.toArray lo hi none=((its.drop (HT.sIx its.length 0 lo)).take (HT.sIx its.length its.length hi - HT.sIx its.length 0 lo)).toArray:=by obtain ⟨h1,h2,h3⟩:=Cp lo hi its.toArray.size;unfold slicePick;rw[h1,h2,h3];simp only[sliceRange_one,pick_run,am] <;> rfl
noncomputable def Xk(K:PF):V->Option Int->Option Int->Hp->VK->Prop:=λx lo hi H Q=>∃a xs,x=.ref a/\SqL K H a xs/\∀p,H p=none->Q (.ref p) (upd H p (.lst (dI xs lo hi)))
theorem Cq:SlR X (Xk X.K):=by intro pins s σ H x v vl vu lo hi sl Q I rx hs pl pu h;obtain ⟨a,xs,rfl,hx,q⟩:=h;cases rx;obtain ⟨its,r,ht,hz⟩:=I.list hx;have hlen:=r.length;refine ⟨"list",_,slot_list_getitem.lookup,ht.isList.typeIs,?_⟩;refine wpAny_getItem_list_slice ht.isList hs pl pu .none (by simp) ?_ (by rw[am] <;> omega);rw[Xj,<-hlen];refine ⟨.ref s.heap.objs.size,_,I.laid (t':=s.toks) (o:=.lst (dI xs lo hi)) (λb ob q=>ah _ q) (aE _) ?_,rfl,q _ (I.hok.fresh (aE _))⟩;exact ⟨cw (Cj xs lo hi) hz,_,0,(r.drop (HT.sIx xs.length 0 lo)).take (HT.sIx xs.length xs.length hi - HT.sIx xs.length 0 lo),bb _ rfl⟩
theorem Cr:bB X (.builtin "len") (λxs H Q=>∃p ys,xs=[.ref p]/\(SqL X.K H p ys\/SqT X.K H p ys)/\Q (.int ys.length) H):=by
 intro pins s σ H xs us Q I r h;obtain ⟨p,ys,rfl,hq,q⟩:=h;obtain ⟨u,rfl,rx⟩:=vals1 r;cases rx;have hn:=ir;rcases hq with hq |hq
 ·obtain ⟨its,r',pl,hz⟩:=I.list hq;have hlen:=r'.length;exact Calls.call_len_list pl.isList (by simp only[am] <;> omega) ⟨.int ys.length,H,I.tok _,⟨s.toks+1,by rw[am,hlen]⟩,q⟩
 ·obtain ⟨its,r',pl,hz⟩:=I.tuple hq;have hlen:=r'.length;exact len_tuple pl (by simp only[am] <;> omega) ⟨.int ys.length,H,I.tok _,⟨s.toks+1,by rw[am,hlen]⟩,q⟩
theorem Xl:bB X (.builtin "len") (λxs H Q=>∃z,xs=[.str z]/\z.length<=sizeLine/\Q (.int z.length) H):=by intro pins s σ H xs us Q I r h;obtain ⟨z,rfl,hz,q⟩:=h;obtain ⟨u,rfl,t,rfl⟩:=vals1 r;have hn:=ir;exact len_str (by omega) ⟨.int z.length,H,I.tok _,⟨_,rfl⟩,q⟩
theorem Cu:bB X (.type "list") (λxs H Q=>∃p ys,xs=[.ref p]/\(SqL X.K H p ys\/SqT X.K H p ys)/\∀l,H l=none->Q (.ref l) (upd H l (.lst ys))):=by
 intro pins s σ H xs us Q I r h;obtain ⟨p,ys,rfl,hq,q⟩:=h;obtain ⟨u,rfl,rx⟩:=vals1 r;cases rx;have fin:∀(its:List Value),Vals ys its->ys.length<=sizeLine->∀(h':Heap)(c':Nat),(∀b o',s.heap.get? b=some o'->h'.get? b=some o')->
   h'.get? s.heap.objs.size=some { cls:=.type "list",dict:=none,data:=.seq its.toArray c',slots:=#[] }->EP X pins σ Q (.ref s.heap.objs.size) { s with heap:=h' }:=λits r' hz h' c' kp e=>
  ⟨.ref s.heap.objs.size,_,I.laid (t':=s.toks) kp (aE _) (show ObjOk X.prog X.w _ h' _ (.lst ys) from ⟨hz,its,c',r',e⟩),rfl,q _ (I.hok.fresh (aE _))⟩
 rcases hq with hq |hq
 ·obtain ⟨its,r',pl,hz⟩:=I.list hq;have hlen:=r'.length;obtain ⟨o,ho,hc,n,hd⟩:=pl.isList;exact call_list_seq p (.inl rfl) ho hc hd (λh' c' kp e=>fin its r' hz h' c' kp e) (by simp only[am] <;> omega)
 ·obtain ⟨its,r',pl,hz⟩:=I.tuple hq;have hlen:=r'.length;obtain ⟨o,ho,hc,n,hd⟩:=pl;exact call_list_seq p (.inr rfl) ho hc hd (λh' c' kp e=>fin its r' hz h' c' kp e) (by simp only[am] <;> omega)
theorem Cv:bB X (.type "tuple") (λxs H Q=>∃p ys,xs=[.ref p]/\((SqL X.K H p ys/\∀l,H l=none->Q (.ref l) (upd H l (.tup ys)))\/(SqT X.K H p ys/\Q (.ref p) H))):=by
 intro pins s σ H xs us Q I r h;obtain ⟨p,ys,rfl,h⟩:=h;obtain ⟨u,rfl,rx⟩:=vals1 r;cases rx;rcases h with ⟨hq,q⟩ |⟨hq,q⟩
 ·obtain ⟨its,r',pl,hz⟩:=I.list hq;have hlen:=r'.length;refine call_tuple_list pl.isList (λh' kp=>?_) (by simp only[am] <;> omega);have I1:Inv X pins σ H { s with heap:=h' }:=I.kept (t':=s.toks) kp;have I2:Inv X pins σ (upd H h'.objs.size (.tup ys)) { s with heap:=h'.push { cls:=.type "tuple",data:=.seq its.toArray } }:=
   I1.laid (t':=s.toks) (λb o e=>ah _ e) (aE _) (show ObjOk X.prog X.w _ _ _ (.tup ys) from ⟨hz,its,r',IsTup.new _ _⟩)
  exact ⟨.ref h'.objs.size,_,I2,rfl,q _ (I1.hok.fresh (aE _))⟩
 ·obtain ⟨its,r',pl,hz⟩:=I.tuple hq;exact call_tuple_same pl ⟨.ref p,H,I,rfl,q⟩
def tyV(K:PF)(T:String)(x:V)(H:Hp):Prop:=match x with
 |.str _=>T="str"
 |.int _=>T="int"
 |.ref p=>(T="list"/\∃xs,SqL K H p xs)\/(T="tuple"/\∃o,K.lookup p=some o/\o.cls=.type "tuple"/\o.dict=none)\/
   (T="dict"/\((∃kvs,H p=some (.dK kvs))\/∃kvs,H p=some (.dT kvs)))\/(T="set"/\∃S n,H p=some (.set S n))
 |_=>False
theorem Cw{pins:List (Addr×Obj)}{σ:St}{H:Hp}{s:Shared}{T:String}{x:V}{v:Value}(I:Inv X pins σ H s)(r:RelV x v)(ty:tyV X.K T x H):
  s.TypeIs v T/\∀a,v=.ref a->∃ob,s.heap.get? a=some ob/\ob.dict=none:=by
 cases x with
 |str z=>
  obtain ⟨t,rfl⟩:=r;cases (show T="str" from ty);exact ⟨typeIs_str s z t,λ_ e=>nomatch e⟩
 |int i=>
  obtain ⟨t,rfl⟩:=r;cases (show T="int" from ty);exact ⟨typeIs_int s i t,λ_ e=>nomatch e⟩
 |ref p=>
  cases r;rcases ty with ⟨rfl,xs,hq⟩ |⟨rfl,o,hk,hc,hd⟩ |⟨rfl,hk⟩ |⟨rfl,S,n,hk⟩
  ·obtain ⟨its,_,pl,_⟩:=I.list hq;refine ⟨pl.isList.typeIs,λa e=>?_⟩;cases e;obtain ⟨o,n,e,c,hd,_⟩:=pl;exact ⟨o,e,hd⟩
  ·refine ⟨⟨o,I.kIn p o hk,hc⟩,λa e=>?_⟩;cases e;exact ⟨o,I.kIn _ o hk,hd⟩
  ·have z:∃o,s.heap.get? p=some o/\o.ExactDict:=by
    rcases hk with ⟨kvs,hk⟩ |⟨kvs,hk⟩
    ·obtain ⟨_,_,_,_,o,_,_,e,ex,_⟩:=I.hok p _ hk;exact ⟨o,e,ex⟩
    ·obtain ⟨_,_,_,_,o,_,_,e,ex,_⟩:=I.hok p _ hk;exact ⟨o,e,ex⟩
   obtain ⟨o,e,ex⟩:=z;refine ⟨⟨o,e,ex.1⟩,λa e2=>?_⟩;cases e2;exact ⟨o,e,ex.2.1⟩
  ·obtain ⟨o,_,_,_,e,ex,_⟩:=I.hok p _ hk;refine ⟨⟨o,e,ex.1⟩,λa e2=>?_⟩;cases e2;exact ⟨o,e,ex.2.1⟩
 |_=>exact False.elim ty
def Xm(K:PF)(T:String)(r:V->List V->Hp->VK->Prop)(to:TE):TE:=λσ H Q=>to σ H λx H1=>tyV K T x H1/\r x [] H1 Q
def tBM(K:PF)(T:String)(r:V->List V->Hp->VK->Prop)(to:TE)(t:TA):TE:=λσ H Q=>to σ H λx H1=>tyV K T x H1/\t σ H1 λxs H2=>r x xs H2 Q
variable {o e:Expr} {es:List Expr} {to:TE} {t:TA} {name:Str} {apos cpos:Pos} {T id:String} {r:V->List V->Hp->VK->Prop}
theorem Xo (pa:PlainAttrs T) (slot:Slot T name id) (hty:typeOf (.builtin id)=pure (.type "method_descriptor")) (hm:MtR X id r) (ho:PE X o to)
  (hbase:attributeBase o name X.env (eval o X.env)=eval o X.env:=by rfl) (hline:(apos.endLine==cpos.line)=true:=by rfl):PE X (.Call (.Attribute o name apos) [] [] cpos) (Xm X.K T r to):=by
 intro pins s σ H Q I h;refine wpAny_Call_method0_late hbase hline (thn (ho pins s σ H _ I h) λv s1 ⟨x,H1,I1,r1,ty,q1⟩=>?_);obtain ⟨h1,h2⟩:=Cw I1 r1 ty;exact ⟨T,id,pa,slot,hty,h1,h2,Calls.callWith_builtin rfl (PySem.evalArgs_none (hm pins s1 σ H1 x [] v [] Q I1 r1 .nil q1))⟩
theorem iu (pa:PlainAttrs T) (slot:Slot T name id) (hty:typeOf (.builtin id)=pure (.type "method_descriptor")) (hm:MtR X id r) (ho:PE X o to) (ha:PA X (e::es) t)
  (hbase:attributeBase o name X.env (eval o X.env)=eval o X.env:=by rfl)
  (hfew:((backTo cpos (starEach (e::es) X.env)).all (λx=>!x.1)&&(backToKw cpos (keywordEach [] X.env)).all (λx=>x.1.isSome)
  &&decide ((e::es).length+([]:List Keyword).length+(if ([]:List Keyword).isEmpty then 0 else 1) < 30))=true:=by rfl)
  (hline:(apos.endLine==cpos.line)=true:=by rfl) (hs:starEach (e::es) X.env=(false,eval e X.env)::starEach es X.env:=by rfl) (hplain:(backTo cpos (starEach es X.env)).any (·.1)=false:=by rfl):
  PE X (.Call (.Attribute o name apos) (e::es) [] cpos) (tBM X.K T r to t):=by
 intro pins s σ H Q I h;refine wpAny_Call_method_late hbase hfew hline rfl (thn (ho pins s σ H _ I h) λv s1 ⟨x,H1,I1,r1,ty,q1⟩=>?_);obtain ⟨h1,h2⟩:=Cw I1 r1 ty;refine ⟨T,id,pa,slot,hty,h1,h2,?_⟩;have hA:=ha cpos pins s1 σ H1 _ I1 q1;rw[hs]at hA ⊢;refine Calls.callWith_builtin (by show (false||(backTo cpos (starEach es X.env)).any (·.1))=false;rw[hplain] <;> rfl) (Calls.evalArgs_plain ?_);exact thn hA λus s2 ⟨vs,H2,I2,r2,q2⟩=>hm pins s2 σ H2 x vs v us Q I2 r1 r2 q2
end
def MtM(X:Cx)(id:String)(r:V->List V->Hp->VK->Prop):Prop:=
 ∀(pins:List (Addr×Obj))(s:Shared)(σ:St)(H:Hp)(x:V)(xs:List V)(v:Value)(us:List Value)(Q:VK),Inv X pins σ H s->RelV x v->Vals xs us->r x xs H Q->
  wpAny (model X.prog X.w) X.A (call (.builtin id) (v::us)) (EP X pins σ Q) X.xe s
theorem Vals.one:∀{x:V}{us:List Value},Vals [x] us->∃u,us=[u]/\RelV x u
 |_,_,.cons r .nil=>⟨_,rfl,r⟩
theorem Vals.zero:∀{us:List Value},Vals [] us->us=[]
 |_,.nil=>rfl
theorem Vals.dropLast{xs:List V}{us:List Value}(h:Vals xs us):Vals xs.dropLast us.dropLast:=by
 induction h with
 |nil=>exact .nil
 |cons r t ih=>
  cases t with
  |nil=>exact .nil
  |cons q t'=>exact .cons r ih
theorem Vals.eraseIdx:∀{xs:List V}{us:List Value}(i:Nat),Vals xs us->Vals (xs.eraseIdx i) (us.eraseIdx i)
 |_,_,_,.nil=>.nil
 |_,_,0,.cons _ t=>t
 |_,_,i+1,.cons r t=>.cons r (Vals.eraseIdx i t)
theorem Vals.rep{xs:List V}{us:List Value}(h:Vals xs us):∀k:Nat,Vals (List.replicate k xs).flatten (List.replicate k us).flatten
 |0=>.nil
 |k+1=>by
  rw[bv,bv,eM,eM];exact Vals.append h (Vals.rep h k)
theorem Xp{α:Type}(l:List α):l.eraseIdx (l.length - 1)=l.dropLast:=by
 induction l with
 |nil=>rfl
 |cons a r ih=>
  cases r with
  |nil=>rfl
  |cons b r=>
   have e:(a::b::r).length - 1=((b::r).length - 1)+1:=by have h1:(a::b::r).length=r.length+2:=rfl;have h2:(b::r).length=r.length+1:=rfl;omega
   rw[e,List.eraseIdx_cons_succ,ih];all_goals rfl
theorem Cy{α:Type}:∀(l:List α)(i:Nat),(l.eraseIdx i).length<=l.length
 |[],_=>aE _
 |_::_,0=>fI _
 |_::r,i+1=>Nat.succ_le_succ (Cy r i)
theorem foldl_rep(its:List Value):∀(k:Nat)(acc:List Value),
  List.foldl (λx1 x2=>x1++x2) acc.toArray (List.replicate k its.toArray)=(acc++(List.replicate k its).flatten).toArray
 |0,acc=>by simp
 |k+1,acc=>by
  have e:acc.toArray++its.toArray=(acc++its).toArray:=by simp
  have e2:(acc++its)++(List.replicate k its).flatten=acc++(List.replicate (k+1) its).flatten:=by rw[bv,eM,List.append_assoc]
  rw[<-e2,<-foldl_rep its k (acc++its),<-e,bv,List.foldl_cons]
section
variable {X:Cx} {pins:List (Addr×Obj)} {σ:St} {H:Hp} {s:Shared} {l b:Addr} {xs ys zs:List V}
theorem Inv.lset{its its':List Value}{n:Nat}{f:Array Value->Array Value}{t':Nat}(I:Inv X pins σ H s)(hH:H l=some (.lst xs))
  (e:s.heap.get? l=some { cls:=.type "list",data:=.seq its.toArray n }) (hf:f its.toArray=its'.toArray) (hv:Vals ys its') (hz:ys.length<=sizeLine):
  Inv X pins σ (upd H l (.lst ys)) { s with heap:=s.heap.update l (Obj.mapSeq f),toks:=t' }:=by
 have q:=PySem.IsL.update e f;rw[hf]at q;refine I.write (x:=l) (e:=l) (by rw[hH];exact trivial) (.inl rfl) (λb' u hb hu=>(Heap.get?_update_other s.heap (Obj.mapSeq f) (Ne.symm hb)).trans hu) ⟨_,q⟩ ?_;exact ⟨hz,its',_,hv,q⟩
theorem Inv.lnew{its:List Value}{t':Nat}(I:Inv X pins σ H s)(hv:Vals ys its)(hz:ys.length<=sizeLine):
  Inv X pins σ (upd H s.heap.objs.size (.lst ys)) { s with heap:=s.heap.push { cls:=.type "list",data:=.seq its.toArray },toks:=t' }:=
 I.laid (λ_ _ q=>ah _ q) (aE _) ⟨hz,its,0,hv,bb _ rfl⟩
theorem Inv.fresh(I:Inv X pins σ H s):H s.heap.objs.size=none:=I.hok.fresh (aE _)
theorem Inv.lstM (I:Inv X pins σ H s) (hH:H l=some (.lst xs)):xs.length<=sizeLine/\∃(its:List Value) (n:Nat),Vals xs its/\xs.length=its.length/\s.heap.get? l=some { cls:=.type "list",data:=.seq its.toArray n }:=by obtain ⟨z,its,n,r,e⟩:=I.hok l _ hH;exact ⟨z,its,n,r,r.length,e⟩
theorem Cz{n:Nat}(h:n<=sizeLine):Builtin.List.listTooLong n=false:=by unfold Builtin.List.listTooLong;exact br (by omega)
end
section
variable {X:Cx}
noncomputable def Xq:V->List V->Hp->VK->Prop:=λx vs H Q=>∃l xs y,x=.ref l/\vs=[y]/\H l=some (.lst xs)/\xs.length < sizeLine/\Q .non (upd H l (.lst (xs++[y])))
theorem Xr:MtM X "list.append" Xq:=by intro pins s σ H x vs v us Q I rx rv h;obtain ⟨l,xs,y,rfl,rfl,hH,hz,q⟩:=h;cases rx;obtain ⟨u,rfl,ru⟩:=rv.one;obtain ⟨z,its,n,r,hl,e⟩:=I.lstM hH;refine fm F.slot_list_append ⟨_,e,rfl⟩ F.entry_list_append (F.args_list_append_2 _ _) (PySem.list_append l its.toArray n u (by rw[am];omega)) ⟨e,?_⟩;refine ⟨.non,_,I.lset (its':=its++[u]) hH e (by simp) (r.append (.cons ru .nil)) ?_,rfl,q⟩;rw[ax,d5];omega
noncomputable def Xu:V->List V->Hp->VK->Prop:=λx vs H Q=>∃l b xs zs,x=.ref l/\vs=[.ref b]/\H l=some (.lst xs)/\H b=some (.lst zs)/\xs.length+zs.length<=sizeLine/\Q .non (upd H l (.lst (xs++zs)))
theorem Xv:MtM X "list.extend" Xu:=by
 intro pins s σ H x vs v us Q I rx rv h;obtain ⟨l,b,xs,zs,rfl,rfl,hH,hB,hz,q⟩:=h;cases rx;obtain ⟨u,rfl,ru⟩:=rv.one;cases ru;obtain ⟨z,its,n,r,hl,e⟩:=I.lstM hH;obtain ⟨z2,its2,n2,r2,hl2,e2⟩:=I.lstM hB;have hsz:its.toArray.size+its2.toArray.size<=sizeLine:=by rw[am,am];omega
 have hlong:¬(!its.toArray.isEmpty&&Builtin.List.listTooLong (its.toArray.size+its2.toArray.size))=true:=by rw[Cz hsz,ez];exact bq
 refine fm F.slot_list_extend ⟨_,e,rfl⟩ F.entry_list_extend (F.args_list_extend_2 _ _)
  (AutoSeq1.list_extend_list_list_0 l its.toArray n b its2.toArray n2 hlong (by rw[am];omega) (by omega)) ⟨e,e2,?_⟩
 refine ⟨.non,_,I.lset (its':=its++its2) hH e (by simp) (r.append r2) ?_,rfl,q⟩;rw[ax];omega
noncomputable def Xw:V->List V->Hp->VK->Prop:=λx vs H Q=>∃l xs y,x=.ref l/\vs=[]/\H l=some (.lst xs)/\xs[xs.length - 1]?=some y/\Q y (upd H l (.lst xs.dropLast))
theorem Xx:MtM X "list.pop" Xw:=by
 intro pins s σ H x vs v us Q I rx rv h;obtain ⟨l,xs,y,rfl,rfl,hH,hy,q⟩:=h;cases rx;have hus:=rv.zero;subst hus;obtain ⟨z,its,n,r,hl,e⟩:=I.lstM hH;obtain ⟨u,hu,ru⟩:=r.get hy;have hy':its.toArray[its.toArray.size - 1]?=some u:=by show its.toArray[its.length - 1]?=some u;rw[<-fh,<-hl];exact hu
 refine fm F.slot_list_pop ⟨_,e,rfl⟩ F.entry_list_pop (F.args_list_pop_1 _) (MeetsSeq.list_pop_last l its.toArray n u hy' (by rw[am];omega)) ⟨e,?_⟩;refine ⟨y,_,I.lset (its':=its.dropLast) hH e ?_ r.dropLast ?_,ru,q⟩
 ·show its.toArray.eraseIdxIfInBounds (its.toArray.size - 1)=its.dropLast.toArray;rw[am,List.eraseIdxIfInBounds_toArray,Xp]
 ·rw[List.length_dropLast];omega
noncomputable def Xy:V->List V->Hp->VK->Prop:=λx vs H Q=>∃l xs i k y,x=.ref l/\vs=[.int i]/\H l=some (.lst xs)/\-(2 ^ 63)<=i/\i < 2 ^ 63/\seqIndex? i xs.length=some k/\xs[k]?=some y/\Q y (upd H l (.lst (xs.eraseIdx k)))
theorem Xz:MtM X "list.pop" Xy:=by
 intro pins s σ H x vs v us Q I rx rv h;obtain ⟨l,xs,i,k,y,rfl,rfl,hH,h1,h2,hk,hy,q⟩:=h;cases rx;obtain ⟨u,rfl,ru⟩:=rv.one;obtain ⟨t,rfl⟩:=ru;obtain ⟨z,its,n,r,hl,e⟩:=I.lstM hH;obtain ⟨w,hw,rw'⟩:=r.get hy;refine fm F.slot_list_pop ⟨_,e,rfl⟩ F.entry_list_pop (F.args_list_pop_2 _ _)
  (MeetsSeq.list_pop_at l its.toArray n i t k w (fitsIndex_both h1 h2) (by rw[am,<-hl];exact hk) (by rw[<-fh];exact hw) (by rw[am];omega)) ⟨e,?_⟩
 refine ⟨y,_,I.lset (its':=its.eraseIdx k) hH e ?_ (r.eraseIdx k) ?_,rw',q⟩
 ·show its.toArray.eraseIdxIfInBounds k=(its.eraseIdx k).toArray;rw[List.eraseIdxIfInBounds_toArray]
 ·have:=Cy xs k;omega
theorem len_rep{α:Type}(xs:List α)(k:Nat):(List.replicate k xs).flatten.length=k * xs.length:=by
 induction k with
 |zero=>simp
 |succ k ih=>rw[bv,eM,ax,ih,Nat.succ_mul,Nat.add_comm]
end
end L2
namespace Att
open PySem PySem.W PySem.Calls PyProof.Rows
theorem XC{P:Params}{h:Heap}:∀(ns:List Int)(vs:List Value),WellAll P h vs (ns.map WData.int)->IntsAre vs ns:=by
 intro ns;induction ns with
 |nil=>
  intro vs w;rw[List.map_nil]at w;cases w;exact .nil
 |cons n ns ih=>
  intro vs w;rw[List.map_cons]at w;cases w with
  |cons a b=>
   cases a;exact .cons _ _ (ih _ b)
theorem XD{l:OpenLaw}{n:Nat}(hn:l.most=some n){P:Params}{h:Heap}{args:List WData}{vals:List Value}
  (hpre:l.row.toRowW.claim.pre args=true) (hwl:WellAll P h vals args):
  ∃a vs ns,vals=[Value.ref a]/\args=[WData.list (ns.map WData.int)]/\h.get? a=some { cls:=.type "list",data:=.seq vs.toArray }/\IntsAre vs ns/\ns.length<=n:=by
 have hsh:WShape.hasAll [] args [.list .int]=true:=(pre_splitW hpre).1;have hc:l.pre.holds [] { args:=args }=true:=(pre_splitW hpre).2;obtain ⟨d,r,rfl,h1,h2⟩:=hasAllW_cons hsh;obtain rfl:=hasAllW_nil h2;obtain ⟨xs,rfl,h3⟩:=hasW_list h1;obtain ⟨ns,rfl⟩:=items_int h3;have hlen:ns.length<=n:=by
  unfold OpenLaw.pre at hc;have h4:(WTm.not (.lt (.lit (.int (n:Int))) (.len (.arg 0)))).holds [] { args:=[.list (ns.map .int)] }=true:=by have h4:=(holds_andW hc).1;rw[hn]at h4;exact h4
  have h5:=condW_of h4 (w_not (w_lt w_lit (w_len_list (w_arg rfl))));rw[List.length_map]at h5;refine Nat.le_of_not_lt λq=>?_;have q':(n:Int) < ((ns.length:Nat):Int):=by omega
  first
   | (rw[decide_eq_true q']at h5;exact absurd h5 (by decide))
   | (simp at h5;omega)
 cases hwl with
 |cons w1 w2=>
  cases w2;cases w1 with
  |list ho hall=>exact ⟨_,_,ns,rfl,rfl,ho,XC ns _ hall,hlen⟩
theorem XF(l:OpenLaw)(args:List WData):l.row.toRowW.claim.post args (.bool true) args=true:=
 postW_of (r:=l.row.toRowW) (X:=(true==true))
  (show WShape.has [] (.bool true) .bool=true by first |rfl |decide |simp[WShape.has,WShape.arms,WShape.armsAll])
  (show (WTm.eq .res (.lit (.bool true))).value [] { args:=args,res:=some (.bool true),after:=args }=some (.bool (true==true)) from w_eq_bool (w_res rfl) w_lit) rfl
theorem attach_call{l:OpenLaw}{n:Nat}{q:Program}{loose:List Str}{XP:(Str->Option Value)->Heap->Prop}{YP:World->Heap->Prop}{d:DefRec}
  (hn:l.most=some n) (hdf:d.params.defaults=[])
  (call:∀(w:World)(s₀ s₁:Shared)(mg mb:Str->Option Value)(fa:Addr)(o:Obj)(pm cd doc:Value)(a:Addr)(vs:List Value)(ns:List Int),
   Ground q loose [] XP w s₀ mg mb s₁.heap->YP w s₁.heap->
   s₁.heap.get? fa=some o->o.data=.func (docDef d.name d.params d.body d.scope pm cd doc)->s₁.heap.CodeRec cd d.name->mg d.name=some (.ref fa)->
   s₁.heap.get? a=some { cls:=.type "list",data:=.seq vs.toArray }->IntsAre vs ns->ns.length<=n->s₁.gens=#[]->
   codeAny (model l.prog w) callerA (.call (.ref fa) ⟨[.ref a],[]⟩) (λr s'=>r=.ok (.ret (.bool true))/\OldK s₁.heap s'.heap/\s'.os=s₁.os/\AllBare s'.gens) s₁):
  WalkO q loose XP YP l.row.toRowW d [] (λf vs=>PySem.call f vs):=by
 intro w s₀ s₁ mg mb G Y fa o pm cd doc dV kV ho hd hcd hD hmg hg args vals as hpre hlay hrd hwl hlo;obtain rfl:dV=.none:=Dflts.none hD hdf;obtain rfl:kV=.none:=Dflts.noKw hD;obtain ⟨a,vs,ns,rfl,rfl,hobj,hints,hlen⟩:=XD hn hpre hwl;refine enter_call (codeAny_mono (call w s₀ s₁ mg mb fa o pm cd doc a vs ns G Y ho (fd_plain hd) hcd hmg hobj hints hlen hg) λr s' hq=>?_);obtain ⟨rfl,h2,h3,h4⟩:=hq;exact ⟨.inl ⟨.bool true,.bool true,[],rfl,λ_=>rfl,.bool true,XF l _,λ_=>⟨List.Pairwise.nil,λ_ hm=>(nomatch hm)⟩⟩,h2,h3,h4⟩
end Att
namespace L2
open PySem PySem.Spec PyProof.Rows
theorem vW:∀{vs:List Value}{ns:List Int},IntsAre vs ns->Vals (ns.map V.int) vs
 |_,_,.nil=>.nil
 |_,_,.cons n t h=>.cons ⟨t,rfl⟩ (vW h)
def Only(H:Hp):Prop:=∀b,H b=none\/∃o xs,H b=some (.frz o (.lst xs))
theorem XH{P:Program}{w:World}{K:PF}{mg mb:Str->Option Value}{CX:CXT}{k:Nat}{fa a:Addr}{fd:FuncData}{x:Str}{sp:Sp}{s₁:Shared}{vs:List Value}{ns:List Int}
  (KX:K.In s₁.heap) (hns:s₁.heap.Ns mainGlobals mg) (hb:s₁.heap.Ns builtinsNs mb) (hbb:∀x:Str,x≠"__name__"->mb x=bootBuiltins x) (hlim:s₁.heap.NoLimit) (hg:s₁.gens=#[])
  (ha:s₁.heap.get? a=some { cls:=.type "list",data:=.seq vs.toArray }) (hi:IntsAre vs ns) (hl:ns.length<=sizeLine) (hr:Room k callerA)
  (F:∀base:Heap,K.In base->base.Ns mainGlobals mg->FnOk P w K mg base CX k fa fd [x] sp) (hbind:∀(s:Shared)(u:Value),BindsTo s fd ⟨[u],[]⟩ [(x,u)])
  (hsp:∀H:Hp,Only H->SqL K H a (ns.map V.int)->sp [.ref a] H (λv _=>v=.bl true) λ_ _ _=>False)
  (hCX:∀H e s',CX [] H s₁ (λ_ _ _=>False) e s'->False):
  codeAny (model P w) callerA (.call (.ref fa) ⟨[.ref a],[]⟩) (λr s'=>r=.ok (.ret (.bool true))/\OldK s₁.heap s'.heap/\s'.os=s₁.os/\AllBare s'.gens) s₁:=by
 have rv:=vW hi;have lenV:=hi.length
 -- from an abstract heap in which nothing but the script may be tracked
 have core:∀H:Hp,Only H->SqL K H a (ns.map V.int)->HOk P w H s₁.heap->(∀b,H b≠none->b=a)->(H a≠none->K.lookup a=none)->
   codeAny (model P w) callerA (.call (.ref fa) ⟨[.ref a],[]⟩) (λr s'=>r=.ok (.ret (.bool true))/\OldK s₁.heap s'.heap/\s'.os=s₁.os/\AllBare s'.gens) s₁:=by
  intro H hO hS hok hA hK;have base_of:∀{b:Addr}{o:Obj},s₁.heap.get? b=some o->H b=none->(fH s₁.heap H).get? b=some o:=λe n=>Ur e n;have noA:∀{b:Addr}{o:Obj}{es:Array DictEntry}{ep:Nat},s₁.heap.get? b=some o->o.data=.dict es ep->H b=none:=λ{b o es ep} e d=>by
   cases q:H b with
   |none=>rfl
   |some u=>
    have e':b=a:=hA b (by rw[q];simp);subst e';rw[ha]at e;cases e;have d':Data.seq vs.toArray _=Data.dict es ep:=d;cases d'
  have nsK:∀{b:Addr}{m:Str->Option Value},s₁.heap.Ns b m->(fH s₁.heap H).Ns b m:=λ{b m} ⟨o,es,ep,e,d,r⟩=>⟨o,es,ep,base_of e (noA e d),d,r⟩;have hKb:K.In (fH s₁.heap H):=λb o e=>base_of (KX b o e) (by
   cases q:H b with
   |none=>rfl
   |some u=>
    have e':b=a:=hA b (by rw[q];simp);subst e';rw[hK (by rw[q];simp)]at e;cases e)
  have hM:Mod K mg (fH s₁.heap H):=⟨hKb,nsK hns,⟨mb,nsK hb,hbb⟩,let ⟨mc,h1,h2⟩:=hlim;⟨mc,nsK h1,h2⟩⟩;have e0:Env0 P w K mg (fH s₁.heap H) callerA [] s₁ H:=⟨rfl,hM,λb o e=>Us e,Nat.le_of_eq (Uq _ _),trivial,λb hb=>absurd (show b∈([]:List Addr) from hb) (by simp),hok,.of_eq hg⟩;refine codeAny_mono ((F _ hKb (nsK hns)).run callerA [] s₁ H ⟨[.ref a],[]⟩ [.ref a] [.ref a] _ _ hr e0 (hbind s₁ (.ref a)) (.cons rfl .nil) (hsp H hO hS)) λr s' h=>?_;cases r with
  |error e=>exact (hCX H e s' h).elim
  |ok fl=>
   cases fl with
   |next=>exact False.elim h
   |brk=>exact False.elim h
   |cont=>exact False.elim h
   |ret u=>
    obtain ⟨v,H',os,bare,un,hok',r',q⟩:=h;have q':v=.bl true:=q;subst q';obtain rfl:u=Value.bool true:=r';refine ⟨rfl,OldK.of_keep λb o e=>?_,os,bare⟩;cases q:H b with
    |none=>exact un.keep b o e q (by intro z;exact absurd (show b∈([]:List Addr) from z) (by simp)) (by simp)
    |some u=>
     rcases hO b with z |⟨ob,xs,z⟩
     ·rw[q]at z;cases z
     ·have z2:=un.frzs b ob _ z;obtain ⟨e1,_⟩:=hok b _ z;obtain ⟨e2,_⟩:=hok' b _ z2;rw[e]at e1;cases e1;exact e2
 cases hk:K.lookup a with
 |some o=>
  -- the script is one of the module's own objects
  have e:=KX a o hk;rw[ha]at e;cases e;refine core (λ_=>none) (λ_=>.inl rfl) (.inr ⟨_,vs.toArray,_,hk,rfl,rfl,rfl,by rw[am,lenV];exact hl,by simpa using rv⟩) (λb u z=>by have z':(none:Option HO)=some u:=z;cases z') (λb z=>absurd rfl z) λz=>absurd rfl z
 |none=>
  refine core (λb=>if b=a then some (.frz { cls:=.type "list",data:=.seq vs.toArray } (.lst (ns.map V.int))) else none) (λb=>?_) (.inl (.inr ⟨{ cls:=.type "list",data:=.seq vs.toArray },if_pos rfl⟩)) (λb u z=>?_) (λb z=>?_) λ_=>hk
  ·by_cases hb:b=a
   ·exact .inr ⟨_,_,if_pos hb⟩
   ·exact .inl (if_neg hb)
  ·by_cases hb:b=a
   ·have z':=(if_pos hb).symm.trans z;cases z';subst hb;exact ⟨ha,by rw[al];exact hl,vs,_,rv,ha⟩
   ·have z':=(if_neg hb).symm.trans z;cases z'
  ·by_cases hb:b=a
   ·exact hb
   ·exact absurd (if_neg hb) z
theorem XJ{l:PySem.W.OpenLaw}{n k:Nat}{q:Program}{loose:List Str}{XP:(Str->Option Value)->Heap->Prop}{YP:World->Heap->Prop}{d:DefRec}{K:Params->PF}{CX:World->CXT}{sp:World->Sp}{x:Str}
  (hn:l.most=some n) (hn2:n<=sizeLine) (hdf:d.params.defaults=[]) (hr:Room k callerA)
  (hY:∀(w:World)(h:Heap),YP w h->(K w.params).In h)
  (F:∀(w:World)(mg:Str->Option Value)(fa:Addr)(h:Heap),(K w.params).In h->h.Ns mainGlobals mg->mg d.name=some (.ref fa)->
   ∃fd:FuncData,(∀(s:Shared)(u:Value),BindsTo s fd ⟨[u],[]⟩ [(x,u)])/\
    ∀base:Heap,(K w.params).In base->base.Ns mainGlobals mg->FnOk l.prog w (K w.params) mg base (CX w) k fa fd [x] (sp w))
  (hsp:∀(w:World)(H:Hp)(a:Addr)(ns:List Int),ns.length<=n->Only H->SqL (K w.params) H a (ns.map V.int)->sp w [.ref a] H (λv _=>v=.bl true) λ_ _ _=>False)
  (hCX:∀(w:World)(H:Hp)(s:Shared)(e:Value)(s':Shared),CX w [] H s (λ_ _ _=>False) e s'->False):
  PySem.W.WalkO q loose XP YP l.row.toRowW d [] (λf vs=>PySem.call f vs):=by
 refine Att.attach_call hn hdf λw s₀ s₁ mg mb fa o pm cd doc a vs ns G Y ho hd hcd hmg hobj hints hlen hg=>?_;have KX:=hY w _ Y;obtain ⟨fd,hb,hF⟩:=F w mg fa _ KX G.T.g hmg;exact XH KX G.T.g G.T.b G.T.builtins G.T.nolimit hg hobj hints (cw hlen hn2) hr hF hb (λH hO hS=>hsp w H a ns hlen hO hS) λH e s'=>hCX w H s₁ e s'
def jq(s:Stmt):Arguments:=match s with
 |.FunctionDef _ a _ _ _ _ _ _ _ _=>a
 |_=>{ posonlyargs:=[],args:=[],vararg:=none,kwonlyargs:=[],kw_defaults:=[],kwarg:=none,defaults:=[] }
def aF(s:Stmt):List Stmt:=match s with
 |.FunctionDef _ _ b _ _ _ _ _ _ _=>b
 |_=>[]
def ao(s:Stmt):Scope:=match s with
 |.FunctionDef _ _ _ _ _ _ sc _ _ _=>sc
 |_=>{ kind:=.function,names:=[],isGenerator:=false,isCoroutine:=false }
abbrev CX0:CXT:=λ_ _ _ _ _ _=>False
structure Fun(K:PF)(x qual:Str)(st:Stmt)(f:Addr)(fd:FuncData):Prop where
 ex:∃(oc:Value)(od:Option Addr)(kV doc pm:Value)(an:Option Addr)(cdv ct:Value)(osl:Array (Option Value)),
  fd=PySem.W.fnOf x qual (jq st) (aF st) (ao st) .none kV doc pm an cdv ct/\K.lookup f=some ⟨oc,od,.func fd,osl⟩/\PySem.W.codeIn K cdv qual=true
 kp:PySem.W.keepIn K (.ref f)=true
section
variable {P:Program} {w:World} {K:PF} {mg:Str->Option Value} {base:Heap}
theorem Fun.binds{x qual:Str}{st:Stmt}{f:Addr}{fd:FuncData}{ps:List Str}(F:Fun K x qual st f fd)
  (h:∀(kV doc pm:Value)(an:Option Addr)(cdv ct:Value)(us:List Value),us.length=ps.length->bindArgs (PySem.W.fnOf x qual (jq st) (aF st) (ao st) .none kV doc pm an cdv ct) ⟨us,[]⟩=pure (ps.zip us)):Binds K fd ps []:=by
 obtain ⟨oc,od,kV,doc,pm,an,cdv,ct,osl,rfl,lk,hcd⟩:=F.ex;exact .all (h kV doc pm an cdv ct)
theorem CG{x qual:Str}{st:Stmt}{f:Addr}{oc:Value}{od an:Option Addr}{osl:Array (Option Value)}{kV doc pm cdv ct:Value}(l:K.lookup f=some ⟨oc,od,.func (PySem.W.fnOf x qual (jq st) (aF st) (ao st) .none kV doc pm an cdv ct),osl⟩)
  (c:PySem.W.codeIn K cdv qual=true) (k:PySem.W.keepIn K (.ref f)=true):Fun K x qual st f (PySem.W.fnOf x qual (jq st) (aF st) (ao st) .none kV doc pm an cdv ct):=⟨⟨oc,od,kV,doc,pm,an,cdv,ct,osl,rfl,l,c⟩,k⟩
end
section
variable {X:Cx}
theorem pv (i:Nat) {x:Str} {pos:Pos} (hN:X.N[i]?=some x:=by rfl) (hv:Vis X.env.scope x:=by first |exact Or.inl rfl |exact Or.inr (Or.inl rfl) |exact Or.inr (Or.inr rfl)) (hd:(x==("__debug__":Str))=false:=by decide)
  (hcd:(x==("__classdict__":Str))=false:=by decide):PE X (.Name x pos) (Be i):=vK hN hv hd hcd
end
end L2
set_option maxHeartbeats 4000000
namespace L2
open PySem PySem.Spec PyProof.Rows
section
variable {X:Cx} {pins:List (Addr×Obj)} {σ:St} {H:Hp} {s:Shared} {h':Heap}
theorem Inv.turnedL{t':Nat}{ch:List Addr}(I:Inv X pins σ H s)(hf:∀b∈ch,eF X pins H b)(k:∀b o,b∉ch->s.heap.get? b=some o->h'.get? b=some o):
  Inv X pins σ H { s with heap:=h',toks:=t' }:=by
 have nit:∀b u,H b=some u->b∉ch:=λb u e z=>by
  have q:=(hf b z).1;rw[q]at e;cases e
 refine I.step (g':=s.gens) (d':=s.drawn) (ch:=ch) (λb hb=>?_) (λb o _ _ hc e _=>k b o hc e) (λb o _ _ hc e _=>⟨o.slots,k b o hc e⟩) (λ_ _ _ _ n=>n)
  (λb o hc e=>⟨o,k b o hc e⟩) (λ_ _ e=>e) (λ_ _ _ e=>e) (λb ps e=>⟨#[],by rw[e];simp⟩) (λm hm=>?_) (λb u e=>?_) I.bare
 ·obtain ⟨_,f1,_,f3,f4,f5⟩:=hf b hb;exact ⟨f3,f1,f4,f5⟩
 ·obtain ⟨o,es,ep,ho,r⟩:=hm;exact ⟨o,es,ep,k _ o (λz=>(hf _ z).2.1 rfl) ho,r⟩
 ·refine (I.hok b u e).stay (λc v hc q=>k c v ?_ q) (λ_ q=>q) λ_ _ q=>q;rcases hc with z |z
  ·rw[z];exact nit b u e
  ·exact nit c _ z
theorem Inv.track{T:Addr}{o:HO}(I:Inv X pins σ H s)(hT:eF X pins H T)(new:ObjOk X.prog X.w (upd H T o) s.heap T o):Inv X pins σ (upd H T o) s:=by
 have hn:=hT.1;have hok:HOk X.prog X.w (upd H T o) s.heap:=λb u e=>by
  by_cases hb:b=T
  ·subst hb;rw[bW]at e;cases e;exact new
  ·rw[aG hb]at e;exact (I.hok b u e).stay (λc v _ q=>q) (λc q=>by rw[aG (aU q hn)];exact q) λc xs q=>by rw[aG (aU q hn)];exact q
 obtain ⟨hp,g,d,tk,os⟩:=s;refine I.step (h':=hp) (g':=g) (d':=d) (t':=tk) (ch:=[T]) (λb hb=>?_) (λb o _ _ _ e _=>e) (λb o _ _ _ e _=>⟨o.slots,e⟩) (λb u hc _ n=>?_)
  (λb o _ e=>⟨o,e⟩) (λb xs e=>by rw[aG (aU e hn)];exact e) (λb u v e=>by rw[aG (aU e hn)];exact e) (λb ps e=>⟨#[],by rw[aG (aU e hn),e];simp⟩) (λm hm=>hm) hok I.bare
 ·have e:b=T:=by simpa using hb
  subst e;obtain ⟨_,f1,_,f3,f4,f5⟩:=hT;exact ⟨f3,f1,f4,f5⟩
 ·rw[aG (by simpa using hc)];exact n
end
def Its(x:Str):It:=⟨λi _=>i < x.cps.size,λi H v H'=>H'=H/\∃c,x.cps[i]?=some c/\v=.str ⟨#[c]⟩,λi _=>i=x.cps.size⟩
theorem CJ{prog:Program}{w:World}{A:Around}(hh:A.handled=none)(I:Addr)(x:Str)(t:Tok):
  Walks prog w A I [I] [I] x.cps.size (SignAt x) (λi h=>h.IsStrIter I (strIterType x) x t i):=by
 unfold strIterType;split
 ·exact Walks.strAscii hh I x t
 ·exact Walks.strWide hh I x t
theorem vX{P:Program}{w:World}{K:PF}{tg:Expr}(it:Addr)(x:Str)(t:Tok):Turn P w K tg (Its x) [it] it (λi h=>h.IsStrIter it (strIterType x) x t i) where
 mem:=by simp
 obj:=λi h st b hb=>by
  have e:b=it:=by simpa using hb
  subst e;obtain ⟨o,e,c,d⟩:=st;exact ⟨o,e,λv z=>by rw[d]at z;cases z⟩
 keep:=λi h h' st k=>let ⟨o,ho,r⟩:=st;⟨o,k it (by simp) o ho,r⟩
 item:=by intro X hP hw hK hc i pins s σ H E I hf st hg;subst hP hw hK;obtain ⟨f0,f1,f2,f3,f4,f5⟩:=hf it (by simp);have W:=CJ (prog:=X.prog) (w:=X.w) (I.ok.hd hc) it x t;refine W.item i s _ _ hg st λv h' tk hv st' kk=>?_;obtain ⟨c,u,e,rfl⟩:=hv;have I1:Inv X pins σ H { s with heap:=h',toks:=tk }:=I.turned (λb o hb e=>kk b o (by simpa using hb) e) f0 f1 f3 f4 f5;obtain ⟨o,eo,cc,d⟩:=id st';exact ⟨_,rfl,ql (s:={ s with heap:=h',toks:=tk }) (n:=strIterType x) eo cc d (by unfold strIterType;split <;> decide) ⟨.str ⟨#[c]⟩,H,I1,⟨u,rfl⟩,⟨rfl,c,e,rfl⟩,st',λb hb=>(hf b hb).1⟩⟩
 done:=by intro X hP hw hK hc i pins s σ H E I hf st hg;subst hP hw hK;obtain ⟨f0,f1,f2,f3,f4,f5⟩:=hf it (by simp);have W:=CJ (prog:=X.prog) (w:=X.w) (I.ok.hd hc) it x t;have hg':i=x.cps.size:=hg;subst hg';exact W.done s _ _ st λh' tk kk=>⟨rfl,I.turned (λb o hb e=>kk b o (by simpa using hb) e) f0 f1 f3 f4 f5⟩
 self:=λA i s Q E st h=>by
  unfold strIterType at st;split at st
  ·exact wpAny_pyIter_striter_ascii st h
  ·exact wpAny_pyIter_striter_wide st h
noncomputable def cC(env:Env):List (Str×NameKind)->List (Str×Addr)->List (Str×Addr)
 |[],cs=>cs
 | (n,k)::r,cs=>cC env r (if (k==.free)=true then (match env.cells.lookup n with |some c=>(n,c)::cs |none=>cs) else cs)
theorem CK{env:Env}:∀{l:List (Str×NameKind)}{cs:List (Str×Addr)},(∀x c,cs.lookup x=some c->env.cells.lookup x=some c)->∀x c,(cC env l cs).lookup x=some c->env.cells.lookup x=some c
 |[],_,h,x,c,e=>h x c e
 | (n,k)::r,cs,h,x,c,e=>by
  refine CK (l:=r) (cs:=_) ?_ x c e;intro y d q;by_cases hk:(k==NameKind.free)=true
  ·rw[if_pos hk]at q;cases hn:env.cells.lookup n with
   |none=>rw[hn]at q;exact h y d q
   |some c'=>
    rw[hn]at q;simp only[List.lookup_cons]at q;cases hy:y==n with
    |true=>
     rw[hy]at q;have e1:y=n:=eq_of_beq hy;rw[e1,hn];exact q
    |false=>rw[hy]at q;exact h y d q
  ·rw[if_neg hk]at q;exact h y d q
theorem CN{env:Env}{x:Str}:∀{l:List (Str×NameKind)}{cs:List (Str×Addr)},(cs.lookup x).isSome=true->((cC env l cs).lookup x).isSome=true
 |[],_,h=>h
 | (n,k)::r,cs,h=>by
  refine CN (l:=r) (cs:=_) ?_;by_cases hk:(k==NameKind.free)=true
  ·rw[if_pos hk];cases hn:env.cells.lookup n with
   |none=>exact h
   |some c'=>
    simp only[List.lookup_cons];cases hy:x==n with
    |true=>rfl
    |false=>exact h
  ·rw[if_neg hk];exact h
theorem CP{env:Env}{x:Str}(hx:(env.cells.lookup x).isSome=true):∀{l:List (Str×NameKind)}{cs:List (Str×Addr)},(x,NameKind.free)∈l->((cC env l cs).lookup x).isSome=true
 | (n,k)::r,cs,h=>by
  rcases aI.mp h with e |h
  ·cases e;refine CN (l:=r) (cs:=_) ?_;rw[if_pos (show (NameKind.free==NameKind.free)=true by decide)];obtain ⟨c,hc⟩:=cq.mp hx;rw[hc];simp
  ·exact CP hx (l:=r) h
theorem CQ{scope:Scope}{env:Env}(h:∀y∈scope.names,y.2=NameKind.free->(env.cells.lookup y.1).isSome=true):closureFor scope env=pure (cC env scope.names []):=by
 simp only[closureFor];generalize ([]:List (Str×Addr))=cs;generalize scope.names=l at h;induction l generalizing cs with
 |nil=>rfl
 |cons y r ih=>
  obtain ⟨n,k⟩:=y;have ih':=λcs=>ih cs λy hy=>h y (bp _ hy);rw[List.forIn_cons];by_cases hk:(k==NameKind.free)=true
  ·have hk':k=NameKind.free:=eq_of_beq hk;obtain ⟨c,hc⟩:=cq.mp (h (n,k) cb hk');have e1:cC env ((n,k)::r) cs=cC env r ((n,c)::cs):=by
    rw[cC,if_pos hk];show cC env r (match env.cells.lookup n with |some c=>(n,c)::cs |none=>cs)=_;have hc':env.cells.lookup n=some c:=hc;rw[hc']
   have e2:cellOf env n=pure c:=by unfold cellOf;have hc':env.cells.lookup n=some c:=hc;rw[hc']
   rw[e1,<-ih' ((n,c)::cs)];simp only[hk,if_true,e2];rfl
  ·have e1:cC env ((n,k)::r) cs=cC env r cs:=by rw[cC,if_neg hk]
   rw[e1,<-ih' cs];simp only[hk,if_false];rfl
theorem vY{env:Env}{x:Str}:∀{names:List (Str×NameKind)},
  (names.map λ(n,k)=>if (k==NameKind.free&&env.scope.kind==.function&&env.kindOf n==some .cell) then (n,NameKind.cell) else (n,k)).lookup x=
   (names.lookup x).map λk=>if (k==NameKind.free&&env.scope.kind==.function&&env.kindOf x==some .cell)=true then NameKind.cell else k
 |[]=>rfl
 | (n,k)::r=>by
  have ih:=@vY env x r;rw[bP];have hh:∀(c:Prop)[Decidable c],(if c then (n,NameKind.cell) else (n,k))=(n,if c then NameKind.cell else k):=λc _=>by split <;> rfl
  show List.lookup x ((if (k==NameKind.free&&env.scope.kind==.function&&env.kindOf n==some .cell)=true then (n,NameKind.cell) else (n,k))::_)=_;rw[hh];simp only[List.lookup_cons];cases hx:x==n with
  |true=>
   have e1:x=n:=eq_of_beq hx;subst e1;rfl
  |false=>exact ih
abbrev Cx.comp(X:Cx)(N':List Str)(scope:Scope)(cl:List (Str×Addr))(C:Addr)(s₁:Shared)(H₁:Hp)(fp:List Addr)(pn:List (Addr×Obj)):Cx where
 prog:=X.prog
 w:=X.w
 K:=X.K
 mg:=X.mg
 base:=X.base
 A:=X.A
 N:=N'
 s₀:=s₁
 H₀:=H₁
 env:=compEnvC scope cl C X.env
 outer:=X.stack
 stack:=X.stack
 ex:=fp
 fn:=λ_=>false
 calm:=X.calm
 pn:=pn
 xe:=λ_ _=>False
def PIf(X:Cx)(ifs:List Expr)(t:TT):Prop:=
 ∀(pins:List (Addr×Obj))(s:Shared)(σ:St)(H:Hp)(Q:Bool->Hp->Prop),Inv X pins σ H s->t σ H Q->
  wpAny (model X.prog X.w) X.A (forIn ifs true λc r=>if r=true then do let ok <-isTrue c X.env (eval c X.env);pure (ForInStep.yield ok) else pure (ForInStep.yield r)) (TP X pins σ Q) X.xe s
def XM:TT:=λ_ H Q=>Q true H
theorem XN{X:Cx}:PIf X [] XM:=λ_ _ _ H _ I h=>wpAny_tests_nil ⟨H,I,h⟩
theorem XQ{X:Cx}{c:Expr}{t:TT}(h:PT X c t):PIf X [c] t:=λpins s σ H Q I q=>wpAny_tests_one (h pins s σ H Q I q)
def dJ(cap:List (Option Nat))(σ:St):St:=cap.map λo=>match o with |none=>none |some j=>(σ[j]?).join
noncomputable def Caps(X:Cx)(scope:Scope):List Str->List (Option Nat)->Prop
 |[],[]=>True
 |_::N',none::cap=>Caps X scope N' cap
 |x::N',some j::cap=>(X.N[j]?=some x/\scope.names.lookup x=some NameKind.free)/\Caps X scope N' cap
 |_,_=>False
theorem Caps.len{X:Cx}{scope:Scope}:∀{N':List Str}{cap:List (Option Nat)},Caps X scope N' cap->cap.length=N'.length
 |[],[],_=>rfl
 |_::N',none::cap,h=>by
  have:=Caps.len (N':=N') (cap:=cap) h;simp[this]
 |_::N',some _::cap,h=>by
  have:=Caps.len (N':=N') (cap:=cap) h.2;simp[this]
 |[],_::_,h=>False.elim h
 |_::_,[],h=>False.elim h
theorem Caps.at{X:Cx}{scope:Scope}:∀{N':List Str}{cap:List (Option Nat)}{i:Nat}{x:Str}{v:V}{σ:St},Caps X scope N' cap->N'[i]?=some x->(dJ cap σ)[i]?=some (some v)->
  ∃j:Nat,X.N[j]?=some x/\scope.names.lookup x=some NameKind.free/\σ[j]?=some (some v)
 |[],[],i,x,v,σ,_,e,_=>by simp at e
 |y::N',none::cap,0,x,v,σ,h,e,q=>by simp[dJ]at q
 |y::N',some j::cap,0,x,v,σ,h,e,q=>by
  have e1:y=x:=by simpa using e
  subst e1;have q1:(σ[j]?).join=some v:=by simpa [dJ] using q
  refine ⟨j,h.1.1,h.1.2,?_⟩;cases z:σ[j]? with
  |none=>rw[z]at q1;cases q1
  |some o=>rw[z]at q1;exact fe some q1
 |y::N',none::cap,i+1,x,v,σ,h,e,q=>Caps.at (N':=N') (cap:=cap) (i:=i) h (by simpa using e) (by simpa [dJ] using q)
 |y::N',some _::cap,i+1,x,v,σ,h,e,q=>Caps.at (N':=N') (cap:=cap) (i:=i) h.2 (by simpa using e) (by simpa [dJ] using q)
 |[],_::_,_,_,_,_,h,_,_=>False.elim h
 |_::_,[],_,_,_,_,h,_,_=>False.elim h
def CW(X:Cx)(N':List Str)(scope:Scope)(tg:Expr)(ifs:List Expr)(elt:Expr)(J:It)(σ0:St)(H1:Hp)(Q:VK):Prop:=
 ∃W:Nat->Nat->List V->St->Hp->Prop,(∃m,W 0 m [] σ0 H1)/\∀i m ys σ' H',W i m ys σ' H'->
  (J.stop i H'/\ys.length<=sizeLine/\∀D,H' D=none->Q (.ref D) (upd H' D (.lst ys)))\/
  (J.go i H'/\ys.length < sizeLine/\∀cl C s₁ H₁ fp pn,∃g tt te,PG (X.comp N' scope cl C s₁ H₁ fp pn) tg g/\PIf (X.comp N' scope cl C s₁ H₁ fp pn) ifs tt/\PE (X.comp N' scope cl C s₁ H₁ fp pn) elt te/\
   ∀x H2,J.yld i H' x H2->g x σ' H2 λσ3 H3=>tt σ3 H3 λb H4=>if b=true then te σ3 H4 λy H5=>∃m',m' < m/\W (i+1) m' (ys++[y]) σ3 H5 else ∃m',m' < m/\W (i+1) m' ys σ3 H4)
def vZ(X:Cx)(N':List Str)(scope:Scope)(tg:Expr)(ifs:List Expr)(elt:Expr)(wi:TI)(cap:List (Option Nat)):TE:=λσ H Q=>wi σ H λJ H1=>CW X N' scope tg ifs elt J (dJ cap σ) H1 Q
section
variable {prog:Program} {w:World} {A:Around} {R:Result->Shared->Prop} {s:Shared}
theorem XS{elt target iter:Expr}{ifs:List Expr}{scope:Scope}{pos:Pos}{it acc:Value}{env:Env}(I:Nat->Shared->Prop)
  (turn:∀n s,I n s->wpAny (model prog w) A (pyNext it) (λr s₁=>match r with
   |none=>R (.ok .next) s₁
   |some v=>wpAny (model prog w) A (letOwnedTupleGo target it v) (λ_ s₁'=>wpAny (model prog w) A (assign target env v) (λ_ s₂=>
     wpAny (model prog w) A (forIn ifs true λc r=>if r=true then do let ok <-isTrue c env (eval c env);pure (ForInStep.yield ok) else pure (ForInStep.yield r)) (λok s₃=>
      if ok=true then wpAny (model prog w) A (eval elt env) (λx s₄=>
       wpAny (model prog w) A (call (.builtin "list.append") [acc,x]) (λ_ s₅=>∃m,m < n/\I m s₅) (λ_ _=>False) s₄) (λ_ _=>False) s₃
      else ∃m,m < n/\I m s₃) (λ_ _=>False) s₂) (λ_ _=>False) s₁') (λ_ _=>False) s₁) (λ_ _=>False) s)
  (n:Nat) (h:I n s):codeAny (model prog w) A (.compLoop (.ListComp elt [⟨target,iter,ifs,0⟩] scope pos) 0 it acc env) R s:=by
 refine codeAny_loop rfl I (λn s hI=>?_) n h;show wpAny _ A ((compTurn (.ListComp elt [⟨target,iter,ifs,0⟩] scope pos) 0 it acc env).onRaise (λx=>do noteFrame x env;theTreesLotGoes x)) _ _ s;refine wpAny_noted ?_;rw[compTurn_list];refine ag (wpAny_standAt (ag (cp (turn n s hI) (λr s₁ h₁=>?_) λ_ _ h'=>False.elim h')));cases r with
 |none=>exact a7 h₁
 |some v=>
  refine ag (cp h₁ (λ_ s₁' h₁'=>?_) λ_ _ h'=>False.elim h');refine ag (cp h₁' (λ_ s₂ h₂=>ag (cp h₂ (λok s₃ h₃=>?_) λ_ _ h'=>False.elim h')) λ_ _ h'=>False.elim h');cases ok with
  |false=>exact a7 ⟨rfl,h₃⟩
  |true=>
   exact ag (ag (cp h₃ (λx s₄ h₄=>ag (cp h₄ (λ_ s₅ h₅=>a7 (a7 ⟨rfl,h₅⟩)) λ_ _ h'=>False.elim h')) λ_ _ h'=>False.elim h'))
end
abbrev tx(l:List Nat):Str:=⟨l.toArray⟩
theorem bM(l:List Nat):(tx l).length=l.length:=by simp[Str.length]
theorem qz(a b:List Nat):tx a++tx b=tx (a++b):=by show (⟨a.toArray++b.toArray⟩:Str)=⟨(a++b).toArray⟩;simp
theorem CZ{a b:List Nat}(h:tx a=tx b):a=b:=by have:=fe (λx:Str=>x.cps.toList) h;simpa using this
theorem v6(x:Str):x=tx x.cps.toList:=by cases x;simp
section
variable {X:Cx}
theorem Dc:∀{ys:List Str}{us:List Value},Vals (ys.map V.str) us->StrsAre us ys
 |[],us,r=>by
  rw[eL]at r;cases r;exact .nil
 |y::ys,us,r=>by
  rw[bP]at r;cases r with
  |cons r1 r2=>
   obtain ⟨t,e⟩:=r1;subst e;exact .cons y t (Dc r2)
noncomputable def rJoin(K:PF):V->List V->Hp->VK->Prop:=λx vs H Q=>∃z p ys,x=.str z/\vs=[.ref p]/\SqL K H p (ys.map V.str)/\(ys.map (·.length)).sum+ys.length * z.length<=16777216/\Q (.str (Str.join z ys)) H
theorem XX:MtR X "str.join" (rJoin X.K):=by intro pins s σ H x xs v us Q I rx rs h;obtain ⟨z,p,ys,rfl,rfl,hq,hb,q⟩:=h;obtain ⟨t,rfl⟩:=rx;obtain ⟨u,rfl,ru⟩:=vals1 rs;cases ru;obtain ⟨its,rv,pl,hz⟩:=I.list hq;refine join_list pl.isList (by simpa using Dc rv) hb λt' k=>⟨.str _,H,I.tok _,⟨_,rfl⟩,?_⟩;have e:Txt.join z ys=Str.join z ys:=StrLaws.glued_eq_join z ys;rw[e];exact q
noncomputable def X3(K:PF):List V->Hp->VK->Prop:=λxs H Q=>∃x n t b,xs=[x,.ty n]/\TyOf K H x t/\PySem.W.kitOne K t (.type n)=some b/\Q (.bl b) H
theorem X4:bB X (.builtin "isinstance") (X3 X.K):=by intro pins s σ H xs us Q I r h;obtain ⟨x,n,t,b,rfl,ty,e,q⟩:=h;obtain ⟨u,w',rfl,rx,ry⟩:=vals2 r;cases ry;exact Ws I rx ty e λtk=>⟨.bl b,H,I.tok _,rfl,q⟩
theorem X5:bootBuiltins "bool"=some (.type "bool"):=by ac_rfl
theorem Dd:bootBuiltins "int"=some (.type "int"):=by ac_rfl
theorem De:bootBuiltins "str"=some (.type "str"):=by ac_rfl
theorem Df:bootBuiltins "list"=some (.type "list"):=by ac_rfl
theorem Dg:bootBuiltins "isinstance"=some (.builtin "isinstance"):=by ac_rfl
theorem Dh {x:Str} {T:String} {pos:Pos} (hg:Gl X x) (hm:X.mg x=none) (hv:bootBuiltins x=some (.type T)) (hn:x≠"__name__":=by decide) (hd:(x==("__debug__":Str))=false:=by decide):PE X (.Name x pos) (tC (.ty T)):=
 Ux hg hm hv (v:=.ty T) rfl hn hd
theorem X6:OpR X (binaryOp .Mult) (λx y H Q=>∃i n,x=.str i/\y=.int n/\MulOk i n/\Q (.str (Txt.mul i n)) H):=by intro pins s σ H x y v u Q I rx ry h;obtain ⟨i,n,rfl,rfl,hok,q⟩:=h;obtain ⟨t,rfl⟩:=rx;obtain ⟨t',rfl⟩:=ry;exact SB.mul hok λt' k=>⟨.str _,H,I.tok _,⟨_,rfl⟩,q⟩
end
def v7(X:Cx)(st:List Stmt)(t:TS):Prop:=
 ∀(pins:List (Addr×Obj))(s:Shared)(σ:St)(H:Hp)(D:Ends),1<=s.toks->Inv X pins σ H s->t D σ H->wpAny (model X.prog X.w) X.A (execs st X.env) (SP X pins D) X.xe s
def PE1(X:Cx)(e:Expr)(t:TE):Prop:=
 ∀(pins:List (Addr×Obj))(s:Shared)(σ:St)(H:Hp)(Q:VK),1<=s.toks->Inv X pins σ H s->t σ H Q->wpAny (model X.prog X.w) X.A (eval e X.env) (EP X pins σ Q) X.xe s
theorem X7{X:Cx}{e:Expr}{te:TE}{pos:Pos}(he:PE1 X e te):v7 X [.Return (some e) pos] (Bm te):=by intro pins s σ H D h1 I h;refine gt (wpAny_Return_some (thn (he pins s σ H _ h1 I h) λv s1 ⟨x,H1,I1,r1,q1⟩=>?_));exact ⟨x,σ,H1,I1,r1,q1⟩
theorem v8{c d:Nat}:∀l:List Nat,c∉l->l.map (λa=>if a=c then d else a)=l
 |[],_=>rfl
 |a::r,h=>by
  have h1:a≠c:=λe=>h (by rw[e];exact cb);rw[bP,if_neg h1,v8 r λz=>h (bp _ z)]
theorem Di(c d:Nat):∀parts:List Str,(∀p∈parts,c∉p.cps.toList)->(Str.join ⟨#[c]⟩ parts).cps.toList.map (λa=>if a=c then d else a)=(Str.join ⟨#[d]⟩ parts).cps.toList
 |[],_=>rfl
 |[x],h=>by
  simp only[Str.join];exact v8 _ (h x cb)
 |x::y::r,h=>by
  have ih:=Di c d (y::r) λp hp=>h p (bp _ hp);have e:∀z:Str,Str.join z (x::y::r)=x++z++Str.join z (y::r):=λz=>by simp only[Str.join]
  have ap:∀u v:Str,(u++v).cps.toList=u.cps.toList++v.cps.toList:=λu v=>by
   show (u.cps++v.cps).toList=_;simp
  rw[e,e,ap,ap,ap,ap,dy,dy,ih,v8 _ (h x cb)];simp
theorem X8(l:List Nat)(c d:Nat):Txt.replace (tx l) (tx [c]) (tx [d])=tx (l.map λa=>if a=c then d else a):=by
 have e:(Txt.replace (tx l) ⟨#[c]⟩ ⟨#[d]⟩).cps.toList=l.map λa=>if a=c then d else a:=by rw[StrLaws.replace_one,<-Di c d _ (StrLaws.split_free (tx l) c),StrLaws.join_split]
 rw[v6 (Txt.replace (tx l) (tx [c]) (tx [d]))];exact fe tx e
section
variable {X:Cx}
theorem Yb{o:Expr}{to:TE}{y z:Str}{ky kz:Nat}{py pz apos cpos:Pos}(ho:PE X o to)(hyz:(y==z)=false)
  (hbase:attributeBase o "replace" X.env (eval o X.env)=eval o X.env:=by rfl)
  (hfew:((backTo cpos (starEach [.Constant (.str y) ky py,.Constant (.str z) kz pz] X.env)).all (λx=>!x.1)&&(backToKw cpos (keywordEach [] X.env)).all (λx=>x.1.isSome)
  &&decide (([.Constant (.str y) ky py,.Constant (.str z) kz pz]:List Expr).length+([]:List Keyword).length+(if ([]:List Keyword).isEmpty then 0 else 1) < 30))=true:=by rfl)
  (hline:(apos.endLine==cpos.line)=true:=by rfl):
  PE1 X (.Call (.Attribute o "replace" apos) [.Constant (.str y) ky py,.Constant (.str z) kz pz] [] cpos)
   (λσ H Q=>to σ H λv H1=>∃x,v=.str x/\x.length+(x.length+1) * z.length<=16777216/\Q (.str (Txt.replace x y z)) H1):=by
 intro pins s σ H Q h1 I h;refine wpAny_Call_method_late hbase hfew hline rfl (cp (wpAny_toks_of (n:=1) h1 (ho pins s σ H _ I h)) (λv s1 h2=>?_) (λ_ _ e=>e.2));obtain ⟨t1,v',H1,I1,r1,x,e,hb,q⟩:=h2;subst e;obtain ⟨t,rfl⟩:=r1;refine ⟨"str","str.replace",F.plainAttrs_str,F.slot_str_replace,F.type_str_replace,typeIs_str _ _ _,(λ_ e=>nomatch e),?_⟩;refine Calls.callWith_builtin (by rfl) (Calls.evalArgs_plain ?_);show wpAny _ _ (spliced [(false,eval (.Constant (.str y) ky py) X.env),(false,eval (.Constant (.str z) kz pz) X.env)]) _ _ s1;refine Calls.spliced_cons (Calls.Constant_str (Calls.spliced_cons (Calls.Constant_str (Calls.spliced_nil ?_))));exact SC.replace (by show @Ne Nat s1.toks 0;omega) (by show @Ne Nat (s1.toks+1) 0;omega) (by show @Ne Nat s1.toks (s1.toks+1);omega) hyz hb λt' k=>⟨.str _,H1,I1.tok _,⟨_,rfl⟩,q⟩
end
theorem Yc{CX:CXT}{P:Program}{w:World}{K:PF}{mg:Str->Option Value}{base:Heap}{k:Nat}{f:Addr}{name qual:Str}{params:Arguments}{body:List Stmt}{scope:Scope}{dV kV doc pm cdv ct oc:Value}{an od:Option Addr}
  {osl:Array (Option Value)} {N:List Str} {x:Str} {sp:Sp} (lk:K.lookup f=some ⟨oc,od,.func (PySem.W.fnOf name qual params body scope dV kV doc pm an cdv ct),osl⟩) (hcd:PySem.W.codeIn K cdv qual=true) (S:FnScope N [x] scope)
  (hx:scope.names.lookup x=some .local) (hnc:∀y∈scope.names,y.2≠NameKind.cell) (hcf:∀n,cellsFrom n scope.names []=[])
  (len:∀vs H Q E,sp vs H Q E->vs.length=[x].length)
  (hbody:∀(A:Around)(outer:List Env)(s:Shared)(H:Hp)(vs:List V)(Q:VK)(E:XK),Room k (A.deeper (envOfC qual scope s.heap.objs.size f cdv))->sp vs H Q E->
   ∃t,v7 (cL CX P w K mg base N qual scope f cdv A outer s H E) body t/\t { nx:=λ_ H'=>Q .non H',rt:=Q } (start N vs) H):
  FnOk P w K mg base CX (k+1) f (PySem.W.fnOf name qual params body scope dV kV doc pm an cdv ct) [x] sp:=by
 refine ⟨len,λA outer s H args us vs Q E hr e0 hb r hsp=>?_⟩;have hl:=len _ _ _ _ hsp;have KX:K.In s.heap:=e0.mod.kin.keeps λb o e=>(e0.bs b o e).1;have lim:s.heap.NoLimit:=e0.mod.nolimit.keeps λb o e=>(e0.bs b o e).1;obtain ⟨u,rfl⟩:∃u,us=[u]:=by
  have h2:=r.length;rw[hl]at h2;match us,h2 with
  |[u],_=>exact ⟨u,rfl⟩
 refine codeAny_call_function hr.depth (KX _ _ lk) rfl S.co S.gen rfl (PySem.W.codeRec_of KX hcd) (hb _ _ _ _ ?_);refine wpAny_newFunctionEnv (binds:=[x].zip [u]) hnc (λy hy=>?_) (λh' hns hsb=>?_) S.kind
 ·have e:y=(x,u):=by simpa using hy
  rw[e];exact hx
 have envEq:newEnv scope s.heap.objs.size mainGlobals [] (qual++Str.ofString ".<locals>.") (some f) cdv none builtinsNs=envOfC qual scope s.heap.objs.size f cdv:=by unfold envOfC newEnv;rw[hcf]
 have kp:∀b o,s.heap.get? b=some o->h'.get? b=some o:=λb o e=>hsb.extBut b o (bX (ay e)) (ah _ e);have mEq:bindL (envOfC qual scope s.heap.objs.size f cdv).kindOf ([x].zip [u]) (λ_=>none)=λy=>(([x].zip [u]).reverse).lookup y:=by
  funext y;have hk:(envOfC qual scope s.heap.objs.size f cdv).kindOf x=some .local:=hx;show bindL (envOfC qual scope s.heap.objs.size f cdv).kindOf [(x,u)] (λ_=>none) y=List.lookup y [(x,u)];unfold bindL;rw[if_pos hk];unfold bindL;by_cases hy:y=x
  ·subst hy;simp
  ·have:(y==x)=false:=by simpa using hy
   simp[hy,List.lookup_cons,this]
 have xx:InCallC s s.heap.objs.size (bindL (envOfC qual scope s.heap.objs.size f cdv).kindOf ([x].zip [u]) λ_=>none) (cellsFrom (s.heap.objs.size+1) scope.names []) (bindC (envOfC qual scope s.heap.objs.size f cdv).kindOf ([x].zip [u]) λ_=>none)
   { s with heap:=h',toks:=s.toks+([x].zip [u]).length }:=by
  rw[mEq,hcf];exact ⟨⟨⟨h',_,rfl⟩,hns,kp,aE _⟩,(λn c e=>by simp at e),List.Pairwise.nil,(λn c e=>nomatch e)⟩
 show _/\codeAny (model P w) A (.func body (newEnv scope s.heap.objs.size mainGlobals [] (qual++Str.ofString ".<locals>.") (some f) cdv none builtinsNs)) _ _;rw[envEq];refine ⟨lim.keeps kp,codeAny_func ?_⟩;obtain ⟨t,ht,hq⟩:=hbody A outer s H vs Q E (hr.deeper _) hsp;have I:Inv (cL CX P w K mg base N qual scope f cdv A outer s H E) [] (start N vs) H { s with heap:=h',toks:=s.toks+([x].zip [u]).length }:=BZ S hr.hd e0 hl r xx;refine cp (ht [] _ (start N vs) H _ (Nat.le_add_left 1 s.toks) I hq) (λfl s' hs=>?_) λe s' hs=>hs;have fin:∀{σ':St}{H':Hp}{v:V}{u:Value},Inv (cL CX P w K mg base N qual scope f cdv A outer s H E) [] σ' H' s'->RelV v u->Q v H'->CE outer P w H s Q u s':=
  λ{σ' H' v u} J rv q=>⟨v,H',J.os,J.bare,J.base,J.hok,rv,q⟩
 cases fl with
 |ret u=>
  obtain ⟨v,σ',H',J,rv,q⟩:=hs;exact fin J rv q
 |next=>
  obtain ⟨σ',H',J,q⟩:=hs;exact fin (v:=V.non) (u:=Value.none) J rfl q
 |brk=>
  obtain ⟨_,_,_,q⟩:=hs;exact False.elim q
 |cont=>
  obtain ⟨_,_,_,q⟩:=hs;exact False.elim q
theorem Fun.ok1{P:Program}{w:World}{K:PF}{mg:Str->Option Value}{base:Heap}{x qual:Str}{st:Stmt}{f:Addr}{fd:FuncData}{N:List Str}{y:Str}{k:Nat}{sp:Sp}(F:Fun K x qual st f fd)(S:FnScope N [y] (ao st))
  (hx:(ao st).names.lookup y=some .local) (hnc:∀z∈(ao st).names,z.2≠NameKind.cell) (hcf:∀n,cellsFrom n (ao st).names []=[]) (len:∀vs H Q E,sp vs H Q E->vs.length=[y].length)
  (hbody:∀(cdv:Value)(A:Around)(outer:List Env)(s:Shared)(H:Hp)(vs:List V)(Q:VK)(E:XK),Room k (A.deeper (envOfC qual (ao st) s.heap.objs.size f cdv))->sp vs H Q E->
   ∃t,v7 (cL CX0 P w K mg base N qual (ao st) f cdv A outer s H E) (aF st) t/\t { nx:=λ_ H'=>Q .non H',rt:=Q } (start N vs) H):FnOk P w K mg base CX0 (k+1) f fd [y] sp:=by
 obtain ⟨oc,od,kV,doc,pm,an,cdv,ct,osl,rfl,lk,hcd⟩:=F.ex;exact Yc lk hcd S hx hnc hcf len λA outer s H vs Q E hr hsp=>hbody cdv A outer s H vs Q E hr hsp
open Builtin Builtin.Str
theorem Yd{prog:Program}{w:World}{A:Around}(hh:A.handled=none)(it:Addr)(x:Str)(t:Tok):
  Draws prog w A it [it] x.cps.size (λi v=>∃c u,x.cps[i]?=some c/\v=.str ⟨#[c]⟩ u) (λi h=>h.IsStrIter it (strIterType x) x t i):=by
 unfold strIterType;split
 ·exact Draws.strAscii hh it x t
 ·exact Draws.strWide hh it x t
structure ZApart(z TI TO i1 i2:Addr):Prop where
 TIz:TI≠z
 TOz:TO≠z
 i1z:i1≠z
 i2z:i2≠z
 TITO:TI≠TO
 TIi1:TI≠i1
 TIi2:TI≠i2
 TOi1:TO≠i1
 TOi2:TO≠i2
 i12:i1≠i2
section
variable {X:Cx}
theorem Dj:∀{bs:List Bool}{us:List Value}{i:Nat}{v:Value},Vals (bs.map V.bl) us->us[i]?=some v->∃b,bs[i]?=some b/\v=.bool b
 |[],us,i,v,r,e=>by
  rw[eL]at r;cases r;simp at e
 |b::bs,us,i,v,r,e=>by
  rw[bP]at r;cases r with
  |cons r1 r2=>
   cases i with
   |zero=>
    cases (show _=Value.bool b from r1);exact ⟨b,rfl,by simpa using e.symm⟩
   |succ i=>exact Dj (i:=i) r2 (by simpa using e)
theorem Ye:bootBuiltins "all"=some (.builtin "all"):=by ac_rfl
theorem Yg:bootBuiltins "zip"=some (.type "zip"):=by ac_rfl
theorem all_range(bs:List Bool)(n:Nat)(hn:n=bs.length):((List.range n).all λi=>(bs[i]?).getD true)=bs.all id:=by
 subst hn;rw[Bool.eq_iff_iff,bo,bo];constructor
 ·intro h b hb;obtain ⟨i,hi,e⟩:=List.mem_iff_getElem.mp hb;have:=h i (List.mem_range.mpr hi);rw[bn hi,e]at this;simpa using this
 ·intro h i hi;have hi':=List.mem_range.mp hi;rw[bn hi'];simpa using h _ (dP hi')
theorem Yh (hc:X.calm=true):bB X (.builtin "all") (λxs H Q=>∃(p:Addr) (bs:List Bool),xs=[.ref p]/\SqL X.K H p (bs.map V.bl)/\Q (.bl (bs.all id)) H):=by
 intro pins s σ H xs us Q I r h;obtain ⟨p,bs,rfl,hq,q⟩:=h;obtain ⟨u,rfl,ru⟩:=vals1 r;cases ru;obtain ⟨its,rv,pl,hz⟩:=I.list hq;have hl:=pl.isList;have hlt:p < s.heap.objs.size:=by obtain ⟨_,e,_⟩:=hl;exact ay e
 refine call_all_walk (wpAny_pyIter_list hl ?_);refine ⟨s.heap.objs.size,[s.heap.objs.size,p],[s.heap.objs.size],its.toArray.size,_,_,λi=>(bs[i]?).getD true,rfl,Walks.list (A:=X.A.in1) (I.ok.hd hc) _ p (bX hlt) its.toArray,
  ⟨⟨_,bb _ rfl,rfl,rfl⟩,hl.push _⟩,λi v s' Q' E' hP hQ=>?_,λh' tk hk=>?_⟩
 ·obtain ⟨b,e,rfl⟩:=Dj rv (i:=i) (v:=v) (by simpa using hP);simp only[e,Option.getD_some]at hQ;exact ej hQ
 ·have e:=all_range bs its.toArray.size (by rw[am,<-rv.length,al]);rw[e];exact ⟨.bl _,H,I.kept (λb o q=>hk b o (λhm=>by rw[a8.mp hm]at q;exact ee _ (ay q)) (ah _ q)),rfl,q⟩
theorem Yi:OpR X (compareOp .Is) (λx y H Q=>∃i j,x=.bl i/\y=.bl j/\Q (.bl (i==j)) H):=by intro pins s σ H x y v u Q I rx ry h;obtain ⟨i,j,rfl,rfl,q⟩:=h;cases rx;cases ry;exact is_bool ⟨.bl _,H,I,rfl,q⟩
theorem Yj:bB X (.type "int") (λxs H Q=>∃z n,xs=[.str z]/\PySem.intText? z=some n/\z.length<=640/\Q (.int n) H):=by intro pins s σ H xs us Q I r h;obtain ⟨z,n,rfl,hn,hl,q⟩:=h;obtain ⟨u,rfl,t,rfl⟩:=vals1 r;exact PySem.W.KIN.call_text hn hl ⟨.int n,H,I.tok _,⟨_,rfl⟩,q⟩
noncomputable def Yk:V->Option Int->Option Int->Hp->VK->Prop:=λx lo hi H Q=>∃z,x=.str z/\z.length<=sizeLine/\Q (.str (Txt.slice z lo hi)) H
theorem Yl:SlR X Yk:=by
 intro pins s σ H x v vl vu lo hi sl Q I rx hs pl pu h;obtain ⟨z,rfl,hz,q⟩:=h;obtain ⟨t,rfl⟩:=rx;refine ⟨"str",_,slot_str_getitem.lookup,typeIs_str _ _ _,?_⟩;obtain ⟨l,el,e1⟩:∃l:Option (Int×Tok),vl=partValue l/\l.map (·.1)=lo:=by
  cases pl with
  |none=>exact ⟨none,rfl,rfl⟩
  |int i t=>exact ⟨some (i,t),rfl,rfl⟩
 obtain ⟨u,eu,e2⟩:∃u:Option (Int×Tok),vu=partValue u/\u.map (·.1)=hi:=by
  cases pu with
  |none=>exact ⟨none,rfl,rfl⟩
  |int i t=>exact ⟨some (i,t),rfl,rfl⟩
 subst el eu e1 e2;refine wpAny_getItem_str_slice (l:=l) (u:=u) (st:=none) hs rfl ?_;unfold sliceMade;unfold Txt.slice at q;show (if ((1:Int)==1&&(slicePicked z l u none).length==z.length)=true then Made.val (.str z t) else Made.str ⟨((slicePicked z l u none).filterMap (z.cps[·]?)).toArray⟩).post _ _;have ep:slicePicked z l u none=Builtin.Str.strSliceIndices (l.map (·.1)) (u.map (·.1)) 1 z.length:=rfl;rw[ep];by_cases hc:((1:Int)==1&&(Builtin.Str.strSliceIndices (l.map (·.1)) (u.map (·.1)) 1 z.length).length==z.length)=true
 ·rw[if_pos hc]at q ⊢;exact ⟨.str z,H,I,⟨t,rfl⟩,q⟩
 ·rw[if_neg hc]at q ⊢;refine ⟨?_,⟨.str _,H,I.tok _,⟨_,rfl⟩,q⟩⟩;show (List.filterMap _ _).toArray.size<=sizeLine;rw[am];have h1:=sliceIndices_le (l.map (·.1)) (u.map (·.1)) z.length;have h2:=List.length_filterMap_le (λx=>z.cps[x]?) (Builtin.Str.strSliceIndices (l.map (·.1)) (u.map (·.1)) 1 z.length);omega
end
theorem Dk{X:Cx}{elt tg iter:Expr}{ifs:List Expr}{scope:Scope}{pos:Pos}{wi:TI}{pins:List (Addr×Obj)}{s:Shared}{σ:St}{H:Hp}{Q:VK}{RR:Value->Addr->Result->Shared->Prop}(N':List Str)(cap:List (Option Nat))(hc:X.calm=true)(hi:PI X tg iter wi)(hcap:Caps X scope N' cap)
  (hcell:scope.names.all (λy=>y.2 != NameKind.cell)=true)
  (hfr:scope.names.all (λy=>y.2 != NameKind.free||(X.env.kindOf y.1==some NameKind.cell||X.env.kindOf y.1==some NameKind.free))=true)
  (hkind:scope.kind=.function) (I:Inv X pins σ H s) (h:vZ X N' scope tg ifs elt wi cap σ H Q)
  (fin:∀(D C:Addr)(H':Hp)(s4:Shared)(m:Str->Option Value),Inv X pins σ H' s4->Q (.ref D) H'->s4.heap.Ns C m->eF X pins H' C->RR (.ref D) C (.ok .next) s4):
  wpAny (model X.prog X.w) X.A (eval iter X.env) (λx s₁=>wpAny (model X.prog X.w) X.A (pyIter x) (λit s₂=>wpAny (model X.prog X.w) X.A (newList []) (λacc s₃=>
   wpAny (model X.prog X.w) X.A (newFunctionEnv scope X.env.globals (cC X.env scope.names []) [] X.env.qual none .none (some X.env)) (λcenv s₄=>
    codeAny (model X.prog X.w) X.A (.compStart (.ListComp elt [⟨tg,iter,ifs,0⟩] scope pos) 0 it acc { cenv with scope:=relabel scope X.env }) (RR acc cenv.locals) s₄) X.xe s₃) X.xe s₂) X.xe s₁) X.xe s:=by
 have hcell':∀y∈scope.names,y.2≠NameKind.cell:=λy hy=>by
  have:=bo.mp hcell y hy;simpa using this
 have hfr':∀y∈scope.names,y.2=NameKind.free->(X.env.kindOf y.1=some NameKind.cell\/X.env.kindOf y.1=some NameKind.free):=λy hy hl=>by
  have:=bo.mp hfr y hy;simpa [hl] using this
 have hcs:∀y∈scope.names,y.2=NameKind.free->(X.env.cells.lookup y.1).isSome=true:=λy hy hl=>by
  obtain ⟨c,e⟩:=I.ok.has y.1 (hfr' y hy hl);rw[e];rfl
 have clsub:∀x c,(cC X.env scope.names []).lookup x=some c->X.env.cells.lookup x=some c:=CK (λx c e=>by simp at e);have clhas:∀x,scope.names.lookup x=some NameKind.free->∃c,(cC X.env scope.names []).lookup x=some c:=λx e=>by
  have hm:=d4 e;exact cq.mp (CP (hcs _ hm rfl) hm)
 have rel:∀x,(relabel scope X.env).names.lookup x=(scope.names.lookup x).map λk=>if (k==NameKind.free&&X.env.scope.kind==.function&&X.env.kindOf x==some .cell)=true then NameKind.cell else k:=λx=>vY
 have relfree:∀x,((relabel scope X.env).names.lookup x=some NameKind.cell\/(relabel scope X.env).names.lookup x=some NameKind.free)->scope.names.lookup x=some NameKind.free:=λx e=>by
  rw[rel x]at e;cases z:scope.names.lookup x with
  |none=>rw[z]at e;rcases e with e |e <;> cases e
  |some k=>
   have nk:=hcell' _ (d4 z);rw[z]at e;cases k with
   |free=>rfl
   |cell=>exact absurd rfl nk
   | «local»=>rcases e with e |e <;> simp[show (NameKind.«local»==NameKind.free)=false by decide]at e
   |globalExplicit=>rcases e with e |e <;> simp[show (NameKind.globalExplicit==NameKind.free)=false by decide]at e
   |globalImplicit=>rcases e with e |e <;> simp[show (NameKind.globalImplicit==NameKind.free)=false by decide]at e
 generalize hcl:cC X.env scope.names []=cl at clsub clhas;refine thn (hi pins s σ H _ I h) λxv s0 h0=>thn h0 λitv s2 h2=>?_;obtain ⟨it,fp,tn,J,H2,e,I2,T,st2,f2,W,⟨m0,w0⟩,turn⟩:=h2;subst e;refine wpAny_newObj_type (wpAny_newFunctionEnv hcell' (by intro y hy;simp at hy) (λh₁ hns₁ hsb₁=>?_) hkind);dsimp only at hns₁ hsb₁ ⊢;generalize hH2:s2.heap.push { cls:=.type "list",dict:=none,data:=.seq ([]:List Value).toArray }=HP at hns₁ hsb₁ ⊢;have hC:HP.objs.size=s2.heap.objs.size+1:=by rw[<-hH2,dQ]
 have hDC:s2.heap.objs.size≠HP.objs.size:=by rw[hC];exact bX (ge _)
 have below:∀b,b < s2.heap.objs.size->b≠HP.objs.size/\b≠s2.heap.objs.size:=λb hb=>⟨by rw[hC];exact bX (Nat.lt_succ_of_lt hb),bX hb⟩;have old:∀b o,s2.heap.get? b=some o->h₁.get? b=some o:=λb o e=>hsb₁.extBut b o (below b (ay e)).1 (ah _ (hH2 ▸ ah _ e));have hacc:h₁.get? s2.heap.objs.size=some { cls:=.type "list",data:=.seq ([]:List Value).toArray 0 }:=hsb₁.extBut _ _ hDC (ah _ (hH2 ▸ bb _ rfl));have hst₁:tn 0 h₁:=T.keep _ _ _ st2 λb _ o e=>old b o e;have fplt:∀b∈fp,b < s2.heap.objs.size:=λb hb=>by
  obtain ⟨o,e,_⟩:=T.obj _ _ st2 b hb;exact ay e
 have fslt:∀b∈frs X.stack,b < s2.heap.objs.size:=λb hb=>by
  obtain ⟨_,o,e,_⟩:=I2.stack.mem hb;exact ay e
 have celllt:∀x c,cl.lookup x=some c->c < s2.heap.objs.size:=λx c e=>by
  obtain ⟨v,q⟩:=I2.cell x c (clsub x c e);exact q.lt
 have hDf:H2 s2.heap.objs.size=none:=I2.hok.fresh (aE _);have hCf:H2 HP.objs.size=none:=I2.hok.fresh (by rw[hC];exact fI _);have nofs:∀b∈fp,b∉frs X.stack:=λb hb z=>by
  obtain ⟨_,f1,f2',_⟩:=f2 b hb;rcases aI.mp (I2.stkSub b z) with e |e
  ·exact f1 e
  ·exact f2' e
 have ok':(X.comp N' scope cl HP.objs.size s2 H2 fp (X.pn++pins)).Ok:=
  ⟨I2.ok.mod,hkind,I2.ok.glob,I2.ok.blt,(by show s2.heap.objs.size<=HP.objs.size;rw[hC];exact fI _),
   λx y c e1 e2=>I2.ok.inj x y c (clsub x c e1) (clsub y c e2),λx hx=>clhas x (relfree x hx),λx c hf _=>(by cases hf),I2.ok.hd,I2.ok.frames,.inl rfl,
   λb hb=>⟨(below b (fplt b hb)).1,λx c e=>(f2 b hb).2.2.2.2.1 x c (clsub x c e)⟩,I2.bs,cw I2.ok.bsz I2.sz,
   λb o e hb=>(by
    rcases (f2 b hb).2.2.2.1 with z |z
    ·exact I2.ok.noex b o e z
    ·exact absurd (ba (ay e) (cw I2.ok.bsz z)) (ee _)),
   nofs,I2.stack,I2.stkFree⟩
 have pnOk:∀p∈X.pn++pins,p.1 < s2.heap.objs.size/\p.1∉frs X.stack:=λp hp=>by
  obtain ⟨e,_,n1,n2,_⟩:=I2.pin p hp;refine ⟨ay e,λz=>?_⟩;rcases aI.mp (I2.stkSub _ z) with e |e
  ·exact n1 e
  ·exact n2 e
 have I0:∀t,Inv (X.comp N' scope cl HP.objs.size s2 H2 fp (X.pn++pins)) [(s2.heap.objs.size,{ cls:=.type "list",data:=.seq ([]:List Value).toArray 0 })] (dJ cap σ) H2 { s2 with heap:=h₁,toks:=t }:=λt=>
  ⟨ok',rfl,I2.bare,Un.kept old,⟨_,hns₁,λi x v e1 e2 _=>by
    obtain ⟨j,nj,fr,sj⟩:=hcap.at e1 e2;obtain ⟨m,_,hl⟩:=I2.loc;have hk:=hfr' (x,NameKind.free) (d4 fr) rfl;obtain ⟨u,r,l⟩:=hl j x v nj sj (by rcases hk with hk |hk;exact .inr (.inl hk);exact .inr (.inr hk));refine ⟨u,r,.inr ⟨?_,?_⟩⟩
    ·show (relabel scope X.env).names.lookup x=some .cell\/(relabel scope X.env).names.lookup x=some .free;rw[rel x,fr,Option.map_some];by_cases hh:(NameKind.free==NameKind.free&&X.env.scope.kind==ScopeKind.function&&X.env.kindOf x==some NameKind.cell)=true
     ·exact .inl (by rw[if_pos hh])
     ·exact .inr (by rw[if_neg hh])
    ·obtain ⟨c,ec⟩:=clhas x fr;have ec':=clsub x c ec;rcases l with ⟨k1,_⟩ |⟨_,c',e',q⟩
     ·rcases hk with hk |hk <;> (rw[hk]at k1;cases k1)
     ·have ecc:X.env.cells.lookup x=some c:=ec';rw[e']at ecc;cases ecc;obtain ⟨o,ho,hd⟩:=q;exact ⟨_,ec,o,old _ _ ho,hd⟩⟩,
   λx c e=>(by obtain ⟨v,o,ho,hd⟩:=I2.cell x c (clsub x c e);exact ⟨v,o,old _ _ ho,hd⟩),hCf,λx c e=>I2.freeC x c (clsub x c e),
   λp hp=>by
    rcases a9.mp hp with z |z
    ·obtain ⟨e,n0,_,_,d⟩:=I2.pin p z;exact ⟨old _ _ e,n0,(below _ (pnOk p z).1).1,(pnOk p z).2,d⟩
    ·have e:p=_:=a8.mp z;subst e;exact ⟨hacc,hDf,hDC,λz=>absurd (fslt _ z) (ee _),λv z=>by have z':Data.seq _ _=Data.cell v:=z;cases z'⟩,
   I2.hok.kept old,by show (dJ cap σ).length=N'.length;unfold dJ;rw[al];exact hcap.len⟩
 have fpok:∀{H':Hp}{o:Obj},(∀b∈fp,H' b=none)->∀b∈fp,eF (X.comp N' scope cl HP.objs.size s2 H2 fp (X.pn++pins)) [(s2.heap.objs.size,o)] H' b:=λhn b hb=>
  ⟨hn b hb,(below b (fplt b hb)).1,nofs b hb,.inl hb,λx c e=>(f2 b hb).2.2.2.2.1 x c (clsub x c e),λp hp=>by
   rcases a9.mp hp with z |z
   ·exact (f2 b hb).2.2.2.2.2 p z
   ·have e:p=_:=a8.mp z;subst e;exact Ne.symm (below b (fplt b hb)).2⟩
 have loop:∀s₃:Shared,s₃={ s2 with heap:=h₁,toks:=s2.toks+([]:List (Str×Value)).length }->
   codeAny (model X.prog X.w) X.A (.compLoop (.ListComp elt [⟨tg,iter,ifs,0⟩] scope pos) 0 (.ref it) (.ref s2.heap.objs.size) (compEnvC scope cl HP.objs.size X.env))
    (RR (.ref s2.heap.objs.size) HP.objs.size) s₃:=by
  rintro s₃ rfl;refine XS
   (λk s'=>∃(i:Nat) (ys:List V) (its:List Value) (n:Nat) (σ':St) (H':Hp),Inv (X.comp N' scope cl HP.objs.size s2 H2 fp (X.pn++pins)) [(s2.heap.objs.size,{ cls:=.type "list",data:=.seq its.toArray n })] σ' H' s'/\Vals ys its/\
    tn i s'.heap/\(∀b∈fp,H' b=none)/\W i k ys σ' H') ?_ m0 ⟨0,[],[],0,_,H2,I0 _,.nil,hst₁,λb hb=>(f2 b hb).1,w0⟩
  rintro k s3 ⟨i,ys,its,n,σ3,H3,I3,rv3,st3,fr3,w3⟩;rcases turn i k ys σ3 H3 w3 with ⟨stop,hz,qn⟩ |⟨go,hz,step⟩
  ·refine thn (T.done (X.comp N' scope cl HP.objs.size s2 H2 fp (X.pn++pins)) rfl rfl rfl hc i _ s3 σ3 H3 _ I3 (fpok fr3) st3 stop) λr s4 ⟨hr,I4⟩=>?_;subst hr;obtain ⟨m,hn,_⟩:=I4.loc;obtain ⟨pD,nD,_,_,_⟩:=I4.pin (s2.heap.objs.size,{ cls:=.type "list",data:=.seq its.toArray n }) (bg _ (a8.mpr rfl));have nC:H3 HP.objs.size=none:=I4.free;have u:Un (frs X.stack) fp H2 H3 s2.heap s4.heap:=I4.base;refine fin s2.heap.objs.size HP.objs.size (upd H3 s2.heap.objs.size (.lst ys)) s4 m ?_ (qn _ nD) hn ?_
   ·refine I2.call' (s':=s4) (ch:=fp) I4.os ?_ ?_ I4.bare λb hb=>⟨(f2 b hb).2.2.2.1,(f2 b hb).2.1,(f2 b hb).2.2.2.2.1,(f2 b hb).2.2.2.2.2⟩
    ·refine ⟨λb o e n0 hb hx=>u.keep b o e n0 hb hx,λb o e n0 hb hx=>u.slot b o e n0 hb hx,λb o e n0 hx=>?_,λb o e hx=>u.there b o e hx,λb xs e=>?_,λb o v e=>?_,λb ps e=>?_⟩
     ·rw[aG (below b (ay e)).2];exact u.free b o e n0 hx
     ·rw[aG (aU e hDf)];exact u.tups b xs e
     ·rw[aG (aU e hDf)];exact u.frzs b o v e
     ·rw[aG (aU e hDf)];exact u.tbls b ps e
    ·intro b o e;by_cases hb:b=s2.heap.objs.size
     ·subst hb;rw[bW]at e;cases e;exact ⟨hz,its,n,rv3,pD⟩
     ·rw[aG hb]at e;exact (I4.hok b o e).stay (λc v _ q=>q) (λc q=>by rw[aG (aU q nD)];exact q) λc xs q=>by rw[aG (aU q nD)];exact q
   ·have hle:s2.heap.objs.size<=HP.objs.size:=by rw[hC];exact fI _
    exact I2.fpOk hle (by rw[aG (Ne.symm hDC)];exact nC)
  ·refine thn (T.item (X.comp N' scope cl HP.objs.size s2 H2 fp (X.pn++pins)) rfl rfl rfl hc i _ s3 σ3 H3 _ I3 (fpok fr3) st3 go) λr s4 ⟨u,hr,h4⟩=>?_;subst hr;refine thn h4 λ_ s5 ⟨x,H5,I5,r5,y5,st5,fr5⟩=>?_;obtain ⟨g,tt,te,hg,ht,he,body⟩:=step cl HP.objs.size s2 H2 fp (X.pn++pins);have I5':=I5.pinned (fpok fr5) (T.obj _ _ st5);have tail:∀{σ7:St}{H7:Hp}{s7:Shared}{po:Obj},Inv (X.comp N' scope cl HP.objs.size s2 H2 fp (X.pn++pins)) ([(s2.heap.objs.size,po)]++lq fp s5.heap) σ7 H7 s7->tn (i+1) s7.heap/\∀b∈fp,H7 b=none:=λ{σ7 H7 s7 po} I7=>by
    refine ⟨T.keep _ _ _ st5 λb hb o e=>(I7.pin (b,o) (bg _ (bg _ (qm hb e)))).1,λb hb=>?_⟩;obtain ⟨o,e,d⟩:=T.obj _ _ st5 b hb;exact (I7.pin (b,o) (bg _ (bg _ (qm hb e)))).2.1
   refine thn (hg _ s5 σ3 H5 x u _ I5' r5 (body x H5 y5)) λ_ s6 ⟨σ6,H6,I6,q6⟩=>?_;refine thn (ht _ s6 σ6 H6 _ I6 q6) λok s7 ⟨H7,I7,q7⟩=>?_;cases ok with
   |false=>
    obtain ⟨m',hm,w7⟩:=q7;obtain ⟨t7,n7⟩:=tail I7;exact ⟨m',hm,i+1,ys,its,n,σ6,H7,I7.unpinned,rv3,t7,n7,w7⟩
   |true=>
    refine thn (he _ s7 σ6 H7 _ I7 q7) λv s8 ⟨y,H8,I8,r8,m',hm,w8⟩=>?_;obtain ⟨t8,n8⟩:=tail I8;obtain ⟨pD,nD,_,_,_⟩:=I8.pin (s2.heap.objs.size,{ cls:=.type "list",data:=.seq its.toArray n }) (bg _ (dL _ (a8.mpr rfl)));have hl:=rv3.length;refine append_at (hsz:=by rw[am];omega) pD λh9 hs9 hD9=>?_;have I8a:Inv (X.comp N' scope cl HP.objs.size s2 H2 fp (X.pn++pins)) [] σ6 H8 s8:=I8.pins_of λp hp=>nomatch hp;have I9:Inv (X.comp N' scope cl HP.objs.size s2 H2 fp (X.pn++pins)) [] σ6 H8 { s8 with heap:=h9 }:=I8a.turned (t':=s8.toks) (it:=s2.heap.objs.size) (λb o hb e=>hs9.extBut b o hb e) nD hDC (.inr (aE _))
     (λx c e z=>absurd (celllt x c e) (by rw[z];exact ee _)) (λp hp z=>by
      rcases a9.mp hp with hp |hp
      ·exact absurd (pnOk p hp).1 (by rw[z];exact ee _)
      ·exact nomatch hp)
    have hD9':h9.get? s2.heap.objs.size=some { cls:=.type "list",data:=.seq (its++[v]).toArray (n+1) }:=by rw[hD9,List.push_toArray]
    refine ⟨m',hm,i+1,ys++[y],its++[v],n+1,σ6,H8,I9.pins_of λp hp=>?_,rv3.append (.cons r8 .nil),T.keep _ _ _ t8 λb hb o e=>hs9.extBut b o (below b (fplt b hb)).2 e,n8,w8⟩;have e:p=_:=a8.mp hp;subst e;exact ⟨hD9',nD,hDC,λz=>absurd (fslt _ z) (ee _),λv z=>by have z':Data.seq _ _=Data.cell v:=z;cases z'⟩
 exact codeAny_compStart_list (loop _ rfl) (T.self X.A 0 _ _ _ hst₁ (loop _ rfl))
theorem Ym{X:Cx}{elt tg iter:Expr}{ifs:List Expr}{scope:Scope}{pos:Pos}{wi:TI}(N':List Str)(cap:List (Option Nat))(hc:X.calm=true)(hi:PI X tg iter wi)(hcap:Caps X scope N' cap)
  (hcell:scope.names.all (λy=>y.2 != NameKind.cell)=true) (hnames:scope.names.all (λy=>y.2 != NameKind.local||scope.names.lookup y.1==some NameKind.local)=true)
  (hfr:scope.names.all (λy=>y.2 != NameKind.free||(X.env.kindOf y.1==some NameKind.cell||X.env.kindOf y.1==some NameKind.free))=true)
  (hkind:scope.kind=.function) (hs:∀x,foldedSetIterable iter X.env x=pure x):
  PE X (.ListComp elt [⟨tg,iter,ifs,0⟩] scope pos) (vZ X N' scope tg ifs elt wi cap):=by
 intro pins s σ H Q I h;have hnames':∀y∈scope.names,y.2=NameKind.local->scope.names.lookup y.1=some NameKind.local:=λy hy hl=>by
  have:=bo.mp hnames y hy;simpa [hl] using this
 have hcs:∀y∈scope.names,y.2=NameKind.free->(X.env.cells.lookup y.1).isSome=true:=λy hy hl=>by
  have:=bo.mp hfr y hy;obtain ⟨c,e⟩:=I.ok.has y.1 (by simpa [hl] using this);rw[e];rfl
 rw[eval_ListComp];refine wpAny_comprehension_free (use:=none) (Q:=EP X pins σ Q) rfl hs (CQ hcs) hkind hnames'
  (Dk (RR:=λacc C=>compPost (model X.prog X.w) X.A X.xe none (EP X pins σ Q) acc C) N' cap hc hi hcap hcell hfr hkind I h λL C H' s4 m I4 q hn fC=>?_)
 obtain ⟨f0,f1,f2,f3,f4,f5⟩:=fC;exact ⟨m,hn,λh' hs'=>⟨.ref L,H',I4.turned (t':=s4.toks) (it:=C) (λb o hb e=>hs'.extBut b o hb e) f0 f1 f3 f4 f5,rfl,q⟩⟩
theorem Yn{X:Cx}{elt tg iter:Expr}{ifs:List Expr}{scope:Scope}{pos py spos:Pos}{wi:TI}{i:Nat}{y:Str}(hN:X.N.Nodup)(hiy:X.N[i]?=some y)(hy:Loc X.env.scope y)(N':List Str)(cap:List (Option Nat))(hc:X.calm=true)(hi:PI X tg iter wi)(hcap:Caps X scope N' cap)
  (hcell:scope.names.all (λy=>y.2 != NameKind.cell)=true:=by rfl) (hnames:scope.names.all (λy=>y.2 != NameKind.local||scope.names.lookup y.1==some NameKind.local)=true:=by rfl)
  (hfr:scope.names.all (λy=>y.2 != NameKind.free||(X.env.kindOf y.1==some NameKind.cell||X.env.kindOf y.1==some NameKind.free))=true:=by rfl)
  (hkind:scope.kind=.function:=by rfl) (hs:∀x,foldedSetIterable iter X.env x=pure x:=by intro _;rfl)
  (hsw:swapsWith (.ListComp elt [⟨tg,iter,ifs,0⟩] scope pos) (some (.Name y py)) spos.line X.env=pure true:=by rfl)
  (hf:X.fn y=true\/X.env.scope.names.lookup y=some .local:=by first |exact .inl rfl |exact .inr rfl |assumption):
  PS X (.Assign [.Name y py] (.ListComp elt [⟨tg,iter,ifs,0⟩] scope pos) spos) (qi (vZ X N' scope tg ifs elt wi cap) (qg i)):=by
 intro pins s σ H D I h;have hnames':∀y∈scope.names,y.2=NameKind.local->scope.names.lookup y.1=some NameKind.local:=λy hy hl=>by
  have:=bo.mp hnames y hy;simpa [hl] using this
 have hcs:∀y∈scope.names,y.2=NameKind.free->(X.env.cells.lookup y.1).isSome=true:=λy hy hl=>by
  have:=bo.mp hfr y hy;obtain ⟨c,e⟩:=I.ok.has y.1 (by simpa [hl] using this);rw[e];rfl
 rw[exec_Assign_Name_used _ _ _ _ hsw];refine ag (wpAny_standAt (ag ?_));show wpAny _ X.A (do let _ <-comprehension (.ListComp elt [⟨tg,iter,ifs,0⟩] scope pos) scope X.env _ (newList []) false (eval iter X.env) (some (assign (.Name y py) X.env))) _ _ s;refine ag (cp (wpAny_comprehension_free (use:=some (assign (.Name y py) X.env)) (Q:=λ_ s'=>SP X pins D .next s') rfl hs (CQ hcs) hkind hnames'
  (Dk (RR:=λacc C=>compPost (model X.prog X.w) X.A X.xe (some (assign (.Name y py) X.env)) (λ_ s'=>SP X pins D .next s') acc C) N' cap hc hi hcap hcell hfr hkind I h λL C H' s4 m I4 q hn fC=>?_)) (λ_ s' hq=>a7 (a7 hq)) λ_ _ e=>e)
 obtain ⟨oC,es,ep,eC,rC⟩:=id hn;obtain ⟨f0,f1,f2,f3,f4,f5⟩:=fC;have ncell:∀v,oC.data≠.cell v:=λv z=>by rw[rC.1]at z;cases z
 have I5:Inv X (pins++[(C,oC)]) σ H' s4:=I4.pins_of λp hp=>by
  rcases a9.mp hp with z |z
  ·exact I4.pin p (bg _ z)
  ·have e:p=_:=a8.mp z;subst e;exact ⟨eC,f0,f1,f2,ncell⟩
 refine wpAny_assign_Name (lg I5 hN hiy hy (v:=.ref L) (u:=.ref L) rfl (λs5 I6=>?_) hf);have eC5:s5.heap.get? C=some oC:=(I6.pin (C,oC) (bg _ (bg _ (a8.mpr rfl)))).1;have I7:Inv X pins (σ.set i (some (.ref L))) H' s5:=I6.pins_of λp hp=>I6.pin p (bg _ (dL _ hp));refine ⟨m,⟨oC,es,ep,eC5,rC⟩,λh'' hs''=>?_⟩;exact ⟨_,H',I7.turned (t':=s5.toks) (it:=C) (λb o hb e=>hs''.extBut b o hb e) f0 f1 f3 f4 f5,q⟩
section
variable {X:Cx}
theorem Yo:OpR X (compareOp .IsNot) (λx y H Q=>∃i j,x=.bl i/\y=.bl j/\Q (.bl (i != j)) H):=by intro pins s σ H x y v u Q I rx ry h;obtain ⟨i,j,rfl,rfl,q⟩:=h;cases rx;cases ry;exact isnot_bool ⟨.bl _,H,I,rfl,q⟩
end
def noStar:Expr->Bool
 |.Starred ..=>false
 |_=>true
theorem bI(e:Expr)(es:List Expr)(env:Env)(h:noStar e=true):starEach (e::es) env=(false,eval e env)::starEach es env:=by cases e <;> first |rfl |cases h
variable {X:Cx} {e st:Expr} {te ts:TE} {p2 pos:Pos}
noncomputable def holes(h:Heap)(l:List Addr):Heap:={ h with objs:=h.objs.mapIdx λi o=>if l.contains i then { o with data:=.freed } else o }
theorem Dl{h:Heap}{l:List Addr}{b:Addr}:(holes h l).get? b=if l.contains b then none else h.get? b:=by
 unfold holes Heap.get?;simp only[Array.getElem?_mapIdx];cases hb:h.objs[b]? with
 |none=>simp
 |some o=>
  cases hc:l.contains b with
  |true=>simp[hc]
  |false=>simp[hc]
theorem gr{h:Heap}{l:List Addr}{b:Addr}(hb:b∈l):(holes h l).get? b=none:=by rw[Dl,aT.mpr hb];rfl
theorem v9{h:Heap}{l:List Addr}{b:Addr}(hb:b∉l):(holes h l).get? b=h.get? b:=by
 rw[Dl];cases hc:l.contains b with
 |true=>exact absurd (aT.mp hc) hb
 |false=>rfl
theorem qC{h:Heap}{l:List Addr}:(holes h l).StaysIn h:=λb o e=>by
 by_cases hb:b∈l
 ·rw[gr hb]at e;cases e
 ·rw[v9 hb]at e;exact e
theorem ObjOk.at{P:Program}{w:World}{H:Hp}{h:Heap}{a:Addr}{o:HO}(x:ObjOk P w H h a o):∃u,h.get? a=some u:=by
 cases o with
 |lst xs=>obtain ⟨_,_,_,_,e⟩:=x;exact ⟨_,e⟩
 |tup xs=>obtain ⟨_,_,_,o,e,_⟩:=x;exact ⟨_,e⟩
 |dK kvs=>obtain ⟨_,_,_,_,o,_,_,e,_⟩:=x;exact ⟨_,e⟩
 |dT kvs=>obtain ⟨_,_,_,_,o,_,_,e,_⟩:=x;exact ⟨_,e⟩
 |set S n=>obtain ⟨o,_,_,_,e,_⟩:=x;exact ⟨_,e⟩
 |ins C dx fs=>obtain ⟨_,_,_,e,_⟩:=x;exact ⟨_,e⟩
 |own y=>exact x
 |xd fs=>obtain ⟨_,⟨_,_,_,e,_⟩,_⟩:=x;exact ⟨_,e⟩
 |rng lo hi=>obtain ⟨_,_,_,e⟩:=x;exact ⟨_,e⟩
 |frz ob u=>obtain ⟨e,_⟩:=x;exact ⟨_,e⟩
 |tbl ps=>exact ⟨_,(show h.get? a=some _ from x)⟩
 |met f y=>exact ⟨_,(show h.get? a=some _ from x)⟩
 |ext φ=>obtain ⟨_,e,_⟩:=x;exact e
theorem HOk.gone{P:Program}{w:World}{H:Hp}{h:Heap}{a:Addr}(x:HOk P w H h)(e:h.get? a=none):H a=none:=by
 cases q:H a with
 |none=>rfl
 |some u=>obtain ⟨o,ho⟩:=(x a u q).at;rw[ho]at e;cases e
theorem wg{h base:Heap}:∀{l:List Env},h.FunFrames base l->∀b∈frs l,∃o,h.get? b=some o/\∀vs,o.data≠.fields vs
 |[],_,b,hb=>by cases hb
 |env::l,hf,b,hb=>by
  unfold Heap.FunFrames at hf;obtain ⟨_,⟨L,o,e1,_,e3,e4⟩,hr⟩:=hf;unfold frs at hb;rw[fv,e1]at hb;rcases aI.mp hb with rfl |hb
  ·exact ⟨o,e3,e4⟩
  ·exact wg hr b hb
theorem lu{h base:Heap}{x:List Addr}:∀{l:List Env},h.FunFrames base l->(∀b∈frs l,b∈x)->h.FunFrames (holes h x) l
 |[],_,_=>by unfold Heap.FunFrames;trivial
 |env::l,hf,hx=>by
  unfold Heap.FunFrames at hf ⊢;obtain ⟨h1,⟨L,o,e1,_,e3,e4⟩,hr⟩:=hf;have hL:L∈frs (env::l):=by unfold frs;rw[fv,e1];exact cb
  refine ⟨h1,⟨L,o,e1,gr (hx L hL),e3,e4⟩,lu hr λb hb=>hx b ?_⟩;unfold frs at hb ⊢;rw[fv,e1];exact bp _ hb
theorem wj{h base:Heap}{env:Env}{l:List Env}(hf:h.FunFrames base (env::l)):∃L,env.frame=some L:=by unfold Heap.FunFrames at hf;obtain ⟨_,⟨L,o,e1,_⟩,_⟩:=hf;exact ⟨L,e1⟩
def Tr(h0:Heap)(H:Hp)(h:Heap)(a:Addr)(c:Value):Prop:=
 ∃oe vs T oT ts,h.get? a=some oe/\oe.cls=c/\oe.data=.fields vs/\vs[1]?=some (.ref T)/\T≠a/\h.get? T=some oT/\oT.data=.fields ts/\ts[3]?=some .none/\
  h0.get? a=none/\h0.get? T=none/\H a=none/\H T=none
def CX1(P:Program)(w:World):CXT:=λouter H s E e s'=>
 ∃(a:Addr)(c:Value)(H':Hp),e=.ref a/\s'.os=s.os/\AllBare s'.gens/\Un (frs outer) [] H H' s.heap s'.heap/\HOk P w H' s'.heap/\Tr s.heap H' s'.heap a c/\E c none H'
theorem Dm{P:Program}{w:World}{fs st:List Addr}{H0 H:Hp}{h0 h h':Heap}{l:List Env}{a:Addr}{xs:List Addr}{c:Value}(un:Un fs [] H0 H h0 h)(hok:HOk P w H h)
  (up:∀b∈fs,b∈st) (old:∀b o,h0.get? b=some o->b∉fs->b∉st) (fr:∀b∈st,H b=none/\∃o,h.get? b=some o/\∀vs,o.data≠.fields vs)
  (ha:h0.get? a=none) (hHa:H a=none) (hxs:∀x∈xs,h0.get? x=none/\H x=none)
  (L:(holes h (st++a::xs)).Left l a c h h'):Un fs [] H0 H h0 h'/\HOk P w H h'/\Tr h0 H h' a c:=by
 obtain ⟨stay,_,tr,slots⟩:=L;have old:∀b o,h0.get? b=some o->b∉fs->b∉st++a::xs:=by
  intro b o hb hf hin;rcases a9.mp hin with hin |hin
  ·exact old b o hb hf hin
  ·rcases aI.mp hin with e |e
   ·rw[e,ha]at hb;cases hb
   ·rw[(hxs b e).1]at hb;cases hb
 have kept:∀b o,h.get? b=some o->b∉st++a::xs->h'.get? b=some o:=λb o e hn=>stay b o (by rw[v9 hn];exact e);have trk:∀b o,H b=some o->b∉st++a::xs:=by
  intro b o hb hin;rcases a9.mp hin with hin |hin
  ·rw[(fr b hin).1]at hb;cases hb
  ·rcases aI.mp hin with e |e
   ·rw[e,hHa]at hb;cases hb
   ·rw[(hxs b e).2]at hb;cases hb
 have noex:∀b:Addr,b∉([]:List Addr):=λb hb=>by cases hb
 have frd:∀b∈st,∀o,h.get? b=some o->∀vs,o.data≠.fields vs:=by intro b hb o ho vs;obtain ⟨_,o',e1,e2⟩:=fr b hb;rw[e1]at ho;cases ho;exact e2 vs
 refine ⟨⟨?_,?_,?_,?_,un.tups,un.frzs,un.tbls⟩,?_,?_⟩
 ·intro b o hb hn hf _;exact kept b o (un.keep b o hb hn hf (noex b)) (old b o hb hf)
 ·intro b o hb hn hf _;obtain ⟨sl,e⟩:=un.slot b o hb hn hf (noex b);obtain ⟨sl',e'⟩:=slots b _ e (frd b (up b hf) _ e);exact ⟨sl',e'⟩
 ·intro b o hb hn _;exact un.free b o hb hn (noex b)
 ·intro b o hb _;obtain ⟨o',e⟩:=un.there b o hb (noex b);by_cases hin:b∈st++a::xs
  ·rcases a9.mp hin with h1 |h1
   ·obtain ⟨sl',e'⟩:=slots b _ e (frd b h1 _ e);exact ⟨_,e'⟩
   ·rcases aI.mp h1 with e2 |e2
    ·rw[e2,ha]at hb;cases hb
    ·rw[(hxs b e2).1]at hb;cases hb
  ·exact ⟨_,kept b o' e hin⟩
 ·intro b o hb;refine (hok b o hb).stay (λb' u hb' e=>kept b' u e ?_) (λ_ z=>z) λ_ _ z=>z;rcases hb' with rfl |hb'
  ·exact trk _ _ hb
  ·exact trk _ _ hb'
 ·obtain ⟨oe,vs,T,oT,ts,t1,t2,t3,t4,t5,t6,t7,t8,t9⟩:=tr;have hT:T∈xs\/h.get? T=none:=by
   by_cases hin:T∈st++a::xs
   ·rcases a9.mp hin with h1 |h1
    ·exfalso;obtain ⟨_,o,e1,e2⟩:=fr T h1;obtain ⟨sl,e3⟩:=slots T o e1 e2;rw[e3]at t7;cases t7;exact e2 ts t8
    ·rcases aI.mp h1 with e2 |e2
     ·exact absurd e2 t6
     ·exact .inl e2
   ·rw[v9 hin]at t5;exact .inr t5
  refine ⟨oe,vs,T,oT,ts,t1,t2,t3,t4,t6,t7,t8,t9,ha,?_,hHa,?_⟩
  ·rcases hT with h1 |h1
   ·exact (hxs T h1).1
   ·cases e:h0.get? T with
    |none=>rfl
    |some o=>obtain ⟨o',e'⟩:=un.there T o e (noex T);rw[e']at h1;cases h1
  ·rcases hT with h1 |h1
   ·exact (hxs T h1).2
   ·exact hok.gone h1
section
variable {X:Cx} {pins:List (Addr×Obj)} {σ:St} {H:Hp} {s:Shared}
theorem Do(J:Inv X pins σ H s)(hst:X.stack=X.env::X.outer)(hex:X.ex=[]){a:Addr}{xs:List Addr}{c:Value}{E:XK}
  (ha:X.s₀.heap.get? a=none) (hHa:H a=none) (hxs:∀x∈xs,X.s₀.heap.get? x=none/\H x=none)
  {h':Heap} (L:(holes s.heap (frs X.stack++a::xs)).Left (X.env::X.outer) a c s.heap h') (q:E c none H):
  CX1 X.prog X.w X.outer X.H₀ X.s₀ E (.ref a) { s with heap:=h' }:=by
 have sub:=J.stkSub;have hb0:=J.base;rw[hex]at hb0;have up:∀b∈X.fs,b∈frs X.stack:=by
  intro b hb;rw[hst];unfold Cx.fs at hb;unfold frs at hb ⊢;rw[fv];split
  ·exact hb
  ·exact bp _ hb
 have old:∀b o,X.s₀.heap.get? b=some o->b∉X.fs->b∉frs X.stack:=by
  intro b o hb hf hin;rcases aI.mp (sub b hin) with e |e
  ·have h1:=ay hb;have h2:=J.ok.above;rw[e]at h1;exact absurd h1 (Nat.not_lt.mpr h2)
  ·exact hf e
 obtain ⟨u,k,t⟩:=Dm hb0 J.hok up old (λb hb=>⟨J.stkFree b hb,wg J.stack b hb⟩) ha hHa hxs L;exact ⟨a,c,H,rfl,J.os,J.bare,u,k,t,q⟩
theorem Yp(J:Inv X pins σ H s)(hst:X.stack=X.env::X.outer)(hex:X.ex=[]){a:Addr}{c:Value}{E:XK}(t:Tr X.s₀.heap H s.heap a c)(q:E c none H){E':Value->Shared->Prop}:
  wpAny (model X.prog X.w) X.A (leaving X.env (.ref a)) (λ_ s''=>CX1 X.prog X.w X.outer X.H₀ X.s₀ E (.ref a) s'') E' s:=by
 obtain ⟨oe,vs,T,oT,ts,t1,t2,t3,t4,t6,t7,t8,t9,n1,n2,n3,n4⟩:=t;have hfr:=J.stack;rw[hst]at hfr;obtain ⟨L,hL⟩:=wj hfr;have sub:∀b∈frs (X.env::X.outer),b∈frs X.stack++a::[T]:=λb hb=>by rw[hst];exact dL _ hb
 refine wpAny_leaving_next (base:=holes s.heap (frs X.stack++a::[T])) (cls:=c) (by rw[J.ok.frames,hst]) (lu hfr sub) hL ?_ qC (gr (by simp)) λh' hl=>?_
 ·exact ⟨oe,vs,T,oT,ts,t1,t2,t3,t4,gr (by simp),t6,t7,t8,t9⟩
 ·exact Do J hst hex n1 n3 (λx hx=>by rw[a8.mp hx];exact ⟨n2,n4⟩) hl q
theorem Yq{h':Heap}(I:Inv X pins σ H s)(hst:X.stack=X.env::X.outer)(hex:X.ex=[]){a:Addr}{c:Value}{args:List Value}{E:XK}(m:s.heap.MadeExcOf h' a c args)(q:E c none H){E':Value->Shared->Prop}:
  wpAny (model X.prog X.w) X.A (leaving X.env (.ref a)) (λ_ s''=>CX1 X.prog X.w X.outer X.H₀ X.s₀ E (.ref a) s'') E' { s with heap:=h' }:=by
 have J:Inv X pins σ H { s with heap:=h' }:=I.kept (t':=s.toks) m.keeps;have hfr:=J.stack;rw[hst]at hfr;obtain ⟨L,hL⟩:=wj hfr;have sub:∀b∈frs (X.env::X.outer),b∈frs X.stack++a::[]:=λb hb=>by rw[hst];exact dL _ hb
 obtain ⟨t,e,_,_⟩:=m.there;have n1:X.s₀.heap.get? a=none:=by
  cases e:X.s₀.heap.get? a with
  |none=>rfl
  |some o=>
   obtain ⟨o',e'⟩:=I.base.there a o e (by rw[hex];simp);rw[m.new]at e';cases e'
 refine wpAny_leaving_first (base:=holes h' (frs X.stack++a::[])) (by rw[J.ok.frames,hst]) (lu hfr sub) hL e qC (gr (by simp)) rfl rfl λh'' hl=>?_;exact Do J hst hex n1 (I.hok.gone m.new) (λx hx=>by cases hx) hl q
theorem Yr{E:XK}(hst:X.stack=X.env::X.outer)(hex:X.ex=[])(hxe:∀e s',wpAny (model X.prog X.w) X.A (leaving X.env e) (λ_ s''=>CX1 X.prog X.w X.outer X.H₀ X.s₀ E e s'') (λe' s''=>CX1 X.prog X.w X.outer X.H₀ X.s₀ E e' s'') s'->X.xe e s'):
  eG (CX1 X.prog X.w) X E:=by
 intro pins σ H s e s' I h;obtain ⟨a,c,H',rfl,ho,hg,un,hok,tr,q⟩:=h;have J:Inv X pins σ H' s':=I.call' (ch:=[]) ho un hok hg (λb z=>absurd z (by simp));refine hxe _ _ (Yp J hst hex ?_ q);obtain ⟨oe,vs,T,oT,ts,t1,t2,t3,t4,t6,t7,t8,t9,n1,n2,n3,n4⟩:=tr;have old:∀b,s.heap.get? b=none->X.s₀.heap.get? b=none:=λb hb=>by
  cases e:X.s₀.heap.get? b with
  |none=>rfl
  |some o=>
   obtain ⟨o',e'⟩:=I.base.there b o e (by rw[hex];simp);rw[hb]at e';cases e'
 exact ⟨oe,vs,T,oT,ts,t1,t2,t3,t4,t6,t7,t8,t9,old a n1,old T n2,n3,n4⟩
theorem Dp{P:Program}{w:World}(Y:Cx):eG (CX1 P w) Y λ_ _ _=>False:=λ_ _ _ _ _ _ _ h=>by
 obtain ⟨_,_,_,_,_,_,_,_,_,q⟩:=h;exact q.elim
end
abbrev veM:List Value:=[.type "ValueError",.type "Exception",.type "BaseException",.type "object"]
noncomputable def wk:List Value->Bool
 |[.type a,.type b,.type c,.type d]=>a=="ValueError"&&b=="Exception"&&c=="BaseException"&&d=="object"
 |_=>false
theorem Ys{l:List Value}(h:wk l=true):l=veM:=by
 unfold wk at h;split at h
 ·simp only[ae,ar]at h;obtain ⟨⟨⟨rfl,rfl⟩,rfl⟩,rfl⟩:=h;rfl
 ·cases h
def Dq:Value->Bool
 |.str _ _=>true
 |_=>false
noncomputable def nsB(K:PF)(N:Addr):Bool:=match K.lookup N with
 |some ⟨_,_,.dict es _,_⟩=>es.toList.all (λe=>Dq e.key)&&quietNames.all λn=>(nsFind es n).isNone
 |_=>false
theorem Ds{K:PF}{N:Addr}{h:Heap}(KX:K.In h)(b:nsB K N=true):∃m,h.Ns N m/\∀n∈quietNames,m n=none:=by
 unfold nsB at b;split at b
 ·rename_i c d es ep sl e;rw[ae,bo,bo]at b;refine ⟨nsFind es,⟨_,es,ep,KX _ _ e,rfl,λx hx=>?_,λ_=>rfl⟩,λn hn=>by simpa using b.2 n hn⟩;have:=b.1 x (Array.mem_toList_iff.mpr hx);unfold Dq at this;split at this
  ·rename_i y t e;exact ⟨_,_,e⟩
  ·cases this
 ·cases b
noncomputable def Dt(K:PF)(A:Addr):Bool:=match K.lookup A with
 |some ⟨_,_,.cls cd,_⟩=>nsB K cd.ns
 |_=>false
noncomputable def qD(K:PF):List Value->Bool
 |[]=>false
 |v::tl=>(match v with |.ref A=>Dt K A&&qD K tl |_=>wk (v::tl))
theorem Du{K:PF}{h:Heap}(KX:K.In h):∀{l:List Value},qD K l=true->OwnTailQ h veM l
 |[],b=>by cases b
 |v::tl,b=>by
  unfold qD at b;split at b
  ·rename_i A;rw[ae]at b;have b1:=b.1;unfold Dt at b1;split at b1
   ·rename_i c d cd sl e;obtain ⟨m,hm,hq⟩:=Ds KX b1;exact .own (KX _ _ e) hm hq (Du KX b.2)
   ·cases b1
  ·rw[Ys b];exact .base
def isRef(C:Addr):Value->Bool
 |.ref a=>a==C
 |_=>false
def isNew:Option Value->Bool
 |some (.builtin s)=>s=="ValueError.__new__"
 |_=>false
def Dv:Value->Bool
 |.type s=>s=="type"
 |_=>false
noncomputable def iw(K:PF)(C:Addr):Bool:=match K.lookup C with
 |some ⟨ty,_,.cls cd,⟨[_,_,_,_,k,_]⟩⟩=>Dv ty&&isNew k&&nsB K cd.ns&&!cd.hasDel&&(match cd.mro with |v::tl=>isRef C v&&qD K tl |[]=>false)
 |_=>false
theorem Yt {K:PF} {C:Addr} {h:Heap} {mg:Str->Option Value} {x:Str} (KX:K.In h) (b:iw K C=true) (hm:mg x=some (.ref C)):OwnClsQ x C veM "ValueError.__new__" mg h:=by
 unfold iw at b;split at b
 ·rename_i ty dd cd k0 k1 k2 k3 k k5 e;simp only[ae]at b;obtain ⟨⟨⟨⟨b1,b2⟩,b3⟩,b5⟩,b4⟩:=b;obtain ⟨m,hns,hq⟩:=Ds KX b3;have e1:ty=.type "type":=by
   unfold Dv at b1;split at b1
   ·rw[ar]at b1;rw[b1]
   ·cases b1
  have e2:k=some (.builtin "ValueError.__new__"):=by
   unfold isNew at b2;split at b2
   ·rw[ar]at b2;rw[b2]
   ·cases b2
  obtain ⟨nm,bs,mro,ns,q,hd,sn,sub,ab,col,del⟩:=cd;dsimp only at b4 hns b5;have e4:del=false:=by simpa using b5
  subst e4;split at b4
  ·rename_i v tl;rw[ae]at b4;have e3:v=.ref C:=by
    have:=b4.1;unfold isRef at this;split at this
    ·rw[ar]at this;rw[this]
    ·cases this
   subst e1 e2 e3;exact ⟨hm,tl,ns,nm,q,bs,hd,sn,sub,ab,col,dd,k0,k1,k2,k3,k5,m,KX _ _ e,hns,hq,Du KX b4.2⟩
  ·cases b4
 ·cases b
theorem Yu{h:Heap}{bmB bm:List Value}(t:OwnTail h bmB bm){v:Value}(hv:bmB.contains v=true):bm.contains v=true:=by
 induction t with
 |base=>exact hv
 |own _ _ _ _ ih=>rw[List.contains_cons,ih,Bool.or_true]
theorem Dw{h h':Heap}(k:∀b o,h.get? b=some o->h'.get? b=some o){N:Addr}{m:Str->Option Value}(n:h.Ns N m):h'.Ns N m:=by obtain ⟨o,es,ep,e,r⟩:=n;exact ⟨o,es,ep,k _ _ e,r⟩
theorem Yv{h h':Heap}(k:∀b o,h.get? b=some o->h'.get? b=some o){bmB bm:List Value}(t:OwnTail h bmB bm):OwnTail h' bmB bm:=by
 induction t with
 |base=>exact .base
 |own e n i _ ih=>exact .own (k _ _ e) (Dw k n) i ih
section
variable {X:Cx}
abbrev TJ:=St->Hp->(Hp->Prop)->Prop
def PJ(X:Cx)(es:List Expr)(t:TJ)(n:Nat):Prop:=∀(pins:List (Addr×Obj))(s:Shared)(σ:St)(H:Hp)(Q:Hp->Prop)(out:Str),Inv X pins σ H s->out.length+n<=100000->t σ H Q->
 wpAny (model X.prog X.w) X.A (joinParts out (evalEach es X.env)) (EP X pins σ λv H'=>(∃x,v=.str x)/\Q H') X.xe s
theorem Yw:PJ X [] (λ_ H Q=>Q H) 0:=λpins s σ H Q out I hl q=>by
 refine joinParts_nil ⟨.str out,H,I.tok _,⟨_,rfl⟩,⟨_,rfl⟩,q⟩ ?_;have:sizeLine≥100000:=by decide
 omega
theorem qF(x y:Str):(x++y).length=x.length+y.length:=by show (x.cps++y.cps).size=_;rw[Array.size_append];rfl
theorem Yx{y:Str}{k:Nat}{p:Pos}{es:List Expr}{t:TJ}{n:Nat}(h:PJ X es t n):PJ X (.Constant (.str y) k p::es) t (y.length+n):=λpins s σ H Q out I hl q=>by
 have hz:sizeLine≥100000:=by decide
 refine joinParts_consE (joinParts_cons (Calls.Constant_str ?_));dsimp only;refine ⟨by rw[qF];omega,h pins _ σ H Q _ (I.tok _) (by rw[qF];omega) q⟩
theorem digits_le:∀n:Fin 100,(Str.ofString (toString (n.val:Int))).length<=3:=by ac_rfl
theorem Yy{e:Expr}{te:TE}{p:Pos}{es:List Expr}{t:TJ}{n:Nat}(he:PE X e te)(h:PJ X es t n):PJ X (.FormattedValue e (-1) none p::es) (λσ H Q=>te σ H λv H1=>(∃m:Nat,v=.int m/\m < 100)/\t σ H1 Q) (3+n):=λpins s σ H Q out I hl q=>by
 have hz:sizeLine≥100000:=by decide
 refine joinParts_consE (joinParts_cons (FormattedValue_plain (thn (he pins s σ H _ I q) λv s1 hy=>?_)));obtain ⟨x,H1,I1,r1,⟨m,rfl,hm⟩,q1⟩:=hy;obtain ⟨tk,rfl⟩:=r1;have hd:(Str.ofString (toString (m:Int))).length<=3:=digits_le ⟨m,hm⟩;refine formatField_int_small ?_ ?_
 ·have:(m:Int).natAbs=m:=Int.natAbs_natCast m;rw[this];exact Nat.lt_of_le_of_lt (Nat.log2_le_self m) (by omega)
 ·dsimp only;exact ⟨by rw[qF];omega,h pins _ σ H1 Q _ ((I1.tok _)) (by rw[qF];omega) q1⟩
theorem Yz{v1 v2:Expr}{es:List Expr}{t:TJ}{n:Nat}{pos:Pos}(h:PJ X (v1::v2::es) t n)(hn:n<=100000):PE X (.JoinedStr (v1::v2::es) pos) (λσ H Q=>t σ H λH1=>∀x,Q (.str x) H1):=λpins s σ H Q I q=>by
 refine JoinedStr_many ?_;refine cp (h pins s σ H _ Str.empty I (by show 0+n<=_;omega) q) (λv s1 hy=>?_) λ_ _ z=>z;obtain ⟨x,H1,I1,r1,⟨y,rfl⟩,q1⟩:=hy;exact ⟨_,H1,I1,r1,q1 y⟩
def Throws(X:Cx)(E:XK):Prop:=∀(pins:List (Addr×Obj))(σ:St)(H:Hp)(s:Shared)(h':Heap)(a:Addr)(c:Value)(args:List Value),Inv X pins σ H s->s.heap.MadeExcOf h' a c args->E c none H->X.xe (.ref a) { s with heap:=h' }
theorem YB{E:XK}(hst:X.stack=X.env::X.outer)(hex:X.ex=[])(hxe:∀e s',wpAny (model X.prog X.w) X.A (leaving X.env e) (λ_ s''=>CX1 X.prog X.w X.outer X.H₀ X.s₀ E e s'') (λe' s''=>CX1 X.prog X.w X.outer X.H₀ X.s₀ E e' s'') s'->X.xe e s'):Throws X E:=
 λ_ _ _ _ _ _ _ _ I m q=>hxe _ _ (Yq I hst hex m q)
theorem Dy{x:Str}{C:Addr}{np cpos pos:Pos}{e:Expr}{es:List Expr}{ta:TA}{E:XK}(hc:X.calm=true)(hg:Gl X x)(hm:X.mg x=some (.ref C))(hb:iw X.K C=true)(hE:Throws X E)(ha:PA X (e::es) ta)
  (hdb:(x==("__debug__":Str))=false:=by decide) (he:starEach (e::es) X.env=(false,eval e X.env)::starEach es X.env:=by rfl) (hpl:(backTo cpos (starEach es X.env)).any (·.1)=false:=by rfl):
  PS X (.Raise (some (.Call (.Name x np) (e::es) [] cpos)) none pos) (λ_ σ H=>ta σ H λvs H1=>vs.length<=sizeLine/\E (.ref C) none H1):=by
 intro pins s σ H D I h;have kb:=I.ok.mod.kin;obtain ⟨bm,N,nm,q,bs,hd,sn,sub,ab,col,dd,k0,k1,k2,k3,k5,mN,b1,b2,b3,b4⟩:=(Yt kb hb hm:OwnClsQ x C veM "ValueError.__new__" X.mg X.base).own.obj;refine wpAny_Raise_call_subT (nm:=nm) (q:=q) (N:=N) (bs:=bs) (hdct:=hd) (sn:=sn) (sub:=sub) (ab:=ab) (col:=col) (dd:=dd) (k0:=k0) (k1:=k1) (k2:=k2) (k3:=k3) (k5:=k5) (F.excBase_ValueError) (Yu b4 (by decide)) (I.ok.hd hc) ?_ b3 (gn I hg hm ⟨rfl,?_⟩ hdb)
 ·rw[he];exact hpl
 ·have hsp:=ha cpos pins s σ H _ I h;rw[he]at hsp ⊢;refine Calls.evalArgs_plain (cp hsp (λvs s2 hy=>?_) λ_ _ z=>z);obtain ⟨ws,H2,I2,r2,hl,q2⟩:=hy;refine ⟨rfl,by rw[<-r2.length];exact hl,I2.bk _ _ b1,Dw I2.bk b2,Yv I2.bk b4,λh' a m=>hE pins σ H2 s2 h' a _ _ I2 m q2⟩
end
section
variable {X:Cx}
abbrev Cx.marked(X:Cx)(a:Addr)(E:Value->Shared->Prop):Cx:={ X with A:=X.A.mark (some (.ref a)),calm:=false,xe:=E }
theorem Cx.Ok.marked{X:Cx}(ok:X.Ok)(a:Addr)(E:Value->Shared->Prop):(X.marked a E).Ok:=
 ⟨ok.mod,ok.kind,ok.glob,ok.blt,ok.above,ok.inj,ok.has,ok.cab,λh=>(by cases h),ok.frames,ok.stk,ok.exf,ok.bs,ok.bsz,ok.noex,ok.exfs,ok.funs,ok.frf⟩
variable {pins:List (Addr×Obj)} {σ:St} {H:Hp} {s:Shared}
theorem Inv.marked(I:Inv X pins σ H s)(a:Addr)(E:Value->Shared->Prop):Inv (X.marked a E) pins σ H s:=⟨I.ok.marked a E,I.os,I.bare,I.base,I.loc,I.cell,I.free,I.freeC,I.pin,I.hok,I.len⟩
theorem Inv.unmarked{a:Addr}{E:Value->Shared->Prop}(I:Inv (X.marked a E) pins σ H s)(ok:X.Ok):Inv X pins σ H s:=⟨ok,I.os,I.bare,I.base,I.loc,I.cell,I.free,I.freeC,I.pin,I.hok,I.len⟩
theorem SP.unmarked{a:Addr}{E:Value->Shared->Prop}{D:Ends}{f:Flow}{s':Shared}(ok:X.Ok)(h:SP (X.marked a E) pins D f s'):SP X pins D f s':=by
 cases f with
 |next=>obtain ⟨σ',H',I,q⟩:=h;exact ⟨σ',H',I.unmarked ok,q⟩
 |brk=>obtain ⟨σ',H',I,q⟩:=h;exact ⟨σ',H',I.unmarked ok,q⟩
 |cont=>obtain ⟨σ',H',I,q⟩:=h;exact ⟨σ',H',I.unmarked ok,q⟩
 |ret u=>obtain ⟨v,σ',H',I,r,q⟩:=h;exact ⟨v,σ',H',I.unmarked ok,r,q⟩
structure Caught(X:Cx)(H:Hp)(s:Shared)(H':Hp)(a:Addr)(c:Value)(s':Shared):Prop where
 os:s'.os=s.os
 bare:AllBare s'.gens
 un:Un (frs X.stack) [] H H' s.heap s'.heap
 hok:HOk X.prog X.w H' s'.heap
 tr:Tr s.heap H' s'.heap a c
variable {H':Hp} {a:Addr} {c:Value} {s':Shared}
theorem Caught.inv(K:Caught X H s H' a c s')(I:Inv X pins σ H s):Inv X pins σ H' s':=I.call' (ch:=[]) K.os K.un K.hok K.bare (λb z=>absurd z (by simp))
theorem Caught.left(K:Caught X H s H' a c s')(I:Inv X pins σ H s){T:Addr}{h':Heap}{l:List Env}(hT:s.heap.get? T=none/\H' T=none)(L:(holes s'.heap (frs X.stack++a::[T])).Left l a c s'.heap h'):Caught X H s H' a c { s' with heap:=h' }:=by have J:=K.inv I;obtain ⟨_,_,_,_,_,_,_,_,_,_,_,_,_,n1,_,n3,_⟩:=K.tr;obtain ⟨u,k,t⟩:=Dm K.un K.hok (λb hb=>hb) (λb o _ hn=>hn) (λb hb=>⟨J.stkFree b hb,wg J.stack b hb⟩) n1 n3 (λx hx=>by rw[a8.mp hx];exact hT) L;exact ⟨K.os,K.bare,u,k,t⟩
theorem Caught.note(K:Caught X H s H' a c s')(I:Inv X pins σ H s)(hst:X.stack=X.env::X.outer){Q:Shared->Prop}{E1 E2:Value->Shared->Prop}(hQ:∀h2,Caught X H s H' a c { s' with heap:=h2 }->Q { s' with heap:=h2 }):
  wpAny (model X.prog X.w) X.A (noteFrame (.ref a) X.env) (λ_ s2=>wpAny (model X.prog X.w) X.A (setFlight (.ref a) none) (λ_ s3=>Q s3) E1 s2) E2 s':=by
 have J:=K.inv I;obtain ⟨oe,vs,T,oT,ts,t1,t2,t3,t4,t6,t7,t8,t9,n1,n2,n3,n4⟩:=K.tr;have hfr:=J.stack;rw[hst]at hfr;obtain ⟨L,hL⟩:=wj hfr;have sub:∀b∈frs (X.env::X.outer),b∈frs X.stack++a::[T]:=λb hb=>by rw[hst];exact dL _ hb
 obtain ⟨a0,h0⟩:∃a0,vs[0]?=some a0:=by obtain ⟨hi,_⟩:=fq.mp t4;exact ⟨vs[0],Array.getElem?_eq_getElem (by omega)⟩
 refine wpAny_noteFrame_onW (base:=holes s'.heap (frs X.stack++a::[T])) (cls:=c) (a0:=a0) (by rw[J.ok.frames,hst]) (lu hfr sub) hL ?_ qC (gr (by simp)) λh1 hn=>?_
 ·exact ⟨oe,vs,T,oT,ts,t1,⟨t2,h0⟩,t3,t4,gr (by simp),t6,t7,t8,t9⟩
 ·obtain ⟨m1,m2,m3,m4⟩:=hn;refine wpAny_setFlight_noneW m1 m2 m3 λh2 p1 p2 p3 p4=>?_;refine hQ h2 (K.left I ⟨n2,n4⟩ (l:=X.env::X.outer) ⟨p1,p2,?_,λb o e d=>?_⟩)
  ·obtain ⟨oe,vs,T,oT,ts,t1,⟨t2,_⟩,r⟩:=p3;exact ⟨oe,vs,T,oT,ts,t1,t2,r⟩
  ·obtain ⟨sl,e'⟩:=m4 b o e d;exact ⟨sl,p4 b _ e' d⟩
theorem Caught.flight(K:Caught X H s H' a c s')(I:Inv X pins σ H s){A:Around}{Q:Shared->Prop}{E1:Value->Shared->Prop}(hQ:∀h2,Caught X H s H' a c { s' with heap:=h2 }->Q { s' with heap:=h2 }):
  wpAny (model X.prog X.w) A (setFlight (.ref a) none) (λ_ s3=>Q s3) E1 s':=by
 have J:=K.inv I;obtain ⟨oe,vs,T,oT,ts,t1,t2,t3,t4,t6,t7,t8,t9,n1,n2,n3,n4⟩:=K.tr;obtain ⟨a0,h0⟩:∃a0,vs[0]?=some a0:=by obtain ⟨hi,_⟩:=fq.mp t4;exact ⟨vs[0],Array.getElem?_eq_getElem (by omega)⟩
 refine wpAny_setFlight_noneW (base:=holes s'.heap (frs X.stack++a::[T])) (l:=X.stack) (cls:=c) (a0:=a0) (fl:=.none) qC (lu J.stack λb hb=>dL _ hb) ?_ λh2 p1 p2 p3 p4=>?_
 ·exact ⟨oe,vs,T,oT,ts,t1,⟨t2,h0⟩,t3,t4,gr (by simp),t6,t7,t8,t9⟩
 ·refine hQ h2 (K.left I ⟨n2,n4⟩ (l:=X.stack) ⟨p1,p2,?_,λb o e d=>⟨o.slots,p4 b o e d⟩⟩);obtain ⟨oe,vs,T,oT,ts,t1,⟨t2,_⟩,r⟩:=p3;exact ⟨oe,vs,T,oT,ts,t1,t2,r⟩
end
open Builtin.ObjectAttr Builtin.Getset_descriptor
open PySem.W (findIn mroIn clsIn typeIn Looks InstAt looks_findIn looks_mroIn looks_typeIn)
noncomputable def lw(K:PF)(D:Addr):Bool:=
 findIn K (.ref D) "__class__"==some (some (.builtin "object.__class__"))&&findIn K (.ref D) "__getattribute__"==some (some (.builtin "BaseException.__getattribute__"))&&findIn K (.ref D) "__getattr__"==some none &&
  mroIn K D (.type "object")==some true&&mroIn K D (.type "BaseException")==some true&&(clsIn K D).isSome
structure Xin(K:PF)(D:Addr):Prop where
 c:findIn K (.ref D) "__class__"=some (some (.builtin "object.__class__"))
 ga:findIn K (.ref D) "__getattribute__"=some (some (.builtin "BaseException.__getattribute__"))
 g:findIn K (.ref D) "__getattr__"=some none
 o:mroIn K D (.type "object")=some true
 b:mroIn K D (.type "BaseException")=some true
 d:(clsIn K D).isSome=true
theorem YC{K:PF}{D:Addr}(h:lw K D=true):Xin K D:=by unfold lw at h;simp only[ae,ar]at h;obtain ⟨⟨⟨⟨⟨h1,h2⟩,h3⟩,h4⟩,h5⟩,h6⟩:=h;exact ⟨h1,h2,h3,h4,h5,h6⟩
section
variable {prog:Program} {w:World} {A:Around} {E:Value->Shared->Prop} {h:Heap} {g:Array GenState} {d:Drawn} {t:Nat} {os:OsState} {a:Addr} {o:Obj} {K:PF} {D:Addr}
theorem Dz{M:Model}(hx:h.get? a=some o)(hc:o.cls=.ref D):Looks M h (typeOf (.ref a)) (.ref D):=by have:=(Looks.ld (M:=M) (part:=none) hx).andThen (f:=λo=>pure o.cls) (b:=.ref D) (by rw[hc];exact .now);exact this
theorem YD {s:Shared} {R:Result->Shared->Prop} {tp:Value} (X:K.In s.heap) (hx:s.heap.get? a=some o) (hc:o.cls=.ref D) (hm:mroIn K D (.type "object")=some true)
  (h:R (.ok (.ret (.ref D))) s):codeAny (model prog w) A (.call (.builtin "getset_descriptor.__get__") ⟨[.builtin "object.__class__",.ref a,tp],[]⟩) R s:=by
 obtain ⟨hh,g,dr,t,os⟩:=s;have L0:=Dz (M:=model prog w) hx hc;have L1:=looks_mroIn (M:=model prog w) X hm;refine codeAny_call_builtin PySem.W.KF.slot_gs.plain PySem.W.KF.entry_gs (PySem.W.KF.slot_gs.check _ _ _ _ _ _ _ _ PySem.W.KF.type_class (PySem.W.KF.args_gs _ _ _) ?_);unfold Builtin.«getset_descriptor.__get__» descrGet;rw[PySem.W.dga_obj];refine ag (a7 ?_);unfold descrGetter descrCheckInstance descrNameAndClass isInstance;simp only[PySem.W.KF.owner_class];repeat lk
 refine ⟨Code.quiet_builtin _ (by ac_rfl),codeAny_builtin PySem.W.KF.entry_class ?_⟩;unfold Builtin.«object.__class__» shownTypeOf;repeat lk
 exact h
theorem YF{tk:Tok}{Q:Fin->Shared->Prop}(X:K.In h)(x:Xin K D)(hx:h.get? a=some o)(hc:o.cls=.ref D)(hq:Q (.done (.ret (.ref D))) ⟨h,g,d,t,os⟩):
  wpAny (model prog w) A (Builtin.«object.__getattribute__» ⟨[.ref a,.str "__class__" tk],[]⟩) Q E ⟨h,g,d,t,os⟩:=by
 have hT5:(⟨h,g,d,t,os⟩:Shared).TypeIs (.builtin "object.__class__") "getset_descriptor":=F.typeOf_object_class;have f5:=F.typeOf_object_class;have f6:=F.slot_gs_get.lookup;have f7:=F.slot_gs_set.lookup;have L1:=looks_findIn (M:=model prog w) X x.c;repeat (any_goals (first |assumption | (with_reducible refine gp hx ?_;rw[hc]) |with_reducible refine L1.at ?_ |wp_step))
 refine YD (s:=⟨h,g,d,t,os⟩) X hx hc x.o ?_;repeat (any_goals (first |assumption |wp_step))
theorem YG{M:Model}{nameV:Value}{Q:Unit->Shared->Prop}(X:K.In h)(x:Xin K D)(hx:h.get? a=some o)(hc:o.cls=.ref D)(hq:Q () ⟨h,g,d,t,os⟩):
  wpAny M A (checkBuiltinCall "BaseException.__getattribute__" ⟨[.ref a,nameV],[]⟩) Q E ⟨h,g,d,t,os⟩:=by
 have hk:builtinKind "BaseException.__getattribute__"=some .slot:=by ac_rfl
 have hsplit:splitId "BaseException.__getattribute__"=some ("BaseException","__getattribute__"):=by ac_rfl
 have L1:=looks_mroIn (M:=M) X x.b;have ha:=F.args_bexc_ga (.ref a) nameV;simp only[checkBuiltinCall,hk,hsplit];refine ag ?_
 ·unfold isInstance;repeat (first | (with_reducible refine gp hx ?_;rw[hc]) |with_reducible refine L1.at ?_ |wp_step)
  exact hq
theorem YH{tk:Tok}{R:Result->Shared->Prop}(X:K.In h)(x:Xin K D)(hx:h.get? a=some o)(hc:o.cls=.ref D)(hq:R (.ok (.ret (.ref D))) ⟨h,g,d,t,os⟩):
  codeAny (model prog w) A (.call (.builtin "BaseException.__getattribute__") ⟨[.ref a,.str "__class__" tk],[]⟩) R ⟨h,g,d,t,os⟩:=
 codeAny_call_builtin (by ac_rfl) F.entry_bexc_ga (YG X x hx hc (YF X x hx hc hq))
theorem YJ{Q:Option Value->Shared->Prop}(X:K.In h)(x:Xin K D)(hx:h.get? a=some o)(hc:o.cls=.ref D)(hq:Q (some (.ref D)) ⟨h,g,d,t+1,os⟩):
  wpAny (model prog w) A (getAttr? (.ref a) "__class__") Q E ⟨h,g,d,t,os⟩:=by
 have L1:=looks_findIn (M:=model prog w) X x.ga;have L2:=looks_findIn (M:=model prog w) X x.g;have f3:bindSpecial (.builtin "BaseException.__getattribute__") (.ref a)=pure (.builtin "BaseException.__getattribute__",[.ref a]):=(PySem.F.excAttr_ValueError).ga.bind (.ref a);have hx2:(Value.builtin "BaseException.__getattribute__"==Value.builtin "object.__getattribute__")=false:=by ac_rfl
 have hx1:(onTheHeap (Value.ref D)&&Value.builtin "BaseException.__getattribute__"==Value.builtin "object.__getattribute__")=false:=by rw[hx2];rfl
 unfold getAttr? getAttrBy? getAttrBy;repeat (any_goals (first |assumption | (with_reducible refine gp hx ?_;rw[hc]) |with_reducible refine L1.at ?_ |with_reducible refine L2.at ?_ |wp_step))
 refine YH X x hx hc ?_;repeat (any_goals (first |assumption |wp_step))
noncomputable def jr(K:PF)(c:Value):Bool:=match c with
 |.ref C=>(clsIn K C).isSome&&typeIn K (.ref C)==some (.type "type")
 |.type T=>T=="ValueError"
 |_=>false
theorem ty_ValueError:typeOf (.type "ValueError")=pure (.type "type"):=by rfl'
theorem YK {M:Model} {c:Value} (X:K.In h) (e:jr K c=true):Looks M h (typeOf c) (.type "type")/\Looks M h (isType c) true:=by
 unfold jr at e;split at e
 ·rename_i C;rw[ae,ar]at e;obtain ⟨e0,e1⟩:=e;refine ⟨looks_typeIn X e1,?_⟩;unfold clsIn at e0;split at e0
  ·rename_i c' d' cd' sl' ho;intro A' Q' E' s' k q;unfold isType loadHead;exact ag (wpAny_loadPart (k _ _ (X _ _ ho)) (a7 q))
  ·cases e0
 ·rename_i T;rw[ar]at e;subst e;exact ⟨Looks.of_pure ty_ValueError,Looks.of_pure rfl⟩
 ·cases e
theorem YL{c:Value}{b:Bool}{dep:Int}{tk:Tok}{Q:Fin->Shared->Prop}(X:K.In h)(x:Xin K D)(hx:h.get? a=some o)(hc:o.cls=.ref D)(hk:jr K c=true)
  (hm:mroIn K D c=some b) (hne:b=false->(Value.ref D==c)=false) (hq:∀t',Q (.done (.ret (.bool b))) ⟨h,g,d,t',os⟩):
  wpAny (model prog w) A (Builtin.«isinstance.nested» ⟨[.ref a,c,.int dep tk],[]⟩) Q E ⟨h,g,d,t,os⟩:=by
 obtain ⟨hty,his⟩:=YK (M:=model prog w) X hk;have hsub:=looks_mroIn (M:=model prog w) X hm;have L0:=Dz (M:=model prog w) hx hc;have LI:Looks (model prog w) h (isInstance (.ref a) c) b:=L0.andThen hsub;have hisD:Looks (model prog w) h (isType (.ref D)) true:=by
  have e0:=x.d;unfold clsIn at e0;split at e0
  ·rename_i c' d' cd' sl' ho;intro A' Q' E' s' k q;unfold isType loadHead;exact ag (wpAny_loadPart (k _ _ (X _ _ ho)) (a7 q))
  ·cases e0
 unfold Builtin.«isinstance.nested»;refine ag (L0.at ?_);by_cases he:(Value.ref D==c)=true
 ·rw[if_pos he];cases b with
  |false=>rw[hne rfl]at he;cases he
  |true=>
   repeat (first |refine a7 ?_ |refine gs ?_ |refine ag ?_)
   exact hq t
 ·rw[if_neg he];refine ag (hty.at ?_);rw[if_pos (by decide)]
  k_delta "plainIsInstance"
  refine ag (ag (his.at ?_));simp only[gl,fF,if_false];refine ag (LI.at ?_);cases b with
  |true=>
   simp only[if_true];repeat (first |refine a7 ?_ |refine gs ?_ |refine ag ?_)
   exact hq t
  |false=>
   simp only[fF,if_false];refine ag (YJ X x hx hc ?_);refine ag (hisD.at ?_);simp only[gl,fF,if_false];refine ag (gs ?_);refine hsub.at ?_;first
    |exact a7 (hq _)
    |exact a7 (a7 (hq _))
    |exact ag (a7 (a7 (hq _)))
theorem YM{c:Value}{b:Bool}{Q:Value->Shared->Prop}{s:Shared}(X:K.In s.heap)(x:Xin K D)(hx:s.heap.get? a=some o)(hc:o.cls=.ref D)(hk:jr K c=true)
  (hm:mroIn K D c=some b) (hne:b=false->(Value.ref D==c)=false) (hq:∀t',Q (.bool b) { s with toks:=t' }):wpAny (model prog w) A (call (.builtin "isinstance") [.ref a,c]) Q E s:=by
 obtain ⟨hh,g,d,t,os⟩:=s;exact call_isinstance_of (YL X x hx hc hk hm hne λt'=>hq t') (by intro e;cases e)
end
open PySem.W (findIn mroIn clsIn typeIn Looks looks_findIn looks_mroIn looks_typeIn)
section
variable {X:Cx}
def XO(H:Hp)(a c:Addr):Prop:=∃o y,H a=some (.frz o (.own y))/\o.cls=.ref c
def valOf:V->Value
 |.ref a=>.ref a
 |.ty n=>.type n
 |_=>.none
noncomputable def YQ(K:PF):List V->Hp->VK->Prop:=λxs H Q=>∃a c cv b,xs=[.ref a,cv]/\XO H a c/\lw K c=true/\jr K (valOf cv)=true/\mroIn K c (valOf cv)=some b/\(b=false->(Value.ref c==valOf cv)=false)/\Q (.bl b) H
theorem YS:bB X (.builtin "isinstance") (YQ X.K):=by
 intro pins s σ H xs us Q I r h;obtain ⟨a,c,cv,b,rfl,⟨o,y,ho,hc⟩,hx,hk,hm,hne,q⟩:=h;obtain ⟨u,w',rfl,rx,ry⟩:=vals2 r;cases rx;have e2:w'=valOf cv:=by
  cases cv with
  |ref a=>exact ry
  |ty n=>exact ry
  |_=>cases hk
 subst e2;have hob:=(show ObjOk X.prog X.w H s.heap a (.frz o (.own y)) from I.hok a _ ho).1;exact YM I.kIn (YC hx) hob hc hk hm hne λt'=>⟨.bl b,H,I.tok _,rfl,q⟩
end
section
variable {M:Model} {A:Around} {E:Value->Shared->Prop} {h:Heap} {g:Array GenState} {d:Drawn} {t:Nat} {os:OsState} {e:Addr} {oe:Obj} {K:PF} {D C:Addr}
theorem DG {Q:Bool->Shared->Prop} (X:K.In h) (he:h.get? e=some oe) (hcls:oe.cls=.ref D) (hC:typeIn K (.ref C)=some (.type "type")) (hk:(clsIn K C).isSome=true) (hB:mroIn K C (.type "BaseException")=some true) (hm:mroIn K D (.ref C)=some true)
  (hq:Q true ⟨h,g,d,t,os⟩):wpAny M A (excMatches (.ref e) (.ref C)) Q E ⟨h,g,d,t,os⟩:=by
 have f:=tc_notTuple;have L0:=looks_typeIn (M:=M) X hC;have L1:=looks_mroIn (M:=M) X hB;have L2:=looks_mroIn (M:=M) X hm;unfold clsIn at hk;split at hk
 ·rename_i c' d' cd' sl' ho;have hoC:=X _ _ ho;unfold excMatches;have hC2:(K.lookup C).map (·.cls)=some (.type "type"):=hC;rw[ho]at hC2;have ec:c'=.type "type":=by simpa using hC2
  subst ec;repeat (first | (with_reducible refine gp he ?_;rw[hcls]) |with_reducible refine gp hoC ?_ |with_reducible refine L1.at ?_ |with_reducible refine L2.at ?_ |wp_step)
  exact hq
 ·cases hk
end
section
variable {X:Cx} {pins:List (Addr×Obj)} {σ:St} {H:Hp} {s:Shared}
theorem Inv.tell(I:Inv X pins σ H s){a:Addr}{o:Obj}{vs:Array Value}(h0:X.s₀.heap.get? a=none)(hH:H a=none)(ho:s.heap.get? a=some o)(hd:o.data=.fields vs)(hp:∀p∈X.pn++pins,p.1≠a):
  Inv X pins σ (upd H a (.frz o (.own a))) s:=by
 have nl:X.env.locals≠a:=by intro e;obtain ⟨m,⟨o',es,ep,e1,e2,_⟩,_⟩:=I.loc;rw[e,ho]at e1;cases e1;rw[hd]at e2;cases e2
 have nc:∀x c,X.env.cells.lookup x=some c->c≠a:=by intro x c hc e;obtain ⟨v,o',e1,e2⟩:=I.cell x c hc;rw[e,ho]at e1;cases e1;rw[hd]at e2;cases e2
 refine ⟨I.ok,I.os,I.bare,⟨I.base.keep,I.base.slot,λb u q n hx=>?_,I.base.there,λb xs q=>?_,λb u v q=>?_,λb ps q=>?_⟩,I.loc,I.cell,by rw[aG nl];exact I.free,λx c e=>by rw[aG (nc x c e)];exact I.freeC x c e,λp hpp=>?_,λb u q=>?_,I.len⟩
 ·rw[aG (λe=>by rw[e,h0]at q;cases q)];exact I.base.free b u q n hx
 ·have q':=I.base.tups b xs q;rw[aG (aU q' hH)];exact q'
 ·have q':=I.base.frzs b u v q;rw[aG (aU q' hH)];exact q'
 ·obtain ⟨m,q'⟩:=I.base.tbls b ps q;exact ⟨m,by rw[aG (aU q' hH)];exact q'⟩
 ·obtain ⟨p1,p2,p3⟩:=I.pin p hpp;exact ⟨p1,by rw[aG (hp p hpp)];exact p2,p3⟩
 ·by_cases hb:b=a
  ·subst hb;rw[bW]at q;cases q;exact ⟨ho,o,ho⟩
  ·rw[aG hb]at q;exact (I.hok b u q).stay (λ_ _ _ z=>z) (λc z=>by rw[aG (aU z hH)];exact z) λc xs z=>by rw[aG (aU z hH)];exact z
end
section
variable {X:Cx}
abbrev TX:=(St->Hp->Prop)->(Value->St->Hp->Prop)->St->Hp->Prop
def XP(X:Cx)(pins:List (Addr×Obj))(ex:Value->St->Hp->Prop)(σ:St)(e:Value)(s1:Shared):Prop:=∃a c H1 s0 H',e=.ref a/\Inv X pins σ H1 s0/\Caught X H1 s0 H' a c s1/\ex c σ H'
def NP(X:Cx)(pins:List (Addr×Obj))(nx:St->Hp->Prop)(f:Flow)(s1:Shared):Prop:=f=.next/\∃σ' H',Inv X pins σ' H' s1/\nx σ' H'
def PXs(X:Cx)(sts:List Stmt)(t:TX):Prop:=
 ∀(pins:List (Addr×Obj))(s:Shared)(σ:St)(H:Hp)(nx:St->Hp->Prop)(ex:Value->St->Hp->Prop)(E':Value->Shared->Prop),Inv X pins σ H s->PassesOwn (model X.prog X.w) X.A X.env E'->(∀e s1,XP X pins ex σ e s1->E' e s1)->t nx ex σ H->
  wpAny (model X.prog X.w) X.A (execs sts X.env) (NP X pins nx) E' s
theorem YT{k:Nat}{f:Addr}{fd:FuncData}{ps:List Str}{sp:Sp}{x:Str}{p cpos p0:Pos}{e:Expr}{es:List Expr}{ta:TA}
  (F:FnOk X.prog X.w X.K X.mg X.base (CX1 X.prog X.w) k f fd ps sp) (hr:Room k X.A) (hg:Gl X x) (hm:X.mg x=some (.ref f)) (hk:PySem.W.keepIn X.K (.ref f)=true) (hbd:Binds X.K fd ps [])
  (ha:∀E':Value->Shared->Prop,PassesOwn (model X.prog X.w) X.A X.env E'->PA (X.wish E') (e::es) ta)
  (hs:swapsWith (.Call (.Name x p) (e::es) [] cpos) none p0.line X.env=pure false)
  (hdb:(x==("__debug__":Str))=false:=by decide) (he:starEach (e::es) X.env=(false,eval e X.env)::starEach es X.env:=by rfl) (hpl:(backTo cpos (starEach es X.env)).any (·.1)=false:=by rfl):
  PXs X [.Expr (.Call (.Name x p) (e::es) [] cpos) p0] (λnx ex σ H=>ta σ H λvs H1=>sp vs H1 (λ_ H2=>nx σ H2) (λc _ H2=>ex c σ H2)):=by
 intro pins s σ H nx ex E' I hpo hE h;refine gt (wpAny_Expr_any (fk (gn (X:=X.wish E') (I.wish E') hg hm ?_ hdb)) I.quiet hs);refine fE (h₀:=X.base) I.ok.mod.kin hk (thn (ha _ hpo cpos pins s σ H _ (I.wish _) h) λus s1 hy=>?_) he hpl;obtain ⟨vs,H1,I1,r,q⟩:=hy;have I1:=I1.unwish;refine ⟨I1.kIn,?_⟩;have hl:us.length=ps.length:=by rw[<-r.length];exact F.len _ _ _ _ q
 have hb2:=hbd s1 us I1.kIn (by rw[df];exact hl);rw[df]at hb2;refine wpAny_call (codeAny_mono (F.run X.A X.stack s1 H1 ⟨us,[]⟩ us vs _ _ hr I1.env0 hb2 r q) λrr s2 hq=>?_);cases rr with
 |error ev=>
  obtain ⟨a,c,H2,rfl,ho,hgn,un,hok,tr,qn⟩:=hq;exact hE _ _ ⟨a,c,H1,s1,H2,rfl,I1,⟨ho,hgn,un,hok,tr⟩,qn⟩
 |ok fl=>
  cases fl with
  |ret u=>
   obtain ⟨v,H2,I2,r2,q2⟩:=I1.after hq;exact fo ⟨rfl,σ,H2,I2,q2⟩
  |next=>exact False.elim hq
  |brk=>exact False.elim hq
  |cont=>exact False.elim hq
theorem YW{prog:Program}{w:World}{A:Around}{E:Value->Shared->Prop}{s:Shared}{env:Env}{K:PF}{e C D:Addr}{t:Expr}{b₀:Stmt}{suite:List Stmt}{pos:Pos}{rest:List ExceptHandler}{Q:Flow->Shared->Prop}
  (hC:typeIn K (.ref C)=some (.type "type")) (hk:(clsIn K C).isSome=true) (hB:mroIn K C (.type "BaseException")=some true) (hm:mroIn K D (.ref C)=some true)
  (h:wpAny (model prog w) (A.mark (some (.ref e))) (eval t env) (λc s₁=>c=.ref C/\K.In s₁.heap/\(∃oe,s₁.heap.get? e=some oe/\oe.cls=.ref D)/\
   wpAny (model prog w) (A.mark (some (.ref e))) (setFlight (.ref e) none) (λ_ s₂=>wpAny (model prog w) (A.mark (some (.ref e))) (execs (b₀::suite) env) Q (notedBy (model prog w) (A.mark (some (.ref e))) env (cameBackBy (model prog w) A env E)) s₂) (notedBy (model prog w) (A.mark (some (.ref e))) env (cameBackBy (model prog w) A env E)) s₁) (notedBy (model prog w) (A.mark (some (.ref e))) env (cameBackBy (model prog w) A env E)) s):
  wpAny (model prog w) A (handleBy (.ref e) env (.ExceptHandler (some t) none (b₀::suite) pos::rest)) Q E s:=by
 refine wpAny_handleBy_cons (codeAny_handlers_test (cp h (λc s₁ h₁=>?_) λ_ _ y=>y)) (by intro q;cases q);obtain ⟨rfl,O,⟨oe,he,hcls⟩,hkk⟩:=h₁;obtain ⟨hh,g,d,tk,os⟩:=s₁;exact DG O he hcls hC hk hB hm (codeAny_handlers_suite hkk)
theorem YX{prog:Program}{w:World}{A:Around}{E:Value->Shared->Prop}{s:Shared}{env:Env}{K:PF}{e C D:Addr}{t:Expr}{n:Str}{b₀:Stmt}{suite:List Stmt}{pos:Pos}{rest:List ExceptHandler}{Q:Flow->Shared->Prop}
  (hC:typeIn K (.ref C)=some (.type "type")) (hk:(clsIn K C).isSome=true) (hB:mroIn K C (.type "BaseException")=some true) (hm:mroIn K D (.ref C)=some true)
  (h:wpAny (model prog w) (A.mark (some (.ref e))) (eval t env) (λc s₁=>c=.ref C/\K.In s₁.heap/\(∃oe,s₁.heap.get? e=some oe/\oe.cls=.ref D)/\
   wpAny (model prog w) (A.mark (some (.ref e))) (setFlight (.ref e) none) (λ_ s₂=>
     wpAny (model prog w) (A.mark (some (.ref e))) (storeName env n (.ref e)) (λ_ s₃=>
      wpAny (model prog w) (A.mark (some (.ref e))) (execs (b₀::suite) env)
       (λf s₄=>wpAny (model prog w) A (do bindName env n .none;unbindBehindTheSuite env n pos) (λ_ s₅=>Q f s₅) E s₄)
       (AsSuiteRaised (model prog w) (A.mark (some (.ref e))) env n pos (notedBy (model prog w) (A.mark (some (.ref e))) env (cameBackBy (model prog w) A env E))) s₃) (notedBy (model prog w) (A.mark (some (.ref e))) env (cameBackBy (model prog w) A env E)) s₂) (notedBy (model prog w) (A.mark (some (.ref e))) env (cameBackBy (model prog w) A env E)) s₁) (notedBy (model prog w) (A.mark (some (.ref e))) env (cameBackBy (model prog w) A env E)) s):
  wpAny (model prog w) A (handleBy (.ref e) env (.ExceptHandler (some t) (some n) (b₀::suite) pos::rest)) Q E s:=by
 refine wpAny_handleBy_cons (codeAny_handlers_test (cp h (λc s₁ h₁=>?_) λ_ _ y=>y)) (by intro q;cases q);obtain ⟨rfl,O,⟨oe,he,hcls⟩,hkk⟩:=h₁;obtain ⟨hh,g,d,tk,os⟩:=s₁;exact DG O he hcls hC hk hB hm (codeAny_handlers_suite_as hkk)
structure Cat(K:PF)(C:Addr):Prop where
 t:typeIn K (.ref C)=some (.type "type")
 c:(clsIn K C).isSome=true
 b:mroIn K C (.type "BaseException")=some true
noncomputable def qG (K:PF) (C:Addr):Bool:=typeIn K (.ref C)==some (.type "type")&&(clsIn K C).isSome&&mroIn K C (.type "BaseException")==some true
theorem DK{K:PF}{C:Addr}(h:qG K C=true):Cat K C:=by unfold qG at h;rw[ae,ae,ar,ar]at h;exact ⟨h.1.1,h.1.2,h.2⟩
theorem YZ{C:Addr}{cx y:Str}{i:Nat}{b:Bool}{j:Nat}{p1 p2 p3 p4 p5 pos:Pos}{body:List Stmt}{t:TX}(hb:PXs X body t)(hst:X.stack=X.env::X.outer)
  (hcg:Gl X cx) (hcm:X.mg cx=some (.ref C)) (hcb:Cat X.K C) (hN:X.N.Nodup) (hi:X.N[i]?=some y) (hx:Loc X.env.scope y) (hf:X.fn y=true\/X.env.scope.names.lookup y=some .local)
  (hs2:swapsWith (.Constant (.bool b) j p3) (some (.Name y p2)) p4.line X.env=pure false:=by rfl) (hdc:(cx==("__debug__":Str))=false:=by decide):
  PS X (.Try body [.ExceptHandler (some (.Name cx p1)) none [.Assign [.Name y p2] (.Constant (.bool b) j p3) p4] p5] [] [] pos)
   (λD σ H=>t D.nx (λc σ' H2=>∃d,c=.ref d/\mroIn X.K d (.ref C)=some true/\D.nx (σ'.set i (some (.bl b))) H2) σ H):=by
 intro pins s σ H D I h;refine wpAny_Try_except (cp (hb pins s σ H _ _ _ I PassesOwn.looking (λe s1 q=>?_) h) (λf s1 q=>?_) λ_ _ q=>q)
 ·obtain ⟨a,c,H1,s0,H2,rfl,I1,K,d,rfl,hm,qn⟩:=q;refine K.note I1 hst λh3 K3=>YW (K:=X.K) (C:=C) (D:=d) hcb.t hcb.c hcb.b hm ?_;have J3:=K3.inv I1;have hcl:∃oe,h3.get? a=some oe/\oe.cls=.ref d:=by
   obtain ⟨oe,_,_,_,_,t1,t2,_⟩:=K3.tr;exact ⟨oe,t1,t2⟩
  refine gn (X:=X.marked a X.xe) (J3.marked a X.xe) hcg hcm ⟨rfl,J3.kIn,hcl,?_⟩ hdc;refine K3.flight I1 λh4 K4=>?_;have J4:=K4.inv I1;exact cp (vL (qj (X:=X.marked a _) hN hi hx Bg hs2 hf) pins _ σ H2 D (J4.marked a _) qn) (λf s5 z=>z.unmarked J4.ok) λ_ _ z=>z
 ·obtain ⟨rfl,σ',H',I',q'⟩:=q;exact fo ⟨σ',H',I',q'⟩
theorem Y0{M:Model}{A:Around}{E:Value->Shared->Prop}{pins:List (Addr×Obj)}{σ:St}{H:Hp}{s:Shared}{i:Nat}{x:Str}{pos:Pos}{Q:Unit->Shared->Prop}(I:Inv X pins σ H s)(hN:X.N.Nodup)(hi:X.N[i]?=some x)(hk:X.env.kindOf x=some .local)
  (h:∀s',Inv X pins (σ.set i none) H s'->Q () s'):wpAny M A (do bindName X.env x .none;unbindBehindTheSuite X.env x pos) Q E s:=by
 obtain ⟨m,hn,hl⟩:=id I.loc;have hcls:(X.env.scope.kind==.class||(X.env.scope.kind==.module&&X.env.locals != X.env.globals))=false:=by rw[I.ok.kind];rfl
 have hiσ:i < σ.length:=by rw[I.len];exact (aw.mp hi).1
 have cne:=I.cne;have tracked:∀{a:Addr}{h':Heap},(∃o,s.heap.get? a=some o/\H a=none)->Heap.SameBut a s.heap h'->HOk X.prog X.w H h':=λ{a h'} ha hs b ob e=>by
  obtain ⟨_,_,hfree⟩:=ha;refine (I.hok b ob e).stay (λc w' hc q=>(hs.2 c ?_).trans q) (λ_ q=>q) λ_ _ q=>q;rintro rfl;rcases hc with rfl |hc
  ·rw[hfree]at e;cases e
  ·rw[hfree]at hc;cases hc
 refine wpAny_nameGoes_keeps hk hn hcls λh' v hn' hs=>?_;obtain ⟨oL,_,_,hoL,_⟩:=id hn;refine h _ ⟨I.ok,I.os,I.bare,⟨λb o e n hb hx=>?_,λb o e n hb hx=>?_,I.base.free,λb o e hx=>?_,I.base.tups,I.base.frzs,I.base.tbls⟩,⟨_,hn',λj y v' e1 e2 e3=>?_⟩,λy c e=>?_,I.free,I.freeC,λp hp=>?_,tracked ⟨oL,hoL,I.free⟩ hs,by simpa using I.len⟩
 ·exact (hs.2 b (bX (ba (ay e) I.ok.above))).trans (I.base.keep b o e n hb hx)
 ·obtain ⟨sl,e1⟩:=I.base.slot b o e n hb hx;exact ⟨sl,(hs.2 b (bX (ba (ay e) I.ok.above))).trans e1⟩
 ·obtain ⟨o',e1⟩:=I.base.there b o e hx;exact ⟨o',(hs.2 b (bX (ba (ay e) I.ok.above))).trans e1⟩
 ·by_cases hj:j=i
  ·subst hj;rw[fS hiσ]at e2;cases e2
  ·rw[List.getElem?_set_ne (Ne.symm hj)]at e2;obtain ⟨u',r',q⟩:=hl j y v' e1 e2 e3;refine ⟨u',r',?_⟩;rcases q with ⟨k,e⟩ |⟨k,c,e,z⟩
   ·refine .inl ⟨k,?_⟩;have:y≠x:=λe=>hj (vJ hN e1 (e ▸ hi));simp[this,e]
   ·exact .inr ⟨k,c,e,z.sameBut hs (cne y c e)⟩
 ·obtain ⟨w',z⟩:=I.cell y c e;exact ⟨w',z.sameBut hs (cne y c e)⟩
 ·obtain ⟨e,n,ne,nf,d⟩:=I.pin p hp;exact ⟨(hs.2 p.1 ne).trans e,n,ne,nf,d⟩
theorem Y4{C:Addr}{cx y n:Str}{i jn:Nat}{p1 p2 p3 p4 p5 pos:Pos}{body:List Stmt}{t:TX}(hb:PXs X body t)(hst:X.stack=X.env::X.outer)(hex:X.ex=[])
  (hcg:Gl X cx) (hcm:X.mg cx=some (.ref C)) (hcb:Cat X.K C) (hN:X.N.Nodup) (hi:X.N[i]?=some y) (hx:Loc X.env.scope y) (hf:X.fn y=true\/X.env.scope.names.lookup y=some .local)
  (hj:X.N[jn]?=some n) (hnk:X.env.kindOf n=some .local) (hnl:X.env.scope.names.lookup n=some .local) (hnd:(n==("__debug__":Str))=false) (hnc:(n==("__classdict__":Str))=false)
  (hs2:swapsWith (.Name n p3) (some (.Name y p2)) p4.line X.env=pure false) (hdc:(cx==("__debug__":Str))=false:=by decide):
  PS X (.Try body [.ExceptHandler (some (.Name cx p1)) (some n) [.Assign [.Name y p2] (.Name n p3) p4] p5] [] [] pos)
   (λD σ H=>t D.nx (λc σ' H2=>∃d,c=.ref d/\mroIn X.K d (.ref C)=some true/\∀a o,H2 a=none->o.cls=.ref d->D.nx (((σ'.set jn (some (.ref a))).set i (some (.ref a))).set jn none) (upd H2 a (.frz o (.own a)))) σ H):=by
 intro pins s σ H D I h;refine wpAny_Try_except (cp (hb pins s σ H _ _ _ I PassesOwn.looking (λe s1 q=>?_) h) (λf s1 q=>?_) λ_ _ q=>q)
 ·obtain ⟨a,c,H1,s0,H2,rfl,I1,K,d,rfl,hm,qn⟩:=q;refine K.note I1 hst λh3 K3=>YX (K:=X.K) (C:=C) (D:=d) hcb.t hcb.c hcb.b hm ?_;have J3:=K3.inv I1;have hcl:∃oe,h3.get? a=some oe/\oe.cls=.ref d:=by
   obtain ⟨oe,_,_,_,_,t1,t2,_⟩:=K3.tr;exact ⟨oe,t1,t2⟩
  refine gn (X:=X.marked a X.xe) (J3.marked a X.xe) hcg hcm ⟨rfl,J3.kIn,hcl,?_⟩ hdc;refine K3.flight I1 λh4 K4=>?_;have J4:=K4.inv I1;obtain ⟨oe,vs,T,oT,ts,t1,t2,t3,t4,t6,t7,t8,t9,n1,n2,n3,n4⟩:=K4.tr;have n0:X.s₀.heap.get? a=none:=by
   cases e:X.s₀.heap.get? a with
   |none=>rfl
   |some o=>
    obtain ⟨o',e'⟩:=I1.base.there a o e (by rw[hex];simp);rw[n1]at e';cases e'
  have J5:=J4.tell n0 n3 t1 t3 (λp hp e=>by
   obtain ⟨e1,_⟩:=I1.pin p hp;rw[e,n1]at e1;cases e1)
  have q5:=qn a oe n3 t2;refine lg (X:=X.marked a X.xe) (J5.marked a X.xe) hN hj (.inl hnl) (v:=.ref a) rfl (λs6 J6=>?_) (.inr hnl);have J6':Inv X pins (σ.set jn (some (.ref a))) (upd H2 a (.frz oe (.own a))) s6:=J6.unmarked J4.ok;have hl6:jn < σ.length:=by rw[I1.len];exact (aw.mp hj).1
  refine cp (vL (qj (X:=X.marked a _) hN hi hx (vK (i:=jn) hj (.inl hnl) hnd hnc) hs2 hf) pins s6 _ _ { nx:=λσ' H'=>D.nx (σ'.set jn none) H',rt:=λ_ _=>False,bk:=λ_ _=>False,ct:=λ_ _=>False } (J6'.marked a _) ⟨.ref a,fS hl6,q5⟩) (λf s7 z=>?_) λ_ _ z=>z;have z':=z.unmarked (X:=X) J4.ok;cases f with
  |next=>
   obtain ⟨σ7,H7,I7,q7⟩:=z';exact Y0 I7 hN hj hnk λs8 I8=>⟨_,H7,I8,q7⟩
  |brk=>obtain ⟨_,_,_,q⟩:=z';exact q.elim
  |cont=>obtain ⟨_,_,_,q⟩:=z';exact q.elim
  |ret u=>obtain ⟨_,_,_,_,_,q⟩:=z';exact q.elim
 ·obtain ⟨rfl,σ',H',I',q'⟩:=q;exact fo ⟨σ',H',I',q'⟩
end
open PySem.SeqAt
section
variable {X:Cx}
theorem wu:∀{bs:List Bool}{us:List Value},Vals (bs.map V.bl) us->us=bs.map Value.bool
 |[],us,r=>by cases r;rfl
 |b::bs,us,r=>by
  cases r with
  |cons r1 r2=>
   have e:_=Value.bool b:=r1;rw[e,wu r2];rfl
theorem DN(k:Bool){bs:List Bool}:∀y,y∈(bs.map Value.bool)->∀(A:Around)(s:Shared),EqAt A s y (.bool k) (isBoolOf k y):=by intro y hy A s;obtain ⟨b,_,rfl⟩:=dc.mp hy;exact EqAt.bool_bool b k
theorem Y5(k:Bool)(bs:List Bool):(bs.map Value.bool).countP (isBoolOf k)=bs.count k:=by
 induction bs with
 |nil=>rfl
 |cons b bs ih=>
  rw[bP,List.countP_cons,ih,List.count_cons];rfl
noncomputable def Y6(K:PF):V->List V->Hp->VK->Prop:=λx vs H Q=>∃(p:Addr)(bs:List Bool),x=.ref p/\vs=[.bl true]/\SqL K H p (bs.map V.bl)/\Q (.int (bs.count true:Nat)) H
theorem Y7:MtR X "list.count" (Y6 X.K):=by intro pins s σ H x xs v us Q I rx rs h;obtain ⟨p,bs,rfl,rfl,hq,q⟩:=h;cases rx;obtain ⟨u,rfl,ru⟩:=vals1 rs;cases ru;obtain ⟨its,rv,⟨o,n,ho,hc,hd,hdd⟩,hz⟩:=I.list hq;obtain ⟨cls,dd,data,sl⟩:=o;simp only at hc hd hdd;subst hc hd hdd;have e:=wu rv;subst e;refine fm PySem.F.slot_list_count ⟨_,ho,rfl⟩ PySem.F.entry_list_count (PySem.F.args_list_count_2 _ _) (list_countAt p _ n _ sl (.bool true) (isBoolOf true)) ⟨ho,λy hy=>DN true y (by simpa using hy) _ _,?_⟩;refine ⟨.int _,H,I.tok _,⟨_,rfl⟩,?_⟩;rw[show ((bs.map Value.bool).toArray).toList=bs.map Value.bool from rfl,Y5];exact q
noncomputable def Y8(K:PF):V->List V->Hp->VK->Prop:=λx vs H Q=>∃(p:Addr)(bs:List Bool),x=.ref p/\vs=[.bl true]/\SqL K H p (bs.map V.bl)/\true∈bs/\Q (.int (bs.idxOf true:Nat)) H
theorem DP(bs:List Bool)(j:Nat)(h:j < (bs.map Value.bool).length)(h':j < bs.length):isBoolOf true (bs.map Value.bool)[j]=(bs[j]==true):=by rw[List.getElem_map];rfl
theorem Y9:MtR X "list.index" (Y8 X.K):=by
 intro pins s σ H x xs v us Q I rx rs h;obtain ⟨p,bs,rfl,rfl,hq,hin,q⟩:=h;cases rx;obtain ⟨u,rfl,ru⟩:=vals1 rs;cases ru;obtain ⟨its,rv,⟨o,n,ho,hc,hd,hdd⟩,hz⟩:=I.list hq;obtain ⟨cls,dd,data,sl⟩:=o;simp only at hc hd hdd;subst hc hd hdd;have e:=wu rv;subst e;have hj:bs.idxOf true < bs.length:=List.idxOf_lt_length_iff.mpr hin;have hz':bs.length<=sizeLine:=by rw[al]at hz;exact hz
 have hs:sizeLine < 2 ^ 63 - 1:=by decide
 refine fm PySem.F.slot_list_index ⟨_,ho,rfl⟩ PySem.F.entry_list_index (PySem.F.args_list_index_2 _ _) (list_indexAt p _ n _ sl (.bool true) (isBoolOf true) (bs.idxOf true) (by simpa using hj) (by omega) ?_ ?_) ⟨ho,λy hy=>DN true y (by simpa using hy) _ _,?_⟩
 ·have h3:bs.idxOf true < (bs.map Value.bool).length:=by rw[al];exact hj
  show isBoolOf true ((bs.map Value.bool)[bs.idxOf true]'h3)=true;rw[DP bs _ h3 hj];simpa using List.getElem_idxOf hj
 ·intro j hjs hlt;have h2:j < bs.length:=by omega
  have h3:j < (bs.map Value.bool).length:=by rw[al];exact h2
  show isBoolOf true ((bs.map Value.bool)[j]'h3)=false;rw[DP bs j h3 h2];have h4:j < bs.findIdx (·==true):=hlt;simpa using List.not_of_lt_findIdx h4
 ·exact ⟨.int _,H,I.tok _,⟨_,rfl⟩,q⟩
end
section
variable {X:Cx}
theorem Za:OpR X (binaryOp .FloorDiv) (rI (λ_ j=>0 < j/\j < 1152921504606846976) λi j=>.int (i / j)):=opI λi j _ _ _ _ _ hc q=>by
 have h1:(0:Int) < j:=hc.1;have h2:j < 1152921504606846976:=hc.2;refine floordiv_int (by omega) (by rw[Int.fdiv_eq_ediv_of_nonneg i (by omega)];exact q) (.inl (PyProof.noPylong_of_log2 ?_));have:j.natAbs.log2 < 60:=(Nat.log2_lt (by omega)).mpr (by show j.natAbs < 1152921504606846976;omega);omega
def ww(m:Nat):Str:=Str.ofString (toString (m:Int))
theorem Zb{m:Nat}(h:m < 100):(m:Int).natAbs.log2 < 1920:=by have:(m:Int).natAbs=m:=Int.natAbs_natCast m;rw[this];exact Nat.lt_of_le_of_lt (Nat.log2_le_self m) (by omega)
theorem Zc:bB X (.type "str") (λxs H Q=>∃m:Nat,xs=[.int m]/\m < 100/\Q (.str (ww m)) H):=by intro pins s σ H xs us Q I r h;obtain ⟨m,rfl,hm,q⟩:=h;obtain ⟨u,rfl,ru⟩:=vals1 r;obtain ⟨t,rfl⟩:=ru;exact PySem.P.str_of_int (Zb hm) ⟨.str _,H,I.tok _,⟨_,rfl⟩,q⟩
end
end L2
namespace HT
open PySem PySem.Spec PyProof.Rows Builtin
theorem Zd:fillsNumberSlot (.type "tuple") "mul"=pure false:=
 PySem.fillsNumberSlot_seq (id:="tuple.__mul__") (r:=some (.builtin "tuple.__rmul__")) PySem.F.slot_tuple_mul.lookup (by ac_rfl) PySem.F.slot_tuple_rmul.lookup (by ac_rfl)
theorem Ze:seqRepeat? (.type "tuple")=pure (some (.builtin "tuple.__mul__")):=by unfold seqRepeat?;rw[PySem.seqSlot_of (T:="tuple") (name:="__mul__") (id:="tuple.__mul__") PySem.F.slot_tuple_mul.lookup (by ac_rfl),PySem.seqSlot_of (T:="tuple") (name:="__rmul__") (id:="tuple.__rmul__") PySem.F.slot_tuple_rmul.lookup (by ac_rfl)];rfl
theorem Zf(a:Int)(t:Tok)(l:Addr)(items:Array Value)(n:Nat)(dd:Option Addr)(sl:Array (Option Value)):
  Meets (Builtin.«int.__rmul__» ⟨[.int a t,.ref l],[]⟩) (λ_ R s=>s.heap.get? l=some { cls:=.type "tuple",dict:=dd,data:=.seq items n,slots:=sl }/\R (.ok (.ret Value.notImplemented)) s):=
 .of_wp λprog w A R s h=>by obtain ⟨hp,g,d,tk,os⟩:=s;obtain ⟨hl,h⟩:=h;wp_walk;exact ⟨_,rfl,h⟩
theorem Zg(l:Addr)(items:Array Value)(n:Nat)(dd:Option Addr)(sl:Array (Option Value))(k:Int)(t:Tok)(h2:2<=k)(hk:k<=1000)(hne:items.isEmpty=false)(hz:items.size * k.toNat<=sizeLine)(hz2:(List.foldl (λx1 x2=>x1++x2) #[] (List.replicate k.toNat items)).size<=sizeLine):
  Meets (Builtin.«tuple.__mul__» ⟨[.ref l,.int k t],[]⟩) (λ_ R s=>s.heap.get? l=some { cls:=.type "tuple",dict:=dd,data:=.seq items n,slots:=sl }/\
   R (.ok (.ret (.ref s.heap.objs.size))) { s with heap:=s.heap.push { cls:=.type "tuple",data:=.seq ((List.replicate k.toNat items).foldl (· ++ ·) #[]) } }):=
 .of_wp λprog w A R s h=>by
  obtain ⟨hp,g,d,tk,os⟩:=s;obtain ⟨hl,h⟩:=h;have a1:(decide (k < -(2 ^ 63))||decide (k≥2 ^ 63))=false:=by rw[decide_eq_false (by omega),decide_eq_false (by omega)];rfl
  have a2:(items.isEmpty||k==1)=false:=by rw[hne,Bool.false_or,beq_eq_false_iff_ne];omega
  have a3:(decide (k<=0)||items.isEmpty)=false:=by rw[decide_eq_false (by omega),hne];rfl
  have hs:(items.size:Int) * k=((items.size * k.toNat:Nat):Int):=by rw[Int.natCast_mul,Int.toNat_of_nonneg (by omega)]
  have hsl:sizeLine<=1152921504606846975:=by decide
  have a4:¬((items.size:Int) * k > (2 ^ 63 - 1) / 8):=by rw[hs];omega
  have a5:¬(Tuple.tupleTooMany ((items.size:Int) * k)=true):=by unfold Tuple.tupleTooMany;rw[decide_eq_true_iff,hs];omega
  wp_walk
  rw[if_neg (by rw[a1];exact Bool.false_ne_true)];wp_walk
  rw[if_neg (by rw[a2];exact Bool.false_ne_true)];dsimp only;rw[if_neg (by rw[a3];exact Bool.false_ne_true),if_neg a4,if_neg a5];unfold Tuple.tupleExact;wp_walk
  exact ⟨_,rfl,h⟩
end HT
namespace L2
open PySem PySem.Spec PyProof.Rows
section
variable {X:Cx}
def Zh(K:PF):R2:=λx y H Q=>∃(l:Addr)(k:Int)(xs:List V),x=.ref l/\y=.int k/\SqT K H l xs/\xs≠[]/\2<=k/\k<=1000/\xs.length * k.toNat<=sizeLine/\∀p,H p=none->Q (.ref p) (upd H p (.tup (List.replicate k.toNat xs).flatten))
theorem Zi:OpR X (binaryOp .Mult) (Zh X.K):=by
 intro pins s σ H x y v u Q I rx ry h;obtain ⟨l,k,xs,rfl,rfl,hT,hne,h2,hk,hz,q⟩:=h;cases rx;obtain ⟨t,rfl⟩:=ry;obtain ⟨its,r,pt,_⟩:=I.tuple hT;obtain ⟨⟨cls,dd,data,sl⟩,ho,hc,n,hd⟩:=id pt;simp only at hc hd;subst hc hd;have hl:=r.length;have hz':its.toArray.size * k.toNat<=sizeLine:=by rw[am,<-hl];exact hz
 have he:its.toArray.isEmpty=false:=by
  cases its with
  |nil=>exact absurd (de.mp hl) hne
  |cons _ _=>rfl
 have hnew:List.foldl (λx1 x2=>x1++x2) #[] (List.replicate k.toNat its.toArray)=(List.replicate k.toNat its).flatten.toArray:=by have:=foldl_rep its k.toNat [];rw[List.nil_append]at this;exact this
 refine wpAny_binaryOp_repeat_ref (T:="tuple") (U:="int") (by decide) ⟨_,ho,rfl⟩ (λs'=>typeIs_int s' k t) HT.Zd F.fills_int_mul F.slot_int_rmul HT.Ze F.slot_int_index.lookup
  (fm F.slot_int_rmul (typeIs_int s k t) F.entry_int_rmul (F.args_int_rmul_2 _ _) (HT.Zf k t l its.toArray n dd sl)
   ⟨ho,rfl,⟨_,ho,rfl⟩,fm PySem.F.slot_tuple_mul ⟨_,ho,rfl⟩ PySem.F.entry_tuple_mul (PySem.F.args_tuple_mul_2 _ _) (HT.Zg l its.toArray n dd sl k t h2 hk he hz' (by rw[hnew,am,len_rep,Nat.mul_comm,<-hl];exact hz)) ⟨ho,?_⟩⟩)
 rw[hnew];refine ⟨.ref s.heap.objs.size,_,I.laid (t':=s.toks) (o:=.tup (List.replicate k.toNat xs).flatten) (λb ob q=>ah _ q) (aE _) ?_,rfl,q _ (I.hok.fresh (aE _))⟩;exact ⟨by rw[len_rep,Nat.mul_comm];exact hz,_,r.rep k.toNat,IsTup.new _ _⟩
end
end L2
namespace HT
open PySem PySem.Spec PyProof.Rows Builtin
theorem Zj(a:Int)(t:Tok)(l:Addr)(items:Array Value)(n:Nat)(dd:Option Addr)(sl:Array (Option Value)):
  Meets (Builtin.«int.__rmul__» ⟨[.int a t,.ref l],[]⟩) (λ_ R s=>s.heap.get? l=some { cls:=.type "list",dict:=dd,data:=.seq items n,slots:=sl }/\R (.ok (.ret Value.notImplemented)) s):=
 .of_wp λprog w A R s h=>by obtain ⟨hp,g,d,tk,os⟩:=s;obtain ⟨hl,h⟩:=h;wp_walk;exact ⟨_,rfl,h⟩
theorem Zk(l:Addr)(items:Array Value)(n:Nat)(dd:Option Addr)(sl:Array (Option Value))(x:Int)(u:Tok)(hc0:¬(!Builtin.List.listFitsIndex x)=true)(hc1:¬items.size * x.toNat > (2 ^ 63 - 1) / 8)(hc2:¬Builtin.List.listTooLong (items.size * x.toNat)=true):
  Meets (Builtin.«list.__mul__» ⟨[.ref l,.int x u],[]⟩) (λ_ R s=>s.heap.get? l=some { cls:=.type "list",dict:=dd,data:=.seq items n,slots:=sl }/\R (.ok (.ret (Value.ref s.heap.objs.size))) { s with heap:=s.heap.push { cls:=Value.type "list",data:=Data.seq (List.foldl (λx1 x2=>x1++x2) #[] (List.replicate (if items.isEmpty=true then 0 else x.toNat) items)) },toks:=s.toks }):=
 .of_wp λprog w A R s h=>by
  obtain ⟨hp,g,d,tk,os⟩:=s;obtain ⟨hl,h⟩:=h;have hsz:=AutoListH.joined_fits hc2;wp_walk;refine wpAny_ite_false (decide_eq_false (Nat.not_lt.mpr hsz)) ?_;wp_walk;exact ⟨_,rfl,h⟩
end HT
namespace L2
open PySem PySem.Spec PyProof.Rows
section
variable {X:Cx}
def Zm(K:PF):R2:=λx y H Q=>∃(l:Addr)(k:Int)(xs:List V),x=.ref l/\y=.int k/\SqL K H l xs/\0<=k/\k<=1000/\xs.length * k.toNat<=sizeLine/\∀p,H p=none->Q (.ref p) (upd H p (.lst (List.replicate k.toNat xs).flatten))
theorem Zn:OpR X (binaryOp .Mult) (Zm X.K):=by
 intro pins s σ H x y v u Q I rx ry h;obtain ⟨l,k,xs,rfl,rfl,hH,h1,h2,hz,q⟩:=h;cases rx;obtain ⟨t,rfl⟩:=ry;obtain ⟨its,r,⟨⟨cls,dd,data,sl⟩,n,e,c1,c2,c3⟩,_⟩:=I.list hH;simp only at c1 c2 c3;have hl:=r.length;have hlen:its.toArray.size * k.toNat<=sizeLine:=by rw[am,<-hl];exact hz
 have hcap:¬its.toArray.size * k.toNat > (2 ^ 63 - 1) / 8:=by
  have:(sizeLine:Nat)<=(2 ^ 63 - 1) / 8:=by decide
  omega
 have hfit:¬(!Builtin.List.listFitsIndex k)=true:=by rw[fitsIndex_both (by omega) (by omega)];exact bq
 have hlong:¬Builtin.List.listTooLong (its.toArray.size * k.toNat)=true:=by rw[Cz hlen];exact bq
 have hnew:List.foldl (λx1 x2=>x1++x2) #[] (List.replicate (if its.toArray.isEmpty=true then 0 else k.toNat) its.toArray)=(List.replicate k.toNat its).flatten.toArray:=by
  have f0:∀m:Nat,List.foldl (λx1 x2=>x1++x2) #[] (List.replicate m its.toArray)=(List.replicate m its).flatten.toArray:=λm=>by
   have:=foldl_rep its m [];rw[List.nil_append]at this;exact this
  rw[f0];cases its with
  |nil=>simp
  |cons a r'=>rw[if_neg (by simp)]
 subst c1 c3;refine wpAny_binaryOp_repeat_ref (T:="list") (U:="int") (by decide) ⟨_,e,rfl⟩ (λs'=>typeIs_int s' k t) noFill_list_mul F.fills_int_mul F.slot_int_rmul repeat_list F.slot_int_index.lookup
  (fm F.slot_int_rmul (typeIs_int s k t) F.entry_int_rmul (F.args_int_rmul_2 _ _) (HT.Zj k t l its.toArray n dd sl)
   ⟨e,rfl,⟨_,e,rfl⟩,fm F.slot_list_mul ⟨_,e,rfl⟩ F.entry_list_mul (F.args_list_mul_2 _ _) (HT.Zk l its.toArray n dd sl k t hfit hcap hlong) ⟨e,?_⟩⟩)
 rw[hnew];exact ⟨.ref _,_,I.lnew (t':=s.toks) (r.rep k.toNat) (by rw[len_rep,Nat.mul_comm];exact hz),rfl,q _ I.fresh⟩
end
end L2
namespace PySem
end PySem
namespace L2
open PySem PySem.Spec PyProof.Rows
end L2
namespace PyProof.Rows
open PySem
theorem Zo {prog:Program} {w:World} {A:Around} {E:Value->Shared->Prop} {s:Shared} {it:Addr} {T:String} {o:Obj} {items:List Value} {n:Nat} {ns:List Int} {Q:Value->Shared->Prop} (hT:T="list"\/T="tuple")
  (ho:s.heap.get? it=some o) (hc:o.cls=.type T) (hd:o.data=.seq items.toArray n) (hI:IntsAre items ns) (h64:items.length < 64)
  (h:∀(h1 h':Heap) (e:Nat) (out:Array Value) (ns':List Int),IntsAre out.toList ns'->ns'.Perm ns->ns'.Pairwise (·<=·)->(∀b o',s.heap.get? b=some o'->h1.get? b=some o')->(∀b o',h1.get? b=some o'->h'.get? b=some o')->h'.get? h1.objs.size=some (seqObj "list" out e)->Q (.ref h1.objs.size) { s with heap:=h' }):
  wpAny (model prog w) A (call (.builtin "sorted") [.ref it]) Q E s:=by
 refine Calls.call_function_entry kind_sorted plain_sorted entry_sorted (args_sorted1 _) ?_;unfold Builtin.«sorted»;refine wpAny_bind (m:=checkCount "sorted" 1 1 _) (wpAny_pure ?_);refine wpAny_bind (wpAny_collect_seq it hT ho hc hd (λh1 k1=>?_) (by rw[List.size_toArray,sizeLine_eq];omega));refine wpAny_bind (wpAny_newList ?_);have e1:items.toArray.toList=items:=by simp
 rw[e1];have hoL:(h1.push (seqObj "list" items.toArray 0)).get? h1.objs.size=some (seqObj "list" items.toArray 0):=Heap.get?_push_size _ rfl;show wpAny _ _ _ _ _ { s with heap:=h1.push (seqObj "list" items.toArray 0) };refine wpAny_bind (wpAny_holding (wpAny_call_entry slot_list_sort ⟨_,hoL,rfl⟩ entry_list_sort (list_sort_tree hoL hI h64 λout ns' a1 a2 a3=>⟨_,rfl,?_⟩) (args_list_sort _)));obtain ⟨e,he⟩:=sortedHeap_at (vs:=items) (out:=out) hoL;refine wpAny_pure ⟨_,rfl,h h1 _ e out ns' a1 a2 a3 k1 (λb o' hb1=>?_) he⟩;rw[sortedHeap_old (Nat.ne_of_lt (Heap.lt_size hb1)) (by rw[size_push'];exact Nat.lt_succ_of_lt (Heap.lt_size hb1))];exact Heap.get?_push_of_some _ hb1
end PyProof.Rows
namespace L2
open PySem PySem.Spec PyProof.Rows
theorem aiI {X:Cx}:bB X (.builtin "sorted") (λxs H Q=>∃(p:Addr) (ns:List Int),xs=[.ref p]/\SqT X.K H p (ns.map V.int)/\ns.length < 64/\∀ns':List Int,ns'.Perm ns->ns'.Pairwise (·<=·)->∀l,H l=none->Q (.ref l) (upd H l (.lst (ns'.map V.int)))):=by
 intro pins s σ H xs us Q I r h;obtain ⟨p,ns,rfl,hq,h64,q⟩:=h;obtain ⟨u,rfl,ru⟩:=vals1 r;cases ru;obtain ⟨its,rv,⟨o,ho,hc,n,hd⟩,hz⟩:=I.tuple hq;have hlen:its.length=ns.length:=by rw[<-rv.length];simp
 refine Zo (.inr rfl) ho hc hd (intsAre_of rv) (by omega) λh1 h' e out ns' a1 a2 a3 k1 k2 he=>?_;have I1:Inv X pins σ H { s with heap:=h1 }:=I.kept (t':=s.toks) k1;have hsz:(ns'.map V.int).length<=sizeLine:=by rw[al,a2.length_eq,fT];omega
 exact ⟨.ref h1.objs.size,_,I1.laid (t':=s.toks) k2 (aE _) (show ObjOk X.prog X.w _ _ _ (.lst (ns'.map V.int)) from ⟨hsz,out.toList,e,vW a1,by rw[Array.toArray_toList];exact he⟩),rfl,q ns' a2 a3 _ (I1.hok.fresh (aE _))⟩
end L2
namespace RF
open PySem PySem.Spec PyProof.Rows L2
inductive D where
 |non |bl (b:Bool) |int (i:Int) |str (l:List Nat) |tup (xs:List D) |lst (xs:List D) |ref (a:Addr) |scr (ns:List Int) |exn (C:String) |obj (C f:String) (q:Addr)
 deriving Inhabited
inductive DO where
 |lst (xs:List D)
 deriving Inhabited
abbrev DH:=Addr->Option DO
def aL(G:DH)(a:Addr)(o:DO):DH:=λb=>if b=a then some o else G b
def iy(G:DH)(a:Addr):DH:=λb=>if b=a then none else G b
theorem bh{G:DH}{a:Addr}{o:DO}:aL G a o a=some o:=if_pos rfl
theorem du{G:DH}{a b:Addr}{o:DO}(h:b≠a):aL G a o b=G b:=if_neg h
theorem wy{G:DH}{a:Addr}:iy G a a=none:=if_pos rfl
theorem DQ{G:DH}{a b:Addr}(h:b≠a):iy G a b=G b:=if_neg h
theorem Zq{G:DH}{a:Addr}{o u:DO}:aL (aL G a o) a u=aL G a u:=by funext b;unfold aL;split <;> rfl
theorem DR{G:DH}{a:Addr}{o:DO}(h:G a=none):iy (aL G a o) a=G:=by
 funext b;unfold aL iy;split
 ·rename_i e;rw[e,h]
 ·rename_i e;exact if_neg e
theorem wz{G:DH}{a b:Addr}{o:DO}(h:G a=some o)(h':G b=none):a≠b:=by intro e;subst e;rw[h]at h';cases h'
abbrev sz:Nat:=1000000
abbrev FZ:=Addr->Prop
def FzL(H:Hp)(F:FZ)(a:Addr)(vs:List V):Prop:=F a/\H a=some (.lst vs)
theorem FzL.sq{K:PF}{H:Hp}{F:FZ}{a:Addr}{vs:List V}(h:FzL H F a vs):SqL K H a vs:=.inl (.inl h.2)
structure TpT(K:PF)(H:Hp)(a:Addr)(vs:List V):Prop where
 it:H a=some (.tup vs)
theorem TpT.sq{K:PF}{H:Hp}{a:Addr}{vs:List V}(h:TpT K H a vs):SqT K H a vs:=.inl (.inl h.it)
def ScL(K:PF)(H:Hp)(a:Addr)(vs:List V):Prop:=
 (∃o,H a=some (.frz o (.lst vs)))\/
  ∃(o:Obj) (its:Array Value) (n:Nat),K.lookup a=some o/\o.cls=.type "list"/\o.dict=none/\o.data=.seq its n/\its.size<=sizeLine/\Vals vs its.toList
theorem ScL.sq{K:PF}{H:Hp}{a:Addr}{vs:List V}(h:ScL K H a vs):SqL K H a vs:=by
 rcases h with ⟨o,h⟩ |h
 ·exact .inl (.inr ⟨o,h⟩)
 ·exact .inr h
def FzO(H:Hp)(F:FZ)(a c dx:Addr)(f:Str)(q:Addr):Prop:=F a/\H a=some (.ins c dx [(f,.ref q)])
mutual
noncomputable def Rep(K:PF)(H:Hp)(F:FZ):D->V->Prop
 |.non,v=>v=.non
 |.bl b,v=>v=.bl b
 |.int i,v=>v=.int i
 |.str l,v=>v=.str (tx l)/\l.length<=sz
 |.tup ds,v=>∃a vs,v=.ref a/\TpT K H a vs/\Reps K H F ds vs
 |.lst ds,v=>∃a vs,v=.ref a/\FzL H F a vs/\Reps K H F ds vs
 |.ref a,v=>v=.ref a
 |.scr ns,v=>∃a,v=.ref a/\ScL K H a (ns.map V.int)
 |.obj C f q,v=>∃a c dx,v=.ref a/\FzO H F a c dx (Str.ofString f) q/\PySem.W.nsIn K mainGlobals (Str.ofString C)=some (some (.ref c))
 |.exn C,v=>∃a c,v=.ref a/\XO H a c/\PySem.W.nsIn K mainGlobals (Str.ofString C)=some (some (.ref c))
noncomputable def Reps(K:PF)(H:Hp)(F:FZ):List D->List V->Prop
 |[],vs=>vs=[]
 |d::ds,vs=>∃v r,vs=v::r/\Rep K H F d v/\Reps K H F ds r
end
structure Ext(H:Hp)(F:FZ)(H':Hp)(F':FZ):Prop where
 sub:∀a,F a->F' a
 keep:∀a,F a->H' a=H a
 tups:∀a xs,H a=some (.tup xs)->H' a=some (.tup xs)
 frzs:∀a o u,H a=some (.frz o u)->H' a=some (.frz o u)
theorem Ext.refl(H:Hp)(F:FZ):Ext H F H F:=⟨λ_ h=>h,λ_ _=>rfl,λ_ _ h=>h,λ_ _ _ h=>h⟩
theorem Ext.trans{H H1 H2:Hp}{F F1 F2:FZ}(a:Ext H F H1 F1)(b:Ext H1 F1 H2 F2):Ext H F H2 F2:=
 ⟨λc h=>b.sub c (a.sub c h),λc h=>(b.keep c (a.sub c h)).trans (a.keep c h),λc xs h=>b.tups c xs (a.tups c xs h),λc o u h=>b.frzs c o u (a.frzs c o u h)⟩
section
variable {K:PF} {H H':Hp} {F F':FZ}
theorem TpT.ext{a:Addr}{vs:List V}(x:Ext H F H' F')(h:TpT K H a vs):TpT K H' a vs:=⟨x.tups _ _ h.it⟩
theorem FzL.ext{a:Addr}{vs:List V}(x:Ext H F H' F')(h:FzL H F a vs):FzL H' F' a vs:=⟨x.sub _ h.1,(x.keep _ h.1).trans h.2⟩
theorem ScL.ext{a:Addr}{vs:List V}(x:Ext H F H' F')(h:ScL K H a vs):ScL K H' a vs:=by
 rcases h with ⟨o,h⟩ |h
 ·exact .inl ⟨o,x.frzs _ _ _ h⟩
 ·exact .inr h
mutual
theorem Rep.ext(x:Ext H F H' F'):∀{d:D}{v:V},Rep K H F d v->Rep K H' F' d v
 |.non,_,h=>h
 |.bl _,_,h=>h
 |.int _,_,h=>h
 |.str _,_,h=>h
 |.tup _,_,⟨a,vs,e,q,r⟩=>⟨a,vs,e,TpT.ext x q,Reps.ext x r⟩
 |.lst _,_,⟨a,vs,e,q,r⟩=>⟨a,vs,e,FzL.ext x q,Reps.ext x r⟩
 |.ref _,_,h=>h
 |.scr _,_,⟨a,e,q⟩=>⟨a,e,ScL.ext x q⟩
 |.obj _ _ _,_,⟨a,c,dx,e,⟨hf,hh⟩,n⟩=>⟨a,c,dx,e,⟨x.sub _ hf,(x.keep _ hf).trans hh⟩,n⟩
 |.exn _,_,⟨a,c,e,⟨o,y,q,hc⟩,n⟩=>⟨a,c,e,⟨o,y,x.frzs _ _ _ q,hc⟩,n⟩
theorem Reps.ext(x:Ext H F H' F'):∀{ds:List D}{vs:List V},Reps K H F ds vs->Reps K H' F' ds vs
 |[],_,h=>h
 |_::_,_,⟨v,r,e,h,t⟩=>⟨v,r,e,Rep.ext x h,Reps.ext x t⟩
end
theorem Reps.nil:Reps K H F [] []:=rfl
theorem Reps.cons{d:D}{v:V}{ds:List D}{vs:List V}(h:Rep K H F d v)(t:Reps K H F ds vs):Reps K H F (d::ds) (v::vs):=⟨v,vs,rfl,h,t⟩
theorem Reps.length:∀{ds:List D}{vs:List V},Reps K H F ds vs->ds.length=vs.length
 |[],_,h=>by cases h;rfl
 |_::_,_,⟨v,r,e,_,t⟩=>by subst e;simp[Reps.length t]
theorem Reps.append:∀{ds es:List D}{vs us:List V},Reps K H F ds vs->Reps K H F es us->Reps K H F (ds++es) (vs++us)
 |[],_,_,_,h,t=>by cases h;exact t
 |_::_,_,_,_,⟨v,r,e,h,t⟩,t'=>by subst e;exact ⟨v,_,rfl,h,Reps.append t t'⟩
theorem Reps.get:∀{ds:List D}{vs:List V}{i:Nat}{d:D},Reps K H F ds vs->ds[i]?=some d->∃v,vs[i]?=some v/\Rep K H F d v
 |[],_,_,_,_,e=>by simp at e
 |_::_,_,0,_,⟨v,r,e,h,t⟩,q=>by subst e;simp at q;subst q;exact ⟨v,rfl,h⟩
 |_::_,_,i+1,d,⟨v,r,e,h,t⟩,q=>by
  subst e;obtain ⟨u,h1,h2⟩:=Reps.get (i:=i) (d:=d) t (by simpa using q);exact ⟨u,by simpa using h1,h2⟩
theorem Reps.set{d:D}{v:V}(r:Rep K H F d v):∀{ds:List D}{vs:List V}(i:Nat),Reps K H F ds vs->Reps K H F (ds.set i d) (vs.set i v)
 |[],_,_,h=>by cases h;exact rfl
 |_::_,_,0,⟨v',r',e,h,t⟩=>by subst e;exact ⟨_,_,rfl,r,t⟩
 |_::_,_,i+1,⟨v',r',e,h,t⟩=>by subst e;exact ⟨_,_,rfl,h,Reps.set r i t⟩
theorem Reps.take:∀{ds:List D}{vs:List V}(n:Nat),Reps K H F ds vs->Reps K H F (ds.take n) (vs.take n)
 |_,_,0,_=>rfl
 |[],_,_+1,h=>by cases h;exact rfl
 |_::_,_,n+1,⟨v',r',e,h,t⟩=>by subst e;exact ⟨_,_,rfl,h,Reps.take n t⟩
theorem Reps.drop:∀{ds:List D}{vs:List V}(n:Nat),Reps K H F ds vs->Reps K H F (ds.drop n) (vs.drop n)
 |_,_,0,h=>h
 |[],_,_+1,h=>by cases h;exact rfl
 |_::_,_,n+1,⟨v',r',e,h,t⟩=>by subst e;exact Reps.drop n t
theorem Reps.cut{ds:List D}{vs:List V}(h:Reps K H F ds vs)(lo hi:Option Int):
  Reps K H F ((ds.drop (HT.sIx ds.length 0 lo)).take (HT.sIx ds.length ds.length hi - HT.sIx ds.length 0 lo)) (dI vs lo hi):=by
 unfold dI;rw[<-h.length];exact (h.drop _).take _
theorem Reps.rep{ds:List D}{vs:List V}(h:Reps K H F ds vs):∀k:Nat,Reps K H F (List.replicate k ds).flatten (List.replicate k vs).flatten
 |0=>rfl
 |k+1=>by
  rw[bv,bv,eM,eM];exact Reps.append h (Reps.rep h k)
end
def Zr(K:PF)(H:Hp)(F:FZ)(a:Addr):DO->Prop
 |.lst ds=>∃vs,H a=some (.lst vs)/\Reps K H F ds vs
structure R(K:PF)(H:Hp)(F:FZ)(G:DH):Prop where
 fz:∀a,F a->G a=none/\∃o,H a=some o
 ob:∀a o,G a=some o->Zr K H F a o
section
variable {K:PF} {H:Hp} {F:FZ} {G:DH} {p:Addr} {vs:List V} {ds:List D}
theorem R.lst(r:R K H F G)(h:G p=some (.lst ds)):∃vs,H p=some (.lst vs)/\Reps K H F ds vs:=r.ob p _ h
theorem R.free(r:R K H F G)(h:H p=none):G p=none:=by
 cases e:G p with
 |none=>rfl
 |some o=>
  cases o with
  |lst ds=>obtain ⟨vs,q,_⟩:=r.lst e;rw[h]at q;cases q
theorem R.notF(r:R K H F G)(h:H p=none):¬F p:=λf=>by
 obtain ⟨_,vs,q⟩:=r.fz p f;rw[h]at q;cases q
theorem cR{o:HO}(r:R K H F G)(h:H p=none):Ext H F (upd H p o) F:=
 ⟨λ_ f=>f,λa f=>aG λe=>r.notF h (by rw[<-e];exact f),λa xs q=>by rw[aG (aU q h)];exact q,λa ob u q=>by rw[aG (aU q h)];exact q⟩
theorem R.new{o:HO}(r:R K H F G)(h:H p=none):R K (upd H p o) F G:=by
 have x:Ext H F (upd H p o) F:=cR r h;refine ⟨λa f=>⟨(r.fz a f).1,?_⟩,λa u e=>?_⟩
 ·obtain ⟨_,vs,q⟩:=r.fz a f;exact ⟨vs,by rw[x.keep a f];exact q⟩
 ·cases u with
  |lst ds=>
   obtain ⟨vs,q,t⟩:=r.lst e;exact ⟨vs,by rw[aG (aU q h)];exact q,Reps.ext x t⟩
theorem R.newL(r:R K H F G)(h:H p=none)(t:Reps K H F ds vs):R K (upd H p (.lst vs)) F (aL G p (.lst ds)):=by
 have x:Ext H F (upd H p (.lst vs)) F:=cR r h;have r':R K (upd H p (.lst vs)) F G:=r.new h;refine ⟨λa f=>⟨?_,(r'.fz a f).2⟩,λa u e=>?_⟩
 ·rw[du λe=>r.notF h (by rw[<-e];exact f)];exact (r.fz a f).1
 ·by_cases ha:a=p
  ·subst ha;rw[bh]at e;cases e;exact ⟨vs,bW,Reps.ext x t⟩
  ·rw[du ha]at e;exact r'.ob a u e
theorem wA(r:R K H F G)(h:H p=none):Ext H F (upd H p (.lst vs)) (λa=>F a\/a=p):=
 ⟨λ_ f=>.inl f,(cR r h).keep,(cR r h).tups,(cR r h).frzs⟩
theorem R.newF(r:R K H F G)(h:H p=none):R K (upd H p (.lst vs)) (λa=>F a\/a=p) G:=by
 have x:Ext H F (upd H p (.lst vs)) (λa=>F a\/a=p):=wA r h;refine ⟨λa f=>?_,λa u e=>?_⟩
 ·rcases f with f |f
  ·obtain ⟨g,vs',q⟩:=r.fz a f;exact ⟨g,vs',by rw[x.keep a f];exact q⟩
  ·subst f;exact ⟨r.free h,_,bW⟩
 ·cases u with
  |lst ds=>
   obtain ⟨vs',q,t⟩:=r.lst e;exact ⟨vs',by rw[aG (aU q h)];exact q,Reps.ext x t⟩
theorem wB{o:HO}(r:R K H F G)(h:H p=none):Ext H F (upd H p o) (λa=>F a\/a=p):=
 ⟨λ_ f=>.inl f,(cR r h).keep,(cR r h).tups,(cR r h).frzs⟩
theorem R.newO{o:HO}(r:R K H F G)(h:H p=none):R K (upd H p o) (λa=>F a\/a=p) G:=by
 have x:Ext H F (upd H p o) (λa=>F a\/a=p):=wB r h;refine ⟨λa f=>?_,λa u e=>?_⟩
 ·rcases f with f |f
  ·obtain ⟨g,vs',q⟩:=r.fz a f;exact ⟨g,vs',by rw[x.keep a f];exact q⟩
  ·subst f;exact ⟨r.free h,_,bW⟩
 ·cases u with
  |lst ds=>
   obtain ⟨vs',q,t⟩:=r.lst e;exact ⟨vs',by rw[aG (aU q h)];exact q,Reps.ext x t⟩
theorem Zt(r:R K H F G)(h:H p=none)(t:Reps K H F ds vs):Rep K (upd H p (.lst vs)) (λa=>F a\/a=p) (.lst ds) (.ref p):=
 ⟨p,vs,rfl,⟨.inr rfl,bW⟩,Reps.ext (wA r h) t⟩
theorem wC(r:R K H F G)(h:H p=none)(t:Reps K H F ds vs):Rep K (upd H p (.tup vs)) F (.tup ds) (.ref p):=
 ⟨p,vs,rfl,⟨bW⟩,Reps.ext (cR r h) t⟩
theorem jt{H:Hp}{a x c dx:Addr}{u:HO}{fs:List (Str×V)}(h:H a=some u)(hx:H x=some (.ins c dx []))(hu:u≠.ins c dx []):a≠x:=λe=>hu (by subst e;rw[h]at hx;exact dv hx)
mutual
theorem Rep.setO{x c dx:Addr}{fs:List (Str×V)}(hx:H x=some (.ins c dx [])):∀{d:D}{v:V},Rep K H F d v->Rep K (upd H x (.ins c dx fs)) F d v
 |.non,_,h=>h
 |.bl _,_,h=>h
 |.int _,_,h=>h
 |.str _,_,h=>h
 |.tup _,_,⟨a,vs,e,q,r⟩=>⟨a,vs,e,⟨by rw[aG (jt (fs:=fs) q.it hx (by intro w;cases w))];exact q.it⟩,Reps.setO hx r⟩
 |.lst _,_,⟨a,vs,e,q,r⟩=>⟨a,vs,e,⟨q.1,by rw[aG (jt (fs:=fs) q.2 hx (by intro w;cases w))];exact q.2⟩,Reps.setO hx r⟩
 |.ref _,_,h=>h
 |.scr _,_,⟨a,e,q⟩=>⟨a,e,by
   rcases q with ⟨o,q⟩ |q
   ·exact .inl ⟨o,by rw[aG (jt (fs:=fs) q hx (by intro w;cases w))];exact q⟩
   ·exact .inr q⟩
 |.obj _ _ _,_,⟨a,c',dx',e,⟨hf,hh⟩,n⟩=>⟨a,c',dx',e,⟨hf,by rw[aG (jt (fs:=fs) hh hx (by intro w;cases w))];exact hh⟩,n⟩
 |.exn _,_,⟨a,c',e,⟨o,y,q,hc⟩,n⟩=>⟨a,c',e,⟨o,y,by rw[aG (jt (fs:=fs) q hx (by intro w;cases w))];exact q,hc⟩,n⟩
theorem Reps.setO{x c dx:Addr}{fs:List (Str×V)}(hx:H x=some (.ins c dx [])):∀{ds:List D}{vs:List V},Reps K H F ds vs->Reps K (upd H x (.ins c dx fs)) F ds vs
 |[],_,h=>h
 |_::_,_,⟨v,r,e,h,t⟩=>⟨v,r,e,Rep.setO hx h,Reps.setO hx t⟩
end
theorem R.setO{x c dx:Addr}{fs:List (Str×V)}(r:R K H F G)(hx:H x=some (.ins c dx [])):R K (upd H x (.ins c dx fs)) F G:=by
 refine ⟨λa f=>⟨(r.fz a f).1,?_⟩,λa u e=>?_⟩
 ·by_cases h:a=x
  ·exact ⟨_,by rw[h,bW]⟩
  ·rw[aG h];exact (r.fz a f).2
 ·cases u with
  |lst ds=>
   obtain ⟨vs,q,t⟩:=r.lst e;exact ⟨vs,by rw[aG (jt (fs:=fs) q hx (by intro w;cases w))];exact q,Reps.setO hx t⟩
theorem fJ{ds0:List D}{o:HO}(r:R K H F G)(h:G p=some (.lst ds0)):Ext H F (upd H p o) F:=by
 obtain ⟨vs0,q,_⟩:=r.lst h;refine ⟨λ_ f=>f,λa f=>aG λe=>?_,λa xs z=>?_,λa ob u z=>?_⟩
 ·subst e;rw[(r.fz a f).1]at h;cases h
 ·rw[aG (Bd z q (by intro w;cases w))];exact z
 ·rw[aG (Bd z q (by intro w;cases w))];exact z
theorem R.write{ds0:List D}(r:R K H F G)(h:G p=some (.lst ds0))(t:Reps K H F ds vs):R K (upd H p (.lst vs)) F (aL G p (.lst ds)):=by
 have x:Ext H F (upd H p (.lst vs)) F:=fJ r h;refine ⟨λa f=>⟨?_,?_⟩,λa u e=>?_⟩
 ·rw[du λe=>by subst e;rw[(r.fz a f).1]at h;cases h];exact (r.fz a f).1
 ·obtain ⟨_,vs',q⟩:=r.fz a f;exact ⟨vs',by rw[x.keep a f];exact q⟩
 ·by_cases ha:a=p
  ·subst ha;rw[bh]at e;cases e;exact ⟨vs,bW,Reps.ext x t⟩
  ·rw[du ha]at e;cases u with
   |lst ds'=>
    obtain ⟨vs',q,t'⟩:=r.lst e;exact ⟨vs',by rw[aG ha];exact q,Reps.ext x t'⟩
theorem wD:Ext H F H (λa=>F a\/a=p):=⟨λ_ f=>.inl f,λ_ _=>rfl,λ_ _ h=>h,λ_ _ _ h=>h⟩
theorem R.frz(r:R K H F G)(h:G p=some (.lst ds)):R K H (λa=>F a\/a=p) (iy G p):=by
 have x:Ext H F H (λa=>F a\/a=p):=wD;refine ⟨λa f=>?_,λa u e=>?_⟩
 ·rcases f with f |f
  ·obtain ⟨g,vs',q⟩:=r.fz a f;refine ⟨?_,vs',q⟩;by_cases ha:a=p
   ·rw[ha];exact wy
   ·rw[DQ ha];exact g
  ·subst f;obtain ⟨vs,q,_⟩:=r.lst h;exact ⟨wy,_,q⟩
 ·by_cases ha:a=p
  ·rw[ha,wy]at e;cases e
  ·rw[DQ ha]at e;cases u with
   |lst ds'=>
    obtain ⟨vs',q,t'⟩:=r.lst e;exact ⟨vs',q,Reps.ext x t'⟩
theorem Zu(r:R K H F G)(h:G p=some (.lst ds)):Rep K H (λa=>F a\/a=p) (.lst ds) (.ref p):=by obtain ⟨vs,q,t⟩:=r.lst h;exact ⟨p,vs,rfl,⟨.inr rfl,q⟩,Reps.ext wD t⟩
end
def view(G:DH):D->D
 |.ref p=>match G p with |some (.lst ds)=>.lst ds |none=>.ref p
 |d=>d
theorem Rep.list{K:PF}{H:Hp}{F:FZ}{G:DH}{d:D}{v:V}{ds:List D}(r:R K H F G)(h:Rep K H F d v)(e:view G d=.lst ds):∃a vs,v=.ref a/\SqL K H a vs/\Reps K H F ds vs:=by
 cases d with
 |lst xs=>
  have e':D.lst xs=.lst ds:=e;cases e';obtain ⟨a,vs,e1,q,t⟩:=h;exact ⟨a,vs,e1,q.sq,t⟩
 |ref p=>
  have hv:v=.ref p:=h;unfold view at e;cases g:G p with
  |none=>simp only[g]at e;cases e
  |some o=>
   cases o with
   |lst xs=>
    simp only[g]at e;cases e;obtain ⟨vs,q,t⟩:=r.lst g;exact ⟨p,vs,hv,.inl (.inl q),t⟩
 |_=>cases (show _=D.lst ds from e)
theorem gw{G:DH}{d:D}{ds:List D}(e:view G d=.tup ds):d=.tup ds:=by
 cases d with
 |ref p=>
  unfold view at e;cases g:G p with
  |none=>simp only[g]at e;cases e
  |some o=>cases o;simp only[g]at e;cases e
 |_=>exact e
theorem gA{G:DH}{d:D}{l:List Nat}(e:view G d=.str l):d=.str l:=by
 cases d with
 |ref p=>
  unfold view at e;cases g:G p with
  |none=>simp only[g]at e;cases e
  |some o=>cases o;simp only[g]at e;cases e
 |_=>exact e
theorem dM{G:DH}{d:D}{l:Int}(e:view G d=.int l):d=.int l:=by
 cases d with
 |ref p=>
  unfold view at e;cases g:G p with
  |none=>simp only[g]at e;cases e
  |some o=>cases o;simp only[g]at e;cases e
 |_=>exact e
theorem Zv{G:DH}{d:D}{l:Bool}(e:view G d=.bl l):d=.bl l:=by
 cases d with
 |ref p=>
  unfold view at e;cases g:G p with
  |none=>simp only[g]at e;cases e
  |some o=>cases o;simp only[g]at e;cases e
 |_=>exact e
abbrev ak:=List (Option D)
def EnvR(K:PF)(H:Hp)(F:FZ):ak->L2.St->Prop
 |[],σ=>σ=[]
 |o::ρ,σ=>∃u τ,σ=u::τ/\(∀d,o=some d->∃v,u=some v/\Rep K H F d v)/\EnvR K H F ρ τ
section
variable {K:PF} {H H':Hp} {F F':FZ}
theorem EnvR.ext(x:Ext H F H' F'):∀{ρ:ak}{σ:L2.St},EnvR K H F ρ σ->EnvR K H' F' ρ σ
 |[],_,h=>h
 |_::_,_,⟨u,τ,e,h,t⟩=>⟨u,τ,e,λd q=>by obtain ⟨v,e1,r⟩:=h d q;exact ⟨v,e1,Rep.ext x r⟩,EnvR.ext x t⟩
theorem EnvR.get:∀{ρ:ak}{σ:L2.St}{i:Nat}{d:D},EnvR K H F ρ σ->ρ[i]?=some (some d)->∃v,σ[i]?=some (some v)/\Rep K H F d v
 |[],_,_,_,_,e=>by simp at e
 |_::_,_,0,d,⟨u,τ,e,h,t⟩,q=>by
  subst e;obtain ⟨v,e1,r⟩:=h d (by simpa using q);exact ⟨v,by simp[e1],r⟩
 |_::_,_,i+1,d,⟨u,τ,e,h,t⟩,q=>by
  subst e;obtain ⟨v,e1,r⟩:=EnvR.get (i:=i) (d:=d) t (by simpa using q);exact ⟨v,by simpa using e1,r⟩
theorem EnvR.set{d:D}{v:V}(r:Rep K H F d v):∀{ρ:ak}{σ:L2.St}(i:Nat),EnvR K H F ρ σ->EnvR K H F (ρ.set i (some d)) (σ.set i (some v))
 |[],_,_,h=>by cases h;exact rfl
 |_::_,_,0,⟨u,τ,e,h,t⟩=>by subst e;exact ⟨_,_,rfl,λd' q=>⟨v,rfl,by cases q;exact r⟩,t⟩
 |_::_,_,i+1,⟨u,τ,e,h,t⟩=>by subst e;exact ⟨_,_,rfl,h,EnvR.set r i t⟩
theorem EnvR.unset:∀{ρ:ak}{σ:L2.St}(i:Nat),EnvR K H F ρ σ->EnvR K H F (ρ.set i Option.none) (σ.set i Option.none)
 |[],_,_,h=>by cases h;exact rfl
 |_::_,_,0,⟨u,τ,e,h,t⟩=>by subst e;exact ⟨_,_,rfl,λd' q=>(nomatch q),t⟩
 |_::_,_,i+1,⟨u,τ,e,h,t⟩=>by subst e;exact ⟨_,_,rfl,h,EnvR.unset i t⟩
theorem EnvR.none:∀(n:Nat),EnvR K H F (List.replicate n Option.none) (List.replicate n Option.none)
 |0=>rfl
 |n+1=>⟨_,_,rfl,λd q=>(nomatch q),EnvR.none n⟩
theorem EnvR.start:∀{ds:List D}{vs:List V}(n:Nat),Reps K H F ds vs->EnvR K H F (ds.map some++List.replicate n Option.none) (vs.map some++List.replicate n Option.none)
 |[],_,n,h=>by cases h;exact EnvR.none n
 |d::ds,_,n,⟨v,r,e,h,t⟩=>by
  subst e;exact ⟨_,_,rfl,λd' q=>⟨v,rfl,by cases q;exact h⟩,EnvR.start n t⟩
theorem EnvR.cap{ρ:ak}{σ:L2.St}(h:EnvR K H F ρ σ):∀(cap:List (Option Nat)),EnvR K H F (cap.map λo=>match o with |Option.none=>Option.none |some j=>(ρ[j]?).join) (dJ cap σ)
 |[]=>rfl
 |Option.none::cap=>⟨_,_,rfl,λd q=>(nomatch q),EnvR.cap h cap⟩
 |some j::cap=>by
  refine ⟨_,_,rfl,λd q=>?_,EnvR.cap h cap⟩;have q':(ρ[j]?).join=some d:=q;have z:ρ[j]?=some (some d):=by
   cases e:ρ[j]? with
   |none=>rw[e]at q';cases q'
   |some o=>rw[e]at q';exact fe some q'
  obtain ⟨v,e1,r⟩:=h.get z;exact ⟨v,by show (σ[j]?).join=some v;rw[e1];rfl,r⟩
end
mutual
noncomputable def deq:D->D->Bool
 |.non,.non=>true
 |.bl a,.bl b=>a==b
 |.bl a,.int b=>(if a then 1 else 0)==b
 |.int a,.bl b=>a==(if b then 1 else 0)
 |.int a,.int b=>a==b
 |.str a,.str b=>a==b
 |.tup a,.tup b=>bN a b
 |.lst a,.lst b=>bN a b
 |_,_=>false
noncomputable def bN:List D->List D->Bool
 |[],[]=>true
 |a::as,b::bs=>deq a b&&bN as bs
 |_,_=>false
end
mutual
/-- no tracked object within -/
noncomputable def nr:D->Bool
 |.tup a=>nrs a
 |.lst a=>nrs a
 |.ref _=>false
 |.scr _=>false
 |.exn _=>false
 |.obj _ _ _=>false
 |_=>true
noncomputable def nrs:List D->Bool
 |[]=>true
 |a::as=>nr a&&nrs as
end
mutual
def dpt:D->Nat
 |.tup a=>aQ a+1
 |.lst a=>aQ a+1
 |_=>0
def aQ:List D->Nat
 |[]=>0
 |a::as=>max (dpt a) (aQ as)
end
noncomputable def truth:D->Option Bool
 |.non=>some false
 |.bl b=>some b
 |.int i=>some (i != 0)
 |.str l=>some (!l.isEmpty)
 |.tup l=>some (!l.isEmpty)
 |.lst l=>some (!l.isEmpty)
 |_=>none
noncomputable def cut{α:Type}(xs:List α)(lo hi:Option Int):List α:=(xs.drop (HT.sIx xs.length 0 lo)).take (HT.sIx xs.length xs.length hi - HT.sIx xs.length 0 lo)
def reps{α:Type}(xs:List α)(n:Nat):List α:=(List.replicate n xs).flatten
def mk(fz:Bool)(xs:List D)(G:DH)(k:D->DH->Prop):Prop:=
 match fz with
 |true=>k (.lst xs) G
 |false=>∀p,G p=none->k (.ref p) (aL G p (.lst xs))
def ju(fz:Bool)(a b:D)(G:DH)(k:D->DH->Prop):Prop:=
 match a with
 |.int i=>(match b with |.int j=>k (.int (i+j)) G |_=>False)
 |.str x=>(match b with |.str y=>x.length+y.length<=sz/\k (.str (x++y)) G |_=>False)
 |.lst x=>(match b with |.lst y=>x.length+y.length<=sz/\mk fz (x++y) G k |_=>False)
 |.tup x=>(match b with |.tup y=>x.length+y.length<=sz/\k (.tup (x++y)) G |_=>False)
 |_=>False
def gB(a b:D)(p:Int->Int->Prop):Prop:=
 match a with
 |.int i=>(match b with |.int j=>p i j |_=>False)
 |_=>False
def jw(fz:Bool)(a b:D)(G:DH)(k:D->DH->Prop):Prop:=
 match b with
 |.int n=>(match a with |.int i=>CMul i n/\k (.int (i * n)) G |.str x=>0<=n/\n<=1000/\x.length * n.toNat<=sz/\k (.str (reps x n.toNat)) G |.tup x=>2<=n/\n<=1000/\x≠[]/\x.length * n.toNat<=sz/\k (.tup (reps x n.toNat)) G |.lst x=>0<=n/\n<=1000/\x.length * n.toNat<=sz/\mk fz (reps x n.toNat) G k |_=>False)
 |_=>False
def bY(op:Operator)(fz:Bool)(a b:D)(G:DH)(k:D->DH->Prop):Prop:=
 match op with
 |.Add=>ju fz a b G k
 |.Sub=>gB a b λi j=>k (.int (i - j)) G
 |.Mult=>jw fz a b G k
 |.FloorDiv=>gB a b λi j=>(0 < j/\j < 1152921504606846976)/\k (.int (i / j)) G
 |.Mod=>gB a b λi j=>0 < j/\k (.int (i % j)) G
 |.Pow=>gB a b λi j=>qt i j/\k (.int (i ^ j.toNat)) G
 |_=>False
def isIn(x:D)(ys:List D):Bool:=ys.any λy=>deq y x
def DW(a b:D):Prop:=nr a=true/\nr b=true/\min (dpt a) (dpt b)<=60
def inG(a:D)(l:List D):Prop:=nr a=true/\nrs l=true/\aQ l<=60
def jx(a b:D)(k:Bool->Prop):Prop:=
 match a,b with
 |.int i,.int j=>k (decide (i < j))
 |.str i,.str j=>k (decide (i < j))
 |_,_=>False
def jy(a b:D)(k:Bool->Prop):Prop:=
 match a,b with
 |.int i,.int j=>k (decide (i<=j))
 |.str i,.str j=>k (!decide (j < i))
 |_,_=>False
def jz(a b:D)(k:Bool->Prop):Prop:=
 match a,b with
 |.int i,.int j=>k (decide (j < i))
 |_,_=>False
def jA(a b:D)(k:Bool->Prop):Prop:=
 match a,b with
 |.int i,.int j=>k (decide (j<=i))
 |_,_=>False
def jB(a:D):Bool:=match a with |.non=>true |_=>false
def jC(a b:D)(k:Bool->Prop):Prop:=
 match b with
 |.non=>k (jB a)
 |.bl b=>(match a with |.bl a=>k (a==b) |_=>False)
 |_=>False
def jD(a b:D)(k:Bool->Prop):Prop:=
 match b with
 |.non=>k (!jB a)
 |.bl b=>(match a with |.bl a=>k (a != b) |_=>False)
 |_=>False
def fK(a b:D)(k:Bool->Prop):Prop:=
 match b with
 |.str l=>(match a with |.str [c]=>k (l.contains c) |_=>False)
 |.lst l=>inG a l/\k (isIn a l)
 |.tup l=>inG a l/\k (isIn a l)
 |_=>False
def aV(op:CmpOp)(a b:D)(k:Bool->Prop):Prop:=
 match op with
 |.Eq=>DW a b/\k (deq a b)
 |.NotEq=>DW a b/\k (!deq a b)
 |.Lt=>jx a b k
 |.LtE=>jy a b k
 |.Gt=>jz a b k
 |.GtE=>jA a b k
 |.Is=>jC a b k
 |.IsNot=>jD a b k
 |.In=>fK a b k
 |.NotIn=>fK a b λc=>k (!c)
def bZ(a i:D)(k:D->Prop):Prop:=
 match a,i with
 |.lst ds,.int i=>match atI ds i with |some d=>k d |none=>False
 |.tup ds,.int i=>match atI ds i with |some d=>k d |none=>False
 |.str l,.int i=>match atI l i with |some c=>k (.str [c]) |none=>False
 |_,_=>False
def dN(fz:Bool)(a:D)(lo hi:Option Int)(G:DH)(k:D->DH->Prop):Prop:=
 match a with
 |.lst ds=>mk fz (cut ds lo hi) G k
 |.scr ns=>mk fz ((cut ns lo hi).map .int) G k
 |.tup ds=>k (.tup (cut ds lo hi)) G
 |.str l=>k (.str (cut l lo hi)) G
 |_=>False
def jE(fz:Bool)(a y:D)(G:DH)(k:D->DH->Prop):Prop:=
 match a with
 |.lst ds=>y=.int (-1)/\mk fz ds.reverse G k
 |_=>False
noncomputable def bools:List D->Option (List Bool)
 |[]=>some []
 |.bl b::r=>match bools r with |some s=>some (b::s) |none=>none
 |_=>none
noncomputable def b7:List D->Option (List Int)
 |[]=>some []
 |.int b::r=>match b7 r with |some s=>some (b::s) |none=>none
 |_=>none
noncomputable def bj:List D->Option (List (List Nat))
 |[]=>some []
 |.str b::r=>match bj r with |some s=>some (b::s) |none=>none
 |_=>none
def dO(s:List Nat):List (List Nat)->List Nat
 |[]=>[]
 |[x]=>x
 |x::y::r=>x++s++dO s (y::r)
inductive Bf where
 |len |all |int |tuple |sum |min |max |str |abs |min2
inductive Lf where
 |list |sorted
inductive Mf where
 |join |append |extend |insert |count |index |pop
def wF(as:List D)(k:D->Prop):Prop:=
 match as with
 |[.lst ds]=>k (.int ds.length)
 |[.tup ds]=>k (.int ds.length)
 |[.str l]=>k (.int l.length)
 |_=>False
def qH(as:List D)(k:D->Prop):Prop:=
 match as with
 |[.lst ds]=>match bools ds with |some bs=>k (.bl (bs.all id)) |none=>False
 |_=>False
def qI(as:List D)(k:D->Prop):Prop:=
 match as with
 |[.bl b]=>k (.int (if b then 1 else 0))
 |[.int i]=>k (.int i)
 |[.str l]=>match PySem.intText? (tx l) with |some n=>l.length<=640/\k (.int n) |none=>False
 |_=>False
def wG(as:List D)(k:D->Prop):Prop:=
 match as with
 |[.lst ds]=>k (.tup ds)
 |[.tup ds]=>k (.tup ds)
 |_=>False
def wH(as:List D)(k:D->Prop):Prop:=
 match as with
 |[.lst ds]=>match b7 ds with |some ns=>k (.int ns.sum) |none=>False
 |_=>False
def lz(as:List D)(k:D->Prop):Prop:=
 match as with
 |[.lst ds]=>match b7 ds with
  |some ns=>ns≠[]/\∀m,m∈ns->(∀a,a∈ns->m<=a)->k (.int m)
  |none=>match bj ds with
   |some ls=>∀m,m∈ls->(∀a,a∈ls->¬a < m)->k (.str m)
   |none=>False
 |_=>False
def DX(as:List D)(k:D->Prop):Prop:=match as with
 |[.int a]=>k (.int (if a < 0 then -a else a))
 |_=>False
def DY(as:List D)(k:D->Prop):Prop:=match as with
 |[.int a,.int b]=>k (.int (if b < a then b else a))
 |_=>False
def Ea(as:List D)(k:D->Prop):Prop:=
 match as with
 |[.int a,.int b]=>k (.int (if b > a then b else a))
 |_=>False
def gC(m:Nat):List Nat:=(ww m).cps.toList
def wI(as:List D)(k:D->Prop):Prop:=
 match as with
 |[.int i]=>(0<=i/\i < 100)/\k (.str (gC i.toNat))
 |_=>False
noncomputable def opB:Bf->List D->(D->Prop)->Prop
 |.len=>wF
 |.all=>qH
 |.int=>qI
 |.tuple=>wG
 |.sum=>wH
 |.min=>lz
 |.max=>Ea
 |.abs=>DX
 |.min2=>DY
 |.str=>wI
def wJ(as:List D)(k:List D->Prop):Prop:=
 match as with
 |[.lst ds]=>k ds
 |[.tup ds]=>k ds
 |[.str l]=>k (l.map λc=>.str [c])
 |_=>False
def qJ(as:List D)(k:List D->Prop):Prop:=
 match as with
 |[.lst ds]=>match bj ds with |some ls=>ls.length < 64/\∀ls':List (List Nat),ls'.Perm ls->PyProof.Rows.sortedS (ls'.map tx)=true->k (ls'.map D.str) |none=>False
 |[.tup ds]=>match b7 ds with |some ns=>ns.length < 64/\∀ns':List Int,ns'.Perm ns->ns'.Pairwise (·<=·)->k (ns'.map D.int) |none=>False
 |_=>False
def cM:Lf->List D->(List D->Prop)->Prop
 |.list=>wJ
 |.sorted=>qJ
noncomputable def isT(t:String)(d:D):Option Bool:=
 match d with
 |.non=>some false
 |.bl _=>some (t=="bool"||t=="int")
 |.int _=>some (t=="int")
 |.str _=>some (t=="str")
 |.tup _=>some (t=="tuple")
 |.lst _=>some (t=="list")
 |_=>none
def fL (t:String):Bool:=t=="bool"||t=="int"||t=="str"||t=="tuple"||t=="list"
def qK(o:D)(as:List D)(G:DH)(k:D->DH->Prop):Prop:=
 match o,as with
 |.str s,[.lst ds]=>match bj ds with |some ls=>((ls.map (·.length)).sum+ls.length * s.length<=sz)/\k (.str (dO s ls)) G |none=>False
 |_,_=>False
def qL(o:D)(as:List D)(G:DH)(k:D->DH->Prop):Prop:=
 match o,as with
 |.ref p,[x]=>match G p with |some (.lst ds)=>ds.length < sz/\k .non (aL G p (.lst (ds++[x]))) |none=>False
 |_,_=>False
def qM(o:D)(as:List D)(G:DH)(k:D->DH->Prop):Prop:=
 match o,as with
 |.ref p,[.lst xs]=>match G p with |some (.lst ds)=>ds.length+xs.length < sz/\k .non (aL G p (.lst (ds++xs))) |none=>False
 |_,_=>False
def qN(o:D)(as:List D)(G:DH)(k:D->DH->Prop):Prop:=
 match o,as with
 |.ref p,[.int i,x]=>match G p with |some (.lst ds)=>ds.length < sz/\0<=i/\i<=1000000/\k .non (aL G p (.lst (ds.take i.toNat++x::ds.drop i.toNat))) |none=>False
 |_,_=>False
def wK(o:D)(as:List D)(G:DH)(k:D->DH->Prop):Prop:=
 match o,as with
 |.ref p,[.int i]=>match G p with |some (.lst ds)=>0<=i/\i<=1000000/\(match ds[i.toNat]? with |some y=>k y (aL G p (.lst (ds.eraseIdx i.toNat))) |none=>False) |none=>False
 |_,_=>False
def qO(o:D)(as:List D)(G:DH)(k:D->DH->Prop):Prop:=
 match o,as with
 |.lst ds,[.bl true]=>match bools ds with |some bs=>k (.int (bs.count true:Nat)) G |none=>False
 |_,_=>False
def qP(o:D)(as:List D)(G:DH)(k:D->DH->Prop):Prop:=
 match o,as with
 |.lst ds,[.bl true]=>match bools ds with |some bs=>true∈bs/\k (.int (bs.idxOf true:Nat)) G |none=>False
 |_,_=>False
def wL:D->Prop
 |.lst _=>True
 |_=>False
def recv(m:Mf)(o:D)(G:DH):Prop:=
 match m,o with
 |.join,.str _=>True
 |.append,.ref p=>match G p with |some (.lst _)=>True |none=>False
 |.extend,.ref p=>match G p with |some (.lst _)=>True |none=>False
 |.insert,.ref p=>match G p with |some (.lst _)=>True |none=>False
 |.pop,.ref p=>match G p with |some (.lst _)=>True |none=>False
 |.count,o=>wL (view G o)
 |.index,o=>wL (view G o)
 |_,_=>False
noncomputable def opM:Mf->D->List D->DH->(D->DH->Prop)->Prop
 |.join,o,as,G,k=>qK o (as.map (view G)) G k
 |.append,o,as,G,k=>qL o as G k
 |.extend,o,as,G,k=>qM o (as.map (view G)) G k
 |.insert,o,as,G,k=>qN o as G k
 |.pop,o,as,G,k=>wK o as G k
 |.count,o,as,G,k=>qO (view G o) as G k
 |.index,o,as,G,k=>qP (view G o) as G k
def bA (C C':String):Bool:=C==C'||C'=="SieveError"||C'=="ValueError"
mutual
inductive Tg where
 |nm (i:Nat)
 |tp (ts:Tgs)
inductive Tgs where
 |nil
 |cons (t:Tg) (r:Tgs)
end
mutual
inductive Ex where
 |var (i:Nat)
 |cst (d:D)
 |glb (x:String) (d:D)
 |bin (op:Operator) (fz:Bool) (a b:Ex)
 |neg (a:Ex)
 |cmp (op:CmpOp) (a b:Ex)
 |chn (op op':CmpOp) (a b c:Ex)
 |not (a:Ex)
 |boo (isAnd:Bool) (e:Ex) (es:Exs)
 |ife (c:Tx) (a b:Ex)
 |tup (es:Exs)
 |lst (fz:Bool) (es:Exs)
 |idx (a i:Ex)
 |slc (fz:Bool) (a:Ex) (lo hi:Ox)
 |rvs (fz:Bool) (a s:Ex)
 |call (f:String) (es:Exs)
 |bcl (f:Bf) (es:Exs)
 |lcl (fz:Bool) (f:Lf) (es:Exs)
 |isi (a:Ex) (t:String)
 |isx (a:Ex) (C:String) (xs:List String)
 |fst (es:Exs)
 |rgl (fz:Bool) (a:Ex)
 |rgt (a:Ex)
 |rpl (f:String) (a b ix:Ex)
 |fld (C f:String) (o:Ex)
 |mcl (f C m:String) (o:Ex) (es:Exs)
 |mko (C:String) (es:Exs)
 |pp0 (o:Ex)
 |mth (m:Mf) (o:Ex) (es:Exs)
 |comp (fz:Bool) (elt:Ex) (tg:Tg) (it:It') (cond:Tx) (N:List String) (cap:List (Option Nat))
 |frz (a:Ex)
inductive Exs where
 |nil
 |cons (e:Ex) (es:Exs)
/-- a test -/
inductive Tx where
 |val (e:Ex)
 |not (t:Tx)
 |boo (isAnd:Bool) (t:Tx) (ts:Txs)
 |yes
inductive Txs where
 |nil
 |cons (t:Tx) (ts:Txs)
/-- a bound of a slice -/
inductive Ox where
 |no
 |ob (e:Ex)
/-- what a loop walks -/
inductive It' where
 |seq (e:Ex)
 |rng (a:Ex)
 |rng2 (a b:Ex)
 |rev (a:Ex)
 |dwn (a b c:Ex)
 |enm (e:Ex)
 |zip (a b:Ex)
end
inductive Tb where
 |call (f:String) (es:Exs)
 |asg (i:Nat) (f:String) (es:Exs)
 |pick (f g:String) (i:Nat) (es:Exs)
 |ite (c:Tx) (a b:Tb)
 |mcl (f C m:String) (o:Ex) (es:Exs)
 |mko (C:String) (es:Exs)
inductive Hd where
 |flag (i:Nat) (b:Bool)
 |bind (n i:Nat)
mutual
inductive Sx where
 |exp (e:Ex)
 |asg (t:Tg) (e:Ex)
 |set (o i e:Ex)
 |aug (i:Nat) (op:Operator) (e:Ex)
 |augs (o i:Ex) (op:Operator) (e:Ex)
 |ret (e:Ex)
 |rtn
 |ite (c:Tx) (a b:Sxs)
 |for_ (t:Tg) (it:It') (body:Sxs)
 |whl (c:Tx) (body:Sxs)
 |pas
 |brk
 |cnt
 |nev
 |rse (C:String) (es:Exs)
 |tryc (f:String) (es:Exs) (C:String) (i:Nat) (b:Bool)
 |tryx (b:Tb) (C:String) (h:Hd) (xs:List String)
inductive Sxs where
 |nil
 |cons (s:Sx) (r:Sxs)
end
structure Xn where
 cls:String
 fld:D
structure Spec where
 A:Type
 pre:List D->DH->A->Prop
 post:A->D->DH->Prop
 exc:A->Xn->DH->Prop
abbrev EK:=Xn->DH->Prop
def Spec.t(S:Spec)(ds:List D)(G:DH)(Q:D->DH->Prop)(E:EK):Prop:=
 ∃a,S.pre ds G a/\(∀d G',S.post a d G'->Q d G')/\∀x G',S.exc a x G'->E x G'
theorem Spec.mono{S:Spec}{ds:List D}{G:DH}{Q Q':D->DH->Prop}{E E':EK}(h:S.t ds G Q E)(hq:∀d G',Q d G'->Q' d G')(he:∀x G',E x G'->E' x G'):S.t ds G Q' E':=by obtain ⟨a,h1,h2,h3⟩:=h;exact ⟨a,h1,λd G' q=>hq _ _ (h2 d G' q),λx G' q=>he _ _ (h3 x G' q)⟩
abbrev aa:=String->Spec
def fM(C f:String)(d:D)(k:Addr->Prop):Prop:=match d with |.obj C' f' q=>C'=C/\f'=f/\k q |_=>False
def dR(C m:String)(d:D):Prop:=match d with |.obj C' f' _=>C'=C/\(Str.ofString m==Str.ofString f')=false |_=>False
def gD(d:D)(G:DH)(k:D->DH->Prop):Prop:=match d with |.ref p=>(match G p with |some (.lst ds)=>(match ds[ds.length - 1]? with |some y=>k y (aL G p (.lst ds.dropLast)) |none=>False) |none=>False) |_=>False
def wM(d:D)(k:List Nat->Prop):Prop:=match d with |.str l=>l.length<=1000/\k l |_=>False
def wN(i:D)(l:List Nat)(k:List Nat->Prop):Prop:=match i with |.int n=>(match atI [48,49] n with |some c=>k (l.map λa=>if a=42 then c else a) |none=>False) |_=>False
mutual
noncomputable def aY:Tg->D->ak->DH->(ak->Prop)->Prop
 |.nm i,d,ρ,_,k=>k (ρ.set i (some d))
 |.tp ts,d,ρ,G,k=>match d with |.tup ds=>bH ts ds ρ G k |.lst ds=>bH ts ds ρ G k |_=>False
noncomputable def bH:Tgs->List D->ak->DH->(ak->Prop)->Prop
 |.nil,ds,ρ,_,k=>match ds with |[]=>k ρ |_=>False
 |.cons t r,ds,ρ,G,k=>match ds with |d::ds=>aY t d ρ G (λρ'=>bH r ds ρ' G k) |[]=>False
end
abbrev Hld:=List (Addr×List D)
def held:Hld->DH->Prop
 |[],_=>True
 | (a,ds)::r,G=>G a=some (.lst ds)/\held r G
noncomputable def compLoop(step:D->ak->DH->(Option D->ak->DH->Prop)->Prop)(g:Hld):List D->List D->ak->DH->(List D->DH->Prop)->Prop
 |[],acc,_,G,k=>held g G/\acc.length<=sz/\k acc G
 |d::ds,acc,ρ,G,k=>held g G/\acc.length < sz/\step d ρ G (λo ρ' G'=>match o with |some y=>compLoop step g ds (acc++[y]) ρ' G' k |none=>compLoop step g ds acc ρ' G' k)
def dw:Nat->List D->List D
 |_,[]=>[]
 |i,d::ds=>.tup [.int i,d]::dw (i+1) ds
def bL:List D->List D->List D
 |a::as,b::bs=>.tup [a,b]::bL as bs
 |_,_=>[]
noncomputable def itemsOf(G:DH):D->Option (List D×Hld)
 |.lst ds=>some (ds,[])
 |.tup ds=>some (ds,[])
 |.str l=>some (l.map λc=>.str [c],[])
 |.ref p=>match G p with |some (.lst ds)=>some (ds,[(p,ds)]) |none=>none
 |_=>none
def bJ(lo:Int)(n:Nat):List D:=(List.range n).map λi=>.int (lo+(i:Nat))
def qQ(lo:Int)(n:Nat):List D:=(List.range n).map λi=>.int (lo - (i:Nat))
def noE:EK:=λ_ _=>False
mutual
def wpE(Φ:aa):Ex->EK->ak->DH->(D->DH->Prop)->Prop
 |.var i,_,ρ,G,k=>match ρ[i]? with |some (some d)=>k d G |_=>False
 |.cst d,_,_,G,k=>k d G
 |.glb _ d,_,_,G,k=>k d G
 |.bin op fz a b,E,ρ,G,k=>wpE Φ a E ρ G λx G1=>wpE Φ b E ρ G1 λy G2=>bY op fz (view G2 x) (view G2 y) G2 k
 |.neg a,E,ρ,G,k=>wpE Φ a E ρ G λx G1=>match x with |.int i=>k (.int (-i)) G1 |_=>False
 |.cmp op a b,E,ρ,G,k=>wpE Φ a E ρ G λx G1=>wpE Φ b E ρ G1 λy G2=>aV op (view G2 x) (view G2 y) λc=>k (.bl c) G2
 |.chn op op' a b c,E,ρ,G,k=>wpE Φ a E ρ G λx G1=>wpE Φ b E ρ G1 λy G2=>aV op (view G2 x) (view G2 y) λt=>
   match t with
   |true=>wpE Φ c E ρ G2 λz G3=>aV op' (view G3 y) (view G3 z) λt'=>k (.bl t') G3
   |false=>k (.bl false) G2
 |.not a,E,ρ,G,k=>wpE Φ a E ρ G λx G1=>match truth (view G1 x) with |some b=>k (.bl (!b)) G1 |none=>False
 |.boo isAnd e es,E,ρ,G,k=>wpE Φ e E ρ G λd G1=>match d with |.bl b=>wpB Φ es isAnd b E ρ G1 (λc G2=>k (.bl c) G2) |_=>False
 |.ife c a b,E,ρ,G,k=>wpT Φ c E ρ G λt G1=>match t with |true=>wpE Φ a E ρ G1 k |false=>wpE Φ b E ρ G1 k
 |.tup es,E,ρ,G,k=>aN Φ es E ρ G λds G1=>ds.length<=sz/\k (.tup ds) G1
 |.lst fz es,E,ρ,G,k=>aN Φ es E ρ G λds G1=>ds.length<=sz/\mk fz ds G1 k
 |.idx a i,E,ρ,G,k=>wpE Φ a E ρ G λx G1=>wpE Φ i E ρ G1 λy G2=>bZ (view G2 x) y λd=>k d G2
 |.slc fz a lo hi,E,ρ,G,k=>wpE Φ a E ρ G λx G1=>wpO Φ lo E ρ G1 λl G2=>wpO Φ hi E ρ G2 λh G3=>dN fz (view G3 x) l h G3 k
 |.rvs fz a s,E,ρ,G,k=>wpE Φ a E ρ G λx G1=>wpE Φ s E ρ G1 λy G2=>jE fz (view G2 x) y G2 k
 |.call f es,E,ρ,G,k=>aN Φ es E ρ G λds G1=>(Φ f).t ds G1 k E
 |.bcl f es,E,ρ,G,k=>aN Φ es E ρ G λds G1=>opB f (ds.map (view G1)) λd=>k d G1
 |.lcl fz f es,E,ρ,G,k=>aN Φ es E ρ G λds G1=>cM f (ds.map (view G1)) λxs=>mk fz xs G1 k
 |.isi a t,E,ρ,G,k=>wpE Φ a E ρ G λx G1=>match isT t (view G1 x) with |some b=>k (.bl b) G1 |none=>False
 |.isx a C xs,E,ρ,G,k=>wpE Φ a E ρ G λx G1=>match x with |.exn c=>xs.contains c=true/\k (.bl (bA c C)) G1 |_=>False
 |.fst es,E,ρ,G,k=>wpF Φ es E ρ G λl G1=>l.length<=sz/\k (.str l) G1
 |.rgl fz a,E,ρ,G,k=>wpE Φ a E ρ G λd G1=>match d with |.int n=>(0<=n/\n<=1000)/\mk fz (bJ 0 n.toNat) G1 k |_=>False
 |.rpl f a b ix,E,ρ,G,k=>wpE Φ a E ρ G λda G1=>wpE Φ b E ρ G1 λdb G2=>bZ (view G2 db) (.int 0) λd0=>(Φ f).t [da,d0] G2 (λd G3=>wM d λl=>wpE Φ ix E ρ G3 λi G4=>wN i l λm=>k (.str m) G4) E
 |.fld C f o,E,ρ,G,k=>wpE Φ o E ρ G λd G1=>fM C f d λq=>k (.ref q) G1
 |.mcl f C m o es,E,ρ,G,k=>wpE Φ o E ρ G λd G1=>dR C m d/\aN Φ es E ρ G1 λds G2=>(Φ f).t (d::ds) G2 k E
 |.mko C es,E,ρ,G,k=>aN Φ es E ρ G λds G1=>(Φ C).t ds G1 k E
 |.pp0 o,E,ρ,G,k=>wpE Φ o E ρ G λd G1=>gD d G1 k
 |.rgt a,E,ρ,G,k=>wpE Φ a E ρ G λd G1=>match d with |.int n=>(0<=n/\n<=1000)/\k (.tup (bJ 0 n.toNat)) G1 |_=>False
 |.mth m o es,E,ρ,G,k=>wpE Φ o E ρ G λx G1=>recv m x G1/\aN Φ es E ρ G1 λds G2=>opM m x ds G2 k
 |.comp fz elt tg it cond _ cap,E,ρ,G,k=>wpI Φ it E ρ G λitems g G1=>
   compLoop (λd ρ' G' k'=>aY tg d ρ' G' λρ1=>wpT Φ cond noE ρ1 G' λb G2=>match b with |true=>wpE Φ elt noE ρ1 G2 λy G3=>k' (some y) ρ1 G3 |false=>k' none ρ1 G2)
    g items [] (cap.map λo=>match o with |none=>none |some j=>(ρ[j]?).join) G1 λds G2=>mk fz ds G2 k
 |.frz a,E,ρ,G,k=>wpE Φ a E ρ G λx G1=>match x with |.ref p=>(match G1 p with |some (.lst ds)=>k (.lst ds) (iy G1 p) |none=>False) |d=>k d G1
/-- a test -/
def wpT(Φ:aa):Tx->EK->ak->DH->(Bool->DH->Prop)->Prop
 |.not a,E,ρ,G,k=>wpT Φ a E ρ G λb G1=>k (!b) G1
 |.boo isAnd e es,E,ρ,G,k=>wpT Φ e E ρ G λb G1=>fO Φ es isAnd b E ρ G1 k
 |.yes,_,_,G,k=>k true G
 |.val x,E,ρ,G,k=>wpE Φ x E ρ G λd G1=>match truth (view G1 d) with |some b=>k b G1 |none=>False
def wpF(Φ:aa):Exs->EK->ak->DH->(List Nat->DH->Prop)->Prop
 |.nil,_,_,G,k=>k [] G
 |.cons e es,E,ρ,G,k=>wpE Φ e E ρ G λd G1=>match d with
  |.str l=>l.length<=1000/\wpF Φ es E ρ G1 λx G2=>k (l++x) G2
  |.int i=>(0<=i/\i < 100)/\wpF Φ es E ρ G1 λx G2=>k (gC i.toNat++x) G2
  |_=>False
def aN(Φ:aa):Exs->EK->ak->DH->(List D->DH->Prop)->Prop
 |.nil,_,_,G,k=>k [] G
 |.cons e es,E,ρ,G,k=>wpE Φ e E ρ G λd G1=>aN Φ es E ρ G1 λds G2=>k (d::ds) G2
/-- and,or as values:truths alone;b:the one ahead -/
def wpB(Φ:aa):Exs->Bool->Bool->EK->ak->DH->(Bool->DH->Prop)->Prop
 |.nil,_,b,_,_,G,k=>k b G
 |.cons e es,isAnd,b,E,ρ,G,k=>match isAnd,b with
  |true,false=>k false G
  |false,true=>k true G
  |_,_=>wpE Φ e E ρ G λd G1=>match d with |.bl b'=>wpB Φ es isAnd b' E ρ G1 k |_=>False
def fO(Φ:aa):Txs->Bool->Bool->EK->ak->DH->(Bool->DH->Prop)->Prop
 |.nil,_,b,_,_,G,k=>k b G
 |.cons e es,isAnd,b,E,ρ,G,k=>match isAnd,b with
  |true,false=>k false G
  |false,true=>k true G
  |_,_=>wpT Φ e E ρ G λb' G1=>fO Φ es isAnd b' E ρ G1 k
/-- a bound of a slice -/
def wpO(Φ:aa):Ox->EK->ak->DH->(Option Int->DH->Prop)->Prop
 |.no,_,_,G,k=>k none G
 |.ob x,E,ρ,G,k=>wpE Φ x E ρ G λd G1=>match d with |.int i=>k (some i) G1 |_=>False
def wpI(Φ:aa):It'->EK->ak->DH->(List D->Hld->DH->Prop)->Prop
 |.seq e,E,ρ,G,k=>wpE Φ e E ρ G λd G1=>match itemsOf G1 d with |some ds=>k ds.1 ds.2 G1 |none=>False
 |.rng a,E,ρ,G,k=>wpE Φ a E ρ G λd G1=>match d with |.int n=>(-(2 ^ 62)<=n/\n < 2 ^ 62)/\k (bJ 0 n.toNat) [] G1 |_=>False
 |.rng2 a b,E,ρ,G,k=>wpE Φ a E ρ G λx G1=>wpE Φ b E ρ G1 λy G2=>match x,y with
  |.int m,.int n=>(-(2 ^ 62)<=m/\m < 2 ^ 62/\-(2 ^ 62)<=n/\n < 2 ^ 62)/\k (bJ m (n - m).toNat) [] G2
  |_,_=>False
 |.rev a,E,ρ,G,k=>wpE Φ a E ρ G λd G1=>match d with |.int n=>(-(2 ^ 62)<=n/\n < 2 ^ 62)/\k (qQ ((n.toNat:Int) - 1) n.toNat) [] G1 |_=>False
 |.dwn a b c,E,ρ,G,k=>wpE Φ a E ρ G λx G1=>wpE Φ b E ρ G1 λy G2=>wpE Φ c E ρ G2 λz G3=>match x,y,z with
  |.int m,.int n,.int s=>(s=-1/\-(2 ^ 62)<=m/\m < 2 ^ 62/\-(2 ^ 62)<=n/\n < 2 ^ 62)/\k (qQ m (m - n).toNat) [] G3
  |_,_,_=>False
 |.enm e,E,ρ,G,k=>wpE Φ e E ρ G λd G1=>match itemsOf G1 d with |some ds=>k (dw 0 ds.1) ds.2 G1 |none=>False
 |.zip a b,E,ρ,G,k=>wpE Φ a E ρ G λx G1=>wpE Φ b E ρ G1 λy G2=>match itemsOf G2 x,itemsOf G2 y with |some ds,some es=>k (bL ds.1 es.1) (ds.2++es.2) G2 |_,_=>False
end
structure En where
 nx:ak->DH->Prop
 rt:D->DH->Prop
 bk:ak->DH->Prop
 ct:ak->DH->Prop
noncomputable def forLoop(step:D->ak->DH->(ak->DH->Prop)->Prop)(g:Hld):List D->ak->DH->(ak->DH->Prop)->Prop
 |[],ρ,G,k=>held g G/\k ρ G
 |d::ds,ρ,G,k=>held g G/\step d ρ G λρ' G'=>forLoop step g ds ρ' G' k
def whileLoop(test:ak->DH->(Bool->DH->Prop)->Prop)(body:ak->DH->(ak->DH->Prop)->Prop):Nat->ak->DH->(ak->DH->Prop)->Prop
 |0,_,_,_=>False
 |n+1,ρ,G,k=>test ρ G λb G1=>match b with |true=>body ρ G1 λρ' G'=>whileLoop test body n ρ' G' k |false=>k ρ G1
def dU(o i x:D)(G:DH)(k:DH->Prop):Prop:=
 match o,i with
 |.ref p,.int i=>match G p with |some (.lst ds)=>(match ixN ds.length i with |some j=>k (aL G p (.lst (ds.set j x))) |none=>False) |none=>False
 |_,_=>False
def dz(op:Operator)(a b:D)(k:D->Prop):Prop:=
 match op,a,b with
 |.Add,.int i,.int j=>k (.int (i+j))
 |.Add,.str x,.str y=>x.length+y.length<=sz/\k (.str (x++y))
 |.Sub,.int i,.int j=>k (.int (i - j))
 |_,_,_=>False
def jF:D->Bool
 |.int i=>decide (0<=i)&&decide (i < 100)
 |_=>false
def wpM(Φ:aa):Exs->EK->ak->DH->(DH->Prop)->Prop
 |.nil,_,_,G,k=>k G
 |.cons e es,E,ρ,G,k=>wpE Φ e E ρ G λd G1=>jF d=true/\wpM Φ es E ρ G1 k
def wpX(Φ:aa):Tb->ak->DH->(ak->DH->Prop)->(Xn->ak->DH->Prop)->Prop
 |.call f es,ρ,G,nx,ex=>aN Φ es noE ρ G λds G1=>(Φ f).t ds G1 (λ_ G2=>nx ρ G2) λx G2=>ex x ρ G2
 |.asg i f es,ρ,G,nx,ex=>aN Φ es noE ρ G λds G1=>(Φ f).t ds G1 (λd G2=>nx (ρ.set i (some d)) G2) λx G2=>ex x ρ G2
 |.pick f g i es,ρ,G,nx,ex=>wpE Φ (.var i) noE ρ G λd G1=>∃b:Bool,d=.int (if b then 1 else 0)/\aN Φ es noE ρ G1 λds G2=>(Φ (if b then g else f)).t ds G2 (λ_ G3=>nx ρ G3) λx G3=>ex x ρ G3
 |.ite c a b,ρ,G,nx,ex=>wpT Φ c noE ρ G λt G1=>match t with |true=>wpX Φ a ρ G1 nx ex |false=>wpX Φ b ρ G1 nx ex
 |.mcl f C m o es,ρ,G,nx,ex=>wpE Φ o noE ρ G λd G1=>dR C m d/\aN Φ es noE ρ G1 λds G2=>(Φ f).t (d::ds) G2 (λ_ G3=>nx ρ G3) λx G3=>ex x ρ G3
 |.mko C es,ρ,G,nx,ex=>aN Φ es noE ρ G λds G1=>(Φ C).t ds G1 (λ_ G2=>nx ρ G2) λx G2=>ex x ρ G2
def caught(h:Hd)(C:String)(ρ:ak):ak:=match h with
 |.flag i b=>ρ.set i (some (.bl b))
 |.bind n i=>((ρ.set n (some (.exn C))).set i (some (.exn C))).set n none
mutual
def wpS(Φ:aa):Sx->EK->ak->DH->En->Prop
 |.exp e,E,ρ,G,D=>wpE Φ e E ρ G λ_ G1=>D.nx ρ G1
 |.asg t e,E,ρ,G,D=>wpE Φ e E ρ G λd G1=>aY t d ρ G1 λρ'=>D.nx ρ' G1
 |.set o i e,E,ρ,G,D=>wpE Φ e E ρ G λx G1=>wpE Φ o E ρ G1 λa G2=>wpE Φ i E ρ G2 λy G3=>dU a y x G3 λG4=>D.nx ρ G4
 |.aug i op e,E,ρ,G,D=>match ρ[i]? with
  |some (some a)=>wpE Φ e E ρ G λb G1=>dz op a b λc=>D.nx (ρ.set i (some c)) G1
  |_=>False
 |.augs o i op e,E,ρ,G,D=>wpE Φ o E ρ G λa G1=>wpE Φ i E ρ G1 λy G2=>bZ (view G2 a) y λold=>wpE Φ e E ρ G2 λb G3=>dz op old b λc=>dU a y c G3 λG4=>D.nx ρ G4
 |.ret e,E,ρ,G,D=>wpE Φ e E ρ G D.rt
 |.rtn,_,_,G,D=>D.rt .non G
 |.ite c a b,E,ρ,G,D=>wpT Φ c E ρ G λt G1=>match t with |true=>aq Φ a E ρ G1 D |false=>aq Φ b E ρ G1 D
 |.for_ t it body,E,ρ,G,D=>wpI Φ it E ρ G λitems g G1=>
   forLoop (λd ρ' G' k=>aY t d ρ' G' λρ1=>aq Φ body E ρ1 G' { D with nx:=k,ct:=k,bk:=D.nx }) g items ρ G1 D.nx
 |.whl c body,E,ρ,G,D=>∃n,whileLoop (λρ' G' k=>wpT Φ c E ρ' G' k) (λρ' G' k=>aq Φ body E ρ' G' { D with nx:=k,ct:=k,bk:=D.nx }) n ρ G D.nx
 |.pas,_,ρ,G,D=>D.nx ρ G
 |.brk,_,ρ,G,D=>D.bk ρ G
 |.cnt,_,ρ,G,D=>D.ct ρ G
 |.nev,_,_,_,_=>False
 |.rse C es,E,ρ,G,_=>wpM Φ es E ρ G λG1=>E ⟨C,.non⟩ G1
 |.tryc f es C i b,_,ρ,G,D=>aN Φ es noE ρ G λds G1=>(Φ f).t ds G1 (λ_ G2=>D.nx ρ G2) λx G2=>x.cls=C/\x.fld=.non/\D.nx (ρ.set i (some (.bl b))) G2
 |.tryx b C h xs,_,ρ,G,D=>wpX Φ b ρ G D.nx λx ρ' G'=>x.fld=.non/\xs.contains x.cls=true/\bA x.cls C=true/\D.nx (caught h x.cls ρ') G'
def aq(Φ:aa):Sxs->EK->ak->DH->En->Prop
 |.nil,_,ρ,G,D=>D.nx ρ G
 |.cons s r,E,ρ,G,D=>wpS Φ s E ρ G { D with nx:=λρ' G'=>aq Φ r E ρ' G' D }
end
theorem qR{Φ:aa}{a}{E}{ρ}{G}{k}:wpT Φ (.not a) E ρ G k=(wpT Φ a E ρ G λb G1=>k (!b) G1):=rfl
theorem qT{Φ:aa}{isAnd}{e}{es}{E}{ρ}{G}{k}:wpT Φ (.boo isAnd e es) E ρ G k=(wpT Φ e E ρ G λb G1=>fO Φ es isAnd b E ρ G1 k):=rfl
theorem qU{Φ:aa}{E}{ρ}{G}{k}:wpT Φ .yes E ρ G k=(k true G):=rfl
theorem jG{Φ:aa}{x}{E}{ρ}{G}{k}:wpT Φ (.val x) E ρ G k=(wpE Φ x E ρ G λd G1=>match truth (view G1 d) with |some b=>k b G1 |none=>False):=rfl
theorem gF{Φ:aa}{E}{ρ}{G}{k}:aN Φ .nil E ρ G k=(k [] G):=rfl
theorem gG{Φ:aa}{e}{es}{E}{ρ}{G}{k}:aN Φ (.cons e es) E ρ G k=(wpE Φ e E ρ G λd G1=>aN Φ es E ρ G1 λds G2=>k (d::ds) G2):=rfl
theorem qW{Φ:aa}{isAnd:Bool}{b:Bool}{E}{ρ}{G}{k}:wpB Φ .nil isAnd b E ρ G k=(k b G):=rfl
theorem lA{Φ:aa}{e}{es}{isAnd:Bool}{b:Bool}{E}{ρ}{G}{k}:wpB Φ (.cons e es) isAnd b E ρ G k=(match isAnd,b with
  |true,false=>k false G
  |false,true=>k true G
  |_,_=>wpE Φ e E ρ G λd G1=>match d with |.bl b'=>wpB Φ es isAnd b' E ρ G1 k |_=>False):=rfl
theorem qX{Φ:aa}{isAnd:Bool}{b:Bool}{E}{ρ}{G}{k}:fO Φ .nil isAnd b E ρ G k=(k b G):=rfl
theorem lB{Φ:aa}{e}{es}{isAnd:Bool}{b:Bool}{E}{ρ}{G}{k}:fO Φ (.cons e es) isAnd b E ρ G k=(match isAnd,b with
  |true,false=>k false G
  |false,true=>k true G
  |_,_=>wpT Φ e E ρ G λb' G1=>fO Φ es isAnd b' E ρ G1 k):=rfl
theorem qY{Φ:aa}{E}{ρ}{G}{k}:wpO Φ .no E ρ G k=(k none G):=rfl
theorem qZ{Φ:aa}{x}{E}{ρ}{G}{k}:wpO Φ (.ob x) E ρ G k=(wpE Φ x E ρ G λd G1=>match d with |.int i=>k (some i) G1 |_=>False):=rfl
theorem q8{Φ:aa}{e}{E}{ρ}{G}{k}:wpI Φ (.seq e) E ρ G k=(wpE Φ e E ρ G λd G1=>match itemsOf G1 d with |some ds=>k ds.1 ds.2 G1 |none=>False):=rfl
theorem q9{Φ:aa}{a}{E}{ρ}{G}{k}:wpI Φ (.rng a) E ρ G k=(wpE Φ a E ρ G λd G1=>match d with |.int n=>(-(2 ^ 62)<=n/\n < 2 ^ 62)/\k (bJ 0 n.toNat) [] G1 |_=>False):=rfl
theorem wO{Φ:aa}{a}{b}{E}{ρ}{G}{k}:wpI Φ (.rng2 a b) E ρ G k=(wpE Φ a E ρ G λx G1=>wpE Φ b E ρ G1 λy G2=>match x,y with
  |.int m,.int n=>(-(2 ^ 62)<=m/\m < 2 ^ 62/\-(2 ^ 62)<=n/\n < 2 ^ 62)/\k (bJ m (n - m).toNat) [] G2
  |_,_=>False):=rfl
theorem wQ{Φ:aa}{a}{E}{ρ}{G}{k}:wpI Φ (.rev a) E ρ G k=(wpE Φ a E ρ G λd G1=>match d with |.int n=>(-(2 ^ 62)<=n/\n < 2 ^ 62)/\k (qQ ((n.toNat:Int) - 1) n.toNat) [] G1 |_=>False):=rfl
theorem wR{Φ:aa}{a}{b}{c}{E}{ρ}{G}{k}:wpI Φ (.dwn a b c) E ρ G k=(wpE Φ a E ρ G λx G1=>wpE Φ b E ρ G1 λy G2=>wpE Φ c E ρ G2 λz G3=>match x,y,z with
  |.int m,.int n,.int s=>(s=-1/\-(2 ^ 62)<=m/\m < 2 ^ 62/\-(2 ^ 62)<=n/\n < 2 ^ 62)/\k (qQ m (m - n).toNat) [] G3
  |_,_,_=>False):=rfl
theorem rm{Φ:aa}{e}{E}{ρ}{G}{k}:wpI Φ (.enm e) E ρ G k=(wpE Φ e E ρ G λd G1=>match itemsOf G1 d with |some ds=>k (dw 0 ds.1) ds.2 G1 |none=>False):=rfl
theorem rn{Φ:aa}{a}{b}{E}{ρ}{G}{k}:wpI Φ (.zip a b) E ρ G k=(wpE Φ a E ρ G λx G1=>wpE Φ b E ρ G1 λy G2=>match itemsOf G2 x,itemsOf G2 y with |some ds,some es=>k (bL ds.1 es.1) (ds.2++es.2) G2 |_,_=>False):=rfl
theorem jH{Φ:aa}{E}{ρ}{G}{D}:aq Φ .nil E ρ G D=(D.nx ρ G):=rfl
theorem jJ{Φ:aa}{s}{r}{E}{ρ}{G}{D}:aq Φ (.cons s r) E ρ G D=(wpS Φ s E ρ G { D with nx:=λρ' G'=>aq Φ r E ρ' G' D }):=rfl
theorem rz{Φ:aa}{i E ρ G k}:wpE Φ (.var i) E ρ G k=(match ρ[i]? with |some (some d)=>k d G |_=>False):=rfl
theorem iz{Φ:aa}{d E ρ G k}:wpE Φ (.cst d) E ρ G k=(k d G):=rfl
theorem rA{Φ:aa}{u0 d E ρ G k}:wpE Φ (.glb u0 d) E ρ G k=(k d G):=rfl
theorem rB{Φ:aa}{op fz a b E ρ G k}:wpE Φ (.bin op fz a b) E ρ G k=(wpE Φ a E ρ G λx G1=>wpE Φ b E ρ G1 λy G2=>bY op fz (view G2 x) (view G2 y) G2 k):=rfl
theorem rD{Φ:aa}{a E ρ G k}:wpE Φ (.neg a) E ρ G k=(wpE Φ a E ρ G λx G1=>match x with |.int i=>k (.int (-i)) G1 |_=>False):=rfl
theorem lC{Φ:aa}{op a b E ρ G k}:wpE Φ (.cmp op a b) E ρ G k=(wpE Φ a E ρ G λx G1=>wpE Φ b E ρ G1 λy G2=>aV op (view G2 x) (view G2 y) λc=>k (.bl c) G2):=rfl
theorem lD{Φ:aa}{op op' a b c E ρ G k}:wpE Φ (.chn op op' a b c) E ρ G k=(wpE Φ a E ρ G λx G1=>wpE Φ b E ρ G1 λy G2=>aV op (view G2 x) (view G2 y) λt=>
   match t with
   |true=>wpE Φ c E ρ G2 λz G3=>aV op' (view G3 y) (view G3 z) λt'=>k (.bl t') G3
   |false=>k (.bl false) G2):=rfl
theorem rE{Φ:aa}{a E ρ G k}:wpE Φ (.not a) E ρ G k=(wpE Φ a E ρ G λx G1=>match truth (view G1 x) with |some b=>k (.bl (!b)) G1 |none=>False):=rfl
theorem rF{Φ:aa}{isAnd e es E ρ G k}:wpE Φ (.boo isAnd e es) E ρ G k=(wpE Φ e E ρ G λd G1=>match d with |.bl b=>wpB Φ es isAnd b E ρ G1 (λc G2=>k (.bl c) G2) |_=>False):=rfl
theorem rG{Φ:aa}{c a b E ρ G k}:wpE Φ (.ife c a b) E ρ G k=(wpT Φ c E ρ G λt G1=>match t with |true=>wpE Φ a E ρ G1 k |false=>wpE Φ b E ρ G1 k):=rfl
theorem rH{Φ:aa}{es E ρ G k}:wpE Φ (.tup es) E ρ G k=(aN Φ es E ρ G λds G1=>ds.length<=sz/\k (.tup ds) G1):=rfl
theorem rJ{Φ:aa}{fz es E ρ G k}:wpE Φ (.lst fz es) E ρ G k=(aN Φ es E ρ G λds G1=>ds.length<=sz/\mk fz ds G1 k):=rfl
theorem rK{Φ:aa}{a i E ρ G k}:wpE Φ (.idx a i) E ρ G k=(wpE Φ a E ρ G λx G1=>wpE Φ i E ρ G1 λy G2=>bZ (view G2 x) y λd=>k d G2):=rfl
theorem wU{Φ:aa}{fz a s E ρ G k}:wpE Φ (.rvs fz a s) E ρ G k=(wpE Φ a E ρ G λx G1=>wpE Φ s E ρ G1 λy G2=>jE fz (view G2 x) y G2 k):=rfl
theorem rM{Φ:aa}{fz a lo hi E ρ G k}:wpE Φ (.slc fz a lo hi) E ρ G k=(wpE Φ a E ρ G λx G1=>wpO Φ lo E ρ G1 λl G2=>wpO Φ hi E ρ G2 λh G3=>dN fz (view G3 x) l h G3 k):=rfl
theorem rN{Φ:aa}{f es E ρ G k}:wpE Φ (.call f es) E ρ G k=(aN Φ es E ρ G λds G1=>(Φ f).t ds G1 k E):=rfl
theorem rO{Φ:aa}{f es E ρ G k}:wpE Φ (.bcl f es) E ρ G k=(aN Φ es E ρ G λds G1=>opB f (ds.map (view G1)) λd=>k d G1):=rfl
theorem rP{Φ:aa}{fz f es E ρ G k}:wpE Φ (.lcl fz f es) E ρ G k=(aN Φ es E ρ G λds G1=>cM f (ds.map (view G1)) λxs=>mk fz xs G1 k):=rfl
theorem rQ{Φ:aa}{a t E ρ G k}:wpE Φ (.isi a t) E ρ G k=(wpE Φ a E ρ G λx G1=>match isT t (view G1 x) with |some b=>k (.bl b) G1 |none=>False):=rfl
theorem rR{Φ:aa}{a C xs E ρ G k}:wpE Φ (.isx a C xs) E ρ G k=(wpE Φ a E ρ G λx G1=>match x with |.exn c=>xs.contains c=true/\k (.bl (bA c C)) G1 |_=>False):=rfl
theorem wV{Φ:aa}{fz a E ρ G k}:wpE Φ (.rgl fz a) E ρ G k=(wpE Φ a E ρ G λd G1=>match d with |.int n=>(0<=n/\n<=1000)/\mk fz (bJ 0 n.toNat) G1 k |_=>False):=rfl
theorem Zw{Φ:aa}{f a b ix E ρ G k}:wpE Φ (.rpl f a b ix) E ρ G k=(wpE Φ a E ρ G λda G1=>wpE Φ b E ρ G1 λdb G2=>bZ (view G2 db) (.int 0) λd0=>(Φ f).t [da,d0] G2 (λd G3=>wM d λl=>wpE Φ ix E ρ G3 λi G4=>wN i l λm=>k (.str m) G4) E):=rfl
theorem rT{Φ:aa}{C f o E ρ G k}:wpE Φ (.fld C f o) E ρ G k=(wpE Φ o E ρ G λd G1=>fM C f d λq=>k (.ref q) G1):=rfl
theorem rW{Φ:aa}{f C m o es E ρ G k}:wpE Φ (.mcl f C m o es) E ρ G k=(wpE Φ o E ρ G λd G1=>dR C m d/\aN Φ es E ρ G1 λds G2=>(Φ f).t (d::ds) G2 k E):=rfl
theorem rY{Φ:aa}{C es E ρ G k}:wpE Φ (.mko C es) E ρ G k=(aN Φ es E ρ G λds G1=>(Φ C).t ds G1 k E):=rfl
theorem rZ{Φ:aa}{o E ρ G k}:wpE Φ (.pp0 o) E ρ G k=(wpE Φ o E ρ G λd G1=>gD d G1 k):=rfl
theorem wW{Φ:aa}{a E ρ G k}:wpE Φ (.rgt a) E ρ G k=(wpE Φ a E ρ G λd G1=>match d with |.int n=>(0<=n/\n<=1000)/\k (.tup (bJ 0 n.toNat)) G1 |_=>False):=rfl
theorem wX{Φ:aa}{es E ρ G k}:wpE Φ (.fst es) E ρ G k=(wpF Φ es E ρ G λl G1=>l.length<=sz/\k (.str l) G1):=rfl
theorem wY{Φ:aa}{E ρ G k}:wpF Φ .nil E ρ G k=k [] G:=rfl
theorem wZ{Φ:aa}{e es E ρ G k}:wpF Φ (.cons e es) E ρ G k=(wpE Φ e E ρ G λd G1=>match d with
  |.str l=>l.length<=1000/\wpF Φ es E ρ G1 λx G2=>k (l++x) G2
  |.int i=>(0<=i/\i < 100)/\wpF Φ es E ρ G1 λx G2=>k (gC i.toNat++x) G2
  |_=>False):=rfl
theorem eH{Φ:aa}{m o es E ρ G k}:wpE Φ (.mth m o es) E ρ G k=(wpE Φ o E ρ G λx G1=>recv m x G1/\aN Φ es E ρ G1 λds G2=>opM m x ds G2 k):=rfl
theorem sr{Φ:aa}{a E ρ G k}:wpE Φ (.frz a) E ρ G k=(wpE Φ a E ρ G λx G1=>match x with |.ref p=>(match G1 p with |some (.lst ds)=>k (.lst ds) (iy G1 p) |none=>False) |d=>k d G1):=rfl
theorem su{Φ:aa}{e E ρ G D}:wpS Φ (.exp e) E ρ G D=(wpE Φ e E ρ G λ_ G1=>D.nx ρ G1):=rfl
theorem jK{Φ:aa}{t e E ρ G D}:wpS Φ (.asg t e) E ρ G D=(wpE Φ e E ρ G λd G1=>aY t d ρ G1 λρ'=>D.nx ρ' G1):=rfl
theorem sy{Φ:aa}{o i e E ρ G D}:wpS Φ (.set o i e) E ρ G D=(wpE Φ e E ρ G λx G1=>wpE Φ o E ρ G1 λa G2=>wpE Φ i E ρ G2 λy G3=>dU a y x G3 λG4=>D.nx ρ G4):=rfl
theorem sE{Φ:aa}{i op e E ρ G D}:wpS Φ (.aug i op e) E ρ G D=(match ρ[i]? with
  |some (some a)=>wpE Φ e E ρ G λb G1=>dz op a b λc=>D.nx (ρ.set i (some c)) G1
  |_=>False):=rfl
theorem w5{Φ:aa}{o i op e E ρ G D}:wpS Φ (.augs o i op e) E ρ G D=(wpE Φ o E ρ G λa G1=>wpE Φ i E ρ G1 λy G2=>bZ (view G2 a) y λold=>wpE Φ e E ρ G2 λb G3=>dz op old b λc=>dU a y c G3 λG4=>D.nx ρ G4):=rfl
theorem sG{Φ:aa}{e E ρ G D}:wpS Φ (.ret e) E ρ G D=(wpE Φ e E ρ G D.rt):=rfl
theorem sH{Φ:aa}{E ρ G D}:wpS Φ .rtn E ρ G D=(D.rt .non G):=rfl
theorem sI{Φ:aa}{c a b E ρ G D}:wpS Φ (.ite c a b) E ρ G D=(wpT Φ c E ρ G λt G1=>match t with |true=>aq Φ a E ρ G1 D |false=>aq Φ b E ρ G1 D):=rfl
theorem sJ{Φ:aa}{E ρ G D}:wpS Φ .pas E ρ G D=(D.nx ρ G):=rfl
theorem sO{Φ:aa}{E ρ G D}:wpS Φ .brk E ρ G D=(D.bk ρ G):=rfl
theorem sS{Φ:aa}{E ρ G D}:wpS Φ .cnt E ρ G D=(D.ct ρ G):=rfl
theorem lE{Φ:aa}{C es E ρ G D}:wpS Φ (.rse C es) E ρ G D=(wpM Φ es E ρ G λG1=>E ⟨C,.non⟩ G1):=rfl
theorem xf{Φ:aa}{E ρ G k}:wpM Φ .nil E ρ G k=k G:=rfl
theorem sU{Φ:aa}{e es E ρ G k}:wpM Φ (.cons e es) E ρ G k=(wpE Φ e E ρ G λd G1=>jF d=true/\wpM Φ es E ρ G1 k):=rfl
theorem xg{Φ:aa}{f es C i b E ρ G D}:wpS Φ (.tryc f es C i b) E ρ G D=(aN Φ es noE ρ G λds G1=>(Φ f).t ds G1 (λ_ G2=>D.nx ρ G2) λx G2=>x.cls=C/\x.fld=.non/\D.nx (ρ.set i (some (.bl b))) G2):=rfl
theorem lF{Φ:aa}{b C h xs E ρ G D}:wpS Φ (.tryx b C h xs) E ρ G D=(wpX Φ b ρ G D.nx λx ρ' G'=>x.fld=.non/\xs.contains x.cls=true/\bA x.cls C=true/\D.nx (caught h x.cls ρ') G'):=rfl
theorem xj{Φ:aa}{f g i es ρ G nx ex}:wpX Φ (.pick f g i es) ρ G nx ex=(wpE Φ (.var i) noE ρ G λd G1=>∃b:Bool,d=.int (if b then 1 else 0)/\aN Φ es noE ρ G1 λds G2=>(Φ (if b then g else f)).t ds G2 (λ_ G3=>nx ρ G3) λx G3=>ex x ρ G3):=rfl
theorem xm{Φ:aa}{f C m o es ρ G nx ex}:wpX Φ (.mcl f C m o es) ρ G nx ex=(wpE Φ o noE ρ G λd G1=>dR C m d/\aN Φ es noE ρ G1 λds G2=>(Φ f).t (d::ds) G2 (λ_ G3=>nx ρ G3) λx G3=>ex x ρ G3):=rfl
theorem sV{Φ:aa}{C es ρ G nx ex}:wpX Φ (.mko C es) ρ G nx ex=(aN Φ es noE ρ G λds G1=>(Φ C).t ds G1 (λ_ G2=>nx ρ G2) λx G2=>ex x ρ G2):=rfl
theorem sW{Φ:aa}{f es ρ G nx ex}:wpX Φ (.call f es) ρ G nx ex=(aN Φ es noE ρ G λds G1=>(Φ f).t ds G1 (λ_ G2=>nx ρ G2) λx G2=>ex x ρ G2):=rfl
theorem xq{Φ:aa}{i f es ρ G nx ex}:wpX Φ (.asg i f es) ρ G nx ex=(aN Φ es noE ρ G λds G1=>(Φ f).t ds G1 (λd G2=>nx (ρ.set i (some d)) G2) λx G2=>ex x ρ G2):=rfl
theorem xr{Φ:aa}{c a b ρ G nx ex}:wpX Φ (.ite c a b) ρ G nx ex=(wpT Φ c noE ρ G λt G1=>match t with |true=>wpX Φ a ρ G1 nx ex |false=>wpX Φ b ρ G1 nx ex):=rfl
theorem sX{Φ:aa}{E ρ G D}:wpS Φ .nev E ρ G D=(False):=rfl
theorem xu{Φ:aa}{fz elt tg it cond N cap E ρ G k}:wpE Φ (.comp fz elt tg it cond N cap) E ρ G k=(wpI Φ it E ρ G λitems g G1=>
   compLoop (λd ρ' G' k'=>aY tg d ρ' G' λρ1=>wpT Φ cond noE ρ1 G' λb G2=>match b with |true=>wpE Φ elt noE ρ1 G2 λy G3=>k' (some y) ρ1 G3 |false=>k' none ρ1 G2)
    g items [] (cap.map λo=>match o with |none=>none |some j=>(ρ[j]?).join) G1 λds G2=>mk fz ds G2 k):=rfl
theorem Eb{Φ:aa}{t it body E ρ G D}:wpS Φ (.for_ t it body) E ρ G D=(wpI Φ it E ρ G λitems g G1=>
   forLoop (λd ρ' G' k=>aY t d ρ' G' λρ1=>aq Φ body E ρ1 G' { D with nx:=k,ct:=k,bk:=D.nx }) g items ρ G1 D.nx):=rfl
theorem Zx{Φ:aa}{c body E ρ G D}:wpS Φ (.whl c body) E ρ G D=(∃n,whileLoop (λρ' G' k=>wpT Φ c E ρ' G' k) (λρ' G' k=>aq Φ body E ρ' G' { D with nx:=k,ct:=k,bk:=D.nx }) n ρ G D.nx):=rfl
section
variable {k k':D->DH->Prop} {G:DH}
theorem dB{fz:Bool}{xs:List D}(h:∀d G',k d G'->k' d G')(q:mk fz xs G k):mk fz xs G k':=by
 cases fz with
 |true=>exact h _ _ q
 |false=>exact λp hp=>h _ _ (q p hp)
theorem Ec{a b:D}{p:Int->Int->Prop}(h:gB a b p):∃i j,a=.int i/\b=.int j/\p i j:=by
 cases a with
 |int i=>cases b with
  |int j=>exact ⟨i,j,rfl,rfl,h⟩
  |_=>exact h.elim
 |_=>exact h.elim
theorem sY{a b:D}{p q:Int->Int->Prop}(h:∀i j,p i j->q i j)(z:gB a b p):gB a b q:=by obtain ⟨i,j,rfl,rfl,z⟩:=Ec z;exact h i j z
theorem Ed{op:Operator}{fz:Bool}{a b:D}(h:∀d G',k d G'->k' d G')(q:bY op fz a b G k):bY op fz a b G k':=by
 cases op with
 |Add=>
  have q:ju fz a b G k:=q;show ju fz a b G k';unfold ju at q ⊢;cases a with
  |int i=>cases b <;> first |exact h _ _ q |exact q
  |str i=>cases b <;> first |exact ⟨q.1,h _ _ q.2⟩ |exact q
  |lst i=>cases b <;> first |exact ⟨q.1,dB h q.2⟩ |exact q
  |tup i=>cases b <;> first |exact ⟨q.1,h _ _ q.2⟩ |exact q
  |_=>exact q
 |Sub=>exact sY (λ_ _ z=>h _ _ z) q
 |Mult=>
  have q:jw fz a b G k:=q;show jw fz a b G k';unfold jw at q ⊢;cases b with
  |int n=>cases a <;> first |exact ⟨q.1,h _ _ q.2⟩ |exact ⟨q.1,q.2.1,q.2.2.1,h _ _ q.2.2.2⟩ |exact ⟨q.1,q.2.1,q.2.2.1,dB h q.2.2.2⟩ |exact ⟨q.1,q.2.1,q.2.2.1,q.2.2.2.1,h _ _ q.2.2.2.2⟩ |exact q
  |_=>exact q
 |FloorDiv=>exact sY (λ_ _ z=>⟨z.1,h _ _ z.2⟩) q
 |Mod=>exact sY (λ_ _ z=>⟨z.1,h _ _ z.2⟩) q
 |Pow=>exact sY (λ_ _ z=>⟨z.1,h _ _ z.2⟩) q
 |_=>exact q
theorem Ef{a b:D}{k k':Bool->Prop}(h:∀c,k c->k' c)(q:fK a b k):fK a b k':=by
 unfold fK at q ⊢;split at q
 ·split at q
  ·exact h _ q
  ·exact q
 ·exact ⟨q.1,h _ q.2⟩
 ·exact ⟨q.1,h _ q.2⟩
 ·exact q
theorem iB{op:CmpOp}{a b:D}{k k':Bool->Prop}(h:∀c,k c->k' c)(q:aV op a b k):aV op a b k':=by
 cases op with
 |Eq=>exact ⟨q.1,h _ q.2⟩
 |NotEq=>exact ⟨q.1,h _ q.2⟩
 |Lt=>have q:jx a b k:=q;show jx a b k';unfold jx at q ⊢;split at q <;> first |exact h _ q |exact q
 |LtE=>have q:jy a b k:=q;show jy a b k';unfold jy at q ⊢;split at q <;> first |exact h _ q |exact q
 |Gt=>have q:jz a b k:=q;show jz a b k';unfold jz at q ⊢;split at q <;> first |exact h _ q |exact q
 |GtE=>have q:jA a b k:=q;show jA a b k';unfold jA at q ⊢;split at q <;> first |exact h _ q |exact q
 |Is=>
  have q:jC a b k:=q;show jC a b k';unfold jC at q ⊢;split at q
  ·exact h _ q
  ·split at q
   ·exact h _ q
   ·exact q
  ·exact q
 |IsNot=>
  have q:jD a b k:=q;show jD a b k';unfold jD at q ⊢;split at q
  ·exact h _ q
  ·split at q
   ·exact h _ q
   ·exact q
  ·exact q
 |In=>exact Ef h q
 |NotIn=>exact Ef (λc=>h _) q
theorem sZ{a i:D}{k k':D->Prop}(h:∀c,k c->k' c)(q:bZ a i k):bZ a i k':=by
 unfold bZ at q ⊢;split at q
 ·split at q
  ·exact h _ q
  ·exact q
 ·split at q
  ·exact h _ q
  ·exact q
 ·split at q
  ·exact h _ q
  ·exact q
 ·exact q
theorem Eg{fz:Bool}{a:D}{lo hi:Option Int}(h:∀d G',k d G'->k' d G')(q:dN fz a lo hi G k):dN fz a lo hi G k':=by
 unfold dN at q ⊢;split at q <;> first
  |exact dB h q
  |exact h _ _ q
  |exact q.elim
theorem Zy{fz:Bool}{a y:D}(h:∀d G',k d G'->k' d G')(q:jE fz a y G k):jE fz a y G k':=by
 unfold jE at q ⊢;split at q
 ·exact ⟨q.1,dB h q.2⟩
 ·exact q.elim
theorem Eh{f:Bf}{as:List D}{k k':D->Prop}(h:∀c,k c->k' c)(q:opB f as k):opB f as k':=by
 cases f with
 |len=>simp only[opB,wF]at q ⊢;split at q <;> first |exact h _ q |exact q.elim
 |all=>
  simp only[opB,qH]at q ⊢;split at q
  ·split at q
   ·exact h _ q
   ·exact q
  ·exact q
 |int=>
  simp only[opB,qI]at q ⊢;split at q
  ·exact h _ q
  ·exact h _ q
  ·split at q
   ·exact ⟨q.1,h _ q.2⟩
   ·exact q
  ·exact q
 |tuple=>simp only[opB,wG]at q ⊢;split at q <;> first |exact h _ q |exact q.elim
 |sum=>
  simp only[opB,wH]at q ⊢;split at q
  ·split at q
   ·exact h _ q
   ·exact q
  ·exact q
 |min=>
  simp only[opB,lz]at q ⊢;split at q
  ·split at q
   ·exact ⟨q.1,λm h1 h2=>h _ (q.2 m h1 h2)⟩
   ·split at q
    ·exact λm h1 h2=>h _ (q m h1 h2)
    ·exact q
  ·exact q
 |max=>simp only[opB,Ea]at q ⊢;split at q <;> first |exact h _ q |exact q.elim
 |abs=>simp only[opB,DX]at q ⊢;split at q <;> first |exact h _ q |exact q.elim
 |min2=>simp only[opB,DY]at q ⊢;split at q <;> first |exact h _ q |exact q.elim
 |str=>
  simp only[opB,wI]at q ⊢;split at q
  ·exact ⟨q.1,h _ q.2⟩
  ·exact q
theorem Ei{f:Lf}{as:List D}{k k':List D->Prop}(h:∀c,k c->k' c)(q:cM f as k):cM f as k':=by
 cases f with
 |list=>simp only[cM,wJ]at q ⊢;split at q <;> first |exact h _ q |exact q.elim
 |sorted=>
  simp only[cM,qJ]at q ⊢;split at q
  ·split at q
   ·exact ⟨q.1,λls p z=>h _ (q.2 ls p z)⟩
   ·exact q
  ·split at q
   ·exact ⟨q.1,λls p z=>h _ (q.2 ls p z)⟩
   ·exact q
  ·exact q
theorem gH{m:Mf}{o:D}{as:List D}(h:∀d G',k d G'->k' d G')(q:opM m o as G k):opM m o as G k':=by
 cases m with
 |join=>
  simp only[opM,qK]at q ⊢;split at q
  ·split at q
   ·exact ⟨q.1,h _ _ q.2⟩
   ·exact q
  ·exact q
 |append=>
  simp only[opM,qL]at q ⊢;split at q
  ·split at q
   ·exact ⟨q.1,h _ _ q.2⟩
   ·exact q
  ·exact q
 |extend=>
  simp only[opM,qM]at q ⊢;split at q
  ·split at q
   ·exact ⟨q.1,h _ _ q.2⟩
   ·exact q
  ·exact q
 |insert=>
  simp only[opM,qN]at q ⊢;split at q
  ·split at q
   ·exact ⟨q.1,q.2.1,q.2.2.1,h _ _ q.2.2.2⟩
   ·exact q
  ·exact q
 |pop=>
  simp only[opM,wK]at q ⊢;split at q
  ·split at q
   ·refine ⟨q.1,q.2.1,?_⟩;have q2:=q.2.2;split at q2
    ·exact h _ _ q2
    ·exact q2
   ·exact q
  ·exact q
 |count=>
  simp only[opM,qO]at q ⊢;split at q
  ·split at q
   ·exact h _ _ q
   ·exact q
  ·exact q
 |index=>
  simp only[opM,qP]at q ⊢;split at q
  ·split at q
   ·exact ⟨q.1,h _ _ q.2⟩
   ·exact q
  ·exact q
theorem xF{o i x:D}{k k':DH->Prop}(h:∀G',k G'->k' G')(q:dU o i x G k):dU o i x G k':=by
 unfold dU at q ⊢;split at q
 ·split at q
  ·split at q
   ·exact h _ q
   ·exact q
  ·exact q
 ·exact q
theorem xG{op:Operator}{a b:D}{k k':D->Prop}(h:∀c,k c->k' c)(q:dz op a b k):dz op a b k':=by
 unfold dz at q ⊢;split at q <;> first
  |exact h _ q
  |exact ⟨q.1,h _ q.2⟩
  |exact q.elim
mutual
theorem fP{k k':ak->Prop}(h:∀ρ,k ρ->k' ρ):∀(t:Tg){d:D}{ρ:ak},aY t d ρ G k->aY t d ρ G k'
 |.nm i,d,ρ,q=>h _ q
 |.tp ts,d,ρ,q=>by
  unfold aY at q ⊢;split at q
  ·exact xH h ts q
  ·exact xH h ts q
  ·exact q
theorem xH{k k':ak->Prop}(h:∀ρ,k ρ->k' ρ):∀(ts:Tgs){ds:List D}{ρ:ak},bH ts ds ρ G k->bH ts ds ρ G k'
 |.nil,ds,ρ,q=>by
  unfold bH at q ⊢;split at q
  ·exact h _ q
  ·exact q
 |.cons t r,ds,ρ,q=>by
  unfold bH at q ⊢;split at q
  ·exact fP (λρ' q'=>xH h r q') t q
  ·exact q
end
theorem tu{step step':D->ak->DH->(Option D->ak->DH->Prop)->Prop}(hs:∀d ρ G (k k':Option D->ak->DH->Prop),(∀o ρ' G',k o ρ' G'->k' o ρ' G')->step d ρ G k->step' d ρ G k')
  {g:Hld} {k k':List D->DH->Prop} (h:∀ds G',k ds G'->k' ds G'):∀(ds acc:List D)(ρ:ak)(G:DH),compLoop step g ds acc ρ G k->compLoop step' g ds acc ρ G k'
 |[],acc,ρ,G,q=>⟨q.1,q.2.1,h _ _ q.2.2⟩
 |d::ds,acc,ρ,G,q=>by
  refine ⟨q.1,q.2.1,hs d ρ G _ _ (λo ρ' G' z=>?_) q.2.2⟩;cases o with
  |some y=>exact tu hs h ds (acc++[y]) ρ' G' z
  |none=>exact tu hs h ds acc ρ' G' z
theorem Ej{step step':D->ak->DH->(ak->DH->Prop)->Prop}(hs:∀d ρ G (k k':ak->DH->Prop),(∀ρ' G',k ρ' G'->k' ρ' G')->step d ρ G k->step' d ρ G k')
  {g:Hld} {k k':ak->DH->Prop} (h:∀ρ G',k ρ G'->k' ρ G'):∀(ds:List D)(ρ:ak)(G:DH),forLoop step g ds ρ G k->forLoop step' g ds ρ G k'
 |[],ρ,G,q=>⟨q.1,h _ _ q.2⟩
 |d::ds,ρ,G,q=>⟨q.1,hs d ρ G _ _ (λρ' G' z=>Ej hs h ds ρ' G' z) q.2⟩
theorem Ek{test test':ak->DH->(Bool->DH->Prop)->Prop}{body body':ak->DH->(ak->DH->Prop)->Prop}
  (ht:∀ρ G (k k':Bool->DH->Prop),(∀b G',k b G'->k' b G')->test ρ G k->test' ρ G k') (hb:∀ρ G (k k':ak->DH->Prop),(∀ρ' G',k ρ' G'->k' ρ' G')->body ρ G k->body' ρ G k')
  {k k':ak->DH->Prop} (h:∀ρ G',k ρ G'->k' ρ G'):∀(n:Nat)(ρ:ak)(G:DH),whileLoop test body n ρ G k->whileLoop test' body' n ρ G k'
 |0,ρ,G,q=>q
 |n+1,ρ,G,q=>ht ρ G _ _ (λb G' z=>by
   cases b with
   |true=>exact hb ρ G' _ _ (λρ' G'' z'=>Ek ht hb h n ρ' G'' z') z
   |false=>exact h _ _ z) q
end
section
variable {Φ:aa} {G:DH}
mutual
theorem aB{E:EK}{ρ:ak}:∀(x:Ex){G:DH}{k k':D->DH->Prop},(∀d G',k d G'->k' d G')->wpE Φ x E ρ G k->wpE Φ x E ρ G k'
 |.var i,G,k,k',h,q=>by
  rw[rz]at q ⊢;split at q
  ·exact h _ _ q
  ·exact q
 |.cst d,G,k,k',h,q=>by rw[iz]at q ⊢;exact h _ _ q
 |.glb x d,G,k,k',h,q=>by rw[rA]at q ⊢;exact h _ _ q
 |.bin op fz a b,G,k,k',h,q=>by
  rw[rB]at q ⊢;exact aB a (λ_ _ q=>aB b (λ_ _ q=>Ed h q) q) q
 |.neg a,G,k,k',h,q=>by
  rw[rD]at q ⊢;refine aB a (λx _ q=>?_) q;split at q
  ·exact h _ _ q
  ·exact q
 |.cmp op a b,G,k,k',h,q=>by
  rw[lC]at q ⊢;exact aB a (λ_ _ q=>aB b (λ_ _ q=>iB (λ_ q=>h _ _ q) q) q) q
 |.chn op op' a b c,G,k,k',h,q=>by
  rw[lD]at q ⊢;refine aB a (λ_ _ q=>aB b (λ_ _ q=>iB (λt q=>?_) q) q) q;cases t with
  |true=>exact aB c (λ_ _ q=>iB (λ_ q=>h _ _ q) q) q
  |false=>exact h _ _ q
 |.not a,G,k,k',h,q=>by
  rw[rE]at q ⊢;refine aB a (λx _ q=>?_) q;split at q
  ·exact h _ _ q
  ·exact q
 |.boo isAnd e es,G,k,k',h,q=>by
  rw[rF]at q ⊢;refine aB e (λx _ q=>?_) q;split at q
  ·exact tB es (λ_ _ q=>h _ _ q) q
  ·exact q
 |.ife c a b,G,k,k',h,q=>by
  rw[rG]at q ⊢;refine cZ c (λt _ q=>?_) q;cases t with
  |true=>exact aB a h q
  |false=>exact aB b h q
 |.tup es,G,k,k',h,q=>by
  rw[rH]at q ⊢;exact b8 es (λ_ _ q=>⟨q.1,h _ _ q.2⟩) q
 |.lst fz es,G,k,k',h,q=>by
  rw[rJ]at q ⊢;exact b8 es (λ_ _ q=>⟨q.1,dB h q.2⟩) q
 |.idx a i,G,k,k',h,q=>by
  rw[rK]at q ⊢;exact aB a (λ_ _ q=>aB i (λ_ _ q=>sZ (λ_ q=>h _ _ q) q) q) q
 |.slc fz a lo hi,G,k,k',h,q=>by
  rw[rM]at q ⊢;exact aB a (λ_ _ q=>xK lo (λ_ _ q=>xK hi (λ_ _ q=>Eg h q) q) q) q
 |.rvs fz a s,G,k,k',h,q=>by
  rw[wU]at q ⊢;exact aB a (λ_ _ q=>aB s (λ_ _ q=>Zy h q) q) q
 |.call f es,G,k,k',h,q=>by
  rw[rN]at q ⊢;exact b8 es (λ_ _ q=>Spec.mono q h λ_ _ z=>z) q
 |.bcl f es,G,k,k',h,q=>by
  rw[rO]at q ⊢;exact b8 es (λ_ _ q=>Eh (λ_ q=>h _ _ q) q) q
 |.lcl fz f es,G,k,k',h,q=>by
  rw[rP]at q ⊢;exact b8 es (λ_ _ q=>Ei (λ_ q=>dB h q) q) q
 |.isi a t,G,k,k',h,q=>by
  rw[rQ]at q ⊢;refine aB a (λx _ q=>?_) q;split at q
  ·exact h _ _ q
  ·exact q
 |.isx a C xs,G,k,k',h,q=>by
  rw[rR]at q ⊢;refine aB a (λx _ q=>?_) q;split at q
  ·exact ⟨q.1,h _ _ q.2⟩
  ·exact q
 |.rgl fz a,G,k,k',h,q=>by
  rw[wV]at q ⊢;refine aB a (λd _ q=>?_) q;split at q
  ·exact ⟨q.1,dB h q.2⟩
  ·exact q
 |.rpl f a b ix,G,k,k',h,q=>by
  rw[Zw]at q ⊢;refine aB a (λ_ _ q=>aB b (λ_ _ q=>sZ (λ_ q=>Spec.mono q (λd G3 q=>?_) λ_ _ z=>z) q) q) q;unfold wM at q ⊢;split at q
  ·refine ⟨q.1,aB ix (λi G4 q=>?_) q.2⟩;unfold wN at q ⊢;split at q
   ·split at q
    ·exact h _ _ q
    ·exact q
   ·exact q
  ·exact q
 |.fld C f o,G,k,k',h,q=>by
  rw[rT]at q ⊢;refine aB o (λd _ q=>?_) q;unfold fM at q ⊢;split at q
  ·exact ⟨q.1,q.2.1,h _ _ q.2.2⟩
  ·exact q
 |.mcl f C m o es,G,k,k',h,q=>by
  rw[rW]at q ⊢;exact aB o (λd _ q=>⟨q.1,b8 es (λ_ _ q=>Spec.mono q h λ_ _ z=>z) q.2⟩) q
 |.mko C es,G,k,k',h,q=>by
  rw[rY]at q ⊢;exact b8 es (λ_ _ q=>Spec.mono q h λ_ _ z=>z) q
 |.pp0 o,G,k,k',h,q=>by
  rw[rZ]at q ⊢;refine aB o (λd _ q=>?_) q;unfold gD at q ⊢;split at q
  ·split at q
   ·split at q
    ·exact h _ _ q
    ·exact q
   ·exact q
  ·exact q
 |.rgt a,G,k,k',h,q=>by
  rw[wW]at q ⊢;refine aB a (λd _ q=>?_) q;split at q
  ·exact ⟨q.1,h _ _ q.2⟩
  ·exact q
 |.fst es,G,k,k',h,q=>by
  rw[wX]at q ⊢;exact xJ es (λ_ _ q=>⟨q.1,h _ _ q.2⟩) q
 |.mth m o es,G,k,k',h,q=>by
  rw[eH]at q ⊢;exact aB o (λ_ _ q=>⟨q.1,b8 es (λ_ _ q=>gH h q) q.2⟩) q
 |.comp fz elt tg it cond N cap,G,k,k',h,q=>by
  rw[xu]at q ⊢;refine lG it (λitems g G1 q=>?_) q;refine tu ?_ (λds G2 z=>dB h z) items [] _ G1 q;intro d ρ' G' k k' hk z;refine fP (λρ1 z=>?_) tg z;refine cZ cond (λb G2 z=>?_) z;cases b with
  |true=>exact aB elt (λy G3 z=>hk _ _ _ z) z
  |false=>exact hk _ _ _ z
 |.frz a,G,k,k',h,q=>by
  rw[sr]at q ⊢;refine aB a (λx G1 q=>?_) q;split at q
  ·split at q
   ·exact h _ _ q
   ·exact q
  ·exact h _ _ q
theorem cZ{E:EK}{ρ:ak}:∀(x:Tx){G:DH}{k k':Bool->DH->Prop},(∀d G',k d G'->k' d G')->wpT Φ x E ρ G k->wpT Φ x E ρ G k'
 |.not a,G,k,k',h,q=>by rw[qR]at q ⊢;exact cZ a (λ_ _ q=>h _ _ q) q
 |.boo isAnd e es,G,k,k',h,q=>by rw[qT]at q ⊢;exact cZ e (λ_ _ q=>tD es h q) q
 |.yes,G,k,k',h,q=>by rw[qU]at q ⊢;exact h _ _ q
 |.val a,G,k,k',h,q=>by
  rw[jG]at q ⊢;refine aB a (λx _ q=>?_) q;split at q
  ·exact h _ _ q
  ·exact q
theorem xJ{E:EK}{ρ:ak}:∀(x:Exs){G:DH}{k k':List Nat->DH->Prop},(∀d G',k d G'->k' d G')->wpF Φ x E ρ G k->wpF Φ x E ρ G k'
 |.nil,G,k,k',h,q=>by rw[wY]at q ⊢;exact h _ _ q
 |.cons e es,G,k,k',h,q=>by
  rw[wZ]at q ⊢;refine aB e (λd _ q=>?_) q;split at q
  ·exact ⟨q.1,xJ es (λ_ _ q=>h _ _ q) q.2⟩
  ·exact ⟨q.1,xJ es (λ_ _ q=>h _ _ q) q.2⟩
  ·exact q
theorem b8{E:EK}{ρ:ak}:∀(x:Exs){G:DH}{k k':List D->DH->Prop},(∀d G',k d G'->k' d G')->aN Φ x E ρ G k->aN Φ x E ρ G k'
 |.nil,G,k,k',h,q=>by rw[gF]at q ⊢;exact h _ _ q
 |.cons e es,G,k,k',h,q=>by rw[gG]at q ⊢;exact aB e (λ_ _ q=>b8 es (λ_ _ q=>h _ _ q) q) q
theorem tB{E:EK}{ρ:ak}:∀(x:Exs){isAnd b:Bool}{G:DH}{k k':Bool->DH->Prop},(∀d G',k d G'->k' d G')->wpB Φ x isAnd b E ρ G k->wpB Φ x isAnd b E ρ G k'
 |.nil,_,_,G,k,k',h,q=>by rw[qW]at q ⊢;exact h _ _ q
 |.cons e es,isAnd,b,G,k,k',h,q=>by
  rw[lA]at q ⊢;cases isAnd <;> cases b <;> first
   |exact h _ _ q
   | (refine aB e (λd _ q=>?_) q
      split at q
      ·exact tB es h q
      ·exact q)
theorem tD{E:EK}{ρ:ak}:∀(x:Txs){isAnd b:Bool}{G:DH}{k k':Bool->DH->Prop},(∀d G',k d G'->k' d G')->fO Φ x isAnd b E ρ G k->fO Φ x isAnd b E ρ G k'
 |.nil,_,_,G,k,k',h,q=>by rw[qX]at q ⊢;exact h _ _ q
 |.cons e es,isAnd,b,G,k,k',h,q=>by
  rw[lB]at q ⊢;cases isAnd <;> cases b <;> first
   |exact h _ _ q
   |exact cZ e (λd _ q=>tD es h q) q
theorem xK{E:EK}{ρ:ak}:∀(x:Ox){G:DH}{k k':Option Int->DH->Prop},(∀d G',k d G'->k' d G')->wpO Φ x E ρ G k->wpO Φ x E ρ G k'
 |.no,G,k,k',h,q=>by rw[qY]at q ⊢;exact h _ _ q
 |.ob a,G,k,k',h,q=>by
  rw[qZ]at q ⊢;refine aB a (λx _ q=>?_) q;split at q
  ·exact h _ _ q
  ·exact q
theorem lG{E:EK}{ρ:ak}:∀(x:It'){G:DH}{k k':List D->Hld->DH->Prop},(∀d g G',k d g G'->k' d g G')->wpI Φ x E ρ G k->wpI Φ x E ρ G k'
 |.seq a,G,k,k',h,q=>by
  rw[q8]at q ⊢;refine aB a (λx _ q=>?_) q;split at q
  ·exact h _ _ _ q
  ·exact q
 |.rng a,G,k,k',h,q=>by
  rw[q9]at q ⊢;refine aB a (λx _ q=>?_) q;split at q
  ·exact ⟨q.1,h _ _ _ q.2⟩
  ·exact q
 |.rev a,G,k,k',h,q=>by
  rw[wQ]at q ⊢;refine aB a (λx _ q=>?_) q;split at q
  ·exact ⟨q.1,h _ _ _ q.2⟩
  ·exact q
 |.dwn a b d,G,k,k',h,q=>by
  rw[wR]at q ⊢;refine aB a (λx _ q=>aB b (λy _ q=>aB d (λz _ q=>?_) q) q) q;split at q
  ·exact ⟨q.1,h _ _ _ q.2⟩
  ·exact q
 |.rng2 a b,G,k,k',h,q=>by
  rw[wO]at q ⊢;refine aB a (λx _ q=>aB b (λy _ q=>?_) q) q;split at q
  ·exact ⟨q.1,h _ _ _ q.2⟩
  ·exact q
 |.enm a,G,k,k',h,q=>by
  rw[rm]at q ⊢;refine aB a (λx _ q=>?_) q;split at q
  ·exact h _ _ _ q
  ·exact q
 |.zip a b,G,k,k',h,q=>by
  rw[rn]at q ⊢;refine aB a (λx _ q=>aB b (λy _ q=>?_) q) q;split at q
  ·exact h _ _ _ q
  ·exact q
end
structure En.Le(D D':En):Prop where
 nx:∀ρ G,D.nx ρ G->D'.nx ρ G
 rt:∀d G,D.rt d G->D'.rt d G
 bk:∀ρ G,D.bk ρ G->D'.bk ρ G
 ct:∀ρ G,D.ct ρ G->D'.ct ρ G
theorem lH:∀(b:Tb){ρ:ak}{G:DH}{nx nx':ak->DH->Prop}{ex ex':Xn->ak->DH->Prop},(∀ρ G,nx ρ G->nx' ρ G)->(∀x ρ G,ex x ρ G->ex' x ρ G)->wpX Φ b ρ G nx ex->wpX Φ b ρ G nx' ex'
 |.call f es,ρ,G,nx,nx',ex,ex',h,h',q=>by rw[sW]at q ⊢;exact b8 es (λ_ _ q=>Spec.mono q (λ_ _ z=>h _ _ z) λ_ _ z=>h' _ _ _ z) q
 |.pick f g i es,ρ,G,nx,nx',ex,ex',h,h',q=>by
  rw[xj]at q ⊢;exact aB (.var i) (λ_ _ q=>let ⟨b,e,q⟩:=q;⟨b,e,b8 es (λ_ _ q=>Spec.mono q (λ_ _ z=>h _ _ z) λ_ _ z=>h' _ _ _ z) q⟩) q
 |.mcl f C m o es,ρ,G,nx,nx',ex,ex',h,h',q=>by
  rw[xm]at q ⊢;exact aB o (λ_ _ q=>⟨q.1,b8 es (λ_ _ q=>Spec.mono q (λ_ _ z=>h _ _ z) λ_ _ z=>h' _ _ _ z) q.2⟩) q
 |.mko C es,ρ,G,nx,nx',ex,ex',h,h',q=>by rw[sV]at q ⊢;exact b8 es (λ_ _ q=>Spec.mono q (λ_ _ z=>h _ _ z) λ_ _ z=>h' _ _ _ z) q
 |.asg i f es,ρ,G,nx,nx',ex,ex',h,h',q=>by rw[xq]at q ⊢;exact b8 es (λ_ _ q=>Spec.mono q (λ_ _ z=>h _ _ z) λ_ _ z=>h' _ _ _ z) q
 |.ite c a b,ρ,G,nx,nx',ex,ex',h,h',q=>by
  rw[xr]at q ⊢;refine cZ c (λt _ q=>?_) q;cases t with
  |true=>exact lH a h h' q
  |false=>exact lH b h h' q
mutual
theorem wpS_mono{E:EK}:∀(x:Sx){ρ:ak}{G:DH}{D D':En},D.Le D'->wpS Φ x E ρ G D->wpS Φ x E ρ G D'
 |.exp e,ρ,G,D,D',h,q=>by rw[su]at q ⊢;exact aB e (λ_ _ q=>h.nx _ _ q) q
 |.asg t e,ρ,G,D,D',h,q=>by rw[jK]at q ⊢;exact aB e (λ_ _ q=>fP (λ_ q=>h.nx _ _ q) t q) q
 |.set o i e,ρ,G,D,D',h,q=>by rw[sy]at q ⊢;exact aB e (λ_ _ q=>aB o (λ_ _ q=>aB i (λ_ _ q=>xF (λ_ q=>h.nx _ _ q) q) q) q) q
 |.aug i op e,ρ,G,D,D',h,q=>by
  rw[sE]at q ⊢;split at q
  ·exact aB e (λ_ _ q=>xG (λ_ q=>h.nx _ _ q) q) q
  ·exact q
 |.augs o i op e,ρ,G,D,D',h,q=>by
  rw[w5]at q ⊢;exact aB o (λ_ _ q=>aB i (λ_ _ q=>sZ (λ_ q=>aB e (λ_ _ q=>xG (λ_ q=>xF (λ_ q=>h.nx _ _ q) q) q) q) q) q) q
 |.ret e,ρ,G,D,D',h,q=>by rw[sG]at q ⊢;exact aB e (λ_ _ q=>h.rt _ _ q) q
 |.rtn,ρ,G,D,D',h,q=>by rw[sH]at q ⊢;exact h.rt _ _ q
 |.ite c a b,ρ,G,D,D',h,q=>by
  rw[sI]at q ⊢;refine cZ c (λt _ q=>?_) q;cases t with
  |true=>exact dC a h q
  |false=>exact dC b h q
 |.for_ t it body,ρ,G,D,D',h,q=>by
  rw[Eb]at q ⊢;exact lG it (λitems g G1 q=>Ej (λd ρ' G' k k' hk z=>fP (λρ1 z=>dC body (D:={ D with nx:=k,ct:=k,bk:=D.nx }) (D':={ D' with nx:=k',ct:=k',bk:=D'.nx }) ⟨hk,h.rt,h.nx,hk⟩ z) t z) h.nx items ρ G1 q) q
 |.whl c body,ρ,G,D,D',h,q=>by
  rw[Zx]at q ⊢;obtain ⟨n,q⟩:=q;refine ⟨n,?_⟩;refine Ek ?_ ?_ h.nx n ρ G q
  ·exact λρ' G' k k' hk z=>cZ c hk z
  ·exact λρ' G' k k' hk z=>dC body (D:={ D with nx:=k,ct:=k,bk:=D.nx }) (D':={ D' with nx:=k',ct:=k',bk:=D'.nx }) ⟨hk,h.rt,h.nx,hk⟩ z
 |.pas,ρ,G,D,D',h,q=>by rw[sJ]at q ⊢;exact h.nx _ _ q
 |.brk,ρ,G,D,D',h,q=>by rw[sO]at q ⊢;exact h.bk _ _ q
 |.cnt,ρ,G,D,D',h,q=>by rw[sS]at q ⊢;exact h.ct _ _ q
 |.nev,ρ,G,D,D',h,q=>by rw[sX]at q;exact q.elim
 |.rse C es,ρ,G,D,D',h,q=>by rw[lE]at q ⊢;exact q
 |.tryc f es C i b,ρ,G,D,D',h,q=>by rw[xg]at q ⊢;exact b8 es (λ_ _ q=>Spec.mono q (λ_ _ z=>h.nx _ _ z) λ_ _ z=>⟨z.1,z.2.1,h.nx _ _ z.2.2⟩) q
 |.tryx b C hd xs,ρ,G,D,D',h,q=>by rw[lF]at q ⊢;exact lH b (λ_ _ z=>h.nx _ _ z) (λ_ _ _ z=>⟨z.1,z.2.1,z.2.2.1,h.nx _ _ z.2.2.2⟩) q
theorem dC{E:EK}:∀(x:Sxs){ρ:ak}{G:DH}{D D':En},D.Le D'->aq Φ x E ρ G D->aq Φ x E ρ G D'
 |.nil,ρ,G,D,D',h,q=>by rw[jH]at q ⊢;exact h.nx _ _ q
 |.cons s r,ρ,G,D,D',h,q=>by rw[jJ]at q ⊢;exact wpS_mono s (D:={ D with nx:=λρ' G'=>aq Φ r E ρ' G' D }) (D':={ D' with nx:=λρ' G'=>aq Φ r E ρ' G' D' }) ⟨λ_ _ z=>dC r h z,h.rt,h.bk,h.ct⟩ q
end
end
def PV(K:PF)(H:Hp)(F:FZ)(Q:VK):D->DH->Prop:=λd G'=>∀H' F' v,Ext H F H' F'->R K H' F' G'->Rep K H' F' d v->Q v H'
def PB(K:PF)(H:Hp)(F:FZ)(Q:Bool->Hp->Prop):Bool->DH->Prop:=λb G'=>∀H' F',Ext H F H' F'->R K H' F' G'->Q b H'
noncomputable def PLs(K:PF)(H:Hp)(F:FZ)(Q:List V->Hp->Prop):List D->DH->Prop:=λds G'=>∀H' F' vs,Ext H F H' F'->R K H' F' G'->Reps K H' F' ds vs->Q vs H'
section
variable {K:PF} {H:Hp} {F:FZ} {G:DH} {Q:VK}
theorem PV.now{d:D}{v:V}(h:PV K H F Q d G)(r:R K H F G)(q:Rep K H F d v):Q v H:=h H F v (Ext.refl H F) r q
theorem fQ{fz:Bool}{ds:List D}{vs:List V}(h:mk fz ds G (PV K H F Q))(r:R K H F G)(t:Reps K H F ds vs)(p:Addr)(hp:H p=none):Q (.ref p) (upd H p (.lst vs)):=by
 cases fz with
 |true=>exact h _ _ _ (wA r hp) (r.newF hp) (Zt r hp t)
 |false=>exact h p (r.free hp) _ _ _ (cR r hp) (r.newL hp t) rfl
theorem lJ{ds:List D}{vs:List V}(h:PV K H F Q (.tup ds) G)(r:R K H F G)(t:Reps K H F ds vs)(p:Addr)(hp:H p=none):Q (.ref p) (upd H p (.tup vs)):=
 h _ _ _ (cR r hp) (r.new hp) (wC r hp t)
end
theorem szl:sz<=sizeLine:=by rw[fT];decide
theorem cT{n:Nat}(h:n<=sz):n<=sizeLine:=cw h szl
def rB2(K:PF)(f:D->D->DH->(D->DH->Prop)->Prop):R2:=λx y H Q=>∃F G a b,R K H F G/\Rep K H F a x/\Rep K H F b y/\f (view G a) (view G b) G (PV K H F Q)
section
variable {X:Cx}
theorem Zz:OpR X (binaryOp .Add) (λx y H Q=>∃a b xs ys,x=.ref a/\y=.ref b/\SqL X.K H a xs/\SqL X.K H b ys/\xs.length+ys.length<=sizeLine/\∀p,H p=none->Q (.ref p) (upd H p (.lst (xs++ys)))):=by
 intro pins s σ H x y v u Q I rx ry h;obtain ⟨a,b,xs,ys,rfl,rfl,ha,hb,hz,q⟩:=h;cases rx;cases ry;obtain ⟨its,r1,p1,_⟩:=I.list ha;obtain ⟨its2,r2,p2,_⟩:=I.list hb;obtain ⟨⟨cls,dd,data,sl⟩,ho,hc,n,hd⟩:=p1.isList;obtain ⟨⟨cls2,dd2,data2,sl2⟩,ho2,hc2,n2,hd2⟩:=p2.isList;simp only at hc hd hc2 hd2;subst hc hd hc2 hd2;have e:its.toArray++its2.toArray=(its++its2).toArray:=by simp
 refine concat_meets ⟨_,ho,rfl⟩ ⟨_,ho2,rfl⟩ noFill_list_add seq_list_add PySem.F.slot_list_add PySem.F.entry_list_add (PySem.F.args_list_add_2 _ _)
  (list_addW a b its.toArray its2.toArray n n2 dd dd2 sl sl2 (by rw[am,am,<-r1.length,<-r2.length];exact hz)) ⟨ho,ho2,?_⟩
 rw[e];exact ⟨.ref _,_,I.lnew (t':=s.toks) (r1.append r2) (by rw[ax];exact hz),rfl,q _ I.fresh⟩
theorem ZC:OpR X (binaryOp .Add) (λx y H Q=>∃a b ys,x=.ref a/\y=.ref b/\SqT X.K H a []/\SqT X.K H b ys/\Q (.ref b) H):=by
 intro pins s σ H x y v u Q I rx ry h;obtain ⟨a,b,ys,rfl,rfl,ha,hb,q⟩:=h;cases rx;cases ry;obtain ⟨its,r1,p1,_⟩:=I.tuple ha;obtain ⟨its2,r2,p2,_⟩:=I.tuple hb;obtain ⟨⟨cls,dd,data,sl⟩,ho,hc,n,hd⟩:=id p1;obtain ⟨⟨cls2,dd2,data2,sl2⟩,ho2,hc2,n2,hd2⟩:=id p2;simp only at hc hd hc2 hd2;subst hc hd hc2 hd2;cases r1;exact concat_meets ⟨_,ho,rfl⟩ ⟨_,ho2,rfl⟩ noFill_tuple_add seq_tuple_add PySem.F.slot_tuple_add PySem.F.entry_tuple_add (PySem.F.args_tuple_add_2 _ _)
   (tuple_addW0 a b _ its2.toArray n n2 dd dd2 sl sl2 (by simp)) ⟨ho,ho2,⟨.ref b,H,I,rfl,q⟩⟩
theorem xM{K:PF}{H:Hp}{F:FZ}{ds:List D}{vs:List V}(t:Reps K H F ds vs):ds=[]↔vs=[]:=by
 have:=t.length;constructor
 ·intro e;subst e;exact de.mp this.symm
 ·intro e;subst e;exact de.mp this
theorem ZD{x:Str}{n:Nat}(h1:n<=1000)(h:x.length * n<=sz):MulOk x (n:Int):=by
 have h2:((x.length * n:Nat):Int)<=((1000000:Nat):Int):=Int.ofNat_le.mpr h;rw[Int.natCast_mul]at h2;refine ⟨?_,?_,?_⟩
 ·rw[br (by omega),br (by omega)];rfl
 ·intro hn _ hh;have hp:(0:Int) < n:=by omega
  have h3:(x.length:Int)<=(2 ^ 63 - 1) / n:=(Int.le_ediv_iff_mul_le hp).mpr (Int.le_trans h2 (by decide));exact absurd hh (Int.not_lt.mpr h3)
 ·intro _ _;unfold Builtin.Str.tooLong;rw[fT,ca];exact br (by have:sz=1000000:=rfl;omega)
theorem El(l:List Nat):∀(n:Nat)(acc:List Nat),(List.replicate n l.toArray).foldl (· ++ ·) acc.toArray=(acc++reps l n).toArray
 |0,acc=>by simp[reps]
 |n+1,acc=>by
  rw[bv,List.foldl_cons];have e:acc.toArray++l.toArray=(acc++l).toArray:=by simp
  rw[e,El l n (acc++l)];unfold reps;rw[bv,eM,List.append_assoc]
theorem ZF(n:Nat):reps ([]:List Nat) n=[]:=by
 unfold reps;induction n with
 |zero=>rfl
 |succ n ih=>rw[bv,eM,ih];rfl
theorem Em{α:Type}(l:List α)(n:Nat):(reps l n).length=n * l.length:=len_rep l n
theorem ZG(l:List Nat)(n:Nat):Txt.mul (tx l) (n:Int)=tx (reps l n):=by
 unfold Txt.mul;by_cases h:(n:Int) < 1
 ·rw[if_pos h];have:n=0:=by omega
  subst this;rfl
 ·rw[if_neg h];by_cases h2:((n:Int)==1||(tx l).length==0)=true
  ·rw[if_pos h2];rw[c8]at h2;rcases h2 with h2 |h2
   ·have:n=1:=by have:=eq_of_beq h2;omega
    subst this;simp[reps]
   ·have h3:=eq_of_beq h2;rw[bM]at h3;have:l=[]:=de.mp h3;subst this;rw[ZF]
  ·rw[if_neg h2];have e:=El l n [];rw[List.nil_append]at e;exact fe Str.mk (by simpa using e)
theorem ZJ(op:Operator)(fz:Bool):OpR X (binaryOp op) (rB2 X.K (bY op fz)):=by
 intro pins s σ H x y v u Q I rx ry h;obtain ⟨F,G,a,b,r,ra,rb,h⟩:=h;generalize ea:view G a=va at h;generalize eb:view G b=vb at h;have twoI:∀{p:Int->Int->Prop},gB va vb p->∃i j,x=.int i/\y=.int j/\p i j:=λ{p} h=>by
  obtain ⟨i,j,rfl,rfl,h⟩:=Ec h;cases dM ea;cases dM eb;exact ⟨i,j,ra,rb,h⟩
 cases op with
 |Add=>
  have h:ju fz va vb G _:=h;unfold ju at h;cases va with
  |int _=>cases vb with
   |int _=>
    cases dM ea;cases dM eb;have ha:x=.int _:=ra;have hb:y=.int _:=rb;subst ha;subst hb;exact VP pins s σ H _ _ v u Q I rx ry ⟨_,_,rfl,rfl,h.now r rfl⟩
   |_=>exact h.elim
  |str _=>cases vb with
   |str _=>
    cases gA ea;cases gA eb;obtain ⟨ha,la⟩:=ra;obtain ⟨hb,lb⟩:=rb;subst ha;subst hb;refine Wd pins s σ H _ _ v u Q I rx ry ⟨_,_,rfl,rfl,?_,?_⟩
    ·rw[bM,bM];exact cT h.1
    ·rw[qz];exact h.2.now r ⟨rfl,by rw[ax];exact h.1⟩
   |_=>exact h.elim
  |lst _=>cases vb with
   |lst _=>
    obtain ⟨p,vs,rfl,q1,t1⟩:=Rep.list r ra ea;obtain ⟨p',vs',rfl,q2,t2⟩:=Rep.list r rb eb;exact Zz pins s σ H _ _ v u Q I rx ry ⟨p,p',vs,vs',rfl,rfl,q1,q2,by rw[<-t1.length,<-t2.length];exact cT h.1,fQ h.2 r (t1.append t2)⟩
   |_=>exact h.elim
  |tup xs=>cases vb with
   |tup ys=>
    cases gw ea;cases gw eb;obtain ⟨p,vs,rfl,q1,t1⟩:=id ra;obtain ⟨p',vs',rfl,q2,t2⟩:=id rb;by_cases hx:vs=[]
    ·subst hx;have:xs=[]:=(xM t1).mpr rfl;subst this;exact ZC pins s σ H _ _ v u Q I rx ry ⟨p,p',vs',rfl,rfl,q1.sq,q2.sq,h.2.now r rb⟩
    ·refine W9 pins s σ H _ _ v u Q I rx ry ⟨p,p',vs,vs',rfl,rfl,q1.sq,q2.sq,hx,by rw[<-t1.length,<-t2.length];exact cT h.1,λe=>?_,λ_=>lJ h.2 r (t1.append t2)⟩;subst e;have:ys=[]:=(xM t2).mpr rfl;subst this;have h2:=h.2;rw[df]at h2;exact h2.now r ra
   |_=>exact h.elim
  |_=>exact h.elim
 |Sub=>
  obtain ⟨i,j,rfl,rfl,h⟩:=twoI h;exact VR pins s σ H _ _ v u Q I rx ry ⟨_,_,rfl,rfl,h.now r rfl⟩
 |Mult=>
  have h:jw fz va vb G _:=h;unfold jw at h;cases vb with
  |int _=>cases va with
   |int _=>
    cases dM ea;cases dM eb;have ha:x=.int _:=ra;have hb:y=.int _:=rb;subst ha;subst hb;exact VV pins s σ H _ _ v u Q I rx ry ⟨_,_,rfl,rfl,h.1,h.2.now r rfl⟩
   |str _=>
    cases gA ea;cases dM eb;obtain ⟨ha,la⟩:=ra;have hb:y=.int _:=rb;subst ha;subst hb;obtain ⟨h0,h1,h2,h3⟩:=h;obtain ⟨n,rfl⟩:=cy h0;rw[ca]at h2 h3;refine X6 pins s σ H _ _ v u Q I rx ry ⟨_,_,rfl,rfl,ZD (by omega) (by rw[bM];exact h2),?_⟩;rw[ZG];exact h3.now r ⟨rfl,by rw[Em,Nat.mul_comm];exact h2⟩
   |tup _=>
    cases gw ea;cases dM eb;obtain ⟨p,vs,rfl,q1,t1⟩:=ra;have hb:y=.int _:=rb;subst hb;obtain ⟨h0,h1,h2,h3,h4⟩:=h;refine Zi pins s σ H _ _ v u Q I rx ry ⟨p,_,vs,rfl,rfl,q1.sq,λe=>h2 ((xM t1).mpr e),h0,h1,by rw[<-t1.length];exact cT h3,?_⟩;exact lJ h4 r (t1.rep _)
   |lst _=>
    cases dM eb;have hb:y=.int _:=rb;subst hb;obtain ⟨p,vs,rfl,q1,t1⟩:=ra.list r ea;obtain ⟨h0,h1,h2,h3⟩:=h;exact Zn pins s σ H _ _ v u Q I rx ry ⟨p,_,vs,rfl,rfl,q1,h0,h1,by rw[<-t1.length];exact cT h2,fQ h3 r (t1.rep _)⟩
   |_=>exact h.elim
  |_=>exact h.elim
 |FloorDiv=>
  obtain ⟨i,j,rfl,rfl,h⟩:=twoI h;exact Za pins s σ H _ _ v u Q I rx ry ⟨_,_,rfl,rfl,h.1,h.2.now r rfl⟩
 |Mod=>
  obtain ⟨i,j,rfl,rfl,h⟩:=twoI h;exact V0 pins s σ H _ _ v u Q I rx ry ⟨_,_,rfl,rfl,h.1,h.2.now r rfl⟩
 |Pow=>
  obtain ⟨i,j,rfl,rfl,h⟩:=twoI h;exact V1 pins s σ H _ _ v u Q I rx ry ⟨_,_,rfl,rfl,h.1,h.2.now r rfl⟩
 |_=>exact h.elim
end
mutual
theorem xN:∀{d:D},nr d=true->deq d d=true
 |.non,_=>rfl
 |.bl b,_=>by simp[deq]
 |.int i,_=>by simp[deq]
 |.str l,_=>by simp[deq]
 |.tup xs,h=>by rw[deq];exact xO (by rw[nr]at h;exact h)
 |.lst xs,h=>by rw[deq];exact xO (by rw[nr]at h;exact h)
 |.ref a,h=>by rw[nr]at h;cases h
 |.scr a,h=>by rw[nr]at h;cases h
 |.exn a,h=>by rw[nr]at h;cases h
 |.obj _ _ _,h=>by rw[nr]at h;cases h
theorem xO:∀{ds:List D},nrs ds=true->bN ds ds=true
 |[],_=>rfl
 |d::ds,h=>by
  rw[nrs,ae]at h;rw[bN,xN h.1,xO h.2];rfl
end
theorem tH:∀(xs ys:List D),bN xs ys=((List.range (min xs.length ys.length)).all (λj=>deq (xs.getD j .non) (ys.getD j .non))&&xs.length==ys.length)
 |[],[]=>rfl
 |[],y::ys=>by simp[bN]
 |x::xs,[]=>by simp[bN]
 |x::xs,y::ys=>by
  have e:min (x::xs).length (y::ys).length=(min xs.length ys.length)+1:=by simp only[cK];omega
  rw[bN,tH xs ys,e,List.range_succ_eq_map,List.all_cons,List.all_map];simp only[List.getD_cons_zero,cK,Bool.and_assoc];congr 1;congr 1;rw[Bool.eq_iff_iff];simp
theorem ZK{xs ys:List D}(h:xs.length≠ys.length):bN xs ys=false:=by rw[tH];rw[show (xs.length==ys.length)=false from cr.mpr h,ez]
theorem lK:∀{xs:List D}{i:Nat},nrs xs=true->nr (xs.getD i .non)=true
 |[],_,_=>rfl
 |x::xs,0,h=>by rw[nrs,ae]at h;exact h.1
 |x::xs,i+1,h=>by rw[nrs,ae]at h;rw[List.getD_cons_succ];exact lK h.2
theorem lL:∀{xs:List D}{i:Nat},dpt (xs.getD i .non)<=aQ xs
 |[],_=>eK _
 |x::xs,0=>by rw[aQ,List.getD_cons_zero];omega
 |x::xs,i+1=>by rw[aQ,List.getD_cons_succ];have:=@lL xs i;omega
section
variable {X:Cx} {pins:List (Addr×Obj)} {σ:L2.St} {H:Hp} {s:Shared} {F:FZ}
mutual
theorem tM(I:Inv X pins σ H s):∀{d d':D}{v:V},nr d=true->nr d'=true->Rep X.K H F d v->Rep X.K H F d' v->d=d'
 |.non,d',v,_,n',h,h'=>by
  have h:v=.non:=h;subst h;cases d' with
  |non=>rfl
  |bl _=>simp only[Rep]at h';cases h'
  |int _=>simp only[Rep]at h';cases h'
  |ref _=>simp only[Rep]at h';cases h'
  |scr _=>rw[nr]at n';cases n'
  |exn _=>rw[nr]at n';cases n'
  |obj _ _ _=>rw[nr]at n';cases n'
  |str _=>simp only[Rep]at h';obtain ⟨e,_⟩:=h';cases e
  |tup _=>simp only[Rep]at h';obtain ⟨_,_,e,_⟩:=h';cases e
  |lst _=>simp only[Rep]at h';obtain ⟨_,_,e,_⟩:=h';cases e
 |.bl b,d',v,_,n',h,h'=>by
  have h:v=.bl b:=h;subst h;cases d' with
  |non=>simp only[Rep]at h';cases h'
  |bl _=>simp only[Rep]at h';cases h';rfl
  |int _=>simp only[Rep]at h';cases h'
  |ref _=>simp only[Rep]at h';cases h'
  |scr _=>rw[nr]at n';cases n'
  |exn _=>rw[nr]at n';cases n'
  |obj _ _ _=>rw[nr]at n';cases n'
  |str _=>simp only[Rep]at h';obtain ⟨e,_⟩:=h';cases e
  |tup _=>simp only[Rep]at h';obtain ⟨_,_,e,_⟩:=h';cases e
  |lst _=>simp only[Rep]at h';obtain ⟨_,_,e,_⟩:=h';cases e
 |.int b,d',v,_,n',h,h'=>by
  have h:v=.int b:=h;subst h;cases d' with
  |non=>simp only[Rep]at h';cases h'
  |bl _=>simp only[Rep]at h';cases h'
  |int _=>simp only[Rep]at h';cases h';rfl
  |ref _=>simp only[Rep]at h';cases h'
  |scr _=>rw[nr]at n';cases n'
  |exn _=>rw[nr]at n';cases n'
  |obj _ _ _=>rw[nr]at n';cases n'
  |str _=>simp only[Rep]at h';obtain ⟨e,_⟩:=h';cases e
  |tup _=>simp only[Rep]at h';obtain ⟨_,_,e,_⟩:=h';cases e
  |lst _=>simp only[Rep]at h';obtain ⟨_,_,e,_⟩:=h';cases e
 |.str l,d',v,_,n',h,h'=>by
  obtain ⟨h,_⟩:=h;subst h;cases d' with
  |str l'=>
   obtain ⟨e,_⟩:=h';injection e with e;rw[CZ e]
  |non=>simp only[Rep]at h';cases h'
  |bl _=>simp only[Rep]at h';cases h'
  |int _=>simp only[Rep]at h';cases h'
  |ref _=>simp only[Rep]at h';cases h'
  |scr _=>rw[nr]at n';cases n'
  |exn _=>rw[nr]at n';cases n'
  |obj _ _ _=>rw[nr]at n';cases n'
  |tup _=>simp only[Rep]at h';obtain ⟨_,_,e,_⟩:=h';cases e
  |lst _=>simp only[Rep]at h';obtain ⟨_,_,e,_⟩:=h';cases e
 |.tup xs,d',v,n,n',h,h'=>by
  obtain ⟨a,vs,e,q,t⟩:=h;subst e;cases d' with
  |tup ys=>
   obtain ⟨a',vs',e,q',t'⟩:=h';injection e with e;subst e;have:=I.tuple_inj q.sq q'.sq;subst this;rw[nr]at n n';rw[xP I n n' t t']
  |lst ys=>
   obtain ⟨a',vs',e,q',t'⟩:=h';injection e with e;subst e;obtain ⟨its,_,⟨o,e1,c1,_⟩,_⟩:=I.tuple q.sq;obtain ⟨its',_,⟨o',n',e2,c2,_⟩,_⟩:=I.list q'.sq;rw[e1]at e2;cases e2;rw[c1]at c2;exact absurd c2 (by ac_rfl)
  |ref _=>rw[nr]at n';cases n'
  |scr _=>rw[nr]at n';cases n'
  |exn _=>rw[nr]at n';cases n'
  |obj _ _ _=>rw[nr]at n';cases n'
  |str _=>simp only[Rep]at h';obtain ⟨e,_⟩:=h';cases e
  |non=>simp only[Rep]at h';cases h'
  |bl _=>simp only[Rep]at h';cases h'
  |int _=>simp only[Rep]at h';cases h'
 |.lst xs,d',v,n,n',h,h'=>by
  obtain ⟨a,vs,e,q,t⟩:=h;subst e;cases d' with
  |lst ys=>
   obtain ⟨a',vs',e,q',t'⟩:=h';injection e with e;subst e;have:=I.list_inj q.sq q'.sq;subst this;rw[nr]at n n';rw[xP I n n' t t']
  |tup ys=>
   obtain ⟨a',vs',e,q',t'⟩:=h';injection e with e;subst e;obtain ⟨its,_,⟨o,e1,c1,_⟩,_⟩:=I.tuple q'.sq;obtain ⟨its',_,⟨o',n',e2,c2,_⟩,_⟩:=I.list q.sq;rw[e1]at e2;cases e2;rw[c1]at c2;exact absurd c2 (by ac_rfl)
  |ref _=>rw[nr]at n';cases n'
  |scr _=>rw[nr]at n';cases n'
  |exn _=>rw[nr]at n';cases n'
  |obj _ _ _=>rw[nr]at n';cases n'
  |str _=>simp only[Rep]at h';obtain ⟨e,_⟩:=h';cases e
  |non=>simp only[Rep]at h';cases h'
  |bl _=>simp only[Rep]at h';cases h'
  |int _=>simp only[Rep]at h';cases h'
 |.ref a,d',v,n,_,_,_=>by rw[nr]at n;cases n
 |.scr a,d',v,n,_,_,_=>by rw[nr]at n;cases n
 |.exn a,d',v,n,_,_,_=>by rw[nr]at n;cases n
 |.obj _ _ _,d',v,n,_,_,_=>by rw[nr]at n;cases n
theorem xP(I:Inv X pins σ H s):∀{ds ds':List D}{vs:List V},nrs ds=true->nrs ds'=true->Reps X.K H F ds vs->Reps X.K H F ds' vs->ds=ds'
 |[],[],_,_,_,_,_=>rfl
 |[],_::_,_,_,_,h,⟨v,r,e,_⟩=>by have h:_=[]:=h;rw[h]at e;cases e
 |_::_,[],_,_,_,⟨v,r,e,_⟩,h=>by have h:_=[]:=h;rw[h]at e;cases e
 |d::ds,d'::ds',_,n,n',⟨v,r,e,h,t⟩,⟨v',r',e',h',t'⟩=>by
  subst e;injection e' with e1 e2;subst e1;subst e2;rw[nrs,ae]at n n';rw[tM I n.1 n'.1 h h',xP I n.2 n'.2 t t']
end
theorem tQ{I:Inv X pins σ H s}{ds:List D}{vs:List V}{its:List Value}(t:Reps X.K H F ds vs)(r:Vals vs its)(j:Nat)(h:j < its.length):∃v,Rep X.K H F (ds.getD j .non) v/\RelV v its[j]:=by
 have hl:j < ds.length:=by rw[t.length,r.length];exact h
 have e1:ds[j]?=some (ds.getD j .non):=by rw[ey,bn hl];rfl
 obtain ⟨v,e2,r2⟩:=t.get e1;obtain ⟨u,e3,r3⟩:=r.get e2;rw[bn h]at e3;cases e3;exact ⟨v,r2,r3⟩
theorem ZL(a b:List Nat):(tx a==tx b)=(a==b):=by rw[Bool.eq_iff_iff,ar,ar];exact ⟨λh=>CZ h,λh=>by rw[h]⟩
theorem ZM(I:Inv X pins σ H s){n:Nat}{A:Around}{xs ys:List D}{a a':Addr}{vs vs':List V}{its its':List Value}
  (ih:∀m,m < n->∀(A:Around)(d d':D)(v v':V)(u u':Value),A.units+m < cLine->min (dpt d) (dpt d')<=m->nr d=true->nr d'=true->Rep X.K H F d v->Rep X.K H F d' v'->RelV v u->RelV v' u'->
   SeqAt.RcAt A s u u' (deq d d')/\SeqAt.EqAt A s u u' (deq d d')/\SeqAt.RcNeAt A s u u' (!deq d d'))
  (hu:A.units+n < cLine) (hd:min (dpt (.tup xs)) (dpt (.tup ys))<=n) (n1:nr (.tup xs)=true) (n2:nr (.tup ys)=true) (h:Rep X.K H F (.tup xs) (.ref a)) (h':Rep X.K H F (.tup ys) (.ref a'))
  (pt:s.heap.IsTuple a its.toArray) (pt':s.heap.IsTuple a' its'.toArray) (rv:Vals vs its) (rv':Vals vs' its') (tt:Reps X.K H F xs vs) (tt':Reps X.K H F ys vs'):
  SeqAt.RcAt A s (.ref a) (.ref a') (deq (.tup xs) (.tup ys))/\SeqAt.EqAt A s (.ref a) (.ref a') (deq (.tup xs) (.tup ys))/\SeqAt.RcNeAt A s (.ref a) (.ref a') (!deq (.tup xs) (.tup ys)):=by
 have hd':min (aQ xs+1) (aQ ys+1)<=n:=by rw[dpt,dpt]at hd;exact hd
 have hn1:nrs xs=true:=by rw[nr]at n1;exact n1
 have hn2:nrs ys=true:=by rw[nr]at n2;exact n2
 have l1:its.toArray.size=xs.length:=by rw[am,<-rv.length,tt.length]
 have l2:its'.toArray.size=ys.length:=by rw[am,<-rv'.length,tt'.length]
 have he:∀j (h1:j < its.toArray.size) (h2:j < its'.toArray.size),SeqAt.EqAt A.in1 s its.toArray[j] its'.toArray[j] (deq (xs.getD j .non) (ys.getD j .non)):=by intro j h1 h2;obtain ⟨w1,q1,q2⟩:=tQ (I:=I) tt rv j (by simpa using h1);obtain ⟨w2,q3,q4⟩:=tQ (I:=I) tt' rv' j (by simpa using h2);have d1:=@lL xs j;have d2:=@lL ys j;exact (ih (n - 1) (by omega) A.in1 _ _ w1 w2 _ _ (by show A.units+1+(n - 1) < cLine;omega) (by omega) (lK hn1) (lK hn2) q1 q3 (by simpa using q2) (by simpa using q4)).2.1
 have e:deq (.tup xs) (.tup ys)=((List.range (min its.toArray.size its'.toArray.size)).all (λj=>deq (xs.getD j .non) (ys.getD j .non))&&its.toArray.size==its'.toArray.size):=by rw[deq,tH,l1,l2]
 have rc:SeqAt.RcAt A s (.ref a) (.ref a') (deq (.tup xs) (.tup ys)):=by rw[e];exact .tuples pt pt' (by omega) he
 refine ⟨rc,?_,by rw[e];exact .tuples pt pt' (by omega) he⟩;by_cases z:a=a'
 ·subst z;have:=tM I n1 n2 h h';rw[<-this,xN n1];exact .same _
 ·exact .of_refs z rc
theorem ZP(I:Inv X pins σ H s){n:Nat}{A:Around}{xs ys:List D}{a a':Addr}{vs vs':List V}{its its':List Value}
  (ih:∀m,m < n->∀(A:Around)(d d':D)(v v':V)(u u':Value),A.units+m < cLine->min (dpt d) (dpt d')<=m->nr d=true->nr d'=true->Rep X.K H F d v->Rep X.K H F d' v'->RelV v u->RelV v' u'->
   SeqAt.RcAt A s u u' (deq d d')/\SeqAt.EqAt A s u u' (deq d d')/\SeqAt.RcNeAt A s u u' (!deq d d'))
  (hu:A.units+n < cLine) (hd:min (dpt (.lst xs)) (dpt (.lst ys))<=n) (n1:nr (.lst xs)=true) (n2:nr (.lst ys)=true) (h:a=a'->xs=ys)
  (pt:s.heap.IsList a its.toArray) (pt':s.heap.IsList a' its'.toArray) (rv:Vals vs its) (rv':Vals vs' its') (tt:Reps X.K H F xs vs) (tt':Reps X.K H F ys vs'):
  SeqAt.RcAt A s (.ref a) (.ref a') (deq (.lst xs) (.lst ys))/\SeqAt.EqAt A s (.ref a) (.ref a') (deq (.lst xs) (.lst ys))/\SeqAt.RcNeAt A s (.ref a) (.ref a') (!deq (.lst xs) (.lst ys)):=by
 have hd':min (aQ xs+1) (aQ ys+1)<=n:=by rw[dpt,dpt]at hd;exact hd
 have hn1:nrs xs=true:=by rw[nr]at n1;exact n1
 have hn2:nrs ys=true:=by rw[nr]at n2;exact n2
 have l1:its.toArray.size=xs.length:=by rw[am,<-rv.length,tt.length]
 have l2:its'.toArray.size=ys.length:=by rw[am,<-rv'.length,tt'.length]
 have eqs:∀(rc:SeqAt.RcAt A s (.ref a) (.ref a') (deq (.lst xs) (.lst ys))),SeqAt.EqAt A s (.ref a) (.ref a') (deq (.lst xs) (.lst ys)):=λrc=>by
  by_cases z:a=a'
  ·have:=h z;subst z;subst this;rw[xN n1];exact .same _
  ·exact .of_refs z rc
 by_cases hl:xs.length=ys.length
 ·have he:∀j (h1:j < its.toArray.size) (h2:j < its'.toArray.size),SeqAt.EqAt A.in1 s its.toArray[j] its'.toArray[j] (deq (xs.getD j .non) (ys.getD j .non)):=by
   intro j h1 h2;obtain ⟨w1,q1,q2⟩:=tQ (I:=I) tt rv j (by simpa using h1);obtain ⟨w2,q3,q4⟩:=tQ (I:=I) tt' rv' j (by simpa using h2);have d1:=@lL xs j;have d2:=@lL ys j;exact (ih (n - 1) (by omega) A.in1 _ _ w1 w2 _ _ (by show A.units+1+(n - 1) < cLine;omega) (by omega) (lK hn1) (lK hn2) q1 q3 (by simpa using q2) (by simpa using q4)).2.1
  have e:deq (.lst xs) (.lst ys)=(List.range its.toArray.size).all (λj=>deq (xs.getD j .non) (ys.getD j .non)):=by rw[deq,tH,l1,hl,Nat.min_self];simp
  have rc:SeqAt.RcAt A s (.ref a) (.ref a') (deq (.lst xs) (.lst ys)):=by rw[e];exact .lists pt pt' (by rw[l1,l2];exact hl) (by omega) he
  exact ⟨rc,eqs rc,by rw[e];exact .lists pt pt' (by rw[l1,l2];exact hl) (by omega) he⟩
 ·have e:deq (.lst xs) (.lst ys)=false:=by rw[deq];exact ZK hl
  have hne:(its.toArray.size != its'.toArray.size)=true:=by rw[l1,l2];simpa using hl
  have rc:SeqAt.RcAt A s (.ref a) (.ref a') (deq (.lst xs) (.lst ys)):=by rw[e];exact .lists_lengths pt pt' hne (by omega)
  exact ⟨rc,eqs rc,by rw[e];exact .lists_lengths pt pt' hne (by omega)⟩
theorem xQ(I:Inv X pins σ H s):∀(n:Nat)(A:Around)(d d':D)(v v':V)(u u':Value),A.units+n < cLine->min (dpt d) (dpt d')<=n->nr d=true->nr d'=true->Rep X.K H F d v->Rep X.K H F d' v'->RelV v u->RelV v' u'->
  SeqAt.RcAt A s u u' (deq d d')/\SeqAt.EqAt A s u u' (deq d d')/\SeqAt.RcNeAt A s u u' (!deq d d'):=by
 intro n;induction n using Nat.strongRecOn with
 |_ n ih=>
  intro A d d' v v' u u' hu hd n1 n2 h h' r r';have hu0:A.units < cLine:=by omega
  cases d with
  |ref a=>rw[nr]at n1;cases n1
  |scr a=>rw[nr]at n1;cases n1
  |exn a=>rw[nr]at n1;cases n1
  |obj _ _ _=>rw[nr]at n1;cases n1
  |non=>
   have hv:v=.non:=h;subst hv;have hr:u=Value.none:=r;subst hr;cases d' with
   |ref a=>rw[nr]at n2;cases n2
   |scr a=>rw[nr]at n2;cases n2
   |exn a=>rw[nr]at n2;cases n2
   |obj _ _ _=>rw[nr]at n2;cases n2
   |non=>
    have hv:v'=.non:=h';subst hv;have hr:u'=Value.none:=r';subst hr;exact ⟨.none_none,.same _,.none_none⟩
   |bl b'=>
    have hv:v'=.bl b':=h';subst hv;have hr:u'=Value.bool b':=r';subst hr;exact ⟨.none_bool b',.none_bool b',.none_bool b'⟩
   |int i'=>
    have hv:v'=.int i':=h';subst hv;obtain ⟨t',hr⟩:∃t',u'=Value.int i' t':=r';subst hr;exact ⟨.none_int i' t',.none_int i' t',.none_int i' t'⟩
   |str l'=>
    obtain ⟨hv,_⟩:=h';subst hv;obtain ⟨t',hr⟩:∃t',u'=Value.str (tx l') t':=r';subst hr;exact ⟨.none_str (tx l') t',.none_str (tx l') t',.none_str (tx l') t'⟩
   |tup ys=>
    obtain ⟨a',vs',hv,q',tt'⟩:=id h';subst hv;have hr:u'=Value.ref a':=r';subst hr;obtain ⟨its',rv',pt',_⟩:=I.tuple q'.sq;have pt':s.heap.IsTuple a' its'.toArray:=pt';exact ⟨.none_tuple pt' hu0,.none_tuple pt' hu0,.none_tuple pt' hu0⟩
   |lst ys=>
    obtain ⟨a',vs',hv,q',tt'⟩:=id h';subst hv;have hr:u'=Value.ref a':=r';subst hr;obtain ⟨its',rv',pl',_⟩:=I.list q'.sq;have pt':s.heap.IsList a' its'.toArray:=pl'.isList;exact ⟨.none_list pt' hu0,.none_list pt' hu0,.none_list pt' hu0⟩
  |bl b=>
   have hv:v=.bl b:=h;subst hv;have hr:u=Value.bool b:=r;subst hr;cases d' with
   |ref a=>rw[nr]at n2;cases n2
   |scr a=>rw[nr]at n2;cases n2
   |exn a=>rw[nr]at n2;cases n2
   |obj _ _ _=>rw[nr]at n2;cases n2
   |non=>
    have hv:v'=.non:=h';subst hv;have hr:u'=Value.none:=r';subst hr;exact ⟨.bool_none b,.bool_none b,.bool_none b⟩
   |bl b'=>
    have hv:v'=.bl b':=h';subst hv;have hr:u'=Value.bool b':=r';subst hr;exact ⟨.bool_bool b b',.bool_bool b b',.bool_bool b b'⟩
   |int i'=>
    have hv:v'=.int i':=h';subst hv;obtain ⟨t',hr⟩:∃t',u'=Value.int i' t':=r';subst hr;exact ⟨.bool_int b i' t',.bool_int b i' t',.bool_int b i' t'⟩
   |str l'=>
    obtain ⟨hv,_⟩:=h';subst hv;obtain ⟨t',hr⟩:∃t',u'=Value.str (tx l') t':=r';subst hr;exact ⟨.bool_str b (tx l') t',.bool_str b (tx l') t',.bool_str b (tx l') t'⟩
   |tup ys=>
    obtain ⟨a',vs',hv,q',tt'⟩:=id h';subst hv;have hr:u'=Value.ref a':=r';subst hr;obtain ⟨its',rv',pt',_⟩:=I.tuple q'.sq;have pt':s.heap.IsTuple a' its'.toArray:=pt';exact ⟨.bool_tuple b pt' hu0,.bool_tuple b pt' hu0,.bool_tuple b pt' hu0⟩
   |lst ys=>
    obtain ⟨a',vs',hv,q',tt'⟩:=id h';subst hv;have hr:u'=Value.ref a':=r';subst hr;obtain ⟨its',rv',pl',_⟩:=I.list q'.sq;have pt':s.heap.IsList a' its'.toArray:=pl'.isList;exact ⟨.bool_list b pt' hu0,.bool_list b pt' hu0,.bool_list b pt' hu0⟩
  |int i=>
   have hv:v=.int i:=h;subst hv;obtain ⟨t,hr⟩:∃t,u=Value.int i t:=r;subst hr;cases d' with
   |ref a=>rw[nr]at n2;cases n2
   |scr a=>rw[nr]at n2;cases n2
   |exn a=>rw[nr]at n2;cases n2
   |obj _ _ _=>rw[nr]at n2;cases n2
   |non=>
    have hv:v'=.non:=h';subst hv;have hr:u'=Value.none:=r';subst hr;exact ⟨.int_none i t,.int_none i t,.int_none i t⟩
   |bl b'=>
    have hv:v'=.bl b':=h';subst hv;have hr:u'=Value.bool b':=r';subst hr;exact ⟨.int_bool i t b',.int_bool i t b',.int_bool i t b'⟩
   |int i'=>
    have hv:v'=.int i':=h';subst hv;obtain ⟨t',hr⟩:∃t',u'=Value.int i' t':=r';subst hr;exact ⟨.int_int i t i' t',.int_int i t i' t',.int_int i t i' t'⟩
   |str l'=>
    obtain ⟨hv,_⟩:=h';subst hv;obtain ⟨t',hr⟩:∃t',u'=Value.str (tx l') t':=r';subst hr;exact ⟨.int_str i t (tx l') t',.int_str i t (tx l') t',.int_str i t (tx l') t'⟩
   |tup ys=>
    obtain ⟨a',vs',hv,q',tt'⟩:=id h';subst hv;have hr:u'=Value.ref a':=r';subst hr;obtain ⟨its',rv',pt',_⟩:=I.tuple q'.sq;have pt':s.heap.IsTuple a' its'.toArray:=pt';exact ⟨.int_tuple i t pt' hu0,.int_tuple i t pt' hu0,.int_tuple i t pt' hu0⟩
   |lst ys=>
    obtain ⟨a',vs',hv,q',tt'⟩:=id h';subst hv;have hr:u'=Value.ref a':=r';subst hr;obtain ⟨its',rv',pl',_⟩:=I.list q'.sq;have pt':s.heap.IsList a' its'.toArray:=pl'.isList;exact ⟨.int_list i t pt' hu0,.int_list i t pt' hu0,.int_list i t pt' hu0⟩
  |str l=>
   obtain ⟨hv,_⟩:=h;subst hv;obtain ⟨t,hr⟩:∃t,u=Value.str (tx l) t:=r;subst hr;cases d' with
   |ref a=>rw[nr]at n2;cases n2
   |scr a=>rw[nr]at n2;cases n2
   |exn a=>rw[nr]at n2;cases n2
   |obj _ _ _=>rw[nr]at n2;cases n2
   |non=>
    have hv:v'=.non:=h';subst hv;have hr:u'=Value.none:=r';subst hr;exact ⟨.str_none (tx l) t,.str_none (tx l) t,.str_none (tx l) t⟩
   |bl b'=>
    have hv:v'=.bl b':=h';subst hv;have hr:u'=Value.bool b':=r';subst hr;exact ⟨.str_bool (tx l) t b',.str_bool (tx l) t b',.str_bool (tx l) t b'⟩
   |int i'=>
    have hv:v'=.int i':=h';subst hv;obtain ⟨t',hr⟩:∃t',u'=Value.int i' t':=r';subst hr;exact ⟨.str_int (tx l) t i' t',.str_int (tx l) t i' t',.str_int (tx l) t i' t'⟩
   |str l'=>
    obtain ⟨hv,_⟩:=h';subst hv;obtain ⟨t',hr⟩:∃t',u'=Value.str (tx l') t':=r';subst hr;rw[deq,<-ZL];exact ⟨.str_str (tx l) t (tx l') t',.str_str (tx l) t (tx l') t',.str_str (tx l) t (tx l') t'⟩
   |tup ys=>
    obtain ⟨a',vs',hv,q',tt'⟩:=id h';subst hv;have hr:u'=Value.ref a':=r';subst hr;obtain ⟨its',rv',pt',_⟩:=I.tuple q'.sq;have pt':s.heap.IsTuple a' its'.toArray:=pt';exact ⟨.str_tuple (tx l) t pt' hu0,.str_tuple (tx l) t pt' hu0,.str_tuple (tx l) t pt' hu0⟩
   |lst ys=>
    obtain ⟨a',vs',hv,q',tt'⟩:=id h';subst hv;have hr:u'=Value.ref a':=r';subst hr;obtain ⟨its',rv',pl',_⟩:=I.list q'.sq;have pt':s.heap.IsList a' its'.toArray:=pl'.isList;exact ⟨.str_list (tx l) t pt' hu0,.str_list (tx l) t pt' hu0,.str_list (tx l) t pt' hu0⟩
  |tup xs=>
   obtain ⟨a,vs,hv,q,tt⟩:=id h;subst hv;have hr:u=Value.ref a:=r;subst hr;obtain ⟨its,rv,pt,_⟩:=I.tuple q.sq;have pt:s.heap.IsTuple a its.toArray:=pt;cases d' with
   |ref a=>rw[nr]at n2;cases n2
   |scr a=>rw[nr]at n2;cases n2
   |exn a=>rw[nr]at n2;cases n2
   |obj _ _ _=>rw[nr]at n2;cases n2
   |non=>
    have hv:v'=.non:=h';subst hv;have hr:u'=Value.none:=r';subst hr;exact ⟨.tuple_none pt hu0,.tuple_none pt hu0,.tuple_none pt hu0⟩
   |bl b'=>
    have hv:v'=.bl b':=h';subst hv;have hr:u'=Value.bool b':=r';subst hr;exact ⟨.tuple_bool b' pt hu0,.tuple_bool b' pt hu0,.tuple_bool b' pt hu0⟩
   |int i'=>
    have hv:v'=.int i':=h';subst hv;obtain ⟨t',hr⟩:∃t',u'=Value.int i' t':=r';subst hr;exact ⟨.tuple_int i' t' pt hu0,.tuple_int i' t' pt hu0,.tuple_int i' t' pt hu0⟩
   |str l'=>
    obtain ⟨hv,_⟩:=h';subst hv;obtain ⟨t',hr⟩:∃t',u'=Value.str (tx l') t':=r';subst hr;exact ⟨.tuple_str (tx l') t' pt hu0,.tuple_str (tx l') t' pt hu0,.tuple_str (tx l') t' pt hu0⟩
   |tup ys=>
    obtain ⟨a',vs',hv,q',tt'⟩:=id h';subst hv;have hr:u'=Value.ref a':=r';subst hr;obtain ⟨its',rv',pt',_⟩:=I.tuple q'.sq;have pt':s.heap.IsTuple a' its'.toArray:=pt';exact ZM I ih hu hd n1 n2 h h' pt pt' rv rv' tt tt'
   |lst ys=>
    obtain ⟨a',vs',hv,q',tt'⟩:=id h';subst hv;have hr:u'=Value.ref a':=r';subst hr;obtain ⟨its',rv',pl',_⟩:=I.list q'.sq;have pt':s.heap.IsList a' its'.toArray:=pl'.isList;exact ⟨.tuple_list pt pt' hu0,.tuple_list pt pt' hu0,.tuple_list pt pt' hu0⟩
  |lst xs=>
   obtain ⟨a,vs,hv,q,tt⟩:=id h;subst hv;have hr:u=Value.ref a:=r;subst hr;obtain ⟨its,rv,pl,_⟩:=I.list q.sq;have pt:s.heap.IsList a its.toArray:=pl.isList;cases d' with
   |ref a=>rw[nr]at n2;cases n2
   |scr a=>rw[nr]at n2;cases n2
   |exn a=>rw[nr]at n2;cases n2
   |obj _ _ _=>rw[nr]at n2;cases n2
   |non=>
    have hv:v'=.non:=h';subst hv;have hr:u'=Value.none:=r';subst hr;exact ⟨.list_none pt hu0,.list_none pt hu0,.list_none pt hu0⟩
   |bl b'=>
    have hv:v'=.bl b':=h';subst hv;have hr:u'=Value.bool b':=r';subst hr;exact ⟨.list_bool b' pt hu0,.list_bool b' pt hu0,.list_bool b' pt hu0⟩
   |int i'=>
    have hv:v'=.int i':=h';subst hv;obtain ⟨t',hr⟩:∃t',u'=Value.int i' t':=r';subst hr;exact ⟨.list_int i' t' pt hu0,.list_int i' t' pt hu0,.list_int i' t' pt hu0⟩
   |str l'=>
    obtain ⟨hv,_⟩:=h';subst hv;obtain ⟨t',hr⟩:∃t',u'=Value.str (tx l') t':=r';subst hr;exact ⟨.list_str (tx l') t' pt hu0,.list_str (tx l') t' pt hu0,.list_str (tx l') t' pt hu0⟩
   |tup ys=>
    obtain ⟨a',vs',hv,q',tt'⟩:=id h';subst hv;have hr:u'=Value.ref a':=r';subst hr;obtain ⟨its',rv',pt',_⟩:=I.tuple q'.sq;have pt':s.heap.IsTuple a' its'.toArray:=pt';exact ⟨.list_tuple pt pt' hu0,.list_tuple pt pt' hu0,.list_tuple pt pt' hu0⟩
   |lst ys=>
    obtain ⟨a',vs',hv,q',tt'⟩:=id h';subst hv;have hr:u'=Value.ref a':=r';subst hr;obtain ⟨its',rv',pl',_⟩:=I.list q'.sq;have pt':s.heap.IsList a' its'.toArray:=pl'.isList;exact ZP I ih hu hd n1 n2 (λz=>by subst z;have e:=tM I n1 n2 h h';injection e) pt pt' rv rv' tt tt'
end
def FA(F:FZ)(G:DH):FZ:=λa=>F a\/∃o,G a=some o
theorem Eo{H:Hp}{F:FZ}{G:DH}:Ext H F H (FA F G):=⟨λ_ f=>.inl f,λ_ _=>rfl,λ_ _ h=>h,λ_ _ _ h=>h⟩
theorem tR{K:PF}{H:Hp}{F:FZ}{G:DH}{d:D}{v:V}(r:R K H F G)(h:Rep K H F d v):Rep K H (FA F G) (view G d) v:=by
 cases d with
 |ref p=>
  have hv:v=.ref p:=h;cases g:G p with
  |none=>
   have e:view G (.ref p)=.ref p:=by simp only[view,g]
   rw[e];exact hv
  |some o=>
   cases o with
   |lst ds=>
    have e:view G (.ref p)=.lst ds:=by simp only[view,g]
    rw[e];obtain ⟨vs,q,t⟩:=r.lst g;exact ⟨p,vs,hv,⟨.inr ⟨_,g⟩,q⟩,Reps.ext Eo t⟩
 |_=>exact Rep.ext Eo h
def rC2(K:PF)(f:D->D->(Bool->Prop)->Prop):R2:=λx y H Q=>∃F G a b,R K H F G/\Rep K H F a x/\Rep K H F b y/\f (view G a) (view G b) (λc=>PV K H F Q (.bl c) G)
section
variable {X:Cx}
theorem Ep(c:Nat)(l:List Nat):(!(Builtin.Str.occurrences (tx l) (tx [c]) 0 (tx l).length 1).isEmpty)=l.contains c:=by have:=StrLaws.found_one (tx l) c;rw[this,Bool.eq_iff_iff];simp
theorem ZQ{pins:List (Addr×Obj)}{σ:L2.St}{H:Hp}{s:Shared}{F:FZ}(I:Inv X pins σ H s){A:Around}{x:D}{v:V}{u:Value}(hu:A.units+64 < cLine)(hx:nr x=true)(rx:Rep X.K H F x v)(ru:RelV v u):
  ∀{ds:List D}{vs:List V}{us:List Value},nrs ds=true->aQ ds<=60->Reps X.K H F ds vs->Vals vs us->∃e:Value->Bool,(∀y∈us,SeqAt.EqAt A s y u (e y))/\us.any e=isIn x ds:=by
 intro ds vs us hn hd t r;let P:Value->D->Prop:=λy d=>nr d=true/\∃v,Rep X.K H F d v/\RelV v y
 have one:∀y d d',P y d->P y d'->d=d':=λy d d' ⟨n,v,q,z⟩ ⟨n',v',q',z'⟩=>by
  have e:=z.inj z';subst e;exact tM I n n' q q'
 have ⟨f,hf⟩:∃f:Value->D,∀y d,P y d->f y=d:=by refine ⟨λy=>Classical.epsilon (P y),λy d h=>?_⟩;exact one y _ _ (Classical.epsilon_spec ⟨d,h⟩) h
 refine ⟨λy=>deq (f y) x,?_,?_⟩
 ·skip;have key:∀{ds:List D}{vs:List V}{us:List Value},nrs ds=true->aQ ds<=60->Reps X.K H F ds vs->Vals vs us->∀y∈us,SeqAt.EqAt A s y u (deq (f y) x):=by
   intro ds;induction ds with
   |nil=>
    intro vs us _ _ t r y hy;have t:vs=[]:=t;subst t;cases r;cases hy
   |cons d ds ih=>
    intro vs us hn hd t r y hy;obtain ⟨v1,r1,e,h1,t1⟩:=t;subst e;rw[nrs,ae]at hn;rw[aQ]at hd;cases r with
    |cons p q=>
     rcases aI.mp hy with e |hy
     ·subst e;rw[hf _ d ⟨hn.1,_,h1,p⟩];exact (xQ I 60 A d x v1 v _ u (by omega) (by omega) hn.1 hx h1 rx p ru).2.1
     ·exact ih hn.2 (by omega) t1 q y hy
  exact key hn hd t r
 ·have key:∀{ds:List D}{vs:List V}{us:List Value},nrs ds=true->Reps X.K H F ds vs->Vals vs us->us.any (λy=>deq (f y) x)=isIn x ds:=by
   intro ds;induction ds with
   |nil=>
    intro vs us _ t r;have t:vs=[]:=t;subst t;cases r;rfl
   |cons d ds ih=>
    intro vs us hn t r;obtain ⟨v1,r1,e,h1,t1⟩:=t;subst e;rw[nrs,ae]at hn;cases r with
    |cons p q=>
     rw[List.any_cons,hf _ d ⟨hn.1,_,h1,p⟩,ih hn.2 t1 q];rfl
  exact key hn t r
theorem jL(op:CmpOp)(hu:X.A.units+100 < cLine):OpR X (compareOp op) (rC2 X.K (aV op)):=by
 intro pins s σ H x y v u Q I rx ry h;obtain ⟨F,G,a,b,r,ra,rb,h⟩:=h;have ra':=tR r ra;have rb':=tR r rb;generalize ea:view G a=va at h ra';generalize eb:view G b=vb at h rb';have fin:∀c:Bool,PV X.K H F Q (.bl c) G->EP X pins σ Q (.bool c) s:=λc q=>⟨.bl c,H,I,rfl,q.now r rfl⟩;have hin:∀(l:List D)(k:Bool->Prop),(nr va=true/\nrs l=true/\aQ l<=60)->∀{vs:List V}{us:List Value},Reps X.K H (FA F G) l vs->Vals vs us->
   ∃e:Value->Bool,(∀z∈us,SeqAt.EqAt X.A.in1 s z v (e z))/\us.any e=isIn va l:=λl k hh {vs us} t rv=>
  ZQ I (A:=X.A.in1) (by show X.A.units+1+64 < cLine;omega) hh.1 ra' rx hh.2.1 hh.2.2 t rv
 cases op with
 |Eq=>
  obtain ⟨⟨n1,n2,n3⟩,q⟩:=h;exact (xQ I 60 X.A _ _ x y v u (by omega) n3 n1 n2 ra' rb' rx ry).1 _ _ _ _ (fin _ q)
 |NotEq=>
  obtain ⟨⟨n1,n2,n3⟩,q⟩:=h;exact (xQ I 60 X.A _ _ x y v u (by omega) n3 n1 n2 ra' rb' rx ry).2.2 _ _ _ _ (fin _ q)
 |Lt=>
  have h:jx va vb (λc=>PV X.K H F Q (.bl c) G):=h;unfold jx at h;split at h
  ·have e1:x=.int _:=ra';have e2:y=.int _:=rb';subst e1;subst e2;obtain ⟨t,rfl⟩:=rx;obtain ⟨t',rfl⟩:=ry;exact lt_int (fin _ h)
  ·obtain ⟨e1,_⟩:=ra';obtain ⟨e2,_⟩:=rb';subst e1;subst e2;obtain ⟨t,rfl⟩:=rx;obtain ⟨t',rfl⟩:=ry;exact lt_str (fin _ h)
  ·exact h.elim
 |LtE=>
  have h:jy va vb (λc=>PV X.K H F Q (.bl c) G):=h;unfold jy at h;split at h
  ·have e1:x=.int _:=ra';have e2:y=.int _:=rb';subst e1;subst e2;obtain ⟨t,rfl⟩:=rx;obtain ⟨t',rfl⟩:=ry;exact le_int (fin _ h)
  ·obtain ⟨e1,_⟩:=ra';obtain ⟨e2,_⟩:=rb';subst e1;subst e2;obtain ⟨t,rfl⟩:=rx;obtain ⟨t',rfl⟩:=ry;exact PySem.P.le_str (fin _ h)
  ·exact h.elim
 |Gt=>
  have h:jz va vb (λc=>PV X.K H F Q (.bl c) G):=h;unfold jz at h;split at h
  ·have e1:x=.int _:=ra';have e2:y=.int _:=rb';subst e1;subst e2;obtain ⟨t,rfl⟩:=rx;obtain ⟨t',rfl⟩:=ry;exact gt_int (fin _ h)
  ·exact h.elim
 |GtE=>
  have h:jA va vb (λc=>PV X.K H F Q (.bl c) G):=h;unfold jA at h;split at h
  ·have e1:x=.int _:=ra';have e2:y=.int _:=rb';subst e1;subst e2;obtain ⟨t,rfl⟩:=rx;obtain ⟨t',rfl⟩:=ry;exact ge_int (fin _ h)
  ·exact h.elim
 |Is=>
  have h:jC va vb (λc=>PV X.K H F Q (.bl c) G):=h;unfold jC at h;split at h
  ·have e2:y=.non:=rb';subst e2;have q:∀c,(c=decide (x=.non))->PV X.K H F Q (.bl c) G->wpAny (model X.prog X.w) X.A (compareOp .Is v u) (EP X pins σ Q) X.xe s:=λc e q=>
    V5 pins s σ H _ _ v u Q I rx ry ⟨rfl,by rw[<-e];exact q.now r rfl⟩
   refine q _ ?_ h;have:jB va=decide (x=.non):=by
    cases va with
    |non=>have e1:x=.non:=ra';subst e1;rfl
    |bl _=>have e1:x=.bl _:=ra';subst e1;rfl
    |int _=>have e1:x=.int _:=ra';subst e1;rfl
    |str _=>obtain ⟨e1,_⟩:=ra';subst e1;rfl
    |tup _=>obtain ⟨_,_,e1,_⟩:=ra';subst e1;rfl
    |lst _=>obtain ⟨_,_,e1,_⟩:=ra';subst e1;rfl
    |ref _=>have e1:x=.ref _:=ra';subst e1;rfl
    |scr _=>obtain ⟨_,e1,_⟩:=ra';subst e1;rfl
    |exn _=>obtain ⟨_,_,e1,_⟩:=ra';subst e1;rfl
    |obj _ _ _=>obtain ⟨_,_,_,e1,_⟩:=ra';subst e1;rfl
   rw[this]
  ·split at h
   ·have e1:x=.bl _:=ra';have e2:y=.bl _:=rb';subst e1;subst e2;exact Yi pins s σ H _ _ v u Q I rx ry ⟨_,_,rfl,rfl,h.now r rfl⟩
   ·exact h.elim
  ·exact h.elim
 |IsNot=>
  have h:jD va vb (λc=>PV X.K H F Q (.bl c) G):=h;unfold jD at h;split at h
  ·have e2:y=.non:=rb';subst e2;have q:∀c,(c=!decide (x=.non))->PV X.K H F Q (.bl c) G->wpAny (model X.prog X.w) X.A (compareOp .IsNot v u) (EP X pins σ Q) X.xe s:=λc e q=>
    V6 pins s σ H _ _ v u Q I rx ry ⟨rfl,by rw[<-e];exact q.now r rfl⟩
   refine q _ ?_ h;have:jB va=decide (x=.non):=by
    cases va with
    |non=>have e1:x=.non:=ra';subst e1;rfl
    |bl _=>have e1:x=.bl _:=ra';subst e1;rfl
    |int _=>have e1:x=.int _:=ra';subst e1;rfl
    |str _=>obtain ⟨e1,_⟩:=ra';subst e1;rfl
    |tup _=>obtain ⟨_,_,e1,_⟩:=ra';subst e1;rfl
    |lst _=>obtain ⟨_,_,e1,_⟩:=ra';subst e1;rfl
    |ref _=>have e1:x=.ref _:=ra';subst e1;rfl
    |scr _=>obtain ⟨_,e1,_⟩:=ra';subst e1;rfl
    |exn _=>obtain ⟨_,_,e1,_⟩:=ra';subst e1;rfl
    |obj _ _ _=>obtain ⟨_,_,_,e1,_⟩:=ra';subst e1;rfl
   rw[this]
  ·split at h
   ·have e1:x=.bl _:=ra';have e2:y=.bl _:=rb';subst e1;subst e2;exact Yo pins s σ H _ _ v u Q I rx ry ⟨_,_,rfl,rfl,h.now r rfl⟩
   ·exact h.elim
  ·exact h.elim
 |In=>
  have h:fK va vb (λc=>PV X.K H F Q (.bl c) G):=h;unfold fK at h;split at h
  ·split at h
   ·obtain ⟨e1,_⟩:=ra';obtain ⟨e2,_⟩:=rb';subst e1;subst e2;obtain ⟨t,rfl⟩:=rx;obtain ⟨t',rfl⟩:=ry;exact in_str (by rw[Ep];exact fin _ h)
   ·exact h.elim
  ·obtain ⟨hh,q⟩:=h;obtain ⟨p,vs,e2,q2,t⟩:=rb';subst e2;cases ry;obtain ⟨its,rv,pl,hz⟩:=I.list q2.sq;obtain ⟨e,he,hany⟩:=hin _ (λ_=>True) hh t rv;refine SeqAt.in_listAt e pl.isList (λw hw=>he w (by simpa using hw)) ?_;rw[show its.toArray.any e=its.any e by simp,hany];exact fin _ q
  ·obtain ⟨hh,q⟩:=h;obtain ⟨p,vs,e2,q2,t⟩:=rb';subst e2;cases ry;obtain ⟨its,rv,pl,hz⟩:=I.tuple q2.sq;obtain ⟨e,he,hany⟩:=hin _ (λ_=>True) hh t rv;refine SeqAt.in_tupleAt e pl (λw hw=>he w (by simpa using hw)) ?_;rw[show its.toArray.any e=its.any e by simp,hany];exact fin _ q
  ·exact h.elim
 |NotIn=>
  have h:fK va vb (λc=>PV X.K H F Q (.bl (!c)) G):=h;unfold fK at h;split at h
  ·split at h
   ·obtain ⟨e1,_⟩:=ra';obtain ⟨e2,_⟩:=rb';subst e1;subst e2;obtain ⟨t,rfl⟩:=rx;obtain ⟨t',rfl⟩:=ry;exact notIn_str (by rw[Ep];exact fin _ h)
   ·exact h.elim
  ·obtain ⟨hh,q⟩:=h;obtain ⟨p,vs,e2,q2,t⟩:=rb';subst e2;cases ry;obtain ⟨its,rv,pl,hz⟩:=I.list q2.sq;obtain ⟨e,he,hany⟩:=hin _ (λ_=>True) hh t rv;refine SeqAt.notIn_listAt e pl.isList (λw hw=>he w (by simpa using hw)) ?_;rw[show its.toArray.any e=its.any e by simp,hany];exact fin _ q
  ·obtain ⟨hh,q⟩:=h;obtain ⟨p,vs,e2,q2,t⟩:=rb';subst e2;cases ry;obtain ⟨its,rv,pl,hz⟩:=I.tuple q2.sq;obtain ⟨e,he,hany⟩:=hin _ (λ_=>True) hh t rv;refine SeqAt.notIn_tupleAt e pl (λw hw=>he w (by simpa using hw)) ?_;rw[show its.toArray.any e=its.any e by simp,hany];exact fin _ q
  ·exact h.elim
end
section
variable {X:Cx}
def ZR(K:PF):R2:=λx y H Q=>∃F G a b,R K H F G/\Rep K H F a x/\Rep K H F b y/\bZ (view G a) b (λd=>PV K H F Q d G)
theorem Er{K:PF}{H:Hp}{F:FZ}{ds:List D}{vs:List V}{i:Int}{d:D}(t:Reps K H F ds vs)(h:atI ds i=some d):∃v,atI vs i=some v/\Rep K H F d v:=by
 unfold atI at h ⊢;rw[<-t.length];cases e:ixN ds.length i with
 |none=>rw[e]at h;cases h
 |some j=>
  rw[e]at h;obtain ⟨v,e1,r⟩:=t.get (show ds[j]?=some d from h);exact ⟨v,e1,r⟩
theorem ZS:IxR X (ZR X.K):=by
 intro value slice pins s σ H x y v u Q I rx ry h hs;obtain ⟨F,G,a,b,r,ra,rb,h⟩:=h;generalize ea:view G a=va at h;unfold bZ at h;split at h
 ·obtain ⟨p,vs,e,q,t⟩:=Rep.list r ra ea;subst e;have e2:y=.int _:=rb;subst e2;split at h
  ·rename_i d hd;obtain ⟨w,hw,rw'⟩:=Er t hd;exact Xe value slice pins s σ H _ _ v u Q I rx ry ⟨p,vs,_,w,rfl,rfl,q,hw,h.now r rw'⟩ hs
  ·exact h.elim
 ·cases gw ea;obtain ⟨p,vs,e,q,t⟩:=ra;subst e;have e2:y=.int _:=rb;subst e2;split at h
  ·rename_i d hd;obtain ⟨w,hw,rw'⟩:=Er t hd;exact Xf value slice pins s σ H _ _ v u Q I rx ry ⟨p,vs,_,w,rfl,rfl,q.sq,hw,h.now r rw'⟩ hs
  ·exact h.elim
 ·cases gA ea;obtain ⟨e,hl⟩:=ra;subst e;have e2:y=.int _:=rb;subst e2;split at h
  ·rename_i c hc;exact Xg value slice pins s σ H _ _ v u Q I rx ry ⟨_,_,c,rfl,rfl,by rw[bM];exact cT hl,hc,h.now r ⟨rfl,by show 1<=sz;decide⟩⟩ hs
  ·exact h.elim
 ·exact h.elim
theorem ZV(l:List Nat)(lo hi:Option Int):Txt.slice (tx l) lo hi=tx (cut l lo hi):=by
 have e:Builtin.Str.strSliceIndices lo hi 1 (tx l).length=sliceRange (sliceBounds lo hi none (tx l).length).1 (sliceBounds lo hi none (tx l).length).2.1 1:=by unfold Builtin.Str.strSliceIndices sliceBounds;cases lo <;> cases hi <;> rfl
 obtain ⟨h1,h2,h3⟩:=Cp lo hi (tx l).length;rw[h1,h2,sliceRange_one]at e;have e2:((Builtin.Str.strSliceIndices lo hi 1 (tx l).length).filterMap ((tx l).cps[·]?))=cut l lo hi:=by rw[e,pick_run];unfold cut;rw[bM]
 unfold Txt.slice;split
 ·rename_i hh;rw[ae]at hh;have hl:=eq_of_beq hh.2;rw[e,al,List.length_range,bM]at hl;have b1:HT.sIx l.length l.length hi<=l.length:=HT.Cd _ _ (aE _) hi;unfold cut;by_cases hz:l=[]
  ·subst hz;simp
  ·have hp:0 < l.length:=List.length_pos_iff.mpr hz;have e3:HT.sIx l.length 0 lo=0:=by omega
   have e4:HT.sIx l.length l.length hi=l.length:=by omega
   rw[e3,e4];simp
 ·rw[e2]
theorem ZW{α:Type}(xs:List α)(lo hi:Option Int):(cut xs lo hi).length<=xs.length:=by unfold cut;rw[ci,ce];omega
theorem ZX{prog:Program}{w:World}{A:Around}{E:Value->Shared->Prop}{s:Shared}{t sl:Addr}{items:Array Value}{vl vu:Value}{lo hi:Option Int}{Q:Value->Shared->Prop}(ht:IsTup s.heap t items)(hs:s.heap.IsSliceOf sl vl vu .none)(pl:IsPart vl lo)(pu:IsPart vu hi)
  (hw:HT.sIx items.size 0 lo=0/\HT.sIx items.size items.size hi=items.size) (h:Q (.ref t) s):wpAny (model prog w) A (getItem (.ref t) (.ref sl)) Q E s:=by
 obtain ⟨os,hos,hcs,hds⟩:=id hs;have hTs:s.TypeIs (.ref sl) "slice":=⟨os,hos,hcs⟩;unfold getItem;try with_reducible refine e8 ?_
 first |refine ag (a7 ?_) |skip
 refine ag (wpAny_sequenceKey ht.typeIs (by decide) ?_);refine ag (fb (name:=Str.ofString "__getitem__") ht.typeIs eS
  (gu eS ht.typeIs entry_tuple_getitem ?_ (args_tuple_getitem _ _)))
 show wpAny _ _ (Builtin.Tuple.tupleItemsOf (.ref t) >>= _) _ _ s;refine ag (tupleItemsOf_ ht ?_);refine ag (wpAny_typeOf hTs ?_);rw[if_pos (by decide)];refine ag (HT.Ci hs pl pu ?_);have hyes:(((HT.sIx items.size 0 lo:Nat):Int)==0&&(1:Int)==1&&(HT.sIx items.size items.size hi - HT.sIx items.size 0 lo)==items.size)=true:=by rw[hw.1,hw.2];simp
 show wpAny _ _ (if (((HT.sIx items.size 0 lo:Nat):Int)==0&&(1:Int)==1&&(HT.sIx items.size items.size hi - HT.sIx items.size 0 lo)==items.size)=true then _ else _) _ _ s;rw[if_pos hyes];refine ag (m:=Builtin.Tuple.tupleIsExact _) (ag (wpAny_typeOf ht.typeIs (a7 ?_)));rw[if_pos (by decide)];exact ag (gs (a7 ⟨_,rfl,a7 h⟩))
theorem ZZ:SlR X (λx lo hi H Q=>∃a xs,x=.ref a/\SqT X.K H a xs/\(HT.sIx xs.length 0 lo=0/\HT.sIx xs.length xs.length hi=xs.length)/\Q (.ref a) H):=by
 intro pins s σ H x v vl vu lo hi sl Q I rx hs pl pu h;obtain ⟨a,xs,rfl,hx,hw,q⟩:=h;cases rx;obtain ⟨its,r,ht,hz⟩:=I.tuple hx;have hlen:its.toArray.size=xs.length:=by rw[am];exact r.length.symm
 exact ⟨"tuple",_,eS.lookup,ht.typeIs,ZX ht hs pl pu (by rw[hlen];exact hw) ⟨.ref a,H,I,rfl,q⟩⟩
theorem Es{K:PF}{H:Hp}{F:FZ}:∀ns:List Int,Reps K H F (ns.map D.int) (ns.map V.int)
 |[]=>rfl
 |n::ns=>⟨_,_,rfl,rfl,Es ns⟩
noncomputable def Z0(K:PF)(fz:Bool):V->Option Int->Option Int->Hp->VK->Prop:=λx lo hi H Q=>∃F G a,R K H F G/\Rep K H F a x/\dN fz (view G a) lo hi G (PV K H F Q)
theorem Et{K:PF}{H:Hp}{F:FZ}{ds:List D}{vs:List V}(t:Reps K H F ds vs)(lo hi:Option Int):Reps K H F (cut ds lo hi) (dI vs lo hi):=t.cut lo hi
theorem Z1(fz:Bool):SlR X (Z0 X.K fz):=by
 intro pins s σ H x v vl vu lo hi sl Q I rx hs pl pu h;obtain ⟨F,G,a,r,ra,h⟩:=h;generalize ea:view G a=va at h;unfold dN at h;split at h
 ·obtain ⟨p,vs,e,q,t⟩:=Rep.list r ra ea;subst e;exact Cq pins s σ H _ v vl vu lo hi sl Q I rx hs pl pu ⟨p,vs,rfl,q,fQ h r (Et t lo hi)⟩
 ·rename_i ns;have ea':a=.scr ns:=by
   cases a with
   |ref p=>
    unfold view at ea;cases g:G p with
    |none=>simp only[g]at ea;cases ea
    |some o=>cases o;simp only[g]at ea;cases ea
   |_=>exact ea
  subst ea';obtain ⟨p,e,q⟩:=ra;subst e;refine Cq pins s σ H _ v vl vu lo hi sl Q I rx hs pl pu ⟨p,_,rfl,q.sq,fQ h r ?_⟩;have e2:dI (ns.map V.int) lo hi=(cut ns lo hi).map V.int:=by unfold dI cut;rw[al,List.map_take,List.map_drop]
  rw[e2];exact Es (cut ns lo hi)
 ·cases gw ea;obtain ⟨p,vs,e,q,t⟩:=id ra;subst e;by_cases hw:HT.sIx vs.length 0 lo=0/\HT.sIx vs.length vs.length hi=vs.length
  ·refine ZZ pins s σ H _ v vl vu lo hi sl Q I rx hs pl pu ⟨p,vs,rfl,q.sq,hw,?_⟩;refine h.now r ?_;rename_i ds;have:cut ds lo hi=ds:=by
    unfold cut;rw[t.length,hw.1,hw.2];simp[<-t.length]
   rw[this];exact ra
  ·exact W7 pins s σ H _ v vl vu lo hi sl Q I rx hs pl pu ⟨p,vs,rfl,q.sq,hw,lJ h r (Et t lo hi)⟩
 ·cases gA ea;obtain ⟨e,hl⟩:=ra;subst e;refine Yl pins s σ H _ v vl vu lo hi sl Q I rx hs pl pu ⟨_,rfl,by rw[bM];exact cT hl,?_⟩;rw[ZV];exact h.now r ⟨rfl,cw (ZW _ _ _) hl⟩
 ·exact h.elim
theorem Eu{K:PF}{H:Hp}{F:FZ}{G:DH}{d:D}{v:V}{b:Bool}(r:R K H F G)(h:Rep K H F d v)(e:truth (view G d)=some b):qu K v H b:=by
 have h':=tR r h;generalize view G d=w at e h';cases w with
 |non=>have e1:v=.non:=h';subst e1;simp only[truth,aS]at e;exact e.symm
 |bl x=>have e1:v=.bl x:=h';subst e1;simp only[truth,aS]at e;exact e.symm
 |int i=>have e1:v=.int i:=h';subst e1;simp only[truth,aS]at e;exact e.symm
 |str l=>
  obtain ⟨e1,hl⟩:=h';subst e1;simp only[truth,aS]at e;refine ⟨by rw[bM];exact cT hl,?_⟩;rw[bM,<-e];cases l with
  |nil=>rfl
  |cons c l=>simp;omega
 |tup l=>
  obtain ⟨a,vs,e1,q,t⟩:=h';subst e1;simp only[truth,aS]at e;refine .inr (.inl ⟨vs,q.sq,?_⟩);rw[<-e];cases l with
  |nil=>have t:vs=[]:=t;subst t;rfl
  |cons c l=>obtain ⟨_,_,e2,_⟩:=t;subst e2;rfl
 |lst l=>
  obtain ⟨a,vs,e1,q,t⟩:=h';subst e1;simp only[truth,aS]at e;refine .inl ⟨vs,q.sq,?_⟩;rw[<-e];cases l with
  |nil=>have t:vs=[]:=t;subst t;rfl
  |cons c l=>obtain ⟨_,_,e2,_⟩:=t;subst e2;rfl
 |ref a=>simp[truth]at e
 |scr a=>simp[truth]at e
 |exn a=>simp[truth]at e
 |obj _ _ _=>simp[truth]at e
theorem tU{K:PF}{H:Hp}{F:FZ}:∀{ds:List D}{vs:List V}{bs:List Bool},bools ds=some bs->Reps K H F ds vs->vs=bs.map V.bl
 |[],_,bs,e,h=>by
  simp only[bools,aS]at e;subst e;exact h
 |d::ds,_,bs,e,⟨v,w,e1,h,t⟩=>by
  cases d with
  |bl b=>
   simp only[bools]at e;cases q:bools ds with
   |none=>rw[q]at e;cases e
   |some s=>
    rw[q]at e;cases e;have hv:v=.bl b:=h;rw[e1,hv,tU q t];rfl
  |_=>simp[bools]at e
theorem bu{K:PF}{H:Hp}{F:FZ}{d:D}{vs:List V}(t:Reps K H F [d] vs):∃v,vs=[v]/\Rep K H F d v:=by obtain ⟨v,r,e,h,t⟩:=t;have t:r=[]:=t;subst t;exact ⟨v,e,h⟩
noncomputable def iC(K:PF)(f:Bf):List V->Hp->VK->Prop:=λvs H Q=>∃F G ds,R K H F G/\Reps K H F ds vs/\opB f (ds.map (view G)) (λd=>PV K H F Q d G)
theorem map_one{G:DH}{ds:List D}{x:D}(h:ds.map (view G)=[x]):∃d,ds=[d]/\view G d=x:=by
 match ds,h with
 |[d],h=>exact ⟨d,rfl,by simpa using h⟩
theorem Z2:bB X (.builtin "len") (iC X.K .len):=by
 intro pins s σ H xs us Q I rs h;obtain ⟨F,G,ds,r,t,h⟩:=h;generalize ea:ds.map (view G)=va at h;simp only[opB,wF]at h;split at h
 ·obtain ⟨d,rfl,ev⟩:=map_one ea;obtain ⟨v,rfl,rv⟩:=bu t;obtain ⟨a,vs,e,q,t'⟩:=Rep.list r rv ev;subst e;exact Cr pins s σ H _ us Q I rs ⟨a,vs,rfl,.inl q,by rw[<-t'.length];exact h.now r rfl⟩
 ·obtain ⟨d,rfl,ev⟩:=map_one ea;obtain ⟨v,rfl,rv⟩:=bu t;cases gw ev;obtain ⟨a,vs,e,q,t'⟩:=rv;subst e;exact Cr pins s σ H _ us Q I rs ⟨a,vs,rfl,.inr q.sq,by rw[<-t'.length];exact h.now r rfl⟩
 ·obtain ⟨d,rfl,ev⟩:=map_one ea;obtain ⟨v,rfl,rv⟩:=bu t;cases gA ev;obtain ⟨e,hl⟩:=rv;subst e;exact Xl pins s σ H _ us Q I rs ⟨_,rfl,by rw[bM];exact cT hl,by rw[bM];exact h.now r rfl⟩
 ·exact h.elim
theorem Z3 (hc:X.calm=true):bB X (.builtin "all") (iC X.K .all):=by
 intro pins s σ H xs us Q I rs h;obtain ⟨F,G,ds,r,t,h⟩:=h;generalize ea:ds.map (view G)=va at h;simp only[opB,qH]at h;split at h
 ·obtain ⟨d,rfl,ev⟩:=map_one ea;obtain ⟨v,rfl,rv⟩:=bu t;obtain ⟨a,vs,e,q,t'⟩:=Rep.list r rv ev;subst e;split at h
  ·rename_i bs hb;have e2:=tU hb t';subst e2;exact Yh hc pins s σ H _ us Q I rs ⟨a,bs,rfl,q,h.now r rfl⟩
  ·exact h.elim
 ·exact h.elim
theorem Z4:bB X (.type "int") (iC X.K .int):=by
 intro pins s σ H xs us Q I rs h;obtain ⟨F,G,ds,r,t,h⟩:=h;generalize ea:ds.map (view G)=va at h;simp only[opB,qI]at h;split at h
 ·obtain ⟨d,rfl,ev⟩:=map_one ea;obtain ⟨v,rfl,rv⟩:=bu t;cases Zv ev;have e:v=.bl _:=rv;subst e;exact Bw pins s σ H _ us Q I rs (.inr ⟨_,rfl,h.now r rfl⟩)
 ·obtain ⟨d,rfl,ev⟩:=map_one ea;obtain ⟨v,rfl,rv⟩:=bu t;cases dM ev;have e:v=.int _:=rv;subst e;exact Bw pins s σ H _ us Q I rs (.inl ⟨_,rfl,h.now r rfl⟩)
 ·obtain ⟨d,rfl,ev⟩:=map_one ea;obtain ⟨v,rfl,rv⟩:=bu t;cases gA ev;obtain ⟨e,hl⟩:=rv;subst e;split at h
  ·rename_i n hn;exact Yj pins s σ H _ us Q I rs ⟨_,n,rfl,hn,by rw[bM];exact h.1,h.2.now r rfl⟩
  ·exact h.elim
 ·exact h.elim
theorem Z5:bB X (.type "tuple") (iC X.K .tuple):=by
 intro pins s σ H xs us Q I rs h;obtain ⟨F,G,ds,r,t,h⟩:=h;generalize ea:ds.map (view G)=va at h;simp only[opB,wG]at h;split at h
 ·obtain ⟨d,rfl,ev⟩:=map_one ea;obtain ⟨v,rfl,rv⟩:=bu t;obtain ⟨a,vs,e,q,t'⟩:=Rep.list r rv ev;subst e;exact Cv pins s σ H _ us Q I rs ⟨a,vs,rfl,.inl ⟨q,lJ h r t'⟩⟩
 ·obtain ⟨d,rfl,ev⟩:=map_one ea;obtain ⟨v,rfl,rv⟩:=bu t;cases gw ev;obtain ⟨a,vs,e,q,t'⟩:=id rv;subst e;exact Cv pins s σ H _ us Q I rs ⟨a,vs,rfl,.inr ⟨q.sq,h.now r rv⟩⟩
 ·exact h.elim
noncomputable def Ew(K:PF)(fz:Bool)(f:Lf):List V->Hp->VK->Prop:=λvs H Q=>∃F G ds,R K H F G/\Reps K H F ds vs/\cM f (ds.map (view G)) (λxs=>mk fz xs G (PV K H F Q))
theorem Z6(l:List Nat):∀(us:List Value),us.length=l.length->(∀(j:Nat)(v:Value),us[j]?=some v->∃(c:Nat)(u:Tok),l[j]?=some c/\v=Value.str ⟨#[c]⟩ u)->Vals (l.map λc=>V.str (tx [c])) us:=by
 induction l with
 |nil=>intro us h _;cases us with |nil=>exact .nil |cons _ _=>cases h
 |cons c l ih=>
  intro us h q;cases us with
  |nil=>cases h
  |cons u us=>
   obtain ⟨c',t,e1,e2⟩:=q 0 u (by simp);have e1:c=c':=by simpa using e1
   subst e1;exact .cons ⟨t,e2⟩ (ih us (by simpa using h) λj v hv=>by simpa using q (j+1) v (by simpa using hv))
theorem Z7 (hc:X.calm=true):bB X (.type "list") (λxs H Q=>∃l:List Nat,xs=[.str (tx l)]/\l.length<=sizeLine/\∀p,H p=none->Q (.ref p) (upd H p (.lst (l.map λc=>V.str (tx [c]))))):=by
 intro pins s σ H xs us Q I r h;obtain ⟨l,rfl,hz,q⟩:=h;obtain ⟨u,rfl,t,rfl⟩:=vals1 r;have hz':(tx l).cps.size<=sizeLine:=by simpa using hz
 refine call_list_str (hn:=hz') (I.ok.hd hc) (tx l) t λh' tk acc' c' kp e hi=>?_;have hv:Vals (l.map λc=>V.str (tx [c])) acc'.toList:=by
  refine Z6 l _ ?_ λj v hv=>?_
  ·rw[dS,hi.1];simp
  ·obtain ⟨c,u,e1,e2⟩:=hi.2 j v (by rw[<-fh];exact hv);exact ⟨c,u,by simpa using e1,e2⟩
 exact ⟨.ref s.heap.objs.size,_,I.laid (t':=tk) kp (aE _) (show ObjOk X.prog X.w _ h' _ (.lst _) from ⟨by rw[al];exact hz,acc'.toList,c',hv,by rw[Array.toArray_toList];exact e⟩),rfl,q _ (I.hok.fresh (aE _))⟩
theorem xR{K:PF}{H:Hp}{F:FZ}:∀l:List Nat,Reps K H F (l.map λc=>D.str [c]) (l.map λc=>V.str (tx [c]))
 |[]=>rfl
 |c::l=>⟨_,_,rfl,⟨rfl,by show 1<=sz;decide⟩,xR l⟩
theorem Z8 (hc:X.calm=true) (fz:Bool):bB X (.type "list") (Ew X.K fz .list):=by
 intro pins s σ H xs us Q I rs h;obtain ⟨F,G,ds,r,t,h⟩:=h;generalize ea:ds.map (view G)=va at h;simp only[cM,wJ]at h;split at h
 ·obtain ⟨d,rfl,ev⟩:=map_one ea;obtain ⟨v,rfl,rv⟩:=bu t;obtain ⟨a,vs,e,q,t'⟩:=Rep.list r rv ev;subst e;exact Cu pins s σ H _ us Q I rs ⟨a,vs,rfl,.inl q,fQ h r t'⟩
 ·obtain ⟨d,rfl,ev⟩:=map_one ea;obtain ⟨v,rfl,rv⟩:=bu t;cases gw ev;obtain ⟨a,vs,e,q,t'⟩:=id rv;subst e;exact Cu pins s σ H _ us Q I rs ⟨a,vs,rfl,.inr q.sq,fQ h r t'⟩
 ·obtain ⟨d,rfl,ev⟩:=map_one ea;obtain ⟨v,rfl,rv⟩:=bu t;cases gA ev;obtain ⟨e,hl⟩:=rv;subst e;exact Z7 hc pins s σ H _ us Q I rs ⟨_,rfl,cT hl,fQ h r (xR _)⟩
 ·exact h.elim
theorem xT{K:PF}{H:Hp}{F:FZ}:∀{ds:List D}{vs:List V}{ls:List (List Nat)},bj ds=some ls->Reps K H F ds vs->vs=(ls.map tx).map V.str
 |[],_,bs,e,h=>by
  simp only[bj,aS]at e;subst e;exact h
 |d::ds,_,bs,e,⟨v,w,e1,h,t⟩=>by
  cases d with
  |str b=>
   simp only[bj]at e;cases q:bj ds with
   |none=>rw[q]at e;cases e
   |some s=>
    rw[q]at e;cases e;obtain ⟨hv,_⟩:=h;rw[e1,hv,xT q t];rfl
  |_=>simp[bj]at e
theorem Ey{K:PF}{H:Hp}{F:FZ}:∀{ds:List D}{vs:List V}{ns:List Int},b7 ds=some ns->Reps K H F ds vs->vs=ns.map V.int
 |[],vs,ns,e,t=>by
  simp only[b7,aS]at e;subst e;have t:vs=[]:=t;rw[t];rfl
 |d::ds,vs,ns,e,t=>by
  obtain ⟨v,r,e1,h,t⟩:=t;cases d with
  |int b=>
   simp only[b7]at e;cases q:b7 ds with
   |none=>rw[q]at e;cases e
   |some s=>
    rw[q]at e;cases e;have hv:v=.int b:=h;rw[e1,hv,Ey q t];rfl
  |_=>simp[b7]at e
theorem Ez:∀{ns:List Int}{its:List Value},Vals (ns.map V.int) its->IntsAre its ns
 |[],its,h=>by cases h;exact .nil
 |n::ns,its,h=>by
  cases h with
  |cons a b=>
   obtain ⟨t,rfl⟩:=a;exact .cons n t (Ez b)
theorem EY:∀{ls:List (List Nat)}{its:List Value},Vals ((ls.map tx).map V.str) its->StrsAre its (ls.map tx)
 |[],its,h=>by cases h;exact .nil
 |n::ns,its,h=>by
  cases h with
  |cons a b=>
   obtain ⟨t,rfl⟩:=a;exact .cons _ t (EY b)
theorem Fb{K:PF}{H:Hp}{F:FZ}:∀{ds:List D}{vs:List V}{ls:List (List Nat)},bj ds=some ls->Reps K H F ds vs->∀l∈ls,l.length<=sz
 |[],vs,ls,e,t=>by simp only[bj,aS]at e;subst e;intro l hl;cases hl
 |d::ds,vs,ls,e,t=>by
  obtain ⟨v,r,e1,h,t⟩:=t;cases d with
  |str b=>
   simp only[bj]at e;cases q:bj ds with
   |none=>rw[q]at e;cases e
   |some s=>
    rw[q]at e;cases e;intro l hl;rcases aI.mp hl with e |hl
    ·rw[e];exact h.2
    ·exact Fb q t l hl
  |_=>simp[bj]at e
theorem Fd(val:Nat->List Nat):∀k,argBest (λi j=>decide (val i < val j)) k<=k/\∀j,j<=k->¬val j < val (argBest (λi j=>decide (val i < val j)) k)
 |0=>⟨aE _,λj hj=>by
  have:j=0:=by omega
  subst this;exact List.lt_irrefl _⟩
 |k+1=>by
  obtain ⟨h1,h2⟩:=Fd val k;simp only[argBest];by_cases hc:val (k+1) < val (argBest (λi j=>decide (val i < val j)) k)
  ·rw[if_pos (by simpa using hc)];refine ⟨aE _,λj hj=>?_⟩;rcases Nat.lt_or_ge j (k+1) with hlt |hge
   ·exact λh=>h2 j (by omega) (List.lt_trans h hc)
   ·have:j=k+1:=by omega
    subst this;exact List.lt_irrefl _
  ·rw[if_neg (by simpa using hc)];refine ⟨by omega,λj hj=>?_⟩;rcases Nat.lt_or_ge j (k+1) with hlt |hge
   ·exact h2 j (by omega)
   ·have:j=k+1:=by omega
    subst this;exact hc
section
variable {prog:Program} {w:World} {A:Around} {E:Value->Shared->Prop} {s:Shared} {l:Addr}
theorem tV:∀{its:List Value}{ls:List (List Nat)}{i:Nat}{v:Value},StrsAre its (ls.map tx)->its[i]?=some v->∃t,v=.str (tx (ls.getD i [])) t
 |[],ls,i,v,_,h=>by simp at h
 |x::its,[],i,v,hs,h=>by cases hs
 |x::its,a::ls,0,v,hs,h=>by
  cases hs with
  |cons y t q=>exact ⟨t,by simpa using h.symm⟩
 |x::its,a::ls,i+1,v,hs,h=>by
  cases hs with
  |cons y t q=>
   have:=tV (i:=i) (v:=v) q (by simpa using h);simpa using this
theorem Z9{Q:Value->Shared->Prop}{its:List Value}{ls:List (List Nat)}(hh:A.handled=none)(hl:s.heap.IsList l its.toArray)(hs:StrsAre its (ls.map tx))(hn:its.length=ls.length)(hne:0 < ls.length)
  (h:∀(m:List Nat)(t:Tok)(h':Heap)(tk:Nat),m∈ls->(∀a,a∈ls->¬a < m)->(∀b o,s.heap.get? b=some o->h'.get? b=some o)->Q (.str (tx m) t) { s with heap:=h',toks:=tk }):
  wpAny (model prog w) A (call (.builtin "min") [.ref l]) Q E s:=by
 have hlt:l < s.heap.objs.size:=by obtain ⟨_,e,_⟩:=hl;exact ay e
 refine call_min_walk (wpAny_pyIter_list hl ?_);refine ⟨_,_,_,_,_,_,λi j=>decide (ls.getD i [] < ls.getD j []),rfl,Walks.list (A:=A.in1) hh _ l (bX hlt) its.toArray,⟨⟨_,bb _ rfl,rfl,rfl⟩,hl.push _⟩,?_,?_,?_,?_⟩
 ·intro b hb;show b < (s.heap.push _).objs.size;rw[dQ];rcases aI.mp hb with rfl |hb
  ·exact ge _
  ·rcases aI.mp hb with rfl |hb
   ·exact Nat.lt_succ_of_lt hlt
   ·cases hb
 ·simpa [hn] using hne
 ·intro i j vi vj s Q E hi hj h;obtain ⟨t,rfl⟩:=tV hs (by simpa using hi);obtain ⟨u,rfl⟩:=tV hs (by simpa using hj);exact richCompare_gives (op:=.Lt) (typeIs_str s _ t) (typeIs_str s _ u) F.slot_str_lt F.entry_str_lt (F.args_str_lt_2 _ _) (gives_str_lt _ _ t u) (λe=>nomatch e) h
 ·intro v h' tk hP hk;obtain ⟨t,rfl⟩:=tV hs (show its[_]?=some v by rw[<-List.getElem?_toArray];exact hP);obtain ⟨b1,b2⟩:=Fd (λi=>ls.getD i []) (its.toArray.size - 1);have hsz:its.toArray.size=ls.length:=by simpa using hn
  refine h _ t h' tk ?_ (λa ha=>?_) (old_kept hk)
  ·rw[ey,bn (by omega)];exact dP _
  ·obtain ⟨j,hj,rfl⟩:=List.getElem_of_mem ha;have:=b2 j (by omega);rwa [show ls.getD j []=ls[j] by rw[ey,bn hj];rfl]at this
end
theorem aaa (hc:X.calm=true):bB X (.builtin "min") (λxs H Q=>∃(p:Addr) (ns:List Int),xs=[.ref p]/\SqL X.K H p (ns.map V.int)/\ns≠[]/\∀m,m∈ns->(∀a,a∈ns->m<=a)->Q (.int m) H):=by
 intro pins s σ H xs us Q I r h;obtain ⟨p,ns,rfl,hq,hne,q⟩:=h;obtain ⟨u,rfl,ru⟩:=vals1 r;cases ru;obtain ⟨its,rv,pl,hz⟩:=I.list hq;have hi:=Ez rv;obtain ⟨xs,ex⟩:=hi.allInts.items;have hl:=pl.isList;rw[ex]at hl;have e1:xs.toList.map (·.1)=ns:=by rw[<-PySem.nums_intItems,<-ex];exact hi.numsOf
 have hsz:0 < xs.size:=by have:=List.length_pos_iff.mpr hne;rw[<-e1,al,dS]at this;exact this
 refine PySem.min_intList (I.ok.hd hc) hl hsz λv h' tk hv hk=>?_;obtain ⟨t,rfl⟩:=PySem.intItems_at hv;obtain ⟨b1,b2⟩:=PySem.argBest_lt (PySem.numAt xs) (xs.size - 1);refine ⟨.int _,H,I.kept hk,⟨t,rfl⟩,q _ ?_ λa ha=>?_⟩
 ·rw[<-e1,PySem.numAt_eq];exact PySem.getD_mem (by rw[al,dS];omega)
 ·rw[<-e1]at ha;obtain ⟨j,hj,rfl⟩:=PySem.mem_getD ha;rw[al,dS]at hj;rw[<-PySem.numAt_eq];exact b2 j (by omega)
theorem aab (hc:X.calm=true):bB X (.builtin "min") (λxs H Q=>∃(p:Addr) (ls:List (List Nat)),xs=[.ref p]/\SqL X.K H p ((ls.map tx).map V.str)/\ls≠[]/\∀m,m∈ls->(∀a,a∈ls->¬a < m)->Q (.str (tx m)) H):=by
 intro pins s σ H xs us Q I r h;obtain ⟨p,ls,rfl,hq,hne,q⟩:=h;obtain ⟨u,rfl,ru⟩:=vals1 r;cases ru;obtain ⟨its,rv,pl,hz⟩:=I.list hq;have hlen:its.length=ls.length:=by rw[<-rv.length];simp
 refine Z9 (I.ok.hd hc) pl.isList (EY rv) hlen (List.length_pos_iff.mpr hne) λm t h' tk h1 h2 hk=>?_;exact ⟨.str (tx m),H,I.kept hk,⟨t,rfl⟩,q m h1 h2⟩
theorem aac{ds:List D}{ls:List (List Nat)}(h0:b7 ds=none)(h1:bj ds=some ls):ls≠[]:=by
 rintro rfl;cases ds with
 |nil=>simp[b7]at h0
 |cons x y=>cases x <;> simp only[bj]at h1 <;> first | (cases h1;done) | (cases hd:bj y <;> rw[hd]at h1 <;> cases h1)
theorem aad (hc:X.calm=true):bB X (.builtin "min") (iC X.K .min):=by
 intro pins s σ H xs us Q I rs h;obtain ⟨F,G,ds,r,t,h⟩:=h;generalize ea:ds.map (view G)=va at h;simp only[opB,lz]at h;split at h
 ·obtain ⟨d,rfl,ev⟩:=map_one ea;obtain ⟨v,rfl,rv⟩:=bu t;obtain ⟨a,vs,e,q,t'⟩:=Rep.list r rv ev;subst e;split at h
  ·rename_i ns hb;have e2:=Ey hb t';subst e2;exact aaa hc pins s σ H _ us Q I rs ⟨a,ns,rfl,q,h.1,λm h1 h2=>(h.2 m h1 h2).now r rfl⟩
  ·split at h
   ·rename_i hb0 _ ls hb;have e2:=xT hb t';have hsz:=Fb hb t';subst e2;refine aab hc pins s σ H _ us Q I rs ⟨a,ls,rfl,q,?_,λm h1 h2=>(h m h1 h2).now r ⟨rfl,hsz m h1⟩⟩;exact aac (by assumption) hb
   ·exact h.elim
 ·exact h.elim
theorem aae:bootBuiltins "min"=some (.builtin "min"):=by ac_rfl
theorem aaf:bB X (.type "str") (iC X.K .str):=by
 intro pins s σ H xs us Q I r h;obtain ⟨F,G,ds,rr,t,h⟩:=h;generalize ea:ds.map (view G)=va at h;simp only[opB,wI]at h;split at h
 ·rename_i i;obtain ⟨d',rfl,ev⟩:=map_one ea;obtain ⟨v',rfl,rv⟩:=bu t;have e1:=dM ev;subst e1;have e2:v'=.int i:=rv;subst e2;obtain ⟨⟨h0,h1⟩,h2⟩:=h;have hm:(i.toNat:Int)=i:=Int.toNat_of_nonneg h0;have hl:(gC i.toNat).length<=3:=by
   have:=digits_le ⟨i.toNat,by omega⟩;unfold gC;rw[dS];exact this
  have hs:=h2.now rr (v:=.str (tx (gC i.toNat))) ⟨rfl,by have hz:sz=1000000:=rfl;omega⟩;have ht:tx (gC i.toNat)=ww i.toNat:=(v6 _).symm;rw[ht]at hs;exact Zc pins s σ H _ us Q I r ⟨i.toNat,by rw[hm],by omega,hs⟩
 ·exact h.elim
noncomputable def dD:D->Option String
 |.non=>some "NoneType"
 |.bl _=>some "bool"
 |.int _=>some "int"
 |.str _=>some "str"
 |.tup _=>some "tuple"
 |.lst _=>some "list"
 |_=>none
theorem aag{K:PF}{H:Hp}{F:FZ}{G:DH}{d:D}{v:V}{T:String}(r:R K H F G)(h:Rep K H F d v)(e:dD (view G d)=some T):TyOf K H v (.type T):=by
 have h':=tR r h;generalize view G d=w at e h';cases w with
 |non=>have e1:v=.non:=h';subst e1;simp only[dD,aS]at e;subst e;exact .non
 |bl x=>have e1:v=.bl x:=h';subst e1;simp only[dD,aS]at e;subst e;exact .bl x
 |int i=>have e1:v=.int i:=h';subst e1;simp only[dD,aS]at e;subst e;exact .int i
 |str l=>obtain ⟨e1,hl⟩:=h';subst e1;simp only[dD,aS]at e;subst e;exact .str _
 |tup l=>obtain ⟨a,vs,e1,q,t⟩:=h';subst e1;simp only[dD,aS]at e;subst e;exact .tup q.it
 |lst l=>obtain ⟨a,vs,e1,q,t⟩:=h';subst e1;simp only[dD,aS]at e;subst e;exact .lst q.2
 |ref a=>simp[dD]at e
 |scr a=>simp[dD]at e
 |exn a=>simp[dD]at e
 |obj _ _ _=>simp[dD]at e
def aah (K:PF):Prop:=∀T t:String,T∈["NoneType","bool","int","str","tuple","list"]->fL t=true->PySem.W.kitOne K (.type T) (.type t)=some (T==t||(T=="bool"&&t=="int"))
theorem aai{K:PF}:aah K:=by intro T t hT ht;simp only[aI,ft,or_false]at hT;simp only[fL,c8,ar]at ht;rcases hT with rfl |rfl |rfl |rfl |rfl |rfl <;> rcases ht with (((rfl |rfl) |rfl) |rfl) |rfl <;> (with_unfolding_all rfl)
theorem aaj {d:D} {t:String} {b:Bool} (e:isT t d=some b):∃T,dD d=some T/\T∈["NoneType","bool","int","str","tuple","list"]/\(fL t=true->b=(T==t||(T=="bool"&&t=="int"))):=by
 have comm:∀a b:String,(a==b)=(b==a):=λa b=>by rw[Bool.eq_iff_iff,ar,ar];exact ⟨Eq.symm,Eq.symm⟩
 cases d with
 |non=>
  refine ⟨"NoneType",rfl,by simp,λht=>?_⟩;simp only[isT,aS]at e;simp only[fL,c8,ar]at ht;subst e;rcases ht with (((rfl |rfl) |rfl) |rfl) |rfl <;> rfl
 |bl _=>
  refine ⟨"bool",rfl,by simp,λht=>?_⟩;simp only[isT,aS]at e;rw[<-e,comm t "bool"];rfl
 |int _=>
  refine ⟨"int",rfl,by simp,λht=>?_⟩;simp only[isT,aS]at e;rw[<-e,comm t "int"];simp
 |str _=>
  refine ⟨"str",rfl,by simp,λht=>?_⟩;simp only[isT,aS]at e;rw[<-e,comm t "str"];simp
 |tup _=>
  refine ⟨"tuple",rfl,by simp,λht=>?_⟩;simp only[isT,aS]at e;rw[<-e,comm t "tuple"];simp
 |lst _=>
  refine ⟨"list",rfl,by simp,λht=>?_⟩;simp only[isT,aS]at e;rw[<-e,comm t "list"];simp
 |ref a=>simp[isT]at e
 |scr a=>simp[isT]at e
 |exn a=>simp[isT]at e
 |obj _ _ _=>simp[isT]at e
theorem Fe(s:List Nat):∀ls:List (List Nat),Str.join (tx s) (ls.map tx)=tx (dO s ls)
 |[]=>rfl
 |[x]=>rfl
 |x::y::r=>by
  have ih:=Fe s (y::r);show tx x++tx s++Str.join (tx s) ((y::r).map tx)=_;rw[ih,qz,qz];rfl
theorem Ff(s:List Nat):∀ls:List (List Nat),(dO s ls).length<=(ls.map (·.length)).sum+ls.length * s.length
 |[]=>by simp[dO]
 |[x]=>by simp[dO]
 |x::y::r=>by
  have ih:=Ff s (y::r);simp only[dO,ax,bP,List.sum_cons,cK]at ih ⊢;have:(r.length+1+1) * s.length=(r.length+1) * s.length+s.length:=by rw[Nat.succ_mul]
  omega
noncomputable def iD(K:PF)(m:Mf):V->List V->Hp->VK->Prop:=λx vs H Q=>∃F G d ds,R K H F G/\Rep K H F d x/\Reps K H F ds vs/\opM m d ds G (PV K H F Q)
theorem aak:MtR X "str.join" (iD X.K .join):=by
 intro pins s σ H x xs v us Q I rx rs h;obtain ⟨F,G,d,ds,r,rd,t,h⟩:=h;simp only[opM]at h;generalize ea:ds.map (view G)=va at h;simp only[qK]at h;split at h
 ·obtain ⟨d',rfl,ev⟩:=map_one ea;obtain ⟨v',rfl,rv⟩:=bu t;obtain ⟨a,vs,e,q,t'⟩:=Rep.list r rv ev;subst e;obtain ⟨e1,hl⟩:=rd;subst e1;split at h
  ·rename_i ls hls;have e2:=xT hls t';subst e2;refine XX pins s σ H _ _ v us Q I rx rs ⟨_,a,_,rfl,rfl,q,?_,?_⟩
   ·have hz:=h.1;rw[List.map_map,al,bM,show (λx:Str=>x.length)∘tx=λl=>l.length from funext bM];have:sz=1000000:=rfl;omega
   ·rw[Fe];exact h.2.now r ⟨rfl,cw (Ff _ _) h.1⟩
  ·exact h.elim
 ·exact h.elim
theorem aal:MtM X "list.append" (iD X.K .append):=by
 intro pins s σ H x xs v us Q I rx rs h;obtain ⟨F,G,d,ds,r,rd,t,h⟩:=h;simp only[opM,qL]at h;split at h
 ·obtain ⟨v',rfl,rv⟩:=bu t;have e1:x=.ref _:=rd;subst e1;split at h
  ·rename_i ds0 hg;obtain ⟨vs,q,t'⟩:=r.lst hg;refine Xr pins s σ H _ _ v us Q I rx rs ⟨_,vs,v',rfl,rfl,q,?_,?_⟩
   ·rw[<-t'.length];exact ba h.1 szl
   ·exact h.2 _ _ _ (fJ r hg) (r.write hg (t'.append (Reps.cons rv Reps.nil))) rfl
  ·exact h.elim
 ·exact h.elim
theorem aam:MtR X "list.count" (iD X.K .count):=by
 intro pins s σ H x xs v us Q I rx rs h;obtain ⟨F,G,d,ds,r,rd,t,h⟩:=h;simp only[opM]at h;generalize ea:view G d=va at h;simp only[qO]at h;split at h
 ·obtain ⟨a,vs,e,q,t'⟩:=Rep.list r rd ea;subst e;obtain ⟨v',rfl,rv⟩:=bu t;have e2:v'=.bl true:=rv;subst e2;split at h
  ·rename_i bs hbs;have e3:=tU hbs t';subst e3;exact Y7 pins s σ H _ _ v us Q I rx rs ⟨a,bs,rfl,rfl,q,h.now r rfl⟩
  ·exact h.elim
 ·exact h.elim
theorem aan:MtR X "list.index" (iD X.K .index):=by
 intro pins s σ H x xs v us Q I rx rs h;obtain ⟨F,G,d,ds,r,rd,t,h⟩:=h;simp only[opM]at h;generalize ea:view G d=va at h;simp only[qP]at h;split at h
 ·obtain ⟨a,vs,e,q,t'⟩:=Rep.list r rd ea;subst e;obtain ⟨v',rfl,rv⟩:=bu t;have e2:v'=.bl true:=rv;subst e2;split at h
  ·rename_i bs hbs;have e3:=tU hbs t';subst e3;exact Y9 pins s σ H _ _ v us Q I rx rs ⟨a,bs,rfl,rfl,q,h.1,h.2.now r rfl⟩
  ·exact h.elim
 ·exact h.elim
noncomputable def aao:V->List V->Hp->VK->Prop:=λx vs H Q=>∃(l:Addr)(xs:List V)(i:Int)(y:V),x=.ref l/\vs=[.int i,y]/\H l=some (.lst xs)/\xs.length < sizeLine/\0<=i/\i<=1000000/\Q .non (upd H l (.lst (xs.take i.toNat++y::xs.drop i.toNat)))
theorem aap{its:List Value}{i:Int}{u:Value}(h:0<=i):(its.toArray.extract 0 (if i < 0 then (i+(its.toArray.size:Int)).toNat else min i.toNat its.toArray.size)).push u++its.toArray.extract (if i < 0 then (i+(its.toArray.size:Int)).toNat else min i.toNat its.toArray.size)=(its.take i.toNat++u::its.drop i.toNat).toArray:=by
 rw[if_neg (by omega),PySem.W.kl_ins_eq,am];by_cases hc:i.toNat<=its.length
 ·rw[Nat.min_eq_left hc]
 ·rw[Nat.min_eq_right (by omega),eh (aE _),List.drop_of_length_le (aE _),eh (by omega),List.drop_of_length_le (by omega)]
theorem aaq{i:Int}(h0:0<=i)(h1:i<=1000000):¬(!Builtin.List.listFitsIndex i)=true:=by
 have:Builtin.List.listFitsIndex i=true:=by unfold Builtin.List.listFitsIndex;rw[ae];exact ⟨av (by omega),av (by omega)⟩
 rw[this];decide
theorem aar:MtM X "list.insert" aao:=by
 intro pins s σ H x vs v us Q I rx rv h;obtain ⟨l,xs,i,y,rfl,rfl,hH,hz,h0,h1,q⟩:=h;cases rx;cases rv with
 |cons r1 rv=>
  obtain ⟨t,rfl⟩:=r1;obtain ⟨u,rfl,ru⟩:=L2.Vals.one rv;obtain ⟨z,its,m,r,hl,e⟩:=I.lstM hH;refine fm PySem.F.slot_list_insert ⟨_,e,rfl⟩ PySem.F.entry_list_insert (PySem.F.args_list_insert_3 _ _ _) (PySem.AutoSeq1.list_insert_list_int_val_1 l its.toArray m i t u (aaq h0 h1) (by rw[am];omega)) ⟨e,?_⟩;refine ⟨.non,_,I.lset (its':=its.take i.toNat++u::its.drop i.toNat) hH e (aap h0) ((r.take _).append (.cons ru (r.drop _))) ?_,rfl,q⟩;rw[ax,cK,ci,ce];omega
theorem aas:MtM X "list.insert" (iD X.K .insert):=by
 intro pins s σ H x xs v us Q I rx rs h;obtain ⟨F,G,d,ds,r,rd,t,h⟩:=h;simp only[opM,qN]at h;split at h
 ·rename_i i y;obtain ⟨v1,r1,rfl,rv1,t⟩:=t;obtain ⟨v',rfl,rv⟩:=bu t;have e1:x=.ref _:=rd;subst e1;have e2:v1=.int i:=rv1;subst e2;split at h
  ·rename_i ds0 hg;obtain ⟨h1,h2,h3,h4⟩:=h;obtain ⟨vs,q,t'⟩:=r.lst hg;refine aar pins s σ H _ _ v us Q I rx rs ⟨_,vs,i,v',rfl,rfl,q,?_,h2,h3,?_⟩
   ·rw[<-t'.length];exact ba h1 szl
   ·exact h4 _ _ _ (fJ r hg) (r.write hg ((t'.take _).append (Reps.cons rv (t'.drop _)))) rfl
  ·exact h.elim
 ·exact h.elim
theorem aat:MtM X "list.pop" (iD X.K .pop):=by
 intro pins s σ H x xs v us Q I rx rs h;obtain ⟨F,G,d,ds,r,rd,t,h⟩:=h;simp only[opM,wK]at h;split at h
 ·rename_i i;obtain ⟨v',rfl,rv⟩:=bu t;have e1:x=.ref _:=rd;subst e1;have e2:v'=.int i:=rv;subst e2;split at h
  ·rename_i ds0 hg;obtain ⟨h1,h2,h3⟩:=h;obtain ⟨vs,q,t'⟩:=r.lst hg;split at h3
   ·rename_i y hy;obtain ⟨u,hu,ru⟩:=t'.get hy;have hlt:i.toNat < vs.length:=(aw.mp hu).1;refine Xz pins s σ H _ _ v us Q I rx rs ⟨_,vs,i,i.toNat,u,rfl,rfl,q,by omega,by omega,?_,hu,?_⟩
    ·unfold seqIndex?;have e3:¬i < 0:=by omega
     simp[e3];omega
    ·rw[List.eraseIdx_eq_take_drop_succ];rw[List.eraseIdx_eq_take_drop_succ]at h3;have rw2:=r.write hg ((t'.take i.toNat).append (t'.drop (i.toNat+1)));exact h3 _ _ _ (fJ r hg) rw2 (Rep.ext (fJ r hg) ru)
   ·exact h3.elim
  ·exact h.elim
 ·exact h.elim
noncomputable def aau(K:PF):V->List V->Hp->VK->Prop:=λx xs H Q=>∃F G d,R K H F G/\Rep K H F d x/\xs=[]/\gD d G (PV K H F Q)
theorem aav:MtM X "list.pop" (aau X.K):=by
 intro pins s σ H x xs v us Q I rx rs h;obtain ⟨F,G,d,r,rd,rfl,h⟩:=h;unfold gD at h;split at h
 ·have e1:x=.ref _:=rd;subst e1;split at h
  ·rename_i ds0 hg;obtain ⟨vs,q,t'⟩:=r.lst hg;split at h
   ·rename_i y hy;obtain ⟨u,hu,ru⟩:=t'.get hy;refine Xx pins s σ H _ _ v us Q I rx rs ⟨_,vs,u,rfl,rfl,q,by rw[<-t'.length];exact hu,?_⟩;rw[List.dropLast_eq_take];rw[List.dropLast_eq_take]at h;have e2:=t'.length;have rw2:=r.write hg (t'.take (ds0.length - 1));rw[<-e2];exact h _ _ _ (fJ r hg) rw2 (Rep.ext (fJ r hg) ru)
   ·exact h.elim
  ·exact h.elim
 ·exact h.elim
theorem aaw{K:PF}{H:Hp}{F:FZ}{G:DH}{d:D}{v:V}{ds:List D}(r:R K H F G)(h:Rep K H F d v)(e:view G d=.lst ds):∃a vs,v=.ref a/\H a=some (.lst vs)/\Reps K H F ds vs:=by
 cases d with
 |lst xs=>
  have e':D.lst xs=.lst ds:=e;cases e';obtain ⟨a,vs,e1,q,t⟩:=h;exact ⟨a,vs,e1,q.2,t⟩
 |ref p=>
  have hv:v=.ref p:=h;unfold view at e;cases g:G p with
  |none=>simp only[g]at e;cases e
  |some o=>
   cases o with
   |lst xs=>
    simp only[g]at e;cases e;obtain ⟨vs,q,t⟩:=r.lst g;exact ⟨p,vs,hv,q,t⟩
 |_=>cases (show _=D.lst ds from e)
theorem aax:MtM X "list.extend" (iD X.K .extend):=by
 intro pins s σ H x xs v us Q I rx rs h;obtain ⟨F,G,d,ds,r,rd,t,h⟩:=h;simp only[opM]at h;generalize ea:ds.map (view G)=va at h;simp only[qM]at h;split at h
 ·obtain ⟨d',rfl,ev⟩:=map_one ea;obtain ⟨v',rfl,rv⟩:=bu t;obtain ⟨b,vs2,e2,q2,t2⟩:=aaw r rv ev;subst e2;have e1:x=.ref _:=rd;subst e1;split at h
  ·rename_i ds0 hg;obtain ⟨vs,q,t'⟩:=r.lst hg;refine Xv pins s σ H _ _ v us Q I rx rs ⟨_,b,vs,vs2,rfl,rfl,q,q2,?_,?_⟩
   ·rw[<-t'.length,<-t2.length];exact Nat.le_of_lt (ba h.1 szl)
   ·exact h.2 _ _ _ (fJ r hg) (r.write hg (t'.append t2)) rfl
  ·exact h.elim
 ·exact h.elim
theorem aay:vN X (λo i x H Q=>∃F G a b c,R X.K H F G/\Rep X.K H F a o/\Rep X.K H F b i/\Rep X.K H F c x/\dU a b c G (λG'=>∀H' F',Ext H F H' F'->R X.K H' F' G'->Q H')):=by
 intro pins s σ H o i v ov iv u Q I ro ri rv h;obtain ⟨F,G,a,b,c,r,ra,rb,rc,h⟩:=h;unfold dU at h;split at h
 ·have e1:o=.ref _:=ra;have e2:i=.int _:=rb;subst e1;subst e2;split at h
  ·rename_i ds hg;obtain ⟨vs,q,t⟩:=r.lst hg;split at h
   ·rename_i j hj;refine set_list pins s σ H _ _ v ov iv u Q I ro ri rv ⟨_,vs,_,j,rfl,rfl,q,by rw[<-t.length];exact hj,?_⟩;exact h _ _ (fJ r hg) (r.write hg (t.set rc j))
   ·exact h.elim
  ·exact h.elim
 ·exact h.elim
theorem aaz(op:Operator):PIp X op (λx y H Q=>∃F G a b,R X.K H F G/\Rep X.K H F a x/\Rep X.K H F b y/\dz op a b (λd=>PV X.K H F Q d G)):=by
 intro pins s σ H x y v u Q I rx ry h;obtain ⟨F,G,a,b,r,ra,rb,h⟩:=h;unfold dz at h;split at h
 ·have e1:x=.int _:=ra;have e2:y=.int _:=rb;subst e1;subst e2;exact V2 pins s σ H _ _ v u Q I rx ry ⟨_,_,rfl,rfl,h.now r rfl⟩
 ·obtain ⟨e1,l1⟩:=ra;obtain ⟨e2,l2⟩:=rb;subst e1;subst e2;refine We pins s σ H _ _ v u Q I rx ry ⟨_,_,rfl,rfl,by rw[bM,bM];exact cT h.1,?_⟩;rw[qz];exact h.2.now r ⟨rfl,by rw[ax];exact h.1⟩
 ·have e1:x=.int _:=ra;have e2:y=.int _:=rb;subst e1;subst e2;exact V3 pins s σ H _ _ v u Q I rx ry ⟨_,_,rfl,rfl,h.now r rfl⟩
 ·exact h.elim
end
inductive SK where
 |lst (a:Addr) |tup (a:Addr) |str (x:Str) (t:Tok)
def SK.val:SK->Value
 |.lst a=>.ref a
 |.tup a=>.ref a
 |.str x t=>.str x t
def SK.cls:SK->String
 |.lst _=>"list_iterator"
 |.tup _=>"tuple_iterator"
 |.str x _=>strIterType x
def SK.obj(k:SK):Obj:={ cls:=.type k.cls,data:=.fields #[k.val,.int 0 0] }
def SK.pos(k:SK)(it:Addr)(i:Nat)(h:Heap):Prop:=∃o,h.get? it=some o/\o.cls=.type k.cls/\o.data=.fields #[k.val,.int i 0]
def SK.Sat(H:Hp)(vs:List V):SK->Prop
 |.lst a=>H a=some (.lst vs)
 |.tup a=>H a=some (.tup vs)
 |.str x _=>vs=x.cps.toList.map λc=>V.str ⟨#[c]⟩
def SK.No(e:Addr):SK->Prop
 |.lst a=>a≠e
 |.tup a=>a≠e
 |.str _ _=>True
theorem SK.Sat.no{H:Hp}{vs:List V}{k:SK}{e:Addr}(h:k.Sat H vs)(he:H e=none):k.No e:=by
 cases k with
 |lst a=>exact aU (show H a=some _ from h) he
 |tup a=>exact aU (show H a=some _ from h) he
 |str x t=>trivial
def SK.On(its:Array Value)(h:Heap):SK->Prop
 |.lst a=>h.IsList a its
 |.tup a=>h.IsTuple a its
 |.str _ _=>True
theorem SK.On.keeps{its:Array Value}{h h':Heap}{k:SK}(x:k.On its h)(kk:∀b o,k.val=.ref b->h.get? b=some o->h'.get? b=some o):k.On its h':=by
 cases k with
 |lst a=>obtain ⟨o,e,r⟩:=x;exact ⟨o,kk a o rfl e,r⟩
 |tup a=>obtain ⟨o,e,r⟩:=x;exact ⟨o,kk a o rfl e,r⟩
 |str _ _=>trivial
section
variable {prog:Program} {w:World} {A:Around} {E:Value->Shared->Prop} {s:Shared}
theorem SK.iter{k:SK}{its:Array Value}{Q:Value->Shared->Prop}(h:k.On its s.heap)(q:Q (.ref s.heap.objs.size) { s with heap:=s.heap.push k.obj }):wpAny (model prog w) A (pyIter k.val) Q E s:=by
 cases k with
 |lst a=>exact wpAny_pyIter_list h q
 |tup a=>exact wpAny_pyIter_tuple h q
 |str x t=>exact wpAny_pyIter_strU q
theorem SK.pos0{k:SK}{h:Heap}:k.pos h.objs.size 0 (h.push k.obj):=⟨_,bb _ rfl,rfl,rfl⟩
theorem SK.pos.keep{k:SK}{it:Addr}{i:Nat}{h h':Heap}(x:k.pos it i h)(kk:∀o,h.get? it=some o->h'.get? it=some o):k.pos it i h':=let ⟨o,e,r⟩:=x;⟨o,kk o e,r⟩
theorem aaA{it t:Addr}{i:Nat}{items}{x:Value}{Q:Value->Shared->Prop}(hit:s.heap.IsTupleIter it t i)
  (ht:s.heap.IsTuple t items) (hx:items[i]?=some x)
  (hQ:∀h',h'.IsTupleIter it t (i+1)->Heap.SameBut it s.heap h'->Q x { s with heap:=h' }):
  wpAny (model prog w) A (Builtin.SmallTypes.nextOf (.ref it)) Q E s:=by
 obtain ⟨o,ho,hc,hd⟩:=id hit;obtain ⟨ol,hol,_,nl,hdl⟩:=ht;unfold Builtin.SmallTypes.nextOf;refine ag (fb (name:=Str.ofString "__next__") hit.typeIs fy
  (gu fy hit.typeIs F.entry_tuple_iterator_next ?_ (F.args_tuple_iterator_next_1 _)))
 show wpAny _ _ (field (.ref it) 0 >>= _) _ _ s;refine ag (dA ho hd (x:=.ref t) rfl ?_);show wpAny _ _ (if (Value.ref t==Value.none)=true then _ else _) _ _ s;rw[if_neg (show ¬((Value.ref t==Value.none)=true) from bq)];show wpAny _ _ (field (.ref it) 1 >>= _) _ _ s;refine ag (dA ho hd (x:=.int i 0) rfl ?_);show wpAny _ _ (seqItems? (.ref t) >>= _) _ _ s;refine ag (eJ hol hdl ?_);simp only[ca,hx];refine ag (wpAny_setField ho hd (by simp) (a7 ⟨x,rfl,a7 (hQ _ ?_ (Heap.SameBut.update ..))⟩));exact ⟨_,Heap.get?_update_self _ ho (Obj.isFreed_of_fields (Obj.data_mapFields hd _)),(Obj.cls_mapFields ..).trans hc,by
  rw[Obj.data_mapFields hd];simp[rawInt]⟩
theorem aaB{it t:Addr}{i:Nat}{items}{Q:Value->Shared->Prop}(hh:A.handled=none)
  (hit:s.heap.IsTupleIter it t i) (ht:s.heap.IsTuple t items) (hx:items[i]?=none)
  (hE:∀h' e,Heap.ExtBut it s.heap h'->(∃o,h'.get? e=some o/\o.cls=.type "StopIteration")->E (.ref e) { s with heap:=h' }):
  wpAny (model prog w) A (Builtin.SmallTypes.nextOf (.ref it)) Q E s:=by
 obtain ⟨o,ho,hc,hd⟩:=id hit;obtain ⟨ol,hol,_,nl,hdl⟩:=ht;unfold Builtin.SmallTypes.nextOf;refine ag (fb (name:=Str.ofString "__next__") hit.typeIs fy
  (gu fy hit.typeIs F.entry_tuple_iterator_next ?_ (F.args_tuple_iterator_next_1 _)))
 show wpAny _ _ (field (.ref it) 0 >>= _) _ _ s;refine ag (dA ho hd (x:=.ref t) rfl ?_);show wpAny _ _ (if (Value.ref t==Value.none)=true then _ else _) _ _ s;rw[if_neg (show ¬((Value.ref t==Value.none)=true) from bq)];show wpAny _ _ (field (.ref it) 1 >>= _) _ _ s;refine ag (dA ho hd (x:=.int i 0) rfl ?_);show wpAny _ _ (seqItems? (.ref t) >>= _) _ _ s;refine ag (eJ hol hdl ?_);simp only[ca,hx];refine ag (gs (ag (wpAny_setField ho hd (by simp) ?_)));show wpAny _ _ (newExc (.type "StopIteration") [] >>= _) _ _ _;refine ag ?_;simp only[newExc,newTuple];refine ag (wpAny_newObj_type ?_ (by size_fits));refine ag (m:=firstArgMember _ _) (wpAny_of_eq (a:=Value.none) (by first |rfl | (simp only[firstArgMember];rfl)) ?_);refine wpAny_newObj_type ?_ (by size_fits);simp only[raiseNew];refine ag (wpAny_handled ?_);first |rw[show A.in1.handled=none from hh] |rw[hh]
 refine ag (a7 (wpAny_throw ?_));exact hE _ _ (((Heap.SameBut.update ..).extBut.push _).push _) ⟨_,bb _ rfl,rfl⟩
theorem aaC(hh:A.handled=none)(it l:Addr)(hne:l≠it)(items:Array Value):
  Draws prog w A it [it,l] items.size (λi v=>items[i]?=some v) (λi h=>h.IsTupleIter it l i/\h.IsTuple l items) where
 live:=λ_ _ st=>let ⟨o,ho,_⟩:=st.1;⟨o,ho⟩
 frame:=λ_ _ _ st hk=>⟨let ⟨o,e,r⟩:=st.1;⟨o,hk it (by simp) o e,r⟩,let ⟨o,e,r⟩:=st.2;⟨o,hk l (by simp) o e,r⟩⟩
 item:=λi s Q E hi st hQ=>by
  refine aaA st.1 st.2 (x:=items[i]) (by simp[hi]) λh' hit' hs'=>?_;exact hQ _ h' s.toks (by simp[hi]) ⟨hit',let ⟨o,e,r⟩:=st.2;⟨o,hs'.extBut l o hne e,r⟩⟩ hs'
 done:=λs Q E st hE=>aaB hh st.1 st.2 (by simp) hE
end
structure Drawn(P:Program)(w:World)(A:Around)(k:SK)(it:Addr)(i:Nat)(vs:List V)(h:Heap)(fp:List Addr)(Pd:Nat->Value->Prop)(S:Nat->Heap->Prop):Prop where
 D:Draws P w A it fp vs.length Pd S
 st:S i h
 val:∀j v,Pd j v->∃x,vs[j]?=some x/\RelV x v
 pos:∀j h,S j h->k.pos it j h
 fp:∀b∈fp,b=it\/k.val=.ref b
theorem drawn{X:Cx}{pins:List (Addr×Obj)}{σ:L2.St}{H:Hp}{s:Shared}{A:Around}(hh:A.handled=none)(I:Inv X pins σ H s){k:SK}{it:Addr}{i:Nat}{vs:List V}(sat:k.Sat H vs)(hit:H it=none)(p:k.pos it i s.heap):
  ∃fp Pd S,Drawn X.prog X.w A k it i vs s.heap fp Pd S:=by
 cases k with
 |lst a=>
  have sat:H a=some (.lst vs):=sat;obtain ⟨its,r,pl,_⟩:=I.list (SqL.of sat);refine ⟨[it,a],λj v=>its.toArray[j]?=some v,λj h=>h.IsListIter it a j/\h.IsList a its.toArray,?_,⟨p,pl.isList⟩,?_,λj h st=>st.1,?_⟩
  ·have D:=Draws.list (prog:=X.prog) (w:=X.w) hh it a (aU sat hit) its.toArray;rw[am,<-r.length]at D;exact D
  ·intro j v e;have e:its.toArray[j]?=some v:=e;have hj:j < vs.length:=by
    rw[r.length];have:=(fq.mp e).1;simpa using this
   obtain ⟨u,e2,r2⟩:=r.get (show vs[j]?=some vs[j] by simp[hj]);refine ⟨vs[j],by simp[hj],?_⟩;have:its[j]?=some v:=by simpa using e
   rw[this]at e2;cases e2;exact r2
  ·intro b hb;have hb:b=it\/b=a:=by simpa using hb
   rcases hb with e |e
   ·exact .inl e
   ·exact .inr (by rw[e];rfl)
 |tup a=>
  have sat:H a=some (.tup vs):=sat;obtain ⟨its,r,pl,_⟩:=I.tuple (SqT.of sat);refine ⟨[it,a],λj v=>its.toArray[j]?=some v,λj h=>h.IsTupleIter it a j/\h.IsTuple a its.toArray,?_,⟨p,pl⟩,?_,λj h st=>st.1,?_⟩
  ·have D:=aaC (prog:=X.prog) (w:=X.w) hh it a (aU sat hit) its.toArray;rw[am,<-r.length]at D;exact D
  ·intro j v e;have e:its.toArray[j]?=some v:=e;have hj:j < vs.length:=by
    rw[r.length];have:=(fq.mp e).1;simpa using this
   obtain ⟨u,e2,r2⟩:=r.get (show vs[j]?=some vs[j] by simp[hj]);refine ⟨vs[j],by simp[hj],?_⟩;have:its[j]?=some v:=by simpa using e
   rw[this]at e2;cases e2;exact r2
  ·intro b hb;have hb:b=it\/b=a:=by simpa using hb
   rcases hb with e |e
   ·exact .inl e
   ·exact .inr (by rw[e];rfl)
 |str x t=>
  have sat:vs=x.cps.toList.map λc=>V.str ⟨#[c]⟩:=sat;refine ⟨[it],λi v=>∃c u,x.cps[i]?=some c/\v=.str ⟨#[c]⟩ u,λi h=>h.IsStrIter it (strIterType x) x t i,?_,p,?_,λj h st=>st,?_⟩
  ·have D:=Yd (prog:=X.prog) (w:=X.w) hh it x t;have e:x.cps.size=vs.length:=by rw[sat,al,dS]
   rw[e]at D;exact D
  ·rintro j v ⟨c,u,e1,e2⟩;refine ⟨V.str ⟨#[c]⟩,?_,u,e2⟩;rw[sat,b9,fh,e1];rfl
  ·intro b hb;exact .inl (by simpa using hb)
def Jk(k:SK):It:=⟨λi H=>∃vs,k.Sat H vs/\i < vs.length,λi H x H'=>H'=H/\∀vs,k.Sat H vs->vs[i]?=some x,λi H=>∃vs,k.Sat H vs/\vs.length=i⟩
def Je(k:SK):It:=⟨λi H=>∃vs,k.Sat H vs/\i < vs.length,λi H x H'=>∃T y,H T=none/\x=.ref T/\H'=upd H T (.tup [.int i,y])/\∀vs,k.Sat H vs->vs[i]?=some y,λi H=>∃vs,k.Sat H vs/\vs.length=i⟩
theorem xU{H:Hp}{k:SK}{vs ws:List V}(h:k.Sat H vs)(h':k.Sat H ws):vs=ws:=by
 cases k with
 |lst a=>have e:=(show H a=some _ from h).symm.trans h';cases e;rfl
 |tup a=>have e:=(show H a=some _ from h).symm.trans h';cases e;rfl
 |str x t=>exact (show vs=_ from h).trans (show ws=_ from h').symm
theorem aaD{P:Program}{w:World}{K:PF}{elts:List Expr}{x1:Nat}{pos:Pos}(k:SK)(e it:Addr)(hne:e≠it):
  Turn P w K (.Tuple elts x1 pos) (Je k) [e,it] e (λi h=>(∃old,IsEnum h e it i old)/\k.pos it i h) where
 mem:=by simp
 obj:=λi h st b hb=>by
  obtain ⟨⟨old,he⟩,o,ho,c,d⟩:=st;have hb:b=e\/b=it:=by simpa using hb
  rcases hb with rfl |rfl
  ·exact ⟨_,he,λv z=>by have z':Data.fields _=Data.cell v:=z;cases z'⟩
  ·exact ⟨o,ho,λv z=>by rw[d]at z;cases z⟩
 keep:=λi h h' st kk=>⟨let ⟨old,he⟩:=st.1;⟨old,kk e (by simp) _ he⟩,st.2.keep λo ho=>kk it (by simp) o ho⟩
 item:=by
  intro X hP hw hK hc i pins s σ H E I hf st hg;subst hP hw hK;obtain ⟨vs,sat,hi⟩:=hg;obtain ⟨⟨old,he⟩,hit⟩:=st;have hfe:=hf e (by simp);have hfi:=hf it (by simp);obtain ⟨fp,Pd,S,Dr⟩:=drawn (A:=X.A.in1) (I.ok.hd hc) I sat hfi.1 hit;have helt:e < s.heap.objs.size:=ay he;have hef:e∉fp:=λhb=>by
   rcases Dr.fp e hb with z |z
   ·exact hne z
   ·have:=sat.no hfe.1;cases k with
    |lst a=>cases z;exact this rfl
    |tup a=>cases z;exact this rfl
    |str _ _=>cases z
  refine wpAny_pyNext_enum_itemD Dr.D he Dr.st hi hne hef λu h1 tk hu heo hit1 ht1 hz1 hk1=>?_;obtain ⟨x,hx,ru⟩:=Dr.val _ _ hu;refine ⟨_,rfl,?_⟩;refine wpAny_letOwnedTupleGo_enum heo λh2 he2 hs2=>?_;have hs2':Heap.SameBut e h1 h2:=hs2;have hn:H s.heap.objs.size=none:=I.hok.fresh (aE _);have k2:∀b o,b∉[e,it]->s.heap.get? b=some o->h2.get? b=some o:=λb o hb q=>by
   have hb':b≠e/\b≠it:=by simpa using hb
   exact hs2'.extBut b o hb'.1 (hk1 b o hb'.1 hb'.2 q)
  have I2:Inv X pins σ H { s with heap:=h2,toks:=tk+1 }:=I.turnedL hf k2;have ht2:h2.get? s.heap.objs.size=some { cls:=.type "tuple",data:=.seq #[.int i tk,u] }:=hs2'.extBut _ _ (fR helt) ht1;have ob:ObjOk X.prog X.w (upd H s.heap.objs.size (.tup [.int i,x])) h2 s.heap.objs.size (.tup [.int i,x]):=
   ⟨by rw[fT];simp,[.int i tk,u],.cons ⟨_,rfl⟩ (.cons ru .nil),⟨_,ht2,rfl,_,rfl⟩⟩
  have I3:=I2.track (I.fpOk (aE _) hn) ob;have nee:s.heap.objs.size≠e:=fR helt;have nei:s.heap.objs.size≠it:=by obtain ⟨o,ho,_⟩:=hit;exact fR (ay ho)
  refine ⟨.ref s.heap.objs.size,_,I3,rfl,⟨s.heap.objs.size,x,hn,rfl,rfl,λys hy=>by rw[xU hy sat];exact hx⟩,⟨⟨u,?_⟩,?_⟩,λb hb=>?_⟩
  ·show IsEnum h2 e it (((i+1:Nat)):Int) u;rw[show (((i+1:Nat):Int))=(i:Int)+1 by omega];exact he2
  ·exact (Dr.pos _ _ hit1).keep λo ho=>hs2'.extBut _ _ (Ne.symm hne) ho
  ·have hb':b=e\/b=it:=by simpa using hb
   rw[aG (by rcases hb' with rfl |rfl;exact Ne.symm nee;exact Ne.symm nei)];exact (hf b hb).1
 done:=by
  intro X hP hw hK hc i pins s σ H E I hf st hg;subst hP hw hK;obtain ⟨vs,sat,hi⟩:=hg;subst hi;obtain ⟨⟨old,he⟩,hit⟩:=st;have hfi:=hf it (by simp);obtain ⟨fp,Pd,S,Dr⟩:=drawn (A:=X.A.in1) (I.ok.hd hc) I sat hfi.1 hit;refine wpAny_pyNext_enum_endD Dr.D he Dr.st λh' eb=>⟨rfl,I.turnedL (t':=s.toks) hf λb o hb q=>?_⟩;have hb':b≠e/\b≠it:=by simpa using hb
  exact eb b o hb'.2 q
 self:=λA i s Q E st h=>by
  obtain ⟨⟨old,he⟩,_⟩:=st;exact wpAny_pyIter_enum he h
theorem aaE{P:Program}{w:World}{K:PF}{tg:Expr}(k:SK)(it:Addr):Turn P w K tg (Jk k) [it] it (λi h=>k.pos it i h) where
 mem:=by simp
 obj:=λi h st b hb=>by
  have e:b=it:=by simpa using hb
  subst e;obtain ⟨o,e,c,d⟩:=st;exact ⟨o,e,λv z=>by rw[d]at z;cases z⟩
 keep:=λi h h' st kk=>st.keep λo e=>kk it (by simp) o e
 item:=by
  intro X hP hw hK hc i pins s σ H E I hf st hg;obtain ⟨vs,sat,hi⟩:=hg;have hfi:=hf it (by simp);cases k with
  |lst a=>
   have sat':H a=some (.lst vs):=sat;refine cp ((Bp (tg:=tg) a it).item X hP hw hK hc i pins s σ H E I hf st ⟨vs,vs[i],SqL.of sat',by simp[hi]⟩) ?_ (λ_ _ e=>e);rintro r s1 ⟨u,hr,h1⟩;refine ⟨u,hr,cp h1 ?_ (λ_ _ e=>e)⟩;rintro _ s2 ⟨x,H',I',rx,⟨e1,e2⟩,st',fr⟩;exact ⟨x,H',I',rx,⟨e1,λws hw'=>e2 ws (SqL.of (show H a=some (.lst ws) from hw'))⟩,st',fr⟩
  |tup a=>
   have sat':H a=some (.tup vs):=sat;refine cp ((Bq (tg:=tg) a it).item X hP hw hK hc i pins s σ H E I hf st ⟨vs,vs[i],SqT.of sat',by simp[hi]⟩) ?_ (λ_ _ e=>e);rintro r s1 ⟨u,hr,h1⟩;refine ⟨u,hr,cp h1 ?_ (λ_ _ e=>e)⟩;rintro _ s2 ⟨x,H',I',rx,⟨e1,e2⟩,st',fr⟩;exact ⟨x,H',I',rx,⟨e1,λws hw'=>e2 ws (SqT.of (show H a=some (.tup ws) from hw'))⟩,st',fr⟩
  |str y t=>
   have sat':vs=y.cps.toList.map λc=>V.str ⟨#[c]⟩:=sat;have hlen:vs.length=y.cps.size:=by rw[sat',al,dS]
   refine cp ((vX (tg:=tg) it y t).item X hP hw hK hc i pins s σ H E I hf st (show i < y.cps.size by omega)) ?_ (λ_ _ e=>e);rintro r s1 ⟨u,hr,h1⟩;refine ⟨u,hr,cp h1 ?_ (λ_ _ e=>e)⟩;rintro _ s2 ⟨x,H',I',rx,⟨e1,c,e2,e3⟩,st',fr⟩;refine ⟨x,H',I',rx,⟨e1,λws hw'=>?_⟩,st',fr⟩;have hw':ws=y.cps.toList.map λc=>V.str ⟨#[c]⟩:=hw';rw[hw',e3,b9,fh,e2];rfl
 done:=by
  intro X hP hw hK hc i pins s σ H E I hf st hg;obtain ⟨vs,sat,hi⟩:=hg;cases k with
  |lst a=>exact (Bp (tg:=tg) a it).done X hP hw hK hc i pins s σ H E I hf st ⟨vs,SqL.of (show H a=some (.lst vs) from sat),by omega⟩
  |tup a=>exact (Bq (tg:=tg) a it).done X hP hw hK hc i pins s σ H E I hf st ⟨vs,SqT.of (show H a=some (.tup vs) from sat),by omega⟩
  |str y t=>
   have sat':vs=y.cps.toList.map λc=>V.str ⟨#[c]⟩:=sat;have hlen:vs.length=y.cps.size:=by rw[sat',al,dS]
   exact (vX (tg:=tg) it y t).done X hP hw hK hc i pins s σ H E I hf st (show i=y.cps.size by omega)
 self:=λA i s Q E st h=>by
  cases k with
  |lst a=>exact wpAny_pyIter_listiter st h
  |tup a=>exact wpAny_pyIter_tupleiter st h
  |str y t=>exact (vX (K:=K) (tg:=tg) it y t).self A i s Q E st h
open Builtin Builtin.Str
section
variable {prog:Program} {w:World} {A:Around} {E:Value->Shared->Prop} {s:Shared}
theorem aaF{z TI TO i1 i2:Addr}{k n1 n2:Nat}{fp1 fp2:List Addr}{P1 P2:Nat->Value->Prop}{S1 S2:Nat->Heap->Prop}{a b:Value}{Q:Value->Shared->Prop}(D:ZApart z TI TO i1 i2)
  (D1:Draws prog w A i1 fp1 n1 P1 S1) (D2:Draws prog w A i2 fp2 n2 P2 S2) (f1:∀c∈fp1,c≠z/\c≠TO/\c≠i2) (f2:∀c∈fp2,c≠z/\c≠TO/\c≠i1)
  (hz:IsZip s.heap z TI TO .none) (hTI:IsPair s.heap TI (.ref i1) (.ref i2)) (hTO:IsPair s.heap TO a b)
  (h1:S1 k s.heap) (h2:S2 k s.heap) (hx:k < n1) (hy:k < n2)
  (hQ:∀h' tk c d,P1 k c->P2 k d->IsZip h' z TI TO (rawInt s.heap.objs.size)->IsPair h' TO c d->S1 (k+1) h'->S2 (k+1) h'->
   IsPair h' s.heap.objs.size c d->h'.objs.size=s.heap.objs.size+1->
   (∀c o,c≠z->c≠TO->c≠i1->c≠i2->s.heap.get? c=some o->h'.get? c=some o)->Q (.ref s.heap.objs.size) { s with heap:=h',toks:=tk }):
  wpAny (model prog w) A (Builtin.«zip.__next__» ⟨[.ref z],[]⟩) (λfin s'=>∃v,fin=.done (.ret v)/\Q v s') E s:=by
 have e1:∀{h h':Heap}{c:Addr}{j:Nat},S1 j h->Heap.ExtBut c h h'->(∀b∈fp1,b≠c)->S1 j h':=λq e n=>D1.frame _ _ _ q λb hb o y=>e b o (n b hb) y;have e2:∀{h h':Heap}{c:Addr}{j:Nat},S2 j h->Heap.ExtBut c h h'->(∀b∈fp2,b≠c)->S2 j h':=λq e n=>D2.frame _ _ _ q λb hb o y=>e b o (n b hb) y;have z1:∀b∈fp1,b≠z:=λb hb=>(f1 b hb).1;have t1:∀b∈fp1,b≠TO:=λb hb=>(f1 b hb).2.1;have j1:∀b∈fp1,b≠i2:=λb hb=>(f1 b hb).2.2;have z2:∀b∈fp2,b≠z:=λb hb=>(f2 b hb).1;have t2:∀b∈fp2,b≠TO:=λb hb=>(f2 b hb).2.1;have j2:∀b∈fp2,b≠i1:=λb hb=>(f2 b hb).2.2;show wpAny _ _ (field (.ref z) 2 >>= _) _ _ _;refine ag (dA hz rfl (x:=.bool false) rfl ?_);show wpAny _ _ (field (.ref z) 3 >>= _) _ _ _;refine ag (dA hz rfl (x:=.ref TI) rfl ?_);refine ag (eJ hTI rfl ?_);show wpAny _ _ (Builtin.SmallTypes.ownedTupleIsFree (.ref z) >>= _) _ _ _;refine ag ?_;unfold Builtin.SmallTypes.ownedTupleIsFree;refine ag (dA hz rfl (x:=.none) rfl (a7 ?_));simp only[if_true];refine ag (gs ?_);refine ag (dA hz rfl (x:=.ref TO) rfl ?_);refine ag (eI hz (by simp) λh₁ hz₁ hs₁=>?_);replace hz₁:IsZip h₁ z TI TO .ellipsis:=hz₁;replace hs₁:Heap.SameBut z s.heap h₁:=hs₁;refine ag ?_;simp only[List.zipIdx_cons,List.zipIdx_nil,List.forIn_cons,List.forIn_nil];refine ag (ag (wpAny_onRaise ?_));show wpAny _ _ (Builtin.SmallTypes.nextOf (.ref i1) >>= _) _ _ _;refine ag (D1.item k _ _ _ hx (e1 h1 hs₁.extBut z1) λc h₂ tk₂ hc h1₂ hs₂=>a7 ?_);replace hs₂:Heap.SameBut i1 h₁ h₂:=hs₂;have hTO₂:IsPair h₂ TO a b:=hs₂.extBut _ _ D.TOi1 (hs₁.extBut _ _ D.TOz hTO);refine ag (eJ hTO₂ rfl ?_);refine ag (wpAny_updateSeq_pair hTO₂ λh₃ hTO₃ hs₃=>?_);replace hTO₃:IsPair h₃ TO c b:=hTO₃;replace hs₃:Heap.SameBut TO h₂ h₃:=hs₃;refine ag (wpAny_letGo (a7 ?_));refine ag (ag (wpAny_onRaise ?_));show wpAny _ _ (Builtin.SmallTypes.nextOf (.ref i2) >>= _) _ _ _;refine ag (D2.item k _ _ _ hy (e2 (e2 (e2 h2 hs₁.extBut z2) hs₂.extBut j2) hs₃.extBut t2) λd h₄ tk₄ hd h2₄ hs₄=>a7 ?_);replace hs₄:Heap.SameBut i2 h₃ h₄:=hs₄;have hTO₄:IsPair h₄ TO c b:=hs₄.extBut _ _ D.TOi2 hTO₃;refine ag (eJ hTO₄ rfl ?_);refine ag (wpAny_updateSeq_pair hTO₄ λh₅ hTO₅ hs₅=>?_);replace hTO₅:IsPair h₅ TO c d:=hTO₅;replace hs₅:Heap.SameBut TO h₄ h₅:=hs₅;refine ag (wpAny_letGo (a7 (a7 ?_)));refine ag (eJ hTO₅ rfl ?_);refine ag (wpAny_newTuple ?_);have hsz:h₅.objs.size=s.heap.objs.size:=by rw[hs₅.1,hs₄.1,hs₃.1,hs₂.1,hs₁.1]
 have hz₅:IsZip h₅ z TI TO .ellipsis:=hs₅.extBut _ _ D.TOz.symm (hs₄.extBut _ _ D.i2z.symm (hs₃.extBut _ _ D.TOz.symm (hs₂.extBut _ _ D.i1z.symm hz₁)));have hk₅:∀c o,c≠z->c≠TO->c≠i1->c≠i2->s.heap.get? c=some o->h₅.get? c=some o:=λc o c1 c2 c3 c4 e=>
  hs₅.extBut _ _ c2 (hs₄.extBut _ _ c4 (hs₃.extBut _ _ c2 (hs₂.extBut _ _ c3 (hs₁.extBut _ _ c1 e))))
 have h1₅:S1 (k+1) h₅:=e1 (e1 (e1 h1₂ hs₃.extBut t1) hs₄.extBut j1) hs₅.extBut t1;have h2₅:S2 (k+1) h₅:=e2 h2₄ hs₅.extBut t2;have hzlt:z < h₅.objs.size:=ay hz₅;show wpAny _ _ (Builtin.SmallTypes.ownedTupleHandOut (.ref z) (.ref h₅.objs.size) >>= _) _ _ _;refine ag ?_;unfold Builtin.SmallTypes.ownedTupleHandOut;have hz₆:IsZip (h₅.push { cls:=.type "tuple",data:=.seq #[c,d] }) z TI TO .ellipsis:=ah _ hz₅;refine ag (eI hz₆ (by simp) λh₇ hz₇ hs₇=>?_);replace hz₇:IsZip h₇ z TI TO (rawInt h₅.objs.size):=hz₇;refine eI hz₇ (by simp) λh₈ hz₈ hs₈=>?_;replace hz₈:IsZip h₈ z TI TO (rawInt h₅.objs.size):=hz₈;have up:∀c o,c≠z->h₅.get? c=some o->h₈.get? c=some o:=λc o c1 e=>hs₈.extBut _ _ c1 (hs₇.extBut _ _ c1 (ah _ e));have hT₈:IsPair h₈ h₅.objs.size c d:=hs₈.extBut _ _ (fR hzlt) (hs₇.extBut _ _ (fR hzlt) (bb _ rfl));have hz8:h₈.objs.size=h₅.objs.size+1:=by rw[hs₈.1,hs₇.1,dQ]
 rw[hsz]at hz₈ hT₈ hz8;refine a7 ⟨_,rfl,?_⟩;show Q (.ref h₅.objs.size) _;rw[hsz];exact hQ h₈ tk₄ c d hc hd hz₈ (up _ _ D.TOz hTO₅) (D1.frame _ _ _ h1₅ λb hb o y=>up b o (z1 b hb) y) (D2.frame _ _ _ h2₅ λb hb o y=>up b o (z2 b hb) y) hT₈ hz8 λc o c1 c2 c3 c4 e=>up c o c1 (hk₅ c o c1 c2 c3 c4 e)
theorem aaG{z TI TO i1 i2:Addr}{n1:Nat}{fp1:List Addr}{P1:Nat->Value->Prop}{S1:Nat->Heap->Prop}{a b:Value}{Q:Fin->Shared->Prop}(D:ZApart z TI TO i1 i2)
  (D1:Draws prog w A i1 fp1 n1 P1 S1) (f1:∀c∈fp1,c≠z)
  (hz:IsZip s.heap z TI TO .none) (hTI:IsPair s.heap TI (.ref i1) (.ref i2)) (hTO:IsPair s.heap TO a b) (h1:S1 n1 s.heap)
  (hE:∀h' e,(∀c o,c≠z->c≠TO->c≠i1->c≠i2->s.heap.get? c=some o->h'.get? c=some o)->(∃o,h'.get? e=some o/\o.cls=.type "StopIteration")->E (.ref e) { s with heap:=h' }):
  wpAny (model prog w) A (Builtin.«zip.__next__» ⟨[.ref z],[]⟩) Q E s:=by
 show wpAny _ _ (field (.ref z) 2 >>= _) _ _ _;refine ag (dA hz rfl (x:=.bool false) rfl ?_);show wpAny _ _ (field (.ref z) 3 >>= _) _ _ _;refine ag (dA hz rfl (x:=.ref TI) rfl ?_);refine ag (eJ hTI rfl ?_);show wpAny _ _ (Builtin.SmallTypes.ownedTupleIsFree (.ref z) >>= _) _ _ _;refine ag ?_;unfold Builtin.SmallTypes.ownedTupleIsFree;refine ag (dA hz rfl (x:=.none) rfl (a7 ?_));simp only[if_true];refine ag (gs ?_);refine ag (dA hz rfl (x:=.ref TO) rfl ?_);refine ag (eI hz (by simp) λh₁ hz₁ hs₁=>?_);replace hz₁:IsZip h₁ z TI TO .ellipsis:=hz₁;replace hs₁:Heap.SameBut z s.heap h₁:=hs₁;refine ag ?_;simp only[List.zipIdx_cons,List.zipIdx_nil,List.forIn_cons,List.forIn_nil];refine ag (ag (wpAny_onRaise ?_));show wpAny _ _ (Builtin.SmallTypes.nextOf (.ref i1) >>= _) _ _ _;refine ag (D1.done _ _ _ (D1.frame _ _ _ h1 λb hb o y=>hs₁.extBut b o (f1 b hb) y) λh₂ e hs₂ he=>?_);obtain ⟨oe,hoe,hce⟩:=he;have hz₂:IsZip h₂ z TI TO .ellipsis:=hs₂ _ _ D.i1z.symm hz₁;have hez:e≠z:=λx=>by subst x;rw[hz₂]at hoe;cases hoe;simp at hce
 refine eI hz₂ (by simp) λh₃ _ hs₃=>hE h₃ e (λc o c1 _ c3 _ x=>hs₃.extBut _ _ c1 (hs₂ _ _ c3 (hs₁.extBut _ _ c1 x))) ⟨oe,hs₃.extBut _ _ hez hoe,hce⟩
theorem aaH{z TI TO i1 i2:Addr}{k n1 n2:Nat}{fp1 fp2:List Addr}{P1 P2:Nat->Value->Prop}{S1 S2:Nat->Heap->Prop}{a b:Value}{Q:Fin->Shared->Prop}(D:ZApart z TI TO i1 i2)
  (D1:Draws prog w A i1 fp1 n1 P1 S1) (D2:Draws prog w A i2 fp2 n2 P2 S2) (f1:∀c∈fp1,c≠z/\c≠TO/\c≠i2) (f2:∀c∈fp2,c≠z/\c≠TO/\c≠i1)
  (hz:IsZip s.heap z TI TO .none) (hTI:IsPair s.heap TI (.ref i1) (.ref i2)) (hTO:IsPair s.heap TO a b) (h1:S1 k s.heap) (h2:S2 k s.heap) (hx:k < n1) (hy:k=n2)
  (hE:∀h' tk e,(∀c o,c≠z->c≠TO->c≠i1->c≠i2->s.heap.get? c=some o->h'.get? c=some o)->(∃o,h'.get? e=some o/\o.cls=.type "StopIteration")->E (.ref e) { s with heap:=h',toks:=tk }):
  wpAny (model prog w) A (Builtin.«zip.__next__» ⟨[.ref z],[]⟩) Q E s:=by
 have e1:∀{h h':Heap}{c:Addr}{j:Nat},S1 j h->Heap.ExtBut c h h'->(∀b∈fp1,b≠c)->S1 j h':=λq e n=>D1.frame _ _ _ q λb hb o y=>e b o (n b hb) y;have e2:∀{h h':Heap}{c:Addr}{j:Nat},S2 j h->Heap.ExtBut c h h'->(∀b∈fp2,b≠c)->S2 j h':=λq e n=>D2.frame _ _ _ q λb hb o y=>e b o (n b hb) y;have z1:∀b∈fp1,b≠z:=λb hb=>(f1 b hb).1;have z2:∀b∈fp2,b≠z:=λb hb=>(f2 b hb).1;have t2:∀b∈fp2,b≠TO:=λb hb=>(f2 b hb).2.1;have j2:∀b∈fp2,b≠i1:=λb hb=>(f2 b hb).2.2;show wpAny _ _ (field (.ref z) 2 >>= _) _ _ _;refine ag (dA hz rfl (x:=.bool false) rfl ?_);show wpAny _ _ (field (.ref z) 3 >>= _) _ _ _;refine ag (dA hz rfl (x:=.ref TI) rfl ?_);refine ag (eJ hTI rfl ?_);show wpAny _ _ (Builtin.SmallTypes.ownedTupleIsFree (.ref z) >>= _) _ _ _;refine ag ?_;unfold Builtin.SmallTypes.ownedTupleIsFree;refine ag (dA hz rfl (x:=.none) rfl (a7 ?_));simp only[if_true];refine ag (gs ?_);refine ag (dA hz rfl (x:=.ref TO) rfl ?_);refine ag (eI hz (by simp) λh₁ hz₁ hs₁=>?_);replace hz₁:IsZip h₁ z TI TO .ellipsis:=hz₁;replace hs₁:Heap.SameBut z s.heap h₁:=hs₁;refine ag ?_;simp only[List.zipIdx_cons,List.zipIdx_nil,List.forIn_cons,List.forIn_nil];refine ag (ag (wpAny_onRaise ?_));show wpAny _ _ (Builtin.SmallTypes.nextOf (.ref i1) >>= _) _ _ _;refine ag (D1.item k _ _ _ hx (e1 h1 hs₁.extBut z1) λc h₂ tk₂ hc h1₂ hs₂=>a7 ?_);replace hs₂:Heap.SameBut i1 h₁ h₂:=hs₂;have hTO₂:IsPair h₂ TO a b:=hs₂.extBut _ _ D.TOi1 (hs₁.extBut _ _ D.TOz hTO);refine ag (eJ hTO₂ rfl ?_);refine ag (wpAny_updateSeq_pair hTO₂ λh₃ hTO₃ hs₃=>?_);replace hs₃:Heap.SameBut TO h₂ h₃:=hs₃;refine ag (wpAny_letGo (a7 ?_));refine ag (ag (wpAny_onRaise ?_));show wpAny _ _ (Builtin.SmallTypes.nextOf (.ref i2) >>= _) _ _ _;subst hy;refine ag (D2.done _ _ _ (e2 (e2 (e2 h2 hs₁.extBut z2) hs₂.extBut j2) hs₃.extBut t2) λh₄ e hs₄ he=>?_);obtain ⟨oe,hoe,hce⟩:=he;have hz₄:IsZip h₄ z TI TO .ellipsis:=hs₄ _ _ D.i2z.symm (hs₃.extBut _ _ D.TOz.symm (hs₂.extBut _ _ D.i1z.symm hz₁));have hez:e≠z:=λx=>by subst x;rw[hz₄]at hoe;cases hoe;simp at hce
 refine eI hz₄ (by simp) λh₅ _ hs₅=>hE h₅ tk₂ e (λc o c1 c2 c3 c4 x=>hs₅.extBut _ _ c1 (hs₄ _ _ c4 (hs₃.extBut _ _ c2 (hs₂.extBut _ _ c3 (hs₁.extBut _ _ c1 x))))) ⟨oe,hs₅.extBut _ _ hez hoe,hce⟩
end
def Jz(k l:SK):It:=⟨λi H=>∃vs ws,k.Sat H vs/\l.Sat H ws/\i < vs.length/\i < ws.length,
 λi H x H'=>∃T y z,H T=none/\x=.ref T/\H'=upd H T (.tup [y,z])/\(∀vs,k.Sat H vs->vs[i]?=some y)/\(∀ws,l.Sat H ws->ws[i]?=some z),
 λi H=>∃vs ws,k.Sat H vs/\l.Sat H ws/\(vs.length=i/\i<=ws.length\/i < vs.length/\ws.length=i)⟩
theorem aaI{P:Program}{w:World}{K:PF}{elts:List Expr}{x1:Nat}{pos:Pos}(k l:SK)(z TI TO i1 i2:Addr)(D:ZApart z TI TO i1 i2):
  Turn P w K (.Tuple elts x1 pos) (Jz k l) [z,TI,TO,i1,i2] z
   (λi h=>IsZip h z TI TO .none/\IsPair h TI (.ref i1) (.ref i2)/\(∃a b,IsPair h TO a b)/\k.pos i1 i h/\l.pos i2 i h) where
 mem:=by simp
 obj:=λi h st b hb=>by
  obtain ⟨hz,hTI,⟨a,c,hTO⟩,⟨o1,e1,_,d1⟩,⟨o2,e2,_,d2⟩⟩:=st;have hb':b=z\/b=TI\/b=TO\/b=i1\/b=i2:=by simpa using hb
  rcases hb' with rfl |rfl |rfl |rfl |rfl
  ·exact ⟨_,hz,λv q=>by have q':Data.fields _=Data.cell v:=q;cases q'⟩
  ·exact ⟨_,hTI,λv q=>by have q':Data.seq _ _=Data.cell v:=q;cases q'⟩
  ·exact ⟨_,hTO,λv q=>by have q':Data.seq _ _=Data.cell v:=q;cases q'⟩
  ·exact ⟨o1,e1,λv q=>by rw[d1]at q;cases q⟩
  ·exact ⟨o2,e2,λv q=>by rw[d2]at q;cases q⟩
 keep:=λi h h' st kk=>by
  obtain ⟨hz,hTI,⟨a,c,hTO⟩,p1,p2⟩:=st;exact ⟨kk z (by simp) _ hz,kk TI (by simp) _ hTI,⟨a,c,kk TO (by simp) _ hTO⟩,p1.keep λo e=>kk i1 (by simp) o e,p2.keep λo e=>kk i2 (by simp) o e⟩
 item:=by
  intro X hP hw hK hc i pins s σ H E I hf st hg;subst hP hw hK;obtain ⟨vs,ws,sat1,sat2,l1,l2⟩:=hg;obtain ⟨hz,hTI,⟨a,b,hTO⟩,h1,h2⟩:=st;have hT:s.TypeIs (.ref z) "zip":=⟨_,hz,rfl⟩;have fz:=hf z (by simp);have fTO:=hf TO (by simp);have fi1:=hf i1 (by simp);have fi2:=hf i2 (by simp);obtain ⟨fp1,P1,S1,Dr1⟩:=drawn (A:=X.A.in1) (I.ok.hd hc) I sat1 fi1.1 h1;obtain ⟨fp2,P2,S2,Dr2⟩:=drawn (A:=X.A.in1) (I.ok.hd hc) I sat2 fi2.1 h2;have no1:∀e,H e=none->e≠i1->∀c∈fp1,c≠e:=λe he hei c hc z=>by
   rcases Dr1.fp c hc with q |q
   ·exact hei (z.symm.trans q)
   ·have:=sat1.no he;cases k with
    |lst a=>injection q with q;exact this (q.trans z)
    |tup a=>injection q with q;exact this (q.trans z)
    |str _ _=>cases q
  have no2:∀e,H e=none->e≠i2->∀c∈fp2,c≠e:=λe he hei c hc z=>by
   rcases Dr2.fp c hc with q |q
   ·exact hei (z.symm.trans q)
   ·have:=sat2.no he;cases l with
    |lst a=>injection q with q;exact this (q.trans z)
    |tup a=>injection q with q;exact this (q.trans z)
    |str _ _=>cases q
  have f1:∀c∈fp1,c≠z/\c≠TO/\c≠i2:=λc hc=>⟨no1 z fz.1 D.i1z.symm c hc,no1 TO fTO.1 D.TOi1 c hc,no1 i2 fi2.1 D.i12.symm c hc⟩;have f2:∀c∈fp2,c≠z/\c≠TO/\c≠i1:=λc hc=>⟨no2 z fz.1 D.i2z.symm c hc,no2 TO fTO.1 D.TOi2 c hc,no2 i1 fi1.1 D.i12 c hc⟩;have ltz:z < s.heap.objs.size:=ay hz;have ltTI:TI < s.heap.objs.size:=ay hTI;have ltTO:TO < s.heap.objs.size:=ay hTO;have lti1:i1 < s.heap.objs.size:=by obtain ⟨_,e,_⟩:=h1;exact ay e
  have lti2:i2 < s.heap.objs.size:=by obtain ⟨_,e,_⟩:=h2;exact ay e
  unfold pyNext;refine ag (wpAny_attempt (fb (name:=Str.ofString "__next__") hT F.slot_zip_next
   (gu F.slot_zip_next hT F.entry_zip_next (aaF D Dr1.D Dr2.D f1 f2 hz hTI hTO Dr1.st Dr2.st l1 l2 λh' tk c d pc pd a1 a2 a3 a4 a5 a6 hk=>a7 ?_) (F.args_zip_next_1 _))))
  obtain ⟨y,hy,ry⟩:=Dr1.val _ _ pc;obtain ⟨y',hy',ry'⟩:=Dr2.val _ _ pd;refine ⟨_,rfl,?_⟩;refine wpAny_letOwnedTupleGo_zip a1 λh2' hz2 hs2=>?_;have hs2':Heap.SameBut z h' h2':=hs2;have hn:H s.heap.objs.size=none:=I.hok.fresh (aE _);have k2:∀b o,b∉[z,TI,TO,i1,i2]->s.heap.get? b=some o->h2'.get? b=some o:=λb o hb q=>by
   have hb':b≠z/\b≠TI/\b≠TO/\b≠i1/\b≠i2:=by simpa using hb
   exact hs2'.extBut b o hb'.1 (hk b o hb'.1 hb'.2.2.1 hb'.2.2.2.1 hb'.2.2.2.2 q)
  have I2:Inv X pins σ H { s with heap:=h2',toks:=tk }:=I.turnedL hf k2;have ht2:h2'.get? s.heap.objs.size=some { cls:=.type "tuple",data:=.seq #[c,d] }:=hs2'.extBut _ _ (fR ltz) a5;have ob:ObjOk X.prog X.w (upd H s.heap.objs.size (.tup [y,y'])) h2' s.heap.objs.size (.tup [y,y']):=
   ⟨by rw[fT];simp,[c,d],.cons ry (.cons ry' .nil),⟨_,ht2,rfl,_,rfl⟩⟩
  have I3:=I2.track (I.fpOk (aE _) hn) ob;refine ⟨.ref s.heap.objs.size,_,I3,rfl,⟨s.heap.objs.size,y,y',hn,rfl,rfl,λus hu=>by rw[xU hu sat1];exact hy,λus hu=>by rw[xU hu sat2];exact hy'⟩,
   ⟨hz2,hs2'.extBut _ _ D.TIz (hk _ _ D.TIz D.TITO D.TIi1 D.TIi2 hTI),⟨_,_,hs2'.extBut _ _ D.TOz a2⟩,(Dr1.pos _ _ a3).keep λo e=>hs2'.extBut _ _ D.i1z e,(Dr2.pos _ _ a4).keep λo e=>hs2'.extBut _ _ D.i2z e⟩,λb hb=>?_⟩
  have hb':b=z\/b=TI\/b=TO\/b=i1\/b=i2:=by simpa using hb
  rw[aG (by rcases hb' with rfl |rfl |rfl |rfl |rfl <;> exact bX ‹_›)];exact (hf b hb).1
 done:=by
  intro X hP hw hK hc i pins s σ H E I hf st hg;subst hP hw hK;obtain ⟨vs,ws,sat1,sat2,hend⟩:=hg;obtain ⟨hz,hTI,⟨a,b,hTO⟩,h1,h2⟩:=st;have hT:s.TypeIs (.ref z) "zip":=⟨_,hz,rfl⟩;have fz:=hf z (by simp);have fTO:=hf TO (by simp);have fi1:=hf i1 (by simp);have fi2:=hf i2 (by simp);obtain ⟨fp1,P1,S1,Dr1⟩:=drawn (A:=X.A.in1) (I.ok.hd hc) I sat1 fi1.1 h1;obtain ⟨fp2,P2,S2,Dr2⟩:=drawn (A:=X.A.in1) (I.ok.hd hc) I sat2 fi2.1 h2;have no1:∀e,H e=none->e≠i1->∀c∈fp1,c≠e:=λe he hei c hc z=>by
   rcases Dr1.fp c hc with q |q
   ·exact hei (z.symm.trans q)
   ·have:=sat1.no he;cases k with
    |lst a=>injection q with q;exact this (q.trans z)
    |tup a=>injection q with q;exact this (q.trans z)
    |str _ _=>cases q
  have no2:∀e,H e=none->e≠i2->∀c∈fp2,c≠e:=λe he hei c hc z=>by
   rcases Dr2.fp c hc with q |q
   ·exact hei (z.symm.trans q)
   ·have:=sat2.no he;cases l with
    |lst a=>injection q with q;exact this (q.trans z)
    |tup a=>injection q with q;exact this (q.trans z)
    |str _ _=>cases q
  have f1:∀c∈fp1,c≠z/\c≠TO/\c≠i2:=λc hc=>⟨no1 z fz.1 D.i1z.symm c hc,no1 TO fTO.1 D.TOi1 c hc,no1 i2 fi2.1 D.i12.symm c hc⟩;have f2:∀c∈fp2,c≠z/\c≠TO/\c≠i1:=λc hc=>⟨no2 z fz.1 D.i2z.symm c hc,no2 TO fTO.1 D.TOi2 c hc,no2 i1 fi1.1 D.i12 c hc⟩;have fin:∀(h':Heap)(tk:Nat)(e:Addr),(∀c o,c≠z->c≠TO->c≠i1->c≠i2->s.heap.get? c=some o->h'.get? c=some o)->Inv X pins σ H { s with heap:=h',toks:=tk }:=λh' tk e hk=>I.turnedL (t':=tk) hf λb o hb q=>by
   have hb':b≠z/\b≠TI/\b≠TO/\b≠i1/\b≠i2:=by simpa using hb
   exact hk b o hb'.1 hb'.2.2.1 hb'.2.2.2.1 hb'.2.2.2.2 q
  unfold pyNext;refine ag (wpAny_attempt (fb (name:=Str.ofString "__next__") hT F.slot_zip_next
   (gu F.slot_zip_next hT F.entry_zip_next ?_ (F.args_zip_next_1 _))))
  rcases hend with ⟨e1,_⟩ |⟨e1,e2⟩
  ·subst e1;refine aaG D Dr1.D (λc hc=>(f1 c hc).1) hz hTI hTO Dr1.st λh' e hk he=>?_;obtain ⟨o,ho,hc'⟩:=he;refine ag (wpAny_isInstance (T:="StopIteration") (b:=true) ⟨o,ho,hc'⟩ isSubtype_stop ?_);exact a7 ⟨rfl,fin h' s.toks e hk⟩
  ·refine aaH D Dr1.D Dr2.D f1 f2 hz hTI hTO Dr1.st Dr2.st e1 e2.symm λh' tk e hk he=>?_;obtain ⟨o,ho,hc'⟩:=he;refine ag (wpAny_isInstance (T:="StopIteration") (b:=true) ⟨o,ho,hc'⟩ isSubtype_stop ?_);exact a7 ⟨rfl,fin h' tk e hk⟩
 self:=λA i s Q E st h=>wpAny_pyIter_zip st.1 h
open Sem (wp)
open AutoSeq1 (wpAny_loadPart')
set_option maxRecDepth 100000
set_option maxHeartbeats 1000000 in
theorem aaJ(l:Addr)(items:Array Value)(n:Nat)(dct:Option Addr)(sl:Array (Option Value)):
  Meets (Builtin.«enumerate.__new__» ⟨[.type "enumerate",.ref l],[]⟩) (λ_ R s=>s.heap.get? l=some { cls:=.type "tuple",dict:=dct,data:=.seq items n,slots:=sl }/\
   R (.ok (.ret (.ref (s.heap.push { cls:=.type "tuple_iterator",data:=.fields #[.ref l,.int 0 0] }).objs.size)))
    { s with heap:=(s.heap.push { cls:=.type "tuple_iterator",data:=.fields #[.ref l,.int 0 0] }).push { cls:=.type "enumerate",data:=.fields #[.none,.bool false,.ref s.heap.objs.size,rawInt 0,.none,.none] } }):=
 .of_wp λprog w A R s h=>by
  obtain ⟨hp,g,d,tk,os⟩:=s;obtain ⟨hl,h⟩:=h;have hsub:=sub_enumerate;have hL:Heap.IsTuple (Shared.heap ⟨hp,g,d,tk,os⟩) l items:=⟨_,hl,rfl,n,rfl⟩;wp_walk using wpAny_loadPart' hl
  refine wpAny_stack_any λst=>a7 ?_;split
  ·rename_i c _ _ _ _ _;cases (c==Value.type "enumerate")
   ·wp_walk using wpAny_loadPart' hl,wpAny_pyIter_tuple hL
    exact ⟨_,rfl,h⟩
   ·wp_walk using wpAny_loadPart' hl,wpAny_pyIter_tuple hL
    exact ⟨_,rfl,h⟩
  ·wp_walk using wpAny_loadPart' hl,wpAny_pyIter_tuple hL
   exact ⟨_,rfl,h⟩
abbrev tW(h:Heap)(k:SK):Heap:=h.push k.obj
abbrev tX(h:Heap)(k l:SK):Heap:=(tW h k).push l.obj
abbrev tY (h:Heap) (k l:SK):Heap:=(tX h k l).push { cls:=.type "tuple",data:=.seq #[.ref h.objs.size,.ref (tW h k).objs.size] }
abbrev tZ (h:Heap) (k l:SK):Heap:=(tY h k l).push { cls:=.type "tuple",data:=.seq #[.none,.none] }
abbrev iG (h:Heap) (k l:SK):Heap:=(tZ h k l).push { cls:=.type "zip",data:=.fields #[.none,.bool false,.bool false,.ref (tX h k l).objs.size,.ref (tY h k l).objs.size] }
theorem aaK(k l:SK)(xs ys:Array Value):
  Meets (Builtin.«zip.__new__» ⟨[.type "zip",k.val,l.val],[]⟩) (λ_ R s=>k.On xs s.heap/\l.On ys s.heap/\R (.ok (.ret (.ref (tZ s.heap k l).objs.size))) { s with heap:=iG s.heap k l }):=
 .of_wp λprog w A R s h=>by
  obtain ⟨hp,g,d,tk,os⟩:=s;obtain ⟨h1,h2,h⟩:=h;have hsub:=sub_zip;have h1':k.On xs (Shared.heap ⟨hp,g,d,tk,os⟩):=h1;have h2':l.On ys (Shared.heap ⟨hp.push k.obj,g,d,tk,os⟩):=SK.On.keeps h2 λb o _ e=>ah _ e;wp_walk using SK.iter h1',SK.iter h2'
  exact ⟨_,rfl,h⟩
section
variable {prog:Program} {w:World} {A:Around} {E:Value->Shared->Prop} {s:Shared}
theorem aaL{k l:SK}{xs ys:Array Value}{Q:Value->Shared->Prop}(h1:k.On xs s.heap)(h2:l.On ys s.heap)
  (h:∀h',IsZip h' (s.heap.objs.size+4) (s.heap.objs.size+2) (s.heap.objs.size+3) .none->IsPair h' (s.heap.objs.size+2) (.ref s.heap.objs.size) (.ref (s.heap.objs.size+1))->
   IsPair h' (s.heap.objs.size+3) .none .none->k.pos s.heap.objs.size 0 h'->l.pos (s.heap.objs.size+1) 0 h'->h'.objs.size=s.heap.objs.size+5->
   (∀c o,s.heap.get? c=some o->h'.get? c=some o)->Q (.ref (s.heap.objs.size+4)) { s with heap:=h' }):
  wpAny (model prog w) A (call (.type "zip") [k.val,l.val]) Q E s:=by
 refine callType_new F.called_zip (by decide) (F.typeCall_zip_2 _ _) (F.newCall_zip_2 _ _) (λobj=>F.args_object_init_3 obj _ _) F.entry_zip_new
  (aaK k l xs ys) ⟨h1,h2,?_⟩
 have z1:(tW s.heap k).objs.size=s.heap.objs.size+1:=dQ ..;have z2:(tX s.heap k l).objs.size=s.heap.objs.size+2:=by rw[dQ,z1]
 have z3:(tY s.heap k l).objs.size=s.heap.objs.size+3:=by rw[dQ,z2]
 have z4:(tZ s.heap k l).objs.size=s.heap.objs.size+4:=by rw[dQ,z3]
 have z5:(iG s.heap k l).objs.size=s.heap.objs.size+5:=by rw[dQ,z4]
 have g5:(iG s.heap k l).get? (tZ s.heap k l).objs.size=some _:=bb _ rfl;have g4:(iG s.heap k l).get? (tY s.heap k l).objs.size=some _:=ah _ (bb _ rfl);have g3:(iG s.heap k l).get? (tX s.heap k l).objs.size=some _:=ah _ (ah _ (bb _ rfl));have g2:(iG s.heap k l).get? (tW s.heap k).objs.size=some _:=ah _ (ah _ (ah _ (bb _ rfl)));have g1:(iG s.heap k l).get? s.heap.objs.size=some _:=ah _ (ah _ (ah _ (ah _ (bb _ rfl))));show _/\_;rw[z2,z3,z4]at g5;rw[z1,z2]at g3;rw[z3]at g4;rw[z1]at g2;rw[z4];exact ⟨⟨_,g5,rfl⟩,h _ g5 g3 g4 ⟨_,g1,rfl,rfl⟩ ⟨_,g2,rfl,rfl⟩ z5 λc o x=>
  ah _ (ah _ (ah _ (ah _ (ah _ x))))⟩
theorem aaM{l:Addr}{items:Array Value}{Q:Value->Shared->Prop}(hL:s.heap.IsTuple l items)
  (h:∀h',IsEnum h' (s.heap.objs.size+1) s.heap.objs.size 0 .none->h'.IsTupleIter s.heap.objs.size l 0->h'.objs.size=s.heap.objs.size+2->
   (∀b o,s.heap.get? b=some o->h'.get? b=some o)->Q (.ref (s.heap.objs.size+1)) { s with heap:=h' }):
  wpAny (model prog w) A (call (.type "enumerate") [.ref l]) Q E s:=by
 obtain ⟨⟨c,dct,dt,sl⟩,hl,hc,n,hd⟩:=hL;replace hc:c=.type "tuple":=hc;replace hd:dt=.seq items n:=hd;subst hc hd;refine callType_new F.called_enumerate (by decide) (F.typeCall_enumerate_1 _) (F.newCall_enumerate_1 _) (λobj=>F.args_object_init_2 obj _) F.entry_enumerate_new
  (aaJ l items n dct sl) ⟨hl,?_⟩
 have hz:(s.heap.push { cls:=.type "tuple_iterator",data:=.fields #[.ref l,.int 0 0] }).objs.size=s.heap.objs.size+1:=dQ ..;show _/\_;rw[hz];have he:IsEnum ((s.heap.push { cls:=.type "tuple_iterator",data:=.fields #[.ref l,.int 0 0] }).push
   { cls:=.type "enumerate",data:=.fields #[.none,.bool false,.ref s.heap.objs.size,rawInt 0,.none,.none] }) (s.heap.objs.size+1) s.heap.objs.size 0 .none:=by
  have:=bb (s.heap.push { cls:=.type "tuple_iterator",data:=.fields #[.ref l,.int 0 0] })
   (o:={ cls:=.type "enumerate",data:=.fields #[.none,.bool false,.ref s.heap.objs.size,rawInt 0,.none,.none] }) rfl
  rw[hz]at this;exact this
 refine ⟨⟨_,he,rfl⟩,h _ he ⟨_,ah _ (bb _ rfl),rfl,rfl⟩ (by rw[dQ,hz]) λb o x=>ah _ (ah _ x)⟩
theorem aaN{k:SK}{xs:Array Value}{Q:Value->Shared->Prop}(h1:k.On xs s.heap)
  (h:∀h',IsEnum h' (s.heap.objs.size+1) s.heap.objs.size 0 .none->k.pos s.heap.objs.size 0 h'->h'.objs.size=s.heap.objs.size+2->
   (∀b o,s.heap.get? b=some o->h'.get? b=some o)->Q (.ref (s.heap.objs.size+1)) { s with heap:=h' }):
  wpAny (model prog w) A (call (.type "enumerate") [k.val]) Q E s:=by
 cases k with
 |lst a=>exact call_enumerate_list h1 h
 |tup a=>exact aaM h1 h
 |str x t=>exact call_enumerate_str h
end
structure OT where
 ms:List (String×String×String×Nat):=[]
 ks:List (String×Nat):=[]
 fl:List (String×String):=[]
structure CT where
 N:List Str
 kd:List (Str×NameKind)
 fn:Bool
 fs:List (String×Nat)
 bt:List String
 cn:List (String×D)
 xs:List (String×Bool):=[]
 ot:OT:={}
def iH:Option NameKind->Bool
 |some .local=>true
 |some .cell=>true
 |some .free=>true
 |_=>false
def CT.sto(c:CT)(x:Str):Bool:=c.kd.lookup x==some .local||(c.fn&&c.kd.lookup x==some .cell)
def okN (x:Str):Bool:=!(x==("__debug__":Str))&&!(x==("__classdict__":Str))&&!(x==("__name__":Str))
def CT.glo(c:CT)(x:Str):Bool:=c.kd.lookup x==some .globalImplicit&&okN x
noncomputable def sEq:D->D->Bool
 |.non,.non=>true
 |.bl a,.bl b=>a==b
 |.int a,.int b=>a==b
 |.str a,.str b=>a==b
 |_,_=>false
theorem aaO{a b:D}(h:sEq a b=true):a=b:=by cases a <;> cases b <;> simp_all [sEq]
noncomputable def uc(d:D)(k:Const):Bool:=
 match d,k with
 |.non,.none=>true
 |.bl a,.bool b=>a==b
 |.int a,.int b=>a==b
 |.str a,.str b=>a==b.cps.toList&&decide (a.length<=sz)
 |_,_=>false
noncomputable def Bf.name:Bf->String
 |.len=>"len"
 |.all=>"all"
 |.int=>"int"
 |.tuple=>"tuple"
 |.sum=>"sum"
 |.min=>"min"
 |.max=>"max"
 |.abs=>"abs"
 |.min2=>"min"
 |.str=>"str"
noncomputable def xV:Bf->Bool
 |.sum=>false
 |.min=>true
 |.max=>false
 |.abs=>false
 |.min2=>false
 |.str=>true
 |_=>true
def xW:Lf->Bool
 |.sorted=>false
 |_=>true
def Lf.name:Lf->String
 |.list=>"list"
 |.sorted=>"sorted"
noncomputable def Mf.name:Mf->String
 |.join=>"join"
 |.append=>"append"
 |.extend=>"extend"
 |.insert=>"insert"
 |.pop=>"pop"
 |.count=>"count"
 |.index=>"index"
def eN:Expr->Bool
 |.Call (.Name _ _) [] [] _=>true
 |_=>false
def cN:Expr->Bool
 |.ListComp ..=>true
 |.SetComp ..=>true
 |.DictComp ..=>true
 |_=>false
noncomputable def iI:Expr->Bool
 |.UnaryOp .Not _ _=>false
 |.BoolOp ..=>false
 |.IfExp ..=>false
 |.Compare ..=>false
 |_=>true
noncomputable def gJ(N:List Str)(scope:Scope):List Str->List (Option Nat)->Bool
 |[],[]=>true
 |_::N',none::cap=>gJ N scope N' cap
 |x::N',some j::cap=>(N[j]?==some x)&&(scope.names.lookup x==some NameKind.free)&&gJ N scope N' cap
 |_,_=>false
noncomputable def jM(c:CT)(scope:Scope):Bool:=
 scope.names.all (λy=>y.2 != NameKind.cell)&&scope.names.all (λy=>y.2 != NameKind.local||scope.names.lookup y.1==some NameKind.local) &&
 scope.names.all (λy=>y.2 != NameKind.free||(c.kd.lookup y.1==some NameKind.cell||c.kd.lookup y.1==some NameKind.free))&&decide (scope.kind=.function)&&decide (c.kd=c.kd)
def CT.comp(c:CT)(N:List Str)(scope:Scope):CT:={ N:=N,kd:=scope.names,fn:=false,fs:=c.fs,bt:=c.bt,cn:=c.cn,ot:=c.ot }
def eO:List Str->Bool
 |[]=>true
 |x::r=>!r.contains x&&eO r
noncomputable def asName(e:Expr):Option { t:Str×Pos // e=.Name t.1 t.2 }:=match e with
 |.Name a0 a1=>some ⟨(a0,a1),rfl⟩
 |_=>none
noncomputable def ud(e:Expr):Option { t:Const×Nat×Pos // e=.Constant t.1 t.2.1 t.2.2 }:=match e with
 |.Constant a0 a1 a2=>some ⟨(a0,a1,a2),rfl⟩
 |_=>none
noncomputable def Fg(e:Expr):Option { t:Expr×Operator×Expr×Pos // e=.BinOp t.1 t.2.1 t.2.2.1 t.2.2.2 }:=match e with
 |.BinOp a0 a1 a2 a3=>some ⟨(a0,a1,a2,a3),rfl⟩
 |_=>none
noncomputable def jN(e:Expr):Option { t:UnaryOp×Expr×Pos // e=.UnaryOp t.1 t.2.1 t.2.2 }:=match e with
 |.UnaryOp a0 a1 a2=>some ⟨(a0,a1,a2),rfl⟩
 |_=>none
noncomputable def lM(e:Expr):Option { t:Expr×List CmpOp×List Expr×Pos // e=.Compare t.1 t.2.1 t.2.2.1 t.2.2.2 }:=match e with
 |.Compare a0 a1 a2 a3=>some ⟨(a0,a1,a2,a3),rfl⟩
 |_=>none
noncomputable def ue(e:Expr):Option { t:BoolOp×List Expr×Pos // e=.BoolOp t.1 t.2.1 t.2.2 }:=match e with
 |.BoolOp a0 a1 a2=>some ⟨(a0,a1,a2),rfl⟩
 |_=>none
noncomputable def Fi(e:Expr):Option { t:Expr×Expr×Expr×Pos // e=.IfExp t.1 t.2.1 t.2.2.1 t.2.2.2 }:=match e with
 |.IfExp a0 a1 a2 a3=>some ⟨(a0,a1,a2,a3),rfl⟩
 |_=>none
noncomputable def gK(e:Expr):Option { t:List Expr×Nat×Pos // e=.Tuple t.1 t.2.1 t.2.2 }:=match e with
 |.Tuple a0 a1 a2=>some ⟨(a0,a1,a2),rfl⟩
 |_=>none
noncomputable def asList(e:Expr):Option { t:List Expr×Pos // e=.List t.1 t.2 }:=match e with
 |.List a0 a1=>some ⟨(a0,a1),rfl⟩
 |_=>none
noncomputable def jO(e:Expr):Option { t:Expr×Expr×Pos // e=.Subscript t.1 t.2.1 t.2.2 }:=match e with
 |.Subscript a0 a1 a2=>some ⟨(a0,a1,a2),rfl⟩
 |_=>none
noncomputable def Fj(e:Expr):Option { t:Option Expr×Option Expr×Option Expr×Pos // e=.Slice t.1 t.2.1 t.2.2.1 t.2.2.2 }:=match e with
 |.Slice a0 a1 a2 a3=>some ⟨(a0,a1,a2,a3),rfl⟩
 |_=>none
noncomputable def iJ(e:Expr):Option { t:Expr×List Expr×List Keyword×Pos // e=.Call t.1 t.2.1 t.2.2.1 t.2.2.2 }:=match e with
 |.Call a0 a1 a2 a3=>some ⟨(a0,a1,a2,a3),rfl⟩
 |_=>none
noncomputable def fU(e:Expr):Option { t:Expr×Str×Pos // e=.Attribute t.1 t.2.1 t.2.2 }:=match e with
 |.Attribute a0 a1 a2=>some ⟨(a0,a1,a2),rfl⟩
 |_=>none
noncomputable def Fl(e:Expr):Option { t:Expr×List Comprehension×Scope×Pos // e=.ListComp t.1 t.2.1 t.2.2.1 t.2.2.2 }:=match e with
 |.ListComp a0 a1 a2 a3=>some ⟨(a0,a1,a2,a3),rfl⟩
 |_=>none
noncomputable def jP(e:Stmt):Option { t:Expr×Pos // e=.Expr t.1 t.2 }:=match e with
 |.Expr a0 a1=>some ⟨(a0,a1),rfl⟩
 |_=>none
noncomputable def iK(e:Stmt):Option { t:List Expr×Expr×Pos // e=.Assign t.1 t.2.1 t.2.2 }:=match e with
 |.Assign a0 a1 a2=>some ⟨(a0,a1,a2),rfl⟩
 |_=>none
noncomputable def Fp(e:Stmt):Option { t:Expr×Operator×Expr×Pos // e=.AugAssign t.1 t.2.1 t.2.2.1 t.2.2.2 }:=match e with
 |.AugAssign a0 a1 a2 a3=>some ⟨(a0,a1,a2,a3),rfl⟩
 |_=>none
noncomputable def Fq(e:Stmt):Option { t:Option Expr×Option Expr×Pos // e=.Raise t.1 t.2.1 t.2.2 }:=match e with
 |.Raise a0 a1 a2=>some ⟨(a0,a1,a2),rfl⟩
 |_=>none
noncomputable def Ft(e:Stmt):Option { t:List Stmt×List ExceptHandler×List Stmt×List Stmt×Pos // e=.Try t.1 t.2.1 t.2.2.1 t.2.2.2.1 t.2.2.2.2 }:=match e with
 |.Try a0 a1 a2 a3 a4=>some ⟨(a0,a1,a2,a3,a4),rfl⟩
 |_=>none
noncomputable def Fv(e:ExceptHandler):Option { t:Option Expr×Option Str×List Stmt×Pos // e=.ExceptHandler t.1 t.2.1 t.2.2.1 t.2.2.2 }:=match e with
 |.ExceptHandler a0 a1 a2 a3=>some ⟨(a0,a1,a2,a3),rfl⟩
noncomputable def xX(e:Expr):Option { t:Expr×Int×Option Expr×Pos // e=.FormattedValue t.1 t.2.1 t.2.2.1 t.2.2.2 }:=match e with
 |.FormattedValue a0 a1 a2 a3=>some ⟨(a0,a1,a2,a3),rfl⟩
 |_=>none
noncomputable def aaP(e:Expr):Option { t:List Expr×Pos // e=.JoinedStr t.1 t.2 }:=match e with
 |.JoinedStr a0 a1=>some ⟨(a0,a1),rfl⟩
 |_=>none
def aaQ(k:Const):Option { x:Str // k=.str x }:=match k with
 |.str x=>some ⟨x,rfl⟩
 |_=>none
def aiJ(b:Bool)(k:Const):Bool:=match k with
 |.bool c=>c==b
 |_=>false
noncomputable def uf(e:Stmt):Option { t:Option Expr×Pos // e=.Return t.1 t.2 }:=match e with
 |.Return a0 a1=>some ⟨(a0,a1),rfl⟩
 |_=>none
noncomputable def Fw(e:Stmt):Option { t:Expr×List Stmt×List Stmt×Pos // e=.If t.1 t.2.1 t.2.2.1 t.2.2.2 }:=match e with
 |.If a0 a1 a2 a3=>some ⟨(a0,a1,a2,a3),rfl⟩
 |_=>none
noncomputable def Fx(e:Stmt):Option { t:Expr×Expr×List Stmt×List Stmt×Pos // e=.For t.1 t.2.1 t.2.2.1 t.2.2.2.1 t.2.2.2.2 }:=match e with
 |.For a0 a1 a2 a3 a4=>some ⟨(a0,a1,a2,a3,a4),rfl⟩
 |_=>none
noncomputable def aiK(e:Stmt):Option { t:Expr×List Stmt×List Stmt×Pos // e=.While t.1 t.2.1 t.2.2.1 t.2.2.2 }:=match e with
 |.While a0 a1 a2 a3=>some ⟨(a0,a1,a2,a3),rfl⟩
 |_=>none
def Fy(e:Stmt):Option { t:Pos // e=.Pass t }:=match e with
 |.Pass a0=>some ⟨a0,rfl⟩
 |_=>none
def FJ(e:Stmt):Option { t:Pos // e=.Break t }:=match e with
 |.Break a0=>some ⟨a0,rfl⟩
 |_=>none
def FN(e:Stmt):Option { t:Pos // e=.Continue t }:=match e with
 |.Continue a0=>some ⟨a0,rfl⟩
 |_=>none
def one{α:Type}:List α->Option α
 |[a]=>some a
 |_=>none
def three{α:Type}:List α->Option (α×α×α)
 |[x,y,z]=>some (x,y,z)
 |_=>none
theorem aiL{α:Type}{l:List α}{v:α×α×α}(h:three l=some v):l=[v.1,v.2.1,v.2.2]:=by
 unfold three at h;split at h
 ·cases h;rfl
 ·cases h
def two{α:Type}:List α->Option (α×α)
 |[a,b]=>some (a,b)
 |_=>none
def hdT{α:Type}:List α->Option (α×List α)
 |a::r=>some (a,r)
 |[]=>none
theorem cO{α:Type}{l:List α}{a:α}(h:one l=some a):l=[a]:=by
 cases l with
 |nil=>cases h
 |cons x r=>cases r with
  |nil=>cases h;rfl
  |cons _ _=>cases h
theorem jQ{α:Type}{l:List α}{a:α×α}(h:two l=some a):l=[a.1,a.2]:=by
 cases l with
 |nil=>cases h
 |cons x r=>cases r with
  |nil=>cases h
  |cons y r=>cases r with
   |nil=>cases h;rfl
   |cons _ _=>cases h
theorem FP{α:Type}{l:List α}{a:α×List α}(h:hdT l=some a):l=a.1::a.2:=by
 cases l with
 |nil=>cases h
 |cons x r=>cases h;rfl
theorem aP{α:Type}{o:Option α}{p:α->Bool}(h:o.any p=true):∃t,o=some t/\p t=true:=by
 cases o with
 |none=>cases h
 |some t=>exact ⟨t,rfl,h⟩
def xY:UnaryOp->Bool
 |.USub=>true
 |_=>false
def lN:UnaryOp->Bool
 |.Not=>true
 |_=>false
theorem aaR{o:UnaryOp}(h:xY o=true):o=.USub:=by cases o <;> first |rfl |cases h
theorem FQ{o:UnaryOp}(h:lN o=true):o=.Not:=by cases o <;> first |rfl |cases h
noncomputable def bC(e:Expr):Option (Str×Pos×List Expr×Pos):=(iJ e).bind λt=>(asName t.1.1).bind λn=>match t.1.2.2.1 with |[]=>some (n.1.1,n.1.2,t.1.2.1,t.1.2.2.2) |_::_=>none
noncomputable def au{α:Type}{q:α->Prop}(o:Option { t:α // q t })(P:α->Bool):Bool:=match o with |some t=>P t.1 |none=>false
theorem aK{α:Type}{q:α->Prop}{o:Option { t:α // q t }}{P:α->Bool}(h:au o P=true):∃t,q t/\P t=true:=by
 cases o with
 |none=>cases h
 |some t=>exact ⟨t.1,t.2,h⟩
theorem FT{α β:Type}{o:Option α}{f:α->Option β}{b:β}(h:o.bind f=some b):∃t,o=some t/\f t=some b:=by
 cases o with
 |none=>cases h
 |some t=>exact ⟨t,rfl,h⟩
theorem dW{e:Expr}{t:Str×Pos×List Expr×Pos}(h:bC e=some t):e=.Call (.Name t.1 t.2.1) t.2.2.1 [] t.2.2.2:=by
 obtain ⟨⟨⟨f,as,ks,p⟩,hu⟩,_,h⟩:=FT h;obtain ⟨⟨⟨x,p'⟩,hn⟩,_,h⟩:=FT h;dsimp only at h hn hu;cases ks with
 |nil=>cases h;rw[hu,hn]
 |cons _ _=>cases h
def lO(e:Expr):Bool:=(lM e).isSome
def FW:Ex->Bool
 |.frz _=>false
 |_=>true
def xZ:Tx->Bool
 |.yes=>true
 |_=>false
mutual
noncomputable def cD(c:CT):Tg->Expr->Bool
 |.nm i,e=>au (asName e) λt=>(c.N[i]?==some t.1)&&c.sto t.1
 |.tp ts,e=>au (gK e) λt=>cg c ts t.1
noncomputable def cg(c:CT):Tgs->List Expr->Bool
 |.nil,es=>es.isEmpty
 |.cons t r,es=>match es with
  |e::es=>cD c t e&&cg c r es
  |[]=>false
end
def yc(e:Expr):Bool:=au (ud e) λt=>au (aaQ t.1) λx=>decide (x.length<=1000)
def unF(e:Expr):Expr:=match xX e with |some t=>t.1.1 |none=>e
def aaS:Ex->Bool
 |.cst (.str _)=>true
 |_=>false
noncomputable def aaT:Exs->List Expr->Bool
 |.cons x xs,p::ps=>(match xX p with |some t=>decide (t.1.2.1=-1)&&t.1.2.2.1.isNone |none=>aaS x)&&aaT xs ps
 |.nil,ps=>ps.isEmpty
 |_,[]=>false
mutual
noncomputable def aj(c:CT):Ex->Expr->Bool
 |.var i,e=>au (asName e) λt=>(c.N[i]?==some t.1)&&iH (c.kd.lookup t.1)&&okN t.1
 |.cst d,e=>au (ud e) λt=>uc d t.1
 |.glb x d,e=>au (asName e) λt=>t.1==Str.ofString x&&c.glo t.1&&c.cn.any (λp=>p.1==x&&sEq p.2 d)
 |.bin op _ a b,e=>au (Fg e) λt=>t.2.1==op&&aj c a t.1&&aj c b t.2.2.1
 |.neg a,e=>au (jN e) λt=>xY t.1&&aj c a t.2.1
 |.cmp op a b,e=>au (lM e) λt=>(one t.2.1).any λo=>(one t.2.2.1).any λr=>o==op&&aj c a t.1&&aj c b r
 |.chn op op' a b d,e=>au (lM e) λt=>(two t.2.1).any λo=>(two t.2.2.1).any λr=>o.1==op&&o.2==op'&&aj c a t.1&&aj c b r.1&&aj c d r.2
 |.not a,e=>au (jN e) λt=>lN t.1&&aj c a t.2.1
 |.boo isAnd x es,e=>au (ue e) λt=>(hdT t.2.1).any λv=>t.1==(if isAnd then .And else .Or)&&aj c x v.1&&aM c es v.2
 |.ife t a b,e=>au (Fi e) λu=>bD c t u.1&&aj c a u.2.1&&aj c b u.2.2.1
 |.tup es,e=>au (gK e) λt=>aM c es t.1
 |.lst _ es,e=>au (asList e) λt=>aM c es t.1
 |.idx a i,e=>au (jO e) λt=>aj c a t.1&&aj c i t.2.1
 |.slc _ a lo hi,e=>au (jO e) λt=>au (Fj t.2.1) λs=>s.2.2.1.isNone&&(aj c a t.1&&fV c lo s.1&&fV c hi s.2.1)
 |.rvs _ _ _,_=>false
 |.call f es,e=>(bC e).any λt=>t.1==Str.ofString f&&c.glo t.1&&(c.fs.any λp=>p.1==f&&p.2==t.2.2.1.length)&&!t.2.2.1.isEmpty&&aM c es t.2.2.1
 |.bcl f es,e=>(bC e).any λt=>t.1==Str.ofString f.name&&xV f&&c.glo t.1&&c.bt.contains f.name&&!t.2.2.1.isEmpty&&aM c es t.2.2.1
 |.lcl _ f es,e=>(bC e).any λt=>t.1==Str.ofString f.name&&xW f&&c.glo t.1&&c.bt.contains f.name&&!t.2.2.1.isEmpty&&aM c es t.2.2.1
 |.isi a t,e=>(bC e).any λu=>(two u.2.2.1).any λv=>au (asName v.2) λy=>u.1==Str.ofString "isinstance"&&c.glo u.1&&c.bt.contains "isinstance"&&aj c a v.1&&y.1==Str.ofString t&&c.glo y.1&&c.bt.contains t&&fL t
 |.isx a C xs,e=>(bC e).any λu=>(two u.2.2.1).any λv=>au (asName v.2) λy=>u.1==Str.ofString "isinstance"&&c.glo u.1&&c.bt.contains "isinstance"&&aj c a v.1&&y.1==Str.ofString C&&c.glo y.1&&c.xs.contains (C,false)&&xs.all λx=>c.xs.contains (x,true)
 |.fst _,_=>false
 |.rgl _ _,_=>false
 |.rgt _,_=>false
 |.rpl _ _ _ _,_=>false
 |.fld C f o,e=>au (fU e) λv=>v.2.1==Str.ofString f&&!eN v.1&&c.ot.fl.contains (C,f)&&aj c o v.1
 |.mcl f C m o es,e=>au (iJ e) λt=>au (fU t.1) λv=>au (asName v.1) λy=>t.2.2.1.isEmpty&&(v.2.1==Str.ofString m&&(v.2.2.endLine==t.2.2.2.line)&&decide (t.2.1.length < 29)&&c.ot.ms.contains (f,C,m,t.2.1.length+1)&&aj c o (.Name y.1 y.2)&&aM c es t.2.1)
 |.mko C es,e=>(bC e).any λt=>t.1==Str.ofString C&&c.glo t.1&&c.ot.ks.contains (C,t.2.2.1.length)&&!t.2.2.1.isEmpty&&aM c es t.2.2.1
 |.pp0 o,e=>au (iJ e) λt=>au (fU t.1) λv=>t.2.2.1.isEmpty&&(t.2.1.isEmpty&&(v.2.1==Str.ofString "pop"&&!eN v.1&&(v.2.2.endLine==t.2.2.2.line)&&aj c o v.1))
 |.mth m o es,e=>au (iJ e) λt=>au (fU t.1) λv=>t.2.2.1.isEmpty&&(v.2.1==Str.ofString m.name&&aj c o v.1&&!eN v.1&&(v.2.2.endLine==t.2.2.2.line)&&decide (t.2.1.length < 29)&&!t.2.1.isEmpty&&aM c es t.2.1)
 |.comp _ elt tg it cond N cap,e=>au (Fl e) λt=>(one t.2.1).any λg=>decide (g.is_async=0)&&bO c it g.target g.iter&&gJ c.N t.2.2.1 (N.map Str.ofString) cap&&jM c t.2.2.1&&eO (N.map Str.ofString) &&
    cD (c.comp (N.map Str.ofString) t.2.2.1) tg g.target&&((xZ cond&&g.ifs.isEmpty)||(one g.ifs).any λf=>bD (c.comp (N.map Str.ofString) t.2.2.1) cond f)&&aj (c.comp (N.map Str.ofString) t.2.2.1) elt t.1
 |.frz a,e=>aj c a e
noncomputable def bD(c:CT):Tx->Expr->Bool
 |.val x,e=>(iI e||lO e)&&aj c x e&&FW x
 |.not t,e=>au (jN e) λu=>lN u.1&&bD c t u.2.1
 |.boo isAnd t ts,e=>au (ue e) λu=>(hdT u.2.1).any λv=>u.1==(if isAnd then .And else .Or)&&bD c t v.1&&iM c ts v.2
 |.yes,_=>false
noncomputable def iM(c:CT):Txs->List Expr->Bool
 |.nil,es=>es.isEmpty
 |.cons t r,es=>match es with
  |e::es=>bD c t e&&iM c r es
  |[]=>false
noncomputable def aM(c:CT):Exs->List Expr->Bool
 |.nil,es=>es.isEmpty
 |.cons t r,es=>match es with
  |e::es=>aj c t e&&aM c r es
  |[]=>false
noncomputable def fV(c:CT):Ox->Option Expr->Bool
 |.no,e=>e.isNone
 |.ob x,e=>match e with
  |some e=>aj c x e
  |none=>false
noncomputable def bO(c:CT):It'->Expr->Expr->Bool
 |.seq x,_,e=>aj c x e
 |.rng a,_,e=>(bC e).any λt=>(one t.2.2.1).any λv=>t.1==Str.ofString "range"&&c.glo t.1&&c.bt.contains "range"&&aj c a v
 |.rng2 _ _,_,_=>false
 |.rev _,_,_=>false
 |.dwn _ _ _,_,_=>false
 |.enm a,tg,e=>au (gK tg) λ_=>(bC e).any λt=>(one t.2.2.1).any λv=>t.1==Str.ofString "enumerate"&&c.glo t.1&&c.bt.contains "enumerate"&&aj c a v
 |.zip a b,tg,e=>au (gK tg) λ_=>(bC e).any λt=>(two t.2.2.1).any λv=>t.1==Str.ofString "zip"&&c.glo t.1&&c.bt.contains "zip"&&aj c a v.1&&aj c b v.2
end
def lQ(c:CT)(cond:Tx)(ifs:List Expr):Bool:=(xZ cond&&ifs.isEmpty)||(one ifs).any λf=>bD c cond f
def Gi:Ex->Bool
 |.comp ..=>true
 |_=>false
def Gj:Expr->Bool
 |.Tuple ..=>true
 |_=>false
def yd(g:Tg)(x:Ex)(e:Expr):Bool:=match g with |.nm _=>!cN e||Gi x |.tp _=>!Gj e&&!cN e
noncomputable def lR(c:CT):Exs->List Expr->Bool
 |es,[]=>(match es with |.nil=>true |_=>false)
 |es,p::ps=>match yc p with
  |true=>lR c es ps
  |false=>(match es with |.cons x r=>(au (xX p) λt=>decide (t.2.1=-1)&&t.2.2.1.isNone&&aj c x t.1)&&lR c r ps |.nil=>false)
noncomputable def ug(c:CT)(es:Exs)(e:Expr):Bool:=(match es with |.nil=>yc e |_=>false)||au (aaP e) λt=>decide (2<=t.1.length)&&decide (t.1.length<=50)&&lR c es t.1
noncomputable def gM(c:CT):Tb->List Stmt->Bool
 |.call f es,sts=>(one sts).any λs0=>au (jP s0) λe0=>(bC e0.1).any λu=>(u.1==Str.ofString f&&c.glo u.1&&(c.fs.any λp=>p.1==f&&p.2==u.2.2.1.length)&&!u.2.2.1.isEmpty&&aM c es u.2.2.1)
 |.pick _ _ _ _,_=>false
 |.asg _ _ _,_=>false
 |.ite _ _ _,_=>false
 |.mcl _ _ _ _ _,_=>false
 |.mko C es,sts=>(one sts).any λs0=>au (jP s0) λe0=>aj c (.mko C es) e0.1
def ye(b:Bool):Const->Bool
 |.bool x=>x==b
 |_=>false
noncomputable def uh(c:CT)(h:Hd)(nm:Option Str)(y:Str)(e:Expr):Bool:=(match h with
 |.flag i b=>nm.isNone&&(c.N[i]?==some y)&&au (ud e) λk=>ye b k.1
 |.bind n i=>nm.any λx=>(c.N[i]?==some y)&&(c.N[n]?==some x)&&(c.kd.lookup x==some .local)&&okN x&&au (asName e) λz=>z.1==x)&&c.sto y&&okN y
mutual
noncomputable def aW(c:CT):Sx->Stmt->Bool
 |.exp x,st=>au (jP st) λt=>!cN t.1&&aj c x t.1
 |.asg g x,st=>au (iK st) λt=>(one t.1).any λtg=>cD c g tg&&aj c x t.2.1&&yd g x t.2.1
 |.set o i x,st=>au (iK st) λt=>(one t.1).any λtg=>au (jO tg) λu=>aj c o u.1&&aj c i u.2.1&&aj c x t.2.1&&!cN t.2.1
 |.aug i op x,st=>au (Fp st) λt=>au (asName t.1) λy=>t.2.1==op&&(c.N[i]?==some y.1)&&c.sto y.1&&okN y.1&&aj c x t.2.2.1
 |.augs _ _ _ _,_=>false
 |.ret x,st=>au (uf st) λt=>t.1.any λe=>aj c x e
 |.rtn,st=>au (uf st) λt=>t.1.isNone
 |.ite t a b,st=>au (Fw st) λu=>bD c t u.1&&aC c a u.2.1&&aC c b u.2.2.1
 |.for_ g it b,st=>au (Fx st) λt=>t.2.2.2.1.isEmpty&&(cD c g t.1&&bO c it t.1 t.2.1&&aC c b t.2.2.1)
 |.whl _ _,_=>false
 |.pas,st=>(Fy st).isSome
 |.brk,st=>(FJ st).isSome
 |.cnt,st=>(FN st).isSome
 |.nev,_=>true
 |.rse C es,st=>au (Fq st) λt=>t.2.1.isNone&&t.1.any λe=>(bC e).any λu=>u.1==Str.ofString C&&c.glo u.1&&c.xs.contains (C,true)&&(one u.2.2.1).any λm=>ug c es m
 |.tryc _ _ _ _ _,_=>false
 |.tryx b C h xs,st=>au (Ft st) λt=>t.2.2.1.isEmpty&&t.2.2.2.1.isEmpty&&gM c b t.1&&(xs.all λx=>c.xs.contains (x,true))&&!(C=="ValueError")&&(one t.2.1).any λhd=>au (Fv hd) λw=>w.1.any λte=>au (asName te) λn=>(n.1==Str.ofString C&&c.glo n.1&&c.xs.contains (C,false))&&(one w.2.2.1).any λs1=>au (iK s1) λa=>(one a.1).any λtg=>au (asName tg) λy=>uh c h w.2.1 y.1 a.2.1
noncomputable def aC(c:CT):Sxs->List Stmt->Bool
 |.nil,es=>es.isEmpty
 |.cons t r,es=>match es with
  |e::es=>aW c t e&&aC c r es
  |[]=>false
end
theorem yf{c:CT}{i:Nat}{e:Expr}(h:cD c (.nm i) e=true):∃x p,e=.Name x p/\((c.N[i]?==some x)&&c.sto x)=true:=by have h:(au (asName e) λt=>(c.N[i]?==some t.1)&&c.sto t.1)=true:=h;obtain ⟨t,ht,h⟩:=aK h;exact ⟨_,_,ht,h⟩
theorem yg{c:CT}{ts:Tgs}{e:Expr}(h:cD c (.tp ts) e=true):∃es k p,e=.Tuple es k p/\(cg c ts es)=true:=by have h:(au (gK e) λt=>cg c ts t.1)=true:=h;obtain ⟨t,ht,h⟩:=aK h;exact ⟨_,_,_,ht,h⟩
theorem Gk{c:CT}{i:Nat}{e:Expr}(h:aj c (.var i) e=true):∃x p,e=.Name x p/\((c.N[i]?==some x)&&iH (c.kd.lookup x)&&okN x)=true:=by have h:(au (asName e) λt=>(c.N[i]?==some t.1)&&iH (c.kd.lookup t.1)&&okN t.1)=true:=h;obtain ⟨t,ht,h⟩:=aK h;exact ⟨_,_,ht,h⟩
theorem Gm{c:CT}{d:D}{e:Expr}(h:aj c (.cst d) e=true):∃k n p,e=.Constant k n p/\(uc d k)=true:=by have h:(au (ud e) λt=>uc d t.1)=true:=h;obtain ⟨t,ht,h⟩:=aK h;exact ⟨_,_,_,ht,h⟩
theorem Gn{c:CT}{x:String}{d:D}{e:Expr}(h:aj c (.glb x d) e=true):∃y p,e=.Name y p/\(y==Str.ofString x&&c.glo y&&c.cn.any (λp=>p.1==x&&sEq p.2 d))=true:=by have h:(au (asName e) λt=>t.1==Str.ofString x&&c.glo t.1&&c.cn.any (λp=>p.1==x&&sEq p.2 d))=true:=h;obtain ⟨t,ht,h⟩:=aK h;exact ⟨_,_,ht,h⟩
theorem Gp{c:CT}{op:Operator}{fz:Bool}{a b:Ex}{e:Expr}(h:aj c (.bin op fz a b) e=true):∃l o r p,e=.BinOp l o r p/\(o==op&&aj c a l&&aj c b r)=true:=by have h:(au (Fg e) λt=>t.2.1==op&&aj c a t.1&&aj c b t.2.2.1)=true:=h;obtain ⟨t,ht,h⟩:=aK h;exact ⟨_,_,_,_,ht,h⟩
theorem Gq{c:CT}{a:Ex}{e:Expr}(h:aj c (.neg a) e=true):∃x p,e=.UnaryOp .USub x p/\(aj c a x)=true:=by have h:(au (jN e) λt=>xY t.1&&aj c a t.2.1)=true:=h;obtain ⟨t,ht,h⟩:=aK h;rw[ae]at h;exact ⟨_,_,by rw[ht,aaR h.1],h.2⟩
theorem Gs{c:CT}{a:Ex}{e:Expr}(h:aj c (.not a) e=true):∃x p,e=.UnaryOp .Not x p/\(aj c a x)=true:=by have h:(au (jN e) λt=>lN t.1&&aj c a t.2.1)=true:=h;obtain ⟨t,ht,h⟩:=aK h;rw[ae]at h;exact ⟨_,_,by rw[ht,FQ h.1],h.2⟩
theorem Gu{c:CT}{op:CmpOp}{a b:Ex}{e:Expr}(h:aj c (.cmp op a b) e=true):∃l o r p,e=.Compare l [o] [r] p/\(o==op&&aj c a l&&aj c b r)=true:=by have h:(au (lM e) λt=>(one t.2.1).any λo=>(one t.2.2.1).any λr=>o==op&&aj c a t.1&&aj c b r)=true:=h;obtain ⟨t,ht,h⟩:=aK h;obtain ⟨o,ho,h⟩:=aP h;obtain ⟨r,hr,h⟩:=aP h;exact ⟨_,_,_,_,by rw[ht,cO ho,cO hr],h⟩
theorem Gv{c:CT}{op op':CmpOp}{a b d:Ex}{e:Expr}(h:aj c (.chn op op' a b d) e=true):∃l o o' m r p,e=.Compare l [o,o'] [m,r] p/\(o==op&&o'==op'&&aj c a l&&aj c b m&&aj c d r)=true:=by have h:(au (lM e) λt=>(two t.2.1).any λo=>(two t.2.2.1).any λr=>o.1==op&&o.2==op'&&aj c a t.1&&aj c b r.1&&aj c d r.2)=true:=h;obtain ⟨t,ht,h⟩:=aK h;obtain ⟨o,ho,h⟩:=aP h;obtain ⟨r,hr,h⟩:=aP h;exact ⟨_,_,_,_,_,_,by rw[ht,jQ ho,jQ hr],h⟩
theorem Gw{c:CT}{isAnd:Bool}{x:Ex}{es:Exs}{e:Expr}(h:aj c (.boo isAnd x es) e=true):∃op v vs p,e=.BoolOp op (v::vs) p/\(op==(if isAnd then .And else .Or)&&aj c x v&&aM c es vs)=true:=by have h:(au (ue e) λt=>(hdT t.2.1).any λv=>t.1==(if isAnd then .And else .Or)&&aj c x v.1&&aM c es v.2)=true:=h;obtain ⟨t,ht,h⟩:=aK h;obtain ⟨v,hv,h⟩:=aP h;exact ⟨_,_,_,_,by rw[ht,FP hv],h⟩
theorem Gx{c:CT}{t:Tx}{a b:Ex}{e:Expr}(h:aj c (.ife t a b) e=true):∃t' a' b' p,e=.IfExp t' a' b' p/\(bD c t t'&&aj c a a'&&aj c b b')=true:=by have h:(au (Fi e) λu=>bD c t u.1&&aj c a u.2.1&&aj c b u.2.2.1)=true:=h;obtain ⟨u,ht,h⟩:=aK h;exact ⟨_,_,_,_,ht,h⟩
theorem Gy{c:CT}{es:Exs}{e:Expr}(h:aj c (.tup es) e=true):∃vs k p,e=.Tuple vs k p/\(aM c es vs)=true:=by have h:(au (gK e) λt=>aM c es t.1)=true:=h;obtain ⟨t,ht,h⟩:=aK h;exact ⟨_,_,_,ht,h⟩
theorem Gz{c:CT}{fz:Bool}{es:Exs}{e:Expr}(h:aj c (.lst fz es) e=true):∃vs p,e=.List vs p/\(aM c es vs)=true:=by have h:(au (asList e) λt=>aM c es t.1)=true:=h;obtain ⟨t,ht,h⟩:=aK h;exact ⟨_,_,ht,h⟩
theorem GC{c:CT}{a i:Ex}{e:Expr}(h:aj c (.idx a i) e=true):∃v s p,e=.Subscript v s p/\(aj c a v&&aj c i s)=true:=by have h:(au (jO e) λt=>aj c a t.1&&aj c i t.2.1)=true:=h;obtain ⟨t,ht,h⟩:=aK h;exact ⟨_,_,_,ht,h⟩
theorem GD{c:CT}{fz:Bool}{a:Ex}{lo hi:Ox}{e:Expr}(h:aj c (.slc fz a lo hi) e=true):∃v l u p' p,e=.Subscript v (.Slice l u none p') p/\(aj c a v&&fV c lo l&&fV c hi u)=true:=by have h:(au (jO e) λt=>au (Fj t.2.1) λs=>s.2.2.1.isNone&&(aj c a t.1&&fV c lo s.1&&fV c hi s.2.1))=true:=h;obtain ⟨t,ht,h⟩:=aK h;obtain ⟨s,hs,h⟩:=aK h;rw[ae,eA]at h;exact ⟨_,_,_,_,_,by rw[ht,hs,h.1],h.2⟩
theorem GF{c:CT}{f:String}{es:Exs}{e:Expr}(h:aj c (.call f es) e=true):∃x p args pos,e=.Call (.Name x p) args [] pos/\(x==Str.ofString f&&c.glo x&&(c.fs.any λp=>p.1==f&&p.2==args.length)&&!args.isEmpty&&aM c es args)=true:=by have h:((bC e).any λt=>t.1==Str.ofString f&&c.glo t.1&&(c.fs.any λp=>p.1==f&&p.2==t.2.2.1.length)&&!t.2.2.1.isEmpty&&aM c es t.2.2.1)=true:=h;obtain ⟨t,ht,h⟩:=aP h;exact ⟨_,_,_,_,dW ht,h⟩
theorem GJ{c:CT}{f:Bf}{es:Exs}{e:Expr}(h:aj c (.bcl f es) e=true):∃x p args pos,e=.Call (.Name x p) args [] pos/\(x==Str.ofString f.name&&xV f&&c.glo x&&c.bt.contains f.name&&!args.isEmpty&&aM c es args)=true:=by have h:((bC e).any λt=>t.1==Str.ofString f.name&&xV f&&c.glo t.1&&c.bt.contains f.name&&!t.2.2.1.isEmpty&&aM c es t.2.2.1)=true:=h;obtain ⟨t,ht,h⟩:=aP h;exact ⟨_,_,_,_,dW ht,h⟩
theorem GK{c:CT}{fz:Bool}{f:Lf}{es:Exs}{e:Expr}(h:aj c (.lcl fz f es) e=true):∃x p args pos,e=.Call (.Name x p) args [] pos/\(x==Str.ofString f.name&&xW f&&c.glo x&&c.bt.contains f.name&&!args.isEmpty&&aM c es args)=true:=by have h:((bC e).any λt=>t.1==Str.ofString f.name&&xW f&&c.glo t.1&&c.bt.contains f.name&&!t.2.2.1.isEmpty&&aM c es t.2.2.1)=true:=h;obtain ⟨t,ht,h⟩:=aP h;exact ⟨_,_,_,_,dW ht,h⟩
theorem GP {c:CT} {a:Ex} {t:String} {e:Expr} (h:aj c (.isi a t) e=true):∃x p v y p' pos,e=.Call (.Name x p) [v,.Name y p'] [] pos/\(x==Str.ofString "isinstance"&&c.glo x&&c.bt.contains "isinstance"&&aj c a v&&y==Str.ofString t&&c.glo y&&c.bt.contains t&&fL t)=true:=by have h:((bC e).any λu=>(two u.2.2.1).any λv=>au (asName v.2) λy=>u.1==Str.ofString "isinstance"&&c.glo u.1&&c.bt.contains "isinstance"&&aj c a v.1&&y.1==Str.ofString t&&c.glo y.1&&c.bt.contains t&&fL t)=true:=h;obtain ⟨u,hu,h⟩:=aP h;obtain ⟨v,hv,h⟩:=aP h;obtain ⟨y,hy,h⟩:=aK h;exact ⟨_,_,_,_,_,_,by rw[dW hu,jQ hv,hy],h⟩
theorem GQ {c:CT} {a:Ex} {C:String} {xs:List String} {e:Expr} (h:aj c (.isx a C xs) e=true):∃x p v y p' pos,e=.Call (.Name x p) [v,.Name y p'] [] pos/\(x==Str.ofString "isinstance"&&c.glo x&&c.bt.contains "isinstance"&&aj c a v&&y==Str.ofString C&&c.glo y&&c.xs.contains (C,false)&&xs.all λx=>c.xs.contains (x,true))=true:=by have h:((bC e).any λu=>(two u.2.2.1).any λv=>au (asName v.2) λy=>u.1==Str.ofString "isinstance"&&c.glo u.1&&c.bt.contains "isinstance"&&aj c a v.1&&y.1==Str.ofString C&&c.glo y.1&&c.xs.contains (C,false)&&xs.all λx=>c.xs.contains (x,true))=true:=h;obtain ⟨u,hu,h⟩:=aP h;obtain ⟨v,hv,h⟩:=aP h;obtain ⟨y,hy,h⟩:=aK h;exact ⟨_,_,_,_,_,_,by rw[dW hu,jQ hv,hy],h⟩
theorem GR{c:CT}{C f:String}{o:Ex}{e:Expr}(h:aj c (.fld C f o) e=true):∃v n p,e=.Attribute v n p/\(n==Str.ofString f&&!eN v&&c.ot.fl.contains (C,f)&&aj c o v)=true:=by have h:(au (fU e) λv=>v.2.1==Str.ofString f&&!eN v.1&&c.ot.fl.contains (C,f)&&aj c o v.1)=true:=h;obtain ⟨v,hv,h⟩:=aK h;exact ⟨_,_,_,hv,h⟩
theorem GX{c:CT}{f C m:String}{o:Ex}{es:Exs}{e:Expr}(h:aj c (.mcl f C m o es) e=true):∃y p n apos args cpos,e=.Call (.Attribute (.Name y p) n apos) args [] cpos/\(n==Str.ofString m&&(apos.endLine==cpos.line)&&decide (args.length < 29)&&c.ot.ms.contains (f,C,m,args.length+1)&&aj c o (.Name y p)&&aM c es args)=true:=by have h:(au (iJ e) λt=>au (fU t.1) λv=>au (asName v.1) λy=>t.2.2.1.isEmpty&&(v.2.1==Str.ofString m&&(v.2.2.endLine==t.2.2.2.line)&&decide (t.2.1.length < 29)&&c.ot.ms.contains (f,C,m,t.2.1.length+1)&&aj c o (.Name y.1 y.2)&&aM c es t.2.1))=true:=h;obtain ⟨t,ht,h⟩:=aK h;obtain ⟨v,hv,h⟩:=aK h;obtain ⟨y,hy,h⟩:=aK h;rw[ae,eT]at h;exact ⟨_,_,_,_,_,_,by rw[ht,hv,hy,h.1],h.2⟩
theorem yh{c:CT}{C:String}{es:Exs}{e:Expr}(h:aj c (.mko C es) e=true):∃x p args pos,e=.Call (.Name x p) args [] pos/\(x==Str.ofString C&&c.glo x&&c.ot.ks.contains (C,args.length)&&!args.isEmpty&&aM c es args)=true:=by have h:((bC e).any λt=>t.1==Str.ofString C&&c.glo t.1&&c.ot.ks.contains (C,t.2.2.1.length)&&!t.2.2.1.isEmpty&&aM c es t.2.2.1)=true:=h;obtain ⟨t,ht,h⟩:=aP h;exact ⟨_,_,_,_,dW ht,h⟩
theorem GZ {c:CT} {o:Ex} {e:Expr} (h:aj c (.pp0 o) e=true):∃v n apos cpos,e=.Call (.Attribute v n apos) [] [] cpos/\(n==Str.ofString "pop"&&!eN v&&(apos.endLine==cpos.line)&&aj c o v)=true:=by have h:(au (iJ e) λt=>au (fU t.1) λv=>t.2.2.1.isEmpty&&(t.2.1.isEmpty&&(v.2.1==Str.ofString "pop"&&!eN v.1&&(v.2.2.endLine==t.2.2.2.line)&&aj c o v.1)))=true:=h;obtain ⟨t,ht,h⟩:=aK h;obtain ⟨v,hv,h⟩:=aK h;rw[ae,eT,ae,eT]at h;exact ⟨_,_,_,_,by rw[ht,hv,h.1,h.2.1],h.2.2⟩
theorem Ha{c:CT}{m:Mf}{o:Ex}{es:Exs}{e:Expr}(h:aj c (.mth m o es) e=true):∃v x apos args cpos,e=.Call (.Attribute v x apos) args [] cpos/\(x==Str.ofString m.name&&aj c o v&&!eN v&&(apos.endLine==cpos.line)&&decide (args.length < 29)&&!args.isEmpty&&aM c es args)=true:=by have h:(au (iJ e) λt=>au (fU t.1) λv=>t.2.2.1.isEmpty&&(v.2.1==Str.ofString m.name&&aj c o v.1&&!eN v.1&&(v.2.2.endLine==t.2.2.2.line)&&decide (t.2.1.length < 29)&&!t.2.1.isEmpty&&aM c es t.2.1))=true:=h;obtain ⟨t,ht,h⟩:=aK h;obtain ⟨v,hv,h⟩:=aK h;rw[ae,eT]at h;exact ⟨_,_,_,_,_,by rw[ht,hv,h.1],h.2⟩
theorem Hb{c:CT}{fz:Bool}{elt:Ex}{tg:Tg}{it:It'}{cond:Tx}{N:List String}{cap:List (Option Nat)}{e:Expr}(h:aj c (.comp fz elt tg it cond N cap) e=true):∃elt' tg' iter ifs as scope pos,e=.ListComp elt' [⟨tg',iter,ifs,as⟩] scope pos/\(decide (as=0)&&bO c it tg' iter&&gJ c.N scope (N.map Str.ofString) cap&&jM c scope&&eO (N.map Str.ofString)&&cD (c.comp (N.map Str.ofString) scope) tg tg'&&lQ (c.comp (N.map Str.ofString) scope) cond ifs&&aj (c.comp (N.map Str.ofString) scope) elt elt')=true:=by have h:(au (Fl e) λt=>(one t.2.1).any λg=>decide (g.is_async=0)&&bO c it g.target g.iter&&gJ c.N t.2.2.1 (N.map Str.ofString) cap&&jM c t.2.2.1&&eO (N.map Str.ofString)&&cD (c.comp (N.map Str.ofString) t.2.2.1) tg g.target&&((xZ cond&&g.ifs.isEmpty)||(one g.ifs).any λf=>bD (c.comp (N.map Str.ofString) t.2.2.1) cond f)&&aj (c.comp (N.map Str.ofString) t.2.2.1) elt t.1)=true:=h;obtain ⟨t,ht,h⟩:=aK h;obtain ⟨⟨tg',iter,ifs,as⟩,hg,h⟩:=aP h;exact ⟨t.1,tg',iter,ifs,as,t.2.2.1,t.2.2.2,(ht).trans (by rw[cO hg]),h⟩
theorem aaU{c:CT}{t:Tx}{e:Expr}(h:bD c (.not t) e=true):∃x p,e=.UnaryOp .Not x p/\(bD c t x)=true:=by have h:(au (jN e) λu=>lN u.1&&bD c t u.2.1)=true:=h;obtain ⟨u,ht,h⟩:=aK h;rw[ae]at h;exact ⟨_,_,by rw[ht,FQ h.1],h.2⟩
theorem aaV{c:CT}{isAnd:Bool}{x:Tx}{es:Txs}{e:Expr}(h:bD c (.boo isAnd x es) e=true):∃op v vs p,e=.BoolOp op (v::vs) p/\(op==(if isAnd then .And else .Or)&&bD c x v&&iM c es vs)=true:=by have h:(au (ue e) λu=>(hdT u.2.1).any λv=>u.1==(if isAnd then .And else .Or)&&bD c x v.1&&iM c es v.2)=true:=h;obtain ⟨t,ht,h⟩:=aK h;obtain ⟨v,hv,h⟩:=aP h;exact ⟨_,_,_,_,by rw[ht,FP hv],h⟩
theorem Hc {c:CT} {a:Ex} {tg e:Expr} (h:bO c (.rng a) tg e=true):∃x p v pos,e=.Call (.Name x p) [v] [] pos/\(x==Str.ofString "range"&&c.glo x&&c.bt.contains "range"&&aj c a v)=true:=by have h:((bC e).any λt=>(one t.2.2.1).any λv=>t.1==Str.ofString "range"&&c.glo t.1&&c.bt.contains "range"&&aj c a v)=true:=h;obtain ⟨t,ht,h⟩:=aP h;obtain ⟨v,hv,h⟩:=aP h;exact ⟨_,_,_,_,by rw[dW ht,cO hv],h⟩
theorem Hf {c:CT} {a:Ex} {tg e:Expr} (h:bO c (.enm a) tg e=true):∃ts k p0 x p v pos,tg=.Tuple ts k p0/\e=.Call (.Name x p) [v] [] pos/\(x==Str.ofString "enumerate"&&c.glo x&&c.bt.contains "enumerate"&&aj c a v)=true:=by have h:(au (gK tg) λ_=>(bC e).any λt=>(one t.2.2.1).any λv=>t.1==Str.ofString "enumerate"&&c.glo t.1&&c.bt.contains "enumerate"&&aj c a v)=true:=h;obtain ⟨g,hg,h⟩:=aK h;obtain ⟨t,ht,h⟩:=aP h;obtain ⟨v,hv,h⟩:=aP h;exact ⟨_,_,_,_,_,_,_,hg,by rw[dW ht,cO hv],h⟩
theorem Hg {c:CT} {a b:Ex} {tg e:Expr} (h:bO c (.zip a b) tg e=true):∃ts k p0 x p v v' pos,tg=.Tuple ts k p0/\e=.Call (.Name x p) [v,v'] [] pos/\(x==Str.ofString "zip"&&c.glo x&&c.bt.contains "zip"&&aj c a v&&aj c b v')=true:=by have h:(au (gK tg) λ_=>(bC e).any λt=>(two t.2.2.1).any λv=>t.1==Str.ofString "zip"&&c.glo t.1&&c.bt.contains "zip"&&aj c a v.1&&aj c b v.2)=true:=h;obtain ⟨g,hg,h⟩:=aK h;obtain ⟨t,ht,h⟩:=aP h;obtain ⟨v,hv,h⟩:=aP h;exact ⟨_,_,_,_,_,_,_,_,hg,by rw[dW ht,jQ hv],h⟩
theorem aaW{c:CT}{x:Ex}{st:Stmt}(h:aW c (.exp x) st=true):∃e pos,st=.Expr e pos/\(!cN e&&aj c x e)=true:=by have h:(au (jP st) λt=>!cN t.1&&aj c x t.1)=true:=h;obtain ⟨t,ht,h⟩:=aK h;exact ⟨_,_,ht,h⟩
theorem Hh{c:CT}{g:Tg}{x:Ex}{st:Stmt}(h:aW c (.asg g x) st=true):∃tg e pos,st=.Assign [tg] e pos/\(cD c g tg&&aj c x e&&yd g x e)=true:=by have h:(au (iK st) λt=>(one t.1).any λtg=>cD c g tg&&aj c x t.2.1&&yd g x t.2.1)=true:=h;obtain ⟨t,ht,h⟩:=aK h;obtain ⟨g,hg,h⟩:=aP h;exact ⟨_,_,_,by rw[ht,cO hg],h⟩
theorem aaX{c:CT}{o i x:Ex}{st:Stmt}(h:aW c (.set o i x) st=true):∃o' i' tpos e pos,st=.Assign [.Subscript o' i' tpos] e pos/\(aj c o o'&&aj c i i'&&aj c x e&&!cN e)=true:=by have h:(au (iK st) λt=>(one t.1).any λtg=>au (jO tg) λu=>aj c o u.1&&aj c i u.2.1&&aj c x t.2.1&&!cN t.2.1)=true:=h;obtain ⟨t,ht,h⟩:=aK h;obtain ⟨g,hg,h⟩:=aP h;obtain ⟨u,hu,h⟩:=aK h;exact ⟨_,_,_,_,_,by rw[ht,cO hg,hu],h⟩
theorem aaY{c:CT}{i:Nat}{op:Operator}{x:Ex}{st:Stmt}(h:aW c (.aug i op x) st=true):∃y py o e pos,st=.AugAssign (.Name y py) o e pos/\(o==op&&(c.N[i]?==some y)&&c.sto y&&okN y&&aj c x e)=true:=by have h:(au (Fp st) λt=>au (asName t.1) λy=>t.2.1==op&&(c.N[i]?==some y.1)&&c.sto y.1&&okN y.1&&aj c x t.2.2.1)=true:=h;obtain ⟨t,ht,h⟩:=aK h;obtain ⟨u,hu,h⟩:=aK h;exact ⟨_,_,_,_,_,by rw[ht,hu],h⟩
theorem aaZ{c:CT}{C:String}{es:Exs}{st:Stmt}(h:aW c (.rse C es) st=true):∃x np m cpos pos,st=.Raise (some (.Call (.Name x np) [m] [] cpos)) none pos/\(x==Str.ofString C&&c.glo x&&c.xs.contains (C,true)&&ug c es m)=true:=by have h:(au (Fq st) λt=>t.2.1.isNone&&t.1.any λe=>(bC e).any λu=>u.1==Str.ofString C&&c.glo u.1&&c.xs.contains (C,true)&&(one u.2.2.1).any λm=>ug c es m)=true:=h;obtain ⟨t,ht,h⟩:=aK h;rw[ae,eA]at h;obtain ⟨e,he,h2⟩:=aP h.2;obtain ⟨u,hu,h3⟩:=aP h2;rw[ae]at h3;obtain ⟨m,hm,h4⟩:=aP h3.2;exact ⟨_,_,m,_,_,by rw[ht,h.1,he,dW hu,cO hm],by rw[ae];exact ⟨h3.1,h4⟩⟩
theorem aa0{b:Bool}{k:Const}(h:ye b k=true):k=.bool b:=by
 cases k <;> first | (cases h;done) |skip
 rw[show ye b (.bool _)=(_==b) from rfl,ar]at h;rw[h]
theorem aa1{c:CT}{b:Tb}{C:String}{h:Hd}{xs:List String}{st:Stmt}(hh:aW c (.tryx b C h xs) st=true):
  ∃body cx p1 nm y p2 e p4 p5 pos,st=.Try body [.ExceptHandler (some (.Name cx p1)) nm [.Assign [.Name y p2] e p4] p5] [] [] pos/\
   gM c b body=true/\(xs.all λx=>c.xs.contains (x,true))=true/\(C=="ValueError")=false/\(cx==Str.ofString C&&c.glo cx&&c.xs.contains (C,false))=true/\uh c h nm y e=true:=by
 have hh:(au (Ft st) λt=>t.2.2.1.isEmpty&&t.2.2.2.1.isEmpty&&gM c b t.1&&(xs.all λx=>c.xs.contains (x,true))&&!(C=="ValueError")&&(one t.2.1).any λhd=>au (Fv hd) λw=>w.1.any λte=>au (asName te) λn=>(n.1==Str.ofString C&&c.glo n.1&&c.xs.contains (C,false))&&(one w.2.2.1).any λs1=>au (iK s1) λa=>(one a.1).any λtg=>au (asName tg) λy=>uh c h w.2.1 y.1 a.2.1)=true:=hh;obtain ⟨t,ht,h1⟩:=aK hh;simp only[ae,eT,eP]at h1;obtain ⟨⟨⟨⟨⟨e1,e2⟩,hx⟩,ha⟩,hv⟩,h2⟩:=h1;obtain ⟨hd,hhd,h3⟩:=aP h2;obtain ⟨w,hw,h3⟩:=aK h3;obtain ⟨te,hte,h4⟩:=aP h3;obtain ⟨n,hn',h4⟩:=aK h4;simp only[ae]at h4;obtain ⟨s1,hs1,h5⟩:=aP h4.2;obtain ⟨a,ha',h5⟩:=aK h5;obtain ⟨tg,htg,h5⟩:=aP h5;obtain ⟨y,hy,h5⟩:=aK h5;exact ⟨_,_,_,_,_,_,_,_,_,_,by rw[ht,e1,e2,cO hhd,hw,hte,hn',cO hs1,ha',cO htg,hy],hx,ha,hv,by simp only[ae];exact h4.1,h5⟩
theorem aa2{c:CT}{C:String}{es:Exs}{sts:List Stmt}(h:gM c (.mko C es) sts=true):∃e p0,sts=[.Expr e p0]/\aj c (.mko C es) e=true:=by have h:((one sts).any λs0=>au (jP s0) λe0=>aj c (.mko C es) e0.1)=true:=h;obtain ⟨s0,hs0,h⟩:=aP h;obtain ⟨e0,he0,h⟩:=aK h;exact ⟨_,_,by rw[cO hs0,he0],h⟩
theorem aa3{c:CT}{f:String}{es:Exs}{sts:List Stmt}(h:gM c (.call f es) sts=true):∃x p args cpos p0,sts=[.Expr (.Call (.Name x p) args [] cpos) p0]/\
   (x==Str.ofString f&&c.glo x&&(c.fs.any λp=>p.1==f&&p.2==args.length)&&!args.isEmpty&&aM c es args)=true:=by
 have h:((one sts).any λs0=>au (jP s0) λe0=>(bC e0.1).any λu=>(u.1==Str.ofString f&&c.glo u.1&&(c.fs.any λp=>p.1==f&&p.2==u.2.2.1.length)&&!u.2.2.1.isEmpty&&aM c es u.2.2.1))=true:=h;obtain ⟨s0,hs0,h⟩:=aP h;obtain ⟨e0,he0,h⟩:=aK h;obtain ⟨u,hu,h⟩:=aP h;exact ⟨_,_,_,_,_,by rw[cO hs0,he0,dW hu],h⟩
theorem aa4{c:CT}{x:Ex}{st:Stmt}(h:aW c (.ret x) st=true):∃e pos,st=.Return (some e) pos/\(aj c x e)=true:=by have h:(au (uf st) λt=>t.1.any λe=>aj c x e)=true:=h;obtain ⟨t,ht,h⟩:=aK h;obtain ⟨e,he,h⟩:=aP h;exact ⟨_,_,by rw[ht,he],h⟩
theorem aa5{c:CT}{st:Stmt}(h:aW c .rtn st=true):∃pos,st=.Return none pos/\(true)=true:=by have h:(au (uf st) λt=>t.1.isNone)=true:=h;obtain ⟨t,ht,h⟩:=aK h;rw[eA]at h;exact ⟨_,by rw[ht,h],rfl⟩
theorem aa6{c:CT}{t:Tx}{a b:Sxs}{st:Stmt}(h:aW c (.ite t a b) st=true):∃t' a' b' pos,st=.If t' a' b' pos/\(bD c t t'&&aC c a a'&&aC c b b')=true:=by have h:(au (Fw st) λu=>bD c t u.1&&aC c a u.2.1&&aC c b u.2.2.1)=true:=h;obtain ⟨u,ht,h⟩:=aK h;exact ⟨_,_,_,_,ht,h⟩
theorem aa7{c:CT}{g:Tg}{it:It'}{b:Sxs}{st:Stmt}(h:aW c (.for_ g it b) st=true):∃tg iter body pos,st=.For tg iter body [] pos/\(cD c g tg&&bO c it tg iter&&aC c b body)=true:=by have h:(au (Fx st) λt=>t.2.2.2.1.isEmpty&&(cD c g t.1&&bO c it t.1 t.2.1&&aC c b t.2.2.1))=true:=h;obtain ⟨t,ht,h⟩:=aK h;rw[ae,eT]at h;exact ⟨_,_,_,_,by rw[ht,h.1],h.2⟩
theorem aa8{c:CT}{st:Stmt}(h:aW c .pas st=true):∃pos,st=.Pass pos/\(true)=true:=by obtain ⟨⟨t,ht⟩,_⟩:=cq.mp (show (Fy st).isSome=true from h);exact ⟨t,ht,rfl⟩
theorem aa9{c:CT}{st:Stmt}(h:aW c .brk st=true):∃pos,st=.Break pos/\(true)=true:=by obtain ⟨⟨t,ht⟩,_⟩:=cq.mp (show (FJ st).isSome=true from h);exact ⟨t,ht,rfl⟩
theorem aba{c:CT}{st:Stmt}(h:aW c .cnt st=true):∃pos,st=.Continue pos/\(true)=true:=by obtain ⟨⟨t,ht⟩,_⟩:=cq.mp (show (FN st).isSome=true from h);exact ⟨t,ht,rfl⟩
def lU:Expr->Bool
 |.Starred ..=>false
 |.Set ..=>false
 |.Slice ..=>false
 |_=>true
theorem bF{c:CT}:∀(x:Ex){e:Expr},aj c x e=true->lU e=true
 |.frz a,e,h=>bF a (show aj c a e=true from h)
 |.var _,e,h=>by obtain ⟨_,_,rfl,_⟩:=Gk h;rfl
 |.cst _,e,h=>by obtain ⟨_,_,_,rfl,_⟩:=Gm h;rfl
 |.glb _ _,e,h=>by obtain ⟨_,_,rfl,_⟩:=Gn h;rfl
 |.bin _ _ _ _,e,h=>by obtain ⟨_,_,_,_,rfl,_⟩:=Gp h;rfl
 |.neg _,e,h=>by obtain ⟨_,_,rfl,_⟩:=Gq h;rfl
 |.cmp _ _ _,e,h=>by obtain ⟨_,_,_,_,rfl,_⟩:=Gu h;rfl
 |.chn _ _ _ _ _,e,h=>by obtain ⟨_,_,_,_,_,_,rfl,_⟩:=Gv h;rfl
 |.not _,e,h=>by obtain ⟨_,_,rfl,_⟩:=Gs h;rfl
 |.boo _ _ _,e,h=>by obtain ⟨_,_,_,_,rfl,_⟩:=Gw h;rfl
 |.ife _ _ _,e,h=>by obtain ⟨_,_,_,_,rfl,_⟩:=Gx h;rfl
 |.tup _,e,h=>by obtain ⟨_,_,_,rfl,_⟩:=Gy h;rfl
 |.lst _ _,e,h=>by obtain ⟨_,_,rfl,_⟩:=Gz h;rfl
 |.idx _ _,e,h=>by obtain ⟨_,_,_,rfl,_⟩:=GC h;rfl
 |.slc _ _ _ _,e,h=>by obtain ⟨_,_,_,_,_,rfl,_⟩:=GD h;rfl
 |.rvs _ _ _,_,h=>nomatch (show false=true from h)
 |.call _ _,e,h=>by obtain ⟨_,_,_,_,rfl,_⟩:=GF h;rfl
 |.bcl _ _,e,h=>by obtain ⟨_,_,_,_,rfl,_⟩:=GJ h;rfl
 |.lcl _ _ _,e,h=>by obtain ⟨_,_,_,_,rfl,_⟩:=GK h;rfl
 |.isi _ _,e,h=>by obtain ⟨_,_,_,_,_,_,rfl,_⟩:=GP h;rfl
 |.rgl _ _,_,h=>nomatch (show false=true from h)
 |.rgt _,_,h=>nomatch (show false=true from h)
 |.fst _,_,h=>nomatch (show false=true from h)
 |.isx _ _ _,e,h=>by obtain ⟨_,_,_,_,_,_,rfl,_⟩:=GQ h;rfl
 |.rpl _ _ _ _,_,h=>nomatch (show false=true from h)
 |.fld _ _ _,e,h=>by obtain ⟨_,_,_,rfl,_⟩:=GR h;rfl
 |.mcl _ _ _ _ _,e,h=>by obtain ⟨_,_,_,_,_,_,rfl,_⟩:=GX h;rfl
 |.mko _ _,e,h=>by obtain ⟨_,_,_,_,rfl,_⟩:=yh h;rfl
 |.pp0 _,e,h=>by obtain ⟨_,_,_,_,rfl,_⟩:=GZ h;rfl
 |.mth _ _ _,e,h=>by obtain ⟨_,_,_,_,_,rfl,_⟩:=Ha h;rfl
 |.comp _ _ _ _ _ _ _,e,h=>by obtain ⟨_,_,_,_,_,_,_,rfl,_⟩:=Hb h;rfl
theorem cj{e:Expr}(h:lU e=true):noStar e=true:=by cases e <;> first |rfl |exact nomatch (show false=true from h)
theorem Hi{e:Expr}(h:lU e=true)(op:CmpOp):behindInMarks op e=false:=by cases e <;> first |rfl |exact nomatch (show false=true from h)
theorem abb{e:Expr}(h:lU e=true)(env:Env)(x:Value):foldedSetIterable e env x=pure x:=by cases e <;> first |rfl |exact nomatch (show false=true from h)
theorem abd{e:Expr}(h:lU e=true):Cm e:=by intro o i;cases e <;> first |rfl |exact nomatch (show false=true from h)
theorem abe{e:Expr}(h:iI e=true)(env:Env)(whole:Sem Value):isTrue e env whole=(do let v <-whole;standAt e.pos;holding [v] (truthy v)):=by
 cases e with
 |UnaryOp op x p=>cases op <;> first |rfl |exact nomatch (show false=true from h)
 |_=>first |rfl |exact nomatch (show false=true from h)
def XV(K:PF)(H:Hp)(F:FZ)(x:Xn)(cv:Value)(od:Option Addr):Prop:=
 ∃C,cv=.ref C/\PySem.W.nsIn K mainGlobals (Str.ofString x.cls)=some (some (.ref C))/\
  match x.fld with
  |.non=>True
  |d=>∃a f v,od=some a/\H a=some (.xd [(f,v)])/\Rep K H F d v
def XR(K:PF)(H:Hp)(F:FZ)(x:Xn)(EX:XK):Prop:=∀cv od,XV K H F x cv od->EX cv od H
def PX(K:PF)(H:Hp)(F:FZ)(EX:XK):EK:=λx G'=>∀H' F',Ext H F H' F'->R K H' F' G'->XR K H' F' x EX
theorem el{α β γ:Type}{p q r s:α->β->γ->Prop}{C:Prop}(h:∃x y z,p x y z/\q x y z/\r x y z/\s x y z)(k:∀x y z,p x y z->q x y z->r x y z->s x y z->C):C:=by obtain ⟨x,y,z,h1,h2,h3,h4⟩:=h;exact k x y z h1 h2 h3 h4
def lift(K:PF)(n:Nat)(S:RF.Spec):Sp:=λvs H Q EX=>vs.length=n/\∃F G ds,R K H F G/\Reps K H F ds vs/\S.t ds G (PV K H F Q) (PX K H F EX)
def CV(K:PF)(mg:Str->Option Value)(C':String)(cv:V):Prop:=
 (∃a,cv=.ref a/\mg (Str.ofString C')=some (.ref a)/\qG K a=true)\/(C'="ValueError"/\cv=.ty "ValueError"/\mg (Str.ofString C')=none)
def XI(K:PF)(C C':String)(cv:V):Prop:=
 ∃c,PySem.W.nsIn K mainGlobals (Str.ofString C)=some (some (.ref c))/\lw K c=true/\PySem.W.mroIn K c (valOf cv)=some (bA C C')/\(bA C C'=false->(Value.ref c==valOf cv)=false)
theorem CV.ok{K:PF}{mg:Str->Option Value}{C':String}{cv:V}(h:CV K mg C' cv):jr K (valOf cv)=true:=by
 rcases h with ⟨a,rfl,_,h⟩ |⟨_,rfl,_⟩
 ·have kc:=DK h;show ((PySem.W.clsIn K a).isSome&&PySem.W.typeIn K (.ref a)==some (.type "type"))=true;rw[kc.c,kc.t];rfl
 ·rfl
structure Bs where
 H:Hp
 F:FZ
def yj(K:PF)(C f:String):Prop:=∃c,PySem.W.nsIn K mainGlobals (Str.ofString C)=some (some (.ref c))/\Cls K c/\NoAttr K c (Str.ofString f)
def MthOk(Φ:aa)(P:Program)(w:World)(K:PF)(mg:Str->Option Value)(base:Heap)(CX:CXT)(k:Nat)(f C m:String)(n:Nat):Prop:=
 ∃c fa fd ps,PySem.W.nsIn K mainGlobals (Str.ofString C)=some (some (.ref c))/\Cls K c/\Meth K c (Str.ofString m) fa/\Binds K fd ps []/\FnOk P w K mg base CX k fa fd ps (lift K n (Φ f))
def MkoOk(Φ:aa)(P:Program)(w:World)(K:PF)(mg:Str->Option Value)(base:Heap)(CX:CXT)(k:Nat)(C:String)(n:Nat):Prop:=
 ∃c fa fd ps sp j,j+1<=k/\mg (Str.ofString C)=some (.ref c)/\Mk K c fa/\Binds K fd ps []/\FnOk P w K mg base CX j fa fd ps sp/\
  ∀vs H Q E,lift K n (Φ C) vs H Q E->∀x dx,H x=none->H dx=none->dx≠x->sp (.ref x::vs) (upd (upd H dx (.own x)) x (.ins c dx [])) (λv H2=>v=.non/\Q (.ref x) H2) E
structure Stat(Φ:aa)(CX:CXT)(k:Nat)(c:CT)(E:EK)(B:Bs)(X:Cx):Prop where
 N:X.N=c.N
 nd:X.N.Nodup
 calm:X.calm=true
 own:PassesOwn (model X.prog X.w) X.A X.env X.xe
 kd:X.env.kindOf=λx=>X.env.scope.names.lookup x
 vis:∀x,iH (c.kd.lookup x)=true->Vis X.env.scope x
 cel:∀x,(c.kd.lookup x=some .cell\/c.kd.lookup x=some .free)->(X.env.kindOf x=some .cell\/X.env.kindOf x=some .free)
 glo:∀x,c.kd.lookup x=some .globalImplicit->Gl X x
 sto:∀x,c.sto x=true->Loc X.env.scope x/\(X.fn x=true\/X.env.scope.names.lookup x=some .local)
 room:Room k X.A
 call:∀f n,(f,n)∈c.fs->∃fa fd ps,FnOk X.prog X.w X.K X.mg X.base CX k fa fd ps (lift X.K n (Φ f))/\PySem.W.keepIn X.K (.ref fa)=true/\Binds X.K fd ps []/\X.mg (Str.ofString f)=some (.ref fa)
 blt:∀f,f∈c.bt->X.mg (Str.ofString f)=none
 con:∀x d,(x,d)∈c.cn->∃u v,X.mg (Str.ofString x)=some u/\RelV v u/\∀H F,Rep X.K H F d v
 exc:∃EX,eG CX X EX/\Throws X EX/\∀x G' H' F',E x G'->Ext B.H B.F H' F'->R X.K H' F' G'->XR X.K H' F' x EX
 nox:∀(Y:Cx),eG CX Y λ_ _ _=>False
 xcl:∀C,c.xs.contains (C,true)=true->∃a,X.mg (Str.ofString C)=some (.ref a)/\iw X.K a=true/\PySem.W.nsIn X.K mainGlobals (Str.ofString C)=some (some (.ref a))
 loc:∀x,c.kd.lookup x=some .local->X.env.scope.names.lookup x=some .local
 xis:∀C',c.xs.contains (C',false)=true->∃cv,CV X.K X.mg C' cv/\∀C,c.xs.contains (C,true)=true->XI X.K C C' cv
 mth:∀f C m n,(f,C,m,n)∈c.ot.ms->MthOk Φ X.prog X.w X.K X.mg X.base CX k f C m n
 mko:∀C n,(C,n)∈c.ot.ks->MkoOk Φ X.prog X.w X.K X.mg X.base CX k C n
 fld:∀C f,(C,f)∈c.ot.fl->yj X.K C f
 trc:c.xs≠[]->CX=CX1 X.prog X.w/\X.stack=X.env::X.outer/\X.ex=[]
def tE(K:PF)(B:Bs)(w:ak->DH->(D->DH->Prop)->Prop):TE:=λσ H Q=>∃ρ F G,Ext B.H B.F H F/\EnvR K H F ρ σ/\R K H F G/\w ρ G (PV K H F Q)
def tB'(K:PF)(B:Bs)(w:ak->DH->(Bool->DH->Prop)->Prop):TT:=λσ H Q=>∃ρ F G,Ext B.H B.F H F/\EnvR K H F ρ σ/\R K H F G/\w ρ G (PB K H F Q)
def tL(K:PF)(B:Bs)(w:ak->DH->(List D->DH->Prop)->Prop):TA:=λσ H Q=>∃ρ F G,Ext B.H B.F H F/\EnvR K H F ρ σ/\R K H F G/\w ρ G (PLs K H F Q)
noncomputable def POp(K:PF)(H:Hp)(F:FZ)(Q:Option Int->Hp->Prop):Option Int->DH->Prop:=λb G'=>∀H' F',Ext H F H' F'->R K H' F' G'->Q b H'
def Hj(K:PF)(B:Bs)(w:ak->DH->(Option Int->DH->Prop)->Prop):TO:=λσ H Q=>∃ρ F G,Ext B.H B.F H F/\EnvR K H F ρ σ/\R K H F G/\w ρ G (POp K H F Q)
theorem peI{X:Cx}{e:Expr}{t t':TE}(h:PE X e t)(i:∀σ H Q,t' σ H Q->t σ H Q):PE X e t':=λpins s σ H Q I q=>h pins s σ H Q I (i σ H Q q)
theorem ptI{X:Cx}{e:Expr}{t t':TT}(h:PT X e t)(i:∀σ H Q,t' σ H Q->t σ H Q):PT X e t':=λpins s σ H Q I q=>h pins s σ H Q I (i σ H Q q)
theorem pwI{X:Cx}{e:Expr}{t t':TT}(h:PW X e t)(i:∀σ H Q,t' σ H Q->t σ H Q):PW X e t':=λwh pins s σ H Q I q=>h wh pins s σ H Q I (i σ H Q q)
theorem paI{X:Cx}{e:List Expr}{t t':TA}(h:PA X e t)(i:∀σ H Q,t' σ H Q->t σ H Q):PA X e t':=λpos pins s σ H Q I q=>h pos pins s σ H Q I (i σ H Q q)
section
variable {Φ:aa} {CX:CXT} {k:Nat} {c:CT} {E:EK} {B:Bs} {X:Cx}
theorem aO{K:PF}{x:Ex}{σ:L2.St}{H:Hp}{F:FZ}{G:DH}{ρ:ak}{W:D->DH->Prop}{Q:VK}(e0:Ext B.H B.F H F)(he:EnvR K H F ρ σ)(r:R K H F G)(hw:wpE Φ x E ρ G W)
  (h:∀d G1 H1 F1 v,W d G1->Ext B.H B.F H1 F1->Ext H F H1 F1->EnvR K H1 F1 ρ σ->R K H1 F1 G1->Rep K H1 F1 d v->Q v H1):tE K B (wpE Φ x E) σ H Q:=
 ⟨ρ,F,G,e0,he,r,aB x (λd G1 q H1 F1 v x1 r1 rv=>h d G1 H1 F1 v q (e0.trans x1) x1 (he.ext x1) r1 rv) hw⟩
theorem bQ{K:PF}{x:Exs}{σ:L2.St}{H:Hp}{F:FZ}{G:DH}{ρ:ak}{W:List D->DH->Prop}{Q:List V->Hp->Prop}(e0:Ext B.H B.F H F)(he:EnvR K H F ρ σ)(r:R K H F G)(hw:aN Φ x E ρ G W)
  (h:∀d G1 H1 F1 v,W d G1->Ext B.H B.F H1 F1->Ext H F H1 F1->EnvR K H1 F1 ρ σ->R K H1 F1 G1->Reps K H1 F1 d v->Q v H1):tL K B (aN Φ x E) σ H Q:=
 ⟨ρ,F,G,e0,he,r,b8 x (λd G1 q H1 F1 v x1 r1 rv=>h d G1 H1 F1 v q (e0.trans x1) x1 (he.ext x1) r1 rv) hw⟩
theorem jR{K:PF}{x:Tx}{σ:L2.St}{H:Hp}{F:FZ}{G:DH}{ρ:ak}{W:Bool->DH->Prop}{Q:Bool->Hp->Prop}(e0:Ext B.H B.F H F)(he:EnvR K H F ρ σ)(r:R K H F G)(hw:wpT Φ x E ρ G W)
  (h:∀d G1 H1 F1,W d G1->Ext B.H B.F H1 F1->Ext H F H1 F1->EnvR K H1 F1 ρ σ->R K H1 F1 G1->Q d H1):tB' K B (wpT Φ x E) σ H Q:=
 ⟨ρ,F,G,e0,he,r,cZ x (λd G1 q H1 F1 x1 r1=>h d G1 H1 F1 q (e0.trans x1) x1 (he.ext x1) r1) hw⟩
theorem Hk{K:PF}{x:Ox}{σ:L2.St}{H:Hp}{F:FZ}{G:DH}{ρ:ak}{W:Option Int->DH->Prop}{Q:Option Int->Hp->Prop}(e0:Ext B.H B.F H F)(he:EnvR K H F ρ σ)(r:R K H F G)(hw:wpO Φ x E ρ G W)
  (h:∀d G1 H1 F1,W d G1->Ext B.H B.F H1 F1->Ext H F H1 F1->EnvR K H1 F1 ρ σ->R K H1 F1 G1->Q d H1):Hj K B (wpO Φ x E) σ H Q:=
 ⟨ρ,F,G,e0,he,r,xK x (λd G1 q H1 F1 x1 r1=>h d G1 H1 F1 q (e0.trans x1) x1 (he.ext x1) r1) hw⟩
theorem PV.later{K:PF}{H H1:Hp}{F F1:FZ}{Q:VK}{d:D}{G:DH}(h:PV K H F Q d G)(x:Ext H F H1 F1):PV K H1 F1 Q d G:=λH' F' v x1=>h H' F' v (x.trans x1)
theorem PB.later{K:PF}{H H1:Hp}{F F1:FZ}{Q:Bool->Hp->Prop}{d:Bool}{G:DH}(h:PB K H F Q d G)(x:Ext H F H1 F1):PB K H1 F1 Q d G:=λH' F' x1=>h H' F' (x.trans x1)
theorem PB.now{K:PF}{H:Hp}{F:FZ}{Q:Bool->Hp->Prop}{d:Bool}{G:DH}(h:PB K H F Q d G)(r:R K H F G):Q d H:=h H F (Ext.refl H F) r
theorem jT(S:Stat Φ CX k c E B X):X.A.units+100 < cLine:=by have:=S.room.un;omega
theorem bw {x:Str} (h:okN x=true):(x==("__debug__":Str))=false:=by
 unfold okN at h;cases e:x==("__debug__":Str) with
 |false=>rfl
 |true=>rw[e]at h;simp at h
theorem Hl {x:Str} (h:okN x=true):(x==("__classdict__":Str))=false:=by
 unfold okN at h;cases e:x==("__classdict__":Str) with
 |false=>rfl
 |true=>rw[e]at h;simp at h
theorem c7 {x:Str} (h:okN x=true):x≠"__name__":=by unfold okN at h;intro e;rw[ar.mpr e]at h;simp at h
theorem cF{x:Str}(h:c.glo x=true):c.kd.lookup x=some .globalImplicit/\okN x=true:=by unfold CT.glo at h;rw[ae,ar]at h;exact h
theorem abf(S:Stat Φ CX k c E B X){i:Nat}{e:Expr}(h:aj c (.var i) e=true):PE X e (tE X.K B (wpE Φ (.var i) E)):=by
 replace h:=Gk h;obtain ⟨x,pos,rfl,h⟩:=h
 ·rw[ae,ae,ar]at h;refine peI (vK (i:=i) (by rw[S.N];exact h.1.1) (S.vis x h.1.2) (bw h.2) (Hl h.2)) λσ H Q q=>?_;obtain ⟨ρ,F,G,_,he,r,hw⟩:=q;rw[rz]at hw;split at hw
  ·rename_i d hd;obtain ⟨v,e1,rv⟩:=he.get hd;exact ⟨v,e1,hw.now r rv⟩
  ·exact hw.elim
theorem abg(S:Stat Φ CX k c E B X){d:D}{e:Expr}(h:aj c (.cst d) e=true):PE X e (tE X.K B (wpE Φ (.cst d) E)):=by
 replace h:=Gm h;obtain ⟨kk,_,_,rfl,h⟩:=h
 ·unfold uc at h;split at h
  ·exact peI Uw λσ H Q hq=>el hq λρ F G _ he r hw=>by rw[iz]at hw;exact hw.now r rfl
  ·rw[ar]at h;subst h;exact peI Bg λσ H Q hq=>el hq λρ F G _ he r hw=>by rw[iz]at hw;exact hw.now r rfl
  ·rw[ar]at h;subst h;exact peI Uv λσ H Q hq=>el hq λρ F G _ he r hw=>by rw[iz]at hw;exact hw.now r rfl
  ·rename_i l b;rw[ae,ar,bd]at h;refine peI Bh λσ H Q hq=>el hq λρ F G _ he r hw=>?_;rw[iz]at hw;refine hw.now r ⟨?_,h.2⟩;rw[h.1,<-v6]
  ·cases h
theorem abh(S:Stat Φ CX k c E B X){x:String}{d:D}{e:Expr}(h:aj c (.glb x d) e=true):PE X e (tE X.K B (wpE Φ (.glb x d) E)):=by
 replace h:=Gn h;obtain ⟨y,pos,rfl,h⟩:=h
 ·rw[ae,ae,ar,List.any_eq_true]at h;obtain ⟨⟨e1,h1⟩,⟨x',d'⟩,hm,h2⟩:=h;rw[ae,ar]at h2;obtain ⟨e2,e3⟩:=h2;have e3:=aaO e3;simp only at e2 e3;subst e1 e2 e3;obtain ⟨g1,g2⟩:=cF h1;obtain ⟨u,v,hu,ru,hr⟩:=S.con _ _ hm;exact peI (Bj (S.glo _ g1) hu ru (bw g2)) λσ H Q hq=>el hq λρ F G _ he r hw=>by rw[rA]at hw;exact hw.now r (hr H F)
theorem abi(S:Stat Φ CX k c E B X){op:Operator}{fz:Bool}{a b:Ex}(iha:∀{e},aj c a e=true->PE X e (tE X.K B (wpE Φ a E)))(ihb:∀{e},aj c b e=true->PE X e (tE X.K B (wpE Φ b E))){e:Expr}
  (h:aj c (.bin op fz a b) e=true):PE X e (tE X.K B (wpE Φ (.bin op fz a b) E)):=by
 replace h:=Gp h;obtain ⟨l,o,r,pos,rfl,h⟩:=h
 ·rw[ae,ae,ar]at h;obtain ⟨⟨e1,h1⟩,h2⟩:=h;subst e1;refine peI (VM (ZJ _ fz) (iha h1) (ihb h2)) λσ H Q hq=>el hq λρ F G e0 he r hw=>?_;rw[rB]at hw;refine aO e0 he r hw λx G1 H1 F1 v q e1 x1 he1 r1 rv=>aO e1 he1 r1 q λy G2 H2 F2 u q e2 x2 he2 r2 ru=>?_;exact ⟨F2,G2,x,y,r2,Rep.ext x2 rv,ru,Ed (λd G' z=>PV.later z (x1.trans x2)) q⟩
theorem abj(S:Stat Φ CX k c E B X){a:Ex}(iha:∀{e},aj c a e=true->PE X e (tE X.K B (wpE Φ a E))){e:Expr}(h:aj c (.neg a) e=true):PE X e (tE X.K B (wpE Φ (.neg a) E)):=by
 replace h:=Gq h;obtain ⟨_,_,rfl,h⟩:=h
 ·refine peI (VN V4 (iha h)) λσ H Q hq=>el hq λρ F G e0 he r hw=>?_;rw[rD]at hw;refine aO e0 he r hw λx G1 H1 F1 v q e1 x1 he1 r1 rv=>?_;split at q
  ·have e2:v=.int _:=rv;subst e2;exact ⟨_,rfl,q _ _ _ x1 r1 rfl⟩
  ·exact q.elim
theorem Hm(S:Stat Φ CX k c E B X){op:CmpOp}{a b:Ex}(iha:∀{e},aj c a e=true->PE X e (tE X.K B (wpE Φ a E)))(ihb:∀{e},aj c b e=true->PE X e (tE X.K B (wpE Φ b E))){e:Expr}
  (h:aj c (.cmp op a b) e=true):PE X e (tE X.K B (wpE Φ (.cmp op a b) E))/\PT X e (tB' X.K B (wpT Φ (.val (.cmp op a b)) E)):=by
 replace h:=Gu h;obtain ⟨l,o,r,pos,rfl,h⟩:=h
 ·rw[ae,ae,ar]at h;obtain ⟨⟨e1,h1⟩,h2⟩:=h;subst e1;have hm:=Hi (bF b h2) o;refine ⟨peI (V7 (jL _ (jT S)) (iha h1) (ihb h2) hm) λσ H Q hq=>el hq λρ F G e0 he r hw=>?_,ptI (V8 (jL _ (jT S)) (iha h1) (ihb h2) hm) λσ H Q hq=>el hq λρ F G e0 he r hw=>?_⟩
  ·rw[lC]at hw;refine aO e0 he r hw λx G1 H1 F1 v q e1 x1 he1 r1 rv=>aO e1 he1 r1 q λy G2 H2 F2 u q e2 x2 he2 r2 ru=>?_;exact ⟨F2,G2,x,y,r2,Rep.ext x2 rv,ru,iB (λd z=>PV.later z (x1.trans x2)) q⟩
  ·rw[jG,lC]at hw;refine aO e0 he r hw λx G1 H1 F1 v q e1 x1 he1 r1 rv=>aO e1 he1 r1 q λy G2 H2 F2 u q e2 x2 he2 r2 ru=>?_;refine ⟨F2,G2,x,y,r2,Rep.ext x2 rv,ru,iB (λd z=>?_) q⟩;intro H' F' v' x' r' rv';have e3:v'=.bl d:=rv';exact ⟨d,e3,z H' F' ((x1.trans x2).trans x') r'⟩
theorem Hn(S:Stat Φ CX k c E B X){op op':CmpOp}{a b d:Ex}(iha:∀{e},aj c a e=true->PE X e (tE X.K B (wpE Φ a E)))(ihb:∀{e},aj c b e=true->PE X e (tE X.K B (wpE Φ b E)))(ihd:∀{e},aj c d e=true->PE X e (tE X.K B (wpE Φ d E))){e:Expr}
  (h:aj c (.chn op op' a b d) e=true):PE X e (tE X.K B (wpE Φ (.chn op op' a b d) E))/\PT X e (tB' X.K B (wpT Φ (.val (.chn op op' a b d)) E)):=by
 replace h:=Gv h;obtain ⟨l,o,o',m,r,pos,rfl,h⟩:=h
 ·simp only[ae,ar]at h;obtain ⟨⟨⟨⟨e1,e2⟩,h1⟩,h2⟩,h3⟩:=h;subst e1 e2;have hm:lastMarks [o,o'] [m,r]=false:=Hi (bF d h3) o';have go:∀{σ H Q ρ F G}{W:Bool->DH->Prop},Ext B.H B.F H F->EnvR X.K H F ρ σ->R X.K H F G->
    wpE Φ a E ρ G (λx G1=>wpE Φ b E ρ G1 λy G2=>aV o (view G2 x) (view G2 y) λt=>match t with |true=>wpE Φ d E ρ G2 λz G3=>aV o' (view G3 y) (view G3 z) λt'=>W t' G3 |false=>W false G2)->
    (∀t G' H' F',W t G'->Ext H F H' F'->R X.K H' F' G'->Q (.bl t) H')->
    vP (rC2 X.K (aV o)) (rC2 X.K (aV o')) (tE X.K B (wpE Φ a E)) (tE X.K B (wpE Φ b E)) (tE X.K B (wpE Φ d E)) σ H Q:=by
   intro σ H Q ρ F G W e0 he r hw fin;refine aO e0 he r hw λx G1 H1 F1 v q e1 x1 he1 r1 rv=>aO e1 he1 r1 q λy G2 H2 F2 u q e2 x2 he2 r2 ru=>?_;refine ⟨F2,G2,x,y,r2,Rep.ext x2 rv,ru,iB (λt q=>?_) q⟩;intro H3 F3 v3 x3 r3 rv3;have e3:v3=.bl t:=rv3;refine ⟨t,e3,?_⟩;cases t with
   |true=>
    rw[if_pos rfl];refine aO (e2.trans x3) (he2.ext x3) r3 q λz G4 H4 F4 v4 q e4 x4 he4 r4 rv4=>?_;refine ⟨F4,G4,y,z,r4,Rep.ext (x3.trans x4) ru,rv4,iB (λt' q=>?_) q⟩;intro H5 F5 v5 x5 r5 rv5;have e5:v5=.bl t':=rv5;subst e5;exact fin _ _ _ _ q ((((x1.trans x2).trans x3).trans x4).trans x5) r5
   |false=>
    rw[if_neg bq];exact fin _ _ _ _ q ((x1.trans x2).trans x3) r3
  refine ⟨peI (V9 (jL _ (jT S)) (jL _ (jT S)) (iha h1) (ihb h2) (ihd h3) hm) λσ H Q hq=>el hq λρ F G e0 he r hw=>?_,ptI (Wa (jL _ (jT S)) (jL _ (jT S)) (iha h1) (ihb h2) (ihd h3) hm) λσ H Q hq=>el hq λρ F G e0 he r hw=>?_⟩
  ·rw[lD]at hw;exact go (W:=λt G'=>PV X.K H F Q (.bl t) G') e0 he r hw λt G' H' F' z x' r'=>z H' F' _ x' r' rfl
  ·rw[jG,lD]at hw;refine go (W:=λt G'=>PB X.K H F Q t G') e0 he r hw λt G' H' F' z x' r'=>⟨t,rfl,z H' F' x' r'⟩
end
section
variable {Φ:aa} {CX:CXT} {k:Nat} {c:CT} {E:EK} {B:Bs} {X:Cx}
abbrev OkE(Φ:aa)(c:CT)(E:EK)(B:Bs)(X:Cx)(x:Ex):Prop:=∀{e:Expr},aj c x e=true->PE X e (tE X.K B (wpE Φ x E))
abbrev eQ(Φ:aa)(c:CT)(E:EK)(B:Bs)(X:Cx)(x:Exs):Prop:=∀{es:List Expr},aM c x es=true->PA X es (tL X.K B (aN Φ x E))
abbrev OkT(Φ:aa)(c:CT)(E:EK)(B:Bs)(X:Cx)(x:Tx):Prop:=∀{e:Expr},bD c x e=true->PT X e (tB' X.K B (wpT Φ x E))
theorem abk(S:Stat Φ CX k c E B X){a:Ex}(iha:OkE Φ c E B X a){e:Expr}(h:aj c (.not a) e=true):PE X e (tE X.K B (wpE Φ (.not a) E)):=by
 replace h:=Gs h;obtain ⟨_,_,rfl,h⟩:=h
 ·intro pins s σ H Q I q;obtain ⟨ρ,F,G,e0,he,r,hw⟩:=q;rw[rE]at hw;have q':tE X.K B (wpE Φ a E) σ H (λx H1=>∃b,qu X.K x H1 b/\Q (.bl (!b)) H1):=aO e0 he r hw λx G1 H1 F1 v q e1 x1 he1 r1 rv=>by
   split at q
   ·rename_i b hb;exact ⟨b,Eu r1 rv hb,q _ _ _ x1 r1 rfl⟩
   ·exact q.elim
  refine UnaryOp_ (thn (iha h pins s σ H _ I q') λv s1 ⟨x,H1,I1,r1,b,tb,q1⟩=>?_);refine not_of (thn (Bv pins s1 σ H1 x v (λb' H'=>Q (.bl (!b')) H') I1 r1 ⟨b,tb,q1⟩) λb' s2 ⟨H2,I2,q2⟩=>?_);exact ⟨.bl (!b'),H2,I2,rfl,q2⟩
theorem yl{es:List Expr}(h:aM c .nil es=true):PA X es (tL X.K B (aN Φ .nil E)):=by
 unfold aM at h;cases es with
 |nil=>exact paI jo λσ H Q hq=>el hq λρ F G e0 he r hw=>by rw[gF]at hw;exact hw H F [] (Ext.refl _ _) r rfl
 |cons _ _=>cases h
theorem ul{x:Ex}{xs:Exs}(ih:OkE Φ c E B X x)(ihs:eQ Φ c E B X xs){es:List Expr}(h:aM c (.cons x xs) es=true):PA X es (tL X.K B (aN Φ (.cons x xs) E)):=by
 unfold aM at h;split at h
 ·rename_i e es;rw[ae]at h;refine paI (gq (ih h.1) (ihs h.2) (bI e es X.env (cj (bF x h.1)))) λσ H Q hq=>el hq λρ F G e0 he r hw=>?_;rw[gG]at hw;refine aO e0 he r hw λd G1 H1 F1 v q e1 x1 he1 r1 rv=>bQ e1 he1 r1 q λds G2 H2 F2 vs q e2 x2 he2 r2 rvs=>?_;exact q H2 F2 _ (x1.trans x2) r2 ⟨v,vs,rfl,Rep.ext x2 rv,rvs⟩
 ·cases h
theorem abl(S:Stat Φ CX k c E B X){es:Exs}(ih:eQ Φ c E B X es){e:Expr}(h:aj c (.tup es) e=true):PE X e (tE X.K B (wpE Φ (.tup es) E)):=by
 replace h:=Gy h;obtain ⟨_,_,_,rfl,h⟩:=h
 ·refine peI (Wy (ih h)) λσ H Q hq=>el hq λρ F G e0 he r hw=>?_;rw[rH]at hw;refine bQ e0 he r hw λds G1 H1 F1 vs q e1 x1 he1 r1 rvs=>⟨by rw[<-rvs.length];exact cT q.1,lJ (PV.later q.2 x1) r1 rvs⟩
theorem abm(S:Stat Φ CX k c E B X){fz:Bool}{es:Exs}(ih:eQ Φ c E B X es){e:Expr}(h:aj c (.lst fz es) e=true):PE X e (tE X.K B (wpE Φ (.lst fz es) E)):=by
 replace h:=Gz h;obtain ⟨_,_,rfl,h⟩:=h
 ·refine peI (Wz (ih h)) λσ H Q hq=>el hq λρ F G e0 he r hw=>?_;rw[rJ]at hw;refine bQ e0 he r hw λds G1 H1 F1 vs q e1 x1 he1 r1 rvs=>⟨by rw[<-rvs.length];exact cT q.1,fQ (dB (λd G' z=>PV.later z x1) q.2) r1 rvs⟩
theorem abn(S:Stat Φ CX k c E B X){a i:Ex}(iha:OkE Φ c E B X a)(ihi:OkE Φ c E B X i){e:Expr}(h:aj c (.idx a i) e=true):PE X e (tE X.K B (wpE Φ (.idx a i) E)):=by
 replace h:=GC h;obtain ⟨_,_,_,rfl,h⟩:=h
 ·rw[ae]at h;refine peI (Xa ZS (iha h.1) (ihi h.2) (abd (bF i h.2))) λσ H Q hq=>el hq λρ F G e0 he r hw=>?_;rw[rK]at hw;refine aO e0 he r hw λx G1 H1 F1 v q e1 x1 he1 r1 rv=>aO e1 he1 r1 q λy G2 H2 F2 u q e2 x2 he2 r2 ru=>?_;exact ⟨F2,G2,x,y,r2,Rep.ext x2 rv,ru,sZ (λd z=>PV.later z (x1.trans x2)) q⟩
theorem Ho{lo:Ox}(ih:∀x,lo=.ob x->OkE Φ c E B X x){l:Option Expr}(h:fV c lo l=true):PO X l (Hj X.K B (wpO Φ lo E)):=by
 cases lo with
 |no=>
  unfold fV at h;cases l with
  |none=>
   intro pins s σ H Q I q;refine W3 pins s σ H Q I ?_;obtain ⟨ρ,F,G,e0,he,r,hw⟩:=q;rw[qY]at hw;exact hw H F (Ext.refl _ _) r
  |some _=>cases h
 |ob x=>
  unfold fV at h;split at h
  ·intro pins s σ H Q I q;refine W4 (ih x rfl h) pins s σ H Q I ?_;obtain ⟨ρ,F,G,e0,he,r,hw⟩:=q;rw[qZ]at hw;refine aO e0 he r hw λd G1 H1 F1 v q e1 x1 he1 r1 rv=>?_;split at q
   ·have e2:v=.int _:=rv;exact ⟨_,e2,q H1 F1 x1 r1⟩
   ·exact q.elim
  ·cases h
theorem abo(S:Stat Φ CX k c E B X){fz:Bool}{a:Ex}{lo hi:Ox}(iha:OkE Φ c E B X a)(ihl:∀x,lo=.ob x->OkE Φ c E B X x)(ihh:∀x,hi=.ob x->OkE Φ c E B X x){e:Expr}(h:aj c (.slc fz a lo hi) e=true):
  PE X e (tE X.K B (wpE Φ (.slc fz a lo hi) E)):=by
 replace h:=GD h;obtain ⟨_,_,_,_,_,rfl,h⟩:=h
 ·rw[ae,ae]at h;refine peI (W5 (Z1 fz) (iha h.1.1) (Ho ihl h.1.2) (Ho ihh h.2)) λσ H Q hq=>el hq λρ F G e0 he r hw=>?_;rw[rM]at hw;refine aO e0 he r hw λx G1 H1 F1 v q e1 x1 he1 r1 rv=>Hk e1 he1 r1 q λl G2 H2 F2 q e2 x2 he2 r2=>Hk e2 he2 r2 q λu G3 H3 F3 q e3 x3 he3 r3=>?_;exact ⟨F3,G3,x,r3,Rep.ext (x2.trans x3) rv,Eg (λd G' z=>PV.later z ((x1.trans x2).trans x3)) q⟩
theorem abp(S:Stat Φ CX k c E B X){fz:Bool}{a s:Ex}(iha:OkE Φ c E B X a)(ihs:OkE Φ c E B X s){e:Expr}(h:aj c (.rvs fz a s) e=true):PE X e (tE X.K B (wpE Φ (.rvs fz a s) E)):=nomatch (show false=true from h)
theorem abq(S:Stat Φ CX k c E B X){a:Ex}(iha:OkE Φ c E B X a){e:Expr}(h:aj c (.frz a) e=true):PE X e (tE X.K B (wpE Φ (.frz a) E)):=by
 have h:aj c a e=true:=h;refine peI (iha h) λσ H Q hq=>el hq λρ F G e0 he r hw=>?_;rw[sr]at hw;refine aO e0 he r hw λx G1 H1 F1 v q e1 x1 he1 r1 rv=>?_;split at q
 ·rename_i p;have e2:v=.ref p:=rv;subst e2;split at q
  ·rename_i ds hg;exact q _ _ _ (x1.trans wD) (r1.frz hg) (Zu r1 hg)
  ·exact q.elim
 ·exact q _ _ _ x1 r1 rv
theorem gO{es:List Expr}{xs:Exs}(h:aM c xs es=true)(env:Env)(pos:Pos):(backTo pos (starEach es env)).any (·.1)=false:=by
 induction es generalizing xs with
 |nil=>rfl
 |cons e es ih=>
  cases xs with
  |nil=>unfold aM at h;cases h
  |cons x xs=>
   unfold aM at h;rw[ae]at h;rw[bI e es env (cj (bF x h.1))];show (false||(backTo pos (starEach es env)).any (·.1))=false;rw[ih h.2];rfl
theorem fW{e:Expr}{es:List Expr}{xs:Exs}(h:aM c xs (e::es)=true):∃x xs',xs=.cons x xs'/\aj c x e=true/\aM c xs' es=true:=by
 cases xs with
 |nil=>unfold aM at h;cases h
 |cons x xs'=>
  unfold aM at h;rw[ae]at h;exact ⟨x,xs',rfl,h.1,h.2⟩
theorem jU{ρ:ak}:∀(xs:Exs){es:List Expr}{G:DH}{Q:List D->DH->Prop},aM c xs es=true->aN Φ xs E ρ G Q->aN Φ xs E ρ G (λds G'=>ds.length=es.length/\Q ds G')
 |.nil,es,G,Q,h,q=>by
  unfold aM at h;rw[gF]at q ⊢;cases es with
  |nil=>exact ⟨rfl,q⟩
  |cons _ _=>cases h
 |.cons x xs,es,G,Q,h,q=>by
  unfold aM at h;split at h
  ·rename_i e es;rw[ae]at h;rw[gG]at q ⊢;refine aB x (λd G1 q=>b8 xs (λds G2 z=>?_) (jU xs h.2 q)) q;exact ⟨by simp[z.1],z.2⟩
  ·cases h
theorem abr(S:Stat Φ CX k c E B X){f:String}{xs:Exs}(ih:eQ Φ c E B X xs){e:Expr}(h:aj c (.call f xs) e=true):PE X e (tE X.K B (wpE Φ (.call f xs) E)):=by
 replace h:=GF h;obtain ⟨x,p,args,pos,rfl,h⟩:=h
 ·simp only[ae,ar,List.any_eq_true]at h;obtain ⟨⟨⟨⟨e1,h1⟩,⟨f',n⟩,hm,e2,e3⟩,h2⟩,h3⟩:=h;simp only at e2 e3;subst e1 e2 e3;obtain ⟨g1,g2⟩:=cF h1;obtain ⟨fa,fd,ps,F0,hk,hb,hmg⟩:=S.call _ _ hm;obtain ⟨EX,hpass,_,hEX⟩:=S.exc;cases args with
  |nil=>cases h2
  |cons e es=>
   obtain ⟨x0,xs',rfl,c1,c2⟩:=fW h3;refine peI (WK F0 S.room (S.glo _ g1) hmg hk hb .nil hpass (ih h3) (bw g2) (bI e es X.env (cj (bF x0 c1))) (gO c2 X.env pos)) λσ H Q hq=>el hq λρ F G e0 he r hw=>?_;rw[rN]at hw;refine bQ e0 he r (jU _ h3 hw) λds G1 H1 F1 vs q e1 x1 he1 r1 rvs=>?_;rw[df];refine ⟨by rw[<-rvs.length];exact q.1,F1,G1,ds,r1,rvs,Spec.mono q.2 (λd G' z=>PV.later z x1) λx G' z H' F' x' r'=>?_⟩;exact hEX x G' H' F' z (e1.trans x') r'
theorem abt(S:Stat Φ CX k c E B X){f:Bf}{xs:Exs}(ih:eQ Φ c E B X xs){e:Expr}(h:aj c (.bcl f xs) e=true):PE X e (tE X.K B (wpE Φ (.bcl f xs) E)):=by
 replace h:=GJ h;obtain ⟨x,p,args,pos,rfl,h⟩:=h
 ·simp only[ae,ar]at h;obtain ⟨⟨⟨⟨⟨e1,hok⟩,h1⟩,hm⟩,h2⟩,h3⟩:=h;subst e1;obtain ⟨g1,g2⟩:=cF h1;have hmg:=S.blt _ (aT.mp hm);cases args with
  |nil=>cases h2
  |cons e es=>
   obtain ⟨x0,xs',rfl,c1,c2⟩:=fW h3;have hs:=bI e es X.env (cj (bF x0 c1));have ha:=gO c2 X.env pos;have go:∀σ H Q,tE X.K B (wpE Φ (.bcl f (.cons x0 xs')) E) σ H Q->tCB (iC X.K f) (tL X.K B (aN Φ (.cons x0 xs') E)) σ H Q:=λσ H Q hq=>el hq λρ F G e0 he r hw=>by
    rw[rO]at hw;refine bQ e0 he r hw λds G1 H1 F1 vs q e1 x1 he1 r1 rvs=>?_;exact ⟨F1,G1,ds,r1,rvs,Eh (λd z=>PV.later z x1) q⟩
   cases f with
   |len=>exact peI (lr Z2 (S.glo _ g1) hmg PySem.boot_len (ih h3) (c7 g2) (bw g2) hs ha) go
   |all=>exact peI (lr (Z3 S.calm) (S.glo _ g1) hmg Ye (ih h3) (c7 g2) (bw g2) hs ha) go
   |int=>exact peI (qy Z4 (S.glo _ g1) hmg Dd (ih h3) (c7 g2) (bw g2) hs ha) go
   |tuple=>exact peI (qy Z5 (S.glo _ g1) hmg (by ac_rfl) (ih h3) (c7 g2) (bw g2) hs ha) go
   |sum=>cases hok
   |min=>exact peI (lr (aad S.calm) (S.glo _ g1) hmg aae (ih h3) (c7 g2) (bw g2) hs ha) go
   |max=>cases hok
   |abs=>cases hok
   |min2=>cases hok
   |str=>exact peI (qy aaf (S.glo _ g1) hmg De (ih h3) (c7 g2) (bw g2) hs ha) go
theorem abu(S:Stat Φ CX k c E B X){fz:Bool}{f:Lf}{xs:Exs}(ih:eQ Φ c E B X xs){e:Expr}(h:aj c (.lcl fz f xs) e=true):PE X e (tE X.K B (wpE Φ (.lcl fz f xs) E)):=by
 replace h:=GK h;obtain ⟨x,p,args,pos,rfl,h⟩:=h
 ·simp only[ae,ar]at h;obtain ⟨⟨⟨⟨⟨e1,hok⟩,h1⟩,hm⟩,h2⟩,h3⟩:=h;subst e1;obtain ⟨g1,g2⟩:=cF h1;have hmg:=S.blt _ (aT.mp hm);cases args with
  |nil=>cases h2
  |cons e es=>
   obtain ⟨x0,xs',rfl,c1,c2⟩:=fW h3;have hs:=bI e es X.env (cj (bF x0 c1));have ha:=gO c2 X.env pos;have go:∀σ H Q,tE X.K B (wpE Φ (.lcl fz f (.cons x0 xs')) E) σ H Q->tCB (Ew X.K fz f) (tL X.K B (aN Φ (.cons x0 xs') E)) σ H Q:=λσ H Q hq=>el hq λρ F G e0 he r hw=>by
    rw[rP]at hw;refine bQ e0 he r hw λds G1 H1 F1 vs q e1 x1 he1 r1 rvs=>?_;exact ⟨F1,G1,ds,r1,rvs,Ei (λd z=>dB (λd G' z=>PV.later z x1) z) q⟩
   cases f with
   |list=>exact peI (qy (Z8 S.calm fz) (S.glo _ g1) hmg Df (ih h3) (c7 g2) (bw g2) hs ha) go
   |sorted=>cases hok
theorem abv(S:Stat Φ CX k c E B X){fz:Bool}{a:Ex}(iha:OkE Φ c E B X a){e:Expr}(h:aj c (.rgl fz a) e=true):PE X e (tE X.K B (wpE Φ (.rgl fz a) E)):=nomatch (show false=true from h)
theorem abw(S:Stat Φ CX k c E B X){a:Ex}(iha:OkE Φ c E B X a){e:Expr}(h:aj c (.rgt a) e=true):PE X e (tE X.K B (wpE Φ (.rgt a) E)):=nomatch (show false=true from h)
theorem abx{t:String}(h:fL t=true):bootBuiltins (Str.ofString t)=some (.type t):=by
 simp only[fL,c8,ar]at h;rcases h with (((rfl |rfl) |rfl) |rfl) |rfl
 ·exact X5
 ·exact Dd
 ·exact De
 ·ac_rfl
 ·exact Df
theorem aby(S:Stat Φ CX k c E B X){a:Ex}{t:String}(iha:OkE Φ c E B X a){e:Expr}(h:aj c (.isi a t) e=true):PE X e (tE X.K B (wpE Φ (.isi a t) E)):=by
 replace h:=GP h;obtain ⟨x,p,v,y,p2,pos,rfl,h⟩:=h
 ·simp only[ae,ar]at h;obtain ⟨⟨⟨⟨⟨⟨⟨e1,h1⟩,hm1⟩,h2⟩,e2⟩,h3⟩,hm2⟩,h4⟩:=h;subst e1 e2;obtain ⟨g1,g2⟩:=cF h1;obtain ⟨g3,g4⟩:=cF h3;have hmg:=S.blt _ (aT.mp hm1);have hmt:=S.blt _ (aT.mp hm2);have hty:PE X (.Name (Str.ofString t) p2) (tC (.ty t)):=Dh (S.glo _ g3) hmt (abx h4) (c7 g4) (bw g4);have sv:=cj (bF a h2);refine peI (lr X4 (S.glo _ g1) hmg Dg (gq (iha h2) (gq hty jo (bI _ _ _ rfl)) (bI _ _ _ sv)) (c7 g2) (bw g2) (bI _ _ _ sv) rfl) λσ H Q hq=>el hq λρ F G e0 he r hw=>?_;rw[rQ]at hw;refine aO e0 he r hw λd G1 H1 F1 v q e1 x1 he1 r1 rv=>?_;split at q
  ·rename_i b hb;obtain ⟨T,hk,hT,hb'⟩:=aaj hb;refine ⟨v,t,.type T,b,rfl,aag r1 rv hk,?_,q _ _ _ x1 r1 rfl⟩;rw[aai T t hT h4,hb' h4]
  ·exact q.elim
theorem abz:bootBuiltins (Str.ofString "ValueError")=some (.type "ValueError"):=by ac_rfl
theorem abA(S:Stat Φ CX k c E B X){a:Ex}{C:String}{xs:List String}(iha:OkE Φ c E B X a){e:Expr}(h:aj c (.isx a C xs) e=true):PE X e (tE X.K B (wpE Φ (.isx a C xs) E)):=by
 replace h:=GQ h;obtain ⟨x,p,v,y,p2,pos,rfl,h⟩:=h;simp only[ae,ar]at h;obtain ⟨⟨⟨⟨⟨⟨⟨e1,h1⟩,hm1⟩,h2⟩,e2⟩,h3⟩,hC⟩,hxs⟩:=h;subst e1 e2;obtain ⟨g1,g2⟩:=cF h1;obtain ⟨g3,g4⟩:=cF h3;have hmg:=S.blt _ (aT.mp hm1);have sv:=cj (bF a h2);obtain ⟨cv,hcv,hall⟩:=S.xis C hC;have hok:=hcv.ok;have hty:PE X (.Name (Str.ofString C) p2) (tC cv):=by
  rcases hcv with ⟨a1,rfl,hm,_⟩ |⟨rfl,rfl,hm⟩
  ·exact Bj (S.glo _ g3) hm rfl (bw g4)
  ·exact Dh (S.glo _ g3) hm abz (c7 g4) (bw g4)
 refine peI (lr YS (S.glo _ g1) hmg Dg (gq (iha h2) (gq hty jo (bI _ _ _ rfl)) (bI _ _ _ sv)) (c7 g2) (bw g2) (bI _ _ _ sv) rfl) λσ H Q hq=>el hq λρ F G e0 he r hw=>?_;rw[rR]at hw;refine aO e0 he r hw λd G1 H1 F1 v q e1 x1 he1 r1 rv=>?_;split at q
 ·rename_i C1;obtain ⟨c1,k1,k2,k4,k5⟩:=hall C1 (bo.mp hxs C1 (aT.mp q.1));obtain ⟨a',c',e2,xo,hn⟩:=rv;rw[k1]at hn;have ec:c1=c':=by simpa using hn
  subst ec;subst e2;exact ⟨a',c1,cv,_,rfl,xo,k2,hok,k4,k5,q.2 _ _ _ x1 r1 rfl⟩
 ·exact q.elim
theorem ym{v:Expr}(h:(!eN v)=true)(name:Str)(env:Env):attributeBase v name env (eval v env)=eval v env:=by
 cases v with
 |Call f args kw pos=>
  cases f with
  |Name id p=>
   cases args with
   |nil=>
    cases kw with
    |nil=>cases h
    |cons _ _=>rfl
   |cons _ _=>rfl
  |_=>rfl
 |_=>rfl
theorem all_plain{es:List Expr}{xs:Exs}(h:aM c xs es=true)(env:Env)(pos:Pos):(backTo pos (starEach es env)).all (λx=>!x.1)=true:=by
 induction es generalizing xs with
 |nil=>rfl
 |cons e es ih=>
  obtain ⟨x0,xs',rfl,c1,c2⟩:=fW h;rw[bI e es env (cj (bF x0 c1))];show (!false&&(backTo pos (starEach es env)).all (λx=>!x.1))=true;rw[ih c2];rfl
theorem abB(S:Stat Φ CX k c E B X){f:String}{a b ix:Ex}(iha:OkE Φ c E B X a)(ihb:OkE Φ c E B X b)(ihx:OkE Φ c E B X ix){e:Expr}(h:aj c (.rpl f a b ix) e=true):PE X e (tE X.K B (wpE Φ (.rpl f a b ix) E)):=nomatch (show false=true from h)
theorem abC(S:Stat Φ CX k c E B X){C f:String}{o:Ex}(iho:OkE Φ c E B X o){e:Expr}(h:aj c (.fld C f o) e=true):PE X e (tE X.K B (wpE Φ (.fld C f o) E)):=by
 obtain ⟨v,n,p,rfl,hh⟩:=GR h;rw[ae,ae,ae,ar]at hh;obtain ⟨⟨⟨en,hb⟩,hf⟩,ho⟩:=hh;subst en;obtain ⟨c0,hn,hcl,hna⟩:=S.fld C f (aT.mp hf);refine peI (Wq (iho ho) (ym hb _ X.env)) λσ H Q hq=>el hq λρ F G e0 he r hw=>?_;rw[rT]at hw;refine aO e0 he r hw λd G1 H1 F1 u q e1 x1 he1 r1 ru=>?_;unfold fM at q;split at q
 ·rename_i C' f' q0;obtain ⟨rfl,rfl,q⟩:=q;obtain ⟨a,c1,dx,e2,⟨_,hH⟩,hn1⟩:=ru;have ec:c1=c0:=by rw[hn]at hn1;cases hn1;rfl
  subst ec e2;refine ⟨a,c1,dx,_,.ref q0,rfl,hH,hcl,hna,?_,q H1 F1 _ x1 r1 rfl⟩;show List.lookup _ [(_,_)]=_;simp[List.lookup]
 ·exact q.elim
theorem Hq{o:Expr}{name:Str}{apos pos:Pos}{args:List Expr}{env:Env}(hbase:attributeBase o name env (eval o env)=eval o env)
  (hfew:methodCallForm (args.length+([]:List Keyword).length) (backTo pos (starEach args env)) (backToKw pos (keywordEach [] env))=true) (hline:(apos.endLine==pos.line)=true):
  eval (.Call (.Attribute o name apos) args [] pos) env=(do
   let ov <-eval o env
   standAt apos.atName
   let (f,first) <-holding [ov] (getMethod ov name (do return (<-importBound o env).getD true))
   callWith pos f first (backTo pos (starEach args env)) (backToKw pos (keywordEach [] env))):=by
 have hpos:methodCallPos true o env apos pos=pure pos:=by unfold methodCallPos;simp[hline]
 rw[arm_eval_Call,hbase];unfold methodCall;rw[hfew,hpos];rfl
theorem abD{f m:Str}{v:V}(h:(m==f)=false):List.lookup m [(f,v)]=none:=by simp[List.lookup,h]
theorem abE{K:PF}{x:Ex}{σ:L2.St}{H:Hp}{Q Q':VK}(h:tE K B (wpE Φ x E) σ H Q)(hq:∀v H',Q v H'->Q' v H'):tE K B (wpE Φ x E) σ H Q':=by obtain ⟨ρ,F,G,e0,he,r,hw⟩:=h;exact ⟨ρ,F,G,e0,he,r,aB x (λd G1 q H1 F1 v x1 r1 rv=>hq _ _ (q H1 F1 v x1 r1 rv)) hw⟩
theorem abF(S:Stat Φ CX k c E B X){f C m:String}{o:Ex}{xs:Exs}(iho:OkE Φ c E B X o)(ih:eQ Φ c E B X xs){e:Expr}(h:aj c (.mcl f C m o xs) e=true):PE X e (tE X.K B (wpE Φ (.mcl f C m o xs) E)):=by
 obtain ⟨y,p,n,apos,args,cpos,rfl,hh⟩:=GX h;rw[ae,ae,ae,ae,ae,ar]at hh;obtain ⟨⟨⟨⟨⟨en,hl⟩,hlt⟩,hm⟩,ho⟩,hes⟩:=hh;have hlt:=dk hlt;subst en;obtain ⟨c0,fa,fd,ps,hn,hcl,hmt,hbn,F0⟩:=S.mth _ _ _ _ (aT.mp hm);obtain ⟨EX,hpass,_,hEX⟩:=S.exc;have key:∀{σ:L2.St}{H:Hp}{Q:VK}{ρ:ak}{F:FZ}{G:DH},Ext B.H B.F H F->EnvR X.K H F ρ σ->R X.K H F G->wpE Φ (.mcl f C m o xs) E ρ G (PV X.K H F Q)->(qx c0 (Str.ofString m) (lift X.K (args.length+1) (Φ f)) [] EX (tE X.K B (wpE Φ o E)) (tL X.K B (aN Φ xs E))) σ H Q:=λ{σ H Q ρ F G} e0 he r hw=>by
  rw[rW]at hw;refine aO e0 he r hw λd G1 H1 F1 u q e1 x1 he1 r1 ru=>?_;obtain ⟨qo,q⟩:=q;unfold dR at qo;split at qo
  ·rename_i C' f' q0;obtain ⟨rfl,hne⟩:=qo;have ru':=ru;obtain ⟨a,c1,dx,e2,⟨_,hH⟩,hn1⟩:=ru;have ec:c1=c0:=by rw[hn]at hn1;cases hn1;rfl
   subst ec;subst e2;refine ⟨a,dx,_,rfl,hH,abD hne,bQ e1 he1 r1 (jU _ hes q) λds G2 H2 F2 vs q e2 x2 he2 r2 rvs=>?_⟩;rw[df];refine ⟨by rw[cK,<-rvs.length,q.1],F2,G2,_::ds,r2,.cons (Rep.ext x2 ru') rvs,Spec.mono q.2 (λd G' z=>PV.later z (x1.trans x2)) λx G' z H' F' x' r'=>?_⟩;exact hEX x G' H' F' z (e2.trans x') r'
  ·exact qo.elim
 have hline:(apos.endLine==cpos.line)=true:=hl;cases args with
 |nil=>
  cases xs with
  |nil=>
   refine peI (WM (iho ho) hcl hmt F0 S.room hbn .nil hpass (ht:=Hq rfl rfl hline)) λσ H Q hq=>el hq λρ F G e0 he r hw=>?_;have kk:=key e0 he r hw;unfold qx at kk ⊢;refine abE kk λx H1 ⟨a,dx,fs,h1,h2,h3,h4⟩=>⟨a,dx,fs,h1,h2,h3,?_⟩;obtain ⟨ρ',F',G',e0',he',r',hw'⟩:=h4;rw[gF]at hw';exact hw' H1 F' [] (Ext.refl _ _) r' rfl
  |cons _ _=>cases hes
 |cons e1 es=>
  obtain ⟨x0,xs',rfl,c1,c2⟩:=fW hes;refine peI (WL (iho ho) hcl hmt F0 S.room hbn .nil hpass (ih hes) (bI e1 es X.env (cj (bF x0 c1))) (gO c2 X.env cpos) (ht:=Hq rfl ?_ hline)) λσ H Q hq=>el hq λρ F G e0 he r hw=>key e0 he r hw;unfold methodCallForm;rw[all_plain hes X.env cpos];have e0:(if (backToKw cpos (keywordEach [] X.env)).isEmpty=true then 0 else 1)=0:=rfl;rw[e0,av (show (e1::es).length+([]:List Keyword).length+0 < 30 by show (e1::es).length+0+0 < 30;omega)];rfl
theorem abG(S:Stat Φ CX k c E B X){C:String}{xs:Exs}(ih:eQ Φ c E B X xs){e:Expr}(h:aj c (.mko C xs) e=true):PE X e (tE X.K B (wpE Φ (.mko C xs) E)):=by
 obtain ⟨x,p,args,pos,rfl,hh⟩:=yh h;rw[ae,ae,ae,ae,ar]at hh;obtain ⟨⟨⟨⟨ex,hg⟩,hk⟩,hne⟩,hes⟩:=hh;subst ex;obtain ⟨c0,fa,fd,ps,sp,j,hj,hmg,M,hbn,F0,hsp⟩:=S.mko _ _ (aT.mp hk);obtain ⟨EX,hpass,_,hEX⟩:=S.exc;obtain ⟨g1,g2⟩:=cF hg;cases args with
 |nil=>cases hne
 |cons e1 es=>
  obtain ⟨x0,xs',rfl,c1,c2⟩:=fW hes;refine peI (WP M F0 (S.room.mono hj) (S.glo _ g1) hmg hbn .nil hpass (ih hes) (bw g2) (bI e1 es X.env (cj (bF x0 c1))) (gO c2 X.env pos)) λσ H Q hq=>el hq λρ F G e0 he r hw=>?_;rw[rY]at hw;refine bQ e0 he r (jU _ hes hw) λds G1 H1 F1 vs q e1 x1 he1 r1 rvs=>λx dx hx hdx hne=>?_;rw[df];refine hsp vs H1 Q EX ⟨by rw[<-rvs.length,q.1],F1,G1,ds,r1,rvs,Spec.mono q.2 (λd G' z=>PV.later z x1) λx G' z H' F' x' r'=>?_⟩ x dx hx hdx hne;exact hEX x G' H' F' z (e1.trans x') r'
theorem abH(S:Stat Φ CX k c E B X){o:Ex}(iho:OkE Φ c E B X o){e:Expr}(h:aj c (.pp0 o) e=true):PE X e (tE X.K B (wpE Φ (.pp0 o) E)):=by
 obtain ⟨v,n,apos,cpos,rfl,hh⟩:=GZ h;rw[ae,ae,ae,ar]at hh;obtain ⟨⟨⟨en,hb⟩,hl⟩,ho⟩:=hh;subst en;refine peI (Xo dE PySem.F.slot_list_pop PySem.F.type_list_pop aav (iho ho) (ym hb _ X.env) hl) λσ H Q hq=>el hq λρ F G e0 he r hw=>?_;rw[rZ]at hw;refine aO e0 he r hw λd G1 H1 F1 u q e1 x1 he1 r1 ru=>⟨?_,F1,G1,d,r1,ru,rfl,?_⟩
 ·unfold gD at q;split at q
  ·rename_i p;split at q
   ·rename_i ds hg;obtain ⟨vs,hv,_⟩:=r1.lst hg;have e2:u=.ref p:=ru;subst e2;exact .inl ⟨rfl,vs,SqL.of hv⟩
   ·exact q.elim
  ·exact q.elim
 ·unfold gD at q ⊢;split at q
  ·split at q
   ·split at q
    ·exact PV.later q x1
    ·exact q
   ·exact q
  ·exact q
theorem abI(S:Stat Φ CX k c E B X){m:Mf}{o:Ex}{xs:Exs}(iho:OkE Φ c E B X o)(ih:eQ Φ c E B X xs){e:Expr}(h:aj c (.mth m o xs) e=true):PE X e (tE X.K B (wpE Φ (.mth m o xs) E)):=by
 replace h:=Ha h;obtain ⟨v,x,apos,args,cpos,rfl,h⟩:=h
 ·simp only[ae,ar,bd]at h;obtain ⟨⟨⟨⟨⟨⟨e1,h1⟩,hb⟩,hl⟩,hn⟩,h2⟩,h3⟩:=h;subst e1;cases args with
  |nil=>cases h2
  |cons e es=>
   obtain ⟨x0,xs',rfl,c1,c2⟩:=fW h3;have hs:=bI e es X.env (cj (bF x0 c1));have ha:=gO c2 X.env cpos;have hbase:=ym hb (Str.ofString m.name) X.env;have hfew:((backTo cpos (starEach (e::es) X.env)).all (λx=>!x.1)&&(backToKw cpos (keywordEach [] X.env)).all (λx=>x.1.isSome)
    &&decide ((e::es).length+([]:List Keyword).length+(if ([]:List Keyword).isEmpty then 0 else 1) < 30))=true:=by
    rw[all_plain h3 X.env cpos];have:(e::es).length+([]:List Keyword).length+(if ([]:List Keyword).isEmpty then 0 else 1) < 30:=by have e0:(if ([]:List Keyword).isEmpty=true then 0 else 1)=0:=rfl;rw[e0];show (e::es).length+0+0 < 30;omega
    rw[av this];rfl
   have hline:(apos.endLine==cpos.line)=true:=by rw[ar];exact hl
   have lst:∀{d:D} {u:V} {G1:DH} {H1:Hp} {F1:FZ},(match d with |.ref p=>(match G1 p with |some (.lst _)=>True |none=>False) |_=>False)->R X.K H1 F1 G1->Rep X.K H1 F1 d u->tyV X.K "list" u H1:=λ{d u G1 H1 F1} q r1 ru=>by
    split at q
    ·rename_i p;split at q
     ·rename_i ds hg;obtain ⟨vs,hv,_⟩:=r1.lst hg;have e2:u=.ref p:=ru;subst e2;exact .inl ⟨rfl,vs,SqL.of hv⟩
     ·exact q.elim
    ·exact q.elim
   have lstV:∀{d:D} {u:V} {G1:DH} {H1:Hp} {F1:FZ},wL (view G1 d)->R X.K H1 F1 G1->Rep X.K H1 F1 d u->tyV X.K "list" u H1:=λ{d u G1 H1 F1} q r1 ru=>by
    generalize hv:view G1 d=w at q;cases w with
    |lst ds=>
     obtain ⟨a,vs,rfl,sq,_⟩:=Rep.list r1 ru hv;exact .inl ⟨rfl,vs,sq⟩
    |_=>exact (show False from q).elim
   cases m with
   |join=>
    refine peI (iu PySem.F.plainAttrs_str PySem.F.slot_str_join PySem.F.type_str_join aak (iho h1) (ih h3) hbase hfew hline hs ha) λσ H Q hq=>el hq λρ F G e0 he r hw=>?_;rw[eH]at hw;refine aO e0 he r hw λd G1 H1 F1 u q e1 x1 he1 r1 ru=>⟨?_,bQ e1 he1 r1 q.2 λds G2 H2 F2 vs q e2 x2 he2 r2 rvs=>?_⟩
    ·have q1:=q.1;cases d with
     |str l=>obtain ⟨e2,_⟩:=ru;subst e2;exact rfl
     |_=>exact (show False from q1).elim
    ·exact ⟨F2,G2,d,ds,r2,Rep.ext x2 ru,rvs,gH (λd G' z=>PV.later z (x1.trans x2)) q⟩
   |append=>
    refine peI (iu dE PySem.F.slot_list_append PySem.F.type_list_append aal (iho h1) (ih h3) hbase hfew hline hs ha) λσ H Q hq=>el hq λρ F G e0 he r hw=>?_;rw[eH]at hw;refine aO e0 he r hw λd G1 H1 F1 u q e1 x1 he1 r1 ru=>⟨?_,bQ e1 he1 r1 q.2 λds G2 H2 F2 vs q e2 x2 he2 r2 rvs=>?_⟩
    ·refine lst (d:=d) (G1:=G1) ?_ r1 ru;have q1:=q.1;cases d <;> first |exact q1 |exact (show False from q1).elim
    ·exact ⟨F2,G2,d,ds,r2,Rep.ext x2 ru,rvs,gH (λd G' z=>PV.later z (x1.trans x2)) q⟩
   |extend=>
    refine peI (iu dE PySem.F.slot_list_extend PySem.F.type_list_extend aax (iho h1) (ih h3) hbase hfew hline hs ha) λσ H Q hq=>el hq λρ F G e0 he r hw=>?_;rw[eH]at hw;refine aO e0 he r hw λd G1 H1 F1 u q e1 x1 he1 r1 ru=>⟨?_,bQ e1 he1 r1 q.2 λds G2 H2 F2 vs q e2 x2 he2 r2 rvs=>?_⟩
    ·refine lst (d:=d) (G1:=G1) ?_ r1 ru;have q1:=q.1;cases d <;> first |exact q1 |exact (show False from q1).elim
    ·exact ⟨F2,G2,d,ds,r2,Rep.ext x2 ru,rvs,gH (λd G' z=>PV.later z (x1.trans x2)) q⟩
   |insert=>
    refine peI (iu dE PySem.F.slot_list_insert PySem.F.type_list_insert aas (iho h1) (ih h3) hbase hfew hline hs ha) λσ H Q hq=>el hq λρ F G e0 he r hw=>?_;rw[eH]at hw;refine aO e0 he r hw λd G1 H1 F1 u q e1 x1 he1 r1 ru=>⟨?_,bQ e1 he1 r1 q.2 λds G2 H2 F2 vs q e2 x2 he2 r2 rvs=>?_⟩
    ·refine lst (d:=d) (G1:=G1) ?_ r1 ru;have q1:=q.1;cases d <;> first |exact q1 |exact (show False from q1).elim
    ·exact ⟨F2,G2,d,ds,r2,Rep.ext x2 ru,rvs,gH (λd G' z=>PV.later z (x1.trans x2)) q⟩
   |pop=>
    refine peI (iu dE PySem.F.slot_list_pop PySem.F.type_list_pop aat (iho h1) (ih h3) hbase hfew hline hs ha) λσ H Q hq=>el hq λρ F G e0 he r hw=>?_;rw[eH]at hw;refine aO e0 he r hw λd G1 H1 F1 u q e1 x1 he1 r1 ru=>⟨?_,bQ e1 he1 r1 q.2 λds G2 H2 F2 vs q e2 x2 he2 r2 rvs=>?_⟩
    ·refine lst (d:=d) (G1:=G1) ?_ r1 ru;have q1:=q.1;cases d <;> first |exact q1 |exact (show False from q1).elim
    ·exact ⟨F2,G2,d,ds,r2,Rep.ext x2 ru,rvs,gH (λd G' z=>PV.later z (x1.trans x2)) q⟩
   |count=>
    refine peI (iu dE PySem.F.slot_list_count PySem.F.type_list_count aam (iho h1) (ih h3) hbase hfew hline hs ha) λσ H Q hq=>el hq λρ F G e0 he r hw=>?_;rw[eH]at hw;refine aO e0 he r hw λd G1 H1 F1 u q e1 x1 he1 r1 ru=>⟨lstV q.1 r1 ru,bQ e1 he1 r1 q.2 λds G2 H2 F2 vs q e2 x2 he2 r2 rvs=>?_⟩;exact ⟨F2,G2,d,ds,r2,Rep.ext x2 ru,rvs,gH (λd G' z=>PV.later z (x1.trans x2)) q⟩
   |index=>
    refine peI (iu dE PySem.F.slot_list_index PySem.F.type_list_index aan (iho h1) (ih h3) hbase hfew hline hs ha) λσ H Q hq=>el hq λρ F G e0 he r hw=>?_;rw[eH]at hw;refine aO e0 he r hw λd G1 H1 F1 u q e1 x1 he1 r1 ru=>⟨lstV q.1 r1 ru,bQ e1 he1 r1 q.2 λds G2 H2 F2 vs q e2 x2 he2 r2 rvs=>?_⟩;exact ⟨F2,G2,d,ds,r2,Rep.ext x2 ru,rvs,gH (λd G' z=>PV.later z (x1.trans x2)) q⟩
end
section
variable {Φ:aa} {CX:CXT} {k:Nat} {c:CT} {E:EK} {B:Bs} {X:Cx}
def EachE(Φ:aa)(c:CT)(E:EK)(B:Bs)(X:Cx):Exs->Prop
 |.nil=>True
 |.cons e es=>OkE Φ c E B X e/\EachE Φ c E B X es
def um(Φ:aa)(c:CT)(E:EK)(B:Bs)(X:Cx):Txs->Prop
 |.nil=>True
 |.cons e es=>OkT Φ c E B X e/\um Φ c E B X es
theorem abJ(S:Stat Φ CX k c E B X){es:Exs}(ih:EachE Φ c E B X es){e:Expr}(h:aj c (.fst es) e=true):PE X e (tE X.K B (wpE Φ (.fst es) E)):=nomatch (show false=true from h)
theorem EachE.oks:∀{xs:Exs},EachE Φ c E B X xs->eQ Φ c E B X xs
 |.nil,_=>by intro h;exact yl h
 |.cons x xs,hh=>by intro h;exact ul hh.1 (EachE.oks hh.2) h
def uo(Φ:aa)(E:EK)(isAnd:Bool)(x:Ex)(xs:Exs):ak->DH->(D->DH->Prop)->Prop:=λρ G kk=>wpE Φ x E ρ G λd G1=>match d with |.bl b=>wpB Φ xs isAnd b E ρ G1 (λc G2=>kk (.bl c) G2) |_=>False
theorem Hr{isAnd:Bool}{pos:Pos}:∀(xs:Exs){x:Ex},OkE Φ c E B X x->EachE Φ c E B X xs->∀{v:Expr}{vs:List Expr},aj c x v=true->aM c xs vs=true->
  PE X (.BoolOp (if isAnd then .And else .Or) (v::vs) pos) (tE X.K B (uo Φ E isAnd x xs))
 |.nil,x,ih,_,v,vs,h1,h2=>by
  unfold aM at h2;cases vs with
  |nil=>
   refine peI (U3 (ih h1)) λσ H Q hq=>el hq λρ F G e0 he r hw=>?_;unfold uo at hw;refine aO e0 he r hw λd G1 H1 F1 u q e1 x1 he1 r1 ru=>?_;split at q
   ·rw[qW]at q;exact q _ _ _ x1 r1 ru
   ·exact q.elim
  |cons _ _=>cases h2
 |.cons y ys,x,ih,hh,v,vs,h1,h2=>by
  unfold aM at h2;split at h2
  ·rename_i w ws;rw[ae]at h2;have rest:=Hr (isAnd:=isAnd) (pos:=pos) ys hh.1 hh.2 h2.1 h2.2;cases isAnd with
   |true=>
    refine peI (U4 (ih h1) rest) λσ H Q hq=>el hq λρ F G e0 he r hw=>?_;unfold uo at hw;refine aO e0 he r hw λd G1 H1 F1 u q e1 x1 he1 r1 ru=>?_;split at q
    ·rename_i b;refine ⟨b,ru,?_⟩;rw[lA]at q;cases b with
     |true=>
      rw[if_pos rfl];exact ⟨ρ,F1,G1,e1,he1,r1,aB y (λd G' z=>by
       cases d <;> first |exact (show False from z).elim |exact tB ys (λc G2 z=>PV.later z x1) z) q⟩
     |false=>
      rw[if_neg bq];exact q _ _ _ x1 r1 rfl
    ·exact q.elim
   |false=>
    refine peI (U5 (ih h1) rest) λσ H Q hq=>el hq λρ F G e0 he r hw=>?_;unfold uo at hw;refine aO e0 he r hw λd G1 H1 F1 u q e1 x1 he1 r1 ru=>?_;split at q
    ·rename_i b;refine ⟨b,ru,?_⟩;rw[lA]at q;cases b with
     |false=>
      rw[if_neg bq];exact ⟨ρ,F1,G1,e1,he1,r1,aB y (λd G' z=>by
       cases d <;> first |exact (show False from z).elim |exact tB ys (λc G2 z=>PV.later z x1) z) q⟩
     |true=>
      rw[if_pos rfl];exact q _ _ _ x1 r1 rfl
    ·exact q.elim
  ·cases h2
theorem abK{isAnd:Bool}{x:Ex}{xs:Exs}(ih:OkE Φ c E B X x)(hh:EachE Φ c E B X xs){e:Expr}(h:aj c (.boo isAnd x xs) e=true):PE X e (tE X.K B (wpE Φ (.boo isAnd x xs) E)):=by
 replace h:=Gw h;obtain ⟨_,_,_,_,rfl,h⟩:=h
 ·simp only[ae,ar]at h;obtain ⟨⟨e1,h1⟩,h2⟩:=h;subst e1;refine peI (Hr xs ih hh h1 h2) λσ H Q hq=>el hq λρ F G e0 he r hw=>⟨ρ,F,G,e0,he,r,?_⟩;rw[rF]at hw;exact hw
theorem abL{t:Tx}{a b:Ex}(iht:OkT Φ c E B X t)(iha:OkE Φ c E B X a)(ihb:OkE Φ c E B X b){e:Expr}(h:aj c (.ife t a b) e=true):PE X e (tE X.K B (wpE Φ (.ife t a b) E)):=by
 replace h:=Gx h;obtain ⟨_,_,_,_,rfl,h⟩:=h
 ·simp only[ae]at h;obtain ⟨⟨h1,h2⟩,h3⟩:=h;refine peI (U6 (iht h1) (iha h2) (ihb h3)) λσ H Q hq=>el hq λρ F G e0 he r hw=>?_;rw[rG]at hw;refine jR e0 he r hw λb' G1 H1 F1 q e1 x1 he1 r1=>?_;cases b' with
  |true=>
   rw[if_pos rfl];exact ⟨ρ,F1,G1,e1,he1,r1,aB a (λd G' z=>PV.later z x1) q⟩
  |false=>
   rw[if_neg bq];exact ⟨ρ,F1,G1,e1,he1,r1,aB b (λd G' z=>PV.later z x1) q⟩
theorem abM{x:Ex}(ih:OkE Φ c E B X x){e:Expr}(hp:iI e=true)(h:aj c x e=true):PT X e (tB' X.K B (wpT Φ (.val x) E)):=by
 refine ptI (Wc (ih h) (abe hp X.env)) λσ H Q hq=>el hq λρ F G e0 he r hw=>?_;rw[jG]at hw;refine aO e0 he r hw λd G1 H1 F1 u q e1 x1 he1 r1 ru=>?_;split at q
 ·rename_i b hb;exact ⟨b,Eu r1 ru hb,q _ _ x1 r1⟩
 ·exact q.elim
theorem abN{t:Tx}(ih:OkT Φ c E B X t){e:Expr}(h:bD c (.not t) e=true):PT X e (tB' X.K B (wpT Φ (.not t) E)):=by
 replace h:=aaU h;obtain ⟨_,_,rfl,h⟩:=h
 ·refine ptI (UV (ih h)) λσ H Q hq=>el hq λρ F G e0 he r hw=>?_;rw[qR]at hw;exact jR e0 he r hw λb G1 H1 F1 q e1 x1 he1 r1=>q _ _ x1 r1
def lV(Φ:aa)(E:EK)(isAnd:Bool)(x:Tx)(xs:Txs):ak->DH->(Bool->DH->Prop)->Prop:=λρ G kk=>wpT Φ x E ρ G λb G1=>fO Φ xs isAnd b E ρ G1 kk
theorem Hs{isAnd:Bool}{pos:Pos}:∀(xs:Txs){x:Tx},OkT Φ c E B X x->um Φ c E B X xs->∀{v:Expr}{vs:List Expr},bD c x v=true->iM c xs vs=true->
  PW X (.BoolOp (if isAnd then .And else .Or) (v::vs) pos) (tB' X.K B (lV Φ E isAnd x xs))
 |.nil,x,ih,_,v,vs,h1,h2=>by
  unfold iM at h2;cases vs with
  |nil=>
   have go:∀σ H Q,tB' X.K B (lV Φ E isAnd x .nil) σ H Q->tB' X.K B (wpT Φ x E) σ H Q:=λσ H Q hq=>el hq λρ F G e0 he r hw=>by
    unfold lV at hw;refine ⟨ρ,F,G,e0,he,r,cZ x (λb G1 q=>?_) hw⟩;rw[qX]at q;exact q
   cases isAnd with
   |true=>exact pwI (UG (ih h1)) go
   |false=>exact pwI (UJ (ih h1)) go
  |cons _ _=>cases h2
 |.cons y ys,x,ih,hh,v,vs,h1,h2=>by
  unfold iM at h2;split at h2
  ·rename_i w ws;rw[ae]at h2;have rest:=Hs (isAnd:=isAnd) (pos:=pos) ys hh.1 hh.2 h2.1 h2.2;cases isAnd with
   |true=>
    refine pwI (UL (ih h1) rest) λσ H Q hq=>el hq λρ F G e0 he r hw=>?_;unfold lV at hw;refine jR e0 he r hw λb G1 H1 F1 q e1 x1 he1 r1=>?_;rw[lB]at q;cases b with
    |true=>
     rw[if_pos rfl];exact ⟨ρ,F1,G1,e1,he1,r1,cZ y (λb' G' z=>tD ys (λc G2 z=>PB.later z x1) z) q⟩
    |false=>
     rw[if_neg bq];exact q _ _ x1 r1
   |false=>
    refine pwI (UT (ih h1) rest) λσ H Q hq=>el hq λρ F G e0 he r hw=>?_;unfold lV at hw;refine jR e0 he r hw λb G1 H1 F1 q e1 x1 he1 r1=>?_;rw[lB]at q;cases b with
    |false=>
     rw[if_neg bq];exact ⟨ρ,F1,G1,e1,he1,r1,cZ y (λb' G' z=>tD ys (λc G2 z=>PB.later z x1) z) q⟩
    |true=>
     rw[if_pos rfl];exact q _ _ x1 r1
  ·cases h2
theorem abO{isAnd:Bool}{x:Tx}{xs:Txs}(ih:OkT Φ c E B X x)(hh:um Φ c E B X xs){e:Expr}(h:bD c (.boo isAnd x xs) e=true):PT X e (tB' X.K B (wpT Φ (.boo isAnd x xs) E)):=by
 replace h:=aaV h;obtain ⟨_,_,_,_,rfl,h⟩:=h
 ·simp only[ae,ar]at h;obtain ⟨⟨e1,h1⟩,h2⟩:=h;subst e1;refine ptI (PW.pt (Hs xs ih hh h1 h2)) λσ H Q hq=>el hq λρ F G e0 he r hw=>⟨ρ,F,G,e0,he,r,?_⟩;rw[qT]at hw;exact hw
def tG(K:PF)(B:Bs)(t:Tg):TG:=λv σ H Q=>∃ρ F G d,Ext B.H B.F H F/\EnvR K H F ρ σ/\R K H F G/\Rep K H F d v/\aY t d ρ G (λρ'=>∀σ',EnvR K H F ρ' σ'->Q σ' H)
def tGs(K:PF)(B:Bs)(t:Tgs):TGs:=λvs σ H Q=>∃ρ F G ds,Ext B.H B.F H F/\EnvR K H F ρ σ/\R K H F G/\Reps K H F ds vs/\bH t ds ρ G (λρ'=>∀σ',EnvR K H F ρ' σ'->Q σ' H)
theorem uq:∀{ts:Tgs}{es:List Expr}{env:Env},cg c ts es=true->(assignEach es env).length=es.length/\(assignEach es env).findIdx? (·.1)=none/\(assignEach es env).map (·.2)=es.map λe=>assign e env
 |.nil,[],env,_=>⟨rfl,rfl,rfl⟩
 |.nil,_::_,env,h=>by unfold cg at h;cases h
 |.cons t r,[],env,h=>by unfold cg at h;cases h
 |.cons t r,e::es,env,h=>by
  unfold cg at h;rw[ae]at h;obtain ⟨h1,h2,h3⟩:=uq (env:=env) h.2;have hs:assignEach (e::es) env=(false,assign e env)::assignEach es env:=by
   cases t with
   |nm i=>
    have h':=h.1;obtain ⟨_,_,rfl,_⟩:=yf h';rfl
   |tp ts=>
    have h':=h.1;obtain ⟨_,_,_,rfl,_⟩:=yg h';rfl
  rw[hs];refine ⟨by simp[h1],?_,by simp[h3]⟩;rw[List.findIdx?_cons];simp[h2]
section
variable {prog:Program} {w:World} {A:Around} {E:Value->Shared->Prop} {s:Shared}
theorem Ht{it t:Addr}{items:Array Value}(hne:t≠it):∀(n i:Nat)(s:Shared)(Q:List Value->Shared->Prop),s.heap.IsListIter it t i->s.heap.IsList t items->i+n<=items.size->
  (∀h',h'.IsListIter it t (i+n)->Heap.SameBut it s.heap h'->Q ((items.toList.drop i).take n) { s with heap:=h' })->wpAny (model prog w) A (draw (.ref it) n) Q E s
 |0,i,s,Q,hit,_,_,hQ=>by
  show wpAny _ _ (pure []) Q E s;exact a7 (by simpa using hQ s.heap hit (Heap.SameBut.refl ..))
 |n+1,i,s,Q,hit,ht,hle,hQ=>by
  have hlt:i < items.size:=by omega
  show wpAny _ _ (pyNext (.ref it) >>= _) Q E s;refine ag (wpAny_pyNext_list_item hit ht (x:=items[i]) (by simp[hlt]) λh₁ hit₁ hs₁=>?_);refine ag (e8 (Ht hne n (i+1) _ _ hit₁ (ht.extBut hs₁.extBut hne) (by omega) λh₂ hit₂ hs₂=>a7 ?_));have hd:items.toList.drop i=items[i]::items.toList.drop (i+1):=by simp[b6,hlt]
  have:=hQ h₂ (by rw[show i+(n+1)=i+1+n by omega];exact hit₂) (hs₁.trans hs₂);rw[hd,List.take_succ_cons]at this;exact this
theorem abP{t:Addr}{items:Array Value}{Q:List Value->Shared->Prop}(hh:A.handled=none)(ht:s.heap.IsList t items)
  (hQ:∀h',Heap.ExtBut s.heap.objs.size s.heap h'->Q items.toList { s with heap:=h' }):wpAny (model prog w) A (unpackItems (.ref t) items.size none) Q E s:=by
 have hlt:t≠s.heap.objs.size:=by obtain ⟨o,ho,_⟩:=ht;exact bX (ay ho)
 unfold unpackItems;refine ag ?_;unfold notIterableAtAll;refine ag (wpAny_specialOf ht.typeIs PySem.F.slot_list_iter.lookup ?_);refine a7 ?_;simp only[fF,if_false];refine ag (e8 (wpAny_pyIter_list ht ?_));refine ag (e8 (Ht hlt items.size 0 _ _ ⟨_,bb _ rfl,rfl,rfl⟩ (ht.push _) (by omega) λh₁ hit₁ hs₁=>?_));have hall:List.take items.size (List.drop 0 items.toList)=items.toList:=by rw[List.drop_zero];exact eh (by simp)
 rw[hall];rw[if_neg (by simp)];have ht₁:h₁.IsList t items:=(ht.push _).extBut hs₁.extBut hlt;refine ag (e8 (wpAny_pyNext_list_end hh hit₁ ht₁ (by simp) λh₂ he₂=>?_));simp only[Option.isSome_none,fF,if_false];refine a7 (hQ h₂ λb o hb e=>he₂ b o hb (hs₁.extBut b o hb (ah _ e)))
theorem abQ{env:Env}{elts:List Expr}{x1}{pos:Pos}{t:Addr}{items:Array Value}{Q:Unit->Shared->Prop}(hh:A.handled=none)(ht:s.heap.IsList t items)
  (hn:(assignEach elts env).length=items.size) (hstar:(assignEach elts env).findIdx? (·.1)=none)
  (h:∀h',Heap.ExtBut s.heap.objs.size s.heap h'->wpAny (model prog w) A (assignInOrder ((assignEach elts env).map (·.2)) items.toList) Q E { s with heap:=h' }):
  wpAny (model prog w) A (assign (.Tuple elts x1 pos) env (.ref t)) Q E s:=by
 rw[assign_Tuple];refine ag (wpAny_standAt ?_);unfold unpack;rw[hn,hstar];exact ag (e8 (abP hh ht h))
end
section
variable {X:Cx} {pos:Pos}
def abR(K:PF)(n:Nat)(t:TGs):TG:=λv σ H Q=>∃a xs,v=.ref a/\SqL K H a xs/\xs.length=n/\t xs σ H Q
theorem abS{es:List Expr}{k:Nat}{t:TGs}{n:Nat}(hc:X.calm=true)(h:PGs X es t)
  (hn:(assignEach es X.env).length=n:=by rfl) (hst:(assignEach es X.env).findIdx? (·.1)=none:=by rfl):PG X (.Tuple es k pos) (abR X.K n t):=by
 intro pins s σ H v u Q I r hw;obtain ⟨a,xs,e1,hq,hl,hw⟩:=hw;subst e1;cases r;obtain ⟨its,rv,pl,hz⟩:=I.list hq;refine abQ (I.ok.hd hc) pl.isList (by simp[hn,<-hl,rv.length]) hst λh' hx=>?_;have I1:Inv X pins σ H { s with heap:=h' }:=I.kept (t':=s.toks) λb o e=>hx b o (bX (ay e)) e;exact h pins _ σ H xs _ Q I1 (by simpa using rv) hw
end
mutual
theorem ur(S:Stat Φ CX k c E B X):∀(t:Tg){e:Expr},cD c t e=true->PG X e (tG X.K B t)
 |.nm i,e,h=>by
  replace h:=yf h;obtain ⟨x,pos,rfl,h⟩:=h
  ·skip;rw[ae,ar]at h;obtain ⟨l,f⟩:=S.sto x h.2;intro pins s σ H v u Q I rv q;refine Vo (i:=i) S.nd (by rw[S.N];exact h.1) l f pins s σ H v u Q I rv ?_;obtain ⟨ρ,F,G,d,e0,he,r,rd,hw⟩:=q;unfold aY at hw;exact hw _ (he.set rd i)
 |.tp ts,e,h=>by
  replace h:=yg h;obtain ⟨es,kk,pos,rfl,h⟩:=h
  ·skip;obtain ⟨h1,h2,h3⟩:=uq (env:=X.env) h;intro pins s σ H v u Q I rv q;obtain ⟨ρ,F,G,d,e0,he,r,rd,hw⟩:=q;unfold aY at hw;split at hw
   ·rename_i ds;refine Vu (n:=es.length) S.calm (yo S ts h) h1 h2 pins s σ H v u Q I rv ?_;obtain ⟨a,vs,e1,q,t⟩:=rd;refine ⟨a,vs,e1,q.sq,?_,ρ,F,G,ds,e0,he,r,t,hw⟩;rw[<-t.length];exact yp ts h hw
   ·rename_i ds;refine abS (n:=es.length) S.calm (yo S ts h) h1 h2 pins s σ H v u Q I rv ?_;obtain ⟨a,vs,e1,q,t⟩:=rd;refine ⟨a,vs,e1,q.sq,?_,ρ,F,G,ds,e0,he,r,t,hw⟩;rw[<-t.length];exact yp ts h hw
   ·exact hw.elim
theorem yo(S:Stat Φ CX k c E B X):∀(ts:Tgs){es:List Expr},cg c ts es=true->PGs X es (tGs X.K B ts)
 |.nil,es,h=>by
  unfold cg at h;cases es with
  |nil=>
   intro pins s σ H vs us Q I rv q;refine Vr pins s σ H vs us Q I rv ?_;obtain ⟨ρ,F,G,ds,e0,he,r,rd,hw⟩:=q;unfold bH at hw;split at hw
   ·exact ⟨rd,hw _ he⟩
   ·exact hw.elim
  |cons _ _=>cases h
 |.cons t r,es,h=>by
  unfold cg at h;split at h
  ·rename_i e es;rw[ae]at h;intro pins s σ H vs us Q I rv q;have hs:(assignEach (e::es) X.env).map (·.2)=assign e X.env::(assignEach es X.env).map (·.2):=by
    have hh:cg c (.cons t r) (e::es)=true:=by unfold cg;show (cD c t e&&cg c r es)=true;rw[h.1,h.2];rfl
    rw[(uq (env:=X.env) hh).2.2,(uq (env:=X.env) h.2).2.2];rfl
   refine Vs (ur S t h.1) (yo S r h.2) hs pins s σ H vs us Q I rv ?_;obtain ⟨ρ,F,G,ds,e0,he,rr,rd,hw⟩:=q;unfold bH at hw;split at hw
   ·rename_i d ds;obtain ⟨v,vs',e1,rd1,rds⟩:=rd;refine ⟨v,vs',e1,ρ,F,G,d,e0,he,rr,rd1,fP (λρ' z σ' he'=>?_) t hw⟩;exact ⟨ρ',F,G,ds,e0,he',rr,rds,z⟩
   ·exact hw.elim
  ·cases h
theorem yp{G:DH}:∀(ts:Tgs){es:List Expr}{ds:List D}{ρ:ak}{Q:ak->Prop},cg c ts es=true->bH ts ds ρ G Q->ds.length=es.length
 |.nil,es,ds,ρ,Q,h,q=>by
  unfold cg at h;unfold bH at q;split at q
  ·cases es with
   |nil=>rfl
   |cons _ _=>cases h
  ·exact q.elim
 |.cons t r,es,ds,ρ,Q,h,q=>by
  unfold cg at h;split at h
  ·rw[ae]at h;unfold bH at q;split at q
   ·rename_i d ds;have:∃ρ',bH r ds ρ' G Q:=Hu t q;obtain ⟨ρ',q'⟩:=this;have:=yp r h.2 q';simp[this]
   ·exact q.elim
  ·cases h
theorem Hu{G:DH}:∀(t:Tg){d:D}{ρ:ak}{Q:ak->Prop},aY t d ρ G Q->∃ρ',Q ρ'
 |.nm i,d,ρ,Q,q=>⟨_,q⟩
 |.tp ts,d,ρ,Q,q=>by
  unfold aY at q;split at q
  ·exact yq ts q
  ·exact yq ts q
  ·exact q.elim
theorem yq{G:DH}:∀(ts:Tgs){ds:List D}{ρ:ak}{Q:ak->Prop},bH ts ds ρ G Q->∃ρ',Q ρ'
 |.nil,ds,ρ,Q,q=>by
  unfold bH at q;split at q
  ·exact ⟨_,q⟩
  ·exact q.elim
 |.cons t r,ds,ρ,Q,q=>by
  unfold bH at q;split at q
  ·obtain ⟨ρ',q'⟩:=Hu t q;exact yq r q'
  ·exact q.elim
end
end
structure WalkJ(K:PF)(H:Hp)(F:FZ)(items:List D)(g:Hld)(J:It):Prop where
 go:∀H' F' G i,Ext H F H' F'->R K H' F' G->held g G->i < items.length->J.go i H'
 stop:∀H' F' G,Ext H F H' F'->R K H' F' G->held g G->J.stop items.length H'
 yld:∀H' F' i x H'' d G,Ext H F H' F'->R K H' F' G->held g G->items[i]?=some d->J.yld i H' x H''->Ext H' F' H'' F'/\R K H'' F' G/\Rep K H'' F' d x
section
variable {K:PF} {H:Hp} {F:FZ}
structure Src(K:PF)(H:Hp)(F:FZ)(u:Value)(ds:List D)(g:Hld)(k:SK):Prop where
 val:k.val=u
 sat:∀H' F' G,Ext H F H' F'->R K H' F' G->held g G->∃vs,k.Sat H' vs/\Reps K H' F' ds vs
theorem ut{d:D}{v:V}{u:Value}{G:DH}{ds:List D×Hld}(h:Rep K H F d v)(r:RelV v u)(e:itemsOf G d=some ds):∃k,Src K H F u ds.1 ds.2 k:=by
 cases d with
 |lst xs=>
  simp only[itemsOf,aS]at e;subst e;obtain ⟨a,vs,e1,q,t⟩:=h;subst e1;have hu:u=Value.ref a:=r;subst hu;exact ⟨.lst a,rfl,λH' F' G' x _ _=>⟨vs,(FzL.ext x q).2,Reps.ext x t⟩⟩
 |tup xs=>
  simp only[itemsOf,aS]at e;subst e;obtain ⟨a,vs,e1,q,t⟩:=h;subst e1;have hu:u=Value.ref a:=r;subst hu;exact ⟨.tup a,rfl,λH' F' G' x _ _=>⟨vs,(TpT.ext (K:=K) x q).it,Reps.ext x t⟩⟩
 |str l=>
  simp only[itemsOf,aS]at e;subst e;obtain ⟨e1,hl⟩:=h;subst e1;obtain ⟨t,hu⟩:∃t,u=Value.str (tx l) t:=r;subst hu;exact ⟨.str (tx l) t,rfl,λH' F' G' x _ _=>⟨_,rfl,by simpa using xR l⟩⟩
 |ref p=>
  simp only[itemsOf]at e;split at e
  ·rename_i xs hg;simp only[aS]at e;subst e;have e1:v=.ref p:=h;subst e1;have hu:u=Value.ref p:=r;subst hu;exact ⟨.lst p,rfl,λH' F' G' x r' hh=>r'.lst hh.1⟩
  ·cases e
 |_=>cases e
theorem uv{G:DH}{d:D}{ds:List D×Hld}(e:itemsOf G d=some ds):held ds.2 G:=by
 cases d with
 |ref p=>
  simp only[itemsOf]at e;split at e
  ·rename_i xs hg;simp only[aS]at e;subst e;exact ⟨hg,trivial⟩
  ·cases e
 |_=>simp only[itemsOf]at e;first | (cases e;done) | (simp only[aS]at e;subst e;exact trivial)
theorem abT{u:Value}{ds:List D}{g:Hld}{k:SK}(s:Src K H F u ds g k):WalkJ K H F ds g (Jk k) where
 go:=λH' F' G i x r hh hi=>by
  obtain ⟨vs,h1,h2⟩:=s.sat H' F' G x r hh;exact ⟨vs,h1,by rw[<-h2.length];exact hi⟩
 stop:=λH' F' G x r hh=>by
  obtain ⟨vs,h1,h2⟩:=s.sat H' F' G x r hh;exact ⟨vs,h1,h2.length.symm⟩
 yld:=λH' F' i v H'' d G x r hh hd y=>by
  obtain ⟨e,hv⟩:=y;subst e;obtain ⟨vs,h1,h2⟩:=s.sat _ F' G x r hh;obtain ⟨w,e1,rw'⟩:=h2.get hd;have e2:=hv vs h1;rw[e1]at e2;cases e2;exact ⟨Ext.refl _ _,r,rw'⟩
theorem lW:∀(n:Nat)(ds:List D),(dw n ds).length=ds.length
 |_,[]=>rfl
 |n,d::ds=>by simp[dw,lW (n+1) ds]
theorem lX:∀(n:Nat)(ds:List D)(i:Nat),(dw n ds)[i]?=(ds[i]?).map λd=>.tup [.int ((n+i:Nat):Int),d]
 |_,[],_=>by simp[dw]
 |n,d::ds,0=>by simp[dw]
 |n,d::ds,i+1=>by
  simp only[dw,List.getElem?_cons_succ];rw[lX (n+1) ds i];congr 1;funext d;rw[show n+1+i=n+(i+1) by omega]
theorem uw:∀(as bs:List D),(bL as bs).length=min as.length bs.length
 |[],bs=>by simp[bL]
 |a::as,[]=>by simp[bL]
 |a::as,b::bs=>by simp[bL,uw as bs]
theorem yr:∀(as bs:List D)(i:Nat)(d:D),(bL as bs)[i]?=some d->∃a b,as[i]?=some a/\bs[i]?=some b/\d=.tup [a,b]
 |[],bs,i,d,h=>by simp[bL]at h
 |a::as,[],i,d,h=>by simp[bL]at h
 |a::as,b::bs,0,d,h=>by simp[bL]at h;exact ⟨a,b,rfl,rfl,h.symm⟩
 |a::as,b::bs,i+1,d,h=>by
  simp only[bL,List.getElem?_cons_succ]at h;obtain ⟨x,y,h1,h2,h3⟩:=yr as bs i d h;exact ⟨x,y,by simpa using h1,by simpa using h2,h3⟩
theorem abU{u:Value}{ds:List D}{g:Hld}{k:SK}(s:Src K H F u ds g k):WalkJ K H F (dw 0 ds) g (Je k) where
 go:=λH' F' G i x r hh hi=>by
  obtain ⟨vs,h1,h2⟩:=s.sat H' F' G x r hh;exact ⟨vs,h1,by rw[<-h2.length,<-lW 0];exact hi⟩
 stop:=λH' F' G x r hh=>by
  obtain ⟨vs,h1,h2⟩:=s.sat H' F' G x r hh;exact ⟨vs,h1,by rw[lW];exact h2.length.symm⟩
 yld:=λH' F' i v H'' d G x r hh hd y=>by
  obtain ⟨vs,h1,h2⟩:=s.sat H' F' G x r hh;obtain ⟨T,y,hT,e1,e2,hv⟩:=y;subst e1 e2;rw[lX]at hd;obtain ⟨d',hd',e3⟩:=bi.mp hd;subst e3;obtain ⟨w,e1,rw'⟩:=h2.get hd';have e2:=hv vs h1;rw[e1]at e2;cases e2;refine ⟨cR r hT,r.new hT,?_⟩;rw[Nat.zero_add];exact wC r hT (Reps.cons rfl (Reps.cons rw' Reps.nil))
theorem jV{g g':Hld}{G:DH}:held (g++g') G->held g G/\held g' G:=by
 induction g with
 |nil=>exact λh=>⟨trivial,h⟩
 |cons p r ih=>
  intro h;obtain ⟨h1,h2⟩:=ih h.2;exact ⟨⟨h.1,h1⟩,h2⟩
theorem abV{u u':Value}{ds es:List D}{g g':Hld}{k l:SK}(s:Src K H F u ds g k)(s':Src K H F u' es g' l):WalkJ K H F (bL ds es) (g++g') (Jz k l) where
 go:=λH' F' G i x r hh hi=>by
  obtain ⟨vs,h1,h2⟩:=s.sat H' F' G x r (jV hh).1;obtain ⟨ws,h3,h4⟩:=s'.sat H' F' G x r (jV hh).2;rw[uw]at hi;exact ⟨vs,ws,h1,h3,by rw[<-h2.length];omega,by rw[<-h4.length];omega⟩
 stop:=λH' F' G x r hh=>by
  obtain ⟨vs,h1,h2⟩:=s.sat H' F' G x r (jV hh).1;obtain ⟨ws,h3,h4⟩:=s'.sat H' F' G x r (jV hh).2;exact ⟨vs,ws,h1,h3,by rw[uw,<-h2.length,<-h4.length];omega⟩
 yld:=λH' F' i v H'' d G x r hh hd y=>by
  obtain ⟨T,y,z,hT,e1,e2,hv,hz⟩:=y;subst e1 e2;obtain ⟨a,b,ha,hb,e3⟩:=yr _ _ _ _ hd;subst e3;obtain ⟨vs,h1,h2⟩:=s.sat H' F' G x r (jV hh).1;obtain ⟨ws,h3,h4⟩:=s'.sat H' F' G x r (jV hh).2;obtain ⟨w,e1,rw'⟩:=h2.get ha;obtain ⟨w2,e3,rw2⟩:=h4.get hb;have e2:=hv vs h1;have e4:=hz ws h3;rw[e1]at e2;cases e2;rw[e3]at e4;cases e4;exact ⟨cR r hT,r.new hT,wC r hT (Reps.cons rw' (Reps.cons rw2 Reps.nil))⟩
theorem abW(lo:Int)(n:Nat):WalkJ K H F (bJ lo n) [] (Itr lo n) where
 go:=λH' F' G i x _ _ hi=>by show i < n;simpa [bJ] using hi
 stop:=λH' F' G x _ _=>by show n<=(bJ lo n).length;simp[bJ]
 yld:=λH' F' i v H'' d G x r _ hd y=>by
  obtain ⟨e1,e2⟩:=y;subst e1 e2;refine ⟨Ext.refl _ _,r,?_⟩;unfold bJ at hd;rw[b9]at hd;obtain ⟨j,hj,e3⟩:=bi.mp hd;have:j=i:=by have:=aw.mp hj;obtain ⟨h1,h2⟩:=this;simpa using h2.symm
  subst this;subst e3;rfl
end
def tI(K:PF)(B:Bs)(w:ak->DH->(List D->Hld->DH->Prop)->Prop):TI:=λσ H Rr=>∃ρ F G,Ext B.H B.F H F/\EnvR K H F ρ σ/\R K H F G/\
 w ρ G (λitems g G'=>∀H' F' J,Ext H F H' F'->R K H' F' G'->WalkJ K H' F' items g J->Rr J H')
section
variable {Φ:aa} {CX:CXT} {k:Nat} {c:CT} {E:EK} {B:Bs} {X:Cx}
theorem ux{pins:List (Addr×Obj)}{σ:L2.St}{H:Hp}{s:Shared}(I:Inv X pins σ H s){kk:SK}{vs:List V}(h:kk.Sat H vs):∃its:Array Value,kk.On its s.heap:=by
 cases kk with
 |lst a=>obtain ⟨its,_,pl,_⟩:=I.list (SqL.of (show H a=some _ from h));exact ⟨its.toArray,pl.isList⟩
 |tup a=>obtain ⟨its,_,pl,_⟩:=I.tuple (SqT.of (show H a=some _ from h));exact ⟨its.toArray,pl⟩
 |str x t=>exact ⟨#[],trivial⟩
theorem abX{x:Ex}(ih:OkE Φ c E B X x){tg e:Expr}(h:aj c x e=true):PI X tg e (tI X.K B (wpI Φ (.seq x) E)):=by
 intro pins s σ H Rr I q;obtain ⟨ρ,F,G,e0,he,r,hw⟩:=q;rw[q8]at hw;have q':tE X.K B (wpE Φ x E) σ H (λv H1=>∃F1 G1 d items,R X.K H1 F1 G1/\Rep X.K H1 F1 d v/\itemsOf G1 d=some items/\∀J,WalkJ X.K H1 F1 items.1 items.2 J->Rr J H1):=
  aO e0 he r hw λd G1 H1 F1 u q e1 x1 he1 r1 ru=>by
   split at q
   ·rename_i ds hd;exact ⟨F1,G1,d,ds,r1,ru,hd,λJ w=>q H1 F1 J x1 r1 w⟩
   ·exact q.elim
 refine thn (ih h pins s σ H _ I q') λu s1 ⟨v,H1,I1,rv,F1,G1,d,items,r1,rd,hd,q1⟩=>?_;obtain ⟨kk,src⟩:=ut rd rv hd;obtain ⟨vs,sat,_⟩:=src.sat H1 F1 G1 (Ext.refl _ _) r1 (uv hd);obtain ⟨its,on⟩:=ux I1 sat;rw[<-src.val];refine SK.iter on ?_;refine ⟨s1.heap.objs.size,[s1.heap.objs.size],_,_,H1,rfl,I1.kept (t':=s1.toks) λb o e=>ah _ e,aaE kk _,SK.pos0,λb hb=>?_,q1 _ (abT src)⟩;have e:b=s1.heap.objs.size:=by simpa using hb
 subst e;exact I1.fpOk (aE _) (I1.hok.fresh (aE _))
theorem abY(S:Stat Φ CX k c E B X){a:Ex}(ih:OkE Φ c E B X a){tg e:Expr}(h:bO c (.rng a) tg e=true):PI X tg e (tI X.K B (wpI Φ (.rng a) E)):=by
 replace h:=Hc h;obtain ⟨_,_,_,_,rfl,h⟩:=h
 ·simp only[ae,ar]at h;obtain ⟨⟨⟨e1,h1⟩,hm⟩,h2⟩:=h;subst e1;obtain ⟨g1,g2⟩:=cF h1;have hmg:=S.blt _ (aT.mp hm);have hs:=bI _ [] X.env (cj (bF a h2));intro pins s σ H Rr I q;refine VF (S.glo _ g1) hmg (gq (ih h2) jo hs) hs pins s σ H Rr I ?_;obtain ⟨ρ,F,G,e0,he,r,hw⟩:=q;rw[q9]at hw;refine aO e0 he r hw λd G1 H1 F1 u q e1 x1 he1 r1 ru=>?_;split at q
  ·rename_i n;have e2:u=.int n:=ru;subst e2;exact ⟨n,rfl,q.1.1,q.1.2,q.2 H1 F1 _ x1 r1 (abW 0 n.toNat)⟩
  ·exact q.elim
theorem abZ(S:Stat Φ CX k c E B X){a:Ex}(ih:OkE Φ c E B X a){tg e:Expr}(h:bO c (.rev a) tg e=true):PI X tg e (tI X.K B (wpI Φ (.rev a) E)):=nomatch (show false=true from h)
theorem ab0(S:Stat Φ CX k c E B X){a b d:Ex}(iha:OkE Φ c E B X a)(ihb:OkE Φ c E B X b)(ihd:OkE Φ c E B X d){tg e:Expr}(h:bO c (.dwn a b d) tg e=true):PI X tg e (tI X.K B (wpI Φ (.dwn a b d) E)):=nomatch (show false=true from h)
theorem ab1(S:Stat Φ CX k c E B X){a b:Ex}(iha:OkE Φ c E B X a)(ihb:OkE Φ c E B X b){tg e:Expr}(h:bO c (.rng2 a b) tg e=true):PI X tg e (tI X.K B (wpI Φ (.rng2 a b) E)):=nomatch (show false=true from h)
theorem ab2(S:Stat Φ CX k c E B X){a:Ex}(ih:OkE Φ c E B X a){tg e:Expr}(h:bO c (.enm a) tg e=true):PI X tg e (tI X.K B (wpI Φ (.enm a) E)):=by
 replace h:=Hf h;obtain ⟨_,_,_,_,_,_,_,rfl,rfl,h⟩:=h
 ·skip
  ·simp only[ae,ar]at h;obtain ⟨⟨⟨e1,h1⟩,hm⟩,h2⟩:=h;subst e1;obtain ⟨g1,g2⟩:=cF h1;have hmg:=S.blt _ (aT.mp hm);have hs:=bI _ [] X.env (cj (bF a h2));intro pins s σ H Rr I q;obtain ⟨ρ,F,G,e0,he,r,hw⟩:=q;rw[rm]at hw;have q':tL X.K B (aN Φ (.cons a .nil) E) σ H (λvs H1=>∃v F1 G1 d items,vs=[v]/\R X.K H1 F1 G1/\Rep X.K H1 F1 d v/\itemsOf G1 d=some items/\∀J,WalkJ X.K H1 F1 (dw 0 items.1) items.2 J->Rr J H1):=by
    refine bQ (W:=λds G1=>∃d items,ds=[d]/\itemsOf G1 d=some items/\∀H' F' J,Ext H F H' F'->R X.K H' F' G1->WalkJ X.K H' F' (dw 0 items.1) items.2 J->Rr J H') e0 he r ?_ λds G1 H1 F1 vs q e1 x1 he1 r1 rvs=>?_
    ·rw[gG];refine aB a (λd G1 q=>?_) hw;rw[gF];split at q
     ·rename_i items hd;exact ⟨d,items,rfl,hd,q⟩
     ·exact q.elim
    ·obtain ⟨d,items,e2,hd,q⟩:=q;subst e2;obtain ⟨v,e3,rv⟩:=bu rvs;exact ⟨v,F1,G1,d,items,e3,r1,rv,hd,λJ w=>q H1 F1 J x1 r1 w⟩
   refine Call_ (jm I (S.glo _ g1) hmg (u:=.type "enumerate") boot_enumerate (fi (thn (ul ih (λh=>yl h) (c:=c) (es:=[_]) (by unfold aM;show (aj c a _&&true)=true;rw[h2];rfl) _ pins s σ H _ I q') λus s1 ⟨vs,H1,I1,r1v,q1⟩=>?_) hs rfl) (c7 g2) (bw g2));obtain ⟨v,F1,G1,d,items,e1,r1,rd,hd,q1⟩:=q1;subst e1;obtain ⟨u,rfl,ru⟩:=vals1 r1v;obtain ⟨kk,src⟩:=ut rd ru hd;obtain ⟨vs,sat,_⟩:=src.sat H1 F1 G1 (Ext.refl _ _) r1 (uv hd);obtain ⟨its,on⟩:=ux I1 sat;rw[<-src.val];refine aaN on λh' hen hit hsz hk=>?_;refine wpAny_pyIter_enum hen ?_;have n1:H1 s1.heap.objs.size=none:=I1.hok.fresh (aE _);have n2:H1 (s1.heap.objs.size+1)=none:=I1.hok.fresh (fI _);refine ⟨s1.heap.objs.size+1,[s1.heap.objs.size+1,s1.heap.objs.size],_,_,H1,rfl,I1.kept (t':=s1.toks) hk,aaD kk _ _ (Nat.succ_ne_self _),⟨⟨_,hen⟩,hit⟩,λb hb=>?_,q1 _ (abU src)⟩;have hb':b=s1.heap.objs.size+1\/b=s1.heap.objs.size:=by simpa using hb
   rcases hb' with rfl |rfl
   ·exact I1.fpOk (fI _) n2
   ·exact I1.fpOk (aE _) n1
theorem zap(n:Nat):ZApart (n+4) (n+2) (n+3) n (n+1):=
 ⟨(by omega:(n+2:Nat)≠n+4),(by omega:(n+3:Nat)≠n+4),(by omega:(n:Nat)≠n+4),(by omega:(n+1:Nat)≠n+4),(by omega:(n+2:Nat)≠n+3),(by omega:(n+2:Nat)≠n),(by omega:(n+2:Nat)≠n+1),(by omega:(n+3:Nat)≠n),(by omega:(n+3:Nat)≠n+1),(by omega:(n:Nat)≠n+1)⟩
theorem ab3(S:Stat Φ CX k c E B X){a b:Ex}(iha:OkE Φ c E B X a)(ihb:OkE Φ c E B X b){tg e:Expr}(h:bO c (.zip a b) tg e=true):PI X tg e (tI X.K B (wpI Φ (.zip a b) E)):=by
 replace h:=Hg h;obtain ⟨_,_,_,_,_,v,v',pos,rfl,rfl,h⟩:=h
 ·skip
  ·simp only[ae,ar]at h;obtain ⟨⟨⟨⟨e1,h1⟩,hm⟩,h2⟩,h3⟩:=h;subst e1;obtain ⟨g1,g2⟩:=cF h1;have hmg:=S.blt _ (aT.mp hm);have hs2:=bI v' [] X.env (cj (bF b h3));have hs:=bI v [v'] X.env (cj (bF a h2));intro pins s σ H Rr I q;obtain ⟨ρ,F,G,e0,he,r,hw⟩:=q;rw[rn]at hw;have hA:aM c (.cons a (.cons b .nil)) [v,v']=true:=by
    unfold aM aM aM;show (aj c a v&&(aj c b v'&&true))=true;rw[h2,h3];rfl
   have q':tL X.K B (aN Φ (.cons a (.cons b .nil)) E) σ H (λvs H1=>∃v v' F1 G1 d d' items items',vs=[v,v']/\R X.K H1 F1 G1/\Rep X.K H1 F1 d v/\Rep X.K H1 F1 d' v'/\itemsOf G1 d=some items/\itemsOf G1 d'=some items'/\∀J,WalkJ X.K H1 F1 (bL items.1 items'.1) (items.2++items'.2) J->Rr J H1):=by
    refine bQ (W:=λds G1=>∃d d' items items',ds=[d,d']/\itemsOf G1 d=some items/\itemsOf G1 d'=some items'/\∀H' F' J,Ext H F H' F'->R X.K H' F' G1->WalkJ X.K H' F' (bL items.1 items'.1) (items.2++items'.2) J->Rr J H') e0 he r ?_ λds G1 H1 F1 vs q e1 x1 he1 r1 rvs=>?_
    ·rw[gG];refine aB a (λd G1 q=>?_) hw;rw[gG];refine aB b (λd' G2 q=>?_) q;rw[gF];split at q
     ·rename_i items items' hd hd';exact ⟨d,d',items,items',rfl,hd,hd',q⟩
     ·exact q.elim
    ·obtain ⟨d,d',items,items',e2,hd,hd',q⟩:=q;subst e2;obtain ⟨w1,r2,e3,rw1,t2⟩:=rvs;obtain ⟨w2,e4,rw2⟩:=bu t2;subst e4;exact ⟨w1,w2,F1,G1,d,d',items,items',e3,r1,rw1,rw2,hd,hd',λJ w=>q H1 F1 J x1 r1 w⟩
   refine Call_ (jm I (S.glo _ g1) hmg (u:=.type "zip") Yg (fi (thn (ul iha (λh=>ul ihb (λh=>yl h) h) (c:=c) (es:=[v,v']) hA _ pins s σ H _ I q') λus s1 ⟨vs,H1,I1,r1v,q1⟩=>?_) hs (by rw[hs2];rfl)) (c7 g2) (bw g2));obtain ⟨w1,w2,F1,G1,d,d',items,items',e1,r1,rd,rd',hd,hd',q1⟩:=q1;subst e1;obtain ⟨u,u',rfl,ru,ru'⟩:=vals2 r1v;obtain ⟨kk,src⟩:=ut rd ru hd;obtain ⟨ll,src'⟩:=ut rd' ru' hd';obtain ⟨vs,sat,_⟩:=src.sat H1 F1 G1 (Ext.refl _ _) r1 (uv hd);obtain ⟨ws,sat',_⟩:=src'.sat H1 F1 G1 (Ext.refl _ _) r1 (uv hd');obtain ⟨its,on⟩:=ux I1 sat;obtain ⟨its',on'⟩:=ux I1 sat';rw[<-src.val,<-src'.val];refine aaL on on' λh' hz hTI hTO p1 p2 hsz hk=>?_;refine wpAny_pyIter_zip hz ?_;have fr:∀j,H1 (s1.heap.objs.size+j)=none:=λj=>I1.hok.fresh (cm _ _);refine ⟨s1.heap.objs.size+4,[s1.heap.objs.size+4,s1.heap.objs.size+2,s1.heap.objs.size+3,s1.heap.objs.size,s1.heap.objs.size+1],_,_,H1,rfl,I1.kept (t':=s1.toks) hk,
    aaI kk ll (s1.heap.objs.size+4) (s1.heap.objs.size+2) (s1.heap.objs.size+3) s1.heap.objs.size (s1.heap.objs.size+1) (zap s1.heap.objs.size),⟨hz,hTI,⟨_,_,hTO⟩,p1,p2⟩,λb hb=>?_,q1 _ (abV src src')⟩
   have hb':b=s1.heap.objs.size+4\/b=s1.heap.objs.size+2\/b=s1.heap.objs.size+3\/b=s1.heap.objs.size\/b=s1.heap.objs.size+1:=by simpa using hb
   rcases hb' with rfl |rfl |rfl |rfl |rfl
   ·exact I1.fpOk (cm _ _) (fr 4)
   ·exact I1.fpOk (cm _ _) (fr 2)
   ·exact I1.fpOk (cm _ _) (fr 3)
   ·exact I1.fpOk (aE _) (fr 0)
   ·exact I1.fpOk (cm _ _) (fr 1)
end
section
variable {Φ:aa} {CX:CXT} {k:Nat} {c:CT} {E:EK} {B:Bs} {X:Cx}
theorem yt:∀{l:List Str},eO l=true->l.Nodup
 |[],_=>List.nodup_nil
 |x::r,h=>by
  unfold eO at h;rw[ae]at h;refine List.nodup_cons.mpr ⟨λhm=>?_,yt h.2⟩;have:=h.1;rw[aT.mpr hm]at this;cases this
theorem uy{N:List Str}{scope:Scope}:∀{N':List Str}{cap:List (Option Nat)},X.N=N->gJ N scope N' cap=true->Caps X scope N' cap
 |[],[],_,_=>trivial
 |_::N',none::cap,e,h=>uy (N':=N') (cap:=cap) e h
 |x::N',some j::cap,e,h=>by
  unfold gJ at h;simp only[ae,ar]at h;exact ⟨⟨by rw[e];exact h.1.1,h.1.2⟩,uy (N':=N') (cap:=cap) e h.2⟩
 |[],_::_,_,h=>by cases h
 |_::_,[],_,h=>by cases h
theorem lY{scope:Scope}{env:Env}(x:Str):(relabel scope env).names.lookup x=(scope.names.lookup x).map λkk=>if (kk==NameKind.free&&env.scope.kind==.function&&env.kindOf x==some .cell)=true then NameKind.cell else kk:=vY
theorem Stat.comp(S:Stat Φ CX k c E B X){N':List Str}{scope:Scope}(hn:eO N'=true)(cl:List (Str×Addr))(C:Addr)(s₁:Shared)(H₁:Hp)(fp:List Addr)(pn:List (Addr×Obj)):
  Stat Φ CX k (c.comp N' scope) noE B (X.comp N' scope cl C s₁ H₁ fp pn) where
 N:=rfl
 nd:=yt hn
 calm:=S.calm
 own:=PassesOwn.never
 kd:=rfl
 vis:=λx h=>by
  have h:iH (scope.names.lookup x)=true:=h;show (relabel scope X.env).names.lookup x=_\/(relabel scope X.env).names.lookup x=_\/(relabel scope X.env).names.lookup x=_;rw[lY];cases e:scope.names.lookup x with
  |none=>rw[e]at h;cases h
  |some kk=>
   rw[e]at h;cases kk with
   | «local»=>exact .inl (by simp[show (NameKind.«local»==NameKind.free)=false by decide])
   |cell=>exact .inr (.inl (by simp[show (NameKind.cell==NameKind.free)=false by decide]))
   |free=>
    by_cases q:(NameKind.free==NameKind.free&&X.env.scope.kind==ScopeKind.function&&X.env.kindOf x==some NameKind.cell)=true
    ·exact .inr (.inl (by simp only[Option.map_some,if_pos q]))
    ·exact .inr (.inr (by simp only[Option.map_some,if_neg q]))
   |globalExplicit=>cases h
   |globalImplicit=>cases h
 cel:=λx h=>by
  have h:scope.names.lookup x=some .cell\/scope.names.lookup x=some .free:=h;show (relabel scope X.env).names.lookup x=_\/(relabel scope X.env).names.lookup x=_;rw[lY];rcases h with h |h
  ·exact .inl (by rw[h];simp[show (NameKind.cell==NameKind.free)=false by decide])
  ·rw[h];by_cases q:(NameKind.free==NameKind.free&&X.env.scope.kind==ScopeKind.function&&X.env.kindOf x==some NameKind.cell)=true
   ·exact .inl (by simp only[Option.map_some,if_pos q])
   ·exact .inr (by simp only[Option.map_some,if_neg q])
 glo:=λx h=>by
  have h:scope.names.lookup x=some .globalImplicit:=h;show (relabel scope X.env).names.lookup x=_;rw[lY,h];simp[show (NameKind.globalImplicit==NameKind.free)=false by decide]
 sto:=λx h=>by
  have h:(scope.names.lookup x==some .local||(false&&scope.names.lookup x==some .cell))=true:=h;rw[e7,Bool.or_false,ar]at h;have e:(relabel scope X.env).names.lookup x=some .local:=by rw[lY,h];simp[show (NameKind.«local»==NameKind.free)=false by decide]
  exact ⟨.inl e,.inr e⟩
 room:=S.room
 call:=S.call
 blt:=S.blt
 con:=S.con
 exc:=⟨_,S.nox _,λ_ _ _ _ _ _ _ _ _ _ q=>q.elim,λx G' H' F' h=>h.elim⟩
 nox:=S.nox
 xcl:=λC h=>nomatch (show false=true from h)
 loc:=λx h=>by show (relabel scope X.env).names.lookup x=_;rw[lY,show scope.names.lookup x=some .local from h];simp[show (NameKind.«local»==NameKind.free)=false by decide]
 xis:=λC h=>nomatch (show false=true from h)
 mth:=S.mth
 mko:=S.mko
 fld:=S.fld
 trc:=λh=>absurd rfl h
theorem ab4(S:Stat Φ CX k c E B X){t:Tx}(ih:OkT Φ c E B X t){ifs:List Expr}(h:lQ c t ifs=true):PIf X ifs (tB' X.K B (wpT Φ t E)):=by
 unfold lQ at h;rw[c8]at h;rcases h with h |h
 ·rw[ae,eT]at h;obtain ⟨hy,rfl⟩:=h;cases t with
  |yes=>
   intro pins s σ H Q I q;refine XN pins s σ H Q I ?_;obtain ⟨ρ,F,G,e0,he,r,hw⟩:=q;rw[qU]at hw;exact hw.now r
  |_=>cases hy
 ·obtain ⟨e,he,h⟩:=aP h;rw[cO he];exact XQ (ih h)
theorem Hv(S:Stat Φ CX k c E B X){fz:Bool}{elt:Ex}{tg:Tg}{it:It'}{cond:Tx}{N':List Str}{cap:List (Option Nat)}{scope:Scope}{elt' tg':Expr}{ifs:List Expr}(hn:eO N'=true)
  (ihe:∀{X':Cx},Stat Φ CX k (c.comp N' scope) noE B X'->OkE Φ (c.comp N' scope) noE B X' elt) (iht:∀{X':Cx},Stat Φ CX k (c.comp N' scope) noE B X'->OkT Φ (c.comp N' scope) noE B X' cond)
  (hg:cD (c.comp N' scope) tg tg'=true) (hi:lQ (c.comp N' scope) cond ifs=true) (he:aj (c.comp N' scope) elt elt'=true)
  {σ:L2.St} {H:Hp} {Q:VK} {ρ:ak} {F:FZ} {G:DH} (e0:Ext B.H B.F H F) (henv:EnvR X.K H F ρ σ) (r:R X.K H F G)
  (hw:wpI Φ it E ρ G λitems g G1=>
   compLoop (λd ρ' G' k'=>aY tg d ρ' G' λρ1=>wpT Φ cond noE ρ1 G' λb G2=>match b with |true=>wpE Φ elt noE ρ1 G2 λy G3=>k' (some y) ρ1 G3 |false=>k' none ρ1 G2)
    g items [] (cap.map λo=>match o with |none=>none |some j=>(ρ[j]?).join) G1 λds G2=>mk fz ds G2 (PV X.K H F Q)):
  tI X.K B (wpI Φ it E) σ H (λJ H1=>CW X N' scope tg' ifs elt' J (dJ cap σ) H1 Q):=by
 refine ⟨ρ,F,G,e0,henv,r,lG it (λitems g G1 q H1 F1 J x1 r1 W=>?_) hw⟩;let step:D->ak->DH->(Option D->ak->DH->Prop)->Prop:=λd ρ' G' k'=>aY tg d ρ' G' λρ1=>wpT Φ cond noE ρ1 G' λb G2=>match b with |true=>wpE Φ elt noE ρ1 G2 λy G3=>k' (some y) ρ1 G3 |false=>k' none ρ1 G2
 let fin:List D->DH->Prop:=λds G2=>mk fz ds G2 (PV X.K H F Q)
 refine ⟨λi m ys σ' H'=>m=items.length - i/\i<=items.length/\∃ρ' F' G' acc,Ext B.H B.F H' F'/\Ext H1 F1 H' F'/\EnvR X.K H' F' ρ' σ'/\R X.K H' F' G'/\Reps X.K H' F' acc ys/\compLoop step g (items.drop i) acc ρ' G' fin,
  ⟨items.length,by simp,eK _,_,F1,G1,[],e0.trans x1,Ext.refl _ _,(henv.ext x1).cap cap,r1,rfl,q⟩,?_⟩
 rintro i m ys σ' H' ⟨rfl,hle,ρ',F',G',acc,eB,e1,he',r',ra,hl⟩;by_cases hlt:i < items.length
 ·have hd:items.drop i=items[i]::items.drop (i+1):=b6 hlt;rw[hd]at hl;obtain ⟨hh,hz,hl⟩:=hl;refine .inr ⟨W.go H' F' G' i e1 r' hh hlt,by rw[<-ra.length];exact ba hz szl,λcl C s₁ H₁ fp pn=>?_⟩;have S':=S.comp (scope:=scope) hn cl C s₁ H₁ fp pn;refine ⟨_,_,_,ur S' tg hg,ab4 S' (iht S') hi,ihe S' he,λx H2 hy=>?_⟩;obtain ⟨xy,ry,rx⟩:=W.yld H' F' i x H2 items[i] G' e1 r' hh (by simp[hlt]) hy;refine ⟨ρ',F',G',items[i],eB.trans xy,he'.ext xy,ry,rx,fP (λρ1 z σ1 hσ1=>?_) tg hl⟩;refine jR (eB.trans xy) hσ1 ry z λb G2 H3 F3 z e3 x3 he3 r3=>?_;cases b with
  |true=>
   rw[if_pos rfl];refine aO e3 he3 r3 z λy G4 H4 F4 v z e4 x4 he4 r4 rv=>?_;exact ⟨items.length - (i+1),by omega,rfl,hlt,ρ1,F4,G4,acc++[y],e4,e1.trans (xy.trans (x3.trans x4)),he4,r4,(Reps.ext (xy.trans (x3.trans x4)) ra).append (Reps.cons rv Reps.nil),z⟩
  |false=>
   rw[if_neg bq];exact ⟨items.length - (i+1),by omega,rfl,hlt,ρ1,F3,G2,acc,e3,e1.trans (xy.trans x3),he3,r3,Reps.ext (xy.trans x3) ra,z⟩
 ·have hi':i=items.length:=by omega
  subst hi';rw[eW]at hl;obtain ⟨hh,hz,hl⟩:=hl;refine .inl ⟨W.stop H' F' G' e1 r' hh,by rw[<-ra.length];exact cT hz,λp hp=>?_⟩;exact fQ (dB (λd G' z=>PV.later z (x1.trans e1)) hl) r' ra p hp
structure CompC(c:CT)(elt:Ex)(tg:Tg)(it:It')(cond:Tx)(N':List Str)(cap:List (Option Nat))(elt' tg' iter:Expr)(ifs:List Expr)(scope:Scope):Prop where
 it:bO c it tg' iter=true
 cap:gJ c.N scope N' cap=true
 sc:jM c scope=true
 nd:eO N'=true
 tg:cD (c.comp N' scope) tg tg'=true
 cd:lQ (c.comp N' scope) cond ifs=true
 el:aj (c.comp N' scope) elt elt'=true
theorem Hw(S:Stat Φ CX k c E B X){scope:Scope}(h:jM c scope=true):scope.names.all (λy=>y.2 != NameKind.cell)=true/\scope.names.all (λy=>y.2 != NameKind.local||scope.names.lookup y.1==some NameKind.local)=true/\
  scope.names.all (λy=>y.2 != NameKind.free||(X.env.kindOf y.1==some NameKind.cell||X.env.kindOf y.1==some NameKind.free))=true/\scope.kind=.function:=by
 unfold jM at h;simp only[ae,bd]at h;obtain ⟨⟨⟨⟨h1,h2⟩,h3⟩,h4⟩,_⟩:=h;refine ⟨h1,h2,?_,h4⟩;rw[bo]at h3 ⊢;intro y hy;have:=h3 y hy;rw[c8,c8,ar,ar]at this;rw[c8,c8,ar,ar];rcases this with q |q
 ·exact .inl q
 ·exact .inr (S.cel y.1 q)
theorem Hx{fz:Bool}{elt:Ex}{tg:Tg}{it:It'}{cond:Tx}{N:List String}{cap:List (Option Nat)}{e:Expr}(h:aj c (.comp fz elt tg it cond N cap) e=true):
  ∃elt' tg' iter ifs scope pos,e=.ListComp elt' [⟨tg',iter,ifs,0⟩] scope pos/\CompC c elt tg it cond (N.map Str.ofString) cap elt' tg' iter ifs scope:=by
 replace h:=Hb h;obtain ⟨_,_,_,_,_,_,_,rfl,h⟩:=h;simp only[ae,bd]at h;obtain ⟨⟨⟨⟨⟨⟨⟨h1,h2⟩,h3⟩,h4⟩,h5⟩,h6⟩,h7⟩,h8⟩:=h;subst h1;exact ⟨_,_,_,_,_,_,rfl,h2,h3,h4,h5,h6,h7,h8⟩
theorem yu{it:It'}{tg' iter:Expr}(h:bO c it tg' iter=true)(env:Env)(x:Value):foldedSetIterable iter env x=pure x:=by
 cases it with
 |seq y=>exact abb (bF y (show aj c y iter=true from h)) env x
 |rng a=>obtain ⟨_,_,_,_,rfl,_⟩:=Hc h;rfl
 |rng2 _ _=>exact nomatch (show false=true from h)
 |rev _=>exact nomatch (show false=true from h)
 |dwn _ _ _=>exact nomatch (show false=true from h)
 |enm a=>obtain ⟨_,_,_,_,_,_,_,_,rfl,_⟩:=Hf h;rfl
 |zip a b=>obtain ⟨_,_,_,_,_,_,_,_,_,rfl,_⟩:=Hg h;rfl
theorem ab5(S:Stat Φ CX k c E B X){fz:Bool}{elt:Ex}{tg:Tg}{it:It'}{cond:Tx}{N:List String}{cap:List (Option Nat)}
  (ihe:∀{c':CT}{X':Cx},Stat Φ CX k c' noE B X'->OkE Φ c' noE B X' elt) (iht:∀{c':CT}{X':Cx},Stat Φ CX k c' noE B X'->OkT Φ c' noE B X' cond)
  (ihi:∀{tg' iter:Expr},bO c it tg' iter=true->PI X tg' iter (tI X.K B (wpI Φ it E))) {e:Expr} (h:aj c (.comp fz elt tg it cond N cap) e=true):
  PE X e (tE X.K B (wpE Φ (.comp fz elt tg it cond N cap) E)):=by
 obtain ⟨elt',tg',iter,ifs,scope,pos,rfl,C⟩:=Hx h;obtain ⟨s1,s2,s3,s4⟩:=Hw S C.sc;refine peI (Ym (N.map Str.ofString) cap S.calm (ihi C.it) (uy S.N C.cap) s1 s2 s3 s4 (yu C.it X.env)) λσ H Q hq=>el hq λρ F G e0 he r hw=>?_;rw[xu]at hw;exact Hv S C.nd (λS'=>ihe S') (λS'=>iht S') C.tg C.cd C.el e0 he r hw
theorem aZ{x:Ex}(ih:OkE Φ c E B X x)(hn:∀l os rs pos,aj c x (.Compare l os rs pos)=true->False){e:Expr}(h:bD c (.val x) e=true):PT X e (tB' X.K B (wpT Φ (.val x) E)):=by
 have h:((iI e||lO e)&&aj c x e&&FW x)=true:=h;simp only[ae,c8]at h;obtain ⟨⟨h1,h2⟩,h3⟩:=h;rcases h1 with h1 |h1
 ·exact abM ih h1 h2
 ·obtain ⟨⟨t,ht⟩,_⟩:=cq.mp h1;rw[ht]at h2;exact (hn _ _ _ _ h2).elim
end
mutual
theorem az{Φ:aa}{CX:CXT}{k:Nat}{B:Bs}:∀(x:Ex){c:CT}{E:EK}{X:Cx},Stat Φ CX k c E B X->OkE Φ c E B X x
 |.var i,c,E,X,S=>by intro h;exact abf S h
 |.cst d,c,E,X,S=>by intro h;exact abg S h
 |.glb x d,c,E,X,S=>by intro h;exact abh S h
 |.bin op fz a b,c,E,X,S=>by intro h;exact abi S (az a S) (az b S) h
 |.neg a,c,E,X,S=>by intro h;exact abj S (az a S) h
 |.cmp op a b,c,E,X,S=>by intro h;exact (Hm S (az a S) (az b S) h).1
 |.chn op op' a b d,c,E,X,S=>by intro h;exact (Hn S (az a S) (az b S) (az d S) h).1
 |.not a,c,E,X,S=>by intro h;exact abk S (az a S) h
 |.boo isAnd e es,c,E,X,S=>by intro h;exact abK (az e S) (dg es S) h
 |.ife t a b,c,E,X,S=>by intro h;exact abL (iQ t S) (az a S) (az b S) h
 |.tup es,c,E,X,S=>by intro h;exact abl S (EachE.oks (dg es S)) h
 |.lst fz es,c,E,X,S=>by intro h;exact abm S (EachE.oks (dg es S)) h
 |.idx a i,c,E,X,S=>by intro h;exact abn S (az a S) (az i S) h
 |.slc fz a lo hi,c,E,X,S=>by intro h;exact abo S (az a S) (Hz lo S) (Hz hi S) h
 |.rvs fz a s,c,E,X,S=>by intro h;exact abp S (az a S) (az s S) h
 |.call f es,c,E,X,S=>by intro h;exact abr S (EachE.oks (dg es S)) h
 |.bcl f es,c,E,X,S=>by intro h;exact abt S (EachE.oks (dg es S)) h
 |.lcl fz f es,c,E,X,S=>by intro h;exact abu S (EachE.oks (dg es S)) h
 |.isi a t,c,E,X,S=>by intro h;exact aby S (az a S) h
 |.isx a C xs,c,E,X,S=>by intro h;exact abA S (az a S) h
 |.fst es,c,E,X,S=>by intro h;exact abJ S (dg es S) h
 |.rgl fz a,c,E,X,S=>by intro h;exact abv S (az a S) h
 |.rgt a,c,E,X,S=>by intro h;exact abw S (az a S) h
 |.fld C f o,c,E,X,S=>by intro h;exact abC S (az o S) h
 |.mcl f C m o es,c,E,X,S=>by intro h;exact abF S (az o S) (EachE.oks (dg es S)) h
 |.mko C es,c,E,X,S=>by intro h;exact abG S (EachE.oks (dg es S)) h
 |.pp0 o,c,E,X,S=>by intro h;exact abH S (az o S) h
 |.rpl f a b ix,c,E,X,S=>by intro h;exact abB S (az a S) (az b S) (az ix S) h
 |.mth m o es,c,E,X,S=>by intro h;exact abI S (az o S) (EachE.oks (dg es S)) h
 |.comp fz elt tg it cond N cap,c,E,X,S=>by intro h;exact ab5 S (λS'=>az elt S') (λS'=>iQ cond S') (yw it S) h
 |.frz a,c,E,X,S=>by intro h;exact abq S (az a S) h
theorem dg{Φ:aa}{CX:CXT}{k:Nat}{B:Bs}:∀(x:Exs){c:CT}{E:EK}{X:Cx},Stat Φ CX k c E B X->EachE Φ c E B X x
 |.nil,_,_,_,_=>trivial
 |.cons e es,c,E,X,S=>⟨az e S,dg es S⟩
theorem iQ{Φ:aa}{CX:CXT}{k:Nat}{B:Bs}:∀(x:Tx){c:CT}{E:EK}{X:Cx},Stat Φ CX k c E B X->OkT Φ c E B X x
 |.not t,c,E,X,S=>by intro h;exact abN (iQ t S) h
 |.boo isAnd t ts,c,E,X,S=>by intro h;exact abO (iQ t S) (Hy ts S) h
 |.yes,c,E,X,S=>by intro h;exact nomatch (show false=true from h)
 |.val (.cmp op a b),c,E,X,S=>by
  intro h;have h:((iI _||lO _)&&aj c (.cmp op a b) _&&true)=true:=h;simp only[ae]at h;exact (Hm S (az a S) (az b S) h.1.2).2
 |.val (.chn op op' a b d),c,E,X,S=>by
  intro h;have h:((iI _||lO _)&&aj c (.chn op op' a b d) _&&true)=true:=h;simp only[ae]at h;exact (Hn S (az a S) (az b S) (az d S) h.1.2).2
 |.val (.frz a),c,E,X,S=>by
  intro h;have h:((iI _||lO _)&&aj c (.frz a) _&&false)=true:=h;rw[ez]at h;cases h
 |.val (.var i),c,E,X,S=>by intro h;exact aZ (az (.var i) S) (λ_ _ _ _ h=>nomatch (show false=true from h)) h
 |.val (.cst d),c,E,X,S=>by intro h;exact aZ (az (.cst d) S) (λ_ _ _ _ h=>nomatch (show false=true from h)) h
 |.val (.glb x d),c,E,X,S=>by intro h;exact aZ (az (.glb x d) S) (λ_ _ _ _ h=>nomatch (show false=true from h)) h
 |.val (.bin op fz a b),c,E,X,S=>by intro h;exact aZ (az (.bin op fz a b) S) (λ_ _ _ _ h=>nomatch (show false=true from h)) h
 |.val (.neg a),c,E,X,S=>by intro h;exact aZ (az (.neg a) S) (λ_ _ _ _ h=>nomatch (show false=true from h)) h
 |.val (.not a),c,E,X,S=>by intro h;exact aZ (az (.not a) S) (λ_ _ _ _ h=>nomatch (show false=true from h)) h
 |.val (.boo isAnd e es),c,E,X,S=>by intro h;exact aZ (az (.boo isAnd e es) S) (λ_ _ _ _ h=>nomatch (show false=true from h)) h
 |.val (.ife t a b),c,E,X,S=>by intro h;exact aZ (az (.ife t a b) S) (λ_ _ _ _ h=>nomatch (show false=true from h)) h
 |.val (.tup es),c,E,X,S=>by intro h;exact aZ (az (.tup es) S) (λ_ _ _ _ h=>nomatch (show false=true from h)) h
 |.val (.lst fz es),c,E,X,S=>by intro h;exact aZ (az (.lst fz es) S) (λ_ _ _ _ h=>nomatch (show false=true from h)) h
 |.val (.idx a i),c,E,X,S=>by intro h;exact aZ (az (.idx a i) S) (λ_ _ _ _ h=>nomatch (show false=true from h)) h
 |.val (.slc fz a lo hi),c,E,X,S=>by intro h;exact aZ (az (.slc fz a lo hi) S) (λ_ _ _ _ h=>nomatch (show false=true from h)) h
 |.val (.rvs fz a s),c,E,X,S=>by intro h;exact aZ (az (.rvs fz a s) S) (λ_ _ _ _ h=>nomatch (show false=true from h)) h
 |.val (.call f es),c,E,X,S=>by intro h;exact aZ (az (.call f es) S) (λ_ _ _ _ h=>nomatch (show false=true from h)) h
 |.val (.bcl f es),c,E,X,S=>by intro h;exact aZ (az (.bcl f es) S) (λ_ _ _ _ h=>nomatch (show false=true from h)) h
 |.val (.lcl fz f es),c,E,X,S=>by intro h;exact aZ (az (.lcl fz f es) S) (λ_ _ _ _ h=>nomatch (show false=true from h)) h
 |.val (.isx a C xs),c,E,X,S=>by intro h;exact aZ (az (.isx a C xs) S) (λ_ _ _ _ h=>nomatch (show false=true from h)) h
 |.val (.rgl fz a),c,E,X,S=>by intro h;exact aZ (az (.rgl fz a) S) (λ_ _ _ _ h=>nomatch (show false=true from h)) h
 |.val (.rpl f a b ix),c,E,X,S=>by intro h;exact aZ (az (.rpl f a b ix) S) (λ_ _ _ _ h=>nomatch (show false=true from h)) h
 |.val (.fld C f o),c,E,X,S=>by intro h;exact aZ (az (.fld C f o) S) (λ_ _ _ _ h=>nomatch (show false=true from h)) h
 |.val (.mcl f C m o es),c,E,X,S=>by intro h;exact aZ (az (.mcl f C m o es) S) (λ_ _ _ _ h=>nomatch (show false=true from h)) h
 |.val (.mko C es),c,E,X,S=>by intro h;exact aZ (az (.mko C es) S) (λ_ _ _ _ h=>nomatch (show false=true from h)) h
 |.val (.pp0 o),c,E,X,S=>by intro h;exact aZ (az (.pp0 o) S) (λ_ _ _ _ h=>nomatch (show false=true from h)) h
 |.val (.rgt a),c,E,X,S=>by intro h;exact aZ (az (.rgt a) S) (λ_ _ _ _ h=>nomatch (show false=true from h)) h
 |.val (.fst es),c,E,X,S=>by intro h;exact aZ (az (.fst es) S) (λ_ _ _ _ h=>nomatch (show false=true from h)) h
 |.val (.isi a t),c,E,X,S=>by intro h;exact aZ (az (.isi a t) S) (λ_ _ _ _ h=>nomatch (show false=true from h)) h
 |.val (.mth m o es),c,E,X,S=>by intro h;exact aZ (az (.mth m o es) S) (λ_ _ _ _ h=>nomatch (show false=true from h)) h
 |.val (.comp fz elt tg it cond N cap),c,E,X,S=>by intro h;exact aZ (az (.comp fz elt tg it cond N cap) S) (λ_ _ _ _ h=>nomatch (show false=true from h)) h
theorem Hy{Φ:aa}{CX:CXT}{k:Nat}{B:Bs}:∀(x:Txs){c:CT}{E:EK}{X:Cx},Stat Φ CX k c E B X->um Φ c E B X x
 |.nil,_,_,_,_=>trivial
 |.cons e es,c,E,X,S=>⟨iQ e S,Hy es S⟩
theorem Hz{Φ:aa}{CX:CXT}{k:Nat}{B:Bs}:∀(x:Ox){c:CT}{E:EK}{X:Cx},Stat Φ CX k c E B X->∀y,x=.ob y->OkE Φ c E B X y
 |.no,c,E,X,S,y,e=>by cases e
 |.ob z,c,E,X,S,y,e=>by injection e with e;subst e;exact az z S
theorem yw{Φ:aa}{CX:CXT}{k:Nat}{B:Bs}:∀(x:It'){c:CT}{E:EK}{X:Cx},Stat Φ CX k c E B X->∀{tg e:Expr},bO c x tg e=true->PI X tg e (tI X.K B (wpI Φ x E))
 |.seq y,c,E,X,S,tg,e,h=>abX (az y S) (show aj c y e=true from h)
 |.rng a,c,E,X,S,tg,e,h=>abY S (az a S) h
 |.rng2 a b,c,E,X,S,tg,e,h=>ab1 S (az a S) (az b S) h
 |.rev a,c,E,X,S,tg,e,h=>abZ S (az a S) h
 |.dwn a b d,c,E,X,S,tg,e,h=>ab0 S (az a S) (az b S) (az d S) h
 |.enm a,c,E,X,S,tg,e,h=>ab2 S (az a S) h
 |.zip a b,c,E,X,S,tg,e,h=>ab3 S (az a S) (az b S) h
end
def EnD(K:PF)(H:Hp)(F:FZ)(D:Ends):En where
 nx:=λρ G'=>∀H' F' σ',Ext H F H' F'->EnvR K H' F' ρ σ'->R K H' F' G'->D.nx σ' H'
 rt:=PV K H F D.rt
 bk:=λρ G'=>∀H' F' σ',Ext H F H' F'->EnvR K H' F' ρ σ'->R K H' F' G'->D.bk σ' H'
 ct:=λρ G'=>∀H' F' σ',Ext H F H' F'->EnvR K H' F' ρ σ'->R K H' F' G'->D.ct σ' H'
theorem EnD.later{K:PF}{H H1:Hp}{F F1:FZ}{D:Ends}(x:Ext H F H1 F1):(EnD K H F D).Le (EnD K H1 F1 D):=
 ⟨λ_ _ h H' F' σ' x1=>h H' F' σ' (x.trans x1),λ_ _ h=>PV.later h x,λ_ _ h H' F' σ' x1=>h H' F' σ' (x.trans x1),λ_ _ h H' F' σ' x1=>h H' F' σ' (x.trans x1)⟩
def tS(K:PF)(B:Bs)(w:ak->DH->En->Prop):TS:=λD σ H=>∃ρ F G,Ext B.H B.F H F/\EnvR K H F ρ σ/\R K H F G/\w ρ G (EnD K H F D)
theorem psI{X:Cx}{st:Stmt}{t t':TS}(h:PS X st t)(i:∀D σ H,t' D σ H->t D σ H):PS X st t':=λpins s σ H D I q=>h pins s σ H D I (i D σ H q)
theorem HB{X:Cx}{st:List Stmt}{t t':TS}(h:PSs X st t)(i:∀D σ H,t' D σ H->t D σ H):PSs X st t':=λpins s σ H D I q=>h pins s σ H D I (i D σ H q)
theorem uz{e:Expr}(h:cN e=false)(t:Option Expr)(n:Nat)(env:Env):swapsWith e t n env=pure false:=by cases e <;> first |rfl |exact nomatch (show true=false from h)
theorem HF{e:Expr}(h:cN e=false)(t:Expr)(n:Nat)(env:Env):swapsWithSole [t] e n env=pure false:=uz h _ _ _
section
variable {Φ:aa} {CX:CXT} {k:Nat} {c:CT} {E:EK} {B:Bs} {X:Cx}
abbrev OkS(Φ:aa)(c:CT)(E:EK)(B:Bs)(X:Cx)(x:Sx):Prop:=∀{st:Stmt},aW c x st=true->PS X st (tS X.K B (wpS Φ x E))
abbrev jW(Φ:aa)(c:CT)(E:EK)(B:Bs)(X:Cx)(x:Sxs):Prop:=∀{st:List Stmt},aC c x st=true->PSs X st (tS X.K B (aq Φ x E))
theorem ab6(S:Stat Φ CX k c E B X){x:Ex}{st:Stmt}(h:aW c (.exp x) st=true):PS X st (tS X.K B (wpS Φ (.exp x) E)):=by
 replace h:=aaW h;obtain ⟨_,_,rfl,h⟩:=h
 ·rw[ae]at h;refine psI (Vg (az x S h.2) (uz (by simpa using h.1) _ _ _)) λD σ H hq=>el hq λρ F G e0 he r hw=>?_;rw[su]at hw;exact aO e0 he r hw λd G1 H1 F1 v q e1 x1 he1 r1 rv=>q _ _ _ x1 he1 r1
theorem ab7(S:Stat Φ CX k c E B X){i:Nat}{x:Ex}{st:Stmt}(h:aW c (.asg (.nm i) x) st=true):PS X st (tS X.K B (wpS Φ (.asg (.nm i) x) E)):=by
 replace h:=Hh h;obtain ⟨tg,e,pos,rfl,h⟩:=h
 ·simp only[ae]at h;obtain ⟨⟨h1,h2⟩,h3⟩:=h;have h3:(!cN e||Gi x)=true:=h3;replace h1:=yf h1;obtain ⟨y,py,rfl,h1⟩:=h1
  ·rw[ae,ar]at h1;obtain ⟨l,f⟩:=S.sto y h1.2;have hi:X.N[i]?=some y:=by rw[S.N];exact h1.1
   have go:∀(D:Ends)(σ:L2.St)(H:Hp),tS X.K B (wpS Φ (.asg (.nm i) x) E) D σ H->qi (tE X.K B (wpE Φ x E)) (qg i) D σ H:=λD σ H hq=>el hq λρ F G e0 he r hw=>by
    rw[jK]at hw;refine aO e0 he r hw λd G1 H1 F1 v q e1 x1 he1 r1 rv=>?_;unfold aY at q;exact q _ _ _ x1 (he1.set rv i) r1
   cases hc:cN e with
   |false=>exact psI (qj S.nd hi l (az x S h2) (uz hc _ _ _) f) go
   |true=>
    rw[hc,gl,Bool.false_or]at h3;cases x with
    |comp fz elt tg it cond N cap=>
     obtain ⟨elt',tg',iter,ifs,scope,pos',rfl,C⟩:=Hx h2;obtain ⟨s1,s2,s3,s4⟩:=Hw S C.sc;have hb:∃b:Bool,swapsWith (.ListComp elt' [⟨tg',iter,ifs,0⟩] scope pos') (some (.Name y py)) pos.line X.env=pure b:=⟨_,rfl⟩;obtain ⟨b,hb⟩:=hb;cases b with
     |false=>exact psI (qj S.nd hi l (az _ S h2) hb f) go
     |true=>
      refine psI (Yn S.nd hi l (N.map Str.ofString) cap S.calm (yw it S C.it) (uy S.N C.cap) s1 s2 s3 s4 (yu C.it X.env) hb f) λD σ H hq=>el hq λρ F G e0 he r hw=>?_;rw[jK]at hw;rw[xu]at hw;refine Hv (fz:=fz) (Q:=λv H1=>D.nx (σ.set i (some v)) H1) S C.nd (λS'=>az elt S') (λS'=>iQ cond S') C.tg C.cd C.el e0 he r (lG it (λitems g G1 q=>?_) hw);refine tu (λd ρ' G' k1 k2 hk z=>fP (λρ1 z=>cZ cond (λb G2 z=>by
       cases b with
       |true=>exact aB elt (λy G3 z=>hk _ _ _ z) z
       |false=>exact hk _ _ _ z) z) tg z) ?_ _ _ _ _ q
      ·intro ds G2 q;refine dB (λd G3 q=>?_) q;intro H1 F1 v x1 r1 rv;unfold aY at q;exact q _ _ _ x1 ((he.ext x1).set rv i) r1
    |_=>cases h3
theorem ab8(S:Stat Φ CX k c E B X){ts:Tgs}{x:Ex}{st:Stmt}(h:aW c (.asg (.tp ts) x) st=true):PS X st (tS X.K B (wpS Φ (.asg (.tp ts) x) E)):=by
 replace h:=Hh h;obtain ⟨tg,e,pos,rfl,h⟩:=h
 ·rw[ae,ae]at h;have h34:(!Gj e&&!cN e)=true:=h.2;obtain ⟨h1,h2⟩:=h.1;rw[ae,eP,eP]at h34;obtain ⟨h3,h4⟩:=h34;have hg:=ur S (.tp ts) h1;replace h1:=yg h1;obtain ⟨_,_,_,rfl,h1⟩:=h1
  ·refine psI (Bo (az x S h2) hg (HF h4 _ _ _) ?_ rfl) λD σ H hq=>el hq λρ F G e0 he r hw=>?_
   ·cases e <;> first |rfl |exact nomatch (show true=false from h3)
   ·rw[jK]at hw;refine aO e0 he r hw λd G1 H1 F1 v q e1 x1 he1 r1 rv=>?_;exact ⟨ρ,F1,G1,d,e1,he1,r1,rv,fP (λρ' z σ' hσ=>z H1 F1 σ' x1 hσ r1) (.tp ts) q⟩
theorem ab9(S:Stat Φ CX k c E B X){o i x:Ex}{st:Stmt}(h:aW c (.set o i x) st=true):PS X st (tS X.K B (wpS Φ (.set o i x) E)):=by
 replace h:=aaX h;obtain ⟨o',i',tpos,e,pos,rfl,h⟩:=h
 ·simp only[ae,eP]at h;obtain ⟨⟨⟨h1,h2⟩,h3⟩,h4⟩:=h;have hi:=bF i h2;refine psI (Bo (az x S h3) (Vw (az o S h1) (az i S h2) aay ?_) (HF h4 _ _ _) ?_ rfl) λD σ H hq=>el hq λρ F G e0 he r hw=>?_
  ·intro v;cases i' <;> first |rfl |exact nomatch (show false=true from hi)
  ·cases e <;> rfl
  ·rw[sy]at hw;refine aO e0 he r hw λd G1 H1 F1 v q e1 x1 he1 r1 rv=>?_;refine aO e1 he1 r1 q λa G2 H2 F2 w q e2 x2 he2 r2 rw'=>?_;refine aO e2 he2 r2 q λy G3 H3 F3 u q e3 x3 he3 r3 ru=>?_;refine ⟨F3,G3,a,y,d,r3,rw'.ext x3,ru,rv.ext (x2.trans x3),xF (λG4 q=>?_) q⟩;intro H4 F4 x4 r4;exact q _ _ _ (x1.trans (x2.trans (x3.trans x4))) (he3.ext x4) r4
theorem aca(S:Stat Φ CX k c E B X){i:Nat}{op:Operator}{x:Ex}{st:Stmt}(h:aW c (.aug i op x) st=true):PS X st (tS X.K B (wpS Φ (.aug i op x) E)):=by
 replace h:=aaY h;obtain ⟨y,py,o,e,pos,rfl,h⟩:=h
 ·simp only[ae,ar]at h;obtain ⟨⟨⟨⟨rfl,h1⟩,h2⟩,h3⟩,h4⟩:=h;obtain ⟨l,f⟩:=S.sto y h2;refine psI (Vy S.nd (by rw[S.N];exact h1) l (az x S h4) (aaz o) f) λD σ H hq=>el hq λρ F G e0 he r hw=>?_;rw[sE]at hw;split at hw
  ·rename_i a ha;obtain ⟨v,e1,rv⟩:=he.get ha;refine ⟨v,e1,aO e0 he r hw λb G1 H1 F1 u q e1 x1 he1 r1 ru=>?_⟩;refine ⟨F1,G1,a,b,r1,rv.ext x1,ru,xG (λd q=>?_) q⟩;intro H2 F2 w x2 r2 rw';exact q _ _ _ (x1.trans x2) ((he1.ext x2).set rw' i) r2
  ·exact hw.elim
theorem acb(S:Stat Φ CX k c E B X){o i:Ex}{op:Operator}{x:Ex}{st:Stmt}(h:aW c (.augs o i op x) st=true):PS X st (tS X.K B (wpS Φ (.augs o i op x) E)):=nomatch (show false=true from h)
theorem acd(S:Stat Φ CX k c E B X){x:Ex}{st:Stmt}(h:aW c (.ret x) st=true):PS X st (tS X.K B (wpS Φ (.ret x) E)):=by
 replace h:=aa4 h;obtain ⟨_,_,rfl,h⟩:=h
 ·refine psI (Vh (az x S h)) λD σ H hq=>el hq λρ F G e0 he r hw=>?_;rw[sG]at hw;exact ⟨ρ,F,G,e0,he,r,hw⟩
theorem ace{st:Stmt}(h:aW c .rtn st=true):PS X st (tS X.K B (wpS Φ .rtn E)):=by
 replace h:=aa5 h;obtain ⟨_,rfl,h⟩:=h
 ·refine psI Vj λD σ H hq=>el hq λρ F G e0 he r hw=>?_;rw[sH]at hw;exact hw.now r rfl
theorem acf(S:Stat Φ CX k c E B X){t:Tx}{a b:Sxs}(iha:jW Φ c E B X a)(ihb:jW Φ c E B X b){st:Stmt}(h:aW c (.ite t a b) st=true):PS X st (tS X.K B (wpS Φ (.ite t a b) E)):=by
 replace h:=aa6 h;obtain ⟨_,_,_,_,rfl,h⟩:=h
 ·simp only[ae]at h;obtain ⟨⟨h1,h2⟩,h3⟩:=h;refine psI (Vl (iQ t S h1) (iha h2) (ihb h3)) λD σ H hq=>el hq λρ F G e0 he r hw=>?_;rw[sI]at hw;refine jR e0 he r hw λb' G1 H1 F1 q e1 x1 he1 r1=>?_;cases b' with
  |true=>
   rw[if_pos rfl];exact ⟨ρ,F1,G1,e1,he1,r1,dC a (EnD.later x1) q⟩
  |false=>
   rw[if_neg bq];exact ⟨ρ,F1,G1,e1,he1,r1,dC b (EnD.later x1) q⟩
theorem acg(S:Stat Φ CX k c E B X){t:Tg}{it:It'}{b:Sxs}(ihb:jW Φ c E B X b){st:Stmt}(h:aW c (.for_ t it b) st=true):PS X st (tS X.K B (wpS Φ (.for_ t it b) E)):=by
 replace h:=aa7 h;obtain ⟨tg,iter,body,pos,rfl,h⟩:=h
 ·simp only[ae]at h;obtain ⟨⟨h1,h2⟩,h3⟩:=h;refine psI (VJ S.own S.calm (yw it S h2) (ur S t h1) (ihb h3) (yu h2 X.env)) λD σ H hq=>el hq λρ F G e0 he r hw=>?_;rw[Eb]at hw;refine ⟨ρ,F,G,e0,he,r,lG it (λitems g G1 q H1 F1 J x1 r1 W=>?_) hw⟩;let step:RF.D->ak->DH->(ak->DH->Prop)->Prop:=λd ρ' G' k=>aY t d ρ' G' λρ1=>aq Φ b E ρ1 G' { EnD X.K H F D with nx:=k,ct:=k,bk:=(EnD X.K H F D).nx }
  let P:Nat->L2.St->Hp->Prop:=λi σ' H'=>∃ρ' F' G',Ext B.H B.F H' F'/\Ext H1 F1 H' F'/\EnvR X.K H' F' ρ' σ'/\R X.K H' F' G'/\forLoop step g (items.drop i) ρ' G' (EnD X.K H F D).nx
  refine ⟨λi m σ' H'=>m=items.length - i/\i<=items.length/\P i σ' H',⟨items.length,by simp,eK _,ρ,F1,G1,e0.trans x1,Ext.refl _ _,he.ext x1,r1,q⟩,?_⟩;rintro i m σ' H' ⟨rfl,hle,ρ',F',G',eB,e1,he',r',hl⟩;by_cases hlt:i < items.length
  ·have hd:items.drop i=items[i]::items.drop (i+1):=b6 hlt;rw[hd]at hl;obtain ⟨hh,hl⟩:=hl;refine .inr ⟨W.go H' F' G' i e1 r' hh hlt,P (i+1),λσ2 H2 p=>⟨items.length - (i+1),by omega,rfl,hlt,p⟩,λx H2 hy=>?_⟩;obtain ⟨xy,ry,rx⟩:=W.yld H' F' i x H2 items[i] G' e1 r' hh (by simp[hlt]) hy;refine ⟨ρ',F',G',items[i],eB.trans xy,he'.ext xy,ry,rx,fP (λρ1 z σ1 hσ1=>?_) t hl⟩;refine ⟨ρ1,F',G',eB.trans xy,hσ1,ry,dC b (D:={ EnD X.K H F D with nx:=λρ' G'=>forLoop step g (items.drop (i+1)) ρ' G' (EnD X.K H F D).nx,ct:=λρ' G'=>forLoop step g (items.drop (i+1)) ρ' G' (EnD X.K H F D).nx,bk:=(EnD X.K H F D).nx }) ⟨λρ2 G2 z H3 F3 σ3 x3 he3 r3=>?_,λd G2 z=>PV.later z (x1.trans (e1.trans xy)),λρ2 G2 z H3 F3 σ3 x3=>z H3 F3 σ3 (x1.trans (e1.trans (xy.trans x3))),λρ2 G2 z H3 F3 σ3 x3 he3 r3=>?_⟩ z⟩
   ·exact ⟨ρ2,F3,G2,eB.trans (xy.trans x3),e1.trans (xy.trans x3),he3,r3,z⟩
   ·exact ⟨ρ2,F3,G2,eB.trans (xy.trans x3),e1.trans (xy.trans x3),he3,r3,z⟩
  ·have hi':i=items.length:=by omega
   subst hi';rw[eW]at hl;exact .inl ⟨W.stop H' F' G' e1 r' hl.1,hl.2 _ _ _ (x1.trans e1) he' r'⟩
theorem ach(S:Stat Φ CX k c E B X){t:Tx}{b:Sxs}(ihb:jW Φ c E B X b){st:Stmt}(h:aW c (.whl t b) st=true):PS X st (tS X.K B (wpS Φ (.whl t b) E)):=nomatch (show false=true from h)
def tJ(K:PF)(B:Bs)(w:ak->DH->(DH->Prop)->Prop):TJ:=λσ H Q=>∃ρ F G,Ext B.H B.F H F/\EnvR K H F ρ σ/\R K H F G/\w ρ G λG'=>∀H' F',Ext H F H' F'->R K H' F' G'->Q H'
theorem pjI{X:Cx}{ps:List Expr}{t t':TJ}{n:Nat}(h:PJ X ps t n)(i:∀σ H Q,t' σ H Q->t σ H Q):PJ X ps t' n:=λpins s σ H Q out I hl q=>h pins s σ H Q out I hl (i σ H Q q)
theorem yx{E:EK}{ρ:ak}:∀(es:Exs){G:DH}{k k':DH->Prop},(∀G',k G'->k' G')->wpM Φ es E ρ G k->wpM Φ es E ρ G k'
 |.nil,G,k,k',h,q=>h G q
 |.cons e es,G,k,k',h,q=>by
  rw[sU]at q ⊢;exact aB e (λd G1 q=>⟨q.1,yx es h q.2⟩) q
theorem HH{p:Expr}(h:yc p=true):∃y k pos,p=.Constant (.str y) k pos/\y.length<=1000:=by obtain ⟨t,ht,h⟩:=aK h;obtain ⟨x,hx,h⟩:=aK h;exact ⟨x,_,_,by rw[ht,hx],dk h⟩
theorem yz(S:Stat Φ CX k c E B X):∀(ps:List Expr){es:Exs},lR c es ps=true->∃n,n<=1000 * ps.length/\PJ X ps (tJ X.K B (wpM Φ es E)) n
 |[],es,h=>by
  cases es with
  |nil=>exact ⟨0,eK _,pjI Yw λσ H Q hq=>el hq λρ F G e0 he r hw=>hw H F (Ext.refl _ _) r⟩
  |cons _ _=>exact nomatch (show false=true from h)
 |p::ps,es,h=>by
  unfold lR at h;split at h
  ·rename_i hm;obtain ⟨y,kk,pos,rfl,hy⟩:=HH hm;obtain ⟨n,hn,hp⟩:=yz S ps h;exact ⟨y.length+n,by rw[cK];omega,Yx hp⟩
  ·split at h
   ·rename_i x rr;rw[ae]at h;obtain ⟨t,ht,h1⟩:=aK h.1;rw[ae,ae,eA,bd]at h1;obtain ⟨n,hn,hp⟩:=yz S ps h.2;refine ⟨3+n,by rw[cK];omega,?_⟩;rw[ht,h1.1.1,h1.1.2];refine pjI (Yy (az x S h1.2) hp) λσ H Q hq=>el hq λρ F G e0 he r hw=>?_;rw[sU]at hw;refine aO e0 he r hw λd G1 H1 F1 v q e1 x1 he1 r1 rv=>?_;obtain ⟨q1,q2⟩:=q;unfold jF at q1;split at q1
    ·rename_i i;rw[ae,bd,bd]at q1;have e2:v=.int i:=rv;refine ⟨⟨i.toNat,by rw[e2];congr 1;omega,by omega⟩,ρ,F1,G1,e1,he1,r1,yx rr (λG' z H' F' x' r'=>z H' F' (x1.trans x') r') q2⟩
    ·cases q1
   ·cases h
theorem aci(S:Stat Φ CX k c E B X){C:String}{es:Exs}{st:Stmt}(h:aW c (.rse C es) st=true):PS X st (tS X.K B (wpS Φ (.rse C es) E)):=by
 replace h:=aaZ h;obtain ⟨x,np,m,cpos,pos,rfl,h⟩:=h;simp only[ae,ar]at h;obtain ⟨⟨⟨e1,h1⟩,h2⟩,h3⟩:=h;subst e1;obtain ⟨g1,g2⟩:=cF h1;obtain ⟨a,hm,hb,hn⟩:=S.xcl C h2;obtain ⟨EX,_,hth,hEX⟩:=S.exc;unfold ug at h3;rw[c8]at h3;rcases h3 with h3 |h3
 ·cases es with
  |cons _ _=>cases h3
  |nil=>
   obtain ⟨y,kk,p,rfl,hy⟩:=HH h3;refine psI (Dy S.calm (S.glo _ g1) hm hb hth (gq Bh jo rfl) (bw g2) rfl rfl) λD σ H hq=>el hq λρ F G e0 he r hw=>?_;rw[lE,xf]at hw;exact ⟨show 1<=sizeLine by decide,hEX ⟨C,.non⟩ G H F hw e0 r (.ref a) none ⟨a,rfl,hn,trivial⟩⟩
 ·obtain ⟨t,ht,h3⟩:=aK h3;rw[ae,ae,bd,bd]at h3;obtain ⟨n,hn',hp⟩:=yz S t.1 h3.2;rcases hps:t.1 with _ |⟨v1,_ |⟨v2,r⟩⟩
  ·rw[hps]at h3;simp at h3
  ·rw[hps]at h3;simp at h3
  ·rw[hps]at hp;subst ht;rw[hps]at *;refine psI (Dy S.calm (S.glo _ g1) hm hb hth (gq (Yz hp (by omega)) jo rfl) (bw g2) rfl rfl) λD σ H hq=>el hq λρ F G e0 he r hw=>?_;rw[lE]at hw;refine ⟨ρ,F,G,e0,he,r,yx es (λG1 q H1 F1 x1 r1 y=>⟨show 1<=sizeLine by decide,?_⟩) hw⟩;exact hEX ⟨C,.non⟩ G1 H1 F1 q (e0.trans x1) r1 (.ref a) none ⟨a,rfl,hn,trivial⟩
theorem Stat.wish(S:Stat Φ CX k c E B X)(E':Value->Shared->Prop)(ho:PassesOwn (model X.prog X.w) X.A X.env E'):Stat Φ CX k c noE B (X.wish E'):=
 ⟨S.N,S.nd,S.calm,ho,S.kd,S.vis,S.cel,S.glo,S.sto,S.room,S.call,S.blt,S.con,⟨_,S.nox _,λ_ _ _ _ _ _ _ _ _ _ q=>q.elim,λx G' H' F' h=>h.elim⟩,S.nox,S.xcl,S.loc,S.xis,S.mth,S.mko,S.fld,S.trc⟩
theorem acj(S:Stat Φ CX k c E B X){f:String}{es:Exs}{C:String}{i:Nat}{b:Bool}{st:Stmt}(h:aW c (.tryc f es C i b) st=true):PS X st (tS X.K B (wpS Φ (.tryc f es C i b) E)):=nomatch (show false=true from h)
def PNx(K:PF)(H:Hp)(F:FZ)(nx:L2.St->Hp->Prop):ak->DH->Prop:=λρ' G'=>∀H' F' σ',Ext H F H' F'->EnvR K H' F' ρ' σ'->R K H' F' G'->nx σ' H'
def PEx(K:PF)(H:Hp)(F:FZ)(ex:Value->L2.St->Hp->Prop):Xn->ak->DH->Prop:=λx ρ' G'=>∀H' F' σ' cv od,Ext H F H' F'->EnvR K H' F' ρ' σ'->R K H' F' G'->XV K H' F' x cv od->ex cv σ' H'
def tXX(K:PF)(B:Bs)(w:ak->DH->(ak->DH->Prop)->(Xn->ak->DH->Prop)->Prop):TX:=λnx ex σ H=>∃ρ F G,Ext B.H B.F H F/\EnvR K H F ρ σ/\R K H F G/\w ρ G (PNx K H F nx) (PEx K H F ex)
theorem pxI{X:Cx}{sts:List Stmt}{t t':TX}(h:PXs X sts t)(i:∀nx ex σ H,t' nx ex σ H->t nx ex σ H):PXs X sts t':=λpins s σ H nx ex E' I ho hE q=>h pins s σ H nx ex E' I ho hE (i nx ex σ H q)
theorem ack{B:Bs}{c:CT}{E:EK}{X:Cx}(S:Stat Φ (CX1 X.prog X.w) k c E B X){f g:String}{i:Nat}{es:Exs}{sts:List Stmt}(h:gM c (.pick f g i es) sts=true):PXs X sts (tXX X.K B (wpX Φ (.pick f g i es))):=nomatch (show false=true from h)
theorem acl{X:Cx}{k:Nat}{f C:Addr}{fd:FuncData}{ps:List Str}{sp:Sp}{pins:List (Addr×Obj)}{σ:L2.St}{H:Hp}{s:Shared}{us:List Value}{vs:List V}{nx:L2.St->Hp->Prop}{ex:Value->L2.St->Hp->Prop}{E':Value->Shared->Prop}(M:Mk X.K C f)(F:FnOk X.prog X.w X.K X.mg X.base (CX1 X.prog X.w) k f fd ps sp)(hr:Room (k+1) X.A)(hb:Binds X.K fd ps [])(hE:∀e s1,XP X pins ex σ e s1->E' e s1)
  (I:Inv X pins σ H s) (r:Vals vs us)
  (h:∀x dx,H x=none->H dx=none->dx≠x->sp (.ref x::vs) (upd (upd H dx (.own x)) x (.ins C dx [])) (λv H2=>v=.non/\nx σ H2) λc _ H2=>ex c σ H2):wpAny (model X.prog X.w) X.A (call (.ref C) us) (λ_ s1=>∃H2,Inv X pins σ H2 s1/\nx σ H2) E' s:=by
 have hq:=h (s.heap.objs.size+1) s.heap.objs.size (I.hok.fresh (fI _)) (I.hok.fresh (aE _)) (bX (ge _));have I2:=Inv.made (C:=C) I;have r2:Vals (V.ref (s.heap.objs.size+1)::vs) (Value.ref (s.heap.objs.size+1)::us):=.cons rfl r;have hl:(Value.ref (s.heap.objs.size+1)::us).length=ps.length:=by have e:=r2.length;rw[F.len _ _ _ _ hq]at e;exact e.symm
 have hb2:=hb _ (Value.ref (s.heap.objs.size+1)::us) I2.kIn (by rw[df];exact hl);rw[df]at hb2;refine wpAny_call (Bx (f:=f) I.kIn M.makes M.init (ar.mp M.fn) (codeAny_mono (F.run _ X.stack _ _ ⟨Value.ref (s.heap.objs.size+1)::us,[]⟩ (Value.ref (s.heap.objs.size+1)::us) _ _ _ (hr.make C us [])
  (I2.env0.make C us []) hb2 r2 hq) λr s' hq'=>?_))
 cases r with
 |error e=>
  obtain ⟨a,c,H2,rfl,ho,hgn,un,hok,tr,qn⟩:=hq';exact hE _ _ ⟨a,c,_,_,H2,rfl,I2,⟨ho,hgn,un,hok,tr⟩,qn⟩
 |ok fl=>
  cases fl with
  |ret u=>
   obtain ⟨v,H',I3,rv,ev,q3⟩:=I2.after hq';subst ev;exact ⟨rv,H',I3,q3⟩
  |next=>exact False.elim hq'
  |brk=>exact False.elim hq'
  |cont=>exact False.elim hq'
theorem acn{B:Bs}{c:CT}{E:EK}{X:Cx}(S:Stat Φ (CX1 X.prog X.w) k c E B X){C:String}{xs:Exs}{sts:List Stmt}(h:gM c (.mko C xs) sts=true):PXs X sts (tXX X.K B (wpX Φ (.mko C xs))):=by
 obtain ⟨e,p0,rfl,h⟩:=aa2 h;obtain ⟨x,p,args,pos,rfl,hh⟩:=yh h;rw[ae,ae,ae,ae,ar]at hh;obtain ⟨⟨⟨⟨ex0,hg⟩,hk⟩,hne⟩,hes⟩:=hh;subst ex0;obtain ⟨c0,fa,fd,ps,sp,j,hj,hmg,M,hbn,F0,hsp⟩:=S.mko _ _ (aT.mp hk);obtain ⟨g1,g2⟩:=cF hg;cases args with
 |nil=>cases hne
 |cons e1 es=>
  obtain ⟨x0,xs',rfl,c1,c2⟩:=fW hes;intro pins s σ H nx ex E' I hpo hE hq;have key:tL X.K B (aN Φ (.cons x0 xs') noE) σ H λvs H1=>lift X.K (e1::es).length (Φ C) vs H1 (λ_ H2=>nx σ H2) λc _ H2=>ex c σ H2:=by obtain ⟨ρ,F,G,eB,he,r,hw⟩:=hq;rw[sV]at hw;refine bQ eB he r (jU _ hes hw) λds G1 H1 F1 vs q e1 x1 he1 r1 rvs=>?_;exact ⟨by rw[<-rvs.length,q.1],F1,G1,ds,r1,rvs,Spec.mono q.2 (λd G2 z H2 F2 v x2 r2 _=>z H2 F2 σ (x1.trans x2) (he1.ext x2) r2) λxn G2 z H2 F2 x2 r2 cv od hv=>z H2 F2 σ cv od (x1.trans x2) (he1.ext x2) r2 hv⟩
  refine gt (wpAny_Expr_any (fk (gn (X:=X.wish E') (I.wish E') (S.glo _ g1) hmg ?_ (bw g2))) I.quiet rfl);refine fE (h₀:=X.base) I.ok.mod.kin M.kp (thn (EachE.oks (dg (.cons x0 xs') (S.wish E' hpo)) hes pos pins s σ H _ (I.wish E') key) λus s1 ⟨vs,H1,I1,r,q⟩=>⟨I1.kIn,?_⟩) (bI e1 es X.env (cj (bF x0 c1))) (gO c2 X.env pos);exact thn (acl M F0 (S.room.mono hj) hbn hE I1.unwish r λx dx hx hdx hne=>hsp vs H1 _ _ q x dx hx hdx hne) λv s2 ⟨H2,I2,q2⟩=>fo ⟨rfl,σ,H2,I2,q2⟩
theorem HJ{B:Bs}{c:CT}{E:EK}{X:Cx}(S:Stat Φ (CX1 X.prog X.w) k c E B X):∀(b:Tb){sts:List Stmt},gM c b sts=true->PXs X sts (tXX X.K B (wpX Φ b))
 |.call f es,sts,h=>by
  obtain ⟨x,p,args,cpos,p0,rfl,h1⟩:=aa3 h;simp only[ae,ar,List.any_eq_true]at h1;obtain ⟨⟨⟨⟨e1,h1⟩,⟨f',n⟩,hm,e2,e3⟩,h4⟩,h5⟩:=h1;simp only at e2 e3;subst e1 e2 e3;obtain ⟨g1,g2⟩:=cF h1;obtain ⟨fa,fd,ps,F0,hk,hb,hmg⟩:=S.call _ _ hm;cases args with
  |nil=>cases h4
  |cons e0 es0=>
   obtain ⟨x0,xs',rfl,c1,c2⟩:=fW h5;refine pxI (YT (ta:=tL X.K B (aN Φ (.cons x0 xs') noE)) F0 S.room (S.glo _ g1) hmg hk hb (λE' ho=>EachE.oks (dg (.cons x0 xs') (S.wish E' ho)) h5) rfl (bw g2) (bI e0 es0 X.env (cj (bF x0 c1))) (gO c2 X.env cpos)) λnx ex σ H hq=>el hq λρ F G eB he r hw=>?_;rw[sW]at hw;refine bQ eB he r (jU _ h5 hw) λds G1 H1 F1 vs q e1 x1 he1 r1 rvs=>?_;exact ⟨by rw[<-rvs.length];exact q.1,F1,G1,ds,r1,rvs,Spec.mono q.2 (λd G2 z H2 F2 v x2 r2 _=>z H2 F2 σ (x1.trans x2) (he1.ext x2) r2) λxn G2 z H2 F2 x2 r2 cv od hv=>z H2 F2 σ cv od (x1.trans x2) (he1.ext x2) r2 hv⟩
 |.pick f g i es,sts,h=>ack S h
 |.mcl _ _ _ _ _,_,h=>nomatch (show false=true from h)
 |.mko C es,sts,h=>acn S h
 |.asg _ _ _,_,h=>nomatch (show false=true from h)
 |.ite _ _ _,_,h=>nomatch (show false=true from h)
theorem aco(S:Stat Φ CX k c E B X){b:Tb}{C:String}{hd:Hd}{xs:List String}{st:Stmt}(h:aW c (.tryx b C hd xs) st=true):PS X st (tS X.K B (wpS Φ (.tryx b C hd xs) E)):=by
 obtain ⟨body,cx,p1,nm,y,p2,e,p4,p5,pos,rfl,h1,h2,h3,h4,h5⟩:=aa1 h;simp only[ae,ar]at h4;obtain ⟨⟨ec,hc⟩,hcx⟩:=h4;subst ec;obtain ⟨g3,g4⟩:=cF hc;have hne:c.xs≠[]:=λe=>by rw[e]at hcx;cases hcx
 obtain ⟨ecx,hst,hex⟩:=S.trc hne;subst ecx;obtain ⟨cv,hcv,hall⟩:=S.xis C hcx;have hcat:∃a,cv=.ref a/\X.mg (Str.ofString C)=some (.ref a)/\Cat X.K a:=by
  rcases hcv with ⟨a,e,hm,hb⟩ |⟨e,_,_⟩
  ·exact ⟨a,e,hm,DK hb⟩
  ·rw[e]at h3;cases h3
 obtain ⟨a,rfl,ham,hca⟩:=hcat;unfold uh at h5;rw[ae,ae]at h5;obtain ⟨⟨h5,hsy⟩,hoy⟩:=h5;obtain ⟨hloc,hfn⟩:=S.sto _ hsy;have cls:∀{x:Xn}{H':Hp}{F':FZ}{cv:Value}{od:Option Addr},xs.contains x.cls=true->bA x.cls C=true->XV X.K H' F' x cv od->∃d,cv=.ref d/\PySem.W.mroIn X.K d (.ref a)=some true/\PySem.W.nsIn X.K mainGlobals (Str.ofString x.cls)=some (some (.ref d)):=by
  intro x H' F' cv od hx hs hv;obtain ⟨d,rfl,hn,_⟩:=hv;obtain ⟨c1,k1,_,k4,_⟩:=hall x.cls (bo.mp h2 _ (aT.mp hx));rw[k1]at hn;have ed:c1=d:=by simpa using hn
  subst ed;rw[hs]at k4;exact ⟨c1,rfl,k4,k1⟩
 cases hd with
 |flag i v=>
  simp only[ae,ar,eA]at h5;obtain ⟨⟨rfl,hi⟩,h6⟩:=h5;obtain ⟨kk,hk,h6⟩:=aK h6;have ek:=aa0 h6;subst hk;rw[ek];refine psI (YZ (HJ S b h1) hst (S.glo _ g3) ham hca S.nd (by rw[S.N];exact hi) hloc hfn rfl (bw g4)) λD σ H hq=>el hq λρ F G eB he r hw=>?_;rw[lF]at hw;refine ⟨ρ,F,G,eB,he,r,lH b (λρ' G' z H' F' σ' x' he' r'=>z H' F' σ' x' he' r') (λx ρ' G' z H' F' σ' cv od x' he' r' hv=>?_) hw⟩;obtain ⟨z1,z2,z3,z4⟩:=z;obtain ⟨d,e1,e2,_⟩:=cls z2 z3 hv;exact ⟨d,e1,e2,z4 H' F' _ x' (EnvR.set (d:=.bl v) (v:=.bl v) (show V.bl v=.bl v from rfl) i he') r'⟩
 |bind n i=>
  obtain ⟨nn,hnn,h6⟩:=aP h5;simp only[ae,ar]at h6;obtain ⟨⟨⟨⟨hi,hj⟩,hkd⟩,hon⟩,h7⟩:=h6;obtain ⟨zz,hz,h8⟩:=aK h7;rw[ar]at h8;rw[h8]at hz;subst hz hnn;have hnl:X.env.scope.names.lookup nn=some .local:=S.loc nn hkd;refine psI (Y4 (jn:=n) (HJ S b h1) hst hex (S.glo _ g3) ham hca S.nd (by rw[S.N];exact hi) hloc hfn (by rw[S.N];exact hj) (by rw[S.kd];exact hnl) hnl (bw hon) (Hl hon) rfl (bw g4)) λD σ H hq=>el hq λρ F G eB he r hw=>?_;rw[lF]at hw;refine ⟨ρ,F,G,eB,he,r,lH b (λρ' G' z H' F' σ' x' he' r'=>z H' F' σ' x' he' r') (λx ρ' G' z H' F' σ' cv od x' he' r' hv=>?_) hw⟩;obtain ⟨z1,z2,z3,z4⟩:=z;obtain ⟨d,e1,e2,e3⟩:=cls z2 z3 hv;refine ⟨d,e1,e2,λa0 o0 hn0 hc0=>?_⟩;have xx:Ext H' F' (upd H' a0 (.frz o0 (.own a0))) F':=cR r' hn0;have rr:R X.K (upd H' a0 (.frz o0 (.own a0))) F' G':=r'.new hn0;have rx:Rep X.K (upd H' a0 (.frz o0 (.own a0))) F' (.exn x.cls) (.ref a0):=⟨a0,d,rfl,⟨o0,a0,bW,hc0⟩,e3⟩;exact z4 _ F' _ (x'.trans xx) (EnvR.unset n (EnvR.set rx i (EnvR.set rx n (he'.ext xx)))) rr
theorem acp{st:List Stmt}(h:aC c .nil st=true):PSs X st (tS X.K B (aq Φ .nil E)):=by
 unfold aC at h;cases st with
 |nil=>exact HB U9 λD σ H hq=>el hq λρ F G e0 he r hw=>by rw[jH]at hw;exact hw _ _ _ (Ext.refl _ _) he r
 |cons _ _=>cases h
theorem acq{x:Sx}{xs:Sxs}(ih:OkS Φ c E B X x)(ihs:jW Φ c E B X xs){st:List Stmt}(h:aC c (.cons x xs) st=true):PSs X st (tS X.K B (aq Φ (.cons x xs) E)):=by
 unfold aC at h;split at h
 ·rw[ae]at h;refine HB (Bl (ih h.1) (ihs h.2)) λD σ H hq=>el hq λρ F G e0 he r hw=>?_;rw[jJ]at hw;refine ⟨ρ,F,G,e0,he,r,wpS_mono x (D:={ EnD X.K H F D with nx:=λρ' G'=>aq Φ xs E ρ' G' (EnD X.K H F D) }) ⟨λρ1 G1 q H1 F1 σ1 x1 he1 r1=>?_,λ_ _ z=>z,λ_ _ z=>z,λ_ _ z=>z⟩ hw⟩;exact ⟨ρ1,F1,G1,e0.trans x1,he1,r1,dC xs (EnD.later x1) q⟩
 ·cases h
end
mutual
theorem HN{Φ:aa}{CX:CXT}{k:Nat}{B:Bs}{c:CT}{E:EK}{X:Cx}(S:Stat Φ CX k c E B X):∀(x:Sx),OkS Φ c E B X x
 |.exp e=>by intro h;exact ab6 S h
 |.asg (.nm i) e=>by intro h;exact ab7 S h
 |.asg (.tp ts) e=>by intro h;exact ab8 S h
 |.set o i e=>by intro h;exact ab9 S h
 |.aug i op e=>by intro h;exact aca S h
 |.augs o i op e=>by intro h;exact acb S h
 |.ret e=>by intro h;exact acd S h
 |.rtn=>by intro h;exact ace h
 |.ite t a b=>by intro h;exact acf S (iR S a) (iR S b) h
 |.for_ t it b=>by intro h;exact acg S (iR S b) h
 |.whl t b=>by intro h;exact ach S (iR S b) h
 |.pas=>by
  intro h;obtain ⟨_,rfl,_⟩:=aa8 h;exact psI Vc λD σ H hq=>el hq λρ F G e0 he r hw=>by rw[sJ]at hw;exact hw _ _ _ (Ext.refl _ _) he r
 |.brk=>by
  intro h;obtain ⟨_,rfl,_⟩:=aa9 h;exact psI Vd λD σ H hq=>el hq λρ F G e0 he r hw=>by rw[sO]at hw;exact hw _ _ _ (Ext.refl _ _) he r
 |.cnt=>by
  intro h;obtain ⟨_,rfl,_⟩:=aba h;exact psI Ve λD σ H hq=>el hq λρ F G e0 he r hw=>by rw[sS]at hw;exact hw _ _ _ (Ext.refl _ _) he r
 |.rse C es=>by intro h;exact aci S h
 |.tryc f es C i b=>by intro h;exact acj S h
 |.tryx b C h xs=>by intro hh;exact aco S hh
 |.nev=>by
  intro h;exact psI Vn λD σ H hq=>el hq λρ F G e0 he r hw=>by rw[sX]at hw;exact hw.elim
theorem iR{Φ:aa}{CX:CXT}{k:Nat}{B:Bs}{c:CT}{E:EK}{X:Cx}(S:Stat Φ CX k c E B X):∀(x:Sxs),jW Φ c E B X x
 |.nil=>by intro h;exact acp h
 |.cons s r=>by intro h;exact acq (HN S s) (iR S r) h
end
end RF
namespace L2
open PySem PySem.Spec PyProof.Rows
theorem Fun.okX{P:Program}{w:World}{K:PF}{mg:Str->Option Value}{base:Heap}{CX:CXT}{x qual:Str}{st:Stmt}{f:Addr}{fd:FuncData}{N ps:List Str}{k:Nat}{sp:Sp}(F:Fun K x qual st f fd)(S:FnScope N ps (ao st))(len:∀vs H Q E,sp vs H Q E->vs.length=ps.length)
  (hbody:∀(cdv:Value)(A:Around)(outer:List Env)(s:Shared)(H:Hp)(vs:List V)(Q:VK)(E:XK),Room k (A.deeper (envOfC qual (ao st) s.heap.objs.size f cdv))->sp vs H Q E->
   ∃t,PSs (cL CX P w K mg base N qual (ao st) f cdv A outer s H E) (aF st) t/\t { nx:=λ_ H'=>Q .non H',rt:=Q } (start N vs) H):FnOk P w K mg base CX (k+1) f fd ps sp:=by
 obtain ⟨oc,od,kV,doc,pm,an,cdv,ct,osl,rfl,lk,hcd⟩:=F.ex;exact WQ lk hcd S len λA outer s H vs Q E hr hsp=>hbody cdv A outer s H vs Q E hr hsp
theorem FnOk.cx{P:Program}{w:World}{K:PF}{mg:Str->Option Value}{base:Heap}{k:Nat}{CX:CXT}{f:Addr}{fd:FuncData}{ps:List Str}{sp:Sp}(F:FnOk P w K mg base CX0 k f fd ps sp):FnOk P w K mg base CX k f fd ps sp:=
 ⟨F.len,λA outer s H args us vs Q E hr he hb hv hs=>codeAny_mono (F.run A outer s H args us vs Q E hr he hb hv hs) λr s' hq=>by
  cases r with
  |error e=>exact False.elim hq
  |ok fl=>cases fl <;> exact hq⟩
end L2
namespace RF
open PySem PySem.Spec PyProof.Rows L2
noncomputable def fnB(N ps:List Str)(sc:Scope):Bool:=
 decide (sc.kind=.function)&&!sc.isCoroutine&&!sc.isGenerator&&eO N&&(N.take ps.length==ps)&&ps.all (λx=>sc.names.lookup x==some .local||sc.names.lookup x==some .cell)&&sc.names.all (λy=>y.2 != .free)
theorem uA{N ps:List Str}{sc:Scope}(h:fnB N ps sc=true):FnScope N ps sc:=by unfold fnB at h;simp only[ae,eP,bd,ar,bo,c8,bne_iff_ne]at h;obtain ⟨⟨⟨⟨⟨⟨h1,h2⟩,h3⟩,h4⟩,h5⟩,h6⟩,h7⟩:=h;exact ⟨h1,h2,h3,yt h4,h5,h6,λy hy=>h7 y hy⟩
structure Bse(Φ:aa)(P:Program)(w:World)(K:PF)(mg:Str->Option Value)(base:Heap)(CX:CXT)(k:Nat)(fs:List (String×Nat))(bt:List String)(cn:List (String×D))(xs:List (String×Bool))(ot:OT):Prop where
 call:∀f n,(f,n)∈fs->∃fa fd ps,FnOk P w K mg base CX k fa fd ps (lift K n (Φ f))/\PySem.W.keepIn K (.ref fa)=true/\Binds K fd ps []/\mg (Str.ofString f)=some (.ref fa)
 blt:∀f,f∈bt->mg (Str.ofString f)=none
 con:∀x d,(x,d)∈cn->∃u v,mg (Str.ofString x)=some u/\RelV v u/\∀H F,Rep K H F d v
 xcl:∀C,xs.contains (C,true)=true->∃a,mg (Str.ofString C)=some (.ref a)/\iw K a=true/\PySem.W.nsIn K mainGlobals (Str.ofString C)=some (some (.ref a))
 xis:∀C',xs.contains (C',false)=true->∃cv,CV K mg C' cv/\∀C,xs.contains (C,true)=true->XI K C C' cv
 mth:∀f C m n,(f,C,m,n)∈ot.ms->MthOk Φ P w K mg base CX k f C m n
 mko:∀C n,(C,n)∈ot.ks->MkoOk Φ P w K mg base CX k C n
 fld:∀C f,(C,f)∈ot.fl->yj K C f
def aH(N:List Str)(sc:Scope)(fs:List (String×Nat))(bt:List String)(cn:List (String×D))(xs:List (String×Bool))(ot:OT):CT:={ N:=N,kd:=sc.names,fn:=true,fs:=fs,bt:=bt,cn:=cn,xs:=xs,ot:=ot }
section
variable {Φ:aa} {P:Program} {w:World} {K:PF} {mg:Str->Option Value} {base:Heap} {k:Nat} {fs:List (String×Nat)} {bt:List String} {cn:List (String×D)} {xs:List (String×Bool)} {ot:OT}
theorem HQ{N ps:List Str}{sc:Scope}{qual:Str}{f:Addr}{cdv:Value}{A:Around}{outer:List Env}{s:Shared}{H:Hp}{EX:XK}{B:Bs}(T:Bse Φ P w K mg base (CX1 P w) k fs bt cn xs ot)(hs:fnB N ps sc=true)
  (hr:Room k (A.deeper (envOfC qual sc s.heap.objs.size f cdv))):Stat Φ (CX1 P w) k (aH N sc fs bt cn xs ot) noE B (cL (CX1 P w) P w K mg base N qual sc f cdv A outer s H EX).nox where
 N:=rfl
 nd:=(uA hs).nd
 calm:=rfl
 own:=PassesOwn.never
 kd:=rfl
 vis:=λx h=>by
  have h:iH (sc.names.lookup x)=true:=h;show sc.names.lookup x=_\/sc.names.lookup x=_\/sc.names.lookup x=_;unfold iH at h;split at h <;> first | (cases h;done) |simp_all
 cel:=λx h=>h
 glo:=λx h=>h
 sto:=λx h=>by
  have h:(sc.names.lookup x==some .local||(true&&sc.names.lookup x==some .cell))=true:=h;rw[ef,c8,ar,ar]at h;exact ⟨h,.inl rfl⟩
 room:=hr
 call:=T.call
 blt:=T.blt
 con:=T.con
 exc:=⟨_,Dp _,λ_ _ _ _ _ _ _ _ _ _ q=>q.elim,λ_ _ _ _ h=>h.elim⟩
 nox:=λY=>Dp Y
 xcl:=T.xcl
 loc:=λx h=>h
 xis:=T.xis
 mth:=T.mth
 mko:=T.mko
 fld:=T.fld
 trc:=λ_=>⟨rfl,rfl,rfl⟩
theorem HR{N ps:List Str}{sc:Scope}{qual:Str}{f:Addr}{cdv:Value}{A:Around}{outer:List Env}{s:Shared}{H:Hp}{EX:XK}{B:Bs}{E:EK}(T:Bse Φ P w K mg base (CX1 P w) k fs bt cn xs ot)(hs:fnB N ps sc=true)
  (hr:Room k (A.deeper (envOfC qual sc s.heap.objs.size f cdv))) (hE:∀x G' H' F',E x G'->Ext B.H B.F H' F'->R K H' F' G'->XR K H' F' x EX):Stat Φ (CX1 P w) k (aH N sc fs bt cn xs ot) E B (cL (CX1 P w) P w K mg base N qual sc f cdv A outer s H EX):=
 have S:=HQ (EX:=EX) (B:=B) (qual:=qual) (f:=f) (cdv:=cdv) (A:=A) (outer:=outer) (s:=s) (H:=H) T hs hr
 ⟨S.N,S.nd,S.calm,PassesOwn.leaving,S.kd,S.vis,S.cel,S.glo,S.sto,S.room,S.call,S.blt,S.con,⟨EX,Yr rfl rfl λ_ _ h=>h,YB rfl rfl λ_ _ h=>h,hE⟩,S.nox,S.xcl,S.loc,S.xis,S.mth,S.mko,S.fld,λ_=>⟨rfl,rfl,rfl⟩⟩
theorem acr{outer:List Env}{H:Hp}{s s':Shared}{e:Value}(h:CX1 P w outer H s (λ_ _ _=>False) e s'):False:=by obtain ⟨_,_,_,_,_,_,_,_,_,q⟩:=h;exact q
def ends(Q:D->DH->Prop):En:={ nx:=λ_ G=>Q .non G,rt:=Q,bk:=λ_ _=>False,ct:=λ_ _=>False }
def env0(ds:List D)(n:Nat):ak:=ds.map some++List.replicate n none
theorem HS{x qual:Str}{st:Stmt}{f:Addr}{fd:FuncData}(Fu:Fun K x qual st f fd)(T:Bse Φ P w K mg base (CX1 P w) k fs bt cn xs ot){N ps:List Str}{body:Sxs}(S:RF.Spec)(n m:Nat)(hs:fnB N ps (ao st)=true)
  (hc:aC (aH N (ao st) fs bt cn xs ot) body (aF st)=true) (hn:ps.length=n) (hm:N.length=n+m)
  (hw:∀ds G a,ds.length=n->S.pre ds G a->aq Φ body (S.exc a) (env0 ds m) G (ends (S.post a))):FnOk P w K mg base (CX1 P w) (k+1) f fd ps (lift K n S):=by
 refine Fu.okX (uA hs) (λvs H Q E h=>by rw[hn];exact h.1) λcdv A outer s H vs Q EX hr hsp=>?_;obtain ⟨hl,F,G,ds,r,rs,a,h1,h2,h3⟩:=hsp;have St:Stat Φ (CX1 P w) k (aH N (ao st) fs bt cn xs ot) (S.exc a) ⟨H,F⟩ (cL (CX1 P w) P w K mg base N qual (ao st) f cdv A outer s H EX):=HR T hs hr λx G' H' F' hx e r'=>h3 x G' hx H' F' e r';refine ⟨_,iR St body hc,?_⟩;refine ⟨env0 ds m,F,G,Ext.refl _ _,?_,r,dC body (D:=ends (S.post a)) ⟨λρ G' q=>?_,λd G' q=>h2 d G' q,λ_ _ q=>False.elim q,λ_ _ q=>False.elim q⟩ (hw ds G a (by rw[rs.length];exact hl) h1)⟩
 ·unfold L2.start;rw[show N.length - vs.length=m by omega];exact EnvR.start m rs
 ·intro H' F' σ' x1 _ r1;exact h2 .non G' q H' F' .non x1 r1 rfl
theorem jX{x qual:Str}{st:Stmt}{f:Addr}{fd:FuncData}(Fu:Fun K x qual st f fd)(T:Bse Φ P w K mg base (CX1 P w) k fs bt cn xs ot){N ps:List Str}{body:Sxs}(S:RF.Spec)(n m:Nat)(hs:fnB N ps (ao st)=true)
  (hc:aC (aH N (ao st) fs bt cn xs ot) body (aF st)=true) (hn:ps.length=n) (hm:N.length=n+m)
  (hw:∀ds G a,ds.length=n->S.pre ds G a->aq Φ body noE (env0 ds m) G (ends (S.post a))):FnOk P w K mg base (CX1 P w) (k+1) f fd ps (lift K n S):=by
 refine Fu.okX (uA hs) (λvs H Q E h=>by rw[hn];exact h.1) λcdv A outer s H vs Q EX hr hsp=>?_;obtain ⟨hl,F,G,ds,r,rs,a,h1,h2,h3⟩:=hsp;have St:Stat Φ (CX1 P w) k (aH N (ao st) fs bt cn xs ot) noE ⟨H,F⟩ (cL (CX1 P w) P w K mg base N qual (ao st) f cdv A outer s H EX).nox:=HQ T hs hr;refine ⟨_,(iR St body hc).nox,?_⟩;refine ⟨env0 ds m,F,G,Ext.refl _ _,?_,r,dC body (D:=ends (S.post a)) ⟨λρ G' q=>?_,λd G' q=>h2 d G' q,λ_ _ q=>False.elim q,λ_ _ q=>False.elim q⟩ (hw ds G a (by rw[rs.length];exact hl) h1)⟩
 ·unfold L2.start;rw[show N.length - vs.length=m by omega];exact EnvR.start m rs
 ·intro H' F' σ' x1 _ r1;exact h2 .non G' q H' F' .non x1 r1 rfl
end
def bx(pre:List D->DH->Prop)(post:List D->DH->D->DH->Prop):RF.Spec where
 A:=List D×DH
 pre:=λds G a=>a=(ds,G)/\pre ds G
 post:=λa d G'=>post a.1 a.2 d G'
 exc:=λ_ _ _=>False
theorem bK{pre:List D->DH->Prop}{post:List D->DH->D->DH->Prop}{ds:List D}{G:DH}{k:D->DH->Prop}{E:EK}(h:pre ds G)(hk:∀d G',post ds G d G'->k d G'):(bx pre post).t ds G k E:=
 ⟨(ds,G),⟨rfl,h⟩,hk,λ_ _ z=>z.elim⟩
theorem bR{Φ:aa}{body:Sxs}{m n:Nat}{pre:List D->DH->Prop}{post:List D->DH->D->DH->Prop}(h:∀ds G,pre ds G->aq Φ body noE (env0 ds m) G (ends (post ds G))):
  ∀ds G a,ds.length=n->(bx pre post).pre ds G a->aq Φ body noE (env0 ds m) G (ends ((bx pre post).post a)):=by
 rintro ds G a _ ⟨rfl,h1⟩;exact h ds G h1
def aJ(f:List D->Option D):RF.Spec:=bx (λds _=>(f ds).isSome=true) (λds G d G'=>G'=G/\f ds=some d)
theorem bc{f:List D->Option D}{ds:List D}{d:D}{G:DH}{k:D->DH->Prop}{E:EK}(h:f ds=some d)(hk:k d G):(aJ f).t ds G k E:=
 bK (by rw[h];rfl) λd' G' ⟨e1,e2⟩=>by rw[h]at e2;cases e2;rw[e1];exact hk
theorem dF{Φ:aa}{body:Sxs}{m n:Nat}{f:List D->Option D}(h:∀ds G d,f ds=some d->aq Φ body noE (env0 ds m) G (ends λd' G'=>G'=G/\d'=d)):
  ∀ds G a,ds.length=n->(aJ f).pre ds G a->aq Φ body noE (env0 ds m) G (ends ((aJ f).post a)):=by
 refine bR λds G hf=>?_;obtain ⟨d,e⟩:=cq.mp hf;refine dC body (D:=ends λd' G'=>G'=G/\d'=d) ⟨λρ G' q=>?_,λd' G' q=>?_,λ_ _ q=>q,λ_ _ q=>q⟩ (h ds G d e)
 ·exact ⟨q.1,by rw[e];exact fe some q.2.symm⟩
 ·exact ⟨q.1,by rw[e];exact fe some q.2.symm⟩
theorem acs{step:D->ak->DH->(ak->DH->Prop)->Prop}{g:Hld}{items:List D}{ρ:ak}{G:DH}{k:ak->DH->Prop}(P:Nat->ak->DH->Prop)(h0:P 0 ρ G)(hh:∀i ρ G,P i ρ G->held g G)
  (hs:∀i d ρ G,items[i]?=some d->P i ρ G->∀kk:ak->DH->Prop,(∀ρ' G',P (i+1) ρ' G'->kk ρ' G')->step d ρ G kk) (he:∀ρ G,P items.length ρ G->k ρ G):forLoop step g items ρ G k:=by
 have go:∀(l:List D)(i:Nat)(ρ:ak)(G:DH),items.drop i=l->i<=items.length->P i ρ G->forLoop step g l ρ G k:=by
  intro l;induction l with
  |nil=>
   intro i ρ G e hi p;have:i=items.length:=by have:=fe List.length e;rw[ce]at this;simp at this;omega
   subst this;exact ⟨hh _ _ _ p,he _ _ p⟩
  |cons d l ih=>
   intro i ρ G e hi p;have hl:i < items.length:=by
    by_cases h:i < items.length
    ·exact h
    ·rw[List.drop_eq_nil_of_le (by omega)]at e;cases e
   rw[b6 hl]at e;injection e with e1 e2;refine ⟨hh _ _ _ p,hs i d ρ G (by rw[bn hl,e1]) p _ λρ' G' p'=>ih (i+1) ρ' G' e2 hl p'⟩
 exact go _ 0 ρ G (by simp) (eK _) h0
theorem HW{step:D->ak->DH->(Option D->ak->DH->Prop)->Prop}{g:Hld}{items acc:List D}{ρ:ak}{G:DH}{k:List D->DH->Prop}(P:Nat->List D->ak->DH->Prop)(h0:P 0 acc ρ G)(hh:∀i acc ρ G,P i acc ρ G->held g G)
  (hl:acc.length+items.length<=sz)
  (hs:∀i d acc ρ G,items[i]?=some d->P i acc ρ G->∀kk:Option D->ak->DH->Prop,(∀o ρ' G',P (i+1) (acc++o.toList) ρ' G'->kk o ρ' G')->step d ρ G kk) (he:∀acc ρ G,P items.length acc ρ G->k acc G):compLoop step g items acc ρ G k:=by
 have go:∀(l:List D)(i:Nat)(acc:List D)(ρ:ak)(G:DH),items.drop i=l->i<=items.length->acc.length+l.length<=sz->P i acc ρ G->compLoop step g l acc ρ G k:=by
  intro l;induction l with
  |nil=>
   intro i acc ρ G e hi ha p;have:i=items.length:=by have:=fe List.length e;rw[ce]at this;simp at this;omega
   subst this;exact ⟨hh _ _ _ _ p,by simpa using ha,he _ _ _ p⟩
  |cons d l ih=>
   intro i acc ρ G e hi ha p;have hl:i < items.length:=by
    by_cases h:i < items.length
    ·exact h
    ·rw[List.drop_eq_nil_of_le (by omega)]at e;cases e
   rw[b6 hl]at e;injection e with e1 e2;have ha':acc.length+(l.length+1)<=sz:=ha;refine ⟨hh _ _ _ _ p,by omega,hs i d acc ρ G (by rw[bn hl,e1]) p _ λo ρ' G' p'=>?_⟩;cases o with
   |some y=>exact ih (i+1) (acc++[y]) ρ' G' e2 hl (by rw[ax];simp;omega) p'
   |none=>exact ih (i+1) acc ρ' G' e2 hl (by omega) (by simpa using p')
 exact go _ 0 acc ρ G (by simp) (eK _) hl h0
theorem acu{step:D->ak->DH->(Option D->ak->DH->Prop)->Prop}{items:List D}{ρ:ak}{G:DH}{k:List D->DH->Prop}(g:Hld)(f:D->Option D)(I:ak->Prop)(h0:I ρ)(hg:held g G)(hl:items.length<=sz)
  (hs:∀d ρ,d∈items->I ρ->∀kk:Option D->ak->DH->Prop,(∀ρ',I ρ'->kk (f d) ρ' G)->step d ρ G kk) (he:k (items.filterMap f) G):compLoop step g items [] ρ G k:=by
 refine HW (λi acc ρ' G'=>I ρ'/\G'=G/\acc=(items.take i).filterMap f) ⟨h0,rfl,rfl⟩ (λi acc ρ' G' p=>by rw[p.2.1];exact hg) (by simpa using hl) ?_ ?_
 ·rintro i d acc ρ' G' hd ⟨p1,rfl,rfl⟩ kk hk;refine hs d ρ' (cf hd) p1 kk λρ2 i2=>hk _ _ _ ⟨i2,rfl,?_⟩;rw[List.take_add_one,hd,List.filterMap_append];congr 1
 ·rintro acc ρ' G' ⟨_,rfl,rfl⟩;rw[gg];exact he
theorem acv{step:D->ak->DH->(Option D->ak->DH->Prop)->Prop}{items:List D}{ρ:ak}{G:DH}{k:List D->DH->Prop}(g:Hld)(f:D->D)(I:ak->Prop)(h0:I ρ)(hg:held g G)(hl:items.length<=sz)
  (hs:∀d ρ,d∈items->I ρ->∀kk:Option D->ak->DH->Prop,(∀ρ',I ρ'->kk (some (f d)) ρ' G)->step d ρ G kk) (he:k (items.map f) G):compLoop step g items [] ρ G k:=
 acu g (λd=>some (f d)) I h0 hg hl hs (by rw[<-List.filterMap_eq_map]at he;exact he)
theorem uB{α:Type}(f:α->Bool):∀l:List α,bools (l.map λx=>D.bl (f x))=some (l.map f)
 |[]=>rfl
 |x::l=>by simp[bools,uB f l]
theorem strs_map{α:Type}(f:α->List Nat):∀l:List α,bj (l.map λx=>D.str (f x))=some (l.map f)
 |[]=>rfl
 |x::l=>by simp[bj,strs_map f l]
theorem HX:∀l:List (List Nat),dO [] l=l.flatten
 |[]=>rfl
 |[x]=>by simp[dO]
 |x::y::r=>by simp[dO,HX (y::r)]
def Sa(G G':DH):Prop:=∀b o,G b=some o->G' b=some o
def Sb(p:Addr)(G G':DH):Prop:=∀b o,G b=some o->b≠p->G' b=some o
theorem Sa.refl(G:DH):Sa G G:=λ_ _ h=>h
theorem Sb.refl(p:Addr)(G:DH):Sb p G G:=λ_ _ h _=>h
theorem Sa.trans{G G1 G2:DH}(a:Sa G G1)(b:Sa G1 G2):Sa G G2:=λc o h=>b c o (a c o h)
theorem Sb.trans{p:Addr}{G G1 G2:DH}(a:Sb p G G1)(b:Sb p G1 G2):Sb p G G2:=λc o h n=>b c o (a c o h n) n
theorem Sa.sb{p:Addr}{G G':DH}(a:Sa G G'):Sb p G G':=λc o h _=>a c o h
theorem Sa.new{G:DH}{p:Addr}{o:DO}(h:G p=none):Sa G (aL G p o):=λb u e=>by rw[du (wz e h)];exact e
theorem Sb.upd{G:DH}{p:Addr}{o:DO}:Sb p G (aL G p o):=λb u e n=>by rw[du n];exact e
theorem Sa.then{p:Addr}{G G1 G2:DH}(a:Sa G G1)(hp:G p=none)(b:Sb p G1 G2):Sa G G2:=λc o h=>b c o (a c o h) (wz h hp)
theorem HY{α:Type}{a:α}{l:List α}:atI (a::l) 0=some a:=cB (j:=0) rfl
theorem H9{α:Type}{a b:α}{l:List α}:atI (a::b::l) 1=some b:=cB (j:=1) rfl
theorem Ia{α:Type}{a b c:α}{l:List α}:atI (a::b::c::l) 2=some c:=cB (j:=2) rfl
theorem Ib{α:Type}{a b c d:α}{l:List α}:atI (a::b::c::d::l) 3=some d:=cB (j:=3) rfl
theorem acw{n j:Nat}(h:j < n):ixN n (j:Int)=some j:=by unfold ixN;rw[if_pos (by omega),if_pos (by omega)];simp
theorem Ie{n:Nat}:ixN (n+1) 0=some 0:=by unfold ixN;rw[if_pos (by omega),if_pos (by omega)];rfl
theorem Ig{n:Nat}:ixN (n+2) 1=some 1:=by unfold ixN;rw[if_pos (by omega),if_pos (by omega)];rfl
theorem Ih{n:Nat}:ixN (n+3) 2=some 2:=by unfold ixN;rw[if_pos (by omega),if_pos (by omega)];rfl
theorem acx{α:Type}{xs:List α}{i:Int}(h0:0<=i)(h1:i < xs.length):∃a,atI xs i=some a/\a∈xs:=by
 obtain ⟨n,rfl⟩:=cy h0;have hn:n < xs.length:=by omega
 exact ⟨xs[n],cB (by simp[hn]),dP _⟩
theorem yC{α:Type}(xs:List α)(lo hi:Option Int):(cut xs lo hi).length<=xs.length:=by unfold cut;rw[ci,ce];omega
theorem acy{l:List D}:bN l []=l.isEmpty:=by cases l <;> rfl
theorem uC{α:Type}(l:List α)(n:Nat):cut l none (some (n:Int))=l.take n:=by
 unfold cut;rw[show HT.sIx l.length 0 none=0 from rfl,HT.Ca,List.drop_zero,Nat.sub_zero];by_cases h:n<=l.length
 ·rw[Nat.min_eq_left h]
 ·rw[Nat.min_eq_right (by omega),eh (aE _),eh (by omega)]
theorem yD{α:Type}(l:List α)(n:Nat):cut l (some (n:Int)) none=l.drop n:=by
 unfold cut;rw[show HT.sIx l.length l.length none=l.length from rfl,HT.Ca];by_cases h:n<=l.length
 ·rw[Nat.min_eq_left h,eh (by rw[ce];exact aE _)]
 ·rw[Nat.min_eq_right (by omega),Nat.sub_self,List.take_zero,List.drop_eq_nil_of_le (by omega)]
theorem yE{α:Type}(l:List α)(n:Nat):cut l (some ((n:Int)+1)) none=l.drop (n+1):=yD l (n+1)
theorem yF:∀{l:List D},(∀d∈l,nr d=true)->nrs l=true
 |[],_=>rfl
 |a::l,h=>by rw[nrs,h a cb,yF λd hd=>h d (bp _ hd)];rfl
theorem Ii{n:Nat}:∀{l:List D},(∀d∈l,dpt d<=n)->aQ l<=n
 |[],_=>eK _
 |a::l,h=>by rw[aQ];exact Nat.max_le.mpr ⟨h a cb,Ii λd hd=>h d (bp _ hd)⟩
theorem acz{α:Type}{motive:List α->Prop}(l:List α)(nil:motive [])(snoc:∀(l:List α)(a:α),motive l->motive (l++[a])):motive l:=by
 have go:∀(n:Nat)(l:List α),l.length=n->motive l:=by
  intro n;induction n with
  |zero=>intro l h;rw[de.mp h];exact nil
  |succ n ih=>
   intro l h;have hne:l≠[]:=by rintro rfl;simp at h
   rw[<-ff hne];exact snoc _ _ (ih _ (by rw[List.length_dropLast];omega))
 exact go _ l rfl
section
variable {G:DH} {k:D->DH->Prop} {fz:Bool} {kb:Bool->Prop} {kd:D->Prop} {p:Addr}
theorem Ij{i j:Int}:bY .Add fz (.int i) (.int j) G k=k (.int (i+j)) G:=rfl
theorem Ik{x y:List Nat}:bY .Add fz (.str x) (.str y) G k=(x.length+y.length<=sz/\k (.str (x++y)) G):=rfl
theorem Il{x y:List D}:bY .Add fz (.lst x) (.lst y) G k=(x.length+y.length<=sz/\mk fz (x++y) G k):=rfl
theorem Im{x y:List D}:bY .Add fz (.tup x) (.tup y) G k=(x.length+y.length<=sz/\k (.tup (x++y)) G):=rfl
theorem Io{i j:Int}:bY .Sub fz (.int i) (.int j) G k=k (.int (i - j)) G:=rfl
theorem Ip{i j:Int}:bY .Mult fz (.int i) (.int j) G k=(CMul i j/\k (.int (i * j)) G):=rfl
theorem Ir{x:List D}{n:Int}:bY .Mult fz (.tup x) (.int n) G k=(2<=n/\n<=1000/\x≠[]/\x.length * n.toNat<=sz/\k (.tup (reps x n.toNat)) G):=rfl
theorem Iu{x:List D}{n:Int}:bY .Mult fz (.lst x) (.int n) G k=(0<=n/\n<=1000/\x.length * n.toNat<=sz/\mk fz (reps x n.toNat) G k):=rfl
theorem Iv{x:List Nat}{n:Int}:bY .Mult fz (.str x) (.int n) G k=(0<=n/\n<=1000/\x.length * n.toNat<=sz/\k (.str (reps x n.toNat)) G):=rfl
theorem Iw{i j:Int}:bY .FloorDiv fz (.int i) (.int j) G k=((0 < j/\j < 1152921504606846976)/\k (.int (i / j)) G):=rfl
theorem Iz{i j:Int}:bY .Mod fz (.int i) (.int j) G k=(0 < j/\k (.int (i % j)) G):=rfl
theorem IK{i j:Int}:bY .Pow fz (.int i) (.int j) G k=(qt i j/\k (.int (i ^ j.toNat)) G):=rfl
def eU:D->Bool
 |.non=>true
 |_=>false
theorem IV{a b:D}:aV .Eq a b kb=((nr a=true/\nr b=true/\min (dpt a) (dpt b)<=60)/\kb (deq a b)):=rfl
theorem IW{a b:D}:aV .NotEq a b kb=((nr a=true/\nr b=true/\min (dpt a) (dpt b)<=60)/\kb (!deq a b)):=rfl
theorem Ja{i j:Int}:aV .Lt (.int i) (.int j) kb=kb (decide (i < j)):=rfl
theorem Jb{i j:Int}:aV .LtE (.int i) (.int j) kb=kb (decide (i<=j)):=rfl
theorem Jc{i j:Int}:aV .Gt (.int i) (.int j) kb=kb (decide (j < i)):=rfl
theorem Jd{i j:Int}:aV .GtE (.int i) (.int j) kb=kb (decide (j<=i)):=rfl
theorem Jf{i j:List Nat}:aV .Lt (.str i) (.str j) kb=kb (decide (i < j)):=rfl
theorem Jg{i j:List Nat}:aV .LtE (.str i) (.str j) kb=kb (!decide (j < i)):=rfl
theorem Jh{a:D}:aV .Is a .non kb=kb (eU a):=by cases a <;> rfl
theorem Ji{a:D}:aV .IsNot a .non kb=kb (!eU a):=by cases a <;> rfl
theorem Jj{a b:Bool}:aV .Is (.bl a) (.bl b) kb=kb (a==b):=rfl
theorem Jl{a b:Bool}:aV .IsNot (.bl a) (.bl b) kb=kb (a != b):=rfl
theorem Jm{c:Nat}{l:List Nat}:aV .In (.str [c]) (.str l) kb=kb (l.contains c):=rfl
theorem Jo{c:Nat}{l:List Nat}:aV .NotIn (.str [c]) (.str l) kb=kb (!l.contains c):=rfl
theorem Jp{a:D}{l:List D}:aV .In a (.lst l) kb=((nr a=true/\nrs l=true/\aQ l<=60)/\kb (isIn a l)):=rfl
theorem Jq{a:D}{l:List D}:aV .In a (.tup l) kb=((nr a=true/\nrs l=true/\aQ l<=60)/\kb (isIn a l)):=rfl
theorem Jr{a:D}{l:List D}:aV .NotIn a (.lst l) kb=((nr a=true/\nrs l=true/\aQ l<=60)/\kb (!isIn a l)):=rfl
theorem Js{a:D}{l:List D}:aV .NotIn a (.tup l) kb=((nr a=true/\nrs l=true/\aQ l<=60)/\kb (!isIn a l)):=rfl
theorem Jt{i:Int}:eU (.int i)=false:=rfl
theorem Ju{i:Bool}:eU (.bl i)=false:=rfl
theorem Jv{i:List Nat}:eU (.str i)=false:=rfl
theorem Jw{i:List D}:eU (.tup i)=false:=rfl
theorem Jx{i:List D}:eU (.lst i)=false:=rfl
theorem Jy{i:Addr}:eU (.ref i)=false:=rfl
theorem JB:eU .non=true:=rfl
def aX{α:Type}(o:Option α)(k:α->Prop):Prop:=match o with |some a=>k a |none=>False
theorem JC{α:Type}{a:α}{k:α->Prop}:aX (some a) k=k a:=rfl
theorem cG{α:Type}{o:Option α}{a:α}{k:α->Prop}(e:o=some a)(h:k a):aX o k:=by rw[e];exact h
theorem uD{α:Type}{xs:List α}{i:Int}{k:α->Prop}(h0:0<=i)(h1:i < xs.length)(h:∀a,a∈xs->k a):aX (atI xs i) k:=by obtain ⟨a,e,m⟩:=acx h0 h1;exact cG e (h a m)
theorem JD{ds:List D}{i:Int}:bZ (.lst ds) (.int i) kd=aX (atI ds i) kd:=by unfold bZ aX;(try dsimp only) <;> (cases atI ds i <;> rfl)
theorem JF{ds:List D}{i:Int}:bZ (.tup ds) (.int i) kd=aX (atI ds i) kd:=by unfold bZ aX;(try dsimp only) <;> (cases atI ds i <;> rfl)
theorem JG{l:List Nat}{i:Int}:bZ (.str l) (.int i) kd=aX (atI l i) (λc=>kd (.str [c])):=by unfold bZ aX;(try dsimp only) <;> (cases atI l i <;> rfl)
theorem JH{ds:List D}{lo hi:Option Int}:dN fz (.lst ds) lo hi G k=mk fz (cut ds lo hi) G k:=rfl
theorem JK{ds:List D}{y:D}:jE fz (.lst ds) y G k=(y=.int (-1)/\mk fz ds.reverse G k):=rfl
theorem JL{ds:List Int}{lo hi:Option Int}:dN fz (.scr ds) lo hi G k=mk fz ((cut ds lo hi).map .int) G k:=rfl
theorem JM{ds:List D}{lo hi:Option Int}:dN fz (.tup ds) lo hi G k=k (.tup (cut ds lo hi)) G:=rfl
theorem JN{ds:List Nat}{lo hi:Option Int}:dN fz (.str ds) lo hi G k=k (.str (cut ds lo hi)) G:=rfl
theorem JP{ds:List D}:opB .len [.lst ds] kd=kd (.int ds.length):=rfl
theorem JQ{ds:List D}:opB .len [.tup ds] kd=kd (.int ds.length):=rfl
theorem JR{ds:List Nat}:opB .len [.str ds] kd=kd (.int ds.length):=rfl
theorem JS{ds:List D}:opB .all [.lst ds] kd=aX (bools ds) (λbs=>kd (.bl (bs.all id))):=by unfold opB qH aX;(try dsimp only) <;> (cases bools ds <;> rfl)
theorem JT{b:Bool}:opB .int [.bl b] kd=kd (.int (if b then 1 else 0)):=rfl
theorem JV{b:Int}:opB .int [.int b] kd=kd (.int b):=rfl
theorem JW{l:List Nat}:opB .int [.str l] kd=aX (PySem.intText? (tx l)) (λn=>l.length<=640/\kd (.int n)):=by unfold opB qI aX;(try dsimp only) <;> (cases PySem.intText? (tx l) <;> rfl)
theorem JX{ds:List D}:opB .sum [.lst ds] kd=aX (b7 ds) (λns=>kd (.int ns.sum)):=by unfold opB wH aX;(try dsimp only) <;> (cases b7 ds <;> rfl)
theorem JZ{a:Int}:opB .str [.int a] kd=((0<=a/\a < 100)/\kd (.str (gC a.toNat))):=rfl
theorem J0{a:Int}:opB .abs [.int a] kd=kd (.int (if a < 0 then -a else a)):=rfl
theorem J1{a b:Int}:opB .min2 [.int a,.int b] kd=kd (.int (if b < a then b else a)):=rfl
theorem J2{a b:Int}:opB .max [.int a,.int b] kd=kd (.int (if b > a then b else a)):=rfl
theorem J7{ds:List D}{kl:List D->Prop}:cM .sorted [.tup ds] kl=aX (b7 ds) (λns=>ns.length < 64/\∀ns':List Int,ns'.Perm ns->ns'.Pairwise (·<=·)->kl (ns'.map D.int)):=by unfold cM qJ aX;(try dsimp only) <;> (cases b7 ds <;> rfl)
theorem J8{ds:List D}{kl:List D->Prop}:cM .sorted [.lst ds] kl=aX (bj ds) (λls=>ls.length < 64/\∀ls':List (List Nat),ls'.Perm ls->PyProof.Rows.sortedS (ls'.map tx)=true->kl (ls'.map D.str)):=by unfold cM qJ aX;(try dsimp only) <;> (cases bj ds <;> rfl)
theorem J9{ds:List D}:opB .tuple [.lst ds] kd=kd (.tup ds):=rfl
theorem Ka{ds:List D}:opB .tuple [.tup ds] kd=kd (.tup ds):=rfl
theorem Kc{ds:List D}{kl:List D->Prop}:cM .list [.lst ds] kl=kl ds:=rfl
theorem Kd{ds:List D}{kl:List D->Prop}:cM .list [.tup ds] kl=kl ds:=rfl
theorem Ke{l:List Nat}{kl:List D->Prop}:cM .list [.str l] kl=kl (l.map λc=>.str [c]):=rfl
theorem Kf{s:List Nat}{ds:List D}:opM .join (.str s) [.lst ds] G k=aX (bj ds) (λls=>((ls.map (·.length)).sum+ls.length * s.length<=sz)/\k (.str (dO s ls)) G):=by unfold opM qK aX;(simp only[bP,eL,view]) <;> (cases bj ds <;> rfl)
def trk(G:DH)(p:Addr)(k:List D->Prop):Prop:=match G p with |some (.lst ds)=>k ds |none=>False
theorem dh{ds:List D}{k:List D->Prop}(e:G p=some (.lst ds)):trk G p k=k ds:=by unfold trk;rw[e]
theorem Kg{x:D}:opM .append (.ref p) [x] G k=trk G p (λds=>ds.length < sz/\k .non (aL G p (.lst (ds++[x])))):=by unfold opM qL trk;(try dsimp only) <;> (cases G p <;> first |rfl | (rename_i o;cases o;rfl))
theorem Kh{x:D}{i:Int}:opM .insert (.ref p) [.int i,x] G k=trk G p (λds=>ds.length < sz/\0<=i/\i<=1000000/\k .non (aL G p (.lst (ds.take i.toNat++x::ds.drop i.toNat)))):=by unfold opM qN trk;(try dsimp only) <;> (cases G p <;> first |rfl | (rename_i o;cases o;rfl))
theorem Kl:recv .insert (.ref p) G=trk G p (λ_=>True):=by unfold recv trk;(try dsimp only) <;> (cases G p <;> first |rfl | (rename_i o;cases o;rfl))
theorem Km{xs:List D}:opM .extend (.ref p) [.lst xs] G k=trk G p (λds=>ds.length+xs.length < sz/\k .non (aL G p (.lst (ds++xs)))):=by unfold opM qM trk;(simp only[bP,eL,view]) <;> (cases G p <;> first |rfl | (rename_i o;cases o;rfl))
theorem yG{ds:List D}:opM .count (.lst ds) [.bl true] G k=aX (bools ds) (λbs=>k (.int (bs.count true:Nat)) G):=by unfold opM qO aX;(try dsimp only[view]) <;> (cases bools ds <;> rfl)
theorem yH{ds:List D}:opM .index (.lst ds) [.bl true] G k=aX (bools ds) (λbs=>true∈bs/\k (.int (bs.idxOf true:Nat)) G):=by unfold opM qP aX;(try dsimp only[view]) <;> (cases bools ds <;> rfl)
theorem Ko{ds:List D}:recv .count (.lst ds) G=True:=rfl
theorem Kp{ds:List D}:recv .index (.lst ds) G=True:=rfl
theorem Kq{s:List Nat}:recv .join (.str s) G=True:=rfl
theorem Kr:recv .append (.ref p) G=trk G p (λ_=>True):=by unfold recv trk;(try dsimp only) <;> (cases G p <;> first |rfl | (rename_i o;cases o;rfl))
theorem Ks:recv .extend (.ref p) G=trk G p (λ_=>True):=by unfold recv trk;(try dsimp only) <;> (cases G p <;> first |rfl | (rename_i o;cases o;rfl))
theorem Ku{i:Int}{x:D}{kg:DH->Prop}:dU (.ref p) (.int i) x G kg=trk G p (λds=>aX (ixN ds.length i) (λj=>kg (aL G p (.lst (ds.set j x))))):=by
 unfold dU trk aX
 (try dsimp only) <;> (cases G p <;> first |rfl | (rename_i o;cases o;(try dsimp only) <;> (rename_i ds;cases ixN ds.length i <;> rfl)))
theorem Kv{i j:Int}:dz .Add (.int i) (.int j) kd=kd (.int (i+j)):=rfl
theorem Kw{x y:List Nat}:dz .Add (.str x) (.str y) kd=(x.length+y.length<=sz/\kd (.str (x++y))):=rfl
theorem Ky{i j:Int}:dz .Sub (.int i) (.int j) kd=kd (.int (i - j)):=rfl
theorem Kz{xs:List D}:mk true xs G k=k (.lst xs) G:=rfl
theorem KC{xs:List D}:mk false xs G k=∀p,G p=none->k (.ref p) (aL G p (.lst xs)):=rfl
theorem KD:view G .non=.non:=rfl
theorem KH{b:Bool}:view G (.bl b)=.bl b:=rfl
theorem KJ{b:Int}:view G (.int b)=.int b:=rfl
theorem KN{b:List Nat}:view G (.str b)=.str b:=rfl
theorem KQ{b:List D}:view G (.tup b)=.tup b:=rfl
theorem KR{b:List D}:view G (.lst b)=.lst b:=rfl
theorem KY{C f:String}{q:Addr}:view G (.obj C f q)=.obj C f q:=rfl
theorem KZ{b:String}:view G (.exn b)=.exn b:=rfl
theorem K1{b:List Int}:view G (.scr b)=.scr b:=rfl
theorem bU{ds:List D}(e:G p=some (.lst ds)):view G (.ref p)=.lst ds:=by unfold view;dsimp only;rw[e]
theorem K5:truth .non=some false:=rfl
theorem K6{b:Bool}:truth (.bl b)=some b:=rfl
theorem K7{i:Int}:truth (.int i)=some (i != 0):=rfl
theorem K8{l:List Nat}:truth (.str l)=some (!l.isEmpty):=rfl
theorem K9{l:List D}:truth (.tup l)=some (!l.isEmpty):=rfl
theorem La{l:List D}:truth (.lst l)=some (!l.isEmpty):=rfl
theorem Lb{l:List D}:itemsOf G (.lst l)=some (l,[]):=rfl
theorem Ld{l:List D}:itemsOf G (.tup l)=some (l,[]):=rfl
theorem Lg{l:List Nat}:itemsOf G (.str l)=some (l.map λc=>.str [c],[]):=rfl
theorem Lh{t:String}:isT t .non=some false:=rfl
theorem Li {t:String} {b:Bool}:isT t (.bl b)=some (t=="bool"||t=="int"):=rfl
theorem Lj {t:String} {b:Int}:isT t (.int b)=some (t=="int"):=rfl
theorem Lk {t:String} {b:List Nat}:isT t (.str b)=some (t=="str"):=rfl
theorem is_tup {t:String} {b:List D}:isT t (.tup b)=some (t=="tuple"):=rfl
theorem Ln {t:String} {b:List D}:isT t (.lst b)=some (t=="list"):=rfl
theorem Lp{i:Nat}{d:D}{ρ:ak}{kr:ak->Prop}:aY (.nm i) d ρ G kr=kr (ρ.set i (some d)):=rfl
theorem Lq{ts:Tgs}{ds:List D}{ρ:ak}{kr:ak->Prop}:aY (.tp ts) (.lst ds) ρ G kr=bH ts ds ρ G kr:=rfl
theorem Lr{ts:Tgs}{ds:List D}{ρ:ak}{kr:ak->Prop}:aY (.tp ts) (.tup ds) ρ G kr=bH ts ds ρ G kr:=rfl
theorem Ls{ρ:ak}{kr:ak->Prop}:bH .nil [] ρ G kr=kr ρ:=rfl
theorem Lw{t:Tg}{r:Tgs}{d:D}{ds:List D}{ρ:ak}{kr:ak->Prop}:bH (.cons t r) (d::ds) ρ G kr=aY t d ρ G (λρ'=>bH r ds ρ' G kr):=rfl
theorem Lx:deq .non .non=true:=rfl
theorem Ly  {y:Bool}:deq .non (.bl y)=false:=rfl
theorem Lz  {y:Int}:deq .non (.int y)=false:=rfl
theorem LC  {y:List Nat}:deq .non (.str y)=false:=rfl
theorem LK  {y:List D}:deq .non (.tup y)=false:=rfl
theorem LQ  {y:List D}:deq .non (.lst y)=false:=rfl
theorem LR{x:Bool} :deq (.bl x) .non=false:=rfl
theorem Ma{x:Bool}{y:Bool}:deq (.bl x) (.bl y)=(x==y):=by rw[deq]
theorem Mg{x:Bool}{y:List Nat}:deq (.bl x) (.str y)=false:=rfl
theorem Mh{x:Bool}{y:List D}:deq (.bl x) (.tup y)=false:=rfl
theorem Mi{x:Bool}{y:List D}:deq (.bl x) (.lst y)=false:=rfl
theorem Mj{x:Int} :deq (.int x) .non=false:=rfl
theorem Ml{x:Int}{y:Int}:deq (.int x) (.int y)=(x==y):=by rw[deq]
theorem Mm{x:Int}{y:List Nat}:deq (.int x) (.str y)=false:=rfl
theorem Mp{x:Int}{y:List D}:deq (.int x) (.tup y)=false:=rfl
theorem Mq{x:Int}{y:List D}:deq (.int x) (.lst y)=false:=rfl
theorem Mr{x:List Nat} :deq (.str x) .non=false:=rfl
theorem Ms{x:List Nat}{y:Bool}:deq (.str x) (.bl y)=false:=rfl
theorem Mt{x:List Nat}{y:Int}:deq (.str x) (.int y)=false:=rfl
theorem Mu{x:List Nat}{y:List Nat}:deq (.str x) (.str y)=(x==y):=by rw[deq]
theorem Mv{x:List Nat}{y:List D}:deq (.str x) (.tup y)=false:=rfl
theorem Mw{x:List Nat}{y:List D}:deq (.str x) (.lst y)=false:=rfl
theorem Mx{x:List D} :deq (.tup x) .non=false:=rfl
theorem My{x:List D}{y:Bool}:deq (.tup x) (.bl y)=false:=rfl
theorem Mz{x:List D}{y:Int}:deq (.tup x) (.int y)=false:=rfl
theorem MF{x:List D}{y:List Nat}:deq (.tup x) (.str y)=false:=rfl
theorem MJ{x:List D}{y:List D}:deq (.tup x) (.tup y)=bN x y:=by rw[deq]
theorem MK{x:List D}{y:List D}:deq (.tup x) (.lst y)=false:=rfl
theorem MN{x:List D} :deq (.lst x) .non=false:=rfl
theorem MP{x:List D}{y:Bool}:deq (.lst x) (.bl y)=false:=rfl
theorem MT{x:List D}{y:Int}:deq (.lst x) (.int y)=false:=rfl
theorem M3{x:List D}{y:List Nat}:deq (.lst x) (.str y)=false:=rfl
theorem M4{x:List D}{y:List D}:deq (.lst x) (.tup y)=false:=rfl
theorem M5{x:List D}{y:List D}:deq (.lst x) (.lst y)=bN x y:=by rw[deq]
theorem M6:bN [] []=true:=rfl
theorem M7{a b:D}{as bs:List D}:bN (a::as) (b::bs)=(deq a b&&bN as bs):=by rw[bN]
theorem M8{b:D}{bs:List D}:bN [] (b::bs)=false:=rfl
theorem M9{b:D}{bs:List D}:bN (b::bs) []=false:=rfl
theorem Nb :nr .non=true:=rfl
theorem Nf :dpt .non=0:=rfl
theorem Ng{x:Bool}:nr (.bl x)=true:=rfl
theorem Nh{x:Bool}:dpt (.bl x)=0:=rfl
theorem Ni{x:Int}:nr (.int x)=true:=rfl
theorem Nj{x:Int}:dpt (.int x)=0:=rfl
theorem Nk{x:List Nat}:nr (.str x)=true:=rfl
theorem Nm{x:List Nat}:dpt (.str x)=0:=rfl
theorem Np{x:List D}:nr (.tup x)=nrs x:=by rw[nr]
theorem Nq{x:List D}:dpt (.tup x)=aQ x+1:=by rw[dpt]
theorem Nr{x:List D}:nr (.lst x)=nrs x:=by rw[nr]
theorem Nt{x:List D}:dpt (.lst x)=aQ x+1:=by rw[dpt]
theorem Nu:nrs []=true:=rfl
theorem Nv{a:D}{l:List D}:nrs (a::l)=(nr a&&nrs l):=by rw[nrs]
theorem Nx:aQ []=0:=rfl
theorem Ny{a:D}{l:List D}:aQ (a::l)=max (dpt a) (aQ l):=by rw[aQ]
end
theorem seq{Φ:aa}{s:Sx}{r:Sxs}{E:EK}{ρ:ak}{G:DH}{D:En}(h:∀M:ak->DH->Prop,(∀ρ' G',aq Φ r E ρ' G' D->M ρ' G')->wpS Φ s E ρ G { D with nx:=M }):aq Φ (.cons s r) E ρ G D:=by rw[jJ];exact h _ λ_ _ x=>x
theorem last{Φ:aa}{s:Sx}{E:EK}{ρ:ak}{G:DH}{D:En}(h:wpS Φ s E ρ G D):aq Φ (.cons s .nil) E ρ G D:=by rw[jJ];exact wpS_mono s (D:=D) (D':={ D with nx:=λρ' G'=>aq Φ .nil E ρ' G' D }) ⟨λρ' G' q=>(show aq Φ .nil E ρ' G' D from by rw[jH];exact q),λ_ _ q=>q,λ_ _ q=>q,λ_ _ q=>q⟩ h
theorem done{Φ:aa}{E:EK}{ρ:ak}{G:DH}{D:En}(h:D.nx ρ G):aq Φ .nil E ρ G D:=by rw[jH];exact h
section
variable {Φ:aa} {E:EK} {ρ:ak} {G:DH}
def ForG(Φ:aa)(t:Tg)(body:Sxs)(E:EK)(D:En)(items:List RF.D)(g:Hld)(ρ:ak)(G:DH):Prop:=
 forLoop (λd ρ' G' k=>aY t d ρ' G' λρ1=>aq Φ body E ρ1 G' { D with nx:=k,ct:=k,bk:=D.nx }) g items ρ G D.nx
theorem Nz{t:Tg}{it:It'}{body:Sxs}{D:En}:wpS Φ (.for_ t it body) E ρ G D=wpI Φ it E ρ G λitems g G1=>ForG Φ t body E D items g ρ G1:=rfl
theorem ForG.inv{t:Tg}{body:Sxs}{D:En}{items:List RF.D}{g:Hld}(P:Nat->ak->DH->Prop)(h0:P 0 ρ G)(hh:∀i ρ G,P i ρ G->held g G)
  (hs:∀i d ρ G,items[i]?=some d->P i ρ G->∀kk:ak->DH->Prop,(∀ρ' G',P (i+1) ρ' G'->kk ρ' G')->aY t d ρ G λρ1=>aq Φ body E ρ1 G { D with nx:=kk,ct:=kk,bk:=D.nx })
  (he:∀ρ G,P items.length ρ G->D.nx ρ G):ForG Φ t body E D items g ρ G:=acs P h0 hh hs he
def CompG(Φ:aa)(elt:Ex)(tg:Tg)(cond:Tx)(items:List D)(g:Hld)(ρ:ak)(G:DH)(k:List D->DH->Prop):Prop:=
 compLoop (λd ρ' G' k'=>aY tg d ρ' G' λρ1=>wpT Φ cond noE ρ1 G' λb G2=>match b with |true=>wpE Φ elt noE ρ1 G2 λy G3=>k' (some y) ρ1 G3 |false=>k' none ρ1 G2) g items [] ρ G k
def jY(cap:List (Option Nat))(ρ:ak):ak:=cap.map λo=>match o with |none=>none |some j=>(ρ[j]?).join
theorem NB{ρ:ak}:jY [] ρ=[]:=rfl
theorem NK{cap:List (Option Nat)}{ρ:ak}:jY (none::cap) ρ=none::jY cap ρ:=rfl
theorem NQ{cap:List (Option Nat)}{ρ:ak}{j:Nat}:jY (some j::cap) ρ=(ρ[j]?).join::jY cap ρ:=rfl
theorem NT{fz:Bool}{elt:Ex}{tg:Tg}{it:It'}{cond:Tx}{N:List String}{cap:List (Option Nat)}{k:D->DH->Prop}:
  wpE Φ (.comp fz elt tg it cond N cap) E ρ G k=wpI Φ it E ρ G λitems g G1=>CompG Φ elt tg cond items g (jY cap ρ) G1 λds G2=>mk fz ds G2 k:=rfl
theorem CompG.inv{elt:Ex}{tg:Tg}{cond:Tx}{items:List D}{g:Hld}{k:List D->DH->Prop}(P:Nat->List D->ak->DH->Prop)(h0:P 0 [] ρ G)(hh:∀i acc ρ G,P i acc ρ G->held g G)(hl:items.length<=sz)
  (hs:∀i d acc ρ G,items[i]?=some d->P i acc ρ G->∀kk:Option D->ak->DH->Prop,(∀o ρ' G',P (i+1) (acc++o.toList) ρ' G'->kk o ρ' G')->
   aY tg d ρ G λρ1=>wpT Φ cond noE ρ1 G λb G2=>match b with |true=>wpE Φ elt noE ρ1 G2 λy G3=>kk (some y) ρ1 G3 |false=>kk none ρ1 G2)
  (he:∀acc ρ G,P items.length acc ρ G->k acc G):CompG Φ elt tg cond items g ρ G k:=HW P h0 hh (by simpa using hl) hs he
theorem CompG.map{elt:Ex}{tg:Tg}{cond:Tx}{items:List D}{g:Hld}{k:List D->DH->Prop}(f:D->D)(I:ak->Prop)(h0:I ρ)(hg:held g G)(hl:items.length<=sz)
  (hs:∀d ρ,d∈items->I ρ->∀kk:Option D->ak->DH->Prop,(∀ρ',I ρ'->kk (some (f d)) ρ' G)->aY tg d ρ G λρ1=>wpT Φ cond noE ρ1 G λb G2=>match b with |true=>wpE Φ elt noE ρ1 G2 λy G3=>kk (some y) ρ1 G3 |false=>kk none ρ1 G2)
  (he:k (items.map f) G):CompG Φ elt tg cond items g ρ G k:=acv g f I h0 hg hl hs he
def acA(Φ:aa)(c:Tx)(body:Sxs)(E:EK)(D:En)(n:Nat)(ρ:ak)(G:DH):Prop:=
 whileLoop (λρ' G' k=>wpT Φ c E ρ' G' k) (λρ' G' k=>aq Φ body E ρ' G' { D with nx:=k,ct:=k,bk:=D.nx }) n ρ G D.nx
theorem NZ{c:Tx}{body:Sxs}{D:En}:wpS Φ (.whl c body) E ρ G D=∃n,acA Φ c body E D n ρ G:=rfl
end
theorem len0{α:Type}{l:List α}(h:l.length=0):l=[]:=de.mp h
theorem uE{α:Type}{n:Nat}{l:List α}(h:l.length=n+1):∃a r,l=a::r/\r.length=n:=by
 cases l with
 |nil=>cases h
 |cons a r=>exact ⟨a,r,rfl,Nat.succ.inj h⟩
theorem cP{α:Type}{l:List α}(h:l.length=1):∃a,l=[a]:=by obtain ⟨a,r,rfl,h2⟩:=uE h;cases len0 h2;exact ⟨a,rfl⟩
theorem bz{α:Type}{l:List α}(h:l.length=2):∃a b,l=[a,b]:=by obtain ⟨a,r,rfl,h2⟩:=uE h;obtain ⟨b,rfl⟩:=cP h2;exact ⟨a,b,rfl⟩
theorem di{α:Type}{l:List α}(h:l.length=3):∃a b c,l=[a,b,c]:=by obtain ⟨a,r,rfl,h2⟩:=uE h;obtain ⟨b,c,rfl⟩:=bz h2;exact ⟨a,b,c,rfl⟩
theorem acB{α:Type}{l:List α}(h:l.length=4):∃a b c d,l=[a,b,c,d]:=by obtain ⟨a,r,rfl,h2⟩:=uE h;obtain ⟨b,c,d,rfl⟩:=di h2;exact ⟨a,b,c,d,rfl⟩
structure Fo(Φ:aa)(P:Program)(w:World)(K:PF)(mg:Str->Option Value)(base:Heap)(k:Nat)(f:String)(n:Nat):Prop where
 ex:∃fa fd ps,FnOk P w K mg base (CX1 P w) k fa fd ps (lift K n (Φ f))/\PySem.W.keepIn K (.ref fa)=true/\Binds K fd ps []/\mg (Str.ofString f)=some (.ref fa)
section
variable {Φ:aa} {P:Program} {w:World} {K:PF} {mg:Str->Option Value} {base:Heap} {k:Nat} {xs:List (String×Bool)} {ot:OT}
noncomputable def AllF(Φ:aa)(P:Program)(w:World)(K:PF)(mg:Str->Option Value)(base:Heap)(k:Nat):List (String×Nat)->Prop
 |[]=>True
 | (f,n)::r=>Fo Φ P w K mg base k f n/\AllF Φ P w K mg base k r
noncomputable def AllB(mg:Str->Option Value):List String->Prop
 |[]=>True
 |f::r=>mg (Str.ofString f)=none/\AllB mg r
noncomputable def AllC(K:PF)(mg:Str->Option Value):List (String×D)->Prop
 |[]=>True
 | (x,d)::r=>(∃u v,mg (Str.ofString x)=some u/\RelV v u/\∀H F,Rep K H F d v)/\AllC K mg r
theorem AllF.get:∀{fs:List (String×Nat)}{f:String}{n:Nat},AllF Φ P w K mg base k fs->(f,n)∈fs->Fo Φ P w K mg base k f n
 | (f',n')::r,f,n,h,m=>by
  rcases aI.mp m with e |m
  ·cases e;exact h.1
  ·exact AllF.get h.2 m
theorem AllB.get:∀{fs:List String}{f:String},AllB mg fs->f∈fs->mg (Str.ofString f)=none
 |f'::r,f,h,m=>by
  rcases aI.mp m with e |m
  ·cases e;exact h.1
  ·exact AllB.get h.2 m
theorem AllC.get:∀{fs:List (String×D)}{x:String}{d:D},AllC K mg fs->(x,d)∈fs->∃u v,mg (Str.ofString x)=some u/\RelV v u/\∀H F,Rep K H F d v
 | (f',n')::r,f,n,h,m=>by
  rcases aI.mp m with e |m
  ·cases e;exact h.1
  ·exact AllC.get h.2 m
noncomputable def cvB(K:PF)(C':String):Option V:=match PySem.W.nsIn K mainGlobals (Str.ofString C') with
 |some (some (.ref a))=>if qG K a then some (.ref a) else none
 |some none=>if C'=="ValueError" then some (.ty "ValueError") else none
 |_=>none
noncomputable def xiB(K:PF)(C C':String)(cv:V):Bool:=match PySem.W.nsIn K mainGlobals (Str.ofString C) with
 |some (some (.ref c))=>lw K c&&PySem.W.mroIn K c (valOf cv)==some (bA C C')&&(bA C C'||!(Value.ref c==valOf cv))
 |_=>false
noncomputable def yI(K:PF)(C:String):Bool:=match PySem.W.nsIn K mainGlobals (Str.ofString C) with
 |some (some (.ref c))=>iw K c
 |_=>false
noncomputable def xsB(K:PF)(xs:List (String×Bool)):Bool:=xs.all λp=>match p.2 with
 |true=>yI K p.1
 |false=>(cvB K p.1).any λcv=>xs.all λq=>!q.2||xiB K q.1 p.1 cv
theorem acC{h:Heap}(X:K.In h)(Gh:h.Ns mainGlobals mg){xs:List (String×Bool)}(e:xsB K xs=true)(C:String)(hC:xs.contains (C,true)=true):∃a,mg (Str.ofString C)=some (.ref a)/\iw K a=true/\PySem.W.nsIn K mainGlobals (Str.ofString C)=some (some (.ref a)):=by
 have e1:yI K C=true:=bo.mp e _ (aT.mp hC);unfold yI at e1;split at e1
 ·rename_i a hn;exact ⟨a,PySem.W.mg_of X Gh hn,e1,hn⟩
 ·cases e1
theorem acD{h:Heap}(X:K.In h)(Gh:h.Ns mainGlobals mg){xs:List (String×Bool)}(e:xsB K xs=true)(C':String)(hC:xs.contains (C',false)=true):∃cv,CV K mg C' cv/\∀C,xs.contains (C,true)=true->XI K C C' cv:=by
 have e1:((cvB K C').any λcv=>xs.all λq=>!q.2||xiB K q.1 C' cv)=true:=bo.mp e _ (aT.mp hC);obtain ⟨cv,hcv,h2⟩:=aP e1;refine ⟨cv,?_,λC hC=>?_⟩
 ·unfold cvB at hcv;split at hcv
  ·rename_i a hn;split at hcv
   ·rename_i hb;cases hcv;exact .inl ⟨a,rfl,PySem.W.mg_of X Gh hn,hb⟩
   ·cases hcv
  ·rename_i hn;split at hcv
   ·rename_i hb;cases hcv;exact .inr ⟨ar.mp hb,rfl,PySem.W.mg_none_of X Gh hn⟩
   ·cases hcv
  ·cases hcv
 ·have e3:(!true||xiB K C C' cv)=true:=bo.mp h2 _ (aT.mp hC);have e3:xiB K C C' cv=true:=e3;unfold xiB at e3;split at e3
  ·rename_i c hn;rw[ae,ae,ar]at e3;refine ⟨c,hn,e3.1.1,e3.1.2,λhs=>?_⟩;have:=e3.2;rw[hs,Bool.false_or,eP]at this;exact this
  ·cases e3
theorem bse{h:Heap}{fs:List (String×Nat)}{bt:List String}{cn:List (String×D)}(h1:AllF Φ P w K mg base k fs)(h2:AllB mg bt)(h3:AllC K mg cn)(X:K.In h)(Gh:h.Ns mainGlobals mg)(e:xsB K xs=true):Bse Φ P w K mg base (CX1 P w) k fs bt cn xs {}:=
 ⟨λ_ _ m=>(h1.get m).ex,λ_ m=>h2.get m,λ_ _ m=>h3.get m,acC X Gh e,acD X Gh e,(λ_ _ _ _ h=>(nomatch h)),(λ_ _ h=>(nomatch h)),(λ_ _ h=>(nomatch h))⟩
theorem yJ{x:String}{i:Int}{t:Tok}(h:mg (Str.ofString x)=some (.int i t)):∃u v,mg (Str.ofString x)=some u/\RelV v u/\∀H F,Rep K H F (.int i) v:=⟨_,.int i,h,⟨t,rfl⟩,λ_ _=>rfl⟩
theorem acE{x:String}{l:List Nat}{s:Str}{t:Tok}(h:mg (Str.ofString x)=some (.str s t))(e:s=tx l)(hl:l.length<=sz):∃u v,mg (Str.ofString x)=some u/\RelV v u/\∀H F,Rep K H F (.str l) v:=⟨_,.str s,h,⟨t,rfl⟩,λ_ _=>⟨by rw[e],hl⟩⟩
theorem yK{n:Nat}{S:RF.Spec}{fa:Addr}{fd:FuncData}{ps:List Str}(h:∀ds G a,¬S.pre ds G a):FnOk P w K mg base (CX1 P w) k fa fd ps (lift K n S):=
 ⟨λ_ _ _ _ ⟨_,_,_,_,_,_,a,hp,_⟩=>absurd hp (h _ _ a),λ_ _ _ _ _ _ _ _ _ _ _ _ _ ⟨_,_,_,_,_,_,a,hp,_⟩=>absurd hp (h _ _ a)⟩
end
section
variable {Φ:aa} {P:Program} {w:World} {K:PF} {mg:Str->Option Value} {base:Heap} {k j n:Nat} {fs:List (String×Nat)} {bt:List String} {cn:List (String×D)} {xs:List (String×Bool)} {ot:OT} {x:String} {S:RF.Spec} {fa:Addr} {fd:FuncData} {ps:List Str}
theorem MthOk.mono{f C m:String}(h:MthOk Φ P w K mg base (CX1 P w) k f C m n)(hk:k<=j):MthOk Φ P w K mg base (CX1 P w) j f C m n:=by obtain ⟨c,fa,fd,ps,h1,h2,h3,h4,h5⟩:=h;exact ⟨c,fa,fd,ps,h1,h2,h3,h4,h5.mono hk⟩
theorem MkoOk.mono{C:String}(h:MkoOk Φ P w K mg base (CX1 P w) k C n)(hk:k<=j):MkoOk Φ P w K mg base (CX1 P w) j C n:=by obtain ⟨c,fa,fd,ps,sp,i,h0,h⟩:=h;exact ⟨c,fa,fd,ps,sp,i,cw h0 hk,h⟩
theorem Bse.add(B:Bse Φ P w K mg base (CX1 P w) k fs bt cn xs ot)(e:Φ x=S)(o:FnOk P w K mg base (CX1 P w) (k+j) fa fd ps (lift K n S))(h2:PySem.W.keepIn K (.ref fa)=true)(h3:Binds K fd ps [])(h4:mg (Str.ofString x)=some (.ref fa)):Bse Φ P w K mg base (CX1 P w) (k+j) ((x,n)::fs) bt cn xs ot:=by
 refine ⟨λf m hm=>?_,B.blt,B.con,B.xcl,B.xis,λf C m n h=>(B.mth f C m n h).mono (cm _ _),λC n h=>(B.mko C n h).mono (cm _ _),B.fld⟩;rcases aI.mp hm with e' |hm
 ·cases e';exact ⟨fa,fd,ps,by rw[e];exact o,h2,h3,h4⟩
 ·obtain ⟨fa,fd,ps,h1,h⟩:=B.call f m hm;exact ⟨fa,fd,ps,h1.mono (cm _ _),h⟩
theorem Bse.step{qual:Str}{st:Stmt}{N:List Str}{body:Sxs}(B:Bse Φ P w K mg base (CX1 P w) k fs bt cn xs ot)(F:Fun K (Str.ofString x) qual st fa fd)(h3:Binds K fd ps [])(h4:mg (Str.ofString x)=some (.ref fa))(e:Φ x=S)(m:Nat)
  (hs:fnB N ps (ao st)=true) (hc:aC (aH N (ao st) fs bt cn xs ot) body (aF st)=true) (hn:ps.length=n) (hm:N.length=n+m)
  (hw:∀ds G a,ds.length=n->S.pre ds G a->aq Φ body noE (env0 ds m) G (ends (S.post a))):Bse Φ P w K mg base (CX1 P w) (k+1) ((x,n)::fs) bt cn xs ot:=
 B.add e (jX F B S n m hs hc hn hm hw) F.kp h3 h4
theorem Bse.stepX{qual:Str}{st:Stmt}{N:List Str}{body:Sxs}(B:Bse Φ P w K mg base (CX1 P w) k fs bt cn xs ot)(F:Fun K (Str.ofString x) qual st fa fd)(h3:Binds K fd ps [])(h4:mg (Str.ofString x)=some (.ref fa))(e:Φ x=S)(m:Nat)
  (hs:fnB N ps (ao st)=true) (hc:aC (aH N (ao st) fs bt cn xs ot) body (aF st)=true) (hn:ps.length=n) (hm:N.length=n+m)
  (hw:∀ds G a,ds.length=n->S.pre ds G a->aq Φ body (S.exc a) (env0 ds m) G (ends (S.post a))):Bse Φ P w K mg base (CX1 P w) (k+1) ((x,n)::fs) bt cn xs ot:=
 B.add e (HS F B S n m hs hc hn hm hw) F.kp h3 h4
theorem Bse.addM{C m:String}{c:Addr}(B:Bse Φ P w K mg base (CX1 P w) k fs bt cn xs ot)(e:Φ x=S)(o:FnOk P w K mg base (CX1 P w) (k+j) fa fd ps (lift K n S))(h1:PySem.W.nsIn K mainGlobals (Str.ofString C)=some (some (.ref c)))(h2:Cls K c)(h3:Meth K c (Str.ofString m) fa)(h4:Binds K fd ps []):
  Bse Φ P w K mg base (CX1 P w) (k+j) fs bt cn xs { ot with ms:=(x,C,m,n)::ot.ms }:=by
 refine ⟨λf m hm=>?_,B.blt,B.con,B.xcl,B.xis,λf C' m' n' hm=>?_,λC n h=>(B.mko C n h).mono (cm _ _),B.fld⟩
 ·obtain ⟨fa,fd,ps,h1,h⟩:=B.call f m hm;exact ⟨fa,fd,ps,h1.mono (cm _ _),h⟩
 ·rcases aI.mp hm with e' |hm
  ·cases e';exact ⟨c,fa,fd,ps,h1,h2,h3,h4,by rw[e];exact o⟩
  ·exact (B.mth f C' m' n' hm).mono (cm _ _)
theorem Bse.stepM{C m:String}{c:Addr}{nm qual:Str}{st:Stmt}{N:List Str}{body:Sxs}(B:Bse Φ P w K mg base (CX1 P w) k fs bt cn xs ot)(F:Fun K nm qual st fa fd)(h4:Binds K fd ps [])(h1:PySem.W.nsIn K mainGlobals (Str.ofString C)=some (some (.ref c)))(h2:Cls K c)(h3:Meth K c (Str.ofString m) fa)(e:Φ x=S)(mm:Nat)
  (hs:fnB N ps (ao st)=true) (hc:aC (aH N (ao st) fs bt cn xs ot) body (aF st)=true) (hn:ps.length=n) (hm:N.length=n+mm)
  (hw:∀ds G a,ds.length=n->S.pre ds G a->aq Φ body (S.exc a) (env0 ds mm) G (ends (S.post a))):Bse Φ P w K mg base (CX1 P w) (k+1) fs bt cn xs { ot with ms:=(x,C,m,n)::ot.ms }:=
 B.addM e (HS F B S n mm hs hc hn hm hw) h1 h2 h3 h4
theorem Bse.stepM0{C m:String}{c:Addr}{nm qual:Str}{st:Stmt}{N:List Str}{body:Sxs}(B:Bse Φ P w K mg base (CX1 P w) k fs bt cn xs ot)(F:Fun K nm qual st fa fd)(h4:Binds K fd ps [])(h1:PySem.W.nsIn K mainGlobals (Str.ofString C)=some (some (.ref c)))(h2:Cls K c)(h3:Meth K c (Str.ofString m) fa)(e:Φ x=S)(mm:Nat)
  (hs:fnB N ps (ao st)=true) (hc:aC (aH N (ao st) fs bt cn xs ot) body (aF st)=true) (hn:ps.length=n) (hm:N.length=n+mm)
  (hw:∀ds G a,ds.length=n->S.pre ds G a->aq Φ body noE (env0 ds mm) G (ends (S.post a))):Bse Φ P w K mg base (CX1 P w) (k+1) fs bt cn xs { ot with ms:=(x,C,m,n)::ot.ms }:=
 B.addM e (jX F B S n mm hs hc hn hm hw) h1 h2 h3 h4
theorem Bse.addK{C:String}(B:Bse Φ P w K mg base (CX1 P w) k fs bt cn xs ot)(o:MkoOk Φ P w K mg base (CX1 P w) (k+j) C n):Bse Φ P w K mg base (CX1 P w) (k+j) fs bt cn xs { ot with ks:=(C,n)::ot.ks }:=by
 refine ⟨λf m hm=>?_,B.blt,B.con,B.xcl,B.xis,λf C m n h=>(B.mth f C m n h).mono (cm _ _),λC' n' hm=>?_,B.fld⟩
 ·obtain ⟨fa,fd,ps,h1,h⟩:=B.call f m hm;exact ⟨fa,fd,ps,h1.mono (cm _ _),h⟩
 ·rcases aI.mp hm with e' |hm
  ·cases e';exact o
  ·exact (B.mko C' n' hm).mono (cm _ _)
theorem Bse.addF{C f:String}(B:Bse Φ P w K mg base (CX1 P w) k fs bt cn xs ot)(o:yj K C f):Bse Φ P w K mg base (CX1 P w) k fs bt cn xs { ot with fl:=(C,f)::ot.fl }:=by
 refine ⟨B.call,B.blt,B.con,B.xcl,B.xis,B.mth,B.mko,λC' f' hm=>?_⟩;rcases aI.mp hm with e' |hm
 ·cases e';exact o
 ·exact B.fld C' f' hm
def gP(Φ:aa)(x:String)(S:RF.Spec):aa:=λf=>if f=x then S else Φ f
theorem jZ{y:String}(e:Φ y=S){S':RF.Spec}(h:(y==x)=false):gP Φ x S' y=S:=by unfold gP;rw[if_neg (by simpa using h)];exact e
theorem Bse.self(B:Bse Φ P w K mg base (CX1 P w) k fs bt cn xs {})(hx:(fs.map (·.1)).contains x=false)(o:FnOk P w K mg base (CX1 P w) (k+j) fa fd ps (lift K n S))(h2:PySem.W.keepIn K (.ref fa)=true)(h3:Binds K fd ps [])(h4:mg (Str.ofString x)=some (.ref fa)):Bse (gP Φ x S) P w K mg base (CX1 P w) (k+j) ((x,n)::fs) bt cn xs {}:=by
 refine ⟨λf m hm=>?_,B.blt,B.con,B.xcl,B.xis,(λ_ _ _ _ h=>(nomatch h)),(λ_ _ h=>(nomatch h)),(λ_ _ h=>(nomatch h))⟩;rcases aI.mp hm with e' |hm'
 ·cases e';exact ⟨fa,fd,ps,by unfold gP;rw[if_pos rfl];exact o,h2,h3,h4⟩
 ·obtain ⟨fa,fd,ps,h1,h⟩:=B.call f m hm';have hf:f≠x:=by
   rintro rfl;rw[<-Bool.not_eq_true,aT]at hx;exact hx (dc.mpr ⟨(f,m),hm',rfl⟩)
  exact ⟨fa,fd,ps,by unfold gP;rw[if_neg hf];exact h1.mono (cm _ _),h⟩
end
theorem acF{S:RF.Spec}(hS:∀(ns:List Int)(G:DH),ns.length<=63->∃a,S.pre [.scr ns] G a/\(∀d G',S.post a d G'->d=.bl true)/\∀x G',¬S.exc a x G')(K:PF)(H:Hp)(a:Addr)(ns:List Int)(hl:ns.length<=63)(hO:Only H)(hs:SqL K H a (ns.map V.int)):
  lift K 1 S [.ref a] H (λv _=>v=.bl true) λ_ _ _=>False:=by
 obtain ⟨b,h1,h2,h3⟩:=hS ns (λ_=>none) hl;refine ⟨rfl,λ_=>False,λ_=>none,[.scr ns],⟨λ_ f=>f.elim,λ_ _ e=>by cases e⟩,⟨.ref a,[],rfl,⟨a,rfl,?_⟩,rfl⟩,b,h1,λd G' q H' F' v _ _ rv=>?_,λx G' q=>absurd q (h3 x G')⟩
 ·rcases hs with (h |h) |h
  ·exfalso;rcases hO a with z |⟨o,u,z⟩
   ·rw[z]at h;cases h
   ·rw[z]at h;cases h
  ·exact .inl h
  ·exact .inr h
 ·rw[h2 d G' q]at rv;exact rv
theorem acG{pre:List D->DH->Prop}(h:∀(ns:List Int)(G:DH),ns.length<=63->pre [.scr ns] G):∀(ns:List Int)(G:DH),ns.length<=63->∃a,(bx pre (λ_ _ d _=>d=.bl true)).pre [.scr ns] G a/\(∀d G',(bx pre (λ_ _ d _=>d=.bl true)).post a d G'->d=.bl true)/\∀x G',¬(bx pre (λ_ _ d _=>d=.bl true)).exc a x G':=
 λns G hl=>⟨([.scr ns],G),⟨rfl,h ns G hl⟩,λ_ _ q=>q,λ_ _ z=>z⟩
def ghS{A:Type}(pre:A->List D->DH->Prop)(post:A->DH->D->DH->Prop):RF.Spec where
 A:=A×DH
 pre:=λds G a=>a.2=G/\pre a.1 ds G
 post:=λa d G'=>post a.1 a.2 d G'
 exc:=λ_ _ _=>False
theorem cH{A:Type}{pre:A->List D->DH->Prop}{post:A->DH->D->DH->Prop}{ds:List D}{G:DH}{k:D->DH->Prop}{E:EK}(a:A)(h:pre a ds G)(hk:∀d G',post a G d G'->k d G'):(ghS pre post).t ds G k E:=
 ⟨(a,G),⟨rfl,h⟩,hk,λ_ _ z=>z.elim⟩
theorem cU{A:Type}{Φ:aa}{body:Sxs}{m n:Nat}{pre:A->List D->DH->Prop}{post:A->DH->D->DH->Prop}(h:∀a ds G,pre a ds G->aq Φ body noE (env0 ds m) G (ends (post a G))):
  ∀ds G a,ds.length=n->(ghS pre post).pre ds G a->aq Φ body noE (env0 ds m) G (ends ((ghS pre post).post a)):=by
 rintro ds G ⟨a,G0⟩ _ ⟨rfl,h1⟩;exact h a ds _ h1
def fX{A:Type}(args:A->List D)(ok:A->Prop)(val:A->D):RF.Spec:=ghS (λa ds _=>ds=args a/\ok a) (λa G d G'=>G'=G/\d=val a)
theorem j0{A:Type}{args:A->List D}{ok:A->Prop}{val:A->D}{ds:List D}{G:DH}{k:D->DH->Prop}{E:EK}(a:A)(e:ds=args a)(h:ok a)(hk:k (val a) G):(fX args ok val).t ds G k E:=
 cH a ⟨e,h⟩ λd G' ⟨e1,e2⟩=>by subst e1 e2;exact hk
theorem j4{A:Type}{Φ:aa}{body:Sxs}{m n:Nat}{args:A->List D}{ok:A->Prop}{val:A->D}(h:∀a G,ok a->aq Φ body noE (env0 (args a) m) G (ends λd G'=>G'=G/\d=val a)):
  ∀ds G a,ds.length=n->(fX args ok val).pre ds G a->aq Φ body noE (env0 ds m) G (ends ((fX args ok val).post a)):=
 cU λa ds G ⟨e,h1⟩=>by subst e;exact h a G h1
theorem ai{a b:Prop}(x:a)(y:b):a/\b:=⟨x,y⟩
def N5:=ai @su (ai @jK (ai @sy (ai @sE (ai @w5 (ai @sG (ai @sH (ai @sI (ai @sJ (ai @sO (ai @sS (ai (ai @sX (ai @lE (ai @xg (ai @lF (ai (ai @sW (ai @xj (ai @xm @sV))) (ai @xq (ai @xr (ai (ai @rR (ai (ai (ai @rT (ai @rW (ai @rY @rZ))) (ai @wV @wW)) (ai @wX (ai @wY @wZ)))) (ai @xf @sU))))))))) (ai @Nz (ai @NZ (ai (ai @rz (ai @qR (ai @qT (ai @qU (ai @jG (ai @gF (ai @gG (ai @qW (ai @lA (ai @qX (ai @lB (ai @qY (ai @qZ (ai @q8 (ai @q9 (ai @wO (ai @wQ (ai @wR (ai @rm @rn))))))))))))))))))) (ai @iz (ai @rA (ai @rB (ai @rD (ai @lC (ai @lD (ai @rE (ai @rF (ai @rG (ai @rH (ai @rJ (ai @rK (ai (ai @rM @wU) (ai @rN (ai @rO (ai @rP (ai @rQ (ai @eH (ai @sr (ai @NT (ai @Ij (ai @Ik (ai @Il (ai @Im (ai @Io (ai @Ip (ai (ai @Iv (ai @Iu @Ir)) (ai @Iw (ai @Iz (ai @IK (ai @IV (ai @IW (ai @Ja (ai @Jb (ai @Jc (ai @Jd (ai @Jf (ai @Jg (ai @Jh (ai @Ji (ai @Jj (ai @Jl (ai @Jm (ai @Jo (ai @Jp (ai @Jq (ai @Jr (ai @Js (ai @Jt (ai @Ju (ai @Jv (ai @Jw (ai @Jx (ai @Jy (ai @JB (ai @JD (ai @JF (ai @JG (ai @JH (ai (ai @JL @JK) (ai @JM (ai @JN (ai @JP (ai @JQ (ai @JR (ai @JS (ai @JT (ai @JV (ai @JW (ai @JX (ai (ai @J8 @J7) (ai (ai @J9 (ai (ai @J2 (ai @J0 @J1)) @JZ)) (ai @Ka (ai @Kc (ai @Kd (ai @Ke (ai (ai @Kf (ai @yG (ai @yH (ai @Ko (ai @Kp (ai @KZ @KY)))))) (ai @Kg (ai (ai @Km (ai @Kh @Kl)) (ai @Kq (ai @Kr (ai @Ks (ai @Ku (ai @Kv (ai @Kw (ai @Ky (ai @Kz (ai @KC (ai @KD (ai @KH (ai @KJ (ai @KN (ai @KQ (ai @KR (ai @K1 (ai @K5 (ai @K6 (ai @K7 (ai @K8 (ai @K9 (ai @La (ai @Lb (ai @Ld (ai @Lg (ai @Lh (ai @Li (ai @Lj (ai @Lk (ai @is_tup (ai @Ln (ai @Lp (ai (ai @Lr @Lq) (ai @Ls (ai @Lw (@JC)))))))))))))))))))))))))))))))))))))))))))))))))))))))))))))))))))))))))))))))))))))))))))))))))))))))))))))))))))))))))))))))))
theorem acH:type_of% (af @jH @jJ):=af @jH @jJ
theorem N6:type_of% (af @NB (af @NK (af @NQ (af @Option.join_some.{0} (af @bP.{0,0} (af @eL.{0,0} (af @List.cons_append.{0} (af @List.nil_append.{0} (af @bv.{0} (af @List.replicate_zero.{0} (af @List.getElem?_cons_zero.{0} (af @List.getElem?_cons_succ.{0} (af @List.set_cons_zero.{0} (af @List.set_cons_succ.{0} (af @cK.{0} (af @List.length_nil.{0} (af @HY (af @H9 (af @Ia (af @Ib (af @Ie (af @Ig (af @Ih (af @true_and (af @et (af @Nat.min_self (af @Nat.zero_min (af @Nat.min_zero (af @eK (af @Bool.or_false (af @Bool.or_true (af @Bool.false_or (af @Bool.true_or (af @gl (af @Bool.not_false (af @Lx (af @Ly (af @Lz (af @LC (af @LK (af @LQ (af @LR (af @Ma (af @Mg (af @Mh (af @Mi (af @Mj (af @Ml (af @Mm (af @Mp (af @Mq (af @Mr (af @Ms (af @Mt (af @Mu (af @Mv (af @Mw (af @Mx (af @My (af @Mz (af @MF (af @MJ (af @MK (af @MN (af @MP (af @MT (af @M3 (af @M4 (af @M5 (af @M6 (af @M7 (af @M8 (af @M9 (af @Nb (af @Nf (af @Ng (af @Nh (af @Ni (af @Nj (af @Nk (af @Nm (af @Np (af @Nq (af @Nr (af @Nt (af @Nu (af @Nv (af @Nx (@Ny))))))))))))))))))))))))))))))))))))))))))))))))))))))))))))))))))))))))))))))))))))))))):=af @NB (af @NK (af @NQ (af @Option.join_some.{0} (af @bP.{0,0} (af @eL.{0,0} (af @List.cons_append.{0} (af @List.nil_append.{0} (af @bv.{0} (af @List.replicate_zero.{0} (af @List.getElem?_cons_zero.{0} (af @List.getElem?_cons_succ.{0} (af @List.set_cons_zero.{0} (af @List.set_cons_succ.{0} (af @cK.{0} (af @List.length_nil.{0} (af @HY (af @H9 (af @Ia (af @Ib (af @Ie (af @Ig (af @Ih (af @true_and (af @et (af @Nat.min_self (af @Nat.zero_min (af @Nat.min_zero (af @eK (af @Bool.or_false (af @Bool.or_true (af @Bool.false_or (af @Bool.true_or (af @gl (af @Bool.not_false (af @Lx (af @Ly (af @Lz (af @LC (af @LK (af @LQ (af @LR (af @Ma (af @Mg (af @Mh (af @Mi (af @Mj (af @Ml (af @Mm (af @Mp (af @Mq (af @Mr (af @Ms (af @Mt (af @Mu (af @Mv (af @Mw (af @Mx (af @My (af @Mz (af @MF (af @MJ (af @MK (af @MN (af @MP (af @MT (af @M3 (af @M4 (af @M5 (af @M6 (af @M7 (af @M8 (af @M9 (af @Nb (af @Nf (af @Ng (af @Nh (af @Ni (af @Nj (af @Nk (af @Nm (af @Np (af @Nq (af @Nr (af @Nt (af @Nu (af @Nv (af @Nx (@Ny))))))))))))))))))))))))))))))))))))))))))))))))))))))))))))))))))))))))))))))))))))))))
noncomputable def uF(c:CT)(g f:String)(ss:List Stmt):Bool:=(two ss).any λs=>au (iK s.2) λa=>(one a.1).any λtg=>au (fU tg) λv=>aW c (.exp (.call g (.cons (.var 1) .nil))) s.1&&aj c (.var 0) v.1&&v.2.1==Str.ofString f&&!cN a.2.1&&aj c (.lst false (.cons (.var 1) .nil)) a.2.1
theorem acI{c:CT}{g f:String}{ss:List Stmt}(h:uF c g f ss=true):∃s1 o n p e pos,ss=[s1,.Assign [.Attribute o n p] e pos]/\aW c (.exp (.call g (.cons (.var 1) .nil))) s1=true/\aj c (.var 0) o=true/\n=Str.ofString f/\cN e=false/\aj c (.lst false (.cons (.var 1) .nil)) e=true:=by unfold uF at h;obtain ⟨s,hs,h⟩:=aP h;obtain ⟨a,ha,h⟩:=aK h;obtain ⟨tg,ht,h⟩:=aP h;obtain ⟨v,hv,h⟩:=aK h;rw[ae,ae,ae,ae,ar,eP]at h;obtain ⟨⟨⟨⟨h1,h2⟩,h3⟩,h4⟩,h5⟩:=h;exact ⟨_,_,_,_,_,_,by rw[jQ hs,ha,cO ht,hv],h1,h2,h3,h4,h5⟩
section
variable {Φ:aa} {P:Program} {w:World} {K:PF} {mg:Str->Option Value} {base:Heap} {k:Nat} {fs:List (String×Nat)} {bt:List String} {cn:List (String×D)} {xs:List (String×Bool)} {ot:OT}
def acJ(Φ:aa)(K:PF)(c:Addr)(g f:String):Sp:=λvs H Q EX=>∃x b dx d F G,vs=[.ref x,b]/\H x=some (.ins c dx [])/\F x/\R K H F G/\Rep K H F d b/\
 (Φ g).t [d] G (λ_ G1=>∀q,G1 q=none->∀H2 F2,Ext H F H2 F2->R K H2 F2 (aL G1 q (.lst [d]))->Q .non (upd H2 x (.ins c dx [(Str.ofString f,.ref q)]))) (PX K H F EX)
theorem acK{C f g:String}{nm qual:Str}{st:Stmt}{fa c:Addr}{fd:FuncData}{N ps:List Str}(B:Bse Φ P w K mg base (CX1 P w) k fs bt cn xs ot)(Fu:Fun K nm qual st fa fd)(hb:Binds K fd ps [])
  (hmg:mg (Str.ofString C)=some (.ref c)) (hns:PySem.W.nsIn K mainGlobals (Str.ofString C)=some (some (.ref c))) (hcl:Cls K c) (hna:NoAttr K c (Str.ofString f)) (M:Mk K c fa)
  (hs:fnB N ps (ao st)=true) (hc:uF (aH N (ao st) fs bt cn xs ot) g f (aF st)=true) (hn:ps.length=2) (hm:N.length=2)
  (hS:∀d G kk E,(Φ C).t [d] G kk E->(Φ g).t [d] G (λ_ G1=>∀q,G1 q=none->kk (.obj C f q) (aL G1 q (.lst [d]))) E):MkoOk Φ P w K mg base (CX1 P w) (k+2) C 1:=by
 refine ⟨c,fa,fd,ps,acJ Φ K c g f,k+1,aE _,hmg,M,hb,?_,?_⟩
 ·obtain ⟨s1,o,n,p,e,pos,eb,c1,c2,en,c3,c4⟩:=acI hc;subst en;refine Fu.okX (uA hs) (λvs H Q E h=>by obtain ⟨x,b,dx,d,F,G,rfl,_⟩:=h;rw[hn];rfl) λcdv A outer s H vs Q EX hr hsp=>?_;obtain ⟨x,b,dx,d,F,G,rfl,hx,fx,r,rb,ht⟩:=hsp;have St:Stat Φ (CX1 P w) k (aH N (ao st) fs bt cn xs ot) (PX K H F EX) ⟨H,F⟩ (cL (CX1 P w) P w K mg base N qual (ao st) fa cdv A outer s H EX):=HR B hs hr λx G' H' F' hx e r'=>hx H' F' e r';rw[eb];refine ⟨_,Bl (HN St _ c1) (vL (Wr (az _ St c2) (az _ St c4) (uz c3 _ _ _))),?_⟩;refine ⟨[some (.ref x),some d],F,G,Ext.refl _ _,?_,r,?_⟩
  ·have e2:L2.start N [V.ref x,b]=[some (V.ref x),some b]:=by
    unfold L2.start;rw[show N.length - [V.ref x,b].length=0 by rw[hm];rfl];rfl
   rw[e2];exact ⟨_,_,rfl,λd' hd=>⟨_,rfl,by cases hd;rfl⟩,_,_,rfl,λd' hd=>⟨_,rfl,by cases hd;exact rb⟩,rfl⟩
  ·show (Φ g).t [d] G _ _;refine Spec.mono ht (λd' G1 q=>?_) λ_ _ z=>z;intro H1 F1 σ1 x1 he1 r1;refine aO (x:=.lst false (.cons (.var 1) .nil)) (E:=PX K H F EX) (ρ:=[some (.ref x),some d]) (G:=G1) (W:=λy G2=>∃q',y=.ref q'/\G1 q'=none/\G2=aL G1 q' (.lst [d])) x1 he1 r1 ?_ ?_
   ·show _/\mk false [d] G1 _;exact ⟨show 1<=sz by decide,λq' hq'=>⟨q',rfl,hq',rfl⟩⟩
   ·rintro y G2 H2 F2 v ⟨q',rfl,hq',rfl⟩ e2 x2 he2 r2 rv;refine aO (x:=.var 0) (E:=PX K H F EX) (ρ:=[some (.ref x),some d]) (W:=λy G3=>y=.ref x/\G3=aL G1 q' (.lst [d])) e2 he2 r2 ⟨rfl,rfl⟩ ?_;rintro y G3 H3 F3 v3 ⟨rfl,rfl⟩ e3 x3 he3 r3 rv3;have ev:v=.ref q':=rv;have ev3:v3=.ref x:=rv3;subst ev ev3;have hx3:H3 x=some (.ins c dx []):=(e3.keep x fx).trans hx;refine ⟨x,c,dx,[],rfl,hx3,hcl,hna,by decide,?_⟩;exact q q' hq' H3 F3 e3 r3
 ·intro vs H Q E hl x dx hx hdx hne;obtain ⟨hlen,F,G,ds,r,rs,ht⟩:=hl;obtain ⟨d,rfl⟩:=cP (rs.length.trans hlen);obtain ⟨b,rfl,rb⟩:=bu rs;have hx1:(upd H dx (.own x)) x=none:=by rw[aG (Ne.symm hne)];exact hx
  have r1:=r.newO (o:=.own x) hdx;have e1:=wB (o:=.own x) r hdx;have r2:=r1.newO (o:=.ins c dx []) hx1;have e2:=wB (o:=.ins c dx []) r1 hx1;have e12:=e1.trans e2;refine ⟨x,b,dx,d,_,G,rfl,bW,.inr rfl,r2,Rep.ext e12 rb,?_⟩;refine Spec.mono (hS d G _ _ ht) (λd' G1 q=>λq' hq' H2 F2 x2 r2'=>⟨rfl,?_⟩) λxn G' z H2 F2 x2 r2'=>z H2 F2 (e12.trans x2) r2';have hx2:H2 x=some (.ins c dx []):=(x2.keep x (.inr rfl)).trans bW;have e3:=e12.trans x2;refine q q' hq' (upd H2 x (.ins c dx [(Str.ofString f,.ref q')])) F2 (.ref x) ⟨e3.sub,λa ha=>?_,λa ys ha=>?_,λa o u ha=>?_⟩ (r2'.setO hx2) ⟨x,c,dx,rfl,⟨x2.sub x (.inr rfl),bW⟩,hns⟩
  ·rw[aG λe=>r.notF hx (by rw[<-e];exact ha)];exact e3.keep a ha
  ·rw[aG (aU ha hx)];exact e3.tups a ys ha
  ·rw[aG (aU ha hx)];exact e3.frzs a o u ha
end
section
local macro_rules|`(#[])=>`(.nil)|`(#[$x])=>`(.cons $x .nil)|`(#[$x,$y,*])=>`(.cons $x #[$y,*])
local macro_rules|`(-$x)=>`(.var $x)
local macro_rules|`(¬$x)=>`(.cst (.int $x))
local macro_rules|`(!$x)=>`(.cst (.str $x))
local macro_rules|`($x<|$y)=>`(.call $x $y)
noncomputable def j5:Sxs:=#[.ite (.boo false (.not (.val (.isi (-0) "str"))) #[.not (.val (.chn .LtE .LtE (¬1) (.bcl .len #[-0]) (.glb "LONGEST_DEED" (.int 8))))]) #[.ret (.cst (.bl false))] #[],.ret (.bcl .all #[.comp true (.cmp .In (-0) (.glb "LETTERS" (.str [97,98,99,100,101,102,103,104,105,106,107,108,109,110,111,112,113,114,115,116,117,118,119,120,121,122]))) (.nm 0) (.seq (-0)) .yes ["sign"] [none]])]
noncomputable def j6:Sxs:=#[.ite (.boo false (.not (.val (.isi (-2) "str"))) #[.val (.cmp .NotEq (.bcl .len #[-2]) (-1))]) #[.ret (.cst (.bl false))] #[],.ret (.bcl .all #[.comp true (.cmp .In (-0) (-1)) (.nm 0) (.seq (-2)) .yes ["sign","signs"] [none,some 0]])]
noncomputable def lZ:Sxs:=#[.ret ("is_text_of"<|#[![48,49,42],-0,-1])]
noncomputable def fY:Sxs:=#[.ite (.boo false (.not (.val (.isi (-1) "tuple"))) #[.val (.cmp .NotEq (.bcl .len #[-1]) (¬2))]) #[.ret (.cst (.bl false))] #[],.ret (.boo true ("is_form"<|#[-0,.idx (-1) (¬0)]) #["is_deed"<|#[.idx (-1) (¬1)]])]
noncomputable def mj:Sxs:=#[.ret (.boo true (.isi (-0) "int") #[.not (.isi (-0) "bool")])]
noncomputable def mq:Sxs:=#[.ret (.boo true ("is_whole"<|#[-0]) #[.chn .LtE .LtE (¬1) (-0) (.glb "WIDEST" (.int 6))])]
noncomputable def fZ:Sxs:=#[.ite (.boo false (.not (.val (.isi (-0) "tuple"))) #[.val (.cmp .NotEq (.bcl .len #[-0]) (¬2))]) #[.ret (.cst (.bl false))] #[],.asg (.tp #[.nm 1,.nm 2]) (-0),.ite (.boo false (.not (.val ("is_width"<|#[-1]))) #[.not (.val (.isi (-2) "tuple")),.val (.cmp .Gt (.bcl .len #[-2]) (.glb "MOST_ROWS" (.int 12)))]) #[.ret (.cst (.bl false))] #[],.ret (.bcl .all #[.comp true ("is_row"<|#[-1,-0]) (.nm 0) (.seq (-2)) .yes ["row","width"] [none,some 1]])]
noncomputable def iT:Sxs:=#[.ite (.not (.val ("is_book"<|#[-0]))) #[.rse "NoBook" #[]] #[]]
def yL:Sxs:=#[.set (-0) (¬2) (¬0),.ret (-0)]
noncomputable def yM:Sxs:=#[.ite (.val (.cmp .GtE (-0) (.bin .Pow true (¬10) (¬18)))) #[.ret (-0)] #[],.asg (.nm 2) (.bin .Mod true (.bin .Add true (.bin .Add true (.bin .Mult true (.bin .Mod true (-0) (¬1000000007)) (¬69069)) (.bin .Mult true (-1) (¬40503))) (¬977)) (¬2147483629)),.asg (.nm 3) (.bin .Mod true (.bin .Add true (.bin .Add true (.bin .Mult true (-2) (-2)) (.bin .Mult true (-1) (¬7919))) (.bin .Mod true (-0) (¬65537))) (¬2147483587)),.asg (.nm 4) (.bin .Mod true (.bin .Add true (.bin .Add true (.bin .Mult true (-3) (-3)) (.bin .Mult true (-2) (¬31))) (¬5)) (¬2147483563)),.ret (.bin .Add true (.bin .Mult true (.bin .Add true (.bin .Mult true (-2) (¬2147483659)) (-3)) (¬2147483693)) (-4))]
noncomputable def yN:Sxs:=#[.ite (.val (.cmp .Lt (.idx (-0) (¬2)) (-1))) #[.asg (.nm 2) (.idx (-0) (¬1)),.asg (.nm 3) (¬0),.ite (.val (.cmp .Lt (-2) (.bcl .len #[.idx (-0) (¬0)]))) #[.asg (.nm 3) (.idx (.idx (-0) (¬0)) (-2))] #[.ite (.val (.cmp .Gt (.bcl .len #[.idx (-0) (¬0)]) (¬0))) #[.asg (.nm 3) (.bin .Mod true (.idx (.idx (-0) (¬0)) (.bin .Mod true (.bin .Add true (.bin .Mult true (-2) (¬5)) (¬3)) (.bcl .len #[.idx (-0) (¬0)]))) (.bin .Add true (.bin .Pow true (¬10) (¬17)) (-2)))] #[]],.set (-0) (¬1) (.bin .Add true (-2) (¬1)),.set (-0) (¬2) ("_law_spread"<|#[-3,-2])] #[],.asg (.nm 4) (.bin .Mod true (.idx (-0) (¬2)) (-1)),.set (-0) (¬2) (.bin .FloorDiv true (.idx (-0) (¬2)) (-1)),.ret (-4)]
noncomputable def yO:Sxs:=#[.ret (.mth .join (![]) #[.comp true (.idx (-1) ("_law_take"<|#[-2,.bcl .len #[-1]])) (.nm 0) (.rng (-1)) .yes ["at","signs","pen"] [none,some 2,some 0]])]
noncomputable def yP:Sxs:=#[.asg (.nm 2) (.lst true #[![97],![103,111],![115,116,97,121],![97,98,99,100,101,102,103,104],![110,111,110,101],![121,101,115],![105,110],![111,117,116],![107,101,101,112],![119,111,114,100],![122,122]]),.asg (.nm 3) ("_law_take"<|#[-0,¬11]),.asg (.nm 4) (.comp true (.idx (-1) (.bin .Mod true (.bin .Add true (-2) (.bin .Mult true (¬3) (-0))) (¬11))) (.nm 0) (.rng (.bin .Add true (¬1) ("_law_take"<|#[-0,-1]))) .yes ["k","some","turn"] [none,some 2,some 3]),.ite (.val (.cmp .Eq ("_law_take"<|#[-0,¬3]) (¬0))) #[.asg (.nm 5) (![97,98,99,100,101,102,103,104,105,106,107,108,109,110,111,112,113,114,115,116,117,118,119,120,121,122]),.asg (.nm 4) (.comp true ("_law_signs"<|#[-1,.bin .Add true (¬1) ("_law_take"<|#[-1,¬8]),-2]) (.nm 0) (.seq (-4)) .yes ["one","pen","letters"] [none,some 0,some 5])] #[],.ret (-4)]
noncomputable def yQ:Sxs:=#[.ret ("_law_signs"<|#[-0,-1,.idx (.lst true #[![48,49,42],![48,49,42,42],![48,49,42,42,42,42],![48,42],![48,49]]) ("_law_take"<|#[-0,¬5])])]
noncomputable def yR:Sxs:=#[.asg (.nm 2) (![]),.for_ (.nm 3) (.seq (-1)) #[.ite (.val (.cmp .Eq ("_law_take"<|#[-0,¬3]) (¬0))) #[.asg (.nm 3) (![42])] #[],.asg (.nm 2) (.bin .Add true (-2) (-3))],.ret (-2)]
noncomputable def yS:Sxs:=#[.asg (.nm 2) (![]),.for_ (.nm 3) (.seq (-1)) #[.ite (.boo true (.val (.cmp .Eq (-3) (![42]))) #[.val (.cmp .Eq ("_law_take"<|#[-0,¬2]) (¬0))]) #[.asg (.nm 3) (.idx (![48,49]) ("_law_take"<|#[-0,¬2]))] #[],.asg (.nm 2) (.bin .Add true (-2) (-3))],.ret (-2)]
noncomputable def yU:Sxs:=#[.asg (.nm 3) ("_law_take"<|#[-0,¬7]),.ite (.boo false (.val (.cmp .Eq (-2) (.lst true #[]))) #[.val (.cmp .Lt (-3) (¬2))]) #[.ret ("_law_form"<|#[-0,-1])] #[],.asg (.nm 4) (.idx (-2) ("_law_take"<|#[-0,.bcl .len #[-2]])),.ite (.val (.cmp .Eq (-3) (¬2))) #[.ret (-4)] #[],.ite (.val (.cmp .Lt (-3) (¬5))) #[.asg (.nm 5) ("_law_take"<|#[-0,-1]),.ret (.bin .Add true (.bin .Add true (.slc true (-4) .no (.ob (-5))) (.idx (![48,49,42]) ("_law_take"<|#[-0,¬3]))) (.slc true (-4) (.ob (.bin .Add true (-5) (¬1))) .no))] #[],.ite (.val (.cmp .Eq (-3) (¬5))) #[.ret ("_law_within"<|#[-0,-4])] #[],.ret ("_law_wider"<|#[-0,-4])]
noncomputable def yV:Sxs:=#[.asg (.nm 3) (.bin .Add true (¬1) ("_law_take"<|#[-0,-1])),.asg (.nm 4) ("_law_deeds_of"<|#[-0,¬3]),.asg (.nm 5) (.lst false #[]),.asg (.nm 6) (.lst false #[]),.for_ (.nm 7) (.rng ("_law_take"<|#[-0,.bin .Add true (-2) (¬1)])) #[.exp (.mth .append (-5) #["_law_form_like"<|#[-0,-3,-5]]),.exp (.mth .append (-6) #[.tup #[.idx (-5) (.neg (¬1)),.idx (-4) ("_law_take"<|#[-0,.bcl .len #[-4]])]])],.ret (.tup #[-3,.bcl .tuple #[-6]])]
noncomputable def yW:Sxs:=#[.asg (.nm 1) (.lst false #[.isx (-0) "Full" ["NoBook","NoMatch","NoWord","NoRow","NoForm","Full","Nothing"],.isx (-0) "NoBook" ["NoBook","NoMatch","NoWord","NoRow","NoForm","Full","Nothing"],.isx (-0) "NoForm" ["NoBook","NoMatch","NoWord","NoRow","NoForm","Full","Nothing"]]),.asg (.nm 1) (.bin .Add false (-1) (.lst true #[.isx (-0) "NoJoin" ["NoBook","NoMatch","NoWord","NoRow","NoForm","Full","Nothing"],.isx (-0) "NoLine" ["NoBook","NoMatch","NoWord","NoRow","NoForm","Full","Nothing"],.isx (-0) "NoMatch" ["NoBook","NoMatch","NoWord","NoRow","NoForm","Full","Nothing"]])),.asg (.nm 1) (.bin .Add false (-1) (.lst true #[.isx (-0) "NoOrder" ["NoBook","NoMatch","NoWord","NoRow","NoForm","Full","Nothing"],.isx (-0) "NoRow" ["NoBook","NoMatch","NoWord","NoRow","NoForm","Full","Nothing"],.isx (-0) "NoText" ["NoBook","NoMatch","NoWord","NoRow","NoForm","Full","Nothing"]])),.asg (.nm 1) (.bin .Add false (-1) (.lst true #[.isx (-0) "NoWord" ["NoBook","NoMatch","NoWord","NoRow","NoForm","Full","Nothing"],.isx (-0) "Nothing" ["NoBook","NoMatch","NoWord","NoRow","NoForm","Full","Nothing"],.isx (-0) "TooMany" ["NoBook","NoMatch","NoWord","NoRow","NoForm","Full","Nothing"]])),.exp (.mth .append (-1) #[.isx (-0) "Turned" ["NoBook","NoMatch","NoWord","NoRow","NoForm","Full","Nothing"]]),.ite (.boo false (.val (.cmp .NotEq (.mth .count (-1) #[.cst (.bl true)]) (¬1))) #[.not (.val (.isx (-0) "SieveError" ["NoBook","NoMatch","NoWord","NoRow","NoForm","Full","Nothing"])),.not (.val (.isx (-0) "ValueError" ["NoBook","NoMatch","NoWord","NoRow","NoForm","Full","Nothing"]))]) #[.ret (![111,100,100])] #[],.asg (.nm 2) (.lst true #[![102,117,108,108],![98,111,111,107],![102,111,114,109],![106,111,105,110],![108,105,110,101],![109,97,116,99,104],![111,114,100,101,114],![114,111,119],![116,101,120,116],![119,111,114,100],![110,111,116,104,105,110,103],![109,97,110,121]]),.ret (.idx (.bin .Add true (-2) (.lst true #[![116,117,114,110,101,100]])) (.mth .index (-1) #[.cst (.bl true)]))]
noncomputable def yX:Sxs:=#[.asg (.nm 1) (.lcl false .list #[.slc true (-0) .no (.ob (¬12))]),.for_ (.tp #[.nm 2,.nm 3]) (.enm (.slc true (-0) (.ob (¬12)) (.ob (¬63)))) #[.set (-1) (.bin .Mod true (-2) (¬12)) (.bin .Add true (.idx (-1) (.bin .Mod true (-2) (¬12))) (-3))],.ret (.lst false #[.frz (-1),¬0,¬0])]
noncomputable def yZ:Sxs:=#[.asg (.nm 2) ("_law_form"<|#[-0,-1]),.asg (.nm 3) ("_law_take"<|#[-0,-1]),.asg (.nm 4) (.idx (.lst true #[![50],![],![42,42],![97],![95]]) ("_law_take"<|#[-0,¬5])),.ret (.lst true #[.bin .Add true (-2) (![42]),.slc true (-2) (.ob (¬1)) .no,.bin .Add true (.bin .Add true (.slc true (-2) .no (.ob (-3))) (-4)) (.slc true (-2) (.ob (.bin .Add true (-3) (¬1))) .no),.cst .non,¬7,.lst true #[-2],.tup #[-2],![]])]
noncomputable def my:Sxs:=#[.asg (.nm 2) (![]),.for_ (.tp #[.nm 3,.nm 4]) (.zip (-0) (-1)) #[.ite (.val (.cmp .Eq (-3) (![42]))) #[.aug 2 .Add (-4)] #[.ite (.boo false (.val (.cmp .Eq (-4) (![42]))) #[.val (.cmp .Eq (-4) (-3))]) #[.aug 2 .Add (-3)] #[.ret (.cst .non)]]],.ret (-2)]
noncomputable def mz:Sxs:=#[.for_ (.tp #[.nm 2,.nm 3]) (.enm (-0)) #[.ite (.val (.cmp .IsNot ("both"<|#[.idx (-3) (¬0),-1]) (.cst .non))) #[.ret (-2)] #[]],.ret (.cst .non)]
noncomputable def mC:Sxs:=#[.asg (.nm 2) ("first_touching"<|#[-0,-1]),.ite (.val (.cmp .Is (-2) (.cst .non))) #[.ret (.cst .non)] #[],.for_ (.tp #[.nm 3,.nm 4]) (.enm (.idx (.idx (-0) (-2)) (¬0))) #[.ite (.boo true (.val (.cmp .Eq (.idx (-1) (-3)) (![42]))) #[.val (.cmp .NotEq (-4) (![42]))]) #[.ret (-3)] #[]],.ret (.cst .non)]
noncomputable def mD:Sxs:=#[.ret (.bin .Add true (.bin .Add true (.slc true (-0) .no (.ob (-1))) (-2)) (.slc true (-0) (.ob (.bin .Add true (-1) (¬1))) .no))]
noncomputable def j7:Sxs:=#[.for_ (.nm 3) (.seq (-1)) #[.asg (.nm 4) ("splitting_place"<|#[-3,-2]),.ite (.val (.cmp .IsNot (-4) (.cst .non))) #[.asg (.nm 5) ("grown"<|#[-0,-1,"with_sign"<|#[-2,-4,![48]]]),.asg (.nm 6) ("grown"<|#[-0,-1,"with_sign"<|#[-2,-4,![49]]]),.ret (.tup #[![115,112,108,105,116],-4,-5,-6])] #[]],.ret (.bin .Add true (.tup #[-0]) (.bcl .tuple #[.comp true ("first_touching"<|#[-0,-1]) (.nm 0) (.seq (-1)) .yes ["rows","box"] [none,some 2]]))]
noncomputable def mF:Sxs:=#[.ret (.boo true (.isi (-2) "tuple") #[.cmp .Eq (.bcl .len #[-2]) (.bin .Add true (-1) (¬1)),.cmp .Eq (.idx (-2) (¬0)) (-0)])]
noncomputable def mG:Sxs:=#[.ret (.boo true ("is_whole"<|#[-1]) #[.chn .LtE .Lt (¬0) (-1) (-0)])]
noncomputable def iU:Sxs:=#[.ite (.not (.val ("is_named"<|#[![115,112,108,105,116],¬3,-1]))) #[.ret (.lst true #[.tup #[-0,-1]])] #[],.asg (.nm 2) (.idx (-1) (¬1)),.ite (.boo false (.not (.val ("is_place"<|#[.bcl .len #[-0],-2]))) #[.val (.cmp .NotEq (.idx (-0) (-2)) (![42]))]) #[.ret (.cst .non)] #[],.asg (.nm 3) ("leaves"<|#["with_sign"<|#[-0,-2,![48]],.idx (-1) (¬2)]),.asg (.nm 4) ("leaves"<|#["with_sign"<|#[-0,-2,![49]],.idx (-1) (¬3)]),.ite (.boo false (.val (.cmp .Is (-3) (.cst .non))) #[.val (.cmp .Is (-4) (.cst .non))]) #[.ret (.cst .non)] #[],.ret (.bin .Add true (-3) (-4))]
noncomputable def mH:Sxs:=#[.exp ("need_book"<|#[-0]),.exp ("need_book"<|#[-1]),.ite (.val (.cmp .NotEq (.idx (-0) (¬0)) (.idx (-1) (¬0)))) #[.rse "NoMatch" #[.idx (-0) (¬0),.idx (-1) (¬0)]] #[]]
noncomputable def j8:Sxs:=#[.ite (.val (.cmp .Is (-1) (.cst .non))) #[.ret (.cst .non)] #[],.ret (.idx (.idx (.idx (-0) (¬1)) (-1)) (¬1))]
noncomputable def mJ:Sxs:=#[.ret (.cmp .Eq ("deed_of"<|#[-0,.idx (-2) (¬1)]) ("deed_of"<|#[-1,.idx (-2) (¬2)]))]
def mK:Sxs:=#[.ret (.bin .Mult true (![42]) (-0))]
noncomputable def mL:Sxs:=#[.exp ("need_two_books"<|#[-0,-1]),.asg (.nm 2) ("stars"<|#[.idx (-0) (¬0)]),.asg (.nm 3) ("grown"<|#[![115,97,109,101],.lst true #[.idx (-0) (¬1),.idx (-1) (¬1)],-2]),.asg (.nm 4) (.comp true ("least"<|#[-0]) (.tp #[.nm 0,.nm 1]) (.seq ("leaves"<|#[-2,-3])) (.not (.val ("same_deeds"<|#[-2,-3,-1]))) ["part","leaf","one","other"] [none,none,some 0,some 1]),.ite (.val (-4)) #[.ret (.tup #[![112,97,114,116,101,100],.bcl .min #[-4]])] #[],.ret (.tup #[![97,108,105,107,101],-3])]
noncomputable def mO:Sxs:=#[.asg (.tp #[.nm 2,.nm 3]) ("alike"<|#[-0,-1]),.ret (.ife (.val (.cmp .Eq (-2) (![112,97,114,116,101,100]))) (-3) (.cst .non))]
noncomputable def gQ:Sxs:=#[.exp ("need_book"<|#[-0]),.ite (.not (.val ("is_place"<|#[.bcl .len #[.idx (-0) (¬1)],-1]))) #[.rse "NoRow" #[.bcl .len #[.idx (-0) (¬1)]]] #[]]
noncomputable def iV:Sxs:=#[.exp ("need_row"<|#[-0,-1]),.asg (.tp #[.nm 2,.nm 3]) (-0),.ret (.tup #[-2,.bin .Add true (.slc true (-3) .no (.ob (-1))) (.slc true (-3) (.ob (.bin .Add true (-1) (¬1))) .no)])]
noncomputable def mQ:Sxs:=#[.ite (.val (.cmp .Is (-1) (.cst .non))) #[.ret (.cmp .Is (-0) (.cst .non))] #[],.ite (.boo false (.val (.isi (-1) "bool")) #[.val (.isi (-0) "bool")]) #[.ret (.boo true (.isi (-1) "bool") #[.isi (-0) "bool",.cmp .Eq (-0) (-1)])] #[],.ite (.val (.isi (-1) "int")) #[.ret (.boo true (.isi (-0) "int") #[.cmp .Eq (-0) (-1)])] #[],.ite (.val (.isi (-1) "str")) #[.ret (.boo true (.isi (-0) "str") #[.cmp .Eq (-0) (-1)])] #[],.ite (.boo false (.val (.cmp .NotEq (.isi (-1) "tuple") (.isi (-0) "tuple"))) #[.val (.cmp .NotEq (.isi (-1) "list") (.isi (-0) "list"))]) #[.ret (.cst (.bl false))] #[],.ite (.val (.cmp .NotEq (.bcl .len #[-0]) (.bcl .len #[-1]))) #[.ret (.cst (.bl false))] #[],.ret (.cmp .NotIn (.cst (.bl false)) (.comp true ("_law_same"<|#[-0,-1]) (.tp #[.nm 0,.nm 1]) (.zip (-0) (-1)) .yes ["one","other"] [none,none]))]
def mR:Sxs:=#[.ret (.idx (.fld "Sieve" "books" (-0)) (.neg (¬1)))]
noncomputable def za:Sxs:=#[.asg (.nm 1) (.cst .non),.tryx (.mko "Sieve" #[-0]) "SieveError" (.bind 2 1) ["NoBook","NoMatch","NoWord","NoRow","NoForm","Full","Nothing"],.ret (.boo true (.cmp .IsNot (-1) (.cst .non)) #[.cmp .Eq ("_law_refusal"<|#[-1]) (![98,111,111,107])])]
noncomputable def iW:Sxs:=#[.ite (.val (.cmp .Eq (.bcl .len #[.fld "Sieve" "books" (-0)]) (¬1))) #[.rse "Nothing" #[]] #[],.asg (.nm 1) (.pp0 (.fld "Sieve" "books" (-0))),.ret ("parting_word"<|#[-1,.mcl "Sieve.book" "Sieve" "book" (-0) #[]])]
noncomputable def mU:Sxs:=#[.asg (.nm 2) (.mcl "Sieve.book" "Sieve" "book" (-0) #[]),.exp (.mth .append (.fld "Sieve" "books" (-0)) #[.tup #[.idx (-2) (¬0),-1]]),.ret ("parting_word"<|#[-2,.mcl "Sieve.book" "Sieve" "book" (-0) #[]])]
noncomputable def iY:Sxs:=#[.exp ("need_row"<|#[.mcl "Sieve.book" "Sieve" "book" (-0) #[],-1]),.exp ("need_row"<|#[.mcl "Sieve.book" "Sieve" "book" (-0) #[],-2]),.asg (.nm 3) (.idx (.idx (.mcl "Sieve.book" "Sieve" "book" (-0) #[]) (¬1)) (-1)),.asg (.nm 4) (.idx ("without"<|#[.mcl "Sieve.book" "Sieve" "book" (-0) #[],-1]) (¬1)),.ret (.mcl "Sieve.turn" "Sieve" "turn" (-0) #[.bin .Add true (.bin .Add true (.slc true (-4) .no (.ob (-2))) (.tup #[-3])) (.slc true (-4) (.ob (-2)) .no)])]
noncomputable def iZ:Sxs:=#[.ret (.mcl "Sieve.turn" "Sieve" "turn" (-0) #[.idx ("without"<|#[.mcl "Sieve.book" "Sieve" "book" (-0) #[],-1]) (¬1)])]
noncomputable def jb:Sxs:=#[.asg (.tp #[.nm 4,.nm 5]) (.mcl "Sieve.book" "Sieve" "book" (-0) #[]),.ite (.not (.val ("is_place"<|#[.bin .Add true (.bcl .len #[-5]) (¬1),-1]))) #[.rse "NoRow" #[.bcl .len #[-5]]] #[],.ite (.boo false (.not (.val ("is_form"<|#[-4,-2]))) #[.not (.val ("is_deed"<|#[-3]))]) #[.rse "NoForm" #[-4]] #[],.ite (.val (.cmp .GtE (.bcl .len #[-5]) (.glb "MOST_ROWS" (.int 12)))) #[.rse "Full" #[.glb "MOST_ROWS" (.int 12)]] #[],.ret (.mcl "Sieve.turn" "Sieve" "turn" (-0) #[.bin .Add true (.bin .Add true (.slc true (-5) .no (.ob (-1))) (.tup #[.tup #[-2,-3]])) (.slc true (-5) (.ob (-1)) .no)])]
noncomputable def gb:Sxs:=#[.ite (.val (.cmp .Eq (-1) (![112,117,116]))) #[.ret (.mcl "Sieve.put" "Sieve" "put" (-0) #[.idx (-2) (¬0),.idx (-2) (¬1),.idx (-2) (¬2)])] #[],.ite (.val (.cmp .Eq (-1) (![111,117,116]))) #[.ret (.mcl "Sieve.out" "Sieve" "out" (-0) #[.idx (-2) (¬0)])] #[],.ite (.val (.cmp .Eq (-1) (![109,111,118,101]))) #[.ret (.mcl "Sieve.move" "Sieve" "move" (-0) #[.idx (-2) (¬0),.idx (-2) (¬1)])] #[],.ret (.mcl "Sieve.back" "Sieve" "back" (-0) #[])]
noncomputable def uG:Sxs:=#[.asg (.nm 3) (.cst .non),.tryx ("_law_do"<|#[-0,-1,-2]) "SieveError" (.bind 4 3) ["NoBook","NoMatch","NoWord","NoRow","NoForm","Full","Nothing"],.ite (.val (.cmp .Is (-3) (.cst .non))) #[.ret (![116,111,108,100])] #[],.ret ("_law_refusal"<|#[-3])]
noncomputable def zb:Sxs:=#[.asg (.tp #[.nm 3,.nm 4]) (-2),.asg (.nm 5) (.bcl .len #[-4]),.asg (.nm 6) ("_law_take"<|#[-0,.bin .Pow true (¬10) (¬17)]),.asg (.nm 7) ("_law_odd_forms"<|#[-0,-3]),.asg (.nm 8) (.lst true #[![],![65],![97,32,98],![97,98,99,100,101,102,103,104,105],.cst .non,¬3,.lst true #[![97]],![97,10],![97,49]]),.asg (.nm 9) (.idx (-8) ("_law_take"<|#[-0,¬9])),.for_ (.nm 10) (.seq (.lst true #[.neg (¬1),.bin .Add true (-5) (¬1),.bin .Add true (.bin .Add true (-5) (¬1)) (-6),.bin .Sub true (.neg (¬1)) (-6),.cst (.bl true),.cst (.bl false),.cst .non,![48],.tup #[¬0]])) #[.ite (.boo false (.val (.cmp .NotEq ("_law_told"<|#[-1,![112,117,116],.tup #[-10,.bin .Mult true (![42]) (-3),![97]]]) (![114,111,119]))) #[.val (.cmp .NotEq ("_law_told"<|#[-1,![111,117,116],.tup #[-10]]) (![114,111,119]))]) #[.ret (.cst (.bl false))] #[],.ite (.boo false (.val (.cmp .NotEq ("_law_told"<|#[-1,![112,117,116],.tup #[-10,.idx (-7) (¬0),-9]]) (![114,111,119]))) #[.val (.cmp .NotEq ("_law_told"<|#[-1,![109,111,118,101],.tup #[-10,¬0]]) (![114,111,119]))]) #[.ret (.cst (.bl false))] #[],.ite (.val (.cmp .NotEq ("_law_told"<|#[-1,![109,111,118,101],.tup #[¬0,-10]]) (![114,111,119]))) #[.ret (.cst (.bl false))] #[]],.ite (.boo false (.val (.cmp .NotEq ("_law_told"<|#[-1,![111,117,116],.tup #[-5]]) (![114,111,119]))) #[.val (.cmp .NotEq ("_law_told"<|#[-1,![109,111,118,101],.tup #[-5,¬0]]) (![114,111,119]))]) #[.ret (.cst (.bl false))] #[],.ite (.boo false (.val (.cmp .NotEq ("_law_told"<|#[-1,![109,111,118,101],.tup #[¬0,-5]]) (![114,111,119]))) #[.val (.cmp .NotEq ("_law_told"<|#[-1,![98,97,99,107],.tup #[]]) (![110,111,116,104,105,110,103]))]) #[.ret (.cst (.bl false))] #[],.asg (.nm 11) ("_law_take"<|#[-0,.bin .Add true (-5) (¬1)]),.for_ (.nm 12) (.seq (-7)) #[.ite (.val (.cmp .NotEq ("_law_told"<|#[-1,![112,117,116],.tup #[-11,-12,![97]]]) (![102,111,114,109]))) #[.ret (.cst (.bl false))] #[]],.for_ (.nm 13) (.seq (-8)) #[.ite (.val (.cmp .NotEq ("_law_told"<|#[-1,![112,117,116],.tup #[-11,.bin .Mult true (![42]) (-3),-13]]) (![102,111,114,109]))) #[.ret (.cst (.bl false))] #[]],.ret (.boo false (.cmp .Lt (-5) (¬12)) #[.cmp .Eq ("_law_told"<|#[-1,![112,117,116],.tup #[-11,.bin .Mult true (![42]) (-3),![97]]]) (![102,117,108,108])])]
noncomputable def zc:Sxs:=#[.asg (.nm 1) ("_law_open"<|#[-0]),.for_ (.nm 2) (.rng (¬4)) #[.asg (.tp #[.nm 3,.nm 4]) ("_law_book"<|#["_law_anew"<|#[-1],¬6,¬6]),.ite (.val (.cmp .Eq (-2) (¬3))) #[.asg (.nm 4) (.slc true (.bin .Add true (-4) (.bin .Mult true (.tup #[.tup #[.bin .Mult true (![42]) (-3),![97]]]) (¬12))) .no (.ob (¬12)))] #[],.asg (.nm 5) (.mko "Sieve" #[.tup #[-3,-4]]),.asg (.nm 6) (.lst true #[.cst .non,.tup #[-3,.lcl true .list #[-4]],.lst true #[-3,-4],.tup #[¬7,.tup #[]],.tup #[-3,-4,.tup #[]],.tup #[-3,.bin .Add true (-4) (.tup #[.tup #[]])]]),.for_ (.nm 7) (.seq (.bin .Add true (-6) (.lst true #[.tup #[.cst (.bl true),.tup #[]],.tup #[-3,.bin .Mult true (.tup #[.tup #[.bin .Mult true (![42]) (-3),![97]]]) (¬13)]]))) #[.ite (.not (.val ("_law_no_sieve"<|#[-7]))) #[.ret (.cst (.bl false))] #[]],.ite (.boo false (.not (.val ("_law_refusals_right"<|#[-1,-5,.tup #[-3,-4]]))) #[.not (.val ("_law_same"<|#[.mcl "Sieve.book" "Sieve" "book" (-5) #[],.tup #[-3,-4]]))]) #[.ret (.cst (.bl false))] #[],.ite (.val (.cmp .Lt (.bcl .len #[-4]) (¬12))) #[.ite (.val (.cmp .NotEq ("_law_told"<|#[-5,![112,117,116],.tup #[.bcl .len #[-4],.bin .Mult true (![42]) (-3),![97,98,99,100,101,102,103,104]]]) (![116,111,108,100]))) #[.ret (.cst (.bl false))] #[],.ite (.not (.val ("_law_same"<|#[.mcl "Sieve.book" "Sieve" "book" (-5) #[],.tup #[-3,.bin .Add true (-4) (.tup #[.tup #[.bin .Mult true (![42]) (-3),![97,98,99,100,101,102,103,104]]])]]))) #[.ret (.cst (.bl false))] #[],.ite (.boo false (.val (.cmp .NotEq ("_law_told"<|#[-5,![98,97,99,107],.tup #[]]) (![116,111,108,100]))) #[.val (.cmp .NotEq ("_law_told"<|#[-5,![98,97,99,107],.tup #[]]) (![110,111,116,104,105,110,103]))]) #[.ret (.cst (.bl false))] #[]] #[]],.ret (.cst (.bl true))]
end
end RF
local macro_rules | `(tactic| simp_arith [$l,*] $[$c:location]?) => `(tactic| simp -implicitDefEqProofs only [↓RF.acH, ↓RF.N5, RF.N6, RF.env0, RF.ends, String.reduceBEq, $l,*] $[$c:location]?)
local macro_rules | `(tactic| simp_arith! [$l,*] $[$c:location]?) => `(tactic| simp -implicitDefEqProofs only [↓RF.N5, RF.N6, RF.env0, RF.ends, String.reduceBEq, $l,*] $[$c:location]?)
local macro_rules | `(tactic| simp_all_arith [$l,*]) => `(tactic| simp -implicitDefEqProofs only [RF.env0, RF.ends, List.map_cons, List.map_nil, List.cons_append, List.nil_append, List.replicate_succ, List.replicate_zero, $l,*])
namespace RF
open PySem L2
theorem jc{i j:Int}(h:-(2 ^ 64) < j/\j < 2 ^ 64):CMul i j:=.inr h
theorem zf{i j:Int}(h:-(2 ^ 64) < i/\i < 2 ^ 64):CMul i j:=.inl h
theorem zg{j:Int}(h:0<=j/\j<=1000):qt 10 j:=⟨h.1,by omega,by decide⟩
def uH:RF.Spec:=bx (λds _=>∃c k:Int,ds=[.int c,.int k]/\0<=k) (λ_ G d G'=>G'=G/\∃r:Int,d=.int r/\0<=r)
theorem acL(Φ:aa)(ds:List D)(G:DH)(h:∃c k:Int,ds=[.int c,.int k]/\0<=k):aq Φ yM noE (env0 ds 3) G (ends λd G'=>G'=G/\∃r:Int,d=.int r/\0<=r):=by
 obtain ⟨c,k,rfl,hk⟩:=h;simp_arith[yM];refine ⟨zg (by decide),?_⟩;cases hc:decide (10 ^ Int.toNat 18<=c) with
 |true=>
  refine ⟨c,rfl,?_⟩;have:=dk hc;have h2:(0:Int)<=(10:Int) ^ (18:Int).toNat:=by decide
  exact Int.le_trans h2 this
 |false=>
  generalize hone:(c % 1000000007 * 69069+k * 40503+977) % 2147483629=one;have o1:0<=one:=by rw[<-hone];exact fg _ (by decide)
  have o2:one < 2147483629:=by rw[<-hone];exact e9 _ (by decide)
  generalize htwo:(one * one+k * 7919+c % 65537) % 2147483587=two;have t1:0<=two:=by rw[<-htwo];exact fg _ (by decide)
  have t2:two < 2147483587:=by rw[<-htwo];exact e9 _ (by decide)
  generalize hthree:(two * two+one * 31+5) % 2147483563=three;have h1:0<=three:=by rw[<-hthree];exact fg _ (by decide)
  clear hone htwo hthree;refine ⟨by decide,jc (by decide),jc (by decide),by decide,zf (by omega),jc (by decide),by decide,by decide,zf (by omega),jc (by decide),by decide,jc (by decide),jc (by decide),_,rfl,?_⟩;omega
def Pen(G:DH)(p:Addr):Prop:=∃(ns:List Int)(k st:Int),G p=some (.lst [.lst (ns.map D.int),.int k,.int st])/\0<=k/\0<=st
theorem Pen.sa{G G':DH}{p:Addr}(h:Pen G p)(s:Sa G G'):Pen G' p:=by obtain ⟨ns,k,st,e,h1⟩:=h;exact ⟨ns,k,st,s _ _ e,h1⟩
theorem Pen.ne{G:DH}{p q:Addr}(h:Pen G p)(e:G q=none):p≠q:=by obtain ⟨ns,k,st,e1,h1⟩:=h;exact wz e1 e
theorem Pen.sb{G G':DH}{p q:Addr}(h:Pen G p)(s:Sb q G G')(n:p≠q):Pen G' p:=by obtain ⟨ns,k,st,e,h1⟩:=h;exact ⟨ns,k,st,s _ _ e n,h1⟩
def uI:RF.Spec:=bx (λds G=>∃p,ds=[.ref p]/\Pen G p) (λds G d G'=>∃p,ds=[.ref p]/\d=.ref p/\Pen G' p/\Sb p G G')
theorem acM(Φ:aa)(ds:List D)(G:DH)(h:∃p,ds=[.ref p]/\Pen G p):aq Φ yL noE (env0 ds 0) G (ends λd G'=>∃p,ds=[.ref p]/\d=.ref p/\Pen G' p/\Sb p G G'):=by obtain ⟨p,rfl,ns,k,st,e,h1,h2⟩:=h;simp_arith[yL,dh e];exact ⟨p,rfl,rfl,⟨ns,k,0,bh,h1,by decide⟩,Sb.upd⟩
def dG:RF.Spec:=bx (λds G=>∃p,∃m:Int,ds=[.ref p,.int m]/\Pen G p/\0 < m/\m < 1152921504606846976) (λds G d G'=>∃p,∃m r:Int,ds=[.ref p,.int m]/\d=.int r/\0<=r/\r < m/\Pen G' p/\Sb p G G')
theorem acN (Φ:aa) (hΦ:Φ "_law_spread"=uH) (ds:List D) (G:DH) (h:∃p,∃m:Int,ds=[.ref p,.int m]/\Pen G p/\0 < m/\m < 1152921504606846976):
  aq Φ yN noE (env0 ds 3) G (ends λd G'=>∃p,∃m r:Int,ds=[.ref p,.int m]/\d=.int r/\0<=r/\r < m/\Pen G' p/\Sb p G G'):=by
 obtain ⟨p,m,rfl,⟨ns,k,st,e,h1,h2⟩,h3,h4⟩:=h;simp_all_arith[yN];refine seq λM hM=>?_;have fin:∀(ρ2 ρ3 ρ4:Option D)(G1:DH)(k1 s1:Int),0<=k1->0<=s1->G1 p=some (.lst [.lst (ns.map D.int),.int k1,.int s1])->Sb p G G1->M [some (.ref p),some (.int m),ρ2,ρ3,ρ4] G1:=by intro ρ2 ρ3 ρ4 G1 k1 s1 q1 q2 e1 sb;refine hM _ _ ?_;simp_arith[bU e1,dh e1];refine ⟨h3,⟨h3,h4⟩,p,m,_,rfl,rfl,fg _ (by omega),e9 _ h3,⟨ns,k1,_,bh,q1,?_⟩,sb.trans Sb.upd⟩;exact Int.ediv_nonneg q2 (by omega)
 simp_arith[bU e,dh e,hΦ];have draw:∀c:Int,uH.t [.int c,.int k] (aL G p (.lst [.lst (ns.map D.int),.int (k+1),.int st])) (λx G1=>trk G1 p λds=>aX (ixN ds.length 2) λj=>M [some (.ref p),some (.int m),some (.int k),some (.int c),none] (aL G1 p (.lst (ds.set j x)))) noE:=by intro c;refine bK ⟨c,k,rfl,h1⟩ λd G' hx=>?_;obtain ⟨e1,r,e2,hr⟩:=hx;subst e1 e2;simp_arith[dh bh];refine fin _ _ _ _ (k+1) r (by omega) hr bh (Sb.trans Sb.upd Sb.upd)
 cases hc:decide (st < m) with
 |false=>exact fin _ _ _ _ k st h1 h2 e (Sb.refl _ _)
 |true=>
  cases hk:decide (k < ((ns.map D.int).length:Int)) with
  |true=>
   have hk:=dk hk;rw[al]at hk;refine cG (a:=.int ns[k.toNat]) ?_ ?_
   ·obtain ⟨n,rfl⟩:=cy h1;exact cB (by simp at hk ⊢)
   ·exact draw _
  |false=>
   cases hz:decide (0 < ((ns.map D.int).length:Int)) with
   |false=>exact draw 0
   |true=>
    have hz:=dk hz;have j1:0<=(k * 5+3) % ((ns.map D.int).length:Int):=fg _ (by omega);have j2:(k * 5+3) % ((ns.map D.int).length:Int) < ((ns.map D.int).length:Int):=e9 _ hz;obtain ⟨j,hj⟩:=cy j1;rw[hj]at j2;have j3:j < ns.length:=by rw[al]at j2;omega
    refine ⟨jc (by decide),hz,cG (a:=.int ns[j]) ?_ ⟨zg (by decide),?_⟩⟩
    ·rw[hj];exact cB (by simp[j3])
    ·simp_arith[dh e];refine ⟨?_,draw _⟩;have:(0:Int) < 10 ^ Int.toNat 17:=by decide
     omega
def mV:RF.Spec:=bx (λds G=>∃p,∃n:Nat,∃cs:List Nat,ds=[.ref p,.int n,.str cs]/\Pen G p/\n<=1000/\cs≠[]/\cs.length<=1000)
 (λds G d G'=>∃p,∃n:Nat,∃cs l:List Nat,ds=[.ref p,.int n,.str cs]/\d=.str l/\l.length=n/\(∀c∈l,c∈cs)/\Pen G' p/\Sb p G G')
theorem acO(l:List Nat):((l.map λc=>[c]).map (·.length)).sum=l.length:=by
 induction l with
 |nil=>rfl
 |cons a l ih=>simp at ih ⊢;omega
theorem acP(l:List Nat):(l.map λc=>[c]).flatten=l:=by
 induction l with
 |nil=>rfl
 |cons a l ih=>simp at ih ⊢;exact ih
theorem acQ (Φ:aa) (hΦ:Φ "_law_take"=dG) (ds:List D) (G:DH) (h:∃p,∃n:Nat,∃cs:List Nat,ds=[.ref p,.int n,.str cs]/\Pen G p/\n<=1000/\cs≠[]/\cs.length<=1000):
  aq Φ yO noE (env0 ds 0) G (ends λd G'=>∃p,∃n:Nat,∃cs l:List Nat,ds=[.ref p,.int n,.str cs]/\d=.str l/\l.length=n/\(∀c∈l,c∈cs)/\Pen G' p/\Sb p G G'):=by
 obtain ⟨p,n,cs,rfl,hp,hn,hc,hl⟩:=h;have hc1:0 < cs.length:=List.length_pos_iff.mpr hc;simp_arith[yO,hΦ];refine ⟨by omega,CompG.inv (P:=λi acc ρ G'=>(∃o,ρ=[o,some (.str cs),some (.ref p)])/\Pen G' p/\Sb p G G'/\∃l:List Nat,acc=l.map (λc=>D.str [c])/\l.length=i/\∀c∈l,c∈cs) (h0:=⟨⟨_,rfl⟩,hp,Sb.refl _ _,[],rfl,rfl,by simp⟩) (hh:=λ_ _ _ _ _=>trivial) (hl:=by simp[bJ];have hsz:sz=1000000:=rfl;omega) (hs:=?_) (he:=?_)⟩
 ·rintro i d acc ρ G' hd ⟨⟨o,rfl⟩,hp',sb,l,rfl,hl',hm⟩ kk hk;simp_arith[hΦ];refine bK ⟨p,_,rfl,hp',by omega,by omega⟩ λd' G2 hx=>?_;obtain ⟨p2,m2,r,e1,e2,r0,r1,pp2,sb2⟩:=hx;cases e1;subst e2;obtain ⟨j,rfl⟩:=cy r0;have hj:j < cs.length:=by omega
  simp_arith[ends];refine cG (a:=cs[j]) (cB (by simp[hj])) (hk _ _ _ ⟨⟨_,rfl⟩,pp2,sb.trans sb2,l++[cs[j]],by simp,by simp[hl'],?_⟩);intro c hc;rcases a9.mp hc with h |h
  ·exact hm c h
  ·rw[a8.mp h];exact dP _
 ·rintro acc ρ G' ⟨_,hp',sb,l,rfl,hl',hm⟩;simp_arith[strs_map];have hl2:l.length=n:=by rw[hl'];simp[bJ]
  refine ⟨?_,p,n,cs,l,rfl,?_,hl2,hm,hp',sb⟩
  ·rw[acO];simp;have hsz:sz=1000000:=rfl;omega
  ·rw[HX,acP]
def isF(c:Nat):Prop:=c=48\/c=49\/c=42
def mW:RF.Spec:=bx (λds G=>∃p,∃n:Nat,ds=[.ref p,.int n]/\Pen G p/\n<=1000) (λds G d G'=>∃p,∃n:Nat,∃l:List Nat,ds=[.ref p,.int n]/\d=.str l/\l.length=n/\(∀c∈l,isF c)/\Pen G' p/\Sb p G G')
theorem acR (Φ:aa) (h1:Φ "_law_take"=dG) (h2:Φ "_law_signs"=mV) (ds:List D) (G:DH) (h:∃p,∃n:Nat,ds=[.ref p,.int n]/\Pen G p/\n<=1000):
  aq Φ yQ noE (env0 ds 0) G (ends λd G'=>∃p,∃n:Nat,∃l:List Nat,ds=[.ref p,.int n]/\d=.str l/\l.length=n/\(∀c∈l,isF c)/\Pen G' p/\Sb p G G'):=by
 obtain ⟨p,n,rfl,hp,hn⟩:=h;simp_arith[yQ,h1,h2];refine ⟨by decide,bK ⟨p,_,rfl,hp,by decide,by decide⟩ λd' G2 ⟨p2,m2,r,e1,e2,r0,r1,pp2,sb2⟩=>?_⟩;cases e1;subst e2;obtain ⟨j,rfl⟩:=cy r0;simp_arith[ends];have:∃cs:List Nat,atI [D.str [48,49,42],D.str [48,49,42,42],D.str [48,49,42,42,42,42],D.str [48,42],D.str [48,49]] ((j:Nat):Int)=some (.str cs)/\cs≠[]/\cs.length<=1000/\∀c∈cs,isF c:=by
  have hj:j=0\/j=1\/j=2\/j=3\/j=4:=by omega
  rcases hj with rfl |rfl |rfl |rfl |rfl <;> exact ⟨_,rfl,by decide,by decide,by simp[isF]⟩
 obtain ⟨cs,e,c1,c2,c3⟩:=this;refine cG e (bK ⟨p,n,cs,rfl,pp2,hn,c1,c2⟩ λd G3 ⟨p3,n3,cs3,l,e1,e2,q1,q2,q3,q4⟩=>?_);cases e1;exact ⟨p,n,l,rfl,e2,q1,λc hc=>c3 c (q2 c hc),q3,sb2.trans q4⟩
def zj:RF.Spec:=bx (λds _=>∃ns:List Int,ds=[.scr ns]/\ns.length<=63) (λ_ G d G'=>∃p,d=.ref p/\G p=none/\Pen G' p/\Sa G G')
theorem acS(Φ:aa)(ds:List D)(G:DH)(h:∃ns:List Int,ds=[.scr ns]/\ns.length<=63):aq Φ yX noE (env0 ds 3) G (ends λd G'=>∃p,d=.ref p/\G p=none/\Pen G' p/\Sa G G'):=by
 obtain ⟨ns,rfl,hl⟩:=h;simp_all_arith[yX];refine seq λM hM=>?_;simp_arith[ends];intro c hc;refine hM _ _ ?_;refine seq λM hM=>?_;simp_arith[ends];refine ForG.inv (λi ρ G'=>∃(o2 o3:Option D)(xs:List Int),ρ=[some (.scr ns),some (.ref c),o2,o3]/\G'=aL G c (.lst (xs.map D.int))/\(12<=xs.length\/cut ns (some 12) (some 63)=[])) ⟨_,_,cut ns none (some 12),rfl,rfl,?_⟩ (λ_ _ _ _=>trivial) ?_ ?_
 ·by_cases h12:12<=ns.length
  ·left;simp[cut,HT.sIx];omega
  ·right;simp[cut,HT.sIx];omega
 ·rintro i d ρ G' hd ⟨o2,o3,xs,rfl,rfl,hx⟩ kk hk;rw[lX]at hd;obtain ⟨d',hd',e3⟩:=bi.mp hd;subst e3;rw[b9]at hd';obtain ⟨x,hx',e4⟩:=bi.mp hd';subst e4;have h12:12<=xs.length:=by
   rcases hx with h |h
   ·exact h
   ·rw[h]at hx';simp at hx'
  obtain ⟨j,hj⟩:=cy (fg ((0+i:Nat):Int) (by decide:(12:Int)≠0));have hj12:j < 12:=by have:=e9 ((0+i:Nat):Int) (by decide:(0:Int) < 12);omega
  have hjx:j < xs.length:=by omega
  simp_arith[hj,bU bh,dh bh];refine ⟨by decide,cG (a:=.int xs[j]) (cB (by simp[hjx])) ?_⟩;simp_arith[hj,bU bh,dh bh,al,acw hjx];refine ⟨by decide,hk _ _ ⟨_,_,xs.set j (xs[j]+x),rfl,?_,by simp[h12]⟩⟩;rw[Zq,List.map_set]
 ·rintro ρ G' ⟨o2,o3,xs,rfl,rfl,hx⟩;refine hM _ _ ?_;simp_arith[bh];refine ⟨by have hsz:sz=1000000:=rfl;omega,λp hp=>⟨p,rfl,?_,⟨xs,0,0,bh,by decide,by decide⟩,?_⟩⟩
  ·rw[DR hc]at hp;exact hp
  ·rw[DR hc]at hp ⊢;exact Sa.new hp
def mX:RF.Spec:=bx (λds _=>∃ns:List Int,ds=[.scr ns]/\ns.length<=63) (λ_ _ d _=>d=.bl true)
def whole:D->Bool
 |.int _=>true
 |_=>false
def gR:List D->Option D
 |[x]=>if nr x then some (.bl (whole x)) else none
 |_=>none
theorem acT(Φ:aa)(ds:List D)(G:DH)(d:D)(h:gR ds=some d):aq Φ mj noE (env0 ds 0) G (ends λd' G'=>G'=G/\d'=d):=by
 unfold gR at h;split at h
 ·rename_i x;split at h
  ·rename_i hx;cases h;cases x <;> first | (simp[nr]at hx;done) | (simp_arith[mj,whole];try simp)
  ·cases h
 ·cases h
def uJ:D->Bool
 |.int i=>decide (1<=i)&&decide (i<=6)
 |_=>false
def mY:List D->Option D
 |[x]=>if nr x then some (.bl (uJ x)) else none
 |_=>none
theorem acU (Φ:aa) (h1:Φ "is_whole"=aJ gR) (ds:List D) (G:DH) (d:D) (h:mY ds=some d):aq Φ mq noE (env0 ds 0) G (ends λd' G'=>G'=G/\d'=d):=by
 unfold mY at h;split at h
 ·rename_i x;split at h
  ·rename_i hx;cases h;have hf:gR [x]=some (.bl (whole x)):=if_pos hx;simp_arith[mq,h1];refine bc hf ?_;cases x <;> first | (simp[nr]at hx;done) | (simp_arith[whole,uJ];first | (simp;done) |skip)
   rename_i i;cases hi:decide (1<=i) with
   |true=>simp
   |false=>simp
  ·cases h
 ·cases h
noncomputable def isText(s:List Nat)(w:Int):D->Bool
 |.str l=>decide ((l.length:Int)=w)&&l.all (λc=>s.contains c)
 |_=>false
def szd:D->Bool
 |.str l=>decide (l.length<=100000)
 |_=>true
noncomputable def fText:List D->Option D
 |[.str s,.int w,x]=>if nr x&&szd x then some (.bl (isText s w x)) else none
 |_=>none
theorem all_map{l:List Nat}{f:Nat->Bool}:((l.map f).all id)=l.all f:=by
 induction l with
 |nil=>rfl
 |cons a l ih=>simp[ih]
theorem acV(Φ:aa)(ds:List D)(G:DH)(d:D)(h:fText ds=some d):aq Φ j6 noE (env0 ds 0) G (ends λd' G'=>G'=G/\d'=d):=by
 unfold fText at h;split at h
 ·rename_i s w x;split at h
  ·rename_i hx;cases h;rw[ae]at hx;cases x with
   |str l=>
    have hl:l.length<=100000:=by simpa [szd] using hx.2
    simp_arith[j6,isText];by_cases hw:(l.length:Int)=w
    ·have hb:(((l.length:Int)==w):Bool)=true:=by simp[hw]
     simp_arith[hb];refine CompG.map (f:=λd=>match d with |.str [c]=>.bl (s.contains c) |_=>.non) (I:=λρ=>∃o,ρ=[o,some (.str s)]) ⟨_,rfl⟩ trivial (by simp;have hsz:sz=1000000:=rfl;omega) ?_ ?_
     ·rintro d ρ hd ⟨o,rfl⟩ kk hk;obtain ⟨c,_,rfl⟩:=dc.mp hd;simp_arith[ends];exact hk _ ⟨_,rfl⟩
     ·rw[List.map_map];simp_arith[Function.comp_def,uB,all_map];simp only[av hw,ef,fw]
    ·have hb:(((l.length:Int)==w):Bool)=false:=by simp[hw]
     simp_arith[hb];simp[hw]
   |ref p=>simp[nr]at hx
   |scr p=>simp[nr]at hx
   |exn p=>simp[nr]at hx
   |obj _ _ _=>simp[nr]at hx
   |_=>simp_arith[j6,isText];try simp
  ·cases h
 ·cases h
noncomputable def gf:List D->Option D
 |[.int w,x]=>if nr x&&szd x then some (.bl (isText [48,49,42] w x)) else none
 |_=>none
theorem acW (Φ:aa) (h1:Φ "is_text_of"=aJ fText) (ds:List D) (G:DH) (d:D) (h:gf ds=some d):aq Φ lZ noE (env0 ds 0) G (ends λd' G'=>G'=G/\d'=d):=by
 unfold gf at h;split at h
 ·rename_i w x;split at h
  ·rename_i hx;cases h;simp_arith[lZ,h1];exact bc (d:=.bl (isText [48,49,42] w x)) (if_pos hx) ⟨rfl,rfl⟩
  ·cases h
 ·cases h
theorem uK:∀{l:List D}{d:D},nrs l=true->d∈l->nr d=true
 |a::as,d,h,m=>by
  rw[nrs,ae]at h;rcases aI.mp m with e |m
  ·rw[e];exact h.1
  ·exact uK h.2 m
theorem N7:∀{l:List D}{d:D},d∈l->dpt d<=aQ l
 |a::as,d,m=>by
  rw[aQ];rcases aI.mp m with e |m
  ·rw[e];exact Nat.le_max_left _ _
  ·exact cw (N7 m) (Nat.le_max_right _ _)
theorem acX{n:Nat}:isIn (.bl false) (List.replicate n (.bl true))=false:=by
 induction n with
 |zero=>rfl
 |succ n ih=>simp only[isIn,bv,List.any_cons,deq]at ih ⊢;rw[ih];rfl
theorem acY{n:Nat}{b:Bool}:nrs (List.replicate n (.bl b))=true:=by
 induction n with
 |zero=>rfl
 |succ n ih=>rw[bv,nrs,ih];rfl
theorem acZ{n:Nat}{b:Bool}:aQ (List.replicate n (.bl b))=0:=by
 induction n with
 |zero=>rfl
 |succ n ih=>rw[bv,aQ,ih];rfl
theorem ac0:∀(l:List D)(i:Nat)(d:D),(bL l l)[i]?=some d->∃a,a∈l/\d=.tup [a,a]
 |l,i,d,h=>by
  obtain ⟨a,b,h1,h2,rfl⟩:=yr l l i d h;rw[h1]at h2;cases h2;exact ⟨a,cf h1,rfl⟩
def okF(w:Nat)(l:List Nat):Prop:=l.length=w/\∀c∈l,isF c
theorem okF.app{w v:Nat}{l m:List Nat}(h:okF w l)(h':okF v m):okF (w+v) (l++m):=⟨by rw[ax,h.1,h'.1],λc hc=>(a9.mp hc).elim (h.2 c) (h'.2 c)⟩
theorem okF.one{c:Nat}(h:isF c):okF 1 [c]:=⟨rfl,λd hd=>by rw[a8.mp hd];exact h⟩
theorem bT{p:Addr}{m:Int}{G:DH}{k:D->DH->Prop}{E:EK}(hp:Pen G p)(h1:0 < m)(h2:m < 1152921504606846976)(hk:∀(r:Nat)(G':DH),(r:Int) < m->Pen G' p->Sb p G G'->k (.int r) G'):dG.t [.ref p,.int m] G k E:=by refine bK ⟨p,m,rfl,hp,h1,h2⟩ λd G' hx=>?_;obtain ⟨p2,m2,r,e1,e2,r0,r1,hp',sb⟩:=hx;cases e1;subst e2;obtain ⟨n,rfl⟩:=cy r0;exact hk n G' r1 hp' sb
theorem ac1{n:Nat}(h:(n:Int) < 2):∃c,atI [48,49] (n:Int)=some c/\isF c:=by
 have:n=0\/n=1:=by omega
 rcases this with rfl |rfl
 ·exact ⟨48,rfl,.inl rfl⟩
 ·exact ⟨49,rfl,.inr (.inl rfl)⟩
theorem ac2{n:Nat}(h:(n:Int) < 3):∃c,atI [48,49,42] (n:Int)=some c/\isF c:=by
 have:n=0\/n=1\/n=2:=by omega
 rcases this with rfl |rfl |rfl
 ·exact ⟨48,rfl,.inl rfl⟩
 ·exact ⟨49,rfl,.inr (.inl rfl)⟩
 ·exact ⟨42,rfl,.inr (.inr rfl)⟩
def zm(ds:List D)(G:DH):Prop:=∃p l,ds=[.ref p,.str l]/\Pen G p/\(∀c∈l,isF c)/\l.length<=1000
def zp(ds:List D)(G:DH)(d:D)(G':DH):Prop:=∃p l m,ds=[.ref p,.str l]/\d=.str m/\okF l.length m/\Pen G' p/\Sb p G G'
def jd:RF.Spec:=bx zm zp
theorem N8{p:Addr}{l:List Nat}{G:DH}{k:D->DH->Prop}{E:EK}(hp:Pen G p)(hl:∀c∈l,isF c)(h2:l.length<=1000)(hk:∀(m:List Nat)(G':DH),okF l.length m->Pen G' p->Sb p G G'->k (.str m) G'):jd.t [.ref p,.str l] G k E:=by refine bK ⟨p,l,rfl,hp,hl,h2⟩ λd G' hx=>?_;obtain ⟨p2,l2,m,e1,e2,h,hp',sb⟩:=hx;cases e1;subst e2;exact hk m G' h hp' sb
theorem ac3 (Φ:aa) (h1:Φ "_law_take"=dG) (ds:List D) (G:DH) (h:zm ds G):aq Φ yS noE (env0 ds 2) G (ends (zp ds G)):=by
 obtain ⟨p,l,rfl,hp,hl,hl2⟩:=h;simp_all_arith[yS];refine seq λM hM=>?_;simp_arith[ends];refine hM _ _ (seq λM hM=>?_);simp_arith![ends];refine ForG.inv (P:=λi ρ G'=>(∃o m,ρ=[some (.ref p),some (.str l),some (.str m),o]/\okF i m)/\Pen G' p/\Sb p G G') ⟨⟨_,_,rfl,rfl,by simp⟩,hp,Sb.refl _ _⟩ (λ_ _ _ _=>trivial) ?_ ?_
 ·rintro i d ρ G2 hd ⟨⟨o,m,rfl,hm⟩,hp2,sb2⟩ kk hk;rw[b9]at hd;obtain ⟨c,hc,rfl⟩:=bi.mp hd;have hi:i < l.length:=(aw.mp hc).1;have fc:=hl c (cf hc);have l1:=hm.1;simp_arith![ends];refine seq λM hM=>?_;have fin:∀(c:Nat)(G3:DH),isF c->Pen G3 p->Sb p G2 G3->M [some (.ref p),some (.str l),some (.str m),some (.str [c])] G3:=by
   intro c G3 fc hp3 sb3;refine hM _ _ (last ?_);simp_arith[ends];exact ⟨by have hsz:sz=1000000:=rfl;omega,hk _ _ ⟨⟨_,_,rfl,hm.app (okF.one fc)⟩,hp3,sb2.trans sb3⟩⟩
  simp_arith[h1];cases ht:([c]==[42]) with
  |false=>exact fin c G2 fc hp2 (Sb.refl _ _)
  |true=>
   refine bT hp2 (by decide) (by decide) λr G3 hr hp3 sb3=>?_;simp_arith[ends];cases hr0:((r:Int)==0) with
   |false=>exact fin c G3 fc hp3 sb3
   |true=>
    refine bT hp3 (by decide) (by decide) λr' G4 hr' hp4 sb4=>?_;obtain ⟨c',e,fc'⟩:=ac1 hr';simp_arith[e];exact fin c' G4 fc' hp4 (sb3.trans sb4)
 ·rintro ρ G2 ⟨⟨o,m,rfl,hm⟩,hp2,sb2⟩;refine hM _ _ ?_;simp_arith[ends];exact ⟨p,l,m,rfl,rfl,by simpa using hm,hp2,sb2⟩
theorem ac4 (Φ:aa) (h1:Φ "_law_take"=dG) (ds:List D) (G:DH) (h:zm ds G):aq Φ yR noE (env0 ds 2) G (ends (zp ds G)):=by
 obtain ⟨p,l,rfl,hp,hl,hl2⟩:=h;simp_all_arith[yR];refine seq λM hM=>?_;simp_arith[ends];refine hM _ _ (seq λM hM=>?_);simp_arith![ends];refine ForG.inv (P:=λi ρ G'=>(∃o m,ρ=[some (.ref p),some (.str l),some (.str m),o]/\okF i m)/\Pen G' p/\Sb p G G') ⟨⟨_,_,rfl,rfl,by simp⟩,hp,Sb.refl _ _⟩ (λ_ _ _ _=>trivial) ?_ ?_
 ·rintro i d ρ G2 hd ⟨⟨o,m,rfl,hm⟩,hp2,sb2⟩ kk hk;rw[b9]at hd;obtain ⟨c,hc,rfl⟩:=bi.mp hd;have hi:i < l.length:=(aw.mp hc).1;have fc:=hl c (cf hc);have l1:=hm.1;simp_arith![ends];refine seq λM hM=>?_;have fin:∀(c:Nat)(G3:DH),isF c->Pen G3 p->Sb p G2 G3->M [some (.ref p),some (.str l),some (.str m),some (.str [c])] G3:=by
   intro c G3 fc hp3 sb3;refine hM _ _ (last ?_);simp_arith[ends];exact ⟨by have hsz:sz=1000000:=rfl;omega,hk _ _ ⟨⟨_,_,rfl,hm.app (okF.one fc)⟩,hp3,sb2.trans sb3⟩⟩
  simp_arith[h1];refine bT hp2 (by decide) (by decide) λr G3 hr hp3 sb3=>?_;simp_arith[ends];cases hr0:((r:Int)==0) with
  |false=>exact fin c G3 fc hp3 sb3
  |true=>exact fin 42 G3 (.inr (.inr rfl)) hp3 sb3
 ·rintro ρ G2 ⟨⟨o,m,rfl,hm⟩,hp2,sb2⟩;refine hM _ _ ?_;simp_arith[ends];exact ⟨p,l,m,rfl,rfl,by simpa using hm,hp2,sb2⟩
theorem Oa{G G':DH}{p:Addr}{x:D}{fs:List (List Nat)}(hv:view G x=.lst (fs.map D.str))(hp:Pen G p)(sb:Sb p G G'):view G' x=.lst (fs.map D.str):=by
 cases x with
 |ref q=>
  unfold view at hv;dsimp only at hv;cases g:G q with
  |none=>rw[g]at hv;cases hv
  |some o=>
   cases o with
   |lst ds=>
    rw[g]at hv;have e:ds=fs.map D.str:=by simpa using hv
    have hn:q≠p:=by
     rintro rfl;obtain ⟨ns,k,st,e1,_⟩:=hp;rw[g,e]at e1;cases fs with
     |nil=>simp at e1
     |cons a r=>simp at e1
    rw[bU (sb q _ g hn),e]
 |lst l=>exact hv
 |_=>cases hv
def Ob(ds:List D)(G:DH):Prop:=∃p,∃w:Nat,∃x,∃fs:List (List Nat),ds=[.ref p,.int w,x]/\Pen G p/\0 < w/\w<=1000/\view G x=.lst (fs.map D.str)/\fs.length<=1000/\∀f∈fs,okF w f
def zq(ds:List D)(G:DH)(d:D)(G':DH):Prop:=∃p,∃w:Nat,∃x m,ds=[.ref p,.int w,x]/\d=.str m/\okF w m/\Pen G' p/\Sb p G G'
def uL:RF.Spec:=bx Ob zq
theorem ac5{p:Addr}{w:Nat}{x:D}{fs:List (List Nat)}{G:DH}{k:D->DH->Prop}{E:EK}(hp:Pen G p)(h1:0 < w)(h2:w<=1000)(hv:view G x=.lst (fs.map D.str))(h3:fs.length<=1000)(h4:∀f∈fs,okF w f)
  (hk:∀(m:List Nat)(G':DH),okF w m->Pen G' p->Sb p G G'->k (.str m) G'):uL.t [.ref p,.int w,x] G k E:=by
 refine bK ⟨p,w,x,fs,rfl,hp,h1,h2,hv,h3,h4⟩ λd G' hx=>?_;obtain ⟨p2,w2,x2,m,e1,e2,h,hp',sb⟩:=hx;simp only[cS,D.ref.injEq,D.int.injEq,gi,et]at e1;obtain ⟨rfl,rfl,rfl⟩:=e1;subst e2;exact hk m G' h hp' sb
theorem ac6(fs:List (List Nat)):nrs (fs.map D.str)=true:=by
 induction fs with
 |nil=>rfl
 |cons a l ih=>rw[bP,nrs,ih];rfl
theorem ac7(fs:List (List Nat)):aQ (fs.map D.str)=0:=by
 induction fs with
 |nil=>rfl
 |cons a l ih=>rw[bP,aQ,ih];rfl
theorem ac8{w n:Nat}{l:List Nat}{c:Nat}(h:okF w l)(hn:n < w)(fc:isF c):okF w (cut l none (some (n:Int))++[c]++cut l (some ((n:Int)+1)) none):=by
 have h1:=h.1;rw[uC,yE];refine ⟨?_,λd hd=>?_⟩
 ·simp;omega
 ·rcases a9.mp hd with hd |hd
  ·rcases a9.mp hd with hd |hd
   ·exact h.2 d (List.mem_of_mem_take hd)
   ·rw[a8.mp hd];exact fc
  ·exact h.2 d (List.mem_of_mem_drop hd)
theorem ac9 (Φ:aa) (h1:Φ "_law_take"=dG) (h2:Φ "_law_form"=mW) (h3:Φ "_law_within"=jd) (h4:Φ "_law_wider"=jd) (ds:List D) (G:DH) (h:Ob ds G):aq Φ yU noE (env0 ds 3) G (ends (zq ds G)):=by
 obtain ⟨p,w,x,fs,rfl,hp,w1,w2,hv,hf,hfs⟩:=h;simp_all_arith[yU];refine seq λM hM=>?_;simp_arith[h1];refine bT hp (by decide) (by decide) λkd G2 hkd hp2 sb2=>?_;have hv2:=Oa hv hp sb2;refine hM _ _ (seq λM hM=>?_);have drawn:∀(ρ:ak) (G3:DH),Pen G3 p->Sb p G G3->aq Φ (.cons (.ret (.call "_law_form" (.cons (.var 0) (.cons (.var 1) .nil)))) .nil) noE (some (.ref p)::some (.int w)::ρ) G3 { nx:=M,rt:=zq [.ref p,.int w,x] G,bk:=λ_ _=>False,ct:=λ_ _=>False }:=by intro ρ G3 hp3 sb3;simp_arith[h2];refine bK ⟨p,w,rfl,hp3,w2⟩ λd G4 hx=>?_;obtain ⟨p4,n4,l,e1,e2,l1,l2,hp4,sb4⟩:=hx;simp only[cS,D.ref.injEq,D.int.injEq,gi,et]at e1;obtain ⟨rfl,rfl⟩:=e1;exact ⟨p,w,x,l,rfl,e2,⟨l1,l2⟩,hp4,sb3.trans sb4⟩
 simp_arith![hv2,acy,ac7,ac6];refine ⟨by decide,?_⟩;cases he:(fs.map D.str).isEmpty with
 |true=>exact drawn _ _ hp2 sb2
 |false=>
  have hlen:0 < fs.length:=by
   cases fs with
   |nil=>simp at he
   |cons a r=>simp
  simp_arith![ends];cases hk2:decide ((kd:Int) < 2) with
  |true=>exact drawn _ _ hp2 sb2
  |false=>
   simp_arith[ends];refine hM _ _ (seq λM hM=>?_);simp_arith[h1,hv2,al];refine bT hp2 (by omega) (by omega) λr G3 hr hp3 sb3=>?_;have hv3:=Oa hv2 hp2 sb3;simp_arith[hv3];have hr':r < fs.length:=by omega
   refine cG (a:=.str fs[r]) (cB (by simp[hr'])) ?_;have fok:=hfs fs[r] (dP _);generalize fs[r]=f at fok;refine hM _ _ (seq λM hM=>?_);have sb':=sb2.trans sb3;simp_arith[ends];cases hk3:((kd:Int)==2) with
   |true=>exact ⟨p,w,x,f,rfl,rfl,fok,hp3,sb'⟩
   |false=>
    refine hM _ _ (seq λM hM=>?_);simp_arith![ends];cases hk5:decide ((kd:Int) < 5) with
    |true=>
     simp_arith[h1];refine bT hp3 (by omega) (by omega) λat' G4 hat hp4 sb4=>?_;refine bT hp4 (by decide) (by decide) λs G5 hs hp5 sb5=>?_;obtain ⟨c,e,fc⟩:=ac2 hs;have c1:=yC f none (some (at':Int));have c2:=yC f (some ((at':Int)+1)) none;have f1:=fok.1;simp_arith[e,ax];exact ⟨by have hsz:sz=1000000:=rfl;omega,by have hsz:sz=1000000:=rfl;omega,p,w,x,_,rfl,rfl,ac8 fok (by omega) fc,hp5,sb'.trans (sb4.trans sb5)⟩
    |false=>
     simp_arith[ends];refine hM _ _ (seq λM hM=>?_);have f1:=fok.1;simp_arith[h3];cases hk6:((kd:Int)==5) with
     |true=>
      refine N8 hp3 fok.2 (by omega) λm G4 hm hp4 sb4=>?_;rw[f1]at hm;exact ⟨p,w,x,m,rfl,rfl,hm,hp4,sb'.trans sb4⟩
     |false=>
      refine hM _ _ ?_;simp_arith[h4];refine N8 hp3 fok.2 (by omega) λm G4 hm hp4 sb4=>?_;rw[f1]at hm;exact ⟨p,w,x,m,rfl,rfl,hm,hp4,sb'.trans sb4⟩
def okD(l:List Nat):Prop:=1<=l.length/\l.length<=8/\∀c∈l,97<=c/\c<=122
theorem ada{p:Addr}{n:Nat}{cs:List Nat}{G:DH}{k:D->DH->Prop}{E:EK}(hp:Pen G p)(hn:n<=1000)(h1:cs≠[])(h2:cs.length<=1000)(hk:∀(l:List Nat)(G':DH),l.length=n->(∀c∈l,c∈cs)->Pen G' p->Sb p G G'->k (.str l) G'):mV.t [.ref p,.int n,.str cs] G k E:=by refine bK ⟨p,n,cs,rfl,hp,hn,h1,h2⟩ λd G' hx=>?_;obtain ⟨p2,n2,cs2,l,e1,e2,l1,l2,hp',sb⟩:=hx;simp only[cS,D.ref.injEq,D.int.injEq,D.str.injEq,gi,et]at e1;obtain ⟨rfl,rfl,rfl⟩:=e1;subst e2;exact hk l G' l1 l2 hp' sb
def Oc(ds:List D)(G:DH):Prop:=∃p,∃m:Int,ds=[.ref p,.int m]/\Pen G p/\0 < m/\m<=100
def Od(ds:List D)(G:DH)(d:D)(G':DH):Prop:=∃p,∃m:Int,∃xs:List (List Nat),ds=[.ref p,.int m]/\d=.lst (xs.map D.str)/\0 < xs.length/\xs.length<=100/\(∀x∈xs,okD x)/\Pen G' p/\Sb p G G'
def uM:RF.Spec:=bx Oc Od
noncomputable def zr:List (List Nat):=[[97],[103,111],[115,116,97,121],[97,98,99,100,101,102,103,104],[110,111,110,101],[121,101,115],[105,110],[111,117,116],[107,101,101,112],[119,111,114,100],[122,122]]
theorem adb:∀x∈zr,okD x:=by
 have h:∀x∈zr,1<=x.length/\x.length<=8/\∀c∈x,97<=c/\c<=122:=by decide
 exact h
theorem Oe{c:Nat}(h:c∈[97,98,99,100,101,102,103,104,105,106,107,108,109,110,111,112,113,114,115,116,117,118,119,120,121,122]):97<=c/\c<=122:=by
 have:∀c∈[97,98,99,100,101,102,103,104,105,106,107,108,109,110,111,112,113,114,115,116,117,118,119,120,121,122],97<=c/\c<=122:=by decide
 exact this c h
theorem adc (Φ:aa) (h1:Φ "_law_take"=dG) (h2:Φ "_law_signs"=mV) (ds:List D) (G:DH) (h:Oc ds G):aq Φ yP noE (env0 ds 4) G (ends (Od ds G)):=by
 obtain ⟨p,m,rfl,hp,m1,m2⟩:=h;simp_all_arith[yP];refine seq λM hM=>?_;simp_arith[ends];refine ⟨by decide,hM _ _ ?_⟩;refine (λtail=>tail zr rfl adb) (?_:∀xs:List (List Nat),xs.length=11->(∀x∈xs,okD x)->aq Φ _ noE [some (.ref p),some (.int m),some (.lst (xs.map D.str)),none,none,none] G _);intro xs x1 x2;refine seq λM hM=>?_;simp_arith[h1];refine bT hp (by decide) (by decide) λt G2 ht hp2 sb2=>?_;refine hM _ _ (seq λM hM=>?_);simp_arith[h1];refine bT hp2 (by omega) (by omega) λr G3 hr hp3 sb3=>?_;simp_arith[ends];refine ⟨by omega,?_⟩;refine CompG.inv (P:=λi acc ρ G'=>(∃o,ρ=[o,some (.lst (xs.map D.str)),some (.int t)])/\G'=G3/\∃ys:List (List Nat),acc=ys.map D.str/\ys.length=i/\∀y∈ys,okD y) ⟨⟨_,rfl⟩,rfl,[],rfl,rfl,by simp⟩ (λ_ _ _ _ _=>trivial) (by simp[bJ];have hsz:sz=1000000:=rfl;omega) ?_ ?_
 ·rintro i d acc ρ G' hd ⟨⟨o,rfl⟩,rfl,ys,rfl,y1,y2⟩ kk hk;unfold bJ at hd;rw[b9]at hd;obtain ⟨j,hj,rfl⟩:=bi.mp hd;simp_arith[ends];have q0:0<=((t:Int)+3 * (0+(j:Int))) % 11:=fg _ (by decide);have q1:((t:Int)+3 * (0+(j:Int))) % 11 < 11:=e9 _ (by decide);refine ⟨zf (by decide),by decide,uD q0 (by rw[al,x1];exact q1) λa ha=>?_⟩;obtain ⟨x,hx,rfl⟩:=dc.mp ha;refine hk _ _ _ ⟨⟨_,rfl⟩,rfl,ys++[x],by simp,by simp[y1],λy hy=>?_⟩;rcases a9.mp hy with h |h
  ·exact y2 y h
  ·rw[a8.mp h];exact x2 x hx
 ·rintro acc ρ G' ⟨_,rfl,ys,rfl,y1,y2⟩;have hy:ys.length=r+1:=by rw[y1];simp[bJ];omega
  refine hM _ _ (seq λM hM=>?_);simp_arith[h1];refine bT hp3 (by decide) (by decide) λq G4 hq hp4 sb4=>?_;have sb':=sb2.trans (sb3.trans sb4);simp_arith[ends];cases hq0:((q:Int)==0) with
  |false=>
   refine hM _ _ ?_;simp_arith[ends];exact ⟨p,m,ys,rfl,rfl,by omega,by omega,y2,hp4,sb'⟩
  |true=>
   simp_arith[ends];refine CompG.inv (P:=λi acc ρ G'=>(∃o,ρ=[o,some (.ref p),some (.str [97,98,99,100,101,102,103,104,105,106,107,108,109,110,111,112,113,114,115,116,117,118,119,120,121,122])])/\Pen G' p/\Sb p G G'/\∃zs:List (List Nat),acc=zs.map D.str/\zs.length=i/\∀z∈zs,okD z) ⟨⟨_,rfl⟩,hp4,sb',[],rfl,rfl,by simp⟩ (λ_ _ _ _ _=>trivial) (by simp;have hsz:sz=1000000:=rfl;omega) ?_ ?_
   ·rintro i d acc ρ G' hd ⟨⟨o,rfl⟩,hp5,sb5,zs,rfl,z1,z2⟩ kk hk;simp_arith[h1,h2];refine bT hp5 (by decide) (by decide) λn G6 hn hp6 sb6=>?_;simp_arith[ends];rw[show (1:Int)+(n:Int)=((n+1:Nat):Int) by omega];refine ada hp6 (by omega) (by simp) (by simp) λl G7 l1 l2 hp7 sb7=>?_;refine hk _ _ _ ⟨⟨_,rfl⟩,hp7,sb5.trans (sb6.trans sb7),zs++[l],by simp,by simp[z1],λz hz=>?_⟩;rcases a9.mp hz with h |h
    ·exact z2 z h
    ·rw[a8.mp h];exact ⟨by omega,by omega,λc hc=>Oe (l2 c hc)⟩
   ·rintro acc ρ G' ⟨_,hp5,sb5,zs,rfl,z1,z2⟩;rw[al]at z1;refine hM _ _ ?_;simp_arith[ends];exact ⟨p,m,zs,rfl,rfl,by omega,by omega,z2,hp5,sb5⟩
abbrev Row:=List Nat×List Nat
def aD(r:Row):D:=.tup [.str r.1,.str r.2]
def aA(w:Nat)(rs:List Row):D:=.tup [.int w,.tup (rs.map aD)]
structure okB(w:Nat)(rs:List Row):Prop where
 w1:1<=w
 w6:w<=6
 len:rs.length<=12
 form:∀r∈rs,okF w r.1
 deed:∀r∈rs,okD r.2
def Og(ds:List D)(G:DH):Prop:=∃p,∃w m:Nat,ds=[.ref p,.int w,.int m]/\Pen G p/\1<=w/\w<=6/\m<=12
def Oh(ds:List D)(G:DH)(d:D)(G':DH):Prop:=∃p,∃w m v:Nat,∃rs:List Row,ds=[.ref p,.int w,.int m]/\d=aA v rs/\okB v rs/\v<=w/\rs.length<=m/\Pen G' p/\Sb p G G'
def uN:RF.Spec:=bx Og Oh
theorem ade{p:Addr}{w m:Nat}{G:DH}{k:D->DH->Prop}{E:EK}(hp:Pen G p)(h1:1<=w)(h2:w<=6)(h3:m<=12)(hk:∀(v:Nat)(rs:List Row)(G':DH),okB v rs->v<=w->rs.length<=m->Pen G' p->Sb p G G'->k (aA v rs) G'):uN.t [.ref p,.int w,.int m] G k E:=by refine bK ⟨p,w,m,rfl,hp,h1,h2,h3⟩ λd G' hx=>?_;obtain ⟨p2,w2,m2,v,rs,e1,e2,o,q1,q2,hp',sb⟩:=hx;simp only[cS,D.ref.injEq,D.int.injEq,gi,et]at e1;obtain ⟨rfl,rfl,rfl⟩:=e1;subst e2;exact hk v rs G' o q1 q2 hp' sb
theorem adf{p:Addr}{m:Int}{G:DH}{k:D->DH->Prop}{E:EK}(hp:Pen G p)(h1:0 < m)(h2:m<=100)(hk:∀(xs:List (List Nat))(G':DH),0 < xs.length->xs.length<=100->(∀x∈xs,okD x)->Pen G' p->Sb p G G'->k (.lst (xs.map D.str)) G'):uM.t [.ref p,.int m] G k E:=by refine bK ⟨p,m,rfl,hp,h1,h2⟩ λd G' hx=>?_;obtain ⟨p2,m2,xs,e1,e2,q1,q2,q3,hp',sb⟩:=hx;cases e1;subst e2;exact hk xs G' q1 q2 q3 hp' sb
theorem vV{α:Type}{l:List α}{a:α}:atI (l++[a]) (-1)=some a:=by unfold atI ixN;rw[if_neg (by decide),if_pos (by simp;omega),ax,d5,show (-1+((l.length+1:Nat):Int)).toNat=l.length by omega];simp
theorem adg (Φ:aa) (h1:Φ "_law_take"=dG) (h2:Φ "_law_deeds_of"=uM) (h3:Φ "_law_form_like"=uL) (ds:List D) (G:DH) (h:Og ds G):aq Φ yV noE (env0 ds 5) G (ends (Oh ds G)):=by
 obtain ⟨p,w,m,rfl,hp,w1,w2,m1⟩:=h;simp_all_arith[yV];refine seq λM hM=>?_;simp_arith[h1];refine bT hp (by omega) (by omega) λn G2 hn hp2 sb2=>?_;simp_arith[ends];rw[show (1:Int)+(n:Int)=((n+1:Nat):Int) by omega];refine hM _ _ (seq λM hM=>?_);simp_arith[h2];refine adf hp2 (by decide) (by decide) λxs G3 x1 x2 x3 hp3 sb3=>?_;refine hM _ _ (seq λM hM=>?_);simp_arith[ends];refine λq hq=>hM _ _ (seq λM hM=>?_);simp_arith[ends];refine λs hs=>hM _ _ (seq λM hM=>?_);have hqs:q≠s:=by rintro rfl;rw[bh]at hs;cases hs
 have hs3:G3 s=none:=by rw[du (Ne.symm hqs)]at hs;exact hs
 have npq:p≠q:=hp3.ne hq;have nps:p≠s:=hp3.ne hs3;have sa4:Sa G3 (aL (aL G3 q (.lst [])) s (.lst [])):=(Sa.new hq).trans (Sa.new hs);have hp4:=hp3.sa sa4;simp_arith![h1];refine bT hp4 (by omega) (by omega) λr G5 hr hp5 sb5=>?_;simp_arith![ends];refine ⟨by omega,?_⟩;refine ForG.inv (P:=λi ρ G'=>(∃o,ρ=[some (.ref p),some (.int w),some (.int m),some (.int ((n+1:Nat):Int)),some (.lst (xs.map D.str)),some (.ref q),some (.ref s),o])/\Pen G' p/\Sb p G G'/\
   ∃rs:List Row,G' q=some (.lst ((rs.map (·.1)).map D.str))/\G' s=some (.lst (rs.map aD))/\rs.length=i/\(∀r∈rs,okF (n+1) r.1)/\∀r∈rs,okD r.2) ⟨⟨_,rfl⟩,hp5,sb2.trans (sb3.trans (sa4.sb.trans sb5)),[],?_,?_,rfl,by simp,by simp⟩ (λ_ _ _ _=>trivial) ?_ ?_
 ·exact sb5 q _ (by rw[du hqs];exact bh) (Ne.symm npq)
 ·exact sb5 s _ bh (Ne.symm nps)
 ·rintro i d ρ G' hd ⟨⟨o,rfl⟩,hp6,sb6,rs,g1,g2,r1,r2,r3⟩ kk hk;have hi:i < r:=by
   have:=(aw.mp hd).1;simpa [bJ] using this
  simp_arith![ends];refine seq λM hM=>?_;simp_arith[h3,dh g1];refine ac5 (fs:=rs.map (·.1)) hp6 (by omega) (by omega) (bU g1) (by simp;omega) (λf hf=>?_) λf G7 hf hp7 sb7=>?_
  ·obtain ⟨r',hr',rfl⟩:=dc.mp hf;exact r2 r' hr'
  have g1':=sb7 q _ g1 (Ne.symm npq);have g2':=sb7 s _ g2 (Ne.symm nps);simp_arith[dh g1'];refine ⟨by simp;have hsz:sz=1000000:=rfl;omega,hM _ _ (last ?_)⟩;have e2:aL G7 q (.lst ((rs.map (·.1)).map D.str++[.str f])) s=some (.lst (rs.map aD)):=by rw[du (Ne.symm hqs)];exact g2'
  have hp8:Pen (aL G7 q (.lst ((rs.map (·.1)).map D.str++[.str f]))) p:=hp7.sb Sb.upd npq;simp_arith[h1,dh e2,bU bh,vV,al];refine bT hp8 (by omega) (by omega) λt G9 ht hp9 sb9=>?_;have e1':=sb9 q _ bh (Ne.symm npq);have e2':=sb9 s _ e2 (Ne.symm nps);simp_arith[dh e2'];refine uD (by omega) (by simp;omega) λx hx=>?_;obtain ⟨dd,hdd,rfl⟩:=dc.mp hx;refine ⟨by decide,by simp;have hsz:sz=1000000:=rfl;omega,hk _ _ ⟨⟨_,rfl⟩,hp9.sb Sb.upd nps,?_,rs++[(f,dd)],?_,?_,by simp[r1],?_,?_⟩⟩
  ·intro b ob hb nb;by_cases hbs:b=s
   ·subst hbs;exfalso;have z:=sb2 b _ hb nb;have z:=sb3 b _ z nb;rw[hs3]at z;cases z
   ·by_cases hbq:b=q
    ·subst hbq;exfalso;have z:=sb2 b _ hb nb;have z:=sb3 b _ z nb;rw[hq]at z;cases z
    ·rw[du hbs];exact sb9 b _ (by rw[du hbq];exact sb7 b _ (sb6 b _ hb nb) nb) nb
  ·rw[du hqs,e1'];simp
  ·rw[bh];simp[aD]
  ·intro r' hr';rcases a9.mp hr' with h |h
   ·exact r2 r' h
   ·rw[a8.mp h];exact hf
  ·intro r' hr';rcases a9.mp hr' with h |h
   ·exact r3 r' h
   ·rw[a8.mp h];exact x3 dd hdd
 ·rintro ρ G' ⟨⟨o,rfl⟩,hp6,sb6,rs,g1,g2,r1,r2,r3⟩;have hl:rs.length=r:=by rw[r1];simp[bJ]
  refine hM _ _ ?_;simp_arith[bU g2];exact ⟨by decide,p,w,m,n+1,rs,rfl,rfl,⟨by omega,by omega,by omega,r2,r3⟩,by omega,by omega,hp6,sb6⟩
def alt(c:Nat):List Nat:=if c=42 then [48,49] else [c]
def step1(acc:List (List Nat))(c:Nat):List (List Nat):=acc.flatMap λt=>(alt c).map λs=>t++[s]
def gU(f:List Nat):List (List Nat):=f.foldl step1 [[]]
def Fits(f w:List Nat):Prop:=f.length=w.length/\∀(i c s:Nat),f[i]?=some c->w[i]?=some s->s∈alt c
theorem adh(f:List Nat)(c:Nat):gU (f++[c])=step1 (gU f) c:=by unfold gU;rw[List.foldl_append];rfl
theorem adi{acc:List (List Nat)}{c:Nat}{w:List Nat}:w∈step1 acc c↔∃t s,t∈acc/\s∈alt c/\w=t++[s]:=by
 unfold step1;rw[List.mem_flatMap];constructor
 ·rintro ⟨t,ht,h⟩;obtain ⟨s,hs,rfl⟩:=dc.mp h;exact ⟨t,s,ht,hs,rfl⟩
 ·rintro ⟨t,s,ht,hs,rfl⟩;exact ⟨t,ht,dc.mpr ⟨s,hs,rfl⟩⟩
theorem zu{f w:List Nat}{c s:Nat}:Fits (f++[c]) (w++[s])↔Fits f w/\s∈alt c:=by
 constructor
 ·rintro ⟨h1,h2⟩;have hl:f.length=w.length:=by simpa using h1
  refine ⟨⟨hl,λi c' s' hc hs=>?_⟩,?_⟩
  ·have i1:=(aw.mp hc).1;exact h2 i c' s' (by rw[eD i1];exact hc) (by rw[eD (by omega)];exact hs)
  ·exact h2 f.length c s (by simp) (by rw[hl];simp)
 ·rintro ⟨⟨h1,h2⟩,h3⟩;refine ⟨by simp[h1],λi c' s' hc hs=>?_⟩;by_cases hi:i < f.length
  ·rw[eD hi]at hc;rw[eD (by omega)]at hs;exact h2 i c' s' hc hs
  ·have i2:=(aw.mp hc).1;simp at i2;have e:i=f.length:=by omega
   subst e;simp at hc;rw[h1]at hs;simp at hs;subst hc hs;exact h3
theorem zx{f w:List Nat}:w∈gU f↔Fits f w:=by
 induction f using acz generalizing w with
 |nil=>
  simp[gU,Fits];constructor
  ·rintro rfl;simp
  ·intro h;exact de.mp h.symm
 |snoc f c ih=>
  rw[adh,adi];constructor
  ·rintro ⟨t,s,ht,hs,rfl⟩;exact zu.mpr ⟨ih.mp ht,hs⟩
  ·intro h;have hl:=h.1;simp at hl;have hne:w≠[]:=by rintro rfl;simp at hl
   refine ⟨w.dropLast,w.getLast hne,?_,?_,(ff hne).symm⟩
   ·rw[<-ff hne]at h;exact ih.mpr (zu.mp h).1
   ·rw[<-ff hne]at h;exact (zu.mp h).2
def orX(S:RF.Spec)(P:List D->String->Prop):RF.Spec where
 A:=S.A ⊕ (String×DH)
 pre:=λds G a=>match a with |.inl a=>S.pre ds G a |.inr c=>c.2=G/\P ds c.1
 post:=λa d G'=>match a with |.inl a=>S.post a d G' |.inr _=>False
 exc:=λa x G'=>match a with |.inl a=>S.exc a x G' |.inr c=>x=⟨c.1,.non⟩/\G'=c.2
theorem mZ{S:RF.Spec}{P:List D->String->Prop}{ds:List D}{G:DH}{k:D->DH->Prop}{E:EK}(h:S.t ds G k E):(orX S P).t ds G k E:=by obtain ⟨a,h1,h2,h3⟩:=h;exact ⟨.inl a,h1,h2,h3⟩
theorem j9{S:RF.Spec}{P:List D->String->Prop}{ds:List D}{G:DH}{k:D->DH->Prop}{E:EK}{C:String}(h:P ds C)(hE:E ⟨C,.non⟩ G):(orX S P).t ds G k E:=
 ⟨.inr (C,G),⟨rfl,h⟩,λ_ _ q=>q.elim,λx G' ⟨e1,e2⟩=>by subst e1 e2;exact hE⟩
theorem zy{Φ:aa}{body:Sxs}{m n:Nat}{S:RF.Spec}{P:List D->String->Prop}(hS:S.exc=λ_ _ _=>False)(h1:∀ds G a,ds.length=n->S.pre ds G a->aq Φ body noE (env0 ds m) G (ends (S.post a)))
  (h2:∀ds G C,P ds C->aq Φ body (λx G'=>x=⟨C,.non⟩/\G'=G) (env0 ds m) G (ends λ_ _=>False)):∀ds G a,ds.length=n->(orX S P).pre ds G a->aq Φ body ((orX S P).exc a) (env0 ds m) G (ends ((orX S P).post a)):=by
 rintro ds G (a |c) hl h
 ·have e:(orX S P).exc (.inl a)=noE:=by show S.exc a=noE;rw[hS];rfl
  rw[e];exact h1 ds G a hl h
 ·obtain ⟨e,hp⟩:=h;subst e;exact h2 ds c.2 c.1 hp
mutual
noncomputable def szA:D->Bool
 |.str l=>decide (l.length<=100000)
 |.tup l=>decide (l.length<=100000)&&bf l
 |.lst l=>decide (l.length<=100000)&&bf l
 |_=>true
noncomputable def bf:List D->Bool
 |[]=>true
 |a::as=>szA a&&bf as
end
theorem Oi{x:D}(h:szA x=true):szd x=true:=by cases x <;> first |rfl | (rw[szA]at h;exact h)
theorem Oj:∀{l:List D}{d:D},bf l=true->d∈l->szA d=true
 |a::as,d,h,m=>by
  rw[bf,ae]at h;rcases aI.mp m with e |m
  ·rw[e];exact h.1
  ·exact Oj h.2 m
theorem Ol:∀{l:List D},(∀d∈l,szA d=true)->bf l=true
 |[],_=>rfl
 |a::l,h=>by rw[bf,h a cb,Ol λd hd=>h d (bp _ hd)];rfl
noncomputable def letters:List Nat:=[97,98,99,100,101,102,103,104,105,106,107,108,109,110,111,112,113,114,115,116,117,118,119,120,121,122]
theorem adk:∀c:Fin 123,97<=c.1->letters.contains c.1=true:=by decide
theorem adl{c:Nat}:letters.contains c=true↔97<=c/\c<=122:=
 ⟨λh=>Oe (aT.mp h),λ⟨h1,h2⟩=>adk ⟨c,Nat.lt_succ_of_le h2⟩ h1⟩
noncomputable def dX:D->Bool
 |.str l=>decide (1<=l.length)&&decide (l.length<=8)&&l.all (λc=>letters.contains c)
 |_=>false
def gh:List D->Option D
 |[x]=>if nr x&&szd x then some (.bl (dX x)) else none
 |_=>none
theorem adm(Φ:aa)(ds:List D)(G:DH)(d:D)(h:gh ds=some d):aq Φ j5 noE (env0 ds 0) G (ends λd' G'=>G'=G/\d'=d):=by
 unfold gh at h;split at h
 ·rename_i x;split at h
  ·rename_i hx;cases h;rw[ae]at hx;cases x with
   |str l=>
    have hl:l.length<=100000:=by simpa [szd] using hx.2
    simp_arith[j5,dX];by_cases hw:1<=l.length
    ·have hb:decide ((1:Int)<=(l.length:Int))=true:=av (by omega);simp_arith[hb];by_cases hw8:l.length<=8
     ·have hb8:decide ((l.length:Int)<=8)=true:=av (by omega);simp_arith[hb8];refine CompG.map (f:=λd=>match d with |.str [c]=>.bl (letters.contains c) |_=>.non) (I:=λρ=>∃o,ρ=[o]) ⟨_,rfl⟩ trivial (by simp;have hsz:sz=1000000:=rfl;omega) ?_ ?_
      ·rintro d ρ hd ⟨o,rfl⟩ kk hk;obtain ⟨c,_,rfl⟩:=dc.mp hd;simp_arith[ends];exact hk _ ⟨_,rfl⟩
      ·rw[List.map_map];simp_arith[Function.comp_def,uB,all_map];simp only[av hw,av hw8,ef,fw]
     ·have hb8:decide ((l.length:Int)<=8)=false:=br (by omega);simp_arith[hb8];simp only[br hw8,ez,e7]
    ·have hb:decide ((1:Int)<=(l.length:Int))=false:=br (by omega);simp_arith[hb];simp only[br hw,e7]
   |ref p=>simp[nr]at hx
   |scr p=>simp[nr]at hx
   |exn p=>simp[nr]at hx
   |obj _ _ _=>simp[nr]at hx
   |_=>simp_arith[j5,dX];try simp
  ·cases h
 ·cases h
def cV(w:Int):D->Bool
 |.tup [a,b]=>isText [48,49,42] w a&&dX b
 |_=>false
def m5:List D->Option D
 |[.int w,x]=>if nr x&&szA x then some (.bl (cV w x)) else none
 |_=>none
theorem adn (Φ:aa) (h1:Φ "is_form"=aJ gf) (h2:Φ "is_deed"=aJ gh) (ds:List D) (G:DH) (d:D) (h:m5 ds=some d):aq Φ fY noE (env0 ds 0) G (ends λd' G'=>G'=G/\d'=d):=by
 unfold m5 at h;split at h
 ·rename_i w x;split at h
  ·rename_i hx;cases h;rw[ae]at hx;cases x with
   |tup l=>
    match l,hx with
    |[],_=>simp_arith[fY,cV];try simp
    |[a],_=>simp_arith[fY,cV];try simp
    |[a,b],hx=>
     simp only[nr,nrs,szA,bf,bS,ae]at hx;obtain ⟨⟨n1,n2⟩,_,s1,s2⟩:=hx;have g1:(nr a&&szd a)=true:=by rw[n1,Oi s1];rfl
     have g2:(nr b&&szd b)=true:=by rw[n2,Oi s2];rfl
     simp_arith[fY,h1,h2];simp_arith[show ((0+1+1:Nat):Int)=2 from rfl,BEq.rfl];refine bc (if_pos g1) ?_;simp_arith[ends];cases ht:isText [48,49,42] w a with
     |false=>simp[cV,ht]
     |true=>
      refine bc (if_pos g2) ?_;simp_arith[ends];simp[cV,ht]
    |a::b::c::r,_=>
     have hb:((((r.length+1+1+1:Nat):Int)==2):Bool)=false:=by rw[cr];omega
     simp_arith[fY,cV,hb]
   |ref p=>simp[nr]at hx
   |scr p=>simp[nr]at hx
   |exn p=>simp[nr]at hx
   |obj _ _ _=>simp[nr]at hx
   |_=>simp_arith[fY,cV];try simp
  ·cases h
 ·cases h
noncomputable def dj:D->Bool
 |.tup [.int w,.tup rows]=>decide (1<=w)&&decide (w<=6)&&decide (rows.length<=12)&&rows.all (cV w)
 |_=>false
def kh:List D->Option D
 |[x]=>if nr x&&szA x then some (.bl (dj x)) else none
 |_=>none
theorem ado (Φ:aa) (h1:Φ "is_width"=aJ mY) (h2:Φ "is_row"=aJ m5) (ds:List D) (G:DH) (d:D) (h:kh ds=some d):aq Φ fZ noE (env0 ds 2) G (ends λd' G'=>G'=G/\d'=d):=by
 unfold kh at h;split at h
 ·rename_i x;split at h
  ·rename_i hx;cases h;rw[ae]at hx;cases x with
   |tup l=>
    match l,hx with
    |[],_=>simp_arith[fZ,dj];try simp
    |[a],_=>simp_arith[fZ,dj];try simp
    |[a,b],hx=>
     simp only[nr,nrs,szA,bf,bS,ae]at hx;obtain ⟨⟨n1,n2⟩,_,s1,s2⟩:=hx;simp_all_arith[fZ];refine seq λM hM=>?_;simp_arith[ends];simp_arith[show ((0+1+1:Nat):Int)=2 from rfl,BEq.rfl];refine hM _ _ (seq λM hM=>?_);simp_arith[ends];refine hM _ _ (seq λM hM=>?_);simp_arith[h1];refine bc (if_pos n1) ?_;simp_arith[ends];cases hw:uJ a with
     |false=>
      have:dj (.tup [a,b])=false:=by
       cases a with
       |int i=>
        have hw:(decide (1<=i)&&decide (i<=6))=false:=hw;cases b <;> simp only[dj]
        rw[hw];simp
       |_=>rfl
      rw[this];simp_arith[ends]
     |true=>
      cases a with
      |int w=>
       have hw':decide (1<=w)=true/\decide (w<=6)=true:=by unfold uJ at hw;simpa using hw
       cases b with
       |tup rows=>
        simp_arith[ends];simp only[nr,szA,ae,bd]at n2 s2;by_cases hr:rows.length<=12
        ·have hd:decide ((12:Int) < (rows.length:Int))=false:=br (by omega);simp_arith[hd];refine hM _ _ ?_;simp_arith[ends];refine CompG.map (f:=λd=>.bl (cV w d)) (I:=λρ=>∃o,ρ=[o,some (.int w)]) ⟨_,rfl⟩ trivial (by have hsz:sz=1000000:=rfl;omega) ?_ ?_
         ·rintro d ρ hd ⟨o,rfl⟩ kk hk;simp_arith[h2];refine bc (if_pos (by rw[uK n2 hd,Oj s2.2 hd];rfl)) ?_;exact hk _ ⟨_,rfl⟩
         ·simp_arith[uB];simp only[dj,hw'.1,hw'.2,av hr,ef,List.all_map,Function.comp_def,id_eq]
        ·have hd:decide ((12:Int) < (rows.length:Int))=true:=av (by omega);simp_arith[hd,dj,br hr,ez,e7]
       |ref p=>simp[nr]at n2
       |scr p=>simp[nr]at n2
       |exn p=>simp[nr]at n2
       |obj _ _ _=>simp[nr]at n2
       |_=>simp_arith[dj];try simp
      |_=>cases hw
    |a::b::c::r,_=>
     have hb:((((r.length+1+1+1:Nat):Int)==2):Bool)=false:=by rw[cr];omega
     simp_arith[fZ,dj,hb]
   |ref p=>simp[nr]at hx
   |scr p=>simp[nr]at hx
   |exn p=>simp[nr]at hx
   |obj _ _ _=>simp[nr]at hx
   |_=>simp_arith[fZ,dj];try simp
  ·cases h
 ·cases h
theorem uO{w:Nat}{l:List Nat}(h:okF w l):isText [48,49,42] (w:Int) (.str l)=true:=by unfold isText;rw[ae];refine ⟨av (by rw[h.1]),bo.mpr λc hc=>?_⟩;rcases h.2 c hc with rfl |rfl |rfl <;> rfl
theorem zA{l:List Nat}(h:okD l):dX (.str l)=true:=by unfold dX;rw[ae,ae];exact ⟨⟨av h.1,av h.2.1⟩,bo.mpr λc hc=>adl.mpr (h.2.2 c hc)⟩
theorem adp{w:Nat}{r:Row}(h1:okF w r.1)(h2:okD r.2):cV (w:Int) (aD r)=true:=by show (isText [48,49,42] (w:Int) (.str r.1)&&dX (.str r.2))=true;rw[uO h1,zA h2];rfl
theorem adq{w:Nat}{rs:List Row}(h:okB w rs):dj (aA w rs)=true:=by unfold aA dj;simp only[ae,bd,al,List.all_map,bo];have:=h.w1;have:=h.w6;refine ⟨⟨⟨by omega,by omega⟩,h.len⟩,λr hr=>adp (h.form r hr) (h.deed r hr)⟩
theorem zB(rs:List Row):nrs (rs.map aD)=true:=yF λd hd=>by obtain ⟨r,_,rfl⟩:=dc.mp hd;rfl
theorem adt(w:Nat)(rs:List Row):nr (aA w rs)=true:=by unfold aA;simp only[nr,nrs,zB,bS]
theorem Om{w:Nat}{rs:List Row}(h:okB w rs):szA (aA w rs)=true:=by unfold aA;simp only[szA,bf,bS,ef,ae,bd,al];have hlen:=h.len;have hw:=h.w6;refine ⟨by simp,by omega,Ol λd hd=>?_⟩;obtain ⟨r,hr,rfl⟩:=dc.mp hd;have h1:=(h.form r hr).1;have h2:=(h.deed r hr).2.1;unfold aD;simp only[szA,bf,bS,ae,bd];exact ⟨by simp,by omega,by omega⟩
def adu:RF.Spec:=bx (λds _=>∃w rs,ds=[aA w rs]/\okB w rs) (λ_ G d G'=>G'=G/\d=.non)
def eV(x:D):Prop:=nr x=true/\szA x=true/\dj x=false
def zE (ds:List D) (C:String):Prop:=C="NoBook"/\∃x,ds=[x]/\eV x
def gW:RF.Spec:=orX adu zE
theorem m6{w:Nat}{rs:List Row}{G:DH}{k:D->DH->Prop}{E:EK}(h:okB w rs)(hk:k .non G):gW.t [aA w rs] G k E:=mZ (bK ⟨w,rs,rfl,h⟩ λd G' ⟨e1,e2⟩=>by subst e1 e2;exact hk)
theorem Oo {x:D} {G:DH} {k:D->DH->Prop} {E:EK} (h:eV x) (hE:E ⟨"NoBook",.non⟩ G):gW.t [x] G k E:=j9 ⟨rfl,x,rfl,h⟩ hE
theorem adv (Φ:aa) (h1:Φ "is_book"=aJ kh) (ds:List D) (G:DH) (h:∃w rs,ds=[aA w rs]/\okB w rs):aq Φ iT noE (env0 ds 0) G (ends λd G'=>G'=G/\d=.non):=by obtain ⟨w,rs,rfl,hb⟩:=h;simp_arith[iT,h1];refine bc (d:=.bl true) (by rw[<-adq hb];exact if_pos (by rw[adt,Om hb];rfl)) ?_;simp_arith[ends]
theorem adw (Φ:aa) (h1:Φ "is_book"=aJ kh) (ds:List D) (G:DH) (C:String) (h:zE ds C):aq Φ iT (λx G'=>x=⟨C,.non⟩/\G'=G) (env0 ds 0) G (ends λ_ _=>False):=by obtain ⟨rfl,x,rfl,hx,hz,hn⟩:=h;simp_arith[iT,h1];refine bc (d:=.bl false) (by rw[<-hn];exact if_pos (by rw[hx,hz];rfl)) ?_;simp_arith[fw]
def zF(c s:Nat):Bool:=c==42||c==s
def kj:List Nat->List Nat->Bool
 |c::f,s::w=>zF c s&&kj f w
 |_,_=>true
def m7(f w:List Nat):Bool:=decide (f.length=w.length)&&kj f w
theorem Oq:∀(f w:List Nat),bL (f.map λc=>D.str [c]) (w.map λc=>D.str [c])=(f.zip w).map λp=>D.tup [.str [p.1],.str [p.2]]
 |[],w=>by simp[bL]
 |c::f,[]=>by simp[bL]
 |c::f,s::w=>by simp[bL,Oq f w]
theorem km{c s:Nat}:(([c]==[s]):Bool)=(c==s):=by
 by_cases h:c=s
 ·subst h;simp
 ·rw[cr.mpr h,cr.mpr (by simp[h])]
theorem Ot{c s:Nat}(hs:s=48\/s=49):zF c s=true↔s∈alt c:=by
 unfold zF alt;by_cases h:c=42
 ·subst h;simp;rcases hs with rfl |rfl <;> simp
 ·simp[h];exact eq_comm
def gY(rs:List Row)(w:List Nat):Option Nat:=rs.findIdx? λr=>m7 r.1 w
def aR:Option Nat->D
 |some n=>.int n
 |none=>.non
theorem Ou{w v:Nat}{rs ss:List Row}(h:aA w rs=aA v ss):w=v/\rs=ss:=by
 unfold aA at h;simp only[D.tup.injEq,cS,D.int.injEq,gi,et]at h;refine ⟨h.1,?_⟩;have h2:=h.2;clear h;induction rs generalizing ss with
 |nil=>cases ss with
  |nil=>rfl
  |cons _ _=>simp at h2
 |cons r rs ih=>cases ss with
  |nil=>simp at h2
  |cons s ss=>
   simp only[bP,cS]at h2;have e:r=s:=by have:=h2.1;unfold aD at this;simp only[D.tup.injEq,cS,D.str.injEq,et]at this;exact Prod.ext this.1 this.2
   rw[e,ih h2.2]
noncomputable def kE(rs:List Row):Option Nat->D
 |some n=>match rs[n]? with |some r=>.str r.2 |none=>.non
 |none=>.non
def uP:RF.Spec:=bx (λds _=>∃w rs o,ds=[aA w rs,aR o]/\∀n,o=some n->n < rs.length) (λds G d G'=>G'=G/\∃w rs o,ds=[aA w rs,aR o]/\d=kE rs o)
theorem adx{a b:Option Nat}(h:aR a=aR b):a=b:=by cases a <;> cases b <;> simp[aR]at h ⊢ <;> omega
theorem Ov{w:Nat}{rs:List Row}{o:Option Nat}{G:DH}{k:D->DH->Prop}{E:EK}(h:∀n,o=some n->n < rs.length)(hk:k (kE rs o) G):uP.t [aA w rs,aR o] G k E:=by refine bK ⟨w,rs,o,rfl,h⟩ λd G' ⟨e1,w2,rs2,o2,e2,e3⟩=>?_;simp only[cS,et]at e2;obtain ⟨e2,e4⟩:=e2;obtain ⟨rfl,rfl⟩:=Ou e2;cases adx e4;subst e1 e3;exact hk
theorem ady(Φ:aa)(ds:List D)(G:DH)(h:∃w rs o,ds=[aA w rs,aR o]/\∀n,o=some n->n < rs.length):aq Φ j8 noE (env0 ds 0) G (ends λd G'=>G'=G/\∃w rs o,ds=[aA w rs,aR o]/\d=kE rs o):=by
 obtain ⟨w,rs,o,rfl,ho⟩:=h;cases o with
 |none=>
  simp_arith[j8,aR];exact ⟨w,rs,none,rfl,rfl⟩
 |some n=>
  have hn:=ho n rfl;simp_arith[j8,aR,aA];refine cG (a:=aD rs[n]) (cB (by simp[hn])) ?_;simp_arith[aD];exact ⟨w,rs,some n,rfl,by simp[kE,hn]⟩
theorem uQ{α β:Type}(f:α->β)(l:List α)(n:Nat):cut (l.map f) none (some (n:Int))=(l.take n).map f:=by rw[uC,List.map_take]
theorem zG{α β:Type}(f:α->β)(l:List α)(n:Nat):cut (l.map f) (some (n:Int)) none=(l.drop n).map f:=by rw[yD,List.map_drop]
theorem okB.sub{w:Nat}{rs ss:List Row}(h:okB w rs)(hl:ss.length<=rs.length)(hs:∀r∈ss,r∈rs):okB w ss:=
 ⟨h.w1,h.w6,cw hl h.len,λr hr=>h.form r (hs r hr),λr hr=>h.deed r (hs r hr)⟩
theorem gZ(c:Nat)(n:Nat):reps [c] n=List.replicate n c:=by
 unfold reps;induction n with
 |zero=>rfl
 |succ n ih=>rw[bv,eM,ih,bv];rfl
theorem adz(w:Nat):okF w (List.replicate w 42):=⟨ck,λc hc=>.inr (.inr (eR hc))⟩
theorem adA{p:Addr}{G:DH}{k:D->DH->Prop}{E:EK}(hp:Pen G p)(hk:∀G',Pen G' p->Sb p G G'->k (.ref p) G'):uI.t [.ref p] G k E:=
 bK ⟨p,rfl,hp⟩ λd G' hx=>by obtain ⟨p2,e1,e2,hp',sb⟩:=hx;cases e1;subst e2;exact hk G' hp' sb
def dY(a b:Nat):Option Nat:=if a=42 then some b else if b=42\/b=a then some a else none
noncomputable def cu:List Nat->List Nat->Option (List Nat)
 |a::f,b::g=>match dY a b with |some c=>(cu f g).map (c::·) |none=>none
 |_,_=>some []
def cW:Option (List Nat)->D
 |some l=>.str l
 |none=>.non
noncomputable def m8:List D->Option D
 |[.str f,.str g]=>if decide (f.length<=100000) then some (cW (cu f g)) else none
 |_=>none
theorem adB{f g:List Nat}{i a b:Nat}(h:(f.zip g)[i]?=some (a,b)):cu (f.drop i) (g.drop i)=match dY a b with |some c=>(cu (f.drop (i+1)) (g.drop (i+1))).map (c::·) |none=>none:=by
 have hz:=aw.mp h;obtain ⟨hl,he⟩:=hz;rw[List.length_zip]at hl;have h1:i < f.length:=by omega
 have h2:i < g.length:=by omega
 rw[List.getElem_zip]at he;rw[b6 h1,b6 h2];simp only[Prod.mk.injEq]at he;rw[he.1,he.2];rfl
theorem adC{f g:List Nat}:cu (f.drop (f.zip g).length) (g.drop (f.zip g).length)=some []:=by
 rw[List.length_zip];by_cases h:f.length<=g.length
 ·rw[Nat.min_eq_left h,eW];cases g.drop f.length <;> rfl
 ·rw[Nat.min_eq_right (by omega),eW];cases f.drop g.length <;> rfl
theorem adD(Φ:aa)(ds:List D)(G:DH)(d:D)(h:m8 ds=some d):aq Φ my noE (env0 ds 3) G (ends λd' G'=>G'=G/\d'=d):=by
 unfold m8 at h;split at h
 ·rename_i f g;split at h
  ·rename_i hl;have hl:=dk hl;cases h;simp_all_arith[my];refine seq λM hM=>?_;simp_arith[ends];refine hM _ _ (seq λM hM=>?_);simp_arith![Oq];refine ForG.inv (P:=λi ρ G'=>(∃o3 o4 m,ρ=[some (.str f),some (.str g),some (.str m),o3,o4]/\m.length=i/\cu f g=(cu (f.drop i) (g.drop i)).map (m ++ ·))/\G'=G) ⟨⟨_,_,[],rfl,rfl,by simp⟩,rfl⟩ (λ_ _ _ _=>trivial) ?_ ?_
   ·rintro i d ρ G' hd ⟨⟨o3,o4,m,rfl,hm,hb⟩,rfl⟩ kk hk;rw[b9]at hd;obtain ⟨⟨a,b⟩,hab,rfl⟩:=bi.mp hd;have hi:=(aw.mp hab).1;rw[List.length_zip]at hi;rw[adB hab]at hb;simp_arith![ends];refine last ?_;have put:∀(c:Nat)(o3 o4:Option D),dY a b=some c->m.length+1<=sz/\kk [some (.str f),some (.str g),some (.str (m++[c])),o3,o4] G':=by
     intro c o3 o4 hc;rw[hc]at hb;refine ⟨by have hsz:sz=1000000:=rfl;omega,hk _ _ ⟨⟨_,_,_,rfl,by simp[hm],?_⟩,rfl⟩⟩;rw[hb,Option.map_map];congr 1;funext x;simp
    simp_arith[km];by_cases h42:a=42
    ·have:((a==42):Bool)=true:=by simp[h42]
     simp_arith[this];exact put b _ _ (if_pos h42)
    ·have h0:((a==42):Bool)=false:=by simp[h42]
     simp_arith[h0,km];by_cases hb42:b=42
     ·have:((b==42):Bool)=true:=by simp[hb42]
      simp_arith[this];exact put a _ _ (by unfold dY;rw[if_neg h42,if_pos (.inl hb42)])
     ·have h1:((b==42):Bool)=false:=by simp[hb42]
      simp_arith[h1,km];by_cases hba:b=a
      ·have:((b==a):Bool)=true:=by simp[hba]
       simp_arith[this];exact put a _ _ (by unfold dY;rw[if_neg h42,if_pos (.inr hba)])
      ·have:((b==a):Bool)=false:=by simp[hba]
       simp_arith[this];have hn:dY a b=none:=by unfold dY;rw[if_neg h42,if_neg (by rintro (h |h);exact hb42 h;exact hba h)]
       rw[hn]at hb;rw[hb];rfl
   ·rintro ρ G' ⟨⟨o3,o4,m,rfl,hm,hb⟩,rfl⟩;rw[al,adC]at hb;refine hM _ _ ?_;simp_arith[ends];rw[hb];simp[cW]
  ·cases h
 ·cases h
noncomputable def ie:List D->Option D
 |[.str f,.int n,.str [c]]=>if decide (0<=n)&&decide (n < f.length)&&decide (f.length<=1000) then some (.str (f.set n.toNat c)) else none
 |_=>none
theorem adE{l:List Nat}{n c:Nat}(h:n < l.length):l.take n++[c]++l.drop (n+1)=l.set n c:=by rw[List.set_eq_take_append_cons_drop,if_pos h];simp
theorem adF(Φ:aa)(ds:List D)(G:DH)(d:D)(h:ie ds=some d):aq Φ mD noE (env0 ds 0) G (ends λd' G'=>G'=G/\d'=d):=by
 unfold ie at h;split at h
 ·rename_i f n c;split at h
  ·rename_i hl;simp only[ae,bd]at hl;obtain ⟨⟨h0,h1⟩,h2⟩:=hl;cases h;obtain ⟨k,rfl⟩:=cy h0;simp_arith[mD,uC,yE,ax,ci,ce,ca,adE (show k < f.length by omega)];exact ⟨by have hsz:sz=1000000:=rfl;omega,by have hsz:sz=1000000:=rfl;omega⟩
  ·cases h
 ·cases h
noncomputable def je:List D->Option D
 |[.int n]=>if decide (0<=n)&&decide (n<=1000) then some (.str (List.replicate n.toNat 42)) else none
 |_=>none
theorem adG(Φ:aa)(ds:List D)(G:DH)(d:D)(h:je ds=some d):aq Φ mK noE (env0 ds 0) G (ends λd' G'=>G'=G/\d'=d):=by
 unfold je at h;split at h
 ·rename_i n;split at h
  ·rename_i hl;simp only[ae,bd]at hl;cases h;simp_arith[mK,gZ];exact ⟨hl.1,hl.2,by have hsz:sz=1000000:=rfl;omega⟩
  ·cases h
 ·cases h
def bG(rs:List Row)(b:List Nat):Option Nat:=rs.findIdx? λr=>(cu r.1 b).isSome
def Ow(ds:List D)(_:DH):Prop:=∃(rs:List Row)(b:List Nat),ds=[.tup (rs.map aD),.str b]/\∀r∈rs,r.1.length<=1000
def Oz(ds:List D)(G:DH)(d:D)(G':DH):Prop:=G'=G/\∃(rs:List Row)(b:List Nat),ds=[.tup (rs.map aD),.str b]/\d=aR (bG rs b)
def m9:RF.Spec:=bx Ow Oz
theorem zH{rs ss:List Row}(h:rs.map aD=ss.map aD):rs=ss:=(Ou (w:=0) (v:=0) (by unfold aA;rw[h])).2
theorem OD{rs:List Row}{b:List Nat}{G:DH}{k:D->DH->Prop}{E:EK}(h:∀r∈rs,r.1.length<=1000)(hk:k (aR (bG rs b)) G):m9.t [.tup (rs.map aD),.str b] G k E:=by refine bK ⟨rs,b,rfl,h⟩ λd G' hx=>?_;obtain ⟨e1,rs2,b2,e2,e3⟩:=hx;simp only[cS,D.str.injEq,D.tup.injEq,et]at e2;obtain ⟨e2,rfl⟩:=e2;cases zH e2;subst e1 e3;exact hk
theorem adH{o:Option (List Nat)}:eU (cW o)=!o.isSome:=by cases o <;> rfl
theorem adI{G:DH}{o:Option (List Nat)}:view G (cW o)=cW o:=by cases o <;> rfl
theorem adJ{rs:List Row}{b:List Nat}{i:Nat}{r:Row}(h:rs[i]?=some r):bG (rs.drop i) b=if (cu r.1 b).isSome then some 0 else (bG (rs.drop (i+1)) b).map (·+1):=by
 have hi:=(aw.mp h).1;have e:rs.drop i=r::rs.drop (i+1):=by rw[b6 hi];rw[(aw.mp h).2]
 rw[e];unfold bG;rw[List.findIdx?_cons]
theorem adK (Φ:aa) (h1:Φ "both"=aJ m8) (ds:List D) (G:DH) (h:Ow ds G):aq Φ mz noE (env0 ds 2) G (ends (Oz ds G)):=by
 obtain ⟨rs,b,rfl,hb⟩:=h;simp_all_arith[mz];refine seq λM hM=>?_;simp_arith![ends];refine ForG.inv (P:=λi ρ G'=>(∃o2 o3,ρ=[some (.tup (rs.map aD)),some (.str b),o2,o3])/\G'=G/\bG rs b=(bG (rs.drop i) b).map (·+i)) ⟨⟨_,_,rfl⟩,rfl,by simp⟩ (λ_ _ _ _=>trivial) ?_ ?_
 ·rintro i d ρ G' hd ⟨⟨o2,o3,rfl⟩,rfl,hmet⟩ kk hk;rw[lX]at hd;obtain ⟨d',hd',rfl⟩:=bi.mp hd;rw[b9]at hd';obtain ⟨r,hr,rfl⟩:=bi.mp hd';have hrl:=hb r (cf hr);rw[adJ hr]at hmet;simp_arith![ends];refine last ?_;simp_arith[h1,aD];refine bc (d:=cW (cu r.1 b)) (if_pos (av (by omega))) ?_;simp_arith[adI,adH];cases hf:(cu r.1 b).isSome with
  |true=>
   rw[hf,if_pos rfl]at hmet;exact ⟨rfl,rs,b,rfl,by rw[hmet];simp[aR]⟩
  |false=>
   rw[hf,if_neg bq]at hmet;refine hk _ _ ⟨⟨_,_,rfl⟩,rfl,?_⟩;rw[hmet,Option.map_map];congr 1;funext n;simp;omega
 ·rintro ρ G' ⟨⟨o2,o3,rfl⟩,rfl,hmet⟩;rw[lW,al,eW]at hmet;refine hM _ _ ?_;simp_arith[ends];exact ⟨rfl,rs,b,rfl,by rw[hmet];rfl⟩
def cQ(f b:List Nat):Option Nat:=(f.zip b).findIdx? λp=>p.2==42&&!(p.1==42)
noncomputable def cX(rs:List Row)(b:List Nat):Option Nat:=match bG rs b with |some n=>(match rs[n]? with |some r=>cQ r.1 b |none=>none) |none=>none
def OJ(ds:List D)(_:DH):Prop:=∃(rs:List Row)(b:List Nat),ds=[.tup (rs.map aD),.str b]/\(∀r∈rs,r.1.length=b.length)/\b.length<=1000
def O1(ds:List D)(G:DH)(d:D)(G':DH):Prop:=G'=G/\∃(rs:List Row)(b:List Nat),ds=[.tup (rs.map aD),.str b]/\d=aR (cX rs b)
def uR:RF.Spec:=bx OJ O1
theorem adL{rs:List Row}{b:List Nat}{G:DH}{k:D->DH->Prop}{E:EK}(h:∀r∈rs,r.1.length=b.length)(hl:b.length<=1000)(hk:k (aR (cX rs b)) G):uR.t [.tup (rs.map aD),.str b] G k E:=by refine bK ⟨rs,b,rfl,h,hl⟩ λd G' hx=>?_;obtain ⟨e1,rs2,b2,e2,e3⟩:=hx;simp only[cS,D.str.injEq,D.tup.injEq,et]at e2;obtain ⟨e2,rfl⟩:=e2;cases zH e2;subst e1 e3;exact hk
theorem uT{rs:List Row}{b:List Nat}{n:Nat}(h:bG rs b=some n):n < rs.length:=(List.findIdx?_eq_some_iff_findIdx_eq.mp h).1
theorem adM{f b:List Nat}{i s c:Nat}(hs:f[i]?=some s)(hc:b[i]?=some c):cQ (f.drop i) (b.drop i)=if (c==42&&!(s==42))=true then some 0 else (cQ (f.drop (i+1)) (b.drop (i+1))).map (·+1):=by have h1:=aw.mp hs;have h2:=aw.mp hc;rw[b6 h1.1,b6 h2.1,h1.2,h2.2];unfold cQ;rw[List.zip_cons_cons,List.findIdx?_cons]
theorem adN (Φ:aa) (h1:Φ "first_touching"=m9) (ds:List D) (G:DH) (h:OJ ds G):aq Φ mC noE (env0 ds 3) G (ends (O1 ds G)):=by
 obtain ⟨rs,b,rfl,hb,hbl⟩:=h;simp_all_arith[mC];refine seq λM hM=>?_;simp_arith[h1];refine OD (λr hr=>by rw[hb r hr];exact hbl) (hM _ _ (seq λM hM=>?_));cases ht:bG rs b with
 |none=>
  simp_arith[aR];exact ⟨rfl,rs,b,rfl,by unfold cX;rw[ht];rfl⟩
 |some n=>
  have hn:=uT ht;have hlen:=hb rs[n] (dP _);have hsp:cX rs b=cQ rs[n].1 b:=by unfold cX;rw[ht];simp[hn]
  simp_arith[aR];refine hM _ _ (seq λM hM=>?_);simp_arith![ends];refine cG (a:=aD rs[n]) (cB (by simp[hn])) ?_;simp_arith![aD];generalize rs[n].1=f at hlen hsp;refine ForG.inv (P:=λi ρ G'=>(∃o3 o4,ρ=[some (.tup (rs.map aD)),some (.str b),some (.int (n:Int)),o3,o4])/\G'=G/\cQ f b=(cQ (f.drop i) (b.drop i)).map (·+i)) ⟨⟨_,_,rfl⟩,rfl,by simp⟩ (λ_ _ _ _=>trivial) ?_ ?_
  ·rintro i d ρ G' hd ⟨⟨o3,o4,rfl⟩,rfl,hs⟩ kk hk;rw[lX]at hd;obtain ⟨d',hd',rfl⟩:=bi.mp hd;rw[b9]at hd';obtain ⟨s,hsi,rfl⟩:=bi.mp hd';have hi:=(aw.mp hsi).1;have hib:i < b.length:=by omega
   have hbi:b[i]?=some b[i]:=by simp[hib]
   rw[adM hsi hbi]at hs;simp_arith![ends];refine last ?_;simp_arith[ends];refine cG (a:=b[i]) (by rw[Nat.zero_add];exact cB hbi) ?_;simp_arith[km];cases h42:(b[i]==42) with
   |false=>
    simp only[h42,e7,if_neg bq]at hs;simp_arith[ends];refine hk _ _ ⟨⟨_,_,rfl⟩,rfl,?_⟩;rw[hs,Option.map_map];congr 1;funext n;simp;omega
   |true=>
    simp_arith[km];cases hs42:(s==42) with
    |true=>
     simp only[h42,hs42,gl,ez,if_neg bq]at hs;simp_arith[ends];refine hk _ _ ⟨⟨_,_,rfl⟩,rfl,?_⟩;rw[hs,Option.map_map];congr 1;funext n;simp;omega
    |false=>
     simp only[h42,hs42,Bool.not_false,bS,if_pos]at hs;simp_arith[ends];exact ⟨rfl,rs,b,rfl,by rw[hsp,hs];simp[aR]⟩
  ·rintro ρ G' ⟨⟨o3,o4,rfl⟩,rfl,hs⟩;rw[lW,al,eW]at hs;refine hM _ _ ?_;simp_arith[ends];exact ⟨rfl,rs,b,rfl,by rw[hsp,hs];simp[cQ,aR]⟩
def kI:List Nat:=[115,112,108,105,116]
def stc(b:List Nat):Nat:=b.countP (·==42)
theorem kJ{b:List Nat}{n c:Nat}(h:b[n]?=some 42)(hc:c≠42):stc (b.set n c)+1=stc b:=by
 obtain ⟨hl,he⟩:=aw.mp h;have e1:b=b.take n++42::b.drop (n+1):=by rw[<-he,<-b6 hl,List.take_append_drop]
 have e2:b.set n c=b.take n++c::b.drop (n+1):=by rw[List.set_eq_take_append_cons_drop,if_pos hl]
 unfold stc;rw[e2];conv=>rhs;rw[e1]
 rw[List.countP_append,List.countP_append,List.countP_cons_of_neg (by simp[hc]),List.countP_cons_of_pos (by simp)];omega
theorem O2{w n c:Nat}{b:List Nat}(h:okF w b)(hc:isF c):okF w (b.set n c):=⟨by rw[d6];exact h.1,λd hd=>by
 rcases List.mem_or_eq_of_mem_set hd with h' |h'
 ·exact h.2 d h'
 ·rw[h'];exact hc⟩
theorem adO:isF 48:=.inl rfl
theorem adP:isF 49:=.inr (.inl rfl)
inductive Gr (name:List Nat) (rss:List (List Row)):List Nat->D->Prop
 |leaf (b:List Nat) (h:∀rs∈rss,cX rs b=none):Gr name rss b (.tup (.str name::rss.map λrs=>aR (bG rs b)))
 |node (b:List Nat) (n:Nat) (z o:D) (h:b[n]?=some 42) (hz:Gr name rss (b.set n 48) z) (ho:Gr name rss (b.set n 49) o):Gr name rss b (.tup [.str kI,.int n,z,o])
def dZ(rss:List (List Row)):List D:=rss.map λrs=>.tup (rs.map aD)
structure okG(w:Nat)(name:List Nat)(rss:List (List Row)):Prop where
 len:rss.length<=100
 nl:name.length<=100
 form:∀rs∈rss,∀r∈rs,r.1.length=w
 w1000:w<=1000
def O3(n:Nat)(ds:List D)(_:DH):Prop:=∃(w:Nat)(name:List Nat)(rss:List (List Row))(b:List Nat),ds=[.str name,.lst (dZ rss),.str b]/\okG w name rss/\b.length=w/\stc b < n
def O4(ds:List D)(G:DH)(d:D)(G':DH):Prop:=G'=G/\∃(name:List Nat)(rss:List (List Row))(b:List Nat),ds=[.str name,.lst (dZ rss),.str b]/\Gr name rss b d
def eX(n:Nat):RF.Spec:=bx (O3 n) O4
theorem adQ{a b:List (List Row)}(h:dZ a=dZ b):a=b:=by
 unfold dZ at h;induction a generalizing b with
 |nil=>cases b with
  |nil=>rfl
  |cons _ _=>simp at h
 |cons x a ih=>cases b with
  |nil=>simp at h
  |cons y b=>
   simp only[bP,cS,D.tup.injEq]at h;rw[zH h.1,ih h.2]
theorem zJ{n w:Nat}{name:List Nat}{rss:List (List Row)}{b:List Nat}{G:DH}{k:D->DH->Prop}{E:EK}(h:okG w name rss)(hb:b.length=w)(hs:stc b < n)(hk:∀d,Gr name rss b d->k d G):(eX n).t [.str name,.lst (dZ rss),.str b] G k E:=by refine bK ⟨w,name,rss,b,rfl,h,hb,hs⟩ λd G' hx=>?_;obtain ⟨e1,name2,rss2,b2,e2,e3⟩:=hx;simp only[cS,D.str.injEq,D.lst.injEq,et]at e2;obtain ⟨rfl,e2,rfl⟩:=e2;cases adQ e2;subst e1;exact hk d e3
theorem adR{f b:List Nat}{n:Nat}(h:cQ f b=some n):b[n]?=some 42:=by unfold cQ at h;have h2:=fN.mp h;obtain ⟨hl,hp,_⟩:=h2;rw[List.length_zip]at hl;rw[List.getElem_zip]at hp;simp only[ae,ar]at hp;rw[bn (by omega),hp.1]
theorem adS{rs:List Row}{b:List Nat}{n:Nat}(h:cX rs b=some n):b[n]?=some 42:=by
 unfold cX at h;split at h
 ·split at h
  ·exact adR h
  ·cases h
 ·cases h
theorem uU{b:List Nat}{n c:Nat}{G:DH}{k:D->DH->Prop}{E:EK}(h:n < b.length)(hl:b.length<=1000)(hk:k (.str (b.set n c)) G):(aJ ie).t [.str b,.int n,.str [c]] G k E:=
 bc (by
  unfold ie;dsimp only;rw[if_pos (by simp only[ae,bd];omega),ca]) hk
theorem adT (Φ:aa) (n:Nat) (h0:Φ "grown"=eX n) (h1:Φ "first_touching"=m9) (h2:Φ "splitting_place"=uR) (h3:Φ "with_sign"=aJ ie) (ds:List D) (G:DH) (h:O3 (n+1) ds G):aq Φ j7 noE (env0 ds 4) G (ends (O4 ds G)):=by
 obtain ⟨w,name,rss,b,rfl,hg,hb,hs⟩:=h;have hw:=hg.w1000;simp_all_arith[j7];refine seq λM hM=>?_;simp_arith![ends];refine ForG.inv (P:=λi ρ G'=>(∃o3 o4 o5 o6,ρ=[some (.str name),some (.lst (dZ rss)),some (.str b),o3,o4,o5,o6])/\G'=G/\∀rs∈rss.take i,cX rs b=none) ⟨⟨_,_,_,_,rfl⟩,rfl,by simp⟩ (λ_ _ _ _=>trivial) ?_ ?_
 ·rintro i d ρ G' hd ⟨⟨o3,o4,o5,o6,rfl⟩,rfl,hall⟩ kk hk;unfold dZ at hd;rw[b9]at hd;obtain ⟨rs,hrs,rfl⟩:=bi.mp hd;simp_arith![ends];refine seq λM hM=>?_;simp_arith[h2];refine adL (λr hr=>by rw[hg.form rs (cf hrs) r hr,hb]) (by omega) (hM _ _ (last ?_));cases hsp:cX rs b with
  |none=>
   simp_arith[aR];refine hk _ _ ⟨⟨_,_,_,_,rfl⟩,rfl,λrs' hrs'=>?_⟩;rw[List.take_add_one,hrs]at hrs';rcases a9.mp hrs' with h |h
   ·exact hall rs' h
   ·have:rs'=rs:=by simpa using h
    rw[this];exact hsp
  |some at'=>
   have hst:=adS hsp;have hat:=(aw.mp hst).1;simp_arith![aR];refine seq λM hM=>?_;simp_arith[h0,h3];refine uU hat (by omega) (zJ hg (by rw[d6];exact hb) (by have:=kJ hst (show 48≠42 by decide);omega) λz hz=>hM _ _ (seq λM hM=>?_));simp_arith[h0,h3];refine uU hat (by omega) (zJ hg (by rw[d6];exact hb) (by have:=kJ hst (show 49≠42 by decide);omega) λo ho=>hM _ _ (last ?_));simp_arith[ends];exact ⟨by decide,rfl,name,rss,b,rfl,.node b at' z o hst hz ho⟩
 ·rintro ρ G' ⟨⟨o3,o4,o5,o6,rfl⟩,rfl,hall⟩;have hlen:(dZ rss).length=rss.length:=al _;rw[hlen,gg]at hall;have hrl:=hg.len;refine hM _ _ ?_;simp_arith[h1];refine ⟨by decide,CompG.inv (P:=λi acc ρ G''=>(∃o,ρ=[o,some (.str b)])/\G''=G'/\acc=(rss.take i).map λrs=>aR (bG rs b)) ⟨⟨_,rfl⟩,rfl,rfl⟩ (λ_ _ _ _ _=>trivial) (by rw[hlen];have hsz:sz=1000000:=rfl;omega) ?_ ?_⟩
  ·rintro i d acc ρ G'' hd ⟨⟨o,rfl⟩,rfl,rfl⟩ kk hk;unfold dZ at hd;rw[b9]at hd;obtain ⟨rs,hrs,rfl⟩:=bi.mp hd;simp_arith[h1];refine OD (λr hr=>by rw[hg.form rs (cf hrs) r hr];omega) (hk _ _ _ ⟨⟨_,rfl⟩,rfl,?_⟩);rw[List.take_add_one,hrs];simp
  ·rintro acc ρ G'' ⟨_,rfl,rfl⟩;rw[hlen,gg];simp_arith[al];exact ⟨by have hsz:sz=1000000:=rfl;omega,rfl,name,rss,b,rfl,.leaf b hall⟩
theorem adU(ds:List D)(G:DH)(a:(eX 0).A):¬(eX 0).pre ds G a:=λ⟨_,_,_,_,_,_,_,_,h⟩=>by omega
theorem adV(w:Nat):stc (List.replicate w 42)<=w:=by have:=List.countP_le_length (p:=(·==42)) (l:=List.replicate w 42);rw[ck]at this;exact this
theorem O5:∀{f b w:List Nat},cu f b=none->(∀s∈w,s=48\/s=49)->Fits b w->kj f w=true->False
 |[],b,w,h,_,_,_=>by cases b <;> cases h
 |a::f,[],w,h,_,_,_=>by cases h
 |a::f,c::b,[],h,_,hf,_=>by have:=hf.1;simp at this
 |a::f,c::b,s::w,h,hw,hf,hz=>by
  rw[kj,ae]at hz;have hs:=hf.2 0 c s rfl rfl;have hf':Fits b w:=⟨by have:=hf.1;simpa using this,λi c' s' h1 h2=>hf.2 (i+1) c' s' (by simpa using h1) (by simpa using h2)⟩;unfold cu at h;cases h1:dY a c with
  |some x=>
   rw[h1]at h;simp only[Option.map_eq_none_iff]at h;exact O5 h (λs hs=>hw s (bp _ hs)) hf' hz.2
  |none=>
   unfold dY at h1;split at h1
   ·cases h1
   ·split at h1
    ·cases h1
    ·rename_i ha hc;have h2:=(Ot (hw s cb)).mp hz.1;unfold alt at hs h2;rw[if_neg ha]at h2;have es:s=a:=by simpa using h2
     split at hs
     ·rename_i e;exact hc (.inl e)
     ·have:s=c:=by simpa using hs
      exact hc (.inr (by omega))
theorem O6:∀{f b w:List Nat},f.length=b.length->(cu f b).isSome=true->cQ f b=none->(∀s∈w,s=48\/s=49)->Fits b w->kj f w=true
 |[],b,w,_,_,_,_,_=>rfl
 |a::f,[],w,h,_,_,_,_=>by simp at h
 |a::f,c::b,[],_,_,_,_,hf=>rfl
 |a::f,c::b,s::w,hl,hb,hs,hw,hf=>by
  have hs0:=hf.2 0 c s rfl rfl;have hf':Fits b w:=⟨by have:=hf.1;simpa using this,λi c' s' h1 h2=>hf.2 (i+1) c' s' (by simpa using h1) (by simpa using h2)⟩;unfold cQ at hs;rw[List.zip_cons_cons,List.findIdx?_cons]at hs;split at hs
  ·cases hs
  ·rename_i hne;have hs':cQ f b=none:=by unfold cQ;simpa using hs
   unfold cu at hb;cases h1:dY a c with
   |none=>rw[h1]at hb;cases hb
   |some x=>
    rw[h1]at hb;have hb':(cu f b).isSome=true:=by simpa using hb
    rw[kj,ae];refine ⟨?_,O6 (by simpa using hl) hb' hs' (λs hs=>hw s (bp _ hs)) hf'⟩;rw[Ot (hw s cb)];by_cases ha:a=42
    ·unfold alt;rw[if_pos ha];rcases hw s cb with e |e <;> simp[e]
    ·have hc:c≠42:=by
      rintro rfl;exact hne (by simp[ha])
     unfold alt at hs0 ⊢;rw[if_neg hc]at hs0;rw[if_neg ha];unfold dY at h1;rw[if_neg ha]at h1;split at h1
     ·rename_i h2;rcases h2 with h2 |h2
      ·exact absurd h2 hc
      ·rw[<-h2];exact hs0
     ·cases h1
theorem adW{rs:List Row}{b l:List Nat}(hf:∀r∈rs,r.1.length=b.length)(hs:cX rs b=none)(hl:∀s∈l,s=48\/s=49)(hb:Fits b l):gY rs l=bG rs b:=by
 have no:∀r∈rs,(cu r.1 b).isSome=false->m7 r.1 l=false:=by
  intro r hr h;cases e:m7 r.1 l with
  |false=>rfl
  |true=>
   unfold m7 at e;rw[ae]at e;exact (O5 (by simpa using h) hl hb e.2).elim
 cases ht:bG rs b with
 |none=>
  unfold bG at ht;unfold gY;rw[List.findIdx?_eq_none_iff]at ht ⊢;exact λr hr=>no r hr (by simpa using ht r hr)
 |some n=>
  have hn:=uT ht;have ht':=fN.mp ht;obtain ⟨_,t1,t2⟩:=ht';unfold gY;rw[fN];refine ⟨hn,?_,λj hj=>?_⟩
  ·have hsf:cQ rs[n].1 b=none:=by
    unfold cX at hs;rw[ht]at hs;simpa [hn] using hs
   have hlen:=hf rs[n] (dP _);unfold m7;rw[ae];exact ⟨av (by rw[hlen,hb.1]),O6 hlen t1 hsf hl hb⟩
  ·have:=no rs[j] (dP _) (by simpa using t2 j hj);simp[this]
noncomputable def uV(name:List Nat)(rss:List (List Row))(b:List Nat):D:=.tup (.str name::rss.map λrs=>aR (bG rs b))
def ni(name:List Nat)(rss:List (List Row))(b:List Nat):D:=.tup [.str b,uV name rss b]
inductive Lv (name:List Nat) (rss:List (List Row)):List Nat->D->List (List Nat)->Prop
 |leaf (b:List Nat) (h:∀rs∈rss,cX rs b=none):Lv name rss b (uV name rss b) [b]
 |node (b:List Nat) (n:Nat) (z o:D) (l m:List (List Nat)) (h:b[n]?=some 42) (hz:Lv name rss (b.set n 48) z l) (ho:Lv name rss (b.set n 49) o m):Lv name rss b (.tup [.str kI,.int n,z,o]) (l++m)
theorem Gr.lv{name:List Nat}{rss:List (List Row)}{b:List Nat}{d:D}(h:Gr name rss b d):∃bs,Lv name rss b d bs:=by
 induction h with
 |leaf b h=>exact ⟨_,.leaf b h⟩
 |node b n z o h _ _ hz ho=>
  obtain ⟨l,hl⟩:=hz;obtain ⟨m,hm⟩:=ho;exact ⟨_,.node b n z o l m h hl hm⟩
theorem Lv.len{name:List Nat}{rss:List (List Row)}{b:List Nat}{d:D}{bs:List (List Nat)}(h:Lv name rss b d bs):bs.length<=2 ^ stc b:=by
 induction h with
 |leaf b h=>exact Nat.one_le_two_pow
 |node b n z o l m h _ _ hz ho=>
  have e1:=kJ h (show 48≠42 by decide);have e2:=kJ h (show 49≠42 by decide);rw[<-e1,Nat.pow_succ,ax];have e3:stc (b.set n 49)=stc (b.set n 48):=by omega
  rw[e3]at ho;omega
theorem Lv.len'{name:List Nat}{rss:List (List Row)}{b:List Nat}{d:D}{bs:List (List Nat)}(h:Lv name rss b d bs)(hb:b.length<=12):bs.length<=4096:=by
 have h1:=h.len;have h2:stc b<=12:=cw (List.countP_le_length) hb;have h3:=Nat.pow_le_pow_right (show 0 < 2 by decide) h2;have h4:2 ^ 12=4096:=by decide
 omega
theorem Lv.box{name:List Nat}{rss:List (List Row)}{b:List Nat}{d:D}{bs:List (List Nat)}(h:Lv name rss b d bs):∀c∈bs,c.length=b.length/\∀rs∈rss,cX rs c=none:=by
 induction h with
 |leaf b h=>intro c hc;rw[a8.mp hc];exact ⟨rfl,h⟩
 |node b n z o l m h _ _ hz ho=>
  intro c hc;rcases a9.mp hc with hc |hc
  ·have:=hz c hc;rw[d6]at this;exact this
  ·have:=ho c hc;rw[d6]at this;exact this
theorem Lv.okf{w:Nat}{name:List Nat}{rss:List (List Row)}{b:List Nat}{d:D}{bs:List (List Nat)}(h:Lv name rss b d bs):okF w b->∀c∈bs,okF w c:=by
 induction h with
 |leaf b h=>intro hb c hc;rw[a8.mp hc];exact hb
 |node b n z o l m h _ _ hz ho=>
  intro hb c hc;rcases a9.mp hc with hc |hc
  ·exact hz (O2 hb adO) c hc
  ·exact ho (O2 hb adP) c hc
theorem adX{w:Nat}{f l:List Nat}(h:okF w f)(hf:Fits f l):∀s∈l,s=48\/s=49:=by
 intro s hs;obtain ⟨i,hi,rfl⟩:=List.getElem_of_mem hs;have hif:i < f.length:=by rw[hf.1];exact hi
 have:=hf.2 i f[i] l[i] (by simp[hif]) (by simp[hi]);rcases h.2 f[i] (dP _) with e |e |e <;> rw[e]at this <;> simp[alt]at this <;> omega
def isPlace(m:Int):D->Bool
 |.int i=>decide (0<=i)&&decide (i < m)
 |_=>false
def dm:List D->Option D
 |[.int m,x]=>if nr x then some (.bl (isPlace m x)) else none
 |_=>none
theorem adY (Φ:aa) (h1:Φ "is_whole"=aJ gR) (ds:List D) (G:DH) (d:D) (h:dm ds=some d):aq Φ mG noE (env0 ds 0) G (ends λd' G'=>G'=G/\d'=d):=by
 unfold dm at h;split at h
 ·rename_i m x;split at h
  ·rename_i hx;cases h;have hf:gR [x]=some (.bl (whole x)):=if_pos hx;simp_arith[mG,h1];refine bc hf ?_;cases x <;> first | (simp[nr]at hx;done) | (simp_arith[whole,isPlace];first | (simp;done) |skip)
   rename_i i;cases hi:decide (0<=i) with
   |true=>simp
   |false=>simp
  ·cases h
 ·cases h
theorem adZ{m i:Nat}{G:DH}{k:D->DH->Prop}{E:EK}(h:i < m)(hk:k (.bl true) G):(aJ dm).t [.int m,.int i] G k E:=
 bc (by unfold dm;simp only[nr,if_true,isPlace];rw[av (by omega),av (by omega)];rfl) hk
noncomputable def gj:List D->Option D
 |[.str name,.int many,.tup (.str s::r)]=>some (.bl ((((r.length+1:Nat):Int)==many+1)&&(s==name)))
 |_=>none
theorem ad0(Φ:aa)(ds:List D)(G:DH)(d:D)(h:gj ds=some d):aq Φ mF noE (env0 ds 0) G (ends λd' G'=>G'=G/\d'=d):=by
 unfold gj at h;split at h
 ·rename_i name many s r;cases h;simp_arith[mF];cases he:(((r.length+1:Nat):Int)==many+1) with
  |false=>simp_arith[e7]
  |true=>simp_arith[ef]
 ·cases h
theorem ad1{name s:List Nat}{m:Int}{r:List D}{G:DH}{k:D->DH->Prop}{E:EK}(h:s≠name)(hk:k (.bl false) G):(aJ gj).t [.str name,.int m,.tup (.str s::r)] G k E:=
 bc (by unfold gj;dsimp only;rw[cr.mpr h,ez]) hk
theorem ad2{name:List Nat}{m:Int}{r:List D}{G:DH}{k:D->DH->Prop}{E:EK}(h:(r.length:Int)=m)(hk:k (.bl true) G):(aJ gj).t [.str name,.int m,.tup (.str name::r)] G k E:=
 bc (by unfold gj;dsimp only;rw[BEq.rfl,bS,ar.mpr (by omega)]) hk
def oI:Option Int->D
 |some i=>.int i
 |none=>.non
inductive T where
 |lf (r:List (Option Int))
 |sp (i:Int) (z o:T)
noncomputable def T.d(name:List Nat):T->D
 |.lf r=>.tup (.str name::r.map oI)
 |.sp i z o=>.tup [.str kI,.int i,z.d name,o.d name]
def T.dep:T->Nat
 |.lf _=>0
 |.sp _ z o=>max z.dep o.dep+1
def jf(b:List Nat)(i:Int):Bool:=decide (0<=i)&&b[i.toNat]?==some 42
noncomputable def T.lvs:T->List Nat->Option (List (List Nat×List (Option Int)))
 |.lf r,b=>some [(b,r)]
 |.sp i z o,b=>match jf b i with
  |true=>(match z.lvs (b.set i.toNat 48),o.lvs (b.set i.toNat 49) with |some l,some m=>some (l++m) |_,_=>none)
  |false=>none
def nq(name:List Nat)(x:List Nat×List (Option Int)):D:=.tup [.str x.1,.tup (.str name::x.2.map oI)]
noncomputable def d7(name:List Nat):Option (List (List Nat×List (Option Int)))->D
 |none=>.non
 |some l=>.lst (l.map (nq name))
theorem T.lvs_len:∀(t:T){b:List Nat}{l:List (List Nat×List (Option Int))},t.lvs b=some l->l.length<=2 ^ t.dep
 |.lf r,b,l,h=>by cases h;exact Nat.one_le_two_pow
 |.sp i z o,b,l,h=>by
  rw[T.lvs]at h;split at h
  ·split at h
   ·rename_i l1 l2 h1 h2;cases h;have e1:=z.lvs_len h1;have e2:=o.lvs_len h2;have e3:=Nat.pow_le_pow_right (show 0 < 2 by decide) (Nat.le_max_left z.dep o.dep);have e4:=Nat.pow_le_pow_right (show 0 < 2 by decide) (Nat.le_max_right z.dep o.dep);rw[ax,T.dep,Nat.pow_succ];omega
   ·cases h
  ·cases h
theorem T.lvs_len'{n:Nat}{t:T}{b:List Nat}{l:List (List Nat×List (Option Int))}(h:t.lvs b=some l)(hn:t.dep < n)(hn':n<=12):l.length<=4096:=by
 have h1:=t.lvs_len h;have h3:=Nat.pow_le_pow_right (show 0 < 2 by decide) (show t.dep<=12 by omega);have h4:2 ^ 12=4096:=by decide
 omega
structure TA where
 name:List Nat
 b:List Nat
 t:T
def O7(n:Nat)(a:TA):Prop:=a.name≠kI/\a.b.length<=12/\a.t.dep < n/\n<=12
def d8(n:Nat):RF.Spec:=fX (λa:TA=>[.str a.b,a.t.d a.name]) (O7 n) (λa=>d7 a.name (a.t.lvs a.b))
theorem zK{n:Nat}{name b:List Nat}{t:T}{G:DH}{k:D->DH->Prop}{E:EK}(h1:name≠kI)(h2:b.length<=12)(h3:t.dep < n)(h4:n<=12)(hk:k (d7 name (t.lvs b)) G):(d8 n).t [.str b,t.d name] G k E:=j0 ⟨name,b,t⟩ rfl ⟨h1,h2,h3,h4⟩ hk
theorem ad3(ds:List D)(G:DH)(a:(d8 0).A):¬(d8 0).pre ds G a:=λ⟨_,_,_,_,h,_⟩=>by omega
theorem ad4{b:List Nat}{i:Int}(h:jf b i=true):0<=i/\∃n:Nat,i=n/\n < b.length/\b[n]?=some 42:=by
 unfold jf at h;rw[ae]at h;have h1:=dk h.1;have h2:b[i.toNat]?=some 42:=by simpa using h.2
 exact ⟨h1,i.toNat,by omega,(aw.mp h2).1,h2⟩
theorem ad5 (Φ:aa) (n:Nat) (h0:Φ "leaves"=d8 n) (h1:Φ "is_named"=aJ gj) (h2:Φ "is_place"=aJ dm) (h3:Φ "with_sign"=aJ ie) (a:TA) (G:DH) (h:O7 (n+1) a):aq Φ iU noE (env0 [.str a.b,a.t.d a.name] 3) G (ends λd G'=>G'=G/\d=d7 a.name (a.t.lvs a.b)):=by
 obtain ⟨name,b,t⟩:=a;obtain ⟨hne,hbl,hd,hn⟩:=h;dsimp only at hne hbl hd ⊢;cases t with
 |lf r=>
  simp_all_arith[iU];refine seq λM hM=>?_;simp_arith[h1,T.d];refine ad1 hne ?_;simp_arith[T.lvs,d7,bP,eL,nq];exact ⟨by decide,by decide⟩
 |sp i z o=>
  rw[T.dep]at hd;simp_all_arith[iU];refine seq λM hM=>?_;simp_arith[h1,T.d];refine ad2 rfl ?_;simp_arith[ends];refine hM _ _ (seq λM hM=>?_);simp_arith[ends];refine hM _ _ (seq λM hM=>?_);simp_arith[h2];refine bc (d:=.bl (isPlace b.length (.int i))) rfl ?_;cases hst:jf b i with
  |false=>
   rw[T.lvs,hst];cases hp:isPlace b.length (.int i) with
   |false=>simp_arith[d7]
   |true=>
    unfold isPlace at hp;rw[ae]at hp;have p1:=dk hp.1;have p2:=dk hp.2;obtain ⟨m,rfl⟩:∃m:Nat,i=m:=⟨i.toNat,by omega⟩;have hm:m < b.length:=by omega
    have hc:b[m]?=some b[m]:=bn hm;have hne42:((b[m]==42):Bool)=false:=by unfold jf at hst;rw[av (by omega),ef,ca,hc]at hst;simpa using hst
    simp_arith[ends];refine cG (a:=b[m]) (cB hc) ?_;simp_arith[km,hne42,d7]
  |true=>
   obtain ⟨_,m,rfl,hm,hc⟩:=ad4 hst;have hp:isPlace b.length (.int (m:Int))=true:=by show (decide (0<=(m:Int))&&decide ((m:Int) < b.length))=true;rw[av (by omega),av (by omega)];rfl
   have hl:(T.sp (m:Int) z o).lvs b=match z.lvs (b.set m 48),o.lvs (b.set m 49) with |some l,some m=>some (l++m) |_,_=>none:=by rw[T.lvs,hst,ca]
   rw[hp];simp_arith[ends];refine cG (a:=42) (cB hc) ?_;simp_arith[BEq.rfl];refine hM _ _ (seq λM hM=>?_);simp_arith[h0,h3];refine uU hm (by omega) (zK hne (by rw[d6];exact hbl) (by omega) (by omega) (hM _ _ (seq λM hM=>?_)));simp_arith[h0,h3];refine uU hm (by omega) (zK hne (by rw[d6];exact hbl) (by omega) (by omega) (hM _ _ (seq λM hM=>?_)));cases e1:z.lvs (b.set m 48) with
   |none=>
    rw[e1]at hl;simp_arith[hl,d7]
   |some l1=>
    cases e2:o.lvs (b.set m 49) with
    |none=>
     rw[e1,e2]at hl;simp_arith[hl,d7]
    |some l2=>
     rw[e1,e2]at hl;have q1:=T.lvs_len' e1 (n:=n) (by omega) (by omega);have q2:=T.lvs_len' e2 (n:=n) (by omega) (by omega);simp_arith[d7];refine hM _ _ (last ?_);simp_arith[al,dy,hl,d7];have hsz:sz=1000000:=rfl;omega
theorem ad6(o:Option Nat):aR o=oI (o.map λn=>(n:Int)):=by cases o <;> rfl
def kO(rss:List (List Row))(c:List Nat):List (Option Int):=rss.map λrs=>(bG rs c).map λn=>(n:Int)
theorem O8{rss:List (List Row)}{c:List Nat}:(kO rss c).map oI=rss.map λrs=>aR (bG rs c):=by unfold kO;rw[List.map_map];exact List.map_congr_left λrs _=>(ad6 _).symm
theorem Lv.tree{name:List Nat}{rss:List (List Row)}{b:List Nat}{d:D}{bs:List (List Nat)}(h:Lv name rss b d bs):∃t:T,d=t.d name/\t.dep<=stc b/\t.lvs b=some (bs.map λc=>(c,kO rss c)):=by
 induction h with
 |leaf b h=>exact ⟨.lf (kO rss b),by rw[T.d,O8];rfl,eK _,rfl⟩
 |node b n z o l m h _ _ hz ho=>
  obtain ⟨tz,rfl,d1,e1⟩:=hz;obtain ⟨tO,rfl,d2,e2⟩:=ho;have s1:=kJ h (show 48≠42 by decide);have s2:=kJ h (show 49≠42 by decide);refine ⟨.sp n tz tO,rfl,?_,?_⟩
  ·rw[T.dep];have:=Nat.max_le.mpr ⟨show tz.dep<=stc (b.set n 48) from d1,show tO.dep<=stc (b.set n 48) by omega⟩;omega
  ·have hs:jf b (n:Int)=true:=by unfold jf;rw[av (by omega),ca,h];rfl
   rw[T.lvs,hs,ca,e1,e2];simp
theorem ad7{name:List Nat}{rss:List (List Row)}{c:List Nat}:nq name (c,kO rss c)=ni name rss c:=by unfold nq ni uV;rw[O8]
theorem ad8{n:Nat}{name:List Nat}{rss:List (List Row)}{b:List Nat}{d:D}{bs:List (List Nat)}{G:DH}{k:D->DH->Prop}{E:EK}(h:Lv name rss b d bs)(h1:name≠kI)(h2:b.length<=12)(h3:stc b < n)(hk:k (.lst (bs.map (ni name rss))) G)(h4:n<=12:=by decide):(d8 n).t [.str b,d] G k E:=by
 obtain ⟨t,rfl,e1,e2⟩:=h.tree;refine zK h1 h2 (by omega) h4 ?_;rw[e2,d7,List.map_map];have:(nq name∘λc=>(c,kO rss c))=ni name rss:=by funext c;exact ad7
 rw[this];exact hk
theorem ad9{p:Addr}{n:Nat}{G:DH}{k:D->DH->Prop}{E:EK}(hp:Pen G p)(hn:n<=1000)(hk:∀(l:List Nat)(G':DH),okF n l->Pen G' p->Sb p G G'->k (.str l) G'):mW.t [.ref p,.int n] G k E:=by refine bK ⟨p,n,rfl,hp,hn⟩ λd G' ⟨p2,n2,l,e1,e2,l1,l2,hp',sb⟩=>?_;simp only[cS,D.ref.injEq,D.int.injEq,gi,et]at e1;obtain ⟨rfl,rfl⟩:=e1;subst e2;exact hk l G' ⟨l1,l2⟩ hp' sb
def gk:List Nat->List (List Nat)
 |[]=>[[]]
 |c::f=>(alt c).flatMap λs=>(gk f).map (s::·)
theorem O9:∀(f:List Nat)(acc:List (List Nat)),f.foldl step1 acc=acc.flatMap λt=>(gk f).map (t ++ ·)
 |[],acc=>by simp[gk]
 |c::f,acc=>by
  rw[List.foldl_cons,O9 f,step1,List.flatMap_assoc];congr 1;funext t;rw[gk,List.flatMap_map,List.map_flatMap];congr 1;funext s;rw[List.map_map];congr 1;funext x;simp
theorem aea(f:List Nat):gU f=gk f:=by unfold gU;rw[O9];simp
def cz(l:List Nat):List Nat:=l.map λa=>if a=42 then 48 else a
noncomputable def kW:List D->Option D
 |[.str l]=>if decide (l.length<=1000) then some (.str (cz l)) else none
 |_=>none
theorem aeb{l:List Nat}{G:DH}{k:D->DH->Prop}{E:EK}(h:l.length<=1000)(hk:k (.str (cz l)) G):(aJ kW).t [.str l] G k E:=bc (if_pos (av h)) hk
theorem aec{b l:List Nat}{n:Nat}(h:Fits b l)(hn:b[n]?=some 42):Fits (b.set n 48) l\/Fits (b.set n 49) l:=by
 obtain ⟨hl,he⟩:=aw.mp hn;have hnl:n < l.length:=by rw[<-h.1];exact hl
 have hs:=h.2 n 42 l[n] hn (bn hnl);have put:∀c,l[n]=c->c≠42->Fits (b.set n c) l:=by
  intro c hc hc42;refine ⟨by rw[d6];exact h.1,λi x y hx hy=>?_⟩;rw[List.getElem?_set]at hx;by_cases hi:n=i
  ·subst hi;rw[if_pos rfl,if_pos hl]at hx;rw[bn hnl]at hy;cases hx;cases hy;unfold alt;rw[if_neg hc42,hc];simp
  ·rw[if_neg hi]at hx;exact h.2 i x y hx hy
 unfold alt at hs;rw[if_pos rfl]at hs;have:l[n]=48\/l[n]=49:=by simpa using hs
 rcases this with e |e
 ·exact .inl (put 48 e (by decide))
 ·exact .inr (put 49 e (by decide))
theorem Pa{b l:List Nat}{n c:Nat}(h:Fits (b.set n c) l)(hn:b[n]?=some 42)(hc:c=48\/c=49):Fits b l:=by
 have hl:=(aw.mp hn).1;refine ⟨by have:=h.1;rwa [d6]at this,λi x y hx hy=>?_⟩;by_cases hi:n=i
 ·subst hi;rw[hn]at hx;cases hx;have:=h.2 n c y (by rw[List.getElem?_set,if_pos rfl,if_pos hl]) hy;unfold alt at this ⊢;rw[if_neg (by omega)]at this;rw[if_pos rfl];have e:y=c:=by simpa using this
  rw[e];simpa using hc
 ·exact h.2 i x y (by rw[List.getElem?_set,if_neg hi];exact hx) hy
theorem Lv.cover{name:List Nat}{rss:List (List Row)}{b:List Nat}{d:D}{bs:List (List Nat)}(h:Lv name rss b d bs):∀l,Fits b l->∃c∈bs,Fits c l:=by
 induction h with
 |leaf b h=>exact λl hl=>⟨b,by simp,hl⟩
 |node b n z o l m h _ _ hz ho=>
  intro w hw;rcases aec hw h with e |e
  ·obtain ⟨c,hc,hf⟩:=hz w e;exact ⟨c,a9.mpr (.inl hc),hf⟩
  ·obtain ⟨c,hc,hf⟩:=ho w e;exact ⟨c,a9.mpr (.inr hc),hf⟩
theorem Lv.within{name:List Nat}{rss:List (List Row)}{b:List Nat}{d:D}{bs:List (List Nat)}(h:Lv name rss b d bs):∀c∈bs,∀l,Fits c l->Fits b l:=by
 induction h with
 |leaf b h=>intro c hc l hl;rw[a8.mp hc]at hl;exact hl
 |node b n z o l m h _ _ hz ho=>
  intro c hc w hw;rcases a9.mp hc with hc |hc
  ·exact Pa (hz c hc w hw) h (.inl rfl)
  ·exact Pa (ho c hc w hw) h (.inr rfl)
theorem aed{a s:Nat}{f l:List Nat}(h:Fits (a::f) (s::l)):s∈alt a/\Fits f l:=
 ⟨h.2 0 a s rfl rfl,by have:=h.1;simpa using this,λi c t h1 h2=>h.2 (i+1) c t (by simpa using h1) (by simpa using h2)⟩
theorem aee{a s:Nat}{f l:List Nat}(h1:s∈alt a)(h2:Fits f l):Fits (a::f) (s::l):=⟨by simp[h2.1],λi c t hc ht=>by
 cases i with
 |zero=>simp at hc ht;rw[<-hc,<-ht];exact h1
 |succ i=>exact h2.2 i c t (by simpa using hc) (by simpa using ht)⟩
theorem zL:∀c:List Nat,Fits c (cz c)
 |[]=>⟨rfl,λi c s h=>by simp at h⟩
 |a::c=>by
  show Fits (a::c) ((if a=42 then 48 else a)::cz c);refine aee ?_ (zL c);unfold alt;split <;> simp
theorem Pb:∀{c l:List Nat},Fits c l->¬l < cz c
 |[],l,h=>by
  have:l=[]:=de.mp h.1.symm;subst this;exact List.lt_irrefl _
 |a::c,[],h=>by have:=h.1;simp at this
 |a::c,s::l,h=>by
  obtain ⟨h1,h2⟩:=aed h;show ¬(s::l) < ((if a=42 then 48 else a)::cz c);rw[gc];have ih:=Pb h2;unfold alt at h1;split at h1
  ·rename_i e;rw[if_pos e];have:s=48\/s=49:=by simpa using h1
   rintro (q |q)
   ·omega
   ·exact ih q.2
  ·rename_i e;rw[if_neg e];have:s=a:=by simpa using h1
   rintro (q |q)
   ·omega
   ·exact ih q.2
theorem Pg:∀{x m a:List Nat},x < m->¬a < m->x < a
 |x,[],a,h,_=>absurd h (by simp)
 |x,b::m,[],_,h=>absurd (by simp) h
 |[],b::m,y::a,_,_=>by simp
 |c::x,b::m,y::a,h,g=>by
  rw[gc]at h g ⊢;have g1:¬y < b:=λe=>g (.inl e);rcases h with h |⟨h1,h2⟩
  ·exact .inl (by omega)
  ·by_cases e:y=b
   ·exact .inr ⟨by omega,Pg h2 λz=>g (.inr ⟨e,z⟩)⟩
   ·exact .inl (by omega)
theorem Ph:∀f:List Nat,(gk f).Pairwise (· < ·)
 |[]=>by simp[gk]
 |c::f=>by
  have ih:=Ph f;have one:∀s:Nat,((gk f).map (s::·)).Pairwise (· < ·):=λs=>List.pairwise_map.mpr (ih.imp λh=>gc.mpr (.inr ⟨rfl,h⟩));rw[gk];unfold alt;split
  ·rw[List.flatMap_cons,List.flatMap_cons,List.flatMap_nil,df,List.pairwise_append];refine ⟨one 48,one 49,λa ha b hb=>?_⟩;obtain ⟨x,_,rfl⟩:=dc.mp ha;obtain ⟨y,_,rfl⟩:=dc.mp hb;exact gc.mpr (.inl (by decide))
  ·rw[List.flatMap_cons,List.flatMap_nil,df];exact one c
theorem aef{u:List (List Nat)}{m:List Nat}(h:u.Pairwise (· < ·))(hm:m∈u)(hl:∀x∈u,¬x < m):u.head?=some m:=by
 cases u with
 |nil=>cases hm
 |cons a u=>
  rcases aI.mp hm with e |hm
  ·rw[e];rfl
  ·exact absurd ((List.pairwise_cons.mp h).1 m hm) (hl a cb)
theorem aeg{ds:List D}{ls:List (List Nat)}{k:D->Prop}(h0:b7 ds=none)(h:bj ds=some ls)(hk:∀m,m∈ls->(∀a,a∈ls->¬a < m)->k (.str m)):opB .min [.lst ds] k:=by show lz [.lst ds] k;unfold lz;dsimp only;rw[h0,h];exact hk
def aeh:RF.Spec:=fX (λa:Nat×List Row×Nat=>[aA a.1 a.2.1,.int a.2.2]) (λa=>okB a.1 a.2.1/\a.2.2 < a.2.1.length) (λ_=>.non)
def dq(rs:List Row)(y:D):Prop:=nr y=true/\isPlace (rs.length:Int) y=false
def nu (ds:List D) (C:String):Prop:=(C="NoBook"/\∃x y,ds=[x,y]/\eV x)\/(C="NoRow"/\∃w rs y,ds=[aA w rs,y]/\okB w rs/\dq rs y)
def jg:RF.Spec:=orX aeh nu
theorem aei{ds:List D}{C:String}(h:nu ds C):∃a b,ds=[a,b]:=by
 rcases h with ⟨_,x,y,e,_⟩ |⟨_,w,rs,y,e,_⟩
 ·exact ⟨_,_,e⟩
 ·exact ⟨_,_,e⟩
theorem uW{w n:Nat}{rs:List Row}{G:DH}{k:D->DH->Prop}{E:EK}(h:okB w rs)(hn:n < rs.length)(hk:k .non G):jg.t [aA w rs,.int n] G k E:=mZ (j0 (w,rs,n) rfl ⟨h,hn⟩ hk)
theorem aej (Φ:aa) (h1:Φ "need_book"=gW) (h2:Φ "is_place"=aJ dm) (a:Nat×List Row×Nat) (G:DH) (h:okB a.1 a.2.1/\a.2.2 < a.2.1.length):aq Φ gQ noE (env0 [aA a.1 a.2.1,.int a.2.2] 0) G (ends λd G'=>G'=G/\d=.non):=by obtain ⟨w,rs,n⟩:=a;obtain ⟨hb,hn⟩:=h;dsimp only at hb hn ⊢;simp_all_arith[gQ];refine seq λM hM=>?_;simp_arith[h1];refine m6 hb (hM _ _ (last ?_));simp_arith[aA,h2,al];refine adZ hn ?_;simp_arith[fw]
theorem aek (Φ:aa) (h1:Φ "need_book"=gW) (h2:Φ "is_place"=aJ dm) (ds:List D) (G:DH) (C:String) (h:nu ds C):aq Φ gQ (λx G'=>x=⟨C,.non⟩/\G'=G) (env0 ds 0) G (ends λ_ _=>False):=by
 rcases h with ⟨rfl,x,y,rfl,hx⟩ |⟨rfl,w,rs,y,rfl,hb,hy,hn⟩
 ·simp_all_arith[gQ];refine seq λM hM=>?_;simp_arith[h1];exact Oo hx ⟨rfl,rfl⟩
 ·have hlen:=hb.len;simp_all_arith[gQ];refine seq λM hM=>?_;simp_arith[h1];refine m6 hb (hM _ _ (last ?_));simp_arith[aA,h2,al];refine bc (d:=.bl false) (by rw[<-hn];exact if_pos hy) ?_;simp_arith[aA,al,fw,et];unfold jF;rw[ae];exact ⟨av (by omega),av (by omega)⟩
theorem ael{w:Nat}{G:DH}{k:D->DH->Prop}{E:EK}(h:w<=1000)(hk:k (.str (List.replicate w 42)) G):(aJ je).t [.int w] G k E:=
 bc (d:=.str (List.replicate w 42)) (by unfold je;dsimp only;rw[if_pos (by simp only[ae,bd];omega),ca]) hk
def Pj:List Nat:=[115,97,109,101]
def Pk:List Nat:=[112,97,114,116,101,100]
def Pn:List Nat:=[97,108,105,107,101]
def uX:RF.Spec:=fX (λa:Nat×List Row×List Row=>[aA a.1 a.2.1,aA a.1 a.2.2]) (λa=>okB a.1 a.2.1/\okB a.1 a.2.2) (λ_=>.non)
theorem aem{w:Nat}{rs ss:List Row}{G:DH}{k:D->DH->Prop}{E:EK}(h:okB w rs)(h':okB w ss)(hk:k .non G):uX.t [aA w rs,aA w ss] G k E:=j0 (w,rs,ss) rfl ⟨h,h'⟩ hk
theorem aen (Φ:aa) (h1:Φ "need_book"=gW) (a:Nat×List Row×List Row) (G:DH) (h:okB a.1 a.2.1/\okB a.1 a.2.2):aq Φ mH noE (env0 [aA a.1 a.2.1,aA a.1 a.2.2] 0) G (ends λd G'=>G'=G/\d=.non):=by obtain ⟨w,rs,ss⟩:=a;obtain ⟨hb,hc⟩:=h;dsimp only at hb hc ⊢;simp_all_arith[mH];refine seq λM hM=>?_;simp_arith[h1];refine m6 hb (hM _ _ (seq λM hM=>?_));simp_arith[h1];refine m6 hc (hM _ _ (last ?_));simp_arith[aA,BEq.rfl,fw]
def bV(rs:List Row)(o:Option Nat):Option (List Nat):=o.bind λn=>rs[n]?.map (·.2)
theorem Pq{rs:List Row}{o:Option Nat}:kE rs o=cW (bV rs o):=by
 cases o with
 |none=>rfl
 |some n=>
  unfold kE bV;dsimp only[Option.bind];cases rs[n]? <;> rfl
structure SD where
 w:Nat
 rs:List Row
 ss:List Row
 name:List Nat
 o:Option Nat
 p:Option Nat
def sSD:RF.Spec:=fX (λa:SD=>[aA a.w a.rs,aA a.w a.ss,.tup [.str a.name,aR a.o,aR a.p]]) (λa=>(∀n,a.o=some n->n < a.rs.length)/\∀n,a.p=some n->n < a.ss.length) (λa=>.bl (bV a.rs a.o==bV a.ss a.p))
theorem aeo{w:Nat}{rs ss:List Row}{name:List Nat}{o p:Option Nat}{G:DH}{k:D->DH->Prop}{E:EK}(h1:∀n,o=some n->n < rs.length)(h2:∀n,p=some n->n < ss.length)(hk:k (.bl (bV rs o==bV ss p)) G):sSD.t [aA w rs,aA w ss,.tup [.str name,aR o,aR p]] G k E:=j0 ⟨w,rs,ss,name,o,p⟩ rfl ⟨h1,h2⟩ hk
theorem aep (Φ:aa) (h1:Φ "deed_of"=uP) (a:SD) (G:DH) (h:(∀n,a.o=some n->n < a.rs.length)/\∀n,a.p=some n->n < a.ss.length):aq Φ mJ noE (env0 [aA a.w a.rs,aA a.w a.ss,.tup [.str a.name,aR a.o,aR a.p]] 0) G (ends λd G'=>G'=G/\d=.bl (bV a.rs a.o==bV a.ss a.p)):=by obtain ⟨w,rs,ss,name,o,p⟩:=a;obtain ⟨ho,hp⟩:=h;dsimp only at ho hp ⊢;simp_arith[mJ,h1];refine Ov ho (Ov hp ?_);rw[Pq,Pq];cases bV rs o <;> cases bV ss p <;> simp_arith[cW] <;> first |done | (simp;done) | (refine ⟨by decide,?_⟩;simp;done)
noncomputable def eY(w:Nat)(rs ss:List Row):List (List Nat):=(gU (List.replicate w 42)).filter λl=>!(bV rs (gY rs l)==bV ss (gY ss l))
def d9(rs ss:List Row)(c:List Nat):Bool:=bV rs (bG rs c)==bV ss (bG ss c)
def zM(w:Nat)(rs ss:List Row)(d:D):Prop:=
 (∃m,(eY w rs ss).head?=some m/\d=.tup [.str Pk,.str m])\/(eY w rs ss=[]/\∃t bs,d=.tup [.str Pn,t]/\Lv Pj [rs,ss] (List.replicate w 42) t bs/\∀c∈bs,d9 rs ss c=true)
def uY:RF.Spec:=ghS (A:=Nat×List Row×List Row) (λa ds _=>ds=[aA a.1 a.2.1,aA a.1 a.2.2]/\okB a.1 a.2.1/\okB a.1 a.2.2) (λa G d G'=>G'=G/\zM a.1 a.2.1 a.2.2 d)
theorem aeq{w:Nat}{rs ss:List Row}{G:DH}{k:D->DH->Prop}{E:EK}(h:okB w rs)(h':okB w ss)(hk:∀d,zM w rs ss d->k d G):uY.t [aA w rs,aA w ss] G k E:=
 cH (w,rs,ss) ⟨rfl,h,h'⟩ λd G' hx=>by
  obtain ⟨e,q⟩:=hx;subst e;exact hk d q
theorem aer (Φ:aa) (h1:Φ "need_two_books"=uX) (h2:Φ "grown"=eX 9) (h3:Φ "leaves"=d8 9) (h4:Φ "least"=aJ kW) (h5:Φ "stars"=aJ je) (h6:Φ "same_deeds"=sSD) (a:Nat×List Row×List Row) (ds:List D) (G:DH) (h:ds=[aA a.1 a.2.1,aA a.1 a.2.2]/\okB a.1 a.2.1/\okB a.1 a.2.2):
  aq Φ mL noE (env0 ds 3) G (ends λd G'=>G'=G/\zM a.1 a.2.1 a.2.2 d):=by
 obtain ⟨w,rs,ss⟩:=a;obtain ⟨rfl,hb,hb'⟩:=h;dsimp only at hb hb' ⊢;have hw6:=hb.w6;have hst:=adV w;have hrl:∀r∈rs,r.1.length=w:=λr hr=>(hb.form r hr).1;have hsl:∀r∈ss,r.1.length=w:=λr hr=>(hb'.form r hr).1;have e0:∀xs:List Row,D.tup [.int w,.tup (xs.map aD)]=aA w xs:=λ_=>rfl;simp_all_arith[mL];refine seq λM hM=>?_;simp_arith[h1];refine aem hb hb' (hM _ _ (seq λM hM=>?_));simp_arith[aA,h5];refine ael (by omega) (hM _ _ (seq λM hM=>?_));simp_arith[h2];have er:[D.tup (rs.map aD),.tup (ss.map aD)]=dZ [rs,ss]:=rfl;rw[er];refine ⟨by decide,zJ (name:=Pj) ⟨by simp,by decide,λxs hxs r hr=>?_,by omega⟩ ck (by omega) λt ht=>hM _ _ (seq λM hM=>?_)⟩
 ·rcases aI.mp hxs with e |hxs
  ·rw[e]at hr;exact hrl r hr
  ·rw[a8.mp hxs]at hr;exact hsl r hr
 obtain ⟨bs,hL⟩:=ht.lv;have hlen:=hL.len' (by rw[ck];omega);simp_arith[h3];refine ad8 hL (by decide) (by rw[ck];omega) (by omega) ?_;simp_arith[ends];refine CompG.inv (P:=λi acc ρ G'=>(∃o1 o2,ρ=[o1,o2,some (.tup [.int w,.tup (rs.map aD)]),some (.tup [.int w,.tup (ss.map aD)])])/\G'=G/\acc=((bs.take i).filter λc=>!d9 rs ss c).map λc=>D.str (cz c)) ⟨⟨_,_,rfl⟩,rfl,rfl⟩ (λ_ _ _ _ _=>trivial) (by rw[al];have hsz:sz=1000000:=rfl;omega) ?_ ?_
 ·rintro i d acc ρ G' hd ⟨⟨o1,o2,rfl⟩,rfl,rfl⟩ kk hk;rw[b9]at hd;obtain ⟨c,hcb,rfl⟩:=bi.mp hd;have hcl:=(hL.box c (cf hcb)).1;rw[ck]at hcl;have htk:bs.take (i+1)=bs.take i++[c]:=by rw[List.take_add_one,hcb];rfl
  simp_arith[ni,uV,bP,eL,h6];rw[e0,e0];refine aeo (λn hn=>uT hn) (λn hn=>uT hn) ?_;have es:(bV rs (bG rs c)==bV ss (bG ss c))=d9 rs ss c:=rfl;rw[es];cases hsb:d9 rs ss c with
  |true=>
   simp_arith[ends];exact hk _ _ _ ⟨⟨_,_,rfl⟩,rfl,by rw[htk,List.filter_append];simp[hsb]⟩
  |false=>
   simp_arith[h4];refine aeb (by omega) (hk _ _ _ ⟨⟨_,_,rfl⟩,rfl,by rw[htk,List.filter_append];simp[hsb]⟩)
 ·rintro acc ρ G' ⟨_,rfl,rfl⟩;rw[al,gg];refine hM _ _ (seq λM hM=>?_);have meet:∀xs∈[rs,ss],∀c∈bs,∀l,Fits c l->gY xs l=bG xs c:=by
   intro xs hxs c hc l hl;obtain ⟨e1,e2⟩:=hL.box c hc;rw[ck]at e1;have okc:=hL.okf (adz w) c hc;refine adW (λr hr=>?_) (e2 _ hxs) (adX okc hl) hl;rcases aI.mp hxs with e |hxs
   ·rw[e]at hr;rw[hrl r hr,e1]
   ·rw[a8.mp hxs]at hr;rw[hsl r hr,e1]
  have both:∀c∈bs,∀l,Fits c l->(bV rs (gY rs l)==bV ss (gY ss l))=d9 rs ss c:=by intro c hc l hl;rw[meet rs (by simp) c hc l hl,meet ss (by simp) c hc l hl];rfl
  cases hfr:bs.filter λc=>!d9 rs ss c with
  |nil=>
   have hall:∀c∈bs,d9 rs ss c=true:=by
    intro c hc;have:=List.filter_eq_nil_iff.mp hfr c hc;cases h:d9 rs ss c with
    |false=>rw[h]at this;exact absurd rfl this
    |true=>rfl
   simp_arith[eL];refine hM _ _ (last ?_);simp_arith[ends];refine ⟨by decide,.inr ⟨?_,t,bs,rfl,hL,hall⟩⟩;unfold eY;rw[List.filter_eq_nil_iff];intro l hl;obtain ⟨c,hc',hfc⟩:=hL.cover l (zx.mp hl);rw[both c hc' l hfc,hall c hc'];simp
  |cons c0 cs=>
   have hne:(!(List.isEmpty (D.str (cz c0)::cs.map λc=>D.str (cz c))))=true:=rfl;simp_arith[bP,hne];rw[<-bP (f:=λc=>D.str (cz c)),<-hfr];have es:bj ((bs.filter λc=>!d9 rs ss c).map λc=>D.str (cz c))=some ((bs.filter λc=>!d9 rs ss c).map cz):=strs_map _ _;have ei:b7 ((bs.filter λc=>!d9 rs ss c).map λc=>D.str (cz c))=none:=by rw[hfr];rfl
   refine aeg ei es λm hm hlow=>?_;obtain ⟨c,hcm,rfl⟩:=dc.mp hm;obtain ⟨hcb,hcn⟩:=fA.mp hcm;refine ⟨by decide,.inl ⟨cz c,?_,rfl⟩⟩;refine aef ?_ ?_ ?_
   ·unfold eY;rw[aea];exact (Ph _).filter _
   ·unfold eY;rw[fA];refine ⟨zx.mpr (hL.within c hcb _ (zL c)),?_⟩;rw[both c hcb _ (zL c)];exact hcn
   ·intro x hx hlt;unfold eY at hx;obtain ⟨hx1,hx2⟩:=fA.mp hx;obtain ⟨c',hc',hfc⟩:=hL.cover x (zx.mp hx1);rw[both c' hc' x hfc]at hx2;have hlow':=hlow (cz c') (dc.mpr ⟨c',fA.mpr ⟨hc',hx2⟩,rfl⟩);exact Pb hfc (Pg hlt hlow')
def nA:RF.Spec:=fX (λa:Nat×List Row×List Row=>[aA a.1 a.2.1,aA a.1 a.2.2]) (λa=>okB a.1 a.2.1/\okB a.1 a.2.2) (λa=>cW (eY a.1 a.2.1 a.2.2).head?)
theorem Pr{w:Nat}{rs ss:List Row}{G:DH}{k:D->DH->Prop}{E:EK}(h:okB w rs)(h':okB w ss)(hk:k (cW (eY w rs ss).head?) G):nA.t [aA w rs,aA w ss] G k E:=j0 (w,rs,ss) rfl ⟨h,h'⟩ hk
theorem aes (Φ:aa) (h1:Φ "alike"=uY) (a:Nat×List Row×List Row) (G:DH) (h:okB a.1 a.2.1/\okB a.1 a.2.2):aq Φ mO noE (env0 [aA a.1 a.2.1,aA a.1 a.2.2] 2) G (ends λd G'=>G'=G/\d=cW (eY a.1 a.2.1 a.2.2).head?):=by
 obtain ⟨w,rs,ss⟩:=a;obtain ⟨hb,hb'⟩:=h;dsimp only at hb hb' ⊢;have eb:(([97,108,105,107,101]==[112,97,114,116,101,100]):Bool)=false:=by decide
 simp_all_arith[mO];refine seq λM hM=>?_;simp_arith[h1];refine aeq hb hb' λd hq=>?_;rcases hq with ⟨m,hm,rfl⟩ |⟨hnil,t,bs,rfl,_,_⟩
 ·simp_arith[Pk];refine hM _ _ (last ?_);simp_arith[BEq.rfl,hm,cW,fw]
 ·simp_arith[Pn];refine hM _ _ (last ?_);simp_arith[eb,hnil,List.head?_nil,cW,fw]
theorem aet{rs:List Row}{n:Nat}(h:n < rs.length):(rs.map aD)[n]?=some (aD (rs.getD n ([],[]))):=by rw[b9,ey,bn h];rfl
def wo(rs:List Row)(n:Nat):List Row:=rs.take n++rs.drop (n+1)
theorem zN{rs:List Row}{n:Nat}(hn:n < rs.length):(wo rs n).length+1=rs.length:=by unfold wo;rw[ax,ci,ce];omega
theorem Pu{w n:Nat}{rs:List Row}(hb:okB w rs)(hn:n < rs.length):okB w (wo rs n):=hb.sub (by have:=zN hn;omega) λr hr=>by
 rcases a9.mp hr with h |h
 ·exact List.mem_of_mem_take h
 ·exact List.mem_of_mem_drop h
def sWo:RF.Spec:=fX (λa:Nat×List Row×Nat=>[aA a.1 a.2.1,.int a.2.2]) (λa=>okB a.1 a.2.1/\a.2.2 < a.2.1.length) (λa=>aA a.1 (wo a.2.1 a.2.2))
theorem Px{w n:Nat}{rs:List Row}{G:DH}{k:D->DH->Prop}{E:EK}(h:okB w rs)(hn:n < rs.length)(hk:k (aA w (wo rs n)) G):sWo.t [aA w rs,.int n] G k E:=j0 (w,rs,n) rfl ⟨h,hn⟩ hk
theorem aeu{α β:Type}(f:α->β)(l:List α)(n:Nat):cut (l.map f) (some ((n:Int)+1)) none=(l.drop (n+1)).map f:=zG f l (n+1)
theorem aev (Φ:aa) (h1:Φ "need_row"=jg) (a:Nat×List Row×Nat) (G:DH) (h:okB a.1 a.2.1/\a.2.2 < a.2.1.length):aq Φ iV noE (env0 [aA a.1 a.2.1,.int a.2.2] 2) G (ends λd G'=>G'=G/\d=aA a.1 (wo a.2.1 a.2.2)):=by obtain ⟨w,rs,n⟩:=a;obtain ⟨hb,hn⟩:=h;dsimp only at hb hn ⊢;have hlen:=hb.len;simp_all_arith[iV];refine seq λM hM=>?_;simp_arith[h1];refine uW hb hn (hM _ _ (seq λM hM=>?_));simp_arith[aA];refine hM _ _ (last ?_);simp_arith[uQ,aeu,al,ci,ce];refine ⟨by have hsz:sz=1000000:=rfl;omega,by decide,?_⟩;unfold wo aA;rw[dy]
def orG(S:RF.Spec)(P:List D->DH->String->Prop):RF.Spec where
 A:=S.A ⊕ (String×DH)
 pre:=λds G a=>match a with |.inl a=>S.pre ds G a |.inr c=>c.2=G/\P ds G c.1
 post:=λa d G'=>match a with |.inl a=>S.post a d G' |.inr _=>False
 exc:=λa x G'=>match a with |.inl a=>S.exc a x G' |.inr c=>x=⟨c.1,.non⟩/\G'=c.2
theorem zO{S:RF.Spec}{P:List D->DH->String->Prop}{ds:List D}{G:DH}{k:D->DH->Prop}{E:EK}(h:S.t ds G k E):(orG S P).t ds G k E:=by obtain ⟨a,h1,h2,h3⟩:=h;exact ⟨.inl a,h1,h2,h3⟩
theorem nF{S:RF.Spec}{P:List D->DH->String->Prop}{ds:List D}{G:DH}{k:D->DH->Prop}{E:EK}{C:String}(h:P ds G C)(hE:E ⟨C,.non⟩ G):(orG S P).t ds G k E:=
 ⟨.inr (C,G),⟨rfl,h⟩,λ_ _ q=>q.elim,λx G' ⟨e1,e2⟩=>by subst e1 e2;exact hE⟩
theorem nG{Φ:aa}{body:Sxs}{m n:Nat}{S:RF.Spec}{P:List D->DH->String->Prop}(hS:S.exc=λ_ _ _=>False)(h1:∀ds G a,ds.length=n->S.pre ds G a->aq Φ body noE (env0 ds m) G (ends (S.post a)))
  (h2:∀ds G C,P ds G C->aq Φ body (λx G'=>x=⟨C,.non⟩/\G'=G) (env0 ds m) G (ends λ_ _=>False)):∀ds G a,ds.length=n->(orG S P).pre ds G a->aq Φ body ((orG S P).exc a) (env0 ds m) G (ends ((orG S P).post a)):=by
 rintro ds G (a |c) hl h
 ·have e:(orG S P).exc (.inl a)=noE:=by show S.exc a=noE;rw[hS];rfl
  rw[e];exact h1 ds G a hl h
 ·obtain ⟨e,hp⟩:=h;subst e;exact h2 ds c.2 c.1 hp
def nH:RF.Spec:=orX sWo nu
theorem aew (Φ:aa) (h1:Φ "need_row"=jg) (ds:List D) (G:DH) (C:String) (h:nu ds C):aq Φ iV (λx G'=>x=⟨C,.non⟩/\G'=G) (env0 ds 2) G (ends λ_ _=>False):=by obtain ⟨a,b,rfl⟩:=aei h;simp_all_arith[iV];refine seq λM hM=>?_;simp_arith[h1];exact j9 h ⟨rfl,rfl⟩
theorem aex{w:Nat}{f:List Nat}(h:okF w f)(hw:w<=6):gf [.int (w:Int),.str f]=some (.bl true):=by rw[<-uO h];exact if_pos (by unfold szd;simp only[nr,ef];exact av (by rw[h.1];omega))
theorem aey{e:List Nat}(h:okD e):gh [.str e]=some (.bl true):=by rw[<-zA h];exact if_pos (by unfold szd;simp only[nr,ef];exact av (by have:=h.2.1;omega))
def oS (q:Addr):D:=.obj "Sieve" "books" q
def stk(w:Nat)(bs:List (List Row)):List D:=bs.map (aA w)
theorem zP(w:Nat)(as:List (List Row))(rs:List Row):stk w (as++[rs])=stk w as++[aA w rs]:=by unfold stk;rw[dy];rfl
theorem zQ(w:Nat)(bs:List (List Row)):(stk w bs).length=bs.length:=al _
structure Sv where
 q:Addr
 w:Nat
 as:List (List Row)
 rs:List Row
def svG(a:Sv)(G:DH):Prop:=G a.q=some (.lst (stk a.w (a.as++[a.rs])))/\a.as.length < 1000/\okB a.w a.rs
def dH:RF.Spec:=ghS (A:=Sv) (λa ds G=>ds=[oS a.q]/\svG a G) (λa G d G'=>G'=G/\d=aA a.w a.rs)
theorem cI{q:Addr}{w:Nat}{as:List (List Row)}{rs:List Row}{G:DH}{k:D->DH->Prop}{E:EK}(h:svG ⟨q,w,as,rs⟩ G)(hk:k (aA w rs) G):dH.t [oS q] G k E:=cH (⟨q,w,as,rs⟩:Sv) ⟨rfl,h⟩ λd G' hx=>by
 obtain ⟨rfl,rfl⟩:=hx;exact hk
theorem aez(Φ:aa)(a:Sv)(ds:List D)(G:DH)(h:ds=[oS a.q]/\svG a G):aq Φ mR noE (env0 ds 0) G (ends λd G'=>G'=G/\d=aA a.w a.rs):=by obtain ⟨q,w,as,rs⟩:=a;obtain ⟨rfl,g,hl,hb⟩:=h;dsimp only at g hl hb ⊢;rw[zP]at g;simp_arith[mR,oS,fM,bU g,vV,fw,true_and]
def tld(w:Nat)(rs ss:List Row):D:=cW (eY w rs ss).head?
def Py(a:Sv×List Row)(ds:List D)(G:DH):Prop:=ds=[oS a.1.q,.tup (a.2.map aD)]/\svG a.1 G/\a.1.as.length < 100/\okB a.1.w a.2
def Pz(a:Sv×List Row)(G:DH)(d:D)(G':DH):Prop:=G'=aL G a.1.q (.lst (stk a.1.w (a.1.as++[a.1.rs]++[a.2])))/\d=tld a.1.w a.1.rs a.2
def kY:RF.Spec:=ghS (A:=Sv×List Row) Py Pz
theorem zR{q:Addr}{w:Nat}{as:List (List Row)}{rs ss:List Row}{G:DH}{k:D->DH->Prop}{E:EK}(h:svG ⟨q,w,as,rs⟩ G)(h1:as.length < 100)(h2:okB w ss)(hk:k (tld w rs ss) (aL G q (.lst (stk w (as++[rs]++[ss]))))):kY.t [oS q,.tup (ss.map aD)] G k E:=cH ((⟨q,w,as,rs⟩,ss):Sv×List Row) ⟨rfl,h,h1,h2⟩ λd G' hx=>by
 obtain ⟨rfl,rfl⟩:=hx;exact hk
theorem aeA:(Str.ofString "book"==Str.ofString "books")=false:=by ac_rfl
theorem aeB:(Str.ofString "turn"==Str.ofString "books")=false:=by ac_rfl
theorem cJ {q:Addr}:dR "Sieve" "book" (.obj "Sieve" "books" q):=⟨rfl,aeA⟩
theorem uZ {q:Addr}:dR "Sieve" "turn" (.obj "Sieve" "books" q):=⟨rfl,aeB⟩
theorem aeC (Φ:aa) (h1:Φ "Sieve.book"=dH) (h2:Φ "parting_word"=nA) (a:Sv×List Row) (ds:List D) (G:DH) (h:Py a ds G):aq Φ mU noE (env0 ds 1) G (ends (Pz a G)):=by obtain ⟨⟨q,w,as,rs⟩,ss⟩:=a;obtain ⟨rfl,hv,h100,hss⟩:=h;have hv':=hv;obtain ⟨g,hl,hb⟩:=hv';dsimp only at g hl hb h100 hss ⊢;simp_all_arith[mU];refine seq λM hM=>?_;simp_arith[oS,h1];refine ⟨cJ,cI hv (hM _ _ (seq λM hM=>?_))⟩;simp_arith[fM,aA,dh g,true_and,zQ];have e0:∀xs:List Row,D.tup [.int w,.tup (xs.map aD)]=aA w xs:=λ_=>rfl;refine ⟨by decide,by rw[ax,d5];have hsz:sz=1000000:=rfl;omega,hM _ _ (last ?_)⟩;rw[e0,e0,<-zP];have hv2:svG ⟨q,w,as++[rs],ss⟩ (aL G q (.lst (stk w (as++[rs]++[ss])))):=⟨bh,by rw[ax,d5];show as.length+1 < 1000;omega,hss⟩;simp_arith[h1,h2];refine ⟨cJ,cI hv2 (Pr hb hss ?_)⟩;exact ⟨rfl,rfl⟩
def eE(rs:List Row)(n:Nat)(r:Row):List Row:=rs.take n++[r]++rs.drop n
theorem zT{w n:Nat}{rs:List Row}{r:Row}(hb:okB w rs)(hl:rs.length < 12)(hf:okF w r.1)(hd:okD r.2):okB w (eE rs n r):=by
 have hm:∀x∈eE rs n r,x∈rs\/x=r:=λx hx=>by
  unfold eE at hx;rcases a9.mp hx with h |h
  ·rcases a9.mp h with h |h
   ·exact .inl (List.mem_of_mem_take h)
   ·exact .inr (a8.mp h)
  ·exact .inl (List.mem_of_mem_drop h)
 refine ⟨hb.w1,hb.w6,?_,λx hx=>?_,λx hx=>?_⟩
 ·unfold eE;rw[ax,ax,ci,ce,d5];omega
 ·rcases hm x hx with h |rfl
  ·exact hb.form x h
  ·exact hf
 ·rcases hm x hx with h |rfl
  ·exact hb.deed x h
  ·exact hd
def mvR(rs:List Row)(n p:Nat):List Row:=eE (wo rs n) p (rs.getD n ([],[]))
theorem getD_mem{rs:List Row}{n:Nat}(hn:n < rs.length):rs.getD n ([],[])∈rs:=by rw[ey,bn hn];exact dP hn
theorem aeD{w n p:Nat}{rs:List Row}(hb:okB w rs)(hn:n < rs.length):okB w (mvR rs n p):=
 zT (Pu hb hn) (by have:=zN hn;have:=hb.len;omega) (hb.form _ (getD_mem hn)) (hb.deed _ (getD_mem hn))
structure Chg where
 s:Sv
 ss:List Row
def jh(a:Chg)(G:DH)(d:D)(G':DH):Prop:=G'=aL G a.s.q (.lst (stk a.s.w (a.s.as++[a.s.rs]++[a.ss])))/\d=tld a.s.w a.s.rs a.ss
structure PutS where
 s:Sv
 n:Nat
 r:Row
def PutS.c(a:PutS):Chg:=⟨a.s,eE a.s.rs a.n a.r⟩
def zU(a:PutS)(ds:List D)(G:DH):Prop:=ds=[oS a.s.q,.int (a.n:Nat),.str a.r.1,.str a.r.2]/\svG a.s G/\a.s.as.length < 50/\a.n<=a.s.rs.length/\a.s.rs.length < 12/\okF a.s.w a.r.1/\okD a.r.2
def aeE:RF.Spec:=ghS (A:=PutS) zU (λa=>jh a.c)
theorem aeF (Φ:aa) (h1:Φ "Sieve.book"=dH) (h2:Φ "Sieve.turn"=kY) (h3:Φ "is_place"=aJ dm) (h4:Φ "is_form"=aJ gf) (h5:Φ "is_deed"=aJ gh) (a:PutS) (ds:List D) (G:DH) (h:zU a ds G):aq Φ jb noE (env0 ds 2) G (ends (jh a.c G)):=by
 obtain ⟨⟨q,w,as,rs⟩,n,f,e⟩:=a;obtain ⟨rfl,hv,h50,hn,h12,hf,hd⟩:=h;have hv':=hv;obtain ⟨g,hl,hb⟩:=hv';dsimp only at g hl hb h50 hn h12 hf hd ⊢;have hw6:=hb.w6;simp_all_arith[jb];refine seq λM hM=>?_;simp_arith[oS,h1];refine ⟨cJ,cI hv ?_⟩;simp_arith[aA];refine hM _ _ (seq λM hM=>?_);simp_arith[h3,al];have hp:isPlace ((rs.length:Int)+1) (.int (n:Int))=true:=by show (decide (0<=(n:Int))&&decide ((n:Int) < (rs.length:Int)+1))=true;rw[av (by omega),av (by omega)];rfl
 refine bc (show dm [.int ((rs.length:Int)+1),.int (n:Int)]=some (.bl true) from by rw[<-hp];rfl) ?_;simp_arith[ends];refine hM _ _ (seq λM hM=>?_);simp_arith[h4,h5];refine bc (aex hf hw6) ?_;simp_arith[ends];refine bc (aey hd) ?_;simp_arith[ends];refine hM _ _ (seq λM hM=>?_);simp_arith[al,br (show ¬(12:Int)<=(rs.length:Int) by omega)];refine hM _ _ (last ?_);simp_arith[h2,uQ,zG,al,ci,ce];have em:(rs.take n).map aD++[D.tup [.str f,.str e]]++(rs.drop n).map aD=(eE rs n (f,e)).map aD:=by unfold eE;rw[dy,dy];rfl
 rw[em];refine ⟨uZ,by decide,by decide,by have hsz:sz=1000000:=rfl;omega,by rw[ax,al,ci,d5];have hsz:sz=1000000:=rfl;omega,?_⟩;exact zR hv (by omega) (zT hb h12 hf hd) ⟨rfl,rfl⟩
structure OutS where
 s:Sv
 n:Nat
def OutS.c(a:OutS):Chg:=⟨a.s,wo a.s.rs a.n⟩
def PK(a:OutS)(ds:List D)(G:DH):Prop:=ds=[oS a.s.q,.int (a.n:Nat)]/\svG a.s G/\a.s.as.length < 50/\a.n < a.s.rs.length
def aeG:RF.Spec:=ghS (A:=OutS) PK (λa=>jh a.c)
theorem aeH (Φ:aa) (h1:Φ "Sieve.book"=dH) (h2:Φ "Sieve.turn"=kY) (h3:Φ "without"=nH) (a:OutS) (ds:List D) (G:DH) (h:PK a ds G):aq Φ iZ noE (env0 ds 0) G (ends (jh a.c G)):=by obtain ⟨⟨q,w,as,rs⟩,n⟩:=a;obtain ⟨rfl,hv,h50,hn⟩:=h;have hv':=hv;obtain ⟨g,hl,hb⟩:=hv';dsimp only at g hl hb h50 hn ⊢;simp_all_arith[iZ];refine last ?_;simp_arith[oS,h1,h2,h3];refine ⟨uZ,cJ,cI hv (mZ (Px hb hn ?_))⟩;simp_arith[aA];exact zR hv (by omega) (Pu hb hn) ⟨rfl,rfl⟩
structure MovS where
 s:Sv
 n:Nat
 p:Nat
def MovS.c(a:MovS):Chg:=⟨a.s,mvR a.s.rs a.n a.p⟩
def PL(a:MovS)(ds:List D)(G:DH):Prop:=ds=[oS a.s.q,.int (a.n:Nat),.int (a.p:Nat)]/\svG a.s G/\a.s.as.length < 50/\a.n < a.s.rs.length/\a.p < a.s.rs.length
def aeI:RF.Spec:=ghS (A:=MovS) PL (λa=>jh a.c)
theorem aeJ (Φ:aa) (h1:Φ "Sieve.book"=dH) (h2:Φ "Sieve.turn"=kY) (h3:Φ "without"=nH) (h4:Φ "need_row"=jg) (a:MovS) (ds:List D) (G:DH) (h:PL a ds G):aq Φ iY noE (env0 ds 2) G (ends (jh a.c G)):=by
 obtain ⟨⟨q,w,as,rs⟩,n,p⟩:=a;obtain ⟨rfl,hv,h50,hn,hp⟩:=h;have hv':=hv;obtain ⟨g,hl,hb⟩:=hv';dsimp only at g hl hb h50 hn hp ⊢;have hlen:=hb.len;have hwl:=zN hn;simp_all_arith[iY];refine seq λM hM=>?_;simp_arith[oS,h1,h4];refine ⟨cJ,cI hv (uW hb hn (hM _ _ (seq λM hM=>?_)))⟩;simp_arith[h1,h4];refine ⟨cJ,cI hv (uW hb hp (hM _ _ (seq λM hM=>?_)))⟩;simp_arith[h1];refine ⟨cJ,cI hv ?_⟩;simp_arith[aA];refine cG (a:=aD (rs.getD n ([],[]))) (cB (aet hn)) (hM _ _ (seq λM hM=>?_));simp_arith[h1,h3];refine ⟨cJ,cI hv (mZ (Px hb hn ?_))⟩;simp_arith[aA];refine hM _ _ (last ?_);simp_arith[h2,uQ,zG,al,ci,ce];have em:((wo rs n).take p).map aD++[aD (rs.getD n ([],[]))]++((wo rs n).drop p).map aD=(mvR rs n p).map aD:=by unfold mvR eE;rw[dy,dy];rfl
 rw[em];refine ⟨uZ,by decide,by have hsz:sz=1000000:=rfl;omega,by rw[ax,al,ci,d5];have hsz:sz=1000000:=rfl;omega,?_⟩;exact zR hv (by omega) (aeD hb hn) ⟨rfl,rfl⟩
def zV(a:Sv×List Row)(G:DH)(d:D)(G':DH):Prop:=G'=aL G a.1.q (.lst (stk a.1.w (a.1.as++[a.1.rs])))/\d=tld a.1.w a.2 a.1.rs
def zW(a:Sv×List Row)(ds:List D)(G:DH):Prop:=ds=[oS a.1.q]/\G a.1.q=some (.lst (stk a.1.w (a.1.as++[a.1.rs]++[a.2])))/\a.1.as.length < 100/\okB a.1.w a.1.rs/\okB a.1.w a.2
def aeK:RF.Spec:=ghS (A:=Sv×List Row) zW zV
theorem aeL (Φ:aa) (h1:Φ "Sieve.book"=dH) (h2:Φ "parting_word"=nA) (a:Sv×List Row) (ds:List D) (G:DH) (h:zW a ds G):aq Φ iW noE (env0 ds 1) G (ends (zV a G)):=by
 obtain ⟨⟨q,w,as,rs⟩,ss⟩:=a;obtain ⟨rfl,g,h100,hb,hss⟩:=h;dsimp only at g h100 hb hss ⊢;have hl:((stk w (as++[rs]++[ss])).length:Int)≠1:=by rw[zQ,ax,ax];simp;omega
 simp_all_arith[iW];refine seq λM hM=>?_;simp_arith[oS,fM,bU g,true_and,cr.mpr hl];refine hM _ _ (seq λM hM=>?_);simp_arith[fM,true_and];unfold gD;dsimp only;rw[g];dsimp only;rw[zP,ax,d5,Nat.add_sub_cancel,List.getElem?_append_right (aE _),Nat.sub_self,List.dropLast_concat];show M _ _;refine hM _ _ (last ?_);have hv2:svG ⟨q,w,as,rs⟩ (aL G q (.lst (stk w (as++[rs])))):=⟨bh,by dsimp only;omega,hb⟩;simp_arith[h1,h2];refine ⟨cJ,cI hv2 (Pr hss hb ?_)⟩;exact ⟨rfl,rfl⟩
def PN:RF.Spec:=ghS (A:=Nat×List Row) (λa ds _=>ds=[aA a.1 a.2]/\okB a.1 a.2) (λa G d G'=>∃q,d=oS q/\G q=none/\G'=aL G q (.lst (stk a.1 [a.2])))
theorem aeM{w:Nat}{rs:List Row}{G:DH}{k:D->DH->Prop}{E:EK}(hb:okB w rs)(hk:∀q,G q=none->k (oS q) (aL G q (.lst (stk w [rs])))):PN.t [aA w rs] G k E:=cH (w,rs) ⟨rfl,hb⟩ λd G' hx=>by
 obtain ⟨q,rfl,hq,rfl⟩:=hx;exact hk q hq
structure PutA where
 s:Sv
 x:D
 y:D
 z:D
def zX(ds:List D)(G:DH)(C:String):Prop:=∃a:PutA,ds=[oS a.s.q,a.x,a.y,a.z]/\svG a.s G/\nr a.x=true/\
 ((C="NoRow"/\isPlace ((a.s.rs.length:Int)+1) a.x=false)\/
  (isPlace ((a.s.rs.length:Int)+1) a.x=true/\nr a.y=true/\szd a.y=true/\
   ((C="NoForm"/\isText [48,49,42] (a.s.w:Int) a.y=false)\/
   (isText [48,49,42] (a.s.w:Int) a.y=true/\nr a.z=true/\szd a.z=true/\
    ((C="NoForm"/\dX a.z=false)\/(C="Full"/\dX a.z=true/\12<=a.s.rs.length))))))
def u5:RF.Spec:=orG aeE zX
theorem PP{n:Int}{x:D}{b:Bool}(h:nr x=true)(hb:isPlace n x=b):dm [.int n,x]=some (.bl b):=by rw[<-hb];exact if_pos h
theorem PQ{w:Nat}{y:D}{b:Bool}(h:nr y=true)(h':szd y=true)(hb:isText [48,49,42] (w:Int) y=b):gf [.int (w:Int),y]=some (.bl b):=by rw[<-hb];exact if_pos (by rw[h,h'];rfl)
theorem P0{z:D}{b:Bool}(h:nr z=true)(h':szd z=true)(hb:dX z=b):gh [z]=some (.bl b):=by rw[<-hb];exact if_pos (by rw[h,h'];rfl)
theorem u6{n:Nat}(h:n<=12):jF (.int (n:Int))=true:=by unfold jF;rw[ae];exact ⟨av (by omega),av (by omega)⟩
theorem aeN (Φ:aa) (h1:Φ "Sieve.book"=dH) (h3:Φ "is_place"=aJ dm) (h4:Φ "is_form"=aJ gf) (h5:Φ "is_deed"=aJ gh) (ds:List D) (G:DH) (C:String) (h:zX ds G C):aq Φ jb (λx G'=>x=⟨C,.non⟩/\G'=G) (env0 ds 2) G (ends λ_ _=>False):=by
 obtain ⟨⟨⟨q,w,as,rs⟩,x,y,z⟩,rfl,hv,hx,h⟩:=h;have hb:=hv.2.2;dsimp only at hb hx h hv ⊢;have hw6:=hb.w6;have hlen:=hb.len;simp_all_arith[jb];refine seq λM hM=>?_;simp_arith[oS,h1];refine ⟨cJ,cI hv ?_⟩;simp_arith[aA];refine hM _ _ (seq λM hM=>?_);simp_arith[h3,al];rcases h with ⟨rfl,hp⟩ |⟨hp,hy,hy',h⟩
 ·refine bc (PP hx hp) ?_;simp_arith[al,fw,et];exact u6 (by omega)
 refine bc (PP hx hp) ?_;simp_arith[ends];refine hM _ _ (seq λM hM=>?_);simp_arith[h4,h5];rcases h with ⟨rfl,hf⟩ |⟨hf,hz,hz',h⟩
 ·refine bc (PQ hy hy' hf) ?_;simp_arith[fw,et];exact u6 (by omega)
 refine bc (PQ hy hy' hf) ?_;simp_arith[ends];rcases h with ⟨rfl,hd⟩ |⟨rfl,hd,h12⟩
 ·refine bc (P0 hz hz' hd) ?_;simp_arith[fw,et];exact u6 (by omega)
 refine bc (P0 hz hz' hd) ?_;simp_arith[ends];refine hM _ _ (seq λM hM=>?_);simp_arith[al,av (show (12:Int)<=(rs.length:Int) by omega)];exact u6 (n:=12) (by decide)
def zY (ds:List D) (G:DH) (C:String):Prop:=C="NoRow"/\∃(a:Sv) (x:D),ds=[oS a.q,x]/\svG a G/\dq a.rs x
def zZ:RF.Spec:=orG aeG zY
theorem aeO (Φ:aa) (h1:Φ "Sieve.book"=dH) (h2:Φ "without"=nH) (ds:List D) (G:DH) (C:String) (h:zY ds G C):aq Φ iZ (λx G'=>x=⟨C,.non⟩/\G'=G) (env0 ds 0) G (ends λ_ _=>False):=by obtain ⟨rfl,⟨q,w,as,rs⟩,x,rfl,hv,hx⟩:=h;have hb:=hv.2.2;dsimp only at hb hx;simp_all_arith[iZ];refine last ?_;simp_arith[oS,h1,h2];exact ⟨uZ,cJ,cI hv (j9 (.inr ⟨rfl,w,rs,x,rfl,hb,hx⟩) ⟨rfl,rfl⟩)⟩
def z6 (ds:List D) (G:DH) (C:String):Prop:=C="NoRow"/\∃(a:Sv) (x y:D),ds=[oS a.q,x,y]/\svG a G/\(dq a.rs x\/((∃n:Nat,x=.int (n:Int)/\n < a.rs.length)/\dq a.rs y))
def z7:RF.Spec:=orG aeI z6
theorem aeP (Φ:aa) (h1:Φ "Sieve.book"=dH) (h2:Φ "need_row"=jg) (ds:List D) (G:DH) (C:String) (h:z6 ds G C):aq Φ iY (λx G'=>x=⟨C,.non⟩/\G'=G) (env0 ds 2) G (ends λ_ _=>False):=by
 obtain ⟨rfl,⟨q,w,as,rs⟩,x,y,rfl,hv,h⟩:=h;have hb:=hv.2.2;dsimp only at hb h;simp_all_arith[iY];refine seq λM hM=>?_;simp_arith[oS,h1,h2];rcases h with hx |⟨⟨n,rfl,hn⟩,hy⟩
 ·exact ⟨cJ,cI hv (j9 (.inr ⟨rfl,w,rs,x,rfl,hb,hx⟩) ⟨rfl,rfl⟩)⟩
 ·refine ⟨cJ,cI hv (uW hb hn (hM _ _ (seq λM hM=>?_)))⟩;simp_arith[h1,h2];exact ⟨cJ,cI hv (j9 (.inr ⟨rfl,w,rs,y,rfl,hb,hy⟩) ⟨rfl,rfl⟩)⟩
def pNo (ds:List D) (G:DH) (C:String):Prop:=C="Nothing"/\∃q w rs,ds=[oS q]/\svG ⟨q,w,[],rs⟩ G
def u9:RF.Spec:=orG aeK pNo
theorem aeQ(Φ:aa)(ds:List D)(G:DH)(C:String)(h:pNo ds G C):aq Φ iW (λx G'=>x=⟨C,.non⟩/\G'=G) (env0 ds 1) G (ends λ_ _=>False):=by
 obtain ⟨rfl,q,w,rs,rfl,hv⟩:=h;have g:=hv.1;dsimp only at g;have hl:((stk w [rs]).length:Int)=1:=by rw[zQ];rfl
 simp_all_arith[iW];refine seq λM hM=>?_;simp_arith[oS,fM,bU g,true_and,hl,BEq.rfl]
def nJ:RF.Spec:=orX PN zE
theorem aeR (Φ:aa) (h1:Φ "need_book"=gW) (h2:Φ "Sieve"=nJ) (d:D) (G:DH) (kk:D->DH->Prop) (E:EK) (h:(Φ "Sieve").t [d] G kk E):(Φ "need_book").t [d] G (λ_ G1=>∀q,G1 q=none->kk (.obj "Sieve" "books" q) (aL G1 q (.lst [d]))) E:=by
 rw[h2]at h;rw[h1];obtain ⟨a |c,hp,hq,he⟩:=h
 ·obtain ⟨⟨w,rs⟩,G0⟩:=a;obtain ⟨e,hd,hb⟩:=hp;dsimp only at e hd hb;have hd:d=aA w rs:=by simpa using hd
  subst e hd;exact m6 hb λq hq'=>hq _ _ ⟨q,rfl,hq',rfl⟩
 ·obtain ⟨e,hC,x,hx,hn⟩:=hp;have hx:d=x:=by simpa using hx
  obtain ⟨C,G0⟩:=c;dsimp only at e hC;subst e hC hx;exact Oo hn (he _ _ ⟨rfl,rfl⟩)
theorem vd{Φ:aa}{ss:Sxs}{E:EK}{ρ:ak}{G:DH}{q:Addr}{L:List D}{Dn:En}(hq:G q=none)(h:∀G1,G1 q=some (.lst L)->Sa G G1->aq Φ ss E ρ G1 Dn):aq Φ ss E ρ (aL G q (.lst L)) Dn:=h _ bh (Sa.new hq)
theorem aeS{Φ:aa}{ss:Sxs}{E:EK}{ρ:ak}{G0 G:DH}{q:Addr}{L:List D}{Dn:En}(hq:G0 q=none)(s:Sa G0 G)(h:∀G1,G1 q=some (.lst L)->Sa G0 G1->aq Φ ss E ρ G1 Dn):aq Φ ss E ρ (aL G q (.lst L)) Dn:=h _ bh (s.then hq Sb.upd)
theorem aeT{p:Addr}{G:DH}{ds:List D}{k:D->DH->Prop}(e:G p=some (.lst ds)):opM .count (.ref p) [.bl true] G k=aX (bools ds) (λbs=>k (.int (bs.count true:Nat)) G):=by unfold opM;dsimp only;rw[bU e];exact yG
theorem aeU{p:Addr}{G:DH}{ds:List D}{k:D->DH->Prop}(e:G p=some (.lst ds)):opM .index (.ref p) [.bl true] G k=aX (bools ds) (λbs=>true∈bs/\k (.int (bs.idxOf true:Nat)) G):=by unfold opM;dsimp only;rw[bU e];exact yH
theorem aeV{p:Addr}{G:DH}{ds:List D}(e:G p=some (.lst ds)):recv .count (.ref p) G=True:=by unfold recv;dsimp only;rw[bU e];rfl
theorem aeW{p:Addr}{G:DH}{ds:List D}(e:G p=some (.lst ds)):recv .index (.ref p) G=True:=by unfold recv;dsimp only;rw[bU e];rfl
noncomputable def eZ (C:String):List Nat:=if C=="NoBook" then [98,111,111,107] else if C=="NoRow" then [114,111,119] else if C=="NoForm" then [102,111,114,109] else if C=="Full" then [102,117,108,108] else [110,111,116,104,105,110,103]
def nM (C:String):Prop:=C="NoBook"\/C="NoRow"\/C="NoForm"\/C="Full"\/C="Nothing"
noncomputable def nO (C:String):List Bool:=[bA C "Full",bA C "NoBook",bA C "NoForm",bA C "NoJoin",bA C "NoLine",bA C "NoMatch",bA C "NoOrder",bA C "NoRow",bA C "NoText",bA C "NoWord",bA C "Nothing",bA C "TooMany",bA C "Turned"]
noncomputable def aeX:List (List Nat):=[[102,117,108,108],[98,111,111,107],[102,111,114,109],[106,111,105,110],[108,105,110,101],[109,97,116,99,104],[111,114,100,101,114],[114,111,119],[116,101,120,116],[119,111,114,100],[110,111,116,104,105,110,103],[109,97,110,121],[116,117,114,110,101,100]]
theorem z8 {C:String} (h:nM C):["NoBook","NoMatch","NoWord","NoRow","NoForm","Full","Nothing"].contains C=true/\bA C "SieveError"=true/\bA C "ValueError"=true/\(nO C).count true=1/\true∈nO C/\atI (aeX.map D.str) ((nO C).idxOf true:Nat)=some (.str (eZ C)):=by rcases h with rfl |rfl |rfl |rfl |rfl;all_goals exact ⟨by decide,by decide,by decide,by decide,by decide,rfl⟩
def vf:RF.Spec:=ghS (A:=String) (λC ds _=>ds=[.exn C]/\nM C) (λC G d G'=>Sa G G'/\d=.str (eZ C))
theorem aeY(Φ:aa)(C:String)(ds:List D)(G:DH)(h:ds=[.exn C]/\nM C):aq Φ yW noE (env0 ds 2) G (ends λd G'=>Sa G G'/\d=.str (eZ C)):=by
 obtain ⟨rfl,hC⟩:=h;obtain ⟨c1,c2,c3,c4,c5,c6⟩:=z8 hC;simp_all_arith[yW];refine seq λM hM=>?_;simp_arith[c1];repeat refine ⟨by first |trivial |decide,?_⟩
 intro q1 hq1;refine hM _ _ (vd hq1 λG1 g1 s1=>seq λM hM=>?_);simp_arith[c1,bU g1];repeat refine ⟨by first |trivial |decide,?_⟩
 intro q2 hq2;refine hM _ _ (vd hq2 λG2 g2 s2=>seq λM hM=>?_);simp_arith[c1,bU g2];repeat refine ⟨by first |trivial |decide,?_⟩
 intro q3 hq3;refine hM _ _ (vd hq3 λG3 g3 s3=>seq λM hM=>?_);simp_arith[c1,bU g3];repeat refine ⟨by first |trivial |decide,?_⟩
 intro q4 hq4;refine hM _ _ (vd hq4 λG4 g4 s4=>seq λM hM=>?_);simp_arith[c1,dh g4];repeat refine ⟨by first |trivial |decide,?_⟩
 refine hM _ _ (aeS hq4 s4 λG5 g5 s5=>seq λM hM=>?_);have sa:Sa G G5:=s1.trans (s2.trans (s3.trans s5));simp_arith[aeV g5,aeT g5,c1];refine cG (a:=nO C) rfl ?_;simp_arith[c4,c2,c3];refine hM _ _ (seq λM hM=>?_);simp_arith[ends];refine ⟨by decide,hM _ _ (last ?_)⟩;simp_arith[aeW g5,aeU g5];refine ⟨by decide,by decide,cG (a:=nO C) rfl ⟨c5,?_⟩⟩;exact cG c6 ⟨sa,rfl⟩
def vg:List Nat:=[112,117,116]
def Qa:List Nat:=[111,117,116]
def Qc:List Nat:=[109,111,118,101]
def vh:List Nat:=[98,97,99,107]
theorem Qd {q:Addr}:dR "Sieve" "put" (.obj "Sieve" "books" q):=⟨rfl,by ac_rfl⟩
theorem aeZ {q:Addr}:dR "Sieve" "out" (.obj "Sieve" "books" q):=⟨rfl,by ac_rfl⟩
theorem ae0 {q:Addr}:dR "Sieve" "move" (.obj "Sieve" "books" q):=⟨rfl,by ac_rfl⟩
theorem Qe {q:Addr}:dR "Sieve" "back" (.obj "Sieve" "books" q):=⟨rfl,by ac_rfl⟩
def ji(a:PutS ⊕ (Sv×List Row))(ds:List D)(G:DH):Prop:=match a with
 |.inl a=>ds=[oS a.s.q,.str vg,.tup [.int (a.n:Nat),.str a.r.1,.str a.r.2]]/\zU a [oS a.s.q,.int (a.n:Nat),.str a.r.1,.str a.r.2] G
 |.inr a=>ds=[oS a.1.q,.str vh,.tup []]/\zW a [oS a.1.q] G
def z9(a:PutS ⊕ (Sv×List Row))(G:DH)(d:D)(G':DH):Prop:=match a with
 |.inl a=>jh a.c G d G'
 |.inr a=>zV a G d G'
def jj(ds:List D)(G:DH)(C:String):Prop:=
 (∃q x y z,ds=[oS q,.str vg,.tup [x,y,z]]/\zX [oS q,x,y,z] G C)\/
 (∃q x,ds=[oS q,.str Qa,.tup [x]]/\zY [oS q,x] G C)\/
 (∃q x y,ds=[oS q,.str Qc,.tup [x,y]]/\z6 [oS q,x,y] G C)\/
 (∃q,ds=[oS q,.str vh,.tup []]/\pNo [oS q] G C)
def Aa:RF.Spec:=orG (ghS (A:=PutS ⊕ (Sv×List Row)) ji z9) jj
theorem ae1{ds:List D}{G:DH}{C:String}(h:jj ds G C):nM C:=by
 rcases h with ⟨q,x,y,z,_,a,_,_,_,h⟩ |⟨q,x,_,rfl,_⟩ |⟨q,x,y,_,rfl,_⟩ |⟨q,_,rfl,_⟩
 ·rcases h with ⟨rfl,_⟩ |⟨_,_,_,⟨rfl,_⟩ |⟨_,_,_,⟨rfl,_⟩ |⟨rfl,_⟩⟩⟩
  ·exact .inr (.inl rfl)
  ·exact .inr (.inr (.inl rfl))
  ·exact .inr (.inr (.inl rfl))
  ·exact .inr (.inr (.inr (.inl rfl)))
 ·exact .inr (.inl rfl)
 ·exact .inr (.inl rfl)
 ·exact .inr (.inr (.inr (.inr rfl)))
theorem ae2 (Φ:aa) (h1:Φ "Sieve.put"=u5) (h4:Φ "Sieve.back"=u9) (a:PutS ⊕ (Sv×List Row)) (ds:List D) (G:DH) (h:ji a ds G):aq Φ gb noE (env0 ds 0) G (ends (z9 a G)):=by
 rcases a with a |a
 ·obtain ⟨rfl,h⟩:=h;simp_arith[gb,vg,oS,BEq.rfl,h1];exact ⟨Qd,zO (cH a h λd G' hx=>hx)⟩
 ·obtain ⟨rfl,h⟩:=h;have e1:(([98,97,99,107]:List Nat)==[112,117,116])=false:=by decide
  have e2:(([98,97,99,107]:List Nat)==[111,117,116])=false:=by decide
  have e3:(([98,97,99,107]:List Nat)==[109,111,118,101])=false:=by decide
  simp_arith[gb,vh,oS,e1,e2,e3,h4];exact ⟨Qe,zO (cH a h λd G' hx=>hx)⟩
theorem ae3 (Φ:aa) (h1:Φ "Sieve.put"=u5) (h2:Φ "Sieve.out"=zZ) (h3:Φ "Sieve.move"=z7) (h4:Φ "Sieve.back"=u9) (ds:List D) (G:DH) (C:String) (h:jj ds G C):aq Φ gb (λx G'=>x=⟨C,.non⟩/\G'=G) (env0 ds 0) G (ends λ_ _=>False):=by
 have e1:(([98,97,99,107]:List Nat)==[112,117,116])=false:=by decide
 have e2:(([98,97,99,107]:List Nat)==[111,117,116])=false:=by decide
 have e3:(([98,97,99,107]:List Nat)==[109,111,118,101])=false:=by decide
 have e4:(([111,117,116]:List Nat)==[112,117,116])=false:=by decide
 have e5:(([109,111,118,101]:List Nat)==[112,117,116])=false:=by decide
 have e6:(([109,111,118,101]:List Nat)==[111,117,116])=false:=by decide
 rcases h with ⟨q,x,y,z,rfl,h⟩ |⟨q,x,rfl,h⟩ |⟨q,x,y,rfl,h⟩ |⟨q,rfl,h⟩
 ·simp_arith[gb,vg,oS,BEq.rfl,h1];exact ⟨Qd,nF h ⟨rfl,rfl⟩⟩
 ·simp_arith[gb,Qa,oS,BEq.rfl,e4,h2];exact ⟨aeZ,nF h ⟨rfl,rfl⟩⟩
 ·simp_arith[gb,Qc,oS,BEq.rfl,e5,e6,h3];exact ⟨ae0,nF h ⟨rfl,rfl⟩⟩
 ·simp_arith[gb,vh,oS,e1,e2,e3,h4];exact ⟨Qe,nF h ⟨rfl,rfl⟩⟩
def nP:List Nat:=[116,111,108,100]
def Qf(a:(PutS ⊕ (Sv×List Row)) ⊕ String)(ds:List D)(G:DH):Prop:=match a with
 |.inl b=>ji b ds G
 |.inr C=>jj ds G C
def Qg(a:(PutS ⊕ (Sv×List Row)) ⊕ String)(G:DH)(d:D)(G':DH):Prop:=match a with
 |.inl b=>d=.str nP/\∃d',z9 b G d' G'
 |.inr C=>d=.str (eZ C)/\Sa G G'
def cY:RF.Spec:=ghS (A:=(PutS ⊕ (Sv×List Row)) ⊕ String) Qf Qg
theorem jk{ds:List D}{G:DH}{C:String}{k:D->DH->Prop}{E:EK}(h:jj ds G C)(hk:∀G',Sa G G'->k (.str (eZ C)) G'):cY.t ds G k E:=cH (.inr C) h λd G' hx=>by
 obtain ⟨rfl,s⟩:=hx;exact hk G' s
theorem ae4{a:PutS}{ds:List D}{G:DH}{k:D->DH->Prop}{E:EK}(h:ji (.inl a) ds G)(hk:k (.str nP) (aL G a.s.q (.lst (stk a.s.w (a.s.as++[a.s.rs]++[a.c.ss]))))):cY.t ds G k E:=cH (.inl (.inl a)) h λd G' hx=>by
 obtain ⟨rfl,d',rfl,_⟩:=hx;exact hk
theorem ae5{a:Sv×List Row}{ds:List D}{G:DH}{k:D->DH->Prop}{E:EK}(h:ji (.inr a) ds G)(hk:k (.str nP) (aL G a.1.q (.lst (stk a.1.w (a.1.as++[a.1.rs]))))):cY.t ds G k E:=cH (.inl (.inr a)) h λd G' hx=>by
 obtain ⟨rfl,d',rfl,_⟩:=hx;exact hk
theorem ae6{a:PutS ⊕ (Sv×List Row)}{ds:List D}{G:DH}(h:ji a ds G):∃x y z,ds=[x,y,z]:=by rcases a with a |a <;> exact ⟨_,_,_,h.1⟩
theorem ae7{ds:List D}{G:DH}{C:String}(h:jj ds G C):∃x y z,ds=[x,y,z]:=by rcases h with ⟨_,_,_,_,e,_⟩ |⟨_,_,e,_⟩ |⟨_,_,_,e,_⟩ |⟨_,e,_⟩ <;> exact ⟨_,_,_,e⟩
theorem ae8 (Φ:aa) (h1:Φ "_law_do"=Aa) (h2:Φ "_law_refusal"=vf) (a:(PutS ⊕ (Sv×List Row)) ⊕ String) (ds:List D) (G:DH) (h:Qf a ds G):aq Φ uG noE (env0 ds 2) G (ends λd G'=>Qg a G d G'):=by
 rcases a with b |C
 ·have h:ji b ds G:=h;obtain ⟨x,y,z,rfl⟩:=ae6 h;simp_all_arith[uG];refine seq λM hM=>?_;simp_arith[ends];refine hM _ _ (seq λM hM=>?_);simp_arith[h1];refine zO (cH b h λd G' s=>hM _ _ (seq λM hM=>?_));simp_arith[ends];exact ⟨rfl,d,s⟩
 ·have h:jj ds G C:=h;have hi:=ae1 h;obtain ⟨c1,c2,_⟩:=z8 hi;obtain ⟨x,y,z,rfl⟩:=ae7 h;simp_all_arith[uG];refine seq λM hM=>?_;simp_arith[ends];refine hM _ _ (seq λM hM=>?_);simp_arith[h1];refine nF h ⟨rfl,c1,c2,hM _ _ (seq λM hM=>?_)⟩;simp_arith[caught,jB];refine hM _ _ (last ?_);simp_arith[h2];refine cH C ⟨rfl,hi⟩ λd G' hx=>?_;obtain ⟨s,rfl⟩:=hx;exact ⟨rfl,s⟩
def vm:RF.Spec:=ghS (A:=D) (λx ds _=>ds=[x]/\eV x) (λ_ G d G'=>Sa G G'/\d=.bl true)
theorem ae9{x:D}{G:DH}{k:D->DH->Prop}{E:EK}(h:eV x)(hk:∀G',Sa G G'->k (.bl true) G'):vm.t [x] G k E:=cH x ⟨rfl,h⟩ λd G' hx=>by
 obtain ⟨s,rfl⟩:=hx;exact hk G' s
theorem afa (Φ:aa) (h1:Φ "Sieve"=nJ) (h2:Φ "_law_refusal"=vf) (x:D) (ds:List D) (G:DH) (h:ds=[x]/\eV x):aq Φ za noE (env0 ds 2) G (ends λd G'=>Sa G G'/\d=.bl true):=by
 obtain ⟨rfl,hn⟩:=h;have hi:nM "NoBook":=.inl rfl;obtain ⟨c1,c2,_⟩:=z8 hi;simp_all_arith[za];refine seq λM hM=>?_;simp_arith[ends];refine hM _ _ (seq λM hM=>?_);simp_arith[h1];refine j9 ⟨rfl,x,rfl,hn⟩ ⟨rfl,c1,c2,hM _ _ (last ?_)⟩;simp_arith[caught,jB,h2];refine cH "NoBook" ⟨rfl,hi⟩ λd G' hx=>?_;obtain ⟨s,rfl⟩:=hx;have e:eZ "NoBook"=[98,111,111,107]:=by ac_rfl
 rw[e];exact ⟨rfl,s,rfl⟩
def jl(w:Nat)(y:D):Prop:=nr y=true/\szd y=true/\isText [48,49,42] (w:Int) y=false
theorem nQ{w:Nat}{l:List Nat}(h:l.length≠w)(hl:l.length<=100):jl w (.str l):=⟨rfl,av (by omega),by show (decide ((l.length:Int)=w)&&_)=false;rw[br (by omega)];rfl⟩
theorem Ab{w c:Nat}{l:List Nat}(h:c∈l)(hc:[48,49,42].contains c=false)(hl:l.length<=100):jl w (.str l):=⟨rfl,av (by omega),by
 show (_&&l.all (λc=>[48,49,42].contains c))=false;rw[gd];exact .inr (List.all_eq_false.mpr ⟨c,h,by rw[hc];decide⟩)⟩
def vo:RF.Spec:=ghS (A:=Addr×Nat) (λa ds G=>ds=[.ref a.1,.int a.2]/\Pen G a.1/\1<=a.2/\a.2<=6) (λa G d G'=>∃xs:List D,d=.lst xs/\xs.length=8/\(∀x∈xs,jl a.2 x)/\Pen G' a.1/\Sb a.1 G G')
theorem afb (Φ:aa) (h1:Φ "_law_form"=mW) (h2:Φ "_law_take"=dG) (a:Addr×Nat) (ds:List D) (G:DH) (h:ds=[.ref a.1,.int a.2]/\Pen G a.1/\1<=a.2/\a.2<=6):aq Φ yZ noE (env0 ds 3) G (ends λd G'=>∃xs:List D,d=.lst xs/\xs.length=8/\(∀x∈xs,jl a.2 x)/\Pen G' a.1/\Sb a.1 G G'):=by
 obtain ⟨p,w⟩:=a;obtain ⟨rfl,hp,hw1,hw6⟩:=h;dsimp only at hp hw1 hw6 ⊢;simp_all_arith[yZ];refine seq λM hM=>?_;simp_arith[h1];refine ad9 hp (by omega) λf G1 hf hp1 sb1=>hM _ _ (seq λM hM=>?_);simp_arith[h2];refine bT hp1 (by omega) (by omega) λat_ G2 hat hp2 sb2=>hM _ _ (seq λM hM=>?_);simp_arith[h2];refine ⟨by decide,bT hp2 (by decide) (by decide) λc G3 hc hp3 sb3=>?_⟩;simp_arith[ends];refine uD (by omega) (by simpa using hc) λy hy=>hM _ _ (last ?_);have hcl:=yC f (some 1) none;have hfl:=hf.1;obtain ⟨o,rfl,ho⟩:∃o:List Nat,y=.str o/\(o=[50]\/o=[]\/o=[42,42]\/o=[97]\/o=[95]):=by
  simp only[aI,ft,or_false]at hy;rcases hy with rfl |rfl |rfl |rfl |rfl
  ·exact ⟨_,rfl,.inl rfl⟩
  ·exact ⟨_,rfl,.inr (.inl rfl)⟩
  ·exact ⟨_,rfl,.inr (.inr (.inl rfl))⟩
  ·exact ⟨_,rfl,.inr (.inr (.inr (.inl rfl)))⟩
  ·exact ⟨_,rfl,.inr (.inr (.inr (.inr rfl)))⟩
 have ho2:o.length<=2:=by rcases ho with rfl |rfl |rfl |rfl |rfl <;> decide
 have ec1:cut f (some 1) none=f.drop 1:=yD f 1;simp_arith[uC,yE,ec1,ax,ci,ce];have hm:jl w (.str (f.take at_++o++f.drop (at_+1))):=by
  have hl:(f.take at_++o++f.drop (at_+1)).length=w+o.length - 1:=by rw[ax,ax,ci,ce];omega
  rcases ho with rfl |rfl |rfl |rfl |rfl
  ·exact Ab (c:=50) (by simp) rfl (by rw[hl];simp <;> omega)
  ·exact nQ (by rw[hl];simp <;> omega) (by rw[hl];simp <;> omega)
  ·exact nQ (by rw[hl];simp <;> omega) (by rw[hl];simp <;> omega)
  ·exact Ab (c:=97) (by simp) rfl (by rw[hl];simp <;> omega)
  ·exact Ab (c:=95) (by simp) rfl (by rw[hl];simp <;> omega)
 refine ⟨by have hsz:sz=1000000:=rfl;omega,by have hsz:sz=1000000:=rfl;omega,by have hsz:sz=1000000:=rfl;omega,by decide,by decide,by decide,_,rfl,rfl,λx hx=>?_,hp3,(sb1.trans sb2).trans sb3⟩;simp only[aI,ft,or_false]at hx;rcases hx with rfl |rfl |rfl |rfl |rfl |rfl |rfl |rfl
 ·exact nQ (by simp <;> omega) (by simp <;> omega)
 ·exact nQ (by rw[ce];omega) (by rw[ce];omega)
 ·exact hm
 ·exact ⟨rfl,rfl,rfl⟩
 ·exact ⟨rfl,rfl,rfl⟩
 ·exact ⟨rfl,rfl,rfl⟩
 ·exact ⟨rfl,rfl,rfl⟩
 ·exact nQ (by show 0≠w;omega) (by decide)
theorem Ac:eZ "NoRow"=[114,111,119]:=by ac_rfl
theorem Qh:eZ "NoForm"=[102,111,114,109]:=by ac_rfl
theorem afc:eZ "Full"=[102,117,108,108]:=by ac_rfl
theorem afd:eZ "Nothing"=[110,111,116,104,105,110,103]:=by ac_rfl
section
variable {q:Addr} {w:Nat} {as:List (List Row)} {rs:List Row} {G:DH} {k:D->DH->Prop} {E:EK} {x y z:D}
theorem Qi(h:svG ⟨q,w,as,rs⟩ G)(hx:nr x=true)(hp:isPlace ((rs.length:Int)+1) x=false)(hk:∀G',Sa G G'->k (.str [114,111,119]) G'):cY.t [oS q,.str [112,117,116],.tup [x,y,z]] G k E:=
 jk (C:="NoRow") (.inl ⟨q,x,y,z,rfl,⟨⟨q,w,as,rs⟩,x,y,z⟩,rfl,h,hx,.inl ⟨rfl,hp⟩⟩) (by rw[Ac];exact hk)
theorem Qj(h:svG ⟨q,w,as,rs⟩ G)(hx:dq rs x)(hk:∀G',Sa G G'->k (.str [114,111,119]) G'):cY.t [oS q,.str [111,117,116],.tup [x]] G k E:=
 jk (C:="NoRow") (.inr (.inl ⟨q,x,rfl,rfl,⟨q,w,as,rs⟩,x,rfl,h,hx⟩)) (by rw[Ac];exact hk)
theorem vp(h:svG ⟨q,w,as,rs⟩ G)(hx:dq rs x\/((∃n:Nat,x=.int (n:Int)/\n < rs.length)/\dq rs y))(hk:∀G',Sa G G'->k (.str [114,111,119]) G'):cY.t [oS q,.str [109,111,118,101],.tup [x,y]] G k E:=
 jk (C:="NoRow") (.inr (.inr (.inl ⟨q,x,y,rfl,rfl,⟨q,w,as,rs⟩,x,y,rfl,h,hx⟩))) (by rw[Ac];exact hk)
theorem Qk(h:svG ⟨q,w,[],rs⟩ G)(hk:∀G',Sa G G'->k (.str [110,111,116,104,105,110,103]) G'):cY.t [oS q,.str [98,97,99,107],.tup []] G k E:=
 jk (C:="Nothing") (.inr (.inr (.inr ⟨q,rfl,rfl,q,w,rs,rfl,h⟩))) (by rw[afd];exact hk)
theorem afe(h:svG ⟨q,w,as,rs⟩ G){n:Nat}(hn:n<=rs.length)(hy:jl w y)(hk:∀G',Sa G G'->k (.str [102,111,114,109]) G'):cY.t [oS q,.str [112,117,116],.tup [.int (n:Int),y,z]] G k E:=
 jk (C:="NoForm") (.inl ⟨q,_,y,z,rfl,⟨⟨q,w,as,rs⟩,_,y,z⟩,rfl,h,rfl,.inr ⟨by show (decide (0<=(n:Int))&&decide ((n:Int) < (rs.length:Int)+1))=true;rw[av (by omega),av (by omega)];rfl,hy.1,hy.2.1,.inl ⟨rfl,hy.2.2⟩⟩⟩) (by rw[Qh];exact hk)
def Ql(z:D):Prop:=nr z=true/\szd z=true/\dX z=false
theorem afg(h:svG ⟨q,w,as,rs⟩ G){n:Nat}(hn:n<=rs.length){f:List Nat}(hf:okF w f)(hw:w<=6)(hz:Ql z)(hk:∀G',Sa G G'->k (.str [102,111,114,109]) G'):cY.t [oS q,.str [112,117,116],.tup [.int (n:Int),.str f,z]] G k E:=
 jk (C:="NoForm") (.inl ⟨q,_,_,z,rfl,⟨⟨q,w,as,rs⟩,_,.str f,z⟩,rfl,h,rfl,.inr ⟨by show (decide (0<=(n:Int))&&decide ((n:Int) < (rs.length:Int)+1))=true;rw[av (by omega),av (by omega)];rfl,rfl,av (by rw[hf.1];omega),.inr ⟨uO hf,hz.1,hz.2.1,.inl ⟨rfl,hz.2.2⟩⟩⟩⟩) (by rw[Qh];exact hk)
theorem afh(h:svG ⟨q,w,as,rs⟩ G){n:Nat}(hn:n<=rs.length){f e:List Nat}(hf:okF w f)(hw:w<=6)(he:okD e)(h12:12<=rs.length)(hk:∀G',Sa G G'->k (.str [102,117,108,108]) G'):cY.t [oS q,.str [112,117,116],.tup [.int (n:Int),.str f,.str e]] G k E:=
 jk (C:="Full") (.inl ⟨q,_,_,_,rfl,⟨⟨q,w,as,rs⟩,_,.str f,.str e⟩,rfl,h,rfl,.inr ⟨by show (decide (0<=(n:Int))&&decide ((n:Int) < (rs.length:Int)+1))=true;rw[av (by omega),av (by omega)];rfl,rfl,av (by rw[hf.1];omega),.inr ⟨uO hf,rfl,av (by have:=he.2.1;omega),.inr ⟨rfl,zA he,h12⟩⟩⟩⟩) (by rw[afc];exact hk)
end
theorem afi{p:Addr}{w:Nat}{G:DH}{k:D->DH->Prop}{E:EK}(hp:Pen G p)(h1:1<=w)(h6:w<=6)(hk:∀(x:D)(xs:List D)(G':DH),(x::xs).length=8->(∀y∈x::xs,jl w y)->Pen G' p->Sb p G G'->k (.lst (x::xs)) G'):vo.t [.ref p,.int (w:Nat)] G k E:=cH (p,w) ⟨rfl,hp,h1,h6⟩ λd G' hx=>by
 obtain ⟨xs,rfl,h8,h1,h2,h3⟩:=hx;cases xs with
 |nil=>cases h8
 |cons x xs=>exact hk x xs G' h8 h1 h2 h3
noncomputable def nR:List D:=[.str [],.str [65],.str [97,32,98],.str [97,98,99,100,101,102,103,104,105],.non,.int 3,.lst [.str [97]],.str [97,10],.str [97,49]]
theorem afj:∀z∈nR,Ql z:=by intro z hz;simp only[nR,aI,ft,or_false]at hz;rcases hz with rfl |rfl |rfl |rfl |rfl |rfl |rfl |rfl |rfl <;> exact ⟨rfl,rfl,rfl⟩
structure FRR(Φ:aa):Prop where
 take:Φ "_law_take"=dG
 odd:Φ "_law_odd_forms"=vo
 told:Φ "_law_told"=cY
def pRR(a:Addr×Sv)(ds:List D)(G:DH):Prop:=ds=[.ref a.1,oS a.2.q,aA a.2.w a.2.rs]/\Pen G a.1/\svG a.2 G/\a.2.q≠a.1/\a.2.as=[]
def qRR(a:Addr×Sv)(G:DH)(d:D)(G':DH):Prop:=d=.bl true/\Pen G' a.1/\Sb a.1 G G'
def sRR:RF.Spec:=ghS (A:=Addr×Sv) pRR qRR
theorem afk(Φ:aa)(F:FRR Φ)(a:Addr×Sv)(ds:List D)(G:DH)(h:pRR a ds G):aq Φ zb noE (env0 ds 11) G (ends λd G'=>qRR a G d G'):=by
 obtain ⟨p,q,w,as,rs⟩:=a;obtain ⟨rfl,hp,hv,hqp,e⟩:=h;have hb:=hv.2.2;dsimp only at hp hv hqp hb e ⊢;subst e;have hw1:=hb.w1;have hw6:=hb.w6;have hlen:=hb.len;have e0:aA w rs=.tup [.int w,.tup (rs.map aD)]:=rfl;have svb:∀{Ga Gb:DH},svG ⟨q,w,[],rs⟩ Ga->Sb p Ga Gb->svG ⟨q,w,[],rs⟩ Gb:=λh s=>⟨s _ _ h.1 hqp,h.2⟩;simp_all_arith[zb,e0];refine seq λM hM=>?_;simp_arith[ends];refine hM _ _ (seq λM hM=>?_);simp_arith[al];refine hM _ _ (seq λM hM=>?_);simp_arith[F.take];have h17:(10:Int) ^ Int.toNat 17=100000000000000000:=by decide
 rw[h17];refine ⟨zg (by decide),bT hp (by decide) (by decide) λfar G1 hfar hp1 sb1=>hM _ _ (seq λM hM=>?_)⟩;simp_arith[F.odd];refine afi hp1 hw1 hw6 λx0 xs G2 hx8 hxs hp2 sb2=>hM _ _ (seq λM hM=>?_);simp_arith[ends];repeat refine ⟨by decide,?_⟩
 refine hM _ _ (seq λM hM=>?_);simp_arith[F.take];refine bT hp2 (by decide) (by decide) λc9 G3 hc9 hp3 sb3=>?_;simp_arith[ends];refine uD (by omega) (by simpa using hc9) λoz _=>hM _ _ (seq λM hM=>?_);have hv3:=svb (svb (svb hv sb1) sb2) sb3;simp_arith![ends];have okS:okF w (List.replicate w 42):=⟨ck,λc hc=>.inr (.inr (eR hc))⟩;have okA:okD [97]:=⟨by decide,by decide,by decide⟩;refine ⟨by decide,by decide,ForG.inv (P:=λi ρ G'=>(∃o10 o11 o12 o13,ρ=[some (.ref p),some (oS q),some (.tup [.int w,.tup (rs.map aD)]),some (.int w),some (.tup (rs.map aD)),some (.int (rs.length:Int)),some (.int (far:Int)),some (.lst (x0::xs)),some (.lst nR),some oz,o10,o11,o12,o13])/\Sa G3 G') ⟨⟨_,_,_,_,rfl⟩,Sa.refl _⟩ (λ_ _ _ _=>trivial) ?_ ?_⟩
 ·rintro i d ρ Ga hd ⟨⟨o10,o11,o12,o13,rfl⟩,sa⟩ kk hk;have hd':nr d=true/\isPlace ((rs.length:Int)+1) d=false/\isPlace (rs.length:Int) d=false:=by
   have hm:=cf hd;simp only[aI,ft,or_false]at hm;have hint:∀i:Int,(i < 0\/(rs.length:Int)+1<=i)->nr (.int i)=true/\isPlace ((rs.length:Int)+1) (.int i)=false/\isPlace (rs.length:Int) (.int i)=false:=λi h=>by
    refine ⟨rfl,?_,?_⟩
    ·show (decide (0<=i)&&decide (i < (rs.length:Int)+1))=false;rw[gd,eg,eg];omega
    ·show (decide (0<=i)&&decide (i < (rs.length:Int)))=false;rw[gd,eg,eg];omega
   rcases hm with rfl |rfl |rfl |rfl |rfl |rfl |rfl |rfl |rfl
   ·exact hint _ (.inl (by decide))
   ·exact hint _ (.inr (by omega))
   ·exact hint _ (.inr (by omega))
   ·exact hint _ (.inl (by omega))
   all_goals exact ⟨rfl,rfl,rfl⟩
  obtain ⟨d1,d2,d3⟩:=hd';have hnr:dq rs d:=⟨d1,d3⟩;have hva:∀{Gb:DH},Sa Ga Gb->svG ⟨q,w,[],rs⟩ Gb:=λs=>svb hv3 ((sa.trans s).sb);simp_arith![ends];refine seq λM hM=>?_;simp_arith[F.told,ca,gZ];refine ⟨by omega,by omega,by have hsz:sz=1000000:=rfl;omega,by decide,Qi (hva (Sa.refl _)) d1 d2 λGb sb=>?_⟩;simp_arith[BEq.rfl];refine ⟨by decide,Qj (hva sb) hnr λGc sc=>?_⟩;simp_arith[BEq.rfl];refine hM _ _ (seq λM hM=>?_);have sbc:=sb.trans sc;simp_arith[F.told];refine ⟨by decide,Qi (hva sbc) d1 d2 λGd sd=>?_⟩;simp_arith[BEq.rfl];refine ⟨by decide,vp (hva (sbc.trans sd)) (.inl hnr) λGe se=>?_⟩;simp_arith[BEq.rfl];have sbe:=(sbc.trans sd).trans se;refine hM _ _ (last ?_);simp_arith[F.told];have h0:dq rs (.int 0)\/((∃n:Nat,D.int 0=.int (n:Int)/\n < rs.length)/\dq rs d):=by
   by_cases hr:rs.length=0
   ·exact .inl ⟨rfl,by show (decide (0<=(0:Int))&&decide ((0:Int) < (rs.length:Int)))=false;rw[hr];rfl⟩
   ·exact .inr ⟨⟨0,rfl,by omega⟩,hnr⟩
  refine ⟨by decide,vp (hva sbe) h0 λGf sf=>?_⟩;simp_arith[BEq.rfl];exact hk _ _ ⟨⟨_,_,_,_,rfl⟩,sa.trans (sbe.trans sf)⟩
 rintro ρ Ga ⟨⟨o10,o11,o12,o13,rfl⟩,sa⟩;have hva:=svb hv3 sa.sb;have hpa:=hp3.sa sa;refine hM _ _ (seq λM hM=>?_);have hmr:dq rs (.int (rs.length:Int)):=⟨rfl,by show (decide (0<=(rs.length:Int))&&decide ((rs.length:Int) < (rs.length:Int)))=false;rw[gd,eg,eg];omega⟩;simp_arith[F.told];refine ⟨by decide,Qj hva hmr λGb sb=>?_⟩;simp_arith[BEq.rfl];have hvb:=svb hva sb.sb;refine ⟨by decide,vp hvb (.inl hmr) λGc sc=>?_⟩;simp_arith[BEq.rfl];have hvc:=svb hvb sc.sb;refine hM _ _ (seq λM hM=>?_);simp_arith[F.told];have h0:dq rs (.int 0)\/((∃n:Nat,D.int 0=.int (n:Int)/\n < rs.length)/\dq rs (.int (rs.length:Int))):=by
  by_cases hr:rs.length=0
  ·exact .inl ⟨rfl,by show (decide (0<=(0:Int))&&decide ((0:Int) < (rs.length:Int)))=false;rw[hr];rfl⟩
  ·exact .inr ⟨⟨0,rfl,by omega⟩,hmr⟩
 refine ⟨by decide,vp hvc h0 λGd sd=>?_⟩;simp_arith[BEq.rfl];have hvd:=svb hvc sd.sb;refine Qk hvd λGe se=>?_;simp_arith[BEq.rfl];have hve:=svb hvd se.sb;have sae:Sa Ga Ge:=((sb.trans sc).trans sd).trans se;have hpe:=hpa.sa sae;refine hM _ _ (seq λM hM=>?_);simp_arith[F.take];refine bT hpe (by omega) (by omega) λn G5 hn hp5 sb5=>hM _ _ (seq λM hM=>?_);have hn':n<=rs.length:=by omega
 have hv5:=svb hve sb5;have sbA:Sb p G G5:=(((sb1.trans sb2).trans sb3).trans (sa.trans sae).sb).trans sb5;simp_arith![ends];refine ForG.inv (P:=λi ρ G'=>(∃o12 o13,ρ=[some (.ref p),some (oS q),some (.tup [.int w,.tup (rs.map aD)]),some (.int w),some (.tup (rs.map aD)),some (.int (rs.length:Int)),some (.int (far:Int)),some (.lst (x0::xs)),some (.lst nR),some oz,o10,some (.int (n:Int)),o12,o13])/\Sa G5 G') ⟨⟨_,_,rfl⟩,Sa.refl _⟩ (λ_ _ _ _=>trivial) ?_ ?_
 ·rintro i d ρ Gf hd ⟨⟨o12,o13,rfl⟩,sf⟩ kk hk;have hd':=hxs d (cf hd);simp_arith![ends];refine last ?_;simp_arith[F.told];refine ⟨by decide,afe (svb hv5 sf.sb) hn' hd' λGg sg=>?_⟩;simp_arith[BEq.rfl];exact hk _ _ ⟨⟨_,_,rfl⟩,sf.trans sg⟩
 rintro ρ G6 ⟨⟨o12,o13,rfl⟩,s6⟩;refine hM _ _ (seq λM hM=>?_);simp_arith![ends];refine ForG.inv (P:=λi ρ G'=>(∃o13,ρ=[some (.ref p),some (oS q),some (.tup [.int w,.tup (rs.map aD)]),some (.int w),some (.tup (rs.map aD)),some (.int (rs.length:Int)),some (.int (far:Int)),some (.lst (x0::xs)),some (.lst nR),some oz,o10,some (.int (n:Int)),o12,o13])/\Sa G5 G') ⟨⟨_,rfl⟩,s6⟩ (λ_ _ _ _=>trivial) ?_ ?_
 ·rintro i d ρ Gf hd ⟨⟨o13,rfl⟩,sf⟩ kk hk;have hd':=afj d (cf hd);simp_arith![ends];refine last ?_;simp_arith[F.told,ca,gZ];refine ⟨by omega,by omega,by have hsz:sz=1000000:=rfl;omega,by decide,afg (svb hv5 sf.sb) hn' okS hw6 hd' λGg sg=>?_⟩;simp_arith[BEq.rfl];exact hk _ _ ⟨⟨_,rfl⟩,sf.trans sg⟩
 rintro ρ G7 ⟨⟨o13,rfl⟩,s7⟩;refine hM _ _ (last ?_);simp_arith[F.told,ca,gZ];by_cases h12:rs.length < 12
 ·simp_arith[av (show (rs.length:Int) < 12 by omega)];exact ⟨rfl,hp5.sa s7,sbA.trans s7.sb⟩
 ·simp_arith[br (show ¬(rs.length:Int) < 12 by omega)];refine ⟨by omega,by omega,by have hsz:sz=1000000:=rfl;omega,by decide,afh (svb hv5 s7.sb) hn' okS hw6 okA (by omega) λG8 s8=>?_⟩;simp_arith[BEq.rfl];exact ⟨rfl,(hp5.sa s7).sa s8,(sbA.trans s7.sb).trans s8.sb⟩
theorem Qm:∀{a b:List D},bf a=true->bf b=true->bf (a++b)=true
 |[],_,_,hb=>hb
 |x::a,b,ha,hb=>by
  rw[bf,ae]at ha;rw[List.cons_append,bf,ha.1,Qm ha.2 hb];rfl
theorem afl{a b:List D}(ha:nrs a=true)(hb:nrs b=true):nrs (a++b)=true:=yF λd hd=>by
 rcases a9.mp hd with h |h
 ·exact uK ha h
 ·exact uK hb h
theorem Ad{w:Nat}{rs:List Row}(h:okB w rs):bf (rs.map aD)=true/\(rs.map aD).length<=100000:=by have:=Om h;unfold aA at this;simp only[szA,bf,bS,ef,ae,bd]at this;exact ⟨this.2.2,this.2.1⟩
theorem afm{w:Nat}{l:List D}(h1:nrs l=true)(h2:bf l=true)(h3:l.length<=100000){d:D}(hd:d∈l)(hr:cV (w:Int) d=false):eV (.tup [.int w,.tup l]):=by
 refine ⟨by simp only[nr,nrs,h1,bS],by simp only[szA,bf,h2,av h3,bS];rfl,?_⟩;show (decide (1<=(w:Int))&&decide ((w:Int)<=6)&&decide (l.length<=12)&&l.all (cV w))=false;have:l.all (cV (w:Int))=false:=by rw[<-Bool.not_eq_true,bo];intro z;rw[z d hd]at hr;cases hr
 rw[this,ez]
theorem afn{w:Nat}{rs:List Row}(hb:okB w rs){d:D}(h1:nr d=true)(h2:szA d=true)(hr:cV (w:Int) d=false):eV (.tup [.int w,.tup (rs.map aD++[d])]):=
 afm (afl (zB rs) (by simp only[nrs,h1,bS])) (Qm (Ad hb).1 (by simp only[bf,h2,bS])) (by have:=hb.len;simp;omega) (bg _ (a8.mpr rfl)) hr
theorem afo{f d:List Nat}(hf:f.length<=100000)(hd:d.length<=100000):szA (.tup [.str f,.str d])=true:=by simp only[szA,bf,bS,ae,bd];exact ⟨by simp,hf,hd⟩
theorem afp{w:Nat}{x:D}(h1:nr x=true)(h2:szA x=true):eV (.tup [.int w,.tup (reps [x] 13)]):=by have e:reps [x] 13=[x,x,x,x,x,x,x,x,x,x,x,x,x]:=rfl;rw[e];refine ⟨by simp only[nr,nrs,h1,bS],by simp only[szA,bf,h2,bS];rfl,?_⟩;show (decide (1<=(w:Int))&&decide ((w:Int)<=6)&&false&&_)=false;rw[ez,e7]
mutual
def tq:D->Bool
 |.tup l=>decide (l.length<=100000)&&tqs l
 |.int _=>true
 |.str _=>true
 |_=>false
def tqs:List D->Bool
 |[]=>true
 |a::as=>tq a&&tqs as
end
theorem Qn:∀{l:List D}{d:D},tqs l=true->d∈l->tq d=true
 |a::as,d,h,m=>by
  rw[tqs,ae]at h;rcases aI.mp m with e |m
  ·rw[e];exact h.1
  ·exact Qn h.2 m
def Qo(n:Nat)(ds:List D)(_:DH):Prop:=∃v,ds=[v,v]/\dpt v < n/\tq v=true
def fj(n:Nat):RF.Spec:=bx (Qo n) (λ_ G d G'=>G'=G/\d=.bl true)
theorem Ae{n:Nat}{v:D}{G:DH}{k:D->DH->Prop}{E:EK}(h1:dpt v < n)(h2:tq v=true)(hk:k (.bl true) G):(fj n).t [v,v] G k E:=
 bK ⟨v,rfl,h1,h2⟩ λd G' h=>by obtain ⟨e1,e2⟩:=h;subst e1 e2;exact hk
theorem afq (Φ:aa) (n:Nat) (h1:Φ "_law_same"=fj n) (ds:List D) (G:DH) (h:Qo (n+1) ds G):aq Φ mQ noE (env0 ds 0) G (ends λd G'=>G'=G/\d=.bl true):=by
 obtain ⟨v,rfl,hd,hs⟩:=h;cases v with
 |int i=>simp_arith[mQ,BEq.rfl]
 |str l=>simp_arith[mQ,BEq.rfl]
 |tup l=>
  rw[tq,ae,bd]at hs;rw[dpt]at hd;simp_arith[mQ];simp_arith[bne_self_eq_false,BEq.rfl];refine CompG.inv (P:=λi acc ρ G'=>(∃o1 o2,ρ=[o1,o2])/\G'=G/\acc=List.replicate i (.bl true)) ⟨⟨_,_,rfl⟩,rfl,rfl⟩ (λ_ _ _ _ _=>trivial) (by rw[uw];have hsz:sz=1000000:=rfl;omega) ?_ ?_
  ·rintro i d acc ρ G' hd' ⟨⟨o1,o2,rfl⟩,rfl,rfl⟩ kk hk;obtain ⟨a,ha,rfl⟩:=ac0 l i d hd';simp_arith[h1];exact Ae (Nat.lt_of_le_of_lt (N7 ha) (by omega)) (Qn hs.2 ha) (hk _ _ _ ⟨⟨_,_,rfl⟩,rfl,List.replicate_succ'.symm⟩)
  ·rintro acc ρ G' ⟨_,rfl,rfl⟩;rw[acX,acY,acZ];simp
 |_=>cases hs
theorem afr(ds:List D)(G:DH)(a:(fj 0).A):¬(fj 0).pre ds G a:=λ⟨_,_,_,h,_⟩=>by omega
theorem Qp{w:Nat}{rs:List Row}(h:okB w rs):dpt (aA w rs) < 4/\tq (aA w rs)=true:=by
 have hlen:=h.len;have h2:aQ (rs.map aD)<=1:=Ii λd hd=>by obtain ⟨_,_,rfl⟩:=dc.mp hd;exact aE _
 have h3:∀l:List Row,tqs (l.map aD)=true:=λl=>by
  induction l with
  |nil=>rfl
  |cons r l ih=>rw[bP,tqs,ih];rfl
 unfold aA;simp only[dpt,aQ,tq,tqs,h3,al,bS,ef];exact ⟨by omega,by simp;omega⟩
noncomputable def Af(w:Nat)(rs:List Row):List D:=[.non,.tup [.int w,.lst (rs.map aD)],.lst [.int w,.tup (rs.map aD)],.tup [.int 7,.tup []],.tup [.int w,.tup (rs.map aD),.tup []],.tup [.int w,.tup (rs.map aD++[.tup []])]]
theorem afs{w:Nat}{rs:List Row}(hb:okB w rs):∀x∈Af w rs++[.tup [.bl true,.tup []],.tup [.int w,.tup (reps [aD (List.replicate w 42,[97])] 13)]],eV x:=by
 have hw6:=hb.w6;obtain ⟨z1,z2⟩:=Ad hb;have z0:=zB rs;intro x hx;simp only[Af,List.cons_append,List.nil_append,aI,ft,or_false]at hx;rcases hx with rfl |rfl |rfl |rfl |rfl |rfl |rfl |rfl
 ·exact ⟨rfl,rfl,rfl⟩
 ·exact ⟨by simp only[nr,nrs,z0,bS],by simp only[szA,bf,z1,av z2,bS];rfl,rfl⟩
 ·exact ⟨by simp only[nr,nrs,z0,bS],by simp only[szA,bf,z1,av z2,bS];rfl,rfl⟩
 ·exact ⟨rfl,rfl,rfl⟩
 ·exact ⟨by simp only[nr,nrs,z0,bS],by simp only[szA,bf,z1,av z2,bS];rfl,rfl⟩
 ·exact afn hb rfl rfl rfl
 ·exact ⟨rfl,rfl,rfl⟩
 ·exact afp rfl (afo (by rw[ck];omega) (show 1<=100000 by decide))
theorem aft{p q:Addr}{w:Nat}{rs:List Row}{G:DH}{k:D->DH->Prop}{E:EK}(hp:Pen G p)(hv:svG ⟨q,w,[],rs⟩ G)(hq:q≠p)(hk:∀G',Pen G' p->Sb p G G'->k (.bl true) G'):sRR.t [.ref p,oS q,aA w rs] G k E:=cH ((p,⟨q,w,[],rs⟩):Addr×Sv) ⟨rfl,hp,hv,hq,rfl⟩ λd G' hx=>by
 obtain ⟨rfl,h1,h2⟩:=hx;exact hk G' h1 h2
def fill(w:Nat)(rs:List Row):List Row:=(rs++List.replicate 12 (List.replicate w 42,[97])).take 12
theorem afu(w:Nat)(rs:List Row):cut (rs.map aD++reps [aD (List.replicate w 42,[97])] 12) none (some 12)=(fill w rs).map aD:=by have e:reps [aD (List.replicate w 42,[97])] 12=(List.replicate 12 ((List.replicate w 42,[97]):Row)).map aD:=rfl;rw[e,<-dy];exact uQ aD _ 12
theorem afv:okD [97]:=⟨by decide,by decide,by decide⟩
theorem afw{w:Nat}{rs:List Row}(hb:okB w rs):okB w (fill w rs):=by
 have hm:∀r∈fill w rs,r∈rs\/r=(List.replicate w 42,[97]):=λr hr=>by
  rcases a9.mp (List.mem_of_mem_take hr) with h |h
  ·exact .inl h
  ·exact .inr (eR h)
 refine ⟨hb.w1,hb.w6,by unfold fill;rw[ci];omega,λr hr=>?_,λr hr=>?_⟩
 ·rcases hm r hr with h |rfl
  ·exact hb.form r h
  ·exact ⟨ck,λc hc=>.inr (.inr (eR hc))⟩
 ·rcases hm r hr with h |rfl
  ·exact hb.deed r h
  ·exact afv
structure F62(Φ:aa):Prop where
 opn:Φ "_law_open"=zj
 anew:Φ "_law_anew"=uI
 book:Φ "_law_book"=uN
 make:Φ "Sieve"=nJ
 nosv:Φ "_law_no_sieve"=vm
 rr:Φ "_law_refusals_right"=sRR
 same:Φ "_law_same"=fj 4
 sbk:Φ "Sieve.book"=dH
 told:Φ "_law_told"=cY
theorem afx(Φ:aa)(F:F62 Φ)(ds:List D)(G:DH)(h:∃ns:List Int,ds=[.scr ns]/\ns.length<=63):aq Φ zc noE (env0 ds 7) G (ends λd _=>d=.bl true):=by
 obtain ⟨ns,rfl,hl⟩:=h;simp_all_arith[zc];refine seq λM hM=>?_;simp_arith[F.opn];refine bK ⟨ns,rfl,hl⟩ λd' G1 hx=>?_;obtain ⟨p,e1,_,hp,_⟩:=hx;subst e1;refine hM _ _ (seq λM hM=>?_);simp_arith![ends];refine ⟨by decide,ForG.inv (P:=λi ρ G'=>(∃o2 o3 o4 o5 o6 o7,ρ=[some (.scr ns),some (.ref p),o2,o3,o4,o5,o6,o7])/\Pen G' p) ⟨⟨_,_,_,_,_,_,rfl⟩,hp⟩ (λ_ _ _ _=>trivial) ?_ ?_⟩
 ·rintro i d ρ G2 hd ⟨⟨o2,o3,o4,o5,o6,o7,rfl⟩,hp2⟩ kk hk;unfold bJ at hd;rw[b9]at hd;obtain ⟨j,hj,rfl⟩:=bi.mp hd;simp_arith![ends];refine seq λM hM=>?_;simp_arith[F.anew,F.book];refine adA hp2 λG3 hp3 _=>?_;refine ade hp3 (by decide) (by decide) (by decide) λw rs0 G4 hb0 _ _ hp4 _=>?_;have e0:∀xs:List Row,aA w xs=.tup [.int w,.tup (xs.map aD)]:=λ_=>rfl;simp_arith[e0];refine hM _ _ (seq λM hM=>?_);have hw1:=hb0.w1;have hw6:=hb0.w6;have okS:okF w (List.replicate w 42):=⟨ck,λc hc=>.inr (.inr (eR hc))⟩;have okA:okD [97,98,99,100,101,102,103,104]:=⟨by decide,by decide,by decide⟩;have rest:∀rs:List Row,okB w rs->M [some (.scr ns),some (.ref p),some (.int (0+(j:Int))),some (.int (w:Int)),some (.tup (rs.map aD)),o5,o6,o7] G4:=by
   intro rs hb;have hlen:=hb.len;obtain ⟨z1,z2⟩:=Ad hb;refine hM _ _ (seq λM hM=>?_);simp_arith[F.make];rw[<-e0];refine ⟨by decide,mZ (aeM hb λq hq=>hM _ _ (seq λM hM=>?_))⟩;have hqp:q≠p:=(hp4.ne hq).symm;have hp5:Pen (aL G4 q (.lst (stk w [rs]))) p:=hp4.sa (Sa.new hq);have g5:(aL G4 q (.lst (stk w [rs]))) q=some (.lst (stk w ([]++[rs]))):=bh;generalize aL G4 q (.lst (stk w [rs]))=G5 at hp5 g5 ⊢;have svb:∀{Ga Gb:DH},svG ⟨q,w,[],rs⟩ Ga->Sb p Ga Gb->svG ⟨q,w,[],rs⟩ Gb:=λh s=>⟨s _ _ h.1 hqp,h.2⟩;have hv5:svG ⟨q,w,[],rs⟩ G5:=⟨g5,by dsimp only;decide,hb⟩;simp_arith[ax,al,d5];repeat refine af (by first |decide |omega |have hsz:sz=1000000:=rfl;omega) ?_
   refine hM _ _ (seq λM hM=>?_);simp_arith![ca,gZ];repeat refine af (by first |decide |omega |exact List.cons_ne_nil _ _ |have hsz:sz=1000000:=rfl;omega) ?_
   refine ForG.inv (P:=λi ρ G'=>(∃o7,ρ=[some (.scr ns),some (.ref p),some (.int (0+(j:Int))),some (.int (w:Int)),some (.tup (rs.map aD)),some (oS q),some (.lst (Af w rs)),o7])/\Sa G5 G') ⟨⟨_,rfl⟩,Sa.refl _⟩ (λ_ _ _ _=>trivial) ?_ ?_
   ·rintro i d ρ G6 hd ⟨⟨o7,rfl⟩,sa6⟩ kk' hk';have hd':=afs hb d (cf hd);simp_arith![ends];refine last ?_;simp_arith[F.nosv];refine ae9 hd' λG7 sa7=>?_;simp_arith[ends];exact hk' _ _ ⟨⟨_,rfl⟩,sa6.trans sa7⟩
   rintro ρ G6 ⟨⟨o7,rfl⟩,sa6⟩;have hv6:=svb hv5 sa6.sb;have hp6:=hp5.sa sa6;obtain ⟨b1,b2⟩:=Qp hb;refine hM _ _ (seq λM hM=>?_);simp_arith[F.rr,F.same,F.sbk,oS];rw[<-e0];refine ⟨by decide,aft hp6 hv6 hqp λG7 hp7 sb7=>?_⟩;have hv7:=svb hv6 sb7;simp_arith[ends];refine ⟨cJ,cI hv7 ?_⟩;refine ⟨by decide,Ae b1 b2 ?_⟩;simp_arith[ends];refine hM _ _ (last ?_);simp_arith![al];cases h12:decide ((rs.length:Int) < 12) with
   |false=>exact done (hk _ _ ⟨⟨_,_,_,_,_,_,rfl⟩,hp7⟩)
   |true=>
    have h12':rs.length < 12:=by have:=dk h12;omega
    simp_arith![ends];refine seq λM hM=>?_;simp_arith[F.told,ca,gZ,al];have hv7':=hv7;refine ⟨by omega,by omega,by have hsz:sz=1000000:=rfl;omega,by decide,ae4 (a:=⟨⟨q,w,[],rs⟩,rs.length,(List.replicate w 42,[97,98,99,100,101,102,103,104])⟩) ⟨rfl,rfl,hv7,show 0 < 50 by decide,aE _,h12',okS,okA⟩ ?_⟩;have ei:eE rs rs.length (List.replicate w 42,[97,98,99,100,101,102,103,104])=rs++[(List.replicate w 42,[97,98,99,100,101,102,103,104])]:=by unfold eE;rw[gg,eW,df]
    have hbn:okB w (rs++[(List.replicate w 42,[97,98,99,100,101,102,103,104])]):=by rw[<-ei];exact zT hb h12' okS okA
    dsimp only[PutS.c];rw[ei];have g8:(aL G7 q (.lst (stk w ([]++[rs]++[rs++[(List.replicate w 42,[97,98,99,100,101,102,103,104])]])))) q=some (.lst (stk w ([]++[rs]++[rs++[(List.replicate w 42,[97,98,99,100,101,102,103,104])]]))):=bh;have hp8:Pen (aL G7 q (.lst (stk w ([]++[rs]++[rs++[(List.replicate w 42,[97,98,99,100,101,102,103,104])]])))) p:=hp7.sb Sb.upd hqp.symm;generalize aL G7 q (.lst (stk w ([]++[rs]++[rs++[(List.replicate w 42,[97,98,99,100,101,102,103,104])]])))=G8 at g8 hp8 ⊢;simp_arith[nP,BEq.rfl];refine hM _ _ (seq λM hM=>?_);obtain ⟨c1,c2⟩:=Qp hbn;have em:D.tup [.int w,.tup (rs.map aD++[.tup [.str (List.replicate w 42),.str [97,98,99,100,101,102,103,104]]])]=aA w (rs++[(List.replicate w 42,[97,98,99,100,101,102,103,104])]):=by unfold aA;rw[dy];rfl
    simp_arith[F.same,F.sbk,ca,gZ,al];refine ⟨cJ,cI (as:=[]++[rs]) ⟨g8,show 1 < 1000 by decide,hbn⟩ ?_⟩;rw[em];repeat refine af (by first |decide |omega |have hsz:sz=1000000:=rfl;omega) ?_
    refine Ae c1 c2 ?_;simp_arith[ends];refine hM _ _ (last ?_);simp_arith[F.told];refine ae5 (a:=(⟨q,w,[],rs⟩,rs++[(List.replicate w 42,[97,98,99,100,101,102,103,104])])) ⟨rfl,rfl,g8,show 0 < 100 by decide,hb,hbn⟩ ?_;have g9:(aL G8 q (.lst (stk w ([]++[rs])))) q=some (.lst (stk w ([]++[rs]))):=bh;have hp9:Pen (aL G8 q (.lst (stk w ([]++[rs])))) p:=hp8.sb Sb.upd hqp.symm;dsimp only;generalize aL G8 q (.lst (stk w ([]++[rs])))=G9 at g9 hp9 ⊢;simp_arith[nP,BEq.rfl];refine Qk (rs:=rs) ⟨g9,by dsimp only;decide,hb⟩ λG10 sa10=>?_;simp_arith[BEq.rfl];exact hk _ _ ⟨⟨_,_,_,_,_,_,rfl⟩,hp9.sa sa10⟩
  simp_arith![ends];cases ((0+(j:Int))==3) with
  |true=>
   refine last ?_;simp_arith[ca,gZ,ax,al];have hl0:=hb0.len;have hr:=rest (fill w rs0) (afw hb0);rw[<-afu]at hr;repeat refine af (by first |decide |omega |exact List.cons_ne_nil _ _ | (rw[Em];simp only[cK,List.length_nil];have hsz:sz=1000000:=rfl;omega) |have hsz:sz=1000000:=rfl;omega) ?_
   exact hr
  |false=>exact done (rest rs0 hb0)
 ·rintro ρ G2 ⟨_,hp2⟩;refine hM _ _ (last ?_);simp_arith[ends]
end RF
namespace HD
open PySem PySem.W
def sv(x:Str)(t:Nat):Value:=.str x t
def ri(n:Nat):Value:=.int n 0
def ig (l:List Value):Obj:=⟨.type "tuple",none,.seq ⟨l⟩ 0,⟨[]⟩⟩
def fu(c:Value)(l:List Value):Obj:=⟨c,none,.fields ⟨l⟩,⟨[]⟩⟩
def nT:Str:="/claim/cut.py"
noncomputable def Ag(n q:Str)(ln ac fl a b:Nat)(isf:Bool)(l1 l2 tm:Value)(t t2:Nat):Obj:=
 fu (.type "code") [sv n t,sv q (t+1),sv nT (t+2),ri ln,ri ac,ri 0,ri 0,ri fl,.ref a,.bool isf,ri 181,.ref b,.none,l1,l2,tm,ri t2,ri ln,sv nT (t2+1)]
def toks(t:Nat):List Str->List Value
 |[]=>[]
 |x::r=>sv x t::toks (t+1) r
def fdO(n q:Str)(p:Arguments)(b:List Stmt)(sc:Scope)(g:Nat)(md cd:Value):Data:=
 .func { name:=n,qualname:=q,params:=p,body:=.stmts b,scope:=sc,globals:=g,closure:=[],defaults:=.none,kwdefaults:=.none,pyModule:=md,code:=cd }
def enO(P:Params)(k:Str)(t:Nat)(v:Value):DictEntry:={ hash:=PyData.keyHash P k,key:=sv k t,val:=v }
def nU (l:List DictEntry) (e:Nat):Obj:=⟨.type "dict",none,.dict ⟨l⟩ e,⟨[]⟩⟩
noncomputable def frO (c l:Nat) (md:Value):Obj:=⟨.type "frame",none,.plain,⟨[some (.ref c),some (.ref 3),some (.ref l),none,some md,none,some (.ref 0)]⟩⟩
def bfO (s:String) (v:Value):Obj:=fu (.type "builtin_function_or_method") [.builtin s,v]
def veM:List Value:=[.type "ValueError",.type "Exception",.type "BaseException",.type "object"]
def vq (b:Expr):Bool:=match b with |.Name n _=>n==("ValueError":Str) |_=>false
noncomputable def fnO(q:Str)(a t:Nat)(md:Value)(n:Str)(p:Arguments)(b:List Stmt)(sc:Scope)(ln:Nat):List Obj:=match localNames p sc (.stmts b) with
 |some l=>[ig [],fu .none [],ig (toks (t+3) l.1),ig [],⟨.none,none,fdO n q p b sc 0 .none .none,⟨[]⟩⟩,
   Ag n q ln p.args.length 3 a (a+1) true (.ref (a+2)) (.ref (a+3)) (.ref (a+4)) t (t+3+l.1.length),⟨.type "function",none,fdO n q p b sc 3 md (.ref (a+5)),⟨[]⟩⟩]
 |none=>[ig [],fu .none [],⟨.none,none,fdO n q p b sc 0 .none .none,⟨[]⟩⟩,
   Ag n q ln p.args.length 3 a (a+1) true .none .none (.ref (a+2)) t (t+3),⟨.type "function",none,fdO n q p b sc 3 md (.ref (a+3)),⟨[]⟩⟩]
noncomputable def fnA(p:Arguments)(b:List Stmt)(sc:Scope):Nat:=match localNames p sc (.stmts b) with |some _=>7 |none=>5
noncomputable def fnT(p:Arguments)(b:List Stmt)(sc:Scope):Nat:=match localNames p sc (.stmts b) with |some l=>l.1.length+5 |none=>5
def dot:Str:="."
structure MO where
 os:List Obj
 es:List DictEntry
 cs:List Value
 a:Nat
 t:Nat
noncomputable def vy(P:Params)(c:Str)(md:Value):List Stmt->Nat->Nat->MO
 |.FunctionDef n p b _ _ _ sc _ _ pos::r,a,t=>
  let m:=vy P c md r (a+fnA p b sc) (t+fnT p b sc+1)
  ⟨fnO (c++dot++n) a t md n p b sc pos.line++m.os,enO P n (t+fnT p b sc) (.ref (a+fnA p b sc - 1))::m.es,ri pos.line::ri pos.col::.ref (a+fnA p b sc - 2)::m.cs,m.a,m.t⟩
 |_::r,a,t=>vy P c md r a t
 |[],a,t=>⟨[],[],[],a,t⟩
def clA(P:Params)(a:Nat)(b:List Stmt):Nat:=(vy P dot .none b (a+7) 0).a+2
noncomputable def stO(P:Params)(r:Nat)(sub:List Value)(a t:Nat)(md:Value)(s:Stmt):List Obj:=match s with
 |.FunctionDef n p b _ _ _ sc _ _ pos=>fnO n a t md n p b sc pos.line
 |.ClassDef n bs _ body _ _ _ _ _ st pos=>
  let m:=vy P n md body (a+7) (t+12)
  let c:=m.a+2
  let u:=m.t+st.length
  let d1:=[enO P "__module__" (t+7) md]
  let d2:=enO P "__firstlineno__" (t+11) (.int pos.line (t+10))::m.es++[enO P "__static_attributes__" u (.ref m.a)]
  let b:List Value:=match bs with |b::_=>(match vq b with |true=>[.type "ValueError"] |false=>[.ref r]) |[]=>[]
  let own:Bool:=match bs with |[]=>true |_=>false
  let ve:Bool:=match bs with |b::_=>vq b |[]=>false
  let wr (v:Nat):Obj:=fu (.type "getset_descriptor") [sv "__weakref__" v,.ref c,.builtin "ExceptionGroup.__weakref__",.none]
  let typ (mro:List Value) (sub:List Value) (nw:String):Obj:=
   ⟨.type "type",none,.cls { name:=n,bases:=(match own with |true=>[.type "object"] |false=>b),mro:=.ref c::mro,ns:=m.a+1,qualname:=n,subclasses:=sub },
    ⟨[(match own with |true=>none |false=>some (.ref a)),none,some (sv n t),some (sv n (t+8)),some (.builtin nw),some (.bool true)]⟩⟩
  [ig b,bfO "type.__prepare__" (.type "type"),nU (d1++enO P "__qualname__" (t+9) (sv n (t+8))::d2) (4+m.es.length),ig [],fu .none m.cs,
   Ag n n pos.line 0 0 (a+3) (a+4) false .none .none .none (t+2) (t+5),frO (a+5) (a+2) md]++m.os++[ig (toks m.t st)] ++
  (match own with
  |true=>[nU (d1++d2++[enO P "__dict__" (u+2) (.ref (c+1)),enO P "__weakref__" (u+4) (.ref (c+2)),enO P "__doc__" (u+5) .none]) 4,typ [.type "object"] [] "object.__new__",
    fu (.type "getset_descriptor") [sv "__dict__" (u+1),.ref c,.builtin "function.__dict__",.builtin "function.__dict__#set"],wr (u+3)]
  |false=>(match ve with
   |true=>[nU (d1++d2++[enO P "__weakref__" (u+2) (.ref (c+1)),enO P "__doc__" (u+3) .none]) 3,typ veM sub "ValueError.__new__",wr (u+1)]
   |false=>[nU (d1++d2++[enO P "__doc__" (u+1) .none]) 2,typ (.ref r::veM) [] "ValueError.__new__"])) ++
  [fu (.type "super") [.ref c,.ref c,.ref c],bfO "object.__init_subclass__" (.ref c)]
 |_=>[]
noncomputable def mdO(t:Nat)(md:Value)(s:Stmt):Value:=match s with
 |.Assign [.Name n _] (.Constant (.str x) _ _) _=>(match n==("__name__":Str) with |true=>sv x t |false=>md)
 |_=>md
noncomputable def enS(P:Params)(lk:Str->Value)(t u a a':Nat)(s:Stmt):List DictEntry:=match s with
 |.Assign [.Name n _] (.Name y _) _=>[enO P n t (lk y)]
 |.FunctionDef n _ _ _ _ _ _ _ _ _=>[enO P n (u-1) (.ref (a'-1))]
 |.ClassDef n _ _ b _ _ _ _ _ _ _=>[enO P n (u-1) (.ref (clA P a b))]
 |.Assign [.Name n _] (.Constant c _ _) _=>(match n==("__name__":Str) with
  |true=>[]
  |false=>[enO P n (t+1) (match c with |.int i=>.int i t |.str x=>sv x t |_=>.none)])
 |_=>[]
noncomputable def fnS(a':Nat)(s:Stmt):List (Str×Value):=match s with
 |.FunctionDef n _ _ _ _ _ _ _ _ _=>[(n,.ref (a'-1))]
 |_=>[]
noncomputable def cdS(a a':Nat)(s:Stmt):List Value:=match s with
 |.FunctionDef _ _ _ _ _ _ _ _ _ pos=>[ri pos.line,ri pos.col,.ref (a'-2)]
 |.ClassDef _ _ _ _ _ _ _ _ _ _ pos=>[ri pos.line,ri pos.col,.ref (a+5)]
 |_=>[]
noncomputable def sbS(P:Params)(a:Nat)(s:Stmt):List Value:=match s with
 |.ClassDef _ bs _ b0 _ _ _ _ _ _ _=>(match bs with |b::_=>(match vq b with |true=>[] |false=>[.ref (clA P a b0)]) |[]=>[])
 |_=>[]
noncomputable def afy(P:Params)(a:Nat)(s:Stmt):List Nat:=match s with
 |.ClassDef _ bs _ b0 _ _ _ _ _ _ _=>(match bs with |b::_=>(match vq b with |true=>[clA P a b0] |false=>[]) |[]=>[])
 |_=>[]
noncomputable def fold{α:Type}(f:Nat->Nat->Nat->Nat->Value->Stmt->List α):List (Nat×Nat)->Value->List Stmt->List α
 | (a,t)::(a',u)::r,md,s::ss=>f a a' t u md s++fold f ((a',u)::r) (mdO t md s) ss
 |_,_,_=>[]
def Qq:List (Nat×Nat)->Value->List Stmt->Value
 | (_,t)::r,md,s::ss=>Qq r (mdO t md s) ss
 |_,md,_=>md
def ik:Value:=sv "__main__" 164
noncomputable def afz(P:Params)(v:Value):List DictEntry:=
 [enO P "__name__" 165 v,enO P "__doc__" 166 .none,enO P "__package__" 167 .none,enO P "__loader__" 168 (.builtin "__main__.__loader__#opaque"),enO P "__spec__" 169 .none,
  enO P "__annotations__" 170 (.ref 6),enO P "__builtins__" 171 (.ref 4),enO P "__file__" 173 (sv nT 172),enO P "__cached__" 174 .none]
noncomputable def ents(N:List (Nat×Nat))(b:List Stmt)(P:Params):List DictEntry:=afz P (Qq N ik b)++fold (λa a' t u _ s=>enS P (λy=>((fold (λ_ a' _ _ _ s=>fnS a' s) N ik b).lookup y).getD .none) t u a a' s) N ik b
def put{α:Type}:Nat->α->List α->List α
 |_,_,[]=>[]
 |0,x,_::r=>x::r
 |n+1,x,y::r=>y::put n x r
noncomputable def Qs(cs:List Value):List Obj:=[ig [],fu .none cs,
 fu (.type "code") [sv "<module>" 182,sv "<module>" 183,sv nT 184,ri 1,ri 0,ri 0,ri 0,ri 0,.ref 11,.bool false,ri 181,.ref 12,.none,.none,.none,.none,ri 185,ri 1,sv nT 186],frO 13 3 ik]
def afA(B:List Obj):List Obj:=B++Qs []
noncomputable def objs(B:List Obj)(N:List (Nat×Nat))(b:List Stmt)(P:Params):List Obj:=
 let es:=ents N b P
 put 3 (nU es es.length) (B++Qs (fold (λa a' _ _ _ s=>cdS a a' s) N ik b) ++
  fold (λa _ t _ md s=>stO P ((fold (λa _ _ _ _ s=>afy P a s) N ik b).headD 0) (fold (λa _ _ _ _ s=>sbS P a s) N ik b) a t md s) N ik b)
def evs{α:Type}:List α->List α
 |[]=>[]
 |[x]=>[x]
 |x::_::r=>x::evs r
noncomputable def bt:Nat->List Obj->BT
 |0,_=>.nil
 |_,[]=>.nil
 |n+1,x::r=>.node x (bt n (evs r)) (bt n (evs r.tail))
def nameless(s:Stmt):Bool:=match s with
 |.Assign [.Name n _] _ _=>!(n==("__name__":Str))
 |_=>true
noncomputable def pick:Nat->List Nat->List Obj->Frag
 |i,a::r,o::os=>(match Nat.beq a i with |true=>(a,o)::pick (i+1) r os |false=>pick (i+1) (a::r) os)
 |_,_,_=>[]
end HD
def PySem.W.Fast.tw3983426995800440871:PySem.Program:=PySem.Challenge.pw_starsieve_k62_changes_refused
theorem PySem.W.Fast.te3983426995800440871:PySem.Challenge.pw_starsieve_k62_changes_refused=PySem.W.Fast.tw3983426995800440871:=rfl
namespace HK
open PySem PySem.W PySem.W.Fast
def pw:Program:=PySem.Challenge.pw_starsieve_k62_changes_refused
def rl:OpenLaw:=PySem.Challenge.rw_starsieve_k62_changes_refused
noncomputable def NN:List (Nat×Nat):=[(15,187),(22,194),(22,196),(35,214),(54,239),(73,264),(85,280),(97,296),(109,312),(121,328),(133,344),(145,360),(157,376),(169,392),(181,408),(193,424),(205,440),(205,442),(205,444),(212,451),(219,458),(226,466),(231,472),(238,480),(245,488),(250,494),(257,503),(264,514),(271,521),(271,523),(271,525),(271,527),(271,529),(276,535),(283,543),(288,549),(295,556),(302,564),(309,572),(316,584),(323,592),(323,594),(330,601),(337,610),(344,621),(351,631),(358,642),(363,648),(363,650),(370,659),(375,665),(382,675),(382,677),(389,687),(389,689),(466,788),(466,790),(473,801),(480,811),(487,818),(494,829),(499,835),(506,843),(513,853),(520,863),(527,875),(532,881),(539,895),(544,901),(551,910),(558,919),(565,930),(572,939),(579,950),(586,970),(593,984)]
def L1(P:Params):List Obj:=HD.objs (boot_heap P).objs.toList NN pw.main.body P
def H1(P:Params):Heap:=⟨⟨L1 P⟩,{}⟩
def T1(P:Params):BT:=HD.bt 12 (L1 P)
def LA(P:Params):List Obj:=HD.afA (boot_heap P).objs.toList
def HA(P:Params):Heap:=⟨⟨LA P⟩,{}⟩
def T0(P:Params):BT:=HD.bt 5 (LA P)
def env:Env:={ scope:=pw.main.scope,locals:=mainNs,globals:=mainNs,cells:=[],code:=.ref 13,frame:=some 14 }
def bE:List Stmt:=behindTheImports pw
def cE:Code:=.body bE env
def p0:Pos:=⟨0,0,0,0⟩
def B:List Frame:=[topFrame p0]
def ann:Option Value:=some (.ref 6)
def qv:Program:={ pw with main:={ pw.main with body:=pw.main.body.filter HD.nameless } }
noncomputable def as:List Nat:=[3,30,31,50,51,69,70,81,82,93,94,105,106,117,118,129,130,141,142,153,154,165,166,177,178,189,190,201,202,210,211,217,218,224,225,229,230,243,244,255,256,262,263,269,270,274,275,281,282,286,287,293,294,300,301,307,308,321,322,328,329,335,336,342,343,349,350,356,357,361,362,368,369,373,374,380,381,387,388,401,402,408,409,429,430,436,437,443,444,450,451,457,458,460,461,471,472,478,479,485,486,492,493,497,498,504,505,511,512,518,519,525,526,530,531,537,538,542,543,549,550,556,557,563,564,570,571,577,578,584,585,591,592]
def K(P:Params):Frag:=HD.pick 0 as (L1 P)
def Xt(s:Shared):Bool:=xlAt qv [] s&&recOk (RowW.records rl.row.toRowW) s
def see{α:Type}(_:α):Bool:=true
theorem primed:(see T1&&see T0&&see H1&&see HA&&see cE&&see B&&see env&&see bE&&see qv&&see K&&see Xt)=true:=by k_qdec
theorem pre(w:World)(os:OsState):topGo treeTable pw w 11 ann 12 ⟨boot_heap w.params,⟨[]⟩,boot_drawn,boot_toks,os⟩ (topStub pw)=some (⟨HA w.params,⟨[]⟩,{},187,os⟩,⟨denote treeTable cE,cE,p0,B⟩):=by have _:=primed;rw[PySem.W.Fast.te15667345088766844465,PySem.W.Fast.te14364793385576792824,PySem.W.Fast.te1032975242618825031,PySem.W.Fast.te8093259214132618727,PySem.W.Fast.te1718297227530528222,PySem.W.Fast.te11892475500146522536];rfl'
theorem block(w:World)(os:OsState):segRun treeTable pw w 11 ann 1 2 ⟨HA w.params,⟨[]⟩,{},187,os⟩ (blockOf bE env cE p0 B)=some (.next,SharedT.abs ⟨T0 w.params,15,{},⟨[]⟩,{},187,os⟩,cE,p0):=by rw[PySem.W.Fast.te14374325043358763698,PySem.W.Fast.te14364793385576792824,PySem.W.Fast.te1032975242618825031,PySem.W.Fast.te8093259214132618727,PySem.W.Fast.te1718297227530528222,PySem.W.Fast.te14938417808399470215,PySem.W.Fast.te16330338443398637341,PySem.W.Fast.te10239294469119128424];rfl'
theorem piece(w:World)(os:OsState):segRunT treeTable pw w 11 ann 1 9000 ⟨T0 w.params,15,{},⟨[]⟩,{},187,os⟩ (piecesOf bE env cE p0 B)=some (.next,⟨T1 w.params,593,{},⟨[]⟩,{},984,os⟩,cE,⟨375,0,395,15⟩):=by rw[PySem.W.Fast.te10110043849684766642,PySem.W.Fast.te14364793385576792824,PySem.W.Fast.te1032975242618825031,PySem.W.Fast.te13069687644243786066,PySem.W.Fast.te14938417808399470215,PySem.W.Fast.te1718297227530528222,PySem.W.Fast.te16330338443398637341,PySem.W.Fast.te10239294469119128424];rfl'
theorem fin(w:World)(os:OsState):topRun treeTable pw w 11 ann 3 (SharedT.abs ⟨T1 w.params,593,{},⟨[]⟩,{},984,os⟩) ⟨doneF .next,cE,⟨375,0,395,15⟩,B⟩=some ⟨H1 w.params,⟨[]⟩,{},984,os⟩:=by rw[PySem.W.Fast.te14082659384304107361,PySem.W.Fast.te14364793385576792824,PySem.W.Fast.te1032975242618825031,PySem.W.Fast.te13069687644243786066,PySem.W.Fast.te1718297227530528222,PySem.W.Fast.te14158929756966004236];rfl'
theorem run(w:World)(os:OsState):topRun treeTable pw w 11 ann (12+(2+(9000+3))) ⟨boot_heap w.params,⟨[]⟩,boot_drawn,boot_toks,os⟩ (topStub pw)=some ⟨H1 w.params,⟨[]⟩,{},984,os⟩:=by refine go_top (pre w os) (piece_block (block w os) ?_);have h:=piece_app (rest:=[]) (segRun_of (piece w os)) (piece_nil (fin w os));rw[List.append_nil]at h;exact h
theorem size (w:World):((boot_heap w.params).isNs mainGlobals&&(Array.mk []:Array GenState).size==0,(boot_heap w.params).objs.size,(boot_heap w.params).nsMap mainGlobals "__annotations__")=(true,11,ann):=by rfl'
theorem afB(w:World)(os:OsState):(staticsOk (importedModules pw.main.body) (boot_heap w.params) (H1 w.params)&&namesBound pw (H1 w.params)&&gensDone ⟨H1 w.params,⟨[]⟩,{},984,os⟩&&laidKept (boot_heap w.params) (H1 w.params))=true:=by rw[PySem.W.Fast.te1032975242618825031,PySem.W.Fast.te14158929756966004236,PySem.W.Fast.te5923862056798008813];rfl'
theorem afC(w:World)(os:OsState):openSeen qv [] (importedModules pw.main.body) Xt true ⟨H1 w.params,⟨[]⟩,{},984,os⟩=openGood qv []:=by rw[PySem.W.Fast.te1032975242618825031,PySem.W.Fast.te14158929756966004236,PySem.W.Fast.te5923862056798008813,PySem.W.Fast.te3994408356199485718,PySem.W.Fast.te3154452736318265832,PySem.W.Fast.te4187177175401517315];rfl'
theorem afD(w:World):as.map (H1 w.params).get?=(K w.params).map (λp=>some p.2):=by rw[PySem.W.Fast.te14158929756966004236,PySem.W.Fast.te538113369711794958];rfl'
theorem eAs(P:Params):as=(K P).map (·.1):=by rw[PySem.W.Fast.te538113369711794958];rfl'
def hook:Hook:=kHook K as eAs
theorem left:LeftO pw qv [] Xt hook.obs hook.val 12000:=by refine LeftO.of_pieces (boot_open (by rfl') (by decide) (λs=>by rfl')) size run (by decide) λw=>funext λos=>?_;exact Prod.ext (afB w os) (Prod.ext (afC w os) (afD w))
end HK
namespace Lk62
open PySem PySem.Spec PyProof.Rows L2 RF
open PySem.W (mg_of mg_none_of)
def Φ:aa:=λf=>if f="is_deed" then aJ gh else if f="is_text_of" then aJ fText else if f="is_form" then aJ gf else if f="is_row" then aJ m5 else if f="is_whole" then aJ gR else if f="is_width" then aJ mY else if f="is_book" then aJ kh else if f="need_book" then gW else if f="_law_anew" then uI else if f="_law_spread" then uH else if f="_law_take" then dG else if f="_law_signs" then mV else if f="_law_deeds_of" then uM else if f="_law_form" then mW else if f="_law_wider" then jd else if f="_law_within" then jd else if f="_law_form_like" then uL else if f="_law_book" then uN else if f="_law_refusal" then vf else if f="_law_open" then zj else if f="_law_odd_forms" then vo else if f="both" then aJ m8 else if f="first_touching" then m9 else if f="splitting_place" then uR else if f="with_sign" then aJ ie else if f="grown" then eX 9 else if f="least" then aJ kW else if f="is_named" then aJ gj else if f="is_place" then aJ dm else if f="leaves" then d8 9 else if f="need_two_books" then uX else if f="deed_of" then uP else if f="same_deeds" then sSD else if f="stars" then aJ je else if f="alike" then uY else if f="parting_word" then nA else if f="need_row" then jg else if f="without" then nH else if f="_law_same" then fj 4 else if f="Sieve" then nJ else if f="Sieve.book" then dH else if f="_law_no_sieve" then vm else if f="Sieve.back" then u9 else if f="Sieve.turn" then kY else if f="Sieve.move" then z7 else if f="Sieve.out" then zZ else if f="Sieve.put" then u5 else if f="_law_do" then Aa else if f="_law_told" then cY else if f="_law_refusals_right" then sRR else if f="law" then mX else bx (λ_ _=>False) (λ_ _ _ _=>False)
def vz:Φ "is_deed"=aJ gh:=by rfl'
def Qt:Φ "is_text_of"=aJ fText:=by rfl'
def vA:Φ "is_form"=aJ gf:=by rfl'
def Qu:Φ "is_row"=aJ m5:=by rfl'
def Ah:Φ "is_whole"=aJ gR:=by rfl'
def Qv:Φ "is_width"=aJ mY:=by rfl'
def Ai:Φ "is_book"=aJ kh:=by rfl'
def nW:Φ "need_book"=gW:=by rfl'
def Qw:Φ "_law_anew"=uI:=by rfl'
def Qx:Φ "_law_spread"=uH:=by rfl'
def fB:Φ "_law_take"=dG:=by rfl'
def Aj:Φ "_law_signs"=mV:=by rfl'
def Qy:Φ "_law_deeds_of"=uM:=by rfl'
def Ak:Φ "_law_form"=mW:=by rfl'
def Qz:Φ "_law_wider"=jd:=by rfl'
def QB:Φ "_law_within"=jd:=by rfl'
def QC:Φ "_law_form_like"=uL:=by rfl'
def QD:Φ "_law_book"=uN:=by rfl'
def Al:Φ "_law_refusal"=vf:=by rfl'
def QF:Φ "_law_open"=zj:=by rfl'
def QG:Φ "_law_odd_forms"=vo:=by rfl'
def QH:Φ "both"=aJ m8:=by rfl'
def Am:Φ "first_touching"=m9:=by rfl'
def QJ:Φ "splitting_place"=uR:=by rfl'
def An:Φ "with_sign"=aJ ie:=by rfl'
def QK:Φ "grown"=eX 9:=by rfl'
def QL:Φ "least"=aJ kW:=by rfl'
def QM:Φ "is_named"=aJ gj:=by rfl'
def kZ:Φ "is_place"=aJ dm:=by rfl'
def QQ:Φ "leaves"=d8 9:=by rfl'
def QR:Φ "need_two_books"=uX:=by rfl'
def QS:Φ "deed_of"=uP:=by rfl'
def QT:Φ "same_deeds"=sSD:=by rfl'
def QV:Φ "stars"=aJ je:=by rfl'
def QW:Φ "alike"=uY:=by rfl'
def Ao:Φ "parting_word"=nA:=by rfl'
def nY:Φ "need_row"=jg:=by rfl'
def vB:Φ "without"=nH:=by rfl'
def QX:Φ "_law_same"=fj 4:=by rfl'
theorem Aq:Φ "Sieve"=nJ:=by rfl'
theorem fD:Φ "Sieve.book"=dH:=by rfl'
def QZ:Φ "_law_no_sieve"=vm:=by rfl'
theorem Ar:Φ "Sieve.back"=u9:=by rfl'
theorem vC:Φ "Sieve.turn"=kY:=by rfl'
theorem Q0:Φ "Sieve.move"=z7:=by rfl'
theorem Q3:Φ "Sieve.out"=zZ:=by rfl'
theorem Av:Φ "Sieve.put"=u5:=by rfl'
def Q4:Φ "_law_do"=Aa:=by rfl'
def Aw:Φ "_law_told"=cY:=by rfl'
def Q5:Φ "_law_refusals_right"=sRR:=by rfl'
noncomputable def bt:List String:=["all","bool","enumerate","int","isinstance","len","list","min","range","str","tuple","zip"]
noncomputable def cn:List (String×D):=[("LETTERS",(.str [97,98,99,100,101,102,103,104,105,106,107,108,109,110,111,112,113,114,115,116,117,118,119,120,121,122])),("LONGEST_DEED",(.int 8)),("MOST_ROWS",(.int 12)),("WIDEST",(.int 6))]
noncomputable def xs:List (String×Bool):=[("NoBook",true),("NoMatch",true),("NoWord",true),("NoRow",true),("NoForm",true),("Full",true),("Nothing",true),("Full",false),("NoBook",false),("NoForm",false),("NoJoin",false),("NoLine",false),("NoMatch",false),("NoOrder",false),("NoRow",false),("NoText",false),("NoWord",false),("Nothing",false),("SieveError",false),("TooMany",false),("Turned",false),("ValueError",false)]
abbrev CK:=λN s f o b=>aC (aH N (ao s) f bt cn xs o) b (aF s)=true
abbrev BB:=λ(l:PySem.W.OpenLaw) (w:World) (mg:Str->Option Value) (base:Heap) k f o=>Bse Φ l.prog w (HK.K w.params) mg base (CX1 l.prog w) k f bt cn xs o
abbrev NQ:=λP (s:Str) (n:Nat)=>PySem.W.nsIn (HK.K P) mainGlobals s=some (some (.ref n))
abbrev BQ:=λP fd ps=>Binds (HK.K P) fd ps []
abbrev LN:Str:="law_starsieve_k62_changes_refused"
def f0:List (String×Nat):=[]
def o0:OT:={}
def f1:=("is_deed",1)::f0
def f2:=("is_text_of",3)::f1
def f3:=("is_form",2)::f2
def f4:=("is_row",2)::f3
def f5:=("is_whole",1)::f4
def f6:=("is_width",1)::f5
def f7:=("is_book",1)::f6
def f8:=("need_book",1)::f7
def f9:=("_law_anew",1)::f8
def f10:=("_law_spread",2)::f9
def f11:=("_law_take",2)::f10
def f12:=("_law_signs",3)::f11
def f13:=("_law_deeds_of",2)::f12
def f14:=("_law_form",2)::f13
def f15:=("_law_wider",2)::f14
def f16:=("_law_within",2)::f15
def f17:=("_law_form_like",3)::f16
def f18:=("_law_book",3)::f17
def f19:=("_law_refusal",1)::f18
def f20:=("_law_open",1)::f19
def f21:=("_law_odd_forms",2)::f20
def f22:=("both",2)::f21
def f23:=("first_touching",2)::f22
def f24:=("splitting_place",2)::f23
def f25:=("with_sign",3)::f24
def f26:=("grown",3)::f25
def f27:=("least",1)::f26
def f28:=("is_named",3)::f27
def f29:=("is_place",2)::f28
def f30:=("leaves",2)::f29
def f31:=("need_two_books",2)::f30
def f32:=("deed_of",2)::f31
def f33:=("same_deeds",3)::f32
def f34:=("stars",1)::f33
def f35:=("alike",2)::f34
def f36:=("parting_word",2)::f35
def f37:=("need_row",2)::f36
def f38:=("without",2)::f37
def f39:=("_law_same",2)::f38
def o1:OT:={ o0 with fl:=("Sieve","books")::o0.fl }
def o2:OT:={ o1 with ks:=("Sieve",1)::o1.ks }
def o3:OT:={ o2 with ms:=("Sieve.book","Sieve","book",1)::o2.ms }
def f40:=("_law_no_sieve",1)::f39
def o4:OT:={ o3 with ms:=("Sieve.back","Sieve","back",1)::o3.ms }
def o5:OT:={ o4 with ms:=("Sieve.turn","Sieve","turn",2)::o4.ms }
def o6:OT:={ o5 with ms:=("Sieve.move","Sieve","move",3)::o5.ms }
def o7:OT:={ o6 with ms:=("Sieve.out","Sieve","out",2)::o6.ms }
def o8:OT:={ o7 with ms:=("Sieve.put","Sieve","put",4)::o7.ms }
def f41:=("_law_do",3)::f40
def f42:=("_law_told",3)::f41
def f43:=("_law_refusals_right",3)::f42
def S(i:Nat):Stmt:=HK.pw.main.body.getD i (.Pass ⟨0,0,0,0⟩)
noncomputable def SM(i j:Nat):Stmt:=match S i with |.ClassDef _ _ _ b _ _ _ _ _ _ _=>b.getD j (.Pass ⟨0,0,0,0⟩) |s=>s
def nZ:Stmt:=S 32
theorem afE:fnB ["thing"] ["thing"] (ao nZ)=true:=by ac_rfl
theorem afF:CK ["thing"] nZ f0 o0 j5:=by ac_rfl
def n6:Stmt:=S 21
theorem afG:fnB ["signs","width","thing"] ["signs","width","thing"] (ao n6)=true:=by ac_rfl
theorem afH:CK ["signs","width","thing"] n6 f1 o0 j6:=by ac_rfl
def oh:Stmt:=S 23
theorem afI:fnB ["width","thing"] ["width","thing"] (ao oh)=true:=by ac_rfl
theorem afJ:CK ["width","thing"] oh f2 o0 lZ:=by ac_rfl
def ou:Stmt:=S 33
theorem afK:fnB ["width","thing"] ["width","thing"] (ao ou)=true:=by ac_rfl
theorem afL:CK ["width","thing"] ou f3 o0 fY:=by ac_rfl
def oA:Stmt:=S 18
theorem afM:fnB ["thing"] ["thing"] (ao oA)=true:=by ac_rfl
theorem afN:CK ["thing"] oA f4 o0 mj:=by ac_rfl
def oE:Stmt:=S 19
theorem afO:fnB ["thing"] ["thing"] (ao oE)=true:=by ac_rfl
theorem afP:CK ["thing"] oE f5 o0 mq:=by ac_rfl
def oF:Stmt:=S 34
theorem afQ:fnB ["thing","width","rows"] ["thing"] (ao oF)=true:=by ac_rfl
theorem afR:CK ["thing","width","rows"] oF f6 o0 fZ:=by ac_rfl
def oG:Stmt:=S 35
theorem afS:fnB ["book"] ["book"] (ao oG)=true:=by ac_rfl
theorem afT:CK ["book"] oG f7 o0 iT:=by ac_rfl
def oH:Stmt:=S 58
theorem afU:fnB ["pen"] ["pen"] (ao oH)=true:=by ac_rfl
theorem afV:CK ["pen"] oH f8 o0 yL:=by ac_rfl
def oJ:Stmt:=S 56
theorem afW:fnB ["cell","at","one","two","three"] ["cell","at"] (ao oJ)=true:=by ac_rfl
theorem afX:CK ["cell","at","one","two","three"] oJ f9 o0 yM:=by ac_rfl
def oK:Stmt:=S 59
theorem afY:fnB ["pen","many","at","cell","found"] ["pen","many"] (ao oK)=true:=by ac_rfl
theorem afZ:CK ["pen","many","at","cell","found"] oK f10 o0 yN:=by ac_rfl
def oM:Stmt:=S 60
theorem af0:fnB ["pen","width","signs"] ["pen","width","signs"] (ao oM)=true:=by ac_rfl
theorem af1:CK ["pen","width","signs"] oM f11 o0 yO:=by ac_rfl
def oN:Stmt:=S 65
theorem af2:fnB ["pen","most","some","turn","found","letters"] ["pen","most"] (ao oN)=true:=by ac_rfl
theorem af3:CK ["pen","most","some","turn","found","letters"] oN f12 o0 yP:=by ac_rfl
def oO:Stmt:=S 61
theorem af4:fnB ["pen","width"] ["pen","width"] (ao oO)=true:=by ac_rfl
theorem af5:CK ["pen","width"] oO f13 o0 yQ:=by ac_rfl
def oR:Stmt:=S 63
theorem af6:fnB ["pen","form","found","sign"] ["pen","form"] (ao oR)=true:=by ac_rfl
theorem af7:CK ["pen","form","found","sign"] oR f14 o0 yR:=by ac_rfl
def oU:Stmt:=S 62
theorem af8:fnB ["pen","form","found","sign"] ["pen","form"] (ao oU)=true:=by ac_rfl
theorem af9:CK ["pen","form","found","sign"] oU f15 o0 yS:=by ac_rfl
def oV:Stmt:=S 64
theorem aga:fnB ["pen","width","forms","kind","form","at"] ["pen","width","forms"] (ao oV)=true:=by ac_rfl
theorem agb:CK ["pen","width","forms","kind","form","at"] oV f16 o0 yU:=by ac_rfl
def oW:Stmt:=S 66
theorem agc:fnB ["pen","widest","most","width","deeds","forms","rows","k"] ["pen","widest","most"] (ao oW)=true:=by ac_rfl
theorem agd:CK ["pen","widest","most","width","deeds","forms","rows","k"] oW f17 o0 yV:=by ac_rfl
def oX:Stmt:=S 68
theorem age:fnB ["caught","some","names"] ["caught"] (ao oX)=true:=by ac_rfl
theorem agf:CK ["caught","some","names"] oX f18 o0 yW:=by ac_rfl
def oY:Stmt:=S 57
theorem agg:fnB ["script","cells","k","cell"] ["script"] (ao oY)=true:=by ac_rfl
theorem agh:CK ["script","cells","k","cell"] oY f19 o0 yX:=by ac_rfl
def oZ:Stmt:=S 72
theorem agi:fnB ["pen","width","form","at","odd"] ["pen","width"] (ao oZ)=true:=by ac_rfl
theorem agj:CK ["pen","width","form","at","odd"] oZ f20 o0 yZ:=by ac_rfl
def o9:Stmt:=S 26
theorem agk:fnB ["form","other","shared","one","two"] ["form","other"] (ao o9)=true:=by ac_rfl
theorem agl:CK ["form","other","shared","one","two"] o9 f21 o0 my:=by ac_rfl
def ph:Stmt:=S 44
theorem agm:fnB ["rows","box","number","row"] ["rows","box"] (ao ph)=true:=by ac_rfl
theorem agn:CK ["rows","box","number","row"] ph f22 o0 mz:=by ac_rfl
def pq:Stmt:=S 45
theorem ago:fnB ["rows","box","number","at","sign"] ["rows","box"] (ao pq)=true:=by ac_rfl
theorem agp:CK ["rows","box","number","at","sign"] pq f23 o0 mC:=by ac_rfl
def pA:Stmt:=S 25
theorem agq:fnB ["form","at","sign"] ["form","at","sign"] (ao pA)=true:=by ac_rfl
theorem agr:CK ["form","at","sign"] pA f24 o0 mD:=by ac_rfl
def pB:Stmt:=S 46
theorem ags:fnB ["name","many_rows","box","rows","at","zero","one"] ["name","many_rows","box"] (ao pB)=true:=by ac_rfl
theorem agt:CK ["name","many_rows","box","rows","at","zero","one"] pB f26 o0 j7:=by ac_rfl
def pC:Stmt:=S 27
def pF:Stmt:=S 42
theorem agu:fnB ["name","many","thing"] ["name","many","thing"] (ao pF)=true:=by ac_rfl
theorem agv:CK ["name","many","thing"] pF f27 o0 mF:=by ac_rfl
def pG:Stmt:=S 20
theorem agw:fnB ["many","thing"] ["many","thing"] (ao pG)=true:=by ac_rfl
theorem agx:CK ["many","thing"] pG f28 o0 mG:=by ac_rfl
def pH:Stmt:=S 43
theorem agy:fnB ["box","tree","at","zero","one"] ["box","tree"] (ao pH)=true:=by ac_rfl
theorem agz:CK ["box","tree","at","zero","one"] pH f30 o0 iU:=by ac_rfl
def pI:Stmt:=S 36
theorem agA:fnB ["one","other"] ["one","other"] (ao pI)=true:=by ac_rfl
theorem agB:CK ["one","other"] pI f30 o0 mH:=by ac_rfl
def pJ:Stmt:=S 39
theorem agC:fnB ["book","number"] ["book","number"] (ao pJ)=true:=by ac_rfl
theorem agD:CK ["book","number"] pJ f31 o0 j8:=by ac_rfl
def pK:Stmt:=S 48
theorem agE:fnB ["one","other","leaf"] ["one","other","leaf"] (ao pK)=true:=by ac_rfl
theorem agF:CK ["one","other","leaf"] pK f32 o0 mJ:=by ac_rfl
def pL:Stmt:=S 41
theorem agG:fnB ["width"] ["width"] (ao pL)=true:=by ac_rfl
theorem agH:CK ["width"] pL f33 o0 mK:=by ac_rfl
def pM:Stmt:=S 49
theorem agI:fnB ["one","other","box","tree","parting"] ["one","other"] (ao pM)=true:=by ac_rfl
theorem agJ:CK ["one","other","box","tree","parting"] pM f34 o0 mL:=by ac_rfl
def pN:Stmt:=S 50
theorem agK:fnB ["one","other","name","shown"] ["one","other"] (ao pN)=true:=by ac_rfl
theorem agL:CK ["one","other","name","shown"] pN f35 o0 mO:=by ac_rfl
def pO:Stmt:=S 37
theorem agM:fnB ["book","number"] ["book","number"] (ao pO)=true:=by ac_rfl
theorem agN:CK ["book","number"] pO f36 o0 gQ:=by ac_rfl
def pP:Stmt:=S 52
theorem agO:fnB ["book","number","width","rows"] ["book","number"] (ao pP)=true:=by ac_rfl
theorem agP:CK ["book","number","width","rows"] pP f37 o0 iV:=by ac_rfl
def pQ:Stmt:=S 67
theorem agQ:fnB ["found","due"] ["found","due"] (ao pQ)=true:=by ac_rfl
theorem agR:CK ["found","due"] pQ f39 o0 mQ:=by ac_rfl
def pR:Stmt:=SM 54 0
theorem agS:fnB ["self","book"] ["self","book"] (ao pR)=true:=by ac_rfl
theorem agT:uF (aH ["self","book"] (ao pR) f39 bt cn xs o1) "need_book" "books" (aF pR)=true:=by ac_rfl
def pU:Stmt:=SM 54 1
theorem agU:fnB ["self"] ["self"] (ao pU)=true:=by ac_rfl
theorem agV:CK ["self"] pU f39 o2 mR:=by ac_rfl
def pW:Stmt:=S 71
theorem agW:fnB ["thing","caught","e"] ["thing"] (ao pW)=true:=by ac_rfl
theorem agX:CK ["thing","caught","e"] pW f39 o3 za:=by ac_rfl
def pX:Stmt:=SM 54 8
theorem agY:fnB ["self","undone"] ["self"] (ao pX)=true:=by ac_rfl
theorem agZ:CK ["self","undone"] pX f40 o3 iW:=by ac_rfl
def pY:Stmt:=SM 54 4
theorem ag0:fnB ["self","rows","before"] ["self","rows"] (ao pY)=true:=by ac_rfl
theorem ag1:CK ["self","rows","before"] pY f40 o4 mU:=by ac_rfl
def pZ:Stmt:=SM 54 7
theorem ag2:fnB ["self","number","place","row","others"] ["self","number","place"] (ao pZ)=true:=by ac_rfl
theorem ag3:CK ["self","number","place","row","others"] pZ f40 o5 iY:=by ac_rfl
def p6:Stmt:=SM 54 6
theorem ag4:fnB ["self","number"] ["self","number"] (ao p6)=true:=by ac_rfl
theorem ag5:CK ["self","number"] p6 f40 o6 iZ:=by ac_rfl
def p7:Stmt:=SM 54 5
theorem ag6:fnB ["self","number","form","deed","width","rows"] ["self","number","form","deed"] (ao p7)=true:=by ac_rfl
theorem ag7:CK ["self","number","form","deed","width","rows"] p7 f40 o7 jb:=by ac_rfl
def p8:Stmt:=S 69
theorem ag8:fnB ["sieve","word","pieces"] ["sieve","word","pieces"] (ao p8)=true:=by ac_rfl
theorem ag9:CK ["sieve","word","pieces"] p8 f40 o8 gb:=by ac_rfl
def qb:Stmt:=S 70
theorem aha:fnB ["sieve","word","pieces","caught","e"] ["sieve","word","pieces"] (ao qb)=true:=by ac_rfl
theorem ahb:CK ["sieve","word","pieces","caught","e"] qb f41 o8 uG:=by ac_rfl
def qd:Stmt:=S 73
theorem ahc:fnB ["pen","sieve","book","width","rows","many","far","forms","deeds","odd","number","at","form","one"] ["pen","sieve","book"] (ao qd)=true:=by ac_rfl
theorem ahd:CK ["pen","sieve","book","width","rows","many","far","forms","deeds","odd","number","at","form","one"] qd f42 o8 zb:=by ac_rfl
def qe:Stmt:=S 74
theorem ahe:fnB ["script","pen","turn","width","rows","sieve","things","thing"] ["script"] (ao qe)=true:=by ac_rfl
theorem ahf:CK ["script","pen","turn","width","rows","sieve","things","thing"] qe f43 o8 zc:=by ac_rfl
theorem Q6:(Str.ofString "0":Str)=tx [48]:=by ac_rfl
theorem ahg:(Str.ofString "*":Str)=tx [42]:=by ac_rfl
theorem ahh:FnScope ["form"] ["form"] (ao pC):=⟨rfl,rfl,rfl,by ac_rfl,rfl,by ac_rfl,by ac_rfl⟩
def ahi:Sp:=λvs H Q _=>∃l:List Nat,vs=[.str (tx l)]/\l.length<=1000/\Q (.str (tx (cz l))) H
theorem ahj {P:Program} {w:World} {K:PF} {mg:Str->Option Value} {base:Heap} {f:Addr} {fd:FuncData} (F:Fun K "least" "least" pC f fd):FnOk P w K mg base CX0 1 f fd ["form"] ahi:=by
 refine F.ok1 ahh rfl (by ac_rfl) (λ_=>rfl) (λvs H Q E h=>?_) (λcdv A outer s H vs Q E hr h=>?_)
 ·obtain ⟨l,rfl,_⟩:=h;rfl
 ·obtain ⟨l,rfl,hl,q⟩:=h;refine ⟨_,X7 (Yb (pv 0) (by ac_rfl)),?_⟩;refine ⟨_,rfl,_,rfl,?_,?_⟩
  ·rw[Q6,bM,bM];simp;omega
  ·rw[ahg,Q6,X8];exact q
theorem ahk {P:Program} {w:World} {K:PF} {mg:Str->Option Value} {base:Heap} {f:Addr} {fd:FuncData} (F:Fun K "least" "least" pC f fd):FnOk P w K mg base CX0 1 f fd ["form"] (lift K 1 (aJ kW)):=by
 refine (ahj F).imp λvs H Q E h=>?_;obtain ⟨e0,Fz,G,ds,r,t,⟨ds',G'⟩,⟨e1,e2⟩,e3,e4⟩:=h;cases e1;obtain ⟨d,hd⟩:=Option.isSome_iff_exists.mp e2;have hd2:=hd;unfold kW at hd;split at hd
 ·rename_i l;split at hd
  ·rename_i hl;cases hd;obtain ⟨v,rfl,rv⟩:=bu t;obtain ⟨rfl,_⟩:=rv;have hl':l.length<=1000:=of_decide_eq_true hl;exact ⟨l,rfl,hl',(e3 _ _ ⟨rfl,hd2⟩).now r ⟨rfl,by unfold cz;rw[List.length_map];exact Nat.le_trans hl' (by decide)⟩⟩
  ·cases hd
 ·cases hd
noncomputable def fdM(n:Str)(st:Stmt)(m:Str)(t c:Nat):FuncData:=PySem.W.fnOf n n (jq st) (aF st) (ao st) .none .none .none (.str m t) none (.ref c) .none
theorem mkF {K:PF} {n m:Str} {st:Stmt} {a t c:Nat}(l:K.lookup a=some ⟨.type "function",none,.func (fdM n st m t c),⟨[]⟩⟩:=by rfl')(h1:PySem.W.codeIn K (.ref c) n=true:=by eq_refl)(h2:PySem.W.keepIn K (.ref a)=true:=by eq_refl):Fun K n n st a (fdM n st m t c):=CG l h1 h2
theorem tK:type_of% @PySem.W.Fast.te538113369711794958:=PySem.W.Fast.te538113369711794958
local macro_rules|`(tactic|ac_nf)=>`(tactic|(intro _ _ _ _ _ _ us hl;first|(obtain ⟨_,h⟩:=cP hl;subst h;rfl)|(obtain ⟨_,_,h⟩:=bz hl;subst h;rfl)|(obtain ⟨_,_,_,h⟩:=di hl;subst h;rfl)|(obtain ⟨_,_,_,_,h⟩:=acB hl;subst h;rfl)))
local macro_rules|`(tactic|eq_refl)=>`(tactic|(first|rw[tK]|(unfold NQ;rw[tK]));rfl')
section
variable {P:Params}
noncomputable def fdQ(n q:Str)(st:Stmt)(m:Str)(t c:Nat):FuncData:=PySem.W.fnOf n q (jq st) (aF st) (ao st) .none .none .none (.str m t) none (.ref c) .none
theorem mkQ {K:PF} {n q m:Str} {st:Stmt} {a t c:Nat}(l:K.lookup a=some ⟨.type "function",none,.func (fdQ n q st m t c),⟨[]⟩⟩:=by rfl')(h1:PySem.W.codeIn K (.ref c) q=true:=by eq_refl)(h2:PySem.W.keepIn K (.ref a)=true:=by eq_refl):Fun K n q st a (fdQ n q st m t c):=CG l h1 h2
theorem gm:NQ P "Sieve" 461:=by eq_refl
theorem il:Cls (HK.K P) 461:=⟨by eq_refl,by eq_refl,by eq_refl,by eq_refl⟩
theorem Q7:NoAttr (HK.K P) 461 (Str.ofString "books"):=by show PySem.W.findIn (HK.K P) (.ref 461) (Str.ofString "books")=some none;rw[tK];rfl'
def Q8:FuncData:=fdM "is_deed" nZ "starsieve.books" 521 274
theorem Q9:Fun (HK.K P) "is_deed" "is_deed" nZ 275 Q8:=mkF
theorem ahl:NQ P "is_deed" 275:=by eq_refl
theorem j5:BQ P Q8 ["thing"]:=Q9.binds (by ac_nf)
def Ra:FuncData:=fdM "is_text_of" n6 "starsieve.forms" 440 229
theorem Rb:Fun (HK.K P) "is_text_of" "is_text_of" n6 230 Ra:=mkF
theorem ahm:NQ P "is_text_of" 230:=by eq_refl
theorem j6:BQ P Ra ["signs","width","thing"]:=Rb.binds (by ac_nf)
def Rc:FuncData:=fdM "is_form" oh "starsieve.forms" 440 243
theorem Rf:Fun (HK.K P) "is_form" "is_form" oh 244 Rc:=mkF
theorem ahn:NQ P "is_form" 244:=by eq_refl
theorem lZ:BQ P Rc ["width","thing"]:=Rf.binds (by ac_nf)
def Rg:FuncData:=fdM "is_row" ou "starsieve.books" 521 281
theorem Rh:Fun (HK.K P) "is_row" "is_row" ou 282 Rg:=mkF
theorem aho:NQ P "is_row" 282:=by eq_refl
theorem fY:BQ P Rg ["width","thing"]:=Rh.binds (by ac_nf)
def Ri:FuncData:=fdM "is_whole" oA "starsieve.forms" 440 210
theorem Rj:Fun (HK.K P) "is_whole" "is_whole" oA 211 Ri:=mkF
theorem ahp:NQ P "is_whole" 211:=by eq_refl
theorem mj:BQ P Ri ["thing"]:=Rj.binds (by ac_nf)
def Rk:FuncData:=fdM "is_width" oE "starsieve.forms" 440 217
theorem Rm:Fun (HK.K P) "is_width" "is_width" oE 218 Rk:=mkF
theorem ahq:NQ P "is_width" 218:=by eq_refl
theorem mq:BQ P Rk ["thing"]:=Rm.binds (by ac_nf)
def Rn:FuncData:=fdM "is_book" oF "starsieve.books" 521 286
theorem Ro:Fun (HK.K P) "is_book" "is_book" oF 287 Rn:=mkF
theorem ahr:NQ P "is_book" 287:=by eq_refl
theorem fZ:BQ P Rn ["thing"]:=Ro.binds (by ac_nf)
def Rp:FuncData:=fdM "need_book" oG "starsieve.books" 521 293
theorem Rq:Fun (HK.K P) "need_book" "need_book" oG 294 Rp:=mkF
theorem ahs:NQ P "need_book" 294:=by eq_refl
theorem iT:BQ P Rp ["book"]:=Rq.binds (by ac_nf)
def Rt:FuncData:=fdM "_law_anew" oH LN 788 485
theorem Ru:Fun (HK.K P) "_law_anew" "_law_anew" oH 486 Rt:=mkF
theorem aht:NQ P "_law_anew" 486:=by eq_refl
theorem ahu:BQ P Rt ["pen"]:=Ru.binds (by ac_nf)
def Rv:FuncData:=fdM "_law_spread" oJ LN 788 471
theorem Rw:Fun (HK.K P) "_law_spread" "_law_spread" oJ 472 Rv:=mkF
theorem ahv:NQ P "_law_spread" 472:=by eq_refl
theorem ahw:BQ P Rv ["cell","at"]:=Rw.binds (by ac_nf)
def Rx:FuncData:=fdM "_law_take" oK LN 788 492
theorem Ry:Fun (HK.K P) "_law_take" "_law_take" oK 493 Rx:=mkF
theorem ahx:NQ P "_law_take" 493:=by eq_refl
theorem ahy:BQ P Rx ["pen","many"]:=Ry.binds (by ac_nf)
def Rz:FuncData:=fdM "_law_signs" oM LN 788 497
theorem RB:Fun (HK.K P) "_law_signs" "_law_signs" oM 498 Rz:=mkF
theorem ahz:NQ P "_law_signs" 498:=by eq_refl
theorem ahA:BQ P Rz ["pen","width","signs"]:=RB.binds (by ac_nf)
def RC:FuncData:=fdM "_law_deeds_of" oN LN 788 530
theorem RD:Fun (HK.K P) "_law_deeds_of" "_law_deeds_of" oN 531 RC:=mkF
theorem ahB:NQ P "_law_deeds_of" 531:=by eq_refl
theorem ahC:BQ P RC ["pen","most"]:=RD.binds (by ac_nf)
def RG:FuncData:=fdM "_law_form" oO LN 788 504
theorem RJ:Fun (HK.K P) "_law_form" "_law_form" oO 505 RG:=mkF
theorem ahD:NQ P "_law_form" 505:=by eq_refl
theorem ahE:BQ P RG ["pen","width"]:=RJ.binds (by ac_nf)
def RK:FuncData:=fdM "_law_wider" oR LN 788 518
theorem RL:Fun (HK.K P) "_law_wider" "_law_wider" oR 519 RK:=mkF
theorem ahF:NQ P "_law_wider" 519:=by eq_refl
theorem ahG:BQ P RK ["pen","form"]:=RL.binds (by ac_nf)
def RM:FuncData:=fdM "_law_within" oU LN 788 511
theorem RN:Fun (HK.K P) "_law_within" "_law_within" oU 512 RM:=mkF
theorem ahH:NQ P "_law_within" 512:=by eq_refl
theorem ahI:BQ P RM ["pen","form"]:=RN.binds (by ac_nf)
def RP:FuncData:=fdM "_law_form_like" oV LN 788 525
theorem RQ:Fun (HK.K P) "_law_form_like" "_law_form_like" oV 526 RP:=mkF
theorem ahJ:NQ P "_law_form_like" 526:=by eq_refl
theorem ahK:BQ P RP ["pen","width","forms"]:=RQ.binds (by ac_nf)
def RT:FuncData:=fdM "_law_book" oW LN 788 537
theorem RV:Fun (HK.K P) "_law_book" "_law_book" oW 538 RT:=mkF
theorem ahL:NQ P "_law_book" 538:=by eq_refl
theorem ahM:BQ P RT ["pen","widest","most"]:=RV.binds (by ac_nf)
def RW:FuncData:=fdM "_law_refusal" oX LN 788 549
theorem RX:Fun (HK.K P) "_law_refusal" "_law_refusal" oX 550 RW:=mkF
theorem ahN:NQ P "_law_refusal" 550:=by eq_refl
theorem ahO:BQ P RW ["caught"]:=RX.binds (by ac_nf)
def RZ:FuncData:=fdM "_law_open" oY LN 788 478
theorem R0:Fun (HK.K P) "_law_open" "_law_open" oY 479 RZ:=mkF
theorem ahP:NQ P "_law_open" 479:=by eq_refl
theorem ahQ:BQ P RZ ["script"]:=R0.binds (by ac_nf)
def R1:FuncData:=fdM "_law_odd_forms" oZ LN 788 577
theorem R3:Fun (HK.K P) "_law_odd_forms" "_law_odd_forms" oZ 578 R1:=mkF
theorem ahR:NQ P "_law_odd_forms" 578:=by eq_refl
theorem ahS:BQ P R1 ["pen","width"]:=R3.binds (by ac_nf)
def R4:FuncData:=fdM "both" o9 "starsieve.forms" 440 262
theorem R5:Fun (HK.K P) "both" "both" o9 263 R4:=mkF
theorem ahT:NQ P "both" 263:=by eq_refl
theorem my:BQ P R4 ["form","other"]:=R5.binds (by ac_nf)
def R6:FuncData:=fdM "first_touching" ph "starsieve.laid" 592 349
theorem R7:Fun (HK.K P) "first_touching" "first_touching" ph 350 R6:=mkF
theorem ahU:NQ P "first_touching" 350:=by eq_refl
theorem mz:BQ P R6 ["rows","box"]:=R7.binds (by ac_nf)
def R8:FuncData:=fdM "splitting_place" pq "starsieve.laid" 592 356
theorem R9:Fun (HK.K P) "splitting_place" "splitting_place" pq 357 R8:=mkF
theorem ahV:NQ P "splitting_place" 357:=by eq_refl
theorem mC:BQ P R8 ["rows","box"]:=R9.binds (by ac_nf)
def Sd:FuncData:=fdM "with_sign" pA "starsieve.forms" 440 255
theorem Sg:Fun (HK.K P) "with_sign" "with_sign" pA 256 Sd:=mkF
theorem ahW:NQ P "with_sign" 256:=by eq_refl
theorem mD:BQ P Sd ["form","at","sign"]:=Sg.binds (by ac_nf)
def Ax:FuncData:=fdM "grown" pB "starsieve.laid" 592 361
theorem vD:Fun (HK.K P) "grown" "grown" pB 362 Ax:=mkF
theorem Sh:NQ P "grown" 362:=by eq_refl
theorem j7:BQ P Ax ["name","many_rows","box"]:=vD.binds (by ac_nf)
def Sq:FuncData:=fdM "least" pC "starsieve.forms" 440 269
theorem Ay:Fun (HK.K P) "least" "least" pC 270 Sq:=mkF
theorem ahX:NQ P "least" 270:=by eq_refl
theorem ahY:BQ P Sq ["form"]:=Ay.binds (by ac_nf)
def Ss:FuncData:=fdM "is_named" pF "starsieve.laid" 592 335
theorem Su:Fun (HK.K P) "is_named" "is_named" pF 336 Ss:=mkF
theorem ahZ:NQ P "is_named" 336:=by eq_refl
theorem mF:BQ P Ss ["name","many","thing"]:=Su.binds (by ac_nf)
def Sw:FuncData:=fdM "is_place" pG "starsieve.forms" 440 224
theorem Sy:Fun (HK.K P) "is_place" "is_place" pG 225 Sw:=mkF
theorem ah0:NQ P "is_place" 225:=by eq_refl
theorem mG:BQ P Sw ["many","thing"]:=Sy.binds (by ac_nf)
def Az:FuncData:=fdM "leaves" pH "starsieve.laid" 592 342
theorem vG:Fun (HK.K P) "leaves" "leaves" pH 343 Az:=mkF
theorem SJ:NQ P "leaves" 343:=by eq_refl
theorem iU:BQ P Az ["box","tree"]:=vG.binds (by ac_nf)
def SN:FuncData:=fdM "need_two_books" pI "starsieve.books" 521 300
theorem SQ:Fun (HK.K P) "need_two_books" "need_two_books" pI 301 SN:=mkF
theorem ah1:NQ P "need_two_books" 301:=by eq_refl
theorem mH:BQ P SN ["one","other"]:=SQ.binds (by ac_nf)
def SX:FuncData:=fdM "deed_of" pJ "starsieve.books" 521 321
theorem S5:Fun (HK.K P) "deed_of" "deed_of" pJ 322 SX:=mkF
theorem ah2:NQ P "deed_of" 322:=by eq_refl
theorem j8:BQ P SX ["book","number"]:=S5.binds (by ac_nf)
def S6:FuncData:=fdM "same_deeds" pK "starsieve.alike" 648 368
theorem S7:Fun (HK.K P) "same_deeds" "same_deeds" pK 369 S6:=mkF
theorem ah3:NQ P "same_deeds" 369:=by eq_refl
theorem mJ:BQ P S6 ["one","other","leaf"]:=S7.binds (by ac_nf)
def S8:FuncData:=fdM "stars" pL "starsieve.laid" 592 328
theorem S9:Fun (HK.K P) "stars" "stars" pL 329 S8:=mkF
theorem ah4:NQ P "stars" 329:=by eq_refl
theorem mK:BQ P S8 ["width"]:=S9.binds (by ac_nf)
def Tc:FuncData:=fdM "alike" pM "starsieve.alike" 648 373
theorem Td:Fun (HK.K P) "alike" "alike" pM 374 Tc:=mkF
theorem ah5:NQ P "alike" 374:=by eq_refl
theorem mL:BQ P Tc ["one","other"]:=Td.binds (by ac_nf)
def Te:FuncData:=fdM "parting_word" pN "starsieve.alike" 648 380
theorem Tf:Fun (HK.K P) "parting_word" "parting_word" pN 381 Te:=mkF
theorem ah6:NQ P "parting_word" 381:=by eq_refl
theorem mO:BQ P Te ["one","other"]:=Tf.binds (by ac_nf)
def Th:FuncData:=fdM "need_row" pO "starsieve.books" 521 307
theorem Ti:Fun (HK.K P) "need_row" "need_row" pO 308 Th:=mkF
theorem ah7:NQ P "need_row" 308:=by eq_refl
theorem gQ:BQ P Th ["book","number"]:=Ti.binds (by ac_nf)
def Tj:FuncData:=fdM "without" pP "starsieve.lean" 675 387
theorem Tn:Fun (HK.K P) "without" "without" pP 388 Tj:=mkF
theorem ah8:NQ P "without" 388:=by eq_refl
theorem iV:BQ P Tj ["book","number"]:=Tn.binds (by ac_nf)
def Ba:FuncData:=fdM "_law_same" pQ LN 788 542
theorem vH:Fun (HK.K P) "_law_same" "_law_same" pQ 543 Ba:=mkF
theorem Tp:NQ P "_law_same" 543:=by eq_refl
theorem Tq:BQ P Ba ["found","due"]:=vH.binds (by ac_nf)
def Tt:FuncData:=fdQ "__init__" "Sieve.__init__" pR "starsieve.sieve" 687 401
theorem Tu:Fun (HK.K P) "__init__" "Sieve.__init__" pR 402 Tt:=mkQ
theorem ah9:Mk (HK.K P) 461 402:=⟨by eq_refl,by eq_refl,by eq_refl,by eq_refl⟩
theorem aia:BQ P Tt ["self","book"]:=Tu.binds (by ac_nf)
def Tv:FuncData:=fdQ "book" "Sieve.book" pU "starsieve.sieve" 687 408
theorem Tw:Fun (HK.K P) "book" "Sieve.book" pU 409 Tv:=mkQ
theorem aib:Meth (HK.K P) 461 (Str.ofString "book") 409:=⟨by eq_refl,by eq_refl,by eq_refl⟩
theorem mR:BQ P Tv ["self"]:=Tw.binds (by ac_nf)
def Tz:FuncData:=fdM "_law_no_sieve" pW LN 788 570
theorem TF:Fun (HK.K P) "_law_no_sieve" "_law_no_sieve" pW 571 Tz:=mkF
theorem aic:NQ P "_law_no_sieve" 571:=by eq_refl
theorem aid:BQ P Tz ["thing"]:=TF.binds (by ac_nf)
def TQ:FuncData:=fdQ "back" "Sieve.back" pX "starsieve.sieve" 687 457
theorem TV:Fun (HK.K P) "back" "Sieve.back" pX 458 TQ:=mkQ
theorem aie:Meth (HK.K P) 461 (Str.ofString "back") 458:=⟨by eq_refl,by eq_refl,by eq_refl⟩
theorem iW:BQ P TQ ["self"]:=TV.binds (by ac_nf)
def TY:FuncData:=fdQ "turn" "Sieve.turn" pY "starsieve.sieve" 687 429
theorem T3:Fun (HK.K P) "turn" "Sieve.turn" pY 430 TY:=mkQ
theorem aif:Meth (HK.K P) 461 (Str.ofString "turn") 430:=⟨by eq_refl,by eq_refl,by eq_refl⟩
theorem mU:BQ P TY ["self","rows"]:=T3.binds (by ac_nf)
def T4:FuncData:=fdQ "move" "Sieve.move" pZ "starsieve.sieve" 687 450
theorem T5:Fun (HK.K P) "move" "Sieve.move" pZ 451 T4:=mkQ
theorem aig:Meth (HK.K P) 461 (Str.ofString "move") 451:=⟨by eq_refl,by eq_refl,by eq_refl⟩
theorem iY:BQ P T4 ["self","number","place"]:=T5.binds (by ac_nf)
def T6:FuncData:=fdQ "out" "Sieve.out" p6 "starsieve.sieve" 687 443
theorem T7:Fun (HK.K P) "out" "Sieve.out" p6 444 T6:=mkQ
theorem aih:Meth (HK.K P) 461 (Str.ofString "out") 444:=⟨by eq_refl,by eq_refl,by eq_refl⟩
theorem iZ:BQ P T6 ["self","number"]:=T7.binds (by ac_nf)
def T8:FuncData:=fdQ "put" "Sieve.put" p7 "starsieve.sieve" 687 436
theorem T9:Fun (HK.K P) "put" "Sieve.put" p7 437 T8:=mkQ
theorem aii:Meth (HK.K P) 461 (Str.ofString "put") 437:=⟨by eq_refl,by eq_refl,by eq_refl⟩
theorem jb:BQ P T8 ["self","number","form","deed"]:=T9.binds (by ac_nf)
def Ua:FuncData:=fdM "_law_do" p8 LN 788 556
theorem Ub:Fun (HK.K P) "_law_do" "_law_do" p8 557 Ua:=mkF
theorem aij:NQ P "_law_do" 557:=by eq_refl
theorem aik:BQ P Ua ["sieve","word","pieces"]:=Ub.binds (by ac_nf)
def Uc:FuncData:=fdM "_law_told" qb LN 788 563
theorem Ud:Fun (HK.K P) "_law_told" "_law_told" qb 564 Uc:=mkF
theorem ail:NQ P "_law_told" 564:=by eq_refl
theorem aim:BQ P Uc ["sieve","word","pieces"]:=Ud.binds (by ac_nf)
def Ue:FuncData:=fdM "_law_refusals_right" qd LN 788 584
theorem Ug:Fun (HK.K P) "_law_refusals_right" "_law_refusals_right" qd 585 Ue:=mkF
theorem ain:NQ P "_law_refusals_right" 585:=by eq_refl
theorem aio:BQ P Ue ["pen","sieve","book"]:=Ug.binds (by ac_nf)
def Bb:FuncData:=fdM "law" qe LN 788 591
theorem aip:Fun (HK.K P) "law" "law" qe 592 Bb:=mkF
theorem aiq:NQ P "law" 592:=by eq_refl
theorem air:PySem.W.nsIn (HK.K P) mainGlobals "all"=some none:=by eq_refl
theorem ais:PySem.W.nsIn (HK.K P) mainGlobals "bool"=some none:=by eq_refl
theorem ait:PySem.W.nsIn (HK.K P) mainGlobals "enumerate"=some none:=by eq_refl
theorem aiu:PySem.W.nsIn (HK.K P) mainGlobals "int"=some none:=by eq_refl
theorem aiv:PySem.W.nsIn (HK.K P) mainGlobals "isinstance"=some none:=by eq_refl
theorem aiw:PySem.W.nsIn (HK.K P) mainGlobals "len"=some none:=by eq_refl
theorem aix:PySem.W.nsIn (HK.K P) mainGlobals "list"=some none:=by eq_refl
theorem aiy:PySem.W.nsIn (HK.K P) mainGlobals "min"=some none:=by eq_refl
theorem aiz:PySem.W.nsIn (HK.K P) mainGlobals "range"=some none:=by eq_refl
theorem aiA:PySem.W.nsIn (HK.K P) mainGlobals "str"=some none:=by eq_refl
theorem aiB:PySem.W.nsIn (HK.K P) mainGlobals "tuple"=some none:=by eq_refl
theorem aiC:PySem.W.nsIn (HK.K P) mainGlobals "zip"=some none:=by eq_refl
theorem aiD:PySem.W.nsIn (HK.K P) mainGlobals "LETTERS"=some (some (.str "abcdefghijklmnopqrstuvwxyz" 527)):=by eq_refl
theorem aiE:PySem.W.nsIn (HK.K P) mainGlobals "LONGEST_DEED"=some (some (.int 8 525)):=by eq_refl
theorem aiF:PySem.W.nsIn (HK.K P) mainGlobals "MOST_ROWS"=some (some (.int 12 523)):=by eq_refl
theorem aiG:PySem.W.nsIn (HK.K P) mainGlobals "WIDEST"=some (some (.int 6 442)):=by eq_refl
theorem x_s:xsB (HK.K P) xs=true:=by eq_refl
end
section
variable {l:PySem.W.OpenLaw} {w:World} {h:Heap} {mg:Str->Option Value} {base:Heap} (X:(HK.K w.params).In h) (G:h.Ns mainGlobals mg)
include X G
theorem B0:BB l w mg base 0 f0 o0:=bse trivial ⟨mg_none_of X G air,mg_none_of X G ais,mg_none_of X G ait,mg_none_of X G aiu,mg_none_of X G aiv,mg_none_of X G aiw,mg_none_of X G aix,mg_none_of X G aiy,mg_none_of X G aiz,mg_none_of X G aiA,mg_none_of X G aiB,mg_none_of X G aiC,trivial⟩ ⟨acE (mg_of X G aiD) (by ac_rfl) (by decide),yJ (mg_of X G aiE),yJ (mg_of X G aiF),yJ (mg_of X G aiG),trivial⟩ X G x_s
theorem B1:BB l w mg base 1 f1 o0:=(B0 X G).step Q9 j5 (mg_of X G ahl) vz 0 afE afF rfl rfl (dF (λds G d h=>adm Φ  ds G d h))
theorem B2:BB l w mg base 2 f2 o0:=(B1 X G).step Rb j6 (mg_of X G ahm) Qt 0 afG afH rfl rfl (dF (λds G d h=>acV Φ  ds G d h))
theorem B3:BB l w mg base 3 f3 o0:=(B2 X G).step Rf lZ (mg_of X G ahn) vA 0 afI afJ rfl rfl (dF (λds G d h=>acW Φ Qt ds G d h))
theorem B4:BB l w mg base 4 f4 o0:=(B3 X G).step Rh fY (mg_of X G aho) Qu 0 afK afL rfl rfl (dF (λds G d h=>adn Φ vA vz ds G d h))
theorem B5:BB l w mg base 5 f5 o0:=(B4 X G).step Rj mj (mg_of X G ahp) Ah 0 afM afN rfl rfl (dF (λds G d h=>acT Φ  ds G d h))
theorem B6:BB l w mg base 6 f6 o0:=(B5 X G).step Rm mq (mg_of X G ahq) Qv 0 afO afP rfl rfl (dF (λds G d h=>acU Φ Ah ds G d h))
theorem B7:BB l w mg base 7 f7 o0:=(B6 X G).step Ro fZ (mg_of X G ahr) Ai 2 afQ afR rfl rfl (dF (λds G d h=>ado Φ Qv Qu ds G d h))
theorem B8:BB l w mg base 8 f8 o0:=(B7 X G).stepX Rq iT (mg_of X G ahs) nW 0 afS afT rfl rfl (zy rfl (bR (λds G h=>adv Φ Ai ds G h)) (λds G C h=>adw Φ Ai ds G C h))
theorem B9:BB l w mg base 9 f9 o0:=(B8 X G).step Ru ahu (mg_of X G aht) Qw 0 afU afV rfl rfl (bR (λds G h=>acM Φ  ds G h))
theorem B10:BB l w mg base 10 f10 o0:=(B9 X G).step Rw ahw (mg_of X G ahv) Qx 3 afW afX rfl rfl (bR (λds G h=>acL Φ  ds G h))
theorem B11:BB l w mg base 11 f11 o0:=(B10 X G).step Ry ahy (mg_of X G ahx) fB 3 afY afZ rfl rfl (bR (λds G h=>acN Φ Qx ds G h))
theorem B12:BB l w mg base 12 f12 o0:=(B11 X G).step RB ahA (mg_of X G ahz) Aj 0 af0 af1 rfl rfl (bR (λds G h=>acQ Φ fB ds G h))
theorem B13:BB l w mg base 13 f13 o0:=(B12 X G).step RD ahC (mg_of X G ahB) Qy 4 af2 af3 rfl rfl (bR (λds G h=>adc Φ fB Aj ds G h))
theorem B14:BB l w mg base 14 f14 o0:=(B13 X G).step RJ ahE (mg_of X G ahD) Ak 0 af4 af5 rfl rfl (bR (λds G h=>acR Φ fB Aj ds G h))
theorem B15:BB l w mg base 15 f15 o0:=(B14 X G).step RL ahG (mg_of X G ahF) Qz 2 af6 af7 rfl rfl (bR (λds G h=>ac4 Φ fB ds G h))
theorem B16:BB l w mg base 16 f16 o0:=(B15 X G).step RN ahI (mg_of X G ahH) QB 2 af8 af9 rfl rfl (bR (λds G h=>ac3 Φ fB ds G h))
theorem B17:BB l w mg base 17 f17 o0:=(B16 X G).step RQ ahK (mg_of X G ahJ) QC 3 aga agb rfl rfl (bR (λds G h=>ac9 Φ fB Ak QB Qz ds G h))
theorem B18:BB l w mg base 18 f18 o0:=(B17 X G).step RV ahM (mg_of X G ahL) QD 5 agc agd rfl rfl (bR (λds G h=>adg Φ fB Qy QC ds G h))
theorem B19:BB l w mg base 19 f19 o0:=(B18 X G).step RX ahO (mg_of X G ahN) Al 2 age agf rfl rfl (cU (λa ds G h=>aeY Φ  a ds G h))
theorem B20:BB l w mg base 20 f20 o0:=(B19 X G).step R0 ahQ (mg_of X G ahP) QF 3 agg agh rfl rfl (bR (λds G h=>acS Φ  ds G h))
theorem B21:BB l w mg base 21 f21 o0:=(B20 X G).step R3 ahS (mg_of X G ahR) QG 3 agi agj rfl rfl (cU (λa ds G h=>afb Φ Ak fB a ds G h))
theorem B22:BB l w mg base 22 f22 o0:=(B21 X G).step R5 my (mg_of X G ahT) QH 3 agk agl rfl rfl (dF (λds G d h=>adD Φ  ds G d h))
theorem B23:BB l w mg base 23 f23 o0:=(B22 X G).step R7 mz (mg_of X G ahU) Am 2 agm agn rfl rfl (bR (λds G h=>adK Φ QH ds G h))
theorem B24:BB l w mg base 24 f24 o0:=(B23 X G).step R9 mC (mg_of X G ahV) QJ 3 ago agp rfl rfl (bR (λds G h=>adN Φ Am ds G h))
theorem B25:BB l w mg base 25 f25 o0:=(B24 X G).step Sg mD (mg_of X G ahW) An 0 agq agr rfl rfl (dF (λds G d h=>adF Φ  ds G d h))
theorem Uh:∀n:Nat,FnOk l.prog w (HK.K w.params) mg base (CX1 l.prog w) (25+n) 362 Ax ["name","many_rows","box"] (lift (HK.K w.params) 3 (eX n))
 |0=>yK adU
 |n+1=>jX (fs:=f26) vD ((B25 X G).self (by ac_rfl) (Uh n) vD.kp j7 (mg_of X G Sh)) (eX (n+1)) 3 4 ags agt rfl rfl (bR (λds G h=>adT (gP Φ "grown" (eX n)) n (if_pos rfl) (jZ Am rfl) (jZ QJ rfl) (jZ An rfl) ds G h))
theorem B26:BB l w mg base 34 f26 o0:=(B25 X G).add (j:=9) QK (Uh X G 9) vD.kp j7 (mg_of X G Sh)
theorem B27:BB l w mg base 35 f27 o0:=(B26 X G).add (j:=1) QL ((ahk Ay).cx.mono (by decide)) Ay.kp ahY (mg_of X G ahX)
theorem B28:BB l w mg base 36 f28 o0:=(B27 X G).step Su mF (mg_of X G ahZ) QM 0 agu agv rfl rfl (dF (λds G d h=>ad0 Φ  ds G d h))
theorem B29:BB l w mg base 37 f29 o0:=(B28 X G).step Sy mG (mg_of X G ah0) kZ 0 agw agx rfl rfl (dF (λds G d h=>adY Φ Ah ds G d h))
theorem Ui:∀n:Nat,FnOk l.prog w (HK.K w.params) mg base (CX1 l.prog w) (37+n) 343 Az ["box","tree"] (lift (HK.K w.params) 2 (d8 n))
 |0=>yK ad3
 |n+1=>jX (fs:=f30) vG ((B29 X G).self (by ac_rfl) (Ui n) vG.kp iU (mg_of X G SJ)) (d8 (n+1)) 2 3 agy agz rfl rfl (j4 (λa G h=>ad5 (gP Φ "leaves" (d8 n)) n (if_pos rfl) (jZ QM rfl) (jZ kZ rfl) (jZ An rfl) a G h))
theorem B30:BB l w mg base 46 f30 o0:=(B29 X G).add (j:=9) QQ (Ui X G 9) vG.kp iU (mg_of X G SJ)
theorem B31:BB l w mg base 47 f31 o0:=(B30 X G).step SQ mH (mg_of X G ah1) QR 0 agA agB rfl rfl (j4 (λa G h=>aen Φ nW a G h))
theorem B32:BB l w mg base 48 f32 o0:=(B31 X G).step S5 j8 (mg_of X G ah2) QS 0 agC agD rfl rfl (bR (λds G h=>ady Φ  ds G h))
theorem B33:BB l w mg base 49 f33 o0:=(B32 X G).step S7 mJ (mg_of X G ah3) QT 0 agE agF rfl rfl (j4 (λa G h=>aep Φ QS a G h))
theorem B34:BB l w mg base 50 f34 o0:=(B33 X G).step S9 mK (mg_of X G ah4) QV 0 agG agH rfl rfl (dF (λds G d h=>adG Φ  ds G d h))
theorem B35:BB l w mg base 51 f35 o0:=(B34 X G).step Td mL (mg_of X G ah5) QW 3 agI agJ rfl rfl (cU (λa ds G h=>aer Φ QR QK QQ QL QV QT a ds G h))
theorem B36:BB l w mg base 52 f36 o0:=(B35 X G).step Tf mO (mg_of X G ah6) Ao 2 agK agL rfl rfl (j4 (λa G h=>aes Φ QW a G h))
theorem B37:BB l w mg base 53 f37 o0:=(B36 X G).stepX Ti gQ (mg_of X G ah7) nY 0 agM agN rfl rfl (zy rfl (j4 (λa G h=>aej Φ nW kZ a G h)) (λds G C h=>aek Φ nW kZ ds G C h))
theorem B38:BB l w mg base 54 f38 o0:=(B37 X G).stepX Tn iV (mg_of X G ah8) vB 2 agO agP rfl rfl (zy rfl (j4 (λa G h=>aev Φ nY a G h)) (λds G C h=>aew Φ nY ds G C h))
theorem Uj:∀n:Nat,FnOk l.prog w (HK.K w.params) mg base (CX1 l.prog w) (54+n) 543 Ba ["found","due"] (lift (HK.K w.params) 2 (fj n))
 |0=>yK afr
 |n+1=>jX (fs:=f39) vH ((B38 X G).self (by ac_rfl) (Uj n) vH.kp Tq (mg_of X G Tp)) (fj (n+1)) 2 0 agQ agR rfl rfl (bR (λds G h=>afq (gP Φ "_law_same" (fj n)) n (if_pos rfl) ds G h))
theorem B39:BB l w mg base 58 f39 o0:=(B38 X G).add (j:=4) QX (Uj X G 4) vH.kp Tq (mg_of X G Tp)
theorem BF:BB l w mg base 58 f39 o1:=(B39 X G).addF ⟨461,gm,il,Q7⟩
theorem B40:BB l w mg base 60 f39 o2:=(BF X G).addK (j:=2) (acK (BF X G) Tu aia (mg_of X G gm) gm il Q7 ah9 agS agT rfl rfl (λd G kk E h=>aeR Φ nW Aq d G kk E h))
theorem B41:BB l w mg base 61 f39 o3:=(B40 X G).stepM0 Tw mR gm il aib fD 0 agU agV rfl rfl (cU (λa ds G h=>aez Φ  a ds G h))
theorem B42:BB l w mg base 62 f40 o3:=(B41 X G).step TF aid (mg_of X G aic) QZ 2 agW agX rfl rfl (cU (λa ds G h=>afa Φ Aq Al a ds G h))
theorem B43:BB l w mg base 63 f40 o4:=(B42 X G).stepM TV iW gm il aie Ar 1 agY agZ rfl rfl (nG rfl (cU (λa ds G h=>aeL Φ fD Ao a ds G h)) (λds G C h=>aeQ Φ  ds G C h))
theorem B44:BB l w mg base 64 f40 o5:=(B43 X G).stepM0 T3 mU gm il aif vC 1 ag0 ag1 rfl rfl (cU (λa ds G h=>aeC Φ fD Ao a ds G h))
theorem B45:BB l w mg base 65 f40 o6:=(B44 X G).stepM T5 iY gm il aig Q0 2 ag2 ag3 rfl rfl (nG rfl (cU (λa ds G h=>aeJ Φ fD vC vB nY a ds G h)) (λds G C h=>aeP Φ fD nY ds G C h))
theorem B46:BB l w mg base 66 f40 o7:=(B45 X G).stepM T7 iZ gm il aih Q3 0 ag4 ag5 rfl rfl (nG rfl (cU (λa ds G h=>aeH Φ fD vC vB a ds G h)) (λds G C h=>aeO Φ fD vB ds G C h))
theorem B47:BB l w mg base 67 f40 o8:=(B46 X G).stepM T9 jb gm il aii Av 2 ag6 ag7 rfl rfl (nG rfl (cU (λa ds G h=>aeF Φ fD vC kZ vA vz a ds G h)) (λds G C h=>aeN Φ fD kZ vA vz ds G C h))
theorem B48:BB l w mg base 68 f41 o8:=(B47 X G).stepX Ub aik (mg_of X G aij) Q4 0 ag8 ag9 rfl rfl (nG rfl (cU (λa ds G h=>ae2 Φ Av Ar a ds G h)) (λds G C h=>ae3 Φ Av Q3 Q0 Ar ds G C h))
theorem B49:BB l w mg base 69 f42 o8:=(B48 X G).step Ud aim (mg_of X G ail) Aw 2 aha ahb rfl rfl (cU (λa ds G h=>ae8 Φ Q4 Al a ds G h))
theorem B50:BB l w mg base 70 f43 o8:=(B49 X G).step Ug aio (mg_of X G ain) Q5 11 ahc ahd rfl rfl (cU (λa ds G h=>afk Φ ⟨fB,QG,Aw⟩ a ds G h))
theorem aiH:FnOk l.prog w (HK.K w.params) mg base (CX1 l.prog w) 71 592 Bb ["script"] (lift (HK.K w.params) 1 (mX)):=jX aip (B50 X G) (mX) 1 7 ahe ahf rfl rfl (bR (λds G h=>afx Φ ⟨QF,Qw,QD,Aq,QZ,Q5,QX,fD,Aw⟩ ds G h))
omit X G in
theorem all (fa:Addr) (X:(HK.K w.params).In h) (G:h.Ns mainGlobals mg) (hfa:mg "law"=some (.ref fa)):∃fd:FuncData,(∀(s:Shared) (v:Value),BindsTo s fd ⟨[v],[]⟩ [("script",v)])/\∀base:Heap,(HK.K w.params).In base->base.Ns mainGlobals mg->FnOk l.prog w (HK.K w.params) mg base (CX1 l.prog w) 71 fa fd ["script"] (lift (HK.K w.params) 1 (mX)):=by have e:=hfa.symm.trans (PySem.W.mg_of X G aiq);cases e;exact ⟨Bb,λs v=>.of_eq rfl,λbase _ _=>aiH X G⟩
end
theorem walk {l:PySem.W.OpenLaw} {q:Program} {loose:List Str} {XP:(Str->Option Value)->Heap->Prop} {d:DefRec} (hn:l.most=some 63) (hdf:d.params.defaults=[]) (hdn:d.name="law"):
  PySem.W.WalkO q loose XP HK.hook.says l.row.toRowW d [] (λf vs=>PySem.call f vs):=
 L2.XJ (n:=63) (k:=71) (x:="script") (K:=HK.K) (CX:=λw=>CX1 l.prog w) (sp:=λw=>lift (HK.K w.params) 1 (mX)) hn (by decide) hdf ⟨rfl,by decide,by decide⟩ (λ_ _ Y=>Y) (λw mg fa h X G hmg=>all fa X G (hdn ▸ hmg)) (λw H a ns hl hO hS=>acF (acG λns _ hl=>⟨ns,rfl,hl⟩) (HK.K w.params) H a ns hl hO hS) λ_ _ _ _ _ z=>acr z
end Lk62
open PySem PySem.W PyProof.Rows
set_option maxRecDepth 100000 in
set_option maxHeartbeats 0 in
theorem PySem.Challenge.cw_starsieve_k62_changes_refused_holds : PySem.Challenge.rw_starsieve_k62_changes_refused.Holds := by
 have said:PySem.Challenge.rw_starsieve_k62_changes_refused.row.wellSaid=true:=by ac_rfl
 refine ⟨by ac_rfl,?_⟩;refine PySem.W.holds_open (q:=HK.qv) (loose:=[]) (Xt:=HK.Xt) (XP:=XL HK.qv []) (Yf:=HK.hook.obs) (Ya:=HK.hook.val) (YP:=HK.hook.says) (N:=12000) HK.left HK.hook.of HK.hook.keeps
  (λs e=>xl_of s (Bool.and_eq_true_iff.mp e).1) XL.keeps (by rfl) (by rfl) (by rfl) (λs e=>recFacts_of (Bool.and_eq_true_iff.mp e).2) (by rfl) (by assumption) (by ac_rfl) ⟨rfl,rfl,rfl,rfl,rfl,by ac_rfl⟩ ?hw ?hc
 case hw=>exact ⟨[.list []],by ac_rfl,by ac_rfl⟩
 exact Lk62.walk rfl rfl rfl
