import PyProof.Rows.All
import Wide.All
import OpenK.AllK
import Wide.FinOn
import Lean
import PyProof.EqAt
import PyProof.EqKinds
import PyProof.TupleCall
import PyProof.NeKinds
import PyProof.FactsAll.range_2
import PyProof.FactsAll.tuple_2
import PyProof.FactsAll.tuple
import PyProof.ListRange
import PyProof.ExcInit
import PySem.Challenge.RW_starsieve_k68_texts_judged
set_option compiler.extract_closed false
set_option bootstrap.genMatcherCode false
set_option genSizeOf false
set_option Elab.async false
set_option maxRecDepth 100000
noncomputable section
local macro_rules|`(def $n:declId $s:optDeclSig $v:declVal)=>do return (←`(noncomputable def $n:declId $s:optDeclSig $v:declVal)).raw.rewriteBottomUp (·.setInfo .none)
local macro_rules|`(abbrev $n:declId $s:optDeclSig $v:declVal)=>do return (←`(noncomputable abbrev $n:declId $s:optDeclSig $v:declVal)).raw.rewriteBottomUp (·.setInfo .none)
local macro_rules|`(theorem $n:declId $s:declSig $v:declVal)=>do
 if n.raw.getPos?.isNone then Lean.Macro.throwUnsupported
 return (←`(theorem $n:declId $s:declSig $v:declVal)).raw.rewriteBottomUp (·.setInfo .none)
def nZf.{u}{a:Sort u}(h:false=true):a:=nomatch h
local macro_rules|`(~~~$x)=>`(($x).heap.objs.size)
local macro_rules|`(↥$x)=>`(PySem.wpAny (PySem.model ($x).prog ($x).w) ($x).A)
local macro_rules|`(tactic|rfl')=>`(tactic|kernel_rfl)
local macro_rules|`(tactic|ac_rfl)=>`(tactic|decide +kernel)
abbrev PF:=PySem.W.Frag
set_option linter.all false
namespace L2
open PySem PySem.Spec PyProof.Rows
def ae:=@Bool.and_eq_true
def af:=@PySem.wpAny_bind
def ag:=@PySem.Heap.get?_push_of_some
def ah:=@List.length_map
def ai:=@beq_iff_eq
def al:=@List.contains_iff_mem
def am:=@Nat.le_refl
def ap:=@List.size_toArray
def av:=@PySem.wpAny_pure
def aw:=@List.length_append
def ax:=@PySem.Heap.lt_size
def ay:=@List.mem_cons
def aE:=@Option.some.injEq
def aI:=@PySem.Heap.get?_push_size
theorem aS:type_of% @List.length_cons:=@List.length_cons
def aT:=@Nat.lt_of_lt_of_le
def a7:=@List.all_eq_true
def a8:=@List.mem_append_right
def a9:=@List.mem_cons_of_mem
def ba:=@decide_eq_false
def bb:=@PySem.wpAny_mono
def bd:=@List.getElem?_eq_some_iff
def bg:=@Option.map_eq_some_iff
def bi:=@Nat.le_trans
def bn:=@List.mem_singleton
def bo:=@List.getElem?_eq_getElem
def bp:=@Nat.le_add_right
def br:=@List.not_mem_nil
def bv:=@List.mem_append
def bP:=@List.mem_map
def bS:=@List.mem_cons_self
def bX:=@Bool.or_eq_true
def b6:=@Bool.false_ne_true
def b9:=@Option.isNone_iff_eq_none
def ca:=@List.drop_eq_getElem_cons
def ce:=@decide_eq_true
def cf:=@Nat.ne_of_lt
def ci:=@List.map_cons
def ck:=@Bool.not_eq_true'
def cp:=@Option.isSome_iff_exists
def cq:=@PyProof.Rows.slot_tuple_getitem
def cr:=@List.getElem?_map
def cw:=@decide_eq_true_iff
def cy:=@PySem.wpAny_field
def cK:=@Int.eq_ofNat_of_zero_le
def cS:=@PySem.wpAny_loadPart_at
def c8:=@List.mem_of_getElem?
def c9:=@Option.some.inj
def da:=@List.map_append
def db:=@PySem.W.kia_one
def de:=@List.append_nil
def df:=@PySem.wpAny_holding
theorem dn:type_of% @List.replicate_succ:=@List.replicate_succ
def dv:=@List.drop_eq_nil_of_le
def dy:=@PySem.mem_of_lookup
def dA:=@Nat.ne_of_gt
def dE:=@List.mem_append_left
def dL:=@decide_eq_false_iff_not
theorem dP:type_of% @List.filterMap_cons:=@List.filterMap_cons
def dQ:=@beq_eq_false_iff_ne
def dS:=@PyProof.Rows.callWith_type1
def d4:=@PySem.wpAny_truthy_bool
def d5:=@PySem.wpAny_callSpecial?_slot
def d6:=@Nat.lt_irrefl
def ef:=@Array.getElem?_eq_some_iff
def eh:=@PySem.wpAny_setField_rec
def ei:=@PySem.wpAny_seqItems
def ej:=@or_false
def ez:=@congrArg
def eI:=@PySem.Heap.size_push
def eJ:=@List.length_reverse
def eK:=@PySem.wpAny_newObj_type
def eL:=@PySem.sizeLine_eq
def eM:=@List.length_eq_zero_iff
def eP:=@List.isEmpty_iff
def eS:=@Nat.le_succ
def eW:=@Int.emod_lt_of_pos
def e6:=@Int.emod_nonneg
def e7:=@Bool.eq_iff_iff
theorem e8:type_of% @List.length_nil:=@List.length_nil
theorem e9:type_of% @Int.toNat_natCast:=@Int.toNat_natCast
def fb:=@PySem.Heap.get?_update_other
def fe:=@List.drop_zero
def ff:=@Bool.and_false
def fg:=@List.map_map
def fh:=@List.length_drop
theorem fi:type_of% @Array.length_toList:=@Array.length_toList
def fk:=@PySem.codeAny_call_builtin
def fm:=@PySem.F.slot_tuple_iterator_next
def fo:=@PySem.wpAny_call_entry
def fq:=@Bool.false_eq_true
def fv:=@PySem.F.plainAttrs_list
def fw:=@PySem.wpAny_standAt
def fx:=@bne_self_eq_false
def fy:=@List.take_of_length_le
def fA:=@PySem.wpAny_execs_nil
def fE:=@PySem.wpAny_Call_Name_kw
def fF:=@List.getElem_mem
def fN:=@List.any_eq_true
def fR:=@PySem.Heap.get?_update_self
def fS:=@PySem.wpAny_rule
theorem fT:type_of% @List.flatten_cons:=@List.flatten_cons
abbrev Key:=Sum Int Str
def xY:Key->Value->Bool
 |.inl k,v=>Value.isInt k v
 |.inr x,v=>Value.isStrOf x v
def Ju(w:World):Key->Int
 |.inl k=>hashInt k
 |.inr x=>hashStr w x
theorem fj:∀{k:Key}{v:Value},xY k v=true->(∃i t,k=Sum.inl i/\v=Value.int i t)\/(∃x t,k=Sum.inr x/\v=Value.str x t)
 |.inl i,v,h=>by
  obtain ⟨t,e⟩:=Value.isInt_shape (k:=i) (v:=v) h;exact .inl ⟨i,t,rfl,e⟩
 |.inr x,v,h=>by
  obtain ⟨t,e⟩:=Value.isStrOf_shape (x:=x) (v:=v) h;exact .inr ⟨x,t,rfl,e⟩
theorem Jv(a b:Int):decide ((Sum.inl a:Key)=Sum.inl b)=(a==b):=by
 by_cases e:a=b
 ·subst e;simp
 ·have h:¬(Sum.inl a:Key)=Sum.inl b:=λq=>e (Sum.inl.inj q);rw[ba h];exact (dQ.mpr e).symm
theorem Jw(a b:Str):decide ((Sum.inr a:Key)=Sum.inr b)=decide (a=b):=by
 by_cases e:a=b
 ·subst e;simp
 ·have h:¬(Sum.inr a:Key)=Sum.inr b:=λq=>e (Sum.inr.inj q);rw[ba h,ba e]
theorem Jx(a:Int)(b:Str):decide ((Sum.inl a:Key)=Sum.inr b)=false:=ba (λq=>nomatch q)
theorem Jy(a:Str)(b:Int):decide ((Sum.inr a:Key)=Sum.inl b)=false:=ba (λq=>nomatch q)
def rz(prog:Program)(w:World):PySem.KeyKind prog w Key where
 is:=xY
 hash:=Ju w
 inj:=λv a b ha hb=>by
  rcases fj ha with ⟨i,t,rfl,rfl⟩ |⟨x,t,rfl,rfl⟩
  ·rcases fj hb with ⟨j,u,rfl,e⟩ |⟨y,u,rfl,e⟩
   ·injection e with e1 _;rw[e1]
   ·exact nomatch e
  ·rcases fj hb with ⟨j,u,rfl,e⟩ |⟨y,u,rfl,e⟩
   ·exact nomatch e
   ·injection e with e1 _;rw[e1]
 byValue:=λk v h=>by
  rcases fj h with ⟨i,t,rfl,rfl⟩ |⟨x,t,rfl,rfl⟩ <;> rfl
 pyHash:=λhv h=>by
  rcases fj hv with ⟨i,t,rfl,rfl⟩ |⟨x,t,rfl,rfl⟩
  ·exact wpAny_pyHash_int h
  ·exact wpAny_pyHash_str h
 eqBool:=λhu hv h=>by
  rcases fj hu with ⟨i,t,rfl,rfl⟩ |⟨x,t,rfl,rfl⟩
  ·rcases fj hv with ⟨j,u,rfl,rfl⟩ |⟨y,u,rfl,rfl⟩
   ·rw[Jv]at h;exact wpAny_eqBool_int h
   ·rw[Jx]at h;exact SeqAt.EqAt.int_str i t y u _ _ _ _ h
  ·rcases fj hv with ⟨j,u,rfl,rfl⟩ |⟨y,u,rfl,rfl⟩
   ·rw[Jy]at h;exact SeqAt.EqAt.str_int x t j u _ _ _ _ h
   ·rw[Jw]at h;exact wpAny_eqBool_str h
 «strs»:=λk x t v h=>by
  rcases fj h with ⟨i,u,rfl,e⟩ |⟨y,u,rfl,e⟩
  ·exact nomatch e
  ·injection e with e1 _;subst e1;cases v <;> rfl
inductive V where
 |non |bl (b:Bool) |int (i:Int) |str (x:Str) |byt (b:Array UInt8) |flt (b:UInt64) |ref (a:Addr) |ty (n:String)
 deriving DecidableEq
def RelV:V->Value->Prop
 |.non,u=>u=Value.none
 |.bl b,u=>u=Value.bool b
 |.int i,u=>∃t,u=Value.int i t
 |.str x,u=>∃t,u=Value.str x t
 |.byt b,u=>∃t,u=Value.bytes b t
 |.flt b,u=>∃t,u=Value.float b t
 |.ref a,u=>u=Value.ref a
 |.ty n,u=>u=Value.type n
abbrev Vals:List V->List Value->Prop:=Paired RelV
theorem Vals.length{xs:List V}{us:List Value}(r:Vals xs us):xs.length=us.length:=Paired.length r
theorem Vals.get:∀{xs:List V}{us:List Value}{i:Nat}{x:V},Vals xs us->xs[i]?=some x->∃u,us[i]?=some u/\RelV x u
 |_,_,_,_,.nil,e=>by simp at e
 |_,_,0,_,.cons r _,e=>by simp at e;subst e;exact ⟨_,rfl,r⟩
 |_,_,i+1,x,.cons _ t,e=>by
  obtain ⟨u,h1,h2⟩:=Vals.get (i:=i) (x:=x) t (by simpa using e);exact ⟨u,by simpa using h1,h2⟩
theorem Vals.set{x:V}{u:Value}(r:RelV x u):∀{xs:List V}{us:List Value}(i:Nat),Vals xs us->Vals (xs.set i x) (us.set i u)
 |_,_,_,.nil=>.nil
 |_,_,0,.cons _ t=>.cons r t
 |_,_,i+1,.cons q t=>.cons q (Vals.set r i t)
theorem Vals.append:∀{xs ys:List V}{us ws:List Value},Vals xs us->Vals ys ws->Vals (xs++ys) (us++ws)
 |_,_,_,_,.nil,s=>s
 |_,_,_,_,.cons r t,s=>.cons r (Vals.append t s)
theorem Vals.take:∀{xs:List V}{us:List Value}(n:Nat),Vals xs us->Vals (xs.take n) (us.take n)
 |_,_,0,_=>.nil
 |_,_,_+1,.nil=>.nil
 |_,_,n+1,.cons r t=>.cons r (Vals.take n t)
theorem Vals.drop:∀{xs:List V}{us:List Value}(n:Nat),Vals xs us->Vals (xs.drop n) (us.drop n)
 |_,_,0,r=>r
 |_,_,_+1,.nil=>.nil
 |_,_,n+1,.cons _ t=>Vals.drop n t
def RelO:Option V->Option Value->Prop
 |some v,some u=>RelV v u
 |none,none=>True
 |_,_=>False
def KV{κ:Type}:List (κ×V)->List (κ×Value)->Prop:=Paired λ(p:κ×V) (q:κ×Value)=>p.1=q.1/\RelV p.2 q.2
def kV:Key->V
 |.inl i=>.int i
 |.inr x=>.str x
inductive HO where
 |lst (xs:List V)
 |tup (xs:List V)
 |dK (kvs:List (Key×V)) |dT (kvs:List (List Key×V))
 |set (S:Int->Bool) (n:Nat)
 |ins (C dx:Addr) (fs:List (Str×V))
 |own (x:Addr)
 |xd (fs:List (Str×V))
 |met (f x:Addr)
 |rng (lo hi:Int)
 |frz (o:Obj) (u:HO)
 |tbl (ps:Array Value)
 |ext (φ:Heap->Prop)
abbrev Hp:=Addr->Option HO
def upd(H:Hp)(a:Addr)(o:HO):Hp:=λb=>if b=a then some o else H b
theorem bM{H:Hp}{a:Addr}{o:HO}:upd H a o a=some o:=by unfold upd;rw[if_pos rfl]
theorem aB{H:Hp}{a b:Addr}{o:HO}(h:b≠a):upd H a o b=H b:=by unfold upd;rw[if_neg h]
theorem xZ{H:Hp}{a b:Addr}{o u:HO}(h:H a=some o)(h':H b=some u)(d:o≠u):a≠b:=by intro e;subst e;rw[h]at h';exact d (c9 h')
theorem aR{H:Hp}{a b:Addr}{o:HO}(h:H a=some o)(h':H b=none):a≠b:=by intro e;subst e;rw[h]at h';cases h'
section
variable (P:Program) (w:World)
def ObjOk(H:Hp)(h:Heap)(a:Addr):HO->Prop
 |.lst xs=>xs.length<=sizeLine/\∃(its:List Value) (n:Nat),Vals xs its/\h.get? a=some { cls:=.type "list",data:=.seq its.toArray n }
 |.tup xs=>xs.length<=sizeLine/\∃its:List Value,Vals xs its/\IsTup h a its.toArray
 |.dK kvs=>kvs.length<=sizeLine/\(a==sysModules)=false/\∃vs,KV kvs vs/\h.DictOf (rz P w) a vs
 |.dT kvs=>kvs.length<=sizeLine/\(a==sysModules)=false/\∃xs:List (List Key×Addr×Value),
   Paired (λ(p:List Key×V) (q:List Key×Addr×Value)=>p.1=q.1/\H q.2.1=some (.tup (p.1.map kV))/\RelV p.2 q.2.2) kvs xs/\
   ∃o es ep,h.get? a=some o/\o.ExactDict/\o.data=.dict es ep/\es.toList=xs.map (entryOfKey (tupleKind (rz P w)))/\(xs.map (·.1)).Nodup
 |.set S n=>h.SetOf (intKind P w) a S n
 |.ins C dx fs=>H dx=some (.own a)/\fs.length<=1000/\dx≠a/\h.get? a=some (PySem.W.instObj C dx)/\
   ∃mA,h.Ns1 dx mA/\(∀f,RelO (fs.lookup f) (mA f))/\PySem.Within mA (fs.map (·.1))
 |.own _=>∃o,h.get? a=some o
 |.xd fs=>∃mA,h.Ns1 a mA/\∀f,RelO (fs.lookup f) (mA f)
 |.rng lo hi=>∃t u v,h.get? a=some { cls:=.type "range",data:=.fields #[.int lo t,.int hi u,.int 1 v] }
 |.frz o u=>h.get? a=some o/\ObjOk H h a u
 |.tbl ps=>h.get? a=some { cls:=.none,data:=.fields ps }
 |.met f x=>h.get? a=some (PySem.W.methodObj (.ref f) (.ref x))
 |.ext φ=>φ h/\(∃o,h.get? a=some o)/\∀h1 h2:Heap,φ h1->(∀o,h1.get? a=some o->h2.get? a=some o)->φ h2
def HOk(H:Hp)(h:Heap):Prop:=∀a o,H a=some o->ObjOk P w H h a o
end
section
variable {P:Program} {w:World} {H H':Hp} {h h':Heap} {a:Addr} {o:HO}
theorem ObjOk.lt(x:ObjOk P w H h a o):a < h.objs.size:=by
 cases o with
 |lst xs=>obtain ⟨_,_,_,_,e⟩:=x;exact ax e
 |tup xs=>obtain ⟨_,_,_,p⟩:=x;exact p.lt
 |dK kvs=>obtain ⟨_,_,_,_,o,_,_,e,_⟩:=x;exact ax e
 |dT kvs=>obtain ⟨_,_,_,_,o,_,_,e,_⟩:=x;exact ax e
 |set S n=>obtain ⟨o,_,_,_,e,_⟩:=x;exact ax e
 |ins C dx fs=>obtain ⟨_,_,_,e,_⟩:=x;exact ax e
 |own y=>obtain ⟨_,e⟩:=x;exact ax e
 |xd fs=>obtain ⟨_,⟨_,_,_,e,_⟩,_⟩:=x;exact ax e
 |rng lo hi=>obtain ⟨_,_,_,e⟩:=x;exact ax e
 |frz ob u=>obtain ⟨e,_⟩:=x;exact ax e
 |tbl ps=>exact ax (show h.get? a=some _ from x)
 |met f y=>exact ax (show h.get? a=some _ from x)
 |ext φ=>obtain ⟨_,⟨_,e⟩,_⟩:=x;exact ax e
theorem Paired.mapP{α β:Type}{F G:α->β->Prop}:∀{l₁:List α}{l₂:List β},Paired F l₁ l₂->(∀a b,F a b->G a b)->Paired G l₁ l₂
 |_,_,.nil,_=>.nil
 |_,_,.cons r t,f=>.cons (f _ _ r) (Paired.mapP t f)
theorem ObjOk.stay(x:ObjOk P w H h a o)(k:∀b u,(b=a\/H b=some (.own a))->h.get? b=some u->h'.get? b=some u)
  (ho:∀b,H b=some (.own a)->H' b=some (.own a)) (ht:∀b xs,H b=some (.tup xs)->H' b=some (.tup xs)):ObjOk P w H' h' a o:=by
 induction o with
 |lst xs=>obtain ⟨z,its,n,r,e⟩:=x;exact ⟨z,its,n,r,k _ _ (.inl rfl) e⟩
 |tup xs=>obtain ⟨z,its,r,ob,e,c⟩:=x;exact ⟨z,its,r,ob,k _ _ (.inl rfl) e,c⟩
 |dK kvs=>obtain ⟨z,y,vs,r,ob,es,ep,e,c⟩:=x;exact ⟨z,y,vs,r,ob,es,ep,k _ _ (.inl rfl) e,c⟩
 |dT kvs=>
  obtain ⟨z,y,xs,r,ob,es,ep,e,c⟩:=x;exact ⟨z,y,xs,Paired.mapP r λp q z=>⟨z.1,ht _ _ z.2.1,z.2.2⟩,ob,es,ep,k _ _ (.inl rfl) e,c⟩
 |set S n=>obtain ⟨ob,es,ep,t,e,c⟩:=x;exact ⟨ob,es,ep,t,k _ _ (.inl rfl) e,c⟩
 |ins C dx fs=>
  obtain ⟨d,z,ne,e,mA,⟨od,es,ep,e2,c⟩,r⟩:=x;exact ⟨ho _ d,z,ne,k _ _ (.inl rfl) e,mA,⟨od,es,ep,k _ _ (.inr d) e2,c⟩,r⟩
 |own y=>obtain ⟨ob,e⟩:=x;exact ⟨ob,k _ _ (.inl rfl) e⟩
 |xd fs=>obtain ⟨mA,⟨od,es,ep,e,c⟩,r⟩:=x;exact ⟨mA,⟨od,es,ep,k _ _ (.inl rfl) e,c⟩,r⟩
 |rng lo hi=>obtain ⟨t,u,v,e⟩:=x;exact ⟨t,u,v,k _ _ (.inl rfl) e⟩
 |frz ob u ih=>obtain ⟨e,q⟩:=x;exact ⟨k _ _ (.inl rfl) e,ih q⟩
 |tbl ps=>
  have e:h.get? a=some { cls:=.none,data:=.fields ps }:=x;show h'.get? a=some { cls:=.none,data:=.fields ps };exact k a _ (.inl rfl) e
 |met f y=>
  have e:h.get? a=some (PySem.W.methodObj (.ref f) (.ref y)):=x;show h'.get? a=some (PySem.W.methodObj (.ref f) (.ref y));exact k a _ (.inl rfl) e
 |ext φ=>obtain ⟨p,⟨o,e⟩,st⟩:=x;exact ⟨st _ _ p λo q=>k _ _ (.inl rfl) q,⟨o,k _ _ (.inl rfl) e⟩,st⟩
theorem HOk.lt(x:HOk P w H h)(e:H a=some o):a < h.objs.size:=(x a o e).lt
theorem HOk.fresh(x:HOk P w H h)(e:h.objs.size<=a):H a=none:=by
 cases q:H a with
 |none=>rfl
 |some u=>exact absurd (aT (x.lt q) e) (d6 _)
theorem HOk.kept(x:HOk P w H h)(k:∀b u,h.get? b=some u->h'.get? b=some u):HOk P w H h':=λa o e=>
 (x a o e).stay (λb u _ q=>k b u q) (λ_ q=>q) λ_ _ q=>q
theorem HOk.laid(x:HOk P w H h)(k:∀b u,h.get? b=some u->h'.get? b=some u)(hp:h.objs.size<=a)(new:ObjOk P w (upd H a o) h' a o):HOk P w (upd H a o) h':=λb u e=>by
 have hn:=x.fresh hp;by_cases hb:b=a
 ·subst hb;rw[bM]at e;cases e;exact new
 ·rw[aB hb]at e;exact (x b u e).stay (λc v _ q=>k c v q) (λc q=>by rw[aB (aR q hn)];exact q) λc xs q=>by rw[aB (aR q hn)];exact q
end
def Rd(H:Hp)(a:Addr)(u:HO):Prop:=H a=some u\/∃o,H a=some (.frz o u)
theorem Rd.ok{P:Program}{w:World}{H:Hp}{h:Heap}{a:Addr}{u:HO}(r:Rd H a u)(x:HOk P w H h):ObjOk P w H h a u:=by
 rcases r with r |⟨o,r⟩
 ·exact x a u r
 ·obtain ⟨_,q⟩:=x a _ r;exact q
def Mut:Option HO->Prop
 |some (.lst _)=>True
 |some (.dK _)=>True
 |some (.dT _)=>True
 |some (.set _ _)=>True
 |some (.ins _ _ _)=>True
 |some (.ext _)=>True
 |_=>False
section
variable {P:Program} {w:World} {H:Hp} {h h':Heap} {x e:Addr} {o':HO}
theorem HOk.write(ok:HOk P w H h)(mu:Mut (H x))(he:e=x\/H e=some (.own x))(k:∀b u,b≠e->h.get? b=some u->h'.get? b=some u)(heo:∃u,h'.get? e=some u)
  (new:ObjOk P w (upd H x o') h' x o'):HOk P w (upd H x o') h':=λb u q=>by
 have nown:∀c y,H c=some (.own y)->c≠x:=λc y r z=>by subst z;rw[r]at mu;exact mu
 have ntup:∀c xs,H c=some (.tup xs)->c≠x:=λc xs r z=>by subst z;rw[r]at mu;exact mu
 by_cases hb:b=x
 ·subst hb;rw[bM]at q;cases q;exact new
 ·rw[aB hb]at q;by_cases hbe:b=e
  ·have q':H b=some (.own x):=by
    rcases he with z |z
    ·exact absurd (hbe.trans z) hb
    ·rw[hbe];exact z
   rw[q]at q';cases q';obtain ⟨v,hv⟩:=heo;exact ⟨v,by rw[hbe];exact hv⟩
  ·refine (ok b u q).stay (λc v hc r=>k c v ?_ r) (λc r=>by rw[aB (nown c b r)];exact r) λc xs r=>by rw[aB (ntup c xs r)];exact r
   rcases hc with rfl |hc
   ·exact hbe
   ·rintro rfl;rcases he with z |z
    ·exact nown c b hc z
    ·rw[hc]at z;cases z;exact hb rfl
end
structure Un(fs ex:List Addr)(H H':Hp)(h h':Heap):Prop where
 keep:∀b o,h.get? b=some o->H b=none->b∉fs->b∉ex->h'.get? b=some o
 slot:∀b o,h.get? b=some o->H b=none->b∈fs->b∉ex->∃sl,h'.get? b=some { o with slots:=sl }
 free:∀b o,h.get? b=some o->H b=none->b∉ex->H' b=none
 there:∀b o,h.get? b=some o->b∉ex->∃o',h'.get? b=some o'
 tups:∀b xs,H b=some (.tup xs)->H' b=some (.tup xs)
 frzs:∀b o u,H b=some (.frz o u)->H' b=some (.frz o u)
 tbls:∀b ps,H b=some (.tbl ps)->∃more,H' b=some (.tbl (ps++more))
section
variable {fs fs' ex ex':List Addr} {H H1 H2:Hp} {h h1 h2 h':Heap} {a x e:Addr} {o:HO}
theorem Un.any(u:Un fs ex H H1 h h1){b:Addr}{ob:Obj}(q:h.get? b=some ob)(n:H b=none)(hx:b∉ex):∃sl,h1.get? b=some { ob with slots:=sl }:=by
 by_cases hb:b∈fs
 ·exact u.slot b ob q n hb hx
 ·exact ⟨ob.slots,u.keep b ob q n hb hx⟩
theorem Un.kept(k:∀b u,h.get? b=some u->h'.get? b=some u):Un fs ex H H h h':=
 ⟨λb ob q _ _ _=>k b ob q,λb ob q _ _ _=>⟨ob.slots,k b ob q⟩,λ_ _ _ n _=>n,λb ob q _=>⟨ob,k b ob q⟩,λ_ _ q=>q,λ_ _ _ q=>q,λ_ ps q=>⟨#[],by rw[q];simp⟩⟩
theorem Un.refl:Un fs ex H H h h:=Un.kept λ_ _ q=>q
theorem Un.laid(k:∀b u,h.get? b=some u->h'.get? b=some u)(hp:h.objs.size<=a)(hn:H a=none):Un fs ex H (upd H a o) h h' where
 keep:=λb u q _ _ _=>k b u q
 slot:=λb u q _ _ _=>⟨u.slots,k b u q⟩
 free:=λb u q n _=>by rw[aB (cf (aT (ax q) hp))];exact n
 there:=λb u q _=>⟨u,k b u q⟩
 tups:=λb xs q=>by rw[aB (aR q hn)];exact q
 frzs:=λb u xs q=>by rw[aB (aR q hn)];exact q
 tbls:=λb ps q=>⟨#[],by rw[aB (aR q hn),q];simp⟩
theorem Un.write(mu:Mut (H x))(he:e=x\/H e=some (.own x))(k:∀b u,b≠e->h.get? b=some u->h'.get? b=some u)(heo:∃u,h'.get? e=some u):Un fs ex H (upd H x o) h h':=by
 have hx:∀b,H b=none->b≠x:=λb n z=>by subst z;rw[n]at mu;exact mu
 have hb:∀b,H b=none->b≠e:=λb n z=>by
  subst z;rcases he with r |r
  ·exact hx b n r
  ·rw[n]at r;cases r
 have hm:∀b u,H b=some u->¬Mut (some u)->b≠x:=λb u q nm z=>by subst z;rw[q]at mu;exact nm mu
 refine ⟨λb u q n _ _=>k b u (hb b n) q,λb u q n _ _=>⟨u.slots,k b u (hb b n) q⟩,λb u q n _=>by rw[aB (hx b n)];exact n,λb u q _=>?_,
  λb xs q=>by rw[aB (hm b _ q λz=>z)];exact q,λb u xs q=>by rw[aB (hm b _ q λz=>z)];exact q,λb ps q=>⟨#[],by rw[aB (hm b _ q λz=>z),q];simp⟩⟩
 by_cases hbe:b=e
 ·subst hbe;exact heo
 ·exact ⟨u,k b u hbe q⟩
end
def trk(h:Heap)(H:Hp):List Addr:=(List.range h.objs.size).filter λa=>(H a).isSome
def fu(h:Heap)(H:Hp):Heap:=PySem.W.hideAll h (trk h H)
theorem JB(h:Heap)(H:Hp):(fu h H).objs.size=h.objs.size:=PySem.W.hideAll_size _ _
theorem JC{h:Heap}{H:Hp}{b:Addr}{o:Obj}(e:h.get? b=some o)(n:H b=none):(fu h H).get? b=some o:=
 PySem.W.hideAll_get _ e λhm=>by
  have q:(H b).isSome=true:=(List.mem_filter.mp hm).2;rw[n]at q;simp at q
theorem JD{h:Heap}{H:Hp}{b:Addr}{o:Obj}(e:(fu h H).get? b=some o):h.get? b=some o/\H b=none:=by
 have e':h.get? b=some o:=PySem.W.of_hideAll (trk h H) e;refine ⟨e',?_⟩;cases q:H b with
 |none=>rfl
 |some x=>
  have hm:b∈trk h H:=List.mem_filter.mpr ⟨List.mem_range.mpr (ax e'),by simp[q]⟩;have z:(fu h H).get? b=none:=PySem.W.hideAll_none (trk h H) hm;rw[z]at e;cases e
def JF(g h:Heap)(L:Addr):List (Addr×Obj):=(List.range h.objs.size).filterMap λa=>if a=L\/(g.get? a).isSome=true then none else (h.get? a).map λo=>(a,o)
def rest(g h:Heap)(L d:Addr):List (Addr×Obj):=(JF g h L).filter λp=>decide (p.1≠d)
structure Mod(K:PF)(mg:Str->Option Value)(base:Heap):Prop where
 kin:K.In base
 glob:base.Ns mainGlobals mg
 blt:∃mb,base.Ns builtinsNs mb/\∀x:Str,x≠"__name__"->mb x=bootBuiltins x
 nolimit:base.NoLimit
structure Cx where
 prog:Program
 w:World
 K:PF
 mg:Str->Option Value
 base:Heap
 A:Around
 N:List Str
 s₀:Shared
 H₀:Hp
 env:Env
 outer:List Env
 stack:List Env
 ex:List Addr
 fn:Str->Bool
 calm:Bool
 pn:List (Addr×Obj)
 xe:Value->Shared->Prop
def frs(l:List Env):List Addr:=l.filterMap (·.frame)
abbrev Cx.fs(X:Cx):List Addr:=frs X.outer
def Vis(sc:Scope)(x:Str):Prop:=sc.names.lookup x=some .local\/sc.names.lookup x=some .cell\/sc.names.lookup x=some .free
def Loc(sc:Scope)(x:Str):Prop:=sc.names.lookup x=some .local\/sc.names.lookup x=some .cell
def Look(env:Env)(h:Heap)(m:Str->Option Value)(x:Str)(u:Value):Prop:=
 (env.kindOf x=some .local/\m x=some u)\/((env.kindOf x=some .cell\/env.kindOf x=some .free)/\∃c,env.cells.lookup x=some c/\h.IsCell c (some u))
structure Cx.Ok(X:Cx):Prop where
 mod:Mod X.K X.mg X.base
 kind:X.env.scope.kind=.function
 glob:X.env.globals=mainGlobals
 blt:X.env.builtins=builtinsNs
 above:X.s₀.heap.objs.size<=X.env.locals
 inj:∀x y c,X.env.cells.lookup x=some c->X.env.cells.lookup y=some c->x=y
 has:∀x,(X.env.kindOf x=some .cell\/X.env.kindOf x=some .free)->∃c,X.env.cells.lookup x=some c
 cab:∀x c,X.fn x=true->X.env.cells.lookup x=some c->X.s₀.heap.objs.size<=c
 hd:X.calm=true->X.A.handled=none
 frames:X.A.frames=some X.stack
 stk:X.stack=X.outer\/(X.stack=X.env::X.outer/\X.env.frame=some X.env.locals)
 exf:∀b∈X.ex,b≠X.env.locals/\∀x c,X.env.cells.lookup x=some c->c≠b
 bs:∀b o,X.base.get? b=some o->X.s₀.heap.get? b=some o/\X.H₀ b=none
 bsz:X.base.objs.size<=X.s₀.heap.objs.size
 noex:∀b o,X.base.get? b=some o->b∉X.ex
 exfs:∀b∈X.ex,b∉X.fs
 funs:X.s₀.heap.FunFrames X.base X.outer
 frf:∀b∈X.fs,X.H₀ b=none
structure Inv(X:Cx)(pins:List (Addr×Obj))(Y:List (Option V))(H:Hp)(s:Shared):Prop where
 ok:X.Ok
 os:s.os=X.s₀.os
 bare:AllBare s.gens
 base:Un X.fs X.ex X.H₀ H X.s₀.heap s.heap
 loc:∃m,s.heap.Ns X.env.locals m/\∀(i:Nat)(x:Str)(v:V),X.N[i]?=some x->Y[i]?=some (some v)->Vis X.env.scope x->∃u,RelV v u/\Look X.env s.heap m x u
 cell:∀x c,X.env.cells.lookup x=some c->∃v,s.heap.IsCell c v
 free:H X.env.locals=none
 freeC:∀x c,X.env.cells.lookup x=some c->H c=none
 pin:∀p∈X.pn++pins,s.heap.get? p.1=some p.2/\H p.1=none/\p.1≠X.env.locals/\p.1∉X.fs/\∀v,p.2.data≠.cell v
 hok:HOk X.prog X.w H s.heap
 len:Y.length=X.N.length
section
variable {X:Cx} {pins:List (Addr×Obj)} {σ:List (Option V)} {H H':Hp} {s:Shared} {h':Heap}
theorem Cx.Ok.nofr(ok:X.Ok){b:Addr}{o:Obj}(e:X.base.get? b=some o):b∉X.fs:=λhb=>by
 have:=(ok.funs.mem hb).1;rw[e]at this;cases this
theorem Inv.bs(I:Inv X pins σ H s):∀b o,X.base.get? b=some o->s.heap.get? b=some o/\H b=none:=λb o e=>
 ⟨I.base.keep b o (I.ok.bs b o e).1 (I.ok.bs b o e).2 (I.ok.nofr e) (I.ok.noex b o e),I.base.free b o (I.ok.bs b o e).1 (I.ok.bs b o e).2 (I.ok.noex b o e)⟩
theorem Inv.bk(I:Inv X pins σ H s):∀b o,X.base.get? b=some o->s.heap.get? b=some o:=λb o e=>(I.bs b o e).1
theorem Inv.mod(I:Inv X pins σ H s):Mod X.K X.mg X.base:=I.ok.mod
theorem Inv.kIn(I:Inv X pins σ H s):X.K.In s.heap:=I.ok.mod.kin.keeps I.bk
theorem Inv.lt(I:Inv X pins σ H s):X.env.locals < (~~~s):=let ⟨_,hn,_⟩:=I.loc;hn.lt
theorem Inv.sz(I:Inv X pins σ H s):X.s₀.heap.objs.size<=(~~~s):=bi I.ok.above (Nat.le_of_lt I.lt)
theorem Inv.nofs(I:Inv X pins σ H s){a:Addr}(h:(~~~s)<=a):a∉X.fs:=λhb=>by
 obtain ⟨_,o,ho,_⟩:=I.ok.funs.mem hb;exact absurd (aT (ax ho) (bi I.sz h)) (d6 _)
theorem Inv.cne(I:Inv X pins σ H s):∀x c,X.env.cells.lookup x=some c->c≠X.env.locals:=λx c e z=>by
 obtain ⟨v,o,ho,hd⟩:=I.cell x c e;obtain ⟨m,⟨o',es,ep,ho',hd',_⟩,_⟩:=I.loc;rw[z,ho']at ho;cases ho;rw[hd']at hd;cases hd
theorem Inv.funs(I:Inv X pins σ H s):s.heap.FunFrames X.base X.outer:=by
 have all:∀(l:List Env),(∀b∈frs l,b∈X.fs)->X.s₀.heap.FunFrames X.base l->s.heap.FunFrames X.base l:=by
  intro l;induction l with
  |nil=>intro _ _;trivial
  |cons env r ih=>
   intro hs hl;obtain ⟨hk,⟨L,o,hf,hn,ho,hd⟩,hr⟩:=hl;have hL:L∈X.fs:=hs L (by unfold frs;rw[dP,hf];exact bS);obtain ⟨sl,e⟩:=I.base.slot L o ho (I.ok.frf L hL) hL λz=>I.ok.exfs L z hL;exact ⟨hk,⟨L,_,hf,hn,e,hd⟩,ih (λb hb=>hs b (by unfold frs;rw[dP,hf];exact a9 _ hb)) hr⟩
 exact all X.outer (λ_ hb=>hb) I.ok.funs
theorem Inv.stack(I:Inv X pins σ H s):s.heap.FunFrames X.base X.stack:=by
 rcases I.ok.stk with e |⟨e,hf⟩
 ·rw[e];exact I.funs
 ·rw[e];obtain ⟨m,hn,_⟩:=I.loc;refine .cons (by rw[I.ok.kind];decide) hf hn ?_ I.funs;exact Heap.get?_none_of_le (bi I.ok.bsz I.ok.above)
theorem Inv.stkSub(I:Inv X pins σ H s):∀b∈frs X.stack,b∈X.env.locals::X.fs:=λb hb=>by
 rcases I.ok.stk with e |⟨e,hf⟩
 ·rw[e]at hb;exact a9 _ hb
 ·rw[e]at hb;unfold frs at hb;rw[dP,hf]at hb;exact hb
theorem Inv.stkFree(I:Inv X pins σ H s):∀b∈frs X.stack,H b=none:=λb hb=>by
 rcases ay.mp (I.stkSub b hb) with e |hb
 ·rw[e];exact I.free
 ·obtain ⟨_,o,ho,_⟩:=I.ok.funs.mem hb;exact I.base.free b o ho (I.ok.frf b hb) λz=>I.ok.exfs b z hb
theorem Inv.step{g':Array GenState}{t':Nat}{d':Drawn}{ch:List Addr}(I:Inv X pins σ H s)
  (hch:∀b∈ch,(b∈X.ex\/X.s₀.heap.objs.size<=b)/\b≠X.env.locals/\(∀x c,X.env.cells.lookup x=some c->c≠b)/\∀p∈X.pn++pins,p.1≠b)
  (keep:∀b o,b≠X.env.locals->b∉X.fs->b∉ch->s.heap.get? b=some o->H b=none->h'.get? b=some o)
  (slot:∀b o,b≠X.env.locals->b∈X.fs->b∉ch->s.heap.get? b=some o->H b=none->∃sl,h'.get? b=some { o with slots:=sl }) (free:∀b o,b∉ch->s.heap.get? b=some o->H b=none->H' b=none)
  (there:∀b o,b∉ch->s.heap.get? b=some o->∃o',h'.get? b=some o')
  (tups:∀b xs,H b=some (.tup xs)->H' b=some (.tup xs)) (frzs:∀b o u,H b=some (.frz o u)->H' b=some (.frz o u)) (tbls:∀b ps,H b=some (.tbl ps)->∃more,H' b=some (.tbl (ps++more)))
  (ns:∀m,s.heap.Ns X.env.locals m->h'.Ns X.env.locals m) (hok:HOk X.prog X.w H' h') (hg:AllBare g'):
  Inv X pins σ H' { s with heap:=h',gens:=g',drawn:=d',toks:=t' }:=by
 have neL:∀b o,X.s₀.heap.get? b=some o->b≠X.env.locals:=λb o e=>cf (aT (ax e) I.ok.above);have neC:∀b o,X.s₀.heap.get? b=some o->b∉X.ex->b∉ch:=λb o e hx hb=>by
  rcases (hch b hb).1 with z |z
  ·exact hx z
  ·exact absurd (aT (ax e) z) (d6 _)
 have cellK:∀x c,X.env.cells.lookup x=some c->∀v,s.heap.IsCell c v->h'.IsCell c v:=λx c e v ⟨o,ho,hd⟩=>by
  have nch:c∉ch:=λz=>(hch c z).2.2.1 x c e rfl;by_cases hc:c∈X.fs
  ·obtain ⟨sl,q⟩:=slot c o (I.cne x c e) hc nch ho (I.freeC x c e);exact ⟨_,q,hd⟩
  ·exact ⟨o,keep c o (I.cne x c e) hc nch ho (I.freeC x c e),hd⟩
 refine ⟨I.ok,I.os,hg,⟨λb o e n hb hx=>?_,λb o e n hb hx=>?_,λb o e n hx=>?_,λb o e hx=>?_,λb xs e=>tups b xs (I.base.tups b xs e),λb o xs e=>frzs b o xs (I.base.frzs b o xs e),λb ps e=>?_⟩,?_,λx c e=>?_,?_,λx c e=>?_,λp hp=>?_,hok,I.len⟩
 ·exact keep b o (neL b o e) hb (neC b o e hx) (I.base.keep b o e n hb hx) (I.base.free b o e n hx)
 ·obtain ⟨sl,e1⟩:=I.base.slot b o e n hb hx;obtain ⟨sl',e2⟩:=slot b _ (neL b o e) hb (neC b o e hx) e1 (I.base.free b o e n hx);exact ⟨sl',e2⟩
 ·obtain ⟨o',e1⟩:=I.base.there b o e hx;exact free b o' (neC b o e hx) e1 (I.base.free b o e n hx)
 ·obtain ⟨o',e1⟩:=I.base.there b o e hx;exact there b o' (neC b o e hx) e1
 ·obtain ⟨m1,e1⟩:=I.base.tbls b ps e;obtain ⟨m2,e2⟩:=tbls b _ e1;exact ⟨m1++m2,by rw[e2,Array.append_assoc]⟩
 ·obtain ⟨m,hn,hl⟩:=I.loc;refine ⟨m,ns m hn,λi x v e1 e2 e3=>?_⟩;obtain ⟨u,r,l⟩:=hl i x v e1 e2 e3;refine ⟨u,r,?_⟩;rcases l with l |⟨k,c,e,z⟩
  ·exact .inl l
  ·exact .inr ⟨k,c,e,cellK x c e _ z⟩
 ·obtain ⟨v,z⟩:=I.cell x c e;exact ⟨v,cellK x c e v z⟩
 ·obtain ⟨m,⟨o,_,_,ho,_⟩,_⟩:=I.loc;exact free _ o (λz=>(hch _ z).2.1 rfl) ho I.free
 ·obtain ⟨v,o,ho,hd⟩:=I.cell x c e;exact free c o (λz=>(hch c z).2.2.1 x c e rfl) ho (I.freeC x c e)
 ·obtain ⟨e,n,ne,nf,d⟩:=I.pin p hp;have nch:p.1∉ch:=λz=>(hch p.1 z).2.2.2 p hp rfl;exact ⟨keep p.1 p.2 ne nf nch e n,free p.1 p.2 nch e n,ne,nf,d⟩
theorem Inv.un{t':Nat}(I:Inv X pins σ H s)(u:Un X.fs [] H H' s.heap h')(hok:HOk X.prog X.w H' h'):Inv X pins σ H' { s with heap:=h',toks:=t' }:=by
 obtain ⟨m,⟨o,es,ep,ho,r⟩,_⟩:=id I.loc;obtain ⟨sl,hL⟩:=u.any ho I.free (by simp);exact I.step (g':=s.gens) (d':=s.drawn) (ch:=[]) (λ_ z=>nomatch z) (λb o _ hb _ e n=>u.keep b o e n hb (by simp)) (λb o _ hb _ e n=>u.slot b o e n hb (by simp)) (λb o _ e n=>u.free b o e n (by simp)) (λb o _ e=>u.there b o e (by simp)) u.tups u.frzs u.tbls (λm' hm=>by
  obtain ⟨o',es',ep',ho',r'⟩:=hm;rw[ho]at ho';cases ho';exact ⟨_,es',ep',hL,r'⟩) hok I.bare
theorem Inv.call{g':Array GenState}{t':Nat}{d':Drawn}{ch:List Addr}(I:Inv X pins σ H s)(u:Un (frs X.stack) ch H H' s.heap h')(hok:HOk X.prog X.w H' h')(hg:AllBare g')
  (hch:∀b∈ch,(b∈X.ex\/X.s₀.heap.objs.size<=b)/\b≠X.env.locals/\(∀x c,X.env.cells.lookup x=some c->c≠b)/\∀p∈X.pn++pins,p.1≠b):
  Inv X pins σ H' { s with heap:=h',gens:=g',drawn:=d',toks:=t' }:=by
 obtain ⟨m,⟨o,es,ep,ho,r⟩,_⟩:=id I.loc;obtain ⟨sl,hL⟩:=u.any ho I.free λz=>(hch _ z).2.1 rfl;exact I.step (ch:=ch) hch (λb o hL hb hc e n=>u.keep b o e n (λz=>(ay.mp (I.stkSub b z)).elim hL hb) hc) (λb o _ _ hc e n=>u.any e n hc) (λb o hc e n=>u.free b o e n hc) (λb o hc e=>u.there b o e hc) u.tups u.frzs u.tbls (λm' hm=>by
  obtain ⟨o',es',ep',ho',r'⟩:=hm;rw[ho]at ho';cases ho';exact ⟨_,es',ep',hL,r'⟩) hok hg
theorem Inv.turned{t':Nat}{it:Addr}(I:Inv X pins σ H s)(k:∀b o,b≠it->s.heap.get? b=some o->h'.get? b=some o)(hn:H it=none)(hL:it≠X.env.locals)
  (h1:it∈X.ex\/X.s₀.heap.objs.size<=it) (h2:∀x c,X.env.cells.lookup x=some c->c≠it) (h3:∀p∈X.pn++pins,p.1≠it):Inv X pins σ H { s with heap:=h',toks:=t' }:=by
 have nit:∀b u,H b=some u->b≠it:=λb u e z=>by rw[z,hn]at e;cases e
 refine I.step (g':=s.gens) (d':=s.drawn) (ch:=[it]) (λb hb=>?_) (λb o _ _ hc e _=>k b o (λz=>hc (by simp[z])) e) (λb o _ _ hc e _=>⟨o.slots,k b o (λz=>hc (by simp[z])) e⟩) (λ_ _ _ _ n=>n)
  (λb o hc e=>⟨o,k b o (λz=>hc (by simp[z])) e⟩) (λ_ _ e=>e) (λ_ _ _ e=>e) (λb ps e=>⟨#[],by rw[e];simp⟩) (λm hm=>?_) (λb u e=>?_) I.bare
 ·have e:b=it:=by simpa using hb
  subst e;exact ⟨h1,hL,h2,h3⟩
 ·obtain ⟨o,es,ep,ho,r⟩:=hm;exact ⟨o,es,ep,k _ o (Ne.symm hL) ho,r⟩
 ·refine (I.hok b u e).stay (λc v hc q=>k c v ?_ q) (λ_ q=>q) λ_ _ q=>q;rcases hc with z |z
  ·rw[z];exact nit b u e
  ·exact nit c _ z
theorem Inv.tok(I:Inv X pins σ H s)(t:Nat):Inv X pins σ H { s with toks:=t }:=I.un (h':=s.heap) (t':=t) Un.refl I.hok
theorem Inv.kept{t':Nat}(I:Inv X pins σ H s)(k:∀b u,s.heap.get? b=some u->h'.get? b=some u):Inv X pins σ H { s with heap:=h',toks:=t' }:=I.un (Un.kept k) (I.hok.kept k)
theorem Inv.laid{a:Addr}{o:HO}{t':Nat}(I:Inv X pins σ H s)(k:∀b u,s.heap.get? b=some u->h'.get? b=some u)(hp:(~~~s)<=a)(new:ObjOk X.prog X.w (upd H a o) h' a o):
  Inv X pins σ (upd H a o) { s with heap:=h',toks:=t' }:=I.un (Un.laid k hp (I.hok.fresh hp)) (I.hok.laid k hp new)
theorem Inv.write{x e:Addr}{o:HO}{t':Nat}(I:Inv X pins σ H s)(mu:Mut (H x))(he:e=x\/H e=some (.own x))(k:∀b u,b≠e->s.heap.get? b=some u->h'.get? b=some u)(heo:∃u,h'.get? e=some u)
  (new:ObjOk X.prog X.w (upd H x o) h' x o):Inv X pins σ (upd H x o) { s with heap:=h',toks:=t' }:=I.un (Un.write mu he k heo) (I.hok.write mu he k heo new)
theorem Inv.pins_of{pins':List (Addr×Obj)}(I:Inv X pins σ H s)(h:∀p∈pins',s.heap.get? p.1=some p.2/\H p.1=none/\p.1≠X.env.locals/\p.1∉X.fs/\∀v,p.2.data≠.cell v):Inv X pins' σ H s:=
 ⟨I.ok,I.os,I.bare,I.base,I.loc,I.cell,I.free,I.freeC,λp hp=>(bv.mp hp).elim (λz=>I.pin p (dE _ z)) (h p),I.hok,I.len⟩
theorem rA{N:List Str}(hN:N.Nodup){i j:Nat}{x:Str}(a:N[i]?=some x)(b:N[j]?=some x):i=j:=by obtain ⟨h1,e1⟩:=bd.mp a;obtain ⟨h2,e2⟩:=bd.mp b;exact (List.getElem_inj hN).mp (e1.trans e2.symm)
theorem JG{M:Model}{A:Around}{E:Value->Shared->Prop}{i:Nat}{x:Str}{v:V}{u:Value}{Q:Unit->Shared->Prop}(I:Inv X pins σ H s)(hN:X.N.Nodup)(hi:X.N[i]?=some x)(hx:Loc X.env.scope x)(r:RelV v u)
  (h:∀s',Inv X pins (σ.set i (some v)) H s'->(∃a,Heap.SameBut a s.heap s'.heap/\(a=X.env.locals\/X.env.cells.lookup x=some a))->Q () s') (hf:X.fn x=true\/X.env.scope.names.lookup x=some .local:=by first |exact .inl rfl |exact .inr rfl |assumption):wpAny M A (storeName X.env x u) Q E s:=by
 obtain ⟨m,hn,hl⟩:=id I.loc;have hcls:(X.env.scope.kind==.class||(X.env.scope.kind==.module&&X.env.locals != X.env.globals))=false:=by rw[I.ok.kind];rfl
 have hiσ:i < σ.length:=by rw[I.len];exact (bd.mp hi).1
 have cne:=I.cne;have tracked:∀{a:Addr}{h':Heap},(∃o,s.heap.get? a=some o/\H a=none)->Heap.SameBut a s.heap h'->HOk X.prog X.w H h':=λ{a h'} ha hs b ob e=>by
  obtain ⟨_,_,hfree⟩:=ha;refine (I.hok b ob e).stay (λc w' hc q=>(hs.2 c ?_).trans q) (λ_ q=>q) λ_ _ q=>q;rintro rfl;rcases hc with rfl |hc
  ·rw[hfree]at e;cases e
  ·rw[hfree]at hc;cases hc
 rcases hx with hk |hk
 ·refine wpAny_storeName_local hk hn (λh' hn' hs=>?_) hcls;obtain ⟨oL,_,_,hoL,_⟩:=id hn;refine h _ ⟨I.ok,I.os,I.bare,⟨λb o e n hb hx=>?_,λb o e n hb hx=>?_,I.base.free,λb o e hx=>?_,I.base.tups,I.base.frzs,I.base.tbls⟩,⟨_,hn',λj y v' e1 e2 e3=>?_⟩,λy c e=>?_,I.free,I.freeC,λp hp=>?_,tracked ⟨oL,hoL,I.free⟩ hs,by simpa using I.len⟩ ⟨_,hs,.inl rfl⟩
  ·exact (hs.2 b (cf (aT (ax e) I.ok.above))).trans (I.base.keep b o e n hb hx)
  ·obtain ⟨sl,e1⟩:=I.base.slot b o e n hb hx;exact ⟨sl,(hs.2 b (cf (aT (ax e) I.ok.above))).trans e1⟩
  ·obtain ⟨o',e1⟩:=I.base.there b o e hx;exact ⟨o',(hs.2 b (cf (aT (ax e) I.ok.above))).trans e1⟩
  ·by_cases hj:j=i
   ·subst hj;rw[hi]at e1;cases e1;rw[List.getElem?_set_self hiσ]at e2;cases e2;exact ⟨u,r,.inl ⟨hk,by simp⟩⟩
   ·rw[List.getElem?_set_ne (Ne.symm hj)]at e2;obtain ⟨u',r',q⟩:=hl j y v' e1 e2 e3;refine ⟨u',r',?_⟩;rcases q with ⟨k,e⟩ |⟨k,c,e,z⟩
    ·refine .inl ⟨k,?_⟩;have:y≠x:=λe=>hj (rA hN e1 (e ▸ hi));simp[this,e]
    ·exact .inr ⟨k,c,e,z.sameBut hs (cne y c e)⟩
  ·obtain ⟨w',z⟩:=I.cell y c e;exact ⟨w',z.sameBut hs (cne y c e)⟩
  ·obtain ⟨e,n,ne,nf,d⟩:=I.pin p hp;exact ⟨(hs.2 p.1 ne).trans e,n,ne,nf,d⟩
 ·have hfn:X.fn x=true:=by
   rcases hf with z |z
   ·exact z
   ·rw[z]at hk;cases hk
  obtain ⟨c,hc⟩:=I.ok.has x (.inl hk);obtain ⟨w',z⟩:=I.cell x c hc;refine wpAny_storeName_cell I.ok.kind hk hc z (λh' hc' hs=>?_);obtain ⟨oc,hoc,hocd⟩:=id z;refine h { s with heap:=h' } ⟨I.ok,I.os,I.bare,⟨λb o e n hb hx=>?_,λb o e n hb hx=>?_,I.base.free,λb o e hx=>?_,I.base.tups,I.base.frzs,I.base.tbls⟩,⟨m,hn.sameBut hs (Ne.symm (cne x c hc)),λj y v' e1 e2 e3=>?_⟩,λy c' e=>?_,I.free,I.freeC,λp hp=>?_,tracked ⟨oc,hoc,I.freeC x c hc⟩ hs,by simpa using I.len⟩ ⟨c,hs,.inr hc⟩
  ·exact (hs.2 b (cf (aT (ax e) (I.ok.cab x c hfn hc)))).trans (I.base.keep b o e n hb hx)
  ·obtain ⟨sl,e1⟩:=I.base.slot b o e n hb hx;exact ⟨sl,(hs.2 b (cf (aT (ax e) (I.ok.cab x c hfn hc)))).trans e1⟩
  ·obtain ⟨o',e1⟩:=I.base.there b o e hx;exact ⟨o',(hs.2 b (cf (aT (ax e) (I.ok.cab x c hfn hc)))).trans e1⟩
  ·by_cases hj:j=i
   ·subst hj;rw[hi]at e1;cases e1;rw[List.getElem?_set_self hiσ]at e2;cases e2;exact ⟨u,r,.inr ⟨.inl hk,c,hc,hc'⟩⟩
   ·rw[List.getElem?_set_ne (Ne.symm hj)]at e2;obtain ⟨u',r',q⟩:=hl j y v' e1 e2 e3;refine ⟨u',r',?_⟩;rcases q with q |⟨k,c',e,z'⟩
    ·exact .inl q
    ·refine .inr ⟨k,c',e,z'.sameBut hs ?_⟩;rintro rfl;exact hj (rA hN e1 (I.ok.inj _ _ _ e hc ▸ hi))
  ·by_cases hcc:c'=c
   ·subst hcc;exact ⟨_,hc'⟩
   ·obtain ⟨w2,z2⟩:=I.cell y c' e;exact ⟨w2,z2.sameBut hs hcc⟩
  ·obtain ⟨e,n,ne,nf,d⟩:=I.pin p hp;refine ⟨(hs.2 p.1 ?_).trans e,n,ne,nf,d⟩;intro q;rw[q,hoc]at e;have q':oc=p.2:=c9 e;exact d w' (by rw[<-q'];exact hocd)
theorem jJ{M:Model}{A:Around}{E:Value->Shared->Prop}{i:Nat}{x:Str}{v:V}{u:Value}{Q:Unit->Shared->Prop}(I:Inv X pins σ H s)(hN:X.N.Nodup)(hi:X.N[i]?=some x)(hx:Loc X.env.scope x)(r:RelV v u)
  (h:∀s',Inv X pins (σ.set i (some v)) H s'->Q () s') (hf:X.fn x=true\/X.env.scope.names.lookup x=some .local:=by first |exact .inl rfl |exact .inr rfl |assumption):wpAny M A (storeName X.env x u) Q E s:=
 JG I hN hi hx r (λs' I' _=>h s' I') hf
theorem Inv.call'{s':Shared}{ch:List Addr}(I:Inv X pins σ H s)(ho:s'.os=s.os)(u:Un (frs X.stack) ch H H' s.heap s'.heap)(hok:HOk X.prog X.w H' s'.heap)(hg:AllBare s'.gens)
  (hch:∀b∈ch,(b∈X.ex\/X.s₀.heap.objs.size<=b)/\b≠X.env.locals/\(∀x c,X.env.cells.lookup x=some c->c≠b)/\∀p∈X.pn++pins,p.1≠b):Inv X pins σ H' s':=by
 obtain ⟨h',g',d',t',o'⟩:=s';have e:o'=s.os:=ho;subst e;exact I.call (g':=g') (t':=t') (d':=d') u hok hg hch
end
abbrev XK:=Value->Option Addr->Hp->Prop
abbrev St:=List (Option V)
abbrev VK:=V->Hp->Prop
abbrev TE:=St->Hp->VK->Prop
abbrev TT:=St->Hp->(Bool->Hp->Prop)->Prop
abbrev TA:=St->Hp->(List V->Hp->Prop)->Prop
structure Ends where
 nx:St->Hp->Prop
 rt:VK
 bk:St->Hp->Prop:=λ_ _=>False
 ct:St->Hp->Prop:=λ_ _=>False
abbrev TS:=Ends->St->Hp->Prop
def EP(X:Cx)(pins:List (Addr×Obj))(Y:St)(Q:VK)(u:Value)(s':Shared):Prop:=∃v H',Inv X pins Y H' s'/\RelV v u/\Q v H'
def TP(X:Cx)(pins:List (Addr×Obj))(Y:St)(Q:Bool->Hp->Prop)(b:Bool)(s':Shared):Prop:=∃H',Inv X pins Y H' s'/\Q b H'
def AP(X:Cx)(pins:List (Addr×Obj))(Y:St)(Q:List V->Hp->Prop)(us:List Value)(s':Shared):Prop:=∃vs H',Inv X pins Y H' s'/\Vals vs us/\Q vs H'
def SP(X:Cx)(pins:List (Addr×Obj))(D:Ends)(f:Flow)(s':Shared):Prop:=
 match f with
 |.next=>∃σ' H',Inv X pins σ' H' s'/\D.nx σ' H'
 |.brk=>∃σ' H',Inv X pins σ' H' s'/\D.bk σ' H'
 |.cont=>∃σ' H',Inv X pins σ' H' s'/\D.ct σ' H'
 |.ret u=>∃v σ' H',Inv X pins σ' H' s'/\RelV v u/\D.rt v H'
def PE(X:Cx)(e:Expr)(t:TE):Prop:=
 ∀(pins:List (Addr×Obj))(s:Shared)(Y:St)(H:Hp)(Q:VK),Inv X pins Y H s->t Y H Q->↥X (eval e X.env) (EP X pins Y Q) X.xe s
def PT(X:Cx)(e:Expr)(t:TT):Prop:=
 ∀(pins:List (Addr×Obj))(s:Shared)(Y:St)(H:Hp)(Q:Bool->Hp->Prop),Inv X pins Y H s->t Y H Q->↥X (isTrue e X.env (eval e X.env)) (TP X pins Y Q) X.xe s
def PW(X:Cx)(e:Expr)(t:TT):Prop:=
 ∀(whole:Sem Value)(pins:List (Addr×Obj))(s:Shared)(Y:St)(H:Hp)(Q:Bool->Hp->Prop),Inv X pins Y H s->t Y H Q->↥X (isTrue e X.env whole) (TP X pins Y Q) X.xe s
theorem PW.pt{X:Cx}{e:Expr}{t:TT}(h:PW X e t):PT X e t:=h _
def PA(X:Cx)(es:List Expr)(t:TA):Prop:=
 ∀(pos:Pos)(pins:List (Addr×Obj))(s:Shared)(Y:St)(H:Hp)(Q:List V->Hp->Prop),Inv X pins Y H s->t Y H Q->↥X (spliced (backTo pos (starEach es X.env))) (AP X pins Y Q) X.xe s
def PS(X:Cx)(st:Stmt)(t:TS):Prop:=
 ∀(pins:List (Addr×Obj))(s:Shared)(Y:St)(H:Hp)(D:Ends),Inv X pins Y H s->t D Y H->↥X (exec st X.env) (SP X pins D) X.xe s
def PSs(X:Cx)(st:List Stmt)(t:TS):Prop:=
 ∀(pins:List (Addr×Obj))(s:Shared)(Y:St)(H:Hp)(D:Ends),Inv X pins Y H s->t D Y H->↥X (execs st X.env) (SP X pins D) X.xe s
theorem thn{α:Type}{t:Sem α}{Q Q':α->Shared->Prop}{M:Model}{A:Around}{E:Value->Shared->Prop}{s:Shared}(h:wpAny M A t Q E s)(hQ:∀a s,Q a s->Q' a s):wpAny M A t Q' E s:=bb h hQ λ_ _ x=>x
section
variable {X:Cx}
theorem bin{a b:Expr}{ta tb:TE}(ha:PE X a ta)(hb:PE X b tb){pins:List (Addr×Obj)}{s:Shared}{Y:St}{H:Hp}{R:V->V->Hp->Prop}(I:Inv X pins Y H s)(h:ta Y H λx H1=>tb Y H1 λy H2=>R x y H2)
  {α:Type} {Q:α->Shared->Prop} {f:Value->Value->Sem α}
  (hf:∀v u s2 x y H2,Inv X pins Y H2 s2->RelV x v->RelV y u->R x y H2->↥X (f v u) Q X.xe s2):
  ↥X (eval a X.env) (λv s₁=>↥X (eval b X.env) (λu s₂=>↥X (f v u) Q X.xe s₂) X.xe s₁) X.xe s:=by
 refine thn (ha pins s Y H _ I h) λv s1 ⟨x,H1,I1,r1,q1⟩=>?_;refine thn (hb pins s1 Y H1 _ I1 q1) λu s2 ⟨y,H2,I2,r2,q2⟩=>?_;exact hf v u s2 x y H2 I2 r1 r2 q2
def JH(i:Nat):TE:=λY H Q=>∃v,Y[i]?=some (some v)/\Q v H
def tC(v:V):TE:=λ_ H Q=>Q v H
theorem JK {i:Nat} {x:Str} {pos:Pos} (hN:X.N[i]?=some x) (hv:Vis X.env.scope x) (hd:(x==("__debug__":Str))=false:=by decide) (hcd:(x==("__classdict__":Str))=false:=by decide):PE X (.Name x pos) (JH i):=by
 intro pins s Y H Q I h;obtain ⟨v,e,h⟩:=h;obtain ⟨m,hn,hl⟩:=I.loc;obtain ⟨u,r,l⟩:=hl i x v hN e hv;have fin:EP X pins Y Q u s:=⟨v,H,I,r,h⟩;rcases l with ⟨hk,hm⟩ |⟨hk,c,hc,hcell⟩
 ·exact wpAny_Name (wpAny_loadName_local I.ok.kind hk hn hm fin) hd
 ·rcases hk with hk |hk
  ·exact wpAny_Name (wpAny_loadName_cell I.ok.kind hk hc hcell fin) hd
  ·exact wpAny_Name (wpAny_loadName_free I.ok.kind hk hc hcell fin hcd) hd
theorem JL{i j pos}:PE X (.Constant (.int i) j pos) (tC (.int i)):=λ_ _ _ H _ I h=>wpAny_Constant_int ⟨.int i,H,I.tok _,⟨_,rfl⟩,h⟩
theorem yc{b j pos}:PE X (.Constant (.bool b) j pos) (tC (.bl b)):=λ_ _ _ H _ I h=>Constant_bool ⟨.bl b,H,I,rfl,h⟩
theorem JM{j pos}:PE X (.Constant .none j pos) (tC .non):=λ_ _ _ H _ I h=>Constant_none ⟨.non,H,I,rfl,h⟩
theorem JN{x j pos}:PE X (.Constant (.str x) j pos) (tC (.str x)):=λ_ _ _ H _ I h=>Calls.Constant_str ⟨.str x,H,I.tok _,⟨_,rfl⟩,h⟩
def Gl(X:Cx)(x:Str):Prop:=X.env.kindOf x=some .globalImplicit
theorem gP{E:Value->Shared->Prop}{pins:List (Addr×Obj)}{s:Shared}{Y:St}{H:Hp}{x:Str}{u:Value}{pos:Pos}{Q:Value->Shared->Prop}(I:Inv X pins Y H s)(hg:Gl X x)(hm:X.mg x=some u)(h:Q u s)
  (hd:(x==("__debug__":Str))=false:=by decide):↥X (eval (.Name x pos) X.env) Q E s:=
 Calls.Name_function_global I.ok.kind hg (Calls.loadGlobal_global (by rw[I.ok.glob];exact I.mod.glob.keeps I.bk) hm h) hd
theorem fZ{E:Value->Shared->Prop}{pins:List (Addr×Obj)}{s:Shared}{Y:St}{H:Hp}{x:Str}{u:Value}{pos:Pos}{Q:Value->Shared->Prop}(I:Inv X pins Y H s)(hg:Gl X x)(hm:X.mg x=none)(hv:bootBuiltins x=some u)(h:Q u s)
  (hn:x≠"__name__":=by decide) (hd:(x==("__debug__":Str))=false:=by decide):↥X (eval (.Name x pos) X.env) Q E s:=by
 obtain ⟨mb,h1,h2⟩:=I.mod.blt;exact Calls.Name_function_global I.ok.kind hg (Calls.loadGlobal_builtin (by rw[I.ok.glob];exact I.mod.glob.keeps I.bk) hm (by rw[I.ok.blt];exact h1.keeps I.bk) ((h2 x hn).trans hv) h) hd
theorem yd {x:Str} {v:V} {u:Value} {pos:Pos} (hg:Gl X x) (hm:X.mg x=some u) (r:RelV v u) (hd:(x==("__debug__":Str))=false:=by decide):PE X (.Name x pos) (tC v):=
 λ_ _ _ H _ I h=>gP I hg hm ⟨v,H,I,r,h⟩ hd
theorem JP {x:Str} {v:V} {u:Value} {pos:Pos} (hg:Gl X x) (hm:X.mg x=none) (hv:bootBuiltins x=some u) (r:RelV v u) (hn:x≠"__name__":=by decide) (hd:(x==("__debug__":Str))=false:=by decide):PE X (.Name x pos) (tC v):=
 λ_ _ _ H _ I h=>fZ I hg hm hv ⟨v,H,I,r,h⟩ hn hd
variable {a b:Expr} {ta tb:TE} {pos:Pos}
variable {tA tB':TT} {rest:List Expr}
def JQ(t u:TT):TT:=λY H Q=>t Y H λc H1=>if c=true then u Y H1 Q else Q false H1
def tOr(t u:TT):TT:=λY H Q=>t Y H λc H1=>if c=true then Q true H1 else u Y H1 Q
def JR(t:TT):TT:=λY H Q=>t Y H λc H1=>Q (!c) H1
theorem JS(ha:PT X a tA):PW X (.BoolOp .And [a] pos) tA:=by
 intro wh pins s Y H Q I h;refine isTrue_and (thn (ha pins s Y H Q I h) λc s1 e=>?_);cases c with
 |true=>exact isTrue_and_nil e
 |false=>exact e
theorem JT(ha:PT X a tA):PW X (.BoolOp .Or [a] pos) tA:=by
 intro wh pins s Y H Q I h;refine isTrue_or (thn (ha pins s Y H Q I h) λc s1 e=>?_);cases c with
 |false=>exact isTrue_or_nil e
 |true=>exact e
theorem JV(ha:PT X a tA)(hb:PW X (.BoolOp .And (b::rest) pos) tB'):PW X (.BoolOp .And (a::b::rest) pos) (JQ tA tB'):=by
 intro wh pins s Y H Q I h;refine isTrue_and (thn (ha pins s Y H _ I h) λc s1 ⟨H1,I1,q1⟩=>?_);cases c with
 |true=>exact hb wh pins s1 Y H1 Q I1 q1
 |false=>exact ⟨H1,I1,q1⟩
theorem JW(ha:PT X a tA)(hb:PW X (.BoolOp .Or (b::rest) pos) tB'):PW X (.BoolOp .Or (a::b::rest) pos) (tOr tA tB'):=by
 intro wh pins s Y H Q I h;refine isTrue_or (thn (ha pins s Y H _ I h) λc s1 ⟨H1,I1,q1⟩=>?_);cases c with
 |true=>exact ⟨H1,I1,q1⟩
 |false=>exact hb wh pins s1 Y H1 Q I1 q1
theorem JX(ha:PT X a tA):PT X (.UnaryOp .Not a pos) (JR tA):=by intro pins s Y H Q I h;exact isTrue_not (ha pins s Y H (λc H1=>Q (!c) H1) I h)
def JZ(ta tb:TE):TE:=λY H Q=>ta Y H λx H1=>∃c,x=.bl c/\if c=true then tb Y H1 Q else Q (.bl false) H1
def J0(ta tb:TE):TE:=λY H Q=>ta Y H λx H1=>∃c,x=.bl c/\if c=true then Q (.bl true) H1 else tb Y H1 Q
theorem J1{op}{t:TE}(h:PE X a t):PE X (.BoolOp op [a] pos) t:=λpins s Y H Q I hw=>BoolOp_one (h pins s Y H Q I hw)
theorem J2(ha:PE X a ta)(hb:PE X (.BoolOp .And (b::rest) pos) tb):PE X (.BoolOp .And (a::b::rest) pos) (JZ ta tb):=by
 intro pins s Y H Q I h;refine BoolOp_and (thn (ha pins s Y H _ I h) λv s1 ⟨x,H1,I1,r1,q1⟩=>?_);obtain ⟨c,rfl,q1⟩:=q1;cases r1;refine d4 ?_;cases c with
 |true=>exact hb pins s1 Y H1 Q I1 q1
 |false=>exact ⟨.bl false,H1,I1,rfl,q1⟩
theorem J7(ha:PE X a ta)(hb:PE X (.BoolOp .Or (b::rest) pos) tb):PE X (.BoolOp .Or (a::b::rest) pos) (J0 ta tb):=by
 intro pins s Y H Q I h;refine BoolOp_or (thn (ha pins s Y H _ I h) λv s1 ⟨x,H1,I1,r1,q1⟩=>?_);obtain ⟨c,rfl,q1⟩:=q1;cases r1;refine d4 ?_;cases c with
 |false=>exact hb pins s1 Y H1 Q I1 q1
 |true=>exact ⟨.bl true,H1,I1,rfl,q1⟩
def tIf(t:TT)(ta tb:TE):TE:=λY H Q=>t Y H λc H1=>if c=true then ta Y H1 Q else tb Y H1 Q
theorem J8{c:Expr}(hc:PT X c tA)(ha:PE X a ta)(hb:PE X b tb):PE X (.IfExp c a b pos) (tIf tA ta tb):=by
 intro pins s Y H Q I h;refine wpAny_IfExp (thn (hc pins s Y H _ I h) λd s1 ⟨H1,I1,q1⟩=>?_);cases d with
 |true=>exact ha pins s1 Y H1 Q I1 q1
 |false=>exact hb pins s1 Y H1 Q I1 q1
end
def SqL(K:PF)(H:Hp)(a:Addr)(xs:List V):Prop:=
 Rd H a (.lst xs)\/
  ∃(o:Obj) (its:Array Value) (n:Nat),K.lookup a=some o/\o.cls=.type "list"/\o.dict=none/\o.data=.seq its n/\its.size<=sizeLine/\Vals xs its.toList
def SqT(K:PF)(H:Hp)(a:Addr)(xs:List V):Prop:=
 Rd H a (.tup xs)\/
  ∃(o:Obj) (its:Array Value) (n:Nat),K.lookup a=some o/\o.cls=.type "tuple"/\o.data=.seq its n/\its.size<=sizeLine/\Vals xs its.toList
def J9:Value->Option V
 |.none=>some .non
 |.bool b=>some (.bl b)
 |.int i _=>some (.int i)
 |.str x _=>some (.str x)
 |.bytes b _=>some (.byt b)
 |.float b _=>some (.flt b)
 |.ref a=>some (.ref a)
 |.type n=>some (.ty n)
 |_=>none
theorem RelV.abs{x:V}{u:Value}(r:RelV x u):J9 u=some x:=by
 cases x with
 |non=>cases r;rfl
 |bl _=>cases r;rfl
 |int _=>obtain ⟨t,rfl⟩:=r;rfl
 |str _=>obtain ⟨t,rfl⟩:=r;rfl
 |byt _=>obtain ⟨t,rfl⟩:=r;rfl
 |flt _=>obtain ⟨t,rfl⟩:=r;rfl
 |ref _=>cases r;rfl
 |ty _=>cases r;rfl
theorem RelV.inj{x y:V}{u:Value}(r:RelV x u)(q:RelV y u):x=y:=c9 (r.abs.symm.trans q.abs)
theorem Vals.inj:∀{xs ys:List V}{us:List Value},Vals xs us->Vals ys us->xs=ys
 |_,_,_,.nil,.nil=>rfl
 |_,_,_,.cons r t,.cons r' t'=>by rw[r.inj r',Vals.inj t t']
section
variable {X:Cx} {pins:List (Addr×Obj)} {σ:St} {H:Hp} {s:Shared} {a:Addr} {xs ys:List V}
theorem SqL.of{K:PF}(h:H a=some (.lst xs)):SqL K H a xs:=.inl (.inl h)
theorem SqT.of{K:PF}(h:H a=some (.tup xs)):SqT K H a xs:=.inl (.inl h)
theorem Inv.list(I:Inv X pins σ H s)(h:SqL X.K H a xs):∃its:List Value,Vals xs its/\PlainL s.heap a its.toArray/\xs.length<=sizeLine:=by
 rcases h with h |⟨o,its,n,hk,hc,hd,hs,hz,r⟩
 ·obtain ⟨z,its,n,r,e⟩:=h.ok I.hok;exact ⟨its,r,⟨_,n,e,rfl,rfl,rfl⟩,z⟩
 ·refine ⟨its.toList,r,⟨o,n,I.kIn a o hk,hc,hd,by simpa using hs⟩,?_⟩;have e:=r.length;simp only[fi]at e;omega
theorem Inv.tuple(I:Inv X pins σ H s)(h:SqT X.K H a xs):∃its:List Value,Vals xs its/\IsTup s.heap a its.toArray/\xs.length<=sizeLine:=by
 rcases h with h |⟨o,its,n,hk,hc,hs,hz,r⟩
 ·obtain ⟨z,its,r,p⟩:=h.ok I.hok;exact ⟨its,r,p,z⟩
 ·refine ⟨its.toList,r,⟨o,I.kIn a o hk,hc,n,by simpa using hs⟩,?_⟩;have e:=r.length;simp only[fi]at e;omega
theorem Inv.list_inj(I:Inv X pins σ H s)(h:SqL X.K H a xs)(h':SqL X.K H a ys):xs=ys:=by
 obtain ⟨its,r,⟨o,n,e,_,_,d⟩,_⟩:=I.list h;obtain ⟨its',r',⟨o',n',e',_,_,d'⟩,_⟩:=I.list h';rw[e]at e';cases e';rw[d]at d';injection d' with d1 _;have:its=its':=by simpa using ez Array.toList d1
 subst this;exact r.inj r'
theorem Inv.tuple_inj(I:Inv X pins σ H s)(h:SqT X.K H a xs)(h':SqT X.K H a ys):xs=ys:=by
 obtain ⟨its,r,⟨o,e,_,n,d⟩,_⟩:=I.tuple h;obtain ⟨its',r',⟨o',e',_,n',d'⟩,_⟩:=I.tuple h';rw[e]at e';cases e';rw[d]at d';injection d' with d1 _;have:its=its':=by simpa using ez Array.toList d1
 subst this;exact r.inj r'
end
abbrev Cx.wish(X:Cx)(E:Value->Shared->Prop):Cx:={ X with xe:=E }
abbrev Cx.nox(X:Cx):Cx:=X.wish λ_ _=>False
theorem Cx.Ok.wish{X:Cx}(ok:X.Ok)(E:Value->Shared->Prop):(X.wish E).Ok:=
 ⟨ok.mod,ok.kind,ok.glob,ok.blt,ok.above,ok.inj,ok.has,ok.cab,ok.hd,ok.frames,ok.stk,ok.exf,ok.bs,ok.bsz,ok.noex,ok.exfs,ok.funs,ok.frf⟩
theorem Cx.Ok.unwish{X:Cx}{E:Value->Shared->Prop}(ok:(X.wish E).Ok):X.Ok:=
 ⟨ok.mod,ok.kind,ok.glob,ok.blt,ok.above,ok.inj,ok.has,ok.cab,ok.hd,ok.frames,ok.stk,ok.exf,ok.bs,ok.bsz,ok.noex,ok.exfs,ok.funs,ok.frf⟩
section
variable {X:Cx} {pins:List (Addr×Obj)} {σ:St} {H:Hp} {s:Shared} {E:Value->Shared->Prop}
theorem Inv.wish(I:Inv X pins σ H s)(E:Value->Shared->Prop):Inv (X.wish E) pins σ H s:=⟨I.ok.wish E,I.os,I.bare,I.base,I.loc,I.cell,I.free,I.freeC,I.pin,I.hok,I.len⟩
theorem Inv.unwish(I:Inv (X.wish E) pins σ H s):Inv X pins σ H s:=⟨I.ok.unwish,I.os,I.bare,I.base,I.loc,I.cell,I.free,I.freeC,I.pin,I.hok,I.len⟩
theorem SP.unwish{D:Ends}{f:Flow}{s':Shared}(h:SP (X.wish E) pins D f s'):SP X pins D f s':=by
 cases f with
 |next=>obtain ⟨σ',H',I,q⟩:=h;exact ⟨σ',H',I.unwish,q⟩
 |brk=>obtain ⟨σ',H',I,q⟩:=h;exact ⟨σ',H',I.unwish,q⟩
 |cont=>obtain ⟨σ',H',I,q⟩:=h;exact ⟨σ',H',I.unwish,q⟩
 |ret u=>obtain ⟨v,σ',H',I,r,q⟩:=h;exact ⟨v,σ',H',I.unwish,r,q⟩
theorem PSs.nox{st:List Stmt}{t:TS}(h:PSs X.nox st t):PSs X st t:=λpins s σ H D I hw=>
 bb (h pins s σ H D (I.wish _) hw) (λ_ _ q=>q.unwish) λ_ _ z=>False.elim z
end
section
variable {X:Cx} {st:Stmt} {rest:List Stmt} {t u:TS} {e:Expr} {te:TE} {pos:Pos}
def ye:TS:=λD Y H=>D.nx Y H
def Ka(t u:TS):TS:=λD Y H=>t { D with nx:=u D } Y H
theorem Kc:PSs X [] ye:=λ_ _ Y H _ I h=>fA ⟨Y,H,I,h⟩
theorem yf(h1:PS X st t)(h2:PSs X rest u):PSs X (st::rest) (Ka t u):=by
 intro pins s Y H D I h;refine wpAny_execs_cons (thn (h1 pins s Y H { D with nx:=u D } I h) λf s1 q=>?_);cases f with
 |next=>
  obtain ⟨σ',H',I',q⟩:=q;exact h2 pins s1 σ' H' D I' q
 |ret v=>exact q
 |brk=>exact q
 |cont=>exact q
theorem yg(h1:PS X st t):PSs X [st] t:=by
 intro pins s Y H D I h;refine wpAny_execs_cons (thn (h1 pins s Y H D I h) λf s1 q=>?_);cases f with
 |next=>exact fA q
 |ret v=>exact q
 |brk=>exact q
 |cont=>exact q
def Kd:TS:=λD Y H=>D.bk Y H
def Ke:TS:=λD Y H=>D.ct Y H
theorem Kf:PS X (.Pass pos) ye:=λ_ _ Y H _ I h=>wpAny_Pass ⟨Y,H,I,h⟩
theorem Kg:PS X (.Break pos) Kd:=λ_ _ Y H _ I h=>wpAny_Break ⟨Y,H,I,h⟩
theorem Kh:PS X (.Continue pos) Ke:=λ_ _ Y H _ I h=>wpAny_Continue ⟨Y,H,I,h⟩
theorem Inv.quiet{pins:List (Addr×Obj)}{Y:St}{H:Hp}{s:Shared}(I:Inv X pins Y H s):interactive X.env=false:=by simp[interactive,I.ok.kind]
def Kl(te:TE):TS:=λD Y H=>te Y H λ_ H1=>D.nx Y H1
theorem yh(he:PE X e te)(hs:swapsWith e none pos.line X.env=pure false:=by rfl):PS X (.Expr e pos) (Kl te):=by intro pins s Y H D I h;exact wpAny_Expr_any (thn (he pins s Y H _ I h) λv s1 ⟨x,H1,I1,r1,q1⟩=>⟨Y,H1,I1,q1⟩) I.quiet hs
def Km(te:TE):TS:=λD Y H=>te Y H D.rt
theorem Ko(he:PE X e te):PS X (.Return (some e) pos) (Km te):=by intro pins s Y H D I h;exact wpAny_Return_some (thn (he pins s Y H _ I h) λv s1 ⟨x,H1,I1,r1,q1⟩=>⟨x,Y,H1,I1,r1,q1⟩)
def Kp:TS:=λD _ H=>D.rt .non H
theorem Kq:PS X (.Return none pos) Kp:=λ_ _ Y H _ I h=>wpAny_Return_none ⟨.non,Y,H,I,rfl,h⟩
def Kr(c:TT)(t u:TS):TS:=λD Y H=>c Y H λb H1=>if b=true then t D Y H1 else u D Y H1
theorem Ks{c:Expr}{a b:List Stmt}{tc:TT}(hc:PT X c tc)(ha:PSs X a t)(hb:PSs X b u):PS X (.If c a b pos) (Kr tc t u):=by
 intro pins s Y H D I h;refine wpAny_If (thn (hc pins s Y H _ I h) λd s1 ⟨H1,I1,q1⟩=>?_);cases d with
 |true=>exact ha pins s1 Y H1 D I1 q1
 |false=>exact hb pins s1 Y H1 D I1 q1
def Ku:TS:=λ_ _ _=>False
theorem Kv:PS X st Ku:=λ_ _ _ _ _ _ h=>h.elim
end
abbrev TG:=V->St->Hp->(St->Hp->Prop)->Prop
abbrev TGs:=List V->St->Hp->(St->Hp->Prop)->Prop
def PG(X:Cx)(target:Expr)(t:TG):Prop:=
 ∀(pins:List (Addr×Obj))(s:Shared)(Y:St)(H:Hp)(v:V)(u:Value)(Q:St->Hp->Prop),Inv X pins Y H s->RelV v u->t v Y H Q->
  ↥X (assign target X.env u) (λ_ s'=>∃σ' H',Inv X pins σ' H' s'/\Q σ' H') X.xe s
def PGs(X:Cx)(ts:List Expr)(t:TGs):Prop:=
 ∀(pins:List (Addr×Obj))(s:Shared)(Y:St)(H:Hp)(vs:List V)(us:List Value)(Q:St->Hp->Prop),Inv X pins Y H s->Vals vs us->t vs Y H Q->
  ↥X (assignInOrder ((assignEach ts X.env).map (·.2)) us) (λ_ s'=>∃σ' H',Inv X pins σ' H' s'/\Q σ' H') X.xe s
abbrev rB:=V->V->V->Hp->(Hp->Prop)->Prop
def rD(X:Cx)(t:rB):Prop:=
 ∀(pins:List (Addr×Obj))(s:Shared)(Y:St)(H:Hp)(o i v:V)(ov iv u:Value)(Q:Hp->Prop),Inv X pins Y H s->RelV o ov->RelV i iv->RelV v u->t o i v H Q->
  ↥X (setItem ov iv u) (λ_ s'=>∃H',Inv X pins Y H' s'/\Q H') X.xe s
section
variable {X:Cx} {pos:Pos}
def nP(i:Nat):TG:=λv Y H Q=>Q (Y.set i (some v)) H
theorem rE{i:Nat}{x:Str}(hN:X.N.Nodup)(hi:X.N[i]?=some x)(hx:Loc X.env.scope x)(hf:X.fn x=true\/X.env.scope.names.lookup x=some .local:=by first |exact .inl rfl |exact .inr rfl |assumption):PG X (.Name x pos) (nP i):=by intro pins s Y H v u Q I r h;exact wpAny_assign_Name (jJ I hN hi hx r (λs' I'=>⟨_,H,I',h⟩) hf)
def Kw:TGs:=λvs Y H Q=>vs=[]/\Q Y H
def Ky(t:TG)(u:TGs):TGs:=λvs Y H Q=>∃v r,vs=v::r/\t v Y H λσ' H'=>u r σ' H' Q
theorem yj:PGs X [] Kw:=by intro pins s Y H vs us Q I r h;obtain ⟨e,h⟩:=h;subst e;cases r;exact assignInOrder_nil ⟨Y,H,I,h⟩
theorem rF{e:Expr}{es:List Expr}{t:TG}{u:TGs}(h1:PG X e t)(h2:PGs X es u)
  (hs:(assignEach (e::es) X.env).map (·.2)=assign e X.env::(assignEach es X.env).map (·.2):=by rfl):PGs X (e::es) (Ky t u):=by
 intro pins s Y H vs us Q I r h;obtain ⟨v,vr,e1,h⟩:=h;subst e1;cases r with
 |cons r rr=>
  rw[hs];refine assignInOrder_cons (thn (h1 pins s Y H _ _ _ I r h) λ_ s1 ⟨σ1,H1,I1,q1⟩=>?_);exact h2 pins s1 σ1 H1 _ _ Q I1 rr q1
def Kz(K:PF)(n:Nat)(t:TGs):TG:=λv Y H Q=>∃a xs,v=.ref a/\SqT K H a xs/\xs.length=n/\t xs Y H Q
theorem KC{es:List Expr}{k:Nat}{t:TGs}{n:Nat}(hc:X.calm=true)(h:PGs X es t)
  (hn:(assignEach es X.env).length=n:=by rfl) (hst:(assignEach es X.env).findIdx? (·.1)=none:=by rfl):PG X (.Tuple es k pos) (Kz X.K n t):=by
 intro pins s Y H v u Q I r hw;obtain ⟨a,xs,e1,hq,hl,hw⟩:=hw;subst e1;cases r;obtain ⟨its,rv,ht,hz⟩:=I.tuple hq;refine assign_Tuple_tuple (I.ok.hd hc) ht (by simp[hn,<-hl,rv.length]) hst λh' hx=>?_;have I1:Inv X pins Y H { s with heap:=h' }:=I.kept (t':=s.toks) λb o e=>hx b o (cf (ax e)) e;exact h pins _ Y H xs _ Q I1 (by simpa using rv) hw
def KH(to ti:TE)(t:rB):TG:=λv Y H Q=>to Y H λo H1=>ti Y H1 λi H2=>t o i v H2 λH3=>Q Y H3
theorem KJ{o i:Expr}{to ti:TE}{t:rB}(ho:PE X o to)(hi:PE X i ti)(hs:rD X t)
  (ha:∀v,assign (.Subscript o i pos) X.env v=(do
   let ov <-holding [v] (eval o X.env)
   let iv <-holding [v,ov] (eval i X.env)
   standAt pos
   holding [v,ov,iv] (setItem ov iv v)
   release [v,ov,iv] []):=by intro _;rfl):PG X (.Subscript o i pos) (KH to ti t):=by
 intro pins s Y H v u Q I r h;rw[ha];refine af (df (thn (ho pins s Y H _ I h) λov s1 ⟨x,H1,I1,r1,q1⟩=>?_));refine af (df (thn (hi pins s1 Y H1 _ I1 q1) λiv s2 ⟨y,H2,I2,r2,q2⟩=>?_));refine af (fw (af (df (thn (hs pins s2 Y H2 x y v ov iv u _ I2 r1 r2 r q2) λ_ s3 ⟨H3,I3,q3⟩=>?_))));exact wpAny_release ⟨Y,H3,I3,q3⟩
def nQ(te:TE)(g:TG):TS:=λD Y H=>te Y H λx H1=>g x Y H1 D.nx
theorem rG{tg e:Expr}{te:TE}{g:TG}(he:PE X e te)(hg:PG X tg g)(hs:swapsWithSole [tg] e pos.line X.env=pure false:=by rfl)(hw:swappedStores [tg] e X.env=pure none:=by rfl)
  (h1:(assignEach [tg] X.env).map (·.2)=[assign tg X.env]:=by rfl):PS X (.Assign [tg] e pos) (nQ te g):=by
 intro pins s Y H D I h;refine wpAny_Assign_stores (thn (he pins s Y H _ I h) λv s1 ⟨x,H1,I1,r1,q1⟩=>?_) hs hw;rw[h1];exact thn (hg pins s1 Y H1 x v _ I1 r1 q1) λ_ s2 q=>q
theorem rH{i:Nat}{x:Str}{e:Expr}{te:TE}{pos':Pos}(hN:X.N.Nodup)(hi:X.N[i]?=some x)(hx:Loc X.env.scope x)(he:PE X e te)(hs:swapsWith e (some (.Name x pos')) pos.line X.env=pure false:=by rfl)(hf:X.fn x=true\/X.env.scope.names.lookup x=some .local:=by first |exact .inl rfl |exact .inr rfl |assumption):
  PS X (.Assign [.Name x pos'] e pos) (nQ te (nP i)):=by
 intro pins s Y H D I h;refine wpAny_Assign_Name (thn (he pins s Y H _ I h) λv s1 ⟨y,H1,I1,r1,q1⟩=>?_) hs;exact jJ I1 hN hi hx r1 (λs2 I2=>⟨_,H1,I2,q1⟩) hf
end
structure It where
 go:Nat->Hp->Prop
 yld:Nat->Hp->V->Hp->Prop
 stop:Nat->Hp->Prop
def d9(X:Cx)(pins:List (Addr×Obj))(H:Hp)(b:Addr):Prop:=
 H b=none/\b≠X.env.locals/\b∉X.fs/\(b∈X.ex\/X.s₀.heap.objs.size<=b)/\(∀x c,X.env.cells.lookup x=some c->c≠b)/\∀p∈X.pn++pins,p.1≠b
theorem Inv.fpOk{X:Cx}{pins:List (Addr×Obj)}{Y:St}{H H':Hp}{s:Shared}{b:Addr}(I:Inv X pins Y H s)(hb:(~~~s)<=b)(hn:H' b=none):d9 X pins H' b:=by
 refine ⟨hn,dA (aT I.lt hb),I.nofs hb,.inr (bi I.sz hb),λx c e z=>?_,λp hp z=>?_⟩
 ·obtain ⟨v,q⟩:=I.cell x c e;exact absurd (aT q.lt (by rw[z];exact hb)) (d6 _)
 ·exact absurd (aT (ax (I.pin p hp).1) (by rw[z];exact hb)) (d6 _)
structure Turn(P:Program)(w:World)(K:PF)(tg:Expr)(J:It)(fp:List Addr)(it:Addr)(tn:Nat->Heap->Prop):Prop where
 mem:it∈fp
 obj:∀i h,tn i h->∀b∈fp,∃o,h.get? b=some o/\∀v,o.data≠.cell v
 keep:∀i h h',tn i h->(∀b∈fp,∀o,h.get? b=some o->h'.get? b=some o)->tn i h'
 item:∀(X:Cx),X.prog=P->X.w=w->X.K=K->X.calm=true->∀(i:Nat)(pins:List (Addr×Obj))(s:Shared)(Y:St)(H:Hp)(E:Value->Shared->Prop),Inv X pins Y H s->(∀b∈fp,d9 X pins H b)->tn i s.heap->J.go i H->
  wpAny (model P w) X.A (pyNext (.ref it)) (λr s1=>∃u,r=some u/\
   wpAny (model P w) X.A (letOwnedTupleGo tg (.ref it) u) (λ_ s2=>∃x H',Inv X pins Y H' s2/\RelV x u/\J.yld i H x H'/\tn (i+1) s2.heap/\∀b∈fp,H' b=none) E s1) E s
 done:∀(X:Cx),X.prog=P->X.w=w->X.K=K->X.calm=true->∀(i:Nat)(pins:List (Addr×Obj))(s:Shared)(Y:St)(H:Hp)(E:Value->Shared->Prop),Inv X pins Y H s->(∀b∈fp,d9 X pins H b)->tn i s.heap->J.stop i H->
  wpAny (model P w) X.A (pyNext (.ref it)) (λr s1=>r=none/\Inv X pins Y H s1) E s
 self:∀(A:Around)(i:Nat)(s:Shared)(Q:Value->Shared->Prop)(E:Value->Shared->Prop),tn i s.heap->Q (.ref it) s->wpAny (model P w) A (pyIter (.ref it)) Q E s
abbrev TI:=St->Hp->(It->Hp->Prop)->Prop
def PIE(X:Cx)(pins:List (Addr×Obj))(Y:St)(tg:Expr)(R:It->Hp->Prop)(itv:Value)(s2:Shared):Prop:=
 ∃(it:Addr)(fp:List Addr)(tn:Nat->Heap->Prop)(J:It)(H':Hp),itv=.ref it/\Inv X pins Y H' s2/\Turn X.prog X.w X.K tg J fp it tn/\tn 0 s2.heap/\(∀b∈fp,d9 X pins H' b)/\R J H'
def PI(X:Cx)(tg iter:Expr)(wi:TI):Prop:=
 ∀(pins:List (Addr×Obj))(s:Shared)(Y:St)(H:Hp)(R:It->Hp->Prop),Inv X pins Y H s->wi Y H R->
  ↥X (eval iter X.env) (λv s1=>↥X (pyIter v) (PIE X pins Y tg R) X.xe s1) X.xe s
theorem nR{M:Model}{A:Around}{E:Value->Shared->Prop}{s:Shared}{tg:Expr}{it:Addr}{u:Value}{o:Obj}{n:String}{vs:Array Value}{Q:Unit->Shared->Prop}(ho:s.heap.get? it=some o)(hc:o.cls=.type n)(hd:o.data=.fields vs)
  (hn:["enumerate","zip","dict_itemiterator","dict_reverseitemiterator","odict_iterator","itertools.zip_longest","itertools.pairwise"].contains n=false) (hQ:Q () s):wpAny M A (letOwnedTupleGo tg (.ref it) u) Q E s:=by
 unfold letOwnedTupleGo;cases tg <;> first
  |exact av hQ
  | (cases u <;> first
    |exact av hQ
    | (refine af (wpAny_load ho ?_)
       rw[hc,hd];show wpAny M A (if (["enumerate","zip","dict_itemiterator","dict_reverseitemiterator","odict_iterator","itertools.zip_longest","itertools.pairwise"].contains n&&vs[0]?==some (rawInt _))=true then _ else _) Q E s;rw[if_neg (by intro h;rw[hn,Bool.false_and]at h;cases h)];exact av hQ))
def Itl(K:PF)(a:Addr):It:=
 ⟨λi H=>∃xs x,SqL K H a xs/\xs[i]?=some x,λi H x H'=>H'=H/\∀xs,SqL K H a xs->xs[i]?=some x,λi H=>∃xs,SqL K H a xs/\xs.length<=i⟩
def Itt(K:PF)(a:Addr):It:=
 ⟨λi H=>∃xs x,SqT K H a xs/\xs[i]?=some x,λi H x H'=>H'=H/\∀xs,SqT K H a xs->xs[i]?=some x,λi H=>∃xs,SqT K H a xs/\xs.length<=i⟩
def Itr(lo:Int)(n:Nat):It:=⟨λi _=>i < n,λi H x H'=>H'=H/\x=.int (lo+i),λi _=>n<=i⟩
theorem yl{P:Program}{w:World}{K:PF}{tg:Expr}(a it:Addr):Turn P w K tg (Itl K a) [it] it (λi h=>h.IsListIter it a i) where
 mem:=by simp
 obj:=λi h st b hb=>by
  have e:b=it:=by simpa using hb
  subst e;obtain ⟨o,e,c,d⟩:=st;exact ⟨o,e,λv z=>by rw[d]at z;cases z⟩
 keep:=λi h h' st k=>st.at λo e=>k it (by simp) o e
 item:=by intro X hP hw hK hc i pins s Y H E I hf st hg;subst hP hw hK;obtain ⟨xs,x,hq,hx⟩:=hg;obtain ⟨its,rv,p,hz⟩:=I.list hq;obtain ⟨u,hu,ru⟩:=rv.get hx;obtain ⟨f0,f1,f2,f3,f4,f5⟩:=hf it (by simp);refine wpAny_pyNext_list_item st p.isList (x:=u) (by simpa using hu) λh' st' sb=>?_;have I1:Inv X pins Y H { s with heap:=h' }:=I.turned (t':=s.toks) (λb o hb e=>(sb.2 b hb).trans e) f0 f1 f3 f4 f5;obtain ⟨o,e,c,d⟩:=id st';exact ⟨u,rfl,nR (s:={ s with heap:=h' }) e c d (by decide) ⟨x,H,I1,ru,⟨rfl,λys hy=>by rw[I.list_inj hy hq];exact hx⟩,st',λb hb=>(hf b hb).1⟩⟩
 done:=by intro X hP hw hK hc i pins s Y H E I hf st hg;subst hP hw hK;obtain ⟨xs,hq,hx⟩:=hg;obtain ⟨its,rv,p,hz⟩:=I.list hq;obtain ⟨f0,f1,f2,f3,f4,f5⟩:=hf it (by simp);have hl:=rv.length;exact wpAny_pyNext_list_end (I.ok.hd hc) st p.isList (by simp;omega) λh' eb=>⟨rfl,I.turned (t':=s.toks) (λb o hb e=>eb b o hb e) f0 f1 f3 f4 f5⟩
 self:=λ_ _ _ _ _ st h=>wpAny_pyIter_listiter st h
theorem yo{P:Program}{w:World}{K:PF}{tg:Expr}(a it:Addr):Turn P w K tg (Itt K a) [it] it (λi h=>h.IsTupleIter it a i) where
 mem:=by simp
 obj:=λi h st b hb=>by
  have e:b=it:=by simpa using hb
  subst e;obtain ⟨o,e,c,d⟩:=st;exact ⟨o,e,λv z=>by rw[d]at z;cases z⟩
 keep:=λi h h' st k=>st.at λo e=>k it (by simp) o e
 item:=by intro X hP hw hK hc i pins s Y H E I hf st hg;subst hP hw hK;obtain ⟨xs,x,hq,hx⟩:=hg;obtain ⟨its,rv,p,hz⟩:=I.tuple hq;obtain ⟨u,hu,ru⟩:=rv.get hx;obtain ⟨f0,f1,f2,f3,f4,f5⟩:=hf it (by simp);refine wpAny_pyNext_tuple_item st (show s.heap.IsTuple a its.toArray from p) (x:=u) (by simpa using hu) λh' st' sb=>?_;have I1:Inv X pins Y H { s with heap:=h' }:=I.turned (t':=s.toks) (λb o hb e=>(sb.2 b hb).trans e) f0 f1 f3 f4 f5;obtain ⟨o,e,c,d⟩:=id st';exact ⟨u,rfl,nR (s:={ s with heap:=h' }) e c d (by decide) ⟨x,H,I1,ru,⟨rfl,λys hy=>by rw[I.tuple_inj hy hq];exact hx⟩,st',λb hb=>(hf b hb).1⟩⟩
 done:=by intro X hP hw hK hc i pins s Y H E I hf st hg;subst hP hw hK;obtain ⟨xs,hq,hx⟩:=hg;obtain ⟨its,rv,p,hz⟩:=I.tuple hq;obtain ⟨f0,f1,f2,f3,f4,f5⟩:=hf it (by simp);have hl:=rv.length;exact wpAny_pyNext_tuple_end (I.ok.hd hc) st (show s.heap.IsTuple a its.toArray from p) (by simp;omega) λh' eb=>⟨rfl,I.turned (t':=s.toks) (λb o hb e=>eb b o hb e) f0 f1 f3 f4 f5⟩
 self:=λ_ _ _ _ _ st h=>wpAny_pyIter_tupleiter st h
theorem KN{P:Program}{w:World}{K:PF}{tg:Expr}(it:Addr)(lo:Int)(n:Nat):Turn P w K tg (Itr lo n) [it] it (λi h=>IsRangeIter h it (lo+(i:Nat) * 1) ((n:Int) - (i:Nat)) 1) where
 mem:=by simp
 obj:=λi h st b hb=>by
  have e:b=it:=by simpa using hb
  subst e;exact ⟨_,st,λv z=>by
   have z':Data.fields _=Data.cell v:=z;cases z'⟩
 keep:=λi h h' st k=>k it (by simp) _ st
 item:=by intro X hP hw hK hc i pins s Y H E I hf st hg;subst hP hw hK;obtain ⟨f0,f1,f2,f3,f4,f5⟩:=hf it (by simp);have W:=Walks.range (prog:=X.prog) (w:=X.w) (I.ok.hd hc) it lo 1 n;refine W.item i s _ _ hg st λv h' tk hv st' kk=>?_;obtain ⟨t,rfl⟩:=hv;have I1:Inv X pins Y H { s with heap:=h',toks:=tk }:=I.turned (λb o hb e=>kk b o (by simpa using hb) e) f0 f1 f3 f4 f5;refine ⟨_,rfl,nR (s:={ s with heap:=h',toks:=tk }) (n:="range_iterator") st' rfl rfl (by decide) ⟨.int (lo+i),H,I1,⟨t,?_⟩,⟨rfl,rfl⟩,st',λb hb=>(hf b hb).1⟩⟩;rw[Int.mul_one]
 done:=by intro X hP hw hK hc i pins s Y H E I hf st hg;subst hP hw hK;obtain ⟨f0,f1,f2,f3,f4,f5⟩:=hf it (by simp);exact wpAny_pyNext_range_end (I.ok.hd hc) st (by have:n<=i:=hg;omega) λh' eb=>⟨rfl,I.turned (t':=s.toks) (λb o hb e=>eb b o hb e) f0 f1 f3 f4 f5⟩
 self:=λ_ _ _ _ _ st h=>wpAny_pyIter_rangeiter st h
section
variable {X:Cx} {tg:Expr}
theorem yq{pins:List (Addr×Obj)}{Y:St}{H:Hp}{s:Shared}{R:It->Hp->Prop}{E:Value->Shared->Prop}{lo hi:Int}{t u v:Tok}{tk:Nat}(I:Inv X pins Y H s)(h1:-(2 ^ 62)<=lo)(h2:lo < 2 ^ 62)(h3:-(2 ^ 62)<=hi)(h4:hi < 2 ^ 62)
  (q:R (Itr lo (hi - lo).toNat) H):↥X (pyIter (.ref (~~~s))) (PIE X pins Y tg R) E { s with heap:=s.heap.push { cls:=.type "range",data:=.fields #[.int lo t,.int hi u,.int 1 v] },toks:=tk }:=by
 refine wpAny_pyIter_range (IsRange.new ..) (small_one h1 h2 h3 h4) ?_;have I1:Inv X pins Y H { s with heap:=s.heap.push { cls:=.type "range",data:=.fields #[.int lo t,.int hi u,.int 1 v] },toks:=tk }:=I.kept λb o e=>ag _ e;refine ⟨(s.heap.push { cls:=.type "range",data:=.fields #[.int lo t,.int hi u,.int 1 v] }).objs.size,[(s.heap.push { cls:=.type "range",data:=.fields #[.int lo t,.int hi u,.int 1 v] }).objs.size],_,_,H,rfl,
  I1.kept (t':=tk) λb o e=>ag _ e,KN _ lo (hi - lo).toNat,?_,λb hb=>?_,q⟩
 ·have e1:lo+((0:Nat):Int) * 1=lo:=by simp
  have e2:(((hi - lo).toNat:Nat):Int) - ((0:Nat):Int)=Builtin.Range.rangeSize lo hi 1:=by rw[rangeSize_one];split <;> omega
  show IsRangeIter _ _ (lo+((0:Nat):Int) * 1) ((((hi - lo).toNat:Nat):Int) - ((0:Nat):Int)) 1;rw[e1,e2];exact aI _ rfl
 ·have e:b=(s.heap.push { cls:=.type "range",data:=.fields #[.int lo t,.int hi u,.int 1 v] }).objs.size:=by simpa using hb
  subst e;exact I1.fpOk (am _) (I1.hok.fresh (am _))
def KQ(ta:TA):TI:=λY H R=>ta Y H λvs H1=>∃j:Int,vs=[.int j]/\-(2 ^ 62)<=j/\j < 2 ^ 62/\R (Itr 0 j.toNat) H1
def KR(ta:TA):TI:=λY H R=>ta Y H λvs H1=>∃i j:Int,vs=[.int i,.int j]/\(-(2 ^ 62)<=i/\i < 2 ^ 62/\-(2 ^ 62)<=j/\j < 2 ^ 62)/\R (Itr i (j - i).toNat) H1
theorem KY {a:Expr} {ta:TA} {p pos:Pos} (hg:Gl X "range") (hm:X.mg "range"=none) (ha:PA X [a] ta) (hs:starEach [a] X.env=[(false,eval a X.env)]:=by rfl):PI X tg (.Call (.Name "range" p) [a] [] pos) (KQ ta):=by
 intro pins s Y H R I h;refine Call_ (fZ I hg hm boot_range (dS (thn (ha pos pins s Y H _ I h) λus s1 ⟨vs,H1,I1,r1,q1⟩=>?_) hs rfl));obtain ⟨j,e,q1,q2,q⟩:=q1;subst e;cases r1 with
 |cons r rr=>
  cases rr;obtain ⟨t,rfl⟩:=r;exact call_range_1 (yq I1 (by omega) (by omega) q1 q2 (by simpa using q))
theorem KZ {a b:Expr} {ta:TA} {p pos:Pos} (hg:Gl X "range") (hm:X.mg "range"=none) (ha:PA X [a,b] ta) (hs:starEach [a,b] X.env=[(false,eval a X.env),(false,eval b X.env)]:=by rfl) (hs2:starEach [b] X.env=[(false,eval b X.env)]:=by rfl):
  PI X tg (.Call (.Name "range" p) [a,b] [] pos) (KR ta):=by
 intro pins s Y H R I h;refine Call_ (fZ I hg hm boot_range (dS (thn (ha pos pins s Y H _ I h) λus s1 ⟨vs,H1,I1,r1,q1⟩=>?_) (by rw[hs,hs2]) (by rw[hs2];rfl)));obtain ⟨i,j,e,⟨q1,q2,q3,q4⟩,q⟩:=q1;subst e;cases r1 with
 |cons r rr=>
  cases rr with
  |cons r' rr=>
   cases rr;obtain ⟨t,rfl⟩:=r;obtain ⟨t',rfl⟩:=r';exact call_range_2 (yq I1 q1 q2 q3 q4 q)
def K1(wi:TI)(g:TG)(tb:TS):TS:=λD Y H=>wi Y H λJ H1=>∃W:Nat->Nat->St->Hp->Prop,(∃m,W 0 m Y H1)/\∀i m Y H,W i m Y H->
 (J.stop i H/\D.nx Y H)\/(J.go i H/\∃N:St->Hp->Prop,(∀σ' H',N σ' H'->∃m',m' < m/\W (i+1) m' σ' H')/\∀x H',J.yld i H x H'->g x Y H' λσ2 H2=>tb { D with nx:=N,ct:=N,bk:=D.nx } σ2 H2)
def jK(fp:List Addr)(h:Heap):List (Addr×Obj):=fp.filterMap λb=>(h.get? b).map λo=>(b,o)
theorem nT{fp:List Addr}{h:Heap}{b:Addr}{o:Obj}(hb:b∈fp)(e:h.get? b=some o):(b,o)∈jK fp h:=List.mem_filterMap.mpr ⟨b,hb,by rw[e];rfl⟩
theorem yr{fp:List Addr}{h:Heap}{p:Addr×Obj}(hp:p∈jK fp h):p.1∈fp/\h.get? p.1=some p.2:=by
 obtain ⟨b,hb,e⟩:=List.mem_filterMap.mp hp;cases q:h.get? b with
 |none=>rw[q]at e;cases e
 |some o=>
  rw[q]at e;have e':(b,o)=p:=c9 e;subst e';exact ⟨hb,q⟩
theorem Inv.pinned{pins:List (Addr×Obj)}{Y:St}{H:Hp}{s:Shared}{fp:List Addr}(I:Inv X pins Y H s)(hf:∀b∈fp,d9 X pins H b)(ho:∀b∈fp,∃o,s.heap.get? b=some o/\∀v,o.data≠.cell v):Inv X (pins++jK fp s.heap) Y H s:=
 I.pins_of λp hp=>(bv.mp hp).elim (λz=>I.pin p (a8 _ z)) λz=>by
  obtain ⟨hb,e⟩:=yr z;obtain ⟨f0,f1,f2,_⟩:=hf p.1 hb;obtain ⟨o,e',d⟩:=ho p.1 hb;rw[e]at e';cases e';exact ⟨e,f0,f1,f2,d⟩
theorem Inv.unpinned{pins pl:List (Addr×Obj)}{Y:St}{H:Hp}{s:Shared}(I:Inv X (pins++pl) Y H s):Inv X pins Y H s:=I.pins_of λp hp=>I.pin p (a8 _ (dE _ hp))
theorem K5{iter:Expr}{body:List Stmt}{wi:TI}{g:TG}{tb:TS}{pos:Pos}(hp:PassesOwn (model X.prog X.w) X.A X.env X.xe)(hc:X.calm=true)(hi:PI X tg iter wi)(hg:PG X tg g)(hb:PSs X body tb)
  (hs:∀x,foldedSetIterable iter X.env x=pure x:=by intro _;rfl):PS X (.For tg iter body [] pos) (K1 wi g tb):=by
 intro pins s Y H D I h;refine wpAny_For (thn (hi pins s Y H _ I h) λv s1 h1=>thn h1 λitv s2 h2=>?_) hs;obtain ⟨it,fp,tn,J,H2,e,I2,T,st2,f2,W,⟨m0,w0⟩,turn⟩:=h2;subst e
 -- what stays true of the iterator's objects through the loop
 have stat:∀{H':Hp},(∀b∈fp,H' b=none)->∀b∈fp,d9 X pins H' b:=λhn b hb=>⟨hn b hb,(f2 b hb).2⟩;refine codeAny_forLoop_any (λn s'=>∃i σ' H',Inv X pins σ' H' s'/\tn i s'.heap/\(∀b∈fp,H' b=none)/\W i n σ' H') ?_ m0 ⟨0,Y,H2,I2,st2,λb hb=>(f2 b hb).1,w0⟩;rintro n s3 ⟨i,σ3,H3,I3,st3,fr3,w3⟩;rcases turn i n σ3 H3 w3 with ⟨stop,qn⟩ |⟨go,N,hN,step⟩
 ·refine wpAny_passesOwn hp (thn (T.done X rfl rfl rfl hc i pins s3 σ3 H3 X.xe I3 (stat fr3) st3 stop) λr s4 ⟨hr,I4⟩=>?_);subst hr;exact fA ⟨σ3,H3,I4,qn⟩
 ·refine wpAny_passesOwn hp (thn (T.item X rfl rfl rfl hc i pins s3 σ3 H3 X.xe I3 (stat fr3) st3 go) λr s4 ⟨u,hr,h4⟩=>?_);subst hr;refine wpAny_passesOwn hp (thn h4 λ_ s5 ⟨x,H5,I5,r5,y5,st5,fr5⟩=>?_);have I5':=I5.pinned (stat fr5) (T.obj _ _ st5);refine wpAny_passesOwn hp (thn (hg _ s5 σ3 H5 x u _ I5' r5 (step x H5 y5)) λ_ s6 ⟨σ6,H6,I6,q6⟩=>?_);refine wpAny_passesOwn hp (thn (hb _ s6 σ6 H6 _ I6 q6) λf s7 q7=>?_);have again:∀{σ7:St}{H7:Hp},Inv X (pins++jK fp s5.heap) σ7 H7 s7->N σ7 H7->∃m,m < n/\∃i σ' H',Inv X pins σ' H' s7/\tn i s7.heap/\(∀b∈fp,H' b=none)/\W i m σ' H':=λ{σ7 H7} I7 n7=>by
   obtain ⟨m',hm,w7⟩:=hN σ7 H7 n7;refine ⟨m',hm,i+1,σ7,H7,I7.unpinned,T.keep _ _ _ st5 λb hb o e=>(I7.pin (b,o) (a8 _ (a8 _ (nT hb e)))).1,λb hb=>?_,w7⟩;obtain ⟨o,e,d⟩:=T.obj _ _ st5 b hb;exact (I7.pin (b,o) (a8 _ (a8 _ (nT hb e)))).2.1
  cases f with
  |next=>obtain ⟨σ7,H7,I7,n7⟩:=q7;exact again I7 n7
  |cont=>obtain ⟨σ7,H7,I7,n7⟩:=q7;exact again I7 n7
  |brk=>obtain ⟨σ7,H7,I7,q7⟩:=q7;exact ⟨σ7,H7,I7.unpinned,q7⟩
  |ret v=>obtain ⟨x7,σ7,H7,I7,r7,q7⟩:=q7;exact ⟨x7,σ7,H7,I7.unpinned,r7,q7⟩
end
abbrev R2:=V->V->Hp->VK->Prop
def OpR(X:Cx)(f:Value->Value->Sem Value)(r:R2):Prop:=
 ∀(pins:List (Addr×Obj))(s:Shared)(Y:St)(H:Hp)(x y:V)(v u:Value)(Q:VK),Inv X pins Y H s->RelV x v->RelV y u->r x y H Q->
  ↥X (f v u) (EP X pins Y Q) X.xe s
def UnR(X:Cx)(f:Value->Sem Value)(r:V->Hp->VK->Prop):Prop:=
 ∀(pins:List (Addr×Obj))(s:Shared)(Y:St)(H:Hp)(x:V)(v:Value)(Q:VK),Inv X pins Y H s->RelV x v->r x H Q->
  ↥X (f v) (EP X pins Y Q) X.xe s
def bN(X:Cx)(f:Value)(r:List V->Hp->VK->Prop):Prop:=
 ∀(pins:List (Addr×Obj))(s:Shared)(Y:St)(H:Hp)(xs:List V)(us:List Value)(Q:VK),Inv X pins Y H s->Vals xs us->r xs H Q->
  ↥X (call f us) (EP X pins Y Q) X.xe s
def K6(X:Cx)(r:V->Hp->(Bool->Hp->Prop)->Prop):Prop:=
 ∀(pins:List (Addr×Obj))(s:Shared)(Y:St)(H:Hp)(x:V)(v:Value)(Q:Bool->Hp->Prop),Inv X pins Y H s->RelV x v->r x H Q->
  ↥X (truthy v) (TP X pins Y Q) X.xe s
def tOp(r:R2)(ta tb:TE):TE:=λY H Q=>ta Y H λx H1=>tb Y H1 λy H2=>r x y H2 Q
def tUn(r:V->Hp->VK->Prop)(ta:TE):TE:=λY H Q=>ta Y H λx H1=>r x H1 Q
def rI(C:Int->Int->Prop)(g:Int->Int->V):R2:=λx y H Q=>∃i j,x=.int i/\y=.int j/\C i j/\Q (g i j) H
def rI0(g:Int->Int->V):R2:=λx y H Q=>∃i j,x=.int i/\y=.int j/\Q (g i j) H
def rU(g:Int->V):V->Hp->VK->Prop:=λx H Q=>∃i,x=.int i/\Q (g i) H
section
variable {X:Cx} {a b c:Expr} {ta tb tc:TE} {pos:Pos}
theorem rJ(ha:PE X a ta)(hb:PE X b tb){pins:List (Addr×Obj)}{s:Shared}{Y:St}{H:Hp}{R:V->V->Hp->Prop}(I:Inv X pins Y H s)
  (h:ta Y H λx H1=>tb Y H1 λy H2=>R x y H2) {Q:Value->Shared->Prop} {f:Value->Value->Sem Value}
  (hf:∀v u s2 x y H2,Inv X pins Y H2 s2->RelV x v->RelV y u->R x y H2->↥X (f v u) Q X.xe s2):
  ↥X (eval a X.env) (λv s₁=>↥X (eval b X.env) (λu s₂=>↥X (f v u) Q X.xe s₂) X.xe s₁) X.xe s:=by
 refine thn (ha pins s Y H _ I h) λv s1 ⟨x,H1,I1,r1,q1⟩=>?_;refine thn (hb pins s1 Y H1 _ I1 q1) λu s2 ⟨y,H2,I2,r2,q2⟩=>?_;exact hf v u s2 x y H2 I2 r1 r2 q2
theorem K7{op:Operator}{r:R2}(ho:OpR X (binaryOp op) r)(ha:PE X a ta)(hb:PE X b tb):PE X (.BinOp a op b pos) (tOp r ta tb):=by intro pins s Y H Q I h;exact wpAny_BinOp (rJ ha hb I h λv u s2 x y H2 I2 rx ry q=>ho pins s2 Y H2 x y v u Q I2 rx ry q)
theorem K8{op:UnaryOp}{r:V->Hp->VK->Prop}(ho:UnR X (unaryOp op) r)(ha:PE X a ta):PE X (.UnaryOp op a pos) (tUn r ta):=by intro pins s Y H Q I h;exact UnaryOp_ (thn (ha pins s Y H _ I h) λv s1 ⟨x,H1,I1,r1,q1⟩=>ho pins s1 Y H1 x v Q I1 r1 q1)
theorem opI{f:Value->Value->Sem Value}{C:Int->Int->Prop}{g:Int->Int->Int}
  (rule:∀(i j:Int)(t u:Tok)(s:Shared)(Q:Value->Shared->Prop)(E:Value->Shared->Prop),C i j->Q (.int (g i j) s.toks) { s with toks:=s.toks+1 }->↥X (f (.int i t) (.int j u)) Q E s):
  OpR X f (rI C λi j=>.int (g i j)):=by
 intro pins s Y H x y v u Q I rx ry h;obtain ⟨i,j,rfl,rfl,hc,q⟩:=h;obtain ⟨t,rfl⟩:=rx;obtain ⟨t',rfl⟩:=ry;exact rule i j t t' s _ _ hc ⟨.int (g i j),H,I.tok _,⟨_,rfl⟩,q⟩
theorem yt{f:Value->Value->Sem Value}{g:Int->Int->Int}
  (rule:∀(i j:Int)(t u:Tok)(s:Shared)(Q:Value->Shared->Prop)(E:Value->Shared->Prop),Q (.int (g i j) s.toks) { s with toks:=s.toks+1 }->↥X (f (.int i t) (.int j u)) Q E s):
  OpR X f (rI0 λi j=>.int (g i j)):=by
 intro pins s Y H x y v u Q I rx ry h;obtain ⟨i,j,rfl,rfl,q⟩:=h;obtain ⟨t,rfl⟩:=rx;obtain ⟨t',rfl⟩:=ry;exact rule i j t t' s _ _ ⟨.int (g i j),H,I.tok _,⟨_,rfl⟩,q⟩
def nU(i j:Int):Prop:=0<=j/\j<=1000000/\i.natAbs < 2 ^ 64
def CMul(i j:Int):Prop:=(-(2 ^ 64) < i/\i < 2 ^ 64)\/(-(2 ^ 64) < j/\j < 2 ^ 64)
theorem CMul.ok{i j:Int}(h:CMul i j):IntMulOk i j:=by
 rcases h with ⟨h1,h2⟩ |⟨h1,h2⟩
 ·exact .of_left (intBits_le_64 h1 h2)
 ·exact .of_right (intBits_le_64 h1 h2)
theorem K9:OpR X (binaryOp .Add) (rI0 λi j=>.int (i+j)):=yt λ_ _ _ _ _ _ _ q=>add_int q
theorem La:OpR X (binaryOp .Sub) (rI0 λi j=>.int (i - j)):=yt λ_ _ _ _ _ _ _ q=>sub_int q
theorem Lb:OpR X (binaryOp .Mult) (rI CMul λi j=>.int (i * j)):=opI λ_ _ _ _ _ _ _ hc q=>mul_int q hc.ok
theorem Ld:OpR X (binaryOp .Mod) (rI (λ_ j=>0 < j) λi j=>.int (i % j)):=opI λi j _ _ _ _ _ hc q=>by
 have h1:(0:Int) < j:=hc;exact mod_int' (by omega) (by rw[Int.fmod_eq_emod_of_nonneg i (by omega)];exact q)
theorem Lg:OpR X (binaryOp .Pow) (rI nU λi j=>.int (i ^ j.toNat)):=opI λ_ _ _ _ _ _ _ hc q=>pow_int_small hc.1 hc.2.1 hc.2.2 q
theorem unI{f:Value->Sem Value}{g:Int->Int}
  (rule:∀(i:Int)(t:Tok)(s:Shared)(Q:Value->Shared->Prop)(E:Value->Shared->Prop),Q (.int (g i) s.toks) { s with toks:=s.toks+1 }->↥X (f (.int i t)) Q E s):
  UnR X f (rU λi=>.int (g i)):=by
 intro pins s Y H x v Q I rx h;obtain ⟨i,rfl,q⟩:=h;obtain ⟨t,rfl⟩:=rx;exact rule i t s _ _ ⟨.int (g i),H,I.tok _,⟨_,rfl⟩,q⟩
theorem Lh:UnR X (unaryOp .USub) (rU λi=>.int (-i)):=unI λ_ _ _ _ _ q=>neg_int q
end
section
variable {X:Cx} {a b c:Expr} {ta tb tc:TE} {pos:Pos}
theorem yu{pins:List (Addr×Obj)}{Y:St}{H:Hp}{s:Shared}{Q:VK}{k k':Bool}(I:Inv X pins Y H s)(q:Q (.bl k) H)(e:k=k'):EP X pins Y Q (.bool k') s:=by subst e;exact ⟨.bl k,H,I,rfl,q⟩
theorem Li:OpR X (compareOp .Is) (λx y H Q=>y=.non/\Q (.bl (decide (x=.non))) H):=by
 intro pins s Y H x y v u Q I rx ry h;obtain ⟨rfl,q⟩:=h;cases ry;refine is_none_gen (yu I q ?_);cases x <;> first
  | (cases rx;rfl)
  | (obtain ⟨t,rfl⟩:=rx;rfl)
theorem Lj:OpR X (compareOp .IsNot) (λx y H Q=>y=.non/\Q (.bl (!decide (x=.non))) H):=by
 intro pins s Y H x y v u Q I rx ry h;obtain ⟨rfl,q⟩:=h;cases ry;refine isnot_none_gen (yu I q ?_);cases x <;> first
  | (cases rx;rfl)
  | (obtain ⟨t,rfl⟩:=rx;rfl)
theorem Lk{op:CmpOp}{r:R2}(ho:OpR X (compareOp op) r)(ha:PE X a ta)(hb:PE X b tb)(hm:behindInMarks op b=false):PE X (.Compare a [op] [b] pos) (tOp r ta tb):=by intro pins s Y H Q I h;exact wpAny_Compare1 (rJ ha hb I h λv u s2 x y H2 I2 rx ry q=>ho pins s2 Y H2 x y v u Q I2 rx ry q) hm
def yw(t:TE):TT:=λY H Q=>t Y H λx H'=>∃k,x=.bl k/\Q k H'
theorem Ln{op:CmpOp}{r:R2}(ho:OpR X (compareOp op) r)(ha:PE X a ta)(hb:PE X b tb)(hm:behindInMarks op b=false):PT X (.Compare a [op] [b] pos) (yw (tOp r ta tb)):=by
 intro pins s Y H Q I h;refine wpAny_isTrue_Compare1 (thn (ha pins s Y H _ I h) λv s1 ⟨x,H1,I1,r1,q1⟩=>thn (hb pins s1 Y H1 _ I1 q1) λu s2 ⟨y,H2,I2,r2,q2⟩=>
  thn (ho pins s2 Y H2 x y v u _ I2 r1 r2 q2) λc s3 ⟨z,H3,I3,r3,k,e,q3⟩=>?_) hm
 subst e;cases r3;exact d4 ⟨H3,I3,q3⟩
def rK(r r':R2)(ta tb tc:TE):TE:=λY H Q=>ta Y H λx H1=>tb Y H1 λy H2=>r x y H2 λz H3=>∃k,z=.bl k/\
 (if k=true then tc Y H3 λw' H4=>r' y w' H4 Q else Q (.bl false) H3)
theorem Lp{op op':CmpOp}{r r':R2}(ho:OpR X (compareOp op) r)(ho':OpR X (compareOp op') r')(ha:PE X a ta)(hb:PE X b tb)(hc:PE X c tc)
  (hm:lastMarks [op,op'] [b,c]=false:=by with_unfolding_all rfl):PE X (.Compare a [op,op'] [b,c] pos) (rK r r' ta tb tc):=by
 intro pins s Y H Q I h;refine Compare_chain (thn (ha pins s Y H _ I h) λv s1 ⟨x,H1,I1,r1,q1⟩=>chain_link (thn (hb pins s1 Y H1 _ I1 q1) λu s2 ⟨y,H2,I2,r2,q2⟩=>
  thn (ho pins s2 Y H2 x y v u _ I2 r1 r2 q2) λd s3 ⟨z,H3,I3,r3,k,e,q3⟩=>?_)) hm
 subst e;cases r3;refine d4 ?_;cases k with
 |false=>exact ite_ff ⟨.bl false,H3,I3,rfl,q3⟩
 |true=>exact ite_tt (chain_last (thn (hc pins s3 Y H3 _ I3 q3) λw' s4 ⟨z',H4,I4,r4,q4⟩=>ho' pins s4 Y H4 y z' u w' Q I4 r2 r4 q4))
theorem Lq{op op':CmpOp}{r r':R2}(ho:OpR X (compareOp op) r)(ho':OpR X (compareOp op') r')(ha:PE X a ta)(hb:PE X b tb)(hc:PE X c tc)
  (hm:lastMarks [op,op'] [b,c]=false:=by with_unfolding_all rfl):PT X (.Compare a [op,op'] [b,c] pos) (yw (rK r r' ta tb tc)):=by
 intro pins s Y H Q I h;refine isTrue_chain (thn (ha pins s Y H _ I h) λv s1 ⟨x,H1,I1,r1,q1⟩=>test_link (thn (hb pins s1 Y H1 _ I1 q1) λu s2 ⟨y,H2,I2,r2,q2⟩=>
  thn (ho pins s2 Y H2 x y v u _ I2 r1 r2 q2) λd s3 ⟨z,H3,I3,r3,k,e,q3⟩=>?_)) hm
 subst e;cases r3;refine d4 ?_;cases k with
 |false=>
  obtain ⟨k',e',q'⟩:=q3;cases e';exact ite_ff ⟨H3,I3,q'⟩
 |true=>
  refine ite_tt (test_last (thn (hc pins s3 Y H3 _ I3 q3) λw' s4 ⟨z',H4,I4,r4,q4⟩=>thn (ho' pins s4 Y H4 y z' u w' _ I4 r2 r4 q4) λd' s5 ⟨z2,H5,I5,r5,k2,e2,q5⟩=>?_));subst e2;cases r5;exact d4 ⟨H5,I5,q5⟩
def nW(K:PF)(x:V)(H:Hp)(k:Bool):Prop:=
 match x with
 |.non=>k=false
 |.bl b=>k=b
 |.int i=>k=(i != 0)
 |.str y=>y.length<=sizeLine/\k=((y.length:Int) != 0)
 |.byt y=>y.size<=sizeLine/\k=((y.size:Int) != 0)
 |.ref p=>(∃xs,SqL K H p xs/\k=!xs.isEmpty)\/(∃xs,SqT K H p xs/\k=!xs.isEmpty)\/∃kvs,H p=some (.dK kvs)/\k=!kvs.isEmpty
 |_=>False
theorem Lr{κ:Type}{kvs:List (κ×V)}{vs:List (κ×Value)}(r:KV kvs vs):(!vs.isEmpty)=!kvs.isEmpty:=by cases r <;> rfl
theorem yx{xs:List V}{its:List Value}(r:Vals xs its):(!its.toArray.isEmpty)=!xs.isEmpty:=by cases r <;> simp
theorem gQ:(sizeLine:Nat) < 2 ^ 63:=by rw[eL];decide
theorem yz:K6 X (λx H Q=>∃k,nW X.K x H k/\Q k H):=by
 intro pins s Y H x v Q I rx h;obtain ⟨k,e,q⟩:=h;have hl:=gQ;have hs:sizeLine=16777216:=eL;cases x with
 |non=>
  cases rx;have e':k=false:=e;subst e';exact truthy_none ⟨H,I,q⟩
 |bl b=>
  cases rx;have e':k=b:=e;subst e';exact d4 ⟨H,I,q⟩
 |int i=>
  obtain ⟨t,rfl⟩:=rx;have e':k=(i != 0):=e;subst e';exact PySem.P.truthy_int ⟨H,I,q⟩
 |str y=>
  obtain ⟨t,rfl⟩:=rx;obtain ⟨hy,e'⟩:y.length<=sizeLine/\k=((y.length:Int) != 0):=e;subst e';exact PySem.P.truthy_str (by omega) ⟨H,I.tok _,q⟩
 |byt y=>
  obtain ⟨t,rfl⟩:=rx;obtain ⟨hy,e'⟩:y.size<=sizeLine/\k=((y.size:Int) != 0):=e;subst e';exact PySem.W.truthy_bytes (by omega) ⟨H,I.tok _,q⟩
 |ref p=>
  cases rx;have e':(∃xs,SqL X.K H p xs/\k=!xs.isEmpty)\/(∃xs,SqT X.K H p xs/\k=!xs.isEmpty)\/∃kvs,H p=some (.dK kvs)/\k=!kvs.isEmpty:=e;rcases e' with ⟨xs,hx,e'⟩ |⟨xs,hx,e'⟩ |⟨kvs,hx,e'⟩
  ·subst e';obtain ⟨its,r,pl,hz⟩:=I.list hx;have hlen:=r.length;exact wpAny_truthy_list pl.isList (by simp only[ap];omega) ⟨H,I.tok _,by rw[yx r];exact q⟩
  ·subst e';obtain ⟨its,r,pl,hz⟩:=I.tuple hx;have hlen:=r.length;exact truthy_tuple pl (by simp only[ap];omega) ⟨H,I.tok _,by rw[yx r];exact q⟩
  ·subst e';obtain ⟨hz,hS,vs,r,m⟩:kvs.length<=sizeLine/\(p==sysModules)=false/\∃vs,KV kvs vs/\s.heap.DictOf (rz X.prog X.w) p vs:=I.hok p _ hx;have hlen:kvs.length=vs.length:=Paired.length r;exact wpAny_truthy_dict hS m (by omega) ⟨H,I.tok _,by rw[Lr r];exact q⟩
 |_=>exact (show False from e).elim
theorem Ls(ha:PE X a ta)(he:∀whole,isTrue a X.env whole=(do let v <-whole;standAt a.pos;holding [v] (truthy v))):
  PT X a (λY H Q=>ta Y H λx H'=>∃k,nW X.K x H' k/\Q k H'):=by
 intro pins s Y H Q I h;exact isTrue_plain (thn (ha pins s Y H _ I h) λv s1 ⟨x,H1,I1,r1,q1⟩=>yz pins s1 Y H1 x v Q I1 r1 q1) (he _)
theorem Lw:OpR X (binaryOp .Add) (λx y H Q=>∃i j,x=.str i/\y=.str j/\i.length+j.length<=sizeLine/\Q (.str (i++j)) H):=by intro pins s Y H x y v u Q I rx ry h;obtain ⟨i,j,rfl,rfl,hz,q⟩:=h;obtain ⟨t,rfl⟩:=rx;obtain ⟨t',rfl⟩:=ry;exact add_str (λt' tk=>⟨.str (i++j),H,I.tok _,⟨_,rfl⟩,q⟩) hz
theorem vals1{x:V}{us:List Value}(r:Vals [x] us):∃u,us=[u]/\RelV x u:=by
 cases r with
 |cons r1 r2=>cases r2;exact ⟨_,rfl,r1⟩
theorem vals2{x y:V}{us:List Value}(r:Vals [x,y] us):∃u w',us=[u,w']/\RelV x u/\RelV y w':=by
 cases r with
 |cons r1 r2=>
  cases r2 with
  |cons r3 r4=>cases r4;exact ⟨_,_,rfl,r1,r3⟩
theorem yC:bN X (.type "int") (λxs H Q=>(∃i,xs=[.int i]/\Q (.int i) H)\/∃k,xs=[.bl k]/\Q (.int (if k then 1 else 0)) H):=by
 intro pins s Y H xs us Q I r h;rcases h with ⟨i,rfl,q⟩ |⟨k,rfl,q⟩
 ·obtain ⟨u,rfl,t,rfl⟩:=vals1 r;exact call_int_int ⟨.int i,H,I,⟨_,rfl⟩,q⟩
 ·obtain ⟨u,rfl,r1⟩:=vals1 r;cases r1;exact call_int_bool ⟨.int (if k then 1 else 0),H,I.tok _,⟨_,rfl⟩,q⟩
end
structure ObjM(h:Heap)(x dx C:Addr)(mA:Str->Option Value):Prop where
 obj:h.get? x=some (PySem.W.instObj C dx)
 ns:h.Ns1 dx mA
 ne:dx≠x
theorem yD{h:Heap}{dx:Addr}{mA:Str->Option Value}(n:h.Ns1 dx mA):∃od,h.get? dx=some od/\∀name,PySem.W.lookIn name od=some (mA name):=by
 obtain ⟨o,es,ep,ho,hd,hk,_,hm⟩:=n;refine ⟨o,ho,λname=>?_⟩;have e:=hm name;unfold nsFind findBy at e;rw[<-Array.find?_toList]at e;unfold PySem.W.lookIn;rw[hd];dsimp only;split
 ·rename_i y q;rw[q]at e;exact ez some e
 ·rename_i q;rw[q]at e;have a:es.toList.any (·.refKey)=false:=by
   rw[List.any_eq_false];intro y hy;obtain ⟨z,t,hkey⟩:=hk y (Array.mem_toList_iff.mp hy);simp[DictEntry.refKey,hkey]
  have a':¬es.toList.any (·.refKey)=true:=by rw[a];exact b6
  rw[if_neg a'];exact ez some e
theorem ObjM.look{h:Heap}{x dx C:Addr}{mA:Str->Option Value}(I:ObjM h x dx C mA):∃od,PySem.W.InstAt h x (PySem.W.instObj C dx) C (some od)/\∀name,PySem.W.lookIn name od=some (mA name):=
 let ⟨od,ho,hl⟩:=yD I.ns
 ⟨od,⟨I.obj,rfl,rfl,ho⟩,hl⟩
theorem RelO.some_of{v:V}{o:Option Value}(r:RelO (some v) o):∃u,o=some u/\RelV v u:=by
 cases o with
 |none=>exact (show False from r).elim
 |some u=>exact ⟨u,rfl,r⟩
theorem Lx{v:V}{u:Value}(r:RelV v u):PySem.W.handedIn u=true:=by
 cases v with
 |non=>cases (show u=Value.none from r);rfl
 |bl b=>cases (show u=Value.bool b from r);rfl
 |int i=>obtain ⟨t,e⟩:=(show ∃t,u=Value.int i t from r);cases e;rfl
 |str x=>obtain ⟨t,e⟩:=(show ∃t,u=Value.str x t from r);cases e;rfl
 |byt b=>obtain ⟨t,e⟩:=(show ∃t,u=Value.bytes b t from r);cases e;rfl
 |flt b=>obtain ⟨t,e⟩:=(show ∃t,u=Value.float b t from r);cases e;rfl
 |ref a=>cases (show u=Value.ref a from r);rfl
 |ty n=>cases (show u=Value.type n from r);rfl
section
variable {P:Program} {w:World} {H H':Hp} {h h':Heap} {a C dx:Addr} {fs fs':List (Str×V)}
theorem Ly(hok:HOk P w H h)(e:H a=some (.ins C dx fs)):∃mA,ObjM h a dx C mA/\(∀f,RelO (fs.lookup f) (mA f))/\PySem.Within mA (fs.map (·.1))/\fs.length<=1000/\H dx=some (.own a):=by obtain ⟨d,z,ne,ob,mA,n,r,q⟩:=(show ObjOk P w H h a (.ins C dx fs) from hok a _ e);exact ⟨mA,⟨ob,n,ne⟩,r,q,z,d⟩
end
structure Cls(K:PF)(C:Addr):Prop where
 pg:PySem.W.plainGet K C Str.empty=true
 hd:PySem.W.hasDictIn K C=true
 po:PySem.W.plainOver K C=true
 sa:PySem.W.findIn K (.ref C) "__setattr__"=some (some (.builtin "object.__setattr__"))
theorem Cls.get{K:PF}{C:Addr}(c:Cls K C)(f:Str):PySem.W.plainGet K C f=true:=c.pg
def Lz(K:PF)(C:Addr)(f:Str):Prop:=PySem.W.findIn K (.ref C) f=some none
structure Meth(K:PF)(C:Addr)(m:Str)(f:Addr):Prop where
 at_:PySem.W.findIn K (.ref C) m=some (some (.ref f))
 fn:PySem.W.isFn K (.ref f)=true
 kp:PySem.W.keepIn K (.ref f)=true
section
variable {X:Cx} {pins:List (Addr×Obj)} {σ:St} {H:Hp} {s:Shared} {a C dx:Addr} {fs:List (Str×V)} {f:Str} {v:V} {A:Around} {E:Value->Shared->Prop}
theorem LC{prog:Program}{w:World}{env:Env}{e:Expr}{f:Str}{pos:Pos}{s:Shared}{Q:Value->Shared->Prop}(hb:attributeBase e f env (eval e env)=eval e env)
  (h:wpAny (model prog w) A (eval e env) (λo s₁=>wpAny (model prog w) A (getAttr o f true) Q E s₁) E s):wpAny (model prog w) A (eval (.Attribute e f pos) env) Q E s:=
 Attribute_any_ h (by rw[arm_eval_Attribute,hb])
end
section
variable {X:Cx} {pins:List (Addr×Obj)} {σ:St} {H:Hp} {s:Shared} {A:Around} {E:Value->Shared->Prop} {Q:Value->Shared->Prop} {c:Value} {b:Bool}
inductive TyOf (K:PF) (H:Hp):V->Value->Prop where
 |non:TyOf K H .non (.type "NoneType")
 |bl (x:Bool):TyOf K H (.bl x) (.type "bool")
 |int (i:Int):TyOf K H (.int i) (.type "int")
 |str (x:Str):TyOf K H (.str x) (.type "str")
 |flt (x:UInt64):TyOf K H (.flt x) (.type "float")
 |lst {a:Addr} {xs:List V} (e:H a=some (.lst xs)):TyOf K H (.ref a) (.type "list")
 |frz {a:Addr} {o:Obj} {xs:List V} (e:H a=some (.frz o (.lst xs))):TyOf K H (.ref a) (.type "list")
 |tup {a:Addr} {xs:List V} (e:H a=some (.tup xs)):TyOf K H (.ref a) (.type "tuple")
 |dK {a:Addr} {kvs:List (Key×V)} (e:H a=some (.dK kvs)):TyOf K H (.ref a) (.type "dict")
 |dT {a:Addr} {kvs:List (List Key×V)} (e:H a=some (.dT kvs)):TyOf K H (.ref a) (.type "dict")
 |ins {a C dx:Addr} {fs:List (Str×V)} (e:H a=some (.ins C dx fs)) (cl:Cls K C) (ha:PySem.W.findIn K (.ref C) "__class__"=some (some (.builtin "object.__class__")))
   (hn:PySem.W.specialIn K (.builtin "object.__class__") "__get__"=some (some (.builtin "getset_descriptor.__get__"))) (htk:PySem.W.takesIn K (.builtin "object.__class__")=some true)
   (hm:PySem.W.mroIn K C (.type "object")=some true):TyOf K H (.ref a) (.ref C)
theorem LK{x:V}{u t:Value}(I:Inv X pins σ H s)(rx:RelV x u)(ty:TyOf X.K H x t)(e:PySem.W.kitOne X.K t c=some b)(h:∀tk,Q (.bool b) { s with toks:=tk }):
  wpAny (model X.prog X.w) A (call (.builtin "isinstance") [u,c]) Q E s:=by
 cases ty with
 |non=>cases (show u=Value.none from rx);exact db PySem.W.kitx_none I.kIn True.intro e (λz=>nomatch z) h
 |bl y=>cases (show u=Value.bool y from rx);exact db PySem.W.kitx_bool I.kIn True.intro e (λz=>nomatch z) h
 |int i=>obtain ⟨t,q⟩:=(show ∃t,u=Value.int i t from rx);cases q;exact db PySem.W.kitx_int I.kIn True.intro e (λz=>nomatch z) h
 |str y=>obtain ⟨t,q⟩:=(show ∃t,u=Value.str y t from rx);cases q;exact db PySem.W.kitx_str I.kIn True.intro e (λz=>nomatch z) h
 |flt y=>obtain ⟨t,q⟩:=(show ∃t,u=Value.float y t from rx);cases q;exact db PySem.W.kitx_float I.kIn True.intro e (λz=>nomatch z) h
 | @lst a xs ea=>
  cases (show u=Value.ref a from rx);obtain ⟨_,_,n,_,h1⟩:=(show ObjOk X.prog X.w H s.heap a (.lst xs) from I.hok a _ ea);exact db PySem.W.kitx_list I.kIn ⟨_,h1,rfl⟩ e (λz=>nomatch z) h
 | @frz a ob xs ea=>
  cases (show u=Value.ref a from rx);obtain ⟨_,_,_,n,_,h1⟩:=(show ObjOk X.prog X.w H s.heap a (.frz ob (.lst xs)) from I.hok a _ ea);exact db PySem.W.kitx_list I.kIn ⟨_,h1,rfl⟩ e (λz=>nomatch z) h
 | @tup a xs ea=>
  cases (show u=Value.ref a from rx);obtain ⟨_,_,_,p⟩:=(show ObjOk X.prog X.w H s.heap a (.tup xs) from I.hok a _ ea);obtain ⟨o,h1,h2,_⟩:=p;exact db PySem.W.kitx_tuple I.kIn ⟨o,h1,h2⟩ e (λz=>nomatch z) h
 | @dK a kvs ea=>
  cases (show u=Value.ref a from rx);obtain ⟨_,_,vs,_,p⟩:=(show ObjOk X.prog X.w H s.heap a (.dK kvs) from I.hok a _ ea);obtain ⟨o,es,ep,h1,h2,_⟩:=p;exact db PySem.W.kitx_dict I.kIn ⟨o,h1,h2.1⟩ e (λz=>nomatch z) h
 | @dT a kvs ea=>
  cases (show u=Value.ref a from rx);obtain ⟨_,_,xs,_,o,es,ep,h1,h2,_⟩:=(show ObjOk X.prog X.w H s.heap a (.dT kvs) from I.hok a _ ea);exact db PySem.W.kitx_dict I.kIn ⟨o,h1,h2.1⟩ e (λz=>nomatch z) h
 | @ins a C dx fs ea cl ha hn htk hm=>
  cases (show u=Value.ref a from rx);obtain ⟨mA,O,_⟩:=Ly I.hok ea;obtain ⟨od,J,_⟩:=O.look;exact db (PySem.W.kitx_own (cl.get _) cl.hd ha hn htk hm) I.kIn J e (λz=>nomatch z) h
end
structure Room(k:Nat)(A:Around):Prop where
 hd:2<=k->A.handled=none
 dp:A.depth+3 * k+5 < recursionLimit
 un:A.units+16 * k+200 < cLine
theorem Room.mono{j k:Nat}{A:Around}(r:Room k A)(h:j<=k):Room j A:=⟨λz=>r.hd (bi z h),by have:=r.dp;omega,by have:=r.un;omega⟩
theorem Room.deeper{k:Nat}{A:Around}(r:Room (k+1) A)(env:Env):Room k (A.deeper env):=
 ⟨λz=>r.hd (Nat.le_succ_of_le z),by have:=r.dp;show A.depth+1+3 * k+5 < _;omega,by have:=r.un;show A.units+3+16 * k+200 < _;omega⟩
theorem LQ {A:Around} {C:Addr} {us:List Value} {kw:List (Str×Value)}:(A.under (.builtin "type.__call__" ⟨.ref C::us,kw⟩)).depth=A.depth+1:=by first |rfl |simp[Around.under,Code.weight,Code.isCreation,Code.isGuard,Code.isCaller,Code.frames,Code.isFrame,guardIds]
theorem LR {A:Around} {C:Addr} {us:List Value} {kw:List (Str×Value)}:(A.under (.builtin "type.__call__" ⟨.ref C::us,kw⟩)).units=A.units+1:=by first |rfl |simp[Around.under,Code.cUnits,Code.frames,Code.isFrame]
theorem Room.make {k:Nat} {A:Around} (r:Room (k+1) A) (C:Addr) (us:List Value) (kw:List (Str×Value)):Room k (A.under (.builtin "type.__call__" ⟨.ref C::us,kw⟩)):=
 ⟨λz=>r.hd (Nat.le_succ_of_le z),by have:=r.dp;rw[LQ];omega,by have:=r.un;rw[LR];omega⟩
theorem Room.depth{k:Nat}{A:Around}(r:Room k A):A.depth < recursionLimit:=by have:=r.dp;omega
def Ma:TA:=λ_ H Q=>Q [] H
def Mg(ta:TE)(tr:TA):TA:=λY H Q=>ta Y H λx H1=>tr Y H1 λxs H2=>Q (x::xs) H2
section
variable {X:Cx} {e:Expr} {es:List Expr} {te:TE} {t:TA} {pos:Pos}
theorem gR:PA X [] Ma:=λ_ _ _ _ H Q I h=>Calls.spliced_nil ⟨[],H,I,.nil,h⟩
theorem dI(ha:PE X e te)(hr:PA X es t)(hs:starEach (e::es) X.env=(false,eval e X.env)::starEach es X.env:=by rfl):PA X (e::es) (Mg te t):=by intro pos pins s Y H Q I h;rw[hs];show wpAny _ _ (spliced ((false,eval e X.env)::backTo pos (starEach es X.env))) _ _ s;refine Calls.spliced_cons (thn (ha pins s Y H _ I h) λu s1 ⟨x,H1,I1,r1,q1⟩=>?_);exact thn (hr pos pins s1 Y H1 _ I1 q1) λus s2 ⟨xs,H2,I2,r2,q2⟩=>⟨x::xs,H2,I2,.cons r1 r2,q2⟩
def Mh(t:TA):TE:=λY H Q=>t Y H λxs H1=>xs.length<=sizeLine/\∀p,H1 p=none->Q (.ref p) (upd H1 p (.tup xs))
def Mi(t:TA):TE:=λY H Q=>t Y H λxs H1=>xs.length<=sizeLine/\∀p,H1 p=none->Q (.ref p) (upd H1 p (.lst xs))
theorem Mj{x1}(h:PA X es t):PE X (.Tuple es x1 pos) (Mh t):=by intro pins s Y H Q I hq;refine wpAny_Tuple_spliced (thn (h pos pins s Y H _ I hq) λus s1 ⟨xs,H1,I1,r,z,q⟩=>⟨by rw[<-r.length];exact z,?_⟩);have hf:H1 s1.heap.objs.size=none:=I1.hok.fresh (am _);refine ⟨.ref s1.heap.objs.size,upd H1 s1.heap.objs.size (.tup xs),I1.laid (t':=s1.toks) (λb u e=>ag _ e) (am _) ?_,rfl,q _ hf⟩;exact ⟨z,us,r,⟨_,aI _ rfl,rfl,_,rfl⟩⟩
theorem Ml(h:PA X es t):PE X (.List es pos) (Mi t):=by intro pins s Y H Q I hq;refine wpAny_List_spliced (thn (h pos pins s Y H _ I hq) λus s1 ⟨xs,H1,I1,r,z,q⟩=>⟨by rw[<-r.length];exact z,?_⟩);have hf:H1 s1.heap.objs.size=none:=I1.hok.fresh (am _);refine ⟨.ref s1.heap.objs.size,upd H1 s1.heap.objs.size (.lst xs),I1.laid (t':=s1.toks) (λb u e=>ag _ e) (am _) ?_,rfl,q _ hf⟩;exact ⟨z,us,0,r,aI _ rfl⟩
end
abbrev Sp:=List V->Hp->VK->XK->Prop
abbrev CXT:=List Env->Hp->Shared->XK->Value->Shared->Prop
structure Env0(P:Program)(w:World)(K:PF)(mg:Str->Option Value)(base:Heap)(A:Around)(outer:List Env)(s:Shared)(H:Hp):Prop where
 frames:A.frames=some outer
 mod:Mod K mg base
 bs:∀b o,base.get? b=some o->s.heap.get? b=some o/\H b=none
 bsz:base.objs.size<=(~~~s)
 funs:s.heap.FunFrames base outer
 frf:∀b∈frs outer,H b=none
 hok:HOk P w H s.heap
 bare:AllBare s.gens
def CE(outer:List Env)(P:Program)(w:World)(H:Hp)(s:Shared)(Q:VK)(u:Value)(s':Shared):Prop:=
 ∃v H',s'.os=s.os/\AllBare s'.gens/\Un (frs outer) [] H H' s.heap s'.heap/\HOk P w H' s'.heap/\RelV v u/\Q v H'
def CR(CX:CXT)(outer:List Env)(P:Program)(w:World)(H:Hp)(s:Shared)(Q:VK)(E:XK)(r:Result)(s':Shared):Prop:=
 match r with
 |.ok (.ret u)=>CE outer P w H s Q u s'
 |.ok _=>False
 |.error e=>CX outer H s E e s'
structure FnOk(P:Program)(w:World)(K:PF)(mg:Str->Option Value)(base:Heap)(CX:CXT)(k:Nat)(f:Addr)(fd:FuncData)(ps:List Str)(sp:Sp):Prop where
 len:∀vs H Q E,sp vs H Q E->vs.length=ps.length
 run:∀(A:Around)(outer:List Env)(s:Shared)(H:Hp)(args:Args)(us:List Value)(vs:List V)(Q:VK)(E:XK),Room k A->Env0 P w K mg base A outer s H->BindsTo s fd args (ps.zip us)->Vals vs us->sp vs H Q E->
  codeAny (model P w) A (.call (.ref f) args) (CR CX outer P w H s Q E) s
theorem FnOk.mono{P:Program}{w:World}{K:PF}{mg:Str->Option Value}{base:Heap}{CX:CXT}{j k:Nat}{f:Addr}{fd:FuncData}{ps:List Str}{sp:Sp}(F:FnOk P w K mg base CX j f fd ps sp)(h:j<=k):
  FnOk P w K mg base CX k f fd ps sp:=⟨F.len,λA outer s H args us vs Q E hr=>F.run A outer s H args us vs Q E (hr.mono h)⟩
theorem Env0.make{P:Program}{w:World}{K:PF}{mg:Str->Option Value}{base:Heap}{A:Around}{outer:List Env}{s:Shared}{H:Hp}(e:Env0 P w K mg base A outer s H)(C:Addr)(us:List Value)(kw:List (Str×Value)):
  Env0 P w K mg base (A.under (.builtin "type.__call__" ⟨.ref C::us,kw⟩)) outer s H:=⟨by first |exact e.frames | (simpa [Around.under,Code.envs,Code.isFrame,pushEnvs] using e.frames),e.mod,e.bs,e.bsz,e.funs,e.frf,e.hok,e.bare⟩
section
variable {X:Cx} {pins:List (Addr×Obj)} {σ:St} {H:Hp} {s s':Shared}
theorem Inv.env0(I:Inv X pins σ H s):Env0 X.prog X.w X.K X.mg X.base X.A X.stack s H:=
 ⟨I.ok.frames,I.ok.mod,I.bs,bi I.ok.bsz I.sz,I.stack,I.stkFree,I.hok,I.bare⟩
theorem Inv.after{Q:VK}{u:Value}(I:Inv X pins σ H s)(h:CE X.stack X.prog X.w H s Q u s'):EP X pins σ Q u s':=by obtain ⟨v,H',os,bare,un,hok,r,q⟩:=h;obtain ⟨hh,g,d,t,os'⟩:=s';obtain rfl:os'=s.os:=os;exact ⟨v,H',I.call (h':=hh) (g':=g) (d':=d) (t':=t) (ch:=[]) un hok bare (λb z=>absurd z (by simp)),r,q⟩
end
def Mm(sp:Sp)(dvs:List V)(E:XK)(t:TA):TE:=λY H Q=>t Y H λvs H1=>sp (vs++dvs) H1 Q E
def Binds(K:PF)(fd:FuncData)(ps:List Str)(ds:List Value):Prop:=
 ∀(s:Shared)(us:List Value),K.In s.heap->(us++ds).length=ps.length->BindsTo s fd ⟨us,[]⟩ (ps.zip (us++ds))
theorem Binds.all{K:PF}{fd:FuncData}{ps:List Str}(h:∀us:List Value,us.length=ps.length->bindArgs fd ⟨us,[]⟩=pure (ps.zip us)):Binds K fd ps []:=λs us _ hl=>by
 rw[de]at hl ⊢;exact .of_eq (h us hl)
def gb(CX:CXT)(X:Cx)(E:XK):Prop:=∀(pins:List (Addr×Obj))(Y:St)(H:Hp)(s:Shared)(e:Value)(s':Shared),Inv X pins Y H s->CX X.stack H s E e s'->X.xe e s'
section
variable {X:Cx} {CX:CXT} {k:Nat} {f C:Addr} {fd:FuncData} {ps:List Str} {sp:Sp} {dvs:List V} {ds:List Value} {E:XK} {x m:Str} {p pos apos:Pos} {e o:Expr} {es:List Expr} {ta:TE} {t:TA}
theorem Mp{pins:List (Addr×Obj)}{Y:St}{H:Hp}{s:Shared}{Q:VK}{us:List Value}{vs:List V}(F:FnOk X.prog X.w X.K X.mg X.base CX k f fd ps sp)(hr:Room k X.A)(hb:Binds X.K fd ps ds)(hd:Vals dvs ds)(hx:gb CX X E)
  (I:Inv X pins Y H s) (r:Vals vs us) (h:sp (vs++dvs) H Q E):↥X (call (.ref f) us) (EP X pins Y Q) X.xe s:=by
 have r2:Vals (vs++dvs) (us++ds):=r.append hd;have hl:(us++ds).length=ps.length:=by rw[<-r2.length];exact F.len _ _ _ _ h
 refine wpAny_call (codeAny_mono (F.run X.A X.stack s H ⟨us,[]⟩ (us++ds) (vs++dvs) Q E hr I.env0 (hb s us I.kIn hl) r2 h) λr s' hq=>?_);cases r with
 |error e=>exact hx pins Y H s e s' I hq
 |ok fl=>
  cases fl with
  |ret u=>exact I.after hq
  |next=>exact False.elim hq
  |brk=>exact False.elim hq
  |cont=>exact False.elim hq
theorem Mq(F:FnOk X.prog X.w X.K X.mg X.base CX k f fd ps sp)(hr:Room k X.A)(hg:Gl X x)(hm:X.mg x=some (.ref f))(hk:PySem.W.keepIn X.K (.ref f)=true)(hb:Binds X.K fd ps ds)(hd:Vals dvs ds)(hx:gb CX X E)
  (ha:PA X (e::es) t) (hdb:(x==("__debug__":Str))=false:=by decide) (he:starEach (e::es) X.env=(false,eval e X.env)::starEach es X.env:=by rfl) (hpl:(backTo pos (starEach es X.env)).any (·.1)=false:=by rfl):
  PE X (.Call (.Name x p) (e::es) [] pos) (Mm sp dvs E t):=by
 intro pins s Y H Q I h;refine fE (gP I hg hm ?_ hdb);refine PySem.W.callWith_K (h₀:=X.base) I.ok.mod.kin hk (thn (ha pos pins s Y H _ I h) λus s1 ⟨vs,H1,I1,r,q⟩=>⟨I1.kIn,?_⟩) he hpl;exact Mp F hr hb hd hx I1 r q
structure Mk(K:PF)(C f:Addr):Prop where
 makes:PySem.W.makesIn K C=true
 init:PySem.W.findIn K (.ref C) "__init__"=some (some (.ref f))
 fn:PySem.W.isFn K (.ref f)=true
 kp:PySem.W.keepIn K (.ref C)=true
end
structure FnScope(N P:List Str)(sc:Scope):Prop where
 kind:sc.kind=.function
 co:sc.isCoroutine=false
 gen:sc.isGenerator=false
 nd:N.Nodup
 pre:N.take P.length=P
 par:∀x∈P,sc.names.lookup x=some .local\/sc.names.lookup x=some .cell
 nofree:∀y∈sc.names,y.2≠.free
theorem yE{kindOf:Str->Option NameKind}{x:Str}:∀{binds:List (Str×Value)}{m:Str->Option Value},(∀v,(x,v)∉binds)->bindL kindOf binds m x=m x
 |[],_,_=>rfl
 | (n,v)::r,m,h=>by
  unfold bindL;rw[yE λw hw=>h w (a9 _ hw)];split
  ·have:x≠n:=by rintro rfl;exact h v bS
   simp[this]
  ·rfl
theorem yF{kindOf:Str->Option NameKind}{x:Str}:∀{binds:List (Str×Value)}{m:Str->Option Value},(∀v,(x,v)∉binds)->bindC kindOf binds m x=m x
 |[],_,_=>rfl
 | (n,v)::r,m,h=>by
  unfold bindC;rw[yF λw hw=>h w (a9 _ hw)];split
  ·rfl
  ·have:x≠n:=by rintro rfl;exact h v bS
   simp[this]
theorem yG{kindOf:Str->Option NameKind}{x:Str}{v:Value}:∀{P:List Str}{vs:List Value}{i:Nat}{m:Str->Option Value},P.Nodup->P[i]?=some x->vs[i]?=some v->kindOf x=some .local->
  bindL kindOf (P.zip vs) m x=some v
 |[],_,_,_,_,h,_,_=>by simp at h
 |_::_,[],_,_,_,_,h,_=>by simp at h
 |p::P,w::vs,0,m,nd,h1,h2,hk=>by
  simp at h1 h2;subst h1;subst h2;show bindL kindOf ((p,w)::P.zip vs) m p=_;unfold bindL;rw[yE λv hv=>(List.nodup_cons.mp nd).1 (List.of_mem_zip hv).1,if_pos hk];simp
 |p::P,w::vs,i+1,m,nd,h1,h2,hk=>by
  show bindL kindOf ((p,w)::P.zip vs) m x=_;unfold bindL;exact yG (i:=i) (List.nodup_cons.mp nd).2 (by simpa using h1) (by simpa using h2) hk
theorem yH{kindOf:Str->Option NameKind}{x:Str}{v:Value}:∀{P:List Str}{vs:List Value}{i:Nat}{m:Str->Option Value},P.Nodup->P[i]?=some x->vs[i]?=some v->kindOf x≠some .local->
  bindC kindOf (P.zip vs) m x=some v
 |[],_,_,_,_,h,_,_=>by simp at h
 |_::_,[],_,_,_,_,h,_=>by simp at h
 |p::P,w::vs,0,m,nd,h1,h2,hk=>by
  simp at h1 h2;subst h1;subst h2;show bindC kindOf ((p,w)::P.zip vs) m p=_;unfold bindC;rw[yF λv hv=>(List.nodup_cons.mp nd).1 (List.of_mem_zip hv).1,if_neg hk];simp
 |p::P,w::vs,i+1,m,nd,h1,h2,hk=>by
  show bindC kindOf ((p,w)::P.zip vs) m x=_;unfold bindC;exact yH (i:=i) (List.nodup_cons.mp nd).2 (by simpa using h1) (by simpa using h2) hk
def start(N:List Str)(vs:List V):St:=vs.map some++List.replicate (N.length - vs.length) none
def cU(CX:CXT)(P:Program)(w:World)(K:PF)(mg:Str->Option Value)(base:Heap)(N:List Str)(qual:Str)(scope:Scope)(f:Addr)(cd:Value)(A:Around)(outer:List Env)(s:Shared)(H:Hp)(E:XK):Cx where
 prog:=P
 w:=w
 K:=K
 mg:=mg
 base:=base
 A:=A.deeper (envOfC qual scope (~~~s) f cd)
 N:=N
 s₀:=s
 H₀:=H
 env:=envOfC qual scope (~~~s) f cd
 outer:=outer
 stack:=envOfC qual scope (~~~s) f cd::outer
 ex:=[]
 calm:=A.handled.isNone
 fn:=λ_=>true
 pn:=[]
 xe:=λe s'=>wpAny (model P w) (A.deeper (envOfC qual scope (~~~s) f cd)) (leaving (envOfC qual scope (~~~s) f cd) e) (λ_ s''=>CX outer H s E e s'') (λe' s''=>CX outer H s E e' s'') s'
theorem yI{sc:Scope}{n:Nat}{x:Str}(h:sc.names.lookup x=some .cell):∃c,(cellsFrom n sc.names []).lookup x=some c:=by have q:=PySem.W.cellsFrom_some sc.names n [] (.inl h);exact cp.mp q
theorem Mr{CX:CXT}{P:Program}{w:World}{K:PF}{mg:Str->Option Value}{base:Heap}{N ps:List Str}{qual:Str}{scope:Scope}{f:Addr}{cd:Value}{A:Around}{outer:List Env}{s s1:Shared}{H:Hp}{E:XK}{us:List Value}{vs:List V}
  (S:FnScope N ps scope) (e0:Env0 P w K mg base A outer s H) (hl:vs.length=ps.length) (r:Vals vs us)
  (x:InCallC s (~~~s) (bindL (envOfC qual scope (~~~s) f cd).kindOf (ps.zip us) λ_=>none) (cellsFrom ((~~~s)+1) scope.names []) (bindC (envOfC qual scope (~~~s) f cd).kindOf (ps.zip us) λ_=>none) s1):
  Inv (cU CX P w K mg base N qual scope f cd A outer s H E) [] (start N vs) H s1:=by
 have hpl:ps.length<=N.length:=by have:=ez List.length S.pre;rw[List.length_take]at this;omega
 obtain ⟨h1,tk,rfl,hk⟩:=x.done;have noA:∀b:Addr,b∉(cU CX P w K mg base N qual scope f cd A outer s H E).ex:=λb z=>absurd (show b∈([]:List Addr) from z) (by simp);refine ⟨⟨e0.mod,S.kind,rfl,rfl,am _,λy z c h1 h2=>?_,λy hy=>?_,λy c _ h=>?_,λz=>show A.handled=none from b9.mp z,Around.frames_deeper e0.frames,.inr ⟨rfl,rfl⟩,λb z=>absurd z (noA b),e0.bs,e0.bsz,λb _ _=>noA b,λb z=>absurd z (noA b),e0.funs,e0.frf⟩,
  rfl,e0.bare,Un.kept hk,⟨_,x.toInCall.ns,λi y v h1 h2 h3=>?_⟩,λy c h=>⟨_,x.cell y c h⟩,e0.hok.fresh (am _),λy c h=>?_,λp hp=>absurd (show p∈([]:List (Addr×Obj)) from hp) (by simp),e0.hok.kept hk,?_⟩
 ·exact name_of_addr x.apart (dy h1) (dy h2)
 ·have hy:scope.names.lookup y=some .cell\/scope.names.lookup y=some .free:=hy;rcases hy with hy |hy
  ·exact yI hy
  ·exact absurd rfl (S.nofree _ (dy hy))
 ·exact Nat.le_of_lt (x.above y c (dy h))
 ·have hi:i < vs.length:=by
   unfold start at h2;by_cases hi:i < vs.length
   ·exact hi
   ·rw[List.getElem?_append_right (by simpa using hi)]at h2;rw[List.getElem?_replicate]at h2;split at h2 <;> cases h2
  have ha:vs[i]?=some v:=by
   unfold start at h2;rw[List.getElem?_append_left (by simpa using hi),cr]at h2;cases e:vs[i]? with
   |none=>rw[e]at h2;cases h2
   |some a=>rw[e]at h2;cases h2;rfl
  obtain ⟨u,hu,rv⟩:=r.get ha;have hp:ps[i]?=some y:=by rw[<-S.pre,List.getElem?_take_of_lt (by omega)];exact h1
  have ndP:ps.Nodup:=by rw[<-S.pre];exact S.nd.sublist (List.take_sublist _ _)
  refine ⟨u,rv,?_⟩;rcases S.par y (c8 hp) with k |k
  ·exact .inl ⟨k,yG ndP hp hu k⟩
  ·obtain ⟨c,e⟩:=yI (n:=(~~~s)+1) k;refine .inr ⟨.inl k,c,e,?_⟩;have q:=x.cell y c e;rw[yH ndP hp hu (by show scope.names.lookup y≠_;rw[k];decide)]at q;exact q
 ·exact e0.hok.fresh (Nat.le_of_lt (x.above y c (dy h)))
 ·unfold start;show _=N.length;rw[aw,ah,List.length_replicate];omega
theorem Ms{CX:CXT}{P:Program}{w:World}{K:PF}{mg:Str->Option Value}{base:Heap}{k:Nat}{f:Addr}{name qual:Str}{params:Arguments}{body:List Stmt}{scope:Scope}{dV kV doc pm cdv ct oc:Value}{an od:Option Addr}
  {osl:Array (Option Value)} {N ps:List Str} {sp:Sp} (lk:K.lookup f=some ⟨oc,od,.func (PySem.W.fnOf name qual params body scope dV kV doc pm an cdv ct),osl⟩) (hcd:PySem.W.codeIn K cdv qual=true) (S:FnScope N ps scope)
  (len:∀vs H Q E,sp vs H Q E->vs.length=ps.length)
  (hbody:∀(A:Around)(outer:List Env)(s:Shared)(H:Hp)(vs:List V)(Q:VK)(E:XK),Room k (A.deeper (envOfC qual scope (~~~s) f cdv))->sp vs H Q E->
   ∃t,PSs (cU CX P w K mg base N qual scope f cdv A outer s H E) body t/\t { nx:=λ_ H'=>Q .non H',rt:=Q } (start N vs) H):
  FnOk P w K mg base CX (k+1) f (PySem.W.fnOf name qual params body scope dV kV doc pm an cdv ct) ps sp:=by
 refine ⟨len,λA outer s H args us vs Q E hr e0 hb r hsp=>?_⟩;have hl:=len _ _ _ _ hsp;have KX:K.In s.heap:=e0.mod.kin.keeps λb o e=>(e0.bs b o e).1;have lim:s.heap.NoLimit:=e0.mod.nolimit.keeps λb o e=>(e0.bs b o e).1;have hkind:∀y∈ps.zip us,scope.names.lookup y.1=some .local\/(scope.names.lookup y.1=some .cell/\((cellsFrom ((~~~s)+1) scope.names []).lookup y.1).isSome=true):=λ⟨n,v⟩ hy=>by
  rcases S.par n (List.of_mem_zip hy).1 with q |q
  ·exact .inl q
  ·exact .inr ⟨q,PySem.W.cellsFrom_some _ _ _ (.inl q)⟩
 refine codeAny_call_function hr.depth (KX _ _ lk) rfl S.co S.gen rfl (PySem.W.codeRec_of KX hcd) (hb _ _ _ _ ?_);refine wpAny_newFunctionEnv_cells S.kind hkind λenv he s1 x=>?_;subst he;refine ⟨lim.keeps x.toInCall.keep,codeAny_func ?_⟩;obtain ⟨t,ht,hq⟩:=hbody A outer s H vs Q E (hr.deeper _) hsp;have I:Inv (cU CX P w K mg base N qual scope f cdv A outer s H E) [] (start N vs) H s1:=Mr S e0 hl r x;refine bb (ht [] s1 (start N vs) H _ I hq) (λfl s' hs=>?_) λe s' hs=>hs;have fin:∀{σ':St}{H':Hp}{v:V}{u:Value},Inv (cU CX P w K mg base N qual scope f cdv A outer s H E) [] σ' H' s'->RelV v u->Q v H'->CE outer P w H s Q u s':=
  λ{σ' H' v u} J rv q=>⟨v,H',J.os,J.bare,J.base,J.hok,rv,q⟩
 cases fl with
 |ret u=>
  obtain ⟨v,σ',H',J,rv,q⟩:=hs;exact fin J rv q
 |next=>
  obtain ⟨σ',H',J,q⟩:=hs;exact fin (v:=V.non) (u:=Value.none) J rfl q
 |brk=>
  obtain ⟨_,_,_,q⟩:=hs;exact False.elim q
 |cont=>
  obtain ⟨_,_,_,q⟩:=hs;exact False.elim q
section
variable {X:Cx} {x:Str} {p pos:Pos} {e:Expr} {es:List Expr} {t:TA} {id T:String} {r:List V->Hp->VK->Prop}
def tCB(r:List V->Hp->VK->Prop)(t:TA):TE:=λY H Q=>t Y H λvs H1=>r vs H1 Q
theorem nY (hc:bN X (.builtin id) r) (hg:Gl X x) (hm:X.mg x=none) (hv:bootBuiltins x=some (.builtin id)) (ha:PA X (e::es) t) (hn:x≠"__name__":=by decide) (hdb:(x==("__debug__":Str))=false:=by decide)
  (he:starEach (e::es) X.env=(false,eval e X.env)::starEach es X.env:=by rfl) (hpl:(backTo pos (starEach es X.env)).any (·.1)=false:=by rfl):PE X (.Call (.Name x p) (e::es) [] pos) (tCB r t):=by
 intro pins s Y H Q I h;refine fE (fZ I hg hm hv ?_ hn hdb);exact PyProof.Rows.callWith_builtin1 (thn (ha pos pins s Y H _ I h) λus s1 ⟨vs,H1,I1,r1,q1⟩=>hc pins s1 Y H1 vs us Q I1 r1 q1) he hpl
theorem nZ (hc:bN X (.type T) r) (hg:Gl X x) (hm:X.mg x=none) (hv:bootBuiltins x=some (.type T)) (ha:PA X (e::es) t) (hn:x≠"__name__":=by decide) (hdb:(x==("__debug__":Str))=false:=by decide)
  (he:starEach (e::es) X.env=(false,eval e X.env)::starEach es X.env:=by rfl) (hpl:(backTo pos (starEach es X.env)).any (·.1)=false:=by rfl):PE X (.Call (.Name x p) (e::es) [] pos) (tCB r t):=by
 intro pins s Y H Q I h;refine fE (fZ I hg hm hv ?_ hn hdb);exact dS (thn (ha pos pins s Y H _ I h) λus s1 ⟨vs,H1,I1,r1,q1⟩=>hc pins s1 Y H1 vs us Q I1 r1 q1) he hpl
end
end L2
namespace HT
open PySem PyProof.Rows
section
variable {prog:Program} {w:World} {A:Around} {E:Value->Shared->Prop} {s:Shared}
theorem Mt{t b:Addr}{vs ws:List Value}{Q:Value->Shared->Prop}(ht:IsTup s.heap t vs.toArray)(hb:IsTup s.heap b ws.toArray)(hv:vs≠[])
  (h1:ws=[]->Q (.ref t) s) (h2:ws≠[]->Q (.ref (~~~s)) { s with heap:=s.heap.push { cls:=.type "tuple",data:=.seq (vs++ws).toArray } })
  (hsz:vs.length+ws.length<=sizeLine):wpAny (model prog w) A (binaryOp .Add (.ref t) (.ref b)) Q E s:=by
 obtain ⟨⟨cls,dd,data,sl⟩,ho,hc,n,hd⟩:=id ht;obtain ⟨⟨cls2,dd2,data2,sl2⟩,ho2,hc2,n2,hd2⟩:=id hb;simp only at hc hd hc2 hd2;subst hc hd hc2 hd2;have e:vs.toArray++ws.toArray=(vs++ws).toArray:=by simp
 by_cases hw:ws=[]
 ·exact concat_meets ⟨_,ho,rfl⟩ ⟨_,ho2,rfl⟩ noFill_tuple_add seq_tuple_add PySem.F.slot_tuple_add PySem.F.entry_tuple_add (PySem.F.args_tuple_add_2 _ _)
   (tuple_addW1 t b vs.toArray ws.toArray n n2 dd dd2 sl sl2 (by simpa using hv) (by simp[hw])) ⟨ho,ho2,h1 hw⟩
 ·refine concat_meets ⟨_,ho,rfl⟩ ⟨_,ho2,rfl⟩ noFill_tuple_add seq_tuple_add PySem.F.slot_tuple_add PySem.F.entry_tuple_add (PySem.F.args_tuple_add_2 _ _)
   (tuple_addW2 t b vs.toArray ws.toArray n n2 dd dd2 sl sl2 (by simpa using hv) (by simpa using hw) (by rw[List.size_toArray,List.size_toArray];exact hsz)) ⟨ho,ho2,?_⟩
  rw[e];exact h2 hw
def sIx(n d:Nat):Option Int->Nat
 |none=>d
 |some v=>if v < 0 then (v+(n:Int)).toNat else min v.toNat n
theorem yJ(n d k:Nat):sIx n d (some (k:Int))=min k n:=by show (if (k:Int) < 0 then ((k:Int)+(n:Int)).toNat else min (k:Int).toNat n)=min k n;rw[if_neg (by omega),Int.toNat_natCast]
theorem yK(n d:Nat)(hd:d<=n)(o:Option Int):sIx n d o<=n:=by
 cases o with
 |none=>exact hd
 |some v=>
  show (if v < 0 then (v+(n:Int)).toNat else min v.toNat n)<=n;by_cases hv:v < 0
  ·rw[if_pos hv];omega
  ·rw[if_neg hv];exact Nat.min_le_right _ _
theorem yL(v:Int)(n d:Nat):(if v < 0 then max (v+(n:Int)) 0 else min v (n:Int))=((sIx n d (some v):Nat):Int):=by
 show (if v < 0 then max (v+(n:Int)) 0 else min v (n:Int))=(((if v < 0 then (v+(n:Int)).toNat else min v.toNat n):Nat):Int);by_cases hv:v < 0
 ·simp only[if_pos hv];omega
 ·simp only[if_neg hv];omega
theorem Mu(lo hi:Option Int)(n:Nat):Builtin.Slice.sliceAdjust lo hi 1 (n:Int)=(((sIx n 0 lo:Nat):Int),((sIx n n hi:Nat):Int)):=by
 have h1:¬((1:Int) < 0):=by omega
 unfold Builtin.Slice.sliceAdjust;simp only[h1,if_false];refine Prod.ext ?_ ?_
 ·cases lo with
  |none=>rfl
  |some v=>exact yL v n 0
 ·cases hi with
  |none=>rfl
  |some v=>exact yL v n n
theorem Mv(i j:Nat):Builtin.Slice.slicePlaces (i:Int) (j:Int) 1=j - i:=by
 unfold Builtin.Slice.slicePlaces;have h1:(1:Int) > 0:=by omega
 simp only[h1,if_true,Int.ediv_one];split <;> omega
theorem jL{v:Value}{o:Option Int}{Q:Option Int->Shared->Prop}(p:IsPart v o)(h:Q o s):wpAny (model prog w) A (Builtin.Slice.slicePartIndex v) Q E s:=by
 cases p with
 |none=>exact slicePart_none h
 |int i t=>exact slicePart_int h
theorem yM{sl:Addr}{vl vu:Value}{lo hi:Option Int}{n:Nat}{Q:Int×Int×Nat->Shared->Prop}(hs:s.heap.IsSliceOf sl vl vu .none)(pl:IsPart vl lo)(pu:IsPart vu hi)
  (h:Q (((sIx n 0 lo:Nat):Int),1,sIx n n hi - sIx n 0 lo) s):wpAny (model prog w) A (Builtin.Slice.sliceApplied (.ref sl) (pure (n:Int))) Q E s:=by
 obtain ⟨os,hos,hcs,hds⟩:=id hs;unfold Builtin.Slice.sliceApplied Builtin.Slice.sliceFields;refine wpAny_bind (wpAny_bind (wpAny_field hos hds (x:=vl) rfl (wpAny_bind (wpAny_field hos hds (x:=vu) rfl (wpAny_bind (wpAny_field hos hds (x:=.none) rfl (wpAny_pure ?_)))))));refine wpAny_bind (slicePart_none ?_);show wpAny _ _ (if ((1:Int)==0)=true then _ else _) _ _ s;rw[if_neg (by decide)];refine wpAny_bind (jL pl (wpAny_bind (jL pu (wpAny_bind (wpAny_pure ?_)))));show wpAny _ _ (match Builtin.Slice.sliceAdjust lo hi 1 (n:Int) with | (lo,hi)=>pure (lo,(1:Int),Builtin.Slice.slicePlaces lo hi 1)) _ _ s;rw[Mu lo hi n];show wpAny _ _ (pure (((sIx n 0 lo:Nat):Int),(1:Int),Builtin.Slice.slicePlaces ((sIx n 0 lo:Nat):Int) ((sIx n n hi:Nat):Int) 1)) _ _ s;rw[Mv];exact wpAny_pure h
theorem Mw(xs:Array Value)(i k:Nat):((List.range k).filterMap λ(m:Nat)=>xs[((i:Int)+(m:Int) * 1).toNat]?).toArray=((xs.toList.drop i).take k).toArray:=by
 have e:(λ(m:Nat)=>xs[((i:Int)+(m:Int) * 1).toNat]?)=λm=>xs[i+m]?:=by
  funext m;have:((i:Int)+(m:Int) * 1).toNat=i+m:=by omega
  rw[this]
 rw[e];have:=pick_run xs i k;rw[List.filterMap_map]at this;have e2:((λx=>xs[x]?)∘λx=>i+x)=λm=>xs[i+m]?:=rfl;rw[e2]at this;rw[this]
theorem Mx{t sl:Addr}{items:Array Value}{vl vu:Value}{lo hi:Option Int}{Q:Value->Shared->Prop}(ht:IsTup s.heap t items)(hs:s.heap.IsSliceOf sl vl vu .none)(pl:IsPart vl lo)(pu:IsPart vu hi)
  (hw:¬(sIx items.size 0 lo=0/\sIx items.size items.size hi=items.size))
  (h:Q (.ref (~~~s)) { s with heap:=s.heap.push { cls:=.type "tuple",data:=.seq ((items.toList.drop (sIx items.size 0 lo)).take (sIx items.size items.size hi - sIx items.size 0 lo)).toArray } })
  (hsz:items.size<=sizeLine):wpAny (model prog w) A (getItem (.ref t) (.ref sl)) Q E s:=by
 have htake:sizeOk (.seq ((items.toList.drop (sIx items.size 0 lo)).take (sIx items.size items.size hi - sIx items.size 0 lo)).toArray):=by show ((items.toList.drop (sIx items.size 0 lo)).take (sIx items.size items.size hi - sIx items.size 0 lo)).toArray.size<=sizeLine;rw[List.size_toArray,List.length_take,List.length_drop,Array.length_toList];omega
 have hj:sIx items.size items.size hi<=items.size:=yK _ _ (Nat.le_refl _) hi;obtain ⟨os,hos,hcs,hds⟩:=id hs;have hTs:s.TypeIs (.ref sl) "slice":=⟨os,hos,hcs⟩;unfold getItem;try with_reducible refine wpAny_holding ?_
 first |refine wpAny_bind (wpAny_pure ?_) |skip
 refine wpAny_bind (wpAny_sequenceKey ht.typeIs (by decide) ?_);refine wpAny_bind (wpAny_callSpecial?_slot (name:=Str.ofString "__getitem__") ht.typeIs PyProof.Rows.slot_tuple_getitem
  (wpAny_call_entry PyProof.Rows.slot_tuple_getitem ht.typeIs entry_tuple_getitem ?_ (args_tuple_getitem _ _)))
 show wpAny _ _ (Builtin.Tuple.tupleItemsOf (.ref t) >>= _) _ _ s;refine wpAny_bind (tupleItemsOf_ ht ?_);refine wpAny_bind (wpAny_typeOf hTs ?_);rw[if_pos (by decide)];refine wpAny_bind (yM hs pl pu ?_);have hno:¬((((sIx items.size 0 lo:Nat):Int)==0&&(1:Int)==1&&(sIx items.size items.size hi - sIx items.size 0 lo)==items.size)=true):=by intro q;rw[Bool.and_eq_true,Bool.and_eq_true]at q;have q1:((sIx items.size 0 lo:Nat):Int)=0:=eq_of_beq q.1.1;have q2:sIx items.size items.size hi - sIx items.size 0 lo=items.size:=eq_of_beq q.2;exact hw ⟨by omega,by omega⟩
 show wpAny _ _ (if (((sIx items.size 0 lo:Nat):Int)==0&&(1:Int)==1&&(sIx items.size items.size hi - sIx items.size 0 lo)==items.size)=true then _ else _) _ _ s;rw[if_neg hno,Mw];first
  |exact wpAny_bind (m:=Builtin.Tuple.tupleExact _) (wpAny_newObj_type (wpAny_pure ⟨_,rfl,wpAny_pure h⟩) htake)
  |exact wpAny_bind (m:=Builtin.Tuple.tupleExact _) (wpAny_newObj_type (wpAny_bind (wpAny_pure (wpAny_pure ⟨_,rfl,wpAny_pure h⟩))) htake)
  |exact wpAny_bind (wpAny_bind (m:=Builtin.Tuple.tupleExact _) (wpAny_newObj_type (wpAny_pure (wpAny_pure ⟨_,rfl,wpAny_pure h⟩)) htake))
  |exact wpAny_bind (wpAny_bind (m:=Builtin.Tuple.tupleExact _) (wpAny_newObj_type (wpAny_pure ⟨_,rfl,wpAny_pure h⟩) htake))
end
end HT
namespace L2
open PySem PySem.Spec PyProof.Rows
abbrev TO:=St->Hp->(Option Int->Hp->Prop)->Prop
def PO(X:Cx)(e:Option Expr)(t:TO):Prop:=
 ∀(pins:List (Addr×Obj))(s:Shared)(Y:St)(H:Hp)(Q:Option Int->Hp->Prop),Inv X pins Y H s->t Y H Q->
  ↥X (evalPart e X.env) (λu s'=>∃o H',Inv X pins Y H' s'/\IsPart u o/\Q o H') X.xe s
def My:TO:=λ_ H Q=>Q none H
def Mz(t:TE):TO:=λY H Q=>t Y H λx H1=>∃i,x=.int i/\Q (some i) H1
theorem intsAre_of{ns:List Int}:∀{us:List Value},Vals (ns.map V.int) us->IntsAre us ns:=by
 induction ns with
 |nil=>intro us r;rw[List.map_nil]at r;cases r;exact .nil
 |cons n ns ih=>
  intro us r;rw[ci]at r;cases r with
  |cons r1 r2=>
   obtain ⟨t,e⟩:=r1;subst e;exact .cons n t (ih r2)
section
variable {X:Cx} {e:Expr} {te:TE} {lo hi:Option Expr} {tl th:TO} {pos p2:Pos}
theorem rM:PO X none My:=by intro pins s Y H Q I h;rw[evalPart_none];exact av ⟨none,H,I,.none,h⟩
theorem MF(h:PE X e te):PO X (some e) (Mz te):=by intro pins s Y H Q I hw;rw[evalPart_some];refine thn (h pins s Y H _ I hw) λu s1 ⟨x,H1,I1,r1,q1⟩=>?_;obtain ⟨i,rfl,q⟩:=q1;obtain ⟨t,rfl⟩:=r1;exact ⟨some i,H1,I1,.int i t,q⟩
def SlR(X:Cx)(r:V->Option Int->Option Int->Hp->VK->Prop):Prop:=
 ∀(pins:List (Addr×Obj))(s:Shared)(Y:St)(H:Hp)(x:V)(v vl vu:Value)(lo hi:Option Int)(sl:Addr)(Q:VK),Inv X pins Y H s->RelV x v->s.heap.IsSliceOf sl vl vu .none->IsPart vl lo->IsPart vu hi->r x lo hi H Q->
  ∃T id,typeLookup (.type T) "__getitem__"=pure (some (.builtin id))/\s.TypeIs v T/\↥X (getItem v (.ref sl)) (EP X pins Y Q) X.xe s
def tSl(r:V->Option Int->Option Int->Hp->VK->Prop)(te:TE)(tl th:TO):TE:=λY H Q=>te Y H λx H1=>tl Y H1 λl H2=>th Y H2 λu H3=>r x l u H3 Q
theorem MJ{r:V->Option Int->Option Int->Hp->VK->Prop}(hr:SlR X r)(he:PE X e te)(hl:PO X lo tl)(hu:PO X hi th):PE X (.Subscript e (.Slice lo hi none p2) pos) (tSl r te tl th):=by intro pins s Y H Q I h;refine Subscript_ (thn (he pins s Y H _ I h) λv s1 ⟨x,H1,I1,r1,q1⟩=>?_);refine wpAny_Slice (thn (hl pins s1 Y H1 _ I1 q1) λvl s2 ⟨l,H2,I2,pl,q2⟩=>thn (hu pins s2 Y H2 _ I2 q2) λvu s3 ⟨u,H3,I3,pu,q3⟩=>?_);rw[evalPart_none];refine av ?_;have I4:Inv X pins Y H3 { s3 with heap:=s3.heap.push { cls:=.type "slice",data:=.fields #[vl,vu,.none] } }:=I3.kept (t':=s3.toks) λb ob q=>ag _ q;obtain ⟨T,id,hT,ht,hg⟩:=hr pins { s3 with heap:=s3.heap.push { cls:=.type "slice",data:=.fields #[vl,vu,.none] } } Y H3 x v vl vu l u s3.heap.objs.size Q I4 r1 (Heap.IsSliceOf.new ..) pl pu q3;show ↥X (subscriptTail e (.Slice lo hi none p2) v (.ref s3.heap.objs.size)) (EP X pins Y Q) X.xe { s3 with heap:=s3.heap.push { cls:=.type "slice",data:=.fields #[vl,vu,.none] } };exact tail_any (ops:=[.ref s3.heap.objs.size,v]) ht hT hg (by with_unfolding_all rfl)
def dJ(xs:List V)(lo hi:Option Int):List V:=(xs.drop (HT.sIx xs.length 0 lo)).take (HT.sIx xs.length xs.length hi - HT.sIx xs.length 0 lo)
theorem yN(xs:List V)(lo hi:Option Int):(dJ xs lo hi).length<=xs.length:=by unfold dJ;rw[List.length_take,fh];omega
def MK(K:PF):V->Option Int->Option Int->Hp->VK->Prop:=λx lo hi H Q=>∃a xs,x=.ref a/\SqT K H a xs/\
 ¬(HT.sIx xs.length 0 lo=0/\HT.sIx xs.length xs.length hi=xs.length)/\∀p,H p=none->Q (.ref p) (upd H p (.tup (dJ xs lo hi)))
theorem MN:SlR X (MK X.K):=by
 intro pins s Y H x v vl vu lo hi sl Q I rx hs pl pu h;obtain ⟨a,xs,rfl,hx,hw,q⟩:=h;cases rx;obtain ⟨its,r,ht,hz⟩:=I.tuple hx;have hlen:its.toArray.size=xs.length:=by rw[ap];exact r.length.symm
 refine ⟨"tuple",_,cq.lookup,ht.typeIs,?_⟩;refine HT.Mx ht hs pl pu (by rw[hlen];exact hw) ?_ (by rw[hlen];exact hz);rw[hlen];refine ⟨.ref (~~~s),_,I.laid (t':=s.toks) (o:=.tup (dJ xs lo hi)) (λb ob q=>ag _ q) (am _) ?_,rfl,q _ (I.hok.fresh (am _))⟩;exact ⟨bi (yN xs lo hi) hz,_,(r.drop (HT.sIx xs.length 0 lo)).take (HT.sIx xs.length xs.length hi - HT.sIx xs.length 0 lo),IsTup.new _ _⟩
def MP(K:PF):R2:=λx y H Q=>∃a b xs ys,x=.ref a/\y=.ref b/\SqT K H a xs/\SqT K H b ys/\xs≠[]/\xs.length+ys.length<=sizeLine/\
 (ys=[]->Q (.ref a) H)/\(ys≠[]->∀p,H p=none->Q (.ref p) (upd H p (.tup (xs++ys))))
theorem Vals.nil_iff{xs:List V}{us:List Value}(r:Vals xs us):us=[]↔xs=[]:=by
 cases r with
 |nil=>simp
 |cons _ _=>simp
theorem MT:OpR X (binaryOp .Add) (MP X.K):=by intro pins s Y H x y v u Q I rx ry h;obtain ⟨a,b,xs,ys,rfl,rfl,ha,hb,hx,hz,q1,q2⟩:=h;cases rx;cases ry;obtain ⟨its,r1,p1,_⟩:=I.tuple ha;obtain ⟨its2,r2,p2,_⟩:=I.tuple hb;refine HT.Mt p1 p2 (λz=>hx (r1.nil_iff.mp z)) (λz=>⟨.ref a,H,I,rfl,q1 (r2.nil_iff.mp z)⟩) (λz=>?_) (by rw[<-r1.length,<-r2.length];exact hz);refine ⟨.ref (~~~s),_,I.laid (t':=s.toks) (o:=.tup (xs++ys)) (λb ob q=>ag _ q) (am _) ?_,rfl,q2 (λw=>z (r2.nil_iff.mpr w)) _ (I.hok.fresh (am _))⟩;exact ⟨by rw[aw];exact hz,_,r1.append r2,IsTup.new _ _⟩
end
def ixN(n:Nat)(i:Int):Option Nat:=if 0<=i then (if i < n then some i.toNat else none) else if -(n:Int)<=i then some (i+n).toNat else none
def atI{α:Type}(xs:List α)(i:Int):Option α:=(ixN xs.length i).bind λj=>xs[j]?
theorem yO{n:Nat}{i:Int}{j:Nat}(h:ixN n i=some j):seqIndex? i n=some j/\j < n/\-(n:Int)<=i/\i < n:=by
 unfold ixN at h;by_cases h0:0<=i
 ·rw[if_pos h0]at h;by_cases h1:i < n
  ·rw[if_pos h1]at h;have e:i.toNat=j:=c9 h;exact ⟨by rw[seqIndex_of h0 h1,e],by omega,by omega,h1⟩
  ·rw[if_neg h1]at h;cases h
 ·rw[if_neg h0]at h;by_cases h1:-(n:Int)<=i
  ·rw[if_pos h1]at h;have e:(i+n).toNat=j:=c9 h;exact ⟨by rw[seqIndex_neg (by omega) h1,e],by omega,h1,by omega⟩
  ·rw[if_neg h1]at h;cases h
theorem rN{α:Type}{xs:List α}{i:Int}{v:α}(h:atI xs i=some v):∃j,seqIndex? i xs.length=some j/\xs[j]?=some v/\j < xs.length/\-(xs.length:Int)<=i/\i < xs.length:=by
 unfold atI at h;cases e:ixN xs.length i with
 |none=>rw[e]at h;cases h
 |some j=>
  rw[e]at h;obtain ⟨h1,h2,h3,h4⟩:=yO e;exact ⟨j,h1,h,h2,h3,h4⟩
theorem dM{α:Type}{xs:List α}{j:Nat}{v:α}(h:xs[j]?=some v):atI xs (j:Int)=some v:=by
 have hj:j < xs.length:=(bd.mp h).1;have e:ixN xs.length (j:Int)=some j:=by unfold ixN;rw[if_pos (by omega),if_pos (by omega)];simp
 unfold atI;rw[e];exact h
theorem rO{α:Type}(xs:List α)(v:α):atI (xs++[v]) (-1)=some v:=by
 have hl:(xs++[v]).length=xs.length+1:=by simp
 have e:ixN (xs++[v]).length (-1)=some xs.length:=by unfold ixN;rw[hl,if_neg (by decide),if_pos (by omega)];congr 1;omega
 unfold atI;rw[e];show (xs++[v])[xs.length]?=some v;simp
def yP(b:Expr):Prop:=∀o i,subscripted b false o i=operate [o,i] (getItem o i)
def IxR(X:Cx)(r:R2):Prop:=
 ∀(value slice:Expr)(pins:List (Addr×Obj))(s:Shared)(Y:St)(H:Hp)(x y:V)(v u:Value)(Q:VK),Inv X pins Y H s->RelV x v->RelV y u->r x y H Q->
  subscripted slice false v u=operate [v,u] (getItem v u)->↥X (subscriptTail value slice v u) (EP X pins Y Q) X.xe s
def MtR(X:Cx)(id:String)(r:V->List V->Hp->VK->Prop):Prop:=
 ∀(pins:List (Addr×Obj))(s:Shared)(Y:St)(H:Hp)(x:V)(xs:List V)(v:Value)(us:List Value)(Q:VK),Inv X pins Y H s->RelV x v->Vals xs us->r x xs H Q->
  ↥X (call (.builtin id) (v::us)) (EP X pins Y Q) X.xe s
section
variable {X:Cx} {a b:Expr} {ta tb:TE} {pos:Pos}
theorem M3{r:R2}(hr:IxR X r)(ha:PE X a ta)(hb:PE X b tb)(hs:yP b):PE X (.Subscript a b pos) (tOp r ta tb):=by intro pins s Y H Q I h;exact Subscript_ (rJ ha hb I h λv u s2 x y H2 I2 rx ry q=>hr a b pins s2 Y H2 x y v u Q I2 rx ry q (hs _ _))
def M4(K:PF):R2:=λx y H Q=>∃p xs i v,x=.ref p/\y=.int i/\SqL K H p xs/\atI xs i=some v/\Q v H
def M5(K:PF):R2:=λx y H Q=>∃p xs i v,x=.ref p/\y=.int i/\SqT K H p xs/\atI xs i=some v/\Q v H
def M6:R2:=λx y H Q=>∃z i c,x=.str z/\y=.int i/\z.length<=sizeLine/\atI z.cps.toList i=some c/\Q (.str ⟨#[c]⟩) H
theorem M7:IxR X (M4 X.K):=by
 intro value slice pins s Y H x y v u Q I rx ry h hs;obtain ⟨p,xs,i,z,rfl,rfl,hq,he,q⟩:=h;cases rx;obtain ⟨t,rfl⟩:=ry;obtain ⟨its,r,pl,hz⟩:=I.list hq;obtain ⟨j,h1,h2,h3,h4,h5⟩:=rN he;obtain ⟨w,ew,rw'⟩:=r.get h2;have hl:=r.length;have hn:=gQ;have fin:EP X pins Y Q w s:=⟨z,H,I,rw',q⟩;by_cases h0:0<=i
 ·have hj:i.toNat=j:=by
   rw[seqIndex_of h0 h5]at h1;exact c9 h1
  exact item_listR pl.isList h0 (by omega) (by rw[hj];simpa using ew) fin hs
 ·have hj:(i+(its.toArray.size:Int)).toNat=j:=by
   rw[seqIndex_neg (by omega) h4]at h1;rw[ap,<-hl];exact c9 h1
  exact subscriptTail_builtinR (x:=w) pl.isList.typeIs slot_list_getitem.lookup
   (wpAny_getItem_list_neg (Q:=λr s'=>r=w/\EP X pins Y Q r s') pl.isList (by omega) (by rw[ap] <;> omega) (by omega) (by rw[hj];simpa using ew) ⟨rfl,fin⟩) hs
theorem M8:IxR X (M5 X.K):=by
 intro value slice pins s Y H x y v u Q I rx ry h hs;obtain ⟨p,xs,i,z,rfl,rfl,hq,he,q⟩:=h;cases rx;obtain ⟨t,rfl⟩:=ry;obtain ⟨its,r,pl,hz⟩:=I.tuple hq;obtain ⟨j,h1,h2,h3,h4,h5⟩:=rN he;obtain ⟨w,ew,rw'⟩:=r.get h2;have hl:=r.length;have hn:=gQ;have fin:EP X pins Y Q w s:=⟨z,H,I,rw',q⟩;exact subscriptTail_builtinR (x:=w) pl.typeIs slot_tuple_getitem.lookup
  (getItem_tuple (j:=j) (Q:=λr s'=>r=w/\EP X pins Y Q r s') pl (by omega) (by omega) (by rw[ap,<-hl];exact h1) (by simpa using ew) ⟨rfl,fin⟩) hs
theorem M9:IxR X M6:=by
 intro value slice pins s Y H x y v u Q I rx ry h hs;obtain ⟨z,i,c,rfl,rfl,hz,he,q⟩:=h;obtain ⟨t,rfl⟩:=rx;obtain ⟨t',rfl⟩:=ry;obtain ⟨j,h1,h2,h3,h4,h5⟩:=rN he;have hl:z.cps.toList.length=z.length:=by simp[Str.length]
 rw[hl]at h1 h4 h5;have hn:=gQ;exact tail_any (typeIs_str s z t) slot_str_getitem.lookup (getItem_str (c:=c) (by
  have e1:decide (i < -(2 ^ 63:Int))=false:=ba (by omega);have e2:decide (i≥2 ^ 63)=false:=ba (by omega);rw[e1,e2,Bool.or_false]) (by rw[h1];simpa using h2) ⟨.str ⟨#[c]⟩,H,I.tok _,⟨_,rfl⟩,q⟩) hs
theorem Nb (its:List Value) (n j:Nat) (u:Value):Obj.mapSeq (·.setIfInBounds j u) { cls:=.type "list",data:=.seq its.toArray n }={ cls:=.type "list",data:=.seq (its.set j u).toArray n }:=by simp[Obj.mapSeq]
theorem Inv.lst{pins:List (Addr×Obj)}{Y:St}{H:Hp}{s:Shared}{p:Addr}{xs:List V}(I:Inv X pins Y H s)(h:H p=some (.lst xs)):
  ∃(its:List Value) (n:Nat),Vals xs its/\s.heap.get? p=some { cls:=.type "list",data:=.seq its.toArray n }/\xs.length<=sizeLine:=by
 obtain ⟨z,its,n,r,e⟩:=I.hok p _ h;exact ⟨its,n,r,e,z⟩
theorem Inv.lstUpd{pins:List (Addr×Obj)}{Y:St}{H:Hp}{s:Shared}{p:Addr}{xs ys:List V}{its its':List Value}{n n':Nat}{f:Obj->Obj}(I:Inv X pins Y H s)(h:H p=some (.lst xs))
  (ho:s.heap.get? p=some { cls:=.type "list",data:=.seq its.toArray n }) (hf:f { cls:=.type "list",data:=.seq its.toArray n }={ cls:=.type "list",data:=.seq its'.toArray n' }) (r:Vals ys its') (hz:ys.length<=sizeLine) (t:Nat):
  Inv X pins Y (upd H p (.lst ys)) { s with heap:=s.heap.update p f,toks:=t }:=by
 have e:(s.heap.update p f).get? p=some { cls:=.type "list",data:=.seq its'.toArray n' }:=by rw[fR f ho (by rw[hf] <;> rfl),hf]
 refine I.write (x:=p) (e:=p) (by rw[h];trivial) (.inl rfl) (λb u hb q=>(fb _ _ (Ne.symm hb)).trans q) ⟨_,e⟩ ?_;exact ⟨hz,its',n',r,e⟩
def Nf:V->V->V->Hp->(Hp->Prop)->Prop:=λo i v H Q=>∃p xs k j,o=.ref p/\i=.int k/\H p=some (.lst xs)/\ixN xs.length k=some j/\Q (upd H p (.lst (xs.set j v)))
theorem set_list:rD X Nf:=by
 intro pins s Y H o i v ov iv u Q I ro ri rv h;obtain ⟨p,xs,k,j,rfl,rfl,hp,hj,q⟩:=h;cases ro;obtain ⟨t,rfl⟩:=ri;obtain ⟨its,n,r,ho,hz⟩:=I.lst hp;obtain ⟨h1,h2,h3,h4⟩:=yO hj;have hl:=r.length;have hn:=gQ;have I':Inv X pins Y (upd H p (.lst (xs.set j v))) { s with heap:=s.heap.update p (Obj.mapSeq (·.setIfInBounds j u)) }:=
  I.lstUpd hp ho (Nb its n j u) (r.set rv j) (by rw[List.length_set];exact hz) s.toks
 by_cases h0:0<=k
 ·have hk:k.toNat=j:=by
   rw[seqIndex_of h0 h4]at h1;exact c9 h1
  exact PySem.W.ki_setAt ho h0 (by omega) (by rw[ap,<-hl];exact h4) (by rw[hk];exact ⟨_,I',q⟩)
 ·have hk:(k+(its.toArray.size:Int)).toNat=j:=by
   rw[seqIndex_neg (by omega) h3]at h1;rw[ap,<-hl];exact c9 h1
  exact PySem.W.ki_setBack ho (by omega) (by rw[ap,<-hl];exact h3) (by omega) (by rw[hk];exact ⟨_,I',q⟩)
theorem yQ(lo hi:Option Int)(n:Nat):(sliceBounds lo hi none n).1=((HT.sIx n 0 lo:Nat):Int)/\(sliceBounds lo hi none n).2.1=((HT.sIx n n hi:Nat):Int)/\(sliceBounds lo hi none n).2.2=1:=by
 refine ⟨?_,?_,rfl⟩
 ·cases lo with
  |none=>simp[sliceBounds,HT.sIx]
  |some i=>
   simp only[sliceBounds,HT.sIx,Option.getD_none,show (1:Int) > 0 by decide,if_true];by_cases h:i < 0
   ·simp only[h,if_true] <;> omega
   ·simp only[h,if_false] <;> omega
 ·cases hi with
  |none=>simp[sliceBounds,HT.sIx]
  |some i=>
   simp only[sliceBounds,HT.sIx,Option.getD_none,show (1:Int) > 0 by decide,if_true];by_cases h:i < 0
   ·simp only[h,if_true] <;> omega
   ·simp only[h,if_false] <;> omega
theorem Ng(its:List Value)(lo hi:Option Int):slicePick its.toArray lo hi none=((its.drop (HT.sIx its.length 0 lo)).take (HT.sIx its.length its.length hi - HT.sIx its.length 0 lo)).toArray:=by obtain ⟨h1,h2,h3⟩:=yQ lo hi its.toArray.size;unfold slicePick;rw[h1,h2,h3];simp only[sliceRange_one,pick_run,ap] <;> rfl
def Nh(K:PF):V->Option Int->Option Int->Hp->VK->Prop:=λx lo hi H Q=>∃a xs,x=.ref a/\SqL K H a xs/\∀p,H p=none->Q (.ref p) (upd H p (.lst (dJ xs lo hi)))
theorem yR:SlR X (Nh X.K):=by intro pins s Y H x v vl vu lo hi sl Q I rx hs pl pu h;obtain ⟨a,xs,rfl,hx,q⟩:=h;cases rx;obtain ⟨its,r,ht,hz⟩:=I.list hx;have hlen:=r.length;refine ⟨"list",_,slot_list_getitem.lookup,ht.isList.typeIs,?_⟩;refine wpAny_getItem_list_slice ht.isList hs pl pu .none (by simp) ?_ (by rw[ap] <;> omega);rw[Ng,<-hlen];refine ⟨.ref (~~~s),_,I.laid (t':=s.toks) (o:=.lst (dJ xs lo hi)) (λb ob q=>ag _ q) (am _) ?_,rfl,q _ (I.hok.fresh (am _))⟩;exact ⟨bi (yN xs lo hi) hz,_,0,(r.drop (HT.sIx xs.length 0 lo)).take (HT.sIx xs.length xs.length hi - HT.sIx xs.length 0 lo),aI _ rfl⟩
theorem yS:bN X (.builtin "len") (λxs H Q=>∃p ys,xs=[.ref p]/\(SqL X.K H p ys\/SqT X.K H p ys)/\Q (.int ys.length) H):=by
 intro pins s Y H xs us Q I r h;obtain ⟨p,ys,rfl,hq,q⟩:=h;obtain ⟨u,rfl,rx⟩:=vals1 r;cases rx;have hn:=gQ;rcases hq with hq |hq
 ·obtain ⟨its,r',pl,hz⟩:=I.list hq;have hlen:=r'.length;exact Calls.call_len_list pl.isList (by simp only[ap] <;> omega) ⟨.int ys.length,H,I.tok _,⟨s.toks+1,by rw[ap,hlen]⟩,q⟩
 ·obtain ⟨its,r',pl,hz⟩:=I.tuple hq;have hlen:=r'.length;exact len_tuple pl (by simp only[ap] <;> omega) ⟨.int ys.length,H,I.tok _,⟨s.toks+1,by rw[ap,hlen]⟩,q⟩
theorem Ni:bN X (.builtin "len") (λxs H Q=>∃z,xs=[.str z]/\z.length<=sizeLine/\Q (.int z.length) H):=by intro pins s Y H xs us Q I r h;obtain ⟨z,rfl,hz,q⟩:=h;obtain ⟨u,rfl,t,rfl⟩:=vals1 r;have hn:=gQ;exact len_str (by omega) ⟨.int z.length,H,I.tok _,⟨_,rfl⟩,q⟩
theorem yU:bN X (.type "list") (λxs H Q=>∃p ys,xs=[.ref p]/\(SqL X.K H p ys\/SqT X.K H p ys)/\∀l,H l=none->Q (.ref l) (upd H l (.lst ys))):=by
 intro pins s Y H xs us Q I r h;obtain ⟨p,ys,rfl,hq,q⟩:=h;obtain ⟨u,rfl,rx⟩:=vals1 r;cases rx;have fin:∀(its:List Value),Vals ys its->ys.length<=sizeLine->∀(h':Heap)(c':Nat),(∀b o',s.heap.get? b=some o'->h'.get? b=some o')->
   h'.get? (~~~s)=some { cls:=.type "list",dict:=none,data:=.seq its.toArray c',slots:=#[] }->EP X pins Y Q (.ref (~~~s)) { s with heap:=h' }:=λits r' hz h' c' kp e=>
  ⟨.ref (~~~s),_,I.laid (t':=s.toks) kp (am _) (show ObjOk X.prog X.w _ h' _ (.lst ys) from ⟨hz,its,c',r',e⟩),rfl,q _ (I.hok.fresh (am _))⟩
 rcases hq with hq |hq
 ·obtain ⟨its,r',pl,hz⟩:=I.list hq;have hlen:=r'.length;obtain ⟨o,ho,hc,n,hd⟩:=pl.isList;exact call_list_seq p (.inl rfl) ho hc hd (λh' c' kp e=>fin its r' hz h' c' kp e) (by simp only[ap] <;> omega)
 ·obtain ⟨its,r',pl,hz⟩:=I.tuple hq;have hlen:=r'.length;obtain ⟨o,ho,hc,n,hd⟩:=pl;exact call_list_seq p (.inr rfl) ho hc hd (λh' c' kp e=>fin its r' hz h' c' kp e) (by simp only[ap] <;> omega)
theorem yV:bN X (.type "tuple") (λxs H Q=>∃p ys,xs=[.ref p]/\((SqL X.K H p ys/\∀l,H l=none->Q (.ref l) (upd H l (.tup ys)))\/(SqT X.K H p ys/\Q (.ref p) H))):=by
 intro pins s Y H xs us Q I r h;obtain ⟨p,ys,rfl,h⟩:=h;obtain ⟨u,rfl,rx⟩:=vals1 r;cases rx;rcases h with ⟨hq,q⟩ |⟨hq,q⟩
 ·obtain ⟨its,r',pl,hz⟩:=I.list hq;have hlen:=r'.length;refine call_tuple_list pl.isList (λh' kp=>?_) (by simp only[ap] <;> omega);have I1:Inv X pins Y H { s with heap:=h' }:=I.kept (t':=s.toks) kp;have I2:Inv X pins Y (upd H h'.objs.size (.tup ys)) { s with heap:=h'.push { cls:=.type "tuple",data:=.seq its.toArray } }:=
   I1.laid (t':=s.toks) (λb o e=>ag _ e) (am _) (show ObjOk X.prog X.w _ _ _ (.tup ys) from ⟨hz,its,r',IsTup.new _ _⟩)
  exact ⟨.ref h'.objs.size,_,I2,rfl,q _ (I1.hok.fresh (am _))⟩
 ·obtain ⟨its,r',pl,hz⟩:=I.tuple hq;exact call_tuple_same pl ⟨.ref p,H,I,rfl,q⟩
def tyV(K:PF)(T:String)(x:V)(H:Hp):Prop:=match x with
 |.str _=>T="str"
 |.int _=>T="int"
 |.ref p=>(T="list"/\∃xs,SqL K H p xs)\/(T="tuple"/\∃o,K.lookup p=some o/\o.cls=.type "tuple"/\o.dict=none)\/
   (T="dict"/\((∃kvs,H p=some (.dK kvs))\/∃kvs,H p=some (.dT kvs)))\/(T="set"/\∃S n,H p=some (.set S n))
 |_=>False
theorem Nj{pins:List (Addr×Obj)}{Y:St}{H:Hp}{s:Shared}{T:String}{x:V}{v:Value}(I:Inv X pins Y H s)(r:RelV x v)(ty:tyV X.K T x H):
  s.TypeIs v T/\∀a,v=.ref a->∃ob,s.heap.get? a=some ob/\ob.dict=none:=by
 cases x with
 |str z=>
  obtain ⟨t,rfl⟩:=r;cases (show T="str" from ty);exact ⟨typeIs_str s z t,λ_ e=>nomatch e⟩
 |int i=>
  obtain ⟨t,rfl⟩:=r;cases (show T="int" from ty);exact ⟨typeIs_int s i t,λ_ e=>nomatch e⟩
 |ref p=>
  cases r;rcases ty with ⟨rfl,xs,hq⟩ |⟨rfl,o,hk,hc,hd⟩ |⟨rfl,hk⟩ |⟨rfl,S,n,hk⟩
  ·obtain ⟨its,_,pl,_⟩:=I.list hq;refine ⟨pl.isList.typeIs,λa e=>?_⟩;cases e;obtain ⟨o,n,e,c,hd,_⟩:=pl;exact ⟨o,e,hd⟩
  ·refine ⟨⟨o,I.kIn p o hk,hc⟩,λa e=>?_⟩;cases e;exact ⟨o,I.kIn _ o hk,hd⟩
  ·have z:∃o,s.heap.get? p=some o/\o.ExactDict:=by
    rcases hk with ⟨kvs,hk⟩ |⟨kvs,hk⟩
    ·obtain ⟨_,_,_,_,o,_,_,e,ex,_⟩:=I.hok p _ hk;exact ⟨o,e,ex⟩
    ·obtain ⟨_,_,_,_,o,_,_,e,ex,_⟩:=I.hok p _ hk;exact ⟨o,e,ex⟩
   obtain ⟨o,e,ex⟩:=z;refine ⟨⟨o,e,ex.1⟩,λa e2=>?_⟩;cases e2;exact ⟨o,e,ex.2.1⟩
  ·obtain ⟨o,_,_,_,e,ex,_⟩:=I.hok p _ hk;refine ⟨⟨o,e,ex.1⟩,λa e2=>?_⟩;cases e2;exact ⟨o,e,ex.2.1⟩
 |_=>exact False.elim ty
def tBM(K:PF)(T:String)(r:V->List V->Hp->VK->Prop)(to:TE)(t:TA):TE:=λY H Q=>to Y H λx H1=>tyV K T x H1/\t Y H1 λxs H2=>r x xs H2 Q
variable {o e:Expr} {es:List Expr} {to:TE} {t:TA} {name:Str} {apos cpos:Pos} {T id:String} {r:V->List V->Hp->VK->Prop}
theorem iD (pa:PlainAttrs T) (slot:Slot T name id) (hty:typeOf (.builtin id)=pure (.type "method_descriptor")) (hm:MtR X id r) (ho:PE X o to) (ha:PA X (e::es) t)
  (hbase:attributeBase o name X.env (eval o X.env)=eval o X.env:=by rfl)
  (hfew:((backTo cpos (starEach (e::es) X.env)).all (λx=>!x.1)&&(backToKw cpos (keywordEach [] X.env)).all (λx=>x.1.isSome)
  &&decide ((e::es).length+([]:List Keyword).length+(if ([]:List Keyword).isEmpty then 0 else 1) < 30))=true:=by rfl)
  (hline:(apos.endLine==cpos.line)=true:=by rfl) (hs:starEach (e::es) X.env=(false,eval e X.env)::starEach es X.env:=by rfl) (hplain:(backTo cpos (starEach es X.env)).any (·.1)=false:=by rfl):
  PE X (.Call (.Attribute o name apos) (e::es) [] cpos) (tBM X.K T r to t):=by
 intro pins s Y H Q I h;refine wpAny_Call_method_late hbase hfew hline rfl (thn (ho pins s Y H _ I h) λv s1 ⟨x,H1,I1,r1,ty,q1⟩=>?_);obtain ⟨h1,h2⟩:=Nj I1 r1 ty;refine ⟨T,id,pa,slot,hty,h1,h2,?_⟩;have hA:=ha cpos pins s1 Y H1 _ I1 q1;rw[hs]at hA ⊢;refine Calls.callWith_builtin (by show (false||(backTo cpos (starEach es X.env)).any (·.1))=false;rw[hplain] <;> rfl) (Calls.evalArgs_plain ?_);exact thn hA λus s2 ⟨vs,H2,I2,r2,q2⟩=>hm pins s2 Y H2 x vs v us Q I2 r1 r2 q2
end
def MtM(X:Cx)(id:String)(r:V->List V->Hp->VK->Prop):Prop:=
 ∀(pins:List (Addr×Obj))(s:Shared)(Y:St)(H:Hp)(x:V)(xs:List V)(v:Value)(us:List Value)(Q:VK),Inv X pins Y H s->RelV x v->Vals xs us->r x xs H Q->
  ↥X (call (.builtin id) (v::us)) (EP X pins Y Q) X.xe s
theorem Vals.one:∀{x:V}{us:List Value},Vals [x] us->∃u,us=[u]/\RelV x u
 |_,_,.cons r .nil=>⟨_,rfl,r⟩
theorem Vals.two:∀{x y:V}{us:List Value},Vals [x,y] us->∃u v,us=[u,v]/\RelV x u/\RelV y v
 |_,_,_,.cons r (.cons q .nil)=>⟨_,_,rfl,r,q⟩
theorem Vals.reverse{xs:List V}{us:List Value}(h:Vals xs us):Vals xs.reverse us.reverse:=by
 induction h with
 |nil=>exact .nil
 |cons r t ih=>rw[List.reverse_cons,List.reverse_cons];exact Vals.append ih (.cons r .nil)
section
variable {X:Cx} {pins:List (Addr×Obj)} {σ:St} {H:Hp} {s:Shared} {l b:Addr} {xs ys zs:List V}
theorem Inv.lset{its its':List Value}{n:Nat}{f:Array Value->Array Value}{t':Nat}(I:Inv X pins σ H s)(hH:H l=some (.lst xs))
  (e:s.heap.get? l=some { cls:=.type "list",data:=.seq its.toArray n }) (hf:f its.toArray=its'.toArray) (hv:Vals ys its') (hz:ys.length<=sizeLine):
  Inv X pins σ (upd H l (.lst ys)) { s with heap:=s.heap.update l (Obj.mapSeq f),toks:=t' }:=by
 have q:=PySem.IsL.update e f;rw[hf]at q;refine I.write (x:=l) (e:=l) (by rw[hH];exact trivial) (.inl rfl) (λb' u hb hu=>(fb s.heap (Obj.mapSeq f) (Ne.symm hb)).trans hu) ⟨_,q⟩ ?_;exact ⟨hz,its',_,hv,q⟩
theorem Inv.lnew{its:List Value}{t':Nat}(I:Inv X pins σ H s)(hv:Vals ys its)(hz:ys.length<=sizeLine):
  Inv X pins σ (upd H (~~~s) (.lst ys)) { s with heap:=s.heap.push { cls:=.type "list",data:=.seq its.toArray },toks:=t' }:=
 I.laid (λ_ _ q=>ag _ q) (am _) ⟨hz,its,0,hv,aI _ rfl⟩
theorem Inv.fresh(I:Inv X pins σ H s):H (~~~s)=none:=I.hok.fresh (am _)
theorem Inv.lstM (I:Inv X pins σ H s) (hH:H l=some (.lst xs)):xs.length<=sizeLine/\∃(its:List Value) (n:Nat),Vals xs its/\xs.length=its.length/\s.heap.get? l=some { cls:=.type "list",data:=.seq its.toArray n }:=by obtain ⟨z,its,n,r,e⟩:=I.hok l _ hH;exact ⟨z,its,n,r,r.length,e⟩
theorem Nk{n:Nat}(h:n<=sizeLine):Builtin.List.listTooLong n=false:=by unfold Builtin.List.listTooLong;exact ba (by omega)
end
section
variable {X:Cx}
def Nm:V->List V->Hp->VK->Prop:=λx vs H Q=>∃l xs y,x=.ref l/\vs=[y]/\H l=some (.lst xs)/\xs.length < sizeLine/\Q .non (upd H l (.lst (xs++[y])))
theorem Np:MtM X "list.append" Nm:=by intro pins s Y H x vs v us Q I rx rv h;obtain ⟨l,xs,y,rfl,rfl,hH,hz,q⟩:=h;cases rx;obtain ⟨u,rfl,ru⟩:=rv.one;obtain ⟨z,its,n,r,hl,e⟩:=I.lstM hH;refine call_meets F.slot_list_append ⟨_,e,rfl⟩ F.entry_list_append (F.args_list_append_2 _ _) (PySem.list_append l its.toArray n u (by rw[ap];omega)) ⟨e,?_⟩;refine ⟨.non,_,I.lset (its':=its++[u]) hH e (by simp) (r.append (.cons ru .nil)) ?_,rfl,q⟩;rw[aw,List.length_singleton];omega
def Nq:V->List V->Hp->VK->Prop:=λx vs H Q=>∃l b xs zs,x=.ref l/\vs=[.ref b]/\H l=some (.lst xs)/\H b=some (.lst zs)/\xs.length+zs.length<=sizeLine/\Q .non (upd H l (.lst (xs++zs)))
theorem Nr:MtM X "list.extend" Nq:=by
 intro pins s Y H x vs v us Q I rx rv h;obtain ⟨l,b,xs,zs,rfl,rfl,hH,hB,hz,q⟩:=h;cases rx;obtain ⟨u,rfl,ru⟩:=rv.one;cases ru;obtain ⟨z,its,n,r,hl,e⟩:=I.lstM hH;obtain ⟨z2,its2,n2,r2,hl2,e2⟩:=I.lstM hB;have hsz:its.toArray.size+its2.toArray.size<=sizeLine:=by rw[ap,ap];omega
 have hlong:¬(!its.toArray.isEmpty&&Builtin.List.listTooLong (its.toArray.size+its2.toArray.size))=true:=by rw[Nk hsz,ff];exact b6
 refine call_meets F.slot_list_extend ⟨_,e,rfl⟩ F.entry_list_extend (F.args_list_extend_2 _ _)
  (AutoSeq1.list_extend_list_list_0 l its.toArray n b its2.toArray n2 hlong (by rw[ap];omega) (by omega)) ⟨e,e2,?_⟩
 refine ⟨.non,_,I.lset (its':=its++its2) hH e (by simp) (r.append r2) ?_,rfl,q⟩;rw[aw];omega
theorem len_rep{α:Type}(xs:List α)(k:Nat):(List.replicate k xs).flatten.length=k * xs.length:=by
 induction k with
 |zero=>simp
 |succ k ih=>rw[dn,fT,aw,ih,Nat.succ_mul,Nat.add_comm]
end
end L2
namespace Att
open PySem PySem.W PySem.Calls PyProof.Rows
theorem Nt{P:Params}{h:Heap}:∀(ns:List Int)(vs:List Value),WellAll P h vs (ns.map WData.int)->IntsAre vs ns:=by
 intro ns;induction ns with
 |nil=>
  intro vs w;rw[List.map_nil]at w;cases w;exact .nil
 |cons n ns ih=>
  intro vs w;rw[List.map_cons]at w;cases w with
  |cons a b=>
   cases a;exact .cons _ _ (ih _ b)
theorem Nu{l:OpenLaw}{n:Nat}(hn:l.most=some n){P:Params}{h:Heap}{args:List WData}{vals:List Value}
  (hpre:l.row.toRowW.claim.pre args=true) (hwl:WellAll P h vals args):
  ∃a vs ns,vals=[Value.ref a]/\args=[WData.list (ns.map WData.int)]/\h.get? a=some { cls:=.type "list",data:=.seq vs.toArray }/\IntsAre vs ns/\ns.length<=n:=by
 have hsh:WShape.hasAll [] args [.list .int]=true:=(pre_splitW hpre).1;have hc:l.pre.holds [] { args:=args }=true:=(pre_splitW hpre).2;obtain ⟨d,r,rfl,h1,h2⟩:=hasAllW_cons hsh;obtain rfl:=hasAllW_nil h2;obtain ⟨xs,rfl,h3⟩:=hasW_list h1;obtain ⟨ns,rfl⟩:=items_int h3;have hlen:ns.length<=n:=by
  unfold OpenLaw.pre at hc;have h4:(WTm.not (.lt (.lit (.int (n:Int))) (.len (.arg 0)))).holds [] { args:=[.list (ns.map .int)] }=true:=by have h4:=(holds_andW hc).1;rw[hn]at h4;exact h4
  have h5:=condW_of h4 (w_not (w_lt w_lit (w_len_list (w_arg rfl))));rw[List.length_map]at h5;refine Nat.le_of_not_lt λq=>?_;have q':(n:Int) < ((ns.length:Nat):Int):=by omega
  first
   | (rw[decide_eq_true q']at h5;exact absurd h5 (by decide))
   | (simp at h5;omega)
 cases hwl with
 |cons w1 w2=>
  cases w2;cases w1 with
  |list ho hall=>exact ⟨_,_,ns,rfl,rfl,ho,Nt ns _ hall,hlen⟩
theorem Nv(l:OpenLaw)(args:List WData):l.row.toRowW.claim.post args (.bool true) args=true:=
 postW_of (r:=l.row.toRowW) (X:=(true==true))
  (show WShape.has [] (.bool true) .bool=true by first |rfl |decide |simp[WShape.has,WShape.arms,WShape.armsAll])
  (show (WTm.eq .res (.lit (.bool true))).value [] { args:=args,res:=some (.bool true),after:=args }=some (.bool (true==true)) from w_eq_bool (w_res rfl) w_lit) rfl
theorem attach_call{l:OpenLaw}{n:Nat}{q:Program}{loose:List Str}{XP:(Str->Option Value)->Heap->Prop}{YP:World->Heap->Prop}{d:DefRec}
  (hn:l.most=some n) (hdf:d.params.defaults=[])
  (call:∀(w:World)(s₀ s₁:Shared)(mg mb:Str->Option Value)(fa:Addr)(o:Obj)(pm cd doc:Value)(a:Addr)(vs:List Value)(ns:List Int),
   Ground q loose [] XP w s₀ mg mb s₁.heap->YP w s₁.heap->
   s₁.heap.get? fa=some o->o.data=.func (docDef d.name d.params d.body d.scope pm cd doc)->s₁.heap.CodeRec cd d.name->mg d.name=some (.ref fa)->
   s₁.heap.get? a=some { cls:=.type "list",data:=.seq vs.toArray }->IntsAre vs ns->ns.length<=n->s₁.gens=#[]->
   codeAny (model l.prog w) callerA (.call (.ref fa) ⟨[.ref a],[]⟩) (λr s'=>r=.ok (.ret (.bool true))/\OldK s₁.heap s'.heap/\s'.os=s₁.os/\AllBare s'.gens) s₁):
  WalkO q loose XP YP l.row.toRowW d [] (λf vs=>PySem.call f vs):=by
 intro w s₀ s₁ mg mb G Y fa o pm cd doc dV kV ho hd hcd hD hmg hg args vals as hpre hlay hrd hwl hlo;obtain rfl:dV=.none:=Dflts.none hD hdf;obtain rfl:kV=.none:=Dflts.noKw hD;obtain ⟨a,vs,ns,rfl,rfl,hobj,hints,hlen⟩:=Nu hn hpre hwl;refine enter_call (codeAny_mono (call w s₀ s₁ mg mb fa o pm cd doc a vs ns G Y ho (fd_plain hd) hcd hmg hobj hints hlen hg) λr s' hq=>?_);obtain ⟨rfl,h2,h3,h4⟩:=hq;exact ⟨.inl ⟨.bool true,.bool true,[],rfl,λ_=>rfl,.bool true,Nv l _,λ_=>⟨List.Pairwise.nil,λ_ hm=>(nomatch hm)⟩⟩,h2,h3,h4⟩
end Att
namespace L2
open PySem PySem.Spec PyProof.Rows
theorem rP:∀{vs:List Value}{ns:List Int},IntsAre vs ns->Vals (ns.map V.int) vs
 |_,_,.nil=>.nil
 |_,_,.cons n t h=>.cons ⟨t,rfl⟩ (rP h)
def Only(H:Hp):Prop:=∀b,H b=none\/∃o xs,H b=some (.frz o (.lst xs))
theorem Nx{P:Program}{w:World}{K:PF}{mg mb:Str->Option Value}{CX:CXT}{k:Nat}{fa a:Addr}{fd:FuncData}{x:Str}{sp:Sp}{s₁:Shared}{vs:List Value}{ns:List Int}
  (KX:K.In s₁.heap) (hns:s₁.heap.Ns mainGlobals mg) (hb:s₁.heap.Ns builtinsNs mb) (hbb:∀x:Str,x≠"__name__"->mb x=bootBuiltins x) (hlim:s₁.heap.NoLimit) (hg:s₁.gens=#[])
  (ha:s₁.heap.get? a=some { cls:=.type "list",data:=.seq vs.toArray }) (hi:IntsAre vs ns) (hl:ns.length<=sizeLine) (hr:Room k callerA)
  (F:∀base:Heap,K.In base->base.Ns mainGlobals mg->FnOk P w K mg base CX k fa fd [x] sp) (hbind:∀(s:Shared)(u:Value),BindsTo s fd ⟨[u],[]⟩ [(x,u)])
  (hsp:∀H:Hp,Only H->SqL K H a (ns.map V.int)->sp [.ref a] H (λv _=>v=.bl true) λ_ _ _=>False)
  (hCX:∀H e s',CX [] H s₁ (λ_ _ _=>False) e s'->False):
  codeAny (model P w) callerA (.call (.ref fa) ⟨[.ref a],[]⟩) (λr s'=>r=.ok (.ret (.bool true))/\OldK s₁.heap s'.heap/\s'.os=s₁.os/\AllBare s'.gens) s₁:=by
 have rv:=rP hi;have lenV:=hi.length
 -- from an abstract heap in which nothing but the script may be tracked
 have core:∀H:Hp,Only H->SqL K H a (ns.map V.int)->HOk P w H s₁.heap->(∀b,H b≠none->b=a)->(H a≠none->K.lookup a=none)->
   codeAny (model P w) callerA (.call (.ref fa) ⟨[.ref a],[]⟩) (λr s'=>r=.ok (.ret (.bool true))/\OldK s₁.heap s'.heap/\s'.os=s₁.os/\AllBare s'.gens) s₁:=by
  intro H hO hS hok hA hK;have base_of:∀{b:Addr}{o:Obj},s₁.heap.get? b=some o->H b=none->(fu s₁.heap H).get? b=some o:=λe n=>JC e n;have noA:∀{b:Addr}{o:Obj}{es:Array DictEntry}{ep:Nat},s₁.heap.get? b=some o->o.data=.dict es ep->H b=none:=λ{b o es ep} e d=>by
   cases q:H b with
   |none=>rfl
   |some u=>
    have e':b=a:=hA b (by rw[q];simp);subst e';rw[ha]at e;cases e;have d':Data.seq vs.toArray _=Data.dict es ep:=d;cases d'
  have nsK:∀{b:Addr}{m:Str->Option Value},s₁.heap.Ns b m->(fu s₁.heap H).Ns b m:=λ{b m} ⟨o,es,ep,e,d,r⟩=>⟨o,es,ep,base_of e (noA e d),d,r⟩;have hKb:K.In (fu s₁.heap H):=λb o e=>base_of (KX b o e) (by
   cases q:H b with
   |none=>rfl
   |some u=>
    have e':b=a:=hA b (by rw[q];simp);subst e';rw[hK (by rw[q];simp)]at e;cases e)
  have hM:Mod K mg (fu s₁.heap H):=⟨hKb,nsK hns,⟨mb,nsK hb,hbb⟩,let ⟨mc,h1,h2⟩:=hlim;⟨mc,nsK h1,h2⟩⟩;have e0:Env0 P w K mg (fu s₁.heap H) callerA [] s₁ H:=⟨rfl,hM,λb o e=>JD e,Nat.le_of_eq (JB _ _),trivial,λb hb=>absurd (show b∈([]:List Addr) from hb) (by simp),hok,.of_eq hg⟩;refine codeAny_mono ((F _ hKb (nsK hns)).run callerA [] s₁ H ⟨[.ref a],[]⟩ [.ref a] [.ref a] _ _ hr e0 (hbind s₁ (.ref a)) (.cons rfl .nil) (hsp H hO hS)) λr s' h=>?_;cases r with
  |error e=>exact (hCX H e s' h).elim
  |ok fl=>
   cases fl with
   |next=>exact False.elim h
   |brk=>exact False.elim h
   |cont=>exact False.elim h
   |ret u=>
    obtain ⟨v,H',os,bare,un,hok',r',q⟩:=h;have q':v=.bl true:=q;subst q';obtain rfl:u=Value.bool true:=r';refine ⟨rfl,OldK.of_keep λb o e=>?_,os,bare⟩;cases q:H b with
    |none=>exact un.keep b o e q (by intro z;exact absurd (show b∈([]:List Addr) from z) (by simp)) (by simp)
    |some u=>
     rcases hO b with z |⟨ob,xs,z⟩
     ·rw[q]at z;cases z
     ·have z2:=un.frzs b ob _ z;obtain ⟨e1,_⟩:=hok b _ z;obtain ⟨e2,_⟩:=hok' b _ z2;rw[e]at e1;cases e1;exact e2
 cases hk:K.lookup a with
 |some o=>
  -- the script is one of the module's own objects
  have e:=KX a o hk;rw[ha]at e;cases e;refine core (λ_=>none) (λ_=>.inl rfl) (.inr ⟨_,vs.toArray,_,hk,rfl,rfl,rfl,by rw[ap,lenV];exact hl,by simpa using rv⟩) (λb u z=>by have z':(none:Option HO)=some u:=z;cases z') (λb z=>absurd rfl z) λz=>absurd rfl z
 |none=>
  refine core (λb=>if b=a then some (.frz { cls:=.type "list",data:=.seq vs.toArray } (.lst (ns.map V.int))) else none) (λb=>?_) (.inl (.inr ⟨{ cls:=.type "list",data:=.seq vs.toArray },if_pos rfl⟩)) (λb u z=>?_) (λb z=>?_) λ_=>hk
  ·by_cases hb:b=a
   ·exact .inr ⟨_,_,if_pos hb⟩
   ·exact .inl (if_neg hb)
  ·by_cases hb:b=a
   ·have z':=(if_pos hb).symm.trans z;cases z';subst hb;exact ⟨ha,by rw[ah];exact hl,vs,_,rv,ha⟩
   ·have z':=(if_neg hb).symm.trans z;cases z'
  ·by_cases hb:b=a
   ·exact hb
   ·exact absurd (if_neg hb) z
theorem Ny{l:PySem.W.OpenLaw}{n k:Nat}{q:Program}{loose:List Str}{XP:(Str->Option Value)->Heap->Prop}{YP:World->Heap->Prop}{d:DefRec}{K:Params->PF}{CX:World->CXT}{sp:World->Sp}{x:Str}
  (hn:l.most=some n) (hn2:n<=sizeLine) (hdf:d.params.defaults=[]) (hr:Room k callerA)
  (hY:∀(w:World)(h:Heap),YP w h->(K w.params).In h)
  (F:∀(w:World)(mg:Str->Option Value)(fa:Addr)(h:Heap),(K w.params).In h->h.Ns mainGlobals mg->mg d.name=some (.ref fa)->
   ∃fd:FuncData,(∀(s:Shared)(u:Value),BindsTo s fd ⟨[u],[]⟩ [(x,u)])/\
    ∀base:Heap,(K w.params).In base->base.Ns mainGlobals mg->FnOk l.prog w (K w.params) mg base (CX w) k fa fd [x] (sp w))
  (hsp:∀(w:World)(H:Hp)(a:Addr)(ns:List Int),ns.length<=n->Only H->SqL (K w.params) H a (ns.map V.int)->sp w [.ref a] H (λv _=>v=.bl true) λ_ _ _=>False)
  (hCX:∀(w:World)(H:Hp)(s:Shared)(e:Value)(s':Shared),CX w [] H s (λ_ _ _=>False) e s'->False):
  PySem.W.WalkO q loose XP YP l.row.toRowW d [] (λf vs=>PySem.call f vs):=by
 refine Att.attach_call hn hdf λw s₀ s₁ mg mb fa o pm cd doc a vs ns G Y ho hd hcd hmg hobj hints hlen hg=>?_;have KX:=hY w _ Y;obtain ⟨fd,hb,hF⟩:=F w mg fa _ KX G.T.g hmg;exact Nx KX G.T.g G.T.b G.T.builtins G.T.nolimit hg hobj hints (bi hlen hn2) hr hF hb (λH hO hS=>hsp w H a ns hlen hO hS) λH e s'=>hCX w H s₁ e s'
def iG(s:Stmt):Arguments:=match s with
 |.FunctionDef _ a _ _ _ _ _ _ _ _=>a
 |_=>{ posonlyargs:=[],args:=[],vararg:=none,kwonlyargs:=[],kw_defaults:=[],kwarg:=none,defaults:=[] }
def aJ(s:Stmt):List Stmt:=match s with
 |.FunctionDef _ _ b _ _ _ _ _ _ _=>b
 |_=>[]
def aq(s:Stmt):Scope:=match s with
 |.FunctionDef _ _ _ _ _ _ sc _ _ _=>sc
 |_=>{ kind:=.function,names:=[],isGenerator:=false,isCoroutine:=false }
structure Fun(K:PF)(x qual:Str)(st:Stmt)(f:Addr)(fd:FuncData):Prop where
 ex:∃(oc:Value)(od:Option Addr)(kV doc pm:Value)(an:Option Addr)(cdv ct:Value)(osl:Array (Option Value)),
  fd=PySem.W.fnOf x qual (iG st) (aJ st) (aq st) .none kV doc pm an cdv ct/\K.lookup f=some ⟨oc,od,.func fd,osl⟩/\PySem.W.codeIn K cdv qual=true
 kp:PySem.W.keepIn K (.ref f)=true
section
variable {P:Program} {w:World} {K:PF} {mg:Str->Option Value} {base:Heap}
theorem Fun.binds{x qual:Str}{st:Stmt}{f:Addr}{fd:FuncData}{ps:List Str}(F:Fun K x qual st f fd)
  (h:∀(kV doc pm:Value)(an:Option Addr)(cdv ct:Value)(us:List Value),us.length=ps.length->bindArgs (PySem.W.fnOf x qual (iG st) (aJ st) (aq st) .none kV doc pm an cdv ct) ⟨us,[]⟩=pure (ps.zip us)):Binds K fd ps []:=by
 obtain ⟨oc,od,kV,doc,pm,an,cdv,ct,osl,rfl,lk,hcd⟩:=F.ex;exact .all (h kV doc pm an cdv ct)
theorem yW{x qual:Str}{st:Stmt}{f:Addr}{oc:Value}{od an:Option Addr}{osl:Array (Option Value)}{kV doc pm cdv ct:Value}(l:K.lookup f=some ⟨oc,od,.func (PySem.W.fnOf x qual (iG st) (aJ st) (aq st) .none kV doc pm an cdv ct),osl⟩)
  (c:PySem.W.codeIn K cdv qual=true) (k:PySem.W.keepIn K (.ref f)=true):Fun K x qual st f (PySem.W.fnOf x qual (iG st) (aJ st) (aq st) .none kV doc pm an cdv ct):=⟨⟨oc,od,kV,doc,pm,an,cdv,ct,osl,rfl,l,c⟩,k⟩
end
end L2
set_option maxHeartbeats 4000000
namespace L2
open PySem PySem.Spec PyProof.Rows
section
variable {X:Cx} {pins:List (Addr×Obj)} {σ:St} {H:Hp} {s:Shared} {h':Heap}
theorem Inv.turnedL{t':Nat}{ch:List Addr}(I:Inv X pins σ H s)(hf:∀b∈ch,d9 X pins H b)(k:∀b o,b∉ch->s.heap.get? b=some o->h'.get? b=some o):
  Inv X pins σ H { s with heap:=h',toks:=t' }:=by
 have nit:∀b u,H b=some u->b∉ch:=λb u e z=>by
  have q:=(hf b z).1;rw[q]at e;cases e
 refine I.step (g':=s.gens) (d':=s.drawn) (ch:=ch) (λb hb=>?_) (λb o _ _ hc e _=>k b o hc e) (λb o _ _ hc e _=>⟨o.slots,k b o hc e⟩) (λ_ _ _ _ n=>n)
  (λb o hc e=>⟨o,k b o hc e⟩) (λ_ _ e=>e) (λ_ _ _ e=>e) (λb ps e=>⟨#[],by rw[e];simp⟩) (λm hm=>?_) (λb u e=>?_) I.bare
 ·obtain ⟨_,f1,_,f3,f4,f5⟩:=hf b hb;exact ⟨f3,f1,f4,f5⟩
 ·obtain ⟨o,es,ep,ho,r⟩:=hm;exact ⟨o,es,ep,k _ o (λz=>(hf _ z).2.1 rfl) ho,r⟩
 ·refine (I.hok b u e).stay (λc v hc q=>k c v ?_ q) (λ_ q=>q) λ_ _ q=>q;rcases hc with z |z
  ·rw[z];exact nit b u e
  ·exact nit c _ z
theorem Inv.track{T:Addr}{o:HO}(I:Inv X pins σ H s)(hT:d9 X pins H T)(new:ObjOk X.prog X.w (upd H T o) s.heap T o):Inv X pins σ (upd H T o) s:=by
 have hn:=hT.1;have hok:HOk X.prog X.w (upd H T o) s.heap:=λb u e=>by
  by_cases hb:b=T
  ·subst hb;rw[bM]at e;cases e;exact new
  ·rw[aB hb]at e;exact (I.hok b u e).stay (λc v _ q=>q) (λc q=>by rw[aB (aR q hn)];exact q) λc xs q=>by rw[aB (aR q hn)];exact q
 obtain ⟨hp,g,d,tk,os⟩:=s;refine I.step (h':=hp) (g':=g) (d':=d) (t':=tk) (ch:=[T]) (λb hb=>?_) (λb o _ _ _ e _=>e) (λb o _ _ _ e _=>⟨o.slots,e⟩) (λb u hc _ n=>?_)
  (λb o _ e=>⟨o,e⟩) (λb xs e=>by rw[aB (aR e hn)];exact e) (λb u v e=>by rw[aB (aR e hn)];exact e) (λb ps e=>⟨#[],by rw[aB (aR e hn),e];simp⟩) (λm hm=>hm) hok I.bare
 ·have e:b=T:=by simpa using hb
  subst e;obtain ⟨_,f1,_,f3,f4,f5⟩:=hT;exact ⟨f3,f1,f4,f5⟩
 ·rw[aB (by simpa using hc)];exact n
end
def Its(x:Str):It:=⟨λi _=>i < x.cps.size,λi H v H'=>H'=H/\∃c,x.cps[i]?=some c/\v=.str ⟨#[c]⟩,λi _=>i=x.cps.size⟩
theorem yX{prog:Program}{w:World}{A:Around}(hh:A.handled=none)(I:Addr)(x:Str)(t:Tok):
  Walks prog w A I [I] [I] x.cps.size (SignAt x) (λi h=>h.IsStrIter I (strIterType x) x t i):=by
 unfold strIterType;split
 ·exact Walks.strAscii hh I x t
 ·exact Walks.strWide hh I x t
theorem rQ{P:Program}{w:World}{K:PF}{tg:Expr}(it:Addr)(x:Str)(t:Tok):Turn P w K tg (Its x) [it] it (λi h=>h.IsStrIter it (strIterType x) x t i) where
 mem:=by simp
 obj:=λi h st b hb=>by
  have e:b=it:=by simpa using hb
  subst e;obtain ⟨o,e,c,d⟩:=st;exact ⟨o,e,λv z=>by rw[d]at z;cases z⟩
 keep:=λi h h' st k=>let ⟨o,ho,r⟩:=st;⟨o,k it (by simp) o ho,r⟩
 item:=by intro X hP hw hK hc i pins s Y H E I hf st hg;subst hP hw hK;obtain ⟨f0,f1,f2,f3,f4,f5⟩:=hf it (by simp);have W:=yX (prog:=X.prog) (w:=X.w) (I.ok.hd hc) it x t;refine W.item i s _ _ hg st λv h' tk hv st' kk=>?_;obtain ⟨c,u,e,rfl⟩:=hv;have I1:Inv X pins Y H { s with heap:=h',toks:=tk }:=I.turned (λb o hb e=>kk b o (by simpa using hb) e) f0 f1 f3 f4 f5;obtain ⟨o,eo,cc,d⟩:=id st';exact ⟨_,rfl,nR (s:={ s with heap:=h',toks:=tk }) (n:=strIterType x) eo cc d (by unfold strIterType;split <;> decide) ⟨.str ⟨#[c]⟩,H,I1,⟨u,rfl⟩,⟨rfl,c,e,rfl⟩,st',λb hb=>(hf b hb).1⟩⟩
 done:=by intro X hP hw hK hc i pins s Y H E I hf st hg;subst hP hw hK;obtain ⟨f0,f1,f2,f3,f4,f5⟩:=hf it (by simp);have W:=yX (prog:=X.prog) (w:=X.w) (I.ok.hd hc) it x t;have hg':i=x.cps.size:=hg;subst hg';exact W.done s _ _ st λh' tk kk=>⟨rfl,I.turned (λb o hb e=>kk b o (by simpa using hb) e) f0 f1 f3 f4 f5⟩
 self:=λA i s Q E st h=>by
  unfold strIterType at st;split at st
  ·exact wpAny_pyIter_striter_ascii st h
  ·exact wpAny_pyIter_striter_wide st h
def cu(env:Env):List (Str×NameKind)->List (Str×Addr)->List (Str×Addr)
 |[],cs=>cs
 | (n,k)::r,cs=>cu env r (if (k==.free)=true then (match env.cells.lookup n with |some c=>(n,c)::cs |none=>cs) else cs)
theorem yZ{env:Env}:∀{l:List (Str×NameKind)}{cs:List (Str×Addr)},(∀x c,cs.lookup x=some c->env.cells.lookup x=some c)->∀x c,(cu env l cs).lookup x=some c->env.cells.lookup x=some c
 |[],_,h,x,c,e=>h x c e
 | (n,k)::r,cs,h,x,c,e=>by
  refine yZ (l:=r) (cs:=_) ?_ x c e;intro y d q;by_cases hk:(k==NameKind.free)=true
  ·rw[if_pos hk]at q;cases hn:env.cells.lookup n with
   |none=>rw[hn]at q;exact h y d q
   |some c'=>
    rw[hn]at q;simp only[List.lookup_cons]at q;cases hy:y==n with
    |true=>
     rw[hy]at q;have e1:y=n:=eq_of_beq hy;rw[e1,hn];exact q
    |false=>rw[hy]at q;exact h y d q
  ·rw[if_neg hk]at q;exact h y d q
theorem za{env:Env}{x:Str}:∀{l:List (Str×NameKind)}{cs:List (Str×Addr)},(cs.lookup x).isSome=true->((cu env l cs).lookup x).isSome=true
 |[],_,h=>h
 | (n,k)::r,cs,h=>by
  refine za (l:=r) (cs:=_) ?_;by_cases hk:(k==NameKind.free)=true
  ·rw[if_pos hk];cases hn:env.cells.lookup n with
   |none=>exact h
   |some c'=>
    simp only[List.lookup_cons];cases hy:x==n with
    |true=>rfl
    |false=>exact h
  ·rw[if_neg hk];exact h
theorem zb{env:Env}{x:Str}(hx:(env.cells.lookup x).isSome=true):∀{l:List (Str×NameKind)}{cs:List (Str×Addr)},(x,NameKind.free)∈l->((cu env l cs).lookup x).isSome=true
 | (n,k)::r,cs,h=>by
  rcases ay.mp h with e |h
  ·cases e;refine za (l:=r) (cs:=_) ?_;rw[if_pos (show (NameKind.free==NameKind.free)=true by decide)];obtain ⟨c,hc⟩:=cp.mp hx;rw[hc];simp
  ·exact zb hx (l:=r) h
theorem zc{scope:Scope}{env:Env}(h:∀y∈scope.names,y.2=NameKind.free->(env.cells.lookup y.1).isSome=true):closureFor scope env=pure (cu env scope.names []):=by
 simp only[closureFor];generalize ([]:List (Str×Addr))=cs;generalize scope.names=l at h;induction l generalizing cs with
 |nil=>rfl
 |cons y r ih=>
  obtain ⟨n,k⟩:=y;have ih':=λcs=>ih cs λy hy=>h y (a9 _ hy);rw[List.forIn_cons];by_cases hk:(k==NameKind.free)=true
  ·have hk':k=NameKind.free:=eq_of_beq hk;obtain ⟨c,hc⟩:=cp.mp (h (n,k) bS hk');have e1:cu env ((n,k)::r) cs=cu env r ((n,c)::cs):=by
    rw[cu,if_pos hk];show cu env r (match env.cells.lookup n with |some c=>(n,c)::cs |none=>cs)=_;have hc':env.cells.lookup n=some c:=hc;rw[hc']
   have e2:cellOf env n=pure c:=by unfold cellOf;have hc':env.cells.lookup n=some c:=hc;rw[hc']
   rw[e1,<-ih' ((n,c)::cs)];simp only[hk,if_true,e2];rfl
  ·have e1:cu env ((n,k)::r) cs=cu env r cs:=by rw[cu,if_neg hk]
   rw[e1,<-ih' cs];simp only[hk,if_false];rfl
theorem rR{env:Env}{x:Str}:∀{names:List (Str×NameKind)},
  (names.map λ(n,k)=>if (k==NameKind.free&&env.scope.kind==.function&&env.kindOf n==some .cell) then (n,NameKind.cell) else (n,k)).lookup x=
   (names.lookup x).map λk=>if (k==NameKind.free&&env.scope.kind==.function&&env.kindOf x==some .cell)=true then NameKind.cell else k
 |[]=>rfl
 | (n,k)::r=>by
  have ih:=@rR env x r;rw[ci];have hh:∀(c:Prop)[Decidable c],(if c then (n,NameKind.cell) else (n,k))=(n,if c then NameKind.cell else k):=λc _=>by split <;> rfl
  show List.lookup x ((if (k==NameKind.free&&env.scope.kind==.function&&env.kindOf n==some .cell)=true then (n,NameKind.cell) else (n,k))::_)=_;rw[hh];simp only[List.lookup_cons];cases hx:x==n with
  |true=>
   have e1:x=n:=eq_of_beq hx;subst e1;rfl
  |false=>exact ih
abbrev Cx.comp(X:Cx)(N':List Str)(scope:Scope)(cl:List (Str×Addr))(C:Addr)(s₁:Shared)(H₁:Hp)(fp:List Addr)(pn:List (Addr×Obj)):Cx where
 prog:=X.prog
 w:=X.w
 K:=X.K
 mg:=X.mg
 base:=X.base
 A:=X.A
 N:=N'
 s₀:=s₁
 H₀:=H₁
 env:=compEnvC scope cl C X.env
 outer:=X.stack
 stack:=X.stack
 ex:=fp
 fn:=λ_=>false
 calm:=X.calm
 pn:=pn
 xe:=λ_ _=>False
def PIf(X:Cx)(ifs:List Expr)(t:TT):Prop:=
 ∀(pins:List (Addr×Obj))(s:Shared)(Y:St)(H:Hp)(Q:Bool->Hp->Prop),Inv X pins Y H s->t Y H Q->
  ↥X (forIn ifs true λc r=>if r=true then do let ok <-isTrue c X.env (eval c X.env);pure (ForInStep.yield ok) else pure (ForInStep.yield r)) (TP X pins Y Q) X.xe s
def Nz:TT:=λ_ H Q=>Q true H
theorem NB{X:Cx}:PIf X [] Nz:=λ_ _ _ H _ I h=>wpAny_tests_nil ⟨H,I,h⟩
theorem NK{X:Cx}{c:Expr}{t:TT}(h:PT X c t):PIf X [c] t:=λpins s Y H Q I q=>wpAny_tests_one (h pins s Y H Q I q)
def dN(cap:List (Option Nat))(Y:St):St:=cap.map λo=>match o with |none=>none |some j=>(Y[j]?).join
def Caps(X:Cx)(scope:Scope):List Str->List (Option Nat)->Prop
 |[],[]=>True
 |_::N',none::cap=>Caps X scope N' cap
 |x::N',some j::cap=>(X.N[j]?=some x/\scope.names.lookup x=some NameKind.free)/\Caps X scope N' cap
 |_,_=>False
theorem Caps.len{X:Cx}{scope:Scope}:∀{N':List Str}{cap:List (Option Nat)},Caps X scope N' cap->cap.length=N'.length
 |[],[],_=>rfl
 |_::N',none::cap,h=>by
  have:=Caps.len (N':=N') (cap:=cap) h;simp[this]
 |_::N',some _::cap,h=>by
  have:=Caps.len (N':=N') (cap:=cap) h.2;simp[this]
 |[],_::_,h=>False.elim h
 |_::_,[],h=>False.elim h
theorem Caps.at{X:Cx}{scope:Scope}:∀{N':List Str}{cap:List (Option Nat)}{i:Nat}{x:Str}{v:V}{Y:St},Caps X scope N' cap->N'[i]?=some x->(dN cap Y)[i]?=some (some v)->
  ∃j:Nat,X.N[j]?=some x/\scope.names.lookup x=some NameKind.free/\Y[j]?=some (some v)
 |[],[],i,x,v,Y,_,e,_=>by simp at e
 |y::N',none::cap,0,x,v,Y,h,e,q=>by simp[dN]at q
 |y::N',some j::cap,0,x,v,Y,h,e,q=>by
  have e1:y=x:=by simpa using e
  subst e1;have q1:(Y[j]?).join=some v:=by simpa [dN] using q
  refine ⟨j,h.1.1,h.1.2,?_⟩;cases z:Y[j]? with
  |none=>rw[z]at q1;cases q1
  |some o=>rw[z]at q1;exact ez some q1
 |y::N',none::cap,i+1,x,v,Y,h,e,q=>Caps.at (N':=N') (cap:=cap) (i:=i) h (by simpa using e) (by simpa [dN] using q)
 |y::N',some _::cap,i+1,x,v,Y,h,e,q=>Caps.at (N':=N') (cap:=cap) (i:=i) h.2 (by simpa using e) (by simpa [dN] using q)
 |[],_::_,_,_,_,_,h,_,_=>False.elim h
 |_::_,[],_,_,_,_,h,_,_=>False.elim h
abbrev tx(l:List Nat):Str:=⟨l.toArray⟩
theorem bU(l:List Nat):(tx l).length=l.length:=by simp[Str.length]
theorem iH(a b:List Nat):tx a++tx b=tx (a++b):=by show (⟨a.toArray++b.toArray⟩:Str)=⟨(a++b).toArray⟩;simp
theorem zf{a b:List Nat}(h:tx a=tx b):a=b:=by have:=ez (λx:Str=>x.cps.toList) h;simpa using this
theorem rT(x:Str):x=tx x.cps.toList:=by cases x;simp
section
variable {X:Cx}
theorem zg:∀{ys:List Str}{us:List Value},Vals (ys.map V.str) us->StrsAre us ys
 |[],us,r=>by
  rw[List.map_nil]at r;cases r;exact .nil
 |y::ys,us,r=>by
  rw[ci]at r;cases r with
  |cons r1 r2=>
   obtain ⟨t,e⟩:=r1;subst e;exact .cons y t (zg r2)
def rJoin(K:PF):V->List V->Hp->VK->Prop:=λx vs H Q=>∃z p ys,x=.str z/\vs=[.ref p]/\SqL K H p (ys.map V.str)/\(ys.map (·.length)).sum+ys.length * z.length<=16777216/\Q (.str (Str.join z ys)) H
theorem NT:MtR X "str.join" (rJoin X.K):=by intro pins s Y H x xs v us Q I rx rs h;obtain ⟨z,p,ys,rfl,rfl,hq,hb,q⟩:=h;obtain ⟨t,rfl⟩:=rx;obtain ⟨u,rfl,ru⟩:=vals1 rs;cases ru;obtain ⟨its,rv,pl,hz⟩:=I.list hq;refine join_list pl.isList (by simpa using zg rv) hb λt' k=>⟨.str _,H,I.tok _,⟨_,rfl⟩,?_⟩;have e:Txt.join z ys=Str.join z ys:=StrLaws.glued_eq_join z ys;rw[e];exact q
def NZ(K:PF):List V->Hp->VK->Prop:=λxs H Q=>∃x n t b,xs=[x,.ty n]/\TyOf K H x t/\PySem.W.kitOne K t (.type n)=some b/\Q (.bl b) H
theorem N5:bN X (.builtin "isinstance") (NZ X.K):=by intro pins s Y H xs us Q I r h;obtain ⟨x,n,t,b,rfl,ty,e,q⟩:=h;obtain ⟨u,w',rfl,rx,ry⟩:=vals2 r;cases ry;exact LK I rx ty e λtk=>⟨.bl b,H,I.tok _,rfl,q⟩
theorem N6:bootBuiltins "bool"=some (.type "bool"):=by ac_rfl
theorem zj:bootBuiltins "int"=some (.type "int"):=by ac_rfl
theorem zm:bootBuiltins "str"=some (.type "str"):=by ac_rfl
theorem zp:bootBuiltins "list"=some (.type "list"):=by ac_rfl
theorem zq:bootBuiltins "isinstance"=some (.builtin "isinstance"):=by ac_rfl
theorem zr {x:Str} {T:String} {pos:Pos} (hg:Gl X x) (hm:X.mg x=none) (hv:bootBuiltins x=some (.type T)) (hn:x≠"__name__":=by decide) (hd:(x==("__debug__":Str))=false:=by decide):PE X (.Name x pos) (tC (.ty T)):=
 JP hg hm hv (v:=.ty T) rfl hn hd
theorem N7:OpR X (binaryOp .Mult) (λx y H Q=>∃i n,x=.str i/\y=.int n/\MulOk i n/\Q (.str (Txt.mul i n)) H):=by intro pins s Y H x y v u Q I rx ry h;obtain ⟨i,n,rfl,rfl,hok,q⟩:=h;obtain ⟨t,rfl⟩:=rx;obtain ⟨t',rfl⟩:=ry;exact SB.mul hok λt' k=>⟨.str _,H,I.tok _,⟨_,rfl⟩,q⟩
end
open Builtin Builtin.Str
theorem N8{prog:Program}{w:World}{A:Around}(hh:A.handled=none)(it:Addr)(x:Str)(t:Tok):
  Draws prog w A it [it] x.cps.size (λi v=>∃c u,x.cps[i]?=some c/\v=.str ⟨#[c]⟩ u) (λi h=>h.IsStrIter it (strIterType x) x t i):=by
 unfold strIterType;split
 ·exact Draws.strAscii hh it x t
 ·exact Draws.strWide hh it x t
structure ZApart(z TI TO i1 i2:Addr):Prop where
 TIz:TI≠z
 TOz:TO≠z
 i1z:i1≠z
 i2z:i2≠z
 TITO:TI≠TO
 TIi1:TI≠i1
 TIi2:TI≠i2
 TOi1:TO≠i1
 TOi2:TO≠i2
 i12:i1≠i2
section
variable {X:Cx}
theorem zu:∀{bs:List Bool}{us:List Value}{i:Nat}{v:Value},Vals (bs.map V.bl) us->us[i]?=some v->∃b,bs[i]?=some b/\v=.bool b
 |[],us,i,v,r,e=>by
  rw[List.map_nil]at r;cases r;simp at e
 |b::bs,us,i,v,r,e=>by
  rw[ci]at r;cases r with
  |cons r1 r2=>
   cases i with
   |zero=>
    cases (show _=Value.bool b from r1);exact ⟨b,rfl,by simpa using e.symm⟩
   |succ i=>exact zu (i:=i) r2 (by simpa using e)
theorem Oa:bootBuiltins "all"=some (.builtin "all"):=by ac_rfl
theorem Ob:bootBuiltins "zip"=some (.type "zip"):=by ac_rfl
theorem all_range(bs:List Bool)(n:Nat)(hn:n=bs.length):((List.range n).all λi=>(bs[i]?).getD true)=bs.all id:=by
 subst hn;rw[e7,a7,a7];constructor
 ·intro h b hb;obtain ⟨i,hi,e⟩:=List.mem_iff_getElem.mp hb;have:=h i (List.mem_range.mpr hi);rw[bo hi,e]at this;simpa using this
 ·intro h i hi;have hi':=List.mem_range.mp hi;rw[bo hi'];simpa using h _ (fF hi')
theorem Oc (hc:X.calm=true):bN X (.builtin "all") (λxs H Q=>∃(p:Addr) (bs:List Bool),xs=[.ref p]/\SqL X.K H p (bs.map V.bl)/\Q (.bl (bs.all id)) H):=by
 intro pins s Y H xs us Q I r h;obtain ⟨p,bs,rfl,hq,q⟩:=h;obtain ⟨u,rfl,ru⟩:=vals1 r;cases ru;obtain ⟨its,rv,pl,hz⟩:=I.list hq;have hl:=pl.isList;have hlt:p < (~~~s):=by obtain ⟨_,e,_⟩:=hl;exact ax e
 refine call_all_walk (wpAny_pyIter_list hl ?_);refine ⟨(~~~s),[(~~~s),p],[(~~~s)],its.toArray.size,_,_,λi=>(bs[i]?).getD true,rfl,Walks.list (A:=X.A.in1) (I.ok.hd hc) _ p (cf hlt) its.toArray,
  ⟨⟨_,aI _ rfl,rfl,rfl⟩,hl.push _⟩,λi v s' Q' E' hP hQ=>?_,λh' tk hk=>?_⟩
 ·obtain ⟨b,e,rfl⟩:=zu rv (i:=i) (v:=v) (by simpa using hP);simp only[e,Option.getD_some]at hQ;exact d4 hQ
 ·have e:=all_range bs its.toArray.size (by rw[ap,<-rv.length,ah]);rw[e];exact ⟨.bl _,H,I.kept (λb o q=>hk b o (λhm=>by rw[bn.mp hm]at q;exact d6 _ (ax q)) (ag _ q)),rfl,q⟩
theorem Od:OpR X (compareOp .Is) (λx y H Q=>∃i j,x=.bl i/\y=.bl j/\Q (.bl (i==j)) H):=by intro pins s Y H x y v u Q I rx ry h;obtain ⟨i,j,rfl,rfl,q⟩:=h;cases rx;cases ry;exact is_bool ⟨.bl _,H,I,rfl,q⟩
theorem Oe:bN X (.type "int") (λxs H Q=>∃z n,xs=[.str z]/\PySem.intText? z=some n/\z.length<=640/\Q (.int n) H):=by intro pins s Y H xs us Q I r h;obtain ⟨z,n,rfl,hn,hl,q⟩:=h;obtain ⟨u,rfl,t,rfl⟩:=vals1 r;exact PySem.W.KIN.call_text hn hl ⟨.int n,H,I.tok _,⟨_,rfl⟩,q⟩
def Og:V->Option Int->Option Int->Hp->VK->Prop:=λx lo hi H Q=>∃z,x=.str z/\z.length<=sizeLine/\Q (.str (Txt.slice z lo hi)) H
theorem Oh:SlR X Og:=by
 intro pins s Y H x v vl vu lo hi sl Q I rx hs pl pu h;obtain ⟨z,rfl,hz,q⟩:=h;obtain ⟨t,rfl⟩:=rx;refine ⟨"str",_,slot_str_getitem.lookup,typeIs_str _ _ _,?_⟩;obtain ⟨l,el,e1⟩:∃l:Option (Int×Tok),vl=partValue l/\l.map (·.1)=lo:=by
  cases pl with
  |none=>exact ⟨none,rfl,rfl⟩
  |int i t=>exact ⟨some (i,t),rfl,rfl⟩
 obtain ⟨u,eu,e2⟩:∃u:Option (Int×Tok),vu=partValue u/\u.map (·.1)=hi:=by
  cases pu with
  |none=>exact ⟨none,rfl,rfl⟩
  |int i t=>exact ⟨some (i,t),rfl,rfl⟩
 subst el eu e1 e2;refine wpAny_getItem_str_slice (l:=l) (u:=u) (st:=none) hs rfl ?_;unfold sliceMade;unfold Txt.slice at q;show (if ((1:Int)==1&&(slicePicked z l u none).length==z.length)=true then Made.val (.str z t) else Made.str ⟨((slicePicked z l u none).filterMap (z.cps[·]?)).toArray⟩).post _ _;have ep:slicePicked z l u none=Builtin.Str.strSliceIndices (l.map (·.1)) (u.map (·.1)) 1 z.length:=rfl;rw[ep];by_cases hc:((1:Int)==1&&(Builtin.Str.strSliceIndices (l.map (·.1)) (u.map (·.1)) 1 z.length).length==z.length)=true
 ·rw[if_pos hc]at q ⊢;exact ⟨.str z,H,I,⟨t,rfl⟩,q⟩
 ·rw[if_neg hc]at q ⊢;refine ⟨?_,⟨.str _,H,I.tok _,⟨_,rfl⟩,q⟩⟩;show (List.filterMap _ _).toArray.size<=sizeLine;rw[ap];have h1:=sliceIndices_le (l.map (·.1)) (u.map (·.1)) z.length;have h2:=List.length_filterMap_le (λx=>z.cps[x]?) (Builtin.Str.strSliceIndices (l.map (·.1)) (u.map (·.1)) 1 z.length);omega
end
section
variable {X:Cx}
theorem Oi:OpR X (compareOp .IsNot) (λx y H Q=>∃i j,x=.bl i/\y=.bl j/\Q (.bl (i != j)) H):=by intro pins s Y H x y v u Q I rx ry h;obtain ⟨i,j,rfl,rfl,q⟩:=h;cases rx;cases ry;exact isnot_bool ⟨.bl _,H,I,rfl,q⟩
end
def noStar:Expr->Bool
 |.Starred ..=>false
 |_=>true
theorem aW(e:Expr)(es:List Expr)(env:Env)(h:noStar e=true):starEach (e::es) env=(false,eval e env)::starEach es env:=by cases e <;> first |rfl |cases h
theorem zx(its:List Value):slicePick its.toArray none none (some (-1))=its.reverse.toArray:=by
 have e:(List.range its.length).map (λk:Nat=>((its.length:Int) - 1 + -1 * (k:Int)).toNat)=(List.range its.length).map λk=>its.length - 1 - k:=by apply List.map_congr_left;intro k _;omega
 have e2:(sliceRange ((its.length:Int) - 1) (-1) (-1))=(List.range its.length).map λk=>its.length - 1 - k:=by
  rw[<-e];unfold sliceRange;dsimp only;rw[if_neg (by decide)];congr 2;by_cases h:(its.length:Int) - 1 > -1
  ·rw[if_pos h,show (-(-1):Int)=1 by decide,Int.ediv_one];omega
  ·rw[if_neg h];omega
 have e3:((List.range its.length).map λk=>its.length - 1 - k).filterMap (λx=>its.toArray[x]?)=its.reverse:=by
  have h1:∀x∈(List.range its.length).map (λk=>its.length - 1 - k),its.toArray[x]?=some (its.getD x .none):=by intro x hx;obtain ⟨k,hk,rfl⟩:=bP.mp hx;have:=List.mem_range.mp hk;rw[List.getElem?_toArray,List.getD_eq_getElem?_getD,bo (by omega)];rfl
  have h2:∀l:List Nat,(∀x∈l,its.toArray[x]?=some (its.getD x .none))->(l.filterMap λx=>its.toArray[x]?)=l.map λx=>its.getD x .none:=λl=>by
   induction l with
   |nil=>intro _;rfl
   |cons a l ih=>intro hl;rw[ci,<-ih λx hx=>hl x (a9 _ hx),dP,hl a bS]
  rw[h2 _ h1,fg];apply List.ext_getElem
  ·simp
  ·intro i hi hj;rw[List.getElem_map,List.getElem_range,List.getElem_reverse];have:its.length - 1 - i < its.length:=by simp at hi;omega
   show its.getD (its.length - 1 - i) .none=_;rw[List.getD_eq_getElem?_getD,bo this];rfl
 show ((sliceRange ((its.toArray.size:Int) - 1) (-1) (-1)).filterMap λx=>its.toArray[x]?).toArray=_;rw[ap,e2,e3]
theorem Vals.back{xs:List V}{us:List Value}(r:Vals xs us):Vals xs.reverse us.reverse:=Vals.reverse r
variable {X:Cx} {e st:Expr} {te ts:TE} {p2 pos:Pos}
open Sem (wp)
inductive KD {α:Type}:Sem α->Prop
 |pure (a:α):KD (.pure a)
 |raise (e:Value):KD (.raise e)
 |uns (w:String):KD (.unsupported w)
 |rule {t:String} {k:Unit->Sem α} (h:∀x,KD (k x)):KD (.rule t k)
 |load {a:Addr} {p:Option Value} {k:Obj->Sem α} (h:∀x,KD (k x)):KD (.load a p k)
 |update {a:Addr} {p:Option Value} {f:Obj->Obj} {k:Unit->Sem α} (hf:∀o,(f o).dict=o.dict) (h:∀x,KD (k x)):KD (.update a p f k)
 |alloc {o:Obj} {k:Addr->Sem α} (h:∀x,KD (k x)):KD (.alloc o k)
 |register {a:Addr} {k:Unit->Sem α}:KD (.register a k)
 |ask {k:Setting->Sem α} (h:∀x,KD (k x)):KD (.ask k)
 |stack {k:List (Code×Pos)->Sem α} (h:∀x,KD (k x)):KD (.stack k)
 |fresh {k:Tok->Sem α} (h:∀x,KD (k x)):KD (.fresh k)
theorem KD.bind{α β:Type}{m:Sem α}{f:α->Sem β}(h:KD m)(hf:∀a,KD (f a)):KD (m >>= f):=by
 show KD (Sem.bind m f);induction h with
 |pure a=>exact hf a
 |raise e=>exact .raise e
 |uns w=>exact .uns w
 |rule _ ih=>exact .rule ih
 |load _ ih=>exact .load ih
 |update q _ ih=>exact .update q ih
 |alloc _ ih=>exact .alloc ih
 |register=>exact .register
 |ask _ ih=>exact .ask ih
 |stack _ ih=>exact .stack ih
 |fresh _ ih=>exact .fresh ih
def DKp(h h':Heap):Prop:=∀(b:Addr)(o:Obj),h.objs[b]?=some o->∃o':Obj,h'.objs[b]?=some o'/\o'.dict=o.dict
theorem DKp.refl(h:Heap):DKp h h:=λ_ o e=>⟨o,e,rfl⟩
theorem DKp.trans{h₁ h₂ h₃:Heap}(x:DKp h₁ h₂)(y:DKp h₂ h₃):DKp h₁ h₃:=λb o e=>by
 obtain ⟨o1,e1,d1⟩:=x b o e;obtain ⟨o2,e2,d2⟩:=y b o1 e1;exact ⟨o2,e2,d2.trans d1⟩
theorem DKp.push(h:Heap)(o:Obj):DKp h (h.push o):=λb u e=>by
 refine ⟨u,?_,rfl⟩;have hb:=(ef.mp e).1;obtain ⟨objs,l⟩:=h;show (objs.push o)[b]?=some u;rw[Array.getElem?_push,if_neg (cf hb)];exact e
theorem DKp.update(h:Heap)(a:Addr){f:Obj->Obj}(hf:∀o,(f o).dict=o.dict):DKp h (h.update a f):=λb u e=>by
 obtain ⟨objs,l⟩:=h;have e:objs[b]?=some u:=e;show ∃o':Obj,(objs.modify a f)[b]?=some o'/\o'.dict=u.dict;rw[Array.getElem?_modify,e];by_cases q:a=b
 ·rw[if_pos q];exact ⟨f u,rfl,hf u⟩
 ·rw[if_neg q];exact ⟨u,rfl,rfl⟩
theorem DKp.at{h h':Heap}{a:Addr}{o o':Obj}(x:DKp h h')(e:h.get? a=some o)(e':h'.get? a=some o'):o'.dict=o.dict:=by obtain ⟨o1,e1,d1⟩:=x a o (Heap.get?_some_iff.mp e).1;rw[(Heap.get?_some_iff.mp e').1]at e1;cases e1;exact d1
theorem Oj{α:Type}{M:Model}{Γ:PySem.Ctx}{t:Sem α}(k:KD t):∀{Q:α->Pos->Shared->Prop}{E:Value->Pos->Shared->Prop}{p:Pos}{s:Shared},wp M Γ t Q E p s->
  wp M Γ t (λa p' s'=>Q a p' s'/\DKp s.heap s'.heap) (λe p' s'=>E e p' s'/\DKp s.heap s'.heap) p s:=by
 induction k with
 |pure a=>intro Q E p s h;exact ⟨h,.refl _⟩
 |raise e=>intro Q E p s h;exact ⟨h,.refl _⟩
 |uns w=>intro Q E p s h;exact h
 |rule _ ih=>intro Q E p s h;exact ih () h
 |load _ ih=>intro Q E p s h;obtain ⟨o,e,h⟩:=h;exact ⟨o,e,ih o h⟩
 |update q _ ih=>
  intro Q E p s h;exact ⟨h.1,Sem.wp_mono M Γ _ (λ_ _ _ z=>⟨z.1,(DKp.update _ _ q).trans z.2⟩) (λ_ _ _ z=>⟨z.1,(DKp.update _ _ q).trans z.2⟩) _ _ (ih () h.2)⟩
 |alloc _ ih=>
  intro Q E p s h;exact Sem.wp_mono M Γ _ (λ_ _ _ z=>⟨z.1,(DKp.push _ _).trans z.2⟩) (λ_ _ _ z=>⟨z.1,(DKp.push _ _).trans z.2⟩) _ _ (ih _ h)
 |register=>intro Q E p s h;exact h
 |ask _ ih=>intro Q E p s h;exact ih _ h
 |stack _ ih=>intro Q E p s h;exact ih _ h
 |fresh _ ih=>intro Q E p s h;exact ih _ h
theorem jM{α:Type}{M:Model}{A:Around}{t:Sem α}{Q:α->Shared->Prop}{E:Value->Shared->Prop}{s:Shared}(k:KD t)(h:wpAny M A t Q E s):wpAny M A t (λa s'=>Q a s'/\DKp s.heap s'.heap) E s:=
 fun Γ p hΓ=>Sem.wp_mono M Γ t (λ_ _ _ z=>z) (λ_ _ _ z=>And.left z) p s (Oj k (h Γ p hΓ))
theorem rW{α:Type}{c:Prop}[Decidable c]{a b:Sem α}(ha:KD a)(hb:KD b):KD (if c then a else b):=by split <;> assumption
theorem rY(a:Addr):KD (load a):=.load λx=>.pure x
theorem zy{a:Addr}{f:Obj->Obj}(hf:∀o,(f o).dict=o.dict):KD (update a f):=.update hf λx=>.pure x
theorem rZ:KD stack:=.stack λx=>.pure x
theorem Ol(v:Value):KD (fieldsOf v):=by
 unfold fieldsOf;split
 ·refine KD.bind (rY _) λx=>?_;split
  ·exact .pure _
  ·exact .uns _
 ·exact .uns _
theorem n6(v:Value)(i:Nat):KD (field v i):=by
 unfold field;refine KD.bind (Ol v) λx=>?_;split
 ·exact .pure _
 ·exact .uns _
theorem Om(f:Array Value->Array Value)(o:Obj):(Obj.mapFields f o).dict=o.dict:=by unfold Obj.mapFields;split <;> rfl
theorem su(v:Value)(i:Nat)(x:Value):KD (setField v i x):=by
 unfold setField;split
 ·unfold updateField;refine KD.bind (rY _) λo=>?_;split
  ·exact rW (zy (Om _)) (.uns _)
  ·exact .uns _
 ·exact .uns _
theorem sy(e:Value)(f:Option Addr):KD (setFlight e f):=by
 unfold setFlight;refine KD.bind (n6 _ _) λx=>?_;split
 ·exact su _ _ _
 ·exact .pure _
theorem Oo(env:Env)(l:List Env):KD (behindIsImport env l):=by
 unfold behindIsImport;split
 ·exact .pure _
 ·split
  ·exact .pure _
  ·exact KD.bind (n6 _ _) λx=>.pure _
theorem Oq(env:Env)(b:Bool):∀l:List Env,KD (keptBack env b l)
 |[]=>rW (.pure _) (KD.bind (KD.bind rZ λx=>.pure _) λx=>.pure _)
 |_::_=>.pure _
theorem zz:∀l:List Env,KD (readyFrames l)
 |[]=>.pure _
 |env::l=>by
  unfold readyFrames;split
  ·refine KD.bind (rY _) λo=>?_;split
   ·exact .pure _
   ·refine KD.bind (Oo _ _) λb=>KD.bind (Oq _ _ _) λv=>KD.bind (zy λo=>rfl) λ_=>zz l
  ·exact .uns _
theorem Ot(env:Env):KD (PySem.frameOf env):=by
 unfold PySem.frameOf frameEnvs;refine KD.bind (KD.bind rZ λ_=>.pure _) λl=>KD.bind ?_ λf=>?_
 ·unfold frameObject;split
  ·exact .pure _
  ·exact KD.bind (zz _) λ_=>.pure _
 ·split
  ·exact .pure _
  ·exact .uns _
theorem Ou(f:Addr)(b:Bool):KD (entryPlaceOf f b):=by unfold entryPlaceOf;refine KD.bind rZ λl=>?_;split <;> exact .pure _
theorem Ov(a b c d e:Value)(l:List Value):KD (EntryCells.newEntry a b c d e l):=by exact rW (.uns _) (KD.bind (.alloc λx=>.pure x) λx=>.pure _)
theorem zA(e:Value)(env:Env):KD (noteFrame e env):=by
 unfold noteFrame;split
 ·refine KD.bind (n6 _ _) λhd=>?_;have fin:∀f:Addr,KD (do let a <-PySem.frameOf env;let pl <-entryPlaceOf f (hd != .none);let b <-EntryCells.newEntry hd a .none (rawInt f) .none pl;setField e 1 b):=λf=>
   KD.bind (Ot _) λ_=>KD.bind (Ou _ _) λ_=>KD.bind (Ov _ _ _ _ _ _) λ_=>su _ _ _
  split
  ·refine KD.bind (n6 _ _) λx=>?_;split
   ·exact .pure _
   ·exact KD.bind (su _ _ _) λ_=>fin _
  ·exact fin _
 ·exact .uns _
theorem zB(env:Env)(e:Value):KD (leaving env e):=KD.bind (zA _ _) λ_=>sy _ _
def holes(h:Heap)(l:List Addr):Heap:={ h with objs:=h.objs.mapIdx λi o=>if l.contains i then { o with data:=.freed } else o }
theorem zE{h:Heap}{l:List Addr}{b:Addr}:(holes h l).get? b=if l.contains b then none else h.get? b:=by
 unfold holes Heap.get?;simp only[Array.getElem?_mapIdx];cases hb:h.objs[b]? with
 |none=>simp
 |some o=>
  cases hc:l.contains b with
  |true=>simp[hc]
  |false=>simp[hc]
theorem gf{h:Heap}{l:List Addr}{b:Addr}(hb:b∈l):(holes h l).get? b=none:=by rw[zE,al.mpr hb];rfl
theorem sE{h:Heap}{l:List Addr}{b:Addr}(hb:b∉l):(holes h l).get? b=h.get? b:=by
 rw[zE];cases hc:l.contains b with
 |true=>exact absurd (al.mp hc) hb
 |false=>rfl
theorem n8{h:Heap}{l:List Addr}:(holes h l).StaysIn h:=λb o e=>by
 by_cases hb:b∈l
 ·rw[gf hb]at e;cases e
 ·rw[sE hb]at e;exact e
theorem ObjOk.at{P:Program}{w:World}{H:Hp}{h:Heap}{a:Addr}{o:HO}(x:ObjOk P w H h a o):∃u,h.get? a=some u:=by
 cases o with
 |lst xs=>obtain ⟨_,_,_,_,e⟩:=x;exact ⟨_,e⟩
 |tup xs=>obtain ⟨_,_,_,o,e,_⟩:=x;exact ⟨_,e⟩
 |dK kvs=>obtain ⟨_,_,_,_,o,_,_,e,_⟩:=x;exact ⟨_,e⟩
 |dT kvs=>obtain ⟨_,_,_,_,o,_,_,e,_⟩:=x;exact ⟨_,e⟩
 |set S n=>obtain ⟨o,_,_,_,e,_⟩:=x;exact ⟨_,e⟩
 |ins C dx fs=>obtain ⟨_,_,_,e,_⟩:=x;exact ⟨_,e⟩
 |own y=>exact x
 |xd fs=>obtain ⟨_,⟨_,_,_,e,_⟩,_⟩:=x;exact ⟨_,e⟩
 |rng lo hi=>obtain ⟨_,_,_,e⟩:=x;exact ⟨_,e⟩
 |frz ob u=>obtain ⟨e,_⟩:=x;exact ⟨_,e⟩
 |tbl ps=>exact ⟨_,(show h.get? a=some _ from x)⟩
 |met f y=>exact ⟨_,(show h.get? a=some _ from x)⟩
 |ext φ=>obtain ⟨_,e,_⟩:=x;exact e
theorem HOk.gone{P:Program}{w:World}{H:Hp}{h:Heap}{a:Addr}(x:HOk P w H h)(e:h.get? a=none):H a=none:=by
 cases q:H a with
 |none=>rfl
 |some u=>obtain ⟨o,ho⟩:=(x a u q).at;rw[ho]at e;cases e
theorem sG{h base:Heap}:∀{l:List Env},h.FunFrames base l->∀b∈frs l,∃o,h.get? b=some o/\∀vs,o.data≠.fields vs
 |[],_,b,hb=>by cases hb
 |env::l,hf,b,hb=>by
  unfold Heap.FunFrames at hf;obtain ⟨_,⟨L,o,e1,_,e3,e4⟩,hr⟩:=hf;unfold frs at hb;rw[dP,e1]at hb;rcases ay.mp hb with rfl |hb
  ·exact ⟨o,e3,e4⟩
  ·exact sG hr b hb
theorem jN{h base:Heap}{x:List Addr}:∀{l:List Env},h.FunFrames base l->(∀b∈frs l,b∈x)->h.FunFrames (holes h x) l
 |[],_,_=>by unfold Heap.FunFrames;trivial
 |env::l,hf,hx=>by
  unfold Heap.FunFrames at hf ⊢;obtain ⟨h1,⟨L,o,e1,_,e3,e4⟩,hr⟩:=hf;have hL:L∈frs (env::l):=by unfold frs;rw[dP,e1];exact bS
  refine ⟨h1,⟨L,o,e1,gf (hx L hL),e3,e4⟩,jN hr λb hb=>hx b ?_⟩;unfold frs at hb ⊢;rw[dP,e1];exact a9 _ hb
theorem sH{h base:Heap}{env:Env}{l:List Env}(hf:h.FunFrames base (env::l)):∃L,env.frame=some L:=by unfold Heap.FunFrames at hf;obtain ⟨_,⟨L,o,e1,_⟩,_⟩:=hf;exact ⟨L,e1⟩
def Tr(h0:Heap)(H:Hp)(h:Heap)(a:Addr)(c:Value)(od:Option Addr):Prop:=
 ∃oe vs T oT ts,h.get? a=some oe/\oe.cls=c/\oe.data=.fields vs/\vs[1]?=some (.ref T)/\T≠a/\h.get? T=some oT/\oT.data=.fields ts/\ts[3]?=some .none/\
  h0.get? a=none/\h0.get? T=none/\H a=none/\H T=none/\oe.dict=od
def CX1(P:Program)(w:World):CXT:=λouter H s E e s'=>
 ∃(a:Addr)(c:Value)(od:Option Addr)(H':Hp),e=.ref a/\s'.os=s.os/\AllBare s'.gens/\Un (frs outer) [] H H' s.heap s'.heap/\HOk P w H' s'.heap/\Tr s.heap H' s'.heap a c od/\E c od H'
theorem zF{P:Program}{w:World}{fs st:List Addr}{H0 H:Hp}{h0 h h':Heap}{l:List Env}{a:Addr}{xs:List Addr}{c:Value}{od:Option Addr}(un:Un fs [] H0 H h0 h)(hok:HOk P w H h)
  (up:∀b∈fs,b∈st) (old:∀b o,h0.get? b=some o->b∉fs->b∉st) (fr:∀b∈st,H b=none/\∃o,h.get? b=some o/\∀vs,o.data≠.fields vs)
  (ha:h0.get? a=none) (hHa:H a=none) (hxs:∀x∈xs,h0.get? x=none/\H x=none)
  (L:(holes h (st++a::xs)).Left l a c h h') (hdk:∀o,h'.get? a=some o->o.dict=od):Un fs [] H0 H h0 h'/\HOk P w H h'/\Tr h0 H h' a c od:=by
 obtain ⟨stay,_,tr,slots⟩:=L;have old:∀b o,h0.get? b=some o->b∉fs->b∉st++a::xs:=by
  intro b o hb hf hin;rcases bv.mp hin with hin |hin
  ·exact old b o hb hf hin
  ·rcases ay.mp hin with e |e
   ·rw[e,ha]at hb;cases hb
   ·rw[(hxs b e).1]at hb;cases hb
 have kept:∀b o,h.get? b=some o->b∉st++a::xs->h'.get? b=some o:=λb o e hn=>stay b o (by rw[sE hn];exact e);have trk:∀b o,H b=some o->b∉st++a::xs:=by
  intro b o hb hin;rcases bv.mp hin with hin |hin
  ·rw[(fr b hin).1]at hb;cases hb
  ·rcases ay.mp hin with e |e
   ·rw[e,hHa]at hb;cases hb
   ·rw[(hxs b e).2]at hb;cases hb
 have noex:∀b:Addr,b∉([]:List Addr):=λb hb=>by cases hb
 have frd:∀b∈st,∀o,h.get? b=some o->∀vs,o.data≠.fields vs:=by intro b hb o ho vs;obtain ⟨_,o',e1,e2⟩:=fr b hb;rw[e1]at ho;cases ho;exact e2 vs
 refine ⟨⟨?_,?_,?_,?_,un.tups,un.frzs,un.tbls⟩,?_,?_⟩
 ·intro b o hb hn hf _;exact kept b o (un.keep b o hb hn hf (noex b)) (old b o hb hf)
 ·intro b o hb hn hf _;obtain ⟨sl,e⟩:=un.slot b o hb hn hf (noex b);obtain ⟨sl',e'⟩:=slots b _ e (frd b (up b hf) _ e);exact ⟨sl',e'⟩
 ·intro b o hb hn _;exact un.free b o hb hn (noex b)
 ·intro b o hb _;obtain ⟨o',e⟩:=un.there b o hb (noex b);by_cases hin:b∈st++a::xs
  ·rcases bv.mp hin with h1 |h1
   ·obtain ⟨sl',e'⟩:=slots b _ e (frd b h1 _ e);exact ⟨_,e'⟩
   ·rcases ay.mp h1 with e2 |e2
    ·rw[e2,ha]at hb;cases hb
    ·rw[(hxs b e2).1]at hb;cases hb
  ·exact ⟨_,kept b o' e hin⟩
 ·intro b o hb;refine (hok b o hb).stay (λb' u hb' e=>kept b' u e ?_) (λ_ z=>z) λ_ _ z=>z;rcases hb' with rfl |hb'
  ·exact trk _ _ hb
  ·exact trk _ _ hb'
 ·obtain ⟨oe,vs,T,oT,ts,t1,t2,t3,t4,t5,t6,t7,t8,t9⟩:=tr;have hT:T∈xs\/h.get? T=none:=by
   by_cases hin:T∈st++a::xs
   ·rcases bv.mp hin with h1 |h1
    ·exfalso;obtain ⟨_,o,e1,e2⟩:=fr T h1;obtain ⟨sl,e3⟩:=slots T o e1 e2;rw[e3]at t7;cases t7;exact e2 ts t8
    ·rcases ay.mp h1 with e2 |e2
     ·exact absurd e2 t6
     ·exact .inl e2
   ·rw[sE hin]at t5;exact .inr t5
  refine ⟨oe,vs,T,oT,ts,t1,t2,t3,t4,t6,t7,t8,t9,ha,?_,hHa,?_,hdk oe t1⟩
  ·rcases hT with h1 |h1
   ·exact (hxs T h1).1
   ·cases e:h0.get? T with
    |none=>rfl
    |some o=>obtain ⟨o',e'⟩:=un.there T o e (noex T);rw[e']at h1;cases h1
  ·rcases hT with h1 |h1
   ·exact (hxs T h1).2
   ·exact hok.gone h1
section
variable {X:Cx} {pins:List (Addr×Obj)} {σ:St} {H:Hp} {s:Shared}
theorem zG(J:Inv X pins σ H s)(hst:X.stack=X.env::X.outer)(hex:X.ex=[]){a:Addr}{xs:List Addr}{c:Value}{od:Option Addr}{E:XK}
  (ha:X.s₀.heap.get? a=none) (hHa:H a=none) (hxs:∀x∈xs,X.s₀.heap.get? x=none/\H x=none)
  {h':Heap} (L:(holes s.heap (frs X.stack++a::xs)).Left (X.env::X.outer) a c s.heap h') (hdk:∀o,h'.get? a=some o->o.dict=od) (q:E c od H):
  CX1 X.prog X.w X.outer X.H₀ X.s₀ E (.ref a) { s with heap:=h' }:=by
 have sub:=J.stkSub;have hb0:=J.base;rw[hex]at hb0;have up:∀b∈X.fs,b∈frs X.stack:=by
  intro b hb;rw[hst];unfold Cx.fs at hb;unfold frs at hb ⊢;rw[dP];split
  ·exact hb
  ·exact a9 _ hb
 have old:∀b o,X.s₀.heap.get? b=some o->b∉X.fs->b∉frs X.stack:=by
  intro b o hb hf hin;rcases ay.mp (sub b hin) with e |e
  ·have h1:=ax hb;have h2:=J.ok.above;rw[e]at h1;exact absurd h1 (Nat.not_lt.mpr h2)
  ·exact hf e
 obtain ⟨u,k,t⟩:=zF hb0 J.hok up old (λb hb=>⟨J.stkFree b hb,sG J.stack b hb⟩) ha hHa hxs L hdk;exact ⟨a,c,od,H,rfl,J.os,J.bare,u,k,t,q⟩
theorem Ow(J:Inv X pins σ H s)(hst:X.stack=X.env::X.outer)(hex:X.ex=[]){a:Addr}{c:Value}{od:Option Addr}{E:XK}(t:Tr X.s₀.heap H s.heap a c od)(q:E c od H){E':Value->Shared->Prop}:
  ↥X (leaving X.env (.ref a)) (λ_ s''=>CX1 X.prog X.w X.outer X.H₀ X.s₀ E (.ref a) s'') E' s:=by
 obtain ⟨oe,vs,T,oT,ts,t1,t2,t3,t4,t6,t7,t8,t9,n1,n2,n3,n4,n5⟩:=t;have hfr:=J.stack;rw[hst]at hfr;obtain ⟨L,hL⟩:=sH hfr;have sub:∀b∈frs (X.env::X.outer),b∈frs X.stack++a::[T]:=λb hb=>by rw[hst];exact dE _ hb
 refine bb (jM (zB _ _) (wpAny_leaving_next (base:=holes s.heap (frs X.stack++a::[T])) (cls:=c) (Q:=λ_ s'=>∃h',s'={ s with heap:=h' }/\(holes s.heap (frs X.stack++a::[T])).Left (X.env::X.outer) a c s.heap h') (by rw[J.ok.frames,hst]) (jN hfr sub) hL ?_ n8 (gf (by simp)) λh' hl=>⟨h',rfl,hl⟩)) (λ_ s' z=>?_) λ_ _ z=>z
 ·exact ⟨oe,vs,T,oT,ts,t1,t2,t3,t4,gf (by simp),t6,t7,t8,t9⟩
 ·obtain ⟨⟨h',rfl,hl⟩,dk⟩:=z;exact zG J hst hex n1 n3 (λx hx=>by rw[bn.mp hx];exact ⟨n2,n4⟩) hl (λo eo=>(dk.at t1 eo).trans n5) q
theorem leave_new(J:Inv X pins σ H s)(hst:X.stack=X.env::X.outer)(hex:X.ex=[]){a:Addr}{oe:Obj}{vs:Array Value}{E:XK}(e:s.heap.get? a=some oe)(hd:oe.data=.fields vs)(h1:vs[1]?=some .none)(n1:X.s₀.heap.get? a=none)(hH:H a=none)(q:E oe.cls oe.dict H){E':Value->Shared->Prop}:
  ↥X (leaving X.env (.ref a)) (λ_ s''=>CX1 X.prog X.w X.outer X.H₀ X.s₀ E (.ref a) s'') E' s:=by
 have hfr:=J.stack;rw[hst]at hfr;obtain ⟨L,hL⟩:=sH hfr;have sub:∀b∈frs (X.env::X.outer),b∈frs X.stack++a::[]:=λb hb=>by rw[hst];exact dE _ hb
 refine bb (jM (zB _ _) (wpAny_leaving_first (base:=holes s.heap (frs X.stack++a::[])) (Q:=λ_ s'=>∃h',s'={ s with heap:=h' }/\(holes s.heap (frs X.stack++a::[])).Left (X.env::X.outer) a oe.cls s.heap h') (by rw[J.ok.frames,hst]) (jN hfr sub) hL e n8 (gf (by simp)) hd h1 λh' hl=>⟨h',rfl,hl⟩)) (λ_ s' z=>?_) λ_ _ z=>z;obtain ⟨⟨h',rfl,hl⟩,dk⟩:=z;exact zG J hst hex n1 hH (λx hx=>by cases hx) hl (λo eo=>dk.at e eo) q
theorem Oz{E:XK}(hst:X.stack=X.env::X.outer)(hex:X.ex=[])(hxe:∀e s',↥X (leaving X.env e) (λ_ s''=>CX1 X.prog X.w X.outer X.H₀ X.s₀ E e s'') (λe' s''=>CX1 X.prog X.w X.outer X.H₀ X.s₀ E e' s'') s'->X.xe e s'):
  gb (CX1 X.prog X.w) X E:=by
 intro pins σ H s e s' I h;obtain ⟨a,c,od,H',rfl,ho,hg,un,hok,tr,q⟩:=h;have J:Inv X pins σ H' s':=I.call' (ch:=[]) ho un hok hg (λb z=>absurd z (by simp));refine hxe _ _ (Ow J hst hex ?_ q);obtain ⟨oe,vs,T,oT,ts,t1,t2,t3,t4,t6,t7,t8,t9,n1,n2,n3,n4,n5⟩:=tr;have old:∀b,s.heap.get? b=none->X.s₀.heap.get? b=none:=λb hb=>by
  cases e:X.s₀.heap.get? b with
  |none=>rfl
  |some o=>
   obtain ⟨o',e'⟩:=I.base.there b o e (by rw[hex];simp);rw[hb]at e';cases e'
 exact ⟨oe,vs,T,oT,ts,t1,t2,t3,t4,t6,t7,t8,t9,old a n1,old T n2,n3,n4,n5⟩
theorem oh{P:Program}{w:World}(Y:Cx):gb (CX1 P w) Y λ_ _ _=>False:=λ_ _ _ _ _ _ _ h=>by
 obtain ⟨_,_,_,_,_,_,_,_,_,_,q⟩:=h;exact q.elim
end
abbrev veM:List Value:=[.type "ValueError",.type "Exception",.type "BaseException",.type "object"]
def ou:List Value->Bool
 |[.type a,.type b,.type c,.type d]=>a=="ValueError"&&b=="Exception"&&c=="BaseException"&&d=="object"
 |_=>false
theorem zH{l:List Value}(h:ou l=true):l=veM:=by
 unfold ou at h;split at h
 ·simp only[ae,ai]at h;obtain ⟨⟨⟨rfl,rfl⟩,rfl⟩,rfl⟩:=h;rfl
 ·cases h
def oA:Value->Bool
 |.str _ _=>true
 |_=>false
def nsB(K:PF)(N:Addr):Bool:=match K.lookup N with
 |some ⟨_,_,.dict es _,_⟩=>es.toList.all (λe=>oA e.key)&&quietNames.all λn=>(nsFind es n).isNone
 |_=>false
theorem OD{K:PF}{N:Addr}{h:Heap}(KX:K.In h)(b:nsB K N=true):∃m,h.Ns N m/\∀n∈quietNames,m n=none:=by
 unfold nsB at b;split at b
 ·rename_i c d es ep sl e;rw[ae,a7,a7]at b;refine ⟨nsFind es,⟨_,es,ep,KX _ _ e,rfl,λx hx=>?_,λ_=>rfl⟩,λn hn=>by simpa using b.2 n hn⟩;have:=b.1 x (Array.mem_toList_iff.mpr hx);unfold oA at this;split at this
  ·rename_i y t e;exact ⟨_,_,e⟩
  ·cases this
 ·cases b
def zJ(K:PF)(A:Addr):Bool:=match K.lookup A with
 |some ⟨_,_,.cls cd,_⟩=>nsB K cd.ns
 |_=>false
def jO(K:PF):List Value->Bool
 |[]=>false
 |v::tl=>(match v with |.ref A=>zJ K A&&jO K tl |_=>ou (v::tl))
theorem zK{K:PF}{h:Heap}(KX:K.In h):∀{l:List Value},jO K l=true->OwnTailQ h veM l
 |[],b=>by cases b
 |v::tl,b=>by
  unfold jO at b;split at b
  ·rename_i A;rw[ae]at b;have b1:=b.1;unfold zJ at b1;split at b1
   ·rename_i c d cd sl e;obtain ⟨m,hm,hq⟩:=OD KX b1;exact .own (KX _ _ e) hm hq (zK KX b.2)
   ·cases b1
  ·rw[zH b];exact .base
def isRef(C:Addr):Value->Bool
 |.ref a=>a==C
 |_=>false
def isNew:Option Value->Bool
 |some (.builtin s)=>s=="ValueError.__new__"
 |_=>false
def sI:Value->Bool
 |.type s=>s=="type"
 |_=>false
def oE(K:PF)(C:Addr):Bool:=match K.lookup C with
 |some ⟨ty,_,.cls cd,⟨[_,_,_,_,k,_]⟩⟩=>sI ty&&isNew k&&nsB K cd.ns&&!cd.hasDel&&(match cd.mro with |v::tl=>isRef C v&&jO K tl |[]=>false)
 |_=>false
theorem OJ{h:Heap}{bmB bm:List Value}(t:OwnTail h bmB bm){v:Value}(hv:bmB.contains v=true):bm.contains v=true:=by
 induction t with
 |base=>exact hv
 |own _ _ _ _ ih=>rw[List.contains_cons,ih,Bool.or_true]
section
variable {X:Cx}
theorem oF(x y:Str):(x++y).length=x.length+y.length:=by show (x.cps++y.cps).size=_;rw[Array.size_append];rfl
theorem digits_le:∀n:Fin 100,(Str.ofString (toString (n.val:Int))).length<=3:=by ac_rfl
def Throws(X:Cx)(E:XK):Prop:=∀(pins:List (Addr×Obj))(Y:St)(H:Hp)(s:Shared)(a:Addr)(oe:Obj)(vs:Array Value),Inv X pins Y H s->s.heap.get? a=some oe->oe.data=.fields vs->vs[1]?=some .none->(∀o,X.s₀.heap.get? a=some o->a∈X.ex)->H a=none->E oe.cls oe.dict H->X.xe (.ref a) s
theorem O1{E:XK}(hst:X.stack=X.env::X.outer)(hex:X.ex=[])(hxe:∀e s',↥X (leaving X.env e) (λ_ s''=>CX1 X.prog X.w X.outer X.H₀ X.s₀ E e s'') (λe' s''=>CX1 X.prog X.w X.outer X.H₀ X.s₀ E e' s'') s'->X.xe e s'):Throws X E:=
 λ_ _ _ _ a _ _ I e hd h1 n hH q=>hxe _ _ (leave_new I hst hex e hd h1 (by
  cases e0:X.s₀.heap.get? a with
  |none=>rfl
  |some o=>have:=n o e0;rw[hex]at this;cases this) hH q)
end
section
variable {X:Cx}
abbrev Cx.marked(X:Cx)(a:Addr)(E:Value->Shared->Prop):Cx:={ X with A:=X.A.mark (some (.ref a)),calm:=false,xe:=E }
theorem Cx.Ok.marked{X:Cx}(ok:X.Ok)(a:Addr)(E:Value->Shared->Prop):(X.marked a E).Ok:=
 ⟨ok.mod,ok.kind,ok.glob,ok.blt,ok.above,ok.inj,ok.has,ok.cab,λh=>(by cases h),ok.frames,ok.stk,ok.exf,ok.bs,ok.bsz,ok.noex,ok.exfs,ok.funs,ok.frf⟩
variable {pins:List (Addr×Obj)} {σ:St} {H:Hp} {s:Shared}
theorem Inv.marked(I:Inv X pins σ H s)(a:Addr)(E:Value->Shared->Prop):Inv (X.marked a E) pins σ H s:=⟨I.ok.marked a E,I.os,I.bare,I.base,I.loc,I.cell,I.free,I.freeC,I.pin,I.hok,I.len⟩
theorem Inv.unmarked{a:Addr}{E:Value->Shared->Prop}(I:Inv (X.marked a E) pins σ H s)(ok:X.Ok):Inv X pins σ H s:=⟨ok,I.os,I.bare,I.base,I.loc,I.cell,I.free,I.freeC,I.pin,I.hok,I.len⟩
theorem SP.unmarked{a:Addr}{E:Value->Shared->Prop}{D:Ends}{f:Flow}{s':Shared}(ok:X.Ok)(h:SP (X.marked a E) pins D f s'):SP X pins D f s':=by
 cases f with
 |next=>obtain ⟨σ',H',I,q⟩:=h;exact ⟨σ',H',I.unmarked ok,q⟩
 |brk=>obtain ⟨σ',H',I,q⟩:=h;exact ⟨σ',H',I.unmarked ok,q⟩
 |cont=>obtain ⟨σ',H',I,q⟩:=h;exact ⟨σ',H',I.unmarked ok,q⟩
 |ret u=>obtain ⟨v,σ',H',I,r,q⟩:=h;exact ⟨v,σ',H',I.unmarked ok,r,q⟩
structure Caught(X:Cx)(H:Hp)(s:Shared)(H':Hp)(a:Addr)(c:Value)(od:Option Addr)(s':Shared):Prop where
 os:s'.os=s.os
 bare:AllBare s'.gens
 un:Un (frs X.stack) [] H H' s.heap s'.heap
 hok:HOk X.prog X.w H' s'.heap
 tr:Tr s.heap H' s'.heap a c od
variable {H':Hp} {a:Addr} {c:Value} {od:Option Addr} {s':Shared}
theorem Caught.inv(K:Caught X H s H' a c od s')(I:Inv X pins σ H s):Inv X pins σ H' s':=I.call' (ch:=[]) K.os K.un K.hok K.bare (λb z=>absurd z (by simp))
theorem Caught.left(K:Caught X H s H' a c od s')(I:Inv X pins σ H s){T:Addr}{h':Heap}{l:List Env}(hT:s.heap.get? T=none/\H' T=none)(L:(holes s'.heap (frs X.stack++a::[T])).Left l a c s'.heap h')(hdk:∀o,h'.get? a=some o->o.dict=od):Caught X H s H' a c od { s' with heap:=h' }:=by have J:=K.inv I;obtain ⟨_,_,_,_,_,_,_,_,_,_,_,_,_,n1,_,n3,_⟩:=K.tr;obtain ⟨u,k,t⟩:=zF K.un K.hok (λb hb=>hb) (λb o _ hn=>hn) (λb hb=>⟨J.stkFree b hb,sG J.stack b hb⟩) n1 n3 (λx hx=>by rw[bn.mp hx];exact hT) L hdk;exact ⟨K.os,K.bare,u,k,t⟩
theorem Caught.note(K:Caught X H s H' a c od s')(I:Inv X pins σ H s)(hst:X.stack=X.env::X.outer){Q:Shared->Prop}{E1 E2:Value->Shared->Prop}(hQ:∀h2,Caught X H s H' a c od { s' with heap:=h2 }->Q { s' with heap:=h2 }):
  ↥X (noteFrame (.ref a) X.env) (λ_ s2=>↥X (setFlight (.ref a) none) (λ_ s3=>Q s3) E1 s2) E2 s':=by
 have J:=K.inv I;obtain ⟨oe,vs,T,oT,ts,t1,t2,t3,t4,t6,t7,t8,t9,n1,n2,n3,n4,n5⟩:=K.tr;have hfr:=J.stack;rw[hst]at hfr;obtain ⟨L,hL⟩:=sH hfr;have sub:∀b∈frs (X.env::X.outer),b∈frs X.stack++a::[T]:=λb hb=>by rw[hst];exact dE _ hb
 obtain ⟨a0,h0⟩:∃a0,vs[0]?=some a0:=by obtain ⟨hi,_⟩:=ef.mp t4;exact ⟨vs[0],Array.getElem?_eq_getElem (by omega)⟩
 refine bb (jM (zA _ _) (wpAny_noteFrame_onW (base:=holes s'.heap (frs X.stack++a::[T])) (cls:=c) (a0:=a0) (Q:=λ_ s2=>∃h1,s2={ s' with heap:=h1 }/\Heap.NotedW (holes s'.heap (frs X.stack++a::[T])) (X.env::X.outer) a c a0 (rawInt L) s'.heap h1) (by rw[J.ok.frames,hst]) (jN hfr sub) hL ?_ n8 (gf (by simp)) λh1 hn=>⟨h1,rfl,hn⟩)) (λ_ s2 z=>?_) λ_ _ z=>z
 ·exact ⟨oe,vs,T,oT,ts,t1,⟨t2,h0⟩,t3,t4,gf (by simp),t6,t7,t8,t9⟩
 ·obtain ⟨⟨h1,rfl,m1,m2,m3,m4⟩,dk1⟩:=z;refine bb (jM (sy _ _) (wpAny_setFlight_noneW (Q:=λ_ s3=>∃h2,s3={ s' with heap:=h2 }/\(holes s'.heap (frs X.stack++a::[T])).StaysIn h2/\h2.FunFrames (holes s'.heap (frs X.stack++a::[T])) (X.env::X.outer)/\h2.TracedW (holes s'.heap (frs X.stack++a::[T])) a c a0/\∀b o,h1.get? b=some o->(∀vs,o.data≠.fields vs)->h2.get? b=some o) m1 m2 m3 λh2 p1 p2 p3 p4=>⟨h2,rfl,p1,p2,p3,p4⟩)) (λ_ s3 z=>?_) λ_ _ z=>z;obtain ⟨⟨h2,rfl,p1,p2,p3,p4⟩,dk2⟩:=z;refine hQ h2 (K.left I ⟨n2,n4⟩ (l:=X.env::X.outer) ⟨p1,p2,?_,λb o e d=>?_⟩ λo eo=>((dk1.trans dk2).at t1 eo).trans n5)
  ·obtain ⟨oe,vs,T,oT,ts,t1,⟨t2,_⟩,r⟩:=p3;exact ⟨oe,vs,T,oT,ts,t1,t2,r⟩
  ·obtain ⟨sl,e'⟩:=m4 b o e d;exact ⟨sl,p4 b _ e' d⟩
theorem Caught.flight(K:Caught X H s H' a c od s')(I:Inv X pins σ H s){A:Around}{Q:Shared->Prop}{E1:Value->Shared->Prop}(hQ:∀h2,Caught X H s H' a c od { s' with heap:=h2 }->Q { s' with heap:=h2 }):
  wpAny (model X.prog X.w) A (setFlight (.ref a) none) (λ_ s3=>Q s3) E1 s':=by
 have J:=K.inv I;obtain ⟨oe,vs,T,oT,ts,t1,t2,t3,t4,t6,t7,t8,t9,n1,n2,n3,n4,n5⟩:=K.tr;obtain ⟨a0,h0⟩:∃a0,vs[0]?=some a0:=by obtain ⟨hi,_⟩:=ef.mp t4;exact ⟨vs[0],Array.getElem?_eq_getElem (by omega)⟩
 refine bb (jM (sy _ _) (wpAny_setFlight_noneW (base:=holes s'.heap (frs X.stack++a::[T])) (l:=X.stack) (cls:=c) (a0:=a0) (fl:=.none) (Q:=λ_ s3=>∃h2,s3={ s' with heap:=h2 }/\(holes s'.heap (frs X.stack++a::[T])).StaysIn h2/\h2.FunFrames (holes s'.heap (frs X.stack++a::[T])) X.stack/\h2.TracedW (holes s'.heap (frs X.stack++a::[T])) a c a0/\∀b o,s'.heap.get? b=some o->(∀vs,o.data≠.fields vs)->h2.get? b=some o) n8 (jN J.stack λb hb=>dE _ hb) ?_ λh2 p1 p2 p3 p4=>⟨h2,rfl,p1,p2,p3,p4⟩)) (λ_ s3 z=>?_) λ_ _ z=>z
 ·exact ⟨oe,vs,T,oT,ts,t1,⟨t2,h0⟩,t3,t4,gf (by simp),t6,t7,t8,t9⟩
 ·obtain ⟨⟨h2,rfl,p1,p2,p3,p4⟩,dk⟩:=z;refine hQ h2 (K.left I ⟨n2,n4⟩ (l:=X.stack) ⟨p1,p2,?_,λb o e d=>⟨o.slots,p4 b o e d⟩⟩ λo eo=>(dk.at t1 eo).trans n5);obtain ⟨oe,vs,T,oT,ts,t1,⟨t2,_⟩,r⟩:=p3;exact ⟨oe,vs,T,oT,ts,t1,t2,r⟩
end
open Builtin.ObjectAttr Builtin.Getset_descriptor
open PySem.W (findIn mroIn clsIn typeIn Looks InstAt looks_findIn looks_mroIn looks_typeIn)
def fB(K:PF)(D:Addr):Bool:=
 findIn K (.ref D) "__class__"==some (some (.builtin "object.__class__"))&&findIn K (.ref D) "__getattribute__"==some (some (.builtin "BaseException.__getattribute__"))&&findIn K (.ref D) "__getattr__"==some none &&
  mroIn K D (.type "object")==some true&&mroIn K D (.type "BaseException")==some true&&(clsIn K D).isSome
structure Xin(K:PF)(D:Addr):Prop where
 c:findIn K (.ref D) "__class__"=some (some (.builtin "object.__class__"))
 ga:findIn K (.ref D) "__getattribute__"=some (some (.builtin "BaseException.__getattribute__"))
 g:findIn K (.ref D) "__getattr__"=some none
 o:mroIn K D (.type "object")=some true
 b:mroIn K D (.type "BaseException")=some true
 d:(clsIn K D).isSome=true
theorem zL{K:PF}{D:Addr}(h:fB K D=true):Xin K D:=by unfold fB at h;simp only[ae,ai]at h;obtain ⟨⟨⟨⟨⟨h1,h2⟩,h3⟩,h4⟩,h5⟩,h6⟩:=h;exact ⟨h1,h2,h3,h4,h5,h6⟩
section
variable {prog:Program} {w:World} {A:Around} {E:Value->Shared->Prop} {h:Heap} {g:Array GenState} {d:Drawn} {t:Nat} {os:OsState} {a:Addr} {o:Obj} {K:PF} {D:Addr}
theorem zM{M:Model}(hx:h.get? a=some o)(hc:o.cls=.ref D):Looks M h (typeOf (.ref a)) (.ref D):=by have:=(Looks.ld (M:=M) (part:=none) hx).andThen (f:=λo=>pure o.cls) (b:=.ref D) (by rw[hc];exact .now);exact this
theorem O2 {s:Shared} {R:Result->Shared->Prop} {tp:Value} (X:K.In s.heap) (hx:s.heap.get? a=some o) (hc:o.cls=.ref D) (hm:mroIn K D (.type "object")=some true)
  (h:R (.ok (.ret (.ref D))) s):codeAny (model prog w) A (.call (.builtin "getset_descriptor.__get__") ⟨[.builtin "object.__class__",.ref a,tp],[]⟩) R s:=by
 obtain ⟨hh,g,dr,t,os⟩:=s;have L0:=zM (M:=model prog w) hx hc;have L1:=looks_mroIn (M:=model prog w) X hm;refine fk PySem.W.KF.slot_gs.plain PySem.W.KF.entry_gs (PySem.W.KF.slot_gs.check _ _ _ _ _ _ _ _ PySem.W.KF.type_class (PySem.W.KF.args_gs _ _ _) ?_);unfold Builtin.«getset_descriptor.__get__» descrGet;rw[PySem.W.dga_obj];refine af (av ?_);unfold descrGetter descrCheckInstance descrNameAndClass isInstance;simp only[PySem.W.KF.owner_class];repeat lk
 refine ⟨Code.quiet_builtin _ (by ac_rfl),codeAny_builtin PySem.W.KF.entry_class ?_⟩;unfold Builtin.«object.__class__» shownTypeOf;repeat lk
 exact h
theorem O3{tk:Tok}{Q:Fin->Shared->Prop}(X:K.In h)(x:Xin K D)(hx:h.get? a=some o)(hc:o.cls=.ref D)(hq:Q (.done (.ret (.ref D))) ⟨h,g,d,t,os⟩):
  wpAny (model prog w) A (Builtin.«object.__getattribute__» ⟨[.ref a,.str "__class__" tk],[]⟩) Q E ⟨h,g,d,t,os⟩:=by
 have hT5:(⟨h,g,d,t,os⟩:Shared).TypeIs (.builtin "object.__class__") "getset_descriptor":=F.typeOf_object_class;have f5:=F.typeOf_object_class;have f6:=F.slot_gs_get.lookup;have f7:=F.slot_gs_set.lookup;have L1:=looks_findIn (M:=model prog w) X x.c;repeat (any_goals (first |assumption | (with_reducible refine cS hx ?_;rw[hc]) |with_reducible refine L1.at ?_ |wp_step))
 refine O2 (s:=⟨h,g,d,t,os⟩) X hx hc x.o ?_;repeat (any_goals (first |assumption |wp_step))
theorem zN{M:Model}{nameV:Value}{Q:Unit->Shared->Prop}(X:K.In h)(x:Xin K D)(hx:h.get? a=some o)(hc:o.cls=.ref D)(hq:Q () ⟨h,g,d,t,os⟩):
  wpAny M A (checkBuiltinCall "BaseException.__getattribute__" ⟨[.ref a,nameV],[]⟩) Q E ⟨h,g,d,t,os⟩:=by
 have hk:builtinKind "BaseException.__getattribute__"=some .slot:=by ac_rfl
 have hsplit:splitId "BaseException.__getattribute__"=some ("BaseException","__getattribute__"):=by ac_rfl
 have L1:=looks_mroIn (M:=M) X x.b;have ha:=F.args_bexc_ga (.ref a) nameV;simp only[checkBuiltinCall,hk,hsplit];refine af ?_
 ·unfold isInstance;repeat (first | (with_reducible refine cS hx ?_;rw[hc]) |with_reducible refine L1.at ?_ |wp_step)
  exact hq
theorem O4{tk:Tok}{R:Result->Shared->Prop}(X:K.In h)(x:Xin K D)(hx:h.get? a=some o)(hc:o.cls=.ref D)(hq:R (.ok (.ret (.ref D))) ⟨h,g,d,t,os⟩):
  codeAny (model prog w) A (.call (.builtin "BaseException.__getattribute__") ⟨[.ref a,.str "__class__" tk],[]⟩) R ⟨h,g,d,t,os⟩:=
 fk (by ac_rfl) F.entry_bexc_ga (zN X x hx hc (O3 X x hx hc hq))
theorem O5{Q:Option Value->Shared->Prop}(X:K.In h)(x:Xin K D)(hx:h.get? a=some o)(hc:o.cls=.ref D)(hq:Q (some (.ref D)) ⟨h,g,d,t+1,os⟩):
  wpAny (model prog w) A (getAttr? (.ref a) "__class__") Q E ⟨h,g,d,t,os⟩:=by
 have L1:=looks_findIn (M:=model prog w) X x.ga;have L2:=looks_findIn (M:=model prog w) X x.g;have f3:bindSpecial (.builtin "BaseException.__getattribute__") (.ref a)=pure (.builtin "BaseException.__getattribute__",[.ref a]):=(PySem.F.excAttr_ValueError).ga.bind (.ref a);have hx2:(Value.builtin "BaseException.__getattribute__"==Value.builtin "object.__getattribute__")=false:=by ac_rfl
 have hx1:(onTheHeap (Value.ref D)&&Value.builtin "BaseException.__getattribute__"==Value.builtin "object.__getattribute__")=false:=by rw[hx2];rfl
 unfold getAttr? getAttrBy? getAttrBy;repeat (any_goals (first |assumption | (with_reducible refine cS hx ?_;rw[hc]) |with_reducible refine L1.at ?_ |with_reducible refine L2.at ?_ |wp_step))
 refine O4 X x hx hc ?_;repeat (any_goals (first |assumption |wp_step))
def iI(K:PF)(c:Value):Bool:=match c with
 |.ref C=>(clsIn K C).isSome&&typeIn K (.ref C)==some (.type "type")
 |.type T=>T=="ValueError"
 |_=>false
theorem ty_ValueError:typeOf (.type "ValueError")=pure (.type "type"):=by rfl'
theorem O6 {M:Model} {c:Value} (X:K.In h) (e:iI K c=true):Looks M h (typeOf c) (.type "type")/\Looks M h (isType c) true:=by
 unfold iI at e;split at e
 ·rename_i C;rw[ae,ai]at e;obtain ⟨e0,e1⟩:=e;refine ⟨looks_typeIn X e1,?_⟩;unfold clsIn at e0;split at e0
  ·rename_i c' d' cd' sl' ho;intro A' Q' E' s' k q;unfold isType loadHead;exact af (wpAny_loadPart (k _ _ (X _ _ ho)) (av q))
  ·cases e0
 ·rename_i T;rw[ai]at e;subst e;exact ⟨Looks.of_pure ty_ValueError,Looks.of_pure rfl⟩
 ·cases e
theorem O7{c:Value}{b:Bool}{dep:Int}{tk:Tok}{Q:Fin->Shared->Prop}(X:K.In h)(x:Xin K D)(hx:h.get? a=some o)(hc:o.cls=.ref D)(hk:iI K c=true)
  (hm:mroIn K D c=some b) (hne:b=false->(Value.ref D==c)=false) (hq:∀t',Q (.done (.ret (.bool b))) ⟨h,g,d,t',os⟩):
  wpAny (model prog w) A (Builtin.«isinstance.nested» ⟨[.ref a,c,.int dep tk],[]⟩) Q E ⟨h,g,d,t,os⟩:=by
 obtain ⟨hty,his⟩:=O6 (M:=model prog w) X hk;have hsub:=looks_mroIn (M:=model prog w) X hm;have L0:=zM (M:=model prog w) hx hc;have LI:Looks (model prog w) h (isInstance (.ref a) c) b:=L0.andThen hsub;have hisD:Looks (model prog w) h (isType (.ref D)) true:=by
  have e0:=x.d;unfold clsIn at e0;split at e0
  ·rename_i c' d' cd' sl' ho;intro A' Q' E' s' k q;unfold isType loadHead;exact af (wpAny_loadPart (k _ _ (X _ _ ho)) (av q))
  ·cases e0
 unfold Builtin.«isinstance.nested»;refine af (L0.at ?_);by_cases he:(Value.ref D==c)=true
 ·rw[if_pos he];cases b with
  |false=>rw[hne rfl]at he;cases he
  |true=>
   repeat (first |refine av ?_ |refine fS ?_ |refine af ?_)
   exact hq t
 ·rw[if_neg he];refine af (hty.at ?_);rw[if_pos (by decide)]
  k_delta "plainIsInstance"
  refine af (af (his.at ?_));simp only[Bool.not_true,fq,if_false];refine af (LI.at ?_);cases b with
  |true=>
   simp only[if_true];repeat (first |refine av ?_ |refine fS ?_ |refine af ?_)
   exact hq t
  |false=>
   simp only[fq,if_false];refine af (O5 X x hx hc ?_);refine af (hisD.at ?_);simp only[Bool.not_true,fq,if_false];refine af (fS ?_);refine hsub.at ?_;first
    |exact av (hq _)
    |exact av (av (hq _))
    |exact af (av (av (hq _)))
theorem O8{c:Value}{b:Bool}{Q:Value->Shared->Prop}{s:Shared}(X:K.In s.heap)(x:Xin K D)(hx:s.heap.get? a=some o)(hc:o.cls=.ref D)(hk:iI K c=true)
  (hm:mroIn K D c=some b) (hne:b=false->(Value.ref D==c)=false) (hq:∀t',Q (.bool b) { s with toks:=t' }):wpAny (model prog w) A (call (.builtin "isinstance") [.ref a,c]) Q E s:=by
 obtain ⟨hh,g,d,t,os⟩:=s;exact call_isinstance_of (O7 X x hx hc hk hm hne λt'=>hq t') (by intro e;cases e)
end
open PySem.W (findIn mroIn clsIn typeIn Looks looks_findIn looks_mroIn looks_typeIn)
section
variable {X:Cx}
def XO(H:Hp)(a c:Addr):Prop:=∃o y,H a=some (.frz o (.own y))/\o.cls=.ref c
def valOf:V->Value
 |.ref a=>.ref a
 |.ty n=>.type n
 |_=>.none
def O9(K:PF):List V->Hp->VK->Prop:=λxs H Q=>∃a c cv b,xs=[.ref a,cv]/\XO H a c/\fB K c=true/\iI K (valOf cv)=true/\mroIn K c (valOf cv)=some b/\(b=false->(Value.ref c==valOf cv)=false)/\Q (.bl b) H
theorem Pa:bN X (.builtin "isinstance") (O9 X.K):=by
 intro pins s Y H xs us Q I r h;obtain ⟨a,c,cv,b,rfl,⟨o,y,ho,hc⟩,hx,hk,hm,hne,q⟩:=h;obtain ⟨u,w',rfl,rx,ry⟩:=vals2 r;cases rx;have e2:w'=valOf cv:=by
  cases cv with
  |ref a=>exact ry
  |ty n=>exact ry
  |_=>cases hk
 subst e2;have hob:=(show ObjOk X.prog X.w H s.heap a (.frz o (.own y)) from I.hok a _ ho).1;exact O8 I.kIn (zL hx) hob hc hk hm hne λt'=>⟨.bl b,H,I.tok _,rfl,q⟩
end
section
variable {M:Model} {A:Around} {E:Value->Shared->Prop} {h:Heap} {g:Array GenState} {d:Drawn} {t:Nat} {os:OsState} {e:Addr} {oe:Obj} {K:PF} {D C:Addr}
theorem zO {Q:Bool->Shared->Prop} (X:K.In h) (he:h.get? e=some oe) (hcls:oe.cls=.ref D) (hC:typeIn K (.ref C)=some (.type "type")) (hk:(clsIn K C).isSome=true) (hB:mroIn K C (.type "BaseException")=some true) (hm:mroIn K D (.ref C)=some true)
  (hq:Q true ⟨h,g,d,t,os⟩):wpAny M A (excMatches (.ref e) (.ref C)) Q E ⟨h,g,d,t,os⟩:=by
 have f:=tc_notTuple;have L0:=looks_typeIn (M:=M) X hC;have L1:=looks_mroIn (M:=M) X hB;have L2:=looks_mroIn (M:=M) X hm;unfold clsIn at hk;split at hk
 ·rename_i c' d' cd' sl' ho;have hoC:=X _ _ ho;unfold excMatches;have hC2:(K.lookup C).map (·.cls)=some (.type "type"):=hC;rw[ho]at hC2;have ec:c'=.type "type":=by simpa using hC2
  subst ec;repeat (first | (with_reducible refine cS he ?_;rw[hcls]) |with_reducible refine cS hoC ?_ |with_reducible refine L1.at ?_ |with_reducible refine L2.at ?_ |wp_step)
  exact hq
 ·cases hk
end
section
variable {X:Cx} {pins:List (Addr×Obj)} {σ:St} {H:Hp} {s:Shared}
theorem Inv.tell(I:Inv X pins σ H s){a:Addr}{o:Obj}{vs:Array Value}(h0:X.s₀.heap.get? a=none)(hH:H a=none)(ho:s.heap.get? a=some o)(hd:o.data=.fields vs)(hp:∀p∈X.pn++pins,p.1≠a):
  Inv X pins σ (upd H a (.frz o (.own a))) s:=by
 have nl:X.env.locals≠a:=by intro e;obtain ⟨m,⟨o',es,ep,e1,e2,_⟩,_⟩:=I.loc;rw[e,ho]at e1;cases e1;rw[hd]at e2;cases e2
 have nc:∀x c,X.env.cells.lookup x=some c->c≠a:=by intro x c hc e;obtain ⟨v,o',e1,e2⟩:=I.cell x c hc;rw[e,ho]at e1;cases e1;rw[hd]at e2;cases e2
 refine ⟨I.ok,I.os,I.bare,⟨I.base.keep,I.base.slot,λb u q n hx=>?_,I.base.there,λb xs q=>?_,λb u v q=>?_,λb ps q=>?_⟩,I.loc,I.cell,by rw[aB nl];exact I.free,λx c e=>by rw[aB (nc x c e)];exact I.freeC x c e,λp hpp=>?_,λb u q=>?_,I.len⟩
 ·rw[aB (λe=>by rw[e,h0]at q;cases q)];exact I.base.free b u q n hx
 ·have q':=I.base.tups b xs q;rw[aB (aR q' hH)];exact q'
 ·have q':=I.base.frzs b u v q;rw[aB (aR q' hH)];exact q'
 ·obtain ⟨m,q'⟩:=I.base.tbls b ps q;exact ⟨m,by rw[aB (aR q' hH)];exact q'⟩
 ·obtain ⟨p1,p2,p3⟩:=I.pin p hpp;exact ⟨p1,by rw[aB (hp p hpp)];exact p2,p3⟩
 ·by_cases hb:b=a
  ·subst hb;rw[bM]at q;cases q;exact ⟨ho,o,ho⟩
  ·rw[aB hb]at q;exact (I.hok b u q).stay (λ_ _ _ z=>z) (λc z=>by rw[aB (aR z hH)];exact z) λc xs z=>by rw[aB (aR z hH)];exact z
end
section
variable {X:Cx}
abbrev TX:=(St->Hp->Prop)->(Value->Option Addr->St->Hp->Prop)->St->Hp->Prop
def XP(X:Cx)(pins:List (Addr×Obj))(ex:Value->Option Addr->St->Hp->Prop)(Y:St)(e:Value)(s1:Shared):Prop:=∃a c od H1 s0 H',e=.ref a/\Inv X pins Y H1 s0/\Caught X H1 s0 H' a c od s1/\ex c od Y H'
def NP(X:Cx)(pins:List (Addr×Obj))(nx:St->Hp->Prop)(f:Flow)(s1:Shared):Prop:=f=.next/\∃σ' H',Inv X pins σ' H' s1/\nx σ' H'
def PXs(X:Cx)(sts:List Stmt)(t:TX):Prop:=
 ∀(pins:List (Addr×Obj))(s:Shared)(Y:St)(H:Hp)(nx:St->Hp->Prop)(ex:Value->Option Addr->St->Hp->Prop)(E':Value->Shared->Prop),Inv X pins Y H s->PassesOwn (model X.prog X.w) X.A X.env E'->(∀e s1,XP X pins ex Y e s1->E' e s1)->t nx ex Y H->
  ↥X (execs sts X.env) (NP X pins nx) E' s
theorem Pb{prog:Program}{w:World}{A:Around}{E:Value->Shared->Prop}{s:Shared}{env:Env}{K:PF}{e C D:Addr}{t:Expr}{b₀:Stmt}{suite:List Stmt}{pos:Pos}{rest:List ExceptHandler}{Q:Flow->Shared->Prop}
  (hC:typeIn K (.ref C)=some (.type "type")) (hk:(clsIn K C).isSome=true) (hB:mroIn K C (.type "BaseException")=some true) (hm:mroIn K D (.ref C)=some true)
  (h:wpAny (model prog w) (A.mark (some (.ref e))) (eval t env) (λc s₁=>c=.ref C/\K.In s₁.heap/\(∃oe,s₁.heap.get? e=some oe/\oe.cls=.ref D)/\
   wpAny (model prog w) (A.mark (some (.ref e))) (setFlight (.ref e) none) (λ_ s₂=>wpAny (model prog w) (A.mark (some (.ref e))) (execs (b₀::suite) env) Q (notedBy (model prog w) (A.mark (some (.ref e))) env (cameBackBy (model prog w) A env E)) s₂) (notedBy (model prog w) (A.mark (some (.ref e))) env (cameBackBy (model prog w) A env E)) s₁) (notedBy (model prog w) (A.mark (some (.ref e))) env (cameBackBy (model prog w) A env E)) s):
  wpAny (model prog w) A (handleBy (.ref e) env (.ExceptHandler (some t) none (b₀::suite) pos::rest)) Q E s:=by
 refine wpAny_handleBy_cons (codeAny_handlers_test (bb h (λc s₁ h₁=>?_) λ_ _ y=>y)) (by intro q;cases q);obtain ⟨rfl,O,⟨oe,he,hcls⟩,hkk⟩:=h₁;obtain ⟨hh,g,d,tk,os⟩:=s₁;exact zO O he hcls hC hk hB hm (codeAny_handlers_suite hkk)
theorem Pg{prog:Program}{w:World}{A:Around}{E:Value->Shared->Prop}{s:Shared}{env:Env}{K:PF}{e C D:Addr}{t:Expr}{n:Str}{b₀:Stmt}{suite:List Stmt}{pos:Pos}{rest:List ExceptHandler}{Q:Flow->Shared->Prop}
  (hC:typeIn K (.ref C)=some (.type "type")) (hk:(clsIn K C).isSome=true) (hB:mroIn K C (.type "BaseException")=some true) (hm:mroIn K D (.ref C)=some true)
  (h:wpAny (model prog w) (A.mark (some (.ref e))) (eval t env) (λc s₁=>c=.ref C/\K.In s₁.heap/\(∃oe,s₁.heap.get? e=some oe/\oe.cls=.ref D)/\
   wpAny (model prog w) (A.mark (some (.ref e))) (setFlight (.ref e) none) (λ_ s₂=>
     wpAny (model prog w) (A.mark (some (.ref e))) (storeName env n (.ref e)) (λ_ s₃=>
      wpAny (model prog w) (A.mark (some (.ref e))) (execs (b₀::suite) env)
       (λf s₄=>wpAny (model prog w) A (do bindName env n .none;unbindBehindTheSuite env n pos) (λ_ s₅=>Q f s₅) E s₄)
       (AsSuiteRaised (model prog w) (A.mark (some (.ref e))) env n pos (notedBy (model prog w) (A.mark (some (.ref e))) env (cameBackBy (model prog w) A env E))) s₃) (notedBy (model prog w) (A.mark (some (.ref e))) env (cameBackBy (model prog w) A env E)) s₂) (notedBy (model prog w) (A.mark (some (.ref e))) env (cameBackBy (model prog w) A env E)) s₁) (notedBy (model prog w) (A.mark (some (.ref e))) env (cameBackBy (model prog w) A env E)) s):
  wpAny (model prog w) A (handleBy (.ref e) env (.ExceptHandler (some t) (some n) (b₀::suite) pos::rest)) Q E s:=by
 refine wpAny_handleBy_cons (codeAny_handlers_test (bb h (λc s₁ h₁=>?_) λ_ _ y=>y)) (by intro q;cases q);obtain ⟨rfl,O,⟨oe,he,hcls⟩,hkk⟩:=h₁;obtain ⟨hh,g,d,tk,os⟩:=s₁;exact zO O he hcls hC hk hB hm (codeAny_handlers_suite_as hkk)
structure Cat(K:PF)(C:Addr):Prop where
 t:typeIn K (.ref C)=some (.type "type")
 c:(clsIn K C).isSome=true
 b:mroIn K C (.type "BaseException")=some true
def oG (K:PF) (C:Addr):Bool:=typeIn K (.ref C)==some (.type "type")&&(clsIn K C).isSome&&mroIn K C (.type "BaseException")==some true
theorem sJ{K:PF}{C:Addr}(h:oG K C=true):Cat K C:=by unfold oG at h;rw[ae,ae,ai,ai]at h;exact ⟨h.1.1,h.1.2,h.2⟩
theorem Ph{C:Addr}{cx y:Str}{i:Nat}{b:Bool}{j:Nat}{p1 p2 p3 p4 p5 pos:Pos}{body:List Stmt}{t:TX}(hb:PXs X body t)(hst:X.stack=X.env::X.outer)
  (hcg:Gl X cx) (hcm:X.mg cx=some (.ref C)) (hcb:Cat X.K C) (hN:X.N.Nodup) (hi:X.N[i]?=some y) (hx:Loc X.env.scope y) (hf:X.fn y=true\/X.env.scope.names.lookup y=some .local)
  (hs2:swapsWith (.Constant (.bool b) j p3) (some (.Name y p2)) p4.line X.env=pure false:=by rfl) (hdc:(cx==("__debug__":Str))=false:=by decide):
  PS X (.Try body [.ExceptHandler (some (.Name cx p1)) none [.Assign [.Name y p2] (.Constant (.bool b) j p3) p4] p5] [] [] pos)
   (λD Y H=>t D.nx (λc _ σ' H2=>∃d,c=.ref d/\mroIn X.K d (.ref C)=some true/\D.nx (σ'.set i (some (.bl b))) H2) Y H):=by
 intro pins s Y H D I h;refine wpAny_Try_except (bb (hb pins s Y H _ _ _ I PassesOwn.looking (λe s1 q=>?_) h) (λf s1 q=>?_) λ_ _ q=>q)
 ·obtain ⟨a,c,od,H1,s0,H2,rfl,I1,K,d,rfl,hm,qn⟩:=q;refine K.note I1 hst λh3 K3=>Pb (K:=X.K) (C:=C) (D:=d) hcb.t hcb.c hcb.b hm ?_;have J3:=K3.inv I1;have hcl:∃oe,h3.get? a=some oe/\oe.cls=.ref d:=by
   obtain ⟨oe,_,_,_,_,t1,t2,_⟩:=K3.tr;exact ⟨oe,t1,t2⟩
  refine gP (X:=X.marked a X.xe) (J3.marked a X.xe) hcg hcm ⟨rfl,J3.kIn,hcl,?_⟩ hdc;refine K3.flight I1 λh4 K4=>?_;have J4:=K4.inv I1;exact bb (yg (rH (X:=X.marked a _) hN hi hx yc hs2 hf) pins _ Y H2 D (J4.marked a _) qn) (λf s5 z=>z.unmarked J4.ok) λ_ _ z=>z
 ·obtain ⟨rfl,σ',H',I',q'⟩:=q;exact fA ⟨σ',H',I',q'⟩
theorem Pj{M:Model}{A:Around}{E:Value->Shared->Prop}{pins:List (Addr×Obj)}{Y:St}{H:Hp}{s:Shared}{i:Nat}{x:Str}{pos:Pos}{Q:Unit->Shared->Prop}(I:Inv X pins Y H s)(hN:X.N.Nodup)(hi:X.N[i]?=some x)(hk:X.env.kindOf x=some .local)
  (h:∀s',Inv X pins (Y.set i none) H s'->Q () s'):wpAny M A (do bindName X.env x .none;unbindBehindTheSuite X.env x pos) Q E s:=by
 obtain ⟨m,hn,hl⟩:=id I.loc;have hcls:(X.env.scope.kind==.class||(X.env.scope.kind==.module&&X.env.locals != X.env.globals))=false:=by rw[I.ok.kind];rfl
 have hiσ:i < Y.length:=by rw[I.len];exact (bd.mp hi).1
 have cne:=I.cne;have tracked:∀{a:Addr}{h':Heap},(∃o,s.heap.get? a=some o/\H a=none)->Heap.SameBut a s.heap h'->HOk X.prog X.w H h':=λ{a h'} ha hs b ob e=>by
  obtain ⟨_,_,hfree⟩:=ha;refine (I.hok b ob e).stay (λc w' hc q=>(hs.2 c ?_).trans q) (λ_ q=>q) λ_ _ q=>q;rintro rfl;rcases hc with rfl |hc
  ·rw[hfree]at e;cases e
  ·rw[hfree]at hc;cases hc
 refine wpAny_nameGoes_keeps hk hn hcls λh' v hn' hs=>?_;obtain ⟨oL,_,_,hoL,_⟩:=id hn;refine h _ ⟨I.ok,I.os,I.bare,⟨λb o e n hb hx=>?_,λb o e n hb hx=>?_,I.base.free,λb o e hx=>?_,I.base.tups,I.base.frzs,I.base.tbls⟩,⟨_,hn',λj y v' e1 e2 e3=>?_⟩,λy c e=>?_,I.free,I.freeC,λp hp=>?_,tracked ⟨oL,hoL,I.free⟩ hs,by simpa using I.len⟩
 ·exact (hs.2 b (cf (aT (ax e) I.ok.above))).trans (I.base.keep b o e n hb hx)
 ·obtain ⟨sl,e1⟩:=I.base.slot b o e n hb hx;exact ⟨sl,(hs.2 b (cf (aT (ax e) I.ok.above))).trans e1⟩
 ·obtain ⟨o',e1⟩:=I.base.there b o e hx;exact ⟨o',(hs.2 b (cf (aT (ax e) I.ok.above))).trans e1⟩
 ·by_cases hj:j=i
  ·subst hj;rw[List.getElem?_set_self hiσ]at e2;cases e2
  ·rw[List.getElem?_set_ne (Ne.symm hj)]at e2;obtain ⟨u',r',q⟩:=hl j y v' e1 e2 e3;refine ⟨u',r',?_⟩;rcases q with ⟨k,e⟩ |⟨k,c,e,z⟩
   ·refine .inl ⟨k,?_⟩;have:y≠x:=λe=>hj (rA hN e1 (e ▸ hi));simp[this,e]
   ·exact .inr ⟨k,c,e,z.sameBut hs (cne y c e)⟩
 ·obtain ⟨w',z⟩:=I.cell y c e;exact ⟨w',z.sameBut hs (cne y c e)⟩
 ·obtain ⟨e,n,ne,nf,d⟩:=I.pin p hp;exact ⟨(hs.2 p.1 ne).trans e,n,ne,nf,d⟩
end
open PySem.SeqAt
section
variable {X:Cx}
theorem sO:∀{bs:List Bool}{us:List Value},Vals (bs.map V.bl) us->us=bs.map Value.bool
 |[],us,r=>by cases r;rfl
 |b::bs,us,r=>by
  cases r with
  |cons r1 r2=>
   have e:_=Value.bool b:=r1;rw[e,sO r2];rfl
theorem zP(k:Bool){bs:List Bool}:∀y,y∈(bs.map Value.bool)->∀(A:Around)(s:Shared),EqAt A s y (.bool k) (isBoolOf k y):=by intro y hy A s;obtain ⟨b,_,rfl⟩:=bP.mp hy;exact EqAt.bool_bool b k
theorem Pk(k:Bool)(bs:List Bool):(bs.map Value.bool).countP (isBoolOf k)=bs.count k:=by
 induction bs with
 |nil=>rfl
 |cons b bs ih=>
  rw[ci,List.countP_cons,ih,List.count_cons];rfl
def Pn(K:PF):V->List V->Hp->VK->Prop:=λx vs H Q=>∃(p:Addr)(bs:List Bool),x=.ref p/\vs=[.bl true]/\SqL K H p (bs.map V.bl)/\Q (.int (bs.count true:Nat)) H
theorem Pq:MtR X "list.count" (Pn X.K):=by intro pins s Y H x xs v us Q I rx rs h;obtain ⟨p,bs,rfl,rfl,hq,q⟩:=h;cases rx;obtain ⟨u,rfl,ru⟩:=vals1 rs;cases ru;obtain ⟨its,rv,⟨o,n,ho,hc,hd,hdd⟩,hz⟩:=I.list hq;obtain ⟨cls,dd,data,sl⟩:=o;simp only at hc hd hdd;subst hc hd hdd;have e:=sO rv;subst e;refine call_meets PySem.F.slot_list_count ⟨_,ho,rfl⟩ PySem.F.entry_list_count (PySem.F.args_list_count_2 _ _) (list_countAt p _ n _ sl (.bool true) (isBoolOf true)) ⟨ho,λy hy=>zP true y (by simpa using hy) _ _,?_⟩;refine ⟨.int _,H,I.tok _,⟨_,rfl⟩,?_⟩;rw[show ((bs.map Value.bool).toArray).toList=bs.map Value.bool from rfl,Pk];exact q
def Pr(K:PF):V->List V->Hp->VK->Prop:=λx vs H Q=>∃(p:Addr)(bs:List Bool),x=.ref p/\vs=[.bl true]/\SqL K H p (bs.map V.bl)/\true∈bs/\Q (.int (bs.idxOf true:Nat)) H
theorem zQ(bs:List Bool)(j:Nat)(h:j < (bs.map Value.bool).length)(h':j < bs.length):isBoolOf true (bs.map Value.bool)[j]=(bs[j]==true):=by rw[List.getElem_map];rfl
theorem Pu:MtR X "list.index" (Pr X.K):=by
 intro pins s Y H x xs v us Q I rx rs h;obtain ⟨p,bs,rfl,rfl,hq,hin,q⟩:=h;cases rx;obtain ⟨u,rfl,ru⟩:=vals1 rs;cases ru;obtain ⟨its,rv,⟨o,n,ho,hc,hd,hdd⟩,hz⟩:=I.list hq;obtain ⟨cls,dd,data,sl⟩:=o;simp only at hc hd hdd;subst hc hd hdd;have e:=sO rv;subst e;have hj:bs.idxOf true < bs.length:=List.idxOf_lt_length_iff.mpr hin;have hz':bs.length<=sizeLine:=by rw[ah]at hz;exact hz
 have hs:sizeLine < 2 ^ 63 - 1:=by decide
 refine call_meets PySem.F.slot_list_index ⟨_,ho,rfl⟩ PySem.F.entry_list_index (PySem.F.args_list_index_2 _ _) (list_indexAt p _ n _ sl (.bool true) (isBoolOf true) (bs.idxOf true) (by simpa using hj) (by omega) ?_ ?_) ⟨ho,λy hy=>zP true y (by simpa using hy) _ _,?_⟩
 ·have h3:bs.idxOf true < (bs.map Value.bool).length:=by rw[ah];exact hj
  show isBoolOf true ((bs.map Value.bool)[bs.idxOf true]'h3)=true;rw[zQ bs _ h3 hj];simpa using List.getElem_idxOf hj
 ·intro j hjs hlt;have h2:j < bs.length:=by omega
  have h3:j < (bs.map Value.bool).length:=by rw[ah];exact h2
  show isBoolOf true ((bs.map Value.bool)[j]'h3)=false;rw[zQ bs j h3 h2];have h4:j < bs.findIdx (·==true):=hlt;simpa using List.not_of_lt_findIdx h4
 ·exact ⟨.int _,H,I.tok _,⟨_,rfl⟩,q⟩
end
section
variable {X:Cx}
theorem Px:OpR X (binaryOp .FloorDiv) (rI (λ_ j=>0 < j/\j < 1152921504606846976) λi j=>.int (i / j)):=opI λi j _ _ _ _ _ hc q=>by
 have h1:(0:Int) < j:=hc.1;have h2:j < 1152921504606846976:=hc.2;refine floordiv_int (by omega) (by rw[Int.fdiv_eq_ediv_of_nonneg i (by omega)];exact q) (.inl (PyProof.noPylong_of_log2 ?_));have:j.natAbs.log2 < 60:=(Nat.log2_lt (by omega)).mpr (by show j.natAbs < 1152921504606846976;omega);omega
def gh(m:Nat):Str:=Str.ofString (toString (m:Int))
theorem zR{m:Nat}(h:m < 100):(m:Int).natAbs.log2 < 1920:=by have:(m:Int).natAbs=m:=Int.natAbs_natCast m;rw[this];exact Nat.lt_of_le_of_lt (Nat.log2_le_self m) (by omega)
theorem Py:bN X (.type "str") (λxs H Q=>∃m:Nat,xs=[.int m]/\m < 100/\Q (.str (gh m)) H):=by intro pins s Y H xs us Q I r h;obtain ⟨m,rfl,hm,q⟩:=h;obtain ⟨u,rfl,ru⟩:=vals1 r;obtain ⟨t,rfl⟩:=ru;exact PySem.P.str_of_int (zR hm) ⟨.str _,H,I.tok _,⟨_,rfl⟩,q⟩
abbrev TJ2:=St->Hp->(Str->Hp->Prop)->Prop
def PJ2(X:Cx)(es:List Expr)(t:TJ2)(n:Nat):Prop:=∀(pins:List (Addr×Obj))(s:Shared)(Y:St)(H:Hp)(Q:Str->Hp->Prop)(out:Str),Inv X pins Y H s->out.length+n<=100000->t Y H Q->
 ↥X (joinParts out (evalEach es X.env)) (EP X pins Y λv H'=>∃x,v=.str (out++x)/\Q x H') X.xe s
theorem zT(x y z:Str):(x++y)++z=x++(y++z):=by show (⟨(x.cps++y.cps)++z.cps⟩:Str)=⟨x.cps++(y.cps++z.cps)⟩;rw[Array.append_assoc]
theorem Pz(x:Str):x++Str.empty=x:=by show (⟨x.cps ++ #[]⟩:Str)=x;rw[Array.append_empty]
theorem PJ(x:Str):Str.empty++x=x:=by show (⟨#[]++x.cps⟩:Str)=x;rw[Array.empty_append]
theorem PK:PJ2 X [] (λ_ H Q=>Q Str.empty H) 0:=λpins s Y H Q out I hl q=>by
 refine joinParts_nil ⟨.str out,H,I.tok _,⟨_,rfl⟩,⟨Str.empty,by rw[Pz],q⟩⟩ ?_;have:sizeLine≥100000:=by decide
 omega
theorem PL{e:Expr}{te:TE}{p:Pos}{es:List Expr}{t:TJ2}{n:Nat}(he:PE X e te)(h:PJ2 X es t n):PJ2 X (.FormattedValue e (-1) none p::es) (λY H Q=>te Y H λv H1=>(∃m:Nat,v=.int m/\m < 100/\t Y H1 λx H2=>Q (gh m++x) H2)\/(∃y,v=.str y/\y.length<=1000/\t Y H1 λx H2=>Q (y++x) H2)) (1000+n):=λpins s Y H Q out I hl q=>by
 have hz:sizeLine≥100000:=by decide
 refine joinParts_consE (joinParts_cons (FormattedValue_plain (thn (he pins s Y H _ I q) λv s1 hy=>?_)));obtain ⟨x,H1,I1,r1,hc⟩:=hy;have fin:∀(y:Str)(tk:Nat),y.length<=1000->(t Y H1 λx H2=>Q (y++x) H2)->(out++y).length<=sizeLine/\↥X (joinParts (out++y) (evalEach es X.env)) (EP X pins Y λv H'=>∃x,v=.str (out++x)/\Q x H') X.xe { s1 with toks:=tk }:=by intro y tk hy q1;refine ⟨by rw[oF];omega,bb (h pins _ Y H1 _ _ (I1.tok _) (by rw[oF];omega) q1) (λv s2 hy2=>?_) λ_ _ z=>z⟩;obtain ⟨v',H2,I2,r2,⟨x2,rfl,q2⟩⟩:=hy2;exact ⟨_,H2,I2,r2,⟨y++x2,by rw[zT],q2⟩⟩
 rcases hc with ⟨m,rfl,hm,q1⟩ |⟨y,rfl,hy,q1⟩
 ·obtain ⟨tk,rfl⟩:=r1;have hd:(gh m).length<=3:=digits_le ⟨m,hm⟩;exact formatField_int_small (zR hm) (fin (gh m) _ (by omega) q1)
 ·obtain ⟨tk,rfl⟩:=r1;exact formatField_str (λt' tk'=>fin y tk' hy q1) (by omega)
theorem PN{e:Expr}{te:TE}{es:List Expr}{t:TJ2}{n:Nat}(he:PE X e te)(h:PJ2 X es t n):PJ2 X (e::es) (λY H Q=>te Y H λv H1=>∃y,v=.str y/\y.length<=1000/\t Y H1 λx H2=>Q (y++x) H2) (1000+n):=λpins s Y H Q out I hl q=>by
 have hz:sizeLine≥100000:=by decide
 refine joinParts_consE (joinParts_cons (thn (he pins s Y H _ I q) λv s1 hy=>?_));obtain ⟨x,H1,I1,r1,y,rfl,hy,q1⟩:=hy;obtain ⟨tk,rfl⟩:=r1;dsimp only;refine ⟨by rw[oF];omega,bb (h pins _ Y H1 _ _ I1 (by rw[oF];omega) q1) (λv s2 hy2=>?_) λ_ _ z=>z⟩;obtain ⟨v',H2,I2,r2,⟨x2,rfl,q2⟩⟩:=hy2;exact ⟨_,H2,I2,r2,⟨y++x2,by rw[zT],q2⟩⟩
theorem PP{v1 v2:Expr}{es:List Expr}{t:TJ2}{n:Nat}{pos:Pos}(h:PJ2 X (v1::v2::es) t n)(hn:n<=100000):PE X (.JoinedStr (v1::v2::es) pos) (λY H Q=>t Y H λx H1=>Q (.str x) H1):=λpins s Y H Q I q=>by
 refine JoinedStr_many ?_;refine bb (h pins s Y H _ Str.empty I (by show 0+n<=_;omega) q) (λv s1 hy=>?_) λ_ _ z=>z;obtain ⟨x,H1,I1,r1,⟨y,rfl,q1⟩⟩:=hy;rw[PJ]at r1;exact ⟨_,H1,I1,r1,q1⟩
end
end L2
namespace HT
open PySem PySem.Spec PyProof.Rows Builtin
end HT
namespace L2
open PySem PySem.Spec PyProof.Rows
section
variable {X:Cx}
def adW(K:PF):R2:=λx y H Q=>∃(l:Addr)(k:Int)(xs:List V),x=.ref l/\y=.int k/\SqT K H l xs/\xs≠[]/\2<=k/\k<=1000/\xs.length * k.toNat<=sizeLine/\∀p,H p=none->Q (.ref p) (upd H p (.tup (List.replicate k.toNat xs).flatten))
end
end L2
namespace HT
open PySem PySem.Spec PyProof.Rows Builtin
end HT
namespace L2
open PySem PySem.Spec PyProof.Rows
section
variable {X:Cx}
def adX(K:PF):R2:=λx y H Q=>∃(l:Addr)(k:Int)(xs:List V),x=.ref l/\y=.int k/\SqL K H l xs/\0<=k/\k<=1000/\xs.length * k.toNat<=sizeLine/\∀p,H p=none->Q (.ref p) (upd H p (.lst (List.replicate k.toNat xs).flatten))
end
end L2
namespace PySem
end PySem
namespace L2
open PySem PySem.Spec PyProof.Rows
end L2
namespace PyProof.Rows
open PySem
theorem PQ {prog:Program} {w:World} {A:Around} {E:Value->Shared->Prop} {s:Shared} {it:Addr} {T:String} {o:Obj} {items:List Value} {n:Nat} {ns:List Int} {Q:Value->Shared->Prop} (hT:T="list"\/T="tuple")
  (ho:s.heap.get? it=some o) (hc:o.cls=.type T) (hd:o.data=.seq items.toArray n) (hI:IntsAre items ns) (h64:items.length < 64)
  (h:∀(h1 h':Heap) (e:Nat) (out:Array Value) (ns':List Int),IntsAre out.toList ns'->ns'.Perm ns->ns'.Pairwise (·<=·)->(∀b o',s.heap.get? b=some o'->h1.get? b=some o')->(∀b o',h1.get? b=some o'->h'.get? b=some o')->h'.get? h1.objs.size=some (seqObj "list" out e)->Q (.ref h1.objs.size) { s with heap:=h' }):
  wpAny (model prog w) A (call (.builtin "sorted") [.ref it]) Q E s:=by
 refine Calls.call_function_entry kind_sorted plain_sorted entry_sorted (args_sorted1 _) ?_;unfold Builtin.«sorted»;refine wpAny_bind (m:=checkCount "sorted" 1 1 _) (wpAny_pure ?_);refine wpAny_bind (wpAny_collect_seq it hT ho hc hd (λh1 k1=>?_) (by rw[List.size_toArray,sizeLine_eq];omega));refine wpAny_bind (wpAny_newList ?_);have e1:items.toArray.toList=items:=by simp
 rw[e1];have hoL:(h1.push (seqObj "list" items.toArray 0)).get? h1.objs.size=some (seqObj "list" items.toArray 0):=Heap.get?_push_size _ rfl;show wpAny _ _ _ _ _ { s with heap:=h1.push (seqObj "list" items.toArray 0) };refine wpAny_bind (wpAny_holding (wpAny_call_entry slot_list_sort ⟨_,hoL,rfl⟩ entry_list_sort (list_sort_tree hoL hI h64 λout ns' a1 a2 a3=>⟨_,rfl,?_⟩) (args_list_sort _)));obtain ⟨e,he⟩:=sortedHeap_at (vs:=items) (out:=out) hoL;refine wpAny_pure ⟨_,rfl,h h1 _ e out ns' a1 a2 a3 k1 (λb o' hb1=>?_) he⟩;rw[sortedHeap_old (Nat.ne_of_lt (Heap.lt_size hb1)) (by rw[size_push'];exact Nat.lt_succ_of_lt (Heap.lt_size hb1))];exact Heap.get?_push_of_some _ hb1
end PyProof.Rows
namespace L2
open PySem PySem.Spec PyProof.Rows
theorem adY {X:Cx}:bN X (.builtin "sorted") (λxs H Q=>∃(p:Addr) (ns:List Int),xs=[.ref p]/\SqT X.K H p (ns.map V.int)/\ns.length < 64/\∀ns':List Int,ns'.Perm ns->ns'.Pairwise (·<=·)->∀l,H l=none->Q (.ref l) (upd H l (.lst (ns'.map V.int)))):=by
 intro pins s Y H xs us Q I r h;obtain ⟨p,ns,rfl,hq,h64,q⟩:=h;obtain ⟨u,rfl,ru⟩:=vals1 r;cases ru;obtain ⟨its,rv,⟨o,ho,hc,n,hd⟩,hz⟩:=I.tuple hq;have hlen:its.length=ns.length:=by rw[<-rv.length];simp
 refine PQ (.inr rfl) ho hc hd (intsAre_of rv) (by omega) λh1 h' e out ns' a1 a2 a3 k1 k2 he=>?_;have I1:Inv X pins Y H { s with heap:=h1 }:=I.kept (t':=s.toks) k1;have hsz:(ns'.map V.int).length<=sizeLine:=by rw[ah,a2.length_eq,eL];omega
 exact ⟨.ref h1.objs.size,_,I1.laid (t':=s.toks) k2 (am _) (show ObjOk X.prog X.w _ _ _ (.lst (ns'.map V.int)) from ⟨hsz,out.toList,e,rP a1,by rw[Array.toArray_toList];exact he⟩),rfl,q ns' a2 a3 _ (I1.hok.fresh (am _))⟩
section
variable {prog:Program} {w:World} {A:Around} {R:Result->Shared->Prop} {s:Shared}
def iJ(e:Expr)(d:Nat)(target iter:Expr)(em:Value->Env->Sem Fin->Sem Fin):Prop:=
 ∀it acc env,compTurn e d it acc env=(standAt iter.pos >>= λ_=>pyNext it >>= λr=>match r with
   |none=>pure (.done .next)
   |some v=>letOwnedTupleGo target it v >>= λ_=>assign target env v >>= λ_=>em acc env (again (.compLoop e d it acc env)))
def emE (elt:Expr) (acc:Value) (env:Env) (k:Sem Fin):Sem Fin:=(eval elt env >>= λx=>call (.builtin "list.append") [acc,x] >>= λ_=>pure ()) >>= λ_=>k
def emG(e:Expr)(d:Nat)(iter:Expr)(acc:Value)(env:Env)(k:Sem Fin):Sem Fin:=
 eval iter env >>= λx=>standAt iter.pos >>= λ_=>foldedSetIterable iter env x >>= λx=>holding [x] (pyIter x) >>= λit=>runOwn (.compStart e d it acc env) env >>= λ_=>k
theorem adZ(elt t1 i1 t2 i2 t3 i3:Expr)(scope:Scope)(pos:Pos):iJ (.ListComp elt [⟨t1,i1,[],0⟩,⟨t2,i2,[],0⟩,⟨t3,i3,[],0⟩] scope pos) 0 t1 i1 (emG (.ListComp elt [⟨t1,i1,[],0⟩,⟨t2,i2,[],0⟩,⟨t3,i3,[],0⟩] scope pos) 1 i2):=λ_ _ _=>rfl
theorem P0{elt:Expr}{gens:List Comprehension}{scope:Scope}{pos:Pos}{d:Nat}{target iter:Expr}{em:Value->Env->Sem Fin->Sem Fin}{it acc:Value}{env:Env}(hT:iJ (.ListComp elt gens scope pos) d target iter em)(I:Nat->Shared->Prop)
  (turn:∀n s,I n s->wpAny (model prog w) A (pyNext it) (λr s₁=>match r with
   |none=>R (.ok .next) s₁
   |some v=>wpAny (model prog w) A (letOwnedTupleGo target it v) (λ_ s₁'=>wpAny (model prog w) A (assign target env v) (λ_ s₂=>
     ∀(k:Sem Fin)(Q:Fin->Shared->Prop)(E:Value->Shared->Prop),(∀s₅,(∃m,m < n/\I m s₅)->wpAny (model prog w) A k Q E s₅)->wpAny (model prog w) A (em acc env k) Q E s₂) (λ_ _=>False) s₁') (λ_ _=>False) s₁) (λ_ _=>False) s)
  (n:Nat) (h:I n s):codeAny (model prog w) A (.compLoop (.ListComp elt gens scope pos) d it acc env) R s:=by
 refine codeAny_loop rfl I (λn s hI=>?_) n h;show wpAny _ A ((compTurn (.ListComp elt gens scope pos) d it acc env).onRaise (λx=>do noteFrame x env;theTreesLotGoes x)) _ _ s;refine wpAny_noted ?_;rw[hT];refine af (fw (af (bb (turn n s hI) (λr s₁ h₁=>?_) λ_ _ h'=>False.elim h')));cases r with
 |none=>exact av h₁
 |some v=>
  refine af (bb h₁ (λ_ s₁' h₁'=>?_) λ_ _ h'=>False.elim h');exact af (bb h₁' (λ_ s₂ h₂=>h₂ _ _ _ λs₃ h₃=>av ⟨rfl,h₃⟩) λ_ _ h'=>False.elim h')
end
abbrev TM:=List V->St->Hp->(List V->St->Hp->Prop)->Prop
def lob (its:List Value) (n:Nat):Obj:={ cls:=.type "list",data:=.seq its.toArray n }
structure AccOk(X:Cx)(a:Addr):Prop where
 new:a∈X.ex\/X.s₀.heap.objs.size<=a
 cel:∀x c,X.env.cells.lookup x=some c->c≠a
 pin:∀p∈X.pn,p.1≠a
def PM(X:Cx)(lim:Bool)(a:Addr)(em:Sem Fin->Sem Fin)(t:TM):Prop:=
 ∀(pins:List (Addr×Obj))(its:List Value)(n:Nat)(ys:List V)(Y:St)(H:Hp)(s:Shared)(K:List V->St->Hp->Prop),Inv X ((a,lob its n)::pins) Y H s->(∀p∈pins,p.1≠a)->Vals ys its->(lim=true->ys.length < sizeLine)->t ys Y H K->
  ∀(k:Sem Fin)(Q:Fin->Shared->Prop)(E:Value->Shared->Prop),(∀s' its' n' ys' σ' H',Inv X ((a,lob its' n')::pins) σ' H' s'->Vals ys' its'->K ys' σ' H'->↥X k Q E s')->↥X (em k) Q E s
def tmE(te:TE):TM:=λys Y H K=>ys.length < sizeLine/\te Y H λy H'=>K (ys++[y]) Y H'
theorem Qa{X:Cx}{a:Addr}{elt:Expr}{te:TE}(hx:X.xe=λ_ _=>False)(ha:AccOk X a)(he:PE X elt te):PM X false a (emE elt (.ref a) X.env) (tmE te):=by
 intro pins its n ys Y H s K I hp rv _ h kk Q E hk;obtain ⟨hz,h⟩:=h;have h0:=he _ s Y H _ I h;rw[hx]at h0;refine af (af (bb h0 (λv s8 h8=>?_) λ_ _ z=>False.elim z));obtain ⟨y,H8,I8,r8,k8⟩:=h8;obtain ⟨pD,nD,lD,fD,cD⟩:=I8.pin (a,lob its n) (a8 _ bS);have hl:=rv.length;refine af (append_at (hsz:=by rw[ap];omega) pD λh9 hs9 hD9=>av ?_);have I8a:Inv X pins Y H8 s8:=I8.pins_of λp hp=>I8.pin p (a8 _ (a9 _ hp));have I9:Inv X pins Y H8 { s8 with heap:=h9 }:=I8a.turned (t':=s8.toks) (it:=a) (λb o hb e=>hs9.extBut b o hb e) nD lD ha.new ha.cel (λp hp'=>by
  rcases bv.mp hp' with z |z
  ·exact ha.pin p z
  ·exact hp p z)
 have hD9':h9.get? a=some (lob (its++[v]) (n+1)):=by rw[hD9,List.push_toArray];rfl
 refine hk _ (its++[v]) (n+1) (ys++[y]) Y H8 (I9.pins_of λp hp'=>?_) (rv.append (.cons r8 .nil)) k8;rcases ay.mp hp' with e |z
 ·subst e;exact ⟨hD9',nD,lD,fD,λv z=>by have z':Data.seq _ _=Data.cell v:=z;cases z'⟩
 ·exact I9.pin p (a8 _ z)
def emT(ifs:List Expr)(elt:Expr)(acc:Value)(env:Env)(k:Sem Fin):Sem Fin:=
 (forIn ifs true λc r=>if r=true then do let ok <-isTrue c env (eval c env);pure (ForInStep.yield ok) else pure (ForInStep.yield r)) >>= λok=>if ok=true then emE elt acc env k else k
theorem zU(elt tg iter:Expr)(ifs:List Expr)(scope:Scope)(pos:Pos):iJ (.ListComp elt [⟨tg,iter,ifs,0⟩] scope pos) 0 tg iter (emT ifs elt):=λ_ _ _=>rfl
def tmT(tt:TT)(te:TE):TM:=λys Y H K=>tt Y H λb H4=>if b=true then te Y H4 λy H5=>K (ys++[y]) Y H5 else K ys Y H4
theorem Qc{X:Cx}{a:Addr}{elt:Expr}{ifs:List Expr}{tt:TT}{te:TE}(hx:X.xe=λ_ _=>False)(ha:AccOk X a)(ht:PIf X ifs tt)(he:PE X elt te):PM X true a (emT ifs elt (.ref a) X.env) (tmT tt te):=by
 intro pins its n ys Y H s K I hp rv hl h kk Q E hk;have h0:=ht _ s Y H _ I h;rw[hx]at h0;refine af (bb h0 (λb s4 h4=>?_) λ_ _ z=>False.elim z);obtain ⟨H4,I4,q4⟩:=h4;cases b with
 |false=>exact hk s4 its n ys Y H4 I4 rv q4
 |true=>exact Qa hx ha he pins its n ys Y H4 s4 K I4 hp rv (λz=>nomatch z) ⟨hl rfl,q4⟩ kk Q E hk
def zV(lim:Bool)(X:Cx)(N':List Str)(scope:Scope)(tg:Expr)(em:Value->Env->Sem Fin->Sem Fin)(J:It)(σ0:St)(H1:Hp)(Q:VK):Prop:=
 ∃W:Nat->Nat->List V->St->Hp->Prop,(∃m,W 0 m [] σ0 H1)/\∀i m ys σ' H',W i m ys σ' H'->
  (J.stop i H'/\ys.length<=sizeLine/\∀D,H' D=none->Q (.ref D) (upd H' D (.lst ys)))\/
  (J.go i H'/\(lim=true->ys.length < sizeLine)/\∀cl C s₁ H₁ fp pn,∃g tm,PG (X.comp N' scope cl C s₁ H₁ fp pn) tg g/\(∀a,AccOk (X.comp N' scope cl C s₁ H₁ fp pn) a->PM (X.comp N' scope cl C s₁ H₁ fp pn) lim a (em (.ref a) (X.comp N' scope cl C s₁ H₁ fp pn).env) tm)/\
   ∀x H2,J.yld i H' x H2->g x σ' H2 λσ3 H3=>tm ys σ3 H3 λys' σ4 H4=>∃m',m' < m/\W (i+1) m' ys' σ4 H4)
def sS(lim:Bool)(X:Cx)(N':List Str)(scope:Scope)(tg:Expr)(em:Value->Env->Sem Fin->Sem Fin)(wi:TI)(cap:List (Option Nat)):TE:=λY H Q=>wi Y H λJ H1=>zV lim X N' scope tg em J (dN cap Y) H1 Q
theorem zW{X:Cx}{elt tg iter:Expr}{ifs:List Expr}{lim:Bool}{rest:List Comprehension}{em:Value->Env->Sem Fin->Sem Fin}{scope:Scope}{pos:Pos}{wi:TI}{pins:List (Addr×Obj)}{s:Shared}{Y:St}{H:Hp}{Q:VK}{RR:Value->Addr->Result->Shared->Prop}(N':List Str)(cap:List (Option Nat))(hc:X.calm=true)(hi:PI X tg iter wi)(hcap:Caps X scope N' cap)
  (hcell:scope.names.all (λy=>y.2 != NameKind.cell)=true)
  (hfr:scope.names.all (λy=>y.2 != NameKind.free||(X.env.kindOf y.1==some NameKind.cell||X.env.kindOf y.1==some NameKind.free))=true)
  (hkind:scope.kind=.function) (hT:iJ (.ListComp elt (⟨tg,iter,ifs,0⟩::rest) scope pos) 0 tg iter em) (I:Inv X pins Y H s) (h:sS lim X N' scope tg em wi cap Y H Q)
  (fin:∀(D C:Addr)(H':Hp)(s4:Shared)(m:Str->Option Value),Inv X pins Y H' s4->Q (.ref D) H'->s4.heap.Ns C m->d9 X pins H' C->RR (.ref D) C (.ok .next) s4):
  ↥X (eval iter X.env) (λx s₁=>↥X (pyIter x) (λit s₂=>↥X (newList []) (λacc s₃=>
   ↥X (newFunctionEnv scope X.env.globals (cu X.env scope.names []) [] X.env.qual none .none (some X.env)) (λcenv s₄=>
    codeAny (model X.prog X.w) X.A (.compStart (.ListComp elt (⟨tg,iter,ifs,0⟩::rest) scope pos) 0 it acc { cenv with scope:=relabel scope X.env }) (RR acc cenv.locals) s₄) X.xe s₃) X.xe s₂) X.xe s₁) X.xe s:=by
 have hcell':∀y∈scope.names,y.2≠NameKind.cell:=λy hy=>by
  have:=a7.mp hcell y hy;simpa using this
 have hfr':∀y∈scope.names,y.2=NameKind.free->(X.env.kindOf y.1=some NameKind.cell\/X.env.kindOf y.1=some NameKind.free):=λy hy hl=>by
  have:=a7.mp hfr y hy;simpa [hl] using this
 have hcs:∀y∈scope.names,y.2=NameKind.free->(X.env.cells.lookup y.1).isSome=true:=λy hy hl=>by
  obtain ⟨c,e⟩:=I.ok.has y.1 (hfr' y hy hl);rw[e];rfl
 have clsub:∀x c,(cu X.env scope.names []).lookup x=some c->X.env.cells.lookup x=some c:=yZ (λx c e=>by simp at e);have clhas:∀x,scope.names.lookup x=some NameKind.free->∃c,(cu X.env scope.names []).lookup x=some c:=λx e=>by
  have hm:=dy e;exact cp.mp (zb (hcs _ hm rfl) hm)
 have rel:∀x,(relabel scope X.env).names.lookup x=(scope.names.lookup x).map λk=>if (k==NameKind.free&&X.env.scope.kind==.function&&X.env.kindOf x==some .cell)=true then NameKind.cell else k:=λx=>rR
 have relfree:∀x,((relabel scope X.env).names.lookup x=some NameKind.cell\/(relabel scope X.env).names.lookup x=some NameKind.free)->scope.names.lookup x=some NameKind.free:=λx e=>by
  rw[rel x]at e;cases z:scope.names.lookup x with
  |none=>rw[z]at e;rcases e with e |e <;> cases e
  |some k=>
   have nk:=hcell' _ (dy z);rw[z]at e;cases k with
   |free=>rfl
   |cell=>exact absurd rfl nk
   | «local»=>rcases e with e |e <;> simp[show (NameKind.«local»==NameKind.free)=false by decide]at e
   |globalExplicit=>rcases e with e |e <;> simp[show (NameKind.globalExplicit==NameKind.free)=false by decide]at e
   |globalImplicit=>rcases e with e |e <;> simp[show (NameKind.globalImplicit==NameKind.free)=false by decide]at e
 generalize hcl:cu X.env scope.names []=cl at clsub clhas;refine thn (hi pins s Y H _ I h) λxv s0 h0=>thn h0 λitv s2 h2=>?_;obtain ⟨it,fp,tn,J,H2,e,I2,T,st2,f2,W,⟨m0,w0⟩,turn⟩:=h2;subst e;refine eK (wpAny_newFunctionEnv hcell' (by intro y hy;simp at hy) (λh₁ hns₁ hsb₁=>?_) hkind);dsimp only at hns₁ hsb₁ ⊢;generalize hH2:s2.heap.push { cls:=.type "list",dict:=none,data:=.seq ([]:List Value).toArray }=HP at hns₁ hsb₁ ⊢;have hC:HP.objs.size=s2.heap.objs.size+1:=by rw[<-hH2,eI]
 have hDC:s2.heap.objs.size≠HP.objs.size:=by rw[hC];exact cf (Nat.lt_succ_self _)
 have below:∀b,b < s2.heap.objs.size->b≠HP.objs.size/\b≠s2.heap.objs.size:=λb hb=>⟨by rw[hC];exact cf (Nat.lt_succ_of_lt hb),cf hb⟩;have old:∀b o,s2.heap.get? b=some o->h₁.get? b=some o:=λb o e=>hsb₁.extBut b o (below b (ax e)).1 (ag _ (hH2 ▸ ag _ e));have hacc:h₁.get? s2.heap.objs.size=some { cls:=.type "list",data:=.seq ([]:List Value).toArray 0 }:=hsb₁.extBut _ _ hDC (ag _ (hH2 ▸ aI _ rfl));have hst₁:tn 0 h₁:=T.keep _ _ _ st2 λb _ o e=>old b o e;have fplt:∀b∈fp,b < s2.heap.objs.size:=λb hb=>by
  obtain ⟨o,e,_⟩:=T.obj _ _ st2 b hb;exact ax e
 have fslt:∀b∈frs X.stack,b < s2.heap.objs.size:=λb hb=>by
  obtain ⟨_,o,e,_⟩:=I2.stack.mem hb;exact ax e
 have celllt:∀x c,cl.lookup x=some c->c < s2.heap.objs.size:=λx c e=>by
  obtain ⟨v,q⟩:=I2.cell x c (clsub x c e);exact q.lt
 have hDf:H2 s2.heap.objs.size=none:=I2.hok.fresh (am _);have hCf:H2 HP.objs.size=none:=I2.hok.fresh (by rw[hC];exact eS _);have nofs:∀b∈fp,b∉frs X.stack:=λb hb z=>by
  obtain ⟨_,f1,f2',_⟩:=f2 b hb;rcases ay.mp (I2.stkSub b z) with e |e
  ·exact f1 e
  ·exact f2' e
 have ok':(X.comp N' scope cl HP.objs.size s2 H2 fp (X.pn++pins)).Ok:=
  ⟨I2.ok.mod,hkind,I2.ok.glob,I2.ok.blt,(by show s2.heap.objs.size<=HP.objs.size;rw[hC];exact eS _),
   λx y c e1 e2=>I2.ok.inj x y c (clsub x c e1) (clsub y c e2),λx hx=>clhas x (relfree x hx),λx c hf _=>(by cases hf),I2.ok.hd,I2.ok.frames,.inl rfl,
   λb hb=>⟨(below b (fplt b hb)).1,λx c e=>(f2 b hb).2.2.2.2.1 x c (clsub x c e)⟩,I2.bs,bi I2.ok.bsz I2.sz,
   λb o e hb=>(by
    rcases (f2 b hb).2.2.2.1 with z |z
    ·exact I2.ok.noex b o e z
    ·exact absurd (aT (ax e) (bi I2.ok.bsz z)) (d6 _)),
   nofs,I2.stack,I2.stkFree⟩
 have pnOk:∀p∈X.pn++pins,p.1 < s2.heap.objs.size/\p.1∉frs X.stack:=λp hp=>by
  obtain ⟨e,_,n1,n2,_⟩:=I2.pin p hp;refine ⟨ax e,λz=>?_⟩;rcases ay.mp (I2.stkSub _ z) with e |e
  ·exact n1 e
  ·exact n2 e
 have I0:∀t,Inv (X.comp N' scope cl HP.objs.size s2 H2 fp (X.pn++pins)) [(s2.heap.objs.size,{ cls:=.type "list",data:=.seq ([]:List Value).toArray 0 })] (dN cap Y) H2 { s2 with heap:=h₁,toks:=t }:=λt=>
  ⟨ok',rfl,I2.bare,Un.kept old,⟨_,hns₁,λi x v e1 e2 _=>by
    obtain ⟨j,nj,fr,sj⟩:=hcap.at e1 e2;obtain ⟨m,_,hl⟩:=I2.loc;have hk:=hfr' (x,NameKind.free) (dy fr) rfl;obtain ⟨u,r,l⟩:=hl j x v nj sj (by rcases hk with hk |hk;exact .inr (.inl hk);exact .inr (.inr hk));refine ⟨u,r,.inr ⟨?_,?_⟩⟩
    ·show (relabel scope X.env).names.lookup x=some .cell\/(relabel scope X.env).names.lookup x=some .free;rw[rel x,fr,Option.map_some];by_cases hh:(NameKind.free==NameKind.free&&X.env.scope.kind==ScopeKind.function&&X.env.kindOf x==some NameKind.cell)=true
     ·exact .inl (by rw[if_pos hh])
     ·exact .inr (by rw[if_neg hh])
    ·obtain ⟨c,ec⟩:=clhas x fr;have ec':=clsub x c ec;rcases l with ⟨k1,_⟩ |⟨_,c',e',q⟩
     ·rcases hk with hk |hk <;> (rw[hk]at k1;cases k1)
     ·have ecc:X.env.cells.lookup x=some c:=ec';rw[e']at ecc;cases ecc;obtain ⟨o,ho,hd⟩:=q;exact ⟨_,ec,o,old _ _ ho,hd⟩⟩,
   λx c e=>(by obtain ⟨v,o,ho,hd⟩:=I2.cell x c (clsub x c e);exact ⟨v,o,old _ _ ho,hd⟩),hCf,λx c e=>I2.freeC x c (clsub x c e),
   λp hp=>by
    rcases bv.mp hp with z |z
    ·obtain ⟨e,n0,_,_,d⟩:=I2.pin p z;exact ⟨old _ _ e,n0,(below _ (pnOk p z).1).1,(pnOk p z).2,d⟩
    ·have e:p=_:=bn.mp z;subst e;exact ⟨hacc,hDf,hDC,λz=>absurd (fslt _ z) (d6 _),λv z=>by have z':Data.seq _ _=Data.cell v:=z;cases z'⟩,
   I2.hok.kept old,by show (dN cap Y).length=N'.length;unfold dN;rw[ah];exact hcap.len⟩
 have fpok:∀{H':Hp}{o:Obj},(∀b∈fp,H' b=none)->∀b∈fp,d9 (X.comp N' scope cl HP.objs.size s2 H2 fp (X.pn++pins)) [(s2.heap.objs.size,o)] H' b:=λhn b hb=>
  ⟨hn b hb,(below b (fplt b hb)).1,nofs b hb,.inl hb,λx c e=>(f2 b hb).2.2.2.2.1 x c (clsub x c e),λp hp=>by
   rcases bv.mp hp with z |z
   ·exact (f2 b hb).2.2.2.2.2 p z
   ·have e:p=_:=bn.mp z;subst e;exact Ne.symm (below b (fplt b hb)).2⟩
 have loop:∀s₃:Shared,s₃={ s2 with heap:=h₁,toks:=s2.toks+([]:List (Str×Value)).length }->
   codeAny (model X.prog X.w) X.A (.compLoop (.ListComp elt (⟨tg,iter,ifs,0⟩::rest) scope pos) 0 (.ref it) (.ref s2.heap.objs.size) (compEnvC scope cl HP.objs.size X.env))
    (RR (.ref s2.heap.objs.size) HP.objs.size) s₃:=by
  rintro s₃ rfl;refine P0 hT
   (λk s'=>∃(i:Nat) (ys:List V) (its:List Value) (n:Nat) (σ':St) (H':Hp),Inv (X.comp N' scope cl HP.objs.size s2 H2 fp (X.pn++pins)) [(s2.heap.objs.size,{ cls:=.type "list",data:=.seq its.toArray n })] σ' H' s'/\Vals ys its/\
    tn i s'.heap/\(∀b∈fp,H' b=none)/\W i k ys σ' H') ?_ m0 ⟨0,[],[],0,_,H2,I0 _,.nil,hst₁,λb hb=>(f2 b hb).1,w0⟩
  rintro k s3 ⟨i,ys,its,n,σ3,H3,I3,rv3,st3,fr3,w3⟩;rcases turn i k ys σ3 H3 w3 with ⟨stop,hz,qn⟩ |⟨go,hlim,step⟩
  ·refine thn (T.done (X.comp N' scope cl HP.objs.size s2 H2 fp (X.pn++pins)) rfl rfl rfl hc i _ s3 σ3 H3 _ I3 (fpok fr3) st3 stop) λr s4 ⟨hr,I4⟩=>?_;subst hr;obtain ⟨m,hn,_⟩:=I4.loc;obtain ⟨pD,nD,_,_,_⟩:=I4.pin (s2.heap.objs.size,{ cls:=.type "list",data:=.seq its.toArray n }) (a8 _ (bn.mpr rfl));have nC:H3 HP.objs.size=none:=I4.free;have u:Un (frs X.stack) fp H2 H3 s2.heap s4.heap:=I4.base;refine fin s2.heap.objs.size HP.objs.size (upd H3 s2.heap.objs.size (.lst ys)) s4 m ?_ (qn _ nD) hn ?_
   ·refine I2.call' (s':=s4) (ch:=fp) I4.os ?_ ?_ I4.bare λb hb=>⟨(f2 b hb).2.2.2.1,(f2 b hb).2.1,(f2 b hb).2.2.2.2.1,(f2 b hb).2.2.2.2.2⟩
    ·refine ⟨λb o e n0 hb hx=>u.keep b o e n0 hb hx,λb o e n0 hb hx=>u.slot b o e n0 hb hx,λb o e n0 hx=>?_,λb o e hx=>u.there b o e hx,λb xs e=>?_,λb o v e=>?_,λb ps e=>?_⟩
     ·rw[aB (below b (ax e)).2];exact u.free b o e n0 hx
     ·rw[aB (aR e hDf)];exact u.tups b xs e
     ·rw[aB (aR e hDf)];exact u.frzs b o v e
     ·rw[aB (aR e hDf)];exact u.tbls b ps e
    ·intro b o e;by_cases hb:b=s2.heap.objs.size
     ·subst hb;rw[bM]at e;cases e;exact ⟨hz,its,n,rv3,pD⟩
     ·rw[aB hb]at e;exact (I4.hok b o e).stay (λc v _ q=>q) (λc q=>by rw[aB (aR q nD)];exact q) λc xs q=>by rw[aB (aR q nD)];exact q
   ·have hle:s2.heap.objs.size<=HP.objs.size:=by rw[hC];exact eS _
    exact I2.fpOk hle (by rw[aB (Ne.symm hDC)];exact nC)
  ·refine thn (T.item (X.comp N' scope cl HP.objs.size s2 H2 fp (X.pn++pins)) rfl rfl rfl hc i _ s3 σ3 H3 _ I3 (fpok fr3) st3 go) λr s4 ⟨u,hr,h4⟩=>?_;subst hr;refine thn h4 λ_ s5 ⟨x,H5,I5,r5,y5,st5,fr5⟩=>?_;obtain ⟨g,tm,hg,hm,body⟩:=step cl HP.objs.size s2 H2 fp (X.pn++pins);have acc:AccOk (X.comp N' scope cl HP.objs.size s2 H2 fp (X.pn++pins)) s2.heap.objs.size:=
    ⟨.inr (am _),λx c e z=>absurd (celllt x c e) (by rw[z];exact d6 _),λp hp z=>absurd (pnOk p hp).1 (by rw[z];exact d6 _)⟩
   have I5':=I5.pinned (fpok fr5) (T.obj _ _ st5);refine thn (hg _ s5 σ3 H5 x u _ I5' r5 (body x H5 y5)) λ_ s6 ⟨σ6,H6,I6,q6⟩=>?_;intro kk Q' E' hk';refine hm _ acc (jK fp s5.heap) its n ys σ6 H6 s6 _ I6 (λp hp' e=>?_) rv3 hlim q6 kk Q' E' λs7 its' n' ys' σ7 H7 I7 rv7 ⟨m',hm',w7⟩=>hk' s7 ⟨m',hm',i+1,ys',its',n',σ7,H7,I7.pins_of λp hp'=>?_,rv7,?_,λb hb=>?_,w7⟩
   ·exact (below p.1 (fplt p.1 (yr hp').1)).2 e
   ·refine I7.pin p (a8 _ ?_);rw[bn.mp hp'];exact bS
   ·exact T.keep _ _ _ st5 λb hb o e=>(I7.pin (b,o) (a8 _ (a9 _ (nT hb e)))).1
   ·obtain ⟨o,e,_⟩:=T.obj _ _ st5 b hb;exact (I7.pin (b,o) (a8 _ (a9 _ (nT hb e)))).2.1
 exact codeAny_compStart_list (loop _ rfl) (T.self X.A 0 _ _ _ hst₁ (loop _ rfl))
theorem Qd{X:Cx}{elt tg iter:Expr}{ifs:List Expr}{lim:Bool}{rest:List Comprehension}{em:Value->Env->Sem Fin->Sem Fin}{scope:Scope}{pos:Pos}{wi:TI}(N':List Str)(cap:List (Option Nat))(hc:X.calm=true)(hi:PI X tg iter wi)(hcap:Caps X scope N' cap)
  (hcell:scope.names.all (λy=>y.2 != NameKind.cell)=true) (hnames:scope.names.all (λy=>y.2 != NameKind.local||scope.names.lookup y.1==some NameKind.local)=true)
  (hfr:scope.names.all (λy=>y.2 != NameKind.free||(X.env.kindOf y.1==some NameKind.cell||X.env.kindOf y.1==some NameKind.free))=true)
  (hkind:scope.kind=.function) (hs:∀x,foldedSetIterable iter X.env x=pure x) (hT:iJ (.ListComp elt (⟨tg,iter,ifs,0⟩::rest) scope pos) 0 tg iter em):
  PE X (.ListComp elt (⟨tg,iter,ifs,0⟩::rest) scope pos) (sS lim X N' scope tg em wi cap):=by
 intro pins s Y H Q I h;have hnames':∀y∈scope.names,y.2=NameKind.local->scope.names.lookup y.1=some NameKind.local:=λy hy hl=>by
  have:=a7.mp hnames y hy;simpa [hl] using this
 have hcs:∀y∈scope.names,y.2=NameKind.free->(X.env.cells.lookup y.1).isSome=true:=λy hy hl=>by
  have:=a7.mp hfr y hy;obtain ⟨c,e⟩:=I.ok.has y.1 (by simpa [hl] using this);rw[e];rfl
 rw[eval_ListComp];refine wpAny_comprehension_free (use:=none) (Q:=EP X pins Y Q) rfl hs (zc hcs) hkind hnames'
  (zW (RR:=λacc C=>compPost (model X.prog X.w) X.A X.xe none (EP X pins Y Q) acc C) N' cap hc hi hcap hcell hfr hkind hT I h λL C H' s4 m I4 q hn fC=>?_)
 obtain ⟨f0,f1,f2,f3,f4,f5⟩:=fC;exact ⟨m,hn,λh' hs'=>⟨.ref L,H',I4.turned (t':=s4.toks) (it:=C) (λb o hb e=>hs'.extBut b o hb e) f0 f1 f3 f4 f5,rfl,q⟩⟩
theorem Qe{X:Cx}{elt tg iter:Expr}{ifs:List Expr}{lim:Bool}{rest:List Comprehension}{em:Value->Env->Sem Fin->Sem Fin}{scope:Scope}{pos py spos:Pos}{wi:TI}{i:Nat}{y:Str}(hT:iJ (.ListComp elt (⟨tg,iter,ifs,0⟩::rest) scope pos) 0 tg iter em)(hN:X.N.Nodup)(hiy:X.N[i]?=some y)(hy:Loc X.env.scope y)(N':List Str)(cap:List (Option Nat))(hc:X.calm=true)(hi:PI X tg iter wi)(hcap:Caps X scope N' cap)
  (hcell:scope.names.all (λy=>y.2 != NameKind.cell)=true:=by rfl) (hnames:scope.names.all (λy=>y.2 != NameKind.local||scope.names.lookup y.1==some NameKind.local)=true:=by rfl)
  (hfr:scope.names.all (λy=>y.2 != NameKind.free||(X.env.kindOf y.1==some NameKind.cell||X.env.kindOf y.1==some NameKind.free))=true:=by rfl)
  (hkind:scope.kind=.function:=by rfl) (hs:∀x,foldedSetIterable iter X.env x=pure x:=by intro _;rfl)
  (hsw:swapsWith (.ListComp elt (⟨tg,iter,ifs,0⟩::rest) scope pos) (some (.Name y py)) spos.line X.env=pure true:=by rfl)
  (hf:X.fn y=true\/X.env.scope.names.lookup y=some .local:=by first |exact .inl rfl |exact .inr rfl |assumption):
  PS X (.Assign [.Name y py] (.ListComp elt (⟨tg,iter,ifs,0⟩::rest) scope pos) spos) (nQ (sS lim X N' scope tg em wi cap) (nP i)):=by
 intro pins s Y H D I h;have hnames':∀y∈scope.names,y.2=NameKind.local->scope.names.lookup y.1=some NameKind.local:=λy hy hl=>by
  have:=a7.mp hnames y hy;simpa [hl] using this
 have hcs:∀y∈scope.names,y.2=NameKind.free->(X.env.cells.lookup y.1).isSome=true:=λy hy hl=>by
  have:=a7.mp hfr y hy;obtain ⟨c,e⟩:=I.ok.has y.1 (by simpa [hl] using this);rw[e];rfl
 rw[exec_Assign_Name_used _ _ _ _ hsw];refine af (fw (af ?_));show wpAny _ X.A (do let _ <-comprehension (.ListComp elt (⟨tg,iter,ifs,0⟩::rest) scope pos) scope X.env _ (newList []) false (eval iter X.env) (some (assign (.Name y py) X.env))) _ _ s;refine af (bb (wpAny_comprehension_free (use:=some (assign (.Name y py) X.env)) (Q:=λ_ s'=>SP X pins D .next s') rfl hs (zc hcs) hkind hnames'
  (zW (RR:=λacc C=>compPost (model X.prog X.w) X.A X.xe (some (assign (.Name y py) X.env)) (λ_ s'=>SP X pins D .next s') acc C) N' cap hc hi hcap hcell hfr hkind hT I h λL C H' s4 m I4 q hn fC=>?_)) (λ_ s' hq=>av (av hq)) λ_ _ e=>e)
 obtain ⟨oC,es,ep,eC,rC⟩:=id hn;obtain ⟨f0,f1,f2,f3,f4,f5⟩:=fC;have ncell:∀v,oC.data≠.cell v:=λv z=>by rw[rC.1]at z;cases z
 have I5:Inv X (pins++[(C,oC)]) Y H' s4:=I4.pins_of λp hp=>by
  rcases bv.mp hp with z |z
  ·exact I4.pin p (a8 _ z)
  ·have e:p=_:=bn.mp z;subst e;exact ⟨eC,f0,f1,f2,ncell⟩
 refine wpAny_assign_Name (jJ I5 hN hiy hy (v:=.ref L) (u:=.ref L) rfl (λs5 I6=>?_) hf);have eC5:s5.heap.get? C=some oC:=(I6.pin (C,oC) (a8 _ (a8 _ (bn.mpr rfl)))).1;have I7:Inv X pins (Y.set i (some (.ref L))) H' s5:=I6.pins_of λp hp=>I6.pin p (a8 _ (dE _ hp));refine ⟨m,⟨oC,es,ep,eC5,rC⟩,λh'' hs''=>?_⟩;exact ⟨_,H',I7.turned (t':=s5.toks) (it:=C) (λb o hb e=>hs''.extBut b o hb e) f0 f1 f3 f4 f5,q⟩
open HT
section
variable {prog:Program} {w:World} {A:Around} {E:Value->Shared->Prop} {s:Shared}
theorem Qf(n:Nat):Builtin.Slice.sliceAdjust none none (-1) (n:Int)=((n:Int) - 1,-1):=rfl
theorem Qg(n:Nat):Builtin.Slice.slicePlaces ((n:Int) - 1) (-1) (-1)=n:=by
 unfold Builtin.Slice.slicePlaces;have h1:¬((-1:Int) > 0):=by omega
 simp only[h1,if_false];split
 ·rw[show (-(-1):Int)=1 by decide,Int.ediv_one];omega
 ·omega
theorem Qh{sl:Addr}{t:Tok}{n:Nat}{Q:Int×Int×Nat->Shared->Prop}(hs:s.heap.IsSliceOf sl .none .none (.int (-1) t))
  (h:Q ((n:Int) - 1,-1,n) s):wpAny (model prog w) A (Builtin.Slice.sliceApplied (.ref sl) (pure (n:Int))) Q E s:=by
 obtain ⟨os,hos,hcs,hds⟩:=id hs;unfold Builtin.Slice.sliceApplied Builtin.Slice.sliceFields;refine af (af (cy hos hds (x:=.none) rfl (af (cy hos hds (x:=.none) rfl (af (cy hos hds (x:=.int (-1) t) rfl (av ?_)))))));refine af (HT.jL (.int (-1) t) ?_);show wpAny _ _ (if ((-1:Int)==0)=true then _ else _) _ _ s;rw[if_neg (by decide)];refine af (HT.jL .none (af (HT.jL .none (af (av ?_)))));show wpAny _ _ (match Builtin.Slice.sliceAdjust none none (-1) (n:Int) with | (lo,hi)=>pure (lo,(-1:Int),Builtin.Slice.slicePlaces lo hi (-1))) _ _ s;rw[Qf n];show wpAny _ _ (pure ((n:Int) - 1,(-1:Int),Builtin.Slice.slicePlaces ((n:Int) - 1) (-1) (-1))) _ _ s;rw[Qg];exact av h
theorem Qi(its:List Value):((List.range its.toArray.size).filterMap λ(m:Nat)=>its.toArray[((its.toArray.size:Int) - 1+(m:Int) * -1).toNat]?).toArray=its.reverse.toArray:=by
 have h2:=zx its;have e:slicePick its.toArray none none (some (-1))=((List.range its.toArray.size).filterMap λ(m:Nat)=>its.toArray[((its.toArray.size:Int) - 1+(m:Int) * -1).toNat]?).toArray:=by
  show ((sliceRange ((its.toArray.size:Int) - 1) (-1) (-1)).filterMap λx=>its.toArray[x]?).toArray=_;unfold sliceRange;dsimp only;rw[if_neg (by decide),List.filterMap_map];congr 1;have e1:(if (its.toArray.size:Int) - 1 > -1 then ((its.toArray.size:Int) - 1 - -1 - -1 - 1) / -(-1) else 0).toNat=its.toArray.size:=by
   split
   ·rw[show (-(-1):Int)=1 by decide,Int.ediv_one];omega
   ·omega
  rw[e1];congr 1;funext k;show its.toArray[((its.toArray.size:Int) - 1 + -1 * (k:Int)).toNat]?=_;rw[Int.mul_comm]
 rw[<-e,h2]
theorem Qj{t sl:Addr}{its:List Value}{tk:Tok}{Q:Value->Shared->Prop}(ht:IsTup s.heap t its.toArray)(hs:s.heap.IsSliceOf sl .none .none (.int (-1) tk))
  (h:Q (.ref (~~~s)) { s with heap:=s.heap.push { cls:=.type "tuple",data:=.seq its.reverse.toArray } })
  (hsz:its.toArray.size<=sizeLine):wpAny (model prog w) A (getItem (.ref t) (.ref sl)) Q E s:=by
 have htake:sizeOk (.seq its.reverse.toArray):=by show its.reverse.toArray.size<=sizeLine;rw[ap,eJ];rwa [ap]at hsz
 obtain ⟨os,hos,hcs,hds⟩:=id hs;have hTs:s.TypeIs (.ref sl) "slice":=⟨os,hos,hcs⟩;unfold getItem;try with_reducible refine df ?_
 first |refine af (av ?_) |skip
 refine af (wpAny_sequenceKey ht.typeIs (by decide) ?_);refine af (d5 (name:=Str.ofString "__getitem__") ht.typeIs cq
  (fo cq ht.typeIs entry_tuple_getitem ?_ (args_tuple_getitem _ _)))
 show wpAny _ _ (Builtin.Tuple.tupleItemsOf (.ref t) >>= _) _ _ s;refine af (tupleItemsOf_ ht ?_);refine af (wpAny_typeOf hTs ?_);rw[if_pos (by decide)];refine af (Qh hs ?_);show wpAny _ _ (if ((((its.toArray.size:Int) - 1)==0&&(-1:Int)==1&&its.toArray.size==its.toArray.size)=true) then _ else _) _ _ s;rw[if_neg (by rw[show ((-1:Int)==1)=false from rfl,ff,Bool.false_and];exact b6),Qi];first
  |exact af (m:=Builtin.Tuple.tupleExact _) (eK (av ⟨_,rfl,av h⟩) htake)
  |exact af (m:=Builtin.Tuple.tupleExact _) (eK (af (av (av ⟨_,rfl,av h⟩))) htake)
  |exact af (af (m:=Builtin.Tuple.tupleExact _) (eK (av (av ⟨_,rfl,av h⟩)) htake))
  |exact af (af (m:=Builtin.Tuple.tupleExact _) (eK (av ⟨_,rfl,av h⟩) htake))
end
def Qk(K:PF):V->V->Hp->VK->Prop:=λx y H Q=>y=.int (-1)/\∃a xs,x=.ref a/\((SqL K H a xs/\∀p,H p=none->Q (.ref p) (upd H p (.lst xs.reverse)))\/(SqT K H a xs/\∀p,H p=none->Q (.ref p) (upd H p (.tup xs.reverse))))
section
variable {X:Cx} {e st:Expr} {te ts:TE} {p2 pos:Pos}
theorem Ql(he:PE X e te)(hs:PE X st ts):PE X (.Subscript e (.Slice none none (some st) p2) pos) (λY H Q=>te Y H λx H1=>ts Y H1 λy H2=>Qk X.K x y H2 Q):=by
 intro pins s Y H Q I h;refine Subscript_ (thn (he pins s Y H _ I h) λv s1 ⟨x,H1,I1,r1,q1⟩=>?_);refine wpAny_Slice (thn (rM pins s1 Y H1 (λl H2=>l=none/\H2=H1) I1 ⟨rfl,rfl⟩) λvl s2 hy=>?_);obtain ⟨l,H2,I2,pl,rfl,rfl⟩:=hy;refine thn (rM pins s2 Y H2 (λl H3=>l=none/\H3=H2) I2 ⟨rfl,rfl⟩) λvu s3 hy=>?_;obtain ⟨u,H3,I3,pu,rfl,rfl⟩:=hy;rw[evalPart_some];refine thn (hs pins s3 Y H3 _ I3 q1) λvs s4 hy=>?_;obtain ⟨y,H4,I4,r4,rfl,a,xs,rfl,hq⟩:=hy;obtain ⟨t,rfl⟩:=r4;cases r1;have I5:Inv X pins Y H4 { s4 with heap:=s4.heap.push { cls:=.type "slice",data:=.fields #[vl,vu,.int (-1) t] } }:=I4.kept (t':=s4.toks) λb ob q=>ag _ q;rcases hq with ⟨hx,q⟩ |⟨hx,q⟩
 ·obtain ⟨its,r,ht,hz⟩:=I5.list hx;have hlen:=r.length;refine tail_any (ops:=[.ref a,.ref s4.heap.objs.size]) (T:="list") ht.isList.typeIs slot_list_getitem.lookup ?_ (by with_unfolding_all rfl);refine wpAny_getItem_list_slice ht.isList (Heap.IsSliceOf.new ..) pl pu (.int (-1) t) (by simp) ?_ (by rw[ap] <;> omega);rw[zx];refine ⟨.ref _,_,I5.laid (t':=s4.toks) (o:=.lst xs.reverse) (λb ob q=>ag _ q) (am _) ?_,rfl,q _ (I5.hok.fresh (am _))⟩;exact ⟨by rw[eJ];exact hz,_,0,r.back,aI _ rfl⟩
 ·obtain ⟨its,r,ht,hz⟩:=I5.tuple hx;have hlen:=r.length;cases pl;cases pu;refine tail_any (ops:=[.ref a,.ref s4.heap.objs.size]) (T:="tuple") ht.typeIs cq.lookup ?_ (by with_unfolding_all rfl);refine Qj ht (Heap.IsSliceOf.new ..) ?_ (by rw[ap] <;> omega);refine ⟨.ref _,_,I5.laid (t':=s4.toks) (o:=.tup xs.reverse) (λb ob q=>ag _ q) (am _) ?_,rfl,q _ (I5.hok.fresh (am _))⟩;exact ⟨by rw[eJ];exact hz,_,r.back,IsTup.new _ _⟩
end
end L2
namespace PySem
open Sem (wp)
open Builtin Builtin.Str
open AutoSeq1 (wpAny_loadPart')
section
variable {prog:Program} {w:World} {A:Around} {E:Value->Shared->Prop} {s:Shared}
theorem Qm(x y:Str):(occurrences x y 0 x.length (x.length+1)).length<=x.length+1:=StrLaws.occ_length_le _ _ _ _ _
theorem Qn(x y:Str):(partsBetween x (occurrences x y 0 x.length (x.length+1)) y.length).length<=x.length+2:=by have h:=Qm x y;unfold partsBetween;simp only[List.length_map,List.length_zip,List.length_cons,List.length_append,List.length_nil];omega
theorem call_split{x y:Str}{t u:Tok}{Q:Value->Shared->Prop}(hy:(y.length==0)=false)(hz:x.length+2<=sizeLine)
  (h:∀l tk,l.map (·.1)=Txt.split x y->Q (.ref (~~~s)) { s with heap:=s.heap.push { cls:=.type "list",data:=.seq (strValues l).toArray },toks:=tk }):
  wpAny (model prog w) A (call (.builtin "str.split") [.str x t,.str y u]) Q E s:=by
 have sl:=F.slot_str_split;have ar:=F.args_str_split_2 (.str x t) (.str y u);by_cases c1:(decide (x.length < y.length)||decide (Builtin.Str.strKind x < Builtin.Str.strKind y))=true
 ·exact call_meets sl (typeIs_str _ _ _) F.entry_str_split ar (meets_str_split_cannot_occur x y t u c1) (h [(x,t)] s.toks (by unfold Txt.split;rw[if_pos c1];rfl))
 ·have c1':=eq_false_of_ne_true c1;by_cases c2:(occurrences x y 0 x.length (x.length+1)).isEmpty=true
  ·exact call_meets sl (typeIs_str _ _ _) F.entry_str_split ar (meets_str_split_not_found x y t u c1' hy c2) (h [(x,t)] s.toks (by unfold Txt.split;rw[if_neg c1,if_pos c2];rfl))
  ·refine call_meets sl (typeIs_str _ _ _) F.entry_str_split ar (meets_str_split_sep x y t u c1' hy (eq_false_of_ne_true c2) (by omega) (Nat.le_trans (Qn x y) hz)) ?_;have q:=h (numbered s.toks (partsBetween x (occurrences x y 0 x.length (x.length+1)) y.length)) (s.toks+(partsBetween x (occurrences x y 0 x.length (x.length+1)) y.length).length) (by
    rw[numbered_texts];unfold Txt.split;rw[if_neg c1,if_neg c2])
   rw[<-strsFrom_eq]at q;exact q
theorem Qo{t:Addr}{items:Array Value}{Q:List Value->Shared->Prop}(hh:A.handled=none)(ht:s.heap.IsList t items)(hz:items.size<=sizeLine)(hn:0 < items.size)
  (h:∀(h':Heap)(tk:Nat),(∀b o,s.heap.get? b=some o->h'.get? b=some o)->
   Q (.ref h'.objs.size::items.toList.drop (items.size - 1)) { s with heap:=h'.push { cls:=.type "list",data:=.seq (items.toList.take (items.size - 1)).toArray },toks:=tk }):
  wpAny (model prog w) A (unpackItems (.ref t) 2 (some 0)) Q E s:=by
 have hlt:t≠(~~~s):=by obtain ⟨o,e,_⟩:=id ht;exact Nat.ne_of_lt (Heap.lt_size e)
 have hlt':t < (~~~s):=by obtain ⟨o,e,_⟩:=id ht;exact Heap.lt_size e
 unfold unpackItems;unfold notIterableAtAll;refine wpAny_bind (wpAny_bind (wpAny_specialOf ht.typeIs F.slot_list_iter.lookup ?_));refine wpAny_pure ?_;simp only[Bool.false_eq_true,if_false];refine wpAny_bind (wpAny_holding (wpAny_pyIter_list ht ?_));refine wpAny_bind (wpAny_holding (wpAny_pure ?_));simp only[List.length_nil,Nat.not_lt_zero,if_false];refine wpAny_bind (wpAny_holding (wpAny_collect_iter (.inr (.inr (.inl rfl))) (Walks.list (A:=A.in1) hh (~~~s) t hlt items).toS (λ_ _ st=>let ⟨o,ho,hc,_⟩:=st.1;⟨o,ho,hc⟩)
  ⟨⟨_,Heap.get?_push_size _ rfl,rfl,rfl⟩,ht.push _⟩ (λb hb=>?_) (by simp) (λs' acc hm ha=>?_) hz))
 ·have hb':b=(~~~s)\/b=t:=by simpa using hb
  show b < (s.heap.push _).objs.size;rw[Heap.size_push];rcases hb' with rfl |rfl
  ·exact Nat.lt_succ_self _
  ·exact Nat.lt_succ_of_lt hlt'
 ·have e1:acc.toList=items.toList:=by
   refine List.ext_getElem? λi=>?_;rw[Array.getElem?_toList,Array.getElem?_toList];by_cases hi:i < acc.size
   ·have:=ha.2 i acc[i] (by simp[hi]);rw[this];simp[hi]
   ·rw[Array.getElem?_eq_none (by omega),Array.getElem?_eq_none (by have:=ha.1;omega)]
  have e2:acc.toList.length=items.size:=by rw[e1];simp
  rw[if_neg (by rw[e2];omega)];obtain ⟨h',g',d',tk',os'⟩:=s';have eg:g'=s.gens:=hm.gens;have ed:d'=s.drawn:=hm.drawn;have eo:os'=s.os:=hm.os;subst eg;subst ed;subst eo;refine wpAny_bind (wpAny_newList (wpAny_pure ?_) (by rw[List.length_take];omega));have q:=h h' tk' λb o e=>hm.heap b o (by
   intro hb;have hl:=Heap.lt_size e;rw[List.mem_singleton.mp hb]at hl;exact Nat.lt_irrefl _ hl) (Heap.get?_push_of_some _ e)
  rw[e1];have e3:items.toList.length - (2 - 1 - 0)=items.size - 1:=by simp
  rw[e3];exact q
theorem Qp{env:Env}{elts:List Expr}{x1}{pos:Pos}{t:Addr}{items:Array Value}{Q:Unit->Shared->Prop}(hh:A.handled=none)(ht:s.heap.IsList t items)(hz:items.size<=sizeLine)(hn:0 < items.size)
  (hl:(assignEach elts env).length=2) (hs:(assignEach elts env).findIdx? (·.1)=some 0)
  (h:∀(h':Heap)(tk:Nat),(∀b o,s.heap.get? b=some o->h'.get? b=some o)->
   wpAny (model prog w) A (assignInOrder ((assignEach elts env).map (·.2)) (.ref h'.objs.size::items.toList.drop (items.size - 1))) Q E { s with heap:=h'.push { cls:=.type "list",data:=.seq (items.toList.take (items.size - 1)).toArray },toks:=tk }):
  wpAny (model prog w) A (assign (.Tuple elts x1 pos) env (.ref t)) Q E s:=by
 rw[PyProof.Rows.assign_Tuple];refine wpAny_bind (wpAny_standAt ?_);unfold unpack;rw[hl,hs];exact wpAny_bind (wpAny_holding (Qo hh ht hz hn h))
end
def iK (v:Value):List (Str×Value):=[(Str.ofString "start",v)]
theorem Qq(l:Addr)(items:Array Value)(n:Nat)(dc:Option Addr)(sl)(u:Tok):
  Meets (Builtin.«enumerate.__new__» ⟨[.type "enumerate",.ref l],iK (.int 1 u)⟩) (λ_ R s=>s.heap.get? l=some { cls:=.type "list",dict:=dc,data:=.seq items n,slots:=sl }/\
   R (.ok (.ret (.ref (s.heap.push { cls:=.type "list_iterator",data:=.fields #[.ref l,.int 0 0] }).objs.size)))
    { s with heap:=(s.heap.push { cls:=.type "list_iterator",data:=.fields #[.ref l,.int 0 0] }).push { cls:=.type "enumerate",data:=.fields #[.none,.bool false,.ref (~~~s),rawInt 1,.none,.none] } }):=
 .of_wp λprog w A R s h=>by
  obtain ⟨hp,g,d,tk,os⟩:=s;obtain ⟨hl,h⟩:=h;have sb:=sub_enumerate;have hL:Heap.IsList (Shared.heap ⟨hp,g,d,tk,os⟩) l items:=⟨_,hl,rfl,n,rfl⟩;unfold iK;wp_walk using wpAny_loadPart' hl
  refine wpAny_stack_any λst=>wpAny_pure ?_;have go:∀m:Sem (Value×Option Value),m=pure (Value.ref l,some (Value.int 1 u))->∀(K:Value×Option Value->Sem Fin),K (Value.ref l,some (Value.int 1 u))=(do
    let it <-pyIter (.ref l)
    let r <-Builtin.SmallTypes.newRecord (.type "enumerate") (Builtin.SmallTypes.ownedTupleFields++[it,rawInt 1,.none,.none])
    ret r)->wpAny (model prog w) A.in1 (m >>= K) (λfin s'=>∃v,fin=Fin.done (Flow.ret v)/\R (Except.ok (Flow.ret v)) s') (λe s'=>R (Except.error e) s') ⟨hp,g,d,tk,os⟩:=by
   intro m e K e2;refine wpAny_bind (wpAny_of_eq e ?_);rw[e2];wp_walk using wpAny_loadPart' hl,wpAny_pyIter_list hL
   exact ⟨_,rfl,h⟩
  split
  ·rename_i c _ _ _ _ _;cases (c==Value.type "enumerate")
   ·exact go _ (by rfl') _ (by rfl')
   ·exact go _ (by rfl') _ (by rfl')
  ·exact go _ (by rfl') _ (by rfl')
theorem Qs (l:Addr) (u:Tok):checkTypeCall "enumerate" ⟨[.ref l],iK (.int 1 u)⟩=pure ():=by rfl'
theorem Qt (l:Addr) (u:Tok):checkBuiltinCall "enumerate.__new__" ⟨[.type "enumerate",.ref l],iK (.int 1 u)⟩=pure ():=by rfl'
theorem Qu (o:Value) (l:Addr) (u:Tok):argsOk "object.__init__" ⟨[o,.ref l],iK (.int 1 u)⟩:=by unfold argsOk;rfl'
section
variable {prog:Program} {w:World} {A:Around} {E:Value->Shared->Prop} {s:Shared}
theorem Qv{self:Value}{rest:List Value}{kw:List (Str×Value)}:
  Meets (Builtin.«object.__init__» ⟨self::rest,kw⟩) (λ_ R s=>s.TypeIs self "enumerate"/\R (.ok (.ret .none)) s):=by
 refine Meets.of_wp λprog w A R s hs=>?_;obtain ⟨hT,hq⟩:=hs;have hl:=F.called_enumerate.init.lookup;have hm:=F.called_enumerate.made;cases rest with
 |nil=>
  cases kw with
  |nil=>exact wpAny_pure ⟨_,rfl,hq⟩
  |cons a kw=>
   repeat (any_goals (first |assumption |wp_step))
   exact ⟨_,rfl,hq⟩
 |cons a rest=>
  repeat (any_goals (first |assumption |wp_step))
  exact ⟨_,rfl,hq⟩
theorem Qw{l:Addr}{u:Tok}{items:Array Value}{Q:Value->Shared->Prop}(hL:s.heap.IsList l items)
  (h:∀h',IsEnum h' ((~~~s)+1) (~~~s) 1 .none->h'.IsListIter (~~~s) l 0->h'.objs.size=(~~~s)+2->
   (∀b o,s.heap.get? b=some o->h'.get? b=some o)->Q (.ref ((~~~s)+1)) { s with heap:=h' }):
  wpAny (model prog w) A (call (.type "enumerate") [.ref l] (iK (.int 1 u))) Q E s:=by
 obtain ⟨⟨cl,dc,dt,sl⟩,hl,hcl,n,hd⟩:=hL;replace hcl:cl=.type "list":=hcl;replace hd:dt=.seq items n:=hd;subst hcl hd;have ft:=F.called_enumerate;have hct:=Qs l u;obtain ⟨c,tl,hmro⟩:=ft.mro;have hmade:=ft.made;have hsub:=ft.sub;refine wpAny_call (codeAny_of_tree ?_);show wpAny _ _ (callAny (.type "enumerate") _) _ _ _;refine wpAny_pure ⟨Code.quiet_builtin _ (by ac_rfl),codeAny_builtin F.entry_type_call ?_⟩;rw[Around.under_plain (weight_type_call_type "enumerate" [.ref l] _) (units_type_call_type "enumerate" [.ref l] _)];have h1:=ft.notType;have h2:=ft.canCreate;repeat (any_goals (first |assumption |wp_step))
 have hz:(s.heap.push { cls:=.type "list_iterator",data:=.fields #[.ref l,.int 0 0] }).objs.size=(~~~s)+1:=Heap.size_push ..;have he:IsEnum ((s.heap.push { cls:=.type "list_iterator",data:=.fields #[.ref l,.int 0 0] }).push { cls:=.type "enumerate",data:=.fields #[.none,.bool false,.ref (~~~s),rawInt 1,.none,.none] }) ((~~~s)+1) (~~~s) 1 .none:=by have z:=Heap.get?_push_size (s.heap.push { cls:=.type "list_iterator",data:=.fields #[.ref l,.int 0 0] }) (o:={ cls:=.type "enumerate",data:=.fields #[.none,.bool false,.ref (~~~s),rawInt 1,.none,.none] }) rfl;rw[hz]at z;exact z
 have hq:=h _ he ⟨_,Heap.get?_push_of_some _ (Heap.get?_push_size _ rfl),rfl,rfl⟩ (by rw[Heap.size_push,hz]) λb o x=>Heap.get?_push_of_some _ (Heap.get?_push_of_some _ x);rw[<-hz]at hq;refine codeAny_mono (codeAny_call_builtin ft.plain F.entry_enumerate_new (wpAny_of_eq (Qt l u) (Qq l items n dc sl u prog w A.in1
  (wants (λobj s₁=>obj=.ref (s.heap.push { cls:=.type "list_iterator",data:=.fields #[.ref l,.int 0 0] }).objs.size/\s₁.TypeIs obj "enumerate"/\Q obj s₁) E) s ⟨hl,rfl,⟨_,(by rw[hz];exact he),rfl⟩,hq⟩))) λr s₁ hr=>?_
 cases r with
 |error e=>exact hr
 |ok fl=>
  cases fl with
  |ret obj=>
   obtain ⟨_,hT,hq1⟩:=hr;have hli:=ft.init.lookup;have hbi:=ft.init.bind obj;repeat (any_goals (first |assumption |wp_step))
   refine codeAny_mono (codeAny_call_builtin ft.init.plain F.entry_object_init (ft.init.check _ _ _ _ _ _ _ _ hT (Qu obj l u) (Qv prog w A.in1 (wants (λr s₂=>r=.none/\Q obj s₂) E) s₁ ⟨hT,rfl,hq1⟩))) λr₂ s₂ hr₂=>?_;cases r₂ with
   |error e=>exact hr₂
   |ok fl₂=>
    cases fl₂ with
    |ret r=>
     obtain ⟨rfl,hq⟩:=hr₂;repeat (any_goals (first |assumption |wp_step))
    |_=>exact hr₂.elim
  |_=>exact hr.elim
end
end PySem
namespace RF
open PySem L2 PySem.Builtin PySem.Builtin.Str PySem.StrLaws
def az(c:Nat):List Nat->List (List Nat)
 |[]=>[[]]
 |x::r=>if x=c then []::az c r else (x::(az c r).headD [])::(az c r).tail
def posN(c:Nat):Nat->List Nat->List Nat
 |_,[]=>[]
 |k,x::r=>if x=c then k::posN c (k+1) r else posN c (k+1) r
theorem sub_one(l:List Nat)(c i:Nat):subAt ⟨l.toArray⟩ ⟨#[c]⟩ i=(l[i]?==some c):=by
 unfold subAt;have e:(⟨#[c]⟩:Str).length=1:=rfl;rw[e,e7,ai,ai];have e2:(l.toArray.extract i (i+1)).toList=(l.drop i).take 1:=by rw[Array.toList_extract];simp[List.extract]
 constructor
 ·intro h;have h2:(l.toArray.extract i (i+1)).toList=[c]:=ez Array.toList h;rw[e2]at h2;have h3:=ez (·[0]?) h2;simpa [List.getElem?_take,List.getElem?_drop] using h3
 ·intro h;apply Array.ext';rw[e2];show _=[c];obtain ⟨hi,he⟩:=bd.mp h;rw[ca hi,he];rfl
theorem oH(l:List Nat)(c:Nat):∀(n k:Nat)(acc:Array Nat)(free:Nat),k+n=l.length+1->acc.size<=k->free<=k->
  (forIn (List.range' k n) (acc,free) (occBody ⟨l.toArray⟩ ⟨#[c]⟩ l.length (l.length+1))).run.fst.toList=acc.toList++posN c k (l.drop k)
 |0,k,acc,free,hn,ha,hf=>by
  have:l.drop k=[]:=dv (by omega);rw[this];show acc.toList=acc.toList++[];simp
 |n+1,k,acc,free,hn,ha,hf=>by
  rw[List.range'_succ,List.forIn_cons];unfold occBody;have e1:(⟨#[c]⟩:Str).length=1:=rfl;by_cases hk:k < l.length
  ·have ed:l.drop k=l[k]::l.drop (k+1):=ca hk;by_cases hc:l[k]=c
   ·have hs:subAt ⟨l.toArray⟩ ⟨#[c]⟩ k=true:=by rw[sub_one,bo hk,hc];simp
    rw[if_pos ⟨⟨⟨show acc.size < _ by omega,hf⟩,by rw[e1];omega⟩,hs⟩];have ih:=oH l c n (k+1) (acc.push k) (k+1) (by omega) (by rw[Array.size_push];omega) (am _);have hp:posN c k (l.drop k)=k::posN c (k+1) (l.drop (k+1)):=by rw[ed];conv=>lhs;unfold posN;rw[if_pos hc]
    rw[hp];rw[Array.toList_push,List.append_assoc]at ih;exact ih
   ·have hs:¬subAt ⟨l.toArray⟩ ⟨#[c]⟩ k=true:=by rw[sub_one,bo hk];simpa using hc
    rw[if_neg λz=>hs z.2];have ih:=oH l c n (k+1) acc free (by omega) (by omega) (by omega);have hp:posN c k (l.drop k)=posN c (k+1) (l.drop (k+1)):=by rw[ed];conv=>lhs;unfold posN;rw[if_neg hc]
    rw[hp];exact ih
  ·have e2:l.drop k=[]:=dv (by omega);rw[if_neg λz=>by have:=z.1.2;rw[e1]at this;omega];have ih:=oH l c n (k+1) acc free (by omega) (by omega) (by omega);have e3:l.drop (k+1)=[]:=dv (by omega);rw[e3]at ih;rw[e2];exact ih
theorem Qx(l:List Nat)(c:Nat):occurrences ⟨l.toArray⟩ ⟨#[c]⟩ 0 l.length (l.length+1)=posN c 0 l:=by rw[occ_eq];have h:=oH l c (l.length+1) 0 #[] 0 (by omega) (by simp) (by omega);rw[fe]at h;simpa using h
theorem zX(l:List Nat)(a b:Nat):strSub ⟨l.toArray⟩ a b=⟨((l.drop a).take (b - a)).toArray⟩:=by unfold strSub;congr 1;apply Array.ext';simp
theorem oJ(c:Nat):∀l,∃h t,az c l=h::t
 |[]=>⟨_,_,rfl⟩
 |x::r=>by
  unfold az;split
  ·exact ⟨_,_,rfl⟩
  ·exact ⟨_,_,rfl⟩
theorem sU(l:List Nat)(c:Nat):∀(n k a:Nat),k+n=l.length->a<=k->
  partsFrom ⟨l.toArray⟩ 1 a (posN c k (l.drop k))=(⟨((l.drop a).take (k - a)++(az c (l.drop k)).headD []).toArray⟩:Str)::(az c (l.drop k)).tail.map λp=>⟨p.toArray⟩
 |0,k,a,hn,ha=>by
  have:l.drop k=[]:=dv (by omega);rw[this];show [strSub ⟨l.toArray⟩ a l.toArray.size]=_;rw[zX];have:k=l.length:=by omega
  subst this;simp[az]
 |n+1,k,a,hn,ha=>by
  have hk:k < l.length:=by omega
  have ed:l.drop k=l[k]::l.drop (k+1):=ca hk;by_cases hc:l[k]=c
  ·have hp:posN c k (l.drop k)=k::posN c (k+1) (l.drop (k+1)):=by rw[ed];conv=>lhs;unfold posN;rw[if_pos hc]
   have hs:az c (l.drop k)=[]::az c (l.drop (k+1)):=by rw[ed];conv=>lhs;unfold az;rw[if_pos hc]
   rw[hp,hs];show strSub _ a k::partsFrom _ 1 (k+1) _=_;rw[sU l c n (k+1) (k+1) (by omega) (am _),zX];obtain ⟨h,t,e⟩:=oJ c (l.drop (k+1));simp[e]
  ·have hp:posN c k (l.drop k)=posN c (k+1) (l.drop (k+1)):=by rw[ed];conv=>lhs;unfold posN;rw[if_neg hc]
   have hs:az c (l.drop k)=(l[k]::(az c (l.drop (k+1))).headD [])::(az c (l.drop (k+1))).tail:=by rw[ed];conv=>lhs;unfold az;rw[if_neg hc]
   rw[hp,hs,sU l c n (k+1) a (by omega) (by omega)];have e5:(l.drop a).take (k+1 - a)=(l.drop a).take (k - a)++[l[k]]:=by rw[show k+1 - a=(k - a)+1 by omega,List.take_add_one];congr 1;rw[List.getElem?_drop,show a+(k - a)=k by omega,bo hk];rfl
   rw[e5];simp
theorem zY(c:Nat):∀l,posN c k l=[]->az c l=[l]
 |[],_=>rfl
 |x::r,h=>by
  unfold posN at h;unfold az;split at h
  ·cases h
  ·rename_i hx;rw[if_neg hx];have:=zY c r (k:=k+1) h;rw[this];rfl
theorem Qy(l:List Nat)(c:Nat)(hc:c < 256):Txt.split ⟨l.toArray⟩ ⟨#[c]⟩=(az c l).map λp=>(⟨p.toArray⟩:Str):=by
 unfold Txt.split;have e1:(⟨#[c]⟩:Str).length=1:=rfl;have e2:(⟨l.toArray⟩:Str).length=l.length:=by show l.toArray.size=_;simp
 rw[e1,e2,Qx];split
 ·rename_i h;have hl:l=[]:=by
   have k1:Str.strKind (⟨#[c]⟩:Str)=1:=by unfold Str.strKind;rw[if_pos (by simpa using hc)]
   have k2:1<=Str.strKind (⟨l.toArray⟩:Str):=by unfold Str.strKind;split <;> (try split) <;> omega
   rw[k1]at h;simp only[bX,decide_eq_true_eq]at h;have:l.length=0:=by omega
   exact eM.mp this
  subst hl;rfl
 ·split
  ·rename_i h;have:=zY c l (k:=0) (eP.mp h);rw[this];rfl
  ·rw[partsBetween_eq];have h:=sU l c l.length 0 0 (by omega) (am _);rw[fe]at h;rw[h];obtain ⟨p,t,e⟩:=oJ c l;simp[e]
theorem split_len(c:Nat):∀(l:List Nat)(p:List Nat),p∈az c l->p.length<=l.length
 |[],p,h=>by rw[bn.mp h];exact am _
 |x::r,p,h=>by
  obtain ⟨q,t,e⟩:=oJ c r;have ih:=split_len c r;unfold az at h;rw[e]at h ih;split at h
  ·rcases ay.mp h with z |z
   ·rw[z];simp
   ·have:=ih p z;simp;omega
  ·rcases ay.mp h with z |z
   ·rw[z];have:=ih q (bS ..);simpa using this
   ·have:=ih p (a9 _ z);simp;omega
theorem zZ(c:Nat):∀l:List Nat,(az c l).length<=l.length+1
 |[]=>am _
 |x::r=>by
  have ih:=zZ c r;obtain ⟨q,t,e⟩:=oJ c r;unfold az;split
  ·simpa using ih
  ·rw[e]at ih ⊢;simp at ih ⊢;omega
end RF
namespace L2
open PySem PySem.Spec PyProof.Rows
section
variable {prog:Program} {w:World} {A:Around} {E:Value->Shared->Prop} {h:Heap} {g:Array GenState} {d:Drawn} {t:Nat} {os:OsState}
variable {nm q:Str} {C N fI:Addr} {oI:Obj} {us bs bm bB:List Value} {hd:Bool} {sn:List Str} {sub:List Value} {ab:Bool} {col:Option Bool} {dd:Option Addr} {k0 k1 k2 k3 k5:Option Value} {B nw ini:String}
def exH (h:Heap) (C:Addr) (us:List Value):Heap:=(h.push ⟨.type "tuple",none,.seq us.toArray 0,#[]⟩).push ⟨.ref C,none,.fields #[.ref h.objs.size,.none,.none,.none,.bool false,.none],#[]⟩
theorem jP{b:Addr}{o:Obj}(e:h.get? b=some o):(exH h C us).get? b=some o:=ag _ (ag _ e)
theorem z6:(exH h C us).get? (h.objs.size+1)=some ⟨.ref C,none,.fields #[.ref h.objs.size,.none,.none,.none,.bool false,.none],#[]⟩:=by
 unfold exH
 heap_get
theorem Qz {m:Str->Option Value} {Q:Fin->Shared->Prop} (F:ExcBaseFacts B nw ini bB) (T:OwnTail h bB bm) (hC:h.get? C=some (excClassObj nm q C N bs bm hd sn sub ab col dd k0 k1 k2 k3 k5 nw)) (hn:h.Ns N m) (hi:m "__init__"=some (.ref fI))
  (hf:h.get? fI=some oI) (hfc:oI.cls=.type "function") (hl:us.length<=sizeLine)
  (hq:wpAny (model prog w) A (call (.ref fI) (.ref (h.objs.size+1)::us)) (λr s'=>r=.none/\Q (.done (.ret (.ref (h.objs.size+1)))) s') E ⟨exH h C us,g,d,t,os⟩):
  wpAny (model prog w) A (Builtin.«type.__call__» ⟨.ref C::us,[]⟩) Q E ⟨h,g,d,t,os⟩:=by
 repeat (first |with_reducible refine wpAny_madeBy_exc hC ?_ |with_reducible refine cS hC ?_ |wp_step)
 refine codeAny_call_builtin_code (Code.quiet_builtin _ F.quiet) (wpAny_check_new_subT F T hC (codeAny_exc_new_subT F T hC ?_ hl));have c1:=jP (C:=C) (us:=us) hC;have c2:(exH h C us).Ns N m:=hn.keeps λ_ _=>jP;have c3:=T.keeps (h':=exH h C us) λ_ _=>jP;have c4:=z6 (h:=h) (C:=C) (us:=us);have c5:=jP (C:=C) (us:=us) hf;have hin:(Value.ref C::bm).contains (.ref C)=true:=by simp
 change wpAny _ _ _ _ _ ⟨exH h C us,g,d,t,os⟩;unfold isInstance;repeat (first | (with_reducible refine wpAny_isSubtype_exc c1 ?_;rw[hin]) |with_reducible refine cS c4 ?_ |wp_step)
 change wpAny _ _ (typeLookup (.ref C) _) _ _ _;refine wpAny_typeLookup_tail c1 c2 c3 F.mroIs F.init.lookup ?_;rw[hi];refine df (af ?_);unfold bindSpecial;refine af (wpAny_typeOf (T:="function") ⟨_,c5,hfc⟩ ?_);rw[if_pos (by decide)];refine av (af (bb hq (λr s' hr=>?_) λ_ _ z=>z));obtain ⟨rfl,z⟩:=hr;wp_walk
 exact z
end
section
variable {prog:Program} {w:World} {A:Around} {E:Value->Shared->Prop} {h:Heap} {g:Array GenState} {d:Drawn} {t:Nat} {os:OsState}
variable {nm q:Str} {C N fI:Addr} {oI:Obj} {us bs bm bB:List Value} {hd:Bool} {sn:List Str} {sub:List Value} {ab:Bool} {col:Option Bool} {dd:Option Addr} {k0 k1 k2 k3 k5:Option Value} {B nw ini:String}
theorem QB {m:Str->Option Value} {Q:Value->Shared->Prop} (F:ExcBaseFacts B nw ini bB) (T:OwnTail h bB bm) (hC:h.get? C=some (excClassObj nm q C N bs bm hd sn sub ab col dd k0 k1 k2 k3 k5 nw)) (hn:h.Ns N m) (hi:m "__init__"=some (.ref fI))
  (hf:h.get? fI=some oI) (hfc:oI.cls=.type "function") (hl:us.length<=sizeLine)
  (hq:wpAny (model prog w) (A.under (.builtin "type.__call__" ⟨.ref C::us,[]⟩)) (call (.ref fI) (.ref (h.objs.size+1)::us)) (λr s'=>r=.none/\Q (.ref (h.objs.size+1)) s') E ⟨exH h C us,g,d,t,os⟩):
  wpAny (model prog w) A (call (.ref C) us) Q E ⟨h,g,d,t,os⟩:=by
 have f1:=tc_bind (.ref C);have f2:=tc_lookup;have f3:(⟨h,g,d,t,os⟩:Shared).TypeIs (.ref C) "type":=⟨_,hC,rfl⟩;refine wpAny_call (codeAny_of_tree ?_);change wpAny _ _ (callAny (.ref C) _) _ _ _;repeat (any_goals (first |assumption |with_reducible refine cS hC ?_ |wp_step))
 refine ⟨rfl,codeAny_call_builtin_at (Code.quiet_builtin _ (by ac_rfl)) entry_typeCall (wpAny_check_type_call_sub hC (Qz F T hC hn hi hf hfc hl ?_))⟩;exact hq
end
section
variable {prog:Program} {w:World} {A:Around} {E:Value->Shared->Prop} {h:Heap} {g:Array GenState} {d:Drawn} {t:Nat} {os:OsState}
variable {nm q:Str} {C N e l:Addr} {us bs bm bB:List Value} {hd:Bool} {sn:List Str} {sub:List Value} {ab:Bool} {col:Option Bool} {dd dx:Option Addr} {k0 k1 k2 k3 k5:Option Value} {B nw ini:String}
theorem QC{Q:Value->Shared->Prop}(F:ExcBaseFacts B nw ini bB)(T:OwnTail h bB bm)(hC:h.get? C=some (excClassObj nm q C N bs bm hd sn sub ab col dd k0 k1 k2 k3 k5 nw))
  (he:h.get? e=some ⟨.ref C,dx,.fields #[.ref l,.none,.none,.none,.bool false,.none],#[]⟩)
  (hl:us.length<=sizeLine) (hq:∀h':Heap,(∀b o,b≠e->h.get? b=some o->h'.get? b=some o)->(∃l',h.get? l'=none/\h'.get? e=some ⟨.ref C,dx,.fields #[.ref l',.none,.none,.none,.bool false,.none],#[]⟩)->Q .none ⟨h',g,d,t,os⟩):
  wpAny (model prog w) A (call (.builtin ini) (.ref e::us)) Q E ⟨h,g,d,t,os⟩:=by
 refine wpAny_call (fk F.init.plain F.initEntry (wpAny_check_init_subT F T hC he rfl ?_));wp_walk
 show Q .none _;refine hq _ (λb o hb e1=>?_) ⟨h.objs.size,Heap.get?_none_of_le (am _),?_⟩
 ·rw[fb _ _ (Ne.symm hb)];exact ag _ e1
 ·rw[fR _ (ag _ he) rfl];rfl
end
open Builtin Builtin.ObjectAttr
open PySem.W (findIn mroIn clsIn typeIn Looks InstAt looks_findIn looks_mroIn looks_typeIn looks_clsIn takerIn takesIn hasDictIn looks_takesIn check_slot osa_eq)
def exO(C l:Addr)(dx:Option Addr):Obj:=⟨.ref C,dx,.fields #[.ref l,.none,.none,.none,.bool false,.none],#[]⟩
def jQ:List Value->Bool
 |.ref _::r=>jQ r
 |l=>ou l
theorem QD (self:Value):refuseLoop self "__setattr__" veM=pure ():=by rfl'
theorem z7 (self:Value):∀{l:List Value},jQ l=true->refuseLoop self "__setattr__" l=pure ()/\l.contains (.type "object")=true/\l.isEmpty=false
 |.ref c::r,e=>by
  have ih:=z7 self (l:=r) e;refine ⟨?_,?_,rfl⟩
  ·rw[refuseLoop_ref];exact ih.1
  ·rw[List.contains_cons,ih.2.1,Bool.or_true]
 |[],e=>by cases e
 |.type a::r,e=>by
  have h:.type a::r=veM:=zH e;rw[h];exact ⟨QD self,by decide,rfl⟩
 |.none::r,e=>nomatch (show false=true from e)
 |.bool _::r,e=>nomatch (show false=true from e)
 |.int _ _::r,e=>nomatch (show false=true from e)
 |.str _ _::r,e=>nomatch (show false=true from e)
 |.bytes _ _::r,e=>nomatch (show false=true from e)
 |.float _ _::r,e=>nomatch (show false=true from e)
 |.builtin _::r,e=>nomatch (show false=true from e)
 |.ellipsis::r,e=>nomatch (show false=true from e)
 |.notImplemented::r,e=>nomatch (show false=true from e)
section
variable {prog:Program} {w:World} {A:Around} {E:Value->Shared->Prop} {s:Shared} {x C l:Addr} {K:PF} {name:Str} {v:Value} {cd:ClassData}
theorem QF{R:Result->Shared->Prop}{tk:Tok}(KX:K.In s.heap)(hx:s.heap.get? x=some (exO C l none))(hc:clsIn K C=some cd)(hm:jQ cd.mro=true)(hd:cd.hasDict=true)(ht:takerIn K C name=some none)
  (h:∀h':Heap,(∀b o,b≠x->s.heap.get? b=some o->h'.get? b=some o)->h'.get? x=some (exO C l (some (~~~s)))->h'.Ns1 (~~~s) (λy=>if y=name then some v else none)->R (.ok (.ret .none)) { s with heap:=h',toks:=s.toks+1 }):
  codeAny (model prog w) A (.call (.builtin "object.__setattr__") ⟨[.ref x,.str name tk,v],[]⟩) R s:=by
 have SF:=PySem.F.store_object;have I:InstAt s.heap x (exO C l none) C none:=⟨hx,rfl,rfl,trivial⟩;obtain ⟨r1,r2,r3⟩:=z7 (.ref x) hm;have sub:Looks (model prog w) s.heap (isInstance (.ref x) (.type "object")) true:=I.type.andThen (looks_mroIn KX (by unfold mroIn;rw[hc,Option.bind_some,if_neg (by rw[r3];decide),r2]));refine fk SF.slot.plain SF.entry (@check_slot (model prog w) _ _ s "object.__setattr__" "object" "__setattr__" (.ref x) [.str name tk,v] [] _ SF.kind SF.split sub (SF.args (.ref x) (.str name tk) v) ?_);obtain ⟨attr,ha,hr⟩:=Option.bind_eq_some_iff.mp ht;have Lm:Looks (model prog w) s.heap (mroOf (.ref C)) cd.mro:=(looks_clsIn KX hc).andThen .now;have L3:Looks (model prog w) s.heap (storeTaker? attr) none:=by
  cases attr with
  |none=>exact .now
  |some a=>
   obtain ⟨b,hb,e⟩:=bg.mp hr;refine (looks_takesIn KX hb).andThen ?_;cases b
   ·exact .now
   ·cases e
 rw[osa_eq,refuse_eq];refine af (af (I.type.here (af (Lm.here ?_))));rw[r1];refine av (af (I.type.here (af ((looks_findIn KX ha).here (af (L3.here ?_))))));dsimp only;have hcd:=looks_clsIn (M:=model prog w) KX hc;refine af (av (af (af (wpAny_loadPart hx (af (hcd.here ?_))))));rw[hd];show wpAny _ _ (do let d <-alloc { cls:=Value.type "dict",data:=Data.dict #[] };update x λo=>{ o with dict:=some d };dictMade (.ref C) x d) _ _ _;refine af (wpAny_alloc ?_);have hlt:=ax hx;have hne:(~~~s)≠x:=dA hlt;have e0:(s.heap.push { cls:=Value.type "dict",data:=Data.dict #[] }).get? x=some (exO C l none):=ag _ hx;refine af (wpAny_update e0 (av ?_));have e1:(s.heap.push { cls:=Value.type "dict",data:=Data.dict #[] }).get? (~~~s)=some { cls:=Value.type "dict",data:=Data.dict #[] }:=aI s.heap rfl;have e2:((s.heap.push { cls:=Value.type "dict",data:=Data.dict #[] }).update x λo=>{ o with dict:=some (~~~s) }).get? x=some (exO C l (some (~~~s))):=by rw[fR _ e0 rfl];rfl
 have e3:((s.heap.push { cls:=Value.type "dict",data:=Data.dict #[] }).update x λo=>{ o with dict:=some (~~~s) }).get? (~~~s)=some { cls:=Value.type "dict",data:=Data.dict #[] }:=by rw[fb _ _ (Ne.symm hne)];exact e1
 have e4:((s.heap.push { cls:=Value.type "dict",data:=Data.dict #[] }).update x λo=>{ o with dict:=some (~~~s) }).Ns1 (~~~s) (λ_=>none):=
  Heap.Ns1.of_empty ⟨_,#[],_,e3,rfl,(λe he=>absurd he (by simp)),λ_=>rfl⟩
 have e5:∀b o,b≠x->s.heap.get? b=some o->((s.heap.push { cls:=Value.type "dict",data:=Data.dict #[] }).update x λo=>{ o with dict:=some (~~~s) }).get? b=some o:=λb o hb q=>by
  rw[fb _ _ (Ne.symm hb)];exact ag _ q
 refine af (av (af ?_));generalize ((s.heap.push { cls:=Value.type "dict",data:=Data.dict #[] }).update x λo=>{ o with dict:=some (~~~s) })=hB at e2 e3 e4 e5 ⊢;refine wpAny_nsSet1 (s:={ s with heap:=hB }) e4 λh' hn2 hs2=>?_;obtain ⟨oD,esD,epD,hoD,hdD,hcD⟩:=hn2.count (PySem.Within.cons name v (show PySem.Within (λ_=>none) [] from λy hy=>(hy rfl).elim));refine af (wpAny_lookBehind hoD (by rw[hdD];exact pastItsLine_dict (bi hcD (by rw[eL];show 1<=_;decide))) ?_);refine av (h h' (λb o hb q=>?_) ((hs2.2 _ (Ne.symm hne)).trans e2) hn2);have hbl:b≠(~~~s):=cf (ax q);rw[hs2.2 b hbl];exact e5 b o hb q
theorem QG{Q:Unit->Shared->Prop}(KX:K.In s.heap)(hx:s.heap.get? x=some (exO C l none))(hc:clsIn K C=some cd)(hm:jQ cd.mro=true)(hd:cd.hasDict=true)(ht:takerIn K C name=some none)
  (hs:findIn K (.ref C) "__setattr__"=some (some (.builtin "object.__setattr__")))
  (h:∀h':Heap,(∀b o,b≠x->s.heap.get? b=some o->h'.get? b=some o)->h'.get? x=some (exO C l (some (~~~s)))->h'.Ns1 (~~~s) (λy=>if y=name then some v else none)->Q () { s with heap:=h',toks:=s.toks+2 }):
  wpAny (model prog w) A (setAttr (.ref x) name v) Q E s:=
 PySem.W.set_plain KX (⟨hx,rfl,rfl,trivial⟩:InstAt s.heap x (exO C l none) C none) hs (QF (s:={ s with toks:=s.toks+1 }) KX hx hc hm hd ht h)
theorem QH{h:Heap}{g:Array GenState}{d:Drawn}{t:Nat}{os:OsState}{tk:Tok}{ox:Obj}{od:Option Obj}{Q:Fin->Shared->Prop}(KX:K.In h)(I:InstAt h x ox C od)(hf:PySem.W.findObj K C od name=some (.value v))(hq:Q (.done (.ret v)) ⟨h,g,d,t,os⟩):
  wpAny (model prog w) A (Builtin.«object.__getattribute__» ⟨[.ref x,.str name tk],[]⟩) Q E ⟨h,g,d,t,os⟩:=by
 have L0:=I.type (M:=model prog w);have L1:=PySem.W.looks_find (M:=model prog w) KX I hf;exact af (av (af (av (af (L0.at (af (L1.at (av hq))))))))
theorem QJ{h:Heap}{g:Array GenState}{d:Drawn}{t:Nat}{os:OsState}{ox:Obj}{od:Option Obj}{expr:Bool}{Q:Value->Shared->Prop}(KX:K.In h)(xi:Xin K C)(I:InstAt h x ox C od)(hf:PySem.W.findObj K C od name=some (.value v))(hv:PySem.W.handedIn v=true)
  (hq:Q v ⟨h,g,d,t+1,os⟩):wpAny (model prog w) A (getAttr (.ref x) name expr) Q E ⟨h,g,d,t,os⟩:=by
 have hx:=I.at_;have hc:=I.cls;have L1:=looks_findIn (M:=model prog w) KX xi.ga;have L2:=looks_findIn (M:=model prog w) KX xi.g;have f3:bindSpecial (.builtin "BaseException.__getattribute__") (.ref x)=pure (.builtin "BaseException.__getattribute__",[.ref x]):=(PySem.F.excAttr_ValueError).ga.bind (.ref x);have hx2:(Value.builtin "BaseException.__getattribute__"==Value.builtin "object.__getattribute__")=false:=by ac_rfl
 have hx1:(onTheHeap (Value.ref C)&&Value.builtin "BaseException.__getattribute__"==Value.builtin "object.__getattribute__")=false:=by rw[hx2];rfl
 have ho:=PySem.W.handedOut_of hv;unfold getAttr getAttrBy;repeat (any_goals (first |assumption | (with_reducible refine cS hx ?_;rw[hc]) |with_reducible refine L1.at ?_ |with_reducible refine L2.at ?_ |wp_step))
 rw[show (expr&&onTheHeap (Value.builtin "BaseException.__getattribute__"))=false from ff _,if_neg (by decide)];repeat (any_goals (first |assumption |wp_step))
 refine fk (by ac_rfl) F.entry_bexc_ga (zN KX xi hx hc (QH KX I hf ?_));repeat (any_goals (first |assumption |wp_step))
end
open PySem.W (findIn mroIn clsIn typeIn takerIn specialIn findCls readsIn)
def z8(f:Addr):Option Value->Bool
 |some (.ref a)=>a==f
 |_=>false
def sV(K:PF)(N f:Addr):Bool:=match K.lookup N with
 |some ⟨_,_,.dict es _,_⟩=>es.toList.all (λe=>oA e.key)&&z8 f (nsFind es "__init__")
 |_=>false
theorem QK {K:PF} {N f:Addr} {h:Heap} (KX:K.In h) (b:sV K N f=true):∃m,h.Ns N m/\m "__init__"=some (.ref f):=by
 unfold sV at b;split at b
 ·rename_i c d es ep sl e;rw[ae,a7]at b;refine ⟨nsFind es,⟨_,es,ep,KX _ _ e,rfl,λx hx=>?_,λ_=>rfl⟩,?_⟩
  ·have:=b.1 x (Array.mem_toList_iff.mpr hx);unfold oA at this;split at this
   ·rename_i y t e;exact ⟨_,_,e⟩
   ·cases this
  ·have h2:=b.2;unfold z8 at h2;split at h2
   ·rename_i a ea;rw[ai]at h2;rw[ea,h2]
   ·cases h2
 ·cases b
def gj(K:PF)(C f:Addr):Bool:=match K.lookup C with
 |some ⟨ty,_,.cls cd,⟨[_,_,_,_,k,_]⟩⟩=>sI ty&&isNew k&&sV K cd.ns f&&!cd.hasDel&&(match cd.mro with |v::tl=>isRef C v&&jO K tl |[]=>false)
 |_=>false
def z9 (h:Heap) (C f:Addr):Prop:=∃nm q N bs bm hd sn sub ab col dd k0 k1 k2 k3 k5 m,h.get? C=some (excClassObj nm q C N bs bm hd sn sub ab col dd k0 k1 k2 k3 k5 "ValueError.__new__")/\h.Ns N m/\m "__init__"=some (.ref f)/\OwnTail h veM bm
theorem sW{K:PF}{C f:Addr}{h:Heap}(KX:K.In h)(b:gj K C f=true):z9 h C f:=by
 unfold gj at b;split at b
 ·rename_i ty dd cd k0 k1 k2 k3 k k5 e;simp only[ae]at b;obtain ⟨⟨⟨⟨b1,b2⟩,b3⟩,b5⟩,b4⟩:=b;obtain ⟨m,hns,hq⟩:=QK KX b3;have e1:ty=.type "type":=by
   unfold sI at b1;split at b1
   ·rw[ai]at b1;rw[b1]
   ·cases b1
  have e2:k=some (.builtin "ValueError.__new__"):=by
   unfold isNew at b2;split at b2
   ·rw[ai]at b2;rw[b2]
   ·cases b2
  obtain ⟨nm,bs,mro,ns,q,hd,sn,sub,ab,col,del⟩:=cd;dsimp only at b4 hns b5;have e4:del=false:=by simpa using b5
  subst e4;split at b4
  ·rename_i v tl;rw[ae]at b4;have e3:v=.ref C:=by
    have:=b4.1;unfold isRef at this;split at this
    ·rw[ai]at this;rw[this]
    ·cases this
   subst e1 e2 e3;exact ⟨nm,q,ns,bs,tl,hd,sn,sub,ab,col,dd,k0,k1,k2,k3,k5,m,KX _ _ e,hns,hq,(zK KX b4.2).tail⟩
  ·cases b4
 ·cases b
def bV(e C l:Addr)(dx:Option Addr):Heap->Prop:=λh=>h.get? e=some (exO C l dx)
theorem Aa{P:Program}{w:World}{H:Hp}{h:Heap}{e C l:Addr}{dx:Option Addr}(he:h.get? e=some (exO C l dx)):ObjOk P w H h e (.ext (bV e C l dx)):=
 ⟨he,⟨_,he⟩,λh1 h2 a k=>k _ a⟩
theorem QL{h:Heap}{C:Addr}{us:List Value}:(exH h C us).get? (h.objs.size+1)=some (exO C h.objs.size none):=z6
section
variable {X:Cx} {CX:CXT} {k:Nat} {f C:Addr} {fd:FuncData} {ps:List Str} {sp:Sp} {E:XK} {x:Str} {p pos apos:Pos} {e:Expr} {es:List Expr} {t:TA}
theorem QM {pins:List (Addr×Obj)} {Y:St} {H:Hp} {s:Shared} {Q:VK} {us:List Value} {vs:List V} (hC:gj X.K C f=true) (hfn:typeIn X.K (.ref f)=some (.type "function")) (F0:FnOk X.prog X.w X.K X.mg X.base CX k f fd ps sp) (hr:Room (k+1) X.A) (hb:Binds X.K fd ps [])
  (hx:gb CX X E) (I:Inv X pins Y H s) (r:Vals vs us) (hl:us.length<=sizeLine)
  (h:∀a l,H a=none->s.heap.get? a=none->sp (.ref a::vs) (upd H a (.ext (bV a C l none))) (λv H2=>v=.non/\Q (.ref a) H2) E):
  ↥X (call (.ref C) us) (EP X pins Y Q) X.xe s:=by
 obtain ⟨nm,q,N,bs,bm,hd,sn,sub,ab,col,dd,k0,k1,k2,k3,k5,m,a1,a2,a3,a4⟩:=sW I.kIn hC;have hq:=h ((~~~s)+1) (~~~s) (I.hok.fresh (eS _)) (Heap.get?_none_of_le (eS _));have kp:∀b o,s.heap.get? b=some o->(exH s.heap C us).get? b=some o:=λb o e=>jP e;have I2:Inv X pins Y (upd H ((~~~s)+1) (.ext (bV ((~~~s)+1) C (~~~s) none))) { s with heap:=exH s.heap C us,toks:=s.toks }:=I.laid (t':=s.toks) kp (eS _) (Aa QL);have r2:Vals (V.ref ((~~~s)+1)::vs) (Value.ref ((~~~s)+1)::us):=.cons rfl r;have hlen:(Value.ref ((~~~s)+1)::us).length=ps.length:=by have e:=r2.length;rw[F0.len _ _ _ _ hq]at e;exact e.symm
 have hb2:=hb _ (Value.ref ((~~~s)+1)::us) I2.kIn (by rw[de];exact hlen);rw[de]at hb2;obtain ⟨of,hof,hfc⟩:∃o,s.heap.get? f=some o/\o.cls=.type "function":=by obtain ⟨o,eo,ec⟩:=bg.mp (show (X.K.lookup f).map (·.cls)=some (.type "function") from hfn);exact ⟨o,I.kIn _ _ eo,ec⟩
 obtain ⟨hp,g,d,tk,os⟩:=s;refine QB (h:=hp) F.excBase_ValueError a4 a1 a2 a3 hof hfc hl ?_;refine wpAny_call (codeAny_mono (F0.run _ X.stack _ _ ⟨Value.ref (hp.objs.size+1)::us,[]⟩ (Value.ref (hp.objs.size+1)::us) _ _ E (hr.make C us [])
  (I2.env0.make C us []) hb2 r2 hq) λr s' hq'=>?_)
 cases r with
 |error e=>exact hx pins Y _ _ e s' I2 hq'
 |ok fl=>
  cases fl with
  |ret u=>
   obtain ⟨v,H',I3,rv,ev,q3⟩:=I2.after hq';subst ev;exact ⟨rv,⟨V.ref (hp.objs.size+1),H',I3,rfl,q3⟩⟩
  |next=>exact False.elim hq'
  |brk=>exact False.elim hq'
  |cont=>exact False.elim hq'
def drp(H:Hp)(a:Addr):Hp:=λb=>if b=a then none else H b
theorem oK{H:Hp}{a:Addr}:drp H a a=none:=by unfold drp;rw[if_pos rfl]
theorem cV{H:Hp}{a b:Addr}(h:b≠a):drp H a b=H b:=by unfold drp;rw[if_neg h]
theorem oM{H:Hp}{a b:Addr}(h:H b=none):drp H a b=none:=by unfold drp;split <;> first |rfl |exact h
theorem Inv.drop{pins:List (Addr×Obj)}{Y:St}{H H0:Hp}{s:Shared}(I:Inv X pins Y H s){a:Addr}{ob:Obj}{y:HO}(hHa:H a=some (.frz ob y))(h0:H0 a=none)(ht:∀b xs,X.H₀ b=some (.tup xs)->H0 b=some (.tup xs))(hf:∀b o u,X.H₀ b=some (.frz o u)->H0 b=some (.frz o u))(hb:∀b ps,X.H₀ b=some (.tbl ps)->∃m,H0 b=some (.tbl (ps++m))):Inv X pins Y (drp H a) s:=by
 have ne:∀{b:Addr}{o:HO},H b=some o->(∀z w,o≠.frz z w)->b≠a:=λe n q=>by rw[q,hHa]at e;cases e;exact n _ _ rfl
 refine ⟨I.ok,I.os,I.bare,⟨I.base.keep,I.base.slot,λb u q n hx=>oM (I.base.free b u q n hx),I.base.there,λb xs q=>?_,λb u v q=>?_,λb ps q=>?_⟩,I.loc,I.cell,oM I.free,λx c e=>oM (I.freeC x c e),λp hpp=>?_,λb u q=>?_,I.len⟩
 ·rw[cV (λe=>by have z:=ht b xs q;rw[e,h0]at z;cases z)];exact I.base.tups b xs q
 ·rw[cV (λe=>by have z:=hf b u v q;rw[e,h0]at z;cases z)];exact I.base.frzs b u v q
 ·rw[cV (λe=>by obtain ⟨m,z⟩:=hb b ps q;rw[e,h0]at z;cases z)];exact I.base.tbls b ps q
 ·obtain ⟨p1,p2,p3⟩:=I.pin p hpp;exact ⟨p1,oM p2,p3⟩
 ·by_cases hb:b=a
  ·rw[hb,oK]at q;cases q
  ·rw[cV hb]at q;exact (I.hok b u q).stay (λ_ _ _ z=>z) (λc z=>by rw[cV (ne z λ_ _=>by simp)];exact z) λc xs z=>by rw[cV (ne z λ_ _=>by simp)];exact z
theorem QQ{prog:Program}{w:World}{A:Around}{E':Value->Shared->Prop}{env:Env}{s:Shared}{x:Sem Value}{Q:Flow->Shared->Prop}{C f:Addr}(hh:A.handled=none)
  (h:wpAny (model prog w) A x (λv s₁=>∃e l dx,v=.ref e/\z9 s₁.heap C f/\s₁.heap.get? e=some (exO C l dx)/\E' (.ref e) s₁) E' s):
  wpAny (model prog w) A (raiseStmt env (some x) none) Q E' s:=by
 unfold raiseStmt;refine af (bb h (λv s₁ h₁=>?_) λ_ _ x=>x);obtain ⟨e,l,dx,rfl,hC,he,hE⟩:=h₁;obtain ⟨nm,q,N,bs,bm,hd,sn,sub,ab,col,dd,k0,k1,k2,k3,k5,m,a1,a2,a3,a4⟩:=hC;have hcB:(Value.ref C::bm).contains (.type "BaseException")=true:=by rw[List.contains_cons,OJ a4 (by decide),Bool.or_true]
 unfold exO at he;obtain ⟨hp,g,d,tk,os⟩:=s₁;repeat (first |with_reducible refine cS he ?_ |with_reducible refine cS a1 ?_ | (with_reducible refine wpAny_isSubtype_exc a1 ?_;rw[hcB]) |wp_step)
 exact wpAny_raiseNew_none hh hE
theorem QR {E2:XK} (hc:X.calm=true) (hC:gj X.K C f=true) (hfn:typeIn X.K (.ref f)=some (.type "function")) (hk:PySem.W.keepIn X.K (.ref C)=true) (F0:FnOk X.prog X.w X.K X.mg X.base CX k f fd ps sp) (hr:Room (k+1) X.A) (hg:Gl X x) (hm:X.mg x=some (.ref C)) (hb:Binds X.K fd ps []) (hx:gb CX X E) (hT:Throws X E2)
  (ha:PA X (e::es) t) {rpos:Pos} (hdb:(x==("__debug__":Str))=false:=by decide) (he:starEach (e::es) X.env=(false,eval e X.env)::starEach es X.env:=by rfl) (hpl:(backTo pos (starEach es X.env)).any (·.1)=false:=by rfl):
  PS X (.Raise (some (.Call (.Name x p) (e::es) [] pos)) none rpos) (λ_ Y H=>t Y H λvs H1=>vs.length<=sizeLine/\∀(a l:Addr)(Q':Hp->Prop),H1 a=none->(∀H2 ob dx y,H2 a=some (.frz ob y)->ob.cls=.ref C->ob.dict=some dx->(∃l',ob=exO C l' (some dx))->E2 (.ref C) (some dx) (drp H2 a)->Q' H2)->sp (.ref a::vs) (upd H1 a (.ext (bV a C l none))) (λv H2=>v=.non/\Q' H2) E):=by
 intro pins s Y H D I h;rw[arm_exec_Raise];refine af (fw (QQ (C:=C) (f:=f) (I.ok.hd hc) (af (bb (fE (gP I hg hm ?_ hdb)) (λv s₃ h₃=>af (fw (av h₃))) λ_ _ x=>x))));refine PySem.W.callWith_K (h₀:=X.base) I.ok.mod.kin hk (thn (ha pos pins s Y H _ I h) λus s1 ⟨vs,H1,I1,r,hl,q⟩=>⟨I1.kIn,?_⟩) he hpl;refine bb (QM (Q:=λv H2=>∃a l' dx y,v=.ref a/\s1.heap.get? a=none/\H1 a=none/\H2 a=some (.frz (exO C l' (some dx)) y)/\E2 (.ref C) (some dx) (drp H2 a)) hC hfn F0 hr hb hx I1 r (by show us.length<=sizeLine;rw[<-r.length];exact hl) λa l hn hs=>?_) (λv s2 z=>?_) λ_ _ z=>z
 ·refine q a l _ hn λH2 ob dx y e1 _ _ e2 e3=>?_;obtain ⟨l',rfl⟩:=e2;exact ⟨a,l',dx,y,rfl,hs,hn,e1,e3⟩
 ·obtain ⟨v',H2,I2,rv,a,l',dx,y,rfl,hs,hn,h2,qE⟩:=z;obtain rfl:v=Value.ref a:=rv;have hob:=(show ObjOk X.prog X.w H2 s2.heap a (.frz (exO C l' (some dx)) y) from I2.hok a _ h2).1;refine ⟨a,l',some dx,rfl,sW I2.kIn hC,hob,?_⟩;refine hT pins Y (drp H2 a) s2 a _ _ (I2.drop h2 hn I1.base.tups I1.base.frzs I1.base.tbls) hob rfl rfl (λo ho=>?_) oK qE;by_cases hx:a∈X.ex
  ·exact hx
  ·obtain ⟨o',e'⟩:=I1.base.there a o ho hx;rw[hs]at e';cases e'
def jR (K:PF) (S:Addr):Bool:=specialIn K (.ref S) "__getattribute__"==some (some (.builtin "type.__getattribute__"))&&readsIn K S (.type "type")&&(match findCls K (.ref S) (.type "type") "__init__" with |some (.val (.builtin i))=>i=="ValueError.__init__" |_=>false)
theorem QS {K:PF} {S:Addr} (h:jR K S=true):specialIn K (.ref S) "__getattribute__"=some (some (.builtin "type.__getattribute__"))/\readsIn K S (.type "type")=true/\findCls K (.ref S) (.type "type") "__init__"=some (.val (.builtin "ValueError.__init__")):=by
 unfold jR at h;rw[ae,ae,ai]at h;obtain ⟨⟨h1,h2⟩,h3⟩:=h;refine ⟨h1,h2,?_⟩;split at h3
 ·rename_i i e;rw[ai]at h3;rw[e,h3]
 ·cases h3
theorem QT{S:Addr}{y:Str}{yp:Pos}{pl:Sem Bool}(hS:jR X.K S=true)(hC:gj X.K C f=true)(hg:Gl X y)(hm:X.mg y=some (.ref S))(ha:PA X (e::es) t)
  (hdb:(y==("__debug__":Str))=false:=by decide) (he:starEach (e::es) X.env=(false,eval e X.env)::starEach es X.env:=by rfl) (hpl:(backTo pos (starEach es X.env)).any (·.1)=false:=by rfl)
  (ht:eval (.Call (.Attribute (.Name y yp) "__init__" apos) (e::es) [] pos) X.env=(do
   let ov <-eval (.Name y yp) X.env
   standAt apos.atName
   let (f,first) <-holding [ov] (getMethod ov "__init__" pl)
   callWith pos f first (backTo pos (starEach (e::es) X.env)) (backToKw pos (keywordEach [] X.env))):=by rfl):
  PE X (.Call (.Attribute (.Name y yp) "__init__" apos) (e::es) [] pos) (λY H Q=>t Y H λvs H1=>∃a l v,vs=[.ref a,v]/\H1 a=some (.ext (bV a C l none))/\∀l',Q .non (upd H1 a (.ext (bV a C l' none)))):=by
 intro pins s Y H Q I h;obtain ⟨s1,s2,s3⟩:=QS hS;refine PySem.W.methodCall_KW (pl:=pl) (gP I hg hm ?_ hdb) ht;refine PySem.W.method_cls I.kIn s1 (PySem.W.cls_value I.kIn s2 s3 rfl ?_);have I0:=I.tok (s.toks+1);refine callWith_builtin1 (thn (ha pos pins _ Y H _ I0 h) λus s' ⟨vs,H1,I1,r,a,l,v,ev,hH,q⟩=>?_) he hpl;subst ev;obtain ⟨u1,u2,rfl,ru1,ru2⟩:=Vals.two r;obtain rfl:u1=Value.ref a:=ru1;obtain ⟨nm,qq,N,bs,bm,hd,sn,sub,ab,col,dd,k0,k1,k2,k3,k5,m,a1,a2,a3,a4⟩:=sW I1.kIn hC;have hex:s'.heap.get? a=some (exO C l none):=(show ObjOk X.prog X.w H1 s'.heap a (.ext (bV a C l none)) from I1.hok a _ hH).1;obtain ⟨hp,g,d,tk,os⟩:=s';refine QC (h:=hp) (e:=a) (us:=[u2]) F.excBase_ValueError a4 a1 hex (by rw[eL];show 1<=_;decide) λh' kp hl'=>?_;obtain ⟨l',_,he'⟩:=hl';exact ⟨.non,_,I1.write (t':=tk) (by rw[hH];trivial) (.inl rfl) (λb u hb q=>kp b u hb q) ⟨_,he'⟩ (Aa he'),rfl,q l'⟩
def oN (K:PF) (C:Addr) (f:Str):Bool:=(clsIn K C).any (λcd=>jQ cd.mro&&cd.hasDict)&&takerIn K C f==some none&&findIn K (.ref C) "__setattr__"==some (some (.builtin "object.__setattr__"))
theorem QV{o value:Expr}{ta tv:TE}{g:Str}{pos':Pos}(hs:oN X.K C g=true)(ho:PE X o ta)(hv:PE X value tv)(hw:swapsWith value (some (.Attribute o g pos')) pos.line X.env=pure false):
  PS X (.Assign [.Attribute o g pos'] value pos) (λD Y H=>tv Y H λv H1=>ta Y H1 λx H2=>∃a l,x=.ref a/\H2 a=some (.ext (bV a C l none))/\
   ∀dx od ob,H2 dx=none->dx≠a->ob.cls=.ref C->ob.dict=some dx->PySem.W.notCls ob=true->(∃l',ob=exO C l' (some dx))->D.nx Y (upd (upd H2 a (.frz ob (.own a))) dx (.frz od (.xd [(g,v)])))):=by
 intro pins s Y H D I h;unfold oN at hs;rw[ae,ae,ai,ai]at hs;obtain ⟨⟨h1,h2⟩,h3⟩:=hs;obtain ⟨cd,hc,hd⟩:=PySem.W.any_some h1;rw[ae]at hd;refine plainObj_wpAny_Assign_Attribute (thn (hv pins s Y H _ I h) λu s1 ⟨y,H1,I1,ry,q⟩=>thn (ho pins s1 Y H1 _ I1 q) λov s2 ⟨x,H2,I2,rx,a,l,ex,ea,q2⟩=>?_) hw;subst ex;obtain rfl:ov=Value.ref a:=rx;have hex:s2.heap.get? a=some (exO C l none):=(show ObjOk X.prog X.w H2 s2.heap a (.ext (bV a C l none)) from I2.hok a _ ea).1;refine QG I2.kIn hex hc hd.1 hd.2 h2 h3 λh' kp e1 hn=>?_;have hlt:=ax hex;have hne:s2.heap.objs.size≠a:=dA hlt;obtain ⟨od,es',ep',eo,rest⟩:=id hn;have hnone:H2 s2.heap.objs.size=none:=I2.hok.fresh (am _);have I3:Inv X pins Y (upd H2 a (.frz (exO C l (some s2.heap.objs.size)) (.own a))) { s2 with heap:=h',toks:=s2.toks+2 }:=
  I2.write (t':=s2.toks+2) (by rw[ea];trivial) (.inl rfl) (λb u hb q=>kp b u hb q) ⟨_,e1⟩ ⟨e1,_,e1⟩
 have hn3:(upd H2 a (.frz (exO C l (some s2.heap.objs.size)) (.own a))) s2.heap.objs.size=none:=by rw[aB hne];exact hnone
 have I4:=I3.track (o:=.frz od (.xd [(g,y)])) (I2.fpOk (am _) hn3) ⟨eo,_,hn,λz=>by
  by_cases hz:z=g
  ·subst hz;simp only[List.lookup,BEq.rfl,if_true];exact ry
  ·have hb:(z==g)=false:=dQ.mpr hz;simp only[List.lookup,hb,if_neg hz];trivial⟩
 exact ⟨Y,_,I4,q2 s2.heap.objs.size od _ hnone hne rfl rfl rfl ⟨_,rfl⟩⟩
theorem QW{o:Expr}{ta:TE}{g:Str}(he:PE X o ta)(hb:attributeBase o g X.env (eval o X.env)=eval o X.env):
  PE X (.Attribute o g pos) (λY H Q=>ta Y H λx H1=>∃a C dx ob od y v,x=.ref a/\H1 a=some (.frz ob y)/\ob.cls=.ref C/\ob.dict=some dx/\PySem.W.notCls ob=true/\H1 dx=some (.frz od (.xd [(g,v)]))/\
   fB X.K C=true/\PySem.W.hasDictIn X.K C=true/\findIn X.K (.ref C) g=some none/\Q v H1):=by
 intro pins s Y H Q I h;refine LC hb (thn (he pins s Y H _ I h) λu s1 ⟨x,H1,I1,rx,a,C,dx,ob,od,y,v,ex,ea,hc,hd,hn,ed,x1,x2,x3,q⟩=>?_);subst ex;obtain rfl:u=Value.ref a:=rx;have ha:s1.heap.get? a=some ob:=(show ObjOk X.prog X.w H1 s1.heap a (.frz ob y) from I1.hok a _ ea).1;obtain ⟨hdx,mA,hns,rl⟩:=(show ObjOk X.prog X.w H1 s1.heap dx (.frz od (.xd [(g,v)])) from I1.hok dx _ ed);have rg:=rl g;rw[show List.lookup g [(g,v)]=some v by simp[List.lookup]]at rg;obtain ⟨u',hu,ru⟩:=RelO.some_of (v:=v) (o:=mA g) rg;have J:PySem.W.InstAt s1.heap a ob C (some od):=⟨ha,hc,hn,by rw[hd];exact hdx⟩;obtain ⟨od',ho',hl'⟩:=yD hns;have eo:od'=od:=by rw[hdx]at ho';exact (c9 ho').symm
 subst eo;have hl:PySem.W.lookIn g od'=some (some u'):=by rw[hl' g,hu]
 obtain ⟨hp,gg,dd,tk,os⟩:=s1;exact QJ I1.kIn (zL x1) J (PySem.W.findObj_own x2 x3 rfl hl) (Lx ru) ⟨v,H1,I1.tok _,ru,q⟩
end
section
variable {prog:Program} {w:World} {A:Around} {E:Value->Shared->Prop} {s:Shared} {κ:PyProof.Rows.KeyKind}
def okK(κ:PyProof.Rows.KeyKind)(p:Keyed):Prop:=∃a,κ.keyOf p.1=some a
def okA(κ:PyProof.Rows.KeyKind)(xs:Array Keyed):Prop:=∀p,p∈xs.toList->okK κ p
theorem nb{a b:Nat}(h:¬(a==b)=true):a≠b:=λz=>h (ai.mpr z)
end
open PySem.W
section
variable {X:Cx}
theorem QX{k:Nat}{f:Addr}{fd:FuncData}{ps:List Str}{sp:Sp}{x y:Str}{i:Nat}{p cpos p0 p2 lp:Pos}{e0 e:Expr}{es:List Expr}{tc:TE}{ta:TA}
  (F:FnOk X.prog X.w X.K X.mg X.base (CX1 X.prog X.w) k f fd ps sp) (hr:Room k X.A) (hg:Gl X x) (hm:X.mg x=some (.ref f)) (hk:PySem.W.keepIn X.K (.ref f)=true) (hbd:Binds X.K fd ps [])
  (hN:X.N.Nodup) (hi:X.N[i]?=some y) (hx:Loc X.env.scope y) (hf:X.fn y=true\/X.env.scope.names.lookup y=some .local)
  (hc0:∀E':Value->Shared->Prop,PassesOwn (model X.prog X.w) X.A X.env E'->PE (X.wish E') e0 tc)
  (ha:∀E':Value->Shared->Prop,PassesOwn (model X.prog X.w) X.A X.env E'->PA (X.wish E') (e::es) ta)
  (hs:swapsWith (.List [e0,.Call (.Name x p) (e::es) [] cpos] lp) (some (.Name y p2)) p0.line X.env=pure false)
  (hse:starEach [e0,.Call (.Name x p) (e::es) [] cpos] X.env=[(false,eval e0 X.env),(false,eval (.Call (.Name x p) (e::es) [] cpos) X.env)])
  (hdb:(x==("__debug__":Str))=false:=by decide) (he:starEach (e::es) X.env=(false,eval e X.env)::starEach es X.env:=by rfl) (hpl:(backTo cpos (starEach es X.env)).any (·.1)=false:=by rfl):
  PXs X [.Assign [.Name y p2] (.List [e0,.Call (.Name x p) (e::es) [] cpos] lp) p0] (λnx ex Y H=>tc Y H λx0 H0=>ta Y H0 λvs H1=>sp vs H1 (λv H2=>∀q,H2 q=none->nx (Y.set i (some (.ref q))) (upd H2 q (.lst [x0,v]))) (λc od H2=>ex c od Y H2)):=by
 intro pins s Y H nx ex E' I hpo hE h;refine wpAny_execs_cons (wpAny_Assign_Name (wpAny_List_spliced ?_) hs);rw[hse];refine Calls.spliced_cons (thn (hc0 E' hpo pins s Y H _ (I.wish E') h) λu0 s0 ⟨x0,H0,I0,r0,q0⟩=>?_);have I0':=I0.unwish;refine Calls.spliced_cons (rest:=[]) ?_;refine fE (gP (X:=X.wish E') I0 hg hm ?_ hdb);refine PySem.W.callWith_K (h₀:=X.base) I0'.ok.mod.kin hk (thn (ha _ hpo cpos pins s0 Y H0 _ I0 q0) λus s1 hy=>?_) he hpl;obtain ⟨vs,H1,I1,r,q⟩:=hy;have I1:=I1.unwish;refine ⟨I1.kIn,?_⟩;have hl:us.length=ps.length:=by rw[<-r.length];exact F.len _ _ _ _ q
 have hb2:=hbd s1 us I1.kIn (by rw[de];exact hl);rw[de]at hb2;refine wpAny_call (codeAny_mono (F.run X.A X.stack s1 H1 ⟨us,[]⟩ us vs _ _ hr I1.env0 hb2 r q) λrr s2 hq=>?_);cases rr with
 |error ev=>
  obtain ⟨a,c,od,H2,rfl,ho,hgn,un,hok,tr,qn⟩:=hq;exact hE _ _ ⟨a,c,od,H1,s1,H2,rfl,I1,⟨ho,hgn,un,hok,tr⟩,qn⟩
 |ok fl=>
  cases fl with
  |ret u=>
   obtain ⟨v,H2,I2,r2,q2⟩:=I1.after hq;refine Calls.spliced_nil ⟨(show 2<=sizeLine by decide),?_⟩;have hf':H2 s2.heap.objs.size=none:=I2.hok.fresh (am _);have J:Inv X pins Y (upd H2 s2.heap.objs.size (.lst [x0,v])) { s2 with heap:=s2.heap.push { cls:=.type "list",data:=.seq [u0,u].toArray } }:=
    I2.laid (t':=s2.toks) (λb u e=>ag _ e) (am _) ⟨(show 2<=sizeLine by decide),[u0,u],0,.cons r0 (.cons r2 .nil),aI _ rfl⟩
   exact jJ J hN hi hx (v:=.ref s2.heap.objs.size) rfl (λs3 I3=>fA ⟨rfl,_,_,I3,q2 _ hf'⟩) hf
  |next=>exact False.elim hq
  |brk=>exact False.elim hq
  |cont=>exact False.elim hq
theorem QZ{C:Addr}{cx n:Str}{jn:Nat}{p1 p5 pos:Pos}{hb1:Stmt}{body hbs:List Stmt}{t:TX}{tb:TS}(hb:PXs X body t)(hst:X.stack=X.env::X.outer)(hex:X.ex=[])
  (hcg:Gl X cx) (hcm:X.mg cx=some (.ref C)) (hcb:Cat X.K C) (hN:X.N.Nodup)
  (hj:X.N[jn]?=some n) (hnk:X.env.kindOf n=some .local) (hnl:X.env.scope.names.lookup n=some .local)
  (hh:∀(a:Addr) (E':Value->Shared->Prop),PSs (X.marked a E') (hb1::hbs) tb) (hdc:(cx==("__debug__":Str))=false:=by decide):
  PS X (.Try body [.ExceptHandler (some (.Name cx p1)) (some n) (hb1::hbs) p5] [] [] pos)
   (λD Y H=>t D.nx (λc od σ' H2=>∃d,c=.ref d/\mroIn X.K d (.ref C)=some true/\∀a o,H2 a=none->o.cls=.ref d->o.dict=od->PySem.W.notCls o=true->tb { nx:=λσ3 H3=>D.nx (σ3.set jn none) H3,rt:=λ_ _=>False,bk:=λ_ _=>False,ct:=λ_ _=>False } (σ'.set jn (some (.ref a))) (upd H2 a (.frz o (.own a)))) Y H):=by
 intro pins s Y H D I h;refine wpAny_Try_except (bb (hb pins s Y H _ _ _ I PassesOwn.looking (λe s1 q=>?_) h) (λf s1 q=>?_) λ_ _ q=>q)
 ·obtain ⟨a,c,od,H1,s0,H2,rfl,I1,K,d,rfl,hm,qn⟩:=q;refine K.note I1 hst λh3 K3=>Pg (K:=X.K) (C:=C) (D:=d) hcb.t hcb.c hcb.b hm ?_;have J3:=K3.inv I1;have hcl:∃oe,h3.get? a=some oe/\oe.cls=.ref d:=by
   obtain ⟨oe,_,_,_,_,t1,t2,_⟩:=K3.tr;exact ⟨oe,t1,t2⟩
  refine gP (X:=X.marked a X.xe) (J3.marked a X.xe) hcg hcm ⟨rfl,J3.kIn,hcl,?_⟩ hdc;refine K3.flight I1 λh4 K4=>?_;have J4:=K4.inv I1;obtain ⟨oe,vs,T,oT,ts,t1,t2,t3,t4,t6,t7,t8,t9,n1,n2,n3,n4,n5⟩:=K4.tr;have n0:X.s₀.heap.get? a=none:=by
   cases e:X.s₀.heap.get? a with
   |none=>rfl
   |some o=>
    obtain ⟨o',e'⟩:=I1.base.there a o e (by rw[hex];simp);rw[n1]at e';cases e'
  have J5:=J4.tell n0 n3 t1 t3 (λp hp e=>by
   obtain ⟨e1,_⟩:=I1.pin p hp;rw[e,n1]at e1;cases e1)
  have q5:=qn a oe n3 t2 n5 (by unfold PySem.W.notCls;rw[t3]);refine jJ (X:=X.marked a X.xe) (J5.marked a X.xe) hN hj (.inl hnl) (v:=.ref a) rfl (λs6 J6=>?_) (.inr hnl);have J6':Inv X pins (Y.set jn (some (.ref a))) (upd H2 a (.frz oe (.own a))) s6:=J6.unmarked J4.ok;refine bb (hh a _ pins s6 _ _ { nx:=λσ' H'=>D.nx (σ'.set jn none) H',rt:=λ_ _=>False,bk:=λ_ _=>False,ct:=λ_ _=>False } (J6'.marked a _) q5) (λf s7 z=>?_) λ_ _ z=>z;have z':=z.unmarked (X:=X) J4.ok;cases f with
  |next=>
   obtain ⟨σ7,H7,I7,q7⟩:=z';exact Pj I7 hN hj hnk λs8 I8=>⟨_,H7,I8,q7⟩
  |brk=>obtain ⟨_,_,_,q⟩:=z';exact q.elim
  |cont=>obtain ⟨_,_,_,q⟩:=z';exact q.elim
  |ret u=>obtain ⟨_,_,_,_,_,q⟩:=z';exact q.elim
 ·obtain ⟨rfl,σ',H',I',q'⟩:=q;exact fA ⟨σ',H',I',q'⟩
end
end L2
namespace RF
open PySem PySem.Spec PyProof.Rows L2
inductive D where
 |non |bl (b:Bool) |int (i:Int) |str (l:List Nat) |tup (xs:List D) |lst (xs:List D) |ref (a:Addr) |scr (ns:List Int) |exn (C:String) |exa (C f:String) (d:D) |obj (C f:String) (q:Addr)
 deriving Inhabited
inductive DO where
 |lst (xs:List D)
 deriving Inhabited
abbrev DH:=Addr->Option DO
def aQ(G:DH)(a:Addr)(o:DO):DH:=λb=>if b=a then some o else G b
def gk(G:DH)(a:Addr):DH:=λb=>if b=a then none else G b
theorem bj{G:DH}{a:Addr}{o:DO}:aQ G a o a=some o:=if_pos rfl
theorem cN{G:DH}{a b:Addr}{o:DO}(h:b≠a):aQ G a o b=G b:=if_neg h
theorem sX{G:DH}{a:Addr}:gk G a a=none:=if_pos rfl
theorem sY{G:DH}{a b:Addr}(h:b≠a):gk G a b=G b:=if_neg h
theorem Q0{G:DH}{a:Addr}{o u:DO}:aQ (aQ G a o) a u=aQ G a u:=by funext b;unfold aQ;split <;> rfl
theorem Ab{G:DH}{a:Addr}{o:DO}(h:G a=none):gk (aQ G a o) a=G:=by
 funext b;unfold aQ gk;split
 ·rename_i e;rw[e,h]
 ·rename_i e;exact if_neg e
theorem oO{G:DH}{a b:Addr}{o:DO}(h:G a=some o)(h':G b=none):a≠b:=by intro e;subst e;rw[h]at h';cases h'
abbrev sz:Nat:=1000000
abbrev FZ:=Addr->Prop
def FzL(H:Hp)(F:FZ)(a:Addr)(vs:List V):Prop:=F a/\H a=some (.lst vs)
theorem FzL.sq{K:PF}{H:Hp}{F:FZ}{a:Addr}{vs:List V}(h:FzL H F a vs):SqL K H a vs:=.inl (.inl h.2)
structure TpT(K:PF)(H:Hp)(a:Addr)(vs:List V):Prop where
 it:H a=some (.tup vs)
theorem TpT.sq{K:PF}{H:Hp}{a:Addr}{vs:List V}(h:TpT K H a vs):SqT K H a vs:=.inl (.inl h.it)
def ScL(K:PF)(H:Hp)(a:Addr)(vs:List V):Prop:=
 (∃o,H a=some (.frz o (.lst vs)))\/
  ∃(o:Obj) (its:Array Value) (n:Nat),K.lookup a=some o/\o.cls=.type "list"/\o.dict=none/\o.data=.seq its n/\its.size<=sizeLine/\Vals vs its.toList
theorem ScL.sq{K:PF}{H:Hp}{a:Addr}{vs:List V}(h:ScL K H a vs):SqL K H a vs:=by
 rcases h with ⟨o,h⟩ |h
 ·exact .inl (.inr ⟨o,h⟩)
 ·exact .inr h
def FzO(H:Hp)(F:FZ)(a c dx:Addr)(f:Str)(q:Addr):Prop:=F a/\H a=some (.ins c dx [(f,.ref q)])
mutual
def Rep(K:PF)(H:Hp)(F:FZ):D->V->Prop
 |.non,v=>v=.non
 |.bl b,v=>v=.bl b
 |.int i,v=>v=.int i
 |.str l,v=>v=.str (tx l)/\l.length<=sz
 |.tup ds,v=>∃a vs,v=.ref a/\TpT K H a vs/\Reps K H F ds vs
 |.lst ds,v=>∃a vs,v=.ref a/\FzL H F a vs/\Reps K H F ds vs
 |.ref a,v=>v=.ref a
 |.scr ns,v=>∃a,v=.ref a/\ScL K H a (ns.map V.int)
 |.obj C f q,v=>∃a c dx,v=.ref a/\FzO H F a c dx (Str.ofString f) q/\PySem.W.nsIn K mainGlobals (Str.ofString C)=some (some (.ref c))
 |.exa C f d,v=>∃a c dx ob od,∃(y:Addr)(u:V),v=.ref a/\(H a=some (.frz ob (.own y))/\ob.cls=.ref c/\ob.dict=some dx/\PySem.W.notCls ob=true)/\H dx=some (.frz od (.xd [(Str.ofString f,u)]))/\Rep K H F d u/\PySem.W.nsIn K mainGlobals (Str.ofString C)=some (some (.ref c))
 |.exn C,v=>∃a c,v=.ref a/\XO H a c/\PySem.W.nsIn K mainGlobals (Str.ofString C)=some (some (.ref c))
def Reps(K:PF)(H:Hp)(F:FZ):List D->List V->Prop
 |[],vs=>vs=[]
 |d::ds,vs=>∃v r,vs=v::r/\Rep K H F d v/\Reps K H F ds r
end
structure Ext(H:Hp)(F:FZ)(H':Hp)(F':FZ):Prop where
 sub:∀a,F a->F' a
 keep:∀a,F a->H' a=H a
 tups:∀a xs,H a=some (.tup xs)->H' a=some (.tup xs)
 frzs:∀a o u,H a=some (.frz o u)->H' a=some (.frz o u)
theorem Ext.refl(H:Hp)(F:FZ):Ext H F H F:=⟨λ_ h=>h,λ_ _=>rfl,λ_ _ h=>h,λ_ _ _ h=>h⟩
theorem Ext.trans{H H1 H2:Hp}{F F1 F2:FZ}(a:Ext H F H1 F1)(b:Ext H1 F1 H2 F2):Ext H F H2 F2:=
 ⟨λc h=>b.sub c (a.sub c h),λc h=>(b.keep c (a.sub c h)).trans (a.keep c h),λc xs h=>b.tups c xs (a.tups c xs h),λc o u h=>b.frzs c o u (a.frzs c o u h)⟩
section
variable {K:PF} {H H':Hp} {F F':FZ}
theorem TpT.ext{a:Addr}{vs:List V}(x:Ext H F H' F')(h:TpT K H a vs):TpT K H' a vs:=⟨x.tups _ _ h.it⟩
theorem FzL.ext{a:Addr}{vs:List V}(x:Ext H F H' F')(h:FzL H F a vs):FzL H' F' a vs:=⟨x.sub _ h.1,(x.keep _ h.1).trans h.2⟩
theorem ScL.ext{a:Addr}{vs:List V}(x:Ext H F H' F')(h:ScL K H a vs):ScL K H' a vs:=by
 rcases h with ⟨o,h⟩ |h
 ·exact .inl ⟨o,x.frzs _ _ _ h⟩
 ·exact .inr h
mutual
theorem Rep.ext(x:Ext H F H' F'):∀{d:D}{v:V},Rep K H F d v->Rep K H' F' d v
 |.non,_,h=>h
 |.bl _,_,h=>h
 |.int _,_,h=>h
 |.str _,_,h=>h
 |.tup _,_,⟨a,vs,e,q,r⟩=>⟨a,vs,e,TpT.ext x q,Reps.ext x r⟩
 |.lst _,_,⟨a,vs,e,q,r⟩=>⟨a,vs,e,FzL.ext x q,Reps.ext x r⟩
 |.ref _,_,h=>h
 |.scr _,_,⟨a,e,q⟩=>⟨a,e,ScL.ext x q⟩
 |.obj _ _ _,_,⟨a,c,dx,e,⟨hf,hh⟩,n⟩=>⟨a,c,dx,e,⟨x.sub _ hf,(x.keep _ hf).trans hh⟩,n⟩
 |.exn _,_,⟨a,c,e,⟨o,y,q,hc⟩,n⟩=>⟨a,c,e,⟨o,y,x.frzs _ _ _ q,hc⟩,n⟩
 |.exa _ _ _,_,⟨a,c,dx,ob,od,y,u,e,⟨q,h1,h2,h3⟩,qd,r,n⟩=>⟨a,c,dx,ob,od,y,u,e,⟨x.frzs _ _ _ q,h1,h2,h3⟩,x.frzs _ _ _ qd,Rep.ext x r,n⟩
theorem Reps.ext(x:Ext H F H' F'):∀{ds:List D}{vs:List V},Reps K H F ds vs->Reps K H' F' ds vs
 |[],_,h=>h
 |_::_,_,⟨v,r,e,h,t⟩=>⟨v,r,e,Rep.ext x h,Reps.ext x t⟩
end
theorem Reps.nil:Reps K H F [] []:=rfl
theorem Reps.cons{d:D}{v:V}{ds:List D}{vs:List V}(h:Rep K H F d v)(t:Reps K H F ds vs):Reps K H F (d::ds) (v::vs):=⟨v,vs,rfl,h,t⟩
theorem Reps.length:∀{ds:List D}{vs:List V},Reps K H F ds vs->ds.length=vs.length
 |[],_,h=>by cases h;rfl
 |_::_,_,⟨v,r,e,_,t⟩=>by subst e;simp[Reps.length t]
theorem Reps.append:∀{ds es:List D}{vs us:List V},Reps K H F ds vs->Reps K H F es us->Reps K H F (ds++es) (vs++us)
 |[],_,_,_,h,t=>by cases h;exact t
 |_::_,_,_,_,⟨v,r,e,h,t⟩,t'=>by subst e;exact ⟨v,_,rfl,h,Reps.append t t'⟩
theorem Reps.get:∀{ds:List D}{vs:List V}{i:Nat}{d:D},Reps K H F ds vs->ds[i]?=some d->∃v,vs[i]?=some v/\Rep K H F d v
 |[],_,_,_,_,e=>by simp at e
 |_::_,_,0,_,⟨v,r,e,h,t⟩,q=>by subst e;simp at q;subst q;exact ⟨v,rfl,h⟩
 |_::_,_,i+1,d,⟨v,r,e,h,t⟩,q=>by
  subst e;obtain ⟨u,h1,h2⟩:=Reps.get (i:=i) (d:=d) t (by simpa using q);exact ⟨u,by simpa using h1,h2⟩
theorem Reps.set{d:D}{v:V}(r:Rep K H F d v):∀{ds:List D}{vs:List V}(i:Nat),Reps K H F ds vs->Reps K H F (ds.set i d) (vs.set i v)
 |[],_,_,h=>by cases h;exact rfl
 |_::_,_,0,⟨v',r',e,h,t⟩=>by subst e;exact ⟨_,_,rfl,r,t⟩
 |_::_,_,i+1,⟨v',r',e,h,t⟩=>by subst e;exact ⟨_,_,rfl,h,Reps.set r i t⟩
theorem Reps.take:∀{ds:List D}{vs:List V}(n:Nat),Reps K H F ds vs->Reps K H F (ds.take n) (vs.take n)
 |_,_,0,_=>rfl
 |[],_,_+1,h=>by cases h;exact rfl
 |_::_,_,n+1,⟨v',r',e,h,t⟩=>by subst e;exact ⟨_,_,rfl,h,Reps.take n t⟩
theorem Reps.drop:∀{ds:List D}{vs:List V}(n:Nat),Reps K H F ds vs->Reps K H F (ds.drop n) (vs.drop n)
 |_,_,0,h=>h
 |[],_,_+1,h=>by cases h;exact rfl
 |_::_,_,n+1,⟨v',r',e,h,t⟩=>by subst e;exact Reps.drop n t
theorem Reps.cut{ds:List D}{vs:List V}(h:Reps K H F ds vs)(lo hi:Option Int):
  Reps K H F ((ds.drop (HT.sIx ds.length 0 lo)).take (HT.sIx ds.length ds.length hi - HT.sIx ds.length 0 lo)) (dJ vs lo hi):=by
 unfold dJ;rw[<-h.length];exact (h.drop _).take _
theorem Reps.reverse:∀{ds:List D}{vs:List V},Reps K H F ds vs->Reps K H F ds.reverse vs.reverse
 |[],_,h=>by cases h;exact rfl
 |_::_,_,⟨v',r',e,h,t⟩=>by
  subst e;rw[List.reverse_cons,List.reverse_cons];exact Reps.append (Reps.reverse t) (Reps.cons h rfl)
theorem Reps.rep{ds:List D}{vs:List V}(h:Reps K H F ds vs):∀k:Nat,Reps K H F (List.replicate k ds).flatten (List.replicate k vs).flatten
 |0=>rfl
 |k+1=>by
  rw[dn,dn,fT,fT];exact Reps.append h (Reps.rep h k)
end
def Q3(K:PF)(H:Hp)(F:FZ)(a:Addr):DO->Prop
 |.lst ds=>∃vs,H a=some (.lst vs)/\Reps K H F ds vs
structure R(K:PF)(H:Hp)(F:FZ)(G:DH):Prop where
 fz:∀a,F a->G a=none/\∃o,H a=some o
 ob:∀a o,G a=some o->Q3 K H F a o
section
variable {K:PF} {H:Hp} {F:FZ} {G:DH} {p:Addr} {vs:List V} {ds:List D}
theorem R.lst(r:R K H F G)(h:G p=some (.lst ds)):∃vs,H p=some (.lst vs)/\Reps K H F ds vs:=r.ob p _ h
theorem R.free(r:R K H F G)(h:H p=none):G p=none:=by
 cases e:G p with
 |none=>rfl
 |some o=>
  cases o with
  |lst ds=>obtain ⟨vs,q,_⟩:=r.lst e;rw[h]at q;cases q
theorem R.notF(r:R K H F G)(h:H p=none):¬F p:=λf=>by
 obtain ⟨_,vs,q⟩:=r.fz p f;rw[h]at q;cases q
theorem cW{o:HO}(r:R K H F G)(h:H p=none):Ext H F (upd H p o) F:=
 ⟨λ_ f=>f,λa f=>aB λe=>r.notF h (by rw[<-e];exact f),λa xs q=>by rw[aB (aR q h)];exact q,λa ob u q=>by rw[aB (aR q h)];exact q⟩
theorem R.new{o:HO}(r:R K H F G)(h:H p=none):R K (upd H p o) F G:=by
 have x:Ext H F (upd H p o) F:=cW r h;refine ⟨λa f=>⟨(r.fz a f).1,?_⟩,λa u e=>?_⟩
 ·obtain ⟨_,vs,q⟩:=r.fz a f;exact ⟨vs,by rw[x.keep a f];exact q⟩
 ·cases u with
  |lst ds=>
   obtain ⟨vs,q,t⟩:=r.lst e;exact ⟨vs,by rw[aB (aR q h)];exact q,Reps.ext x t⟩
theorem R.newL(r:R K H F G)(h:H p=none)(t:Reps K H F ds vs):R K (upd H p (.lst vs)) F (aQ G p (.lst ds)):=by
 have x:Ext H F (upd H p (.lst vs)) F:=cW r h;have r':R K (upd H p (.lst vs)) F G:=r.new h;refine ⟨λa f=>⟨?_,(r'.fz a f).2⟩,λa u e=>?_⟩
 ·rw[cN λe=>r.notF h (by rw[<-e];exact f)];exact (r.fz a f).1
 ·by_cases ha:a=p
  ·subst ha;rw[bj]at e;cases e;exact ⟨vs,bM,Reps.ext x t⟩
  ·rw[cN ha]at e;exact r'.ob a u e
theorem oR(r:R K H F G)(h:H p=none):Ext H F (upd H p (.lst vs)) (λa=>F a\/a=p):=
 ⟨λ_ f=>.inl f,(cW r h).keep,(cW r h).tups,(cW r h).frzs⟩
theorem R.newF(r:R K H F G)(h:H p=none):R K (upd H p (.lst vs)) (λa=>F a\/a=p) G:=by
 have x:Ext H F (upd H p (.lst vs)) (λa=>F a\/a=p):=oR r h;refine ⟨λa f=>?_,λa u e=>?_⟩
 ·rcases f with f |f
  ·obtain ⟨g,vs',q⟩:=r.fz a f;exact ⟨g,vs',by rw[x.keep a f];exact q⟩
  ·subst f;exact ⟨r.free h,_,bM⟩
 ·cases u with
  |lst ds=>
   obtain ⟨vs',q,t⟩:=r.lst e;exact ⟨vs',by rw[aB (aR q h)];exact q,Reps.ext x t⟩
theorem Ac(r:R K H F G)(h:H p=none)(t:Reps K H F ds vs):Rep K (upd H p (.lst vs)) (λa=>F a\/a=p) (.lst ds) (.ref p):=
 ⟨p,vs,rfl,⟨.inr rfl,bM⟩,Reps.ext (oR r h) t⟩
theorem Ad:∀{xs:List D}{z:D}{vs:List V},Reps K H F (xs++[z]) vs->∃us u,vs=us++[u]/\Reps K H F xs us/\Rep K H F z u
 |[],z,vs,h=>by
  obtain ⟨u,r,e,h1,h2⟩:=h;have h2:r=[]:=h2;subst h2;exact ⟨[],u,e,rfl,h1⟩
 |x::xs,z,vs,h=>by
  obtain ⟨u,r,e,h1,h2⟩:=h;obtain ⟨us,u',e',h3,h4⟩:=Ad h2;subst e';exact ⟨u::us,u',e,⟨u,us,rfl,h1,h3⟩,h4⟩
theorem oU(r:R K H F G)(h:H p=none)(t:Reps K H F ds vs):Rep K (upd H p (.tup vs)) F (.tup ds) (.ref p):=
 ⟨p,vs,rfl,⟨bM⟩,Reps.ext (cW r h) t⟩
theorem cO{H:Hp}{a x:Addr}{u:HO}{φ:Heap->Prop}(h:H a=some u)(hx:H x=some (.ext φ))(hu:u≠.ext φ):a≠x:=λe=>hu (by subst e;rw[h]at hx;exact c9 hx)
mutual
theorem Rep.offX{x:Addr}{φ:Heap->Prop}{H':Hp}{F':FZ}(hx:H x=some (.ext φ))(hH:∀b,b≠x->H' b=H b)(hF:∀b,b≠x->F b->F' b):∀{d:D}{v:V},Rep K H F d v->Rep K H' F' d v
 |.non,_,h=>h
 |.bl _,_,h=>h
 |.int _,_,h=>h
 |.str _,_,h=>h
 |.tup _,_,⟨a,vs,e,q,r⟩=>⟨a,vs,e,⟨by rw[hH _ (cO q.it hx (by intro w;cases w))];exact q.it⟩,Reps.offX hx hH hF r⟩
 |.lst _,_,⟨a,vs,e,q,r⟩=>⟨a,vs,e,⟨hF _ (cO q.2 hx (by intro w;cases w)) q.1,by rw[hH _ (cO q.2 hx (by intro w;cases w))];exact q.2⟩,Reps.offX hx hH hF r⟩
 |.ref _,_,h=>h
 |.scr _,_,⟨a,e,q⟩=>⟨a,e,by
   rcases q with ⟨o,q⟩ |q
   ·exact .inl ⟨o,by rw[hH _ (cO q hx (by intro w;cases w))];exact q⟩
   ·exact .inr q⟩
 |.obj _ _ _,_,⟨a,c',dx',e,⟨hf,hh⟩,n⟩=>⟨a,c',dx',e,⟨hF _ (cO hh hx (by intro w;cases w)) hf,by rw[hH _ (cO hh hx (by intro w;cases w))];exact hh⟩,n⟩
 |.exn _,_,⟨a,c',e,⟨o,y,q,hc⟩,n⟩=>⟨a,c',e,⟨o,y,by rw[hH _ (cO q hx (by intro w;cases w))];exact q,hc⟩,n⟩
 |.exa _ _ _,_,⟨a,c',dx',ob,od,y,u,e,⟨q,h1,h2,h3⟩,qd,r,n⟩=>⟨a,c',dx',ob,od,y,u,e,⟨by rw[hH _ (cO q hx (by intro w;cases w))];exact q,h1,h2,h3⟩,by rw[hH _ (cO qd hx (by intro w;cases w))];exact qd,Rep.offX hx hH hF r,n⟩
theorem Reps.offX{x:Addr}{φ:Heap->Prop}{H':Hp}{F':FZ}(hx:H x=some (.ext φ))(hH:∀b,b≠x->H' b=H b)(hF:∀b,b≠x->F b->F' b):∀{ds:List D}{vs:List V},Reps K H F ds vs->Reps K H' F' ds vs
 |[],_,h=>h
 |_::_,_,⟨v,r,e,h,t⟩=>⟨v,r,e,Rep.offX hx hH hF h,Reps.offX hx hH hF t⟩
end
theorem Rep.setX{x:Addr}{φ:Heap->Prop}{ho:HO}(hx:H x=some (.ext φ)){d:D}{v:V}(h:Rep K H F d v):Rep K (upd H x ho) F d v:=Rep.offX hx (λ_ hb=>aB hb) (λ_ _ f=>f) h
theorem R.offX{x:Addr}{φ:Heap->Prop}{H':Hp}{F':FZ}(r:R K H F G)(hx:H x=some (.ext φ))(hH:∀b,b≠x->H' b=H b)(hF:∀b,b≠x->F b->F' b)(hs:∀b,F' b->F b/\(b=x->∃o,H' x=some o)):R K H' F' G:=by
 refine ⟨λa f=>⟨(r.fz a (hs a f).1).1,?_⟩,λa u e=>?_⟩
 ·by_cases h:a=x
  ·rw[h];exact (hs a f).2 h
  ·rw[hH a h];exact (r.fz a (hs a f).1).2
 ·cases u with
  |lst ds=>
   obtain ⟨vs,q,t⟩:=r.lst e;exact ⟨vs,by rw[hH _ (cO q hx (by intro w;cases w))];exact q,Reps.offX hx hH hF t⟩
theorem R.setX{x:Addr}{φ:Heap->Prop}{ho:HO}(r:R K H F G)(hx:H x=some (.ext φ)):R K (upd H x ho) F G:=r.offX hx (λ_ hb=>aB hb) (λ_ _ f=>f) λ_ f=>⟨f,λ_=>⟨_,bM⟩⟩
theorem R.holdX{x:Addr}{φ:Heap->Prop}(r:R K H F G)(hx:H x=some (.ext φ)):R K H (λa=>F a\/a=x) G/\Ext H F H (λa=>F a\/a=x):=by
 have ee:Ext H F H (λa=>F a\/a=x):=⟨λ_ f=>.inl f,λ_ _=>rfl,λ_ _ q=>q,λ_ _ _ q=>q⟩;refine ⟨⟨λa f=>?_,λa u e=>?_⟩,ee⟩
 ·rcases f with f |f
  ·exact r.fz a f
  ·subst f;refine ⟨?_,_,hx⟩;cases e:G a with
   |none=>rfl
   |some o=>
    cases o with
    |lst ds=>obtain ⟨vs,q,_⟩:=r.lst e;rw[hx]at q;cases q
 ·cases u with
  |lst ds=>
   obtain ⟨vs,q,t⟩:=r.lst e;exact ⟨vs,q,Reps.ext ee t⟩
theorem oV{ds0:List D}{o:HO}(r:R K H F G)(h:G p=some (.lst ds0)):Ext H F (upd H p o) F:=by
 obtain ⟨vs0,q,_⟩:=r.lst h;refine ⟨λ_ f=>f,λa f=>aB λe=>?_,λa xs z=>?_,λa ob u z=>?_⟩
 ·subst e;rw[(r.fz a f).1]at h;cases h
 ·rw[aB (xZ z q (by intro w;cases w))];exact z
 ·rw[aB (xZ z q (by intro w;cases w))];exact z
theorem R.write{ds0:List D}(r:R K H F G)(h:G p=some (.lst ds0))(t:Reps K H F ds vs):R K (upd H p (.lst vs)) F (aQ G p (.lst ds)):=by
 have x:Ext H F (upd H p (.lst vs)) F:=oV r h;refine ⟨λa f=>⟨?_,?_⟩,λa u e=>?_⟩
 ·rw[cN λe=>by subst e;rw[(r.fz a f).1]at h;cases h];exact (r.fz a f).1
 ·obtain ⟨_,vs',q⟩:=r.fz a f;exact ⟨vs',by rw[x.keep a f];exact q⟩
 ·by_cases ha:a=p
  ·subst ha;rw[bj]at e;cases e;exact ⟨vs,bM,Reps.ext x t⟩
  ·rw[cN ha]at e;cases u with
   |lst ds'=>
    obtain ⟨vs',q,t'⟩:=r.lst e;exact ⟨vs',by rw[aB ha];exact q,Reps.ext x t'⟩
theorem sZ:Ext H F H (λa=>F a\/a=p):=⟨λ_ f=>.inl f,λ_ _=>rfl,λ_ _ h=>h,λ_ _ _ h=>h⟩
theorem R.frz(r:R K H F G)(h:G p=some (.lst ds)):R K H (λa=>F a\/a=p) (gk G p):=by
 have x:Ext H F H (λa=>F a\/a=p):=sZ;refine ⟨λa f=>?_,λa u e=>?_⟩
 ·rcases f with f |f
  ·obtain ⟨g,vs',q⟩:=r.fz a f;refine ⟨?_,vs',q⟩;by_cases ha:a=p
   ·rw[ha];exact sX
   ·rw[sY ha];exact g
  ·subst f;obtain ⟨vs,q,_⟩:=r.lst h;exact ⟨sX,_,q⟩
 ·by_cases ha:a=p
  ·rw[ha,sX]at e;cases e
  ·rw[sY ha]at e;cases u with
   |lst ds'=>
    obtain ⟨vs',q,t'⟩:=r.lst e;exact ⟨vs',q,Reps.ext x t'⟩
theorem Q4(r:R K H F G)(h:G p=some (.lst ds)):Rep K H (λa=>F a\/a=p) (.lst ds) (.ref p):=by obtain ⟨vs,q,t⟩:=r.lst h;exact ⟨p,vs,rfl,⟨.inr rfl,q⟩,Reps.ext sZ t⟩
end
def view(G:DH):D->D
 |.ref p=>match G p with |some (.lst ds)=>.lst ds |none=>.ref p
 |d=>d
theorem Rep.list{K:PF}{H:Hp}{F:FZ}{G:DH}{d:D}{v:V}{ds:List D}(r:R K H F G)(h:Rep K H F d v)(e:view G d=.lst ds):∃a vs,v=.ref a/\SqL K H a vs/\Reps K H F ds vs:=by
 cases d with
 |lst xs=>
  have e':D.lst xs=.lst ds:=e;cases e';obtain ⟨a,vs,e1,q,t⟩:=h;exact ⟨a,vs,e1,q.sq,t⟩
 |ref p=>
  have hv:v=.ref p:=h;unfold view at e;cases g:G p with
  |none=>simp only[g]at e;cases e
  |some o=>
   cases o with
   |lst xs=>
    simp only[g]at e;cases e;obtain ⟨vs,q,t⟩:=r.lst g;exact ⟨p,vs,hv,.inl (.inl q),t⟩
 |_=>cases (show _=D.lst ds from e)
theorem eE{G:DH}{d:D}{ds:List D}(e:view G d=.tup ds):d=.tup ds:=by
 cases d with
 |ref p=>
  unfold view at e;cases g:G p with
  |none=>simp only[g]at e;cases e
  |some o=>cases o;simp only[g]at e;cases e
 |_=>exact e
theorem eF{G:DH}{d:D}{l:List Nat}(e:view G d=.str l):d=.str l:=by
 cases d with
 |ref p=>
  unfold view at e;cases g:G p with
  |none=>simp only[g]at e;cases e
  |some o=>cases o;simp only[g]at e;cases e
 |_=>exact e
theorem dO{G:DH}{d:D}{l:Int}(e:view G d=.int l):d=.int l:=by
 cases d with
 |ref p=>
  unfold view at e;cases g:G p with
  |none=>simp only[g]at e;cases e
  |some o=>cases o;simp only[g]at e;cases e
 |_=>exact e
theorem tB{G:DH}{d:D}{l:Bool}(e:view G d=.bl l):d=.bl l:=by
 cases d with
 |ref p=>
  unfold view at e;cases g:G p with
  |none=>simp only[g]at e;cases e
  |some o=>cases o;simp only[g]at e;cases e
 |_=>exact e
theorem Ae{G:DH}{d:D}(e:view G d=.non):d=.non:=by
 cases d with
 |ref p=>
  unfold view at e;cases g:G p with
  |none=>simp only[g]at e;cases e
  |some o=>cases o;simp only[g]at e;cases e
 |_=>exact e
abbrev aj:=List (Option D)
def EnvR(K:PF)(H:Hp)(F:FZ):aj->L2.St->Prop
 |[],X=>X=[]
 |o::Y,X=>∃u τ,X=u::τ/\(∀d,o=some d->∃v,u=some v/\Rep K H F d v)/\EnvR K H F Y τ
section
variable {K:PF} {H H':Hp} {F F':FZ}
theorem EnvR.ext(x:Ext H F H' F'):∀{Y:aj}{X:L2.St},EnvR K H F Y X->EnvR K H' F' Y X
 |[],_,h=>h
 |_::_,_,⟨u,τ,e,h,t⟩=>⟨u,τ,e,λd q=>by obtain ⟨v,e1,r⟩:=h d q;exact ⟨v,e1,Rep.ext x r⟩,EnvR.ext x t⟩
theorem EnvR.setX{x:Addr}{φ:Heap->Prop}{ho:HO}(hx:H x=some (.ext φ)):∀{Y:aj}{X:L2.St},EnvR K H F Y X->EnvR K (upd H x ho) F Y X
 |[],_,h=>h
 |_::_,_,⟨u,τ,e,h,t⟩=>⟨u,τ,e,λd q=>by obtain ⟨v,e1,r⟩:=h d q;exact ⟨v,e1,Rep.setX hx r⟩,EnvR.setX hx t⟩
theorem EnvR.get:∀{Y:aj}{X:L2.St}{i:Nat}{d:D},EnvR K H F Y X->Y[i]?=some (some d)->∃v,X[i]?=some (some v)/\Rep K H F d v
 |[],_,_,_,_,e=>by simp at e
 |_::_,_,0,d,⟨u,τ,e,h,t⟩,q=>by
  subst e;obtain ⟨v,e1,r⟩:=h d (by simpa using q);exact ⟨v,by simp[e1],r⟩
 |_::_,_,i+1,d,⟨u,τ,e,h,t⟩,q=>by
  subst e;obtain ⟨v,e1,r⟩:=EnvR.get (i:=i) (d:=d) t (by simpa using q);exact ⟨v,by simpa using e1,r⟩
theorem EnvR.set{d:D}{v:V}(r:Rep K H F d v):∀{Y:aj}{X:L2.St}(i:Nat),EnvR K H F Y X->EnvR K H F (Y.set i (some d)) (X.set i (some v))
 |[],_,_,h=>by cases h;exact rfl
 |_::_,_,0,⟨u,τ,e,h,t⟩=>by subst e;exact ⟨_,_,rfl,λd' q=>⟨v,rfl,by cases q;exact r⟩,t⟩
 |_::_,_,i+1,⟨u,τ,e,h,t⟩=>by subst e;exact ⟨_,_,rfl,h,EnvR.set r i t⟩
theorem EnvR.unset:∀{Y:aj}{X:L2.St}(i:Nat),EnvR K H F Y X->EnvR K H F (Y.set i Option.none) (X.set i Option.none)
 |[],_,_,h=>by cases h;exact rfl
 |_::_,_,0,⟨u,τ,e,h,t⟩=>by subst e;exact ⟨_,_,rfl,λd' q=>(nomatch q),t⟩
 |_::_,_,i+1,⟨u,τ,e,h,t⟩=>by subst e;exact ⟨_,_,rfl,h,EnvR.unset i t⟩
theorem EnvR.none:∀(n:Nat),EnvR K H F (List.replicate n Option.none) (List.replicate n Option.none)
 |0=>rfl
 |n+1=>⟨_,_,rfl,λd q=>(nomatch q),EnvR.none n⟩
theorem EnvR.start:∀{ds:List D}{vs:List V}(n:Nat),Reps K H F ds vs->EnvR K H F (ds.map some++List.replicate n Option.none) (vs.map some++List.replicate n Option.none)
 |[],_,n,h=>by cases h;exact EnvR.none n
 |d::ds,_,n,⟨v,r,e,h,t⟩=>by
  subst e;exact ⟨_,_,rfl,λd' q=>⟨v,rfl,by cases q;exact h⟩,EnvR.start n t⟩
theorem EnvR.cap{Y:aj}{X:L2.St}(h:EnvR K H F Y X):∀(cap:List (Option Nat)),EnvR K H F (cap.map λo=>match o with |Option.none=>Option.none |some j=>(Y[j]?).join) (dN cap X)
 |[]=>rfl
 |Option.none::cap=>⟨_,_,rfl,λd q=>(nomatch q),EnvR.cap h cap⟩
 |some j::cap=>by
  refine ⟨_,_,rfl,λd q=>?_,EnvR.cap h cap⟩;have q':(Y[j]?).join=some d:=q;have z:Y[j]?=some (some d):=by
   cases e:Y[j]? with
   |none=>rw[e]at q';cases q'
   |some o=>rw[e]at q';exact ez some q'
  obtain ⟨v,e1,r⟩:=h.get z;exact ⟨v,by show (X[j]?).join=some v;rw[e1];rfl,r⟩
end
mutual
def deq:D->D->Bool
 |.non,.non=>true
 |.bl a,.bl b=>a==b
 |.bl a,.int b=>(if a then 1 else 0)==b
 |.int a,.bl b=>a==(if b then 1 else 0)
 |.int a,.int b=>a==b
 |.str a,.str b=>a==b
 |.tup a,.tup b=>bO a b
 |.lst a,.lst b=>bO a b
 |_,_=>false
def bO:List D->List D->Bool
 |[],[]=>true
 |a::as,b::bs=>deq a b&&bO as bs
 |_,_=>false
end
mutual
/-- no tracked object within -/
def nr:D->Bool
 |.tup a=>nrs a
 |.lst a=>nrs a
 |.ref _=>false
 |.scr _=>false
 |.exn _=>false
 |.exa _ _ _=>false
 |.obj _ _ _=>false
 |_=>true
def nrs:List D->Bool
 |[]=>true
 |a::as=>nr a&&nrs as
end
mutual
def dpt:D->Nat
 |.tup a=>aO a+1
 |.lst a=>aO a+1
 |_=>0
def aO:List D->Nat
 |[]=>0
 |a::as=>max (dpt a) (aO as)
end
def truth:D->Option Bool
 |.non=>some false
 |.bl b=>some b
 |.int i=>some (i != 0)
 |.str l=>some (!l.isEmpty)
 |.tup l=>some (!l.isEmpty)
 |.lst l=>some (!l.isEmpty)
 |_=>none
def cut{α:Type}(xs:List α)(lo hi:Option Int):List α:=(xs.drop (HT.sIx xs.length 0 lo)).take (HT.sIx xs.length xs.length hi - HT.sIx xs.length 0 lo)
def reps{α:Type}(xs:List α)(n:Nat):List α:=(List.replicate n xs).flatten
def mk(fz:Bool)(xs:List D)(G:DH)(k:D->DH->Prop):Prop:=
 match fz with
 |true=>k (.lst xs) G
 |false=>∀p,G p=none->k (.ref p) (aQ G p (.lst xs))
def iM(fz:Bool)(a b:D)(G:DH)(k:D->DH->Prop):Prop:=
 match a with
 |.int i=>(match b with |.int j=>k (.int (i+j)) G |_=>False)
 |.str x=>(match b with |.str y=>x.length+y.length<=sz/\k (.str (x++y)) G |_=>False)
 |.lst x=>(match b with |.lst y=>x.length+y.length<=sz/\mk fz (x++y) G k |_=>False)
 |.tup x=>(match b with |.tup y=>x.length+y.length<=sz/\k (.tup (x++y)) G |_=>False)
 |_=>False
def gm(a b:D)(p:Int->Int->Prop):Prop:=
 match a with
 |.int i=>(match b with |.int j=>p i j |_=>False)
 |_=>False
def iQ(fz:Bool)(a b:D)(G:DH)(k:D->DH->Prop):Prop:=
 match b with
 |.int n=>(match a with |.int i=>CMul i n/\k (.int (i * n)) G |.str x=>0<=n/\n<=1000/\x.length * n.toNat<=sz/\k (.str (reps x n.toNat)) G |_=>False)
 |_=>False
def cF(op:Operator)(fz:Bool)(a b:D)(G:DH)(k:D->DH->Prop):Prop:=
 match op with
 |.Add=>iM fz a b G k
 |.Sub=>gm a b λi j=>k (.int (i - j)) G
 |.Mult=>iQ fz a b G k
 |.FloorDiv=>gm a b λi j=>(0 < j/\j < 1152921504606846976)/\k (.int (i / j)) G
 |.Mod=>gm a b λi j=>0 < j/\k (.int (i % j)) G
 |.Pow=>gm a b λi j=>nU i j/\k (.int (i ^ j.toNat)) G
 |_=>False
def isIn(x:D)(ys:List D):Bool:=ys.any λy=>deq y x
def Af(a b:D):Prop:=nr a=true/\nr b=true/\min (dpt a) (dpt b)<=60
def inG(a:D)(l:List D):Prop:=nr a=true/\nrs l=true/\aO l<=60
def iR(a b:D)(k:Bool->Prop):Prop:=
 match a,b with
 |.int i,.int j=>k (decide (i < j))
 |.str i,.str j=>k (decide (i < j))
 |_,_=>False
def iT(a b:D)(k:Bool->Prop):Prop:=
 match a,b with
 |.int i,.int j=>k (decide (i<=j))
 |.str i,.str j=>k (!decide (j < i))
 |_,_=>False
def iU(a b:D)(k:Bool->Prop):Prop:=
 match a,b with
 |.int i,.int j=>k (decide (j < i))
 |_,_=>False
def iV(a b:D)(k:Bool->Prop):Prop:=
 match a,b with
 |.int i,.int j=>k (decide (j<=i))
 |_,_=>False
def cX(a:D):Bool:=match a with |.non=>true |_=>false
def iW(a b:D)(k:Bool->Prop):Prop:=
 match b with
 |.non=>k (cX a)
 |.bl b=>(match a with |.bl a=>k (a==b) |_=>False)
 |_=>False
def iY(a b:D)(k:Bool->Prop):Prop:=
 match b with
 |.non=>k (!cX a)
 |.bl b=>(match a with |.bl a=>k (a != b) |_=>False)
 |_=>False
def fG(a b:D)(k:Bool->Prop):Prop:=
 match b with
 |.str l=>(match a with |.str [c]=>k (l.contains c) |_=>False)
 |.lst l=>inG a l/\k (isIn a l)
 |.tup l=>inG a l/\k (isIn a l)
 |_=>False
def aU(op:CmpOp)(a b:D)(k:Bool->Prop):Prop:=
 match op with
 |.Eq=>Af a b/\k (deq a b)
 |.NotEq=>Af a b/\k (!deq a b)
 |.Lt=>iR a b k
 |.LtE=>iT a b k
 |.Gt=>iU a b k
 |.GtE=>iV a b k
 |.Is=>iW a b k
 |.IsNot=>iY a b k
 |.In=>fG a b k
 |.NotIn=>fG a b λc=>k (!c)
def cY(a i:D)(k:D->Prop):Prop:=
 match a,i with
 |.lst ds,.int i=>match atI ds i with |some d=>k d |none=>False
 |.tup ds,.int i=>match atI ds i with |some d=>k d |none=>False
 |.str l,.int i=>match atI l i with |some c=>k (.str [c]) |none=>False
 |_,_=>False
def dR(fz:Bool)(a:D)(lo hi:Option Int)(G:DH)(k:D->DH->Prop):Prop:=
 match a with
 |.lst ds=>mk fz (cut ds lo hi) G k
 |.scr ns=>mk fz ((cut ns lo hi).map .int) G k
 |.tup ds=>k (.tup (cut ds lo hi)) G
 |.str l=>k (.str (cut l lo hi)) G
 |_=>False
def gU(fz:Bool)(a y:D)(G:DH)(k:D->DH->Prop):Prop:=
 match a with
 |.lst ds=>y=.int (-1)/\mk fz ds.reverse G k
 |.tup ds=>y=.int (-1)/\k (.tup ds.reverse) G
 |_=>False
def bools:List D->Option (List Bool)
 |[]=>some []
 |.bl b::r=>match bools r with |some s=>some (b::s) |none=>none
 |_=>none
def eH:List D->Option (List Int)
 |[]=>some []
 |.int b::r=>match eH r with |some s=>some (b::s) |none=>none
 |_=>none
def bf:List D->Option (List (List Nat))
 |[]=>some []
 |.str b::r=>match bf r with |some s=>some (b::s) |none=>none
 |_=>none
def cZ(s:List Nat):List (List Nat)->List Nat
 |[]=>[]
 |[x]=>x
 |x::y::r=>x++s++cZ s (y::r)
inductive Bf where
 |len |all |int |tuple |sum |min |max |str |abs |min2
inductive Lf where
 |list |sorted
inductive Mf where
 |join |append |extend |count |index |split
def tD(as:List D)(k:D->Prop):Prop:=
 match as with
 |[.lst ds]=>k (.int ds.length)
 |[.tup ds]=>k (.int ds.length)
 |[.str l]=>k (.int l.length)
 |_=>False
def oW(as:List D)(k:D->Prop):Prop:=
 match as with
 |[.lst ds]=>match bools ds with |some bs=>k (.bl (bs.all id)) |none=>False
 |_=>False
def oX(as:List D)(k:D->Prop):Prop:=
 match as with
 |[.bl b]=>k (.int (if b then 1 else 0))
 |[.int i]=>k (.int i)
 |[.str l]=>match PySem.intText? (tx l) with |some n=>l.length<=640/\k (.int n) |none=>False
 |_=>False
def tH(as:List D)(k:D->Prop):Prop:=
 match as with
 |[.lst ds]=>k (.tup ds)
 |[.tup ds]=>k (.tup ds)
 |_=>False
def tM(as:List D)(k:D->Prop):Prop:=
 match as with
 |[.lst ds]=>match eH ds with |some ns=>k (.int ns.sum) |none=>False
 |_=>False
def Ag(as:List D)(k:D->Prop):Prop:=
 match as with
 |[.lst ds]=>match eH ds with
  |some ns=>ns≠[]/\∀m,m∈ns->(∀a,a∈ns->m<=a)->k (.int m)
  |none=>match bf ds with
   |some ls=>∀m,m∈ls->(∀a,a∈ls->¬a < m)->k (.str m)
   |none=>False
 |_=>False
def Ah(as:List D)(k:D->Prop):Prop:=match as with
 |[.int a]=>k (.int (if a < 0 then -a else a))
 |_=>False
def Ai(as:List D)(k:D->Prop):Prop:=match as with
 |[.int a,.int b]=>k (.int (if b < a then b else a))
 |_=>False
def Aj(as:List D)(k:D->Prop):Prop:=
 match as with
 |[.int a,.int b]=>k (.int (if b > a then b else a))
 |_=>False
def aM(m:Nat):List Nat:=(gh m).cps.toList
def tO(as:List D)(k:D->Prop):Prop:=
 match as with
 |[.int i]=>(0<=i/\i < 100)/\k (.str (aM i.toNat))
 |_=>False
def opB:Bf->List D->(D->Prop)->Prop
 |.len=>tD
 |.all=>oW
 |.int=>oX
 |.tuple=>tH
 |.sum=>tM
 |.min=>Ag
 |.max=>Aj
 |.abs=>Ah
 |.min2=>Ai
 |.str=>tO
def tQ(as:List D)(k:List D->Prop):Prop:=
 match as with
 |[.lst ds]=>k ds
 |[.tup ds]=>k ds
 |[.str l]=>k (l.map λc=>.str [c])
 |_=>False
def oY(as:List D)(k:List D->Prop):Prop:=
 match as with
 |[.lst ds]=>match bf ds with |some ls=>ls.length < 64/\∀ls':List (List Nat),ls'.Perm ls->PyProof.Rows.sortedS (ls'.map tx)=true->k (ls'.map D.str) |none=>False
 |[.tup ds]=>match eH ds with |some ns=>ns.length < 64/\∀ns':List Int,ns'.Perm ns->ns'.Pairwise (·<=·)->k (ns'.map D.int) |none=>False
 |_=>False
def putN(ks:List (List Nat))(k:List Nat):List (List Nat):=if k∈ks then ks else ks++[k]
def oZ(ls:List (List Nat)):List (List Nat):=ls.foldl putN []
def jT(d:D)(k:List D->Prop):Prop:=
 match d with
 |.lst ds=>match bf ds with |some ls=>(ls.length<=1000/\(oZ ls).length<=64)/\∀ls':List (List Nat),ls'.Perm (oZ ls)->k (ls'.map D.str) |none=>False
 |_=>False
def cG:Lf->List D->(List D->Prop)->Prop
 |.list=>tQ
 |.sorted=>oY
def isT(t:String)(d:D):Option Bool:=
 match d with
 |.non=>some false
 |.bl _=>some (t=="bool"||t=="int")
 |.int _=>some (t=="int")
 |.str _=>some (t=="str")
 |.tup _=>some (t=="tuple")
 |.lst _=>some (t=="list")
 |_=>none
def fH (t:String):Bool:=t=="bool"||t=="int"||t=="str"||t=="tuple"||t=="list"
def o8(o:D)(as:List D)(G:DH)(k:D->DH->Prop):Prop:=
 match o,as with
 |.str s,[.lst ds]=>match bf ds with |some ls=>((ls.map (·.length)).sum+ls.length * s.length<=sz)/\k (.str (cZ s ls)) G |none=>False
 |_,_=>False
def o9(o:D)(as:List D)(G:DH)(k:D->DH->Prop):Prop:=
 match o,as with
 |.ref p,[x]=>match G p with |some (.lst ds)=>ds.length < sz/\k .non (aQ G p (.lst (ds++[x]))) |none=>False
 |_,_=>False
def ph(o:D)(as:List D)(G:DH)(k:D->DH->Prop):Prop:=
 match o,as with
 |.ref p,[.lst xs]=>match G p with |some (.lst ds)=>ds.length+xs.length < sz/\k .non (aQ G p (.lst (ds++xs))) |none=>False
 |_,_=>False
def ad0(o:D)(as:List D)(G:DH)(k:D->DH->Prop):Prop:=
 match o,as with
 |.ref p,[.int i,x]=>match G p with |some (.lst ds)=>ds.length < sz/\0<=i/\i<=1000000/\k .non (aQ G p (.lst (ds.take i.toNat++x::ds.drop i.toNat))) |none=>False
 |_,_=>False
def ad1(o:D)(as:List D)(G:DH)(k:D->DH->Prop):Prop:=
 match o,as with
 |.ref p,[.int i]=>match G p with |some (.lst ds)=>0<=i/\i<=1000000/\(match ds[i.toNat]? with |some y=>k y (aQ G p (.lst (ds.eraseIdx i.toNat))) |none=>False) |none=>False
 |_,_=>False
def pq(o:D)(as:List D)(G:DH)(k:D->DH->Prop):Prop:=
 match o,as with
 |.lst ds,[.bl true]=>match bools ds with |some bs=>k (.int (bs.count true:Nat)) G |none=>False
 |_,_=>False
def pA(o:D)(as:List D)(G:DH)(k:D->DH->Prop):Prop:=
 match o,as with
 |.lst ds,[.bl true]=>match bools ds with |some bs=>true∈bs/\k (.int (bs.idxOf true:Nat)) G |none=>False
 |_,_=>False
def ad2(o:D)(as:List D)(G:DH)(k:D->DH->Prop):Prop:=
 match o,as with
 |.str l,[.str [c]]=>k (.int (-1)) G/\∀i:Nat,l[i]?=some c->k (.int (i:Int)) G
 |_,_=>False
def tR(o:D)(as:List D)(G:DH)(k:D->DH->Prop):Prop:=
 match o,as with
 |.str l,[.str [c]]=>(c < 256/\l.length+2<=sz)/\k (.lst ((az c l).map .str)) G
 |_,_=>False
def tU:D->Prop
 |.lst _=>True
 |_=>False
def recv(m:Mf)(o:D)(G:DH):Prop:=
 match m,o with
 |.join,.str _=>True
 |.split,.str _=>True
 |.append,.ref p=>match G p with |some (.lst _)=>True |none=>False
 |.extend,.ref p=>match G p with |some (.lst _)=>True |none=>False
 |.count,o=>tU (view G o)
 |.index,o=>tU (view G o)
 |_,_=>False
def opM:Mf->D->List D->DH->(D->DH->Prop)->Prop
 |.join,o,as,G,k=>o8 o (as.map (view G)) G k
 |.append,o,as,G,k=>o9 o as G k
 |.split,o,as,G,k=>tR o as G k
 |.extend,o,as,G,k=>ph o (as.map (view G)) G k
 |.count,o,as,G,k=>pq (view G o) as G k
 |.index,o,as,G,k=>pA (view G o) as G k
def aV (C C':String):Bool:=C==C'||C'=="SieveError"||C'=="ValueError"
def gW(C:String)(xs:List String)(d:D)(k:Bool->Prop):Prop:=match d with
 |.exn c=>xs.contains c=true/\k (aV c C)
 |.exa c _ _=>xs.contains c=true/\k (aV c C)
 |_=>False
def okA(d:D):Prop:=match d with
 |.int i=>0<=i/\i < 100
 |.str l=>l.length<=1000
 |_=>False
def iZ(C f:String)(d:D)(k:D->Prop):Prop:=match d with
 |.exa C' f' v=>C'=C/\f'=f/\k v
 |_=>False
mutual
inductive Tg where
 |nm (i:Nat)
 |tp (ts:Tgs)
inductive Tgs where
 |nil
 |cons (t:Tg) (r:Tgs)
end
mutual
inductive Ex where
 |var (i:Nat)
 |cst (d:D)
 |glb (x:String) (d:D)
 |bin (op:Operator) (fz:Bool) (a b:Ex)
 |neg (a:Ex)
 |cmp (op:CmpOp) (a b:Ex)
 |chn (op op':CmpOp) (a b c:Ex)
 |not (a:Ex)
 |boo (isAnd:Bool) (e:Ex) (es:Exs)
 |ife (c:Tx) (a b:Ex)
 |tup (es:Exs)
 |lst (fz:Bool) (es:Exs)
 |idx (a i:Ex)
 |slc (fz:Bool) (a:Ex) (lo hi:Ox)
 |rvs (fz:Bool) (a s:Ex)
 |call (f:String) (es:Exs)
 |bcl (f:Bf) (es:Exs)
 |lcl (fz:Bool) (f:Lf) (es:Exs)
 |isi (a:Ex) (t:String)
 |isx (a:Ex) (C:String) (xs:List String)
 |fst (es:Exs)
 |xat (C f:String) (a:Ex)
 |mth (m:Mf) (o:Ex) (es:Exs)
 |comp (fz:Bool) (elt:Ex) (tg:Tg) (it:It') (cond:Tx) (N:List String) (cap:List (Option Nat))
 |frz (a:Ex)
inductive Exs where
 |nil
 |cons (e:Ex) (es:Exs)
/-- a test -/
inductive Tx where
 |val (e:Ex)
 |not (t:Tx)
 |boo (isAnd:Bool) (t:Tx) (ts:Txs)
 |yes
inductive Txs where
 |nil
 |cons (t:Tx) (ts:Txs)
/-- a bound of a slice -/
inductive Ox where
 |no
 |ob (e:Ex)
/-- what a loop walks -/
inductive It' where
 |seq (e:Ex)
 |rng (a:Ex)
 |rng2 (a b:Ex)
 |enm (e:Ex)
 |en1 (e:Ex)
 |zip (a b:Ex)
end
inductive Tb where
 |call (f:String) (es:Exs)
 |asg (i:Nat) (f:String) (es:Exs)
 |pick (f g:String) (i:Nat) (es:Exs)
 |ite (c:Tx) (a b:Tb)
 |asl (i:Nat) (fz:Bool) (e:Ex) (f:String) (es:Exs)
inductive Hd where
 |flag (i:Nat) (b:Bool)
 |bind (n i:Nat)
mutual
inductive Sx where
 |exp (e:Ex)
 |asg (t:Tg) (e:Ex)
 |star (i j:Nat) (e:Ex)
 |set (o i e:Ex)
 |ret (e:Ex)
 |rtn
 |ite (c:Tx) (a b:Sxs)
 |for_ (t:Tg) (it:It') (body:Sxs)
 |pas
 |brk
 |cnt
 |nev
 |rsi (C:String) (e:Ex)
 |tryx (b:Tb) (C:String) (h:Hd) (xs:List String)
 |tryh (b:Tb) (C:String) (n:Nat) (ss:Sxs) (xs:List String)
inductive Sxs where
 |nil
 |cons (s:Sx) (r:Sxs)
end
structure Xn where
 cls:String
 fld:D
structure Spec where
 A:Type
 pre:List D->DH->A->Prop
 post:A->D->DH->Prop
 exc:A->Xn->DH->Prop
abbrev EK:=Xn->DH->Prop
def Spec.t(S:Spec)(ds:List D)(G:DH)(Q:D->DH->Prop)(E:EK):Prop:=
 ∃a,S.pre ds G a/\(∀d G',S.post a d G'->Q d G')/\∀x G',S.exc a x G'->E x G'
theorem Spec.mono{S:Spec}{ds:List D}{G:DH}{Q Q':D->DH->Prop}{E E':EK}(h:S.t ds G Q E)(hq:∀d G',Q d G'->Q' d G')(he:∀x G',E x G'->E' x G'):S.t ds G Q' E':=by obtain ⟨a,h1,h2,h3⟩:=h;exact ⟨a,h1,λd G' q=>hq _ _ (h2 d G' q),λx G' q=>he _ _ (h3 x G' q)⟩
abbrev ak:=String->Spec
def ad3(C f:String)(d:D)(k:Addr->Prop):Prop:=match d with |.obj C' f' q=>C'=C/\f'=f/\k q |_=>False
def ad4(C m:String)(d:D):Prop:=match d with |.obj C' f' _=>C'=C/\(Str.ofString m==Str.ofString f')=false |_=>False
def ad5(d:D)(G:DH)(k:D->DH->Prop):Prop:=match d with |.ref p=>(match G p with |some (.lst ds)=>(match ds[ds.length - 1]? with |some y=>k y (aQ G p (.lst ds.dropLast)) |none=>False) |none=>False) |_=>False
def ad6(d:D)(k:List Nat->Prop):Prop:=match d with |.str l=>l.length<=1000/\k l |_=>False
def ad7(i:D)(l:List Nat)(k:List Nat->Prop):Prop:=match i with |.int n=>(match atI [48,49] n with |some c=>k (l.map λa=>if a=42 then c else a) |none=>False) |_=>False
def jU(i j:Nat)(d:D)(Y:aj)(G:DH)(k:aj->DH->Prop):Prop:=
 match d with
 |.lst ds=>ds≠[]/\∀xs y,ds=xs++[y]->k ((Y.set i (some (.lst xs))).set j (some y)) G
 |_=>False
mutual
def aX:Tg->D->aj->DH->(aj->Prop)->Prop
 |.nm i,d,Y,_,k=>k (Y.set i (some d))
 |.tp ts,d,Y,G,k=>match d with |.tup ds=>bz ts ds Y G k |.lst ds=>bz ts ds Y G k |_=>False
def bz:Tgs->List D->aj->DH->(aj->Prop)->Prop
 |.nil,ds,Y,_,k=>match ds with |[]=>k Y |_=>False
 |.cons t r,ds,Y,G,k=>match ds with |d::ds=>aX t d Y G (λρ'=>bz r ds ρ' G k) |[]=>False
end
abbrev Hld:=List (Addr×List D)
def held:Hld->DH->Prop
 |[],_=>True
 | (a,ds)::r,G=>G a=some (.lst ds)/\held r G
def compLoop(step:D->aj->DH->(Option D->aj->DH->Prop)->Prop)(g:Hld):List D->List D->aj->DH->(List D->DH->Prop)->Prop
 |[],acc,_,G,k=>held g G/\acc.length<=sz/\k acc G
 |d::ds,acc,Y,G,k=>held g G/\acc.length < sz/\step d Y G (λo ρ' G'=>match o with |some y=>compLoop step g ds (acc++[y]) ρ' G' k |none=>compLoop step g ds acc ρ' G' k)
def tV(step:D->List D->aj->DH->(List D->aj->DH->Prop)->Prop)(g:Hld):List D->List D->aj->DH->(List D->aj->DH->Prop)->Prop
 |[],acc,Y,G,k=>held g G/\k acc Y G
 |d::ds,acc,Y,G,k=>held g G/\step d acc Y G (λacc' ρ' G'=>tV step g ds acc' ρ' G' k)
def b8:Nat->List D->List D
 |_,[]=>[]
 |i,d::ds=>.tup [.int i,d]::b8 (i+1) ds
def bW:List D->List D->List D
 |a::as,b::bs=>.tup [a,b]::bW as bs
 |_,_=>[]
def itemsOf(G:DH):D->Option (List D×Hld)
 |.lst ds=>some (ds,[])
 |.tup ds=>some (ds,[])
 |.str l=>some (l.map λc=>.str [c],[])
 |.ref p=>match G p with |some (.lst ds)=>some (ds,[(p,ds)]) |none=>none
 |_=>none
def bA(lo:Int)(n:Nat):List D:=(List.range n).map λi=>.int (lo+(i:Nat))
def ad8(lo:Int)(n:Nat):List D:=(List.range n).map λi=>.int (lo - (i:Nat))
def noE:EK:=λ_ _=>False
mutual
def wpE(Z:ak):Ex->EK->aj->DH->(D->DH->Prop)->Prop
 |.var i,_,Y,G,k=>match Y[i]? with |some (some d)=>k d G |_=>False
 |.cst d,_,_,G,k=>k d G
 |.glb _ d,_,_,G,k=>k d G
 |.bin op fz a b,E,Y,G,k=>wpE Z a E Y G λx G1=>wpE Z b E Y G1 λy G2=>cF op fz (view G2 x) (view G2 y) G2 k
 |.neg a,E,Y,G,k=>wpE Z a E Y G λx G1=>match x with |.int i=>k (.int (-i)) G1 |_=>False
 |.cmp op a b,E,Y,G,k=>wpE Z a E Y G λx G1=>wpE Z b E Y G1 λy G2=>aU op (view G2 x) (view G2 y) λc=>k (.bl c) G2
 |.chn op op' a b c,E,Y,G,k=>wpE Z a E Y G λx G1=>wpE Z b E Y G1 λy G2=>aU op (view G2 x) (view G2 y) λt=>
   match t with
   |true=>wpE Z c E Y G2 λz G3=>aU op' (view G3 y) (view G3 z) λt'=>k (.bl t') G3
   |false=>k (.bl false) G2
 |.not a,E,Y,G,k=>wpE Z a E Y G λx G1=>match truth (view G1 x) with |some b=>k (.bl (!b)) G1 |none=>False
 |.boo isAnd e es,E,Y,G,k=>wpE Z e E Y G λd G1=>match d with |.bl b=>wpB Z es isAnd b E Y G1 (λc G2=>k (.bl c) G2) |_=>False
 |.ife c a b,E,Y,G,k=>wpT Z c E Y G λt G1=>match t with |true=>wpE Z a E Y G1 k |false=>wpE Z b E Y G1 k
 |.tup es,E,Y,G,k=>aN Z es E Y G λds G1=>ds.length<=sz/\k (.tup ds) G1
 |.lst fz es,E,Y,G,k=>aN Z es E Y G λds G1=>ds.length<=sz/\mk fz ds G1 k
 |.idx a i,E,Y,G,k=>wpE Z a E Y G λx G1=>wpE Z i E Y G1 λy G2=>cY (view G2 x) y λd=>k d G2
 |.slc fz a lo hi,E,Y,G,k=>wpE Z a E Y G λx G1=>wpO Z lo E Y G1 λl G2=>wpO Z hi E Y G2 λh G3=>dR fz (view G3 x) l h G3 k
 |.rvs fz a s,E,Y,G,k=>wpE Z a E Y G λx G1=>wpE Z s E Y G1 λy G2=>gU fz (view G2 x) y G2 k
 |.call f es,E,Y,G,k=>aN Z es E Y G λds G1=>(Z f).t ds G1 k E
 |.bcl f es,E,Y,G,k=>aN Z es E Y G λds G1=>opB f (ds.map (view G1)) λd=>k d G1
 |.lcl fz f es,E,Y,G,k=>aN Z es E Y G λds G1=>cG f (ds.map (view G1)) λxs=>mk fz xs G1 k
 |.isi a t,E,Y,G,k=>wpE Z a E Y G λx G1=>match isT t (view G1 x) with |some b=>k (.bl b) G1 |none=>False
 |.isx a C xs,E,Y,G,k=>wpE Z a E Y G λx G1=>gW C xs x λb=>k (.bl b) G1
 |.fst es,E,Y,G,k=>wpF Z es E Y G λl G1=>l.length<=sz/\k (.str l) G1
 |.xat C f a,E,Y,G,k=>wpE Z a E Y G λd G1=>iZ C f d λv=>k v G1
 |.mth m o es,E,Y,G,k=>wpE Z o E Y G λx G1=>recv m x G1/\aN Z es E Y G1 λds G2=>opM m x ds G2 k
 |.comp fz elt tg it cond _ cap,E,Y,G,k=>wpI Z it E Y G λitems g G1=>
   compLoop (λd ρ' G' k'=>aX tg d ρ' G' λρ1=>wpT Z cond noE ρ1 G' λb G2=>match b with |true=>wpE Z elt noE ρ1 G2 λy G3=>k' (some y) ρ1 G3 |false=>k' none ρ1 G2)
    g items [] (cap.map λo=>match o with |none=>none |some j=>(Y[j]?).join) G1 λds G2=>mk fz ds G2 k
 |.frz a,E,Y,G,k=>wpE Z a E Y G λx G1=>match x with |.ref p=>(match G1 p with |some (.lst ds)=>k (.lst ds) (gk G1 p) |none=>False) |d=>k d G1
/-- a test -/
def wpT(Z:ak):Tx->EK->aj->DH->(Bool->DH->Prop)->Prop
 |.not a,E,Y,G,k=>wpT Z a E Y G λb G1=>k (!b) G1
 |.boo isAnd e es,E,Y,G,k=>wpT Z e E Y G λb G1=>fJ Z es isAnd b E Y G1 k
 |.yes,_,_,G,k=>k true G
 |.val x,E,Y,G,k=>wpE Z x E Y G λd G1=>match truth (view G1 d) with |some b=>k b G1 |none=>False
def wpF(Z:ak):Exs->EK->aj->DH->(List Nat->DH->Prop)->Prop
 |.nil,_,_,G,k=>k [] G
 |.cons e es,E,Y,G,k=>wpE Z e E Y G λd G1=>match d with
  |.str l=>l.length<=1000/\wpF Z es E Y G1 λx G2=>k (l++x) G2
  |.int i=>(0<=i/\i < 100)/\wpF Z es E Y G1 λx G2=>k (aM i.toNat++x) G2
  |_=>False
def aN(Z:ak):Exs->EK->aj->DH->(List D->DH->Prop)->Prop
 |.nil,_,_,G,k=>k [] G
 |.cons e es,E,Y,G,k=>wpE Z e E Y G λd G1=>aN Z es E Y G1 λds G2=>k (d::ds) G2
/-- and,or as values:truths alone;b:the one ahead -/
def wpB(Z:ak):Exs->Bool->Bool->EK->aj->DH->(Bool->DH->Prop)->Prop
 |.nil,_,b,_,_,G,k=>k b G
 |.cons e es,isAnd,b,E,Y,G,k=>match isAnd,b with
  |true,false=>k false G
  |false,true=>k true G
  |_,_=>wpE Z e E Y G λd G1=>match d with |.bl b'=>wpB Z es isAnd b' E Y G1 k |_=>False
def fJ(Z:ak):Txs->Bool->Bool->EK->aj->DH->(Bool->DH->Prop)->Prop
 |.nil,_,b,_,_,G,k=>k b G
 |.cons e es,isAnd,b,E,Y,G,k=>match isAnd,b with
  |true,false=>k false G
  |false,true=>k true G
  |_,_=>wpT Z e E Y G λb' G1=>fJ Z es isAnd b' E Y G1 k
/-- a bound of a slice -/
def wpO(Z:ak):Ox->EK->aj->DH->(Option Int->DH->Prop)->Prop
 |.no,_,_,G,k=>k none G
 |.ob x,E,Y,G,k=>wpE Z x E Y G λd G1=>match d with |.int i=>k (some i) G1 |_=>False
def wpI(Z:ak):It'->EK->aj->DH->(List D->Hld->DH->Prop)->Prop
 |.seq e,E,Y,G,k=>wpE Z e E Y G λd G1=>match itemsOf G1 d with |some ds=>k ds.1 ds.2 G1 |none=>False
 |.rng a,E,Y,G,k=>wpE Z a E Y G λd G1=>match d with |.int n=>(-(2 ^ 62)<=n/\n < 2 ^ 62)/\k (bA 0 n.toNat) [] G1 |_=>False
 |.rng2 a b,E,Y,G,k=>wpE Z a E Y G λx G1=>wpE Z b E Y G1 λy G2=>match x,y with
  |.int m,.int n=>(-(2 ^ 62)<=m/\m < 2 ^ 62/\-(2 ^ 62)<=n/\n < 2 ^ 62)/\k (bA m (n - m).toNat) [] G2
  |_,_=>False
 |.enm e,E,Y,G,k=>wpE Z e E Y G λd G1=>match itemsOf G1 d with |some ds=>k (b8 0 ds.1) ds.2 G1 |none=>False
 |.en1 e,E,Y,G,k=>wpE Z e E Y G λd G1=>match d with |.lst ds=>k (b8 1 ds) [] G1 |_=>False
 |.zip a b,E,Y,G,k=>wpE Z a E Y G λx G1=>wpE Z b E Y G1 λy G2=>match itemsOf G2 x,itemsOf G2 y with |some ds,some es=>k (bW ds.1 es.1) (ds.2++es.2) G2 |_,_=>False
end
structure En where
 nx:aj->DH->Prop
 rt:D->DH->Prop
 bk:aj->DH->Prop
 ct:aj->DH->Prop
def forLoop(step:D->aj->DH->(aj->DH->Prop)->Prop)(g:Hld):List D->aj->DH->(aj->DH->Prop)->Prop
 |[],Y,G,k=>held g G/\k Y G
 |d::ds,Y,G,k=>held g G/\step d Y G λρ' G'=>forLoop step g ds ρ' G' k
def whileLoop(test:aj->DH->(Bool->DH->Prop)->Prop)(body:aj->DH->(aj->DH->Prop)->Prop):Nat->aj->DH->(aj->DH->Prop)->Prop
 |0,_,_,_=>False
 |n+1,Y,G,k=>test Y G λb G1=>match b with |true=>body Y G1 λρ' G'=>whileLoop test body n ρ' G' k |false=>k Y G1
def fK(o i x:D)(G:DH)(k:DH->Prop):Prop:=
 match o,i with
 |.ref p,.int i=>match G p with |some (.lst ds)=>(match ixN ds.length i with |some j=>k (aQ G p (.lst (ds.set j x))) |none=>False) |none=>False
 |_,_=>False
def jb(op:Operator)(a b:D)(k:D->Prop):Prop:=
 match op,a,b with
 |.Add,.int i,.int j=>k (.int (i+j))
 |.Add,.str x,.str y=>x.length+y.length<=sz/\k (.str (x++y))
 |.Sub,.int i,.int j=>k (.int (i - j))
 |_,_,_=>False
def Ak:D->Bool
 |.int i=>decide (0<=i)&&decide (i < 100)
 |_=>false
def wpM(Z:ak):Exs->EK->aj->DH->(DH->Prop)->Prop
 |.nil,_,_,G,k=>k G
 |.cons e es,E,Y,G,k=>wpE Z e E Y G λd G1=>Ak d=true/\wpM Z es E Y G1 k
def wpX(Z:ak):Tb->aj->DH->(aj->DH->Prop)->(Xn->aj->DH->Prop)->Prop
 |.call f es,Y,G,nx,ex=>aN Z es noE Y G λds G1=>(Z f).t ds G1 (λ_ G2=>nx Y G2) λx G2=>ex x Y G2
 |.asg i f es,Y,G,nx,ex=>aN Z es noE Y G λds G1=>(Z f).t ds G1 (λd G2=>nx (Y.set i (some d)) G2) λx G2=>ex x Y G2
 |.pick f g i es,Y,G,nx,ex=>wpE Z (.var i) noE Y G λd G1=>∃b:Bool,d=.int (if b then 1 else 0)/\aN Z es noE Y G1 λds G2=>(Z (if b then g else f)).t ds G2 (λ_ G3=>nx Y G3) λx G3=>ex x Y G3
 |.ite c a b,Y,G,nx,ex=>wpT Z c noE Y G λt G1=>match t with |true=>wpX Z a Y G1 nx ex |false=>wpX Z b Y G1 nx ex
 |.asl i fz e f es,Y,G,nx,ex=>wpE Z e noE Y G λd0 G0=>aN Z es noE Y G0 λds G1=>(Z f).t ds G1 (λd G2=>mk fz [d0,d] G2 λv G3=>nx (Y.set i (some v)) G3) λx G2=>ex x Y G2
def cz (C:String):String:=if C=="NoText" then "number" else "word"
def xval(x:Xn):D:=match x.fld with
 |.non=>.exn x.cls
 |d=>.exa x.cls (cz x.cls) d
def caught(h:Hd)(x:Xn)(Y:aj):aj:=match h with
 |.flag i b=>Y.set i (some (.bl b))
 |.bind n i=>((Y.set n (some (xval x))).set i (some (xval x))).set n none
mutual
def wpS(Z:ak):Sx->EK->aj->DH->En->Prop
 |.exp e,E,Y,G,D=>wpE Z e E Y G λ_ G1=>D.nx Y G1
 |.star i j e,E,Y,G,D=>wpE Z e E Y G λd G1=>jU i j d Y G1 D.nx
 |.asg t e,E,Y,G,D=>wpE Z e E Y G λd G1=>aX t d Y G1 λρ'=>D.nx ρ' G1
 |.set o i e,E,Y,G,D=>wpE Z e E Y G λx G1=>wpE Z o E Y G1 λa G2=>wpE Z i E Y G2 λy G3=>fK a y x G3 λG4=>D.nx Y G4
 |.ret e,E,Y,G,D=>wpE Z e E Y G D.rt
 |.rtn,_,_,G,D=>D.rt .non G
 |.ite c a b,E,Y,G,D=>wpT Z c E Y G λt G1=>match t with |true=>au Z a E Y G1 D |false=>au Z b E Y G1 D
 |.for_ t it body,E,Y,G,D=>wpI Z it E Y G λitems g G1=>
   forLoop (λd ρ' G' k=>aX t d ρ' G' λρ1=>au Z body E ρ1 G' { D with nx:=k,ct:=k,bk:=D.nx }) g items Y G1 D.nx
 |.pas,_,Y,G,D=>D.nx Y G
 |.brk,_,Y,G,D=>D.bk Y G
 |.cnt,_,Y,G,D=>D.ct Y G
 |.nev,_,_,_,_=>False
 |.rsi C e,E,Y,G,_=>wpE Z e E Y G λd G1=>okA d/\E ⟨C,d⟩ G1
 |.tryh b C n ss xs,_,Y,G,D=>wpX Z b Y G D.nx λx ρ' G'=>xs.contains x.cls=true/\aV x.cls C=true/\au Z ss noE (ρ'.set n (some (xval x))) G' { nx:=λρ2 G2=>D.nx (ρ2.set n none) G2,rt:=λ_ _=>False,bk:=λ_ _=>False,ct:=λ_ _=>False }
 |.tryx b C h xs,_,Y,G,D=>wpX Z b Y G D.nx λx ρ' G'=>xs.contains x.cls=true/\aV x.cls C=true/\D.nx (caught h x ρ') G'
def au(Z:ak):Sxs->EK->aj->DH->En->Prop
 |.nil,_,Y,G,D=>D.nx Y G
 |.cons s r,E,Y,G,D=>wpS Z s E Y G { D with nx:=λρ' G'=>au Z r E ρ' G' D }
end
theorem tW{Z:ak}{a}{E}{Y}{G}{k}:wpT Z (.not a) E Y G k=(wpT Z a E Y G λb G1=>k (!b) G1):=rfl
theorem tX{Z:ak}{isAnd}{e}{es}{E}{Y}{G}{k}:wpT Z (.boo isAnd e es) E Y G k=(wpT Z e E Y G λb G1=>fJ Z es isAnd b E Y G1 k):=rfl
theorem tY{Z:ak}{E}{Y}{G}{k}:wpT Z .yes E Y G k=(k true G):=rfl
theorem jV{Z:ak}{x}{E}{Y}{G}{k}:wpT Z (.val x) E Y G k=(wpE Z x E Y G λd G1=>match truth (view G1 d) with |some b=>k b G1 |none=>False):=rfl
theorem gY{Z:ak}{E}{Y}{G}{k}:aN Z .nil E Y G k=(k [] G):=rfl
theorem gn{Z:ak}{e}{es}{E}{Y}{G}{k}:aN Z (.cons e es) E Y G k=(wpE Z e E Y G λd G1=>aN Z es E Y G1 λds G2=>k (d::ds) G2):=rfl
theorem tZ{Z:ak}{isAnd:Bool}{b:Bool}{E}{Y}{G}{k}:wpB Z .nil isAnd b E Y G k=(k b G):=rfl
theorem pB{Z:ak}{e}{es}{isAnd:Bool}{b:Bool}{E}{Y}{G}{k}:wpB Z (.cons e es) isAnd b E Y G k=(match isAnd,b with
  |true,false=>k false G
  |false,true=>k true G
  |_,_=>wpE Z e E Y G λd G1=>match d with |.bl b'=>wpB Z es isAnd b' E Y G1 k |_=>False):=rfl
theorem uc{Z:ak}{isAnd:Bool}{b:Bool}{E}{Y}{G}{k}:fJ Z .nil isAnd b E Y G k=(k b G):=rfl
theorem pC{Z:ak}{e}{es}{isAnd:Bool}{b:Bool}{E}{Y}{G}{k}:fJ Z (.cons e es) isAnd b E Y G k=(match isAnd,b with
  |true,false=>k false G
  |false,true=>k true G
  |_,_=>wpT Z e E Y G λb' G1=>fJ Z es isAnd b' E Y G1 k):=rfl
theorem ud{Z:ak}{E}{Y}{G}{k}:wpO Z .no E Y G k=(k none G):=rfl
theorem ue{Z:ak}{x}{E}{Y}{G}{k}:wpO Z (.ob x) E Y G k=(wpE Z x E Y G λd G1=>match d with |.int i=>k (some i) G1 |_=>False):=rfl
theorem uf{Z:ak}{e}{E}{Y}{G}{k}:wpI Z (.seq e) E Y G k=(wpE Z e E Y G λd G1=>match itemsOf G1 d with |some ds=>k ds.1 ds.2 G1 |none=>False):=rfl
theorem ug{Z:ak}{a}{E}{Y}{G}{k}:wpI Z (.rng a) E Y G k=(wpE Z a E Y G λd G1=>match d with |.int n=>(-(2 ^ 62)<=n/\n < 2 ^ 62)/\k (bA 0 n.toNat) [] G1 |_=>False):=rfl
theorem uh{Z:ak}{a}{b}{E}{Y}{G}{k}:wpI Z (.rng2 a b) E Y G k=(wpE Z a E Y G λx G1=>wpE Z b E Y G1 λy G2=>match x,y with
  |.int m,.int n=>(-(2 ^ 62)<=m/\m < 2 ^ 62/\-(2 ^ 62)<=n/\n < 2 ^ 62)/\k (bA m (n - m).toNat) [] G2
  |_,_=>False):=rfl
theorem ul{Z:ak}{e}{E}{Y}{G}{k}:wpI Z (.enm e) E Y G k=(wpE Z e E Y G λd G1=>match itemsOf G1 d with |some ds=>k (b8 0 ds.1) ds.2 G1 |none=>False):=rfl
theorem um{Z:ak}{a}{b}{E}{Y}{G}{k}:wpI Z (.zip a b) E Y G k=(wpE Z a E Y G λx G1=>wpE Z b E Y G1 λy G2=>match itemsOf G2 x,itemsOf G2 y with |some ds,some es=>k (bW ds.1 es.1) (ds.2++es.2) G2 |_,_=>False):=rfl
theorem jW{Z:ak}{E}{Y}{G}{D}:au Z .nil E Y G D=(D.nx Y G):=rfl
theorem jX{Z:ak}{s}{r}{E}{Y}{G}{D}:au Z (.cons s r) E Y G D=(wpS Z s E Y G { D with nx:=λρ' G'=>au Z r E ρ' G' D }):=rfl
theorem uo{Z:ak}{i E Y G k}:wpE Z (.var i) E Y G k=(match Y[i]? with |some (some d)=>k d G |_=>False):=rfl
theorem dB{Z:ak}{d E Y G k}:wpE Z (.cst d) E Y G k=(k d G):=rfl
theorem uq{Z:ak}{u0 d E Y G k}:wpE Z (.glb u0 d) E Y G k=(k d G):=rfl
theorem ur{Z:ak}{op fz a b E Y G k}:wpE Z (.bin op fz a b) E Y G k=(wpE Z a E Y G λx G1=>wpE Z b E Y G1 λy G2=>cF op fz (view G2 x) (view G2 y) G2 k):=rfl
theorem ut{Z:ak}{a E Y G k}:wpE Z (.neg a) E Y G k=(wpE Z a E Y G λx G1=>match x with |.int i=>k (.int (-i)) G1 |_=>False):=rfl
theorem pF{Z:ak}{op a b E Y G k}:wpE Z (.cmp op a b) E Y G k=(wpE Z a E Y G λx G1=>wpE Z b E Y G1 λy G2=>aU op (view G2 x) (view G2 y) λc=>k (.bl c) G2):=rfl
theorem pG{Z:ak}{op op' a b c E Y G k}:wpE Z (.chn op op' a b c) E Y G k=(wpE Z a E Y G λx G1=>wpE Z b E Y G1 λy G2=>aU op (view G2 x) (view G2 y) λt=>
   match t with
   |true=>wpE Z c E Y G2 λz G3=>aU op' (view G3 y) (view G3 z) λt'=>k (.bl t') G3
   |false=>k (.bl false) G2):=rfl
theorem uv{Z:ak}{a E Y G k}:wpE Z (.not a) E Y G k=(wpE Z a E Y G λx G1=>match truth (view G1 x) with |some b=>k (.bl (!b)) G1 |none=>False):=rfl
theorem uw{Z:ak}{isAnd e es E Y G k}:wpE Z (.boo isAnd e es) E Y G k=(wpE Z e E Y G λd G1=>match d with |.bl b=>wpB Z es isAnd b E Y G1 (λc G2=>k (.bl c) G2) |_=>False):=rfl
theorem ux{Z:ak}{c a b E Y G k}:wpE Z (.ife c a b) E Y G k=(wpT Z c E Y G λt G1=>match t with |true=>wpE Z a E Y G1 k |false=>wpE Z b E Y G1 k):=rfl
theorem uy{Z:ak}{es E Y G k}:wpE Z (.tup es) E Y G k=(aN Z es E Y G λds G1=>ds.length<=sz/\k (.tup ds) G1):=rfl
theorem uz{Z:ak}{fz es E Y G k}:wpE Z (.lst fz es) E Y G k=(aN Z es E Y G λds G1=>ds.length<=sz/\mk fz ds G1 k):=rfl
theorem uA{Z:ak}{a i E Y G k}:wpE Z (.idx a i) E Y G k=(wpE Z a E Y G λx G1=>wpE Z i E Y G1 λy G2=>cY (view G2 x) y λd=>k d G2):=rfl
theorem uB{Z:ak}{fz a s E Y G k}:wpE Z (.rvs fz a s) E Y G k=(wpE Z a E Y G λx G1=>wpE Z s E Y G1 λy G2=>gU fz (view G2 x) y G2 k):=rfl
theorem uC{Z:ak}{fz a lo hi E Y G k}:wpE Z (.slc fz a lo hi) E Y G k=(wpE Z a E Y G λx G1=>wpO Z lo E Y G1 λl G2=>wpO Z hi E Y G2 λh G3=>dR fz (view G3 x) l h G3 k):=rfl
theorem uD{Z:ak}{f es E Y G k}:wpE Z (.call f es) E Y G k=(aN Z es E Y G λds G1=>(Z f).t ds G1 k E):=rfl
theorem uE{Z:ak}{f es E Y G k}:wpE Z (.bcl f es) E Y G k=(aN Z es E Y G λds G1=>opB f (ds.map (view G1)) λd=>k d G1):=rfl
theorem uF{Z:ak}{fz f es E Y G k}:wpE Z (.lcl fz f es) E Y G k=(aN Z es E Y G λds G1=>cG f (ds.map (view G1)) λxs=>mk fz xs G1 k):=rfl
theorem uG{Z:ak}{a t E Y G k}:wpE Z (.isi a t) E Y G k=(wpE Z a E Y G λx G1=>match isT t (view G1 x) with |some b=>k (.bl b) G1 |none=>False):=rfl
theorem uH{Z:ak}{a C xs E Y G k}:wpE Z (.isx a C xs) E Y G k=(wpE Z a E Y G λx G1=>gW C xs x λb=>k (.bl b) G1):=rfl
theorem uI{Z:ak}{C f a E Y G k}:wpE Z (.xat C f a) E Y G k=(wpE Z a E Y G λd G1=>iZ C f d λv=>k v G1):=rfl
theorem pH{Z:ak}{es E Y G k}:wpE Z (.fst es) E Y G k=(wpF Z es E Y G λl G1=>l.length<=sz/\k (.str l) G1):=rfl
theorem jY{Z:ak}{E Y G k}:wpF Z .nil E Y G k=k [] G:=rfl
theorem gq{Z:ak}{e es E Y G k}:wpF Z (.cons e es) E Y G k=(wpE Z e E Y G λd G1=>match d with
  |.str l=>l.length<=1000/\wpF Z es E Y G1 λx G2=>k (l++x) G2
  |.int i=>(0<=i/\i < 100)/\wpF Z es E Y G1 λx G2=>k (aM i.toNat++x) G2
  |_=>False):=rfl
theorem gr{Z:ak}{m o es E Y G k}:wpE Z (.mth m o es) E Y G k=(wpE Z o E Y G λx G1=>recv m x G1/\aN Z es E Y G1 λds G2=>opM m x ds G2 k):=rfl
theorem uJ{Z:ak}{a E Y G k}:wpE Z (.frz a) E Y G k=(wpE Z a E Y G λx G1=>match x with |.ref p=>(match G1 p with |some (.lst ds)=>k (.lst ds) (gk G1 p) |none=>False) |d=>k d G1):=rfl
theorem uK{Z:ak}{e E Y G D}:wpS Z (.exp e) E Y G D=(wpE Z e E Y G λ_ G1=>D.nx Y G1):=rfl
theorem uL{Z:ak}{i j e E Y G D}:wpS Z (.star i j e) E Y G D=(wpE Z e E Y G λd G1=>jU i j d Y G1 D.nx):=rfl
theorem uM{Z:ak}{e}{E}{Y}{G}{k}:wpI Z (.en1 e) E Y G k=(wpE Z e E Y G λd G1=>match d with |.lst ds=>k (b8 1 ds) [] G1 |_=>False):=rfl
theorem jZ{Z:ak}{t e E Y G D}:wpS Z (.asg t e) E Y G D=(wpE Z e E Y G λd G1=>aX t d Y G1 λρ'=>D.nx ρ' G1):=rfl
theorem uN{Z:ak}{o i e E Y G D}:wpS Z (.set o i e) E Y G D=(wpE Z e E Y G λx G1=>wpE Z o E Y G1 λa G2=>wpE Z i E Y G2 λy G3=>fK a y x G3 λG4=>D.nx Y G4):=rfl
theorem uO{Z:ak}{e E Y G D}:wpS Z (.ret e) E Y G D=(wpE Z e E Y G D.rt):=rfl
theorem uP{Z:ak}{E Y G D}:wpS Z .rtn E Y G D=(D.rt .non G):=rfl
theorem uQ{Z:ak}{c a b E Y G D}:wpS Z (.ite c a b) E Y G D=(wpT Z c E Y G λt G1=>match t with |true=>au Z a E Y G1 D |false=>au Z b E Y G1 D):=rfl
theorem uR{Z:ak}{E Y G D}:wpS Z .pas E Y G D=(D.nx Y G):=rfl
theorem uT{Z:ak}{E Y G D}:wpS Z .brk E Y G D=(D.bk Y G):=rfl
theorem uU{Z:ak}{E Y G D}:wpS Z .cnt E Y G D=(D.ct Y G):=rfl
theorem uV{Z:ak}{C e E Y G D}:wpS Z (.rsi C e) E Y G D=(wpE Z e E Y G λd G1=>okA d/\E ⟨C,d⟩ G1):=rfl
theorem Q5{Z:ak}{E Y G k}:wpM Z .nil E Y G k=k G:=rfl
theorem Q6{Z:ak}{e es E Y G k}:wpM Z (.cons e es) E Y G k=(wpE Z e E Y G λd G1=>Ak d=true/\wpM Z es E Y G1 k):=rfl
theorem uW{Z:ak}{b C n ss xs E Y G D}:wpS Z (.tryh b C n ss xs) E Y G D=(wpX Z b Y G D.nx λx ρ' G'=>xs.contains x.cls=true/\aV x.cls C=true/\au Z ss noE (ρ'.set n (some (xval x))) G' { nx:=λρ2 G2=>D.nx (ρ2.set n none) G2,rt:=λ_ _=>False,bk:=λ_ _=>False,ct:=λ_ _=>False }):=rfl
theorem uX{Z:ak}{i fz e f es Y G nx ex}:wpX Z (.asl i fz e f es) Y G nx ex=(wpE Z e noE Y G λd0 G0=>aN Z es noE Y G0 λds G1=>(Z f).t ds G1 (λd G2=>mk fz [d0,d] G2 λv G3=>nx (Y.set i (some v)) G3) λx G2=>ex x Y G2):=rfl
theorem uY{Z:ak}{b C h xs E Y G D}:wpS Z (.tryx b C h xs) E Y G D=(wpX Z b Y G D.nx λx ρ' G'=>xs.contains x.cls=true/\aV x.cls C=true/\D.nx (caught h x ρ') G'):=rfl
theorem Al{Z:ak}{f g i es Y G nx ex}:wpX Z (.pick f g i es) Y G nx ex=(wpE Z (.var i) noE Y G λd G1=>∃b:Bool,d=.int (if b then 1 else 0)/\aN Z es noE Y G1 λds G2=>(Z (if b then g else f)).t ds G2 (λ_ G3=>nx Y G3) λx G3=>ex x Y G3):=rfl
theorem Am{Z:ak}{f es Y G nx ex}:wpX Z (.call f es) Y G nx ex=(aN Z es noE Y G λds G1=>(Z f).t ds G1 (λ_ G2=>nx Y G2) λx G2=>ex x Y G2):=rfl
theorem An{Z:ak}{i f es Y G nx ex}:wpX Z (.asg i f es) Y G nx ex=(aN Z es noE Y G λds G1=>(Z f).t ds G1 (λd G2=>nx (Y.set i (some d)) G2) λx G2=>ex x Y G2):=rfl
theorem Ao{Z:ak}{c a b Y G nx ex}:wpX Z (.ite c a b) Y G nx ex=(wpT Z c noE Y G λt G1=>match t with |true=>wpX Z a Y G1 nx ex |false=>wpX Z b Y G1 nx ex):=rfl
theorem uZ{Z:ak}{E Y G D}:wpS Z .nev E Y G D=(False):=rfl
theorem u5{Z:ak}{fz elt tg it cond N cap E Y G k}:wpE Z (.comp fz elt tg it cond N cap) E Y G k=(wpI Z it E Y G λitems g G1=>
   compLoop (λd ρ' G' k'=>aX tg d ρ' G' λρ1=>wpT Z cond noE ρ1 G' λb G2=>match b with |true=>wpE Z elt noE ρ1 G2 λy G3=>k' (some y) ρ1 G3 |false=>k' none ρ1 G2)
    g items [] (cap.map λo=>match o with |none=>none |some j=>(Y[j]?).join) G1 λds G2=>mk fz ds G2 k):=rfl
theorem Aq{Z:ak}{t it body E Y G D}:wpS Z (.for_ t it body) E Y G D=(wpI Z it E Y G λitems g G1=>
   forLoop (λd ρ' G' k=>aX t d ρ' G' λρ1=>au Z body E ρ1 G' { D with nx:=k,ct:=k,bk:=D.nx }) g items Y G1 D.nx):=rfl
section
variable {k k':D->DH->Prop} {G:DH}
theorem c7{fz:Bool}{xs:List D}(h:∀d G',k d G'->k' d G')(q:mk fz xs G k):mk fz xs G k':=by
 cases fz with
 |true=>exact h _ _ q
 |false=>exact λp hp=>h _ _ (q p hp)
theorem Ar{a b:D}{p:Int->Int->Prop}(h:gm a b p):∃i j,a=.int i/\b=.int j/\p i j:=by
 cases a with
 |int i=>cases b with
  |int j=>exact ⟨i,j,rfl,rfl,h⟩
  |_=>exact h.elim
 |_=>exact h.elim
theorem pI{a b:D}{p q:Int->Int->Prop}(h:∀i j,p i j->q i j)(z:gm a b p):gm a b q:=by obtain ⟨i,j,rfl,rfl,z⟩:=Ar z;exact h i j z
theorem Av{op:Operator}{fz:Bool}{a b:D}(h:∀d G',k d G'->k' d G')(q:cF op fz a b G k):cF op fz a b G k':=by
 cases op with
 |Add=>
  have q:iM fz a b G k:=q;show iM fz a b G k';unfold iM at q ⊢;cases a with
  |int i=>cases b <;> first |exact h _ _ q |exact q
  |str i=>cases b <;> first |exact ⟨q.1,h _ _ q.2⟩ |exact q
  |lst i=>cases b <;> first |exact ⟨q.1,c7 h q.2⟩ |exact q
  |tup i=>cases b <;> first |exact ⟨q.1,h _ _ q.2⟩ |exact q
  |_=>exact q
 |Sub=>exact pI (λ_ _ z=>h _ _ z) q
 |Mult=>
  have q:iQ fz a b G k:=q;show iQ fz a b G k';unfold iQ at q ⊢;cases b with
  |int n=>cases a <;> first |exact ⟨q.1,h _ _ q.2⟩ |exact ⟨q.1,q.2.1,q.2.2.1,h _ _ q.2.2.2⟩ |exact ⟨q.1,q.2.1,q.2.2.1,c7 h q.2.2.2⟩ |exact ⟨q.1,q.2.1,q.2.2.1,q.2.2.2.1,h _ _ q.2.2.2.2⟩ |exact q
  |_=>exact q
 |FloorDiv=>exact pI (λ_ _ z=>⟨z.1,h _ _ z.2⟩) q
 |Mod=>exact pI (λ_ _ z=>⟨z.1,h _ _ z.2⟩) q
 |Pow=>exact pI (λ_ _ z=>⟨z.1,h _ _ z.2⟩) q
 |_=>exact q
theorem Aw{a b:D}{k k':Bool->Prop}(h:∀c,k c->k' c)(q:fG a b k):fG a b k':=by
 unfold fG at q ⊢;split at q
 ·split at q
  ·exact h _ q
  ·exact q
 ·exact ⟨q.1,h _ q.2⟩
 ·exact ⟨q.1,h _ q.2⟩
 ·exact q
theorem gZ{op:CmpOp}{a b:D}{k k':Bool->Prop}(h:∀c,k c->k' c)(q:aU op a b k):aU op a b k':=by
 cases op with
 |Eq=>exact ⟨q.1,h _ q.2⟩
 |NotEq=>exact ⟨q.1,h _ q.2⟩
 |Lt=>have q:iR a b k:=q;show iR a b k';unfold iR at q ⊢;split at q <;> first |exact h _ q |exact q
 |LtE=>have q:iT a b k:=q;show iT a b k';unfold iT at q ⊢;split at q <;> first |exact h _ q |exact q
 |Gt=>have q:iU a b k:=q;show iU a b k';unfold iU at q ⊢;split at q <;> first |exact h _ q |exact q
 |GtE=>have q:iV a b k:=q;show iV a b k';unfold iV at q ⊢;split at q <;> first |exact h _ q |exact q
 |Is=>
  have q:iW a b k:=q;show iW a b k';unfold iW at q ⊢;split at q
  ·exact h _ q
  ·split at q
   ·exact h _ q
   ·exact q
  ·exact q
 |IsNot=>
  have q:iY a b k:=q;show iY a b k';unfold iY at q ⊢;split at q
  ·exact h _ q
  ·split at q
   ·exact h _ q
   ·exact q
  ·exact q
 |In=>exact Aw h q
 |NotIn=>exact Aw (λc=>h _) q
theorem Ax{a i:D}{k k':D->Prop}(h:∀c,k c->k' c)(q:cY a i k):cY a i k':=by
 unfold cY at q ⊢;split at q
 ·split at q
  ·exact h _ q
  ·exact q
 ·split at q
  ·exact h _ q
  ·exact q
 ·split at q
  ·exact h _ q
  ·exact q
 ·exact q
theorem Ay{fz:Bool}{a:D}{lo hi:Option Int}(h:∀d G',k d G'->k' d G')(q:dR fz a lo hi G k):dR fz a lo hi G k':=by
 unfold dR at q ⊢;split at q <;> first
  |exact c7 h q
  |exact h _ _ q
  |exact q.elim
theorem Az{fz:Bool}{a y:D}(h:∀d G',k d G'->k' d G')(q:gU fz a y G k):gU fz a y G k':=by
 unfold gU at q ⊢;split at q
 ·exact ⟨q.1,c7 h q.2⟩
 ·exact ⟨q.1,h _ _ q.2⟩
 ·exact q.elim
theorem Ba{f:Bf}{as:List D}{k k':D->Prop}(h:∀c,k c->k' c)(q:opB f as k):opB f as k':=by
 cases f with
 |len=>simp only[opB,tD]at q ⊢;split at q <;> first |exact h _ q |exact q.elim
 |all=>
  simp only[opB,oW]at q ⊢;split at q
  ·split at q
   ·exact h _ q
   ·exact q
  ·exact q
 |int=>
  simp only[opB,oX]at q ⊢;split at q
  ·exact h _ q
  ·exact h _ q
  ·split at q
   ·exact ⟨q.1,h _ q.2⟩
   ·exact q
  ·exact q
 |tuple=>simp only[opB,tH]at q ⊢;split at q <;> first |exact h _ q |exact q.elim
 |sum=>
  simp only[opB,tM]at q ⊢;split at q
  ·split at q
   ·exact h _ q
   ·exact q
  ·exact q
 |min=>
  simp only[opB,Ag]at q ⊢;split at q
  ·split at q
   ·exact ⟨q.1,λm h1 h2=>h _ (q.2 m h1 h2)⟩
   ·split at q
    ·exact λm h1 h2=>h _ (q m h1 h2)
    ·exact q
  ·exact q
 |max=>simp only[opB,Aj]at q ⊢;split at q <;> first |exact h _ q |exact q.elim
 |abs=>simp only[opB,Ah]at q ⊢;split at q <;> first |exact h _ q |exact q.elim
 |min2=>simp only[opB,Ai]at q ⊢;split at q <;> first |exact h _ q |exact q.elim
 |str=>
  simp only[opB,tO]at q ⊢;split at q
  ·exact ⟨q.1,h _ q.2⟩
  ·exact q
theorem ad9{d:D}{k k':List D->Prop}(h:∀c,k c->k' c)(q:jT d k):jT d k':=by
 unfold jT at q ⊢;split at q
 ·split at q
  ·exact ⟨q.1,λls p=>h _ (q.2 ls p)⟩
  ·exact q
 ·exact q
theorem Bb{f:Lf}{as:List D}{k k':List D->Prop}(h:∀c,k c->k' c)(q:cG f as k):cG f as k':=by
 cases f with
 |list=>simp only[cG,tQ]at q ⊢;split at q <;> first |exact h _ q |exact q.elim
 |sorted=>
  simp only[cG,oY]at q ⊢;split at q
  ·split at q
   ·exact ⟨q.1,λls p z=>h _ (q.2 ls p z)⟩
   ·exact q
  ·split at q
   ·exact ⟨q.1,λls p z=>h _ (q.2 ls p z)⟩
   ·exact q
  ·exact q
theorem g8{m:Mf}{o:D}{as:List D}(h:∀d G',k d G'->k' d G')(q:opM m o as G k):opM m o as G k':=by
 cases m with
 |join=>
  simp only[opM,o8]at q ⊢;split at q
  ·split at q
   ·exact ⟨q.1,h _ _ q.2⟩
   ·exact q
  ·exact q
 |split=>
  simp only[opM,tR]at q ⊢;split at q
  ·exact ⟨q.1,h _ _ q.2⟩
  ·exact q
 |append=>
  simp only[opM,o9]at q ⊢;split at q
  ·split at q
   ·exact ⟨q.1,h _ _ q.2⟩
   ·exact q
  ·exact q
 |extend=>
  simp only[opM,ph]at q ⊢;split at q
  ·split at q
   ·exact ⟨q.1,h _ _ q.2⟩
   ·exact q
  ·exact q
 |count=>
  simp only[opM,pq]at q ⊢;split at q
  ·split at q
   ·exact h _ _ q
   ·exact q
  ·exact q
 |index=>
  simp only[opM,pA]at q ⊢;split at q
  ·split at q
   ·exact ⟨q.1,h _ _ q.2⟩
   ·exact q
  ·exact q
theorem Bc{o i x:D}{k k':DH->Prop}(h:∀G',k G'->k' G')(q:fK o i x G k):fK o i x G k':=by
 unfold fK at q ⊢;split at q
 ·split at q
  ·split at q
   ·exact h _ q
   ·exact q
  ·exact q
 ·exact q
theorem aea{op:Operator}{a b:D}{k k':D->Prop}(h:∀c,k c->k' c)(q:jb op a b k):jb op a b k':=by
 unfold jb at q ⊢;split at q <;> first
  |exact h _ q
  |exact ⟨q.1,h _ q.2⟩
  |exact q.elim
mutual
theorem fL{k k':aj->Prop}(h:∀Y,k Y->k' Y):∀(t:Tg){d:D}{Y:aj},aX t d Y G k->aX t d Y G k'
 |.nm i,d,Y,q=>h _ q
 |.tp ts,d,Y,q=>by
  unfold aX at q ⊢;split at q
  ·exact u6 h ts q
  ·exact u6 h ts q
  ·exact q
theorem u6{k k':aj->Prop}(h:∀Y,k Y->k' Y):∀(ts:Tgs){ds:List D}{Y:aj},bz ts ds Y G k->bz ts ds Y G k'
 |.nil,ds,Y,q=>by
  unfold bz at q ⊢;split at q
  ·exact h _ q
  ·exact q
 |.cons t r,ds,Y,q=>by
  unfold bz at q ⊢;split at q
  ·exact fL (λρ' q'=>u6 h r q') t q
  ·exact q
end
theorem pJ{step step':D->aj->DH->(Option D->aj->DH->Prop)->Prop}(hs:∀d Y G (k k':Option D->aj->DH->Prop),(∀o ρ' G',k o ρ' G'->k' o ρ' G')->step d Y G k->step' d Y G k')
  {g:Hld} {k k':List D->DH->Prop} (h:∀ds G',k ds G'->k' ds G'):∀(ds acc:List D)(Y:aj)(G:DH),compLoop step g ds acc Y G k->compLoop step' g ds acc Y G k'
 |[],acc,Y,G,q=>⟨q.1,q.2.1,h _ _ q.2.2⟩
 |d::ds,acc,Y,G,q=>by
  refine ⟨q.1,q.2.1,hs d Y G _ _ (λo ρ' G' z=>?_) q.2.2⟩;cases o with
  |some y=>exact pJ hs h ds (acc++[y]) ρ' G' z
  |none=>exact pJ hs h ds acc ρ' G' z
theorem Q7{step step':D->List D->aj->DH->(List D->aj->DH->Prop)->Prop}(hs:∀d acc Y G (k k':List D->aj->DH->Prop),(∀a ρ' G',k a ρ' G'->k' a ρ' G')->step d acc Y G k->step' d acc Y G k')
  {g:Hld} {k k':List D->aj->DH->Prop} (h:∀a Y G',k a Y G'->k' a Y G'):∀(ds acc:List D)(Y:aj)(G:DH),tV step g ds acc Y G k->tV step' g ds acc Y G k'
 |[],acc,Y,G,q=>⟨q.1,h _ _ _ q.2⟩
 |d::ds,acc,Y,G,q=>⟨q.1,hs d acc Y G _ _ (λa ρ' G' z=>Q7 hs h ds a ρ' G' z) q.2⟩
theorem Bd{step step':D->aj->DH->(aj->DH->Prop)->Prop}(hs:∀d Y G (k k':aj->DH->Prop),(∀ρ' G',k ρ' G'->k' ρ' G')->step d Y G k->step' d Y G k')
  {g:Hld} {k k':aj->DH->Prop} (h:∀Y G',k Y G'->k' Y G'):∀(ds:List D)(Y:aj)(G:DH),forLoop step g ds Y G k->forLoop step' g ds Y G k'
 |[],Y,G,q=>⟨q.1,h _ _ q.2⟩
 |d::ds,Y,G,q=>⟨q.1,hs d Y G _ _ (λρ' G' z=>Bd hs h ds ρ' G' z) q.2⟩
theorem Q8{test test':aj->DH->(Bool->DH->Prop)->Prop}{body body':aj->DH->(aj->DH->Prop)->Prop}
  (ht:∀Y G (k k':Bool->DH->Prop),(∀b G',k b G'->k' b G')->test Y G k->test' Y G k') (hb:∀Y G (k k':aj->DH->Prop),(∀ρ' G',k ρ' G'->k' ρ' G')->body Y G k->body' Y G k')
  {k k':aj->DH->Prop} (h:∀Y G',k Y G'->k' Y G'):∀(n:Nat)(Y:aj)(G:DH),whileLoop test body n Y G k->whileLoop test' body' n Y G k'
 |0,Y,G,q=>q
 |n+1,Y,G,q=>ht Y G _ _ (λb G' z=>by
   cases b with
   |true=>exact hb Y G' _ _ (λρ' G'' z'=>Q8 ht hb h n ρ' G'' z') z
   |false=>exact h _ _ z) q
end
section
variable {Z:ak} {G:DH}
mutual
theorem aF{E:EK}{Y:aj}:∀(x:Ex){G:DH}{k k':D->DH->Prop},(∀d G',k d G'->k' d G')->wpE Z x E Y G k->wpE Z x E Y G k'
 |.var i,G,k,k',h,q=>by
  rw[uo]at q ⊢;split at q
  ·exact h _ _ q
  ·exact q
 |.cst d,G,k,k',h,q=>by rw[dB]at q ⊢;exact h _ _ q
 |.glb x d,G,k,k',h,q=>by rw[uq]at q ⊢;exact h _ _ q
 |.bin op fz a b,G,k,k',h,q=>by
  rw[ur]at q ⊢;exact aF a (λ_ _ q=>aF b (λ_ _ q=>Av h q) q) q
 |.neg a,G,k,k',h,q=>by
  rw[ut]at q ⊢;refine aF a (λx _ q=>?_) q;split at q
  ·exact h _ _ q
  ·exact q
 |.cmp op a b,G,k,k',h,q=>by
  rw[pF]at q ⊢;exact aF a (λ_ _ q=>aF b (λ_ _ q=>gZ (λ_ q=>h _ _ q) q) q) q
 |.chn op op' a b c,G,k,k',h,q=>by
  rw[pG]at q ⊢;refine aF a (λ_ _ q=>aF b (λ_ _ q=>gZ (λt q=>?_) q) q) q;cases t with
  |true=>exact aF c (λ_ _ q=>gZ (λ_ q=>h _ _ q) q) q
  |false=>exact h _ _ q
 |.not a,G,k,k',h,q=>by
  rw[uv]at q ⊢;refine aF a (λx _ q=>?_) q;split at q
  ·exact h _ _ q
  ·exact q
 |.boo isAnd e es,G,k,k',h,q=>by
  rw[uw]at q ⊢;refine aF e (λx _ q=>?_) q;split at q
  ·exact pK es (λ_ _ q=>h _ _ q) q
  ·exact q
 |.ife c a b,G,k,k',h,q=>by
  rw[ux]at q ⊢;refine dC c (λt _ q=>?_) q;cases t with
  |true=>exact aF a h q
  |false=>exact aF b h q
 |.tup es,G,k,k',h,q=>by
  rw[uy]at q ⊢;exact dg es (λ_ _ q=>⟨q.1,h _ _ q.2⟩) q
 |.lst fz es,G,k,k',h,q=>by
  rw[uz]at q ⊢;exact dg es (λ_ _ q=>⟨q.1,c7 h q.2⟩) q
 |.idx a i,G,k,k',h,q=>by
  rw[uA]at q ⊢;exact aF a (λ_ _ q=>aF i (λ_ _ q=>Ax (λ_ q=>h _ _ q) q) q) q
 |.slc fz a lo hi,G,k,k',h,q=>by
  rw[uC]at q ⊢;exact aF a (λ_ _ q=>u9 lo (λ_ _ q=>u9 hi (λ_ _ q=>Ay h q) q) q) q
 |.rvs fz a s,G,k,k',h,q=>by
  rw[uB]at q ⊢;exact aF a (λ_ _ q=>aF s (λ_ _ q=>Az h q) q) q
 |.call f es,G,k,k',h,q=>by
  rw[uD]at q ⊢;exact dg es (λ_ _ q=>Spec.mono q h λ_ _ z=>z) q
 |.bcl f es,G,k,k',h,q=>by
  rw[uE]at q ⊢;exact dg es (λ_ _ q=>Ba (λ_ q=>h _ _ q) q) q
 |.lcl fz f es,G,k,k',h,q=>by
  rw[uF]at q ⊢;exact dg es (λ_ _ q=>Bb (λ_ q=>c7 h q) q) q
 |.isi a t,G,k,k',h,q=>by
  rw[uG]at q ⊢;refine aF a (λx _ q=>?_) q;split at q
  ·exact h _ _ q
  ·exact q
 |.isx a C xs,G,k,k',h,q=>by
  rw[uH]at q ⊢;refine aF a (λx _ q=>?_) q;unfold gW at q ⊢;split at q
  ·exact ⟨q.1,h _ _ q.2⟩
  ·exact ⟨q.1,h _ _ q.2⟩
  ·exact q
 |.xat C f a,G,k,k',h,q=>by
  rw[uI]at q ⊢;refine aF a (λd _ q=>?_) q;unfold iZ at q ⊢;split at q
  ·exact ⟨q.1,q.2.1,h _ _ q.2.2⟩
  ·exact q
 |.fst es,G,k,k',h,q=>by
  rw[pH]at q ⊢;exact ie es (λ_ _ q=>⟨q.1,h _ _ q.2⟩) q
 |.mth m o es,G,k,k',h,q=>by
  rw[gr]at q ⊢;exact aF o (λ_ _ q=>⟨q.1,dg es (λ_ _ q=>g8 h q) q.2⟩) q
 |.comp fz elt tg it cond N cap,G,k,k',h,q=>by
  rw[u5]at q ⊢;refine j0 it (λitems g G1 q=>?_) q;refine pJ ?_ (λds G2 z=>c7 h z) items [] _ G1 q;intro d ρ' G' k k' hk z;refine fL (λρ1 z=>?_) tg z;refine dC cond (λb G2 z=>?_) z;cases b with
  |true=>exact aF elt (λy G3 z=>hk _ _ _ z) z
  |false=>exact hk _ _ _ z
 |.frz a,G,k,k',h,q=>by
  rw[uJ]at q ⊢;refine aF a (λx G1 q=>?_) q;split at q
  ·split at q
   ·exact h _ _ q
   ·exact q
  ·exact h _ _ q
theorem dC{E:EK}{Y:aj}:∀(x:Tx){G:DH}{k k':Bool->DH->Prop},(∀d G',k d G'->k' d G')->wpT Z x E Y G k->wpT Z x E Y G k'
 |.not a,G,k,k',h,q=>by rw[tW]at q ⊢;exact dC a (λ_ _ q=>h _ _ q) q
 |.boo isAnd e es,G,k,k',h,q=>by rw[tX]at q ⊢;exact dC e (λ_ _ q=>pL es h q) q
 |.yes,G,k,k',h,q=>by rw[tY]at q ⊢;exact h _ _ q
 |.val a,G,k,k',h,q=>by
  rw[jV]at q ⊢;refine aF a (λx _ q=>?_) q;split at q
  ·exact h _ _ q
  ·exact q
theorem ie{E:EK}{Y:aj}:∀(x:Exs){G:DH}{k k':List Nat->DH->Prop},(∀d G',k d G'->k' d G')->wpF Z x E Y G k->wpF Z x E Y G k'
 |.nil,G,k,k',h,q=>by rw[jY]at q ⊢;exact h _ _ q
 |.cons e es,G,k,k',h,q=>by
  rw[gq]at q ⊢;refine aF e (λd _ q=>?_) q;split at q
  ·exact ⟨q.1,ie es (λ_ _ q=>h _ _ q) q.2⟩
  ·exact ⟨q.1,ie es (λ_ _ q=>h _ _ q) q.2⟩
  ·exact q
theorem dg{E:EK}{Y:aj}:∀(x:Exs){G:DH}{k k':List D->DH->Prop},(∀d G',k d G'->k' d G')->aN Z x E Y G k->aN Z x E Y G k'
 |.nil,G,k,k',h,q=>by rw[gY]at q ⊢;exact h _ _ q
 |.cons e es,G,k,k',h,q=>by rw[gn]at q ⊢;exact aF e (λ_ _ q=>dg es (λ_ _ q=>h _ _ q) q) q
theorem pK{E:EK}{Y:aj}:∀(x:Exs){isAnd b:Bool}{G:DH}{k k':Bool->DH->Prop},(∀d G',k d G'->k' d G')->wpB Z x isAnd b E Y G k->wpB Z x isAnd b E Y G k'
 |.nil,_,_,G,k,k',h,q=>by rw[tZ]at q ⊢;exact h _ _ q
 |.cons e es,isAnd,b,G,k,k',h,q=>by
  rw[pB]at q ⊢;cases isAnd <;> cases b <;> first
   |exact h _ _ q
   | (refine aF e (λd _ q=>?_) q
      split at q
      ·exact pK es h q
      ·exact q)
theorem pL{E:EK}{Y:aj}:∀(x:Txs){isAnd b:Bool}{G:DH}{k k':Bool->DH->Prop},(∀d G',k d G'->k' d G')->fJ Z x isAnd b E Y G k->fJ Z x isAnd b E Y G k'
 |.nil,_,_,G,k,k',h,q=>by rw[uc]at q ⊢;exact h _ _ q
 |.cons e es,isAnd,b,G,k,k',h,q=>by
  rw[pC]at q ⊢;cases isAnd <;> cases b <;> first
   |exact h _ _ q
   |exact dC e (λd _ q=>pL es h q) q
theorem u9{E:EK}{Y:aj}:∀(x:Ox){G:DH}{k k':Option Int->DH->Prop},(∀d G',k d G'->k' d G')->wpO Z x E Y G k->wpO Z x E Y G k'
 |.no,G,k,k',h,q=>by rw[ud]at q ⊢;exact h _ _ q
 |.ob a,G,k,k',h,q=>by
  rw[ue]at q ⊢;refine aF a (λx _ q=>?_) q;split at q
  ·exact h _ _ q
  ·exact q
theorem j0{E:EK}{Y:aj}:∀(x:It'){G:DH}{k k':List D->Hld->DH->Prop},(∀d g G',k d g G'->k' d g G')->wpI Z x E Y G k->wpI Z x E Y G k'
 |.seq a,G,k,k',h,q=>by
  rw[uf]at q ⊢;refine aF a (λx _ q=>?_) q;split at q
  ·exact h _ _ _ q
  ·exact q
 |.rng a,G,k,k',h,q=>by
  rw[ug]at q ⊢;refine aF a (λx _ q=>?_) q;split at q
  ·exact ⟨q.1,h _ _ _ q.2⟩
  ·exact q
 |.rng2 a b,G,k,k',h,q=>by
  rw[uh]at q ⊢;refine aF a (λx _ q=>aF b (λy _ q=>?_) q) q;split at q
  ·exact ⟨q.1,h _ _ _ q.2⟩
  ·exact q
 |.enm a,G,k,k',h,q=>by
  rw[ul]at q ⊢;refine aF a (λx _ q=>?_) q;split at q
  ·exact h _ _ _ q
  ·exact q
 |.en1 a,G,k,k',h,q=>by
  rw[uM]at q ⊢;refine aF a (λx _ q=>?_) q;split at q
  ·exact h _ _ _ q
  ·exact q
 |.zip a b,G,k,k',h,q=>by
  rw[um]at q ⊢;refine aF a (λx _ q=>aF b (λy _ q=>?_) q) q;split at q
  ·exact h _ _ _ q
  ·exact q
end
structure En.Le(D D':En):Prop where
 nx:∀Y G,D.nx Y G->D'.nx Y G
 rt:∀d G,D.rt d G->D'.rt d G
 bk:∀Y G,D.bk Y G->D'.bk Y G
 ct:∀Y G,D.ct Y G->D'.ct Y G
theorem jc:∀(b:Tb){Y:aj}{G:DH}{nx nx':aj->DH->Prop}{ex ex':Xn->aj->DH->Prop},(∀Y G,nx Y G->nx' Y G)->(∀x Y G,ex x Y G->ex' x Y G)->wpX Z b Y G nx ex->wpX Z b Y G nx' ex'
 |.call f es,Y,G,nx,nx',ex,ex',h,h',q=>by rw[Am]at q ⊢;exact dg es (λ_ _ q=>Spec.mono q (λ_ _ z=>h _ _ z) λ_ _ z=>h' _ _ _ z) q
 |.pick f g i es,Y,G,nx,nx',ex,ex',h,h',q=>by
  rw[Al]at q ⊢;exact aF (.var i) (λ_ _ q=>let ⟨b,e,q⟩:=q;⟨b,e,dg es (λ_ _ q=>Spec.mono q (λ_ _ z=>h _ _ z) λ_ _ z=>h' _ _ _ z) q⟩) q
 |.asl i fz e f es,Y,G,nx,nx',ex,ex',h,h',q=>by rw[uX]at q ⊢;exact aF e (λ_ _ q=>dg es (λ_ _ q=>Spec.mono q (λ_ _ z=>c7 (λ_ _ w=>h _ _ w) z) λ_ _ z=>h' _ _ _ z) q) q
 |.asg i f es,Y,G,nx,nx',ex,ex',h,h',q=>by rw[An]at q ⊢;exact dg es (λ_ _ q=>Spec.mono q (λ_ _ z=>h _ _ z) λ_ _ z=>h' _ _ _ z) q
 |.ite c a b,Y,G,nx,nx',ex,ex',h,h',q=>by
  rw[Ao]at q ⊢;refine dC c (λt _ q=>?_) q;cases t with
  |true=>exact jc a h h' q
  |false=>exact jc b h h' q
mutual
theorem wpS_mono{E:EK}:∀(x:Sx){Y:aj}{G:DH}{D D':En},D.Le D'->wpS Z x E Y G D->wpS Z x E Y G D'
 |.exp e,Y,G,D,D',h,q=>by rw[uK]at q ⊢;exact aF e (λ_ _ q=>h.nx _ _ q) q
 |.star i j e,Y,G,D,D',h,q=>by
  rw[uL]at q ⊢;refine aF e (λd _ q=>?_) q;unfold jU at q ⊢;split at q
  ·exact ⟨q.1,λxs y z=>h.nx _ _ (q.2 xs y z)⟩
  ·exact q
 |.asg t e,Y,G,D,D',h,q=>by rw[jZ]at q ⊢;exact aF e (λ_ _ q=>fL (λ_ q=>h.nx _ _ q) t q) q
 |.set o i e,Y,G,D,D',h,q=>by rw[uN]at q ⊢;exact aF e (λ_ _ q=>aF o (λ_ _ q=>aF i (λ_ _ q=>Bc (λ_ q=>h.nx _ _ q) q) q) q) q
 |.ret e,Y,G,D,D',h,q=>by rw[uO]at q ⊢;exact aF e (λ_ _ q=>h.rt _ _ q) q
 |.rtn,Y,G,D,D',h,q=>by rw[uP]at q ⊢;exact h.rt _ _ q
 |.ite c a b,Y,G,D,D',h,q=>by
  rw[uQ]at q ⊢;refine dC c (λt _ q=>?_) q;cases t with
  |true=>exact cP a h q
  |false=>exact cP b h q
 |.for_ t it body,Y,G,D,D',h,q=>by
  rw[Aq]at q ⊢;exact j0 it (λitems g G1 q=>Bd (λd ρ' G' k k' hk z=>fL (λρ1 z=>cP body (D:={ D with nx:=k,ct:=k,bk:=D.nx }) (D':={ D' with nx:=k',ct:=k',bk:=D'.nx }) ⟨hk,h.rt,h.nx,hk⟩ z) t z) h.nx items Y G1 q) q
 |.pas,Y,G,D,D',h,q=>by rw[uR]at q ⊢;exact h.nx _ _ q
 |.brk,Y,G,D,D',h,q=>by rw[uT]at q ⊢;exact h.bk _ _ q
 |.cnt,Y,G,D,D',h,q=>by rw[uU]at q ⊢;exact h.ct _ _ q
 |.nev,Y,G,D,D',h,q=>by rw[uZ]at q;exact q.elim
 |.rsi C e,Y,G,D,D',h,q=>by rw[uV]at q ⊢;exact q
 |.tryh b C n ss xs,Y,G,D,D',h,q=>by rw[uW]at q ⊢;exact jc b (λ_ _ z=>h.nx _ _ z) (λ_ _ _ z=>⟨z.1,z.2.1,cP ss (D:={ nx:=λρ2 G2=>D.nx (ρ2.set n none) G2,rt:=λ_ _=>False,bk:=λ_ _=>False,ct:=λ_ _=>False }) ⟨λ_ _ w=>h.nx _ _ w,λ_ _ w=>w,λ_ _ w=>w,λ_ _ w=>w⟩ z.2.2⟩) q
 |.tryx b C hd xs,Y,G,D,D',h,q=>by rw[uY]at q ⊢;exact jc b (λ_ _ z=>h.nx _ _ z) (λ_ _ _ z=>⟨z.1,z.2.1,h.nx _ _ z.2.2⟩) q
theorem cP{E:EK}:∀(x:Sxs){Y:aj}{G:DH}{D D':En},D.Le D'->au Z x E Y G D->au Z x E Y G D'
 |.nil,Y,G,D,D',h,q=>by rw[jW]at q ⊢;exact h.nx _ _ q
 |.cons s r,Y,G,D,D',h,q=>by rw[jX]at q ⊢;exact wpS_mono s (D:={ D with nx:=λρ' G'=>au Z r E ρ' G' D }) (D':={ D' with nx:=λρ' G'=>au Z r E ρ' G' D' }) ⟨λ_ _ z=>cP r h z,h.rt,h.bk,h.ct⟩ q
end
end
def PV(K:PF)(H:Hp)(F:FZ)(Q:VK):D->DH->Prop:=λd G'=>∀H' F' v,Ext H F H' F'->R K H' F' G'->Rep K H' F' d v->Q v H'
def PB(K:PF)(H:Hp)(F:FZ)(Q:Bool->Hp->Prop):Bool->DH->Prop:=λb G'=>∀H' F',Ext H F H' F'->R K H' F' G'->Q b H'
def PLs(K:PF)(H:Hp)(F:FZ)(Q:List V->Hp->Prop):List D->DH->Prop:=λds G'=>∀H' F' vs,Ext H F H' F'->R K H' F' G'->Reps K H' F' ds vs->Q vs H'
section
variable {K:PF} {H:Hp} {F:FZ} {G:DH} {Q:VK}
theorem PV.now{d:D}{v:V}(h:PV K H F Q d G)(r:R K H F G)(q:Rep K H F d v):Q v H:=h H F v (Ext.refl H F) r q
theorem dU{fz:Bool}{ds:List D}{vs:List V}(h:mk fz ds G (PV K H F Q))(r:R K H F G)(t:Reps K H F ds vs)(p:Addr)(hp:H p=none):Q (.ref p) (upd H p (.lst vs)):=by
 cases fz with
 |true=>exact h _ _ _ (oR r hp) (r.newF hp) (Ac r hp t)
 |false=>exact h p (r.free hp) _ _ _ (cW r hp) (r.newL hp t) rfl
theorem j4{ds:List D}{vs:List V}(h:PV K H F Q (.tup ds) G)(r:R K H F G)(t:Reps K H F ds vs)(p:Addr)(hp:H p=none):Q (.ref p) (upd H p (.tup vs)):=
 h _ _ _ (cW r hp) (r.new hp) (oU r hp t)
end
theorem szl:sz<=sizeLine:=by rw[eL];decide
theorem dh{n:Nat}(h:n<=sz):n<=sizeLine:=bi h szl
def rB2(K:PF)(f:D->D->DH->(D->DH->Prop)->Prop):R2:=λx y H Q=>∃F G a b,R K H F G/\Rep K H F a x/\Rep K H F b y/\f (view G a) (view G b) G (PV K H F Q)
section
variable {X:Cx}
theorem Q9:OpR X (binaryOp .Add) (λx y H Q=>∃a b xs ys,x=.ref a/\y=.ref b/\SqL X.K H a xs/\SqL X.K H b ys/\xs.length+ys.length<=sizeLine/\∀p,H p=none->Q (.ref p) (upd H p (.lst (xs++ys)))):=by
 intro pins s Y H x y v u Q I rx ry h;obtain ⟨a,b,xs,ys,rfl,rfl,ha,hb,hz,q⟩:=h;cases rx;cases ry;obtain ⟨its,r1,p1,_⟩:=I.list ha;obtain ⟨its2,r2,p2,_⟩:=I.list hb;obtain ⟨⟨cls,dd,data,sl⟩,ho,hc,n,hd⟩:=p1.isList;obtain ⟨⟨cls2,dd2,data2,sl2⟩,ho2,hc2,n2,hd2⟩:=p2.isList;simp only at hc hd hc2 hd2;subst hc hd hc2 hd2;have e:its.toArray++its2.toArray=(its++its2).toArray:=by simp
 refine concat_meets ⟨_,ho,rfl⟩ ⟨_,ho2,rfl⟩ noFill_list_add seq_list_add PySem.F.slot_list_add PySem.F.entry_list_add (PySem.F.args_list_add_2 _ _)
  (list_addW a b its.toArray its2.toArray n n2 dd dd2 sl sl2 (by rw[ap,ap,<-r1.length,<-r2.length];exact hz)) ⟨ho,ho2,?_⟩
 rw[e];exact ⟨.ref _,_,I.lnew (t':=s.toks) (r1.append r2) (by rw[aw];exact hz),rfl,q _ I.fresh⟩
theorem Ra:OpR X (binaryOp .Add) (λx y H Q=>∃a b ys,x=.ref a/\y=.ref b/\SqT X.K H a []/\SqT X.K H b ys/\Q (.ref b) H):=by
 intro pins s Y H x y v u Q I rx ry h;obtain ⟨a,b,ys,rfl,rfl,ha,hb,q⟩:=h;cases rx;cases ry;obtain ⟨its,r1,p1,_⟩:=I.tuple ha;obtain ⟨its2,r2,p2,_⟩:=I.tuple hb;obtain ⟨⟨cls,dd,data,sl⟩,ho,hc,n,hd⟩:=id p1;obtain ⟨⟨cls2,dd2,data2,sl2⟩,ho2,hc2,n2,hd2⟩:=id p2;simp only at hc hd hc2 hd2;subst hc hd hc2 hd2;cases r1;exact concat_meets ⟨_,ho,rfl⟩ ⟨_,ho2,rfl⟩ noFill_tuple_add seq_tuple_add PySem.F.slot_tuple_add PySem.F.entry_tuple_add (PySem.F.args_tuple_add_2 _ _)
   (tuple_addW0 a b _ its2.toArray n n2 dd dd2 sl sl2 (by simp)) ⟨ho,ho2,⟨.ref b,H,I,rfl,q⟩⟩
theorem Be{K:PF}{H:Hp}{F:FZ}{ds:List D}{vs:List V}(t:Reps K H F ds vs):ds=[]↔vs=[]:=by
 have:=t.length;constructor
 ·intro e;subst e;exact eM.mp this.symm
 ·intro e;subst e;exact eM.mp this
theorem Rb{x:Str}{n:Nat}(h1:n<=1000)(h:x.length * n<=sz):MulOk x (n:Int):=by
 have h2:((x.length * n:Nat):Int)<=((1000000:Nat):Int):=Int.ofNat_le.mpr h;rw[Int.natCast_mul]at h2;refine ⟨?_,?_,?_⟩
 ·rw[ba (by omega),ba (by omega)];rfl
 ·intro hn _ hh;have hp:(0:Int) < n:=by omega
  have h3:(x.length:Int)<=(2 ^ 63 - 1) / n:=(Int.le_ediv_iff_mul_le hp).mpr (Int.le_trans h2 (by decide));exact absurd hh (Int.not_lt.mpr h3)
 ·intro _ _;unfold Builtin.Str.tooLong;rw[eL,e9];exact ba (by have:sz=1000000:=rfl;omega)
theorem Bg(l:List Nat):∀(n:Nat)(acc:List Nat),(List.replicate n l.toArray).foldl (· ++ ·) acc.toArray=(acc++reps l n).toArray
 |0,acc=>by simp[reps]
 |n+1,acc=>by
  rw[dn,List.foldl_cons];have e:acc.toArray++l.toArray=(acc++l).toArray:=by simp
  rw[e,Bg l n (acc++l)];unfold reps;rw[dn,fT,List.append_assoc]
theorem Rc(n:Nat):reps ([]:List Nat) n=[]:=by
 unfold reps;induction n with
 |zero=>rfl
 |succ n ih=>rw[dn,fT,ih];rfl
theorem Rf{α:Type}(l:List α)(n:Nat):(reps l n).length=n * l.length:=len_rep l n
theorem Rg(l:List Nat)(n:Nat):Txt.mul (tx l) (n:Int)=tx (reps l n):=by
 unfold Txt.mul;by_cases h:(n:Int) < 1
 ·rw[if_pos h];have:n=0:=by omega
  subst this;rfl
 ·rw[if_neg h];by_cases h2:((n:Int)==1||(tx l).length==0)=true
  ·rw[if_pos h2];rw[bX]at h2;rcases h2 with h2 |h2
   ·have:n=1:=by have:=eq_of_beq h2;omega
    subst this;simp[reps]
   ·have h3:=eq_of_beq h2;rw[bU]at h3;have:l=[]:=eM.mp h3;subst this;rw[Rc]
  ·rw[if_neg h2];have e:=Bg l n [];rw[List.nil_append]at e;exact ez Str.mk (by simpa using e)
theorem Rh(op:Operator)(fz:Bool):OpR X (binaryOp op) (rB2 X.K (cF op fz)):=by
 intro pins s Y H x y v u Q I rx ry h;obtain ⟨F,G,a,b,r,ra,rb,h⟩:=h;generalize ea:view G a=va at h;generalize eb:view G b=vb at h;have twoI:∀{p:Int->Int->Prop},gm va vb p->∃i j,x=.int i/\y=.int j/\p i j:=λ{p} h=>by
  obtain ⟨i,j,rfl,rfl,h⟩:=Ar h;cases dO ea;cases dO eb;exact ⟨i,j,ra,rb,h⟩
 cases op with
 |Add=>
  have h:iM fz va vb G _:=h;unfold iM at h;cases va with
  |int _=>cases vb with
   |int _=>
    cases dO ea;cases dO eb;have ha:x=.int _:=ra;have hb:y=.int _:=rb;subst ha;subst hb;exact K9 pins s Y H _ _ v u Q I rx ry ⟨_,_,rfl,rfl,h.now r rfl⟩
   |_=>exact h.elim
  |str _=>cases vb with
   |str _=>
    cases eF ea;cases eF eb;obtain ⟨ha,la⟩:=ra;obtain ⟨hb,lb⟩:=rb;subst ha;subst hb;refine Lw pins s Y H _ _ v u Q I rx ry ⟨_,_,rfl,rfl,?_,?_⟩
    ·rw[bU,bU];exact dh h.1
    ·rw[iH];exact h.2.now r ⟨rfl,by rw[aw];exact h.1⟩
   |_=>exact h.elim
  |lst _=>cases vb with
   |lst _=>
    obtain ⟨p,vs,rfl,q1,t1⟩:=Rep.list r ra ea;obtain ⟨p',vs',rfl,q2,t2⟩:=Rep.list r rb eb;exact Q9 pins s Y H _ _ v u Q I rx ry ⟨p,p',vs,vs',rfl,rfl,q1,q2,by rw[<-t1.length,<-t2.length];exact dh h.1,dU h.2 r (t1.append t2)⟩
   |_=>exact h.elim
  |tup xs=>cases vb with
   |tup ys=>
    cases eE ea;cases eE eb;obtain ⟨p,vs,rfl,q1,t1⟩:=id ra;obtain ⟨p',vs',rfl,q2,t2⟩:=id rb;by_cases hx:vs=[]
    ·subst hx;have:xs=[]:=(Be t1).mpr rfl;subst this;exact Ra pins s Y H _ _ v u Q I rx ry ⟨p,p',vs',rfl,rfl,q1.sq,q2.sq,h.2.now r rb⟩
    ·refine MT pins s Y H _ _ v u Q I rx ry ⟨p,p',vs,vs',rfl,rfl,q1.sq,q2.sq,hx,by rw[<-t1.length,<-t2.length];exact dh h.1,λe=>?_,λ_=>j4 h.2 r (t1.append t2)⟩;subst e;have:ys=[]:=(Be t2).mpr rfl;subst this;have h2:=h.2;rw[de]at h2;exact h2.now r ra
   |_=>exact h.elim
  |_=>exact h.elim
 |Sub=>
  obtain ⟨i,j,rfl,rfl,h⟩:=twoI h;exact La pins s Y H _ _ v u Q I rx ry ⟨_,_,rfl,rfl,h.now r rfl⟩
 |Mult=>
  have h:iQ fz va vb G _:=h;unfold iQ at h;cases vb with
  |int _=>cases va with
   |int _=>
    cases dO ea;cases dO eb;have ha:x=.int _:=ra;have hb:y=.int _:=rb;subst ha;subst hb;exact Lb pins s Y H _ _ v u Q I rx ry ⟨_,_,rfl,rfl,h.1,h.2.now r rfl⟩
   |str _=>
    cases eF ea;cases dO eb;obtain ⟨ha,la⟩:=ra;have hb:y=.int _:=rb;subst ha;subst hb;obtain ⟨h0,h1,h2,h3⟩:=h;obtain ⟨n,rfl⟩:=cK h0;rw[e9]at h2 h3;refine N7 pins s Y H _ _ v u Q I rx ry ⟨_,_,rfl,rfl,Rb (by omega) (by rw[bU];exact h2),?_⟩;rw[Rg];exact h3.now r ⟨rfl,by rw[Rf,Nat.mul_comm];exact h2⟩
   |_=>exact h.elim
  |_=>exact h.elim
 |FloorDiv=>
  obtain ⟨i,j,rfl,rfl,h⟩:=twoI h;exact Px pins s Y H _ _ v u Q I rx ry ⟨_,_,rfl,rfl,h.1,h.2.now r rfl⟩
 |Mod=>
  obtain ⟨i,j,rfl,rfl,h⟩:=twoI h;exact Ld pins s Y H _ _ v u Q I rx ry ⟨_,_,rfl,rfl,h.1,h.2.now r rfl⟩
 |Pow=>
  obtain ⟨i,j,rfl,rfl,h⟩:=twoI h;exact Lg pins s Y H _ _ v u Q I rx ry ⟨_,_,rfl,rfl,h.1,h.2.now r rfl⟩
 |_=>exact h.elim
end
mutual
theorem pM:∀{d:D},nr d=true->deq d d=true
 |.non,_=>rfl
 |.bl b,_=>by simp[deq]
 |.int i,_=>by simp[deq]
 |.str l,_=>by simp[deq]
 |.tup xs,h=>by rw[deq];exact vd (by rw[nr]at h;exact h)
 |.lst xs,h=>by rw[deq];exact vd (by rw[nr]at h;exact h)
 |.ref a,h=>by rw[nr]at h;cases h
 |.scr a,h=>by rw[nr]at h;cases h
 |.exn a,h=>by rw[nr]at h;cases h
 |.exa _ _ _,h=>by rw[nr]at h;cases h
 |.obj _ _ _,h=>by rw[nr]at h;cases h
theorem vd:∀{ds:List D},nrs ds=true->bO ds ds=true
 |[],_=>rfl
 |d::ds,h=>by
  rw[nrs,ae]at h;rw[bO,pM h.1,vd h.2];rfl
end
theorem pN:∀(xs ys:List D),bO xs ys=((List.range (min xs.length ys.length)).all (λj=>deq (xs.getD j .non) (ys.getD j .non))&&xs.length==ys.length)
 |[],[]=>rfl
 |[],y::ys=>by simp[bO]
 |x::xs,[]=>by simp[bO]
 |x::xs,y::ys=>by
  have e:min (x::xs).length (y::ys).length=(min xs.length ys.length)+1:=by simp only[aS];omega
  rw[bO,pN xs ys,e,List.range_succ_eq_map,List.all_cons,List.all_map];simp only[List.getD_cons_zero,aS,Bool.and_assoc];congr 1;congr 1;rw[e7];simp
theorem Ri{xs ys:List D}(h:xs.length≠ys.length):bO xs ys=false:=by rw[pN];rw[show (xs.length==ys.length)=false from dQ.mpr h,ff]
theorem j5:∀{xs:List D}{i:Nat},nrs xs=true->nr (xs.getD i .non)=true
 |[],_,_=>rfl
 |x::xs,0,h=>by rw[nrs,ae]at h;exact h.1
 |x::xs,i+1,h=>by rw[nrs,ae]at h;rw[List.getD_cons_succ];exact j5 h.2
theorem j6:∀{xs:List D}{i:Nat},dpt (xs.getD i .non)<=aO xs
 |[],_=>Nat.zero_le _
 |x::xs,0=>by rw[aO,List.getD_cons_zero];omega
 |x::xs,i+1=>by rw[aO,List.getD_cons_succ];have:=@j6 xs i;omega
section
variable {X:Cx} {pins:List (Addr×Obj)} {σ:L2.St} {H:Hp} {s:Shared} {F:FZ}
mutual
theorem pO(I:Inv X pins σ H s):∀{d d':D}{v:V},nr d=true->nr d'=true->Rep X.K H F d v->Rep X.K H F d' v->d=d'
 |.non,d',v,_,n',h,h'=>by
  have h:v=.non:=h;subst h;cases d' with
  |non=>rfl
  |bl _=>simp only[Rep]at h';cases h'
  |int _=>simp only[Rep]at h';cases h'
  |ref _=>simp only[Rep]at h';cases h'
  |scr _=>rw[nr]at n';cases n'
  |exn _=>rw[nr]at n';cases n'
  |exa _ _ _=>rw[nr]at n';cases n'
  |obj _ _ _=>rw[nr]at n';cases n'
  |str _=>simp only[Rep]at h';obtain ⟨e,_⟩:=h';cases e
  |tup _=>simp only[Rep]at h';obtain ⟨_,_,e,_⟩:=h';cases e
  |lst _=>simp only[Rep]at h';obtain ⟨_,_,e,_⟩:=h';cases e
 |.bl b,d',v,_,n',h,h'=>by
  have h:v=.bl b:=h;subst h;cases d' with
  |non=>simp only[Rep]at h';cases h'
  |bl _=>simp only[Rep]at h';cases h';rfl
  |int _=>simp only[Rep]at h';cases h'
  |ref _=>simp only[Rep]at h';cases h'
  |scr _=>rw[nr]at n';cases n'
  |exn _=>rw[nr]at n';cases n'
  |exa _ _ _=>rw[nr]at n';cases n'
  |obj _ _ _=>rw[nr]at n';cases n'
  |str _=>simp only[Rep]at h';obtain ⟨e,_⟩:=h';cases e
  |tup _=>simp only[Rep]at h';obtain ⟨_,_,e,_⟩:=h';cases e
  |lst _=>simp only[Rep]at h';obtain ⟨_,_,e,_⟩:=h';cases e
 |.int b,d',v,_,n',h,h'=>by
  have h:v=.int b:=h;subst h;cases d' with
  |non=>simp only[Rep]at h';cases h'
  |bl _=>simp only[Rep]at h';cases h'
  |int _=>simp only[Rep]at h';cases h';rfl
  |ref _=>simp only[Rep]at h';cases h'
  |scr _=>rw[nr]at n';cases n'
  |exn _=>rw[nr]at n';cases n'
  |exa _ _ _=>rw[nr]at n';cases n'
  |obj _ _ _=>rw[nr]at n';cases n'
  |str _=>simp only[Rep]at h';obtain ⟨e,_⟩:=h';cases e
  |tup _=>simp only[Rep]at h';obtain ⟨_,_,e,_⟩:=h';cases e
  |lst _=>simp only[Rep]at h';obtain ⟨_,_,e,_⟩:=h';cases e
 |.str l,d',v,_,n',h,h'=>by
  obtain ⟨h,_⟩:=h;subst h;cases d' with
  |str l'=>
   obtain ⟨e,_⟩:=h';injection e with e;rw[zf e]
  |non=>simp only[Rep]at h';cases h'
  |bl _=>simp only[Rep]at h';cases h'
  |int _=>simp only[Rep]at h';cases h'
  |ref _=>simp only[Rep]at h';cases h'
  |scr _=>rw[nr]at n';cases n'
  |exn _=>rw[nr]at n';cases n'
  |exa _ _ _=>rw[nr]at n';cases n'
  |obj _ _ _=>rw[nr]at n';cases n'
  |tup _=>simp only[Rep]at h';obtain ⟨_,_,e,_⟩:=h';cases e
  |lst _=>simp only[Rep]at h';obtain ⟨_,_,e,_⟩:=h';cases e
 |.tup xs,d',v,n,n',h,h'=>by
  obtain ⟨a,vs,e,q,t⟩:=h;subst e;cases d' with
  |tup ys=>
   obtain ⟨a',vs',e,q',t'⟩:=h';injection e with e;subst e;have:=I.tuple_inj q.sq q'.sq;subst this;rw[nr]at n n';rw[vf I n n' t t']
  |lst ys=>
   obtain ⟨a',vs',e,q',t'⟩:=h';injection e with e;subst e;obtain ⟨its,_,⟨o,e1,c1,_⟩,_⟩:=I.tuple q.sq;obtain ⟨its',_,⟨o',n',e2,c2,_⟩,_⟩:=I.list q'.sq;rw[e1]at e2;cases e2;rw[c1]at c2;exact absurd c2 (by ac_rfl)
  |ref _=>rw[nr]at n';cases n'
  |scr _=>rw[nr]at n';cases n'
  |exn _=>rw[nr]at n';cases n'
  |exa _ _ _=>rw[nr]at n';cases n'
  |obj _ _ _=>rw[nr]at n';cases n'
  |str _=>simp only[Rep]at h';obtain ⟨e,_⟩:=h';cases e
  |non=>simp only[Rep]at h';cases h'
  |bl _=>simp only[Rep]at h';cases h'
  |int _=>simp only[Rep]at h';cases h'
 |.lst xs,d',v,n,n',h,h'=>by
  obtain ⟨a,vs,e,q,t⟩:=h;subst e;cases d' with
  |lst ys=>
   obtain ⟨a',vs',e,q',t'⟩:=h';injection e with e;subst e;have:=I.list_inj q.sq q'.sq;subst this;rw[nr]at n n';rw[vf I n n' t t']
  |tup ys=>
   obtain ⟨a',vs',e,q',t'⟩:=h';injection e with e;subst e;obtain ⟨its,_,⟨o,e1,c1,_⟩,_⟩:=I.tuple q'.sq;obtain ⟨its',_,⟨o',n',e2,c2,_⟩,_⟩:=I.list q.sq;rw[e1]at e2;cases e2;rw[c1]at c2;exact absurd c2 (by ac_rfl)
  |ref _=>rw[nr]at n';cases n'
  |scr _=>rw[nr]at n';cases n'
  |exn _=>rw[nr]at n';cases n'
  |exa _ _ _=>rw[nr]at n';cases n'
  |obj _ _ _=>rw[nr]at n';cases n'
  |str _=>simp only[Rep]at h';obtain ⟨e,_⟩:=h';cases e
  |non=>simp only[Rep]at h';cases h'
  |bl _=>simp only[Rep]at h';cases h'
  |int _=>simp only[Rep]at h';cases h'
 |.ref a,d',v,n,_,_,_=>by rw[nr]at n;cases n
 |.scr a,d',v,n,_,_,_=>by rw[nr]at n;cases n
 |.exn a,d',v,n,_,_,_=>by rw[nr]at n;cases n
 |.exa _ _ _,d',v,n,_,_,_=>by rw[nr]at n;cases n
 |.obj _ _ _,d',v,n,_,_,_=>by rw[nr]at n;cases n
theorem vf(I:Inv X pins σ H s):∀{ds ds':List D}{vs:List V},nrs ds=true->nrs ds'=true->Reps X.K H F ds vs->Reps X.K H F ds' vs->ds=ds'
 |[],[],_,_,_,_,_=>rfl
 |[],_::_,_,_,_,h,⟨v,r,e,_⟩=>by have h:_=[]:=h;rw[h]at e;cases e
 |_::_,[],_,_,_,⟨v,r,e,_⟩,h=>by have h:_=[]:=h;rw[h]at e;cases e
 |d::ds,d'::ds',_,n,n',⟨v,r,e,h,t⟩,⟨v',r',e',h',t'⟩=>by
  subst e;injection e' with e1 e2;subst e1;subst e2;rw[nrs,ae]at n n';rw[pO I n.1 n'.1 h h',vf I n.2 n'.2 t t']
end
theorem pP{I:Inv X pins Y H s}{ds:List D}{vs:List V}{its:List Value}(t:Reps X.K H F ds vs)(r:Vals vs its)(j:Nat)(h:j < its.length):∃v,Rep X.K H F (ds.getD j .non) v/\RelV v its[j]:=by
 have hl:j < ds.length:=by rw[t.length,r.length];exact h
 have e1:ds[j]?=some (ds.getD j .non):=by rw[List.getD_eq_getElem?_getD,bo hl];rfl
 obtain ⟨v,e2,r2⟩:=t.get e1;obtain ⟨u,e3,r3⟩:=r.get e2;rw[bo h]at e3;cases e3;exact ⟨v,r2,r3⟩
theorem Rj(a b:List Nat):(tx a==tx b)=(a==b):=by rw[e7,ai,ai];exact ⟨λh=>zf h,λh=>by rw[h]⟩
theorem Rk(I:Inv X pins Y H s){n:Nat}{A:Around}{xs ys:List D}{a a':Addr}{vs vs':List V}{its its':List Value}
  (ih:∀m,m < n->∀(A:Around)(d d':D)(v v':V)(u u':Value),A.units+m < cLine->min (dpt d) (dpt d')<=m->nr d=true->nr d'=true->Rep X.K H F d v->Rep X.K H F d' v'->RelV v u->RelV v' u'->
   SeqAt.RcAt A s u u' (deq d d')/\SeqAt.EqAt A s u u' (deq d d')/\SeqAt.RcNeAt A s u u' (!deq d d'))
  (hu:A.units+n < cLine) (hd:min (dpt (.tup xs)) (dpt (.tup ys))<=n) (n1:nr (.tup xs)=true) (n2:nr (.tup ys)=true) (h:Rep X.K H F (.tup xs) (.ref a)) (h':Rep X.K H F (.tup ys) (.ref a'))
  (pt:s.heap.IsTuple a its.toArray) (pt':s.heap.IsTuple a' its'.toArray) (rv:Vals vs its) (rv':Vals vs' its') (tt:Reps X.K H F xs vs) (tt':Reps X.K H F ys vs'):
  SeqAt.RcAt A s (.ref a) (.ref a') (deq (.tup xs) (.tup ys))/\SeqAt.EqAt A s (.ref a) (.ref a') (deq (.tup xs) (.tup ys))/\SeqAt.RcNeAt A s (.ref a) (.ref a') (!deq (.tup xs) (.tup ys)):=by
 have hd':min (aO xs+1) (aO ys+1)<=n:=by rw[dpt,dpt]at hd;exact hd
 have hn1:nrs xs=true:=by rw[nr]at n1;exact n1
 have hn2:nrs ys=true:=by rw[nr]at n2;exact n2
 have l1:its.toArray.size=xs.length:=by rw[ap,<-rv.length,tt.length]
 have l2:its'.toArray.size=ys.length:=by rw[ap,<-rv'.length,tt'.length]
 have he:∀j (h1:j < its.toArray.size) (h2:j < its'.toArray.size),SeqAt.EqAt A.in1 s its.toArray[j] its'.toArray[j] (deq (xs.getD j .non) (ys.getD j .non)):=by intro j h1 h2;obtain ⟨w1,q1,q2⟩:=pP (I:=I) tt rv j (by simpa using h1);obtain ⟨w2,q3,q4⟩:=pP (I:=I) tt' rv' j (by simpa using h2);have d1:=@j6 xs j;have d2:=@j6 ys j;exact (ih (n - 1) (by omega) A.in1 _ _ w1 w2 _ _ (by show A.units+1+(n - 1) < cLine;omega) (by omega) (j5 hn1) (j5 hn2) q1 q3 (by simpa using q2) (by simpa using q4)).2.1
 have e:deq (.tup xs) (.tup ys)=((List.range (min its.toArray.size its'.toArray.size)).all (λj=>deq (xs.getD j .non) (ys.getD j .non))&&its.toArray.size==its'.toArray.size):=by rw[deq,pN,l1,l2]
 have rc:SeqAt.RcAt A s (.ref a) (.ref a') (deq (.tup xs) (.tup ys)):=by rw[e];exact .tuples pt pt' (by omega) he
 refine ⟨rc,?_,by rw[e];exact .tuples pt pt' (by omega) he⟩;by_cases z:a=a'
 ·subst z;have:=pO I n1 n2 h h';rw[<-this,pM n1];exact .same _
 ·exact .of_refs z rc
theorem Rm(I:Inv X pins Y H s){n:Nat}{A:Around}{xs ys:List D}{a a':Addr}{vs vs':List V}{its its':List Value}
  (ih:∀m,m < n->∀(A:Around)(d d':D)(v v':V)(u u':Value),A.units+m < cLine->min (dpt d) (dpt d')<=m->nr d=true->nr d'=true->Rep X.K H F d v->Rep X.K H F d' v'->RelV v u->RelV v' u'->
   SeqAt.RcAt A s u u' (deq d d')/\SeqAt.EqAt A s u u' (deq d d')/\SeqAt.RcNeAt A s u u' (!deq d d'))
  (hu:A.units+n < cLine) (hd:min (dpt (.lst xs)) (dpt (.lst ys))<=n) (n1:nr (.lst xs)=true) (n2:nr (.lst ys)=true) (h:a=a'->xs=ys)
  (pt:s.heap.IsList a its.toArray) (pt':s.heap.IsList a' its'.toArray) (rv:Vals vs its) (rv':Vals vs' its') (tt:Reps X.K H F xs vs) (tt':Reps X.K H F ys vs'):
  SeqAt.RcAt A s (.ref a) (.ref a') (deq (.lst xs) (.lst ys))/\SeqAt.EqAt A s (.ref a) (.ref a') (deq (.lst xs) (.lst ys))/\SeqAt.RcNeAt A s (.ref a) (.ref a') (!deq (.lst xs) (.lst ys)):=by
 have hd':min (aO xs+1) (aO ys+1)<=n:=by rw[dpt,dpt]at hd;exact hd
 have hn1:nrs xs=true:=by rw[nr]at n1;exact n1
 have hn2:nrs ys=true:=by rw[nr]at n2;exact n2
 have l1:its.toArray.size=xs.length:=by rw[ap,<-rv.length,tt.length]
 have l2:its'.toArray.size=ys.length:=by rw[ap,<-rv'.length,tt'.length]
 have eqs:∀(rc:SeqAt.RcAt A s (.ref a) (.ref a') (deq (.lst xs) (.lst ys))),SeqAt.EqAt A s (.ref a) (.ref a') (deq (.lst xs) (.lst ys)):=λrc=>by
  by_cases z:a=a'
  ·have:=h z;subst z;subst this;rw[pM n1];exact .same _
  ·exact .of_refs z rc
 by_cases hl:xs.length=ys.length
 ·have he:∀j (h1:j < its.toArray.size) (h2:j < its'.toArray.size),SeqAt.EqAt A.in1 s its.toArray[j] its'.toArray[j] (deq (xs.getD j .non) (ys.getD j .non)):=by
   intro j h1 h2;obtain ⟨w1,q1,q2⟩:=pP (I:=I) tt rv j (by simpa using h1);obtain ⟨w2,q3,q4⟩:=pP (I:=I) tt' rv' j (by simpa using h2);have d1:=@j6 xs j;have d2:=@j6 ys j;exact (ih (n - 1) (by omega) A.in1 _ _ w1 w2 _ _ (by show A.units+1+(n - 1) < cLine;omega) (by omega) (j5 hn1) (j5 hn2) q1 q3 (by simpa using q2) (by simpa using q4)).2.1
  have e:deq (.lst xs) (.lst ys)=(List.range its.toArray.size).all (λj=>deq (xs.getD j .non) (ys.getD j .non)):=by rw[deq,pN,l1,hl,Nat.min_self];simp
  have rc:SeqAt.RcAt A s (.ref a) (.ref a') (deq (.lst xs) (.lst ys)):=by rw[e];exact .lists pt pt' (by rw[l1,l2];exact hl) (by omega) he
  exact ⟨rc,eqs rc,by rw[e];exact .lists pt pt' (by rw[l1,l2];exact hl) (by omega) he⟩
 ·have e:deq (.lst xs) (.lst ys)=false:=by rw[deq];exact Ri hl
  have hne:(its.toArray.size != its'.toArray.size)=true:=by rw[l1,l2];simpa using hl
  have rc:SeqAt.RcAt A s (.ref a) (.ref a') (deq (.lst xs) (.lst ys)):=by rw[e];exact .lists_lengths pt pt' hne (by omega)
  exact ⟨rc,eqs rc,by rw[e];exact .lists_lengths pt pt' hne (by omega)⟩
inductive Sh (K:PF) (H:Hp) (F:FZ) (s:Shared):D->V->Value->Prop
 |non:Sh K H F s .non .non .none
 |bl {b:Bool}:Sh K H F s (.bl b) (.bl b) (.bool b)
 |int {i:Int} {t:Tok}:Sh K H F s (.int i) (.int i) (.int i t)
 |str {l:List Nat} {t:Tok}:Sh K H F s (.str l) (.str (tx l)) (.str (tx l) t)
 |tup {ds:List D} {a:Addr} {vs:List V} {its:List Value} (p:s.heap.IsTuple a its.toArray) (r:Vals vs its) (t:Reps K H F ds vs):Sh K H F s (.tup ds) (.ref a) (.ref a)
 |lst {ds:List D} {a:Addr} {vs:List V} {its:List Value} (p:s.heap.IsList a its.toArray) (r:Vals vs its) (t:Reps K H F ds vs):Sh K H F s (.lst ds) (.ref a) (.ref a)
theorem Bh(I:Inv X pins Y H s){d:D}{v:V}{u:Value}(n:nr d=true)(h:Rep X.K H F d v)(r:RelV v u):Sh X.K H F s d v u:=by
 cases d with
 |non=>have e:v=.non:=h;subst e;have e:u=Value.none:=r;subst e;exact .non
 |bl b=>have e:v=.bl b:=h;subst e;have e:u=Value.bool b:=r;subst e;exact .bl
 |int i=>have e:v=.int i:=h;subst e;obtain ⟨t,e⟩:∃t,u=Value.int i t:=r;subst e;exact .int
 |str l=>obtain ⟨e,_⟩:=h;subst e;obtain ⟨t,e⟩:∃t,u=Value.str (tx l) t:=r;subst e;exact .str
 |tup ds=>obtain ⟨a,vs,e,q,tt⟩:=h;subst e;have e:u=Value.ref a:=r;subst e;obtain ⟨its,rv,pt,_⟩:=I.tuple q.sq;exact .tup pt rv tt
 |lst ds=>obtain ⟨a,vs,e,q,tt⟩:=h;subst e;have e:u=Value.ref a:=r;subst e;obtain ⟨its,rv,pl,_⟩:=I.list q.sq;exact .lst pl.isList rv tt
 |_=>rw[nr]at n;cases n
theorem vg(I:Inv X pins Y H s):∀(n:Nat)(A:Around)(d d':D)(v v':V)(u u':Value),A.units+n < cLine->min (dpt d) (dpt d')<=n->nr d=true->nr d'=true->Rep X.K H F d v->Rep X.K H F d' v'->RelV v u->RelV v' u'->
  SeqAt.RcAt A s u u' (deq d d')/\SeqAt.EqAt A s u u' (deq d d')/\SeqAt.RcNeAt A s u u' (!deq d d'):=by
 intro n;induction n using Nat.strongRecOn with
 |_ n ih=>
  intro A d d' v v' u u' hu hd n1 n2 h h' r r';have hu0:A.units < cLine:=by omega
  have k2:=Bh I n2 h' r';cases Bh I n1 h r with
  |non=>
   cases k2 with
   |non=>exact ⟨.none_none,.same _,.none_none⟩
   |bl=>exact ⟨.none_bool _,.none_bool _,.none_bool _⟩
   |int=>exact ⟨.none_int _ _,.none_int _ _,.none_int _ _⟩
   |str=>exact ⟨.none_str _ _,.none_str _ _,.none_str _ _⟩
   |tup p' rv' tt'=>exact ⟨.none_tuple p' hu0,.none_tuple p' hu0,.none_tuple p' hu0⟩
   |lst p' rv' tt'=>exact ⟨.none_list p' hu0,.none_list p' hu0,.none_list p' hu0⟩
  |bl=>
   cases k2 with
   |non=>exact ⟨.bool_none _,.bool_none _,.bool_none _⟩
   |bl=>exact ⟨.bool_bool _ _,.bool_bool _ _,.bool_bool _ _⟩
   |int=>exact ⟨.bool_int _ _ _,.bool_int _ _ _,.bool_int _ _ _⟩
   |str=>exact ⟨.bool_str _ _ _,.bool_str _ _ _,.bool_str _ _ _⟩
   |tup p' rv' tt'=>exact ⟨.bool_tuple _ p' hu0,.bool_tuple _ p' hu0,.bool_tuple _ p' hu0⟩
   |lst p' rv' tt'=>exact ⟨.bool_list _ p' hu0,.bool_list _ p' hu0,.bool_list _ p' hu0⟩
  |int=>
   cases k2 with
   |non=>exact ⟨.int_none _ _,.int_none _ _,.int_none _ _⟩
   |bl=>exact ⟨.int_bool _ _ _,.int_bool _ _ _,.int_bool _ _ _⟩
   |int=>exact ⟨.int_int _ _ _ _,.int_int _ _ _ _,.int_int _ _ _ _⟩
   |str=>exact ⟨.int_str _ _ _ _,.int_str _ _ _ _,.int_str _ _ _ _⟩
   |tup p' rv' tt'=>exact ⟨.int_tuple _ _ p' hu0,.int_tuple _ _ p' hu0,.int_tuple _ _ p' hu0⟩
   |lst p' rv' tt'=>exact ⟨.int_list _ _ p' hu0,.int_list _ _ p' hu0,.int_list _ _ p' hu0⟩
  |str=>
   cases k2 with
   |non=>exact ⟨.str_none _ _,.str_none _ _,.str_none _ _⟩
   |bl=>exact ⟨.str_bool _ _ _,.str_bool _ _ _,.str_bool _ _ _⟩
   |int=>exact ⟨.str_int _ _ _ _,.str_int _ _ _ _,.str_int _ _ _ _⟩
   |str=>rw[deq,<-Rj];exact ⟨.str_str _ _ _ _,.str_str _ _ _ _,.str_str _ _ _ _⟩
   |tup p' rv' tt'=>exact ⟨.str_tuple _ _ p' hu0,.str_tuple _ _ p' hu0,.str_tuple _ _ p' hu0⟩
   |lst p' rv' tt'=>exact ⟨.str_list _ _ p' hu0,.str_list _ _ p' hu0,.str_list _ _ p' hu0⟩
  |tup p rv tt=>
   cases k2 with
   |non=>exact ⟨.tuple_none p hu0,.tuple_none p hu0,.tuple_none p hu0⟩
   |bl=>exact ⟨.tuple_bool _ p hu0,.tuple_bool _ p hu0,.tuple_bool _ p hu0⟩
   |int=>exact ⟨.tuple_int _ _ p hu0,.tuple_int _ _ p hu0,.tuple_int _ _ p hu0⟩
   |str=>exact ⟨.tuple_str _ _ p hu0,.tuple_str _ _ p hu0,.tuple_str _ _ p hu0⟩
   |tup p' rv' tt'=>exact Rk I ih hu hd n1 n2 h h' p p' rv rv' tt tt'
   |lst p' rv' tt'=>exact ⟨.tuple_list p p' hu0,.tuple_list p p' hu0,.tuple_list p p' hu0⟩
  |lst p rv tt=>
   cases k2 with
   |non=>exact ⟨.list_none p hu0,.list_none p hu0,.list_none p hu0⟩
   |bl=>exact ⟨.list_bool _ p hu0,.list_bool _ p hu0,.list_bool _ p hu0⟩
   |int=>exact ⟨.list_int _ _ p hu0,.list_int _ _ p hu0,.list_int _ _ p hu0⟩
   |str=>exact ⟨.list_str _ _ p hu0,.list_str _ _ p hu0,.list_str _ _ p hu0⟩
   |tup p' rv' tt'=>exact ⟨.list_tuple p p' hu0,.list_tuple p p' hu0,.list_tuple p p' hu0⟩
   |lst p' rv' tt'=>exact Rm I ih hu hd n1 n2 (λz=>by subst z;have e:=pO I n1 n2 h h';injection e) p p' rv rv' tt tt'
end
def FA(F:FZ)(G:DH):FZ:=λa=>F a\/∃o,G a=some o
theorem Bj{H:Hp}{F:FZ}{G:DH}:Ext H F H (FA F G):=⟨λ_ f=>.inl f,λ_ _=>rfl,λ_ _ h=>h,λ_ _ _ h=>h⟩
theorem pQ{K:PF}{H:Hp}{F:FZ}{G:DH}{d:D}{v:V}(r:R K H F G)(h:Rep K H F d v):Rep K H (FA F G) (view G d) v:=by
 cases d with
 |ref p=>
  have hv:v=.ref p:=h;cases g:G p with
  |none=>
   have e:view G (.ref p)=.ref p:=by simp only[view,g]
   rw[e];exact hv
  |some o=>
   cases o with
   |lst ds=>
    have e:view G (.ref p)=.lst ds:=by simp only[view,g]
    rw[e];obtain ⟨vs,q,t⟩:=r.lst g;exact ⟨p,vs,hv,⟨.inr ⟨_,g⟩,q⟩,Reps.ext Bj t⟩
 |_=>exact Rep.ext Bj h
def rC2(K:PF)(f:D->D->(Bool->Prop)->Prop):R2:=λx y H Q=>∃F G a b,R K H F G/\Rep K H F a x/\Rep K H F b y/\f (view G a) (view G b) (λc=>PV K H F Q (.bl c) G)
section
variable {X:Cx}
theorem Bk(c:Nat)(l:List Nat):(!(Builtin.Str.occurrences (tx l) (tx [c]) 0 (tx l).length 1).isEmpty)=l.contains c:=by have:=StrLaws.found_one (tx l) c;rw[this,e7];simp
theorem Rn{pins:List (Addr×Obj)}{Y:L2.St}{H:Hp}{s:Shared}{F:FZ}(I:Inv X pins Y H s){A:Around}{x:D}{v:V}{u:Value}(hu:A.units+64 < cLine)(hx:nr x=true)(rx:Rep X.K H F x v)(ru:RelV v u):
  ∀{ds:List D}{vs:List V}{us:List Value},nrs ds=true->aO ds<=60->Reps X.K H F ds vs->Vals vs us->∃e:Value->Bool,(∀y∈us,SeqAt.EqAt A s y u (e y))/\us.any e=isIn x ds:=by
 intro ds vs us hn hd t r;let P:Value->D->Prop:=λy d=>nr d=true/\∃v,Rep X.K H F d v/\RelV v y
 have one:∀y d d',P y d->P y d'->d=d':=λy d d' ⟨n,v,q,z⟩ ⟨n',v',q',z'⟩=>by
  have e:=z.inj z';subst e;exact pO I n n' q q'
 have ⟨f,hf⟩:∃f:Value->D,∀y d,P y d->f y=d:=by refine ⟨λy=>Classical.epsilon (P y),λy d h=>?_⟩;exact one y _ _ (Classical.epsilon_spec ⟨d,h⟩) h
 refine ⟨λy=>deq (f y) x,?_,?_⟩
 ·skip;have key:∀{ds:List D}{vs:List V}{us:List Value},nrs ds=true->aO ds<=60->Reps X.K H F ds vs->Vals vs us->∀y∈us,SeqAt.EqAt A s y u (deq (f y) x):=by
   intro ds;induction ds with
   |nil=>
    intro vs us _ _ t r y hy;have t:vs=[]:=t;subst t;cases r;cases hy
   |cons d ds ih=>
    intro vs us hn hd t r y hy;obtain ⟨v1,r1,e,h1,t1⟩:=t;subst e;rw[nrs,ae]at hn;rw[aO]at hd;cases r with
    |cons p q=>
     rcases ay.mp hy with e |hy
     ·subst e;rw[hf _ d ⟨hn.1,_,h1,p⟩];exact (vg I 60 A d x v1 v _ u (by omega) (by omega) hn.1 hx h1 rx p ru).2.1
     ·exact ih hn.2 (by omega) t1 q y hy
  exact key hn hd t r
 ·have key:∀{ds:List D}{vs:List V}{us:List Value},nrs ds=true->Reps X.K H F ds vs->Vals vs us->us.any (λy=>deq (f y) x)=isIn x ds:=by
   intro ds;induction ds with
   |nil=>
    intro vs us _ t r;have t:vs=[]:=t;subst t;cases r;rfl
   |cons d ds ih=>
    intro vs us hn t r;obtain ⟨v1,r1,e,h1,t1⟩:=t;subst e;rw[nrs,ae]at hn;cases r with
    |cons p q=>
     rw[List.any_cons,hf _ d ⟨hn.1,_,h1,p⟩,ih hn.2 t1 q];rfl
  exact key hn t r
theorem jd(op:CmpOp)(hu:X.A.units+100 < cLine):OpR X (compareOp op) (rC2 X.K (aU op)):=by
 intro pins s Y H x y v u Q I rx ry h;obtain ⟨F,G,a,b,r,ra,rb,h⟩:=h;have ra':=pQ r ra;have rb':=pQ r rb;generalize view G a=va at h ra';generalize view G b=vb at h rb';have fin:∀c:Bool,PV X.K H F Q (.bl c) G->EP X pins Y Q (.bool c) s:=λc q=>⟨.bl c,H,I,rfl,q.now r rfl⟩;have hin:∀(l:List D){vs:List V}{us:List Value},inG va l->Reps X.K H (FA F G) l vs->Vals vs us->∃e:Value->Bool,(∀z∈us.toArray,SeqAt.EqAt X.A.in1 s z v (e z))/\us.toArray.any e=isIn va l:=λl {vs us} hh t rv=>by
  obtain ⟨e,he,hany⟩:=Rn I (A:=X.A.in1) (by show X.A.units+1+64 < cLine;omega) hh.1 ra' rx hh.2.1 hh.2.2 t rv;exact ⟨e,λw hw=>he w (by simpa using hw),by simpa using hany⟩
 have ii:∀{i j:Int},Rep X.K H (FA F G) (.int i) x->Rep X.K H (FA F G) (.int j) y->∃t t',v=.int i t/\u=.int j t':=λe1 e2=>by
  cases (show x=.int _ from e1);cases (show y=.int _ from e2);obtain ⟨t,e⟩:=rx;obtain ⟨t',e'⟩:=ry;exact ⟨t,t',e,e'⟩
 have ss:∀{i j:List Nat},Rep X.K H (FA F G) (.str i) x->Rep X.K H (FA F G) (.str j) y->∃t t',v=.str (tx i) t/\u=.str (tx j) t':=λe1 e2=>by
  cases e1.1;cases e2.1;obtain ⟨t,e⟩:=rx;obtain ⟨t',e'⟩:=ry;exact ⟨t,t',e,e'⟩
 have hnon:cX va=decide (x=.non):=by
  cases va with
  |non=>cases (show x=.non from ra');rfl
  |bl _=>cases (show x=.bl _ from ra');rfl
  |int _=>cases (show x=.int _ from ra');rfl
  |str _=>cases ra'.1;rfl
  |tup _=>obtain ⟨_,_,e1,_⟩:=ra';cases e1;rfl
  |lst _=>obtain ⟨_,_,e1,_⟩:=ra';cases e1;rfl
  |ref _=>cases (show x=.ref _ from ra');rfl
  |scr _=>obtain ⟨_,e1,_⟩:=ra';cases e1;rfl
  |exn _=>obtain ⟨_,_,e1,_⟩:=ra';cases e1;rfl
  |exa _ _ _=>obtain ⟨_,_,_,_,_,_,_,e1,_⟩:=ra';cases e1;rfl
  |obj _ _ _=>obtain ⟨_,_,_,e1,_⟩:=ra';cases e1;rfl
 cases op with
 |Eq=>exact (vg I 60 X.A _ _ x y v u (by omega) h.1.2.2 h.1.1 h.1.2.1 ra' rb' rx ry).1 _ _ _ _ (fin _ h.2)
 |NotEq=>exact (vg I 60 X.A _ _ x y v u (by omega) h.1.2.2 h.1.1 h.1.2.1 ra' rb' rx ry).2.2 _ _ _ _ (fin _ h.2)
 |Lt=>
  have h:iR va vb (λc=>PV X.K H F Q (.bl c) G):=h;unfold iR at h;split at h
  ·obtain ⟨t,t',e,e'⟩:=ii ra' rb';subst e e';exact lt_int (fin _ h)
  ·obtain ⟨t,t',e,e'⟩:=ss ra' rb';subst e e';exact lt_str (fin _ h)
  ·exact h.elim
 |LtE=>
  have h:iT va vb (λc=>PV X.K H F Q (.bl c) G):=h;unfold iT at h;split at h
  ·obtain ⟨t,t',e,e'⟩:=ii ra' rb';subst e e';exact le_int (fin _ h)
  ·obtain ⟨t,t',e,e'⟩:=ss ra' rb';subst e e';exact PySem.P.le_str (fin _ h)
  ·exact h.elim
 |Gt=>
  have h:iU va vb (λc=>PV X.K H F Q (.bl c) G):=h;unfold iU at h;split at h
  ·obtain ⟨t,t',e,e'⟩:=ii ra' rb';subst e e';exact gt_int (fin _ h)
  ·exact h.elim
 |GtE=>
  have h:iV va vb (λc=>PV X.K H F Q (.bl c) G):=h;unfold iV at h;split at h
  ·obtain ⟨t,t',e,e'⟩:=ii ra' rb';subst e e';exact ge_int (fin _ h)
  ·exact h.elim
 |Is=>
  have h:iW va vb (λc=>PV X.K H F Q (.bl c) G):=h;unfold iW at h;split at h
  ·cases (show y=.non from rb');exact Li pins s Y H _ _ v u Q I rx ry ⟨rfl,by rw[<-hnon];exact h.now r rfl⟩
  ·split at h
   ·cases (show x=.bl _ from ra');cases (show y=.bl _ from rb');exact Od pins s Y H _ _ v u Q I rx ry ⟨_,_,rfl,rfl,h.now r rfl⟩
   ·exact h.elim
  ·exact h.elim
 |IsNot=>
  have h:iY va vb (λc=>PV X.K H F Q (.bl c) G):=h;unfold iY at h;split at h
  ·cases (show y=.non from rb');exact Lj pins s Y H _ _ v u Q I rx ry ⟨rfl,by rw[<-hnon];exact h.now r rfl⟩
  ·split at h
   ·cases (show x=.bl _ from ra');cases (show y=.bl _ from rb');exact Oi pins s Y H _ _ v u Q I rx ry ⟨_,_,rfl,rfl,h.now r rfl⟩
   ·exact h.elim
  ·exact h.elim
 |In=>
  have h:fG va vb (λc=>PV X.K H F Q (.bl c) G):=h;unfold fG at h;split at h
  ·split at h
   ·obtain ⟨t,t',e,e'⟩:=ss ra' rb';subst e e';exact in_str (by rw[Bk];exact fin _ h)
   ·exact h.elim
  ·obtain ⟨p,vs,e2,q2,t⟩:=rb';cases e2;cases ry;obtain ⟨its,rv,pl,hz⟩:=I.list q2.sq;obtain ⟨e,he,hany⟩:=hin _ h.1 t rv;exact SeqAt.in_listAt e pl.isList he (by rw[hany];exact fin _ h.2)
  ·obtain ⟨p,vs,e2,q2,t⟩:=rb';cases e2;cases ry;obtain ⟨its,rv,pl,hz⟩:=I.tuple q2.sq;obtain ⟨e,he,hany⟩:=hin _ h.1 t rv;exact SeqAt.in_tupleAt e pl he (by rw[hany];exact fin _ h.2)
  ·exact h.elim
 |NotIn=>
  have h:fG va vb (λc=>PV X.K H F Q (.bl (!c)) G):=h;unfold fG at h;split at h
  ·split at h
   ·obtain ⟨t,t',e,e'⟩:=ss ra' rb';subst e e';exact notIn_str (by rw[Bk];exact fin _ h)
   ·exact h.elim
  ·obtain ⟨p,vs,e2,q2,t⟩:=rb';cases e2;cases ry;obtain ⟨its,rv,pl,hz⟩:=I.list q2.sq;obtain ⟨e,he,hany⟩:=hin _ h.1 t rv;exact SeqAt.notIn_listAt e pl.isList he (by rw[hany];exact fin _ h.2)
  ·obtain ⟨p,vs,e2,q2,t⟩:=rb';cases e2;cases ry;obtain ⟨its,rv,pl,hz⟩:=I.tuple q2.sq;obtain ⟨e,he,hany⟩:=hin _ h.1 t rv;exact SeqAt.notIn_tupleAt e pl he (by rw[hany];exact fin _ h.2)
  ·exact h.elim
end
section
variable {X:Cx}
def Ro(K:PF):R2:=λx y H Q=>∃F G a b,R K H F G/\Rep K H F a x/\Rep K H F b y/\cY (view G a) b (λd=>PV K H F Q d G)
theorem Bl{K:PF}{H:Hp}{F:FZ}{ds:List D}{vs:List V}{i:Int}{d:D}(t:Reps K H F ds vs)(h:atI ds i=some d):∃v,atI vs i=some v/\Rep K H F d v:=by
 unfold atI at h ⊢;rw[<-t.length];cases e:ixN ds.length i with
 |none=>rw[e]at h;cases h
 |some j=>
  rw[e]at h;obtain ⟨v,e1,r⟩:=t.get (show ds[j]?=some d from h);exact ⟨v,e1,r⟩
theorem Rp:IxR X (Ro X.K):=by
 intro value slice pins s Y H x y v u Q I rx ry h hs;obtain ⟨F,G,a,b,r,ra,rb,h⟩:=h;generalize ea:view G a=va at h;unfold cY at h;split at h
 ·obtain ⟨p,vs,e,q,t⟩:=Rep.list r ra ea;subst e;have e2:y=.int _:=rb;subst e2;split at h
  ·rename_i d hd;obtain ⟨w,hw,rw'⟩:=Bl t hd;exact M7 value slice pins s Y H _ _ v u Q I rx ry ⟨p,vs,_,w,rfl,rfl,q,hw,h.now r rw'⟩ hs
  ·exact h.elim
 ·cases eE ea;obtain ⟨p,vs,e,q,t⟩:=ra;subst e;have e2:y=.int _:=rb;subst e2;split at h
  ·rename_i d hd;obtain ⟨w,hw,rw'⟩:=Bl t hd;exact M8 value slice pins s Y H _ _ v u Q I rx ry ⟨p,vs,_,w,rfl,rfl,q.sq,hw,h.now r rw'⟩ hs
  ·exact h.elim
 ·cases eF ea;obtain ⟨e,hl⟩:=ra;subst e;have e2:y=.int _:=rb;subst e2;split at h
  ·rename_i c hc;exact M9 value slice pins s Y H _ _ v u Q I rx ry ⟨_,_,c,rfl,rfl,by rw[bU];exact dh hl,hc,h.now r ⟨rfl,by show 1<=sz;decide⟩⟩ hs
  ·exact h.elim
 ·exact h.elim
theorem Rq(l:List Nat)(lo hi:Option Int):Txt.slice (tx l) lo hi=tx (cut l lo hi):=by
 have e:Builtin.Str.strSliceIndices lo hi 1 (tx l).length=sliceRange (sliceBounds lo hi none (tx l).length).1 (sliceBounds lo hi none (tx l).length).2.1 1:=by unfold Builtin.Str.strSliceIndices sliceBounds;cases lo <;> cases hi <;> rfl
 obtain ⟨h1,h2,h3⟩:=yQ lo hi (tx l).length;rw[h1,h2,sliceRange_one]at e;have e2:((Builtin.Str.strSliceIndices lo hi 1 (tx l).length).filterMap ((tx l).cps[·]?))=cut l lo hi:=by rw[e,pick_run];unfold cut;rw[bU]
 unfold Txt.slice;split
 ·rename_i hh;rw[ae]at hh;have hl:=eq_of_beq hh.2;rw[e,ah,List.length_range,bU]at hl;have b1:HT.sIx l.length l.length hi<=l.length:=HT.yK _ _ (am _) hi;unfold cut;by_cases hz:l=[]
  ·subst hz;simp
  ·have hp:0 < l.length:=List.length_pos_iff.mpr hz;have e3:HT.sIx l.length 0 lo=0:=by omega
   have e4:HT.sIx l.length l.length hi=l.length:=by omega
   rw[e3,e4];simp
 ·rw[e2]
theorem Rt{α:Type}(xs:List α)(lo hi:Option Int):(cut xs lo hi).length<=xs.length:=by unfold cut;rw[List.length_take,fh];omega
theorem Ru{prog:Program}{w:World}{A:Around}{E:Value->Shared->Prop}{s:Shared}{t sl:Addr}{items:Array Value}{vl vu:Value}{lo hi:Option Int}{Q:Value->Shared->Prop}(ht:IsTup s.heap t items)(hs:s.heap.IsSliceOf sl vl vu .none)(pl:IsPart vl lo)(pu:IsPart vu hi)
  (hw:HT.sIx items.size 0 lo=0/\HT.sIx items.size items.size hi=items.size) (h:Q (.ref t) s):wpAny (model prog w) A (getItem (.ref t) (.ref sl)) Q E s:=by
 obtain ⟨os,hos,hcs,hds⟩:=id hs;have hTs:s.TypeIs (.ref sl) "slice":=⟨os,hos,hcs⟩;unfold getItem;try with_reducible refine df ?_
 first |refine af (av ?_) |skip
 refine af (wpAny_sequenceKey ht.typeIs (by decide) ?_);refine af (d5 (name:=Str.ofString "__getitem__") ht.typeIs cq
  (fo cq ht.typeIs entry_tuple_getitem ?_ (args_tuple_getitem _ _)))
 show wpAny _ _ (Builtin.Tuple.tupleItemsOf (.ref t) >>= _) _ _ s;refine af (tupleItemsOf_ ht ?_);refine af (wpAny_typeOf hTs ?_);rw[if_pos (by decide)];refine af (HT.yM hs pl pu ?_);have hyes:(((HT.sIx items.size 0 lo:Nat):Int)==0&&(1:Int)==1&&(HT.sIx items.size items.size hi - HT.sIx items.size 0 lo)==items.size)=true:=by rw[hw.1,hw.2];simp
 show wpAny _ _ (if (((HT.sIx items.size 0 lo:Nat):Int)==0&&(1:Int)==1&&(HT.sIx items.size items.size hi - HT.sIx items.size 0 lo)==items.size)=true then _ else _) _ _ s;rw[if_pos hyes];refine af (m:=Builtin.Tuple.tupleIsExact _) (af (wpAny_typeOf ht.typeIs (av ?_)));rw[if_pos (by decide)];exact af (fS (av ⟨_,rfl,av h⟩))
theorem Rv:SlR X (λx lo hi H Q=>∃a xs,x=.ref a/\SqT X.K H a xs/\(HT.sIx xs.length 0 lo=0/\HT.sIx xs.length xs.length hi=xs.length)/\Q (.ref a) H):=by
 intro pins s Y H x v vl vu lo hi sl Q I rx hs pl pu h;obtain ⟨a,xs,rfl,hx,hw,q⟩:=h;cases rx;obtain ⟨its,r,ht,hz⟩:=I.tuple hx;have hlen:its.toArray.size=xs.length:=by rw[ap];exact r.length.symm
 exact ⟨"tuple",_,cq.lookup,ht.typeIs,Ru ht hs pl pu (by rw[hlen];exact hw) ⟨.ref a,H,I,rfl,q⟩⟩
theorem Bm{K:PF}{H:Hp}{F:FZ}:∀ns:List Int,Reps K H F (ns.map D.int) (ns.map V.int)
 |[]=>rfl
 |n::ns=>⟨_,_,rfl,rfl,Bm ns⟩
def Rw(K:PF)(fz:Bool):V->Option Int->Option Int->Hp->VK->Prop:=λx lo hi H Q=>∃F G a,R K H F G/\Rep K H F a x/\dR fz (view G a) lo hi G (PV K H F Q)
theorem Bo{K:PF}{H:Hp}{F:FZ}{ds:List D}{vs:List V}(t:Reps K H F ds vs)(lo hi:Option Int):Reps K H F (cut ds lo hi) (dJ vs lo hi):=t.cut lo hi
theorem Rx(fz:Bool):SlR X (Rw X.K fz):=by
 intro pins s Y H x v vl vu lo hi sl Q I rx hs pl pu h;obtain ⟨F,G,a,r,ra,h⟩:=h;generalize ea:view G a=va at h;unfold dR at h;split at h
 ·obtain ⟨p,vs,e,q,t⟩:=Rep.list r ra ea;subst e;exact yR pins s Y H _ v vl vu lo hi sl Q I rx hs pl pu ⟨p,vs,rfl,q,dU h r (Bo t lo hi)⟩
 ·rename_i ns;have ea':a=.scr ns:=by
   cases a with
   |ref p=>
    unfold view at ea;cases g:G p with
    |none=>simp only[g]at ea;cases ea
    |some o=>cases o;simp only[g]at ea;cases ea
   |_=>exact ea
  subst ea';obtain ⟨p,e,q⟩:=ra;subst e;refine yR pins s Y H _ v vl vu lo hi sl Q I rx hs pl pu ⟨p,_,rfl,q.sq,dU h r ?_⟩;have e2:dJ (ns.map V.int) lo hi=(cut ns lo hi).map V.int:=by unfold dJ cut;rw[ah,List.map_take,List.map_drop]
  rw[e2];exact Bm (cut ns lo hi)
 ·cases eE ea;obtain ⟨p,vs,e,q,t⟩:=id ra;subst e;by_cases hw:HT.sIx vs.length 0 lo=0/\HT.sIx vs.length vs.length hi=vs.length
  ·refine Rv pins s Y H _ v vl vu lo hi sl Q I rx hs pl pu ⟨p,vs,rfl,q.sq,hw,?_⟩;refine h.now r ?_;rename_i ds;have:cut ds lo hi=ds:=by
    unfold cut;rw[t.length,hw.1,hw.2];simp[<-t.length]
   rw[this];exact ra
  ·exact MN pins s Y H _ v vl vu lo hi sl Q I rx hs pl pu ⟨p,vs,rfl,q.sq,hw,j4 h r (Bo t lo hi)⟩
 ·cases eF ea;obtain ⟨e,hl⟩:=ra;subst e;refine Oh pins s Y H _ v vl vu lo hi sl Q I rx hs pl pu ⟨_,rfl,by rw[bU];exact dh hl,?_⟩;rw[Rq];exact h.now r ⟨rfl,bi (Rt _ _ _) hl⟩
 ·exact h.elim
theorem Bp{K:PF}{H:Hp}{F:FZ}{G:DH}{d:D}{v:V}{b:Bool}(r:R K H F G)(h:Rep K H F d v)(e:truth (view G d)=some b):nW K v H b:=by
 have h':=pQ r h;generalize view G d=w at e h';cases w with
 |non=>have e1:v=.non:=h';subst e1;simp only[truth,aE]at e;exact e.symm
 |bl x=>have e1:v=.bl x:=h';subst e1;simp only[truth,aE]at e;exact e.symm
 |int i=>have e1:v=.int i:=h';subst e1;simp only[truth,aE]at e;exact e.symm
 |str l=>
  obtain ⟨e1,hl⟩:=h';subst e1;simp only[truth,aE]at e;refine ⟨by rw[bU];exact dh hl,?_⟩;rw[bU,<-e];cases l with
  |nil=>rfl
  |cons c l=>simp;omega
 |tup l=>
  obtain ⟨a,vs,e1,q,t⟩:=h';subst e1;simp only[truth,aE]at e;refine .inr (.inl ⟨vs,q.sq,?_⟩);rw[<-e];cases l with
  |nil=>have t:vs=[]:=t;subst t;rfl
  |cons c l=>obtain ⟨_,_,e2,_⟩:=t;subst e2;rfl
 |lst l=>
  obtain ⟨a,vs,e1,q,t⟩:=h';subst e1;simp only[truth,aE]at e;refine .inl ⟨vs,q.sq,?_⟩;rw[<-e];cases l with
  |nil=>have t:vs=[]:=t;subst t;rfl
  |cons c l=>obtain ⟨_,_,e2,_⟩:=t;subst e2;rfl
 |ref a=>simp[truth]at e
 |scr a=>simp[truth]at e
 |exn a=>simp[truth]at e
 |exa _ _ _=>simp[truth]at e
 |obj _ _ _=>simp[truth]at e
theorem pR{K:PF}{H:Hp}{F:FZ}:∀{ds:List D}{vs:List V}{bs:List Bool},bools ds=some bs->Reps K H F ds vs->vs=bs.map V.bl
 |[],_,bs,e,h=>by
  simp only[bools,aE]at e;subst e;exact h
 |d::ds,_,bs,e,⟨v,w,e1,h,t⟩=>by
  cases d with
  |bl b=>
   simp only[bools]at e;cases q:bools ds with
   |none=>rw[q]at e;cases e
   |some s=>
    rw[q]at e;cases e;have hv:v=.bl b:=h;rw[e1,hv,pR q t];rfl
  |_=>simp[bools]at e
theorem bC{K:PF}{H:Hp}{F:FZ}{d:D}{vs:List V}(t:Reps K H F [d] vs):∃v,vs=[v]/\Rep K H F d v:=by obtain ⟨v,r,e,h,t⟩:=t;have t:r=[]:=t;subst t;exact ⟨v,e,h⟩
def je(K:PF)(f:Bf):List V->Hp->VK->Prop:=λvs H Q=>∃F G ds,R K H F G/\Reps K H F ds vs/\opB f (ds.map (view G)) (λd=>PV K H F Q d G)
theorem map_one{G:DH}{ds:List D}{x:D}(h:ds.map (view G)=[x]):∃d,ds=[d]/\view G d=x:=by
 match ds,h with
 |[d],h=>exact ⟨d,rfl,by simpa using h⟩
theorem Ry:bN X (.builtin "len") (je X.K .len):=by
 intro pins s Y H xs us Q I rs h;obtain ⟨F,G,ds,r,t,h⟩:=h;generalize ea:ds.map (view G)=va at h;simp only[opB,tD]at h;split at h
 ·obtain ⟨d,rfl,ev⟩:=map_one ea;obtain ⟨v,rfl,rv⟩:=bC t;obtain ⟨a,vs,e,q,t'⟩:=Rep.list r rv ev;subst e;exact yS pins s Y H _ us Q I rs ⟨a,vs,rfl,.inl q,by rw[<-t'.length];exact h.now r rfl⟩
 ·obtain ⟨d,rfl,ev⟩:=map_one ea;obtain ⟨v,rfl,rv⟩:=bC t;cases eE ev;obtain ⟨a,vs,e,q,t'⟩:=rv;subst e;exact yS pins s Y H _ us Q I rs ⟨a,vs,rfl,.inr q.sq,by rw[<-t'.length];exact h.now r rfl⟩
 ·obtain ⟨d,rfl,ev⟩:=map_one ea;obtain ⟨v,rfl,rv⟩:=bC t;cases eF ev;obtain ⟨e,hl⟩:=rv;subst e;exact Ni pins s Y H _ us Q I rs ⟨_,rfl,by rw[bU];exact dh hl,by rw[bU];exact h.now r rfl⟩
 ·exact h.elim
theorem Rz (hc:X.calm=true):bN X (.builtin "all") (je X.K .all):=by
 intro pins s Y H xs us Q I rs h;obtain ⟨F,G,ds,r,t,h⟩:=h;generalize ea:ds.map (view G)=va at h;simp only[opB,oW]at h;split at h
 ·obtain ⟨d,rfl,ev⟩:=map_one ea;obtain ⟨v,rfl,rv⟩:=bC t;obtain ⟨a,vs,e,q,t'⟩:=Rep.list r rv ev;subst e;split at h
  ·rename_i bs hb;have e2:=pR hb t';subst e2;exact Oc hc pins s Y H _ us Q I rs ⟨a,bs,rfl,q,h.now r rfl⟩
  ·exact h.elim
 ·exact h.elim
theorem RB:bN X (.type "int") (je X.K .int):=by
 intro pins s Y H xs us Q I rs h;obtain ⟨F,G,ds,r,t,h⟩:=h;generalize ea:ds.map (view G)=va at h;simp only[opB,oX]at h;split at h
 ·obtain ⟨d,rfl,ev⟩:=map_one ea;obtain ⟨v,rfl,rv⟩:=bC t;cases tB ev;have e:v=.bl _:=rv;subst e;exact yC pins s Y H _ us Q I rs (.inr ⟨_,rfl,h.now r rfl⟩)
 ·obtain ⟨d,rfl,ev⟩:=map_one ea;obtain ⟨v,rfl,rv⟩:=bC t;cases dO ev;have e:v=.int _:=rv;subst e;exact yC pins s Y H _ us Q I rs (.inl ⟨_,rfl,h.now r rfl⟩)
 ·obtain ⟨d,rfl,ev⟩:=map_one ea;obtain ⟨v,rfl,rv⟩:=bC t;cases eF ev;obtain ⟨e,hl⟩:=rv;subst e;split at h
  ·rename_i n hn;exact Oe pins s Y H _ us Q I rs ⟨_,n,rfl,hn,by rw[bU];exact h.1,h.2.now r rfl⟩
  ·exact h.elim
 ·exact h.elim
theorem RC:bN X (.type "tuple") (je X.K .tuple):=by
 intro pins s Y H xs us Q I rs h;obtain ⟨F,G,ds,r,t,h⟩:=h;generalize ea:ds.map (view G)=va at h;simp only[opB,tH]at h;split at h
 ·obtain ⟨d,rfl,ev⟩:=map_one ea;obtain ⟨v,rfl,rv⟩:=bC t;obtain ⟨a,vs,e,q,t'⟩:=Rep.list r rv ev;subst e;exact yV pins s Y H _ us Q I rs ⟨a,vs,rfl,.inl ⟨q,j4 h r t'⟩⟩
 ·obtain ⟨d,rfl,ev⟩:=map_one ea;obtain ⟨v,rfl,rv⟩:=bC t;cases eE ev;obtain ⟨a,vs,e,q,t'⟩:=id rv;subst e;exact yV pins s Y H _ us Q I rs ⟨a,vs,rfl,.inr ⟨q.sq,h.now r rv⟩⟩
 ·exact h.elim
def Bq(K:PF)(fz:Bool)(f:Lf):List V->Hp->VK->Prop:=λvs H Q=>∃F G ds,R K H F G/\Reps K H F ds vs/\cG f (ds.map (view G)) (λxs=>mk fz xs G (PV K H F Q))
theorem RD(l:List Nat):∀(us:List Value),us.length=l.length->(∀(j:Nat)(v:Value),us[j]?=some v->∃(c:Nat)(u:Tok),l[j]?=some c/\v=Value.str ⟨#[c]⟩ u)->Vals (l.map λc=>V.str (tx [c])) us:=by
 induction l with
 |nil=>intro us h _;cases us with |nil=>exact .nil |cons _ _=>cases h
 |cons c l ih=>
  intro us h q;cases us with
  |nil=>cases h
  |cons u us=>
   obtain ⟨c',t,e1,e2⟩:=q 0 u (by simp);have e1:c=c':=by simpa using e1
   subst e1;exact .cons ⟨t,e2⟩ (ih us (by simpa using h) λj v hv=>by simpa using q (j+1) v (by simpa using hv))
theorem RG (hc:X.calm=true):bN X (.type "list") (λxs H Q=>∃l:List Nat,xs=[.str (tx l)]/\l.length<=sizeLine/\∀p,H p=none->Q (.ref p) (upd H p (.lst (l.map λc=>V.str (tx [c]))))):=by
 intro pins s Y H xs us Q I r h;obtain ⟨l,rfl,hz,q⟩:=h;obtain ⟨u,rfl,t,rfl⟩:=vals1 r;have hz':(tx l).cps.size<=sizeLine:=by simpa using hz
 refine call_list_str (hn:=hz') (I.ok.hd hc) (tx l) t λh' tk acc' c' kp e hi=>?_;have hv:Vals (l.map λc=>V.str (tx [c])) acc'.toList:=by
  refine RD l _ ?_ λj v hv=>?_
  ·rw[fi,hi.1];simp
  ·obtain ⟨c,u,e1,e2⟩:=hi.2 j v (by rw[<-Array.getElem?_toList];exact hv);exact ⟨c,u,by simpa using e1,e2⟩
 exact ⟨.ref (~~~s),_,I.laid (t':=tk) kp (am _) (show ObjOk X.prog X.w _ h' _ (.lst _) from ⟨by rw[ah];exact hz,acc'.toList,c',hv,by rw[Array.toArray_toList];exact e⟩),rfl,q _ (I.hok.fresh (am _))⟩
theorem vh{K:PF}{H:Hp}{F:FZ}:∀l:List Nat,Reps K H F (l.map λc=>D.str [c]) (l.map λc=>V.str (tx [c]))
 |[]=>rfl
 |c::l=>⟨_,_,rfl,⟨rfl,by show 1<=sz;decide⟩,vh l⟩
theorem RJ (hc:X.calm=true) (fz:Bool):bN X (.type "list") (Bq X.K fz .list):=by
 intro pins s Y H xs us Q I rs h;obtain ⟨F,G,ds,r,t,h⟩:=h;generalize ea:ds.map (view G)=va at h;simp only[cG,tQ]at h;split at h
 ·obtain ⟨d,rfl,ev⟩:=map_one ea;obtain ⟨v,rfl,rv⟩:=bC t;obtain ⟨a,vs,e,q,t'⟩:=Rep.list r rv ev;subst e;exact yU pins s Y H _ us Q I rs ⟨a,vs,rfl,.inl q,dU h r t'⟩
 ·obtain ⟨d,rfl,ev⟩:=map_one ea;obtain ⟨v,rfl,rv⟩:=bC t;cases eE ev;obtain ⟨a,vs,e,q,t'⟩:=id rv;subst e;exact yU pins s Y H _ us Q I rs ⟨a,vs,rfl,.inr q.sq,dU h r t'⟩
 ·obtain ⟨d,rfl,ev⟩:=map_one ea;obtain ⟨v,rfl,rv⟩:=bC t;cases eF ev;obtain ⟨e,hl⟩:=rv;subst e;exact RG hc pins s Y H _ us Q I rs ⟨_,rfl,dh hl,dU h r (vh _)⟩
 ·exact h.elim
theorem Br{K:PF}{H:Hp}{F:FZ}:∀{ds:List D}{vs:List V}{ls:List (List Nat)},bf ds=some ls->Reps K H F ds vs->vs=(ls.map tx).map V.str
 |[],_,bs,e,h=>by
  simp only[bf,aE]at e;subst e;exact h
 |d::ds,_,bs,e,⟨v,w,e1,h,t⟩=>by
  cases d with
  |str b=>
   simp only[bf]at e;cases q:bf ds with
   |none=>rw[q]at e;cases e
   |some s=>
    rw[q]at e;cases e;obtain ⟨hv,_⟩:=h;rw[e1,hv,Br q t];rfl
  |_=>simp[bf]at e
theorem aeb{ds:List D}{ls:List (List Nat)}(h0:eH ds=none)(h1:bf ds=some ls):ls≠[]:=by
 rintro rfl;cases ds with
 |nil=>simp[eH]at h0
 |cons x y=>cases x <;> simp only[bf]at h1 <;> first | (cases h1;done) | (cases hd:bf y <;> rw[hd]at h1 <;> cases h1)
theorem RK:bN X (.type "str") (je X.K .str):=by
 intro pins s Y H xs us Q I r h;obtain ⟨F,G,ds,rr,t,h⟩:=h;generalize ea:ds.map (view G)=va at h;simp only[opB,tO]at h;split at h
 ·rename_i i;obtain ⟨d',rfl,ev⟩:=map_one ea;obtain ⟨v',rfl,rv⟩:=bC t;have e1:=dO ev;subst e1;have e2:v'=.int i:=rv;subst e2;obtain ⟨⟨h0,h1⟩,h2⟩:=h;have hm:(i.toNat:Int)=i:=Int.toNat_of_nonneg h0;have hl:(aM i.toNat).length<=3:=by
   have:=digits_le ⟨i.toNat,by omega⟩;unfold aM;rw[fi];exact this
  have hs:=h2.now rr (v:=.str (tx (aM i.toNat))) ⟨rfl,by have hz:sz=1000000:=rfl;omega⟩;have ht:tx (aM i.toNat)=gh i.toNat:=(rT _).symm;rw[ht]at hs;exact Py pins s Y H _ us Q I r ⟨i.toNat,by rw[hm],by omega,hs⟩
 ·exact h.elim
def di:D->Option String
 |.non=>some "NoneType"
 |.bl _=>some "bool"
 |.int _=>some "int"
 |.str _=>some "str"
 |.tup _=>some "tuple"
 |.lst _=>some "list"
 |_=>none
theorem RL{K:PF}{H:Hp}{F:FZ}{G:DH}{d:D}{v:V}{T:String}(r:R K H F G)(h:Rep K H F d v)(e:di (view G d)=some T):TyOf K H v (.type T):=by
 have h':=pQ r h;generalize view G d=w at e h';cases w with
 |non=>have e1:v=.non:=h';subst e1;simp only[di,aE]at e;subst e;exact .non
 |bl x=>have e1:v=.bl x:=h';subst e1;simp only[di,aE]at e;subst e;exact .bl x
 |int i=>have e1:v=.int i:=h';subst e1;simp only[di,aE]at e;subst e;exact .int i
 |str l=>obtain ⟨e1,hl⟩:=h';subst e1;simp only[di,aE]at e;subst e;exact .str _
 |tup l=>obtain ⟨a,vs,e1,q,t⟩:=h';subst e1;simp only[di,aE]at e;subst e;exact .tup q.it
 |lst l=>obtain ⟨a,vs,e1,q,t⟩:=h';subst e1;simp only[di,aE]at e;subst e;exact .lst q.2
 |ref a=>simp[di]at e
 |scr a=>simp[di]at e
 |exn a=>simp[di]at e
 |exa _ _ _=>simp[di]at e
 |obj _ _ _=>simp[di]at e
def RM (K:PF):Prop:=∀T t:String,T∈["NoneType","bool","int","str","tuple","list"]->fH t=true->PySem.W.kitOne K (.type T) (.type t)=some (T==t||(T=="bool"&&t=="int"))
theorem RN{K:PF}:RM K:=by intro T t hT ht;simp only[ay,br,ej]at hT;simp only[fH,bX,ai]at ht;rcases hT with rfl |rfl |rfl |rfl |rfl |rfl <;> rcases ht with (((rfl |rfl) |rfl) |rfl) |rfl <;> (with_unfolding_all rfl)
theorem RP {d:D} {t:String} {b:Bool} (e:isT t d=some b):∃T,di d=some T/\T∈["NoneType","bool","int","str","tuple","list"]/\(fH t=true->b=(T==t||(T=="bool"&&t=="int"))):=by
 have comm:∀a b:String,(a==b)=(b==a):=λa b=>by rw[e7,ai,ai];exact ⟨Eq.symm,Eq.symm⟩
 cases d with
 |non=>
  refine ⟨"NoneType",rfl,by simp,λht=>?_⟩;simp only[isT,aE]at e;simp only[fH,bX,ai]at ht;subst e;rcases ht with (((rfl |rfl) |rfl) |rfl) |rfl <;> rfl
 |bl _=>
  refine ⟨"bool",rfl,by simp,λht=>?_⟩;simp only[isT,aE]at e;rw[<-e,comm t "bool"];rfl
 |int _=>
  refine ⟨"int",rfl,by simp,λht=>?_⟩;simp only[isT,aE]at e;rw[<-e,comm t "int"];simp
 |str _=>
  refine ⟨"str",rfl,by simp,λht=>?_⟩;simp only[isT,aE]at e;rw[<-e,comm t "str"];simp
 |tup _=>
  refine ⟨"tuple",rfl,by simp,λht=>?_⟩;simp only[isT,aE]at e;rw[<-e,comm t "tuple"];simp
 |lst _=>
  refine ⟨"list",rfl,by simp,λht=>?_⟩;simp only[isT,aE]at e;rw[<-e,comm t "list"];simp
 |ref a=>simp[isT]at e
 |scr a=>simp[isT]at e
 |exn a=>simp[isT]at e
 |exa _ _ _=>simp[isT]at e
 |obj _ _ _=>simp[isT]at e
theorem Bt(s:List Nat):∀ls:List (List Nat),Str.join (tx s) (ls.map tx)=tx (cZ s ls)
 |[]=>rfl
 |[x]=>rfl
 |x::y::r=>by
  have ih:=Bt s (y::r);show tx x++tx s++Str.join (tx s) ((y::r).map tx)=_;rw[ih,iH,iH];rfl
theorem vm(s:List Nat):∀ls:List (List Nat),(cZ s ls).length<=(ls.map (·.length)).sum+ls.length * s.length
 |[]=>by simp[cZ]
 |[x]=>by simp[cZ]
 |x::y::r=>by
  have ih:=vm s (y::r);simp only[cZ,aw,ci,List.sum_cons,aS]at ih ⊢;have:(r.length+1+1) * s.length=(r.length+1) * s.length+s.length:=by rw[Nat.succ_mul]
  omega
def jf(K:PF)(m:Mf):V->List V->Hp->VK->Prop:=λx vs H Q=>∃F G d ds,R K H F G/\Rep K H F d x/\Reps K H F ds vs/\opM m d ds G (PV K H F Q)
theorem RQ:MtR X "str.join" (jf X.K .join):=by
 intro pins s Y H x xs v us Q I rx rs h;obtain ⟨F,G,d,ds,r,rd,t,h⟩:=h;simp only[opM]at h;generalize ea:ds.map (view G)=va at h;simp only[o8]at h;split at h
 ·obtain ⟨d',rfl,ev⟩:=map_one ea;obtain ⟨v',rfl,rv⟩:=bC t;obtain ⟨a,vs,e,q,t'⟩:=Rep.list r rv ev;subst e;obtain ⟨e1,hl⟩:=rd;subst e1;split at h
  ·rename_i ls hls;have e2:=Br hls t';subst e2;refine NT pins s Y H _ _ v us Q I rx rs ⟨_,a,_,rfl,rfl,q,?_,?_⟩
   ·have hz:=h.1;rw[fg,ah,bU,show (λx:Str=>x.length)∘tx=λl=>l.length from funext bU];have:sz=1000000:=rfl;omega
   ·rw[Bt];exact h.2.now r ⟨rfl,bi (vm _ _) h.1⟩
  ·exact h.elim
 ·exact h.elim
theorem Bu:∀(ls:List (Str×Tok))(ps:List (List Nat)),(ls.map (·.1))=ps.map tx->Vals (ps.map λp=>V.str (tx p)) (strValues ls)
 |[],[],_=>.nil
 |[],_::_,h=>nomatch h
 |_::_,[],h=>nomatch h
 | (a,t)::ls,p::ps,h=>by
  have h1:a=tx p:=(List.cons.inj h).1;have h2:ls.map (·.1)=ps.map tx:=(List.cons.inj h).2;subst h1;exact .cons ⟨t,rfl⟩ (Bu ls ps h2)
theorem Bv{K:PF}{H:Hp}{F:FZ}:∀(ps:List (List Nat)),(∀p∈ps,p.length<=sz)->Reps K H F (ps.map D.str) (ps.map λp=>V.str (tx p))
 |[],_=>rfl
 |p::ps,h=>⟨_,_,rfl,⟨rfl,h p (bS ..)⟩,Bv ps λq hq=>h q (a9 _ hq)⟩
theorem m_split:MtR X "str.split" (jf X.K .split):=by
 intro pins s Y H x xs v us Q I rx rs h;obtain ⟨F,G,d,ds,r,rd,t,h⟩:=h;simp only[opM,tR]at h;split at h
 ·rename_i l c;obtain ⟨v',rfl,rv⟩:=bC t;obtain ⟨e1,_⟩:=rd;subst e1;obtain ⟨e2,_⟩:=rv;subst e2;obtain ⟨tt,rfl⟩:=rx;obtain ⟨u,rfl,ru⟩:=vals1 rs;obtain ⟨tu,rfl⟩:=ru;have hl:(tx l).length+2<=sizeLine:=by rw[bU];exact dh h.1.2
  refine PySem.call_split rfl hl λls tk e=>?_;have hv:=Bu ls (az c l) (e.trans (Qy l c h.1.1));have hn:((az c l).map λp=>V.str (tx p)).length<=sizeLine:=by rw[ah];have:=zZ c l;have:=h.1.2;exact dh (by omega)
  exact ⟨.ref (~~~s),_,I.laid (t':=tk) (λb o e=>ag _ e) (am _) (show ObjOk X.prog X.w _ _ _ (.lst _) from ⟨hn,strValues ls,0,hv,aI _ rfl⟩),rfl,
   dU (fz:=true) h.2 r (Bv _ λp hp=>by have:=split_len c l p hp;have:=h.1.2;omega) _ (I.hok.fresh (am _))⟩
 ·exact h.elim
theorem RT:MtM X "list.append" (jf X.K .append):=by
 intro pins s Y H x xs v us Q I rx rs h;obtain ⟨F,G,d,ds,r,rd,t,h⟩:=h;simp only[opM,o9]at h;split at h
 ·obtain ⟨v',rfl,rv⟩:=bC t;have e1:x=.ref _:=rd;subst e1;split at h
  ·rename_i ds0 hg;obtain ⟨vs,q,t'⟩:=r.lst hg;refine Np pins s Y H _ _ v us Q I rx rs ⟨_,vs,v',rfl,rfl,q,?_,?_⟩
   ·rw[<-t'.length];exact aT h.1 szl
   ·exact h.2 _ _ _ (oV r hg) (r.write hg (t'.append (Reps.cons rv Reps.nil))) rfl
  ·exact h.elim
 ·exact h.elim
theorem RV:MtR X "list.count" (jf X.K .count):=by
 intro pins s Y H x xs v us Q I rx rs h;obtain ⟨F,G,d,ds,r,rd,t,h⟩:=h;simp only[opM]at h;generalize ea:view G d=va at h;simp only[pq]at h;split at h
 ·obtain ⟨a,vs,e,q,t'⟩:=Rep.list r rd ea;subst e;obtain ⟨v',rfl,rv⟩:=bC t;have e2:v'=.bl true:=rv;subst e2;split at h
  ·rename_i bs hbs;have e3:=pR hbs t';subst e3;exact Pq pins s Y H _ _ v us Q I rx rs ⟨a,bs,rfl,rfl,q,h.now r rfl⟩
  ·exact h.elim
 ·exact h.elim
theorem RW:MtR X "list.index" (jf X.K .index):=by
 intro pins s Y H x xs v us Q I rx rs h;obtain ⟨F,G,d,ds,r,rd,t,h⟩:=h;simp only[opM]at h;generalize ea:view G d=va at h;simp only[pA]at h;split at h
 ·obtain ⟨a,vs,e,q,t'⟩:=Rep.list r rd ea;subst e;obtain ⟨v',rfl,rv⟩:=bC t;have e2:v'=.bl true:=rv;subst e2;split at h
  ·rename_i bs hbs;have e3:=pR hbs t';subst e3;exact Pu pins s Y H _ _ v us Q I rx rs ⟨a,bs,rfl,rfl,q,h.1,h.2.now r rfl⟩
  ·exact h.elim
 ·exact h.elim
theorem RX{K:PF}{H:Hp}{F:FZ}{G:DH}{d:D}{v:V}{ds:List D}(r:R K H F G)(h:Rep K H F d v)(e:view G d=.lst ds):∃a vs,v=.ref a/\H a=some (.lst vs)/\Reps K H F ds vs:=by
 cases d with
 |lst xs=>
  have e':D.lst xs=.lst ds:=e;cases e';obtain ⟨a,vs,e1,q,t⟩:=h;exact ⟨a,vs,e1,q.2,t⟩
 |ref p=>
  have hv:v=.ref p:=h;unfold view at e;cases g:G p with
  |none=>simp only[g]at e;cases e
  |some o=>
   cases o with
   |lst xs=>
    simp only[g]at e;cases e;obtain ⟨vs,q,t⟩:=r.lst g;exact ⟨p,vs,hv,q,t⟩
 |_=>cases (show _=D.lst ds from e)
theorem RZ:MtM X "list.extend" (jf X.K .extend):=by
 intro pins s Y H x xs v us Q I rx rs h;obtain ⟨F,G,d,ds,r,rd,t,h⟩:=h;simp only[opM]at h;generalize ea:ds.map (view G)=va at h;simp only[ph]at h;split at h
 ·obtain ⟨d',rfl,ev⟩:=map_one ea;obtain ⟨v',rfl,rv⟩:=bC t;obtain ⟨b,vs2,e2,q2,t2⟩:=RX r rv ev;subst e2;have e1:x=.ref _:=rd;subst e1;split at h
  ·rename_i ds0 hg;obtain ⟨vs,q,t'⟩:=r.lst hg;refine Nr pins s Y H _ _ v us Q I rx rs ⟨_,b,vs,vs2,rfl,rfl,q,q2,?_,?_⟩
   ·rw[<-t'.length,<-t2.length];exact Nat.le_of_lt (aT h.1 szl)
   ·exact h.2 _ _ _ (oV r hg) (r.write hg (t'.append t2)) rfl
  ·exact h.elim
 ·exact h.elim
theorem R0:rD X (λo i x H Q=>∃F G a b c,R X.K H F G/\Rep X.K H F a o/\Rep X.K H F b i/\Rep X.K H F c x/\fK a b c G (λG'=>∀H' F',Ext H F H' F'->R X.K H' F' G'->Q H')):=by
 intro pins s Y H o i v ov iv u Q I ro ri rv h;obtain ⟨F,G,a,b,c,r,ra,rb,rc,h⟩:=h;unfold fK at h;split at h
 ·have e1:o=.ref _:=ra;have e2:i=.int _:=rb;subst e1;subst e2;split at h
  ·rename_i ds hg;obtain ⟨vs,q,t⟩:=r.lst hg;split at h
   ·rename_i j hj;refine set_list pins s Y H _ _ v ov iv u Q I ro ri rv ⟨_,vs,_,j,rfl,rfl,q,by rw[<-t.length];exact hj,?_⟩;exact h _ _ (oV r hg) (r.write hg (t.set rc j))
   ·exact h.elim
  ·exact h.elim
 ·exact h.elim
end
inductive SK where
 |lst (a:Addr) |tup (a:Addr) |str (x:Str) (t:Tok)
def SK.val:SK->Value
 |.lst a=>.ref a
 |.tup a=>.ref a
 |.str x t=>.str x t
def SK.cls:SK->String
 |.lst _=>"list_iterator"
 |.tup _=>"tuple_iterator"
 |.str x _=>strIterType x
def SK.obj(k:SK):Obj:={ cls:=.type k.cls,data:=.fields #[k.val,.int 0 0] }
def SK.pos(k:SK)(it:Addr)(i:Nat)(h:Heap):Prop:=∃o,h.get? it=some o/\o.cls=.type k.cls/\o.data=.fields #[k.val,.int i 0]
def SK.Sat(H:Hp)(vs:List V):SK->Prop
 |.lst a=>H a=some (.lst vs)
 |.tup a=>H a=some (.tup vs)
 |.str x _=>vs=x.cps.toList.map λc=>V.str ⟨#[c]⟩
def SK.No(e:Addr):SK->Prop
 |.lst a=>a≠e
 |.tup a=>a≠e
 |.str _ _=>True
theorem SK.Sat.no{H:Hp}{vs:List V}{k:SK}{e:Addr}(h:k.Sat H vs)(he:H e=none):k.No e:=by
 cases k with
 |lst a=>exact aR (show H a=some _ from h) he
 |tup a=>exact aR (show H a=some _ from h) he
 |str x t=>trivial
def SK.On(its:Array Value)(h:Heap):SK->Prop
 |.lst a=>h.IsList a its
 |.tup a=>h.IsTuple a its
 |.str _ _=>True
theorem SK.On.keeps{its:Array Value}{h h':Heap}{k:SK}(x:k.On its h)(kk:∀b o,k.val=.ref b->h.get? b=some o->h'.get? b=some o):k.On its h':=by
 cases k with
 |lst a=>obtain ⟨o,e,r⟩:=x;exact ⟨o,kk a o rfl e,r⟩
 |tup a=>obtain ⟨o,e,r⟩:=x;exact ⟨o,kk a o rfl e,r⟩
 |str _ _=>trivial
section
variable {prog:Program} {w:World} {A:Around} {E:Value->Shared->Prop} {s:Shared}
theorem SK.iter{k:SK}{its:Array Value}{Q:Value->Shared->Prop}(h:k.On its s.heap)(q:Q (.ref (~~~s)) { s with heap:=s.heap.push k.obj }):wpAny (model prog w) A (pyIter k.val) Q E s:=by
 cases k with
 |lst a=>exact wpAny_pyIter_list h q
 |tup a=>exact wpAny_pyIter_tuple h q
 |str x t=>exact wpAny_pyIter_strU q
theorem SK.pos0{k:SK}{h:Heap}:k.pos h.objs.size 0 (h.push k.obj):=⟨_,aI _ rfl,rfl,rfl⟩
theorem SK.pos.keep{k:SK}{it:Addr}{i:Nat}{h h':Heap}(x:k.pos it i h)(kk:∀o,h.get? it=some o->h'.get? it=some o):k.pos it i h':=let ⟨o,e,r⟩:=x;⟨o,kk o e,r⟩
theorem R1{it t:Addr}{i:Nat}{items}{x:Value}{Q:Value->Shared->Prop}(hit:s.heap.IsTupleIter it t i)
  (ht:s.heap.IsTuple t items) (hx:items[i]?=some x)
  (hQ:∀h',h'.IsTupleIter it t (i+1)->Heap.SameBut it s.heap h'->Q x { s with heap:=h' }):
  wpAny (model prog w) A (Builtin.SmallTypes.nextOf (.ref it)) Q E s:=by
 obtain ⟨o,ho,hc,hd⟩:=id hit;obtain ⟨ol,hol,_,nl,hdl⟩:=ht;unfold Builtin.SmallTypes.nextOf;refine af (d5 (name:=Str.ofString "__next__") hit.typeIs fm
  (fo fm hit.typeIs F.entry_tuple_iterator_next ?_ (F.args_tuple_iterator_next_1 _)))
 show wpAny _ _ (field (.ref it) 0 >>= _) _ _ s;refine af (cy ho hd (x:=.ref t) rfl ?_);show wpAny _ _ (if (Value.ref t==Value.none)=true then _ else _) _ _ s;rw[if_neg (show ¬((Value.ref t==Value.none)=true) from b6)];show wpAny _ _ (field (.ref it) 1 >>= _) _ _ s;refine af (cy ho hd (x:=.int i 0) rfl ?_);show wpAny _ _ (seqItems? (.ref t) >>= _) _ _ s;refine af (ei hol hdl ?_);simp only[e9,hx];refine af (wpAny_setField ho hd (by simp) (av ⟨x,rfl,av (hQ _ ?_ (Heap.SameBut.update ..))⟩));exact ⟨_,fR _ ho (Obj.isFreed_of_fields (Obj.data_mapFields hd _)),(Obj.cls_mapFields ..).trans hc,by
  rw[Obj.data_mapFields hd];simp[rawInt]⟩
theorem R3{it t:Addr}{i:Nat}{items}{Q:Value->Shared->Prop}(hh:A.handled=none)
  (hit:s.heap.IsTupleIter it t i) (ht:s.heap.IsTuple t items) (hx:items[i]?=none)
  (hE:∀h' e,Heap.ExtBut it s.heap h'->(∃o,h'.get? e=some o/\o.cls=.type "StopIteration")->E (.ref e) { s with heap:=h' }):
  wpAny (model prog w) A (Builtin.SmallTypes.nextOf (.ref it)) Q E s:=by
 obtain ⟨o,ho,hc,hd⟩:=id hit;obtain ⟨ol,hol,_,nl,hdl⟩:=ht;unfold Builtin.SmallTypes.nextOf;refine af (d5 (name:=Str.ofString "__next__") hit.typeIs fm
  (fo fm hit.typeIs F.entry_tuple_iterator_next ?_ (F.args_tuple_iterator_next_1 _)))
 show wpAny _ _ (field (.ref it) 0 >>= _) _ _ s;refine af (cy ho hd (x:=.ref t) rfl ?_);show wpAny _ _ (if (Value.ref t==Value.none)=true then _ else _) _ _ s;rw[if_neg (show ¬((Value.ref t==Value.none)=true) from b6)];show wpAny _ _ (field (.ref it) 1 >>= _) _ _ s;refine af (cy ho hd (x:=.int i 0) rfl ?_);show wpAny _ _ (seqItems? (.ref t) >>= _) _ _ s;refine af (ei hol hdl ?_);simp only[e9,hx];refine af (fS (af (wpAny_setField ho hd (by simp) ?_)));show wpAny _ _ (newExc (.type "StopIteration") [] >>= _) _ _ _;refine af ?_;simp only[newExc,newTuple];refine af (eK ?_ (by size_fits));refine af (m:=firstArgMember _ _) (wpAny_of_eq (a:=Value.none) (by first |rfl | (simp only[firstArgMember];rfl)) ?_);refine eK ?_ (by size_fits);simp only[raiseNew];refine af (wpAny_handled ?_);first |rw[show A.in1.handled=none from hh] |rw[hh]
 refine af (av (wpAny_throw ?_));exact hE _ _ (((Heap.SameBut.update ..).extBut.push _).push _) ⟨_,aI _ rfl,rfl⟩
theorem R4(hh:A.handled=none)(it l:Addr)(hne:l≠it)(items:Array Value):
  Draws prog w A it [it,l] items.size (λi v=>items[i]?=some v) (λi h=>h.IsTupleIter it l i/\h.IsTuple l items) where
 live:=λ_ _ st=>let ⟨o,ho,_⟩:=st.1;⟨o,ho⟩
 frame:=λ_ _ _ st hk=>⟨let ⟨o,e,r⟩:=st.1;⟨o,hk it (by simp) o e,r⟩,let ⟨o,e,r⟩:=st.2;⟨o,hk l (by simp) o e,r⟩⟩
 item:=λi s Q E hi st hQ=>by
  refine R1 st.1 st.2 (x:=items[i]) (by simp[hi]) λh' hit' hs'=>?_;exact hQ _ h' s.toks (by simp[hi]) ⟨hit',let ⟨o,e,r⟩:=st.2;⟨o,hs'.extBut l o hne e,r⟩⟩ hs'
 done:=λs Q E st hE=>R3 hh st.1 st.2 (by simp) hE
end
structure Drawn(P:Program)(w:World)(A:Around)(k:SK)(it:Addr)(i:Nat)(vs:List V)(h:Heap)(fp:List Addr)(Pd:Nat->Value->Prop)(S:Nat->Heap->Prop):Prop where
 D:Draws P w A it fp vs.length Pd S
 st:S i h
 val:∀j v,Pd j v->∃x,vs[j]?=some x/\RelV x v
 pos:∀j h,S j h->k.pos it j h
 fp:∀b∈fp,b=it\/k.val=.ref b
theorem drawn{X:Cx}{pins:List (Addr×Obj)}{Y:L2.St}{H:Hp}{s:Shared}{A:Around}(hh:A.handled=none)(I:Inv X pins Y H s){k:SK}{it:Addr}{i:Nat}{vs:List V}(sat:k.Sat H vs)(hit:H it=none)(p:k.pos it i s.heap):
  ∃fp Pd S,Drawn X.prog X.w A k it i vs s.heap fp Pd S:=by
 cases k with
 |lst a=>
  have sat:H a=some (.lst vs):=sat;obtain ⟨its,r,pl,_⟩:=I.list (SqL.of sat);refine ⟨[it,a],λj v=>its.toArray[j]?=some v,λj h=>h.IsListIter it a j/\h.IsList a its.toArray,?_,⟨p,pl.isList⟩,?_,λj h st=>st.1,?_⟩
  ·have D:=Draws.list (prog:=X.prog) (w:=X.w) hh it a (aR sat hit) its.toArray;rw[ap,<-r.length]at D;exact D
  ·intro j v e;have e:its.toArray[j]?=some v:=e;have hj:j < vs.length:=by
    rw[r.length];have:=(ef.mp e).1;simpa using this
   obtain ⟨u,e2,r2⟩:=r.get (show vs[j]?=some vs[j] by simp[hj]);refine ⟨vs[j],by simp[hj],?_⟩;have:its[j]?=some v:=by simpa using e
   rw[this]at e2;cases e2;exact r2
  ·intro b hb;have hb:b=it\/b=a:=by simpa using hb
   rcases hb with e |e
   ·exact .inl e
   ·exact .inr (by rw[e];rfl)
 |tup a=>
  have sat:H a=some (.tup vs):=sat;obtain ⟨its,r,pl,_⟩:=I.tuple (SqT.of sat);refine ⟨[it,a],λj v=>its.toArray[j]?=some v,λj h=>h.IsTupleIter it a j/\h.IsTuple a its.toArray,?_,⟨p,pl⟩,?_,λj h st=>st.1,?_⟩
  ·have D:=R4 (prog:=X.prog) (w:=X.w) hh it a (aR sat hit) its.toArray;rw[ap,<-r.length]at D;exact D
  ·intro j v e;have e:its.toArray[j]?=some v:=e;have hj:j < vs.length:=by
    rw[r.length];have:=(ef.mp e).1;simpa using this
   obtain ⟨u,e2,r2⟩:=r.get (show vs[j]?=some vs[j] by simp[hj]);refine ⟨vs[j],by simp[hj],?_⟩;have:its[j]?=some v:=by simpa using e
   rw[this]at e2;cases e2;exact r2
  ·intro b hb;have hb:b=it\/b=a:=by simpa using hb
   rcases hb with e |e
   ·exact .inl e
   ·exact .inr (by rw[e];rfl)
 |str x t=>
  have sat:vs=x.cps.toList.map λc=>V.str ⟨#[c]⟩:=sat;refine ⟨[it],λi v=>∃c u,x.cps[i]?=some c/\v=.str ⟨#[c]⟩ u,λi h=>h.IsStrIter it (strIterType x) x t i,?_,p,?_,λj h st=>st,?_⟩
  ·have D:=N8 (prog:=X.prog) (w:=X.w) hh it x t;have e:x.cps.size=vs.length:=by rw[sat,ah,fi]
   rw[e]at D;exact D
  ·rintro j v ⟨c,u,e1,e2⟩;refine ⟨V.str ⟨#[c]⟩,?_,u,e2⟩;rw[sat,cr,Array.getElem?_toList,e1];rfl
  ·intro b hb;exact .inl (by simpa using hb)
def Jk(k:SK):It:=⟨λi H=>∃vs,k.Sat H vs/\i < vs.length,λi H x H'=>H'=H/\∀vs,k.Sat H vs->vs[i]?=some x,λi H=>∃vs,k.Sat H vs/\vs.length=i⟩
def Je(k:SK):It:=⟨λi H=>∃vs,k.Sat H vs/\i < vs.length,λi H x H'=>∃T y,H T=none/\x=.ref T/\H'=upd H T (.tup [.int i,y])/\∀vs,k.Sat H vs->vs[i]?=some y,λi H=>∃vs,k.Sat H vs/\vs.length=i⟩
theorem pU{H:Hp}{k:SK}{vs ws:List V}(h:k.Sat H vs)(h':k.Sat H ws):vs=ws:=by
 cases k with
 |lst a=>have e:=(show H a=some _ from h).symm.trans h';cases e;rfl
 |tup a=>have e:=(show H a=some _ from h).symm.trans h';cases e;rfl
 |str x t=>exact (show vs=_ from h).trans (show ws=_ from h').symm
theorem R5{P:Program}{w:World}{K:PF}{elts:List Expr}{x1:Nat}{pos:Pos}(k:SK)(e it:Addr)(hne:e≠it):
  Turn P w K (.Tuple elts x1 pos) (Je k) [e,it] e (λi h=>(∃old,IsEnum h e it i old)/\k.pos it i h) where
 mem:=by simp
 obj:=λi h st b hb=>by
  obtain ⟨⟨old,he⟩,o,ho,c,d⟩:=st;have hb:b=e\/b=it:=by simpa using hb
  rcases hb with rfl |rfl
  ·exact ⟨_,he,λv z=>by have z':Data.fields _=Data.cell v:=z;cases z'⟩
  ·exact ⟨o,ho,λv z=>by rw[d]at z;cases z⟩
 keep:=λi h h' st kk=>⟨let ⟨old,he⟩:=st.1;⟨old,kk e (by simp) _ he⟩,st.2.keep λo ho=>kk it (by simp) o ho⟩
 item:=by
  intro X hP hw hK hc i pins s Y H E I hf st hg;subst hP hw hK;obtain ⟨vs,sat,hi⟩:=hg;obtain ⟨⟨old,he⟩,hit⟩:=st;have hfe:=hf e (by simp);have hfi:=hf it (by simp);obtain ⟨fp,Pd,S,Dr⟩:=drawn (A:=X.A.in1) (I.ok.hd hc) I sat hfi.1 hit;have helt:e < (~~~s):=ax he;have hef:e∉fp:=λhb=>by
   rcases Dr.fp e hb with z |z
   ·exact hne z
   ·have:=sat.no hfe.1;cases k with
    |lst a=>cases z;exact this rfl
    |tup a=>cases z;exact this rfl
    |str _ _=>cases z
  refine wpAny_pyNext_enum_itemD Dr.D he Dr.st hi hne hef λu h1 tk hu heo hit1 ht1 hz1 hk1=>?_;obtain ⟨x,hx,ru⟩:=Dr.val _ _ hu;refine ⟨_,rfl,?_⟩;refine wpAny_letOwnedTupleGo_enum heo λh2 he2 hs2=>?_;have hs2':Heap.SameBut e h1 h2:=hs2;have hn:H (~~~s)=none:=I.hok.fresh (am _);have k2:∀b o,b∉[e,it]->s.heap.get? b=some o->h2.get? b=some o:=λb o hb q=>by
   have hb':b≠e/\b≠it:=by simpa using hb
   exact hs2'.extBut b o hb'.1 (hk1 b o hb'.1 hb'.2 q)
  have I2:Inv X pins Y H { s with heap:=h2,toks:=tk+1 }:=I.turnedL hf k2;have ht2:h2.get? (~~~s)=some { cls:=.type "tuple",data:=.seq #[.int i tk,u] }:=hs2'.extBut _ _ (dA helt) ht1;have ob:ObjOk X.prog X.w (upd H (~~~s) (.tup [.int i,x])) h2 (~~~s) (.tup [.int i,x]):=
   ⟨by rw[eL];simp,[.int i tk,u],.cons ⟨_,rfl⟩ (.cons ru .nil),⟨_,ht2,rfl,_,rfl⟩⟩
  have I3:=I2.track (I.fpOk (am _) hn) ob;have nee:(~~~s)≠e:=dA helt;have nei:(~~~s)≠it:=by obtain ⟨o,ho,_⟩:=hit;exact dA (ax ho)
  refine ⟨.ref (~~~s),_,I3,rfl,⟨(~~~s),x,hn,rfl,rfl,λys hy=>by rw[pU hy sat];exact hx⟩,⟨⟨u,?_⟩,?_⟩,λb hb=>?_⟩
  ·show IsEnum h2 e it (((i+1:Nat)):Int) u;rw[show (((i+1:Nat):Int))=(i:Int)+1 by omega];exact he2
  ·exact (Dr.pos _ _ hit1).keep λo ho=>hs2'.extBut _ _ (Ne.symm hne) ho
  ·have hb':b=e\/b=it:=by simpa using hb
   rw[aB (by rcases hb' with rfl |rfl;exact Ne.symm nee;exact Ne.symm nei)];exact (hf b hb).1
 done:=by
  intro X hP hw hK hc i pins s Y H E I hf st hg;subst hP hw hK;obtain ⟨vs,sat,hi⟩:=hg;subst hi;obtain ⟨⟨old,he⟩,hit⟩:=st;have hfi:=hf it (by simp);obtain ⟨fp,Pd,S,Dr⟩:=drawn (A:=X.A.in1) (I.ok.hd hc) I sat hfi.1 hit;refine wpAny_pyNext_enum_endD Dr.D he Dr.st λh' eb=>⟨rfl,I.turnedL (t':=s.toks) hf λb o hb q=>?_⟩;have hb':b≠e/\b≠it:=by simpa using hb
  exact eb b o hb'.2 q
 self:=λA i s Q E st h=>by
  obtain ⟨⟨old,he⟩,_⟩:=st;exact wpAny_pyIter_enum he h
theorem R6{P:Program}{w:World}{A:Around}{it:Addr}{fp:List Addr}{n:Nat}{Pd:Nat->Value->Prop}{S:Nat->Heap->Prop}(D:Draws P w A it fp n Pd S):
  Draws P w A it fp (n+1) (λi v=>∃j,i=j+1/\Pd j v) (λi h=>∃j,i=j+1/\S j h) where
 live:=λi h st=>by obtain ⟨j,_,st⟩:=st;exact D.live j h st
 frame:=λi h h' st k=>by obtain ⟨j,e,st⟩:=st;exact ⟨j,e,D.frame j h h' st k⟩
 item:=λi s Q E hi st hQ=>by
  obtain ⟨j,e,st⟩:=st;subst e;exact D.item j s Q E (Nat.lt_of_succ_lt_succ hi) st λx h' tk p st' sb=>hQ x h' tk ⟨j,rfl,p⟩ ⟨j+1,rfl,st'⟩ sb
 done:=λs Q E st hE=>by
  obtain ⟨j,e,st⟩:=st;have e':n=j:=Nat.succ.inj e;subst e';exact D.done s Q E st hE
def Je1(k:SK):It:=⟨λi H=>∃vs,k.Sat H vs/\i < vs.length,λi H x H'=>∃T y,H T=none/\x=.ref T/\H'=upd H T (.tup [.int ((i+1:Nat):Int),y])/\∀vs,k.Sat H vs->vs[i]?=some y,λi H=>∃vs,k.Sat H vs/\vs.length=i⟩
theorem R7{P:Program}{w:World}{K:PF}{elts:List Expr}{x1:Nat}{pos:Pos}(k:SK)(e it:Addr)(hne:e≠it):
  Turn P w K (.Tuple elts x1 pos) (Je1 k) [e,it] e (λi h=>(∃old,IsEnum h e it ((i+1:Nat):Int) old)/\k.pos it i h) where
 mem:=by simp
 obj:=λi h st b hb=>by
  obtain ⟨⟨old,he⟩,o,ho,c,d⟩:=st;have hb:b=e\/b=it:=by simpa using hb
  rcases hb with rfl |rfl
  ·exact ⟨_,he,λv z=>by have z':Data.fields _=Data.cell v:=z;cases z'⟩
  ·exact ⟨o,ho,λv z=>by rw[d]at z;cases z⟩
 keep:=λi h h' st kk=>⟨let ⟨old,he⟩:=st.1;⟨old,kk e (by simp) _ he⟩,st.2.keep λo ho=>kk it (by simp) o ho⟩
 item:=by
  intro X hP hw hK hc i pins s Y H E I hf st hg;subst hP hw hK;obtain ⟨vs,sat,hi⟩:=hg;obtain ⟨⟨old,he⟩,hit⟩:=st;have hfe:=hf e (by simp);have hfi:=hf it (by simp);obtain ⟨fp,Pd,S,Dr⟩:=drawn (A:=X.A.in1) (I.ok.hd hc) I sat hfi.1 hit;have helt:e < (~~~s):=ax he;have hef:e∉fp:=λhb=>by
   rcases Dr.fp e hb with z |z
   ·exact hne z
   ·have:=sat.no hfe.1;cases k with
    |lst a=>cases z;exact this rfl
    |tup a=>cases z;exact this rfl
    |str _ _=>cases z
  refine wpAny_pyNext_enum_itemD (i:=i+1) (R6 Dr.D) he ⟨i,rfl,Dr.st⟩ (Nat.succ_lt_succ hi) hne hef λu h1 tk hu heo hit1 ht1 hz1 hk1=>?_;obtain ⟨i1,z1,hu⟩:=hu;cases z1;obtain ⟨i2,z2,hit1⟩:=hit1;cases z2;obtain ⟨x,hx,ru⟩:=Dr.val _ _ hu;refine ⟨_,rfl,?_⟩;refine wpAny_letOwnedTupleGo_enum heo λh2 he2 hs2=>?_;have hs2':Heap.SameBut e h1 h2:=hs2;have hn:H (~~~s)=none:=I.hok.fresh (am _);have k2:∀b o,b∉[e,it]->s.heap.get? b=some o->h2.get? b=some o:=λb o hb q=>by
   have hb':b≠e/\b≠it:=by simpa using hb
   exact hs2'.extBut b o hb'.1 (hk1 b o hb'.1 hb'.2 q)
  have I2:Inv X pins Y H { s with heap:=h2,toks:=tk+1 }:=I.turnedL hf k2;have ht2:h2.get? (~~~s)=some { cls:=.type "tuple",data:=.seq #[.int ((i+1:Nat):Int) tk,u] }:=hs2'.extBut _ _ (dA helt) ht1;have ob:ObjOk X.prog X.w (upd H (~~~s) (.tup [.int ((i+1:Nat):Int),x])) h2 (~~~s) (.tup [.int ((i+1:Nat):Int),x]):=
   ⟨by rw[eL];simp,[.int ((i+1:Nat):Int) tk,u],.cons ⟨_,rfl⟩ (.cons ru .nil),⟨_,ht2,rfl,_,rfl⟩⟩
  have I3:=I2.track (I.fpOk (am _) hn) ob;have nee:(~~~s)≠e:=dA helt;have nei:(~~~s)≠it:=by obtain ⟨o,ho,_⟩:=hit;exact dA (ax ho)
  refine ⟨.ref (~~~s),_,I3,rfl,⟨(~~~s),x,hn,rfl,rfl,λys hy=>by rw[pU hy sat];exact hx⟩,⟨⟨u,?_⟩,?_⟩,λb hb=>?_⟩
  ·show IsEnum h2 e it (((i+1+1:Nat)):Int) u;rw[show (((i+1+1:Nat):Int))=((i+1:Nat):Int)+1 by omega];exact he2
  ·exact (Dr.pos _ _ hit1).keep λo ho=>hs2'.extBut _ _ (Ne.symm hne) ho
  ·have hb':b=e\/b=it:=by simpa using hb
   rw[aB (by rcases hb' with rfl |rfl;exact Ne.symm nee;exact Ne.symm nei)];exact (hf b hb).1
 done:=by
  intro X hP hw hK hc i pins s Y H E I hf st hg;subst hP hw hK;obtain ⟨vs,sat,hi⟩:=hg;subst hi;obtain ⟨⟨old,he⟩,hit⟩:=st;have hfi:=hf it (by simp);obtain ⟨fp,Pd,S,Dr⟩:=drawn (A:=X.A.in1) (I.ok.hd hc) I sat hfi.1 hit;refine wpAny_pyNext_enum_endD Dr.D he Dr.st λh' eb=>⟨rfl,I.turnedL (t':=s.toks) hf λb o hb q=>?_⟩;have hb':b≠e/\b≠it:=by simpa using hb
  exact eb b o hb'.2 q
 self:=λA i s Q E st h=>by
  obtain ⟨⟨old,he⟩,_⟩:=st;exact wpAny_pyIter_enum he h
theorem R8{P:Program}{w:World}{K:PF}{tg:Expr}(k:SK)(it:Addr):Turn P w K tg (Jk k) [it] it (λi h=>k.pos it i h) where
 mem:=by simp
 obj:=λi h st b hb=>by
  have e:b=it:=by simpa using hb
  subst e;obtain ⟨o,e,c,d⟩:=st;exact ⟨o,e,λv z=>by rw[d]at z;cases z⟩
 keep:=λi h h' st kk=>st.keep λo e=>kk it (by simp) o e
 item:=by
  intro X hP hw hK hc i pins s Y H E I hf st hg;obtain ⟨vs,sat,hi⟩:=hg;have hfi:=hf it (by simp);cases k with
  |lst a=>
   have sat':H a=some (.lst vs):=sat;refine bb ((yl (tg:=tg) a it).item X hP hw hK hc i pins s Y H E I hf st ⟨vs,vs[i],SqL.of sat',by simp[hi]⟩) ?_ (λ_ _ e=>e);rintro r s1 ⟨u,hr,h1⟩;refine ⟨u,hr,bb h1 ?_ (λ_ _ e=>e)⟩;rintro _ s2 ⟨x,H',I',rx,⟨e1,e2⟩,st',fr⟩;exact ⟨x,H',I',rx,⟨e1,λws hw'=>e2 ws (SqL.of (show H a=some (.lst ws) from hw'))⟩,st',fr⟩
  |tup a=>
   have sat':H a=some (.tup vs):=sat;refine bb ((yo (tg:=tg) a it).item X hP hw hK hc i pins s Y H E I hf st ⟨vs,vs[i],SqT.of sat',by simp[hi]⟩) ?_ (λ_ _ e=>e);rintro r s1 ⟨u,hr,h1⟩;refine ⟨u,hr,bb h1 ?_ (λ_ _ e=>e)⟩;rintro _ s2 ⟨x,H',I',rx,⟨e1,e2⟩,st',fr⟩;exact ⟨x,H',I',rx,⟨e1,λws hw'=>e2 ws (SqT.of (show H a=some (.tup ws) from hw'))⟩,st',fr⟩
  |str y t=>
   have sat':vs=y.cps.toList.map λc=>V.str ⟨#[c]⟩:=sat;have hlen:vs.length=y.cps.size:=by rw[sat',ah,fi]
   refine bb ((rQ (tg:=tg) it y t).item X hP hw hK hc i pins s Y H E I hf st (show i < y.cps.size by omega)) ?_ (λ_ _ e=>e);rintro r s1 ⟨u,hr,h1⟩;refine ⟨u,hr,bb h1 ?_ (λ_ _ e=>e)⟩;rintro _ s2 ⟨x,H',I',rx,⟨e1,c,e2,e3⟩,st',fr⟩;refine ⟨x,H',I',rx,⟨e1,λws hw'=>?_⟩,st',fr⟩;have hw':ws=y.cps.toList.map λc=>V.str ⟨#[c]⟩:=hw';rw[hw',e3,cr,Array.getElem?_toList,e2];rfl
 done:=by
  intro X hP hw hK hc i pins s Y H E I hf st hg;obtain ⟨vs,sat,hi⟩:=hg;cases k with
  |lst a=>exact (yl (tg:=tg) a it).done X hP hw hK hc i pins s Y H E I hf st ⟨vs,SqL.of (show H a=some (.lst vs) from sat),by omega⟩
  |tup a=>exact (yo (tg:=tg) a it).done X hP hw hK hc i pins s Y H E I hf st ⟨vs,SqT.of (show H a=some (.tup vs) from sat),by omega⟩
  |str y t=>
   have sat':vs=y.cps.toList.map λc=>V.str ⟨#[c]⟩:=sat;have hlen:vs.length=y.cps.size:=by rw[sat',ah,fi]
   exact (rQ (tg:=tg) it y t).done X hP hw hK hc i pins s Y H E I hf st (show i=y.cps.size by omega)
 self:=λA i s Q E st h=>by
  cases k with
  |lst a=>exact wpAny_pyIter_listiter st h
  |tup a=>exact wpAny_pyIter_tupleiter st h
  |str y t=>exact (rQ (K:=K) (tg:=tg) it y t).self A i s Q E st h
open Builtin Builtin.Str
section
variable {prog:Program} {w:World} {A:Around} {E:Value->Shared->Prop} {s:Shared}
theorem R9{z TI TO i1 i2:Addr}{k n1 n2:Nat}{fp1 fp2:List Addr}{P1 P2:Nat->Value->Prop}{S1 S2:Nat->Heap->Prop}{a b:Value}{Q:Value->Shared->Prop}(D:ZApart z TI TO i1 i2)
  (D1:Draws prog w A i1 fp1 n1 P1 S1) (D2:Draws prog w A i2 fp2 n2 P2 S2) (f1:∀c∈fp1,c≠z/\c≠TO/\c≠i2) (f2:∀c∈fp2,c≠z/\c≠TO/\c≠i1)
  (hz:IsZip s.heap z TI TO .none) (hTI:IsPair s.heap TI (.ref i1) (.ref i2)) (hTO:IsPair s.heap TO a b)
  (h1:S1 k s.heap) (h2:S2 k s.heap) (hx:k < n1) (hy:k < n2)
  (hQ:∀h' tk c d,P1 k c->P2 k d->IsZip h' z TI TO (rawInt (~~~s))->IsPair h' TO c d->S1 (k+1) h'->S2 (k+1) h'->
   IsPair h' (~~~s) c d->h'.objs.size=(~~~s)+1->
   (∀c o,c≠z->c≠TO->c≠i1->c≠i2->s.heap.get? c=some o->h'.get? c=some o)->Q (.ref (~~~s)) { s with heap:=h',toks:=tk }):
  wpAny (model prog w) A (Builtin.«zip.__next__» ⟨[.ref z],[]⟩) (λfin s'=>∃v,fin=.done (.ret v)/\Q v s') E s:=by
 have e1:∀{h h':Heap}{c:Addr}{j:Nat},S1 j h->Heap.ExtBut c h h'->(∀b∈fp1,b≠c)->S1 j h':=λq e n=>D1.frame _ _ _ q λb hb o y=>e b o (n b hb) y;have e2:∀{h h':Heap}{c:Addr}{j:Nat},S2 j h->Heap.ExtBut c h h'->(∀b∈fp2,b≠c)->S2 j h':=λq e n=>D2.frame _ _ _ q λb hb o y=>e b o (n b hb) y;have z1:∀b∈fp1,b≠z:=λb hb=>(f1 b hb).1;have t1:∀b∈fp1,b≠TO:=λb hb=>(f1 b hb).2.1;have j1:∀b∈fp1,b≠i2:=λb hb=>(f1 b hb).2.2;have z2:∀b∈fp2,b≠z:=λb hb=>(f2 b hb).1;have t2:∀b∈fp2,b≠TO:=λb hb=>(f2 b hb).2.1;have j2:∀b∈fp2,b≠i1:=λb hb=>(f2 b hb).2.2;show wpAny _ _ (field (.ref z) 2 >>= _) _ _ _;refine af (cy hz rfl (x:=.bool false) rfl ?_);show wpAny _ _ (field (.ref z) 3 >>= _) _ _ _;refine af (cy hz rfl (x:=.ref TI) rfl ?_);refine af (ei hTI rfl ?_);show wpAny _ _ (Builtin.SmallTypes.ownedTupleIsFree (.ref z) >>= _) _ _ _;refine af ?_;unfold Builtin.SmallTypes.ownedTupleIsFree;refine af (cy hz rfl (x:=.none) rfl (av ?_));simp only[if_true];refine af (fS ?_);refine af (cy hz rfl (x:=.ref TO) rfl ?_);refine af (eh hz (by simp) λh₁ hz₁ hs₁=>?_);replace hz₁:IsZip h₁ z TI TO .ellipsis:=hz₁;replace hs₁:Heap.SameBut z s.heap h₁:=hs₁;refine af ?_;simp only[List.zipIdx_cons,List.zipIdx_nil,List.forIn_cons,List.forIn_nil];refine af (af (wpAny_onRaise ?_));show wpAny _ _ (Builtin.SmallTypes.nextOf (.ref i1) >>= _) _ _ _;refine af (D1.item k _ _ _ hx (e1 h1 hs₁.extBut z1) λc h₂ tk₂ hc h1₂ hs₂=>av ?_);replace hs₂:Heap.SameBut i1 h₁ h₂:=hs₂;have hTO₂:IsPair h₂ TO a b:=hs₂.extBut _ _ D.TOi1 (hs₁.extBut _ _ D.TOz hTO);refine af (ei hTO₂ rfl ?_);refine af (wpAny_updateSeq_pair hTO₂ λh₃ hTO₃ hs₃=>?_);replace hTO₃:IsPair h₃ TO c b:=hTO₃;replace hs₃:Heap.SameBut TO h₂ h₃:=hs₃;refine af (wpAny_letGo (av ?_));refine af (af (wpAny_onRaise ?_));show wpAny _ _ (Builtin.SmallTypes.nextOf (.ref i2) >>= _) _ _ _;refine af (D2.item k _ _ _ hy (e2 (e2 (e2 h2 hs₁.extBut z2) hs₂.extBut j2) hs₃.extBut t2) λd h₄ tk₄ hd h2₄ hs₄=>av ?_);replace hs₄:Heap.SameBut i2 h₃ h₄:=hs₄;have hTO₄:IsPair h₄ TO c b:=hs₄.extBut _ _ D.TOi2 hTO₃;refine af (ei hTO₄ rfl ?_);refine af (wpAny_updateSeq_pair hTO₄ λh₅ hTO₅ hs₅=>?_);replace hTO₅:IsPair h₅ TO c d:=hTO₅;replace hs₅:Heap.SameBut TO h₄ h₅:=hs₅;refine af (wpAny_letGo (av (av ?_)));refine af (ei hTO₅ rfl ?_);refine af (wpAny_newTuple ?_);have hsz:h₅.objs.size=(~~~s):=by rw[hs₅.1,hs₄.1,hs₃.1,hs₂.1,hs₁.1]
 have hz₅:IsZip h₅ z TI TO .ellipsis:=hs₅.extBut _ _ D.TOz.symm (hs₄.extBut _ _ D.i2z.symm (hs₃.extBut _ _ D.TOz.symm (hs₂.extBut _ _ D.i1z.symm hz₁)));have hk₅:∀c o,c≠z->c≠TO->c≠i1->c≠i2->s.heap.get? c=some o->h₅.get? c=some o:=λc o c1 c2 c3 c4 e=>
  hs₅.extBut _ _ c2 (hs₄.extBut _ _ c4 (hs₃.extBut _ _ c2 (hs₂.extBut _ _ c3 (hs₁.extBut _ _ c1 e))))
 have h1₅:S1 (k+1) h₅:=e1 (e1 (e1 h1₂ hs₃.extBut t1) hs₄.extBut j1) hs₅.extBut t1;have h2₅:S2 (k+1) h₅:=e2 h2₄ hs₅.extBut t2;have hzlt:z < h₅.objs.size:=ax hz₅;show wpAny _ _ (Builtin.SmallTypes.ownedTupleHandOut (.ref z) (.ref h₅.objs.size) >>= _) _ _ _;refine af ?_;unfold Builtin.SmallTypes.ownedTupleHandOut;have hz₆:IsZip (h₅.push { cls:=.type "tuple",data:=.seq #[c,d] }) z TI TO .ellipsis:=ag _ hz₅;refine af (eh hz₆ (by simp) λh₇ hz₇ hs₇=>?_);replace hz₇:IsZip h₇ z TI TO (rawInt h₅.objs.size):=hz₇;refine eh hz₇ (by simp) λh₈ hz₈ hs₈=>?_;replace hz₈:IsZip h₈ z TI TO (rawInt h₅.objs.size):=hz₈;have up:∀c o,c≠z->h₅.get? c=some o->h₈.get? c=some o:=λc o c1 e=>hs₈.extBut _ _ c1 (hs₇.extBut _ _ c1 (ag _ e));have hT₈:IsPair h₈ h₅.objs.size c d:=hs₈.extBut _ _ (dA hzlt) (hs₇.extBut _ _ (dA hzlt) (aI _ rfl));have hz8:h₈.objs.size=h₅.objs.size+1:=by rw[hs₈.1,hs₇.1,eI]
 rw[hsz]at hz₈ hT₈ hz8;refine av ⟨_,rfl,?_⟩;show Q (.ref h₅.objs.size) _;rw[hsz];exact hQ h₈ tk₄ c d hc hd hz₈ (up _ _ D.TOz hTO₅) (D1.frame _ _ _ h1₅ λb hb o y=>up b o (z1 b hb) y) (D2.frame _ _ _ h2₅ λb hb o y=>up b o (z2 b hb) y) hT₈ hz8 λc o c1 c2 c3 c4 e=>up c o c1 (hk₅ c o c1 c2 c3 c4 e)
theorem Sd{z TI TO i1 i2:Addr}{n1:Nat}{fp1:List Addr}{P1:Nat->Value->Prop}{S1:Nat->Heap->Prop}{a b:Value}{Q:Fin->Shared->Prop}(D:ZApart z TI TO i1 i2)
  (D1:Draws prog w A i1 fp1 n1 P1 S1) (f1:∀c∈fp1,c≠z)
  (hz:IsZip s.heap z TI TO .none) (hTI:IsPair s.heap TI (.ref i1) (.ref i2)) (hTO:IsPair s.heap TO a b) (h1:S1 n1 s.heap)
  (hE:∀h' e,(∀c o,c≠z->c≠TO->c≠i1->c≠i2->s.heap.get? c=some o->h'.get? c=some o)->(∃o,h'.get? e=some o/\o.cls=.type "StopIteration")->E (.ref e) { s with heap:=h' }):
  wpAny (model prog w) A (Builtin.«zip.__next__» ⟨[.ref z],[]⟩) Q E s:=by
 show wpAny _ _ (field (.ref z) 2 >>= _) _ _ _;refine af (cy hz rfl (x:=.bool false) rfl ?_);show wpAny _ _ (field (.ref z) 3 >>= _) _ _ _;refine af (cy hz rfl (x:=.ref TI) rfl ?_);refine af (ei hTI rfl ?_);show wpAny _ _ (Builtin.SmallTypes.ownedTupleIsFree (.ref z) >>= _) _ _ _;refine af ?_;unfold Builtin.SmallTypes.ownedTupleIsFree;refine af (cy hz rfl (x:=.none) rfl (av ?_));simp only[if_true];refine af (fS ?_);refine af (cy hz rfl (x:=.ref TO) rfl ?_);refine af (eh hz (by simp) λh₁ hz₁ hs₁=>?_);replace hz₁:IsZip h₁ z TI TO .ellipsis:=hz₁;replace hs₁:Heap.SameBut z s.heap h₁:=hs₁;refine af ?_;simp only[List.zipIdx_cons,List.zipIdx_nil,List.forIn_cons,List.forIn_nil];refine af (af (wpAny_onRaise ?_));show wpAny _ _ (Builtin.SmallTypes.nextOf (.ref i1) >>= _) _ _ _;refine af (D1.done _ _ _ (D1.frame _ _ _ h1 λb hb o y=>hs₁.extBut b o (f1 b hb) y) λh₂ e hs₂ he=>?_);obtain ⟨oe,hoe,hce⟩:=he;have hz₂:IsZip h₂ z TI TO .ellipsis:=hs₂ _ _ D.i1z.symm hz₁;have hez:e≠z:=λx=>by subst x;rw[hz₂]at hoe;cases hoe;simp at hce
 refine eh hz₂ (by simp) λh₃ _ hs₃=>hE h₃ e (λc o c1 _ c3 _ x=>hs₃.extBut _ _ c1 (hs₂ _ _ c3 (hs₁.extBut _ _ c1 x))) ⟨oe,hs₃.extBut _ _ hez hoe,hce⟩
theorem Sg{z TI TO i1 i2:Addr}{k n1 n2:Nat}{fp1 fp2:List Addr}{P1 P2:Nat->Value->Prop}{S1 S2:Nat->Heap->Prop}{a b:Value}{Q:Fin->Shared->Prop}(D:ZApart z TI TO i1 i2)
  (D1:Draws prog w A i1 fp1 n1 P1 S1) (D2:Draws prog w A i2 fp2 n2 P2 S2) (f1:∀c∈fp1,c≠z/\c≠TO/\c≠i2) (f2:∀c∈fp2,c≠z/\c≠TO/\c≠i1)
  (hz:IsZip s.heap z TI TO .none) (hTI:IsPair s.heap TI (.ref i1) (.ref i2)) (hTO:IsPair s.heap TO a b) (h1:S1 k s.heap) (h2:S2 k s.heap) (hx:k < n1) (hy:k=n2)
  (hE:∀h' tk e,(∀c o,c≠z->c≠TO->c≠i1->c≠i2->s.heap.get? c=some o->h'.get? c=some o)->(∃o,h'.get? e=some o/\o.cls=.type "StopIteration")->E (.ref e) { s with heap:=h',toks:=tk }):
  wpAny (model prog w) A (Builtin.«zip.__next__» ⟨[.ref z],[]⟩) Q E s:=by
 have e1:∀{h h':Heap}{c:Addr}{j:Nat},S1 j h->Heap.ExtBut c h h'->(∀b∈fp1,b≠c)->S1 j h':=λq e n=>D1.frame _ _ _ q λb hb o y=>e b o (n b hb) y;have e2:∀{h h':Heap}{c:Addr}{j:Nat},S2 j h->Heap.ExtBut c h h'->(∀b∈fp2,b≠c)->S2 j h':=λq e n=>D2.frame _ _ _ q λb hb o y=>e b o (n b hb) y;have z1:∀b∈fp1,b≠z:=λb hb=>(f1 b hb).1;have z2:∀b∈fp2,b≠z:=λb hb=>(f2 b hb).1;have t2:∀b∈fp2,b≠TO:=λb hb=>(f2 b hb).2.1;have j2:∀b∈fp2,b≠i1:=λb hb=>(f2 b hb).2.2;show wpAny _ _ (field (.ref z) 2 >>= _) _ _ _;refine af (cy hz rfl (x:=.bool false) rfl ?_);show wpAny _ _ (field (.ref z) 3 >>= _) _ _ _;refine af (cy hz rfl (x:=.ref TI) rfl ?_);refine af (ei hTI rfl ?_);show wpAny _ _ (Builtin.SmallTypes.ownedTupleIsFree (.ref z) >>= _) _ _ _;refine af ?_;unfold Builtin.SmallTypes.ownedTupleIsFree;refine af (cy hz rfl (x:=.none) rfl (av ?_));simp only[if_true];refine af (fS ?_);refine af (cy hz rfl (x:=.ref TO) rfl ?_);refine af (eh hz (by simp) λh₁ hz₁ hs₁=>?_);replace hz₁:IsZip h₁ z TI TO .ellipsis:=hz₁;replace hs₁:Heap.SameBut z s.heap h₁:=hs₁;refine af ?_;simp only[List.zipIdx_cons,List.zipIdx_nil,List.forIn_cons,List.forIn_nil];refine af (af (wpAny_onRaise ?_));show wpAny _ _ (Builtin.SmallTypes.nextOf (.ref i1) >>= _) _ _ _;refine af (D1.item k _ _ _ hx (e1 h1 hs₁.extBut z1) λc h₂ tk₂ hc h1₂ hs₂=>av ?_);replace hs₂:Heap.SameBut i1 h₁ h₂:=hs₂;have hTO₂:IsPair h₂ TO a b:=hs₂.extBut _ _ D.TOi1 (hs₁.extBut _ _ D.TOz hTO);refine af (ei hTO₂ rfl ?_);refine af (wpAny_updateSeq_pair hTO₂ λh₃ hTO₃ hs₃=>?_);replace hs₃:Heap.SameBut TO h₂ h₃:=hs₃;refine af (wpAny_letGo (av ?_));refine af (af (wpAny_onRaise ?_));show wpAny _ _ (Builtin.SmallTypes.nextOf (.ref i2) >>= _) _ _ _;subst hy;refine af (D2.done _ _ _ (e2 (e2 (e2 h2 hs₁.extBut z2) hs₂.extBut j2) hs₃.extBut t2) λh₄ e hs₄ he=>?_);obtain ⟨oe,hoe,hce⟩:=he;have hz₄:IsZip h₄ z TI TO .ellipsis:=hs₄ _ _ D.i2z.symm (hs₃.extBut _ _ D.TOz.symm (hs₂.extBut _ _ D.i1z.symm hz₁));have hez:e≠z:=λx=>by subst x;rw[hz₄]at hoe;cases hoe;simp at hce
 refine eh hz₄ (by simp) λh₅ _ hs₅=>hE h₅ tk₂ e (λc o c1 c2 c3 c4 x=>hs₅.extBut _ _ c1 (hs₄ _ _ c4 (hs₃.extBut _ _ c2 (hs₂.extBut _ _ c3 (hs₁.extBut _ _ c1 x))))) ⟨oe,hs₅.extBut _ _ hez hoe,hce⟩
end
def Jz(k l:SK):It:=⟨λi H=>∃vs ws,k.Sat H vs/\l.Sat H ws/\i < vs.length/\i < ws.length,
 λi H x H'=>∃T y z,H T=none/\x=.ref T/\H'=upd H T (.tup [y,z])/\(∀vs,k.Sat H vs->vs[i]?=some y)/\(∀ws,l.Sat H ws->ws[i]?=some z),
 λi H=>∃vs ws,k.Sat H vs/\l.Sat H ws/\(vs.length=i/\i<=ws.length\/i < vs.length/\ws.length=i)⟩
theorem Sq{P:Program}{w:World}{K:PF}{elts:List Expr}{x1:Nat}{pos:Pos}(k l:SK)(z TI TO i1 i2:Addr)(D:ZApart z TI TO i1 i2):
  Turn P w K (.Tuple elts x1 pos) (Jz k l) [z,TI,TO,i1,i2] z
   (λi h=>IsZip h z TI TO .none/\IsPair h TI (.ref i1) (.ref i2)/\(∃a b,IsPair h TO a b)/\k.pos i1 i h/\l.pos i2 i h) where
 mem:=by simp
 obj:=λi h st b hb=>by
  obtain ⟨hz,hTI,⟨a,c,hTO⟩,⟨o1,e1,_,d1⟩,⟨o2,e2,_,d2⟩⟩:=st;have hb':b=z\/b=TI\/b=TO\/b=i1\/b=i2:=by simpa using hb
  rcases hb' with rfl |rfl |rfl |rfl |rfl
  ·exact ⟨_,hz,λv q=>by have q':Data.fields _=Data.cell v:=q;cases q'⟩
  ·exact ⟨_,hTI,λv q=>by have q':Data.seq _ _=Data.cell v:=q;cases q'⟩
  ·exact ⟨_,hTO,λv q=>by have q':Data.seq _ _=Data.cell v:=q;cases q'⟩
  ·exact ⟨o1,e1,λv q=>by rw[d1]at q;cases q⟩
  ·exact ⟨o2,e2,λv q=>by rw[d2]at q;cases q⟩
 keep:=λi h h' st kk=>by
  obtain ⟨hz,hTI,⟨a,c,hTO⟩,p1,p2⟩:=st;exact ⟨kk z (by simp) _ hz,kk TI (by simp) _ hTI,⟨a,c,kk TO (by simp) _ hTO⟩,p1.keep λo e=>kk i1 (by simp) o e,p2.keep λo e=>kk i2 (by simp) o e⟩
 item:=by
  intro X hP hw hK hc i pins s Y H E I hf st hg;subst hP hw hK;obtain ⟨vs,ws,sat1,sat2,l1,l2⟩:=hg;obtain ⟨hz,hTI,⟨a,b,hTO⟩,h1,h2⟩:=st;have hT:s.TypeIs (.ref z) "zip":=⟨_,hz,rfl⟩;have fz:=hf z (by simp);have fTO:=hf TO (by simp);have fi1:=hf i1 (by simp);have fi2:=hf i2 (by simp);obtain ⟨fp1,P1,S1,Dr1⟩:=drawn (A:=X.A.in1) (I.ok.hd hc) I sat1 fi1.1 h1;obtain ⟨fp2,P2,S2,Dr2⟩:=drawn (A:=X.A.in1) (I.ok.hd hc) I sat2 fi2.1 h2;have no1:∀e,H e=none->e≠i1->∀c∈fp1,c≠e:=λe he hei c hc z=>by
   rcases Dr1.fp c hc with q |q
   ·exact hei (z.symm.trans q)
   ·have:=sat1.no he;cases k with
    |lst a=>injection q with q;exact this (q.trans z)
    |tup a=>injection q with q;exact this (q.trans z)
    |str _ _=>cases q
  have no2:∀e,H e=none->e≠i2->∀c∈fp2,c≠e:=λe he hei c hc z=>by
   rcases Dr2.fp c hc with q |q
   ·exact hei (z.symm.trans q)
   ·have:=sat2.no he;cases l with
    |lst a=>injection q with q;exact this (q.trans z)
    |tup a=>injection q with q;exact this (q.trans z)
    |str _ _=>cases q
  have f1:∀c∈fp1,c≠z/\c≠TO/\c≠i2:=λc hc=>⟨no1 z fz.1 D.i1z.symm c hc,no1 TO fTO.1 D.TOi1 c hc,no1 i2 fi2.1 D.i12.symm c hc⟩;have f2:∀c∈fp2,c≠z/\c≠TO/\c≠i1:=λc hc=>⟨no2 z fz.1 D.i2z.symm c hc,no2 TO fTO.1 D.TOi2 c hc,no2 i1 fi1.1 D.i12 c hc⟩;have ltz:z < (~~~s):=ax hz;have ltTI:TI < (~~~s):=ax hTI;have ltTO:TO < (~~~s):=ax hTO;have lti1:i1 < (~~~s):=by obtain ⟨_,e,_⟩:=h1;exact ax e
  have lti2:i2 < (~~~s):=by obtain ⟨_,e,_⟩:=h2;exact ax e
  unfold pyNext;refine af (wpAny_attempt (d5 (name:=Str.ofString "__next__") hT F.slot_zip_next
   (fo F.slot_zip_next hT F.entry_zip_next (R9 D Dr1.D Dr2.D f1 f2 hz hTI hTO Dr1.st Dr2.st l1 l2 λh' tk c d pc pd a1 a2 a3 a4 a5 a6 hk=>av ?_) (F.args_zip_next_1 _))))
  obtain ⟨y,hy,ry⟩:=Dr1.val _ _ pc;obtain ⟨y',hy',ry'⟩:=Dr2.val _ _ pd;refine ⟨_,rfl,?_⟩;refine wpAny_letOwnedTupleGo_zip a1 λh2' hz2 hs2=>?_;have hs2':Heap.SameBut z h' h2':=hs2;have hn:H (~~~s)=none:=I.hok.fresh (am _);have k2:∀b o,b∉[z,TI,TO,i1,i2]->s.heap.get? b=some o->h2'.get? b=some o:=λb o hb q=>by
   have hb':b≠z/\b≠TI/\b≠TO/\b≠i1/\b≠i2:=by simpa using hb
   exact hs2'.extBut b o hb'.1 (hk b o hb'.1 hb'.2.2.1 hb'.2.2.2.1 hb'.2.2.2.2 q)
  have I2:Inv X pins Y H { s with heap:=h2',toks:=tk }:=I.turnedL hf k2;have ht2:h2'.get? (~~~s)=some { cls:=.type "tuple",data:=.seq #[c,d] }:=hs2'.extBut _ _ (dA ltz) a5;have ob:ObjOk X.prog X.w (upd H (~~~s) (.tup [y,y'])) h2' (~~~s) (.tup [y,y']):=
   ⟨by rw[eL];simp,[c,d],.cons ry (.cons ry' .nil),⟨_,ht2,rfl,_,rfl⟩⟩
  have I3:=I2.track (I.fpOk (am _) hn) ob;refine ⟨.ref (~~~s),_,I3,rfl,⟨(~~~s),y,y',hn,rfl,rfl,λus hu=>by rw[pU hu sat1];exact hy,λus hu=>by rw[pU hu sat2];exact hy'⟩,
   ⟨hz2,hs2'.extBut _ _ D.TIz (hk _ _ D.TIz D.TITO D.TIi1 D.TIi2 hTI),⟨_,_,hs2'.extBut _ _ D.TOz a2⟩,(Dr1.pos _ _ a3).keep λo e=>hs2'.extBut _ _ D.i1z e,(Dr2.pos _ _ a4).keep λo e=>hs2'.extBut _ _ D.i2z e⟩,λb hb=>?_⟩
  have hb':b=z\/b=TI\/b=TO\/b=i1\/b=i2:=by simpa using hb
  rw[aB (by rcases hb' with rfl |rfl |rfl |rfl |rfl <;> exact cf ‹_›)];exact (hf b hb).1
 done:=by
  intro X hP hw hK hc i pins s Y H E I hf st hg;subst hP hw hK;obtain ⟨vs,ws,sat1,sat2,hend⟩:=hg;obtain ⟨hz,hTI,⟨a,b,hTO⟩,h1,h2⟩:=st;have hT:s.TypeIs (.ref z) "zip":=⟨_,hz,rfl⟩;have fz:=hf z (by simp);have fTO:=hf TO (by simp);have fi1:=hf i1 (by simp);have fi2:=hf i2 (by simp);obtain ⟨fp1,P1,S1,Dr1⟩:=drawn (A:=X.A.in1) (I.ok.hd hc) I sat1 fi1.1 h1;obtain ⟨fp2,P2,S2,Dr2⟩:=drawn (A:=X.A.in1) (I.ok.hd hc) I sat2 fi2.1 h2;have no1:∀e,H e=none->e≠i1->∀c∈fp1,c≠e:=λe he hei c hc z=>by
   rcases Dr1.fp c hc with q |q
   ·exact hei (z.symm.trans q)
   ·have:=sat1.no he;cases k with
    |lst a=>injection q with q;exact this (q.trans z)
    |tup a=>injection q with q;exact this (q.trans z)
    |str _ _=>cases q
  have no2:∀e,H e=none->e≠i2->∀c∈fp2,c≠e:=λe he hei c hc z=>by
   rcases Dr2.fp c hc with q |q
   ·exact hei (z.symm.trans q)
   ·have:=sat2.no he;cases l with
    |lst a=>injection q with q;exact this (q.trans z)
    |tup a=>injection q with q;exact this (q.trans z)
    |str _ _=>cases q
  have f1:∀c∈fp1,c≠z/\c≠TO/\c≠i2:=λc hc=>⟨no1 z fz.1 D.i1z.symm c hc,no1 TO fTO.1 D.TOi1 c hc,no1 i2 fi2.1 D.i12.symm c hc⟩;have f2:∀c∈fp2,c≠z/\c≠TO/\c≠i1:=λc hc=>⟨no2 z fz.1 D.i2z.symm c hc,no2 TO fTO.1 D.TOi2 c hc,no2 i1 fi1.1 D.i12 c hc⟩;have fin:∀(h':Heap)(tk:Nat)(e:Addr),(∀c o,c≠z->c≠TO->c≠i1->c≠i2->s.heap.get? c=some o->h'.get? c=some o)->Inv X pins Y H { s with heap:=h',toks:=tk }:=λh' tk e hk=>I.turnedL (t':=tk) hf λb o hb q=>by
   have hb':b≠z/\b≠TI/\b≠TO/\b≠i1/\b≠i2:=by simpa using hb
   exact hk b o hb'.1 hb'.2.2.1 hb'.2.2.2.1 hb'.2.2.2.2 q
  unfold pyNext;refine af (wpAny_attempt (d5 (name:=Str.ofString "__next__") hT F.slot_zip_next
   (fo F.slot_zip_next hT F.entry_zip_next ?_ (F.args_zip_next_1 _))))
  rcases hend with ⟨e1,_⟩ |⟨e1,e2⟩
  ·subst e1;refine Sd D Dr1.D (λc hc=>(f1 c hc).1) hz hTI hTO Dr1.st λh' e hk he=>?_;obtain ⟨o,ho,hc'⟩:=he;refine af (wpAny_isInstance (T:="StopIteration") (b:=true) ⟨o,ho,hc'⟩ isSubtype_stop ?_);exact av ⟨rfl,fin h' s.toks e hk⟩
  ·refine Sg D Dr1.D Dr2.D f1 f2 hz hTI hTO Dr1.st Dr2.st e1 e2.symm λh' tk e hk he=>?_;obtain ⟨o,ho,hc'⟩:=he;refine af (wpAny_isInstance (T:="StopIteration") (b:=true) ⟨o,ho,hc'⟩ isSubtype_stop ?_);exact av ⟨rfl,fin h' tk e hk⟩
 self:=λA i s Q E st h=>wpAny_pyIter_zip st.1 h
open Sem (wp)
open AutoSeq1 (wpAny_loadPart')
set_option maxHeartbeats 1000000 in
theorem Ss(l:Addr)(items:Array Value)(n:Nat)(dct:Option Addr)(sl:Array (Option Value)):
  Meets (Builtin.«enumerate.__new__» ⟨[.type "enumerate",.ref l],[]⟩) (λ_ R s=>s.heap.get? l=some { cls:=.type "tuple",dict:=dct,data:=.seq items n,slots:=sl }/\
   R (.ok (.ret (.ref (s.heap.push { cls:=.type "tuple_iterator",data:=.fields #[.ref l,.int 0 0] }).objs.size)))
    { s with heap:=(s.heap.push { cls:=.type "tuple_iterator",data:=.fields #[.ref l,.int 0 0] }).push { cls:=.type "enumerate",data:=.fields #[.none,.bool false,.ref (~~~s),rawInt 0,.none,.none] } }):=
 .of_wp λprog w A R s h=>by
  obtain ⟨hp,g,d,tk,os⟩:=s;obtain ⟨hl,h⟩:=h;have hsub:=sub_enumerate;have hL:Heap.IsTuple (Shared.heap ⟨hp,g,d,tk,os⟩) l items:=⟨_,hl,rfl,n,rfl⟩;wp_walk using wpAny_loadPart' hl
  refine wpAny_stack_any λst=>av ?_;split
  ·rename_i c _ _ _ _ _;cases (c==Value.type "enumerate")
   ·wp_walk using wpAny_loadPart' hl,wpAny_pyIter_tuple hL
    exact ⟨_,rfl,h⟩
   ·wp_walk using wpAny_loadPart' hl,wpAny_pyIter_tuple hL
    exact ⟨_,rfl,h⟩
  ·wp_walk using wpAny_loadPart' hl,wpAny_pyIter_tuple hL
   exact ⟨_,rfl,h⟩
abbrev pW(h:Heap)(k:SK):Heap:=h.push k.obj
abbrev pX(h:Heap)(k l:SK):Heap:=(pW h k).push l.obj
abbrev pY (h:Heap) (k l:SK):Heap:=(pX h k l).push { cls:=.type "tuple",data:=.seq #[.ref h.objs.size,.ref (pW h k).objs.size] }
abbrev pZ (h:Heap) (k l:SK):Heap:=(pY h k l).push { cls:=.type "tuple",data:=.seq #[.none,.none] }
abbrev ig (h:Heap) (k l:SK):Heap:=(pZ h k l).push { cls:=.type "zip",data:=.fields #[.none,.bool false,.bool false,.ref (pX h k l).objs.size,.ref (pY h k l).objs.size] }
theorem Su(k l:SK)(xs ys:Array Value):
  Meets (Builtin.«zip.__new__» ⟨[.type "zip",k.val,l.val],[]⟩) (λ_ R s=>k.On xs s.heap/\l.On ys s.heap/\R (.ok (.ret (.ref (pZ s.heap k l).objs.size))) { s with heap:=ig s.heap k l }):=
 .of_wp λprog w A R s h=>by
  obtain ⟨hp,g,d,tk,os⟩:=s;obtain ⟨h1,h2,h⟩:=h;have hsub:=sub_zip;have h1':k.On xs (Shared.heap ⟨hp,g,d,tk,os⟩):=h1;have h2':l.On ys (Shared.heap ⟨hp.push k.obj,g,d,tk,os⟩):=SK.On.keeps h2 λb o _ e=>ag _ e;wp_walk using SK.iter h1',SK.iter h2'
  exact ⟨_,rfl,h⟩
section
variable {prog:Program} {w:World} {A:Around} {E:Value->Shared->Prop} {s:Shared}
theorem Sv{k l:SK}{xs ys:Array Value}{Q:Value->Shared->Prop}(h1:k.On xs s.heap)(h2:l.On ys s.heap)
  (h:∀h',IsZip h' ((~~~s)+4) ((~~~s)+2) ((~~~s)+3) .none->IsPair h' ((~~~s)+2) (.ref (~~~s)) (.ref ((~~~s)+1))->
   IsPair h' ((~~~s)+3) .none .none->k.pos (~~~s) 0 h'->l.pos ((~~~s)+1) 0 h'->h'.objs.size=(~~~s)+5->
   (∀c o,s.heap.get? c=some o->h'.get? c=some o)->Q (.ref ((~~~s)+4)) { s with heap:=h' }):
  wpAny (model prog w) A (call (.type "zip") [k.val,l.val]) Q E s:=by
 refine callType_new F.called_zip (by decide) (F.typeCall_zip_2 _ _) (F.newCall_zip_2 _ _) (λobj=>F.args_object_init_3 obj _ _) F.entry_zip_new
  (Su k l xs ys) ⟨h1,h2,?_⟩
 have z1:(pW s.heap k).objs.size=(~~~s)+1:=eI ..;have z2:(pX s.heap k l).objs.size=(~~~s)+2:=by rw[eI,z1]
 have z3:(pY s.heap k l).objs.size=(~~~s)+3:=by rw[eI,z2]
 have z4:(pZ s.heap k l).objs.size=(~~~s)+4:=by rw[eI,z3]
 have z5:(ig s.heap k l).objs.size=(~~~s)+5:=by rw[eI,z4]
 have g5:(ig s.heap k l).get? (pZ s.heap k l).objs.size=some _:=aI _ rfl;have g4:(ig s.heap k l).get? (pY s.heap k l).objs.size=some _:=ag _ (aI _ rfl);have g3:(ig s.heap k l).get? (pX s.heap k l).objs.size=some _:=ag _ (ag _ (aI _ rfl));have g2:(ig s.heap k l).get? (pW s.heap k).objs.size=some _:=ag _ (ag _ (ag _ (aI _ rfl)));have g1:(ig s.heap k l).get? (~~~s)=some _:=ag _ (ag _ (ag _ (ag _ (aI _ rfl))));show _/\_;rw[z2,z3,z4]at g5;rw[z1,z2]at g3;rw[z3]at g4;rw[z1]at g2;rw[z4];exact ⟨⟨_,g5,rfl⟩,h _ g5 g3 g4 ⟨_,g1,rfl,rfl⟩ ⟨_,g2,rfl,rfl⟩ z5 λc o x=>
  ag _ (ag _ (ag _ (ag _ (ag _ x))))⟩
theorem Sw{l:Addr}{items:Array Value}{Q:Value->Shared->Prop}(hL:s.heap.IsTuple l items)
  (h:∀h',IsEnum h' ((~~~s)+1) (~~~s) 0 .none->h'.IsTupleIter (~~~s) l 0->h'.objs.size=(~~~s)+2->
   (∀b o,s.heap.get? b=some o->h'.get? b=some o)->Q (.ref ((~~~s)+1)) { s with heap:=h' }):
  wpAny (model prog w) A (call (.type "enumerate") [.ref l]) Q E s:=by
 obtain ⟨⟨c,dct,dt,sl⟩,hl,hc,n,hd⟩:=hL;replace hc:c=.type "tuple":=hc;replace hd:dt=.seq items n:=hd;subst hc hd;refine callType_new F.called_enumerate (by decide) (F.typeCall_enumerate_1 _) (F.newCall_enumerate_1 _) (λobj=>F.args_object_init_2 obj _) F.entry_enumerate_new
  (Ss l items n dct sl) ⟨hl,?_⟩
 have hz:(s.heap.push { cls:=.type "tuple_iterator",data:=.fields #[.ref l,.int 0 0] }).objs.size=(~~~s)+1:=eI ..;show _/\_;rw[hz];have he:IsEnum ((s.heap.push { cls:=.type "tuple_iterator",data:=.fields #[.ref l,.int 0 0] }).push
   { cls:=.type "enumerate",data:=.fields #[.none,.bool false,.ref (~~~s),rawInt 0,.none,.none] }) ((~~~s)+1) (~~~s) 0 .none:=by
  have:=aI (s.heap.push { cls:=.type "tuple_iterator",data:=.fields #[.ref l,.int 0 0] })
   (o:={ cls:=.type "enumerate",data:=.fields #[.none,.bool false,.ref (~~~s),rawInt 0,.none,.none] }) rfl
  rw[hz]at this;exact this
 refine ⟨⟨_,he,rfl⟩,h _ he ⟨_,ag _ (aI _ rfl),rfl,rfl⟩ (by rw[eI,hz]) λb o x=>ag _ (ag _ x)⟩
theorem Sy{k:SK}{xs:Array Value}{Q:Value->Shared->Prop}(h1:k.On xs s.heap)
  (h:∀h',IsEnum h' ((~~~s)+1) (~~~s) 0 .none->k.pos (~~~s) 0 h'->h'.objs.size=(~~~s)+2->
   (∀b o,s.heap.get? b=some o->h'.get? b=some o)->Q (.ref ((~~~s)+1)) { s with heap:=h' }):
  wpAny (model prog w) A (call (.type "enumerate") [k.val]) Q E s:=by
 cases k with
 |lst a=>exact call_enumerate_list h1 h
 |tup a=>exact Sw h1 h
 |str x t=>exact call_enumerate_str h
end
set_option backward.match.sparseCases false
structure OT where
 ms:List (String×String×String×Nat):=[]
 ks:List (String×Nat):=[]
 fl:List (String×String):=[]
 xk:List (String×String):=[]
 qs:List (String×Nat):=[]
structure CT where
 N:List Str
 kd:List (Str×NameKind)
 fn:Bool
 fs:List (String×Nat)
 bt:List String
 cn:List (String×D)
 xs:List (String×Bool):=[]
 ot:OT:={}
 cm:Bool:=true
def j7 (f:String):Bool:=["all","any","sum","min","max","list","sorted","set","range","zip","enumerate","reversed"].contains f
def CT.quiet(c:CT):CT:={ c with fs:=c.ot.qs,bt:=c.bt.filter (λf=>!j7 f),ot:={ xk:=c.ot.xk },cm:=false }
def fM:Option NameKind->Bool
 |some .local=>true
 |some .cell=>true
 |some .free=>true
 |_=>false
def CT.sto(c:CT)(x:Str):Bool:=c.kd.lookup x==some .local||(c.fn&&c.kd.lookup x==some .cell)
def okN (x:Str):Bool:=!(x==("__debug__":Str))&&!(x==("__classdict__":Str))&&!(x==("__name__":Str))
def CT.glo(c:CT)(x:Str):Bool:=c.kd.lookup x==some .globalImplicit&&okN x
def sEq:D->D->Bool
 |.non,.non=>true
 |.bl a,.bl b=>a==b
 |.int a,.int b=>a==b
 |.str a,.str b=>a==b
 |_,_=>false
theorem SJ{a b:D}(h:sEq a b=true):a=b:=by cases a <;> cases b <;> simp_all [sEq]
def jg(d:D)(k:Const):Bool:=
 match d,k with
 |.non,.none=>true
 |.bl a,.bool b=>a==b
 |.int a,.int b=>a==b
 |.str a,.str b=>a==b.cps.toList&&decide (a.length<=sz)
 |_,_=>false
def Bf.name:Bf->String
 |.len=>"len"
 |.all=>"all"
 |.int=>"int"
 |.tuple=>"tuple"
 |.sum=>"sum"
 |.min=>"min"
 |.max=>"max"
 |.abs=>"abs"
 |.min2=>"min"
 |.str=>"str"
def vo:Bf->Bool
 |.sum=>false
 |.min=>false
 |.max=>false
 |.abs=>false
 |.min2=>false
 |.str=>true
 |_=>true
def vp:Lf->Bool
 |.sorted=>false
 |_=>true
def Lf.name:Lf->String
 |.list=>"list"
 |.sorted=>"sorted"
def Mf.name:Mf->String
 |.join=>"join"
 |.split=>"split"
 |.append=>"append"
 |.extend=>"extend"
 |.count=>"count"
 |.index=>"index"
def p6:Expr->Bool
 |.Name _ _=>true
 |.Subscript _ _ _=>true
 |_=>false
theorem SN{v:Expr}(h:p6 v=true)(name:Str)(env:Env):attributeBase v name env (eval v env)=eval v env:=by cases v <;> first |rfl |cases h
def p7:Expr->Bool
 |.Call (.Name _ _) [] [] _=>true
 |_=>false
def bY:Expr->Bool
 |.ListComp ..=>true
 |.SetComp ..=>true
 |.DictComp ..=>true
 |_=>false
def ik:Expr->Bool
 |.UnaryOp .Not _ _=>false
 |.BoolOp ..=>false
 |.IfExp ..=>false
 |.Compare ..=>false
 |_=>true
def gw(N:List Str)(scope:Scope):List Str->List (Option Nat)->Bool
 |[],[]=>true
 |_::N',none::cap=>gw N scope N' cap
 |x::N',some j::cap=>(N[j]?==some x)&&(scope.names.lookup x==some NameKind.free)&&gw N scope N' cap
 |_,_=>false
def gA(c:CT)(scope:Scope):Bool:=
 scope.names.all (λy=>y.2 != NameKind.cell)&&scope.names.all (λy=>y.2 != NameKind.local||scope.names.lookup y.1==some NameKind.local) &&
 scope.names.all (λy=>y.2 != NameKind.free||(c.kd.lookup y.1==some NameKind.cell||c.kd.lookup y.1==some NameKind.free))&&decide (scope.kind=.function)&&c.cm
def CT.comp(c:CT)(N:List Str)(scope:Scope):CT:={ N:=N,kd:=scope.names,fn:=false,fs:=c.fs,bt:=c.bt,cn:=c.cn,ot:=c.ot,cm:=c.cm }
def eN:List Str->Bool
 |[]=>true
 |x::r=>!r.contains x&&eN r
def asName(e:Expr):Option { t:Str×Pos // e=.Name t.1 t.2 }:=match e with
 |.Name a0 a1=>some ⟨(a0,a1),rfl⟩
 |_=>none
def Bw(e:Expr):Option { t:Expr×Pos // e=.Starred t.1 t.2 }:=match e with
 |.Starred a0 a1=>some ⟨(a0,a1),rfl⟩
 |_=>none
def jh(e:Expr):Option { t:Const×Nat×Pos // e=.Constant t.1 t.2.1 t.2.2 }:=match e with
 |.Constant a0 a1 a2=>some ⟨(a0,a1,a2),rfl⟩
 |_=>none
def Bx(e:Expr):Option { t:Expr×Operator×Expr×Pos // e=.BinOp t.1 t.2.1 t.2.2.1 t.2.2.2 }:=match e with
 |.BinOp a0 a1 a2 a3=>some ⟨(a0,a1,a2,a3),rfl⟩
 |_=>none
def ji(e:Expr):Option { t:UnaryOp×Expr×Pos // e=.UnaryOp t.1 t.2.1 t.2.2 }:=match e with
 |.UnaryOp a0 a1 a2=>some ⟨(a0,a1,a2),rfl⟩
 |_=>none
def j8(e:Expr):Option { t:Expr×List CmpOp×List Expr×Pos // e=.Compare t.1 t.2.1 t.2.2.1 t.2.2.2 }:=match e with
 |.Compare a0 a1 a2 a3=>some ⟨(a0,a1,a2,a3),rfl⟩
 |_=>none
def p8(e:Expr):Option { t:BoolOp×List Expr×Pos // e=.BoolOp t.1 t.2.1 t.2.2 }:=match e with
 |.BoolOp a0 a1 a2=>some ⟨(a0,a1,a2),rfl⟩
 |_=>none
def By(e:Expr):Option { t:Expr×Expr×Expr×Pos // e=.IfExp t.1 t.2.1 t.2.2.1 t.2.2.2 }:=match e with
 |.IfExp a0 a1 a2 a3=>some ⟨(a0,a1,a2,a3),rfl⟩
 |_=>none
def dD(e:Expr):Option { t:List Expr×Nat×Pos // e=.Tuple t.1 t.2.1 t.2.2 }:=match e with
 |.Tuple a0 a1 a2=>some ⟨(a0,a1,a2),rfl⟩
 |_=>none
def asList(e:Expr):Option { t:List Expr×Pos // e=.List t.1 t.2 }:=match e with
 |.List a0 a1=>some ⟨(a0,a1),rfl⟩
 |_=>none
def gB(e:Expr):Option { t:Expr×Expr×Pos // e=.Subscript t.1 t.2.1 t.2.2 }:=match e with
 |.Subscript a0 a1 a2=>some ⟨(a0,a1,a2),rfl⟩
 |_=>none
def qb(e:Expr):Option { t:Option Expr×Option Expr×Option Expr×Pos // e=.Slice t.1 t.2.1 t.2.2.1 t.2.2.2 }:=match e with
 |.Slice a0 a1 a2 a3=>some ⟨(a0,a1,a2,a3),rfl⟩
 |_=>none
def j9(e:Expr):Option { t:Expr×List Expr×List Keyword×Pos // e=.Call t.1 t.2.1 t.2.2.1 t.2.2.2 }:=match e with
 |.Call a0 a1 a2 a3=>some ⟨(a0,a1,a2,a3),rfl⟩
 |_=>none
def jj(e:Expr):Option { t:Expr×Str×Pos // e=.Attribute t.1 t.2.1 t.2.2 }:=match e with
 |.Attribute a0 a1 a2=>some ⟨(a0,a1,a2),rfl⟩
 |_=>none
def BJ(e:Expr):Option { t:Expr×List Comprehension×Scope×Pos // e=.ListComp t.1 t.2.1 t.2.2.1 t.2.2.2 }:=match e with
 |.ListComp a0 a1 a2 a3=>some ⟨(a0,a1,a2,a3),rfl⟩
 |_=>none
def vq(e:Stmt):Option { t:Expr×Pos // e=.Expr t.1 t.2 }:=match e with
 |.Expr a0 a1=>some ⟨(a0,a1),rfl⟩
 |_=>none
def dW(e:Stmt):Option { t:List Expr×Expr×Pos // e=.Assign t.1 t.2.1 t.2.2 }:=match e with
 |.Assign a0 a1 a2=>some ⟨(a0,a1,a2),rfl⟩
 |_=>none
def aec(e:Stmt):Option { t:Expr×Operator×Expr×Pos // e=.AugAssign t.1 t.2.1 t.2.2.1 t.2.2.2 }:=match e with
 |.AugAssign a0 a1 a2 a3=>some ⟨(a0,a1,a2,a3),rfl⟩
 |_=>none
def BK(e:Stmt):Option { t:Option Expr×Option Expr×Pos // e=.Raise t.1 t.2.1 t.2.2 }:=match e with
 |.Raise a0 a1 a2=>some ⟨(a0,a1,a2),rfl⟩
 |_=>none
def qe(e:Stmt):Option { t:List Stmt×List ExceptHandler×List Stmt×List Stmt×Pos // e=.Try t.1 t.2.1 t.2.2.1 t.2.2.2.1 t.2.2.2.2 }:=match e with
 |.Try a0 a1 a2 a3 a4=>some ⟨(a0,a1,a2,a3,a4),rfl⟩
 |_=>none
def qg(e:ExceptHandler):Option { t:Option Expr×Option Str×List Stmt×Pos // e=.ExceptHandler t.1 t.2.1 t.2.2.1 t.2.2.2 }:=match e with
 |.ExceptHandler a0 a1 a2 a3=>some ⟨(a0,a1,a2,a3),rfl⟩
def qi(e:Expr):Option { t:Expr×Int×Option Expr×Pos // e=.FormattedValue t.1 t.2.1 t.2.2.1 t.2.2.2 }:=match e with
 |.FormattedValue a0 a1 a2 a3=>some ⟨(a0,a1,a2,a3),rfl⟩
 |_=>none
def vy(e:Expr):Option { t:List Expr×Pos // e=.JoinedStr t.1 t.2 }:=match e with
 |.JoinedStr a0 a1=>some ⟨(a0,a1),rfl⟩
 |_=>none
def SQ(k:Const):Option { x:Str // k=.str x }:=match k with
 |.str x=>some ⟨x,rfl⟩
 |_=>none
def aed(b:Bool)(k:Const):Bool:=match k with
 |.bool c=>c==b
 |_=>false
def qj(e:Stmt):Option { t:Option Expr×Pos // e=.Return t.1 t.2 }:=match e with
 |.Return a0 a1=>some ⟨(a0,a1),rfl⟩
 |_=>none
def BL(e:Stmt):Option { t:Expr×List Stmt×List Stmt×Pos // e=.If t.1 t.2.1 t.2.2.1 t.2.2.2 }:=match e with
 |.If a0 a1 a2 a3=>some ⟨(a0,a1,a2,a3),rfl⟩
 |_=>none
def BP(e:Stmt):Option { t:Expr×Expr×List Stmt×List Stmt×Pos // e=.For t.1 t.2.1 t.2.2.1 t.2.2.2.1 t.2.2.2.2 }:=match e with
 |.For a0 a1 a2 a3 a4=>some ⟨(a0,a1,a2,a3,a4),rfl⟩
 |_=>none
def aee(e:Stmt):Option { t:Expr×List Stmt×List Stmt×Pos // e=.While t.1 t.2.1 t.2.2.1 t.2.2.2 }:=match e with
 |.While a0 a1 a2 a3=>some ⟨(a0,a1,a2,a3),rfl⟩
 |_=>none
def BR(e:Stmt):Option { t:Pos // e=.Pass t }:=match e with
 |.Pass a0=>some ⟨a0,rfl⟩
 |_=>none
def BV(e:Stmt):Option { t:Pos // e=.Break t }:=match e with
 |.Break a0=>some ⟨a0,rfl⟩
 |_=>none
def BW(e:Stmt):Option { t:Pos // e=.Continue t }:=match e with
 |.Continue a0=>some ⟨a0,rfl⟩
 |_=>none
def one{α:Type}:List α->Option α
 |[a]=>some a
 |_=>none
def three{α:Type}:List α->Option (α×α×α)
 |[x,y,z]=>some (x,y,z)
 |_=>none
def two{α:Type}:List α->Option (α×α)
 |[a,b]=>some (a,b)
 |_=>none
def hdT{α:Type}:List α->Option (α×List α)
 |a::r=>some (a,r)
 |[]=>none
theorem bT{α:Type}{l:List α}{a:α}(h:one l=some a):l=[a]:=by
 cases l with
 |nil=>cases h
 |cons x r=>cases r with
  |nil=>cases h;rfl
  |cons _ _=>cases h
theorem eO{α:Type}{l:List α}{a:α×α}(h:two l=some a):l=[a.1,a.2]:=by
 cases l with
 |nil=>cases h
 |cons x r=>cases r with
  |nil=>cases h
  |cons y r=>cases r with
   |nil=>cases h;rfl
   |cons _ _=>cases h
theorem BX{α:Type}{l:List α}{a:α×List α}(h:hdT l=some a):l=a.1::a.2:=by
 cases l with
 |nil=>cases h
 |cons x r=>cases h;rfl
theorem aK{α:Type}{o:Option α}{p:α->Bool}(h:o.any p=true):∃t,o=some t/\p t=true:=by
 cases o with
 |none=>cases h
 |some t=>exact ⟨t,rfl,h⟩
def vz:UnaryOp->Bool
 |.USub=>true
 |_=>false
def kh:UnaryOp->Bool
 |.Not=>true
 |_=>false
theorem SX{o:UnaryOp}(h:vz o=true):o=.USub:=by cases o <;> first |rfl |cases h
theorem BZ{o:UnaryOp}(h:kh o=true):o=.Not:=by cases o <;> first |rfl |cases h
def bu(e:Expr):Option (Str×Pos×List Expr×Pos):=(j9 e).bind λt=>(asName t.1.1).bind λn=>match t.1.2.2.1 with |[]=>some (n.1.1,n.1.2,t.1.2.1,t.1.2.2.2) |_::_=>none
def ao{α:Type}{q:α->Prop}(o:Option { t:α // q t })(P:α->Bool):Bool:=match o with |some t=>P t.1 |none=>false
theorem aC{α:Type}{q:α->Prop}{o:Option { t:α // q t }}{P:α->Bool}(h:ao o P=true):∃t,q t/\P t=true:=by
 cases o with
 |none=>cases h
 |some t=>exact ⟨t.1,t.2,h⟩
theorem jk{α β:Type}{o:Option α}{f:α->Option β}{b:β}(h:o.bind f=some b):∃t,o=some t/\f t=some b:=by
 cases o with
 |none=>cases h
 |some t=>exact ⟨t,rfl,h⟩
theorem dX{e:Expr}{t:Str×Pos×List Expr×Pos}(h:bu e=some t):e=.Call (.Name t.1 t.2.1) t.2.2.1 [] t.2.2.2:=by
 obtain ⟨⟨⟨f,as,ks,p⟩,hu⟩,_,h⟩:=jk h;obtain ⟨⟨⟨x,p'⟩,hn⟩,_,h⟩:=jk h;dsimp only at h hn hu;cases ks with
 |nil=>cases h;rw[hu,hn]
 |cons _ _=>cases h
def vA (e:Expr):Option (Str×Pos×Expr×Expr×Pos×Pos):=(j9 e).bind λt=>(asName t.1.1).bind λn=>(one t.1.2.1).bind λv=>(one t.1.2.2.1).bind λkw=>if kw.arg=some (Str.ofString "start") then some (n.1.1,n.1.2,v,kw.value,kw.pos,t.1.2.2.2) else none
theorem S5 {e:Expr} {t:Str×Pos×Expr×Expr×Pos×Pos} (h:vA e=some t):e=.Call (.Name t.1 t.2.1) [t.2.2.1] [⟨some (Str.ofString "start"),t.2.2.2.1,t.2.2.2.2.1⟩] t.2.2.2.2.2:=by
 obtain ⟨⟨⟨f,as,ks,p⟩,hu⟩,_,h⟩:=jk h;obtain ⟨⟨⟨x,p'⟩,hn⟩,_,h⟩:=jk h;dsimp only at h hn hu;obtain ⟨v,hv,h⟩:=jk h;obtain ⟨⟨ka,kv,kp⟩,hk,h⟩:=jk h;dsimp only at h;split at h
 ·rename_i he;cases h;rw[hu,hn,bT hv,bT hk,he]
 ·cases h
def kj(e:Expr):Bool:=(j8 e).isSome
def Ca:Ex->Bool
 |.frz _=>false
 |_=>true
def vB:Tx->Bool
 |.yes=>true
 |_=>false
mutual
def cA(c:CT):Tg->Expr->Bool
 |.nm i,e=>ao (asName e) λt=>(c.N[i]?==some t.1)&&c.sto t.1
 |.tp ts,e=>ao (dD e) λt=>c.cm&&cg c ts t.1
def cg(c:CT):Tgs->List Expr->Bool
 |.nil,es=>es.isEmpty
 |.cons t r,es=>match es with
  |e::es=>cA c t e&&cg c r es
  |[]=>false
end
def Cd(e:Expr):Bool:=ao (jh e) λt=>ao (SQ t.1) λx=>decide (x.length<=1000)
def unF(e:Expr):Expr:=match qi e with |some t=>t.1.1 |none=>e
def vC:Ex->Bool
 |.cst (.str _)=>true
 |_=>false
def jl:Exs->List Expr->Bool
 |.cons x xs,p::ps=>(match qi p with |some t=>decide (t.1.2.1=-1)&&t.1.2.2.1.isNone |none=>vC x)&&jl xs ps
 |.nil,ps=>ps.isEmpty
 |_,[]=>false
mutual
def aa(c:CT):Ex->Expr->Bool
 |.var i,e=>ao (asName e) λt=>(c.N[i]?==some t.1)&&fM (c.kd.lookup t.1)&&okN t.1
 |.cst d,e=>ao (jh e) λt=>jg d t.1
 |.glb x d,e=>ao (asName e) λt=>t.1==Str.ofString x&&c.glo t.1&&c.cn.any (λp=>p.1==x&&sEq p.2 d)
 |.bin op _ a b,e=>ao (Bx e) λt=>t.2.1==op&&aa c a t.1&&aa c b t.2.2.1
 |.neg a,e=>ao (ji e) λt=>vz t.1&&aa c a t.2.1
 |.cmp op a b,e=>ao (j8 e) λt=>(one t.2.1).any λo=>(one t.2.2.1).any λr=>o==op&&aa c a t.1&&aa c b r
 |.chn op op' a b d,e=>ao (j8 e) λt=>(two t.2.1).any λo=>(two t.2.2.1).any λr=>o.1==op&&o.2==op'&&aa c a t.1&&aa c b r.1&&aa c d r.2
 |.not a,e=>ao (ji e) λt=>kh t.1&&aa c a t.2.1
 |.boo isAnd x es,e=>ao (p8 e) λt=>(hdT t.2.1).any λv=>t.1==(if isAnd then .And else .Or)&&aa c x v.1&&aG c es v.2
 |.ife t a b,e=>ao (By e) λu=>bw c t u.1&&aa c a u.2.1&&aa c b u.2.2.1
 |.tup es,e=>ao (dD e) λt=>aG c es t.1
 |.lst _ es,e=>ao (asList e) λt=>aG c es t.1
 |.idx a i,e=>ao (gB e) λt=>aa c a t.1&&aa c i t.2.1
 |.slc _ a lo hi,e=>ao (gB e) λt=>ao (qb t.2.1) λs=>s.2.2.1.isNone&&(aa c a t.1&&fO c lo s.1&&fO c hi s.2.1)
 |.rvs _ a s,e=>ao (gB e) λt=>ao (qb t.2.1) λu=>u.1.isNone&&u.2.1.isNone&&(u.2.2.1.any λst=>aa c a t.1&&aa c s st)
 |.call f es,e=>(bu e).any λt=>t.1==Str.ofString f&&c.glo t.1&&(c.fs.any λp=>p.1==f&&p.2==t.2.2.1.length)&&!t.2.2.1.isEmpty&&aG c es t.2.2.1
 |.bcl f es,e=>(bu e).any λt=>t.1==Str.ofString f.name&&vo f&&c.glo t.1&&c.bt.contains f.name&&!t.2.2.1.isEmpty&&aG c es t.2.2.1
 |.lcl _ f es,e=>(bu e).any λt=>t.1==Str.ofString f.name&&vp f&&c.glo t.1&&c.bt.contains f.name&&!t.2.2.1.isEmpty&&aG c es t.2.2.1
 |.isi a t,e=>(bu e).any λu=>(two u.2.2.1).any λv=>ao (asName v.2) λy=>u.1==Str.ofString "isinstance"&&c.glo u.1&&c.bt.contains "isinstance"&&aa c a v.1&&y.1==Str.ofString t&&c.glo y.1&&c.bt.contains t&&fH t
 |.isx a C xs,e=>(bu e).any λu=>(two u.2.2.1).any λv=>ao (asName v.2) λy=>u.1==Str.ofString "isinstance"&&c.glo u.1&&c.bt.contains "isinstance"&&aa c a v.1&&y.1==Str.ofString C&&c.glo y.1&&c.xs.contains (C,false)&&xs.all λx=>c.xs.contains (x,true)||c.ot.xk.any λp=>p.1==x
 |.fst es,e=>ao (vy e) λt=>decide (2<=t.1.length)&&decide (t.1.length<=50)&&jl es t.1&&aG c es (t.1.map unF)
 |.xat C f a,e=>ao (jj e) λt=>p6 t.1&&(t.2.1==Str.ofString f&&c.ot.xk.contains (C,f)&&aa c a t.1)
 |.mth m o es,e=>ao (j9 e) λt=>ao (jj t.1) λv=>t.2.2.1.isEmpty&&(v.2.1==Str.ofString m.name&&aa c o v.1&&!p7 v.1&&(v.2.2.endLine==t.2.2.2.line)&&decide (t.2.1.length < 29)&&!t.2.1.isEmpty&&aG c es t.2.1)
 |.comp _ elt tg it cond N cap,e=>ao (BJ e) λt=>(one t.2.1).any λg=>decide (g.is_async=0)&&bQ c it g.target g.iter&&gw c.N t.2.2.1 (N.map Str.ofString) cap&&gA c t.2.2.1&&eN (N.map Str.ofString) &&
    cA (c.comp (N.map Str.ofString) t.2.2.1) tg g.target&&((vB cond&&g.ifs.isEmpty)||(one g.ifs).any λf=>bw (c.comp (N.map Str.ofString) t.2.2.1) cond f)&&aa (c.comp (N.map Str.ofString) t.2.2.1) elt t.1
 |.frz a,e=>aa c a e
def bw(c:CT):Tx->Expr->Bool
 |.val x,e=>(ik e||kj e)&&aa c x e&&Ca x
 |.not t,e=>ao (ji e) λu=>kh u.1&&bw c t u.2.1
 |.boo isAnd t ts,e=>ao (p8 e) λu=>(hdT u.2.1).any λv=>u.1==(if isAnd then .And else .Or)&&bw c t v.1&&il c ts v.2
 |.yes,_=>false
def il(c:CT):Txs->List Expr->Bool
 |.nil,es=>es.isEmpty
 |.cons t r,es=>match es with
  |e::es=>bw c t e&&il c r es
  |[]=>false
def aG(c:CT):Exs->List Expr->Bool
 |.nil,es=>es.isEmpty
 |.cons t r,es=>match es with
  |e::es=>aa c t e&&aG c r es
  |[]=>false
def fO(c:CT):Ox->Option Expr->Bool
 |.no,e=>e.isNone
 |.ob x,e=>match e with
  |some e=>aa c x e
  |none=>false
def bQ(c:CT):It'->Expr->Expr->Bool
 |.seq x,_,e=>aa c x e
 |.rng a,_,e=>(bu e).any λt=>(one t.2.2.1).any λv=>t.1==Str.ofString "range"&&c.glo t.1&&c.bt.contains "range"&&aa c a v
 |.rng2 a b,_,e=>(bu e).any λt=>(two t.2.2.1).any λv=>t.1==Str.ofString "range"&&c.glo t.1&&c.bt.contains "range"&&aa c a v.1&&aa c b v.2
 |.enm a,tg,e=>ao (dD tg) λ_=>(bu e).any λt=>(one t.2.2.1).any λv=>t.1==Str.ofString "enumerate"&&c.glo t.1&&c.bt.contains "enumerate"&&aa c a v
 |.en1 a,tg,e=>ao (dD tg) λ_=>(vA e).any λt=>t.1==Str.ofString "enumerate"&&c.glo t.1&&c.bt.contains "enumerate"&&aa c a t.2.2.1&&(ao (jh t.2.2.2.1) λu=>jg (.int 1) u.1)
 |.zip a b,tg,e=>ao (dD tg) λ_=>(bu e).any λt=>(two t.2.2.1).any λv=>t.1==Str.ofString "zip"&&c.glo t.1&&c.bt.contains "zip"&&aa c a v.1&&aa c b v.2
end
def km(c:CT)(cond:Tx)(ifs:List Expr):Bool:=(vB cond&&ifs.isEmpty)||(one ifs).any λf=>bw c cond f
def Ce:Ex->Bool
 |.comp ..=>true
 |_=>false
def kE:Expr->Bool
 |.Tuple ..=>true
 |_=>false
def vD(g:Tg)(x:Ex)(e:Expr):Bool:=match g with |.nm _=>!bY e||Ce x |.tp _=>!kE e&&!bY e
def vG(c:CT):Exs->List Expr->Bool
 |es,[]=>(match es with |.nil=>true |_=>false)
 |es,p::ps=>match Cd p with
  |true=>vG c es ps
  |false=>(match es with |.cons x r=>(ao (qi p) λt=>decide (t.2.1=-1)&&t.2.2.1.isNone&&aa c x t.1)&&vG c r ps |.nil=>false)
def aef(c:CT)(es:Exs)(e:Expr):Bool:=(match es with |.nil=>Cd e |_=>false)||ao (vy e) λt=>decide (2<=t.1.length)&&decide (t.1.length<=50)&&vG c es t.1
def fP(c:CT):Tb->List Stmt->Bool
 |.call _ _,_=>false
 |.pick _ _ _ _,_=>false
 |.asg _ _ _,_=>false
 |.ite _ _ _,_=>false
 |.asl i _ e f es,sts=>(one sts).any λs0=>ao (dW s0) λa=>(one a.1).any λtg=>ao (asName tg) λy=>ao (asList a.2.1) λl=>(two l.1).any λv=>aa c e v.1&&(bu v.2).any λu=>(c.N[i]?==some y.1&&c.sto y.1&&okN y.1)&&(u.1==Str.ofString f&&c.glo u.1&&(c.fs.any λp=>p.1==f&&p.2==u.2.2.1.length)&&!u.2.2.1.isEmpty&&aG c es u.2.2.1)
def vH(b:Bool):Const->Bool
 |.bool x=>x==b
 |_=>false
def ql(c:CT)(h:Hd)(nm:Option Str)(y:Str)(e:Expr):Bool:=(match h with
 |.flag i b=>nm.isNone&&(c.N[i]?==some y)&&ao (jh e) λk=>vH b k.1
 |.bind n i=>false)&&c.sto y&&okN y
mutual
def aY(c:CT):Sx->Stmt->Bool
 |.exp x,st=>ao (vq st) λt=>!bY t.1&&aa c x t.1
 |.star i j x,st=>ao (dW st) λt=>(one t.1).any λtg=>ao (dD tg) λu=>(two u.1).any λv=>ao (Bw v.1) λw=>ao (asName w.1) λy=>ao (asName v.2) λz=>(c.cm&&(c.N[i]?==some y.1))&&c.sto y.1&&(c.N[j]?==some z.1)&&c.sto z.1&&aa c x t.2.1&&!kE t.2.1&&!bY t.2.1
 |.asg g x,st=>ao (dW st) λt=>(one t.1).any λtg=>cA c g tg&&aa c x t.2.1&&vD g x t.2.1
 |.set o i x,st=>ao (dW st) λt=>(one t.1).any λtg=>ao (gB tg) λu=>aa c o u.1&&aa c i u.2.1&&aa c x t.2.1&&!bY t.2.1
 |.ret x,st=>ao (qj st) λt=>t.1.any λe=>aa c x e
 |.rtn,st=>ao (qj st) λt=>t.1.isNone
 |.ite t a b,st=>ao (BL st) λu=>bw c t u.1&&aD c a u.2.1&&aD c b u.2.2.1
 |.for_ g it b,st=>ao (BP st) λt=>t.2.2.2.1.isEmpty&&(c.cm&&cA c g t.1&&bQ c it t.1 t.2.1&&aD c b t.2.2.1)
 |.pas,st=>(BR st).isSome
 |.brk,st=>(BV st).isSome
 |.cnt,st=>(BW st).isSome
 |.nev,_=>true
 |.rsi C e,st=>ao (BK st) λt=>t.2.1.isNone&&t.1.any λe0=>(bu e0).any λu=>(one u.2.2.1).any λv=>u.1==Str.ofString C&&(c.cm&&c.glo u.1)&&c.ot.xk.contains (C,cz C)&&aa c e v
 |.tryh b C n ss xs,st=>ao (qe st) λt=>t.2.2.1.isEmpty&&t.2.2.2.1.isEmpty&&fP c b t.1&&(xs.all λx=>c.xs.contains (x,true)||c.ot.xk.contains (x,cz x))&&!(C=="ValueError")&&c.cm&&(one t.2.1).any λhd=>ao (qg hd) λw=>w.1.any λte=>ao (asName te) λm=>(m.1==Str.ofString C&&c.glo m.1&&c.xs.contains (C,false))&&w.2.1.any λx=>(c.N[n]?==some x)&&(c.kd.lookup x==some .local)&&okN x&&!w.2.2.1.isEmpty&&aD c.quiet ss w.2.2.1
 |.tryx b C h xs,st=>ao (qe st) λt=>t.2.2.1.isEmpty&&t.2.2.2.1.isEmpty&&fP c b t.1&&(xs.all λx=>c.xs.contains (x,true)||c.ot.xk.contains (x,cz x))&&!(C=="ValueError")&&(one t.2.1).any λhd=>ao (qg hd) λw=>w.1.any λte=>ao (asName te) λn=>(n.1==Str.ofString C&&c.glo n.1&&c.xs.contains (C,false))&&(one w.2.2.1).any λs1=>ao (dW s1) λa=>(one a.1).any λtg=>ao (asName tg) λy=>ql c h w.2.1 y.1 a.2.1
def aD(c:CT):Sxs->List Stmt->Bool
 |.nil,es=>es.isEmpty
 |.cons t r,es=>match es with
  |e::es=>aY c t e&&aD c r es
  |[]=>false
end
theorem vI{c:CT}{i:Nat}{e:Expr}(h:cA c (.nm i) e=true):∃x p,e=.Name x p/\((c.N[i]?==some x)&&c.sto x)=true:=by have h:(ao (asName e) λt=>(c.N[i]?==some t.1)&&c.sto t.1)=true:=h;obtain ⟨t,ht,h⟩:=aC h;exact ⟨_,_,ht,h⟩
theorem vJ{c:CT}{ts:Tgs}{e:Expr}(h:cA c (.tp ts) e=true):∃es k p,e=.Tuple es k p/\(c.cm&&cg c ts es)=true:=by have h:(ao (dD e) λt=>c.cm&&cg c ts t.1)=true:=h;obtain ⟨t,ht,h⟩:=aC h;exact ⟨_,_,_,ht,h⟩
theorem Cg{c:CT}{i:Nat}{e:Expr}(h:aa c (.var i) e=true):∃x p,e=.Name x p/\((c.N[i]?==some x)&&fM (c.kd.lookup x)&&okN x)=true:=by have h:(ao (asName e) λt=>(c.N[i]?==some t.1)&&fM (c.kd.lookup t.1)&&okN t.1)=true:=h;obtain ⟨t,ht,h⟩:=aC h;exact ⟨_,_,ht,h⟩
theorem Ci{c:CT}{d:D}{e:Expr}(h:aa c (.cst d) e=true):∃k n p,e=.Constant k n p/\(jg d k)=true:=by have h:(ao (jh e) λt=>jg d t.1)=true:=h;obtain ⟨t,ht,h⟩:=aC h;exact ⟨_,_,_,ht,h⟩
theorem Cj{c:CT}{x:String}{d:D}{e:Expr}(h:aa c (.glb x d) e=true):∃y p,e=.Name y p/\(y==Str.ofString x&&c.glo y&&c.cn.any (λp=>p.1==x&&sEq p.2 d))=true:=by have h:(ao (asName e) λt=>t.1==Str.ofString x&&c.glo t.1&&c.cn.any (λp=>p.1==x&&sEq p.2 d))=true:=h;obtain ⟨t,ht,h⟩:=aC h;exact ⟨_,_,ht,h⟩
theorem Ck{c:CT}{op:Operator}{fz:Bool}{a b:Ex}{e:Expr}(h:aa c (.bin op fz a b) e=true):∃l o r p,e=.BinOp l o r p/\(o==op&&aa c a l&&aa c b r)=true:=by have h:(ao (Bx e) λt=>t.2.1==op&&aa c a t.1&&aa c b t.2.2.1)=true:=h;obtain ⟨t,ht,h⟩:=aC h;exact ⟨_,_,_,_,ht,h⟩
theorem Cm{c:CT}{a:Ex}{e:Expr}(h:aa c (.neg a) e=true):∃x p,e=.UnaryOp .USub x p/\(aa c a x)=true:=by have h:(ao (ji e) λt=>vz t.1&&aa c a t.2.1)=true:=h;obtain ⟨t,ht,h⟩:=aC h;rw[ae]at h;exact ⟨_,_,by rw[ht,SX h.1],h.2⟩
theorem Cp{c:CT}{a:Ex}{e:Expr}(h:aa c (.not a) e=true):∃x p,e=.UnaryOp .Not x p/\(aa c a x)=true:=by have h:(ao (ji e) λt=>kh t.1&&aa c a t.2.1)=true:=h;obtain ⟨t,ht,h⟩:=aC h;rw[ae]at h;exact ⟨_,_,by rw[ht,BZ h.1],h.2⟩
theorem Cq{c:CT}{op:CmpOp}{a b:Ex}{e:Expr}(h:aa c (.cmp op a b) e=true):∃l o r p,e=.Compare l [o] [r] p/\(o==op&&aa c a l&&aa c b r)=true:=by have h:(ao (j8 e) λt=>(one t.2.1).any λo=>(one t.2.2.1).any λr=>o==op&&aa c a t.1&&aa c b r)=true:=h;obtain ⟨t,ht,h⟩:=aC h;obtain ⟨o,ho,h⟩:=aK h;obtain ⟨r,hr,h⟩:=aK h;exact ⟨_,_,_,_,by rw[ht,bT ho,bT hr],h⟩
theorem Cr{c:CT}{op op':CmpOp}{a b d:Ex}{e:Expr}(h:aa c (.chn op op' a b d) e=true):∃l o o' m r p,e=.Compare l [o,o'] [m,r] p/\(o==op&&o'==op'&&aa c a l&&aa c b m&&aa c d r)=true:=by have h:(ao (j8 e) λt=>(two t.2.1).any λo=>(two t.2.2.1).any λr=>o.1==op&&o.2==op'&&aa c a t.1&&aa c b r.1&&aa c d r.2)=true:=h;obtain ⟨t,ht,h⟩:=aC h;obtain ⟨o,ho,h⟩:=aK h;obtain ⟨r,hr,h⟩:=aK h;exact ⟨_,_,_,_,_,_,by rw[ht,eO ho,eO hr],h⟩
theorem Cu{c:CT}{isAnd:Bool}{x:Ex}{es:Exs}{e:Expr}(h:aa c (.boo isAnd x es) e=true):∃op v vs p,e=.BoolOp op (v::vs) p/\(op==(if isAnd then .And else .Or)&&aa c x v&&aG c es vs)=true:=by have h:(ao (p8 e) λt=>(hdT t.2.1).any λv=>t.1==(if isAnd then .And else .Or)&&aa c x v.1&&aG c es v.2)=true:=h;obtain ⟨t,ht,h⟩:=aC h;obtain ⟨v,hv,h⟩:=aK h;exact ⟨_,_,_,_,by rw[ht,BX hv],h⟩
theorem Cv{c:CT}{t:Tx}{a b:Ex}{e:Expr}(h:aa c (.ife t a b) e=true):∃t' a' b' p,e=.IfExp t' a' b' p/\(bw c t t'&&aa c a a'&&aa c b b')=true:=by have h:(ao (By e) λu=>bw c t u.1&&aa c a u.2.1&&aa c b u.2.2.1)=true:=h;obtain ⟨u,ht,h⟩:=aC h;exact ⟨_,_,_,_,ht,h⟩
theorem Cw{c:CT}{es:Exs}{e:Expr}(h:aa c (.tup es) e=true):∃vs k p,e=.Tuple vs k p/\(aG c es vs)=true:=by have h:(ao (dD e) λt=>aG c es t.1)=true:=h;obtain ⟨t,ht,h⟩:=aC h;exact ⟨_,_,_,ht,h⟩
theorem Cy{c:CT}{fz:Bool}{es:Exs}{e:Expr}(h:aa c (.lst fz es) e=true):∃vs p,e=.List vs p/\(aG c es vs)=true:=by have h:(ao (asList e) λt=>aG c es t.1)=true:=h;obtain ⟨t,ht,h⟩:=aC h;exact ⟨_,_,ht,h⟩
theorem Cz{c:CT}{a i:Ex}{e:Expr}(h:aa c (.idx a i) e=true):∃v s p,e=.Subscript v s p/\(aa c a v&&aa c i s)=true:=by have h:(ao (gB e) λt=>aa c a t.1&&aa c i t.2.1)=true:=h;obtain ⟨t,ht,h⟩:=aC h;exact ⟨_,_,_,ht,h⟩
theorem CG{c:CT}{fz:Bool}{a:Ex}{lo hi:Ox}{e:Expr}(h:aa c (.slc fz a lo hi) e=true):∃v l u p' p,e=.Subscript v (.Slice l u none p') p/\(aa c a v&&fO c lo l&&fO c hi u)=true:=by have h:(ao (gB e) λt=>ao (qb t.2.1) λs=>s.2.2.1.isNone&&(aa c a t.1&&fO c lo s.1&&fO c hi s.2.1))=true:=h;obtain ⟨t,ht,h⟩:=aC h;obtain ⟨s,hs,h⟩:=aC h;rw[ae,b9]at h;exact ⟨_,_,_,_,_,by rw[ht,hs,h.1],h.2⟩
theorem CJ{c:CT}{fz:Bool}{a s:Ex}{e:Expr}(h:aa c (.rvs fz a s) e=true):∃v st p' p,e=.Subscript v (.Slice none none (some st) p') p/\(aa c a v&&aa c s st)=true:=by have h:(ao (gB e) λt=>ao (qb t.2.1) λu=>u.1.isNone&&u.2.1.isNone&&(u.2.2.1.any λst=>aa c a t.1&&aa c s st))=true:=h;obtain ⟨t,ht,h⟩:=aC h;obtain ⟨u,hu,h⟩:=aC h;rw[ae,ae,b9,b9]at h;obtain ⟨st,hst,h'⟩:=aK h.2;exact ⟨_,_,_,_,by rw[ht,hu,h.1.1,h.1.2,hst],h'⟩
theorem CN{c:CT}{f:String}{es:Exs}{e:Expr}(h:aa c (.call f es) e=true):∃x p args pos,e=.Call (.Name x p) args [] pos/\(x==Str.ofString f&&c.glo x&&(c.fs.any λp=>p.1==f&&p.2==args.length)&&!args.isEmpty&&aG c es args)=true:=by have h:((bu e).any λt=>t.1==Str.ofString f&&c.glo t.1&&(c.fs.any λp=>p.1==f&&p.2==t.2.2.1.length)&&!t.2.2.1.isEmpty&&aG c es t.2.2.1)=true:=h;obtain ⟨t,ht,h⟩:=aK h;exact ⟨_,_,_,_,dX ht,h⟩
theorem CP{c:CT}{f:Bf}{es:Exs}{e:Expr}(h:aa c (.bcl f es) e=true):∃x p args pos,e=.Call (.Name x p) args [] pos/\(x==Str.ofString f.name&&vo f&&c.glo x&&c.bt.contains f.name&&!args.isEmpty&&aG c es args)=true:=by have h:((bu e).any λt=>t.1==Str.ofString f.name&&vo f&&c.glo t.1&&c.bt.contains f.name&&!t.2.2.1.isEmpty&&aG c es t.2.2.1)=true:=h;obtain ⟨t,ht,h⟩:=aK h;exact ⟨_,_,_,_,dX ht,h⟩
theorem CQ{c:CT}{fz:Bool}{f:Lf}{es:Exs}{e:Expr}(h:aa c (.lcl fz f es) e=true):∃x p args pos,e=.Call (.Name x p) args [] pos/\(x==Str.ofString f.name&&vp f&&c.glo x&&c.bt.contains f.name&&!args.isEmpty&&aG c es args)=true:=by have h:((bu e).any λt=>t.1==Str.ofString f.name&&vp f&&c.glo t.1&&c.bt.contains f.name&&!t.2.2.1.isEmpty&&aG c es t.2.2.1)=true:=h;obtain ⟨t,ht,h⟩:=aK h;exact ⟨_,_,_,_,dX ht,h⟩
theorem CW {c:CT} {a:Ex} {t:String} {e:Expr} (h:aa c (.isi a t) e=true):∃x p v y p' pos,e=.Call (.Name x p) [v,.Name y p'] [] pos/\(x==Str.ofString "isinstance"&&c.glo x&&c.bt.contains "isinstance"&&aa c a v&&y==Str.ofString t&&c.glo y&&c.bt.contains t&&fH t)=true:=by have h:((bu e).any λu=>(two u.2.2.1).any λv=>ao (asName v.2) λy=>u.1==Str.ofString "isinstance"&&c.glo u.1&&c.bt.contains "isinstance"&&aa c a v.1&&y.1==Str.ofString t&&c.glo y.1&&c.bt.contains t&&fH t)=true:=h;obtain ⟨u,hu,h⟩:=aK h;obtain ⟨v,hv,h⟩:=aK h;obtain ⟨y,hy,h⟩:=aC h;exact ⟨_,_,_,_,_,_,by rw[dX hu,eO hv,hy],h⟩
theorem CZ {c:CT} {a:Ex} {C:String} {xs:List String} {e:Expr} (h:aa c (.isx a C xs) e=true):∃x p v y p' pos,e=.Call (.Name x p) [v,.Name y p'] [] pos/\(x==Str.ofString "isinstance"&&c.glo x&&c.bt.contains "isinstance"&&aa c a v&&y==Str.ofString C&&c.glo y&&c.xs.contains (C,false)&&xs.all λx=>c.xs.contains (x,true)||c.ot.xk.any λp=>p.1==x)=true:=by have h:((bu e).any λu=>(two u.2.2.1).any λv=>ao (asName v.2) λy=>u.1==Str.ofString "isinstance"&&c.glo u.1&&c.bt.contains "isinstance"&&aa c a v.1&&y.1==Str.ofString C&&c.glo y.1&&c.xs.contains (C,false)&&xs.all λx=>c.xs.contains (x,true)||c.ot.xk.any λp=>p.1==x)=true:=h;obtain ⟨u,hu,h⟩:=aK h;obtain ⟨v,hv,h⟩:=aK h;obtain ⟨y,hy,h⟩:=aC h;exact ⟨_,_,_,_,_,_,by rw[dX hu,eO hv,hy],h⟩
theorem Dc{c:CT}{es:Exs}{e:Expr}(h:aa c (.fst es) e=true):∃ps pos,e=.JoinedStr ps pos/\(decide (2<=ps.length)&&decide (ps.length<=50)&&jl es ps&&aG c es (ps.map unF))=true:=by have h:(ao (vy e) λt=>decide (2<=t.1.length)&&decide (t.1.length<=50)&&jl es t.1&&aG c es (t.1.map unF))=true:=h;obtain ⟨t,ht,h⟩:=aC h;exact ⟨_,_,ht,h⟩
theorem Dd{c:CT}{C f:String}{a:Ex}{e:Expr}(h:aa c (.xat C f a) e=true):∃v n pos,e=.Attribute v n pos/\p6 v=true/\(n==Str.ofString f&&c.ot.xk.contains (C,f)&&aa c a v)=true:=by have h:(ao (jj e) λt=>p6 t.1&&(t.2.1==Str.ofString f&&c.ot.xk.contains (C,f)&&aa c a t.1))=true:=h;obtain ⟨t,ht,h⟩:=aC h;rw[ae]at h;exact ⟨_,_,_,ht,h.1,h.2⟩
theorem De{c:CT}{m:Mf}{o:Ex}{es:Exs}{e:Expr}(h:aa c (.mth m o es) e=true):∃v x apos args cpos,e=.Call (.Attribute v x apos) args [] cpos/\(x==Str.ofString m.name&&aa c o v&&!p7 v&&(apos.endLine==cpos.line)&&decide (args.length < 29)&&!args.isEmpty&&aG c es args)=true:=by have h:(ao (j9 e) λt=>ao (jj t.1) λv=>t.2.2.1.isEmpty&&(v.2.1==Str.ofString m.name&&aa c o v.1&&!p7 v.1&&(v.2.2.endLine==t.2.2.2.line)&&decide (t.2.1.length < 29)&&!t.2.1.isEmpty&&aG c es t.2.1))=true:=h;obtain ⟨t,ht,h⟩:=aC h;obtain ⟨v,hv,h⟩:=aC h;rw[ae,eP]at h;exact ⟨_,_,_,_,_,by rw[ht,hv,h.1],h.2⟩
theorem Df{c:CT}{fz:Bool}{elt:Ex}{tg:Tg}{it:It'}{cond:Tx}{N:List String}{cap:List (Option Nat)}{e:Expr}(h:aa c (.comp fz elt tg it cond N cap) e=true):∃elt' tg' iter ifs as scope pos,e=.ListComp elt' [⟨tg',iter,ifs,as⟩] scope pos/\(decide (as=0)&&bQ c it tg' iter&&gw c.N scope (N.map Str.ofString) cap&&gA c scope&&eN (N.map Str.ofString)&&cA (c.comp (N.map Str.ofString) scope) tg tg'&&km (c.comp (N.map Str.ofString) scope) cond ifs&&aa (c.comp (N.map Str.ofString) scope) elt elt')=true:=by have h:(ao (BJ e) λt=>(one t.2.1).any λg=>decide (g.is_async=0)&&bQ c it g.target g.iter&&gw c.N t.2.2.1 (N.map Str.ofString) cap&&gA c t.2.2.1&&eN (N.map Str.ofString)&&cA (c.comp (N.map Str.ofString) t.2.2.1) tg g.target&&((vB cond&&g.ifs.isEmpty)||(one g.ifs).any λf=>bw (c.comp (N.map Str.ofString) t.2.2.1) cond f)&&aa (c.comp (N.map Str.ofString) t.2.2.1) elt t.1)=true:=h;obtain ⟨t,ht,h⟩:=aC h;obtain ⟨⟨tg',iter,ifs,as⟩,hg,h⟩:=aK h;exact ⟨t.1,tg',iter,ifs,as,t.2.2.1,t.2.2.2,(ht).trans (by rw[bT hg]),h⟩
theorem S6{c:CT}{t:Tx}{e:Expr}(h:bw c (.not t) e=true):∃x p,e=.UnaryOp .Not x p/\(bw c t x)=true:=by have h:(ao (ji e) λu=>kh u.1&&bw c t u.2.1)=true:=h;obtain ⟨u,ht,h⟩:=aC h;rw[ae]at h;exact ⟨_,_,by rw[ht,BZ h.1],h.2⟩
theorem S7{c:CT}{isAnd:Bool}{x:Tx}{es:Txs}{e:Expr}(h:bw c (.boo isAnd x es) e=true):∃op v vs p,e=.BoolOp op (v::vs) p/\(op==(if isAnd then .And else .Or)&&bw c x v&&il c es vs)=true:=by have h:(ao (p8 e) λu=>(hdT u.2.1).any λv=>u.1==(if isAnd then .And else .Or)&&bw c x v.1&&il c es v.2)=true:=h;obtain ⟨t,ht,h⟩:=aC h;obtain ⟨v,hv,h⟩:=aK h;exact ⟨_,_,_,_,by rw[ht,BX hv],h⟩
theorem Dg {c:CT} {a:Ex} {tg e:Expr} (h:bQ c (.rng a) tg e=true):∃x p v pos,e=.Call (.Name x p) [v] [] pos/\(x==Str.ofString "range"&&c.glo x&&c.bt.contains "range"&&aa c a v)=true:=by have h:((bu e).any λt=>(one t.2.2.1).any λv=>t.1==Str.ofString "range"&&c.glo t.1&&c.bt.contains "range"&&aa c a v)=true:=h;obtain ⟨t,ht,h⟩:=aK h;obtain ⟨v,hv,h⟩:=aK h;exact ⟨_,_,_,_,by rw[dX ht,bT hv],h⟩
theorem Dh {c:CT} {a b:Ex} {tg e:Expr} (h:bQ c (.rng2 a b) tg e=true):∃x p v v' pos,e=.Call (.Name x p) [v,v'] [] pos/\(x==Str.ofString "range"&&c.glo x&&c.bt.contains "range"&&aa c a v&&aa c b v')=true:=by have h:((bu e).any λt=>(two t.2.2.1).any λv=>t.1==Str.ofString "range"&&c.glo t.1&&c.bt.contains "range"&&aa c a v.1&&aa c b v.2)=true:=h;obtain ⟨t,ht,h⟩:=aK h;obtain ⟨v,hv,h⟩:=aK h;exact ⟨_,_,_,_,_,by rw[dX ht,eO hv],h⟩
theorem Di {c:CT} {a:Ex} {tg e:Expr} (h:bQ c (.enm a) tg e=true):∃ts k p0 x p v pos,tg=.Tuple ts k p0/\e=.Call (.Name x p) [v] [] pos/\(x==Str.ofString "enumerate"&&c.glo x&&c.bt.contains "enumerate"&&aa c a v)=true:=by have h:(ao (dD tg) λ_=>(bu e).any λt=>(one t.2.2.1).any λv=>t.1==Str.ofString "enumerate"&&c.glo t.1&&c.bt.contains "enumerate"&&aa c a v)=true:=h;obtain ⟨g,hg,h⟩:=aC h;obtain ⟨t,ht,h⟩:=aK h;obtain ⟨v,hv,h⟩:=aK h;exact ⟨_,_,_,_,_,_,_,hg,by rw[dX ht,bT hv],h⟩
theorem Dj {c:CT} {a:Ex} {tg e:Expr} (h:bQ c (.en1 a) tg e=true):∃ts k p0 x p v w kp pos,tg=.Tuple ts k p0/\e=.Call (.Name x p) [v] [⟨some (Str.ofString "start"),w,kp⟩] pos/\(x==Str.ofString "enumerate"&&c.glo x&&c.bt.contains "enumerate"&&aa c a v&&aa c (.cst (.int 1)) w)=true:=by have h:(ao (dD tg) λ_=>(vA e).any λt=>t.1==Str.ofString "enumerate"&&c.glo t.1&&c.bt.contains "enumerate"&&aa c a t.2.2.1&&(ao (jh t.2.2.2.1) λu=>jg (.int 1) u.1))=true:=h;obtain ⟨g,hg,h⟩:=aC h;obtain ⟨t,ht,h⟩:=aK h;exact ⟨_,_,_,_,_,_,_,_,_,hg,S5 ht,h⟩
theorem Dk {c:CT} {a b:Ex} {tg e:Expr} (h:bQ c (.zip a b) tg e=true):∃ts k p0 x p v v' pos,tg=.Tuple ts k p0/\e=.Call (.Name x p) [v,v'] [] pos/\(x==Str.ofString "zip"&&c.glo x&&c.bt.contains "zip"&&aa c a v&&aa c b v')=true:=by have h:(ao (dD tg) λ_=>(bu e).any λt=>(two t.2.2.1).any λv=>t.1==Str.ofString "zip"&&c.glo t.1&&c.bt.contains "zip"&&aa c a v.1&&aa c b v.2)=true:=h;obtain ⟨g,hg,h⟩:=aC h;obtain ⟨t,ht,h⟩:=aK h;obtain ⟨v,hv,h⟩:=aK h;exact ⟨_,_,_,_,_,_,_,_,hg,by rw[dX ht,eO hv],h⟩
theorem S8{c:CT}{x:Ex}{st:Stmt}(h:aY c (.exp x) st=true):∃e pos,st=.Expr e pos/\(!bY e&&aa c x e)=true:=by have h:(ao (vq st) λt=>!bY t.1&&aa c x t.1)=true:=h;obtain ⟨t,ht,h⟩:=aC h;exact ⟨_,_,ht,h⟩
theorem S9{c:CT}{i j:Nat}{x:Ex}{st:Stmt}(h:aY c (.star i j x) st=true):∃y py sp z pz k p e pos,st=.Assign [.Tuple [.Starred (.Name y py) sp,.Name z pz] k p] e pos/\((c.cm&&(c.N[i]?==some y))&&c.sto y&&(c.N[j]?==some z)&&c.sto z&&aa c x e&&!kE e&&!bY e)=true:=by have h:(ao (dW st) λt=>(one t.1).any λtg=>ao (dD tg) λu=>(two u.1).any λv=>ao (Bw v.1) λw=>ao (asName w.1) λy=>ao (asName v.2) λz=>(c.cm&&(c.N[i]?==some y.1))&&c.sto y.1&&(c.N[j]?==some z.1)&&c.sto z.1&&aa c x t.2.1&&!kE t.2.1&&!bY t.2.1)=true:=h;obtain ⟨t,ht,h⟩:=aC h;obtain ⟨tg,hg,h⟩:=aK h;obtain ⟨u,hu,h⟩:=aC h;obtain ⟨v,hv,h⟩:=aK h;obtain ⟨w,hw,h⟩:=aC h;obtain ⟨y,hy,h⟩:=aC h;obtain ⟨z,hz,h⟩:=aC h;exact ⟨_,_,_,_,_,_,_,_,_,by rw[ht,bT hg,hu,eO hv,hw,hy,hz],h⟩
theorem Dl{c:CT}{g:Tg}{x:Ex}{st:Stmt}(h:aY c (.asg g x) st=true):∃tg e pos,st=.Assign [tg] e pos/\(cA c g tg&&aa c x e&&vD g x e)=true:=by have h:(ao (dW st) λt=>(one t.1).any λtg=>cA c g tg&&aa c x t.2.1&&vD g x t.2.1)=true:=h;obtain ⟨t,ht,h⟩:=aC h;obtain ⟨g,hg,h⟩:=aK h;exact ⟨_,_,_,by rw[ht,bT hg],h⟩
theorem Tc{c:CT}{o i x:Ex}{st:Stmt}(h:aY c (.set o i x) st=true):∃o' i' tpos e pos,st=.Assign [.Subscript o' i' tpos] e pos/\(aa c o o'&&aa c i i'&&aa c x e&&!bY e)=true:=by have h:(ao (dW st) λt=>(one t.1).any λtg=>ao (gB tg) λu=>aa c o u.1&&aa c i u.2.1&&aa c x t.2.1&&!bY t.2.1)=true:=h;obtain ⟨t,ht,h⟩:=aC h;obtain ⟨g,hg,h⟩:=aK h;obtain ⟨u,hu,h⟩:=aC h;exact ⟨_,_,_,_,_,by rw[ht,bT hg,hu],h⟩
theorem Td{c:CT}{C:String}{e:Ex}{st:Stmt}(h:aY c (.rsi C e) st=true):∃x np v cpos pos,st=.Raise (some (.Call (.Name x np) [v] [] cpos)) none pos/\(x==Str.ofString C&&(c.cm&&c.glo x)&&c.ot.xk.contains (C,cz C)&&aa c e v)=true:=by have h:(ao (BK st) λt=>t.2.1.isNone&&t.1.any λe0=>(bu e0).any λu=>(one u.2.2.1).any λv=>u.1==Str.ofString C&&(c.cm&&c.glo u.1)&&c.ot.xk.contains (C,cz C)&&aa c e v)=true:=h;obtain ⟨t,ht,h⟩:=aC h;rw[ae,b9]at h;obtain ⟨e0,he,h2⟩:=aK h.2;obtain ⟨u,hu,h3⟩:=aK h2;obtain ⟨m,hm,h4⟩:=aK h3;exact ⟨_,_,m,_,_,by rw[ht,h.1,he,dX hu,bT hm],h4⟩
theorem Te{b:Bool}{k:Const}(h:vH b k=true):k=.bool b:=by
 cases k <;> first | (cases h;done) |skip
 rw[show vH b (.bool _)=(_==b) from rfl,ai]at h;rw[h]
theorem Tf{c:CT}{b:Tb}{C:String}{n:Nat}{ss:Sxs}{xs:List String}{st:Stmt}(hh:aY c (.tryh b C n ss xs) st=true):
  ∃body cx p1 nm s1 sr p5 pos,st=.Try body [.ExceptHandler (some (.Name cx p1)) (some nm) (s1::sr) p5] [] [] pos/\
   fP c b body=true/\(xs.all λx=>c.xs.contains (x,true)||c.ot.xk.contains (x,cz x))=true/\(C=="ValueError")=false/\c.cm=true/\(cx==Str.ofString C&&c.glo cx&&c.xs.contains (C,false))=true/\c.N[n]?=some nm/\c.kd.lookup nm=some .local/\okN nm=true/\aD c.quiet ss (s1::sr)=true:=by
 have hh:(ao (qe st) λt=>t.2.2.1.isEmpty&&t.2.2.2.1.isEmpty&&fP c b t.1&&(xs.all λx=>c.xs.contains (x,true)||c.ot.xk.contains (x,cz x))&&!(C=="ValueError")&&c.cm&&(one t.2.1).any λhd=>ao (qg hd) λw=>w.1.any λte=>ao (asName te) λm=>(m.1==Str.ofString C&&c.glo m.1&&c.xs.contains (C,false))&&w.2.1.any λx=>(c.N[n]?==some x)&&(c.kd.lookup x==some .local)&&okN x&&!w.2.2.1.isEmpty&&aD c.quiet ss w.2.2.1)=true:=hh;obtain ⟨t,ht,h1⟩:=aC hh;simp only[ae,eP,ck]at h1;obtain ⟨⟨⟨⟨⟨⟨e1,e2⟩,hx⟩,ha⟩,hv⟩,hcm⟩,h2⟩:=h1;obtain ⟨hd,hhd,h3⟩:=aK h2;obtain ⟨w,hw,h3⟩:=aC h3;obtain ⟨te,hte,h4⟩:=aK h3;obtain ⟨m,hn',h4⟩:=aC h4;simp only[ae]at h4;obtain ⟨x,hx',h5⟩:=aK h4.2;simp only[ae,ai,ck]at h5;obtain ⟨⟨⟨⟨h6,h7⟩,h8⟩,h9⟩,h10⟩:=h5;obtain ⟨w1,w2,w3,w4⟩:=w;dsimp only at *;cases w3 with
 |nil=>cases h9
 |cons s1 sr=>exact ⟨_,_,_,x,s1,sr,_,_,by rw[ht,e1,e2,bT hhd,hw,hte,hn',hx'],hx,ha,hv,hcm,by simp only[ae];exact h4.1,h6,h7,h8,h10⟩
theorem Th{c:CT}{b:Tb}{C:String}{h:Hd}{xs:List String}{st:Stmt}(hh:aY c (.tryx b C h xs) st=true):
  ∃body cx p1 nm y p2 e p4 p5 pos,st=.Try body [.ExceptHandler (some (.Name cx p1)) nm [.Assign [.Name y p2] e p4] p5] [] [] pos/\
   fP c b body=true/\(xs.all λx=>c.xs.contains (x,true)||c.ot.xk.contains (x,cz x))=true/\(C=="ValueError")=false/\(cx==Str.ofString C&&c.glo cx&&c.xs.contains (C,false))=true/\ql c h nm y e=true:=by
 have hh:(ao (qe st) λt=>t.2.2.1.isEmpty&&t.2.2.2.1.isEmpty&&fP c b t.1&&(xs.all λx=>c.xs.contains (x,true)||c.ot.xk.contains (x,cz x))&&!(C=="ValueError")&&(one t.2.1).any λhd=>ao (qg hd) λw=>w.1.any λte=>ao (asName te) λn=>(n.1==Str.ofString C&&c.glo n.1&&c.xs.contains (C,false))&&(one w.2.2.1).any λs1=>ao (dW s1) λa=>(one a.1).any λtg=>ao (asName tg) λy=>ql c h w.2.1 y.1 a.2.1)=true:=hh;obtain ⟨t,ht,h1⟩:=aC hh;simp only[ae,eP,ck]at h1;obtain ⟨⟨⟨⟨⟨e1,e2⟩,hx⟩,ha⟩,hv⟩,h2⟩:=h1;obtain ⟨hd,hhd,h3⟩:=aK h2;obtain ⟨w,hw,h3⟩:=aC h3;obtain ⟨te,hte,h4⟩:=aK h3;obtain ⟨n,hn',h4⟩:=aC h4;simp only[ae]at h4;obtain ⟨s1,hs1,h5⟩:=aK h4.2;obtain ⟨a,ha',h5⟩:=aC h5;obtain ⟨tg,htg,h5⟩:=aK h5;obtain ⟨y,hy,h5⟩:=aC h5;exact ⟨_,_,_,_,_,_,_,_,_,_,by rw[ht,e1,e2,bT hhd,hw,hte,hn',bT hs1,ha',bT htg,hy],hx,ha,hv,by simp only[ae];exact h4.1,h5⟩
theorem Ti{c:CT}{i:Nat}{fz:Bool}{e:Ex}{f:String}{es:Exs}{sts:List Stmt}(h:fP c (.asl i fz e f es) sts=true):∃y p2 e0 x p args cpos lp p0,sts=[.Assign [.Name y p2] (.List [e0,.Call (.Name x p) args [] cpos] lp) p0]/\aa c e e0=true/\(c.N[i]?==some y&&c.sto y&&okN y)=true/\
   (x==Str.ofString f&&c.glo x&&(c.fs.any λp=>p.1==f&&p.2==args.length)&&!args.isEmpty&&aG c es args)=true:=by
 have h:((one sts).any λs0=>ao (dW s0) λa=>(one a.1).any λtg=>ao (asName tg) λy=>ao (asList a.2.1) λl=>(two l.1).any λv=>aa c e v.1&&(bu v.2).any λu=>(c.N[i]?==some y.1&&c.sto y.1&&okN y.1)&&(u.1==Str.ofString f&&c.glo u.1&&(c.fs.any λp=>p.1==f&&p.2==u.2.2.1.length)&&!u.2.2.1.isEmpty&&aG c es u.2.2.1))=true:=h;obtain ⟨s0,hs0,h⟩:=aK h;obtain ⟨a,ha,h⟩:=aC h;obtain ⟨tg,htg,h⟩:=aK h;obtain ⟨y,hy,h⟩:=aC h;obtain ⟨l,hl,h⟩:=aC h;obtain ⟨⟨v1,v2⟩,hv,h⟩:=aK h;rw[ae]at h;obtain ⟨h0,h⟩:=h;obtain ⟨u,hu,h⟩:=aK h;rw[ae]at h;exact ⟨_,_,v1,_,_,_,_,_,_,by rw[bT hs0,ha,bT htg,hy,hl,eO hv];dsimp only at hu ⊢;rw[dX hu],h0,h.1,h.2⟩
theorem Tj{c:CT}{x:Ex}{st:Stmt}(h:aY c (.ret x) st=true):∃e pos,st=.Return (some e) pos/\(aa c x e)=true:=by have h:(ao (qj st) λt=>t.1.any λe=>aa c x e)=true:=h;obtain ⟨t,ht,h⟩:=aC h;obtain ⟨e,he,h⟩:=aK h;exact ⟨_,_,by rw[ht,he],h⟩
theorem Tn{c:CT}{st:Stmt}(h:aY c .rtn st=true):∃pos,st=.Return none pos/\(true)=true:=by have h:(ao (qj st) λt=>t.1.isNone)=true:=h;obtain ⟨t,ht,h⟩:=aC h;rw[b9]at h;exact ⟨_,by rw[ht,h],rfl⟩
theorem Tp{c:CT}{t:Tx}{a b:Sxs}{st:Stmt}(h:aY c (.ite t a b) st=true):∃t' a' b' pos,st=.If t' a' b' pos/\(bw c t t'&&aD c a a'&&aD c b b')=true:=by have h:(ao (BL st) λu=>bw c t u.1&&aD c a u.2.1&&aD c b u.2.2.1)=true:=h;obtain ⟨u,ht,h⟩:=aC h;exact ⟨_,_,_,_,ht,h⟩
theorem Tq{c:CT}{g:Tg}{it:It'}{b:Sxs}{st:Stmt}(h:aY c (.for_ g it b) st=true):∃tg iter body pos,st=.For tg iter body [] pos/\(c.cm&&cA c g tg&&bQ c it tg iter&&aD c b body)=true:=by have h:(ao (BP st) λt=>t.2.2.2.1.isEmpty&&(c.cm&&cA c g t.1&&bQ c it t.1 t.2.1&&aD c b t.2.2.1))=true:=h;obtain ⟨t,ht,h⟩:=aC h;rw[ae,eP]at h;exact ⟨_,_,_,_,by rw[ht,h.1],h.2⟩
theorem Tt{c:CT}{st:Stmt}(h:aY c .pas st=true):∃pos,st=.Pass pos/\(true)=true:=by obtain ⟨⟨t,ht⟩,_⟩:=cp.mp (show (BR st).isSome=true from h);exact ⟨t,ht,rfl⟩
theorem Tu{c:CT}{st:Stmt}(h:aY c .brk st=true):∃pos,st=.Break pos/\(true)=true:=by obtain ⟨⟨t,ht⟩,_⟩:=cp.mp (show (BV st).isSome=true from h);exact ⟨t,ht,rfl⟩
theorem Tv{c:CT}{st:Stmt}(h:aY c .cnt st=true):∃pos,st=.Continue pos/\(true)=true:=by obtain ⟨⟨t,ht⟩,_⟩:=cp.mp (show (BW st).isSome=true from h);exact ⟨t,ht,rfl⟩
def kI:Expr->Bool
 |.Starred ..=>false
 |.Set ..=>false
 |.Slice ..=>false
 |_=>true
theorem aZ{c:CT}:∀(x:Ex){e:Expr},aa c x e=true->kI e=true
 |.frz a,e,h=>aZ a (show aa c a e=true from h)
 |.var _,e,h=>by obtain ⟨_,_,rfl,_⟩:=Cg h;rfl
 |.cst _,e,h=>by obtain ⟨_,_,_,rfl,_⟩:=Ci h;rfl
 |.glb _ _,e,h=>by obtain ⟨_,_,rfl,_⟩:=Cj h;rfl
 |.bin _ _ _ _,e,h=>by obtain ⟨_,_,_,_,rfl,_⟩:=Ck h;rfl
 |.neg _,e,h=>by obtain ⟨_,_,rfl,_⟩:=Cm h;rfl
 |.cmp _ _ _,e,h=>by obtain ⟨_,_,_,_,rfl,_⟩:=Cq h;rfl
 |.chn _ _ _ _ _,e,h=>by obtain ⟨_,_,_,_,_,_,rfl,_⟩:=Cr h;rfl
 |.not _,e,h=>by obtain ⟨_,_,rfl,_⟩:=Cp h;rfl
 |.boo _ _ _,e,h=>by obtain ⟨_,_,_,_,rfl,_⟩:=Cu h;rfl
 |.ife _ _ _,e,h=>by obtain ⟨_,_,_,_,rfl,_⟩:=Cv h;rfl
 |.tup _,e,h=>by obtain ⟨_,_,_,rfl,_⟩:=Cw h;rfl
 |.lst _ _,e,h=>by obtain ⟨_,_,rfl,_⟩:=Cy h;rfl
 |.idx _ _,e,h=>by obtain ⟨_,_,_,rfl,_⟩:=Cz h;rfl
 |.slc _ _ _ _,e,h=>by obtain ⟨_,_,_,_,_,rfl,_⟩:=CG h;rfl
 |.rvs _ _ _,e,h=>by obtain ⟨_,_,_,_,rfl,_⟩:=CJ h;rfl
 |.call _ _,e,h=>by obtain ⟨_,_,_,_,rfl,_⟩:=CN h;rfl
 |.bcl _ _,e,h=>by obtain ⟨_,_,_,_,rfl,_⟩:=CP h;rfl
 |.lcl _ _ _,e,h=>by obtain ⟨_,_,_,_,rfl,_⟩:=CQ h;rfl
 |.isi _ _,e,h=>by obtain ⟨_,_,_,_,_,_,rfl,_⟩:=CW h;rfl
 |.fst _,e,h=>by obtain ⟨_,_,rfl,_⟩:=Dc h;rfl
 |.isx _ _ _,e,h=>by obtain ⟨_,_,_,_,_,_,rfl,_⟩:=CZ h;rfl
 |.xat _ _ _,e,h=>by obtain ⟨_,_,_,rfl,_⟩:=Dd h;rfl
 |.mth _ _ _,e,h=>by obtain ⟨_,_,_,_,_,rfl,_⟩:=De h;rfl
 |.comp _ _ _ _ _ _ _,e,h=>by obtain ⟨_,_,_,_,_,_,_,rfl,_⟩:=Df h;rfl
theorem bI{e:Expr}(h:kI e=true):noStar e=true:=by cases e <;> first |rfl |exact nZf h
theorem Dm{e:Expr}(h:kI e=true)(op:CmpOp):behindInMarks op e=false:=by cases e <;> first |rfl |exact nZf h
theorem Tw{e:Expr}(h:kI e=true)(env:Env)(x:Value):foldedSetIterable e env x=pure x:=by cases e <;> first |rfl |exact nZf h
theorem Tz{e:Expr}(h:kI e=true):yP e:=by intro o i;cases e <;> first |rfl |exact nZf h
theorem TF{e:Expr}(h:ik e=true)(env:Env)(whole:Sem Value):isTrue e env whole=(do let v <-whole;standAt e.pos;holding [v] (truthy v)):=by
 cases e with
 |UnaryOp op x p=>cases op <;> first |rfl |exact nZf h
 |_=>first |rfl |exact nZf h
set_option backward.match.sparseCases true
def XV(K:PF)(H:Hp)(F:FZ)(x:Xn)(cv:Value)(od:Option Addr):Prop:=
 ∃C,cv=.ref C/\PySem.W.nsIn K mainGlobals (Str.ofString x.cls)=some (some (.ref C))/\
  match x.fld with
  |.non=>True
  |d=>∃a ob v,od=some a/\H a=some (.frz ob (.xd [(Str.ofString (cz x.cls),v)]))/\Rep K H F d v
def XR(K:PF)(H:Hp)(F:FZ)(x:Xn)(EX:XK):Prop:=∀cv od,XV K H F x cv od->EX cv od H
def PX(K:PF)(H:Hp)(F:FZ)(EX:XK):EK:=λx G'=>∀H' F',Ext H F H' F'->R K H' F' G'->XR K H' F' x EX
theorem el{α β γ:Type}{p q r s:α->β->γ->Prop}{C:Prop}(h:∃x y z,p x y z/\q x y z/\r x y z/\s x y z)(k:∀x y z,p x y z->q x y z->r x y z->s x y z->C):C:=by obtain ⟨x,y,z,h1,h2,h3,h4⟩:=h;exact k x y z h1 h2 h3 h4
def lift(K:PF)(n:Nat)(S:RF.Spec):Sp:=λvs H Q EX=>vs.length=n/\∃F G ds,R K H F G/\Reps K H F ds vs/\S.t ds G (PV K H F Q) (PX K H F EX)
def CV(K:PF)(mg:Str->Option Value)(C':String)(cv:V):Prop:=
 (∃a,cv=.ref a/\mg (Str.ofString C')=some (.ref a)/\oG K a=true)\/(C'="ValueError"/\cv=.ty "ValueError"/\mg (Str.ofString C')=none)
def XI(K:PF)(C C':String)(cv:V):Prop:=
 ∃c,PySem.W.nsIn K mainGlobals (Str.ofString C)=some (some (.ref c))/\fB K c=true/\PySem.W.mroIn K c (valOf cv)=some (aV C C')/\(aV C C'=false->(Value.ref c==valOf cv)=false)
theorem CV.ok{K:PF}{mg:Str->Option Value}{C':String}{cv:V}(h:CV K mg C' cv):iI K (valOf cv)=true:=by
 rcases h with ⟨a,rfl,_,h⟩ |⟨_,rfl,_⟩
 ·have kc:=sJ h;show ((PySem.W.clsIn K a).isSome&&PySem.W.typeIn K (.ref a)==some (.type "type"))=true;rw[kc.c,kc.t];rfl
 ·rfl
structure Bs where
 H:Hp
 F:FZ
def Do(K:PF)(C f:String):Prop:=∃c,PySem.W.nsIn K mainGlobals (Str.ofString C)=some (some (.ref c))/\Cls K c/\Lz K c (Str.ofString f)
def MthOk(Z:ak)(P:Program)(w:World)(K:PF)(mg:Str->Option Value)(base:Heap)(CX:CXT)(k:Nat)(f C m:String)(n:Nat):Prop:=
 ∃c fa fd ps,PySem.W.nsIn K mainGlobals (Str.ofString C)=some (some (.ref c))/\Cls K c/\Meth K c (Str.ofString m) fa/\Binds K fd ps []/\FnOk P w K mg base CX k fa fd ps (lift K n (Z f))
def MkoOk(Z:ak)(P:Program)(w:World)(K:PF)(mg:Str->Option Value)(base:Heap)(CX:CXT)(k:Nat)(C:String)(n:Nat):Prop:=
 ∃c fa fd ps sp j,j+1<=k/\mg (Str.ofString C)=some (.ref c)/\Mk K c fa/\Binds K fd ps []/\FnOk P w K mg base CX j fa fd ps sp/\
  ∀vs H Q E,lift K n (Z C) vs H Q E->∀x dx,H x=none->H dx=none->dx≠x->sp (.ref x::vs) (upd (upd H dx (.own x)) x (.ins c dx [])) (λv H2=>v=.non/\Q (.ref x) H2) E
def TJ(K:PF)(c:Addr)(f:String):Sp:=λvs H Q _=>∃a b l d F G,vs=[.ref a,b]/\H a=some (.ext (bV a c l none))/\¬F a/\R K H F G/\Rep K H F d b/\okA d/\
 ∀H2 F2 dx od ob l',Ext H F H2 F2->R K H2 F2 G->H2 a=some (.ext (bV a c l' none))->H2 dx=none->dx≠a->ob.cls=.ref c->ob.dict=some dx->PySem.W.notCls ob=true->(∃l',ob=exO c l' (some dx))->Q .non (upd (upd H2 a (.frz ob (.own a))) dx (.frz od (.xd [(Str.ofString f,b)])))
def Dp(P:Program)(w:World)(K:PF)(mg:Str->Option Value)(base:Heap)(CX:CXT)(k:Nat)(C f:String):Prop:=
 ∃c fa fd ps j,j+1<=k/\mg (Str.ofString C)=some (.ref c)/\PySem.W.nsIn K mainGlobals (Str.ofString C)=some (some (.ref c))/\gj K c fa=true/\PySem.W.typeIn K (.ref fa)=some (.type "function")/\PySem.W.keepIn K (.ref c)=true/\
  (fB K c=true/\PySem.W.hasDictIn K c=true/\PySem.W.findIn K (.ref c) (Str.ofString f)=some none)/\Binds K fd ps []/\FnOk P w K mg base CX j fa fd ps (TJ K c f)
def XkoX(P:Program)(w:World)(K:PF)(mg:Str->Option Value)(base:Heap)(CX:CXT)(k:Nat)(xs:List (String×Bool))(C f:String):Prop:=
 Dp P w K mg base CX k C f/\∀C' cv,xs.contains (C',false)=true->CV K mg C' cv->XI K C C' cv
structure Stat(Z:ak)(CX:CXT)(k:Nat)(c:CT)(E:EK)(B:Bs)(X:Cx):Prop where
 N:X.N=c.N
 nd:X.N.Nodup
 calm:c.cm=true->X.calm=true
 own:c.cm=true->PassesOwn (model X.prog X.w) X.A X.env X.xe
 kd:X.env.kindOf=λx=>X.env.scope.names.lookup x
 vis:∀x,fM (c.kd.lookup x)=true->Vis X.env.scope x
 cel:∀x,(c.kd.lookup x=some .cell\/c.kd.lookup x=some .free)->(X.env.kindOf x=some .cell\/X.env.kindOf x=some .free)
 glo:∀x,c.kd.lookup x=some .globalImplicit->Gl X x
 sto:∀x,c.sto x=true->Loc X.env.scope x/\(X.fn x=true\/X.env.scope.names.lookup x=some .local)
 room:Room k X.A
 call:∀f n,(f,n)∈c.fs->∃fa fd ps,FnOk X.prog X.w X.K X.mg X.base CX k fa fd ps (lift X.K n (Z f))/\PySem.W.keepIn X.K (.ref fa)=true/\Binds X.K fd ps []/\X.mg (Str.ofString f)=some (.ref fa)
 blt:∀f,f∈c.bt->X.mg (Str.ofString f)=none
 con:∀x d,(x,d)∈c.cn->∃u v,X.mg (Str.ofString x)=some u/\RelV v u/\∀H F,Rep X.K H F d v
 exc:∃EX,gb CX X EX/\Throws X EX/\∀x G' H' F',E x G'->Ext B.H B.F H' F'->R X.K H' F' G'->XR X.K H' F' x EX
 nox:∀(Y:Cx),gb CX Y λ_ _ _=>False
 xcl:∀C,c.xs.contains (C,true)=true->∃a,X.mg (Str.ofString C)=some (.ref a)/\oE X.K a=true/\PySem.W.nsIn X.K mainGlobals (Str.ofString C)=some (some (.ref a))
 loc:∀x,c.kd.lookup x=some .local->X.env.scope.names.lookup x=some .local
 xis:∀C',c.xs.contains (C',false)=true->∃cv,CV X.K X.mg C' cv/\∀C,c.xs.contains (C,true)=true->XI X.K C C' cv
 mth:∀f C m n,(f,C,m,n)∈c.ot.ms->MthOk Z X.prog X.w X.K X.mg X.base CX k f C m n
 mko:∀C n,(C,n)∈c.ot.ks->MkoOk Z X.prog X.w X.K X.mg X.base CX k C n
 fld:∀C f,(C,f)∈c.ot.fl->Do X.K C f
 xko:∀C f,(C,f)∈c.ot.xk->∃k',(c.cm=true->k'<=k)/\XkoX X.prog X.w X.K X.mg X.base CX k' c.xs C f
 trc:c.xs≠[]->CX=CX1 X.prog X.w/\X.stack=X.env::X.outer/\X.ex=[]
 lv:c.cm=true->2<=k
 qok:∀f n,(f,n)∈c.ot.qs->∃fa fd ps,FnOk X.prog X.w X.K X.mg X.base CX 1 fa fd ps (lift X.K n (Z f))/\PySem.W.keepIn X.K (.ref fa)=true/\Binds X.K fd ps []/\X.mg (Str.ofString f)=some (.ref fa)
 cb:∀f,f∈c.bt->j7 f=true->X.calm=true
def tE(K:PF)(B:Bs)(w:aj->DH->(D->DH->Prop)->Prop):TE:=λX H Q=>∃Y F G,Ext B.H B.F H F/\EnvR K H F Y X/\R K H F G/\w Y G (PV K H F Q)
def tB'(K:PF)(B:Bs)(w:aj->DH->(Bool->DH->Prop)->Prop):TT:=λX H Q=>∃Y F G,Ext B.H B.F H F/\EnvR K H F Y X/\R K H F G/\w Y G (PB K H F Q)
def tL(K:PF)(B:Bs)(w:aj->DH->(List D->DH->Prop)->Prop):TA:=λX H Q=>∃Y F G,Ext B.H B.F H F/\EnvR K H F Y X/\R K H F G/\w Y G (PLs K H F Q)
def POp(K:PF)(H:Hp)(F:FZ)(Q:Option Int->Hp->Prop):Option Int->DH->Prop:=λb G'=>∀H' F',Ext H F H' F'->R K H' F' G'->Q b H'
def Dq(K:PF)(B:Bs)(w:aj->DH->(Option Int->DH->Prop)->Prop):TO:=λX H Q=>∃Y F G,Ext B.H B.F H F/\EnvR K H F Y X/\R K H F G/\w Y G (POp K H F Q)
theorem peI{X:Cx}{e:Expr}{t t':TE}(h:PE X e t)(i:∀Y H Q,t' Y H Q->t Y H Q):PE X e t':=λpins s Y H Q I q=>h pins s Y H Q I (i Y H Q q)
theorem ptI{X:Cx}{e:Expr}{t t':TT}(h:PT X e t)(i:∀Y H Q,t' Y H Q->t Y H Q):PT X e t':=λpins s Y H Q I q=>h pins s Y H Q I (i Y H Q q)
theorem pwI{X:Cx}{e:Expr}{t t':TT}(h:PW X e t)(i:∀Y H Q,t' Y H Q->t Y H Q):PW X e t':=λwh pins s Y H Q I q=>h wh pins s Y H Q I (i Y H Q q)
theorem paI{X:Cx}{e:List Expr}{t t':TA}(h:PA X e t)(i:∀Y H Q,t' Y H Q->t Y H Q):PA X e t':=λpos pins s Y H Q I q=>h pos pins s Y H Q I (i Y H Q q)
section
variable {Z:ak} {CX:CXT} {k:Nat} {c:CT} {E:EK} {B:Bs} {X:Cx}
theorem aH{K:PF}{x:Ex}{X:L2.St}{H:Hp}{F:FZ}{G:DH}{Y:aj}{W:D->DH->Prop}{Q:VK}(e0:Ext B.H B.F H F)(he:EnvR K H F Y X)(r:R K H F G)(hw:wpE Z x E Y G W)
  (h:∀d G1 H1 F1 v,W d G1->Ext B.H B.F H1 F1->Ext H F H1 F1->EnvR K H1 F1 Y X->R K H1 F1 G1->Rep K H1 F1 d v->Q v H1):tE K B (wpE Z x E) X H Q:=
 ⟨Y,F,G,e0,he,r,aF x (λd G1 q H1 F1 v x1 r1 rv=>h d G1 H1 F1 v q (e0.trans x1) x1 (he.ext x1) r1 rv) hw⟩
theorem cB{K:PF}{x:Exs}{X:L2.St}{H:Hp}{F:FZ}{G:DH}{Y:aj}{W:List D->DH->Prop}{Q:List V->Hp->Prop}(e0:Ext B.H B.F H F)(he:EnvR K H F Y X)(r:R K H F G)(hw:aN Z x E Y G W)
  (h:∀d G1 H1 F1 v,W d G1->Ext B.H B.F H1 F1->Ext H F H1 F1->EnvR K H1 F1 Y X->R K H1 F1 G1->Reps K H1 F1 d v->Q v H1):tL K B (aN Z x E) X H Q:=
 ⟨Y,F,G,e0,he,r,dg x (λd G1 q H1 F1 v x1 r1 rv=>h d G1 H1 F1 v q (e0.trans x1) x1 (he.ext x1) r1 rv) hw⟩
theorem jm{K:PF}{x:Tx}{X:L2.St}{H:Hp}{F:FZ}{G:DH}{Y:aj}{W:Bool->DH->Prop}{Q:Bool->Hp->Prop}(e0:Ext B.H B.F H F)(he:EnvR K H F Y X)(r:R K H F G)(hw:wpT Z x E Y G W)
  (h:∀d G1 H1 F1,W d G1->Ext B.H B.F H1 F1->Ext H F H1 F1->EnvR K H1 F1 Y X->R K H1 F1 G1->Q d H1):tB' K B (wpT Z x E) X H Q:=
 ⟨Y,F,G,e0,he,r,dC x (λd G1 q H1 F1 x1 r1=>h d G1 H1 F1 q (e0.trans x1) x1 (he.ext x1) r1) hw⟩
theorem Ds{K:PF}{x:Ox}{X:L2.St}{H:Hp}{F:FZ}{G:DH}{Y:aj}{W:Option Int->DH->Prop}{Q:Option Int->Hp->Prop}(e0:Ext B.H B.F H F)(he:EnvR K H F Y X)(r:R K H F G)(hw:wpO Z x E Y G W)
  (h:∀d G1 H1 F1,W d G1->Ext B.H B.F H1 F1->Ext H F H1 F1->EnvR K H1 F1 Y X->R K H1 F1 G1->Q d H1):Dq K B (wpO Z x E) X H Q:=
 ⟨Y,F,G,e0,he,r,u9 x (λd G1 q H1 F1 x1 r1=>h d G1 H1 F1 q (e0.trans x1) x1 (he.ext x1) r1) hw⟩
theorem PV.later{K:PF}{H H1:Hp}{F F1:FZ}{Q:VK}{d:D}{G:DH}(h:PV K H F Q d G)(x:Ext H F H1 F1):PV K H1 F1 Q d G:=λH' F' v x1=>h H' F' v (x.trans x1)
theorem PB.later{K:PF}{H H1:Hp}{F F1:FZ}{Q:Bool->Hp->Prop}{d:Bool}{G:DH}(h:PB K H F Q d G)(x:Ext H F H1 F1):PB K H1 F1 Q d G:=λH' F' x1=>h H' F' (x.trans x1)
theorem PB.now{K:PF}{H:Hp}{F:FZ}{Q:Bool->Hp->Prop}{d:Bool}{G:DH}(h:PB K H F Q d G)(r:R K H F G):Q d H:=h H F (Ext.refl H F) r
theorem jo(S:Stat Z CX k c E B X):X.A.units+100 < cLine:=by have:=S.room.un;omega
theorem bD {x:Str} (h:okN x=true):(x==("__debug__":Str))=false:=by
 unfold okN at h;cases e:x==("__debug__":Str) with
 |false=>rfl
 |true=>rw[e]at h;simp at h
theorem TQ {x:Str} (h:okN x=true):(x==("__classdict__":Str))=false:=by
 unfold okN at h;cases e:x==("__classdict__":Str) with
 |false=>rfl
 |true=>rw[e]at h;simp at h
theorem dj {x:Str} (h:okN x=true):x≠"__name__":=by unfold okN at h;intro e;rw[ai.mpr e]at h;simp at h
theorem bZ{x:Str}(h:c.glo x=true):c.kd.lookup x=some .globalImplicit/\okN x=true:=by unfold CT.glo at h;rw[ae,ai]at h;exact h
theorem TV(S:Stat Z CX k c E B X){i:Nat}{e:Expr}(h:aa c (.var i) e=true):PE X e (tE X.K B (wpE Z (.var i) E)):=by
 replace h:=Cg h;obtain ⟨x,pos,rfl,h⟩:=h
 ·rw[ae,ae,ai]at h;refine peI (JK (i:=i) (by rw[S.N];exact h.1.1) (S.vis x h.1.2) (bD h.2) (TQ h.2)) λW H Q q=>?_;obtain ⟨Y,F,G,_,he,r,hw⟩:=q;rw[uo]at hw;split at hw
  ·rename_i d hd;obtain ⟨v,e1,rv⟩:=he.get hd;exact ⟨v,e1,hw.now r rv⟩
  ·exact hw.elim
theorem Dt(S:Stat Z CX k c E B X){d:D}{e:Expr}(h:aa c (.cst d) e=true):PE X e (tE X.K B (wpE Z (.cst d) E)):=by
 replace h:=Ci h;obtain ⟨kk,_,_,rfl,h⟩:=h
 ·unfold jg at h;split at h
  ·exact peI JM λW H Q hq=>el hq λY F G _ he r hw=>by rw[dB]at hw;exact hw.now r rfl
  ·rw[ai]at h;subst h;exact peI yc λW H Q hq=>el hq λY F G _ he r hw=>by rw[dB]at hw;exact hw.now r rfl
  ·rw[ai]at h;subst h;exact peI JL λW H Q hq=>el hq λY F G _ he r hw=>by rw[dB]at hw;exact hw.now r rfl
  ·rename_i l b;rw[ae,ai,cw]at h;refine peI JN λW H Q hq=>el hq λY F G _ he r hw=>?_;rw[dB]at hw;refine hw.now r ⟨?_,h.2⟩;rw[h.1,<-rT]
  ·cases h
theorem TY(S:Stat Z CX k c E B X){x:String}{d:D}{e:Expr}(h:aa c (.glb x d) e=true):PE X e (tE X.K B (wpE Z (.glb x d) E)):=by
 replace h:=Cj h;obtain ⟨y,pos,rfl,h⟩:=h
 ·rw[ae,ae,ai,fN]at h;obtain ⟨⟨e1,h1⟩,⟨x',d'⟩,hm,h2⟩:=h;rw[ae,ai]at h2;obtain ⟨e2,e3⟩:=h2;have e3:=SJ e3;simp only at e2 e3;subst e1 e2 e3;obtain ⟨g1,g2⟩:=bZ h1;obtain ⟨u,v,hu,ru,hr⟩:=S.con _ _ hm;exact peI (yd (S.glo _ g1) hu ru (bD g2)) λW H Q hq=>el hq λY F G _ he r hw=>by rw[uq]at hw;exact hw.now r (hr H F)
theorem T3(S:Stat Z CX k c E B X){op:Operator}{fz:Bool}{a b:Ex}(iha:∀{e},aa c a e=true->PE X e (tE X.K B (wpE Z a E)))(ihb:∀{e},aa c b e=true->PE X e (tE X.K B (wpE Z b E))){e:Expr}
  (h:aa c (.bin op fz a b) e=true):PE X e (tE X.K B (wpE Z (.bin op fz a b) E)):=by
 replace h:=Ck h;obtain ⟨l,o,r,pos,rfl,h⟩:=h
 ·rw[ae,ae,ai]at h;obtain ⟨⟨e1,h1⟩,h2⟩:=h;subst e1;refine peI (K7 (Rh _ fz) (iha h1) (ihb h2)) λW H Q hq=>el hq λY F G e0 he r hw=>?_;rw[ur]at hw;refine aH e0 he r hw λx G1 H1 F1 v q e1 x1 he1 r1 rv=>aH e1 he1 r1 q λy G2 H2 F2 u q e2 x2 he2 r2 ru=>?_;exact ⟨F2,G2,x,y,r2,Rep.ext x2 rv,ru,Av (λd G' z=>PV.later z (x1.trans x2)) q⟩
theorem T4(S:Stat Z CX k c E B X){a:Ex}(iha:∀{e},aa c a e=true->PE X e (tE X.K B (wpE Z a E))){e:Expr}(h:aa c (.neg a) e=true):PE X e (tE X.K B (wpE Z (.neg a) E)):=by
 replace h:=Cm h;obtain ⟨_,_,rfl,h⟩:=h
 ·refine peI (K8 Lh (iha h)) λW H Q hq=>el hq λY F G e0 he r hw=>?_;rw[ut]at hw;refine aH e0 he r hw λx G1 H1 F1 v q e1 x1 he1 r1 rv=>?_;split at q
  ·have e2:v=.int _:=rv;subst e2;exact ⟨_,rfl,q _ _ _ x1 r1 rfl⟩
  ·exact q.elim
theorem Du(S:Stat Z CX k c E B X){op:CmpOp}{a b:Ex}(iha:∀{e},aa c a e=true->PE X e (tE X.K B (wpE Z a E)))(ihb:∀{e},aa c b e=true->PE X e (tE X.K B (wpE Z b E))){e:Expr}
  (h:aa c (.cmp op a b) e=true):PE X e (tE X.K B (wpE Z (.cmp op a b) E))/\PT X e (tB' X.K B (wpT Z (.val (.cmp op a b)) E)):=by
 replace h:=Cq h;obtain ⟨l,o,r,pos,rfl,h⟩:=h
 ·rw[ae,ae,ai]at h;obtain ⟨⟨e1,h1⟩,h2⟩:=h;subst e1;have hm:=Dm (aZ b h2) o;refine ⟨peI (Lk (jd _ (jo S)) (iha h1) (ihb h2) hm) λW H Q hq=>el hq λY F G e0 he r hw=>?_,ptI (Ln (jd _ (jo S)) (iha h1) (ihb h2) hm) λW H Q hq=>el hq λY F G e0 he r hw=>?_⟩
  ·rw[pF]at hw;refine aH e0 he r hw λx G1 H1 F1 v q e1 x1 he1 r1 rv=>aH e1 he1 r1 q λy G2 H2 F2 u q e2 x2 he2 r2 ru=>?_;exact ⟨F2,G2,x,y,r2,Rep.ext x2 rv,ru,gZ (λd z=>PV.later z (x1.trans x2)) q⟩
  ·rw[jV,pF]at hw;refine aH e0 he r hw λx G1 H1 F1 v q e1 x1 he1 r1 rv=>aH e1 he1 r1 q λy G2 H2 F2 u q e2 x2 he2 r2 ru=>?_;refine ⟨F2,G2,x,y,r2,Rep.ext x2 rv,ru,gZ (λd z=>?_) q⟩;intro H' F' v' x' r' rv';have e3:v'=.bl d:=rv';exact ⟨d,e3,z H' F' ((x1.trans x2).trans x') r'⟩
theorem Dv(S:Stat Z CX k c E B X){op op':CmpOp}{a b d:Ex}(iha:∀{e},aa c a e=true->PE X e (tE X.K B (wpE Z a E)))(ihb:∀{e},aa c b e=true->PE X e (tE X.K B (wpE Z b E)))(ihd:∀{e},aa c d e=true->PE X e (tE X.K B (wpE Z d E))){e:Expr}
  (h:aa c (.chn op op' a b d) e=true):PE X e (tE X.K B (wpE Z (.chn op op' a b d) E))/\PT X e (tB' X.K B (wpT Z (.val (.chn op op' a b d)) E)):=by
 replace h:=Cr h;obtain ⟨l,o,o',m,r,pos,rfl,h⟩:=h
 ·simp only[ae,ai]at h;obtain ⟨⟨⟨⟨e1,e2⟩,h1⟩,h2⟩,h3⟩:=h;subst e1 e2;have hm:lastMarks [o,o'] [m,r]=false:=Dm (aZ d h3) o';have go:∀{V H Q Y F G}{W:Bool->DH->Prop},Ext B.H B.F H F->EnvR X.K H F Y V->R X.K H F G->
    wpE Z a E Y G (λx G1=>wpE Z b E Y G1 λy G2=>aU o (view G2 x) (view G2 y) λt=>match t with |true=>wpE Z d E Y G2 λz G3=>aU o' (view G3 y) (view G3 z) λt'=>W t' G3 |false=>W false G2)->
    (∀t G' H' F',W t G'->Ext H F H' F'->R X.K H' F' G'->Q (.bl t) H')->
    rK (rC2 X.K (aU o)) (rC2 X.K (aU o')) (tE X.K B (wpE Z a E)) (tE X.K B (wpE Z b E)) (tE X.K B (wpE Z d E)) V H Q:=by
   intro V H Q Y F G W e0 he r hw fin;refine aH e0 he r hw λx G1 H1 F1 v q e1 x1 he1 r1 rv=>aH e1 he1 r1 q λy G2 H2 F2 u q e2 x2 he2 r2 ru=>?_;refine ⟨F2,G2,x,y,r2,Rep.ext x2 rv,ru,gZ (λt q=>?_) q⟩;intro H3 F3 v3 x3 r3 rv3;have e3:v3=.bl t:=rv3;refine ⟨t,e3,?_⟩;cases t with
   |true=>
    rw[if_pos rfl];refine aH (e2.trans x3) (he2.ext x3) r3 q λz G4 H4 F4 v4 q e4 x4 he4 r4 rv4=>?_;refine ⟨F4,G4,y,z,r4,Rep.ext (x3.trans x4) ru,rv4,gZ (λt' q=>?_) q⟩;intro H5 F5 v5 x5 r5 rv5;have e5:v5=.bl t':=rv5;subst e5;exact fin _ _ _ _ q ((((x1.trans x2).trans x3).trans x4).trans x5) r5
   |false=>
    rw[if_neg b6];exact fin _ _ _ _ q ((x1.trans x2).trans x3) r3
  refine ⟨peI (Lp (jd _ (jo S)) (jd _ (jo S)) (iha h1) (ihb h2) (ihd h3) hm) λV H Q hq=>el hq λY F G e0 he r hw=>?_,ptI (Lq (jd _ (jo S)) (jd _ (jo S)) (iha h1) (ihb h2) (ihd h3) hm) λV H Q hq=>el hq λY F G e0 he r hw=>?_⟩
  ·rw[pG]at hw;exact go (W:=λt G'=>PV X.K H F Q (.bl t) G') e0 he r hw λt G' H' F' z x' r'=>z H' F' _ x' r' rfl
  ·rw[jV,pG]at hw;refine go (W:=λt G'=>PB X.K H F Q t G') e0 he r hw λt G' H' F' z x' r'=>⟨t,rfl,z H' F' x' r'⟩
end
section
variable {Z:ak} {CX:CXT} {k:Nat} {c:CT} {E:EK} {B:Bs} {X:Cx}
abbrev OkE(Z:ak)(c:CT)(E:EK)(B:Bs)(X:Cx)(x:Ex):Prop:=∀{e:Expr},aa c x e=true->PE X e (tE X.K B (wpE Z x E))
abbrev gC(Z:ak)(c:CT)(E:EK)(B:Bs)(X:Cx)(x:Exs):Prop:=∀{es:List Expr},aG c x es=true->PA X es (tL X.K B (aN Z x E))
abbrev OkT(Z:ak)(c:CT)(E:EK)(B:Bs)(X:Cx)(x:Tx):Prop:=∀{e:Expr},bw c x e=true->PT X e (tB' X.K B (wpT Z x E))
theorem T5(S:Stat Z CX k c E B X){a:Ex}(iha:OkE Z c E B X a){e:Expr}(h:aa c (.not a) e=true):PE X e (tE X.K B (wpE Z (.not a) E)):=by
 replace h:=Cp h;obtain ⟨_,_,rfl,h⟩:=h
 ·intro pins s W H Q I q;obtain ⟨Y,F,G,e0,he,r,hw⟩:=q;rw[uv]at hw;have q':tE X.K B (wpE Z a E) W H (λx H1=>∃b,nW X.K x H1 b/\Q (.bl (!b)) H1):=aH e0 he r hw λx G1 H1 F1 v q e1 x1 he1 r1 rv=>by
   split at q
   ·rename_i b hb;exact ⟨b,Bp r1 rv hb,q _ _ _ x1 r1 rfl⟩
   ·exact q.elim
  refine UnaryOp_ (thn (iha h pins s W H _ I q') λv s1 ⟨x,H1,I1,r1,b,tb,q1⟩=>?_);refine not_of (thn (yz pins s1 W H1 x v (λb' H'=>Q (.bl (!b')) H') I1 r1 ⟨b,tb,q1⟩) λb' s2 ⟨H2,I2,q2⟩=>?_);exact ⟨.bl (!b'),H2,I2,rfl,q2⟩
theorem qm{es:List Expr}(h:aG c .nil es=true):PA X es (tL X.K B (aN Z .nil E)):=by
 unfold aG at h;cases es with
 |nil=>exact paI gR λW H Q hq=>el hq λY F G e0 he r hw=>by rw[gY]at hw;exact hw H F [] (Ext.refl _ _) r rfl
 |cons _ _=>cases h
theorem kJ{x:Ex}{xs:Exs}(ih:OkE Z c E B X x)(ihs:gC Z c E B X xs){es:List Expr}(h:aG c (.cons x xs) es=true):PA X es (tL X.K B (aN Z (.cons x xs) E)):=by
 unfold aG at h;split at h
 ·rename_i e es;rw[ae]at h;refine paI (dI (ih h.1) (ihs h.2) (aW e es X.env (bI (aZ x h.1)))) λW H Q hq=>el hq λY F G e0 he r hw=>?_;rw[gn]at hw;refine aH e0 he r hw λd G1 H1 F1 v q e1 x1 he1 r1 rv=>cB e1 he1 r1 q λds G2 H2 F2 vs q e2 x2 he2 r2 rvs=>?_;exact q H2 F2 _ (x1.trans x2) r2 ⟨v,vs,rfl,Rep.ext x2 rv,rvs⟩
 ·cases h
theorem T6(S:Stat Z CX k c E B X){es:Exs}(ih:gC Z c E B X es){e:Expr}(h:aa c (.tup es) e=true):PE X e (tE X.K B (wpE Z (.tup es) E)):=by
 replace h:=Cw h;obtain ⟨_,_,_,rfl,h⟩:=h
 ·refine peI (Mj (ih h)) λW H Q hq=>el hq λY F G e0 he r hw=>?_;rw[uy]at hw;refine cB e0 he r hw λds G1 H1 F1 vs q e1 x1 he1 r1 rvs=>⟨by rw[<-rvs.length];exact dh q.1,j4 (PV.later q.2 x1) r1 rvs⟩
theorem T7(S:Stat Z CX k c E B X){fz:Bool}{es:Exs}(ih:gC Z c E B X es){e:Expr}(h:aa c (.lst fz es) e=true):PE X e (tE X.K B (wpE Z (.lst fz es) E)):=by
 replace h:=Cy h;obtain ⟨_,_,rfl,h⟩:=h
 ·refine peI (Ml (ih h)) λW H Q hq=>el hq λY F G e0 he r hw=>?_;rw[uz]at hw;refine cB e0 he r hw λds G1 H1 F1 vs q e1 x1 he1 r1 rvs=>⟨by rw[<-rvs.length];exact dh q.1,dU (c7 (λd G' z=>PV.later z x1) q.2) r1 rvs⟩
theorem T8(S:Stat Z CX k c E B X){a i:Ex}(iha:OkE Z c E B X a)(ihi:OkE Z c E B X i){e:Expr}(h:aa c (.idx a i) e=true):PE X e (tE X.K B (wpE Z (.idx a i) E)):=by
 replace h:=Cz h;obtain ⟨_,_,_,rfl,h⟩:=h
 ·rw[ae]at h;refine peI (M3 Rp (iha h.1) (ihi h.2) (Tz (aZ i h.2))) λW H Q hq=>el hq λY F G e0 he r hw=>?_;rw[uA]at hw;refine aH e0 he r hw λx G1 H1 F1 v q e1 x1 he1 r1 rv=>aH e1 he1 r1 q λy G2 H2 F2 u q e2 x2 he2 r2 ru=>?_;exact ⟨F2,G2,x,y,r2,Rep.ext x2 rv,ru,Ax (λd z=>PV.later z (x1.trans x2)) q⟩
theorem Dw{lo:Ox}(ih:∀x,lo=.ob x->OkE Z c E B X x){l:Option Expr}(h:fO c lo l=true):PO X l (Dq X.K B (wpO Z lo E)):=by
 cases lo with
 |no=>
  unfold fO at h;cases l with
  |none=>
   intro pins s W H Q I q;refine rM pins s W H Q I ?_;obtain ⟨Y,F,G,e0,he,r,hw⟩:=q;rw[ud]at hw;exact hw H F (Ext.refl _ _) r
  |some _=>cases h
 |ob x=>
  unfold fO at h;split at h
  ·intro pins s W H Q I q;refine MF (ih x rfl h) pins s W H Q I ?_;obtain ⟨Y,F,G,e0,he,r,hw⟩:=q;rw[ue]at hw;refine aH e0 he r hw λd G1 H1 F1 v q e1 x1 he1 r1 rv=>?_;split at q
   ·have e2:v=.int _:=rv;exact ⟨_,e2,q H1 F1 x1 r1⟩
   ·exact q.elim
  ·cases h
theorem T9(S:Stat Z CX k c E B X){fz:Bool}{a:Ex}{lo hi:Ox}(iha:OkE Z c E B X a)(ihl:∀x,lo=.ob x->OkE Z c E B X x)(ihh:∀x,hi=.ob x->OkE Z c E B X x){e:Expr}(h:aa c (.slc fz a lo hi) e=true):
  PE X e (tE X.K B (wpE Z (.slc fz a lo hi) E)):=by
 replace h:=CG h;obtain ⟨_,_,_,_,_,rfl,h⟩:=h
 ·rw[ae,ae]at h;refine peI (MJ (Rx fz) (iha h.1.1) (Dw ihl h.1.2) (Dw ihh h.2)) λW H Q hq=>el hq λY F G e0 he r hw=>?_;rw[uC]at hw;refine aH e0 he r hw λx G1 H1 F1 v q e1 x1 he1 r1 rv=>Ds e1 he1 r1 q λl G2 H2 F2 q e2 x2 he2 r2=>Ds e2 he2 r2 q λu G3 H3 F3 q e3 x3 he3 r3=>?_;exact ⟨F3,G3,x,r3,Rep.ext (x2.trans x3) rv,Ay (λd G' z=>PV.later z ((x1.trans x2).trans x3)) q⟩
theorem Ua(S:Stat Z CX k c E B X){fz:Bool}{a s:Ex}(iha:OkE Z c E B X a)(ihs:OkE Z c E B X s){e:Expr}(h:aa c (.rvs fz a s) e=true):PE X e (tE X.K B (wpE Z (.rvs fz a s) E)):=by
 replace h:=CJ h;obtain ⟨_,_,_,_,rfl,h⟩:=h;rw[ae]at h;refine peI (Ql (iha h.1) (ihs h.2)) λW H Q hq=>el hq λY F G e0 he r hw=>?_;rw[uB]at hw;refine aH e0 he r hw λx G1 H1 F1 v q e1 x1 he1 r1 rv=>aH e1 he1 r1 q λy G2 H2 F2 u q e2 x2 he2 r2 ru=>?_;have q:=Az (λd G' z=>PV.later z (x1.trans x2)) q;have rv2:=Rep.ext x2 rv;generalize ea:view G2 x=va at q;unfold gU at q;split at q
 ·obtain ⟨p,vs,e,sq,t⟩:=Rep.list r2 rv2 ea;have ey:=q.1;subst ey;exact ⟨ru,p,vs,e,.inl ⟨sq,dU q.2 r2 t.reverse⟩⟩
 ·obtain ⟨ey,q9⟩:=q;cases eE ea;subst ey;obtain ⟨p,vs,e,sq,t⟩:=rv2;exact ⟨ru,p,vs,e,.inr ⟨SqT.of sq.it,j4 q9 r2 t.reverse⟩⟩
 ·exact q.elim
theorem Ub(S:Stat Z CX k c E B X){a:Ex}(iha:OkE Z c E B X a){e:Expr}(h:aa c (.frz a) e=true):PE X e (tE X.K B (wpE Z (.frz a) E)):=by
 have h:aa c a e=true:=h;refine peI (iha h) λW H Q hq=>el hq λY F G e0 he r hw=>?_;rw[uJ]at hw;refine aH e0 he r hw λx G1 H1 F1 v q e1 x1 he1 r1 rv=>?_;split at q
 ·rename_i p;have e2:v=.ref p:=rv;subst e2;split at q
  ·rename_i ds hg;exact q _ _ _ (x1.trans sZ) (r1.frz hg) (Q4 r1 hg)
  ·exact q.elim
 ·exact q _ _ _ x1 r1 rv
theorem kO{es:List Expr}{xs:Exs}(h:aG c xs es=true)(env:Env)(pos:Pos):(backTo pos (starEach es env)).any (·.1)=false:=by
 induction es generalizing xs with
 |nil=>rfl
 |cons e es ih=>
  cases xs with
  |nil=>unfold aG at h;cases h
  |cons x xs=>
   unfold aG at h;rw[ae]at h;rw[aW e es env (bI (aZ x h.1))];show (false||(backTo pos (starEach es env)).any (·.1))=false;rw[ih h.2];rfl
theorem jq{e:Expr}{es:List Expr}{xs:Exs}(h:aG c xs (e::es)=true):∃x xs',xs=.cons x xs'/\aa c x e=true/\aG c xs' es=true:=by
 cases xs with
 |nil=>unfold aG at h;cases h
 |cons x xs'=>
  unfold aG at h;rw[ae]at h;exact ⟨x,xs',rfl,h.1,h.2⟩
theorem vK{Y:aj}:∀(xs:Exs){es:List Expr}{G:DH}{Q:List D->DH->Prop},aG c xs es=true->aN Z xs E Y G Q->aN Z xs E Y G (λds G'=>ds.length=es.length/\Q ds G')
 |.nil,es,G,Q,h,q=>by
  unfold aG at h;rw[gY]at q ⊢;cases es with
  |nil=>exact ⟨rfl,q⟩
  |cons _ _=>cases h
 |.cons x xs,es,G,Q,h,q=>by
  unfold aG at h;split at h
  ·rename_i e es;rw[ae]at h;rw[gn]at q ⊢;refine aF x (λd G1 q=>dg xs (λds G2 z=>?_) (vK xs h.2 q)) q;exact ⟨by simp[z.1],z.2⟩
  ·cases h
theorem Uc(S:Stat Z CX k c E B X){f:String}{xs:Exs}(ih:gC Z c E B X xs){e:Expr}(h:aa c (.call f xs) e=true):PE X e (tE X.K B (wpE Z (.call f xs) E)):=by
 replace h:=CN h;obtain ⟨x,p,args,pos,rfl,h⟩:=h
 ·simp only[ae,ai,fN]at h;obtain ⟨⟨⟨⟨e1,h1⟩,⟨f',n⟩,hm,e2,e3⟩,h2⟩,h3⟩:=h;simp only at e2 e3;subst e1 e2 e3;obtain ⟨g1,g2⟩:=bZ h1;obtain ⟨fa,fd,ps,F0,hk,hb,hmg⟩:=S.call _ _ hm;obtain ⟨EX,hpass,_,hEX⟩:=S.exc;cases args with
  |nil=>cases h2
  |cons e es=>
   obtain ⟨x0,xs',rfl,c1,c2⟩:=jq h3;refine peI (Mq F0 S.room (S.glo _ g1) hmg hk hb .nil hpass (ih h3) (bD g2) (aW e es X.env (bI (aZ x0 c1))) (kO c2 X.env pos)) λW H Q hq=>el hq λY F G e0 he r hw=>?_;rw[uD]at hw;refine cB e0 he r (vK _ h3 hw) λds G1 H1 F1 vs q e1 x1 he1 r1 rvs=>?_;rw[de];refine ⟨by rw[<-rvs.length];exact q.1,F1,G1,ds,r1,rvs,Spec.mono q.2 (λd G' z=>PV.later z x1) λx G' z H' F' x' r'=>?_⟩;exact hEX x G' H' F' z (e1.trans x') r'
theorem Ud(S:Stat Z CX k c E B X){f:Bf}{xs:Exs}(ih:gC Z c E B X xs){e:Expr}(h:aa c (.bcl f xs) e=true):PE X e (tE X.K B (wpE Z (.bcl f xs) E)):=by
 replace h:=CP h;obtain ⟨x,p,args,pos,rfl,h⟩:=h
 ·simp only[ae,ai]at h;obtain ⟨⟨⟨⟨⟨e1,hok⟩,h1⟩,hm⟩,h2⟩,h3⟩:=h;subst e1;obtain ⟨g1,g2⟩:=bZ h1;have hmg:=S.blt _ (al.mp hm);cases args with
  |nil=>cases h2
  |cons e es=>
   obtain ⟨x0,xs',rfl,c1,c2⟩:=jq h3;have hs:=aW e es X.env (bI (aZ x0 c1));have ha:=kO c2 X.env pos;have go:∀W H Q,tE X.K B (wpE Z (.bcl f (.cons x0 xs')) E) W H Q->tCB (je X.K f) (tL X.K B (aN Z (.cons x0 xs') E)) W H Q:=λW H Q hq=>el hq λY F G e0 he r hw=>by
    rw[uE]at hw;refine cB e0 he r hw λds G1 H1 F1 vs q e1 x1 he1 r1 rvs=>?_;exact ⟨F1,G1,ds,r1,rvs,Ba (λd z=>PV.later z x1) q⟩
   cases f with
   |len=>exact peI (nY Ry (S.glo _ g1) hmg PySem.boot_len (ih h3) (dj g2) (bD g2) hs ha) go
   |all=>exact peI (nY (Rz (S.cb _ (al.mp hm) rfl)) (S.glo _ g1) hmg Oa (ih h3) (dj g2) (bD g2) hs ha) go
   |int=>exact peI (nZ RB (S.glo _ g1) hmg zj (ih h3) (dj g2) (bD g2) hs ha) go
   |tuple=>exact peI (nZ RC (S.glo _ g1) hmg (by ac_rfl) (ih h3) (dj g2) (bD g2) hs ha) go
   |sum=>cases hok
   |min=>cases hok
   |max=>cases hok
   |abs=>cases hok
   |min2=>cases hok
   |str=>exact peI (nZ RK (S.glo _ g1) hmg zm (ih h3) (dj g2) (bD g2) hs ha) go
theorem Ue(S:Stat Z CX k c E B X){fz:Bool}{f:Lf}{xs:Exs}(ih:gC Z c E B X xs){e:Expr}(h:aa c (.lcl fz f xs) e=true):PE X e (tE X.K B (wpE Z (.lcl fz f xs) E)):=by
 replace h:=CQ h;obtain ⟨x,p,args,pos,rfl,h⟩:=h
 ·simp only[ae,ai]at h;obtain ⟨⟨⟨⟨⟨e1,hok⟩,h1⟩,hm⟩,h2⟩,h3⟩:=h;subst e1;obtain ⟨g1,g2⟩:=bZ h1;have hmg:=S.blt _ (al.mp hm);cases args with
  |nil=>cases h2
  |cons e es=>
   obtain ⟨x0,xs',rfl,c1,c2⟩:=jq h3;have hs:=aW e es X.env (bI (aZ x0 c1));have ha:=kO c2 X.env pos;have go:∀W H Q,tE X.K B (wpE Z (.lcl fz f (.cons x0 xs')) E) W H Q->tCB (Bq X.K fz f) (tL X.K B (aN Z (.cons x0 xs') E)) W H Q:=λW H Q hq=>el hq λY F G e0 he r hw=>by
    rw[uF]at hw;refine cB e0 he r hw λds G1 H1 F1 vs q e1 x1 he1 r1 rvs=>?_;exact ⟨F1,G1,ds,r1,rvs,Bb (λd z=>c7 (λd G' z=>PV.later z x1) z) q⟩
   cases f with
   |list=>exact peI (nZ (RJ (S.cb _ (al.mp hm) rfl) fz) (S.glo _ g1) hmg zp (ih h3) (dj g2) (bD g2) hs ha) go
   |sorted=>cases hok
theorem Ug{t:String}(h:fH t=true):bootBuiltins (Str.ofString t)=some (.type t):=by
 simp only[fH,bX,ai]at h;rcases h with (((rfl |rfl) |rfl) |rfl) |rfl
 ·exact N6
 ·exact zj
 ·exact zm
 ·ac_rfl
 ·exact zp
theorem Uh(S:Stat Z CX k c E B X){a:Ex}{t:String}(iha:OkE Z c E B X a){e:Expr}(h:aa c (.isi a t) e=true):PE X e (tE X.K B (wpE Z (.isi a t) E)):=by
 replace h:=CW h;obtain ⟨x,p,v,y,p2,pos,rfl,h⟩:=h
 ·simp only[ae,ai]at h;obtain ⟨⟨⟨⟨⟨⟨⟨e1,h1⟩,hm1⟩,h2⟩,e2⟩,h3⟩,hm2⟩,h4⟩:=h;subst e1 e2;obtain ⟨g1,g2⟩:=bZ h1;obtain ⟨g3,g4⟩:=bZ h3;have hmg:=S.blt _ (al.mp hm1);have hmt:=S.blt _ (al.mp hm2);have hty:PE X (.Name (Str.ofString t) p2) (tC (.ty t)):=zr (S.glo _ g3) hmt (Ug h4) (dj g4) (bD g4);have sv:=bI (aZ a h2);refine peI (nY N5 (S.glo _ g1) hmg zq (dI (iha h2) (dI hty gR (aW _ _ _ rfl)) (aW _ _ _ sv)) (dj g2) (bD g2) (aW _ _ _ sv) rfl) λW H Q hq=>el hq λY F G e0 he r hw=>?_;rw[uG]at hw;refine aH e0 he r hw λd G1 H1 F1 v q e1 x1 he1 r1 rv=>?_;split at q
  ·rename_i b hb;obtain ⟨T,hk,hT,hb'⟩:=RP hb;refine ⟨v,t,.type T,b,rfl,RL r1 rv hk,?_,q _ _ _ x1 r1 rfl⟩;rw[RN T t hT h4,hb' h4]
  ·exact q.elim
theorem Ui:bootBuiltins (Str.ofString "ValueError")=some (.type "ValueError"):=by ac_rfl
theorem Uj(S:Stat Z CX k c E B X){a:Ex}{C:String}{xs:List String}(iha:OkE Z c E B X a){e:Expr}(h:aa c (.isx a C xs) e=true):PE X e (tE X.K B (wpE Z (.isx a C xs) E)):=by
 replace h:=CZ h;obtain ⟨x,p,v,y,p2,pos,rfl,h⟩:=h;simp only[ae,ai]at h;obtain ⟨⟨⟨⟨⟨⟨⟨e1,h1⟩,hm1⟩,h2⟩,e2⟩,h3⟩,hC⟩,hxs⟩:=h;subst e1 e2;obtain ⟨g1,g2⟩:=bZ h1;obtain ⟨g3,g4⟩:=bZ h3;have hmg:=S.blt _ (al.mp hm1);have sv:=bI (aZ a h2);obtain ⟨cv,hcv,hall0⟩:=S.xis C hC;have hall:∀C1,(c.xs.contains (C1,true)||c.ot.xk.any λp=>p.1==C1)=true->XI X.K C1 C cv:=λC1 z=>by
  rw[bX]at z;rcases z with z |z
  ·exact hall0 C1 z
  ·obtain ⟨⟨C2,f2⟩,m1,m2⟩:=fN.mp z;have:C2=C1:=by simpa using m2
   subst this;obtain ⟨_,_,hx⟩:=S.xko _ _ m1;exact hx.2 C cv hC hcv
 have hok:=hcv.ok;have hty:PE X (.Name (Str.ofString C) p2) (tC cv):=by
  rcases hcv with ⟨a1,rfl,hm,_⟩ |⟨rfl,rfl,hm⟩
  ·exact yd (S.glo _ g3) hm rfl (bD g4)
  ·exact zr (S.glo _ g3) hm Ui (dj g4) (bD g4)
 refine peI (nY Pa (S.glo _ g1) hmg zq (dI (iha h2) (dI hty gR (aW _ _ _ rfl)) (aW _ _ _ sv)) (dj g2) (bD g2) (aW _ _ _ sv) rfl) λW H Q hq=>el hq λY F G e0 he r hw=>?_;rw[uH]at hw;refine aH e0 he r hw λd G1 H1 F1 v q e1 x1 he1 r1 rv=>?_;unfold gW at q;split at q
 ·rename_i C1;obtain ⟨c1,k1,k2,k4,k5⟩:=hall C1 (a7.mp hxs C1 (al.mp q.1));obtain ⟨a',c',e2,xo,hn⟩:=rv;rw[k1]at hn;have ec:c1=c':=by simpa using hn
  subst ec;subst e2;exact ⟨a',c1,cv,_,rfl,xo,k2,hok,k4,k5,q.2 _ _ _ x1 r1 rfl⟩
 ·rename_i C1 f1 d1;obtain ⟨c1,k1,k2,k4,k5⟩:=hall C1 (a7.mp hxs C1 (al.mp q.1));obtain ⟨a',c',dx,ob,od,y,u,e2,⟨xo,xc,_⟩,_,_,hn⟩:=rv;rw[k1]at hn;have ec:c1=c':=by simpa using hn
  subst ec;subst e2;exact ⟨a',c1,cv,_,rfl,⟨ob,y,xo,xc⟩,k2,hok,k4,k5,q.2 _ _ _ x1 r1 rfl⟩
 ·exact q.elim
theorem Uk{v:Expr}(h:(!p7 v)=true)(name:Str)(env:Env):attributeBase v name env (eval v env)=eval v env:=by
 cases v with
 |Call f args kw pos=>
  cases f with
  |Name id p=>
   cases args with
   |nil=>
    cases kw with
    |nil=>cases h
    |cons _ _=>rfl
   |cons _ _=>rfl
  |_=>rfl
 |_=>rfl
theorem all_plain{es:List Expr}{xs:Exs}(h:aG c xs es=true)(env:Env)(pos:Pos):(backTo pos (starEach es env)).all (λx=>!x.1)=true:=by
 induction es generalizing xs with
 |nil=>rfl
 |cons e es ih=>
  obtain ⟨x0,xs',rfl,c1,c2⟩:=jq h;rw[aW e es env (bI (aZ x0 c1))];show (!false&&(backTo pos (starEach es env)).all (λx=>!x.1))=true;rw[ih c2];rfl
theorem Ul{o:Expr}{name:Str}{apos pos:Pos}{args:List Expr}{env:Env}(hbase:attributeBase o name env (eval o env)=eval o env)
  (hfew:methodCallForm (args.length+([]:List Keyword).length) (backTo pos (starEach args env)) (backToKw pos (keywordEach [] env))=true) (hline:(apos.endLine==pos.line)=true):
  eval (.Call (.Attribute o name apos) args [] pos) env=(do
   let ov <-eval o env
   standAt apos.atName
   let (f,first) <-holding [ov] (getMethod ov name (do return (<-importBound o env).getD true))
   callWith pos f first (backTo pos (starEach args env)) (backToKw pos (keywordEach [] env))):=by
 have hpos:methodCallPos true o env apos pos=pure pos:=by unfold methodCallPos;simp[hline]
 rw[arm_eval_Call,hbase];unfold methodCall;rw[hfew,hpos];rfl
theorem one_le:1<=sizeLine:=by rw[eL];decide
theorem Um(S:Stat Z CX k c E B X){C f:String}{a:Ex}(iha:OkE Z c E B X a){e:Expr}(h:aa c (.xat C f a) e=true):PE X e (tE X.K B (wpE Z (.xat C f a) E)):=by
 obtain ⟨v,n,pos,rfl,hns,hh⟩:=Dd h;simp only[ae,ai]at hh;obtain ⟨⟨en,hx⟩,ha⟩:=hh;subst en;obtain ⟨k',hk',⟨c0,fa,fd,ps,j,hj,hm,hn,hcl,hfn,hk,⟨hx1,hx2,hx3⟩,hb,F0⟩,_⟩:=S.xko C f (al.mp hx);refine peI (QW (iha ha) (SN hns _ _)) λW H Q hq=>el hq λY F G e0 he r hw=>?_;rw[uI]at hw;refine aH e0 he r hw λd G1 H1 F1 v q e1 x1 he1 r1 rv=>?_;unfold iZ at q;split at q
 ·rename_i C1 g1 d1;obtain ⟨rfl,rfl,q⟩:=q;obtain ⟨a,c1,dx,ob,od,y,u,e2,⟨q1,q2,q3,q4⟩,qd,ru,hn1⟩:=rv;have ec:c1=c0:=by rw[hn]at hn1;cases hn1;rfl
  subst ec;exact ⟨a,c1,dx,ob,od,.own y,u,e2,q1,q2,q3,q4,qd,hx1,hx2,hx3,q _ _ _ x1 r1 ru⟩
 ·exact q.elim
theorem Uo(S:Stat Z CX k c E B X){m:Mf}{o:Ex}{xs:Exs}(iho:OkE Z c E B X o)(ih:gC Z c E B X xs){e:Expr}(h:aa c (.mth m o xs) e=true):PE X e (tE X.K B (wpE Z (.mth m o xs) E)):=by
 replace h:=De h;obtain ⟨v,x,apos,args,cpos,rfl,h⟩:=h
 ·simp only[ae,ai,cw]at h;obtain ⟨⟨⟨⟨⟨⟨e1,h1⟩,hb⟩,hl⟩,hn⟩,h2⟩,h3⟩:=h;subst e1;cases args with
  |nil=>cases h2
  |cons e es=>
   obtain ⟨x0,xs',rfl,c1,c2⟩:=jq h3;have hs:=aW e es X.env (bI (aZ x0 c1));have ha:=kO c2 X.env cpos;have hbase:=Uk hb (Str.ofString m.name) X.env;have hfew:((backTo cpos (starEach (e::es) X.env)).all (λx=>!x.1)&&(backToKw cpos (keywordEach [] X.env)).all (λx=>x.1.isSome)
    &&decide ((e::es).length+([]:List Keyword).length+(if ([]:List Keyword).isEmpty then 0 else 1) < 30))=true:=by
    rw[all_plain h3 X.env cpos];have:(e::es).length+([]:List Keyword).length+(if ([]:List Keyword).isEmpty then 0 else 1) < 30:=by have e0:(if ([]:List Keyword).isEmpty=true then 0 else 1)=0:=rfl;rw[e0];show (e::es).length+0+0 < 30;omega
    rw[ce this];rfl
   have hline:(apos.endLine==cpos.line)=true:=by rw[ai];exact hl
   have lst:∀{d:D} {u:V} {G1:DH} {H1:Hp} {F1:FZ},(match d with |.ref p=>(match G1 p with |some (.lst _)=>True |none=>False) |_=>False)->R X.K H1 F1 G1->Rep X.K H1 F1 d u->tyV X.K "list" u H1:=λ{d u G1 H1 F1} q r1 ru=>by
    split at q
    ·rename_i p;split at q
     ·rename_i ds hg;obtain ⟨vs,hv,_⟩:=r1.lst hg;have e2:u=.ref p:=ru;subst e2;exact .inl ⟨rfl,vs,SqL.of hv⟩
     ·exact q.elim
    ·exact q.elim
   have lstV:∀{d:D} {u:V} {G1:DH} {H1:Hp} {F1:FZ},tU (view G1 d)->R X.K H1 F1 G1->Rep X.K H1 F1 d u->tyV X.K "list" u H1:=λ{d u G1 H1 F1} q r1 ru=>by
    generalize hv:view G1 d=w at q;cases w with
    |lst ds=>
     obtain ⟨a,vs,rfl,sq,_⟩:=Rep.list r1 ru hv;exact .inl ⟨rfl,vs,sq⟩
    |_=>exact (show False from q).elim
   cases m with
   |join=>
    refine peI (iD PySem.F.plainAttrs_str PySem.F.slot_str_join PySem.F.type_str_join RQ (iho h1) (ih h3) hbase hfew hline hs ha) λW H Q hq=>el hq λY F G e0 he r hw=>?_;rw[gr]at hw;refine aH e0 he r hw λd G1 H1 F1 u q e1 x1 he1 r1 ru=>⟨?_,cB e1 he1 r1 q.2 λds G2 H2 F2 vs q e2 x2 he2 r2 rvs=>?_⟩
    ·have q1:=q.1;cases d with
     |str l=>obtain ⟨e2,_⟩:=ru;subst e2;exact rfl
     |_=>exact (show False from q1).elim
    ·exact ⟨F2,G2,d,ds,r2,Rep.ext x2 ru,rvs,g8 (λd G' z=>PV.later z (x1.trans x2)) q⟩
   |split=>
    refine peI (iD PySem.F.plainAttrs_str PySem.F.slot_str_split PySem.F.type_str_split m_split (iho h1) (ih h3) hbase hfew hline hs ha) λW H Q hq=>el hq λY F G e0 he r hw=>?_;rw[gr]at hw;refine aH e0 he r hw λd G1 H1 F1 u q e1 x1 he1 r1 ru=>⟨?_,cB e1 he1 r1 q.2 λds G2 H2 F2 vs q e2 x2 he2 r2 rvs=>?_⟩
    ·have q1:=q.1;cases d with
     |str l=>obtain ⟨e2,_⟩:=ru;subst e2;exact rfl
     |_=>exact (show False from q1).elim
    ·exact ⟨F2,G2,d,ds,r2,Rep.ext x2 ru,rvs,g8 (λd G' z=>PV.later z (x1.trans x2)) q⟩
   |append=>
    refine peI (iD fv PySem.F.slot_list_append PySem.F.type_list_append RT (iho h1) (ih h3) hbase hfew hline hs ha) λW H Q hq=>el hq λY F G e0 he r hw=>?_;rw[gr]at hw;refine aH e0 he r hw λd G1 H1 F1 u q e1 x1 he1 r1 ru=>⟨?_,cB e1 he1 r1 q.2 λds G2 H2 F2 vs q e2 x2 he2 r2 rvs=>?_⟩
    ·refine lst (d:=d) (G1:=G1) ?_ r1 ru;have q1:=q.1;cases d <;> first |exact q1 |exact (show False from q1).elim
    ·exact ⟨F2,G2,d,ds,r2,Rep.ext x2 ru,rvs,g8 (λd G' z=>PV.later z (x1.trans x2)) q⟩
   |extend=>
    refine peI (iD fv PySem.F.slot_list_extend PySem.F.type_list_extend RZ (iho h1) (ih h3) hbase hfew hline hs ha) λW H Q hq=>el hq λY F G e0 he r hw=>?_;rw[gr]at hw;refine aH e0 he r hw λd G1 H1 F1 u q e1 x1 he1 r1 ru=>⟨?_,cB e1 he1 r1 q.2 λds G2 H2 F2 vs q e2 x2 he2 r2 rvs=>?_⟩
    ·refine lst (d:=d) (G1:=G1) ?_ r1 ru;have q1:=q.1;cases d <;> first |exact q1 |exact (show False from q1).elim
    ·exact ⟨F2,G2,d,ds,r2,Rep.ext x2 ru,rvs,g8 (λd G' z=>PV.later z (x1.trans x2)) q⟩
   |count=>
    refine peI (iD fv PySem.F.slot_list_count PySem.F.type_list_count RV (iho h1) (ih h3) hbase hfew hline hs ha) λW H Q hq=>el hq λY F G e0 he r hw=>?_;rw[gr]at hw;refine aH e0 he r hw λd G1 H1 F1 u q e1 x1 he1 r1 ru=>⟨lstV q.1 r1 ru,cB e1 he1 r1 q.2 λds G2 H2 F2 vs q e2 x2 he2 r2 rvs=>?_⟩;exact ⟨F2,G2,d,ds,r2,Rep.ext x2 ru,rvs,g8 (λd G' z=>PV.later z (x1.trans x2)) q⟩
   |index=>
    refine peI (iD fv PySem.F.slot_list_index PySem.F.type_list_index RW (iho h1) (ih h3) hbase hfew hline hs ha) λW H Q hq=>el hq λY F G e0 he r hw=>?_;rw[gr]at hw;refine aH e0 he r hw λd G1 H1 F1 u q e1 x1 he1 r1 ru=>⟨lstV q.1 r1 ru,cB e1 he1 r1 q.2 λds G2 H2 F2 vs q e2 x2 he2 r2 rvs=>?_⟩;exact ⟨F2,G2,d,ds,r2,Rep.ext x2 ru,rvs,g8 (λd G' z=>PV.later z (x1.trans x2)) q⟩
end
section
variable {Z:ak} {CX:CXT} {k:Nat} {c:CT} {E:EK} {B:Bs} {X:Cx}
def EachE(Z:ak)(c:CT)(E:EK)(B:Bs)(X:Cx):Exs->Prop
 |.nil=>True
 |.cons e es=>OkE Z c E B X e/\EachE Z c E B X es
def qp(Z:ak)(c:CT)(E:EK)(B:Bs)(X:Cx):Txs->Prop
 |.nil=>True
 |.cons e es=>OkT Z c E B X e/\qp Z c E B X es
def tJF(K:PF)(B:Bs)(w:aj->DH->(List Nat->DH->Prop)->Prop):TJ2:=λX H Q=>∃Y F G,Ext B.H B.F H F/\EnvR K H F Y X/\R K H F G/\w Y G (λl G'=>∀H' F',Ext H F H' F'->R K H' F' G'->Q (tx l) H')
theorem vL{X:Cx}{es:List Expr}{t t':TJ2}{n:Nat}(h:PJ2 X es t n)(i:∀Y H Q,t' Y H Q->t Y H Q):PJ2 X es t' n:=λpins s Y H Q out I hl q=>h pins s Y H Q out I hl (i Y H Q q)
theorem Dy:∀(es:Exs){ps:List Expr},EachE Z c E B X es->jl es ps=true->aG c es (ps.map unF)=true->PJ2 X ps (tJF X.K B (wpF Z es E)) (1000 * ps.length)
 |.nil,ps,_,_,h=>by
  unfold aG at h;cases ps with
  |nil=>exact vL PK λW H Q hq=>el hq λY F G e0 he r hw=>by rw[jY]at hw;exact hw H F (Ext.refl _ _) r
  |cons _ _=>cases h
 |.cons x xs,ps,ih,hp,h=>by
  unfold aG at h;cases ps with
  |nil=>cases h
  |cons p ps=>
   simp only[ci,ae]at h;unfold jl at hp;rw[ae]at hp;have hr:=Dy xs (ps:=ps) ih.2 hp.2 h.2;have hb:=hp.1;have hlen:(1000:Nat) * (p::ps).length=1000+1000 * ps.length:=by rw[aS,Nat.mul_succ,Nat.add_comm]
   rw[hlen];cases hf:qi p with
   |some t=>
    have e1:p=_:=t.2;rw[hf]at hb;have hb:(decide (t.1.2.1=-1)&&t.1.2.2.1.isNone)=true:=hb;rw[ae,cw,b9]at hb;have hu:unF p=t.1.1:=by unfold unF;rw[hf]
    have h1:=h.1;rw[hu]at h1;rw[e1,hb.1,hb.2];refine vL (PL (ih.1 h1) hr) λW H Q hq=>el hq λY F G e0 he r hw=>?_;rw[gq]at hw;refine aH e0 he r hw λd G1 H1 F1 v q e2 x1 he1 r1 rv=>?_;split at q
    ·rename_i l;obtain ⟨e3,_⟩:=rv;refine .inr ⟨tx l,e3,by rw[bU];exact q.1,Y,F1,G1,e2,he1,r1,ie xs (λy G2 z H2 F2 x2 r2=>?_) q.2⟩;show Q (tx l++tx y) H2;rw[iH];exact z H2 F2 (x1.trans x2) r2
    ·rename_i i;have e3:v=.int i:=rv;obtain ⟨⟨q0,q1⟩,q2⟩:=q;refine .inl ⟨i.toNat,by rw[e3,Int.toNat_of_nonneg q0],by omega,Y,F1,G1,e2,he1,r1,ie xs (λy G2 z H2 F2 x2 r2=>?_) q2⟩;have ht:gh i.toNat=tx (aM i.toNat):=rT _;show Q (gh i.toNat++tx y) H2;rw[ht,iH];exact z H2 F2 (x1.trans x2) r2
    ·exact q.elim
   |none=>
    rw[hf]at hb;have hb:vC x=true:=hb;have hx:∃l,x=.cst (.str l):=by
     unfold vC at hb;split at hb
     ·exact ⟨_,rfl⟩
     ·cases hb
    obtain ⟨l,rfl⟩:=hx;have hu:unF p=p:=by unfold unF;rw[hf]
    have h1:=h.1;rw[hu]at h1;refine vL (PN (ih.1 h1) hr) λW H Q hq=>el hq λY F G e0 he r hw=>?_;rw[gq,dB]at hw;obtain ⟨hl,hw⟩:=hw;have hw':wpE Z (.cst (.str l)) E Y G (λd G1=>d=.str l/\G1=G):=by rw[dB];exact ⟨rfl,rfl⟩
    refine aH e0 he r hw' λd G1 H1 F1 v q e2 x1 he1 r1 rv=>?_;obtain ⟨rfl,rfl⟩:=q;obtain ⟨e3,_⟩:=rv;refine ⟨tx l,e3,by rw[bU];exact hl,Y,F1,G1,e2,he1,r1,ie xs (λy G2 z H2 F2 x2 r2=>?_) hw⟩;show Q (tx l++tx y) H2;rw[iH];exact z H2 F2 (x1.trans x2) r2
theorem Up(S:Stat Z CX k c E B X){es:Exs}(ih:EachE Z c E B X es){e:Expr}(h:aa c (.fst es) e=true):PE X e (tE X.K B (wpE Z (.fst es) E)):=by
 obtain ⟨ps,pos,rfl,h'⟩:=Dc h;rw[ae,ae,ae,cw,cw]at h';obtain ⟨⟨⟨h1,h2⟩,h3⟩,h4⟩:=h';have hp:=Dy es ih h3 h4;rcases ps with _ |⟨v1,_ |⟨v2,r⟩⟩
 ·simp at h1
 ·simp at h1
 ·refine peI (PP hp (by omega)) λW H Q hq=>el hq λY F G e0 he r hw=>?_;rw[pH]at hw;exact ⟨Y,F,G,e0,he,r,ie es (λl G' z H' F' x' r'=>z.2 H' F' _ x' r' ⟨rfl,z.1⟩) hw⟩
theorem EachE.oks:∀{xs:Exs},EachE Z c E B X xs->gC Z c E B X xs
 |.nil,_=>λh=>qm h
 |.cons x xs,hh=>λh=>kJ hh.1 (EachE.oks hh.2) h
def qt(Z:ak)(E:EK)(isAnd:Bool)(x:Ex)(xs:Exs):aj->DH->(D->DH->Prop)->Prop:=λY G kk=>wpE Z x E Y G λd G1=>match d with |.bl b=>wpB Z xs isAnd b E Y G1 (λc G2=>kk (.bl c) G2) |_=>False
theorem Dz{isAnd:Bool}{pos:Pos}:∀(xs:Exs){x:Ex},OkE Z c E B X x->EachE Z c E B X xs->∀{v:Expr}{vs:List Expr},aa c x v=true->aG c xs vs=true->
  PE X (.BoolOp (if isAnd then .And else .Or) (v::vs) pos) (tE X.K B (qt Z E isAnd x xs))
 |.nil,x,ih,_,v,vs,h1,h2=>by
  unfold aG at h2;cases vs with
  |nil=>
   refine peI (J1 (ih h1)) λW H Q hq=>el hq λY F G e0 he r hw=>?_;unfold qt at hw;refine aH e0 he r hw λd G1 H1 F1 u q e1 x1 he1 r1 ru=>?_;split at q
   ·rw[tZ]at q;exact q _ _ _ x1 r1 ru
   ·exact q.elim
  |cons _ _=>cases h2
 |.cons y ys,x,ih,hh,v,vs,h1,h2=>by
  unfold aG at h2;split at h2
  ·rename_i w ws;rw[ae]at h2;have rest:=Dz (isAnd:=isAnd) (pos:=pos) ys hh.1 hh.2 h2.1 h2.2;cases isAnd with
   |true=>
    refine peI (J2 (ih h1) rest) λW H Q hq=>el hq λY F G e0 he r hw=>?_;unfold qt at hw;refine aH e0 he r hw λd G1 H1 F1 u q e1 x1 he1 r1 ru=>?_;split at q
    ·rename_i b;refine ⟨b,ru,?_⟩;rw[pB]at q;cases b with
     |true=>
      rw[if_pos rfl];exact ⟨Y,F1,G1,e1,he1,r1,aF y (λd G' z=>by
       cases d <;> first |exact (show False from z).elim |exact pK ys (λc G2 z=>PV.later z x1) z) q⟩
     |false=>
      rw[if_neg b6];exact q _ _ _ x1 r1 rfl
    ·exact q.elim
   |false=>
    refine peI (J7 (ih h1) rest) λW H Q hq=>el hq λY F G e0 he r hw=>?_;unfold qt at hw;refine aH e0 he r hw λd G1 H1 F1 u q e1 x1 he1 r1 ru=>?_;split at q
    ·rename_i b;refine ⟨b,ru,?_⟩;rw[pB]at q;cases b with
     |false=>
      rw[if_neg b6];exact ⟨Y,F1,G1,e1,he1,r1,aF y (λd G' z=>by
       cases d <;> first |exact (show False from z).elim |exact pK ys (λc G2 z=>PV.later z x1) z) q⟩
     |true=>
      rw[if_pos rfl];exact q _ _ _ x1 r1 rfl
    ·exact q.elim
  ·cases h2
theorem Uq{isAnd:Bool}{x:Ex}{xs:Exs}(ih:OkE Z c E B X x)(hh:EachE Z c E B X xs){e:Expr}(h:aa c (.boo isAnd x xs) e=true):PE X e (tE X.K B (wpE Z (.boo isAnd x xs) E)):=by
 replace h:=Cu h;obtain ⟨_,_,_,_,rfl,h⟩:=h
 ·simp only[ae,ai]at h;obtain ⟨⟨e1,h1⟩,h2⟩:=h;subst e1;refine peI (Dz xs ih hh h1 h2) λW H Q hq=>el hq λY F G e0 he r hw=>⟨Y,F,G,e0,he,r,?_⟩;rw[uw]at hw;exact hw
theorem Ur{t:Tx}{a b:Ex}(iht:OkT Z c E B X t)(iha:OkE Z c E B X a)(ihb:OkE Z c E B X b){e:Expr}(h:aa c (.ife t a b) e=true):PE X e (tE X.K B (wpE Z (.ife t a b) E)):=by
 replace h:=Cv h;obtain ⟨_,_,_,_,rfl,h⟩:=h
 ·simp only[ae]at h;obtain ⟨⟨h1,h2⟩,h3⟩:=h;refine peI (J8 (iht h1) (iha h2) (ihb h3)) λW H Q hq=>el hq λY F G e0 he r hw=>?_;rw[ux]at hw;refine jm e0 he r hw λb' G1 H1 F1 q e1 x1 he1 r1=>?_;cases b' with
  |true=>
   rw[if_pos rfl];exact ⟨Y,F1,G1,e1,he1,r1,aF a (λd G' z=>PV.later z x1) q⟩
  |false=>
   rw[if_neg b6];exact ⟨Y,F1,G1,e1,he1,r1,aF b (λd G' z=>PV.later z x1) q⟩
theorem Us{x:Ex}(ih:OkE Z c E B X x){e:Expr}(hp:ik e=true)(h:aa c x e=true):PT X e (tB' X.K B (wpT Z (.val x) E)):=by
 refine ptI (Ls (ih h) (TF hp X.env)) λW H Q hq=>el hq λY F G e0 he r hw=>?_;rw[jV]at hw;refine aH e0 he r hw λd G1 H1 F1 u q e1 x1 he1 r1 ru=>?_;split at q
 ·rename_i b hb;exact ⟨b,Bp r1 ru hb,q _ _ x1 r1⟩
 ·exact q.elim
theorem Ut{t:Tx}(ih:OkT Z c E B X t){e:Expr}(h:bw c (.not t) e=true):PT X e (tB' X.K B (wpT Z (.not t) E)):=by
 replace h:=S6 h;obtain ⟨_,_,rfl,h⟩:=h
 ·refine ptI (JX (ih h)) λW H Q hq=>el hq λY F G e0 he r hw=>?_;rw[tW]at hw;exact jm e0 he r hw λb G1 H1 F1 q e1 x1 he1 r1=>q _ _ x1 r1
def kW(Z:ak)(E:EK)(isAnd:Bool)(x:Tx)(xs:Txs):aj->DH->(Bool->DH->Prop)->Prop:=λY G kk=>wpT Z x E Y G λb G1=>fJ Z xs isAnd b E Y G1 kk
theorem DG{isAnd:Bool}{pos:Pos}:∀(xs:Txs){x:Tx},OkT Z c E B X x->qp Z c E B X xs->∀{v:Expr}{vs:List Expr},bw c x v=true->il c xs vs=true->
  PW X (.BoolOp (if isAnd then .And else .Or) (v::vs) pos) (tB' X.K B (kW Z E isAnd x xs))
 |.nil,x,ih,_,v,vs,h1,h2=>by
  unfold il at h2;cases vs with
  |nil=>
   have go:∀W H Q,tB' X.K B (kW Z E isAnd x .nil) W H Q->tB' X.K B (wpT Z x E) W H Q:=λW H Q hq=>el hq λY F G e0 he r hw=>by
    unfold kW at hw;refine ⟨Y,F,G,e0,he,r,dC x (λb G1 q=>?_) hw⟩;rw[uc]at q;exact q
   cases isAnd with
   |true=>exact pwI (JS (ih h1)) go
   |false=>exact pwI (JT (ih h1)) go
  |cons _ _=>cases h2
 |.cons y ys,x,ih,hh,v,vs,h1,h2=>by
  unfold il at h2;split at h2
  ·rename_i w ws;rw[ae]at h2;have rest:=DG (isAnd:=isAnd) (pos:=pos) ys hh.1 hh.2 h2.1 h2.2;cases isAnd with
   |true=>
    refine pwI (JV (ih h1) rest) λW H Q hq=>el hq λY F G e0 he r hw=>?_;unfold kW at hw;refine jm e0 he r hw λb G1 H1 F1 q e1 x1 he1 r1=>?_;rw[pC]at q;cases b with
    |true=>
     rw[if_pos rfl];exact ⟨Y,F1,G1,e1,he1,r1,dC y (λb' G' z=>pL ys (λc G2 z=>PB.later z x1) z) q⟩
    |false=>
     rw[if_neg b6];exact q _ _ x1 r1
   |false=>
    refine pwI (JW (ih h1) rest) λW H Q hq=>el hq λY F G e0 he r hw=>?_;unfold kW at hw;refine jm e0 he r hw λb G1 H1 F1 q e1 x1 he1 r1=>?_;rw[pC]at q;cases b with
    |false=>
     rw[if_neg b6];exact ⟨Y,F1,G1,e1,he1,r1,dC y (λb' G' z=>pL ys (λc G2 z=>PB.later z x1) z) q⟩
    |true=>
     rw[if_pos rfl];exact q _ _ x1 r1
  ·cases h2
theorem Uu{isAnd:Bool}{x:Tx}{xs:Txs}(ih:OkT Z c E B X x)(hh:qp Z c E B X xs){e:Expr}(h:bw c (.boo isAnd x xs) e=true):PT X e (tB' X.K B (wpT Z (.boo isAnd x xs) E)):=by
 replace h:=S7 h;obtain ⟨_,_,_,_,rfl,h⟩:=h
 ·simp only[ae,ai]at h;obtain ⟨⟨e1,h1⟩,h2⟩:=h;subst e1;refine ptI (PW.pt (DG xs ih hh h1 h2)) λW H Q hq=>el hq λY F G e0 he r hw=>⟨Y,F,G,e0,he,r,?_⟩;rw[tX]at hw;exact hw
def tG(K:PF)(B:Bs)(t:Tg):TG:=λv X H Q=>∃Y F G d,Ext B.H B.F H F/\EnvR K H F Y X/\R K H F G/\Rep K H F d v/\aX t d Y G (λρ'=>∀σ',EnvR K H F ρ' σ'->Q σ' H)
def tGs(K:PF)(B:Bs)(t:Tgs):TGs:=λvs X H Q=>∃Y F G ds,Ext B.H B.F H F/\EnvR K H F Y X/\R K H F G/\Reps K H F ds vs/\bz t ds Y G (λρ'=>∀σ',EnvR K H F ρ' σ'->Q σ' H)
theorem qu:∀{ts:Tgs}{es:List Expr}{env:Env},cg c ts es=true->(assignEach es env).length=es.length/\(assignEach es env).findIdx? (·.1)=none/\(assignEach es env).map (·.2)=es.map λe=>assign e env
 |.nil,[],env,_=>⟨rfl,rfl,rfl⟩
 |.nil,_::_,env,h=>by unfold cg at h;cases h
 |.cons t r,[],env,h=>by unfold cg at h;cases h
 |.cons t r,e::es,env,h=>by
  unfold cg at h;rw[ae]at h;obtain ⟨h1,h2,h3⟩:=qu (env:=env) h.2;have hs:assignEach (e::es) env=(false,assign e env)::assignEach es env:=by
   cases t with
   |nm i=>
    have h':=h.1;obtain ⟨_,_,rfl,_⟩:=vI h';rfl
   |tp ts=>
    have h':=h.1;obtain ⟨_,_,_,rfl,_⟩:=vJ h';rfl
  rw[hs];refine ⟨by simp[h1],?_,by simp[h3]⟩;rw[List.findIdx?_cons];simp[h2]
section
variable {prog:Program} {w:World} {A:Around} {E:Value->Shared->Prop} {s:Shared}
theorem DK{it t:Addr}{items:Array Value}(hne:t≠it):∀(n i:Nat)(s:Shared)(Q:List Value->Shared->Prop),s.heap.IsListIter it t i->s.heap.IsList t items->i+n<=items.size->
  (∀h',h'.IsListIter it t (i+n)->Heap.SameBut it s.heap h'->Q ((items.toList.drop i).take n) { s with heap:=h' })->wpAny (model prog w) A (draw (.ref it) n) Q E s
 |0,i,s,Q,hit,_,_,hQ=>by
  show wpAny _ _ (pure []) Q E s;exact av (by simpa using hQ s.heap hit (Heap.SameBut.refl ..))
 |n+1,i,s,Q,hit,ht,hle,hQ=>by
  have hlt:i < items.size:=by omega
  show wpAny _ _ (pyNext (.ref it) >>= _) Q E s;refine af (wpAny_pyNext_list_item hit ht (x:=items[i]) (by simp[hlt]) λh₁ hit₁ hs₁=>?_);refine af (df (DK hne n (i+1) _ _ hit₁ (ht.extBut hs₁.extBut hne) (by omega) λh₂ hit₂ hs₂=>av ?_));have hd:items.toList.drop i=items[i]::items.toList.drop (i+1):=by simp[ca,hlt]
  have:=hQ h₂ (by rw[show i+(n+1)=i+1+n by omega];exact hit₂) (hs₁.trans hs₂);rw[hd,List.take_succ_cons]at this;exact this
theorem Uv{t:Addr}{items:Array Value}{Q:List Value->Shared->Prop}(hh:A.handled=none)(ht:s.heap.IsList t items)
  (hQ:∀h',Heap.ExtBut (~~~s) s.heap h'->Q items.toList { s with heap:=h' }):wpAny (model prog w) A (unpackItems (.ref t) items.size none) Q E s:=by
 have hlt:t≠(~~~s):=by obtain ⟨o,ho,_⟩:=ht;exact cf (ax ho)
 unfold unpackItems;refine af ?_;unfold notIterableAtAll;refine af (wpAny_specialOf ht.typeIs PySem.F.slot_list_iter.lookup ?_);refine av ?_;simp only[fq,if_false];refine af (df (wpAny_pyIter_list ht ?_));refine af (df (DK hlt items.size 0 _ _ ⟨_,aI _ rfl,rfl,rfl⟩ (ht.push _) (by omega) λh₁ hit₁ hs₁=>?_));have hall:List.take items.size (List.drop 0 items.toList)=items.toList:=by rw[fe];exact fy (by simp)
 rw[hall];rw[if_neg (by simp)];have ht₁:h₁.IsList t items:=(ht.push _).extBut hs₁.extBut hlt;refine af (df (wpAny_pyNext_list_end hh hit₁ ht₁ (by simp) λh₂ he₂=>?_));simp only[Option.isSome_none,fq,if_false];refine av (hQ h₂ λb o hb e=>he₂ b o hb (hs₁.extBut b o hb (ag _ e)))
theorem Uw{env:Env}{elts:List Expr}{x1}{pos:Pos}{t:Addr}{items:Array Value}{Q:Unit->Shared->Prop}(hh:A.handled=none)(ht:s.heap.IsList t items)
  (hn:(assignEach elts env).length=items.size) (hstar:(assignEach elts env).findIdx? (·.1)=none)
  (h:∀h',Heap.ExtBut (~~~s) s.heap h'->wpAny (model prog w) A (assignInOrder ((assignEach elts env).map (·.2)) items.toList) Q E { s with heap:=h' }):
  wpAny (model prog w) A (assign (.Tuple elts x1 pos) env (.ref t)) Q E s:=by
 rw[assign_Tuple];refine af (fw ?_);unfold unpack;rw[hn,hstar];exact af (df (Uv hh ht h))
end
section
variable {X:Cx} {pos:Pos}
def Ux(K:PF)(n:Nat)(t:TGs):TG:=λv Y H Q=>∃a xs,v=.ref a/\SqL K H a xs/\xs.length=n/\t xs Y H Q
theorem Uy{es:List Expr}{k:Nat}{t:TGs}{n:Nat}(hc:X.calm=true)(h:PGs X es t)
  (hn:(assignEach es X.env).length=n:=by rfl) (hst:(assignEach es X.env).findIdx? (·.1)=none:=by rfl):PG X (.Tuple es k pos) (Ux X.K n t):=by
 intro pins s Y H v u Q I r hw;obtain ⟨a,xs,e1,hq,hl,hw⟩:=hw;subst e1;cases r;obtain ⟨its,rv,pl,hz⟩:=I.list hq;refine Uw (I.ok.hd hc) pl.isList (by simp[hn,<-hl,rv.length]) hst λh' hx=>?_;have I1:Inv X pins Y H { s with heap:=h' }:=I.kept (t':=s.toks) λb o e=>hx b o (cf (ax e)) e;exact h pins _ Y H xs _ Q I1 (by simpa using rv) hw
end
section
variable {X:Cx} {pos:Pos}
theorem DN:∀{xs:List V}{z:V}{us:List Value},Vals (xs++[z]) us->∃vs u,us=vs++[u]/\Vals xs vs/\RelV z u
 |[],_,_,.cons r .nil=>⟨[],_,rfl,.nil,r⟩
 |x::xs,z,_,.cons r rr=>by
  obtain ⟨vs,u,e,h1,h2⟩:=DN (xs:=xs) rr;subst e;exact ⟨_::vs,u,rfl,.cons r h1,h2⟩
def Uz(K:PF)(t:TGs):TG:=λv Y H Q=>∃a xs z,v=.ref a/\SqL K H a (xs++[z])/\∀l,H l=none->t [.ref l,z] Y (upd H l (.lst xs)) Q
theorem UG{x y:Str}{px py sp:Pos}{k:Nat}{t:TGs}(hc:X.calm=true)(h:PGs X [.Name x px,.Name y py] t):PG X (.Tuple [.Starred (.Name x px) sp,.Name y py] k pos) (Uz X.K t):=by
 intro pins s Y H v u Q I r hw;obtain ⟨a,xs,z,e1,hq,hw⟩:=hw;subst e1;cases r;obtain ⟨its,rv,pl,hz⟩:=I.list hq;obtain ⟨vs,w,e,h1,h2⟩:=DN rv;subst e;have hn:(vs++[w]).toArray.size=vs.length+1:=by simp
 have hz':(vs++[w]).toArray.size<=sizeLine:=by rw[hn,<-h1.length];simpa using hz
 refine Qp (I.ok.hd hc) pl.isList hz' (by rw[hn];omega) rfl rfl λh' tk kp=>?_;have e2:(vs++[w]).toArray.toList.take ((vs++[w]).toArray.size - 1)=vs:=by rw[hn];simp
 have e3:(vs++[w]).toArray.toList.drop ((vs++[w]).toArray.size - 1)=[w]:=by rw[hn];simp
 rw[e2,e3];have I1:Inv X pins Y H { s with heap:=h',toks:=tk }:=I.kept (t':=tk) kp;have hl:xs.length<=sizeLine:=by rw[hn]at hz';rw[h1.length];omega
 have I2:Inv X pins Y (upd H h'.objs.size (.lst xs)) { s with heap:=h'.push { cls:=.type "list",data:=.seq vs.toArray },toks:=tk }:=
  I1.laid (t':=tk) (λb o e=>ag _ e) (am _) (show ObjOk X.prog X.w _ _ _ (.lst _) from ⟨hl,vs,0,h1,aI _ rfl⟩)
 have hv2:Vals [V.ref h'.objs.size,z] [Value.ref h'.objs.size,w]:=.cons (show RelV (.ref h'.objs.size) (.ref h'.objs.size) from rfl) (.cons h2 .nil);exact h pins _ Y _ _ _ Q I2 hv2 (hw _ (I1.hok.fresh (am _)))
end
mutual
theorem qw(S:Stat Z CX k c E B X):∀(t:Tg){e:Expr},cA c t e=true->PG X e (tG X.K B t)
 |.nm i,e,h=>by
  replace h:=vI h;obtain ⟨x,pos,rfl,h⟩:=h
  ·skip;rw[ae,ai]at h;obtain ⟨l,f⟩:=S.sto x h.2;intro pins s W H v u Q I rv q;refine rE (i:=i) S.nd (by rw[S.N];exact h.1) l f pins s W H v u Q I rv ?_;obtain ⟨Y,F,G,d,e0,he,r,rd,hw⟩:=q;unfold aX at hw;exact hw _ (he.set rd i)
 |.tp ts,e,h=>by
  replace h:=vJ h;obtain ⟨es,kk,pos,rfl,h⟩:=h;rw[ae]at h;obtain ⟨hcm,h⟩:=h
  ·skip;obtain ⟨h1,h2,h3⟩:=qu (env:=X.env) h;intro pins s W H v u Q I rv q;obtain ⟨Y,F,G,d,e0,he,r,rd,hw⟩:=q;unfold aX at hw;split at hw
   ·rename_i ds;refine KC (n:=es.length) (S.calm hcm) (vM S ts h) h1 h2 pins s W H v u Q I rv ?_;obtain ⟨a,vs,e1,q,t⟩:=rd;refine ⟨a,vs,e1,q.sq,?_,Y,F,G,ds,e0,he,r,t,hw⟩;rw[<-t.length];exact vN ts h hw
   ·rename_i ds;refine Uy (n:=es.length) (S.calm hcm) (vM S ts h) h1 h2 pins s W H v u Q I rv ?_;obtain ⟨a,vs,e1,q,t⟩:=rd;refine ⟨a,vs,e1,q.sq,?_,Y,F,G,ds,e0,he,r,t,hw⟩;rw[<-t.length];exact vN ts h hw
   ·exact hw.elim
theorem vM(S:Stat Z CX k c E B X):∀(ts:Tgs){es:List Expr},cg c ts es=true->PGs X es (tGs X.K B ts)
 |.nil,es,h=>by
  unfold cg at h;cases es with
  |nil=>
   intro pins s W H vs us Q I rv q;refine yj pins s W H vs us Q I rv ?_;obtain ⟨Y,F,G,ds,e0,he,r,rd,hw⟩:=q;unfold bz at hw;split at hw
   ·exact ⟨rd,hw _ he⟩
   ·exact hw.elim
  |cons _ _=>cases h
 |.cons t r,es,h=>by
  unfold cg at h;split at h
  ·rename_i e es;rw[ae]at h;intro pins s W H vs us Q I rv q;have hs:(assignEach (e::es) X.env).map (·.2)=assign e X.env::(assignEach es X.env).map (·.2):=by
    have hh:cg c (.cons t r) (e::es)=true:=by unfold cg;show (cA c t e&&cg c r es)=true;rw[h.1,h.2];rfl
    rw[(qu (env:=X.env) hh).2.2,(qu (env:=X.env) h.2).2.2];rfl
   refine rF (qw S t h.1) (vM S r h.2) hs pins s W H vs us Q I rv ?_;obtain ⟨Y,F,G,ds,e0,he,rr,rd,hw⟩:=q;unfold bz at hw;split at hw
   ·rename_i d ds;obtain ⟨v,vs',e1,rd1,rds⟩:=rd;refine ⟨v,vs',e1,Y,F,G,d,e0,he,rr,rd1,fL (λρ' z σ' he'=>?_) t hw⟩;exact ⟨ρ',F,G,ds,e0,he',rr,rds,z⟩
   ·exact hw.elim
  ·cases h
theorem vN{G:DH}:∀(ts:Tgs){es:List Expr}{ds:List D}{Y:aj}{Q:aj->Prop},cg c ts es=true->bz ts ds Y G Q->ds.length=es.length
 |.nil,es,ds,Y,Q,h,q=>by
  unfold cg at h;unfold bz at q;split at q
  ·cases es with
   |nil=>rfl
   |cons _ _=>cases h
  ·exact q.elim
 |.cons t r,es,ds,Y,Q,h,q=>by
  unfold cg at h;split at h
  ·rw[ae]at h;unfold bz at q;split at q
   ·rename_i d ds;have:∃ρ',bz r ds ρ' G Q:=DP t q;obtain ⟨ρ',q'⟩:=this;have:=vN r h.2 q';simp[this]
   ·exact q.elim
  ·cases h
theorem DP{G:DH}:∀(t:Tg){d:D}{Y:aj}{Q:aj->Prop},aX t d Y G Q->∃ρ',Q ρ'
 |.nm i,d,Y,Q,q=>⟨_,q⟩
 |.tp ts,d,Y,Q,q=>by
  unfold aX at q;split at q
  ·exact vO ts q
  ·exact vO ts q
  ·exact q.elim
theorem vO{G:DH}:∀(ts:Tgs){ds:List D}{Y:aj}{Q:aj->Prop},bz ts ds Y G Q->∃ρ',Q ρ'
 |.nil,ds,Y,Q,q=>by
  unfold bz at q;split at q
  ·exact ⟨_,q⟩
  ·exact q.elim
 |.cons t r,ds,Y,Q,q=>by
  unfold bz at q;split at q
  ·obtain ⟨ρ',q'⟩:=DP t q;exact vO r q'
  ·exact q.elim
end
end
structure WalkJ(K:PF)(H:Hp)(F:FZ)(items:List D)(g:Hld)(J:It):Prop where
 go:∀H' F' G i,Ext H F H' F'->R K H' F' G->held g G->i < items.length->J.go i H'
 stop:∀H' F' G,Ext H F H' F'->R K H' F' G->held g G->J.stop items.length H'
 yld:∀H' F' i x H'' d G,Ext H F H' F'->R K H' F' G->held g G->items[i]?=some d->J.yld i H' x H''->Ext H' F' H'' F'/\R K H'' F' G/\Rep K H'' F' d x
section
variable {K:PF} {H:Hp} {F:FZ}
structure Src(K:PF)(H:Hp)(F:FZ)(u:Value)(ds:List D)(g:Hld)(k:SK):Prop where
 val:k.val=u
 sat:∀H' F' G,Ext H F H' F'->R K H' F' G->held g G->∃vs,k.Sat H' vs/\Reps K H' F' ds vs
theorem kY{d:D}{v:V}{u:Value}{G:DH}{ds:List D×Hld}(h:Rep K H F d v)(r:RelV v u)(e:itemsOf G d=some ds):∃k,Src K H F u ds.1 ds.2 k:=by
 cases d with
 |lst xs=>
  simp only[itemsOf,aE]at e;subst e;obtain ⟨a,vs,e1,q,t⟩:=h;subst e1;have hu:u=Value.ref a:=r;subst hu;exact ⟨.lst a,rfl,λH' F' G' x _ _=>⟨vs,(FzL.ext x q).2,Reps.ext x t⟩⟩
 |tup xs=>
  simp only[itemsOf,aE]at e;subst e;obtain ⟨a,vs,e1,q,t⟩:=h;subst e1;have hu:u=Value.ref a:=r;subst hu;exact ⟨.tup a,rfl,λH' F' G' x _ _=>⟨vs,(TpT.ext (K:=K) x q).it,Reps.ext x t⟩⟩
 |str l=>
  simp only[itemsOf,aE]at e;subst e;obtain ⟨e1,hl⟩:=h;subst e1;obtain ⟨t,hu⟩:∃t,u=Value.str (tx l) t:=r;subst hu;exact ⟨.str (tx l) t,rfl,λH' F' G' x _ _=>⟨_,rfl,by simpa using vh l⟩⟩
 |ref p=>
  simp only[itemsOf]at e;split at e
  ·rename_i xs hg;simp only[aE]at e;subst e;have e1:v=.ref p:=h;subst e1;have hu:u=Value.ref p:=r;subst hu;exact ⟨.lst p,rfl,λH' F' G' x r' hh=>r'.lst hh.1⟩
  ·cases e
 |_=>cases e
theorem qx{G:DH}{d:D}{ds:List D×Hld}(e:itemsOf G d=some ds):held ds.2 G:=by
 cases d with
 |ref p=>
  simp only[itemsOf]at e;split at e
  ·rename_i xs hg;simp only[aE]at e;subst e;exact ⟨hg,trivial⟩
  ·cases e
 |_=>simp only[itemsOf]at e;first | (cases e;done) | (simp only[aE]at e;subst e;exact trivial)
theorem UJ{u:Value}{ds:List D}{g:Hld}{k:SK}(s:Src K H F u ds g k):WalkJ K H F ds g (Jk k) where
 go:=λH' F' G i x r hh hi=>by
  obtain ⟨vs,h1,h2⟩:=s.sat H' F' G x r hh;exact ⟨vs,h1,by rw[<-h2.length];exact hi⟩
 stop:=λH' F' G x r hh=>by
  obtain ⟨vs,h1,h2⟩:=s.sat H' F' G x r hh;exact ⟨vs,h1,h2.length.symm⟩
 yld:=λH' F' i v H'' d G x r hh hd y=>by
  obtain ⟨e,hv⟩:=y;subst e;obtain ⟨vs,h1,h2⟩:=s.sat _ F' G x r hh;obtain ⟨w,e1,rw'⟩:=h2.get hd;have e2:=hv vs h1;rw[e1]at e2;cases e2;exact ⟨Ext.refl _ _,r,rw'⟩
theorem jr:∀(n:Nat)(ds:List D),(b8 n ds).length=ds.length
 |_,[]=>rfl
 |n,d::ds=>by simp[b8,jr (n+1) ds]
theorem kZ:∀(n:Nat)(ds:List D)(i:Nat),(b8 n ds)[i]?=(ds[i]?).map λd=>.tup [.int ((n+i:Nat):Int),d]
 |_,[],_=>by simp[b8]
 |n,d::ds,0=>by simp[b8]
 |n,d::ds,i+1=>by
  simp only[b8,List.getElem?_cons_succ];rw[kZ (n+1) ds i];congr 1;funext d;rw[show n+1+i=n+(i+1) by omega]
theorem qy:∀(as bs:List D),(bW as bs).length=min as.length bs.length
 |[],bs=>by simp[bW]
 |a::as,[]=>by simp[bW]
 |a::as,b::bs=>by simp[bW,qy as bs]
theorem vP:∀(as bs:List D)(i:Nat)(d:D),(bW as bs)[i]?=some d->∃a b,as[i]?=some a/\bs[i]?=some b/\d=.tup [a,b]
 |[],bs,i,d,h=>by simp[bW]at h
 |a::as,[],i,d,h=>by simp[bW]at h
 |a::as,b::bs,0,d,h=>by simp[bW]at h;exact ⟨a,b,rfl,rfl,h.symm⟩
 |a::as,b::bs,i+1,d,h=>by
  simp only[bW,List.getElem?_cons_succ]at h;obtain ⟨x,y,h1,h2,h3⟩:=vP as bs i d h;exact ⟨x,y,by simpa using h1,by simpa using h2,h3⟩
theorem UL{u:Value}{ds:List D}{g:Hld}{k:SK}(s:Src K H F u ds g k):WalkJ K H F (b8 0 ds) g (Je k) where
 go:=λH' F' G i x r hh hi=>by
  obtain ⟨vs,h1,h2⟩:=s.sat H' F' G x r hh;exact ⟨vs,h1,by rw[<-h2.length,<-jr 0];exact hi⟩
 stop:=λH' F' G x r hh=>by
  obtain ⟨vs,h1,h2⟩:=s.sat H' F' G x r hh;exact ⟨vs,h1,by rw[jr];exact h2.length.symm⟩
 yld:=λH' F' i v H'' d G x r hh hd y=>by
  obtain ⟨vs,h1,h2⟩:=s.sat H' F' G x r hh;obtain ⟨T,y,hT,e1,e2,hv⟩:=y;subst e1 e2;rw[kZ]at hd;obtain ⟨d',hd',e3⟩:=bg.mp hd;subst e3;obtain ⟨w,e1,rw'⟩:=h2.get hd';have e2:=hv vs h1;rw[e1]at e2;cases e2;refine ⟨cW r hT,r.new hT,?_⟩;rw[Nat.zero_add];exact oU r hT (Reps.cons rfl (Reps.cons rw' Reps.nil))
theorem UT{u:Value}{ds:List D}{g:Hld}{k:SK}(s:Src K H F u ds g k):WalkJ K H F (b8 1 ds) g (Je1 k) where
 go:=λH' F' G i x r hh hi=>by
  obtain ⟨vs,h1,h2⟩:=s.sat H' F' G x r hh;exact ⟨vs,h1,by rw[<-h2.length,<-jr 1];exact hi⟩
 stop:=λH' F' G x r hh=>by
  obtain ⟨vs,h1,h2⟩:=s.sat H' F' G x r hh;exact ⟨vs,h1,by rw[jr];exact h2.length.symm⟩
 yld:=λH' F' i v H'' d G x r hh hd y=>by
  obtain ⟨vs,h1,h2⟩:=s.sat H' F' G x r hh;obtain ⟨T,y,hT,e1,e2,hv⟩:=y;subst e1 e2;rw[kZ]at hd;obtain ⟨d',hd',e3⟩:=bg.mp hd;subst e3;obtain ⟨w,e1,rw'⟩:=h2.get hd';have e2:=hv vs h1;rw[e1]at e2;cases e2;refine ⟨cW r hT,r.new hT,?_⟩;rw[Nat.add_comm 1];exact oU r hT (Reps.cons rfl (Reps.cons rw' Reps.nil))
theorem jt{g g':Hld}{G:DH}:held (g++g') G->held g G/\held g' G:=by
 induction g with
 |nil=>exact λh=>⟨trivial,h⟩
 |cons p r ih=>
  intro h;obtain ⟨h1,h2⟩:=ih h.2;exact ⟨⟨h.1,h1⟩,h2⟩
theorem UV{u u':Value}{ds es:List D}{g g':Hld}{k l:SK}(s:Src K H F u ds g k)(s':Src K H F u' es g' l):WalkJ K H F (bW ds es) (g++g') (Jz k l) where
 go:=λH' F' G i x r hh hi=>by
  obtain ⟨vs,h1,h2⟩:=s.sat H' F' G x r (jt hh).1;obtain ⟨ws,h3,h4⟩:=s'.sat H' F' G x r (jt hh).2;rw[qy]at hi;exact ⟨vs,ws,h1,h3,by rw[<-h2.length];omega,by rw[<-h4.length];omega⟩
 stop:=λH' F' G x r hh=>by
  obtain ⟨vs,h1,h2⟩:=s.sat H' F' G x r (jt hh).1;obtain ⟨ws,h3,h4⟩:=s'.sat H' F' G x r (jt hh).2;exact ⟨vs,ws,h1,h3,by rw[qy,<-h2.length,<-h4.length];omega⟩
 yld:=λH' F' i v H'' d G x r hh hd y=>by
  obtain ⟨T,y,z,hT,e1,e2,hv,hz⟩:=y;subst e1 e2;obtain ⟨a,b,ha,hb,e3⟩:=vP _ _ _ _ hd;subst e3;obtain ⟨vs,h1,h2⟩:=s.sat H' F' G x r (jt hh).1;obtain ⟨ws,h3,h4⟩:=s'.sat H' F' G x r (jt hh).2;obtain ⟨w,e1,rw'⟩:=h2.get ha;obtain ⟨w2,e3,rw2⟩:=h4.get hb;have e2:=hv vs h1;have e4:=hz ws h3;rw[e1]at e2;cases e2;rw[e3]at e4;cases e4;exact ⟨cW r hT,r.new hT,oU r hT (Reps.cons rw' (Reps.cons rw2 Reps.nil))⟩
theorem DQ(lo:Int)(n:Nat):WalkJ K H F (bA lo n) [] (Itr lo n) where
 go:=λH' F' G i x _ _ hi=>by show i < n;simpa [bA] using hi
 stop:=λH' F' G x _ _=>by show n<=(bA lo n).length;simp[bA]
 yld:=λH' F' i v H'' d G x r _ hd y=>by
  obtain ⟨e1,e2⟩:=y;subst e1 e2;refine ⟨Ext.refl _ _,r,?_⟩;unfold bA at hd;rw[cr]at hd;obtain ⟨j,hj,e3⟩:=bg.mp hd;have:j=i:=by have:=bd.mp hj;obtain ⟨h1,h2⟩:=this;simpa using h2.symm
  subst this;subst e3;rfl
end
def tI(K:PF)(B:Bs)(w:aj->DH->(List D->Hld->DH->Prop)->Prop):TI:=λX H Rr=>∃Y F G,Ext B.H B.F H F/\EnvR K H F Y X/\R K H F G/\
 w Y G (λitems g G'=>∀H' F' J,Ext H F H' F'->R K H' F' G'->WalkJ K H' F' items g J->Rr J H')
section
variable {Z:ak} {CX:CXT} {k:Nat} {c:CT} {E:EK} {B:Bs} {X:Cx}
theorem lg{pins:List (Addr×Obj)}{Y:L2.St}{H:Hp}{s:Shared}(I:Inv X pins Y H s){kk:SK}{vs:List V}(h:kk.Sat H vs):∃its:Array Value,kk.On its s.heap:=by
 cases kk with
 |lst a=>obtain ⟨its,_,pl,_⟩:=I.list (SqL.of (show H a=some _ from h));exact ⟨its.toArray,pl.isList⟩
 |tup a=>obtain ⟨its,_,pl,_⟩:=I.tuple (SqT.of (show H a=some _ from h));exact ⟨its.toArray,pl⟩
 |str x t=>exact ⟨#[],trivial⟩
theorem UW{x:Ex}(ih:OkE Z c E B X x){tg e:Expr}(h:aa c x e=true):PI X tg e (tI X.K B (wpI Z (.seq x) E)):=by
 intro pins s W H Rr I q;obtain ⟨Y,F,G,e0,he,r,hw⟩:=q;rw[uf]at hw;have q':tE X.K B (wpE Z x E) W H (λv H1=>∃F1 G1 d items,R X.K H1 F1 G1/\Rep X.K H1 F1 d v/\itemsOf G1 d=some items/\∀J,WalkJ X.K H1 F1 items.1 items.2 J->Rr J H1):=
  aH e0 he r hw λd G1 H1 F1 u q e1 x1 he1 r1 ru=>by
   split at q
   ·rename_i ds hd;exact ⟨F1,G1,d,ds,r1,ru,hd,λJ w=>q H1 F1 J x1 r1 w⟩
   ·exact q.elim
 refine thn (ih h pins s W H _ I q') λu s1 ⟨v,H1,I1,rv,F1,G1,d,items,r1,rd,hd,q1⟩=>?_;obtain ⟨kk,src⟩:=kY rd rv hd;obtain ⟨vs,sat,_⟩:=src.sat H1 F1 G1 (Ext.refl _ _) r1 (qx hd);obtain ⟨its,on⟩:=lg I1 sat;rw[<-src.val];refine SK.iter on ?_;refine ⟨s1.heap.objs.size,[s1.heap.objs.size],_,_,H1,rfl,I1.kept (t':=s1.toks) λb o e=>ag _ e,R8 kk _,SK.pos0,λb hb=>?_,q1 _ (UJ src)⟩;have e:b=s1.heap.objs.size:=by simpa using hb
 subst e;exact I1.fpOk (am _) (I1.hok.fresh (am _))
theorem U0(S:Stat Z CX k c E B X){a:Ex}(ih:OkE Z c E B X a){tg e:Expr}(h:bQ c (.rng a) tg e=true):PI X tg e (tI X.K B (wpI Z (.rng a) E)):=by
 replace h:=Dg h;obtain ⟨_,_,_,_,rfl,h⟩:=h
 ·simp only[ae,ai]at h;obtain ⟨⟨⟨e1,h1⟩,hm⟩,h2⟩:=h;subst e1;obtain ⟨g1,g2⟩:=bZ h1;have hmg:=S.blt _ (al.mp hm);have hs:=aW _ [] X.env (bI (aZ a h2));intro pins s W H Rr I q;refine KY (S.glo _ g1) hmg (dI (ih h2) gR hs) hs pins s W H Rr I ?_;obtain ⟨Y,F,G,e0,he,r,hw⟩:=q;rw[ug]at hw;refine aH e0 he r hw λd G1 H1 F1 u q e1 x1 he1 r1 ru=>?_;split at q
  ·rename_i n;have e2:u=.int n:=ru;subst e2;exact ⟨n,rfl,q.1.1,q.1.2,q.2 H1 F1 _ x1 r1 (DQ 0 n.toNat)⟩
  ·exact q.elim
theorem U3(S:Stat Z CX k c E B X){a b:Ex}(iha:OkE Z c E B X a)(ihb:OkE Z c E B X b){tg e:Expr}(h:bQ c (.rng2 a b) tg e=true):PI X tg e (tI X.K B (wpI Z (.rng2 a b) E)):=by
 replace h:=Dh h;obtain ⟨_,_,v,v',pos,rfl,h⟩:=h
 ·simp only[ae,ai]at h;obtain ⟨⟨⟨⟨e1,h1⟩,hm⟩,h2⟩,h3⟩:=h;subst e1;obtain ⟨g1,g2⟩:=bZ h1;have hmg:=S.blt _ (al.mp hm);have hs2:=aW v' [] X.env (bI (aZ b h3));have hs:=aW v [v'] X.env (bI (aZ a h2));intro pins s W H Rr I q;refine KZ (S.glo _ g1) hmg (dI (iha h2) (dI (ihb h3) gR hs2) hs) (by rw[hs,hs2];rfl) hs2 pins s W H Rr I ?_;obtain ⟨Y,F,G,e0,he,r,hw⟩:=q;rw[uh]at hw;refine aH e0 he r hw λd G1 H1 F1 u q e1 x1 he1 r1 ru=>aH e1 he1 r1 q λd' G2 H2 F2 u' q e2 x2 he2 r2 ru'=>?_;cases d with
  |int m=>
   cases d' with
   |int n=>
    have e3:u=.int m:=ru;have e4:u'=.int n:=ru';subst e3 e4;exact ⟨m,n,rfl,q.1,q.2 H2 F2 _ (x1.trans x2) r2 (DQ m (n - m).toNat)⟩
   |_=>exact (show False from q).elim
  |_=>exact (show False from q).elim
theorem U4(S:Stat Z CX k c E B X){a:Ex}(ih:OkE Z c E B X a){tg e:Expr}(h:bQ c (.enm a) tg e=true):PI X tg e (tI X.K B (wpI Z (.enm a) E)):=by
 replace h:=Di h;obtain ⟨_,_,_,_,_,_,_,rfl,rfl,h⟩:=h
 ·skip
  ·simp only[ae,ai]at h;obtain ⟨⟨⟨e1,h1⟩,hm⟩,h2⟩:=h;subst e1;obtain ⟨g1,g2⟩:=bZ h1;have hmg:=S.blt _ (al.mp hm);have hs:=aW _ [] X.env (bI (aZ a h2));intro pins s V H Rr I q;obtain ⟨Y,F,G,e0,he,r,hw⟩:=q;rw[ul]at hw;have q':tL X.K B (aN Z (.cons a .nil) E) V H (λvs H1=>∃v F1 G1 d items,vs=[v]/\R X.K H1 F1 G1/\Rep X.K H1 F1 d v/\itemsOf G1 d=some items/\∀J,WalkJ X.K H1 F1 (b8 0 items.1) items.2 J->Rr J H1):=by
    refine cB (W:=λds G1=>∃d items,ds=[d]/\itemsOf G1 d=some items/\∀H' F' J,Ext H F H' F'->R X.K H' F' G1->WalkJ X.K H' F' (b8 0 items.1) items.2 J->Rr J H') e0 he r ?_ λds G1 H1 F1 vs q e1 x1 he1 r1 rvs=>?_
    ·rw[gn];refine aF a (λd G1 q=>?_) hw;rw[gY];split at q
     ·rename_i items hd;exact ⟨d,items,rfl,hd,q⟩
     ·exact q.elim
    ·obtain ⟨d,items,e2,hd,q⟩:=q;subst e2;obtain ⟨v,e3,rv⟩:=bC rvs;exact ⟨v,F1,G1,d,items,e3,r1,rv,hd,λJ w=>q H1 F1 J x1 r1 w⟩
   refine Call_ (fZ I (S.glo _ g1) hmg (u:=.type "enumerate") boot_enumerate (dS (thn (kJ ih (λh=>qm h) (c:=c) (es:=[_]) (by unfold aG;show (aa c a _&&true)=true;rw[h2];rfl) _ pins s V H _ I q') λus s1 ⟨vs,H1,I1,r1v,q1⟩=>?_) hs rfl) (dj g2) (bD g2));obtain ⟨v,F1,G1,d,items,e1,r1,rd,hd,q1⟩:=q1;subst e1;obtain ⟨u,rfl,ru⟩:=vals1 r1v;obtain ⟨kk,src⟩:=kY rd ru hd;obtain ⟨vs,sat,_⟩:=src.sat H1 F1 G1 (Ext.refl _ _) r1 (qx hd);obtain ⟨its,on⟩:=lg I1 sat;rw[<-src.val];refine Sy on λh' hen hit hsz hk=>?_;refine wpAny_pyIter_enum hen ?_;have n1:H1 s1.heap.objs.size=none:=I1.hok.fresh (am _);have n2:H1 (s1.heap.objs.size+1)=none:=I1.hok.fresh (eS _);refine ⟨s1.heap.objs.size+1,[s1.heap.objs.size+1,s1.heap.objs.size],_,_,H1,rfl,I1.kept (t':=s1.toks) hk,R5 kk _ _ (Nat.succ_ne_self _),⟨⟨_,hen⟩,hit⟩,λb hb=>?_,q1 _ (UL src)⟩;have hb':b=s1.heap.objs.size+1\/b=s1.heap.objs.size:=by simpa using hb
   rcases hb' with rfl |rfl
   ·exact I1.fpOk (eS _) n2
   ·exact I1.fpOk (am _) n1
theorem U5{M:Model}{A:Around}{E:Value->Shared->Prop}{s:Shared}{env:Env}{pos:Pos}{T:String}{e w:Expr}{kn:Str}{kp:Pos}{Q:Value->Shared->Prop}
  (h:wpAny M A (spliced (backTo pos (starEach [e] env))) (λvs s1=>wpAny M A (eval w env) (λu s2=>wpAny M A (call (.type T) vs [(kn,u)]) Q E s2) E s1) E s)
  (he:starEach [e] env=[(false,eval e env)]):
  wpAny M A (callWith pos (.type T) [] (backTo pos (starEach [e] env)) (backToKw pos (keywordEach [⟨some kn,w,kp⟩] env))) Q E s:=by
 rw[he]at h ⊢;have hb:backTo pos [(false,eval e env)]=[(false,eval e env)]:=rfl;rw[hb]at h ⊢;unfold callWith;have hz:wpAny M A (evalArgs (.type T) true [(false,eval e env)] (backToKw pos (keywordEach [⟨some kn,w,kp⟩] env))) (λa s1=>wpAny M A (call (.type T) a.pos a.kw) Q E s1) E s:=
  evalArgs_kwB rfl (bb h (λvs s1 h1=>kws_cons (bb h1 (λu s2 h2=>kws_nil h2) λ_ _ x=>x)) λ_ _ x=>x)
 refine af (df (bb hz (λa s1 h1=>af (fw ?_)) λ_ _ x=>x));refine af (av ?_);exact af (bb h1 (λr s2 hr=>af (df (wpAny_point (av hr)))) λ_ _ x=>x)
theorem U6(S:Stat Z CX k c E B X){a:Ex}(ih:OkE Z c E B X a)(ih1:OkE Z c E B X (.cst (.int 1))){tg e:Expr}(h:bQ c (.en1 a) tg e=true):PI X tg e (tI X.K B (wpI Z (.en1 a) E)):=by
 replace h:=Dj h;obtain ⟨_,_,_,nm,np,v0,w0,kp,pos0,rfl,rfl,h⟩:=h;simp only[ae,ai]at h;obtain ⟨⟨⟨⟨e1,h1⟩,hm⟩,h2⟩,h3⟩:=h;subst e1;obtain ⟨g1,g2⟩:=bZ h1;have hmg:=S.blt _ (al.mp hm);have hs:=aW _ [] X.env (bI (aZ a h2));intro pins s V H Rr I q;obtain ⟨Y,F,G,e0,he,r,hw⟩:=q;rw[uM]at hw;have q':tL X.K B (aN Z (.cons a .nil) E) V H (λvs H1=>∃v F1 G1 ds,vs=[v]/\Ext B.H B.F H1 F1/\EnvR X.K H1 F1 Y V/\R X.K H1 F1 G1/\Rep X.K H1 F1 (.lst ds) v/\∀H2 F2 J,Ext H1 F1 H2 F2->R X.K H2 F2 G1->WalkJ X.K H2 F2 (b8 1 ds) [] J->Rr J H2):=by
  refine cB (W:=λds G1=>∃xs,ds=[.lst xs]/\∀H' F' J,Ext H F H' F'->R X.K H' F' G1->WalkJ X.K H' F' (b8 1 xs) [] J->Rr J H') e0 he r ?_ λds G1 H1 F1 vs q e1 x1 he1 r1 rvs=>?_
  ·rw[gn];refine aF a (λd G1 q=>?_) hw;rw[gY];split at q
   ·exact ⟨_,rfl,q⟩
   ·exact q.elim
  ·obtain ⟨xs,e2,q⟩:=q;subst e2;obtain ⟨v,e3,rv⟩:=bC rvs;exact ⟨v,F1,G1,xs,e3,e1,he1,r1,rv,λH2 F2 J x2 r2 w=>q H2 F2 J (x1.trans x2) r2 w⟩
 have hce:eval (.Call (.Name (Str.ofString "enumerate") np) [v0] [⟨some (Str.ofString "start"),w0,kp⟩] pos0) X.env=(do callWith pos0 (<-eval (.Name (Str.ofString "enumerate") np) X.env) [] (backTo pos0 (starEach [v0] X.env)) (backToKw pos0 (keywordEach [⟨some (Str.ofString "start"),w0,kp⟩] X.env))):=rfl;rw[hce];refine af (fZ I (S.glo _ g1) hmg (u:=.type "enumerate") boot_enumerate (U5 (thn (kJ ih (λh=>qm h) (c:=c) (es:=[_]) (by unfold aG;show (aa c a _&&true)=true;rw[h2];rfl) _ pins s V H _ I q') λus s1 ⟨vs,H1,I1,r1v,q1⟩=>?_) hs) (dj g2) (bD g2));obtain ⟨v,F1,G1,xs,e1,eB,he1,r1,rd,q1⟩:=q1;subst e1;obtain ⟨u,rfl,ru⟩:=vals1 r1v;refine thn (ih1 h3 pins s1 V H1 (λv2 H2=>∃F2,v2=.int 1/\Ext H1 F1 H2 F2/\R X.K H2 F2 G1) I1 ⟨Y,F1,G1,eB,he1,r1,by rw[dB];exact λH2 F2 v2 x2 r2 rv2=>⟨F2,rv2,x2,r2⟩⟩) λw2 s2 ⟨v2,H2,I2,rw2,q2⟩=>?_;obtain ⟨F2,e2,x2,r2⟩:=q2;subst e2;obtain ⟨tk,rfl⟩:=rw2;obtain ⟨kk,src⟩:=kY (G:=G1) (rd.ext x2) ru (rfl:itemsOf G1 (.lst xs)=some (xs,[]));obtain ⟨a0,vs0,ev,fz,rr⟩:=rd.ext x2;subst ev;have hu:u=Value.ref a0:=ru;subst hu;have sat:(SK.lst a0).Sat H2 vs0:=fz.2;obtain ⟨its,on⟩:=lg I2 sat;have src':Src X.K H2 F2 (Value.ref a0) xs [] (.lst a0):=⟨rfl,λH' F' G' x _ _=>⟨vs0,(FzL.ext x fz).2,Reps.ext x rr⟩⟩;refine Qw on λh' hen hit hsz hk=>?_;refine wpAny_pyIter_enum hen ?_;have n1:H2 s2.heap.objs.size=none:=I2.hok.fresh (am _);have n2:H2 (s2.heap.objs.size+1)=none:=I2.hok.fresh (eS _);refine ⟨s2.heap.objs.size+1,[s2.heap.objs.size+1,s2.heap.objs.size],_,_,H2,rfl,I2.kept (t':=s2.toks) hk,R7 (.lst a0) _ _ (Nat.succ_ne_self _),⟨⟨_,hen⟩,hit⟩,λb hb=>?_,q1 H2 F2 _ x2 r2 (UT src')⟩;have hb':b=s2.heap.objs.size+1\/b=s2.heap.objs.size:=by simpa using hb
 rcases hb' with rfl |rfl
 ·exact I2.fpOk (eS _) n2
 ·exact I2.fpOk (am _) n1
theorem zap(n:Nat):ZApart (n+4) (n+2) (n+3) n (n+1):=
 ⟨(by omega:(n+2:Nat)≠n+4),(by omega:(n+3:Nat)≠n+4),(by omega:(n:Nat)≠n+4),(by omega:(n+1:Nat)≠n+4),(by omega:(n+2:Nat)≠n+3),(by omega:(n+2:Nat)≠n),(by omega:(n+2:Nat)≠n+1),(by omega:(n+3:Nat)≠n),(by omega:(n+3:Nat)≠n+1),(by omega:(n:Nat)≠n+1)⟩
theorem U7(S:Stat Z CX k c E B X){a b:Ex}(iha:OkE Z c E B X a)(ihb:OkE Z c E B X b){tg e:Expr}(h:bQ c (.zip a b) tg e=true):PI X tg e (tI X.K B (wpI Z (.zip a b) E)):=by
 replace h:=Dk h;obtain ⟨_,_,_,_,_,v,v',pos,rfl,rfl,h⟩:=h
 ·skip
  ·simp only[ae,ai]at h;obtain ⟨⟨⟨⟨e1,h1⟩,hm⟩,h2⟩,h3⟩:=h;subst e1;obtain ⟨g1,g2⟩:=bZ h1;have hmg:=S.blt _ (al.mp hm);have hs2:=aW v' [] X.env (bI (aZ b h3));have hs:=aW v [v'] X.env (bI (aZ a h2));intro pins s V H Rr I q;obtain ⟨Y,F,G,e0,he,r,hw⟩:=q;rw[um]at hw;have hA:aG c (.cons a (.cons b .nil)) [v,v']=true:=by
    unfold aG aG aG;show (aa c a v&&(aa c b v'&&true))=true;rw[h2,h3];rfl
   have q':tL X.K B (aN Z (.cons a (.cons b .nil)) E) V H (λvs H1=>∃v v' F1 G1 d d' items items',vs=[v,v']/\R X.K H1 F1 G1/\Rep X.K H1 F1 d v/\Rep X.K H1 F1 d' v'/\itemsOf G1 d=some items/\itemsOf G1 d'=some items'/\∀J,WalkJ X.K H1 F1 (bW items.1 items'.1) (items.2++items'.2) J->Rr J H1):=by
    refine cB (W:=λds G1=>∃d d' items items',ds=[d,d']/\itemsOf G1 d=some items/\itemsOf G1 d'=some items'/\∀H' F' J,Ext H F H' F'->R X.K H' F' G1->WalkJ X.K H' F' (bW items.1 items'.1) (items.2++items'.2) J->Rr J H') e0 he r ?_ λds G1 H1 F1 vs q e1 x1 he1 r1 rvs=>?_
    ·rw[gn];refine aF a (λd G1 q=>?_) hw;rw[gn];refine aF b (λd' G2 q=>?_) q;rw[gY];split at q
     ·rename_i items items' hd hd';exact ⟨d,d',items,items',rfl,hd,hd',q⟩
     ·exact q.elim
    ·obtain ⟨d,d',items,items',e2,hd,hd',q⟩:=q;subst e2;obtain ⟨w1,r2,e3,rw1,t2⟩:=rvs;obtain ⟨w2,e4,rw2⟩:=bC t2;subst e4;exact ⟨w1,w2,F1,G1,d,d',items,items',e3,r1,rw1,rw2,hd,hd',λJ w=>q H1 F1 J x1 r1 w⟩
   refine Call_ (fZ I (S.glo _ g1) hmg (u:=.type "zip") Ob (dS (thn (kJ iha (λh=>kJ ihb (λh=>qm h) h) (c:=c) (es:=[v,v']) hA _ pins s V H _ I q') λus s1 ⟨vs,H1,I1,r1v,q1⟩=>?_) hs (by rw[hs2];rfl)) (dj g2) (bD g2));obtain ⟨w1,w2,F1,G1,d,d',items,items',e1,r1,rd,rd',hd,hd',q1⟩:=q1;subst e1;obtain ⟨u,u',rfl,ru,ru'⟩:=vals2 r1v;obtain ⟨kk,src⟩:=kY rd ru hd;obtain ⟨ll,src'⟩:=kY rd' ru' hd';obtain ⟨vs,sat,_⟩:=src.sat H1 F1 G1 (Ext.refl _ _) r1 (qx hd);obtain ⟨ws,sat',_⟩:=src'.sat H1 F1 G1 (Ext.refl _ _) r1 (qx hd');obtain ⟨its,on⟩:=lg I1 sat;obtain ⟨its',on'⟩:=lg I1 sat';rw[<-src.val,<-src'.val];refine Sv on on' λh' hz hTI hTO p1 p2 hsz hk=>?_;refine wpAny_pyIter_zip hz ?_;have fr:∀j,H1 (s1.heap.objs.size+j)=none:=λj=>I1.hok.fresh (bp _ _);refine ⟨s1.heap.objs.size+4,[s1.heap.objs.size+4,s1.heap.objs.size+2,s1.heap.objs.size+3,s1.heap.objs.size,s1.heap.objs.size+1],_,_,H1,rfl,I1.kept (t':=s1.toks) hk,
    Sq kk ll (s1.heap.objs.size+4) (s1.heap.objs.size+2) (s1.heap.objs.size+3) s1.heap.objs.size (s1.heap.objs.size+1) (zap s1.heap.objs.size),⟨hz,hTI,⟨_,_,hTO⟩,p1,p2⟩,λb hb=>?_,q1 _ (UV src src')⟩
   have hb':b=s1.heap.objs.size+4\/b=s1.heap.objs.size+2\/b=s1.heap.objs.size+3\/b=s1.heap.objs.size\/b=s1.heap.objs.size+1:=by simpa using hb
   rcases hb' with rfl |rfl |rfl |rfl |rfl
   ·exact I1.fpOk (bp _ _) (fr 4)
   ·exact I1.fpOk (bp _ _) (fr 2)
   ·exact I1.fpOk (bp _ _) (fr 3)
   ·exact I1.fpOk (am _) (fr 0)
   ·exact I1.fpOk (bp _ _) (fr 1)
end
section
variable {Z:ak} {CX:CXT} {k:Nat} {c:CT} {E:EK} {B:Bs} {X:Cx}
theorem vQ:∀{l:List Str},eN l=true->l.Nodup
 |[],_=>List.nodup_nil
 |x::r,h=>by
  unfold eN at h;rw[ae]at h;refine List.nodup_cons.mpr ⟨λhm=>?_,vQ h.2⟩;have:=h.1;rw[al.mpr hm]at this;cases this
theorem qz{N:List Str}{scope:Scope}:∀{N':List Str}{cap:List (Option Nat)},X.N=N->gw N scope N' cap=true->Caps X scope N' cap
 |[],[],_,_=>trivial
 |_::N',none::cap,e,h=>qz (N':=N') (cap:=cap) e h
 |x::N',some j::cap,e,h=>by
  unfold gw at h;simp only[ae,ai]at h;exact ⟨⟨by rw[e];exact h.1.1,h.1.2⟩,qz (N':=N') (cap:=cap) e h.2⟩
 |[],_::_,_,h=>by cases h
 |_::_,[],_,h=>by cases h
theorem lq{scope:Scope}{env:Env}(x:Str):(relabel scope env).names.lookup x=(scope.names.lookup x).map λkk=>if (kk==NameKind.free&&env.scope.kind==.function&&env.kindOf x==some .cell)=true then NameKind.cell else kk:=rR
theorem Stat.comp(S:Stat Z CX k c E B X){N':List Str}{scope:Scope}(hn:eN N'=true)(cl:List (Str×Addr))(C:Addr)(s₁:Shared)(H₁:Hp)(fp:List Addr)(pn:List (Addr×Obj)):
  Stat Z CX k (c.comp N' scope) noE B (X.comp N' scope cl C s₁ H₁ fp pn) where
 N:=rfl
 nd:=vQ hn
 calm:=S.calm
 own:=λ_=>PassesOwn.never
 kd:=rfl
 vis:=λx h=>by
  have h:fM (scope.names.lookup x)=true:=h;show (relabel scope X.env).names.lookup x=_\/(relabel scope X.env).names.lookup x=_\/(relabel scope X.env).names.lookup x=_;rw[lq];cases e:scope.names.lookup x with
  |none=>rw[e]at h;cases h
  |some kk=>
   rw[e]at h;cases kk with
   | «local»=>exact .inl (by simp[show (NameKind.«local»==NameKind.free)=false by decide])
   |cell=>exact .inr (.inl (by simp[show (NameKind.cell==NameKind.free)=false by decide]))
   |free=>
    by_cases q:(NameKind.free==NameKind.free&&X.env.scope.kind==ScopeKind.function&&X.env.kindOf x==some NameKind.cell)=true
    ·exact .inr (.inl (by simp only[Option.map_some,if_pos q]))
    ·exact .inr (.inr (by simp only[Option.map_some,if_neg q]))
   |globalExplicit=>cases h
   |globalImplicit=>cases h
 cel:=λx h=>by
  have h:scope.names.lookup x=some .cell\/scope.names.lookup x=some .free:=h;show (relabel scope X.env).names.lookup x=_\/(relabel scope X.env).names.lookup x=_;rw[lq];rcases h with h |h
  ·exact .inl (by rw[h];simp[show (NameKind.cell==NameKind.free)=false by decide])
  ·rw[h];by_cases q:(NameKind.free==NameKind.free&&X.env.scope.kind==ScopeKind.function&&X.env.kindOf x==some NameKind.cell)=true
   ·exact .inl (by simp only[Option.map_some,if_pos q])
   ·exact .inr (by simp only[Option.map_some,if_neg q])
 glo:=λx h=>by
  have h:scope.names.lookup x=some .globalImplicit:=h;show (relabel scope X.env).names.lookup x=_;rw[lq,h];simp[show (NameKind.globalImplicit==NameKind.free)=false by decide]
 sto:=λx h=>by
  have h:(scope.names.lookup x==some .local||(false&&scope.names.lookup x==some .cell))=true:=h;rw[Bool.false_and,Bool.or_false,ai]at h;have e:(relabel scope X.env).names.lookup x=some .local:=by rw[lq,h];simp[show (NameKind.«local»==NameKind.free)=false by decide]
  exact ⟨.inl e,.inr e⟩
 room:=S.room
 call:=S.call
 blt:=S.blt
 con:=S.con
 exc:=⟨_,S.nox _,λ_ _ _ _ _ _ _ _ _ _ _ _ _ q=>q.elim,λx G' H' F' h=>h.elim⟩
 nox:=S.nox
 xcl:=λC h=>nZf h
 loc:=λx h=>by show (relabel scope X.env).names.lookup x=_;rw[lq,show scope.names.lookup x=some .local from h];simp[show (NameKind.«local»==NameKind.free)=false by decide]
 xis:=λC h=>nZf h
 mth:=S.mth
 mko:=S.mko
 fld:=S.fld
 xko:=λC f h=>let ⟨k',h1,h2⟩:=S.xko C f h;⟨k',h1,h2.1,λ_ _ z=>nomatch (show false=true from z)⟩
 lv:=S.lv
 qok:=S.qok
 cb:=S.cb
 trc:=λh=>absurd rfl h
theorem U8(S:Stat Z CX k c E B X){t:Tx}(ih:OkT Z c E B X t){ifs:List Expr}(h:km c t ifs=true):PIf X ifs (tB' X.K B (wpT Z t E)):=by
 unfold km at h;rw[bX]at h;rcases h with h |h
 ·rw[ae,eP]at h;obtain ⟨hy,rfl⟩:=h;cases t with
  |yes=>
   intro pins s W H Q I q;refine NB pins s W H Q I ?_;obtain ⟨Y,F,G,e0,he,r,hw⟩:=q;rw[tY]at hw;exact hw.now r
  |_=>cases hy
 ·obtain ⟨e,he,h⟩:=aK h;rw[bT he];exact NK (ih h)
theorem DR(S:Stat Z CX k c E B X){fz:Bool}{elt:Ex}{tg:Tg}{it:It'}{cond:Tx}{N':List Str}{cap:List (Option Nat)}{scope:Scope}{elt' tg':Expr}{ifs:List Expr}(hn:eN N'=true)
  (ihe:∀{X':Cx},Stat Z CX k (c.comp N' scope) noE B X'->OkE Z (c.comp N' scope) noE B X' elt) (iht:∀{X':Cx},Stat Z CX k (c.comp N' scope) noE B X'->OkT Z (c.comp N' scope) noE B X' cond)
  (hg:cA (c.comp N' scope) tg tg'=true) (hi:km (c.comp N' scope) cond ifs=true) (he:aa (c.comp N' scope) elt elt'=true)
  {V:L2.St} {H:Hp} {Q:VK} {Y:aj} {F:FZ} {G:DH} (e0:Ext B.H B.F H F) (henv:EnvR X.K H F Y V) (r:R X.K H F G)
  (hw:wpI Z it E Y G λitems g G1=>
   compLoop (λd ρ' G' k'=>aX tg d ρ' G' λρ1=>wpT Z cond noE ρ1 G' λb G2=>match b with |true=>wpE Z elt noE ρ1 G2 λy G3=>k' (some y) ρ1 G3 |false=>k' none ρ1 G2)
    g items [] (cap.map λo=>match o with |none=>none |some j=>(Y[j]?).join) G1 λds G2=>mk fz ds G2 (PV X.K H F Q)):
  tI X.K B (wpI Z it E) V H (λJ H1=>zV true X N' scope tg' (emT ifs elt') J (dN cap V) H1 Q):=by
 refine ⟨Y,F,G,e0,henv,r,j0 it (λitems g G1 q H1 F1 J x1 r1 W=>?_) hw⟩;let step:D->aj->DH->(Option D->aj->DH->Prop)->Prop:=λd ρ' G' k'=>aX tg d ρ' G' λρ1=>wpT Z cond noE ρ1 G' λb G2=>match b with |true=>wpE Z elt noE ρ1 G2 λy G3=>k' (some y) ρ1 G3 |false=>k' none ρ1 G2
 let fin:List D->DH->Prop:=λds G2=>mk fz ds G2 (PV X.K H F Q)
 refine ⟨λi m ys σ' H'=>m=items.length - i/\i<=items.length/\∃ρ' F' G' acc,Ext B.H B.F H' F'/\Ext H1 F1 H' F'/\EnvR X.K H' F' ρ' σ'/\R X.K H' F' G'/\Reps X.K H' F' acc ys/\compLoop step g (items.drop i) acc ρ' G' fin,
  ⟨items.length,by simp,Nat.zero_le _,_,F1,G1,[],e0.trans x1,Ext.refl _ _,(henv.ext x1).cap cap,r1,rfl,q⟩,?_⟩
 rintro i m ys σ' H' ⟨rfl,hle,ρ',F',G',acc,eB,e1,he',r',ra,hl⟩;by_cases hlt:i < items.length
 ·have hd:items.drop i=items[i]::items.drop (i+1):=ca hlt;rw[hd]at hl;obtain ⟨hh,hz,hl⟩:=hl;refine .inr ⟨W.go H' F' G' i e1 r' hh hlt,λ_=>by rw[<-ra.length];exact aT hz szl,λcl C s₁ H₁ fp pn=>?_⟩;have S':=S.comp (scope:=scope) hn cl C s₁ H₁ fp pn;refine ⟨_,tmT _ _,qw S' tg hg,λa ha=>Qc rfl ha (U8 S' (iht S') hi) (ihe S' he),λx H2 hy=>?_⟩;obtain ⟨xy,ry,rx⟩:=W.yld H' F' i x H2 items[i] G' e1 r' hh (by simp[hlt]) hy;refine ⟨ρ',F',G',items[i],eB.trans xy,he'.ext xy,ry,rx,fL (λρ1 z σ1 hσ1=>?_) tg hl⟩;unfold tmT;refine jm (eB.trans xy) hσ1 ry z λb G2 H3 F3 z e3 x3 he3 r3=>?_;cases b with
  |true=>
   rw[if_pos rfl];refine aH e3 he3 r3 z λy G4 H4 F4 v z e4 x4 he4 r4 rv=>?_;exact ⟨items.length - (i+1),by omega,rfl,hlt,ρ1,F4,G4,acc++[y],e4,e1.trans (xy.trans (x3.trans x4)),he4,r4,(Reps.ext (xy.trans (x3.trans x4)) ra).append (Reps.cons rv Reps.nil),z⟩
  |false=>
   rw[if_neg b6];exact ⟨items.length - (i+1),by omega,rfl,hlt,ρ1,F3,G2,acc,e3,e1.trans (xy.trans x3),he3,r3,Reps.ext (xy.trans x3) ra,z⟩
 ·have hi':i=items.length:=by omega
  subst hi';rw[List.drop_length]at hl;obtain ⟨hh,hz,hl⟩:=hl;refine .inl ⟨W.stop H' F' G' e1 r' hh,by rw[<-ra.length];exact dh hz,λp hp=>?_⟩;exact dU (c7 (λd G' z=>PV.later z (x1.trans e1)) hl) r' ra p hp
structure CompC(c:CT)(elt:Ex)(tg:Tg)(it:It')(cond:Tx)(N':List Str)(cap:List (Option Nat))(elt' tg' iter:Expr)(ifs:List Expr)(scope:Scope):Prop where
 it:bQ c it tg' iter=true
 cap:gw c.N scope N' cap=true
 sc:gA c scope=true
 nd:eN N'=true
 tg:cA (c.comp N' scope) tg tg'=true
 cd:km (c.comp N' scope) cond ifs=true
 el:aa (c.comp N' scope) elt elt'=true
theorem DW{c:CT}{scope:Scope}(h:gA c scope=true):c.cm=true:=by unfold gA at h;rw[ae]at h;exact h.2
theorem DX(S:Stat Z CX k c E B X){scope:Scope}(h:gA c scope=true):scope.names.all (λy=>y.2 != NameKind.cell)=true/\scope.names.all (λy=>y.2 != NameKind.local||scope.names.lookup y.1==some NameKind.local)=true/\
  scope.names.all (λy=>y.2 != NameKind.free||(X.env.kindOf y.1==some NameKind.cell||X.env.kindOf y.1==some NameKind.free))=true/\scope.kind=.function:=by
 unfold gA at h;simp only[ae,cw]at h;obtain ⟨⟨⟨⟨h1,h2⟩,h3⟩,h4⟩,_⟩:=h;refine ⟨h1,h2,?_,h4⟩;rw[a7]at h3 ⊢;intro y hy;have:=h3 y hy;rw[bX,bX,ai,ai]at this;rw[bX,bX,ai,ai];rcases this with q |q
 ·exact .inl q
 ·exact .inr (S.cel y.1 q)
theorem DY{fz:Bool}{elt:Ex}{tg:Tg}{it:It'}{cond:Tx}{N:List String}{cap:List (Option Nat)}{e:Expr}(h:aa c (.comp fz elt tg it cond N cap) e=true):
  ∃elt' tg' iter ifs scope pos,e=.ListComp elt' [⟨tg',iter,ifs,0⟩] scope pos/\CompC c elt tg it cond (N.map Str.ofString) cap elt' tg' iter ifs scope:=by
 replace h:=Df h;obtain ⟨_,_,_,_,_,_,_,rfl,h⟩:=h;simp only[ae,cw]at h;obtain ⟨⟨⟨⟨⟨⟨⟨h1,h2⟩,h3⟩,h4⟩,h5⟩,h6⟩,h7⟩,h8⟩:=h;subst h1;exact ⟨_,_,_,_,_,_,rfl,h2,h3,h4,h5,h6,h7,h8⟩
theorem vR{it:It'}{tg' iter:Expr}(h:bQ c it tg' iter=true)(env:Env)(x:Value):foldedSetIterable iter env x=pure x:=by
 cases it with
 |seq y=>exact Tw (aZ y (show aa c y iter=true from h)) env x
 |rng a=>obtain ⟨_,_,_,_,rfl,_⟩:=Dg h;rfl
 |rng2 a b=>obtain ⟨_,_,_,_,_,rfl,_⟩:=Dh h;rfl
 |enm a=>obtain ⟨_,_,_,_,_,_,_,_,rfl,_⟩:=Di h;rfl
 |en1 a=>obtain ⟨_,_,_,_,_,_,_,_,_,_,rfl,_⟩:=Dj h;rfl
 |zip a b=>obtain ⟨_,_,_,_,_,_,_,_,_,rfl,_⟩:=Dk h;rfl
theorem U9(S:Stat Z CX k c E B X){fz:Bool}{elt:Ex}{tg:Tg}{it:It'}{cond:Tx}{N:List String}{cap:List (Option Nat)}
  (ihe:∀{c':CT}{X':Cx},Stat Z CX k c' noE B X'->OkE Z c' noE B X' elt) (iht:∀{c':CT}{X':Cx},Stat Z CX k c' noE B X'->OkT Z c' noE B X' cond)
  (ihi:∀{tg' iter:Expr},bQ c it tg' iter=true->PI X tg' iter (tI X.K B (wpI Z it E))) {e:Expr} (h:aa c (.comp fz elt tg it cond N cap) e=true):
  PE X e (tE X.K B (wpE Z (.comp fz elt tg it cond N cap) E)):=by
 obtain ⟨elt',tg',iter,ifs,scope,pos,rfl,C⟩:=DY h;obtain ⟨s1,s2,s3,s4⟩:=DX S C.sc;refine peI (Qd (lim:=true) (N.map Str.ofString) cap (S.calm (DW C.sc)) (ihi C.it) (qz S.N C.cap) s1 s2 s3 s4 (vR C.it X.env) (zU _ _ _ _ _ _)) λW H Q hq=>el hq λY F G e0 he r hw=>?_;rw[u5]at hw;exact DR S C.nd (λS'=>ihe S') (λS'=>iht S') C.tg C.cd C.el e0 he r hw
theorem bF{x:Ex}(ih:OkE Z c E B X x)(hn:∀l os rs pos,aa c x (.Compare l os rs pos)=true->False){e:Expr}(h:bw c (.val x) e=true):PT X e (tB' X.K B (wpT Z (.val x) E)):=by
 have h:((ik e||kj e)&&aa c x e&&Ca x)=true:=h;simp only[ae,bX]at h;obtain ⟨⟨h1,h2⟩,h3⟩:=h;rcases h1 with h1 |h1
 ·exact Us ih h1 h2
 ·obtain ⟨⟨t,ht⟩,_⟩:=cp.mp h1;rw[ht]at h2;exact (hn _ _ _ _ h2).elim
end
mutual
theorem aA{Z:ak}{CX:CXT}{k:Nat}{B:Bs}:∀(x:Ex){c:CT}{E:EK}{X:Cx},Stat Z CX k c E B X->OkE Z c E B X x
 |.var i,c,E,X,S=>λh=>TV S h
 |.cst d,c,E,X,S=>λh=>Dt S h
 |.glb x d,c,E,X,S=>λh=>TY S h
 |.bin op fz a b,c,E,X,S=>λh=>T3 S (aA a S) (aA b S) h
 |.neg a,c,E,X,S=>λh=>T4 S (aA a S) h
 |.cmp op a b,c,E,X,S=>λh=>(Du S (aA a S) (aA b S) h).1
 |.chn op op' a b d,c,E,X,S=>λh=>(Dv S (aA a S) (aA b S) (aA d S) h).1
 |.not a,c,E,X,S=>λh=>T5 S (aA a S) h
 |.boo isAnd e es,c,E,X,S=>λh=>Uq (aA e S) (eQ es S) h
 |.ife t a b,c,E,X,S=>λh=>Ur (ir t S) (aA a S) (aA b S) h
 |.tup es,c,E,X,S=>λh=>T6 S (EachE.oks (eQ es S)) h
 |.lst fz es,c,E,X,S=>λh=>T7 S (EachE.oks (eQ es S)) h
 |.idx a i,c,E,X,S=>λh=>T8 S (aA a S) (aA i S) h
 |.slc fz a lo hi,c,E,X,S=>λh=>T9 S (aA a S) (Eb lo S) (Eb hi S) h
 |.rvs fz a s,c,E,X,S=>λh=>Ua S (aA a S) (aA s S) h
 |.call f es,c,E,X,S=>λh=>Uc S (EachE.oks (eQ es S)) h
 |.bcl f es,c,E,X,S=>λh=>Ud S (EachE.oks (eQ es S)) h
 |.lcl fz f es,c,E,X,S=>λh=>Ue S (EachE.oks (eQ es S)) h
 |.isi a t,c,E,X,S=>λh=>Uh S (aA a S) h
 |.isx a C xs,c,E,X,S=>λh=>Uj S (aA a S) h
 |.fst es,c,E,X,S=>λh=>Up S (eQ es S) h
 |.xat C f a,c,E,X,S=>λh=>Um S (aA a S) h
 |.mth m o es,c,E,X,S=>λh=>Uo S (aA o S) (EachE.oks (eQ es S)) h
 |.comp fz elt tg it cond N cap,c,E,X,S=>λh=>U9 S (λS'=>aA elt S') (λS'=>ir cond S') (vU it S) h
 |.frz a,c,E,X,S=>λh=>Ub S (aA a S) h
theorem eQ{Z:ak}{CX:CXT}{k:Nat}{B:Bs}:∀(x:Exs){c:CT}{E:EK}{X:Cx},Stat Z CX k c E B X->EachE Z c E B X x
 |.nil,_,_,_,_=>trivial
 |.cons e es,c,E,X,S=>⟨aA e S,eQ es S⟩
theorem ir{Z:ak}{CX:CXT}{k:Nat}{B:Bs}:∀(x:Tx){c:CT}{E:EK}{X:Cx},Stat Z CX k c E B X->OkT Z c E B X x
 |.not t,c,E,X,S=>λh=>Ut (ir t S) h
 |.boo isAnd t ts,c,E,X,S=>λh=>Uu (ir t S) (Ea ts S) h
 |.yes,c,E,X,S=>λh=>nZf h
 |.val (.cmp op a b),c,E,X,S=>by
  intro h;have h:((ik _||kj _)&&aa c (.cmp op a b) _&&true)=true:=h;simp only[ae]at h;exact (Du S (aA a S) (aA b S) h.1.2).2
 |.val (.chn op op' a b d),c,E,X,S=>by
  intro h;have h:((ik _||kj _)&&aa c (.chn op op' a b d) _&&true)=true:=h;simp only[ae]at h;exact (Dv S (aA a S) (aA b S) (aA d S) h.1.2).2
 |.val (.frz a),c,E,X,S=>by
  intro h;have h:((ik _||kj _)&&aa c (.frz a) _&&false)=true:=h;rw[ff]at h;cases h
 |.val (.var i),c,E,X,S=>λh=>bF (aA (.var i) S) (λ_ _ _ _ h=>nZf h) h
 |.val (.cst d),c,E,X,S=>λh=>bF (aA (.cst d) S) (λ_ _ _ _ h=>nZf h) h
 |.val (.glb x d),c,E,X,S=>λh=>bF (aA (.glb x d) S) (λ_ _ _ _ h=>nZf h) h
 |.val (.bin op fz a b),c,E,X,S=>λh=>bF (aA (.bin op fz a b) S) (λ_ _ _ _ h=>nZf h) h
 |.val (.neg a),c,E,X,S=>λh=>bF (aA (.neg a) S) (λ_ _ _ _ h=>nZf h) h
 |.val (.not a),c,E,X,S=>λh=>bF (aA (.not a) S) (λ_ _ _ _ h=>nZf h) h
 |.val (.boo isAnd e es),c,E,X,S=>λh=>bF (aA (.boo isAnd e es) S) (λ_ _ _ _ h=>nZf h) h
 |.val (.ife t a b),c,E,X,S=>λh=>bF (aA (.ife t a b) S) (λ_ _ _ _ h=>nZf h) h
 |.val (.tup es),c,E,X,S=>λh=>bF (aA (.tup es) S) (λ_ _ _ _ h=>nZf h) h
 |.val (.lst fz es),c,E,X,S=>λh=>bF (aA (.lst fz es) S) (λ_ _ _ _ h=>nZf h) h
 |.val (.idx a i),c,E,X,S=>λh=>bF (aA (.idx a i) S) (λ_ _ _ _ h=>nZf h) h
 |.val (.slc fz a lo hi),c,E,X,S=>λh=>bF (aA (.slc fz a lo hi) S) (λ_ _ _ _ h=>nZf h) h
 |.val (.rvs fz a s),c,E,X,S=>λh=>bF (aA (.rvs fz a s) S) (λ_ _ _ _ h=>nZf h) h
 |.val (.call f es),c,E,X,S=>λh=>bF (aA (.call f es) S) (λ_ _ _ _ h=>nZf h) h
 |.val (.bcl f es),c,E,X,S=>λh=>bF (aA (.bcl f es) S) (λ_ _ _ _ h=>nZf h) h
 |.val (.lcl fz f es),c,E,X,S=>λh=>bF (aA (.lcl fz f es) S) (λ_ _ _ _ h=>nZf h) h
 |.val (.isx a C xs),c,E,X,S=>λh=>bF (aA (.isx a C xs) S) (λ_ _ _ _ h=>nZf h) h
 |.val (.xat C f a),c,E,X,S=>λh=>bF (aA (.xat C f a) S) (λ_ _ _ _ h=>nZf h) h
 |.val (.fst es),c,E,X,S=>λh=>bF (aA (.fst es) S) (λ_ _ _ _ h=>nZf h) h
 |.val (.isi a t),c,E,X,S=>λh=>bF (aA (.isi a t) S) (λ_ _ _ _ h=>nZf h) h
 |.val (.mth m o es),c,E,X,S=>λh=>bF (aA (.mth m o es) S) (λ_ _ _ _ h=>nZf h) h
 |.val (.comp fz elt tg it cond N cap),c,E,X,S=>λh=>bF (aA (.comp fz elt tg it cond N cap) S) (λ_ _ _ _ h=>nZf h) h
theorem Ea{Z:ak}{CX:CXT}{k:Nat}{B:Bs}:∀(x:Txs){c:CT}{E:EK}{X:Cx},Stat Z CX k c E B X->qp Z c E B X x
 |.nil,_,_,_,_=>trivial
 |.cons e es,c,E,X,S=>⟨ir e S,Ea es S⟩
theorem Eb{Z:ak}{CX:CXT}{k:Nat}{B:Bs}:∀(x:Ox){c:CT}{E:EK}{X:Cx},Stat Z CX k c E B X->∀y,x=.ob y->OkE Z c E B X y
 |.no,c,E,X,S,y,e=>by cases e
 |.ob z,c,E,X,S,y,e=>by injection e with e;subst e;exact aA z S
theorem vU{Z:ak}{CX:CXT}{k:Nat}{B:Bs}:∀(x:It'){c:CT}{E:EK}{X:Cx},Stat Z CX k c E B X->∀{tg e:Expr},bQ c x tg e=true->PI X tg e (tI X.K B (wpI Z x E))
 |.seq y,c,E,X,S,tg,e,h=>UW (aA y S) (show aa c y e=true from h)
 |.rng a,c,E,X,S,tg,e,h=>U0 S (aA a S) h
 |.rng2 a b,c,E,X,S,tg,e,h=>U3 S (aA a S) (aA b S) h
 |.enm a,c,E,X,S,tg,e,h=>U4 S (aA a S) h
 |.en1 a,c,E,X,S,tg,e,h=>U6 S (aA a S) (λh=>Dt S h) h
 |.zip a b,c,E,X,S,tg,e,h=>U7 S (aA a S) (aA b S) h
end
def EnD(K:PF)(H:Hp)(F:FZ)(D:Ends):En where
 nx:=λY G'=>∀H' F' σ',Ext H F H' F'->EnvR K H' F' Y σ'->R K H' F' G'->D.nx σ' H'
 rt:=PV K H F D.rt
 bk:=λY G'=>∀H' F' σ',Ext H F H' F'->EnvR K H' F' Y σ'->R K H' F' G'->D.bk σ' H'
 ct:=λY G'=>∀H' F' σ',Ext H F H' F'->EnvR K H' F' Y σ'->R K H' F' G'->D.ct σ' H'
theorem EnD.later{K:PF}{H H1:Hp}{F F1:FZ}{D:Ends}(x:Ext H F H1 F1):(EnD K H F D).Le (EnD K H1 F1 D):=
 ⟨λ_ _ h H' F' σ' x1=>h H' F' σ' (x.trans x1),λ_ _ h=>PV.later h x,λ_ _ h H' F' σ' x1=>h H' F' σ' (x.trans x1),λ_ _ h H' F' σ' x1=>h H' F' σ' (x.trans x1)⟩
def tS(K:PF)(B:Bs)(w:aj->DH->En->Prop):TS:=λD X H=>∃Y F G,Ext B.H B.F H F/\EnvR K H F Y X/\R K H F G/\w Y G (EnD K H F D)
theorem psI{X:Cx}{st:Stmt}{t t':TS}(h:PS X st t)(i:∀D Y H,t' D Y H->t D Y H):PS X st t':=λpins s Y H D I q=>h pins s Y H D I (i D Y H q)
theorem Ec{X:Cx}{st:List Stmt}{t t':TS}(h:PSs X st t)(i:∀D Y H,t' D Y H->t D Y H):PSs X st t':=λpins s Y H D I q=>h pins s Y H D I (i D Y H q)
theorem lr{e:Expr}(h:bY e=false)(t:Option Expr)(n:Nat)(env:Env):swapsWith e t n env=pure false:=by cases e <;> first |rfl |exact nomatch (show true=false from h)
theorem vV{e:Expr}(h:bY e=false)(t:Expr)(n:Nat)(env:Env):swapsWithSole [t] e n env=pure false:=lr h _ _ _
section
variable {Z:ak} {CX:CXT} {k:Nat} {c:CT} {E:EK} {B:Bs} {X:Cx}
abbrev OkS(Z:ak)(c:CT)(E:EK)(B:Bs)(X:Cx)(x:Sx):Prop:=∀{st:Stmt},aY c x st=true->PS X st (tS X.K B (wpS Z x E))
abbrev ju(Z:ak)(c:CT)(E:EK)(B:Bs)(X:Cx)(x:Sxs):Prop:=∀{st:List Stmt},aD c x st=true->PSs X st (tS X.K B (au Z x E))
theorem Va(S:Stat Z CX k c E B X){x:Ex}{st:Stmt}(h:aY c (.exp x) st=true):PS X st (tS X.K B (wpS Z (.exp x) E)):=by
 replace h:=S8 h;obtain ⟨_,_,rfl,h⟩:=h
 ·rw[ae]at h;refine psI (yh (aA x S h.2) (lr (by simpa using h.1) _ _ _)) λD W H hq=>el hq λY F G e0 he r hw=>?_;rw[uK]at hw;exact aH e0 he r hw λd G1 H1 F1 v q e1 x1 he1 r1 rv=>q _ _ _ x1 he1 r1
theorem Vb(S:Stat Z CX k c E B X){i:Nat}{x:Ex}{st:Stmt}(h:aY c (.asg (.nm i) x) st=true):PS X st (tS X.K B (wpS Z (.asg (.nm i) x) E)):=by
 replace h:=Dl h;obtain ⟨tg,e,pos,rfl,h⟩:=h
 ·simp only[ae]at h;obtain ⟨⟨h1,h2⟩,h3⟩:=h;have h3:(!bY e||Ce x)=true:=h3;replace h1:=vI h1;obtain ⟨y,py,rfl,h1⟩:=h1
  ·rw[ae,ai]at h1;obtain ⟨l,f⟩:=S.sto y h1.2;have hi:X.N[i]?=some y:=by rw[S.N];exact h1.1
   have go:∀(D:Ends)(W:L2.St)(H:Hp),tS X.K B (wpS Z (.asg (.nm i) x) E) D W H->nQ (tE X.K B (wpE Z x E)) (nP i) D W H:=λD W H hq=>el hq λY F G e0 he r hw=>by
    rw[jZ]at hw;refine aH e0 he r hw λd G1 H1 F1 v q e1 x1 he1 r1 rv=>?_;unfold aX at q;exact q _ _ _ x1 (he1.set rv i) r1
   cases hc:bY e with
   |false=>exact psI (rH S.nd hi l (aA x S h2) (lr hc _ _ _) f) go
   |true=>
    rw[hc,Bool.not_true,Bool.false_or]at h3;cases x with
    |comp fz elt tg it cond N cap=>
     obtain ⟨elt',tg',iter,ifs,scope,pos',rfl,C⟩:=DY h2;obtain ⟨s1,s2,s3,s4⟩:=DX S C.sc;have hb:∃b:Bool,swapsWith (.ListComp elt' [⟨tg',iter,ifs,0⟩] scope pos') (some (.Name y py)) pos.line X.env=pure b:=⟨_,rfl⟩;obtain ⟨b,hb⟩:=hb;cases b with
     |false=>exact psI (rH S.nd hi l (aA _ S h2) hb f) go
     |true=>
      refine psI (Qe (lim:=true) (zU _ _ _ _ _ _) S.nd hi l (N.map Str.ofString) cap (S.calm (DW C.sc)) (vU it S C.it) (qz S.N C.cap) s1 s2 s3 s4 (vR C.it X.env) hb f) λD W H hq=>el hq λY F G e0 he r hw=>?_;rw[jZ]at hw;rw[u5]at hw;refine DR (fz:=fz) (Q:=λv H1=>D.nx (W.set i (some v)) H1) S C.nd (λS'=>aA elt S') (λS'=>ir cond S') C.tg C.cd C.el e0 he r (j0 it (λitems g G1 q=>?_) hw);refine pJ (λd ρ' G' k1 k2 hk z=>fL (λρ1 z=>dC cond (λb G2 z=>by
       cases b with
       |true=>exact aF elt (λy G3 z=>hk _ _ _ z) z
       |false=>exact hk _ _ _ z) z) tg z) ?_ _ _ _ _ q
      ·intro ds G2 q;refine c7 (λd G3 q=>?_) q;intro H1 F1 v x1 r1 rv;unfold aX at q;exact q _ _ _ x1 ((he.ext x1).set rv i) r1
    |_=>cases h3
theorem Vc(S:Stat Z CX k c E B X){ts:Tgs}{x:Ex}{st:Stmt}(h:aY c (.asg (.tp ts) x) st=true):PS X st (tS X.K B (wpS Z (.asg (.tp ts) x) E)):=by
 replace h:=Dl h;obtain ⟨tg,e,pos,rfl,h⟩:=h
 ·rw[ae,ae]at h;have h34:(!kE e&&!bY e)=true:=h.2;obtain ⟨h1,h2⟩:=h.1;rw[ae,ck,ck]at h34;obtain ⟨h3,h4⟩:=h34;have hg:=qw S (.tp ts) h1;replace h1:=vJ h1;obtain ⟨_,_,_,rfl,h1⟩:=h1;rw[ae]at h1;replace h1:=h1.2
  ·refine psI (rG (aA x S h2) hg (vV h4 _ _ _) ?_ rfl) λD W H hq=>el hq λY F G e0 he r hw=>?_
   ·cases e <;> first |rfl |exact nomatch (show true=false from h3)
   ·rw[jZ]at hw;refine aH e0 he r hw λd G1 H1 F1 v q e1 x1 he1 r1 rv=>?_;exact ⟨Y,F1,G1,d,e1,he1,r1,rv,fL (λρ' z σ' hσ=>z H1 F1 σ' x1 hσ r1) (.tp ts) q⟩
theorem Vd(S:Stat Z CX k c E B X){i j:Nat}{x:Ex}{st:Stmt}(h:aY c (.star i j x) st=true):PS X st (tS X.K B (wpS Z (.star i j x) E)):=by
 replace h:=S9 h;obtain ⟨y,py,sp,z,pz,kk,p,e,pos,rfl,h⟩:=h;simp only[ae,ai,ck]at h;obtain ⟨⟨⟨⟨⟨⟨⟨hcm,h1⟩,h2⟩,h3⟩,h4⟩,h5⟩,h6⟩,h7⟩:=h;obtain ⟨l1,f1⟩:=S.sto y h2;obtain ⟨l2,f2⟩:=S.sto z h4;have hg:=UG (sp:=sp) (k:=kk) (pos:=p) (S.calm hcm) (rF (rE (pos:=py) (i:=i) S.nd (by rw[S.N];exact h1) l1 f1) (rF (rE (pos:=pz) (i:=j) S.nd (by rw[S.N];exact h3) l2 f2) yj rfl) rfl);refine psI (rG (aA x S h5) hg (vV h7 _ _ _) ?_ rfl) λD W H hq=>el hq λY F G e0 he r hw=>?_
 ·cases e <;> first |rfl |exact nomatch (show true=false from h6)
 ·rw[uL]at hw;refine aH e0 he r hw λd G1 H1 F1 v q e1 x1 he1 r1 rv=>?_;unfold jU at q;split at q
  ·rename_i ds;obtain ⟨hne,q⟩:=q;obtain ⟨a,vs,rfl,fz,t⟩:=rv;have hd:ds=ds.dropLast++[ds.getLast hne]:=(List.dropLast_concat_getLast hne).symm;obtain ⟨us,u,ev,t1,t2⟩:=Ad (hd ▸ t);subst ev;refine ⟨a,us,u,rfl,fz.sq,λl hl=>?_⟩;have xx:=oR (vs:=us) r1 hl;have rl:=Ac r1 hl t1;have q1:=q _ _ hd _ _ ((W.set i (some (.ref l))).set j (some u)) (x1.trans xx) (((he1.ext xx).set rl i).set (t2.ext xx) j) (r1.newF hl);exact ⟨_,_,rfl,_,_,rfl,rfl,q1⟩
  ·exact q.elim
theorem Ve(S:Stat Z CX k c E B X){o i x:Ex}{st:Stmt}(h:aY c (.set o i x) st=true):PS X st (tS X.K B (wpS Z (.set o i x) E)):=by
 replace h:=Tc h;obtain ⟨o',i',tpos,e,pos,rfl,h⟩:=h
 ·simp only[ae,ck]at h;obtain ⟨⟨⟨h1,h2⟩,h3⟩,h4⟩:=h;have hi:=aZ i h2;refine psI (rG (aA x S h3) (KJ (aA o S h1) (aA i S h2) R0 ?_) (vV h4 _ _ _) ?_ rfl) λD W H hq=>el hq λY F G e0 he r hw=>?_
  ·intro v;cases i' <;> first |rfl |exact nomatch (show false=true from hi)
  ·cases e <;> rfl
  ·rw[uN]at hw;refine aH e0 he r hw λd G1 H1 F1 v q e1 x1 he1 r1 rv=>?_;refine aH e1 he1 r1 q λa G2 H2 F2 w q e2 x2 he2 r2 rw'=>?_;refine aH e2 he2 r2 q λy G3 H3 F3 u q e3 x3 he3 r3 ru=>?_;refine ⟨F3,G3,a,y,d,r3,rw'.ext x3,ru,rv.ext (x2.trans x3),Bc (λG4 q=>?_) q⟩;intro H4 F4 x4 r4;exact q _ _ _ (x1.trans (x2.trans (x3.trans x4))) (he3.ext x4) r4
theorem Vf(S:Stat Z CX k c E B X){x:Ex}{st:Stmt}(h:aY c (.ret x) st=true):PS X st (tS X.K B (wpS Z (.ret x) E)):=by
 replace h:=Tj h;obtain ⟨_,_,rfl,h⟩:=h
 ·refine psI (Ko (aA x S h)) λD W H hq=>el hq λY F G e0 he r hw=>?_;rw[uO]at hw;exact ⟨Y,F,G,e0,he,r,hw⟩
theorem Vg{st:Stmt}(h:aY c .rtn st=true):PS X st (tS X.K B (wpS Z .rtn E)):=by
 replace h:=Tn h;obtain ⟨_,rfl,h⟩:=h
 ·refine psI Kq λD W H hq=>el hq λY F G e0 he r hw=>?_;rw[uP]at hw;exact hw.now r rfl
theorem Vh(S:Stat Z CX k c E B X){t:Tx}{a b:Sxs}(iha:ju Z c E B X a)(ihb:ju Z c E B X b){st:Stmt}(h:aY c (.ite t a b) st=true):PS X st (tS X.K B (wpS Z (.ite t a b) E)):=by
 replace h:=Tp h;obtain ⟨_,_,_,_,rfl,h⟩:=h
 ·simp only[ae]at h;obtain ⟨⟨h1,h2⟩,h3⟩:=h;refine psI (Ks (ir t S h1) (iha h2) (ihb h3)) λD W H hq=>el hq λY F G e0 he r hw=>?_;rw[uQ]at hw;refine jm e0 he r hw λb' G1 H1 F1 q e1 x1 he1 r1=>?_;cases b' with
  |true=>
   rw[if_pos rfl];exact ⟨Y,F1,G1,e1,he1,r1,cP a (EnD.later x1) q⟩
  |false=>
   rw[if_neg b6];exact ⟨Y,F1,G1,e1,he1,r1,cP b (EnD.later x1) q⟩
theorem Vi(S:Stat Z CX k c E B X){t:Tg}{it:It'}{b:Sxs}(ihb:ju Z c E B X b){st:Stmt}(h:aY c (.for_ t it b) st=true):PS X st (tS X.K B (wpS Z (.for_ t it b) E)):=by
 replace h:=Tq h;obtain ⟨tg,iter,body,pos,rfl,h⟩:=h
 ·simp only[ae]at h;obtain ⟨⟨⟨hcm,h1⟩,h2⟩,h3⟩:=h;refine psI (K5 (S.own hcm) (S.calm hcm) (vU it S h2) (qw S t h1) (ihb h3) (vR h2 X.env)) λD V H hq=>el hq λY F G e0 he r hw=>?_;rw[Aq]at hw;refine ⟨Y,F,G,e0,he,r,j0 it (λitems g G1 q H1 F1 J x1 r1 W=>?_) hw⟩;let step:RF.D->aj->DH->(aj->DH->Prop)->Prop:=λd ρ' G' k=>aX t d ρ' G' λρ1=>au Z b E ρ1 G' { EnD X.K H F D with nx:=k,ct:=k,bk:=(EnD X.K H F D).nx }
  let P:Nat->L2.St->Hp->Prop:=λi σ' H'=>∃ρ' F' G',Ext B.H B.F H' F'/\Ext H1 F1 H' F'/\EnvR X.K H' F' ρ' σ'/\R X.K H' F' G'/\forLoop step g (items.drop i) ρ' G' (EnD X.K H F D).nx
  refine ⟨λi m σ' H'=>m=items.length - i/\i<=items.length/\P i σ' H',⟨items.length,by simp,Nat.zero_le _,Y,F1,G1,e0.trans x1,Ext.refl _ _,he.ext x1,r1,q⟩,?_⟩;rintro i m σ' H' ⟨rfl,hle,ρ',F',G',eB,e1,he',r',hl⟩;by_cases hlt:i < items.length
  ·have hd:items.drop i=items[i]::items.drop (i+1):=ca hlt;rw[hd]at hl;obtain ⟨hh,hl⟩:=hl;refine .inr ⟨W.go H' F' G' i e1 r' hh hlt,P (i+1),λσ2 H2 p=>⟨items.length - (i+1),by omega,rfl,hlt,p⟩,λx H2 hy=>?_⟩;obtain ⟨xy,ry,rx⟩:=W.yld H' F' i x H2 items[i] G' e1 r' hh (by simp[hlt]) hy;refine ⟨ρ',F',G',items[i],eB.trans xy,he'.ext xy,ry,rx,fL (λρ1 z σ1 hσ1=>?_) t hl⟩;refine ⟨ρ1,F',G',eB.trans xy,hσ1,ry,cP b (D:={ EnD X.K H F D with nx:=λρ' G'=>forLoop step g (items.drop (i+1)) ρ' G' (EnD X.K H F D).nx,ct:=λρ' G'=>forLoop step g (items.drop (i+1)) ρ' G' (EnD X.K H F D).nx,bk:=(EnD X.K H F D).nx }) ⟨λρ2 G2 z H3 F3 σ3 x3 he3 r3=>?_,λd G2 z=>PV.later z (x1.trans (e1.trans xy)),λρ2 G2 z H3 F3 σ3 x3=>z H3 F3 σ3 (x1.trans (e1.trans (xy.trans x3))),λρ2 G2 z H3 F3 σ3 x3 he3 r3=>?_⟩ z⟩
   ·exact ⟨ρ2,F3,G2,eB.trans (xy.trans x3),e1.trans (xy.trans x3),he3,r3,z⟩
   ·exact ⟨ρ2,F3,G2,eB.trans (xy.trans x3),e1.trans (xy.trans x3),he3,r3,z⟩
  ·have hi':i=items.length:=by omega
   subst hi';rw[List.drop_length]at hl;exact .inl ⟨W.stop H' F' G' e1 r' hl.1,hl.2 _ _ _ (x1.trans e1) he' r'⟩
theorem Vj(S:Stat Z CX k c E B X){C:String}{a:Ex}{st:Stmt}(h:aY c (.rsi C a) st=true):PS X st (tS X.K B (wpS Z (.rsi C a) E)):=by
 obtain ⟨x,p,v,pos,rpos,rfl,hh⟩:=Td h;simp only[ae,ai]at hh;obtain ⟨⟨⟨ex,⟨hcm,hg⟩⟩,hx⟩,ha⟩:=hh;subst ex;obtain ⟨g1,g2⟩:=bZ hg;obtain ⟨k',hk',⟨c0,fa,fd,ps,j,hj,hm,hn,hcl,hfn,hk,hxi,hb,F0⟩,_⟩:=S.xko C _ (al.mp hx);obtain ⟨EX,_,hth,hEX⟩:=S.exc;have sv:=bI (aZ a ha);refine psI (QR (S.calm hcm) hcl hfn hk F0 (S.room.mono (bi hj (hk' hcm))) (S.glo _ g1) hm hb (S.nox X) hth (dI (aA a S ha) gR (aW _ _ _ sv)) (bD g2) (aW _ _ _ sv) rfl) λD W H hq=>el hq λY F G e0 he r hw=>?_;rw[uV]at hw;refine aH e0 he r hw λd G1 H1 F1 v q e1 x1 he1 r1 rv=>⟨one_le,λa l Q' hn0 hQ=>?_⟩;obtain ⟨qa,q⟩:=q;have x2:=cW (o:=.ext (bV a c0 l none)) r1 hn0;have r2:=r1.new (o:=.ext (bV a c0 l none)) hn0;refine ⟨a,v,l,d,F1,G1,rfl,bM,r1.notF hn0,r2,rv.ext x2,qa,λH2 F2 dx od ob l' x3 r3 h2 hdx hne hc hd hnc hl=>⟨rfl,hQ _ ob dx _ (by rw[aB (Ne.symm hne),bM]) hc hd hl ?_⟩⟩;have x23:=x2.trans x3;have hh:drp (upd (upd H2 a (.frz ob (.own a))) dx (.frz od (.xd [(Str.ofString (cz C),v)]))) a=upd (drp H2 a) dx (.frz od (.xd [(Str.ofString (cz C),v)])):=by
  funext b;by_cases hb:b=a
  ·rw[hb,oK,aB (Ne.symm hne),oK]
  ·rw[cV hb];by_cases hb2:b=dx
   ·rw[hb2,bM,bM]
   ·rw[aB hb2,aB hb,aB hb2,cV hb]
 rw[hh];have hdx':drp H2 a dx=none:=by rw[cV hne];exact hdx
 have r4:R X.K (drp H2 a) (λb=>F2 b/\b≠a) G1:=r3.offX h2 (λb hb=>cV hb) (λb hb f=>⟨f,hb⟩) λb f=>⟨f.1,λe=>absurd e f.2⟩;have r5:=r4.new (o:=.frz od (.xd [(Str.ofString (cz C),v)])) hdx';have x5:Ext H1 F1 (upd (drp H2 a) dx (.frz od (.xd [(Str.ofString (cz C),v)]))) (λb=>F2 b/\b≠a):=by
  refine ⟨λb hb=>⟨x23.sub b hb,λe=>r1.notF hn0 (by rw[<-e];exact hb)⟩,λb hb=>?_,λb ys hb=>?_,λb o u hb=>?_⟩
  ·rw[aB λe=>?_,cV λe=>?_]
   ·exact x23.keep b hb
   ·subst e;exact r1.notF hn0 hb
   ·subst e;have z:=x23.keep b hb;rw[hdx]at z;exact r1.notF z.symm hb
  ·have z:=x23.tups b ys hb;rw[aB (aR z hdx),cV (cO z h2 (by intro w;cases w))];exact z
  ·have z:=x23.frzs b o u hb;rw[aB (aR z hdx),cV (cO z h2 (by intro w;cases w))];exact z
 refine hEX ⟨C,d⟩ G1 _ _ q (e1.trans x5) r5 (.ref c0) (some dx) ⟨c0,rfl,hn,?_⟩;have rv':Rep X.K (upd (drp H2 a) dx (.frz od (.xd [(Str.ofString (cz C),v)]))) (λb=>F2 b/\b≠a) d v:=rv.ext x5;unfold okA at qa;split at qa
 ·exact ⟨dx,od,v,rfl,bM,rv'⟩
 ·exact ⟨dx,od,v,rfl,bM,rv'⟩
 ·exact qa.elim
theorem Stat.wish(S:Stat Z CX k c E B X)(E':Value->Shared->Prop)(ho:PassesOwn (model X.prog X.w) X.A X.env E'):Stat Z CX k c noE B (X.wish E'):=
 ⟨S.N,S.nd,S.calm,λ_=>ho,S.kd,S.vis,S.cel,S.glo,S.sto,S.room,S.call,S.blt,S.con,⟨_,S.nox _,λ_ _ _ _ _ _ _ _ _ _ _ _ _ q=>q.elim,λx G' H' F' h=>h.elim⟩,S.nox,S.xcl,S.loc,S.xis,S.mth,S.mko,S.fld,S.xko,S.trc,S.lv,S.qok,S.cb⟩
def PNx(K:PF)(H:Hp)(F:FZ)(nx:L2.St->Hp->Prop):aj->DH->Prop:=λρ' G'=>∀H' F' σ',Ext H F H' F'->EnvR K H' F' ρ' σ'->R K H' F' G'->nx σ' H'
def PEx(K:PF)(H:Hp)(F:FZ)(ex:Value->Option Addr->L2.St->Hp->Prop):Xn->aj->DH->Prop:=λx ρ' G'=>∀H' F' σ' cv od,Ext H F H' F'->EnvR K H' F' ρ' σ'->R K H' F' G'->XV K H' F' x cv od->ex cv od σ' H'
def tXX(K:PF)(B:Bs)(w:aj->DH->(aj->DH->Prop)->(Xn->aj->DH->Prop)->Prop):TX:=λnx ex X H=>∃Y F G,Ext B.H B.F H F/\EnvR K H F Y X/\R K H F G/\w Y G (PNx K H F nx) (PEx K H F ex)
theorem pxI{X:Cx}{sts:List Stmt}{t t':TX}(h:PXs X sts t)(i:∀nx ex Y H,t' nx ex Y H->t nx ex Y H):PXs X sts t':=λpins s Y H nx ex E' I ho hE q=>h pins s Y H nx ex E' I ho hE (i nx ex Y H q)
theorem Vk{B:Bs}{c:CT}{E:EK}{X:Cx}(S:Stat Z (CX1 X.prog X.w) k c E B X){f g:String}{i:Nat}{es:Exs}{sts:List Stmt}(h:fP c (.pick f g i es) sts=true):PXs X sts (tXX X.K B (wpX Z (.pick f g i es))):=nZf h
theorem Ed{B:Bs}{c:CT}{E:EK}{X:Cx}(S:Stat Z (CX1 X.prog X.w) k c E B X):∀(b:Tb){sts:List Stmt},fP c b sts=true->PXs X sts (tXX X.K B (wpX Z b))
 |.call _ _,_,h=>nZf h
 |.pick f g i es,sts,h=>Vk S h
 |.asl i fz e f es,sts,h=>by
  obtain ⟨y,p2,ea,x,p,args,cpos,lp,p0,rfl,hea,h0,h1⟩:=Ti h;simp only[ae,ai,fN]at h0 h1;obtain ⟨⟨hi,hs⟩,hok⟩:=h0;obtain ⟨⟨⟨⟨e1,h1⟩,⟨f',n⟩,hm,e2,e3⟩,h4⟩,h5⟩:=h1;simp only at e2 e3;subst e1 e2 e3;obtain ⟨g1,g2⟩:=bZ h1;obtain ⟨fa,fd,ps,F0,hk,hb,hmg⟩:=S.call _ _ hm;obtain ⟨hloc,hfn⟩:=S.sto _ hs;cases args with
  |nil=>cases h4
  |cons e0 es0=>
   obtain ⟨x0,xs',rfl,c1,c2⟩:=jq h5;refine pxI (QX (i:=i) (tc:=tE X.K B (wpE Z e noE)) (ta:=tL X.K B (aN Z (.cons x0 xs') noE)) F0 S.room (S.glo _ g1) hmg hk hb S.nd (by rw[S.N];exact hi) hloc hfn (λE' ho=>aA e (S.wish E' ho) hea) (λE' ho=>EachE.oks (eQ (.cons x0 xs') (S.wish E' ho)) h5) rfl (aW ea _ X.env (bI (aZ e hea))) (bD g2) (aW e0 es0 X.env (bI (aZ x0 c1))) (kO c2 X.env cpos)) λnx ex W H hq=>el hq λY F G eB he r hw=>?_;rw[uX]at hw;refine aH eB he r hw λd0 G0 H0 F0' v0 q eB0 xa he0 r0 rv0=>?_;refine cB eB0 he0 r0 (vK _ h5 q) λds G1 H1 F1 vs q e1 x1 he1 r1 rvs=>?_;refine ⟨by rw[<-rvs.length];exact q.1,F1,G1,ds,r1,rvs,Spec.mono q.2 (λd G2 z H2 F2 v x2 r2 rv=>λqq hqq=>?_) λxn G2 z H2 F2 x2 r2 cv od hv=>z H2 F2 W cv od (xa.trans (x1.trans x2)) (he1.ext x2) r2 hv⟩;refine dU (Q:=λw Hw=>nx (W.set i (some w)) Hw) (c7 (λw G3 z' H3 F3 v3 x3 r3 rv3=>z' H3 F3 _ (xa.trans (x1.trans (x2.trans x3))) (EnvR.set rv3 i ((he1.ext x2).ext x3)) r3) z) r2 ⟨_,_,rfl,Rep.ext (x1.trans x2) rv0,_,_,rfl,rv,rfl⟩ qq hqq
 |.asg _ _ _,_,h=>nZf h
 |.ite _ _ _,_,h=>nZf h
theorem Vl(S:Stat Z CX k c E B X){b:Tb}{C:String}{hd:Hd}{xs:List String}{st:Stmt}(h:aY c (.tryx b C hd xs) st=true):PS X st (tS X.K B (wpS Z (.tryx b C hd xs) E)):=by
 obtain ⟨body,cx,p1,nm,y,p2,e,p4,p5,pos,rfl,h1,h2,h3,h4,h5⟩:=Th h;simp only[ae,ai]at h4;obtain ⟨⟨ec,hc⟩,hcx⟩:=h4;subst ec;obtain ⟨g3,g4⟩:=bZ hc;have hne:c.xs≠[]:=λe=>by rw[e]at hcx;cases hcx
 obtain ⟨ecx,hst,hex⟩:=S.trc hne;subst ecx;obtain ⟨cv,hcv,hall⟩:=S.xis C hcx;have hcat:∃a,cv=.ref a/\X.mg (Str.ofString C)=some (.ref a)/\Cat X.K a:=by
  rcases hcv with ⟨a,e,hm,hb⟩ |⟨e,_,_⟩
  ·exact ⟨a,e,hm,sJ hb⟩
  ·rw[e]at h3;cases h3
 obtain ⟨a,rfl,ham,hca⟩:=hcat;unfold ql at h5;rw[ae,ae]at h5;obtain ⟨⟨h5,hsy⟩,hoy⟩:=h5;obtain ⟨hloc,hfn⟩:=S.sto _ hsy;have cls:∀{x:Xn}{H':Hp}{F':FZ}{cv:Value}{od:Option Addr},xs.contains x.cls=true->aV x.cls C=true->XV X.K H' F' x cv od->∃d,cv=.ref d/\PySem.W.mroIn X.K d (.ref a)=some true/\PySem.W.nsIn X.K mainGlobals (Str.ofString x.cls)=some (some (.ref d)):=by
  intro x H' F' cv od hx hs hv;obtain ⟨d,rfl,hn,_⟩:=hv;have hxi:XI X.K x.cls C (.ref a):=by
   have t:=a7.mp h2 _ (al.mp hx);rw[bX]at t;rcases t with t |t
   ·exact hall x.cls t
   ·obtain ⟨_,_,hxx⟩:=S.xko _ _ (al.mp t);exact hxx.2 C _ hcx hcv
  obtain ⟨c1,k1,_,k4,_⟩:=hxi;rw[k1]at hn;have ed:c1=d:=by simpa using hn
  subst ed;rw[hs]at k4;exact ⟨c1,rfl,k4,k1⟩
 cases hd with
 |flag i v=>
  simp only[ae,ai,b9]at h5;obtain ⟨⟨rfl,hi⟩,h6⟩:=h5;obtain ⟨kk,hk,h6⟩:=aC h6;have ek:=Te h6;subst hk;rw[ek];refine psI (Ph (Ed S b h1) hst (S.glo _ g3) ham hca S.nd (by rw[S.N];exact hi) hloc hfn rfl (bD g4)) λD U H hq=>el hq λY F G eB he r hw=>?_;rw[uY]at hw;refine ⟨Y,F,G,eB,he,r,jc b (λρ' G' z H' F' σ' x' he' r'=>z H' F' σ' x' he' r') (λx ρ' G' z H' F' σ' cv od x' he' r' hv=>?_) hw⟩;obtain ⟨z2,z3,z4⟩:=z;obtain ⟨d,e1,e2,_⟩:=cls z2 z3 hv;exact ⟨d,e1,e2,z4 H' F' _ x' (EnvR.set (d:=.bl v) (v:=.bl v) (show V.bl v=.bl v from rfl) i he') r'⟩
 |bind n i=>cases h5
theorem Stat.marked(S:Stat Z CX k c E B X)(hcm:c.cm=true)(a:Addr)(E':Value->Shared->Prop):Stat Z CX 1 c.quiet noE B (X.marked a E') where
 N:=S.N
 nd:=S.nd
 calm:=λh=>nomatch h
 own:=λh=>nomatch h
 kd:=S.kd
 vis:=S.vis
 cel:=S.cel
 glo:=S.glo
 sto:=S.sto
 room:=⟨λz=>absurd z (by decide),by have:=S.room.dp;have:=S.lv hcm;show X.A.depth+3 * 1+5 < _;omega,by have:=S.room.un;have:=S.lv hcm;show X.A.units+16 * 1+200 < _;omega⟩
 call:=S.qok
 blt:=λf h=>S.blt f (List.mem_filter.mp h).1
 con:=S.con
 exc:=⟨_,S.nox _,λ_ _ _ _ _ _ _ _ _ _ _ _ _ q=>q.elim,λx G' H' F' h=>h.elim⟩
 nox:=S.nox
 xcl:=S.xcl
 loc:=S.loc
 xis:=S.xis
 mth:=λ_ _ _ _ h=>nomatch h
 mko:=λ_ _ h=>nomatch h
 fld:=λ_ _ h=>nomatch h
 xko:=λC f h=>let ⟨k',_,z⟩:=S.xko C f h;⟨k',λw=>(nomatch w),z⟩
 trc:=S.trc
 lv:=λh=>nomatch h
 qok:=λ_ _ h=>nomatch h
 cb:=λf h l=>by
  have:=(List.mem_filter.mp h).2;rw[l]at this;cases this
theorem Vm(S:Stat Z CX k c E B X){b:Tb}{C:String}{n:Nat}{ss:Sxs}{xs:List String}(ihh:∀{X':Cx},Stat Z CX 1 c.quiet noE B X'->ju Z c.quiet noE B X' ss){st:Stmt}(h:aY c (.tryh b C n ss xs) st=true):PS X st (tS X.K B (wpS Z (.tryh b C n ss xs) E)):=by
 obtain ⟨body,cx,p1,nn,s1,sr,p5,pos,rfl,h1,h2,h3,hcm,h4,hj,hkd,hon,h5⟩:=Tf h;simp only[ae,ai]at h4;obtain ⟨⟨ec,hc⟩,hcx⟩:=h4;subst ec;obtain ⟨g3,g4⟩:=bZ hc;have hne:c.xs≠[]:=λe=>by rw[e]at hcx;cases hcx
 have ihm:∀(a:Addr)(E':Value->Shared->Prop),PSs (X.marked a E') (s1::sr) (tS X.K B (au Z ss noE)):=λa E'=>ihh (S.marked hcm a E') h5;obtain ⟨ecx,hst,hex⟩:=S.trc hne;subst ecx;obtain ⟨cv,hcv,hall⟩:=S.xis C hcx;have hcat:∃a,cv=.ref a/\X.mg (Str.ofString C)=some (.ref a)/\Cat X.K a:=by
  rcases hcv with ⟨a,e,hm,hb⟩ |⟨e,_,_⟩
  ·exact ⟨a,e,hm,sJ hb⟩
  ·rw[e]at h3;cases h3
 obtain ⟨a,rfl,ham,hca⟩:=hcat;have cls:∀{x:Xn}{H':Hp}{F':FZ}{cv:Value}{od:Option Addr},xs.contains x.cls=true->aV x.cls C=true->XV X.K H' F' x cv od->∃d,cv=.ref d/\PySem.W.mroIn X.K d (.ref a)=some true/\PySem.W.nsIn X.K mainGlobals (Str.ofString x.cls)=some (some (.ref d)):=by
  intro x H' F' cv od hx hs hv;obtain ⟨d,rfl,hn,_⟩:=hv;have hxi:XI X.K x.cls C (.ref a):=by
   have t:=a7.mp h2 _ (al.mp hx);rw[bX]at t;rcases t with t |t
   ·exact hall x.cls t
   ·obtain ⟨_,_,hxx⟩:=S.xko _ _ (al.mp t);exact hxx.2 C _ hcx hcv
  obtain ⟨c1,k1,_,k4,_⟩:=hxi;rw[k1]at hn;have ed:c1=d:=by simpa using hn
  subst ed;rw[hs]at k4;exact ⟨c1,rfl,k4,k1⟩
 have hnl:X.env.scope.names.lookup nn=some .local:=S.loc nn hkd;refine psI (QZ (jn:=n) (Ed S b h1) hst hex (S.glo _ g3) ham hca S.nd (by rw[S.N];exact hj) (by rw[S.kd];exact hnl) hnl ihm (bD g4)) λD V H hq=>el hq λY F G eB he r hw=>?_;rw[uW]at hw;refine ⟨Y,F,G,eB,he,r,jc b (λρ' G' z H' F' σ' x' he' r'=>z H' F' σ' x' he' r') (λx ρ' G' z H' F' σ' cv od x' he' r' hv=>?_) hw⟩;obtain ⟨z2,z3,z4⟩:=z;obtain ⟨d,e1,e2,e3⟩:=cls z2 z3 hv;refine ⟨d,e1,e2,λa0 o0 hn0 hc0 hd0 hnc0=>?_⟩;have xx:Ext H' F' (upd H' a0 (.frz o0 (.own a0))) F':=cW r' hn0;have rr:R X.K (upd H' a0 (.frz o0 (.own a0))) F' G':=r'.new hn0;have rx:Rep X.K (upd H' a0 (.frz o0 (.own a0))) F' (xval x) (.ref a0):=by
   obtain ⟨d',ed,en,hf⟩:=hv;unfold xval;generalize x.fld=fl at hf ⊢;cases fl with
   |non=>exact ⟨a0,d,rfl,⟨o0,a0,bM,hc0⟩,e3⟩
   |_=>
    obtain ⟨dx,ob,v,eo,hdx,rv⟩:=hf;exact ⟨a0,d,dx,o0,ob,a0,v,rfl,⟨bM,hc0,hd0.trans eo,hnc0⟩,by rw[aB (aR hdx hn0)];exact hdx,rv.ext xx,e3⟩
 exact ⟨ρ'.set n (some (xval x)),F',G',(eB.trans x').trans xx,EnvR.set rx n (he'.ext xx),rr,cP ss (D:={ nx:=λρ2 G2=>(EnD X.K H F D).nx (ρ2.set n none) G2,rt:=λ_ _=>False,bk:=λ_ _=>False,ct:=λ_ _=>False }) ⟨λρ2 G2 w H3 F3 σ3 x3 he3 r3=>w H3 F3 _ (x'.trans (xx.trans x3)) (EnvR.unset n he3) r3,λ_ _ w=>w.elim,λ_ _ w=>w.elim,λ_ _ w=>w.elim⟩ z4⟩
theorem Vn{st:List Stmt}(h:aD c .nil st=true):PSs X st (tS X.K B (au Z .nil E)):=by
 unfold aD at h;cases st with
 |nil=>exact Ec Kc λD W H hq=>el hq λY F G e0 he r hw=>by rw[jW]at hw;exact hw _ _ _ (Ext.refl _ _) he r
 |cons _ _=>cases h
theorem Vo{x:Sx}{xs:Sxs}(ih:OkS Z c E B X x)(ihs:ju Z c E B X xs){st:List Stmt}(h:aD c (.cons x xs) st=true):PSs X st (tS X.K B (au Z (.cons x xs) E)):=by
 unfold aD at h;split at h
 ·rw[ae]at h;refine Ec (yf (ih h.1) (ihs h.2)) λD W H hq=>el hq λY F G e0 he r hw=>?_;rw[jX]at hw;refine ⟨Y,F,G,e0,he,r,wpS_mono x (D:={ EnD X.K H F D with nx:=λρ' G'=>au Z xs E ρ' G' (EnD X.K H F D) }) ⟨λρ1 G1 q H1 F1 σ1 x1 he1 r1=>?_,λ_ _ z=>z,λ_ _ z=>z,λ_ _ z=>z⟩ hw⟩;exact ⟨ρ1,F1,G1,e0.trans x1,he1,r1,cP xs (EnD.later x1) q⟩
 ·cases h
end
mutual
theorem Vp{Z:ak}{CX:CXT}{k:Nat}{B:Bs}{c:CT}{E:EK}{X:Cx}(S:Stat Z CX k c E B X):∀(x:Sx),OkS Z c E B X x
 |.exp e=>λh=>Va S h
 |.star i j e=>λh=>Vd S h
 |.asg (.nm i) e=>λh=>Vb S h
 |.asg (.tp ts) e=>λh=>Vc S h
 |.set o i e=>λh=>Ve S h
 |.ret e=>λh=>Vf S h
 |.rtn=>λh=>Vg h
 |.ite t a b=>λh=>Vh S (gD S a) (gD S b) h
 |.for_ t it b=>λh=>Vi S (gD S b) h
 |.pas=>by
  intro h;obtain ⟨_,rfl,_⟩:=Tt h;exact psI Kf λD W H hq=>el hq λY F G e0 he r hw=>by rw[uR]at hw;exact hw _ _ _ (Ext.refl _ _) he r
 |.brk=>by
  intro h;obtain ⟨_,rfl,_⟩:=Tu h;exact psI Kg λD W H hq=>el hq λY F G e0 he r hw=>by rw[uT]at hw;exact hw _ _ _ (Ext.refl _ _) he r
 |.cnt=>by
  intro h;obtain ⟨_,rfl,_⟩:=Tv h;exact psI Kh λD W H hq=>el hq λY F G e0 he r hw=>by rw[uU]at hw;exact hw _ _ _ (Ext.refl _ _) he r
 |.rsi C e=>λh=>Vj S h
 |.tryh b C n ss xs=>by intro hh;exact Vm S (λS'=>gD S' ss) hh
 |.tryx b C h xs=>by intro hh;exact Vl S hh
 |.nev=>by
  intro h;exact psI Kv λD W H hq=>el hq λY F G e0 he r hw=>by rw[uZ]at hw;exact hw.elim
theorem gD{Z:ak}{CX:CXT}{k:Nat}{B:Bs}{c:CT}{E:EK}{X:Cx}(S:Stat Z CX k c E B X):∀(x:Sxs),ju Z c E B X x
 |.nil=>λh=>Vn h
 |.cons s r=>λh=>Vo (Vp S s) (gD S r) h
end
end RF
namespace L2
open PySem PySem.Spec PyProof.Rows
theorem Fun.okX{P:Program}{w:World}{K:PF}{mg:Str->Option Value}{base:Heap}{CX:CXT}{x qual:Str}{st:Stmt}{f:Addr}{fd:FuncData}{N ps:List Str}{k:Nat}{sp:Sp}(F:Fun K x qual st f fd)(S:FnScope N ps (aq st))(len:∀vs H Q E,sp vs H Q E->vs.length=ps.length)
  (hbody:∀(cdv:Value)(A:Around)(outer:List Env)(s:Shared)(H:Hp)(vs:List V)(Q:VK)(E:XK),Room k (A.deeper (envOfC qual (aq st) (~~~s) f cdv))->sp vs H Q E->
   ∃t,PSs (cU CX P w K mg base N qual (aq st) f cdv A outer s H E) (aJ st) t/\t { nx:=λ_ H'=>Q .non H',rt:=Q } (start N vs) H):FnOk P w K mg base CX (k+1) f fd ps sp:=by
 obtain ⟨oc,od,kV,doc,pm,an,cdv,ct,osl,rfl,lk,hcd⟩:=F.ex;exact Ms lk hcd S len λA outer s H vs Q E hr hsp=>hbody cdv A outer s H vs Q E hr hsp
end L2
namespace RF
open PySem PySem.Spec PyProof.Rows L2
def fnB(N ps:List Str)(sc:Scope):Bool:=
 decide (sc.kind=.function)&&!sc.isCoroutine&&!sc.isGenerator&&eN N&&(N.take ps.length==ps)&&ps.all (λx=>sc.names.lookup x==some .local||sc.names.lookup x==some .cell)&&sc.names.all (λy=>y.2 != .free)
theorem jw{N ps:List Str}{sc:Scope}(h:fnB N ps sc=true):FnScope N ps sc:=by unfold fnB at h;simp only[ae,ck,cw,ai,a7,bX,bne_iff_ne]at h;obtain ⟨⟨⟨⟨⟨⟨h1,h2⟩,h3⟩,h4⟩,h5⟩,h6⟩,h7⟩:=h;exact ⟨h1,h2,h3,vQ h4,h5,h6,λy hy=>h7 y hy⟩
structure Bse(Z:ak)(P:Program)(w:World)(K:PF)(mg:Str->Option Value)(base:Heap)(CX:CXT)(k:Nat)(fs:List (String×Nat))(bt:List String)(cn:List (String×D))(xs:List (String×Bool))(ot:OT):Prop where
 call:∀f n,(f,n)∈fs->∃fa fd ps,FnOk P w K mg base CX k fa fd ps (lift K n (Z f))/\PySem.W.keepIn K (.ref fa)=true/\Binds K fd ps []/\mg (Str.ofString f)=some (.ref fa)
 blt:∀f,f∈bt->mg (Str.ofString f)=none
 con:∀x d,(x,d)∈cn->∃u v,mg (Str.ofString x)=some u/\RelV v u/\∀H F,Rep K H F d v
 xcl:∀C,xs.contains (C,true)=true->∃a,mg (Str.ofString C)=some (.ref a)/\oE K a=true/\PySem.W.nsIn K mainGlobals (Str.ofString C)=some (some (.ref a))
 xis:∀C',xs.contains (C',false)=true->∃cv,CV K mg C' cv/\∀C,xs.contains (C,true)=true->XI K C C' cv
 mth:∀f C m n,(f,C,m,n)∈ot.ms->MthOk Z P w K mg base CX k f C m n
 mko:∀C n,(C,n)∈ot.ks->MkoOk Z P w K mg base CX k C n
 fld:∀C f,(C,f)∈ot.fl->Do K C f
 xko:∀C f,(C,f)∈ot.xk->XkoX P w K mg base CX k xs C f
 lv:2<=k
 qok:∀f n,(f,n)∈ot.qs->∃fa fd ps,FnOk P w K mg base CX 1 fa fd ps (lift K n (Z f))/\PySem.W.keepIn K (.ref fa)=true/\Binds K fd ps []/\mg (Str.ofString f)=some (.ref fa)
def aL(N:List Str)(sc:Scope)(fs:List (String×Nat))(bt:List String)(cn:List (String×D))(xs:List (String×Bool))(ot:OT):CT:={ N:=N,kd:=sc.names,fn:=true,fs:=fs,bt:=bt,cn:=cn,xs:=xs,ot:=ot }
section
variable {Z:ak} {P:Program} {w:World} {K:PF} {mg:Str->Option Value} {base:Heap} {k:Nat} {fs:List (String×Nat)} {bt:List String} {cn:List (String×D)} {xs:List (String×Bool)} {ot:OT}
theorem Ef{N ps:List Str}{sc:Scope}{qual:Str}{f:Addr}{cdv:Value}{A:Around}{outer:List Env}{s:Shared}{H:Hp}{EX:XK}{B:Bs}(T:Bse Z P w K mg base (CX1 P w) k fs bt cn xs ot)(hs:fnB N ps sc=true)
  (hr:Room k (A.deeper (envOfC qual sc (~~~s) f cdv))):Stat Z (CX1 P w) k (aL N sc fs bt cn xs ot) noE B (cU (CX1 P w) P w K mg base N qual sc f cdv A outer s H EX).nox where
 N:=rfl
 nd:=(jw hs).nd
 calm:=λ_=>b9.mpr (hr.hd T.lv)
 own:=λ_=>PassesOwn.never
 kd:=rfl
 vis:=λx h=>by
  have h:fM (sc.names.lookup x)=true:=h;show sc.names.lookup x=_\/sc.names.lookup x=_\/sc.names.lookup x=_;unfold fM at h;split at h <;> first | (cases h;done) |simp_all
 cel:=λx h=>h
 glo:=λx h=>h
 sto:=λx h=>by
  have h:(sc.names.lookup x==some .local||(true&&sc.names.lookup x==some .cell))=true:=h;rw[Bool.true_and,bX,ai,ai]at h;exact ⟨h,.inl rfl⟩
 room:=hr
 call:=T.call
 blt:=T.blt
 con:=T.con
 exc:=⟨_,oh _,λ_ _ _ _ _ _ _ _ _ _ _ _ _ q=>q.elim,λ_ _ _ _ h=>h.elim⟩
 nox:=λY=>oh Y
 xcl:=T.xcl
 loc:=λx h=>h
 xis:=T.xis
 mth:=T.mth
 mko:=T.mko
 fld:=T.fld
 xko:=λC f h=>⟨k,λ_=>am _,T.xko C f h⟩
 trc:=λ_=>⟨rfl,rfl,rfl⟩
 lv:=λ_=>T.lv
 qok:=T.qok
 cb:=λ_ _ _=>b9.mpr (hr.hd T.lv)
theorem Eg{N ps:List Str}{sc:Scope}{qual:Str}{f:Addr}{cdv:Value}{A:Around}{outer:List Env}{s:Shared}{H:Hp}{EX:XK}{B:Bs}{E:EK}(T:Bse Z P w K mg base (CX1 P w) k fs bt cn xs ot)(hs:fnB N ps sc=true)
  (hr:Room k (A.deeper (envOfC qual sc (~~~s) f cdv))) (hE:∀x G' H' F',E x G'->Ext B.H B.F H' F'->R K H' F' G'->XR K H' F' x EX):Stat Z (CX1 P w) k (aL N sc fs bt cn xs ot) E B (cU (CX1 P w) P w K mg base N qual sc f cdv A outer s H EX):=
 have S:=Ef (EX:=EX) (B:=B) (qual:=qual) (f:=f) (cdv:=cdv) (A:=A) (outer:=outer) (s:=s) (H:=H) T hs hr
 ⟨S.N,S.nd,S.calm,λ_=>PassesOwn.leaving,S.kd,S.vis,S.cel,S.glo,S.sto,S.room,S.call,S.blt,S.con,⟨EX,Oz rfl rfl λ_ _ h=>h,O1 rfl rfl λ_ _ h=>h,hE⟩,S.nox,S.xcl,S.loc,S.xis,S.mth,S.mko,S.fld,S.xko,λ_=>⟨rfl,rfl,rfl⟩,S.lv,S.qok,S.cb⟩
def ctQ(N:List Str)(sc:Scope)(bt:List String)(cn:List (String×D))(xs:List (String×Bool))(xk:List (String×String)):CT:={ N:=N,kd:=sc.names,fn:=true,fs:=[],bt:=bt,cn:=cn,xs:=xs,ot:={ xk:=xk },cm:=false }
theorem Vq{N ps:List Str}{sc:Scope}{qual:Str}{f:Addr}{cdv:Value}{A:Around}{outer:List Env}{s:Shared}{H:Hp}{EX:XK}{B:Bs}{bq:List String}(T:Bse Z P w K mg base (CX1 P w) k fs bt cn xs ot)(hs:fnB N ps sc=true)(hq:(bq.all λf=>bt.contains f&&!j7 f)=true)
  (hr:Room 0 (A.deeper (envOfC qual sc (~~~s) f cdv))):Stat Z (CX1 P w) 0 (ctQ N sc bq cn xs ot.xk) noE B (cU (CX1 P w) P w K mg base N qual sc f cdv A outer s H EX).nox where
 N:=rfl
 nd:=(jw hs).nd
 calm:=λh=>nomatch h
 own:=λ_=>PassesOwn.never
 kd:=rfl
 vis:=λx h=>by
  have h:fM (sc.names.lookup x)=true:=h;show sc.names.lookup x=_\/sc.names.lookup x=_\/sc.names.lookup x=_;unfold fM at h;split at h <;> first | (cases h;done) |simp_all
 cel:=λx h=>h
 glo:=λx h=>h
 sto:=λx h=>by
  have h:(sc.names.lookup x==some .local||(true&&sc.names.lookup x==some .cell))=true:=h;rw[Bool.true_and,bX,ai,ai]at h;exact ⟨h,.inl rfl⟩
 room:=hr
 call:=λ_ _ h=>nomatch h
 blt:=λf h=>by
  have:=a7.mp hq f h;rw[ae]at this;exact T.blt f (al.mp this.1)
 con:=T.con
 exc:=⟨_,oh _,λ_ _ _ _ _ _ _ _ _ _ _ _ _ q=>q.elim,λ_ _ _ _ h=>h.elim⟩
 nox:=λY=>oh Y
 xcl:=T.xcl
 loc:=λx h=>h
 xis:=T.xis
 mth:=λ_ _ _ _ h=>nomatch h
 mko:=λ_ _ h=>nomatch h
 fld:=λ_ _ h=>nomatch h
 xko:=λC f h=>⟨k,λz=>(nomatch z),T.xko C f h⟩
 trc:=λ_=>⟨rfl,rfl,rfl⟩
 lv:=λh=>nomatch h
 qok:=λ_ _ h=>nomatch h
 cb:=λf h l=>by
  have:=a7.mp hq f h;rw[ae,l]at this;exact nomatch this.2
theorem Vr{outer:List Env}{H:Hp}{s s':Shared}{e:Value}(h:CX1 P w outer H s (λ_ _ _=>False) e s'):False:=by obtain ⟨_,_,_,_,_,_,_,_,_,_,q⟩:=h;exact q
def ends(Q:D->DH->Prop):En:={ nx:=λ_ G=>Q .non G,rt:=Q,bk:=λ_ _=>False,ct:=λ_ _=>False }
def env0(ds:List D)(n:Nat):aj:=ds.map some++List.replicate n none
theorem Vs{x qual:Str}{st:Stmt}{f:Addr}{fd:FuncData}(Fu:Fun K x qual st f fd)(T:Bse Z P w K mg base (CX1 P w) k fs bt cn xs ot){N ps:List Str}{body:Sxs}(S:RF.Spec)(n m:Nat)(hs:fnB N ps (aq st)=true)
  (hc:aD (aL N (aq st) fs bt cn xs ot) body (aJ st)=true) (hn:ps.length=n) (hm:N.length=n+m)
  (hw:∀ds G a,ds.length=n->S.pre ds G a->au Z body (S.exc a) (env0 ds m) G (ends (S.post a))):FnOk P w K mg base (CX1 P w) (k+1) f fd ps (lift K n S):=by
 refine Fu.okX (jw hs) (λvs H Q E h=>by rw[hn];exact h.1) λcdv A outer s H vs Q EX hr hsp=>?_;obtain ⟨hl,F,G,ds,r,rs,a,h1,h2,h3⟩:=hsp;have St:Stat Z (CX1 P w) k (aL N (aq st) fs bt cn xs ot) (S.exc a) ⟨H,F⟩ (cU (CX1 P w) P w K mg base N qual (aq st) f cdv A outer s H EX):=Eg T hs hr λx G' H' F' hx e r'=>h3 x G' hx H' F' e r';refine ⟨_,gD St body hc,?_⟩;refine ⟨env0 ds m,F,G,Ext.refl _ _,?_,r,cP body (D:=ends (S.post a)) ⟨λY G' q=>?_,λd G' q=>h2 d G' q,λ_ _ q=>False.elim q,λ_ _ q=>False.elim q⟩ (hw ds G a (by rw[rs.length];exact hl) h1)⟩
 ·unfold L2.start;rw[show N.length - vs.length=m by omega];exact EnvR.start m rs
 ·intro H' F' σ' x1 _ r1;exact h2 .non G' q H' F' .non x1 r1 rfl
theorem Vt{x qual:Str}{st:Stmt}{f:Addr}{fd:FuncData}{bq:List String}(Fu:Fun K x qual st f fd)(T:Bse Z P w K mg base (CX1 P w) k fs bt cn xs ot){N ps:List Str}{body:Sxs}(S:RF.Spec)(n m:Nat)(hs:fnB N ps (aq st)=true)(hq:(bq.all λf=>bt.contains f&&!j7 f)=true)
  (hc:aD (ctQ N (aq st) bq cn xs ot.xk) body (aJ st)=true) (hn:ps.length=n) (hm:N.length=n+m)
  (hw:∀ds G a,ds.length=n->S.pre ds G a->au Z body noE (env0 ds m) G (ends (S.post a))):FnOk P w K mg base (CX1 P w) 1 f fd ps (lift K n S):=by
 refine Fu.okX (jw hs) (λvs H Q E h=>by rw[hn];exact h.1) λcdv A outer s H vs Q EX hr hsp=>?_;obtain ⟨hl,F,G,ds,r,rs,a,h1,h2,h3⟩:=hsp;have St:Stat Z (CX1 P w) 0 (ctQ N (aq st) bq cn xs ot.xk) noE ⟨H,F⟩ (cU (CX1 P w) P w K mg base N qual (aq st) f cdv A outer s H EX).nox:=Vq T hs hq hr;refine ⟨_,(gD St body hc).nox,?_⟩;refine ⟨env0 ds m,F,G,Ext.refl _ _,?_,r,cP body (D:=ends (S.post a)) ⟨λY G' q=>?_,λd G' q=>h2 d G' q,λ_ _ q=>False.elim q,λ_ _ q=>False.elim q⟩ (hw ds G a (by rw[rs.length];exact hl) h1)⟩
 ·unfold L2.start;rw[show N.length - vs.length=m by omega];exact EnvR.start m rs
 ·intro H' F' σ' x1 _ r1;exact h2 .non G' q H' F' .non x1 r1 rfl
theorem vW{x qual:Str}{st:Stmt}{f:Addr}{fd:FuncData}(Fu:Fun K x qual st f fd)(T:Bse Z P w K mg base (CX1 P w) k fs bt cn xs ot){N ps:List Str}{body:Sxs}(S:RF.Spec)(n m:Nat)(hs:fnB N ps (aq st)=true)
  (hc:aD (aL N (aq st) fs bt cn xs ot) body (aJ st)=true) (hn:ps.length=n) (hm:N.length=n+m)
  (hw:∀ds G a,ds.length=n->S.pre ds G a->au Z body noE (env0 ds m) G (ends (S.post a))):FnOk P w K mg base (CX1 P w) (k+1) f fd ps (lift K n S):=by
 refine Fu.okX (jw hs) (λvs H Q E h=>by rw[hn];exact h.1) λcdv A outer s H vs Q EX hr hsp=>?_;obtain ⟨hl,F,G,ds,r,rs,a,h1,h2,h3⟩:=hsp;have St:Stat Z (CX1 P w) k (aL N (aq st) fs bt cn xs ot) noE ⟨H,F⟩ (cU (CX1 P w) P w K mg base N qual (aq st) f cdv A outer s H EX).nox:=Ef T hs hr;refine ⟨_,(gD St body hc).nox,?_⟩;refine ⟨env0 ds m,F,G,Ext.refl _ _,?_,r,cP body (D:=ends (S.post a)) ⟨λY G' q=>?_,λd G' q=>h2 d G' q,λ_ _ q=>False.elim q,λ_ _ q=>False.elim q⟩ (hw ds G a (by rw[rs.length];exact hl) h1)⟩
 ·unfold L2.start;rw[show N.length - vs.length=m by omega];exact EnvR.start m rs
 ·intro H' F' σ' x1 _ r1;exact h2 .non G' q H' F' .non x1 r1 rfl
end
def bG(pre:List D->DH->Prop)(post:List D->DH->D->DH->Prop):RF.Spec where
 A:=List D×DH
 pre:=λds G a=>a=(ds,G)/\pre ds G
 post:=λa d G'=>post a.1 a.2 d G'
 exc:=λ_ _ _=>False
theorem b7{pre:List D->DH->Prop}{post:List D->DH->D->DH->Prop}{ds:List D}{G:DH}{k:D->DH->Prop}{E:EK}(h:pre ds G)(hk:∀d G',post ds G d G'->k d G'):(bG pre post).t ds G k E:=
 ⟨(ds,G),⟨rfl,h⟩,hk,λ_ _ z=>z.elim⟩
theorem cC{Z:ak}{body:Sxs}{m n:Nat}{pre:List D->DH->Prop}{post:List D->DH->D->DH->Prop}(h:∀ds G,pre ds G->au Z body noE (env0 ds m) G (ends (post ds G))):
  ∀ds G a,ds.length=n->(bG pre post).pre ds G a->au Z body noE (env0 ds m) G (ends ((bG pre post).post a)):=by
 rintro ds G a _ ⟨rfl,h1⟩;exact h ds G h1
def bJ(f:List D->Option D):RF.Spec:=bG (λds _=>(f ds).isSome=true) (λds G d G'=>G'=G/\f ds=some d)
theorem jx{f:List D->Option D}{ds:List D}{d:D}{G:DH}{k:D->DH->Prop}{E:EK}(h:f ds=some d)(hk:k d G):(bJ f).t ds G k E:=
 b7 (by rw[h];rfl) λd' G' ⟨e1,e2⟩=>by rw[h]at e2;cases e2;rw[e1];exact hk
theorem jy{Z:ak}{body:Sxs}{m n:Nat}{f:List D->Option D}(h:∀ds G d,f ds=some d->au Z body noE (env0 ds m) G (ends λd' G'=>G'=G/\d'=d)):
  ∀ds G a,ds.length=n->(bJ f).pre ds G a->au Z body noE (env0 ds m) G (ends ((bJ f).post a)):=by
 refine cC λds G hf=>?_;obtain ⟨d,e⟩:=cp.mp hf;refine cP body (D:=ends λd' G'=>G'=G/\d'=d) ⟨λY G' q=>?_,λd' G' q=>?_,λ_ _ q=>q,λ_ _ q=>q⟩ (h ds G d e)
 ·exact ⟨q.1,by rw[e];exact ez some q.2.symm⟩
 ·exact ⟨q.1,by rw[e];exact ez some q.2.symm⟩
theorem Vu{step:D->aj->DH->(aj->DH->Prop)->Prop}{g:Hld}{items:List D}{Y:aj}{G:DH}{k:aj->DH->Prop}(P:Nat->aj->DH->Prop)(h0:P 0 Y G)(hh:∀i Y G,P i Y G->held g G)
  (hs:∀i d Y G,items[i]?=some d->P i Y G->∀kk:aj->DH->Prop,(∀ρ' G',P (i+1) ρ' G'->kk ρ' G')->step d Y G kk) (he:∀Y G,P items.length Y G->k Y G):forLoop step g items Y G k:=by
 have go:∀(l:List D)(i:Nat)(Y:aj)(G:DH),items.drop i=l->i<=items.length->P i Y G->forLoop step g l Y G k:=by
  intro l;induction l with
  |nil=>
   intro i Y G e hi p;have:i=items.length:=by have:=ez List.length e;rw[fh]at this;simp at this;omega
   subst this;exact ⟨hh _ _ _ p,he _ _ p⟩
  |cons d l ih=>
   intro i Y G e hi p;have hl:i < items.length:=by
    by_cases h:i < items.length
    ·exact h
    ·rw[dv (by omega)]at e;cases e
   rw[ca hl]at e;injection e with e1 e2;refine ⟨hh _ _ _ p,hs i d Y G (by rw[bo hl,e1]) p _ λρ' G' p'=>ih (i+1) ρ' G' e2 hl p'⟩
 exact go _ 0 Y G (by simp) (Nat.zero_le _) h0
theorem Eh{step:D->aj->DH->(Option D->aj->DH->Prop)->Prop}{g:Hld}{items acc:List D}{Y:aj}{G:DH}{k:List D->DH->Prop}(P:Nat->List D->aj->DH->Prop)(h0:P 0 acc Y G)(hh:∀i acc Y G,P i acc Y G->held g G)
  (hl:acc.length+items.length<=sz)
  (hs:∀i d acc Y G,items[i]?=some d->P i acc Y G->∀kk:Option D->aj->DH->Prop,(∀o ρ' G',P (i+1) (acc++o.toList) ρ' G'->kk o ρ' G')->step d Y G kk) (he:∀acc Y G,P items.length acc Y G->k acc G):compLoop step g items acc Y G k:=by
 have go:∀(l:List D)(i:Nat)(acc:List D)(Y:aj)(G:DH),items.drop i=l->i<=items.length->acc.length+l.length<=sz->P i acc Y G->compLoop step g l acc Y G k:=by
  intro l;induction l with
  |nil=>
   intro i acc Y G e hi ha p;have:i=items.length:=by have:=ez List.length e;rw[fh]at this;simp at this;omega
   subst this;exact ⟨hh _ _ _ _ p,by simpa using ha,he _ _ _ p⟩
  |cons d l ih=>
   intro i acc Y G e hi ha p;have hl:i < items.length:=by
    by_cases h:i < items.length
    ·exact h
    ·rw[dv (by omega)]at e;cases e
   rw[ca hl]at e;injection e with e1 e2;have ha':acc.length+(l.length+1)<=sz:=ha;refine ⟨hh _ _ _ _ p,by omega,hs i d acc Y G (by rw[bo hl,e1]) p _ λo ρ' G' p'=>?_⟩;cases o with
   |some y=>exact ih (i+1) (acc++[y]) ρ' G' e2 hl (by rw[aw];simp;omega) p'
   |none=>exact ih (i+1) acc ρ' G' e2 hl (by omega) (by simpa using p')
 exact go _ 0 acc Y G (by simp) (Nat.zero_le _) hl h0
theorem Ei{step:D->aj->DH->(Option D->aj->DH->Prop)->Prop}{items:List D}{Y:aj}{G:DH}{k:List D->DH->Prop}(g:Hld)(f:D->Option D)(I:aj->Prop)(h0:I Y)(hg:held g G)(hl:items.length<=sz)
  (hs:∀d Y,d∈items->I Y->∀kk:Option D->aj->DH->Prop,(∀ρ',I ρ'->kk (f d) ρ' G)->step d Y G kk) (he:k (items.filterMap f) G):compLoop step g items [] Y G k:=by
 refine Eh (λi acc ρ' G'=>I ρ'/\G'=G/\acc=(items.take i).filterMap f) ⟨h0,rfl,rfl⟩ (λi acc ρ' G' p=>by rw[p.2.1];exact hg) (by simpa using hl) ?_ ?_
 ·rintro i d acc ρ' G' hd ⟨p1,rfl,rfl⟩ kk hk;refine hs d ρ' (c8 hd) p1 kk λρ2 i2=>hk _ _ _ ⟨i2,rfl,?_⟩;rw[List.take_add_one,hd,List.filterMap_append];congr 1
 ·rintro acc ρ' G' ⟨_,rfl,rfl⟩;rw[List.take_length];exact he
theorem Vv{step:D->aj->DH->(Option D->aj->DH->Prop)->Prop}{items:List D}{Y:aj}{G:DH}{k:List D->DH->Prop}(g:Hld)(f:D->D)(I:aj->Prop)(h0:I Y)(hg:held g G)(hl:items.length<=sz)
  (hs:∀d Y,d∈items->I Y->∀kk:Option D->aj->DH->Prop,(∀ρ',I ρ'->kk (some (f d)) ρ' G)->step d Y G kk) (he:k (items.map f) G):compLoop step g items [] Y G k:=
 Ei g (λd=>some (f d)) I h0 hg hl hs (by rw[<-List.filterMap_eq_map]at he;exact he)
theorem vX{α:Type}(f:α->Bool):∀l:List α,bools (l.map λx=>D.bl (f x))=some (l.map f)
 |[]=>rfl
 |x::l=>by simp[bools,vX f l]
theorem strs_map{α:Type}(f:α->List Nat):∀l:List α,bf (l.map λx=>D.str (f x))=some (l.map f)
 |[]=>rfl
 |x::l=>by simp[bf,strs_map f l]
theorem vY:∀l:List (List Nat),cZ [] l=l.flatten
 |[]=>rfl
 |[x]=>by simp[cZ]
 |x::y::r=>by simp[cZ,vY (y::r)]
def Sa(G G':DH):Prop:=∀b o,G b=some o->G' b=some o
def Sb(p:Addr)(G G':DH):Prop:=∀b o,G b=some o->b≠p->G' b=some o
theorem Sa.refl(G:DH):Sa G G:=λ_ _ h=>h
theorem Sb.refl(p:Addr)(G:DH):Sb p G G:=λ_ _ h _=>h
theorem Sa.trans{G G1 G2:DH}(a:Sa G G1)(b:Sa G1 G2):Sa G G2:=λc o h=>b c o (a c o h)
theorem Sb.trans{p:Addr}{G G1 G2:DH}(a:Sb p G G1)(b:Sb p G1 G2):Sb p G G2:=λc o h n=>b c o (a c o h n) n
theorem Sa.sb{p:Addr}{G G':DH}(a:Sa G G'):Sb p G G':=λc o h _=>a c o h
theorem Sa.new{G:DH}{p:Addr}{o:DO}(h:G p=none):Sa G (aQ G p o):=λb u e=>by rw[cN (oO e h)];exact e
theorem Sb.upd{G:DH}{p:Addr}{o:DO}:Sb p G (aQ G p o):=λb u e n=>by rw[cN n];exact e
theorem Sa.then{p:Addr}{G G1 G2:DH}(a:Sa G G1)(hp:G p=none)(b:Sb p G1 G2):Sa G G2:=λc o h=>b c o (a c o h) (oO h hp)
theorem Sa.frz{G G1:DH}{p:Addr}(a:Sa G G1)(hp:G p=none):Sa G (gk G1 p):=λc o h=>by rw[sY (oO h hp)];exact a c o h
theorem Vw{α:Type}{a:α}{l:List α}:atI (a::l) 0=some a:=dM (j:=0) rfl
theorem Vx{α:Type}{a b:α}{l:List α}:atI (a::b::l) 1=some b:=dM (j:=1) rfl
theorem Vy{α:Type}{a b c:α}{l:List α}:atI (a::b::c::l) 2=some c:=dM (j:=2) rfl
theorem Vz{α:Type}{a b c d:α}{l:List α}:atI (a::b::c::d::l) 3=some d:=dM (j:=3) rfl
theorem VB{n j:Nat}(h:j < n):ixN n (j:Int)=some j:=by unfold ixN;rw[if_pos (by omega),if_pos (by omega)];simp
theorem VD{n:Nat}:ixN (n+1) 0=some 0:=by unfold ixN;rw[if_pos (by omega),if_pos (by omega)];rfl
theorem VF{n:Nat}:ixN (n+2) 1=some 1:=by unfold ixN;rw[if_pos (by omega),if_pos (by omega)];rfl
theorem VG{n:Nat}:ixN (n+3) 2=some 2:=by unfold ixN;rw[if_pos (by omega),if_pos (by omega)];rfl
theorem VH{α:Type}{xs:List α}{i:Int}(h0:0<=i)(h1:i < xs.length):∃a,atI xs i=some a/\a∈xs:=by
 obtain ⟨n,rfl⟩:=cK h0;have hn:n < xs.length:=by omega
 exact ⟨xs[n],dM (by simp[hn]),fF _⟩
theorem qC{α:Type}(xs:List α)(lo hi:Option Int):(cut xs lo hi).length<=xs.length:=by unfold cut;rw[List.length_take,fh];omega
theorem VJ{l:List D}:bO l []=l.isEmpty:=by cases l <;> rfl
theorem VL{α:Type}(l:List α)(n:Nat):cut l none (some (n:Int))=l.take n:=by
 unfold cut;rw[show HT.sIx l.length 0 none=0 from rfl,HT.yJ,fe,Nat.sub_zero];by_cases h:n<=l.length
 ·rw[Nat.min_eq_left h]
 ·rw[Nat.min_eq_right (by omega),fy (am _),fy (by omega)]
theorem vZ{α:Type}(l:List α)(n:Nat):cut l (some (n:Int)) none=l.drop n:=by
 unfold cut;rw[show HT.sIx l.length l.length none=l.length from rfl,HT.yJ];by_cases h:n<=l.length
 ·rw[Nat.min_eq_left h,fy (by rw[fh];exact am _)]
 ·rw[Nat.min_eq_right (by omega),Nat.sub_self,List.take_zero,dv (by omega)]
theorem VM{α:Type}(l:List α)(n:Nat):cut l (some ((n:Int)+1)) none=l.drop (n+1):=vZ l (n+1)
theorem lu:∀{l:List D},(∀d∈l,nr d=true)->nrs l=true
 |[],_=>rfl
 |a::l,h=>by rw[nrs,h a bS,lu λd hd=>h d (a9 _ hd)];rfl
theorem Ej{n:Nat}:∀{l:List D},(∀d∈l,dpt d<=n)->aO l<=n
 |[],_=>Nat.zero_le _
 |a::l,h=>by rw[aO];exact Nat.max_le.mpr ⟨h a bS,Ej λd hd=>h d (a9 _ hd)⟩
section
variable {G:DH} {k:D->DH->Prop} {fz:Bool} {kb:Bool->Prop} {kd:D->Prop} {p:Addr}
theorem VN{i j:Int}:cF .Add fz (.int i) (.int j) G k=k (.int (i+j)) G:=rfl
theorem VP{x y:List Nat}:cF .Add fz (.str x) (.str y) G k=(x.length+y.length<=sz/\k (.str (x++y)) G):=rfl
theorem VR{x y:List D}:cF .Add fz (.lst x) (.lst y) G k=(x.length+y.length<=sz/\mk fz (x++y) G k):=rfl
theorem VV{x y:List D}:cF .Add fz (.tup x) (.tup y) G k=(x.length+y.length<=sz/\k (.tup (x++y)) G):=rfl
theorem V0{i j:Int}:cF .Sub fz (.int i) (.int j) G k=k (.int (i - j)) G:=rfl
theorem V1{i j:Int}:cF .Mult fz (.int i) (.int j) G k=(CMul i j/\k (.int (i * j)) G):=rfl
theorem V2{x:List Nat}{n:Int}:cF .Mult fz (.str x) (.int n) G k=(0<=n/\n<=1000/\x.length * n.toNat<=sz/\k (.str (reps x n.toNat)) G):=rfl
theorem V3{i j:Int}:cF .FloorDiv fz (.int i) (.int j) G k=((0 < j/\j < 1152921504606846976)/\k (.int (i / j)) G):=rfl
theorem V4{i j:Int}:cF .Mod fz (.int i) (.int j) G k=(0 < j/\k (.int (i % j)) G):=rfl
theorem V5{i j:Int}:cF .Pow fz (.int i) (.int j) G k=(nU i j/\k (.int (i ^ j.toNat)) G):=rfl
def fQ:D->Bool
 |.non=>true
 |_=>false
theorem V6{a b:D}:aU .Eq a b kb=((nr a=true/\nr b=true/\min (dpt a) (dpt b)<=60)/\kb (deq a b)):=rfl
theorem V7{a b:D}:aU .NotEq a b kb=((nr a=true/\nr b=true/\min (dpt a) (dpt b)<=60)/\kb (!deq a b)):=rfl
theorem V8{i j:Int}:aU .Lt (.int i) (.int j) kb=kb (decide (i < j)):=rfl
theorem V9{i j:Int}:aU .LtE (.int i) (.int j) kb=kb (decide (i<=j)):=rfl
theorem Wa{i j:Int}:aU .Gt (.int i) (.int j) kb=kb (decide (j < i)):=rfl
theorem Wb{i j:Int}:aU .GtE (.int i) (.int j) kb=kb (decide (j<=i)):=rfl
theorem Wc{i j:List Nat}:aU .Lt (.str i) (.str j) kb=kb (decide (i < j)):=rfl
theorem Wd{i j:List Nat}:aU .LtE (.str i) (.str j) kb=kb (!decide (j < i)):=rfl
theorem We{a:D}:aU .Is a .non kb=kb (fQ a):=by cases a <;> rfl
theorem Wf{a:D}:aU .IsNot a .non kb=kb (!fQ a):=by cases a <;> rfl
theorem Wg{a b:Bool}:aU .Is (.bl a) (.bl b) kb=kb (a==b):=rfl
theorem Wh{a b:Bool}:aU .IsNot (.bl a) (.bl b) kb=kb (a != b):=rfl
theorem Wi{c:Nat}{l:List Nat}:aU .In (.str [c]) (.str l) kb=kb (l.contains c):=rfl
theorem Wj{c:Nat}{l:List Nat}:aU .NotIn (.str [c]) (.str l) kb=kb (!l.contains c):=rfl
theorem Wk{a:D}{l:List D}:aU .In a (.lst l) kb=((nr a=true/\nrs l=true/\aO l<=60)/\kb (isIn a l)):=rfl
theorem Wl{a:D}{l:List D}:aU .In a (.tup l) kb=((nr a=true/\nrs l=true/\aO l<=60)/\kb (isIn a l)):=rfl
theorem Wm{a:D}{l:List D}:aU .NotIn a (.lst l) kb=((nr a=true/\nrs l=true/\aO l<=60)/\kb (!isIn a l)):=rfl
theorem Wn{a:D}{l:List D}:aU .NotIn a (.tup l) kb=((nr a=true/\nrs l=true/\aO l<=60)/\kb (!isIn a l)):=rfl
theorem Wo{i:Int}:fQ (.int i)=false:=rfl
theorem Wq{i:Bool}:fQ (.bl i)=false:=rfl
theorem Wr{i:List Nat}:fQ (.str i)=false:=rfl
theorem Ws{i:List D}:fQ (.tup i)=false:=rfl
theorem Wt{i:List D}:fQ (.lst i)=false:=rfl
theorem Wu{i:Addr}:fQ (.ref i)=false:=rfl
theorem Wv:fQ .non=true:=rfl
def aP{α:Type}(o:Option α)(k:α->Prop):Prop:=match o with |some a=>k a |none=>False
theorem Ww{α:Type}{a:α}{k:α->Prop}:aP (some a) k=k a:=rfl
theorem bx{α:Type}{o:Option α}{a:α}{k:α->Prop}(e:o=some a)(h:k a):aP o k:=by rw[e];exact h
theorem fU{α:Type}{xs:List α}{i:Int}{k:α->Prop}(h0:0<=i)(h1:i < xs.length)(h:∀a,a∈xs->k a):aP (atI xs i) k:=by obtain ⟨a,e,m⟩:=VH h0 h1;exact bx e (h a m)
theorem Wx{ds:List D}{i:Int}:cY (.lst ds) (.int i) kd=aP (atI ds i) kd:=by unfold cY aP;(try dsimp only) <;> (cases atI ds i <;> rfl)
theorem Wy{ds:List D}{i:Int}:cY (.tup ds) (.int i) kd=aP (atI ds i) kd:=by unfold cY aP;(try dsimp only) <;> (cases atI ds i <;> rfl)
theorem Wz{l:List Nat}{i:Int}:cY (.str l) (.int i) kd=aP (atI l i) (λc=>kd (.str [c])):=by unfold cY aP;(try dsimp only) <;> (cases atI l i <;> rfl)
theorem WD{ds:List D}{lo hi:Option Int}:dR fz (.lst ds) lo hi G k=mk fz (cut ds lo hi) G k:=rfl
theorem WF{ds:List D}{y:D}:gU fz (.lst ds) y G k=(y=.int (-1)/\mk fz ds.reverse G k):=rfl
theorem WK{ds:List Int}{lo hi:Option Int}:dR fz (.scr ds) lo hi G k=mk fz ((cut ds lo hi).map .int) G k:=rfl
theorem WL{ds:List D}{lo hi:Option Int}:dR fz (.tup ds) lo hi G k=k (.tup (cut ds lo hi)) G:=rfl
theorem WM{ds:List Nat}{lo hi:Option Int}:dR fz (.str ds) lo hi G k=k (.str (cut ds lo hi)) G:=rfl
theorem WN{ds:List D}:opB .len [.lst ds] kd=kd (.int ds.length):=rfl
theorem WP{ds:List D}:opB .len [.tup ds] kd=kd (.int ds.length):=rfl
theorem WQ{ds:List Nat}:opB .len [.str ds] kd=kd (.int ds.length):=rfl
theorem WR{ds:List D}:opB .all [.lst ds] kd=aP (bools ds) (λbs=>kd (.bl (bs.all id))):=by unfold opB oW aP;(try dsimp only) <;> (cases bools ds <;> rfl)
theorem WT{b:Bool}:opB .int [.bl b] kd=kd (.int (if b then 1 else 0)):=rfl
theorem WW{b:Int}:opB .int [.int b] kd=kd (.int b):=rfl
theorem WX{l:List Nat}:opB .int [.str l] kd=aP (PySem.intText? (tx l)) (λn=>l.length<=640/\kd (.int n)):=by unfold opB oX aP;(try dsimp only) <;> (cases PySem.intText? (tx l) <;> rfl)
theorem WY{ds:List D}:opB .sum [.lst ds] kd=aP (eH ds) (λns=>kd (.int ns.sum)):=by unfold opB tM aP;(try dsimp only) <;> (cases eH ds <;> rfl)
theorem W0{a:Int}:opB .str [.int a] kd=((0<=a/\a < 100)/\kd (.str (aM a.toNat))):=rfl
theorem W2{a:Int}:opB .abs [.int a] kd=kd (.int (if a < 0 then -a else a)):=rfl
theorem W3{a b:Int}:opB .min2 [.int a,.int b] kd=kd (.int (if b < a then b else a)):=rfl
theorem W4{a b:Int}:opB .max [.int a,.int b] kd=kd (.int (if b > a then b else a)):=rfl
theorem W5{ds:List D}{kl:List D->Prop}:cG .sorted [.tup ds] kl=aP (eH ds) (λns=>ns.length < 64/\∀ns':List Int,ns'.Perm ns->ns'.Pairwise (·<=·)->kl (ns'.map D.int)):=by unfold cG oY aP;(try dsimp only) <;> (cases eH ds <;> rfl)
theorem W6{ds:List D}{kl:List D->Prop}:jT (.lst ds) kl=aP (bf ds) (λls=>(ls.length<=1000/\(oZ ls).length<=64)/\∀ls':List (List Nat),ls'.Perm (oZ ls)->kl (ls'.map D.str)):=by unfold jT aP;(try dsimp only) <;> (cases bf ds <;> rfl)
theorem W7{ds:List D}{kl:List D->Prop}:cG .sorted [.lst ds] kl=aP (bf ds) (λls=>ls.length < 64/\∀ls':List (List Nat),ls'.Perm ls->PyProof.Rows.sortedS (ls'.map tx)=true->kl (ls'.map D.str)):=by unfold cG oY aP;(try dsimp only) <;> (cases bf ds <;> rfl)
theorem W8{ds:List D}:opB .tuple [.lst ds] kd=kd (.tup ds):=rfl
theorem W9{ds:List D}:opB .tuple [.tup ds] kd=kd (.tup ds):=rfl
theorem Xa{ds:List D}{kl:List D->Prop}:cG .list [.lst ds] kl=kl ds:=rfl
theorem Xb{ds:List D}{kl:List D->Prop}:cG .list [.tup ds] kl=kl ds:=rfl
theorem Xc{l:List Nat}{kl:List D->Prop}:cG .list [.str l] kl=kl (l.map λc=>.str [c]):=rfl
theorem Xd{s:List Nat}{ds:List D}:opM .join (.str s) [.lst ds] G k=aP (bf ds) (λls=>((ls.map (·.length)).sum+ls.length * s.length<=sz)/\k (.str (cZ s ls)) G):=by unfold opM o8 aP;(simp only[ci,List.map_nil,view]) <;> (cases bf ds <;> rfl)
def trk(G:DH)(p:Addr)(k:List D->Prop):Prop:=match G p with |some (.lst ds)=>k ds |none=>False
theorem cH{ds:List D}{k:List D->Prop}(e:G p=some (.lst ds)):trk G p k=k ds:=by unfold trk;rw[e]
theorem Xe{x:D}:opM .append (.ref p) [x] G k=trk G p (λds=>ds.length < sz/\k .non (aQ G p (.lst (ds++[x])))):=by unfold opM o9 trk;(try dsimp only) <;> (cases G p <;> first |rfl | (rename_i o;cases o;rfl))
theorem Xf{xs:List D}:opM .extend (.ref p) [.lst xs] G k=trk G p (λds=>ds.length+xs.length < sz/\k .non (aQ G p (.lst (ds++xs)))):=by unfold opM ph trk;(simp only[ci,List.map_nil,view]) <;> (cases G p <;> first |rfl | (rename_i o;cases o;rfl))
theorem Ek{ds:List D}:opM .count (.lst ds) [.bl true] G k=aP (bools ds) (λbs=>k (.int (bs.count true:Nat)) G):=by unfold opM pq aP;(try dsimp only[view]) <;> (cases bools ds <;> rfl)
theorem El{ds:List D}:opM .index (.lst ds) [.bl true] G k=aP (bools ds) (λbs=>true∈bs/\k (.int (bs.idxOf true:Nat)) G):=by unfold opM pA aP;(try dsimp only[view]) <;> (cases bools ds <;> rfl)
theorem Xg{ds:List D}:recv .count (.lst ds) G=True:=rfl
theorem Xh{ds:List D}:recv .index (.lst ds) G=True:=rfl
theorem Xi{l:List Nat}{c:Nat}:opM .split (.str l) [.str [c]] G k=((c < 256/\l.length+2<=sz)/\k (.lst ((az c l).map .str)) G):=rfl
theorem Xj{s:List Nat}:recv .split (.str s) G=True:=rfl
theorem Xk{i j:Nat}{ds:List D}{Y:aj}{kk:aj->DH->Prop}:jU i j (.lst ds) Y G kk=(ds≠[]/\∀xs y,ds=xs++[y]->kk ((Y.set i (some (.lst xs))).set j (some y)) G):=rfl
theorem Xl{C c:String}{xs:List String}{kk:Bool->Prop}:gW C xs (.exn c) kk=(xs.contains c=true/\kk (aV c C)):=rfl
theorem Xm{C c f:String}{d:D}{xs:List String}{kk:Bool->Prop}:gW C xs (.exa c f d) kk=(xs.contains c=true/\kk (aV c C)):=rfl
theorem x_at{C f:String}{v:D}{kk:D->Prop}:iZ C f (.exa C f v) kk=kk v:=by simp[iZ]
theorem Xo{b f:String}{d:D}:view G (.exa b f d)=.exa b f d:=rfl
theorem Xp{s:List Nat}:recv .join (.str s) G=True:=rfl
theorem Xq:recv .append (.ref p) G=trk G p (λ_=>True):=by unfold recv trk;(try dsimp only) <;> (cases G p <;> first |rfl | (rename_i o;cases o;rfl))
theorem Xr:recv .extend (.ref p) G=trk G p (λ_=>True):=by unfold recv trk;(try dsimp only) <;> (cases G p <;> first |rfl | (rename_i o;cases o;rfl))
theorem Xu{i:Int}{x:D}{kg:DH->Prop}:fK (.ref p) (.int i) x G kg=trk G p (λds=>aP (ixN ds.length i) (λj=>kg (aQ G p (.lst (ds.set j x))))):=by
 unfold fK trk aP
 (try dsimp only) <;> (cases G p <;> first |rfl | (rename_i o;cases o;(try dsimp only) <;> (rename_i ds;cases ixN ds.length i <;> rfl)))
theorem Xv{i j:Int}:jb .Add (.int i) (.int j) kd=kd (.int (i+j)):=rfl
theorem Xw{x y:List Nat}:jb .Add (.str x) (.str y) kd=(x.length+y.length<=sz/\kd (.str (x++y))):=rfl
theorem Xx{i j:Int}:jb .Sub (.int i) (.int j) kd=kd (.int (i - j)):=rfl
theorem Xy{xs:List D}:mk true xs G k=k (.lst xs) G:=rfl
theorem Xz{xs:List D}:mk false xs G k=∀p,G p=none->k (.ref p) (aQ G p (.lst xs)):=rfl
theorem XC:view G .non=.non:=rfl
theorem XD{b:Bool}:view G (.bl b)=.bl b:=rfl
theorem XF{b:Int}:view G (.int b)=.int b:=rfl
theorem XH{b:List Nat}:view G (.str b)=.str b:=rfl
theorem XJ{b:List D}:view G (.tup b)=.tup b:=rfl
theorem XM{b:List D}:view G (.lst b)=.lst b:=rfl
theorem XN{C f:String}{q:Addr}:view G (.obj C f q)=.obj C f q:=rfl
theorem XQ{b:String}:view G (.exn b)=.exn b:=rfl
theorem XS{b:List Int}:view G (.scr b)=.scr b:=rfl
theorem bc{ds:List D}(e:G p=some (.lst ds)):view G (.ref p)=.lst ds:=by unfold view;dsimp only;rw[e]
theorem XX:truth .non=some false:=rfl
theorem X3{b:Bool}:truth (.bl b)=some b:=rfl
theorem X4{i:Int}:truth (.int i)=some (i != 0):=rfl
theorem X5{l:List Nat}:truth (.str l)=some (!l.isEmpty):=rfl
theorem X6{l:List D}:truth (.tup l)=some (!l.isEmpty):=rfl
theorem X7{l:List D}:truth (.lst l)=some (!l.isEmpty):=rfl
theorem X8{l:List D}:itemsOf G (.lst l)=some (l,[]):=rfl
theorem Yb{l:List D}:itemsOf G (.tup l)=some (l,[]):=rfl
theorem Yc{l:List Nat}:itemsOf G (.str l)=some (l.map λc=>.str [c],[]):=rfl
theorem gF{ds:List D}(e:G p=some (.lst ds)):itemsOf G (.ref p)=some (ds,[(p,ds)]):=by unfold itemsOf;dsimp only;rw[e]
theorem Yd{t:String}:isT t .non=some false:=rfl
theorem Ye {t:String} {b:Bool}:isT t (.bl b)=some (t=="bool"||t=="int"):=rfl
theorem Yg {t:String} {b:Int}:isT t (.int b)=some (t=="int"):=rfl
theorem Yh {t:String} {b:List Nat}:isT t (.str b)=some (t=="str"):=rfl
theorem is_tup {t:String} {b:List D}:isT t (.tup b)=some (t=="tuple"):=rfl
theorem Yi {t:String} {b:List D}:isT t (.lst b)=some (t=="list"):=rfl
theorem Yj{i:Nat}{d:D}{Y:aj}{kr:aj->Prop}:aX (.nm i) d Y G kr=kr (Y.set i (some d)):=rfl
theorem Yk{ts:Tgs}{ds:List D}{Y:aj}{kr:aj->Prop}:aX (.tp ts) (.lst ds) Y G kr=bz ts ds Y G kr:=rfl
theorem Yl{ts:Tgs}{ds:List D}{Y:aj}{kr:aj->Prop}:aX (.tp ts) (.tup ds) Y G kr=bz ts ds Y G kr:=rfl
theorem Ym{ρ:aj}{kr:aj->Prop}:bz .nil [] ρ G kr=kr ρ:=rfl
theorem Yn{t:Tg}{r:Tgs}{d:D}{ds:List D}{Y:aj}{kr:aj->Prop}:bz (.cons t r) (d::ds) Y G kr=aX t d Y G (λρ'=>bz r ds ρ' G kr):=rfl
theorem Yo:deq .non .non=true:=rfl
theorem Yp  {y:Bool}:deq .non (.bl y)=false:=rfl
theorem Yq  {y:Int}:deq .non (.int y)=false:=rfl
theorem Yr  {y:List Nat}:deq .non (.str y)=false:=rfl
theorem Ys  {y:List D}:deq .non (.tup y)=false:=rfl
theorem Yt  {y:List D}:deq .non (.lst y)=false:=rfl
theorem Yu{x:Bool} :deq (.bl x) .non=false:=rfl
theorem Yv{x:Bool}{y:Bool}:deq (.bl x) (.bl y)=(x==y):=by rw[deq]
theorem Yw{x:Bool}{y:List Nat}:deq (.bl x) (.str y)=false:=rfl
theorem Yx{x:Bool}{y:List D}:deq (.bl x) (.tup y)=false:=rfl
theorem Yy{x:Bool}{y:List D}:deq (.bl x) (.lst y)=false:=rfl
theorem Yz{x:Int} :deq (.int x) .non=false:=rfl
theorem YB{x:Int}{y:Int}:deq (.int x) (.int y)=(x==y):=by rw[deq]
theorem YC{x:Int}{y:List Nat}:deq (.int x) (.str y)=false:=rfl
theorem YD{x:Int}{y:List D}:deq (.int x) (.tup y)=false:=rfl
theorem YF{x:Int}{y:List D}:deq (.int x) (.lst y)=false:=rfl
theorem YG{x:List Nat} :deq (.str x) .non=false:=rfl
theorem YH{x:List Nat}{y:Bool}:deq (.str x) (.bl y)=false:=rfl
theorem YJ{x:List Nat}{y:Int}:deq (.str x) (.int y)=false:=rfl
theorem YK{x:List Nat}{y:List Nat}:deq (.str x) (.str y)=(x==y):=by rw[deq]
theorem YL{x:List Nat}{y:List D}:deq (.str x) (.tup y)=false:=rfl
theorem YM{x:List Nat}{y:List D}:deq (.str x) (.lst y)=false:=rfl
theorem YQ{x:List D} :deq (.tup x) .non=false:=rfl
theorem YS{x:List D}{y:Bool}:deq (.tup x) (.bl y)=false:=rfl
theorem YT{x:List D}{y:Int}:deq (.tup x) (.int y)=false:=rfl
theorem YW{x:List D}{y:List Nat}:deq (.tup x) (.str y)=false:=rfl
theorem YX{x:List D}{y:List D}:deq (.tup x) (.tup y)=bO x y:=by rw[deq]
theorem YZ{x:List D}{y:List D}:deq (.tup x) (.lst y)=false:=rfl
theorem Y0{x:List D} :deq (.lst x) .non=false:=rfl
theorem Y4{x:List D}{y:Bool}:deq (.lst x) (.bl y)=false:=rfl
theorem Y5{x:List D}{y:Int}:deq (.lst x) (.int y)=false:=rfl
theorem Y6{x:List D}{y:List Nat}:deq (.lst x) (.str y)=false:=rfl
theorem Y7{x:List D}{y:List D}:deq (.lst x) (.tup y)=false:=rfl
theorem Y8{x:List D}{y:List D}:deq (.lst x) (.lst y)=bO x y:=by rw[deq]
theorem Y9:bO [] []=true:=rfl
theorem Za{a b:D}{as bs:List D}:bO (a::as) (b::bs)=(deq a b&&bO as bs):=by rw[bO]
theorem Zb{b:D}{bs:List D}:bO [] (b::bs)=false:=rfl
theorem Zc{b:D}{bs:List D}:bO (b::bs) []=false:=rfl
theorem Zd :nr .non=true:=rfl
theorem Ze :dpt .non=0:=rfl
theorem Zf{x:Bool}:nr (.bl x)=true:=rfl
theorem Zg{x:Bool}:dpt (.bl x)=0:=rfl
theorem Zh{x:Int}:nr (.int x)=true:=rfl
theorem Zi{x:Int}:dpt (.int x)=0:=rfl
theorem Zj{x:List Nat}:nr (.str x)=true:=rfl
theorem Zk{x:List Nat}:dpt (.str x)=0:=rfl
theorem Zm{x:List D}:nr (.tup x)=nrs x:=by rw[nr]
theorem Zn{x:List D}:dpt (.tup x)=aO x+1:=by rw[dpt]
theorem Zo{x:List D}:nr (.lst x)=nrs x:=by rw[nr]
theorem Zq{x:List D}:dpt (.lst x)=aO x+1:=by rw[dpt]
theorem Zr:nrs []=true:=rfl
theorem Zt{a:D}{l:List D}:nrs (a::l)=(nr a&&nrs l):=by rw[nrs]
theorem Zu:aO []=0:=rfl
theorem Zv{a:D}{l:List D}:aO (a::l)=max (dpt a) (aO l):=by rw[aO]
end
theorem seq{Z:ak}{s:Sx}{r:Sxs}{E:EK}{Y:aj}{G:DH}{D:En}(h:∀M:aj->DH->Prop,(∀ρ' G',au Z r E ρ' G' D->M ρ' G')->wpS Z s E Y G { D with nx:=M }):au Z (.cons s r) E Y G D:=by rw[jX];exact h _ λ_ _ x=>x
theorem last{Z:ak}{s:Sx}{E:EK}{Y:aj}{G:DH}{D:En}(h:wpS Z s E Y G D):au Z (.cons s .nil) E Y G D:=by rw[jX];exact wpS_mono s (D:=D) (D':={ D with nx:=λρ' G'=>au Z .nil E ρ' G' D }) ⟨λρ' G' q=>(show au Z .nil E ρ' G' D from by rw[jW];exact q),λ_ _ q=>q,λ_ _ q=>q,λ_ _ q=>q⟩ h
theorem done{Z:ak}{E:EK}{Y:aj}{G:DH}{D:En}(h:D.nx Y G):au Z .nil E Y G D:=by rw[jW];exact h
section
variable {Z:ak} {E:EK} {ρ:aj} {G:DH}
def ForG(Z:ak)(t:Tg)(body:Sxs)(E:EK)(D:En)(items:List RF.D)(g:Hld)(ρ:aj)(G:DH):Prop:=
 forLoop (λd ρ' G' k=>aX t d ρ' G' λρ1=>au Z body E ρ1 G' { D with nx:=k,ct:=k,bk:=D.nx }) g items ρ G D.nx
theorem Zw{t:Tg}{it:It'}{body:Sxs}{D:En}:wpS Z (.for_ t it body) E ρ G D=wpI Z it E ρ G λitems g G1=>ForG Z t body E D items g ρ G1:=rfl
theorem ForG.inv{t:Tg}{body:Sxs}{D:En}{items:List RF.D}{g:Hld}(P:Nat->aj->DH->Prop)(h0:P 0 ρ G)(hh:∀i ρ G,P i ρ G->held g G)
  (hs:∀i d ρ G,items[i]?=some d->P i ρ G->∀kk:aj->DH->Prop,(∀ρ' G',P (i+1) ρ' G'->kk ρ' G')->aX t d ρ G λρ1=>au Z body E ρ1 G { D with nx:=kk,ct:=kk,bk:=D.nx })
  (he:∀ρ G,P items.length ρ G->D.nx ρ G):ForG Z t body E D items g ρ G:=Vu P h0 hh hs he
def CompG(Z:ak)(elt:Ex)(tg:Tg)(cond:Tx)(items:List D)(g:Hld)(ρ:aj)(G:DH)(k:List D->DH->Prop):Prop:=
 compLoop (λd ρ' G' k'=>aX tg d ρ' G' λρ1=>wpT Z cond noE ρ1 G' λb G2=>match b with |true=>wpE Z elt noE ρ1 G2 λy G3=>k' (some y) ρ1 G3 |false=>k' none ρ1 G2) g items [] ρ G k
def jz(cap:List (Option Nat))(ρ:aj):aj:=cap.map λo=>match o with |none=>none |some j=>(ρ[j]?).join
theorem Zx{ρ:aj}:jz [] ρ=[]:=rfl
theorem Zy{cap:List (Option Nat)}{ρ:aj}:jz (none::cap) ρ=none::jz cap ρ:=rfl
theorem Zz{cap:List (Option Nat)}{ρ:aj}{j:Nat}:jz (some j::cap) ρ=(ρ[j]?).join::jz cap ρ:=rfl
theorem ZC{fz:Bool}{elt:Ex}{tg:Tg}{it:It'}{cond:Tx}{N:List String}{cap:List (Option Nat)}{k:D->DH->Prop}:
  wpE Z (.comp fz elt tg it cond N cap) E ρ G k=wpI Z it E ρ G λitems g G1=>CompG Z elt tg cond items g (jz cap ρ) G1 λds G2=>mk fz ds G2 k:=rfl
theorem CompG.inv{elt:Ex}{tg:Tg}{cond:Tx}{items:List D}{g:Hld}{k:List D->DH->Prop}(P:Nat->List D->aj->DH->Prop)(h0:P 0 [] ρ G)(hh:∀i acc ρ G,P i acc ρ G->held g G)(hl:items.length<=sz)
  (hs:∀i d acc ρ G,items[i]?=some d->P i acc ρ G->∀kk:Option D->aj->DH->Prop,(∀o ρ' G',P (i+1) (acc++o.toList) ρ' G'->kk o ρ' G')->
   aX tg d ρ G λρ1=>wpT Z cond noE ρ1 G λb G2=>match b with |true=>wpE Z elt noE ρ1 G2 λy G3=>kk (some y) ρ1 G3 |false=>kk none ρ1 G2)
  (he:∀acc ρ G,P items.length acc ρ G->k acc G):CompG Z elt tg cond items g ρ G k:=Eh P h0 hh (by simpa using hl) hs he
theorem CompG.pure{elt:Ex}{tg:Tg}{cond:Tx}{items:List D}{g:Hld}{k:List D->DH->Prop}(f:D->Option D)(I:aj->Prop)(h0:I ρ)(hg:held g G)(hl:items.length<=sz)
  (hs:∀d ρ,d∈items->I ρ->∀kk:Option D->aj->DH->Prop,(∀ρ',I ρ'->kk (f d) ρ' G)->aX tg d ρ G λρ1=>wpT Z cond noE ρ1 G λb G2=>match b with |true=>wpE Z elt noE ρ1 G2 λy G3=>kk (some y) ρ1 G3 |false=>kk none ρ1 G2)
  (he:k (items.filterMap f) G):CompG Z elt tg cond items g ρ G k:=Ei g f I h0 hg hl hs he
theorem CompG.map{elt:Ex}{tg:Tg}{cond:Tx}{items:List D}{g:Hld}{k:List D->DH->Prop}(f:D->D)(I:aj->Prop)(h0:I ρ)(hg:held g G)(hl:items.length<=sz)
  (hs:∀d ρ,d∈items->I ρ->∀kk:Option D->aj->DH->Prop,(∀ρ',I ρ'->kk (some (f d)) ρ' G)->aX tg d ρ G λρ1=>wpT Z cond noE ρ1 G λb G2=>match b with |true=>wpE Z elt noE ρ1 G2 λy G3=>kk (some y) ρ1 G3 |false=>kk none ρ1 G2)
  (he:k (items.map f) G):CompG Z elt tg cond items g ρ G k:=Vv g f I h0 hg hl hs he
end
theorem len0{α:Type}{l:List α}(h:l.length=0):l=[]:=eM.mp h
theorem v7{α:Type}{n:Nat}{l:List α}(h:l.length=n+1):∃a r,l=a::r/\r.length=n:=by
 cases l with
 |nil=>cases h
 |cons a r=>exact ⟨a,r,rfl,Nat.succ.inj h⟩
theorem cj{α:Type}{l:List α}(h:l.length=1):∃a,l=[a]:=by obtain ⟨a,r,rfl,h2⟩:=v7 h;cases len0 h2;exact ⟨a,rfl⟩
theorem cI{α:Type}{l:List α}(h:l.length=2):∃a b,l=[a,b]:=by obtain ⟨a,r,rfl,h2⟩:=v7 h;obtain ⟨b,rfl⟩:=cj h2;exact ⟨a,b,rfl⟩
theorem qD{α:Type}{l:List α}(h:l.length=3):∃a b c,l=[a,b,c]:=by obtain ⟨a,r,rfl,h2⟩:=v7 h;obtain ⟨b,c,rfl⟩:=cI h2;exact ⟨a,b,c,rfl⟩
structure Fo(Z:ak)(P:Program)(w:World)(K:PF)(mg:Str->Option Value)(base:Heap)(k:Nat)(f:String)(n:Nat):Prop where
 ex:∃fa fd ps,FnOk P w K mg base (CX1 P w) k fa fd ps (lift K n (Z f))/\PySem.W.keepIn K (.ref fa)=true/\Binds K fd ps []/\mg (Str.ofString f)=some (.ref fa)
section
variable {Z:ak} {P:Program} {w:World} {K:PF} {mg:Str->Option Value} {base:Heap} {k:Nat} {xs:List (String×Bool)} {ot:OT}
def AllF(Z:ak)(P:Program)(w:World)(K:PF)(mg:Str->Option Value)(base:Heap)(k:Nat):List (String×Nat)->Prop
 |[]=>True
 | (f,n)::r=>Fo Z P w K mg base k f n/\AllF Z P w K mg base k r
def AllB(mg:Str->Option Value):List String->Prop
 |[]=>True
 |f::r=>mg (Str.ofString f)=none/\AllB mg r
def AllC(K:PF)(mg:Str->Option Value):List (String×D)->Prop
 |[]=>True
 | (x,d)::r=>(∃u v,mg (Str.ofString x)=some u/\RelV v u/\∀H F,Rep K H F d v)/\AllC K mg r
theorem AllF.get:∀{fs:List (String×Nat)}{f:String}{n:Nat},AllF Z P w K mg base k fs->(f,n)∈fs->Fo Z P w K mg base k f n
 | (f',n')::r,f,n,h,m=>by
  rcases ay.mp m with e |m
  ·cases e;exact h.1
  ·exact AllF.get h.2 m
theorem AllB.get:∀{fs:List String}{f:String},AllB mg fs->f∈fs->mg (Str.ofString f)=none
 |f'::r,f,h,m=>by
  rcases ay.mp m with e |m
  ·cases e;exact h.1
  ·exact AllB.get h.2 m
theorem AllC.get:∀{fs:List (String×D)}{x:String}{d:D},AllC K mg fs->(x,d)∈fs->∃u v,mg (Str.ofString x)=some u/\RelV v u/\∀H F,Rep K H F d v
 | (f',n')::r,f,n,h,m=>by
  rcases ay.mp m with e |m
  ·cases e;exact h.1
  ·exact AllC.get h.2 m
def cvB(K:PF)(C':String):Option V:=match PySem.W.nsIn K mainGlobals (Str.ofString C') with
 |some (some (.ref a))=>if oG K a then some (.ref a) else none
 |some none=>if C'=="ValueError" then some (.ty "ValueError") else none
 |_=>none
def xiB(K:PF)(C C':String)(cv:V):Bool:=match PySem.W.nsIn K mainGlobals (Str.ofString C) with
 |some (some (.ref c))=>fB K c&&PySem.W.mroIn K c (valOf cv)==some (aV C C')&&(aV C C'||!(Value.ref c==valOf cv))
 |_=>false
def v8(K:PF)(C:String):Bool:=match PySem.W.nsIn K mainGlobals (Str.ofString C) with
 |some (some (.ref c))=>oE K c
 |_=>false
def xsB(K:PF)(xs:List (String×Bool)):Bool:=xs.all λp=>match p.2 with
 |true=>v8 K p.1
 |false=>(cvB K p.1).any λcv=>xs.all λq=>!q.2||xiB K q.1 p.1 cv
theorem ZD{h:Heap}(X:K.In h)(Gh:h.Ns mainGlobals mg){xs:List (String×Bool)}(e:xsB K xs=true)(C:String)(hC:xs.contains (C,true)=true):∃a,mg (Str.ofString C)=some (.ref a)/\oE K a=true/\PySem.W.nsIn K mainGlobals (Str.ofString C)=some (some (.ref a)):=by
 have e1:v8 K C=true:=a7.mp e _ (al.mp hC);unfold v8 at e1;split at e1
 ·rename_i a hn;exact ⟨a,PySem.W.mg_of X Gh hn,e1,hn⟩
 ·cases e1
theorem ZF{h:Heap}(X:K.In h)(Gh:h.Ns mainGlobals mg){xs:List (String×Bool)}(e:xsB K xs=true)(C':String)(hC:xs.contains (C',false)=true):∃cv,CV K mg C' cv/\∀C,xs.contains (C,true)=true->XI K C C' cv:=by
 have e1:((cvB K C').any λcv=>xs.all λq=>!q.2||xiB K q.1 C' cv)=true:=a7.mp e _ (al.mp hC);obtain ⟨cv,hcv,h2⟩:=aK e1;refine ⟨cv,?_,λC hC=>?_⟩
 ·unfold cvB at hcv;split at hcv
  ·rename_i a hn;split at hcv
   ·rename_i hb;cases hcv;exact .inl ⟨a,rfl,PySem.W.mg_of X Gh hn,hb⟩
   ·cases hcv
  ·rename_i hn;split at hcv
   ·rename_i hb;cases hcv;exact .inr ⟨ai.mp hb,rfl,PySem.W.mg_none_of X Gh hn⟩
   ·cases hcv
  ·cases hcv
 ·have e3:(!true||xiB K C C' cv)=true:=a7.mp h2 _ (al.mp hC);have e3:xiB K C C' cv=true:=e3;unfold xiB at e3;split at e3
  ·rename_i c hn;rw[ae,ae,ai]at e3;refine ⟨c,hn,e3.1.1,e3.1.2,λhs=>?_⟩;have:=e3.2;rw[hs,Bool.false_or,ck]at this;exact this
  ·cases e3
theorem bse{h:Heap}{fs:List (String×Nat)}{bt:List String}{cn:List (String×D)}(h1:AllF Z P w K mg base k fs)(h2:AllB mg bt)(h3:AllC K mg cn)(X:K.In h)(Gh:h.Ns mainGlobals mg)(e:xsB K xs=true):Bse Z P w K mg base (CX1 P w) (k+2) fs bt cn xs {}:=
 ⟨λ_ _ m=>let ⟨fa,fd,ps,z,r⟩:=(h1.get m).ex;⟨fa,fd,ps,z.mono (bp _ _),r⟩,λ_ m=>h2.get m,λ_ _ m=>h3.get m,ZD X Gh e,ZF X Gh e,(λ_ _ _ _ h=>(nomatch h)),(λ_ _ h=>(nomatch h)),(λ_ _ h=>(nomatch h)),(λ_ _ h=>(nomatch h)),Nat.le_add_left _ _,(λ_ _ h=>(nomatch h))⟩
theorem v9{x:String}{i:Int}{t:Tok}(h:mg (Str.ofString x)=some (.int i t)):∃u v,mg (Str.ofString x)=some u/\RelV v u/\∀H F,Rep K H F (.int i) v:=⟨_,.int i,h,⟨t,rfl⟩,λ_ _=>rfl⟩
theorem Em{x:String}{l:List Nat}{s:Str}{t:Tok}(h:mg (Str.ofString x)=some (.str s t))(e:s=tx l)(hl:l.length<=sz):∃u v,mg (Str.ofString x)=some u/\RelV v u/\∀H F,Rep K H F (.str l) v:=⟨_,.str s,h,⟨t,rfl⟩,λ_ _=>⟨by rw[e],hl⟩⟩
theorem ZG{n:Nat}{S:RF.Spec}{fa:Addr}{fd:FuncData}{ps:List Str}(h:∀ds G a,¬S.pre ds G a):FnOk P w K mg base (CX1 P w) k fa fd ps (lift K n S):=
 ⟨λ_ _ _ _ ⟨_,_,_,_,_,_,a,hp,_⟩=>absurd hp (h _ _ a),λ_ _ _ _ _ _ _ _ _ _ _ _ _ ⟨_,_,_,_,_,_,a,hp,_⟩=>absurd hp (h _ _ a)⟩
end
section
variable {Z:ak} {P:Program} {w:World} {K:PF} {mg:Str->Option Value} {base:Heap} {k j n:Nat} {fs:List (String×Nat)} {bt:List String} {cn:List (String×D)} {xs:List (String×Bool)} {ot:OT} {x:String} {S:RF.Spec} {fa:Addr} {fd:FuncData} {ps:List Str}
theorem MthOk.mono{f C m:String}(h:MthOk Z P w K mg base (CX1 P w) k f C m n)(hk:k<=j):MthOk Z P w K mg base (CX1 P w) j f C m n:=by obtain ⟨c,fa,fd,ps,h1,h2,h3,h4,h5⟩:=h;exact ⟨c,fa,fd,ps,h1,h2,h3,h4,h5.mono hk⟩
theorem MkoOk.mono{C:String}(h:MkoOk Z P w K mg base (CX1 P w) k C n)(hk:k<=j):MkoOk Z P w K mg base (CX1 P w) j C n:=by obtain ⟨c,fa,fd,ps,sp,i,h0,h⟩:=h;exact ⟨c,fa,fd,ps,sp,i,bi h0 hk,h⟩
theorem XkoX.mono{C f:String}(h:XkoX P w K mg base (CX1 P w) k xs C f)(hk:k<=j):XkoX P w K mg base (CX1 P w) j xs C f:=by obtain ⟨⟨c,fa,fd,ps,i,h0,h⟩,h2⟩:=h;exact ⟨⟨c,fa,fd,ps,i,bi h0 hk,h⟩,h2⟩
theorem Bse.add(B:Bse Z P w K mg base (CX1 P w) k fs bt cn xs ot)(e:Z x=S)(o:FnOk P w K mg base (CX1 P w) (k+j) fa fd ps (lift K n S))(h2:PySem.W.keepIn K (.ref fa)=true)(h3:Binds K fd ps [])(h4:mg (Str.ofString x)=some (.ref fa)):Bse Z P w K mg base (CX1 P w) (k+j) ((x,n)::fs) bt cn xs ot:=by
 refine ⟨λf m hm=>?_,B.blt,B.con,B.xcl,B.xis,λf C m n h=>(B.mth f C m n h).mono (bp _ _),λC n h=>(B.mko C n h).mono (bp _ _),B.fld,λC f h=>(B.xko C f h).mono (bp _ _),bi B.lv (bp _ _),B.qok⟩;rcases ay.mp hm with e' |hm
 ·cases e';exact ⟨fa,fd,ps,by rw[e];exact o,h2,h3,h4⟩
 ·obtain ⟨fa,fd,ps,h1,h⟩:=B.call f m hm;exact ⟨fa,fd,ps,h1.mono (bp _ _),h⟩
theorem Bse.step{qual:Str}{st:Stmt}{N:List Str}{body:Sxs}(B:Bse Z P w K mg base (CX1 P w) k fs bt cn xs ot)(F:Fun K (Str.ofString x) qual st fa fd)(h3:Binds K fd ps [])(h4:mg (Str.ofString x)=some (.ref fa))(e:Z x=S)(m:Nat)
  (hs:fnB N ps (aq st)=true) (hc:aD (aL N (aq st) fs bt cn xs ot) body (aJ st)=true) (hn:ps.length=n) (hm:N.length=n+m)
  (hw:∀ds G a,ds.length=n->S.pre ds G a->au Z body noE (env0 ds m) G (ends (S.post a))):Bse Z P w K mg base (CX1 P w) (k+1) ((x,n)::fs) bt cn xs ot:=
 B.add e (vW F B S n m hs hc hn hm hw) F.kp h3 h4
theorem Bse.stepX{qual:Str}{st:Stmt}{N:List Str}{body:Sxs}(B:Bse Z P w K mg base (CX1 P w) k fs bt cn xs ot)(F:Fun K (Str.ofString x) qual st fa fd)(h3:Binds K fd ps [])(h4:mg (Str.ofString x)=some (.ref fa))(e:Z x=S)(m:Nat)
  (hs:fnB N ps (aq st)=true) (hc:aD (aL N (aq st) fs bt cn xs ot) body (aJ st)=true) (hn:ps.length=n) (hm:N.length=n+m)
  (hw:∀ds G a,ds.length=n->S.pre ds G a->au Z body (S.exc a) (env0 ds m) G (ends (S.post a))):Bse Z P w K mg base (CX1 P w) (k+1) ((x,n)::fs) bt cn xs ot:=
 B.add e (Vs F B S n m hs hc hn hm hw) F.kp h3 h4
theorem Bse.stepQ{qual:Str}{st:Stmt}{N:List Str}{body:Sxs}{bq:List String}(B:Bse Z P w K mg base (CX1 P w) k fs bt cn xs ot)(F:Fun K (Str.ofString x) qual st fa fd)(h3:Binds K fd ps [])(h4:mg (Str.ofString x)=some (.ref fa))(e:Z x=S)(m:Nat)
  (hs:fnB N ps (aq st)=true) (hq:(bq.all λf=>bt.contains f&&!j7 f)=true) (hc:aD (ctQ N (aq st) bq cn xs ot.xk) body (aJ st)=true) (hn:ps.length=n) (hm:N.length=n+m)
  (hw:∀ds G a,ds.length=n->S.pre ds G a->au Z body noE (env0 ds m) G (ends (S.post a))):Bse Z P w K mg base (CX1 P w) (k+1) ((x,n)::fs) bt cn xs { ot with qs:=(x,n)::ot.qs }:=by
 have o:=Vt F B S n m hs hq hc hn hm hw;have B':=B.add (j:=1) e (o.mono (Nat.le_add_left _ _)) F.kp h3 h4;refine ⟨B'.call,B'.blt,B'.con,B'.xcl,B'.xis,B'.mth,B'.mko,B'.fld,B'.xko,B'.lv,λf m hm=>?_⟩;rcases ay.mp hm with e' |hm
 ·cases e';exact ⟨fa,fd,ps,by rw[e];exact o,F.kp,h3,h4⟩
 ·exact B'.qok f m hm
theorem Bse.addX{C f:String}(B:Bse Z P w K mg base (CX1 P w) k fs bt cn xs ot)(o:XkoX P w K mg base (CX1 P w) (k+j) xs C f):Bse Z P w K mg base (CX1 P w) (k+j) fs bt cn xs { ot with xk:=(C,f)::ot.xk }:=by
 refine ⟨λf m hm=>?_,B.blt,B.con,B.xcl,B.xis,λf C m n h=>(B.mth f C m n h).mono (bp _ _),λC n h=>(B.mko C n h).mono (bp _ _),B.fld,λC' f' hm=>?_,bi B.lv (bp _ _),B.qok⟩
 ·obtain ⟨fa,fd,ps,h1,h⟩:=B.call f m hm;exact ⟨fa,fd,ps,h1.mono (bp _ _),h⟩
 ·rcases ay.mp hm with e' |hm
  ·cases e';exact o
  ·exact (B.xko C' f' hm).mono (bp _ _)
def qF(Z:ak)(x:String)(S:RF.Spec):ak:=λf=>if f=x then S else Z f
theorem Bse.self(B:Bse Z P w K mg base (CX1 P w) k fs bt cn xs {})(hx:(fs.map (·.1)).contains x=false)(o:FnOk P w K mg base (CX1 P w) (k+j) fa fd ps (lift K n S))(h2:PySem.W.keepIn K (.ref fa)=true)(h3:Binds K fd ps [])(h4:mg (Str.ofString x)=some (.ref fa)):Bse (qF Z x S) P w K mg base (CX1 P w) (k+j) ((x,n)::fs) bt cn xs {}:=by
 refine ⟨λf m hm=>?_,B.blt,B.con,B.xcl,B.xis,(λ_ _ _ _ h=>(nomatch h)),(λ_ _ h=>(nomatch h)),(λ_ _ h=>(nomatch h)),(λ_ _ h=>(nomatch h)),bi B.lv (bp _ _),(λ_ _ h=>(nomatch h))⟩;rcases ay.mp hm with e' |hm'
 ·cases e';exact ⟨fa,fd,ps,by unfold qF;rw[if_pos rfl];exact o,h2,h3,h4⟩
 ·obtain ⟨fa,fd,ps,h1,h⟩:=B.call f m hm';have hf:f≠x:=by
   rintro rfl;rw[<-Bool.not_eq_true,al]at hx;exact hx (bP.mpr ⟨(f,m),hm',rfl⟩)
  exact ⟨fa,fd,ps,by unfold qF;rw[if_neg hf];exact h1.mono (bp _ _),h⟩
end
theorem ZJ{S:RF.Spec}(hS:∀(ns:List Int)(G:DH),ns.length<=63->∃a,S.pre [.scr ns] G a/\(∀d G',S.post a d G'->d=.bl true)/\∀x G',¬S.exc a x G')(K:PF)(H:Hp)(a:Addr)(ns:List Int)(hl:ns.length<=63)(hO:Only H)(hs:SqL K H a (ns.map V.int)):
  lift K 1 S [.ref a] H (λv _=>v=.bl true) λ_ _ _=>False:=by
 obtain ⟨b,h1,h2,h3⟩:=hS ns (λ_=>none) hl;refine ⟨rfl,λ_=>False,λ_=>none,[.scr ns],⟨λ_ f=>f.elim,λ_ _ e=>by cases e⟩,⟨.ref a,[],rfl,⟨a,rfl,?_⟩,rfl⟩,b,h1,λd G' q H' F' v _ _ rv=>?_,λx G' q=>absurd q (h3 x G')⟩
 ·rcases hs with (h |h) |h
  ·exfalso;rcases hO a with z |⟨o,u,z⟩
   ·rw[z]at h;cases h
   ·rw[z]at h;cases h
  ·exact .inl h
  ·exact .inr h
 ·rw[h2 d G' q]at rv;exact rv
theorem ZK{pre:List D->DH->Prop}(h:∀(ns:List Int)(G:DH),ns.length<=63->pre [.scr ns] G):∀(ns:List Int)(G:DH),ns.length<=63->∃a,(bG pre (λ_ _ d _=>d=.bl true)).pre [.scr ns] G a/\(∀d G',(bG pre (λ_ _ d _=>d=.bl true)).post a d G'->d=.bl true)/\∀x G',¬(bG pre (λ_ _ d _=>d=.bl true)).exc a x G':=
 λns G hl=>⟨([.scr ns],G),⟨rfl,h ns G hl⟩,λ_ _ q=>q,λ_ _ z=>z⟩
def ghS{A:Type}(pre:A->List D->DH->Prop)(post:A->DH->D->DH->Prop):RF.Spec where
 A:=A×DH
 pre:=λds G a=>a.2=G/\pre a.1 ds G
 post:=λa d G'=>post a.1 a.2 d G'
 exc:=λ_ _ _=>False
theorem lw{A:Type}{pre:A->List D->DH->Prop}{post:A->DH->D->DH->Prop}{ds:List D}{G:DH}{k:D->DH->Prop}{E:EK}(a:A)(h:pre a ds G)(hk:∀d G',post a G d G'->k d G'):(ghS pre post).t ds G k E:=
 ⟨(a,G),⟨rfl,h⟩,hk,λ_ _ z=>z.elim⟩
theorem lz{A:Type}{Z:ak}{body:Sxs}{m n:Nat}{pre:A->List D->DH->Prop}{post:A->DH->D->DH->Prop}(h:∀a ds G,pre a ds G->au Z body noE (env0 ds m) G (ends (post a G))):
  ∀ds G a,ds.length=n->(ghS pre post).pre ds G a->au Z body noE (env0 ds m) G (ends ((ghS pre post).post a)):=by
 rintro ds G ⟨a,G0⟩ _ ⟨rfl,h1⟩;exact h a ds _ h1
def fV{A:Type}(args:A->List D)(ok:A->Prop)(val:A->D):RF.Spec:=ghS (λa ds _=>ds=args a/\ok a) (λa G d G'=>G'=G/\d=val a)
theorem jA{A:Type}{args:A->List D}{ok:A->Prop}{val:A->D}{ds:List D}{G:DH}{k:D->DH->Prop}{E:EK}(a:A)(e:ds=args a)(h:ok a)(hk:k (val a) G):(fV args ok val).t ds G k E:=
 lw a ⟨e,h⟩ λd G' ⟨e1,e2⟩=>by subst e1 e2;exact hk
theorem gG{A:Type}{Z:ak}{body:Sxs}{m n:Nat}{args:A->List D}{ok:A->Prop}{val:A->D}(h:∀a G,ok a->au Z body noE (env0 (args a) m) G (ends λd G'=>G'=G/\d=val a)):
  ∀ds G a,ds.length=n->(fV args ok val).pre ds G a->au Z body noE (env0 ds m) G (ends ((fV args ok val).post a)):=
 lz λa ds G ⟨e,h1⟩=>by subst e;exact h a G h1
def qG(c:CT)(S f:String)(msg:Ex)(ss:List Stmt):Bool:=(two ss).any λs=>ao (vq s.1) λu=>ao (j9 u.1) λt=>ao (jj t.1) λv=>ao (asName v.1) λn=>(two t.2.1).any λg=>ao (dW s.2) λa=>(one a.1).any λtg=>ao (jj tg) λr=>
 t.2.2.1.isEmpty&&(n.1==Str.ofString S&&c.glo n.1&&v.2.1==Str.ofString "__init__"&&(v.2.2.endLine==t.2.2.2.line)&&aa c (.var 0) g.1&&aa c msg g.2&&aa c (.var 0) r.1&&r.2.1==Str.ofString f&&aa c (.var 1) a.2.1&&!bY a.2.1)
theorem ZL{c:CT}{S f:String}{msg:Ex}{ss:List Stmt}(h:qG c S f msg ss=true):∃y yp m apos e1 e2 cpos p1 o n p e pos,ss=[.Expr (.Call (.Attribute (.Name y yp) m apos) [e1,e2] [] cpos) p1,.Assign [.Attribute o n p] e pos]/\
  (y==Str.ofString S&&c.glo y&&m==Str.ofString "__init__"&&(apos.endLine==cpos.line)&&aa c (.var 0) e1&&aa c msg e2&&aa c (.var 0) o&&n==Str.ofString f&&aa c (.var 1) e&&!bY e)=true:=by
 unfold qG at h;obtain ⟨s,hs,h⟩:=aK h;obtain ⟨u,hu,h⟩:=aC h;obtain ⟨t,ht,h⟩:=aC h;obtain ⟨v,hv,h⟩:=aC h;obtain ⟨n,hn,h⟩:=aC h;obtain ⟨g,hg,h⟩:=aK h;obtain ⟨a,ha,h⟩:=aC h;obtain ⟨tg,htg,h⟩:=aK h;obtain ⟨r,hr,h⟩:=aC h;rw[ae,eP]at h;exact ⟨_,_,_,_,_,_,_,_,_,_,_,_,_,by rw[eO hs,hu,ht,hv,hn,eO hg,ha,bT htg,hr,h.1],h.2⟩
section
variable {Z:ak} {P:Program} {w:World} {K:PF} {mg:Str->Option Value} {base:Heap} {k:Nat} {fs:List (String×Nat)} {bt:List String} {cn:List (String×D)} {xs:List (String×Bool)} {ot:OT}
theorem ZM{C f S:String}{msg:Ex}{nm qual:Str}{st:Stmt}{fa c s0:Addr}{fd:FuncData}{N ps:List Str}(B:Bse Z P w K mg base (CX1 P w) k fs bt cn xs ot)(Fu:Fun K nm qual st fa fd)(hb:Binds K fd ps [])
  (hmg:mg (Str.ofString C)=some (.ref c)) (hns:PySem.W.nsIn K mainGlobals (Str.ofString C)=some (some (.ref c))) (hcl:gj K c fa=true) (hfn:PySem.W.typeIn K (.ref fa)=some (.type "function")) (hkp:PySem.W.keepIn K (.ref c)=true)
  (hxi:fB K c=true/\PySem.W.hasDictIn K c=true/\PySem.W.findIn K (.ref c) (Str.ofString f)=some none) (hst:oN K c (Str.ofString f)=true) (hS:mg (Str.ofString S)=some (.ref s0)) (hsi:jR K s0=true)
  (hs:fnB N ps (aq st)=true) (hc:qG (aL N (aq st) fs bt cn xs ot) S f msg (aJ st)=true) (hn:ps.length=2) (hm:N.length=2)
  (hw:∀a d G (kk:D->DH->Prop),okA d->(∀y,kk y G)->wpE Z msg noE [some (.ref a),some d] G kk):Dp P w K mg base (CX1 P w) (k+2) C f:=by
 refine ⟨c,fa,fd,ps,k+1,am _,hmg,hns,hcl,hfn,hkp,hxi,hb,?_⟩;obtain ⟨y,yp,m,apos,e1,e2,cpos,p1,o,n,p,e,pos,eb,h⟩:=ZL hc;simp only[ae,ai,ck]at h;obtain ⟨⟨⟨⟨⟨⟨⟨⟨⟨ey,hg⟩,em⟩,hl⟩,c1⟩,c2⟩,c3⟩,en⟩,c4⟩,c5⟩:=h;subst ey em en;obtain ⟨g1,g2⟩:=bZ hg;refine Fu.okX (jw hs) (λvs H Q E h=>by obtain ⟨a,b,l,d,F,G,rfl,_⟩:=h;rw[hn];rfl) λcdv A outer s H vs Q EX hr hsp=>?_;obtain ⟨a,b,l,d,F,G,rfl,ha,nf,r,rb,hok,q⟩:=hsp;have St:Stat Z (CX1 P w) k (aL N (aq st) fs bt cn xs ot) noE ⟨H,F⟩ (cU (CX1 P w) P w K mg base N qual (aq st) fa cdv A outer s H EX):=Eg B hs hr λx G' H' F' hx e r'=>hx.elim;rw[eb];have sv1:=bI (aZ (.var 0) c1);have sv2:=bI (aZ msg c2);refine ⟨_,yf (yh (QT (pl:=_) hsi hcl (St.glo _ g1) hS (dI (aA _ St c1) (dI (aA _ St c2) gR (aW _ _ _ sv2)) (aW _ _ _ sv1)) (bD g2) (aW _ _ _ sv1) (by rw[aW _ _ _ sv2];rfl) (Ul rfl ?_ (ai.mpr hl))) (lr rfl _ _ _)) (yg (QV hst (aA _ St c3) (aA _ St c4) (lr c5 _ _ _))),?_⟩
 ·unfold methodCallForm;rw[aW _ _ _ sv1,aW _ _ _ sv2];rfl
 have e2:L2.start N [V.ref a,b]=[some (V.ref a),some b]:=by unfold L2.start;rw[show N.length - [V.ref a,b].length=0 by rw[hm];rfl];rfl
 rw[e2];obtain ⟨r1,x1⟩:=r.holdX ha;have he:EnvR K H (λz=>F z\/z=a) [some (.ref a),some d] [some (V.ref a),some b]:=⟨_,_,rfl,λd' hd=>⟨_,rfl,by cases hd;rfl⟩,_,_,rfl,λd' hd=>⟨_,rfl,by cases hd;exact rb.ext x1⟩,rfl⟩;have nf':∀z,F z->z≠a:=λz hz e=>nf (by rw[<-e];exact hz);refine aH (x:=.var 0) (E:=noE) (Y:=[some (.ref a),some d]) (G:=G) (W:=λy G3=>y=.ref a/\G3=G) x1 he r1 ⟨rfl,rfl⟩ ?_;rintro y0 G3 H1 F1 v1 ⟨ey,eG⟩ e1 y1 he1 r1' rv1;have eG:=eG.symm;subst ey eG;refine aH (x:=msg) (E:=noE) (Y:=[some (.ref a),some d]) (G:=G) (W:=λy G3=>G3=G) e1 he1 r1' (hw a d G _ hok λ_=>rfl) ?_;rintro ym G4 H2 F2 v2 eG e2' y2 he2 r2 rv2;have eG:=eG.symm;subst eG;have ev1:v1=.ref a:=rv1;subst ev1;have y12:=y1.trans y2;have ha2:H2 a=some (.ext (bV a c l none)):=(y12.keep a (.inr rfl)).trans ha;refine ⟨a,l,v2,rfl,ha2,λl'=>?_⟩;have r3:=r2.setX (ho:=.ext (bV a c l' none)) ha2;have he3:=he2.setX (ho:=.ext (bV a c l' none)) ha2;have e3:Ext H F (upd H2 a (.ext (bV a c l' none))) F2:=by
  refine ⟨e2'.sub,λz hz=>?_,λz ys hz=>?_,λz o' u' hz=>?_⟩
  ·rw[aB (nf' z hz)];exact e2'.keep z hz
  ·have q':=e2'.tups z ys hz;rw[aB (cO q' ha2 (by intro w;cases w))];exact q'
  ·have q':=e2'.frzs z o' u' hz;rw[aB (cO q' ha2 (by intro w;cases w))];exact q'
 refine aH (x:=.var 1) (E:=noE) (Y:=[some (.ref a),some d]) (G:=G) (W:=λy G3=>y=d/\G3=G) e3 he3 r3 ⟨rfl,rfl⟩ ?_;rintro y5 G5 H3 F3 v3 ⟨ey,eG⟩ e4 y4 he4 r4 rv4;have ey:=ey.symm;have eG:=eG.symm;subst ey eG;refine aH (x:=.var 0) (E:=noE) (Y:=[some (.ref a),some d]) (G:=G) (W:=λy G3=>y=.ref a/\G3=G) e4 he4 r4 ⟨rfl,rfl⟩ ?_;rintro y6 G6 H4 F4 v6 ⟨ey,eG⟩ e5 y5 he5 r5 rv5;have eG:=eG.symm;subst ey eG;have ev6:v6=.ref a:=rv5;subst ev6;have y45:=y4.trans y5;have hF2:F2 a:=y12.sub a (.inr rfl);have ha4:H4 a=some (.ext (bV a c l' none)):=(y45.keep a hF2).trans bM;have eb:v3=b:=by
  unfold okA at hok;split at hok
  ·exact (show v3=.int _ from rv4).trans (show b=.int _ from rb).symm
  ·exact (show v3=.str _ from rv4.1).trans (show b=.str _ from rb.1).symm
  ·exact hok.elim
 subst eb;refine ⟨a,l',rfl,ha4,λdx od ob hdx hne hoc hod hnc hl=>?_⟩;exact q H4 F4 dx od ob l' e5 r5 ha4 hdx hne hoc hod hnc hl
def Eo(K:PF)(xs:List (String×Bool))(C:String):Bool:=xs.all λp=>p.2||(cvB K p.1).any λcv=>xiB K C p.1 cv
theorem ZP{h:Heap}{C:String}(X:K.In h)(Gh:h.Ns mainGlobals mg)(e:Eo K xs C=true):∀C' cv,xs.contains (C',false)=true->CV K mg C' cv->XI K C C' cv:=by
 intro C' cv hC hcv;have e1:(false||(cvB K C').any λcv=>xiB K C C' cv)=true:=a7.mp e _ (al.mp hC);rw[Bool.false_or]at e1;obtain ⟨cv0,hcv0,e3⟩:=aK e1;have ev:cv0=cv:=by
  unfold cvB at hcv0;split at hcv0
  ·rename_i a hn;split at hcv0
   ·cases hcv0;have hm:=PySem.W.mg_of X Gh hn;rcases hcv with ⟨a1,rfl,hm1,_⟩ |⟨_,_,hm1⟩
    ·rw[hm]at hm1;cases hm1;rfl
    ·rw[hm]at hm1;cases hm1
   ·cases hcv0
  ·rename_i hn;split at hcv0
   ·cases hcv0;have hm:=PySem.W.mg_none_of X Gh hn;rcases hcv with ⟨a1,rfl,hm1,_⟩ |⟨_,rfl,_⟩
    ·rw[hm]at hm1;cases hm1
    ·rfl
   ·cases hcv0
  ·cases hcv0
 subst ev;unfold xiB at e3;split at e3
 ·rename_i c hn;rw[ae,ae,ai]at e3;refine ⟨c,hn,e3.1.1,e3.1.2,λhs=>?_⟩;have:=e3.2;rw[hs,Bool.false_or,ck]at this;exact this
 ·cases e3
theorem ZQ{l r:List Nat}{a:Addr}{d:D}{G:DH}{kk:D->DH->Prop}(h:okA d)(q:∀y,kk y G)(hl:l.length<=1000:=by decide)(hr:r.length<=1000:=by decide):
  wpE Z (.fst (.cons (.cst (.str l)) (.cons (.var 1) (.cons (.cst (.str r)) .nil)))) noE [some (.ref a),some d] G kk:=by
 rw[pH,gq,dB];refine ⟨hl,?_⟩;rw[gq];unfold okA at h;split at h
 ·rename_i i;refine (⟨h,?_⟩:(0<=i/\i < 100)/\_);rw[gq,dB];refine ⟨hr,?_⟩;rw[jY];refine ⟨?_,q _⟩;have h2:(aM i.toNat).length<=3:=digits_le ⟨i.toNat,by omega⟩;simp only[aw,de];have:sz=1000000:=rfl;omega
 ·rename_i m;refine (⟨h,?_⟩:m.length<=1000/\_);rw[gq,dB];refine ⟨hr,?_⟩;rw[jY];refine ⟨?_,q _⟩;simp only[aw,de];have:sz=1000000:=rfl;omega
 ·exact h.elim
end
section
local macro_rules|`(#[])=>`(.nil)|`(#[$x])=>`(.cons $x .nil)|`(#[$x,$y,*])=>`(.cons $x #[$y,*])
local macro_rules|`(-$x)=>`(.var $x)
local macro_rules|`(¬$x)=>`(.cst (.int $x))
local macro_rules|`(!$x)=>`(.cst (.str $x))
local macro_rules|`($x<|$y)=>`(.call $x $y)
def wg:Sxs:=#[.set (-0) (¬2) (¬0),.ret (-0)]
def wj:Sxs:=#[.ite (.val (.cmp .GtE (-0) (.bin .Pow true (¬10) (¬18)))) #[.ret (-0)] #[],.asg (.nm 2) (.bin .Mod true (.bin .Add true (.bin .Add true (.bin .Mult true (.bin .Mod true (-0) (¬1000000007)) (¬69069)) (.bin .Mult true (-1) (¬40503))) (¬977)) (¬2147483629)),.asg (.nm 3) (.bin .Mod true (.bin .Add true (.bin .Add true (.bin .Mult true (-2) (-2)) (.bin .Mult true (-1) (¬7919))) (.bin .Mod true (-0) (¬65537))) (¬2147483587)),.asg (.nm 4) (.bin .Mod true (.bin .Add true (.bin .Add true (.bin .Mult true (-3) (-3)) (.bin .Mult true (-2) (¬31))) (¬5)) (¬2147483563)),.ret (.bin .Add true (.bin .Mult true (.bin .Add true (.bin .Mult true (-2) (¬2147483659)) (-3)) (¬2147483693)) (-4))]
def wk:Sxs:=#[.ite (.val (.cmp .Lt (.idx (-0) (¬2)) (-1))) #[.asg (.nm 2) (.idx (-0) (¬1)),.asg (.nm 3) (¬0),.ite (.val (.cmp .Lt (-2) (.bcl .len #[.idx (-0) (¬0)]))) #[.asg (.nm 3) (.idx (.idx (-0) (¬0)) (-2))] #[.ite (.val (.cmp .Gt (.bcl .len #[.idx (-0) (¬0)]) (¬0))) #[.asg (.nm 3) (.bin .Mod true (.idx (.idx (-0) (¬0)) (.bin .Mod true (.bin .Add true (.bin .Mult true (-2) (¬5)) (¬3)) (.bcl .len #[.idx (-0) (¬0)]))) (.bin .Add true (.bin .Pow true (¬10) (¬17)) (-2)))] #[]],.set (-0) (¬1) (.bin .Add true (-2) (¬1)),.set (-0) (¬2) ("_law_spread"<|#[-3,-2])] #[],.asg (.nm 4) (.bin .Mod true (.idx (-0) (¬2)) (-1)),.set (-0) (¬2) (.bin .FloorDiv true (.idx (-0) (¬2)) (-1)),.ret (-4)]
def wu:Sxs:=#[.asg (.nm 2) (![32,33,34,35,36,38,39,40,41,42,43,44,45,46,47,48,49,50,51,52,53,54,55,56,57,58,59,60,61,62,63,64,65,66,67,68,69,70,71,72,73,74,75,76,77,78,79,80,81,82,83,84,85,86,87,88,89,90,91,92,93,94,95,96]),.asg (.nm 2) (.bin .Add true (-2) (![97,98,99,100,101,102,103,104,105,106,107,108,109,110,111,112,113,114,115,116,117,118,119,120,121,122,123,124,125,126,9,10])),.asg (.nm 3) (.comp true (-0) (.nm 0) (.seq (-2)) (.val (.cmp .NotIn (-0) (-1))) ["sign","others"] [none,some 1]),.ret (.idx (-3) ("_law_take"<|#[-0,.bcl .len #[-3]]))]
def ww:Sxs:=#[.ret ("_law_sign_but"<|#[-0,![]])]
def wy:Sxs:=#[.asg (.nm 2) ("_law_take"<|#[-0,.bin .Add true (.bcl .len #[-1]) (¬1)]),.asg (.nm 3) (.idx (.lst true #[.idx (![48,49,42,97,32,122,10,9,65,50,57,119,45]) ("_law_take"<|#[-0,¬13]),"_law_any_sign"<|#[-0]]) ("_law_take"<|#[-0,¬2])),.asg (.nm 4) (.mth .split (-1) #[![10]]),.asg (.nm 5) ("_law_take"<|#[-0,.bcl .len #[-4]]),.asg (.nm 6) (.lst true #[![],![48,49,32,97],![42,32,103,111],![119,105,100,116,104,32,50],![32,97],![48,32,32,97],![48,49,42,32,97,98,99,100,101,102,103,104,105],![42,42,42,42,32,65],![119,105,100,116,104,32,48,50],![42,42,42,42,42,42,32,122,122]]),.asg (.nm 7) (.idx (-6) ("_law_take"<|#[-0,¬10])),.asg (.nm 8) ("_law_take"<|#[-0,¬10]),.ite (.val (.cmp .Lt (-8) (¬3))) #[.ret (.bin .Add true (.bin .Add true (.slc true (-1) .no (.ob (-2))) (.idx (.lst true #[-3,![],-3]) (-8))) (.slc true (-1) (.ob (.bin .Add true (-2) (.idx (.lst true #[¬0,¬1,¬1]) (-8)))) .no))] #[],.ite (.val (.cmp .Eq (-8) (¬3))) #[.ret (.slc true (-1) .no (.ob (-2)))] #[],.ite (.val (.cmp .Eq (-8) (¬4))) #[.ret (.mth .join (![10]) #[.bin .Add true (.slc true (-4) .no (.ob (-5))) (.slc true (-4) (.ob (.bin .Add true (-5) (¬1))) .no)])] #[],.ite (.val (.cmp .Eq (-8) (¬5))) #[.ret (.mth .join (![10]) #[.bin .Add true (.bin .Add true (.slc true (-4) .no (.ob (-5))) (.slc true (-4) (.ob (-5)) (.ob (.bin .Add true (-5) (¬1))))) (.slc true (-4) (.ob (-5)) .no)])] #[],.ite (.val (.cmp .Eq (-8) (¬6))) #[.ret (.mth .join (![10]) #[.bin .Add true (.bin .Add true (.slc true (-4) .no (.ob (-5))) (.rvs true (.slc true (-4) (.ob (-5)) (.ob (.bin .Add true (-5) (¬2)))) (.neg (¬1)))) (.slc true (-4) (.ob (.bin .Add true (-5) (¬2))) .no)])] #[],.ite (.val (.cmp .Eq (-8) (¬7))) #[.ret (.mth .join (![10]) #[.bin .Add true (.bin .Add true (.slc true (-4) .no (.ob (-5))) (.lst true #[-7])) (.slc true (-4) (.ob (.bin .Add true (-5) (¬1))) .no)])] #[],.asg (.nm 9) (.lst true #[![119,105,100,116,104,32,48],![119,105,100,116,104,32,55],![119,105,100,116,104,32,48,54],![119,105,100,116,104,32,43,50],![119,105,100,116,104],![87,105,100,116,104,32,50],![119,105,100,116,104,32,50,32],![32,119,105,100,116,104,32,50],![119,105,100,116,104,32,49,48],![50]]),.ite (.val (.cmp .Eq (-8) (¬8))) #[.ret (.mth .join (![10]) #[.bin .Add true (.lst true #[.idx (-9) ("_law_take"<|#[-0,¬10])]) (.slc true (-4) (.ob (¬1)) .no)])] #[],.ret (-1)]
def wz:Sxs:=#[.ret (.mth .join (![]) #[.comp true (.idx (-1) ("_law_take"<|#[-2,.bcl .len #[-1]])) (.nm 0) (.rng (-1)) .yes ["at","signs","pen"] [none,some 2,some 0]])]
def wA:Sxs:=#[.asg (.nm 2) (.lst true #[![97],![103,111],![115,116,97,121],![97,98,99,100,101,102,103,104],![110,111,110,101],![121,101,115],![105,110],![111,117,116],![107,101,101,112],![119,111,114,100],![122,122]]),.asg (.nm 3) ("_law_take"<|#[-0,¬11]),.asg (.nm 4) (.comp true (.idx (-1) (.bin .Mod true (.bin .Add true (-2) (.bin .Mult true (¬3) (-0))) (¬11))) (.nm 0) (.rng (.bin .Add true (¬1) ("_law_take"<|#[-0,-1]))) .yes ["k","some","turn"] [none,some 2,some 3]),.ite (.val (.cmp .Eq ("_law_take"<|#[-0,¬3]) (¬0))) #[.asg (.nm 5) (![97,98,99,100,101,102,103,104,105,106,107,108,109,110,111,112,113,114,115,116,117,118,119,120,121,122]),.asg (.nm 4) (.comp true ("_law_signs"<|#[-1,.bin .Add true (¬1) ("_law_take"<|#[-1,¬8]),-2]) (.nm 0) (.seq (-4)) .yes ["one","pen","letters"] [none,some 0,some 5])] #[],.ret (-4)]
def wB:Sxs:=#[.ret ("_law_signs"<|#[-0,-1,.idx (.lst true #[![48,49,42],![48,49,42,42],![48,49,42,42,42,42],![48,42],![48,49]]) ("_law_take"<|#[-0,¬5])])]
def wC:Sxs:=#[.asg (.nm 2) (![]),.for_ (.nm 3) (.seq (-1)) #[.ite (.val (.cmp .Eq ("_law_take"<|#[-0,¬3]) (¬0))) #[.asg (.nm 3) (![42])] #[],.asg (.nm 2) (.bin .Add true (-2) (-3))],.ret (-2)]
def wD:Sxs:=#[.asg (.nm 2) (![]),.for_ (.nm 3) (.seq (-1)) #[.ite (.boo true (.val (.cmp .Eq (-3) (![42]))) #[.val (.cmp .Eq ("_law_take"<|#[-0,¬2]) (¬0))]) #[.asg (.nm 3) (.idx (![48,49]) ("_law_take"<|#[-0,¬2]))] #[],.asg (.nm 2) (.bin .Add true (-2) (-3))],.ret (-2)]
def wF:Sxs:=#[.asg (.nm 3) ("_law_take"<|#[-0,¬7]),.ite (.boo false (.val (.cmp .Eq (-2) (.lst true #[]))) #[.val (.cmp .Lt (-3) (¬2))]) #[.ret ("_law_form"<|#[-0,-1])] #[],.asg (.nm 4) (.idx (-2) ("_law_take"<|#[-0,.bcl .len #[-2]])),.ite (.val (.cmp .Eq (-3) (¬2))) #[.ret (-4)] #[],.ite (.val (.cmp .Lt (-3) (¬5))) #[.asg (.nm 5) ("_law_take"<|#[-0,-1]),.ret (.bin .Add true (.bin .Add true (.slc true (-4) .no (.ob (-5))) (.idx (![48,49,42]) ("_law_take"<|#[-0,¬3]))) (.slc true (-4) (.ob (.bin .Add true (-5) (¬1))) .no))] #[],.ite (.val (.cmp .Eq (-3) (¬5))) #[.ret ("_law_within"<|#[-0,-4])] #[],.ret ("_law_wider"<|#[-0,-4])]
def wG:Sxs:=#[.asg (.nm 3) (.bin .Add true (¬1) ("_law_take"<|#[-0,-1])),.asg (.nm 4) ("_law_deeds_of"<|#[-0,¬3]),.asg (.nm 5) (.lst false #[]),.asg (.nm 6) (.lst false #[]),.for_ (.nm 7) (.rng ("_law_take"<|#[-0,.bin .Add true (-2) (¬1)])) #[.exp (.mth .append (-5) #["_law_form_like"<|#[-0,-3,-5]]),.exp (.mth .append (-6) #[.tup #[.idx (-5) (.neg (¬1)),.idx (-4) ("_law_take"<|#[-0,.bcl .len #[-4]])]])],.ret (.tup #[-3,.bcl .tuple #[-6]])]
def wH:Sxs:=#[.ret (.bin .Add true (.bin .Add true (.idx (-0) (¬0)) (![32])) (.idx (-0) (¬1)))]
def wI:Sxs:=#[.ret (.bin .Add true (.lst true #[.bin .Add true (![119,105,100,116,104,32]) (.bcl .str #[.idx (-0) (¬0)])]) (.comp true ("_law_row_text"<|#[-0]) (.nm 0) (.seq (.idx (-0) (¬1))) .yes ["row"] [none]))]
def wJ:Sxs:=#[.ret (.mth .join (![]) #[.comp true (.bin .Add true (-0) (![10])) (.nm 0) (.seq ("_law_lines"<|#[-0])) .yes ["line"] [none]])]
def wK:Sxs:=#[.asg (.nm 2) (.mth .split (-1) #[![32]]),.ite (.boo false (.val (.cmp .NotEq (.bcl .len #[-2]) (¬2))) #[.val (.cmp .NotEq (.bcl .len #[.idx (-2) (¬0)]) (-0)),.not (.val (.chn .LtE .LtE (¬1) (.bcl .len #[.idx (-2) (¬1)]) (¬8)))]) #[.ret (.cst .non)] #[],.asg (.nm 3) (.comp true (-0) (.nm 0) (.seq (.idx (-2) (¬0))) (.val (.cmp .NotIn (-0) (![48,49,42]))) ["sign"] [none]),.ite (.val (.cmp .NotEq (.bin .Add true (-3) (.comp true (-0) (.nm 0) (.seq (.idx (-2) (¬1))) (.not (.val (.chn .LtE .LtE (![97]) (-0) (![122])))) ["sign"] [none])) (.lst true #[]))) #[.ret (.cst .non)] #[],.ret (.tup #[.idx (-2) (¬0),.idx (-2) (¬1)])]
def wL:Sxs:=#[.ite (.val (.cmp .NotIn (-0) (.comp true (.bin .Add true (![119,105,100,116,104,32]) (.bcl .str #[-0])) (.nm 0) (.rng2 (¬1) (¬7)) .yes ["number"] [none]))) #[.ret (.cst .non)] #[],.ret (.bcl .int #[.slc true (-0) (.ob (¬6)) .no])]
def wM:Sxs:=#[.asg (.nm 1) (.mth .split (-0) #[![10]]),.asg (.nm 2) (.slc true (-1) .no (.ob (.neg (¬1)))),.ite (.boo false (.val (.cmp .Eq (-2) (.lst true #[]))) #[.val (.cmp .Is ("_law_width_of"<|#[.idx (-2) (¬0)]) (.cst .non))]) #[.ret (.lst true #[![116,101,120,116],¬0])] #[],.asg (.nm 3) ("_law_width_of"<|#[.idx (-2) (¬0)]),.asg (.nm 4) (.lst false #[]),.for_ (.nm 5) (.rng2 (¬1) (.bcl .len #[-2])) #[.asg (.nm 6) ("_law_row_of"<|#[-3,.idx (-2) (-5)]),.ite (.boo false (.val (.cmp .Is (-6) (.cst .non))) #[.val (.cmp .Gt (-5) (¬12))]) #[.ret (.lst true #[![116,101,120,116],-5])] #[],.exp (.mth .append (-4) #[-6])],.ite (.val (.cmp .NotEq (.idx (-1) (.neg (¬1))) (![]))) #[.ret (.lst true #[![116,101,120,116],.bcl .len #[-2]])] #[],.ret (.lst true #[![98,111,111,107],.tup #[-3,.bcl .tuple #[-4]]])]
def wN:Sxs:=#[.asg (.nm 1) (.lcl false .list #[.slc true (-0) .no (.ob (¬12))]),.for_ (.tp #[.nm 2,.nm 3]) (.enm (.slc true (-0) (.ob (¬12)) (.ob (¬63)))) #[.set (-1) (.bin .Mod true (-2) (¬12)) (.bin .Add true (.idx (-1) (.bin .Mod true (-2) (¬12))) (-3))],.ret (.lst false #[.frz (-1),¬0,¬0])]
def dY:Sxs:=#[.ite (.val (.cmp .Is (-1) (.cst .non))) #[.ret (.cmp .Is (-0) (.cst .non))] #[],.ite (.boo false (.val (.isi (-1) "bool")) #[.val (.isi (-0) "bool")]) #[.ret (.boo true (.isi (-1) "bool") #[.isi (-0) "bool",.cmp .Eq (-0) (-1)])] #[],.ite (.val (.isi (-1) "int")) #[.ret (.boo true (.isi (-0) "int") #[.cmp .Eq (-0) (-1)])] #[],.ite (.val (.isi (-1) "str")) #[.ret (.boo true (.isi (-0) "str") #[.cmp .Eq (-0) (-1)])] #[],.ite (.boo false (.val (.cmp .NotEq (.isi (-1) "tuple") (.isi (-0) "tuple"))) #[.val (.cmp .NotEq (.isi (-1) "list") (.isi (-0) "list"))]) #[.ret (.cst (.bl false))] #[],.ite (.val (.cmp .NotEq (.bcl .len #[-0]) (.bcl .len #[-1]))) #[.ret (.cst (.bl false))] #[],.ret (.cmp .NotIn (.cst (.bl false)) (.comp true ("_law_same"<|#[-0,-1]) (.tp #[.nm 0,.nm 1]) (.zip (-0) (-1)) .yes ["one","other"] [none,none]))]
def jB:Sxs:=#[.ite (.boo false (.not (.val (.isi (-0) "str"))) #[.not (.val (.chn .LtE .LtE (¬1) (.bcl .len #[-0]) (.glb "LONGEST_DEED" (.int 8))))]) #[.ret (.cst (.bl false))] #[],.ret (.bcl .all #[.comp true (.cmp .In (-0) (.glb "LETTERS" (.str [97,98,99,100,101,102,103,104,105,106,107,108,109,110,111,112,113,114,115,116,117,118,119,120,121,122]))) (.nm 0) (.seq (-0)) .yes ["sign"] [none]])]
def jC:Sxs:=#[.ite (.boo false (.not (.val (.isi (-2) "str"))) #[.val (.cmp .NotEq (.bcl .len #[-2]) (-1))]) #[.ret (.cst (.bl false))] #[],.ret (.bcl .all #[.comp true (.cmp .In (-0) (-1)) (.nm 0) (.seq (-2)) .yes ["sign","signs"] [none,some 0]])]
def lA:Sxs:=#[.ret ("is_text_of"<|#[![48,49,42],-0,-1])]
def fW:Sxs:=#[.ite (.boo false (.not (.val (.isi (-1) "tuple"))) #[.val (.cmp .NotEq (.bcl .len #[-1]) (¬2))]) #[.ret (.cst (.bl false))] #[],.ret (.boo true ("is_form"<|#[-0,.idx (-1) (¬0)]) #["is_deed"<|#[.idx (-1) (¬1)]])]
def lB:Sxs:=#[.asg (.nm 2) (.bcl .tuple #[.mth .split (-1) #[![32]]]),.ret (.ife (.val ("is_row"<|#[-0,-2])) (-2) (.cst .non))]
def lC:Sxs:=#[.ret (.boo true (.isi (-0) "int") #[.not (.isi (-0) "bool")])]
def lE:Sxs:=#[.ret (.boo true ("is_whole"<|#[-0]) #[.chn .LtE .LtE (¬1) (-0) (.glb "WIDEST" (.int 6))])]
def lF:Sxs:=#[.ite (.boo false (.not (.val (.chn .LtE .LtE (¬1) (.bcl .len #[-0]) (¬2)))) #[.not (.val (.bcl .all #[.comp true (.cmp .In (-0) (.glb "FIGURES" (.str [48,49,50,51,52,53,54,55,56,57]))) (.nm 0) (.seq (-0)) .yes ["sign"] [none]]))]) #[.ret (.cst .non)] #[],.ite (.boo true (.val (.cmp .Eq (.bcl .len #[-0]) (¬2))) #[.val (.cmp .Eq (.idx (-0) (¬0)) (![48]))]) #[.ret (.cst .non)] #[],.ret (.bcl .int #[-0])]
def lG:Sxs:=#[.asg (.nm 1) (.mth .split (-0) #[![32]]),.ite (.boo false (.val (.cmp .NotEq (.bcl .len #[-1]) (¬2))) #[.val (.cmp .NotEq (.idx (-1) (¬0)) (![119,105,100,116,104]))]) #[.ret (.cst .non)] #[],.asg (.nm 2) ("read_number"<|#[.idx (-1) (¬1)]),.ret (.ife (.val ("is_width"<|#[-2])) (-2) (.cst .non))]
end
-- (.fst )
section
local macro_rules|`(#[])=>`(.nil)|`(#[$x])=>`(.cons $x .nil)|`(#[$x,$y,*])=>`(.cons $x #[$y,*])
local macro_rules|`(-$x)=>`(.var $x)
local macro_rules|`(¬$x)=>`(.cst (.int $x))
local macro_rules|`(!$x)=>`(.cst (.str $x))
local macro_rules|`($x<|$y)=>`(.call $x $y)
def wO:Sxs:=#[.asg (.nm 1) (.lst false #[.isx (-0) "Full" ["NoText"],.isx (-0) "NoBook" ["NoText"],.isx (-0) "NoForm" ["NoText"]]),.asg (.nm 1) (.bin .Add false (-1) (.lst true #[.isx (-0) "NoJoin" ["NoText"],.isx (-0) "NoLine" ["NoText"],.isx (-0) "NoMatch" ["NoText"]])),.asg (.nm 1) (.bin .Add false (-1) (.lst true #[.isx (-0) "NoOrder" ["NoText"],.isx (-0) "NoRow" ["NoText"],.isx (-0) "NoText" ["NoText"]])),.asg (.nm 1) (.bin .Add false (-1) (.lst true #[.isx (-0) "NoWord" ["NoText"],.isx (-0) "Nothing" ["NoText"],.isx (-0) "TooMany" ["NoText"]])),.exp (.mth .append (-1) #[.isx (-0) "Turned" ["NoText"]]),.ite (.boo false (.val (.cmp .NotEq (.mth .count (-1) #[.cst (.bl true)]) (¬1))) #[.not (.val (.isx (-0) "SieveError" ["NoText"])),.not (.val (.isx (-0) "ValueError" ["NoText"]))]) #[.ret (![111,100,100])] #[],.asg (.nm 2) (.lst true #[![102,117,108,108],![98,111,111,107],![102,111,114,109],![106,111,105,110],![108,105,110,101],![109,97,116,99,104],![111,114,100,101,114],![114,111,119],![116,101,120,116],![119,111,114,100],![110,111,116,104,105,110,103],![109,97,110,121]]),.ret (.idx (.bin .Add true (-2) (.lst true #[![116,117,114,110,101,100]])) (.mth .index (-1) #[.cst (.bl true)]))]
def wQ:Sxs:=#[.star 1 2 (.mth .split (-0) #[![10]]),.asg (.nm 3) (.ife (.val (-1)) ("read_width"<|#[.idx (-1) (¬0)]) (.cst .non)),.ite (.val (.cmp .Is (-3) (.cst .non))) #[.rsi "NoText" (¬0)] #[],.asg (.nm 4) (.lst false #[]),.for_ (.tp #[.nm 5,.nm 6]) (.en1 (.slc true (-1) (.ob (¬1)) .no)) #[.asg (.nm 7) ("read_row"<|#[-3,-6]),.ite (.boo false (.val (.cmp .Is (-7) (.cst .non))) #[.val (.cmp .Gt (-5) (.glb "MOST_ROWS" (.int 12)))]) #[.rsi "NoText" (-5)] #[],.exp (.mth .append (-4) #[-7])],.ite (.val (-2)) #[.rsi "NoText" (.bcl .len #[-1])] #[],.ret (.tup #[-3,.bcl .tuple #[-4]])]
def wR:Sxs:=#[.asg (.nm 1) (.lst false #[]),.tryh (.asl 1 false (![98,111,111,107]) "read_book" #[-0]) "SieveError" 2 #[.asg (.nm 1) (.lst false #["_law_refusal"<|#[-2]]),.ite (.val (.cmp .Eq (-1) (.lst true #[![116,101,120,116]]))) #[.exp (.mth .append (-1) #[.xat "NoText" "number" (-2)])] #[]] ["NoText"],.ret (.frz (-1))]
def wU:Sxs:=#[.asg (.nm 1) ("_law_open"<|#[-0]),.for_ (.nm 2) (.rng (¬6)) #[.asg (.nm 3) ("_law_book_text"<|#["_law_book"<|#["_law_anew"<|#[-1],.idx (.lst true #[¬3,¬6]) (.bin .Mod true (-2) (¬2)),.idx (.lst true #[¬5,¬12]) (.bin .FloorDiv true (-2) (¬3))]]),.for_ (.nm 4) (.seq (.lst true #["_law_bent"<|#[-1,-3],"_law_bent"<|#[-1,"_law_bent"<|#[-1,-3]]])) #[.ite (.not (.val ("_law_same"<|#["_law_told"<|#[-4],"_law_due"<|#[-4]]))) #[.ret (.cst (.bl false))] #[]]],.asg (.nm 5) (![48,49,42,32,103,111,10]),.for_ (.nm 6) (.seq (.lst true #[¬12,¬13,¬14])) #[.ite (.val (.cmp .NotEq ("_law_told"<|#[.bin .Add true (![119,105,100,116,104,32,51,10]) (.bin .Mult true (-5) (-6))]) ("_law_due"<|#[.bin .Add true (![119,105,100,116,104,32,51,10]) (.bin .Mult true (-5) (-6))]))) #[.ret (.cst (.bl false))] #[]],.asg (.nm 7) (.lst true #[![],![10],![119,105,100,116,104,32,51],![119,105,100,116,104,32,51,10,10],.bin .Add true (.bin .Add true (![119,105,100,116,104,32,51,10]) (.bin .Mult true (-5) (¬12))) (![120]),.bin .Add true (.bin .Add true (![119,105,100,116,104,32,51,10]) (.bin .Mult true (-5) (¬11))) (![48,49,42,32,103,111])]),.ret (.cmp .Eq (.comp true (-0) (.nm 0) (.seq (-7)) (.not (.val ("_law_same"<|#["_law_told"<|#[-0],"_law_due"<|#[-0]]))) ["text"] [none]) (.lst true #[]))]
end
end RF
local macro_rules | `(tactic| simp_arith! [$l,*] $[$c:location]?) => `(tactic| simp only [↓RF.uK, ↓RF.jZ, ↓RF.uN, ↓RF.uO, ↓RF.uP, ↓RF.uQ, ↓RF.uR, ↓RF.uT, ↓RF.uU, ↓RF.uZ, ↓RF.uV, ↓RF.uW, ↓RF.uY, ↓RF.Am, ↓RF.Al, ↓RF.uX, ↓RF.An, ↓RF.Ao, ↓RF.uH, ↓RF.uo, ↓RF.pH, ↓RF.jY, ↓RF.gq, ↓RF.Q5, ↓RF.Q6, ↓RF.Zw, ↓RF.tW, ↓RF.tX, ↓RF.tY, ↓RF.jV, ↓RF.gY, ↓RF.gn, ↓RF.tZ, ↓RF.pB, ↓RF.uc, ↓RF.pC, ↓RF.ud, ↓RF.ue, ↓RF.uf, ↓RF.ug, ↓RF.uh, ↓RF.ul, ↓RF.um, ↓RF.uM, ↓RF.uL, ↓RF.Xi, ↓RF.Xj, ↓RF.Xk, ↓RF.uI, ↓RF.x_at, ↓RF.Xo, ↓RF.Xl, ↓RF.Xm, ↓RF.dB, ↓RF.uq, ↓RF.ur, ↓RF.ut, ↓RF.pF, ↓RF.pG, ↓RF.uv, ↓RF.uw, ↓RF.ux, ↓RF.uy, ↓RF.uz, ↓RF.uA, ↓RF.uC, ↓RF.uB, ↓RF.uD, ↓RF.uE, ↓RF.uF, ↓RF.uG, ↓RF.gr, ↓RF.uJ, ↓RF.ZC, ↓RF.VN, ↓RF.VP, ↓RF.VR, ↓RF.VV, ↓RF.V0, ↓RF.V1, ↓RF.V2, ↓RF.V3, ↓RF.V4, ↓RF.V5, ↓RF.V6, ↓RF.V7, ↓RF.V8, ↓RF.V9, ↓RF.Wa, ↓RF.Wb, ↓RF.Wc, ↓RF.Wd, ↓RF.We, ↓RF.Wf, ↓RF.Wg, ↓RF.Wh, ↓RF.Wi, ↓RF.Wj, ↓RF.Wk, ↓RF.Wl, ↓RF.Wm, ↓RF.Wn, ↓RF.Wo, ↓RF.Wq, ↓RF.Wr, ↓RF.Ws, ↓RF.Wt, ↓RF.Wu, ↓RF.Wv, ↓RF.Wx, ↓RF.Wy, ↓RF.Wz, ↓RF.WD, ↓RF.WK, ↓RF.WF, ↓RF.WL, ↓RF.WM, ↓RF.WN, ↓RF.WP, ↓RF.WQ, ↓RF.WR, ↓RF.WT, ↓RF.WW, ↓RF.WX, ↓RF.WY, ↓RF.W6, ↓RF.W7, ↓RF.W5, ↓RF.W8, ↓RF.W4, ↓RF.W2, ↓RF.W3, ↓RF.W0, ↓RF.W9, ↓RF.Xa, ↓RF.Xb, ↓RF.Xc, ↓RF.Xd, ↓RF.Ek, ↓RF.El, ↓RF.Xg, ↓RF.Xh, ↓RF.XQ, ↓RF.XN, ↓RF.Xe, ↓RF.Xf, ↓RF.Xp, ↓RF.Xq, ↓RF.Xr, ↓RF.Xu, ↓RF.Xv, ↓RF.Xw, ↓RF.Xx, ↓RF.Xy, ↓RF.Xz, ↓RF.XC, ↓RF.XD, ↓RF.XF, ↓RF.XH, ↓RF.XJ, ↓RF.XM, ↓RF.XS, ↓RF.XX, ↓RF.X3, ↓RF.X4, ↓RF.X5, ↓RF.X6, ↓RF.X7, ↓RF.X8, ↓RF.Yb, ↓RF.Yc, ↓RF.Yd, ↓RF.Ye, ↓RF.Yg, ↓RF.Yh, ↓RF.is_tup, ↓RF.Yi, ↓RF.Yj, ↓RF.Yl, ↓RF.Yk, ↓RF.Ym, ↓RF.Yn, ↓RF.Ww, RF.Zx, RF.Zy, RF.Zz, Option.join_some, List.map_cons, List.map_nil, List.cons_append, List.nil_append, List.replicate_succ, List.replicate_zero, List.getElem?_cons_zero, List.getElem?_cons_succ, List.set_cons_zero, List.set_cons_succ, List.length_cons, List.length_nil, RF.Vw, RF.Vx, RF.Vy, RF.Vz, RF.VD, RF.VF, RF.VG, true_and, and_true, Nat.min_self, Nat.zero_min, Nat.min_zero, Nat.zero_le, Bool.or_false, Bool.or_true, Bool.false_or, Bool.true_or, Bool.not_true, Bool.not_false, RF.Yo, RF.Yp, RF.Yq, RF.Yr, RF.Ys, RF.Yt, RF.Yu, RF.Yv, RF.Yw, RF.Yx, RF.Yy, RF.Yz, RF.YB, RF.YC, RF.YD, RF.YF, RF.YG, RF.YH, RF.YJ, RF.YK, RF.YL, RF.YM, RF.YQ, RF.YS, RF.YT, RF.YW, RF.YX, RF.YZ, RF.Y0, RF.Y4, RF.Y5, RF.Y6, RF.Y7, RF.Y8, RF.Y9, RF.Za, RF.Zb, RF.Zc, RF.Zd, RF.Ze, RF.Zf, RF.Zg, RF.Zh, RF.Zi, RF.Zj, RF.Zk, RF.Zm, RF.Zn, RF.Zo, RF.Zq, RF.Zr, RF.Zt, RF.Zu, RF.Zv, RF.env0, RF.ends, String.reduceBEq, $l,*] $[$c:location]?)
local macro_rules | `(tactic| simp_arith [$l,*] $[$c:location]?) => `(tactic| simp_arith! [↓RF.jW, ↓RF.jX, $l,*] $[$c:location]?)
local macro_rules | `(tactic| simp_all_arith [$l,*]) => `(tactic| simp only [RF.env0, RF.ends, List.map_cons, List.map_nil, List.cons_append, List.nil_append, List.replicate_succ, List.replicate_zero, $l,*])
local macro_rules|`(tactic|bv_omega)=>`(tactic|(have hsz:RF.sz=1000000:=rfl;omega))
local macro_rules|`(tactic|symm)=>do let M:=Lean.mkIdent `M;let h:=Lean.mkIdent `hM;`(tactic|refine $h _ _ (RF.seq fun $M $h=>?_))
local macro_rules|`(tactic|nofun)=>do let M:=Lean.mkIdent `M;let h:=Lean.mkIdent `hM;`(tactic|refine RF.seq fun $M $h=>?_)
local macro_rules|`(tactic|ac_nf0)=>do let h:=Lean.mkIdent `hM;`(tactic|refine $h _ _ (RF.last ?_))
local macro_rules|`(tactic|erw[$[$x:term],*]$[$c:location]?)=>`(tactic|simp_arith[$[$x:term],*]$[$c:location]?)
namespace RF
open PySem L2
theorem iu{i j:Int}(h:-(2 ^ 64) < j/\j < 2 ^ 64):CMul i j:=.inr h
theorem wV{i j:Int}(h:-(2 ^ 64) < i/\i < 2 ^ 64):CMul i j:=.inl h
theorem Ep{j:Int}(h:0<=j/\j<=1000):nU 10 j:=⟨h.1,by omega,by decide⟩
def qH:RF.Spec:=bG (λds _=>∃c k:Int,ds=[.int c,.int k]/\0<=k) (λ_ G d G'=>G'=G/\∃r:Int,d=.int r/\0<=r)
theorem ZR(Z:ak)(ds:List D)(G:DH)(h:∃c k:Int,ds=[.int c,.int k]/\0<=k):au Z wj noE (env0 ds 3) G (ends λd G'=>G'=G/\∃r:Int,d=.int r/\0<=r):=by
 obtain ⟨c,k,rfl,hk⟩:=h;erw[wj];refine ⟨Ep (by decide),?_⟩;cases hc:decide (10 ^ Int.toNat 18<=c) with
 |true=>
  refine ⟨c,rfl,?_⟩;have:=of_decide_eq_true hc;have h2:(0:Int)<=(10:Int) ^ (18:Int).toNat:=by decide
  exact Int.le_trans h2 this
 |false=>
  generalize hone:(c % 1000000007 * 69069+k * 40503+977) % 2147483629=one;have o1:0<=one:=by rw[<-hone];exact e6 _ (by decide)
  have o2:one < 2147483629:=by rw[<-hone];exact eW _ (by decide)
  generalize htwo:(one * one+k * 7919+c % 65537) % 2147483587=two;have t1:0<=two:=by rw[<-htwo];exact e6 _ (by decide)
  have t2:two < 2147483587:=by rw[<-htwo];exact eW _ (by decide)
  generalize hthree:(two * two+one * 31+5) % 2147483563=three;have h1:0<=three:=by rw[<-hthree];exact e6 _ (by decide)
  clear hone htwo hthree;refine ⟨by decide,iu (by decide),iu (by decide),by decide,wV (by omega),iu (by decide),by decide,by decide,wV (by omega),iu (by decide),by decide,iu (by decide),iu (by decide),_,rfl,?_⟩;omega
def Pen(G:DH)(p:Addr):Prop:=∃(ns:List Int)(k st:Int),G p=some (.lst [.lst (ns.map D.int),.int k,.int st])/\0<=k/\0<=st
theorem Pen.sa{G G':DH}{p:Addr}(h:Pen G p)(s:Sa G G'):Pen G' p:=by obtain ⟨ns,k,st,e,h1⟩:=h;exact ⟨ns,k,st,s _ _ e,h1⟩
theorem Pen.ne{G:DH}{p q:Addr}(h:Pen G p)(e:G q=none):p≠q:=by obtain ⟨ns,k,st,e1,h1⟩:=h;exact oO e1 e
theorem Pen.sb{G G':DH}{p q:Addr}(h:Pen G p)(s:Sb q G G')(n:p≠q):Pen G' p:=by obtain ⟨ns,k,st,e,h1⟩:=h;exact ⟨ns,k,st,s _ _ e n,h1⟩
def qI:RF.Spec:=bG (λds G=>∃p,ds=[.ref p]/\Pen G p) (λds G d G'=>∃p,ds=[.ref p]/\d=.ref p/\Pen G' p/\Sb p G G')
theorem ZS(Z:ak)(ds:List D)(G:DH)(h:∃p,ds=[.ref p]/\Pen G p):au Z wg noE (env0 ds 0) G (ends λd G'=>∃p,ds=[.ref p]/\d=.ref p/\Pen G' p/\Sb p G G'):=by obtain ⟨p,rfl,ns,k,st,e,h1,h2⟩:=h;erw[wg,cH e];exact ⟨p,rfl,rfl,⟨ns,k,0,bj,h1,by decide⟩,Sb.upd⟩
def dF:RF.Spec:=bG (λds G=>∃p,∃m:Int,ds=[.ref p,.int m]/\Pen G p/\0 < m/\m < 1152921504606846976) (λds G d G'=>∃p,∃m r:Int,ds=[.ref p,.int m]/\d=.int r/\0<=r/\r < m/\Pen G' p/\Sb p G G')
theorem ZV (Z:ak) (hΦ:Z "_law_spread"=qH) (ds:List D) (G:DH) (h:∃p,∃m:Int,ds=[.ref p,.int m]/\Pen G p/\0 < m/\m < 1152921504606846976):
  au Z wk noE (env0 ds 3) G (ends λd G'=>∃p,∃m r:Int,ds=[.ref p,.int m]/\d=.int r/\0<=r/\r < m/\Pen G' p/\Sb p G G'):=by
 obtain ⟨p,m,rfl,⟨ns,k,st,e,h1,h2⟩,h3,h4⟩:=h;simp_all_arith[wk];nofun;have fin:∀(ρ2 ρ3 ρ4:Option D)(G1:DH)(k1 s1:Int),0<=k1->0<=s1->G1 p=some (.lst [.lst (ns.map D.int),.int k1,.int s1])->Sb p G G1->M [some (.ref p),some (.int m),ρ2,ρ3,ρ4] G1:=by intro ρ2 ρ3 ρ4 G1 k1 s1 q1 q2 e1 sb;refine hM _ _ ?_;erw[bc e1,cH e1];refine ⟨h3,⟨h3,h4⟩,p,m,_,rfl,rfl,e6 _ (by omega),eW _ h3,⟨ns,k1,_,bj,q1,?_⟩,sb.trans Sb.upd⟩;exact Int.ediv_nonneg q2 (by omega)
 erw[bc e,cH e,hΦ];have draw:∀c:Int,qH.t [.int c,.int k] (aQ G p (.lst [.lst (ns.map D.int),.int (k+1),.int st])) (λx G1=>trk G1 p λds=>aP (ixN ds.length 2) λj=>M [some (.ref p),some (.int m),some (.int k),some (.int c),none] (aQ G1 p (.lst (ds.set j x)))) noE:=by intro c;refine b7 ⟨c,k,rfl,h1⟩ λd G' hx=>?_;obtain ⟨e1,r,e2,hr⟩:=hx;subst e1 e2;erw[cH bj];refine fin _ _ _ _ (k+1) r (by omega) hr bj (Sb.trans Sb.upd Sb.upd)
 cases hc:decide (st < m) with
 |false=>exact fin _ _ _ _ k st h1 h2 e (Sb.refl _ _)
 |true=>
  cases hk:decide (k < ((ns.map D.int).length:Int)) with
  |true=>
   have hk:=of_decide_eq_true hk;rw[ah]at hk;refine bx (a:=.int ns[k.toNat]) ?_ ?_
   ·obtain ⟨n,rfl⟩:=cK h1;exact dM (by simp at hk ⊢)
   ·exact draw _
  |false=>
   cases hz:decide (0 < ((ns.map D.int).length:Int)) with
   |false=>exact draw 0
   |true=>
    have hz:=of_decide_eq_true hz;have j1:0<=(k * 5+3) % ((ns.map D.int).length:Int):=e6 _ (by omega);have j2:(k * 5+3) % ((ns.map D.int).length:Int) < ((ns.map D.int).length:Int):=eW _ hz;obtain ⟨j,hj⟩:=cK j1;rw[hj]at j2;have j3:j < ns.length:=by rw[ah]at j2;omega
    refine ⟨iu (by decide),hz,bx (a:=.int ns[j]) ?_ ⟨Ep (by decide),?_⟩⟩
    ·rw[hj];exact dM (by simp[j3])
    ·erw[cH e];refine ⟨?_,draw _⟩;have:(0:Int) < 10 ^ Int.toNat 17:=by decide
     omega
def lH:RF.Spec:=bG (λds G=>∃p,∃n:Nat,∃cs:List Nat,ds=[.ref p,.int n,.str cs]/\Pen G p/\n<=1000/\cs≠[]/\cs.length<=1000)
 (λds G d G'=>∃p,∃n:Nat,∃cs l:List Nat,ds=[.ref p,.int n,.str cs]/\d=.str l/\l.length=n/\(∀c∈l,c∈cs)/\Pen G' p/\Sb p G G')
theorem ZW(l:List Nat):((l.map λc=>[c]).map (·.length)).sum=l.length:=by
 induction l with
 |nil=>rfl
 |cons a l ih=>simp at ih ⊢;omega
theorem ZX(l:List Nat):(l.map λc=>[c]).flatten=l:=by
 induction l with
 |nil=>rfl
 |cons a l ih=>simp at ih ⊢;exact ih
theorem ZZ (Z:ak) (hΦ:Z "_law_take"=dF) (ds:List D) (G:DH) (h:∃p,∃n:Nat,∃cs:List Nat,ds=[.ref p,.int n,.str cs]/\Pen G p/\n<=1000/\cs≠[]/\cs.length<=1000):
  au Z wz noE (env0 ds 0) G (ends λd G'=>∃p,∃n:Nat,∃cs l:List Nat,ds=[.ref p,.int n,.str cs]/\d=.str l/\l.length=n/\(∀c∈l,c∈cs)/\Pen G' p/\Sb p G G'):=by
 obtain ⟨p,n,cs,rfl,hp,hn,hc,hl⟩:=h;have hc1:0 < cs.length:=List.length_pos_iff.mpr hc;erw[wz,hΦ];refine ⟨by omega,CompG.inv (P:=λi acc Y G'=>(∃o,Y=[o,some (.str cs),some (.ref p)])/\Pen G' p/\Sb p G G'/\∃l:List Nat,acc=l.map (λc=>D.str [c])/\l.length=i/\∀c∈l,c∈cs) (h0:=⟨⟨_,rfl⟩,hp,Sb.refl _ _,[],rfl,rfl,by simp⟩) (hh:=λ_ _ _ _ _=>trivial) (hl:=by simp[bA];bv_omega) (hs:=?_) (he:=?_)⟩
 ·rintro i d acc Y G' hd ⟨⟨o,rfl⟩,hp',sb,l,rfl,hl',hm⟩ kk hk;erw[hΦ];refine b7 ⟨p,_,rfl,hp',by omega,by omega⟩ λd' G2 hx=>?_;obtain ⟨p2,m2,r,e1,e2,r0,r1,pp2,sb2⟩:=hx;cases e1;subst e2;obtain ⟨j,rfl⟩:=cK r0;have hj:j < cs.length:=by omega
  erw[ends];refine bx (a:=cs[j]) (dM (by simp[hj])) (hk _ _ _ ⟨⟨_,rfl⟩,pp2,sb.trans sb2,l++[cs[j]],by simp,by simp[hl'],?_⟩);intro c hc;rcases bv.mp hc with h |h
  ·exact hm c h
  ·rw[bn.mp h];exact fF _
 ·rintro acc Y G' ⟨_,hp',sb,l,rfl,hl',hm⟩;erw[strs_map];have hl2:l.length=n:=by rw[hl'];simp[bA]
  refine ⟨?_,p,n,cs,l,rfl,?_,hl2,hm,hp',sb⟩
  ·rw[ZW];simp;bv_omega
  ·rw[vY,ZX]
def isF(c:Nat):Prop:=c=48\/c=49\/c=42
def wW:RF.Spec:=bG (λds G=>∃p,∃n:Nat,ds=[.ref p,.int n]/\Pen G p/\n<=1000) (λds G d G'=>∃p,∃n:Nat,∃l:List Nat,ds=[.ref p,.int n]/\d=.str l/\l.length=n/\(∀c∈l,isF c)/\Pen G' p/\Sb p G G')
theorem Z0 (Z:ak) (h1:Z "_law_take"=dF) (h2:Z "_law_signs"=lH) (ds:List D) (G:DH) (h:∃p,∃n:Nat,ds=[.ref p,.int n]/\Pen G p/\n<=1000):
  au Z wB noE (env0 ds 0) G (ends λd G'=>∃p,∃n:Nat,∃l:List Nat,ds=[.ref p,.int n]/\d=.str l/\l.length=n/\(∀c∈l,isF c)/\Pen G' p/\Sb p G G'):=by
 obtain ⟨p,n,rfl,hp,hn⟩:=h;erw[wB,h1,h2];refine ⟨by decide,b7 ⟨p,_,rfl,hp,by decide,by decide⟩ λd' G2 ⟨p2,m2,r,e1,e2,r0,r1,pp2,sb2⟩=>?_⟩;cases e1;subst e2;obtain ⟨j,rfl⟩:=cK r0;erw[ends];have:∃cs:List Nat,atI [D.str [48,49,42],D.str [48,49,42,42],D.str [48,49,42,42,42,42],D.str [48,42],D.str [48,49]] ((j:Nat):Int)=some (.str cs)/\cs≠[]/\cs.length<=1000/\∀c∈cs,isF c:=by
  have hj:j=0\/j=1\/j=2\/j=3\/j=4:=by omega
  rcases hj with rfl |rfl |rfl |rfl |rfl <;> exact ⟨_,rfl,by decide,by decide,by simp[isF]⟩
 obtain ⟨cs,e,c1,c2,c3⟩:=this;refine bx e (b7 ⟨p,n,cs,rfl,pp2,hn,c1,c2⟩ λd G3 ⟨p3,n3,cs3,l,e1,e2,q1,q2,q3,q4⟩=>?_);cases e1;exact ⟨p,n,l,rfl,e2,q1,λc hc=>c3 c (q2 c hc),q3,sb2.trans q4⟩
def wX:RF.Spec:=bG (λds _=>∃ns:List Int,ds=[.scr ns]/\ns.length<=63) (λ_ G d G'=>∃p,d=.ref p/\G p=none/\Pen G' p/\Sa G G')
theorem Z1(Z:ak)(ds:List D)(G:DH)(h:∃ns:List Int,ds=[.scr ns]/\ns.length<=63):au Z wN noE (env0 ds 3) G (ends λd G'=>∃p,d=.ref p/\G p=none/\Pen G' p/\Sa G G'):=by
 obtain ⟨ns,rfl,hl⟩:=h;simp_all_arith[wN];nofun;erw[ends];intro c hc;refine hM _ _ ?_;nofun;erw[ends];refine ForG.inv (λi Y G'=>∃(o2 o3:Option D)(xs:List Int),Y=[some (.scr ns),some (.ref c),o2,o3]/\G'=aQ G c (.lst (xs.map D.int))/\(12<=xs.length\/cut ns (some 12) (some 63)=[])) ⟨_,_,cut ns none (some 12),rfl,rfl,?_⟩ (λ_ _ _ _=>trivial) ?_ ?_
 ·by_cases h12:12<=ns.length
  ·left;simp[cut,HT.sIx];omega
  ·right;simp[cut,HT.sIx];omega
 ·rintro i d Y G' hd ⟨o2,o3,xs,rfl,rfl,hx⟩ kk hk;rw[kZ]at hd;obtain ⟨d',hd',e3⟩:=bg.mp hd;subst e3;rw[cr]at hd';obtain ⟨x,hx',e4⟩:=bg.mp hd';subst e4;have h12:12<=xs.length:=by
   rcases hx with h |h
   ·exact h
   ·rw[h]at hx';simp at hx'
  obtain ⟨j,hj⟩:=cK (e6 ((0+i:Nat):Int) (by decide:(12:Int)≠0));have hj12:j < 12:=by have:=eW ((0+i:Nat):Int) (by decide:(0:Int) < 12);omega
  have hjx:j < xs.length:=by omega
  erw[hj,bc bj,cH bj];refine ⟨by decide,bx (a:=.int xs[j]) (dM (by simp[hjx])) ?_⟩;erw[hj,bc bj,cH bj,ah,VB hjx];refine ⟨by decide,hk _ _ ⟨_,_,xs.set j (xs[j]+x),rfl,?_,by simp[h12]⟩⟩;rw[Q0,List.map_set]
 ·rintro Y G' ⟨o2,o3,xs,rfl,rfl,hx⟩;refine hM _ _ ?_;erw[bj];refine ⟨by bv_omega,λp hp=>⟨p,rfl,?_,⟨xs,0,0,bj,by decide,by decide⟩,?_⟩⟩
  ·rw[Ab hc]at hp;exact hp
  ·rw[Ab hc]at hp ⊢;exact Sa.new hp
def lJ:RF.Spec:=bG (λds _=>∃ns:List Int,ds=[.scr ns]/\ns.length<=63) (λ_ _ d _=>d=.bl true)
def whole:D->Bool
 |.int _=>true
 |_=>false
def jD:List D->Option D
 |[x]=>if nr x then some (.bl (whole x)) else none
 |_=>none
theorem Z2(Z:ak)(ds:List D)(G:DH)(d:D)(h:jD ds=some d):au Z lC noE (env0 ds 0) G (ends λd' G'=>G'=G/\d'=d):=by
 unfold jD at h;split at h
 ·rename_i x;split at h
  ·rename_i hx;cases h;cases x <;> first | (simp[nr]at hx;done) | (erw[lC,whole];try simp)
  ·cases h
 ·cases h
def gH:D->Bool
 |.int i=>decide (1<=i)&&decide (i<=6)
 |_=>false
def lK:List D->Option D
 |[x]=>if nr x then some (.bl (gH x)) else none
 |_=>none
theorem Z3 (Z:ak) (h1:Z "is_whole"=bJ jD) (ds:List D) (G:DH) (d:D) (h:lK ds=some d):au Z lE noE (env0 ds 0) G (ends λd' G'=>G'=G/\d'=d):=by
 unfold lK at h;split at h
 ·rename_i x;split at h
  ·rename_i hx;cases h;have hf:jD [x]=some (.bl (whole x)):=if_pos hx;erw[lE,h1];refine jx hf ?_;cases x <;> first | (simp[nr]at hx;done) | (erw[whole,gH];first | (simp;done) |skip)
   rename_i i;cases hi:decide (1<=i) with
   |true=>simp
   |false=>simp
  ·cases h
 ·cases h
def isText(s:List Nat)(w:Int):D->Bool
 |.str l=>decide ((l.length:Int)=w)&&l.all (λc=>s.contains c)
 |_=>false
def szd:D->Bool
 |.str l=>decide (l.length<=100000)
 |_=>true
def fText:List D->Option D
 |[.str s,.int w,x]=>if nr x&&szd x then some (.bl (isText s w x)) else none
 |_=>none
theorem all_map{l:List Nat}{f:Nat->Bool}:((l.map f).all id)=l.all f:=by
 induction l with
 |nil=>rfl
 |cons a l ih=>simp[ih]
theorem Z4(Z:ak)(ds:List D)(G:DH)(d:D)(h:fText ds=some d):au Z jC noE (env0 ds 0) G (ends λd' G'=>G'=G/\d'=d):=by
 unfold fText at h;split at h
 ·rename_i s w x;split at h
  ·rename_i hx;cases h;rw[ae]at hx;cases x with
   |str l=>
    have hl:l.length<=100000:=by simpa [szd] using hx.2
    erw[jC,isText];by_cases hw:(l.length:Int)=w
    ·have hb:(((l.length:Int)==w):Bool)=true:=by simp[hw]
     erw[hb];refine CompG.map (f:=λd=>match d with |.str [c]=>.bl (s.contains c) |_=>.non) (I:=λY=>∃o,Y=[o,some (.str s)]) ⟨_,rfl⟩ trivial (by simp;bv_omega) ?_ ?_
     ·rintro d Y hd ⟨o,rfl⟩ kk hk;obtain ⟨c,_,rfl⟩:=bP.mp hd;erw[ends];exact hk _ ⟨_,rfl⟩
     ·rw[fg];erw[Function.comp_def,vX,all_map];simp only[ce hw,Bool.true_and,and_self]
    ·have hb:(((l.length:Int)==w):Bool)=false:=by simp[hw]
     erw[hb];simp[hw]
   |ref p=>simp[nr]at hx
   |scr p=>simp[nr]at hx
   |exn p=>simp[nr]at hx
   |exa _ _ _=>simp[nr]at hx
   |obj _ _ _=>simp[nr]at hx
   |_=>erw[jC,isText];try simp
  ·cases h
 ·cases h
def lL:List D->Option D
 |[.int w,x]=>if nr x&&szd x then some (.bl (isText [48,49,42] w x)) else none
 |_=>none
theorem Z5 (Z:ak) (h1:Z "is_text_of"=bJ fText) (ds:List D) (G:DH) (d:D) (h:lL ds=some d):au Z lA noE (env0 ds 0) G (ends λd' G'=>G'=G/\d'=d):=by
 unfold lL at h;split at h
 ·rename_i w x;split at h
  ·rename_i hx;cases h;erw[lA,h1];exact jx (d:=.bl (isText [48,49,42] w x)) (if_pos hx) ⟨rfl,rfl⟩
  ·cases h
 ·cases h
mutual
/-- no list within that is too long -/
def fX:D->Bool
 |.tup l=>decide (l.length<=100000)&&fY l
 |.lst l=>decide (l.length<=100000)&&fY l
 |_=>true
def fY:List D->Bool
 |[]=>true
 |a::as=>fX a&&fY as
end
theorem Er:∀{l:List D}{d:D},nrs l=true->d∈l->nr d=true
 |a::as,d,h,m=>by
  rw[nrs,ae]at h;rcases ay.mp m with e |m
  ·rw[e];exact h.1
  ·exact Er h.2 m
theorem Es:∀{l:List D}{d:D},fY l=true->d∈l->fX d=true
 |a::as,d,h,m=>by
  rw[fY,ae]at h;rcases ay.mp m with e |m
  ·rw[e];exact h.1
  ·exact Es h.2 m
theorem Et:∀{l:List D}{d:D},d∈l->dpt d<=aO l
 |a::as,d,m=>by
  rw[aO];rcases ay.mp m with e |m
  ·rw[e];exact Nat.le_max_left _ _
  ·exact bi (Et m) (Nat.le_max_right _ _)
theorem lM{n:Nat}:isIn (.bl false) (List.replicate n (.bl true))=false:=by
 induction n with
 |zero=>rfl
 |succ n ih=>simp only[isIn,dn,List.any_cons,deq]at ih ⊢;rw[ih];rfl
theorem lN{n:Nat}{b:Bool}:nrs (List.replicate n (.bl b))=true:=by
 induction n with
 |zero=>rfl
 |succ n ih=>rw[dn,nrs,ih];rfl
theorem lO{n:Nat}{b:Bool}:aO (List.replicate n (.bl b))=0:=by
 induction n with
 |zero=>rfl
 |succ n ih=>rw[dn,aO,ih];rfl
theorem Z6:∀(l:List D)(i:Nat)(d:D),(bW l l)[i]?=some d->∃a,a∈l/\d=.tup [a,a]
 |l,i,d,h=>by
  obtain ⟨a,b,h1,h2,rfl⟩:=vP l l i d h;rw[h1]at h2;cases h2;exact ⟨a,c8 h1,rfl⟩
def Eu(n:Nat)(ds:List D)(G:DH):Prop:=∃x y v,ds=[x,y]/\view G x=v/\view G y=v/\nr v=true/\dpt v < n/\fX v=true
def dG(n:Nat):RF.Spec:=bG (Eu n) (λ_ G d G'=>G'=G/\d=.bl true)
theorem Z7{n:Nat}{x y v:D}{G:DH}{k:D->DH->Prop}{E:EK}(hx:view G x=v)(hy:view G y=v)(h1:nr v=true)(h2:dpt v < n)(h3:fX v=true)(hk:k (.bl true) G):(dG n).t [x,y] G k E:=
 b7 ⟨x,y,v,rfl,hx,hy,h1,h2,h3⟩ λd G' ⟨e1,e2⟩=>by subst e1 e2;exact hk
theorem wY{x:D}{G:DH}(h1:nr x=true):view G x=x:=by cases x <;> first |rfl | (simp[nr]at h1)
theorem wZ{n:Nat}{x:D}{G:DH}{k:D->DH->Prop}{E:EK}(h1:nr x=true)(h2:dpt x < n)(h3:fX x=true)(hk:k (.bl true) G):(dG n).t [x,x] G k E:=
 Z7 (wY h1) (wY h1) h1 h2 h3 hk
theorem lQ (Z:ak) (n:Nat) (h1:Z "_law_same"=dG n) {l:List D} {G:DH} {g:Hld} {k:List D->DH->Prop} (hg:held g G) (hn:nrs l=true) (hd:aO l < n) (hs:fY l=true) (hl:l.length<=100000)
  (he:k (List.replicate (bW l l).length (.bl true)) G):
  CompG Z (Ex.call "_law_same" (Exs.cons (Ex.var 0) (Exs.cons (Ex.var 1) Exs.nil))) (Tg.tp (Tgs.cons (Tg.nm 0) (Tgs.cons (Tg.nm 1) Tgs.nil))) Tx.yes (bW l l) g [none,none] G k:=by
 refine CompG.inv (P:=λi acc Y G'=>(∃o1 o2,Y=[o1,o2])/\G'=G/\acc=List.replicate i (.bl true)) ⟨⟨_,_,rfl⟩,rfl,rfl⟩ (λ_ _ _ _ p=>by rw[p.2.1];exact hg) (by rw[qy];bv_omega) ?_ ?_
 ·rintro i d acc Y G' hd' ⟨⟨o1,o2,rfl⟩,rfl,rfl⟩ kk hk;obtain ⟨a,ha,rfl⟩:=Z6 l i d hd';erw[h1];refine wZ (Er hn ha) (Nat.lt_of_le_of_lt (Et ha) hd) (Es hs ha) (hk _ _ _ ⟨⟨_,_,rfl⟩,rfl,?_⟩);simp[List.replicate_succ']
 ·rintro acc Y G' ⟨_,rfl,rfl⟩;exact he
theorem w5{G:DH}{x:D}{l:List D}(hv:view G x=.lst l):x=.lst l\/∃p,x=.ref p/\G p=some (.lst l):=by
 cases x with
 |lst l'=>cases hv;exact .inl rfl
 |ref p=>
  refine .inr ⟨p,rfl,?_⟩;unfold view at hv;cases g:G p with
  |none=>simp only[g]at hv;cases hv
  |some o=>cases o;simp only[g]at hv;cases hv;rfl
 |_=>cases hv
theorem Z8 (Z:ak) (n:Nat) (h1:Z "_law_same"=dG n) (ds:List D) (G:DH) (h:Eu (n+1) ds G):au Z dY noE (env0 ds 0) G (ends λd G'=>G'=G/\d=.bl true):=by
 obtain ⟨x,y,v,rfl,hx,hy,hn,hd,hs⟩:=h;cases v with
 |non=>cases Ae hx;cases Ae hy;erw[dY]
 |bl b=>cases tB hx;cases tB hy;erw[dY];simp
 |int i=>cases dO hx;cases dO hy;erw[dY];simp
 |str l=>cases eF hx;cases eF hy;erw[dY];simp
 |ref p=>simp[nr]at hn
 |scr p=>simp[nr]at hn
 |exn p=>simp[nr]at hn
 |exa _ _ _=>simp[nr]at hn
 |obj _ _ _=>simp[nr]at hn
 |tup l=>
  cases eE hx;cases eE hy;rw[nr]at hn;rw[dpt]at hd;rw[fX,ae,cw]at hs;erw[dY];erw[fx,BEq.rfl];refine lQ Z n h1 (by first |trivial | (unfold held;simp)) hn (by omega) hs.2 hs.1 ?_;rw[lM,lN,lO];simp
 |lst l=>
  rw[nr]at hn;rw[dpt]at hd;rw[fX,ae,cw]at hs;rcases w5 hx with rfl |⟨p,rfl,ex⟩
  ·rcases w5 hy with rfl |⟨q,rfl,ey⟩
   ·erw[dY];erw[fx,BEq.rfl];refine lQ Z n h1 (by trivial) hn (by omega) hs.2 hs.1 ?_;rw[lM,lN,lO];simp
   ·erw[dY,bc ey,gF ey];erw[fx,BEq.rfl,bc ey,gF ey];refine lQ Z n h1 (by exact ⟨ey,trivial⟩) hn (by omega) hs.2 hs.1 ?_;rw[lM,lN,lO];simp
  ·rcases w5 hy with rfl |⟨q,rfl,ey⟩
   ·erw[dY,bc ex,gF ex];erw[fx,BEq.rfl,bc ex,gF ex];refine lQ Z n h1 (by exact ⟨ex,trivial⟩) hn (by omega) hs.2 hs.1 ?_;rw[lM,lN,lO];simp
   ·erw[dY,bc ex,gF ex,bc ey,gF ey];erw[fx,BEq.rfl,bc ex,gF ex,bc ey,gF ey];refine lQ Z n h1 (by exact ⟨ex,ey,trivial⟩) hn (by omega) hs.2 hs.1 ?_;rw[lM,lN,lO];simp
theorem Z9(ds:List D)(G:DH)(a:(dG 0).A):¬(dG 0).pre ds G a:=λ⟨_,_,_,_,_,_,_,_,h,_⟩=>by omega
def okF(w:Nat)(l:List Nat):Prop:=l.length=w/\∀c∈l,isF c
theorem okF.app{w v:Nat}{l m:List Nat}(h:okF w l)(h':okF v m):okF (w+v) (l++m):=⟨by rw[aw,h.1,h'.1],λc hc=>(bv.mp hc).elim (h.2 c) (h'.2 c)⟩
theorem okF.one{c:Nat}(h:isF c):okF 1 [c]:=⟨rfl,λd hd=>by rw[bn.mp hd];exact h⟩
theorem bK{p:Addr}{m:Int}{G:DH}{k:D->DH->Prop}{E:EK}(hp:Pen G p)(h1:0 < m)(h2:m < 1152921504606846976)(hk:∀(r:Nat)(G':DH),(r:Int) < m->Pen G' p->Sb p G G'->k (.int r) G'):dF.t [.ref p,.int m] G k E:=by refine b7 ⟨p,m,rfl,hp,h1,h2⟩ λd G' hx=>?_;obtain ⟨p2,m2,r,e1,e2,r0,r1,hp',sb⟩:=hx;cases e1;subst e2;obtain ⟨n,rfl⟩:=cK r0;exact hk n G' r1 hp' sb
theorem aaa{n:Nat}(h:(n:Int) < 2):∃c,atI [48,49] (n:Int)=some c/\isF c:=by
 have:n=0\/n=1:=by omega
 rcases this with rfl |rfl
 ·exact ⟨48,rfl,.inl rfl⟩
 ·exact ⟨49,rfl,.inr (.inl rfl)⟩
theorem aab{n:Nat}(h:(n:Int) < 3):∃c,atI [48,49,42] (n:Int)=some c/\isF c:=by
 have:n=0\/n=1\/n=2:=by omega
 rcases this with rfl |rfl |rfl
 ·exact ⟨48,rfl,.inl rfl⟩
 ·exact ⟨49,rfl,.inr (.inl rfl)⟩
 ·exact ⟨42,rfl,.inr (.inr rfl)⟩
def xf(ds:List D)(G:DH):Prop:=∃p l,ds=[.ref p,.str l]/\Pen G p/\(∀c∈l,isF c)/\l.length<=1000
def xg(ds:List D)(G:DH)(d:D)(G':DH):Prop:=∃p l m,ds=[.ref p,.str l]/\d=.str m/\okF l.length m/\Pen G' p/\Sb p G G'
def iw:RF.Spec:=bG xf xg
theorem Ew{p:Addr}{l:List Nat}{G:DH}{k:D->DH->Prop}{E:EK}(hp:Pen G p)(hl:∀c∈l,isF c)(h2:l.length<=1000)(hk:∀(m:List Nat)(G':DH),okF l.length m->Pen G' p->Sb p G G'->k (.str m) G'):iw.t [.ref p,.str l] G k E:=by refine b7 ⟨p,l,rfl,hp,hl,h2⟩ λd G' hx=>?_;obtain ⟨p2,l2,m,e1,e2,h,hp',sb⟩:=hx;cases e1;subst e2;exact hk m G' h hp' sb
theorem aac (Z:ak) (h1:Z "_law_take"=dF) (ds:List D) (G:DH) (h:xf ds G):au Z wD noE (env0 ds 2) G (ends (xg ds G)):=by
 obtain ⟨p,l,rfl,hp,hl,hl2⟩:=h;simp_all_arith[wD];nofun;erw[ends];symm;simp_arith![ends];refine ForG.inv (P:=λi Y G'=>(∃o m,Y=[some (.ref p),some (.str l),some (.str m),o]/\okF i m)/\Pen G' p/\Sb p G G') ⟨⟨_,_,rfl,rfl,by simp⟩,hp,Sb.refl _ _⟩ (λ_ _ _ _=>trivial) ?_ ?_
 ·rintro i d Y G2 hd ⟨⟨o,m,rfl,hm⟩,hp2,sb2⟩ kk hk;rw[cr]at hd;obtain ⟨c,hc,rfl⟩:=bg.mp hd;have hi:i < l.length:=(bd.mp hc).1;have fc:=hl c (c8 hc);have l1:=hm.1;simp_arith![ends];nofun;have fin:∀(c:Nat)(G3:DH),isF c->Pen G3 p->Sb p G2 G3->M [some (.ref p),some (.str l),some (.str m),some (.str [c])] G3:=by
   intro c G3 fc hp3 sb3;ac_nf0;erw[ends];exact ⟨by bv_omega,hk _ _ ⟨⟨_,_,rfl,hm.app (okF.one fc)⟩,hp3,sb2.trans sb3⟩⟩
  erw[h1];cases ht:([c]==[42]) with
  |false=>exact fin c G2 fc hp2 (Sb.refl _ _)
  |true=>
   refine bK hp2 (by decide) (by decide) λr G3 hr hp3 sb3=>?_;erw[ends];cases hr0:((r:Int)==0) with
   |false=>exact fin c G3 fc hp3 sb3
   |true=>
    refine bK hp3 (by decide) (by decide) λr' G4 hr' hp4 sb4=>?_;obtain ⟨c',e,fc'⟩:=aaa hr';erw[e];exact fin c' G4 fc' hp4 (sb3.trans sb4)
 ·rintro Y G2 ⟨⟨o,m,rfl,hm⟩,hp2,sb2⟩;refine hM _ _ ?_;erw[ends];exact ⟨p,l,m,rfl,rfl,by simpa using hm,hp2,sb2⟩
theorem aad (Z:ak) (h1:Z "_law_take"=dF) (ds:List D) (G:DH) (h:xf ds G):au Z wC noE (env0 ds 2) G (ends (xg ds G)):=by
 obtain ⟨p,l,rfl,hp,hl,hl2⟩:=h;simp_all_arith[wC];nofun;erw[ends];symm;simp_arith![ends];refine ForG.inv (P:=λi Y G'=>(∃o m,Y=[some (.ref p),some (.str l),some (.str m),o]/\okF i m)/\Pen G' p/\Sb p G G') ⟨⟨_,_,rfl,rfl,by simp⟩,hp,Sb.refl _ _⟩ (λ_ _ _ _=>trivial) ?_ ?_
 ·rintro i d Y G2 hd ⟨⟨o,m,rfl,hm⟩,hp2,sb2⟩ kk hk;rw[cr]at hd;obtain ⟨c,hc,rfl⟩:=bg.mp hd;have hi:i < l.length:=(bd.mp hc).1;have fc:=hl c (c8 hc);have l1:=hm.1;simp_arith![ends];nofun;have fin:∀(c:Nat)(G3:DH),isF c->Pen G3 p->Sb p G2 G3->M [some (.ref p),some (.str l),some (.str m),some (.str [c])] G3:=by
   intro c G3 fc hp3 sb3;ac_nf0;erw[ends];exact ⟨by bv_omega,hk _ _ ⟨⟨_,_,rfl,hm.app (okF.one fc)⟩,hp3,sb2.trans sb3⟩⟩
  erw[h1];refine bK hp2 (by decide) (by decide) λr G3 hr hp3 sb3=>?_;erw[ends];cases hr0:((r:Int)==0) with
  |false=>exact fin c G3 fc hp3 sb3
  |true=>exact fin 42 G3 (.inr (.inr rfl)) hp3 sb3
 ·rintro Y G2 ⟨⟨o,m,rfl,hm⟩,hp2,sb2⟩;refine hM _ _ ?_;erw[ends];exact ⟨p,l,m,rfl,rfl,by simpa using hm,hp2,sb2⟩
theorem Ey{G G':DH}{p:Addr}{x:D}{fs:List (List Nat)}(hv:view G x=.lst (fs.map D.str))(hp:Pen G p)(sb:Sb p G G'):view G' x=.lst (fs.map D.str):=by
 cases x with
 |ref q=>
  unfold view at hv;dsimp only at hv;cases g:G q with
  |none=>rw[g]at hv;cases hv
  |some o=>
   cases o with
   |lst ds=>
    rw[g]at hv;have e:ds=fs.map D.str:=by simpa using hv
    have hn:q≠p:=by
     rintro rfl;obtain ⟨ns,k,st,e1,_⟩:=hp;rw[g,e]at e1;cases fs with
     |nil=>simp at e1
     |cons a r=>simp at e1
    rw[bc (sb q _ g hn),e]
 |lst l=>exact hv
 |_=>cases hv
def Ez(ds:List D)(G:DH):Prop:=∃p,∃w:Nat,∃x,∃fs:List (List Nat),ds=[.ref p,.int w,x]/\Pen G p/\0 < w/\w<=1000/\view G x=.lst (fs.map D.str)/\fs.length<=1000/\∀f∈fs,okF w f
def xj(ds:List D)(G:DH)(d:D)(G':DH):Prop:=∃p,∃w:Nat,∃x m,ds=[.ref p,.int w,x]/\d=.str m/\okF w m/\Pen G' p/\Sb p G G'
def qJ:RF.Spec:=bG Ez xj
theorem aae{p:Addr}{w:Nat}{x:D}{fs:List (List Nat)}{G:DH}{k:D->DH->Prop}{E:EK}(hp:Pen G p)(h1:0 < w)(h2:w<=1000)(hv:view G x=.lst (fs.map D.str))(h3:fs.length<=1000)(h4:∀f∈fs,okF w f)
  (hk:∀(m:List Nat)(G':DH),okF w m->Pen G' p->Sb p G G'->k (.str m) G'):qJ.t [.ref p,.int w,x] G k E:=by
 refine b7 ⟨p,w,x,fs,rfl,hp,h1,h2,hv,h3,h4⟩ λd G' hx=>?_;obtain ⟨p2,w2,x2,m,e1,e2,h,hp',sb⟩:=hx;simp only[List.cons.injEq,D.ref.injEq,D.int.injEq,Int.ofNat_inj,and_true]at e1;obtain ⟨rfl,rfl,rfl⟩:=e1;subst e2;exact hk m G' h hp' sb
theorem aaf(fs:List (List Nat)):nrs (fs.map D.str)=true:=by
 induction fs with
 |nil=>rfl
 |cons a l ih=>rw[ci,nrs,ih];rfl
theorem aag(fs:List (List Nat)):aO (fs.map D.str)=0:=by
 induction fs with
 |nil=>rfl
 |cons a l ih=>rw[ci,aO,ih];rfl
theorem aah{w n:Nat}{l:List Nat}{c:Nat}(h:okF w l)(hn:n < w)(fc:isF c):okF w (cut l none (some (n:Int))++[c]++cut l (some ((n:Int)+1)) none):=by
 have h1:=h.1;rw[VL,VM];refine ⟨?_,λd hd=>?_⟩
 ·simp;omega
 ·rcases bv.mp hd with hd |hd
  ·rcases bv.mp hd with hd |hd
   ·exact h.2 d (List.mem_of_mem_take hd)
   ·rw[bn.mp hd];exact fc
  ·exact h.2 d (List.mem_of_mem_drop hd)
theorem aai (Z:ak) (h1:Z "_law_take"=dF) (h2:Z "_law_form"=wW) (h3:Z "_law_within"=iw) (h4:Z "_law_wider"=iw) (ds:List D) (G:DH) (h:Ez ds G):au Z wF noE (env0 ds 3) G (ends (xj ds G)):=by
 obtain ⟨p,w,x,fs,rfl,hp,w1,w2,hv,hf,hfs⟩:=h;simp_all_arith[wF];nofun;erw[h1];refine bK hp (by decide) (by decide) λkd G2 hkd hp2 sb2=>?_;have hv2:=Ey hv hp sb2;symm;have drawn:∀(Y:aj) (G3:DH),Pen G3 p->Sb p G G3->au Z (.cons (.ret (.call "_law_form" (.cons (.var 0) (.cons (.var 1) .nil)))) .nil) noE (some (.ref p)::some (.int w)::Y) G3 { nx:=M,rt:=xj [.ref p,.int w,x] G,bk:=λ_ _=>False,ct:=λ_ _=>False }:=by intro Y G3 hp3 sb3;erw[h2];refine b7 ⟨p,w,rfl,hp3,w2⟩ λd G4 hx=>?_;obtain ⟨p4,n4,l,e1,e2,l1,l2,hp4,sb4⟩:=hx;simp only[List.cons.injEq,D.ref.injEq,D.int.injEq,Int.ofNat_inj,and_true]at e1;obtain ⟨rfl,rfl⟩:=e1;exact ⟨p,w,x,l,rfl,e2,⟨l1,l2⟩,hp4,sb3.trans sb4⟩
 simp_arith![hv2,VJ,aag,aaf];refine ⟨by decide,?_⟩;cases he:(fs.map D.str).isEmpty with
 |true=>exact drawn _ _ hp2 sb2
 |false=>
  have hlen:0 < fs.length:=by
   cases fs with
   |nil=>simp at he
   |cons a r=>simp
  simp_arith![ends];cases hk2:decide ((kd:Int) < 2) with
  |true=>exact drawn _ _ hp2 sb2
  |false=>
   erw[ends];symm;erw[h1,hv2,ah];refine bK hp2 (by omega) (by omega) λr G3 hr hp3 sb3=>?_;have hv3:=Ey hv2 hp2 sb3;erw[hv3];have hr':r < fs.length:=by omega
   refine bx (a:=.str fs[r]) (dM (by simp[hr'])) ?_;have fok:=hfs fs[r] (fF _);generalize fs[r]=f at fok;symm;have sb':=sb2.trans sb3;erw[ends];cases hk3:((kd:Int)==2) with
   |true=>exact ⟨p,w,x,f,rfl,rfl,fok,hp3,sb'⟩
   |false=>
    symm;simp_arith![ends];cases hk5:decide ((kd:Int) < 5) with
    |true=>
     erw[h1];refine bK hp3 (by omega) (by omega) λat' G4 hat hp4 sb4=>?_;refine bK hp4 (by decide) (by decide) λs G5 hs hp5 sb5=>?_;obtain ⟨c,e,fc⟩:=aab hs;have c1:=qC f none (some (at':Int));have c2:=qC f (some ((at':Int)+1)) none;have f1:=fok.1;erw[e,aw];exact ⟨by bv_omega,by bv_omega,p,w,x,_,rfl,rfl,aah fok (by omega) fc,hp5,sb'.trans (sb4.trans sb5)⟩
    |false=>
     erw[ends];symm;have f1:=fok.1;erw[h3];cases hk6:((kd:Int)==5) with
     |true=>
      refine Ew hp3 fok.2 (by omega) λm G4 hm hp4 sb4=>?_;rw[f1]at hm;exact ⟨p,w,x,m,rfl,rfl,hm,hp4,sb'.trans sb4⟩
     |false=>
      refine hM _ _ ?_;erw[h4];refine Ew hp3 fok.2 (by omega) λm G4 hm hp4 sb4=>?_;rw[f1]at hm;exact ⟨p,w,x,m,rfl,rfl,hm,hp4,sb'.trans sb4⟩
def okD(l:List Nat):Prop:=1<=l.length/\l.length<=8/\∀c∈l,97<=c/\c<=122
theorem aaj{p:Addr}{n:Nat}{cs:List Nat}{G:DH}{k:D->DH->Prop}{E:EK}(hp:Pen G p)(hn:n<=1000)(h1:cs≠[])(h2:cs.length<=1000)(hk:∀(l:List Nat)(G':DH),l.length=n->(∀c∈l,c∈cs)->Pen G' p->Sb p G G'->k (.str l) G'):lH.t [.ref p,.int n,.str cs] G k E:=by refine b7 ⟨p,n,cs,rfl,hp,hn,h1,h2⟩ λd G' hx=>?_;obtain ⟨p2,n2,cs2,l,e1,e2,l1,l2,hp',sb⟩:=hx;simp only[List.cons.injEq,D.ref.injEq,D.int.injEq,D.str.injEq,Int.ofNat_inj,and_true]at e1;obtain ⟨rfl,rfl,rfl⟩:=e1;subst e2;exact hk l G' l1 l2 hp' sb
def EY(ds:List D)(G:DH):Prop:=∃p,∃m:Int,ds=[.ref p,.int m]/\Pen G p/\0 < m/\m<=100
def Fb(ds:List D)(G:DH)(d:D)(G':DH):Prop:=∃p,∃m:Int,∃xs:List (List Nat),ds=[.ref p,.int m]/\d=.lst (xs.map D.str)/\0 < xs.length/\xs.length<=100/\(∀x∈xs,okD x)/\Pen G' p/\Sb p G G'
def qK:RF.Spec:=bG EY Fb
def xm:List (List Nat):=[[97],[103,111],[115,116,97,121],[97,98,99,100,101,102,103,104],[110,111,110,101],[121,101,115],[105,110],[111,117,116],[107,101,101,112],[119,111,114,100],[122,122]]
theorem aak:∀x∈xm,okD x:=by
 have h:∀x∈xm,1<=x.length/\x.length<=8/\∀c∈x,97<=c/\c<=122:=by decide
 exact h
theorem Fd{c:Nat}(h:c∈[97,98,99,100,101,102,103,104,105,106,107,108,109,110,111,112,113,114,115,116,117,118,119,120,121,122]):97<=c/\c<=122:=by
 have:∀c∈[97,98,99,100,101,102,103,104,105,106,107,108,109,110,111,112,113,114,115,116,117,118,119,120,121,122],97<=c/\c<=122:=by decide
 exact this c h
theorem aal (Z:ak) (h1:Z "_law_take"=dF) (h2:Z "_law_signs"=lH) (ds:List D) (G:DH) (h:EY ds G):au Z wA noE (env0 ds 4) G (ends (Fb ds G)):=by
 obtain ⟨p,m,rfl,hp,m1,m2⟩:=h;simp_all_arith[wA];nofun;erw[ends];refine ⟨by decide,hM _ _ ?_⟩;refine (λtail=>tail xm rfl aak) (?_:∀xs:List (List Nat),xs.length=11->(∀x∈xs,okD x)->au Z _ noE [some (.ref p),some (.int m),some (.lst (xs.map D.str)),none,none,none] G _);intro xs x1 x2;nofun;erw[h1];refine bK hp (by decide) (by decide) λt G2 ht hp2 sb2=>?_;symm;erw[h1];refine bK hp2 (by omega) (by omega) λr G3 hr hp3 sb3=>?_;erw[ends];refine ⟨by omega,?_⟩;refine CompG.inv (P:=λi acc Y G'=>(∃o,Y=[o,some (.lst (xs.map D.str)),some (.int t)])/\G'=G3/\∃ys:List (List Nat),acc=ys.map D.str/\ys.length=i/\∀y∈ys,okD y) ⟨⟨_,rfl⟩,rfl,[],rfl,rfl,by simp⟩ (λ_ _ _ _ _=>trivial) (by simp[bA];bv_omega) ?_ ?_
 ·rintro i d acc Y G' hd ⟨⟨o,rfl⟩,rfl,ys,rfl,y1,y2⟩ kk hk;unfold bA at hd;rw[cr]at hd;obtain ⟨j,hj,rfl⟩:=bg.mp hd;erw[ends];have q0:0<=((t:Int)+3 * (0+(j:Int))) % 11:=e6 _ (by decide);have q1:((t:Int)+3 * (0+(j:Int))) % 11 < 11:=eW _ (by decide);refine ⟨wV (by decide),by decide,fU q0 (by rw[ah,x1];exact q1) λa ha=>?_⟩;obtain ⟨x,hx,rfl⟩:=bP.mp ha;refine hk _ _ _ ⟨⟨_,rfl⟩,rfl,ys++[x],by simp,by simp[y1],λy hy=>?_⟩;rcases bv.mp hy with h |h
  ·exact y2 y h
  ·rw[bn.mp h];exact x2 x hx
 ·rintro acc Y G' ⟨_,rfl,ys,rfl,y1,y2⟩;have hy:ys.length=r+1:=by rw[y1];simp[bA];omega
  symm;erw[h1];refine bK hp3 (by decide) (by decide) λq G4 hq hp4 sb4=>?_;have sb':=sb2.trans (sb3.trans sb4);erw[ends];cases hq0:((q:Int)==0) with
  |false=>
   refine hM _ _ ?_;erw[ends];exact ⟨p,m,ys,rfl,rfl,by omega,by omega,y2,hp4,sb'⟩
  |true=>
   erw[ends];refine CompG.inv (P:=λi acc Y G'=>(∃o,Y=[o,some (.ref p),some (.str [97,98,99,100,101,102,103,104,105,106,107,108,109,110,111,112,113,114,115,116,117,118,119,120,121,122])])/\Pen G' p/\Sb p G G'/\∃zs:List (List Nat),acc=zs.map D.str/\zs.length=i/\∀z∈zs,okD z) ⟨⟨_,rfl⟩,hp4,sb',[],rfl,rfl,by simp⟩ (λ_ _ _ _ _=>trivial) (by simp;bv_omega) ?_ ?_
   ·rintro i d acc Y G' hd ⟨⟨o,rfl⟩,hp5,sb5,zs,rfl,z1,z2⟩ kk hk;erw[h1,h2];refine bK hp5 (by decide) (by decide) λn G6 hn hp6 sb6=>?_;erw[ends];rw[show (1:Int)+(n:Int)=((n+1:Nat):Int) by omega];refine aaj hp6 (by omega) (by simp) (by simp) λl G7 l1 l2 hp7 sb7=>?_;refine hk _ _ _ ⟨⟨_,rfl⟩,hp7,sb5.trans (sb6.trans sb7),zs++[l],by simp,by simp[z1],λz hz=>?_⟩;rcases bv.mp hz with h |h
    ·exact z2 z h
    ·rw[bn.mp h];exact ⟨by omega,by omega,λc hc=>Fd (l2 c hc)⟩
   ·rintro acc Y G' ⟨_,hp5,sb5,zs,rfl,z1,z2⟩;rw[ah]at z1;refine hM _ _ ?_;erw[ends];exact ⟨p,m,zs,rfl,rfl,by omega,by omega,z2,hp5,sb5⟩
abbrev Row:=List Nat×List Nat
def cJ(r:Row):D:=.tup [.str r.1,.str r.2]
def cQ(w:Nat)(rs:List Row):D:=.tup [.int w,.tup (rs.map cJ)]
structure okB(w:Nat)(rs:List Row):Prop where
 w1:1<=w
 w6:w<=6
 len:rs.length<=12
 form:∀r∈rs,okF w r.1
 deed:∀r∈rs,okD r.2
def Fe(ds:List D)(G:DH):Prop:=∃p,∃w m:Nat,ds=[.ref p,.int w,.int m]/\Pen G p/\1<=w/\w<=6/\m<=12
def Ff(ds:List D)(G:DH)(d:D)(G':DH):Prop:=∃p,∃w m v:Nat,∃rs:List Row,ds=[.ref p,.int w,.int m]/\d=cQ v rs/\okB v rs/\v<=w/\rs.length<=m/\Pen G' p/\Sb p G G'
def qL:RF.Spec:=bG Fe Ff
theorem aam{p:Addr}{w m:Nat}{G:DH}{k:D->DH->Prop}{E:EK}(hp:Pen G p)(h1:1<=w)(h2:w<=6)(h3:m<=12)(hk:∀(v:Nat)(rs:List Row)(G':DH),okB v rs->v<=w->rs.length<=m->Pen G' p->Sb p G G'->k (cQ v rs) G'):qL.t [.ref p,.int w,.int m] G k E:=by refine b7 ⟨p,w,m,rfl,hp,h1,h2,h3⟩ λd G' hx=>?_;obtain ⟨p2,w2,m2,v,rs,e1,e2,o,q1,q2,hp',sb⟩:=hx;simp only[List.cons.injEq,D.ref.injEq,D.int.injEq,Int.ofNat_inj,and_true]at e1;obtain ⟨rfl,rfl,rfl⟩:=e1;subst e2;exact hk v rs G' o q1 q2 hp' sb
theorem aan{p:Addr}{m:Int}{G:DH}{k:D->DH->Prop}{E:EK}(hp:Pen G p)(h1:0 < m)(h2:m<=100)(hk:∀(xs:List (List Nat))(G':DH),0 < xs.length->xs.length<=100->(∀x∈xs,okD x)->Pen G' p->Sb p G G'->k (.lst (xs.map D.str)) G'):qK.t [.ref p,.int m] G k E:=by refine b7 ⟨p,m,rfl,hp,h1,h2⟩ λd G' hx=>?_;obtain ⟨p2,m2,xs,e1,e2,q1,q2,q3,hp',sb⟩:=hx;cases e1;subst e2;exact hk xs G' q1 q2 q3 hp' sb
theorem rO{α:Type}{l:List α}{a:α}:atI (l++[a]) (-1)=some a:=by unfold atI ixN;rw[if_neg (by decide),if_pos (by simp;omega),aw,List.length_singleton,show (-1+((l.length+1:Nat):Int)).toNat=l.length by omega];simp
theorem aao (Z:ak) (h1:Z "_law_take"=dF) (h2:Z "_law_deeds_of"=qK) (h3:Z "_law_form_like"=qJ) (ds:List D) (G:DH) (h:Fe ds G):au Z wG noE (env0 ds 5) G (ends (Ff ds G)):=by
 obtain ⟨p,w,m,rfl,hp,w1,w2,m1⟩:=h;simp_all_arith[wG];nofun;erw[h1];refine bK hp (by omega) (by omega) λn G2 hn hp2 sb2=>?_;erw[ends];rw[show (1:Int)+(n:Int)=((n+1:Nat):Int) by omega];symm;erw[h2];refine aan hp2 (by decide) (by decide) λxs G3 x1 x2 x3 hp3 sb3=>?_;symm;erw[ends];refine λq hq=>hM _ _ (seq λM hM=>?_);erw[ends];refine λs hs=>hM _ _ (seq λM hM=>?_);have hqs:q≠s:=by rintro rfl;rw[bj]at hs;cases hs
 have hs3:G3 s=none:=by rw[cN (Ne.symm hqs)]at hs;exact hs
 have npq:p≠q:=hp3.ne hq;have nps:p≠s:=hp3.ne hs3;have sa4:Sa G3 (aQ (aQ G3 q (.lst [])) s (.lst [])):=(Sa.new hq).trans (Sa.new hs);have hp4:=hp3.sa sa4;simp_arith![h1];refine bK hp4 (by omega) (by omega) λr G5 hr hp5 sb5=>?_;simp_arith![ends];refine ⟨by omega,?_⟩;refine ForG.inv (P:=λi Y G'=>(∃o,Y=[some (.ref p),some (.int w),some (.int m),some (.int ((n+1:Nat):Int)),some (.lst (xs.map D.str)),some (.ref q),some (.ref s),o])/\Pen G' p/\Sb p G G'/\
   ∃rs:List Row,G' q=some (.lst ((rs.map (·.1)).map D.str))/\G' s=some (.lst (rs.map cJ))/\rs.length=i/\(∀r∈rs,okF (n+1) r.1)/\∀r∈rs,okD r.2) ⟨⟨_,rfl⟩,hp5,sb2.trans (sb3.trans (sa4.sb.trans sb5)),[],?_,?_,rfl,by simp,by simp⟩ (λ_ _ _ _=>trivial) ?_ ?_
 ·exact sb5 q _ (by rw[cN hqs];exact bj) (Ne.symm npq)
 ·exact sb5 s _ bj (Ne.symm nps)
 ·rintro i d Y G' hd ⟨⟨o,rfl⟩,hp6,sb6,rs,g1,g2,r1,r2,r3⟩ kk hk;have hi:i < r:=by
   have:=(bd.mp hd).1;simpa [bA] using this
  simp_arith![ends];nofun;erw[h3,cH g1];refine aae (fs:=rs.map (·.1)) hp6 (by omega) (by omega) (bc g1) (by simp;omega) (λf hf=>?_) λf G7 hf hp7 sb7=>?_
  ·obtain ⟨r',hr',rfl⟩:=bP.mp hf;exact r2 r' hr'
  have g1':=sb7 q _ g1 (Ne.symm npq);have g2':=sb7 s _ g2 (Ne.symm nps);erw[cH g1'];refine ⟨by simp;bv_omega,hM _ _ (last ?_)⟩;have e2:aQ G7 q (.lst ((rs.map (·.1)).map D.str++[.str f])) s=some (.lst (rs.map cJ)):=by rw[cN (Ne.symm hqs)];exact g2'
  have hp8:Pen (aQ G7 q (.lst ((rs.map (·.1)).map D.str++[.str f]))) p:=hp7.sb Sb.upd npq;erw[h1,cH e2,bc bj,rO,ah];refine bK hp8 (by omega) (by omega) λt G9 ht hp9 sb9=>?_;have e1':=sb9 q _ bj (Ne.symm npq);have e2':=sb9 s _ e2 (Ne.symm nps);erw[cH e2'];refine fU (by omega) (by simp;omega) λx hx=>?_;obtain ⟨dd,hdd,rfl⟩:=bP.mp hx;refine ⟨by decide,by simp;bv_omega,hk _ _ ⟨⟨_,rfl⟩,hp9.sb Sb.upd nps,?_,rs++[(f,dd)],?_,?_,by simp[r1],?_,?_⟩⟩
  ·intro b ob hb nb;by_cases hbs:b=s
   ·subst hbs;exfalso;have z:=sb2 b _ hb nb;have z:=sb3 b _ z nb;rw[hs3]at z;cases z
   ·by_cases hbq:b=q
    ·subst hbq;exfalso;have z:=sb2 b _ hb nb;have z:=sb3 b _ z nb;rw[hq]at z;cases z
    ·rw[cN hbs];exact sb9 b _ (by rw[cN hbq];exact sb7 b _ (sb6 b _ hb nb) nb) nb
  ·rw[cN hqs,e1'];simp
  ·rw[bj];simp[cJ]
  ·intro r' hr';rcases bv.mp hr' with h |h
   ·exact r2 r' h
   ·rw[bn.mp h];exact hf
  ·intro r' hr';rcases bv.mp hr' with h |h
   ·exact r3 r' h
   ·rw[bn.mp h];exact x3 dd hdd
 ·rintro Y G' ⟨⟨o,rfl⟩,hp6,sb6,rs,g1,g2,r1,r2,r3⟩;have hl:rs.length=r:=by rw[r1];simp[bA]
  refine hM _ _ ?_;erw[bc g2];exact ⟨by decide,p,w,m,n+1,rs,rfl,rfl,⟨by omega,by omega,by omega,r2,r3⟩,by omega,by omega,hp6,sb6⟩
mutual
def szA:D->Bool
 |.str l=>decide (l.length<=100000)
 |.tup l=>decide (l.length<=100000)&&jE l
 |.lst l=>decide (l.length<=100000)&&jE l
 |_=>true
def jE:List D->Bool
 |[]=>true
 |a::as=>szA a&&jE as
end
theorem Fg{x:D}(h:szA x=true):szd x=true:=by cases x <;> first |rfl | (rw[szA]at h;exact h)
def letters:List Nat:=[97,98,99,100,101,102,103,104,105,106,107,108,109,110,111,112,113,114,115,116,117,118,119,120,121,122]
theorem aap:∀c:Fin 123,97<=c.1->letters.contains c.1=true:=by decide
theorem aaq{c:Nat}:letters.contains c=true↔97<=c/\c<=122:=
 ⟨λh=>Fd (al.mp h),λ⟨h1,h2⟩=>aap ⟨c,Nat.lt_succ_of_le h2⟩ h1⟩
def dq:D->Bool
 |.str l=>decide (1<=l.length)&&decide (l.length<=8)&&l.all (λc=>letters.contains c)
 |_=>false
def lR:List D->Option D
 |[x]=>if nr x&&szd x then some (.bl (dq x)) else none
 |_=>none
theorem aar(Z:ak)(ds:List D)(G:DH)(d:D)(h:lR ds=some d):au Z jB noE (env0 ds 0) G (ends λd' G'=>G'=G/\d'=d):=by
 unfold lR at h;split at h
 ·rename_i x;split at h
  ·rename_i hx;cases h;rw[ae]at hx;cases x with
   |str l=>
    have hl:l.length<=100000:=by simpa [szd] using hx.2
    erw[jB,dq];by_cases hw:1<=l.length
    ·have hb:decide ((1:Int)<=(l.length:Int))=true:=ce (by omega);erw[hb];by_cases hw8:l.length<=8
     ·have hb8:decide ((l.length:Int)<=8)=true:=ce (by omega);erw[hb8];refine CompG.map (f:=λd=>match d with |.str [c]=>.bl (letters.contains c) |_=>.non) (I:=λY=>∃o,Y=[o]) ⟨_,rfl⟩ trivial (by simp;bv_omega) ?_ ?_
      ·rintro d Y hd ⟨o,rfl⟩ kk hk;obtain ⟨c,_,rfl⟩:=bP.mp hd;erw[ends];exact hk _ ⟨_,rfl⟩
      ·rw[fg];erw[Function.comp_def,vX,all_map];simp only[ce hw,ce hw8,Bool.true_and,and_self]
     ·have hb8:decide ((l.length:Int)<=8)=false:=ba (by omega);erw[hb8];simp only[ba hw8,ff,Bool.false_and]
    ·have hb:decide ((1:Int)<=(l.length:Int))=false:=ba (by omega);erw[hb];simp only[ba hw,Bool.false_and]
   |ref p=>simp[nr]at hx
   |scr p=>simp[nr]at hx
   |exn p=>simp[nr]at hx
   |exa _ _ _=>simp[nr]at hx
   |obj _ _ _=>simp[nr]at hx
   |_=>erw[jB,dq];try simp
  ·cases h
 ·cases h
def dZ(w:Int):D->Bool
 |.tup [a,b]=>isText [48,49,42] w a&&dq b
 |_=>false
def lU:List D->Option D
 |[.int w,x]=>if nr x&&szA x then some (.bl (dZ w x)) else none
 |_=>none
theorem aas (Z:ak) (h1:Z "is_form"=bJ lL) (h2:Z "is_deed"=bJ lR) (ds:List D) (G:DH) (d:D) (h:lU ds=some d):au Z fW noE (env0 ds 0) G (ends λd' G'=>G'=G/\d'=d):=by
 unfold lU at h;split at h
 ·rename_i w x;split at h
  ·rename_i hx;cases h;rw[ae]at hx;cases x with
   |tup l=>
    match l,hx with
    |[],_=>erw[fW,dZ];try simp
    |[a],_=>erw[fW,dZ];try simp
    |[a,b],hx=>
     simp only[nr,nrs,szA,jE,Bool.and_true,ae]at hx;obtain ⟨⟨n1,n2⟩,_,s1,s2⟩:=hx;have g1:(nr a&&szd a)=true:=by rw[n1,Fg s1];rfl
     have g2:(nr b&&szd b)=true:=by rw[n2,Fg s2];rfl
     erw[fW,h1,h2];erw[show ((0+1+1:Nat):Int)=2 from rfl,BEq.rfl];refine jx (if_pos g1) ?_;erw[ends];cases ht:isText [48,49,42] w a with
     |false=>simp[dZ,ht]
     |true=>
      refine jx (if_pos g2) ?_;erw[ends];simp[dZ,ht]
    |a::b::c::r,_=>
     have hb:((((r.length+1+1+1:Nat):Int)==2):Bool)=false:=by rw[dQ];omega
     erw[fW,dZ,hb]
   |ref p=>simp[nr]at hx
   |scr p=>simp[nr]at hx
   |exn p=>simp[nr]at hx
   |exa _ _ _=>simp[nr]at hx
   |obj _ _ _=>simp[nr]at hx
   |_=>erw[fW,dZ];try simp
  ·cases h
 ·cases h
theorem d7{α β:Type}(f:α->β)(l:List α)(lo hi:Option Int):cut (l.map f) lo hi=(cut l lo hi).map f:=by unfold cut;rw[ah,List.map_take,List.map_drop]
theorem aat{p:Addr}{G:DH}{k:D->DH->Prop}{E:EK}(hp:Pen G p)(hk:∀G',Pen G' p->Sb p G G'->k (.ref p) G'):qI.t [.ref p] G k E:=
 b7 ⟨p,rfl,hp⟩ λd G' hx=>by obtain ⟨p2,e1,e2,hp',sb⟩:=hx;cases e1;subst e2;exact hk G' hp' sb
def eU(r:Row):List Nat:=r.1++32::r.2
def bh:List Nat:=[119,105,100,116,104,32]
def du(w:Nat)(rs:List Row):List (List Nat):=(bh++aM w)::rs.map eU
def gJ(w:Nat)(rs:List Row):List Nat:=((du w rs).map (·++[10])).flatten
def okR(r:Row):Prop:=r.1.length<=100/\r.2.length<=100
theorem qM:∀w:Fin 7,(aM w.1).length=1:=by ac_rfl
theorem okB.okR{w:Nat}{rs:List Row}(h:okB w rs):∀r∈rs,RF.okR r:=λr hr=>⟨by have:=(h.form r hr).1;have:=h.w6;omega,by have:=(h.deed r hr).2.1;omega⟩
def qN:RF.Spec:=fV (λr:Row=>[cJ r]) okR (λr=>.str (eU r))
theorem aau{r:Row}{G:DH}{k:D->DH->Prop}{E:EK}(h:okR r)(hk:k (.str (eU r)) G):qN.t [cJ r] G k E:=jA r rfl h hk
theorem aav(Z:ak)(r:Row)(G:DH)(h:okR r):au Z wH noE (env0 [cJ r] 0) G (ends λd G'=>G'=G/\d=.str (eU r)):=by obtain ⟨h1,h2⟩:=h;erw[wH,cJ,eU,aw,List.append_assoc];exact ⟨by bv_omega,by bv_omega⟩
theorem aaw{r:Row}(h:okR r):(eU r).length<=201:=by unfold eU;rw[aw,aS];have:=h.1;have:=h.2;omega
theorem Fi{α:Type}(f:α->List Nat)(l:List α):bf (l.map λa=>D.str (f a))=some (l.map f):=by
 induction l with
 |nil=>rfl
 |cons a l ih=>rw[ci,bf,ih];rfl
theorem Fj{l:List (List Nat)}{m:Nat}(h:∀x∈l,x.length<=m):(l.map (·.length)).sum<=l.length * m:=by
 induction l with
 |nil=>simp
 |cons a l ih=>
  rw[ci,List.sum_cons,aS,Nat.succ_mul];have:=h a bS;have:=ih λx hx=>h x (a9 _ hx);omega
theorem xq{w:Nat}{rs:List Row}(hw:w<=6)(h:∀r∈rs,okR r):∀x∈du w rs,x.length<=201:=by
 intro x hx;rcases ay.mp hx with rfl |hx
 ·rw[aw,qM ⟨w,by omega⟩];decide
 ·obtain ⟨r,hr,rfl⟩:=bP.mp hx;exact aaw (h r hr)
theorem glue(Z:ak){w:Nat}{rs:List Row}{G:DH}{k:D->DH->Prop}(hw:w<=6)(hl:rs.length<=12)(h:∀r∈rs,okR r)(hk:k (.str (gJ w rs)) G):
  CompG Z (.bin .Add true (.var 0) (.cst (.str [10]))) (.nm 0) .yes ((du w rs).map D.str) [] [none] G (λds G1=>aP (bf ds) λls=>((ls.map (·.length)).sum+ls.length * 0<=sz)/\k (.str (cZ [] ls)) G1):=by
 have hlen:(du w rs).length=rs.length+1:=by unfold du;rw[aS,ah]
 refine CompG.map (f:=λd=>match d with |.str l=>.str (l++[10]) |_=>.non) (I:=λY=>∃o,Y=[o]) ⟨_,rfl⟩ trivial (by rw[ah];bv_omega) ?_ ?_
 ·rintro d Y hd ⟨o,rfl⟩ kk hk;obtain ⟨l,hl,rfl⟩:=bP.mp hd;have:=xq hw h l hl;erw[ends];exact ⟨by bv_omega,hk _ ⟨_,rfl⟩⟩
 ·rw[fg];have e:((λd=>match d with |.str l=>D.str (l++[10]) |_=>.non)∘D.str)=λl:List Nat=>D.str (l++[10]):=rfl;rw[e];refine bx (Fi _ _) ⟨?_,?_⟩
  ·have:=Fj (l:=(du w rs).map (·++[10])) (m:=202) λx hx=>by
    obtain ⟨y,hy,rfl⟩:=bP.mp hx;have:=xq hw h y hy;simp;omega
   rw[ah]at this;bv_omega
  ·rw[vY];exact hk
def qO:RF.Spec:=fV (λa:Nat×List Row=>[cQ a.1 a.2]) (λa=>okB a.1 a.2) (λa=>.lst ((du a.1 a.2).map D.str))
theorem aax{w:Nat}{rs:List Row}{G:DH}{k:D->DH->Prop}{E:EK}(h:okB w rs)(hk:k (.lst ((du w rs).map D.str)) G):qO.t [cQ w rs] G k E:=jA (w,rs) rfl h hk
theorem aay (Z:ak) (h2:Z "_law_row_text"=qN) (a:Nat×List Row) (G:DH) (h:okB a.1 a.2):au Z wI noE (env0 [cQ a.1 a.2] 0) G (ends λd G'=>G'=G/\d=.lst ((du a.1 a.2).map D.str)):=by
 obtain ⟨w,rs⟩:=a;dsimp only at h ⊢;have hw6:=h.w6;have hlen:=h.len;have hR:=h.okR;erw[wI,cQ,e9];refine ⟨⟨by omega,by omega⟩,by rw[qM ⟨w,by omega⟩];decide,by decide,?_⟩;refine CompG.map (f:=λd=>match d with |.tup [.str f,.str g]=>.str (eU (f,g)) |_=>.non) (I:=λY=>∃o,Y=[o]) ⟨_,rfl⟩ trivial (by rw[ah];bv_omega) ?_ ?_
 ·rintro d Y hd ⟨o,rfl⟩ kk hk;obtain ⟨r,hr,rfl⟩:=bP.mp hd;erw[h2];exact aau (hR r hr) (hk _ ⟨_,rfl⟩)
 ·rw[fg];have e:((λd=>match d with |.tup [.str f,.str g]=>D.str (eU (f,g)) |_=>.non)∘cJ)=λr:Row=>D.str (eU r):=rfl;rw[e];erw[ah];refine ⟨by bv_omega,?_⟩;unfold du;rw[ci,fg];rfl
def qP:RF.Spec:=fV (λa:Nat×List Row=>[cQ a.1 a.2]) (λa=>okB a.1 a.2) (λa=>.str (gJ a.1 a.2))
theorem aaz{w:Nat}{rs:List Row}{G:DH}{k:D->DH->Prop}{E:EK}(h:okB w rs)(hk:k (.str (gJ w rs)) G):qP.t [cQ w rs] G k E:=jA (w,rs) rfl h hk
theorem aaA (Z:ak) (h2:Z "_law_lines"=qO) (a:Nat×List Row) (G:DH) (h:okB a.1 a.2):au Z wJ noE (env0 [cQ a.1 a.2] 0) G (ends λd G'=>G'=G/\d=.str (gJ a.1 a.2)):=by obtain ⟨w,rs⟩:=a;dsimp only at h ⊢;erw[wJ,h2];refine aax h ?_;erw[ends];refine glue Z h.w6 h.len h.okR (k:=λd G'=>G'=G/\d=.str (gJ w rs)) ⟨rfl,rfl⟩
theorem aaB{w:Nat}{rs:List Row}(h:okB w rs):(gJ w rs).length<=5000:=by
 unfold gJ;rw[List.length_flatten,show (List.length:List Nat->Nat)=λx=>x.length from rfl];have:=Fj (l:=(du w rs).map (·++[10])) (m:=202) λx hx=>by
  obtain ⟨y,hy,rfl⟩:=bP.mp hx;have:=xq h.w6 h.okR y hy;simp;omega
 rw[ah]at this;have hl:(du w rs).length=rs.length+1:=by unfold du;rw[aS,ah]
 have:=h.len;omega
theorem eV(c:Nat):∀l:List Nat,az c l≠[]
 |[]=>by simp[az]
 |x::r=>by rw[az];split <;> simp
theorem qQ(c:Nat):∀l:List Nat,∀a r,az c l=a::r->c∉a/\((r=[]/\l=a)\/∃l',l=a++c::l'/\az c l'=r)
 |[],a,r,h=>by
  rw[az]at h;cases h;exact ⟨br,.inl ⟨rfl,rfl⟩⟩
 |x::l,a,r,h=>by
  rw[az]at h;split at h
  ·rename_i e;cases h;exact ⟨br,.inr ⟨l,by rw[e];rfl,rfl⟩⟩
  ·rename_i hx;cases hs:az c l with
   |nil=>exact absurd hs (eV c l)
   |cons b t=>
    rw[hs]at h;cases h;obtain ⟨h1,h2⟩:=qQ c l b t hs;refine ⟨λm=>?_,?_⟩
    ·rcases ay.mp m with e |m
     ·exact hx e.symm
     ·exact h1 m
    ·rcases h2 with ⟨e1,e2⟩ |⟨l',e1,e2⟩
     ·exact .inl ⟨e1,by rw[e2];rfl⟩
     ·exact .inr ⟨l',by rw[e1];rfl,e2⟩
theorem aaC{c:Nat}{l a b:List Nat}(h:az c l=[a,b]):l=a++c::b:=by
 obtain ⟨_,⟨e,_⟩ |⟨l',e1,e2⟩⟩:=qQ c l _ _ h
 ·cases e
 ·obtain ⟨_,⟨_,e3⟩ |⟨l2,_,e3⟩⟩:=qQ c l' _ _ e2
  ·rw[e1,e3]
  ·exact absurd e3 (eV c l2)
theorem iy{c:Nat}{n:Nat}:∀{l:List Nat},l.length<=n->∀a∈az c l,a.length<=n
 |l,hl,a,ha=>by
  cases hs:az c l with
  |nil=>exact absurd hs (eV c l)
  |cons b t=>
   rw[hs]at ha;obtain ⟨_,h2⟩:=qQ c l b t hs;rcases ay.mp ha with rfl |ha
   ·rcases h2 with ⟨_,e⟩ |⟨l',e,_⟩
    ·rw[<-e];exact hl
    ·rw[e,aw]at hl;omega
   ·rcases h2 with ⟨e,_⟩ |⟨l',e,e2⟩
    ·rw[e]at ha;cases ha
    ·have hlt:l'.length < l.length:=by rw[e,aw,aS];omega
     exact iy (l:=l') (by omega) a (by rw[e2];exact ha)
 termination_by l=>l.length
theorem split_le{c:Nat}:∀{l:List Nat},(az c l).length<=l.length+1
 |[]=>am _
 |x::l=>by
  rw[az];have:=split_le (c:=c) (l:=l);split
  ·rw[aS,aS];omega
  ·rw[aS,List.length_tail,aS];omega
def fig(c:Nat):Bool:=[48,49,50,51,52,53,54,55,56,57].contains c
def cR:List Nat->D
 |[c]=>if fig c then .int (c - 48:Nat) else .non
 |[a,b]=>if fig a&&fig b&&!(a==48) then .int (10 * (a - 48)+(b - 48):Nat) else .non
 |_=>.non
theorem qR(c:Nat):cR [c]=if fig c then .int (c - 48:Nat) else .non:=rfl
theorem jF(a b:Nat):cR [a,b]=if fig a&&fig b&&!(a==48) then .int (10 * (a - 48)+(b - 48):Nat) else .non:=rfl
theorem xr:∀{c:Nat},fig c=true->c < 58:=λ{c} h=>by
 unfold fig at h;have:=al.mp h;simp only[ay,br,ej]at this;omega
theorem aaD:∀c:Fin 58,fig c.1=true->PySem.intText? (tx [c.1])=some ((c.1 - 48:Nat):Int):=by ac_rfl
theorem aaE:∀a b:Fin 58,(fig a.1&&fig b.1&&!(a.1==48))=true->PySem.intText? (tx [a.1,b.1])=some ((10 * (a.1 - 48)+(b.1 - 48):Nat):Int):=by ac_rfl
def qT:RF.Spec:=fV (λl:List Nat=>[.str l]) (λl=>l.length<=100000) cR
theorem aaF{l:List Nat}{G:DH}{k:D->DH->Prop}{E:EK}(h:l.length<=100000)(hk:k (cR l) G):qT.t [.str l] G k E:=jA l rfl h hk
theorem aaG(Z:ak)(l:List Nat)(G:DH)(h:l.length<=100000):au Z lF noE (env0 [.str l] 0) G (ends λd G'=>G'=G/\d=cR l):=by
 simp_all_arith[lF];nofun;simp_arith![ends];have hz:(l.map λc=>D.str [c]).length<=sz:=by rw[ah];bv_omega
 have hall:∀(g:Hld) (k:List D->DH->Prop),held g G->k (l.map λc=>.bl (fig c)) G->CompG Z (.cmp .In (.var 0) (.glb "FIGURES" (.str [48,49,50,51,52,53,54,55,56,57]))) (.nm 0) .yes (l.map λc=>D.str [c]) g [none] G k:=λg k hg hk=>by
  refine CompG.map (f:=λd=>match d with |.str [c]=>.bl (fig c) |_=>.non) (I:=λY=>∃o,Y=[o]) ⟨_,rfl⟩ hg hz ?_ (by rw[fg];exact hk);rintro d Y hd ⟨o,rfl⟩ kk hk;obtain ⟨c,_,rfl⟩:=bP.mp hd;erw[ends];exact hk _ ⟨_,rfl⟩
 have ret:cR l=.non->au Z (.cons (.ret (.cst .non)) .nil) noE [some (.str l)] G { nx:=M,rt:=λd G'=>G'=G/\d=cR l,bk:=λx x_1=>False,ct:=λx x_1=>False }:=λe=>by
  erw[ends];first |exact ⟨rfl,e.symm⟩ |exact e.symm
 match l,h,hz,hall,hM,ret with
 |[],_,_,_,_,ret=>exact ret rfl
 |[c],_,_,hall,hM,ret=>
  refine hall _ _ trivial ?_;show aP (bools [D.bl (fig c)]) _;refine bx (a:=[fig c]) rfl ?_;cases hf:fig c with
  |false=>exact ret (by rw[qR,hf];rfl)
  |true=>
   show au Z Sxs.nil _ _ _ _;erw[ends];symm;erw[ends];ac_nf0;erw[ends];refine bx (aaD ⟨c,xr hf⟩ hf) ⟨by decide,?_⟩;rw[qR,hf];first |rfl |exact ⟨rfl,rfl⟩
 |[a,b],_,_,hall,hM,ret=>
  refine hall _ _ trivial ?_;show aP (bools [D.bl (fig a),D.bl (fig b)]) _;refine bx (a:=[fig a,fig b]) rfl ?_;cases hf:fig a with
  |false=>exact ret (by rw[jF,hf];rfl)
  |true=>
   cases hg:fig b with
   |false=>exact ret (by rw[jF,hf,hg];rfl)
   |true=>
    show au Z Sxs.nil _ _ _ _;erw[ends];symm;simp_arith![ends];cases h0:a==48 with
    |true=>
     have ea:a=48:=by simpa using h0
     subst ea;erw[ends];show D.non=cR [48,b];rw[jF,hf,hg];rfl
    |false=>
     have e1:([a]==[48])=false:=by rw[<-h0];simp
     rw[e1];show au Z Sxs.nil _ _ _ _;erw[ends];ac_nf0;erw[ends];refine bx (aaE ⟨a,xr hf⟩ ⟨b,xr hg⟩ (by show (fig a&&fig b&&!(a==48))=true;rw[hf,hg,h0];rfl)) ⟨by decide,?_⟩;rw[jF,hf,hg,h0];rfl
 |a::b::c::l,_,_,_,_,ret=>
  rw[ce (show (1:Int)<=((a::b::c::l).length:Int) by simp only[aS];omega),ba (show ¬((a::b::c::l).length:Int)<=2 by simp only[aS];omega)];exact ret rfl
def bL(l:List Nat):Option Nat:=([1,2,3,4,5,6]:List Nat).find? λw=>l==bh++aM w
def dH:Option Nat->D
 |some w=>.int (w:Nat)
 |none=>.non
theorem lV{l:List Nat}{w:Nat}(h:bL l=some w):l=bh++aM w/\1<=w/\w<=6:=by unfold bL at h;have h1:=List.find?_some h;have h2:=List.mem_of_find?_eq_some h;simp only[ay,br,ej]at h2;exact ⟨by simpa using h1,by omega,by omega⟩
theorem Fl{l:List Nat}(h:bL l=none):∀w,1<=w->w<=6->l≠bh++aM w:=λw h1 h2 e=>by
 unfold bL at h;have:=List.find?_eq_none.mp h w (by simp only[ay,br,ej];omega);rw[e]at this;simp at this
theorem aaH:∀w:Fin 7,az 32 (bh++aM w.1)=[[119,105,100,116,104],aM w.1]:=by ac_rfl
theorem Fp:∀w:Fin 10,aM w.1=[48+w.1]:=by ac_rfl
theorem aaI(b:List Nat):nr (cR b)=true:=by unfold cR;split <;> first |rfl | (split <;> rfl)
theorem aaJ{l b:List Nat}(h:l=[119,105,100,116,104]++32::b):(match gH (cR b) with |true=>cR b |false=>.non)=dH (bL l):=by
 have h:l=bh++b:=h;have inj:∀w,1<=w->w<=6->l=bh++aM w->b=[48+w]:=λw h1 h2 e=>by
  rw[h,Fp ⟨w,by omega⟩]at e;exact List.append_cancel_left e
 have non:(∀w,1<=w->w<=6->b≠[48+w])->dH (bL l)=.non:=λhn=>by
  cases hw:bL l with
  |none=>rfl
  |some w=>
   obtain ⟨e,w1,w6⟩:=lV hw;exact absurd (inj w w1 w6 e) (hn w w1 w6)
 match b,h,inj,non with
 |[],_,_,non=>exact (non λw _ _ e=>by cases e).symm
 |[c],h,inj,non=>
  cases hf:fig c with
  |false=>
   rw[qR,hf];refine (non λw h1 h2 e=>?_).symm;have e:c=48+w:=by simpa using e
   have:∀w:Fin 7,fig (48+w.1)=true:=by decide
   rw[e,this ⟨w,by omega⟩]at hf;cases hf
  |true=>
   rw[qR,hf];have h48:48<=c:=by unfold fig at hf;have:=al.mp hf;simp only[ay,br,ej]at this;omega
   by_cases hw:1<=c - 48/\c - 48<=6
   ·have e0:l=bh++aM (c - 48):=by rw[h,Fp ⟨c - 48,by omega⟩];congr 2;show c=48+(c - 48);omega
    have e1:bL l=some (c - 48):=by
     cases e:bL l with
     |none=>exact absurd e0 (Fl e _ hw.1 hw.2)
     |some w=>
      obtain ⟨e',w1,w6⟩:=lV e;have:=inj w w1 w6 e';have:c=48+w:=by simpa using this
      congr 1;omega
    have e2:gH (.int ((c - 48:Nat):Int))=true:=by show (decide _&&decide _)=true;rw[ce (by omega),ce (by omega)];rfl
    rw[e1,if_pos rfl,e2];rfl
   ·have e2:gH (.int ((c - 48:Nat):Int))=false:=by
     show (decide _&&decide _)=false;rw[Bool.and_eq_false_iff,dL,dL];omega
    rw[if_pos rfl,e2];refine (non λw h1 h2 e=>?_).symm;have e:c=48+w:=by simpa using e
    omega
 |[a,c],_,_,non=>
  rw[non λw _ _ e=>by cases e];cases h3:(fig a&&fig c&&!(a==48)) with
  |false=>rw[jF,h3];rfl
  |true=>
   have h4:=h3;rw[ae,ae]at h4;have:49<=a:=by
    have h5:=h4.1.1;unfold fig at h5;have:=al.mp h5;simp only[ay,br,ej]at this;have h6:a≠48:=by simpa using h4.2
    omega
   have e2:gH (.int ((10 * (a - 48)+(c - 48):Nat):Int))=false:=by show (decide _&&decide _)=false;rw[Bool.and_eq_false_iff,dL,dL];omega
   rw[jF,h3,if_pos rfl,e2]
 |a::c::d::r,_,_,non=>exact (non λw _ _ e=>by cases e).symm
def iz:RF.Spec:=fV (λl:List Nat=>[.str l]) (λl=>l.length<=100000) (λl=>dH (bL l))
theorem xu{l:List Nat}{G:DH}{k:D->DH->Prop}{E:EK}(h:l.length<=100000)(hk:k (dH (bL l)) G):iz.t [.str l] G k E:=jA l rfl h hk
theorem aaK (Z:ak) (h1:Z "read_number"=qT) (h2:Z "is_width"=bJ lK) (l:List Nat) (G:DH) (h:l.length<=100000):au Z lG noE (env0 [.str l] 2) G (ends λd G'=>G'=G/\d=dH (bL l)):=by
 simp_all_arith[lG];nofun;erw[ends];refine ⟨⟨by decide,by bv_omega⟩,hM _ _ (seq λM hM=>?_)⟩;have no:(∀b,az 32 l≠[[119,105,100,116,104],b])->dH (bL l)=.non:=λhn=>by
  cases hw:bL l with
  |none=>rfl
  |some w=>
   obtain ⟨e,w1,w6⟩:=lV hw;exact absurd (by rw[e];exact aaH ⟨w,by omega⟩) (hn (aM w))
 rcases hs:az 32 l with _ |⟨a,_ |⟨b,_ |⟨c,r⟩⟩⟩
 ·exact absurd hs (eV 32 l)
 ·erw[ends];exact (no λb e=>by rw[hs]at e;cases e).symm
 ·simp_arith![ends];have hb:b.length<=100000:=iy h b (by rw[hs];simp);cases ha:a==[119,105,100,116,104] with
  |false=>
   erw[ends];exact (no λb e=>by rw[hs]at e;cases e;simp at ha).symm
  |true=>
   have ea:a=[119,105,100,116,104]:=by simpa using ha
   subst ea;show au Z Sxs.nil _ _ _ _;erw[ends];symm;erw[h1];refine aaF hb (hM _ _ (last ?_));simp_arith![h2];refine jx (d:=.bl (gH (cR b))) (if_pos (aaI b)) ?_;have key:=aaJ (l:=l) (b:=b) (aaC hs);cases hw:gH (cR b) with
   |true=>rw[hw]at key;erw[ends];exact key
   |false=>rw[hw]at key;erw[ends];exact key
 ·simp_arith![ends];rw[show ((((r.map D.str).length+1+1+1:Nat):Int)==2)=false from by rw[dQ];omega];erw[ends];exact (no λb e=>by rw[hs]at e;cases e).symm
theorem aaL:∀w:Fin 7,PySem.intText? (tx (aM w.1))=some (w.1:Int):=by ac_rfl
def Fq:D->D
 |.int i=>.str (bh++aM i.toNat)
 |_=>.non
theorem aaM(Z:ak)(l:List Nat)(G:DH)(h:l.length<=100000):au Z wL noE (env0 [.str l] 0) G (ends λd G'=>G'=G/\d=dH (bL l)):=by
 simp_all_arith[wL];nofun;simp_arith![ends];refine ⟨by decide,CompG.map (f:=Fq) (I:=λY=>∃o,Y=[o]) ⟨_,rfl⟩ trivial (by decide) ?_ ?_⟩
 ·rintro d Y hd ⟨o,rfl⟩ kk hk;unfold bA at hd;obtain ⟨i,hi,rfl⟩:=bP.mp hd;have hi:=List.mem_range.mp hi;have hi:i < 6:=by simpa using hi
  have e:(1:Int)+(i:Nat)=((1+i:Nat):Int):=by omega
  rw[e]at hk ⊢;erw[e9];refine ⟨⟨by omega,by omega⟩,?_,hk _ ⟨_,rfl⟩⟩;have:=qM ⟨1+i,by omega⟩;dsimp only at this;rw[this];decide
 ·have e:(bA 1 (7 - 1:Int).toNat).map Fq=[1,2,3,4,5,6].map λw:Nat=>D.str (bh++aM w):=rfl;rw[e];have hin:isIn (.str l) [D.str (bh++aM 1),D.str (bh++aM 2),D.str (bh++aM 3),D.str (bh++aM 4),D.str (bh++aM 5),D.str (bh++aM 6)]=(bL l).isSome:=by
   have e1:isIn (.str l) [D.str (bh++aM 1),D.str (bh++aM 2),D.str (bh++aM 3),D.str (bh++aM 4),D.str (bh++aM 5),D.str (bh++aM 6)]=([1,2,3,4,5,6]:List Nat).any λw=>(bh++aM w)==l:=rfl;rw[e1];cases hw:bL l with
   |none=>
    rw[Option.isSome_none,List.any_eq_false];intro w hm he;simp only[ay,br,ej]at hm;have he:bh++aM w=l:=by simpa using he
    exact Fl hw w (by omega) (by omega) he.symm
   |some w=>
    obtain ⟨e,w1,w6⟩:=lV hw;rw[Option.isSome_some,fN];exact ⟨w,by simp only[ay,br,ej];omega,by rw[e];simp⟩
  simp_arith![hin];refine ⟨⟨rfl,by decide⟩,?_⟩;cases hw:bL l with
  |none=>erw[Option.isSome_none,dH]
  |some w=>
   obtain ⟨e,w1,w6⟩:=lV hw;show au Z Sxs.nil _ _ _ _;erw[ends];ac_nf0;have ec:cut l (some 6) none=aM w:=by have:=vZ l 6;rw[show ((6:Nat):Int)=6 from rfl]at this;rw[this,e];rfl
   erw[ec];refine bx (aaL ⟨w,by omega⟩) ⟨by rw[qM ⟨w,by omega⟩];decide,?_⟩;rw[hw];rfl
def cL(w:Nat)(l:List Nat):Option Row:=match az 32 l with
 |[f,d]=>if isText [48,49,42] w (.str f)&&dq (.str d) then some (f,d) else none
 |_=>none
def dz:Option Row->D
 |some r=>cJ r
 |none=>.non
theorem Ft{n:Nat}:∀{ls:List (List Nat)},(∀a∈ls,a.length<=100000)->jE (ls.map D.str)=true/\nrs (ls.map D.str)=true
 |[],_=>⟨rfl,rfl⟩
 |a::ls,h=>by
  obtain ⟨h1,h2⟩:=Ft (n:=n) λx hx=>h x (a9 _ hx);rw[ci,jE,nrs,h1,h2];refine ⟨?_,rfl⟩;show (decide (a.length<=100000)&&true)=true;rw[ce (h a bS)];rfl
def iB:RF.Spec:=fV (λa:Nat×List Nat=>[.int (a.1:Nat),.str a.2]) (λa=>a.2.length<=90000) (λa=>dz (cL a.1 a.2))
theorem Fv{w:Nat}{l:List Nat}{G:DH}{k:D->DH->Prop}{E:EK}(h:l.length<=90000)(hk:k (dz (cL w l)) G):iB.t [.int (w:Nat),.str l] G k E:=jA (w,l) rfl h hk
theorem aaN (Z:ak) (h1:Z "is_row"=bJ lU) (a:Nat×List Nat) (G:DH) (h:a.2.length<=90000):au Z lB noE (env0 [.int (a.1:Nat),.str a.2] 1) G (ends λd G'=>G'=G/\d=dz (cL a.1 a.2)):=by
 obtain ⟨w,l⟩:=a;dsimp only at h ⊢;simp_all_arith[lB];nofun;erw[ends];refine ⟨⟨by decide,by bv_omega⟩,hM _ _ (last ?_)⟩;obtain ⟨z1,z2⟩:=Ft (n:=0) (ls:=az 32 l) λa ha=>bi (iy h a ha) (by decide);have hl:=split_le (c:=32) (l:=l);have hx:(nr (.tup ((az 32 l).map D.str))&&szA (.tup ((az 32 l).map D.str)))=true:=by rw[nr,szA,z1,z2,ah,ce (by omega)];rfl
 simp_arith![h1];refine jx (d:=.bl (dZ w (.tup ((az 32 l).map D.str)))) (if_pos hx) ?_;unfold cL;rcases hs:az 32 l with _ |⟨f,_ |⟨d,_ |⟨c,r⟩⟩⟩
 ·exact absurd hs (eV 32 l)
 ·erw[dZ,dz]
 ·simp_arith![dZ];cases hr:(isText [48,49,42] w (.str f)&&dq (.str d)) with
  |true=>erw[ends];rfl
  |false=>erw[ends];rfl
 ·erw[dZ,dz]
def d8(p:Nat->Bool):D->Option D
 |.str [c]=>if p c then none else some (.str [c])
 |_=>none
theorem Fw{p:Nat->Bool}{c:Nat}(h:p c=true):d8 p (.str [c])=none:=if_pos h
theorem xF{p:Nat->Bool}{c:Nat}(h:p c=false):d8 p (.str [c])=some (.str [c]):=if_neg (by rw[h];exact b6)
theorem keep_nil(p:Nat->Bool):∀l:List Nat,((l.map λc=>D.str [c]).filterMap (d8 p)).isEmpty=l.all p
 |[]=>rfl
 |c::l=>by
  rw[ci,dP,List.all_cons];simp only[d8];cases p c with
  |true=>simp only[if_true];rw[keep_nil p l];rfl
  |false=>rfl
theorem Fx(p:Nat->Bool)(l:List Nat):nrs ((l.map λc=>D.str [c]).filterMap (d8 p))=true:=lu λd hd=>by
 obtain ⟨x,hx,e⟩:=List.mem_filterMap.mp hd;obtain ⟨c,_,rfl⟩:=bP.mp hx;have e:(if p c then none else some (D.str [c]))=some d:=e;split at e
 ·cases e
 ·cases e;rfl
theorem xG:∀{l:List D}{d:D},nrs l=true->d∈l->nr d=true
 |a::l,d,h,m=>by
  rw[nrs,ae]at h;rcases ay.mp m with e |m
  ·rw[e];exact h.1
  ·exact xG h.2 m
theorem Fy(p:Nat->Bool)(l:List Nat):((l.map λc=>D.str [c]).filterMap (d8 p)).length<=l.length:=by have:=List.length_filterMap_le (d8 p) (l.map λc=>D.str [c]);rwa [ah]at this
theorem aaO:∀l:List D,bO l []=l.isEmpty
 |[]=>rfl
 |_::_=>rfl
theorem aaP(c:Nat):(!decide ([c] < [97])&&!decide ([122] < [c]))=letters.contains c:=by
 have lt1:∀a b:Nat,decide ([a] < [b])=decide (a < b):=λa b=>by
  rw[decide_eq_decide];constructor
  ·intro h;rcases h with _ |h |⟨_,h⟩;assumption
  ·intro h;exact .rel h
 rw[lt1,lt1,e7,aaq,ae,ck,ck,dL,dL];omega
theorem aaQ(Z:ak)(a:Nat×List Nat)(G:DH)(h:a.2.length<=90000):au Z wK noE (env0 [.int (a.1:Nat),.str a.2] 2) G (ends λd G'=>G'=G/\d=dz (cL a.1 a.2)):=by
 obtain ⟨w,l⟩:=a;dsimp only at h ⊢;simp_all_arith[wK];nofun;erw[ends];refine ⟨⟨by decide,by bv_omega⟩,hM _ _ (seq λM hM=>?_)⟩;have hl:=split_le (c:=32) (l:=l);unfold cL;rcases hs:az 32 l with _ |⟨f,_ |⟨d,_ |⟨c,r⟩⟩⟩
 ·exact absurd hs (eV 32 l)
 ·erw[dz];exact trivial
 ·have hf:f.length<=90000:=iy h f (by rw[hs];simp);have hd:d.length<=90000:=iy h d (by rw[hs];simp);simp_arith![ends];generalize hR:dz (if (isText [48,49,42] w (.str f)&&dq (.str d))=true then some (f,d) else none)=R;have ret:∀G',G'=G->R=.non->au Z (.cons (.ret (.cst .non)) .nil) noE [some (.int (w:Int)),some (.str l),some (.lst [.str f,.str d]),none] G' { nx:=M,rt:=λd_1 G'=>G'=G/\d_1=R,bk:=λx x_1=>False,ct:=λx x_1=>False }:=λG' e1 e2=>by
   erw[e1,e2];try exact ⟨rfl,rfl⟩
  have no:(isText [48,49,42] w (.str f)&&dq (.str d))=false->R=.non:=λe=>by rw[<-hR,e];rfl
  by_cases h1:f.length=w
  ·rw[show ((f.length:Int)==(w:Int))=true from by rw[ai];omega];by_cases h2:1<=d.length
   ·rw[ce (show (1:Int)<=(d.length:Int) by omega)];by_cases h3:d.length<=8
    ·rw[ce (show (d.length:Int)<=8 by omega)];show au Z Sxs.nil _ _ _ _;erw[ends];have eR:cL w l=if (isText [48,49,42] w (.str f)&&dq (.str d))=true then some (f,d) else none:=by unfold cL;rw[hs]
     have eT:isText [48,49,42] w (.str f)=f.all λc=>[48,49,42].contains c:=by simp only[isText];rw[ce (show (f.length:Int)=(w:Int) by omega)];rfl
     have eD:dq (.str d)=d.all λc=>letters.contains c:=by simp only[dq];rw[ce h2,ce h3];rfl
     symm;simp_arith![ends];refine CompG.pure (f:=d8 λc=>[48,49,42].contains c) (I:=λY=>∃o,Y=[o]) ⟨_,rfl⟩ trivial (by rw[ah];bv_omega) ?_ ?_
     ·rintro x Y hx ⟨o,rfl⟩ kk hk;obtain ⟨c,_,rfl⟩:=bP.mp hx;have hk:=hk [some (.str [c])] ⟨_,rfl⟩;cases hc:[48,49,42].contains c with
      |true=>rw[Fw hc]at hk;erw[hc];exact hk
      |false=>rw[xF hc]at hk;erw[hc];exact hk
     have a1:=Fy (λc=>[48,49,42].contains c) f;have a2:=Fx (λc=>[48,49,42].contains c) f;have a3:=keep_nil (λc=>[48,49,42].contains c) f;generalize (f.map λc=>D.str [c]).filterMap (d8 λc=>[48,49,42].contains c)=A at a1 a2 a3;symm;simp_arith![ends];refine CompG.pure (f:=d8 λc=>letters.contains c) (I:=λY=>∃o,Y=[o]) ⟨_,rfl⟩ trivial (by rw[ah];bv_omega) ?_ ?_
     ·rintro x Y hx ⟨o,rfl⟩ kk hk;obtain ⟨c,_,rfl⟩:=bP.mp hx;have hk:=hk [some (.str [c])] ⟨_,rfl⟩;have hc:=aaP c;simp_arith![ends];cases c1:decide ([c] < [97]) with
      |true=>
       rw[c1]at hc;rw[xF hc.symm]at hk;exact hk
      |false=>
       cases c2:decide ([122] < [c]) with
       |true=>
        rw[c1,c2]at hc;rw[xF hc.symm]at hk;exact hk
       |false=>
        rw[c1,c2]at hc;rw[Fw hc.symm]at hk;exact hk
     have b1:=Fy (λc=>letters.contains c) d;have b2:=Fx (λc=>letters.contains c) d;have b3:=keep_nil (λc=>letters.contains c) d;generalize (d.map λc=>D.str [c]).filterMap (d8 λc=>letters.contains c)=B at b1 b2 b3;have n3:nrs (A++B)=true:=lu λx hx=>(bv.mp hx).elim (xG a2) (xG b2);refine ⟨by bv_omega,⟨n3,bi (Nat.min_le_right _ _) (by decide)⟩,?_⟩;rw[aaO];cases hA:f.all λc=>[48,49,42].contains c with
     |false=>
      rw[hA]at a3;cases A with
      |nil=>cases a3
      |cons _ _=>
       erw[List.isEmpty_cons];rw[eR,eT,hA];rfl
     |true=>
      rw[hA]at a3;have eA:A=[]:=by cases A with |nil=>rfl |cons _ _=>cases a3
      subst eA;cases hB:d.all λc=>letters.contains c with
      |false=>
       rw[hB]at b3;cases B with
       |nil=>cases b3
       |cons _ _=>
        erw[List.isEmpty_cons];rw[eR,eD,hB,ff];rfl
      |true=>
       rw[hB]at b3;have eB:B=[]:=by cases B with |nil=>rfl |cons _ _=>cases b3
       subst eB;show au Z Sxs.nil _ _ _ _;erw[ends];ac_nf0;erw[ends];refine ⟨by decide,?_⟩;rw[eR,eT,eD,hA,hB];rfl
    ·rw[ba (show ¬(d.length:Int)<=8 by omega)];exact ret G rfl (no (by simp only[dq];rw[ba h3];simp))
   ·rw[ba (show ¬(1:Int)<=(d.length:Int) by omega)];exact ret G rfl (no (by simp only[dq];rw[ba h2];simp))
  ·rw[show ((f.length:Int)==(w:Int))=false from by rw[dQ];omega];exact ret G rfl (no (by simp only[isText];rw[ba (show ¬(f.length:Int)=(w:Int) by omega)];rfl))
 ·simp_arith![ends];rw[show ((((r.map D.str).length+1+1+1:Nat):Int)==2)=false from by rw[dQ];omega];erw[dz]
theorem aaR{l:List D}{a:D}:cut (l++[a]) none (some (-1))=l:=by
 have e:HT.sIx (l++[a]).length (l++[a]).length (some (-1))=l.length:=by show (if (-1:Int) < 0 then ((-1:Int)+((l++[a]).length:Int)).toNat else min (-1:Int).toNat (l++[a]).length)=l.length;rw[if_pos (by decide),aw,List.length_singleton];omega
 unfold cut;rw[e,show HT.sIx (l++[a]).length 0 none=0 from rfl,fe,Nat.sub_zero,List.take_left]
theorem aaS{a:D}{l:List D}:cut (a::l) (some 1) none=l:=vZ (a::l) 1
theorem Fz{Z:ak}{ss:Sxs}{E:EK}{Y:aj}{G:DH}{q:Addr}{o:DO}{Dn:En}(hq:G q=none)(h:∀G1,G1 q=some o->Sa G G1->au Z ss E Y G1 Dn):au Z ss E Y (aQ G q o) Dn:=h _ bj (Sa.new hq)
def bR(w:Nat):Nat->List (List Nat)->List Row ⊕ Nat
 |_,[]=>.inl []
 |n,l::ls=>match cL w l with
  |none=>.inr n
  |some r=>if 12 < n then .inr n else match bR w (n+1) ls with
   |.inl rs=>.inl (r::rs)
   |.inr m=>.inr m
def qU(acc:List Row):List Row ⊕ Nat->List Row ⊕ Nat
 |.inl rs=>.inl (acc++rs)
 |.inr m=>.inr m
def cT(en:List (List Nat))(la:List Nat):(Nat×List Row) ⊕ Nat:=match en with
 |[]=>.inr 0
 |e::es=>match bL e with
  |none=>.inr 0
  |some w=>match bR w 1 es with
   |.inr n=>.inr n
   |.inl rs=>match la with
    |[]=>.inl (w,rs)
    |_::_=>.inr (es.length+1)
def bH(t:List Nat):(Nat×List Row) ⊕ Nat:=cT (az 10 t).dropLast ((az 10 t).getLastD [])
theorem FJ{t:List Nat}:az 10 t=(az 10 t).dropLast++[(az 10 t).getLastD []]:=by have h:=eV 10 t;generalize az 10 t=ls at h ⊢;rw[List.getLastD_eq_getLast?,List.getLast?_eq_some_getLast h];exact (List.dropLast_concat_getLast h).symm
theorem xH{w n:Nat}{l:List Nat}{ls:List (List Nat)}(h:cL w l=none):bR w n (l::ls)=.inr n:=by rw[bR,h]
theorem xJ{w n:Nat}{l:List Nat}{ls:List (List Nat)}{r:Row}(h:cL w l=some r)(hn:12 < n):bR w n (l::ls)=.inr n:=by rw[bR,h];dsimp only;rw[if_pos hn]
theorem xK{w n:Nat}{l:List Nat}{ls:List (List Nat)}{r:Row}{acc:List Row}(h:cL w l=some r)(hn:¬12 < n):qU acc (bR w n (l::ls))=qU (acc++[r]) (bR w (n+1) ls):=by
 rw[bR,h];dsimp only;rw[if_neg hn];cases bR w (n+1) ls with
 |inl rs=>show Sum.inl (acc++r::rs)=Sum.inl (acc++[r]++rs);rw[List.append_assoc];rfl
 |inr m=>rfl
theorem lW(n:Nat)(h:n < 100):okA (.int (n:Int)):=⟨by omega,by omega⟩
structure RB68 where
 t:List Nat
 G:DH
def gK:RF.Spec where
 A:=RB68
 pre:=λds G a=>ds=[.str a.t]/\a.t.length<=80000/\a.G=G
 post:=λa d G'=>Sa a.G G'/\∃w rs,bH a.t=.inl (w,rs)/\d=cQ w rs
 exc:=λa x G'=>Sa a.G G'/\∃n:Nat,bH a.t=.inr n/\x=⟨"NoText",.int (n:Int)⟩
theorem aaT (Z:ak) (h1:Z "read_width"=iz) (h2:Z "read_row"=iB) (ds:List D) (G:DH) (a:gK.A) (h:gK.pre ds G a):au Z wQ (gK.exc a) (env0 ds 7) G (ends (gK.post a)):=by
 obtain ⟨t,G0⟩:=a;obtain ⟨rfl,ht,rfl⟩:=h;dsimp only at ht ⊢;have hcut:=FJ (t:=t);have hlen:=split_le (c:=10) (l:=t);have hmem:∀x∈az 10 t,x.length<=80000:=iy ht;have hdue:bH t=cT (az 10 t).dropLast ((az 10 t).getLastD []):=rfl;generalize (az 10 t).dropLast=en at hcut hdue;generalize (az 10 t).getLastD []=la at hcut hdue;simp_all_arith[wQ];nofun;erw[ends];refine ⟨⟨by decide,by bv_omega⟩,λe=>eV 10 t (List.map_eq_nil_iff.mp e),λxs y hy=>hM _ _ ?_⟩;rw[hcut,da]at hy;obtain ⟨ex,ey⟩:=List.append_inj' hy rfl;have ey:D.str la=y:=(List.cons.inj ey).1;subst ex ey;rw[hcut]at hlen hmem;have noText:∀(n:Nat) (G':DH),Sa G0 G'->bH t=.inr n->gK.exc ⟨t,G0⟩ ⟨"NoText",.int (n:Int)⟩ G':=λn G' s e=>⟨s,n,e,rfl⟩;nofun;cases en with
 |nil=>
  erw[List.isEmpty_nil];symm;erw[cX];exact ⟨lW _ (by decide),noText 0 G0 (Sa.refl _) hdue⟩
 |cons e es=>
  have he:e.length<=80000:=hmem e (by simp);simp_arith![List.isEmpty_cons,h1];refine xu (by omega) (hM _ _ (seq λM hM=>?_));cases hw:bL e with
  |none=>
   erw[dH,cX];exact ⟨lW _ (by decide),noText 0 G0 (Sa.refl _) (by rw[hdue,cT,hw])⟩
  |some w=>
   erw[dH,cX];symm;erw[ends];refine λq hq=>hM _ _ (Fz hq λG1 g1 s1=>seq λM hM=>?_);simp_arith![aaS];refine ForG.inv (P:=λi Y G'=>∃acc o5 o6 o7,Y=[some (.str t),some (.lst (D.str e::es.map D.str)),some (.str la),some (.int (w:Int)),some (.ref q),o5,o6,o7]/\Sa G0 G'/\G' q=some (.lst (acc.map cJ))/\acc.length=i/\i<=12/\bR w 1 es=qU acc (bR w (1+i) (es.drop i))) ⟨[],_,_,_,rfl,s1,g1,rfl,by decide,by rw[fe];cases bR w 1 es <;> rfl⟩ (λ_ _ _ _=>trivial) ?_ ?_
   ·rintro i d Y G2 hd ⟨acc,o5,o6,o7,rfl,sa,hg,hacc,h12',hrow⟩ kk hk;rw[kZ,cr]at hd;obtain ⟨d1,hd1,e1⟩:=bg.mp hd;obtain ⟨l,hl,e2⟩:=bg.mp hd1;subst e2 e1;have hll:l.length<=80000:=hmem l (by simp[c8 hl]);obtain ⟨hi,hli⟩:=bd.mp hl;have hdr:es.drop i=l::es.drop (i+1):=by rw[ca hi,hli]
    rw[hdr]at hrow;simp_arith![ends];nofun;erw[h2];refine Fv (by omega) (hM _ _ (seq λM hM=>?_));cases hr:cL w l with
    |none=>
     rw[xH hr]at hrow;erw[dz,cX];exact ⟨lW _ (by omega),noText (1+i) G2 sa (by rw[hdue,cT,hw];dsimp only;rw[hrow];rfl)⟩
    |some r=>
     have er:dz (some r)=D.tup [.str r.1,.str r.2]:=rfl;by_cases h12:12 < 1+i
     ·rw[xJ hr h12]at hrow;have hb:decide ((12:Int) < ((1+i:Nat):Int))=true:=ce (by omega);erw[er,cX,hb];exact ⟨lW _ (by omega),noText (1+i) G2 sa (by rw[hdue,cT,hw];dsimp only;rw[hrow];rfl)⟩
     ·rw[xK hr h12]at hrow;have hb:decide ((12:Int) < ((1+i:Nat):Int))=false:=ba (by omega);erw[er,cX,hb];ac_nf0;erw[cH hg];refine ⟨by rw[ah];bv_omega,hk _ _ ⟨acc++[r],_,_,_,rfl,λb o hb=>?_,by rw[bj,da];rfl,by rw[aw,hacc];rfl,by omega,by rw[hrow];rfl⟩⟩;rw[cN λe=>by rw[e,hq]at hb;cases hb];exact sa b o hb
   ·rintro Y G2 ⟨acc,o5,o6,o7,rfl,sa,hg,hacc,h12',hrow⟩;rw[jr,ah]at hacc hrow h12';rw[List.drop_length]at hrow;have hrow:bR w 1 es=.inl acc:=by rw[hrow];show Sum.inl (acc++[])=_;rw[de]
    symm;cases la with
    |nil=>
     erw[List.isEmpty_nil];ac_nf0;erw[bc hg];exact ⟨by decide,sa,w,acc,by rw[hdue,cT,hw];dsimp only;rw[hrow],rfl⟩
    |cons c la=>
     erw[List.isEmpty_cons,ah];have hn:es.length+1<=90000:=by simp only[aw,aS,e8]at hlen;omega
     exact ⟨lW _ (by omega),noText (es.length+1) G2 sa (by rw[hdue,cT,hw];dsimp only;rw[hrow])⟩
def aaU:List Nat:=[98,111,111,107]
def jG:List Nat:=[116,101,120,116]
def cM:(Nat×List Row) ⊕ Nat->D
 |.inl (w,rs)=>.lst [.str aaU,cQ w rs]
 |.inr n=>.lst [.str jG,.int (n:Int)]
def qW:RF.Spec:=ghS (A:=List Nat) (λt ds _=>ds=[.str t]/\t.length<=80000) (λt G d G'=>Sa G G'/\d=cM (bH t))
theorem xM{t:List Nat}{G:DH}{k:D->DH->Prop}{E:EK}(h:t.length<=80000)(hk:∀G',Sa G G'->k (cM (bH t)) G'):qW.t [.str t] G k E:=lw t ⟨rfl,h⟩ λd G' hx=>by
 obtain ⟨s,rfl⟩:=hx;exact hk G' s
theorem aaV (Z:ak) (h1:Z "_law_width_of"=iz) (h2:Z "_law_row_of"=iB) (t:List Nat) (ds:List D) (G:DH) (h:ds=[.str t]/\t.length<=80000):au Z wM noE (env0 ds 6) G (ends λd G'=>Sa G G'/\d=cM (bH t)):=by
 obtain ⟨rfl,ht⟩:=h;have hcut:=FJ (t:=t);have hlen:=split_le (c:=10) (l:=t);have hmem:∀x∈az 10 t,x.length<=80000:=iy ht;have hdue:bH t=cT (az 10 t).dropLast ((az 10 t).getLastD []):=rfl;generalize (az 10 t).dropLast=en at hcut hdue;generalize (az 10 t).getLastD []=la at hcut hdue;have hmap:(az 10 t).map D.str=en.map D.str++[.str la]:=by rw[hcut,da];rfl
 simp_all_arith[wM];nofun;erw[hmap];refine ⟨⟨by decide,by bv_omega⟩,hM _ _ (seq λM hM=>?_)⟩;rw[hcut]at hlen hmem;erw[aaR];symm;have text0:bH t=.inr 0->Sa G G/\D.lst [.str [116,101,120,116],.int 0]=cM (bH t):=λe=>⟨Sa.refl _,by rw[e];rfl⟩;cases en with
 |nil=>
  erw[ends];exact ⟨by decide,by bv_omega,text0 hdue⟩
 |cons e es=>
  have he:e.length<=80000:=hmem e (by simp);simp_arith![h1];have n2:nrs (es.map D.str)=true:=lu λx hx=>by obtain ⟨_,_,rfl⟩:=bP.mp hx;rfl
  refine ⟨⟨by rw[n2];rfl,bi (Nat.min_le_right _ _) (by decide)⟩,xu (by omega) ?_⟩;cases hw:bL e with
  |none=>
   erw[dH,cX];exact ⟨by bv_omega,text0 (by rw[hdue,cT,hw])⟩
  |some w=>
   have hl12:∀n:Nat,n<=20->0+1+1<=sz:=λ_ _=>by bv_omega
   have hesl:es.length<=80000:=by simp only[aw,aS,e8]at hlen;omega
   show au Z Sxs.nil _ _ _ _;erw[ends];symm;erw[h1];refine xu (by omega) (hM _ _ (seq λM hM=>?_));rw[hw];erw[ends];refine λq hq=>hM _ _ (Fz hq λG1 g1 s1=>seq λM hM=>?_);have el:(((es.map D.str).length+1:Nat):Int) - 1=(es.length:Int):=by rw[ah];omega
   simp_arith![dH,el,e9];refine ⟨by rw[ah];omega,ForG.inv (P:=λi Y G'=>∃acc o5 o6,Y=[some (.str t),some (.lst (D.str e::(es.map D.str++[D.str la]))),some (.lst (D.str e::es.map D.str)),some (.int (w:Int)),some (.ref q),o5,o6]/\Sa G G'/\G' q=some (.lst (acc.map cJ))/\acc.length=i/\i<=12/\bR w 1 es=qU acc (bR w (1+i) (es.drop i))) ⟨[],_,_,rfl,s1,g1,rfl,by decide,by rw[fe];cases bR w 1 es <;> rfl⟩ (λ_ _ _ _=>trivial) ?_ ?_⟩
   ·rintro i d Y G2 hd ⟨acc,o5,o6,rfl,sa,hg,hacc,h12',hrow⟩ kk hk;obtain ⟨hi,rfl⟩:i < es.length/\d=.int ((1+i:Nat):Int):=by
     unfold bA at hd;rw[cr]at hd;obtain ⟨x,hx,e⟩:=bg.mp hd;obtain ⟨hx1,hx2⟩:=bd.mp hx;rw[List.length_range]at hx1;rw[List.getElem_range]at hx2;subst hx2;exact ⟨hx1,by rw[<-e];congr 1⟩
    have hll:es[i].length<=80000:=hmem _ (by simp[fF hi]);have hdr:es.drop i=es[i]::es.drop (i+1):=ca hi;have hat:atI (D.str e::es.map D.str) ((1+i:Nat):Int)=some (.str es[i]):=dM (by rw[Nat.add_comm 1 i,List.getElem?_cons_succ,cr,bo hi];rfl);rw[hdr]at hrow;generalize es[i]=l at *;simp_arith![ends];nofun;simp_arith![ends];refine bx hat ?_;simp_arith![h2];refine Fv (by omega) (hM _ _ (seq λM hM=>?_));have fin:bH t=.inr (1+i)->Sa G G2/\D.lst [.str [116,101,120,116],.int ((1+i:Nat):Int)]=cM (bH t):=λe=>⟨sa,by rw[e];rfl⟩;cases hr:cL w l with
    |none=>
     rw[xH hr]at hrow;erw[dz,cX];exact ⟨by bv_omega,fin (by rw[hdue,cT,hw];dsimp only;rw[hrow];rfl)⟩
    |some r=>
     have er:dz (some r)=D.tup [.str r.1,.str r.2]:=rfl;by_cases h12:12 < 1+i
     ·rw[xJ hr h12]at hrow;have hb:decide ((12:Int) < ((1+i:Nat):Int))=true:=ce (by omega);erw[er,cX,hb];exact ⟨by bv_omega,fin (by rw[hdue,cT,hw];dsimp only;rw[hrow];rfl)⟩
     ·rw[xK hr h12]at hrow;have hb:decide ((12:Int) < ((1+i:Nat):Int))=false:=ba (by omega);erw[er,cX,hb];ac_nf0;erw[cH hg];refine ⟨by rw[ah];bv_omega,hk _ _ ⟨acc++[r],_,_,rfl,λb o hb=>?_,by rw[bj,da];rfl,by rw[aw,hacc];rfl,by omega,by rw[hrow];rfl⟩⟩;rw[cN λe=>by rw[e,hq]at hb;cases hb];exact sa b o hb
   ·rintro Y G2 ⟨acc,o5,o6,rfl,sa,hg,hacc,h12',hrow⟩;have hrl:(bA 1 es.length).length=es.length:=by unfold bA;rw[ah,List.length_range]
    rw[hrl]at hacc hrow h12';rw[List.drop_length]at hrow;have hrow:bR w 1 es=.inl acc:=by rw[hrow];show Sum.inl (acc++[])=_;rw[de]
    symm;simp_arith![ends];have hlast:atI (D.str e::(es.map D.str++[D.str la])) (-1)=some (.str la):=by rw[<-List.cons_append];exact rO
    refine bx hlast ?_;cases la with
    |nil=>
     erw[ends];ac_nf0;erw[bc hg];exact ⟨by decide,by bv_omega,sa,by rw[hdue,cT,hw];dsimp only;rw[hrow];rfl⟩
    |cons c la=>
     erw[ends];show 0+1+1<=sz/\Sa G G2/\D.lst [D.str [116,101,120,116],D.int (((es.map D.str).length+1:Nat):Int)]=cM (bH t);refine ⟨by bv_omega,sa,?_⟩;rw[hdue,cT,hw];dsimp only;rw[hrow,ah];rfl
theorem iC{Z:ak}{ss:Sxs}{E:EK}{Y:aj}{G:DH}{q:Addr}{L:List D}{Dn:En}(hq:G q=none)(h:∀G1,G1 q=some (.lst L)->Sa G G1->au Z ss E Y G1 Dn):au Z ss E Y (aQ G q (.lst L)) Dn:=h _ bj (Sa.new hq)
theorem FN{Z:ak}{ss:Sxs}{E:EK}{Y:aj}{G0 G:DH}{q:Addr}{L:List D}{Dn:En}(hq:G0 q=none)(s:Sa G0 G)(h:∀G1,G1 q=some (.lst L)->Sa G0 G1->au Z ss E Y G1 Dn):au Z ss E Y (aQ G q (.lst L)) Dn:=h _ bj (s.then hq Sb.upd)
theorem aaW{p:Addr}{G:DH}{ds:List D}{k:D->DH->Prop}(e:G p=some (.lst ds)):opM .count (.ref p) [.bl true] G k=aP (bools ds) (λbs=>k (.int (bs.count true:Nat)) G):=by unfold opM;dsimp only;rw[bc e];exact Ek
theorem aaX{p:Addr}{G:DH}{ds:List D}{k:D->DH->Prop}(e:G p=some (.lst ds)):opM .index (.ref p) [.bl true] G k=aP (bools ds) (λbs=>true∈bs/\k (.int (bs.idxOf true:Nat)) G):=by unfold opM;dsimp only;rw[bc e];exact El
theorem aaY{p:Addr}{G:DH}{ds:List D}(e:G p=some (.lst ds)):recv .count (.ref p) G=True:=by unfold recv;dsimp only;rw[bc e];rfl
theorem aaZ{p:Addr}{G:DH}{ds:List D}(e:G p=some (.lst ds)):recv .index (.ref p) G=True:=by unfold recv;dsimp only;rw[bc e];rfl
def isC(d:D)(C:String):Prop:=d=.exn C\/∃f v,d=.exa C f v
theorem jH{C C':String}{xs:List String}{d:D}{kk:Bool->Prop}(h:isC d C):gW C' xs d kk=(xs.contains C=true/\kk (aV C C')):=by rcases h with rfl |⟨_,_,rfl⟩ <;> rfl
def lX (C:String):List Bool:=[aV C "Full",aV C "NoBook",aV C "NoForm",aV C "NoJoin",aV C "NoLine",aV C "NoMatch",aV C "NoOrder",aV C "NoRow",aV C "NoText",aV C "NoWord",aV C "Nothing",aV C "TooMany",aV C "Turned"]
def aa0:List (List Nat):=[[102,117,108,108],[98,111,111,107],[102,111,114,109],[106,111,105,110],[108,105,110,101],[109,97,116,99,104],[111,114,100,101,114],[114,111,119],[116,101,120,116],[119,111,114,100],[110,111,116,104,105,110,103],[109,97,110,121],[116,117,114,110,101,100]]
theorem aa1:["NoText"].contains "NoText"=true/\aV "NoText" "SieveError"=true/\aV "NoText" "ValueError"=true/\(lX "NoText").count true=1/\true∈lX "NoText"/\atI (aa0.map D.str) ((lX "NoText").idxOf true:Nat)=some (.str jG):=by exact ⟨by decide,by decide,by decide,by decide,by decide,rfl⟩
def qX:RF.Spec:=ghS (A:=D) (λa ds _=>ds=[a]/\isC a "NoText") (λ_ G d G'=>Sa G G'/\d=.str jG)
theorem aa2 {a:D} {G:DH} {k:D->DH->Prop} {E:EK} (h:isC a "NoText") (hk:∀G',Sa G G'->k (.str jG) G'):qX.t [a] G k E:=lw a ⟨rfl,h⟩ λd G' hx=>by
 obtain ⟨s,rfl⟩:=hx;exact hk G' s
theorem aa3 (Z:ak) (a:D) (ds:List D) (G:DH) (h:ds=[a]/\isC a "NoText"):au Z wO noE (env0 ds 2) G (ends λd G'=>Sa G G'/\d=.str jG):=by
 obtain ⟨rfl,hd⟩:=h;obtain ⟨c1,c2,c3,c4,c5,c6⟩:=aa1;simp_all_arith[wO];nofun;erw[jH hd,c1];repeat refine ⟨by first |trivial |decide,?_⟩
 intro q1 hq1;refine hM _ _ (iC hq1 λG1 g1 s1=>seq λM hM=>?_);erw[jH hd,c1,bc g1];repeat refine ⟨by first |trivial |decide,?_⟩
 intro q2 hq2;refine hM _ _ (iC hq2 λG2 g2 s2=>seq λM hM=>?_);erw[jH hd,c1,bc g2];repeat refine ⟨by first |trivial |decide,?_⟩
 intro q3 hq3;refine hM _ _ (iC hq3 λG3 g3 s3=>seq λM hM=>?_);erw[jH hd,c1,bc g3];repeat refine ⟨by first |trivial |decide,?_⟩
 intro q4 hq4;refine hM _ _ (iC hq4 λG4 g4 s4=>seq λM hM=>?_);erw[jH hd,c1,cH g4];repeat refine ⟨by first |trivial |decide,?_⟩
 refine hM _ _ (FN hq4 s4 λG5 g5 s5=>seq λM hM=>?_);have sa:Sa G G5:=s1.trans (s2.trans (s3.trans s5));erw[jH hd,aaY g5,aaW g5,c1];refine bx (a:=lX "NoText") rfl ?_;erw[c4,c2,c3];symm;erw[ends];refine ⟨by decide,hM _ _ (last ?_)⟩;erw[aaZ g5,aaX g5];refine ⟨by decide,by decide,bx (a:=lX "NoText") rfl ⟨c5,?_⟩⟩;exact bx c6 ⟨sa,rfl⟩
theorem FP{G G':DH}{q:Addr}(s:Sa G G')(h:G' q=none):G q=none:=by
 cases e:G q with
 |none=>rfl
 |some o=>rw[s _ _ e]at h;cases h
def qY:RF.Spec:=ghS (A:=List Nat) (λt ds _=>ds=[.str t]/\t.length<=80000) (λt G d G'=>Sa G G'/\d=cM (bH t))
theorem xN{t:List Nat}{G:DH}{k:D->DH->Prop}{E:EK}(h:t.length<=80000)(hk:∀G',Sa G G'->k (cM (bH t)) G'):qY.t [.str t] G k E:=lw t ⟨rfl,h⟩ λd G' hx=>by
 obtain ⟨s,rfl⟩:=hx;exact hk G' s
theorem aa4 (Z:ak) (h1:Z "read_book"=gK) (h2:Z "_law_refusal"=qX) (t:List Nat) (ds:List D) (G:DH) (h:ds=[.str t]/\t.length<=80000):au Z wR noE (env0 ds 2) G (ends λd G'=>Sa G G'/\d=cM (bH t)):=by
 obtain ⟨rfl,ht⟩:=h;simp_all_arith[wR];nofun;erw[ends];refine λq hq=>hM _ _ (iC hq λG1 g1 s1=>seq λM hM=>?_);simp_arith![h1];refine ⟨⟨t,G1⟩,⟨rfl,ht,rfl⟩,λd G2 hx=>?_,λx G2 hx=>?_⟩
 ·obtain ⟨sa,w,rs,e,rfl⟩:=hx;have sa:Sa G1 G2:=sa;intro q2 hq2;refine hM _ _ (iC hq2 λG3 g3 s3=>last ?_);erw[g3];exact ⟨((s1.trans sa).trans s3).frz (FP (s1.trans sa) hq2),by rw[e];rfl⟩
 ·obtain ⟨sa,n,e,rfl⟩:=hx;have sa:Sa G1 G2:=sa;have ex:xval ⟨"NoText",.int (n:Int)⟩=.exa "NoText" "number" (.int (n:Int)):=rfl;refine ⟨(by decide:["NoText"].contains "NoText"=true),(by decide:aV "NoText" "SieveError"=true),?_⟩;rw[ex];refine seq λM' hM'=>?_;simp_arith![h2];refine aa2 (.inr ⟨_,_,rfl⟩) λG3 s3=>?_;refine ⟨by decide,λq2 hq2=>hM' _ _ (iC hq2 λG4 g4 s4=>last ?_)⟩;have et:jG=[116,101,120,116]:=rfl;simp_arith![bc g4,et];refine ⟨by bv_omega,⟨rfl,rfl,by decide⟩,?_⟩;show au Z (.cons _ .nil) _ _ _ _;refine last ?_;erw[cH g4];refine ⟨by bv_omega,hM _ _ (FN hq2 s4 λG5 g5 s5=>last ?_)⟩;erw[g5];exact ⟨(((s1.trans sa).trans s3).trans s5).frz (FP ((s1.trans sa).trans s3) hq2),by rw[e];rfl⟩
def xO:RF.Spec:=bG (λds G=>∃p,ds=[.ref p,.str []]/\Pen G p) (λds G d G'=>∃p c,ds=[.ref p,.str []]/\d=.str [c]/\Pen G' p/\Sb p G G')
theorem aa5 (Z:ak) (h1:Z "_law_take"=dF) (ds:List D) (G:DH) (h:∃p,ds=[.ref p,.str []]/\Pen G p):
  au Z wu noE (env0 ds 2) G (ends λd G'=>∃p c,ds=[.ref p,.str []]/\d=.str [c]/\Pen G' p/\Sb p G G'):=by
 obtain ⟨p,rfl,hp⟩:=h;simp_all_arith[wu];nofun;erw[ends];symm;erw[ends];refine ⟨by decide,hM _ _ ?_⟩;refine (λtail=>tail _ (by decide) (by decide)) (?_:∀l:List Nat,l≠[]->l.length<=1000->au Z _ noE [some (.ref p),some (.str []),some (.str l),none] G _);intro l l1 l2;have l3:0 < l.length:=List.length_pos_iff.mpr l1;nofun;erw[ends];refine CompG.map (f:=λd=>d) (I:=λY=>∃o,Y=[o,some (.str [])]) ⟨_,rfl⟩ trivial (by simp;bv_omega) ?_ ?_
 ·rintro d Y hd ⟨o,rfl⟩ kk hk;obtain ⟨c,_,rfl⟩:=bP.mp hd;erw[List.contains_nil];exact hk _ ⟨_,rfl⟩
 ·refine hM _ _ ?_;erw[h1,List.map_id',ah];refine b7 ⟨p,_,rfl,hp,by omega,by omega⟩ λd' G2 ⟨p2,m2,r,e1,e2,r0,r1,pp2,sb2⟩=>?_;cases e1;subst e2;erw[ends];refine fU r0 (by simpa using r1) λa ha=>?_;obtain ⟨c,_,rfl⟩:=bP.mp ha;exact ⟨p,c,rfl,rfl,pp2,sb2⟩
def xP:RF.Spec:=bG (λds G=>∃p,ds=[.ref p]/\Pen G p) (λds G d G'=>∃p c,ds=[.ref p]/\d=.str [c]/\Pen G' p/\Sb p G G')
theorem aa6 (Z:ak) (h1:Z "_law_sign_but"=xO) (ds:List D) (G:DH) (h:∃p,ds=[.ref p]/\Pen G p):
  au Z ww noE (env0 ds 0) G (ends λd G'=>∃p c,ds=[.ref p]/\d=.str [c]/\Pen G' p/\Sb p G G'):=by
 obtain ⟨p,rfl,hp⟩:=h;erw[ww,h1];refine b7 ⟨p,rfl,hp⟩ λd' G2 ⟨p2,c,e1,e2,pp2,sb2⟩=>?_;cases e1;subst e2;exact ⟨p,c,rfl,rfl,pp2,sb2⟩
def tot(ls:List (List Nat)):Nat:=(ls.map (·.length)).sum+ls.length
theorem eX(a b:List (List Nat)):tot (a++b)=tot a+tot b:=by unfold tot;rw[da,List.sum_append,aw];omega
theorem aa7(a:List (List Nat)):tot a.reverse=tot a:=by unfold tot;rw[List.map_reverse,List.sum_reverse,eJ]
theorem aa8(a:List (List Nat))(n:Nat):tot (a.take n)<=tot a:=by have:=eX (a.take n) (a.drop n);rw[List.take_append_drop]at this;omega
theorem aa9(a:List (List Nat))(n:Nat):tot (a.drop n)<=tot a:=by have:=eX (a.take n) (a.drop n);rw[List.take_append_drop]at this;omega
theorem aba(a:List (List Nat))(lo hi:Option Int):tot (cut a lo hi)<=tot a:=bi (aa8 _ _) (aa9 _ _)
theorem FQ(c:Nat):∀l:List Nat,tot (az c l)=l.length+1
 |[]=>rfl
 |x::l=>by
  have ih:=FQ c l;rw[az];split
  ·show (0+((az c l).map (·.length)).sum)+((az c l).length+1)=_;unfold tot at ih;rw[aS];omega
  ·cases hs:az c l with
   |nil=>exact absurd hs (eV c l)
   |cons a r=>
    rw[hs]at ih;unfold tot at ih ⊢;simp only[List.headD_cons,List.tail_cons,ci,List.sum_cons,aS]at ih ⊢;omega
theorem lY(ls:List (List Nat)):bf (ls.map D.str)=some ls:=by have:=Fi (λl:List Nat=>l) ls;rw[List.map_id']at this;exact this
def qZ:RF.Spec:=ghS (A:=Addr×List Nat) (λa ds G=>ds=[.ref a.1,.str a.2]/\Pen G a.1/\a.2.length<=20000) (λa _ d G'=>∃t,d=.str t/\t.length<=3 * a.2.length+100/\Pen G' a.1)
theorem xQ{p:Addr}{t:List Nat}{G:DH}{k:D->DH->Prop}{E:EK}(hp:Pen G p)(ht:t.length<=20000)(hk:∀t' G',t'.length<=3 * t.length+100->Pen G' p->k (.str t') G'):qZ.t [.ref p,.str t] G k E:=lw (p,t) ⟨rfl,hp,ht⟩ λd G' hx=>by
 obtain ⟨t',rfl,h1,h2⟩:=hx;exact hk t' G' h1 h2
theorem abb (Z:ak) (h1:Z "_law_take"=dF) (h2:Z "_law_any_sign"=xP) (a:Addr×List Nat) (ds:List D) (G:DH) (h:ds=[.ref a.1,.str a.2]/\Pen G a.1/\a.2.length<=20000):au Z wy noE (env0 ds 8) G (ends λd G'=>∃t,d=.str t/\t.length<=3 * a.2.length+100/\Pen G' a.1):=by
 obtain ⟨p,t⟩:=a;obtain ⟨rfl,hp,ht⟩:=h;dsimp only at hp ht ⊢;have hto:=FQ 10 t;have hln:=split_le (c:=10) (l:=t);have hpos:0 < (az 10 t).length:=List.length_pos_iff.mpr (eV 10 t);simp_all_arith[wy];nofun;simp_arith![h1];refine bK hp (by omega) (by omega) λat_ G1 hat hp1 _=>hM _ _ (seq λM hM=>?_);simp_arith![h1,h2];refine bK hp1 (by decide) (by decide) λr1 G2 hr1 hp2 _=>?_;simp_arith![h1,h2];refine fU (by omega) (by simpa using hr1) λc1 _=>?_;refine b7 ⟨p,rfl,hp2⟩ λd3 G3 ⟨p3,c3,e3,e3',hp3,_⟩=>?_;cases e3;subst e3';refine ⟨by decide,bK hp3 (by decide) (by decide) λr4 G4 hr4 hp4 _=>?_⟩;simp_arith![ends];refine fU (by omega) (by simpa using hr4) λsd hsd=>hM _ _ (seq λM hM=>?_);obtain ⟨c,rfl⟩:∃c,sd=.str [c]:=by
  simp only[ay,br,ej]at hsd;rcases hsd with e |e
  ·exact ⟨_,e⟩
  ·exact ⟨_,e⟩
 erw[ends];refine ⟨⟨by decide,by bv_omega⟩,hM _ _ (seq λM hM=>?_)⟩;simp_arith![h1,ah];refine bK hp4 (by omega) (by omega) λkk G5 hkk hp5 _=>hM _ _ (seq λM hM=>?_);erw[ends];refine ⟨by decide,hM _ _ (seq λM hM=>?_)⟩;simp_arith![h1];refine bK hp5 (by decide) (by decide) λr6 G6 hr6 hp6 _=>?_;simp_arith![ends];refine fU (by omega) (by simpa using hr6) λrw_ hrw=>hM _ _ (seq λM hM=>?_);obtain ⟨rt,rfl,hrt⟩:∃l:List Nat,rw_=.str l/\l.length<=13:=by simp only[ay,br,ej]at hrw;rcases hrw with e |e |e |e |e |e |e |e |e |e <;> exact ⟨_,e,by decide⟩
 simp_arith![h1];refine bK hp6 (by decide) (by decide) λk8 G7 hk8 hp7 _=>hM _ _ (seq λM hM=>?_);have hk10:(k8:Int)=0\/(k8:Int)=1\/(k8:Int)=2\/(k8:Int)=3\/(k8:Int)=4\/(k8:Int)=5\/(k8:Int)=6\/(k8:Int)=7\/(k8:Int)=8\/(k8:Int)=9:=by omega
 generalize (k8:Int)=K at hk10;clear hk8;have cl:∀lo hi,(cut t lo hi).length<=t.length:=λlo hi=>qC t lo hi;have fin3:∀(x:List Nat)(i:Int),x.length<=1->(cut t none (some (at_:Int))).length+x.length<=sz/\((cut t none (some (at_:Int))++x).length+(cut t (some i) none).length<=sz/\∃t_1,D.str (cut t none (some (at_:Int))++x++cut t (some i) none)=D.str t_1/\t_1.length<=3 * t.length+100/\Pen G7 p):=λx i hx=>by
  have a1:=cl none (some (at_:Int));have a2:=cl (some i) none;refine ⟨by bv_omega,by rw[aw];bv_omega,_,rfl,?_,hp7⟩;rw[aw,aw];omega
 have fin4:∀ls:List (List Nat),tot ls<=3 * (t.length+1)+30->(ls.map (·.length)).sum+ls.length * (0+1)<=sz/\∃t_1,D.str (cZ [10] ls)=D.str t_1/\t_1.length<=3 * t.length+100/\Pen G7 p:=λls hl=>by
  have e:(ls.map (·.length)).sum+ls.length * (0+1)=tot ls:=by unfold tot;omega
  have:=vm [10] ls;rw[show ([10]:List Nat).length=0+1 from rfl,e]at this;exact ⟨by rw[e];bv_omega,_,rfl,by omega,hp7⟩
 have tc:=aba (az 10 t);have lc:∀lo hi,(cut ((az 10 t).map D.str) lo hi).length<=t.length+1:=λlo hi=>bi (qC _ _ _) (by rw[ah];exact hln);rcases hk10 with rfl |rfl |rfl |rfl |rfl |rfl |rfl |rfl |rfl |rfl
 ·erw[ends];rw[show decide ((0:Int) < 3)=true from rfl];obtain ⟨f1,f2,f3⟩:=fin3 [c] (at_+0) (am _);exact ⟨by bv_omega,f1,by bv_omega,f2,f3⟩
 ·erw[ends];rw[show decide ((1:Int) < 3)=true from rfl];obtain ⟨f1,f2,f3⟩:=fin3 [] (at_+1) (by decide);exact ⟨by bv_omega,f1,by bv_omega,f2,f3⟩
 ·erw[ends];rw[show decide ((2:Int) < 3)=true from rfl];obtain ⟨f1,f2,f3⟩:=fin3 [c] (at_+1) (am _);exact ⟨by bv_omega,f1,by bv_omega,f2,f3⟩
 ·erw[ends];symm;erw[ends];rw[show ((3:Int)==3)=true from rfl];exact ⟨_,rfl,by have:=cl none (some (at_:Int));omega,hp7⟩
 ·erw[ends];symm;erw[ends];symm;erw[ends];rw[show ((4:Int)==4)=true from rfl];have l1:=lc none (some (kk:Int));have l2:=lc (some ((kk:Int)+1)) none;refine ⟨by bv_omega,bx (a:=cut (az 10 t) none (some (kk:Int))++cut (az 10 t) (some ((kk:Int)+1)) none) (by rw[d7,d7,<-da];exact lY _) (fin4 _ ?_)⟩;have:=tc none (some (kk:Int));have:=tc (some ((kk:Int)+1)) none;rw[eX];omega
 ·erw[ends];symm;erw[ends];symm;erw[ends];symm;erw[ends];rw[show ((5:Int)==5)=true from rfl];have l1:=lc none (some (kk:Int));have l2:=lc (some (kk:Int)) (some ((kk:Int)+1));have l3:=lc (some (kk:Int)) none;refine ⟨by bv_omega,by rw[aw];bv_omega,bx (a:=cut (az 10 t) none (some (kk:Int))++cut (az 10 t) (some (kk:Int)) (some ((kk:Int)+1))++cut (az 10 t) (some (kk:Int)) none) (by rw[d7,d7,d7,<-da,<-da];exact lY _) (fin4 _ ?_)⟩;have:=tc none (some (kk:Int));have:=tc (some (kk:Int)) (some ((kk:Int)+1));have:=tc (some (kk:Int)) none;rw[eX,eX];omega
 ·erw[ends];symm;erw[ends];symm;erw[ends];symm;erw[ends];symm;erw[ends];rw[show ((6:Int)==6)=true from rfl];have l1:=lc none (some (kk:Int));have l2:=lc (some (kk:Int)) (some ((kk:Int)+2));have l3:=lc (some ((kk:Int)+2)) none;refine ⟨by rw[eJ];bv_omega,by rw[aw,eJ];bv_omega,bx (a:=cut (az 10 t) none (some (kk:Int))++(cut (az 10 t) (some (kk:Int)) (some ((kk:Int)+2))).reverse++cut (az 10 t) (some ((kk:Int)+2)) none) (by rw[d7,d7,d7,<-List.map_reverse,<-da,<-da];exact lY _) (fin4 _ ?_)⟩;have:=tc none (some (kk:Int));have:=tc (some (kk:Int)) (some ((kk:Int)+2));have:=tc (some ((kk:Int)+2)) none;rw[eX,eX,aa7];omega
 ·erw[ends];symm;erw[ends];symm;erw[ends];symm;erw[ends];symm;erw[ends];symm;erw[ends];rw[show ((7:Int)==7)=true from rfl];have l1:=lc none (some (kk:Int));have l3:=lc (some ((kk:Int)+1)) none;refine ⟨by bv_omega,by bv_omega,by rw[aw];simp only[aS,e8];bv_omega,bx (a:=cut (az 10 t) none (some (kk:Int))++[rt]++cut (az 10 t) (some ((kk:Int)+1)) none) (by rw[d7,d7,show [D.str rt]=[rt].map D.str from rfl,<-da,<-da];exact lY _) (fin4 _ ?_)⟩;have:=tc none (some (kk:Int));have:=tc (some ((kk:Int)+1)) none;have e1:tot [rt]=rt.length+1:=by show (rt.length+0)+1=_;omega
  rw[eX,eX,e1];omega
 ·erw[ends];symm;erw[ends];symm;erw[ends];symm;erw[ends];symm;erw[ends];symm;erw[ends];symm;erw[ends];refine ⟨by decide,hM _ _ (seq λM hM=>?_)⟩;simp_arith![ends];rw[show ((8:Int)==8)=true from rfl];show au Z (.cons _ .nil) _ _ _ _;refine last ?_;simp_arith![h1];refine bK hp7 (by decide) (by decide) λr9 G9 hr9 hp9 _=>?_;simp_arith![ends];refine fU (by omega) (by simpa using hr9) λhd hhd=>?_;obtain ⟨ht_,rfl,hht⟩:∃l:List Nat,hd=.str l/\l.length<=13:=by
   simp only[ay,br,ej]at hhd;rcases hhd with e |e |e |e |e |e |e |e |e |e <;> exact ⟨_,e,by decide⟩
  have l3:=lc (some 1) none;refine ⟨by bv_omega,by bv_omega,bx (a:=[ht_]++cut (az 10 t) (some 1) none) (by rw[d7];exact lY (ht_::cut (az 10 t) (some 1) none)) ?_⟩;have:=tc (some 1) none;have e1:tot [ht_]=ht_.length+1:=by show (ht_.length+0)+1=_;omega
  obtain ⟨f1,t_1,f2,f3,_⟩:=fin4 ([ht_]++cut (az 10 t) (some 1) none) (by rw[eX,e1];omega);exact ⟨f1,t_1,f2,f3,hp9⟩
 ·erw[ends];symm;erw[ends];symm;erw[ends];symm;erw[ends];symm;erw[ends];symm;erw[ends];symm;erw[ends];refine ⟨by decide,hM _ _ (seq λM hM=>?_)⟩;erw[ends];ac_nf0;erw[ends];exact ⟨_,rfl,by omega,hp7⟩
theorem FT{w:Nat}:∀{ls:List (List Nat)}{n:Nat}{rs:List Row},bR w n ls=.inl rs->n<=13->n+rs.length<=13
 |[],n,rs,h,hn=>by cases h;exact hn
 |l::ls,n,rs,h,hn=>by
  cases hr:cL w l with
  |none=>rw[xH hr]at h;cases h
  |some r=>
   by_cases h12:12 < n
   ·rw[xJ hr h12]at h;cases h
   ·have e:=xK (acc:=[]) (ls:=ls) hr h12;rw[h]at e;cases hs:bR w (n+1) ls with
    |inr m=>rw[hs]at e;cases e
    |inl rs'=>
     rw[hs]at e;have e:([]++rs:List Row)=[]++[r]++rs':=Sum.inl.inj e;have:=FT hs (by omega);have e2:=ez List.length e;simp only[aw,aS,e8]at e2;omega
theorem abd{t:List Nat}{w:Nat}{rs:List Row}(h:bH t=.inl (w,rs)):rs.length<=12:=by
 unfold bH cT at h;split at h
 ·cases h
 ·split at h
  ·cases h
  ·split at h
   ·cases h
   ·rename_i hr;split at h
    ·cases h;have:=FT hr (by decide);omega
    ·cases h
theorem xR(t:List Nat):nr (cM (bH t))=true/\dpt (cM (bH t)) < 9/\fX (cM (bH t))=true:=by
 cases h:bH t with
 |inr n=>exact ⟨rfl,(by decide:(1:Nat) < 9),rfl⟩
 |inl a=>
  obtain ⟨w,rs⟩:=a;have hl:=abd h;have h1:nrs (rs.map cJ)=true:=lu λd hd=>by obtain ⟨r,_,rfl⟩:=bP.mp hd;rfl
  have h2:aO (rs.map cJ)<=1:=Ej λd hd=>by obtain ⟨_,_,rfl⟩:=bP.mp hd;exact am _
  have h3:fY (rs.map cJ)=true:=by
   clear h hl h1 h2;induction rs with
   |nil=>rfl
   |cons r rs ih=>rw[ci,fY,ih];rfl
  refine ⟨?_,?_,?_⟩
  ·simp only[cM,cQ,nr,nrs,h1,Bool.and_true]
  ·simp only[cM,cQ,dpt,aO];omega
  ·simp only[cM,cQ,fX,fY,h3,ah,aS,e8,Bool.and_true,ae,cw];first |exact ⟨by decide,trivial,by decide,trivial,by omega⟩ | (refine ⟨by decide,?_⟩;simp;omega) | (simp;omega)
structure F68(Z:ak):Prop where
 opn:Z "_law_open"=wX
 anew:Z "_law_anew"=qI
 book:Z "_law_book"=qL
 bt:Z "_law_book_text"=qP
 bent:Z "_law_bent"=qZ
 told:Z "_law_told"=qY
 due:Z "_law_due"=qW
 same:Z "_law_same"=dG 9
theorem xT(x:List Nat)(n:Nat):(reps x n).length=n * x.length:=by
 unfold reps;induction n with
 |zero=>simp
 |succ n ih=>rw[dn,fT,aw,ih,Nat.succ_mul];omega
theorem abe(Z:ak)(F:F68 Z)(ds:List D)(G:DH)(h:∃ns:List Int,ds=[.scr ns]/\ns.length<=63):au Z wU noE (env0 ds 7) G (ends λd _=>d=.bl true):=by
 obtain ⟨ns,rfl,hl⟩:=h;simp_all_arith[wU];nofun;erw[F.opn];refine b7 ⟨ns,rfl,hl⟩ λd' G1 hx=>?_;obtain ⟨p,e1,_,hp,_⟩:=hx;subst e1;symm;simp_arith![ends];refine ⟨by decide,ForG.inv (P:=λi Y G'=>(∃o2 o3 o4 o5 o6 o7,Y=[some (.scr ns),some (.ref p),o2,o3,o4,o5,o6,o7])/\Pen G' p) ⟨⟨_,_,_,_,_,_,rfl⟩,hp⟩ (λ_ _ _ _=>trivial) ?_ ?_⟩
 ·rintro i d Y G2 hd ⟨⟨o2,o3,o4,o5,o6,o7,rfl⟩,hp2⟩ kk hk;obtain ⟨hi,rfl⟩:i < 6/\d=.int (i:Int):=by
   unfold bA at hd;rw[cr]at hd;obtain ⟨x,hx,e⟩:=bg.mp hd;obtain ⟨hx1,hx2⟩:=bd.mp hx;rw[List.length_range]at hx1;rw[List.getElem_range]at hx2;subst hx2;exact ⟨by simpa using hx1,by rw[<-e,Int.zero_add]⟩
  simp_arith![ends];nofun;simp_arith![F.anew];refine aat hp2 λG3 hp3 _=>?_;refine ⟨by bv_omega,by decide,fU (by omega) (by show (i:Int) % 2 < 2;omega) λdw hdw=>⟨by bv_omega,⟨by decide,by decide⟩,fU (by omega) (by show (i:Int) / 3 < 2;omega) λdm hdm=>?_⟩⟩;obtain ⟨wm,rfl,hw1,hw2⟩:∃m:Nat,dw=.int (m:Int)/\1<=m/\m<=6:=by
   simp only[ay,br,ej]at hdw;rcases hdw with e |e
   ·exact ⟨3,e,by decide,by decide⟩
   ·exact ⟨6,e,by decide,by decide⟩
  obtain ⟨mm,rfl,hm2⟩:∃m:Nat,dm=.int (m:Int)/\m<=12:=by
   simp only[ay,br,ej]at hdm;rcases hdm with e |e
   ·exact ⟨5,e,by decide⟩
   ·exact ⟨12,e,by decide⟩
  simp only[F.book,F.bt];refine aam hp3 hw1 hw2 hm2 λw rs G4 hb hw hrs hp4 _=>aaz hb (hM _ _ (last ?_));have hbl:=aaB hb;generalize gJ w rs=bt at hbl;simp_arith![F.bent];refine xQ hp4 (by omega) λt1 G5 ht1 hp5=>?_;refine xQ hp5 (by omega) λt2 G6 ht2 hp6=>?_;refine xQ hp6 (by omega) λt3 G7 ht3 hp7=>?_;refine ⟨by bv_omega,ForG.inv (P:=λj Y G'=>(∃o4,Y=[some (.scr ns),some (.ref p),some (.int (i:Int)),some (.str bt),o4,o5,o6,o7])/\Pen G' p) ⟨⟨_,rfl⟩,hp7⟩ (λ_ _ _ _=>trivial) ?_ ?_⟩
  ·rintro j d Y G8 hd ⟨⟨o4,rfl⟩,hp8⟩ kk8 hk8;obtain ⟨x,rfl,hx⟩:∃x:List Nat,d=.str x/\x.length<=80000:=by
    have:=c8 hd;simp only[ay,br,ej]at this;rcases this with e |e
    ·exact ⟨t1,e,by omega⟩
    ·exact ⟨t3,e,by omega⟩
   obtain ⟨d1,d2,d3⟩:=xR x;simp_arith![ends];refine last ?_;simp_arith![F.told];refine xN hx λG9 s9=>?_;simp_arith![F.due];refine xM hx λG10 s10=>?_;simp only[F.same];refine wZ d1 d2 d3 ?_;erw[ends];exact hk8 _ _ ⟨⟨_,rfl⟩,(hp8.sa s9).sa s10⟩
  ·rintro Y G8 ⟨⟨o4,rfl⟩,hp8⟩;exact hk _ _ ⟨⟨_,_,_,_,_,_,rfl⟩,hp8⟩
 ·rintro Y G2 ⟨⟨o2,o3,o4,o5,o6,o7,rfl⟩,hp2⟩;symm;erw[ends];symm;simp_arith![ends];refine ⟨by bv_omega,ForG.inv (P:=λi Y G'=>∃o6 o7,Y=[some (.scr ns),some (.ref p),o2,o3,o4,some (.str [48,49,42,32,103,111,10]),o6,o7]) ⟨_,_,rfl⟩ (λ_ _ _ _=>trivial) ?_ ?_⟩
  ·rintro i d Y G3 hd ⟨o6,o7,rfl⟩ kk hk;obtain ⟨m,rfl,hm⟩:∃m:Nat,d=.int (m:Int)/\m<=14:=by
    have:=c8 hd;simp only[ay,br,ej]at this;rcases this with e |e |e
    ·exact ⟨12,e,by decide⟩
    ·exact ⟨13,e,by decide⟩
    ·exact ⟨14,e,by decide⟩
   have hrl:=xT [48,49,42,32,103,111,10] m;simp only[aS,e8]at hrl;simp_arith![ends];refine last ?_;simp_arith![F.told,F.due,e9];obtain ⟨d1,d2,_⟩:=xR (119::105::100::116::104::32::51::10::reps [48,49,42,32,103,111,10] m);have hz:((119::105::100::116::104::32::51::10::reps [48,49,42,32,103,111,10] m:List Nat)).length<=80000:=by simp only[aS];omega
   generalize (119::105::100::116::104::32::51::10::reps [48,49,42,32,103,111,10] m:List Nat)=tt at d1 d2 hz;refine ⟨by omega,by omega,by bv_omega,by bv_omega,xN hz λG4 s4=>⟨by omega,by omega,by bv_omega,by bv_omega,xM hz λG5 s5=>?_⟩⟩;rw[wY d1,pM d1];refine ⟨⟨d1,d1,by omega⟩,?_⟩;show au Z Sxs.nil _ _ _ _;erw[ends];exact hk _ _ ⟨_,_,rfl⟩
  ·rintro Y G3 ⟨o6,o7,rfl⟩;symm;simp_arith![ends];have r12:=xT [48,49,42,32,103,111,10] 12;have r11:=xT [48,49,42,32,103,111,10] 11;simp only[aS,e8]at r12 r11;rw[show Int.toNat 12=12 from rfl,show Int.toNat 11=11 from rfl];refine ⟨by decide,by decide,by bv_omega,by bv_omega,by bv_omega,by decide,by decide,by bv_omega,by bv_omega,by bv_omega,by bv_omega,hM _ _ (last ?_)⟩;simp_arith![ends];generalize hI:([D.str [],D.str [10],D.str [119,105,100,116,104,32,51],D.str [119,105,100,116,104,32,51,10,10],
    D.str (119::105::100::116::104::32::51::10::(reps [48,49,42,32,103,111,10] 12++[120])),
    D.str (119::105::100::116::104::32::51::10::(reps [48,49,42,32,103,111,10] 11++[48,49,42,32,103,111]))]:List D)=items
   have hmem:∀d∈items,∃x:List Nat,d=.str x/\x.length<=80000:=λd hd=>by
    rw[<-hI]at hd;simp only[ay,br,ej]at hd;rcases hd with e |e |e |e |e |e
    ·exact ⟨_,e,by decide⟩
    ·exact ⟨_,e,by decide⟩
    ·exact ⟨_,e,by decide⟩
    ·exact ⟨_,e,by decide⟩
    ·exact ⟨_,e,by simp only[aS,aw,e8];omega⟩
    ·exact ⟨_,e,by simp only[aS,aw,e8];omega⟩
   have hil:items.length=6:=by rw[<-hI];rfl
   refine CompG.inv (P:=λi acc Y G'=>acc=[]/\∃o,Y=[o]) ⟨rfl,_,rfl⟩ (λ_ _ _ _ _=>trivial) (by rw[hil];bv_omega) ?_ ?_
   ·rintro i d acc Y G4 hd ⟨rfl,o,rfl⟩ kk hk;obtain ⟨x,rfl,hx⟩:=hmem d (c8 hd);obtain ⟨d1,d2,d3⟩:=xR x;simp_arith![F.told];refine xN hx λG5 s5=>?_;simp_arith![F.due];refine xM hx λG6 s6=>?_;simp only[F.same];refine wZ d1 d2 d3 ?_;erw[ends];exact hk _ _ _ ⟨rfl,_,rfl⟩
   ·rintro acc Y G4 ⟨rfl,_⟩;exact ⟨⟨rfl,by decide⟩,rfl⟩
end RF
namespace HD
open PySem PySem.W
def sv(x:Str)(t:Nat):Value:=.str x t
def ri(n:Nat):Value:=.int n 0
def gM (l:List Value):Obj:=⟨.type "tuple",none,.seq ⟨l⟩ 0,⟨[]⟩⟩
def eY(c:Value)(l:List Value):Obj:=⟨c,none,.fields ⟨l⟩,⟨[]⟩⟩
def lZ:Str:="/claim/cut.py"
def xU(n q:Str)(ln ac fl a b:Nat)(isf:Bool)(l1 l2 tm:Value)(t t2:Nat):Obj:=
 eY (.type "code") [sv n t,sv q (t+1),sv lZ (t+2),ri ln,ri ac,ri 0,ri 0,ri fl,.ref a,.bool isf,ri 181,.ref b,.none,l1,l2,tm,ri t2,ri ln,sv lZ (t2+1)]
def toks(t:Nat):List Str->List Value
 |[]=>[]
 |x::r=>sv x t::toks (t+1) r
def fdO(n q:Str)(p:Arguments)(b:List Stmt)(sc:Scope)(g:Nat)(md cd:Value):Data:=
 .func { name:=n,qualname:=q,params:=p,body:=.stmts b,scope:=sc,globals:=g,closure:=[],defaults:=.none,kwdefaults:=.none,pyModule:=md,code:=cd }
def enO(P:Params)(k:Str)(t:Nat)(v:Value):DictEntry:={ hash:=PyData.keyHash P k,key:=sv k t,val:=v }
def mj (l:List DictEntry) (e:Nat):Obj:=⟨.type "dict",none,.dict ⟨l⟩ e,⟨[]⟩⟩
def frO (c l:Nat) (md:Value):Obj:=⟨.type "frame",none,.plain,⟨[some (.ref c),some (.ref 3),some (.ref l),none,some md,none,some (.ref 0)]⟩⟩
def bfO (s:String) (v:Value):Obj:=eY (.type "builtin_function_or_method") [.builtin s,v]
def veM:List Value:=[.type "ValueError",.type "Exception",.type "BaseException",.type "object"]
def q8 (b:Expr):Bool:=match b with |.Name n _=>n==("ValueError":Str) |_=>false
def fnO(q:Str)(a t:Nat)(md:Value)(n:Str)(p:Arguments)(b:List Stmt)(sc:Scope)(ln:Nat):List Obj:=match localNames p sc (.stmts b) with
 |some l=>[gM [],eY .none [],gM (toks (t+3) l.1),gM [],⟨.none,none,fdO n q p b sc 0 .none .none,⟨[]⟩⟩,
   xU n q ln p.args.length 3 a (a+1) true (.ref (a+2)) (.ref (a+3)) (.ref (a+4)) t (t+3+l.1.length),⟨.type "function",none,fdO n q p b sc 3 md (.ref (a+5)),⟨[]⟩⟩]
 |none=>[gM [],eY .none [],⟨.none,none,fdO n q p b sc 0 .none .none,⟨[]⟩⟩,
   xU n q ln p.args.length 3 a (a+1) true .none .none (.ref (a+2)) t (t+3),⟨.type "function",none,fdO n q p b sc 3 md (.ref (a+3)),⟨[]⟩⟩]
def fnA(p:Arguments)(b:List Stmt)(sc:Scope):Nat:=match localNames p sc (.stmts b) with |some _=>7 |none=>5
def fnT(p:Arguments)(b:List Stmt)(sc:Scope):Nat:=match localNames p sc (.stmts b) with |some l=>l.1.length+5 |none=>5
def dot:Str:="."
structure MO where
 os:List Obj
 es:List DictEntry
 cs:List Value
 a:Nat
 t:Nat
def rm(P:Params)(c:Str)(md:Value):List Stmt->Nat->Nat->MO
 |.FunctionDef n p b _ _ _ sc _ _ pos::r,a,t=>
  let m:=rm P c md r (a+fnA p b sc) (t+fnT p b sc+1)
  ⟨fnO (c++dot++n) a t md n p b sc pos.line++m.os,enO P n (t+fnT p b sc) (.ref (a+fnA p b sc - 1))::m.es,ri pos.line::ri pos.col::.ref (a+fnA p b sc - 2)::m.cs,m.a,m.t⟩
 |_::r,a,t=>rm P c md r a t
 |[],a,t=>⟨[],[],[],a,t⟩
def clA(P:Params)(a:Nat)(b:List Stmt):Nat:=(rm P dot .none b (a+7) 0).a+2
def stO(P:Params)(r:Nat)(sub:List Value)(a t:Nat)(md:Value)(s:Stmt):List Obj:=match s with
 |.FunctionDef n p b _ _ _ sc _ _ pos=>fnO n a t md n p b sc pos.line
 |.ClassDef n bs _ body _ _ _ _ _ st pos=>
  let m:=rm P n md body (a+7) (t+12)
  let c:=m.a+2
  let u:=m.t+st.length
  let d1:=[enO P "__module__" (t+7) md]
  let d2:=enO P "__firstlineno__" (t+11) (.int pos.line (t+10))::m.es++[enO P "__static_attributes__" u (.ref m.a)]
  let b:List Value:=match bs with |b::_=>(match q8 b with |true=>[.type "ValueError"] |false=>[.ref r]) |[]=>[]
  let own:Bool:=match bs with |[]=>true |_=>false
  let ve:Bool:=match bs with |b::_=>q8 b |[]=>false
  let wr (v:Nat):Obj:=eY (.type "getset_descriptor") [sv "__weakref__" v,.ref c,.builtin "ExceptionGroup.__weakref__",.none]
  let typ (mro:List Value) (sub:List Value) (nw:String):Obj:=
   ⟨.type "type",none,.cls { name:=n,bases:=(match own with |true=>[.type "object"] |false=>b),mro:=.ref c::mro,ns:=m.a+1,qualname:=n,subclasses:=sub },
    ⟨[(match own with |true=>none |false=>some (.ref a)),none,some (sv n t),some (sv n (t+8)),some (.builtin nw),some (.bool true)]⟩⟩
  [gM b,bfO "type.__prepare__" (.type "type"),mj (d1++enO P "__qualname__" (t+9) (sv n (t+8))::d2) (4+m.es.length),gM [],eY .none m.cs,
   xU n n pos.line 0 0 (a+3) (a+4) false .none .none .none (t+2) (t+5),frO (a+5) (a+2) md]++m.os++[gM (toks m.t st)] ++
  (match own with
  |true=>[mj (d1++d2++[enO P "__dict__" (u+2) (.ref (c+1)),enO P "__weakref__" (u+4) (.ref (c+2)),enO P "__doc__" (u+5) .none]) 4,typ [.type "object"] [] "object.__new__",
    eY (.type "getset_descriptor") [sv "__dict__" (u+1),.ref c,.builtin "function.__dict__",.builtin "function.__dict__#set"],wr (u+3)]
  |false=>(match ve with
   |true=>[mj (d1++d2++[enO P "__weakref__" (u+2) (.ref (c+1)),enO P "__doc__" (u+3) .none]) 3,typ veM sub "ValueError.__new__",wr (u+1)]
   |false=>[mj (d1++d2++[enO P "__doc__" (u+1) .none]) 2,typ (.ref r::veM) [] "ValueError.__new__"])) ++
  [eY (.type "super") [.ref c,.ref c,.ref c],bfO "object.__init_subclass__" (.ref c)]
 |_=>[]
def mdO(t:Nat)(md:Value)(s:Stmt):Value:=match s with
 |.Assign [.Name n _] (.Constant (.str x) _ _) _=>(match n==("__name__":Str) with |true=>sv x t |false=>md)
 |_=>md
def enS(P:Params)(lk:Str->Value)(t u a a':Nat)(s:Stmt):List DictEntry:=match s with
 |.Assign [.Name n _] (.Name y _) _=>[enO P n t (lk y)]
 |.FunctionDef n _ _ _ _ _ _ _ _ _=>[enO P n (u-1) (.ref (a'-1))]
 |.ClassDef n _ _ b _ _ _ _ _ _ _=>[enO P n (u-1) (.ref (clA P a b))]
 |.Assign [.Name n _] (.Constant c _ _) _=>(match n==("__name__":Str) with
  |true=>[]
  |false=>[enO P n (t+1) (match c with |.int i=>.int i t |.str x=>sv x t |_=>.none)])
 |_=>[]
def fnS(a':Nat)(s:Stmt):List (Str×Value):=match s with
 |.FunctionDef n _ _ _ _ _ _ _ _ _=>[(n,.ref (a'-1))]
 |_=>[]
def cdS(a a':Nat)(s:Stmt):List Value:=match s with
 |.FunctionDef _ _ _ _ _ _ _ _ _ pos=>[ri pos.line,ri pos.col,.ref (a'-2)]
 |.ClassDef _ _ _ _ _ _ _ _ _ _ pos=>[ri pos.line,ri pos.col,.ref (a+5)]
 |_=>[]
def sbS(P:Params)(a:Nat)(s:Stmt):List Value:=match s with
 |.ClassDef _ bs _ b0 _ _ _ _ _ _ _=>(match bs with |b::_=>(match q8 b with |true=>[] |false=>[.ref (clA P a b0)]) |[]=>[])
 |_=>[]
def abf(P:Params)(a:Nat)(s:Stmt):List Nat:=match s with
 |.ClassDef _ bs _ b0 _ _ _ _ _ _ _=>(match bs with |b::_=>(match q8 b with |true=>[clA P a b0] |false=>[]) |[]=>[])
 |_=>[]
def fold{α:Type}(f:Nat->Nat->Nat->Nat->Value->Stmt->List α):List (Nat×Nat)->Value->List Stmt->List α
 | (a,t)::(a',u)::r,md,s::ss=>f a a' t u md s++fold f ((a',u)::r) (mdO t md s) ss
 |_,_,_=>[]
def FW:List (Nat×Nat)->Value->List Stmt->Value
 | (_,t)::r,md,s::ss=>FW r (mdO t md s) ss
 |_,md,_=>md
def gO:Value:=sv "__main__" 164
def abg(P:Params)(v:Value):List DictEntry:=
 [enO P "__name__" 165 v,enO P "__doc__" 166 .none,enO P "__package__" 167 .none,enO P "__loader__" 168 (.builtin "__main__.__loader__#opaque"),enO P "__spec__" 169 .none,
  enO P "__annotations__" 170 (.ref 6),enO P "__builtins__" 171 (.ref 4),enO P "__file__" 173 (sv lZ 172),enO P "__cached__" 174 .none]
def ents(N:List (Nat×Nat))(b:List Stmt)(P:Params):List DictEntry:=abg P (FW N gO b)++fold (λa a' t u _ s=>enS P (λy=>((fold (λ_ a' _ _ _ s=>fnS a' s) N gO b).lookup y).getD .none) t u a a' s) N gO b
def put{α:Type}:Nat->α->List α->List α
 |_,_,[]=>[]
 |0,x,_::r=>x::r
 |n+1,x,y::r=>y::put n x r
def Ga(cs:List Value):List Obj:=[gM [],eY .none cs,
 eY (.type "code") [sv "<module>" 182,sv "<module>" 183,sv lZ 184,ri 1,ri 0,ri 0,ri 0,ri 0,.ref 11,.bool false,ri 181,.ref 12,.none,.none,.none,.none,ri 185,ri 1,sv lZ 186],frO 13 3 gO]
def abh(B:List Obj):List Obj:=B++Ga []
def objs(B:List Obj)(N:List (Nat×Nat))(b:List Stmt)(P:Params):List Obj:=
 let es:=ents N b P
 put 3 (mj es es.length) (B++Ga (fold (λa a' _ _ _ s=>cdS a a' s) N gO b) ++
  fold (λa _ t _ md s=>stO P ((fold (λa _ _ _ _ s=>abf P a s) N gO b).headD 0) (fold (λa _ _ _ _ s=>sbS P a s) N gO b) a t md s) N gO b)
def evs{α:Type}:List α->List α
 |[]=>[]
 |[x]=>[x]
 |x::_::r=>x::evs r
def bt:Nat->List Obj->BT
 |0,_=>.nil
 |_,[]=>.nil
 |n+1,x::r=>.node x (bt n (evs r)) (bt n (evs r.tail))
def nameless(s:Stmt):Bool:=match s with
 |.Assign [.Name n _] _ _=>!(n==("__name__":Str))
 |_=>true
def pick:Nat->List Nat->List Obj->Frag
 |i,a::r,o::os=>(match Nat.beq a i with |true=>(a,o)::pick (i+1) r os |false=>pick (i+1) (a::r) os)
 |_,_,_=>[]
end HD
def PySem.W.Fast.tw13640778864999944592:PySem.Program:=PySem.Challenge.pw_starsieve_k68_texts_judged
theorem PySem.W.Fast.te13640778864999944592:PySem.Challenge.pw_starsieve_k68_texts_judged=PySem.W.Fast.tw13640778864999944592:=rfl
namespace HK
open PySem PySem.W PySem.W.Fast
def pw:Program:=PySem.Challenge.pw_starsieve_k68_texts_judged
def rl:OpenLaw:=PySem.Challenge.rw_starsieve_k68_texts_judged
def NN:List (Nat×Nat):=[(15,187),(15,189),(28,207),(47,232),(66,257),(78,273),(90,289),(102,305),(114,321),(126,337),(138,353),(150,369),(162,385),(174,401),(186,417),(198,433),(198,435),(198,437),(205,444),(212,451),(217,457),(224,465),(224,467),(224,469),(224,471),(224,473),(229,479),(236,487),(236,489),(236,491),(241,497),(248,506),(255,515),(262,529),(262,531),(267,537),(274,544),(281,555),(288,565),(295,572),(302,583),(307,589),(314,597),(321,607),(328,617),(335,629),(340,635),(347,649),(352,655),(359,664),(366,671),(371,677),(376,683),(381,689),(386,695),(393,708),(400,717),(407,733),(412,739)]
def L1(P:Params):List Obj:=HD.objs (boot_heap P).objs.toList NN pw.main.body P
def H1(P:Params):Heap:=⟨⟨L1 P⟩,{}⟩
def T1(P:Params):BT:=HD.bt 12 (L1 P)
def LA(P:Params):List Obj:=HD.abh (boot_heap P).objs.toList
def HA(P:Params):Heap:=⟨⟨LA P⟩,{}⟩
def T0(P:Params):BT:=HD.bt 5 (LA P)
def env:Env:={ scope:=pw.main.scope,locals:=mainNs,globals:=mainNs,cells:=[],code:=.ref 13,frame:=some 14 }
def bE:List Stmt:=behindTheImports pw
def cE:Code:=.body bE env
def p0:Pos:=⟨0,0,0,0⟩
def B:List Frame:=[topFrame p0]
def ann:Option Value:=some (.ref 6)
def qv:Program:={ pw with main:={ pw.main with body:=pw.main.body.filter HD.nameless } }
def as:List Nat:=[2,3,23,24,43,44,59,60,62,63,74,75,86,87,98,99,110,111,122,123,134,135,146,147,158,159,170,171,182,183,194,195,203,204,210,211,215,216,222,223,227,228,234,235,239,240,246,247,253,254,260,261,265,266,272,273,279,280,286,287,293,294,300,301,305,306,312,313,319,320,326,327,333,334,338,339,345,346,350,351,357,358,364,365,369,370,374,375,379,380,384,385,391,392,398,399,405,406,410,411]
def K(P:Params):Frag:=HD.pick 0 as (L1 P)
def Xt(s:Shared):Bool:=xlAt qv [] s&&recOk (RowW.records rl.row.toRowW) s
def see{α:Type}(_:α):Bool:=true
theorem primed:(see T1&&see T0&&see H1&&see HA&&see cE&&see B&&see env&&see bE&&see qv&&see K&&see Xt)=true:=by k_qdec
theorem pre(w:World)(os:OsState):topGo treeTable pw w 11 ann 12 ⟨boot_heap w.params,⟨[]⟩,boot_drawn,boot_toks,os⟩ (topStub pw)=some (⟨HA w.params,⟨[]⟩,{},187,os⟩,⟨denote treeTable cE,cE,p0,B⟩):=by have _:=primed;rw[PySem.W.Fast.te15667345088766844465,PySem.W.Fast.te14364793385576792824,PySem.W.Fast.te1032975242618825031,PySem.W.Fast.te8093259214132618727,PySem.W.Fast.te1718297227530528222,PySem.W.Fast.te11892475500146522536];rfl'
theorem block(w:World)(os:OsState):segRun treeTable pw w 11 ann 1 2 ⟨HA w.params,⟨[]⟩,{},187,os⟩ (blockOf bE env cE p0 B)=some (.next,SharedT.abs ⟨T0 w.params,15,{},⟨[]⟩,{},187,os⟩,cE,p0):=by rw[PySem.W.Fast.te14374325043358763698,PySem.W.Fast.te14364793385576792824,PySem.W.Fast.te1032975242618825031,PySem.W.Fast.te8093259214132618727,PySem.W.Fast.te1718297227530528222,PySem.W.Fast.te14938417808399470215,PySem.W.Fast.te16330338443398637341,PySem.W.Fast.te10239294469119128424];rfl'
theorem piece(w:World)(os:OsState):segRunT treeTable pw w 11 ann 1 9000 ⟨T0 w.params,15,{},⟨[]⟩,{},187,os⟩ (piecesOf bE env cE p0 B)=some (.next,⟨T1 w.params,412,{},⟨[]⟩,{},739,os⟩,cE,⟨265,0,277,90⟩):=by rw[PySem.W.Fast.te10110043849684766642,PySem.W.Fast.te14364793385576792824,PySem.W.Fast.te1032975242618825031,PySem.W.Fast.te13069687644243786066,PySem.W.Fast.te14938417808399470215,PySem.W.Fast.te1718297227530528222,PySem.W.Fast.te16330338443398637341,PySem.W.Fast.te10239294469119128424];rfl'
theorem fin(w:World)(os:OsState):topRun treeTable pw w 11 ann 3 (SharedT.abs ⟨T1 w.params,412,{},⟨[]⟩,{},739,os⟩) ⟨doneF .next,cE,⟨265,0,277,90⟩,B⟩=some ⟨H1 w.params,⟨[]⟩,{},739,os⟩:=by rw[PySem.W.Fast.te14082659384304107361,PySem.W.Fast.te14364793385576792824,PySem.W.Fast.te1032975242618825031,PySem.W.Fast.te13069687644243786066,PySem.W.Fast.te1718297227530528222,PySem.W.Fast.te14158929756966004236];rfl'
theorem run(w:World)(os:OsState):topRun treeTable pw w 11 ann (12+(2+(9000+3))) ⟨boot_heap w.params,⟨[]⟩,boot_drawn,boot_toks,os⟩ (topStub pw)=some ⟨H1 w.params,⟨[]⟩,{},739,os⟩:=by refine go_top (pre w os) (piece_block (block w os) ?_);have h:=piece_app (rest:=[]) (segRun_of (piece w os)) (piece_nil (fin w os));rw[List.append_nil]at h;exact h
theorem size (w:World):((boot_heap w.params).isNs mainGlobals&&(Array.mk []:Array GenState).size==0,(boot_heap w.params).objs.size,(boot_heap w.params).nsMap mainGlobals "__annotations__")=(true,11,ann):=by rfl'
theorem abi(w:World)(os:OsState):(staticsOk (importedModules pw.main.body) (boot_heap w.params) (H1 w.params)&&namesBound pw (H1 w.params)&&gensDone ⟨H1 w.params,⟨[]⟩,{},739,os⟩&&laidKept (boot_heap w.params) (H1 w.params))=true:=by rw[PySem.W.Fast.te1032975242618825031,PySem.W.Fast.te14158929756966004236,PySem.W.Fast.te5923862056798008813];rfl'
theorem abj(w:World)(os:OsState):openSeen qv [] (importedModules pw.main.body) Xt true ⟨H1 w.params,⟨[]⟩,{},739,os⟩=openGood qv []:=by rw[PySem.W.Fast.te1032975242618825031,PySem.W.Fast.te14158929756966004236,PySem.W.Fast.te5923862056798008813,PySem.W.Fast.te3994408356199485718,PySem.W.Fast.te3154452736318265832,PySem.W.Fast.te4187177175401517315];rfl'
theorem abk(w:World):as.map (H1 w.params).get?=(K w.params).map (λp=>some p.2):=by rw[PySem.W.Fast.te14158929756966004236,PySem.W.Fast.te538113369711794958];rfl'
theorem eAs(P:Params):as=(K P).map (·.1):=by rw[PySem.W.Fast.te538113369711794958];rfl'
def hook:Hook:=kHook K as eAs
theorem left:LeftO pw qv [] Xt hook.obs hook.val 12000:=by refine LeftO.of_pieces (boot_open (by rfl') (by decide) (λs=>by rfl')) size run (by decide) λw=>funext λos=>?_;exact Prod.ext (abi w os) (Prod.ext (abj w os) (abk w))
end HK
namespace Lk68
open PySem PySem.Spec PyProof.Rows L2 RF
open PySem.W (mg_of mg_none_of)
def Z:ak:=λf=>if f="_law_anew" then qI else if f="_law_spread" then qH else if f="_law_take" then dF else if f="_law_sign_but" then xO else if f="_law_any_sign" then xP else if f="_law_bent" then qZ else if f="_law_signs" then lH else if f="_law_deeds_of" then qK else if f="_law_form" then wW else if f="_law_wider" then iw else if f="_law_within" then iw else if f="_law_form_like" then qJ else if f="_law_book" then qL else if f="_law_row_text" then qN else if f="_law_lines" then qO else if f="_law_book_text" then qP else if f="_law_row_of" then iB else if f="_law_width_of" then iz else if f="_law_due" then qW else if f="_law_open" then wX else if f="_law_same" then dG 9 else if f="is_deed" then bJ lR else if f="is_text_of" then bJ fText else if f="is_form" then bJ lL else if f="is_row" then bJ lU else if f="read_row" then iB else if f="is_whole" then bJ jD else if f="is_width" then bJ lK else if f="read_number" then qT else if f="read_width" then iz else if f="_law_refusal" then qX else if f="read_book" then gK else if f="_law_told" then qY else if f="law" then lJ else bG (λ_ _=>False) (λ_ _ _ _=>False)
def Gb:Z "_law_anew"=qI:=by rfl'
def Gd:Z "_law_spread"=qH:=by rfl'
def eZ:Z "_law_take"=dF:=by rfl'
def Ge:Z "_law_sign_but"=xO:=by rfl'
def Gf:Z "_law_any_sign"=xP:=by rfl'
def Gg:Z "_law_bent"=qZ:=by rfl'
def xV:Z "_law_signs"=lH:=by rfl'
def Gi:Z "_law_deeds_of"=qK:=by rfl'
def Gj:Z "_law_form"=wW:=by rfl'
def Gk:Z "_law_wider"=iw:=by rfl'
def Gm:Z "_law_within"=iw:=by rfl'
def Gn:Z "_law_form_like"=qJ:=by rfl'
def Gp:Z "_law_book"=qL:=by rfl'
def Gq:Z "_law_row_text"=qN:=by rfl'
def Gr:Z "_law_lines"=qO:=by rfl'
def Gs:Z "_law_book_text"=qP:=by rfl'
def Gu:Z "_law_row_of"=iB:=by rfl'
def Gv:Z "_law_width_of"=iz:=by rfl'
def Gw:Z "_law_due"=qW:=by rfl'
def Gx:Z "_law_open"=wX:=by rfl'
def Gy:Z "_law_same"=dG 9:=by rfl'
def Gz:Z "is_deed"=bJ lR:=by rfl'
def GC:Z "is_text_of"=bJ fText:=by rfl'
def GD:Z "is_form"=bJ lL:=by rfl'
def GF:Z "is_row"=bJ lU:=by rfl'
def GJ:Z "read_row"=iB:=by rfl'
def GK:Z "is_whole"=bJ jD:=by rfl'
def GP:Z "is_width"=bJ lK:=by rfl'
def GQ:Z "read_number"=qT:=by rfl'
def GR:Z "read_width"=iz:=by rfl'
def GX:Z "_law_refusal"=qX:=by rfl'
def GZ:Z "read_book"=gK:=by rfl'
def Ha:Z "_law_told"=qY:=by rfl'
def bt:List String:=["all","bool","enumerate","int","isinstance","len","list","range","str","tuple","zip"]
def cn:List (String×D):=[("FIGURES",(.str [48,49,50,51,52,53,54,55,56,57])),("LETTERS",(.str [97,98,99,100,101,102,103,104,105,106,107,108,109,110,111,112,113,114,115,116,117,118,119,120,121,122])),("LONGEST_DEED",(.int 8)),("MOST_ROWS",(.int 12)),("WIDEST",(.int 6))]
def xs:List (String×Bool):=[("Full",false),("NoBook",false),("NoForm",false),("NoJoin",false),("NoLine",false),("NoMatch",false),("NoOrder",false),("NoRow",false),("NoText",false),("NoWord",false),("Nothing",false),("SieveError",false),("TooMany",false),("Turned",false),("ValueError",false)]
abbrev CK:=λN s f o b=>aD (aL N (aq s) f bt cn xs o) b (aJ s)=true
abbrev BB:=λ(l:PySem.W.OpenLaw) (w:World) (mg:Str->Option Value) (base:Heap) k f o=>Bse Z l.prog w (HK.K w.params) mg base (CX1 l.prog w) k f bt cn xs o
abbrev NQ:=λP (s:Str) (n:Nat)=>PySem.W.nsIn (HK.K P) mainGlobals s=some (some (.ref n))
abbrev BQ:=λP fd ps=>Binds (HK.K P) fd ps []
abbrev LN:Str:="law_starsieve_k68_texts_judged"
def f0:List (String×Nat):=[]
def o0:OT:={}
def f1:=("_law_anew",1)::f0
def f2:=("_law_spread",2)::f1
def f3:=("_law_take",2)::f2
def f4:=("_law_sign_but",2)::f3
def f5:=("_law_any_sign",1)::f4
def f6:=("_law_bent",2)::f5
def f7:=("_law_signs",3)::f6
def f8:=("_law_deeds_of",2)::f7
def f9:=("_law_form",2)::f8
def f10:=("_law_wider",2)::f9
def f11:=("_law_within",2)::f10
def f12:=("_law_form_like",3)::f11
def f13:=("_law_book",3)::f12
def f14:=("_law_row_text",1)::f13
def f15:=("_law_lines",1)::f14
def f16:=("_law_book_text",1)::f15
def f17:=("_law_row_of",2)::f16
def f18:=("_law_width_of",1)::f17
def f19:=("_law_due",1)::f18
def f20:=("_law_open",1)::f19
def f21:=("_law_same",2)::f20
def f22:=("is_deed",1)::f21
def f23:=("is_text_of",3)::f22
def f24:=("is_form",2)::f23
def f25:=("is_row",2)::f24
def f26:=("read_row",2)::f25
def f27:=("is_whole",1)::f26
def f28:=("is_width",1)::f27
def f29:=("read_number",1)::f28
def f30:=("read_width",1)::f29
def o1:OT:={ o0 with xk:=("NoText","number")::o0.xk }
def f31:=("_law_refusal",1)::f30
def o2:OT:={ o1 with qs:=("_law_refusal",1)::o1.qs }
def f32:=("read_book",1)::f31
def f33:=("_law_told",1)::f32
def S(i:Nat):Stmt:=HK.pw.main.body.getD i (.Pass ⟨0,0,0,0⟩)
def SM(i j:Nat):Stmt:=match S i with |.ClassDef _ _ _ b _ _ _ _ _ _ _=>b.getD j (.Pass ⟨0,0,0,0⟩) |s=>s
def mq:Stmt:=S 38
theorem abl:fnB ["pen"] ["pen"] (aq mq)=true:=by ac_rfl
theorem abm:CK ["pen"] mq f0 o0 wg:=by ac_rfl
def my:Stmt:=S 36
theorem abn:fnB ["cell","at","one","two","three"] ["cell","at"] (aq my)=true:=by ac_rfl
theorem abo:CK ["cell","at","one","two","three"] my f1 o0 wj:=by ac_rfl
def mz:Stmt:=S 39
theorem abp:fnB ["pen","many","at","cell","found"] ["pen","many"] (aq mz)=true:=by ac_rfl
theorem abq:CK ["pen","many","at","cell","found"] mz f2 o0 wk:=by ac_rfl
def mC:Stmt:=S 34
theorem abr:fnB ["pen","others","all_signs","some"] ["pen","others"] (aq mC)=true:=by ac_rfl
theorem abt:CK ["pen","others","all_signs","some"] mC f3 o0 wu:=by ac_rfl
def mD:Stmt:=S 35
theorem abu:fnB ["pen"] ["pen"] (aq mD)=true:=by ac_rfl
theorem abv:CK ["pen"] mD f4 o0 ww:=by ac_rfl
def mF:Stmt:=S 56
theorem abw:fnB ["pen","text","at","sign","old","k","rows","row","kind","heads"] ["pen","text"] (aq mF)=true:=by ac_rfl
theorem abx:CK ["pen","text","at","sign","old","k","rows","row","kind","heads"] mF f5 o0 wy:=by ac_rfl
def mG:Stmt:=S 40
theorem aby:fnB ["pen","width","signs"] ["pen","width","signs"] (aq mG)=true:=by ac_rfl
theorem abz:CK ["pen","width","signs"] mG f6 o0 wz:=by ac_rfl
def mH:Stmt:=S 45
theorem abA:fnB ["pen","most","some","turn","found","letters"] ["pen","most"] (aq mH)=true:=by ac_rfl
theorem abB:CK ["pen","most","some","turn","found","letters"] mH f7 o0 wA:=by ac_rfl
def mJ:Stmt:=S 41
theorem abC:fnB ["pen","width"] ["pen","width"] (aq mJ)=true:=by ac_rfl
theorem abD:CK ["pen","width"] mJ f8 o0 wB:=by ac_rfl
def mK:Stmt:=S 43
theorem abE:fnB ["pen","form","found","sign"] ["pen","form"] (aq mK)=true:=by ac_rfl
theorem abF:CK ["pen","form","found","sign"] mK f9 o0 wC:=by ac_rfl
def mL:Stmt:=S 42
theorem abG:fnB ["pen","form","found","sign"] ["pen","form"] (aq mL)=true:=by ac_rfl
theorem abH:CK ["pen","form","found","sign"] mL f10 o0 wD:=by ac_rfl
def mO:Stmt:=S 44
theorem abI:fnB ["pen","width","forms","kind","form","at"] ["pen","width","forms"] (aq mO)=true:=by ac_rfl
theorem abJ:CK ["pen","width","forms","kind","form","at"] mO f11 o0 wF:=by ac_rfl
def mQ:Stmt:=S 46
theorem abK:fnB ["pen","widest","most","width","deeds","forms","rows","k"] ["pen","widest","most"] (aq mQ)=true:=by ac_rfl
theorem abL:CK ["pen","widest","most","width","deeds","forms","rows","k"] mQ f12 o0 wG:=by ac_rfl
def mR:Stmt:=S 49
theorem abM:fnB ["row"] ["row"] (aq mR)=true:=by ac_rfl
theorem abN:CK ["row"] mR f13 o0 wH:=by ac_rfl
def mU:Stmt:=S 50
theorem abO:fnB ["book"] ["book"] (aq mU)=true:=by ac_rfl
theorem abP:CK ["book"] mU f14 o0 wI:=by ac_rfl
def mV:Stmt:=S 51
theorem abQ:fnB ["book"] ["book"] (aq mV)=true:=by ac_rfl
theorem abR:CK ["book"] mV f15 o0 wJ:=by ac_rfl
def mW:Stmt:=S 53
theorem abS:fnB ["width","line","words","odd"] ["width","line"] (aq mW)=true:=by ac_rfl
theorem abT:CK ["width","line","words","odd"] mW f16 o0 wK:=by ac_rfl
def mX:Stmt:=S 52
theorem abU:fnB ["line"] ["line"] (aq mX)=true:=by ac_rfl
theorem abV:CK ["line"] mX f17 o0 wL:=by ac_rfl
def mY:Stmt:=S 54
theorem abW:fnB ["text","lines","ended","width","rows","number","row"] ["text"] (aq mY)=true:=by ac_rfl
theorem abX:CK ["text","lines","ended","width","rows","number","row"] mY f18 o0 wM:=by ac_rfl
def mZ:Stmt:=S 37
theorem abY:fnB ["script","cells","k","cell"] ["script"] (aq mZ)=true:=by ac_rfl
theorem abZ:CK ["script","cells","k","cell"] mZ f19 o0 wN:=by ac_rfl
def m5:Stmt:=S 47
theorem ab0:fnB ["found","due"] ["found","due"] (aq m5)=true:=by ac_rfl
theorem ab1:CK ["found","due"] m5 f21 o0 dY:=by ac_rfl
def m6:Stmt:=S 25
theorem ab2:fnB ["thing"] ["thing"] (aq m6)=true:=by ac_rfl
theorem ab3:CK ["thing"] m6 f21 o0 jB:=by ac_rfl
def m7:Stmt:=S 19
theorem ab4:fnB ["signs","width","thing"] ["signs","width","thing"] (aq m7)=true:=by ac_rfl
theorem ab5:CK ["signs","width","thing"] m7 f22 o0 jC:=by ac_rfl
def m8:Stmt:=S 20
theorem ab6:fnB ["width","thing"] ["width","thing"] (aq m8)=true:=by ac_rfl
theorem ab7:CK ["width","thing"] m8 f23 o0 lA:=by ac_rfl
def m9:Stmt:=S 26
theorem ab8:fnB ["width","thing"] ["width","thing"] (aq m9)=true:=by ac_rfl
theorem ab9:CK ["width","thing"] m9 f24 o0 fW:=by ac_rfl
def ni:Stmt:=S 31
theorem aca:fnB ["width","line","row"] ["width","line"] (aq ni)=true:=by ac_rfl
theorem acb:CK ["width","line","row"] ni f25 o0 lB:=by ac_rfl
def nq:Stmt:=S 17
theorem acd:fnB ["thing"] ["thing"] (aq nq)=true:=by ac_rfl
theorem ace:CK ["thing"] nq f26 o0 lC:=by ac_rfl
def nu:Stmt:=S 18
theorem acf:fnB ["thing"] ["thing"] (aq nu)=true:=by ac_rfl
theorem acg:CK ["thing"] nu f27 o0 lE:=by ac_rfl
def nA:Stmt:=S 29
theorem ach:fnB ["text"] ["text"] (aq nA)=true:=by ac_rfl
theorem aci:CK ["text"] nA f28 o0 lF:=by ac_rfl
def nF:Stmt:=S 30
theorem acj:fnB ["line","words","number"] ["line"] (aq nF)=true:=by ac_rfl
theorem ack:CK ["line","words","number"] nF f29 o0 lG:=by ac_rfl
def nG:Stmt:=SM 3 0
theorem acl:fnB ["self","number"] ["self","number"] (aq nG)=true:=by ac_rfl
def acn:Ex:=(.fst (.cons (.cst (.str [114,111,119,32])) (.cons (.var 1) (.cons (.cst (.str [32,111,102,32,116,104,101,32,116,101,120,116,32,105,115,32,110,111,116,32,97,115,32,105,116,32,115,104,111,117,108,100,32,98,101])) .nil))))
theorem aco:qG (aL ["self","number"] (aq nG) f30 bt cn xs o0) "SieveError" "number" acn (aJ nG)=true:=by ac_rfl
def nH:Stmt:=S 48
theorem acp:fnB ["caught","some","names"] ["caught"] (aq nH)=true:=by ac_rfl
theorem acq:aD (ctQ ["caught","some","names"] (aq nH) ["isinstance"] cn xs o1.xk) wO (aJ nH)=true:=by ac_rfl
def nJ:Stmt:=S 32
theorem acr:fnB ["text","lines","unended","width","rows","number","line","row"] ["text"] (aq nJ)=true:=by ac_rfl
theorem acs:CK ["text","lines","unended","width","rows","number","line","row"] nJ f31 o2 wQ:=by ac_rfl
def nM:Stmt:=S 55
theorem acu:fnB ["text","told","e"] ["text"] (aq nM)=true:=by ac_rfl
theorem acv:CK ["text","told","e"] nM f32 o2 wR:=by ac_rfl
def nO:Stmt:=S 57
theorem acw:fnB ["script","pen","turn","text","one","row","many","some"] ["script"] (aq nO)=true:=by ac_rfl
theorem acx:CK ["script","pen","turn","text","one","row","many","some"] nO f33 o2 wU:=by ac_rfl
def fdM(n:Str)(st:Stmt)(m:Str)(t c:Nat):FuncData:=PySem.W.fnOf n n (iG st) (aJ st) (aq st) .none .none .none (.str m t) none (.ref c) .none
theorem mkF {K:PF} {n m:Str} {st:Stmt} {a t c:Nat}(l:K.lookup a=some ⟨.type "function",none,.func (fdM n st m t c),⟨[]⟩⟩:=by rfl')(h1:PySem.W.codeIn K (.ref c) n=true:=by eq_refl)(h2:PySem.W.keepIn K (.ref a)=true:=by eq_refl):Fun K n n st a (fdM n st m t c):=yW l h1 h2
theorem tK:type_of% @PySem.W.Fast.te538113369711794958:=PySem.W.Fast.te538113369711794958
local macro_rules|`(tactic|ac_nf)=>`(tactic|(intro _ _ _ _ _ _ us hl;first|(obtain ⟨_,h⟩:=cj hl;subst h;rfl)|(obtain ⟨_,_,h⟩:=cI hl;subst h;rfl)|(obtain ⟨_,_,_,h⟩:=qD hl;subst h;rfl)))
local macro_rules|`(tactic|eq_refl)=>`(tactic|(first|rw[tK]|(unfold NQ;rw[tK]));rfl')
section
variable {P:Params}
def fdQ(n q:Str)(st:Stmt)(m:Str)(t c:Nat):FuncData:=PySem.W.fnOf n q (iG st) (aJ st) (aq st) .none .none .none (.str m t) none (.ref c) .none
theorem mkQ {K:PF} {n q m:Str} {st:Stmt} {a t c:Nat}(l:K.lookup a=some ⟨.type "function",none,.func (fdQ n q st m t c),⟨[]⟩⟩:=by rfl')(h1:PySem.W.codeIn K (.ref c) q=true:=by eq_refl)(h2:PySem.W.keepIn K (.ref a)=true:=by eq_refl):Fun K n q st a (fdQ n q st m t c):=yW l h1 h2
def Hb:FuncData:=fdM "_law_anew" mq LN 529 293
theorem Hc:Fun (HK.K P) "_law_anew" "_law_anew" mq 294 Hb:=mkF
theorem acy:NQ P "_law_anew" 294:=by eq_refl
theorem acz:BQ P Hb ["pen"]:=Hc.binds (by ac_nf)
def Hf:FuncData:=fdM "_law_spread" my LN 529 279
theorem Hg:Fun (HK.K P) "_law_spread" "_law_spread" my 280 Hf:=mkF
theorem acA:NQ P "_law_spread" 280:=by eq_refl
theorem acB:BQ P Hf ["cell","at"]:=Hg.binds (by ac_nf)
def Hh:FuncData:=fdM "_law_take" mz LN 529 300
theorem Hi:Fun (HK.K P) "_law_take" "_law_take" mz 301 Hh:=mkF
theorem acC:NQ P "_law_take" 301:=by eq_refl
theorem acD:BQ P Hh ["pen","many"]:=Hi.binds (by ac_nf)
def Hj:FuncData:=fdM "_law_sign_but" mC LN 529 265
theorem Hk:Fun (HK.K P) "_law_sign_but" "_law_sign_but" mC 266 Hj:=mkF
theorem acE:NQ P "_law_sign_but" 266:=by eq_refl
theorem acF:BQ P Hj ["pen","others"]:=Hk.binds (by ac_nf)
def Hl:FuncData:=fdM "_law_any_sign" mD LN 529 272
theorem Hm:Fun (HK.K P) "_law_any_sign" "_law_any_sign" mD 273 Hl:=mkF
theorem acG:NQ P "_law_any_sign" 273:=by eq_refl
theorem acH:BQ P Hl ["pen"]:=Hm.binds (by ac_nf)
def Hn:FuncData:=fdM "_law_bent" mF LN 529 405
theorem Ho:Fun (HK.K P) "_law_bent" "_law_bent" mF 406 Hn:=mkF
theorem acI:NQ P "_law_bent" 406:=by eq_refl
theorem acJ:BQ P Hn ["pen","text"]:=Ho.binds (by ac_nf)
def Hq:FuncData:=fdM "_law_signs" mG LN 529 305
theorem Hr:Fun (HK.K P) "_law_signs" "_law_signs" mG 306 Hq:=mkF
theorem acK:NQ P "_law_signs" 306:=by eq_refl
theorem acL:BQ P Hq ["pen","width","signs"]:=Hr.binds (by ac_nf)
def Hs:FuncData:=fdM "_law_deeds_of" mH LN 529 338
theorem Ht:Fun (HK.K P) "_law_deeds_of" "_law_deeds_of" mH 339 Hs:=mkF
theorem acM:NQ P "_law_deeds_of" 339:=by eq_refl
theorem acN:BQ P Hs ["pen","most"]:=Ht.binds (by ac_nf)
def Hu:FuncData:=fdM "_law_form" mJ LN 529 312
theorem Hv:Fun (HK.K P) "_law_form" "_law_form" mJ 313 Hu:=mkF
theorem acO:NQ P "_law_form" 313:=by eq_refl
theorem acP:BQ P Hu ["pen","width"]:=Hv.binds (by ac_nf)
def Hx:FuncData:=fdM "_law_wider" mK LN 529 326
theorem Hy:Fun (HK.K P) "_law_wider" "_law_wider" mK 327 Hx:=mkF
theorem acQ:NQ P "_law_wider" 327:=by eq_refl
theorem acR:BQ P Hx ["pen","form"]:=Hy.binds (by ac_nf)
def Hz:FuncData:=fdM "_law_within" mL LN 529 319
theorem HB:Fun (HK.K P) "_law_within" "_law_within" mL 320 Hz:=mkF
theorem acS:NQ P "_law_within" 320:=by eq_refl
theorem acT:BQ P Hz ["pen","form"]:=HB.binds (by ac_nf)
def HF:FuncData:=fdM "_law_form_like" mO LN 529 333
theorem HH:Fun (HK.K P) "_law_form_like" "_law_form_like" mO 334 HF:=mkF
theorem acU:NQ P "_law_form_like" 334:=by eq_refl
theorem acV:BQ P HF ["pen","width","forms"]:=HH.binds (by ac_nf)
def HJ:FuncData:=fdM "_law_book" mQ LN 529 345
theorem HN:Fun (HK.K P) "_law_book" "_law_book" mQ 346 HJ:=mkF
theorem acW:NQ P "_law_book" 346:=by eq_refl
theorem acX:BQ P HJ ["pen","widest","most"]:=HN.binds (by ac_nf)
def HQ:FuncData:=fdM "_law_row_text" mR LN 529 364
theorem HR:Fun (HK.K P) "_law_row_text" "_law_row_text" mR 365 HQ:=mkF
theorem acY:NQ P "_law_row_text" 365:=by eq_refl
theorem acZ:BQ P HQ ["row"]:=HR.binds (by ac_nf)
def HS:FuncData:=fdM "_law_lines" mU LN 529 369
theorem HW:Fun (HK.K P) "_law_lines" "_law_lines" mU 370 HS:=mkF
theorem ac0:NQ P "_law_lines" 370:=by eq_refl
theorem ac1:BQ P HS ["book"]:=HW.binds (by ac_nf)
def HX:FuncData:=fdM "_law_book_text" mV LN 529 374
theorem HY:Fun (HK.K P) "_law_book_text" "_law_book_text" mV 375 HX:=mkF
theorem ac2:NQ P "_law_book_text" 375:=by eq_refl
theorem ac3:BQ P HX ["book"]:=HY.binds (by ac_nf)
def H9:FuncData:=fdM "_law_row_of" mW LN 529 384
theorem Ia:Fun (HK.K P) "_law_row_of" "_law_row_of" mW 385 H9:=mkF
theorem ac4:NQ P "_law_row_of" 385:=by eq_refl
theorem ac5:BQ P H9 ["width","line"]:=Ia.binds (by ac_nf)
def Ib:FuncData:=fdM "_law_width_of" mX LN 529 379
theorem Ie:Fun (HK.K P) "_law_width_of" "_law_width_of" mX 380 Ib:=mkF
theorem ac6:NQ P "_law_width_of" 380:=by eq_refl
theorem ac7:BQ P Ib ["line"]:=Ie.binds (by ac_nf)
def Ig:FuncData:=fdM "_law_due" mY LN 529 391
theorem Ih:Fun (HK.K P) "_law_due" "_law_due" mY 392 Ig:=mkF
theorem ac8:NQ P "_law_due" 392:=by eq_refl
theorem ac9:BQ P Ig ["text"]:=Ih.binds (by ac_nf)
def Ii:FuncData:=fdM "_law_open" mZ LN 529 286
theorem Ij:Fun (HK.K P) "_law_open" "_law_open" mZ 287 Ii:=mkF
theorem ada:NQ P "_law_open" 287:=by eq_refl
theorem adb:BQ P Ii ["script"]:=Ij.binds (by ac_nf)
def xW:FuncData:=fdM "_law_same" m5 LN 529 350
theorem rn:Fun (HK.K P) "_law_same" "_law_same" m5 351 xW:=mkF
theorem Ik:NQ P "_law_same" 351:=by eq_refl
theorem Il:BQ P xW ["found","due"]:=rn.binds (by ac_nf)
def Im:FuncData:=fdM "is_deed" m6 "starsieve.books" 465 227
theorem Io:Fun (HK.K P) "is_deed" "is_deed" m6 228 Im:=mkF
theorem adc:NQ P "is_deed" 228:=by eq_refl
theorem jB:BQ P Im ["thing"]:=Io.binds (by ac_nf)
def Ip:FuncData:=fdM "is_text_of" m7 "starsieve.forms" 433 215
theorem Ir:Fun (HK.K P) "is_text_of" "is_text_of" m7 216 Ip:=mkF
theorem ade:NQ P "is_text_of" 216:=by eq_refl
theorem jC:BQ P Ip ["signs","width","thing"]:=Ir.binds (by ac_nf)
def Iu:FuncData:=fdM "is_form" m8 "starsieve.forms" 433 222
theorem Iv:Fun (HK.K P) "is_form" "is_form" m8 223 Iu:=mkF
theorem adf:NQ P "is_form" 223:=by eq_refl
theorem lA:BQ P Iu ["width","thing"]:=Iv.binds (by ac_nf)
def Iw:FuncData:=fdM "is_row" m9 "starsieve.books" 465 234
theorem Iz:Fun (HK.K P) "is_row" "is_row" m9 235 Iw:=mkF
theorem adg:NQ P "is_row" 235:=by eq_refl
theorem fW:BQ P Iw ["width","thing"]:=Iz.binds (by ac_nf)
def IK:FuncData:=fdM "read_row" ni "starsieve.texts" 487 253
theorem IV:Fun (HK.K P) "read_row" "read_row" ni 254 IK:=mkF
theorem adh:NQ P "read_row" 254:=by eq_refl
theorem lB:BQ P IK ["width","line"]:=IV.binds (by ac_nf)
def IW:FuncData:=fdM "is_whole" nq "starsieve.forms" 433 203
theorem Ja:Fun (HK.K P) "is_whole" "is_whole" nq 204 IW:=mkF
theorem adi:NQ P "is_whole" 204:=by eq_refl
theorem lC:BQ P IW ["thing"]:=Ja.binds (by ac_nf)
def Jb:FuncData:=fdM "is_width" nu "starsieve.forms" 433 210
theorem Jc:Fun (HK.K P) "is_width" "is_width" nu 211 Jb:=mkF
theorem adk:NQ P "is_width" 211:=by eq_refl
theorem lE:BQ P Jb ["thing"]:=Jc.binds (by ac_nf)
def Jd:FuncData:=fdM "read_number" nA "starsieve.texts" 487 239
theorem Jf:Fun (HK.K P) "read_number" "read_number" nA 240 Jd:=mkF
theorem adl:NQ P "read_number" 240:=by eq_refl
theorem lF:BQ P Jd ["text"]:=Jf.binds (by ac_nf)
def Jg:FuncData:=fdM "read_width" nF "starsieve.texts" 487 246
theorem Jh:Fun (HK.K P) "read_width" "read_width" nF 247 Jg:=mkF
theorem adm:NQ P "read_width" 247:=by eq_refl
theorem lG:BQ P Jg ["line"]:=Jh.binds (by ac_nf)
def Ji:FuncData:=fdQ "__init__" "NoText.__init__" nG "starsieve.errors" 187 59
theorem Jj:Fun (HK.K P) "__init__" "NoText.__init__" nG 60 Ji:=mkQ
theorem Jl:NQ P "NoText" 63:=by eq_refl
theorem adn:gj (HK.K P) 63 60=true:=by eq_refl
theorem ado:PySem.W.typeIn (HK.K P) (.ref 60)=some (.type "function"):=by eq_refl
theorem adp:PySem.W.keepIn (HK.K P) (.ref 63)=true:=by eq_refl
theorem adq:fB (HK.K P) 63=true/\PySem.W.hasDictIn (HK.K P) 63=true/\PySem.W.findIn (HK.K P) (.ref 63) (Str.ofString "number")=some none:=⟨by eq_refl,by eq_refl,by eq_refl⟩
theorem adt:oN (HK.K P) 63 (Str.ofString "number")=true:=by eq_refl
theorem adu:Eo (HK.K P) xs "NoText"=true:=by eq_refl
theorem adv:BQ P Ji ["self","number"]:=Jj.binds (by ac_nf)
def Jm:FuncData:=fdM "_law_refusal" nH LN 529 357
theorem Jo:Fun (HK.K P) "_law_refusal" "_law_refusal" nH 358 Jm:=mkF
theorem adw:NQ P "_law_refusal" 358:=by eq_refl
theorem adx:BQ P Jm ["caught"]:=Jo.binds (by ac_nf)
def Jp:FuncData:=fdM "read_book" nJ "starsieve.texts" 487 260
theorem Jq:Fun (HK.K P) "read_book" "read_book" nJ 261 Jp:=mkF
theorem ady:NQ P "read_book" 261:=by eq_refl
theorem adz:BQ P Jp ["text"]:=Jq.binds (by ac_nf)
def Jr:FuncData:=fdM "_law_told" nM LN 529 398
theorem Js:Fun (HK.K P) "_law_told" "_law_told" nM 399 Jr:=mkF
theorem adA:NQ P "_law_told" 399:=by eq_refl
theorem adB:BQ P Jr ["text"]:=Js.binds (by ac_nf)
def xX:FuncData:=fdM "law" nO LN 529 410
theorem adC:Fun (HK.K P) "law" "law" nO 411 xX:=mkF
theorem adD:NQ P "law" 411:=by eq_refl
theorem adE:PySem.W.nsIn (HK.K P) mainGlobals "all"=some none:=by eq_refl
theorem adF:PySem.W.nsIn (HK.K P) mainGlobals "bool"=some none:=by eq_refl
theorem adG:PySem.W.nsIn (HK.K P) mainGlobals "enumerate"=some none:=by eq_refl
theorem adH:PySem.W.nsIn (HK.K P) mainGlobals "int"=some none:=by eq_refl
theorem adI:PySem.W.nsIn (HK.K P) mainGlobals "isinstance"=some none:=by eq_refl
theorem adJ:PySem.W.nsIn (HK.K P) mainGlobals "len"=some none:=by eq_refl
theorem adK:PySem.W.nsIn (HK.K P) mainGlobals "list"=some none:=by eq_refl
theorem adL:PySem.W.nsIn (HK.K P) mainGlobals "range"=some none:=by eq_refl
theorem adM:PySem.W.nsIn (HK.K P) mainGlobals "str"=some none:=by eq_refl
theorem adN:PySem.W.nsIn (HK.K P) mainGlobals "tuple"=some none:=by eq_refl
theorem adO:PySem.W.nsIn (HK.K P) mainGlobals "zip"=some none:=by eq_refl
theorem adP:PySem.W.nsIn (HK.K P) mainGlobals "FIGURES"=some (some (.str "0123456789" 489)):=by eq_refl
theorem adQ:PySem.W.nsIn (HK.K P) mainGlobals "LETTERS"=some (some (.str "abcdefghijklmnopqrstuvwxyz" 471)):=by eq_refl
theorem adR:PySem.W.nsIn (HK.K P) mainGlobals "LONGEST_DEED"=some (some (.int 8 469)):=by eq_refl
theorem adS:PySem.W.nsIn (HK.K P) mainGlobals "MOST_ROWS"=some (some (.int 12 467)):=by eq_refl
theorem adT:PySem.W.nsIn (HK.K P) mainGlobals "WIDEST"=some (some (.int 6 435)):=by eq_refl
theorem adU:NQ P "SieveError" 24:=by eq_refl
theorem k7:jR (HK.K P) 24=true:=by eq_refl
theorem x_s:xsB (HK.K P) xs=true:=by eq_refl
end
section
variable {l:PySem.W.OpenLaw} {w:World} {h:Heap} {mg:Str->Option Value} {base:Heap} (X:(HK.K w.params).In h) (G:h.Ns mainGlobals mg)
include X G
theorem B0:BB l w mg base 2 f0 o0:=bse trivial ⟨mg_none_of X G adE,mg_none_of X G adF,mg_none_of X G adG,mg_none_of X G adH,mg_none_of X G adI,mg_none_of X G adJ,mg_none_of X G adK,mg_none_of X G adL,mg_none_of X G adM,mg_none_of X G adN,mg_none_of X G adO,trivial⟩ ⟨Em (mg_of X G adP) (by ac_rfl) (by decide),Em (mg_of X G adQ) (by ac_rfl) (by decide),v9 (mg_of X G adR),v9 (mg_of X G adS),v9 (mg_of X G adT),trivial⟩ X G x_s
theorem B1:BB l w mg base 3 f1 o0:=(B0 X G).step Hc acz (mg_of X G acy) Gb 0 abl abm rfl rfl (cC (λds G h=>ZS Z  ds G h))
theorem B2:BB l w mg base 4 f2 o0:=(B1 X G).step Hg acB (mg_of X G acA) Gd 3 abn abo rfl rfl (cC (λds G h=>ZR Z  ds G h))
theorem B3:BB l w mg base 5 f3 o0:=(B2 X G).step Hi acD (mg_of X G acC) eZ 3 abp abq rfl rfl (cC (λds G h=>ZV Z Gd ds G h))
theorem B4:BB l w mg base 6 f4 o0:=(B3 X G).step Hk acF (mg_of X G acE) Ge 2 abr abt rfl rfl (cC (λds G h=>aa5 Z eZ ds G h))
theorem B5:BB l w mg base 7 f5 o0:=(B4 X G).step Hm acH (mg_of X G acG) Gf 0 abu abv rfl rfl (cC (λds G h=>aa6 Z Ge ds G h))
theorem B6:BB l w mg base 8 f6 o0:=(B5 X G).step Ho acJ (mg_of X G acI) Gg 8 abw abx rfl rfl (lz (λa ds G h=>abb Z eZ Gf a ds G h))
theorem B7:BB l w mg base 9 f7 o0:=(B6 X G).step Hr acL (mg_of X G acK) xV 0 aby abz rfl rfl (cC (λds G h=>ZZ Z eZ ds G h))
theorem B8:BB l w mg base 10 f8 o0:=(B7 X G).step Ht acN (mg_of X G acM) Gi 4 abA abB rfl rfl (cC (λds G h=>aal Z eZ xV ds G h))
theorem B9:BB l w mg base 11 f9 o0:=(B8 X G).step Hv acP (mg_of X G acO) Gj 0 abC abD rfl rfl (cC (λds G h=>Z0 Z eZ xV ds G h))
theorem B10:BB l w mg base 12 f10 o0:=(B9 X G).step Hy acR (mg_of X G acQ) Gk 2 abE abF rfl rfl (cC (λds G h=>aad Z eZ ds G h))
theorem B11:BB l w mg base 13 f11 o0:=(B10 X G).step HB acT (mg_of X G acS) Gm 2 abG abH rfl rfl (cC (λds G h=>aac Z eZ ds G h))
theorem B12:BB l w mg base 14 f12 o0:=(B11 X G).step HH acV (mg_of X G acU) Gn 3 abI abJ rfl rfl (cC (λds G h=>aai Z eZ Gj Gm Gk ds G h))
theorem B13:BB l w mg base 15 f13 o0:=(B12 X G).step HN acX (mg_of X G acW) Gp 5 abK abL rfl rfl (cC (λds G h=>aao Z eZ Gi Gn ds G h))
theorem B14:BB l w mg base 16 f14 o0:=(B13 X G).step HR acZ (mg_of X G acY) Gq 0 abM abN rfl rfl (gG (λa G h=>aav Z  a G h))
theorem B15:BB l w mg base 17 f15 o0:=(B14 X G).step HW ac1 (mg_of X G ac0) Gr 0 abO abP rfl rfl (gG (λa G h=>aay Z Gq a G h))
theorem B16:BB l w mg base 18 f16 o0:=(B15 X G).step HY ac3 (mg_of X G ac2) Gs 0 abQ abR rfl rfl (gG (λa G h=>aaA Z Gr a G h))
theorem B17:BB l w mg base 19 f17 o0:=(B16 X G).step Ia ac5 (mg_of X G ac4) Gu 2 abS abT rfl rfl (gG (λa G h=>aaQ Z  a G h))
theorem B18:BB l w mg base 20 f18 o0:=(B17 X G).step Ie ac7 (mg_of X G ac6) Gv 0 abU abV rfl rfl (gG (λa G h=>aaM Z  a G h))
theorem B19:BB l w mg base 21 f19 o0:=(B18 X G).step Ih ac9 (mg_of X G ac8) Gw 6 abW abX rfl rfl (lz (λa ds G h=>aaV Z Gv Gu a ds G h))
theorem B20:BB l w mg base 22 f20 o0:=(B19 X G).step Ij adb (mg_of X G ada) Gx 3 abY abZ rfl rfl (cC (λds G h=>Z1 Z  ds G h))
theorem Jt:∀n:Nat,FnOk l.prog w (HK.K w.params) mg base (CX1 l.prog w) (22+n) 351 xW ["found","due"] (lift (HK.K w.params) 2 (dG n))
 |0=>ZG Z9
 |n+1=>vW (fs:=f21) rn ((B20 X G).self (by ac_rfl) (Jt n) rn.kp Il (mg_of X G Ik)) (dG (n+1)) 2 0 ab0 ab1 rfl rfl (cC (λds G h=>Z8 (qF Z "_law_same" (dG n)) n (if_pos rfl) ds G h))
theorem B21:BB l w mg base 31 f21 o0:=(B20 X G).add (j:=9) Gy (Jt X G 9) rn.kp Il (mg_of X G Ik)
theorem B22:BB l w mg base 32 f22 o0:=(B21 X G).step Io jB (mg_of X G adc) Gz 0 ab2 ab3 rfl rfl (jy (λds G d h=>aar Z  ds G d h))
theorem B23:BB l w mg base 33 f23 o0:=(B22 X G).step Ir jC (mg_of X G ade) GC 0 ab4 ab5 rfl rfl (jy (λds G d h=>Z4 Z  ds G d h))
theorem B24:BB l w mg base 34 f24 o0:=(B23 X G).step Iv lA (mg_of X G adf) GD 0 ab6 ab7 rfl rfl (jy (λds G d h=>Z5 Z GC ds G d h))
theorem B25:BB l w mg base 35 f25 o0:=(B24 X G).step Iz fW (mg_of X G adg) GF 0 ab8 ab9 rfl rfl (jy (λds G d h=>aas Z GD Gz ds G d h))
theorem B26:BB l w mg base 36 f26 o0:=(B25 X G).step IV lB (mg_of X G adh) GJ 1 aca acb rfl rfl (gG (λa G h=>aaN Z GF a G h))
theorem B27:BB l w mg base 37 f27 o0:=(B26 X G).step Ja lC (mg_of X G adi) GK 0 acd ace rfl rfl (jy (λds G d h=>Z2 Z  ds G d h))
theorem B28:BB l w mg base 38 f28 o0:=(B27 X G).step Jc lE (mg_of X G adk) GP 0 acf acg rfl rfl (jy (λds G d h=>Z3 Z GK ds G d h))
theorem B29:BB l w mg base 39 f29 o0:=(B28 X G).step Jf lF (mg_of X G adl) GQ 0 ach aci rfl rfl (gG (λa G h=>aaG Z  a G h))
theorem B30:BB l w mg base 40 f30 o0:=(B29 X G).step Jh lG (mg_of X G adm) GR 2 acj ack rfl rfl (gG (λa G h=>aaK Z GQ GP a G h))
theorem B31:BB l w mg base 42 f30 o1:=(B30 X G).addX (j:=2) ⟨ZM (B30 X G) Jj adv (mg_of X G Jl) Jl adn ado adp adq adt (mg_of X G adU) k7 acl aco rfl rfl (λa d G kk h q=>ZQ h q),ZP X G adu⟩
theorem B32:BB l w mg base 43 f31 o2:=(B31 X G).stepQ (bq:=["isinstance"]) Jo adx (mg_of X G adw) GX 2 acp (by ac_rfl) acq rfl rfl (lz (λa ds G h=>aa3 Z  a ds G h))
theorem B33:BB l w mg base 44 f32 o2:=(B32 X G).stepX Jq adz (mg_of X G ady) GZ 7 acr acs rfl rfl (λds G a _ h=>aaT Z GR GJ ds G a h)
theorem B34:BB l w mg base 45 f33 o2:=(B33 X G).step Js adB (mg_of X G adA) Ha 2 acu acv rfl rfl (lz (λa ds G h=>aa4 Z GZ GX a ds G h))
theorem adV:FnOk l.prog w (HK.K w.params) mg base (CX1 l.prog w) 46 411 xX ["script"] (lift (HK.K w.params) 1 (lJ)):=vW adC (B34 X G) (lJ) 1 7 acw acx rfl rfl (cC (λds G h=>abe Z ⟨Gx,Gb,Gp,Gs,Gg,Ha,Gw,Gy⟩ ds G h))
omit X G in
theorem all (fa:Addr) (X:(HK.K w.params).In h) (G:h.Ns mainGlobals mg) (hfa:mg "law"=some (.ref fa)):∃fd:FuncData,(∀(s:Shared) (v:Value),BindsTo s fd ⟨[v],[]⟩ [("script",v)])/\∀base:Heap,(HK.K w.params).In base->base.Ns mainGlobals mg->FnOk l.prog w (HK.K w.params) mg base (CX1 l.prog w) 46 fa fd ["script"] (lift (HK.K w.params) 1 (lJ)):=by have e:=hfa.symm.trans (PySem.W.mg_of X G adD);cases e;exact ⟨xX,λs v=>.of_eq rfl,λbase _ _=>adV X G⟩
end
theorem walk {l:PySem.W.OpenLaw} {q:Program} {loose:List Str} {XP:(Str->Option Value)->Heap->Prop} {d:DefRec} (hn:l.most=some 63) (hdf:d.params.defaults=[]) (hdn:d.name="law"):
  PySem.W.WalkO q loose XP HK.hook.says l.row.toRowW d [] (λf vs=>PySem.call f vs):=
 L2.Ny (n:=63) (k:=46) (x:="script") (K:=HK.K) (CX:=λw=>CX1 l.prog w) (sp:=λw=>lift (HK.K w.params) 1 (lJ)) hn (by decide) hdf ⟨λ_=>rfl,by decide,by decide⟩ (λ_ _ Y=>Y) (λw mg fa h X G hmg=>all fa X G (hdn ▸ hmg)) (λw H a ns hl hO hS=>ZJ (ZK λns _ hl=>⟨ns,rfl,hl⟩) (HK.K w.params) H a ns hl hO hS) λ_ _ _ _ _ z=>Vr z
end Lk68
end
open PySem PySem.W PyProof.Rows
set_option maxHeartbeats 0 in
theorem PySem.Challenge.cw_starsieve_k68_texts_judged_holds : PySem.Challenge.rw_starsieve_k68_texts_judged.Holds := by
 have said:PySem.Challenge.rw_starsieve_k68_texts_judged.row.wellSaid=true:=by decide +kernel
 refine ⟨by decide +kernel,?_⟩;refine PySem.W.holds_open (q:=HK.qv) (loose:=[]) (Xt:=HK.Xt) (XP:=XL HK.qv []) (Yf:=HK.hook.obs) (Ya:=HK.hook.val) (YP:=HK.hook.says) (N:=12000) HK.left HK.hook.of HK.hook.keeps
  (λs e=>xl_of s (Bool.and_eq_true_iff.mp e).1) XL.keeps (by rfl) (by rfl) (by rfl) (λs e=>recFacts_of (Bool.and_eq_true_iff.mp e).2) (by rfl) (by assumption) (by decide +kernel) ⟨rfl,rfl,rfl,rfl,rfl,by decide +kernel⟩ ?hw ?hc
 case hw=>exact ⟨[.list []],by decide +kernel,by decide +kernel⟩
 exact Lk68.walk rfl rfl rfl
