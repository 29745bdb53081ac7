import PyProof.Rows.All
import Wide.All
import OpenK.AllK
import Wide.FinOn
import Lean
import PyProof.EqAt
import PyProof.EqKinds
import PyProof.TupleCall
import PyProof.NeKinds
import PyProof.FactsAll.range_2
import PyProof.FactsAll.tuple_2
import PyProof.FactsAll.tuple
import PyProof.ListRange
import PySem.Challenge.RW_starsieve_k35_which_steps_lead
set_option Elab.async false
set_option maxRecDepth 100000
noncomputable section
local macro_rules|`(tactic|rfl')=>`(tactic|kernel_rfl)
set_option Elab.async false
set_option linter.all false
set_option maxRecDepth 100000
namespace L2
open PySem PySem.Spec PyProof.Rows
abbrev Key:=Sum Int Str
def yG:Key->Value->Bool
 |.inl k,v=>Value.isInt k v
 |.inr x,v=>Value.isStrOf x v
def QZ(w:World):Key->Int
 |.inl k=>hashInt k
 |.inr x=>hashStr w x
theorem eN:∀{k:Key}{v:Value},yG k v=true->(∃i t,k=Sum.inl i/\v=Value.int i t)\/(∃x t,k=Sum.inr x/\v=Value.str x t)
 |.inl i,v,h=>by
  obtain ⟨t,e⟩:=Value.isInt_shape (k:=i) (v:=v) h;exact .inl ⟨i,t,rfl,e⟩
 |.inr x,v,h=>by
  obtain ⟨t,e⟩:=Value.isStrOf_shape (x:=x) (v:=v) h;exact .inr ⟨x,t,rfl,e⟩
theorem Q0(a b:Int):decide ((Sum.inl a:Key)=Sum.inl b)=(a==b):=by
 by_cases e:a=b
 ·subst e;simp
 ·have h:¬(Sum.inl a:Key)=Sum.inl b:=λq=>e (Sum.inl.inj q);rw[decide_eq_false h];exact (beq_eq_false_iff_ne.mpr e).symm
theorem Q3(a b:Str):decide ((Sum.inr a:Key)=Sum.inr b)=decide (a=b):=by
 by_cases e:a=b
 ·subst e;simp
 ·have h:¬(Sum.inr a:Key)=Sum.inr b:=λq=>e (Sum.inr.inj q);rw[decide_eq_false h,decide_eq_false e]
theorem Q4(a:Int)(b:Str):decide ((Sum.inl a:Key)=Sum.inr b)=false:=decide_eq_false (λq=>nomatch q)
theorem Q5(a:Str)(b:Int):decide ((Sum.inr a:Key)=Sum.inl b)=false:=decide_eq_false (λq=>nomatch q)
def ud(prog:Program)(w:World):PySem.KeyKind prog w Key where
 is:=yG
 hash:=QZ w
 inj:=λv a b ha hb=>by
  rcases eN ha with ⟨i,t,rfl,rfl⟩ |⟨x,t,rfl,rfl⟩
  ·rcases eN hb with ⟨j,u,rfl,e⟩ |⟨y,u,rfl,e⟩
   ·injection e with e1 _;rw[e1]
   ·exact nomatch e
  ·rcases eN hb with ⟨j,u,rfl,e⟩ |⟨y,u,rfl,e⟩
   ·exact nomatch e
   ·injection e with e1 _;rw[e1]
 byValue:=λk v h=>by
  rcases eN h with ⟨i,t,rfl,rfl⟩ |⟨x,t,rfl,rfl⟩ <;> rfl
 pyHash:=λhv h=>by
  rcases eN hv with ⟨i,t,rfl,rfl⟩ |⟨x,t,rfl,rfl⟩
  ·exact wpAny_pyHash_int h
  ·exact wpAny_pyHash_str h
 eqBool:=λhu hv h=>by
  rcases eN hu with ⟨i,t,rfl,rfl⟩ |⟨x,t,rfl,rfl⟩
  ·rcases eN hv with ⟨j,u,rfl,rfl⟩ |⟨y,u,rfl,rfl⟩
   ·rw[Q0]at h;exact wpAny_eqBool_int h
   ·rw[Q4]at h;exact SeqAt.EqAt.int_str i t y u _ _ _ _ h
  ·rcases eN hv with ⟨j,u,rfl,rfl⟩ |⟨y,u,rfl,rfl⟩
   ·rw[Q5]at h;exact SeqAt.EqAt.str_int x t j u _ _ _ _ h
   ·rw[Q3]at h;exact wpAny_eqBool_str h
 «strs»:=λk x t v h=>by
  rcases eN h with ⟨i,u,rfl,e⟩ |⟨y,u,rfl,e⟩
  ·exact nomatch e
  ·injection e with e1 _;subst e1;cases v <;> rfl
inductive V where
 |non |bl (b:Bool) |int (i:Int) |str (x:Str) |byt (b:Array UInt8) |flt (b:UInt64) |ref (a:Addr) |ty (n:String)
 deriving DecidableEq
def RelV:V->Value->Prop
 |.non,u=>u=Value.none
 |.bl b,u=>u=Value.bool b
 |.int i,u=>∃t,u=Value.int i t
 |.str x,u=>∃t,u=Value.str x t
 |.byt b,u=>∃t,u=Value.bytes b t
 |.flt b,u=>∃t,u=Value.float b t
 |.ref a,u=>u=Value.ref a
 |.ty n,u=>u=Value.type n
abbrev Vals:List V->List Value->Prop:=Paired RelV
theorem Vals.length{xs:List V}{us:List Value}(r:Vals xs us):xs.length=us.length:=Paired.length r
theorem Vals.get:∀{xs:List V}{us:List Value}{i:Nat}{x:V},Vals xs us->xs[i]?=some x->∃u,us[i]?=some u/\RelV x u
 |_,_,_,_,.nil,e=>by simp at e
 |_,_,0,_,.cons r _,e=>by simp at e;subst e;exact ⟨_,rfl,r⟩
 |_,_,i+1,x,.cons _ t,e=>by
  obtain ⟨u,h1,h2⟩:=Vals.get (i:=i) (x:=x) t (by simpa using e);exact ⟨u,by simpa using h1,h2⟩
theorem Vals.set{x:V}{u:Value}(r:RelV x u):∀{xs:List V}{us:List Value}(i:Nat),Vals xs us->Vals (xs.set i x) (us.set i u)
 |_,_,_,.nil=>.nil
 |_,_,0,.cons _ t=>.cons r t
 |_,_,i+1,.cons q t=>.cons q (Vals.set r i t)
theorem Vals.append:∀{xs ys:List V}{us ws:List Value},Vals xs us->Vals ys ws->Vals (xs++ys) (us++ws)
 |_,_,_,_,.nil,s=>s
 |_,_,_,_,.cons r t,s=>.cons r (Vals.append t s)
theorem Vals.take:∀{xs:List V}{us:List Value}(n:Nat),Vals xs us->Vals (xs.take n) (us.take n)
 |_,_,0,_=>.nil
 |_,_,_+1,.nil=>.nil
 |_,_,n+1,.cons r t=>.cons r (Vals.take n t)
theorem Vals.drop:∀{xs:List V}{us:List Value}(n:Nat),Vals xs us->Vals (xs.drop n) (us.drop n)
 |_,_,0,r=>r
 |_,_,_+1,.nil=>.nil
 |_,_,n+1,.cons _ t=>Vals.drop n t
def ue:Option V->Option Value->Prop
 |some v,some u=>RelV v u
 |none,none=>True
 |_,_=>False
def KV{κ:Type}:List (κ×V)->List (κ×Value)->Prop:=Paired λ(p:κ×V) (q:κ×Value)=>p.1=q.1/\RelV p.2 q.2
def kV:Key->V
 |.inl i=>.int i
 |.inr x=>.str x
inductive HO where
 |lst (xs:List V)
 |tup (xs:List V)
 |dK (kvs:List (Key×V)) |dT (kvs:List (List Key×V))
 |set (S:Int->Bool) (n:Nat)
 |ins (C dx:Addr) (fs:List (Str×V))
 |own (x:Addr)
 |xd (fs:List (Str×V))
 |met (f x:Addr)
 |rng (lo hi:Int)
 |frz (o:Obj) (u:HO)
 |tbl (ps:Array Value)
 |ext (φ:Heap->Prop)
abbrev Hp:=Addr->Option HO
def upd(H:Hp)(a:Addr)(o:HO):Hp:=λb=>if b=a then some o else H b
theorem dw{H:Hp}{a:Addr}{o:HO}:upd H a o a=some o:=by unfold upd;rw[if_pos rfl]
theorem aM{H:Hp}{a b:Addr}{o:HO}(h:b≠a):upd H a o b=H b:=by unfold upd;rw[if_neg h]
theorem yH{H:Hp}{a b:Addr}{o u:HO}(h:H a=some o)(h':H b=some u)(d:o≠u):a≠b:=by intro e;subst e;rw[h]at h';exact d (Option.some.inj h')
theorem bH{H:Hp}{a b:Addr}{o:HO}(h:H a=some o)(h':H b=none):a≠b:=by intro e;subst e;rw[h]at h';cases h'
section
variable (P:Program) (w:World)
def ObjOk(H:Hp)(h:Heap)(a:Addr):HO->Prop
 |.lst xs=>xs.length<=sizeLine/\∃(its:List Value) (n:Nat),Vals xs its/\h.get? a=some { cls:=.type "list",data:=.seq its.toArray n }
 |.tup xs=>xs.length<=sizeLine/\∃its:List Value,Vals xs its/\IsTup h a its.toArray
 |.dK kvs=>kvs.length<=sizeLine/\(a==sysModules)=false/\∃vs,KV kvs vs/\h.DictOf (ud P w) a vs
 |.dT kvs=>kvs.length<=sizeLine/\(a==sysModules)=false/\∃xs:List (List Key×Addr×Value),
   Paired (λ(p:List Key×V) (q:List Key×Addr×Value)=>p.1=q.1/\H q.2.1=some (.tup (p.1.map kV))/\RelV p.2 q.2.2) kvs xs/\
   ∃o es ep,h.get? a=some o/\o.ExactDict/\o.data=.dict es ep/\es.toList=xs.map (entryOfKey (tupleKind (ud P w)))/\(xs.map (·.1)).Nodup
 |.set S n=>h.SetOf (intKind P w) a S n
 |.ins C dx fs=>H dx=some (.own a)/\fs.length<=1000/\dx≠a/\h.get? a=some (PySem.W.instObj C dx)/\
   ∃mA,h.Ns1 dx mA/\(∀f,ue (fs.lookup f) (mA f))/\PySem.Within mA (fs.map (·.1))
 |.own _=>∃o,h.get? a=some o
 |.xd fs=>∃mA,h.Ns1 a mA/\∀f,ue (fs.lookup f) (mA f)
 |.rng lo hi=>∃t u v,h.get? a=some { cls:=.type "range",data:=.fields #[.int lo t,.int hi u,.int 1 v] }
 |.frz o u=>h.get? a=some o/\ObjOk H h a u
 |.tbl ps=>h.get? a=some { cls:=.none,data:=.fields ps }
 |.met f x=>h.get? a=some (PySem.W.methodObj (.ref f) (.ref x))
 |.ext φ=>φ h/\(∃o,h.get? a=some o)/\∀h1 h2:Heap,φ h1->(∀o,h1.get? a=some o->h2.get? a=some o)->φ h2
def HOk(H:Hp)(h:Heap):Prop:=∀a o,H a=some o->ObjOk P w H h a o
end
section
variable {P:Program} {w:World} {H H':Hp} {h h':Heap} {a:Addr} {o:HO}
theorem ObjOk.lt(x:ObjOk P w H h a o):a < h.objs.size:=by
 cases o with
 |lst xs=>obtain ⟨_,_,_,_,e⟩:=x;exact Heap.lt_size e
 |tup xs=>obtain ⟨_,_,_,p⟩:=x;exact p.lt
 |dK kvs=>obtain ⟨_,_,_,_,o,_,_,e,_⟩:=x;exact Heap.lt_size e
 |dT kvs=>obtain ⟨_,_,_,_,o,_,_,e,_⟩:=x;exact Heap.lt_size e
 |set S n=>obtain ⟨o,_,_,_,e,_⟩:=x;exact Heap.lt_size e
 |ins C dx fs=>obtain ⟨_,_,_,e,_⟩:=x;exact Heap.lt_size e
 |own y=>obtain ⟨_,e⟩:=x;exact Heap.lt_size e
 |xd fs=>obtain ⟨_,⟨_,_,_,e,_⟩,_⟩:=x;exact Heap.lt_size e
 |rng lo hi=>obtain ⟨_,_,_,e⟩:=x;exact Heap.lt_size e
 |frz ob u=>obtain ⟨e,_⟩:=x;exact Heap.lt_size e
 |tbl ps=>exact Heap.lt_size (show h.get? a=some _ from x)
 |met f y=>exact Heap.lt_size (show h.get? a=some _ from x)
 |ext φ=>obtain ⟨_,⟨_,e⟩,_⟩:=x;exact Heap.lt_size e
theorem Paired.mapP{α β:Type}{F G:α->β->Prop}:∀{l₁:List α}{l₂:List β},Paired F l₁ l₂->(∀a b,F a b->G a b)->Paired G l₁ l₂
 |_,_,.nil,_=>.nil
 |_,_,.cons r t,f=>.cons (f _ _ r) (Paired.mapP t f)
theorem ObjOk.stay(x:ObjOk P w H h a o)(k:∀b u,(b=a\/H b=some (.own a))->h.get? b=some u->h'.get? b=some u)
  (ho:∀b,H b=some (.own a)->H' b=some (.own a)) (ht:∀b xs,H b=some (.tup xs)->H' b=some (.tup xs)):ObjOk P w H' h' a o:=by
 induction o with
 |lst xs=>obtain ⟨z,its,n,r,e⟩:=x;exact ⟨z,its,n,r,k _ _ (.inl rfl) e⟩
 |tup xs=>obtain ⟨z,its,r,ob,e,c⟩:=x;exact ⟨z,its,r,ob,k _ _ (.inl rfl) e,c⟩
 |dK kvs=>obtain ⟨z,y,vs,r,ob,es,ep,e,c⟩:=x;exact ⟨z,y,vs,r,ob,es,ep,k _ _ (.inl rfl) e,c⟩
 |dT kvs=>
  obtain ⟨z,y,xs,r,ob,es,ep,e,c⟩:=x;exact ⟨z,y,xs,Paired.mapP r λp q z=>⟨z.1,ht _ _ z.2.1,z.2.2⟩,ob,es,ep,k _ _ (.inl rfl) e,c⟩
 |set S n=>obtain ⟨ob,es,ep,t,e,c⟩:=x;exact ⟨ob,es,ep,t,k _ _ (.inl rfl) e,c⟩
 |ins C dx fs=>
  obtain ⟨d,z,ne,e,mA,⟨od,es,ep,e2,c⟩,r⟩:=x;exact ⟨ho _ d,z,ne,k _ _ (.inl rfl) e,mA,⟨od,es,ep,k _ _ (.inr d) e2,c⟩,r⟩
 |own y=>obtain ⟨ob,e⟩:=x;exact ⟨ob,k _ _ (.inl rfl) e⟩
 |xd fs=>obtain ⟨mA,⟨od,es,ep,e,c⟩,r⟩:=x;exact ⟨mA,⟨od,es,ep,k _ _ (.inl rfl) e,c⟩,r⟩
 |rng lo hi=>obtain ⟨t,u,v,e⟩:=x;exact ⟨t,u,v,k _ _ (.inl rfl) e⟩
 |frz ob u ih=>obtain ⟨e,q⟩:=x;exact ⟨k _ _ (.inl rfl) e,ih q⟩
 |tbl ps=>
  have e:h.get? a=some { cls:=.none,data:=.fields ps }:=x;show h'.get? a=some { cls:=.none,data:=.fields ps };exact k a _ (.inl rfl) e
 |met f y=>
  have e:h.get? a=some (PySem.W.methodObj (.ref f) (.ref y)):=x;show h'.get? a=some (PySem.W.methodObj (.ref f) (.ref y));exact k a _ (.inl rfl) e
 |ext φ=>obtain ⟨p,⟨o,e⟩,st⟩:=x;exact ⟨st _ _ p λo q=>k _ _ (.inl rfl) q,⟨o,k _ _ (.inl rfl) e⟩,st⟩
theorem HOk.lt(x:HOk P w H h)(e:H a=some o):a < h.objs.size:=(x a o e).lt
theorem HOk.fresh(x:HOk P w H h)(e:h.objs.size<=a):H a=none:=by
 cases q:H a with
 |none=>rfl
 |some u=>exact absurd (Nat.lt_of_lt_of_le (x.lt q) e) (Nat.lt_irrefl _)
theorem HOk.kept(x:HOk P w H h)(k:∀b u,h.get? b=some u->h'.get? b=some u):HOk P w H h':=λa o e=>
 (x a o e).stay (λb u _ q=>k b u q) (λ_ q=>q) λ_ _ q=>q
theorem HOk.laid(x:HOk P w H h)(k:∀b u,h.get? b=some u->h'.get? b=some u)(hp:h.objs.size<=a)(new:ObjOk P w (upd H a o) h' a o):HOk P w (upd H a o) h':=λb u e=>by
 have hn:=x.fresh hp;by_cases hb:b=a
 ·subst hb;rw[dw]at e;cases e;exact new
 ·rw[aM hb]at e;exact (x b u e).stay (λc v _ q=>k c v q) (λc q=>by rw[aM (bH q hn)];exact q) λc xs q=>by rw[aM (bH q hn)];exact q
end
def Rd(H:Hp)(a:Addr)(u:HO):Prop:=H a=some u\/∃o,H a=some (.frz o u)
theorem Rd.ok{P:Program}{w:World}{H:Hp}{h:Heap}{a:Addr}{u:HO}(r:Rd H a u)(x:HOk P w H h):ObjOk P w H h a u:=by
 rcases r with r |⟨o,r⟩
 ·exact x a u r
 ·obtain ⟨_,q⟩:=x a _ r;exact q
def Mut:Option HO->Prop
 |some (.lst _)=>True
 |some (.dK _)=>True
 |some (.dT _)=>True
 |some (.set _ _)=>True
 |some (.ins _ _ _)=>True
 |some (.ext _)=>True
 |_=>False
section
variable {P:Program} {w:World} {H:Hp} {h h':Heap} {x e:Addr} {o':HO}
theorem HOk.write(ok:HOk P w H h)(mu:Mut (H x))(he:e=x\/H e=some (.own x))(k:∀b u,b≠e->h.get? b=some u->h'.get? b=some u)(heo:∃u,h'.get? e=some u)
  (new:ObjOk P w (upd H x o') h' x o'):HOk P w (upd H x o') h':=λb u q=>by
 have nown:∀c y,H c=some (.own y)->c≠x:=λc y r z=>by subst z;rw[r]at mu;exact mu
 have ntup:∀c xs,H c=some (.tup xs)->c≠x:=λc xs r z=>by subst z;rw[r]at mu;exact mu
 by_cases hb:b=x
 ·subst hb;rw[dw]at q;cases q;exact new
 ·rw[aM hb]at q;by_cases hbe:b=e
  ·have q':H b=some (.own x):=by
    rcases he with z |z
    ·exact absurd (hbe.trans z) hb
    ·rw[hbe];exact z
   rw[q]at q';cases q';obtain ⟨v,hv⟩:=heo;exact ⟨v,by rw[hbe];exact hv⟩
  ·refine (ok b u q).stay (λc v hc r=>k c v ?_ r) (λc r=>by rw[aM (nown c b r)];exact r) λc xs r=>by rw[aM (ntup c xs r)];exact r
   rcases hc with rfl |hc
   ·exact hbe
   ·rintro rfl;rcases he with z |z
    ·exact nown c b hc z
    ·rw[hc]at z;cases z;exact hb rfl
end
structure Un(fs ex:List Addr)(H H':Hp)(h h':Heap):Prop where
 keep:∀b o,h.get? b=some o->H b=none->b∉fs->b∉ex->h'.get? b=some o
 slot:∀b o,h.get? b=some o->H b=none->b∈fs->b∉ex->∃sl,h'.get? b=some { o with slots:=sl }
 free:∀b o,h.get? b=some o->H b=none->b∉ex->H' b=none
 there:∀b o,h.get? b=some o->b∉ex->∃o',h'.get? b=some o'
 tups:∀b xs,H b=some (.tup xs)->H' b=some (.tup xs)
 frzs:∀b o u,H b=some (.frz o u)->H' b=some (.frz o u)
 tbls:∀b ps,H b=some (.tbl ps)->∃more,H' b=some (.tbl (ps++more))
section
variable {fs fs' ex ex':List Addr} {H H1 H2:Hp} {h h1 h2 h':Heap} {a x e:Addr} {o:HO}
theorem Un.any(u:Un fs ex H H1 h h1){b:Addr}{ob:Obj}(q:h.get? b=some ob)(n:H b=none)(hx:b∉ex):∃sl,h1.get? b=some { ob with slots:=sl }:=by
 by_cases hb:b∈fs
 ·exact u.slot b ob q n hb hx
 ·exact ⟨ob.slots,u.keep b ob q n hb hx⟩
theorem Un.kept(k:∀b u,h.get? b=some u->h'.get? b=some u):Un fs ex H H h h':=
 ⟨λb ob q _ _ _=>k b ob q,λb ob q _ _ _=>⟨ob.slots,k b ob q⟩,λ_ _ _ n _=>n,λb ob q _=>⟨ob,k b ob q⟩,λ_ _ q=>q,λ_ _ _ q=>q,λ_ ps q=>⟨#[],by rw[q];simp⟩⟩
theorem Un.refl:Un fs ex H H h h:=Un.kept λ_ _ q=>q
theorem Un.laid(k:∀b u,h.get? b=some u->h'.get? b=some u)(hp:h.objs.size<=a)(hn:H a=none):Un fs ex H (upd H a o) h h' where
 keep:=λb u q _ _ _=>k b u q
 slot:=λb u q _ _ _=>⟨u.slots,k b u q⟩
 free:=λb u q n _=>by rw[aM (Nat.ne_of_lt (Nat.lt_of_lt_of_le (Heap.lt_size q) hp))];exact n
 there:=λb u q _=>⟨u,k b u q⟩
 tups:=λb xs q=>by rw[aM (bH q hn)];exact q
 frzs:=λb u xs q=>by rw[aM (bH q hn)];exact q
 tbls:=λb ps q=>⟨#[],by rw[aM (bH q hn),q];simp⟩
theorem Un.write(mu:Mut (H x))(he:e=x\/H e=some (.own x))(k:∀b u,b≠e->h.get? b=some u->h'.get? b=some u)(heo:∃u,h'.get? e=some u):Un fs ex H (upd H x o) h h':=by
 have hx:∀b,H b=none->b≠x:=λb n z=>by subst z;rw[n]at mu;exact mu
 have hb:∀b,H b=none->b≠e:=λb n z=>by
  subst z;rcases he with r |r
  ·exact hx b n r
  ·rw[n]at r;cases r
 have hm:∀b u,H b=some u->¬Mut (some u)->b≠x:=λb u q nm z=>by subst z;rw[q]at mu;exact nm mu
 refine ⟨λb u q n _ _=>k b u (hb b n) q,λb u q n _ _=>⟨u.slots,k b u (hb b n) q⟩,λb u q n _=>by rw[aM (hx b n)];exact n,λb u q _=>?_,
  λb xs q=>by rw[aM (hm b _ q λz=>z)];exact q,λb u xs q=>by rw[aM (hm b _ q λz=>z)];exact q,λb ps q=>⟨#[],by rw[aM (hm b _ q λz=>z),q];simp⟩⟩
 by_cases hbe:b=e
 ·subst hbe;exact heo
 ·exact ⟨u,k b u hbe q⟩
end
def trk(h:Heap)(H:Hp):List Addr:=(List.range h.objs.size).filter λa=>(H a).isSome
def eO(h:Heap)(H:Hp):Heap:=PySem.W.hideAll h (trk h H)
theorem Q6(h:Heap)(H:Hp):(eO h H).objs.size=h.objs.size:=PySem.W.hideAll_size _ _
theorem Q7{h:Heap}{H:Hp}{b:Addr}{o:Obj}(e:h.get? b=some o)(n:H b=none):(eO h H).get? b=some o:=
 PySem.W.hideAll_get _ e λhm=>by
  have q:(H b).isSome=true:=(List.mem_filter.mp hm).2;rw[n]at q;simp at q
theorem Q8{h:Heap}{H:Hp}{b:Addr}{o:Obj}(e:(eO h H).get? b=some o):h.get? b=some o/\H b=none:=by
 have e':h.get? b=some o:=PySem.W.of_hideAll (trk h H) e;refine ⟨e',?_⟩;cases q:H b with
 |none=>rfl
 |some x=>
  have hm:b∈trk h H:=List.mem_filter.mpr ⟨List.mem_range.mpr (Heap.lt_size e'),by simp[q]⟩;have z:(eO h H).get? b=none:=PySem.W.hideAll_none (trk h H) hm;rw[z]at e;cases e
def Q9(g h:Heap)(L:Addr):List (Addr×Obj):=(List.range h.objs.size).filterMap λa=>if a=L\/(g.get? a).isSome=true then none else (h.get? a).map λo=>(a,o)
def rest(g h:Heap)(L d:Addr):List (Addr×Obj):=(Q9 g h L).filter λp=>decide (p.1≠d)
structure Mod(K:PySem.W.Frag)(mg:Str->Option Value)(base:Heap):Prop where
 kin:K.In base
 glob:base.Ns mainGlobals mg
 blt:∃mb,base.Ns builtinsNs mb/\∀x:Str,x≠"__name__"->mb x=bootBuiltins x
 nolimit:base.NoLimit
structure Cx where
 prog:Program
 w:World
 K:PySem.W.Frag
 mg:Str->Option Value
 base:Heap
 A:Around
 N:List Str
 s₀:Shared
 H₀:Hp
 env:Env
 outer:List Env
 stack:List Env
 ex:List Addr
 fn:Str->Bool
 calm:Bool
 pn:List (Addr×Obj)
 xe:Value->Shared->Prop
def frs(l:List Env):List Addr:=l.filterMap (·.frame)
abbrev Cx.fs(X:Cx):List Addr:=frs X.outer
def Vis(sc:Scope)(x:Str):Prop:=sc.names.lookup x=some .local\/sc.names.lookup x=some .cell\/sc.names.lookup x=some .free
def Loc(sc:Scope)(x:Str):Prop:=sc.names.lookup x=some .local\/sc.names.lookup x=some .cell
def Look(env:Env)(h:Heap)(m:Str->Option Value)(x:Str)(u:Value):Prop:=
 (env.kindOf x=some .local/\m x=some u)\/((env.kindOf x=some .cell\/env.kindOf x=some .free)/\∃c,env.cells.lookup x=some c/\h.IsCell c (some u))
structure Cx.Ok(X:Cx):Prop where
 mod:Mod X.K X.mg X.base
 kind:X.env.scope.kind=.function
 glob:X.env.globals=mainGlobals
 blt:X.env.builtins=builtinsNs
 above:X.s₀.heap.objs.size<=X.env.locals
 inj:∀x y c,X.env.cells.lookup x=some c->X.env.cells.lookup y=some c->x=y
 has:∀x,(X.env.kindOf x=some .cell\/X.env.kindOf x=some .free)->∃c,X.env.cells.lookup x=some c
 cab:∀x c,X.fn x=true->X.env.cells.lookup x=some c->X.s₀.heap.objs.size<=c
 hd:X.calm=true->X.A.handled=none
 frames:X.A.frames=some X.stack
 stk:X.stack=X.outer\/(X.stack=X.env::X.outer/\X.env.frame=some X.env.locals)
 exf:∀b∈X.ex,b≠X.env.locals/\∀x c,X.env.cells.lookup x=some c->c≠b
 bs:∀b o,X.base.get? b=some o->X.s₀.heap.get? b=some o/\X.H₀ b=none
 bsz:X.base.objs.size<=X.s₀.heap.objs.size
 noex:∀b o,X.base.get? b=some o->b∉X.ex
 exfs:∀b∈X.ex,b∉X.fs
 funs:X.s₀.heap.FunFrames X.base X.outer
 frf:∀b∈X.fs,X.H₀ b=none
structure Inv(X:Cx)(pins:List (Addr×Obj))(σ:List (Option V))(H:Hp)(s:Shared):Prop where
 ok:X.Ok
 os:s.os=X.s₀.os
 bare:AllBare s.gens
 base:Un X.fs X.ex X.H₀ H X.s₀.heap s.heap
 loc:∃m,s.heap.Ns X.env.locals m/\∀(i:Nat)(x:Str)(v:V),X.N[i]?=some x->σ[i]?=some (some v)->Vis X.env.scope x->∃u,RelV v u/\Look X.env s.heap m x u
 cell:∀x c,X.env.cells.lookup x=some c->∃v,s.heap.IsCell c v
 free:H X.env.locals=none
 freeC:∀x c,X.env.cells.lookup x=some c->H c=none
 pin:∀p∈X.pn++pins,s.heap.get? p.1=some p.2/\H p.1=none/\p.1≠X.env.locals/\p.1∉X.fs/\∀v,p.2.data≠.cell v
 hok:HOk X.prog X.w H s.heap
 len:σ.length=X.N.length
section
variable {X:Cx} {pins:List (Addr×Obj)} {σ:List (Option V)} {H H':Hp} {s:Shared} {h':Heap}
theorem Cx.Ok.nofr(ok:X.Ok){b:Addr}{o:Obj}(e:X.base.get? b=some o):b∉X.fs:=λhb=>by
 have:=(ok.funs.mem hb).1;rw[e]at this;cases this
theorem Inv.bs(I:Inv X pins σ H s):∀b o,X.base.get? b=some o->s.heap.get? b=some o/\H b=none:=λb o e=>
 ⟨I.base.keep b o (I.ok.bs b o e).1 (I.ok.bs b o e).2 (I.ok.nofr e) (I.ok.noex b o e),I.base.free b o (I.ok.bs b o e).1 (I.ok.bs b o e).2 (I.ok.noex b o e)⟩
theorem Inv.bk(I:Inv X pins σ H s):∀b o,X.base.get? b=some o->s.heap.get? b=some o:=λb o e=>(I.bs b o e).1
theorem Inv.mod(I:Inv X pins σ H s):Mod X.K X.mg X.base:=I.ok.mod
theorem Inv.kIn(I:Inv X pins σ H s):X.K.In s.heap:=I.ok.mod.kin.keeps I.bk
theorem Inv.lt(I:Inv X pins σ H s):X.env.locals < s.heap.objs.size:=let ⟨_,hn,_⟩:=I.loc;hn.lt
theorem Inv.sz(I:Inv X pins σ H s):X.s₀.heap.objs.size<=s.heap.objs.size:=Nat.le_trans I.ok.above (Nat.le_of_lt I.lt)
theorem Inv.nofs(I:Inv X pins σ H s){a:Addr}(h:s.heap.objs.size<=a):a∉X.fs:=λhb=>by
 obtain ⟨_,o,ho,_⟩:=I.ok.funs.mem hb;exact absurd (Nat.lt_of_lt_of_le (Heap.lt_size ho) (Nat.le_trans I.sz h)) (Nat.lt_irrefl _)
theorem Inv.cne(I:Inv X pins σ H s):∀x c,X.env.cells.lookup x=some c->c≠X.env.locals:=λx c e z=>by
 obtain ⟨v,o,ho,hd⟩:=I.cell x c e;obtain ⟨m,⟨o',es,ep,ho',hd',_⟩,_⟩:=I.loc;rw[z,ho']at ho;cases ho;rw[hd']at hd;cases hd
theorem Inv.funs(I:Inv X pins σ H s):s.heap.FunFrames X.base X.outer:=by
 have all:∀(l:List Env),(∀b∈frs l,b∈X.fs)->X.s₀.heap.FunFrames X.base l->s.heap.FunFrames X.base l:=by
  intro l;induction l with
  |nil=>intro _ _;trivial
  |cons env r ih=>
   intro hs hl;obtain ⟨hk,⟨L,o,hf,hn,ho,hd⟩,hr⟩:=hl;have hL:L∈X.fs:=hs L (by unfold frs;rw[List.filterMap_cons,hf];exact List.mem_cons_self);obtain ⟨sl,e⟩:=I.base.slot L o ho (I.ok.frf L hL) hL λz=>I.ok.exfs L z hL;exact ⟨hk,⟨L,_,hf,hn,e,hd⟩,ih (λb hb=>hs b (by unfold frs;rw[List.filterMap_cons,hf];exact List.mem_cons_of_mem _ hb)) hr⟩
 exact all X.outer (λ_ hb=>hb) I.ok.funs
theorem Inv.stack(I:Inv X pins σ H s):s.heap.FunFrames X.base X.stack:=by
 rcases I.ok.stk with e |⟨e,hf⟩
 ·rw[e];exact I.funs
 ·rw[e];obtain ⟨m,hn,_⟩:=I.loc;refine .cons (by rw[I.ok.kind];decide) hf hn ?_ I.funs;exact Heap.get?_none_of_le (Nat.le_trans I.ok.bsz I.ok.above)
theorem Inv.stkSub(I:Inv X pins σ H s):∀b∈frs X.stack,b∈X.env.locals::X.fs:=λb hb=>by
 rcases I.ok.stk with e |⟨e,hf⟩
 ·rw[e]at hb;exact List.mem_cons_of_mem _ hb
 ·rw[e]at hb;unfold frs at hb;rw[List.filterMap_cons,hf]at hb;exact hb
theorem Inv.stkFree(I:Inv X pins σ H s):∀b∈frs X.stack,H b=none:=λb hb=>by
 rcases List.mem_cons.mp (I.stkSub b hb) with e |hb
 ·rw[e];exact I.free
 ·obtain ⟨_,o,ho,_⟩:=I.ok.funs.mem hb;exact I.base.free b o ho (I.ok.frf b hb) λz=>I.ok.exfs b z hb
theorem Inv.step{g':Array GenState}{t':Nat}{d':Drawn}{ch:List Addr}(I:Inv X pins σ H s)
  (hch:∀b∈ch,(b∈X.ex\/X.s₀.heap.objs.size<=b)/\b≠X.env.locals/\(∀x c,X.env.cells.lookup x=some c->c≠b)/\∀p∈X.pn++pins,p.1≠b)
  (keep:∀b o,b≠X.env.locals->b∉X.fs->b∉ch->s.heap.get? b=some o->H b=none->h'.get? b=some o)
  (slot:∀b o,b≠X.env.locals->b∈X.fs->b∉ch->s.heap.get? b=some o->H b=none->∃sl,h'.get? b=some { o with slots:=sl }) (free:∀b o,b∉ch->s.heap.get? b=some o->H b=none->H' b=none)
  (there:∀b o,b∉ch->s.heap.get? b=some o->∃o',h'.get? b=some o')
  (tups:∀b xs,H b=some (.tup xs)->H' b=some (.tup xs)) (frzs:∀b o u,H b=some (.frz o u)->H' b=some (.frz o u)) (tbls:∀b ps,H b=some (.tbl ps)->∃more,H' b=some (.tbl (ps++more)))
  (ns:∀m,s.heap.Ns X.env.locals m->h'.Ns X.env.locals m) (hok:HOk X.prog X.w H' h') (hg:AllBare g'):
  Inv X pins σ H' { s with heap:=h',gens:=g',drawn:=d',toks:=t' }:=by
 have neL:∀b o,X.s₀.heap.get? b=some o->b≠X.env.locals:=λb o e=>Nat.ne_of_lt (Nat.lt_of_lt_of_le (Heap.lt_size e) I.ok.above);have neC:∀b o,X.s₀.heap.get? b=some o->b∉X.ex->b∉ch:=λb o e hx hb=>by
  rcases (hch b hb).1 with z |z
  ·exact hx z
  ·exact absurd (Nat.lt_of_lt_of_le (Heap.lt_size e) z) (Nat.lt_irrefl _)
 have cellK:∀x c,X.env.cells.lookup x=some c->∀v,s.heap.IsCell c v->h'.IsCell c v:=λx c e v ⟨o,ho,hd⟩=>by
  have nch:c∉ch:=λz=>(hch c z).2.2.1 x c e rfl;by_cases hc:c∈X.fs
  ·obtain ⟨sl,q⟩:=slot c o (I.cne x c e) hc nch ho (I.freeC x c e);exact ⟨_,q,hd⟩
  ·exact ⟨o,keep c o (I.cne x c e) hc nch ho (I.freeC x c e),hd⟩
 refine ⟨I.ok,I.os,hg,⟨λb o e n hb hx=>?_,λb o e n hb hx=>?_,λb o e n hx=>?_,λb o e hx=>?_,λb xs e=>tups b xs (I.base.tups b xs e),λb o xs e=>frzs b o xs (I.base.frzs b o xs e),λb ps e=>?_⟩,?_,λx c e=>?_,?_,λx c e=>?_,λp hp=>?_,hok,I.len⟩
 ·exact keep b o (neL b o e) hb (neC b o e hx) (I.base.keep b o e n hb hx) (I.base.free b o e n hx)
 ·obtain ⟨sl,e1⟩:=I.base.slot b o e n hb hx;obtain ⟨sl',e2⟩:=slot b _ (neL b o e) hb (neC b o e hx) e1 (I.base.free b o e n hx);exact ⟨sl',e2⟩
 ·obtain ⟨o',e1⟩:=I.base.there b o e hx;exact free b o' (neC b o e hx) e1 (I.base.free b o e n hx)
 ·obtain ⟨o',e1⟩:=I.base.there b o e hx;exact there b o' (neC b o e hx) e1
 ·obtain ⟨m1,e1⟩:=I.base.tbls b ps e;obtain ⟨m2,e2⟩:=tbls b _ e1;exact ⟨m1++m2,by rw[e2,Array.append_assoc]⟩
 ·obtain ⟨m,hn,hl⟩:=I.loc;refine ⟨m,ns m hn,λi x v e1 e2 e3=>?_⟩;obtain ⟨u,r,l⟩:=hl i x v e1 e2 e3;refine ⟨u,r,?_⟩;rcases l with l |⟨k,c,e,z⟩
  ·exact .inl l
  ·exact .inr ⟨k,c,e,cellK x c e _ z⟩
 ·obtain ⟨v,z⟩:=I.cell x c e;exact ⟨v,cellK x c e v z⟩
 ·obtain ⟨m,⟨o,_,_,ho,_⟩,_⟩:=I.loc;exact free _ o (λz=>(hch _ z).2.1 rfl) ho I.free
 ·obtain ⟨v,o,ho,hd⟩:=I.cell x c e;exact free c o (λz=>(hch c z).2.2.1 x c e rfl) ho (I.freeC x c e)
 ·obtain ⟨e,n,ne,nf,d⟩:=I.pin p hp;have nch:p.1∉ch:=λz=>(hch p.1 z).2.2.2 p hp rfl;exact ⟨keep p.1 p.2 ne nf nch e n,free p.1 p.2 nch e n,ne,nf,d⟩
theorem Inv.un{t':Nat}(I:Inv X pins σ H s)(u:Un X.fs [] H H' s.heap h')(hok:HOk X.prog X.w H' h'):Inv X pins σ H' { s with heap:=h',toks:=t' }:=by
 obtain ⟨m,⟨o,es,ep,ho,r⟩,_⟩:=id I.loc;obtain ⟨sl,hL⟩:=u.any ho I.free (by simp);exact I.step (g':=s.gens) (d':=s.drawn) (ch:=[]) (λ_ z=>nomatch z) (λb o _ hb _ e n=>u.keep b o e n hb (by simp)) (λb o _ hb _ e n=>u.slot b o e n hb (by simp)) (λb o _ e n=>u.free b o e n (by simp)) (λb o _ e=>u.there b o e (by simp)) u.tups u.frzs u.tbls (λm' hm=>by
  obtain ⟨o',es',ep',ho',r'⟩:=hm;rw[ho]at ho';cases ho';exact ⟨_,es',ep',hL,r'⟩) hok I.bare
theorem Inv.call{g':Array GenState}{t':Nat}{d':Drawn}{ch:List Addr}(I:Inv X pins σ H s)(u:Un (frs X.stack) ch H H' s.heap h')(hok:HOk X.prog X.w H' h')(hg:AllBare g')
  (hch:∀b∈ch,(b∈X.ex\/X.s₀.heap.objs.size<=b)/\b≠X.env.locals/\(∀x c,X.env.cells.lookup x=some c->c≠b)/\∀p∈X.pn++pins,p.1≠b):
  Inv X pins σ H' { s with heap:=h',gens:=g',drawn:=d',toks:=t' }:=by
 obtain ⟨m,⟨o,es,ep,ho,r⟩,_⟩:=id I.loc;obtain ⟨sl,hL⟩:=u.any ho I.free λz=>(hch _ z).2.1 rfl;exact I.step (ch:=ch) hch (λb o hL hb hc e n=>u.keep b o e n (λz=>(List.mem_cons.mp (I.stkSub b z)).elim hL hb) hc) (λb o _ _ hc e n=>u.any e n hc) (λb o hc e n=>u.free b o e n hc) (λb o hc e=>u.there b o e hc) u.tups u.frzs u.tbls (λm' hm=>by
  obtain ⟨o',es',ep',ho',r'⟩:=hm;rw[ho]at ho';cases ho';exact ⟨_,es',ep',hL,r'⟩) hok hg
theorem Inv.turned{t':Nat}{it:Addr}(I:Inv X pins σ H s)(k:∀b o,b≠it->s.heap.get? b=some o->h'.get? b=some o)(hn:H it=none)(hL:it≠X.env.locals)
  (h1:it∈X.ex\/X.s₀.heap.objs.size<=it) (h2:∀x c,X.env.cells.lookup x=some c->c≠it) (h3:∀p∈X.pn++pins,p.1≠it):Inv X pins σ H { s with heap:=h',toks:=t' }:=by
 have nit:∀b u,H b=some u->b≠it:=λb u e z=>by rw[z,hn]at e;cases e
 refine I.step (g':=s.gens) (d':=s.drawn) (ch:=[it]) (λb hb=>?_) (λb o _ _ hc e _=>k b o (λz=>hc (by simp[z])) e) (λb o _ _ hc e _=>⟨o.slots,k b o (λz=>hc (by simp[z])) e⟩) (λ_ _ _ _ n=>n)
  (λb o hc e=>⟨o,k b o (λz=>hc (by simp[z])) e⟩) (λ_ _ e=>e) (λ_ _ _ e=>e) (λb ps e=>⟨#[],by rw[e];simp⟩) (λm hm=>?_) (λb u e=>?_) I.bare
 ·have e:b=it:=by simpa using hb
  subst e;exact ⟨h1,hL,h2,h3⟩
 ·obtain ⟨o,es,ep,ho,r⟩:=hm;exact ⟨o,es,ep,k _ o (Ne.symm hL) ho,r⟩
 ·refine (I.hok b u e).stay (λc v hc q=>k c v ?_ q) (λ_ q=>q) λ_ _ q=>q;rcases hc with z |z
  ·rw[z];exact nit b u e
  ·exact nit c _ z
theorem Inv.tok(I:Inv X pins σ H s)(t:Nat):Inv X pins σ H { s with toks:=t }:=I.un (h':=s.heap) (t':=t) Un.refl I.hok
theorem Inv.kept{t':Nat}(I:Inv X pins σ H s)(k:∀b u,s.heap.get? b=some u->h'.get? b=some u):Inv X pins σ H { s with heap:=h',toks:=t' }:=I.un (Un.kept k) (I.hok.kept k)
theorem Inv.laid{a:Addr}{o:HO}{t':Nat}(I:Inv X pins σ H s)(k:∀b u,s.heap.get? b=some u->h'.get? b=some u)(hp:s.heap.objs.size<=a)(new:ObjOk X.prog X.w (upd H a o) h' a o):
  Inv X pins σ (upd H a o) { s with heap:=h',toks:=t' }:=I.un (Un.laid k hp (I.hok.fresh hp)) (I.hok.laid k hp new)
theorem Inv.write{x e:Addr}{o:HO}{t':Nat}(I:Inv X pins σ H s)(mu:Mut (H x))(he:e=x\/H e=some (.own x))(k:∀b u,b≠e->s.heap.get? b=some u->h'.get? b=some u)(heo:∃u,h'.get? e=some u)
  (new:ObjOk X.prog X.w (upd H x o) h' x o):Inv X pins σ (upd H x o) { s with heap:=h',toks:=t' }:=I.un (Un.write mu he k heo) (I.hok.write mu he k heo new)
theorem Inv.pins_of{pins':List (Addr×Obj)}(I:Inv X pins σ H s)(h:∀p∈pins',s.heap.get? p.1=some p.2/\H p.1=none/\p.1≠X.env.locals/\p.1∉X.fs/\∀v,p.2.data≠.cell v):Inv X pins' σ H s:=
 ⟨I.ok,I.os,I.bare,I.base,I.loc,I.cell,I.free,I.freeC,λp hp=>(List.mem_append.mp hp).elim (λz=>I.pin p (List.mem_append_left _ z)) (h p),I.hok,I.len⟩
theorem yI{N:List Str}(hN:N.Nodup){i j:Nat}{x:Str}(a:N[i]?=some x)(b:N[j]?=some x):i=j:=by obtain ⟨h1,e1⟩:=List.getElem?_eq_some_iff.mp a;obtain ⟨h2,e2⟩:=List.getElem?_eq_some_iff.mp b;exact (List.getElem_inj hN).mp (e1.trans e2.symm)
theorem Ra{M:Model}{A:Around}{E:Value->Shared->Prop}{i:Nat}{x:Str}{v:V}{u:Value}{Q:Unit->Shared->Prop}(I:Inv X pins σ H s)(hN:X.N.Nodup)(hi:X.N[i]?=some x)(hx:Loc X.env.scope x)(r:RelV v u)
  (h:∀s',Inv X pins (σ.set i (some v)) H s'->(∃a,Heap.SameBut a s.heap s'.heap/\(a=X.env.locals\/X.env.cells.lookup x=some a))->Q () s') (hf:X.fn x=true\/X.env.scope.names.lookup x=some .local:=by first |exact .inl rfl |exact .inr rfl |assumption):wpAny M A (storeName X.env x u) Q E s:=by
 obtain ⟨m,hn,hl⟩:=id I.loc;have hcls:(X.env.scope.kind==.class||(X.env.scope.kind==.module&&X.env.locals != X.env.globals))=false:=by rw[I.ok.kind];rfl
 have hiσ:i < σ.length:=by rw[I.len];exact (List.getElem?_eq_some_iff.mp hi).1
 have cne:=I.cne;have tracked:∀{a:Addr}{h':Heap},(∃o,s.heap.get? a=some o/\H a=none)->Heap.SameBut a s.heap h'->HOk X.prog X.w H h':=λ{a h'} ha hs b ob e=>by
  obtain ⟨_,_,hfree⟩:=ha;refine (I.hok b ob e).stay (λc w' hc q=>(hs.2 c ?_).trans q) (λ_ q=>q) λ_ _ q=>q;rintro rfl;rcases hc with rfl |hc
  ·rw[hfree]at e;cases e
  ·rw[hfree]at hc;cases hc
 rcases hx with hk |hk
 ·refine wpAny_storeName_local hk hn (λh' hn' hs=>?_) hcls;obtain ⟨oL,_,_,hoL,_⟩:=id hn;refine h _ ⟨I.ok,I.os,I.bare,⟨λb o e n hb hx=>?_,λb o e n hb hx=>?_,I.base.free,λb o e hx=>?_,I.base.tups,I.base.frzs,I.base.tbls⟩,⟨_,hn',λj y v' e1 e2 e3=>?_⟩,λy c e=>?_,I.free,I.freeC,λp hp=>?_,tracked ⟨oL,hoL,I.free⟩ hs,by simpa using I.len⟩ ⟨_,hs,.inl rfl⟩
  ·exact (hs.2 b (Nat.ne_of_lt (Nat.lt_of_lt_of_le (Heap.lt_size e) I.ok.above))).trans (I.base.keep b o e n hb hx)
  ·obtain ⟨sl,e1⟩:=I.base.slot b o e n hb hx;exact ⟨sl,(hs.2 b (Nat.ne_of_lt (Nat.lt_of_lt_of_le (Heap.lt_size e) I.ok.above))).trans e1⟩
  ·obtain ⟨o',e1⟩:=I.base.there b o e hx;exact ⟨o',(hs.2 b (Nat.ne_of_lt (Nat.lt_of_lt_of_le (Heap.lt_size e) I.ok.above))).trans e1⟩
  ·by_cases hj:j=i
   ·subst hj;rw[hi]at e1;cases e1;rw[List.getElem?_set_self hiσ]at e2;cases e2;exact ⟨u,r,.inl ⟨hk,by simp⟩⟩
   ·rw[List.getElem?_set_ne (Ne.symm hj)]at e2;obtain ⟨u',r',q⟩:=hl j y v' e1 e2 e3;refine ⟨u',r',?_⟩;rcases q with ⟨k,e⟩ |⟨k,c,e,z⟩
    ·refine .inl ⟨k,?_⟩;have:y≠x:=λe=>hj (yI hN e1 (e ▸ hi));simp[this,e]
    ·exact .inr ⟨k,c,e,z.sameBut hs (cne y c e)⟩
  ·obtain ⟨w',z⟩:=I.cell y c e;exact ⟨w',z.sameBut hs (cne y c e)⟩
  ·obtain ⟨e,n,ne,nf,d⟩:=I.pin p hp;exact ⟨(hs.2 p.1 ne).trans e,n,ne,nf,d⟩
 ·have hfn:X.fn x=true:=by
   rcases hf with z |z
   ·exact z
   ·rw[z]at hk;cases hk
  obtain ⟨c,hc⟩:=I.ok.has x (.inl hk);obtain ⟨w',z⟩:=I.cell x c hc;refine wpAny_storeName_cell I.ok.kind hk hc z (λh' hc' hs=>?_);obtain ⟨oc,hoc,hocd⟩:=id z;refine h { s with heap:=h' } ⟨I.ok,I.os,I.bare,⟨λb o e n hb hx=>?_,λb o e n hb hx=>?_,I.base.free,λb o e hx=>?_,I.base.tups,I.base.frzs,I.base.tbls⟩,⟨m,hn.sameBut hs (Ne.symm (cne x c hc)),λj y v' e1 e2 e3=>?_⟩,λy c' e=>?_,I.free,I.freeC,λp hp=>?_,tracked ⟨oc,hoc,I.freeC x c hc⟩ hs,by simpa using I.len⟩ ⟨c,hs,.inr hc⟩
  ·exact (hs.2 b (Nat.ne_of_lt (Nat.lt_of_lt_of_le (Heap.lt_size e) (I.ok.cab x c hfn hc)))).trans (I.base.keep b o e n hb hx)
  ·obtain ⟨sl,e1⟩:=I.base.slot b o e n hb hx;exact ⟨sl,(hs.2 b (Nat.ne_of_lt (Nat.lt_of_lt_of_le (Heap.lt_size e) (I.ok.cab x c hfn hc)))).trans e1⟩
  ·obtain ⟨o',e1⟩:=I.base.there b o e hx;exact ⟨o',(hs.2 b (Nat.ne_of_lt (Nat.lt_of_lt_of_le (Heap.lt_size e) (I.ok.cab x c hfn hc)))).trans e1⟩
  ·by_cases hj:j=i
   ·subst hj;rw[hi]at e1;cases e1;rw[List.getElem?_set_self hiσ]at e2;cases e2;exact ⟨u,r,.inr ⟨.inl hk,c,hc,hc'⟩⟩
   ·rw[List.getElem?_set_ne (Ne.symm hj)]at e2;obtain ⟨u',r',q⟩:=hl j y v' e1 e2 e3;refine ⟨u',r',?_⟩;rcases q with q |⟨k,c',e,z'⟩
    ·exact .inl q
    ·refine .inr ⟨k,c',e,z'.sameBut hs ?_⟩;rintro rfl;exact hj (yI hN e1 (I.ok.inj _ _ _ e hc ▸ hi))
  ·by_cases hcc:c'=c
   ·subst hcc;exact ⟨_,hc'⟩
   ·obtain ⟨w2,z2⟩:=I.cell y c' e;exact ⟨w2,z2.sameBut hs hcc⟩
  ·obtain ⟨e,n,ne,nf,d⟩:=I.pin p hp;refine ⟨(hs.2 p.1 ?_).trans e,n,ne,nf,d⟩;intro q;rw[q,hoc]at e;have q':oc=p.2:=Option.some.inj e;exact d w' (by rw[<-q'];exact hocd)
theorem oh{M:Model}{A:Around}{E:Value->Shared->Prop}{i:Nat}{x:Str}{v:V}{u:Value}{Q:Unit->Shared->Prop}(I:Inv X pins σ H s)(hN:X.N.Nodup)(hi:X.N[i]?=some x)(hx:Loc X.env.scope x)(r:RelV v u)
  (h:∀s',Inv X pins (σ.set i (some v)) H s'->Q () s') (hf:X.fn x=true\/X.env.scope.names.lookup x=some .local:=by first |exact .inl rfl |exact .inr rfl |assumption):wpAny M A (storeName X.env x u) Q E s:=
 Ra I hN hi hx r (λs' I' _=>h s' I') hf
theorem Inv.call'{s':Shared}{ch:List Addr}(I:Inv X pins σ H s)(ho:s'.os=s.os)(u:Un (frs X.stack) ch H H' s.heap s'.heap)(hok:HOk X.prog X.w H' s'.heap)(hg:AllBare s'.gens)
  (hch:∀b∈ch,(b∈X.ex\/X.s₀.heap.objs.size<=b)/\b≠X.env.locals/\(∀x c,X.env.cells.lookup x=some c->c≠b)/\∀p∈X.pn++pins,p.1≠b):Inv X pins σ H' s':=by
 obtain ⟨h',g',d',t',o'⟩:=s';have e:o'=s.os:=ho;subst e;exact I.call (g':=g') (t':=t') (d':=d') u hok hg hch
end
abbrev XK:=Value->Option Addr->Hp->Prop
abbrev St:=List (Option V)
abbrev VK:=V->Hp->Prop
abbrev TE:=St->Hp->VK->Prop
abbrev TT:=St->Hp->(Bool->Hp->Prop)->Prop
abbrev TA:=St->Hp->(List V->Hp->Prop)->Prop
structure Ends where
 nx:St->Hp->Prop
 rt:VK
 bk:St->Hp->Prop:=λ_ _=>False
 ct:St->Hp->Prop:=λ_ _=>False
abbrev TS:=Ends->St->Hp->Prop
def EP(X:Cx)(pins:List (Addr×Obj))(σ:St)(Q:VK)(u:Value)(s':Shared):Prop:=∃v H',Inv X pins σ H' s'/\RelV v u/\Q v H'
def TP(X:Cx)(pins:List (Addr×Obj))(σ:St)(Q:Bool->Hp->Prop)(b:Bool)(s':Shared):Prop:=∃H',Inv X pins σ H' s'/\Q b H'
def AP(X:Cx)(pins:List (Addr×Obj))(σ:St)(Q:List V->Hp->Prop)(us:List Value)(s':Shared):Prop:=∃vs H',Inv X pins σ H' s'/\Vals vs us/\Q vs H'
def SP(X:Cx)(pins:List (Addr×Obj))(D:Ends)(f:Flow)(s':Shared):Prop:=
 match f with
 |.next=>∃σ' H',Inv X pins σ' H' s'/\D.nx σ' H'
 |.brk=>∃σ' H',Inv X pins σ' H' s'/\D.bk σ' H'
 |.cont=>∃σ' H',Inv X pins σ' H' s'/\D.ct σ' H'
 |.ret u=>∃v σ' H',Inv X pins σ' H' s'/\RelV v u/\D.rt v H'
def PE(X:Cx)(e:Expr)(t:TE):Prop:=
 ∀(pins:List (Addr×Obj))(s:Shared)(σ:St)(H:Hp)(Q:VK),Inv X pins σ H s->t σ H Q->wpAny (model X.prog X.w) X.A (eval e X.env) (EP X pins σ Q) X.xe s
def PT(X:Cx)(e:Expr)(t:TT):Prop:=
 ∀(pins:List (Addr×Obj))(s:Shared)(σ:St)(H:Hp)(Q:Bool->Hp->Prop),Inv X pins σ H s->t σ H Q->wpAny (model X.prog X.w) X.A (isTrue e X.env (eval e X.env)) (TP X pins σ Q) X.xe s
def PW(X:Cx)(e:Expr)(t:TT):Prop:=
 ∀(whole:Sem Value)(pins:List (Addr×Obj))(s:Shared)(σ:St)(H:Hp)(Q:Bool->Hp->Prop),Inv X pins σ H s->t σ H Q->wpAny (model X.prog X.w) X.A (isTrue e X.env whole) (TP X pins σ Q) X.xe s
theorem PW.pt{X:Cx}{e:Expr}{t:TT}(h:PW X e t):PT X e t:=h _
def PA(X:Cx)(es:List Expr)(t:TA):Prop:=
 ∀(pos:Pos)(pins:List (Addr×Obj))(s:Shared)(σ:St)(H:Hp)(Q:List V->Hp->Prop),Inv X pins σ H s->t σ H Q->wpAny (model X.prog X.w) X.A (spliced (backTo pos (starEach es X.env))) (AP X pins σ Q) X.xe s
def PS(X:Cx)(st:Stmt)(t:TS):Prop:=
 ∀(pins:List (Addr×Obj))(s:Shared)(σ:St)(H:Hp)(D:Ends),Inv X pins σ H s->t D σ H->wpAny (model X.prog X.w) X.A (exec st X.env) (SP X pins D) X.xe s
def PSs(X:Cx)(st:List Stmt)(t:TS):Prop:=
 ∀(pins:List (Addr×Obj))(s:Shared)(σ:St)(H:Hp)(D:Ends),Inv X pins σ H s->t D σ H->wpAny (model X.prog X.w) X.A (execs st X.env) (SP X pins D) X.xe s
theorem thn{α:Type}{t:Sem α}{Q Q':α->Shared->Prop}{M:Model}{A:Around}{E:Value->Shared->Prop}{s:Shared}(h:wpAny M A t Q E s)(hQ:∀a s,Q a s->Q' a s):wpAny M A t Q' E s:=wpAny_mono h hQ λ_ _ x=>x
section
variable {X:Cx}
theorem bin{a b:Expr}{ta tb:TE}(ha:PE X a ta)(hb:PE X b tb){pins:List (Addr×Obj)}{s:Shared}{σ:St}{H:Hp}{R:V->V->Hp->Prop}(I:Inv X pins σ H s)(h:ta σ H λx H1=>tb σ H1 λy H2=>R x y H2)
  {α:Type} {Q:α->Shared->Prop} {f:Value->Value->Sem α}
  (hf:∀v u s2 x y H2,Inv X pins σ H2 s2->RelV x v->RelV y u->R x y H2->wpAny (model X.prog X.w) X.A (f v u) Q X.xe s2):
  wpAny (model X.prog X.w) X.A (eval a X.env) (λv s₁=>wpAny (model X.prog X.w) X.A (eval b X.env) (λu s₂=>wpAny (model X.prog X.w) X.A (f v u) Q X.xe s₂) X.xe s₁) X.xe s:=by
 refine thn (ha pins s σ H _ I h) λv s1 ⟨x,H1,I1,r1,q1⟩=>?_;refine thn (hb pins s1 σ H1 _ I1 q1) λu s2 ⟨y,H2,I2,r2,q2⟩=>?_;exact hf v u s2 x y H2 I2 r1 r2 q2
def yJ(i:Nat):TE:=λσ H Q=>∃v,σ[i]?=some (some v)/\Q v H
def tC(v:V):TE:=λ_ H Q=>Q v H
theorem yK {i:Nat} {x:Str} {pos:Pos} (hN:X.N[i]?=some x) (hv:Vis X.env.scope x) (hd:(x==("__debug__":Str))=false:=by decide) (hcd:(x==("__classdict__":Str))=false:=by decide):PE X (.Name x pos) (yJ i):=by
 intro pins s σ H Q I h;obtain ⟨v,e,h⟩:=h;obtain ⟨m,hn,hl⟩:=I.loc;obtain ⟨u,r,l⟩:=hl i x v hN e hv;have fin:EP X pins σ Q u s:=⟨v,H,I,r,h⟩;rcases l with ⟨hk,hm⟩ |⟨hk,c,hc,hcell⟩
 ·exact wpAny_Name (wpAny_loadName_local I.ok.kind hk hn hm fin) hd
 ·rcases hk with hk |hk
  ·exact wpAny_Name (wpAny_loadName_cell I.ok.kind hk hc hcell fin) hd
  ·exact wpAny_Name (wpAny_loadName_free I.ok.kind hk hc hcell fin hcd) hd
theorem Rb{i j pos}:PE X (.Constant (.int i) j pos) (tC (.int i)):=λ_ _ _ H _ I h=>wpAny_Constant_int ⟨.int i,H,I.tok _,⟨_,rfl⟩,h⟩
theorem Rc{b j pos}:PE X (.Constant (.bool b) j pos) (tC (.bl b)):=λ_ _ _ H _ I h=>Constant_bool ⟨.bl b,H,I,rfl,h⟩
theorem Rf{j pos}:PE X (.Constant .none j pos) (tC .non):=λ_ _ _ H _ I h=>Constant_none ⟨.non,H,I,rfl,h⟩
theorem yL{x j pos}:PE X (.Constant (.str x) j pos) (tC (.str x)):=λ_ _ _ H _ I h=>Calls.Constant_str ⟨.str x,H,I.tok _,⟨_,rfl⟩,h⟩
def Gl(X:Cx)(x:Str):Prop:=X.env.kindOf x=some .globalImplicit
theorem uf{E:Value->Shared->Prop}{pins:List (Addr×Obj)}{s:Shared}{σ:St}{H:Hp}{x:Str}{u:Value}{pos:Pos}{Q:Value->Shared->Prop}(I:Inv X pins σ H s)(hg:Gl X x)(hm:X.mg x=some u)(h:Q u s)
  (hd:(x==("__debug__":Str))=false:=by decide):wpAny (model X.prog X.w) X.A (eval (.Name x pos) X.env) Q E s:=
 Calls.Name_function_global I.ok.kind hg (Calls.loadGlobal_global (by rw[I.ok.glob];exact I.mod.glob.keeps I.bk) hm h) hd
theorem gj{E:Value->Shared->Prop}{pins:List (Addr×Obj)}{s:Shared}{σ:St}{H:Hp}{x:Str}{u:Value}{pos:Pos}{Q:Value->Shared->Prop}(I:Inv X pins σ H s)(hg:Gl X x)(hm:X.mg x=none)(hv:bootBuiltins x=some u)(h:Q u s)
  (hn:x≠"__name__":=by decide) (hd:(x==("__debug__":Str))=false:=by decide):wpAny (model X.prog X.w) X.A (eval (.Name x pos) X.env) Q E s:=by
 obtain ⟨mb,h1,h2⟩:=I.mod.blt;exact Calls.Name_function_global I.ok.kind hg (Calls.loadGlobal_builtin (by rw[I.ok.glob];exact I.mod.glob.keeps I.bk) hm (by rw[I.ok.blt];exact h1.keeps I.bk) ((h2 x hn).trans hv) h) hd
theorem Rg {x:Str} {v:V} {u:Value} {pos:Pos} (hg:Gl X x) (hm:X.mg x=some u) (r:RelV v u) (hd:(x==("__debug__":Str))=false:=by decide):PE X (.Name x pos) (tC v):=
 λ_ _ _ H _ I h=>uf I hg hm ⟨v,H,I,r,h⟩ hd
theorem Rh {x:Str} {v:V} {u:Value} {pos:Pos} (hg:Gl X x) (hm:X.mg x=none) (hv:bootBuiltins x=some u) (r:RelV v u) (hn:x≠"__name__":=by decide) (hd:(x==("__debug__":Str))=false:=by decide):PE X (.Name x pos) (tC v):=
 λ_ _ _ H _ I h=>gj I hg hm hv ⟨v,H,I,r,h⟩ hn hd
variable {a b:Expr} {ta tb:TE} {pos:Pos}
variable {tA tB':TT} {rest:List Expr}
def Ri(t u:TT):TT:=λσ H Q=>t σ H λc H1=>if c=true then u σ H1 Q else Q false H1
def tOr(t u:TT):TT:=λσ H Q=>t σ H λc H1=>if c=true then Q true H1 else u σ H1 Q
def Rj(t:TT):TT:=λσ H Q=>t σ H λc H1=>Q (!c) H1
theorem Rk(ha:PT X a tA):PW X (.BoolOp .And [a] pos) tA:=by
 intro wh pins s σ H Q I h;refine isTrue_and (thn (ha pins s σ H Q I h) λc s1 e=>?_);cases c with
 |true=>exact isTrue_and_nil e
 |false=>exact e
theorem Rm(ha:PT X a tA):PW X (.BoolOp .Or [a] pos) tA:=by
 intro wh pins s σ H Q I h;refine isTrue_or (thn (ha pins s σ H Q I h) λc s1 e=>?_);cases c with
 |false=>exact isTrue_or_nil e
 |true=>exact e
theorem Rn(ha:PT X a tA)(hb:PW X (.BoolOp .And (b::rest) pos) tB'):PW X (.BoolOp .And (a::b::rest) pos) (Ri tA tB'):=by
 intro wh pins s σ H Q I h;refine isTrue_and (thn (ha pins s σ H _ I h) λc s1 ⟨H1,I1,q1⟩=>?_);cases c with
 |true=>exact hb wh pins s1 σ H1 Q I1 q1
 |false=>exact ⟨H1,I1,q1⟩
theorem Ro(ha:PT X a tA)(hb:PW X (.BoolOp .Or (b::rest) pos) tB'):PW X (.BoolOp .Or (a::b::rest) pos) (tOr tA tB'):=by
 intro wh pins s σ H Q I h;refine isTrue_or (thn (ha pins s σ H _ I h) λc s1 ⟨H1,I1,q1⟩=>?_);cases c with
 |true=>exact ⟨H1,I1,q1⟩
 |false=>exact hb wh pins s1 σ H1 Q I1 q1
theorem Rp(ha:PT X a tA):PT X (.UnaryOp .Not a pos) (Rj tA):=by intro pins s σ H Q I h;exact isTrue_not (ha pins s σ H (λc H1=>Q (!c) H1) I h)
def Rq(ta tb:TE):TE:=λσ H Q=>ta σ H λx H1=>∃c,x=.bl c/\if c=true then tb σ H1 Q else Q (.bl false) H1
def Rt(ta tb:TE):TE:=λσ H Q=>ta σ H λx H1=>∃c,x=.bl c/\if c=true then Q (.bl true) H1 else tb σ H1 Q
theorem Ru{op}{t:TE}(h:PE X a t):PE X (.BoolOp op [a] pos) t:=λpins s σ H Q I hw=>BoolOp_one (h pins s σ H Q I hw)
theorem Rv(ha:PE X a ta)(hb:PE X (.BoolOp .And (b::rest) pos) tb):PE X (.BoolOp .And (a::b::rest) pos) (Rq ta tb):=by
 intro pins s σ H Q I h;refine BoolOp_and (thn (ha pins s σ H _ I h) λv s1 ⟨x,H1,I1,r1,q1⟩=>?_);obtain ⟨c,rfl,q1⟩:=q1;cases r1;refine wpAny_truthy_bool ?_;cases c with
 |true=>exact hb pins s1 σ H1 Q I1 q1
 |false=>exact ⟨.bl false,H1,I1,rfl,q1⟩
theorem Rw(ha:PE X a ta)(hb:PE X (.BoolOp .Or (b::rest) pos) tb):PE X (.BoolOp .Or (a::b::rest) pos) (Rt ta tb):=by
 intro pins s σ H Q I h;refine BoolOp_or (thn (ha pins s σ H _ I h) λv s1 ⟨x,H1,I1,r1,q1⟩=>?_);obtain ⟨c,rfl,q1⟩:=q1;cases r1;refine wpAny_truthy_bool ?_;cases c with
 |false=>exact hb pins s1 σ H1 Q I1 q1
 |true=>exact ⟨.bl true,H1,I1,rfl,q1⟩
def tIf(t:TT)(ta tb:TE):TE:=λσ H Q=>t σ H λc H1=>if c=true then ta σ H1 Q else tb σ H1 Q
theorem Rx{c:Expr}(hc:PT X c tA)(ha:PE X a ta)(hb:PE X b tb):PE X (.IfExp c a b pos) (tIf tA ta tb):=by
 intro pins s σ H Q I h;refine wpAny_IfExp (thn (hc pins s σ H _ I h) λd s1 ⟨H1,I1,q1⟩=>?_);cases d with
 |true=>exact ha pins s1 σ H1 Q I1 q1
 |false=>exact hb pins s1 σ H1 Q I1 q1
end
def SqL(K:PySem.W.Frag)(H:Hp)(a:Addr)(xs:List V):Prop:=
 Rd H a (.lst xs)\/
  ∃(o:Obj) (its:Array Value) (n:Nat),K.lookup a=some o/\o.cls=.type "list"/\o.dict=none/\o.data=.seq its n/\its.size<=sizeLine/\Vals xs its.toList
def SqT(K:PySem.W.Frag)(H:Hp)(a:Addr)(xs:List V):Prop:=
 Rd H a (.tup xs)\/
  ∃(o:Obj) (its:Array Value) (n:Nat),K.lookup a=some o/\o.cls=.type "tuple"/\o.data=.seq its n/\its.size<=sizeLine/\Vals xs its.toList
def Ry:Value->Option V
 |.none=>some .non
 |.bool b=>some (.bl b)
 |.int i _=>some (.int i)
 |.str x _=>some (.str x)
 |.bytes b _=>some (.byt b)
 |.float b _=>some (.flt b)
 |.ref a=>some (.ref a)
 |.type n=>some (.ty n)
 |_=>none
theorem RelV.abs{x:V}{u:Value}(r:RelV x u):Ry u=some x:=by
 cases x with
 |non=>cases r;rfl
 |bl _=>cases r;rfl
 |int _=>obtain ⟨t,rfl⟩:=r;rfl
 |str _=>obtain ⟨t,rfl⟩:=r;rfl
 |byt _=>obtain ⟨t,rfl⟩:=r;rfl
 |flt _=>obtain ⟨t,rfl⟩:=r;rfl
 |ref _=>cases r;rfl
 |ty _=>cases r;rfl
theorem RelV.inj{x y:V}{u:Value}(r:RelV x u)(q:RelV y u):x=y:=Option.some.inj (r.abs.symm.trans q.abs)
theorem Vals.inj:∀{xs ys:List V}{us:List Value},Vals xs us->Vals ys us->xs=ys
 |_,_,_,.nil,.nil=>rfl
 |_,_,_,.cons r t,.cons r' t'=>by rw[r.inj r',Vals.inj t t']
section
variable {X:Cx} {pins:List (Addr×Obj)} {σ:St} {H:Hp} {s:Shared} {a:Addr} {xs ys:List V}
theorem SqL.of{K:PySem.W.Frag}(h:H a=some (.lst xs)):SqL K H a xs:=.inl (.inl h)
theorem SqT.of{K:PySem.W.Frag}(h:H a=some (.tup xs)):SqT K H a xs:=.inl (.inl h)
theorem Inv.list(I:Inv X pins σ H s)(h:SqL X.K H a xs):∃its:List Value,Vals xs its/\PlainL s.heap a its.toArray/\xs.length<=sizeLine:=by
 rcases h with h |⟨o,its,n,hk,hc,hd,hs,hz,r⟩
 ·obtain ⟨z,its,n,r,e⟩:=h.ok I.hok;exact ⟨its,r,⟨_,n,e,rfl,rfl,rfl⟩,z⟩
 ·refine ⟨its.toList,r,⟨o,n,I.kIn a o hk,hc,hd,by simpa using hs⟩,?_⟩;have e:=r.length;simp only[Array.length_toList]at e;omega
theorem Inv.tuple(I:Inv X pins σ H s)(h:SqT X.K H a xs):∃its:List Value,Vals xs its/\IsTup s.heap a its.toArray/\xs.length<=sizeLine:=by
 rcases h with h |⟨o,its,n,hk,hc,hs,hz,r⟩
 ·obtain ⟨z,its,r,p⟩:=h.ok I.hok;exact ⟨its,r,p,z⟩
 ·refine ⟨its.toList,r,⟨o,I.kIn a o hk,hc,n,by simpa using hs⟩,?_⟩;have e:=r.length;simp only[Array.length_toList]at e;omega
theorem Inv.list_inj(I:Inv X pins σ H s)(h:SqL X.K H a xs)(h':SqL X.K H a ys):xs=ys:=by
 obtain ⟨its,r,⟨o,n,e,_,_,d⟩,_⟩:=I.list h;obtain ⟨its',r',⟨o',n',e',_,_,d'⟩,_⟩:=I.list h';rw[e]at e';cases e';rw[d]at d';injection d' with d1 _;have:its=its':=by simpa using congrArg Array.toList d1
 subst this;exact r.inj r'
theorem Inv.tuple_inj(I:Inv X pins σ H s)(h:SqT X.K H a xs)(h':SqT X.K H a ys):xs=ys:=by
 obtain ⟨its,r,⟨o,e,_,n,d⟩,_⟩:=I.tuple h;obtain ⟨its',r',⟨o',e',_,n',d'⟩,_⟩:=I.tuple h';rw[e]at e';cases e';rw[d]at d';injection d' with d1 _;have:its=its':=by simpa using congrArg Array.toList d1
 subst this;exact r.inj r'
end
abbrev Cx.wish(X:Cx)(E:Value->Shared->Prop):Cx:={ X with xe:=E }
abbrev Cx.nox(X:Cx):Cx:=X.wish λ_ _=>False
theorem Cx.Ok.wish{X:Cx}(ok:X.Ok)(E:Value->Shared->Prop):(X.wish E).Ok:=
 ⟨ok.mod,ok.kind,ok.glob,ok.blt,ok.above,ok.inj,ok.has,ok.cab,ok.hd,ok.frames,ok.stk,ok.exf,ok.bs,ok.bsz,ok.noex,ok.exfs,ok.funs,ok.frf⟩
theorem Cx.Ok.unwish{X:Cx}{E:Value->Shared->Prop}(ok:(X.wish E).Ok):X.Ok:=
 ⟨ok.mod,ok.kind,ok.glob,ok.blt,ok.above,ok.inj,ok.has,ok.cab,ok.hd,ok.frames,ok.stk,ok.exf,ok.bs,ok.bsz,ok.noex,ok.exfs,ok.funs,ok.frf⟩
section
variable {X:Cx} {pins:List (Addr×Obj)} {σ:St} {H:Hp} {s:Shared} {E:Value->Shared->Prop}
theorem Inv.wish(I:Inv X pins σ H s)(E:Value->Shared->Prop):Inv (X.wish E) pins σ H s:=⟨I.ok.wish E,I.os,I.bare,I.base,I.loc,I.cell,I.free,I.freeC,I.pin,I.hok,I.len⟩
theorem Inv.unwish(I:Inv (X.wish E) pins σ H s):Inv X pins σ H s:=⟨I.ok.unwish,I.os,I.bare,I.base,I.loc,I.cell,I.free,I.freeC,I.pin,I.hok,I.len⟩
theorem SP.unwish{D:Ends}{f:Flow}{s':Shared}(h:SP (X.wish E) pins D f s'):SP X pins D f s':=by
 cases f with
 |next=>obtain ⟨σ',H',I,q⟩:=h;exact ⟨σ',H',I.unwish,q⟩
 |brk=>obtain ⟨σ',H',I,q⟩:=h;exact ⟨σ',H',I.unwish,q⟩
 |cont=>obtain ⟨σ',H',I,q⟩:=h;exact ⟨σ',H',I.unwish,q⟩
 |ret u=>obtain ⟨v,σ',H',I,r,q⟩:=h;exact ⟨v,σ',H',I.unwish,r,q⟩
theorem PSs.nox{st:List Stmt}{t:TS}(h:PSs X.nox st t):PSs X st t:=λpins s σ H D I hw=>
 wpAny_mono (h pins s σ H D (I.wish _) hw) (λ_ _ q=>q.unwish) λ_ _ z=>False.elim z
end
section
variable {X:Cx} {st:Stmt} {rest:List Stmt} {t u:TS} {e:Expr} {te:TE} {pos:Pos}
def yM:TS:=λD σ H=>D.nx σ H
def Rz(t u:TS):TS:=λD σ H=>t { D with nx:=u D } σ H
theorem RB:PSs X [] yM:=λ_ _ σ H _ I h=>wpAny_execs_nil ⟨σ,H,I,h⟩
theorem RC(h1:PS X st t)(h2:PSs X rest u):PSs X (st::rest) (Rz t u):=by
 intro pins s σ H D I h;refine wpAny_execs_cons (thn (h1 pins s σ H { D with nx:=u D } I h) λf s1 q=>?_);cases f with
 |next=>
  obtain ⟨σ',H',I',q⟩:=q;exact h2 pins s1 σ' H' D I' q
 |ret v=>exact q
 |brk=>exact q
 |cont=>exact q
def RD:TS:=λD σ H=>D.bk σ H
def RG:TS:=λD σ H=>D.ct σ H
theorem RJ:PS X (.Pass pos) yM:=λ_ _ σ H _ I h=>wpAny_Pass ⟨σ,H,I,h⟩
theorem RK:PS X (.Break pos) RD:=λ_ _ σ H _ I h=>wpAny_Break ⟨σ,H,I,h⟩
theorem RL:PS X (.Continue pos) RG:=λ_ _ σ H _ I h=>wpAny_Continue ⟨σ,H,I,h⟩
theorem Inv.quiet{pins:List (Addr×Obj)}{σ:St}{H:Hp}{s:Shared}(I:Inv X pins σ H s):interactive X.env=false:=by simp[interactive,I.ok.kind]
def RM(te:TE):TS:=λD σ H=>te σ H λ_ H1=>D.nx σ H1
theorem RN(he:PE X e te)(hs:swapsWith e none pos.line X.env=pure false:=by rfl):PS X (.Expr e pos) (RM te):=by intro pins s σ H D I h;exact wpAny_Expr_any (thn (he pins s σ H _ I h) λv s1 ⟨x,H1,I1,r1,q1⟩=>⟨σ,H1,I1,q1⟩) I.quiet hs
def yN(te:TE):TS:=λD σ H=>te σ H D.rt
theorem RP(he:PE X e te):PS X (.Return (some e) pos) (yN te):=by intro pins s σ H D I h;exact wpAny_Return_some (thn (he pins s σ H _ I h) λv s1 ⟨x,H1,I1,r1,q1⟩=>⟨x,σ,H1,I1,r1,q1⟩)
def RQ:TS:=λD _ H=>D.rt .non H
theorem RT:PS X (.Return none pos) RQ:=λ_ _ σ H _ I h=>wpAny_Return_none ⟨.non,σ,H,I,rfl,h⟩
def RV(c:TT)(t u:TS):TS:=λD σ H=>c σ H λb H1=>if b=true then t D σ H1 else u D σ H1
theorem RW{c:Expr}{a b:List Stmt}{tc:TT}(hc:PT X c tc)(ha:PSs X a t)(hb:PSs X b u):PS X (.If c a b pos) (RV tc t u):=by
 intro pins s σ H D I h;refine wpAny_If (thn (hc pins s σ H _ I h) λd s1 ⟨H1,I1,q1⟩=>?_);cases d with
 |true=>exact ha pins s1 σ H1 D I1 q1
 |false=>exact hb pins s1 σ H1 D I1 q1
def RX:TS:=λ_ _ _=>False
theorem RZ:PS X st RX:=λ_ _ _ _ _ _ h=>h.elim
end
abbrev TG:=V->St->Hp->(St->Hp->Prop)->Prop
abbrev TGs:=List V->St->Hp->(St->Hp->Prop)->Prop
def PG(X:Cx)(target:Expr)(t:TG):Prop:=
 ∀(pins:List (Addr×Obj))(s:Shared)(σ:St)(H:Hp)(v:V)(u:Value)(Q:St->Hp->Prop),Inv X pins σ H s->RelV v u->t v σ H Q->
  wpAny (model X.prog X.w) X.A (assign target X.env u) (λ_ s'=>∃σ' H',Inv X pins σ' H' s'/\Q σ' H') X.xe s
def PGs(X:Cx)(ts:List Expr)(t:TGs):Prop:=
 ∀(pins:List (Addr×Obj))(s:Shared)(σ:St)(H:Hp)(vs:List V)(us:List Value)(Q:St->Hp->Prop),Inv X pins σ H s->Vals vs us->t vs σ H Q->
  wpAny (model X.prog X.w) X.A (assignInOrder ((assignEach ts X.env).map (·.2)) us) (λ_ s'=>∃σ' H',Inv X pins σ' H' s'/\Q σ' H') X.xe s
abbrev ug:=V->V->V->Hp->(Hp->Prop)->Prop
def uh(X:Cx)(t:ug):Prop:=
 ∀(pins:List (Addr×Obj))(s:Shared)(σ:St)(H:Hp)(o i v:V)(ov iv u:Value)(Q:Hp->Prop),Inv X pins σ H s->RelV o ov->RelV i iv->RelV v u->t o i v H Q->
  wpAny (model X.prog X.w) X.A (setItem ov iv u) (λ_ s'=>∃H',Inv X pins σ H' s'/\Q H') X.xe s
abbrev TIp:=V->V->Hp->VK->Prop
def PIp(X:Cx)(op:Operator)(t:TIp):Prop:=
 ∀(pins:List (Addr×Obj))(s:Shared)(σ:St)(H:Hp)(x y:V)(v u:Value)(Q:VK),Inv X pins σ H s->RelV x v->RelV y u->t x y H Q->
  wpAny (model X.prog X.w) X.A (inplaceOp op v u) (EP X pins σ Q) X.xe s
section
variable {X:Cx} {pos:Pos}
def ou(i:Nat):TG:=λv σ H Q=>Q (σ.set i (some v)) H
theorem R0{i:Nat}{x:Str}(hN:X.N.Nodup)(hi:X.N[i]?=some x)(hx:Loc X.env.scope x)(hf:X.fn x=true\/X.env.scope.names.lookup x=some .local:=by first |exact .inl rfl |exact .inr rfl |assumption):PG X (.Name x pos) (ou i):=by intro pins s σ H v u Q I r h;exact wpAny_assign_Name (oh I hN hi hx r (λs' I'=>⟨_,H,I',h⟩) hf)
def R1:TGs:=λvs σ H Q=>vs=[]/\Q σ H
def R3(t:TG)(u:TGs):TGs:=λvs σ H Q=>∃v r,vs=v::r/\t v σ H λσ' H'=>u r σ' H' Q
theorem R4:PGs X [] R1:=by intro pins s σ H vs us Q I r h;obtain ⟨e,h⟩:=h;subst e;cases r;exact assignInOrder_nil ⟨σ,H,I,h⟩
theorem R5{e:Expr}{es:List Expr}{t:TG}{u:TGs}(h1:PG X e t)(h2:PGs X es u)
  (hs:(assignEach (e::es) X.env).map (·.2)=assign e X.env::(assignEach es X.env).map (·.2):=by rfl):PGs X (e::es) (R3 t u):=by
 intro pins s σ H vs us Q I r h;obtain ⟨v,vr,e1,h⟩:=h;subst e1;cases r with
 |cons r rr=>
  rw[hs];refine assignInOrder_cons (thn (h1 pins s σ H _ _ _ I r h) λ_ s1 ⟨σ1,H1,I1,q1⟩=>?_);exact h2 pins s1 σ1 H1 _ _ Q I1 rr q1
def R6(K:PySem.W.Frag)(n:Nat)(t:TGs):TG:=λv σ H Q=>∃a xs,v=.ref a/\SqT K H a xs/\xs.length=n/\t xs σ H Q
theorem R7{es:List Expr}{k:Nat}{t:TGs}{n:Nat}(hc:X.calm=true)(h:PGs X es t)
  (hn:(assignEach es X.env).length=n:=by rfl) (hst:(assignEach es X.env).findIdx? (·.1)=none:=by rfl):PG X (.Tuple es k pos) (R6 X.K n t):=by
 intro pins s σ H v u Q I r hw;obtain ⟨a,xs,e1,hq,hl,hw⟩:=hw;subst e1;cases r;obtain ⟨its,rv,ht,hz⟩:=I.tuple hq;refine assign_Tuple_tuple (I.ok.hd hc) ht (by simp[hn,<-hl,rv.length]) hst λh' hx=>?_;have I1:Inv X pins σ H { s with heap:=h' }:=I.kept (t':=s.toks) λb o e=>hx b o (Nat.ne_of_lt (Heap.lt_size e)) e;exact h pins _ σ H xs _ Q I1 (by simpa using rv) hw
def R8(to ti:TE)(t:ug):TG:=λv σ H Q=>to σ H λo H1=>ti σ H1 λi H2=>t o i v H2 λH3=>Q σ H3
theorem R9{o i:Expr}{to ti:TE}{t:ug}(ho:PE X o to)(hi:PE X i ti)(hs:uh X t)
  (ha:∀v,assign (.Subscript o i pos) X.env v=(do
   let ov <-holding [v] (eval o X.env)
   let iv <-holding [v,ov] (eval i X.env)
   standAt pos
   holding [v,ov,iv] (setItem ov iv v)
   release [v,ov,iv] []):=by intro _;rfl):PG X (.Subscript o i pos) (R8 to ti t):=by
 intro pins s σ H v u Q I r h;rw[ha];refine wpAny_bind (wpAny_holding (thn (ho pins s σ H _ I h) λov s1 ⟨x,H1,I1,r1,q1⟩=>?_));refine wpAny_bind (wpAny_holding (thn (hi pins s1 σ H1 _ I1 q1) λiv s2 ⟨y,H2,I2,r2,q2⟩=>?_));refine wpAny_bind (wpAny_standAt (wpAny_bind (wpAny_holding (thn (hs pins s2 σ H2 x y v ov iv u _ I2 r1 r2 r q2) λ_ s3 ⟨H3,I3,q3⟩=>?_))));exact wpAny_release ⟨σ,H3,I3,q3⟩
def oA(te:TE)(g:TG):TS:=λD σ H=>te σ H λx H1=>g x σ H1 D.nx
theorem yO{tg e:Expr}{te:TE}{g:TG}(he:PE X e te)(hg:PG X tg g)(hs:swapsWithSole [tg] e pos.line X.env=pure false:=by rfl)(hw:swappedStores [tg] e X.env=pure none:=by rfl)
  (h1:(assignEach [tg] X.env).map (·.2)=[assign tg X.env]:=by rfl):PS X (.Assign [tg] e pos) (oA te g):=by
 intro pins s σ H D I h;refine wpAny_Assign_stores (thn (he pins s σ H _ I h) λv s1 ⟨x,H1,I1,r1,q1⟩=>?_) hs hw;rw[h1];exact thn (hg pins s1 σ H1 x v _ I1 r1 q1) λ_ s2 q=>q
theorem yP{i:Nat}{x:Str}{e:Expr}{te:TE}{pos':Pos}(hN:X.N.Nodup)(hi:X.N[i]?=some x)(hx:Loc X.env.scope x)(he:PE X e te)(hs:swapsWith e (some (.Name x pos')) pos.line X.env=pure false:=by rfl)(hf:X.fn x=true\/X.env.scope.names.lookup x=some .local:=by first |exact .inl rfl |exact .inr rfl |assumption):
  PS X (.Assign [.Name x pos'] e pos) (oA te (ou i)):=by
 intro pins s σ H D I h;refine wpAny_Assign_Name (thn (he pins s σ H _ I h) λv s1 ⟨y,H1,I1,r1,q1⟩=>?_) hs;exact oh I1 hN hi hx r1 (λs2 I2=>⟨_,H1,I2,q1⟩) hf
def Sd(i:Nat)(te:TE)(ti:TIp):TS:=λD σ H=>∃x,σ[i]?=some (some x)/\te σ H λy H1=>ti x y H1 λz H2=>D.nx (σ.set i (some z)) H2
theorem Sg{i:Nat}{x:Str}{e:Expr}{te:TE}{op:Operator}{ti:TIp}{pos':Pos}(hN:X.N.Nodup)(hi:X.N[i]?=some x)(hx:Loc X.env.scope x)(he:PE X e te)(ho:PIp X op ti)(hf:X.fn x=true\/X.env.scope.names.lookup x=some .local:=by first |exact .inl rfl |exact .inr rfl |assumption):
  PS X (.AugAssign (.Name x pos') op e pos) (Sd i te ti):=by
 intro pins s σ H D I h;obtain ⟨v,e1,h⟩:=h;obtain ⟨m,hn,hl⟩:=I.loc;have vis:Vis X.env.scope x:=by rcases hx with k |k;exact .inl k;exact .inr (.inl k)
 obtain ⟨u,r,l⟩:=hl i x v hi e1 vis;refine wpAny_AugAssign_Name ?_;have go:wpAny (model X.prog X.w) X.A (eval e X.env) (λw s₂=>wpAny (model X.prog X.w) X.A (inplaceOp op u w) (λr s₃=>wpAny (model X.prog X.w) X.A (storeName X.env x r) (λ_=>SP X pins D .next) X.xe s₃) X.xe s₂) X.xe s:=by refine thn (he pins s σ H _ I h) λw s1 ⟨y,H1,I1,r1,q1⟩=>?_;refine thn (ho pins s1 σ H1 v y u w _ I1 r r1 q1) λz s2 ⟨zv,H2,I2,r2,q2⟩=>?_;exact oh I2 hN hi hx r2 (λs3 I3=>⟨_,H2,I3,q2⟩) hf
 rcases l with ⟨hk,hm⟩ |⟨hk,c,hc,hcell⟩
 ·exact wpAny_loadName_local I.ok.kind hk hn hm go
 ·rcases hk with hk |hk
  ·exact wpAny_loadName_cell I.ok.kind hk hc hcell go
  ·rcases hx with k |k
   ·have:X.env.scope.names.lookup x=some .free:=hk;rw[k]at this;cases this
   ·have:X.env.scope.names.lookup x=some .free:=hk;rw[k]at this;cases this
end
structure It where
 go:Nat->Hp->Prop
 yld:Nat->Hp->V->Hp->Prop
 stop:Nat->Hp->Prop
def dX(X:Cx)(pins:List (Addr×Obj))(H:Hp)(b:Addr):Prop:=
 H b=none/\b≠X.env.locals/\b∉X.fs/\(b∈X.ex\/X.s₀.heap.objs.size<=b)/\(∀x c,X.env.cells.lookup x=some c->c≠b)/\∀p∈X.pn++pins,p.1≠b
theorem Inv.fpOk{X:Cx}{pins:List (Addr×Obj)}{σ:St}{H H':Hp}{s:Shared}{b:Addr}(I:Inv X pins σ H s)(hb:s.heap.objs.size<=b)(hn:H' b=none):dX X pins H' b:=by
 refine ⟨hn,Nat.ne_of_gt (Nat.lt_of_lt_of_le I.lt hb),I.nofs hb,.inr (Nat.le_trans I.sz hb),λx c e z=>?_,λp hp z=>?_⟩
 ·obtain ⟨v,q⟩:=I.cell x c e;exact absurd (Nat.lt_of_lt_of_le q.lt (by rw[z];exact hb)) (Nat.lt_irrefl _)
 ·exact absurd (Nat.lt_of_lt_of_le (Heap.lt_size (I.pin p hp).1) (by rw[z];exact hb)) (Nat.lt_irrefl _)
structure Turn(P:Program)(w:World)(K:PySem.W.Frag)(tg:Expr)(J:It)(fp:List Addr)(it:Addr)(tn:Nat->Heap->Prop):Prop where
 mem:it∈fp
 obj:∀i h,tn i h->∀b∈fp,∃o,h.get? b=some o/\∀v,o.data≠.cell v
 keep:∀i h h',tn i h->(∀b∈fp,∀o,h.get? b=some o->h'.get? b=some o)->tn i h'
 item:∀(X:Cx),X.prog=P->X.w=w->X.K=K->X.calm=true->∀(i:Nat)(pins:List (Addr×Obj))(s:Shared)(σ:St)(H:Hp)(E:Value->Shared->Prop),Inv X pins σ H s->(∀b∈fp,dX X pins H b)->tn i s.heap->J.go i H->
  wpAny (model P w) X.A (pyNext (.ref it)) (λr s1=>∃u,r=some u/\
   wpAny (model P w) X.A (letOwnedTupleGo tg (.ref it) u) (λ_ s2=>∃x H',Inv X pins σ H' s2/\RelV x u/\J.yld i H x H'/\tn (i+1) s2.heap/\∀b∈fp,H' b=none) E s1) E s
 done:∀(X:Cx),X.prog=P->X.w=w->X.K=K->X.calm=true->∀(i:Nat)(pins:List (Addr×Obj))(s:Shared)(σ:St)(H:Hp)(E:Value->Shared->Prop),Inv X pins σ H s->(∀b∈fp,dX X pins H b)->tn i s.heap->J.stop i H->
  wpAny (model P w) X.A (pyNext (.ref it)) (λr s1=>r=none/\Inv X pins σ H s1) E s
 self:∀(A:Around)(i:Nat)(s:Shared)(Q:Value->Shared->Prop)(E:Value->Shared->Prop),tn i s.heap->Q (.ref it) s->wpAny (model P w) A (pyIter (.ref it)) Q E s
abbrev TI:=St->Hp->(It->Hp->Prop)->Prop
def PIE(X:Cx)(pins:List (Addr×Obj))(σ:St)(tg:Expr)(R:It->Hp->Prop)(itv:Value)(s2:Shared):Prop:=
 ∃(it:Addr)(fp:List Addr)(tn:Nat->Heap->Prop)(J:It)(H':Hp),itv=.ref it/\Inv X pins σ H' s2/\Turn X.prog X.w X.K tg J fp it tn/\tn 0 s2.heap/\(∀b∈fp,dX X pins H' b)/\R J H'
def PI(X:Cx)(tg iter:Expr)(wi:TI):Prop:=
 ∀(pins:List (Addr×Obj))(s:Shared)(σ:St)(H:Hp)(R:It->Hp->Prop),Inv X pins σ H s->wi σ H R->
  wpAny (model X.prog X.w) X.A (eval iter X.env) (λv s1=>wpAny (model X.prog X.w) X.A (pyIter v) (PIE X pins σ tg R) X.xe s1) X.xe s
theorem oE{M:Model}{A:Around}{E:Value->Shared->Prop}{s:Shared}{tg:Expr}{it:Addr}{u:Value}{o:Obj}{n:String}{vs:Array Value}{Q:Unit->Shared->Prop}(ho:s.heap.get? it=some o)(hc:o.cls=.type n)(hd:o.data=.fields vs)
  (hn:["enumerate","zip","dict_itemiterator","dict_reverseitemiterator","odict_iterator","itertools.zip_longest","itertools.pairwise"].contains n=false) (hQ:Q () s):wpAny M A (letOwnedTupleGo tg (.ref it) u) Q E s:=by
 unfold letOwnedTupleGo;cases tg <;> first
  |exact wpAny_pure hQ
  | (cases u <;> first
    |exact wpAny_pure hQ
    | (refine wpAny_bind (wpAny_load ho ?_)
       rw[hc,hd];show wpAny M A (if (["enumerate","zip","dict_itemiterator","dict_reverseitemiterator","odict_iterator","itertools.zip_longest","itertools.pairwise"].contains n&&vs[0]?==some (rawInt _))=true then _ else _) Q E s;rw[if_neg (by intro h;rw[hn,Bool.false_and]at h;cases h)];exact wpAny_pure hQ))
def Itl(K:PySem.W.Frag)(a:Addr):It:=
 ⟨λi H=>∃xs x,SqL K H a xs/\xs[i]?=some x,λi H x H'=>H'=H/\∀xs,SqL K H a xs->xs[i]?=some x,λi H=>∃xs,SqL K H a xs/\xs.length<=i⟩
def Itt(K:PySem.W.Frag)(a:Addr):It:=
 ⟨λi H=>∃xs x,SqT K H a xs/\xs[i]?=some x,λi H x H'=>H'=H/\∀xs,SqT K H a xs->xs[i]?=some x,λi H=>∃xs,SqT K H a xs/\xs.length<=i⟩
def Itr(lo:Int)(n:Nat):It:=⟨λi _=>i < n,λi H x H'=>H'=H/\x=.int (lo+i),λi _=>n<=i⟩
theorem yQ{P:Program}{w:World}{K:PySem.W.Frag}{tg:Expr}(a it:Addr):Turn P w K tg (Itl K a) [it] it (λi h=>h.IsListIter it a i) where
 mem:=by simp
 obj:=λi h st b hb=>by
  have e:b=it:=by simpa using hb
  subst e;obtain ⟨o,e,c,d⟩:=st;exact ⟨o,e,λv z=>by rw[d]at z;cases z⟩
 keep:=λi h h' st k=>st.at λo e=>k it (by simp) o e
 item:=by intro X hP hw hK hc i pins s σ H E I hf st hg;subst hP hw hK;obtain ⟨xs,x,hq,hx⟩:=hg;obtain ⟨its,rv,p,hz⟩:=I.list hq;obtain ⟨u,hu,ru⟩:=rv.get hx;obtain ⟨f0,f1,f2,f3,f4,f5⟩:=hf it (by simp);refine wpAny_pyNext_list_item st p.isList (x:=u) (by simpa using hu) λh' st' sb=>?_;have I1:Inv X pins σ H { s with heap:=h' }:=I.turned (t':=s.toks) (λb o hb e=>(sb.2 b hb).trans e) f0 f1 f3 f4 f5;obtain ⟨o,e,c,d⟩:=id st';exact ⟨u,rfl,oE (s:={ s with heap:=h' }) e c d (by decide) ⟨x,H,I1,ru,⟨rfl,λys hy=>by rw[I.list_inj hy hq];exact hx⟩,st',λb hb=>(hf b hb).1⟩⟩
 done:=by intro X hP hw hK hc i pins s σ H E I hf st hg;subst hP hw hK;obtain ⟨xs,hq,hx⟩:=hg;obtain ⟨its,rv,p,hz⟩:=I.list hq;obtain ⟨f0,f1,f2,f3,f4,f5⟩:=hf it (by simp);have hl:=rv.length;exact wpAny_pyNext_list_end (I.ok.hd hc) st p.isList (by simp;omega) λh' eb=>⟨rfl,I.turned (t':=s.toks) (λb o hb e=>eb b o hb e) f0 f1 f3 f4 f5⟩
 self:=λ_ _ _ _ _ st h=>wpAny_pyIter_listiter st h
theorem yR{P:Program}{w:World}{K:PySem.W.Frag}{tg:Expr}(a it:Addr):Turn P w K tg (Itt K a) [it] it (λi h=>h.IsTupleIter it a i) where
 mem:=by simp
 obj:=λi h st b hb=>by
  have e:b=it:=by simpa using hb
  subst e;obtain ⟨o,e,c,d⟩:=st;exact ⟨o,e,λv z=>by rw[d]at z;cases z⟩
 keep:=λi h h' st k=>st.at λo e=>k it (by simp) o e
 item:=by intro X hP hw hK hc i pins s σ H E I hf st hg;subst hP hw hK;obtain ⟨xs,x,hq,hx⟩:=hg;obtain ⟨its,rv,p,hz⟩:=I.tuple hq;obtain ⟨u,hu,ru⟩:=rv.get hx;obtain ⟨f0,f1,f2,f3,f4,f5⟩:=hf it (by simp);refine wpAny_pyNext_tuple_item st (show s.heap.IsTuple a its.toArray from p) (x:=u) (by simpa using hu) λh' st' sb=>?_;have I1:Inv X pins σ H { s with heap:=h' }:=I.turned (t':=s.toks) (λb o hb e=>(sb.2 b hb).trans e) f0 f1 f3 f4 f5;obtain ⟨o,e,c,d⟩:=id st';exact ⟨u,rfl,oE (s:={ s with heap:=h' }) e c d (by decide) ⟨x,H,I1,ru,⟨rfl,λys hy=>by rw[I.tuple_inj hy hq];exact hx⟩,st',λb hb=>(hf b hb).1⟩⟩
 done:=by intro X hP hw hK hc i pins s σ H E I hf st hg;subst hP hw hK;obtain ⟨xs,hq,hx⟩:=hg;obtain ⟨its,rv,p,hz⟩:=I.tuple hq;obtain ⟨f0,f1,f2,f3,f4,f5⟩:=hf it (by simp);have hl:=rv.length;exact wpAny_pyNext_tuple_end (I.ok.hd hc) st (show s.heap.IsTuple a its.toArray from p) (by simp;omega) λh' eb=>⟨rfl,I.turned (t':=s.toks) (λb o hb e=>eb b o hb e) f0 f1 f3 f4 f5⟩
 self:=λ_ _ _ _ _ st h=>wpAny_pyIter_tupleiter st h
theorem Sh{P:Program}{w:World}{K:PySem.W.Frag}{tg:Expr}(it:Addr)(lo:Int)(n:Nat):Turn P w K tg (Itr lo n) [it] it (λi h=>IsRangeIter h it (lo+(i:Nat) * 1) ((n:Int) - (i:Nat)) 1) where
 mem:=by simp
 obj:=λi h st b hb=>by
  have e:b=it:=by simpa using hb
  subst e;exact ⟨_,st,λv z=>by
   have z':Data.fields _=Data.cell v:=z;cases z'⟩
 keep:=λi h h' st k=>k it (by simp) _ st
 item:=by intro X hP hw hK hc i pins s σ H E I hf st hg;subst hP hw hK;obtain ⟨f0,f1,f2,f3,f4,f5⟩:=hf it (by simp);have W:=Walks.range (prog:=X.prog) (w:=X.w) (I.ok.hd hc) it lo 1 n;refine W.item i s _ _ hg st λv h' tk hv st' kk=>?_;obtain ⟨t,rfl⟩:=hv;have I1:Inv X pins σ H { s with heap:=h',toks:=tk }:=I.turned (λb o hb e=>kk b o (by simpa using hb) e) f0 f1 f3 f4 f5;refine ⟨_,rfl,oE (s:={ s with heap:=h',toks:=tk }) (n:="range_iterator") st' rfl rfl (by decide) ⟨.int (lo+i),H,I1,⟨t,?_⟩,⟨rfl,rfl⟩,st',λb hb=>(hf b hb).1⟩⟩;rw[Int.mul_one]
 done:=by intro X hP hw hK hc i pins s σ H E I hf st hg;subst hP hw hK;obtain ⟨f0,f1,f2,f3,f4,f5⟩:=hf it (by simp);exact wpAny_pyNext_range_end (I.ok.hd hc) st (by have:n<=i:=hg;omega) λh' eb=>⟨rfl,I.turned (t':=s.toks) (λb o hb e=>eb b o hb e) f0 f1 f3 f4 f5⟩
 self:=λ_ _ _ _ _ st h=>wpAny_pyIter_rangeiter st h
section
variable {X:Cx} {tg:Expr}
theorem Sq{pins:List (Addr×Obj)}{σ:St}{H:Hp}{s:Shared}{R:It->Hp->Prop}{E:Value->Shared->Prop}{lo hi:Int}{t u v:Tok}{tk:Nat}(I:Inv X pins σ H s)(h1:-(2 ^ 62)<=lo)(h2:lo < 2 ^ 62)(h3:-(2 ^ 62)<=hi)(h4:hi < 2 ^ 62)
  (q:R (Itr lo (hi - lo).toNat) H):wpAny (model X.prog X.w) X.A (pyIter (.ref s.heap.objs.size)) (PIE X pins σ tg R) E { s with heap:=s.heap.push { cls:=.type "range",data:=.fields #[.int lo t,.int hi u,.int 1 v] },toks:=tk }:=by
 refine wpAny_pyIter_range (IsRange.new ..) (small_one h1 h2 h3 h4) ?_;have I1:Inv X pins σ H { s with heap:=s.heap.push { cls:=.type "range",data:=.fields #[.int lo t,.int hi u,.int 1 v] },toks:=tk }:=I.kept λb o e=>Heap.get?_push_of_some _ e;refine ⟨(s.heap.push { cls:=.type "range",data:=.fields #[.int lo t,.int hi u,.int 1 v] }).objs.size,[(s.heap.push { cls:=.type "range",data:=.fields #[.int lo t,.int hi u,.int 1 v] }).objs.size],_,_,H,rfl,
  I1.kept (t':=tk) λb o e=>Heap.get?_push_of_some _ e,Sh _ lo (hi - lo).toNat,?_,λb hb=>?_,q⟩
 ·have e1:lo+((0:Nat):Int) * 1=lo:=by simp
  have e2:(((hi - lo).toNat:Nat):Int) - ((0:Nat):Int)=Builtin.Range.rangeSize lo hi 1:=by rw[rangeSize_one];split <;> omega
  show IsRangeIter _ _ (lo+((0:Nat):Int) * 1) ((((hi - lo).toNat:Nat):Int) - ((0:Nat):Int)) 1;rw[e1,e2];exact Heap.get?_push_size _ rfl
 ·have e:b=(s.heap.push { cls:=.type "range",data:=.fields #[.int lo t,.int hi u,.int 1 v] }).objs.size:=by simpa using hb
  subst e;exact I1.fpOk (Nat.le_refl _) (I1.hok.fresh (Nat.le_refl _))
def Ss(ta:TA):TI:=λσ H R=>ta σ H λvs H1=>∃j:Int,vs=[.int j]/\-(2 ^ 62)<=j/\j < 2 ^ 62/\R (Itr 0 j.toNat) H1
theorem Su {a:Expr} {ta:TA} {p pos:Pos} (hg:Gl X "range") (hm:X.mg "range"=none) (ha:PA X [a] ta) (hs:starEach [a] X.env=[(false,eval a X.env)]:=by rfl):PI X tg (.Call (.Name "range" p) [a] [] pos) (Ss ta):=by
 intro pins s σ H R I h;refine Call_ (gj I hg hm boot_range (PyProof.Rows.callWith_type1 (thn (ha pos pins s σ H _ I h) λus s1 ⟨vs,H1,I1,r1,q1⟩=>?_) hs rfl));obtain ⟨j,e,q1,q2,q⟩:=q1;subst e;cases r1 with
 |cons r rr=>
  cases rr;obtain ⟨t,rfl⟩:=r;exact call_range_1 (Sq I1 (by omega) (by omega) q1 q2 (by simpa using q))
def Sv(wi:TI)(g:TG)(tb:TS):TS:=λD σ H=>wi σ H λJ H1=>∃W:Nat->Nat->St->Hp->Prop,(∃m,W 0 m σ H1)/\∀i m σ H,W i m σ H->
 (J.stop i H/\D.nx σ H)\/(J.go i H/\∃N:St->Hp->Prop,(∀σ' H',N σ' H'->∃m',m' < m/\W (i+1) m' σ' H')/\∀x H',J.yld i H x H'->g x σ H' λσ2 H2=>tb { D with nx:=N,ct:=N,bk:=D.nx } σ2 H2)
def jm(fp:List Addr)(h:Heap):List (Addr×Obj):=fp.filterMap λb=>(h.get? b).map λo=>(b,o)
theorem oF{fp:List Addr}{h:Heap}{b:Addr}{o:Obj}(hb:b∈fp)(e:h.get? b=some o):(b,o)∈jm fp h:=List.mem_filterMap.mpr ⟨b,hb,by rw[e];rfl⟩
theorem Sw{fp:List Addr}{h:Heap}{p:Addr×Obj}(hp:p∈jm fp h):p.1∈fp/\h.get? p.1=some p.2:=by
 obtain ⟨b,hb,e⟩:=List.mem_filterMap.mp hp;cases q:h.get? b with
 |none=>rw[q]at e;cases e
 |some o=>
  rw[q]at e;have e':(b,o)=p:=Option.some.inj e;subst e';exact ⟨hb,q⟩
theorem Inv.pinned{pins:List (Addr×Obj)}{σ:St}{H:Hp}{s:Shared}{fp:List Addr}(I:Inv X pins σ H s)(hf:∀b∈fp,dX X pins H b)(ho:∀b∈fp,∃o,s.heap.get? b=some o/\∀v,o.data≠.cell v):Inv X (pins++jm fp s.heap) σ H s:=
 I.pins_of λp hp=>(List.mem_append.mp hp).elim (λz=>I.pin p (List.mem_append_right _ z)) λz=>by
  obtain ⟨hb,e⟩:=Sw z;obtain ⟨f0,f1,f2,_⟩:=hf p.1 hb;obtain ⟨o,e',d⟩:=ho p.1 hb;rw[e]at e';cases e';exact ⟨e,f0,f1,f2,d⟩
theorem Inv.unpinned{pins pl:List (Addr×Obj)}{σ:St}{H:Hp}{s:Shared}(I:Inv X (pins++pl) σ H s):Inv X pins σ H s:=I.pins_of λp hp=>I.pin p (List.mem_append_right _ (List.mem_append_left _ hp))
theorem Sy{iter:Expr}{body:List Stmt}{wi:TI}{g:TG}{tb:TS}{pos:Pos}(hp:PassesOwn (model X.prog X.w) X.A X.env X.xe)(hc:X.calm=true)(hi:PI X tg iter wi)(hg:PG X tg g)(hb:PSs X body tb)
  (hs:∀x,foldedSetIterable iter X.env x=pure x:=by intro _;rfl):PS X (.For tg iter body [] pos) (Sv wi g tb):=by
 intro pins s σ H D I h;refine wpAny_For (thn (hi pins s σ H _ I h) λv s1 h1=>thn h1 λitv s2 h2=>?_) hs;obtain ⟨it,fp,tn,J,H2,e,I2,T,st2,f2,W,⟨m0,w0⟩,turn⟩:=h2;subst e
 -- what stays true of the iterator's objects through the loop
 have stat:∀{H':Hp},(∀b∈fp,H' b=none)->∀b∈fp,dX X pins H' b:=λhn b hb=>⟨hn b hb,(f2 b hb).2⟩;refine codeAny_forLoop_any (λn s'=>∃i σ' H',Inv X pins σ' H' s'/\tn i s'.heap/\(∀b∈fp,H' b=none)/\W i n σ' H') ?_ m0 ⟨0,σ,H2,I2,st2,λb hb=>(f2 b hb).1,w0⟩;rintro n s3 ⟨i,σ3,H3,I3,st3,fr3,w3⟩;rcases turn i n σ3 H3 w3 with ⟨stop,qn⟩ |⟨go,N,hN,step⟩
 ·refine wpAny_passesOwn hp (thn (T.done X rfl rfl rfl hc i pins s3 σ3 H3 X.xe I3 (stat fr3) st3 stop) λr s4 ⟨hr,I4⟩=>?_);subst hr;exact wpAny_execs_nil ⟨σ3,H3,I4,qn⟩
 ·refine wpAny_passesOwn hp (thn (T.item X rfl rfl rfl hc i pins s3 σ3 H3 X.xe I3 (stat fr3) st3 go) λr s4 ⟨u,hr,h4⟩=>?_);subst hr;refine wpAny_passesOwn hp (thn h4 λ_ s5 ⟨x,H5,I5,r5,y5,st5,fr5⟩=>?_);have I5':=I5.pinned (stat fr5) (T.obj _ _ st5);refine wpAny_passesOwn hp (thn (hg _ s5 σ3 H5 x u _ I5' r5 (step x H5 y5)) λ_ s6 ⟨σ6,H6,I6,q6⟩=>?_);refine wpAny_passesOwn hp (thn (hb _ s6 σ6 H6 _ I6 q6) λf s7 q7=>?_);have again:∀{σ7:St}{H7:Hp},Inv X (pins++jm fp s5.heap) σ7 H7 s7->N σ7 H7->∃m,m < n/\∃i σ' H',Inv X pins σ' H' s7/\tn i s7.heap/\(∀b∈fp,H' b=none)/\W i m σ' H':=λ{σ7 H7} I7 n7=>by
   obtain ⟨m',hm,w7⟩:=hN σ7 H7 n7;refine ⟨m',hm,i+1,σ7,H7,I7.unpinned,T.keep _ _ _ st5 λb hb o e=>(I7.pin (b,o) (List.mem_append_right _ (List.mem_append_right _ (oF hb e)))).1,λb hb=>?_,w7⟩;obtain ⟨o,e,d⟩:=T.obj _ _ st5 b hb;exact (I7.pin (b,o) (List.mem_append_right _ (List.mem_append_right _ (oF hb e)))).2.1
  cases f with
  |next=>obtain ⟨σ7,H7,I7,n7⟩:=q7;exact again I7 n7
  |cont=>obtain ⟨σ7,H7,I7,n7⟩:=q7;exact again I7 n7
  |brk=>obtain ⟨σ7,H7,I7,q7⟩:=q7;exact ⟨σ7,H7,I7.unpinned,q7⟩
  |ret v=>obtain ⟨x7,σ7,H7,I7,r7,q7⟩:=q7;exact ⟨x7,σ7,H7,I7.unpinned,r7,q7⟩
end
abbrev R2:=V->V->Hp->VK->Prop
def OpR(X:Cx)(f:Value->Value->Sem Value)(r:R2):Prop:=
 ∀(pins:List (Addr×Obj))(s:Shared)(σ:St)(H:Hp)(x y:V)(v u:Value)(Q:VK),Inv X pins σ H s->RelV x v->RelV y u->r x y H Q->
  wpAny (model X.prog X.w) X.A (f v u) (EP X pins σ Q) X.xe s
def UnR(X:Cx)(f:Value->Sem Value)(r:V->Hp->VK->Prop):Prop:=
 ∀(pins:List (Addr×Obj))(s:Shared)(σ:St)(H:Hp)(x:V)(v:Value)(Q:VK),Inv X pins σ H s->RelV x v->r x H Q->
  wpAny (model X.prog X.w) X.A (f v) (EP X pins σ Q) X.xe s
def bw(X:Cx)(f:Value)(r:List V->Hp->VK->Prop):Prop:=
 ∀(pins:List (Addr×Obj))(s:Shared)(σ:St)(H:Hp)(xs:List V)(us:List Value)(Q:VK),Inv X pins σ H s->Vals xs us->r xs H Q->
  wpAny (model X.prog X.w) X.A (call f us) (EP X pins σ Q) X.xe s
def SJ(X:Cx)(r:V->Hp->(Bool->Hp->Prop)->Prop):Prop:=
 ∀(pins:List (Addr×Obj))(s:Shared)(σ:St)(H:Hp)(x:V)(v:Value)(Q:Bool->Hp->Prop),Inv X pins σ H s->RelV x v->r x H Q->
  wpAny (model X.prog X.w) X.A (truthy v) (TP X pins σ Q) X.xe s
def tOp(r:R2)(ta tb:TE):TE:=λσ H Q=>ta σ H λx H1=>tb σ H1 λy H2=>r x y H2 Q
def tUn(r:V->Hp->VK->Prop)(ta:TE):TE:=λσ H Q=>ta σ H λx H1=>r x H1 Q
def rI(C:Int->Int->Prop)(g:Int->Int->V):R2:=λx y H Q=>∃i j,x=.int i/\y=.int j/\C i j/\Q (g i j) H
def rI0(g:Int->Int->V):R2:=λx y H Q=>∃i j,x=.int i/\y=.int j/\Q (g i j) H
def rU(g:Int->V):V->Hp->VK->Prop:=λx H Q=>∃i,x=.int i/\Q (g i) H
section
variable {X:Cx} {a b c:Expr} {ta tb tc:TE} {pos:Pos}
theorem ul(ha:PE X a ta)(hb:PE X b tb){pins:List (Addr×Obj)}{s:Shared}{σ:St}{H:Hp}{R:V->V->Hp->Prop}(I:Inv X pins σ H s)
  (h:ta σ H λx H1=>tb σ H1 λy H2=>R x y H2) {Q:Value->Shared->Prop} {f:Value->Value->Sem Value}
  (hf:∀v u s2 x y H2,Inv X pins σ H2 s2->RelV x v->RelV y u->R x y H2->wpAny (model X.prog X.w) X.A (f v u) Q X.xe s2):
  wpAny (model X.prog X.w) X.A (eval a X.env) (λv s₁=>wpAny (model X.prog X.w) X.A (eval b X.env) (λu s₂=>wpAny (model X.prog X.w) X.A (f v u) Q X.xe s₂) X.xe s₁) X.xe s:=by
 refine thn (ha pins s σ H _ I h) λv s1 ⟨x,H1,I1,r1,q1⟩=>?_;refine thn (hb pins s1 σ H1 _ I1 q1) λu s2 ⟨y,H2,I2,r2,q2⟩=>?_;exact hf v u s2 x y H2 I2 r1 r2 q2
theorem SM{op:Operator}{r:R2}(ho:OpR X (binaryOp op) r)(ha:PE X a ta)(hb:PE X b tb):PE X (.BinOp a op b pos) (tOp r ta tb):=by intro pins s σ H Q I h;exact wpAny_BinOp (ul ha hb I h λv u s2 x y H2 I2 rx ry q=>ho pins s2 σ H2 x y v u Q I2 rx ry q)
theorem SN{op:UnaryOp}{r:V->Hp->VK->Prop}(ho:UnR X (unaryOp op) r)(ha:PE X a ta):PE X (.UnaryOp op a pos) (tUn r ta):=by intro pins s σ H Q I h;exact UnaryOp_ (thn (ha pins s σ H _ I h) λv s1 ⟨x,H1,I1,r1,q1⟩=>ho pins s1 σ H1 x v Q I1 r1 q1)
theorem opI{f:Value->Value->Sem Value}{C:Int->Int->Prop}{g:Int->Int->Int}
  (rule:∀(i j:Int)(t u:Tok)(s:Shared)(Q:Value->Shared->Prop)(E:Value->Shared->Prop),C i j->Q (.int (g i j) s.toks) { s with toks:=s.toks+1 }->wpAny (model X.prog X.w) X.A (f (.int i t) (.int j u)) Q E s):
  OpR X f (rI C λi j=>.int (g i j)):=by
 intro pins s σ H x y v u Q I rx ry h;obtain ⟨i,j,rfl,rfl,hc,q⟩:=h;obtain ⟨t,rfl⟩:=rx;obtain ⟨t',rfl⟩:=ry;exact rule i j t t' s _ _ hc ⟨.int (g i j),H,I.tok _,⟨_,rfl⟩,q⟩
theorem oG{f:Value->Value->Sem Value}{g:Int->Int->Int}
  (rule:∀(i j:Int)(t u:Tok)(s:Shared)(Q:Value->Shared->Prop)(E:Value->Shared->Prop),Q (.int (g i j) s.toks) { s with toks:=s.toks+1 }->wpAny (model X.prog X.w) X.A (f (.int i t) (.int j u)) Q E s):
  OpR X f (rI0 λi j=>.int (g i j)):=by
 intro pins s σ H x y v u Q I rx ry h;obtain ⟨i,j,rfl,rfl,q⟩:=h;obtain ⟨t,rfl⟩:=rx;obtain ⟨t',rfl⟩:=ry;exact rule i j t t' s _ _ ⟨.int (g i j),H,I.tok _,⟨_,rfl⟩,q⟩
def oH(i j:Int):Prop:=0<=j/\j<=1000000/\i.natAbs < 2 ^ 64
def CMul(i j:Int):Prop:=(-(2 ^ 64) < i/\i < 2 ^ 64)\/(-(2 ^ 64) < j/\j < 2 ^ 64)
theorem CMul.ok{i j:Int}(h:CMul i j):IntMulOk i j:=by
 rcases h with ⟨h1,h2⟩ |⟨h1,h2⟩
 ·exact .of_left (intBits_le_64 h1 h2)
 ·exact .of_right (intBits_le_64 h1 h2)
theorem SQ:OpR X (binaryOp .Add) (rI0 λi j=>.int (i+j)):=oG λ_ _ _ _ _ _ _ q=>add_int q
theorem SX:OpR X (binaryOp .Sub) (rI0 λi j=>.int (i - j)):=oG λ_ _ _ _ _ _ _ q=>sub_int q
theorem S5:OpR X (binaryOp .Mult) (rI CMul λi j=>.int (i * j)):=opI λ_ _ _ _ _ _ _ hc q=>mul_int q hc.ok
theorem S6:OpR X (binaryOp .Mod) (rI (λ_ j=>0 < j) λi j=>.int (i % j)):=opI λi j _ _ _ _ _ hc q=>by
 have h1:(0:Int) < j:=hc;exact mod_int' (by omega) (by rw[Int.fmod_eq_emod_of_nonneg i (by omega)];exact q)
theorem S7:OpR X (binaryOp .Pow) (rI oH λi j=>.int (i ^ j.toNat)):=opI λ_ _ _ _ _ _ _ hc q=>pow_int_small hc.1 hc.2.1 hc.2.2 q
theorem S8:OpR X (inplaceOp .Add) (rI0 λi j=>.int (i+j)):=oG λ_ _ _ _ _ _ _ q=>iadd_int q
theorem S9:OpR X (inplaceOp .Sub) (rI0 λi j=>.int (i - j)):=oG λ_ _ _ _ _ _ _ q=>isub_int q
theorem unI{f:Value->Sem Value}{g:Int->Int}
  (rule:∀(i:Int)(t:Tok)(s:Shared)(Q:Value->Shared->Prop)(E:Value->Shared->Prop),Q (.int (g i) s.toks) { s with toks:=s.toks+1 }->wpAny (model X.prog X.w) X.A (f (.int i t)) Q E s):
  UnR X f (rU λi=>.int (g i)):=by
 intro pins s σ H x v Q I rx h;obtain ⟨i,rfl,q⟩:=h;obtain ⟨t,rfl⟩:=rx;exact rule i t s _ _ ⟨.int (g i),H,I.tok _,⟨_,rfl⟩,q⟩
theorem Tc:UnR X (unaryOp .USub) (rU λi=>.int (-i)):=unI λ_ _ _ _ _ q=>neg_int q
end
section
variable {X:Cx} {a b c:Expr} {ta tb tc:TE} {pos:Pos}
theorem yS{pins:List (Addr×Obj)}{σ:St}{H:Hp}{s:Shared}{Q:VK}{k k':Bool}(I:Inv X pins σ H s)(q:Q (.bl k) H)(e:k=k'):EP X pins σ Q (.bool k') s:=by subst e;exact ⟨.bl k,H,I,rfl,q⟩
theorem Td:OpR X (compareOp .Is) (λx y H Q=>y=.non/\Q (.bl (decide (x=.non))) H):=by
 intro pins s σ H x y v u Q I rx ry h;obtain ⟨rfl,q⟩:=h;cases ry;refine is_none_gen (yS I q ?_);cases x <;> first
  | (cases rx;rfl)
  | (obtain ⟨t,rfl⟩:=rx;rfl)
theorem Te:OpR X (compareOp .IsNot) (λx y H Q=>y=.non/\Q (.bl (!decide (x=.non))) H):=by
 intro pins s σ H x y v u Q I rx ry h;obtain ⟨rfl,q⟩:=h;cases ry;refine isnot_none_gen (yS I q ?_);cases x <;> first
  | (cases rx;rfl)
  | (obtain ⟨t,rfl⟩:=rx;rfl)
theorem Tf{op:CmpOp}{r:R2}(ho:OpR X (compareOp op) r)(ha:PE X a ta)(hb:PE X b tb)(hm:behindInMarks op b=false):PE X (.Compare a [op] [b] pos) (tOp r ta tb):=by intro pins s σ H Q I h;exact wpAny_Compare1 (ul ha hb I h λv u s2 x y H2 I2 rx ry q=>ho pins s2 σ H2 x y v u Q I2 rx ry q) hm
def yU(t:TE):TT:=λσ H Q=>t σ H λx H'=>∃k,x=.bl k/\Q k H'
theorem Th{op:CmpOp}{r:R2}(ho:OpR X (compareOp op) r)(ha:PE X a ta)(hb:PE X b tb)(hm:behindInMarks op b=false):PT X (.Compare a [op] [b] pos) (yU (tOp r ta tb)):=by
 intro pins s σ H Q I h;refine wpAny_isTrue_Compare1 (thn (ha pins s σ H _ I h) λv s1 ⟨x,H1,I1,r1,q1⟩=>thn (hb pins s1 σ H1 _ I1 q1) λu s2 ⟨y,H2,I2,r2,q2⟩=>
  thn (ho pins s2 σ H2 x y v u _ I2 r1 r2 q2) λc s3 ⟨z,H3,I3,r3,k,e,q3⟩=>?_) hm
 subst e;cases r3;exact wpAny_truthy_bool ⟨H3,I3,q3⟩
def um(r r':R2)(ta tb tc:TE):TE:=λσ H Q=>ta σ H λx H1=>tb σ H1 λy H2=>r x y H2 λz H3=>∃k,z=.bl k/\
 (if k=true then tc σ H3 λw' H4=>r' y w' H4 Q else Q (.bl false) H3)
theorem Ti{op op':CmpOp}{r r':R2}(ho:OpR X (compareOp op) r)(ho':OpR X (compareOp op') r')(ha:PE X a ta)(hb:PE X b tb)(hc:PE X c tc)
  (hm:lastMarks [op,op'] [b,c]=false:=by with_unfolding_all rfl):PE X (.Compare a [op,op'] [b,c] pos) (um r r' ta tb tc):=by
 intro pins s σ H Q I h;refine Compare_chain (thn (ha pins s σ H _ I h) λv s1 ⟨x,H1,I1,r1,q1⟩=>chain_link (thn (hb pins s1 σ H1 _ I1 q1) λu s2 ⟨y,H2,I2,r2,q2⟩=>
  thn (ho pins s2 σ H2 x y v u _ I2 r1 r2 q2) λd s3 ⟨z,H3,I3,r3,k,e,q3⟩=>?_)) hm
 subst e;cases r3;refine wpAny_truthy_bool ?_;cases k with
 |false=>exact ite_ff ⟨.bl false,H3,I3,rfl,q3⟩
 |true=>exact ite_tt (chain_last (thn (hc pins s3 σ H3 _ I3 q3) λw' s4 ⟨z',H4,I4,r4,q4⟩=>ho' pins s4 σ H4 y z' u w' Q I4 r2 r4 q4))
theorem Tj{op op':CmpOp}{r r':R2}(ho:OpR X (compareOp op) r)(ho':OpR X (compareOp op') r')(ha:PE X a ta)(hb:PE X b tb)(hc:PE X c tc)
  (hm:lastMarks [op,op'] [b,c]=false:=by with_unfolding_all rfl):PT X (.Compare a [op,op'] [b,c] pos) (yU (um r r' ta tb tc)):=by
 intro pins s σ H Q I h;refine isTrue_chain (thn (ha pins s σ H _ I h) λv s1 ⟨x,H1,I1,r1,q1⟩=>test_link (thn (hb pins s1 σ H1 _ I1 q1) λu s2 ⟨y,H2,I2,r2,q2⟩=>
  thn (ho pins s2 σ H2 x y v u _ I2 r1 r2 q2) λd s3 ⟨z,H3,I3,r3,k,e,q3⟩=>?_)) hm
 subst e;cases r3;refine wpAny_truthy_bool ?_;cases k with
 |false=>
  obtain ⟨k',e',q'⟩:=q3;cases e';exact ite_ff ⟨H3,I3,q'⟩
 |true=>
  refine ite_tt (test_last (thn (hc pins s3 σ H3 _ I3 q3) λw' s4 ⟨z',H4,I4,r4,q4⟩=>thn (ho' pins s4 σ H4 y z' u w' _ I4 r2 r4 q4) λd' s5 ⟨z2,H5,I5,r5,k2,e2,q5⟩=>?_));subst e2;cases r5;exact wpAny_truthy_bool ⟨H5,I5,q5⟩
def oJ(K:PySem.W.Frag)(x:V)(H:Hp)(k:Bool):Prop:=
 match x with
 |.non=>k=false
 |.bl b=>k=b
 |.int i=>k=(i != 0)
 |.str y=>y.length<=sizeLine/\k=((y.length:Int) != 0)
 |.byt y=>y.size<=sizeLine/\k=((y.size:Int) != 0)
 |.ref p=>(∃xs,SqL K H p xs/\k=!xs.isEmpty)\/(∃xs,SqT K H p xs/\k=!xs.isEmpty)\/∃kvs,H p=some (.dK kvs)/\k=!kvs.isEmpty
 |_=>False
theorem Tn{κ:Type}{kvs:List (κ×V)}{vs:List (κ×Value)}(r:KV kvs vs):(!vs.isEmpty)=!kvs.isEmpty:=by cases r <;> rfl
theorem yV{xs:List V}{its:List Value}(r:Vals xs its):(!its.toArray.isEmpty)=!xs.isEmpty:=by cases r <;> simp
theorem gk:(sizeLine:Nat) < 2 ^ 63:=by rw[sizeLine_eq];decide
theorem yW:SJ X (λx H Q=>∃k,oJ X.K x H k/\Q k H):=by
 intro pins s σ H x v Q I rx h;obtain ⟨k,e,q⟩:=h;have hl:=gk;have hs:sizeLine=16777216:=sizeLine_eq;cases x with
 |non=>
  cases rx;have e':k=false:=e;subst e';exact truthy_none ⟨H,I,q⟩
 |bl b=>
  cases rx;have e':k=b:=e;subst e';exact wpAny_truthy_bool ⟨H,I,q⟩
 |int i=>
  obtain ⟨t,rfl⟩:=rx;have e':k=(i != 0):=e;subst e';exact PySem.P.truthy_int ⟨H,I,q⟩
 |str y=>
  obtain ⟨t,rfl⟩:=rx;obtain ⟨hy,e'⟩:y.length<=sizeLine/\k=((y.length:Int) != 0):=e;subst e';exact PySem.P.truthy_str (by omega) ⟨H,I.tok _,q⟩
 |byt y=>
  obtain ⟨t,rfl⟩:=rx;obtain ⟨hy,e'⟩:y.size<=sizeLine/\k=((y.size:Int) != 0):=e;subst e';exact PySem.W.truthy_bytes (by omega) ⟨H,I.tok _,q⟩
 |ref p=>
  cases rx;have e':(∃xs,SqL X.K H p xs/\k=!xs.isEmpty)\/(∃xs,SqT X.K H p xs/\k=!xs.isEmpty)\/∃kvs,H p=some (.dK kvs)/\k=!kvs.isEmpty:=e;rcases e' with ⟨xs,hx,e'⟩ |⟨xs,hx,e'⟩ |⟨kvs,hx,e'⟩
  ·subst e';obtain ⟨its,r,pl,hz⟩:=I.list hx;have hlen:=r.length;exact wpAny_truthy_list pl.isList (by simp only[List.size_toArray];omega) ⟨H,I.tok _,by rw[yV r];exact q⟩
  ·subst e';obtain ⟨its,r,pl,hz⟩:=I.tuple hx;have hlen:=r.length;exact truthy_tuple pl (by simp only[List.size_toArray];omega) ⟨H,I.tok _,by rw[yV r];exact q⟩
  ·subst e';obtain ⟨hz,hS,vs,r,m⟩:kvs.length<=sizeLine/\(p==sysModules)=false/\∃vs,KV kvs vs/\s.heap.DictOf (ud X.prog X.w) p vs:=I.hok p _ hx;have hlen:kvs.length=vs.length:=Paired.length r;exact wpAny_truthy_dict hS m (by omega) ⟨H,I.tok _,by rw[Tn r];exact q⟩
 |_=>exact (show False from e).elim
theorem Tp(ha:PE X a ta)(he:∀whole,isTrue a X.env whole=(do let v <-whole;standAt a.pos;holding [v] (truthy v))):
  PT X a (λσ H Q=>ta σ H λx H'=>∃k,oJ X.K x H' k/\Q k H'):=by
 intro pins s σ H Q I h;exact isTrue_plain (thn (ha pins s σ H _ I h) λv s1 ⟨x,H1,I1,r1,q1⟩=>yW pins s1 σ H1 x v Q I1 r1 q1) (he _)
theorem Tq:OpR X (binaryOp .Add) (λx y H Q=>∃i j,x=.str i/\y=.str j/\i.length+j.length<=sizeLine/\Q (.str (i++j)) H):=by intro pins s σ H x y v u Q I rx ry h;obtain ⟨i,j,rfl,rfl,hz,q⟩:=h;obtain ⟨t,rfl⟩:=rx;obtain ⟨t',rfl⟩:=ry;exact add_str (λt' tk=>⟨.str (i++j),H,I.tok _,⟨_,rfl⟩,q⟩) hz
theorem Tt:OpR X (inplaceOp .Add) (λx y H Q=>∃i j,x=.str i/\y=.str j/\i.length+j.length<=sizeLine/\Q (.str (i++j)) H):=by intro pins s σ H x y v u Q I rx ry h;obtain ⟨i,j,rfl,rfl,hz,q⟩:=h;obtain ⟨t,rfl⟩:=rx;obtain ⟨t',rfl⟩:=ry;exact iadd_str (λt' tk=>⟨.str (i++j),H,I.tok _,⟨_,rfl⟩,q⟩) hz
theorem vals1{x:V}{us:List Value}(r:Vals [x] us):∃u,us=[u]/\RelV x u:=by
 cases r with
 |cons r1 r2=>cases r2;exact ⟨_,rfl,r1⟩
theorem vals2{x y:V}{us:List Value}(r:Vals [x,y] us):∃u w',us=[u,w']/\RelV x u/\RelV y w':=by
 cases r with
 |cons r1 r2=>
  cases r2 with
  |cons r3 r4=>cases r4;exact ⟨_,_,rfl,r1,r3⟩
theorem yX:bw X (.type "int") (λxs H Q=>(∃i,xs=[.int i]/\Q (.int i) H)\/∃k,xs=[.bl k]/\Q (.int (if k then 1 else 0)) H):=by
 intro pins s σ H xs us Q I r h;rcases h with ⟨i,rfl,q⟩ |⟨k,rfl,q⟩
 ·obtain ⟨u,rfl,t,rfl⟩:=vals1 r;exact call_int_int ⟨.int i,H,I,⟨_,rfl⟩,q⟩
 ·obtain ⟨u,rfl,r1⟩:=vals1 r;cases r1;exact call_int_bool ⟨.int (if k then 1 else 0),H,I.tok _,⟨_,rfl⟩,q⟩
end
structure ObjM(h:Heap)(x dx C:Addr)(mA:Str->Option Value):Prop where
 obj:h.get? x=some (PySem.W.instObj C dx)
 ns:h.Ns1 dx mA
 ne:dx≠x
theorem Tu{h:Heap}{dx:Addr}{mA:Str->Option Value}(n:h.Ns1 dx mA):∃od,h.get? dx=some od/\∀name,PySem.W.lookIn name od=some (mA name):=by
 obtain ⟨o,es,ep,ho,hd,hk,_,hm⟩:=n;refine ⟨o,ho,λname=>?_⟩;have e:=hm name;unfold nsFind findBy at e;rw[<-Array.find?_toList]at e;unfold PySem.W.lookIn;rw[hd];dsimp only;split
 ·rename_i y q;rw[q]at e;exact congrArg some e
 ·rename_i q;rw[q]at e;have a:es.toList.any (·.refKey)=false:=by
   rw[List.any_eq_false];intro y hy;obtain ⟨z,t,hkey⟩:=hk y (Array.mem_toList_iff.mp hy);simp[DictEntry.refKey,hkey]
  have a':¬es.toList.any (·.refKey)=true:=by rw[a];exact Bool.false_ne_true
  rw[if_neg a'];exact congrArg some e
theorem ObjM.look{h:Heap}{x dx C:Addr}{mA:Str->Option Value}(I:ObjM h x dx C mA):∃od,PySem.W.InstAt h x (PySem.W.instObj C dx) C (some od)/\∀name,PySem.W.lookIn name od=some (mA name):=
 let ⟨od,ho,hl⟩:=Tu I.ns
 ⟨od,⟨I.obj,rfl,rfl,ho⟩,hl⟩
section
variable {P:Program} {w:World} {H H':Hp} {h h':Heap} {a C dx:Addr} {fs fs':List (Str×V)}
theorem Tv(hok:HOk P w H h)(e:H a=some (.ins C dx fs)):∃mA,ObjM h a dx C mA/\(∀f,ue (fs.lookup f) (mA f))/\PySem.Within mA (fs.map (·.1))/\fs.length<=1000/\H dx=some (.own a):=by obtain ⟨d,z,ne,ob,mA,n,r,q⟩:=(show ObjOk P w H h a (.ins C dx fs) from hok a _ e);exact ⟨mA,⟨ob,n,ne⟩,r,q,z,d⟩
end
structure Cls(K:PySem.W.Frag)(C:Addr):Prop where
 pg:PySem.W.plainGet K C Str.empty=true
 hd:PySem.W.hasDictIn K C=true
 po:PySem.W.plainOver K C=true
 sa:PySem.W.findIn K (.ref C) "__setattr__"=some (some (.builtin "object.__setattr__"))
theorem Cls.get{K:PySem.W.Frag}{C:Addr}(c:Cls K C)(f:Str):PySem.W.plainGet K C f=true:=c.pg
section
variable {X:Cx} {pins:List (Addr×Obj)} {σ:St} {H:Hp} {s:Shared} {A:Around} {E:Value->Shared->Prop} {Q:Value->Shared->Prop} {c:Value} {b:Bool}
inductive TyOf (K:PySem.W.Frag) (H:Hp):V->Value->Prop where
 |non:TyOf K H .non (.type "NoneType")
 |bl (x:Bool):TyOf K H (.bl x) (.type "bool")
 |int (i:Int):TyOf K H (.int i) (.type "int")
 |str (x:Str):TyOf K H (.str x) (.type "str")
 |flt (x:UInt64):TyOf K H (.flt x) (.type "float")
 |lst {a:Addr} {xs:List V} (e:H a=some (.lst xs)):TyOf K H (.ref a) (.type "list")
 |frz {a:Addr} {o:Obj} {xs:List V} (e:H a=some (.frz o (.lst xs))):TyOf K H (.ref a) (.type "list")
 |tup {a:Addr} {xs:List V} (e:H a=some (.tup xs)):TyOf K H (.ref a) (.type "tuple")
 |dK {a:Addr} {kvs:List (Key×V)} (e:H a=some (.dK kvs)):TyOf K H (.ref a) (.type "dict")
 |dT {a:Addr} {kvs:List (List Key×V)} (e:H a=some (.dT kvs)):TyOf K H (.ref a) (.type "dict")
 |ins {a C dx:Addr} {fs:List (Str×V)} (e:H a=some (.ins C dx fs)) (cl:Cls K C) (ha:PySem.W.findIn K (.ref C) "__class__"=some (some (.builtin "object.__class__")))
   (hn:PySem.W.specialIn K (.builtin "object.__class__") "__get__"=some (some (.builtin "getset_descriptor.__get__"))) (htk:PySem.W.takesIn K (.builtin "object.__class__")=some true)
   (hm:PySem.W.mroIn K C (.type "object")=some true):TyOf K H (.ref a) (.ref C)
theorem Tw{x:V}{u t:Value}(I:Inv X pins σ H s)(rx:RelV x u)(ty:TyOf X.K H x t)(e:PySem.W.kitOne X.K t c=some b)(h:∀tk,Q (.bool b) { s with toks:=tk }):
  wpAny (model X.prog X.w) A (call (.builtin "isinstance") [u,c]) Q E s:=by
 cases ty with
 |non=>cases (show u=Value.none from rx);exact PySem.W.kia_one PySem.W.kitx_none I.kIn True.intro e (λz=>nomatch z) h
 |bl y=>cases (show u=Value.bool y from rx);exact PySem.W.kia_one PySem.W.kitx_bool I.kIn True.intro e (λz=>nomatch z) h
 |int i=>obtain ⟨t,q⟩:=(show ∃t,u=Value.int i t from rx);cases q;exact PySem.W.kia_one PySem.W.kitx_int I.kIn True.intro e (λz=>nomatch z) h
 |str y=>obtain ⟨t,q⟩:=(show ∃t,u=Value.str y t from rx);cases q;exact PySem.W.kia_one PySem.W.kitx_str I.kIn True.intro e (λz=>nomatch z) h
 |flt y=>obtain ⟨t,q⟩:=(show ∃t,u=Value.float y t from rx);cases q;exact PySem.W.kia_one PySem.W.kitx_float I.kIn True.intro e (λz=>nomatch z) h
 | @lst a xs ea=>
  cases (show u=Value.ref a from rx);obtain ⟨_,_,n,_,h1⟩:=(show ObjOk X.prog X.w H s.heap a (.lst xs) from I.hok a _ ea);exact PySem.W.kia_one PySem.W.kitx_list I.kIn ⟨_,h1,rfl⟩ e (λz=>nomatch z) h
 | @frz a ob xs ea=>
  cases (show u=Value.ref a from rx);obtain ⟨_,_,_,n,_,h1⟩:=(show ObjOk X.prog X.w H s.heap a (.frz ob (.lst xs)) from I.hok a _ ea);exact PySem.W.kia_one PySem.W.kitx_list I.kIn ⟨_,h1,rfl⟩ e (λz=>nomatch z) h
 | @tup a xs ea=>
  cases (show u=Value.ref a from rx);obtain ⟨_,_,_,p⟩:=(show ObjOk X.prog X.w H s.heap a (.tup xs) from I.hok a _ ea);obtain ⟨o,h1,h2,_⟩:=p;exact PySem.W.kia_one PySem.W.kitx_tuple I.kIn ⟨o,h1,h2⟩ e (λz=>nomatch z) h
 | @dK a kvs ea=>
  cases (show u=Value.ref a from rx);obtain ⟨_,_,vs,_,p⟩:=(show ObjOk X.prog X.w H s.heap a (.dK kvs) from I.hok a _ ea);obtain ⟨o,es,ep,h1,h2,_⟩:=p;exact PySem.W.kia_one PySem.W.kitx_dict I.kIn ⟨o,h1,h2.1⟩ e (λz=>nomatch z) h
 | @dT a kvs ea=>
  cases (show u=Value.ref a from rx);obtain ⟨_,_,xs,_,o,es,ep,h1,h2,_⟩:=(show ObjOk X.prog X.w H s.heap a (.dT kvs) from I.hok a _ ea);exact PySem.W.kia_one PySem.W.kitx_dict I.kIn ⟨o,h1,h2.1⟩ e (λz=>nomatch z) h
 | @ins a C dx fs ea cl ha hn htk hm=>
  cases (show u=Value.ref a from rx);obtain ⟨mA,O,_⟩:=Tv I.hok ea;obtain ⟨od,J,_⟩:=O.look;exact PySem.W.kia_one (PySem.W.kitx_own (cl.get _) cl.hd ha hn htk hm) I.kIn J e (λz=>nomatch z) h
end
structure Room(k:Nat)(A:Around):Prop where
 hd:A.handled=none
 dp:A.depth+3 * k+5 < recursionLimit
 un:A.units+16 * k+200 < cLine
theorem Room.mono{j k:Nat}{A:Around}(r:Room k A)(h:j<=k):Room j A:=⟨r.hd,by have:=r.dp;omega,by have:=r.un;omega⟩
theorem Room.deeper{k:Nat}{A:Around}(r:Room (k+1) A)(env:Env):Room k (A.deeper env):=
 ⟨r.hd,by have:=r.dp;show A.depth+1+3 * k+5 < _;omega,by have:=r.un;show A.units+3+16 * k+200 < _;omega⟩
theorem Room.depth{k:Nat}{A:Around}(r:Room k A):A.depth < recursionLimit:=by have:=r.dp;omega
def Tz:TA:=λ_ H Q=>Q [] H
def TF(ta:TE)(tr:TA):TA:=λσ H Q=>ta σ H λx H1=>tr σ H1 λxs H2=>Q (x::xs) H2
section
variable {X:Cx} {e:Expr} {es:List Expr} {te:TE} {t:TA} {pos:Pos}
theorem eQ:PA X [] Tz:=λ_ _ _ _ H Q I h=>Calls.spliced_nil ⟨[],H,I,.nil,h⟩
theorem dY(ha:PE X e te)(hr:PA X es t)(hs:starEach (e::es) X.env=(false,eval e X.env)::starEach es X.env:=by rfl):PA X (e::es) (TF te t):=by intro pos pins s σ H Q I h;rw[hs];show wpAny _ _ (spliced ((false,eval e X.env)::backTo pos (starEach es X.env))) _ _ s;refine Calls.spliced_cons (thn (ha pins s σ H _ I h) λu s1 ⟨x,H1,I1,r1,q1⟩=>?_);exact thn (hr pos pins s1 σ H1 _ I1 q1) λus s2 ⟨xs,H2,I2,r2,q2⟩=>⟨x::xs,H2,I2,.cons r1 r2,q2⟩
def TQ(t:TA):TE:=λσ H Q=>t σ H λxs H1=>xs.length<=sizeLine/\∀p,H1 p=none->Q (.ref p) (upd H1 p (.tup xs))
def TV(t:TA):TE:=λσ H Q=>t σ H λxs H1=>xs.length<=sizeLine/\∀p,H1 p=none->Q (.ref p) (upd H1 p (.lst xs))
theorem TX{x1}(h:PA X es t):PE X (.Tuple es x1 pos) (TQ t):=by intro pins s σ H Q I hq;refine wpAny_Tuple_spliced (thn (h pos pins s σ H _ I hq) λus s1 ⟨xs,H1,I1,r,z,q⟩=>⟨by rw[<-r.length];exact z,?_⟩);have hf:H1 s1.heap.objs.size=none:=I1.hok.fresh (Nat.le_refl _);refine ⟨.ref s1.heap.objs.size,upd H1 s1.heap.objs.size (.tup xs),I1.laid (t':=s1.toks) (λb u e=>Heap.get?_push_of_some _ e) (Nat.le_refl _) ?_,rfl,q _ hf⟩;exact ⟨z,us,r,⟨_,Heap.get?_push_size _ rfl,rfl,_,rfl⟩⟩
theorem TY(h:PA X es t):PE X (.List es pos) (TV t):=by intro pins s σ H Q I hq;refine wpAny_List_spliced (thn (h pos pins s σ H _ I hq) λus s1 ⟨xs,H1,I1,r,z,q⟩=>⟨by rw[<-r.length];exact z,?_⟩);have hf:H1 s1.heap.objs.size=none:=I1.hok.fresh (Nat.le_refl _);refine ⟨.ref s1.heap.objs.size,upd H1 s1.heap.objs.size (.lst xs),I1.laid (t':=s1.toks) (λb u e=>Heap.get?_push_of_some _ e) (Nat.le_refl _) ?_,rfl,q _ hf⟩;exact ⟨z,us,0,r,Heap.get?_push_size _ rfl⟩
end
abbrev Sp:=List V->Hp->VK->XK->Prop
abbrev CXT:=List Env->Hp->Shared->XK->Value->Shared->Prop
structure Env0(P:Program)(w:World)(K:PySem.W.Frag)(mg:Str->Option Value)(base:Heap)(A:Around)(outer:List Env)(s:Shared)(H:Hp):Prop where
 frames:A.frames=some outer
 mod:Mod K mg base
 bs:∀b o,base.get? b=some o->s.heap.get? b=some o/\H b=none
 bsz:base.objs.size<=s.heap.objs.size
 funs:s.heap.FunFrames base outer
 frf:∀b∈frs outer,H b=none
 hok:HOk P w H s.heap
 bare:AllBare s.gens
def CE(outer:List Env)(P:Program)(w:World)(H:Hp)(s:Shared)(Q:VK)(u:Value)(s':Shared):Prop:=
 ∃v H',s'.os=s.os/\AllBare s'.gens/\Un (frs outer) [] H H' s.heap s'.heap/\HOk P w H' s'.heap/\RelV v u/\Q v H'
def CR(CX:CXT)(outer:List Env)(P:Program)(w:World)(H:Hp)(s:Shared)(Q:VK)(E:XK)(r:Result)(s':Shared):Prop:=
 match r with
 |.ok (.ret u)=>CE outer P w H s Q u s'
 |.ok _=>False
 |.error e=>CX outer H s E e s'
structure FnOk(P:Program)(w:World)(K:PySem.W.Frag)(mg:Str->Option Value)(base:Heap)(CX:CXT)(k:Nat)(f:Addr)(fd:FuncData)(ps:List Str)(sp:Sp):Prop where
 len:∀vs H Q E,sp vs H Q E->vs.length=ps.length
 run:∀(A:Around)(outer:List Env)(s:Shared)(H:Hp)(args:Args)(us:List Value)(vs:List V)(Q:VK)(E:XK),Room k A->Env0 P w K mg base A outer s H->BindsTo s fd args (ps.zip us)->Vals vs us->sp vs H Q E->
  codeAny (model P w) A (.call (.ref f) args) (CR CX outer P w H s Q E) s
theorem FnOk.mono{P:Program}{w:World}{K:PySem.W.Frag}{mg:Str->Option Value}{base:Heap}{CX:CXT}{j k:Nat}{f:Addr}{fd:FuncData}{ps:List Str}{sp:Sp}(F:FnOk P w K mg base CX j f fd ps sp)(h:j<=k):
  FnOk P w K mg base CX k f fd ps sp:=⟨F.len,λA outer s H args us vs Q E hr=>F.run A outer s H args us vs Q E (hr.mono h)⟩
theorem FnOk.imp{P:Program}{w:World}{K:PySem.W.Frag}{mg:Str->Option Value}{base:Heap}{CX:CXT}{k:Nat}{f:Addr}{fd:FuncData}{ps:List Str}{sp sp':Sp}(F:FnOk P w K mg base CX k f fd ps sp)
  (h:∀vs H Q E,sp' vs H Q E->sp vs H Q E):FnOk P w K mg base CX k f fd ps sp':=
 ⟨λvs H Q E q=>F.len vs H Q E (h _ _ _ _ q),λA outer s H args us vs Q E hr he hb hv hs=>F.run A outer s H args us vs Q E hr he hb hv (h _ _ _ _ hs)⟩
section
variable {X:Cx} {pins:List (Addr×Obj)} {σ:St} {H:Hp} {s s':Shared}
theorem Inv.env0(I:Inv X pins σ H s):Env0 X.prog X.w X.K X.mg X.base X.A X.stack s H:=
 ⟨I.ok.frames,I.ok.mod,I.bs,Nat.le_trans I.ok.bsz I.sz,I.stack,I.stkFree,I.hok,I.bare⟩
theorem Inv.after{Q:VK}{u:Value}(I:Inv X pins σ H s)(h:CE X.stack X.prog X.w H s Q u s'):EP X pins σ Q u s':=by obtain ⟨v,H',os,bare,un,hok,r,q⟩:=h;obtain ⟨hh,g,d,t,os'⟩:=s';obtain rfl:os'=s.os:=os;exact ⟨v,H',I.call (h':=hh) (g':=g) (d':=d) (t':=t) (ch:=[]) un hok bare (λb z=>absurd z (by simp)),r,q⟩
end
def T3(sp:Sp)(dvs:List V)(E:XK)(t:TA):TE:=λσ H Q=>t σ H λvs H1=>sp (vs++dvs) H1 Q E
def Binds(K:PySem.W.Frag)(fd:FuncData)(ps:List Str)(ds:List Value):Prop:=
 ∀(s:Shared)(us:List Value),K.In s.heap->(us++ds).length=ps.length->BindsTo s fd ⟨us,[]⟩ (ps.zip (us++ds))
theorem Binds.all{K:PySem.W.Frag}{fd:FuncData}{ps:List Str}(h:∀us:List Value,us.length=ps.length->bindArgs fd ⟨us,[]⟩=pure (ps.zip us)):Binds K fd ps []:=λs us _ hl=>by
 rw[List.append_nil]at hl ⊢;exact .of_eq (h us hl)
def jn(CX:CXT)(X:Cx)(E:XK):Prop:=∀(pins:List (Addr×Obj))(σ:St)(H:Hp)(s:Shared)(e:Value)(s':Shared),Inv X pins σ H s->CX X.stack H s E e s'->X.xe e s'
section
variable {X:Cx} {CX:CXT} {k:Nat} {f C:Addr} {fd:FuncData} {ps:List Str} {sp:Sp} {dvs:List V} {ds:List Value} {E:XK} {x m:Str} {p pos apos:Pos} {e o:Expr} {es:List Expr} {ta:TE} {t:TA}
theorem T4{pins:List (Addr×Obj)}{σ:St}{H:Hp}{s:Shared}{Q:VK}{us:List Value}{vs:List V}(F:FnOk X.prog X.w X.K X.mg X.base CX k f fd ps sp)(hr:Room k X.A)(hb:Binds X.K fd ps ds)(hd:Vals dvs ds)(hx:jn CX X E)
  (I:Inv X pins σ H s) (r:Vals vs us) (h:sp (vs++dvs) H Q E):wpAny (model X.prog X.w) X.A (call (.ref f) us) (EP X pins σ Q) X.xe s:=by
 have r2:Vals (vs++dvs) (us++ds):=r.append hd;have hl:(us++ds).length=ps.length:=by rw[<-r2.length];exact F.len _ _ _ _ h
 refine wpAny_call (codeAny_mono (F.run X.A X.stack s H ⟨us,[]⟩ (us++ds) (vs++dvs) Q E hr I.env0 (hb s us I.kIn hl) r2 h) λr s' hq=>?_);cases r with
 |error e=>exact hx pins σ H s e s' I hq
 |ok fl=>
  cases fl with
  |ret u=>exact I.after hq
  |next=>exact False.elim hq
  |brk=>exact False.elim hq
  |cont=>exact False.elim hq
theorem T5(F:FnOk X.prog X.w X.K X.mg X.base CX k f fd ps sp)(hr:Room k X.A)(hg:Gl X x)(hm:X.mg x=some (.ref f))(hk:PySem.W.keepIn X.K (.ref f)=true)(hb:Binds X.K fd ps ds)(hd:Vals dvs ds)(hx:jn CX X E)
  (ha:PA X (e::es) t) (hdb:(x==("__debug__":Str))=false:=by decide) (he:starEach (e::es) X.env=(false,eval e X.env)::starEach es X.env:=by rfl) (hpl:(backTo pos (starEach es X.env)).any (·.1)=false:=by rfl):
  PE X (.Call (.Name x p) (e::es) [] pos) (T3 sp dvs E t):=by
 intro pins s σ H Q I h;refine wpAny_Call_Name_kw (uf I hg hm ?_ hdb);refine PySem.W.callWith_K (h₀:=X.base) I.ok.mod.kin hk (thn (ha pos pins s σ H _ I h) λus s1 ⟨vs,H1,I1,r,q⟩=>⟨I1.kIn,?_⟩) he hpl;exact T4 F hr hb hd hx I1 r q
end
structure FnScope(N P:List Str)(sc:Scope):Prop where
 kind:sc.kind=.function
 co:sc.isCoroutine=false
 gen:sc.isGenerator=false
 nd:N.Nodup
 pre:N.take P.length=P
 par:∀x∈P,sc.names.lookup x=some .local\/sc.names.lookup x=some .cell
 nofree:∀y∈sc.names,y.2≠.free
theorem yZ{kindOf:Str->Option NameKind}{x:Str}:∀{binds:List (Str×Value)}{m:Str->Option Value},(∀v,(x,v)∉binds)->bindL kindOf binds m x=m x
 |[],_,_=>rfl
 | (n,v)::r,m,h=>by
  unfold bindL;rw[yZ λw hw=>h w (List.mem_cons_of_mem _ hw)];split
  ·have:x≠n:=by rintro rfl;exact h v List.mem_cons_self
   simp[this]
  ·rfl
theorem za{kindOf:Str->Option NameKind}{x:Str}:∀{binds:List (Str×Value)}{m:Str->Option Value},(∀v,(x,v)∉binds)->bindC kindOf binds m x=m x
 |[],_,_=>rfl
 | (n,v)::r,m,h=>by
  unfold bindC;rw[za λw hw=>h w (List.mem_cons_of_mem _ hw)];split
  ·rfl
  ·have:x≠n:=by rintro rfl;exact h v List.mem_cons_self
   simp[this]
theorem zb{kindOf:Str->Option NameKind}{x:Str}{v:Value}:∀{P:List Str}{vs:List Value}{i:Nat}{m:Str->Option Value},P.Nodup->P[i]?=some x->vs[i]?=some v->kindOf x=some .local->
  bindL kindOf (P.zip vs) m x=some v
 |[],_,_,_,_,h,_,_=>by simp at h
 |_::_,[],_,_,_,_,h,_=>by simp at h
 |p::P,w::vs,0,m,nd,h1,h2,hk=>by
  simp at h1 h2;subst h1;subst h2;show bindL kindOf ((p,w)::P.zip vs) m p=_;unfold bindL;rw[yZ λv hv=>(List.nodup_cons.mp nd).1 (List.of_mem_zip hv).1,if_pos hk];simp
 |p::P,w::vs,i+1,m,nd,h1,h2,hk=>by
  show bindL kindOf ((p,w)::P.zip vs) m x=_;unfold bindL;exact zb (i:=i) (List.nodup_cons.mp nd).2 (by simpa using h1) (by simpa using h2) hk
theorem zc{kindOf:Str->Option NameKind}{x:Str}{v:Value}:∀{P:List Str}{vs:List Value}{i:Nat}{m:Str->Option Value},P.Nodup->P[i]?=some x->vs[i]?=some v->kindOf x≠some .local->
  bindC kindOf (P.zip vs) m x=some v
 |[],_,_,_,_,h,_,_=>by simp at h
 |_::_,[],_,_,_,_,h,_=>by simp at h
 |p::P,w::vs,0,m,nd,h1,h2,hk=>by
  simp at h1 h2;subst h1;subst h2;show bindC kindOf ((p,w)::P.zip vs) m p=_;unfold bindC;rw[za λv hv=>(List.nodup_cons.mp nd).1 (List.of_mem_zip hv).1,if_neg hk];simp
 |p::P,w::vs,i+1,m,nd,h1,h2,hk=>by
  show bindC kindOf ((p,w)::P.zip vs) m x=_;unfold bindC;exact zc (i:=i) (List.nodup_cons.mp nd).2 (by simpa using h1) (by simpa using h2) hk
def start(N:List Str)(vs:List V):St:=vs.map some++List.replicate (N.length - vs.length) none
def dh(CX:CXT)(P:Program)(w:World)(K:PySem.W.Frag)(mg:Str->Option Value)(base:Heap)(N:List Str)(qual:Str)(scope:Scope)(f:Addr)(cd:Value)(A:Around)(outer:List Env)(s:Shared)(H:Hp)(E:XK):Cx where
 prog:=P
 w:=w
 K:=K
 mg:=mg
 base:=base
 A:=A.deeper (envOfC qual scope s.heap.objs.size f cd)
 N:=N
 s₀:=s
 H₀:=H
 env:=envOfC qual scope s.heap.objs.size f cd
 outer:=outer
 stack:=envOfC qual scope s.heap.objs.size f cd::outer
 ex:=[]
 calm:=true
 fn:=λ_=>true
 pn:=[]
 xe:=λe s'=>wpAny (model P w) (A.deeper (envOfC qual scope s.heap.objs.size f cd)) (leaving (envOfC qual scope s.heap.objs.size f cd) e) (λ_ s''=>CX outer H s E e s'') (λe' s''=>CX outer H s E e' s'') s'
theorem zf{sc:Scope}{n:Nat}{x:Str}(h:sc.names.lookup x=some .cell):∃c,(cellsFrom n sc.names []).lookup x=some c:=by have q:=PySem.W.cellsFrom_some sc.names n [] (.inl h);exact Option.isSome_iff_exists.mp q
theorem zg{CX:CXT}{P:Program}{w:World}{K:PySem.W.Frag}{mg:Str->Option Value}{base:Heap}{N ps:List Str}{qual:Str}{scope:Scope}{f:Addr}{cd:Value}{A:Around}{outer:List Env}{s s1:Shared}{H:Hp}{E:XK}{us:List Value}{vs:List V}
  (S:FnScope N ps scope) (hd:A.handled=none) (e0:Env0 P w K mg base A outer s H) (hl:vs.length=ps.length) (r:Vals vs us)
  (x:InCallC s s.heap.objs.size (bindL (envOfC qual scope s.heap.objs.size f cd).kindOf (ps.zip us) λ_=>none) (cellsFrom (s.heap.objs.size+1) scope.names []) (bindC (envOfC qual scope s.heap.objs.size f cd).kindOf (ps.zip us) λ_=>none) s1):
  Inv (dh CX P w K mg base N qual scope f cd A outer s H E) [] (start N vs) H s1:=by
 have hpl:ps.length<=N.length:=by have:=congrArg List.length S.pre;rw[List.length_take]at this;omega
 obtain ⟨h1,tk,rfl,hk⟩:=x.done;have noA:∀b:Addr,b∉(dh CX P w K mg base N qual scope f cd A outer s H E).ex:=λb z=>absurd (show b∈([]:List Addr) from z) (by simp);refine ⟨⟨e0.mod,S.kind,rfl,rfl,Nat.le_refl _,λy z c h1 h2=>?_,λy hy=>?_,λy c _ h=>?_,λ_=>hd,Around.frames_deeper e0.frames,.inr ⟨rfl,rfl⟩,λb z=>absurd z (noA b),e0.bs,e0.bsz,λb _ _=>noA b,λb z=>absurd z (noA b),e0.funs,e0.frf⟩,
  rfl,e0.bare,Un.kept hk,⟨_,x.toInCall.ns,λi y v h1 h2 h3=>?_⟩,λy c h=>⟨_,x.cell y c h⟩,e0.hok.fresh (Nat.le_refl _),λy c h=>?_,λp hp=>absurd (show p∈([]:List (Addr×Obj)) from hp) (by simp),e0.hok.kept hk,?_⟩
 ·exact name_of_addr x.apart (PySem.mem_of_lookup h1) (PySem.mem_of_lookup h2)
 ·have hy:scope.names.lookup y=some .cell\/scope.names.lookup y=some .free:=hy;rcases hy with hy |hy
  ·exact zf hy
  ·exact absurd rfl (S.nofree _ (PySem.mem_of_lookup hy))
 ·exact Nat.le_of_lt (x.above y c (PySem.mem_of_lookup h))
 ·have hi:i < vs.length:=by
   unfold start at h2;by_cases hi:i < vs.length
   ·exact hi
   ·rw[List.getElem?_append_right (by simpa using hi)]at h2;rw[List.getElem?_replicate]at h2;split at h2 <;> cases h2
  have ha:vs[i]?=some v:=by
   unfold start at h2;rw[List.getElem?_append_left (by simpa using hi),List.getElem?_map]at h2;cases e:vs[i]? with
   |none=>rw[e]at h2;cases h2
   |some a=>rw[e]at h2;cases h2;rfl
  obtain ⟨u,hu,rv⟩:=r.get ha;have hp:ps[i]?=some y:=by rw[<-S.pre,List.getElem?_take_of_lt (by omega)];exact h1
  have ndP:ps.Nodup:=by rw[<-S.pre];exact S.nd.sublist (List.take_sublist _ _)
  refine ⟨u,rv,?_⟩;rcases S.par y (List.mem_of_getElem? hp) with k |k
  ·exact .inl ⟨k,zb ndP hp hu k⟩
  ·obtain ⟨c,e⟩:=zf (n:=s.heap.objs.size+1) k;refine .inr ⟨.inl k,c,e,?_⟩;have q:=x.cell y c e;rw[zc ndP hp hu (by show scope.names.lookup y≠_;rw[k];decide)]at q;exact q
 ·exact e0.hok.fresh (Nat.le_of_lt (x.above y c (PySem.mem_of_lookup h)))
 ·unfold start;show _=N.length;rw[List.length_append,List.length_map,List.length_replicate];omega
theorem T6{CX:CXT}{P:Program}{w:World}{K:PySem.W.Frag}{mg:Str->Option Value}{base:Heap}{k:Nat}{f:Addr}{name qual:Str}{params:Arguments}{body:List Stmt}{scope:Scope}{dV kV doc pm cdv ct oc:Value}{an od:Option Addr}
  {osl:Array (Option Value)} {N ps:List Str} {sp:Sp} (lk:K.lookup f=some ⟨oc,od,.func (PySem.W.fnOf name qual params body scope dV kV doc pm an cdv ct),osl⟩) (hcd:PySem.W.codeIn K cdv qual=true) (S:FnScope N ps scope)
  (len:∀vs H Q E,sp vs H Q E->vs.length=ps.length)
  (hbody:∀(A:Around)(outer:List Env)(s:Shared)(H:Hp)(vs:List V)(Q:VK)(E:XK),Room k (A.deeper (envOfC qual scope s.heap.objs.size f cdv))->sp vs H Q E->
   ∃t,PSs (dh CX P w K mg base N qual scope f cdv A outer s H E) body t/\t { nx:=λ_ H'=>Q .non H',rt:=Q } (start N vs) H):
  FnOk P w K mg base CX (k+1) f (PySem.W.fnOf name qual params body scope dV kV doc pm an cdv ct) ps sp:=by
 refine ⟨len,λA outer s H args us vs Q E hr e0 hb r hsp=>?_⟩;have hl:=len _ _ _ _ hsp;have KX:K.In s.heap:=e0.mod.kin.keeps λb o e=>(e0.bs b o e).1;have lim:s.heap.NoLimit:=e0.mod.nolimit.keeps λb o e=>(e0.bs b o e).1;have hkind:∀y∈ps.zip us,scope.names.lookup y.1=some .local\/(scope.names.lookup y.1=some .cell/\((cellsFrom (s.heap.objs.size+1) scope.names []).lookup y.1).isSome=true):=λ⟨n,v⟩ hy=>by
  rcases S.par n (List.of_mem_zip hy).1 with q |q
  ·exact .inl q
  ·exact .inr ⟨q,PySem.W.cellsFrom_some _ _ _ (.inl q)⟩
 refine codeAny_call_function hr.depth (KX _ _ lk) rfl S.co S.gen rfl (PySem.W.codeRec_of KX hcd) (hb _ _ _ _ ?_);refine wpAny_newFunctionEnv_cells S.kind hkind λenv he s1 x=>?_;subst he;refine ⟨lim.keeps x.toInCall.keep,codeAny_func ?_⟩;obtain ⟨t,ht,hq⟩:=hbody A outer s H vs Q E (hr.deeper _) hsp;have I:Inv (dh CX P w K mg base N qual scope f cdv A outer s H E) [] (start N vs) H s1:=zg S hr.hd e0 hl r x;refine wpAny_mono (ht [] s1 (start N vs) H _ I hq) (λfl s' hs=>?_) λe s' hs=>hs;have fin:∀{σ':St}{H':Hp}{v:V}{u:Value},Inv (dh CX P w K mg base N qual scope f cdv A outer s H E) [] σ' H' s'->RelV v u->Q v H'->CE outer P w H s Q u s':=
  λ{σ' H' v u} J rv q=>⟨v,H',J.os,J.bare,J.base,J.hok,rv,q⟩
 cases fl with
 |ret u=>
  obtain ⟨v,σ',H',J,rv,q⟩:=hs;exact fin J rv q
 |next=>
  obtain ⟨σ',H',J,q⟩:=hs;exact fin (v:=V.non) (u:=Value.none) J rfl q
 |brk=>
  obtain ⟨_,_,_,q⟩:=hs;exact False.elim q
 |cont=>
  obtain ⟨_,_,_,q⟩:=hs;exact False.elim q
section
variable {X:Cx} {x:Str} {p pos:Pos} {e:Expr} {es:List Expr} {t:TA} {id T:String} {r:List V->Hp->VK->Prop}
def tCB(r:List V->Hp->VK->Prop)(t:TA):TE:=λσ H Q=>t σ H λvs H1=>r vs H1 Q
theorem jo (hc:bw X (.builtin id) r) (hg:Gl X x) (hm:X.mg x=none) (hv:bootBuiltins x=some (.builtin id)) (ha:PA X (e::es) t) (hn:x≠"__name__":=by decide) (hdb:(x==("__debug__":Str))=false:=by decide)
  (he:starEach (e::es) X.env=(false,eval e X.env)::starEach es X.env:=by rfl) (hpl:(backTo pos (starEach es X.env)).any (·.1)=false:=by rfl):PE X (.Call (.Name x p) (e::es) [] pos) (tCB r t):=by
 intro pins s σ H Q I h;refine wpAny_Call_Name_kw (gj I hg hm hv ?_ hn hdb);exact PyProof.Rows.callWith_builtin1 (thn (ha pos pins s σ H _ I h) λus s1 ⟨vs,H1,I1,r1,q1⟩=>hc pins s1 σ H1 vs us Q I1 r1 q1) he hpl
theorem ik (hc:bw X (.type T) r) (hg:Gl X x) (hm:X.mg x=none) (hv:bootBuiltins x=some (.type T)) (ha:PA X (e::es) t) (hn:x≠"__name__":=by decide) (hdb:(x==("__debug__":Str))=false:=by decide)
  (he:starEach (e::es) X.env=(false,eval e X.env)::starEach es X.env:=by rfl) (hpl:(backTo pos (starEach es X.env)).any (·.1)=false:=by rfl):PE X (.Call (.Name x p) (e::es) [] pos) (tCB r t):=by
 intro pins s σ H Q I h;refine wpAny_Call_Name_kw (gj I hg hm hv ?_ hn hdb);exact PyProof.Rows.callWith_type1 (thn (ha pos pins s σ H _ I h) λus s1 ⟨vs,H1,I1,r1,q1⟩=>hc pins s1 σ H1 vs us Q I1 r1 q1) he hpl
end
end L2
namespace HT
open PySem PyProof.Rows
section
variable {prog:Program} {w:World} {A:Around} {E:Value->Shared->Prop} {s:Shared}
theorem T7{t b:Addr}{vs ws:List Value}{Q:Value->Shared->Prop}(ht:IsTup s.heap t vs.toArray)(hb:IsTup s.heap b ws.toArray)(hv:vs≠[])
  (h1:ws=[]->Q (.ref t) s) (h2:ws≠[]->Q (.ref s.heap.objs.size) { s with heap:=s.heap.push { cls:=.type "tuple",data:=.seq (vs++ws).toArray } })
  (hsz:vs.length+ws.length<=sizeLine):wpAny (model prog w) A (binaryOp .Add (.ref t) (.ref b)) Q E s:=by
 obtain ⟨⟨cls,dd,data,sl⟩,ho,hc,n,hd⟩:=id ht;obtain ⟨⟨cls2,dd2,data2,sl2⟩,ho2,hc2,n2,hd2⟩:=id hb;simp only at hc hd hc2 hd2;subst hc hd hc2 hd2;have e:vs.toArray++ws.toArray=(vs++ws).toArray:=by simp
 by_cases hw:ws=[]
 ·exact concat_meets ⟨_,ho,rfl⟩ ⟨_,ho2,rfl⟩ noFill_tuple_add seq_tuple_add PySem.F.slot_tuple_add PySem.F.entry_tuple_add (PySem.F.args_tuple_add_2 _ _)
   (tuple_addW1 t b vs.toArray ws.toArray n n2 dd dd2 sl sl2 (by simpa using hv) (by simp[hw])) ⟨ho,ho2,h1 hw⟩
 ·refine concat_meets ⟨_,ho,rfl⟩ ⟨_,ho2,rfl⟩ noFill_tuple_add seq_tuple_add PySem.F.slot_tuple_add PySem.F.entry_tuple_add (PySem.F.args_tuple_add_2 _ _)
   (tuple_addW2 t b vs.toArray ws.toArray n n2 dd dd2 sl sl2 (by simpa using hv) (by simpa using hw) (by rw[List.size_toArray,List.size_toArray];exact hsz)) ⟨ho,ho2,?_⟩
  rw[e];exact h2 hw
def sIx(n d:Nat):Option Int->Nat
 |none=>d
 |some v=>if v < 0 then (v+(n:Int)).toNat else min v.toNat n
theorem zj(n d k:Nat):sIx n d (some (k:Int))=min k n:=by show (if (k:Int) < 0 then ((k:Int)+(n:Int)).toNat else min (k:Int).toNat n)=min k n;rw[if_neg (by omega),Int.toNat_natCast]
theorem zm(n d:Nat)(hd:d<=n)(o:Option Int):sIx n d o<=n:=by
 cases o with
 |none=>exact hd
 |some v=>
  show (if v < 0 then (v+(n:Int)).toNat else min v.toNat n)<=n;by_cases hv:v < 0
  ·rw[if_pos hv];omega
  ·rw[if_neg hv];exact Nat.min_le_right _ _
theorem zp(v:Int)(n d:Nat):(if v < 0 then max (v+(n:Int)) 0 else min v (n:Int))=((sIx n d (some v):Nat):Int):=by
 show (if v < 0 then max (v+(n:Int)) 0 else min v (n:Int))=(((if v < 0 then (v+(n:Int)).toNat else min v.toNat n):Nat):Int);by_cases hv:v < 0
 ·simp only[if_pos hv];omega
 ·simp only[if_neg hv];omega
theorem T8(lo hi:Option Int)(n:Nat):Builtin.Slice.sliceAdjust lo hi 1 (n:Int)=(((sIx n 0 lo:Nat):Int),((sIx n n hi:Nat):Int)):=by
 have h1:¬((1:Int) < 0):=by omega
 unfold Builtin.Slice.sliceAdjust;simp only[h1,if_false];refine Prod.ext ?_ ?_
 ·cases lo with
  |none=>rfl
  |some v=>exact zp v n 0
 ·cases hi with
  |none=>rfl
  |some v=>exact zp v n n
theorem T9(i j:Nat):Builtin.Slice.slicePlaces (i:Int) (j:Int) 1=j - i:=by
 unfold Builtin.Slice.slicePlaces;have h1:(1:Int) > 0:=by omega
 simp only[h1,if_true,Int.ediv_one];split <;> omega
theorem zq{v:Value}{o:Option Int}{Q:Option Int->Shared->Prop}(p:IsPart v o)(h:Q o s):wpAny (model prog w) A (Builtin.Slice.slicePartIndex v) Q E s:=by
 cases p with
 |none=>exact slicePart_none h
 |int i t=>exact slicePart_int h
theorem zr{sl:Addr}{vl vu:Value}{lo hi:Option Int}{n:Nat}{Q:Int×Int×Nat->Shared->Prop}(hs:s.heap.IsSliceOf sl vl vu .none)(pl:IsPart vl lo)(pu:IsPart vu hi)
  (h:Q (((sIx n 0 lo:Nat):Int),1,sIx n n hi - sIx n 0 lo) s):wpAny (model prog w) A (Builtin.Slice.sliceApplied (.ref sl) (pure (n:Int))) Q E s:=by
 obtain ⟨os,hos,hcs,hds⟩:=id hs;unfold Builtin.Slice.sliceApplied Builtin.Slice.sliceFields;refine wpAny_bind (wpAny_bind (wpAny_field hos hds (x:=vl) rfl (wpAny_bind (wpAny_field hos hds (x:=vu) rfl (wpAny_bind (wpAny_field hos hds (x:=.none) rfl (wpAny_pure ?_)))))));refine wpAny_bind (slicePart_none ?_);show wpAny _ _ (if ((1:Int)==0)=true then _ else _) _ _ s;rw[if_neg (by decide)];refine wpAny_bind (zq pl (wpAny_bind (zq pu (wpAny_bind (wpAny_pure ?_)))));show wpAny _ _ (match Builtin.Slice.sliceAdjust lo hi 1 (n:Int) with | (lo,hi)=>pure (lo,(1:Int),Builtin.Slice.slicePlaces lo hi 1)) _ _ s;rw[T8 lo hi n];show wpAny _ _ (pure (((sIx n 0 lo:Nat):Int),(1:Int),Builtin.Slice.slicePlaces ((sIx n 0 lo:Nat):Int) ((sIx n n hi:Nat):Int) 1)) _ _ s;rw[T9];exact wpAny_pure h
theorem Ua(xs:Array Value)(i k:Nat):((List.range k).filterMap λ(m:Nat)=>xs[((i:Int)+(m:Int) * 1).toNat]?).toArray=((xs.toList.drop i).take k).toArray:=by
 have e:(λ(m:Nat)=>xs[((i:Int)+(m:Int) * 1).toNat]?)=λm=>xs[i+m]?:=by
  funext m;have:((i:Int)+(m:Int) * 1).toNat=i+m:=by omega
  rw[this]
 rw[e];have:=pick_run xs i k;rw[List.filterMap_map]at this;have e2:((λx=>xs[x]?)∘λx=>i+x)=λm=>xs[i+m]?:=rfl;rw[e2]at this;rw[this]
theorem Ub{t sl:Addr}{items:Array Value}{vl vu:Value}{lo hi:Option Int}{Q:Value->Shared->Prop}(ht:IsTup s.heap t items)(hs:s.heap.IsSliceOf sl vl vu .none)(pl:IsPart vl lo)(pu:IsPart vu hi)
  (hw:¬(sIx items.size 0 lo=0/\sIx items.size items.size hi=items.size))
  (h:Q (.ref s.heap.objs.size) { s with heap:=s.heap.push { cls:=.type "tuple",data:=.seq ((items.toList.drop (sIx items.size 0 lo)).take (sIx items.size items.size hi - sIx items.size 0 lo)).toArray } })
  (hsz:items.size<=sizeLine):wpAny (model prog w) A (getItem (.ref t) (.ref sl)) Q E s:=by
 have htake:sizeOk (.seq ((items.toList.drop (sIx items.size 0 lo)).take (sIx items.size items.size hi - sIx items.size 0 lo)).toArray):=by show ((items.toList.drop (sIx items.size 0 lo)).take (sIx items.size items.size hi - sIx items.size 0 lo)).toArray.size<=sizeLine;rw[List.size_toArray,List.length_take,List.length_drop,Array.length_toList];omega
 have hj:sIx items.size items.size hi<=items.size:=zm _ _ (Nat.le_refl _) hi;obtain ⟨os,hos,hcs,hds⟩:=id hs;have hTs:s.TypeIs (.ref sl) "slice":=⟨os,hos,hcs⟩;unfold getItem;try with_reducible refine wpAny_holding ?_
 first |refine wpAny_bind (wpAny_pure ?_) |skip
 refine wpAny_bind (wpAny_sequenceKey ht.typeIs (by decide) ?_);refine wpAny_bind (wpAny_callSpecial?_slot (name:=Str.ofString "__getitem__") ht.typeIs PyProof.Rows.slot_tuple_getitem
  (wpAny_call_entry PyProof.Rows.slot_tuple_getitem ht.typeIs entry_tuple_getitem ?_ (args_tuple_getitem _ _)))
 show wpAny _ _ (Builtin.Tuple.tupleItemsOf (.ref t) >>= _) _ _ s;refine wpAny_bind (tupleItemsOf_ ht ?_);refine wpAny_bind (wpAny_typeOf hTs ?_);rw[if_pos (by decide)];refine wpAny_bind (zr hs pl pu ?_);have hno:¬((((sIx items.size 0 lo:Nat):Int)==0&&(1:Int)==1&&(sIx items.size items.size hi - sIx items.size 0 lo)==items.size)=true):=by intro q;rw[Bool.and_eq_true,Bool.and_eq_true]at q;have q1:((sIx items.size 0 lo:Nat):Int)=0:=eq_of_beq q.1.1;have q2:sIx items.size items.size hi - sIx items.size 0 lo=items.size:=eq_of_beq q.2;exact hw ⟨by omega,by omega⟩
 show wpAny _ _ (if (((sIx items.size 0 lo:Nat):Int)==0&&(1:Int)==1&&(sIx items.size items.size hi - sIx items.size 0 lo)==items.size)=true then _ else _) _ _ s;rw[if_neg hno,Ua];first
  |exact wpAny_bind (m:=Builtin.Tuple.tupleExact _) (wpAny_newObj_type (wpAny_pure ⟨_,rfl,wpAny_pure h⟩) htake)
  |exact wpAny_bind (m:=Builtin.Tuple.tupleExact _) (wpAny_newObj_type (wpAny_bind (wpAny_pure (wpAny_pure ⟨_,rfl,wpAny_pure h⟩))) htake)
  |exact wpAny_bind (wpAny_bind (m:=Builtin.Tuple.tupleExact _) (wpAny_newObj_type (wpAny_pure (wpAny_pure ⟨_,rfl,wpAny_pure h⟩)) htake))
  |exact wpAny_bind (wpAny_bind (m:=Builtin.Tuple.tupleExact _) (wpAny_newObj_type (wpAny_pure ⟨_,rfl,wpAny_pure h⟩) htake))
end
end HT
namespace L2
open PySem PySem.Spec PyProof.Rows
abbrev TO:=St->Hp->(Option Int->Hp->Prop)->Prop
def PO(X:Cx)(e:Option Expr)(t:TO):Prop:=
 ∀(pins:List (Addr×Obj))(s:Shared)(σ:St)(H:Hp)(Q:Option Int->Hp->Prop),Inv X pins σ H s->t σ H Q->
  wpAny (model X.prog X.w) X.A (evalPart e X.env) (λu s'=>∃o H',Inv X pins σ H' s'/\IsPart u o/\Q o H') X.xe s
def Uc:TO:=λ_ H Q=>Q none H
def Ud(t:TE):TO:=λσ H Q=>t σ H λx H1=>∃i,x=.int i/\Q (some i) H1
theorem intsAre_of{ns:List Int}:∀{us:List Value},Vals (ns.map V.int) us->IntsAre us ns:=by
 induction ns with
 |nil=>intro us r;rw[List.map_nil]at r;cases r;exact .nil
 |cons n ns ih=>
  intro us r;rw[List.map_cons]at r;cases r with
  |cons r1 r2=>
   obtain ⟨t,e⟩:=r1;subst e;exact .cons n t (ih r2)
section
variable {X:Cx} {e:Expr} {te:TE} {lo hi:Option Expr} {tl th:TO} {pos p2:Pos}
theorem uo:PO X none Uc:=by intro pins s σ H Q I h;rw[evalPart_none];exact wpAny_pure ⟨none,H,I,.none,h⟩
theorem Ue(h:PE X e te):PO X (some e) (Ud te):=by intro pins s σ H Q I hw;rw[evalPart_some];refine thn (h pins s σ H _ I hw) λu s1 ⟨x,H1,I1,r1,q1⟩=>?_;obtain ⟨i,rfl,q⟩:=q1;obtain ⟨t,rfl⟩:=r1;exact ⟨some i,H1,I1,.int i t,q⟩
def SlR(X:Cx)(r:V->Option Int->Option Int->Hp->VK->Prop):Prop:=
 ∀(pins:List (Addr×Obj))(s:Shared)(σ:St)(H:Hp)(x:V)(v vl vu:Value)(lo hi:Option Int)(sl:Addr)(Q:VK),Inv X pins σ H s->RelV x v->s.heap.IsSliceOf sl vl vu .none->IsPart vl lo->IsPart vu hi->r x lo hi H Q->
  ∃T id,typeLookup (.type T) "__getitem__"=pure (some (.builtin id))/\s.TypeIs v T/\wpAny (model X.prog X.w) X.A (getItem v (.ref sl)) (EP X pins σ Q) X.xe s
def tSl(r:V->Option Int->Option Int->Hp->VK->Prop)(te:TE)(tl th:TO):TE:=λσ H Q=>te σ H λx H1=>tl σ H1 λl H2=>th σ H2 λu H3=>r x l u H3 Q
theorem Ug{r:V->Option Int->Option Int->Hp->VK->Prop}(hr:SlR X r)(he:PE X e te)(hl:PO X lo tl)(hu:PO X hi th):PE X (.Subscript e (.Slice lo hi none p2) pos) (tSl r te tl th):=by intro pins s σ H Q I h;refine Subscript_ (thn (he pins s σ H _ I h) λv s1 ⟨x,H1,I1,r1,q1⟩=>?_);refine wpAny_Slice (thn (hl pins s1 σ H1 _ I1 q1) λvl s2 ⟨l,H2,I2,pl,q2⟩=>thn (hu pins s2 σ H2 _ I2 q2) λvu s3 ⟨u,H3,I3,pu,q3⟩=>?_);rw[evalPart_none];refine wpAny_pure ?_;have I4:Inv X pins σ H3 { s3 with heap:=s3.heap.push { cls:=.type "slice",data:=.fields #[vl,vu,.none] } }:=I3.kept (t':=s3.toks) λb ob q=>Heap.get?_push_of_some _ q;obtain ⟨T,id,hT,ht,hg⟩:=hr pins { s3 with heap:=s3.heap.push { cls:=.type "slice",data:=.fields #[vl,vu,.none] } } σ H3 x v vl vu l u s3.heap.objs.size Q I4 r1 (Heap.IsSliceOf.new ..) pl pu q3;show wpAny (model X.prog X.w) X.A (subscriptTail e (.Slice lo hi none p2) v (.ref s3.heap.objs.size)) (EP X pins σ Q) X.xe { s3 with heap:=s3.heap.push { cls:=.type "slice",data:=.fields #[vl,vu,.none] } };exact tail_any (ops:=[.ref s3.heap.objs.size,v]) ht hT hg (by with_unfolding_all rfl)
def dz(xs:List V)(lo hi:Option Int):List V:=(xs.drop (HT.sIx xs.length 0 lo)).take (HT.sIx xs.length xs.length hi - HT.sIx xs.length 0 lo)
theorem zu(xs:List V)(lo hi:Option Int):(dz xs lo hi).length<=xs.length:=by unfold dz;rw[List.length_take,List.length_drop];omega
def Uh(K:PySem.W.Frag):V->Option Int->Option Int->Hp->VK->Prop:=λx lo hi H Q=>∃a xs,x=.ref a/\SqT K H a xs/\
 ¬(HT.sIx xs.length 0 lo=0/\HT.sIx xs.length xs.length hi=xs.length)/\∀p,H p=none->Q (.ref p) (upd H p (.tup (dz xs lo hi)))
theorem Ui:SlR X (Uh X.K):=by
 intro pins s σ H x v vl vu lo hi sl Q I rx hs pl pu h;obtain ⟨a,xs,rfl,hx,hw,q⟩:=h;cases rx;obtain ⟨its,r,ht,hz⟩:=I.tuple hx;have hlen:its.toArray.size=xs.length:=by rw[List.size_toArray];exact r.length.symm
 refine ⟨"tuple",_,PyProof.Rows.slot_tuple_getitem.lookup,ht.typeIs,?_⟩;refine HT.Ub ht hs pl pu (by rw[hlen];exact hw) ?_ (by rw[hlen];exact hz);rw[hlen];refine ⟨.ref s.heap.objs.size,_,I.laid (t':=s.toks) (o:=.tup (dz xs lo hi)) (λb ob q=>Heap.get?_push_of_some _ q) (Nat.le_refl _) ?_,rfl,q _ (I.hok.fresh (Nat.le_refl _))⟩;exact ⟨Nat.le_trans (zu xs lo hi) hz,_,(r.drop (HT.sIx xs.length 0 lo)).take (HT.sIx xs.length xs.length hi - HT.sIx xs.length 0 lo),IsTup.new _ _⟩
def Uj(K:PySem.W.Frag):R2:=λx y H Q=>∃a b xs ys,x=.ref a/\y=.ref b/\SqT K H a xs/\SqT K H b ys/\xs≠[]/\xs.length+ys.length<=sizeLine/\
 (ys=[]->Q (.ref a) H)/\(ys≠[]->∀p,H p=none->Q (.ref p) (upd H p (.tup (xs++ys))))
theorem Vals.nil_iff{xs:List V}{us:List Value}(r:Vals xs us):us=[]↔xs=[]:=by
 cases r with
 |nil=>simp
 |cons _ _=>simp
theorem Uk:OpR X (binaryOp .Add) (Uj X.K):=by intro pins s σ H x y v u Q I rx ry h;obtain ⟨a,b,xs,ys,rfl,rfl,ha,hb,hx,hz,q1,q2⟩:=h;cases rx;cases ry;obtain ⟨its,r1,p1,_⟩:=I.tuple ha;obtain ⟨its2,r2,p2,_⟩:=I.tuple hb;refine HT.T7 p1 p2 (λz=>hx (r1.nil_iff.mp z)) (λz=>⟨.ref a,H,I,rfl,q1 (r2.nil_iff.mp z)⟩) (λz=>?_) (by rw[<-r1.length,<-r2.length];exact hz);refine ⟨.ref s.heap.objs.size,_,I.laid (t':=s.toks) (o:=.tup (xs++ys)) (λb ob q=>Heap.get?_push_of_some _ q) (Nat.le_refl _) ?_,rfl,q2 (λw=>z (r2.nil_iff.mpr w)) _ (I.hok.fresh (Nat.le_refl _))⟩;exact ⟨by rw[List.length_append];exact hz,_,r1.append r2,IsTup.new _ _⟩
end
def ixN(n:Nat)(i:Int):Option Nat:=if 0<=i then (if i < n then some i.toNat else none) else if -(n:Int)<=i then some (i+n).toNat else none
def atI{α:Type}(xs:List α)(i:Int):Option α:=(ixN xs.length i).bind λj=>xs[j]?
theorem zx{n:Nat}{i:Int}{j:Nat}(h:ixN n i=some j):seqIndex? i n=some j/\j < n/\-(n:Int)<=i/\i < n:=by
 unfold ixN at h;by_cases h0:0<=i
 ·rw[if_pos h0]at h;by_cases h1:i < n
  ·rw[if_pos h1]at h;have e:i.toNat=j:=Option.some.inj h;exact ⟨by rw[seqIndex_of h0 h1,e],by omega,by omega,h1⟩
  ·rw[if_neg h1]at h;cases h
 ·rw[if_neg h0]at h;by_cases h1:-(n:Int)<=i
  ·rw[if_pos h1]at h;have e:(i+n).toNat=j:=Option.some.inj h;exact ⟨by rw[seqIndex_neg (by omega) h1,e],by omega,h1,by omega⟩
  ·rw[if_neg h1]at h;cases h
theorem uq{α:Type}{xs:List α}{i:Int}{v:α}(h:atI xs i=some v):∃j,seqIndex? i xs.length=some j/\xs[j]?=some v/\j < xs.length/\-(xs.length:Int)<=i/\i < xs.length:=by
 unfold atI at h;cases e:ixN xs.length i with
 |none=>rw[e]at h;cases h
 |some j=>
  rw[e]at h;obtain ⟨h1,h2,h3,h4⟩:=zx e;exact ⟨j,h1,h,h2,h3,h4⟩
theorem bO{α:Type}{xs:List α}{j:Nat}{v:α}(h:xs[j]?=some v):atI xs (j:Int)=some v:=by
 have hj:j < xs.length:=(List.getElem?_eq_some_iff.mp h).1;have e:ixN xs.length (j:Int)=some j:=by unfold ixN;rw[if_pos (by omega),if_pos (by omega)];simp
 unfold atI;rw[e];exact h
theorem zy{α:Type}(xs:List α)(v:α):atI (xs++[v]) (-1)=some v:=by
 have hl:(xs++[v]).length=xs.length+1:=by simp
 have e:ixN (xs++[v]).length (-1)=some xs.length:=by unfold ixN;rw[hl,if_neg (by decide),if_pos (by omega)];congr 1;omega
 unfold atI;rw[e];show (xs++[v])[xs.length]?=some v;simp
def zz(b:Expr):Prop:=∀o i,subscripted b false o i=operate [o,i] (getItem o i)
def IxR(X:Cx)(r:R2):Prop:=
 ∀(value slice:Expr)(pins:List (Addr×Obj))(s:Shared)(σ:St)(H:Hp)(x y:V)(v u:Value)(Q:VK),Inv X pins σ H s->RelV x v->RelV y u->r x y H Q->
  subscripted slice false v u=operate [v,u] (getItem v u)->wpAny (model X.prog X.w) X.A (subscriptTail value slice v u) (EP X pins σ Q) X.xe s
def MtR(X:Cx)(id:String)(r:V->List V->Hp->VK->Prop):Prop:=
 ∀(pins:List (Addr×Obj))(s:Shared)(σ:St)(H:Hp)(x:V)(xs:List V)(v:Value)(us:List Value)(Q:VK),Inv X pins σ H s->RelV x v->Vals xs us->r x xs H Q->
  wpAny (model X.prog X.w) X.A (call (.builtin id) (v::us)) (EP X pins σ Q) X.xe s
section
variable {X:Cx} {a b:Expr} {ta tb:TE} {pos:Pos}
theorem Ul{r:R2}(hr:IxR X r)(ha:PE X a ta)(hb:PE X b tb)(hs:zz b):PE X (.Subscript a b pos) (tOp r ta tb):=by intro pins s σ H Q I h;exact Subscript_ (ul ha hb I h λv u s2 x y H2 I2 rx ry q=>hr a b pins s2 σ H2 x y v u Q I2 rx ry q (hs _ _))
def Um(K:PySem.W.Frag):R2:=λx y H Q=>∃p xs i v,x=.ref p/\y=.int i/\SqL K H p xs/\atI xs i=some v/\Q v H
def Uo(K:PySem.W.Frag):R2:=λx y H Q=>∃p xs i v,x=.ref p/\y=.int i/\SqT K H p xs/\atI xs i=some v/\Q v H
def Up:R2:=λx y H Q=>∃z i c,x=.str z/\y=.int i/\z.length<=sizeLine/\atI z.cps.toList i=some c/\Q (.str ⟨#[c]⟩) H
theorem Uq:IxR X (Um X.K):=by
 intro value slice pins s σ H x y v u Q I rx ry h hs;obtain ⟨p,xs,i,z,rfl,rfl,hq,he,q⟩:=h;cases rx;obtain ⟨t,rfl⟩:=ry;obtain ⟨its,r,pl,hz⟩:=I.list hq;obtain ⟨j,h1,h2,h3,h4,h5⟩:=uq he;obtain ⟨w,ew,rw'⟩:=r.get h2;have hl:=r.length;have hn:=gk;have fin:EP X pins σ Q w s:=⟨z,H,I,rw',q⟩;by_cases h0:0<=i
 ·have hj:i.toNat=j:=by
   rw[seqIndex_of h0 h5]at h1;exact Option.some.inj h1
  exact item_listR pl.isList h0 (by omega) (by rw[hj];simpa using ew) fin hs
 ·have hj:(i+(its.toArray.size:Int)).toNat=j:=by
   rw[seqIndex_neg (by omega) h4]at h1;rw[List.size_toArray,<-hl];exact Option.some.inj h1
  exact subscriptTail_builtinR (x:=w) pl.isList.typeIs slot_list_getitem.lookup
   (wpAny_getItem_list_neg (Q:=λr s'=>r=w/\EP X pins σ Q r s') pl.isList (by omega) (by rw[List.size_toArray] <;> omega) (by omega) (by rw[hj];simpa using ew) ⟨rfl,fin⟩) hs
theorem Ur:IxR X (Uo X.K):=by
 intro value slice pins s σ H x y v u Q I rx ry h hs;obtain ⟨p,xs,i,z,rfl,rfl,hq,he,q⟩:=h;cases rx;obtain ⟨t,rfl⟩:=ry;obtain ⟨its,r,pl,hz⟩:=I.tuple hq;obtain ⟨j,h1,h2,h3,h4,h5⟩:=uq he;obtain ⟨w,ew,rw'⟩:=r.get h2;have hl:=r.length;have hn:=gk;have fin:EP X pins σ Q w s:=⟨z,H,I,rw',q⟩;exact subscriptTail_builtinR (x:=w) pl.typeIs slot_tuple_getitem.lookup
  (getItem_tuple (j:=j) (Q:=λr s'=>r=w/\EP X pins σ Q r s') pl (by omega) (by omega) (by rw[List.size_toArray,<-hl];exact h1) (by simpa using ew) ⟨rfl,fin⟩) hs
theorem Us:IxR X Up:=by
 intro value slice pins s σ H x y v u Q I rx ry h hs;obtain ⟨z,i,c,rfl,rfl,hz,he,q⟩:=h;obtain ⟨t,rfl⟩:=rx;obtain ⟨t',rfl⟩:=ry;obtain ⟨j,h1,h2,h3,h4,h5⟩:=uq he;have hl:z.cps.toList.length=z.length:=by simp[Str.length]
 rw[hl]at h1 h4 h5;have hn:=gk;exact tail_any (typeIs_str s z t) slot_str_getitem.lookup (getItem_str (c:=c) (by
  have e1:decide (i < -(2 ^ 63:Int))=false:=decide_eq_false (by omega);have e2:decide (i≥2 ^ 63)=false:=decide_eq_false (by omega);rw[e1,e2,Bool.or_false]) (by rw[h1];simpa using h2) ⟨.str ⟨#[c]⟩,H,I.tok _,⟨_,rfl⟩,q⟩) hs
theorem Ut (its:List Value) (n j:Nat) (u:Value):Obj.mapSeq (·.setIfInBounds j u) { cls:=.type "list",data:=.seq its.toArray n }={ cls:=.type "list",data:=.seq (its.set j u).toArray n }:=by simp[Obj.mapSeq]
theorem Inv.lst{pins:List (Addr×Obj)}{σ:St}{H:Hp}{s:Shared}{p:Addr}{xs:List V}(I:Inv X pins σ H s)(h:H p=some (.lst xs)):
  ∃(its:List Value) (n:Nat),Vals xs its/\s.heap.get? p=some { cls:=.type "list",data:=.seq its.toArray n }/\xs.length<=sizeLine:=by
 obtain ⟨z,its,n,r,e⟩:=I.hok p _ h;exact ⟨its,n,r,e,z⟩
theorem Inv.lstUpd{pins:List (Addr×Obj)}{σ:St}{H:Hp}{s:Shared}{p:Addr}{xs ys:List V}{its its':List Value}{n n':Nat}{f:Obj->Obj}(I:Inv X pins σ H s)(h:H p=some (.lst xs))
  (ho:s.heap.get? p=some { cls:=.type "list",data:=.seq its.toArray n }) (hf:f { cls:=.type "list",data:=.seq its.toArray n }={ cls:=.type "list",data:=.seq its'.toArray n' }) (r:Vals ys its') (hz:ys.length<=sizeLine) (t:Nat):
  Inv X pins σ (upd H p (.lst ys)) { s with heap:=s.heap.update p f,toks:=t }:=by
 have e:(s.heap.update p f).get? p=some { cls:=.type "list",data:=.seq its'.toArray n' }:=by rw[Heap.get?_update_self f ho (by rw[hf] <;> rfl),hf]
 refine I.write (x:=p) (e:=p) (by rw[h];trivial) (.inl rfl) (λb u hb q=>(Heap.get?_update_other _ _ (Ne.symm hb)).trans q) ⟨_,e⟩ ?_;exact ⟨hz,its',n',r,e⟩
def Uu:V->V->V->Hp->(Hp->Prop)->Prop:=λo i v H Q=>∃p xs k j,o=.ref p/\i=.int k/\H p=some (.lst xs)/\ixN xs.length k=some j/\Q (upd H p (.lst (xs.set j v)))
theorem set_list:uh X Uu:=by
 intro pins s σ H o i v ov iv u Q I ro ri rv h;obtain ⟨p,xs,k,j,rfl,rfl,hp,hj,q⟩:=h;cases ro;obtain ⟨t,rfl⟩:=ri;obtain ⟨its,n,r,ho,hz⟩:=I.lst hp;obtain ⟨h1,h2,h3,h4⟩:=zx hj;have hl:=r.length;have hn:=gk;have I':Inv X pins σ (upd H p (.lst (xs.set j v))) { s with heap:=s.heap.update p (Obj.mapSeq (·.setIfInBounds j u)) }:=
  I.lstUpd hp ho (Ut its n j u) (r.set rv j) (by rw[List.length_set];exact hz) s.toks
 by_cases h0:0<=k
 ·have hk:k.toNat=j:=by
   rw[seqIndex_of h0 h4]at h1;exact Option.some.inj h1
  exact PySem.W.ki_setAt ho h0 (by omega) (by rw[List.size_toArray,<-hl];exact h4) (by rw[hk];exact ⟨_,I',q⟩)
 ·have hk:(k+(its.toArray.size:Int)).toNat=j:=by
   rw[seqIndex_neg (by omega) h3]at h1;rw[List.size_toArray,<-hl];exact Option.some.inj h1
  exact PySem.W.ki_setBack ho (by omega) (by rw[List.size_toArray,<-hl];exact h3) (by omega) (by rw[hk];exact ⟨_,I',q⟩)
theorem zA(lo hi:Option Int)(n:Nat):(sliceBounds lo hi none n).1=((HT.sIx n 0 lo:Nat):Int)/\(sliceBounds lo hi none n).2.1=((HT.sIx n n hi:Nat):Int)/\(sliceBounds lo hi none n).2.2=1:=by
 refine ⟨?_,?_,rfl⟩
 ·cases lo with
  |none=>simp[sliceBounds,HT.sIx]
  |some i=>
   simp only[sliceBounds,HT.sIx,Option.getD_none,show (1:Int) > 0 by decide,if_true];by_cases h:i < 0
   ·simp only[h,if_true] <;> omega
   ·simp only[h,if_false] <;> omega
 ·cases hi with
  |none=>simp[sliceBounds,HT.sIx]
  |some i=>
   simp only[sliceBounds,HT.sIx,Option.getD_none,show (1:Int) > 0 by decide,if_true];by_cases h:i < 0
   ·simp only[h,if_true] <;> omega
   ·simp only[h,if_false] <;> omega
theorem Uv(its:List Value)(lo hi:Option Int):slicePick its.toArray lo hi none=((its.drop (HT.sIx its.length 0 lo)).take (HT.sIx its.length its.length hi - HT.sIx its.length 0 lo)).toArray:=by obtain ⟨h1,h2,h3⟩:=zA lo hi its.toArray.size;unfold slicePick;rw[h1,h2,h3];simp only[sliceRange_one,pick_run,List.size_toArray] <;> rfl
def Uw(K:PySem.W.Frag):V->Option Int->Option Int->Hp->VK->Prop:=λx lo hi H Q=>∃a xs,x=.ref a/\SqL K H a xs/\∀p,H p=none->Q (.ref p) (upd H p (.lst (dz xs lo hi)))
theorem zB:SlR X (Uw X.K):=by intro pins s σ H x v vl vu lo hi sl Q I rx hs pl pu h;obtain ⟨a,xs,rfl,hx,q⟩:=h;cases rx;obtain ⟨its,r,ht,hz⟩:=I.list hx;have hlen:=r.length;refine ⟨"list",_,slot_list_getitem.lookup,ht.isList.typeIs,?_⟩;refine wpAny_getItem_list_slice ht.isList hs pl pu .none (by simp) ?_ (by rw[List.size_toArray] <;> omega);rw[Uv,<-hlen];refine ⟨.ref s.heap.objs.size,_,I.laid (t':=s.toks) (o:=.lst (dz xs lo hi)) (λb ob q=>Heap.get?_push_of_some _ q) (Nat.le_refl _) ?_,rfl,q _ (I.hok.fresh (Nat.le_refl _))⟩;exact ⟨Nat.le_trans (zu xs lo hi) hz,_,0,(r.drop (HT.sIx xs.length 0 lo)).take (HT.sIx xs.length xs.length hi - HT.sIx xs.length 0 lo),Heap.get?_push_size _ rfl⟩
theorem zE:bw X (.builtin "len") (λxs H Q=>∃p ys,xs=[.ref p]/\(SqL X.K H p ys\/SqT X.K H p ys)/\Q (.int ys.length) H):=by
 intro pins s σ H xs us Q I r h;obtain ⟨p,ys,rfl,hq,q⟩:=h;obtain ⟨u,rfl,rx⟩:=vals1 r;cases rx;have hn:=gk;rcases hq with hq |hq
 ·obtain ⟨its,r',pl,hz⟩:=I.list hq;have hlen:=r'.length;exact Calls.call_len_list pl.isList (by simp only[List.size_toArray] <;> omega) ⟨.int ys.length,H,I.tok _,⟨s.toks+1,by rw[List.size_toArray,hlen]⟩,q⟩
 ·obtain ⟨its,r',pl,hz⟩:=I.tuple hq;have hlen:=r'.length;exact len_tuple pl (by simp only[List.size_toArray] <;> omega) ⟨.int ys.length,H,I.tok _,⟨s.toks+1,by rw[List.size_toArray,hlen]⟩,q⟩
theorem Ux:bw X (.builtin "len") (λxs H Q=>∃z,xs=[.str z]/\z.length<=sizeLine/\Q (.int z.length) H):=by intro pins s σ H xs us Q I r h;obtain ⟨z,rfl,hz,q⟩:=h;obtain ⟨u,rfl,t,rfl⟩:=vals1 r;have hn:=gk;exact len_str (by omega) ⟨.int z.length,H,I.tok _,⟨_,rfl⟩,q⟩
theorem zF:bw X (.type "list") (λxs H Q=>∃p ys,xs=[.ref p]/\(SqL X.K H p ys\/SqT X.K H p ys)/\∀l,H l=none->Q (.ref l) (upd H l (.lst ys))):=by
 intro pins s σ H xs us Q I r h;obtain ⟨p,ys,rfl,hq,q⟩:=h;obtain ⟨u,rfl,rx⟩:=vals1 r;cases rx;have fin:∀(its:List Value),Vals ys its->ys.length<=sizeLine->∀(h':Heap)(c':Nat),(∀b o',s.heap.get? b=some o'->h'.get? b=some o')->
   h'.get? s.heap.objs.size=some { cls:=.type "list",dict:=none,data:=.seq its.toArray c',slots:=#[] }->EP X pins σ Q (.ref s.heap.objs.size) { s with heap:=h' }:=λits r' hz h' c' kp e=>
  ⟨.ref s.heap.objs.size,_,I.laid (t':=s.toks) kp (Nat.le_refl _) (show ObjOk X.prog X.w _ h' _ (.lst ys) from ⟨hz,its,c',r',e⟩),rfl,q _ (I.hok.fresh (Nat.le_refl _))⟩
 rcases hq with hq |hq
 ·obtain ⟨its,r',pl,hz⟩:=I.list hq;have hlen:=r'.length;obtain ⟨o,ho,hc,n,hd⟩:=pl.isList;exact call_list_seq p (.inl rfl) ho hc hd (λh' c' kp e=>fin its r' hz h' c' kp e) (by simp only[List.size_toArray] <;> omega)
 ·obtain ⟨its,r',pl,hz⟩:=I.tuple hq;have hlen:=r'.length;obtain ⟨o,ho,hc,n,hd⟩:=pl;exact call_list_seq p (.inr rfl) ho hc hd (λh' c' kp e=>fin its r' hz h' c' kp e) (by simp only[List.size_toArray] <;> omega)
theorem zG:bw X (.type "tuple") (λxs H Q=>∃p ys,xs=[.ref p]/\((SqL X.K H p ys/\∀l,H l=none->Q (.ref l) (upd H l (.tup ys)))\/(SqT X.K H p ys/\Q (.ref p) H))):=by
 intro pins s σ H xs us Q I r h;obtain ⟨p,ys,rfl,h⟩:=h;obtain ⟨u,rfl,rx⟩:=vals1 r;cases rx;rcases h with ⟨hq,q⟩ |⟨hq,q⟩
 ·obtain ⟨its,r',pl,hz⟩:=I.list hq;have hlen:=r'.length;refine call_tuple_list pl.isList (λh' kp=>?_) (by simp only[List.size_toArray] <;> omega);have I1:Inv X pins σ H { s with heap:=h' }:=I.kept (t':=s.toks) kp;have I2:Inv X pins σ (upd H h'.objs.size (.tup ys)) { s with heap:=h'.push { cls:=.type "tuple",data:=.seq its.toArray } }:=
   I1.laid (t':=s.toks) (λb o e=>Heap.get?_push_of_some _ e) (Nat.le_refl _) (show ObjOk X.prog X.w _ _ _ (.tup ys) from ⟨hz,its,r',IsTup.new _ _⟩)
  exact ⟨.ref h'.objs.size,_,I2,rfl,q _ (I1.hok.fresh (Nat.le_refl _))⟩
 ·obtain ⟨its,r',pl,hz⟩:=I.tuple hq;exact call_tuple_same pl ⟨.ref p,H,I,rfl,q⟩
def tyV(K:PySem.W.Frag)(T:String)(x:V)(H:Hp):Prop:=match x with
 |.str _=>T="str"
 |.int _=>T="int"
 |.ref p=>(T="list"/\∃xs,SqL K H p xs)\/(T="tuple"/\∃o,K.lookup p=some o/\o.cls=.type "tuple"/\o.dict=none)\/
   (T="dict"/\((∃kvs,H p=some (.dK kvs))\/∃kvs,H p=some (.dT kvs)))\/(T="set"/\∃S n,H p=some (.set S n))
 |_=>False
theorem Uy{pins:List (Addr×Obj)}{σ:St}{H:Hp}{s:Shared}{T:String}{x:V}{v:Value}(I:Inv X pins σ H s)(r:RelV x v)(ty:tyV X.K T x H):
  s.TypeIs v T/\∀a,v=.ref a->∃ob,s.heap.get? a=some ob/\ob.dict=none:=by
 cases x with
 |str z=>
  obtain ⟨t,rfl⟩:=r;cases (show T="str" from ty);exact ⟨typeIs_str s z t,λ_ e=>nomatch e⟩
 |int i=>
  obtain ⟨t,rfl⟩:=r;cases (show T="int" from ty);exact ⟨typeIs_int s i t,λ_ e=>nomatch e⟩
 |ref p=>
  cases r;rcases ty with ⟨rfl,xs,hq⟩ |⟨rfl,o,hk,hc,hd⟩ |⟨rfl,hk⟩ |⟨rfl,S,n,hk⟩
  ·obtain ⟨its,_,pl,_⟩:=I.list hq;refine ⟨pl.isList.typeIs,λa e=>?_⟩;cases e;obtain ⟨o,n,e,c,hd,_⟩:=pl;exact ⟨o,e,hd⟩
  ·refine ⟨⟨o,I.kIn p o hk,hc⟩,λa e=>?_⟩;cases e;exact ⟨o,I.kIn _ o hk,hd⟩
  ·have z:∃o,s.heap.get? p=some o/\o.ExactDict:=by
    rcases hk with ⟨kvs,hk⟩ |⟨kvs,hk⟩
    ·obtain ⟨_,_,_,_,o,_,_,e,ex,_⟩:=I.hok p _ hk;exact ⟨o,e,ex⟩
    ·obtain ⟨_,_,_,_,o,_,_,e,ex,_⟩:=I.hok p _ hk;exact ⟨o,e,ex⟩
   obtain ⟨o,e,ex⟩:=z;refine ⟨⟨o,e,ex.1⟩,λa e2=>?_⟩;cases e2;exact ⟨o,e,ex.2.1⟩
  ·obtain ⟨o,_,_,_,e,ex,_⟩:=I.hok p _ hk;refine ⟨⟨o,e,ex.1⟩,λa e2=>?_⟩;cases e2;exact ⟨o,e,ex.2.1⟩
 |_=>exact False.elim ty
def tBM(K:PySem.W.Frag)(T:String)(r:V->List V->Hp->VK->Prop)(to:TE)(t:TA):TE:=λσ H Q=>to σ H λx H1=>tyV K T x H1/\t σ H1 λxs H2=>r x xs H2 Q
variable {o e:Expr} {es:List Expr} {to:TE} {t:TA} {name:Str} {apos cpos:Pos} {T id:String} {r:V->List V->Hp->VK->Prop}
theorem gm (pa:PlainAttrs T) (slot:Slot T name id) (hty:typeOf (.builtin id)=pure (.type "method_descriptor")) (hm:MtR X id r) (ho:PE X o to) (ha:PA X (e::es) t)
  (hbase:attributeBase o name X.env (eval o X.env)=eval o X.env:=by rfl)
  (hfew:((backTo cpos (starEach (e::es) X.env)).all (λx=>!x.1)&&(backToKw cpos (keywordEach [] X.env)).all (λx=>x.1.isSome)
  &&decide ((e::es).length+([]:List Keyword).length+(if ([]:List Keyword).isEmpty then 0 else 1) < 30))=true:=by rfl)
  (hline:(apos.endLine==cpos.line)=true:=by rfl) (hs:starEach (e::es) X.env=(false,eval e X.env)::starEach es X.env:=by rfl) (hplain:(backTo cpos (starEach es X.env)).any (·.1)=false:=by rfl):
  PE X (.Call (.Attribute o name apos) (e::es) [] cpos) (tBM X.K T r to t):=by
 intro pins s σ H Q I h;refine wpAny_Call_method_late hbase hfew hline rfl (thn (ho pins s σ H _ I h) λv s1 ⟨x,H1,I1,r1,ty,q1⟩=>?_);obtain ⟨h1,h2⟩:=Uy I1 r1 ty;refine ⟨T,id,pa,slot,hty,h1,h2,?_⟩;have hA:=ha cpos pins s1 σ H1 _ I1 q1;rw[hs]at hA ⊢;refine Calls.callWith_builtin (by show (false||(backTo cpos (starEach es X.env)).any (·.1))=false;rw[hplain] <;> rfl) (Calls.evalArgs_plain ?_);exact thn hA λus s2 ⟨vs,H2,I2,r2,q2⟩=>hm pins s2 σ H2 x vs v us Q I2 r1 r2 q2
end
def MtM(X:Cx)(id:String)(r:V->List V->Hp->VK->Prop):Prop:=
 ∀(pins:List (Addr×Obj))(s:Shared)(σ:St)(H:Hp)(x:V)(xs:List V)(v:Value)(us:List Value)(Q:VK),Inv X pins σ H s->RelV x v->Vals xs us->r x xs H Q->
  wpAny (model X.prog X.w) X.A (call (.builtin id) (v::us)) (EP X pins σ Q) X.xe s
theorem Vals.one:∀{x:V}{us:List Value},Vals [x] us->∃u,us=[u]/\RelV x u
 |_,_,.cons r .nil=>⟨_,rfl,r⟩
theorem Vals.eraseIdx:∀{xs:List V}{us:List Value}(i:Nat),Vals xs us->Vals (xs.eraseIdx i) (us.eraseIdx i)
 |_,_,_,.nil=>.nil
 |_,_,0,.cons _ t=>t
 |_,_,i+1,.cons r t=>.cons r (Vals.eraseIdx i t)
theorem Vals.reverse{xs:List V}{us:List Value}(h:Vals xs us):Vals xs.reverse us.reverse:=by
 induction h with
 |nil=>exact .nil
 |cons r t ih=>rw[List.reverse_cons,List.reverse_cons];exact Vals.append ih (.cons r .nil)
theorem Vals.rep{xs:List V}{us:List Value}(h:Vals xs us):∀k:Nat,Vals (List.replicate k xs).flatten (List.replicate k us).flatten
 |0=>.nil
 |k+1=>by
  rw[List.replicate_succ,List.replicate_succ,List.flatten_cons,List.flatten_cons];exact Vals.append h (Vals.rep h k)
theorem zH{α:Type}:∀(l:List α)(i:Nat),(l.eraseIdx i).length<=l.length
 |[],_=>Nat.le_refl _
 |_::_,0=>Nat.le_succ _
 |_::r,i+1=>Nat.succ_le_succ (zH r i)
theorem foldl_rep(its:List Value):∀(k:Nat)(acc:List Value),
  List.foldl (λx1 x2=>x1++x2) acc.toArray (List.replicate k its.toArray)=(acc++(List.replicate k its).flatten).toArray
 |0,acc=>by simp
 |k+1,acc=>by
  have e:acc.toArray++its.toArray=(acc++its).toArray:=by simp
  have e2:(acc++its)++(List.replicate k its).flatten=acc++(List.replicate (k+1) its).flatten:=by rw[List.replicate_succ,List.flatten_cons,List.append_assoc]
  rw[<-e2,<-foldl_rep its k (acc++its),<-e,List.replicate_succ,List.foldl_cons]
section
variable {X:Cx} {pins:List (Addr×Obj)} {σ:St} {H:Hp} {s:Shared} {l b:Addr} {xs ys zs:List V}
theorem Inv.lset{its its':List Value}{n:Nat}{f:Array Value->Array Value}{t':Nat}(I:Inv X pins σ H s)(hH:H l=some (.lst xs))
  (e:s.heap.get? l=some { cls:=.type "list",data:=.seq its.toArray n }) (hf:f its.toArray=its'.toArray) (hv:Vals ys its') (hz:ys.length<=sizeLine):
  Inv X pins σ (upd H l (.lst ys)) { s with heap:=s.heap.update l (Obj.mapSeq f),toks:=t' }:=by
 have q:=PySem.IsL.update e f;rw[hf]at q;refine I.write (x:=l) (e:=l) (by rw[hH];exact trivial) (.inl rfl) (λb' u hb hu=>(Heap.get?_update_other s.heap (Obj.mapSeq f) (Ne.symm hb)).trans hu) ⟨_,q⟩ ?_;exact ⟨hz,its',_,hv,q⟩
theorem Inv.lnew{its:List Value}{t':Nat}(I:Inv X pins σ H s)(hv:Vals ys its)(hz:ys.length<=sizeLine):
  Inv X pins σ (upd H s.heap.objs.size (.lst ys)) { s with heap:=s.heap.push { cls:=.type "list",data:=.seq its.toArray },toks:=t' }:=
 I.laid (λ_ _ q=>Heap.get?_push_of_some _ q) (Nat.le_refl _) ⟨hz,its,0,hv,Heap.get?_push_size _ rfl⟩
theorem Inv.fresh(I:Inv X pins σ H s):H s.heap.objs.size=none:=I.hok.fresh (Nat.le_refl _)
theorem Inv.lstM (I:Inv X pins σ H s) (hH:H l=some (.lst xs)):xs.length<=sizeLine/\∃(its:List Value) (n:Nat),Vals xs its/\xs.length=its.length/\s.heap.get? l=some { cls:=.type "list",data:=.seq its.toArray n }:=by obtain ⟨z,its,n,r,e⟩:=I.hok l _ hH;exact ⟨z,its,n,r,r.length,e⟩
theorem zJ{n:Nat}(h:n<=sizeLine):Builtin.List.listTooLong n=false:=by unfold Builtin.List.listTooLong;exact decide_eq_false (by omega)
end
section
variable {X:Cx}
def Uz:V->List V->Hp->VK->Prop:=λx vs H Q=>∃l xs y,x=.ref l/\vs=[y]/\H l=some (.lst xs)/\xs.length < sizeLine/\Q .non (upd H l (.lst (xs++[y])))
theorem UG:MtM X "list.append" Uz:=by intro pins s σ H x vs v us Q I rx rv h;obtain ⟨l,xs,y,rfl,rfl,hH,hz,q⟩:=h;cases rx;obtain ⟨u,rfl,ru⟩:=rv.one;obtain ⟨z,its,n,r,hl,e⟩:=I.lstM hH;refine call_meets F.slot_list_append ⟨_,e,rfl⟩ F.entry_list_append (F.args_list_append_2 _ _) (PySem.list_append l its.toArray n u (by rw[List.size_toArray];omega)) ⟨e,?_⟩;refine ⟨.non,_,I.lset (its':=its++[u]) hH e (by simp) (r.append (.cons ru .nil)) ?_,rfl,q⟩;rw[List.length_append,List.length_singleton];omega
def UJ:V->List V->Hp->VK->Prop:=λx vs H Q=>∃l b xs zs,x=.ref l/\vs=[.ref b]/\H l=some (.lst xs)/\H b=some (.lst zs)/\xs.length+zs.length<=sizeLine/\Q .non (upd H l (.lst (xs++zs)))
theorem UL:MtM X "list.extend" UJ:=by
 intro pins s σ H x vs v us Q I rx rv h;obtain ⟨l,b,xs,zs,rfl,rfl,hH,hB,hz,q⟩:=h;cases rx;obtain ⟨u,rfl,ru⟩:=rv.one;cases ru;obtain ⟨z,its,n,r,hl,e⟩:=I.lstM hH;obtain ⟨z2,its2,n2,r2,hl2,e2⟩:=I.lstM hB;have hsz:its.toArray.size+its2.toArray.size<=sizeLine:=by rw[List.size_toArray,List.size_toArray];omega
 have hlong:¬(!its.toArray.isEmpty&&Builtin.List.listTooLong (its.toArray.size+its2.toArray.size))=true:=by rw[zJ hsz,Bool.and_false];exact Bool.false_ne_true
 refine call_meets F.slot_list_extend ⟨_,e,rfl⟩ F.entry_list_extend (F.args_list_extend_2 _ _)
  (AutoSeq1.list_extend_list_list_0 l its.toArray n b its2.toArray n2 hlong (by rw[List.size_toArray];omega) (by omega)) ⟨e,e2,?_⟩
 refine ⟨.non,_,I.lset (its':=its++its2) hH e (by simp) (r.append r2) ?_,rfl,q⟩;rw[List.length_append];omega
def UT:V->List V->Hp->VK->Prop:=λx vs H Q=>∃l xs i k y,x=.ref l/\vs=[.int i]/\H l=some (.lst xs)/\-(2 ^ 63)<=i/\i < 2 ^ 63/\seqIndex? i xs.length=some k/\xs[k]?=some y/\Q y (upd H l (.lst (xs.eraseIdx k)))
theorem UV:MtM X "list.pop" UT:=by
 intro pins s σ H x vs v us Q I rx rv h;obtain ⟨l,xs,i,k,y,rfl,rfl,hH,h1,h2,hk,hy,q⟩:=h;cases rx;obtain ⟨u,rfl,ru⟩:=rv.one;obtain ⟨t,rfl⟩:=ru;obtain ⟨z,its,n,r,hl,e⟩:=I.lstM hH;obtain ⟨w,hw,rw'⟩:=r.get hy;refine call_meets F.slot_list_pop ⟨_,e,rfl⟩ F.entry_list_pop (F.args_list_pop_2 _ _)
  (MeetsSeq.list_pop_at l its.toArray n i t k w (fitsIndex_both h1 h2) (by rw[List.size_toArray,<-hl];exact hk) (by rw[<-Array.getElem?_toList];exact hw) (by rw[List.size_toArray];omega)) ⟨e,?_⟩
 refine ⟨y,_,I.lset (its':=its.eraseIdx k) hH e ?_ (r.eraseIdx k) ?_,rw',q⟩
 ·show its.toArray.eraseIdxIfInBounds k=(its.eraseIdx k).toArray;rw[List.eraseIdxIfInBounds_toArray]
 ·have:=zH xs k;omega
theorem len_rep{α:Type}(xs:List α)(k:Nat):(List.replicate k xs).flatten.length=k * xs.length:=by
 induction k with
 |zero=>simp
 |succ k ih=>rw[List.replicate_succ,List.flatten_cons,List.length_append,ih,Nat.succ_mul,Nat.add_comm]
end
end L2
namespace Att
open PySem PySem.W PySem.Calls PyProof.Rows
theorem UW{P:Params}{h:Heap}:∀(ns:List Int)(vs:List Value),WellAll P h vs (ns.map WData.int)->IntsAre vs ns:=by
 intro ns;induction ns with
 |nil=>
  intro vs w;rw[List.map_nil]at w;cases w;exact .nil
 |cons n ns ih=>
  intro vs w;rw[List.map_cons]at w;cases w with
  |cons a b=>
   cases a;exact .cons _ _ (ih _ b)
theorem U0{l:OpenLaw}{n:Nat}(hn:l.most=some n){P:Params}{h:Heap}{args:List WData}{vals:List Value}
  (hpre:l.row.toRowW.claim.pre args=true) (hwl:WellAll P h vals args):
  ∃a vs ns,vals=[Value.ref a]/\args=[WData.list (ns.map WData.int)]/\h.get? a=some { cls:=.type "list",data:=.seq vs.toArray }/\IntsAre vs ns/\ns.length<=n:=by
 have hsh:WShape.hasAll [] args [.list .int]=true:=(pre_splitW hpre).1;have hc:l.pre.holds [] { args:=args }=true:=(pre_splitW hpre).2;obtain ⟨d,r,rfl,h1,h2⟩:=hasAllW_cons hsh;obtain rfl:=hasAllW_nil h2;obtain ⟨xs,rfl,h3⟩:=hasW_list h1;obtain ⟨ns,rfl⟩:=items_int h3;have hlen:ns.length<=n:=by
  unfold OpenLaw.pre at hc;have h4:(WTm.not (.lt (.lit (.int (n:Int))) (.len (.arg 0)))).holds [] { args:=[.list (ns.map .int)] }=true:=by have h4:=(holds_andW hc).1;rw[hn]at h4;exact h4
  have h5:=condW_of h4 (w_not (w_lt w_lit (w_len_list (w_arg rfl))));rw[List.length_map]at h5;refine Nat.le_of_not_lt λq=>?_;have q':(n:Int) < ((ns.length:Nat):Int):=by omega
  first
   | (rw[decide_eq_true q']at h5;exact absurd h5 (by decide))
   | (simp at h5;omega)
 cases hwl with
 |cons w1 w2=>
  cases w2;cases w1 with
  |list ho hall=>exact ⟨_,_,ns,rfl,rfl,ho,UW ns _ hall,hlen⟩
theorem U3(l:OpenLaw)(args:List WData):l.row.toRowW.claim.post args (.bool true) args=true:=
 postW_of (r:=l.row.toRowW) (X:=(true==true))
  (show WShape.has [] (.bool true) .bool=true by first |rfl |decide |simp[WShape.has,WShape.arms,WShape.armsAll])
  (show (WTm.eq .res (.lit (.bool true))).value [] { args:=args,res:=some (.bool true),after:=args }=some (.bool (true==true)) from w_eq_bool (w_res rfl) w_lit) rfl
theorem attach_call{l:OpenLaw}{n:Nat}{q:Program}{loose:List Str}{XP:(Str->Option Value)->Heap->Prop}{YP:World->Heap->Prop}{d:DefRec}
  (hn:l.most=some n) (hdf:d.params.defaults=[])
  (call:∀(w:World)(s₀ s₁:Shared)(mg mb:Str->Option Value)(fa:Addr)(o:Obj)(pm cd doc:Value)(a:Addr)(vs:List Value)(ns:List Int),
   Ground q loose [] XP w s₀ mg mb s₁.heap->YP w s₁.heap->
   s₁.heap.get? fa=some o->o.data=.func (docDef d.name d.params d.body d.scope pm cd doc)->s₁.heap.CodeRec cd d.name->mg d.name=some (.ref fa)->
   s₁.heap.get? a=some { cls:=.type "list",data:=.seq vs.toArray }->IntsAre vs ns->ns.length<=n->s₁.gens=#[]->
   codeAny (model l.prog w) callerA (.call (.ref fa) ⟨[.ref a],[]⟩) (λr s'=>r=.ok (.ret (.bool true))/\OldK s₁.heap s'.heap/\s'.os=s₁.os/\AllBare s'.gens) s₁):
  WalkO q loose XP YP l.row.toRowW d [] (λf vs=>PySem.call f vs):=by
 intro w s₀ s₁ mg mb G Y fa o pm cd doc dV kV ho hd hcd hD hmg hg args vals as hpre hlay hrd hwl hlo;obtain rfl:dV=.none:=Dflts.none hD hdf;obtain rfl:kV=.none:=Dflts.noKw hD;obtain ⟨a,vs,ns,rfl,rfl,hobj,hints,hlen⟩:=U0 hn hpre hwl;refine enter_call (codeAny_mono (call w s₀ s₁ mg mb fa o pm cd doc a vs ns G Y ho (fd_plain hd) hcd hmg hobj hints hlen hg) λr s' hq=>?_);obtain ⟨rfl,h2,h3,h4⟩:=hq;exact ⟨.inl ⟨.bool true,.bool true,[],rfl,λ_=>rfl,.bool true,U3 l _,λ_=>⟨List.Pairwise.nil,λ_ hm=>(nomatch hm)⟩⟩,h2,h3,h4⟩
end Att
namespace L2
open PySem PySem.Spec PyProof.Rows
theorem ur:∀{vs:List Value}{ns:List Int},IntsAre vs ns->Vals (ns.map V.int) vs
 |_,_,.nil=>.nil
 |_,_,.cons n t h=>.cons ⟨t,rfl⟩ (ur h)
def Only(H:Hp):Prop:=∀b,H b=none\/∃o xs,H b=some (.frz o (.lst xs))
theorem U4{P:Program}{w:World}{K:PySem.W.Frag}{mg mb:Str->Option Value}{CX:CXT}{k:Nat}{fa a:Addr}{fd:FuncData}{x:Str}{sp:Sp}{s₁:Shared}{vs:List Value}{ns:List Int}
  (KX:K.In s₁.heap) (hns:s₁.heap.Ns mainGlobals mg) (hb:s₁.heap.Ns builtinsNs mb) (hbb:∀x:Str,x≠"__name__"->mb x=bootBuiltins x) (hlim:s₁.heap.NoLimit) (hg:s₁.gens=#[])
  (ha:s₁.heap.get? a=some { cls:=.type "list",data:=.seq vs.toArray }) (hi:IntsAre vs ns) (hl:ns.length<=sizeLine) (hr:Room k callerA)
  (F:∀base:Heap,K.In base->base.Ns mainGlobals mg->FnOk P w K mg base CX k fa fd [x] sp) (hbind:∀(s:Shared)(u:Value),BindsTo s fd ⟨[u],[]⟩ [(x,u)])
  (hsp:∀H:Hp,Only H->SqL K H a (ns.map V.int)->sp [.ref a] H (λv _=>v=.bl true) λ_ _ _=>False)
  (hCX:∀H e s',CX [] H s₁ (λ_ _ _=>False) e s'->False):
  codeAny (model P w) callerA (.call (.ref fa) ⟨[.ref a],[]⟩) (λr s'=>r=.ok (.ret (.bool true))/\OldK s₁.heap s'.heap/\s'.os=s₁.os/\AllBare s'.gens) s₁:=by
 have rv:=ur hi;have lenV:=hi.length
 -- from an abstract heap in which nothing but the script may be tracked
 have core:∀H:Hp,Only H->SqL K H a (ns.map V.int)->HOk P w H s₁.heap->(∀b,H b≠none->b=a)->(H a≠none->K.lookup a=none)->
   codeAny (model P w) callerA (.call (.ref fa) ⟨[.ref a],[]⟩) (λr s'=>r=.ok (.ret (.bool true))/\OldK s₁.heap s'.heap/\s'.os=s₁.os/\AllBare s'.gens) s₁:=by
  intro H hO hS hok hA hK;have base_of:∀{b:Addr}{o:Obj},s₁.heap.get? b=some o->H b=none->(eO s₁.heap H).get? b=some o:=λe n=>Q7 e n;have noA:∀{b:Addr}{o:Obj}{es:Array DictEntry}{ep:Nat},s₁.heap.get? b=some o->o.data=.dict es ep->H b=none:=λ{b o es ep} e d=>by
   cases q:H b with
   |none=>rfl
   |some u=>
    have e':b=a:=hA b (by rw[q];simp);subst e';rw[ha]at e;cases e;have d':Data.seq vs.toArray _=Data.dict es ep:=d;cases d'
  have nsK:∀{b:Addr}{m:Str->Option Value},s₁.heap.Ns b m->(eO s₁.heap H).Ns b m:=λ{b m} ⟨o,es,ep,e,d,r⟩=>⟨o,es,ep,base_of e (noA e d),d,r⟩;have hKb:K.In (eO s₁.heap H):=λb o e=>base_of (KX b o e) (by
   cases q:H b with
   |none=>rfl
   |some u=>
    have e':b=a:=hA b (by rw[q];simp);subst e';rw[hK (by rw[q];simp)]at e;cases e)
  have hM:Mod K mg (eO s₁.heap H):=⟨hKb,nsK hns,⟨mb,nsK hb,hbb⟩,let ⟨mc,h1,h2⟩:=hlim;⟨mc,nsK h1,h2⟩⟩;have e0:Env0 P w K mg (eO s₁.heap H) callerA [] s₁ H:=⟨rfl,hM,λb o e=>Q8 e,Nat.le_of_eq (Q6 _ _),trivial,λb hb=>absurd (show b∈([]:List Addr) from hb) (by simp),hok,.of_eq hg⟩;refine codeAny_mono ((F _ hKb (nsK hns)).run callerA [] s₁ H ⟨[.ref a],[]⟩ [.ref a] [.ref a] _ _ hr e0 (hbind s₁ (.ref a)) (.cons rfl .nil) (hsp H hO hS)) λr s' h=>?_;cases r with
  |error e=>exact (hCX H e s' h).elim
  |ok fl=>
   cases fl with
   |next=>exact False.elim h
   |brk=>exact False.elim h
   |cont=>exact False.elim h
   |ret u=>
    obtain ⟨v,H',os,bare,un,hok',r',q⟩:=h;have q':v=.bl true:=q;subst q';obtain rfl:u=Value.bool true:=r';refine ⟨rfl,OldK.of_keep λb o e=>?_,os,bare⟩;cases q:H b with
    |none=>exact un.keep b o e q (by intro z;exact absurd (show b∈([]:List Addr) from z) (by simp)) (by simp)
    |some u=>
     rcases hO b with z |⟨ob,xs,z⟩
     ·rw[q]at z;cases z
     ·have z2:=un.frzs b ob _ z;obtain ⟨e1,_⟩:=hok b _ z;obtain ⟨e2,_⟩:=hok' b _ z2;rw[e]at e1;cases e1;exact e2
 cases hk:K.lookup a with
 |some o=>
  -- the script is one of the module's own objects
  have e:=KX a o hk;rw[ha]at e;cases e;refine core (λ_=>none) (λ_=>.inl rfl) (.inr ⟨_,vs.toArray,_,hk,rfl,rfl,rfl,by rw[List.size_toArray,lenV];exact hl,by simpa using rv⟩) (λb u z=>by have z':(none:Option HO)=some u:=z;cases z') (λb z=>absurd rfl z) λz=>absurd rfl z
 |none=>
  refine core (λb=>if b=a then some (.frz { cls:=.type "list",data:=.seq vs.toArray } (.lst (ns.map V.int))) else none) (λb=>?_) (.inl (.inr ⟨{ cls:=.type "list",data:=.seq vs.toArray },if_pos rfl⟩)) (λb u z=>?_) (λb z=>?_) λ_=>hk
  ·by_cases hb:b=a
   ·exact .inr ⟨_,_,if_pos hb⟩
   ·exact .inl (if_neg hb)
  ·by_cases hb:b=a
   ·have z':=(if_pos hb).symm.trans z;cases z';subst hb;exact ⟨ha,by rw[List.length_map];exact hl,vs,_,rv,ha⟩
   ·have z':=(if_neg hb).symm.trans z;cases z'
  ·by_cases hb:b=a
   ·exact hb
   ·exact absurd (if_neg hb) z
theorem U5{l:PySem.W.OpenLaw}{n k:Nat}{q:Program}{loose:List Str}{XP:(Str->Option Value)->Heap->Prop}{YP:World->Heap->Prop}{d:DefRec}{K:Params->PySem.W.Frag}{CX:World->CXT}{sp:World->Sp}{x:Str}
  (hn:l.most=some n) (hn2:n<=sizeLine) (hdf:d.params.defaults=[]) (hr:Room k callerA)
  (hY:∀(w:World)(h:Heap),YP w h->(K w.params).In h)
  (F:∀(w:World)(mg:Str->Option Value)(fa:Addr)(h:Heap),(K w.params).In h->h.Ns mainGlobals mg->mg d.name=some (.ref fa)->
   ∃fd:FuncData,(∀(s:Shared)(u:Value),BindsTo s fd ⟨[u],[]⟩ [(x,u)])/\
    ∀base:Heap,(K w.params).In base->base.Ns mainGlobals mg->FnOk l.prog w (K w.params) mg base (CX w) k fa fd [x] (sp w))
  (hsp:∀(w:World)(H:Hp)(a:Addr)(ns:List Int),ns.length<=n->Only H->SqL (K w.params) H a (ns.map V.int)->sp w [.ref a] H (λv _=>v=.bl true) λ_ _ _=>False)
  (hCX:∀(w:World)(H:Hp)(s:Shared)(e:Value)(s':Shared),CX w [] H s (λ_ _ _=>False) e s'->False):
  PySem.W.WalkO q loose XP YP l.row.toRowW d [] (λf vs=>PySem.call f vs):=by
 refine Att.attach_call hn hdf λw s₀ s₁ mg mb fa o pm cd doc a vs ns G Y ho hd hcd hmg hobj hints hlen hg=>?_;have KX:=hY w _ Y;obtain ⟨fd,hb,hF⟩:=F w mg fa _ KX G.T.g hmg;exact U4 KX G.T.g G.T.b G.T.builtins G.T.nolimit hg hobj hints (Nat.le_trans hlen hn2) hr hF hb (λH hO hS=>hsp w H a ns hlen hO hS) λH e s'=>hCX w H s₁ e s'
def jq(s:Stmt):Arguments:=match s with
 |.FunctionDef _ a _ _ _ _ _ _ _ _=>a
 |_=>{ posonlyargs:=[],args:=[],vararg:=none,kwonlyargs:=[],kw_defaults:=[],kwarg:=none,defaults:=[] }
def aF(s:Stmt):List Stmt:=match s with
 |.FunctionDef _ _ b _ _ _ _ _ _ _=>b
 |_=>[]
def ao(s:Stmt):Scope:=match s with
 |.FunctionDef _ _ _ _ _ _ sc _ _ _=>sc
 |_=>{ kind:=.function,names:=[],isGenerator:=false,isCoroutine:=false }
abbrev CX0:CXT:=λ_ _ _ _ _ _=>False
structure Fun(K:PySem.W.Frag)(x qual:Str)(st:Stmt)(f:Addr)(fd:FuncData):Prop where
 ex:∃(oc:Value)(od:Option Addr)(kV doc pm:Value)(an:Option Addr)(cdv ct:Value)(osl:Array (Option Value)),
  fd=PySem.W.fnOf x qual (jq st) (aF st) (ao st) .none kV doc pm an cdv ct/\K.lookup f=some ⟨oc,od,.func fd,osl⟩/\PySem.W.codeIn K cdv qual=true
 kp:PySem.W.keepIn K (.ref f)=true
section
variable {P:Program} {w:World} {K:PySem.W.Frag} {mg:Str->Option Value} {base:Heap}
theorem Fun.binds{x qual:Str}{st:Stmt}{f:Addr}{fd:FuncData}{ps:List Str}(F:Fun K x qual st f fd)
  (h:∀(kV doc pm:Value)(an:Option Addr)(cdv ct:Value)(us:List Value),us.length=ps.length->bindArgs (PySem.W.fnOf x qual (jq st) (aF st) (ao st) .none kV doc pm an cdv ct) ⟨us,[]⟩=pure (ps.zip us)):Binds K fd ps []:=by
 obtain ⟨oc,od,kV,doc,pm,an,cdv,ct,osl,rfl,lk,hcd⟩:=F.ex;exact .all (h kV doc pm an cdv ct)
theorem U6{x qual:Str}{st:Stmt}{f:Addr}{oc:Value}{od an:Option Addr}{osl:Array (Option Value)}{kV doc pm cdv ct:Value}(l:K.lookup f=some ⟨oc,od,.func (PySem.W.fnOf x qual (jq st) (aF st) (ao st) .none kV doc pm an cdv ct),osl⟩)
  (c:PySem.W.codeIn K cdv qual=true) (k:PySem.W.keepIn K (.ref f)=true):Fun K x qual st f (PySem.W.fnOf x qual (jq st) (aF st) (ao st) .none kV doc pm an cdv ct):=⟨⟨oc,od,kV,doc,pm,an,cdv,ct,osl,rfl,l,c⟩,k⟩
end
section
variable {X:Cx}
theorem pv (i:Nat) {x:Str} {pos:Pos} (hN:X.N[i]?=some x:=by rfl) (hv:Vis X.env.scope x:=by first |exact Or.inl rfl |exact Or.inr (Or.inl rfl) |exact Or.inr (Or.inr rfl)) (hd:(x==("__debug__":Str))=false:=by decide)
  (hcd:(x==("__classdict__":Str))=false:=by decide):PE X (.Name x pos) (yJ i):=yK hN hv hd hcd
end
end L2
set_option maxHeartbeats 4000000
set_option bootstrap.genMatcherCode false
set_option genSizeOf false
set_option genSizeOfSpec false
namespace L2
open PySem PySem.Spec PyProof.Rows
section
variable {X:Cx} {pins:List (Addr×Obj)} {σ:St} {H:Hp} {s:Shared} {h':Heap}
theorem Inv.turnedL{t':Nat}{ch:List Addr}(I:Inv X pins σ H s)(hf:∀b∈ch,dX X pins H b)(k:∀b o,b∉ch->s.heap.get? b=some o->h'.get? b=some o):
  Inv X pins σ H { s with heap:=h',toks:=t' }:=by
 have nit:∀b u,H b=some u->b∉ch:=λb u e z=>by
  have q:=(hf b z).1;rw[q]at e;cases e
 refine I.step (g':=s.gens) (d':=s.drawn) (ch:=ch) (λb hb=>?_) (λb o _ _ hc e _=>k b o hc e) (λb o _ _ hc e _=>⟨o.slots,k b o hc e⟩) (λ_ _ _ _ n=>n)
  (λb o hc e=>⟨o,k b o hc e⟩) (λ_ _ e=>e) (λ_ _ _ e=>e) (λb ps e=>⟨#[],by rw[e];simp⟩) (λm hm=>?_) (λb u e=>?_) I.bare
 ·obtain ⟨_,f1,_,f3,f4,f5⟩:=hf b hb;exact ⟨f3,f1,f4,f5⟩
 ·obtain ⟨o,es,ep,ho,r⟩:=hm;exact ⟨o,es,ep,k _ o (λz=>(hf _ z).2.1 rfl) ho,r⟩
 ·refine (I.hok b u e).stay (λc v hc q=>k c v ?_ q) (λ_ q=>q) λ_ _ q=>q;rcases hc with z |z
  ·rw[z];exact nit b u e
  ·exact nit c _ z
theorem Inv.track{T:Addr}{o:HO}(I:Inv X pins σ H s)(hT:dX X pins H T)(new:ObjOk X.prog X.w (upd H T o) s.heap T o):Inv X pins σ (upd H T o) s:=by
 have hn:=hT.1;have hok:HOk X.prog X.w (upd H T o) s.heap:=λb u e=>by
  by_cases hb:b=T
  ·subst hb;rw[dw]at e;cases e;exact new
  ·rw[aM hb]at e;exact (I.hok b u e).stay (λc v _ q=>q) (λc q=>by rw[aM (bH q hn)];exact q) λc xs q=>by rw[aM (bH q hn)];exact q
 obtain ⟨hp,g,d,tk,os⟩:=s;refine I.step (h':=hp) (g':=g) (d':=d) (t':=tk) (ch:=[T]) (λb hb=>?_) (λb o _ _ _ e _=>e) (λb o _ _ _ e _=>⟨o.slots,e⟩) (λb u hc _ n=>?_)
  (λb o _ e=>⟨o,e⟩) (λb xs e=>by rw[aM (bH e hn)];exact e) (λb u v e=>by rw[aM (bH e hn)];exact e) (λb ps e=>⟨#[],by rw[aM (bH e hn),e];simp⟩) (λm hm=>hm) hok I.bare
 ·have e:b=T:=by simpa using hb
  subst e;obtain ⟨_,f1,_,f3,f4,f5⟩:=hT;exact ⟨f3,f1,f4,f5⟩
 ·rw[aM (by simpa using hc)];exact n
end
def Its(x:Str):It:=⟨λi _=>i < x.cps.size,λi H v H'=>H'=H/\∃c,x.cps[i]?=some c/\v=.str ⟨#[c]⟩,λi _=>i=x.cps.size⟩
theorem zK{prog:Program}{w:World}{A:Around}(hh:A.handled=none)(I:Addr)(x:Str)(t:Tok):
  Walks prog w A I [I] [I] x.cps.size (SignAt x) (λi h=>h.IsStrIter I (strIterType x) x t i):=by
 unfold strIterType;split
 ·exact Walks.strAscii hh I x t
 ·exact Walks.strWide hh I x t
theorem ut{P:Program}{w:World}{K:PySem.W.Frag}{tg:Expr}(it:Addr)(x:Str)(t:Tok):Turn P w K tg (Its x) [it] it (λi h=>h.IsStrIter it (strIterType x) x t i) where
 mem:=by simp
 obj:=λi h st b hb=>by
  have e:b=it:=by simpa using hb
  subst e;obtain ⟨o,e,c,d⟩:=st;exact ⟨o,e,λv z=>by rw[d]at z;cases z⟩
 keep:=λi h h' st k=>let ⟨o,ho,r⟩:=st;⟨o,k it (by simp) o ho,r⟩
 item:=by intro X hP hw hK hc i pins s σ H E I hf st hg;subst hP hw hK;obtain ⟨f0,f1,f2,f3,f4,f5⟩:=hf it (by simp);have W:=zK (prog:=X.prog) (w:=X.w) (I.ok.hd hc) it x t;refine W.item i s _ _ hg st λv h' tk hv st' kk=>?_;obtain ⟨c,u,e,rfl⟩:=hv;have I1:Inv X pins σ H { s with heap:=h',toks:=tk }:=I.turned (λb o hb e=>kk b o (by simpa using hb) e) f0 f1 f3 f4 f5;obtain ⟨o,eo,cc,d⟩:=id st';exact ⟨_,rfl,oE (s:={ s with heap:=h',toks:=tk }) (n:=strIterType x) eo cc d (by unfold strIterType;split <;> decide) ⟨.str ⟨#[c]⟩,H,I1,⟨u,rfl⟩,⟨rfl,c,e,rfl⟩,st',λb hb=>(hf b hb).1⟩⟩
 done:=by intro X hP hw hK hc i pins s σ H E I hf st hg;subst hP hw hK;obtain ⟨f0,f1,f2,f3,f4,f5⟩:=hf it (by simp);have W:=zK (prog:=X.prog) (w:=X.w) (I.ok.hd hc) it x t;have hg':i=x.cps.size:=hg;subst hg';exact W.done s _ _ st λh' tk kk=>⟨rfl,I.turned (λb o hb e=>kk b o (by simpa using hb) e) f0 f1 f3 f4 f5⟩
 self:=λA i s Q E st h=>by
  unfold strIterType at st;split at st
  ·exact wpAny_pyIter_striter_ascii st h
  ·exact wpAny_pyIter_striter_wide st h
def cD(env:Env):List (Str×NameKind)->List (Str×Addr)->List (Str×Addr)
 |[],cs=>cs
 | (n,k)::r,cs=>cD env r (if (k==.free)=true then (match env.cells.lookup n with |some c=>(n,c)::cs |none=>cs) else cs)
theorem zL{env:Env}:∀{l:List (Str×NameKind)}{cs:List (Str×Addr)},(∀x c,cs.lookup x=some c->env.cells.lookup x=some c)->∀x c,(cD env l cs).lookup x=some c->env.cells.lookup x=some c
 |[],_,h,x,c,e=>h x c e
 | (n,k)::r,cs,h,x,c,e=>by
  refine zL (l:=r) (cs:=_) ?_ x c e;intro y d q;by_cases hk:(k==NameKind.free)=true
  ·rw[if_pos hk]at q;cases hn:env.cells.lookup n with
   |none=>rw[hn]at q;exact h y d q
   |some c'=>
    rw[hn]at q;simp only[List.lookup_cons]at q;cases hy:y==n with
    |true=>
     rw[hy]at q;have e1:y=n:=eq_of_beq hy;rw[e1,hn];exact q
    |false=>rw[hy]at q;exact h y d q
  ·rw[if_neg hk]at q;exact h y d q
theorem zM{env:Env}{x:Str}:∀{l:List (Str×NameKind)}{cs:List (Str×Addr)},(cs.lookup x).isSome=true->((cD env l cs).lookup x).isSome=true
 |[],_,h=>h
 | (n,k)::r,cs,h=>by
  refine zM (l:=r) (cs:=_) ?_;by_cases hk:(k==NameKind.free)=true
  ·rw[if_pos hk];cases hn:env.cells.lookup n with
   |none=>exact h
   |some c'=>
    simp only[List.lookup_cons];cases hy:x==n with
    |true=>rfl
    |false=>exact h
  ·rw[if_neg hk];exact h
theorem zN{env:Env}{x:Str}(hx:(env.cells.lookup x).isSome=true):∀{l:List (Str×NameKind)}{cs:List (Str×Addr)},(x,NameKind.free)∈l->((cD env l cs).lookup x).isSome=true
 | (n,k)::r,cs,h=>by
  rcases List.mem_cons.mp h with e |h
  ·cases e;refine zM (l:=r) (cs:=_) ?_;rw[if_pos (show (NameKind.free==NameKind.free)=true by decide)];obtain ⟨c,hc⟩:=Option.isSome_iff_exists.mp hx;rw[hc];simp
  ·exact zN hx (l:=r) h
theorem zO{scope:Scope}{env:Env}(h:∀y∈scope.names,y.2=NameKind.free->(env.cells.lookup y.1).isSome=true):closureFor scope env=pure (cD env scope.names []):=by
 simp only[closureFor];generalize ([]:List (Str×Addr))=cs;generalize scope.names=l at h;induction l generalizing cs with
 |nil=>rfl
 |cons y r ih=>
  obtain ⟨n,k⟩:=y;have ih':=λcs=>ih cs λy hy=>h y (List.mem_cons_of_mem _ hy);rw[List.forIn_cons];by_cases hk:(k==NameKind.free)=true
  ·have hk':k=NameKind.free:=eq_of_beq hk;obtain ⟨c,hc⟩:=Option.isSome_iff_exists.mp (h (n,k) List.mem_cons_self hk');have e1:cD env ((n,k)::r) cs=cD env r ((n,c)::cs):=by
    rw[cD,if_pos hk];show cD env r (match env.cells.lookup n with |some c=>(n,c)::cs |none=>cs)=_;have hc':env.cells.lookup n=some c:=hc;rw[hc']
   have e2:cellOf env n=pure c:=by unfold cellOf;have hc':env.cells.lookup n=some c:=hc;rw[hc']
   rw[e1,<-ih' ((n,c)::cs)];simp only[hk,if_true,e2];rfl
  ·have e1:cD env ((n,k)::r) cs=cD env r cs:=by rw[cD,if_neg hk]
   rw[e1,<-ih' cs];simp only[hk,if_false];rfl
theorem uv{env:Env}{x:Str}:∀{names:List (Str×NameKind)},
  (names.map λ(n,k)=>if (k==NameKind.free&&env.scope.kind==.function&&env.kindOf n==some .cell) then (n,NameKind.cell) else (n,k)).lookup x=
   (names.lookup x).map λk=>if (k==NameKind.free&&env.scope.kind==.function&&env.kindOf x==some .cell)=true then NameKind.cell else k
 |[]=>rfl
 | (n,k)::r=>by
  have ih:=@uv env x r;rw[List.map_cons];have hh:∀(c:Prop)[Decidable c],(if c then (n,NameKind.cell) else (n,k))=(n,if c then NameKind.cell else k):=λc _=>by split <;> rfl
  show List.lookup x ((if (k==NameKind.free&&env.scope.kind==.function&&env.kindOf n==some .cell)=true then (n,NameKind.cell) else (n,k))::_)=_;rw[hh];simp only[List.lookup_cons];cases hx:x==n with
  |true=>
   have e1:x=n:=eq_of_beq hx;subst e1;rfl
  |false=>exact ih
abbrev Cx.comp(X:Cx)(N':List Str)(scope:Scope)(cl:List (Str×Addr))(C:Addr)(s₁:Shared)(H₁:Hp)(fp:List Addr)(pn:List (Addr×Obj)):Cx where
 prog:=X.prog
 w:=X.w
 K:=X.K
 mg:=X.mg
 base:=X.base
 A:=X.A
 N:=N'
 s₀:=s₁
 H₀:=H₁
 env:=compEnvC scope cl C X.env
 outer:=X.stack
 stack:=X.stack
 ex:=fp
 fn:=λ_=>false
 calm:=X.calm
 pn:=pn
 xe:=λ_ _=>False
def PIf(X:Cx)(ifs:List Expr)(t:TT):Prop:=
 ∀(pins:List (Addr×Obj))(s:Shared)(σ:St)(H:Hp)(Q:Bool->Hp->Prop),Inv X pins σ H s->t σ H Q->
  wpAny (model X.prog X.w) X.A (forIn ifs true λc r=>if r=true then do let ok <-isTrue c X.env (eval c X.env);pure (ForInStep.yield ok) else pure (ForInStep.yield r)) (TP X pins σ Q) X.xe s
def U7:TT:=λ_ H Q=>Q true H
theorem U8{X:Cx}:PIf X [] U7:=λ_ _ _ H _ I h=>wpAny_tests_nil ⟨H,I,h⟩
theorem U9{X:Cx}{c:Expr}{t:TT}(h:PT X c t):PIf X [c] t:=λpins s σ H Q I q=>wpAny_tests_one (h pins s σ H Q I q)
def dB(cap:List (Option Nat))(σ:St):St:=cap.map λo=>match o with |none=>none |some j=>(σ[j]?).join
def Caps(X:Cx)(scope:Scope):List Str->List (Option Nat)->Prop
 |[],[]=>True
 |_::N',none::cap=>Caps X scope N' cap
 |x::N',some j::cap=>(X.N[j]?=some x/\scope.names.lookup x=some NameKind.free)/\Caps X scope N' cap
 |_,_=>False
theorem Caps.len{X:Cx}{scope:Scope}:∀{N':List Str}{cap:List (Option Nat)},Caps X scope N' cap->cap.length=N'.length
 |[],[],_=>rfl
 |_::N',none::cap,h=>by
  have:=Caps.len (N':=N') (cap:=cap) h;simp[this]
 |_::N',some _::cap,h=>by
  have:=Caps.len (N':=N') (cap:=cap) h.2;simp[this]
 |[],_::_,h=>False.elim h
 |_::_,[],h=>False.elim h
theorem Caps.at{X:Cx}{scope:Scope}:∀{N':List Str}{cap:List (Option Nat)}{i:Nat}{x:Str}{v:V}{σ:St},Caps X scope N' cap->N'[i]?=some x->(dB cap σ)[i]?=some (some v)->
  ∃j:Nat,X.N[j]?=some x/\scope.names.lookup x=some NameKind.free/\σ[j]?=some (some v)
 |[],[],i,x,v,σ,_,e,_=>by simp at e
 |y::N',none::cap,0,x,v,σ,h,e,q=>by simp[dB]at q
 |y::N',some j::cap,0,x,v,σ,h,e,q=>by
  have e1:y=x:=by simpa using e
  subst e1;have q1:(σ[j]?).join=some v:=by simpa [dB] using q
  refine ⟨j,h.1.1,h.1.2,?_⟩;cases z:σ[j]? with
  |none=>rw[z]at q1;cases q1
  |some o=>rw[z]at q1;exact congrArg some q1
 |y::N',none::cap,i+1,x,v,σ,h,e,q=>Caps.at (N':=N') (cap:=cap) (i:=i) h (by simpa using e) (by simpa [dB] using q)
 |y::N',some _::cap,i+1,x,v,σ,h,e,q=>Caps.at (N':=N') (cap:=cap) (i:=i) h.2 (by simpa using e) (by simpa [dB] using q)
 |[],_::_,_,_,_,_,h,_,_=>False.elim h
 |_::_,[],_,_,_,_,h,_,_=>False.elim h
def zP(X:Cx)(N':List Str)(scope:Scope)(tg:Expr)(ifs:List Expr)(elt:Expr)(J:It)(σ0:St)(H1:Hp)(Q:VK):Prop:=
 ∃W:Nat->Nat->List V->St->Hp->Prop,(∃m,W 0 m [] σ0 H1)/\∀i m ys σ' H',W i m ys σ' H'->
  (J.stop i H'/\ys.length<=sizeLine/\∀D,H' D=none->Q (.ref D) (upd H' D (.lst ys)))\/
  (J.go i H'/\ys.length < sizeLine/\∀cl C s₁ H₁ fp pn,∃g tt te,PG (X.comp N' scope cl C s₁ H₁ fp pn) tg g/\PIf (X.comp N' scope cl C s₁ H₁ fp pn) ifs tt/\PE (X.comp N' scope cl C s₁ H₁ fp pn) elt te/\
   ∀x H2,J.yld i H' x H2->g x σ' H2 λσ3 H3=>tt σ3 H3 λb H4=>if b=true then te σ3 H4 λy H5=>∃m',m' < m/\W (i+1) m' (ys++[y]) σ3 H5 else ∃m',m' < m/\W (i+1) m' ys σ3 H4)
def uw(X:Cx)(N':List Str)(scope:Scope)(tg:Expr)(ifs:List Expr)(elt:Expr)(wi:TI)(cap:List (Option Nat)):TE:=λσ H Q=>wi σ H λJ H1=>zP X N' scope tg ifs elt J (dB cap σ) H1 Q
section
variable {prog:Program} {w:World} {A:Around} {R:Result->Shared->Prop} {s:Shared}
theorem Va{elt target iter:Expr}{ifs:List Expr}{scope:Scope}{pos:Pos}{it acc:Value}{env:Env}(I:Nat->Shared->Prop)
  (turn:∀n s,I n s->wpAny (model prog w) A (pyNext it) (λr s₁=>match r with
   |none=>R (.ok .next) s₁
   |some v=>wpAny (model prog w) A (letOwnedTupleGo target it v) (λ_ s₁'=>wpAny (model prog w) A (assign target env v) (λ_ s₂=>
     wpAny (model prog w) A (forIn ifs true λc r=>if r=true then do let ok <-isTrue c env (eval c env);pure (ForInStep.yield ok) else pure (ForInStep.yield r)) (λok s₃=>
      if ok=true then wpAny (model prog w) A (eval elt env) (λx s₄=>
       wpAny (model prog w) A (call (.builtin "list.append") [acc,x]) (λ_ s₅=>∃m,m < n/\I m s₅) (λ_ _=>False) s₄) (λ_ _=>False) s₃
      else ∃m,m < n/\I m s₃) (λ_ _=>False) s₂) (λ_ _=>False) s₁') (λ_ _=>False) s₁) (λ_ _=>False) s)
  (n:Nat) (h:I n s):codeAny (model prog w) A (.compLoop (.ListComp elt [⟨target,iter,ifs,0⟩] scope pos) 0 it acc env) R s:=by
 refine codeAny_loop rfl I (λn s hI=>?_) n h;show wpAny _ A ((compTurn (.ListComp elt [⟨target,iter,ifs,0⟩] scope pos) 0 it acc env).onRaise (λx=>do noteFrame x env;theTreesLotGoes x)) _ _ s;refine wpAny_noted ?_;rw[compTurn_list];refine wpAny_bind (wpAny_standAt (wpAny_bind (wpAny_mono (turn n s hI) (λr s₁ h₁=>?_) λ_ _ h'=>False.elim h')));cases r with
 |none=>exact wpAny_pure h₁
 |some v=>
  refine wpAny_bind (wpAny_mono h₁ (λ_ s₁' h₁'=>?_) λ_ _ h'=>False.elim h');refine wpAny_bind (wpAny_mono h₁' (λ_ s₂ h₂=>wpAny_bind (wpAny_mono h₂ (λok s₃ h₃=>?_) λ_ _ h'=>False.elim h')) λ_ _ h'=>False.elim h');cases ok with
  |false=>exact wpAny_pure ⟨rfl,h₃⟩
  |true=>
   exact wpAny_bind (wpAny_bind (wpAny_mono h₃ (λx s₄ h₄=>wpAny_bind (wpAny_mono h₄ (λ_ s₅ h₅=>wpAny_pure (wpAny_pure ⟨rfl,h₅⟩)) λ_ _ h'=>False.elim h')) λ_ _ h'=>False.elim h'))
end
abbrev tx(l:List Nat):Str:=⟨l.toArray⟩
theorem bQ(l:List Nat):(tx l).length=l.length:=by simp[Str.length]
theorem oK(a b:List Nat):tx a++tx b=tx (a++b):=by show (⟨a.toArray++b.toArray⟩:Str)=⟨(a++b).toArray⟩;simp
theorem zQ{a b:List Nat}(h:tx a=tx b):a=b:=by have:=congrArg (λx:Str=>x.cps.toList) h;simpa using this
theorem oM(x:Str):x=tx x.cps.toList:=by cases x;simp
section
variable {X:Cx}
theorem zR:∀{ys:List Str}{us:List Value},Vals (ys.map V.str) us->StrsAre us ys
 |[],us,r=>by
  rw[List.map_nil]at r;cases r;exact .nil
 |y::ys,us,r=>by
  rw[List.map_cons]at r;cases r with
  |cons r1 r2=>
   obtain ⟨t,e⟩:=r1;subst e;exact .cons y t (zR r2)
def rJoin(K:PySem.W.Frag):V->List V->Hp->VK->Prop:=λx vs H Q=>∃z p ys,x=.str z/\vs=[.ref p]/\SqL K H p (ys.map V.str)/\(ys.map (·.length)).sum+ys.length * z.length<=16777216/\Q (.str (Str.join z ys)) H
theorem Vb:MtR X "str.join" (rJoin X.K):=by intro pins s σ H x xs v us Q I rx rs h;obtain ⟨z,p,ys,rfl,rfl,hq,hb,q⟩:=h;obtain ⟨t,rfl⟩:=rx;obtain ⟨u,rfl,ru⟩:=vals1 rs;cases ru;obtain ⟨its,rv,pl,hz⟩:=I.list hq;refine join_list pl.isList (by simpa using zR rv) hb λt' k=>⟨.str _,H,I.tok _,⟨_,rfl⟩,?_⟩;have e:Txt.join z ys=Str.join z ys:=StrLaws.glued_eq_join z ys;rw[e];exact q
def Vc(K:PySem.W.Frag):List V->Hp->VK->Prop:=λxs H Q=>∃x n t b,xs=[x,.ty n]/\TyOf K H x t/\PySem.W.kitOne K t (.type n)=some b/\Q (.bl b) H
theorem Vd:bw X (.builtin "isinstance") (Vc X.K):=by intro pins s σ H xs us Q I r h;obtain ⟨x,n,t,b,rfl,ty,e,q⟩:=h;obtain ⟨u,w',rfl,rx,ry⟩:=vals2 r;cases ry;exact Tw I rx ty e λtk=>⟨.bl b,H,I.tok _,rfl,q⟩
theorem Ve:bootBuiltins "bool"=some (.type "bool"):=by decide +kernel
theorem zT:bootBuiltins "int"=some (.type "int"):=by decide +kernel
theorem zU:bootBuiltins "str"=some (.type "str"):=by decide +kernel
theorem ux:bootBuiltins "list"=some (.type "list"):=by decide +kernel
theorem Vf:bootBuiltins "isinstance"=some (.builtin "isinstance"):=by decide +kernel
theorem Vg {x:Str} {T:String} {pos:Pos} (hg:Gl X x) (hm:X.mg x=none) (hv:bootBuiltins x=some (.type T)) (hn:x≠"__name__":=by decide) (hd:(x==("__debug__":Str))=false:=by decide):PE X (.Name x pos) (tC (.ty T)):=
 Rh hg hm hv (v:=.ty T) rfl hn hd
theorem Vh:OpR X (binaryOp .Mult) (λx y H Q=>∃i n,x=.str i/\y=.int n/\MulOk i n/\Q (.str (Txt.mul i n)) H):=by intro pins s σ H x y v u Q I rx ry h;obtain ⟨i,n,rfl,rfl,hok,q⟩:=h;obtain ⟨t,rfl⟩:=rx;obtain ⟨t',rfl⟩:=ry;exact SB.mul hok λt' k=>⟨.str _,H,I.tok _,⟨_,rfl⟩,q⟩
end
def uy(X:Cx)(st:List Stmt)(t:TS):Prop:=
 ∀(pins:List (Addr×Obj))(s:Shared)(σ:St)(H:Hp)(D:Ends),1<=s.toks->Inv X pins σ H s->t D σ H->wpAny (model X.prog X.w) X.A (execs st X.env) (SP X pins D) X.xe s
def PE1(X:Cx)(e:Expr)(t:TE):Prop:=
 ∀(pins:List (Addr×Obj))(s:Shared)(σ:St)(H:Hp)(Q:VK),1<=s.toks->Inv X pins σ H s->t σ H Q->wpAny (model X.prog X.w) X.A (eval e X.env) (EP X pins σ Q) X.xe s
theorem Vi{X:Cx}{e:Expr}{te:TE}{pos:Pos}(he:PE1 X e te):uy X [.Return (some e) pos] (yN te):=by intro pins s σ H D h1 I h;refine wpAny_execs_cons (wpAny_Return_some (thn (he pins s σ H _ h1 I h) λv s1 ⟨x,H1,I1,r1,q1⟩=>?_));exact ⟨x,σ,H1,I1,r1,q1⟩
theorem uz{c d:Nat}:∀l:List Nat,c∉l->l.map (λa=>if a=c then d else a)=l
 |[],_=>rfl
 |a::r,h=>by
  have h1:a≠c:=λe=>h (by rw[e];exact List.mem_cons_self);rw[List.map_cons,if_neg h1,uz r λz=>h (List.mem_cons_of_mem _ z)]
theorem zV(c d:Nat):∀parts:List Str,(∀p∈parts,c∉p.cps.toList)->(Str.join ⟨#[c]⟩ parts).cps.toList.map (λa=>if a=c then d else a)=(Str.join ⟨#[d]⟩ parts).cps.toList
 |[],_=>rfl
 |[x],h=>by
  simp only[Str.join];exact uz _ (h x List.mem_cons_self)
 |x::y::r,h=>by
  have ih:=zV c d (y::r) λp hp=>h p (List.mem_cons_of_mem _ hp);have e:∀z:Str,Str.join z (x::y::r)=x++z++Str.join z (y::r):=λz=>by simp only[Str.join]
  have ap:∀u v:Str,(u++v).cps.toList=u.cps.toList++v.cps.toList:=λu v=>by
   show (u.cps++v.cps).toList=_;simp
  rw[e,e,ap,ap,ap,ap,List.map_append,List.map_append,ih,uz _ (h x List.mem_cons_self)];simp
theorem Vj(l:List Nat)(c d:Nat):Txt.replace (tx l) (tx [c]) (tx [d])=tx (l.map λa=>if a=c then d else a):=by
 have e:(Txt.replace (tx l) ⟨#[c]⟩ ⟨#[d]⟩).cps.toList=l.map λa=>if a=c then d else a:=by rw[StrLaws.replace_one,<-zV c d _ (StrLaws.split_free (tx l) c),StrLaws.join_split]
 rw[oM (Txt.replace (tx l) (tx [c]) (tx [d]))];exact congrArg tx e
section
variable {X:Cx}
theorem Vk{o:Expr}{to:TE}{y z:Str}{ky kz:Nat}{py pz apos cpos:Pos}(ho:PE X o to)(hyz:(y==z)=false)
  (hbase:attributeBase o "replace" X.env (eval o X.env)=eval o X.env:=by rfl)
  (hfew:((backTo cpos (starEach [.Constant (.str y) ky py,.Constant (.str z) kz pz] X.env)).all (λx=>!x.1)&&(backToKw cpos (keywordEach [] X.env)).all (λx=>x.1.isSome)
  &&decide (([.Constant (.str y) ky py,.Constant (.str z) kz pz]:List Expr).length+([]:List Keyword).length+(if ([]:List Keyword).isEmpty then 0 else 1) < 30))=true:=by rfl)
  (hline:(apos.endLine==cpos.line)=true:=by rfl):
  PE1 X (.Call (.Attribute o "replace" apos) [.Constant (.str y) ky py,.Constant (.str z) kz pz] [] cpos)
   (λσ H Q=>to σ H λv H1=>∃x,v=.str x/\x.length+(x.length+1) * z.length<=16777216/\Q (.str (Txt.replace x y z)) H1):=by
 intro pins s σ H Q h1 I h;refine wpAny_Call_method_late hbase hfew hline rfl (wpAny_mono (wpAny_toks_of (n:=1) h1 (ho pins s σ H _ I h)) (λv s1 h2=>?_) (λ_ _ e=>e.2));obtain ⟨t1,v',H1,I1,r1,x,e,hb,q⟩:=h2;subst e;obtain ⟨t,rfl⟩:=r1;refine ⟨"str","str.replace",F.plainAttrs_str,F.slot_str_replace,F.type_str_replace,typeIs_str _ _ _,(λ_ e=>nomatch e),?_⟩;refine Calls.callWith_builtin (by rfl) (Calls.evalArgs_plain ?_);show wpAny _ _ (spliced [(false,eval (.Constant (.str y) ky py) X.env),(false,eval (.Constant (.str z) kz pz) X.env)]) _ _ s1;refine Calls.spliced_cons (Calls.Constant_str (Calls.spliced_cons (Calls.Constant_str (Calls.spliced_nil ?_))));exact SC.replace (by show @Ne Nat s1.toks 0;omega) (by show @Ne Nat (s1.toks+1) 0;omega) (by show @Ne Nat s1.toks (s1.toks+1);omega) hyz hb λt' k=>⟨.str _,H1,I1.tok _,⟨_,rfl⟩,q⟩
end
theorem Vl{CX:CXT}{P:Program}{w:World}{K:PySem.W.Frag}{mg:Str->Option Value}{base:Heap}{k:Nat}{f:Addr}{name qual:Str}{params:Arguments}{body:List Stmt}{scope:Scope}{dV kV doc pm cdv ct oc:Value}{an od:Option Addr}
  {osl:Array (Option Value)} {N:List Str} {x:Str} {sp:Sp} (lk:K.lookup f=some ⟨oc,od,.func (PySem.W.fnOf name qual params body scope dV kV doc pm an cdv ct),osl⟩) (hcd:PySem.W.codeIn K cdv qual=true) (S:FnScope N [x] scope)
  (hx:scope.names.lookup x=some .local) (hnc:∀y∈scope.names,y.2≠NameKind.cell) (hcf:∀n,cellsFrom n scope.names []=[])
  (len:∀vs H Q E,sp vs H Q E->vs.length=[x].length)
  (hbody:∀(A:Around)(outer:List Env)(s:Shared)(H:Hp)(vs:List V)(Q:VK)(E:XK),Room k (A.deeper (envOfC qual scope s.heap.objs.size f cdv))->sp vs H Q E->
   ∃t,uy (dh CX P w K mg base N qual scope f cdv A outer s H E) body t/\t { nx:=λ_ H'=>Q .non H',rt:=Q } (start N vs) H):
  FnOk P w K mg base CX (k+1) f (PySem.W.fnOf name qual params body scope dV kV doc pm an cdv ct) [x] sp:=by
 refine ⟨len,λA outer s H args us vs Q E hr e0 hb r hsp=>?_⟩;have hl:=len _ _ _ _ hsp;have KX:K.In s.heap:=e0.mod.kin.keeps λb o e=>(e0.bs b o e).1;have lim:s.heap.NoLimit:=e0.mod.nolimit.keeps λb o e=>(e0.bs b o e).1;obtain ⟨u,rfl⟩:∃u,us=[u]:=by
  have h2:=r.length;rw[hl]at h2;match us,h2 with
  |[u],_=>exact ⟨u,rfl⟩
 refine codeAny_call_function hr.depth (KX _ _ lk) rfl S.co S.gen rfl (PySem.W.codeRec_of KX hcd) (hb _ _ _ _ ?_);refine wpAny_newFunctionEnv (binds:=[x].zip [u]) hnc (λy hy=>?_) (λh' hns hsb=>?_) S.kind
 ·have e:y=(x,u):=by simpa using hy
  rw[e];exact hx
 have envEq:newEnv scope s.heap.objs.size mainGlobals [] (qual++Str.ofString ".<locals>.") (some f) cdv none builtinsNs=envOfC qual scope s.heap.objs.size f cdv:=by unfold envOfC newEnv;rw[hcf]
 have kp:∀b o,s.heap.get? b=some o->h'.get? b=some o:=λb o e=>hsb.extBut b o (Nat.ne_of_lt (Heap.lt_size e)) (Heap.get?_push_of_some _ e);have mEq:bindL (envOfC qual scope s.heap.objs.size f cdv).kindOf ([x].zip [u]) (λ_=>none)=λy=>(([x].zip [u]).reverse).lookup y:=by
  funext y;have hk:(envOfC qual scope s.heap.objs.size f cdv).kindOf x=some .local:=hx;show bindL (envOfC qual scope s.heap.objs.size f cdv).kindOf [(x,u)] (λ_=>none) y=List.lookup y [(x,u)];unfold bindL;rw[if_pos hk];unfold bindL;by_cases hy:y=x
  ·subst hy;simp
  ·have:(y==x)=false:=by simpa using hy
   simp[hy,List.lookup_cons,this]
 have xx:InCallC s s.heap.objs.size (bindL (envOfC qual scope s.heap.objs.size f cdv).kindOf ([x].zip [u]) λ_=>none) (cellsFrom (s.heap.objs.size+1) scope.names []) (bindC (envOfC qual scope s.heap.objs.size f cdv).kindOf ([x].zip [u]) λ_=>none)
   { s with heap:=h',toks:=s.toks+([x].zip [u]).length }:=by
  rw[mEq,hcf];exact ⟨⟨⟨h',_,rfl⟩,hns,kp,Nat.le_refl _⟩,(λn c e=>by simp at e),List.Pairwise.nil,(λn c e=>nomatch e)⟩
 show _/\codeAny (model P w) A (.func body (newEnv scope s.heap.objs.size mainGlobals [] (qual++Str.ofString ".<locals>.") (some f) cdv none builtinsNs)) _ _;rw[envEq];refine ⟨lim.keeps kp,codeAny_func ?_⟩;obtain ⟨t,ht,hq⟩:=hbody A outer s H vs Q E (hr.deeper _) hsp;have I:Inv (dh CX P w K mg base N qual scope f cdv A outer s H E) [] (start N vs) H { s with heap:=h',toks:=s.toks+([x].zip [u]).length }:=zg S hr.hd e0 hl r xx;refine wpAny_mono (ht [] _ (start N vs) H _ (Nat.le_add_left 1 s.toks) I hq) (λfl s' hs=>?_) λe s' hs=>hs;have fin:∀{σ':St}{H':Hp}{v:V}{u:Value},Inv (dh CX P w K mg base N qual scope f cdv A outer s H E) [] σ' H' s'->RelV v u->Q v H'->CE outer P w H s Q u s':=
  λ{σ' H' v u} J rv q=>⟨v,H',J.os,J.bare,J.base,J.hok,rv,q⟩
 cases fl with
 |ret u=>
  obtain ⟨v,σ',H',J,rv,q⟩:=hs;exact fin J rv q
 |next=>
  obtain ⟨σ',H',J,q⟩:=hs;exact fin (v:=V.non) (u:=Value.none) J rfl q
 |brk=>
  obtain ⟨_,_,_,q⟩:=hs;exact False.elim q
 |cont=>
  obtain ⟨_,_,_,q⟩:=hs;exact False.elim q
theorem Fun.ok1{P:Program}{w:World}{K:PySem.W.Frag}{mg:Str->Option Value}{base:Heap}{x qual:Str}{st:Stmt}{f:Addr}{fd:FuncData}{N:List Str}{y:Str}{k:Nat}{sp:Sp}(F:Fun K x qual st f fd)(S:FnScope N [y] (ao st))
  (hx:(ao st).names.lookup y=some .local) (hnc:∀z∈(ao st).names,z.2≠NameKind.cell) (hcf:∀n,cellsFrom n (ao st).names []=[]) (len:∀vs H Q E,sp vs H Q E->vs.length=[y].length)
  (hbody:∀(cdv:Value)(A:Around)(outer:List Env)(s:Shared)(H:Hp)(vs:List V)(Q:VK)(E:XK),Room k (A.deeper (envOfC qual (ao st) s.heap.objs.size f cdv))->sp vs H Q E->
   ∃t,uy (dh CX0 P w K mg base N qual (ao st) f cdv A outer s H E) (aF st) t/\t { nx:=λ_ H'=>Q .non H',rt:=Q } (start N vs) H):FnOk P w K mg base CX0 (k+1) f fd [y] sp:=by
 obtain ⟨oc,od,kV,doc,pm,an,cdv,ct,osl,rfl,lk,hcd⟩:=F.ex;exact Vl lk hcd S hx hnc hcf len λA outer s H vs Q E hr hsp=>hbody cdv A outer s H vs Q E hr hsp
open Builtin Builtin.Str
theorem Vm{prog:Program}{w:World}{A:Around}(hh:A.handled=none)(it:Addr)(x:Str)(t:Tok):
  Draws prog w A it [it] x.cps.size (λi v=>∃c u,x.cps[i]?=some c/\v=.str ⟨#[c]⟩ u) (λi h=>h.IsStrIter it (strIterType x) x t i):=by
 unfold strIterType;split
 ·exact Draws.strAscii hh it x t
 ·exact Draws.strWide hh it x t
structure ZApart(z TI TO i1 i2:Addr):Prop where
 TIz:TI≠z
 TOz:TO≠z
 i1z:i1≠z
 i2z:i2≠z
 TITO:TI≠TO
 TIi1:TI≠i1
 TIi2:TI≠i2
 TOi1:TO≠i1
 TOi2:TO≠i2
 i12:i1≠i2
section
variable {X:Cx}
theorem zW:∀{bs:List Bool}{us:List Value}{i:Nat}{v:Value},Vals (bs.map V.bl) us->us[i]?=some v->∃b,bs[i]?=some b/\v=.bool b
 |[],us,i,v,r,e=>by
  rw[List.map_nil]at r;cases r;simp at e
 |b::bs,us,i,v,r,e=>by
  rw[List.map_cons]at r;cases r with
  |cons r1 r2=>
   cases i with
   |zero=>
    cases (show _=Value.bool b from r1);exact ⟨b,rfl,by simpa using e.symm⟩
   |succ i=>exact zW (i:=i) r2 (by simpa using e)
theorem Vn:bootBuiltins "all"=some (.builtin "all"):=by decide +kernel
theorem Vo:bootBuiltins "zip"=some (.type "zip"):=by decide +kernel
theorem all_range(bs:List Bool)(n:Nat)(hn:n=bs.length):((List.range n).all λi=>(bs[i]?).getD true)=bs.all id:=by
 subst hn;rw[Bool.eq_iff_iff,List.all_eq_true,List.all_eq_true];constructor
 ·intro h b hb;obtain ⟨i,hi,e⟩:=List.mem_iff_getElem.mp hb;have:=h i (List.mem_range.mpr hi);rw[List.getElem?_eq_getElem hi,e]at this;simpa using this
 ·intro h i hi;have hi':=List.mem_range.mp hi;rw[List.getElem?_eq_getElem hi'];simpa using h _ (List.getElem_mem hi')
theorem Vp (hc:X.calm=true):bw X (.builtin "all") (λxs H Q=>∃(p:Addr) (bs:List Bool),xs=[.ref p]/\SqL X.K H p (bs.map V.bl)/\Q (.bl (bs.all id)) H):=by
 intro pins s σ H xs us Q I r h;obtain ⟨p,bs,rfl,hq,q⟩:=h;obtain ⟨u,rfl,ru⟩:=vals1 r;cases ru;obtain ⟨its,rv,pl,hz⟩:=I.list hq;have hl:=pl.isList;have hlt:p < s.heap.objs.size:=by obtain ⟨_,e,_⟩:=hl;exact Heap.lt_size e
 refine call_all_walk (wpAny_pyIter_list hl ?_);refine ⟨s.heap.objs.size,[s.heap.objs.size,p],[s.heap.objs.size],its.toArray.size,_,_,λi=>(bs[i]?).getD true,rfl,Walks.list (A:=X.A.in1) (I.ok.hd hc) _ p (Nat.ne_of_lt hlt) its.toArray,
  ⟨⟨_,Heap.get?_push_size _ rfl,rfl,rfl⟩,hl.push _⟩,λi v s' Q' E' hP hQ=>?_,λh' tk hk=>?_⟩
 ·obtain ⟨b,e,rfl⟩:=zW rv (i:=i) (v:=v) (by simpa using hP);simp only[e,Option.getD_some]at hQ;exact wpAny_truthy_bool hQ
 ·have e:=all_range bs its.toArray.size (by rw[List.size_toArray,<-rv.length,List.length_map]);rw[e];exact ⟨.bl _,H,I.kept (λb o q=>hk b o (λhm=>by rw[List.mem_singleton.mp hm]at q;exact Nat.lt_irrefl _ (Heap.lt_size q)) (Heap.get?_push_of_some _ q)),rfl,q⟩
theorem Vq:OpR X (compareOp .Is) (λx y H Q=>∃i j,x=.bl i/\y=.bl j/\Q (.bl (i==j)) H):=by intro pins s σ H x y v u Q I rx ry h;obtain ⟨i,j,rfl,rfl,q⟩:=h;cases rx;cases ry;exact is_bool ⟨.bl _,H,I,rfl,q⟩
theorem Vr:bw X (.type "int") (λxs H Q=>∃z n,xs=[.str z]/\PySem.intText? z=some n/\z.length<=640/\Q (.int n) H):=by intro pins s σ H xs us Q I r h;obtain ⟨z,n,rfl,hn,hl,q⟩:=h;obtain ⟨u,rfl,t,rfl⟩:=vals1 r;exact PySem.W.KIN.call_text hn hl ⟨.int n,H,I.tok _,⟨_,rfl⟩,q⟩
def Vs:V->Option Int->Option Int->Hp->VK->Prop:=λx lo hi H Q=>∃z,x=.str z/\z.length<=sizeLine/\Q (.str (Txt.slice z lo hi)) H
theorem Vt:SlR X Vs:=by
 intro pins s σ H x v vl vu lo hi sl Q I rx hs pl pu h;obtain ⟨z,rfl,hz,q⟩:=h;obtain ⟨t,rfl⟩:=rx;refine ⟨"str",_,slot_str_getitem.lookup,typeIs_str _ _ _,?_⟩;obtain ⟨l,el,e1⟩:∃l:Option (Int×Tok),vl=partValue l/\l.map (·.1)=lo:=by
  cases pl with
  |none=>exact ⟨none,rfl,rfl⟩
  |int i t=>exact ⟨some (i,t),rfl,rfl⟩
 obtain ⟨u,eu,e2⟩:∃u:Option (Int×Tok),vu=partValue u/\u.map (·.1)=hi:=by
  cases pu with
  |none=>exact ⟨none,rfl,rfl⟩
  |int i t=>exact ⟨some (i,t),rfl,rfl⟩
 subst el eu e1 e2;refine wpAny_getItem_str_slice (l:=l) (u:=u) (st:=none) hs rfl ?_;unfold sliceMade;unfold Txt.slice at q;show (if ((1:Int)==1&&(slicePicked z l u none).length==z.length)=true then Made.val (.str z t) else Made.str ⟨((slicePicked z l u none).filterMap (z.cps[·]?)).toArray⟩).post _ _;have ep:slicePicked z l u none=Builtin.Str.strSliceIndices (l.map (·.1)) (u.map (·.1)) 1 z.length:=rfl;rw[ep];by_cases hc:((1:Int)==1&&(Builtin.Str.strSliceIndices (l.map (·.1)) (u.map (·.1)) 1 z.length).length==z.length)=true
 ·rw[if_pos hc]at q ⊢;exact ⟨.str z,H,I,⟨t,rfl⟩,q⟩
 ·rw[if_neg hc]at q ⊢;refine ⟨?_,⟨.str _,H,I.tok _,⟨_,rfl⟩,q⟩⟩;show (List.filterMap _ _).toArray.size<=sizeLine;rw[List.size_toArray];have h1:=sliceIndices_le (l.map (·.1)) (u.map (·.1)) z.length;have h2:=List.length_filterMap_le (λx=>z.cps[x]?) (Builtin.Str.strSliceIndices (l.map (·.1)) (u.map (·.1)) 1 z.length);omega
end
theorem zX{X:Cx}{elt tg iter:Expr}{ifs:List Expr}{scope:Scope}{pos:Pos}{wi:TI}{pins:List (Addr×Obj)}{s:Shared}{σ:St}{H:Hp}{Q:VK}{RR:Value->Addr->Result->Shared->Prop}(N':List Str)(cap:List (Option Nat))(hc:X.calm=true)(hi:PI X tg iter wi)(hcap:Caps X scope N' cap)
  (hcell:scope.names.all (λy=>y.2 != NameKind.cell)=true)
  (hfr:scope.names.all (λy=>y.2 != NameKind.free||(X.env.kindOf y.1==some NameKind.cell||X.env.kindOf y.1==some NameKind.free))=true)
  (hkind:scope.kind=.function) (I:Inv X pins σ H s) (h:uw X N' scope tg ifs elt wi cap σ H Q)
  (fin:∀(D C:Addr)(H':Hp)(s4:Shared)(m:Str->Option Value),Inv X pins σ H' s4->Q (.ref D) H'->s4.heap.Ns C m->dX X pins H' C->RR (.ref D) C (.ok .next) s4):
  wpAny (model X.prog X.w) X.A (eval iter X.env) (λx s₁=>wpAny (model X.prog X.w) X.A (pyIter x) (λit s₂=>wpAny (model X.prog X.w) X.A (newList []) (λacc s₃=>
   wpAny (model X.prog X.w) X.A (newFunctionEnv scope X.env.globals (cD X.env scope.names []) [] X.env.qual none .none (some X.env)) (λcenv s₄=>
    codeAny (model X.prog X.w) X.A (.compStart (.ListComp elt [⟨tg,iter,ifs,0⟩] scope pos) 0 it acc { cenv with scope:=relabel scope X.env }) (RR acc cenv.locals) s₄) X.xe s₃) X.xe s₂) X.xe s₁) X.xe s:=by
 have hcell':∀y∈scope.names,y.2≠NameKind.cell:=λy hy=>by
  have:=List.all_eq_true.mp hcell y hy;simpa using this
 have hfr':∀y∈scope.names,y.2=NameKind.free->(X.env.kindOf y.1=some NameKind.cell\/X.env.kindOf y.1=some NameKind.free):=λy hy hl=>by
  have:=List.all_eq_true.mp hfr y hy;simpa [hl] using this
 have hcs:∀y∈scope.names,y.2=NameKind.free->(X.env.cells.lookup y.1).isSome=true:=λy hy hl=>by
  obtain ⟨c,e⟩:=I.ok.has y.1 (hfr' y hy hl);rw[e];rfl
 have clsub:∀x c,(cD X.env scope.names []).lookup x=some c->X.env.cells.lookup x=some c:=zL (λx c e=>by simp at e);have clhas:∀x,scope.names.lookup x=some NameKind.free->∃c,(cD X.env scope.names []).lookup x=some c:=λx e=>by
  have hm:=PySem.mem_of_lookup e;exact Option.isSome_iff_exists.mp (zN (hcs _ hm rfl) hm)
 have rel:∀x,(relabel scope X.env).names.lookup x=(scope.names.lookup x).map λk=>if (k==NameKind.free&&X.env.scope.kind==.function&&X.env.kindOf x==some .cell)=true then NameKind.cell else k:=λx=>uv
 have relfree:∀x,((relabel scope X.env).names.lookup x=some NameKind.cell\/(relabel scope X.env).names.lookup x=some NameKind.free)->scope.names.lookup x=some NameKind.free:=λx e=>by
  rw[rel x]at e;cases z:scope.names.lookup x with
  |none=>rw[z]at e;rcases e with e |e <;> cases e
  |some k=>
   have nk:=hcell' _ (PySem.mem_of_lookup z);rw[z]at e;cases k with
   |free=>rfl
   |cell=>exact absurd rfl nk
   | «local»=>rcases e with e |e <;> simp[show (NameKind.«local»==NameKind.free)=false by decide]at e
   |globalExplicit=>rcases e with e |e <;> simp[show (NameKind.globalExplicit==NameKind.free)=false by decide]at e
   |globalImplicit=>rcases e with e |e <;> simp[show (NameKind.globalImplicit==NameKind.free)=false by decide]at e
 generalize hcl:cD X.env scope.names []=cl at clsub clhas;refine thn (hi pins s σ H _ I h) λxv s0 h0=>thn h0 λitv s2 h2=>?_;obtain ⟨it,fp,tn,J,H2,e,I2,T,st2,f2,W,⟨m0,w0⟩,turn⟩:=h2;subst e;refine wpAny_newObj_type (wpAny_newFunctionEnv hcell' (by intro y hy;simp at hy) (λh₁ hns₁ hsb₁=>?_) hkind);dsimp only at hns₁ hsb₁ ⊢;generalize hH2:s2.heap.push { cls:=.type "list",dict:=none,data:=.seq ([]:List Value).toArray }=HP at hns₁ hsb₁ ⊢;have hC:HP.objs.size=s2.heap.objs.size+1:=by rw[<-hH2,Heap.size_push]
 have hDC:s2.heap.objs.size≠HP.objs.size:=by rw[hC];exact Nat.ne_of_lt (Nat.lt_succ_self _)
 have below:∀b,b < s2.heap.objs.size->b≠HP.objs.size/\b≠s2.heap.objs.size:=λb hb=>⟨by rw[hC];exact Nat.ne_of_lt (Nat.lt_succ_of_lt hb),Nat.ne_of_lt hb⟩;have old:∀b o,s2.heap.get? b=some o->h₁.get? b=some o:=λb o e=>hsb₁.extBut b o (below b (Heap.lt_size e)).1 (Heap.get?_push_of_some _ (hH2 ▸ Heap.get?_push_of_some _ e));have hacc:h₁.get? s2.heap.objs.size=some { cls:=.type "list",data:=.seq ([]:List Value).toArray 0 }:=hsb₁.extBut _ _ hDC (Heap.get?_push_of_some _ (hH2 ▸ Heap.get?_push_size _ rfl));have hst₁:tn 0 h₁:=T.keep _ _ _ st2 λb _ o e=>old b o e;have fplt:∀b∈fp,b < s2.heap.objs.size:=λb hb=>by
  obtain ⟨o,e,_⟩:=T.obj _ _ st2 b hb;exact Heap.lt_size e
 have fslt:∀b∈frs X.stack,b < s2.heap.objs.size:=λb hb=>by
  obtain ⟨_,o,e,_⟩:=I2.stack.mem hb;exact Heap.lt_size e
 have celllt:∀x c,cl.lookup x=some c->c < s2.heap.objs.size:=λx c e=>by
  obtain ⟨v,q⟩:=I2.cell x c (clsub x c e);exact q.lt
 have hDf:H2 s2.heap.objs.size=none:=I2.hok.fresh (Nat.le_refl _);have hCf:H2 HP.objs.size=none:=I2.hok.fresh (by rw[hC];exact Nat.le_succ _);have nofs:∀b∈fp,b∉frs X.stack:=λb hb z=>by
  obtain ⟨_,f1,f2',_⟩:=f2 b hb;rcases List.mem_cons.mp (I2.stkSub b z) with e |e
  ·exact f1 e
  ·exact f2' e
 have ok':(X.comp N' scope cl HP.objs.size s2 H2 fp (X.pn++pins)).Ok:=
  ⟨I2.ok.mod,hkind,I2.ok.glob,I2.ok.blt,(by show s2.heap.objs.size<=HP.objs.size;rw[hC];exact Nat.le_succ _),
   λx y c e1 e2=>I2.ok.inj x y c (clsub x c e1) (clsub y c e2),λx hx=>clhas x (relfree x hx),λx c hf _=>(by cases hf),I2.ok.hd,I2.ok.frames,.inl rfl,
   λb hb=>⟨(below b (fplt b hb)).1,λx c e=>(f2 b hb).2.2.2.2.1 x c (clsub x c e)⟩,I2.bs,Nat.le_trans I2.ok.bsz I2.sz,
   λb o e hb=>(by
    rcases (f2 b hb).2.2.2.1 with z |z
    ·exact I2.ok.noex b o e z
    ·exact absurd (Nat.lt_of_lt_of_le (Heap.lt_size e) (Nat.le_trans I2.ok.bsz z)) (Nat.lt_irrefl _)),
   nofs,I2.stack,I2.stkFree⟩
 have pnOk:∀p∈X.pn++pins,p.1 < s2.heap.objs.size/\p.1∉frs X.stack:=λp hp=>by
  obtain ⟨e,_,n1,n2,_⟩:=I2.pin p hp;refine ⟨Heap.lt_size e,λz=>?_⟩;rcases List.mem_cons.mp (I2.stkSub _ z) with e |e
  ·exact n1 e
  ·exact n2 e
 have I0:∀t,Inv (X.comp N' scope cl HP.objs.size s2 H2 fp (X.pn++pins)) [(s2.heap.objs.size,{ cls:=.type "list",data:=.seq ([]:List Value).toArray 0 })] (dB cap σ) H2 { s2 with heap:=h₁,toks:=t }:=λt=>
  ⟨ok',rfl,I2.bare,Un.kept old,⟨_,hns₁,λi x v e1 e2 _=>by
    obtain ⟨j,nj,fr,sj⟩:=hcap.at e1 e2;obtain ⟨m,_,hl⟩:=I2.loc;have hk:=hfr' (x,NameKind.free) (PySem.mem_of_lookup fr) rfl;obtain ⟨u,r,l⟩:=hl j x v nj sj (by rcases hk with hk |hk;exact .inr (.inl hk);exact .inr (.inr hk));refine ⟨u,r,.inr ⟨?_,?_⟩⟩
    ·show (relabel scope X.env).names.lookup x=some .cell\/(relabel scope X.env).names.lookup x=some .free;rw[rel x,fr,Option.map_some];by_cases hh:(NameKind.free==NameKind.free&&X.env.scope.kind==ScopeKind.function&&X.env.kindOf x==some NameKind.cell)=true
     ·exact .inl (by rw[if_pos hh])
     ·exact .inr (by rw[if_neg hh])
    ·obtain ⟨c,ec⟩:=clhas x fr;have ec':=clsub x c ec;rcases l with ⟨k1,_⟩ |⟨_,c',e',q⟩
     ·rcases hk with hk |hk <;> (rw[hk]at k1;cases k1)
     ·have ecc:X.env.cells.lookup x=some c:=ec';rw[e']at ecc;cases ecc;obtain ⟨o,ho,hd⟩:=q;exact ⟨_,ec,o,old _ _ ho,hd⟩⟩,
   λx c e=>(by obtain ⟨v,o,ho,hd⟩:=I2.cell x c (clsub x c e);exact ⟨v,o,old _ _ ho,hd⟩),hCf,λx c e=>I2.freeC x c (clsub x c e),
   λp hp=>by
    rcases List.mem_append.mp hp with z |z
    ·obtain ⟨e,n0,_,_,d⟩:=I2.pin p z;exact ⟨old _ _ e,n0,(below _ (pnOk p z).1).1,(pnOk p z).2,d⟩
    ·have e:p=_:=List.mem_singleton.mp z;subst e;exact ⟨hacc,hDf,hDC,λz=>absurd (fslt _ z) (Nat.lt_irrefl _),λv z=>by have z':Data.seq _ _=Data.cell v:=z;cases z'⟩,
   I2.hok.kept old,by show (dB cap σ).length=N'.length;unfold dB;rw[List.length_map];exact hcap.len⟩
 have fpok:∀{H':Hp}{o:Obj},(∀b∈fp,H' b=none)->∀b∈fp,dX (X.comp N' scope cl HP.objs.size s2 H2 fp (X.pn++pins)) [(s2.heap.objs.size,o)] H' b:=λhn b hb=>
  ⟨hn b hb,(below b (fplt b hb)).1,nofs b hb,.inl hb,λx c e=>(f2 b hb).2.2.2.2.1 x c (clsub x c e),λp hp=>by
   rcases List.mem_append.mp hp with z |z
   ·exact (f2 b hb).2.2.2.2.2 p z
   ·have e:p=_:=List.mem_singleton.mp z;subst e;exact Ne.symm (below b (fplt b hb)).2⟩
 have loop:∀s₃:Shared,s₃={ s2 with heap:=h₁,toks:=s2.toks+([]:List (Str×Value)).length }->
   codeAny (model X.prog X.w) X.A (.compLoop (.ListComp elt [⟨tg,iter,ifs,0⟩] scope pos) 0 (.ref it) (.ref s2.heap.objs.size) (compEnvC scope cl HP.objs.size X.env))
    (RR (.ref s2.heap.objs.size) HP.objs.size) s₃:=by
  rintro s₃ rfl;refine Va
   (λk s'=>∃(i:Nat) (ys:List V) (its:List Value) (n:Nat) (σ':St) (H':Hp),Inv (X.comp N' scope cl HP.objs.size s2 H2 fp (X.pn++pins)) [(s2.heap.objs.size,{ cls:=.type "list",data:=.seq its.toArray n })] σ' H' s'/\Vals ys its/\
    tn i s'.heap/\(∀b∈fp,H' b=none)/\W i k ys σ' H') ?_ m0 ⟨0,[],[],0,_,H2,I0 _,.nil,hst₁,λb hb=>(f2 b hb).1,w0⟩
  rintro k s3 ⟨i,ys,its,n,σ3,H3,I3,rv3,st3,fr3,w3⟩;rcases turn i k ys σ3 H3 w3 with ⟨stop,hz,qn⟩ |⟨go,hz,step⟩
  ·refine thn (T.done (X.comp N' scope cl HP.objs.size s2 H2 fp (X.pn++pins)) rfl rfl rfl hc i _ s3 σ3 H3 _ I3 (fpok fr3) st3 stop) λr s4 ⟨hr,I4⟩=>?_;subst hr;obtain ⟨m,hn,_⟩:=I4.loc;obtain ⟨pD,nD,_,_,_⟩:=I4.pin (s2.heap.objs.size,{ cls:=.type "list",data:=.seq its.toArray n }) (List.mem_append_right _ (List.mem_singleton.mpr rfl));have nC:H3 HP.objs.size=none:=I4.free;have u:Un (frs X.stack) fp H2 H3 s2.heap s4.heap:=I4.base;refine fin s2.heap.objs.size HP.objs.size (upd H3 s2.heap.objs.size (.lst ys)) s4 m ?_ (qn _ nD) hn ?_
   ·refine I2.call' (s':=s4) (ch:=fp) I4.os ?_ ?_ I4.bare λb hb=>⟨(f2 b hb).2.2.2.1,(f2 b hb).2.1,(f2 b hb).2.2.2.2.1,(f2 b hb).2.2.2.2.2⟩
    ·refine ⟨λb o e n0 hb hx=>u.keep b o e n0 hb hx,λb o e n0 hb hx=>u.slot b o e n0 hb hx,λb o e n0 hx=>?_,λb o e hx=>u.there b o e hx,λb xs e=>?_,λb o v e=>?_,λb ps e=>?_⟩
     ·rw[aM (below b (Heap.lt_size e)).2];exact u.free b o e n0 hx
     ·rw[aM (bH e hDf)];exact u.tups b xs e
     ·rw[aM (bH e hDf)];exact u.frzs b o v e
     ·rw[aM (bH e hDf)];exact u.tbls b ps e
    ·intro b o e;by_cases hb:b=s2.heap.objs.size
     ·subst hb;rw[dw]at e;cases e;exact ⟨hz,its,n,rv3,pD⟩
     ·rw[aM hb]at e;exact (I4.hok b o e).stay (λc v _ q=>q) (λc q=>by rw[aM (bH q nD)];exact q) λc xs q=>by rw[aM (bH q nD)];exact q
   ·have hle:s2.heap.objs.size<=HP.objs.size:=by rw[hC];exact Nat.le_succ _
    exact I2.fpOk hle (by rw[aM (Ne.symm hDC)];exact nC)
  ·refine thn (T.item (X.comp N' scope cl HP.objs.size s2 H2 fp (X.pn++pins)) rfl rfl rfl hc i _ s3 σ3 H3 _ I3 (fpok fr3) st3 go) λr s4 ⟨u,hr,h4⟩=>?_;subst hr;refine thn h4 λ_ s5 ⟨x,H5,I5,r5,y5,st5,fr5⟩=>?_;obtain ⟨g,tt,te,hg,ht,he,body⟩:=step cl HP.objs.size s2 H2 fp (X.pn++pins);have I5':=I5.pinned (fpok fr5) (T.obj _ _ st5);have tail:∀{σ7:St}{H7:Hp}{s7:Shared}{po:Obj},Inv (X.comp N' scope cl HP.objs.size s2 H2 fp (X.pn++pins)) ([(s2.heap.objs.size,po)]++jm fp s5.heap) σ7 H7 s7->tn (i+1) s7.heap/\∀b∈fp,H7 b=none:=λ{σ7 H7 s7 po} I7=>by
    refine ⟨T.keep _ _ _ st5 λb hb o e=>(I7.pin (b,o) (List.mem_append_right _ (List.mem_append_right _ (oF hb e)))).1,λb hb=>?_⟩;obtain ⟨o,e,d⟩:=T.obj _ _ st5 b hb;exact (I7.pin (b,o) (List.mem_append_right _ (List.mem_append_right _ (oF hb e)))).2.1
   refine thn (hg _ s5 σ3 H5 x u _ I5' r5 (body x H5 y5)) λ_ s6 ⟨σ6,H6,I6,q6⟩=>?_;refine thn (ht _ s6 σ6 H6 _ I6 q6) λok s7 ⟨H7,I7,q7⟩=>?_;cases ok with
   |false=>
    obtain ⟨m',hm,w7⟩:=q7;obtain ⟨t7,n7⟩:=tail I7;exact ⟨m',hm,i+1,ys,its,n,σ6,H7,I7.unpinned,rv3,t7,n7,w7⟩
   |true=>
    refine thn (he _ s7 σ6 H7 _ I7 q7) λv s8 ⟨y,H8,I8,r8,m',hm,w8⟩=>?_;obtain ⟨t8,n8⟩:=tail I8;obtain ⟨pD,nD,_,_,_⟩:=I8.pin (s2.heap.objs.size,{ cls:=.type "list",data:=.seq its.toArray n }) (List.mem_append_right _ (List.mem_append_left _ (List.mem_singleton.mpr rfl)));have hl:=rv3.length;refine append_at (hsz:=by rw[List.size_toArray];omega) pD λh9 hs9 hD9=>?_;have I8a:Inv (X.comp N' scope cl HP.objs.size s2 H2 fp (X.pn++pins)) [] σ6 H8 s8:=I8.pins_of λp hp=>nomatch hp;have I9:Inv (X.comp N' scope cl HP.objs.size s2 H2 fp (X.pn++pins)) [] σ6 H8 { s8 with heap:=h9 }:=I8a.turned (t':=s8.toks) (it:=s2.heap.objs.size) (λb o hb e=>hs9.extBut b o hb e) nD hDC (.inr (Nat.le_refl _))
     (λx c e z=>absurd (celllt x c e) (by rw[z];exact Nat.lt_irrefl _)) (λp hp z=>by
      rcases List.mem_append.mp hp with hp |hp
      ·exact absurd (pnOk p hp).1 (by rw[z];exact Nat.lt_irrefl _)
      ·exact nomatch hp)
    have hD9':h9.get? s2.heap.objs.size=some { cls:=.type "list",data:=.seq (its++[v]).toArray (n+1) }:=by rw[hD9,List.push_toArray]
    refine ⟨m',hm,i+1,ys++[y],its++[v],n+1,σ6,H8,I9.pins_of λp hp=>?_,rv3.append (.cons r8 .nil),T.keep _ _ _ t8 λb hb o e=>hs9.extBut b o (below b (fplt b hb)).2 e,n8,w8⟩;have e:p=_:=List.mem_singleton.mp hp;subst e;exact ⟨hD9',nD,hDC,λz=>absurd (fslt _ z) (Nat.lt_irrefl _),λv z=>by have z':Data.seq _ _=Data.cell v:=z;cases z'⟩
 exact codeAny_compStart_list (loop _ rfl) (T.self X.A 0 _ _ _ hst₁ (loop _ rfl))
theorem Vu{X:Cx}{elt tg iter:Expr}{ifs:List Expr}{scope:Scope}{pos:Pos}{wi:TI}(N':List Str)(cap:List (Option Nat))(hc:X.calm=true)(hi:PI X tg iter wi)(hcap:Caps X scope N' cap)
  (hcell:scope.names.all (λy=>y.2 != NameKind.cell)=true) (hnames:scope.names.all (λy=>y.2 != NameKind.local||scope.names.lookup y.1==some NameKind.local)=true)
  (hfr:scope.names.all (λy=>y.2 != NameKind.free||(X.env.kindOf y.1==some NameKind.cell||X.env.kindOf y.1==some NameKind.free))=true)
  (hkind:scope.kind=.function) (hs:∀x,foldedSetIterable iter X.env x=pure x):
  PE X (.ListComp elt [⟨tg,iter,ifs,0⟩] scope pos) (uw X N' scope tg ifs elt wi cap):=by
 intro pins s σ H Q I h;have hnames':∀y∈scope.names,y.2=NameKind.local->scope.names.lookup y.1=some NameKind.local:=λy hy hl=>by
  have:=List.all_eq_true.mp hnames y hy;simpa [hl] using this
 have hcs:∀y∈scope.names,y.2=NameKind.free->(X.env.cells.lookup y.1).isSome=true:=λy hy hl=>by
  have:=List.all_eq_true.mp hfr y hy;obtain ⟨c,e⟩:=I.ok.has y.1 (by simpa [hl] using this);rw[e];rfl
 rw[eval_ListComp];refine wpAny_comprehension_free (use:=none) (Q:=EP X pins σ Q) rfl hs (zO hcs) hkind hnames'
  (zX (RR:=λacc C=>compPost (model X.prog X.w) X.A X.xe none (EP X pins σ Q) acc C) N' cap hc hi hcap hcell hfr hkind I h λL C H' s4 m I4 q hn fC=>?_)
 obtain ⟨f0,f1,f2,f3,f4,f5⟩:=fC;exact ⟨m,hn,λh' hs'=>⟨.ref L,H',I4.turned (t':=s4.toks) (it:=C) (λb o hb e=>hs'.extBut b o hb e) f0 f1 f3 f4 f5,rfl,q⟩⟩
theorem Vv{X:Cx}{elt tg iter:Expr}{ifs:List Expr}{scope:Scope}{pos py spos:Pos}{wi:TI}{i:Nat}{y:Str}(hN:X.N.Nodup)(hiy:X.N[i]?=some y)(hy:Loc X.env.scope y)(N':List Str)(cap:List (Option Nat))(hc:X.calm=true)(hi:PI X tg iter wi)(hcap:Caps X scope N' cap)
  (hcell:scope.names.all (λy=>y.2 != NameKind.cell)=true:=by rfl) (hnames:scope.names.all (λy=>y.2 != NameKind.local||scope.names.lookup y.1==some NameKind.local)=true:=by rfl)
  (hfr:scope.names.all (λy=>y.2 != NameKind.free||(X.env.kindOf y.1==some NameKind.cell||X.env.kindOf y.1==some NameKind.free))=true:=by rfl)
  (hkind:scope.kind=.function:=by rfl) (hs:∀x,foldedSetIterable iter X.env x=pure x:=by intro _;rfl)
  (hsw:swapsWith (.ListComp elt [⟨tg,iter,ifs,0⟩] scope pos) (some (.Name y py)) spos.line X.env=pure true:=by rfl)
  (hf:X.fn y=true\/X.env.scope.names.lookup y=some .local:=by first |exact .inl rfl |exact .inr rfl |assumption):
  PS X (.Assign [.Name y py] (.ListComp elt [⟨tg,iter,ifs,0⟩] scope pos) spos) (oA (uw X N' scope tg ifs elt wi cap) (ou i)):=by
 intro pins s σ H D I h;have hnames':∀y∈scope.names,y.2=NameKind.local->scope.names.lookup y.1=some NameKind.local:=λy hy hl=>by
  have:=List.all_eq_true.mp hnames y hy;simpa [hl] using this
 have hcs:∀y∈scope.names,y.2=NameKind.free->(X.env.cells.lookup y.1).isSome=true:=λy hy hl=>by
  have:=List.all_eq_true.mp hfr y hy;obtain ⟨c,e⟩:=I.ok.has y.1 (by simpa [hl] using this);rw[e];rfl
 rw[exec_Assign_Name_used _ _ _ _ hsw];refine wpAny_bind (wpAny_standAt (wpAny_bind ?_));show wpAny _ X.A (do let _ <-comprehension (.ListComp elt [⟨tg,iter,ifs,0⟩] scope pos) scope X.env _ (newList []) false (eval iter X.env) (some (assign (.Name y py) X.env))) _ _ s;refine wpAny_bind (wpAny_mono (wpAny_comprehension_free (use:=some (assign (.Name y py) X.env)) (Q:=λ_ s'=>SP X pins D .next s') rfl hs (zO hcs) hkind hnames'
  (zX (RR:=λacc C=>compPost (model X.prog X.w) X.A X.xe (some (assign (.Name y py) X.env)) (λ_ s'=>SP X pins D .next s') acc C) N' cap hc hi hcap hcell hfr hkind I h λL C H' s4 m I4 q hn fC=>?_)) (λ_ s' hq=>wpAny_pure (wpAny_pure hq)) λ_ _ e=>e)
 obtain ⟨oC,es,ep,eC,rC⟩:=id hn;obtain ⟨f0,f1,f2,f3,f4,f5⟩:=fC;have ncell:∀v,oC.data≠.cell v:=λv z=>by rw[rC.1]at z;cases z
 have I5:Inv X (pins++[(C,oC)]) σ H' s4:=I4.pins_of λp hp=>by
  rcases List.mem_append.mp hp with z |z
  ·exact I4.pin p (List.mem_append_right _ z)
  ·have e:p=_:=List.mem_singleton.mp z;subst e;exact ⟨eC,f0,f1,f2,ncell⟩
 refine wpAny_assign_Name (oh I5 hN hiy hy (v:=.ref L) (u:=.ref L) rfl (λs5 I6=>?_) hf);have eC5:s5.heap.get? C=some oC:=(I6.pin (C,oC) (List.mem_append_right _ (List.mem_append_right _ (List.mem_singleton.mpr rfl)))).1;have I7:Inv X pins (σ.set i (some (.ref L))) H' s5:=I6.pins_of λp hp=>I6.pin p (List.mem_append_right _ (List.mem_append_left _ hp));refine ⟨m,⟨oC,es,ep,eC5,rC⟩,λh'' hs''=>?_⟩;exact ⟨_,H',I7.turned (t':=s5.toks) (it:=C) (λb o hb e=>hs''.extBut b o hb e) f0 f1 f3 f4 f5,q⟩
section
variable {X:Cx}
theorem Vw:OpR X (compareOp .IsNot) (λx y H Q=>∃i j,x=.bl i/\y=.bl j/\Q (.bl (i != j)) H):=by intro pins s σ H x y v u Q I rx ry h;obtain ⟨i,j,rfl,rfl,q⟩:=h;cases rx;cases ry;exact isnot_bool ⟨.bl _,H,I,rfl,q⟩
theorem zY:∀us:List Value,(∀v∈us,∃x:V,RelV x v)->∃xs,Vals xs us
 |[],_=>⟨[],.nil⟩
 |u::r,h=>by
  obtain ⟨x,hx⟩:=h u List.mem_cons_self;obtain ⟨xs,hr⟩:=zY r λv hv=>h v (List.mem_cons_of_mem _ hv);exact ⟨x::xs,.cons hx hr⟩
end
def noStar:Expr->Bool
 |.Starred ..=>false
 |_=>true
theorem cF(e:Expr)(es:List Expr)(env:Env)(h:noStar e=true):starEach (e::es) env=(false,eval e env)::starEach es env:=by cases e <;> first |rfl |cases h
theorem Vx(its:List Value):slicePick its.toArray none none (some (-1))=its.reverse.toArray:=by
 have e:(List.range its.length).map (λk:Nat=>((its.length:Int) - 1 + -1 * (k:Int)).toNat)=(List.range its.length).map λk=>its.length - 1 - k:=by apply List.map_congr_left;intro k _;omega
 have e2:(sliceRange ((its.length:Int) - 1) (-1) (-1))=(List.range its.length).map λk=>its.length - 1 - k:=by
  rw[<-e];unfold sliceRange;dsimp only;rw[if_neg (by decide)];congr 2;by_cases h:(its.length:Int) - 1 > -1
  ·rw[if_pos h,show (-(-1):Int)=1 by decide,Int.ediv_one];omega
  ·rw[if_neg h];omega
 have e3:((List.range its.length).map λk=>its.length - 1 - k).filterMap (λx=>its.toArray[x]?)=its.reverse:=by
  have h1:∀x∈(List.range its.length).map (λk=>its.length - 1 - k),its.toArray[x]?=some (its.getD x .none):=by intro x hx;obtain ⟨k,hk,rfl⟩:=List.mem_map.mp hx;have:=List.mem_range.mp hk;rw[List.getElem?_toArray,List.getD_eq_getElem?_getD,List.getElem?_eq_getElem (by omega)];rfl
  have h2:∀l:List Nat,(∀x∈l,its.toArray[x]?=some (its.getD x .none))->(l.filterMap λx=>its.toArray[x]?)=l.map λx=>its.getD x .none:=λl=>by
   induction l with
   |nil=>intro _;rfl
   |cons a l ih=>intro hl;rw[List.map_cons,<-ih λx hx=>hl x (List.mem_cons_of_mem _ hx),List.filterMap_cons,hl a List.mem_cons_self]
  rw[h2 _ h1,List.map_map];apply List.ext_getElem
  ·simp
  ·intro i hi hj;rw[List.getElem_map,List.getElem_range,List.getElem_reverse];have:its.length - 1 - i < its.length:=by simp at hi;omega
   show its.getD (its.length - 1 - i) .none=_;rw[List.getD_eq_getElem?_getD,List.getElem?_eq_getElem this];rfl
 show ((sliceRange ((its.toArray.size:Int) - 1) (-1) (-1)).filterMap λx=>its.toArray[x]?).toArray=_;rw[List.size_toArray,e2,e3]
def Vy(K:PySem.W.Frag):V->V->Hp->VK->Prop:=λx y H Q=>y=.int (-1)/\∃a xs,x=.ref a/\SqL K H a xs/\∀p,H p=none->Q (.ref p) (upd H p (.lst xs.reverse))
theorem Vals.back{xs:List V}{us:List Value}(r:Vals xs us):Vals xs.reverse us.reverse:=Vals.reverse r
variable {X:Cx} {e st:Expr} {te ts:TE} {p2 pos:Pos}
theorem Vz(he:PE X e te)(hs:PE X st ts):PE X (.Subscript e (.Slice none none (some st) p2) pos) (λσ H Q=>te σ H λx H1=>ts σ H1 λy H2=>Vy X.K x y H2 Q):=by intro pins s σ H Q I h;refine Subscript_ (thn (he pins s σ H _ I h) λv s1 ⟨x,H1,I1,r1,q1⟩=>?_);refine wpAny_Slice (thn (uo pins s1 σ H1 (λl H2=>l=none/\H2=H1) I1 ⟨rfl,rfl⟩) λvl s2 hy=>?_);obtain ⟨l,H2,I2,pl,rfl,rfl⟩:=hy;refine thn (uo pins s2 σ H2 (λl H3=>l=none/\H3=H2) I2 ⟨rfl,rfl⟩) λvu s3 hy=>?_;obtain ⟨u,H3,I3,pu,rfl,rfl⟩:=hy;rw[evalPart_some];refine thn (hs pins s3 σ H3 _ I3 q1) λvs s4 hy=>?_;obtain ⟨y,H4,I4,r4,rfl,a,xs,rfl,hx,q⟩:=hy;obtain ⟨t,rfl⟩:=r4;cases r1;have I5:Inv X pins σ H4 { s4 with heap:=s4.heap.push { cls:=.type "slice",data:=.fields #[vl,vu,.int (-1) t] } }:=I4.kept (t':=s4.toks) λb ob q=>Heap.get?_push_of_some _ q;obtain ⟨its,r,ht,hz⟩:=I5.list hx;have hlen:=r.length;refine tail_any (ops:=[.ref a,.ref s4.heap.objs.size]) (T:="list") ht.isList.typeIs slot_list_getitem.lookup ?_ (by with_unfolding_all rfl);refine wpAny_getItem_list_slice ht.isList (Heap.IsSliceOf.new ..) pl pu (.int (-1) t) (by simp) ?_ (by rw[List.size_toArray] <;> omega);rw[Vx];refine ⟨.ref _,_,I5.laid (t':=s4.toks) (o:=.lst xs.reverse) (λb ob q=>Heap.get?_push_of_some _ q) (Nat.le_refl _) ?_,rfl,q _ (I5.hok.fresh (Nat.le_refl _))⟩;exact ⟨by rw[List.length_reverse];exact hz,_,0,r.back,Heap.get?_push_size _ rfl⟩
def Tr(h0:Heap)(H:Hp)(h:Heap)(a:Addr)(c:Value):Prop:=
 ∃oe vs T oT ts,h.get? a=some oe/\oe.cls=c/\oe.data=.fields vs/\vs[1]?=some (.ref T)/\T≠a/\h.get? T=some oT/\oT.data=.fields ts/\ts[3]?=some .none/\
  h0.get? a=none/\h0.get? T=none/\H a=none/\H T=none
def CX1(P:Program)(w:World):CXT:=λouter H s E e s'=>
 ∃(a:Addr)(c:Value)(H':Hp),e=.ref a/\s'.os=s.os/\AllBare s'.gens/\Un (frs outer) [] H H' s.heap s'.heap/\HOk P w H' s'.heap/\Tr s.heap H' s'.heap a c/\E c none H'
section
variable {X:Cx} {pins:List (Addr×Obj)} {σ:St} {H:Hp} {s:Shared}
theorem zZ{P:Program}{w:World}(Y:Cx):jn (CX1 P w) Y λ_ _ _=>False:=λ_ _ _ _ _ _ _ h=>by
 obtain ⟨_,_,_,_,_,_,_,_,_,q⟩:=h;exact q.elim
end
abbrev veM:List Value:=[.type "ValueError",.type "Exception",.type "BaseException",.type "object"]
def uA:List Value->Bool
 |[.type a,.type b,.type c,.type d]=>a=="ValueError"&&b=="Exception"&&c=="BaseException"&&d=="object"
 |_=>false
theorem VB{l:List Value}(h:uA l=true):l=veM:=by
 unfold uA at h;split at h
 ·simp only[Bool.and_eq_true,beq_iff_eq]at h;obtain ⟨⟨⟨rfl,rfl⟩,rfl⟩,rfl⟩:=h;rfl
 ·cases h
def z6:Value->Bool
 |.str _ _=>true
 |_=>false
def nsB(K:PySem.W.Frag)(N:Addr):Bool:=match K.lookup N with
 |some ⟨_,_,.dict es _,_⟩=>es.toList.all (λe=>z6 e.key)&&quietNames.all λn=>(nsFind es n).isNone
 |_=>false
theorem z7{K:PySem.W.Frag}{N:Addr}{h:Heap}(KX:K.In h)(b:nsB K N=true):∃m,h.Ns N m/\∀n∈quietNames,m n=none:=by
 unfold nsB at b;split at b
 ·rename_i c d es ep sl e;rw[Bool.and_eq_true,List.all_eq_true,List.all_eq_true]at b;refine ⟨nsFind es,⟨_,es,ep,KX _ _ e,rfl,λx hx=>?_,λ_=>rfl⟩,λn hn=>by simpa using b.2 n hn⟩;have:=b.1 x (Array.mem_toList_iff.mpr hx);unfold z6 at this;split at this
  ·rename_i y t e;exact ⟨_,_,e⟩
  ·cases this
 ·cases b
def z8(K:PySem.W.Frag)(A:Addr):Bool:=match K.lookup A with
 |some ⟨_,_,.cls cd,_⟩=>nsB K cd.ns
 |_=>false
def oN(K:PySem.W.Frag):List Value->Bool
 |[]=>false
 |v::tl=>(match v with |.ref A=>z8 K A&&oN K tl |_=>uA (v::tl))
theorem z9{K:PySem.W.Frag}{h:Heap}(KX:K.In h):∀{l:List Value},oN K l=true->OwnTailQ h veM l
 |[],b=>by cases b
 |v::tl,b=>by
  unfold oN at b;split at b
  ·rename_i A;rw[Bool.and_eq_true]at b;have b1:=b.1;unfold z8 at b1;split at b1
   ·rename_i c d cd sl e;obtain ⟨m,hm,hq⟩:=z7 KX b1;exact .own (KX _ _ e) hm hq (z9 KX b.2)
   ·cases b1
  ·rw[VB b];exact .base
def isRef(C:Addr):Value->Bool
 |.ref a=>a==C
 |_=>false
def isNew:Option Value->Bool
 |some (.builtin s)=>s=="ValueError.__new__"
 |_=>false
def Aa:Value->Bool
 |.type s=>s=="type"
 |_=>false
def gn(K:PySem.W.Frag)(C:Addr):Bool:=match K.lookup C with
 |some ⟨ty,_,.cls cd,⟨[_,_,_,_,k,_]⟩⟩=>Aa ty&&isNew k&&nsB K cd.ns&&!cd.hasDel&&(match cd.mro with |v::tl=>isRef C v&&oN K tl |[]=>false)
 |_=>false
theorem VD {K:PySem.W.Frag} {C:Addr} {h:Heap} {mg:Str->Option Value} {x:Str} (KX:K.In h) (b:gn K C=true) (hm:mg x=some (.ref C)):OwnClsQ x C veM "ValueError.__new__" mg h:=by
 unfold gn at b;split at b
 ·rename_i ty dd cd k0 k1 k2 k3 k k5 e;simp only[Bool.and_eq_true]at b;obtain ⟨⟨⟨⟨b1,b2⟩,b3⟩,b5⟩,b4⟩:=b;obtain ⟨m,hns,hq⟩:=z7 KX b3;have e1:ty=.type "type":=by
   unfold Aa at b1;split at b1
   ·rw[beq_iff_eq]at b1;rw[b1]
   ·cases b1
  have e2:k=some (.builtin "ValueError.__new__"):=by
   unfold isNew at b2;split at b2
   ·rw[beq_iff_eq]at b2;rw[b2]
   ·cases b2
  obtain ⟨nm,bs,mro,ns,q,hd,sn,sub,ab,col,del⟩:=cd;dsimp only at b4 hns b5;have e4:del=false:=by simpa using b5
  subst e4;split at b4
  ·rename_i v tl;rw[Bool.and_eq_true]at b4;have e3:v=.ref C:=by
    have:=b4.1;unfold isRef at this;split at this
    ·rw[beq_iff_eq]at this;rw[this]
    ·cases this
   subst e1 e2 e3;exact ⟨hm,tl,ns,nm,q,bs,hd,sn,sub,ab,col,dd,k0,k1,k2,k3,k5,m,KX _ _ e,hns,hq,z9 KX b4.2⟩
  ·cases b4
 ·cases b
theorem VF{h:Heap}{bmB bm:List Value}(t:OwnTail h bmB bm){v:Value}(hv:bmB.contains v=true):bm.contains v=true:=by
 induction t with
 |base=>exact hv
 |own _ _ _ _ ih=>rw[List.contains_cons,ih,Bool.or_true]
theorem Ab{h h':Heap}(k:∀b o,h.get? b=some o->h'.get? b=some o){N:Addr}{m:Str->Option Value}(n:h.Ns N m):h'.Ns N m:=by obtain ⟨o,es,ep,e,r⟩:=n;exact ⟨o,es,ep,k _ _ e,r⟩
theorem VG{h h':Heap}(k:∀b o,h.get? b=some o->h'.get? b=some o){bmB bm:List Value}(t:OwnTail h bmB bm):OwnTail h' bmB bm:=by
 induction t with
 |base=>exact .base
 |own e n i _ ih=>exact .own (k _ _ e) (Ab k n) i ih
section
variable {X:Cx}
abbrev TJ:=St->Hp->(Hp->Prop)->Prop
def PJ(X:Cx)(es:List Expr)(t:TJ)(n:Nat):Prop:=∀(pins:List (Addr×Obj))(s:Shared)(σ:St)(H:Hp)(Q:Hp->Prop)(out:Str),Inv X pins σ H s->out.length+n<=100000->t σ H Q->
 wpAny (model X.prog X.w) X.A (joinParts out (evalEach es X.env)) (EP X pins σ λv H'=>(∃x,v=.str x)/\Q H') X.xe s
theorem VH:PJ X [] (λ_ H Q=>Q H) 0:=λpins s σ H Q out I hl q=>by
 refine joinParts_nil ⟨.str out,H,I.tok _,⟨_,rfl⟩,⟨_,rfl⟩,q⟩ ?_;have:sizeLine≥100000:=by decide
 omega
theorem oO(x y:Str):(x++y).length=x.length+y.length:=by show (x.cps++y.cps).size=_;rw[Array.size_append];rfl
theorem VJ{y:Str}{k:Nat}{p:Pos}{es:List Expr}{t:TJ}{n:Nat}(h:PJ X es t n):PJ X (.Constant (.str y) k p::es) t (y.length+n):=λpins s σ H Q out I hl q=>by
 have hz:sizeLine≥100000:=by decide
 refine joinParts_consE (joinParts_cons (Calls.Constant_str ?_));dsimp only;refine ⟨by rw[oO];omega,h pins _ σ H Q _ (I.tok _) (by rw[oO];omega) q⟩
theorem digits_le:∀n:Fin 100,(Str.ofString (toString (n.val:Int))).length<=3:=by decide +kernel
theorem VL{e:Expr}{te:TE}{p:Pos}{es:List Expr}{t:TJ}{n:Nat}(he:PE X e te)(h:PJ X es t n):PJ X (.FormattedValue e (-1) none p::es) (λσ H Q=>te σ H λv H1=>(∃m:Nat,v=.int m/\m < 100)/\t σ H1 Q) (3+n):=λpins s σ H Q out I hl q=>by
 have hz:sizeLine≥100000:=by decide
 refine joinParts_consE (joinParts_cons (FormattedValue_plain (thn (he pins s σ H _ I q) λv s1 hy=>?_)));obtain ⟨x,H1,I1,r1,⟨m,rfl,hm⟩,q1⟩:=hy;obtain ⟨tk,rfl⟩:=r1;have hd:(Str.ofString (toString (m:Int))).length<=3:=digits_le ⟨m,hm⟩;refine formatField_int_small ?_ ?_
 ·have:(m:Int).natAbs=m:=Int.natAbs_natCast m;rw[this];exact Nat.lt_of_le_of_lt (Nat.log2_le_self m) (by omega)
 ·dsimp only;exact ⟨by rw[oO];omega,h pins _ σ H1 Q _ ((I1.tok _)) (by rw[oO];omega) q1⟩
theorem VM{v1 v2:Expr}{es:List Expr}{t:TJ}{n:Nat}{pos:Pos}(h:PJ X (v1::v2::es) t n)(hn:n<=100000):PE X (.JoinedStr (v1::v2::es) pos) (λσ H Q=>t σ H λH1=>∀x,Q (.str x) H1):=λpins s σ H Q I q=>by
 refine JoinedStr_many ?_;refine wpAny_mono (h pins s σ H _ Str.empty I (by show 0+n<=_;omega) q) (λv s1 hy=>?_) λ_ _ z=>z;obtain ⟨x,H1,I1,r1,⟨y,rfl⟩,q1⟩:=hy;exact ⟨_,H1,I1,r1,q1 y⟩
def Throws(X:Cx)(E:XK):Prop:=∀(pins:List (Addr×Obj))(σ:St)(H:Hp)(s:Shared)(h':Heap)(a:Addr)(c:Value)(args:List Value),Inv X pins σ H s->s.heap.MadeExcOf h' a c args->E c none H->X.xe (.ref a) { s with heap:=h' }
theorem Ac{x:Str}{C:Addr}{np cpos pos:Pos}{e:Expr}{es:List Expr}{ta:TA}{E:XK}(hc:X.calm=true)(hg:Gl X x)(hm:X.mg x=some (.ref C))(hb:gn X.K C=true)(hE:Throws X E)(ha:PA X (e::es) ta)
  (hdb:(x==("__debug__":Str))=false:=by decide) (he:starEach (e::es) X.env=(false,eval e X.env)::starEach es X.env:=by rfl) (hpl:(backTo cpos (starEach es X.env)).any (·.1)=false:=by rfl):
  PS X (.Raise (some (.Call (.Name x np) (e::es) [] cpos)) none pos) (λ_ σ H=>ta σ H λvs H1=>vs.length<=sizeLine/\E (.ref C) none H1):=by
 intro pins s σ H D I h;have kb:=I.ok.mod.kin;obtain ⟨bm,N,nm,q,bs,hd,sn,sub,ab,col,dd,k0,k1,k2,k3,k5,mN,b1,b2,b3,b4⟩:=(VD kb hb hm:OwnClsQ x C veM "ValueError.__new__" X.mg X.base).own.obj;refine wpAny_Raise_call_subT (nm:=nm) (q:=q) (N:=N) (bs:=bs) (hdct:=hd) (sn:=sn) (sub:=sub) (ab:=ab) (col:=col) (dd:=dd) (k0:=k0) (k1:=k1) (k2:=k2) (k3:=k3) (k5:=k5) (F.excBase_ValueError) (VF b4 (by decide)) (I.ok.hd hc) ?_ b3 (uf I hg hm ⟨rfl,?_⟩ hdb)
 ·rw[he];exact hpl
 ·have hsp:=ha cpos pins s σ H _ I h;rw[he]at hsp ⊢;refine Calls.evalArgs_plain (wpAny_mono hsp (λvs s2 hy=>?_) λ_ _ z=>z);obtain ⟨ws,H2,I2,r2,hl,q2⟩:=hy;refine ⟨rfl,by rw[<-r2.length];exact hl,I2.bk _ _ b1,Ab I2.bk b2,VG I2.bk b4,λh' a m=>hE pins σ H2 s2 h' a _ _ I2 m q2⟩
end
section
variable {X:Cx}
variable {pins:List (Addr×Obj)} {σ:St} {H:Hp} {s:Shared}
structure Caught(X:Cx)(H:Hp)(s:Shared)(H':Hp)(a:Addr)(c:Value)(s':Shared):Prop where
 os:s'.os=s.os
 bare:AllBare s'.gens
 un:Un (frs X.stack) [] H H' s.heap s'.heap
 hok:HOk X.prog X.w H' s'.heap
 tr:Tr s.heap H' s'.heap a c
variable {H':Hp} {a:Addr} {c:Value} {s':Shared}
end
open Builtin.ObjectAttr Builtin.Getset_descriptor
open PySem.W (findIn mroIn clsIn typeIn Looks InstAt looks_findIn looks_mroIn looks_typeIn)
def Ad(K:PySem.W.Frag)(D:Addr):Bool:=
 findIn K (.ref D) "__class__"==some (some (.builtin "object.__class__"))&&findIn K (.ref D) "__getattribute__"==some (some (.builtin "BaseException.__getattribute__"))&&findIn K (.ref D) "__getattr__"==some none &&
  mroIn K D (.type "object")==some true&&mroIn K D (.type "BaseException")==some true&&(clsIn K D).isSome
open PySem.W (findIn mroIn clsIn typeIn Looks looks_findIn looks_mroIn looks_typeIn)
section
variable {X:Cx}
def XO(H:Hp)(a c:Addr):Prop:=∃o y,H a=some (.frz o (.own y))/\o.cls=.ref c
def valOf:V->Value
 |.ref a=>.ref a
 |.ty n=>.type n
 |_=>.none
end
section
variable {X:Cx}
def XP(X:Cx)(pins:List (Addr×Obj))(ex:Value->St->Hp->Prop)(σ:St)(e:Value)(s1:Shared):Prop:=∃a c H1 s0 H',e=.ref a/\Inv X pins σ H1 s0/\Caught X H1 s0 H' a c s1/\ex c σ H'
def Ae (K:PySem.W.Frag) (C:Addr):Bool:=typeIn K (.ref C)==some (.type "type")&&(clsIn K C).isSome&&mroIn K C (.type "BaseException")==some true
end
open PySem.SeqAt
section
variable {X:Cx}
theorem uB:∀{bs:List Bool}{us:List Value},Vals (bs.map V.bl) us->us=bs.map Value.bool
 |[],us,r=>by cases r;rfl
 |b::bs,us,r=>by
  cases r with
  |cons r1 r2=>
   have e:_=Value.bool b:=r1;rw[e,uB r2];rfl
theorem Af(k:Bool){bs:List Bool}:∀y,y∈(bs.map Value.bool)->∀(A:Around)(s:Shared),EqAt A s y (.bool k) (isBoolOf k y):=by intro y hy A s;obtain ⟨b,_,rfl⟩:=List.mem_map.mp hy;exact EqAt.bool_bool b k
theorem VN(k:Bool)(bs:List Bool):(bs.map Value.bool).countP (isBoolOf k)=bs.count k:=by
 induction bs with
 |nil=>rfl
 |cons b bs ih=>
  rw[List.map_cons,List.countP_cons,ih,List.count_cons];rfl
def VP(K:PySem.W.Frag):V->List V->Hp->VK->Prop:=λx vs H Q=>∃(p:Addr)(bs:List Bool),x=.ref p/\vs=[.bl true]/\SqL K H p (bs.map V.bl)/\Q (.int (bs.count true:Nat)) H
theorem VR:MtR X "list.count" (VP X.K):=by intro pins s σ H x xs v us Q I rx rs h;obtain ⟨p,bs,rfl,rfl,hq,q⟩:=h;cases rx;obtain ⟨u,rfl,ru⟩:=vals1 rs;cases ru;obtain ⟨its,rv,⟨o,n,ho,hc,hd,hdd⟩,hz⟩:=I.list hq;obtain ⟨cls,dd,data,sl⟩:=o;simp only at hc hd hdd;subst hc hd hdd;have e:=uB rv;subst e;refine call_meets PySem.F.slot_list_count ⟨_,ho,rfl⟩ PySem.F.entry_list_count (PySem.F.args_list_count_2 _ _) (list_countAt p _ n _ sl (.bool true) (isBoolOf true)) ⟨ho,λy hy=>Af true y (by simpa using hy) _ _,?_⟩;refine ⟨.int _,H,I.tok _,⟨_,rfl⟩,?_⟩;rw[show ((bs.map Value.bool).toArray).toList=bs.map Value.bool from rfl,VN];exact q
def VV(K:PySem.W.Frag):V->List V->Hp->VK->Prop:=λx vs H Q=>∃(p:Addr)(bs:List Bool),x=.ref p/\vs=[.bl true]/\SqL K H p (bs.map V.bl)/\true∈bs/\Q (.int (bs.idxOf true:Nat)) H
theorem Ag(bs:List Bool)(j:Nat)(h:j < (bs.map Value.bool).length)(h':j < bs.length):isBoolOf true (bs.map Value.bool)[j]=(bs[j]==true):=by rw[List.getElem_map];rfl
theorem V0:MtR X "list.index" (VV X.K):=by
 intro pins s σ H x xs v us Q I rx rs h;obtain ⟨p,bs,rfl,rfl,hq,hin,q⟩:=h;cases rx;obtain ⟨u,rfl,ru⟩:=vals1 rs;cases ru;obtain ⟨its,rv,⟨o,n,ho,hc,hd,hdd⟩,hz⟩:=I.list hq;obtain ⟨cls,dd,data,sl⟩:=o;simp only at hc hd hdd;subst hc hd hdd;have e:=uB rv;subst e;have hj:bs.idxOf true < bs.length:=List.idxOf_lt_length_iff.mpr hin;have hz':bs.length<=sizeLine:=by rw[List.length_map]at hz;exact hz
 have hs:sizeLine < 2 ^ 63 - 1:=by decide
 refine call_meets PySem.F.slot_list_index ⟨_,ho,rfl⟩ PySem.F.entry_list_index (PySem.F.args_list_index_2 _ _) (list_indexAt p _ n _ sl (.bool true) (isBoolOf true) (bs.idxOf true) (by simpa using hj) (by omega) ?_ ?_) ⟨ho,λy hy=>Af true y (by simpa using hy) _ _,?_⟩
 ·have h3:bs.idxOf true < (bs.map Value.bool).length:=by rw[List.length_map];exact hj
  show isBoolOf true ((bs.map Value.bool)[bs.idxOf true]'h3)=true;rw[Ag bs _ h3 hj];simpa using List.getElem_idxOf hj
 ·intro j hjs hlt;have h2:j < bs.length:=by omega
  have h3:j < (bs.map Value.bool).length:=by rw[List.length_map];exact h2
  show isBoolOf true ((bs.map Value.bool)[j]'h3)=false;rw[Ag bs j h3 h2];have h4:j < bs.findIdx (·==true):=hlt;simpa using List.not_of_lt_findIdx h4
 ·exact ⟨.int _,H,I.tok _,⟨_,rfl⟩,q⟩
end
section
variable {X:Cx}
theorem V1:OpR X (binaryOp .FloorDiv) (rI (λ_ j=>0 < j/\j < 1152921504606846976) λi j=>.int (i / j)):=opI λi j _ _ _ _ _ hc q=>by
 have h1:(0:Int) < j:=hc.1;have h2:j < 1152921504606846976:=hc.2;refine floordiv_int (by omega) (by rw[Int.fdiv_eq_ediv_of_nonneg i (by omega)];exact q) (.inl (PyProof.noPylong_of_log2 ?_));have:j.natAbs.log2 < 60:=(Nat.log2_lt (by omega)).mpr (by show j.natAbs < 1152921504606846976;omega);omega
def uC(m:Nat):Str:=Str.ofString (toString (m:Int))
theorem V2{m:Nat}(h:m < 100):(m:Int).natAbs.log2 < 1920:=by have:(m:Int).natAbs=m:=Int.natAbs_natCast m;rw[this];exact Nat.lt_of_le_of_lt (Nat.log2_le_self m) (by omega)
theorem V3:bw X (.type "str") (λxs H Q=>∃m:Nat,xs=[.int m]/\m < 100/\Q (.str (uC m)) H):=by intro pins s σ H xs us Q I r h;obtain ⟨m,rfl,hm,q⟩:=h;obtain ⟨u,rfl,ru⟩:=vals1 r;obtain ⟨t,rfl⟩:=ru;exact PySem.P.str_of_int (V2 hm) ⟨.str _,H,I.tok _,⟨_,rfl⟩,q⟩
end
end L2
namespace HT
open PySem PySem.Spec PyProof.Rows Builtin
theorem V4:fillsNumberSlot (.type "tuple") "mul"=pure false:=
 PySem.fillsNumberSlot_seq (id:="tuple.__mul__") (r:=some (.builtin "tuple.__rmul__")) PySem.F.slot_tuple_mul.lookup (by decide +kernel) PySem.F.slot_tuple_rmul.lookup (by decide +kernel)
theorem V5:seqRepeat? (.type "tuple")=pure (some (.builtin "tuple.__mul__")):=by unfold seqRepeat?;rw[PySem.seqSlot_of (T:="tuple") (name:="__mul__") (id:="tuple.__mul__") PySem.F.slot_tuple_mul.lookup (by decide +kernel),PySem.seqSlot_of (T:="tuple") (name:="__rmul__") (id:="tuple.__rmul__") PySem.F.slot_tuple_rmul.lookup (by decide +kernel)];rfl
theorem V6(a:Int)(t:Tok)(l:Addr)(items:Array Value)(n:Nat)(dd:Option Addr)(sl:Array (Option Value)):
  Meets (Builtin.«int.__rmul__» ⟨[.int a t,.ref l],[]⟩) (λ_ R s=>s.heap.get? l=some { cls:=.type "tuple",dict:=dd,data:=.seq items n,slots:=sl }/\R (.ok (.ret Value.notImplemented)) s):=
 .of_wp λprog w A R s h=>by obtain ⟨hp,g,d,tk,os⟩:=s;obtain ⟨hl,h⟩:=h;wp_walk;exact ⟨_,rfl,h⟩
theorem V7(l:Addr)(items:Array Value)(n:Nat)(dd:Option Addr)(sl:Array (Option Value))(k:Int)(t:Tok)(h2:2<=k)(hk:k<=1000)(hne:items.isEmpty=false)(hz:items.size * k.toNat<=sizeLine)(hz2:(List.foldl (λx1 x2=>x1++x2) #[] (List.replicate k.toNat items)).size<=sizeLine):
  Meets (Builtin.«tuple.__mul__» ⟨[.ref l,.int k t],[]⟩) (λ_ R s=>s.heap.get? l=some { cls:=.type "tuple",dict:=dd,data:=.seq items n,slots:=sl }/\
   R (.ok (.ret (.ref s.heap.objs.size))) { s with heap:=s.heap.push { cls:=.type "tuple",data:=.seq ((List.replicate k.toNat items).foldl (· ++ ·) #[]) } }):=
 .of_wp λprog w A R s h=>by
  obtain ⟨hp,g,d,tk,os⟩:=s;obtain ⟨hl,h⟩:=h;have a1:(decide (k < -(2 ^ 63))||decide (k≥2 ^ 63))=false:=by rw[decide_eq_false (by omega),decide_eq_false (by omega)];rfl
  have a2:(items.isEmpty||k==1)=false:=by rw[hne,Bool.false_or,beq_eq_false_iff_ne];omega
  have a3:(decide (k<=0)||items.isEmpty)=false:=by rw[decide_eq_false (by omega),hne];rfl
  have hs:(items.size:Int) * k=((items.size * k.toNat:Nat):Int):=by rw[Int.natCast_mul,Int.toNat_of_nonneg (by omega)]
  have hsl:sizeLine<=1152921504606846975:=by decide
  have a4:¬((items.size:Int) * k > (2 ^ 63 - 1) / 8):=by rw[hs];omega
  have a5:¬(Tuple.tupleTooMany ((items.size:Int) * k)=true):=by unfold Tuple.tupleTooMany;rw[decide_eq_true_iff,hs];omega
  wp_walk
  rw[if_neg (by rw[a1];exact Bool.false_ne_true)];wp_walk
  rw[if_neg (by rw[a2];exact Bool.false_ne_true)];dsimp only;rw[if_neg (by rw[a3];exact Bool.false_ne_true),if_neg a4,if_neg a5];unfold Tuple.tupleExact;wp_walk
  exact ⟨_,rfl,h⟩
end HT
namespace L2
open PySem PySem.Spec PyProof.Rows
section
variable {X:Cx}
def V8(K:PySem.W.Frag):R2:=λx y H Q=>∃(l:Addr)(k:Int)(xs:List V),x=.ref l/\y=.int k/\SqT K H l xs/\xs≠[]/\2<=k/\k<=1000/\xs.length * k.toNat<=sizeLine/\∀p,H p=none->Q (.ref p) (upd H p (.tup (List.replicate k.toNat xs).flatten))
theorem V9:OpR X (binaryOp .Mult) (V8 X.K):=by
 intro pins s σ H x y v u Q I rx ry h;obtain ⟨l,k,xs,rfl,rfl,hT,hne,h2,hk,hz,q⟩:=h;cases rx;obtain ⟨t,rfl⟩:=ry;obtain ⟨its,r,pt,_⟩:=I.tuple hT;obtain ⟨⟨cls,dd,data,sl⟩,ho,hc,n,hd⟩:=id pt;simp only at hc hd;subst hc hd;have hl:=r.length;have hz':its.toArray.size * k.toNat<=sizeLine:=by rw[List.size_toArray,<-hl];exact hz
 have he:its.toArray.isEmpty=false:=by
  cases its with
  |nil=>exact absurd (List.length_eq_zero_iff.mp hl) hne
  |cons _ _=>rfl
 have hnew:List.foldl (λx1 x2=>x1++x2) #[] (List.replicate k.toNat its.toArray)=(List.replicate k.toNat its).flatten.toArray:=by have:=foldl_rep its k.toNat [];rw[List.nil_append]at this;exact this
 refine wpAny_binaryOp_repeat_ref (T:="tuple") (U:="int") (by decide) ⟨_,ho,rfl⟩ (λs'=>typeIs_int s' k t) HT.V4 F.fills_int_mul F.slot_int_rmul HT.V5 F.slot_int_index.lookup
  (call_meets F.slot_int_rmul (typeIs_int s k t) F.entry_int_rmul (F.args_int_rmul_2 _ _) (HT.V6 k t l its.toArray n dd sl)
   ⟨ho,rfl,⟨_,ho,rfl⟩,call_meets PySem.F.slot_tuple_mul ⟨_,ho,rfl⟩ PySem.F.entry_tuple_mul (PySem.F.args_tuple_mul_2 _ _) (HT.V7 l its.toArray n dd sl k t h2 hk he hz' (by rw[hnew,List.size_toArray,len_rep,Nat.mul_comm,<-hl];exact hz)) ⟨ho,?_⟩⟩)
 rw[hnew];refine ⟨.ref s.heap.objs.size,_,I.laid (t':=s.toks) (o:=.tup (List.replicate k.toNat xs).flatten) (λb ob q=>Heap.get?_push_of_some _ q) (Nat.le_refl _) ?_,rfl,q _ (I.hok.fresh (Nat.le_refl _))⟩;exact ⟨by rw[len_rep,Nat.mul_comm];exact hz,_,r.rep k.toNat,IsTup.new _ _⟩
end
end L2
namespace HT
open PySem PySem.Spec PyProof.Rows Builtin
theorem Wa(a:Int)(t:Tok)(l:Addr)(items:Array Value)(n:Nat)(dd:Option Addr)(sl:Array (Option Value)):
  Meets (Builtin.«int.__rmul__» ⟨[.int a t,.ref l],[]⟩) (λ_ R s=>s.heap.get? l=some { cls:=.type "list",dict:=dd,data:=.seq items n,slots:=sl }/\R (.ok (.ret Value.notImplemented)) s):=
 .of_wp λprog w A R s h=>by obtain ⟨hp,g,d,tk,os⟩:=s;obtain ⟨hl,h⟩:=h;wp_walk;exact ⟨_,rfl,h⟩
theorem Wb(l:Addr)(items:Array Value)(n:Nat)(dd:Option Addr)(sl:Array (Option Value))(x:Int)(u:Tok)(hc0:¬(!Builtin.List.listFitsIndex x)=true)(hc1:¬items.size * x.toNat > (2 ^ 63 - 1) / 8)(hc2:¬Builtin.List.listTooLong (items.size * x.toNat)=true):
  Meets (Builtin.«list.__mul__» ⟨[.ref l,.int x u],[]⟩) (λ_ R s=>s.heap.get? l=some { cls:=.type "list",dict:=dd,data:=.seq items n,slots:=sl }/\R (.ok (.ret (Value.ref s.heap.objs.size))) { s with heap:=s.heap.push { cls:=Value.type "list",data:=Data.seq (List.foldl (λx1 x2=>x1++x2) #[] (List.replicate (if items.isEmpty=true then 0 else x.toNat) items)) },toks:=s.toks }):=
 .of_wp λprog w A R s h=>by
  obtain ⟨hp,g,d,tk,os⟩:=s;obtain ⟨hl,h⟩:=h;have hsz:=AutoListH.joined_fits hc2;wp_walk;refine wpAny_ite_false (decide_eq_false (Nat.not_lt.mpr hsz)) ?_;wp_walk;exact ⟨_,rfl,h⟩
end HT
namespace L2
open PySem PySem.Spec PyProof.Rows
section
variable {X:Cx}
def Wc(K:PySem.W.Frag):R2:=λx y H Q=>∃(l:Addr)(k:Int)(xs:List V),x=.ref l/\y=.int k/\SqL K H l xs/\0<=k/\k<=1000/\xs.length * k.toNat<=sizeLine/\∀p,H p=none->Q (.ref p) (upd H p (.lst (List.replicate k.toNat xs).flatten))
theorem Wd:OpR X (binaryOp .Mult) (Wc X.K):=by
 intro pins s σ H x y v u Q I rx ry h;obtain ⟨l,k,xs,rfl,rfl,hH,h1,h2,hz,q⟩:=h;cases rx;obtain ⟨t,rfl⟩:=ry;obtain ⟨its,r,⟨⟨cls,dd,data,sl⟩,n,e,c1,c2,c3⟩,_⟩:=I.list hH;simp only at c1 c2 c3;have hl:=r.length;have hlen:its.toArray.size * k.toNat<=sizeLine:=by rw[List.size_toArray,<-hl];exact hz
 have hcap:¬its.toArray.size * k.toNat > (2 ^ 63 - 1) / 8:=by
  have:(sizeLine:Nat)<=(2 ^ 63 - 1) / 8:=by decide
  omega
 have hfit:¬(!Builtin.List.listFitsIndex k)=true:=by rw[fitsIndex_both (by omega) (by omega)];exact Bool.false_ne_true
 have hlong:¬Builtin.List.listTooLong (its.toArray.size * k.toNat)=true:=by rw[zJ hlen];exact Bool.false_ne_true
 have hnew:List.foldl (λx1 x2=>x1++x2) #[] (List.replicate (if its.toArray.isEmpty=true then 0 else k.toNat) its.toArray)=(List.replicate k.toNat its).flatten.toArray:=by
  have f0:∀m:Nat,List.foldl (λx1 x2=>x1++x2) #[] (List.replicate m its.toArray)=(List.replicate m its).flatten.toArray:=λm=>by
   have:=foldl_rep its m [];rw[List.nil_append]at this;exact this
  rw[f0];cases its with
  |nil=>simp
  |cons a r'=>rw[if_neg (by simp)]
 subst c1 c3;refine wpAny_binaryOp_repeat_ref (T:="list") (U:="int") (by decide) ⟨_,e,rfl⟩ (λs'=>typeIs_int s' k t) noFill_list_mul F.fills_int_mul F.slot_int_rmul repeat_list F.slot_int_index.lookup
  (call_meets F.slot_int_rmul (typeIs_int s k t) F.entry_int_rmul (F.args_int_rmul_2 _ _) (HT.Wa k t l its.toArray n dd sl)
   ⟨e,rfl,⟨_,e,rfl⟩,call_meets F.slot_list_mul ⟨_,e,rfl⟩ F.entry_list_mul (F.args_list_mul_2 _ _) (HT.Wb l its.toArray n dd sl k t hfit hcap hlong) ⟨e,?_⟩⟩)
 rw[hnew];exact ⟨.ref _,_,I.lnew (t':=s.toks) (r.rep k.toNat) (by rw[len_rep,Nat.mul_comm];exact hz),rfl,q _ I.fresh⟩
end
end L2
namespace PySem
theorem We:plainId "list.__iadd__"=true:=by decide +kernel
theorem Wf:plainId "proto.collect"=true:=by decide +kernel
theorem Wg{prog:Program}{w:World}{A:Around}{R:Result->Shared->Prop}{s:Shared}{r:Addr}{a b c:Int}{t u v:Tok}{n:Nat}(hh:A.handled=none)(hr:IsRange s.heap r a b c t u v)(hsmall:Builtin.Range.small a b c=true)
  (hn:Builtin.Range.rangeSize a b c=n) (hlen:n<=2 ^ 24)
  (hR:∀h' tk acc' c',(∀b o,s.heap.get? b=some o->h'.get? b=some o)->h'.get? s.heap.objs.size=some { cls:=.type "list",dict:=none,data:=.seq acc' c',slots:=#[] }->ItemsOf (λi v=>∃t,v=.int (a+i * c) t) acc' n->R (.ok (.ret (.ref s.heap.objs.size))) { s with heap:=h',toks:=tk }):
  codeAny (model prog w) A (.builtin "proto.collect" ⟨[.ref r],[]⟩) R s:=by
 refine codeAny_builtin PyProof.Rows.entry_proto_collect' ?_;rw[Around.under_plainId Wf _];show wpAny _ _ (do again (.builtin "list.__iadd__" ⟨[<-newList [],.ref r],[]⟩)) _ _ s;refine wpAny_bind (wpAny_newList (wpAny_pure ⟨Code.quiet_builtin _ (by decide +kernel),codeAny_builtin PyProof.Rows.entry_list_iadd' ?_⟩));rw[Around.under_plainId We _];have hS:(s.heap.push { cls:=.type "list",data:=.seq #[] }).get? s.heap.objs.size=some { cls:=.type "list",data:=.seq #[] }:=Heap.get?_push_size _ rfl;exact wpAny_extend_range (R:=R) (s:={ s with heap:=s.heap.push { cls:=.type "list",data:=.seq #[] } }) hh (Heap.get?_push_of_some _ hr) hsmall hn hlen s.heap.objs.size (.ref s.heap.objs.size) _ hS λh' tk acc' c' hk hS' hacc=>
  hR h' tk acc' c' (λb o e=>hk b o (Nat.ne_of_lt (Heap.lt_size e)) (Heap.get?_push_of_some _ e)) hS' hacc
open AutoSeq1 (wpAny_loadPart') in
theorem Wh(r:Addr)(lo hi:Int)(t u v:Tok)(n:Nat)(hsmall:Builtin.Range.small lo hi 1=true)(hn:Builtin.Range.rangeSize lo hi 1=n)(hlen:n<=1000):
  Meets (Builtin.«tuple.__new__» ⟨[.type "tuple",.ref r],[]⟩)
   (λA R s=>A.handled=none/\IsRange s.heap r lo hi 1 t u v/\∀(h':Heap) (tk:Nat) (acc:Array Value),(∀b o',s.heap.get? b=some o'->h'.get? b=some o')->ItemsOf (λi v=>∃t,v=.int (lo+i * 1) t) acc n->R (.ok (.ret (.ref h'.objs.size))) { s with heap:=h'.push { cls:=.type "tuple",data:=.seq acc },toks:=tk }):=
 .of_wp λprog w A R s h=>by
  obtain ⟨hp,g,d,tk,os⟩:=s;obtain ⟨hh,ht,h⟩:=h;have hsub:=sub_tuple_self;have hinit:=init_tuple_lookup;have hmh:=madeHere_tuple;have hT:Shared.TypeIs ⟨hp,g,d,tk,os⟩ (.ref r) "range":=⟨_,ht,rfl⟩;wp_walk using wpAny_loadPart' ht,wpAny_typeOf hT
  refine Wg (A:=A.in1) hh ht hsmall hn (by omega) λh' tk' acc c' hk hS' hacc=>?_;dsimp only;refine wpAny_bind (wpAny_load hS' (wpAny_pure ?_));show wpAny _ _ (Builtin.Tuple.tupleExact acc.toList.toArray >>= λv=>ret v) _ _ _;unfold Builtin.Tuple.tupleExact;refine wpAny_bind (wpAny_newObj_type ?_ (by show acc.toList.toArray.size<=sizeLine;rw[show acc.toList.toArray=acc by simp,hacc.1,sizeLine_eq];omega));refine wpAny_pure ⟨_,rfl,?_⟩;have e:acc.toList.toArray=acc:=by simp
  rw[e];exact h h' tk' acc hk hacc
theorem Wi{prog:Program}{w:World}{A:Around}{E:Value->Shared->Prop}{s:Shared}{Q:Value->Shared->Prop}{r:Addr}{lo hi:Int}{t u v:Tok}{n:Nat}(hh:A.handled=none)(hr:IsRange s.heap r lo hi 1 t u v)(hsmall:Builtin.Range.small lo hi 1=true)(hn:Builtin.Range.rangeSize lo hi 1=n)(hlen:n<=1000)
  (h:∀(h':Heap) (tk:Nat) (acc:Array Value),(∀b o',s.heap.get? b=some o'->h'.get? b=some o')->ItemsOf (λi v=>∃t,v=.int (lo+i * 1) t) acc n->Q (.ref h'.objs.size) { s with heap:=h'.push { cls:=.type "tuple",data:=.seq acc },toks:=tk }):
  wpAny (model prog w) A (call (.type "tuple") [.ref r]) Q E s:=
 callType_new F.called_tuple (by decide) (F.typeCall_tuple_1 _) (F.newCall_tuple_1 _) (λobj=>F.args_object_init_2 obj _) F.entry_tuple_new
  (Wh r lo hi t u v n hsmall hn hlen) ⟨hh,hr,λh' tk acc hk ha=>⟨⟨_,Heap.get?_push_size _ rfl,rfl⟩,h h' tk acc hk ha⟩⟩
end PySem
namespace L2
open PySem PySem.Spec PyProof.Rows
section
variable {X:Cx}
theorem Ah{acc:Array Value}{n:Nat}(h:ItemsOf (λi v=>∃t,v=.int (0+i * 1) t) acc n):Vals ((List.range n).map λi=>V.int (i:Nat)) acc.toList:=by
 have hz:=h.1;obtain ⟨ys,hv⟩:=zY acc.toList λv hv=>by
  obtain ⟨j,hj,ej⟩:=List.mem_iff_getElem.mp hv;have ej':acc[j]?=some v:=by rw[<-Array.getElem?_toList,List.getElem?_eq_getElem hj,ej]
  obtain ⟨t,e⟩:=h.2 j v ej';exact ⟨.int (0+j * 1),t,e⟩
 have hl:ys.length=n:=by rw[hv.length,Array.length_toList,hz]
 have e:ys=(List.range n).map λi=>V.int (i:Nat):=by
  refine List.ext_getElem? λi=>?_;by_cases hi:i < n
  ·obtain ⟨y,hy⟩:∃y,ys[i]?=some y:=⟨_,List.getElem?_eq_getElem (by omega)⟩;obtain ⟨w,ew,rw'⟩:=hv.get hy;obtain ⟨t,e⟩:=h.2 i w (by rw[<-Array.getElem?_toList];exact ew);rw[hy,List.getElem?_map,List.getElem?_range hi,Option.map_some];subst e;cases y with
   |int k=>
    obtain ⟨t',e'⟩:=(show ∃t',Value.int (0+i * 1) t=Value.int k t' from rw');simp only[Value.int.injEq]at e';rw[<-e'.1];simp
   |non=>cases (show Value.int _ _=Value.none from rw')
   |bl b=>cases (show Value.int _ _=Value.bool b from rw')
   |str x=>obtain ⟨_,z⟩:=(show ∃t',Value.int _ _=Value.str x t' from rw');cases z
   |byt x=>obtain ⟨_,z⟩:=(show ∃t',Value.int _ _=Value.bytes x t' from rw');cases z
   |flt x=>obtain ⟨_,z⟩:=(show ∃t',Value.int _ _=Value.float x t' from rw');cases z
   |ref a=>cases (show Value.int _ _=Value.ref a from rw')
   |ty a=>cases (show Value.int _ _=Value.type a from rw')
  ·rw[List.getElem?_eq_none (by omega),List.getElem?_eq_none (by simp;omega)]
 rw[<-e];exact hv
theorem Ai {a:Expr} {ta:TA} {p pos:Pos} (hg:Gl X "range") (hm:X.mg "range"=none) (ha:PA X [a] ta) (hs:starEach [a] X.env=[(false,eval a X.env)]:=by rfl):
  PE X (.Call (.Name "range" p) [a] [] pos) (λσ H Q=>ta σ H λvs H1=>∃j:Int,vs=[.int j]/\∀r,H1 r=none->Q (.ref r) (upd H1 r (.rng 0 j))):=by
 intro pins s σ H Q I h;refine Call_ (gj I hg hm boot_range (PyProof.Rows.callWith_type1 (thn (ha pos pins s σ H _ I h) λus s1 ⟨vs,H1,I1,r1,q1⟩=>?_) hs rfl));obtain ⟨j,e,q⟩:=q1;subst e;cases r1 with
 |cons r rr=>
  cases rr;obtain ⟨t,rfl⟩:=r;exact call_range_1 ⟨.ref s1.heap.objs.size,_,I1.laid (t':=s1.toks+1+1) (λb u z=>Heap.get?_push_of_some _ z) (Nat.le_refl _) (show ObjOk X.prog X.w _ _ _ (.rng 0 j) from ⟨_,_,_,Heap.get?_push_size _ rfl⟩),rfl,q _ (I1.hok.fresh (Nat.le_refl _))⟩
theorem Aj(n:Nat):Builtin.Range.rangeSize 0 (n:Int) 1=n:=by rw[rangeSize_one];split <;> omega
theorem Wj (hc:X.calm=true):bw X (.type "list") (λxs H Q=>∃(r:Addr) (n:Nat),xs=[.ref r]/\H r=some (.rng 0 n)/\n<=1000/\∀l,H l=none->Q (.ref l) (upd H l (.lst ((List.range n).map λi=>V.int (i:Nat))))):=by
 intro pins s σ H xs us Q I r h;obtain ⟨p,n,rfl,hq,hn,q⟩:=h;obtain ⟨u,rfl,rx⟩:=vals1 r;cases rx;obtain ⟨t1,t2,t3,ho⟩:=(show ObjOk X.prog X.w H s.heap p (.rng 0 n) from I.hok p _ hq);refine call_list_range (I.ok.hd hc) ho (small_one (by decide) (by decide) (by omega) (by omega)) (Aj n) (by omega) λh' tk acc c' kp e hi=>?_;have hv:=Ah hi;have hl:((List.range n).map λi=>V.int (i:Nat)).length<=sizeLine:=by rw[List.length_map,List.length_range,sizeLine_eq];omega
 exact ⟨.ref s.heap.objs.size,_,I.laid (t':=tk) kp (Nat.le_refl _) (show ObjOk X.prog X.w _ h' _ (.lst _) from ⟨hl,acc.toList,c',hv,by rw[Array.toArray_toList];exact e⟩),rfl,q _ (I.hok.fresh (Nat.le_refl _))⟩
theorem Wk (hc:X.calm=true):bw X (.type "tuple") (λxs H Q=>∃(r:Addr) (n:Nat),xs=[.ref r]/\H r=some (.rng 0 n)/\n<=1000/\∀l,H l=none->Q (.ref l) (upd H l (.tup ((List.range n).map λi=>V.int (i:Nat))))):=by
 intro pins s σ H xs us Q I r h;obtain ⟨p,n,rfl,hq,hn,q⟩:=h;obtain ⟨u,rfl,rx⟩:=vals1 r;cases rx;obtain ⟨t1,t2,t3,ho⟩:=(show ObjOk X.prog X.w H s.heap p (.rng 0 n) from I.hok p _ hq);refine Wi (I.ok.hd hc) ho (small_one (by decide) (by decide) (by omega) (by omega)) (Aj n) hn λh' tk acc kp hi=>?_;have hv:=Ah hi;have hl:((List.range n).map λi=>V.int (i:Nat)).length<=sizeLine:=by rw[List.length_map,List.length_range,sizeLine_eq];omega
 have I1:Inv X pins σ H { s with heap:=h',toks:=tk }:=I.kept (t':=tk) kp;have I2:Inv X pins σ (upd H h'.objs.size (.tup ((List.range n).map λi=>V.int (i:Nat)))) { s with heap:=h'.push { cls:=.type "tuple",data:=.seq acc },toks:=tk }:=
  I1.laid (t':=tk) (λb o e=>Heap.get?_push_of_some _ e) (Nat.le_refl _) (show ObjOk X.prog X.w _ _ _ (.tup _) from ⟨hl,acc.toList,hv,by have:=IsTup.new h' acc.toList.toArray;rwa [Array.toArray_toList]at this⟩)
 exact ⟨.ref h'.objs.size,_,I2,rfl,q _ (I1.hok.fresh (Nat.le_refl _))⟩
end
end L2
namespace PyProof.Rows
open PySem
theorem Wl {prog:Program} {w:World} {A:Around} {E:Value->Shared->Prop} {s:Shared} {it:Addr} {T:String} {o:Obj} {items:List Value} {n:Nat} {ns:List Int} {Q:Value->Shared->Prop} (hT:T="list"\/T="tuple")
  (ho:s.heap.get? it=some o) (hc:o.cls=.type T) (hd:o.data=.seq items.toArray n) (hI:IntsAre items ns) (h64:items.length < 64)
  (h:∀(h1 h':Heap) (e:Nat) (out:Array Value) (ns':List Int),IntsAre out.toList ns'->ns'.Perm ns->ns'.Pairwise (·<=·)->(∀b o',s.heap.get? b=some o'->h1.get? b=some o')->(∀b o',h1.get? b=some o'->h'.get? b=some o')->h'.get? h1.objs.size=some (seqObj "list" out e)->Q (.ref h1.objs.size) { s with heap:=h' }):
  wpAny (model prog w) A (call (.builtin "sorted") [.ref it]) Q E s:=by
 refine Calls.call_function_entry kind_sorted plain_sorted entry_sorted (args_sorted1 _) ?_;unfold Builtin.«sorted»;refine wpAny_bind (m:=checkCount "sorted" 1 1 _) (wpAny_pure ?_);refine wpAny_bind (wpAny_collect_seq it hT ho hc hd (λh1 k1=>?_) (by rw[List.size_toArray,sizeLine_eq];omega));refine wpAny_bind (wpAny_newList ?_);have e1:items.toArray.toList=items:=by simp
 rw[e1];have hoL:(h1.push (seqObj "list" items.toArray 0)).get? h1.objs.size=some (seqObj "list" items.toArray 0):=Heap.get?_push_size _ rfl;show wpAny _ _ _ _ _ { s with heap:=h1.push (seqObj "list" items.toArray 0) };refine wpAny_bind (wpAny_holding (wpAny_call_entry slot_list_sort ⟨_,hoL,rfl⟩ entry_list_sort (list_sort_tree hoL hI h64 λout ns' a1 a2 a3=>⟨_,rfl,?_⟩) (args_list_sort _)));obtain ⟨e,he⟩:=sortedHeap_at (vs:=items) (out:=out) hoL;refine wpAny_pure ⟨_,rfl,h h1 _ e out ns' a1 a2 a3 k1 (λb o' hb1=>?_) he⟩;rw[sortedHeap_old (Nat.ne_of_lt (Heap.lt_size hb1)) (by rw[size_push'];exact Nat.lt_succ_of_lt (Heap.lt_size hb1))];exact Heap.get?_push_of_some _ hb1
end PyProof.Rows
namespace L2
open PySem PySem.Spec PyProof.Rows
theorem Wm {X:Cx}:bw X (.builtin "sorted") (λxs H Q=>∃(p:Addr) (ns:List Int),xs=[.ref p]/\SqT X.K H p (ns.map V.int)/\ns.length < 64/\∀ns':List Int,ns'.Perm ns->ns'.Pairwise (·<=·)->∀l,H l=none->Q (.ref l) (upd H l (.lst (ns'.map V.int)))):=by
 intro pins s σ H xs us Q I r h;obtain ⟨p,ns,rfl,hq,h64,q⟩:=h;obtain ⟨u,rfl,ru⟩:=vals1 r;cases ru;obtain ⟨its,rv,⟨o,ho,hc,n,hd⟩,hz⟩:=I.tuple hq;have hlen:its.length=ns.length:=by rw[<-rv.length];simp
 refine Wl (.inr rfl) ho hc hd (intsAre_of rv) (by omega) λh1 h' e out ns' a1 a2 a3 k1 k2 he=>?_;have I1:Inv X pins σ H { s with heap:=h1 }:=I.kept (t':=s.toks) k1;have hsz:(ns'.map V.int).length<=sizeLine:=by rw[List.length_map,a2.length_eq,sizeLine_eq];omega
 exact ⟨.ref h1.objs.size,_,I1.laid (t':=s.toks) k2 (Nat.le_refl _) (show ObjOk X.prog X.w _ _ _ (.lst (ns'.map V.int)) from ⟨hsz,out.toList,e,ur a1,by rw[Array.toArray_toList];exact he⟩),rfl,q ns' a2 a3 _ (I1.hok.fresh (Nat.le_refl _))⟩
end L2
namespace RF
open PySem PySem.Spec PyProof.Rows L2
inductive D where
 |non |bl (b:Bool) |int (i:Int) |str (l:List Nat) |tup (xs:List D) |lst (xs:List D) |ref (a:Addr) |scr (ns:List Int) |exn (C:String)
 deriving Inhabited
inductive DO where
 |lst (xs:List D)
 deriving Inhabited
abbrev DH:=Addr->Option DO
def aV(G:DH)(a:Addr)(o:DO):DH:=λb=>if b=a then some o else G b
def gq(G:DH)(a:Addr):DH:=λb=>if b=a then none else G b
theorem bx{G:DH}{a:Addr}{o:DO}:aV G a o a=some o:=if_pos rfl
theorem cT{G:DH}{a b:Addr}{o:DO}(h:b≠a):aV G a o b=G b:=if_neg h
theorem uD{G:DH}{a:Addr}:gq G a a=none:=if_pos rfl
theorem oR{G:DH}{a b:Addr}(h:b≠a):gq G a b=G b:=if_neg h
theorem Wn{G:DH}{a:Addr}{o u:DO}:aV (aV G a o) a u=aV G a u:=by funext b;unfold aV;split <;> rfl
theorem Ak{G:DH}{a:Addr}{o:DO}(h:G a=none):gq (aV G a o) a=G:=by
 funext b;unfold aV gq;split
 ·rename_i e;rw[e,h]
 ·rename_i e;exact if_neg e
theorem Al{G:DH}{a b:Addr}{o:DO}(h:G a=some o)(h':G b=none):a≠b:=by intro e;subst e;rw[h]at h';cases h'
abbrev sz:Nat:=1000000
abbrev FZ:=Addr->Prop
def FzL(H:Hp)(F:FZ)(a:Addr)(vs:List V):Prop:=F a/\H a=some (.lst vs)
theorem FzL.sq{K:PySem.W.Frag}{H:Hp}{F:FZ}{a:Addr}{vs:List V}(h:FzL H F a vs):SqL K H a vs:=.inl (.inl h.2)
structure TpT(K:PySem.W.Frag)(H:Hp)(a:Addr)(vs:List V):Prop where
 it:H a=some (.tup vs)
theorem TpT.sq{K:PySem.W.Frag}{H:Hp}{a:Addr}{vs:List V}(h:TpT K H a vs):SqT K H a vs:=.inl (.inl h.it)
def ScL(K:PySem.W.Frag)(H:Hp)(a:Addr)(vs:List V):Prop:=
 (∃o,H a=some (.frz o (.lst vs)))\/
  ∃(o:Obj) (its:Array Value) (n:Nat),K.lookup a=some o/\o.cls=.type "list"/\o.dict=none/\o.data=.seq its n/\its.size<=sizeLine/\Vals vs its.toList
theorem ScL.sq{K:PySem.W.Frag}{H:Hp}{a:Addr}{vs:List V}(h:ScL K H a vs):SqL K H a vs:=by
 rcases h with ⟨o,h⟩ |h
 ·exact .inl (.inr ⟨o,h⟩)
 ·exact .inr h
mutual
def Rep(K:PySem.W.Frag)(H:Hp)(F:FZ):D->V->Prop
 |.non,v=>v=.non
 |.bl b,v=>v=.bl b
 |.int i,v=>v=.int i
 |.str l,v=>v=.str (tx l)/\l.length<=sz
 |.tup ds,v=>∃a vs,v=.ref a/\TpT K H a vs/\Reps K H F ds vs
 |.lst ds,v=>∃a vs,v=.ref a/\FzL H F a vs/\Reps K H F ds vs
 |.ref a,v=>v=.ref a
 |.scr ns,v=>∃a,v=.ref a/\ScL K H a (ns.map V.int)
 |.exn C,v=>∃a c,v=.ref a/\XO H a c/\PySem.W.nsIn K mainGlobals (Str.ofString C)=some (some (.ref c))
def Reps(K:PySem.W.Frag)(H:Hp)(F:FZ):List D->List V->Prop
 |[],vs=>vs=[]
 |d::ds,vs=>∃v r,vs=v::r/\Rep K H F d v/\Reps K H F ds r
end
structure Ext(H:Hp)(F:FZ)(H':Hp)(F':FZ):Prop where
 sub:∀a,F a->F' a
 keep:∀a,F a->H' a=H a
 tups:∀a xs,H a=some (.tup xs)->H' a=some (.tup xs)
 frzs:∀a o u,H a=some (.frz o u)->H' a=some (.frz o u)
theorem Ext.refl(H:Hp)(F:FZ):Ext H F H F:=⟨λ_ h=>h,λ_ _=>rfl,λ_ _ h=>h,λ_ _ _ h=>h⟩
theorem Ext.trans{H H1 H2:Hp}{F F1 F2:FZ}(a:Ext H F H1 F1)(b:Ext H1 F1 H2 F2):Ext H F H2 F2:=
 ⟨λc h=>b.sub c (a.sub c h),λc h=>(b.keep c (a.sub c h)).trans (a.keep c h),λc xs h=>b.tups c xs (a.tups c xs h),λc o u h=>b.frzs c o u (a.frzs c o u h)⟩
section
variable {K:PySem.W.Frag} {H H':Hp} {F F':FZ}
theorem TpT.ext{a:Addr}{vs:List V}(x:Ext H F H' F')(h:TpT K H a vs):TpT K H' a vs:=⟨x.tups _ _ h.it⟩
theorem FzL.ext{a:Addr}{vs:List V}(x:Ext H F H' F')(h:FzL H F a vs):FzL H' F' a vs:=⟨x.sub _ h.1,(x.keep _ h.1).trans h.2⟩
theorem ScL.ext{a:Addr}{vs:List V}(x:Ext H F H' F')(h:ScL K H a vs):ScL K H' a vs:=by
 rcases h with ⟨o,h⟩ |h
 ·exact .inl ⟨o,x.frzs _ _ _ h⟩
 ·exact .inr h
mutual
theorem Rep.ext(x:Ext H F H' F'):∀{d:D}{v:V},Rep K H F d v->Rep K H' F' d v
 |.non,_,h=>h
 |.bl _,_,h=>h
 |.int _,_,h=>h
 |.str _,_,h=>h
 |.tup _,_,⟨a,vs,e,q,r⟩=>⟨a,vs,e,TpT.ext x q,Reps.ext x r⟩
 |.lst _,_,⟨a,vs,e,q,r⟩=>⟨a,vs,e,FzL.ext x q,Reps.ext x r⟩
 |.ref _,_,h=>h
 |.scr _,_,⟨a,e,q⟩=>⟨a,e,ScL.ext x q⟩
 |.exn _,_,⟨a,c,e,⟨o,y,q,hc⟩,n⟩=>⟨a,c,e,⟨o,y,x.frzs _ _ _ q,hc⟩,n⟩
theorem Reps.ext(x:Ext H F H' F'):∀{ds:List D}{vs:List V},Reps K H F ds vs->Reps K H' F' ds vs
 |[],_,h=>h
 |_::_,_,⟨v,r,e,h,t⟩=>⟨v,r,e,Rep.ext x h,Reps.ext x t⟩
end
theorem Reps.nil:Reps K H F [] []:=rfl
theorem Reps.cons{d:D}{v:V}{ds:List D}{vs:List V}(h:Rep K H F d v)(t:Reps K H F ds vs):Reps K H F (d::ds) (v::vs):=⟨v,vs,rfl,h,t⟩
theorem Reps.length:∀{ds:List D}{vs:List V},Reps K H F ds vs->ds.length=vs.length
 |[],_,h=>by cases h;rfl
 |_::_,_,⟨v,r,e,_,t⟩=>by subst e;simp[Reps.length t]
theorem Reps.append:∀{ds es:List D}{vs us:List V},Reps K H F ds vs->Reps K H F es us->Reps K H F (ds++es) (vs++us)
 |[],_,_,_,h,t=>by cases h;exact t
 |_::_,_,_,_,⟨v,r,e,h,t⟩,t'=>by subst e;exact ⟨v,_,rfl,h,Reps.append t t'⟩
theorem Reps.get:∀{ds:List D}{vs:List V}{i:Nat}{d:D},Reps K H F ds vs->ds[i]?=some d->∃v,vs[i]?=some v/\Rep K H F d v
 |[],_,_,_,_,e=>by simp at e
 |_::_,_,0,_,⟨v,r,e,h,t⟩,q=>by subst e;simp at q;subst q;exact ⟨v,rfl,h⟩
 |_::_,_,i+1,d,⟨v,r,e,h,t⟩,q=>by
  subst e;obtain ⟨u,h1,h2⟩:=Reps.get (i:=i) (d:=d) t (by simpa using q);exact ⟨u,by simpa using h1,h2⟩
theorem Reps.set{d:D}{v:V}(r:Rep K H F d v):∀{ds:List D}{vs:List V}(i:Nat),Reps K H F ds vs->Reps K H F (ds.set i d) (vs.set i v)
 |[],_,_,h=>by cases h;exact rfl
 |_::_,_,0,⟨v',r',e,h,t⟩=>by subst e;exact ⟨_,_,rfl,r,t⟩
 |_::_,_,i+1,⟨v',r',e,h,t⟩=>by subst e;exact ⟨_,_,rfl,h,Reps.set r i t⟩
theorem Reps.take:∀{ds:List D}{vs:List V}(n:Nat),Reps K H F ds vs->Reps K H F (ds.take n) (vs.take n)
 |_,_,0,_=>rfl
 |[],_,_+1,h=>by cases h;exact rfl
 |_::_,_,n+1,⟨v',r',e,h,t⟩=>by subst e;exact ⟨_,_,rfl,h,Reps.take n t⟩
theorem Reps.drop:∀{ds:List D}{vs:List V}(n:Nat),Reps K H F ds vs->Reps K H F (ds.drop n) (vs.drop n)
 |_,_,0,h=>h
 |[],_,_+1,h=>by cases h;exact rfl
 |_::_,_,n+1,⟨v',r',e,h,t⟩=>by subst e;exact Reps.drop n t
theorem Reps.cut{ds:List D}{vs:List V}(h:Reps K H F ds vs)(lo hi:Option Int):
  Reps K H F ((ds.drop (HT.sIx ds.length 0 lo)).take (HT.sIx ds.length ds.length hi - HT.sIx ds.length 0 lo)) (dz vs lo hi):=by
 unfold dz;rw[<-h.length];exact (h.drop _).take _
theorem Reps.reverse:∀{ds:List D}{vs:List V},Reps K H F ds vs->Reps K H F ds.reverse vs.reverse
 |[],_,h=>by cases h;exact rfl
 |_::_,_,⟨v',r',e,h,t⟩=>by
  subst e;rw[List.reverse_cons,List.reverse_cons];exact Reps.append (Reps.reverse t) (Reps.cons h rfl)
theorem Reps.rep{ds:List D}{vs:List V}(h:Reps K H F ds vs):∀k:Nat,Reps K H F (List.replicate k ds).flatten (List.replicate k vs).flatten
 |0=>rfl
 |k+1=>by
  rw[List.replicate_succ,List.replicate_succ,List.flatten_cons,List.flatten_cons];exact Reps.append h (Reps.rep h k)
end
def Wo(K:PySem.W.Frag)(H:Hp)(F:FZ)(a:Addr):DO->Prop
 |.lst ds=>∃vs,H a=some (.lst vs)/\Reps K H F ds vs
structure R(K:PySem.W.Frag)(H:Hp)(F:FZ)(G:DH):Prop where
 fz:∀a,F a->G a=none/\∃vs,H a=some (.lst vs)
 ob:∀a o,G a=some o->Wo K H F a o
section
variable {K:PySem.W.Frag} {H:Hp} {F:FZ} {G:DH} {p:Addr} {vs:List V} {ds:List D}
theorem R.lst(r:R K H F G)(h:G p=some (.lst ds)):∃vs,H p=some (.lst vs)/\Reps K H F ds vs:=r.ob p _ h
theorem R.free(r:R K H F G)(h:H p=none):G p=none:=by
 cases e:G p with
 |none=>rfl
 |some o=>
  cases o with
  |lst ds=>obtain ⟨vs,q,_⟩:=r.lst e;rw[h]at q;cases q
theorem R.notF(r:R K H F G)(h:H p=none):¬F p:=λf=>by
 obtain ⟨_,vs,q⟩:=r.fz p f;rw[h]at q;cases q
theorem di{o:HO}(r:R K H F G)(h:H p=none):Ext H F (upd H p o) F:=
 ⟨λ_ f=>f,λa f=>aM λe=>r.notF h (by rw[<-e];exact f),λa xs q=>by rw[aM (bH q h)];exact q,λa ob u q=>by rw[aM (bH q h)];exact q⟩
theorem R.new{o:HO}(r:R K H F G)(h:H p=none):R K (upd H p o) F G:=by
 have x:Ext H F (upd H p o) F:=di r h;refine ⟨λa f=>⟨(r.fz a f).1,?_⟩,λa u e=>?_⟩
 ·obtain ⟨_,vs,q⟩:=r.fz a f;exact ⟨vs,by rw[x.keep a f];exact q⟩
 ·cases u with
  |lst ds=>
   obtain ⟨vs,q,t⟩:=r.lst e;exact ⟨vs,by rw[aM (bH q h)];exact q,Reps.ext x t⟩
theorem R.newL(r:R K H F G)(h:H p=none)(t:Reps K H F ds vs):R K (upd H p (.lst vs)) F (aV G p (.lst ds)):=by
 have x:Ext H F (upd H p (.lst vs)) F:=di r h;have r':R K (upd H p (.lst vs)) F G:=r.new h;refine ⟨λa f=>⟨?_,(r'.fz a f).2⟩,λa u e=>?_⟩
 ·rw[cT λe=>r.notF h (by rw[<-e];exact f)];exact (r.fz a f).1
 ·by_cases ha:a=p
  ·subst ha;rw[bx]at e;cases e;exact ⟨vs,dw,Reps.ext x t⟩
  ·rw[cT ha]at e;exact r'.ob a u e
theorem uE(r:R K H F G)(h:H p=none):Ext H F (upd H p (.lst vs)) (λa=>F a\/a=p):=
 ⟨λ_ f=>.inl f,(di r h).keep,(di r h).tups,(di r h).frzs⟩
theorem R.newF(r:R K H F G)(h:H p=none):R K (upd H p (.lst vs)) (λa=>F a\/a=p) G:=by
 have x:Ext H F (upd H p (.lst vs)) (λa=>F a\/a=p):=uE r h;refine ⟨λa f=>?_,λa u e=>?_⟩
 ·rcases f with f |f
  ·obtain ⟨g,vs',q⟩:=r.fz a f;exact ⟨g,vs',by rw[x.keep a f];exact q⟩
  ·subst f;exact ⟨r.free h,vs,dw⟩
 ·cases u with
  |lst ds=>
   obtain ⟨vs',q,t⟩:=r.lst e;exact ⟨vs',by rw[aM (bH q h)];exact q,Reps.ext x t⟩
theorem Wq(r:R K H F G)(h:H p=none)(t:Reps K H F ds vs):Rep K (upd H p (.lst vs)) (λa=>F a\/a=p) (.lst ds) (.ref p):=
 ⟨p,vs,rfl,⟨.inr rfl,dw⟩,Reps.ext (uE r h) t⟩
theorem uF(r:R K H F G)(h:H p=none)(t:Reps K H F ds vs):Rep K (upd H p (.tup vs)) F (.tup ds) (.ref p):=
 ⟨p,vs,rfl,⟨dw⟩,Reps.ext (di r h) t⟩
theorem gr{ds0:List D}{o:HO}(r:R K H F G)(h:G p=some (.lst ds0)):Ext H F (upd H p o) F:=by
 obtain ⟨vs0,q,_⟩:=r.lst h;refine ⟨λ_ f=>f,λa f=>aM λe=>?_,λa xs z=>?_,λa ob u z=>?_⟩
 ·subst e;rw[(r.fz a f).1]at h;cases h
 ·rw[aM (yH z q (by intro w;cases w))];exact z
 ·rw[aM (yH z q (by intro w;cases w))];exact z
theorem R.write{ds0:List D}(r:R K H F G)(h:G p=some (.lst ds0))(t:Reps K H F ds vs):R K (upd H p (.lst vs)) F (aV G p (.lst ds)):=by
 have x:Ext H F (upd H p (.lst vs)) F:=gr r h;refine ⟨λa f=>⟨?_,?_⟩,λa u e=>?_⟩
 ·rw[cT λe=>by subst e;rw[(r.fz a f).1]at h;cases h];exact (r.fz a f).1
 ·obtain ⟨_,vs',q⟩:=r.fz a f;exact ⟨vs',by rw[x.keep a f];exact q⟩
 ·by_cases ha:a=p
  ·subst ha;rw[bx]at e;cases e;exact ⟨vs,dw,Reps.ext x t⟩
  ·rw[cT ha]at e;cases u with
   |lst ds'=>
    obtain ⟨vs',q,t'⟩:=r.lst e;exact ⟨vs',by rw[aM ha];exact q,Reps.ext x t'⟩
theorem uG:Ext H F H (λa=>F a\/a=p):=⟨λ_ f=>.inl f,λ_ _=>rfl,λ_ _ h=>h,λ_ _ _ h=>h⟩
theorem R.frz(r:R K H F G)(h:G p=some (.lst ds)):R K H (λa=>F a\/a=p) (gq G p):=by
 have x:Ext H F H (λa=>F a\/a=p):=uG;refine ⟨λa f=>?_,λa u e=>?_⟩
 ·rcases f with f |f
  ·obtain ⟨g,vs',q⟩:=r.fz a f;refine ⟨?_,vs',q⟩;by_cases ha:a=p
   ·rw[ha];exact uD
   ·rw[oR ha];exact g
  ·subst f;obtain ⟨vs,q,_⟩:=r.lst h;exact ⟨uD,vs,q⟩
 ·by_cases ha:a=p
  ·rw[ha,uD]at e;cases e
  ·rw[oR ha]at e;cases u with
   |lst ds'=>
    obtain ⟨vs',q,t'⟩:=r.lst e;exact ⟨vs',q,Reps.ext x t'⟩
theorem Wr(r:R K H F G)(h:G p=some (.lst ds)):Rep K H (λa=>F a\/a=p) (.lst ds) (.ref p):=by obtain ⟨vs,q,t⟩:=r.lst h;exact ⟨p,vs,rfl,⟨.inr rfl,q⟩,Reps.ext uG t⟩
end
def view(G:DH):D->D
 |.ref p=>match G p with |some (.lst ds)=>.lst ds |none=>.ref p
 |d=>d
theorem Rep.list{K:PySem.W.Frag}{H:Hp}{F:FZ}{G:DH}{d:D}{v:V}{ds:List D}(r:R K H F G)(h:Rep K H F d v)(e:view G d=.lst ds):∃a vs,v=.ref a/\SqL K H a vs/\Reps K H F ds vs:=by
 cases d with
 |lst xs=>
  have e':D.lst xs=.lst ds:=e;cases e';obtain ⟨a,vs,e1,q,t⟩:=h;exact ⟨a,vs,e1,q.sq,t⟩
 |ref p=>
  have hv:v=.ref p:=h;unfold view at e;cases g:G p with
  |none=>simp only[g]at e;cases e
  |some o=>
   cases o with
   |lst xs=>
    simp only[g]at e;cases e;obtain ⟨vs,q,t⟩:=r.lst g;exact ⟨p,vs,hv,.inl (.inl q),t⟩
 |_=>cases (show _=D.lst ds from e)
theorem eU{G:DH}{d:D}{ds:List D}(e:view G d=.tup ds):d=.tup ds:=by
 cases d with
 |ref p=>
  unfold view at e;cases g:G p with
  |none=>simp only[g]at e;cases e
  |some o=>cases o;simp only[g]at e;cases e
 |_=>exact e
theorem fG{G:DH}{d:D}{l:List Nat}(e:view G d=.str l):d=.str l:=by
 cases d with
 |ref p=>
  unfold view at e;cases g:G p with
  |none=>simp only[g]at e;cases e
  |some o=>cases o;simp only[g]at e;cases e
 |_=>exact e
theorem dC{G:DH}{d:D}{l:Int}(e:view G d=.int l):d=.int l:=by
 cases d with
 |ref p=>
  unfold view at e;cases g:G p with
  |none=>simp only[g]at e;cases e
  |some o=>cases o;simp only[g]at e;cases e
 |_=>exact e
theorem Ws{G:DH}{d:D}{l:Bool}(e:view G d=.bl l):d=.bl l:=by
 cases d with
 |ref p=>
  unfold view at e;cases g:G p with
  |none=>simp only[g]at e;cases e
  |some o=>cases o;simp only[g]at e;cases e
 |_=>exact e
abbrev ak:=List (Option D)
def EnvR(K:PySem.W.Frag)(H:Hp)(F:FZ):ak->L2.St->Prop
 |[],σ=>σ=[]
 |o::ρ,σ=>∃u τ,σ=u::τ/\(∀d,o=some d->∃v,u=some v/\Rep K H F d v)/\EnvR K H F ρ τ
section
variable {K:PySem.W.Frag} {H H':Hp} {F F':FZ}
theorem EnvR.ext(x:Ext H F H' F'):∀{ρ:ak}{σ:L2.St},EnvR K H F ρ σ->EnvR K H' F' ρ σ
 |[],_,h=>h
 |_::_,_,⟨u,τ,e,h,t⟩=>⟨u,τ,e,λd q=>by obtain ⟨v,e1,r⟩:=h d q;exact ⟨v,e1,Rep.ext x r⟩,EnvR.ext x t⟩
theorem EnvR.get:∀{ρ:ak}{σ:L2.St}{i:Nat}{d:D},EnvR K H F ρ σ->ρ[i]?=some (some d)->∃v,σ[i]?=some (some v)/\Rep K H F d v
 |[],_,_,_,_,e=>by simp at e
 |_::_,_,0,d,⟨u,τ,e,h,t⟩,q=>by
  subst e;obtain ⟨v,e1,r⟩:=h d (by simpa using q);exact ⟨v,by simp[e1],r⟩
 |_::_,_,i+1,d,⟨u,τ,e,h,t⟩,q=>by
  subst e;obtain ⟨v,e1,r⟩:=EnvR.get (i:=i) (d:=d) t (by simpa using q);exact ⟨v,by simpa using e1,r⟩
theorem EnvR.set{d:D}{v:V}(r:Rep K H F d v):∀{ρ:ak}{σ:L2.St}(i:Nat),EnvR K H F ρ σ->EnvR K H F (ρ.set i (some d)) (σ.set i (some v))
 |[],_,_,h=>by cases h;exact rfl
 |_::_,_,0,⟨u,τ,e,h,t⟩=>by subst e;exact ⟨_,_,rfl,λd' q=>⟨v,rfl,by cases q;exact r⟩,t⟩
 |_::_,_,i+1,⟨u,τ,e,h,t⟩=>by subst e;exact ⟨_,_,rfl,h,EnvR.set r i t⟩
theorem EnvR.none:∀(n:Nat),EnvR K H F (List.replicate n Option.none) (List.replicate n Option.none)
 |0=>rfl
 |n+1=>⟨_,_,rfl,λd q=>(nomatch q),EnvR.none n⟩
theorem EnvR.start:∀{ds:List D}{vs:List V}(n:Nat),Reps K H F ds vs->EnvR K H F (ds.map some++List.replicate n Option.none) (vs.map some++List.replicate n Option.none)
 |[],_,n,h=>by cases h;exact EnvR.none n
 |d::ds,_,n,⟨v,r,e,h,t⟩=>by
  subst e;exact ⟨_,_,rfl,λd' q=>⟨v,rfl,by cases q;exact h⟩,EnvR.start n t⟩
theorem EnvR.cap{ρ:ak}{σ:L2.St}(h:EnvR K H F ρ σ):∀(cap:List (Option Nat)),EnvR K H F (cap.map λo=>match o with |Option.none=>Option.none |some j=>(ρ[j]?).join) (dB cap σ)
 |[]=>rfl
 |Option.none::cap=>⟨_,_,rfl,λd q=>(nomatch q),EnvR.cap h cap⟩
 |some j::cap=>by
  refine ⟨_,_,rfl,λd q=>?_,EnvR.cap h cap⟩;have q':(ρ[j]?).join=some d:=q;have z:ρ[j]?=some (some d):=by
   cases e:ρ[j]? with
   |none=>rw[e]at q';cases q'
   |some o=>rw[e]at q';exact congrArg some q'
  obtain ⟨v,e1,r⟩:=h.get z;exact ⟨v,by show (σ[j]?).join=some v;rw[e1];rfl,r⟩
end
mutual
def deq:D->D->Bool
 |.non,.non=>true
 |.bl a,.bl b=>a==b
 |.bl a,.int b=>(if a then 1 else 0)==b
 |.int a,.bl b=>a==(if b then 1 else 0)
 |.int a,.int b=>a==b
 |.str a,.str b=>a==b
 |.tup a,.tup b=>bR a b
 |.lst a,.lst b=>bR a b
 |_,_=>false
def bR:List D->List D->Bool
 |[],[]=>true
 |a::as,b::bs=>deq a b&&bR as bs
 |_,_=>false
end
mutual
/-- no tracked object within -/
def nr:D->Bool
 |.tup a=>nrs a
 |.lst a=>nrs a
 |.ref _=>false
 |.scr _=>false
 |.exn _=>false
 |_=>true
def nrs:List D->Bool
 |[]=>true
 |a::as=>nr a&&nrs as
end
mutual
def dpt:D->Nat
 |.tup a=>bc a+1
 |.lst a=>bc a+1
 |_=>0
def bc:List D->Nat
 |[]=>0
 |a::as=>max (dpt a) (bc as)
end
def truth:D->Option Bool
 |.non=>some false
 |.bl b=>some b
 |.int i=>some (i != 0)
 |.str l=>some (!l.isEmpty)
 |.tup l=>some (!l.isEmpty)
 |.lst l=>some (!l.isEmpty)
 |_=>none
def cut{α:Type}(xs:List α)(lo hi:Option Int):List α:=(xs.drop (HT.sIx xs.length 0 lo)).take (HT.sIx xs.length xs.length hi - HT.sIx xs.length 0 lo)
def reps{α:Type}(xs:List α)(n:Nat):List α:=(List.replicate n xs).flatten
def mk(fz:Bool)(xs:List D)(G:DH)(k:D->DH->Prop):Prop:=
 match fz with
 |true=>k (.lst xs) G
 |false=>∀p,G p=none->k (.ref p) (aV G p (.lst xs))
def il(fz:Bool)(a b:D)(G:DH)(k:D->DH->Prop):Prop:=
 match a with
 |.int i=>(match b with |.int j=>k (.int (i+j)) G |_=>False)
 |.str x=>(match b with |.str y=>x.length+y.length<=sz/\k (.str (x++y)) G |_=>False)
 |.lst x=>(match b with |.lst y=>x.length+y.length<=sz/\mk fz (x++y) G k |_=>False)
 |.tup x=>(match b with |.tup y=>x.length+y.length<=sz/\k (.tup (x++y)) G |_=>False)
 |_=>False
def fH(a b:D)(p:Int->Int->Prop):Prop:=
 match a with
 |.int i=>(match b with |.int j=>p i j |_=>False)
 |_=>False
def ir(fz:Bool)(a b:D)(G:DH)(k:D->DH->Prop):Prop:=
 match b with
 |.int n=>(match a with |.int i=>CMul i n/\k (.int (i * n)) G |.str x=>0<=n/\n<=1000/\x.length * n.toNat<=sz/\k (.str (reps x n.toNat)) G |.tup x=>2<=n/\n<=1000/\x≠[]/\x.length * n.toNat<=sz/\k (.tup (reps x n.toNat)) G |.lst x=>0<=n/\n<=1000/\x.length * n.toNat<=sz/\mk fz (reps x n.toNat) G k |_=>False)
 |_=>False
def cu(op:Operator)(fz:Bool)(a b:D)(G:DH)(k:D->DH->Prop):Prop:=
 match op with
 |.Add=>il fz a b G k
 |.Sub=>fH a b λi j=>k (.int (i - j)) G
 |.Mult=>ir fz a b G k
 |.FloorDiv=>fH a b λi j=>(0 < j/\j < 1152921504606846976)/\k (.int (i / j)) G
 |.Mod=>fH a b λi j=>0 < j/\k (.int (i % j)) G
 |.Pow=>fH a b λi j=>oH i j/\k (.int (i ^ j.toNat)) G
 |_=>False
def isIn(x:D)(ys:List D):Bool:=ys.any λy=>deq y x
def Am(a b:D):Prop:=nr a=true/\nr b=true/\min (dpt a) (dpt b)<=60
def inG(a:D)(l:List D):Prop:=nr a=true/\nrs l=true/\bc l<=60
def iu(a b:D)(k:Bool->Prop):Prop:=
 match a,b with
 |.int i,.int j=>k (decide (i < j))
 |.str i,.str j=>k (decide (i < j))
 |_,_=>False
def iw(a b:D)(k:Bool->Prop):Prop:=
 match a,b with
 |.int i,.int j=>k (decide (i<=j))
 |.str i,.str j=>k (!decide (j < i))
 |_,_=>False
def iy(a b:D)(k:Bool->Prop):Prop:=
 match a,b with
 |.int i,.int j=>k (decide (j < i))
 |_,_=>False
def iz(a b:D)(k:Bool->Prop):Prop:=
 match a,b with
 |.int i,.int j=>k (decide (j<=i))
 |_,_=>False
def oU(a:D):Bool:=match a with |.non=>true |_=>false
def iB(a b:D)(k:Bool->Prop):Prop:=
 match b with
 |.non=>k (oU a)
 |.bl b=>(match a with |.bl a=>k (a==b) |_=>False)
 |_=>False
def iC(a b:D)(k:Bool->Prop):Prop:=
 match b with
 |.non=>k (!oU a)
 |.bl b=>(match a with |.bl a=>k (a != b) |_=>False)
 |_=>False
def eV(a b:D)(k:Bool->Prop):Prop:=
 match b with
 |.str l=>(match a with |.str [c]=>k (l.contains c) |_=>False)
 |.lst l=>inG a l/\k (isIn a l)
 |.tup l=>inG a l/\k (isIn a l)
 |_=>False
def aW(op:CmpOp)(a b:D)(k:Bool->Prop):Prop:=
 match op with
 |.Eq=>Am a b/\k (deq a b)
 |.NotEq=>Am a b/\k (!deq a b)
 |.Lt=>iu a b k
 |.LtE=>iw a b k
 |.Gt=>iy a b k
 |.GtE=>iz a b k
 |.Is=>iB a b k
 |.IsNot=>iC a b k
 |.In=>eV a b k
 |.NotIn=>eV a b λc=>k (!c)
def cz(a i:D)(k:D->Prop):Prop:=
 match a,i with
 |.lst ds,.int i=>match atI ds i with |some d=>k d |none=>False
 |.tup ds,.int i=>match atI ds i with |some d=>k d |none=>False
 |.str l,.int i=>match atI l i with |some c=>k (.str [c]) |none=>False
 |_,_=>False
def dD(fz:Bool)(a:D)(lo hi:Option Int)(G:DH)(k:D->DH->Prop):Prop:=
 match a with
 |.lst ds=>mk fz (cut ds lo hi) G k
 |.scr ns=>mk fz ((cut ns lo hi).map .int) G k
 |.tup ds=>k (.tup (cut ds lo hi)) G
 |.str l=>k (.str (cut l lo hi)) G
 |_=>False
def gw(fz:Bool)(a y:D)(G:DH)(k:D->DH->Prop):Prop:=
 match a with
 |.lst ds=>y=.int (-1)/\mk fz ds.reverse G k
 |_=>False
def bools:List D->Option (List Bool)
 |[]=>some []
 |.bl b::r=>match bools r with |some s=>some (b::s) |none=>none
 |_=>none
def bT:List D->Option (List Int)
 |[]=>some []
 |.int b::r=>match bT r with |some s=>some (b::s) |none=>none
 |_=>none
def bA:List D->Option (List (List Nat))
 |[]=>some []
 |.str b::r=>match bA r with |some s=>some (b::s) |none=>none
 |_=>none
def dF(s:List Nat):List (List Nat)->List Nat
 |[]=>[]
 |[x]=>x
 |x::y::r=>x++s++dF s (y::r)
inductive Bf where
 |len |all |int |tuple |sum |min |max |str
inductive Lf where
 |list |sorted
inductive Mf where
 |join |append |extend |insert |count |index |pop
def uH(as:List D)(k:D->Prop):Prop:=
 match as with
 |[.lst ds]=>k (.int ds.length)
 |[.tup ds]=>k (.int ds.length)
 |[.str l]=>k (.int l.length)
 |_=>False
def oV(as:List D)(k:D->Prop):Prop:=
 match as with
 |[.lst ds]=>match bools ds with |some bs=>k (.bl (bs.all id)) |none=>False
 |_=>False
def oW(as:List D)(k:D->Prop):Prop:=
 match as with
 |[.bl b]=>k (.int (if b then 1 else 0))
 |[.int i]=>k (.int i)
 |[.str l]=>match PySem.intText? (tx l) with |some n=>l.length<=640/\k (.int n) |none=>False
 |_=>False
def uI(as:List D)(k:D->Prop):Prop:=
 match as with
 |[.lst ds]=>k (.tup ds)
 |[.tup ds]=>k (.tup ds)
 |_=>False
def uJ(as:List D)(k:D->Prop):Prop:=
 match as with
 |[.lst ds]=>match bT ds with |some ns=>k (.int ns.sum) |none=>False
 |_=>False
def jr(as:List D)(k:D->Prop):Prop:=
 match as with
 |[.lst ds]=>match bT ds with
  |some ns=>ns≠[]/\∀m,m∈ns->(∀a,a∈ns->m<=a)->k (.int m)
  |none=>match bA ds with
   |some ls=>∀m,m∈ls->(∀a,a∈ls->¬a < m)->k (.str m)
   |none=>False
 |_=>False
def An(as:List D)(k:D->Prop):Prop:=
 match as with
 |[.int a,.int b]=>k (.int (if b > a then b else a))
 |_=>False
def fJ(m:Nat):List Nat:=(uC m).cps.toList
def uK(as:List D)(k:D->Prop):Prop:=
 match as with
 |[.int i]=>(0<=i/\i < 100)/\k (.str (fJ i.toNat))
 |_=>False
def opB:Bf->List D->(D->Prop)->Prop
 |.len=>uH
 |.all=>oV
 |.int=>oW
 |.tuple=>uI
 |.sum=>uJ
 |.min=>jr
 |.max=>An
 |.str=>uK
def uL(as:List D)(k:List D->Prop):Prop:=
 match as with
 |[.lst ds]=>k ds
 |[.tup ds]=>k ds
 |[.str l]=>k (l.map λc=>.str [c])
 |_=>False
def jt(as:List D)(k:List D->Prop):Prop:=
 match as with
 |[.lst ds]=>match bA ds with |some ls=>ls.length < 64/\∀ls':List (List Nat),ls'.Perm ls->PyProof.Rows.sortedS (ls'.map tx)=true->k (ls'.map D.str) |none=>False
 |[.tup ds]=>match bT ds with |some ns=>ns.length < 64/\∀ns':List Int,ns'.Perm ns->ns'.Pairwise (·<=·)->k (ns'.map D.int) |none=>False
 |_=>False
def cG:Lf->List D->(List D->Prop)->Prop
 |.list=>uL
 |.sorted=>jt
def isT(t:String)(d:D):Option Bool:=
 match d with
 |.non=>some false
 |.bl _=>some (t=="bool"||t=="int")
 |.int _=>some (t=="int")
 |.str _=>some (t=="str")
 |.tup _=>some (t=="tuple")
 |.lst _=>some (t=="list")
 |_=>none
def eX (t:String):Bool:=t=="bool"||t=="int"||t=="str"||t=="tuple"||t=="list"
def oX(o:D)(as:List D)(G:DH)(k:D->DH->Prop):Prop:=
 match o,as with
 |.str s,[.lst ds]=>match bA ds with |some ls=>((ls.map (·.length)).sum+ls.length * s.length<=sz)/\k (.str (dF s ls)) G |none=>False
 |_,_=>False
def oY(o:D)(as:List D)(G:DH)(k:D->DH->Prop):Prop:=
 match o,as with
 |.ref p,[x]=>match G p with |some (.lst ds)=>ds.length < sz/\k .non (aV G p (.lst (ds++[x]))) |none=>False
 |_,_=>False
def oZ(o:D)(as:List D)(G:DH)(k:D->DH->Prop):Prop:=
 match o,as with
 |.ref p,[.lst xs]=>match G p with |some (.lst ds)=>ds.length+xs.length < sz/\k .non (aV G p (.lst (ds++xs))) |none=>False
 |_,_=>False
def ph(o:D)(as:List D)(G:DH)(k:D->DH->Prop):Prop:=
 match o,as with
 |.ref p,[.int i,x]=>match G p with |some (.lst ds)=>ds.length < sz/\0<=i/\i<=1000000/\k .non (aV G p (.lst (ds.take i.toNat++x::ds.drop i.toNat))) |none=>False
 |_,_=>False
def pq(o:D)(as:List D)(G:DH)(k:D->DH->Prop):Prop:=
 match o,as with
 |.ref p,[.int i]=>match G p with |some (.lst ds)=>0<=i/\i<=1000000/\(match ds[i.toNat]? with |some y=>k y (aV G p (.lst (ds.eraseIdx i.toNat))) |none=>False) |none=>False
 |_,_=>False
def pA(o:D)(as:List D)(G:DH)(k:D->DH->Prop):Prop:=
 match o,as with
 |.lst ds,[.bl true]=>match bools ds with |some bs=>k (.int (bs.count true:Nat)) G |none=>False
 |_,_=>False
def pB(o:D)(as:List D)(G:DH)(k:D->DH->Prop):Prop:=
 match o,as with
 |.lst ds,[.bl true]=>match bools ds with |some bs=>true∈bs/\k (.int (bs.idxOf true:Nat)) G |none=>False
 |_,_=>False
def uM:D->Prop
 |.lst _=>True
 |_=>False
def recv(m:Mf)(o:D)(G:DH):Prop:=
 match m,o with
 |.join,.str _=>True
 |.append,.ref p=>match G p with |some (.lst _)=>True |none=>False
 |.extend,.ref p=>match G p with |some (.lst _)=>True |none=>False
 |.insert,.ref p=>match G p with |some (.lst _)=>True |none=>False
 |.pop,.ref p=>match G p with |some (.lst _)=>True |none=>False
 |.count,o=>uM (view G o)
 |.index,o=>uM (view G o)
 |_,_=>False
def opM:Mf->D->List D->DH->(D->DH->Prop)->Prop
 |.join,o,as,G,k=>oX o (as.map (view G)) G k
 |.append,o,as,G,k=>oY o as G k
 |.extend,o,as,G,k=>oZ o (as.map (view G)) G k
 |.insert,o,as,G,k=>ph o as G k
 |.pop,o,as,G,k=>pq o as G k
 |.count,o,as,G,k=>pA (view G o) as G k
 |.index,o,as,G,k=>pB (view G o) as G k
def fK (C C':String):Bool:=C==C'||C'=="SieveError"||C'=="ValueError"
mutual
inductive Tg where
 |nm (i:Nat)
 |tp (ts:Tgs)
inductive Tgs where
 |nil
 |cons (t:Tg) (r:Tgs)
end
mutual
inductive Ex where
 |var (i:Nat)
 |cst (d:D)
 |glb (x:String) (d:D)
 |bin (op:Operator) (fz:Bool) (a b:Ex)
 |neg (a:Ex)
 |cmp (op:CmpOp) (a b:Ex)
 |chn (op op':CmpOp) (a b c:Ex)
 |not (a:Ex)
 |boo (isAnd:Bool) (e:Ex) (es:Exs)
 |ife (c:Tx) (a b:Ex)
 |tup (es:Exs)
 |lst (fz:Bool) (es:Exs)
 |idx (a i:Ex)
 |slc (fz:Bool) (a:Ex) (lo hi:Ox)
 |rvs (fz:Bool) (a s:Ex)
 |call (f:String) (es:Exs)
 |bcl (f:Bf) (es:Exs)
 |lcl (fz:Bool) (f:Lf) (es:Exs)
 |isi (a:Ex) (t:String)
 |isx (a:Ex) (C:String) (xs:List String)
 |fst (es:Exs)
 |rgl (fz:Bool) (a:Ex)
 |rgt (a:Ex)
 |rpl (f:String) (a b ix:Ex)
 |mth (m:Mf) (o:Ex) (es:Exs)
 |comp (fz:Bool) (elt:Ex) (tg:Tg) (it:It') (cond:Tx) (N:List String) (cap:List (Option Nat))
 |frz (a:Ex)
inductive Exs where
 |nil
 |cons (e:Ex) (es:Exs)
/-- a test -/
inductive Tx where
 |val (e:Ex)
 |not (t:Tx)
 |boo (isAnd:Bool) (t:Tx) (ts:Txs)
 |yes
inductive Txs where
 |nil
 |cons (t:Tx) (ts:Txs)
/-- a bound of a slice -/
inductive Ox where
 |no
 |ob (e:Ex)
/-- what a loop walks -/
inductive It' where
 |seq (e:Ex)
 |rng (a:Ex)
 |rng2 (a b:Ex)
 |rev (a:Ex)
 |dwn (a b c:Ex)
 |enm (e:Ex)
 |zip (a b:Ex)
end
inductive Tb where
 |call (f:String) (es:Exs)
 |asg (i:Nat) (f:String) (es:Exs)
 |pick (f g:String) (i:Nat) (es:Exs)
 |ite (c:Tx) (a b:Tb)
inductive Hd where
 |flag (i:Nat) (b:Bool)
 |bind (n i:Nat)
mutual
inductive Sx where
 |exp (e:Ex)
 |asg (t:Tg) (e:Ex)
 |set (o i e:Ex)
 |aug (i:Nat) (op:Operator) (e:Ex)
 |augs (o i:Ex) (op:Operator) (e:Ex)
 |ret (e:Ex)
 |rtn
 |ite (c:Tx) (a b:Sxs)
 |for_ (t:Tg) (it:It') (body:Sxs)
 |whl (c:Tx) (body:Sxs)
 |pas
 |brk
 |cnt
 |nev
 |rse (C:String) (es:Exs)
 |tryc (f:String) (es:Exs) (C:String) (i:Nat) (b:Bool)
 |tryx (b:Tb) (C:String) (h:Hd) (xs:List String)
inductive Sxs where
 |nil
 |cons (s:Sx) (r:Sxs)
end
structure Xn where
 cls:String
 fld:D
structure Spec where
 A:Type
 pre:List D->DH->A->Prop
 post:A->D->DH->Prop
 exc:A->Xn->DH->Prop
abbrev EK:=Xn->DH->Prop
def Spec.t(S:Spec)(ds:List D)(G:DH)(Q:D->DH->Prop)(E:EK):Prop:=
 ∃a,S.pre ds G a/\(∀d G',S.post a d G'->Q d G')/\∀x G',S.exc a x G'->E x G'
theorem Spec.mono{S:Spec}{ds:List D}{G:DH}{Q Q':D->DH->Prop}{E E':EK}(h:S.t ds G Q E)(hq:∀d G',Q d G'->Q' d G')(he:∀x G',E x G'->E' x G'):S.t ds G Q' E':=by obtain ⟨a,h1,h2,h3⟩:=h;exact ⟨a,h1,λd G' q=>hq _ _ (h2 d G' q),λx G' q=>he _ _ (h3 x G' q)⟩
abbrev aa:=String->Spec
def uN(d:D)(k:List Nat->Prop):Prop:=match d with |.str l=>l.length<=1000/\k l |_=>False
def uO(i:D)(l:List Nat)(k:List Nat->Prop):Prop:=match i with |.int n=>(match atI [48,49] n with |some c=>k (l.map λa=>if a=42 then c else a) |none=>False) |_=>False
mutual
def bf:Tg->D->ak->DH->(ak->Prop)->Prop
 |.nm i,d,ρ,_,k=>k (ρ.set i (some d))
 |.tp ts,d,ρ,G,k=>match d with |.tup ds=>bK ts ds ρ G k |.lst ds=>bK ts ds ρ G k |_=>False
def bK:Tgs->List D->ak->DH->(ak->Prop)->Prop
 |.nil,ds,ρ,_,k=>match ds with |[]=>k ρ |_=>False
 |.cons t r,ds,ρ,G,k=>match ds with |d::ds=>bf t d ρ G (λρ'=>bK r ds ρ' G k) |[]=>False
end
abbrev Hld:=List (Addr×List D)
def held:Hld->DH->Prop
 |[],_=>True
 | (a,ds)::r,G=>G a=some (.lst ds)/\held r G
def compLoop(step:D->ak->DH->(Option D->ak->DH->Prop)->Prop)(g:Hld):List D->List D->ak->DH->(List D->DH->Prop)->Prop
 |[],acc,_,G,k=>held g G/\acc.length<=sz/\k acc G
 |d::ds,acc,ρ,G,k=>held g G/\acc.length < sz/\step d ρ G (λo ρ' G'=>match o with |some y=>compLoop step g ds (acc++[y]) ρ' G' k |none=>compLoop step g ds acc ρ' G' k)
def dj:Nat->List D->List D
 |_,[]=>[]
 |i,d::ds=>.tup [.int i,d]::dj (i+1) ds
def bU:List D->List D->List D
 |a::as,b::bs=>.tup [a,b]::bU as bs
 |_,_=>[]
def itemsOf(G:DH):D->Option (List D×Hld)
 |.lst ds=>some (ds,[])
 |.tup ds=>some (ds,[])
 |.str l=>some (l.map λc=>.str [c],[])
 |.ref p=>match G p with |some (.lst ds)=>some (ds,[(p,ds)]) |none=>none
 |_=>none
def aR(lo:Int)(n:Nat):List D:=(List.range n).map λi=>.int (lo+(i:Nat))
def pC(lo:Int)(n:Nat):List D:=(List.range n).map λi=>.int (lo - (i:Nat))
def noE:EK:=λ_ _=>False
mutual
def wpE(Φ:aa):Ex->EK->ak->DH->(D->DH->Prop)->Prop
 |.var i,_,ρ,G,k=>match ρ[i]? with |some (some d)=>k d G |_=>False
 |.cst d,_,_,G,k=>k d G
 |.glb _ d,_,_,G,k=>k d G
 |.bin op fz a b,E,ρ,G,k=>wpE Φ a E ρ G λx G1=>wpE Φ b E ρ G1 λy G2=>cu op fz (view G2 x) (view G2 y) G2 k
 |.neg a,E,ρ,G,k=>wpE Φ a E ρ G λx G1=>match x with |.int i=>k (.int (-i)) G1 |_=>False
 |.cmp op a b,E,ρ,G,k=>wpE Φ a E ρ G λx G1=>wpE Φ b E ρ G1 λy G2=>aW op (view G2 x) (view G2 y) λc=>k (.bl c) G2
 |.chn op op' a b c,E,ρ,G,k=>wpE Φ a E ρ G λx G1=>wpE Φ b E ρ G1 λy G2=>aW op (view G2 x) (view G2 y) λt=>
   match t with
   |true=>wpE Φ c E ρ G2 λz G3=>aW op' (view G3 y) (view G3 z) λt'=>k (.bl t') G3
   |false=>k (.bl false) G2
 |.not a,E,ρ,G,k=>wpE Φ a E ρ G λx G1=>match truth (view G1 x) with |some b=>k (.bl (!b)) G1 |none=>False
 |.boo isAnd e es,E,ρ,G,k=>wpE Φ e E ρ G λd G1=>match d with |.bl b=>wpB Φ es isAnd b E ρ G1 (λc G2=>k (.bl c) G2) |_=>False
 |.ife c a b,E,ρ,G,k=>wpT Φ c E ρ G λt G1=>match t with |true=>wpE Φ a E ρ G1 k |false=>wpE Φ b E ρ G1 k
 |.tup es,E,ρ,G,k=>aO Φ es E ρ G λds G1=>ds.length<=sz/\k (.tup ds) G1
 |.lst fz es,E,ρ,G,k=>aO Φ es E ρ G λds G1=>ds.length<=sz/\mk fz ds G1 k
 |.idx a i,E,ρ,G,k=>wpE Φ a E ρ G λx G1=>wpE Φ i E ρ G1 λy G2=>cz (view G2 x) y λd=>k d G2
 |.slc fz a lo hi,E,ρ,G,k=>wpE Φ a E ρ G λx G1=>wpO Φ lo E ρ G1 λl G2=>wpO Φ hi E ρ G2 λh G3=>dD fz (view G3 x) l h G3 k
 |.rvs fz a s,E,ρ,G,k=>wpE Φ a E ρ G λx G1=>wpE Φ s E ρ G1 λy G2=>gw fz (view G2 x) y G2 k
 |.call f es,E,ρ,G,k=>aO Φ es E ρ G λds G1=>(Φ f).t ds G1 k E
 |.bcl f es,E,ρ,G,k=>aO Φ es E ρ G λds G1=>opB f (ds.map (view G1)) λd=>k d G1
 |.lcl fz f es,E,ρ,G,k=>aO Φ es E ρ G λds G1=>cG f (ds.map (view G1)) λxs=>mk fz xs G1 k
 |.isi a t,E,ρ,G,k=>wpE Φ a E ρ G λx G1=>match isT t (view G1 x) with |some b=>k (.bl b) G1 |none=>False
 |.isx a C xs,E,ρ,G,k=>wpE Φ a E ρ G λx G1=>match x with |.exn c=>xs.contains c=true/\k (.bl (fK c C)) G1 |_=>False
 |.fst es,E,ρ,G,k=>wpF Φ es E ρ G λl G1=>l.length<=sz/\k (.str l) G1
 |.rgl fz a,E,ρ,G,k=>wpE Φ a E ρ G λd G1=>match d with |.int n=>(0<=n/\n<=1000)/\mk fz (aR 0 n.toNat) G1 k |_=>False
 |.rpl f a b ix,E,ρ,G,k=>wpE Φ a E ρ G λda G1=>wpE Φ b E ρ G1 λdb G2=>cz (view G2 db) (.int 0) λd0=>(Φ f).t [da,d0] G2 (λd G3=>uN d λl=>wpE Φ ix E ρ G3 λi G4=>uO i l λm=>k (.str m) G4) E
 |.rgt a,E,ρ,G,k=>wpE Φ a E ρ G λd G1=>match d with |.int n=>(0<=n/\n<=1000)/\k (.tup (aR 0 n.toNat)) G1 |_=>False
 |.mth m o es,E,ρ,G,k=>wpE Φ o E ρ G λx G1=>recv m x G1/\aO Φ es E ρ G1 λds G2=>opM m x ds G2 k
 |.comp fz elt tg it cond _ cap,E,ρ,G,k=>wpI Φ it E ρ G λitems g G1=>
   compLoop (λd ρ' G' k'=>bf tg d ρ' G' λρ1=>wpT Φ cond noE ρ1 G' λb G2=>match b with |true=>wpE Φ elt noE ρ1 G2 λy G3=>k' (some y) ρ1 G3 |false=>k' none ρ1 G2)
    g items [] (cap.map λo=>match o with |none=>none |some j=>(ρ[j]?).join) G1 λds G2=>mk fz ds G2 k
 |.frz a,E,ρ,G,k=>wpE Φ a E ρ G λx G1=>match x with |.ref p=>(match G1 p with |some (.lst ds)=>k (.lst ds) (gq G1 p) |none=>False) |d=>k d G1
/-- a test -/
def wpT(Φ:aa):Tx->EK->ak->DH->(Bool->DH->Prop)->Prop
 |.not a,E,ρ,G,k=>wpT Φ a E ρ G λb G1=>k (!b) G1
 |.boo isAnd e es,E,ρ,G,k=>wpT Φ e E ρ G λb G1=>eY Φ es isAnd b E ρ G1 k
 |.yes,_,_,G,k=>k true G
 |.val x,E,ρ,G,k=>wpE Φ x E ρ G λd G1=>match truth (view G1 d) with |some b=>k b G1 |none=>False
def wpF(Φ:aa):Exs->EK->ak->DH->(List Nat->DH->Prop)->Prop
 |.nil,_,_,G,k=>k [] G
 |.cons e es,E,ρ,G,k=>wpE Φ e E ρ G λd G1=>match d with
  |.str l=>l.length<=1000/\wpF Φ es E ρ G1 λx G2=>k (l++x) G2
  |.int i=>(0<=i/\i < 100)/\wpF Φ es E ρ G1 λx G2=>k (fJ i.toNat++x) G2
  |_=>False
def aO(Φ:aa):Exs->EK->ak->DH->(List D->DH->Prop)->Prop
 |.nil,_,_,G,k=>k [] G
 |.cons e es,E,ρ,G,k=>wpE Φ e E ρ G λd G1=>aO Φ es E ρ G1 λds G2=>k (d::ds) G2
/-- and,or as values:truths alone;b:the one ahead -/
def wpB(Φ:aa):Exs->Bool->Bool->EK->ak->DH->(Bool->DH->Prop)->Prop
 |.nil,_,b,_,_,G,k=>k b G
 |.cons e es,isAnd,b,E,ρ,G,k=>match isAnd,b with
  |true,false=>k false G
  |false,true=>k true G
  |_,_=>wpE Φ e E ρ G λd G1=>match d with |.bl b'=>wpB Φ es isAnd b' E ρ G1 k |_=>False
def eY(Φ:aa):Txs->Bool->Bool->EK->ak->DH->(Bool->DH->Prop)->Prop
 |.nil,_,b,_,_,G,k=>k b G
 |.cons e es,isAnd,b,E,ρ,G,k=>match isAnd,b with
  |true,false=>k false G
  |false,true=>k true G
  |_,_=>wpT Φ e E ρ G λb' G1=>eY Φ es isAnd b' E ρ G1 k
/-- a bound of a slice -/
def wpO(Φ:aa):Ox->EK->ak->DH->(Option Int->DH->Prop)->Prop
 |.no,_,_,G,k=>k none G
 |.ob x,E,ρ,G,k=>wpE Φ x E ρ G λd G1=>match d with |.int i=>k (some i) G1 |_=>False
def wpI(Φ:aa):It'->EK->ak->DH->(List D->Hld->DH->Prop)->Prop
 |.seq e,E,ρ,G,k=>wpE Φ e E ρ G λd G1=>match itemsOf G1 d with |some ds=>k ds.1 ds.2 G1 |none=>False
 |.rng a,E,ρ,G,k=>wpE Φ a E ρ G λd G1=>match d with |.int n=>(-(2 ^ 62)<=n/\n < 2 ^ 62)/\k (aR 0 n.toNat) [] G1 |_=>False
 |.rng2 a b,E,ρ,G,k=>wpE Φ a E ρ G λx G1=>wpE Φ b E ρ G1 λy G2=>match x,y with
  |.int m,.int n=>(-(2 ^ 62)<=m/\m < 2 ^ 62/\-(2 ^ 62)<=n/\n < 2 ^ 62)/\k (aR m (n - m).toNat) [] G2
  |_,_=>False
 |.rev a,E,ρ,G,k=>wpE Φ a E ρ G λd G1=>match d with |.int n=>(-(2 ^ 62)<=n/\n < 2 ^ 62)/\k (pC ((n.toNat:Int) - 1) n.toNat) [] G1 |_=>False
 |.dwn a b c,E,ρ,G,k=>wpE Φ a E ρ G λx G1=>wpE Φ b E ρ G1 λy G2=>wpE Φ c E ρ G2 λz G3=>match x,y,z with
  |.int m,.int n,.int s=>(s=-1/\-(2 ^ 62)<=m/\m < 2 ^ 62/\-(2 ^ 62)<=n/\n < 2 ^ 62)/\k (pC m (m - n).toNat) [] G3
  |_,_,_=>False
 |.enm e,E,ρ,G,k=>wpE Φ e E ρ G λd G1=>match itemsOf G1 d with |some ds=>k (dj 0 ds.1) ds.2 G1 |none=>False
 |.zip a b,E,ρ,G,k=>wpE Φ a E ρ G λx G1=>wpE Φ b E ρ G1 λy G2=>match itemsOf G2 x,itemsOf G2 y with |some ds,some es=>k (bU ds.1 es.1) (ds.2++es.2) G2 |_,_=>False
end
structure En where
 nx:ak->DH->Prop
 rt:D->DH->Prop
 bk:ak->DH->Prop
 ct:ak->DH->Prop
def forLoop(step:D->ak->DH->(ak->DH->Prop)->Prop)(g:Hld):List D->ak->DH->(ak->DH->Prop)->Prop
 |[],ρ,G,k=>held g G/\k ρ G
 |d::ds,ρ,G,k=>held g G/\step d ρ G λρ' G'=>forLoop step g ds ρ' G' k
def whileLoop(test:ak->DH->(Bool->DH->Prop)->Prop)(body:ak->DH->(ak->DH->Prop)->Prop):Nat->ak->DH->(ak->DH->Prop)->Prop
 |0,_,_,_=>False
 |n+1,ρ,G,k=>test ρ G λb G1=>match b with |true=>body ρ G1 λρ' G'=>whileLoop test body n ρ' G' k |false=>k ρ G1
def dG(o i x:D)(G:DH)(k:DH->Prop):Prop:=
 match o,i with
 |.ref p,.int i=>match G p with |some (.lst ds)=>(match ixN ds.length i with |some j=>k (aV G p (.lst (ds.set j x))) |none=>False) |none=>False
 |_,_=>False
def dm(op:Operator)(a b:D)(k:D->Prop):Prop:=
 match op,a,b with
 |.Add,.int i,.int j=>k (.int (i+j))
 |.Add,.str x,.str y=>x.length+y.length<=sz/\k (.str (x++y))
 |.Sub,.int i,.int j=>k (.int (i - j))
 |_,_,_=>False
def uP:D->Bool
 |.int i=>decide (0<=i)&&decide (i < 100)
 |_=>false
def wpM(Φ:aa):Exs->EK->ak->DH->(DH->Prop)->Prop
 |.nil,_,_,G,k=>k G
 |.cons e es,E,ρ,G,k=>wpE Φ e E ρ G λd G1=>uP d=true/\wpM Φ es E ρ G1 k
def wpX(Φ:aa):Tb->ak->DH->(ak->DH->Prop)->(Xn->ak->DH->Prop)->Prop
 |.call f es,ρ,G,nx,ex=>aO Φ es noE ρ G λds G1=>(Φ f).t ds G1 (λ_ G2=>nx ρ G2) λx G2=>ex x ρ G2
 |.asg i f es,ρ,G,nx,ex=>aO Φ es noE ρ G λds G1=>(Φ f).t ds G1 (λd G2=>nx (ρ.set i (some d)) G2) λx G2=>ex x ρ G2
 |.pick f g i es,ρ,G,nx,ex=>wpE Φ (.var i) noE ρ G λd G1=>∃b:Bool,d=.int (if b then 1 else 0)/\aO Φ es noE ρ G1 λds G2=>(Φ (if b then g else f)).t ds G2 (λ_ G3=>nx ρ G3) λx G3=>ex x ρ G3
 |.ite c a b,ρ,G,nx,ex=>wpT Φ c noE ρ G λt G1=>match t with |true=>wpX Φ a ρ G1 nx ex |false=>wpX Φ b ρ G1 nx ex
def caught(h:Hd)(C:String)(ρ:ak):ak:=match h with
 |.flag i b=>ρ.set i (some (.bl b))
 |.bind n i=>((ρ.set n (some (.exn C))).set i (some (.exn C))).set n none
mutual
def wpS(Φ:aa):Sx->EK->ak->DH->En->Prop
 |.exp e,E,ρ,G,D=>wpE Φ e E ρ G λ_ G1=>D.nx ρ G1
 |.asg t e,E,ρ,G,D=>wpE Φ e E ρ G λd G1=>bf t d ρ G1 λρ'=>D.nx ρ' G1
 |.set o i e,E,ρ,G,D=>wpE Φ e E ρ G λx G1=>wpE Φ o E ρ G1 λa G2=>wpE Φ i E ρ G2 λy G3=>dG a y x G3 λG4=>D.nx ρ G4
 |.aug i op e,E,ρ,G,D=>match ρ[i]? with
  |some (some a)=>wpE Φ e E ρ G λb G1=>dm op a b λc=>D.nx (ρ.set i (some c)) G1
  |_=>False
 |.augs o i op e,E,ρ,G,D=>wpE Φ o E ρ G λa G1=>wpE Φ i E ρ G1 λy G2=>cz (view G2 a) y λold=>wpE Φ e E ρ G2 λb G3=>dm op old b λc=>dG a y c G3 λG4=>D.nx ρ G4
 |.ret e,E,ρ,G,D=>wpE Φ e E ρ G D.rt
 |.rtn,_,_,G,D=>D.rt .non G
 |.ite c a b,E,ρ,G,D=>wpT Φ c E ρ G λt G1=>match t with |true=>au Φ a E ρ G1 D |false=>au Φ b E ρ G1 D
 |.for_ t it body,E,ρ,G,D=>wpI Φ it E ρ G λitems g G1=>
   forLoop (λd ρ' G' k=>bf t d ρ' G' λρ1=>au Φ body E ρ1 G' { D with nx:=k,ct:=k,bk:=D.nx }) g items ρ G1 D.nx
 |.whl c body,E,ρ,G,D=>∃n,whileLoop (λρ' G' k=>wpT Φ c E ρ' G' k) (λρ' G' k=>au Φ body E ρ' G' { D with nx:=k,ct:=k,bk:=D.nx }) n ρ G D.nx
 |.pas,_,ρ,G,D=>D.nx ρ G
 |.brk,_,ρ,G,D=>D.bk ρ G
 |.cnt,_,ρ,G,D=>D.ct ρ G
 |.nev,_,_,_,_=>False
 |.rse C es,E,ρ,G,_=>wpM Φ es E ρ G λG1=>E ⟨C,.non⟩ G1
 |.tryc f es C i b,_,ρ,G,D=>aO Φ es noE ρ G λds G1=>(Φ f).t ds G1 (λ_ G2=>D.nx ρ G2) λx G2=>x.cls=C/\x.fld=.non/\D.nx (ρ.set i (some (.bl b))) G2
 |.tryx b C h xs,_,ρ,G,D=>wpX Φ b ρ G D.nx λx ρ' G'=>x.fld=.non/\xs.contains x.cls=true/\fK x.cls C=true/\D.nx (caught h x.cls ρ') G'
def au(Φ:aa):Sxs->EK->ak->DH->En->Prop
 |.nil,_,ρ,G,D=>D.nx ρ G
 |.cons s r,E,ρ,G,D=>wpS Φ s E ρ G { D with nx:=λρ' G'=>au Φ r E ρ' G' D }
end
theorem pF{Φ:aa}{a}{E}{ρ}{G}{k}:wpT Φ (.not a) E ρ G k=(wpT Φ a E ρ G λb G1=>k (!b) G1):=rfl
theorem pG{Φ:aa}{isAnd}{e}{es}{E}{ρ}{G}{k}:wpT Φ (.boo isAnd e es) E ρ G k=(wpT Φ e E ρ G λb G1=>eY Φ es isAnd b E ρ G1 k):=rfl
theorem pH{Φ:aa}{E}{ρ}{G}{k}:wpT Φ .yes E ρ G k=(k true G):=rfl
theorem iD{Φ:aa}{x}{E}{ρ}{G}{k}:wpT Φ (.val x) E ρ G k=(wpE Φ x E ρ G λd G1=>match truth (view G1 d) with |some b=>k b G1 |none=>False):=rfl
theorem gA{Φ:aa}{E}{ρ}{G}{k}:aO Φ .nil E ρ G k=(k [] G):=rfl
theorem fL{Φ:aa}{e}{es}{E}{ρ}{G}{k}:aO Φ (.cons e es) E ρ G k=(wpE Φ e E ρ G λd G1=>aO Φ es E ρ G1 λds G2=>k (d::ds) G2):=rfl
theorem pI{Φ:aa}{isAnd:Bool}{b:Bool}{E}{ρ}{G}{k}:wpB Φ .nil isAnd b E ρ G k=(k b G):=rfl
theorem ju{Φ:aa}{e}{es}{isAnd:Bool}{b:Bool}{E}{ρ}{G}{k}:wpB Φ (.cons e es) isAnd b E ρ G k=(match isAnd,b with
  |true,false=>k false G
  |false,true=>k true G
  |_,_=>wpE Φ e E ρ G λd G1=>match d with |.bl b'=>wpB Φ es isAnd b' E ρ G1 k |_=>False):=rfl
theorem pJ{Φ:aa}{isAnd:Bool}{b:Bool}{E}{ρ}{G}{k}:eY Φ .nil isAnd b E ρ G k=(k b G):=rfl
theorem jw{Φ:aa}{e}{es}{isAnd:Bool}{b:Bool}{E}{ρ}{G}{k}:eY Φ (.cons e es) isAnd b E ρ G k=(match isAnd,b with
  |true,false=>k false G
  |false,true=>k true G
  |_,_=>wpT Φ e E ρ G λb' G1=>eY Φ es isAnd b' E ρ G1 k):=rfl
theorem pK{Φ:aa}{E}{ρ}{G}{k}:wpO Φ .no E ρ G k=(k none G):=rfl
theorem pL{Φ:aa}{x}{E}{ρ}{G}{k}:wpO Φ (.ob x) E ρ G k=(wpE Φ x E ρ G λd G1=>match d with |.int i=>k (some i) G1 |_=>False):=rfl
theorem pM{Φ:aa}{e}{E}{ρ}{G}{k}:wpI Φ (.seq e) E ρ G k=(wpE Φ e E ρ G λd G1=>match itemsOf G1 d with |some ds=>k ds.1 ds.2 G1 |none=>False):=rfl
theorem pN{Φ:aa}{a}{E}{ρ}{G}{k}:wpI Φ (.rng a) E ρ G k=(wpE Φ a E ρ G λd G1=>match d with |.int n=>(-(2 ^ 62)<=n/\n < 2 ^ 62)/\k (aR 0 n.toNat) [] G1 |_=>False):=rfl
theorem uQ{Φ:aa}{a}{b}{E}{ρ}{G}{k}:wpI Φ (.rng2 a b) E ρ G k=(wpE Φ a E ρ G λx G1=>wpE Φ b E ρ G1 λy G2=>match x,y with
  |.int m,.int n=>(-(2 ^ 62)<=m/\m < 2 ^ 62/\-(2 ^ 62)<=n/\n < 2 ^ 62)/\k (aR m (n - m).toNat) [] G2
  |_,_=>False):=rfl
theorem uR{Φ:aa}{a}{E}{ρ}{G}{k}:wpI Φ (.rev a) E ρ G k=(wpE Φ a E ρ G λd G1=>match d with |.int n=>(-(2 ^ 62)<=n/\n < 2 ^ 62)/\k (pC ((n.toNat:Int) - 1) n.toNat) [] G1 |_=>False):=rfl
theorem uT{Φ:aa}{a}{b}{c}{E}{ρ}{G}{k}:wpI Φ (.dwn a b c) E ρ G k=(wpE Φ a E ρ G λx G1=>wpE Φ b E ρ G1 λy G2=>wpE Φ c E ρ G2 λz G3=>match x,y,z with
  |.int m,.int n,.int s=>(s=-1/\-(2 ^ 62)<=m/\m < 2 ^ 62/\-(2 ^ 62)<=n/\n < 2 ^ 62)/\k (pC m (m - n).toNat) [] G3
  |_,_,_=>False):=rfl
theorem pO{Φ:aa}{e}{E}{ρ}{G}{k}:wpI Φ (.enm e) E ρ G k=(wpE Φ e E ρ G λd G1=>match itemsOf G1 d with |some ds=>k (dj 0 ds.1) ds.2 G1 |none=>False):=rfl
theorem pP{Φ:aa}{a}{b}{E}{ρ}{G}{k}:wpI Φ (.zip a b) E ρ G k=(wpE Φ a E ρ G λx G1=>wpE Φ b E ρ G1 λy G2=>match itemsOf G2 x,itemsOf G2 y with |some ds,some es=>k (bU ds.1 es.1) (ds.2++es.2) G2 |_,_=>False):=rfl
theorem iG{Φ:aa}{E}{ρ}{G}{D}:au Φ .nil E ρ G D=(D.nx ρ G):=rfl
theorem iH{Φ:aa}{s}{r}{E}{ρ}{G}{D}:au Φ (.cons s r) E ρ G D=(wpS Φ s E ρ G { D with nx:=λρ' G'=>au Φ r E ρ' G' D }):=rfl
theorem pQ{Φ:aa}{i E ρ G k}:wpE Φ (.var i) E ρ G k=(match ρ[i]? with |some (some d)=>k d G |_=>False):=rfl
theorem gB{Φ:aa}{d E ρ G k}:wpE Φ (.cst d) E ρ G k=(k d G):=rfl
theorem pR{Φ:aa}{u0 d E ρ G k}:wpE Φ (.glb u0 d) E ρ G k=(k d G):=rfl
theorem pU{Φ:aa}{op fz a b E ρ G k}:wpE Φ (.bin op fz a b) E ρ G k=(wpE Φ a E ρ G λx G1=>wpE Φ b E ρ G1 λy G2=>cu op fz (view G2 x) (view G2 y) G2 k):=rfl
theorem pW{Φ:aa}{a E ρ G k}:wpE Φ (.neg a) E ρ G k=(wpE Φ a E ρ G λx G1=>match x with |.int i=>k (.int (-i)) G1 |_=>False):=rfl
theorem jx{Φ:aa}{op a b E ρ G k}:wpE Φ (.cmp op a b) E ρ G k=(wpE Φ a E ρ G λx G1=>wpE Φ b E ρ G1 λy G2=>aW op (view G2 x) (view G2 y) λc=>k (.bl c) G2):=rfl
theorem jy{Φ:aa}{op op' a b c E ρ G k}:wpE Φ (.chn op op' a b c) E ρ G k=(wpE Φ a E ρ G λx G1=>wpE Φ b E ρ G1 λy G2=>aW op (view G2 x) (view G2 y) λt=>
   match t with
   |true=>wpE Φ c E ρ G2 λz G3=>aW op' (view G3 y) (view G3 z) λt'=>k (.bl t') G3
   |false=>k (.bl false) G2):=rfl
theorem pX{Φ:aa}{a E ρ G k}:wpE Φ (.not a) E ρ G k=(wpE Φ a E ρ G λx G1=>match truth (view G1 x) with |some b=>k (.bl (!b)) G1 |none=>False):=rfl
theorem pY{Φ:aa}{isAnd e es E ρ G k}:wpE Φ (.boo isAnd e es) E ρ G k=(wpE Φ e E ρ G λd G1=>match d with |.bl b=>wpB Φ es isAnd b E ρ G1 (λc G2=>k (.bl c) G2) |_=>False):=rfl
theorem pZ{Φ:aa}{c a b E ρ G k}:wpE Φ (.ife c a b) E ρ G k=(wpT Φ c E ρ G λt G1=>match t with |true=>wpE Φ a E ρ G1 k |false=>wpE Φ b E ρ G1 k):=rfl
theorem p6{Φ:aa}{es E ρ G k}:wpE Φ (.tup es) E ρ G k=(aO Φ es E ρ G λds G1=>ds.length<=sz/\k (.tup ds) G1):=rfl
theorem p7{Φ:aa}{fz es E ρ G k}:wpE Φ (.lst fz es) E ρ G k=(aO Φ es E ρ G λds G1=>ds.length<=sz/\mk fz ds G1 k):=rfl
theorem p8{Φ:aa}{a i E ρ G k}:wpE Φ (.idx a i) E ρ G k=(wpE Φ a E ρ G λx G1=>wpE Φ i E ρ G1 λy G2=>cz (view G2 x) y λd=>k d G2):=rfl
theorem qb{Φ:aa}{fz a s E ρ G k}:wpE Φ (.rvs fz a s) E ρ G k=(wpE Φ a E ρ G λx G1=>wpE Φ s E ρ G1 λy G2=>gw fz (view G2 x) y G2 k):=rfl
theorem qd{Φ:aa}{fz a lo hi E ρ G k}:wpE Φ (.slc fz a lo hi) E ρ G k=(wpE Φ a E ρ G λx G1=>wpO Φ lo E ρ G1 λl G2=>wpO Φ hi E ρ G2 λh G3=>dD fz (view G3 x) l h G3 k):=rfl
theorem qe{Φ:aa}{f es E ρ G k}:wpE Φ (.call f es) E ρ G k=(aO Φ es E ρ G λds G1=>(Φ f).t ds G1 k E):=rfl
theorem qg{Φ:aa}{f es E ρ G k}:wpE Φ (.bcl f es) E ρ G k=(aO Φ es E ρ G λds G1=>opB f (ds.map (view G1)) λd=>k d G1):=rfl
theorem qi{Φ:aa}{fz f es E ρ G k}:wpE Φ (.lcl fz f es) E ρ G k=(aO Φ es E ρ G λds G1=>cG f (ds.map (view G1)) λxs=>mk fz xs G1 k):=rfl
theorem qj{Φ:aa}{a t E ρ G k}:wpE Φ (.isi a t) E ρ G k=(wpE Φ a E ρ G λx G1=>match isT t (view G1 x) with |some b=>k (.bl b) G1 |none=>False):=rfl
theorem uU{Φ:aa}{a C xs E ρ G k}:wpE Φ (.isx a C xs) E ρ G k=(wpE Φ a E ρ G λx G1=>match x with |.exn c=>xs.contains c=true/\k (.bl (fK c C)) G1 |_=>False):=rfl
theorem ql{Φ:aa}{fz a E ρ G k}:wpE Φ (.rgl fz a) E ρ G k=(wpE Φ a E ρ G λd G1=>match d with |.int n=>(0<=n/\n<=1000)/\mk fz (aR 0 n.toNat) G1 k |_=>False):=rfl
theorem Wt{Φ:aa}{f a b ix E ρ G k}:wpE Φ (.rpl f a b ix) E ρ G k=(wpE Φ a E ρ G λda G1=>wpE Φ b E ρ G1 λdb G2=>cz (view G2 db) (.int 0) λd0=>(Φ f).t [da,d0] G2 (λd G3=>uN d λl=>wpE Φ ix E ρ G3 λi G4=>uO i l λm=>k (.str m) G4) E):=rfl
theorem qm{Φ:aa}{a E ρ G k}:wpE Φ (.rgt a) E ρ G k=(wpE Φ a E ρ G λd G1=>match d with |.int n=>(0<=n/\n<=1000)/\k (.tup (aR 0 n.toNat)) G1 |_=>False):=rfl
theorem uV{Φ:aa}{es E ρ G k}:wpE Φ (.fst es) E ρ G k=(wpF Φ es E ρ G λl G1=>l.length<=sz/\k (.str l) G1):=rfl
theorem uW{Φ:aa}{E ρ G k}:wpF Φ .nil E ρ G k=k [] G:=rfl
theorem uX{Φ:aa}{e es E ρ G k}:wpF Φ (.cons e es) E ρ G k=(wpE Φ e E ρ G λd G1=>match d with
  |.str l=>l.length<=1000/\wpF Φ es E ρ G1 λx G2=>k (l++x) G2
  |.int i=>(0<=i/\i < 100)/\wpF Φ es E ρ G1 λx G2=>k (fJ i.toNat++x) G2
  |_=>False):=rfl
theorem dZ{Φ:aa}{m o es E ρ G k}:wpE Φ (.mth m o es) E ρ G k=(wpE Φ o E ρ G λx G1=>recv m x G1/\aO Φ es E ρ G1 λds G2=>opM m x ds G2 k):=rfl
theorem qp{Φ:aa}{a E ρ G k}:wpE Φ (.frz a) E ρ G k=(wpE Φ a E ρ G λx G1=>match x with |.ref p=>(match G1 p with |some (.lst ds)=>k (.lst ds) (gq G1 p) |none=>False) |d=>k d G1):=rfl
theorem qt{Φ:aa}{e E ρ G D}:wpS Φ (.exp e) E ρ G D=(wpE Φ e E ρ G λ_ G1=>D.nx ρ G1):=rfl
theorem iI{Φ:aa}{t e E ρ G D}:wpS Φ (.asg t e) E ρ G D=(wpE Φ e E ρ G λd G1=>bf t d ρ G1 λρ'=>D.nx ρ' G1):=rfl
theorem qu{Φ:aa}{o i e E ρ G D}:wpS Φ (.set o i e) E ρ G D=(wpE Φ e E ρ G λx G1=>wpE Φ o E ρ G1 λa G2=>wpE Φ i E ρ G2 λy G3=>dG a y x G3 λG4=>D.nx ρ G4):=rfl
theorem qw{Φ:aa}{i op e E ρ G D}:wpS Φ (.aug i op e) E ρ G D=(match ρ[i]? with
  |some (some a)=>wpE Φ e E ρ G λb G1=>dm op a b λc=>D.nx (ρ.set i (some c)) G1
  |_=>False):=rfl
theorem uY{Φ:aa}{o i op e E ρ G D}:wpS Φ (.augs o i op e) E ρ G D=(wpE Φ o E ρ G λa G1=>wpE Φ i E ρ G1 λy G2=>cz (view G2 a) y λold=>wpE Φ e E ρ G2 λb G3=>dm op old b λc=>dG a y c G3 λG4=>D.nx ρ G4):=rfl
theorem qx{Φ:aa}{e E ρ G D}:wpS Φ (.ret e) E ρ G D=(wpE Φ e E ρ G D.rt):=rfl
theorem qy{Φ:aa}{E ρ G D}:wpS Φ .rtn E ρ G D=(D.rt .non G):=rfl
theorem qz{Φ:aa}{c a b E ρ G D}:wpS Φ (.ite c a b) E ρ G D=(wpT Φ c E ρ G λt G1=>match t with |true=>au Φ a E ρ G1 D |false=>au Φ b E ρ G1 D):=rfl
theorem qC{Φ:aa}{E ρ G D}:wpS Φ .pas E ρ G D=(D.nx ρ G):=rfl
theorem qD{Φ:aa}{E ρ G D}:wpS Φ .brk E ρ G D=(D.bk ρ G):=rfl
theorem qF{Φ:aa}{E ρ G D}:wpS Φ .cnt E ρ G D=(D.ct ρ G):=rfl
theorem jz{Φ:aa}{C es E ρ G D}:wpS Φ (.rse C es) E ρ G D=(wpM Φ es E ρ G λG1=>E ⟨C,.non⟩ G1):=rfl
theorem uZ{Φ:aa}{E ρ G k}:wpM Φ .nil E ρ G k=k G:=rfl
theorem qG{Φ:aa}{e es E ρ G k}:wpM Φ (.cons e es) E ρ G k=(wpE Φ e E ρ G λd G1=>uP d=true/\wpM Φ es E ρ G1 k):=rfl
theorem u5{Φ:aa}{f es C i b E ρ G D}:wpS Φ (.tryc f es C i b) E ρ G D=(aO Φ es noE ρ G λds G1=>(Φ f).t ds G1 (λ_ G2=>D.nx ρ G2) λx G2=>x.cls=C/\x.fld=.non/\D.nx (ρ.set i (some (.bl b))) G2):=rfl
theorem u6{Φ:aa}{b C h xs E ρ G D}:wpS Φ (.tryx b C h xs) E ρ G D=(wpX Φ b ρ G D.nx λx ρ' G'=>x.fld=.non/\xs.contains x.cls=true/\fK x.cls C=true/\D.nx (caught h x.cls ρ') G'):=rfl
theorem u9{Φ:aa}{f g i es ρ G nx ex}:wpX Φ (.pick f g i es) ρ G nx ex=(wpE Φ (.var i) noE ρ G λd G1=>∃b:Bool,d=.int (if b then 1 else 0)/\aO Φ es noE ρ G1 λds G2=>(Φ (if b then g else f)).t ds G2 (λ_ G3=>nx ρ G3) λx G3=>ex x ρ G3):=rfl
theorem vd{Φ:aa}{f es ρ G nx ex}:wpX Φ (.call f es) ρ G nx ex=(aO Φ es noE ρ G λds G1=>(Φ f).t ds G1 (λ_ G2=>nx ρ G2) λx G2=>ex x ρ G2):=rfl
theorem vf{Φ:aa}{i f es ρ G nx ex}:wpX Φ (.asg i f es) ρ G nx ex=(aO Φ es noE ρ G λds G1=>(Φ f).t ds G1 (λd G2=>nx (ρ.set i (some d)) G2) λx G2=>ex x ρ G2):=rfl
theorem vg{Φ:aa}{c a b ρ G nx ex}:wpX Φ (.ite c a b) ρ G nx ex=(wpT Φ c noE ρ G λt G1=>match t with |true=>wpX Φ a ρ G1 nx ex |false=>wpX Φ b ρ G1 nx ex):=rfl
theorem qH{Φ:aa}{E ρ G D}:wpS Φ .nev E ρ G D=(False):=rfl
theorem vh{Φ:aa}{fz elt tg it cond N cap E ρ G k}:wpE Φ (.comp fz elt tg it cond N cap) E ρ G k=(wpI Φ it E ρ G λitems g G1=>
   compLoop (λd ρ' G' k'=>bf tg d ρ' G' λρ1=>wpT Φ cond noE ρ1 G' λb G2=>match b with |true=>wpE Φ elt noE ρ1 G2 λy G3=>k' (some y) ρ1 G3 |false=>k' none ρ1 G2)
    g items [] (cap.map λo=>match o with |none=>none |some j=>(ρ[j]?).join) G1 λds G2=>mk fz ds G2 k):=rfl
theorem Ao{Φ:aa}{t it body E ρ G D}:wpS Φ (.for_ t it body) E ρ G D=(wpI Φ it E ρ G λitems g G1=>
   forLoop (λd ρ' G' k=>bf t d ρ' G' λρ1=>au Φ body E ρ1 G' { D with nx:=k,ct:=k,bk:=D.nx }) g items ρ G1 D.nx):=rfl
theorem Wu{Φ:aa}{c body E ρ G D}:wpS Φ (.whl c body) E ρ G D=(∃n,whileLoop (λρ' G' k=>wpT Φ c E ρ' G' k) (λρ' G' k=>au Φ body E ρ' G' { D with nx:=k,ct:=k,bk:=D.nx }) n ρ G D.nx):=rfl
section
variable {k k':D->DH->Prop} {G:DH}
theorem cU{fz:Bool}{xs:List D}(h:∀d G',k d G'->k' d G')(q:mk fz xs G k):mk fz xs G k':=by
 cases fz with
 |true=>exact h _ _ q
 |false=>exact λp hp=>h _ _ (q p hp)
theorem Aq{a b:D}{p:Int->Int->Prop}(h:fH a b p):∃i j,a=.int i/\b=.int j/\p i j:=by
 cases a with
 |int i=>cases b with
  |int j=>exact ⟨i,j,rfl,rfl,h⟩
  |_=>exact h.elim
 |_=>exact h.elim
theorem qI{a b:D}{p q:Int->Int->Prop}(h:∀i j,p i j->q i j)(z:fH a b p):fH a b q:=by obtain ⟨i,j,rfl,rfl,z⟩:=Aq z;exact h i j z
theorem Ar{op:Operator}{fz:Bool}{a b:D}(h:∀d G',k d G'->k' d G')(q:cu op fz a b G k):cu op fz a b G k':=by
 cases op with
 |Add=>
  have q:il fz a b G k:=q;show il fz a b G k';unfold il at q ⊢;cases a with
  |int i=>cases b <;> first |exact h _ _ q |exact q
  |str i=>cases b <;> first |exact ⟨q.1,h _ _ q.2⟩ |exact q
  |lst i=>cases b <;> first |exact ⟨q.1,cU h q.2⟩ |exact q
  |tup i=>cases b <;> first |exact ⟨q.1,h _ _ q.2⟩ |exact q
  |_=>exact q
 |Sub=>exact qI (λ_ _ z=>h _ _ z) q
 |Mult=>
  have q:ir fz a b G k:=q;show ir fz a b G k';unfold ir at q ⊢;cases b with
  |int n=>cases a <;> first |exact ⟨q.1,h _ _ q.2⟩ |exact ⟨q.1,q.2.1,q.2.2.1,h _ _ q.2.2.2⟩ |exact ⟨q.1,q.2.1,q.2.2.1,cU h q.2.2.2⟩ |exact ⟨q.1,q.2.1,q.2.2.1,q.2.2.2.1,h _ _ q.2.2.2.2⟩ |exact q
  |_=>exact q
 |FloorDiv=>exact qI (λ_ _ z=>⟨z.1,h _ _ z.2⟩) q
 |Mod=>exact qI (λ_ _ z=>⟨z.1,h _ _ z.2⟩) q
 |Pow=>exact qI (λ_ _ z=>⟨z.1,h _ _ z.2⟩) q
 |_=>exact q
theorem Av{a b:D}{k k':Bool->Prop}(h:∀c,k c->k' c)(q:eV a b k):eV a b k':=by
 unfold eV at q ⊢;split at q
 ·split at q
  ·exact h _ q
  ·exact q
 ·exact ⟨q.1,h _ q.2⟩
 ·exact ⟨q.1,h _ q.2⟩
 ·exact q
theorem gC{op:CmpOp}{a b:D}{k k':Bool->Prop}(h:∀c,k c->k' c)(q:aW op a b k):aW op a b k':=by
 cases op with
 |Eq=>exact ⟨q.1,h _ q.2⟩
 |NotEq=>exact ⟨q.1,h _ q.2⟩
 |Lt=>have q:iu a b k:=q;show iu a b k';unfold iu at q ⊢;split at q <;> first |exact h _ q |exact q
 |LtE=>have q:iw a b k:=q;show iw a b k';unfold iw at q ⊢;split at q <;> first |exact h _ q |exact q
 |Gt=>have q:iy a b k:=q;show iy a b k';unfold iy at q ⊢;split at q <;> first |exact h _ q |exact q
 |GtE=>have q:iz a b k:=q;show iz a b k';unfold iz at q ⊢;split at q <;> first |exact h _ q |exact q
 |Is=>
  have q:iB a b k:=q;show iB a b k';unfold iB at q ⊢;split at q
  ·exact h _ q
  ·split at q
   ·exact h _ q
   ·exact q
  ·exact q
 |IsNot=>
  have q:iC a b k:=q;show iC a b k';unfold iC at q ⊢;split at q
  ·exact h _ q
  ·split at q
   ·exact h _ q
   ·exact q
  ·exact q
 |In=>exact Av h q
 |NotIn=>exact Av (λc=>h _) q
theorem qJ{a i:D}{k k':D->Prop}(h:∀c,k c->k' c)(q:cz a i k):cz a i k':=by
 unfold cz at q ⊢;split at q
 ·split at q
  ·exact h _ q
  ·exact q
 ·split at q
  ·exact h _ q
  ·exact q
 ·split at q
  ·exact h _ q
  ·exact q
 ·exact q
theorem Aw{fz:Bool}{a:D}{lo hi:Option Int}(h:∀d G',k d G'->k' d G')(q:dD fz a lo hi G k):dD fz a lo hi G k':=by
 unfold dD at q ⊢;split at q <;> first
  |exact cU h q
  |exact h _ _ q
  |exact q.elim
theorem Ax{fz:Bool}{a y:D}(h:∀d G',k d G'->k' d G')(q:gw fz a y G k):gw fz a y G k':=by
 unfold gw at q ⊢;split at q
 ·exact ⟨q.1,cU h q.2⟩
 ·exact q.elim
theorem Ay{f:Bf}{as:List D}{k k':D->Prop}(h:∀c,k c->k' c)(q:opB f as k):opB f as k':=by
 cases f with
 |len=>simp only[opB,uH]at q ⊢;split at q <;> first |exact h _ q |exact q.elim
 |all=>
  simp only[opB,oV]at q ⊢;split at q
  ·split at q
   ·exact h _ q
   ·exact q
  ·exact q
 |int=>
  simp only[opB,oW]at q ⊢;split at q
  ·exact h _ q
  ·exact h _ q
  ·split at q
   ·exact ⟨q.1,h _ q.2⟩
   ·exact q
  ·exact q
 |tuple=>simp only[opB,uI]at q ⊢;split at q <;> first |exact h _ q |exact q.elim
 |sum=>
  simp only[opB,uJ]at q ⊢;split at q
  ·split at q
   ·exact h _ q
   ·exact q
  ·exact q
 |min=>
  simp only[opB,jr]at q ⊢;split at q
  ·split at q
   ·exact ⟨q.1,λm h1 h2=>h _ (q.2 m h1 h2)⟩
   ·split at q
    ·exact λm h1 h2=>h _ (q m h1 h2)
    ·exact q
  ·exact q
 |max=>simp only[opB,An]at q ⊢;split at q <;> first |exact h _ q |exact q.elim
 |str=>
  simp only[opB,uK]at q ⊢;split at q
  ·exact ⟨q.1,h _ q.2⟩
  ·exact q
theorem Az{f:Lf}{as:List D}{k k':List D->Prop}(h:∀c,k c->k' c)(q:cG f as k):cG f as k':=by
 cases f with
 |list=>simp only[cG,uL]at q ⊢;split at q <;> first |exact h _ q |exact q.elim
 |sorted=>
  simp only[cG,jt]at q ⊢;split at q
  ·split at q
   ·exact ⟨q.1,λls p z=>h _ (q.2 ls p z)⟩
   ·exact q
  ·split at q
   ·exact ⟨q.1,λls p z=>h _ (q.2 ls p z)⟩
   ·exact q
  ·exact q
theorem fM{m:Mf}{o:D}{as:List D}(h:∀d G',k d G'->k' d G')(q:opM m o as G k):opM m o as G k':=by
 cases m with
 |join=>
  simp only[opM,oX]at q ⊢;split at q
  ·split at q
   ·exact ⟨q.1,h _ _ q.2⟩
   ·exact q
  ·exact q
 |append=>
  simp only[opM,oY]at q ⊢;split at q
  ·split at q
   ·exact ⟨q.1,h _ _ q.2⟩
   ·exact q
  ·exact q
 |extend=>
  simp only[opM,oZ]at q ⊢;split at q
  ·split at q
   ·exact ⟨q.1,h _ _ q.2⟩
   ·exact q
  ·exact q
 |insert=>
  simp only[opM,ph]at q ⊢;split at q
  ·split at q
   ·exact ⟨q.1,q.2.1,q.2.2.1,h _ _ q.2.2.2⟩
   ·exact q
  ·exact q
 |pop=>
  simp only[opM,pq]at q ⊢;split at q
  ·split at q
   ·refine ⟨q.1,q.2.1,?_⟩;have q2:=q.2.2;split at q2
    ·exact h _ _ q2
    ·exact q2
   ·exact q
  ·exact q
 |count=>
  simp only[opM,pA]at q ⊢;split at q
  ·split at q
   ·exact h _ _ q
   ·exact q
  ·exact q
 |index=>
  simp only[opM,pB]at q ⊢;split at q
  ·split at q
   ·exact ⟨q.1,h _ _ q.2⟩
   ·exact q
  ·exact q
theorem vm{o i x:D}{k k':DH->Prop}(h:∀G',k G'->k' G')(q:dG o i x G k):dG o i x G k':=by
 unfold dG at q ⊢;split at q
 ·split at q
  ·split at q
   ·exact h _ q
   ·exact q
  ·exact q
 ·exact q
theorem vo{op:Operator}{a b:D}{k k':D->Prop}(h:∀c,k c->k' c)(q:dm op a b k):dm op a b k':=by
 unfold dm at q ⊢;split at q <;> first
  |exact h _ q
  |exact ⟨q.1,h _ q.2⟩
  |exact q.elim
mutual
theorem eZ{k k':ak->Prop}(h:∀ρ,k ρ->k' ρ):∀(t:Tg){d:D}{ρ:ak},bf t d ρ G k->bf t d ρ G k'
 |.nm i,d,ρ,q=>h _ q
 |.tp ts,d,ρ,q=>by
  unfold bf at q ⊢;split at q
  ·exact vp h ts q
  ·exact vp h ts q
  ·exact q
theorem vp{k k':ak->Prop}(h:∀ρ,k ρ->k' ρ):∀(ts:Tgs){ds:List D}{ρ:ak},bK ts ds ρ G k->bK ts ds ρ G k'
 |.nil,ds,ρ,q=>by
  unfold bK at q ⊢;split at q
  ·exact h _ q
  ·exact q
 |.cons t r,ds,ρ,q=>by
  unfold bK at q ⊢;split at q
  ·exact eZ (λρ' q'=>vp h r q') t q
  ·exact q
end
theorem qK{step step':D->ak->DH->(Option D->ak->DH->Prop)->Prop}(hs:∀d ρ G (k k':Option D->ak->DH->Prop),(∀o ρ' G',k o ρ' G'->k' o ρ' G')->step d ρ G k->step' d ρ G k')
  {g:Hld} {k k':List D->DH->Prop} (h:∀ds G',k ds G'->k' ds G'):∀(ds acc:List D)(ρ:ak)(G:DH),compLoop step g ds acc ρ G k->compLoop step' g ds acc ρ G k'
 |[],acc,ρ,G,q=>⟨q.1,q.2.1,h _ _ q.2.2⟩
 |d::ds,acc,ρ,G,q=>by
  refine ⟨q.1,q.2.1,hs d ρ G _ _ (λo ρ' G' z=>?_) q.2.2⟩;cases o with
  |some y=>exact qK hs h ds (acc++[y]) ρ' G' z
  |none=>exact qK hs h ds acc ρ' G' z
theorem Ba{step step':D->ak->DH->(ak->DH->Prop)->Prop}(hs:∀d ρ G (k k':ak->DH->Prop),(∀ρ' G',k ρ' G'->k' ρ' G')->step d ρ G k->step' d ρ G k')
  {g:Hld} {k k':ak->DH->Prop} (h:∀ρ G',k ρ G'->k' ρ G'):∀(ds:List D)(ρ:ak)(G:DH),forLoop step g ds ρ G k->forLoop step' g ds ρ G k'
 |[],ρ,G,q=>⟨q.1,h _ _ q.2⟩
 |d::ds,ρ,G,q=>⟨q.1,hs d ρ G _ _ (λρ' G' z=>Ba hs h ds ρ' G' z) q.2⟩
theorem Bb{test test':ak->DH->(Bool->DH->Prop)->Prop}{body body':ak->DH->(ak->DH->Prop)->Prop}
  (ht:∀ρ G (k k':Bool->DH->Prop),(∀b G',k b G'->k' b G')->test ρ G k->test' ρ G k') (hb:∀ρ G (k k':ak->DH->Prop),(∀ρ' G',k ρ' G'->k' ρ' G')->body ρ G k->body' ρ G k')
  {k k':ak->DH->Prop} (h:∀ρ G',k ρ G'->k' ρ G'):∀(n:Nat)(ρ:ak)(G:DH),whileLoop test body n ρ G k->whileLoop test' body' n ρ G k'
 |0,ρ,G,q=>q
 |n+1,ρ,G,q=>ht ρ G _ _ (λb G' z=>by
   cases b with
   |true=>exact hb ρ G' _ _ (λρ' G'' z'=>Bb ht hb h n ρ' G'' z') z
   |false=>exact h _ _ z) q
end
section
variable {Φ:aa} {G:DH}
mutual
theorem aD{E:EK}{ρ:ak}:∀(x:Ex){G:DH}{k k':D->DH->Prop},(∀d G',k d G'->k' d G')->wpE Φ x E ρ G k->wpE Φ x E ρ G k'
 |.var i,G,k,k',h,q=>by
  rw[pQ]at q ⊢;split at q
  ·exact h _ _ q
  ·exact q
 |.cst d,G,k,k',h,q=>by rw[gB]at q ⊢;exact h _ _ q
 |.glb x d,G,k,k',h,q=>by rw[pR]at q ⊢;exact h _ _ q
 |.bin op fz a b,G,k,k',h,q=>by
  rw[pU]at q ⊢;exact aD a (λ_ _ q=>aD b (λ_ _ q=>Ar h q) q) q
 |.neg a,G,k,k',h,q=>by
  rw[pW]at q ⊢;refine aD a (λx _ q=>?_) q;split at q
  ·exact h _ _ q
  ·exact q
 |.cmp op a b,G,k,k',h,q=>by
  rw[jx]at q ⊢;exact aD a (λ_ _ q=>aD b (λ_ _ q=>gC (λ_ q=>h _ _ q) q) q) q
 |.chn op op' a b c,G,k,k',h,q=>by
  rw[jy]at q ⊢;refine aD a (λ_ _ q=>aD b (λ_ _ q=>gC (λt q=>?_) q) q) q;cases t with
  |true=>exact aD c (λ_ _ q=>gC (λ_ q=>h _ _ q) q) q
  |false=>exact h _ _ q
 |.not a,G,k,k',h,q=>by
  rw[pX]at q ⊢;refine aD a (λx _ q=>?_) q;split at q
  ·exact h _ _ q
  ·exact q
 |.boo isAnd e es,G,k,k',h,q=>by
  rw[pY]at q ⊢;refine aD e (λx _ q=>?_) q;split at q
  ·exact qL es (λ_ _ q=>h _ _ q) q
  ·exact q
 |.ife c a b,G,k,k',h,q=>by
  rw[pZ]at q ⊢;refine cV c (λt _ q=>?_) q;cases t with
  |true=>exact aD a h q
  |false=>exact aD b h q
 |.tup es,G,k,k',h,q=>by
  rw[p6]at q ⊢;exact cW es (λ_ _ q=>⟨q.1,h _ _ q.2⟩) q
 |.lst fz es,G,k,k',h,q=>by
  rw[p7]at q ⊢;exact cW es (λ_ _ q=>⟨q.1,cU h q.2⟩) q
 |.idx a i,G,k,k',h,q=>by
  rw[p8]at q ⊢;exact aD a (λ_ _ q=>aD i (λ_ _ q=>qJ (λ_ q=>h _ _ q) q) q) q
 |.slc fz a lo hi,G,k,k',h,q=>by
  rw[qd]at q ⊢;exact aD a (λ_ _ q=>vy lo (λ_ _ q=>vy hi (λ_ _ q=>Aw h q) q) q) q
 |.rvs fz a s,G,k,k',h,q=>by
  rw[qb]at q ⊢;exact aD a (λ_ _ q=>aD s (λ_ _ q=>Ax h q) q) q
 |.call f es,G,k,k',h,q=>by
  rw[qe]at q ⊢;exact cW es (λ_ _ q=>Spec.mono q h λ_ _ z=>z) q
 |.bcl f es,G,k,k',h,q=>by
  rw[qg]at q ⊢;exact cW es (λ_ _ q=>Ay (λ_ q=>h _ _ q) q) q
 |.lcl fz f es,G,k,k',h,q=>by
  rw[qi]at q ⊢;exact cW es (λ_ _ q=>Az (λ_ q=>cU h q) q) q
 |.isi a t,G,k,k',h,q=>by
  rw[qj]at q ⊢;refine aD a (λx _ q=>?_) q;split at q
  ·exact h _ _ q
  ·exact q
 |.isx a C xs,G,k,k',h,q=>by
  rw[uU]at q ⊢;refine aD a (λx _ q=>?_) q;split at q
  ·exact ⟨q.1,h _ _ q.2⟩
  ·exact q
 |.rgl fz a,G,k,k',h,q=>by
  rw[ql]at q ⊢;refine aD a (λd _ q=>?_) q;split at q
  ·exact ⟨q.1,cU h q.2⟩
  ·exact q
 |.rpl f a b ix,G,k,k',h,q=>by
  rw[Wt]at q ⊢;refine aD a (λ_ _ q=>aD b (λ_ _ q=>qJ (λ_ q=>Spec.mono q (λd G3 q=>?_) λ_ _ z=>z) q) q) q;unfold uN at q ⊢;split at q
  ·refine ⟨q.1,aD ix (λi G4 q=>?_) q.2⟩;unfold uO at q ⊢;split at q
   ·split at q
    ·exact h _ _ q
    ·exact q
   ·exact q
  ·exact q
 |.rgt a,G,k,k',h,q=>by
  rw[qm]at q ⊢;refine aD a (λd _ q=>?_) q;split at q
  ·exact ⟨q.1,h _ _ q.2⟩
  ·exact q
 |.fst es,G,k,k',h,q=>by
  rw[uV]at q ⊢;exact vq es (λ_ _ q=>⟨q.1,h _ _ q.2⟩) q
 |.mth m o es,G,k,k',h,q=>by
  rw[dZ]at q ⊢;exact aD o (λ_ _ q=>⟨q.1,cW es (λ_ _ q=>fM h q) q.2⟩) q
 |.comp fz elt tg it cond N cap,G,k,k',h,q=>by
  rw[vh]at q ⊢;refine jA it (λitems g G1 q=>?_) q;refine qK ?_ (λds G2 z=>cU h z) items [] _ G1 q;intro d ρ' G' k k' hk z;refine eZ (λρ1 z=>?_) tg z;refine cV cond (λb G2 z=>?_) z;cases b with
  |true=>exact aD elt (λy G3 z=>hk _ _ _ z) z
  |false=>exact hk _ _ _ z
 |.frz a,G,k,k',h,q=>by
  rw[qp]at q ⊢;refine aD a (λx G1 q=>?_) q;split at q
  ·split at q
   ·exact h _ _ q
   ·exact q
  ·exact h _ _ q
theorem cV{E:EK}{ρ:ak}:∀(x:Tx){G:DH}{k k':Bool->DH->Prop},(∀d G',k d G'->k' d G')->wpT Φ x E ρ G k->wpT Φ x E ρ G k'
 |.not a,G,k,k',h,q=>by rw[pF]at q ⊢;exact cV a (λ_ _ q=>h _ _ q) q
 |.boo isAnd e es,G,k,k',h,q=>by rw[pG]at q ⊢;exact cV e (λ_ _ q=>qM es h q) q
 |.yes,G,k,k',h,q=>by rw[pH]at q ⊢;exact h _ _ q
 |.val a,G,k,k',h,q=>by
  rw[iD]at q ⊢;refine aD a (λx _ q=>?_) q;split at q
  ·exact h _ _ q
  ·exact q
theorem vq{E:EK}{ρ:ak}:∀(x:Exs){G:DH}{k k':List Nat->DH->Prop},(∀d G',k d G'->k' d G')->wpF Φ x E ρ G k->wpF Φ x E ρ G k'
 |.nil,G,k,k',h,q=>by rw[uW]at q ⊢;exact h _ _ q
 |.cons e es,G,k,k',h,q=>by
  rw[uX]at q ⊢;refine aD e (λd _ q=>?_) q;split at q
  ·exact ⟨q.1,vq es (λ_ _ q=>h _ _ q) q.2⟩
  ·exact ⟨q.1,vq es (λ_ _ q=>h _ _ q) q.2⟩
  ·exact q
theorem cW{E:EK}{ρ:ak}:∀(x:Exs){G:DH}{k k':List D->DH->Prop},(∀d G',k d G'->k' d G')->aO Φ x E ρ G k->aO Φ x E ρ G k'
 |.nil,G,k,k',h,q=>by rw[gA]at q ⊢;exact h _ _ q
 |.cons e es,G,k,k',h,q=>by rw[fL]at q ⊢;exact aD e (λ_ _ q=>cW es (λ_ _ q=>h _ _ q) q) q
theorem qL{E:EK}{ρ:ak}:∀(x:Exs){isAnd b:Bool}{G:DH}{k k':Bool->DH->Prop},(∀d G',k d G'->k' d G')->wpB Φ x isAnd b E ρ G k->wpB Φ x isAnd b E ρ G k'
 |.nil,_,_,G,k,k',h,q=>by rw[pI]at q ⊢;exact h _ _ q
 |.cons e es,isAnd,b,G,k,k',h,q=>by
  rw[ju]at q ⊢;cases isAnd <;> cases b <;> first
   |exact h _ _ q
   | (refine aD e (λd _ q=>?_) q
      split at q
      ·exact qL es h q
      ·exact q)
theorem qM{E:EK}{ρ:ak}:∀(x:Txs){isAnd b:Bool}{G:DH}{k k':Bool->DH->Prop},(∀d G',k d G'->k' d G')->eY Φ x isAnd b E ρ G k->eY Φ x isAnd b E ρ G k'
 |.nil,_,_,G,k,k',h,q=>by rw[pJ]at q ⊢;exact h _ _ q
 |.cons e es,isAnd,b,G,k,k',h,q=>by
  rw[jw]at q ⊢;cases isAnd <;> cases b <;> first
   |exact h _ _ q
   |exact cV e (λd _ q=>qM es h q) q
theorem vy{E:EK}{ρ:ak}:∀(x:Ox){G:DH}{k k':Option Int->DH->Prop},(∀d G',k d G'->k' d G')->wpO Φ x E ρ G k->wpO Φ x E ρ G k'
 |.no,G,k,k',h,q=>by rw[pK]at q ⊢;exact h _ _ q
 |.ob a,G,k,k',h,q=>by
  rw[pL]at q ⊢;refine aD a (λx _ q=>?_) q;split at q
  ·exact h _ _ q
  ·exact q
theorem jA{E:EK}{ρ:ak}:∀(x:It'){G:DH}{k k':List D->Hld->DH->Prop},(∀d g G',k d g G'->k' d g G')->wpI Φ x E ρ G k->wpI Φ x E ρ G k'
 |.seq a,G,k,k',h,q=>by
  rw[pM]at q ⊢;refine aD a (λx _ q=>?_) q;split at q
  ·exact h _ _ _ q
  ·exact q
 |.rng a,G,k,k',h,q=>by
  rw[pN]at q ⊢;refine aD a (λx _ q=>?_) q;split at q
  ·exact ⟨q.1,h _ _ _ q.2⟩
  ·exact q
 |.rev a,G,k,k',h,q=>by
  rw[uR]at q ⊢;refine aD a (λx _ q=>?_) q;split at q
  ·exact ⟨q.1,h _ _ _ q.2⟩
  ·exact q
 |.dwn a b d,G,k,k',h,q=>by
  rw[uT]at q ⊢;refine aD a (λx _ q=>aD b (λy _ q=>aD d (λz _ q=>?_) q) q) q;split at q
  ·exact ⟨q.1,h _ _ _ q.2⟩
  ·exact q
 |.rng2 a b,G,k,k',h,q=>by
  rw[uQ]at q ⊢;refine aD a (λx _ q=>aD b (λy _ q=>?_) q) q;split at q
  ·exact ⟨q.1,h _ _ _ q.2⟩
  ·exact q
 |.enm a,G,k,k',h,q=>by
  rw[pO]at q ⊢;refine aD a (λx _ q=>?_) q;split at q
  ·exact h _ _ _ q
  ·exact q
 |.zip a b,G,k,k',h,q=>by
  rw[pP]at q ⊢;refine aD a (λx _ q=>aD b (λy _ q=>?_) q) q;split at q
  ·exact h _ _ _ q
  ·exact q
end
structure En.Le(D D':En):Prop where
 nx:∀ρ G,D.nx ρ G->D'.nx ρ G
 rt:∀d G,D.rt d G->D'.rt d G
 bk:∀ρ G,D.bk ρ G->D'.bk ρ G
 ct:∀ρ G,D.ct ρ G->D'.ct ρ G
theorem vz:∀(b:Tb){ρ:ak}{G:DH}{nx nx':ak->DH->Prop}{ex ex':Xn->ak->DH->Prop},(∀ρ G,nx ρ G->nx' ρ G)->(∀x ρ G,ex x ρ G->ex' x ρ G)->wpX Φ b ρ G nx ex->wpX Φ b ρ G nx' ex'
 |.call f es,ρ,G,nx,nx',ex,ex',h,h',q=>by rw[vd]at q ⊢;exact cW es (λ_ _ q=>Spec.mono q (λ_ _ z=>h _ _ z) λ_ _ z=>h' _ _ _ z) q
 |.pick f g i es,ρ,G,nx,nx',ex,ex',h,h',q=>by
  rw[u9]at q ⊢;exact aD (.var i) (λ_ _ q=>let ⟨b,e,q⟩:=q;⟨b,e,cW es (λ_ _ q=>Spec.mono q (λ_ _ z=>h _ _ z) λ_ _ z=>h' _ _ _ z) q⟩) q
 |.asg i f es,ρ,G,nx,nx',ex,ex',h,h',q=>by rw[vf]at q ⊢;exact cW es (λ_ _ q=>Spec.mono q (λ_ _ z=>h _ _ z) λ_ _ z=>h' _ _ _ z) q
 |.ite c a b,ρ,G,nx,nx',ex,ex',h,h',q=>by
  rw[vg]at q ⊢;refine cV c (λt _ q=>?_) q;cases t with
  |true=>exact vz a h h' q
  |false=>exact vz b h h' q
mutual
theorem wpS_mono{E:EK}:∀(x:Sx){ρ:ak}{G:DH}{D D':En},D.Le D'->wpS Φ x E ρ G D->wpS Φ x E ρ G D'
 |.exp e,ρ,G,D,D',h,q=>by rw[qt]at q ⊢;exact aD e (λ_ _ q=>h.nx _ _ q) q
 |.asg t e,ρ,G,D,D',h,q=>by rw[iI]at q ⊢;exact aD e (λ_ _ q=>eZ (λ_ q=>h.nx _ _ q) t q) q
 |.set o i e,ρ,G,D,D',h,q=>by rw[qu]at q ⊢;exact aD e (λ_ _ q=>aD o (λ_ _ q=>aD i (λ_ _ q=>vm (λ_ q=>h.nx _ _ q) q) q) q) q
 |.aug i op e,ρ,G,D,D',h,q=>by
  rw[qw]at q ⊢;split at q
  ·exact aD e (λ_ _ q=>vo (λ_ q=>h.nx _ _ q) q) q
  ·exact q
 |.augs o i op e,ρ,G,D,D',h,q=>by
  rw[uY]at q ⊢;exact aD o (λ_ _ q=>aD i (λ_ _ q=>qJ (λ_ q=>aD e (λ_ _ q=>vo (λ_ q=>vm (λ_ q=>h.nx _ _ q) q) q) q) q) q) q
 |.ret e,ρ,G,D,D',h,q=>by rw[qx]at q ⊢;exact aD e (λ_ _ q=>h.rt _ _ q) q
 |.rtn,ρ,G,D,D',h,q=>by rw[qy]at q ⊢;exact h.rt _ _ q
 |.ite c a b,ρ,G,D,D',h,q=>by
  rw[qz]at q ⊢;refine cV c (λt _ q=>?_) q;cases t with
  |true=>exact dH a h q
  |false=>exact dH b h q
 |.for_ t it body,ρ,G,D,D',h,q=>by
  rw[Ao]at q ⊢;exact jA it (λitems g G1 q=>Ba (λd ρ' G' k k' hk z=>eZ (λρ1 z=>dH body (D:={ D with nx:=k,ct:=k,bk:=D.nx }) (D':={ D' with nx:=k',ct:=k',bk:=D'.nx }) ⟨hk,h.rt,h.nx,hk⟩ z) t z) h.nx items ρ G1 q) q
 |.whl c body,ρ,G,D,D',h,q=>by
  rw[Wu]at q ⊢;obtain ⟨n,q⟩:=q;refine ⟨n,?_⟩;refine Bb ?_ ?_ h.nx n ρ G q
  ·exact λρ' G' k k' hk z=>cV c hk z
  ·exact λρ' G' k k' hk z=>dH body (D:={ D with nx:=k,ct:=k,bk:=D.nx }) (D':={ D' with nx:=k',ct:=k',bk:=D'.nx }) ⟨hk,h.rt,h.nx,hk⟩ z
 |.pas,ρ,G,D,D',h,q=>by rw[qC]at q ⊢;exact h.nx _ _ q
 |.brk,ρ,G,D,D',h,q=>by rw[qD]at q ⊢;exact h.bk _ _ q
 |.cnt,ρ,G,D,D',h,q=>by rw[qF]at q ⊢;exact h.ct _ _ q
 |.nev,ρ,G,D,D',h,q=>by rw[qH]at q;exact q.elim
 |.rse C es,ρ,G,D,D',h,q=>by rw[jz]at q ⊢;exact q
 |.tryc f es C i b,ρ,G,D,D',h,q=>by rw[u5]at q ⊢;exact cW es (λ_ _ q=>Spec.mono q (λ_ _ z=>h.nx _ _ z) λ_ _ z=>⟨z.1,z.2.1,h.nx _ _ z.2.2⟩) q
 |.tryx b C hd xs,ρ,G,D,D',h,q=>by rw[u6]at q ⊢;exact vz b (λ_ _ z=>h.nx _ _ z) (λ_ _ _ z=>⟨z.1,z.2.1,z.2.2.1,h.nx _ _ z.2.2.2⟩) q
theorem dH{E:EK}:∀(x:Sxs){ρ:ak}{G:DH}{D D':En},D.Le D'->au Φ x E ρ G D->au Φ x E ρ G D'
 |.nil,ρ,G,D,D',h,q=>by rw[iG]at q ⊢;exact h.nx _ _ q
 |.cons s r,ρ,G,D,D',h,q=>by rw[iH]at q ⊢;exact wpS_mono s (D:={ D with nx:=λρ' G'=>au Φ r E ρ' G' D }) (D':={ D' with nx:=λρ' G'=>au Φ r E ρ' G' D' }) ⟨λ_ _ z=>dH r h z,h.rt,h.bk,h.ct⟩ q
end
end
def PV(K:PySem.W.Frag)(H:Hp)(F:FZ)(Q:VK):D->DH->Prop:=λd G'=>∀H' F' v,Ext H F H' F'->R K H' F' G'->Rep K H' F' d v->Q v H'
def PB(K:PySem.W.Frag)(H:Hp)(F:FZ)(Q:Bool->Hp->Prop):Bool->DH->Prop:=λb G'=>∀H' F',Ext H F H' F'->R K H' F' G'->Q b H'
def PLs(K:PySem.W.Frag)(H:Hp)(F:FZ)(Q:List V->Hp->Prop):List D->DH->Prop:=λds G'=>∀H' F' vs,Ext H F H' F'->R K H' F' G'->Reps K H' F' ds vs->Q vs H'
section
variable {K:PySem.W.Frag} {H:Hp} {F:FZ} {G:DH} {Q:VK}
theorem PV.now{d:D}{v:V}(h:PV K H F Q d G)(r:R K H F G)(q:Rep K H F d v):Q v H:=h H F v (Ext.refl H F) r q
theorem cX{fz:Bool}{ds:List D}{vs:List V}(h:mk fz ds G (PV K H F Q))(r:R K H F G)(t:Reps K H F ds vs)(p:Addr)(hp:H p=none):Q (.ref p) (upd H p (.lst vs)):=by
 cases fz with
 |true=>exact h _ _ _ (uE r hp) (r.newF hp) (Wq r hp t)
 |false=>exact h p (r.free hp) _ _ _ (di r hp) (r.newL hp t) rfl
theorem iJ{ds:List D}{vs:List V}(h:PV K H F Q (.tup ds) G)(r:R K H F G)(t:Reps K H F ds vs)(p:Addr)(hp:H p=none):Q (.ref p) (upd H p (.tup vs)):=
 h _ _ _ (di r hp) (r.new hp) (uF r hp t)
end
theorem szl:sz<=sizeLine:=by rw[sizeLine_eq];decide
theorem cN{n:Nat}(h:n<=sz):n<=sizeLine:=Nat.le_trans h szl
def rB2(K:PySem.W.Frag)(f:D->D->DH->(D->DH->Prop)->Prop):R2:=λx y H Q=>∃F G a b,R K H F G/\Rep K H F a x/\Rep K H F b y/\f (view G a) (view G b) G (PV K H F Q)
section
variable {X:Cx}
theorem Wv:OpR X (binaryOp .Add) (λx y H Q=>∃a b xs ys,x=.ref a/\y=.ref b/\SqL X.K H a xs/\SqL X.K H b ys/\xs.length+ys.length<=sizeLine/\∀p,H p=none->Q (.ref p) (upd H p (.lst (xs++ys)))):=by
 intro pins s σ H x y v u Q I rx ry h;obtain ⟨a,b,xs,ys,rfl,rfl,ha,hb,hz,q⟩:=h;cases rx;cases ry;obtain ⟨its,r1,p1,_⟩:=I.list ha;obtain ⟨its2,r2,p2,_⟩:=I.list hb;obtain ⟨⟨cls,dd,data,sl⟩,ho,hc,n,hd⟩:=p1.isList;obtain ⟨⟨cls2,dd2,data2,sl2⟩,ho2,hc2,n2,hd2⟩:=p2.isList;simp only at hc hd hc2 hd2;subst hc hd hc2 hd2;have e:its.toArray++its2.toArray=(its++its2).toArray:=by simp
 refine concat_meets ⟨_,ho,rfl⟩ ⟨_,ho2,rfl⟩ noFill_list_add seq_list_add PySem.F.slot_list_add PySem.F.entry_list_add (PySem.F.args_list_add_2 _ _)
  (list_addW a b its.toArray its2.toArray n n2 dd dd2 sl sl2 (by rw[List.size_toArray,List.size_toArray,<-r1.length,<-r2.length];exact hz)) ⟨ho,ho2,?_⟩
 rw[e];exact ⟨.ref _,_,I.lnew (t':=s.toks) (r1.append r2) (by rw[List.length_append];exact hz),rfl,q _ I.fresh⟩
theorem Ww:OpR X (binaryOp .Add) (λx y H Q=>∃a b ys,x=.ref a/\y=.ref b/\SqT X.K H a []/\SqT X.K H b ys/\Q (.ref b) H):=by
 intro pins s σ H x y v u Q I rx ry h;obtain ⟨a,b,ys,rfl,rfl,ha,hb,q⟩:=h;cases rx;cases ry;obtain ⟨its,r1,p1,_⟩:=I.tuple ha;obtain ⟨its2,r2,p2,_⟩:=I.tuple hb;obtain ⟨⟨cls,dd,data,sl⟩,ho,hc,n,hd⟩:=id p1;obtain ⟨⟨cls2,dd2,data2,sl2⟩,ho2,hc2,n2,hd2⟩:=id p2;simp only at hc hd hc2 hd2;subst hc hd hc2 hd2;cases r1;exact concat_meets ⟨_,ho,rfl⟩ ⟨_,ho2,rfl⟩ noFill_tuple_add seq_tuple_add PySem.F.slot_tuple_add PySem.F.entry_tuple_add (PySem.F.args_tuple_add_2 _ _)
   (tuple_addW0 a b _ its2.toArray n n2 dd dd2 sl sl2 (by simp)) ⟨ho,ho2,⟨.ref b,H,I,rfl,q⟩⟩
theorem vA{K:PySem.W.Frag}{H:Hp}{F:FZ}{ds:List D}{vs:List V}(t:Reps K H F ds vs):ds=[]↔vs=[]:=by
 have:=t.length;constructor
 ·intro e;subst e;exact List.length_eq_zero_iff.mp this.symm
 ·intro e;subst e;exact List.length_eq_zero_iff.mp this
theorem Wx{x:Str}{n:Nat}(h1:n<=1000)(h:x.length * n<=sz):MulOk x (n:Int):=by
 have h2:((x.length * n:Nat):Int)<=((1000000:Nat):Int):=Int.ofNat_le.mpr h;rw[Int.natCast_mul]at h2;refine ⟨?_,?_,?_⟩
 ·rw[decide_eq_false (by omega),decide_eq_false (by omega)];rfl
 ·intro hn _ hh;have hp:(0:Int) < n:=by omega
  have h3:(x.length:Int)<=(2 ^ 63 - 1) / n:=(Int.le_ediv_iff_mul_le hp).mpr (Int.le_trans h2 (by decide));exact absurd hh (Int.not_lt.mpr h3)
 ·intro _ _;unfold Builtin.Str.tooLong;rw[sizeLine_eq,Int.toNat_natCast];exact decide_eq_false (by have:sz=1000000:=rfl;omega)
theorem Bc(l:List Nat):∀(n:Nat)(acc:List Nat),(List.replicate n l.toArray).foldl (· ++ ·) acc.toArray=(acc++reps l n).toArray
 |0,acc=>by simp[reps]
 |n+1,acc=>by
  rw[List.replicate_succ,List.foldl_cons];have e:acc.toArray++l.toArray=(acc++l).toArray:=by simp
  rw[e,Bc l n (acc++l)];unfold reps;rw[List.replicate_succ,List.flatten_cons,List.append_assoc]
theorem Wy(n:Nat):reps ([]:List Nat) n=[]:=by
 unfold reps;induction n with
 |zero=>rfl
 |succ n ih=>rw[List.replicate_succ,List.flatten_cons,ih];rfl
theorem Wz{α:Type}(l:List α)(n:Nat):(reps l n).length=n * l.length:=len_rep l n
theorem WD(l:List Nat)(n:Nat):Txt.mul (tx l) (n:Int)=tx (reps l n):=by
 unfold Txt.mul;by_cases h:(n:Int) < 1
 ·rw[if_pos h];have:n=0:=by omega
  subst this;rfl
 ·rw[if_neg h];by_cases h2:((n:Int)==1||(tx l).length==0)=true
  ·rw[if_pos h2];rw[Bool.or_eq_true]at h2;rcases h2 with h2 |h2
   ·have:n=1:=by have:=eq_of_beq h2;omega
    subst this;simp[reps]
   ·have h3:=eq_of_beq h2;rw[bQ]at h3;have:l=[]:=List.length_eq_zero_iff.mp h3;subst this;rw[Wy]
  ·rw[if_neg h2];have e:=Bc l n [];rw[List.nil_append]at e;exact congrArg Str.mk (by simpa using e)
theorem WF(op:Operator)(fz:Bool):OpR X (binaryOp op) (rB2 X.K (cu op fz)):=by
 intro pins s σ H x y v u Q I rx ry h;obtain ⟨F,G,a,b,r,ra,rb,h⟩:=h;generalize ea:view G a=va at h;generalize eb:view G b=vb at h;have twoI:∀{p:Int->Int->Prop},fH va vb p->∃i j,x=.int i/\y=.int j/\p i j:=λ{p} h=>by
  obtain ⟨i,j,rfl,rfl,h⟩:=Aq h;cases dC ea;cases dC eb;exact ⟨i,j,ra,rb,h⟩
 cases op with
 |Add=>
  have h:il fz va vb G _:=h;unfold il at h;cases va with
  |int _=>cases vb with
   |int _=>
    cases dC ea;cases dC eb;have ha:x=.int _:=ra;have hb:y=.int _:=rb;subst ha;subst hb;exact SQ pins s σ H _ _ v u Q I rx ry ⟨_,_,rfl,rfl,h.now r rfl⟩
   |_=>exact h.elim
  |str _=>cases vb with
   |str _=>
    cases fG ea;cases fG eb;obtain ⟨ha,la⟩:=ra;obtain ⟨hb,lb⟩:=rb;subst ha;subst hb;refine Tq pins s σ H _ _ v u Q I rx ry ⟨_,_,rfl,rfl,?_,?_⟩
    ·rw[bQ,bQ];exact cN h.1
    ·rw[oK];exact h.2.now r ⟨rfl,by rw[List.length_append];exact h.1⟩
   |_=>exact h.elim
  |lst _=>cases vb with
   |lst _=>
    obtain ⟨p,vs,rfl,q1,t1⟩:=Rep.list r ra ea;obtain ⟨p',vs',rfl,q2,t2⟩:=Rep.list r rb eb;exact Wv pins s σ H _ _ v u Q I rx ry ⟨p,p',vs,vs',rfl,rfl,q1,q2,by rw[<-t1.length,<-t2.length];exact cN h.1,cX h.2 r (t1.append t2)⟩
   |_=>exact h.elim
  |tup xs=>cases vb with
   |tup ys=>
    cases eU ea;cases eU eb;obtain ⟨p,vs,rfl,q1,t1⟩:=id ra;obtain ⟨p',vs',rfl,q2,t2⟩:=id rb;by_cases hx:vs=[]
    ·subst hx;have:xs=[]:=(vA t1).mpr rfl;subst this;exact Ww pins s σ H _ _ v u Q I rx ry ⟨p,p',vs',rfl,rfl,q1.sq,q2.sq,h.2.now r rb⟩
    ·refine Uk pins s σ H _ _ v u Q I rx ry ⟨p,p',vs,vs',rfl,rfl,q1.sq,q2.sq,hx,by rw[<-t1.length,<-t2.length];exact cN h.1,λe=>?_,λ_=>iJ h.2 r (t1.append t2)⟩;subst e;have:ys=[]:=(vA t2).mpr rfl;subst this;have h2:=h.2;rw[List.append_nil]at h2;exact h2.now r ra
   |_=>exact h.elim
  |_=>exact h.elim
 |Sub=>
  obtain ⟨i,j,rfl,rfl,h⟩:=twoI h;exact SX pins s σ H _ _ v u Q I rx ry ⟨_,_,rfl,rfl,h.now r rfl⟩
 |Mult=>
  have h:ir fz va vb G _:=h;unfold ir at h;cases vb with
  |int _=>cases va with
   |int _=>
    cases dC ea;cases dC eb;have ha:x=.int _:=ra;have hb:y=.int _:=rb;subst ha;subst hb;exact S5 pins s σ H _ _ v u Q I rx ry ⟨_,_,rfl,rfl,h.1,h.2.now r rfl⟩
   |str _=>
    cases fG ea;cases dC eb;obtain ⟨ha,la⟩:=ra;have hb:y=.int _:=rb;subst ha;subst hb;obtain ⟨h0,h1,h2,h3⟩:=h;obtain ⟨n,rfl⟩:=Int.eq_ofNat_of_zero_le h0;rw[Int.toNat_natCast]at h2 h3;refine Vh pins s σ H _ _ v u Q I rx ry ⟨_,_,rfl,rfl,Wx (by omega) (by rw[bQ];exact h2),?_⟩;rw[WD];exact h3.now r ⟨rfl,by rw[Wz,Nat.mul_comm];exact h2⟩
   |tup _=>
    cases eU ea;cases dC eb;obtain ⟨p,vs,rfl,q1,t1⟩:=ra;have hb:y=.int _:=rb;subst hb;obtain ⟨h0,h1,h2,h3,h4⟩:=h;refine V9 pins s σ H _ _ v u Q I rx ry ⟨p,_,vs,rfl,rfl,q1.sq,λe=>h2 ((vA t1).mpr e),h0,h1,by rw[<-t1.length];exact cN h3,?_⟩;exact iJ h4 r (t1.rep _)
   |lst _=>
    cases dC eb;have hb:y=.int _:=rb;subst hb;obtain ⟨p,vs,rfl,q1,t1⟩:=ra.list r ea;obtain ⟨h0,h1,h2,h3⟩:=h;exact Wd pins s σ H _ _ v u Q I rx ry ⟨p,_,vs,rfl,rfl,q1,h0,h1,by rw[<-t1.length];exact cN h2,cX h3 r (t1.rep _)⟩
   |_=>exact h.elim
  |_=>exact h.elim
 |FloorDiv=>
  obtain ⟨i,j,rfl,rfl,h⟩:=twoI h;exact V1 pins s σ H _ _ v u Q I rx ry ⟨_,_,rfl,rfl,h.1,h.2.now r rfl⟩
 |Mod=>
  obtain ⟨i,j,rfl,rfl,h⟩:=twoI h;exact S6 pins s σ H _ _ v u Q I rx ry ⟨_,_,rfl,rfl,h.1,h.2.now r rfl⟩
 |Pow=>
  obtain ⟨i,j,rfl,rfl,h⟩:=twoI h;exact S7 pins s σ H _ _ v u Q I rx ry ⟨_,_,rfl,rfl,h.1,h.2.now r rfl⟩
 |_=>exact h.elim
end
mutual
theorem vB:∀{d:D},nr d=true->deq d d=true
 |.non,_=>rfl
 |.bl b,_=>by simp[deq]
 |.int i,_=>by simp[deq]
 |.str l,_=>by simp[deq]
 |.tup xs,h=>by rw[deq];exact jB (by rw[nr]at h;exact h)
 |.lst xs,h=>by rw[deq];exact jB (by rw[nr]at h;exact h)
 |.ref a,h=>by rw[nr]at h;cases h
 |.scr a,h=>by rw[nr]at h;cases h
 |.exn a,h=>by rw[nr]at h;cases h
theorem jB:∀{ds:List D},nrs ds=true->bR ds ds=true
 |[],_=>rfl
 |d::ds,h=>by
  rw[nrs,Bool.and_eq_true]at h;rw[bR,vB h.1,jB h.2];rfl
end
theorem qN:∀(xs ys:List D),bR xs ys=((List.range (min xs.length ys.length)).all (λj=>deq (xs.getD j .non) (ys.getD j .non))&&xs.length==ys.length)
 |[],[]=>rfl
 |[],y::ys=>by simp[bR]
 |x::xs,[]=>by simp[bR]
 |x::xs,y::ys=>by
  have e:min (x::xs).length (y::ys).length=(min xs.length ys.length)+1:=by simp only[List.length_cons];omega
  rw[bR,qN xs ys,e,List.range_succ_eq_map,List.all_cons,List.all_map];simp only[List.getD_cons_zero,List.length_cons,Bool.and_assoc];congr 1;congr 1;rw[Bool.eq_iff_iff];simp
theorem WK{xs ys:List D}(h:xs.length≠ys.length):bR xs ys=false:=by rw[qN];rw[show (xs.length==ys.length)=false from beq_eq_false_iff_ne.mpr h,Bool.and_false]
theorem jC:∀{xs:List D}{i:Nat},nrs xs=true->nr (xs.getD i .non)=true
 |[],_,_=>rfl
 |x::xs,0,h=>by rw[nrs,Bool.and_eq_true]at h;exact h.1
 |x::xs,i+1,h=>by rw[nrs,Bool.and_eq_true]at h;rw[List.getD_cons_succ];exact jC h.2
theorem jD:∀{xs:List D}{i:Nat},dpt (xs.getD i .non)<=bc xs
 |[],_=>Nat.zero_le _
 |x::xs,0=>by rw[bc,List.getD_cons_zero];omega
 |x::xs,i+1=>by rw[bc,List.getD_cons_succ];have:=@jD xs i;omega
section
variable {X:Cx} {pins:List (Addr×Obj)} {σ:L2.St} {H:Hp} {s:Shared} {F:FZ}
mutual
theorem qO(I:Inv X pins σ H s):∀{d d':D}{v:V},nr d=true->nr d'=true->Rep X.K H F d v->Rep X.K H F d' v->d=d'
 |.non,d',v,_,n',h,h'=>by
  have h:v=.non:=h;subst h;cases d' with
  |non=>rfl
  |bl _=>simp only[Rep]at h';cases h'
  |int _=>simp only[Rep]at h';cases h'
  |ref _=>simp only[Rep]at h';cases h'
  |scr _=>rw[nr]at n';cases n'
  |exn _=>rw[nr]at n';cases n'
  |str _=>simp only[Rep]at h';obtain ⟨e,_⟩:=h';cases e
  |tup _=>simp only[Rep]at h';obtain ⟨_,_,e,_⟩:=h';cases e
  |lst _=>simp only[Rep]at h';obtain ⟨_,_,e,_⟩:=h';cases e
 |.bl b,d',v,_,n',h,h'=>by
  have h:v=.bl b:=h;subst h;cases d' with
  |non=>simp only[Rep]at h';cases h'
  |bl _=>simp only[Rep]at h';cases h';rfl
  |int _=>simp only[Rep]at h';cases h'
  |ref _=>simp only[Rep]at h';cases h'
  |scr _=>rw[nr]at n';cases n'
  |exn _=>rw[nr]at n';cases n'
  |str _=>simp only[Rep]at h';obtain ⟨e,_⟩:=h';cases e
  |tup _=>simp only[Rep]at h';obtain ⟨_,_,e,_⟩:=h';cases e
  |lst _=>simp only[Rep]at h';obtain ⟨_,_,e,_⟩:=h';cases e
 |.int b,d',v,_,n',h,h'=>by
  have h:v=.int b:=h;subst h;cases d' with
  |non=>simp only[Rep]at h';cases h'
  |bl _=>simp only[Rep]at h';cases h'
  |int _=>simp only[Rep]at h';cases h';rfl
  |ref _=>simp only[Rep]at h';cases h'
  |scr _=>rw[nr]at n';cases n'
  |exn _=>rw[nr]at n';cases n'
  |str _=>simp only[Rep]at h';obtain ⟨e,_⟩:=h';cases e
  |tup _=>simp only[Rep]at h';obtain ⟨_,_,e,_⟩:=h';cases e
  |lst _=>simp only[Rep]at h';obtain ⟨_,_,e,_⟩:=h';cases e
 |.str l,d',v,_,n',h,h'=>by
  obtain ⟨h,_⟩:=h;subst h;cases d' with
  |str l'=>
   obtain ⟨e,_⟩:=h';injection e with e;rw[zQ e]
  |non=>simp only[Rep]at h';cases h'
  |bl _=>simp only[Rep]at h';cases h'
  |int _=>simp only[Rep]at h';cases h'
  |ref _=>simp only[Rep]at h';cases h'
  |scr _=>rw[nr]at n';cases n'
  |exn _=>rw[nr]at n';cases n'
  |tup _=>simp only[Rep]at h';obtain ⟨_,_,e,_⟩:=h';cases e
  |lst _=>simp only[Rep]at h';obtain ⟨_,_,e,_⟩:=h';cases e
 |.tup xs,d',v,n,n',h,h'=>by
  obtain ⟨a,vs,e,q,t⟩:=h;subst e;cases d' with
  |tup ys=>
   obtain ⟨a',vs',e,q',t'⟩:=h';injection e with e;subst e;have:=I.tuple_inj q.sq q'.sq;subst this;rw[nr]at n n';rw[vC I n n' t t']
  |lst ys=>
   obtain ⟨a',vs',e,q',t'⟩:=h';injection e with e;subst e;obtain ⟨its,_,⟨o,e1,c1,_⟩,_⟩:=I.tuple q.sq;obtain ⟨its',_,⟨o',n',e2,c2,_⟩,_⟩:=I.list q'.sq;rw[e1]at e2;cases e2;rw[c1]at c2;exact absurd c2 (by decide +kernel)
  |ref _=>rw[nr]at n';cases n'
  |scr _=>rw[nr]at n';cases n'
  |exn _=>rw[nr]at n';cases n'
  |str _=>simp only[Rep]at h';obtain ⟨e,_⟩:=h';cases e
  |non=>simp only[Rep]at h';cases h'
  |bl _=>simp only[Rep]at h';cases h'
  |int _=>simp only[Rep]at h';cases h'
 |.lst xs,d',v,n,n',h,h'=>by
  obtain ⟨a,vs,e,q,t⟩:=h;subst e;cases d' with
  |lst ys=>
   obtain ⟨a',vs',e,q',t'⟩:=h';injection e with e;subst e;have:=I.list_inj q.sq q'.sq;subst this;rw[nr]at n n';rw[vC I n n' t t']
  |tup ys=>
   obtain ⟨a',vs',e,q',t'⟩:=h';injection e with e;subst e;obtain ⟨its,_,⟨o,e1,c1,_⟩,_⟩:=I.tuple q'.sq;obtain ⟨its',_,⟨o',n',e2,c2,_⟩,_⟩:=I.list q.sq;rw[e1]at e2;cases e2;rw[c1]at c2;exact absurd c2 (by decide +kernel)
  |ref _=>rw[nr]at n';cases n'
  |scr _=>rw[nr]at n';cases n'
  |exn _=>rw[nr]at n';cases n'
  |str _=>simp only[Rep]at h';obtain ⟨e,_⟩:=h';cases e
  |non=>simp only[Rep]at h';cases h'
  |bl _=>simp only[Rep]at h';cases h'
  |int _=>simp only[Rep]at h';cases h'
 |.ref a,d',v,n,_,_,_=>by rw[nr]at n;cases n
 |.scr a,d',v,n,_,_,_=>by rw[nr]at n;cases n
 |.exn a,d',v,n,_,_,_=>by rw[nr]at n;cases n
theorem vC(I:Inv X pins σ H s):∀{ds ds':List D}{vs:List V},nrs ds=true->nrs ds'=true->Reps X.K H F ds vs->Reps X.K H F ds' vs->ds=ds'
 |[],[],_,_,_,_,_=>rfl
 |[],_::_,_,_,_,h,⟨v,r,e,_⟩=>by have h:_=[]:=h;rw[h]at e;cases e
 |_::_,[],_,_,_,⟨v,r,e,_⟩,h=>by have h:_=[]:=h;rw[h]at e;cases e
 |d::ds,d'::ds',_,n,n',⟨v,r,e,h,t⟩,⟨v',r',e',h',t'⟩=>by
  subst e;injection e' with e1 e2;subst e1;subst e2;rw[nrs,Bool.and_eq_true]at n n';rw[qO I n.1 n'.1 h h',vC I n.2 n'.2 t t']
end
theorem qP{I:Inv X pins σ H s}{ds:List D}{vs:List V}{its:List Value}(t:Reps X.K H F ds vs)(r:Vals vs its)(j:Nat)(h:j < its.length):∃v,Rep X.K H F (ds.getD j .non) v/\RelV v its[j]:=by
 have hl:j < ds.length:=by rw[t.length,r.length];exact h
 have e1:ds[j]?=some (ds.getD j .non):=by rw[List.getD_eq_getElem?_getD,List.getElem?_eq_getElem hl];rfl
 obtain ⟨v,e2,r2⟩:=t.get e1;obtain ⟨u,e3,r3⟩:=r.get e2;rw[List.getElem?_eq_getElem h]at e3;cases e3;exact ⟨v,r2,r3⟩
theorem WL(a b:List Nat):(tx a==tx b)=(a==b):=by rw[Bool.eq_iff_iff,beq_iff_eq,beq_iff_eq];exact ⟨λh=>zQ h,λh=>by rw[h]⟩
theorem WM(I:Inv X pins σ H s){n:Nat}{A:Around}{xs ys:List D}{a a':Addr}{vs vs':List V}{its its':List Value}
  (ih:∀m,m < n->∀(A:Around)(d d':D)(v v':V)(u u':Value),A.units+m < cLine->min (dpt d) (dpt d')<=m->nr d=true->nr d'=true->Rep X.K H F d v->Rep X.K H F d' v'->RelV v u->RelV v' u'->
   SeqAt.RcAt A s u u' (deq d d')/\SeqAt.EqAt A s u u' (deq d d')/\SeqAt.RcNeAt A s u u' (!deq d d'))
  (hu:A.units+n < cLine) (hd:min (dpt (.tup xs)) (dpt (.tup ys))<=n) (n1:nr (.tup xs)=true) (n2:nr (.tup ys)=true) (h:Rep X.K H F (.tup xs) (.ref a)) (h':Rep X.K H F (.tup ys) (.ref a'))
  (pt:s.heap.IsTuple a its.toArray) (pt':s.heap.IsTuple a' its'.toArray) (rv:Vals vs its) (rv':Vals vs' its') (tt:Reps X.K H F xs vs) (tt':Reps X.K H F ys vs'):
  SeqAt.RcAt A s (.ref a) (.ref a') (deq (.tup xs) (.tup ys))/\SeqAt.EqAt A s (.ref a) (.ref a') (deq (.tup xs) (.tup ys))/\SeqAt.RcNeAt A s (.ref a) (.ref a') (!deq (.tup xs) (.tup ys)):=by
 have hd':min (bc xs+1) (bc ys+1)<=n:=by rw[dpt,dpt]at hd;exact hd
 have hn1:nrs xs=true:=by rw[nr]at n1;exact n1
 have hn2:nrs ys=true:=by rw[nr]at n2;exact n2
 have l1:its.toArray.size=xs.length:=by rw[List.size_toArray,<-rv.length,tt.length]
 have l2:its'.toArray.size=ys.length:=by rw[List.size_toArray,<-rv'.length,tt'.length]
 have he:∀j (h1:j < its.toArray.size) (h2:j < its'.toArray.size),SeqAt.EqAt A.in1 s its.toArray[j] its'.toArray[j] (deq (xs.getD j .non) (ys.getD j .non)):=by intro j h1 h2;obtain ⟨w1,q1,q2⟩:=qP (I:=I) tt rv j (by simpa using h1);obtain ⟨w2,q3,q4⟩:=qP (I:=I) tt' rv' j (by simpa using h2);have d1:=@jD xs j;have d2:=@jD ys j;exact (ih (n - 1) (by omega) A.in1 _ _ w1 w2 _ _ (by show A.units+1+(n - 1) < cLine;omega) (by omega) (jC hn1) (jC hn2) q1 q3 (by simpa using q2) (by simpa using q4)).2.1
 have e:deq (.tup xs) (.tup ys)=((List.range (min its.toArray.size its'.toArray.size)).all (λj=>deq (xs.getD j .non) (ys.getD j .non))&&its.toArray.size==its'.toArray.size):=by rw[deq,qN,l1,l2]
 have rc:SeqAt.RcAt A s (.ref a) (.ref a') (deq (.tup xs) (.tup ys)):=by rw[e];exact .tuples pt pt' (by omega) he
 refine ⟨rc,?_,by rw[e];exact .tuples pt pt' (by omega) he⟩;by_cases z:a=a'
 ·subst z;have:=qO I n1 n2 h h';rw[<-this,vB n1];exact .same _
 ·exact .of_refs z rc
theorem WN(I:Inv X pins σ H s){n:Nat}{A:Around}{xs ys:List D}{a a':Addr}{vs vs':List V}{its its':List Value}
  (ih:∀m,m < n->∀(A:Around)(d d':D)(v v':V)(u u':Value),A.units+m < cLine->min (dpt d) (dpt d')<=m->nr d=true->nr d'=true->Rep X.K H F d v->Rep X.K H F d' v'->RelV v u->RelV v' u'->
   SeqAt.RcAt A s u u' (deq d d')/\SeqAt.EqAt A s u u' (deq d d')/\SeqAt.RcNeAt A s u u' (!deq d d'))
  (hu:A.units+n < cLine) (hd:min (dpt (.lst xs)) (dpt (.lst ys))<=n) (n1:nr (.lst xs)=true) (n2:nr (.lst ys)=true) (h:a=a'->xs=ys)
  (pt:s.heap.IsList a its.toArray) (pt':s.heap.IsList a' its'.toArray) (rv:Vals vs its) (rv':Vals vs' its') (tt:Reps X.K H F xs vs) (tt':Reps X.K H F ys vs'):
  SeqAt.RcAt A s (.ref a) (.ref a') (deq (.lst xs) (.lst ys))/\SeqAt.EqAt A s (.ref a) (.ref a') (deq (.lst xs) (.lst ys))/\SeqAt.RcNeAt A s (.ref a) (.ref a') (!deq (.lst xs) (.lst ys)):=by
 have hd':min (bc xs+1) (bc ys+1)<=n:=by rw[dpt,dpt]at hd;exact hd
 have hn1:nrs xs=true:=by rw[nr]at n1;exact n1
 have hn2:nrs ys=true:=by rw[nr]at n2;exact n2
 have l1:its.toArray.size=xs.length:=by rw[List.size_toArray,<-rv.length,tt.length]
 have l2:its'.toArray.size=ys.length:=by rw[List.size_toArray,<-rv'.length,tt'.length]
 have eqs:∀(rc:SeqAt.RcAt A s (.ref a) (.ref a') (deq (.lst xs) (.lst ys))),SeqAt.EqAt A s (.ref a) (.ref a') (deq (.lst xs) (.lst ys)):=λrc=>by
  by_cases z:a=a'
  ·have:=h z;subst z;subst this;rw[vB n1];exact .same _
  ·exact .of_refs z rc
 by_cases hl:xs.length=ys.length
 ·have he:∀j (h1:j < its.toArray.size) (h2:j < its'.toArray.size),SeqAt.EqAt A.in1 s its.toArray[j] its'.toArray[j] (deq (xs.getD j .non) (ys.getD j .non)):=by
   intro j h1 h2;obtain ⟨w1,q1,q2⟩:=qP (I:=I) tt rv j (by simpa using h1);obtain ⟨w2,q3,q4⟩:=qP (I:=I) tt' rv' j (by simpa using h2);have d1:=@jD xs j;have d2:=@jD ys j;exact (ih (n - 1) (by omega) A.in1 _ _ w1 w2 _ _ (by show A.units+1+(n - 1) < cLine;omega) (by omega) (jC hn1) (jC hn2) q1 q3 (by simpa using q2) (by simpa using q4)).2.1
  have e:deq (.lst xs) (.lst ys)=(List.range its.toArray.size).all (λj=>deq (xs.getD j .non) (ys.getD j .non)):=by rw[deq,qN,l1,hl,Nat.min_self];simp
  have rc:SeqAt.RcAt A s (.ref a) (.ref a') (deq (.lst xs) (.lst ys)):=by rw[e];exact .lists pt pt' (by rw[l1,l2];exact hl) (by omega) he
  exact ⟨rc,eqs rc,by rw[e];exact .lists pt pt' (by rw[l1,l2];exact hl) (by omega) he⟩
 ·have e:deq (.lst xs) (.lst ys)=false:=by rw[deq];exact WK hl
  have hne:(its.toArray.size != its'.toArray.size)=true:=by rw[l1,l2];simpa using hl
  have rc:SeqAt.RcAt A s (.ref a) (.ref a') (deq (.lst xs) (.lst ys)):=by rw[e];exact .lists_lengths pt pt' hne (by omega)
  exact ⟨rc,eqs rc,by rw[e];exact .lists_lengths pt pt' hne (by omega)⟩
theorem vD(I:Inv X pins σ H s):∀(n:Nat)(A:Around)(d d':D)(v v':V)(u u':Value),A.units+n < cLine->min (dpt d) (dpt d')<=n->nr d=true->nr d'=true->Rep X.K H F d v->Rep X.K H F d' v'->RelV v u->RelV v' u'->
  SeqAt.RcAt A s u u' (deq d d')/\SeqAt.EqAt A s u u' (deq d d')/\SeqAt.RcNeAt A s u u' (!deq d d'):=by
 intro n;induction n using Nat.strongRecOn with
 |_ n ih=>
  intro A d d' v v' u u' hu hd n1 n2 h h' r r';have hu0:A.units < cLine:=by omega
  cases d with
  |ref a=>rw[nr]at n1;cases n1
  |scr a=>rw[nr]at n1;cases n1
  |exn a=>rw[nr]at n1;cases n1
  |non=>
   have hv:v=.non:=h;subst hv;have hr:u=Value.none:=r;subst hr;cases d' with
   |ref a=>rw[nr]at n2;cases n2
   |scr a=>rw[nr]at n2;cases n2
   |exn a=>rw[nr]at n2;cases n2
   |non=>
    have hv:v'=.non:=h';subst hv;have hr:u'=Value.none:=r';subst hr;exact ⟨.none_none,.same _,.none_none⟩
   |bl b'=>
    have hv:v'=.bl b':=h';subst hv;have hr:u'=Value.bool b':=r';subst hr;exact ⟨.none_bool b',.none_bool b',.none_bool b'⟩
   |int i'=>
    have hv:v'=.int i':=h';subst hv;obtain ⟨t',hr⟩:∃t',u'=Value.int i' t':=r';subst hr;exact ⟨.none_int i' t',.none_int i' t',.none_int i' t'⟩
   |str l'=>
    obtain ⟨hv,_⟩:=h';subst hv;obtain ⟨t',hr⟩:∃t',u'=Value.str (tx l') t':=r';subst hr;exact ⟨.none_str (tx l') t',.none_str (tx l') t',.none_str (tx l') t'⟩
   |tup ys=>
    obtain ⟨a',vs',hv,q',tt'⟩:=id h';subst hv;have hr:u'=Value.ref a':=r';subst hr;obtain ⟨its',rv',pt',_⟩:=I.tuple q'.sq;have pt':s.heap.IsTuple a' its'.toArray:=pt';exact ⟨.none_tuple pt' hu0,.none_tuple pt' hu0,.none_tuple pt' hu0⟩
   |lst ys=>
    obtain ⟨a',vs',hv,q',tt'⟩:=id h';subst hv;have hr:u'=Value.ref a':=r';subst hr;obtain ⟨its',rv',pl',_⟩:=I.list q'.sq;have pt':s.heap.IsList a' its'.toArray:=pl'.isList;exact ⟨.none_list pt' hu0,.none_list pt' hu0,.none_list pt' hu0⟩
  |bl b=>
   have hv:v=.bl b:=h;subst hv;have hr:u=Value.bool b:=r;subst hr;cases d' with
   |ref a=>rw[nr]at n2;cases n2
   |scr a=>rw[nr]at n2;cases n2
   |exn a=>rw[nr]at n2;cases n2
   |non=>
    have hv:v'=.non:=h';subst hv;have hr:u'=Value.none:=r';subst hr;exact ⟨.bool_none b,.bool_none b,.bool_none b⟩
   |bl b'=>
    have hv:v'=.bl b':=h';subst hv;have hr:u'=Value.bool b':=r';subst hr;exact ⟨.bool_bool b b',.bool_bool b b',.bool_bool b b'⟩
   |int i'=>
    have hv:v'=.int i':=h';subst hv;obtain ⟨t',hr⟩:∃t',u'=Value.int i' t':=r';subst hr;exact ⟨.bool_int b i' t',.bool_int b i' t',.bool_int b i' t'⟩
   |str l'=>
    obtain ⟨hv,_⟩:=h';subst hv;obtain ⟨t',hr⟩:∃t',u'=Value.str (tx l') t':=r';subst hr;exact ⟨.bool_str b (tx l') t',.bool_str b (tx l') t',.bool_str b (tx l') t'⟩
   |tup ys=>
    obtain ⟨a',vs',hv,q',tt'⟩:=id h';subst hv;have hr:u'=Value.ref a':=r';subst hr;obtain ⟨its',rv',pt',_⟩:=I.tuple q'.sq;have pt':s.heap.IsTuple a' its'.toArray:=pt';exact ⟨.bool_tuple b pt' hu0,.bool_tuple b pt' hu0,.bool_tuple b pt' hu0⟩
   |lst ys=>
    obtain ⟨a',vs',hv,q',tt'⟩:=id h';subst hv;have hr:u'=Value.ref a':=r';subst hr;obtain ⟨its',rv',pl',_⟩:=I.list q'.sq;have pt':s.heap.IsList a' its'.toArray:=pl'.isList;exact ⟨.bool_list b pt' hu0,.bool_list b pt' hu0,.bool_list b pt' hu0⟩
  |int i=>
   have hv:v=.int i:=h;subst hv;obtain ⟨t,hr⟩:∃t,u=Value.int i t:=r;subst hr;cases d' with
   |ref a=>rw[nr]at n2;cases n2
   |scr a=>rw[nr]at n2;cases n2
   |exn a=>rw[nr]at n2;cases n2
   |non=>
    have hv:v'=.non:=h';subst hv;have hr:u'=Value.none:=r';subst hr;exact ⟨.int_none i t,.int_none i t,.int_none i t⟩
   |bl b'=>
    have hv:v'=.bl b':=h';subst hv;have hr:u'=Value.bool b':=r';subst hr;exact ⟨.int_bool i t b',.int_bool i t b',.int_bool i t b'⟩
   |int i'=>
    have hv:v'=.int i':=h';subst hv;obtain ⟨t',hr⟩:∃t',u'=Value.int i' t':=r';subst hr;exact ⟨.int_int i t i' t',.int_int i t i' t',.int_int i t i' t'⟩
   |str l'=>
    obtain ⟨hv,_⟩:=h';subst hv;obtain ⟨t',hr⟩:∃t',u'=Value.str (tx l') t':=r';subst hr;exact ⟨.int_str i t (tx l') t',.int_str i t (tx l') t',.int_str i t (tx l') t'⟩
   |tup ys=>
    obtain ⟨a',vs',hv,q',tt'⟩:=id h';subst hv;have hr:u'=Value.ref a':=r';subst hr;obtain ⟨its',rv',pt',_⟩:=I.tuple q'.sq;have pt':s.heap.IsTuple a' its'.toArray:=pt';exact ⟨.int_tuple i t pt' hu0,.int_tuple i t pt' hu0,.int_tuple i t pt' hu0⟩
   |lst ys=>
    obtain ⟨a',vs',hv,q',tt'⟩:=id h';subst hv;have hr:u'=Value.ref a':=r';subst hr;obtain ⟨its',rv',pl',_⟩:=I.list q'.sq;have pt':s.heap.IsList a' its'.toArray:=pl'.isList;exact ⟨.int_list i t pt' hu0,.int_list i t pt' hu0,.int_list i t pt' hu0⟩
  |str l=>
   obtain ⟨hv,_⟩:=h;subst hv;obtain ⟨t,hr⟩:∃t,u=Value.str (tx l) t:=r;subst hr;cases d' with
   |ref a=>rw[nr]at n2;cases n2
   |scr a=>rw[nr]at n2;cases n2
   |exn a=>rw[nr]at n2;cases n2
   |non=>
    have hv:v'=.non:=h';subst hv;have hr:u'=Value.none:=r';subst hr;exact ⟨.str_none (tx l) t,.str_none (tx l) t,.str_none (tx l) t⟩
   |bl b'=>
    have hv:v'=.bl b':=h';subst hv;have hr:u'=Value.bool b':=r';subst hr;exact ⟨.str_bool (tx l) t b',.str_bool (tx l) t b',.str_bool (tx l) t b'⟩
   |int i'=>
    have hv:v'=.int i':=h';subst hv;obtain ⟨t',hr⟩:∃t',u'=Value.int i' t':=r';subst hr;exact ⟨.str_int (tx l) t i' t',.str_int (tx l) t i' t',.str_int (tx l) t i' t'⟩
   |str l'=>
    obtain ⟨hv,_⟩:=h';subst hv;obtain ⟨t',hr⟩:∃t',u'=Value.str (tx l') t':=r';subst hr;rw[deq,<-WL];exact ⟨.str_str (tx l) t (tx l') t',.str_str (tx l) t (tx l') t',.str_str (tx l) t (tx l') t'⟩
   |tup ys=>
    obtain ⟨a',vs',hv,q',tt'⟩:=id h';subst hv;have hr:u'=Value.ref a':=r';subst hr;obtain ⟨its',rv',pt',_⟩:=I.tuple q'.sq;have pt':s.heap.IsTuple a' its'.toArray:=pt';exact ⟨.str_tuple (tx l) t pt' hu0,.str_tuple (tx l) t pt' hu0,.str_tuple (tx l) t pt' hu0⟩
   |lst ys=>
    obtain ⟨a',vs',hv,q',tt'⟩:=id h';subst hv;have hr:u'=Value.ref a':=r';subst hr;obtain ⟨its',rv',pl',_⟩:=I.list q'.sq;have pt':s.heap.IsList a' its'.toArray:=pl'.isList;exact ⟨.str_list (tx l) t pt' hu0,.str_list (tx l) t pt' hu0,.str_list (tx l) t pt' hu0⟩
  |tup xs=>
   obtain ⟨a,vs,hv,q,tt⟩:=id h;subst hv;have hr:u=Value.ref a:=r;subst hr;obtain ⟨its,rv,pt,_⟩:=I.tuple q.sq;have pt:s.heap.IsTuple a its.toArray:=pt;cases d' with
   |ref a=>rw[nr]at n2;cases n2
   |scr a=>rw[nr]at n2;cases n2
   |exn a=>rw[nr]at n2;cases n2
   |non=>
    have hv:v'=.non:=h';subst hv;have hr:u'=Value.none:=r';subst hr;exact ⟨.tuple_none pt hu0,.tuple_none pt hu0,.tuple_none pt hu0⟩
   |bl b'=>
    have hv:v'=.bl b':=h';subst hv;have hr:u'=Value.bool b':=r';subst hr;exact ⟨.tuple_bool b' pt hu0,.tuple_bool b' pt hu0,.tuple_bool b' pt hu0⟩
   |int i'=>
    have hv:v'=.int i':=h';subst hv;obtain ⟨t',hr⟩:∃t',u'=Value.int i' t':=r';subst hr;exact ⟨.tuple_int i' t' pt hu0,.tuple_int i' t' pt hu0,.tuple_int i' t' pt hu0⟩
   |str l'=>
    obtain ⟨hv,_⟩:=h';subst hv;obtain ⟨t',hr⟩:∃t',u'=Value.str (tx l') t':=r';subst hr;exact ⟨.tuple_str (tx l') t' pt hu0,.tuple_str (tx l') t' pt hu0,.tuple_str (tx l') t' pt hu0⟩
   |tup ys=>
    obtain ⟨a',vs',hv,q',tt'⟩:=id h';subst hv;have hr:u'=Value.ref a':=r';subst hr;obtain ⟨its',rv',pt',_⟩:=I.tuple q'.sq;have pt':s.heap.IsTuple a' its'.toArray:=pt';exact WM I ih hu hd n1 n2 h h' pt pt' rv rv' tt tt'
   |lst ys=>
    obtain ⟨a',vs',hv,q',tt'⟩:=id h';subst hv;have hr:u'=Value.ref a':=r';subst hr;obtain ⟨its',rv',pl',_⟩:=I.list q'.sq;have pt':s.heap.IsList a' its'.toArray:=pl'.isList;exact ⟨.tuple_list pt pt' hu0,.tuple_list pt pt' hu0,.tuple_list pt pt' hu0⟩
  |lst xs=>
   obtain ⟨a,vs,hv,q,tt⟩:=id h;subst hv;have hr:u=Value.ref a:=r;subst hr;obtain ⟨its,rv,pl,_⟩:=I.list q.sq;have pt:s.heap.IsList a its.toArray:=pl.isList;cases d' with
   |ref a=>rw[nr]at n2;cases n2
   |scr a=>rw[nr]at n2;cases n2
   |exn a=>rw[nr]at n2;cases n2
   |non=>
    have hv:v'=.non:=h';subst hv;have hr:u'=Value.none:=r';subst hr;exact ⟨.list_none pt hu0,.list_none pt hu0,.list_none pt hu0⟩
   |bl b'=>
    have hv:v'=.bl b':=h';subst hv;have hr:u'=Value.bool b':=r';subst hr;exact ⟨.list_bool b' pt hu0,.list_bool b' pt hu0,.list_bool b' pt hu0⟩
   |int i'=>
    have hv:v'=.int i':=h';subst hv;obtain ⟨t',hr⟩:∃t',u'=Value.int i' t':=r';subst hr;exact ⟨.list_int i' t' pt hu0,.list_int i' t' pt hu0,.list_int i' t' pt hu0⟩
   |str l'=>
    obtain ⟨hv,_⟩:=h';subst hv;obtain ⟨t',hr⟩:∃t',u'=Value.str (tx l') t':=r';subst hr;exact ⟨.list_str (tx l') t' pt hu0,.list_str (tx l') t' pt hu0,.list_str (tx l') t' pt hu0⟩
   |tup ys=>
    obtain ⟨a',vs',hv,q',tt'⟩:=id h';subst hv;have hr:u'=Value.ref a':=r';subst hr;obtain ⟨its',rv',pt',_⟩:=I.tuple q'.sq;have pt':s.heap.IsTuple a' its'.toArray:=pt';exact ⟨.list_tuple pt pt' hu0,.list_tuple pt pt' hu0,.list_tuple pt pt' hu0⟩
   |lst ys=>
    obtain ⟨a',vs',hv,q',tt'⟩:=id h';subst hv;have hr:u'=Value.ref a':=r';subst hr;obtain ⟨its',rv',pl',_⟩:=I.list q'.sq;have pt':s.heap.IsList a' its'.toArray:=pl'.isList;exact WN I ih hu hd n1 n2 (λz=>by subst z;have e:=qO I n1 n2 h h';injection e) pt pt' rv rv' tt tt'
end
def FA(F:FZ)(G:DH):FZ:=λa=>F a\/∃o,G a=some o
theorem Bd{H:Hp}{F:FZ}{G:DH}:Ext H F H (FA F G):=⟨λ_ f=>.inl f,λ_ _=>rfl,λ_ _ h=>h,λ_ _ _ h=>h⟩
theorem qQ{K:PySem.W.Frag}{H:Hp}{F:FZ}{G:DH}{d:D}{v:V}(r:R K H F G)(h:Rep K H F d v):Rep K H (FA F G) (view G d) v:=by
 cases d with
 |ref p=>
  have hv:v=.ref p:=h;cases g:G p with
  |none=>
   have e:view G (.ref p)=.ref p:=by simp only[view,g]
   rw[e];exact hv
  |some o=>
   cases o with
   |lst ds=>
    have e:view G (.ref p)=.lst ds:=by simp only[view,g]
    rw[e];obtain ⟨vs,q,t⟩:=r.lst g;exact ⟨p,vs,hv,⟨.inr ⟨_,g⟩,q⟩,Reps.ext Bd t⟩
 |_=>exact Rep.ext Bd h
def rC2(K:PySem.W.Frag)(f:D->D->(Bool->Prop)->Prop):R2:=λx y H Q=>∃F G a b,R K H F G/\Rep K H F a x/\Rep K H F b y/\f (view G a) (view G b) (λc=>PV K H F Q (.bl c) G)
section
variable {X:Cx}
theorem Be(c:Nat)(l:List Nat):(!(Builtin.Str.occurrences (tx l) (tx [c]) 0 (tx l).length 1).isEmpty)=l.contains c:=by have:=StrLaws.found_one (tx l) c;rw[this,Bool.eq_iff_iff];simp
theorem WP{pins:List (Addr×Obj)}{σ:L2.St}{H:Hp}{s:Shared}{F:FZ}(I:Inv X pins σ H s){A:Around}{x:D}{v:V}{u:Value}(hu:A.units+64 < cLine)(hx:nr x=true)(rx:Rep X.K H F x v)(ru:RelV v u):
  ∀{ds:List D}{vs:List V}{us:List Value},nrs ds=true->bc ds<=60->Reps X.K H F ds vs->Vals vs us->∃e:Value->Bool,(∀y∈us,SeqAt.EqAt A s y u (e y))/\us.any e=isIn x ds:=by
 intro ds vs us hn hd t r;let P:Value->D->Prop:=λy d=>nr d=true/\∃v,Rep X.K H F d v/\RelV v y
 have one:∀y d d',P y d->P y d'->d=d':=λy d d' ⟨n,v,q,z⟩ ⟨n',v',q',z'⟩=>by
  have e:=z.inj z';subst e;exact qO I n n' q q'
 have ⟨f,hf⟩:∃f:Value->D,∀y d,P y d->f y=d:=by refine ⟨λy=>Classical.epsilon (P y),λy d h=>?_⟩;exact one y _ _ (Classical.epsilon_spec ⟨d,h⟩) h
 refine ⟨λy=>deq (f y) x,?_,?_⟩
 ·skip;have key:∀{ds:List D}{vs:List V}{us:List Value},nrs ds=true->bc ds<=60->Reps X.K H F ds vs->Vals vs us->∀y∈us,SeqAt.EqAt A s y u (deq (f y) x):=by
   intro ds;induction ds with
   |nil=>
    intro vs us _ _ t r y hy;have t:vs=[]:=t;subst t;cases r;cases hy
   |cons d ds ih=>
    intro vs us hn hd t r y hy;obtain ⟨v1,r1,e,h1,t1⟩:=t;subst e;rw[nrs,Bool.and_eq_true]at hn;rw[bc]at hd;cases r with
    |cons p q=>
     rcases List.mem_cons.mp hy with e |hy
     ·subst e;rw[hf _ d ⟨hn.1,_,h1,p⟩];exact (vD I 60 A d x v1 v _ u (by omega) (by omega) hn.1 hx h1 rx p ru).2.1
     ·exact ih hn.2 (by omega) t1 q y hy
  exact key hn hd t r
 ·have key:∀{ds:List D}{vs:List V}{us:List Value},nrs ds=true->Reps X.K H F ds vs->Vals vs us->us.any (λy=>deq (f y) x)=isIn x ds:=by
   intro ds;induction ds with
   |nil=>
    intro vs us _ t r;have t:vs=[]:=t;subst t;cases r;rfl
   |cons d ds ih=>
    intro vs us hn t r;obtain ⟨v1,r1,e,h1,t1⟩:=t;subst e;rw[nrs,Bool.and_eq_true]at hn;cases r with
    |cons p q=>
     rw[List.any_cons,hf _ d ⟨hn.1,_,h1,p⟩,ih hn.2 t1 q];rfl
  exact key hn t r
theorem iK(op:CmpOp)(hu:X.A.units+100 < cLine):OpR X (compareOp op) (rC2 X.K (aW op)):=by
 intro pins s σ H x y v u Q I rx ry h;obtain ⟨F,G,a,b,r,ra,rb,h⟩:=h;have ra':=qQ r ra;have rb':=qQ r rb;generalize ea:view G a=va at h ra';generalize eb:view G b=vb at h rb';have fin:∀c:Bool,PV X.K H F Q (.bl c) G->EP X pins σ Q (.bool c) s:=λc q=>⟨.bl c,H,I,rfl,q.now r rfl⟩;have hin:∀(l:List D)(k:Bool->Prop),(nr va=true/\nrs l=true/\bc l<=60)->∀{vs:List V}{us:List Value},Reps X.K H (FA F G) l vs->Vals vs us->
   ∃e:Value->Bool,(∀z∈us,SeqAt.EqAt X.A.in1 s z v (e z))/\us.any e=isIn va l:=λl k hh {vs us} t rv=>
  WP I (A:=X.A.in1) (by show X.A.units+1+64 < cLine;omega) hh.1 ra' rx hh.2.1 hh.2.2 t rv
 cases op with
 |Eq=>
  obtain ⟨⟨n1,n2,n3⟩,q⟩:=h;exact (vD I 60 X.A _ _ x y v u (by omega) n3 n1 n2 ra' rb' rx ry).1 _ _ _ _ (fin _ q)
 |NotEq=>
  obtain ⟨⟨n1,n2,n3⟩,q⟩:=h;exact (vD I 60 X.A _ _ x y v u (by omega) n3 n1 n2 ra' rb' rx ry).2.2 _ _ _ _ (fin _ q)
 |Lt=>
  have h:iu va vb (λc=>PV X.K H F Q (.bl c) G):=h;unfold iu at h;split at h
  ·have e1:x=.int _:=ra';have e2:y=.int _:=rb';subst e1;subst e2;obtain ⟨t,rfl⟩:=rx;obtain ⟨t',rfl⟩:=ry;exact lt_int (fin _ h)
  ·obtain ⟨e1,_⟩:=ra';obtain ⟨e2,_⟩:=rb';subst e1;subst e2;obtain ⟨t,rfl⟩:=rx;obtain ⟨t',rfl⟩:=ry;exact lt_str (fin _ h)
  ·exact h.elim
 |LtE=>
  have h:iw va vb (λc=>PV X.K H F Q (.bl c) G):=h;unfold iw at h;split at h
  ·have e1:x=.int _:=ra';have e2:y=.int _:=rb';subst e1;subst e2;obtain ⟨t,rfl⟩:=rx;obtain ⟨t',rfl⟩:=ry;exact le_int (fin _ h)
  ·obtain ⟨e1,_⟩:=ra';obtain ⟨e2,_⟩:=rb';subst e1;subst e2;obtain ⟨t,rfl⟩:=rx;obtain ⟨t',rfl⟩:=ry;exact PySem.P.le_str (fin _ h)
  ·exact h.elim
 |Gt=>
  have h:iy va vb (λc=>PV X.K H F Q (.bl c) G):=h;unfold iy at h;split at h
  ·have e1:x=.int _:=ra';have e2:y=.int _:=rb';subst e1;subst e2;obtain ⟨t,rfl⟩:=rx;obtain ⟨t',rfl⟩:=ry;exact gt_int (fin _ h)
  ·exact h.elim
 |GtE=>
  have h:iz va vb (λc=>PV X.K H F Q (.bl c) G):=h;unfold iz at h;split at h
  ·have e1:x=.int _:=ra';have e2:y=.int _:=rb';subst e1;subst e2;obtain ⟨t,rfl⟩:=rx;obtain ⟨t',rfl⟩:=ry;exact ge_int (fin _ h)
  ·exact h.elim
 |Is=>
  have h:iB va vb (λc=>PV X.K H F Q (.bl c) G):=h;unfold iB at h;split at h
  ·have e2:y=.non:=rb';subst e2;have q:∀c,(c=decide (x=.non))->PV X.K H F Q (.bl c) G->wpAny (model X.prog X.w) X.A (compareOp .Is v u) (EP X pins σ Q) X.xe s:=λc e q=>
    Td pins s σ H _ _ v u Q I rx ry ⟨rfl,by rw[<-e];exact q.now r rfl⟩
   refine q _ ?_ h;have:oU va=decide (x=.non):=by
    cases va with
    |non=>have e1:x=.non:=ra';subst e1;rfl
    |bl _=>have e1:x=.bl _:=ra';subst e1;rfl
    |int _=>have e1:x=.int _:=ra';subst e1;rfl
    |str _=>obtain ⟨e1,_⟩:=ra';subst e1;rfl
    |tup _=>obtain ⟨_,_,e1,_⟩:=ra';subst e1;rfl
    |lst _=>obtain ⟨_,_,e1,_⟩:=ra';subst e1;rfl
    |ref _=>have e1:x=.ref _:=ra';subst e1;rfl
    |scr _=>obtain ⟨_,e1,_⟩:=ra';subst e1;rfl
    |exn _=>obtain ⟨_,_,e1,_⟩:=ra';subst e1;rfl
   rw[this]
  ·split at h
   ·have e1:x=.bl _:=ra';have e2:y=.bl _:=rb';subst e1;subst e2;exact Vq pins s σ H _ _ v u Q I rx ry ⟨_,_,rfl,rfl,h.now r rfl⟩
   ·exact h.elim
  ·exact h.elim
 |IsNot=>
  have h:iC va vb (λc=>PV X.K H F Q (.bl c) G):=h;unfold iC at h;split at h
  ·have e2:y=.non:=rb';subst e2;have q:∀c,(c=!decide (x=.non))->PV X.K H F Q (.bl c) G->wpAny (model X.prog X.w) X.A (compareOp .IsNot v u) (EP X pins σ Q) X.xe s:=λc e q=>
    Te pins s σ H _ _ v u Q I rx ry ⟨rfl,by rw[<-e];exact q.now r rfl⟩
   refine q _ ?_ h;have:oU va=decide (x=.non):=by
    cases va with
    |non=>have e1:x=.non:=ra';subst e1;rfl
    |bl _=>have e1:x=.bl _:=ra';subst e1;rfl
    |int _=>have e1:x=.int _:=ra';subst e1;rfl
    |str _=>obtain ⟨e1,_⟩:=ra';subst e1;rfl
    |tup _=>obtain ⟨_,_,e1,_⟩:=ra';subst e1;rfl
    |lst _=>obtain ⟨_,_,e1,_⟩:=ra';subst e1;rfl
    |ref _=>have e1:x=.ref _:=ra';subst e1;rfl
    |scr _=>obtain ⟨_,e1,_⟩:=ra';subst e1;rfl
    |exn _=>obtain ⟨_,_,e1,_⟩:=ra';subst e1;rfl
   rw[this]
  ·split at h
   ·have e1:x=.bl _:=ra';have e2:y=.bl _:=rb';subst e1;subst e2;exact Vw pins s σ H _ _ v u Q I rx ry ⟨_,_,rfl,rfl,h.now r rfl⟩
   ·exact h.elim
  ·exact h.elim
 |In=>
  have h:eV va vb (λc=>PV X.K H F Q (.bl c) G):=h;unfold eV at h;split at h
  ·split at h
   ·obtain ⟨e1,_⟩:=ra';obtain ⟨e2,_⟩:=rb';subst e1;subst e2;obtain ⟨t,rfl⟩:=rx;obtain ⟨t',rfl⟩:=ry;exact in_str (by rw[Be];exact fin _ h)
   ·exact h.elim
  ·obtain ⟨hh,q⟩:=h;obtain ⟨p,vs,e2,q2,t⟩:=rb';subst e2;cases ry;obtain ⟨its,rv,pl,hz⟩:=I.list q2.sq;obtain ⟨e,he,hany⟩:=hin _ (λ_=>True) hh t rv;refine SeqAt.in_listAt e pl.isList (λw hw=>he w (by simpa using hw)) ?_;rw[show its.toArray.any e=its.any e by simp,hany];exact fin _ q
  ·obtain ⟨hh,q⟩:=h;obtain ⟨p,vs,e2,q2,t⟩:=rb';subst e2;cases ry;obtain ⟨its,rv,pl,hz⟩:=I.tuple q2.sq;obtain ⟨e,he,hany⟩:=hin _ (λ_=>True) hh t rv;refine SeqAt.in_tupleAt e pl (λw hw=>he w (by simpa using hw)) ?_;rw[show its.toArray.any e=its.any e by simp,hany];exact fin _ q
  ·exact h.elim
 |NotIn=>
  have h:eV va vb (λc=>PV X.K H F Q (.bl (!c)) G):=h;unfold eV at h;split at h
  ·split at h
   ·obtain ⟨e1,_⟩:=ra';obtain ⟨e2,_⟩:=rb';subst e1;subst e2;obtain ⟨t,rfl⟩:=rx;obtain ⟨t',rfl⟩:=ry;exact notIn_str (by rw[Be];exact fin _ h)
   ·exact h.elim
  ·obtain ⟨hh,q⟩:=h;obtain ⟨p,vs,e2,q2,t⟩:=rb';subst e2;cases ry;obtain ⟨its,rv,pl,hz⟩:=I.list q2.sq;obtain ⟨e,he,hany⟩:=hin _ (λ_=>True) hh t rv;refine SeqAt.notIn_listAt e pl.isList (λw hw=>he w (by simpa using hw)) ?_;rw[show its.toArray.any e=its.any e by simp,hany];exact fin _ q
  ·obtain ⟨hh,q⟩:=h;obtain ⟨p,vs,e2,q2,t⟩:=rb';subst e2;cases ry;obtain ⟨its,rv,pl,hz⟩:=I.tuple q2.sq;obtain ⟨e,he,hany⟩:=hin _ (λ_=>True) hh t rv;refine SeqAt.notIn_tupleAt e pl (λw hw=>he w (by simpa using hw)) ?_;rw[show its.toArray.any e=its.any e by simp,hany];exact fin _ q
  ·exact h.elim
end
section
variable {X:Cx}
def WQ(K:PySem.W.Frag):R2:=λx y H Q=>∃F G a b,R K H F G/\Rep K H F a x/\Rep K H F b y/\cz (view G a) b (λd=>PV K H F Q d G)
theorem Bg{K:PySem.W.Frag}{H:Hp}{F:FZ}{ds:List D}{vs:List V}{i:Int}{d:D}(t:Reps K H F ds vs)(h:atI ds i=some d):∃v,atI vs i=some v/\Rep K H F d v:=by
 unfold atI at h ⊢;rw[<-t.length];cases e:ixN ds.length i with
 |none=>rw[e]at h;cases h
 |some j=>
  rw[e]at h;obtain ⟨v,e1,r⟩:=t.get (show ds[j]?=some d from h);exact ⟨v,e1,r⟩
theorem WR:IxR X (WQ X.K):=by
 intro value slice pins s σ H x y v u Q I rx ry h hs;obtain ⟨F,G,a,b,r,ra,rb,h⟩:=h;generalize ea:view G a=va at h;unfold cz at h;split at h
 ·obtain ⟨p,vs,e,q,t⟩:=Rep.list r ra ea;subst e;have e2:y=.int _:=rb;subst e2;split at h
  ·rename_i d hd;obtain ⟨w,hw,rw'⟩:=Bg t hd;exact Uq value slice pins s σ H _ _ v u Q I rx ry ⟨p,vs,_,w,rfl,rfl,q,hw,h.now r rw'⟩ hs
  ·exact h.elim
 ·cases eU ea;obtain ⟨p,vs,e,q,t⟩:=ra;subst e;have e2:y=.int _:=rb;subst e2;split at h
  ·rename_i d hd;obtain ⟨w,hw,rw'⟩:=Bg t hd;exact Ur value slice pins s σ H _ _ v u Q I rx ry ⟨p,vs,_,w,rfl,rfl,q.sq,hw,h.now r rw'⟩ hs
  ·exact h.elim
 ·cases fG ea;obtain ⟨e,hl⟩:=ra;subst e;have e2:y=.int _:=rb;subst e2;split at h
  ·rename_i c hc;exact Us value slice pins s σ H _ _ v u Q I rx ry ⟨_,_,c,rfl,rfl,by rw[bQ];exact cN hl,hc,h.now r ⟨rfl,by show 1<=sz;decide⟩⟩ hs
  ·exact h.elim
 ·exact h.elim
theorem WT(l:List Nat)(lo hi:Option Int):Txt.slice (tx l) lo hi=tx (cut l lo hi):=by
 have e:Builtin.Str.strSliceIndices lo hi 1 (tx l).length=sliceRange (sliceBounds lo hi none (tx l).length).1 (sliceBounds lo hi none (tx l).length).2.1 1:=by unfold Builtin.Str.strSliceIndices sliceBounds;cases lo <;> cases hi <;> rfl
 obtain ⟨h1,h2,h3⟩:=zA lo hi (tx l).length;rw[h1,h2,sliceRange_one]at e;have e2:((Builtin.Str.strSliceIndices lo hi 1 (tx l).length).filterMap ((tx l).cps[·]?))=cut l lo hi:=by rw[e,pick_run];unfold cut;rw[bQ]
 unfold Txt.slice;split
 ·rename_i hh;rw[Bool.and_eq_true]at hh;have hl:=eq_of_beq hh.2;rw[e,List.length_map,List.length_range,bQ]at hl;have b1:HT.sIx l.length l.length hi<=l.length:=HT.zm _ _ (Nat.le_refl _) hi;unfold cut;by_cases hz:l=[]
  ·subst hz;simp
  ·have hp:0 < l.length:=List.length_pos_iff.mpr hz;have e3:HT.sIx l.length 0 lo=0:=by omega
   have e4:HT.sIx l.length l.length hi=l.length:=by omega
   rw[e3,e4];simp
 ·rw[e2]
theorem WW{α:Type}(xs:List α)(lo hi:Option Int):(cut xs lo hi).length<=xs.length:=by unfold cut;rw[List.length_take,List.length_drop];omega
theorem WX{prog:Program}{w:World}{A:Around}{E:Value->Shared->Prop}{s:Shared}{t sl:Addr}{items:Array Value}{vl vu:Value}{lo hi:Option Int}{Q:Value->Shared->Prop}(ht:IsTup s.heap t items)(hs:s.heap.IsSliceOf sl vl vu .none)(pl:IsPart vl lo)(pu:IsPart vu hi)
  (hw:HT.sIx items.size 0 lo=0/\HT.sIx items.size items.size hi=items.size) (h:Q (.ref t) s):wpAny (model prog w) A (getItem (.ref t) (.ref sl)) Q E s:=by
 obtain ⟨os,hos,hcs,hds⟩:=id hs;have hTs:s.TypeIs (.ref sl) "slice":=⟨os,hos,hcs⟩;unfold getItem;try with_reducible refine wpAny_holding ?_
 first |refine wpAny_bind (wpAny_pure ?_) |skip
 refine wpAny_bind (wpAny_sequenceKey ht.typeIs (by decide) ?_);refine wpAny_bind (wpAny_callSpecial?_slot (name:=Str.ofString "__getitem__") ht.typeIs PyProof.Rows.slot_tuple_getitem
  (wpAny_call_entry PyProof.Rows.slot_tuple_getitem ht.typeIs entry_tuple_getitem ?_ (args_tuple_getitem _ _)))
 show wpAny _ _ (Builtin.Tuple.tupleItemsOf (.ref t) >>= _) _ _ s;refine wpAny_bind (tupleItemsOf_ ht ?_);refine wpAny_bind (wpAny_typeOf hTs ?_);rw[if_pos (by decide)];refine wpAny_bind (HT.zr hs pl pu ?_);have hyes:(((HT.sIx items.size 0 lo:Nat):Int)==0&&(1:Int)==1&&(HT.sIx items.size items.size hi - HT.sIx items.size 0 lo)==items.size)=true:=by rw[hw.1,hw.2];simp
 show wpAny _ _ (if (((HT.sIx items.size 0 lo:Nat):Int)==0&&(1:Int)==1&&(HT.sIx items.size items.size hi - HT.sIx items.size 0 lo)==items.size)=true then _ else _) _ _ s;rw[if_pos hyes];refine wpAny_bind (m:=Builtin.Tuple.tupleIsExact _) (wpAny_bind (wpAny_typeOf ht.typeIs (wpAny_pure ?_)));rw[if_pos (by decide)];exact wpAny_bind (wpAny_rule (wpAny_pure ⟨_,rfl,wpAny_pure h⟩))
theorem WY:SlR X (λx lo hi H Q=>∃a xs,x=.ref a/\SqT X.K H a xs/\(HT.sIx xs.length 0 lo=0/\HT.sIx xs.length xs.length hi=xs.length)/\Q (.ref a) H):=by
 intro pins s σ H x v vl vu lo hi sl Q I rx hs pl pu h;obtain ⟨a,xs,rfl,hx,hw,q⟩:=h;cases rx;obtain ⟨its,r,ht,hz⟩:=I.tuple hx;have hlen:its.toArray.size=xs.length:=by rw[List.size_toArray];exact r.length.symm
 exact ⟨"tuple",_,PyProof.Rows.slot_tuple_getitem.lookup,ht.typeIs,WX ht hs pl pu (by rw[hlen];exact hw) ⟨.ref a,H,I,rfl,q⟩⟩
theorem qR{K:PySem.W.Frag}{H:Hp}{F:FZ}:∀ns:List Int,Reps K H F (ns.map D.int) (ns.map V.int)
 |[]=>rfl
 |n::ns=>⟨_,_,rfl,rfl,qR ns⟩
def W0(K:PySem.W.Frag)(fz:Bool):V->Option Int->Option Int->Hp->VK->Prop:=λx lo hi H Q=>∃F G a,R K H F G/\Rep K H F a x/\dD fz (view G a) lo hi G (PV K H F Q)
theorem Bh{K:PySem.W.Frag}{H:Hp}{F:FZ}{ds:List D}{vs:List V}(t:Reps K H F ds vs)(lo hi:Option Int):Reps K H F (cut ds lo hi) (dz vs lo hi):=t.cut lo hi
theorem W2(fz:Bool):SlR X (W0 X.K fz):=by
 intro pins s σ H x v vl vu lo hi sl Q I rx hs pl pu h;obtain ⟨F,G,a,r,ra,h⟩:=h;generalize ea:view G a=va at h;unfold dD at h;split at h
 ·obtain ⟨p,vs,e,q,t⟩:=Rep.list r ra ea;subst e;exact zB pins s σ H _ v vl vu lo hi sl Q I rx hs pl pu ⟨p,vs,rfl,q,cX h r (Bh t lo hi)⟩
 ·rename_i ns;have ea':a=.scr ns:=by
   cases a with
   |ref p=>
    unfold view at ea;cases g:G p with
    |none=>simp only[g]at ea;cases ea
    |some o=>cases o;simp only[g]at ea;cases ea
   |_=>exact ea
  subst ea';obtain ⟨p,e,q⟩:=ra;subst e;refine zB pins s σ H _ v vl vu lo hi sl Q I rx hs pl pu ⟨p,_,rfl,q.sq,cX h r ?_⟩;have e2:dz (ns.map V.int) lo hi=(cut ns lo hi).map V.int:=by unfold dz cut;rw[List.length_map,List.map_take,List.map_drop]
  rw[e2];exact qR (cut ns lo hi)
 ·cases eU ea;obtain ⟨p,vs,e,q,t⟩:=id ra;subst e;by_cases hw:HT.sIx vs.length 0 lo=0/\HT.sIx vs.length vs.length hi=vs.length
  ·refine WY pins s σ H _ v vl vu lo hi sl Q I rx hs pl pu ⟨p,vs,rfl,q.sq,hw,?_⟩;refine h.now r ?_;rename_i ds;have:cut ds lo hi=ds:=by
    unfold cut;rw[t.length,hw.1,hw.2];simp[<-t.length]
   rw[this];exact ra
  ·exact Ui pins s σ H _ v vl vu lo hi sl Q I rx hs pl pu ⟨p,vs,rfl,q.sq,hw,iJ h r (Bh t lo hi)⟩
 ·cases fG ea;obtain ⟨e,hl⟩:=ra;subst e;refine Vt pins s σ H _ v vl vu lo hi sl Q I rx hs pl pu ⟨_,rfl,by rw[bQ];exact cN hl,?_⟩;rw[WT];exact h.now r ⟨rfl,Nat.le_trans (WW _ _ _) hl⟩
 ·exact h.elim
theorem Bj{K:PySem.W.Frag}{H:Hp}{F:FZ}{G:DH}{d:D}{v:V}{b:Bool}(r:R K H F G)(h:Rep K H F d v)(e:truth (view G d)=some b):oJ K v H b:=by
 have h':=qQ r h;generalize view G d=w at e h';cases w with
 |non=>have e1:v=.non:=h';subst e1;simp only[truth,Option.some.injEq]at e;exact e.symm
 |bl x=>have e1:v=.bl x:=h';subst e1;simp only[truth,Option.some.injEq]at e;exact e.symm
 |int i=>have e1:v=.int i:=h';subst e1;simp only[truth,Option.some.injEq]at e;exact e.symm
 |str l=>
  obtain ⟨e1,hl⟩:=h';subst e1;simp only[truth,Option.some.injEq]at e;refine ⟨by rw[bQ];exact cN hl,?_⟩;rw[bQ,<-e];cases l with
  |nil=>rfl
  |cons c l=>simp;omega
 |tup l=>
  obtain ⟨a,vs,e1,q,t⟩:=h';subst e1;simp only[truth,Option.some.injEq]at e;refine .inr (.inl ⟨vs,q.sq,?_⟩);rw[<-e];cases l with
  |nil=>have t:vs=[]:=t;subst t;rfl
  |cons c l=>obtain ⟨_,_,e2,_⟩:=t;subst e2;rfl
 |lst l=>
  obtain ⟨a,vs,e1,q,t⟩:=h';subst e1;simp only[truth,Option.some.injEq]at e;refine .inl ⟨vs,q.sq,?_⟩;rw[<-e];cases l with
  |nil=>have t:vs=[]:=t;subst t;rfl
  |cons c l=>obtain ⟨_,_,e2,_⟩:=t;subst e2;rfl
 |ref a=>simp[truth]at e
 |scr a=>simp[truth]at e
 |exn a=>simp[truth]at e
theorem qT{K:PySem.W.Frag}{H:Hp}{F:FZ}:∀{ds:List D}{vs:List V}{bs:List Bool},bools ds=some bs->Reps K H F ds vs->vs=bs.map V.bl
 |[],_,bs,e,h=>by
  simp only[bools,Option.some.injEq]at e;subst e;exact h
 |d::ds,_,bs,e,⟨v,w,e1,h,t⟩=>by
  cases d with
  |bl b=>
   simp only[bools]at e;cases q:bools ds with
   |none=>rw[q]at e;cases e
   |some s=>
    rw[q]at e;cases e;have hv:v=.bl b:=h;rw[e1,hv,qT q t];rfl
  |_=>simp[bools]at e
theorem bz{K:PySem.W.Frag}{H:Hp}{F:FZ}{d:D}{vs:List V}(t:Reps K H F [d] vs):∃v,vs=[v]/\Rep K H F d v:=by obtain ⟨v,r,e,h,t⟩:=t;have t:r=[]:=t;subst t;exact ⟨v,e,h⟩
def gD(K:PySem.W.Frag)(f:Bf):List V->Hp->VK->Prop:=λvs H Q=>∃F G ds,R K H F G/\Reps K H F ds vs/\opB f (ds.map (view G)) (λd=>PV K H F Q d G)
theorem map_one{G:DH}{ds:List D}{x:D}(h:ds.map (view G)=[x]):∃d,ds=[d]/\view G d=x:=by
 match ds,h with
 |[d],h=>exact ⟨d,rfl,by simpa using h⟩
theorem W3:bw X (.builtin "len") (gD X.K .len):=by
 intro pins s σ H xs us Q I rs h;obtain ⟨F,G,ds,r,t,h⟩:=h;generalize ea:ds.map (view G)=va at h;simp only[opB,uH]at h;split at h
 ·obtain ⟨d,rfl,ev⟩:=map_one ea;obtain ⟨v,rfl,rv⟩:=bz t;obtain ⟨a,vs,e,q,t'⟩:=Rep.list r rv ev;subst e;exact zE pins s σ H _ us Q I rs ⟨a,vs,rfl,.inl q,by rw[<-t'.length];exact h.now r rfl⟩
 ·obtain ⟨d,rfl,ev⟩:=map_one ea;obtain ⟨v,rfl,rv⟩:=bz t;cases eU ev;obtain ⟨a,vs,e,q,t'⟩:=rv;subst e;exact zE pins s σ H _ us Q I rs ⟨a,vs,rfl,.inr q.sq,by rw[<-t'.length];exact h.now r rfl⟩
 ·obtain ⟨d,rfl,ev⟩:=map_one ea;obtain ⟨v,rfl,rv⟩:=bz t;cases fG ev;obtain ⟨e,hl⟩:=rv;subst e;exact Ux pins s σ H _ us Q I rs ⟨_,rfl,by rw[bQ];exact cN hl,by rw[bQ];exact h.now r rfl⟩
 ·exact h.elim
theorem W4 (hc:X.calm=true):bw X (.builtin "all") (gD X.K .all):=by
 intro pins s σ H xs us Q I rs h;obtain ⟨F,G,ds,r,t,h⟩:=h;generalize ea:ds.map (view G)=va at h;simp only[opB,oV]at h;split at h
 ·obtain ⟨d,rfl,ev⟩:=map_one ea;obtain ⟨v,rfl,rv⟩:=bz t;obtain ⟨a,vs,e,q,t'⟩:=Rep.list r rv ev;subst e;split at h
  ·rename_i bs hb;have e2:=qT hb t';subst e2;exact Vp hc pins s σ H _ us Q I rs ⟨a,bs,rfl,q,h.now r rfl⟩
  ·exact h.elim
 ·exact h.elim
theorem W5:bw X (.type "int") (gD X.K .int):=by
 intro pins s σ H xs us Q I rs h;obtain ⟨F,G,ds,r,t,h⟩:=h;generalize ea:ds.map (view G)=va at h;simp only[opB,oW]at h;split at h
 ·obtain ⟨d,rfl,ev⟩:=map_one ea;obtain ⟨v,rfl,rv⟩:=bz t;cases Ws ev;have e:v=.bl _:=rv;subst e;exact yX pins s σ H _ us Q I rs (.inr ⟨_,rfl,h.now r rfl⟩)
 ·obtain ⟨d,rfl,ev⟩:=map_one ea;obtain ⟨v,rfl,rv⟩:=bz t;cases dC ev;have e:v=.int _:=rv;subst e;exact yX pins s σ H _ us Q I rs (.inl ⟨_,rfl,h.now r rfl⟩)
 ·obtain ⟨d,rfl,ev⟩:=map_one ea;obtain ⟨v,rfl,rv⟩:=bz t;cases fG ev;obtain ⟨e,hl⟩:=rv;subst e;split at h
  ·rename_i n hn;exact Vr pins s σ H _ us Q I rs ⟨_,n,rfl,hn,by rw[bQ];exact h.1,h.2.now r rfl⟩
  ·exact h.elim
 ·exact h.elim
theorem W6:bw X (.type "tuple") (gD X.K .tuple):=by
 intro pins s σ H xs us Q I rs h;obtain ⟨F,G,ds,r,t,h⟩:=h;generalize ea:ds.map (view G)=va at h;simp only[opB,uI]at h;split at h
 ·obtain ⟨d,rfl,ev⟩:=map_one ea;obtain ⟨v,rfl,rv⟩:=bz t;obtain ⟨a,vs,e,q,t'⟩:=Rep.list r rv ev;subst e;exact zG pins s σ H _ us Q I rs ⟨a,vs,rfl,.inl ⟨q,iJ h r t'⟩⟩
 ·obtain ⟨d,rfl,ev⟩:=map_one ea;obtain ⟨v,rfl,rv⟩:=bz t;cases eU ev;obtain ⟨a,vs,e,q,t'⟩:=id rv;subst e;exact zG pins s σ H _ us Q I rs ⟨a,vs,rfl,.inr ⟨q.sq,h.now r rv⟩⟩
 ·exact h.elim
def vG(K:PySem.W.Frag)(fz:Bool)(f:Lf):List V->Hp->VK->Prop:=λvs H Q=>∃F G ds,R K H F G/\Reps K H F ds vs/\cG f (ds.map (view G)) (λxs=>mk fz xs G (PV K H F Q))
theorem W7(l:List Nat):∀(us:List Value),us.length=l.length->(∀(j:Nat)(v:Value),us[j]?=some v->∃(c:Nat)(u:Tok),l[j]?=some c/\v=Value.str ⟨#[c]⟩ u)->Vals (l.map λc=>V.str (tx [c])) us:=by
 induction l with
 |nil=>intro us h _;cases us with |nil=>exact .nil |cons _ _=>cases h
 |cons c l ih=>
  intro us h q;cases us with
  |nil=>cases h
  |cons u us=>
   obtain ⟨c',t,e1,e2⟩:=q 0 u (by simp);have e1:c=c':=by simpa using e1
   subst e1;exact .cons ⟨t,e2⟩ (ih us (by simpa using h) λj v hv=>by simpa using q (j+1) v (by simpa using hv))
theorem W8 (hc:X.calm=true):bw X (.type "list") (λxs H Q=>∃l:List Nat,xs=[.str (tx l)]/\l.length<=sizeLine/\∀p,H p=none->Q (.ref p) (upd H p (.lst (l.map λc=>V.str (tx [c]))))):=by
 intro pins s σ H xs us Q I r h;obtain ⟨l,rfl,hz,q⟩:=h;obtain ⟨u,rfl,t,rfl⟩:=vals1 r;have hz':(tx l).cps.size<=sizeLine:=by simpa using hz
 refine call_list_str (hn:=hz') (I.ok.hd hc) (tx l) t λh' tk acc' c' kp e hi=>?_;have hv:Vals (l.map λc=>V.str (tx [c])) acc'.toList:=by
  refine W7 l _ ?_ λj v hv=>?_
  ·rw[Array.length_toList,hi.1];simp
  ·obtain ⟨c,u,e1,e2⟩:=hi.2 j v (by rw[<-Array.getElem?_toList];exact hv);exact ⟨c,u,by simpa using e1,e2⟩
 exact ⟨.ref s.heap.objs.size,_,I.laid (t':=tk) kp (Nat.le_refl _) (show ObjOk X.prog X.w _ h' _ (.lst _) from ⟨by rw[List.length_map];exact hz,acc'.toList,c',hv,by rw[Array.toArray_toList];exact e⟩),rfl,q _ (I.hok.fresh (Nat.le_refl _))⟩
theorem vH{K:PySem.W.Frag}{H:Hp}{F:FZ}:∀l:List Nat,Reps K H F (l.map λc=>D.str [c]) (l.map λc=>V.str (tx [c]))
 |[]=>rfl
 |c::l=>⟨_,_,rfl,⟨rfl,by show 1<=sz;decide⟩,vH l⟩
theorem W9 (hc:X.calm=true) (fz:Bool):bw X (.type "list") (vG X.K fz .list):=by
 intro pins s σ H xs us Q I rs h;obtain ⟨F,G,ds,r,t,h⟩:=h;generalize ea:ds.map (view G)=va at h;simp only[cG,uL]at h;split at h
 ·obtain ⟨d,rfl,ev⟩:=map_one ea;obtain ⟨v,rfl,rv⟩:=bz t;obtain ⟨a,vs,e,q,t'⟩:=Rep.list r rv ev;subst e;exact zF pins s σ H _ us Q I rs ⟨a,vs,rfl,.inl q,cX h r t'⟩
 ·obtain ⟨d,rfl,ev⟩:=map_one ea;obtain ⟨v,rfl,rv⟩:=bz t;cases eU ev;obtain ⟨a,vs,e,q,t'⟩:=id rv;subst e;exact zF pins s σ H _ us Q I rs ⟨a,vs,rfl,.inr q.sq,cX h r t'⟩
 ·obtain ⟨d,rfl,ev⟩:=map_one ea;obtain ⟨v,rfl,rv⟩:=bz t;cases fG ev;obtain ⟨e,hl⟩:=rv;subst e;exact W8 hc pins s σ H _ us Q I rs ⟨_,rfl,cN hl,cX h r (vH _)⟩
 ·exact h.elim
theorem qU{K:PySem.W.Frag}{H:Hp}{F:FZ}:∀{ds:List D}{vs:List V}{ls:List (List Nat)},bA ds=some ls->Reps K H F ds vs->vs=(ls.map tx).map V.str
 |[],_,bs,e,h=>by
  simp only[bA,Option.some.injEq]at e;subst e;exact h
 |d::ds,_,bs,e,⟨v,w,e1,h,t⟩=>by
  cases d with
  |str b=>
   simp only[bA]at e;cases q:bA ds with
   |none=>rw[q]at e;cases e
   |some s=>
    rw[q]at e;cases e;obtain ⟨hv,_⟩:=h;rw[e1,hv,qU q t];rfl
  |_=>simp[bA]at e
theorem vI{K:PySem.W.Frag}{H:Hp}{F:FZ}:∀{ds:List D}{vs:List V}{ns:List Int},bT ds=some ns->Reps K H F ds vs->vs=ns.map V.int
 |[],vs,ns,e,t=>by
  simp only[bT,Option.some.injEq]at e;subst e;have t:vs=[]:=t;rw[t];rfl
 |d::ds,vs,ns,e,t=>by
  obtain ⟨v,r,e1,h,t⟩:=t;cases d with
  |int b=>
   simp only[bT]at e;cases q:bT ds with
   |none=>rw[q]at e;cases e
   |some s=>
    rw[q]at e;cases e;have hv:v=.int b:=h;rw[e1,hv,vI q t];rfl
  |_=>simp[bT]at e
theorem Bk:∀{ns:List Int}{its:List Value},Vals (ns.map V.int) its->IntsAre its ns
 |[],its,h=>by cases h;exact .nil
 |n::ns,its,h=>by
  cases h with
  |cons a b=>
   obtain ⟨t,rfl⟩:=a;exact .cons n t (Bk b)
theorem Xa:bootBuiltins "sorted"=some (.builtin "sorted"):=by decide +kernel
theorem vJ:∀{ls:List (List Nat)}{its:List Value},Vals ((ls.map tx).map V.str) its->StrsAre its (ls.map tx)
 |[],its,h=>by cases h;exact .nil
 |n::ns,its,h=>by
  cases h with
  |cons a b=>
   obtain ⟨t,rfl⟩:=a;exact .cons _ t (vJ b)
theorem Bl:∀{ss:List Str}{its:List Value},StrsAre its ss->Vals (ss.map V.str) its
 |_,_,.nil=>.nil
 |_,_,.cons y t h=>.cons ⟨t,rfl⟩ (Bl h)
theorem Xb{ss:List Str}{ls:List (List Nat)}(h:ss.Perm (ls.map tx)):∃ls':List (List Nat),ss=ls'.map tx/\ls'.Perm ls:=by
 refine ⟨ss.map λs=>s.cps.toList,?_,?_⟩
 ·rw[List.map_map];refine (List.map_id ss).symm.trans (List.map_congr_left λs _=>?_);show s=tx s.cps.toList;exact oM s
 ·have:=h.map λs=>s.cps.toList;rw[List.map_map]at this;have e:(λs:Str=>s.cps.toList)∘tx=id:=by funext l;rfl
  rw[e,List.map_id]at this;exact this
theorem Xc:bw X (.builtin "sorted") (λxs H Q=>∃(p:Addr) (ls:List (List Nat)),xs=[.ref p]/\SqL X.K H p ((ls.map tx).map V.str)/\ls.length < 64/\∀ls':List (List Nat),ls'.Perm ls->PyProof.Rows.sortedS (ls'.map tx)=true->∀l,H l=none->Q (.ref l) (upd H l (.lst ((ls'.map tx).map V.str)))):=by
 intro pins s σ H xs us Q I r h;obtain ⟨p,ls,rfl,hq,h64,q⟩:=h;obtain ⟨u,rfl,ru⟩:=vals1 r;cases ru;obtain ⟨its,rv,pl,hz⟩:=I.list hq;have hlen:its.length=ls.length:=by rw[<-rv.length];simp
 refine sorted_strs pl.isList (vJ rv) (by omega) λout ss' a1 a2 a3=>?_;obtain ⟨ls',rfl,pm⟩:=Xb a2;obtain ⟨e,he⟩:=sortedAll_at s.heap its out;have hsz:((ls'.map tx).map V.str).length<=sizeLine:=by rw[List.length_map,List.length_map,pm.length_eq];exact Nat.le_trans (Nat.le_of_lt h64) (by decide)
 exact ⟨.ref (s.heap.objs.size+1),_,I.laid (t':=s.toks) (λ_ _=>sortedAll_old) (Nat.le_succ _) (show ObjOk X.prog X.w _ _ _ (.lst ((ls'.map tx).map V.str)) from ⟨hsz,out.toList,e,Bl a1,he⟩),rfl,q ls' pm a3 _ (I.hok.fresh (Nat.le_succ _))⟩
theorem Bm{K:PySem.W.Frag}{H:Hp}{F:FZ}:∀{ls:List (List Nat)},(∀l∈ls,l.length<=sz)->Reps K H F (ls.map D.str) ((ls.map tx).map V.str)
 |[],_=>rfl
 |l::ls,h=>⟨_,_,rfl,⟨rfl,h l List.mem_cons_self⟩,Bm λx hx=>h x (List.mem_cons_of_mem _ hx)⟩
theorem vK{K:PySem.W.Frag}{H:Hp}{F:FZ}:∀{ds:List D}{vs:List V}{ls:List (List Nat)},bA ds=some ls->Reps K H F ds vs->∀l∈ls,l.length<=sz
 |[],vs,ls,e,t=>by simp only[bA,Option.some.injEq]at e;subst e;intro l hl;cases hl
 |d::ds,vs,ls,e,t=>by
  obtain ⟨v,r,e1,h,t⟩:=t;cases d with
  |str b=>
   simp only[bA]at e;cases q:bA ds with
   |none=>rw[q]at e;cases e
   |some s=>
    rw[q]at e;cases e;intro l hl;rcases List.mem_cons.mp hl with e |hl
    ·rw[e];exact h.2
    ·exact vK q t l hl
  |_=>simp[bA]at e
theorem Xd (fz:Bool):bw X (.builtin "sorted") (vG X.K fz .sorted):=by
 intro pins s σ H xs us Q I rs h;obtain ⟨F,G,ds,r,t,h⟩:=h;generalize ea:ds.map (view G)=va at h;simp only[cG,jt]at h;split at h
 ·obtain ⟨d,rfl,ev⟩:=map_one ea;obtain ⟨v,rfl,rv⟩:=bz t;obtain ⟨a,vs,e,q,t'⟩:=Rep.list r rv ev;subst e;split at h
  ·rename_i ls hb;have e2:=qU hb t';have hsz:=vK hb t';subst e2;exact Xc pins s σ H _ us Q I rs ⟨a,ls,rfl,q,h.1,λls' pm so=>cX (h.2 ls' pm so) r (Bm λl hl=>hsz l (pm.mem_iff.mp hl))⟩
  ·exact h.elim
 ·obtain ⟨d,rfl,ev⟩:=map_one ea;obtain ⟨v,rfl,rv⟩:=bz t;cases eU ev;obtain ⟨a,vs,e,q,t'⟩:=rv;subst e;split at h
  ·rename_i ns hb;have e2:=vI hb t';subst e2;exact Wm pins s σ H _ us Q I rs ⟨a,ns,rfl,q.sq,h.1,λns' pm so=>cX (h.2 ns' pm so) r (qR ns')⟩
  ·exact h.elim
 ·exact h.elim
theorem Bo(val:Nat->List Nat):∀k,argBest (λi j=>decide (val i < val j)) k<=k/\∀j,j<=k->¬val j < val (argBest (λi j=>decide (val i < val j)) k)
 |0=>⟨Nat.le_refl _,λj hj=>by
  have:j=0:=by omega
  subst this;exact List.lt_irrefl _⟩
 |k+1=>by
  obtain ⟨h1,h2⟩:=Bo val k;simp only[argBest];by_cases hc:val (k+1) < val (argBest (λi j=>decide (val i < val j)) k)
  ·rw[if_pos (by simpa using hc)];refine ⟨Nat.le_refl _,λj hj=>?_⟩;rcases Nat.lt_or_ge j (k+1) with hlt |hge
   ·exact λh=>h2 j (by omega) (List.lt_trans h hc)
   ·have:j=k+1:=by omega
    subst this;exact List.lt_irrefl _
  ·rw[if_neg (by simpa using hc)];refine ⟨by omega,λj hj=>?_⟩;rcases Nat.lt_or_ge j (k+1) with hlt |hge
   ·exact h2 j (by omega)
   ·have:j=k+1:=by omega
    subst this;exact hc
section
variable {prog:Program} {w:World} {A:Around} {E:Value->Shared->Prop} {s:Shared} {l:Addr}
theorem qW:∀{its:List Value}{ls:List (List Nat)}{i:Nat}{v:Value},StrsAre its (ls.map tx)->its[i]?=some v->∃t,v=.str (tx (ls.getD i [])) t
 |[],ls,i,v,_,h=>by simp at h
 |x::its,[],i,v,hs,h=>by cases hs
 |x::its,a::ls,0,v,hs,h=>by
  cases hs with
  |cons y t q=>exact ⟨t,by simpa using h.symm⟩
 |x::its,a::ls,i+1,v,hs,h=>by
  cases hs with
  |cons y t q=>
   have:=qW (i:=i) (v:=v) q (by simpa using h);simpa using this
theorem Xe{Q:Value->Shared->Prop}{its:List Value}{ls:List (List Nat)}(hh:A.handled=none)(hl:s.heap.IsList l its.toArray)(hs:StrsAre its (ls.map tx))(hn:its.length=ls.length)(hne:0 < ls.length)
  (h:∀(m:List Nat)(t:Tok)(h':Heap)(tk:Nat),m∈ls->(∀a,a∈ls->¬a < m)->(∀b o,s.heap.get? b=some o->h'.get? b=some o)->Q (.str (tx m) t) { s with heap:=h',toks:=tk }):
  wpAny (model prog w) A (call (.builtin "min") [.ref l]) Q E s:=by
 have hlt:l < s.heap.objs.size:=by obtain ⟨_,e,_⟩:=hl;exact Heap.lt_size e
 refine call_min_walk (wpAny_pyIter_list hl ?_);refine ⟨_,_,_,_,_,_,λi j=>decide (ls.getD i [] < ls.getD j []),rfl,Walks.list (A:=A.in1) hh _ l (Nat.ne_of_lt hlt) its.toArray,⟨⟨_,Heap.get?_push_size _ rfl,rfl,rfl⟩,hl.push _⟩,?_,?_,?_,?_⟩
 ·intro b hb;show b < (s.heap.push _).objs.size;rw[Heap.size_push];rcases List.mem_cons.mp hb with rfl |hb
  ·exact Nat.lt_succ_self _
  ·rcases List.mem_cons.mp hb with rfl |hb
   ·exact Nat.lt_succ_of_lt hlt
   ·cases hb
 ·simpa [hn] using hne
 ·intro i j vi vj s Q E hi hj h;obtain ⟨t,rfl⟩:=qW hs (by simpa using hi);obtain ⟨u,rfl⟩:=qW hs (by simpa using hj);exact richCompare_gives (op:=.Lt) (typeIs_str s _ t) (typeIs_str s _ u) F.slot_str_lt F.entry_str_lt (F.args_str_lt_2 _ _) (gives_str_lt _ _ t u) (λe=>nomatch e) h
 ·intro v h' tk hP hk;obtain ⟨t,rfl⟩:=qW hs (show its[_]?=some v by rw[<-List.getElem?_toArray];exact hP);obtain ⟨b1,b2⟩:=Bo (λi=>ls.getD i []) (its.toArray.size - 1);have hsz:its.toArray.size=ls.length:=by simpa using hn
  refine h _ t h' tk ?_ (λa ha=>?_) (old_kept hk)
  ·rw[List.getD_eq_getElem?_getD,List.getElem?_eq_getElem (by omega)];exact List.getElem_mem _
  ·obtain ⟨j,hj,rfl⟩:=List.getElem_of_mem ha;have:=b2 j (by omega);rwa [show ls.getD j []=ls[j] by rw[List.getD_eq_getElem?_getD,List.getElem?_eq_getElem hj];rfl]at this
end
theorem Xf (hc:X.calm=true):bw X (.builtin "min") (λxs H Q=>∃(p:Addr) (ns:List Int),xs=[.ref p]/\SqL X.K H p (ns.map V.int)/\ns≠[]/\∀m,m∈ns->(∀a,a∈ns->m<=a)->Q (.int m) H):=by
 intro pins s σ H xs us Q I r h;obtain ⟨p,ns,rfl,hq,hne,q⟩:=h;obtain ⟨u,rfl,ru⟩:=vals1 r;cases ru;obtain ⟨its,rv,pl,hz⟩:=I.list hq;have hi:=Bk rv;obtain ⟨xs,ex⟩:=hi.allInts.items;have hl:=pl.isList;rw[ex]at hl;have e1:xs.toList.map (·.1)=ns:=by rw[<-PySem.nums_intItems,<-ex];exact hi.numsOf
 have hsz:0 < xs.size:=by have:=List.length_pos_iff.mpr hne;rw[<-e1,List.length_map,Array.length_toList]at this;exact this
 refine PySem.min_intList (I.ok.hd hc) hl hsz λv h' tk hv hk=>?_;obtain ⟨t,rfl⟩:=PySem.intItems_at hv;obtain ⟨b1,b2⟩:=PySem.argBest_lt (PySem.numAt xs) (xs.size - 1);refine ⟨.int _,H,I.kept hk,⟨t,rfl⟩,q _ ?_ λa ha=>?_⟩
 ·rw[<-e1,PySem.numAt_eq];exact PySem.getD_mem (by rw[List.length_map,Array.length_toList];omega)
 ·rw[<-e1]at ha;obtain ⟨j,hj,rfl⟩:=PySem.mem_getD ha;rw[List.length_map,Array.length_toList]at hj;rw[<-PySem.numAt_eq];exact b2 j (by omega)
theorem Xg (hc:X.calm=true):bw X (.builtin "min") (λxs H Q=>∃(p:Addr) (ls:List (List Nat)),xs=[.ref p]/\SqL X.K H p ((ls.map tx).map V.str)/\ls≠[]/\∀m,m∈ls->(∀a,a∈ls->¬a < m)->Q (.str (tx m)) H):=by
 intro pins s σ H xs us Q I r h;obtain ⟨p,ls,rfl,hq,hne,q⟩:=h;obtain ⟨u,rfl,ru⟩:=vals1 r;cases ru;obtain ⟨its,rv,pl,hz⟩:=I.list hq;have hlen:its.length=ls.length:=by rw[<-rv.length];simp
 refine Xe (I.ok.hd hc) pl.isList (vJ rv) hlen (List.length_pos_iff.mpr hne) λm t h' tk h1 h2 hk=>?_;exact ⟨.str (tx m),H,I.kept hk,⟨t,rfl⟩,q m h1 h2⟩
theorem Xh{ds:List D}{ls:List (List Nat)}(h0:bT ds=none)(h1:bA ds=some ls):ls≠[]:=by
 rintro rfl;cases ds with
 |nil=>simp[bT]at h0
 |cons x y=>cases x <;> simp only[bA]at h1 <;> first | (cases h1;done) | (cases hd:bA y <;> rw[hd]at h1 <;> cases h1)
theorem Xi (hc:X.calm=true):bw X (.builtin "min") (gD X.K .min):=by
 intro pins s σ H xs us Q I rs h;obtain ⟨F,G,ds,r,t,h⟩:=h;generalize ea:ds.map (view G)=va at h;simp only[opB,jr]at h;split at h
 ·obtain ⟨d,rfl,ev⟩:=map_one ea;obtain ⟨v,rfl,rv⟩:=bz t;obtain ⟨a,vs,e,q,t'⟩:=Rep.list r rv ev;subst e;split at h
  ·rename_i ns hb;have e2:=vI hb t';subst e2;exact Xf hc pins s σ H _ us Q I rs ⟨a,ns,rfl,q,h.1,λm h1 h2=>(h.2 m h1 h2).now r rfl⟩
  ·split at h
   ·rename_i hb0 _ ls hb;have e2:=qU hb t';have hsz:=vK hb t';subst e2;refine Xg hc pins s σ H _ us Q I rs ⟨a,ls,rfl,q,?_,λm h1 h2=>(h m h1 h2).now r ⟨rfl,hsz m h1⟩⟩;exact Xh (by assumption) hb
   ·exact h.elim
 ·exact h.elim
theorem Xj:bootBuiltins "min"=some (.builtin "min"):=by decide +kernel
theorem Xk:bw X (.type "str") (gD X.K .str):=by
 intro pins s σ H xs us Q I r h;obtain ⟨F,G,ds,rr,t,h⟩:=h;generalize ea:ds.map (view G)=va at h;simp only[opB,uK]at h;split at h
 ·rename_i i;obtain ⟨d',rfl,ev⟩:=map_one ea;obtain ⟨v',rfl,rv⟩:=bz t;have e1:=dC ev;subst e1;have e2:v'=.int i:=rv;subst e2;obtain ⟨⟨h0,h1⟩,h2⟩:=h;have hm:(i.toNat:Int)=i:=Int.toNat_of_nonneg h0;have hl:(fJ i.toNat).length<=3:=by
   have:=digits_le ⟨i.toNat,by omega⟩;unfold fJ;rw[Array.length_toList];exact this
  have hs:=h2.now rr (v:=.str (tx (fJ i.toNat))) ⟨rfl,by have hz:sz=1000000:=rfl;omega⟩;have ht:tx (fJ i.toNat)=uC i.toNat:=(oM _).symm;rw[ht]at hs;exact V3 pins s σ H _ us Q I r ⟨i.toNat,by rw[hm],by omega,hs⟩
 ·exact h.elim
def dI:D->Option String
 |.non=>some "NoneType"
 |.bl _=>some "bool"
 |.int _=>some "int"
 |.str _=>some "str"
 |.tup _=>some "tuple"
 |.lst _=>some "list"
 |_=>none
theorem Xl{K:PySem.W.Frag}{H:Hp}{F:FZ}{G:DH}{d:D}{v:V}{T:String}(r:R K H F G)(h:Rep K H F d v)(e:dI (view G d)=some T):TyOf K H v (.type T):=by
 have h':=qQ r h;generalize view G d=w at e h';cases w with
 |non=>have e1:v=.non:=h';subst e1;simp only[dI,Option.some.injEq]at e;subst e;exact .non
 |bl x=>have e1:v=.bl x:=h';subst e1;simp only[dI,Option.some.injEq]at e;subst e;exact .bl x
 |int i=>have e1:v=.int i:=h';subst e1;simp only[dI,Option.some.injEq]at e;subst e;exact .int i
 |str l=>obtain ⟨e1,hl⟩:=h';subst e1;simp only[dI,Option.some.injEq]at e;subst e;exact .str _
 |tup l=>obtain ⟨a,vs,e1,q,t⟩:=h';subst e1;simp only[dI,Option.some.injEq]at e;subst e;exact .tup q.it
 |lst l=>obtain ⟨a,vs,e1,q,t⟩:=h';subst e1;simp only[dI,Option.some.injEq]at e;subst e;exact .lst q.2
 |ref a=>simp[dI]at e
 |scr a=>simp[dI]at e
 |exn a=>simp[dI]at e
def Xm (K:PySem.W.Frag):Prop:=∀T t:String,T∈["NoneType","bool","int","str","tuple","list"]->eX t=true->PySem.W.kitOne K (.type T) (.type t)=some (T==t||(T=="bool"&&t=="int"))
theorem Xo{K:PySem.W.Frag}:Xm K:=by intro T t hT ht;simp only[List.mem_cons,List.not_mem_nil,or_false]at hT;simp only[eX,Bool.or_eq_true,beq_iff_eq]at ht;rcases hT with rfl |rfl |rfl |rfl |rfl |rfl <;> rcases ht with (((rfl |rfl) |rfl) |rfl) |rfl <;> (with_unfolding_all rfl)
theorem Xp {d:D} {t:String} {b:Bool} (e:isT t d=some b):∃T,dI d=some T/\T∈["NoneType","bool","int","str","tuple","list"]/\(eX t=true->b=(T==t||(T=="bool"&&t=="int"))):=by
 have comm:∀a b:String,(a==b)=(b==a):=λa b=>by rw[Bool.eq_iff_iff,beq_iff_eq,beq_iff_eq];exact ⟨Eq.symm,Eq.symm⟩
 cases d with
 |non=>
  refine ⟨"NoneType",rfl,by simp,λht=>?_⟩;simp only[isT,Option.some.injEq]at e;simp only[eX,Bool.or_eq_true,beq_iff_eq]at ht;subst e;rcases ht with (((rfl |rfl) |rfl) |rfl) |rfl <;> rfl
 |bl _=>
  refine ⟨"bool",rfl,by simp,λht=>?_⟩;simp only[isT,Option.some.injEq]at e;rw[<-e,comm t "bool"];rfl
 |int _=>
  refine ⟨"int",rfl,by simp,λht=>?_⟩;simp only[isT,Option.some.injEq]at e;rw[<-e,comm t "int"];simp
 |str _=>
  refine ⟨"str",rfl,by simp,λht=>?_⟩;simp only[isT,Option.some.injEq]at e;rw[<-e,comm t "str"];simp
 |tup _=>
  refine ⟨"tuple",rfl,by simp,λht=>?_⟩;simp only[isT,Option.some.injEq]at e;rw[<-e,comm t "tuple"];simp
 |lst _=>
  refine ⟨"list",rfl,by simp,λht=>?_⟩;simp only[isT,Option.some.injEq]at e;rw[<-e,comm t "list"];simp
 |ref a=>simp[isT]at e
 |scr a=>simp[isT]at e
 |exn a=>simp[isT]at e
theorem Bp(s:List Nat):∀ls:List (List Nat),Str.join (tx s) (ls.map tx)=tx (dF s ls)
 |[]=>rfl
 |[x]=>rfl
 |x::y::r=>by
  have ih:=Bp s (y::r);show tx x++tx s++Str.join (tx s) ((y::r).map tx)=_;rw[ih,oK,oK];rfl
theorem Bq(s:List Nat):∀ls:List (List Nat),(dF s ls).length<=(ls.map (·.length)).sum+ls.length * s.length
 |[]=>by simp[dF]
 |[x]=>by simp[dF]
 |x::y::r=>by
  have ih:=Bq s (y::r);simp only[dF,List.length_append,List.map_cons,List.sum_cons,List.length_cons]at ih ⊢;have:(r.length+1+1) * s.length=(r.length+1) * s.length+s.length:=by rw[Nat.succ_mul]
  omega
def gF(K:PySem.W.Frag)(m:Mf):V->List V->Hp->VK->Prop:=λx vs H Q=>∃F G d ds,R K H F G/\Rep K H F d x/\Reps K H F ds vs/\opM m d ds G (PV K H F Q)
theorem Xq:MtR X "str.join" (gF X.K .join):=by
 intro pins s σ H x xs v us Q I rx rs h;obtain ⟨F,G,d,ds,r,rd,t,h⟩:=h;simp only[opM]at h;generalize ea:ds.map (view G)=va at h;simp only[oX]at h;split at h
 ·obtain ⟨d',rfl,ev⟩:=map_one ea;obtain ⟨v',rfl,rv⟩:=bz t;obtain ⟨a,vs,e,q,t'⟩:=Rep.list r rv ev;subst e;obtain ⟨e1,hl⟩:=rd;subst e1;split at h
  ·rename_i ls hls;have e2:=qU hls t';subst e2;refine Vb pins s σ H _ _ v us Q I rx rs ⟨_,a,_,rfl,rfl,q,?_,?_⟩
   ·have hz:=h.1;rw[List.map_map,List.length_map,bQ,show (λx:Str=>x.length)∘tx=λl=>l.length from funext bQ];have:sz=1000000:=rfl;omega
   ·rw[Bp];exact h.2.now r ⟨rfl,Nat.le_trans (Bq _ _) h.1⟩
  ·exact h.elim
 ·exact h.elim
theorem Xr:MtM X "list.append" (gF X.K .append):=by
 intro pins s σ H x xs v us Q I rx rs h;obtain ⟨F,G,d,ds,r,rd,t,h⟩:=h;simp only[opM,oY]at h;split at h
 ·obtain ⟨v',rfl,rv⟩:=bz t;have e1:x=.ref _:=rd;subst e1;split at h
  ·rename_i ds0 hg;obtain ⟨vs,q,t'⟩:=r.lst hg;refine UG pins s σ H _ _ v us Q I rx rs ⟨_,vs,v',rfl,rfl,q,?_,?_⟩
   ·rw[<-t'.length];exact Nat.lt_of_lt_of_le h.1 szl
   ·exact h.2 _ _ _ (gr r hg) (r.write hg (t'.append (Reps.cons rv Reps.nil))) rfl
  ·exact h.elim
 ·exact h.elim
theorem Xu:MtR X "list.count" (gF X.K .count):=by
 intro pins s σ H x xs v us Q I rx rs h;obtain ⟨F,G,d,ds,r,rd,t,h⟩:=h;simp only[opM]at h;generalize ea:view G d=va at h;simp only[pA]at h;split at h
 ·obtain ⟨a,vs,e,q,t'⟩:=Rep.list r rd ea;subst e;obtain ⟨v',rfl,rv⟩:=bz t;have e2:v'=.bl true:=rv;subst e2;split at h
  ·rename_i bs hbs;have e3:=qT hbs t';subst e3;exact VR pins s σ H _ _ v us Q I rx rs ⟨a,bs,rfl,rfl,q,h.now r rfl⟩
  ·exact h.elim
 ·exact h.elim
theorem Xv:MtR X "list.index" (gF X.K .index):=by
 intro pins s σ H x xs v us Q I rx rs h;obtain ⟨F,G,d,ds,r,rd,t,h⟩:=h;simp only[opM]at h;generalize ea:view G d=va at h;simp only[pB]at h;split at h
 ·obtain ⟨a,vs,e,q,t'⟩:=Rep.list r rd ea;subst e;obtain ⟨v',rfl,rv⟩:=bz t;have e2:v'=.bl true:=rv;subst e2;split at h
  ·rename_i bs hbs;have e3:=qT hbs t';subst e3;exact V0 pins s σ H _ _ v us Q I rx rs ⟨a,bs,rfl,rfl,q,h.1,h.2.now r rfl⟩
  ·exact h.elim
 ·exact h.elim
def Xw:V->List V->Hp->VK->Prop:=λx vs H Q=>∃(l:Addr)(xs:List V)(i:Int)(y:V),x=.ref l/\vs=[.int i,y]/\H l=some (.lst xs)/\xs.length < sizeLine/\0<=i/\i<=1000000/\Q .non (upd H l (.lst (xs.take i.toNat++y::xs.drop i.toNat)))
theorem Xx{its:List Value}{i:Int}{u:Value}(h:0<=i):(its.toArray.extract 0 (if i < 0 then (i+(its.toArray.size:Int)).toNat else min i.toNat its.toArray.size)).push u++its.toArray.extract (if i < 0 then (i+(its.toArray.size:Int)).toNat else min i.toNat its.toArray.size)=(its.take i.toNat++u::its.drop i.toNat).toArray:=by
 rw[if_neg (by omega),PySem.W.kl_ins_eq,List.size_toArray];by_cases hc:i.toNat<=its.length
 ·rw[Nat.min_eq_left hc]
 ·rw[Nat.min_eq_right (by omega),List.take_of_length_le (Nat.le_refl _),List.drop_of_length_le (Nat.le_refl _),List.take_of_length_le (by omega),List.drop_of_length_le (by omega)]
theorem Xy{i:Int}(h0:0<=i)(h1:i<=1000000):¬(!Builtin.List.listFitsIndex i)=true:=by
 have:Builtin.List.listFitsIndex i=true:=by unfold Builtin.List.listFitsIndex;rw[Bool.and_eq_true];exact ⟨decide_eq_true (by omega),decide_eq_true (by omega)⟩
 rw[this];decide
theorem Xz:MtM X "list.insert" Xw:=by
 intro pins s σ H x vs v us Q I rx rv h;obtain ⟨l,xs,i,y,rfl,rfl,hH,hz,h0,h1,q⟩:=h;cases rx;cases rv with
 |cons r1 rv=>
  obtain ⟨t,rfl⟩:=r1;obtain ⟨u,rfl,ru⟩:=L2.Vals.one rv;obtain ⟨z,its,m,r,hl,e⟩:=I.lstM hH;refine call_meets PySem.F.slot_list_insert ⟨_,e,rfl⟩ PySem.F.entry_list_insert (PySem.F.args_list_insert_3 _ _ _) (PySem.AutoSeq1.list_insert_list_int_val_1 l its.toArray m i t u (Xy h0 h1) (by rw[List.size_toArray];omega)) ⟨e,?_⟩;refine ⟨.non,_,I.lset (its':=its.take i.toNat++u::its.drop i.toNat) hH e (Xx h0) ((r.take _).append (.cons ru (r.drop _))) ?_,rfl,q⟩;rw[List.length_append,List.length_cons,List.length_take,List.length_drop];omega
theorem XC:MtM X "list.insert" (gF X.K .insert):=by
 intro pins s σ H x xs v us Q I rx rs h;obtain ⟨F,G,d,ds,r,rd,t,h⟩:=h;simp only[opM,ph]at h;split at h
 ·rename_i i y;obtain ⟨v1,r1,rfl,rv1,t⟩:=t;obtain ⟨v',rfl,rv⟩:=bz t;have e1:x=.ref _:=rd;subst e1;have e2:v1=.int i:=rv1;subst e2;split at h
  ·rename_i ds0 hg;obtain ⟨h1,h2,h3,h4⟩:=h;obtain ⟨vs,q,t'⟩:=r.lst hg;refine Xz pins s σ H _ _ v us Q I rx rs ⟨_,vs,i,v',rfl,rfl,q,?_,h2,h3,?_⟩
   ·rw[<-t'.length];exact Nat.lt_of_lt_of_le h1 szl
   ·exact h4 _ _ _ (gr r hg) (r.write hg ((t'.take _).append (Reps.cons rv (t'.drop _)))) rfl
  ·exact h.elim
 ·exact h.elim
theorem XD:MtM X "list.pop" (gF X.K .pop):=by
 intro pins s σ H x xs v us Q I rx rs h;obtain ⟨F,G,d,ds,r,rd,t,h⟩:=h;simp only[opM,pq]at h;split at h
 ·rename_i i;obtain ⟨v',rfl,rv⟩:=bz t;have e1:x=.ref _:=rd;subst e1;have e2:v'=.int i:=rv;subst e2;split at h
  ·rename_i ds0 hg;obtain ⟨h1,h2,h3⟩:=h;obtain ⟨vs,q,t'⟩:=r.lst hg;split at h3
   ·rename_i y hy;obtain ⟨u,hu,ru⟩:=t'.get hy;have hlt:i.toNat < vs.length:=(List.getElem?_eq_some_iff.mp hu).1;refine UV pins s σ H _ _ v us Q I rx rs ⟨_,vs,i,i.toNat,u,rfl,rfl,q,by omega,by omega,?_,hu,?_⟩
    ·unfold seqIndex?;have e3:¬i < 0:=by omega
     simp[e3];omega
    ·rw[List.eraseIdx_eq_take_drop_succ];rw[List.eraseIdx_eq_take_drop_succ]at h3;have rw2:=r.write hg ((t'.take i.toNat).append (t'.drop (i.toNat+1)));exact h3 _ _ _ (gr r hg) rw2 (Rep.ext (gr r hg) ru)
   ·exact h3.elim
  ·exact h.elim
 ·exact h.elim
theorem XF{K:PySem.W.Frag}{H:Hp}{F:FZ}{G:DH}{d:D}{v:V}{ds:List D}(r:R K H F G)(h:Rep K H F d v)(e:view G d=.lst ds):∃a vs,v=.ref a/\H a=some (.lst vs)/\Reps K H F ds vs:=by
 cases d with
 |lst xs=>
  have e':D.lst xs=.lst ds:=e;cases e';obtain ⟨a,vs,e1,q,t⟩:=h;exact ⟨a,vs,e1,q.2,t⟩
 |ref p=>
  have hv:v=.ref p:=h;unfold view at e;cases g:G p with
  |none=>simp only[g]at e;cases e
  |some o=>
   cases o with
   |lst xs=>
    simp only[g]at e;cases e;obtain ⟨vs,q,t⟩:=r.lst g;exact ⟨p,vs,hv,q,t⟩
 |_=>cases (show _=D.lst ds from e)
theorem XH:MtM X "list.extend" (gF X.K .extend):=by
 intro pins s σ H x xs v us Q I rx rs h;obtain ⟨F,G,d,ds,r,rd,t,h⟩:=h;simp only[opM]at h;generalize ea:ds.map (view G)=va at h;simp only[oZ]at h;split at h
 ·obtain ⟨d',rfl,ev⟩:=map_one ea;obtain ⟨v',rfl,rv⟩:=bz t;obtain ⟨b,vs2,e2,q2,t2⟩:=XF r rv ev;subst e2;have e1:x=.ref _:=rd;subst e1;split at h
  ·rename_i ds0 hg;obtain ⟨vs,q,t'⟩:=r.lst hg;refine UL pins s σ H _ _ v us Q I rx rs ⟨_,b,vs,vs2,rfl,rfl,q,q2,?_,?_⟩
   ·rw[<-t'.length,<-t2.length];exact Nat.le_of_lt (Nat.lt_of_lt_of_le h.1 szl)
   ·exact h.2 _ _ _ (gr r hg) (r.write hg (t'.append t2)) rfl
  ·exact h.elim
 ·exact h.elim
theorem XJ:uh X (λo i x H Q=>∃F G a b c,R X.K H F G/\Rep X.K H F a o/\Rep X.K H F b i/\Rep X.K H F c x/\dG a b c G (λG'=>∀H' F',Ext H F H' F'->R X.K H' F' G'->Q H')):=by
 intro pins s σ H o i v ov iv u Q I ro ri rv h;obtain ⟨F,G,a,b,c,r,ra,rb,rc,h⟩:=h;unfold dG at h;split at h
 ·have e1:o=.ref _:=ra;have e2:i=.int _:=rb;subst e1;subst e2;split at h
  ·rename_i ds hg;obtain ⟨vs,q,t⟩:=r.lst hg;split at h
   ·rename_i j hj;refine set_list pins s σ H _ _ v ov iv u Q I ro ri rv ⟨_,vs,_,j,rfl,rfl,q,by rw[<-t.length];exact hj,?_⟩;exact h _ _ (gr r hg) (r.write hg (t.set rc j))
   ·exact h.elim
  ·exact h.elim
 ·exact h.elim
theorem XM(op:Operator):PIp X op (λx y H Q=>∃F G a b,R X.K H F G/\Rep X.K H F a x/\Rep X.K H F b y/\dm op a b (λd=>PV X.K H F Q d G)):=by
 intro pins s σ H x y v u Q I rx ry h;obtain ⟨F,G,a,b,r,ra,rb,h⟩:=h;unfold dm at h;split at h
 ·have e1:x=.int _:=ra;have e2:y=.int _:=rb;subst e1;subst e2;exact S8 pins s σ H _ _ v u Q I rx ry ⟨_,_,rfl,rfl,h.now r rfl⟩
 ·obtain ⟨e1,l1⟩:=ra;obtain ⟨e2,l2⟩:=rb;subst e1;subst e2;refine Tt pins s σ H _ _ v u Q I rx ry ⟨_,_,rfl,rfl,by rw[bQ,bQ];exact cN h.1,?_⟩;rw[oK];exact h.2.now r ⟨rfl,by rw[List.length_append];exact h.1⟩
 ·have e1:x=.int _:=ra;have e2:y=.int _:=rb;subst e1;subst e2;exact S9 pins s σ H _ _ v u Q I rx ry ⟨_,_,rfl,rfl,h.now r rfl⟩
 ·exact h.elim
end
inductive SK where
 |lst (a:Addr) |tup (a:Addr) |str (x:Str) (t:Tok)
def SK.val:SK->Value
 |.lst a=>.ref a
 |.tup a=>.ref a
 |.str x t=>.str x t
def SK.cls:SK->String
 |.lst _=>"list_iterator"
 |.tup _=>"tuple_iterator"
 |.str x _=>strIterType x
def SK.obj(k:SK):Obj:={ cls:=.type k.cls,data:=.fields #[k.val,.int 0 0] }
def SK.pos(k:SK)(it:Addr)(i:Nat)(h:Heap):Prop:=∃o,h.get? it=some o/\o.cls=.type k.cls/\o.data=.fields #[k.val,.int i 0]
def SK.Sat(H:Hp)(vs:List V):SK->Prop
 |.lst a=>H a=some (.lst vs)
 |.tup a=>H a=some (.tup vs)
 |.str x _=>vs=x.cps.toList.map λc=>V.str ⟨#[c]⟩
def SK.No(e:Addr):SK->Prop
 |.lst a=>a≠e
 |.tup a=>a≠e
 |.str _ _=>True
theorem SK.Sat.no{H:Hp}{vs:List V}{k:SK}{e:Addr}(h:k.Sat H vs)(he:H e=none):k.No e:=by
 cases k with
 |lst a=>exact bH (show H a=some _ from h) he
 |tup a=>exact bH (show H a=some _ from h) he
 |str x t=>trivial
def SK.On(its:Array Value)(h:Heap):SK->Prop
 |.lst a=>h.IsList a its
 |.tup a=>h.IsTuple a its
 |.str _ _=>True
theorem SK.On.keeps{its:Array Value}{h h':Heap}{k:SK}(x:k.On its h)(kk:∀b o,k.val=.ref b->h.get? b=some o->h'.get? b=some o):k.On its h':=by
 cases k with
 |lst a=>obtain ⟨o,e,r⟩:=x;exact ⟨o,kk a o rfl e,r⟩
 |tup a=>obtain ⟨o,e,r⟩:=x;exact ⟨o,kk a o rfl e,r⟩
 |str _ _=>trivial
section
variable {prog:Program} {w:World} {A:Around} {E:Value->Shared->Prop} {s:Shared}
theorem SK.iter{k:SK}{its:Array Value}{Q:Value->Shared->Prop}(h:k.On its s.heap)(q:Q (.ref s.heap.objs.size) { s with heap:=s.heap.push k.obj }):wpAny (model prog w) A (pyIter k.val) Q E s:=by
 cases k with
 |lst a=>exact wpAny_pyIter_list h q
 |tup a=>exact wpAny_pyIter_tuple h q
 |str x t=>exact wpAny_pyIter_strU q
theorem SK.pos0{k:SK}{h:Heap}:k.pos h.objs.size 0 (h.push k.obj):=⟨_,Heap.get?_push_size _ rfl,rfl,rfl⟩
theorem SK.pos.keep{k:SK}{it:Addr}{i:Nat}{h h':Heap}(x:k.pos it i h)(kk:∀o,h.get? it=some o->h'.get? it=some o):k.pos it i h':=let ⟨o,e,r⟩:=x;⟨o,kk o e,r⟩
theorem XN{it t:Addr}{i:Nat}{items}{x:Value}{Q:Value->Shared->Prop}(hit:s.heap.IsTupleIter it t i)
  (ht:s.heap.IsTuple t items) (hx:items[i]?=some x)
  (hQ:∀h',h'.IsTupleIter it t (i+1)->Heap.SameBut it s.heap h'->Q x { s with heap:=h' }):
  wpAny (model prog w) A (Builtin.SmallTypes.nextOf (.ref it)) Q E s:=by
 obtain ⟨o,ho,hc,hd⟩:=id hit;obtain ⟨ol,hol,_,nl,hdl⟩:=ht;unfold Builtin.SmallTypes.nextOf;refine wpAny_bind (wpAny_callSpecial?_slot (name:=Str.ofString "__next__") hit.typeIs F.slot_tuple_iterator_next
  (wpAny_call_entry F.slot_tuple_iterator_next hit.typeIs F.entry_tuple_iterator_next ?_ (F.args_tuple_iterator_next_1 _)))
 show wpAny _ _ (field (.ref it) 0 >>= _) _ _ s;refine wpAny_bind (wpAny_field ho hd (x:=.ref t) rfl ?_);show wpAny _ _ (if (Value.ref t==Value.none)=true then _ else _) _ _ s;rw[if_neg (show ¬((Value.ref t==Value.none)=true) from Bool.false_ne_true)];show wpAny _ _ (field (.ref it) 1 >>= _) _ _ s;refine wpAny_bind (wpAny_field ho hd (x:=.int i 0) rfl ?_);show wpAny _ _ (seqItems? (.ref t) >>= _) _ _ s;refine wpAny_bind (wpAny_seqItems hol hdl ?_);simp only[Int.toNat_natCast,hx];refine wpAny_bind (wpAny_setField ho hd (by simp) (wpAny_pure ⟨x,rfl,wpAny_pure (hQ _ ?_ (Heap.SameBut.update ..))⟩));exact ⟨_,Heap.get?_update_self _ ho (Obj.isFreed_of_fields (Obj.data_mapFields hd _)),(Obj.cls_mapFields ..).trans hc,by
  rw[Obj.data_mapFields hd];simp[rawInt]⟩
theorem XQ{it t:Addr}{i:Nat}{items}{Q:Value->Shared->Prop}(hh:A.handled=none)
  (hit:s.heap.IsTupleIter it t i) (ht:s.heap.IsTuple t items) (hx:items[i]?=none)
  (hE:∀h' e,Heap.ExtBut it s.heap h'->(∃o,h'.get? e=some o/\o.cls=.type "StopIteration")->E (.ref e) { s with heap:=h' }):
  wpAny (model prog w) A (Builtin.SmallTypes.nextOf (.ref it)) Q E s:=by
 obtain ⟨o,ho,hc,hd⟩:=id hit;obtain ⟨ol,hol,_,nl,hdl⟩:=ht;unfold Builtin.SmallTypes.nextOf;refine wpAny_bind (wpAny_callSpecial?_slot (name:=Str.ofString "__next__") hit.typeIs F.slot_tuple_iterator_next
  (wpAny_call_entry F.slot_tuple_iterator_next hit.typeIs F.entry_tuple_iterator_next ?_ (F.args_tuple_iterator_next_1 _)))
 show wpAny _ _ (field (.ref it) 0 >>= _) _ _ s;refine wpAny_bind (wpAny_field ho hd (x:=.ref t) rfl ?_);show wpAny _ _ (if (Value.ref t==Value.none)=true then _ else _) _ _ s;rw[if_neg (show ¬((Value.ref t==Value.none)=true) from Bool.false_ne_true)];show wpAny _ _ (field (.ref it) 1 >>= _) _ _ s;refine wpAny_bind (wpAny_field ho hd (x:=.int i 0) rfl ?_);show wpAny _ _ (seqItems? (.ref t) >>= _) _ _ s;refine wpAny_bind (wpAny_seqItems hol hdl ?_);simp only[Int.toNat_natCast,hx];refine wpAny_bind (wpAny_rule (wpAny_bind (wpAny_setField ho hd (by simp) ?_)));show wpAny _ _ (newExc (.type "StopIteration") [] >>= _) _ _ _;refine wpAny_bind ?_;simp only[newExc,newTuple];refine wpAny_bind (wpAny_newObj_type ?_ (by size_fits));refine wpAny_bind (m:=firstArgMember _ _) (wpAny_of_eq (a:=Value.none) (by first |rfl | (simp only[firstArgMember];rfl)) ?_);refine wpAny_newObj_type ?_ (by size_fits);simp only[raiseNew];refine wpAny_bind (wpAny_handled ?_);first |rw[show A.in1.handled=none from hh] |rw[hh]
 refine wpAny_bind (wpAny_pure (wpAny_throw ?_));exact hE _ _ (((Heap.SameBut.update ..).extBut.push _).push _) ⟨_,Heap.get?_push_size _ rfl,rfl⟩
theorem XS(hh:A.handled=none)(it l:Addr)(hne:l≠it)(items:Array Value):
  Draws prog w A it [it,l] items.size (λi v=>items[i]?=some v) (λi h=>h.IsTupleIter it l i/\h.IsTuple l items) where
 live:=λ_ _ st=>let ⟨o,ho,_⟩:=st.1;⟨o,ho⟩
 frame:=λ_ _ _ st hk=>⟨let ⟨o,e,r⟩:=st.1;⟨o,hk it (by simp) o e,r⟩,let ⟨o,e,r⟩:=st.2;⟨o,hk l (by simp) o e,r⟩⟩
 item:=λi s Q E hi st hQ=>by
  refine XN st.1 st.2 (x:=items[i]) (by simp[hi]) λh' hit' hs'=>?_;exact hQ _ h' s.toks (by simp[hi]) ⟨hit',let ⟨o,e,r⟩:=st.2;⟨o,hs'.extBut l o hne e,r⟩⟩ hs'
 done:=λs Q E st hE=>XQ hh st.1 st.2 (by simp) hE
end
structure Drawn(P:Program)(w:World)(A:Around)(k:SK)(it:Addr)(i:Nat)(vs:List V)(h:Heap)(fp:List Addr)(Pd:Nat->Value->Prop)(S:Nat->Heap->Prop):Prop where
 D:Draws P w A it fp vs.length Pd S
 st:S i h
 val:∀j v,Pd j v->∃x,vs[j]?=some x/\RelV x v
 pos:∀j h,S j h->k.pos it j h
 fp:∀b∈fp,b=it\/k.val=.ref b
theorem drawn{X:Cx}{pins:List (Addr×Obj)}{σ:L2.St}{H:Hp}{s:Shared}{A:Around}(hh:A.handled=none)(I:Inv X pins σ H s){k:SK}{it:Addr}{i:Nat}{vs:List V}(sat:k.Sat H vs)(hit:H it=none)(p:k.pos it i s.heap):
  ∃fp Pd S,Drawn X.prog X.w A k it i vs s.heap fp Pd S:=by
 cases k with
 |lst a=>
  have sat:H a=some (.lst vs):=sat;obtain ⟨its,r,pl,_⟩:=I.list (SqL.of sat);refine ⟨[it,a],λj v=>its.toArray[j]?=some v,λj h=>h.IsListIter it a j/\h.IsList a its.toArray,?_,⟨p,pl.isList⟩,?_,λj h st=>st.1,?_⟩
  ·have D:=Draws.list (prog:=X.prog) (w:=X.w) hh it a (bH sat hit) its.toArray;rw[List.size_toArray,<-r.length]at D;exact D
  ·intro j v e;have e:its.toArray[j]?=some v:=e;have hj:j < vs.length:=by
    rw[r.length];have:=(Array.getElem?_eq_some_iff.mp e).1;simpa using this
   obtain ⟨u,e2,r2⟩:=r.get (show vs[j]?=some vs[j] by simp[hj]);refine ⟨vs[j],by simp[hj],?_⟩;have:its[j]?=some v:=by simpa using e
   rw[this]at e2;cases e2;exact r2
  ·intro b hb;have hb:b=it\/b=a:=by simpa using hb
   rcases hb with e |e
   ·exact .inl e
   ·exact .inr (by rw[e];rfl)
 |tup a=>
  have sat:H a=some (.tup vs):=sat;obtain ⟨its,r,pl,_⟩:=I.tuple (SqT.of sat);refine ⟨[it,a],λj v=>its.toArray[j]?=some v,λj h=>h.IsTupleIter it a j/\h.IsTuple a its.toArray,?_,⟨p,pl⟩,?_,λj h st=>st.1,?_⟩
  ·have D:=XS (prog:=X.prog) (w:=X.w) hh it a (bH sat hit) its.toArray;rw[List.size_toArray,<-r.length]at D;exact D
  ·intro j v e;have e:its.toArray[j]?=some v:=e;have hj:j < vs.length:=by
    rw[r.length];have:=(Array.getElem?_eq_some_iff.mp e).1;simpa using this
   obtain ⟨u,e2,r2⟩:=r.get (show vs[j]?=some vs[j] by simp[hj]);refine ⟨vs[j],by simp[hj],?_⟩;have:its[j]?=some v:=by simpa using e
   rw[this]at e2;cases e2;exact r2
  ·intro b hb;have hb:b=it\/b=a:=by simpa using hb
   rcases hb with e |e
   ·exact .inl e
   ·exact .inr (by rw[e];rfl)
 |str x t=>
  have sat:vs=x.cps.toList.map λc=>V.str ⟨#[c]⟩:=sat;refine ⟨[it],λi v=>∃c u,x.cps[i]?=some c/\v=.str ⟨#[c]⟩ u,λi h=>h.IsStrIter it (strIterType x) x t i,?_,p,?_,λj h st=>st,?_⟩
  ·have D:=Vm (prog:=X.prog) (w:=X.w) hh it x t;have e:x.cps.size=vs.length:=by rw[sat,List.length_map,Array.length_toList]
   rw[e]at D;exact D
  ·rintro j v ⟨c,u,e1,e2⟩;refine ⟨V.str ⟨#[c]⟩,?_,u,e2⟩;rw[sat,List.getElem?_map,Array.getElem?_toList,e1];rfl
  ·intro b hb;exact .inl (by simpa using hb)
def Jk(k:SK):It:=⟨λi H=>∃vs,k.Sat H vs/\i < vs.length,λi H x H'=>H'=H/\∀vs,k.Sat H vs->vs[i]?=some x,λi H=>∃vs,k.Sat H vs/\vs.length=i⟩
def Je(k:SK):It:=⟨λi H=>∃vs,k.Sat H vs/\i < vs.length,λi H x H'=>∃T y,H T=none/\x=.ref T/\H'=upd H T (.tup [.int i,y])/\∀vs,k.Sat H vs->vs[i]?=some y,λi H=>∃vs,k.Sat H vs/\vs.length=i⟩
theorem vL{H:Hp}{k:SK}{vs ws:List V}(h:k.Sat H vs)(h':k.Sat H ws):vs=ws:=by
 cases k with
 |lst a=>have e:=(show H a=some _ from h).symm.trans h';cases e;rfl
 |tup a=>have e:=(show H a=some _ from h).symm.trans h';cases e;rfl
 |str x t=>exact (show vs=_ from h).trans (show ws=_ from h').symm
theorem XX{P:Program}{w:World}{K:PySem.W.Frag}{elts:List Expr}{x1:Nat}{pos:Pos}(k:SK)(e it:Addr)(hne:e≠it):
  Turn P w K (.Tuple elts x1 pos) (Je k) [e,it] e (λi h=>(∃old,IsEnum h e it i old)/\k.pos it i h) where
 mem:=by simp
 obj:=λi h st b hb=>by
  obtain ⟨⟨old,he⟩,o,ho,c,d⟩:=st;have hb:b=e\/b=it:=by simpa using hb
  rcases hb with rfl |rfl
  ·exact ⟨_,he,λv z=>by have z':Data.fields _=Data.cell v:=z;cases z'⟩
  ·exact ⟨o,ho,λv z=>by rw[d]at z;cases z⟩
 keep:=λi h h' st kk=>⟨let ⟨old,he⟩:=st.1;⟨old,kk e (by simp) _ he⟩,st.2.keep λo ho=>kk it (by simp) o ho⟩
 item:=by
  intro X hP hw hK hc i pins s σ H E I hf st hg;subst hP hw hK;obtain ⟨vs,sat,hi⟩:=hg;obtain ⟨⟨old,he⟩,hit⟩:=st;have hfe:=hf e (by simp);have hfi:=hf it (by simp);obtain ⟨fp,Pd,S,Dr⟩:=drawn (A:=X.A.in1) (I.ok.hd hc) I sat hfi.1 hit;have helt:e < s.heap.objs.size:=Heap.lt_size he;have hef:e∉fp:=λhb=>by
   rcases Dr.fp e hb with z |z
   ·exact hne z
   ·have:=sat.no hfe.1;cases k with
    |lst a=>cases z;exact this rfl
    |tup a=>cases z;exact this rfl
    |str _ _=>cases z
  refine wpAny_pyNext_enum_itemD Dr.D he Dr.st hi hne hef λu h1 tk hu heo hit1 ht1 hz1 hk1=>?_;obtain ⟨x,hx,ru⟩:=Dr.val _ _ hu;refine ⟨_,rfl,?_⟩;refine wpAny_letOwnedTupleGo_enum heo λh2 he2 hs2=>?_;have hs2':Heap.SameBut e h1 h2:=hs2;have hn:H s.heap.objs.size=none:=I.hok.fresh (Nat.le_refl _);have k2:∀b o,b∉[e,it]->s.heap.get? b=some o->h2.get? b=some o:=λb o hb q=>by
   have hb':b≠e/\b≠it:=by simpa using hb
   exact hs2'.extBut b o hb'.1 (hk1 b o hb'.1 hb'.2 q)
  have I2:Inv X pins σ H { s with heap:=h2,toks:=tk+1 }:=I.turnedL hf k2;have ht2:h2.get? s.heap.objs.size=some { cls:=.type "tuple",data:=.seq #[.int i tk,u] }:=hs2'.extBut _ _ (Nat.ne_of_gt helt) ht1;have ob:ObjOk X.prog X.w (upd H s.heap.objs.size (.tup [.int i,x])) h2 s.heap.objs.size (.tup [.int i,x]):=
   ⟨by rw[sizeLine_eq];simp,[.int i tk,u],.cons ⟨_,rfl⟩ (.cons ru .nil),⟨_,ht2,rfl,_,rfl⟩⟩
  have I3:=I2.track (I.fpOk (Nat.le_refl _) hn) ob;have nee:s.heap.objs.size≠e:=Nat.ne_of_gt helt;have nei:s.heap.objs.size≠it:=by obtain ⟨o,ho,_⟩:=hit;exact Nat.ne_of_gt (Heap.lt_size ho)
  refine ⟨.ref s.heap.objs.size,_,I3,rfl,⟨s.heap.objs.size,x,hn,rfl,rfl,λys hy=>by rw[vL hy sat];exact hx⟩,⟨⟨u,?_⟩,?_⟩,λb hb=>?_⟩
  ·show IsEnum h2 e it (((i+1:Nat)):Int) u;rw[show (((i+1:Nat):Int))=(i:Int)+1 by omega];exact he2
  ·exact (Dr.pos _ _ hit1).keep λo ho=>hs2'.extBut _ _ (Ne.symm hne) ho
  ·have hb':b=e\/b=it:=by simpa using hb
   rw[aM (by rcases hb' with rfl |rfl;exact Ne.symm nee;exact Ne.symm nei)];exact (hf b hb).1
 done:=by
  intro X hP hw hK hc i pins s σ H E I hf st hg;subst hP hw hK;obtain ⟨vs,sat,hi⟩:=hg;subst hi;obtain ⟨⟨old,he⟩,hit⟩:=st;have hfi:=hf it (by simp);obtain ⟨fp,Pd,S,Dr⟩:=drawn (A:=X.A.in1) (I.ok.hd hc) I sat hfi.1 hit;refine wpAny_pyNext_enum_endD Dr.D he Dr.st λh' eb=>⟨rfl,I.turnedL (t':=s.toks) hf λb o hb q=>?_⟩;have hb':b≠e/\b≠it:=by simpa using hb
  exact eb b o hb'.2 q
 self:=λA i s Q E st h=>by
  obtain ⟨⟨old,he⟩,_⟩:=st;exact wpAny_pyIter_enum he h
theorem X3{P:Program}{w:World}{K:PySem.W.Frag}{tg:Expr}(k:SK)(it:Addr):Turn P w K tg (Jk k) [it] it (λi h=>k.pos it i h) where
 mem:=by simp
 obj:=λi h st b hb=>by
  have e:b=it:=by simpa using hb
  subst e;obtain ⟨o,e,c,d⟩:=st;exact ⟨o,e,λv z=>by rw[d]at z;cases z⟩
 keep:=λi h h' st kk=>st.keep λo e=>kk it (by simp) o e
 item:=by
  intro X hP hw hK hc i pins s σ H E I hf st hg;obtain ⟨vs,sat,hi⟩:=hg;have hfi:=hf it (by simp);cases k with
  |lst a=>
   have sat':H a=some (.lst vs):=sat;refine wpAny_mono ((yQ (tg:=tg) a it).item X hP hw hK hc i pins s σ H E I hf st ⟨vs,vs[i],SqL.of sat',by simp[hi]⟩) ?_ (λ_ _ e=>e);rintro r s1 ⟨u,hr,h1⟩;refine ⟨u,hr,wpAny_mono h1 ?_ (λ_ _ e=>e)⟩;rintro _ s2 ⟨x,H',I',rx,⟨e1,e2⟩,st',fr⟩;exact ⟨x,H',I',rx,⟨e1,λws hw'=>e2 ws (SqL.of (show H a=some (.lst ws) from hw'))⟩,st',fr⟩
  |tup a=>
   have sat':H a=some (.tup vs):=sat;refine wpAny_mono ((yR (tg:=tg) a it).item X hP hw hK hc i pins s σ H E I hf st ⟨vs,vs[i],SqT.of sat',by simp[hi]⟩) ?_ (λ_ _ e=>e);rintro r s1 ⟨u,hr,h1⟩;refine ⟨u,hr,wpAny_mono h1 ?_ (λ_ _ e=>e)⟩;rintro _ s2 ⟨x,H',I',rx,⟨e1,e2⟩,st',fr⟩;exact ⟨x,H',I',rx,⟨e1,λws hw'=>e2 ws (SqT.of (show H a=some (.tup ws) from hw'))⟩,st',fr⟩
  |str y t=>
   have sat':vs=y.cps.toList.map λc=>V.str ⟨#[c]⟩:=sat;have hlen:vs.length=y.cps.size:=by rw[sat',List.length_map,Array.length_toList]
   refine wpAny_mono ((ut (tg:=tg) it y t).item X hP hw hK hc i pins s σ H E I hf st (show i < y.cps.size by omega)) ?_ (λ_ _ e=>e);rintro r s1 ⟨u,hr,h1⟩;refine ⟨u,hr,wpAny_mono h1 ?_ (λ_ _ e=>e)⟩;rintro _ s2 ⟨x,H',I',rx,⟨e1,c,e2,e3⟩,st',fr⟩;refine ⟨x,H',I',rx,⟨e1,λws hw'=>?_⟩,st',fr⟩;have hw':ws=y.cps.toList.map λc=>V.str ⟨#[c]⟩:=hw';rw[hw',e3,List.getElem?_map,Array.getElem?_toList,e2];rfl
 done:=by
  intro X hP hw hK hc i pins s σ H E I hf st hg;obtain ⟨vs,sat,hi⟩:=hg;cases k with
  |lst a=>exact (yQ (tg:=tg) a it).done X hP hw hK hc i pins s σ H E I hf st ⟨vs,SqL.of (show H a=some (.lst vs) from sat),by omega⟩
  |tup a=>exact (yR (tg:=tg) a it).done X hP hw hK hc i pins s σ H E I hf st ⟨vs,SqT.of (show H a=some (.tup vs) from sat),by omega⟩
  |str y t=>
   have sat':vs=y.cps.toList.map λc=>V.str ⟨#[c]⟩:=sat;have hlen:vs.length=y.cps.size:=by rw[sat',List.length_map,Array.length_toList]
   exact (ut (tg:=tg) it y t).done X hP hw hK hc i pins s σ H E I hf st (show i=y.cps.size by omega)
 self:=λA i s Q E st h=>by
  cases k with
  |lst a=>exact wpAny_pyIter_listiter st h
  |tup a=>exact wpAny_pyIter_tupleiter st h
  |str y t=>exact (ut (K:=K) (tg:=tg) it y t).self A i s Q E st h
open Builtin Builtin.Str
section
variable {prog:Program} {w:World} {A:Around} {E:Value->Shared->Prop} {s:Shared}
theorem X4{z TI TO i1 i2:Addr}{k n1 n2:Nat}{fp1 fp2:List Addr}{P1 P2:Nat->Value->Prop}{S1 S2:Nat->Heap->Prop}{a b:Value}{Q:Value->Shared->Prop}(D:ZApart z TI TO i1 i2)
  (D1:Draws prog w A i1 fp1 n1 P1 S1) (D2:Draws prog w A i2 fp2 n2 P2 S2) (f1:∀c∈fp1,c≠z/\c≠TO/\c≠i2) (f2:∀c∈fp2,c≠z/\c≠TO/\c≠i1)
  (hz:IsZip s.heap z TI TO .none) (hTI:IsPair s.heap TI (.ref i1) (.ref i2)) (hTO:IsPair s.heap TO a b)
  (h1:S1 k s.heap) (h2:S2 k s.heap) (hx:k < n1) (hy:k < n2)
  (hQ:∀h' tk c d,P1 k c->P2 k d->IsZip h' z TI TO (rawInt s.heap.objs.size)->IsPair h' TO c d->S1 (k+1) h'->S2 (k+1) h'->
   IsPair h' s.heap.objs.size c d->h'.objs.size=s.heap.objs.size+1->
   (∀c o,c≠z->c≠TO->c≠i1->c≠i2->s.heap.get? c=some o->h'.get? c=some o)->Q (.ref s.heap.objs.size) { s with heap:=h',toks:=tk }):
  wpAny (model prog w) A (Builtin.«zip.__next__» ⟨[.ref z],[]⟩) (λfin s'=>∃v,fin=.done (.ret v)/\Q v s') E s:=by
 have e1:∀{h h':Heap}{c:Addr}{j:Nat},S1 j h->Heap.ExtBut c h h'->(∀b∈fp1,b≠c)->S1 j h':=λq e n=>D1.frame _ _ _ q λb hb o y=>e b o (n b hb) y;have e2:∀{h h':Heap}{c:Addr}{j:Nat},S2 j h->Heap.ExtBut c h h'->(∀b∈fp2,b≠c)->S2 j h':=λq e n=>D2.frame _ _ _ q λb hb o y=>e b o (n b hb) y;have z1:∀b∈fp1,b≠z:=λb hb=>(f1 b hb).1;have t1:∀b∈fp1,b≠TO:=λb hb=>(f1 b hb).2.1;have j1:∀b∈fp1,b≠i2:=λb hb=>(f1 b hb).2.2;have z2:∀b∈fp2,b≠z:=λb hb=>(f2 b hb).1;have t2:∀b∈fp2,b≠TO:=λb hb=>(f2 b hb).2.1;have j2:∀b∈fp2,b≠i1:=λb hb=>(f2 b hb).2.2;show wpAny _ _ (field (.ref z) 2 >>= _) _ _ _;refine wpAny_bind (wpAny_field hz rfl (x:=.bool false) rfl ?_);show wpAny _ _ (field (.ref z) 3 >>= _) _ _ _;refine wpAny_bind (wpAny_field hz rfl (x:=.ref TI) rfl ?_);refine wpAny_bind (wpAny_seqItems hTI rfl ?_);show wpAny _ _ (Builtin.SmallTypes.ownedTupleIsFree (.ref z) >>= _) _ _ _;refine wpAny_bind ?_;unfold Builtin.SmallTypes.ownedTupleIsFree;refine wpAny_bind (wpAny_field hz rfl (x:=.none) rfl (wpAny_pure ?_));simp only[if_true];refine wpAny_bind (wpAny_rule ?_);refine wpAny_bind (wpAny_field hz rfl (x:=.ref TO) rfl ?_);refine wpAny_bind (wpAny_setField_rec hz (by simp) λh₁ hz₁ hs₁=>?_);replace hz₁:IsZip h₁ z TI TO .ellipsis:=hz₁;replace hs₁:Heap.SameBut z s.heap h₁:=hs₁;refine wpAny_bind ?_;simp only[List.zipIdx_cons,List.zipIdx_nil,List.forIn_cons,List.forIn_nil];refine wpAny_bind (wpAny_bind (wpAny_onRaise ?_));show wpAny _ _ (Builtin.SmallTypes.nextOf (.ref i1) >>= _) _ _ _;refine wpAny_bind (D1.item k _ _ _ hx (e1 h1 hs₁.extBut z1) λc h₂ tk₂ hc h1₂ hs₂=>wpAny_pure ?_);replace hs₂:Heap.SameBut i1 h₁ h₂:=hs₂;have hTO₂:IsPair h₂ TO a b:=hs₂.extBut _ _ D.TOi1 (hs₁.extBut _ _ D.TOz hTO);refine wpAny_bind (wpAny_seqItems hTO₂ rfl ?_);refine wpAny_bind (wpAny_updateSeq_pair hTO₂ λh₃ hTO₃ hs₃=>?_);replace hTO₃:IsPair h₃ TO c b:=hTO₃;replace hs₃:Heap.SameBut TO h₂ h₃:=hs₃;refine wpAny_bind (wpAny_letGo (wpAny_pure ?_));refine wpAny_bind (wpAny_bind (wpAny_onRaise ?_));show wpAny _ _ (Builtin.SmallTypes.nextOf (.ref i2) >>= _) _ _ _;refine wpAny_bind (D2.item k _ _ _ hy (e2 (e2 (e2 h2 hs₁.extBut z2) hs₂.extBut j2) hs₃.extBut t2) λd h₄ tk₄ hd h2₄ hs₄=>wpAny_pure ?_);replace hs₄:Heap.SameBut i2 h₃ h₄:=hs₄;have hTO₄:IsPair h₄ TO c b:=hs₄.extBut _ _ D.TOi2 hTO₃;refine wpAny_bind (wpAny_seqItems hTO₄ rfl ?_);refine wpAny_bind (wpAny_updateSeq_pair hTO₄ λh₅ hTO₅ hs₅=>?_);replace hTO₅:IsPair h₅ TO c d:=hTO₅;replace hs₅:Heap.SameBut TO h₄ h₅:=hs₅;refine wpAny_bind (wpAny_letGo (wpAny_pure (wpAny_pure ?_)));refine wpAny_bind (wpAny_seqItems hTO₅ rfl ?_);refine wpAny_bind (wpAny_newTuple ?_);have hsz:h₅.objs.size=s.heap.objs.size:=by rw[hs₅.1,hs₄.1,hs₃.1,hs₂.1,hs₁.1]
 have hz₅:IsZip h₅ z TI TO .ellipsis:=hs₅.extBut _ _ D.TOz.symm (hs₄.extBut _ _ D.i2z.symm (hs₃.extBut _ _ D.TOz.symm (hs₂.extBut _ _ D.i1z.symm hz₁)));have hk₅:∀c o,c≠z->c≠TO->c≠i1->c≠i2->s.heap.get? c=some o->h₅.get? c=some o:=λc o c1 c2 c3 c4 e=>
  hs₅.extBut _ _ c2 (hs₄.extBut _ _ c4 (hs₃.extBut _ _ c2 (hs₂.extBut _ _ c3 (hs₁.extBut _ _ c1 e))))
 have h1₅:S1 (k+1) h₅:=e1 (e1 (e1 h1₂ hs₃.extBut t1) hs₄.extBut j1) hs₅.extBut t1;have h2₅:S2 (k+1) h₅:=e2 h2₄ hs₅.extBut t2;have hzlt:z < h₅.objs.size:=Heap.lt_size hz₅;show wpAny _ _ (Builtin.SmallTypes.ownedTupleHandOut (.ref z) (.ref h₅.objs.size) >>= _) _ _ _;refine wpAny_bind ?_;unfold Builtin.SmallTypes.ownedTupleHandOut;have hz₆:IsZip (h₅.push { cls:=.type "tuple",data:=.seq #[c,d] }) z TI TO .ellipsis:=Heap.get?_push_of_some _ hz₅;refine wpAny_bind (wpAny_setField_rec hz₆ (by simp) λh₇ hz₇ hs₇=>?_);replace hz₇:IsZip h₇ z TI TO (rawInt h₅.objs.size):=hz₇;refine wpAny_setField_rec hz₇ (by simp) λh₈ hz₈ hs₈=>?_;replace hz₈:IsZip h₈ z TI TO (rawInt h₅.objs.size):=hz₈;have up:∀c o,c≠z->h₅.get? c=some o->h₈.get? c=some o:=λc o c1 e=>hs₈.extBut _ _ c1 (hs₇.extBut _ _ c1 (Heap.get?_push_of_some _ e));have hT₈:IsPair h₈ h₅.objs.size c d:=hs₈.extBut _ _ (Nat.ne_of_gt hzlt) (hs₇.extBut _ _ (Nat.ne_of_gt hzlt) (Heap.get?_push_size _ rfl));have hz8:h₈.objs.size=h₅.objs.size+1:=by rw[hs₈.1,hs₇.1,Heap.size_push]
 rw[hsz]at hz₈ hT₈ hz8;refine wpAny_pure ⟨_,rfl,?_⟩;show Q (.ref h₅.objs.size) _;rw[hsz];exact hQ h₈ tk₄ c d hc hd hz₈ (up _ _ D.TOz hTO₅) (D1.frame _ _ _ h1₅ λb hb o y=>up b o (z1 b hb) y) (D2.frame _ _ _ h2₅ λb hb o y=>up b o (z2 b hb) y) hT₈ hz8 λc o c1 c2 c3 c4 e=>up c o c1 (hk₅ c o c1 c2 c3 c4 e)
theorem X5{z TI TO i1 i2:Addr}{n1:Nat}{fp1:List Addr}{P1:Nat->Value->Prop}{S1:Nat->Heap->Prop}{a b:Value}{Q:Fin->Shared->Prop}(D:ZApart z TI TO i1 i2)
  (D1:Draws prog w A i1 fp1 n1 P1 S1) (f1:∀c∈fp1,c≠z)
  (hz:IsZip s.heap z TI TO .none) (hTI:IsPair s.heap TI (.ref i1) (.ref i2)) (hTO:IsPair s.heap TO a b) (h1:S1 n1 s.heap)
  (hE:∀h' e,(∀c o,c≠z->c≠TO->c≠i1->c≠i2->s.heap.get? c=some o->h'.get? c=some o)->(∃o,h'.get? e=some o/\o.cls=.type "StopIteration")->E (.ref e) { s with heap:=h' }):
  wpAny (model prog w) A (Builtin.«zip.__next__» ⟨[.ref z],[]⟩) Q E s:=by
 show wpAny _ _ (field (.ref z) 2 >>= _) _ _ _;refine wpAny_bind (wpAny_field hz rfl (x:=.bool false) rfl ?_);show wpAny _ _ (field (.ref z) 3 >>= _) _ _ _;refine wpAny_bind (wpAny_field hz rfl (x:=.ref TI) rfl ?_);refine wpAny_bind (wpAny_seqItems hTI rfl ?_);show wpAny _ _ (Builtin.SmallTypes.ownedTupleIsFree (.ref z) >>= _) _ _ _;refine wpAny_bind ?_;unfold Builtin.SmallTypes.ownedTupleIsFree;refine wpAny_bind (wpAny_field hz rfl (x:=.none) rfl (wpAny_pure ?_));simp only[if_true];refine wpAny_bind (wpAny_rule ?_);refine wpAny_bind (wpAny_field hz rfl (x:=.ref TO) rfl ?_);refine wpAny_bind (wpAny_setField_rec hz (by simp) λh₁ hz₁ hs₁=>?_);replace hz₁:IsZip h₁ z TI TO .ellipsis:=hz₁;replace hs₁:Heap.SameBut z s.heap h₁:=hs₁;refine wpAny_bind ?_;simp only[List.zipIdx_cons,List.zipIdx_nil,List.forIn_cons,List.forIn_nil];refine wpAny_bind (wpAny_bind (wpAny_onRaise ?_));show wpAny _ _ (Builtin.SmallTypes.nextOf (.ref i1) >>= _) _ _ _;refine wpAny_bind (D1.done _ _ _ (D1.frame _ _ _ h1 λb hb o y=>hs₁.extBut b o (f1 b hb) y) λh₂ e hs₂ he=>?_);obtain ⟨oe,hoe,hce⟩:=he;have hz₂:IsZip h₂ z TI TO .ellipsis:=hs₂ _ _ D.i1z.symm hz₁;have hez:e≠z:=λx=>by subst x;rw[hz₂]at hoe;cases hoe;simp at hce
 refine wpAny_setField_rec hz₂ (by simp) λh₃ _ hs₃=>hE h₃ e (λc o c1 _ c3 _ x=>hs₃.extBut _ _ c1 (hs₂ _ _ c3 (hs₁.extBut _ _ c1 x))) ⟨oe,hs₃.extBut _ _ hez hoe,hce⟩
theorem X6{z TI TO i1 i2:Addr}{k n1 n2:Nat}{fp1 fp2:List Addr}{P1 P2:Nat->Value->Prop}{S1 S2:Nat->Heap->Prop}{a b:Value}{Q:Fin->Shared->Prop}(D:ZApart z TI TO i1 i2)
  (D1:Draws prog w A i1 fp1 n1 P1 S1) (D2:Draws prog w A i2 fp2 n2 P2 S2) (f1:∀c∈fp1,c≠z/\c≠TO/\c≠i2) (f2:∀c∈fp2,c≠z/\c≠TO/\c≠i1)
  (hz:IsZip s.heap z TI TO .none) (hTI:IsPair s.heap TI (.ref i1) (.ref i2)) (hTO:IsPair s.heap TO a b) (h1:S1 k s.heap) (h2:S2 k s.heap) (hx:k < n1) (hy:k=n2)
  (hE:∀h' tk e,(∀c o,c≠z->c≠TO->c≠i1->c≠i2->s.heap.get? c=some o->h'.get? c=some o)->(∃o,h'.get? e=some o/\o.cls=.type "StopIteration")->E (.ref e) { s with heap:=h',toks:=tk }):
  wpAny (model prog w) A (Builtin.«zip.__next__» ⟨[.ref z],[]⟩) Q E s:=by
 have e1:∀{h h':Heap}{c:Addr}{j:Nat},S1 j h->Heap.ExtBut c h h'->(∀b∈fp1,b≠c)->S1 j h':=λq e n=>D1.frame _ _ _ q λb hb o y=>e b o (n b hb) y;have e2:∀{h h':Heap}{c:Addr}{j:Nat},S2 j h->Heap.ExtBut c h h'->(∀b∈fp2,b≠c)->S2 j h':=λq e n=>D2.frame _ _ _ q λb hb o y=>e b o (n b hb) y;have z1:∀b∈fp1,b≠z:=λb hb=>(f1 b hb).1;have z2:∀b∈fp2,b≠z:=λb hb=>(f2 b hb).1;have t2:∀b∈fp2,b≠TO:=λb hb=>(f2 b hb).2.1;have j2:∀b∈fp2,b≠i1:=λb hb=>(f2 b hb).2.2;show wpAny _ _ (field (.ref z) 2 >>= _) _ _ _;refine wpAny_bind (wpAny_field hz rfl (x:=.bool false) rfl ?_);show wpAny _ _ (field (.ref z) 3 >>= _) _ _ _;refine wpAny_bind (wpAny_field hz rfl (x:=.ref TI) rfl ?_);refine wpAny_bind (wpAny_seqItems hTI rfl ?_);show wpAny _ _ (Builtin.SmallTypes.ownedTupleIsFree (.ref z) >>= _) _ _ _;refine wpAny_bind ?_;unfold Builtin.SmallTypes.ownedTupleIsFree;refine wpAny_bind (wpAny_field hz rfl (x:=.none) rfl (wpAny_pure ?_));simp only[if_true];refine wpAny_bind (wpAny_rule ?_);refine wpAny_bind (wpAny_field hz rfl (x:=.ref TO) rfl ?_);refine wpAny_bind (wpAny_setField_rec hz (by simp) λh₁ hz₁ hs₁=>?_);replace hz₁:IsZip h₁ z TI TO .ellipsis:=hz₁;replace hs₁:Heap.SameBut z s.heap h₁:=hs₁;refine wpAny_bind ?_;simp only[List.zipIdx_cons,List.zipIdx_nil,List.forIn_cons,List.forIn_nil];refine wpAny_bind (wpAny_bind (wpAny_onRaise ?_));show wpAny _ _ (Builtin.SmallTypes.nextOf (.ref i1) >>= _) _ _ _;refine wpAny_bind (D1.item k _ _ _ hx (e1 h1 hs₁.extBut z1) λc h₂ tk₂ hc h1₂ hs₂=>wpAny_pure ?_);replace hs₂:Heap.SameBut i1 h₁ h₂:=hs₂;have hTO₂:IsPair h₂ TO a b:=hs₂.extBut _ _ D.TOi1 (hs₁.extBut _ _ D.TOz hTO);refine wpAny_bind (wpAny_seqItems hTO₂ rfl ?_);refine wpAny_bind (wpAny_updateSeq_pair hTO₂ λh₃ hTO₃ hs₃=>?_);replace hs₃:Heap.SameBut TO h₂ h₃:=hs₃;refine wpAny_bind (wpAny_letGo (wpAny_pure ?_));refine wpAny_bind (wpAny_bind (wpAny_onRaise ?_));show wpAny _ _ (Builtin.SmallTypes.nextOf (.ref i2) >>= _) _ _ _;subst hy;refine wpAny_bind (D2.done _ _ _ (e2 (e2 (e2 h2 hs₁.extBut z2) hs₂.extBut j2) hs₃.extBut t2) λh₄ e hs₄ he=>?_);obtain ⟨oe,hoe,hce⟩:=he;have hz₄:IsZip h₄ z TI TO .ellipsis:=hs₄ _ _ D.i2z.symm (hs₃.extBut _ _ D.TOz.symm (hs₂.extBut _ _ D.i1z.symm hz₁));have hez:e≠z:=λx=>by subst x;rw[hz₄]at hoe;cases hoe;simp at hce
 refine wpAny_setField_rec hz₄ (by simp) λh₅ _ hs₅=>hE h₅ tk₂ e (λc o c1 c2 c3 c4 x=>hs₅.extBut _ _ c1 (hs₄ _ _ c4 (hs₃.extBut _ _ c2 (hs₂.extBut _ _ c3 (hs₁.extBut _ _ c1 x))))) ⟨oe,hs₅.extBut _ _ hez hoe,hce⟩
end
def Jz(k l:SK):It:=⟨λi H=>∃vs ws,k.Sat H vs/\l.Sat H ws/\i < vs.length/\i < ws.length,
 λi H x H'=>∃T y z,H T=none/\x=.ref T/\H'=upd H T (.tup [y,z])/\(∀vs,k.Sat H vs->vs[i]?=some y)/\(∀ws,l.Sat H ws->ws[i]?=some z),
 λi H=>∃vs ws,k.Sat H vs/\l.Sat H ws/\(vs.length=i/\i<=ws.length\/i < vs.length/\ws.length=i)⟩
theorem X7{P:Program}{w:World}{K:PySem.W.Frag}{elts:List Expr}{x1:Nat}{pos:Pos}(k l:SK)(z TI TO i1 i2:Addr)(D:ZApart z TI TO i1 i2):
  Turn P w K (.Tuple elts x1 pos) (Jz k l) [z,TI,TO,i1,i2] z
   (λi h=>IsZip h z TI TO .none/\IsPair h TI (.ref i1) (.ref i2)/\(∃a b,IsPair h TO a b)/\k.pos i1 i h/\l.pos i2 i h) where
 mem:=by simp
 obj:=λi h st b hb=>by
  obtain ⟨hz,hTI,⟨a,c,hTO⟩,⟨o1,e1,_,d1⟩,⟨o2,e2,_,d2⟩⟩:=st;have hb':b=z\/b=TI\/b=TO\/b=i1\/b=i2:=by simpa using hb
  rcases hb' with rfl |rfl |rfl |rfl |rfl
  ·exact ⟨_,hz,λv q=>by have q':Data.fields _=Data.cell v:=q;cases q'⟩
  ·exact ⟨_,hTI,λv q=>by have q':Data.seq _ _=Data.cell v:=q;cases q'⟩
  ·exact ⟨_,hTO,λv q=>by have q':Data.seq _ _=Data.cell v:=q;cases q'⟩
  ·exact ⟨o1,e1,λv q=>by rw[d1]at q;cases q⟩
  ·exact ⟨o2,e2,λv q=>by rw[d2]at q;cases q⟩
 keep:=λi h h' st kk=>by
  obtain ⟨hz,hTI,⟨a,c,hTO⟩,p1,p2⟩:=st;exact ⟨kk z (by simp) _ hz,kk TI (by simp) _ hTI,⟨a,c,kk TO (by simp) _ hTO⟩,p1.keep λo e=>kk i1 (by simp) o e,p2.keep λo e=>kk i2 (by simp) o e⟩
 item:=by
  intro X hP hw hK hc i pins s σ H E I hf st hg;subst hP hw hK;obtain ⟨vs,ws,sat1,sat2,l1,l2⟩:=hg;obtain ⟨hz,hTI,⟨a,b,hTO⟩,h1,h2⟩:=st;have hT:s.TypeIs (.ref z) "zip":=⟨_,hz,rfl⟩;have fz:=hf z (by simp);have fTO:=hf TO (by simp);have fi1:=hf i1 (by simp);have fi2:=hf i2 (by simp);obtain ⟨fp1,P1,S1,Dr1⟩:=drawn (A:=X.A.in1) (I.ok.hd hc) I sat1 fi1.1 h1;obtain ⟨fp2,P2,S2,Dr2⟩:=drawn (A:=X.A.in1) (I.ok.hd hc) I sat2 fi2.1 h2;have no1:∀e,H e=none->e≠i1->∀c∈fp1,c≠e:=λe he hei c hc z=>by
   rcases Dr1.fp c hc with q |q
   ·exact hei (z.symm.trans q)
   ·have:=sat1.no he;cases k with
    |lst a=>injection q with q;exact this (q.trans z)
    |tup a=>injection q with q;exact this (q.trans z)
    |str _ _=>cases q
  have no2:∀e,H e=none->e≠i2->∀c∈fp2,c≠e:=λe he hei c hc z=>by
   rcases Dr2.fp c hc with q |q
   ·exact hei (z.symm.trans q)
   ·have:=sat2.no he;cases l with
    |lst a=>injection q with q;exact this (q.trans z)
    |tup a=>injection q with q;exact this (q.trans z)
    |str _ _=>cases q
  have f1:∀c∈fp1,c≠z/\c≠TO/\c≠i2:=λc hc=>⟨no1 z fz.1 D.i1z.symm c hc,no1 TO fTO.1 D.TOi1 c hc,no1 i2 fi2.1 D.i12.symm c hc⟩;have f2:∀c∈fp2,c≠z/\c≠TO/\c≠i1:=λc hc=>⟨no2 z fz.1 D.i2z.symm c hc,no2 TO fTO.1 D.TOi2 c hc,no2 i1 fi1.1 D.i12 c hc⟩;have ltz:z < s.heap.objs.size:=Heap.lt_size hz;have ltTI:TI < s.heap.objs.size:=Heap.lt_size hTI;have ltTO:TO < s.heap.objs.size:=Heap.lt_size hTO;have lti1:i1 < s.heap.objs.size:=by obtain ⟨_,e,_⟩:=h1;exact Heap.lt_size e
  have lti2:i2 < s.heap.objs.size:=by obtain ⟨_,e,_⟩:=h2;exact Heap.lt_size e
  unfold pyNext;refine wpAny_bind (wpAny_attempt (wpAny_callSpecial?_slot (name:=Str.ofString "__next__") hT F.slot_zip_next
   (wpAny_call_entry F.slot_zip_next hT F.entry_zip_next (X4 D Dr1.D Dr2.D f1 f2 hz hTI hTO Dr1.st Dr2.st l1 l2 λh' tk c d pc pd a1 a2 a3 a4 a5 a6 hk=>wpAny_pure ?_) (F.args_zip_next_1 _))))
  obtain ⟨y,hy,ry⟩:=Dr1.val _ _ pc;obtain ⟨y',hy',ry'⟩:=Dr2.val _ _ pd;refine ⟨_,rfl,?_⟩;refine wpAny_letOwnedTupleGo_zip a1 λh2' hz2 hs2=>?_;have hs2':Heap.SameBut z h' h2':=hs2;have hn:H s.heap.objs.size=none:=I.hok.fresh (Nat.le_refl _);have k2:∀b o,b∉[z,TI,TO,i1,i2]->s.heap.get? b=some o->h2'.get? b=some o:=λb o hb q=>by
   have hb':b≠z/\b≠TI/\b≠TO/\b≠i1/\b≠i2:=by simpa using hb
   exact hs2'.extBut b o hb'.1 (hk b o hb'.1 hb'.2.2.1 hb'.2.2.2.1 hb'.2.2.2.2 q)
  have I2:Inv X pins σ H { s with heap:=h2',toks:=tk }:=I.turnedL hf k2;have ht2:h2'.get? s.heap.objs.size=some { cls:=.type "tuple",data:=.seq #[c,d] }:=hs2'.extBut _ _ (Nat.ne_of_gt ltz) a5;have ob:ObjOk X.prog X.w (upd H s.heap.objs.size (.tup [y,y'])) h2' s.heap.objs.size (.tup [y,y']):=
   ⟨by rw[sizeLine_eq];simp,[c,d],.cons ry (.cons ry' .nil),⟨_,ht2,rfl,_,rfl⟩⟩
  have I3:=I2.track (I.fpOk (Nat.le_refl _) hn) ob;refine ⟨.ref s.heap.objs.size,_,I3,rfl,⟨s.heap.objs.size,y,y',hn,rfl,rfl,λus hu=>by rw[vL hu sat1];exact hy,λus hu=>by rw[vL hu sat2];exact hy'⟩,
   ⟨hz2,hs2'.extBut _ _ D.TIz (hk _ _ D.TIz D.TITO D.TIi1 D.TIi2 hTI),⟨_,_,hs2'.extBut _ _ D.TOz a2⟩,(Dr1.pos _ _ a3).keep λo e=>hs2'.extBut _ _ D.i1z e,(Dr2.pos _ _ a4).keep λo e=>hs2'.extBut _ _ D.i2z e⟩,λb hb=>?_⟩
  have hb':b=z\/b=TI\/b=TO\/b=i1\/b=i2:=by simpa using hb
  rw[aM (by rcases hb' with rfl |rfl |rfl |rfl |rfl <;> exact Nat.ne_of_lt ‹_›)];exact (hf b hb).1
 done:=by
  intro X hP hw hK hc i pins s σ H E I hf st hg;subst hP hw hK;obtain ⟨vs,ws,sat1,sat2,hend⟩:=hg;obtain ⟨hz,hTI,⟨a,b,hTO⟩,h1,h2⟩:=st;have hT:s.TypeIs (.ref z) "zip":=⟨_,hz,rfl⟩;have fz:=hf z (by simp);have fTO:=hf TO (by simp);have fi1:=hf i1 (by simp);have fi2:=hf i2 (by simp);obtain ⟨fp1,P1,S1,Dr1⟩:=drawn (A:=X.A.in1) (I.ok.hd hc) I sat1 fi1.1 h1;obtain ⟨fp2,P2,S2,Dr2⟩:=drawn (A:=X.A.in1) (I.ok.hd hc) I sat2 fi2.1 h2;have no1:∀e,H e=none->e≠i1->∀c∈fp1,c≠e:=λe he hei c hc z=>by
   rcases Dr1.fp c hc with q |q
   ·exact hei (z.symm.trans q)
   ·have:=sat1.no he;cases k with
    |lst a=>injection q with q;exact this (q.trans z)
    |tup a=>injection q with q;exact this (q.trans z)
    |str _ _=>cases q
  have no2:∀e,H e=none->e≠i2->∀c∈fp2,c≠e:=λe he hei c hc z=>by
   rcases Dr2.fp c hc with q |q
   ·exact hei (z.symm.trans q)
   ·have:=sat2.no he;cases l with
    |lst a=>injection q with q;exact this (q.trans z)
    |tup a=>injection q with q;exact this (q.trans z)
    |str _ _=>cases q
  have f1:∀c∈fp1,c≠z/\c≠TO/\c≠i2:=λc hc=>⟨no1 z fz.1 D.i1z.symm c hc,no1 TO fTO.1 D.TOi1 c hc,no1 i2 fi2.1 D.i12.symm c hc⟩;have f2:∀c∈fp2,c≠z/\c≠TO/\c≠i1:=λc hc=>⟨no2 z fz.1 D.i2z.symm c hc,no2 TO fTO.1 D.TOi2 c hc,no2 i1 fi1.1 D.i12 c hc⟩;have fin:∀(h':Heap)(tk:Nat)(e:Addr),(∀c o,c≠z->c≠TO->c≠i1->c≠i2->s.heap.get? c=some o->h'.get? c=some o)->Inv X pins σ H { s with heap:=h',toks:=tk }:=λh' tk e hk=>I.turnedL (t':=tk) hf λb o hb q=>by
   have hb':b≠z/\b≠TI/\b≠TO/\b≠i1/\b≠i2:=by simpa using hb
   exact hk b o hb'.1 hb'.2.2.1 hb'.2.2.2.1 hb'.2.2.2.2 q
  unfold pyNext;refine wpAny_bind (wpAny_attempt (wpAny_callSpecial?_slot (name:=Str.ofString "__next__") hT F.slot_zip_next
   (wpAny_call_entry F.slot_zip_next hT F.entry_zip_next ?_ (F.args_zip_next_1 _))))
  rcases hend with ⟨e1,_⟩ |⟨e1,e2⟩
  ·subst e1;refine X5 D Dr1.D (λc hc=>(f1 c hc).1) hz hTI hTO Dr1.st λh' e hk he=>?_;obtain ⟨o,ho,hc'⟩:=he;refine wpAny_bind (wpAny_isInstance (T:="StopIteration") (b:=true) ⟨o,ho,hc'⟩ isSubtype_stop ?_);exact wpAny_pure ⟨rfl,fin h' s.toks e hk⟩
  ·refine X6 D Dr1.D Dr2.D f1 f2 hz hTI hTO Dr1.st Dr2.st e1 e2.symm λh' tk e hk he=>?_;obtain ⟨o,ho,hc'⟩:=he;refine wpAny_bind (wpAny_isInstance (T:="StopIteration") (b:=true) ⟨o,ho,hc'⟩ isSubtype_stop ?_);exact wpAny_pure ⟨rfl,fin h' tk e hk⟩
 self:=λA i s Q E st h=>wpAny_pyIter_zip st.1 h
open Sem (wp)
open AutoSeq1 (wpAny_loadPart')
set_option maxRecDepth 100000
set_option maxHeartbeats 1000000 in
theorem X8(l:Addr)(items:Array Value)(n:Nat)(dct:Option Addr)(sl:Array (Option Value)):
  Meets (Builtin.«enumerate.__new__» ⟨[.type "enumerate",.ref l],[]⟩) (λ_ R s=>s.heap.get? l=some { cls:=.type "tuple",dict:=dct,data:=.seq items n,slots:=sl }/\
   R (.ok (.ret (.ref (s.heap.push { cls:=.type "tuple_iterator",data:=.fields #[.ref l,.int 0 0] }).objs.size)))
    { s with heap:=(s.heap.push { cls:=.type "tuple_iterator",data:=.fields #[.ref l,.int 0 0] }).push { cls:=.type "enumerate",data:=.fields #[.none,.bool false,.ref s.heap.objs.size,rawInt 0,.none,.none] } }):=
 .of_wp λprog w A R s h=>by
  obtain ⟨hp,g,d,tk,os⟩:=s;obtain ⟨hl,h⟩:=h;have hsub:=sub_enumerate;have hL:Heap.IsTuple (Shared.heap ⟨hp,g,d,tk,os⟩) l items:=⟨_,hl,rfl,n,rfl⟩;wp_walk using wpAny_loadPart' hl
  refine wpAny_stack_any λst=>wpAny_pure ?_;split
  ·rename_i c _ _ _ _ _;cases (c==Value.type "enumerate")
   ·wp_walk using wpAny_loadPart' hl,wpAny_pyIter_tuple hL
    exact ⟨_,rfl,h⟩
   ·wp_walk using wpAny_loadPart' hl,wpAny_pyIter_tuple hL
    exact ⟨_,rfl,h⟩
  ·wp_walk using wpAny_loadPart' hl,wpAny_pyIter_tuple hL
   exact ⟨_,rfl,h⟩
abbrev qX(h:Heap)(k:SK):Heap:=h.push k.obj
abbrev qY(h:Heap)(k l:SK):Heap:=(qX h k).push l.obj
abbrev qZ (h:Heap) (k l:SK):Heap:=(qY h k l).push { cls:=.type "tuple",data:=.seq #[.ref h.objs.size,.ref (qX h k).objs.size] }
abbrev q8 (h:Heap) (k l:SK):Heap:=(qZ h k l).push { cls:=.type "tuple",data:=.seq #[.none,.none] }
abbrev gG (h:Heap) (k l:SK):Heap:=(q8 h k l).push { cls:=.type "zip",data:=.fields #[.none,.bool false,.bool false,.ref (qY h k l).objs.size,.ref (qZ h k l).objs.size] }
theorem Yb(k l:SK)(xs ys:Array Value):
  Meets (Builtin.«zip.__new__» ⟨[.type "zip",k.val,l.val],[]⟩) (λ_ R s=>k.On xs s.heap/\l.On ys s.heap/\R (.ok (.ret (.ref (q8 s.heap k l).objs.size))) { s with heap:=gG s.heap k l }):=
 .of_wp λprog w A R s h=>by
  obtain ⟨hp,g,d,tk,os⟩:=s;obtain ⟨h1,h2,h⟩:=h;have hsub:=sub_zip;have h1':k.On xs (Shared.heap ⟨hp,g,d,tk,os⟩):=h1;have h2':l.On ys (Shared.heap ⟨hp.push k.obj,g,d,tk,os⟩):=SK.On.keeps h2 λb o _ e=>Heap.get?_push_of_some _ e;wp_walk using SK.iter h1',SK.iter h2'
  exact ⟨_,rfl,h⟩
section
variable {prog:Program} {w:World} {A:Around} {E:Value->Shared->Prop} {s:Shared}
theorem Yc{k l:SK}{xs ys:Array Value}{Q:Value->Shared->Prop}(h1:k.On xs s.heap)(h2:l.On ys s.heap)
  (h:∀h',IsZip h' (s.heap.objs.size+4) (s.heap.objs.size+2) (s.heap.objs.size+3) .none->IsPair h' (s.heap.objs.size+2) (.ref s.heap.objs.size) (.ref (s.heap.objs.size+1))->
   IsPair h' (s.heap.objs.size+3) .none .none->k.pos s.heap.objs.size 0 h'->l.pos (s.heap.objs.size+1) 0 h'->h'.objs.size=s.heap.objs.size+5->
   (∀c o,s.heap.get? c=some o->h'.get? c=some o)->Q (.ref (s.heap.objs.size+4)) { s with heap:=h' }):
  wpAny (model prog w) A (call (.type "zip") [k.val,l.val]) Q E s:=by
 refine callType_new F.called_zip (by decide) (F.typeCall_zip_2 _ _) (F.newCall_zip_2 _ _) (λobj=>F.args_object_init_3 obj _ _) F.entry_zip_new
  (Yb k l xs ys) ⟨h1,h2,?_⟩
 have z1:(qX s.heap k).objs.size=s.heap.objs.size+1:=Heap.size_push ..;have z2:(qY s.heap k l).objs.size=s.heap.objs.size+2:=by rw[Heap.size_push,z1]
 have z3:(qZ s.heap k l).objs.size=s.heap.objs.size+3:=by rw[Heap.size_push,z2]
 have z4:(q8 s.heap k l).objs.size=s.heap.objs.size+4:=by rw[Heap.size_push,z3]
 have z5:(gG s.heap k l).objs.size=s.heap.objs.size+5:=by rw[Heap.size_push,z4]
 have g5:(gG s.heap k l).get? (q8 s.heap k l).objs.size=some _:=Heap.get?_push_size _ rfl;have g4:(gG s.heap k l).get? (qZ s.heap k l).objs.size=some _:=Heap.get?_push_of_some _ (Heap.get?_push_size _ rfl);have g3:(gG s.heap k l).get? (qY s.heap k l).objs.size=some _:=Heap.get?_push_of_some _ (Heap.get?_push_of_some _ (Heap.get?_push_size _ rfl));have g2:(gG s.heap k l).get? (qX s.heap k).objs.size=some _:=Heap.get?_push_of_some _ (Heap.get?_push_of_some _ (Heap.get?_push_of_some _ (Heap.get?_push_size _ rfl)));have g1:(gG s.heap k l).get? s.heap.objs.size=some _:=Heap.get?_push_of_some _ (Heap.get?_push_of_some _ (Heap.get?_push_of_some _ (Heap.get?_push_of_some _ (Heap.get?_push_size _ rfl))));show _/\_;rw[z2,z3,z4]at g5;rw[z1,z2]at g3;rw[z3]at g4;rw[z1]at g2;rw[z4];exact ⟨⟨_,g5,rfl⟩,h _ g5 g3 g4 ⟨_,g1,rfl,rfl⟩ ⟨_,g2,rfl,rfl⟩ z5 λc o x=>
  Heap.get?_push_of_some _ (Heap.get?_push_of_some _ (Heap.get?_push_of_some _ (Heap.get?_push_of_some _ (Heap.get?_push_of_some _ x))))⟩
theorem Yd{l:Addr}{items:Array Value}{Q:Value->Shared->Prop}(hL:s.heap.IsTuple l items)
  (h:∀h',IsEnum h' (s.heap.objs.size+1) s.heap.objs.size 0 .none->h'.IsTupleIter s.heap.objs.size l 0->h'.objs.size=s.heap.objs.size+2->
   (∀b o,s.heap.get? b=some o->h'.get? b=some o)->Q (.ref (s.heap.objs.size+1)) { s with heap:=h' }):
  wpAny (model prog w) A (call (.type "enumerate") [.ref l]) Q E s:=by
 obtain ⟨⟨c,dct,dt,sl⟩,hl,hc,n,hd⟩:=hL;replace hc:c=.type "tuple":=hc;replace hd:dt=.seq items n:=hd;subst hc hd;refine callType_new F.called_enumerate (by decide) (F.typeCall_enumerate_1 _) (F.newCall_enumerate_1 _) (λobj=>F.args_object_init_2 obj _) F.entry_enumerate_new
  (X8 l items n dct sl) ⟨hl,?_⟩
 have hz:(s.heap.push { cls:=.type "tuple_iterator",data:=.fields #[.ref l,.int 0 0] }).objs.size=s.heap.objs.size+1:=Heap.size_push ..;show _/\_;rw[hz];have he:IsEnum ((s.heap.push { cls:=.type "tuple_iterator",data:=.fields #[.ref l,.int 0 0] }).push
   { cls:=.type "enumerate",data:=.fields #[.none,.bool false,.ref s.heap.objs.size,rawInt 0,.none,.none] }) (s.heap.objs.size+1) s.heap.objs.size 0 .none:=by
  have:=Heap.get?_push_size (s.heap.push { cls:=.type "tuple_iterator",data:=.fields #[.ref l,.int 0 0] })
   (o:={ cls:=.type "enumerate",data:=.fields #[.none,.bool false,.ref s.heap.objs.size,rawInt 0,.none,.none] }) rfl
  rw[hz]at this;exact this
 refine ⟨⟨_,he,rfl⟩,h _ he ⟨_,Heap.get?_push_of_some _ (Heap.get?_push_size _ rfl),rfl,rfl⟩ (by rw[Heap.size_push,hz]) λb o x=>Heap.get?_push_of_some _ (Heap.get?_push_of_some _ x)⟩
theorem Ye{k:SK}{xs:Array Value}{Q:Value->Shared->Prop}(h1:k.On xs s.heap)
  (h:∀h',IsEnum h' (s.heap.objs.size+1) s.heap.objs.size 0 .none->k.pos s.heap.objs.size 0 h'->h'.objs.size=s.heap.objs.size+2->
   (∀b o,s.heap.get? b=some o->h'.get? b=some o)->Q (.ref (s.heap.objs.size+1)) { s with heap:=h' }):
  wpAny (model prog w) A (call (.type "enumerate") [k.val]) Q E s:=by
 cases k with
 |lst a=>exact call_enumerate_list h1 h
 |tup a=>exact Yd h1 h
 |str x t=>exact call_enumerate_str h
end
structure CT where
 N:List Str
 kd:List (Str×NameKind)
 fn:Bool
 fs:List (String×Nat)
 bt:List String
 cn:List (String×D)
 xs:List (String×Bool):=[]
def gH:Option NameKind->Bool
 |some .local=>true
 |some .cell=>true
 |some .free=>true
 |_=>false
def CT.sto(c:CT)(x:Str):Bool:=c.kd.lookup x==some .local||(c.fn&&c.kd.lookup x==some .cell)
def okN (x:Str):Bool:=!(x==("__debug__":Str))&&!(x==("__classdict__":Str))&&!(x==("__name__":Str))
def CT.glo(c:CT)(x:Str):Bool:=c.kd.lookup x==some .globalImplicit&&okN x
def sEq:D->D->Bool
 |.non,.non=>true
 |.bl a,.bl b=>a==b
 |.int a,.int b=>a==b
 |.str a,.str b=>a==b
 |_,_=>false
theorem Yg{a b:D}(h:sEq a b=true):a=b:=by cases a <;> cases b <;> simp_all [sEq]
def q9(d:D)(k:Const):Bool:=
 match d,k with
 |.non,.none=>true
 |.bl a,.bool b=>a==b
 |.int a,.int b=>a==b
 |.str a,.str b=>a==b.cps.toList&&decide (a.length<=sz)
 |_,_=>false
def Bf.name:Bf->String
 |.len=>"len"
 |.all=>"all"
 |.int=>"int"
 |.tuple=>"tuple"
 |.sum=>"sum"
 |.min=>"min"
 |.max=>"max"
 |.str=>"str"
def vM:Bf->Bool
 |.sum=>false
 |.min=>true
 |.max=>false
 |.str=>true
 |_=>true
def vN:Lf->Bool
 |.sorted=>true
 |_=>true
def Lf.name:Lf->String
 |.list=>"list"
 |.sorted=>"sorted"
def Mf.name:Mf->String
 |.join=>"join"
 |.append=>"append"
 |.extend=>"extend"
 |.insert=>"insert"
 |.pop=>"pop"
 |.count=>"count"
 |.index=>"index"
def rm:Expr->Bool
 |.Call (.Name _ _) [] [] _=>true
 |_=>false
def cY:Expr->Bool
 |.ListComp ..=>true
 |.SetComp ..=>true
 |.DictComp ..=>true
 |_=>false
def gJ:Expr->Bool
 |.UnaryOp .Not _ _=>false
 |.BoolOp ..=>false
 |.IfExp ..=>false
 |.Compare ..=>false
 |_=>true
def fO(N:List Str)(scope:Scope):List Str->List (Option Nat)->Bool
 |[],[]=>true
 |_::N',none::cap=>fO N scope N' cap
 |x::N',some j::cap=>(N[j]?==some x)&&(scope.names.lookup x==some NameKind.free)&&fO N scope N' cap
 |_,_=>false
def iM(c:CT)(scope:Scope):Bool:=
 scope.names.all (λy=>y.2 != NameKind.cell)&&scope.names.all (λy=>y.2 != NameKind.local||scope.names.lookup y.1==some NameKind.local) &&
 scope.names.all (λy=>y.2 != NameKind.free||(c.kd.lookup y.1==some NameKind.cell||c.kd.lookup y.1==some NameKind.free))&&decide (scope.kind=.function)&&decide (c.kd=c.kd)
def CT.comp(c:CT)(N:List Str)(scope:Scope):CT:={ N:=N,kd:=scope.names,fn:=false,fs:=c.fs,bt:=c.bt,cn:=c.cn }
def d7:List Str->Bool
 |[]=>true
 |x::r=>!r.contains x&&d7 r
def asName(e:Expr):Option { t:Str×Pos // e=.Name t.1 t.2 }:=match e with
 |.Name a0 a1=>some ⟨(a0,a1),rfl⟩
 |_=>none
def rn(e:Expr):Option { t:Const×Nat×Pos // e=.Constant t.1 t.2.1 t.2.2 }:=match e with
 |.Constant a0 a1 a2=>some ⟨(a0,a1,a2),rfl⟩
 |_=>none
def Br(e:Expr):Option { t:Expr×Operator×Expr×Pos // e=.BinOp t.1 t.2.1 t.2.2.1 t.2.2.2 }:=match e with
 |.BinOp a0 a1 a2 a3=>some ⟨(a0,a1,a2,a3),rfl⟩
 |_=>none
def iQ(e:Expr):Option { t:UnaryOp×Expr×Pos // e=.UnaryOp t.1 t.2.1 t.2.2 }:=match e with
 |.UnaryOp a0 a1 a2=>some ⟨(a0,a1,a2),rfl⟩
 |_=>none
def jE(e:Expr):Option { t:Expr×List CmpOp×List Expr×Pos // e=.Compare t.1 t.2.1 t.2.2.1 t.2.2.2 }:=match e with
 |.Compare a0 a1 a2 a3=>some ⟨(a0,a1,a2,a3),rfl⟩
 |_=>none
def rz(e:Expr):Option { t:BoolOp×List Expr×Pos // e=.BoolOp t.1 t.2.1 t.2.2 }:=match e with
 |.BoolOp a0 a1 a2=>some ⟨(a0,a1,a2),rfl⟩
 |_=>none
def Bt(e:Expr):Option { t:Expr×Expr×Expr×Pos // e=.IfExp t.1 t.2.1 t.2.2.1 t.2.2.2 }:=match e with
 |.IfExp a0 a1 a2 a3=>some ⟨(a0,a1,a2,a3),rfl⟩
 |_=>none
def fP(e:Expr):Option { t:List Expr×Nat×Pos // e=.Tuple t.1 t.2.1 t.2.2 }:=match e with
 |.Tuple a0 a1 a2=>some ⟨(a0,a1,a2),rfl⟩
 |_=>none
def asList(e:Expr):Option { t:List Expr×Pos // e=.List t.1 t.2 }:=match e with
 |.List a0 a1=>some ⟨(a0,a1),rfl⟩
 |_=>none
def fQ(e:Expr):Option { t:Expr×Expr×Pos // e=.Subscript t.1 t.2.1 t.2.2 }:=match e with
 |.Subscript a0 a1 a2=>some ⟨(a0,a1,a2),rfl⟩
 |_=>none
def rA(e:Expr):Option { t:Option Expr×Option Expr×Option Expr×Pos // e=.Slice t.1 t.2.1 t.2.2.1 t.2.2.2 }:=match e with
 |.Slice a0 a1 a2 a3=>some ⟨(a0,a1,a2,a3),rfl⟩
 |_=>none
def vO(e:Expr):Option { t:Expr×List Expr×List Keyword×Pos // e=.Call t.1 t.2.1 t.2.2.1 t.2.2.2 }:=match e with
 |.Call a0 a1 a2 a3=>some ⟨(a0,a1,a2,a3),rfl⟩
 |_=>none
def Bu(e:Expr):Option { t:Expr×Str×Pos // e=.Attribute t.1 t.2.1 t.2.2 }:=match e with
 |.Attribute a0 a1 a2=>some ⟨(a0,a1,a2),rfl⟩
 |_=>none
def Bv(e:Expr):Option { t:Expr×List Comprehension×Scope×Pos // e=.ListComp t.1 t.2.1 t.2.2.1 t.2.2.2 }:=match e with
 |.ListComp a0 a1 a2 a3=>some ⟨(a0,a1,a2,a3),rfl⟩
 |_=>none
def vP(e:Stmt):Option { t:Expr×Pos // e=.Expr t.1 t.2 }:=match e with
 |.Expr a0 a1=>some ⟨(a0,a1),rfl⟩
 |_=>none
def jF(e:Stmt):Option { t:List Expr×Expr×Pos // e=.Assign t.1 t.2.1 t.2.2 }:=match e with
 |.Assign a0 a1 a2=>some ⟨(a0,a1,a2),rfl⟩
 |_=>none
def Bw(e:Stmt):Option { t:Expr×Operator×Expr×Pos // e=.AugAssign t.1 t.2.1 t.2.2.1 t.2.2.2 }:=match e with
 |.AugAssign a0 a1 a2 a3=>some ⟨(a0,a1,a2,a3),rfl⟩
 |_=>none
def Bx(e:Stmt):Option { t:Option Expr×Option Expr×Pos // e=.Raise t.1 t.2.1 t.2.2 }:=match e with
 |.Raise a0 a1 a2=>some ⟨(a0,a1,a2),rfl⟩
 |_=>none
def agb(e:Stmt):Option { t:List Stmt×List ExceptHandler×List Stmt×List Stmt×Pos // e=.Try t.1 t.2.1 t.2.2.1 t.2.2.2.1 t.2.2.2.2 }:=match e with
 |.Try a0 a1 a2 a3 a4=>some ⟨(a0,a1,a2,a3,a4),rfl⟩
 |_=>none
def agc(e:ExceptHandler):Option { t:Option Expr×Option Str×List Stmt×Pos // e=.ExceptHandler t.1 t.2.1 t.2.2.1 t.2.2.2 }:=match e with
 |.ExceptHandler a0 a1 a2 a3=>some ⟨(a0,a1,a2,a3),rfl⟩
def vQ(e:Expr):Option { t:Expr×Int×Option Expr×Pos // e=.FormattedValue t.1 t.2.1 t.2.2.1 t.2.2.2 }:=match e with
 |.FormattedValue a0 a1 a2 a3=>some ⟨(a0,a1,a2,a3),rfl⟩
 |_=>none
def Yh(e:Expr):Option { t:List Expr×Pos // e=.JoinedStr t.1 t.2 }:=match e with
 |.JoinedStr a0 a1=>some ⟨(a0,a1),rfl⟩
 |_=>none
def Yi(k:Const):Option { x:Str // k=.str x }:=match k with
 |.str x=>some ⟨x,rfl⟩
 |_=>none
def agd(b:Bool)(k:Const):Bool:=match k with
 |.bool c=>c==b
 |_=>false
def rB(e:Stmt):Option { t:Option Expr×Pos // e=.Return t.1 t.2 }:=match e with
 |.Return a0 a1=>some ⟨(a0,a1),rfl⟩
 |_=>none
def vR(e:Stmt):Option { t:Expr×List Stmt×List Stmt×Pos // e=.If t.1 t.2.1 t.2.2.1 t.2.2.2 }:=match e with
 |.If a0 a1 a2 a3=>some ⟨(a0,a1,a2,a3),rfl⟩
 |_=>none
def By(e:Stmt):Option { t:Expr×Expr×List Stmt×List Stmt×Pos // e=.For t.1 t.2.1 t.2.2.1 t.2.2.2.1 t.2.2.2.2 }:=match e with
 |.For a0 a1 a2 a3 a4=>some ⟨(a0,a1,a2,a3,a4),rfl⟩
 |_=>none
def age(e:Stmt):Option { t:Expr×List Stmt×List Stmt×Pos // e=.While t.1 t.2.1 t.2.2.1 t.2.2.2 }:=match e with
 |.While a0 a1 a2 a3=>some ⟨(a0,a1,a2,a3),rfl⟩
 |_=>none
def BJ(e:Stmt):Option { t:Pos // e=.Pass t }:=match e with
 |.Pass a0=>some ⟨a0,rfl⟩
 |_=>none
def BK(e:Stmt):Option { t:Pos // e=.Break t }:=match e with
 |.Break a0=>some ⟨a0,rfl⟩
 |_=>none
def BL(e:Stmt):Option { t:Pos // e=.Continue t }:=match e with
 |.Continue a0=>some ⟨a0,rfl⟩
 |_=>none
def one{α:Type}:List α->Option α
 |[a]=>some a
 |_=>none
def three{α:Type}:List α->Option (α×α×α)
 |[x,y,z]=>some (x,y,z)
 |_=>none
theorem agf{α:Type}{l:List α}{v:α×α×α}(h:three l=some v):l=[v.1,v.2.1,v.2.2]:=by
 unfold three at h;split at h
 ·cases h;rfl
 ·cases h
def two{α:Type}:List α->Option (α×α)
 |[a,b]=>some (a,b)
 |_=>none
def hdT{α:Type}:List α->Option (α×List α)
 |a::r=>some (a,r)
 |[]=>none
theorem cZ{α:Type}{l:List α}{a:α}(h:one l=some a):l=[a]:=by
 cases l with
 |nil=>cases h
 |cons x r=>cases r with
  |nil=>cases h;rfl
  |cons _ _=>cases h
theorem rD{α:Type}{l:List α}{a:α×α}(h:two l=some a):l=[a.1,a.2]:=by
 cases l with
 |nil=>cases h
 |cons x r=>cases r with
  |nil=>cases h
  |cons y r=>cases r with
   |nil=>cases h;rfl
   |cons _ _=>cases h
theorem BP{α:Type}{l:List α}{a:α×List α}(h:hdT l=some a):l=a.1::a.2:=by
 cases l with
 |nil=>cases h
 |cons x r=>cases h;rfl
theorem aQ{α:Type}{o:Option α}{p:α->Bool}(h:o.any p=true):∃t,o=some t/\p t=true:=by
 cases o with
 |none=>cases h
 |some t=>exact ⟨t,rfl,h⟩
def vU:UnaryOp->Bool
 |.USub=>true
 |_=>false
def jG:UnaryOp->Bool
 |.Not=>true
 |_=>false
theorem Yj{o:UnaryOp}(h:vU o=true):o=.USub:=by cases o <;> first |rfl |cases h
theorem BR{o:UnaryOp}(h:jG o=true):o=.Not:=by cases o <;> first |rfl |cases h
def bj(e:Expr):Option (Str×Pos×List Expr×Pos):=(vO e).bind λt=>(asName t.1.1).bind λn=>match t.1.2.2.1 with |[]=>some (n.1.1,n.1.2,t.1.2.1,t.1.2.2.2) |_::_=>none
def az{α:Type}{q:α->Prop}(o:Option { t:α // q t })(P:α->Bool):Bool:=match o with |some t=>P t.1 |none=>false
theorem aL{α:Type}{q:α->Prop}{o:Option { t:α // q t }}{P:α->Bool}(h:az o P=true):∃t,q t/\P t=true:=by
 cases o with
 |none=>cases h
 |some t=>exact ⟨t.1,t.2,h⟩
theorem BV{α β:Type}{o:Option α}{f:α->Option β}{b:β}(h:o.bind f=some b):∃t,o=some t/\f t=some b:=by
 cases o with
 |none=>cases h
 |some t=>exact ⟨t,rfl,h⟩
theorem dq{e:Expr}{t:Str×Pos×List Expr×Pos}(h:bj e=some t):e=.Call (.Name t.1 t.2.1) t.2.2.1 [] t.2.2.2:=by
 obtain ⟨⟨⟨f,as,ks,p⟩,hu⟩,_,h⟩:=BV h;obtain ⟨⟨⟨x,p'⟩,hn⟩,_,h⟩:=BV h;dsimp only at h hn hu;cases ks with
 |nil=>cases h;rw[hu,hn]
 |cons _ _=>cases h
def jH(e:Expr):Bool:=(jE e).isSome
def BW:Ex->Bool
 |.frz _=>false
 |_=>true
def vV:Tx->Bool
 |.yes=>true
 |_=>false
mutual
def cH(c:CT):Tg->Expr->Bool
 |.nm i,e=>az (asName e) λt=>(c.N[i]?==some t.1)&&c.sto t.1
 |.tp ts,e=>az (fP e) λt=>cA c ts t.1
def cA(c:CT):Tgs->List Expr->Bool
 |.nil,es=>es.isEmpty
 |.cons t r,es=>match es with
  |e::es=>cH c t e&&cA c r es
  |[]=>false
end
def vW(e:Expr):Bool:=az (rn e) λt=>az (Yi t.1) λx=>decide (x.length<=1000)
def unF(e:Expr):Expr:=match vQ e with |some t=>t.1.1 |none=>e
def Yk:Ex->Bool
 |.cst (.str _)=>true
 |_=>false
def Yl:Exs->List Expr->Bool
 |.cons x xs,p::ps=>(match vQ p with |some t=>decide (t.1.2.1=-1)&&t.1.2.2.1.isNone |none=>Yk x)&&Yl xs ps
 |.nil,ps=>ps.isEmpty
 |_,[]=>false
mutual
def aj(c:CT):Ex->Expr->Bool
 |.var i,e=>az (asName e) λt=>(c.N[i]?==some t.1)&&gH (c.kd.lookup t.1)&&okN t.1
 |.cst d,e=>az (rn e) λt=>q9 d t.1
 |.glb x d,e=>az (asName e) λt=>t.1==Str.ofString x&&c.glo t.1&&c.cn.any (λp=>p.1==x&&sEq p.2 d)
 |.bin op _ a b,e=>az (Br e) λt=>t.2.1==op&&aj c a t.1&&aj c b t.2.2.1
 |.neg a,e=>az (iQ e) λt=>vU t.1&&aj c a t.2.1
 |.cmp op a b,e=>az (jE e) λt=>(one t.2.1).any λo=>(one t.2.2.1).any λr=>o==op&&aj c a t.1&&aj c b r
 |.chn op op' a b d,e=>az (jE e) λt=>(two t.2.1).any λo=>(two t.2.2.1).any λr=>o.1==op&&o.2==op'&&aj c a t.1&&aj c b r.1&&aj c d r.2
 |.not a,e=>az (iQ e) λt=>jG t.1&&aj c a t.2.1
 |.boo isAnd x es,e=>az (rz e) λt=>(hdT t.2.1).any λv=>t.1==(if isAnd then .And else .Or)&&aj c x v.1&&aJ c es v.2
 |.ife t a b,e=>az (Bt e) λu=>bB c t u.1&&aj c a u.2.1&&aj c b u.2.2.1
 |.tup es,e=>az (fP e) λt=>aJ c es t.1
 |.lst _ es,e=>az (asList e) λt=>aJ c es t.1
 |.idx a i,e=>az (fQ e) λt=>aj c a t.1&&aj c i t.2.1
 |.slc _ a lo hi,e=>az (fQ e) λt=>az (rA t.2.1) λs=>s.2.2.1.isNone&&(aj c a t.1&&fj c lo s.1&&fj c hi s.2.1)
 |.rvs _ a s,e=>az (fQ e) λt=>az (rA t.2.1) λu=>u.1.isNone&&u.2.1.isNone&&(u.2.2.1.any λst=>aj c a t.1&&aj c s st)
 |.call f es,e=>(bj e).any λt=>t.1==Str.ofString f&&c.glo t.1&&(c.fs.any λp=>p.1==f&&p.2==t.2.2.1.length)&&!t.2.2.1.isEmpty&&aJ c es t.2.2.1
 |.bcl f es,e=>(bj e).any λt=>t.1==Str.ofString f.name&&vM f&&c.glo t.1&&c.bt.contains f.name&&!t.2.2.1.isEmpty&&aJ c es t.2.2.1
 |.lcl _ f es,e=>(bj e).any λt=>t.1==Str.ofString f.name&&vN f&&c.glo t.1&&c.bt.contains f.name&&!t.2.2.1.isEmpty&&aJ c es t.2.2.1
 |.isi a t,e=>(bj e).any λu=>(two u.2.2.1).any λv=>az (asName v.2) λy=>u.1==Str.ofString "isinstance"&&c.glo u.1&&c.bt.contains "isinstance"&&aj c a v.1&&y.1==Str.ofString t&&c.glo y.1&&c.bt.contains t&&eX t
 |.isx _ _ _,_=>false
 |.fst _,_=>false
 |.rgl _ a,e=>(bj e).any λt=>(one t.2.2.1).any λe1=>(bj e1).any λu=>(one u.2.2.1).any λe2=>t.1==Str.ofString "list"&&c.glo t.1&&c.bt.contains "list"&&u.1==Str.ofString "range"&&c.glo u.1&&c.bt.contains "range"&&aj c a e2
 |.rgt a,e=>(bj e).any λt=>(one t.2.2.1).any λe1=>(bj e1).any λu=>(one u.2.2.1).any λe2=>t.1==Str.ofString "tuple"&&c.glo t.1&&c.bt.contains "tuple"&&u.1==Str.ofString "range"&&c.glo u.1&&c.bt.contains "range"&&aj c a e2
 |.rpl _ _ _ _,_=>false
 |.mth m o es,e=>az (vO e) λt=>az (Bu t.1) λv=>t.2.2.1.isEmpty&&(v.2.1==Str.ofString m.name&&aj c o v.1&&!rm v.1&&(v.2.2.endLine==t.2.2.2.line)&&decide (t.2.1.length < 29)&&!t.2.1.isEmpty&&aJ c es t.2.1)
 |.comp _ elt tg it cond N cap,e=>az (Bv e) λt=>(one t.2.1).any λg=>decide (g.is_async=0)&&bV c it g.target g.iter&&fO c.N t.2.2.1 (N.map Str.ofString) cap&&iM c t.2.2.1&&d7 (N.map Str.ofString) &&
    cH (c.comp (N.map Str.ofString) t.2.2.1) tg g.target&&((vV cond&&g.ifs.isEmpty)||(one g.ifs).any λf=>bB (c.comp (N.map Str.ofString) t.2.2.1) cond f)&&aj (c.comp (N.map Str.ofString) t.2.2.1) elt t.1
 |.frz a,e=>aj c a e
def bB(c:CT):Tx->Expr->Bool
 |.val x,e=>(gJ e||jH e)&&aj c x e&&BW x
 |.not t,e=>az (iQ e) λu=>jG u.1&&bB c t u.2.1
 |.boo isAnd t ts,e=>az (rz e) λu=>(hdT u.2.1).any λv=>u.1==(if isAnd then .And else .Or)&&bB c t v.1&&gK c ts v.2
 |.yes,_=>false
def gK(c:CT):Txs->List Expr->Bool
 |.nil,es=>es.isEmpty
 |.cons t r,es=>match es with
  |e::es=>bB c t e&&gK c r es
  |[]=>false
def aJ(c:CT):Exs->List Expr->Bool
 |.nil,es=>es.isEmpty
 |.cons t r,es=>match es with
  |e::es=>aj c t e&&aJ c r es
  |[]=>false
def fj(c:CT):Ox->Option Expr->Bool
 |.no,e=>e.isNone
 |.ob x,e=>match e with
  |some e=>aj c x e
  |none=>false
def bV(c:CT):It'->Expr->Expr->Bool
 |.seq x,_,e=>aj c x e
 |.rng a,_,e=>(bj e).any λt=>(one t.2.2.1).any λv=>t.1==Str.ofString "range"&&c.glo t.1&&c.bt.contains "range"&&aj c a v
 |.rng2 _ _,_,_=>false
 |.rev _,_,_=>false
 |.dwn _ _ _,_,_=>false
 |.enm a,tg,e=>az (fP tg) λ_=>(bj e).any λt=>(one t.2.2.1).any λv=>t.1==Str.ofString "enumerate"&&c.glo t.1&&c.bt.contains "enumerate"&&aj c a v
 |.zip a b,tg,e=>az (fP tg) λ_=>(bj e).any λt=>(two t.2.2.1).any λv=>t.1==Str.ofString "zip"&&c.glo t.1&&c.bt.contains "zip"&&aj c a v.1&&aj c b v.2
end
def jJ(c:CT)(cond:Tx)(ifs:List Expr):Bool:=(vV cond&&ifs.isEmpty)||(one ifs).any λf=>bB c cond f
def BX:Ex->Bool
 |.comp ..=>true
 |_=>false
def BZ:Expr->Bool
 |.Tuple ..=>true
 |_=>false
def vX(g:Tg)(x:Ex)(e:Expr):Bool:=match g with |.nm _=>!cY e||BX x |.tp _=>!BZ e&&!cY e
def jK(c:CT):Exs->List Expr->Bool
 |es,[]=>(match es with |.nil=>true |_=>false)
 |es,p::ps=>match vW p with
  |true=>jK c es ps
  |false=>(match es with |.cons x r=>(az (vQ p) λt=>decide (t.2.1=-1)&&t.2.2.1.isNone&&aj c x t.1)&&jK c r ps |.nil=>false)
def rE(c:CT)(es:Exs)(e:Expr):Bool:=(match es with |.nil=>vW e |_=>false)||az (Yh e) λt=>decide (2<=t.1.length)&&decide (t.1.length<=50)&&jK c es t.1
def Ca(c:CT):Tb->List Stmt->Bool
 |.call f es,sts=>(one sts).any λs0=>az (vP s0) λe0=>(bj e0.1).any λu=>(u.1==Str.ofString f&&c.glo u.1&&(c.fs.any λp=>p.1==f&&p.2==u.2.2.1.length)&&!u.2.2.1.isEmpty&&aJ c es u.2.2.1)
 |.pick _ _ _ _,_=>false
 |.asg i f es,sts=>(one sts).any λs0=>az (jF s0) λa=>(one a.1).any λtg=>az (asName tg) λy=>(bj a.2.1).any λu=>(c.N[i]?==some y.1&&c.sto y.1&&okN y.1)&&(u.1==Str.ofString f&&c.glo u.1&&(c.fs.any λp=>p.1==f&&p.2==u.2.2.1.length)&&!u.2.2.1.isEmpty&&aJ c es u.2.2.1)
 |.ite t a b,sts=>(one sts).any λs0=>az (vR s0) λu=>bB c t u.1&&Ca c a u.2.1&&Ca c b u.2.2.1
def Ym(b:Bool):Const->Bool
 |.bool x=>x==b
 |_=>false
def agg(c:CT)(h:Hd)(nm:Option Str)(y:Str)(e:Expr):Bool:=(match h with
 |.flag i b=>nm.isNone&&(c.N[i]?==some y)&&az (rn e) λk=>Ym b k.1
 |.bind n i=>nm.any λx=>(c.N[i]?==some y)&&(c.N[n]?==some x)&&(c.kd.lookup x==some .local)&&okN x&&az (asName e) λz=>z.1==x)&&c.sto y&&okN y
mutual
def bh(c:CT):Sx->Stmt->Bool
 |.exp x,st=>az (vP st) λt=>!cY t.1&&aj c x t.1
 |.asg g x,st=>az (jF st) λt=>(one t.1).any λtg=>cH c g tg&&aj c x t.2.1&&vX g x t.2.1
 |.set o i x,st=>az (jF st) λt=>(one t.1).any λtg=>az (fQ tg) λu=>aj c o u.1&&aj c i u.2.1&&aj c x t.2.1&&!cY t.2.1
 |.aug i op x,st=>az (Bw st) λt=>az (asName t.1) λy=>t.2.1==op&&(c.N[i]?==some y.1)&&c.sto y.1&&okN y.1&&aj c x t.2.2.1
 |.augs _ _ _ _,_=>false
 |.ret x,st=>az (rB st) λt=>t.1.any λe=>aj c x e
 |.rtn,st=>az (rB st) λt=>t.1.isNone
 |.ite t a b,st=>az (vR st) λu=>bB c t u.1&&aB c a u.2.1&&aB c b u.2.2.1
 |.for_ g it b,st=>az (By st) λt=>t.2.2.2.1.isEmpty&&(cH c g t.1&&bV c it t.1 t.2.1&&aB c b t.2.2.1)
 |.whl _ _,_=>false
 |.pas,st=>(BJ st).isSome
 |.brk,st=>(BK st).isSome
 |.cnt,st=>(BL st).isSome
 |.nev,_=>true
 |.rse C es,st=>az (Bx st) λt=>t.2.1.isNone&&t.1.any λe=>(bj e).any λu=>u.1==Str.ofString C&&c.glo u.1&&c.xs.contains (C,true)&&(one u.2.2.1).any λm=>rE c es m
 |.tryc _ _ _ _ _,_=>false
 |.tryx _ _ _ _,_=>false
def aB(c:CT):Sxs->List Stmt->Bool
 |.nil,es=>es.isEmpty
 |.cons t r,es=>match es with
  |e::es=>bh c t e&&aB c r es
  |[]=>false
end
theorem vY{c:CT}{i:Nat}{e:Expr}(h:cH c (.nm i) e=true):∃x p,e=.Name x p/\((c.N[i]?==some x)&&c.sto x)=true:=by have h:(az (asName e) λt=>(c.N[i]?==some t.1)&&c.sto t.1)=true:=h;obtain ⟨t,ht,h⟩:=aL h;exact ⟨_,_,ht,h⟩
theorem vZ{c:CT}{ts:Tgs}{e:Expr}(h:cH c (.tp ts) e=true):∃es k p,e=.Tuple es k p/\(cA c ts es)=true:=by have h:(az (fP e) λt=>cA c ts t.1)=true:=h;obtain ⟨t,ht,h⟩:=aL h;exact ⟨_,_,_,ht,h⟩
theorem Cd{c:CT}{i:Nat}{e:Expr}(h:aj c (.var i) e=true):∃x p,e=.Name x p/\((c.N[i]?==some x)&&gH (c.kd.lookup x)&&okN x)=true:=by have h:(az (asName e) λt=>(c.N[i]?==some t.1)&&gH (c.kd.lookup t.1)&&okN t.1)=true:=h;obtain ⟨t,ht,h⟩:=aL h;exact ⟨_,_,ht,h⟩
theorem Ce{c:CT}{d:D}{e:Expr}(h:aj c (.cst d) e=true):∃k n p,e=.Constant k n p/\(q9 d k)=true:=by have h:(az (rn e) λt=>q9 d t.1)=true:=h;obtain ⟨t,ht,h⟩:=aL h;exact ⟨_,_,_,ht,h⟩
theorem Cg{c:CT}{x:String}{d:D}{e:Expr}(h:aj c (.glb x d) e=true):∃y p,e=.Name y p/\(y==Str.ofString x&&c.glo y&&c.cn.any (λp=>p.1==x&&sEq p.2 d))=true:=by have h:(az (asName e) λt=>t.1==Str.ofString x&&c.glo t.1&&c.cn.any (λp=>p.1==x&&sEq p.2 d))=true:=h;obtain ⟨t,ht,h⟩:=aL h;exact ⟨_,_,ht,h⟩
theorem Ci{c:CT}{op:Operator}{fz:Bool}{a b:Ex}{e:Expr}(h:aj c (.bin op fz a b) e=true):∃l o r p,e=.BinOp l o r p/\(o==op&&aj c a l&&aj c b r)=true:=by have h:(az (Br e) λt=>t.2.1==op&&aj c a t.1&&aj c b t.2.2.1)=true:=h;obtain ⟨t,ht,h⟩:=aL h;exact ⟨_,_,_,_,ht,h⟩
theorem Cj{c:CT}{a:Ex}{e:Expr}(h:aj c (.neg a) e=true):∃x p,e=.UnaryOp .USub x p/\(aj c a x)=true:=by have h:(az (iQ e) λt=>vU t.1&&aj c a t.2.1)=true:=h;obtain ⟨t,ht,h⟩:=aL h;rw[Bool.and_eq_true]at h;exact ⟨_,_,by rw[ht,Yj h.1],h.2⟩
theorem Ck{c:CT}{a:Ex}{e:Expr}(h:aj c (.not a) e=true):∃x p,e=.UnaryOp .Not x p/\(aj c a x)=true:=by have h:(az (iQ e) λt=>jG t.1&&aj c a t.2.1)=true:=h;obtain ⟨t,ht,h⟩:=aL h;rw[Bool.and_eq_true]at h;exact ⟨_,_,by rw[ht,BR h.1],h.2⟩
theorem Cm{c:CT}{op:CmpOp}{a b:Ex}{e:Expr}(h:aj c (.cmp op a b) e=true):∃l o r p,e=.Compare l [o] [r] p/\(o==op&&aj c a l&&aj c b r)=true:=by have h:(az (jE e) λt=>(one t.2.1).any λo=>(one t.2.2.1).any λr=>o==op&&aj c a t.1&&aj c b r)=true:=h;obtain ⟨t,ht,h⟩:=aL h;obtain ⟨o,ho,h⟩:=aQ h;obtain ⟨r,hr,h⟩:=aQ h;exact ⟨_,_,_,_,by rw[ht,cZ ho,cZ hr],h⟩
theorem Cp{c:CT}{op op':CmpOp}{a b d:Ex}{e:Expr}(h:aj c (.chn op op' a b d) e=true):∃l o o' m r p,e=.Compare l [o,o'] [m,r] p/\(o==op&&o'==op'&&aj c a l&&aj c b m&&aj c d r)=true:=by have h:(az (jE e) λt=>(two t.2.1).any λo=>(two t.2.2.1).any λr=>o.1==op&&o.2==op'&&aj c a t.1&&aj c b r.1&&aj c d r.2)=true:=h;obtain ⟨t,ht,h⟩:=aL h;obtain ⟨o,ho,h⟩:=aQ h;obtain ⟨r,hr,h⟩:=aQ h;exact ⟨_,_,_,_,_,_,by rw[ht,rD ho,rD hr],h⟩
theorem Cq{c:CT}{isAnd:Bool}{x:Ex}{es:Exs}{e:Expr}(h:aj c (.boo isAnd x es) e=true):∃op v vs p,e=.BoolOp op (v::vs) p/\(op==(if isAnd then .And else .Or)&&aj c x v&&aJ c es vs)=true:=by have h:(az (rz e) λt=>(hdT t.2.1).any λv=>t.1==(if isAnd then .And else .Or)&&aj c x v.1&&aJ c es v.2)=true:=h;obtain ⟨t,ht,h⟩:=aL h;obtain ⟨v,hv,h⟩:=aQ h;exact ⟨_,_,_,_,by rw[ht,BP hv],h⟩
theorem Cr{c:CT}{t:Tx}{a b:Ex}{e:Expr}(h:aj c (.ife t a b) e=true):∃t' a' b' p,e=.IfExp t' a' b' p/\(bB c t t'&&aj c a a'&&aj c b b')=true:=by have h:(az (Bt e) λu=>bB c t u.1&&aj c a u.2.1&&aj c b u.2.2.1)=true:=h;obtain ⟨u,ht,h⟩:=aL h;exact ⟨_,_,_,_,ht,h⟩
theorem Cu{c:CT}{es:Exs}{e:Expr}(h:aj c (.tup es) e=true):∃vs k p,e=.Tuple vs k p/\(aJ c es vs)=true:=by have h:(az (fP e) λt=>aJ c es t.1)=true:=h;obtain ⟨t,ht,h⟩:=aL h;exact ⟨_,_,_,ht,h⟩
theorem Cv{c:CT}{fz:Bool}{es:Exs}{e:Expr}(h:aj c (.lst fz es) e=true):∃vs p,e=.List vs p/\(aJ c es vs)=true:=by have h:(az (asList e) λt=>aJ c es t.1)=true:=h;obtain ⟨t,ht,h⟩:=aL h;exact ⟨_,_,ht,h⟩
theorem Cw{c:CT}{a i:Ex}{e:Expr}(h:aj c (.idx a i) e=true):∃v s p,e=.Subscript v s p/\(aj c a v&&aj c i s)=true:=by have h:(az (fQ e) λt=>aj c a t.1&&aj c i t.2.1)=true:=h;obtain ⟨t,ht,h⟩:=aL h;exact ⟨_,_,_,ht,h⟩
theorem Cy{c:CT}{fz:Bool}{a:Ex}{lo hi:Ox}{e:Expr}(h:aj c (.slc fz a lo hi) e=true):∃v l u p' p,e=.Subscript v (.Slice l u none p') p/\(aj c a v&&fj c lo l&&fj c hi u)=true:=by have h:(az (fQ e) λt=>az (rA t.2.1) λs=>s.2.2.1.isNone&&(aj c a t.1&&fj c lo s.1&&fj c hi s.2.1))=true:=h;obtain ⟨t,ht,h⟩:=aL h;obtain ⟨s,hs,h⟩:=aL h;rw[Bool.and_eq_true,Option.isNone_iff_eq_none]at h;exact ⟨_,_,_,_,_,by rw[ht,hs,h.1],h.2⟩
theorem Cz{c:CT}{fz:Bool}{a s:Ex}{e:Expr}(h:aj c (.rvs fz a s) e=true):∃v st p' p,e=.Subscript v (.Slice none none (some st) p') p/\(aj c a v&&aj c s st)=true:=by have h:(az (fQ e) λt=>az (rA t.2.1) λu=>u.1.isNone&&u.2.1.isNone&&(u.2.2.1.any λst=>aj c a t.1&&aj c s st))=true:=h;obtain ⟨t,ht,h⟩:=aL h;obtain ⟨u,hu,h⟩:=aL h;rw[Bool.and_eq_true,Bool.and_eq_true,Option.isNone_iff_eq_none,Option.isNone_iff_eq_none]at h;obtain ⟨st,hst,h'⟩:=aQ h.2;exact ⟨_,_,_,_,by rw[ht,hu,h.1.1,h.1.2,hst],h'⟩
theorem CG{c:CT}{f:String}{es:Exs}{e:Expr}(h:aj c (.call f es) e=true):∃x p args pos,e=.Call (.Name x p) args [] pos/\(x==Str.ofString f&&c.glo x&&(c.fs.any λp=>p.1==f&&p.2==args.length)&&!args.isEmpty&&aJ c es args)=true:=by have h:((bj e).any λt=>t.1==Str.ofString f&&c.glo t.1&&(c.fs.any λp=>p.1==f&&p.2==t.2.2.1.length)&&!t.2.2.1.isEmpty&&aJ c es t.2.2.1)=true:=h;obtain ⟨t,ht,h⟩:=aQ h;exact ⟨_,_,_,_,dq ht,h⟩
theorem CJ{c:CT}{f:Bf}{es:Exs}{e:Expr}(h:aj c (.bcl f es) e=true):∃x p args pos,e=.Call (.Name x p) args [] pos/\(x==Str.ofString f.name&&vM f&&c.glo x&&c.bt.contains f.name&&!args.isEmpty&&aJ c es args)=true:=by have h:((bj e).any λt=>t.1==Str.ofString f.name&&vM f&&c.glo t.1&&c.bt.contains f.name&&!t.2.2.1.isEmpty&&aJ c es t.2.2.1)=true:=h;obtain ⟨t,ht,h⟩:=aQ h;exact ⟨_,_,_,_,dq ht,h⟩
theorem CK{c:CT}{fz:Bool}{f:Lf}{es:Exs}{e:Expr}(h:aj c (.lcl fz f es) e=true):∃x p args pos,e=.Call (.Name x p) args [] pos/\(x==Str.ofString f.name&&vN f&&c.glo x&&c.bt.contains f.name&&!args.isEmpty&&aJ c es args)=true:=by have h:((bj e).any λt=>t.1==Str.ofString f.name&&vN f&&c.glo t.1&&c.bt.contains f.name&&!t.2.2.1.isEmpty&&aJ c es t.2.2.1)=true:=h;obtain ⟨t,ht,h⟩:=aQ h;exact ⟨_,_,_,_,dq ht,h⟩
theorem CN {c:CT} {a:Ex} {t:String} {e:Expr} (h:aj c (.isi a t) e=true):∃x p v y p' pos,e=.Call (.Name x p) [v,.Name y p'] [] pos/\(x==Str.ofString "isinstance"&&c.glo x&&c.bt.contains "isinstance"&&aj c a v&&y==Str.ofString t&&c.glo y&&c.bt.contains t&&eX t)=true:=by have h:((bj e).any λu=>(two u.2.2.1).any λv=>az (asName v.2) λy=>u.1==Str.ofString "isinstance"&&c.glo u.1&&c.bt.contains "isinstance"&&aj c a v.1&&y.1==Str.ofString t&&c.glo y.1&&c.bt.contains t&&eX t)=true:=h;obtain ⟨u,hu,h⟩:=aQ h;obtain ⟨v,hv,h⟩:=aQ h;obtain ⟨y,hy,h⟩:=aL h;exact ⟨_,_,_,_,_,_,by rw[dq hu,rD hv,hy],h⟩
theorem CP {c:CT} {fz:Bool} {a:Ex} {e:Expr} (h:aj c (.rgl fz a) e=true):∃x p x' p' e2 pos' pos,e=.Call (.Name x p) [.Call (.Name x' p') [e2] [] pos'] [] pos/\(x==Str.ofString "list"&&c.glo x&&c.bt.contains "list"&&x'==Str.ofString "range"&&c.glo x'&&c.bt.contains "range"&&aj c a e2)=true:=by have h:((bj e).any λt=>(one t.2.2.1).any λe1=>(bj e1).any λu=>(one u.2.2.1).any λe2=>t.1==Str.ofString "list"&&c.glo t.1&&c.bt.contains "list"&&u.1==Str.ofString "range"&&c.glo u.1&&c.bt.contains "range"&&aj c a e2)=true:=h;obtain ⟨t,ht,h⟩:=aQ h;obtain ⟨e1,he1,h⟩:=aQ h;obtain ⟨u,hu,h⟩:=aQ h;obtain ⟨e2,he2,h⟩:=aQ h;exact ⟨_,_,_,_,_,_,_,by rw[dq ht,cZ he1,dq hu,cZ he2],h⟩
theorem CQ {c:CT} {a:Ex} {e:Expr} (h:aj c (.rgt a) e=true):∃x p x' p' e2 pos' pos,e=.Call (.Name x p) [.Call (.Name x' p') [e2] [] pos'] [] pos/\(x==Str.ofString "tuple"&&c.glo x&&c.bt.contains "tuple"&&x'==Str.ofString "range"&&c.glo x'&&c.bt.contains "range"&&aj c a e2)=true:=by have h:((bj e).any λt=>(one t.2.2.1).any λe1=>(bj e1).any λu=>(one u.2.2.1).any λe2=>t.1==Str.ofString "tuple"&&c.glo t.1&&c.bt.contains "tuple"&&u.1==Str.ofString "range"&&c.glo u.1&&c.bt.contains "range"&&aj c a e2)=true:=h;obtain ⟨t,ht,h⟩:=aQ h;obtain ⟨e1,he1,h⟩:=aQ h;obtain ⟨u,hu,h⟩:=aQ h;obtain ⟨e2,he2,h⟩:=aQ h;exact ⟨_,_,_,_,_,_,_,by rw[dq ht,cZ he1,dq hu,cZ he2],h⟩
theorem CW{c:CT}{m:Mf}{o:Ex}{es:Exs}{e:Expr}(h:aj c (.mth m o es) e=true):∃v x apos args cpos,e=.Call (.Attribute v x apos) args [] cpos/\(x==Str.ofString m.name&&aj c o v&&!rm v&&(apos.endLine==cpos.line)&&decide (args.length < 29)&&!args.isEmpty&&aJ c es args)=true:=by have h:(az (vO e) λt=>az (Bu t.1) λv=>t.2.2.1.isEmpty&&(v.2.1==Str.ofString m.name&&aj c o v.1&&!rm v.1&&(v.2.2.endLine==t.2.2.2.line)&&decide (t.2.1.length < 29)&&!t.2.1.isEmpty&&aJ c es t.2.1))=true:=h;obtain ⟨t,ht,h⟩:=aL h;obtain ⟨v,hv,h⟩:=aL h;rw[Bool.and_eq_true,List.isEmpty_iff]at h;exact ⟨_,_,_,_,_,by rw[ht,hv,h.1],h.2⟩
theorem CZ{c:CT}{fz:Bool}{elt:Ex}{tg:Tg}{it:It'}{cond:Tx}{N:List String}{cap:List (Option Nat)}{e:Expr}(h:aj c (.comp fz elt tg it cond N cap) e=true):∃elt' tg' iter ifs as scope pos,e=.ListComp elt' [⟨tg',iter,ifs,as⟩] scope pos/\(decide (as=0)&&bV c it tg' iter&&fO c.N scope (N.map Str.ofString) cap&&iM c scope&&d7 (N.map Str.ofString)&&cH (c.comp (N.map Str.ofString) scope) tg tg'&&jJ (c.comp (N.map Str.ofString) scope) cond ifs&&aj (c.comp (N.map Str.ofString) scope) elt elt')=true:=by have h:(az (Bv e) λt=>(one t.2.1).any λg=>decide (g.is_async=0)&&bV c it g.target g.iter&&fO c.N t.2.2.1 (N.map Str.ofString) cap&&iM c t.2.2.1&&d7 (N.map Str.ofString)&&cH (c.comp (N.map Str.ofString) t.2.2.1) tg g.target&&((vV cond&&g.ifs.isEmpty)||(one g.ifs).any λf=>bB (c.comp (N.map Str.ofString) t.2.2.1) cond f)&&aj (c.comp (N.map Str.ofString) t.2.2.1) elt t.1)=true:=h;obtain ⟨t,ht,h⟩:=aL h;obtain ⟨⟨tg',iter,ifs,as⟩,hg,h⟩:=aQ h;exact ⟨t.1,tg',iter,ifs,as,t.2.2.1,t.2.2.2,(ht).trans (by rw[cZ hg]),h⟩
theorem Yn{c:CT}{t:Tx}{e:Expr}(h:bB c (.not t) e=true):∃x p,e=.UnaryOp .Not x p/\(bB c t x)=true:=by have h:(az (iQ e) λu=>jG u.1&&bB c t u.2.1)=true:=h;obtain ⟨u,ht,h⟩:=aL h;rw[Bool.and_eq_true]at h;exact ⟨_,_,by rw[ht,BR h.1],h.2⟩
theorem Yo{c:CT}{isAnd:Bool}{x:Tx}{es:Txs}{e:Expr}(h:bB c (.boo isAnd x es) e=true):∃op v vs p,e=.BoolOp op (v::vs) p/\(op==(if isAnd then .And else .Or)&&bB c x v&&gK c es vs)=true:=by have h:(az (rz e) λu=>(hdT u.2.1).any λv=>u.1==(if isAnd then .And else .Or)&&bB c x v.1&&gK c es v.2)=true:=h;obtain ⟨t,ht,h⟩:=aL h;obtain ⟨v,hv,h⟩:=aQ h;exact ⟨_,_,_,_,by rw[ht,BP hv],h⟩
theorem Dc {c:CT} {a:Ex} {tg e:Expr} (h:bV c (.rng a) tg e=true):∃x p v pos,e=.Call (.Name x p) [v] [] pos/\(x==Str.ofString "range"&&c.glo x&&c.bt.contains "range"&&aj c a v)=true:=by have h:((bj e).any λt=>(one t.2.2.1).any λv=>t.1==Str.ofString "range"&&c.glo t.1&&c.bt.contains "range"&&aj c a v)=true:=h;obtain ⟨t,ht,h⟩:=aQ h;obtain ⟨v,hv,h⟩:=aQ h;exact ⟨_,_,_,_,by rw[dq ht,cZ hv],h⟩
theorem Dd {c:CT} {a:Ex} {tg e:Expr} (h:bV c (.enm a) tg e=true):∃ts k p0 x p v pos,tg=.Tuple ts k p0/\e=.Call (.Name x p) [v] [] pos/\(x==Str.ofString "enumerate"&&c.glo x&&c.bt.contains "enumerate"&&aj c a v)=true:=by have h:(az (fP tg) λ_=>(bj e).any λt=>(one t.2.2.1).any λv=>t.1==Str.ofString "enumerate"&&c.glo t.1&&c.bt.contains "enumerate"&&aj c a v)=true:=h;obtain ⟨g,hg,h⟩:=aL h;obtain ⟨t,ht,h⟩:=aQ h;obtain ⟨v,hv,h⟩:=aQ h;exact ⟨_,_,_,_,_,_,_,hg,by rw[dq ht,cZ hv],h⟩
theorem De {c:CT} {a b:Ex} {tg e:Expr} (h:bV c (.zip a b) tg e=true):∃ts k p0 x p v v' pos,tg=.Tuple ts k p0/\e=.Call (.Name x p) [v,v'] [] pos/\(x==Str.ofString "zip"&&c.glo x&&c.bt.contains "zip"&&aj c a v&&aj c b v')=true:=by have h:(az (fP tg) λ_=>(bj e).any λt=>(two t.2.2.1).any λv=>t.1==Str.ofString "zip"&&c.glo t.1&&c.bt.contains "zip"&&aj c a v.1&&aj c b v.2)=true:=h;obtain ⟨g,hg,h⟩:=aL h;obtain ⟨t,ht,h⟩:=aQ h;obtain ⟨v,hv,h⟩:=aQ h;exact ⟨_,_,_,_,_,_,_,_,hg,by rw[dq ht,rD hv],h⟩
theorem Yp{c:CT}{x:Ex}{st:Stmt}(h:bh c (.exp x) st=true):∃e pos,st=.Expr e pos/\(!cY e&&aj c x e)=true:=by have h:(az (vP st) λt=>!cY t.1&&aj c x t.1)=true:=h;obtain ⟨t,ht,h⟩:=aL h;exact ⟨_,_,ht,h⟩
theorem Df{c:CT}{g:Tg}{x:Ex}{st:Stmt}(h:bh c (.asg g x) st=true):∃tg e pos,st=.Assign [tg] e pos/\(cH c g tg&&aj c x e&&vX g x e)=true:=by have h:(az (jF st) λt=>(one t.1).any λtg=>cH c g tg&&aj c x t.2.1&&vX g x t.2.1)=true:=h;obtain ⟨t,ht,h⟩:=aL h;obtain ⟨g,hg,h⟩:=aQ h;exact ⟨_,_,_,by rw[ht,cZ hg],h⟩
theorem Yq{c:CT}{o i x:Ex}{st:Stmt}(h:bh c (.set o i x) st=true):∃o' i' tpos e pos,st=.Assign [.Subscript o' i' tpos] e pos/\(aj c o o'&&aj c i i'&&aj c x e&&!cY e)=true:=by have h:(az (jF st) λt=>(one t.1).any λtg=>az (fQ tg) λu=>aj c o u.1&&aj c i u.2.1&&aj c x t.2.1&&!cY t.2.1)=true:=h;obtain ⟨t,ht,h⟩:=aL h;obtain ⟨g,hg,h⟩:=aQ h;obtain ⟨u,hu,h⟩:=aL h;exact ⟨_,_,_,_,_,by rw[ht,cZ hg,hu],h⟩
theorem Yr{c:CT}{i:Nat}{op:Operator}{x:Ex}{st:Stmt}(h:bh c (.aug i op x) st=true):∃y py o e pos,st=.AugAssign (.Name y py) o e pos/\(o==op&&(c.N[i]?==some y)&&c.sto y&&okN y&&aj c x e)=true:=by have h:(az (Bw st) λt=>az (asName t.1) λy=>t.2.1==op&&(c.N[i]?==some y.1)&&c.sto y.1&&okN y.1&&aj c x t.2.2.1)=true:=h;obtain ⟨t,ht,h⟩:=aL h;obtain ⟨u,hu,h⟩:=aL h;exact ⟨_,_,_,_,_,by rw[ht,hu],h⟩
theorem Ys{c:CT}{C:String}{es:Exs}{st:Stmt}(h:bh c (.rse C es) st=true):∃x np m cpos pos,st=.Raise (some (.Call (.Name x np) [m] [] cpos)) none pos/\(x==Str.ofString C&&c.glo x&&c.xs.contains (C,true)&&rE c es m)=true:=by have h:(az (Bx st) λt=>t.2.1.isNone&&t.1.any λe=>(bj e).any λu=>u.1==Str.ofString C&&c.glo u.1&&c.xs.contains (C,true)&&(one u.2.2.1).any λm=>rE c es m)=true:=h;obtain ⟨t,ht,h⟩:=aL h;rw[Bool.and_eq_true,Option.isNone_iff_eq_none]at h;obtain ⟨e,he,h2⟩:=aQ h.2;obtain ⟨u,hu,h3⟩:=aQ h2;rw[Bool.and_eq_true]at h3;obtain ⟨m,hm,h4⟩:=aQ h3.2;exact ⟨_,_,m,_,_,by rw[ht,h.1,he,dq hu,cZ hm],by rw[Bool.and_eq_true];exact ⟨h3.1,h4⟩⟩
theorem Yt{c:CT}{x:Ex}{st:Stmt}(h:bh c (.ret x) st=true):∃e pos,st=.Return (some e) pos/\(aj c x e)=true:=by have h:(az (rB st) λt=>t.1.any λe=>aj c x e)=true:=h;obtain ⟨t,ht,h⟩:=aL h;obtain ⟨e,he,h⟩:=aQ h;exact ⟨_,_,by rw[ht,he],h⟩
theorem Yu{c:CT}{st:Stmt}(h:bh c .rtn st=true):∃pos,st=.Return none pos/\(true)=true:=by have h:(az (rB st) λt=>t.1.isNone)=true:=h;obtain ⟨t,ht,h⟩:=aL h;rw[Option.isNone_iff_eq_none]at h;exact ⟨_,by rw[ht,h],rfl⟩
theorem Yv{c:CT}{t:Tx}{a b:Sxs}{st:Stmt}(h:bh c (.ite t a b) st=true):∃t' a' b' pos,st=.If t' a' b' pos/\(bB c t t'&&aB c a a'&&aB c b b')=true:=by have h:(az (vR st) λu=>bB c t u.1&&aB c a u.2.1&&aB c b u.2.2.1)=true:=h;obtain ⟨u,ht,h⟩:=aL h;exact ⟨_,_,_,_,ht,h⟩
theorem Yw{c:CT}{g:Tg}{it:It'}{b:Sxs}{st:Stmt}(h:bh c (.for_ g it b) st=true):∃tg iter body pos,st=.For tg iter body [] pos/\(cH c g tg&&bV c it tg iter&&aB c b body)=true:=by have h:(az (By st) λt=>t.2.2.2.1.isEmpty&&(cH c g t.1&&bV c it t.1 t.2.1&&aB c b t.2.2.1))=true:=h;obtain ⟨t,ht,h⟩:=aL h;rw[Bool.and_eq_true,List.isEmpty_iff]at h;exact ⟨_,_,_,_,by rw[ht,h.1],h.2⟩
theorem Yx{c:CT}{st:Stmt}(h:bh c .pas st=true):∃pos,st=.Pass pos/\(true)=true:=by obtain ⟨⟨t,ht⟩,_⟩:=Option.isSome_iff_exists.mp (show (BJ st).isSome=true from h);exact ⟨t,ht,rfl⟩
theorem Yy{c:CT}{st:Stmt}(h:bh c .brk st=true):∃pos,st=.Break pos/\(true)=true:=by obtain ⟨⟨t,ht⟩,_⟩:=Option.isSome_iff_exists.mp (show (BK st).isSome=true from h);exact ⟨t,ht,rfl⟩
theorem Yz{c:CT}{st:Stmt}(h:bh c .cnt st=true):∃pos,st=.Continue pos/\(true)=true:=by obtain ⟨⟨t,ht⟩,_⟩:=Option.isSome_iff_exists.mp (show (BL st).isSome=true from h);exact ⟨t,ht,rfl⟩
def jL:Expr->Bool
 |.Starred ..=>false
 |.Set ..=>false
 |.Slice ..=>false
 |_=>true
theorem bN{c:CT}:∀(x:Ex){e:Expr},aj c x e=true->jL e=true
 |.frz a,e,h=>bN a (show aj c a e=true from h)
 |.var _,e,h=>by obtain ⟨_,_,rfl,_⟩:=Cd h;rfl
 |.cst _,e,h=>by obtain ⟨_,_,_,rfl,_⟩:=Ce h;rfl
 |.glb _ _,e,h=>by obtain ⟨_,_,rfl,_⟩:=Cg h;rfl
 |.bin _ _ _ _,e,h=>by obtain ⟨_,_,_,_,rfl,_⟩:=Ci h;rfl
 |.neg _,e,h=>by obtain ⟨_,_,rfl,_⟩:=Cj h;rfl
 |.cmp _ _ _,e,h=>by obtain ⟨_,_,_,_,rfl,_⟩:=Cm h;rfl
 |.chn _ _ _ _ _,e,h=>by obtain ⟨_,_,_,_,_,_,rfl,_⟩:=Cp h;rfl
 |.not _,e,h=>by obtain ⟨_,_,rfl,_⟩:=Ck h;rfl
 |.boo _ _ _,e,h=>by obtain ⟨_,_,_,_,rfl,_⟩:=Cq h;rfl
 |.ife _ _ _,e,h=>by obtain ⟨_,_,_,_,rfl,_⟩:=Cr h;rfl
 |.tup _,e,h=>by obtain ⟨_,_,_,rfl,_⟩:=Cu h;rfl
 |.lst _ _,e,h=>by obtain ⟨_,_,rfl,_⟩:=Cv h;rfl
 |.idx _ _,e,h=>by obtain ⟨_,_,_,rfl,_⟩:=Cw h;rfl
 |.slc _ _ _ _,e,h=>by obtain ⟨_,_,_,_,_,rfl,_⟩:=Cy h;rfl
 |.rvs _ _ _,e,h=>by obtain ⟨_,_,_,_,rfl,_⟩:=Cz h;rfl
 |.call _ _,e,h=>by obtain ⟨_,_,_,_,rfl,_⟩:=CG h;rfl
 |.bcl _ _,e,h=>by obtain ⟨_,_,_,_,rfl,_⟩:=CJ h;rfl
 |.lcl _ _ _,e,h=>by obtain ⟨_,_,_,_,rfl,_⟩:=CK h;rfl
 |.isi _ _,e,h=>by obtain ⟨_,_,_,_,_,_,rfl,_⟩:=CN h;rfl
 |.rgl _ _,e,h=>by obtain ⟨_,_,_,_,_,_,_,rfl,_⟩:=CP h;rfl
 |.rgt _,e,h=>by obtain ⟨_,_,_,_,_,_,_,rfl,_⟩:=CQ h;rfl
 |.fst _,_,h=>nomatch (show false=true from h)
 |.isx _ _ _,_,h=>nomatch (show false=true from h)
 |.rpl _ _ _ _,_,h=>nomatch (show false=true from h)
 |.mth _ _ _,e,h=>by obtain ⟨_,_,_,_,_,rfl,_⟩:=CW h;rfl
 |.comp _ _ _ _ _ _ _,e,h=>by obtain ⟨_,_,_,_,_,_,_,rfl,_⟩:=CZ h;rfl
theorem cO{e:Expr}(h:jL e=true):noStar e=true:=by cases e <;> first |rfl |exact nomatch (show false=true from h)
theorem Dg{e:Expr}(h:jL e=true)(op:CmpOp):behindInMarks op e=false:=by cases e <;> first |rfl |exact nomatch (show false=true from h)
theorem YB{e:Expr}(h:jL e=true)(env:Env)(x:Value):foldedSetIterable e env x=pure x:=by cases e <;> first |rfl |exact nomatch (show false=true from h)
theorem YC{e:Expr}(h:jL e=true):zz e:=by intro o i;cases e <;> first |rfl |exact nomatch (show false=true from h)
theorem YD{e:Expr}(h:gJ e=true)(env:Env)(whole:Sem Value):isTrue e env whole=(do let v <-whole;standAt e.pos;holding [v] (truthy v)):=by
 cases e with
 |UnaryOp op x p=>cases op <;> first |rfl |exact nomatch (show false=true from h)
 |_=>first |rfl |exact nomatch (show false=true from h)
def XV(K:PySem.W.Frag)(H:Hp)(F:FZ)(x:Xn)(cv:Value)(od:Option Addr):Prop:=
 ∃C,cv=.ref C/\PySem.W.nsIn K mainGlobals (Str.ofString x.cls)=some (some (.ref C))/\
  match x.fld with
  |.non=>True
  |d=>∃a f v,od=some a/\H a=some (.xd [(f,v)])/\Rep K H F d v
def XR(K:PySem.W.Frag)(H:Hp)(F:FZ)(x:Xn)(EX:XK):Prop:=∀cv od,XV K H F x cv od->EX cv od H
def PX(K:PySem.W.Frag)(H:Hp)(F:FZ)(EX:XK):EK:=λx G'=>∀H' F',Ext H F H' F'->R K H' F' G'->XR K H' F' x EX
theorem el{α β γ:Type}{p q r s:α->β->γ->Prop}{C:Prop}(h:∃x y z,p x y z/\q x y z/\r x y z/\s x y z)(k:∀x y z,p x y z->q x y z->r x y z->s x y z->C):C:=by obtain ⟨x,y,z,h1,h2,h3,h4⟩:=h;exact k x y z h1 h2 h3 h4
def lift(K:PySem.W.Frag)(n:Nat)(S:RF.Spec):Sp:=λvs H Q EX=>vs.length=n/\∃F G ds,R K H F G/\Reps K H F ds vs/\S.t ds G (PV K H F Q) (PX K H F EX)
def CV(K:PySem.W.Frag)(mg:Str->Option Value)(C':String)(cv:V):Prop:=
 (∃a,cv=.ref a/\mg (Str.ofString C')=some (.ref a)/\Ae K a=true)\/(C'="ValueError"/\cv=.ty "ValueError"/\mg (Str.ofString C')=none)
def XI(K:PySem.W.Frag)(C C':String)(cv:V):Prop:=
 ∃c,PySem.W.nsIn K mainGlobals (Str.ofString C)=some (some (.ref c))/\Ad K c=true/\PySem.W.mroIn K c (valOf cv)=some (fK C C')/\(fK C C'=false->(Value.ref c==valOf cv)=false)
structure Bs where
 H:Hp
 F:FZ
structure Stat(Φ:aa)(CX:CXT)(k:Nat)(c:CT)(E:EK)(B:Bs)(X:Cx):Prop where
 N:X.N=c.N
 nd:X.N.Nodup
 calm:X.calm=true
 own:PassesOwn (model X.prog X.w) X.A X.env X.xe
 kd:X.env.kindOf=λx=>X.env.scope.names.lookup x
 vis:∀x,gH (c.kd.lookup x)=true->Vis X.env.scope x
 cel:∀x,(c.kd.lookup x=some .cell\/c.kd.lookup x=some .free)->(X.env.kindOf x=some .cell\/X.env.kindOf x=some .free)
 glo:∀x,c.kd.lookup x=some .globalImplicit->Gl X x
 sto:∀x,c.sto x=true->Loc X.env.scope x/\(X.fn x=true\/X.env.scope.names.lookup x=some .local)
 room:Room k X.A
 call:∀f n,(f,n)∈c.fs->∃fa fd ps,FnOk X.prog X.w X.K X.mg X.base CX k fa fd ps (lift X.K n (Φ f))/\PySem.W.keepIn X.K (.ref fa)=true/\Binds X.K fd ps []/\X.mg (Str.ofString f)=some (.ref fa)
 blt:∀f,f∈c.bt->X.mg (Str.ofString f)=none
 con:∀x d,(x,d)∈c.cn->∃u v,X.mg (Str.ofString x)=some u/\RelV v u/\∀H F,Rep X.K H F d v
 exc:∃EX,jn CX X EX/\Throws X EX/\∀x G' H' F',E x G'->Ext B.H B.F H' F'->R X.K H' F' G'->XR X.K H' F' x EX
 nox:∀(Y:Cx),jn CX Y λ_ _ _=>False
 xcl:∀C,c.xs.contains (C,true)=true->∃a,X.mg (Str.ofString C)=some (.ref a)/\gn X.K a=true/\PySem.W.nsIn X.K mainGlobals (Str.ofString C)=some (some (.ref a))
 loc:∀x,c.kd.lookup x=some .local->X.env.scope.names.lookup x=some .local
 xis:∀C',c.xs.contains (C',false)=true->∃cv,CV X.K X.mg C' cv/\∀C,c.xs.contains (C,true)=true->XI X.K C C' cv
 trc:c.xs≠[]->CX=CX1 X.prog X.w/\X.stack=X.env::X.outer/\X.ex=[]
def tE(K:PySem.W.Frag)(B:Bs)(w:ak->DH->(D->DH->Prop)->Prop):TE:=λσ H Q=>∃ρ F G,Ext B.H B.F H F/\EnvR K H F ρ σ/\R K H F G/\w ρ G (PV K H F Q)
def tB'(K:PySem.W.Frag)(B:Bs)(w:ak->DH->(Bool->DH->Prop)->Prop):TT:=λσ H Q=>∃ρ F G,Ext B.H B.F H F/\EnvR K H F ρ σ/\R K H F G/\w ρ G (PB K H F Q)
def tL(K:PySem.W.Frag)(B:Bs)(w:ak->DH->(List D->DH->Prop)->Prop):TA:=λσ H Q=>∃ρ F G,Ext B.H B.F H F/\EnvR K H F ρ σ/\R K H F G/\w ρ G (PLs K H F Q)
def POp(K:PySem.W.Frag)(H:Hp)(F:FZ)(Q:Option Int->Hp->Prop):Option Int->DH->Prop:=λb G'=>∀H' F',Ext H F H' F'->R K H' F' G'->Q b H'
def Dh(K:PySem.W.Frag)(B:Bs)(w:ak->DH->(Option Int->DH->Prop)->Prop):TO:=λσ H Q=>∃ρ F G,Ext B.H B.F H F/\EnvR K H F ρ σ/\R K H F G/\w ρ G (POp K H F Q)
theorem peI{X:Cx}{e:Expr}{t t':TE}(h:PE X e t)(i:∀σ H Q,t' σ H Q->t σ H Q):PE X e t':=λpins s σ H Q I q=>h pins s σ H Q I (i σ H Q q)
theorem ptI{X:Cx}{e:Expr}{t t':TT}(h:PT X e t)(i:∀σ H Q,t' σ H Q->t σ H Q):PT X e t':=λpins s σ H Q I q=>h pins s σ H Q I (i σ H Q q)
theorem pwI{X:Cx}{e:Expr}{t t':TT}(h:PW X e t)(i:∀σ H Q,t' σ H Q->t σ H Q):PW X e t':=λwh pins s σ H Q I q=>h wh pins s σ H Q I (i σ H Q q)
theorem paI{X:Cx}{e:List Expr}{t t':TA}(h:PA X e t)(i:∀σ H Q,t' σ H Q->t σ H Q):PA X e t':=λpos pins s σ H Q I q=>h pos pins s σ H Q I (i σ H Q q)
section
variable {Φ:aa} {CX:CXT} {k:Nat} {c:CT} {E:EK} {B:Bs} {X:Cx}
theorem aK{K:PySem.W.Frag}{x:Ex}{σ:L2.St}{H:Hp}{F:FZ}{G:DH}{ρ:ak}{W:D->DH->Prop}{Q:VK}(e0:Ext B.H B.F H F)(he:EnvR K H F ρ σ)(r:R K H F G)(hw:wpE Φ x E ρ G W)
  (h:∀d G1 H1 F1 v,W d G1->Ext B.H B.F H1 F1->Ext H F H1 F1->EnvR K H1 F1 ρ σ->R K H1 F1 G1->Rep K H1 F1 d v->Q v H1):tE K B (wpE Φ x E) σ H Q:=
 ⟨ρ,F,G,e0,he,r,aD x (λd G1 q H1 F1 v x1 r1 rv=>h d G1 H1 F1 v q (e0.trans x1) x1 (he.ext x1) r1 rv) hw⟩
theorem cJ{K:PySem.W.Frag}{x:Exs}{σ:L2.St}{H:Hp}{F:FZ}{G:DH}{ρ:ak}{W:List D->DH->Prop}{Q:List V->Hp->Prop}(e0:Ext B.H B.F H F)(he:EnvR K H F ρ σ)(r:R K H F G)(hw:aO Φ x E ρ G W)
  (h:∀d G1 H1 F1 v,W d G1->Ext B.H B.F H1 F1->Ext H F H1 F1->EnvR K H1 F1 ρ σ->R K H1 F1 G1->Reps K H1 F1 d v->Q v H1):tL K B (aO Φ x E) σ H Q:=
 ⟨ρ,F,G,e0,he,r,cW x (λd G1 q H1 F1 v x1 r1 rv=>h d G1 H1 F1 v q (e0.trans x1) x1 (he.ext x1) r1 rv) hw⟩
theorem iR{K:PySem.W.Frag}{x:Tx}{σ:L2.St}{H:Hp}{F:FZ}{G:DH}{ρ:ak}{W:Bool->DH->Prop}{Q:Bool->Hp->Prop}(e0:Ext B.H B.F H F)(he:EnvR K H F ρ σ)(r:R K H F G)(hw:wpT Φ x E ρ G W)
  (h:∀d G1 H1 F1,W d G1->Ext B.H B.F H1 F1->Ext H F H1 F1->EnvR K H1 F1 ρ σ->R K H1 F1 G1->Q d H1):tB' K B (wpT Φ x E) σ H Q:=
 ⟨ρ,F,G,e0,he,r,cV x (λd G1 q H1 F1 x1 r1=>h d G1 H1 F1 q (e0.trans x1) x1 (he.ext x1) r1) hw⟩
theorem Di{K:PySem.W.Frag}{x:Ox}{σ:L2.St}{H:Hp}{F:FZ}{G:DH}{ρ:ak}{W:Option Int->DH->Prop}{Q:Option Int->Hp->Prop}(e0:Ext B.H B.F H F)(he:EnvR K H F ρ σ)(r:R K H F G)(hw:wpO Φ x E ρ G W)
  (h:∀d G1 H1 F1,W d G1->Ext B.H B.F H1 F1->Ext H F H1 F1->EnvR K H1 F1 ρ σ->R K H1 F1 G1->Q d H1):Dh K B (wpO Φ x E) σ H Q:=
 ⟨ρ,F,G,e0,he,r,vy x (λd G1 q H1 F1 x1 r1=>h d G1 H1 F1 q (e0.trans x1) x1 (he.ext x1) r1) hw⟩
theorem PV.later{K:PySem.W.Frag}{H H1:Hp}{F F1:FZ}{Q:VK}{d:D}{G:DH}(h:PV K H F Q d G)(x:Ext H F H1 F1):PV K H1 F1 Q d G:=λH' F' v x1=>h H' F' v (x.trans x1)
theorem PB.later{K:PySem.W.Frag}{H H1:Hp}{F F1:FZ}{Q:Bool->Hp->Prop}{d:Bool}{G:DH}(h:PB K H F Q d G)(x:Ext H F H1 F1):PB K H1 F1 Q d G:=λH' F' x1=>h H' F' (x.trans x1)
theorem PB.now{K:PySem.W.Frag}{H:Hp}{F:FZ}{Q:Bool->Hp->Prop}{d:Bool}{G:DH}(h:PB K H F Q d G)(r:R K H F G):Q d H:=h H F (Ext.refl H F) r
theorem iT(S:Stat Φ CX k c E B X):X.A.units+100 < cLine:=by have:=S.room.un;omega
theorem bW {x:Str} (h:okN x=true):(x==("__debug__":Str))=false:=by
 unfold okN at h;cases e:x==("__debug__":Str) with
 |false=>rfl
 |true=>rw[e]at h;simp at h
theorem YF {x:Str} (h:okN x=true):(x==("__classdict__":Str))=false:=by
 unfold okN at h;cases e:x==("__classdict__":Str) with
 |false=>rfl
 |true=>rw[e]at h;simp at h
theorem cP {x:Str} (h:okN x=true):x≠"__name__":=by unfold okN at h;intro e;rw[beq_iff_eq.mpr e]at h;simp at h
theorem cQ{x:Str}(h:c.glo x=true):c.kd.lookup x=some .globalImplicit/\okN x=true:=by unfold CT.glo at h;rw[Bool.and_eq_true,beq_iff_eq]at h;exact h
theorem YG(S:Stat Φ CX k c E B X){i:Nat}{e:Expr}(h:aj c (.var i) e=true):PE X e (tE X.K B (wpE Φ (.var i) E)):=by
 replace h:=Cd h;obtain ⟨x,pos,rfl,h⟩:=h
 ·rw[Bool.and_eq_true,Bool.and_eq_true,beq_iff_eq]at h;refine peI (yK (i:=i) (by rw[S.N];exact h.1.1) (S.vis x h.1.2) (bW h.2) (YF h.2)) λσ H Q q=>?_;obtain ⟨ρ,F,G,_,he,r,hw⟩:=q;rw[pQ]at hw;split at hw
  ·rename_i d hd;obtain ⟨v,e1,rv⟩:=he.get hd;exact ⟨v,e1,hw.now r rv⟩
  ·exact hw.elim
theorem YH(S:Stat Φ CX k c E B X){d:D}{e:Expr}(h:aj c (.cst d) e=true):PE X e (tE X.K B (wpE Φ (.cst d) E)):=by
 replace h:=Ce h;obtain ⟨kk,_,_,rfl,h⟩:=h
 ·unfold q9 at h;split at h
  ·exact peI Rf λσ H Q hq=>el hq λρ F G _ he r hw=>by rw[gB]at hw;exact hw.now r rfl
  ·rw[beq_iff_eq]at h;subst h;exact peI Rc λσ H Q hq=>el hq λρ F G _ he r hw=>by rw[gB]at hw;exact hw.now r rfl
  ·rw[beq_iff_eq]at h;subst h;exact peI Rb λσ H Q hq=>el hq λρ F G _ he r hw=>by rw[gB]at hw;exact hw.now r rfl
  ·rename_i l b;rw[Bool.and_eq_true,beq_iff_eq,decide_eq_true_iff]at h;refine peI yL λσ H Q hq=>el hq λρ F G _ he r hw=>?_;rw[gB]at hw;refine hw.now r ⟨?_,h.2⟩;rw[h.1,<-oM]
  ·cases h
theorem YJ(S:Stat Φ CX k c E B X){x:String}{d:D}{e:Expr}(h:aj c (.glb x d) e=true):PE X e (tE X.K B (wpE Φ (.glb x d) E)):=by
 replace h:=Cg h;obtain ⟨y,pos,rfl,h⟩:=h
 ·rw[Bool.and_eq_true,Bool.and_eq_true,beq_iff_eq,List.any_eq_true]at h;obtain ⟨⟨e1,h1⟩,⟨x',d'⟩,hm,h2⟩:=h;rw[Bool.and_eq_true,beq_iff_eq]at h2;obtain ⟨e2,e3⟩:=h2;have e3:=Yg e3;simp only at e2 e3;subst e1 e2 e3;obtain ⟨g1,g2⟩:=cQ h1;obtain ⟨u,v,hu,ru,hr⟩:=S.con _ _ hm;exact peI (Rg (S.glo _ g1) hu ru (bW g2)) λσ H Q hq=>el hq λρ F G _ he r hw=>by rw[pR]at hw;exact hw.now r (hr H F)
theorem YK(S:Stat Φ CX k c E B X){op:Operator}{fz:Bool}{a b:Ex}(iha:∀{e},aj c a e=true->PE X e (tE X.K B (wpE Φ a E)))(ihb:∀{e},aj c b e=true->PE X e (tE X.K B (wpE Φ b E))){e:Expr}
  (h:aj c (.bin op fz a b) e=true):PE X e (tE X.K B (wpE Φ (.bin op fz a b) E)):=by
 replace h:=Ci h;obtain ⟨l,o,r,pos,rfl,h⟩:=h
 ·rw[Bool.and_eq_true,Bool.and_eq_true,beq_iff_eq]at h;obtain ⟨⟨e1,h1⟩,h2⟩:=h;subst e1;refine peI (SM (WF _ fz) (iha h1) (ihb h2)) λσ H Q hq=>el hq λρ F G e0 he r hw=>?_;rw[pU]at hw;refine aK e0 he r hw λx G1 H1 F1 v q e1 x1 he1 r1 rv=>aK e1 he1 r1 q λy G2 H2 F2 u q e2 x2 he2 r2 ru=>?_;exact ⟨F2,G2,x,y,r2,Rep.ext x2 rv,ru,Ar (λd G' z=>PV.later z (x1.trans x2)) q⟩
theorem YL(S:Stat Φ CX k c E B X){a:Ex}(iha:∀{e},aj c a e=true->PE X e (tE X.K B (wpE Φ a E))){e:Expr}(h:aj c (.neg a) e=true):PE X e (tE X.K B (wpE Φ (.neg a) E)):=by
 replace h:=Cj h;obtain ⟨_,_,rfl,h⟩:=h
 ·refine peI (SN Tc (iha h)) λσ H Q hq=>el hq λρ F G e0 he r hw=>?_;rw[pW]at hw;refine aK e0 he r hw λx G1 H1 F1 v q e1 x1 he1 r1 rv=>?_;split at q
  ·have e2:v=.int _:=rv;subst e2;exact ⟨_,rfl,q _ _ _ x1 r1 rfl⟩
  ·exact q.elim
theorem Dj(S:Stat Φ CX k c E B X){op:CmpOp}{a b:Ex}(iha:∀{e},aj c a e=true->PE X e (tE X.K B (wpE Φ a E)))(ihb:∀{e},aj c b e=true->PE X e (tE X.K B (wpE Φ b E))){e:Expr}
  (h:aj c (.cmp op a b) e=true):PE X e (tE X.K B (wpE Φ (.cmp op a b) E))/\PT X e (tB' X.K B (wpT Φ (.val (.cmp op a b)) E)):=by
 replace h:=Cm h;obtain ⟨l,o,r,pos,rfl,h⟩:=h
 ·rw[Bool.and_eq_true,Bool.and_eq_true,beq_iff_eq]at h;obtain ⟨⟨e1,h1⟩,h2⟩:=h;subst e1;have hm:=Dg (bN b h2) o;refine ⟨peI (Tf (iK _ (iT S)) (iha h1) (ihb h2) hm) λσ H Q hq=>el hq λρ F G e0 he r hw=>?_,ptI (Th (iK _ (iT S)) (iha h1) (ihb h2) hm) λσ H Q hq=>el hq λρ F G e0 he r hw=>?_⟩
  ·rw[jx]at hw;refine aK e0 he r hw λx G1 H1 F1 v q e1 x1 he1 r1 rv=>aK e1 he1 r1 q λy G2 H2 F2 u q e2 x2 he2 r2 ru=>?_;exact ⟨F2,G2,x,y,r2,Rep.ext x2 rv,ru,gC (λd z=>PV.later z (x1.trans x2)) q⟩
  ·rw[iD,jx]at hw;refine aK e0 he r hw λx G1 H1 F1 v q e1 x1 he1 r1 rv=>aK e1 he1 r1 q λy G2 H2 F2 u q e2 x2 he2 r2 ru=>?_;refine ⟨F2,G2,x,y,r2,Rep.ext x2 rv,ru,gC (λd z=>?_) q⟩;intro H' F' v' x' r' rv';have e3:v'=.bl d:=rv';exact ⟨d,e3,z H' F' ((x1.trans x2).trans x') r'⟩
theorem Dk(S:Stat Φ CX k c E B X){op op':CmpOp}{a b d:Ex}(iha:∀{e},aj c a e=true->PE X e (tE X.K B (wpE Φ a E)))(ihb:∀{e},aj c b e=true->PE X e (tE X.K B (wpE Φ b E)))(ihd:∀{e},aj c d e=true->PE X e (tE X.K B (wpE Φ d E))){e:Expr}
  (h:aj c (.chn op op' a b d) e=true):PE X e (tE X.K B (wpE Φ (.chn op op' a b d) E))/\PT X e (tB' X.K B (wpT Φ (.val (.chn op op' a b d)) E)):=by
 replace h:=Cp h;obtain ⟨l,o,o',m,r,pos,rfl,h⟩:=h
 ·simp only[Bool.and_eq_true,beq_iff_eq]at h;obtain ⟨⟨⟨⟨e1,e2⟩,h1⟩,h2⟩,h3⟩:=h;subst e1 e2;have hm:lastMarks [o,o'] [m,r]=false:=Dg (bN d h3) o';have go:∀{σ H Q ρ F G}{W:Bool->DH->Prop},Ext B.H B.F H F->EnvR X.K H F ρ σ->R X.K H F G->
    wpE Φ a E ρ G (λx G1=>wpE Φ b E ρ G1 λy G2=>aW o (view G2 x) (view G2 y) λt=>match t with |true=>wpE Φ d E ρ G2 λz G3=>aW o' (view G3 y) (view G3 z) λt'=>W t' G3 |false=>W false G2)->
    (∀t G' H' F',W t G'->Ext H F H' F'->R X.K H' F' G'->Q (.bl t) H')->
    um (rC2 X.K (aW o)) (rC2 X.K (aW o')) (tE X.K B (wpE Φ a E)) (tE X.K B (wpE Φ b E)) (tE X.K B (wpE Φ d E)) σ H Q:=by
   intro σ H Q ρ F G W e0 he r hw fin;refine aK e0 he r hw λx G1 H1 F1 v q e1 x1 he1 r1 rv=>aK e1 he1 r1 q λy G2 H2 F2 u q e2 x2 he2 r2 ru=>?_;refine ⟨F2,G2,x,y,r2,Rep.ext x2 rv,ru,gC (λt q=>?_) q⟩;intro H3 F3 v3 x3 r3 rv3;have e3:v3=.bl t:=rv3;refine ⟨t,e3,?_⟩;cases t with
   |true=>
    rw[if_pos rfl];refine aK (e2.trans x3) (he2.ext x3) r3 q λz G4 H4 F4 v4 q e4 x4 he4 r4 rv4=>?_;refine ⟨F4,G4,y,z,r4,Rep.ext (x3.trans x4) ru,rv4,gC (λt' q=>?_) q⟩;intro H5 F5 v5 x5 r5 rv5;have e5:v5=.bl t':=rv5;subst e5;exact fin _ _ _ _ q ((((x1.trans x2).trans x3).trans x4).trans x5) r5
   |false=>
    rw[if_neg Bool.false_ne_true];exact fin _ _ _ _ q ((x1.trans x2).trans x3) r3
  refine ⟨peI (Ti (iK _ (iT S)) (iK _ (iT S)) (iha h1) (ihb h2) (ihd h3) hm) λσ H Q hq=>el hq λρ F G e0 he r hw=>?_,ptI (Tj (iK _ (iT S)) (iK _ (iT S)) (iha h1) (ihb h2) (ihd h3) hm) λσ H Q hq=>el hq λρ F G e0 he r hw=>?_⟩
  ·rw[jy]at hw;exact go (W:=λt G'=>PV X.K H F Q (.bl t) G') e0 he r hw λt G' H' F' z x' r'=>z H' F' _ x' r' rfl
  ·rw[iD,jy]at hw;refine go (W:=λt G'=>PB X.K H F Q t G') e0 he r hw λt G' H' F' z x' r'=>⟨t,rfl,z H' F' x' r'⟩
end
section
variable {Φ:aa} {CX:CXT} {k:Nat} {c:CT} {E:EK} {B:Bs} {X:Cx}
abbrev OkE(Φ:aa)(c:CT)(E:EK)(B:Bs)(X:Cx)(x:Ex):Prop:=∀{e:Expr},aj c x e=true->PE X e (tE X.K B (wpE Φ x E))
abbrev fU(Φ:aa)(c:CT)(E:EK)(B:Bs)(X:Cx)(x:Exs):Prop:=∀{es:List Expr},aJ c x es=true->PA X es (tL X.K B (aO Φ x E))
abbrev OkT(Φ:aa)(c:CT)(E:EK)(B:Bs)(X:Cx)(x:Tx):Prop:=∀{e:Expr},bB c x e=true->PT X e (tB' X.K B (wpT Φ x E))
theorem YM(S:Stat Φ CX k c E B X){a:Ex}(iha:OkE Φ c E B X a){e:Expr}(h:aj c (.not a) e=true):PE X e (tE X.K B (wpE Φ (.not a) E)):=by
 replace h:=Ck h;obtain ⟨_,_,rfl,h⟩:=h
 ·intro pins s σ H Q I q;obtain ⟨ρ,F,G,e0,he,r,hw⟩:=q;rw[pX]at hw;have q':tE X.K B (wpE Φ a E) σ H (λx H1=>∃b,oJ X.K x H1 b/\Q (.bl (!b)) H1):=aK e0 he r hw λx G1 H1 F1 v q e1 x1 he1 r1 rv=>by
   split at q
   ·rename_i b hb;exact ⟨b,Bj r1 rv hb,q _ _ _ x1 r1 rfl⟩
   ·exact q.elim
  refine UnaryOp_ (thn (iha h pins s σ H _ I q') λv s1 ⟨x,H1,I1,r1,b,tb,q1⟩=>?_);refine not_of (thn (yW pins s1 σ H1 x v (λb' H'=>Q (.bl (!b')) H') I1 r1 ⟨b,tb,q1⟩) λb' s2 ⟨H2,I2,q2⟩=>?_);exact ⟨.bl (!b'),H2,I2,rfl,q2⟩
theorem v6{es:List Expr}(h:aJ c .nil es=true):PA X es (tL X.K B (aO Φ .nil E)):=by
 unfold aJ at h;cases es with
 |nil=>exact paI eQ λσ H Q hq=>el hq λρ F G e0 he r hw=>by rw[gA]at hw;exact hw H F [] (Ext.refl _ _) r rfl
 |cons _ _=>cases h
theorem rF{x:Ex}{xs:Exs}(ih:OkE Φ c E B X x)(ihs:fU Φ c E B X xs){es:List Expr}(h:aJ c (.cons x xs) es=true):PA X es (tL X.K B (aO Φ (.cons x xs) E)):=by
 unfold aJ at h;split at h
 ·rename_i e es;rw[Bool.and_eq_true]at h;refine paI (dY (ih h.1) (ihs h.2) (cF e es X.env (cO (bN x h.1)))) λσ H Q hq=>el hq λρ F G e0 he r hw=>?_;rw[fL]at hw;refine aK e0 he r hw λd G1 H1 F1 v q e1 x1 he1 r1 rv=>cJ e1 he1 r1 q λds G2 H2 F2 vs q e2 x2 he2 r2 rvs=>?_;exact q H2 F2 _ (x1.trans x2) r2 ⟨v,vs,rfl,Rep.ext x2 rv,rvs⟩
 ·cases h
theorem YQ(S:Stat Φ CX k c E B X){es:Exs}(ih:fU Φ c E B X es){e:Expr}(h:aj c (.tup es) e=true):PE X e (tE X.K B (wpE Φ (.tup es) E)):=by
 replace h:=Cu h;obtain ⟨_,_,_,rfl,h⟩:=h
 ·refine peI (TX (ih h)) λσ H Q hq=>el hq λρ F G e0 he r hw=>?_;rw[p6]at hw;refine cJ e0 he r hw λds G1 H1 F1 vs q e1 x1 he1 r1 rvs=>⟨by rw[<-rvs.length];exact cN q.1,iJ (PV.later q.2 x1) r1 rvs⟩
theorem YS(S:Stat Φ CX k c E B X){fz:Bool}{es:Exs}(ih:fU Φ c E B X es){e:Expr}(h:aj c (.lst fz es) e=true):PE X e (tE X.K B (wpE Φ (.lst fz es) E)):=by
 replace h:=Cv h;obtain ⟨_,_,rfl,h⟩:=h
 ·refine peI (TY (ih h)) λσ H Q hq=>el hq λρ F G e0 he r hw=>?_;rw[p7]at hw;refine cJ e0 he r hw λds G1 H1 F1 vs q e1 x1 he1 r1 rvs=>⟨by rw[<-rvs.length];exact cN q.1,cX (cU (λd G' z=>PV.later z x1) q.2) r1 rvs⟩
theorem YT(S:Stat Φ CX k c E B X){a i:Ex}(iha:OkE Φ c E B X a)(ihi:OkE Φ c E B X i){e:Expr}(h:aj c (.idx a i) e=true):PE X e (tE X.K B (wpE Φ (.idx a i) E)):=by
 replace h:=Cw h;obtain ⟨_,_,_,rfl,h⟩:=h
 ·rw[Bool.and_eq_true]at h;refine peI (Ul WR (iha h.1) (ihi h.2) (YC (bN i h.2))) λσ H Q hq=>el hq λρ F G e0 he r hw=>?_;rw[p8]at hw;refine aK e0 he r hw λx G1 H1 F1 v q e1 x1 he1 r1 rv=>aK e1 he1 r1 q λy G2 H2 F2 u q e2 x2 he2 r2 ru=>?_;exact ⟨F2,G2,x,y,r2,Rep.ext x2 rv,ru,qJ (λd z=>PV.later z (x1.trans x2)) q⟩
theorem Dl{lo:Ox}(ih:∀x,lo=.ob x->OkE Φ c E B X x){l:Option Expr}(h:fj c lo l=true):PO X l (Dh X.K B (wpO Φ lo E)):=by
 cases lo with
 |no=>
  unfold fj at h;cases l with
  |none=>
   intro pins s σ H Q I q;refine uo pins s σ H Q I ?_;obtain ⟨ρ,F,G,e0,he,r,hw⟩:=q;rw[pK]at hw;exact hw H F (Ext.refl _ _) r
  |some _=>cases h
 |ob x=>
  unfold fj at h;split at h
  ·intro pins s σ H Q I q;refine Ue (ih x rfl h) pins s σ H Q I ?_;obtain ⟨ρ,F,G,e0,he,r,hw⟩:=q;rw[pL]at hw;refine aK e0 he r hw λd G1 H1 F1 v q e1 x1 he1 r1 rv=>?_;split at q
   ·have e2:v=.int _:=rv;exact ⟨_,e2,q H1 F1 x1 r1⟩
   ·exact q.elim
  ·cases h
theorem YW(S:Stat Φ CX k c E B X){fz:Bool}{a:Ex}{lo hi:Ox}(iha:OkE Φ c E B X a)(ihl:∀x,lo=.ob x->OkE Φ c E B X x)(ihh:∀x,hi=.ob x->OkE Φ c E B X x){e:Expr}(h:aj c (.slc fz a lo hi) e=true):
  PE X e (tE X.K B (wpE Φ (.slc fz a lo hi) E)):=by
 replace h:=Cy h;obtain ⟨_,_,_,_,_,rfl,h⟩:=h
 ·rw[Bool.and_eq_true,Bool.and_eq_true]at h;refine peI (Ug (W2 fz) (iha h.1.1) (Dl ihl h.1.2) (Dl ihh h.2)) λσ H Q hq=>el hq λρ F G e0 he r hw=>?_;rw[qd]at hw;refine aK e0 he r hw λx G1 H1 F1 v q e1 x1 he1 r1 rv=>Di e1 he1 r1 q λl G2 H2 F2 q e2 x2 he2 r2=>Di e2 he2 r2 q λu G3 H3 F3 q e3 x3 he3 r3=>?_;exact ⟨F3,G3,x,r3,Rep.ext (x2.trans x3) rv,Aw (λd G' z=>PV.later z ((x1.trans x2).trans x3)) q⟩
theorem YX(S:Stat Φ CX k c E B X){fz:Bool}{a s:Ex}(iha:OkE Φ c E B X a)(ihs:OkE Φ c E B X s){e:Expr}(h:aj c (.rvs fz a s) e=true):PE X e (tE X.K B (wpE Φ (.rvs fz a s) E)):=by
 replace h:=Cz h;obtain ⟨_,_,_,_,rfl,h⟩:=h;rw[Bool.and_eq_true]at h;refine peI (Vz (iha h.1) (ihs h.2)) λσ H Q hq=>el hq λρ F G e0 he r hw=>?_;rw[qb]at hw;refine aK e0 he r hw λx G1 H1 F1 v q e1 x1 he1 r1 rv=>aK e1 he1 r1 q λy G2 H2 F2 u q e2 x2 he2 r2 ru=>?_;have q:=Ax (λd G' z=>PV.later z (x1.trans x2)) q;have rv2:=Rep.ext x2 rv;generalize ea:view G2 x=va at q;unfold gw at q;split at q
 ·obtain ⟨p,vs,e,sq,t⟩:=Rep.list r2 rv2 ea;have ey:=q.1;subst ey;exact ⟨ru,p,vs,e,sq,cX q.2 r2 t.reverse⟩
 ·exact q.elim
theorem YZ(S:Stat Φ CX k c E B X){a:Ex}(iha:OkE Φ c E B X a){e:Expr}(h:aj c (.frz a) e=true):PE X e (tE X.K B (wpE Φ (.frz a) E)):=by
 have h:aj c a e=true:=h;refine peI (iha h) λσ H Q hq=>el hq λρ F G e0 he r hw=>?_;rw[qp]at hw;refine aK e0 he r hw λx G1 H1 F1 v q e1 x1 he1 r1 rv=>?_;split at q
 ·rename_i p;have e2:v=.ref p:=rv;subst e2;split at q
  ·rename_i ds hg;exact q _ _ _ (x1.trans uG) (r1.frz hg) (Wr r1 hg)
  ·exact q.elim
 ·exact q _ _ _ x1 r1 rv
theorem rG{es:List Expr}{xs:Exs}(h:aJ c xs es=true)(env:Env)(pos:Pos):(backTo pos (starEach es env)).any (·.1)=false:=by
 induction es generalizing xs with
 |nil=>rfl
 |cons e es ih=>
  cases xs with
  |nil=>unfold aJ at h;cases h
  |cons x xs=>
   unfold aJ at h;rw[Bool.and_eq_true]at h;rw[cF e es env (cO (bN x h.1))];show (false||(backTo pos (starEach es env)).any (·.1))=false;rw[ih h.2];rfl
theorem jM{e:Expr}{es:List Expr}{xs:Exs}(h:aJ c xs (e::es)=true):∃x xs',xs=.cons x xs'/\aj c x e=true/\aJ c xs' es=true:=by
 cases xs with
 |nil=>unfold aJ at h;cases h
 |cons x xs'=>
  unfold aJ at h;rw[Bool.and_eq_true]at h;exact ⟨x,xs',rfl,h.1,h.2⟩
theorem Dm{ρ:ak}:∀(xs:Exs){es:List Expr}{G:DH}{Q:List D->DH->Prop},aJ c xs es=true->aO Φ xs E ρ G Q->aO Φ xs E ρ G (λds G'=>ds.length=es.length/\Q ds G')
 |.nil,es,G,Q,h,q=>by
  unfold aJ at h;rw[gA]at q ⊢;cases es with
  |nil=>exact ⟨rfl,q⟩
  |cons _ _=>cases h
 |.cons x xs,es,G,Q,h,q=>by
  unfold aJ at h;split at h
  ·rename_i e es;rw[Bool.and_eq_true]at h;rw[fL]at q ⊢;refine aD x (λd G1 q=>cW xs (λds G2 z=>?_) (Dm xs h.2 q)) q;exact ⟨by simp[z.1],z.2⟩
  ·cases h
theorem Y0(S:Stat Φ CX k c E B X){f:String}{xs:Exs}(ih:fU Φ c E B X xs){e:Expr}(h:aj c (.call f xs) e=true):PE X e (tE X.K B (wpE Φ (.call f xs) E)):=by
 replace h:=CG h;obtain ⟨x,p,args,pos,rfl,h⟩:=h
 ·simp only[Bool.and_eq_true,beq_iff_eq,List.any_eq_true]at h;obtain ⟨⟨⟨⟨e1,h1⟩,⟨f',n⟩,hm,e2,e3⟩,h2⟩,h3⟩:=h;simp only at e2 e3;subst e1 e2 e3;obtain ⟨g1,g2⟩:=cQ h1;obtain ⟨fa,fd,ps,F0,hk,hb,hmg⟩:=S.call _ _ hm;obtain ⟨EX,hpass,_,hEX⟩:=S.exc;cases args with
  |nil=>cases h2
  |cons e es=>
   obtain ⟨x0,xs',rfl,c1,c2⟩:=jM h3;refine peI (T5 F0 S.room (S.glo _ g1) hmg hk hb .nil hpass (ih h3) (bW g2) (cF e es X.env (cO (bN x0 c1))) (rG c2 X.env pos)) λσ H Q hq=>el hq λρ F G e0 he r hw=>?_;rw[qe]at hw;refine cJ e0 he r (Dm _ h3 hw) λds G1 H1 F1 vs q e1 x1 he1 r1 rvs=>?_;rw[List.append_nil];refine ⟨by rw[<-rvs.length];exact q.1,F1,G1,ds,r1,rvs,Spec.mono q.2 (λd G' z=>PV.later z x1) λx G' z H' F' x' r'=>?_⟩;exact hEX x G' H' F' z (e1.trans x') r'
theorem Y4(S:Stat Φ CX k c E B X){f:Bf}{xs:Exs}(ih:fU Φ c E B X xs){e:Expr}(h:aj c (.bcl f xs) e=true):PE X e (tE X.K B (wpE Φ (.bcl f xs) E)):=by
 replace h:=CJ h;obtain ⟨x,p,args,pos,rfl,h⟩:=h
 ·simp only[Bool.and_eq_true,beq_iff_eq]at h;obtain ⟨⟨⟨⟨⟨e1,hok⟩,h1⟩,hm⟩,h2⟩,h3⟩:=h;subst e1;obtain ⟨g1,g2⟩:=cQ h1;have hmg:=S.blt _ (List.contains_iff_mem.mp hm);cases args with
  |nil=>cases h2
  |cons e es=>
   obtain ⟨x0,xs',rfl,c1,c2⟩:=jM h3;have hs:=cF e es X.env (cO (bN x0 c1));have ha:=rG c2 X.env pos;have go:∀σ H Q,tE X.K B (wpE Φ (.bcl f (.cons x0 xs')) E) σ H Q->tCB (gD X.K f) (tL X.K B (aO Φ (.cons x0 xs') E)) σ H Q:=λσ H Q hq=>el hq λρ F G e0 he r hw=>by
    rw[qg]at hw;refine cJ e0 he r hw λds G1 H1 F1 vs q e1 x1 he1 r1 rvs=>?_;exact ⟨F1,G1,ds,r1,rvs,Ay (λd z=>PV.later z x1) q⟩
   cases f with
   |len=>exact peI (jo W3 (S.glo _ g1) hmg PySem.boot_len (ih h3) (cP g2) (bW g2) hs ha) go
   |all=>exact peI (jo (W4 S.calm) (S.glo _ g1) hmg Vn (ih h3) (cP g2) (bW g2) hs ha) go
   |int=>exact peI (ik W5 (S.glo _ g1) hmg zT (ih h3) (cP g2) (bW g2) hs ha) go
   |tuple=>exact peI (ik W6 (S.glo _ g1) hmg (by decide +kernel) (ih h3) (cP g2) (bW g2) hs ha) go
   |sum=>cases hok
   |min=>exact peI (jo (Xi S.calm) (S.glo _ g1) hmg Xj (ih h3) (cP g2) (bW g2) hs ha) go
   |max=>cases hok
   |str=>exact peI (ik Xk (S.glo _ g1) hmg zU (ih h3) (cP g2) (bW g2) hs ha) go
theorem Y5(S:Stat Φ CX k c E B X){fz:Bool}{f:Lf}{xs:Exs}(ih:fU Φ c E B X xs){e:Expr}(h:aj c (.lcl fz f xs) e=true):PE X e (tE X.K B (wpE Φ (.lcl fz f xs) E)):=by
 replace h:=CK h;obtain ⟨x,p,args,pos,rfl,h⟩:=h
 ·simp only[Bool.and_eq_true,beq_iff_eq]at h;obtain ⟨⟨⟨⟨⟨e1,hok⟩,h1⟩,hm⟩,h2⟩,h3⟩:=h;subst e1;obtain ⟨g1,g2⟩:=cQ h1;have hmg:=S.blt _ (List.contains_iff_mem.mp hm);cases args with
  |nil=>cases h2
  |cons e es=>
   obtain ⟨x0,xs',rfl,c1,c2⟩:=jM h3;have hs:=cF e es X.env (cO (bN x0 c1));have ha:=rG c2 X.env pos;have go:∀σ H Q,tE X.K B (wpE Φ (.lcl fz f (.cons x0 xs')) E) σ H Q->tCB (vG X.K fz f) (tL X.K B (aO Φ (.cons x0 xs') E)) σ H Q:=λσ H Q hq=>el hq λρ F G e0 he r hw=>by
    rw[qi]at hw;refine cJ e0 he r hw λds G1 H1 F1 vs q e1 x1 he1 r1 rvs=>?_;exact ⟨F1,G1,ds,r1,rvs,Az (λd z=>cU (λd G' z=>PV.later z x1) z) q⟩
   cases f with
   |list=>exact peI (ik (W9 S.calm fz) (S.glo _ g1) hmg ux (ih h3) (cP g2) (bW g2) hs ha) go
   |sorted=>exact peI (jo (Xd fz) (S.glo _ g1) hmg Xa (ih h3) (cP g2) (bW g2) hs ha) go
theorem Dn{K:PySem.W.Frag}{H:Hp}{F:FZ}(n:Nat):Reps K H F (aR 0 n) ((List.range n).map λi=>V.int (i:Nat)):=by
 have e1:aR 0 n=((List.range n).map λi:Nat=>(i:Int)).map D.int:=by unfold aR;rw[List.map_map];refine List.map_congr_left λi _=>?_;show D.int (0+(i:Int))=D.int i;rw[Int.zero_add]
 have e2:((List.range n).map λi:Nat=>V.int (i:Nat))=((List.range n).map λi:Nat=>(i:Int)).map V.int:=by rw[List.map_map];rfl
 rw[e1,e2];exact qR _
theorem Y6(S:Stat Φ CX k c E B X){fz:Bool}{a:Ex}(iha:OkE Φ c E B X a){e:Expr}(h:aj c (.rgl fz a) e=true):PE X e (tE X.K B (wpE Φ (.rgl fz a) E)):=by
 obtain ⟨x,p,x',p',e2,pos',pos,rfl,h'⟩:=CP h;simp only[Bool.and_eq_true,beq_iff_eq]at h';obtain ⟨⟨⟨⟨⟨⟨e1,h1⟩,hm⟩,e3⟩,h2⟩,hr⟩,h3⟩:=h';subst e1 e3;obtain ⟨g1,g2⟩:=cQ h1;obtain ⟨g1',g2'⟩:=cQ h2;have hmg:=S.blt _ (List.contains_iff_mem.mp hm);have hmr:=S.blt _ (List.contains_iff_mem.mp hr);have hs:=cF e2 [] X.env (cO (bN a h3));refine peI (ik (Wj S.calm) (S.glo _ g1) hmg ux (dY (Ai (S.glo _ g1') hmr (dY (iha h3) eQ hs) hs) eQ rfl) (cP g2) (bW g2) rfl rfl) λσ H Q hq=>el hq λρ F G e0 he r hw=>?_;rw[ql]at hw;refine aK e0 he r hw λd G1 H1 F1 v q e1 x1 he1 r1 rv=>?_;split at q
 ·rename_i n;have ev:v=.int n:=rv;subst ev;obtain ⟨⟨h0,hn⟩,q⟩:=q;obtain ⟨m,rfl⟩:=Int.eq_ofNat_of_zero_le h0;refine ⟨_,rfl,λrr hrr=>⟨rr,m,rfl,dw,by omega,λl hl=>?_⟩⟩;have xn:=di (o:=.rng 0 m) r1 hrr;exact cX (cU (λd G' z=>PV.later z (x1.trans xn)) q) (r1.new hrr) (Dn m) l hl
 ·exact q.elim
theorem Y7(S:Stat Φ CX k c E B X){a:Ex}(iha:OkE Φ c E B X a){e:Expr}(h:aj c (.rgt a) e=true):PE X e (tE X.K B (wpE Φ (.rgt a) E)):=by
 obtain ⟨x,p,x',p',e2,pos',pos,rfl,h'⟩:=CQ h;simp only[Bool.and_eq_true,beq_iff_eq]at h';obtain ⟨⟨⟨⟨⟨⟨e1,h1⟩,hm⟩,e3⟩,h2⟩,hr⟩,h3⟩:=h';subst e1 e3;obtain ⟨g1,g2⟩:=cQ h1;obtain ⟨g1',g2'⟩:=cQ h2;have hmg:=S.blt _ (List.contains_iff_mem.mp hm);have hmr:=S.blt _ (List.contains_iff_mem.mp hr);have hs:=cF e2 [] X.env (cO (bN a h3));refine peI (ik (Wk S.calm) (S.glo _ g1) hmg (by decide +kernel) (dY (Ai (S.glo _ g1') hmr (dY (iha h3) eQ hs) hs) eQ rfl) (cP g2) (bW g2) rfl rfl) λσ H Q hq=>el hq λρ F G e0 he r hw=>?_;rw[qm]at hw;refine aK e0 he r hw λd G1 H1 F1 v q e1 x1 he1 r1 rv=>?_;split at q
 ·rename_i n;have ev:v=.int n:=rv;subst ev;obtain ⟨⟨h0,hn⟩,q⟩:=q;obtain ⟨m,rfl⟩:=Int.eq_ofNat_of_zero_le h0;refine ⟨_,rfl,λrr hrr=>⟨rr,m,rfl,dw,by omega,λl hl=>?_⟩⟩;have xn:=di (o:=.rng 0 m) r1 hrr;exact iJ (PV.later q (x1.trans xn)) (r1.new hrr) (Dn m) l hl
 ·exact q.elim
theorem Y8{t:String}(h:eX t=true):bootBuiltins (Str.ofString t)=some (.type t):=by
 simp only[eX,Bool.or_eq_true,beq_iff_eq]at h;rcases h with (((rfl |rfl) |rfl) |rfl) |rfl
 ·exact Ve
 ·exact zT
 ·exact zU
 ·decide +kernel
 ·exact ux
theorem Y9(S:Stat Φ CX k c E B X){a:Ex}{t:String}(iha:OkE Φ c E B X a){e:Expr}(h:aj c (.isi a t) e=true):PE X e (tE X.K B (wpE Φ (.isi a t) E)):=by
 replace h:=CN h;obtain ⟨x,p,v,y,p2,pos,rfl,h⟩:=h
 ·simp only[Bool.and_eq_true,beq_iff_eq]at h;obtain ⟨⟨⟨⟨⟨⟨⟨e1,h1⟩,hm1⟩,h2⟩,e2⟩,h3⟩,hm2⟩,h4⟩:=h;subst e1 e2;obtain ⟨g1,g2⟩:=cQ h1;obtain ⟨g3,g4⟩:=cQ h3;have hmg:=S.blt _ (List.contains_iff_mem.mp hm1);have hmt:=S.blt _ (List.contains_iff_mem.mp hm2);have hty:PE X (.Name (Str.ofString t) p2) (tC (.ty t)):=Vg (S.glo _ g3) hmt (Y8 h4) (cP g4) (bW g4);have sv:=cO (bN a h2);refine peI (jo Vd (S.glo _ g1) hmg Vf (dY (iha h2) (dY hty eQ (cF _ _ _ rfl)) (cF _ _ _ sv)) (cP g2) (bW g2) (cF _ _ _ sv) rfl) λσ H Q hq=>el hq λρ F G e0 he r hw=>?_;rw[qj]at hw;refine aK e0 he r hw λd G1 H1 F1 v q e1 x1 he1 r1 rv=>?_;split at q
  ·rename_i b hb;obtain ⟨T,hk,hT,hb'⟩:=Xp hb;refine ⟨v,t,.type T,b,rfl,Xl r1 rv hk,?_,q _ _ _ x1 r1 rfl⟩;rw[Xo T t hT h4,hb' h4]
  ·exact q.elim
theorem Za(S:Stat Φ CX k c E B X){a:Ex}{C:String}{xs:List String}(iha:OkE Φ c E B X a){e:Expr}(h:aj c (.isx a C xs) e=true):PE X e (tE X.K B (wpE Φ (.isx a C xs) E)):=nomatch (show false=true from h)
theorem Zb{v:Expr}(h:(!rm v)=true)(name:Str)(env:Env):attributeBase v name env (eval v env)=eval v env:=by
 cases v with
 |Call f args kw pos=>
  cases f with
  |Name id p=>
   cases args with
   |nil=>
    cases kw with
    |nil=>cases h
    |cons _ _=>rfl
   |cons _ _=>rfl
  |_=>rfl
 |_=>rfl
theorem all_plain{es:List Expr}{xs:Exs}(h:aJ c xs es=true)(env:Env)(pos:Pos):(backTo pos (starEach es env)).all (λx=>!x.1)=true:=by
 induction es generalizing xs with
 |nil=>rfl
 |cons e es ih=>
  obtain ⟨x0,xs',rfl,c1,c2⟩:=jM h;rw[cF e es env (cO (bN x0 c1))];show (!false&&(backTo pos (starEach es env)).all (λx=>!x.1))=true;rw[ih c2];rfl
theorem Zc(S:Stat Φ CX k c E B X){f:String}{a b ix:Ex}(iha:OkE Φ c E B X a)(ihb:OkE Φ c E B X b)(ihx:OkE Φ c E B X ix){e:Expr}(h:aj c (.rpl f a b ix) e=true):PE X e (tE X.K B (wpE Φ (.rpl f a b ix) E)):=nomatch (show false=true from h)
theorem Zd(S:Stat Φ CX k c E B X){m:Mf}{o:Ex}{xs:Exs}(iho:OkE Φ c E B X o)(ih:fU Φ c E B X xs){e:Expr}(h:aj c (.mth m o xs) e=true):PE X e (tE X.K B (wpE Φ (.mth m o xs) E)):=by
 replace h:=CW h;obtain ⟨v,x,apos,args,cpos,rfl,h⟩:=h
 ·simp only[Bool.and_eq_true,beq_iff_eq,decide_eq_true_iff]at h;obtain ⟨⟨⟨⟨⟨⟨e1,h1⟩,hb⟩,hl⟩,hn⟩,h2⟩,h3⟩:=h;subst e1;cases args with
  |nil=>cases h2
  |cons e es=>
   obtain ⟨x0,xs',rfl,c1,c2⟩:=jM h3;have hs:=cF e es X.env (cO (bN x0 c1));have ha:=rG c2 X.env cpos;have hbase:=Zb hb (Str.ofString m.name) X.env;have hfew:((backTo cpos (starEach (e::es) X.env)).all (λx=>!x.1)&&(backToKw cpos (keywordEach [] X.env)).all (λx=>x.1.isSome)
    &&decide ((e::es).length+([]:List Keyword).length+(if ([]:List Keyword).isEmpty then 0 else 1) < 30))=true:=by
    rw[all_plain h3 X.env cpos];have:(e::es).length+([]:List Keyword).length+(if ([]:List Keyword).isEmpty then 0 else 1) < 30:=by have e0:(if ([]:List Keyword).isEmpty=true then 0 else 1)=0:=rfl;rw[e0];show (e::es).length+0+0 < 30;omega
    rw[decide_eq_true this];rfl
   have hline:(apos.endLine==cpos.line)=true:=by rw[beq_iff_eq];exact hl
   have lst:∀{d:D} {u:V} {G1:DH} {H1:Hp} {F1:FZ},(match d with |.ref p=>(match G1 p with |some (.lst _)=>True |none=>False) |_=>False)->R X.K H1 F1 G1->Rep X.K H1 F1 d u->tyV X.K "list" u H1:=λ{d u G1 H1 F1} q r1 ru=>by
    split at q
    ·rename_i p;split at q
     ·rename_i ds hg;obtain ⟨vs,hv,_⟩:=r1.lst hg;have e2:u=.ref p:=ru;subst e2;exact .inl ⟨rfl,vs,SqL.of hv⟩
     ·exact q.elim
    ·exact q.elim
   have lstV:∀{d:D} {u:V} {G1:DH} {H1:Hp} {F1:FZ},uM (view G1 d)->R X.K H1 F1 G1->Rep X.K H1 F1 d u->tyV X.K "list" u H1:=λ{d u G1 H1 F1} q r1 ru=>by
    generalize hv:view G1 d=w at q;cases w with
    |lst ds=>
     obtain ⟨a,vs,rfl,sq,_⟩:=Rep.list r1 ru hv;exact .inl ⟨rfl,vs,sq⟩
    |_=>exact (show False from q).elim
   cases m with
   |join=>
    refine peI (gm PySem.F.plainAttrs_str PySem.F.slot_str_join PySem.F.type_str_join Xq (iho h1) (ih h3) hbase hfew hline hs ha) λσ H Q hq=>el hq λρ F G e0 he r hw=>?_;rw[dZ]at hw;refine aK e0 he r hw λd G1 H1 F1 u q e1 x1 he1 r1 ru=>⟨?_,cJ e1 he1 r1 q.2 λds G2 H2 F2 vs q e2 x2 he2 r2 rvs=>?_⟩
    ·have q1:=q.1;cases d with
     |str l=>obtain ⟨e2,_⟩:=ru;subst e2;exact rfl
     |_=>exact (show False from q1).elim
    ·exact ⟨F2,G2,d,ds,r2,Rep.ext x2 ru,rvs,fM (λd G' z=>PV.later z (x1.trans x2)) q⟩
   |append=>
    refine peI (gm PySem.F.plainAttrs_list PySem.F.slot_list_append PySem.F.type_list_append Xr (iho h1) (ih h3) hbase hfew hline hs ha) λσ H Q hq=>el hq λρ F G e0 he r hw=>?_;rw[dZ]at hw;refine aK e0 he r hw λd G1 H1 F1 u q e1 x1 he1 r1 ru=>⟨?_,cJ e1 he1 r1 q.2 λds G2 H2 F2 vs q e2 x2 he2 r2 rvs=>?_⟩
    ·refine lst (d:=d) (G1:=G1) ?_ r1 ru;have q1:=q.1;cases d <;> first |exact q1 |exact (show False from q1).elim
    ·exact ⟨F2,G2,d,ds,r2,Rep.ext x2 ru,rvs,fM (λd G' z=>PV.later z (x1.trans x2)) q⟩
   |extend=>
    refine peI (gm PySem.F.plainAttrs_list PySem.F.slot_list_extend PySem.F.type_list_extend XH (iho h1) (ih h3) hbase hfew hline hs ha) λσ H Q hq=>el hq λρ F G e0 he r hw=>?_;rw[dZ]at hw;refine aK e0 he r hw λd G1 H1 F1 u q e1 x1 he1 r1 ru=>⟨?_,cJ e1 he1 r1 q.2 λds G2 H2 F2 vs q e2 x2 he2 r2 rvs=>?_⟩
    ·refine lst (d:=d) (G1:=G1) ?_ r1 ru;have q1:=q.1;cases d <;> first |exact q1 |exact (show False from q1).elim
    ·exact ⟨F2,G2,d,ds,r2,Rep.ext x2 ru,rvs,fM (λd G' z=>PV.later z (x1.trans x2)) q⟩
   |insert=>
    refine peI (gm PySem.F.plainAttrs_list PySem.F.slot_list_insert PySem.F.type_list_insert XC (iho h1) (ih h3) hbase hfew hline hs ha) λσ H Q hq=>el hq λρ F G e0 he r hw=>?_;rw[dZ]at hw;refine aK e0 he r hw λd G1 H1 F1 u q e1 x1 he1 r1 ru=>⟨?_,cJ e1 he1 r1 q.2 λds G2 H2 F2 vs q e2 x2 he2 r2 rvs=>?_⟩
    ·refine lst (d:=d) (G1:=G1) ?_ r1 ru;have q1:=q.1;cases d <;> first |exact q1 |exact (show False from q1).elim
    ·exact ⟨F2,G2,d,ds,r2,Rep.ext x2 ru,rvs,fM (λd G' z=>PV.later z (x1.trans x2)) q⟩
   |pop=>
    refine peI (gm PySem.F.plainAttrs_list PySem.F.slot_list_pop PySem.F.type_list_pop XD (iho h1) (ih h3) hbase hfew hline hs ha) λσ H Q hq=>el hq λρ F G e0 he r hw=>?_;rw[dZ]at hw;refine aK e0 he r hw λd G1 H1 F1 u q e1 x1 he1 r1 ru=>⟨?_,cJ e1 he1 r1 q.2 λds G2 H2 F2 vs q e2 x2 he2 r2 rvs=>?_⟩
    ·refine lst (d:=d) (G1:=G1) ?_ r1 ru;have q1:=q.1;cases d <;> first |exact q1 |exact (show False from q1).elim
    ·exact ⟨F2,G2,d,ds,r2,Rep.ext x2 ru,rvs,fM (λd G' z=>PV.later z (x1.trans x2)) q⟩
   |count=>
    refine peI (gm PySem.F.plainAttrs_list PySem.F.slot_list_count PySem.F.type_list_count Xu (iho h1) (ih h3) hbase hfew hline hs ha) λσ H Q hq=>el hq λρ F G e0 he r hw=>?_;rw[dZ]at hw;refine aK e0 he r hw λd G1 H1 F1 u q e1 x1 he1 r1 ru=>⟨lstV q.1 r1 ru,cJ e1 he1 r1 q.2 λds G2 H2 F2 vs q e2 x2 he2 r2 rvs=>?_⟩;exact ⟨F2,G2,d,ds,r2,Rep.ext x2 ru,rvs,fM (λd G' z=>PV.later z (x1.trans x2)) q⟩
   |index=>
    refine peI (gm PySem.F.plainAttrs_list PySem.F.slot_list_index PySem.F.type_list_index Xv (iho h1) (ih h3) hbase hfew hline hs ha) λσ H Q hq=>el hq λρ F G e0 he r hw=>?_;rw[dZ]at hw;refine aK e0 he r hw λd G1 H1 F1 u q e1 x1 he1 r1 ru=>⟨lstV q.1 r1 ru,cJ e1 he1 r1 q.2 λds G2 H2 F2 vs q e2 x2 he2 r2 rvs=>?_⟩;exact ⟨F2,G2,d,ds,r2,Rep.ext x2 ru,rvs,fM (λd G' z=>PV.later z (x1.trans x2)) q⟩
end
section
variable {Φ:aa} {CX:CXT} {k:Nat} {c:CT} {E:EK} {B:Bs} {X:Cx}
def EachE(Φ:aa)(c:CT)(E:EK)(B:Bs)(X:Cx):Exs->Prop
 |.nil=>True
 |.cons e es=>OkE Φ c E B X e/\EachE Φ c E B X es
def rH(Φ:aa)(c:CT)(E:EK)(B:Bs)(X:Cx):Txs->Prop
 |.nil=>True
 |.cons e es=>OkT Φ c E B X e/\rH Φ c E B X es
theorem Ze(S:Stat Φ CX k c E B X){es:Exs}(ih:EachE Φ c E B X es){e:Expr}(h:aj c (.fst es) e=true):PE X e (tE X.K B (wpE Φ (.fst es) E)):=nomatch (show false=true from h)
theorem EachE.oks:∀{xs:Exs},EachE Φ c E B X xs->fU Φ c E B X xs
 |.nil,_=>by intro h;exact v6 h
 |.cons x xs,hh=>by intro h;exact rF hh.1 (EachE.oks hh.2) h
def rJ(Φ:aa)(E:EK)(isAnd:Bool)(x:Ex)(xs:Exs):ak->DH->(D->DH->Prop)->Prop:=λρ G kk=>wpE Φ x E ρ G λd G1=>match d with |.bl b=>wpB Φ xs isAnd b E ρ G1 (λc G2=>kk (.bl c) G2) |_=>False
theorem Do{isAnd:Bool}{pos:Pos}:∀(xs:Exs){x:Ex},OkE Φ c E B X x->EachE Φ c E B X xs->∀{v:Expr}{vs:List Expr},aj c x v=true->aJ c xs vs=true->
  PE X (.BoolOp (if isAnd then .And else .Or) (v::vs) pos) (tE X.K B (rJ Φ E isAnd x xs))
 |.nil,x,ih,_,v,vs,h1,h2=>by
  unfold aJ at h2;cases vs with
  |nil=>
   refine peI (Ru (ih h1)) λσ H Q hq=>el hq λρ F G e0 he r hw=>?_;unfold rJ at hw;refine aK e0 he r hw λd G1 H1 F1 u q e1 x1 he1 r1 ru=>?_;split at q
   ·rw[pI]at q;exact q _ _ _ x1 r1 ru
   ·exact q.elim
  |cons _ _=>cases h2
 |.cons y ys,x,ih,hh,v,vs,h1,h2=>by
  unfold aJ at h2;split at h2
  ·rename_i w ws;rw[Bool.and_eq_true]at h2;have rest:=Do (isAnd:=isAnd) (pos:=pos) ys hh.1 hh.2 h2.1 h2.2;cases isAnd with
   |true=>
    refine peI (Rv (ih h1) rest) λσ H Q hq=>el hq λρ F G e0 he r hw=>?_;unfold rJ at hw;refine aK e0 he r hw λd G1 H1 F1 u q e1 x1 he1 r1 ru=>?_;split at q
    ·rename_i b;refine ⟨b,ru,?_⟩;rw[ju]at q;cases b with
     |true=>
      rw[if_pos rfl];exact ⟨ρ,F1,G1,e1,he1,r1,aD y (λd G' z=>by
       cases d <;> first |exact (show False from z).elim |exact qL ys (λc G2 z=>PV.later z x1) z) q⟩
     |false=>
      rw[if_neg Bool.false_ne_true];exact q _ _ _ x1 r1 rfl
    ·exact q.elim
   |false=>
    refine peI (Rw (ih h1) rest) λσ H Q hq=>el hq λρ F G e0 he r hw=>?_;unfold rJ at hw;refine aK e0 he r hw λd G1 H1 F1 u q e1 x1 he1 r1 ru=>?_;split at q
    ·rename_i b;refine ⟨b,ru,?_⟩;rw[ju]at q;cases b with
     |false=>
      rw[if_neg Bool.false_ne_true];exact ⟨ρ,F1,G1,e1,he1,r1,aD y (λd G' z=>by
       cases d <;> first |exact (show False from z).elim |exact qL ys (λc G2 z=>PV.later z x1) z) q⟩
     |true=>
      rw[if_pos rfl];exact q _ _ _ x1 r1 rfl
    ·exact q.elim
  ·cases h2
theorem Zf{isAnd:Bool}{x:Ex}{xs:Exs}(ih:OkE Φ c E B X x)(hh:EachE Φ c E B X xs){e:Expr}(h:aj c (.boo isAnd x xs) e=true):PE X e (tE X.K B (wpE Φ (.boo isAnd x xs) E)):=by
 replace h:=Cq h;obtain ⟨_,_,_,_,rfl,h⟩:=h
 ·simp only[Bool.and_eq_true,beq_iff_eq]at h;obtain ⟨⟨e1,h1⟩,h2⟩:=h;subst e1;refine peI (Do xs ih hh h1 h2) λσ H Q hq=>el hq λρ F G e0 he r hw=>⟨ρ,F,G,e0,he,r,?_⟩;rw[pY]at hw;exact hw
theorem Zg{t:Tx}{a b:Ex}(iht:OkT Φ c E B X t)(iha:OkE Φ c E B X a)(ihb:OkE Φ c E B X b){e:Expr}(h:aj c (.ife t a b) e=true):PE X e (tE X.K B (wpE Φ (.ife t a b) E)):=by
 replace h:=Cr h;obtain ⟨_,_,_,_,rfl,h⟩:=h
 ·simp only[Bool.and_eq_true]at h;obtain ⟨⟨h1,h2⟩,h3⟩:=h;refine peI (Rx (iht h1) (iha h2) (ihb h3)) λσ H Q hq=>el hq λρ F G e0 he r hw=>?_;rw[pZ]at hw;refine iR e0 he r hw λb' G1 H1 F1 q e1 x1 he1 r1=>?_;cases b' with
  |true=>
   rw[if_pos rfl];exact ⟨ρ,F1,G1,e1,he1,r1,aD a (λd G' z=>PV.later z x1) q⟩
  |false=>
   rw[if_neg Bool.false_ne_true];exact ⟨ρ,F1,G1,e1,he1,r1,aD b (λd G' z=>PV.later z x1) q⟩
theorem Zh{x:Ex}(ih:OkE Φ c E B X x){e:Expr}(hp:gJ e=true)(h:aj c x e=true):PT X e (tB' X.K B (wpT Φ (.val x) E)):=by
 refine ptI (Tp (ih h) (YD hp X.env)) λσ H Q hq=>el hq λρ F G e0 he r hw=>?_;rw[iD]at hw;refine aK e0 he r hw λd G1 H1 F1 u q e1 x1 he1 r1 ru=>?_;split at q
 ·rename_i b hb;exact ⟨b,Bj r1 ru hb,q _ _ x1 r1⟩
 ·exact q.elim
theorem Zi{t:Tx}(ih:OkT Φ c E B X t){e:Expr}(h:bB c (.not t) e=true):PT X e (tB' X.K B (wpT Φ (.not t) E)):=by
 replace h:=Yn h;obtain ⟨_,_,rfl,h⟩:=h
 ·refine ptI (Rp (ih h)) λσ H Q hq=>el hq λρ F G e0 he r hw=>?_;rw[pF]at hw;exact iR e0 he r hw λb G1 H1 F1 q e1 x1 he1 r1=>q _ _ x1 r1
def jN(Φ:aa)(E:EK)(isAnd:Bool)(x:Tx)(xs:Txs):ak->DH->(Bool->DH->Prop)->Prop:=λρ G kk=>wpT Φ x E ρ G λb G1=>eY Φ xs isAnd b E ρ G1 kk
theorem Dp{isAnd:Bool}{pos:Pos}:∀(xs:Txs){x:Tx},OkT Φ c E B X x->rH Φ c E B X xs->∀{v:Expr}{vs:List Expr},bB c x v=true->gK c xs vs=true->
  PW X (.BoolOp (if isAnd then .And else .Or) (v::vs) pos) (tB' X.K B (jN Φ E isAnd x xs))
 |.nil,x,ih,_,v,vs,h1,h2=>by
  unfold gK at h2;cases vs with
  |nil=>
   have go:∀σ H Q,tB' X.K B (jN Φ E isAnd x .nil) σ H Q->tB' X.K B (wpT Φ x E) σ H Q:=λσ H Q hq=>el hq λρ F G e0 he r hw=>by
    unfold jN at hw;refine ⟨ρ,F,G,e0,he,r,cV x (λb G1 q=>?_) hw⟩;rw[pJ]at q;exact q
   cases isAnd with
   |true=>exact pwI (Rk (ih h1)) go
   |false=>exact pwI (Rm (ih h1)) go
  |cons _ _=>cases h2
 |.cons y ys,x,ih,hh,v,vs,h1,h2=>by
  unfold gK at h2;split at h2
  ·rename_i w ws;rw[Bool.and_eq_true]at h2;have rest:=Dp (isAnd:=isAnd) (pos:=pos) ys hh.1 hh.2 h2.1 h2.2;cases isAnd with
   |true=>
    refine pwI (Rn (ih h1) rest) λσ H Q hq=>el hq λρ F G e0 he r hw=>?_;unfold jN at hw;refine iR e0 he r hw λb G1 H1 F1 q e1 x1 he1 r1=>?_;rw[jw]at q;cases b with
    |true=>
     rw[if_pos rfl];exact ⟨ρ,F1,G1,e1,he1,r1,cV y (λb' G' z=>qM ys (λc G2 z=>PB.later z x1) z) q⟩
    |false=>
     rw[if_neg Bool.false_ne_true];exact q _ _ x1 r1
   |false=>
    refine pwI (Ro (ih h1) rest) λσ H Q hq=>el hq λρ F G e0 he r hw=>?_;unfold jN at hw;refine iR e0 he r hw λb G1 H1 F1 q e1 x1 he1 r1=>?_;rw[jw]at q;cases b with
    |false=>
     rw[if_neg Bool.false_ne_true];exact ⟨ρ,F1,G1,e1,he1,r1,cV y (λb' G' z=>qM ys (λc G2 z=>PB.later z x1) z) q⟩
    |true=>
     rw[if_pos rfl];exact q _ _ x1 r1
  ·cases h2
theorem Zj{isAnd:Bool}{x:Tx}{xs:Txs}(ih:OkT Φ c E B X x)(hh:rH Φ c E B X xs){e:Expr}(h:bB c (.boo isAnd x xs) e=true):PT X e (tB' X.K B (wpT Φ (.boo isAnd x xs) E)):=by
 replace h:=Yo h;obtain ⟨_,_,_,_,rfl,h⟩:=h
 ·simp only[Bool.and_eq_true,beq_iff_eq]at h;obtain ⟨⟨e1,h1⟩,h2⟩:=h;subst e1;refine ptI (PW.pt (Dp xs ih hh h1 h2)) λσ H Q hq=>el hq λρ F G e0 he r hw=>⟨ρ,F,G,e0,he,r,?_⟩;rw[pG]at hw;exact hw
def tG(K:PySem.W.Frag)(B:Bs)(t:Tg):TG:=λv σ H Q=>∃ρ F G d,Ext B.H B.F H F/\EnvR K H F ρ σ/\R K H F G/\Rep K H F d v/\bf t d ρ G (λρ'=>∀σ',EnvR K H F ρ' σ'->Q σ' H)
def tGs(K:PySem.W.Frag)(B:Bs)(t:Tgs):TGs:=λvs σ H Q=>∃ρ F G ds,Ext B.H B.F H F/\EnvR K H F ρ σ/\R K H F G/\Reps K H F ds vs/\bK t ds ρ G (λρ'=>∀σ',EnvR K H F ρ' σ'->Q σ' H)
theorem rK:∀{ts:Tgs}{es:List Expr}{env:Env},cA c ts es=true->(assignEach es env).length=es.length/\(assignEach es env).findIdx? (·.1)=none/\(assignEach es env).map (·.2)=es.map λe=>assign e env
 |.nil,[],env,_=>⟨rfl,rfl,rfl⟩
 |.nil,_::_,env,h=>by unfold cA at h;cases h
 |.cons t r,[],env,h=>by unfold cA at h;cases h
 |.cons t r,e::es,env,h=>by
  unfold cA at h;rw[Bool.and_eq_true]at h;obtain ⟨h1,h2,h3⟩:=rK (env:=env) h.2;have hs:assignEach (e::es) env=(false,assign e env)::assignEach es env:=by
   cases t with
   |nm i=>
    have h':=h.1;obtain ⟨_,_,rfl,_⟩:=vY h';rfl
   |tp ts=>
    have h':=h.1;obtain ⟨_,_,_,rfl,_⟩:=vZ h';rfl
  rw[hs];refine ⟨by simp[h1],?_,by simp[h3]⟩;rw[List.findIdx?_cons];simp[h2]
section
variable {prog:Program} {w:World} {A:Around} {E:Value->Shared->Prop} {s:Shared}
theorem Dq{it t:Addr}{items:Array Value}(hne:t≠it):∀(n i:Nat)(s:Shared)(Q:List Value->Shared->Prop),s.heap.IsListIter it t i->s.heap.IsList t items->i+n<=items.size->
  (∀h',h'.IsListIter it t (i+n)->Heap.SameBut it s.heap h'->Q ((items.toList.drop i).take n) { s with heap:=h' })->wpAny (model prog w) A (draw (.ref it) n) Q E s
 |0,i,s,Q,hit,_,_,hQ=>by
  show wpAny _ _ (pure []) Q E s;exact wpAny_pure (by simpa using hQ s.heap hit (Heap.SameBut.refl ..))
 |n+1,i,s,Q,hit,ht,hle,hQ=>by
  have hlt:i < items.size:=by omega
  show wpAny _ _ (pyNext (.ref it) >>= _) Q E s;refine wpAny_bind (wpAny_pyNext_list_item hit ht (x:=items[i]) (by simp[hlt]) λh₁ hit₁ hs₁=>?_);refine wpAny_bind (wpAny_holding (Dq hne n (i+1) _ _ hit₁ (ht.extBut hs₁.extBut hne) (by omega) λh₂ hit₂ hs₂=>wpAny_pure ?_));have hd:items.toList.drop i=items[i]::items.toList.drop (i+1):=by simp[List.drop_eq_getElem_cons,hlt]
  have:=hQ h₂ (by rw[show i+(n+1)=i+1+n by omega];exact hit₂) (hs₁.trans hs₂);rw[hd,List.take_succ_cons]at this;exact this
theorem Zk{t:Addr}{items:Array Value}{Q:List Value->Shared->Prop}(hh:A.handled=none)(ht:s.heap.IsList t items)
  (hQ:∀h',Heap.ExtBut s.heap.objs.size s.heap h'->Q items.toList { s with heap:=h' }):wpAny (model prog w) A (unpackItems (.ref t) items.size none) Q E s:=by
 have hlt:t≠s.heap.objs.size:=by obtain ⟨o,ho,_⟩:=ht;exact Nat.ne_of_lt (Heap.lt_size ho)
 unfold unpackItems;refine wpAny_bind ?_;unfold notIterableAtAll;refine wpAny_bind (wpAny_specialOf ht.typeIs PySem.F.slot_list_iter.lookup ?_);refine wpAny_pure ?_;simp only[Bool.false_eq_true,if_false];refine wpAny_bind (wpAny_holding (wpAny_pyIter_list ht ?_));refine wpAny_bind (wpAny_holding (Dq hlt items.size 0 _ _ ⟨_,Heap.get?_push_size _ rfl,rfl,rfl⟩ (ht.push _) (by omega) λh₁ hit₁ hs₁=>?_));have hall:List.take items.size (List.drop 0 items.toList)=items.toList:=by rw[List.drop_zero];exact List.take_of_length_le (by simp)
 rw[hall];rw[if_neg (by simp)];have ht₁:h₁.IsList t items:=(ht.push _).extBut hs₁.extBut hlt;refine wpAny_bind (wpAny_holding (wpAny_pyNext_list_end hh hit₁ ht₁ (by simp) λh₂ he₂=>?_));simp only[Option.isSome_none,Bool.false_eq_true,if_false];refine wpAny_pure (hQ h₂ λb o hb e=>he₂ b o hb (hs₁.extBut b o hb (Heap.get?_push_of_some _ e)))
theorem Zm{env:Env}{elts:List Expr}{x1}{pos:Pos}{t:Addr}{items:Array Value}{Q:Unit->Shared->Prop}(hh:A.handled=none)(ht:s.heap.IsList t items)
  (hn:(assignEach elts env).length=items.size) (hstar:(assignEach elts env).findIdx? (·.1)=none)
  (h:∀h',Heap.ExtBut s.heap.objs.size s.heap h'->wpAny (model prog w) A (assignInOrder ((assignEach elts env).map (·.2)) items.toList) Q E { s with heap:=h' }):
  wpAny (model prog w) A (assign (.Tuple elts x1 pos) env (.ref t)) Q E s:=by
 rw[assign_Tuple];refine wpAny_bind (wpAny_standAt ?_);unfold unpack;rw[hn,hstar];exact wpAny_bind (wpAny_holding (Zk hh ht h))
end
section
variable {X:Cx} {pos:Pos}
def Zn(K:PySem.W.Frag)(n:Nat)(t:TGs):TG:=λv σ H Q=>∃a xs,v=.ref a/\SqL K H a xs/\xs.length=n/\t xs σ H Q
theorem Zo{es:List Expr}{k:Nat}{t:TGs}{n:Nat}(hc:X.calm=true)(h:PGs X es t)
  (hn:(assignEach es X.env).length=n:=by rfl) (hst:(assignEach es X.env).findIdx? (·.1)=none:=by rfl):PG X (.Tuple es k pos) (Zn X.K n t):=by
 intro pins s σ H v u Q I r hw;obtain ⟨a,xs,e1,hq,hl,hw⟩:=hw;subst e1;cases r;obtain ⟨its,rv,pl,hz⟩:=I.list hq;refine Zm (I.ok.hd hc) pl.isList (by simp[hn,<-hl,rv.length]) hst λh' hx=>?_;have I1:Inv X pins σ H { s with heap:=h' }:=I.kept (t':=s.toks) λb o e=>hx b o (Nat.ne_of_lt (Heap.lt_size e)) e;exact h pins _ σ H xs _ Q I1 (by simpa using rv) hw
end
mutual
theorem rM(S:Stat Φ CX k c E B X):∀(t:Tg){e:Expr},cH c t e=true->PG X e (tG X.K B t)
 |.nm i,e,h=>by
  replace h:=vY h;obtain ⟨x,pos,rfl,h⟩:=h
  ·skip;rw[Bool.and_eq_true,beq_iff_eq]at h;obtain ⟨l,f⟩:=S.sto x h.2;intro pins s σ H v u Q I rv q;refine R0 (i:=i) S.nd (by rw[S.N];exact h.1) l f pins s σ H v u Q I rv ?_;obtain ⟨ρ,F,G,d,e0,he,r,rd,hw⟩:=q;unfold bf at hw;exact hw _ (he.set rd i)
 |.tp ts,e,h=>by
  replace h:=vZ h;obtain ⟨es,kk,pos,rfl,h⟩:=h
  ·skip;obtain ⟨h1,h2,h3⟩:=rK (env:=X.env) h;intro pins s σ H v u Q I rv q;obtain ⟨ρ,F,G,d,e0,he,r,rd,hw⟩:=q;unfold bf at hw;split at hw
   ·rename_i ds;refine R7 (n:=es.length) S.calm (v7 S ts h) h1 h2 pins s σ H v u Q I rv ?_;obtain ⟨a,vs,e1,q,t⟩:=rd;refine ⟨a,vs,e1,q.sq,?_,ρ,F,G,ds,e0,he,r,t,hw⟩;rw[<-t.length];exact v8 ts h hw
   ·rename_i ds;refine Zo (n:=es.length) S.calm (v7 S ts h) h1 h2 pins s σ H v u Q I rv ?_;obtain ⟨a,vs,e1,q,t⟩:=rd;refine ⟨a,vs,e1,q.sq,?_,ρ,F,G,ds,e0,he,r,t,hw⟩;rw[<-t.length];exact v8 ts h hw
   ·exact hw.elim
theorem v7(S:Stat Φ CX k c E B X):∀(ts:Tgs){es:List Expr},cA c ts es=true->PGs X es (tGs X.K B ts)
 |.nil,es,h=>by
  unfold cA at h;cases es with
  |nil=>
   intro pins s σ H vs us Q I rv q;refine R4 pins s σ H vs us Q I rv ?_;obtain ⟨ρ,F,G,ds,e0,he,r,rd,hw⟩:=q;unfold bK at hw;split at hw
   ·exact ⟨rd,hw _ he⟩
   ·exact hw.elim
  |cons _ _=>cases h
 |.cons t r,es,h=>by
  unfold cA at h;split at h
  ·rename_i e es;rw[Bool.and_eq_true]at h;intro pins s σ H vs us Q I rv q;have hs:(assignEach (e::es) X.env).map (·.2)=assign e X.env::(assignEach es X.env).map (·.2):=by
    have hh:cA c (.cons t r) (e::es)=true:=by unfold cA;show (cH c t e&&cA c r es)=true;rw[h.1,h.2];rfl
    rw[(rK (env:=X.env) hh).2.2,(rK (env:=X.env) h.2).2.2];rfl
   refine R5 (rM S t h.1) (v7 S r h.2) hs pins s σ H vs us Q I rv ?_;obtain ⟨ρ,F,G,ds,e0,he,rr,rd,hw⟩:=q;unfold bK at hw;split at hw
   ·rename_i d ds;obtain ⟨v,vs',e1,rd1,rds⟩:=rd;refine ⟨v,vs',e1,ρ,F,G,d,e0,he,rr,rd1,eZ (λρ' z σ' he'=>?_) t hw⟩;exact ⟨ρ',F,G,ds,e0,he',rr,rds,z⟩
   ·exact hw.elim
  ·cases h
theorem v8{G:DH}:∀(ts:Tgs){es:List Expr}{ds:List D}{ρ:ak}{Q:ak->Prop},cA c ts es=true->bK ts ds ρ G Q->ds.length=es.length
 |.nil,es,ds,ρ,Q,h,q=>by
  unfold cA at h;unfold bK at q;split at q
  ·cases es with
   |nil=>rfl
   |cons _ _=>cases h
  ·exact q.elim
 |.cons t r,es,ds,ρ,Q,h,q=>by
  unfold cA at h;split at h
  ·rw[Bool.and_eq_true]at h;unfold bK at q;split at q
   ·rename_i d ds;have:∃ρ',bK r ds ρ' G Q:=Ds t q;obtain ⟨ρ',q'⟩:=this;have:=v8 r h.2 q';simp[this]
   ·exact q.elim
  ·cases h
theorem Ds{G:DH}:∀(t:Tg){d:D}{ρ:ak}{Q:ak->Prop},bf t d ρ G Q->∃ρ',Q ρ'
 |.nm i,d,ρ,Q,q=>⟨_,q⟩
 |.tp ts,d,ρ,Q,q=>by
  unfold bf at q;split at q
  ·exact v9 ts q
  ·exact v9 ts q
  ·exact q.elim
theorem v9{G:DH}:∀(ts:Tgs){ds:List D}{ρ:ak}{Q:ak->Prop},bK ts ds ρ G Q->∃ρ',Q ρ'
 |.nil,ds,ρ,Q,q=>by
  unfold bK at q;split at q
  ·exact ⟨_,q⟩
  ·exact q.elim
 |.cons t r,ds,ρ,Q,q=>by
  unfold bK at q;split at q
  ·obtain ⟨ρ',q'⟩:=Ds t q;exact v9 r q'
  ·exact q.elim
end
end
structure WalkJ(K:PySem.W.Frag)(H:Hp)(F:FZ)(items:List D)(g:Hld)(J:It):Prop where
 go:∀H' F' G i,Ext H F H' F'->R K H' F' G->held g G->i < items.length->J.go i H'
 stop:∀H' F' G,Ext H F H' F'->R K H' F' G->held g G->J.stop items.length H'
 yld:∀H' F' i x H'' d G,Ext H F H' F'->R K H' F' G->held g G->items[i]?=some d->J.yld i H' x H''->Ext H' F' H'' F'/\R K H'' F' G/\Rep K H'' F' d x
section
variable {K:PySem.W.Frag} {H:Hp} {F:FZ}
structure Src(K:PySem.W.Frag)(H:Hp)(F:FZ)(u:Value)(ds:List D)(g:Hld)(k:SK):Prop where
 val:k.val=u
 sat:∀H' F' G,Ext H F H' F'->R K H' F' G->held g G->∃vs,k.Sat H' vs/\Reps K H' F' ds vs
theorem rN{d:D}{v:V}{u:Value}{G:DH}{ds:List D×Hld}(h:Rep K H F d v)(r:RelV v u)(e:itemsOf G d=some ds):∃k,Src K H F u ds.1 ds.2 k:=by
 cases d with
 |lst xs=>
  simp only[itemsOf,Option.some.injEq]at e;subst e;obtain ⟨a,vs,e1,q,t⟩:=h;subst e1;have hu:u=Value.ref a:=r;subst hu;exact ⟨.lst a,rfl,λH' F' G' x _ _=>⟨vs,(FzL.ext x q).2,Reps.ext x t⟩⟩
 |tup xs=>
  simp only[itemsOf,Option.some.injEq]at e;subst e;obtain ⟨a,vs,e1,q,t⟩:=h;subst e1;have hu:u=Value.ref a:=r;subst hu;exact ⟨.tup a,rfl,λH' F' G' x _ _=>⟨vs,(TpT.ext (K:=K) x q).it,Reps.ext x t⟩⟩
 |str l=>
  simp only[itemsOf,Option.some.injEq]at e;subst e;obtain ⟨e1,hl⟩:=h;subst e1;obtain ⟨t,hu⟩:∃t,u=Value.str (tx l) t:=r;subst hu;exact ⟨.str (tx l) t,rfl,λH' F' G' x _ _=>⟨_,rfl,by simpa using vH l⟩⟩
 |ref p=>
  simp only[itemsOf]at e;split at e
  ·rename_i xs hg;simp only[Option.some.injEq]at e;subst e;have e1:v=.ref p:=h;subst e1;have hu:u=Value.ref p:=r;subst hu;exact ⟨.lst p,rfl,λH' F' G' x r' hh=>r'.lst hh.1⟩
  ·cases e
 |_=>cases e
theorem rO{G:DH}{d:D}{ds:List D×Hld}(e:itemsOf G d=some ds):held ds.2 G:=by
 cases d with
 |ref p=>
  simp only[itemsOf]at e;split at e
  ·rename_i xs hg;simp only[Option.some.injEq]at e;subst e;exact ⟨hg,trivial⟩
  ·cases e
 |_=>simp only[itemsOf]at e;first | (cases e;done) | (simp only[Option.some.injEq]at e;subst e;exact trivial)
theorem Zq{u:Value}{ds:List D}{g:Hld}{k:SK}(s:Src K H F u ds g k):WalkJ K H F ds g (Jk k) where
 go:=λH' F' G i x r hh hi=>by
  obtain ⟨vs,h1,h2⟩:=s.sat H' F' G x r hh;exact ⟨vs,h1,by rw[<-h2.length];exact hi⟩
 stop:=λH' F' G x r hh=>by
  obtain ⟨vs,h1,h2⟩:=s.sat H' F' G x r hh;exact ⟨vs,h1,h2.length.symm⟩
 yld:=λH' F' i v H'' d G x r hh hd y=>by
  obtain ⟨e,hv⟩:=y;subst e;obtain ⟨vs,h1,h2⟩:=s.sat _ F' G x r hh;obtain ⟨w,e1,rw'⟩:=h2.get hd;have e2:=hv vs h1;rw[e1]at e2;cases e2;exact ⟨Ext.refl _ _,r,rw'⟩
theorem iU:∀(n:Nat)(ds:List D),(dj n ds).length=ds.length
 |_,[]=>rfl
 |n,d::ds=>by simp[dj,iU (n+1) ds]
theorem iV:∀(n:Nat)(ds:List D)(i:Nat),(dj n ds)[i]?=(ds[i]?).map λd=>.tup [.int ((n+i:Nat):Int),d]
 |_,[],_=>by simp[dj]
 |n,d::ds,0=>by simp[dj]
 |n,d::ds,i+1=>by
  simp only[dj,List.getElem?_cons_succ];rw[iV (n+1) ds i];congr 1;funext d;rw[show n+1+i=n+(i+1) by omega]
theorem wg:∀(as bs:List D),(bU as bs).length=min as.length bs.length
 |[],bs=>by simp[bU]
 |a::as,[]=>by simp[bU]
 |a::as,b::bs=>by simp[bU,wg as bs]
theorem Dt:∀(as bs:List D)(i:Nat)(d:D),(bU as bs)[i]?=some d->∃a b,as[i]?=some a/\bs[i]?=some b/\d=.tup [a,b]
 |[],bs,i,d,h=>by simp[bU]at h
 |a::as,[],i,d,h=>by simp[bU]at h
 |a::as,b::bs,0,d,h=>by simp[bU]at h;exact ⟨a,b,rfl,rfl,h.symm⟩
 |a::as,b::bs,i+1,d,h=>by
  simp only[bU,List.getElem?_cons_succ]at h;obtain ⟨x,y,h1,h2,h3⟩:=Dt as bs i d h;exact ⟨x,y,by simpa using h1,by simpa using h2,h3⟩
theorem Zr{u:Value}{ds:List D}{g:Hld}{k:SK}(s:Src K H F u ds g k):WalkJ K H F (dj 0 ds) g (Je k) where
 go:=λH' F' G i x r hh hi=>by
  obtain ⟨vs,h1,h2⟩:=s.sat H' F' G x r hh;exact ⟨vs,h1,by rw[<-h2.length,<-iU 0];exact hi⟩
 stop:=λH' F' G x r hh=>by
  obtain ⟨vs,h1,h2⟩:=s.sat H' F' G x r hh;exact ⟨vs,h1,by rw[iU];exact h2.length.symm⟩
 yld:=λH' F' i v H'' d G x r hh hd y=>by
  obtain ⟨vs,h1,h2⟩:=s.sat H' F' G x r hh;obtain ⟨T,y,hT,e1,e2,hv⟩:=y;subst e1 e2;rw[iV]at hd;obtain ⟨d',hd',e3⟩:=Option.map_eq_some_iff.mp hd;subst e3;obtain ⟨w,e1,rw'⟩:=h2.get hd';have e2:=hv vs h1;rw[e1]at e2;cases e2;refine ⟨di r hT,r.new hT,?_⟩;rw[Nat.zero_add];exact uF r hT (Reps.cons rfl (Reps.cons rw' Reps.nil))
theorem iW{g g':Hld}{G:DH}:held (g++g') G->held g G/\held g' G:=by
 induction g with
 |nil=>exact λh=>⟨trivial,h⟩
 |cons p r ih=>
  intro h;obtain ⟨h1,h2⟩:=ih h.2;exact ⟨⟨h.1,h1⟩,h2⟩
theorem Zt{u u':Value}{ds es:List D}{g g':Hld}{k l:SK}(s:Src K H F u ds g k)(s':Src K H F u' es g' l):WalkJ K H F (bU ds es) (g++g') (Jz k l) where
 go:=λH' F' G i x r hh hi=>by
  obtain ⟨vs,h1,h2⟩:=s.sat H' F' G x r (iW hh).1;obtain ⟨ws,h3,h4⟩:=s'.sat H' F' G x r (iW hh).2;rw[wg]at hi;exact ⟨vs,ws,h1,h3,by rw[<-h2.length];omega,by rw[<-h4.length];omega⟩
 stop:=λH' F' G x r hh=>by
  obtain ⟨vs,h1,h2⟩:=s.sat H' F' G x r (iW hh).1;obtain ⟨ws,h3,h4⟩:=s'.sat H' F' G x r (iW hh).2;exact ⟨vs,ws,h1,h3,by rw[wg,<-h2.length,<-h4.length];omega⟩
 yld:=λH' F' i v H'' d G x r hh hd y=>by
  obtain ⟨T,y,z,hT,e1,e2,hv,hz⟩:=y;subst e1 e2;obtain ⟨a,b,ha,hb,e3⟩:=Dt _ _ _ _ hd;subst e3;obtain ⟨vs,h1,h2⟩:=s.sat H' F' G x r (iW hh).1;obtain ⟨ws,h3,h4⟩:=s'.sat H' F' G x r (iW hh).2;obtain ⟨w,e1,rw'⟩:=h2.get ha;obtain ⟨w2,e3,rw2⟩:=h4.get hb;have e2:=hv vs h1;have e4:=hz ws h3;rw[e1]at e2;cases e2;rw[e3]at e4;cases e4;exact ⟨di r hT,r.new hT,uF r hT (Reps.cons rw' (Reps.cons rw2 Reps.nil))⟩
theorem Zu(lo:Int)(n:Nat):WalkJ K H F (aR lo n) [] (Itr lo n) where
 go:=λH' F' G i x _ _ hi=>by show i < n;simpa [aR] using hi
 stop:=λH' F' G x _ _=>by show n<=(aR lo n).length;simp[aR]
 yld:=λH' F' i v H'' d G x r _ hd y=>by
  obtain ⟨e1,e2⟩:=y;subst e1 e2;refine ⟨Ext.refl _ _,r,?_⟩;unfold aR at hd;rw[List.getElem?_map]at hd;obtain ⟨j,hj,e3⟩:=Option.map_eq_some_iff.mp hd;have:j=i:=by have:=List.getElem?_eq_some_iff.mp hj;obtain ⟨h1,h2⟩:=this;simpa using h2.symm
  subst this;subst e3;rfl
end
def tI(K:PySem.W.Frag)(B:Bs)(w:ak->DH->(List D->Hld->DH->Prop)->Prop):TI:=λσ H Rr=>∃ρ F G,Ext B.H B.F H F/\EnvR K H F ρ σ/\R K H F G/\
 w ρ G (λitems g G'=>∀H' F' J,Ext H F H' F'->R K H' F' G'->WalkJ K H' F' items g J->Rr J H')
section
variable {Φ:aa} {CX:CXT} {k:Nat} {c:CT} {E:EK} {B:Bs} {X:Cx}
theorem rP{pins:List (Addr×Obj)}{σ:L2.St}{H:Hp}{s:Shared}(I:Inv X pins σ H s){kk:SK}{vs:List V}(h:kk.Sat H vs):∃its:Array Value,kk.On its s.heap:=by
 cases kk with
 |lst a=>obtain ⟨its,_,pl,_⟩:=I.list (SqL.of (show H a=some _ from h));exact ⟨its.toArray,pl.isList⟩
 |tup a=>obtain ⟨its,_,pl,_⟩:=I.tuple (SqT.of (show H a=some _ from h));exact ⟨its.toArray,pl⟩
 |str x t=>exact ⟨#[],trivial⟩
theorem Zv{x:Ex}(ih:OkE Φ c E B X x){tg e:Expr}(h:aj c x e=true):PI X tg e (tI X.K B (wpI Φ (.seq x) E)):=by
 intro pins s σ H Rr I q;obtain ⟨ρ,F,G,e0,he,r,hw⟩:=q;rw[pM]at hw;have q':tE X.K B (wpE Φ x E) σ H (λv H1=>∃F1 G1 d items,R X.K H1 F1 G1/\Rep X.K H1 F1 d v/\itemsOf G1 d=some items/\∀J,WalkJ X.K H1 F1 items.1 items.2 J->Rr J H1):=
  aK e0 he r hw λd G1 H1 F1 u q e1 x1 he1 r1 ru=>by
   split at q
   ·rename_i ds hd;exact ⟨F1,G1,d,ds,r1,ru,hd,λJ w=>q H1 F1 J x1 r1 w⟩
   ·exact q.elim
 refine thn (ih h pins s σ H _ I q') λu s1 ⟨v,H1,I1,rv,F1,G1,d,items,r1,rd,hd,q1⟩=>?_;obtain ⟨kk,src⟩:=rN rd rv hd;obtain ⟨vs,sat,_⟩:=src.sat H1 F1 G1 (Ext.refl _ _) r1 (rO hd);obtain ⟨its,on⟩:=rP I1 sat;rw[<-src.val];refine SK.iter on ?_;refine ⟨s1.heap.objs.size,[s1.heap.objs.size],_,_,H1,rfl,I1.kept (t':=s1.toks) λb o e=>Heap.get?_push_of_some _ e,X3 kk _,SK.pos0,λb hb=>?_,q1 _ (Zq src)⟩;have e:b=s1.heap.objs.size:=by simpa using hb
 subst e;exact I1.fpOk (Nat.le_refl _) (I1.hok.fresh (Nat.le_refl _))
theorem Zw(S:Stat Φ CX k c E B X){a:Ex}(ih:OkE Φ c E B X a){tg e:Expr}(h:bV c (.rng a) tg e=true):PI X tg e (tI X.K B (wpI Φ (.rng a) E)):=by
 replace h:=Dc h;obtain ⟨_,_,_,_,rfl,h⟩:=h
 ·simp only[Bool.and_eq_true,beq_iff_eq]at h;obtain ⟨⟨⟨e1,h1⟩,hm⟩,h2⟩:=h;subst e1;obtain ⟨g1,g2⟩:=cQ h1;have hmg:=S.blt _ (List.contains_iff_mem.mp hm);have hs:=cF _ [] X.env (cO (bN a h2));intro pins s σ H Rr I q;refine Su (S.glo _ g1) hmg (dY (ih h2) eQ hs) hs pins s σ H Rr I ?_;obtain ⟨ρ,F,G,e0,he,r,hw⟩:=q;rw[pN]at hw;refine aK e0 he r hw λd G1 H1 F1 u q e1 x1 he1 r1 ru=>?_;split at q
  ·rename_i n;have e2:u=.int n:=ru;subst e2;exact ⟨n,rfl,q.1.1,q.1.2,q.2 H1 F1 _ x1 r1 (Zu 0 n.toNat)⟩
  ·exact q.elim
theorem Zx(S:Stat Φ CX k c E B X){a:Ex}(ih:OkE Φ c E B X a){tg e:Expr}(h:bV c (.rev a) tg e=true):PI X tg e (tI X.K B (wpI Φ (.rev a) E)):=nomatch (show false=true from h)
theorem Zy(S:Stat Φ CX k c E B X){a b d:Ex}(iha:OkE Φ c E B X a)(ihb:OkE Φ c E B X b)(ihd:OkE Φ c E B X d){tg e:Expr}(h:bV c (.dwn a b d) tg e=true):PI X tg e (tI X.K B (wpI Φ (.dwn a b d) E)):=nomatch (show false=true from h)
theorem Zz(S:Stat Φ CX k c E B X){a b:Ex}(iha:OkE Φ c E B X a)(ihb:OkE Φ c E B X b){tg e:Expr}(h:bV c (.rng2 a b) tg e=true):PI X tg e (tI X.K B (wpI Φ (.rng2 a b) E)):=nomatch (show false=true from h)
theorem ZC(S:Stat Φ CX k c E B X){a:Ex}(ih:OkE Φ c E B X a){tg e:Expr}(h:bV c (.enm a) tg e=true):PI X tg e (tI X.K B (wpI Φ (.enm a) E)):=by
 replace h:=Dd h;obtain ⟨_,_,_,_,_,_,_,rfl,rfl,h⟩:=h
 ·skip
  ·simp only[Bool.and_eq_true,beq_iff_eq]at h;obtain ⟨⟨⟨e1,h1⟩,hm⟩,h2⟩:=h;subst e1;obtain ⟨g1,g2⟩:=cQ h1;have hmg:=S.blt _ (List.contains_iff_mem.mp hm);have hs:=cF _ [] X.env (cO (bN a h2));intro pins s σ H Rr I q;obtain ⟨ρ,F,G,e0,he,r,hw⟩:=q;rw[pO]at hw;have q':tL X.K B (aO Φ (.cons a .nil) E) σ H (λvs H1=>∃v F1 G1 d items,vs=[v]/\R X.K H1 F1 G1/\Rep X.K H1 F1 d v/\itemsOf G1 d=some items/\∀J,WalkJ X.K H1 F1 (dj 0 items.1) items.2 J->Rr J H1):=by
    refine cJ (W:=λds G1=>∃d items,ds=[d]/\itemsOf G1 d=some items/\∀H' F' J,Ext H F H' F'->R X.K H' F' G1->WalkJ X.K H' F' (dj 0 items.1) items.2 J->Rr J H') e0 he r ?_ λds G1 H1 F1 vs q e1 x1 he1 r1 rvs=>?_
    ·rw[fL];refine aD a (λd G1 q=>?_) hw;rw[gA];split at q
     ·rename_i items hd;exact ⟨d,items,rfl,hd,q⟩
     ·exact q.elim
    ·obtain ⟨d,items,e2,hd,q⟩:=q;subst e2;obtain ⟨v,e3,rv⟩:=bz rvs;exact ⟨v,F1,G1,d,items,e3,r1,rv,hd,λJ w=>q H1 F1 J x1 r1 w⟩
   refine Call_ (gj I (S.glo _ g1) hmg (u:=.type "enumerate") boot_enumerate (PyProof.Rows.callWith_type1 (thn (rF ih (λh=>v6 h) (c:=c) (es:=[_]) (by unfold aJ;show (aj c a _&&true)=true;rw[h2];rfl) _ pins s σ H _ I q') λus s1 ⟨vs,H1,I1,r1v,q1⟩=>?_) hs rfl) (cP g2) (bW g2));obtain ⟨v,F1,G1,d,items,e1,r1,rd,hd,q1⟩:=q1;subst e1;obtain ⟨u,rfl,ru⟩:=vals1 r1v;obtain ⟨kk,src⟩:=rN rd ru hd;obtain ⟨vs,sat,_⟩:=src.sat H1 F1 G1 (Ext.refl _ _) r1 (rO hd);obtain ⟨its,on⟩:=rP I1 sat;rw[<-src.val];refine Ye on λh' hen hit hsz hk=>?_;refine wpAny_pyIter_enum hen ?_;have n1:H1 s1.heap.objs.size=none:=I1.hok.fresh (Nat.le_refl _);have n2:H1 (s1.heap.objs.size+1)=none:=I1.hok.fresh (Nat.le_succ _);refine ⟨s1.heap.objs.size+1,[s1.heap.objs.size+1,s1.heap.objs.size],_,_,H1,rfl,I1.kept (t':=s1.toks) hk,XX kk _ _ (Nat.succ_ne_self _),⟨⟨_,hen⟩,hit⟩,λb hb=>?_,q1 _ (Zr src)⟩;have hb':b=s1.heap.objs.size+1\/b=s1.heap.objs.size:=by simpa using hb
   rcases hb' with rfl |rfl
   ·exact I1.fpOk (Nat.le_succ _) n2
   ·exact I1.fpOk (Nat.le_refl _) n1
theorem zap(n:Nat):ZApart (n+4) (n+2) (n+3) n (n+1):=
 ⟨(by omega:(n+2:Nat)≠n+4),(by omega:(n+3:Nat)≠n+4),(by omega:(n:Nat)≠n+4),(by omega:(n+1:Nat)≠n+4),(by omega:(n+2:Nat)≠n+3),(by omega:(n+2:Nat)≠n),(by omega:(n+2:Nat)≠n+1),(by omega:(n+3:Nat)≠n),(by omega:(n+3:Nat)≠n+1),(by omega:(n:Nat)≠n+1)⟩
theorem ZD(S:Stat Φ CX k c E B X){a b:Ex}(iha:OkE Φ c E B X a)(ihb:OkE Φ c E B X b){tg e:Expr}(h:bV c (.zip a b) tg e=true):PI X tg e (tI X.K B (wpI Φ (.zip a b) E)):=by
 replace h:=De h;obtain ⟨_,_,_,_,_,v,v',pos,rfl,rfl,h⟩:=h
 ·skip
  ·simp only[Bool.and_eq_true,beq_iff_eq]at h;obtain ⟨⟨⟨⟨e1,h1⟩,hm⟩,h2⟩,h3⟩:=h;subst e1;obtain ⟨g1,g2⟩:=cQ h1;have hmg:=S.blt _ (List.contains_iff_mem.mp hm);have hs2:=cF v' [] X.env (cO (bN b h3));have hs:=cF v [v'] X.env (cO (bN a h2));intro pins s σ H Rr I q;obtain ⟨ρ,F,G,e0,he,r,hw⟩:=q;rw[pP]at hw;have hA:aJ c (.cons a (.cons b .nil)) [v,v']=true:=by
    unfold aJ aJ aJ;show (aj c a v&&(aj c b v'&&true))=true;rw[h2,h3];rfl
   have q':tL X.K B (aO Φ (.cons a (.cons b .nil)) E) σ H (λvs H1=>∃v v' F1 G1 d d' items items',vs=[v,v']/\R X.K H1 F1 G1/\Rep X.K H1 F1 d v/\Rep X.K H1 F1 d' v'/\itemsOf G1 d=some items/\itemsOf G1 d'=some items'/\∀J,WalkJ X.K H1 F1 (bU items.1 items'.1) (items.2++items'.2) J->Rr J H1):=by
    refine cJ (W:=λds G1=>∃d d' items items',ds=[d,d']/\itemsOf G1 d=some items/\itemsOf G1 d'=some items'/\∀H' F' J,Ext H F H' F'->R X.K H' F' G1->WalkJ X.K H' F' (bU items.1 items'.1) (items.2++items'.2) J->Rr J H') e0 he r ?_ λds G1 H1 F1 vs q e1 x1 he1 r1 rvs=>?_
    ·rw[fL];refine aD a (λd G1 q=>?_) hw;rw[fL];refine aD b (λd' G2 q=>?_) q;rw[gA];split at q
     ·rename_i items items' hd hd';exact ⟨d,d',items,items',rfl,hd,hd',q⟩
     ·exact q.elim
    ·obtain ⟨d,d',items,items',e2,hd,hd',q⟩:=q;subst e2;obtain ⟨w1,r2,e3,rw1,t2⟩:=rvs;obtain ⟨w2,e4,rw2⟩:=bz t2;subst e4;exact ⟨w1,w2,F1,G1,d,d',items,items',e3,r1,rw1,rw2,hd,hd',λJ w=>q H1 F1 J x1 r1 w⟩
   refine Call_ (gj I (S.glo _ g1) hmg (u:=.type "zip") Vo (PyProof.Rows.callWith_type1 (thn (rF iha (λh=>rF ihb (λh=>v6 h) h) (c:=c) (es:=[v,v']) hA _ pins s σ H _ I q') λus s1 ⟨vs,H1,I1,r1v,q1⟩=>?_) hs (by rw[hs2];rfl)) (cP g2) (bW g2));obtain ⟨w1,w2,F1,G1,d,d',items,items',e1,r1,rd,rd',hd,hd',q1⟩:=q1;subst e1;obtain ⟨u,u',rfl,ru,ru'⟩:=vals2 r1v;obtain ⟨kk,src⟩:=rN rd ru hd;obtain ⟨ll,src'⟩:=rN rd' ru' hd';obtain ⟨vs,sat,_⟩:=src.sat H1 F1 G1 (Ext.refl _ _) r1 (rO hd);obtain ⟨ws,sat',_⟩:=src'.sat H1 F1 G1 (Ext.refl _ _) r1 (rO hd');obtain ⟨its,on⟩:=rP I1 sat;obtain ⟨its',on'⟩:=rP I1 sat';rw[<-src.val,<-src'.val];refine Yc on on' λh' hz hTI hTO p1 p2 hsz hk=>?_;refine wpAny_pyIter_zip hz ?_;have fr:∀j,H1 (s1.heap.objs.size+j)=none:=λj=>I1.hok.fresh (Nat.le_add_right _ _);refine ⟨s1.heap.objs.size+4,[s1.heap.objs.size+4,s1.heap.objs.size+2,s1.heap.objs.size+3,s1.heap.objs.size,s1.heap.objs.size+1],_,_,H1,rfl,I1.kept (t':=s1.toks) hk,
    X7 kk ll (s1.heap.objs.size+4) (s1.heap.objs.size+2) (s1.heap.objs.size+3) s1.heap.objs.size (s1.heap.objs.size+1) (zap s1.heap.objs.size),⟨hz,hTI,⟨_,_,hTO⟩,p1,p2⟩,λb hb=>?_,q1 _ (Zt src src')⟩
   have hb':b=s1.heap.objs.size+4\/b=s1.heap.objs.size+2\/b=s1.heap.objs.size+3\/b=s1.heap.objs.size\/b=s1.heap.objs.size+1:=by simpa using hb
   rcases hb' with rfl |rfl |rfl |rfl |rfl
   ·exact I1.fpOk (Nat.le_add_right _ _) (fr 4)
   ·exact I1.fpOk (Nat.le_add_right _ _) (fr 2)
   ·exact I1.fpOk (Nat.le_add_right _ _) (fr 3)
   ·exact I1.fpOk (Nat.le_refl _) (fr 0)
   ·exact I1.fpOk (Nat.le_add_right _ _) (fr 1)
end
section
variable {Φ:aa} {CX:CXT} {k:Nat} {c:CT} {E:EK} {B:Bs} {X:Cx}
theorem wj:∀{l:List Str},d7 l=true->l.Nodup
 |[],_=>List.nodup_nil
 |x::r,h=>by
  unfold d7 at h;rw[Bool.and_eq_true]at h;refine List.nodup_cons.mpr ⟨λhm=>?_,wj h.2⟩;have:=h.1;rw[List.contains_iff_mem.mpr hm]at this;cases this
theorem rQ{N:List Str}{scope:Scope}:∀{N':List Str}{cap:List (Option Nat)},X.N=N->fO N scope N' cap=true->Caps X scope N' cap
 |[],[],_,_=>trivial
 |_::N',none::cap,e,h=>rQ (N':=N') (cap:=cap) e h
 |x::N',some j::cap,e,h=>by
  unfold fO at h;simp only[Bool.and_eq_true,beq_iff_eq]at h;exact ⟨⟨by rw[e];exact h.1.1,h.1.2⟩,rQ (N':=N') (cap:=cap) e h.2⟩
 |[],_::_,_,h=>by cases h
 |_::_,[],_,h=>by cases h
theorem jO{scope:Scope}{env:Env}(x:Str):(relabel scope env).names.lookup x=(scope.names.lookup x).map λkk=>if (kk==NameKind.free&&env.scope.kind==.function&&env.kindOf x==some .cell)=true then NameKind.cell else kk:=uv
theorem Stat.comp(S:Stat Φ CX k c E B X){N':List Str}{scope:Scope}(hn:d7 N'=true)(cl:List (Str×Addr))(C:Addr)(s₁:Shared)(H₁:Hp)(fp:List Addr)(pn:List (Addr×Obj)):
  Stat Φ CX k (c.comp N' scope) noE B (X.comp N' scope cl C s₁ H₁ fp pn) where
 N:=rfl
 nd:=wj hn
 calm:=S.calm
 own:=PassesOwn.never
 kd:=rfl
 vis:=λx h=>by
  have h:gH (scope.names.lookup x)=true:=h;show (relabel scope X.env).names.lookup x=_\/(relabel scope X.env).names.lookup x=_\/(relabel scope X.env).names.lookup x=_;rw[jO];cases e:scope.names.lookup x with
  |none=>rw[e]at h;cases h
  |some kk=>
   rw[e]at h;cases kk with
   | «local»=>exact .inl (by simp[show (NameKind.«local»==NameKind.free)=false by decide])
   |cell=>exact .inr (.inl (by simp[show (NameKind.cell==NameKind.free)=false by decide]))
   |free=>
    by_cases q:(NameKind.free==NameKind.free&&X.env.scope.kind==ScopeKind.function&&X.env.kindOf x==some NameKind.cell)=true
    ·exact .inr (.inl (by simp only[Option.map_some,if_pos q]))
    ·exact .inr (.inr (by simp only[Option.map_some,if_neg q]))
   |globalExplicit=>cases h
   |globalImplicit=>cases h
 cel:=λx h=>by
  have h:scope.names.lookup x=some .cell\/scope.names.lookup x=some .free:=h;show (relabel scope X.env).names.lookup x=_\/(relabel scope X.env).names.lookup x=_;rw[jO];rcases h with h |h
  ·exact .inl (by rw[h];simp[show (NameKind.cell==NameKind.free)=false by decide])
  ·rw[h];by_cases q:(NameKind.free==NameKind.free&&X.env.scope.kind==ScopeKind.function&&X.env.kindOf x==some NameKind.cell)=true
   ·exact .inl (by simp only[Option.map_some,if_pos q])
   ·exact .inr (by simp only[Option.map_some,if_neg q])
 glo:=λx h=>by
  have h:scope.names.lookup x=some .globalImplicit:=h;show (relabel scope X.env).names.lookup x=_;rw[jO,h];simp[show (NameKind.globalImplicit==NameKind.free)=false by decide]
 sto:=λx h=>by
  have h:(scope.names.lookup x==some .local||(false&&scope.names.lookup x==some .cell))=true:=h;rw[Bool.false_and,Bool.or_false,beq_iff_eq]at h;have e:(relabel scope X.env).names.lookup x=some .local:=by rw[jO,h];simp[show (NameKind.«local»==NameKind.free)=false by decide]
  exact ⟨.inl e,.inr e⟩
 room:=S.room
 call:=S.call
 blt:=S.blt
 con:=S.con
 exc:=⟨_,S.nox _,λ_ _ _ _ _ _ _ _ _ _ q=>q.elim,λx G' H' F' h=>h.elim⟩
 nox:=S.nox
 xcl:=λC h=>nomatch (show false=true from h)
 loc:=λx h=>by show (relabel scope X.env).names.lookup x=_;rw[jO,show scope.names.lookup x=some .local from h];simp[show (NameKind.«local»==NameKind.free)=false by decide]
 xis:=λC h=>nomatch (show false=true from h)
 trc:=λh=>absurd rfl h
theorem ZF(S:Stat Φ CX k c E B X){t:Tx}(ih:OkT Φ c E B X t){ifs:List Expr}(h:jJ c t ifs=true):PIf X ifs (tB' X.K B (wpT Φ t E)):=by
 unfold jJ at h;rw[Bool.or_eq_true]at h;rcases h with h |h
 ·rw[Bool.and_eq_true,List.isEmpty_iff]at h;obtain ⟨hy,rfl⟩:=h;cases t with
  |yes=>
   intro pins s σ H Q I q;refine U8 pins s σ H Q I ?_;obtain ⟨ρ,F,G,e0,he,r,hw⟩:=q;rw[pH]at hw;exact hw.now r
  |_=>cases hy
 ·obtain ⟨e,he,h⟩:=aQ h;rw[cZ he];exact U9 (ih h)
theorem Du(S:Stat Φ CX k c E B X){fz:Bool}{elt:Ex}{tg:Tg}{it:It'}{cond:Tx}{N':List Str}{cap:List (Option Nat)}{scope:Scope}{elt' tg':Expr}{ifs:List Expr}(hn:d7 N'=true)
  (ihe:∀{X':Cx},Stat Φ CX k (c.comp N' scope) noE B X'->OkE Φ (c.comp N' scope) noE B X' elt) (iht:∀{X':Cx},Stat Φ CX k (c.comp N' scope) noE B X'->OkT Φ (c.comp N' scope) noE B X' cond)
  (hg:cH (c.comp N' scope) tg tg'=true) (hi:jJ (c.comp N' scope) cond ifs=true) (he:aj (c.comp N' scope) elt elt'=true)
  {σ:L2.St} {H:Hp} {Q:VK} {ρ:ak} {F:FZ} {G:DH} (e0:Ext B.H B.F H F) (henv:EnvR X.K H F ρ σ) (r:R X.K H F G)
  (hw:wpI Φ it E ρ G λitems g G1=>
   compLoop (λd ρ' G' k'=>bf tg d ρ' G' λρ1=>wpT Φ cond noE ρ1 G' λb G2=>match b with |true=>wpE Φ elt noE ρ1 G2 λy G3=>k' (some y) ρ1 G3 |false=>k' none ρ1 G2)
    g items [] (cap.map λo=>match o with |none=>none |some j=>(ρ[j]?).join) G1 λds G2=>mk fz ds G2 (PV X.K H F Q)):
  tI X.K B (wpI Φ it E) σ H (λJ H1=>zP X N' scope tg' ifs elt' J (dB cap σ) H1 Q):=by
 refine ⟨ρ,F,G,e0,henv,r,jA it (λitems g G1 q H1 F1 J x1 r1 W=>?_) hw⟩;let step:D->ak->DH->(Option D->ak->DH->Prop)->Prop:=λd ρ' G' k'=>bf tg d ρ' G' λρ1=>wpT Φ cond noE ρ1 G' λb G2=>match b with |true=>wpE Φ elt noE ρ1 G2 λy G3=>k' (some y) ρ1 G3 |false=>k' none ρ1 G2
 let fin:List D->DH->Prop:=λds G2=>mk fz ds G2 (PV X.K H F Q)
 refine ⟨λi m ys σ' H'=>m=items.length - i/\i<=items.length/\∃ρ' F' G' acc,Ext B.H B.F H' F'/\Ext H1 F1 H' F'/\EnvR X.K H' F' ρ' σ'/\R X.K H' F' G'/\Reps X.K H' F' acc ys/\compLoop step g (items.drop i) acc ρ' G' fin,
  ⟨items.length,by simp,Nat.zero_le _,_,F1,G1,[],e0.trans x1,Ext.refl _ _,(henv.ext x1).cap cap,r1,rfl,q⟩,?_⟩
 rintro i m ys σ' H' ⟨rfl,hle,ρ',F',G',acc,eB,e1,he',r',ra,hl⟩;by_cases hlt:i < items.length
 ·have hd:items.drop i=items[i]::items.drop (i+1):=List.drop_eq_getElem_cons hlt;rw[hd]at hl;obtain ⟨hh,hz,hl⟩:=hl;refine .inr ⟨W.go H' F' G' i e1 r' hh hlt,by rw[<-ra.length];exact Nat.lt_of_lt_of_le hz szl,λcl C s₁ H₁ fp pn=>?_⟩;have S':=S.comp (scope:=scope) hn cl C s₁ H₁ fp pn;refine ⟨_,_,_,rM S' tg hg,ZF S' (iht S') hi,ihe S' he,λx H2 hy=>?_⟩;obtain ⟨xy,ry,rx⟩:=W.yld H' F' i x H2 items[i] G' e1 r' hh (by simp[hlt]) hy;refine ⟨ρ',F',G',items[i],eB.trans xy,he'.ext xy,ry,rx,eZ (λρ1 z σ1 hσ1=>?_) tg hl⟩;refine iR (eB.trans xy) hσ1 ry z λb G2 H3 F3 z e3 x3 he3 r3=>?_;cases b with
  |true=>
   rw[if_pos rfl];refine aK e3 he3 r3 z λy G4 H4 F4 v z e4 x4 he4 r4 rv=>?_;exact ⟨items.length - (i+1),by omega,rfl,hlt,ρ1,F4,G4,acc++[y],e4,e1.trans (xy.trans (x3.trans x4)),he4,r4,(Reps.ext (xy.trans (x3.trans x4)) ra).append (Reps.cons rv Reps.nil),z⟩
  |false=>
   rw[if_neg Bool.false_ne_true];exact ⟨items.length - (i+1),by omega,rfl,hlt,ρ1,F3,G2,acc,e3,e1.trans (xy.trans x3),he3,r3,Reps.ext (xy.trans x3) ra,z⟩
 ·have hi':i=items.length:=by omega
  subst hi';rw[List.drop_length]at hl;obtain ⟨hh,hz,hl⟩:=hl;refine .inl ⟨W.stop H' F' G' e1 r' hh,by rw[<-ra.length];exact cN hz,λp hp=>?_⟩;exact cX (cU (λd G' z=>PV.later z (x1.trans e1)) hl) r' ra p hp
structure CompC(c:CT)(elt:Ex)(tg:Tg)(it:It')(cond:Tx)(N':List Str)(cap:List (Option Nat))(elt' tg' iter:Expr)(ifs:List Expr)(scope:Scope):Prop where
 it:bV c it tg' iter=true
 cap:fO c.N scope N' cap=true
 sc:iM c scope=true
 nd:d7 N'=true
 tg:cH (c.comp N' scope) tg tg'=true
 cd:jJ (c.comp N' scope) cond ifs=true
 el:aj (c.comp N' scope) elt elt'=true
theorem Dv(S:Stat Φ CX k c E B X){scope:Scope}(h:iM c scope=true):scope.names.all (λy=>y.2 != NameKind.cell)=true/\scope.names.all (λy=>y.2 != NameKind.local||scope.names.lookup y.1==some NameKind.local)=true/\
  scope.names.all (λy=>y.2 != NameKind.free||(X.env.kindOf y.1==some NameKind.cell||X.env.kindOf y.1==some NameKind.free))=true/\scope.kind=.function:=by
 unfold iM at h;simp only[Bool.and_eq_true,decide_eq_true_iff]at h;obtain ⟨⟨⟨⟨h1,h2⟩,h3⟩,h4⟩,_⟩:=h;refine ⟨h1,h2,?_,h4⟩;rw[List.all_eq_true]at h3 ⊢;intro y hy;have:=h3 y hy;rw[Bool.or_eq_true,Bool.or_eq_true,beq_iff_eq,beq_iff_eq]at this;rw[Bool.or_eq_true,Bool.or_eq_true,beq_iff_eq,beq_iff_eq];rcases this with q |q
 ·exact .inl q
 ·exact .inr (S.cel y.1 q)
theorem Dw{fz:Bool}{elt:Ex}{tg:Tg}{it:It'}{cond:Tx}{N:List String}{cap:List (Option Nat)}{e:Expr}(h:aj c (.comp fz elt tg it cond N cap) e=true):
  ∃elt' tg' iter ifs scope pos,e=.ListComp elt' [⟨tg',iter,ifs,0⟩] scope pos/\CompC c elt tg it cond (N.map Str.ofString) cap elt' tg' iter ifs scope:=by
 replace h:=CZ h;obtain ⟨_,_,_,_,_,_,_,rfl,h⟩:=h;simp only[Bool.and_eq_true,decide_eq_true_iff]at h;obtain ⟨⟨⟨⟨⟨⟨⟨h1,h2⟩,h3⟩,h4⟩,h5⟩,h6⟩,h7⟩,h8⟩:=h;subst h1;exact ⟨_,_,_,_,_,_,rfl,h2,h3,h4,h5,h6,h7,h8⟩
theorem wk{it:It'}{tg' iter:Expr}(h:bV c it tg' iter=true)(env:Env)(x:Value):foldedSetIterable iter env x=pure x:=by
 cases it with
 |seq y=>exact YB (bN y (show aj c y iter=true from h)) env x
 |rng a=>obtain ⟨_,_,_,_,rfl,_⟩:=Dc h;rfl
 |rng2 _ _=>exact nomatch (show false=true from h)
 |rev _=>exact nomatch (show false=true from h)
 |dwn _ _ _=>exact nomatch (show false=true from h)
 |enm a=>obtain ⟨_,_,_,_,_,_,_,_,rfl,_⟩:=Dd h;rfl
 |zip a b=>obtain ⟨_,_,_,_,_,_,_,_,_,rfl,_⟩:=De h;rfl
theorem ZG(S:Stat Φ CX k c E B X){fz:Bool}{elt:Ex}{tg:Tg}{it:It'}{cond:Tx}{N:List String}{cap:List (Option Nat)}
  (ihe:∀{c':CT}{X':Cx},Stat Φ CX k c' noE B X'->OkE Φ c' noE B X' elt) (iht:∀{c':CT}{X':Cx},Stat Φ CX k c' noE B X'->OkT Φ c' noE B X' cond)
  (ihi:∀{tg' iter:Expr},bV c it tg' iter=true->PI X tg' iter (tI X.K B (wpI Φ it E))) {e:Expr} (h:aj c (.comp fz elt tg it cond N cap) e=true):
  PE X e (tE X.K B (wpE Φ (.comp fz elt tg it cond N cap) E)):=by
 obtain ⟨elt',tg',iter,ifs,scope,pos,rfl,C⟩:=Dw h;obtain ⟨s1,s2,s3,s4⟩:=Dv S C.sc;refine peI (Vu (N.map Str.ofString) cap S.calm (ihi C.it) (rQ S.N C.cap) s1 s2 s3 s4 (wk C.it X.env)) λσ H Q hq=>el hq λρ F G e0 he r hw=>?_;rw[vh]at hw;exact Du S C.nd (λS'=>ihe S') (λS'=>iht S') C.tg C.cd C.el e0 he r hw
theorem bC{x:Ex}(ih:OkE Φ c E B X x)(hn:∀l os rs pos,aj c x (.Compare l os rs pos)=true->False){e:Expr}(h:bB c (.val x) e=true):PT X e (tB' X.K B (wpT Φ (.val x) E)):=by
 have h:((gJ e||jH e)&&aj c x e&&BW x)=true:=h;simp only[Bool.and_eq_true,Bool.or_eq_true]at h;obtain ⟨⟨h1,h2⟩,h3⟩:=h;rcases h1 with h1 |h1
 ·exact Zh ih h1 h2
 ·obtain ⟨⟨t,ht⟩,_⟩:=Option.isSome_iff_exists.mp h1;rw[ht]at h2;exact (hn _ _ _ _ h2).elim
end
mutual
theorem aA{Φ:aa}{CX:CXT}{k:Nat}{B:Bs}:∀(x:Ex){c:CT}{E:EK}{X:Cx},Stat Φ CX k c E B X->OkE Φ c E B X x
 |.var i,c,E,X,S=>by intro h;exact YG S h
 |.cst d,c,E,X,S=>by intro h;exact YH S h
 |.glb x d,c,E,X,S=>by intro h;exact YJ S h
 |.bin op fz a b,c,E,X,S=>by intro h;exact YK S (aA a S) (aA b S) h
 |.neg a,c,E,X,S=>by intro h;exact YL S (aA a S) h
 |.cmp op a b,c,E,X,S=>by intro h;exact (Dj S (aA a S) (aA b S) h).1
 |.chn op op' a b d,c,E,X,S=>by intro h;exact (Dk S (aA a S) (aA b S) (aA d S) h).1
 |.not a,c,E,X,S=>by intro h;exact YM S (aA a S) h
 |.boo isAnd e es,c,E,X,S=>by intro h;exact Zf (aA e S) (fu es S) h
 |.ife t a b,c,E,X,S=>by intro h;exact Zg (gM t S) (aA a S) (aA b S) h
 |.tup es,c,E,X,S=>by intro h;exact YQ S (EachE.oks (fu es S)) h
 |.lst fz es,c,E,X,S=>by intro h;exact YS S (EachE.oks (fu es S)) h
 |.idx a i,c,E,X,S=>by intro h;exact YT S (aA a S) (aA i S) h
 |.slc fz a lo hi,c,E,X,S=>by intro h;exact YW S (aA a S) (Dz lo S) (Dz hi S) h
 |.rvs fz a s,c,E,X,S=>by intro h;exact YX S (aA a S) (aA s S) h
 |.call f es,c,E,X,S=>by intro h;exact Y0 S (EachE.oks (fu es S)) h
 |.bcl f es,c,E,X,S=>by intro h;exact Y4 S (EachE.oks (fu es S)) h
 |.lcl fz f es,c,E,X,S=>by intro h;exact Y5 S (EachE.oks (fu es S)) h
 |.isi a t,c,E,X,S=>by intro h;exact Y9 S (aA a S) h
 |.isx a C xs,c,E,X,S=>by intro h;exact Za S (aA a S) h
 |.fst es,c,E,X,S=>by intro h;exact Ze S (fu es S) h
 |.rgl fz a,c,E,X,S=>by intro h;exact Y6 S (aA a S) h
 |.rgt a,c,E,X,S=>by intro h;exact Y7 S (aA a S) h
 |.rpl f a b ix,c,E,X,S=>by intro h;exact Zc S (aA a S) (aA b S) (aA ix S) h
 |.mth m o es,c,E,X,S=>by intro h;exact Zd S (aA o S) (EachE.oks (fu es S)) h
 |.comp fz elt tg it cond N cap,c,E,X,S=>by intro h;exact ZG S (λS'=>aA elt S') (λS'=>gM cond S') (wu it S) h
 |.frz a,c,E,X,S=>by intro h;exact YZ S (aA a S) h
theorem fu{Φ:aa}{CX:CXT}{k:Nat}{B:Bs}:∀(x:Exs){c:CT}{E:EK}{X:Cx},Stat Φ CX k c E B X->EachE Φ c E B X x
 |.nil,_,_,_,_=>trivial
 |.cons e es,c,E,X,S=>⟨aA e S,fu es S⟩
theorem gM{Φ:aa}{CX:CXT}{k:Nat}{B:Bs}:∀(x:Tx){c:CT}{E:EK}{X:Cx},Stat Φ CX k c E B X->OkT Φ c E B X x
 |.not t,c,E,X,S=>by intro h;exact Zi (gM t S) h
 |.boo isAnd t ts,c,E,X,S=>by intro h;exact Zj (gM t S) (Dy ts S) h
 |.yes,c,E,X,S=>by intro h;exact nomatch (show false=true from h)
 |.val (.cmp op a b),c,E,X,S=>by
  intro h;have h:((gJ _||jH _)&&aj c (.cmp op a b) _&&true)=true:=h;simp only[Bool.and_eq_true]at h;exact (Dj S (aA a S) (aA b S) h.1.2).2
 |.val (.chn op op' a b d),c,E,X,S=>by
  intro h;have h:((gJ _||jH _)&&aj c (.chn op op' a b d) _&&true)=true:=h;simp only[Bool.and_eq_true]at h;exact (Dk S (aA a S) (aA b S) (aA d S) h.1.2).2
 |.val (.frz a),c,E,X,S=>by
  intro h;have h:((gJ _||jH _)&&aj c (.frz a) _&&false)=true:=h;rw[Bool.and_false]at h;cases h
 |.val (.var i),c,E,X,S=>by intro h;exact bC (aA (.var i) S) (λ_ _ _ _ h=>nomatch (show false=true from h)) h
 |.val (.cst d),c,E,X,S=>by intro h;exact bC (aA (.cst d) S) (λ_ _ _ _ h=>nomatch (show false=true from h)) h
 |.val (.glb x d),c,E,X,S=>by intro h;exact bC (aA (.glb x d) S) (λ_ _ _ _ h=>nomatch (show false=true from h)) h
 |.val (.bin op fz a b),c,E,X,S=>by intro h;exact bC (aA (.bin op fz a b) S) (λ_ _ _ _ h=>nomatch (show false=true from h)) h
 |.val (.neg a),c,E,X,S=>by intro h;exact bC (aA (.neg a) S) (λ_ _ _ _ h=>nomatch (show false=true from h)) h
 |.val (.not a),c,E,X,S=>by intro h;exact bC (aA (.not a) S) (λ_ _ _ _ h=>nomatch (show false=true from h)) h
 |.val (.boo isAnd e es),c,E,X,S=>by intro h;exact bC (aA (.boo isAnd e es) S) (λ_ _ _ _ h=>nomatch (show false=true from h)) h
 |.val (.ife t a b),c,E,X,S=>by intro h;exact bC (aA (.ife t a b) S) (λ_ _ _ _ h=>nomatch (show false=true from h)) h
 |.val (.tup es),c,E,X,S=>by intro h;exact bC (aA (.tup es) S) (λ_ _ _ _ h=>nomatch (show false=true from h)) h
 |.val (.lst fz es),c,E,X,S=>by intro h;exact bC (aA (.lst fz es) S) (λ_ _ _ _ h=>nomatch (show false=true from h)) h
 |.val (.idx a i),c,E,X,S=>by intro h;exact bC (aA (.idx a i) S) (λ_ _ _ _ h=>nomatch (show false=true from h)) h
 |.val (.slc fz a lo hi),c,E,X,S=>by intro h;exact bC (aA (.slc fz a lo hi) S) (λ_ _ _ _ h=>nomatch (show false=true from h)) h
 |.val (.rvs fz a s),c,E,X,S=>by intro h;exact bC (aA (.rvs fz a s) S) (λ_ _ _ _ h=>nomatch (show false=true from h)) h
 |.val (.call f es),c,E,X,S=>by intro h;exact bC (aA (.call f es) S) (λ_ _ _ _ h=>nomatch (show false=true from h)) h
 |.val (.bcl f es),c,E,X,S=>by intro h;exact bC (aA (.bcl f es) S) (λ_ _ _ _ h=>nomatch (show false=true from h)) h
 |.val (.lcl fz f es),c,E,X,S=>by intro h;exact bC (aA (.lcl fz f es) S) (λ_ _ _ _ h=>nomatch (show false=true from h)) h
 |.val (.isx a C xs),c,E,X,S=>by intro h;exact bC (aA (.isx a C xs) S) (λ_ _ _ _ h=>nomatch (show false=true from h)) h
 |.val (.rgl fz a),c,E,X,S=>by intro h;exact bC (aA (.rgl fz a) S) (λ_ _ _ _ h=>nomatch (show false=true from h)) h
 |.val (.rpl f a b ix),c,E,X,S=>by intro h;exact bC (aA (.rpl f a b ix) S) (λ_ _ _ _ h=>nomatch (show false=true from h)) h
 |.val (.rgt a),c,E,X,S=>by intro h;exact bC (aA (.rgt a) S) (λ_ _ _ _ h=>nomatch (show false=true from h)) h
 |.val (.fst es),c,E,X,S=>by intro h;exact bC (aA (.fst es) S) (λ_ _ _ _ h=>nomatch (show false=true from h)) h
 |.val (.isi a t),c,E,X,S=>by intro h;exact bC (aA (.isi a t) S) (λ_ _ _ _ h=>nomatch (show false=true from h)) h
 |.val (.mth m o es),c,E,X,S=>by intro h;exact bC (aA (.mth m o es) S) (λ_ _ _ _ h=>nomatch (show false=true from h)) h
 |.val (.comp fz elt tg it cond N cap),c,E,X,S=>by intro h;exact bC (aA (.comp fz elt tg it cond N cap) S) (λ_ _ _ _ h=>nomatch (show false=true from h)) h
theorem Dy{Φ:aa}{CX:CXT}{k:Nat}{B:Bs}:∀(x:Txs){c:CT}{E:EK}{X:Cx},Stat Φ CX k c E B X->rH Φ c E B X x
 |.nil,_,_,_,_=>trivial
 |.cons e es,c,E,X,S=>⟨gM e S,Dy es S⟩
theorem Dz{Φ:aa}{CX:CXT}{k:Nat}{B:Bs}:∀(x:Ox){c:CT}{E:EK}{X:Cx},Stat Φ CX k c E B X->∀y,x=.ob y->OkE Φ c E B X y
 |.no,c,E,X,S,y,e=>by cases e
 |.ob z,c,E,X,S,y,e=>by injection e with e;subst e;exact aA z S
theorem wu{Φ:aa}{CX:CXT}{k:Nat}{B:Bs}:∀(x:It'){c:CT}{E:EK}{X:Cx},Stat Φ CX k c E B X->∀{tg e:Expr},bV c x tg e=true->PI X tg e (tI X.K B (wpI Φ x E))
 |.seq y,c,E,X,S,tg,e,h=>Zv (aA y S) (show aj c y e=true from h)
 |.rng a,c,E,X,S,tg,e,h=>Zw S (aA a S) h
 |.rng2 a b,c,E,X,S,tg,e,h=>Zz S (aA a S) (aA b S) h
 |.rev a,c,E,X,S,tg,e,h=>Zx S (aA a S) h
 |.dwn a b d,c,E,X,S,tg,e,h=>Zy S (aA a S) (aA b S) (aA d S) h
 |.enm a,c,E,X,S,tg,e,h=>ZC S (aA a S) h
 |.zip a b,c,E,X,S,tg,e,h=>ZD S (aA a S) (aA b S) h
end
def EnD(K:PySem.W.Frag)(H:Hp)(F:FZ)(D:Ends):En where
 nx:=λρ G'=>∀H' F' σ',Ext H F H' F'->EnvR K H' F' ρ σ'->R K H' F' G'->D.nx σ' H'
 rt:=PV K H F D.rt
 bk:=λρ G'=>∀H' F' σ',Ext H F H' F'->EnvR K H' F' ρ σ'->R K H' F' G'->D.bk σ' H'
 ct:=λρ G'=>∀H' F' σ',Ext H F H' F'->EnvR K H' F' ρ σ'->R K H' F' G'->D.ct σ' H'
theorem EnD.later{K:PySem.W.Frag}{H H1:Hp}{F F1:FZ}{D:Ends}(x:Ext H F H1 F1):(EnD K H F D).Le (EnD K H1 F1 D):=
 ⟨λ_ _ h H' F' σ' x1=>h H' F' σ' (x.trans x1),λ_ _ h=>PV.later h x,λ_ _ h H' F' σ' x1=>h H' F' σ' (x.trans x1),λ_ _ h H' F' σ' x1=>h H' F' σ' (x.trans x1)⟩
def tS(K:PySem.W.Frag)(B:Bs)(w:ak->DH->En->Prop):TS:=λD σ H=>∃ρ F G,Ext B.H B.F H F/\EnvR K H F ρ σ/\R K H F G/\w ρ G (EnD K H F D)
theorem psI{X:Cx}{st:Stmt}{t t':TS}(h:PS X st t)(i:∀D σ H,t' D σ H->t D σ H):PS X st t':=λpins s σ H D I q=>h pins s σ H D I (i D σ H q)
theorem DG{X:Cx}{st:List Stmt}{t t':TS}(h:PSs X st t)(i:∀D σ H,t' D σ H->t D σ H):PSs X st t':=λpins s σ H D I q=>h pins s σ H D I (i D σ H q)
theorem ww{e:Expr}(h:cY e=false)(t:Option Expr)(n:Nat)(env:Env):swapsWith e t n env=pure false:=by cases e <;> first |rfl |exact nomatch (show true=false from h)
theorem DK{e:Expr}(h:cY e=false)(t:Expr)(n:Nat)(env:Env):swapsWithSole [t] e n env=pure false:=ww h _ _ _
section
variable {Φ:aa} {CX:CXT} {k:Nat} {c:CT} {E:EK} {B:Bs} {X:Cx}
abbrev OkS(Φ:aa)(c:CT)(E:EK)(B:Bs)(X:Cx)(x:Sx):Prop:=∀{st:Stmt},bh c x st=true->PS X st (tS X.K B (wpS Φ x E))
abbrev iY(Φ:aa)(c:CT)(E:EK)(B:Bs)(X:Cx)(x:Sxs):Prop:=∀{st:List Stmt},aB c x st=true->PSs X st (tS X.K B (au Φ x E))
theorem ZJ(S:Stat Φ CX k c E B X){x:Ex}{st:Stmt}(h:bh c (.exp x) st=true):PS X st (tS X.K B (wpS Φ (.exp x) E)):=by
 replace h:=Yp h;obtain ⟨_,_,rfl,h⟩:=h
 ·rw[Bool.and_eq_true]at h;refine psI (RN (aA x S h.2) (ww (by simpa using h.1) _ _ _)) λD σ H hq=>el hq λρ F G e0 he r hw=>?_;rw[qt]at hw;exact aK e0 he r hw λd G1 H1 F1 v q e1 x1 he1 r1 rv=>q _ _ _ x1 he1 r1
theorem ZK(S:Stat Φ CX k c E B X){i:Nat}{x:Ex}{st:Stmt}(h:bh c (.asg (.nm i) x) st=true):PS X st (tS X.K B (wpS Φ (.asg (.nm i) x) E)):=by
 replace h:=Df h;obtain ⟨tg,e,pos,rfl,h⟩:=h
 ·simp only[Bool.and_eq_true]at h;obtain ⟨⟨h1,h2⟩,h3⟩:=h;have h3:(!cY e||BX x)=true:=h3;replace h1:=vY h1;obtain ⟨y,py,rfl,h1⟩:=h1
  ·rw[Bool.and_eq_true,beq_iff_eq]at h1;obtain ⟨l,f⟩:=S.sto y h1.2;have hi:X.N[i]?=some y:=by rw[S.N];exact h1.1
   have go:∀(D:Ends)(σ:L2.St)(H:Hp),tS X.K B (wpS Φ (.asg (.nm i) x) E) D σ H->oA (tE X.K B (wpE Φ x E)) (ou i) D σ H:=λD σ H hq=>el hq λρ F G e0 he r hw=>by
    rw[iI]at hw;refine aK e0 he r hw λd G1 H1 F1 v q e1 x1 he1 r1 rv=>?_;unfold bf at q;exact q _ _ _ x1 (he1.set rv i) r1
   cases hc:cY e with
   |false=>exact psI (yP S.nd hi l (aA x S h2) (ww hc _ _ _) f) go
   |true=>
    rw[hc,Bool.not_true,Bool.false_or]at h3;cases x with
    |comp fz elt tg it cond N cap=>
     obtain ⟨elt',tg',iter,ifs,scope,pos',rfl,C⟩:=Dw h2;obtain ⟨s1,s2,s3,s4⟩:=Dv S C.sc;have hb:∃b:Bool,swapsWith (.ListComp elt' [⟨tg',iter,ifs,0⟩] scope pos') (some (.Name y py)) pos.line X.env=pure b:=⟨_,rfl⟩;obtain ⟨b,hb⟩:=hb;cases b with
     |false=>exact psI (yP S.nd hi l (aA _ S h2) hb f) go
     |true=>
      refine psI (Vv S.nd hi l (N.map Str.ofString) cap S.calm (wu it S C.it) (rQ S.N C.cap) s1 s2 s3 s4 (wk C.it X.env) hb f) λD σ H hq=>el hq λρ F G e0 he r hw=>?_;rw[iI]at hw;rw[vh]at hw;refine Du (fz:=fz) (Q:=λv H1=>D.nx (σ.set i (some v)) H1) S C.nd (λS'=>aA elt S') (λS'=>gM cond S') C.tg C.cd C.el e0 he r (jA it (λitems g G1 q=>?_) hw);refine qK (λd ρ' G' k1 k2 hk z=>eZ (λρ1 z=>cV cond (λb G2 z=>by
       cases b with
       |true=>exact aD elt (λy G3 z=>hk _ _ _ z) z
       |false=>exact hk _ _ _ z) z) tg z) ?_ _ _ _ _ q
      ·intro ds G2 q;refine cU (λd G3 q=>?_) q;intro H1 F1 v x1 r1 rv;unfold bf at q;exact q _ _ _ x1 ((he.ext x1).set rv i) r1
    |_=>cases h3
theorem ZL(S:Stat Φ CX k c E B X){ts:Tgs}{x:Ex}{st:Stmt}(h:bh c (.asg (.tp ts) x) st=true):PS X st (tS X.K B (wpS Φ (.asg (.tp ts) x) E)):=by
 replace h:=Df h;obtain ⟨tg,e,pos,rfl,h⟩:=h
 ·rw[Bool.and_eq_true,Bool.and_eq_true]at h;have h34:(!BZ e&&!cY e)=true:=h.2;obtain ⟨h1,h2⟩:=h.1;rw[Bool.and_eq_true,Bool.not_eq_true',Bool.not_eq_true']at h34;obtain ⟨h3,h4⟩:=h34;have hg:=rM S (.tp ts) h1;replace h1:=vZ h1;obtain ⟨_,_,_,rfl,h1⟩:=h1
  ·refine psI (yO (aA x S h2) hg (DK h4 _ _ _) ?_ rfl) λD σ H hq=>el hq λρ F G e0 he r hw=>?_
   ·cases e <;> first |rfl |exact nomatch (show true=false from h3)
   ·rw[iI]at hw;refine aK e0 he r hw λd G1 H1 F1 v q e1 x1 he1 r1 rv=>?_;exact ⟨ρ,F1,G1,d,e1,he1,r1,rv,eZ (λρ' z σ' hσ=>z H1 F1 σ' x1 hσ r1) (.tp ts) q⟩
theorem ZM(S:Stat Φ CX k c E B X){o i x:Ex}{st:Stmt}(h:bh c (.set o i x) st=true):PS X st (tS X.K B (wpS Φ (.set o i x) E)):=by
 replace h:=Yq h;obtain ⟨o',i',tpos,e,pos,rfl,h⟩:=h
 ·simp only[Bool.and_eq_true,Bool.not_eq_true']at h;obtain ⟨⟨⟨h1,h2⟩,h3⟩,h4⟩:=h;have hi:=bN i h2;refine psI (yO (aA x S h3) (R9 (aA o S h1) (aA i S h2) XJ ?_) (DK h4 _ _ _) ?_ rfl) λD σ H hq=>el hq λρ F G e0 he r hw=>?_
  ·intro v;cases i' <;> first |rfl |exact nomatch (show false=true from hi)
  ·cases e <;> rfl
  ·rw[qu]at hw;refine aK e0 he r hw λd G1 H1 F1 v q e1 x1 he1 r1 rv=>?_;refine aK e1 he1 r1 q λa G2 H2 F2 w q e2 x2 he2 r2 rw'=>?_;refine aK e2 he2 r2 q λy G3 H3 F3 u q e3 x3 he3 r3 ru=>?_;refine ⟨F3,G3,a,y,d,r3,rw'.ext x3,ru,rv.ext (x2.trans x3),vm (λG4 q=>?_) q⟩;intro H4 F4 x4 r4;exact q _ _ _ (x1.trans (x2.trans (x3.trans x4))) (he3.ext x4) r4
theorem ZP(S:Stat Φ CX k c E B X){i:Nat}{op:Operator}{x:Ex}{st:Stmt}(h:bh c (.aug i op x) st=true):PS X st (tS X.K B (wpS Φ (.aug i op x) E)):=by
 replace h:=Yr h;obtain ⟨y,py,o,e,pos,rfl,h⟩:=h
 ·simp only[Bool.and_eq_true,beq_iff_eq]at h;obtain ⟨⟨⟨⟨rfl,h1⟩,h2⟩,h3⟩,h4⟩:=h;obtain ⟨l,f⟩:=S.sto y h2;refine psI (Sg S.nd (by rw[S.N];exact h1) l (aA x S h4) (XM o) f) λD σ H hq=>el hq λρ F G e0 he r hw=>?_;rw[qw]at hw;split at hw
  ·rename_i a ha;obtain ⟨v,e1,rv⟩:=he.get ha;refine ⟨v,e1,aK e0 he r hw λb G1 H1 F1 u q e1 x1 he1 r1 ru=>?_⟩;refine ⟨F1,G1,a,b,r1,rv.ext x1,ru,vo (λd q=>?_) q⟩;intro H2 F2 w x2 r2 rw';exact q _ _ _ (x1.trans x2) ((he1.ext x2).set rw' i) r2
  ·exact hw.elim
theorem ZQ(S:Stat Φ CX k c E B X){o i:Ex}{op:Operator}{x:Ex}{st:Stmt}(h:bh c (.augs o i op x) st=true):PS X st (tS X.K B (wpS Φ (.augs o i op x) E)):=nomatch (show false=true from h)
theorem ZR(S:Stat Φ CX k c E B X){x:Ex}{st:Stmt}(h:bh c (.ret x) st=true):PS X st (tS X.K B (wpS Φ (.ret x) E)):=by
 replace h:=Yt h;obtain ⟨_,_,rfl,h⟩:=h
 ·refine psI (RP (aA x S h)) λD σ H hq=>el hq λρ F G e0 he r hw=>?_;rw[qx]at hw;exact ⟨ρ,F,G,e0,he,r,hw⟩
theorem ZS{st:Stmt}(h:bh c .rtn st=true):PS X st (tS X.K B (wpS Φ .rtn E)):=by
 replace h:=Yu h;obtain ⟨_,rfl,h⟩:=h
 ·refine psI RT λD σ H hq=>el hq λρ F G e0 he r hw=>?_;rw[qy]at hw;exact hw.now r rfl
theorem ZV(S:Stat Φ CX k c E B X){t:Tx}{a b:Sxs}(iha:iY Φ c E B X a)(ihb:iY Φ c E B X b){st:Stmt}(h:bh c (.ite t a b) st=true):PS X st (tS X.K B (wpS Φ (.ite t a b) E)):=by
 replace h:=Yv h;obtain ⟨_,_,_,_,rfl,h⟩:=h
 ·simp only[Bool.and_eq_true]at h;obtain ⟨⟨h1,h2⟩,h3⟩:=h;refine psI (RW (gM t S h1) (iha h2) (ihb h3)) λD σ H hq=>el hq λρ F G e0 he r hw=>?_;rw[qz]at hw;refine iR e0 he r hw λb' G1 H1 F1 q e1 x1 he1 r1=>?_;cases b' with
  |true=>
   rw[if_pos rfl];exact ⟨ρ,F1,G1,e1,he1,r1,dH a (EnD.later x1) q⟩
  |false=>
   rw[if_neg Bool.false_ne_true];exact ⟨ρ,F1,G1,e1,he1,r1,dH b (EnD.later x1) q⟩
theorem ZW(S:Stat Φ CX k c E B X){t:Tg}{it:It'}{b:Sxs}(ihb:iY Φ c E B X b){st:Stmt}(h:bh c (.for_ t it b) st=true):PS X st (tS X.K B (wpS Φ (.for_ t it b) E)):=by
 replace h:=Yw h;obtain ⟨tg,iter,body,pos,rfl,h⟩:=h
 ·simp only[Bool.and_eq_true]at h;obtain ⟨⟨h1,h2⟩,h3⟩:=h;refine psI (Sy S.own S.calm (wu it S h2) (rM S t h1) (ihb h3) (wk h2 X.env)) λD σ H hq=>el hq λρ F G e0 he r hw=>?_;rw[Ao]at hw;refine ⟨ρ,F,G,e0,he,r,jA it (λitems g G1 q H1 F1 J x1 r1 W=>?_) hw⟩;let step:RF.D->ak->DH->(ak->DH->Prop)->Prop:=λd ρ' G' k=>bf t d ρ' G' λρ1=>au Φ b E ρ1 G' { EnD X.K H F D with nx:=k,ct:=k,bk:=(EnD X.K H F D).nx }
  let P:Nat->L2.St->Hp->Prop:=λi σ' H'=>∃ρ' F' G',Ext B.H B.F H' F'/\Ext H1 F1 H' F'/\EnvR X.K H' F' ρ' σ'/\R X.K H' F' G'/\forLoop step g (items.drop i) ρ' G' (EnD X.K H F D).nx
  refine ⟨λi m σ' H'=>m=items.length - i/\i<=items.length/\P i σ' H',⟨items.length,by simp,Nat.zero_le _,ρ,F1,G1,e0.trans x1,Ext.refl _ _,he.ext x1,r1,q⟩,?_⟩;rintro i m σ' H' ⟨rfl,hle,ρ',F',G',eB,e1,he',r',hl⟩;by_cases hlt:i < items.length
  ·have hd:items.drop i=items[i]::items.drop (i+1):=List.drop_eq_getElem_cons hlt;rw[hd]at hl;obtain ⟨hh,hl⟩:=hl;refine .inr ⟨W.go H' F' G' i e1 r' hh hlt,P (i+1),λσ2 H2 p=>⟨items.length - (i+1),by omega,rfl,hlt,p⟩,λx H2 hy=>?_⟩;obtain ⟨xy,ry,rx⟩:=W.yld H' F' i x H2 items[i] G' e1 r' hh (by simp[hlt]) hy;refine ⟨ρ',F',G',items[i],eB.trans xy,he'.ext xy,ry,rx,eZ (λρ1 z σ1 hσ1=>?_) t hl⟩;refine ⟨ρ1,F',G',eB.trans xy,hσ1,ry,dH b (D:={ EnD X.K H F D with nx:=λρ' G'=>forLoop step g (items.drop (i+1)) ρ' G' (EnD X.K H F D).nx,ct:=λρ' G'=>forLoop step g (items.drop (i+1)) ρ' G' (EnD X.K H F D).nx,bk:=(EnD X.K H F D).nx }) ⟨λρ2 G2 z H3 F3 σ3 x3 he3 r3=>?_,λd G2 z=>PV.later z (x1.trans (e1.trans xy)),λρ2 G2 z H3 F3 σ3 x3=>z H3 F3 σ3 (x1.trans (e1.trans (xy.trans x3))),λρ2 G2 z H3 F3 σ3 x3 he3 r3=>?_⟩ z⟩
   ·exact ⟨ρ2,F3,G2,eB.trans (xy.trans x3),e1.trans (xy.trans x3),he3,r3,z⟩
   ·exact ⟨ρ2,F3,G2,eB.trans (xy.trans x3),e1.trans (xy.trans x3),he3,r3,z⟩
  ·have hi':i=items.length:=by omega
   subst hi';rw[List.drop_length]at hl;exact .inl ⟨W.stop H' F' G' e1 r' hl.1,hl.2 _ _ _ (x1.trans e1) he' r'⟩
theorem ZX(S:Stat Φ CX k c E B X){t:Tx}{b:Sxs}(ihb:iY Φ c E B X b){st:Stmt}(h:bh c (.whl t b) st=true):PS X st (tS X.K B (wpS Φ (.whl t b) E)):=nomatch (show false=true from h)
def tJ(K:PySem.W.Frag)(B:Bs)(w:ak->DH->(DH->Prop)->Prop):TJ:=λσ H Q=>∃ρ F G,Ext B.H B.F H F/\EnvR K H F ρ σ/\R K H F G/\w ρ G λG'=>∀H' F',Ext H F H' F'->R K H' F' G'->Q H'
theorem pjI{X:Cx}{ps:List Expr}{t t':TJ}{n:Nat}(h:PJ X ps t n)(i:∀σ H Q,t' σ H Q->t σ H Q):PJ X ps t' n:=λpins s σ H Q out I hl q=>h pins s σ H Q out I hl (i σ H Q q)
theorem wy{E:EK}{ρ:ak}:∀(es:Exs){G:DH}{k k':DH->Prop},(∀G',k G'->k' G')->wpM Φ es E ρ G k->wpM Φ es E ρ G k'
 |.nil,G,k,k',h,q=>h G q
 |.cons e es,G,k,k',h,q=>by
  rw[qG]at q ⊢;exact aD e (λd G1 q=>⟨q.1,wy es h q.2⟩) q
theorem DN{p:Expr}(h:vW p=true):∃y k pos,p=.Constant (.str y) k pos/\y.length<=1000:=by obtain ⟨t,ht,h⟩:=aL h;obtain ⟨x,hx,h⟩:=aL h;exact ⟨x,_,_,by rw[ht,hx],of_decide_eq_true h⟩
theorem wz(S:Stat Φ CX k c E B X):∀(ps:List Expr){es:Exs},jK c es ps=true->∃n,n<=1000 * ps.length/\PJ X ps (tJ X.K B (wpM Φ es E)) n
 |[],es,h=>by
  cases es with
  |nil=>exact ⟨0,Nat.zero_le _,pjI VH λσ H Q hq=>el hq λρ F G e0 he r hw=>hw H F (Ext.refl _ _) r⟩
  |cons _ _=>exact nomatch (show false=true from h)
 |p::ps,es,h=>by
  unfold jK at h;split at h
  ·rename_i hm;obtain ⟨y,kk,pos,rfl,hy⟩:=DN hm;obtain ⟨n,hn,hp⟩:=wz S ps h;exact ⟨y.length+n,by rw[List.length_cons];omega,VJ hp⟩
  ·split at h
   ·rename_i x rr;rw[Bool.and_eq_true]at h;obtain ⟨t,ht,h1⟩:=aL h.1;rw[Bool.and_eq_true,Bool.and_eq_true,Option.isNone_iff_eq_none,decide_eq_true_iff]at h1;obtain ⟨n,hn,hp⟩:=wz S ps h.2;refine ⟨3+n,by rw[List.length_cons];omega,?_⟩;rw[ht,h1.1.1,h1.1.2];refine pjI (VL (aA x S h1.2) hp) λσ H Q hq=>el hq λρ F G e0 he r hw=>?_;rw[qG]at hw;refine aK e0 he r hw λd G1 H1 F1 v q e1 x1 he1 r1 rv=>?_;obtain ⟨q1,q2⟩:=q;unfold uP at q1;split at q1
    ·rename_i i;rw[Bool.and_eq_true,decide_eq_true_iff,decide_eq_true_iff]at q1;have e2:v=.int i:=rv;refine ⟨⟨i.toNat,by rw[e2];congr 1;omega,by omega⟩,ρ,F1,G1,e1,he1,r1,wy rr (λG' z H' F' x' r'=>z H' F' (x1.trans x') r') q2⟩
    ·cases q1
   ·cases h
theorem ZZ(S:Stat Φ CX k c E B X){C:String}{es:Exs}{st:Stmt}(h:bh c (.rse C es) st=true):PS X st (tS X.K B (wpS Φ (.rse C es) E)):=by
 replace h:=Ys h;obtain ⟨x,np,m,cpos,pos,rfl,h⟩:=h;simp only[Bool.and_eq_true,beq_iff_eq]at h;obtain ⟨⟨⟨e1,h1⟩,h2⟩,h3⟩:=h;subst e1;obtain ⟨g1,g2⟩:=cQ h1;obtain ⟨a,hm,hb,hn⟩:=S.xcl C h2;obtain ⟨EX,_,hth,hEX⟩:=S.exc;unfold rE at h3;rw[Bool.or_eq_true]at h3;rcases h3 with h3 |h3
 ·cases es with
  |cons _ _=>cases h3
  |nil=>
   obtain ⟨y,kk,p,rfl,hy⟩:=DN h3;refine psI (Ac S.calm (S.glo _ g1) hm hb hth (dY yL eQ rfl) (bW g2) rfl rfl) λD σ H hq=>el hq λρ F G e0 he r hw=>?_;rw[jz,uZ]at hw;exact ⟨show 1<=sizeLine by decide,hEX ⟨C,.non⟩ G H F hw e0 r (.ref a) none ⟨a,rfl,hn,trivial⟩⟩
 ·obtain ⟨t,ht,h3⟩:=aL h3;rw[Bool.and_eq_true,Bool.and_eq_true,decide_eq_true_iff,decide_eq_true_iff]at h3;obtain ⟨n,hn',hp⟩:=wz S t.1 h3.2;rcases hps:t.1 with _ |⟨v1,_ |⟨v2,r⟩⟩
  ·rw[hps]at h3;simp at h3
  ·rw[hps]at h3;simp at h3
  ·rw[hps]at hp;subst ht;rw[hps]at *;refine psI (Ac S.calm (S.glo _ g1) hm hb hth (dY (VM hp (by omega)) eQ rfl) (bW g2) rfl rfl) λD σ H hq=>el hq λρ F G e0 he r hw=>?_;rw[jz]at hw;refine ⟨ρ,F,G,e0,he,r,wy es (λG1 q H1 F1 x1 r1 y=>⟨show 1<=sizeLine by decide,?_⟩) hw⟩;exact hEX ⟨C,.non⟩ G1 H1 F1 q (e0.trans x1) r1 (.ref a) none ⟨a,rfl,hn,trivial⟩
theorem Z0(S:Stat Φ CX k c E B X){f:String}{es:Exs}{C:String}{i:Nat}{b:Bool}{st:Stmt}(h:bh c (.tryc f es C i b) st=true):PS X st (tS X.K B (wpS Φ (.tryc f es C i b) E)):=nomatch (show false=true from h)
theorem Z1(S:Stat Φ CX k c E B X){b:Tb}{C:String}{hd:Hd}{xs:List String}{st:Stmt}(h:bh c (.tryx b C hd xs) st=true):PS X st (tS X.K B (wpS Φ (.tryx b C hd xs) E)):=nomatch (show false=true from h)
theorem Z2{st:List Stmt}(h:aB c .nil st=true):PSs X st (tS X.K B (au Φ .nil E)):=by
 unfold aB at h;cases st with
 |nil=>exact DG RB λD σ H hq=>el hq λρ F G e0 he r hw=>by rw[iG]at hw;exact hw _ _ _ (Ext.refl _ _) he r
 |cons _ _=>cases h
theorem Z3{x:Sx}{xs:Sxs}(ih:OkS Φ c E B X x)(ihs:iY Φ c E B X xs){st:List Stmt}(h:aB c (.cons x xs) st=true):PSs X st (tS X.K B (au Φ (.cons x xs) E)):=by
 unfold aB at h;split at h
 ·rw[Bool.and_eq_true]at h;refine DG (RC (ih h.1) (ihs h.2)) λD σ H hq=>el hq λρ F G e0 he r hw=>?_;rw[iH]at hw;refine ⟨ρ,F,G,e0,he,r,wpS_mono x (D:={ EnD X.K H F D with nx:=λρ' G'=>au Φ xs E ρ' G' (EnD X.K H F D) }) ⟨λρ1 G1 q H1 F1 σ1 x1 he1 r1=>?_,λ_ _ z=>z,λ_ _ z=>z,λ_ _ z=>z⟩ hw⟩;exact ⟨ρ1,F1,G1,e0.trans x1,he1,r1,dH xs (EnD.later x1) q⟩
 ·cases h
end
mutual
theorem Z4{Φ:aa}{CX:CXT}{k:Nat}{B:Bs}{c:CT}{E:EK}{X:Cx}(S:Stat Φ CX k c E B X):∀(x:Sx),OkS Φ c E B X x
 |.exp e=>by intro h;exact ZJ S h
 |.asg (.nm i) e=>by intro h;exact ZK S h
 |.asg (.tp ts) e=>by intro h;exact ZL S h
 |.set o i e=>by intro h;exact ZM S h
 |.aug i op e=>by intro h;exact ZP S h
 |.augs o i op e=>by intro h;exact ZQ S h
 |.ret e=>by intro h;exact ZR S h
 |.rtn=>by intro h;exact ZS h
 |.ite t a b=>by intro h;exact ZV S (iZ S a) (iZ S b) h
 |.for_ t it b=>by intro h;exact ZW S (iZ S b) h
 |.whl t b=>by intro h;exact ZX S (iZ S b) h
 |.pas=>by
  intro h;obtain ⟨_,rfl,_⟩:=Yx h;exact psI RJ λD σ H hq=>el hq λρ F G e0 he r hw=>by rw[qC]at hw;exact hw _ _ _ (Ext.refl _ _) he r
 |.brk=>by
  intro h;obtain ⟨_,rfl,_⟩:=Yy h;exact psI RK λD σ H hq=>el hq λρ F G e0 he r hw=>by rw[qD]at hw;exact hw _ _ _ (Ext.refl _ _) he r
 |.cnt=>by
  intro h;obtain ⟨_,rfl,_⟩:=Yz h;exact psI RL λD σ H hq=>el hq λρ F G e0 he r hw=>by rw[qF]at hw;exact hw _ _ _ (Ext.refl _ _) he r
 |.rse C es=>by intro h;exact ZZ S h
 |.tryc f es C i b=>by intro h;exact Z0 S h
 |.tryx b C h xs=>by intro hh;exact Z1 S hh
 |.nev=>by
  intro h;exact psI RZ λD σ H hq=>el hq λρ F G e0 he r hw=>by rw[qH]at hw;exact hw.elim
theorem iZ{Φ:aa}{CX:CXT}{k:Nat}{B:Bs}{c:CT}{E:EK}{X:Cx}(S:Stat Φ CX k c E B X):∀(x:Sxs),iY Φ c E B X x
 |.nil=>by intro h;exact Z2 h
 |.cons s r=>by intro h;exact Z3 (Z4 S s) (iZ S r) h
end
end RF
namespace L2
open PySem PySem.Spec PyProof.Rows
theorem Fun.okX{P:Program}{w:World}{K:PySem.W.Frag}{mg:Str->Option Value}{base:Heap}{CX:CXT}{x qual:Str}{st:Stmt}{f:Addr}{fd:FuncData}{N ps:List Str}{k:Nat}{sp:Sp}(F:Fun K x qual st f fd)(S:FnScope N ps (ao st))(len:∀vs H Q E,sp vs H Q E->vs.length=ps.length)
  (hbody:∀(cdv:Value)(A:Around)(outer:List Env)(s:Shared)(H:Hp)(vs:List V)(Q:VK)(E:XK),Room k (A.deeper (envOfC qual (ao st) s.heap.objs.size f cdv))->sp vs H Q E->
   ∃t,PSs (dh CX P w K mg base N qual (ao st) f cdv A outer s H E) (aF st) t/\t { nx:=λ_ H'=>Q .non H',rt:=Q } (start N vs) H):FnOk P w K mg base CX (k+1) f fd ps sp:=by
 obtain ⟨oc,od,kV,doc,pm,an,cdv,ct,osl,rfl,lk,hcd⟩:=F.ex;exact T6 lk hcd S len λA outer s H vs Q E hr hsp=>hbody cdv A outer s H vs Q E hr hsp
theorem FnOk.cx{P:Program}{w:World}{K:PySem.W.Frag}{mg:Str->Option Value}{base:Heap}{k:Nat}{CX:CXT}{f:Addr}{fd:FuncData}{ps:List Str}{sp:Sp}(F:FnOk P w K mg base CX0 k f fd ps sp):FnOk P w K mg base CX k f fd ps sp:=
 ⟨F.len,λA outer s H args us vs Q E hr he hb hv hs=>codeAny_mono (F.run A outer s H args us vs Q E hr he hb hv hs) λr s' hq=>by
  cases r with
  |error e=>exact False.elim hq
  |ok fl=>cases fl <;> exact hq⟩
end L2
namespace RF
open PySem PySem.Spec PyProof.Rows L2
def fnB(N ps:List Str)(sc:Scope):Bool:=
 decide (sc.kind=.function)&&!sc.isCoroutine&&!sc.isGenerator&&d7 N&&(N.take ps.length==ps)&&ps.all (λx=>sc.names.lookup x==some .local||sc.names.lookup x==some .cell)&&sc.names.all (λy=>y.2 != .free)
theorem DP{N ps:List Str}{sc:Scope}(h:fnB N ps sc=true):FnScope N ps sc:=by unfold fnB at h;simp only[Bool.and_eq_true,Bool.not_eq_true',decide_eq_true_iff,beq_iff_eq,List.all_eq_true,Bool.or_eq_true,bne_iff_ne]at h;obtain ⟨⟨⟨⟨⟨⟨h1,h2⟩,h3⟩,h4⟩,h5⟩,h6⟩,h7⟩:=h;exact ⟨h1,h2,h3,wj h4,h5,h6,λy hy=>h7 y hy⟩
structure Bse(Φ:aa)(P:Program)(w:World)(K:PySem.W.Frag)(mg:Str->Option Value)(base:Heap)(CX:CXT)(k:Nat)(fs:List (String×Nat))(bt:List String)(cn:List (String×D))(xs:List (String×Bool)):Prop where
 call:∀f n,(f,n)∈fs->∃fa fd ps,FnOk P w K mg base CX k fa fd ps (lift K n (Φ f))/\PySem.W.keepIn K (.ref fa)=true/\Binds K fd ps []/\mg (Str.ofString f)=some (.ref fa)
 blt:∀f,f∈bt->mg (Str.ofString f)=none
 con:∀x d,(x,d)∈cn->∃u v,mg (Str.ofString x)=some u/\RelV v u/\∀H F,Rep K H F d v
 xcl:∀C,xs.contains (C,true)=true->∃a,mg (Str.ofString C)=some (.ref a)/\gn K a=true/\PySem.W.nsIn K mainGlobals (Str.ofString C)=some (some (.ref a))
 xis:∀C',xs.contains (C',false)=true->∃cv,CV K mg C' cv/\∀C,xs.contains (C,true)=true->XI K C C' cv
def aG(N:List Str)(sc:Scope)(fs:List (String×Nat))(bt:List String)(cn:List (String×D))(xs:List (String×Bool)):CT:={ N:=N,kd:=sc.names,fn:=true,fs:=fs,bt:=bt,cn:=cn,xs:=xs }
section
variable {Φ:aa} {P:Program} {w:World} {K:PySem.W.Frag} {mg:Str->Option Value} {base:Heap} {k:Nat} {fs:List (String×Nat)} {bt:List String} {cn:List (String×D)} {xs:List (String×Bool)}
theorem Z5{N ps:List Str}{sc:Scope}{qual:Str}{f:Addr}{cdv:Value}{A:Around}{outer:List Env}{s:Shared}{H:Hp}{EX:XK}{B:Bs}(T:Bse Φ P w K mg base (CX1 P w) k fs bt cn xs)(hs:fnB N ps sc=true)
  (hr:Room k (A.deeper (envOfC qual sc s.heap.objs.size f cdv))):Stat Φ (CX1 P w) k (aG N sc fs bt cn xs) noE B (dh (CX1 P w) P w K mg base N qual sc f cdv A outer s H EX).nox where
 N:=rfl
 nd:=(DP hs).nd
 calm:=rfl
 own:=PassesOwn.never
 kd:=rfl
 vis:=λx h=>by
  have h:gH (sc.names.lookup x)=true:=h;show sc.names.lookup x=_\/sc.names.lookup x=_\/sc.names.lookup x=_;unfold gH at h;split at h <;> first | (cases h;done) |simp_all
 cel:=λx h=>h
 glo:=λx h=>h
 sto:=λx h=>by
  have h:(sc.names.lookup x==some .local||(true&&sc.names.lookup x==some .cell))=true:=h;rw[Bool.true_and,Bool.or_eq_true,beq_iff_eq,beq_iff_eq]at h;exact ⟨h,.inl rfl⟩
 room:=hr
 call:=T.call
 blt:=T.blt
 con:=T.con
 exc:=⟨_,zZ _,λ_ _ _ _ _ _ _ _ _ _ q=>q.elim,λ_ _ _ _ h=>h.elim⟩
 nox:=λY=>zZ Y
 xcl:=T.xcl
 loc:=λx h=>h
 xis:=T.xis
 trc:=λ_=>⟨rfl,rfl,rfl⟩
theorem Z6{outer:List Env}{H:Hp}{s s':Shared}{e:Value}(h:CX1 P w outer H s (λ_ _ _=>False) e s'):False:=by obtain ⟨_,_,_,_,_,_,_,_,_,q⟩:=h;exact q
def ends(Q:D->DH->Prop):En:={ nx:=λ_ G=>Q .non G,rt:=Q,bk:=λ_ _=>False,ct:=λ_ _=>False }
def env0(ds:List D)(n:Nat):ak:=ds.map some++List.replicate n none
theorem rR{x qual:Str}{st:Stmt}{f:Addr}{fd:FuncData}(Fu:Fun K x qual st f fd)(T:Bse Φ P w K mg base (CX1 P w) k fs bt cn xs){N ps:List Str}{body:Sxs}(S:RF.Spec)(n m:Nat)(hs:fnB N ps (ao st)=true)
  (hc:aB (aG N (ao st) fs bt cn xs) body (aF st)=true) (hn:ps.length=n) (hm:N.length=n+m)
  (hw:∀ds G a,ds.length=n->S.pre ds G a->au Φ body noE (env0 ds m) G (ends (S.post a))):FnOk P w K mg base (CX1 P w) (k+1) f fd ps (lift K n S):=by
 refine Fu.okX (DP hs) (λvs H Q E h=>by rw[hn];exact h.1) λcdv A outer s H vs Q EX hr hsp=>?_;obtain ⟨hl,F,G,ds,r,rs,a,h1,h2,h3⟩:=hsp;have St:Stat Φ (CX1 P w) k (aG N (ao st) fs bt cn xs) noE ⟨H,F⟩ (dh (CX1 P w) P w K mg base N qual (ao st) f cdv A outer s H EX).nox:=Z5 T hs hr;refine ⟨_,(iZ St body hc).nox,?_⟩;refine ⟨env0 ds m,F,G,Ext.refl _ _,?_,r,dH body (D:=ends (S.post a)) ⟨λρ G' q=>?_,λd G' q=>h2 d G' q,λ_ _ q=>False.elim q,λ_ _ q=>False.elim q⟩ (hw ds G a (by rw[rs.length];exact hl) h1)⟩
 ·unfold L2.start;rw[show N.length - vs.length=m by omega];exact EnvR.start m rs
 ·intro H' F' σ' x1 _ r1;exact h2 .non G' q H' F' .non x1 r1 rfl
end
def bD(pre:List D->DH->Prop)(post:List D->DH->D->DH->Prop):RF.Spec where
 A:=List D×DH
 pre:=λds G a=>a=(ds,G)/\pre ds G
 post:=λa d G'=>post a.1 a.2 d G'
 exc:=λ_ _ _=>False
theorem bY{pre:List D->DH->Prop}{post:List D->DH->D->DH->Prop}{ds:List D}{G:DH}{k:D->DH->Prop}{E:EK}(h:pre ds G)(hk:∀d G',post ds G d G'->k d G'):(bD pre post).t ds G k E:=
 ⟨(ds,G),⟨rfl,h⟩,hk,λ_ _ z=>z.elim⟩
theorem b7{Φ:aa}{body:Sxs}{m n:Nat}{pre:List D->DH->Prop}{post:List D->DH->D->DH->Prop}(h:∀ds G,pre ds G->au Φ body noE (env0 ds m) G (ends (post ds G))):
  ∀ds G a,ds.length=n->(bD pre post).pre ds G a->au Φ body noE (env0 ds m) G (ends ((bD pre post).post a)):=by
 rintro ds G a _ ⟨rfl,h1⟩;exact h ds G h1
def aP(f:List D->Option D):RF.Spec:=bD (λds _=>(f ds).isSome=true) (λds G d G'=>G'=G/\f ds=some d)
theorem du{f:List D->Option D}{ds:List D}{d:D}{G:DH}{k:D->DH->Prop}{E:EK}(h:f ds=some d)(hk:k d G):(aP f).t ds G k E:=
 bY (by rw[h];rfl) λd' G' ⟨e1,e2⟩=>by rw[h]at e2;cases e2;rw[e1];exact hk
theorem gO{Φ:aa}{body:Sxs}{m n:Nat}{f:List D->Option D}(h:∀ds G d,f ds=some d->au Φ body noE (env0 ds m) G (ends λd' G'=>G'=G/\d'=d)):
  ∀ds G a,ds.length=n->(aP f).pre ds G a->au Φ body noE (env0 ds m) G (ends ((aP f).post a)):=by
 refine b7 λds G hf=>?_;obtain ⟨d,e⟩:=Option.isSome_iff_exists.mp hf;refine dH body (D:=ends λd' G'=>G'=G/\d'=d) ⟨λρ G' q=>?_,λd' G' q=>?_,λ_ _ q=>q,λ_ _ q=>q⟩ (h ds G d e)
 ·exact ⟨q.1,by rw[e];exact congrArg some q.2.symm⟩
 ·exact ⟨q.1,by rw[e];exact congrArg some q.2.symm⟩
theorem Z7{step:D->ak->DH->(ak->DH->Prop)->Prop}{g:Hld}{items:List D}{ρ:ak}{G:DH}{k:ak->DH->Prop}(P:Nat->ak->DH->Prop)(h0:P 0 ρ G)(hh:∀i ρ G,P i ρ G->held g G)
  (hs:∀i d ρ G,items[i]?=some d->P i ρ G->∀kk:ak->DH->Prop,(∀ρ' G',P (i+1) ρ' G'->kk ρ' G')->step d ρ G kk) (he:∀ρ G,P items.length ρ G->k ρ G):forLoop step g items ρ G k:=by
 have go:∀(l:List D)(i:Nat)(ρ:ak)(G:DH),items.drop i=l->i<=items.length->P i ρ G->forLoop step g l ρ G k:=by
  intro l;induction l with
  |nil=>
   intro i ρ G e hi p;have:i=items.length:=by have:=congrArg List.length e;rw[List.length_drop]at this;simp at this;omega
   subst this;exact ⟨hh _ _ _ p,he _ _ p⟩
  |cons d l ih=>
   intro i ρ G e hi p;have hl:i < items.length:=by
    by_cases h:i < items.length
    ·exact h
    ·rw[List.drop_eq_nil_of_le (by omega)]at e;cases e
   rw[List.drop_eq_getElem_cons hl]at e;injection e with e1 e2;refine ⟨hh _ _ _ p,hs i d ρ G (by rw[List.getElem?_eq_getElem hl,e1]) p _ λρ' G' p'=>ih (i+1) ρ' G' e2 hl p'⟩
 exact go _ 0 ρ G (by simp) (Nat.zero_le _) h0
theorem DQ{step:D->ak->DH->(Option D->ak->DH->Prop)->Prop}{g:Hld}{items acc:List D}{ρ:ak}{G:DH}{k:List D->DH->Prop}(P:Nat->List D->ak->DH->Prop)(h0:P 0 acc ρ G)(hh:∀i acc ρ G,P i acc ρ G->held g G)
  (hl:acc.length+items.length<=sz)
  (hs:∀i d acc ρ G,items[i]?=some d->P i acc ρ G->∀kk:Option D->ak->DH->Prop,(∀o ρ' G',P (i+1) (acc++o.toList) ρ' G'->kk o ρ' G')->step d ρ G kk) (he:∀acc ρ G,P items.length acc ρ G->k acc G):compLoop step g items acc ρ G k:=by
 have go:∀(l:List D)(i:Nat)(acc:List D)(ρ:ak)(G:DH),items.drop i=l->i<=items.length->acc.length+l.length<=sz->P i acc ρ G->compLoop step g l acc ρ G k:=by
  intro l;induction l with
  |nil=>
   intro i acc ρ G e hi ha p;have:i=items.length:=by have:=congrArg List.length e;rw[List.length_drop]at this;simp at this;omega
   subst this;exact ⟨hh _ _ _ _ p,by simpa using ha,he _ _ _ p⟩
  |cons d l ih=>
   intro i acc ρ G e hi ha p;have hl:i < items.length:=by
    by_cases h:i < items.length
    ·exact h
    ·rw[List.drop_eq_nil_of_le (by omega)]at e;cases e
   rw[List.drop_eq_getElem_cons hl]at e;injection e with e1 e2;have ha':acc.length+(l.length+1)<=sz:=ha;refine ⟨hh _ _ _ _ p,by omega,hs i d acc ρ G (by rw[List.getElem?_eq_getElem hl,e1]) p _ λo ρ' G' p'=>?_⟩;cases o with
   |some y=>exact ih (i+1) (acc++[y]) ρ' G' e2 hl (by rw[List.length_append];simp;omega) p'
   |none=>exact ih (i+1) acc ρ' G' e2 hl (by omega) (by simpa using p')
 exact go _ 0 acc ρ G (by simp) (Nat.zero_le _) hl h0
theorem Z8{step:D->ak->DH->(Option D->ak->DH->Prop)->Prop}{items:List D}{ρ:ak}{G:DH}{k:List D->DH->Prop}(g:Hld)(f:D->Option D)(I:ak->Prop)(h0:I ρ)(hg:held g G)(hl:items.length<=sz)
  (hs:∀d ρ,d∈items->I ρ->∀kk:Option D->ak->DH->Prop,(∀ρ',I ρ'->kk (f d) ρ' G)->step d ρ G kk) (he:k (items.filterMap f) G):compLoop step g items [] ρ G k:=by
 refine DQ (λi acc ρ' G'=>I ρ'/\G'=G/\acc=(items.take i).filterMap f) ⟨h0,rfl,rfl⟩ (λi acc ρ' G' p=>by rw[p.2.1];exact hg) (by simpa using hl) ?_ ?_
 ·rintro i d acc ρ' G' hd ⟨p1,rfl,rfl⟩ kk hk;refine hs d ρ' (List.mem_of_getElem? hd) p1 kk λρ2 i2=>hk _ _ _ ⟨i2,rfl,?_⟩;rw[List.take_add_one,hd,List.filterMap_append];congr 1
 ·rintro acc ρ' G' ⟨_,rfl,rfl⟩;rw[List.take_length];exact he
theorem Z9{step:D->ak->DH->(Option D->ak->DH->Prop)->Prop}{items:List D}{ρ:ak}{G:DH}{k:List D->DH->Prop}(g:Hld)(f:D->D)(I:ak->Prop)(h0:I ρ)(hg:held g G)(hl:items.length<=sz)
  (hs:∀d ρ,d∈items->I ρ->∀kk:Option D->ak->DH->Prop,(∀ρ',I ρ'->kk (some (f d)) ρ' G)->step d ρ G kk) (he:k (items.map f) G):compLoop step g items [] ρ G k:=
 Z8 g (λd=>some (f d)) I h0 hg hl hs (by rw[<-List.filterMap_eq_map]at he;exact he)
theorem wA{α:Type}(f:α->Bool):∀l:List α,bools (l.map λx=>D.bl (f x))=some (l.map f)
 |[]=>rfl
 |x::l=>by simp[bools,wA f l]
theorem strs_map{α:Type}(f:α->List Nat):∀l:List α,bA (l.map λx=>D.str (f x))=some (l.map f)
 |[]=>rfl
 |x::l=>by simp[bA,strs_map f l]
theorem DR:∀l:List (List Nat),dF [] l=l.flatten
 |[]=>rfl
 |[x]=>by simp[dF]
 |x::y::r=>by simp[dF,DR (y::r)]
def Sa(G G':DH):Prop:=∀b o,G b=some o->G' b=some o
def Sb(p:Addr)(G G':DH):Prop:=∀b o,G b=some o->b≠p->G' b=some o
theorem Sa.refl(G:DH):Sa G G:=λ_ _ h=>h
theorem Sb.refl(p:Addr)(G:DH):Sb p G G:=λ_ _ h _=>h
theorem Sa.trans{G G1 G2:DH}(a:Sa G G1)(b:Sa G1 G2):Sa G G2:=λc o h=>b c o (a c o h)
theorem Sb.trans{p:Addr}{G G1 G2:DH}(a:Sb p G G1)(b:Sb p G1 G2):Sb p G G2:=λc o h n=>b c o (a c o h n) n
theorem Sa.sb{p:Addr}{G G':DH}(a:Sa G G'):Sb p G G':=λc o h _=>a c o h
theorem Sa.new{G:DH}{p:Addr}{o:DO}(h:G p=none):Sa G (aV G p o):=λb u e=>by rw[cT (Al e h)];exact e
theorem Sb.upd{G:DH}{p:Addr}{o:DO}:Sb p G (aV G p o):=λb u e n=>by rw[cT n];exact e
theorem DW{α:Type}{a:α}{l:List α}:atI (a::l) 0=some a:=bO (j:=0) rfl
theorem DX{α:Type}{a b:α}{l:List α}:atI (a::b::l) 1=some b:=bO (j:=1) rfl
theorem DY{α:Type}{a b c:α}{l:List α}:atI (a::b::c::l) 2=some c:=bO (j:=2) rfl
theorem Ea{α:Type}{a b c d:α}{l:List α}:atI (a::b::c::d::l) 3=some d:=bO (j:=3) rfl
theorem aaa{n j:Nat}(h:j < n):ixN n (j:Int)=some j:=by unfold ixN;rw[if_pos (by omega),if_pos (by omega)];simp
theorem Eb{n:Nat}:ixN (n+1) 0=some 0:=by unfold ixN;rw[if_pos (by omega),if_pos (by omega)];rfl
theorem Ec{n:Nat}:ixN (n+2) 1=some 1:=by unfold ixN;rw[if_pos (by omega),if_pos (by omega)];rfl
theorem Ed{n:Nat}:ixN (n+3) 2=some 2:=by unfold ixN;rw[if_pos (by omega),if_pos (by omega)];rfl
theorem aab{α:Type}{xs:List α}{i:Int}(h0:0<=i)(h1:i < xs.length):∃a,atI xs i=some a/\a∈xs:=by
 obtain ⟨n,rfl⟩:=Int.eq_ofNat_of_zero_le h0;have hn:n < xs.length:=by omega
 exact ⟨xs[n],bO (by simp[hn]),List.getElem_mem _⟩
theorem Ef{α:Type}(xs:List α)(lo hi:Option Int):(cut xs lo hi).length<=xs.length:=by unfold cut;rw[List.length_take,List.length_drop];omega
theorem aac{l:List D}:bR l []=l.isEmpty:=by cases l <;> rfl
theorem wB{α:Type}(l:List α)(n:Nat):cut l none (some (n:Int))=l.take n:=by
 unfold cut;rw[show HT.sIx l.length 0 none=0 from rfl,HT.zj,List.drop_zero,Nat.sub_zero];by_cases h:n<=l.length
 ·rw[Nat.min_eq_left h]
 ·rw[Nat.min_eq_right (by omega),List.take_of_length_le (Nat.le_refl _),List.take_of_length_le (by omega)]
theorem wC{α:Type}(l:List α)(n:Nat):cut l (some (n:Int)) none=l.drop n:=by
 unfold cut;rw[show HT.sIx l.length l.length none=l.length from rfl,HT.zj];by_cases h:n<=l.length
 ·rw[Nat.min_eq_left h,List.take_of_length_le (by rw[List.length_drop];exact Nat.le_refl _)]
 ·rw[Nat.min_eq_right (by omega),Nat.sub_self,List.take_zero,List.drop_eq_nil_of_le (by omega)]
theorem Eg{α:Type}(l:List α)(n:Nat):cut l (some ((n:Int)+1)) none=l.drop (n+1):=wC l (n+1)
theorem Eh{α:Type}{motive:List α->Prop}(l:List α)(nil:motive [])(snoc:∀(l:List α)(a:α),motive l->motive (l++[a])):motive l:=by
 have go:∀(n:Nat)(l:List α),l.length=n->motive l:=by
  intro n;induction n with
  |zero=>intro l h;rw[List.length_eq_zero_iff.mp h];exact nil
  |succ n ih=>
   intro l h;have hne:l≠[]:=by rintro rfl;simp at h
   rw[<-List.dropLast_concat_getLast hne];exact snoc _ _ (ih _ (by rw[List.length_dropLast];omega))
 exact go _ l rfl
section
variable {G:DH} {k:D->DH->Prop} {fz:Bool} {kb:Bool->Prop} {kd:D->Prop} {p:Addr}
theorem Ei{i j:Int}:cu .Add fz (.int i) (.int j) G k=k (.int (i+j)) G:=rfl
theorem Ej{x y:List Nat}:cu .Add fz (.str x) (.str y) G k=(x.length+y.length<=sz/\k (.str (x++y)) G):=rfl
theorem Ek{x y:List D}:cu .Add fz (.lst x) (.lst y) G k=(x.length+y.length<=sz/\mk fz (x++y) G k):=rfl
theorem El{x y:List D}:cu .Add fz (.tup x) (.tup y) G k=(x.length+y.length<=sz/\k (.tup (x++y)) G):=rfl
theorem Em{i j:Int}:cu .Sub fz (.int i) (.int j) G k=k (.int (i - j)) G:=rfl
theorem Eo{i j:Int}:cu .Mult fz (.int i) (.int j) G k=(CMul i j/\k (.int (i * j)) G):=rfl
theorem Ep{x:List D}{n:Int}:cu .Mult fz (.tup x) (.int n) G k=(2<=n/\n<=1000/\x≠[]/\x.length * n.toNat<=sz/\k (.tup (reps x n.toNat)) G):=rfl
theorem Er{x:List D}{n:Int}:cu .Mult fz (.lst x) (.int n) G k=(0<=n/\n<=1000/\x.length * n.toNat<=sz/\mk fz (reps x n.toNat) G k):=rfl
theorem Es{x:List Nat}{n:Int}:cu .Mult fz (.str x) (.int n) G k=(0<=n/\n<=1000/\x.length * n.toNat<=sz/\k (.str (reps x n.toNat)) G):=rfl
theorem Et{i j:Int}:cu .FloorDiv fz (.int i) (.int j) G k=((0 < j/\j < 1152921504606846976)/\k (.int (i / j)) G):=rfl
theorem Eu{i j:Int}:cu .Mod fz (.int i) (.int j) G k=(0 < j/\k (.int (i % j)) G):=rfl
theorem Ew{i j:Int}:cu .Pow fz (.int i) (.int j) G k=(oH i j/\k (.int (i ^ j.toNat)) G):=rfl
def eE:D->Bool
 |.non=>true
 |_=>false
theorem Ey{a b:D}:aW .Eq a b kb=((nr a=true/\nr b=true/\min (dpt a) (dpt b)<=60)/\kb (deq a b)):=rfl
theorem Ez{a b:D}:aW .NotEq a b kb=((nr a=true/\nr b=true/\min (dpt a) (dpt b)<=60)/\kb (!deq a b)):=rfl
theorem EY{i j:Int}:aW .Lt (.int i) (.int j) kb=kb (decide (i < j)):=rfl
theorem Fb{i j:Int}:aW .LtE (.int i) (.int j) kb=kb (decide (i<=j)):=rfl
theorem Fd{i j:Int}:aW .Gt (.int i) (.int j) kb=kb (decide (j < i)):=rfl
theorem Fe{i j:Int}:aW .GtE (.int i) (.int j) kb=kb (decide (j<=i)):=rfl
theorem Ff{i j:List Nat}:aW .Lt (.str i) (.str j) kb=kb (decide (i < j)):=rfl
theorem Fg{i j:List Nat}:aW .LtE (.str i) (.str j) kb=kb (!decide (j < i)):=rfl
theorem Fi{a:D}:aW .Is a .non kb=kb (eE a):=by cases a <;> rfl
theorem Fj{a:D}:aW .IsNot a .non kb=kb (!eE a):=by cases a <;> rfl
theorem Fl{a b:Bool}:aW .Is (.bl a) (.bl b) kb=kb (a==b):=rfl
theorem Fp{a b:Bool}:aW .IsNot (.bl a) (.bl b) kb=kb (a != b):=rfl
theorem Fq{c:Nat}{l:List Nat}:aW .In (.str [c]) (.str l) kb=kb (l.contains c):=rfl
theorem Ft{c:Nat}{l:List Nat}:aW .NotIn (.str [c]) (.str l) kb=kb (!l.contains c):=rfl
theorem Fv{a:D}{l:List D}:aW .In a (.lst l) kb=((nr a=true/\nrs l=true/\bc l<=60)/\kb (isIn a l)):=rfl
theorem Fw{a:D}{l:List D}:aW .In a (.tup l) kb=((nr a=true/\nrs l=true/\bc l<=60)/\kb (isIn a l)):=rfl
theorem Fx{a:D}{l:List D}:aW .NotIn a (.lst l) kb=((nr a=true/\nrs l=true/\bc l<=60)/\kb (!isIn a l)):=rfl
theorem Fy{a:D}{l:List D}:aW .NotIn a (.tup l) kb=((nr a=true/\nrs l=true/\bc l<=60)/\kb (!isIn a l)):=rfl
theorem FJ{i:Int}:eE (.int i)=false:=rfl
theorem FN{i:Bool}:eE (.bl i)=false:=rfl
theorem FP{i:List Nat}:eE (.str i)=false:=rfl
theorem FQ{i:List D}:eE (.tup i)=false:=rfl
theorem FT{i:List D}:eE (.lst i)=false:=rfl
theorem FW{i:Addr}:eE (.ref i)=false:=rfl
theorem Ga:eE .non=true:=rfl
def aY{α:Type}(o:Option α)(k:α->Prop):Prop:=match o with |some a=>k a |none=>False
theorem Gb{α:Type}{a:α}{k:α->Prop}:aY (some a) k=k a:=rfl
theorem bZ{α:Type}{o:Option α}{a:α}{k:α->Prop}(e:o=some a)(h:k a):aY o k:=by rw[e];exact h
theorem wD{α:Type}{xs:List α}{i:Int}{k:α->Prop}(h0:0<=i)(h1:i < xs.length)(h:∀a,a∈xs->k a):aY (atI xs i) k:=by obtain ⟨a,e,m⟩:=aab h0 h1;exact bZ e (h a m)
theorem Gd{ds:List D}{i:Int}:cz (.lst ds) (.int i) kd=aY (atI ds i) kd:=by unfold cz aY;(try dsimp only) <;> (cases atI ds i <;> rfl)
theorem Ge{ds:List D}{i:Int}:cz (.tup ds) (.int i) kd=aY (atI ds i) kd:=by unfold cz aY;(try dsimp only) <;> (cases atI ds i <;> rfl)
theorem Gf{l:List Nat}{i:Int}:cz (.str l) (.int i) kd=aY (atI l i) (λc=>kd (.str [c])):=by unfold cz aY;(try dsimp only) <;> (cases atI l i <;> rfl)
theorem Gg{ds:List D}{lo hi:Option Int}:dD fz (.lst ds) lo hi G k=mk fz (cut ds lo hi) G k:=rfl
theorem Gi{ds:List D}{y:D}:gw fz (.lst ds) y G k=(y=.int (-1)/\mk fz ds.reverse G k):=rfl
theorem Gj{ds:List Int}{lo hi:Option Int}:dD fz (.scr ds) lo hi G k=mk fz ((cut ds lo hi).map .int) G k:=rfl
theorem Gk{ds:List D}{lo hi:Option Int}:dD fz (.tup ds) lo hi G k=k (.tup (cut ds lo hi)) G:=rfl
theorem Gm{ds:List Nat}{lo hi:Option Int}:dD fz (.str ds) lo hi G k=k (.str (cut ds lo hi)) G:=rfl
theorem Gn{ds:List D}:opB .len [.lst ds] kd=kd (.int ds.length):=rfl
theorem Gp{ds:List D}:opB .len [.tup ds] kd=kd (.int ds.length):=rfl
theorem Gq{ds:List Nat}:opB .len [.str ds] kd=kd (.int ds.length):=rfl
theorem Gs{ds:List D}:opB .all [.lst ds] kd=aY (bools ds) (λbs=>kd (.bl (bs.all id))):=by unfold opB oV aY;(try dsimp only) <;> (cases bools ds <;> rfl)
theorem Gu{b:Bool}:opB .int [.bl b] kd=kd (.int (if b then 1 else 0)):=rfl
theorem Gv{b:Int}:opB .int [.int b] kd=kd (.int b):=rfl
theorem Gw{l:List Nat}:opB .int [.str l] kd=aY (PySem.intText? (tx l)) (λn=>l.length<=640/\kd (.int n)):=by unfold opB oW aY;(try dsimp only) <;> (cases PySem.intText? (tx l) <;> rfl)
theorem Gx{ds:List D}:opB .sum [.lst ds] kd=aY (bT ds) (λns=>kd (.int ns.sum)):=by unfold opB uJ aY;(try dsimp only) <;> (cases bT ds <;> rfl)
theorem Gy{a:Int}:opB .str [.int a] kd=((0<=a/\a < 100)/\kd (.str (fJ a.toNat))):=rfl
theorem Gz{a b:Int}:opB .max [.int a,.int b] kd=kd (.int (if b > a then b else a)):=rfl
theorem GC{ds:List D}{kl:List D->Prop}:cG .sorted [.tup ds] kl=aY (bT ds) (λns=>ns.length < 64/\∀ns':List Int,ns'.Perm ns->ns'.Pairwise (·<=·)->kl (ns'.map D.int)):=by unfold cG jt aY;(try dsimp only) <;> (cases bT ds <;> rfl)
theorem GD{ds:List D}{kl:List D->Prop}:cG .sorted [.lst ds] kl=aY (bA ds) (λls=>ls.length < 64/\∀ls':List (List Nat),ls'.Perm ls->PyProof.Rows.sortedS (ls'.map tx)=true->kl (ls'.map D.str)):=by unfold cG jt aY;(try dsimp only) <;> (cases bA ds <;> rfl)
theorem GF{ds:List D}:opB .tuple [.lst ds] kd=kd (.tup ds):=rfl
theorem GJ{ds:List D}:opB .tuple [.tup ds] kd=kd (.tup ds):=rfl
theorem GK{ds:List D}{kl:List D->Prop}:cG .list [.lst ds] kl=kl ds:=rfl
theorem GP{ds:List D}{kl:List D->Prop}:cG .list [.tup ds] kl=kl ds:=rfl
theorem GQ{l:List Nat}{kl:List D->Prop}:cG .list [.str l] kl=kl (l.map λc=>.str [c]):=rfl
theorem GR{s:List Nat}{ds:List D}:opM .join (.str s) [.lst ds] G k=aY (bA ds) (λls=>((ls.map (·.length)).sum+ls.length * s.length<=sz)/\k (.str (dF s ls)) G):=by unfold opM oX aY;(simp only[List.map_cons,List.map_nil,view]) <;> (cases bA ds <;> rfl)
def trk(G:DH)(p:Addr)(k:List D->Prop):Prop:=match G p with |some (.lst ds)=>k ds |none=>False
theorem b8{ds:List D}{k:List D->Prop}(e:G p=some (.lst ds)):trk G p k=k ds:=by unfold trk;rw[e]
theorem GX{x:D}:opM .append (.ref p) [x] G k=trk G p (λds=>ds.length < sz/\k .non (aV G p (.lst (ds++[x])))):=by unfold opM oY trk;(try dsimp only) <;> (cases G p <;> first |rfl | (rename_i o;cases o;rfl))
theorem GZ{x:D}{i:Int}:opM .insert (.ref p) [.int i,x] G k=trk G p (λds=>ds.length < sz/\0<=i/\i<=1000000/\k .non (aV G p (.lst (ds.take i.toNat++x::ds.drop i.toNat)))):=by unfold opM ph trk;(try dsimp only) <;> (cases G p <;> first |rfl | (rename_i o;cases o;rfl))
theorem Ha{i:Int}:opM .pop (.ref p) [.int i] G k=trk G p (λds=>0<=i/\i<=1000000/\aY ds[i.toNat]? λy=>k y (aV G p (.lst (ds.eraseIdx i.toNat)))):=by
 unfold opM pq trk
 (try dsimp only) <;> (cases G p <;> first |rfl | (rename_i o;cases o;unfold aY;rename_i ds;dsimp only;cases ds[i.toNat]? <;> rfl))
theorem aad:recv .pop (.ref p) G=trk G p (λ_=>True):=by unfold recv trk;(try dsimp only) <;> (cases G p <;> first |rfl | (rename_i o;cases o;rfl))
theorem Hb:recv .insert (.ref p) G=trk G p (λ_=>True):=by unfold recv trk;(try dsimp only) <;> (cases G p <;> first |rfl | (rename_i o;cases o;rfl))
theorem Hc{xs:List D}:opM .extend (.ref p) [.lst xs] G k=trk G p (λds=>ds.length+xs.length < sz/\k .non (aV G p (.lst (ds++xs)))):=by unfold opM oZ trk;(simp only[List.map_cons,List.map_nil,view]) <;> (cases G p <;> first |rfl | (rename_i o;cases o;rfl))
theorem Hf{ds:List D}:opM .count (.lst ds) [.bl true] G k=aY (bools ds) (λbs=>k (.int (bs.count true:Nat)) G):=by unfold opM pA aY;(try dsimp only[view]) <;> (cases bools ds <;> rfl)
theorem Hg{ds:List D}:opM .index (.lst ds) [.bl true] G k=aY (bools ds) (λbs=>true∈bs/\k (.int (bs.idxOf true:Nat)) G):=by unfold opM pB aY;(try dsimp only[view]) <;> (cases bools ds <;> rfl)
theorem Hh{ds:List D}:recv .count (.lst ds) G=True:=rfl
theorem Hi{ds:List D}:recv .index (.lst ds) G=True:=rfl
theorem Hj{s:List Nat}:recv .join (.str s) G=True:=rfl
theorem Hk:recv .append (.ref p) G=trk G p (λ_=>True):=by unfold recv trk;(try dsimp only) <;> (cases G p <;> first |rfl | (rename_i o;cases o;rfl))
theorem Hl:recv .extend (.ref p) G=trk G p (λ_=>True):=by unfold recv trk;(try dsimp only) <;> (cases G p <;> first |rfl | (rename_i o;cases o;rfl))
theorem Hm{i:Int}{x:D}{kg:DH->Prop}:dG (.ref p) (.int i) x G kg=trk G p (λds=>aY (ixN ds.length i) (λj=>kg (aV G p (.lst (ds.set j x))))):=by
 unfold dG trk aY
 (try dsimp only) <;> (cases G p <;> first |rfl | (rename_i o;cases o;(try dsimp only) <;> (rename_i ds;cases ixN ds.length i <;> rfl)))
theorem Hn{i j:Int}:dm .Add (.int i) (.int j) kd=kd (.int (i+j)):=rfl
theorem Ho{x y:List Nat}:dm .Add (.str x) (.str y) kd=(x.length+y.length<=sz/\kd (.str (x++y))):=rfl
theorem Hq{i j:Int}:dm .Sub (.int i) (.int j) kd=kd (.int (i - j)):=rfl
theorem Hr{xs:List D}:mk true xs G k=k (.lst xs) G:=rfl
theorem Hs{xs:List D}:mk false xs G k=∀p,G p=none->k (.ref p) (aV G p (.lst xs)):=rfl
theorem Ht:view G .non=.non:=rfl
theorem Hu{b:Bool}:view G (.bl b)=.bl b:=rfl
theorem Hv{b:Int}:view G (.int b)=.int b:=rfl
theorem Hw{b:List Nat}:view G (.str b)=.str b:=rfl
theorem Hx{b:List D}:view G (.tup b)=.tup b:=rfl
theorem Hy{b:List D}:view G (.lst b)=.lst b:=rfl
theorem Hz{b:String}:view G (.exn b)=.exn b:=rfl
theorem HB{b:List Int}:view G (.scr b)=.scr b:=rfl
theorem eF{ds:List D}(e:G p=some (.lst ds)):view G (.ref p)=.lst ds:=by unfold view;dsimp only;rw[e]
theorem HF:truth .non=some false:=rfl
theorem HH{b:Bool}:truth (.bl b)=some b:=rfl
theorem HJ{i:Int}:truth (.int i)=some (i != 0):=rfl
theorem HN{l:List Nat}:truth (.str l)=some (!l.isEmpty):=rfl
theorem HQ{l:List D}:truth (.tup l)=some (!l.isEmpty):=rfl
theorem HR{l:List D}:truth (.lst l)=some (!l.isEmpty):=rfl
theorem HS{l:List D}:itemsOf G (.lst l)=some (l,[]):=rfl
theorem HW{l:List D}:itemsOf G (.tup l)=some (l,[]):=rfl
theorem HX{l:List Nat}:itemsOf G (.str l)=some (l.map λc=>.str [c],[]):=rfl
theorem aae{ds:List D}(e:G p=some (.lst ds)):itemsOf G (.ref p)=some (ds,[(p,ds)]):=by unfold itemsOf;dsimp only;rw[e]
theorem HY{t:String}:isT t .non=some false:=rfl
theorem H9 {t:String} {b:Bool}:isT t (.bl b)=some (t=="bool"||t=="int"):=rfl
theorem Ia {t:String} {b:Int}:isT t (.int b)=some (t=="int"):=rfl
theorem Ib {t:String} {b:List Nat}:isT t (.str b)=some (t=="str"):=rfl
theorem is_tup {t:String} {b:List D}:isT t (.tup b)=some (t=="tuple"):=rfl
theorem Ie {t:String} {b:List D}:isT t (.lst b)=some (t=="list"):=rfl
theorem Ig{i:Nat}{d:D}{ρ:ak}{kr:ak->Prop}:bf (.nm i) d ρ G kr=kr (ρ.set i (some d)):=rfl
theorem Ih{ts:Tgs}{ds:List D}{ρ:ak}{kr:ak->Prop}:bf (.tp ts) (.lst ds) ρ G kr=bK ts ds ρ G kr:=rfl
theorem Ii{ts:Tgs}{ds:List D}{ρ:ak}{kr:ak->Prop}:bf (.tp ts) (.tup ds) ρ G kr=bK ts ds ρ G kr:=rfl
theorem Ij{ρ:ak}{kr:ak->Prop}:bK .nil [] ρ G kr=kr ρ:=rfl
theorem Ik{t:Tg}{r:Tgs}{d:D}{ds:List D}{ρ:ak}{kr:ak->Prop}:bK (.cons t r) (d::ds) ρ G kr=bf t d ρ G (λρ'=>bK r ds ρ' G kr):=rfl
theorem Il:deq .non .non=true:=rfl
theorem Im  {y:Bool}:deq .non (.bl y)=false:=rfl
theorem Io  {y:Int}:deq .non (.int y)=false:=rfl
theorem Ip  {y:List Nat}:deq .non (.str y)=false:=rfl
theorem Ir  {y:List D}:deq .non (.tup y)=false:=rfl
theorem Iu  {y:List D}:deq .non (.lst y)=false:=rfl
theorem Iv{x:Bool} :deq (.bl x) .non=false:=rfl
theorem Iw{x:Bool}{y:Bool}:deq (.bl x) (.bl y)=(x==y):=by rw[deq]
theorem Iz{x:Bool}{y:List Nat}:deq (.bl x) (.str y)=false:=rfl
theorem IK{x:Bool}{y:List D}:deq (.bl x) (.tup y)=false:=rfl
theorem IV{x:Bool}{y:List D}:deq (.bl x) (.lst y)=false:=rfl
theorem IW{x:Int} :deq (.int x) .non=false:=rfl
theorem Ja{x:Int}{y:Int}:deq (.int x) (.int y)=(x==y):=by rw[deq]
theorem Jb{x:Int}{y:List Nat}:deq (.int x) (.str y)=false:=rfl
theorem Jc{x:Int}{y:List D}:deq (.int x) (.tup y)=false:=rfl
theorem Jd{x:Int}{y:List D}:deq (.int x) (.lst y)=false:=rfl
theorem Jf{x:List Nat} :deq (.str x) .non=false:=rfl
theorem Jg{x:List Nat}{y:Bool}:deq (.str x) (.bl y)=false:=rfl
theorem Jh{x:List Nat}{y:Int}:deq (.str x) (.int y)=false:=rfl
theorem Ji{x:List Nat}{y:List Nat}:deq (.str x) (.str y)=(x==y):=by rw[deq]
theorem Jj{x:List Nat}{y:List D}:deq (.str x) (.tup y)=false:=rfl
theorem Jl{x:List Nat}{y:List D}:deq (.str x) (.lst y)=false:=rfl
theorem Jm{x:List D} :deq (.tup x) .non=false:=rfl
theorem Jo{x:List D}{y:Bool}:deq (.tup x) (.bl y)=false:=rfl
theorem Jp{x:List D}{y:Int}:deq (.tup x) (.int y)=false:=rfl
theorem Jq{x:List D}{y:List Nat}:deq (.tup x) (.str y)=false:=rfl
theorem Jr{x:List D}{y:List D}:deq (.tup x) (.tup y)=bR x y:=by rw[deq]
theorem Js{x:List D}{y:List D}:deq (.tup x) (.lst y)=false:=rfl
theorem Jt{x:List D} :deq (.lst x) .non=false:=rfl
theorem Ju{x:List D}{y:Bool}:deq (.lst x) (.bl y)=false:=rfl
theorem Jv{x:List D}{y:Int}:deq (.lst x) (.int y)=false:=rfl
theorem Jw{x:List D}{y:List Nat}:deq (.lst x) (.str y)=false:=rfl
theorem Jx{x:List D}{y:List D}:deq (.lst x) (.tup y)=false:=rfl
theorem Jy{x:List D}{y:List D}:deq (.lst x) (.lst y)=bR x y:=by rw[deq]
theorem JB:bR [] []=true:=rfl
theorem JC{a b:D}{as bs:List D}:bR (a::as) (b::bs)=(deq a b&&bR as bs):=by rw[bR]
theorem JD{b:D}{bs:List D}:bR [] (b::bs)=false:=rfl
theorem JF{b:D}{bs:List D}:bR (b::bs) []=false:=rfl
theorem JG :nr .non=true:=rfl
theorem JH :dpt .non=0:=rfl
theorem JK{x:Bool}:nr (.bl x)=true:=rfl
theorem JL{x:Bool}:dpt (.bl x)=0:=rfl
theorem JM{x:Int}:nr (.int x)=true:=rfl
theorem JN{x:Int}:dpt (.int x)=0:=rfl
theorem JP{x:List Nat}:nr (.str x)=true:=rfl
theorem JQ{x:List Nat}:dpt (.str x)=0:=rfl
theorem JR{x:List D}:nr (.tup x)=nrs x:=by rw[nr]
theorem JS{x:List D}:dpt (.tup x)=bc x+1:=by rw[dpt]
theorem JT{x:List D}:nr (.lst x)=nrs x:=by rw[nr]
theorem JV{x:List D}:dpt (.lst x)=bc x+1:=by rw[dpt]
theorem JW:nrs []=true:=rfl
theorem JX{a:D}{l:List D}:nrs (a::l)=(nr a&&nrs l):=by rw[nrs]
theorem JZ:bc []=0:=rfl
theorem J0{a:D}{l:List D}:bc (a::l)=max (dpt a) (bc l):=by rw[bc]
end
theorem seq{Φ:aa}{s:Sx}{r:Sxs}{E:EK}{ρ:ak}{G:DH}{D:En}(h:∀M:ak->DH->Prop,(∀ρ' G',au Φ r E ρ' G' D->M ρ' G')->wpS Φ s E ρ G { D with nx:=M }):au Φ (.cons s r) E ρ G D:=by rw[iH];exact h _ λ_ _ x=>x
theorem last{Φ:aa}{s:Sx}{E:EK}{ρ:ak}{G:DH}{D:En}(h:wpS Φ s E ρ G D):au Φ (.cons s .nil) E ρ G D:=by rw[iH];exact wpS_mono s (D:=D) (D':={ D with nx:=λρ' G'=>au Φ .nil E ρ' G' D }) ⟨λρ' G' q=>(show au Φ .nil E ρ' G' D from by rw[iG];exact q),λ_ _ q=>q,λ_ _ q=>q,λ_ _ q=>q⟩ h
theorem done{Φ:aa}{E:EK}{ρ:ak}{G:DH}{D:En}(h:D.nx ρ G):au Φ .nil E ρ G D:=by rw[iG];exact h
section
variable {Φ:aa} {E:EK} {ρ:ak} {G:DH}
def ForG(Φ:aa)(t:Tg)(body:Sxs)(E:EK)(D:En)(items:List RF.D)(g:Hld)(ρ:ak)(G:DH):Prop:=
 forLoop (λd ρ' G' k=>bf t d ρ' G' λρ1=>au Φ body E ρ1 G' { D with nx:=k,ct:=k,bk:=D.nx }) g items ρ G D.nx
theorem J1{t:Tg}{it:It'}{body:Sxs}{D:En}:wpS Φ (.for_ t it body) E ρ G D=wpI Φ it E ρ G λitems g G1=>ForG Φ t body E D items g ρ G1:=rfl
theorem ForG.inv{t:Tg}{body:Sxs}{D:En}{items:List RF.D}{g:Hld}(P:Nat->ak->DH->Prop)(h0:P 0 ρ G)(hh:∀i ρ G,P i ρ G->held g G)
  (hs:∀i d ρ G,items[i]?=some d->P i ρ G->∀kk:ak->DH->Prop,(∀ρ' G',P (i+1) ρ' G'->kk ρ' G')->bf t d ρ G λρ1=>au Φ body E ρ1 G { D with nx:=kk,ct:=kk,bk:=D.nx })
  (he:∀ρ G,P items.length ρ G->D.nx ρ G):ForG Φ t body E D items g ρ G:=Z7 P h0 hh hs he
def CompG(Φ:aa)(elt:Ex)(tg:Tg)(cond:Tx)(items:List D)(g:Hld)(ρ:ak)(G:DH)(k:List D->DH->Prop):Prop:=
 compLoop (λd ρ' G' k'=>bf tg d ρ' G' λρ1=>wpT Φ cond noE ρ1 G' λb G2=>match b with |true=>wpE Φ elt noE ρ1 G2 λy G3=>k' (some y) ρ1 G3 |false=>k' none ρ1 G2) g items [] ρ G k
def jb(cap:List (Option Nat))(ρ:ak):ak:=cap.map λo=>match o with |none=>none |some j=>(ρ[j]?).join
theorem J2{ρ:ak}:jb [] ρ=[]:=rfl
theorem J3{cap:List (Option Nat)}{ρ:ak}:jb (none::cap) ρ=none::jb cap ρ:=rfl
theorem J4{cap:List (Option Nat)}{ρ:ak}{j:Nat}:jb (some j::cap) ρ=(ρ[j]?).join::jb cap ρ:=rfl
theorem J5{fz:Bool}{elt:Ex}{tg:Tg}{it:It'}{cond:Tx}{N:List String}{cap:List (Option Nat)}{k:D->DH->Prop}:
  wpE Φ (.comp fz elt tg it cond N cap) E ρ G k=wpI Φ it E ρ G λitems g G1=>CompG Φ elt tg cond items g (jb cap ρ) G1 λds G2=>mk fz ds G2 k:=rfl
theorem CompG.inv{elt:Ex}{tg:Tg}{cond:Tx}{items:List D}{g:Hld}{k:List D->DH->Prop}(P:Nat->List D->ak->DH->Prop)(h0:P 0 [] ρ G)(hh:∀i acc ρ G,P i acc ρ G->held g G)(hl:items.length<=sz)
  (hs:∀i d acc ρ G,items[i]?=some d->P i acc ρ G->∀kk:Option D->ak->DH->Prop,(∀o ρ' G',P (i+1) (acc++o.toList) ρ' G'->kk o ρ' G')->
   bf tg d ρ G λρ1=>wpT Φ cond noE ρ1 G λb G2=>match b with |true=>wpE Φ elt noE ρ1 G2 λy G3=>kk (some y) ρ1 G3 |false=>kk none ρ1 G2)
  (he:∀acc ρ G,P items.length acc ρ G->k acc G):CompG Φ elt tg cond items g ρ G k:=DQ P h0 hh (by simpa using hl) hs he
theorem CompG.map{elt:Ex}{tg:Tg}{cond:Tx}{items:List D}{g:Hld}{k:List D->DH->Prop}(f:D->D)(I:ak->Prop)(h0:I ρ)(hg:held g G)(hl:items.length<=sz)
  (hs:∀d ρ,d∈items->I ρ->∀kk:Option D->ak->DH->Prop,(∀ρ',I ρ'->kk (some (f d)) ρ' G)->bf tg d ρ G λρ1=>wpT Φ cond noE ρ1 G λb G2=>match b with |true=>wpE Φ elt noE ρ1 G2 λy G3=>kk (some y) ρ1 G3 |false=>kk none ρ1 G2)
  (he:k (items.map f) G):CompG Φ elt tg cond items g ρ G k:=Z9 g f I h0 hg hl hs he
def aaf(Φ:aa)(c:Tx)(body:Sxs)(E:EK)(D:En)(n:Nat)(ρ:ak)(G:DH):Prop:=
 whileLoop (λρ' G' k=>wpT Φ c E ρ' G' k) (λρ' G' k=>au Φ body E ρ' G' { D with nx:=k,ct:=k,bk:=D.nx }) n ρ G D.nx
theorem J6{c:Tx}{body:Sxs}{D:En}:wpS Φ (.whl c body) E ρ G D=∃n,aaf Φ c body E D n ρ G:=rfl
end
theorem len0{α:Type}{l:List α}(h:l.length=0):l=[]:=List.length_eq_zero_iff.mp h
theorem wF{α:Type}{n:Nat}{l:List α}(h:l.length=n+1):∃a r,l=a::r/\r.length=n:=by
 cases l with
 |nil=>cases h
 |cons a r=>exact ⟨a,r,rfl,Nat.succ.inj h⟩
theorem c7{α:Type}{l:List α}(h:l.length=1):∃a,l=[a]:=by obtain ⟨a,r,rfl,h2⟩:=wF h;cases len0 h2;exact ⟨a,rfl⟩
theorem aU{α:Type}{l:List α}(h:l.length=2):∃a b,l=[a,b]:=by obtain ⟨a,r,rfl,h2⟩:=wF h;obtain ⟨b,rfl⟩:=c7 h2;exact ⟨a,b,rfl⟩
theorem dJ{α:Type}{l:List α}(h:l.length=3):∃a b c,l=[a,b,c]:=by obtain ⟨a,r,rfl,h2⟩:=wF h;obtain ⟨b,c,rfl⟩:=aU h2;exact ⟨a,b,c,rfl⟩
structure Fo(Φ:aa)(P:Program)(w:World)(K:PySem.W.Frag)(mg:Str->Option Value)(base:Heap)(k:Nat)(f:String)(n:Nat):Prop where
 ex:∃fa fd ps,FnOk P w K mg base (CX1 P w) k fa fd ps (lift K n (Φ f))/\PySem.W.keepIn K (.ref fa)=true/\Binds K fd ps []/\mg (Str.ofString f)=some (.ref fa)
section
variable {Φ:aa} {P:Program} {w:World} {K:PySem.W.Frag} {mg:Str->Option Value} {base:Heap} {k:Nat} {xs:List (String×Bool)}
def AllF(Φ:aa)(P:Program)(w:World)(K:PySem.W.Frag)(mg:Str->Option Value)(base:Heap)(k:Nat):List (String×Nat)->Prop
 |[]=>True
 | (f,n)::r=>Fo Φ P w K mg base k f n/\AllF Φ P w K mg base k r
def AllB(mg:Str->Option Value):List String->Prop
 |[]=>True
 |f::r=>mg (Str.ofString f)=none/\AllB mg r
def AllC(K:PySem.W.Frag)(mg:Str->Option Value):List (String×D)->Prop
 |[]=>True
 | (x,d)::r=>(∃u v,mg (Str.ofString x)=some u/\RelV v u/\∀H F,Rep K H F d v)/\AllC K mg r
theorem AllF.get:∀{fs:List (String×Nat)}{f:String}{n:Nat},AllF Φ P w K mg base k fs->(f,n)∈fs->Fo Φ P w K mg base k f n
 | (f',n')::r,f,n,h,m=>by
  rcases List.mem_cons.mp m with e |m
  ·cases e;exact h.1
  ·exact AllF.get h.2 m
theorem AllB.get:∀{fs:List String}{f:String},AllB mg fs->f∈fs->mg (Str.ofString f)=none
 |f'::r,f,h,m=>by
  rcases List.mem_cons.mp m with e |m
  ·cases e;exact h.1
  ·exact AllB.get h.2 m
theorem AllC.get:∀{fs:List (String×D)}{x:String}{d:D},AllC K mg fs->(x,d)∈fs->∃u v,mg (Str.ofString x)=some u/\RelV v u/\∀H F,Rep K H F d v
 | (f',n')::r,f,n,h,m=>by
  rcases List.mem_cons.mp m with e |m
  ·cases e;exact h.1
  ·exact AllC.get h.2 m
def cvB(K:PySem.W.Frag)(C':String):Option V:=match PySem.W.nsIn K mainGlobals (Str.ofString C') with
 |some (some (.ref a))=>if Ae K a then some (.ref a) else none
 |some none=>if C'=="ValueError" then some (.ty "ValueError") else none
 |_=>none
def xiB(K:PySem.W.Frag)(C C':String)(cv:V):Bool:=match PySem.W.nsIn K mainGlobals (Str.ofString C) with
 |some (some (.ref c))=>Ad K c&&PySem.W.mroIn K c (valOf cv)==some (fK C C')&&(fK C C'||!(Value.ref c==valOf cv))
 |_=>false
def wG(K:PySem.W.Frag)(C:String):Bool:=match PySem.W.nsIn K mainGlobals (Str.ofString C) with
 |some (some (.ref c))=>gn K c
 |_=>false
def xsB(K:PySem.W.Frag)(xs:List (String×Bool)):Bool:=xs.all λp=>match p.2 with
 |true=>wG K p.1
 |false=>(cvB K p.1).any λcv=>xs.all λq=>!q.2||xiB K q.1 p.1 cv
theorem aag{h:Heap}(X:K.In h)(Gh:h.Ns mainGlobals mg){xs:List (String×Bool)}(e:xsB K xs=true)(C:String)(hC:xs.contains (C,true)=true):∃a,mg (Str.ofString C)=some (.ref a)/\gn K a=true/\PySem.W.nsIn K mainGlobals (Str.ofString C)=some (some (.ref a)):=by
 have e1:wG K C=true:=List.all_eq_true.mp e _ (List.contains_iff_mem.mp hC);unfold wG at e1;split at e1
 ·rename_i a hn;exact ⟨a,PySem.W.mg_of X Gh hn,e1,hn⟩
 ·cases e1
theorem aah{h:Heap}(X:K.In h)(Gh:h.Ns mainGlobals mg){xs:List (String×Bool)}(e:xsB K xs=true)(C':String)(hC:xs.contains (C',false)=true):∃cv,CV K mg C' cv/\∀C,xs.contains (C,true)=true->XI K C C' cv:=by
 have e1:((cvB K C').any λcv=>xs.all λq=>!q.2||xiB K q.1 C' cv)=true:=List.all_eq_true.mp e _ (List.contains_iff_mem.mp hC);obtain ⟨cv,hcv,h2⟩:=aQ e1;refine ⟨cv,?_,λC hC=>?_⟩
 ·unfold cvB at hcv;split at hcv
  ·rename_i a hn;split at hcv
   ·rename_i hb;cases hcv;exact .inl ⟨a,rfl,PySem.W.mg_of X Gh hn,hb⟩
   ·cases hcv
  ·rename_i hn;split at hcv
   ·rename_i hb;cases hcv;exact .inr ⟨beq_iff_eq.mp hb,rfl,PySem.W.mg_none_of X Gh hn⟩
   ·cases hcv
  ·cases hcv
 ·have e3:(!true||xiB K C C' cv)=true:=List.all_eq_true.mp h2 _ (List.contains_iff_mem.mp hC);have e3:xiB K C C' cv=true:=e3;unfold xiB at e3;split at e3
  ·rename_i c hn;rw[Bool.and_eq_true,Bool.and_eq_true,beq_iff_eq]at e3;refine ⟨c,hn,e3.1.1,e3.1.2,λhs=>?_⟩;have:=e3.2;rw[hs,Bool.false_or,Bool.not_eq_true']at this;exact this
  ·cases e3
theorem bse{h:Heap}{fs:List (String×Nat)}{bt:List String}{cn:List (String×D)}(h1:AllF Φ P w K mg base k fs)(h2:AllB mg bt)(h3:AllC K mg cn)(X:K.In h)(Gh:h.Ns mainGlobals mg)(e:xsB K xs=true):Bse Φ P w K mg base (CX1 P w) k fs bt cn xs:=
 ⟨λ_ _ m=>(h1.get m).ex,λ_ m=>h2.get m,λ_ _ m=>h3.get m,aag X Gh e,aah X Gh e⟩
theorem jP{x:String}{i:Int}{t:Tok}(h:mg (Str.ofString x)=some (.int i t)):∃u v,mg (Str.ofString x)=some u/\RelV v u/\∀H F,Rep K H F (.int i) v:=⟨_,.int i,h,⟨t,rfl⟩,λ_ _=>rfl⟩
theorem aai{x:String}{l:List Nat}{s:Str}{t:Tok}(h:mg (Str.ofString x)=some (.str s t))(e:s=tx l)(hl:l.length<=sz):∃u v,mg (Str.ofString x)=some u/\RelV v u/\∀H F,Rep K H F (.str l) v:=⟨_,.str s,h,⟨t,rfl⟩,λ_ _=>⟨by rw[e],hl⟩⟩
theorem J7{n:Nat}{S:RF.Spec}{fa:Addr}{fd:FuncData}{ps:List Str}(h:∀ds G a,¬S.pre ds G a):FnOk P w K mg base (CX1 P w) k fa fd ps (lift K n S):=
 ⟨λ_ _ _ _ ⟨_,_,_,_,_,_,a,hp,_⟩=>absurd hp (h _ _ a),λ_ _ _ _ _ _ _ _ _ _ _ _ _ ⟨_,_,_,_,_,_,a,hp,_⟩=>absurd hp (h _ _ a)⟩
end
section
variable {Φ:aa} {P:Program} {w:World} {K:PySem.W.Frag} {mg:Str->Option Value} {base:Heap} {k j n:Nat} {fs:List (String×Nat)} {bt:List String} {cn:List (String×D)} {xs:List (String×Bool)} {x:String} {S:RF.Spec} {fa:Addr} {fd:FuncData} {ps:List Str}
theorem Bse.add(B:Bse Φ P w K mg base (CX1 P w) k fs bt cn xs)(e:Φ x=S)(o:FnOk P w K mg base (CX1 P w) (k+j) fa fd ps (lift K n S))(h2:PySem.W.keepIn K (.ref fa)=true)(h3:Binds K fd ps [])(h4:mg (Str.ofString x)=some (.ref fa)):Bse Φ P w K mg base (CX1 P w) (k+j) ((x,n)::fs) bt cn xs:=by
 refine ⟨λf m hm=>?_,B.blt,B.con,B.xcl,B.xis⟩;rcases List.mem_cons.mp hm with e' |hm
 ·cases e';exact ⟨fa,fd,ps,by rw[e];exact o,h2,h3,h4⟩
 ·obtain ⟨fa,fd,ps,h1,h⟩:=B.call f m hm;exact ⟨fa,fd,ps,h1.mono (Nat.le_add_right _ _),h⟩
theorem Bse.step{qual:Str}{st:Stmt}{N:List Str}{body:Sxs}(B:Bse Φ P w K mg base (CX1 P w) k fs bt cn xs)(F:Fun K (Str.ofString x) qual st fa fd)(h3:Binds K fd ps [])(h4:mg (Str.ofString x)=some (.ref fa))(e:Φ x=S)(m:Nat)
  (hs:fnB N ps (ao st)=true) (hc:aB (aG N (ao st) fs bt cn xs) body (aF st)=true) (hn:ps.length=n) (hm:N.length=n+m)
  (hw:∀ds G a,ds.length=n->S.pre ds G a->au Φ body noE (env0 ds m) G (ends (S.post a))):Bse Φ P w K mg base (CX1 P w) (k+1) ((x,n)::fs) bt cn xs:=
 B.add e (rR F B S n m hs hc hn hm hw) F.kp h3 h4
def gP(Φ:aa)(x:String)(S:RF.Spec):aa:=λf=>if f=x then S else Φ f
theorem jc{y:String}(e:Φ y=S){S':RF.Spec}(h:(y==x)=false):gP Φ x S' y=S:=by unfold gP;rw[if_neg (by simpa using h)];exact e
theorem Bse.self(B:Bse Φ P w K mg base (CX1 P w) k fs bt cn xs)(hx:(fs.map (·.1)).contains x=false)(o:FnOk P w K mg base (CX1 P w) (k+j) fa fd ps (lift K n S))(h2:PySem.W.keepIn K (.ref fa)=true)(h3:Binds K fd ps [])(h4:mg (Str.ofString x)=some (.ref fa)):Bse (gP Φ x S) P w K mg base (CX1 P w) (k+j) ((x,n)::fs) bt cn xs:=by
 refine ⟨λf m hm=>?_,B.blt,B.con,B.xcl,B.xis⟩;rcases List.mem_cons.mp hm with e' |hm'
 ·cases e';exact ⟨fa,fd,ps,by unfold gP;rw[if_pos rfl];exact o,h2,h3,h4⟩
 ·obtain ⟨fa,fd,ps,h1,h⟩:=B.call f m hm';have hf:f≠x:=by
   rintro rfl;rw[<-Bool.not_eq_true,List.contains_iff_mem]at hx;exact hx (List.mem_map.mpr ⟨(f,m),hm',rfl⟩)
  exact ⟨fa,fd,ps,by unfold gP;rw[if_neg hf];exact h1.mono (Nat.le_add_right _ _),h⟩
end
theorem aaj{S:RF.Spec}(hS:∀(ns:List Int)(G:DH),ns.length<=63->∃a,S.pre [.scr ns] G a/\(∀d G',S.post a d G'->d=.bl true)/\∀x G',¬S.exc a x G')(K:PySem.W.Frag)(H:Hp)(a:Addr)(ns:List Int)(hl:ns.length<=63)(hO:Only H)(hs:SqL K H a (ns.map V.int)):
  lift K 1 S [.ref a] H (λv _=>v=.bl true) λ_ _ _=>False:=by
 obtain ⟨b,h1,h2,h3⟩:=hS ns (λ_=>none) hl;refine ⟨rfl,λ_=>False,λ_=>none,[.scr ns],⟨λ_ f=>f.elim,λ_ _ e=>by cases e⟩,⟨.ref a,[],rfl,⟨a,rfl,?_⟩,rfl⟩,b,h1,λd G' q H' F' v _ _ rv=>?_,λx G' q=>absurd q (h3 x G')⟩
 ·rcases hs with (h |h) |h
  ·exfalso;rcases hO a with z |⟨o,u,z⟩
   ·rw[z]at h;cases h
   ·rw[z]at h;cases h
  ·exact .inl h
  ·exact .inr h
 ·rw[h2 d G' q]at rv;exact rv
theorem aak{pre:List D->DH->Prop}(h:∀(ns:List Int)(G:DH),ns.length<=63->pre [.scr ns] G):∀(ns:List Int)(G:DH),ns.length<=63->∃a,(bD pre (λ_ _ d _=>d=.bl true)).pre [.scr ns] G a/\(∀d G',(bD pre (λ_ _ d _=>d=.bl true)).post a d G'->d=.bl true)/\∀x G',¬(bD pre (λ_ _ d _=>d=.bl true)).exc a x G':=
 λns G hl=>⟨([.scr ns],G),⟨rfl,h ns G hl⟩,λ_ _ q=>q,λ_ _ z=>z⟩
def ghS{A:Type}(pre:A->List D->DH->Prop)(post:A->DH->D->DH->Prop):RF.Spec where
 A:=A×DH
 pre:=λds G a=>a.2=G/\pre a.1 ds G
 post:=λa d G'=>post a.1 a.2 d G'
 exc:=λ_ _ _=>False
theorem fV{A:Type}{pre:A->List D->DH->Prop}{post:A->DH->D->DH->Prop}{ds:List D}{G:DH}{k:D->DH->Prop}{E:EK}(a:A)(h:pre a ds G)(hk:∀d G',post a G d G'->k d G'):(ghS pre post).t ds G k E:=
 ⟨(a,G),⟨rfl,h⟩,hk,λ_ _ z=>z.elim⟩
theorem fW{A:Type}{Φ:aa}{body:Sxs}{m n:Nat}{pre:A->List D->DH->Prop}{post:A->DH->D->DH->Prop}(h:∀a ds G,pre a ds G->au Φ body noE (env0 ds m) G (ends (post a G))):
  ∀ds G a,ds.length=n->(ghS pre post).pre ds G a->au Φ body noE (env0 ds m) G (ends ((ghS pre post).post a)):=by
 rintro ds G ⟨a,G0⟩ _ ⟨rfl,h1⟩;exact h a ds _ h1
def bF{A:Type}(args:A->List D)(ok:A->Prop)(val:A->D):RF.Spec:=ghS (λa ds _=>ds=args a/\ok a) (λa G d G'=>G'=G/\d=val a)
theorem bM{A:Type}{args:A->List D}{ok:A->Prop}{val:A->D}{ds:List D}{G:DH}{k:D->DH->Prop}{E:EK}(a:A)(e:ds=args a)(h:ok a)(hk:k (val a) G):(bF args ok val).t ds G k E:=
 fV a ⟨e,h⟩ λd G' ⟨e1,e2⟩=>by subst e1 e2;exact hk
theorem bI{A:Type}{Φ:aa}{body:Sxs}{m n:Nat}{args:A->List D}{ok:A->Prop}{val:A->D}(h:∀a G,ok a->au Φ body noE (env0 (args a) m) G (ends λd G'=>G'=G/\d=val a)):
  ∀ds G a,ds.length=n->(bF args ok val).pre ds G a->au Φ body noE (env0 ds m) G (ends ((bF args ok val).post a)):=
 fW λa ds G ⟨e,h1⟩=>by subst e;exact h a G h1
theorem ai{a b:Prop}(x:a)(y:b):a/\b:=⟨x,y⟩
def J8:=ai @qt (ai @iI (ai @qu (ai @qw (ai @uY (ai @qx (ai @qy (ai @qz (ai @qC (ai @qD (ai @qF (ai (ai @qH (ai @jz (ai @u5 (ai @u6 (ai (ai @vd @u9) (ai @vf (ai @vg (ai (ai @uU (ai (ai @ql @qm) (ai @uV (ai @uW @uX)))) (ai @uZ @qG))))))))) (ai @J1 (ai @J6 (ai (ai @pQ (ai @pF (ai @pG (ai @pH (ai @iD (ai @gA (ai @fL (ai @pI (ai @ju (ai @pJ (ai @jw (ai @pK (ai @pL (ai @pM (ai @pN (ai @uQ (ai @uR (ai @uT (ai @pO @pP))))))))))))))))))) (ai @gB (ai @pR (ai @pU (ai @pW (ai @jx (ai @jy (ai @pX (ai @pY (ai @pZ (ai @p6 (ai @p7 (ai @p8 (ai (ai @qd @qb) (ai @qe (ai @qg (ai @qi (ai @qj (ai @dZ (ai @qp (ai @J5 (ai @Ei (ai @Ej (ai @Ek (ai @El (ai @Em (ai @Eo (ai (ai @Es (ai @Er @Ep)) (ai @Et (ai @Eu (ai @Ew (ai @Ey (ai @Ez (ai @EY (ai @Fb (ai @Fd (ai @Fe (ai @Ff (ai @Fg (ai @Fi (ai @Fj (ai @Fl (ai @Fp (ai @Fq (ai @Ft (ai @Fv (ai @Fw (ai @Fx (ai @Fy (ai @FJ (ai @FN (ai @FP (ai @FQ (ai @FT (ai @FW (ai @Ga (ai @Gd (ai @Ge (ai @Gf (ai @Gg (ai (ai @Gj @Gi) (ai @Gk (ai @Gm (ai @Gn (ai @Gp (ai @Gq (ai @Gs (ai @Gu (ai @Gv (ai @Gw (ai @Gx (ai (ai @GD @GC) (ai (ai @GF (ai @Gz @Gy)) (ai @GJ (ai @GK (ai @GP (ai @GQ (ai (ai @GR (ai @Hf (ai @Hg (ai @Hh (ai @Hi @Hz))))) (ai @GX (ai (ai @Hc (ai @GZ @Hb)) (ai @Hj (ai @Hk (ai @Hl (ai @Hm (ai @Hn (ai @Ho (ai @Hq (ai @Hr (ai @Hs (ai @Ht (ai @Hu (ai @Hv (ai @Hw (ai @Hx (ai @Hy (ai @HB (ai @HF (ai @HH (ai @HJ (ai @HN (ai @HQ (ai @HR (ai @HS (ai @HW (ai @HX (ai @HY (ai @H9 (ai @Ia (ai @Ib (ai @is_tup (ai @Ie (ai @Ig (ai (ai @Ii @Ih) (ai @Ij (ai @Ik (@Gb)))))))))))))))))))))))))))))))))))))))))))))))))))))))))))))))))))))))))))))))))))))))))))))))))))))))))))))))))))))))))))))))))
theorem aal:type_of% (And.intro @iG @iH):=And.intro @iG @iH
theorem J9:type_of% (And.intro @J2 (And.intro @J3 (And.intro @J4 (And.intro @Option.join_some.{0} (And.intro @List.map_cons.{0,0} (And.intro @List.map_nil.{0,0} (And.intro @List.cons_append.{0} (And.intro @List.nil_append.{0} (And.intro @List.replicate_succ.{0} (And.intro @List.replicate_zero.{0} (And.intro @List.getElem?_cons_zero.{0} (And.intro @List.getElem?_cons_succ.{0} (And.intro @List.set_cons_zero.{0} (And.intro @List.set_cons_succ.{0} (And.intro @List.length_cons.{0} (And.intro @List.length_nil.{0} (And.intro @DW (And.intro @DX (And.intro @DY (And.intro @Ea (And.intro @Eb (And.intro @Ec (And.intro @Ed (And.intro @true_and (And.intro @and_true (And.intro @Nat.min_self (And.intro @Nat.zero_min (And.intro @Nat.min_zero (And.intro @Nat.zero_le (And.intro @Bool.or_false (And.intro @Bool.or_true (And.intro @Bool.false_or (And.intro @Bool.true_or (And.intro @Bool.not_true (And.intro @Bool.not_false (And.intro @Il (And.intro @Im (And.intro @Io (And.intro @Ip (And.intro @Ir (And.intro @Iu (And.intro @Iv (And.intro @Iw (And.intro @Iz (And.intro @IK (And.intro @IV (And.intro @IW (And.intro @Ja (And.intro @Jb (And.intro @Jc (And.intro @Jd (And.intro @Jf (And.intro @Jg (And.intro @Jh (And.intro @Ji (And.intro @Jj (And.intro @Jl (And.intro @Jm (And.intro @Jo (And.intro @Jp (And.intro @Jq (And.intro @Jr (And.intro @Js (And.intro @Jt (And.intro @Ju (And.intro @Jv (And.intro @Jw (And.intro @Jx (And.intro @Jy (And.intro @JB (And.intro @JC (And.intro @JD (And.intro @JF (And.intro @JG (And.intro @JH (And.intro @JK (And.intro @JL (And.intro @JM (And.intro @JN (And.intro @JP (And.intro @JQ (And.intro @JR (And.intro @JS (And.intro @JT (And.intro @JV (And.intro @JW (And.intro @JX (And.intro @JZ (@J0))))))))))))))))))))))))))))))))))))))))))))))))))))))))))))))))))))))))))))))))))))))))):=And.intro @J2 (And.intro @J3 (And.intro @J4 (And.intro @Option.join_some.{0} (And.intro @List.map_cons.{0,0} (And.intro @List.map_nil.{0,0} (And.intro @List.cons_append.{0} (And.intro @List.nil_append.{0} (And.intro @List.replicate_succ.{0} (And.intro @List.replicate_zero.{0} (And.intro @List.getElem?_cons_zero.{0} (And.intro @List.getElem?_cons_succ.{0} (And.intro @List.set_cons_zero.{0} (And.intro @List.set_cons_succ.{0} (And.intro @List.length_cons.{0} (And.intro @List.length_nil.{0} (And.intro @DW (And.intro @DX (And.intro @DY (And.intro @Ea (And.intro @Eb (And.intro @Ec (And.intro @Ed (And.intro @true_and (And.intro @and_true (And.intro @Nat.min_self (And.intro @Nat.zero_min (And.intro @Nat.min_zero (And.intro @Nat.zero_le (And.intro @Bool.or_false (And.intro @Bool.or_true (And.intro @Bool.false_or (And.intro @Bool.true_or (And.intro @Bool.not_true (And.intro @Bool.not_false (And.intro @Il (And.intro @Im (And.intro @Io (And.intro @Ip (And.intro @Ir (And.intro @Iu (And.intro @Iv (And.intro @Iw (And.intro @Iz (And.intro @IK (And.intro @IV (And.intro @IW (And.intro @Ja (And.intro @Jb (And.intro @Jc (And.intro @Jd (And.intro @Jf (And.intro @Jg (And.intro @Jh (And.intro @Ji (And.intro @Jj (And.intro @Jl (And.intro @Jm (And.intro @Jo (And.intro @Jp (And.intro @Jq (And.intro @Jr (And.intro @Js (And.intro @Jt (And.intro @Ju (And.intro @Jv (And.intro @Jw (And.intro @Jx (And.intro @Jy (And.intro @JB (And.intro @JC (And.intro @JD (And.intro @JF (And.intro @JG (And.intro @JH (And.intro @JK (And.intro @JL (And.intro @JM (And.intro @JN (And.intro @JP (And.intro @JQ (And.intro @JR (And.intro @JS (And.intro @JT (And.intro @JV (And.intro @JW (And.intro @JX (And.intro @JZ (@J0))))))))))))))))))))))))))))))))))))))))))))))))))))))))))))))))))))))))))))))))))))))))
def wH:Sxs:=(.cons (.set (.var 0) (.cst (.int 2)) (.cst (.int 0))) (.cons (.ret (.var 0)) .nil))
def wI:Sxs:=(.cons (.ite (.val (.cmp .GtE (.var 0) (.bin .Pow true (.cst (.int 10)) (.cst (.int 18))))) (.cons (.ret (.var 0)) .nil) .nil) (.cons (.asg (.nm 2) (.bin .Mod true (.bin .Add true (.bin .Add true (.bin .Mult true (.bin .Mod true (.var 0) (.cst (.int 1000000007))) (.cst (.int 69069))) (.bin .Mult true (.var 1) (.cst (.int 40503)))) (.cst (.int 977))) (.cst (.int 2147483629)))) (.cons (.asg (.nm 3) (.bin .Mod true (.bin .Add true (.bin .Add true (.bin .Mult true (.var 2) (.var 2)) (.bin .Mult true (.var 1) (.cst (.int 7919)))) (.bin .Mod true (.var 0) (.cst (.int 65537)))) (.cst (.int 2147483587)))) (.cons (.asg (.nm 4) (.bin .Mod true (.bin .Add true (.bin .Add true (.bin .Mult true (.var 3) (.var 3)) (.bin .Mult true (.var 2) (.cst (.int 31)))) (.cst (.int 5))) (.cst (.int 2147483563)))) (.cons (.ret (.bin .Add true (.bin .Mult true (.bin .Add true (.bin .Mult true (.var 2) (.cst (.int 2147483659))) (.var 3)) (.cst (.int 2147483693))) (.var 4))) .nil)))))
def wJ:Sxs:=(.cons (.ite (.val (.cmp .Lt (.idx (.var 0) (.cst (.int 2))) (.var 1))) (.cons (.asg (.nm 2) (.idx (.var 0) (.cst (.int 1)))) (.cons (.asg (.nm 3) (.cst (.int 0))) (.cons (.ite (.val (.cmp .Lt (.var 2) (.bcl .len (.cons (.idx (.var 0) (.cst (.int 0))) .nil)))) (.cons (.asg (.nm 3) (.idx (.idx (.var 0) (.cst (.int 0))) (.var 2))) .nil) (.cons (.ite (.val (.cmp .Gt (.bcl .len (.cons (.idx (.var 0) (.cst (.int 0))) .nil)) (.cst (.int 0)))) (.cons (.asg (.nm 3) (.bin .Mod true (.idx (.idx (.var 0) (.cst (.int 0))) (.bin .Mod true (.bin .Add true (.bin .Mult true (.var 2) (.cst (.int 5))) (.cst (.int 3))) (.bcl .len (.cons (.idx (.var 0) (.cst (.int 0))) .nil)))) (.bin .Add true (.bin .Pow true (.cst (.int 10)) (.cst (.int 17))) (.var 2)))) .nil) .nil) .nil)) (.cons (.set (.var 0) (.cst (.int 1)) (.bin .Add true (.var 2) (.cst (.int 1)))) (.cons (.set (.var 0) (.cst (.int 2)) (.call "_law_spread" (.cons (.var 3) (.cons (.var 2) .nil)))) .nil))))) .nil) (.cons (.asg (.nm 4) (.bin .Mod true (.idx (.var 0) (.cst (.int 2))) (.var 1))) (.cons (.set (.var 0) (.cst (.int 2)) (.bin .FloorDiv true (.idx (.var 0) (.cst (.int 2))) (.var 1))) (.cons (.ret (.var 4)) .nil))))
def wK:Sxs:=(.cons (.asg (.nm 3) (.call "_law_take" (.cons (.var 0) (.cons (.bin .Add true (.bcl .len (.cons (.var 1) .nil)) (.cst (.int 1))) .nil)))) (.cons (.asg (.nm 4) (.idx (.lst true (.cons (.cst (.int 0)) (.cons (.bin .Sub true (.var 2) (.cst (.int 2))) (.cons (.bin .Sub true (.var 2) (.cst (.int 1))) (.cons (.neg (.cst (.int 1))) (.cons (.bin .Pow true (.cst (.int 10)) (.cst (.int 20))) (.cons (.call "_law_take" (.cons (.var 0) (.cons (.var 2) .nil))) .nil))))))) (.call "_law_take" (.cons (.var 0) (.cons (.cst (.int 6)) .nil))))) (.cons (.asg (.nm 5) (.call "_law_take" (.cons (.var 0) (.cons (.cst (.int 5)) .nil)))) (.cons (.ite (.val (.cmp .Eq (.var 5) (.cst (.int 0)))) (.cons (.ret (.bin .Add true (.slc true (.var 1) .no (.ob (.var 3))) (.slc true (.var 1) (.ob (.bin .Add true (.var 3) (.cst (.int 1)))) .no))) .nil) .nil) (.cons (.ite (.val (.cmp .Eq (.var 5) (.cst (.int 1)))) (.cons (.ret (.bin .Add true (.bin .Add true (.slc true (.var 1) .no (.ob (.var 3))) (.lst true (.cons (.var 4) .nil))) (.slc true (.var 1) (.ob (.var 3)) .no))) .nil) .nil) (.cons (.ite (.val (.cmp .Eq (.var 5) (.cst (.int 2)))) (.cons (.ret (.bin .Add true (.bin .Add true (.slc true (.var 1) .no (.ob (.var 3))) (.lst true (.cons (.var 4) .nil))) (.slc true (.var 1) (.ob (.bin .Add true (.var 3) (.cst (.int 1)))) .no))) .nil) .nil) (.cons (.ite (.val (.cmp .Eq (.var 5) (.cst (.int 3)))) (.cons (.ret (.bin .Add true (.bin .Add true (.slc true (.var 1) .no (.ob (.var 3))) (.lst true (.cons (.var 4) (.cons (.var 4) .nil)))) (.slc true (.var 1) (.ob (.var 3)) .no))) .nil) .nil) (.cons (.ret (.rvs true (.var 1) (.neg (.cst (.int 1))))) .nil))))))))
def wL:Sxs:=(.cons (.ret (.mth .join (.cst (.str [])) (.cons (.comp true (.idx (.var 1) (.call "_law_take" (.cons (.var 2) (.cons (.bcl .len (.cons (.var 1) .nil)) .nil)))) (.nm 0) (.rng (.var 1)) .yes ["at","signs","pen"] [none,some 2,some 0]) .nil))) .nil)
def wM:Sxs:=(.cons (.asg (.nm 2) (.lst true (.cons (.cst (.str [97])) (.cons (.cst (.str [103,111])) (.cons (.cst (.str [115,116,97,121])) (.cons (.cst (.str [97,98,99,100,101,102,103,104])) (.cons (.cst (.str [110,111,110,101])) (.cons (.cst (.str [121,101,115])) (.cons (.cst (.str [105,110])) (.cons (.cst (.str [111,117,116])) (.cons (.cst (.str [107,101,101,112])) (.cons (.cst (.str [119,111,114,100])) (.cons (.cst (.str [122,122])) .nil))))))))))))) (.cons (.asg (.nm 3) (.call "_law_take" (.cons (.var 0) (.cons (.cst (.int 11)) .nil)))) (.cons (.asg (.nm 4) (.comp true (.idx (.var 1) (.bin .Mod true (.bin .Add true (.var 2) (.bin .Mult true (.cst (.int 3)) (.var 0))) (.cst (.int 11)))) (.nm 0) (.rng (.bin .Add true (.cst (.int 1)) (.call "_law_take" (.cons (.var 0) (.cons (.var 1) .nil))))) .yes ["k","some","turn"] [none,some 2,some 3])) (.cons (.ite (.val (.cmp .Eq (.call "_law_take" (.cons (.var 0) (.cons (.cst (.int 3)) .nil))) (.cst (.int 0)))) (.cons (.asg (.nm 5) (.cst (.str [97,98,99,100,101,102,103,104,105,106,107,108,109,110,111,112,113,114,115,116,117,118,119,120,121,122]))) (.cons (.asg (.nm 4) (.comp true (.call "_law_signs" (.cons (.var 1) (.cons (.bin .Add true (.cst (.int 1)) (.call "_law_take" (.cons (.var 1) (.cons (.cst (.int 8)) .nil)))) (.cons (.var 2) .nil)))) (.nm 0) (.seq (.var 4)) .yes ["one","pen","letters"] [none,some 0,some 5])) .nil)) .nil) (.cons (.ret (.var 4)) .nil)))))
def wN:Sxs:=(.cons (.ret (.call "_law_signs" (.cons (.var 0) (.cons (.var 1) (.cons (.idx (.lst true (.cons (.cst (.str [48,49,42])) (.cons (.cst (.str [48,49,42,42])) (.cons (.cst (.str [48,49,42,42,42,42])) (.cons (.cst (.str [48,42])) (.cons (.cst (.str [48,49])) .nil)))))) (.call "_law_take" (.cons (.var 0) (.cons (.cst (.int 5)) .nil)))) .nil))))) .nil)
def wO:Sxs:=(.cons (.asg (.nm 2) (.cst (.str []))) (.cons (.for_ (.nm 3) (.seq (.var 1)) (.cons (.ite (.val (.cmp .Eq (.call "_law_take" (.cons (.var 0) (.cons (.cst (.int 3)) .nil))) (.cst (.int 0)))) (.cons (.asg (.nm 3) (.cst (.str [42]))) .nil) .nil) (.cons (.asg (.nm 2) (.bin .Add true (.var 2) (.var 3))) .nil))) (.cons (.ret (.var 2)) .nil)))
def wQ:Sxs:=(.cons (.asg (.nm 2) (.cst (.str []))) (.cons (.for_ (.nm 3) (.seq (.var 1)) (.cons (.ite (.boo true (.val (.cmp .Eq (.var 3) (.cst (.str [42])))) (.cons (.val (.cmp .Eq (.call "_law_take" (.cons (.var 0) (.cons (.cst (.int 2)) .nil))) (.cst (.int 0)))) .nil)) (.cons (.asg (.nm 3) (.idx (.cst (.str [48,49])) (.call "_law_take" (.cons (.var 0) (.cons (.cst (.int 2)) .nil))))) .nil) .nil) (.cons (.asg (.nm 2) (.bin .Add true (.var 2) (.var 3))) .nil))) (.cons (.ret (.var 2)) .nil)))
def wR:Sxs:=(.cons (.asg (.nm 3) (.call "_law_take" (.cons (.var 0) (.cons (.cst (.int 7)) .nil)))) (.cons (.ite (.boo false (.val (.cmp .Eq (.var 2) (.lst true .nil))) (.cons (.val (.cmp .Lt (.var 3) (.cst (.int 2)))) .nil)) (.cons (.ret (.call "_law_form" (.cons (.var 0) (.cons (.var 1) .nil)))) .nil) .nil) (.cons (.asg (.nm 4) (.idx (.var 2) (.call "_law_take" (.cons (.var 0) (.cons (.bcl .len (.cons (.var 2) .nil)) .nil))))) (.cons (.ite (.val (.cmp .Eq (.var 3) (.cst (.int 2)))) (.cons (.ret (.var 4)) .nil) .nil) (.cons (.ite (.val (.cmp .Lt (.var 3) (.cst (.int 5)))) (.cons (.asg (.nm 5) (.call "_law_take" (.cons (.var 0) (.cons (.var 1) .nil)))) (.cons (.ret (.bin .Add true (.bin .Add true (.slc true (.var 4) .no (.ob (.var 5))) (.idx (.cst (.str [48,49,42])) (.call "_law_take" (.cons (.var 0) (.cons (.cst (.int 3)) .nil))))) (.slc true (.var 4) (.ob (.bin .Add true (.var 5) (.cst (.int 1)))) .no))) .nil)) .nil) (.cons (.ite (.val (.cmp .Eq (.var 3) (.cst (.int 5)))) (.cons (.ret (.call "_law_within" (.cons (.var 0) (.cons (.var 4) .nil)))) .nil) .nil) (.cons (.ret (.call "_law_wider" (.cons (.var 0) (.cons (.var 4) .nil)))) .nil)))))))
def wU:Sxs:=(.cons (.asg (.nm 3) (.bin .Add true (.cst (.int 1)) (.call "_law_take" (.cons (.var 0) (.cons (.var 1) .nil))))) (.cons (.asg (.nm 4) (.call "_law_deeds_of" (.cons (.var 0) (.cons (.cst (.int 3)) .nil)))) (.cons (.asg (.nm 5) (.lst false .nil)) (.cons (.asg (.nm 6) (.lst false .nil)) (.cons (.for_ (.nm 7) (.rng (.call "_law_take" (.cons (.var 0) (.cons (.bin .Add true (.var 2) (.cst (.int 1))) .nil)))) (.cons (.exp (.mth .append (.var 5) (.cons (.call "_law_form_like" (.cons (.var 0) (.cons (.var 3) (.cons (.var 5) .nil)))) .nil))) (.cons (.exp (.mth .append (.var 6) (.cons (.tup (.cons (.idx (.var 5) (.neg (.cst (.int 1)))) (.cons (.idx (.var 4) (.call "_law_take" (.cons (.var 0) (.cons (.bcl .len (.cons (.var 4) .nil)) .nil)))) .nil))) .nil))) .nil))) (.cons (.ret (.tup (.cons (.var 3) (.cons (.bcl .tuple (.cons (.var 6) .nil)) .nil)))) .nil))))))
def wV:Sxs:=(.cons (.ret (.tup (.cons (.idx (.var 0) (.cst (.int 0))) (.cons (.bcl .tuple (.cons (.comp true (.idx (.idx (.var 1) (.cst (.int 1))) (.var 0)) (.nm 0) (.seq (.var 1)) .yes ["number","book"] [none,some 0]) .nil)) .nil)))) .nil)
def wW:Sxs:=(.cons (.for_ (.tp (.cons (.nm 2) (.cons (.nm 3) .nil))) (.zip (.var 0) (.var 1)) (.cons (.ite (.boo true (.val (.cmp .NotEq (.var 2) (.cst (.str [42])))) (.cons (.val (.cmp .NotEq (.var 2) (.var 3))) .nil)) (.cons (.ret (.cst (.bl false))) .nil) .nil) .nil)) (.cons (.ret (.cst (.bl true))) .nil))
def wX:Sxs:=(.cons (.for_ (.tp (.cons (.nm 2) (.cons (.nm 3) .nil))) (.enm (.idx (.var 0) (.cst (.int 1)))) (.cons (.ite (.val (.call "_law_fits" (.cons (.idx (.var 3) (.cst (.int 0))) (.cons (.var 1) .nil)))) (.cons (.ret (.var 2)) .nil) .nil) .nil)) (.cons (.ret (.cst .non)) .nil))
def wY:Sxs:=(.cons (.asg (.nm 2) (.call "_law_met" (.cons (.var 0) (.cons (.var 1) .nil)))) (.cons (.ite (.val (.cmp .Is (.var 2) (.cst .non))) (.cons (.ret (.cst .non)) .nil) .nil) (.cons (.ret (.idx (.idx (.idx (.var 0) (.cst (.int 1))) (.var 2)) (.cst (.int 1)))) .nil)))
def wZ:Sxs:=(.cons (.asg (.nm 1) (.lst true (.cons (.cst (.str [])) .nil))) (.cons (.for_ (.nm 2) (.seq (.var 0)) (.cons (.asg (.nm 3) (.lst false .nil)) (.cons (.for_ (.nm 4) (.seq (.var 1)) (.cons (.exp (.mth .extend (.var 3) (.cons (.comp true (.bin .Add true (.var 1) (.var 0)) (.nm 0) (.seq (.idx (.lst true (.cons (.cst (.str [48,49])) (.cons (.var 2) .nil))) (.bcl .int (.cons (.cmp .NotEq (.var 2) (.cst (.str [42]))) .nil)))) .yes ["one","text"] [none,some 4]) .nil))) .nil)) (.cons (.asg (.nm 1) (.frz (.var 3))) .nil)))) (.cons (.ret (.var 1)) .nil)))
def w5:Sxs:=(.cons (.for_ (.nm 2) (.seq (.call "_law_words" (.cons (.bin .Mult true (.cst (.str [42])) (.idx (.var 0) (.cst (.int 0)))) .nil))) (.cons (.ite (.val (.cmp .NotEq (.call "_law_deed" (.cons (.var 0) (.cons (.var 2) .nil))) (.call "_law_deed" (.cons (.var 1) (.cons (.var 2) .nil))))) (.cons (.ret (.var 2)) .nil) .nil) .nil)) (.cons (.ret (.cst .non)) .nil))
def xf:Sxs:=(.cons (.ret (.cmp .Is (.call "_law_parting" (.cons (.var 0) (.cons (.call "_law_by" (.cons (.var 0) (.cons (.var 1) .nil))) .nil))) (.cst .non))) .nil)
def Ka:Sxs:=(.cons (.ret (.bin .Add true (.bin .Add true (.slc true (.var 0) .no (.ob (.var 1))) (.tup (.cons (.idx (.var 0) (.bin .Add true (.var 1) (.cst (.int 1)))) (.cons (.idx (.var 0) (.var 1)) .nil)))) (.slc true (.var 0) (.ob (.bin .Add true (.var 1) (.cst (.int 2)))) .no))) .nil)
def xg:Sxs:=(.cons (.asg (.nm 2) (.rgt (.bcl .len (.cons (.idx (.var 1) (.cst (.int 1))) .nil)))) (.cons (.asg (.nm 3) (.lst false .nil)) (.cons (.for_ (.nm 4) (.rng (.bin .Mult true (.call "_law_take" (.cons (.var 0) (.cons (.cst (.int 7)) .nil))) (.bcl .int (.cons (.cmp .Gt (.bcl .len (.cons (.var 2) .nil)) (.cst (.int 1))) .nil)))) (.cons (.asg (.nm 5) (.call "_law_take" (.cons (.var 0) (.cons (.bin .Sub true (.bcl .len (.cons (.var 2) .nil)) (.cst (.int 1))) .nil)))) (.cons (.asg (.nm 6) (.call "_law_stepped" (.cons (.var 2) (.cons (.var 5) .nil)))) (.cons (.ite (.boo false (.val (.cmp .Eq (.call "_law_take" (.cons (.var 0) (.cons (.cst (.int 8)) .nil))) (.cst (.int 0)))) (.cons (.val (.call "_law_does_the_same" (.cons (.var 1) (.cons (.var 6) .nil)))) .nil)) (.cons (.exp (.mth .append (.var 3) (.cons (.var 5) .nil))) (.cons (.asg (.nm 2) (.var 6)) .nil)) .nil) .nil)))) (.cons (.ret (.tup (.cons (.frz (.var 3)) (.cons (.var 2) .nil)))) .nil))))
def xj:Sxs:=(.cons (.asg (.nm 3) (.rgt (.bcl .len (.cons (.idx (.var 0) (.cst (.int 1))) .nil)))) (.cons (.for_ (.nm 4) (.seq (.var 2)) (.cons (.ite (.boo false (.val (.cmp .Lt (.var 4) (.cst (.int 0)))) (.cons (.val (.cmp .Gt (.var 4) (.bin .Sub true (.bcl .len (.cons (.var 3) .nil)) (.cst (.int 2))))) .nil)) (.cons (.ret (.cst (.bl false))) .nil) .nil) (.cons (.asg (.nm 3) (.call "_law_stepped" (.cons (.var 3) (.cons (.var 4) .nil)))) (.cons (.ite (.not (.val (.call "_law_does_the_same" (.cons (.var 0) (.cons (.var 3) .nil))))) (.cons (.ret (.cst (.bl false))) .nil) .nil) .nil)))) (.cons (.ret (.cmp .Eq (.var 3) (.var 1))) .nil)))
def xm:Sxs:=(.cons (.asg (.nm 1) (.lcl false .list (.cons (.slc true (.var 0) .no (.ob (.cst (.int 12)))) .nil))) (.cons (.for_ (.tp (.cons (.nm 2) (.cons (.nm 3) .nil))) (.enm (.slc true (.var 0) (.ob (.cst (.int 12))) (.ob (.cst (.int 63))))) (.cons (.set (.var 1) (.bin .Mod true (.var 2) (.cst (.int 12))) (.bin .Add true (.idx (.var 1) (.bin .Mod true (.var 2) (.cst (.int 12)))) (.var 3))) .nil)) (.cons (.ret (.lst false (.cons (.frz (.var 1)) (.cons (.cst (.int 0)) (.cons (.cst (.int 0)) .nil))))) .nil)))
def xq:Sxs:=(.cons (.asg (.nm 2) (.rgl false (.var 1))) (.cons (.ret (.bcl .tuple (.cons (.comp true (.mth .pop (.var 1) (.cons (.call "_law_take" (.cons (.var 2) (.cons (.bcl .len (.cons (.var 1) .nil)) .nil))) .nil)) (.nm 0) (.rng (.var 1)) .yes ["k","left","pen"] [none,some 2,some 0]) .nil))) .nil))
def jQ:Sxs:=(.cons (.ret (.bin .Add true (.bin .Add true (.slc true (.var 0) .no (.ob (.var 1))) (.tup (.cons (.idx (.var 0) (.bin .Add true (.var 1) (.cst (.int 1)))) (.cons (.idx (.var 0) (.var 1)) .nil)))) (.slc true (.var 0) (.ob (.bin .Add true (.var 1) (.cst (.int 2)))) .no))) .nil)
def jR:Sxs:=(.cons (.ret (.rgt (.bcl .len (.cons (.idx (.var 0) (.cst (.int 1))) .nil)))) .nil)
def jT:Sxs:=(.cons (.ite (.boo false (.not (.val (.isi (.var 0) "str"))) (.cons (.not (.val (.chn .LtE .LtE (.cst (.int 1)) (.bcl .len (.cons (.var 0) .nil)) (.glb "LONGEST_DEED" (.int 8))))) .nil)) (.cons (.ret (.cst (.bl false))) .nil) .nil) (.cons (.ret (.bcl .all (.cons (.comp true (.cmp .In (.var 0) (.glb "LETTERS" (.str [97,98,99,100,101,102,103,104,105,106,107,108,109,110,111,112,113,114,115,116,117,118,119,120,121,122]))) (.nm 0) (.seq (.var 0)) .yes ["sign"] [none]) .nil))) .nil))
def jU:Sxs:=(.cons (.ite (.boo false (.not (.val (.isi (.var 2) "str"))) (.cons (.val (.cmp .NotEq (.bcl .len (.cons (.var 2) .nil)) (.var 1))) .nil)) (.cons (.ret (.cst (.bl false))) .nil) .nil) (.cons (.ret (.bcl .all (.cons (.comp true (.cmp .In (.var 0) (.var 1)) (.nm 0) (.seq (.var 2)) .yes ["sign","signs"] [none,some 0]) .nil))) .nil))
def jV:Sxs:=(.cons (.ret (.call "is_text_of" (.cons (.cst (.str [48,49,42])) (.cons (.var 0) (.cons (.var 1) .nil))))) .nil)
def jW:Sxs:=(.cons (.ite (.boo false (.not (.val (.isi (.var 1) "tuple"))) (.cons (.val (.cmp .NotEq (.bcl .len (.cons (.var 1) .nil)) (.cst (.int 2)))) .nil)) (.cons (.ret (.cst (.bl false))) .nil) .nil) (.cons (.ret (.boo true (.call "is_form" (.cons (.var 0) (.cons (.idx (.var 1) (.cst (.int 0))) .nil))) (.cons (.call "is_deed" (.cons (.idx (.var 1) (.cst (.int 1))) .nil)) .nil))) .nil))
def jX:Sxs:=(.cons (.ret (.boo true (.isi (.var 0) "int") (.cons (.not (.isi (.var 0) "bool")) .nil))) .nil)
def jY:Sxs:=(.cons (.ret (.boo true (.call "is_whole" (.cons (.var 0) .nil)) (.cons (.chn .LtE .LtE (.cst (.int 1)) (.var 0) (.glb "WIDEST" (.int 6))) .nil))) .nil)
def jZ:Sxs:=(.cons (.ite (.boo false (.not (.val (.isi (.var 0) "tuple"))) (.cons (.val (.cmp .NotEq (.bcl .len (.cons (.var 0) .nil)) (.cst (.int 2)))) .nil)) (.cons (.ret (.cst (.bl false))) .nil) .nil) (.cons (.asg (.tp (.cons (.nm 1) (.cons (.nm 2) .nil))) (.var 0)) (.cons (.ite (.boo false (.not (.val (.call "is_width" (.cons (.var 1) .nil)))) (.cons (.not (.val (.isi (.var 2) "tuple"))) (.cons (.val (.cmp .Gt (.bcl .len (.cons (.var 2) .nil)) (.glb "MOST_ROWS" (.int 12)))) .nil))) (.cons (.ret (.cst (.bl false))) .nil) .nil) (.cons (.ret (.bcl .all (.cons (.comp true (.call "is_row" (.cons (.var 1) (.cons (.var 0) .nil))) (.nm 0) (.seq (.var 2)) .yes ["row","width"] [none,some 1]) .nil))) .nil))))
def j0:Sxs:=(.cons (.ite (.not (.val (.call "is_book" (.cons (.var 0) .nil)))) (.cons (.rse "NoBook" .nil) .nil) .nil) .nil)
def j4:Sxs:=(.cons (.ret (.boo true (.call "is_whole" (.cons (.var 1) .nil)) (.cons (.chn .LtE .Lt (.cst (.int 0)) (.var 1) (.var 0)) .nil))) .nil)
def j5:Sxs:=(.cons (.asg (.nm 2) (.bcl .len (.cons (.idx (.var 0) (.cst (.int 1))) .nil))) (.cons (.ite (.boo false (.not (.val (.isi (.var 1) "tuple"))) (.cons (.not (.val (.bcl .all (.cons (.comp true (.call "is_place" (.cons (.var 1) (.cons (.var 0) .nil))) (.nm 0) (.seq (.var 1)) .yes ["number","many"] [none,some 2]) .nil)))) .nil)) (.cons (.ret (.cst (.bl false))) .nil) .nil) (.cons (.ret (.cmp .Eq (.lcl true .sorted (.cons (.var 1) .nil)) (.rgl true (.var 2)))) .nil)))
def j6:Sxs:=(.cons (.ite (.not (.val (.call "is_order" (.cons (.var 0) (.cons (.var 1) .nil))))) (.cons (.rse "NoOrder" .nil) .nil) .nil) .nil)
def j7:Sxs:=(.cons (.exp (.call "need_book" (.cons (.var 0) .nil))) (.cons (.exp (.call "need_order" (.cons (.var 0) (.cons (.var 1) .nil)))) (.cons (.asg (.tp (.cons (.nm 2) (.cons (.nm 3) .nil))) (.var 0)) (.cons (.ret (.tup (.cons (.var 2) (.cons (.bcl .tuple (.cons (.comp true (.idx (.var 1) (.var 0)) (.nm 0) (.seq (.var 1)) .yes ["number","rows"] [none,some 3]) .nil)) .nil)))) .nil))))
def j8:Sxs:=(.cons (.asg (.nm 2) (.cst (.str []))) (.cons (.for_ (.tp (.cons (.nm 3) (.cons (.nm 4) .nil))) (.zip (.var 0) (.var 1)) (.cons (.ite (.val (.cmp .Eq (.var 3) (.cst (.str [42])))) (.cons (.aug 2 .Add (.var 4)) .nil) (.cons (.ite (.boo false (.val (.cmp .Eq (.var 4) (.cst (.str [42])))) (.cons (.val (.cmp .Eq (.var 4) (.var 3))) .nil)) (.cons (.aug 2 .Add (.var 3)) .nil) (.cons (.ret (.cst .non)) .nil)) .nil)) .nil)) (.cons (.ret (.var 2)) .nil)))
def j9:Sxs:=(.cons (.for_ (.tp (.cons (.nm 2) (.cons (.nm 3) .nil))) (.enm (.var 0)) (.cons (.ite (.val (.cmp .IsNot (.call "both" (.cons (.idx (.var 3) (.cst (.int 0))) (.cons (.var 1) .nil))) (.cst .non))) (.cons (.ret (.var 2)) .nil) .nil) .nil)) (.cons (.ret (.cst .non)) .nil))
def kh:Sxs:=(.cons (.asg (.nm 2) (.call "first_touching" (.cons (.var 0) (.cons (.var 1) .nil)))) (.cons (.ite (.val (.cmp .Is (.var 2) (.cst .non))) (.cons (.ret (.cst .non)) .nil) .nil) (.cons (.for_ (.tp (.cons (.nm 3) (.cons (.nm 4) .nil))) (.enm (.idx (.idx (.var 0) (.var 2)) (.cst (.int 0)))) (.cons (.ite (.boo true (.val (.cmp .Eq (.idx (.var 1) (.var 3)) (.cst (.str [42])))) (.cons (.val (.cmp .NotEq (.var 4) (.cst (.str [42])))) .nil)) (.cons (.ret (.var 3)) .nil) .nil) .nil)) (.cons (.ret (.cst .non)) .nil))))
def kj:Sxs:=(.cons (.ret (.bin .Add true (.bin .Add true (.slc true (.var 0) .no (.ob (.var 1))) (.var 2)) (.slc true (.var 0) (.ob (.bin .Add true (.var 1) (.cst (.int 1)))) .no))) .nil)
def jd:Sxs:=(.cons (.for_ (.nm 3) (.seq (.var 1)) (.cons (.asg (.nm 4) (.call "splitting_place" (.cons (.var 3) (.cons (.var 2) .nil)))) (.cons (.ite (.val (.cmp .IsNot (.var 4) (.cst .non))) (.cons (.asg (.nm 5) (.call "grown" (.cons (.var 0) (.cons (.var 1) (.cons (.call "with_sign" (.cons (.var 2) (.cons (.var 4) (.cons (.cst (.str [48])) .nil)))) .nil))))) (.cons (.asg (.nm 6) (.call "grown" (.cons (.var 0) (.cons (.var 1) (.cons (.call "with_sign" (.cons (.var 2) (.cons (.var 4) (.cons (.cst (.str [49])) .nil)))) .nil))))) (.cons (.ret (.tup (.cons (.cst (.str [115,112,108,105,116])) (.cons (.var 4) (.cons (.var 5) (.cons (.var 6) .nil)))))) .nil))) .nil) .nil))) (.cons (.ret (.bin .Add true (.tup (.cons (.var 0) .nil)) (.bcl .tuple (.cons (.comp true (.call "first_touching" (.cons (.var 0) (.cons (.var 1) .nil))) (.nm 0) (.seq (.var 1)) .yes ["rows","box"] [none,some 2]) .nil)))) .nil))
def km:Sxs:=(.cons (.ret (.boo true (.isi (.var 2) "tuple") (.cons (.cmp .Eq (.bcl .len (.cons (.var 2) .nil)) (.bin .Add true (.var 1) (.cst (.int 1)))) (.cons (.cmp .Eq (.idx (.var 2) (.cst (.int 0))) (.var 0)) .nil)))) .nil)
def gQ:Sxs:=(.cons (.ite (.not (.val (.call "is_named" (.cons (.cst (.str [115,112,108,105,116])) (.cons (.cst (.int 3)) (.cons (.var 1) .nil)))))) (.cons (.ret (.lst true (.cons (.tup (.cons (.var 0) (.cons (.var 1) .nil))) .nil))) .nil) .nil) (.cons (.asg (.nm 2) (.idx (.var 1) (.cst (.int 1)))) (.cons (.ite (.boo false (.not (.val (.call "is_place" (.cons (.bcl .len (.cons (.var 0) .nil)) (.cons (.var 2) .nil))))) (.cons (.val (.cmp .NotEq (.idx (.var 0) (.var 2)) (.cst (.str [42])))) .nil)) (.cons (.ret (.cst .non)) .nil) .nil) (.cons (.asg (.nm 3) (.call "leaves" (.cons (.call "with_sign" (.cons (.var 0) (.cons (.var 2) (.cons (.cst (.str [48])) .nil)))) (.cons (.idx (.var 1) (.cst (.int 2))) .nil)))) (.cons (.asg (.nm 4) (.call "leaves" (.cons (.call "with_sign" (.cons (.var 0) (.cons (.var 2) (.cons (.cst (.str [49])) .nil)))) (.cons (.idx (.var 1) (.cst (.int 3))) .nil)))) (.cons (.ite (.boo false (.val (.cmp .Is (.var 3) (.cst .non))) (.cons (.val (.cmp .Is (.var 4) (.cst .non))) .nil)) (.cons (.ret (.cst .non)) .nil) .nil) (.cons (.ret (.bin .Add true (.var 3) (.var 4))) .nil)))))))
def kE:Sxs:=(.cons (.exp (.call "need_book" (.cons (.var 0) .nil))) (.cons (.exp (.call "need_book" (.cons (.var 1) .nil))) (.cons (.ite (.val (.cmp .NotEq (.idx (.var 0) (.cst (.int 0))) (.idx (.var 1) (.cst (.int 0))))) (.cons (.rse "NoMatch" (.cons (.idx (.var 0) (.cst (.int 0))) (.cons (.idx (.var 1) (.cst (.int 0))) .nil))) .nil) .nil) .nil)))
def je:Sxs:=(.cons (.ite (.val (.cmp .Is (.var 1) (.cst .non))) (.cons (.ret (.cst .non)) .nil) .nil) (.cons (.ret (.idx (.idx (.idx (.var 0) (.cst (.int 1))) (.var 1)) (.cst (.int 1)))) .nil))
def kI:Sxs:=(.cons (.ret (.cmp .Eq (.call "deed_of" (.cons (.var 0) (.cons (.idx (.var 2) (.cst (.int 1))) .nil))) (.call "deed_of" (.cons (.var 1) (.cons (.idx (.var 2) (.cst (.int 2))) .nil))))) .nil)
def kJ:Sxs:=(.cons (.ret (.bin .Mult true (.cst (.str [42])) (.var 0))) .nil)
def kO:Sxs:=(.cons (.exp (.call "need_two_books" (.cons (.var 0) (.cons (.var 1) .nil)))) (.cons (.asg (.nm 2) (.call "stars" (.cons (.idx (.var 0) (.cst (.int 0))) .nil))) (.cons (.asg (.nm 3) (.call "grown" (.cons (.cst (.str [115,97,109,101])) (.cons (.lst true (.cons (.idx (.var 0) (.cst (.int 1))) (.cons (.idx (.var 1) (.cst (.int 1))) .nil))) (.cons (.var 2) .nil))))) (.cons (.asg (.nm 4) (.comp true (.call "least" (.cons (.var 0) .nil)) (.tp (.cons (.nm 0) (.cons (.nm 1) .nil))) (.seq (.call "leaves" (.cons (.var 2) (.cons (.var 3) .nil)))) (.not (.val (.call "same_deeds" (.cons (.var 2) (.cons (.var 3) (.cons (.var 1) .nil)))))) ["part","leaf","one","other"] [none,none,some 0,some 1])) (.cons (.ite (.val (.var 4)) (.cons (.ret (.tup (.cons (.cst (.str [112,97,114,116,101,100])) (.cons (.bcl .min (.cons (.var 4) .nil)) .nil)))) .nil) .nil) (.cons (.ret (.tup (.cons (.cst (.str [97,108,105,107,101])) (.cons (.var 3) .nil)))) .nil))))))
def kW:Sxs:=(.cons (.asg (.tp (.cons (.nm 2) (.cons (.nm 3) .nil))) (.call "alike" (.cons (.var 0) (.cons (.var 1) .nil)))) (.cons (.ret (.ife (.val (.cmp .Eq (.var 2) (.cst (.str [112,97,114,116,101,100])))) (.var 3) (.cst .non))) .nil))
def kY:Sxs:=(.cons (.ret (.cmp .Is (.call "parting_word" (.cons (.var 0) (.cons (.call "by_order" (.cons (.var 0) (.cons (.var 1) .nil))) .nil))) (.cst .non))) .nil)
def kZ:Sxs:=(.cons (.exp (.call "need_book" (.cons (.var 0) .nil))) (.cons (.asg (.tp (.cons (.nm 1) (.cons (.nm 2) .nil))) (.var 0)) (.cons (.ite (.boo false (.val (.cmp .Gt (.bcl .len (.cons (.var 2) .nil)) (.glb "MOST_ROWS_MOVED" (.int 5)))) (.cons (.val (.cmp .Gt (.var 1) (.glb "WIDEST_MOVED" (.int 4)))) .nil)) (.cons (.rse "TooMany" (.cons (.glb "MOST_ROWS_MOVED" (.int 5)) (.cons (.glb "WIDEST_MOVED" (.int 4)) .nil))) .nil) .nil) .nil)))
def lg:Sxs:=(.cons (.exp (.call "need_movable" (.cons (.var 0) .nil))) (.cons (.exp (.call "need_order" (.cons (.var 0) (.cons (.var 1) .nil)))) (.cons (.asg (.nm 3) (.call "first_order" (.cons (.var 0) .nil))) (.cons (.for_ (.nm 4) (.seq (.var 2)) (.cons (.ite (.not (.val (.call "is_place" (.cons (.bin .Sub true (.bcl .len (.cons (.var 3) .nil)) (.cst (.int 1))) (.cons (.var 4) .nil))))) (.cons (.ret (.cst (.bl false))) .nil) .nil) (.cons (.asg (.nm 3) (.call "exchanged" (.cons (.var 3) (.cons (.var 4) .nil)))) (.cons (.ite (.not (.val (.call "is_good" (.cons (.var 0) (.cons (.var 3) .nil))))) (.cons (.ret (.cst (.bl false))) .nil) .nil) .nil)))) (.cons (.ret (.cmp .Eq (.var 3) (.var 1))) .nil)))))
def xr:Sxs:=(.cons (.asg (.nm 1) (.call "_law_open" (.cons (.var 0) .nil))) (.cons (.for_ (.nm 2) (.rng (.cst (.int 2))) (.cons (.asg (.nm 3) (.call "_law_book" (.cons (.call "_law_anew" (.cons (.var 1) .nil)) (.cons (.cst (.int 4)) (.cons (.cst (.int 5)) .nil))))) (.cons (.asg (.tp (.cons (.nm 4) (.cons (.nm 5) .nil))) (.call "_law_drawn_steps" (.cons (.var 1) (.cons (.var 3) .nil)))) (.cons (.asg (.nm 6) (.lst true (.cons (.var 5) (.cons (.call "_law_order" (.cons (.var 1) (.cons (.bcl .len (.cons (.idx (.var 3) (.cst (.int 1))) .nil)) .nil))) .nil)))) (.cons (.asg (.nm 7) (.lst false (.cons (.var 4) (.cons (.lst true .nil) .nil)))) (.cons (.for_ (.nm 8) (.rng (.cst (.int 3))) (.cons (.exp (.mth .append (.var 7) (.cons (.call "_law_bent" (.cons (.var 1) (.cons (.var 4) (.cons (.bin .Add true (.bcl .len (.cons (.idx (.var 3) (.cst (.int 1))) .nil)) (.cst (.int 1))) .nil)))) .nil))) .nil)) (.cons (.for_ (.nm 9) (.seq (.var 7)) (.cons (.for_ (.nm 10) (.seq (.var 6)) (.cons (.asg (.nm 11) (.lcl true .list (.cons (.var 9) .nil))) (.cons (.asg (.nm 12) (.call "is_way" (.cons (.var 3) (.cons (.var 10) (.cons (.var 11) .nil))))) (.cons (.ite (.boo false (.not (.val (.isi (.var 12) "bool"))) (.cons (.val (.cmp .NotEq (.var 11) (.var 9))) .nil)) (.cons (.ret (.cst (.bl false))) .nil) .nil) (.cons (.ite (.val (.cmp .NotEq (.var 12) (.call "_law_due" (.cons (.var 3) (.cons (.var 10) (.cons (.var 9) .nil)))))) (.cons (.ret (.cst (.bl false))) .nil) .nil) .nil))))) .nil)) .nil))))))) (.cons (.ret (.cst (.bl true))) .nil)))
end RF
local macro_rules | `(tactic| simp_arith [$l,*] $[$c:location]?) => `(tactic| simp -implicitDefEqProofs only [↓RF.aal, ↓RF.J8, RF.J9, RF.env0, RF.ends, String.reduceBEq, $l,*] $[$c:location]?)
local macro_rules | `(tactic| simp_arith! [$l,*] $[$c:location]?) => `(tactic| simp -implicitDefEqProofs only [↓RF.J8, RF.J9, RF.env0, RF.ends, String.reduceBEq, $l,*] $[$c:location]?)
local macro_rules | `(tactic| simp_all_arith [$l,*]) => `(tactic| simp -implicitDefEqProofs only [RF.env0, RF.ends, List.map_cons, List.map_nil, List.cons_append, List.nil_append, List.replicate_succ, List.replicate_zero, $l,*])
namespace RF
open PySem L2
theorem gR{i j:Int}(h:-(2 ^ 64) < j/\j < 2 ^ 64):CMul i j:=.inr h
theorem xu{i j:Int}(h:-(2 ^ 64) < i/\i < 2 ^ 64):CMul i j:=.inl h
theorem xF{j:Int}(h:0<=j/\j<=1000):oH 10 j:=⟨h.1,by omega,by decide⟩
def rT:RF.Spec:=bD (λds _=>∃c k:Int,ds=[.int c,.int k]/\0<=k) (λ_ G d G'=>G'=G/\∃r:Int,d=.int r/\0<=r)
theorem aam(Φ:aa)(ds:List D)(G:DH)(h:∃c k:Int,ds=[.int c,.int k]/\0<=k):au Φ wI noE (env0 ds 3) G (ends λd G'=>G'=G/\∃r:Int,d=.int r/\0<=r):=by
 obtain ⟨c,k,rfl,hk⟩:=h;simp_arith[wI];refine ⟨xF (by decide),?_⟩;cases hc:decide (10 ^ Int.toNat 18<=c) with
 |true=>
  refine ⟨c,rfl,?_⟩;have:=of_decide_eq_true hc;have h2:(0:Int)<=(10:Int) ^ (18:Int).toNat:=by decide
  exact Int.le_trans h2 this
 |false=>
  generalize hone:(c % 1000000007 * 69069+k * 40503+977) % 2147483629=one;have o1:0<=one:=by rw[<-hone];exact Int.emod_nonneg _ (by decide)
  have o2:one < 2147483629:=by rw[<-hone];exact Int.emod_lt_of_pos _ (by decide)
  generalize htwo:(one * one+k * 7919+c % 65537) % 2147483587=two;have t1:0<=two:=by rw[<-htwo];exact Int.emod_nonneg _ (by decide)
  have t2:two < 2147483587:=by rw[<-htwo];exact Int.emod_lt_of_pos _ (by decide)
  generalize hthree:(two * two+one * 31+5) % 2147483563=three;have h1:0<=three:=by rw[<-hthree];exact Int.emod_nonneg _ (by decide)
  clear hone htwo hthree;refine ⟨by decide,gR (by decide),gR (by decide),by decide,xu (by omega),gR (by decide),by decide,by decide,xu (by omega),gR (by decide),by decide,gR (by decide),gR (by decide),_,rfl,?_⟩;omega
def Pen(G:DH)(p:Addr):Prop:=∃(ns:List Int)(k st:Int),G p=some (.lst [.lst (ns.map D.int),.int k,.int st])/\0<=k/\0<=st
theorem Pen.sa{G G':DH}{p:Addr}(h:Pen G p)(s:Sa G G'):Pen G' p:=by obtain ⟨ns,k,st,e,h1⟩:=h;exact ⟨ns,k,st,s _ _ e,h1⟩
theorem Pen.ne{G:DH}{p q:Addr}(h:Pen G p)(e:G q=none):p≠q:=by obtain ⟨ns,k,st,e1,h1⟩:=h;exact Al e1 e
theorem Pen.sb{G G':DH}{p q:Addr}(h:Pen G p)(s:Sb q G G')(n:p≠q):Pen G' p:=by obtain ⟨ns,k,st,e,h1⟩:=h;exact ⟨ns,k,st,s _ _ e n,h1⟩
def rW:RF.Spec:=bD (λds G=>∃p,ds=[.ref p]/\Pen G p) (λds G d G'=>∃p,ds=[.ref p]/\d=.ref p/\Pen G' p/\Sb p G G')
theorem aan(Φ:aa)(ds:List D)(G:DH)(h:∃p,ds=[.ref p]/\Pen G p):au Φ wH noE (env0 ds 0) G (ends λd G'=>∃p,ds=[.ref p]/\d=.ref p/\Pen G' p/\Sb p G G'):=by obtain ⟨p,rfl,ns,k,st,e,h1,h2⟩:=h;simp_arith[wH,b8 e];exact ⟨p,rfl,rfl,⟨ns,k,0,bx,h1,by decide⟩,Sb.upd⟩
def dg:RF.Spec:=bD (λds G=>∃p,∃m:Int,ds=[.ref p,.int m]/\Pen G p/\0 < m/\m < 1152921504606846976) (λds G d G'=>∃p,∃m r:Int,ds=[.ref p,.int m]/\d=.int r/\0<=r/\r < m/\Pen G' p/\Sb p G G')
theorem aao (Φ:aa) (hΦ:Φ "_law_spread"=rT) (ds:List D) (G:DH) (h:∃p,∃m:Int,ds=[.ref p,.int m]/\Pen G p/\0 < m/\m < 1152921504606846976):
  au Φ wJ noE (env0 ds 3) G (ends λd G'=>∃p,∃m r:Int,ds=[.ref p,.int m]/\d=.int r/\0<=r/\r < m/\Pen G' p/\Sb p G G'):=by
 obtain ⟨p,m,rfl,⟨ns,k,st,e,h1,h2⟩,h3,h4⟩:=h;simp_all_arith[wJ];refine seq λM hM=>?_;have fin:∀(ρ2 ρ3 ρ4:Option D)(G1:DH)(k1 s1:Int),0<=k1->0<=s1->G1 p=some (.lst [.lst (ns.map D.int),.int k1,.int s1])->Sb p G G1->M [some (.ref p),some (.int m),ρ2,ρ3,ρ4] G1:=by intro ρ2 ρ3 ρ4 G1 k1 s1 q1 q2 e1 sb;refine hM _ _ ?_;simp_arith[eF e1,b8 e1];refine ⟨h3,⟨h3,h4⟩,p,m,_,rfl,rfl,Int.emod_nonneg _ (by omega),Int.emod_lt_of_pos _ h3,⟨ns,k1,_,bx,q1,?_⟩,sb.trans Sb.upd⟩;exact Int.ediv_nonneg q2 (by omega)
 simp_arith[eF e,b8 e,hΦ];have draw:∀c:Int,rT.t [.int c,.int k] (aV G p (.lst [.lst (ns.map D.int),.int (k+1),.int st])) (λx G1=>trk G1 p λds=>aY (ixN ds.length 2) λj=>M [some (.ref p),some (.int m),some (.int k),some (.int c),none] (aV G1 p (.lst (ds.set j x)))) noE:=by intro c;refine bY ⟨c,k,rfl,h1⟩ λd G' hx=>?_;obtain ⟨e1,r,e2,hr⟩:=hx;subst e1 e2;simp_arith[b8 bx];refine fin _ _ _ _ (k+1) r (by omega) hr bx (Sb.trans Sb.upd Sb.upd)
 cases hc:decide (st < m) with
 |false=>exact fin _ _ _ _ k st h1 h2 e (Sb.refl _ _)
 |true=>
  cases hk:decide (k < ((ns.map D.int).length:Int)) with
  |true=>
   have hk:=of_decide_eq_true hk;rw[List.length_map]at hk;refine bZ (a:=.int ns[k.toNat]) ?_ ?_
   ·obtain ⟨n,rfl⟩:=Int.eq_ofNat_of_zero_le h1;exact bO (by simp at hk ⊢)
   ·exact draw _
  |false=>
   cases hz:decide (0 < ((ns.map D.int).length:Int)) with
   |false=>exact draw 0
   |true=>
    have hz:=of_decide_eq_true hz;have j1:0<=(k * 5+3) % ((ns.map D.int).length:Int):=Int.emod_nonneg _ (by omega);have j2:(k * 5+3) % ((ns.map D.int).length:Int) < ((ns.map D.int).length:Int):=Int.emod_lt_of_pos _ hz;obtain ⟨j,hj⟩:=Int.eq_ofNat_of_zero_le j1;rw[hj]at j2;have j3:j < ns.length:=by rw[List.length_map]at j2;omega
    refine ⟨gR (by decide),hz,bZ (a:=.int ns[j]) ?_ ⟨xF (by decide),?_⟩⟩
    ·rw[hj];exact bO (by simp[j3])
    ·simp_arith[b8 e];refine ⟨?_,draw _⟩;have:(0:Int) < 10 ^ Int.toNat 17:=by decide
     omega
def lq:RF.Spec:=bD (λds G=>∃p,∃n:Nat,∃cs:List Nat,ds=[.ref p,.int n,.str cs]/\Pen G p/\n<=1000/\cs≠[]/\cs.length<=1000)
 (λds G d G'=>∃p,∃n:Nat,∃cs l:List Nat,ds=[.ref p,.int n,.str cs]/\d=.str l/\l.length=n/\(∀c∈l,c∈cs)/\Pen G' p/\Sb p G G')
theorem aap(l:List Nat):((l.map λc=>[c]).map (·.length)).sum=l.length:=by
 induction l with
 |nil=>rfl
 |cons a l ih=>simp at ih ⊢;omega
theorem aaq(l:List Nat):(l.map λc=>[c]).flatten=l:=by
 induction l with
 |nil=>rfl
 |cons a l ih=>simp at ih ⊢;exact ih
theorem aar (Φ:aa) (hΦ:Φ "_law_take"=dg) (ds:List D) (G:DH) (h:∃p,∃n:Nat,∃cs:List Nat,ds=[.ref p,.int n,.str cs]/\Pen G p/\n<=1000/\cs≠[]/\cs.length<=1000):
  au Φ wL noE (env0 ds 0) G (ends λd G'=>∃p,∃n:Nat,∃cs l:List Nat,ds=[.ref p,.int n,.str cs]/\d=.str l/\l.length=n/\(∀c∈l,c∈cs)/\Pen G' p/\Sb p G G'):=by
 obtain ⟨p,n,cs,rfl,hp,hn,hc,hl⟩:=h;have hc1:0 < cs.length:=List.length_pos_iff.mpr hc;simp_arith[wL,hΦ];refine ⟨by omega,CompG.inv (P:=λi acc ρ G'=>(∃o,ρ=[o,some (.str cs),some (.ref p)])/\Pen G' p/\Sb p G G'/\∃l:List Nat,acc=l.map (λc=>D.str [c])/\l.length=i/\∀c∈l,c∈cs) (h0:=⟨⟨_,rfl⟩,hp,Sb.refl _ _,[],rfl,rfl,by simp⟩) (hh:=λ_ _ _ _ _=>trivial) (hl:=by simp[aR];have hsz:sz=1000000:=rfl;omega) (hs:=?_) (he:=?_)⟩
 ·rintro i d acc ρ G' hd ⟨⟨o,rfl⟩,hp',sb,l,rfl,hl',hm⟩ kk hk;simp_arith[hΦ];refine bY ⟨p,_,rfl,hp',by omega,by omega⟩ λd' G2 hx=>?_;obtain ⟨p2,m2,r,e1,e2,r0,r1,pp2,sb2⟩:=hx;cases e1;subst e2;obtain ⟨j,rfl⟩:=Int.eq_ofNat_of_zero_le r0;have hj:j < cs.length:=by omega
  simp_arith[ends];refine bZ (a:=cs[j]) (bO (by simp[hj])) (hk _ _ _ ⟨⟨_,rfl⟩,pp2,sb.trans sb2,l++[cs[j]],by simp,by simp[hl'],?_⟩);intro c hc;rcases List.mem_append.mp hc with h |h
  ·exact hm c h
  ·rw[List.mem_singleton.mp h];exact List.getElem_mem _
 ·rintro acc ρ G' ⟨_,hp',sb,l,rfl,hl',hm⟩;simp_arith[strs_map];have hl2:l.length=n:=by rw[hl'];simp[aR]
  refine ⟨?_,p,n,cs,l,rfl,?_,hl2,hm,hp',sb⟩
  ·rw[aap];simp;have hsz:sz=1000000:=rfl;omega
  ·rw[DR,aaq]
def isF(c:Nat):Prop:=c=48\/c=49\/c=42
def xG:RF.Spec:=bD (λds G=>∃p,∃n:Nat,ds=[.ref p,.int n]/\Pen G p/\n<=1000) (λds G d G'=>∃p,∃n:Nat,∃l:List Nat,ds=[.ref p,.int n]/\d=.str l/\l.length=n/\(∀c∈l,isF c)/\Pen G' p/\Sb p G G')
theorem aas (Φ:aa) (h1:Φ "_law_take"=dg) (h2:Φ "_law_signs"=lq) (ds:List D) (G:DH) (h:∃p,∃n:Nat,ds=[.ref p,.int n]/\Pen G p/\n<=1000):
  au Φ wN noE (env0 ds 0) G (ends λd G'=>∃p,∃n:Nat,∃l:List Nat,ds=[.ref p,.int n]/\d=.str l/\l.length=n/\(∀c∈l,isF c)/\Pen G' p/\Sb p G G'):=by
 obtain ⟨p,n,rfl,hp,hn⟩:=h;simp_arith[wN,h1,h2];refine ⟨by decide,bY ⟨p,_,rfl,hp,by decide,by decide⟩ λd' G2 ⟨p2,m2,r,e1,e2,r0,r1,pp2,sb2⟩=>?_⟩;cases e1;subst e2;obtain ⟨j,rfl⟩:=Int.eq_ofNat_of_zero_le r0;simp_arith[ends];have:∃cs:List Nat,atI [D.str [48,49,42],D.str [48,49,42,42],D.str [48,49,42,42,42,42],D.str [48,42],D.str [48,49]] ((j:Nat):Int)=some (.str cs)/\cs≠[]/\cs.length<=1000/\∀c∈cs,isF c:=by
  have hj:j=0\/j=1\/j=2\/j=3\/j=4:=by omega
  rcases hj with rfl |rfl |rfl |rfl |rfl <;> exact ⟨_,rfl,by decide,by decide,by simp[isF]⟩
 obtain ⟨cs,e,c1,c2,c3⟩:=this;refine bZ e (bY ⟨p,n,cs,rfl,pp2,hn,c1,c2⟩ λd G3 ⟨p3,n3,cs3,l,e1,e2,q1,q2,q3,q4⟩=>?_);cases e1;exact ⟨p,n,l,rfl,e2,q1,λc hc=>c3 c (q2 c hc),q3,sb2.trans q4⟩
def xH:RF.Spec:=bD (λds _=>∃ns:List Int,ds=[.scr ns]/\ns.length<=63) (λ_ G d G'=>∃p,d=.ref p/\G p=none/\Pen G' p/\Sa G G')
theorem aat(Φ:aa)(ds:List D)(G:DH)(h:∃ns:List Int,ds=[.scr ns]/\ns.length<=63):au Φ xm noE (env0 ds 3) G (ends λd G'=>∃p,d=.ref p/\G p=none/\Pen G' p/\Sa G G'):=by
 obtain ⟨ns,rfl,hl⟩:=h;simp_all_arith[xm];refine seq λM hM=>?_;simp_arith[ends];intro c hc;refine hM _ _ ?_;refine seq λM hM=>?_;simp_arith[ends];refine ForG.inv (λi ρ G'=>∃(o2 o3:Option D)(xs:List Int),ρ=[some (.scr ns),some (.ref c),o2,o3]/\G'=aV G c (.lst (xs.map D.int))/\(12<=xs.length\/cut ns (some 12) (some 63)=[])) ⟨_,_,cut ns none (some 12),rfl,rfl,?_⟩ (λ_ _ _ _=>trivial) ?_ ?_
 ·by_cases h12:12<=ns.length
  ·left;simp[cut,HT.sIx];omega
  ·right;simp[cut,HT.sIx];omega
 ·rintro i d ρ G' hd ⟨o2,o3,xs,rfl,rfl,hx⟩ kk hk;rw[iV]at hd;obtain ⟨d',hd',e3⟩:=Option.map_eq_some_iff.mp hd;subst e3;rw[List.getElem?_map]at hd';obtain ⟨x,hx',e4⟩:=Option.map_eq_some_iff.mp hd';subst e4;have h12:12<=xs.length:=by
   rcases hx with h |h
   ·exact h
   ·rw[h]at hx';simp at hx'
  obtain ⟨j,hj⟩:=Int.eq_ofNat_of_zero_le (Int.emod_nonneg ((0+i:Nat):Int) (by decide:(12:Int)≠0));have hj12:j < 12:=by have:=Int.emod_lt_of_pos ((0+i:Nat):Int) (by decide:(0:Int) < 12);omega
  have hjx:j < xs.length:=by omega
  simp_arith[hj,eF bx,b8 bx];refine ⟨by decide,bZ (a:=.int xs[j]) (bO (by simp[hjx])) ?_⟩;simp_arith[hj,eF bx,b8 bx,List.length_map,aaa hjx];refine ⟨by decide,hk _ _ ⟨_,_,xs.set j (xs[j]+x),rfl,?_,by simp[h12]⟩⟩;rw[Wn,List.map_set]
 ·rintro ρ G' ⟨o2,o3,xs,rfl,rfl,hx⟩;refine hM _ _ ?_;simp_arith[bx];refine ⟨by have hsz:sz=1000000:=rfl;omega,λp hp=>⟨p,rfl,?_,⟨xs,0,0,bx,by decide,by decide⟩,?_⟩⟩
  ·rw[Ak hc]at hp;exact hp
  ·rw[Ak hc]at hp ⊢;exact Sa.new hp
def lr:RF.Spec:=bD (λds _=>∃ns:List Int,ds=[.scr ns]/\ns.length<=63) (λ_ _ d _=>d=.bl true)
def whole:D->Bool
 |.int _=>true
 |_=>false
def gU:List D->Option D
 |[x]=>if nr x then some (.bl (whole x)) else none
 |_=>none
theorem aau(Φ:aa)(ds:List D)(G:DH)(d:D)(h:gU ds=some d):au Φ jX noE (env0 ds 0) G (ends λd' G'=>G'=G/\d'=d):=by
 unfold gU at h;split at h
 ·rename_i x;split at h
  ·rename_i hx;cases h;cases x <;> first | (simp[nr]at hx;done) | (simp_arith[jX,whole];try simp)
  ·cases h
 ·cases h
def okF(w:Nat)(l:List Nat):Prop:=l.length=w/\∀c∈l,isF c
theorem okF.app{w v:Nat}{l m:List Nat}(h:okF w l)(h':okF v m):okF (w+v) (l++m):=⟨by rw[List.length_append,h.1,h'.1],λc hc=>(List.mem_append.mp hc).elim (h.2 c) (h'.2 c)⟩
theorem okF.one{c:Nat}(h:isF c):okF 1 [c]:=⟨rfl,λd hd=>by rw[List.mem_singleton.mp hd];exact h⟩
theorem bL{p:Addr}{m:Int}{G:DH}{k:D->DH->Prop}{E:EK}(hp:Pen G p)(h1:0 < m)(h2:m < 1152921504606846976)(hk:∀(r:Nat)(G':DH),(r:Int) < m->Pen G' p->Sb p G G'->k (.int r) G'):dg.t [.ref p,.int m] G k E:=by refine bY ⟨p,m,rfl,hp,h1,h2⟩ λd G' hx=>?_;obtain ⟨p2,m2,r,e1,e2,r0,r1,hp',sb⟩:=hx;cases e1;subst e2;obtain ⟨n,rfl⟩:=Int.eq_ofNat_of_zero_le r0;exact hk n G' r1 hp' sb
theorem aav{n:Nat}(h:(n:Int) < 2):∃c,atI [48,49] (n:Int)=some c/\isF c:=by
 have:n=0\/n=1:=by omega
 rcases this with rfl |rfl
 ·exact ⟨48,rfl,.inl rfl⟩
 ·exact ⟨49,rfl,.inr (.inl rfl)⟩
theorem aaw{n:Nat}(h:(n:Int) < 3):∃c,atI [48,49,42] (n:Int)=some c/\isF c:=by
 have:n=0\/n=1\/n=2:=by omega
 rcases this with rfl |rfl |rfl
 ·exact ⟨48,rfl,.inl rfl⟩
 ·exact ⟨49,rfl,.inr (.inl rfl)⟩
 ·exact ⟨42,rfl,.inr (.inr rfl)⟩
def xJ(ds:List D)(G:DH):Prop:=∃p l,ds=[.ref p,.str l]/\Pen G p/\(∀c∈l,isF c)/\l.length<=1000
def xK(ds:List D)(G:DH)(d:D)(G':DH):Prop:=∃p l m,ds=[.ref p,.str l]/\d=.str m/\okF l.length m/\Pen G' p/\Sb p G G'
def gW:RF.Spec:=bD xJ xK
theorem Kc{p:Addr}{l:List Nat}{G:DH}{k:D->DH->Prop}{E:EK}(hp:Pen G p)(hl:∀c∈l,isF c)(h2:l.length<=1000)(hk:∀(m:List Nat)(G':DH),okF l.length m->Pen G' p->Sb p G G'->k (.str m) G'):gW.t [.ref p,.str l] G k E:=by refine bY ⟨p,l,rfl,hp,hl,h2⟩ λd G' hx=>?_;obtain ⟨p2,l2,m,e1,e2,h,hp',sb⟩:=hx;cases e1;subst e2;exact hk m G' h hp' sb
theorem aax (Φ:aa) (h1:Φ "_law_take"=dg) (ds:List D) (G:DH) (h:xJ ds G):au Φ wQ noE (env0 ds 2) G (ends (xK ds G)):=by
 obtain ⟨p,l,rfl,hp,hl,hl2⟩:=h;simp_all_arith[wQ];refine seq λM hM=>?_;simp_arith[ends];refine hM _ _ (seq λM hM=>?_);simp_arith![ends];refine ForG.inv (P:=λi ρ G'=>(∃o m,ρ=[some (.ref p),some (.str l),some (.str m),o]/\okF i m)/\Pen G' p/\Sb p G G') ⟨⟨_,_,rfl,rfl,by simp⟩,hp,Sb.refl _ _⟩ (λ_ _ _ _=>trivial) ?_ ?_
 ·rintro i d ρ G2 hd ⟨⟨o,m,rfl,hm⟩,hp2,sb2⟩ kk hk;rw[List.getElem?_map]at hd;obtain ⟨c,hc,rfl⟩:=Option.map_eq_some_iff.mp hd;have hi:i < l.length:=(List.getElem?_eq_some_iff.mp hc).1;have fc:=hl c (List.mem_of_getElem? hc);have l1:=hm.1;simp_arith![ends];refine seq λM hM=>?_;have fin:∀(c:Nat)(G3:DH),isF c->Pen G3 p->Sb p G2 G3->M [some (.ref p),some (.str l),some (.str m),some (.str [c])] G3:=by
   intro c G3 fc hp3 sb3;refine hM _ _ (last ?_);simp_arith[ends];exact ⟨by have hsz:sz=1000000:=rfl;omega,hk _ _ ⟨⟨_,_,rfl,hm.app (okF.one fc)⟩,hp3,sb2.trans sb3⟩⟩
  simp_arith[h1];cases ht:([c]==[42]) with
  |false=>exact fin c G2 fc hp2 (Sb.refl _ _)
  |true=>
   refine bL hp2 (by decide) (by decide) λr G3 hr hp3 sb3=>?_;simp_arith[ends];cases hr0:((r:Int)==0) with
   |false=>exact fin c G3 fc hp3 sb3
   |true=>
    refine bL hp3 (by decide) (by decide) λr' G4 hr' hp4 sb4=>?_;obtain ⟨c',e,fc'⟩:=aav hr';simp_arith[e];exact fin c' G4 fc' hp4 (sb3.trans sb4)
 ·rintro ρ G2 ⟨⟨o,m,rfl,hm⟩,hp2,sb2⟩;refine hM _ _ ?_;simp_arith[ends];exact ⟨p,l,m,rfl,rfl,by simpa using hm,hp2,sb2⟩
theorem aay (Φ:aa) (h1:Φ "_law_take"=dg) (ds:List D) (G:DH) (h:xJ ds G):au Φ wO noE (env0 ds 2) G (ends (xK ds G)):=by
 obtain ⟨p,l,rfl,hp,hl,hl2⟩:=h;simp_all_arith[wO];refine seq λM hM=>?_;simp_arith[ends];refine hM _ _ (seq λM hM=>?_);simp_arith![ends];refine ForG.inv (P:=λi ρ G'=>(∃o m,ρ=[some (.ref p),some (.str l),some (.str m),o]/\okF i m)/\Pen G' p/\Sb p G G') ⟨⟨_,_,rfl,rfl,by simp⟩,hp,Sb.refl _ _⟩ (λ_ _ _ _=>trivial) ?_ ?_
 ·rintro i d ρ G2 hd ⟨⟨o,m,rfl,hm⟩,hp2,sb2⟩ kk hk;rw[List.getElem?_map]at hd;obtain ⟨c,hc,rfl⟩:=Option.map_eq_some_iff.mp hd;have hi:i < l.length:=(List.getElem?_eq_some_iff.mp hc).1;have fc:=hl c (List.mem_of_getElem? hc);have l1:=hm.1;simp_arith![ends];refine seq λM hM=>?_;have fin:∀(c:Nat)(G3:DH),isF c->Pen G3 p->Sb p G2 G3->M [some (.ref p),some (.str l),some (.str m),some (.str [c])] G3:=by
   intro c G3 fc hp3 sb3;refine hM _ _ (last ?_);simp_arith[ends];exact ⟨by have hsz:sz=1000000:=rfl;omega,hk _ _ ⟨⟨_,_,rfl,hm.app (okF.one fc)⟩,hp3,sb2.trans sb3⟩⟩
  simp_arith[h1];refine bL hp2 (by decide) (by decide) λr G3 hr hp3 sb3=>?_;simp_arith[ends];cases hr0:((r:Int)==0) with
  |false=>exact fin c G3 fc hp3 sb3
  |true=>exact fin 42 G3 (.inr (.inr rfl)) hp3 sb3
 ·rintro ρ G2 ⟨⟨o,m,rfl,hm⟩,hp2,sb2⟩;refine hM _ _ ?_;simp_arith[ends];exact ⟨p,l,m,rfl,rfl,by simpa using hm,hp2,sb2⟩
theorem Kd{G G':DH}{p:Addr}{x:D}{fs:List (List Nat)}(hv:view G x=.lst (fs.map D.str))(hp:Pen G p)(sb:Sb p G G'):view G' x=.lst (fs.map D.str):=by
 cases x with
 |ref q=>
  unfold view at hv;dsimp only at hv;cases g:G q with
  |none=>rw[g]at hv;cases hv
  |some o=>
   cases o with
   |lst ds=>
    rw[g]at hv;have e:ds=fs.map D.str:=by simpa using hv
    have hn:q≠p:=by
     rintro rfl;obtain ⟨ns,k,st,e1,_⟩:=hp;rw[g,e]at e1;cases fs with
     |nil=>simp at e1
     |cons a r=>simp at e1
    rw[eF (sb q _ g hn),e]
 |lst l=>exact hv
 |_=>cases hv
def Ke(ds:List D)(G:DH):Prop:=∃p,∃w:Nat,∃x,∃fs:List (List Nat),ds=[.ref p,.int w,x]/\Pen G p/\0 < w/\w<=1000/\view G x=.lst (fs.map D.str)/\fs.length<=1000/\∀f∈fs,okF w f
def xM(ds:List D)(G:DH)(d:D)(G':DH):Prop:=∃p,∃w:Nat,∃x m,ds=[.ref p,.int w,x]/\d=.str m/\okF w m/\Pen G' p/\Sb p G G'
def rY:RF.Spec:=bD Ke xM
theorem aaz{p:Addr}{w:Nat}{x:D}{fs:List (List Nat)}{G:DH}{k:D->DH->Prop}{E:EK}(hp:Pen G p)(h1:0 < w)(h2:w<=1000)(hv:view G x=.lst (fs.map D.str))(h3:fs.length<=1000)(h4:∀f∈fs,okF w f)
  (hk:∀(m:List Nat)(G':DH),okF w m->Pen G' p->Sb p G G'->k (.str m) G'):rY.t [.ref p,.int w,x] G k E:=by
 refine bY ⟨p,w,x,fs,rfl,hp,h1,h2,hv,h3,h4⟩ λd G' hx=>?_;obtain ⟨p2,w2,x2,m,e1,e2,h,hp',sb⟩:=hx;simp only[List.cons.injEq,D.ref.injEq,D.int.injEq,Int.ofNat_inj,and_true]at e1;obtain ⟨rfl,rfl,rfl⟩:=e1;subst e2;exact hk m G' h hp' sb
theorem aaA(fs:List (List Nat)):nrs (fs.map D.str)=true:=by
 induction fs with
 |nil=>rfl
 |cons a l ih=>rw[List.map_cons,nrs,ih];rfl
theorem aaB(fs:List (List Nat)):bc (fs.map D.str)=0:=by
 induction fs with
 |nil=>rfl
 |cons a l ih=>rw[List.map_cons,bc,ih];rfl
theorem aaC{w n:Nat}{l:List Nat}{c:Nat}(h:okF w l)(hn:n < w)(fc:isF c):okF w (cut l none (some (n:Int))++[c]++cut l (some ((n:Int)+1)) none):=by
 have h1:=h.1;rw[wB,Eg];refine ⟨?_,λd hd=>?_⟩
 ·simp;omega
 ·rcases List.mem_append.mp hd with hd |hd
  ·rcases List.mem_append.mp hd with hd |hd
   ·exact h.2 d (List.mem_of_mem_take hd)
   ·rw[List.mem_singleton.mp hd];exact fc
  ·exact h.2 d (List.mem_of_mem_drop hd)
theorem aaD (Φ:aa) (h1:Φ "_law_take"=dg) (h2:Φ "_law_form"=xG) (h3:Φ "_law_within"=gW) (h4:Φ "_law_wider"=gW) (ds:List D) (G:DH) (h:Ke ds G):au Φ wR noE (env0 ds 3) G (ends (xM ds G)):=by
 obtain ⟨p,w,x,fs,rfl,hp,w1,w2,hv,hf,hfs⟩:=h;simp_all_arith[wR];refine seq λM hM=>?_;simp_arith[h1];refine bL hp (by decide) (by decide) λkd G2 hkd hp2 sb2=>?_;have hv2:=Kd hv hp sb2;refine hM _ _ (seq λM hM=>?_);have drawn:∀(ρ:ak) (G3:DH),Pen G3 p->Sb p G G3->au Φ (.cons (.ret (.call "_law_form" (.cons (.var 0) (.cons (.var 1) .nil)))) .nil) noE (some (.ref p)::some (.int w)::ρ) G3 { nx:=M,rt:=xM [.ref p,.int w,x] G,bk:=λ_ _=>False,ct:=λ_ _=>False }:=by intro ρ G3 hp3 sb3;simp_arith[h2];refine bY ⟨p,w,rfl,hp3,w2⟩ λd G4 hx=>?_;obtain ⟨p4,n4,l,e1,e2,l1,l2,hp4,sb4⟩:=hx;simp only[List.cons.injEq,D.ref.injEq,D.int.injEq,Int.ofNat_inj,and_true]at e1;obtain ⟨rfl,rfl⟩:=e1;exact ⟨p,w,x,l,rfl,e2,⟨l1,l2⟩,hp4,sb3.trans sb4⟩
 simp_arith![hv2,aac,aaB,aaA];refine ⟨by decide,?_⟩;cases he:(fs.map D.str).isEmpty with
 |true=>exact drawn _ _ hp2 sb2
 |false=>
  have hlen:0 < fs.length:=by
   cases fs with
   |nil=>simp at he
   |cons a r=>simp
  simp_arith![ends];cases hk2:decide ((kd:Int) < 2) with
  |true=>exact drawn _ _ hp2 sb2
  |false=>
   simp_arith[ends];refine hM _ _ (seq λM hM=>?_);simp_arith[h1,hv2,List.length_map];refine bL hp2 (by omega) (by omega) λr G3 hr hp3 sb3=>?_;have hv3:=Kd hv2 hp2 sb3;simp_arith[hv3];have hr':r < fs.length:=by omega
   refine bZ (a:=.str fs[r]) (bO (by simp[hr'])) ?_;have fok:=hfs fs[r] (List.getElem_mem _);generalize fs[r]=f at fok;refine hM _ _ (seq λM hM=>?_);have sb':=sb2.trans sb3;simp_arith[ends];cases hk3:((kd:Int)==2) with
   |true=>exact ⟨p,w,x,f,rfl,rfl,fok,hp3,sb'⟩
   |false=>
    refine hM _ _ (seq λM hM=>?_);simp_arith![ends];cases hk5:decide ((kd:Int) < 5) with
    |true=>
     simp_arith[h1];refine bL hp3 (by omega) (by omega) λat' G4 hat hp4 sb4=>?_;refine bL hp4 (by decide) (by decide) λs G5 hs hp5 sb5=>?_;obtain ⟨c,e,fc⟩:=aaw hs;have c1:=Ef f none (some (at':Int));have c2:=Ef f (some ((at':Int)+1)) none;have f1:=fok.1;simp_arith[e,List.length_append];exact ⟨by have hsz:sz=1000000:=rfl;omega,by have hsz:sz=1000000:=rfl;omega,p,w,x,_,rfl,rfl,aaC fok (by omega) fc,hp5,sb'.trans (sb4.trans sb5)⟩
    |false=>
     simp_arith[ends];refine hM _ _ (seq λM hM=>?_);have f1:=fok.1;simp_arith[h3];cases hk6:((kd:Int)==5) with
     |true=>
      refine Kc hp3 fok.2 (by omega) λm G4 hm hp4 sb4=>?_;rw[f1]at hm;exact ⟨p,w,x,m,rfl,rfl,hm,hp4,sb'.trans sb4⟩
     |false=>
      refine hM _ _ ?_;simp_arith[h4];refine Kc hp3 fok.2 (by omega) λm G4 hm hp4 sb4=>?_;rw[f1]at hm;exact ⟨p,w,x,m,rfl,rfl,hm,hp4,sb'.trans sb4⟩
def okD(l:List Nat):Prop:=1<=l.length/\l.length<=8/\∀c∈l,97<=c/\c<=122
theorem aaE{p:Addr}{n:Nat}{cs:List Nat}{G:DH}{k:D->DH->Prop}{E:EK}(hp:Pen G p)(hn:n<=1000)(h1:cs≠[])(h2:cs.length<=1000)(hk:∀(l:List Nat)(G':DH),l.length=n->(∀c∈l,c∈cs)->Pen G' p->Sb p G G'->k (.str l) G'):lq.t [.ref p,.int n,.str cs] G k E:=by refine bY ⟨p,n,cs,rfl,hp,hn,h1,h2⟩ λd G' hx=>?_;obtain ⟨p2,n2,cs2,l,e1,e2,l1,l2,hp',sb⟩:=hx;simp only[List.cons.injEq,D.ref.injEq,D.int.injEq,D.str.injEq,Int.ofNat_inj,and_true]at e1;obtain ⟨rfl,rfl,rfl⟩:=e1;subst e2;exact hk l G' l1 l2 hp' sb
def Kf(ds:List D)(G:DH):Prop:=∃p,∃m:Int,ds=[.ref p,.int m]/\Pen G p/\0 < m/\m<=100
def Kg(ds:List D)(G:DH)(d:D)(G':DH):Prop:=∃p,∃m:Int,∃xs:List (List Nat),ds=[.ref p,.int m]/\d=.lst (xs.map D.str)/\0 < xs.length/\xs.length<=100/\(∀x∈xs,okD x)/\Pen G' p/\Sb p G G'
def rZ:RF.Spec:=bD Kf Kg
def xN:List (List Nat):=[[97],[103,111],[115,116,97,121],[97,98,99,100,101,102,103,104],[110,111,110,101],[121,101,115],[105,110],[111,117,116],[107,101,101,112],[119,111,114,100],[122,122]]
theorem aaF:∀x∈xN,okD x:=by
 have h:∀x∈xN,1<=x.length/\x.length<=8/\∀c∈x,97<=c/\c<=122:=by decide
 exact h
theorem Kh{c:Nat}(h:c∈[97,98,99,100,101,102,103,104,105,106,107,108,109,110,111,112,113,114,115,116,117,118,119,120,121,122]):97<=c/\c<=122:=by
 have:∀c∈[97,98,99,100,101,102,103,104,105,106,107,108,109,110,111,112,113,114,115,116,117,118,119,120,121,122],97<=c/\c<=122:=by decide
 exact this c h
theorem aaG (Φ:aa) (h1:Φ "_law_take"=dg) (h2:Φ "_law_signs"=lq) (ds:List D) (G:DH) (h:Kf ds G):au Φ wM noE (env0 ds 4) G (ends (Kg ds G)):=by
 obtain ⟨p,m,rfl,hp,m1,m2⟩:=h;simp_all_arith[wM];refine seq λM hM=>?_;simp_arith[ends];refine ⟨by decide,hM _ _ ?_⟩;refine (λtail=>tail xN rfl aaF) (?_:∀xs:List (List Nat),xs.length=11->(∀x∈xs,okD x)->au Φ _ noE [some (.ref p),some (.int m),some (.lst (xs.map D.str)),none,none,none] G _);intro xs x1 x2;refine seq λM hM=>?_;simp_arith[h1];refine bL hp (by decide) (by decide) λt G2 ht hp2 sb2=>?_;refine hM _ _ (seq λM hM=>?_);simp_arith[h1];refine bL hp2 (by omega) (by omega) λr G3 hr hp3 sb3=>?_;simp_arith[ends];refine ⟨by omega,?_⟩;refine CompG.inv (P:=λi acc ρ G'=>(∃o,ρ=[o,some (.lst (xs.map D.str)),some (.int t)])/\G'=G3/\∃ys:List (List Nat),acc=ys.map D.str/\ys.length=i/\∀y∈ys,okD y) ⟨⟨_,rfl⟩,rfl,[],rfl,rfl,by simp⟩ (λ_ _ _ _ _=>trivial) (by simp[aR];have hsz:sz=1000000:=rfl;omega) ?_ ?_
 ·rintro i d acc ρ G' hd ⟨⟨o,rfl⟩,rfl,ys,rfl,y1,y2⟩ kk hk;unfold aR at hd;rw[List.getElem?_map]at hd;obtain ⟨j,hj,rfl⟩:=Option.map_eq_some_iff.mp hd;simp_arith[ends];have q0:0<=((t:Int)+3 * (0+(j:Int))) % 11:=Int.emod_nonneg _ (by decide);have q1:((t:Int)+3 * (0+(j:Int))) % 11 < 11:=Int.emod_lt_of_pos _ (by decide);refine ⟨xu (by decide),by decide,wD q0 (by rw[List.length_map,x1];exact q1) λa ha=>?_⟩;obtain ⟨x,hx,rfl⟩:=List.mem_map.mp ha;refine hk _ _ _ ⟨⟨_,rfl⟩,rfl,ys++[x],by simp,by simp[y1],λy hy=>?_⟩;rcases List.mem_append.mp hy with h |h
  ·exact y2 y h
  ·rw[List.mem_singleton.mp h];exact x2 x hx
 ·rintro acc ρ G' ⟨_,rfl,ys,rfl,y1,y2⟩;have hy:ys.length=r+1:=by rw[y1];simp[aR];omega
  refine hM _ _ (seq λM hM=>?_);simp_arith[h1];refine bL hp3 (by decide) (by decide) λq G4 hq hp4 sb4=>?_;have sb':=sb2.trans (sb3.trans sb4);simp_arith[ends];cases hq0:((q:Int)==0) with
  |false=>
   refine hM _ _ ?_;simp_arith[ends];exact ⟨p,m,ys,rfl,rfl,by omega,by omega,y2,hp4,sb'⟩
  |true=>
   simp_arith[ends];refine CompG.inv (P:=λi acc ρ G'=>(∃o,ρ=[o,some (.ref p),some (.str [97,98,99,100,101,102,103,104,105,106,107,108,109,110,111,112,113,114,115,116,117,118,119,120,121,122])])/\Pen G' p/\Sb p G G'/\∃zs:List (List Nat),acc=zs.map D.str/\zs.length=i/\∀z∈zs,okD z) ⟨⟨_,rfl⟩,hp4,sb',[],rfl,rfl,by simp⟩ (λ_ _ _ _ _=>trivial) (by simp;have hsz:sz=1000000:=rfl;omega) ?_ ?_
   ·rintro i d acc ρ G' hd ⟨⟨o,rfl⟩,hp5,sb5,zs,rfl,z1,z2⟩ kk hk;simp_arith[h1,h2];refine bL hp5 (by decide) (by decide) λn G6 hn hp6 sb6=>?_;simp_arith[ends];rw[show (1:Int)+(n:Int)=((n+1:Nat):Int) by omega];refine aaE hp6 (by omega) (by simp) (by simp) λl G7 l1 l2 hp7 sb7=>?_;refine hk _ _ _ ⟨⟨_,rfl⟩,hp7,sb5.trans (sb6.trans sb7),zs++[l],by simp,by simp[z1],λz hz=>?_⟩;rcases List.mem_append.mp hz with h |h
    ·exact z2 z h
    ·rw[List.mem_singleton.mp h];exact ⟨by omega,by omega,λc hc=>Kh (l2 c hc)⟩
   ·rintro acc ρ G' ⟨_,hp5,sb5,zs,rfl,z1,z2⟩;rw[List.length_map]at z1;refine hM _ _ ?_;simp_arith[ends];exact ⟨p,m,zs,rfl,rfl,by omega,by omega,z2,hp5,sb5⟩
abbrev Row:=List Nat×List Nat
def aH(r:Row):D:=.tup [.str r.1,.str r.2]
def aq(w:Nat)(rs:List Row):D:=.tup [.int w,.tup (rs.map aH)]
structure okB(w:Nat)(rs:List Row):Prop where
 w1:1<=w
 w6:w<=6
 len:rs.length<=12
 form:∀r∈rs,okF w r.1
 deed:∀r∈rs,okD r.2
def Kl(ds:List D)(G:DH):Prop:=∃p,∃w m:Nat,ds=[.ref p,.int w,.int m]/\Pen G p/\1<=w/\w<=6/\m<=12
def Km(ds:List D)(G:DH)(d:D)(G':DH):Prop:=∃p,∃w m v:Nat,∃rs:List Row,ds=[.ref p,.int w,.int m]/\d=aq v rs/\okB v rs/\v<=w/\rs.length<=m/\Pen G' p/\Sb p G G'
def sr:RF.Spec:=bD Kl Km
theorem aaH{p:Addr}{w m:Nat}{G:DH}{k:D->DH->Prop}{E:EK}(hp:Pen G p)(h1:1<=w)(h2:w<=6)(h3:m<=12)(hk:∀(v:Nat)(rs:List Row)(G':DH),okB v rs->v<=w->rs.length<=m->Pen G' p->Sb p G G'->k (aq v rs) G'):sr.t [.ref p,.int w,.int m] G k E:=by refine bY ⟨p,w,m,rfl,hp,h1,h2,h3⟩ λd G' hx=>?_;obtain ⟨p2,w2,m2,v,rs,e1,e2,o,q1,q2,hp',sb⟩:=hx;simp only[List.cons.injEq,D.ref.injEq,D.int.injEq,Int.ofNat_inj,and_true]at e1;obtain ⟨rfl,rfl,rfl⟩:=e1;subst e2;exact hk v rs G' o q1 q2 hp' sb
theorem aaI{p:Addr}{m:Int}{G:DH}{k:D->DH->Prop}{E:EK}(hp:Pen G p)(h1:0 < m)(h2:m<=100)(hk:∀(xs:List (List Nat))(G':DH),0 < xs.length->xs.length<=100->(∀x∈xs,okD x)->Pen G' p->Sb p G G'->k (.lst (xs.map D.str)) G'):rZ.t [.ref p,.int m] G k E:=by refine bY ⟨p,m,rfl,hp,h1,h2⟩ λd G' hx=>?_;obtain ⟨p2,m2,xs,e1,e2,q1,q2,q3,hp',sb⟩:=hx;cases e1;subst e2;exact hk xs G' q1 q2 q3 hp' sb
theorem zy{α:Type}{l:List α}{a:α}:atI (l++[a]) (-1)=some a:=by unfold atI ixN;rw[if_neg (by decide),if_pos (by simp;omega),List.length_append,List.length_singleton,show (-1+((l.length+1:Nat):Int)).toNat=l.length by omega];simp
theorem aaJ (Φ:aa) (h1:Φ "_law_take"=dg) (h2:Φ "_law_deeds_of"=rZ) (h3:Φ "_law_form_like"=rY) (ds:List D) (G:DH) (h:Kl ds G):au Φ wU noE (env0 ds 5) G (ends (Km ds G)):=by
 obtain ⟨p,w,m,rfl,hp,w1,w2,m1⟩:=h;simp_all_arith[wU];refine seq λM hM=>?_;simp_arith[h1];refine bL hp (by omega) (by omega) λn G2 hn hp2 sb2=>?_;simp_arith[ends];rw[show (1:Int)+(n:Int)=((n+1:Nat):Int) by omega];refine hM _ _ (seq λM hM=>?_);simp_arith[h2];refine aaI hp2 (by decide) (by decide) λxs G3 x1 x2 x3 hp3 sb3=>?_;refine hM _ _ (seq λM hM=>?_);simp_arith[ends];refine λq hq=>hM _ _ (seq λM hM=>?_);simp_arith[ends];refine λs hs=>hM _ _ (seq λM hM=>?_);have hqs:q≠s:=by rintro rfl;rw[bx]at hs;cases hs
 have hs3:G3 s=none:=by rw[cT (Ne.symm hqs)]at hs;exact hs
 have npq:p≠q:=hp3.ne hq;have nps:p≠s:=hp3.ne hs3;have sa4:Sa G3 (aV (aV G3 q (.lst [])) s (.lst [])):=(Sa.new hq).trans (Sa.new hs);have hp4:=hp3.sa sa4;simp_arith![h1];refine bL hp4 (by omega) (by omega) λr G5 hr hp5 sb5=>?_;simp_arith![ends];refine ⟨by omega,?_⟩;refine ForG.inv (P:=λi ρ G'=>(∃o,ρ=[some (.ref p),some (.int w),some (.int m),some (.int ((n+1:Nat):Int)),some (.lst (xs.map D.str)),some (.ref q),some (.ref s),o])/\Pen G' p/\Sb p G G'/\
   ∃rs:List Row,G' q=some (.lst ((rs.map (·.1)).map D.str))/\G' s=some (.lst (rs.map aH))/\rs.length=i/\(∀r∈rs,okF (n+1) r.1)/\∀r∈rs,okD r.2) ⟨⟨_,rfl⟩,hp5,sb2.trans (sb3.trans (sa4.sb.trans sb5)),[],?_,?_,rfl,by simp,by simp⟩ (λ_ _ _ _=>trivial) ?_ ?_
 ·exact sb5 q _ (by rw[cT hqs];exact bx) (Ne.symm npq)
 ·exact sb5 s _ bx (Ne.symm nps)
 ·rintro i d ρ G' hd ⟨⟨o,rfl⟩,hp6,sb6,rs,g1,g2,r1,r2,r3⟩ kk hk;have hi:i < r:=by
   have:=(List.getElem?_eq_some_iff.mp hd).1;simpa [aR] using this
  simp_arith![ends];refine seq λM hM=>?_;simp_arith[h3,b8 g1];refine aaz (fs:=rs.map (·.1)) hp6 (by omega) (by omega) (eF g1) (by simp;omega) (λf hf=>?_) λf G7 hf hp7 sb7=>?_
  ·obtain ⟨r',hr',rfl⟩:=List.mem_map.mp hf;exact r2 r' hr'
  have g1':=sb7 q _ g1 (Ne.symm npq);have g2':=sb7 s _ g2 (Ne.symm nps);simp_arith[b8 g1'];refine ⟨by simp;have hsz:sz=1000000:=rfl;omega,hM _ _ (last ?_)⟩;have e2:aV G7 q (.lst ((rs.map (·.1)).map D.str++[.str f])) s=some (.lst (rs.map aH)):=by rw[cT (Ne.symm hqs)];exact g2'
  have hp8:Pen (aV G7 q (.lst ((rs.map (·.1)).map D.str++[.str f]))) p:=hp7.sb Sb.upd npq;simp_arith[h1,b8 e2,eF bx,zy,List.length_map];refine bL hp8 (by omega) (by omega) λt G9 ht hp9 sb9=>?_;have e1':=sb9 q _ bx (Ne.symm npq);have e2':=sb9 s _ e2 (Ne.symm nps);simp_arith[b8 e2'];refine wD (by omega) (by simp;omega) λx hx=>?_;obtain ⟨dd,hdd,rfl⟩:=List.mem_map.mp hx;refine ⟨by decide,by simp;have hsz:sz=1000000:=rfl;omega,hk _ _ ⟨⟨_,rfl⟩,hp9.sb Sb.upd nps,?_,rs++[(f,dd)],?_,?_,by simp[r1],?_,?_⟩⟩
  ·intro b ob hb nb;by_cases hbs:b=s
   ·subst hbs;exfalso;have z:=sb2 b _ hb nb;have z:=sb3 b _ z nb;rw[hs3]at z;cases z
   ·by_cases hbq:b=q
    ·subst hbq;exfalso;have z:=sb2 b _ hb nb;have z:=sb3 b _ z nb;rw[hq]at z;cases z
    ·rw[cT hbs];exact sb9 b _ (by rw[cT hbq];exact sb7 b _ (sb6 b _ hb nb) nb) nb
  ·rw[cT hqs,e1'];simp
  ·rw[bx];simp[aH]
  ·intro r' hr';rcases List.mem_append.mp hr' with h |h
   ·exact r2 r' h
   ·rw[List.mem_singleton.mp h];exact hf
  ·intro r' hr';rcases List.mem_append.mp hr' with h |h
   ·exact r3 r' h
   ·rw[List.mem_singleton.mp h];exact x3 dd hdd
 ·rintro ρ G' ⟨⟨o,rfl⟩,hp6,sb6,rs,g1,g2,r1,r2,r3⟩;have hl:rs.length=r:=by rw[r1];simp[aR]
  refine hM _ _ ?_;simp_arith[eF g2];exact ⟨by decide,p,w,m,n+1,rs,rfl,rfl,⟨by omega,by omega,by omega,r2,r3⟩,by omega,by omega,hp6,sb6⟩
def alt(c:Nat):List Nat:=if c=42 then [48,49] else [c]
def step1(acc:List (List Nat))(c:Nat):List (List Nat):=acc.flatMap λt=>(alt c).map λs=>t++[s]
def bu(f:List Nat):List (List Nat):=f.foldl step1 [[]]
def Fits(f w:List Nat):Prop:=f.length=w.length/\∀(i c s:Nat),f[i]?=some c->w[i]?=some s->s∈alt c
theorem xO(f:List Nat)(c:Nat):bu (f++[c])=step1 (bu f) c:=by unfold bu;rw[List.foldl_append];rfl
theorem aaK{acc:List (List Nat)}{c:Nat}{w:List Nat}:w∈step1 acc c↔∃t s,t∈acc/\s∈alt c/\w=t++[s]:=by
 unfold step1;rw[List.mem_flatMap];constructor
 ·rintro ⟨t,ht,h⟩;obtain ⟨s,hs,rfl⟩:=List.mem_map.mp h;exact ⟨t,s,ht,hs,rfl⟩
 ·rintro ⟨t,s,ht,hs,rfl⟩;exact ⟨t,ht,List.mem_map.mpr ⟨s,hs,rfl⟩⟩
theorem xP{f w:List Nat}{c s:Nat}:Fits (f++[c]) (w++[s])↔Fits f w/\s∈alt c:=by
 constructor
 ·rintro ⟨h1,h2⟩;have hl:f.length=w.length:=by simpa using h1
  refine ⟨⟨hl,λi c' s' hc hs=>?_⟩,?_⟩
  ·have i1:=(List.getElem?_eq_some_iff.mp hc).1;exact h2 i c' s' (by rw[List.getElem?_append_left i1];exact hc) (by rw[List.getElem?_append_left (by omega)];exact hs)
  ·exact h2 f.length c s (by simp) (by rw[hl];simp)
 ·rintro ⟨⟨h1,h2⟩,h3⟩;refine ⟨by simp[h1],λi c' s' hc hs=>?_⟩;by_cases hi:i < f.length
  ·rw[List.getElem?_append_left hi]at hc;rw[List.getElem?_append_left (by omega)]at hs;exact h2 i c' s' hc hs
  ·have i2:=(List.getElem?_eq_some_iff.mp hc).1;simp at i2;have e:i=f.length:=by omega
   subst e;simp at hc;rw[h1]at hs;simp at hs;subst hc hs;exact h3
theorem lu{f w:List Nat}:w∈bu f↔Fits f w:=by
 induction f using Eh generalizing w with
 |nil=>
  simp[bu,Fits];constructor
  ·rintro rfl;simp
  ·intro h;exact List.length_eq_zero_iff.mp h.symm
 |snoc f c ih=>
  rw[xO,aaK];constructor
  ·rintro ⟨t,s,ht,hs,rfl⟩;exact xP.mpr ⟨ih.mp ht,hs⟩
  ·intro h;have hl:=h.1;simp at hl;have hne:w≠[]:=by rintro rfl;simp at hl
   refine ⟨w.dropLast,w.getLast hne,?_,?_,(List.dropLast_concat_getLast hne).symm⟩
   ·rw[<-List.dropLast_concat_getLast hne]at h;exact ih.mpr (xP.mp h).1
   ·rw[<-List.dropLast_concat_getLast hne]at h;exact (xP.mp h).2
theorem aaL{f w:List Nat}(h:w∈bu f):w.length=f.length:=(lu.mp h).1.symm
theorem Ko{acc:List (List Nat)}{c:Nat}:(step1 acc c).length<=2 * acc.length:=by
 unfold step1;induction acc with
 |nil=>simp
 |cons a r ih=>
  rw[List.flatMap_cons,List.length_append,List.length_map,List.length_cons];have:(alt c).length<=2:=by unfold alt;split <;> simp
  omega
theorem aaM(f:List Nat):(bu f).length<=2 ^ f.length:=by
 induction f using Eh with
 |nil=>simp[bu]
 |snoc f c ih=>
  rw[xO,List.length_append,List.length_singleton,Nat.pow_succ];have:=@Ko (bu f) c;omega
theorem aaN{a b:List (List Nat)}{c:Nat}:step1 (a++b) c=step1 a c++step1 b c:=by unfold step1;rw[List.flatMap_append]
def Kp(ds:List D)(_:DH):Prop:=∃f:List Nat,ds=[.str f]/\f.length<=12
def Kq(ds:List D)(G:DH)(d:D)(G':DH):Prop:=∃f:List Nat,ds=[.str f]/\d=.lst ((bu f).map D.str)/\Sa G G'
def su:RF.Spec:=bD Kp Kq
theorem aaO{f:List Nat}{G:DH}{k:D->DH->Prop}{E:EK}(h:f.length<=12)(hk:∀G',Sa G G'->k (.lst ((bu f).map D.str)) G'):su.t [.str f] G k E:=by refine bY ⟨f,rfl,h⟩ λd G' hx=>?_;obtain ⟨f2,e1,e2,sa⟩:=hx;cases e1;subst e2;exact hk G' sa
theorem aaP(Φ:aa)(ds:List D)(G:DH)(h:Kp ds G):au Φ wZ noE (env0 ds 4) G (ends (Kq ds G)):=by
 obtain ⟨f,rfl,hf⟩:=h;simp_all_arith[wZ];refine seq λM hM=>?_;simp_arith[ends];refine ⟨by decide,hM _ _ (seq λM hM=>?_)⟩;simp_arith![ends];refine ForG.inv (P:=λi ρ G'=>(∃o2 o3 o4,ρ=[some (.str f),some (.lst ((bu (f.take i)).map D.str)),o2,o3,o4])/\Sa G G') ⟨⟨_,_,_,rfl⟩,Sa.refl G⟩ (λ_ _ _ _=>trivial) ?_ ?_
 ·rintro i d ρ G2 hd ⟨⟨o2,o3,o4,rfl⟩,sa⟩ kk hk;rw[List.getElem?_map]at hd;obtain ⟨c,hc,rfl⟩:=Option.map_eq_some_iff.mp hd;have hi:=(List.getElem?_eq_some_iff.mp hc).1;have ht:f.take (i+1)=f.take i++[c]:=by rw[List.take_add_one,hc];rfl
  have hcard:(bu (f.take i)).length<=4096:=by
   have h1:=aaM (f.take i);have h2:(f.take i).length<=12:=by rw[List.length_take];omega
   have h3:=Nat.pow_le_pow_right (show 0 < 2 by decide) h2;have h4:2 ^ 12=4096:=by decide
   omega
  simp_arith![ends];refine seq λM hM=>?_;simp_arith[ends];refine λq hq=>hM _ _ (seq λM hM=>?_);simp_arith![ends];refine ForG.inv (P:=λj ρ G'=>(∃o4,ρ=[some (.str f),some (.lst ((bu (f.take i)).map D.str)),some (.str [c]),some (.ref q),o4])/\Sa G G'/\G' q=some (.lst ((step1 ((bu (f.take i)).take j) c).map D.str))) ⟨⟨_,rfl⟩,sa.trans (Sa.new hq),bx⟩ (λ_ _ _ _=>trivial) ?_ ?_
  ·rintro j d ρ G3 hd3 ⟨⟨o4,rfl⟩,sa3,g3⟩ kk' hk';rw[List.getElem?_map]at hd3;obtain ⟨t,htt,rfl⟩:=Option.map_eq_some_iff.mp hd3;have hj:=(List.getElem?_eq_some_iff.mp htt).1;have tlen:t.length<=12:=by rw[aaL (List.mem_of_getElem? htt),List.length_take];omega
   have tk:(bu (f.take i)).take (j+1)=(bu (f.take i)).take j++[t]:=by rw[List.take_add_one,htt];rfl
   have st:step1 [t] c=(alt c).map λs=>t++[s]:=by simp[step1]
   have l1:(step1 ((bu (f.take i)).take j) c).length<=8192:=by
    have:=@Ko ((bu (f.take i)).take j) c;have:((bu (f.take i)).take j).length<=4096:=by rw[List.length_take];omega
    omega
   have al2:(alt c).length<=2:=by unfold alt;split <;> simp
   simp_arith![ends];refine last ?_;simp_arith[b8 g3];refine ⟨by decide,?_⟩;have ix:atI [D.str [48,49],D.str [c]] (if (!([c]==[42]))=true then 1 else 0)=some (.str (alt c)):=by
    unfold alt;by_cases h42:c=42
    ·subst h42;rfl
    ·have:([c]==[42])=false:=by simp[h42]
     rw[this,if_neg h42];rfl
   simp_arith[ix];refine CompG.map (f:=λd=>match d with |.str [s]=>.str (t++[s]) |_=>.non) (I:=λρ=>∃o,ρ=[o,some (.str t)]) ⟨_,rfl⟩ trivial (by simp;have hsz:sz=1000000:=rfl;omega) ?_ ?_
   ·rintro d ρ hd ⟨o,rfl⟩ kk2 hk2;obtain ⟨s,_,rfl⟩:=List.mem_map.mp hd;simp_arith[ends];exact ⟨by have hsz:sz=1000000:=rfl;omega,hk2 _ ⟨_,rfl⟩⟩
   ·rw[List.map_map];simp_arith[Function.comp_def,b8 g3,List.length_map];refine ⟨by have hsz:sz=1000000:=rfl;omega,hk' _ _ ⟨⟨_,rfl⟩,?_,?_⟩⟩
    ·intro b ob hb;by_cases hbq:b=q
     ·subst hbq;exfalso;have:=sa b _ hb;rw[hq]at this;cases this
     ·rw[cT hbq];exact sa3 b _ hb
    ·rw[bx,tk,aaN,st,List.map_append,List.map_map];rfl
  ·rintro ρ G3 ⟨⟨o4,rfl⟩,sa3,g3⟩;rw[List.length_map,List.take_length]at g3;refine hM _ _ (last ?_);simp_arith[g3];refine hk _ _ ⟨⟨_,_,_,by rw[ht,xO]⟩,?_⟩;intro b ob hb;have hbq:b≠q:=by
    rintro rfl;have:=sa b _ hb;rw[hq]at this;cases this
   rw[oR hbq];exact sa3 b _ hb
 ·rintro ρ G2 ⟨⟨o2,o3,o4,rfl⟩,sa⟩;rw[List.length_map,List.take_length];refine hM _ _ ?_;simp_arith[ends];exact ⟨f,rfl,rfl,sa⟩
def letters:List Nat:=[97,98,99,100,101,102,103,104,105,106,107,108,109,110,111,112,113,114,115,116,117,118,119,120,121,122]
theorem aaQ:∀c:Fin 123,97<=c.1->letters.contains c.1=true:=by decide
theorem aaR{c:Nat}:letters.contains c=true↔97<=c/\c<=122:=
 ⟨λh=>Kh (List.contains_iff_mem.mp h),λ⟨h1,h2⟩=>aaQ ⟨c,Nat.lt_succ_of_le h2⟩ h1⟩
def okW(w:Nat)(l:List Nat):Prop:=l.length=w/\∀c∈l,c=48\/c=49
theorem xQ{α:Type}(l:List α):bools (l.map λ_=>D.bl true)=some (l.map λ_=>true):=wA _ l
theorem xR{α:Type}(l:List α):(l.map λ_=>true).all id=true:=List.all_eq_true.mpr λx hx=>by obtain ⟨_,_,rfl⟩:=List.mem_map.mp hx;rfl
def xT:RF.Spec:=bF (λa:List Nat×List Nat=>[.str a.1,.int a.2.length,.str a.2]) (λa=>a.2.length<=1000/\∀c∈a.2,a.1.contains c=true) (λ_=>.bl true)
theorem aaS(Φ:aa)(a:List Nat×List Nat)(G:DH)(h:a.2.length<=1000/\∀c∈a.2,a.1.contains c=true):au Φ jU noE (env0 [.str a.1,.int a.2.length,.str a.2] 0) G (ends λd G'=>G'=G/\d=.bl true):=by
 obtain ⟨s,l⟩:=a;obtain ⟨h1,h2⟩:=h;dsimp only at h1 h2;simp_arith[jU,BEq.rfl];refine CompG.map (f:=λ_=>.bl true) (I:=λρ=>∃o,ρ=[o,some (.str s)]) ⟨_,rfl⟩ trivial (by simp;have hsz:sz=1000000:=rfl;omega) ?_ ?_
 ·rintro d ρ hd ⟨o,rfl⟩ kk hk;obtain ⟨c,hc,rfl⟩:=List.mem_map.mp hd;simp_arith[h2 c hc];exact hk _ ⟨_,rfl⟩
 ·simp_arith[xQ,xR]
def xU:RF.Spec:=bF (λl:List Nat=>[.int l.length,.str l]) (λl=>l.length<=1000/\∀c∈l,isF c) (λ_=>.bl true)
theorem aaT (Φ:aa) (h1:Φ "is_text_of"=xT) (l:List Nat) (G:DH) (h:l.length<=1000/\∀c∈l,isF c):au Φ jV noE (env0 [.int l.length,.str l] 0) G (ends λd G'=>G'=G/\d=.bl true):=by simp_arith[jV,h1];exact bM ([48,49,42],l) rfl ⟨h.1,λc hc=>by rcases h.2 c hc with rfl |rfl |rfl <;> rfl⟩ ⟨rfl,rfl⟩
def xV:RF.Spec:=bF (λl:List Nat=>[.str l]) okD (λ_=>.bl true)
theorem aaU(Φ:aa)(l:List Nat)(G:DH)(h:okD l):au Φ jT noE (env0 [.str l] 0) G (ends λd G'=>G'=G/\d=.bl true):=by
 obtain ⟨h1,h2,h3⟩:=h;have b1:decide ((1:Int)<=(l.length:Int))=true:=decide_eq_true (by omega);have b2:decide ((l.length:Int)<=8)=true:=decide_eq_true (by omega);simp_arith[jT,b1,b2];refine CompG.map (f:=λ_=>.bl true) (I:=λρ=>∃o,ρ=[o]) ⟨_,rfl⟩ trivial (by simp;have hsz:sz=1000000:=rfl;omega) ?_ ?_
 ·rintro d ρ hd ⟨o,rfl⟩ kk hk;obtain ⟨c,hc,rfl⟩:=List.mem_map.mp hd;have hcl:[97,98,99,100,101,102,103,104,105,106,107,108,109,110,111,112,113,114,115,116,117,118,119,120,121,122].contains c=true:=aaR.mpr (h3 c hc);simp_arith[hcl];exact hk _ ⟨_,rfl⟩
 ·simp_arith[xQ,xR]
def xW:RF.Spec:=bF (λa:Nat×Row=>[.int a.1,aH a.2]) (λa=>a.1<=6/\okF a.1 a.2.1/\okD a.2.2) (λ_=>.bl true)
theorem aaV (Φ:aa) (h1:Φ "is_form"=xU) (h2:Φ "is_deed"=xV) (a:Nat×Row) (G:DH) (h:a.1<=6/\okF a.1 a.2.1/\okD a.2.2):au Φ jW noE (env0 [.int a.1,aH a.2] 0) G (ends λd G'=>G'=G/\d=.bl true):=by obtain ⟨w,f,d⟩:=a;obtain ⟨hw,hf,hd⟩:=h;dsimp only at hw hf hd;simp_arith[jW,aH,h1,h2];simp_arith[show ((0+1+1:Nat):Int)=2 from rfl,BEq.rfl];refine bM f (by rw[hf.1]) ⟨by rw[hf.1];omega,hf.2⟩ ?_;simp_arith[ends];exact bM d rfl hd ⟨rfl,rfl⟩
def xX:RF.Spec:=bF (λw:Nat=>[.int w]) (λw=>1<=w/\w<=6) (λ_=>.bl true)
theorem aaW (Φ:aa) (h1:Φ "is_whole"=aP gU) (w:Nat) (G:DH) (h:1<=w/\w<=6):au Φ jY noE (env0 [.int w] 0) G (ends λd G'=>G'=G/\d=.bl true):=by have b1:decide ((1:Int)<=(w:Int))=true:=decide_eq_true (by omega);have b2:decide ((w:Int)<=6)=true:=decide_eq_true (by omega);simp_arith[jY,h1];refine du (d:=.bl true) rfl ?_;simp_arith[b1,b2]
def xY:RF.Spec:=bF (λa:Nat×List Row=>[aq a.1 a.2]) (λa=>okB a.1 a.2) (λ_=>.bl true)
theorem aaX (Φ:aa) (h1:Φ "is_width"=xX) (h2:Φ "is_row"=xW) (a:Nat×List Row) (G:DH) (h:okB a.1 a.2):au Φ jZ noE (env0 [aq a.1 a.2] 2) G (ends λd G'=>G'=G/\d=.bl true):=by
 obtain ⟨w,rs⟩:=a;dsimp only at h ⊢;have hlen:=h.len;simp_all_arith[jZ,aq];refine seq λM hM=>?_;simp_arith[ends];simp_arith[show ((0+1+1:Nat):Int)=2 from rfl,BEq.rfl];refine hM _ _ (seq λM hM=>?_);simp_arith[ends];refine hM _ _ (seq λM hM=>?_);simp_arith[h1];refine bM w rfl ⟨h.w1,h.w6⟩ ?_;have hd:decide ((12:Int) < ((rs.map aH).length:Int))=false:=decide_eq_false (by rw[List.length_map];omega);simp_arith[hd];refine hM _ _ ?_;simp_arith[ends];refine CompG.map (f:=λ_=>.bl true) (I:=λρ=>∃o,ρ=[o,some (.int w)]) ⟨_,rfl⟩ trivial (by rw[List.length_map];have hsz:sz=1000000:=rfl;omega) ?_ ?_
 ·rintro d ρ hd ⟨o,rfl⟩ kk hk;obtain ⟨r,hr,rfl⟩:=List.mem_map.mp hd;simp_arith[h2];exact bM (w,r) rfl ⟨h.w6,h.form r hr,h.deed r hr⟩ (hk _ ⟨_,rfl⟩)
 ·simp_arith[xQ,xR]
def jf:RF.Spec:=bF (λa:Nat×List Row=>[aq a.1 a.2]) (λa=>okB a.1 a.2) (λ_=>.non)
theorem sy{w:Nat}{rs:List Row}{G:DH}{k:D->DH->Prop}{E:EK}(h:okB w rs)(hk:k .non G):jf.t [aq w rs] G k E:=bM (w,rs) rfl h hk
theorem aaY (Φ:aa) (h1:Φ "is_book"=xY) (a:Nat×List Row) (G:DH) (h:okB a.1 a.2):au Φ j0 noE (env0 [aq a.1 a.2] 0) G (ends λd G'=>G'=G/\d=.non):=by simp_arith[j0,h1];refine bM a rfl h ?_;simp_arith[ends]
def lw(c s:Nat):Bool:=c==42||c==s
def cL:List Nat->List Nat->Bool
 |c::f,s::w=>lw c s&&cL f w
 |_,_=>true
def fX(f w:List Nat):Bool:=decide (f.length=w.length)&&cL f w
theorem xZ:∀(f w:List Nat),bU (f.map λc=>D.str [c]) (w.map λc=>D.str [c])=(f.zip w).map λp=>D.tup [.str [p.1],.str [p.2]]
 |[],w=>by simp[bU]
 |c::f,[]=>by simp[bU]
 |c::f,s::w=>by simp[bU,xZ f w]
theorem fY{c s:Nat}:(([c]==[s]):Bool)=(c==s):=by
 by_cases h:c=s
 ·subst h;simp
 ·rw[beq_eq_false_iff_ne.mpr h,beq_eq_false_iff_ne.mpr (by simp[h])]
theorem Kr{c s:Nat}(hs:s=48\/s=49):lw c s=true↔s∈alt c:=by
 unfold lw alt;by_cases h:c=42
 ·subst h;simp;rcases hs with rfl |rfl <;> simp
 ·simp[h];exact eq_comm
def aZ(rs:List Row)(w:List Nat):Option Nat:=rs.findIdx? λr=>fX r.1 w
def aN:Option Nat->D
 |some n=>.int n
 |none=>.non
theorem Ks{w v:Nat}{rs ss:List Row}(h:aq w rs=aq v ss):w=v/\rs=ss:=by
 unfold aq at h;simp only[D.tup.injEq,List.cons.injEq,D.int.injEq,Int.ofNat_inj,and_true]at h;refine ⟨h.1,?_⟩;have h2:=h.2;clear h;induction rs generalizing ss with
 |nil=>cases ss with
  |nil=>rfl
  |cons _ _=>simp at h2
 |cons r rs ih=>cases ss with
  |nil=>simp at h2
  |cons s ss=>
   simp only[List.map_cons,List.cons.injEq]at h2;have e:r=s:=by have:=h2.1;unfold aH at this;simp only[D.tup.injEq,List.cons.injEq,D.str.injEq,and_true]at this;exact Prod.ext this.1 this.2
   rw[e,ih h2.2]
theorem aaZ{rs:List Row}{l:List Nat}{i:Nat}{r:Row}(h:rs[i]?=some r):aZ (rs.drop i) l=if fX r.1 l then some 0 else (aZ (rs.drop (i+1)) l).map (·+1):=by
 have hi:=(List.getElem?_eq_some_iff.mp h).1;have e:rs.drop i=r::rs.drop (i+1):=by rw[List.drop_eq_getElem_cons hi];rw[(List.getElem?_eq_some_iff.mp h).2]
 rw[e];unfold aZ;rw[List.findIdx?_cons]
def jg(rs:List Row):Option Nat->D
 |some n=>match rs[n]? with |some r=>.str r.2 |none=>.non
 |none=>.non
theorem aa0{rs:List Row}{l:List Nat}{n:Nat}(h:aZ rs l=some n):n < rs.length:=by unfold aZ at h;exact (List.findIdx?_eq_some_iff_findIdx_eq.mp h).1
def sE:RF.Spec:=bD (λds _=>∃w rs o,ds=[aq w rs,aN o]/\∀n,o=some n->n < rs.length) (λds G d G'=>G'=G/\∃w rs o,ds=[aq w rs,aN o]/\d=jg rs o)
theorem aa1{a b:Option Nat}(h:aN a=aN b):a=b:=by cases a <;> cases b <;> simp[aN]at h ⊢ <;> omega
theorem Ku{w:Nat}{rs:List Row}{o:Option Nat}{G:DH}{k:D->DH->Prop}{E:EK}(h:∀n,o=some n->n < rs.length)(hk:k (jg rs o) G):sE.t [aq w rs,aN o] G k E:=by refine bY ⟨w,rs,o,rfl,h⟩ λd G' hx=>?_;obtain ⟨e1,w2,rs2,o2,e2,e3⟩:=hx;simp only[List.cons.injEq,and_true]at e2;obtain ⟨e2,e4⟩:=e2;obtain ⟨rfl,rfl⟩:=Ks e2;cases aa1 e4;subst e1 e3;exact hk
theorem aa2(Φ:aa)(ds:List D)(G:DH)(h:∃w rs o,ds=[aq w rs,aN o]/\∀n,o=some n->n < rs.length):au Φ je noE (env0 ds 0) G (ends λd G'=>G'=G/\∃w rs o,ds=[aq w rs,aN o]/\d=jg rs o):=by
 obtain ⟨w,rs,o,rfl,ho⟩:=h;cases o with
 |none=>
  simp_arith[je,aN];exact ⟨w,rs,none,rfl,rfl⟩
 |some n=>
  have hn:=ho n rfl;simp_arith[je,aN,aq];refine bZ (a:=aH rs[n]) (bO (by simp[hn])) ?_;simp_arith[aH];exact ⟨w,rs,some n,rfl,by simp[jg,hn]⟩
theorem lz{α β:Type}(f:α->β)(l:List α)(n:Nat):cut (l.map f) none (some (n:Int))=(l.take n).map f:=by rw[wB,List.map_take]
theorem lA{α β:Type}(f:α->β)(l:List α)(n:Nat):cut (l.map f) (some (n:Int)) none=(l.drop n).map f:=by rw[wC,List.map_drop]
theorem okB.sub{w:Nat}{rs ss:List Row}(h:okB w rs)(hl:ss.length<=rs.length)(hs:∀r∈ss,r∈rs):okB w ss:=
 ⟨h.w1,h.w6,Nat.le_trans hl h.len,λr hr=>h.form r (hs r hr),λr hr=>h.deed r (hs r hr)⟩
theorem Kv(c:Nat)(n:Nat):reps [c] n=List.replicate n c:=by
 unfold reps;induction n with
 |zero=>rfl
 |succ n ih=>rw[List.replicate_succ,List.flatten_cons,ih,List.replicate_succ];rfl
theorem aa3(w:Nat):okF w (List.replicate w 42):=⟨List.length_replicate,λc hc=>.inr (.inr (List.eq_of_mem_replicate hc))⟩
theorem aa4{w:Nat}{l:List Nat}:Fits (List.replicate w 42) l↔okW w l:=by
 constructor
 ·rintro ⟨h1,h2⟩;rw[List.length_replicate]at h1;refine ⟨h1.symm,λc hc=>?_⟩;obtain ⟨i,hi,rfl⟩:=List.getElem_of_mem hc;have:=h2 i 42 l[i] (by rw[List.getElem?_replicate];rw[if_pos (by omega)]) (by simp[hi]);simpa [alt] using this
 ·rintro ⟨h1,h2⟩;refine ⟨by rw[List.length_replicate,h1],λi c s hc hs=>?_⟩;rw[List.getElem?_replicate]at hc;split at hc
  ·cases hc;have:=h2 s (List.mem_of_getElem? hs);simpa [alt] using this
  ·cases hc
theorem aa5{p:Addr}{G:DH}{k:D->DH->Prop}{E:EK}(hp:Pen G p)(hk:∀G',Pen G' p->Sb p G G'->k (.ref p) G'):rW.t [.ref p] G k E:=
 bY ⟨p,rfl,hp⟩ λd G' hx=>by obtain ⟨p2,e1,e2,hp',sb⟩:=hx;cases e1;subst e2;exact hk G' hp' sb
def dM(a b:Nat):Option Nat:=if a=42 then some b else if b=42\/b=a then some a else none
def cB:List Nat->List Nat->Option (List Nat)
 |a::f,b::g=>match dM a b with |some c=>(cB f g).map (c::·) |none=>none
 |_,_=>some []
def bG:Option (List Nat)->D
 |some l=>.str l
 |none=>.non
def lB:List D->Option D
 |[.str f,.str g]=>if decide (f.length<=100000) then some (bG (cB f g)) else none
 |_=>none
theorem aa6{f g:List Nat}{i a b:Nat}(h:(f.zip g)[i]?=some (a,b)):cB (f.drop i) (g.drop i)=match dM a b with |some c=>(cB (f.drop (i+1)) (g.drop (i+1))).map (c::·) |none=>none:=by
 have hz:=List.getElem?_eq_some_iff.mp h;obtain ⟨hl,he⟩:=hz;rw[List.length_zip]at hl;have h1:i < f.length:=by omega
 have h2:i < g.length:=by omega
 rw[List.getElem_zip]at he;rw[List.drop_eq_getElem_cons h1,List.drop_eq_getElem_cons h2];simp only[Prod.mk.injEq]at he;rw[he.1,he.2];rfl
theorem aa7{f g:List Nat}:cB (f.drop (f.zip g).length) (g.drop (f.zip g).length)=some []:=by
 rw[List.length_zip];by_cases h:f.length<=g.length
 ·rw[Nat.min_eq_left h,List.drop_length];cases g.drop f.length <;> rfl
 ·rw[Nat.min_eq_right (by omega),List.drop_length];cases f.drop g.length <;> rfl
theorem aa8(Φ:aa)(ds:List D)(G:DH)(d:D)(h:lB ds=some d):au Φ j8 noE (env0 ds 3) G (ends λd' G'=>G'=G/\d'=d):=by
 unfold lB at h;split at h
 ·rename_i f g;split at h
  ·rename_i hl;have hl:=of_decide_eq_true hl;cases h;simp_all_arith[j8];refine seq λM hM=>?_;simp_arith[ends];refine hM _ _ (seq λM hM=>?_);simp_arith![xZ];refine ForG.inv (P:=λi ρ G'=>(∃o3 o4 m,ρ=[some (.str f),some (.str g),some (.str m),o3,o4]/\m.length=i/\cB f g=(cB (f.drop i) (g.drop i)).map (m ++ ·))/\G'=G) ⟨⟨_,_,[],rfl,rfl,by simp⟩,rfl⟩ (λ_ _ _ _=>trivial) ?_ ?_
   ·rintro i d ρ G' hd ⟨⟨o3,o4,m,rfl,hm,hb⟩,rfl⟩ kk hk;rw[List.getElem?_map]at hd;obtain ⟨⟨a,b⟩,hab,rfl⟩:=Option.map_eq_some_iff.mp hd;have hi:=(List.getElem?_eq_some_iff.mp hab).1;rw[List.length_zip]at hi;rw[aa6 hab]at hb;simp_arith![ends];refine last ?_;have put:∀(c:Nat)(o3 o4:Option D),dM a b=some c->m.length+1<=sz/\kk [some (.str f),some (.str g),some (.str (m++[c])),o3,o4] G':=by
     intro c o3 o4 hc;rw[hc]at hb;refine ⟨by have hsz:sz=1000000:=rfl;omega,hk _ _ ⟨⟨_,_,_,rfl,by simp[hm],?_⟩,rfl⟩⟩;rw[hb,Option.map_map];congr 1;funext x;simp
    simp_arith[fY];by_cases h42:a=42
    ·have:((a==42):Bool)=true:=by simp[h42]
     simp_arith[this];exact put b _ _ (if_pos h42)
    ·have h0:((a==42):Bool)=false:=by simp[h42]
     simp_arith[h0,fY];by_cases hb42:b=42
     ·have:((b==42):Bool)=true:=by simp[hb42]
      simp_arith[this];exact put a _ _ (by unfold dM;rw[if_neg h42,if_pos (.inl hb42)])
     ·have h1:((b==42):Bool)=false:=by simp[hb42]
      simp_arith[h1,fY];by_cases hba:b=a
      ·have:((b==a):Bool)=true:=by simp[hba]
       simp_arith[this];exact put a _ _ (by unfold dM;rw[if_neg h42,if_pos (.inr hba)])
      ·have:((b==a):Bool)=false:=by simp[hba]
       simp_arith[this];have hn:dM a b=none:=by unfold dM;rw[if_neg h42,if_neg (by rintro (h |h);exact hb42 h;exact hba h)]
       rw[hn]at hb;rw[hb];rfl
   ·rintro ρ G' ⟨⟨o3,o4,m,rfl,hm,hb⟩,rfl⟩;rw[List.length_map,aa7]at hb;refine hM _ _ ?_;simp_arith[ends];rw[hb];simp[bG]
  ·cases h
 ·cases h
def fZ:List D->Option D
 |[.str f,.int n,.str [c]]=>if decide (0<=n)&&decide (n < f.length)&&decide (f.length<=1000) then some (.str (f.set n.toNat c)) else none
 |_=>none
theorem aa9{l:List Nat}{n c:Nat}(h:n < l.length):l.take n++[c]++l.drop (n+1)=l.set n c:=by rw[List.set_eq_take_append_cons_drop,if_pos h];simp
theorem aba(Φ:aa)(ds:List D)(G:DH)(d:D)(h:fZ ds=some d):au Φ kj noE (env0 ds 0) G (ends λd' G'=>G'=G/\d'=d):=by
 unfold fZ at h;split at h
 ·rename_i f n c;split at h
  ·rename_i hl;simp only[Bool.and_eq_true,decide_eq_true_iff]at hl;obtain ⟨⟨h0,h1⟩,h2⟩:=hl;cases h;obtain ⟨k,rfl⟩:=Int.eq_ofNat_of_zero_le h0;simp_arith[kj,wB,Eg,List.length_append,List.length_take,List.length_drop,Int.toNat_natCast,aa9 (show k < f.length by omega)];exact ⟨by have hsz:sz=1000000:=rfl;omega,by have hsz:sz=1000000:=rfl;omega⟩
  ·cases h
 ·cases h
def gY:List D->Option D
 |[.int n]=>if decide (0<=n)&&decide (n<=1000) then some (.str (List.replicate n.toNat 42)) else none
 |_=>none
theorem abb(Φ:aa)(ds:List D)(G:DH)(d:D)(h:gY ds=some d):au Φ kJ noE (env0 ds 0) G (ends λd' G'=>G'=G/\d'=d):=by
 unfold gY at h;split at h
 ·rename_i n;split at h
  ·rename_i hl;simp only[Bool.and_eq_true,decide_eq_true_iff]at hl;cases h;simp_arith[kJ,Kv];exact ⟨hl.1,hl.2,by have hsz:sz=1000000:=rfl;omega⟩
  ·cases h
 ·cases h
def bJ(rs:List Row)(b:List Nat):Option Nat:=rs.findIdx? λr=>(cB r.1 b).isSome
def Kw(ds:List D)(_:DH):Prop:=∃(rs:List Row)(b:List Nat),ds=[.tup (rs.map aH),.str b]/\∀r∈rs,r.1.length<=1000
def Ky(ds:List D)(G:DH)(d:D)(G':DH):Prop:=G'=G/\∃(rs:List Row)(b:List Nat),ds=[.tup (rs.map aH),.str b]/\d=aN (bJ rs b)
def lC:RF.Spec:=bD Kw Ky
theorem yc{rs ss:List Row}(h:rs.map aH=ss.map aH):rs=ss:=(Ks (w:=0) (v:=0) (by unfold aq;rw[h])).2
theorem Kz{rs:List Row}{b:List Nat}{G:DH}{k:D->DH->Prop}{E:EK}(h:∀r∈rs,r.1.length<=1000)(hk:k (aN (bJ rs b)) G):lC.t [.tup (rs.map aH),.str b] G k E:=by refine bY ⟨rs,b,rfl,h⟩ λd G' hx=>?_;obtain ⟨e1,rs2,b2,e2,e3⟩:=hx;simp only[List.cons.injEq,D.str.injEq,D.tup.injEq,and_true]at e2;obtain ⟨e2,rfl⟩:=e2;cases yc e2;subst e1 e3;exact hk
theorem abd{o:Option (List Nat)}:eE (bG o)=!o.isSome:=by cases o <;> rfl
theorem abe{G:DH}{o:Option (List Nat)}:view G (bG o)=bG o:=by cases o <;> rfl
theorem abf{rs:List Row}{b:List Nat}{i:Nat}{r:Row}(h:rs[i]?=some r):bJ (rs.drop i) b=if (cB r.1 b).isSome then some 0 else (bJ (rs.drop (i+1)) b).map (·+1):=by
 have hi:=(List.getElem?_eq_some_iff.mp h).1;have e:rs.drop i=r::rs.drop (i+1):=by rw[List.drop_eq_getElem_cons hi];rw[(List.getElem?_eq_some_iff.mp h).2]
 rw[e];unfold bJ;rw[List.findIdx?_cons]
theorem abg (Φ:aa) (h1:Φ "both"=aP lB) (ds:List D) (G:DH) (h:Kw ds G):au Φ j9 noE (env0 ds 2) G (ends (Ky ds G)):=by
 obtain ⟨rs,b,rfl,hb⟩:=h;simp_all_arith[j9];refine seq λM hM=>?_;simp_arith![ends];refine ForG.inv (P:=λi ρ G'=>(∃o2 o3,ρ=[some (.tup (rs.map aH)),some (.str b),o2,o3])/\G'=G/\bJ rs b=(bJ (rs.drop i) b).map (·+i)) ⟨⟨_,_,rfl⟩,rfl,by simp⟩ (λ_ _ _ _=>trivial) ?_ ?_
 ·rintro i d ρ G' hd ⟨⟨o2,o3,rfl⟩,rfl,hmet⟩ kk hk;rw[iV]at hd;obtain ⟨d',hd',rfl⟩:=Option.map_eq_some_iff.mp hd;rw[List.getElem?_map]at hd';obtain ⟨r,hr,rfl⟩:=Option.map_eq_some_iff.mp hd';have hrl:=hb r (List.mem_of_getElem? hr);rw[abf hr]at hmet;simp_arith![ends];refine last ?_;simp_arith[h1,aH];refine du (d:=bG (cB r.1 b)) (if_pos (decide_eq_true (by omega))) ?_;simp_arith[abe,abd];cases hf:(cB r.1 b).isSome with
  |true=>
   rw[hf,if_pos rfl]at hmet;exact ⟨rfl,rs,b,rfl,by rw[hmet];simp[aN]⟩
  |false=>
   rw[hf,if_neg Bool.false_ne_true]at hmet;refine hk _ _ ⟨⟨_,_,rfl⟩,rfl,?_⟩;rw[hmet,Option.map_map];congr 1;funext n;simp;omega
 ·rintro ρ G' ⟨⟨o2,o3,rfl⟩,rfl,hmet⟩;rw[iU,List.length_map,List.drop_length]at hmet;refine hM _ _ ?_;simp_arith[ends];exact ⟨rfl,rs,b,rfl,by rw[hmet];rfl⟩
def cM(f b:List Nat):Option Nat:=(f.zip b).findIdx? λp=>p.2==42&&!(p.1==42)
def cR(rs:List Row)(b:List Nat):Option Nat:=match bJ rs b with |some n=>(match rs[n]? with |some r=>cM r.1 b |none=>none) |none=>none
def KC(ds:List D)(_:DH):Prop:=∃(rs:List Row)(b:List Nat),ds=[.tup (rs.map aH),.str b]/\(∀r∈rs,r.1.length=b.length)/\b.length<=1000
def KD(ds:List D)(G:DH)(d:D)(G':DH):Prop:=G'=G/\∃(rs:List Row)(b:List Nat),ds=[.tup (rs.map aH),.str b]/\d=aN (cR rs b)
def sG:RF.Spec:=bD KC KD
theorem abh{rs:List Row}{b:List Nat}{G:DH}{k:D->DH->Prop}{E:EK}(h:∀r∈rs,r.1.length=b.length)(hl:b.length<=1000)(hk:k (aN (cR rs b)) G):sG.t [.tup (rs.map aH),.str b] G k E:=by refine bY ⟨rs,b,rfl,h,hl⟩ λd G' hx=>?_;obtain ⟨e1,rs2,b2,e2,e3⟩:=hx;simp only[List.cons.injEq,D.str.injEq,D.tup.injEq,and_true]at e2;obtain ⟨e2,rfl⟩:=e2;cases yc e2;subst e1 e3;exact hk
theorem sH{rs:List Row}{b:List Nat}{n:Nat}(h:bJ rs b=some n):n < rs.length:=(List.findIdx?_eq_some_iff_findIdx_eq.mp h).1
theorem abi{f b:List Nat}{i s c:Nat}(hs:f[i]?=some s)(hc:b[i]?=some c):cM (f.drop i) (b.drop i)=if (c==42&&!(s==42))=true then some 0 else (cM (f.drop (i+1)) (b.drop (i+1))).map (·+1):=by have h1:=List.getElem?_eq_some_iff.mp hs;have h2:=List.getElem?_eq_some_iff.mp hc;rw[List.drop_eq_getElem_cons h1.1,List.drop_eq_getElem_cons h2.1,h1.2,h2.2];unfold cM;rw[List.zip_cons_cons,List.findIdx?_cons]
theorem abj (Φ:aa) (h1:Φ "first_touching"=lC) (ds:List D) (G:DH) (h:KC ds G):au Φ kh noE (env0 ds 3) G (ends (KD ds G)):=by
 obtain ⟨rs,b,rfl,hb,hbl⟩:=h;simp_all_arith[kh];refine seq λM hM=>?_;simp_arith[h1];refine Kz (λr hr=>by rw[hb r hr];exact hbl) (hM _ _ (seq λM hM=>?_));cases ht:bJ rs b with
 |none=>
  simp_arith[aN];exact ⟨rfl,rs,b,rfl,by unfold cR;rw[ht];rfl⟩
 |some n=>
  have hn:=sH ht;have hlen:=hb rs[n] (List.getElem_mem _);have hsp:cR rs b=cM rs[n].1 b:=by unfold cR;rw[ht];simp[hn]
  simp_arith[aN];refine hM _ _ (seq λM hM=>?_);simp_arith![ends];refine bZ (a:=aH rs[n]) (bO (by simp[hn])) ?_;simp_arith![aH];generalize rs[n].1=f at hlen hsp;refine ForG.inv (P:=λi ρ G'=>(∃o3 o4,ρ=[some (.tup (rs.map aH)),some (.str b),some (.int (n:Int)),o3,o4])/\G'=G/\cM f b=(cM (f.drop i) (b.drop i)).map (·+i)) ⟨⟨_,_,rfl⟩,rfl,by simp⟩ (λ_ _ _ _=>trivial) ?_ ?_
  ·rintro i d ρ G' hd ⟨⟨o3,o4,rfl⟩,rfl,hs⟩ kk hk;rw[iV]at hd;obtain ⟨d',hd',rfl⟩:=Option.map_eq_some_iff.mp hd;rw[List.getElem?_map]at hd';obtain ⟨s,hsi,rfl⟩:=Option.map_eq_some_iff.mp hd';have hi:=(List.getElem?_eq_some_iff.mp hsi).1;have hib:i < b.length:=by omega
   have hbi:b[i]?=some b[i]:=by simp[hib]
   rw[abi hsi hbi]at hs;simp_arith![ends];refine last ?_;simp_arith[ends];refine bZ (a:=b[i]) (by rw[Nat.zero_add];exact bO hbi) ?_;simp_arith[fY];cases h42:(b[i]==42) with
   |false=>
    simp only[h42,Bool.false_and,if_neg Bool.false_ne_true]at hs;simp_arith[ends];refine hk _ _ ⟨⟨_,_,rfl⟩,rfl,?_⟩;rw[hs,Option.map_map];congr 1;funext n;simp;omega
   |true=>
    simp_arith[fY];cases hs42:(s==42) with
    |true=>
     simp only[h42,hs42,Bool.not_true,Bool.and_false,if_neg Bool.false_ne_true]at hs;simp_arith[ends];refine hk _ _ ⟨⟨_,_,rfl⟩,rfl,?_⟩;rw[hs,Option.map_map];congr 1;funext n;simp;omega
    |false=>
     simp only[h42,hs42,Bool.not_false,Bool.and_true,if_pos]at hs;simp_arith[ends];exact ⟨rfl,rs,b,rfl,by rw[hsp,hs];simp[aN]⟩
  ·rintro ρ G' ⟨⟨o3,o4,rfl⟩,rfl,hs⟩;rw[iU,List.length_map,List.drop_length]at hs;refine hM _ _ ?_;simp_arith[ends];exact ⟨rfl,rs,b,rfl,by rw[hsp,hs];simp[cM,aN]⟩
def jh:List Nat:=[115,112,108,105,116]
def stc(b:List Nat):Nat:=b.countP (·==42)
theorem ji{b:List Nat}{n c:Nat}(h:b[n]?=some 42)(hc:c≠42):stc (b.set n c)+1=stc b:=by
 obtain ⟨hl,he⟩:=List.getElem?_eq_some_iff.mp h;have e1:b=b.take n++42::b.drop (n+1):=by rw[<-he,<-List.drop_eq_getElem_cons hl,List.take_append_drop]
 have e2:b.set n c=b.take n++c::b.drop (n+1):=by rw[List.set_eq_take_append_cons_drop,if_pos hl]
 unfold stc;rw[e2];conv=>rhs;rw[e1]
 rw[List.countP_append,List.countP_append,List.countP_cons_of_neg (by simp[hc]),List.countP_cons_of_pos (by simp)];omega
theorem KH{w n c:Nat}{b:List Nat}(h:okF w b)(hc:isF c):okF w (b.set n c):=⟨by rw[List.length_set];exact h.1,λd hd=>by
 rcases List.mem_or_eq_of_mem_set hd with h' |h'
 ·exact h.2 d h'
 ·rw[h'];exact hc⟩
theorem abk:isF 48:=.inl rfl
theorem abl:isF 49:=.inr (.inl rfl)
inductive Gr (name:List Nat) (rss:List (List Row)):List Nat->D->Prop
 |leaf (b:List Nat) (h:∀rs∈rss,cR rs b=none):Gr name rss b (.tup (.str name::rss.map λrs=>aN (bJ rs b)))
 |node (b:List Nat) (n:Nat) (z o:D) (h:b[n]?=some 42) (hz:Gr name rss (b.set n 48) z) (ho:Gr name rss (b.set n 49) o):Gr name rss b (.tup [.str jh,.int n,z,o])
def dN(rss:List (List Row)):List D:=rss.map λrs=>.tup (rs.map aH)
structure okG(w:Nat)(name:List Nat)(rss:List (List Row)):Prop where
 len:rss.length<=100
 nl:name.length<=100
 form:∀rs∈rss,∀r∈rs,r.1.length=w
 w1000:w<=1000
def KJ(n:Nat)(ds:List D)(_:DH):Prop:=∃(w:Nat)(name:List Nat)(rss:List (List Row))(b:List Nat),ds=[.str name,.lst (dN rss),.str b]/\okG w name rss/\b.length=w/\stc b < n
def KN(ds:List D)(G:DH)(d:D)(G':DH):Prop:=G'=G/\∃(name:List Nat)(rss:List (List Row))(b:List Nat),ds=[.str name,.lst (dN rss),.str b]/\Gr name rss b d
def eG(n:Nat):RF.Spec:=bD (KJ n) KN
theorem abm{a b:List (List Row)}(h:dN a=dN b):a=b:=by
 unfold dN at h;induction a generalizing b with
 |nil=>cases b with
  |nil=>rfl
  |cons _ _=>simp at h
 |cons x a ih=>cases b with
  |nil=>simp at h
  |cons y b=>
   simp only[List.map_cons,List.cons.injEq,D.tup.injEq]at h;rw[yc h.1,ih h.2]
theorem yd{n w:Nat}{name:List Nat}{rss:List (List Row)}{b:List Nat}{G:DH}{k:D->DH->Prop}{E:EK}(h:okG w name rss)(hb:b.length=w)(hs:stc b < n)(hk:∀d,Gr name rss b d->k d G):(eG n).t [.str name,.lst (dN rss),.str b] G k E:=by refine bY ⟨w,name,rss,b,rfl,h,hb,hs⟩ λd G' hx=>?_;obtain ⟨e1,name2,rss2,b2,e2,e3⟩:=hx;simp only[List.cons.injEq,D.str.injEq,D.lst.injEq,and_true]at e2;obtain ⟨rfl,e2,rfl⟩:=e2;cases abm e2;subst e1;exact hk d e3
theorem abn{f b:List Nat}{n:Nat}(h:cM f b=some n):b[n]?=some 42:=by unfold cM at h;have h2:=List.findIdx?_eq_some_iff_getElem.mp h;obtain ⟨hl,hp,_⟩:=h2;rw[List.length_zip]at hl;rw[List.getElem_zip]at hp;simp only[Bool.and_eq_true,beq_iff_eq]at hp;rw[List.getElem?_eq_getElem (by omega),hp.1]
theorem abo{rs:List Row}{b:List Nat}{n:Nat}(h:cR rs b=some n):b[n]?=some 42:=by
 unfold cR at h;split at h
 ·split at h
  ·exact abn h
  ·cases h
 ·cases h
theorem sI{b:List Nat}{n c:Nat}{G:DH}{k:D->DH->Prop}{E:EK}(h:n < b.length)(hl:b.length<=1000)(hk:k (.str (b.set n c)) G):(aP fZ).t [.str b,.int n,.str [c]] G k E:=
 du (by
  unfold fZ;dsimp only;rw[if_pos (by simp only[Bool.and_eq_true,decide_eq_true_iff];omega),Int.toNat_natCast]) hk
theorem abp (Φ:aa) (n:Nat) (h0:Φ "grown"=eG n) (h1:Φ "first_touching"=lC) (h2:Φ "splitting_place"=sG) (h3:Φ "with_sign"=aP fZ) (ds:List D) (G:DH) (h:KJ (n+1) ds G):au Φ jd noE (env0 ds 4) G (ends (KN ds G)):=by
 obtain ⟨w,name,rss,b,rfl,hg,hb,hs⟩:=h;have hw:=hg.w1000;simp_all_arith[jd];refine seq λM hM=>?_;simp_arith![ends];refine ForG.inv (P:=λi ρ G'=>(∃o3 o4 o5 o6,ρ=[some (.str name),some (.lst (dN rss)),some (.str b),o3,o4,o5,o6])/\G'=G/\∀rs∈rss.take i,cR rs b=none) ⟨⟨_,_,_,_,rfl⟩,rfl,by simp⟩ (λ_ _ _ _=>trivial) ?_ ?_
 ·rintro i d ρ G' hd ⟨⟨o3,o4,o5,o6,rfl⟩,rfl,hall⟩ kk hk;unfold dN at hd;rw[List.getElem?_map]at hd;obtain ⟨rs,hrs,rfl⟩:=Option.map_eq_some_iff.mp hd;simp_arith![ends];refine seq λM hM=>?_;simp_arith[h2];refine abh (λr hr=>by rw[hg.form rs (List.mem_of_getElem? hrs) r hr,hb]) (by omega) (hM _ _ (last ?_));cases hsp:cR rs b with
  |none=>
   simp_arith[aN];refine hk _ _ ⟨⟨_,_,_,_,rfl⟩,rfl,λrs' hrs'=>?_⟩;rw[List.take_add_one,hrs]at hrs';rcases List.mem_append.mp hrs' with h |h
   ·exact hall rs' h
   ·have:rs'=rs:=by simpa using h
    rw[this];exact hsp
  |some at'=>
   have hst:=abo hsp;have hat:=(List.getElem?_eq_some_iff.mp hst).1;simp_arith![aN];refine seq λM hM=>?_;simp_arith[h0,h3];refine sI hat (by omega) (yd hg (by rw[List.length_set];exact hb) (by have:=ji hst (show 48≠42 by decide);omega) λz hz=>hM _ _ (seq λM hM=>?_));simp_arith[h0,h3];refine sI hat (by omega) (yd hg (by rw[List.length_set];exact hb) (by have:=ji hst (show 49≠42 by decide);omega) λo ho=>hM _ _ (last ?_));simp_arith[ends];exact ⟨by decide,rfl,name,rss,b,rfl,.node b at' z o hst hz ho⟩
 ·rintro ρ G' ⟨⟨o3,o4,o5,o6,rfl⟩,rfl,hall⟩;have hlen:(dN rss).length=rss.length:=List.length_map _;rw[hlen,List.take_length]at hall;have hrl:=hg.len;refine hM _ _ ?_;simp_arith[h1];refine ⟨by decide,CompG.inv (P:=λi acc ρ G''=>(∃o,ρ=[o,some (.str b)])/\G''=G'/\acc=(rss.take i).map λrs=>aN (bJ rs b)) ⟨⟨_,rfl⟩,rfl,rfl⟩ (λ_ _ _ _ _=>trivial) (by rw[hlen];have hsz:sz=1000000:=rfl;omega) ?_ ?_⟩
  ·rintro i d acc ρ G'' hd ⟨⟨o,rfl⟩,rfl,rfl⟩ kk hk;unfold dN at hd;rw[List.getElem?_map]at hd;obtain ⟨rs,hrs,rfl⟩:=Option.map_eq_some_iff.mp hd;simp_arith[h1];refine Kz (λr hr=>by rw[hg.form rs (List.mem_of_getElem? hrs) r hr];omega) (hk _ _ _ ⟨⟨_,rfl⟩,rfl,?_⟩);rw[List.take_add_one,hrs];simp
  ·rintro acc ρ G'' ⟨_,rfl,rfl⟩;rw[hlen,List.take_length];simp_arith[List.length_map];exact ⟨by have hsz:sz=1000000:=rfl;omega,rfl,name,rss,b,rfl,.leaf b hall⟩
theorem abq(ds:List D)(G:DH)(a:(eG 0).A):¬(eG 0).pre ds G a:=λ⟨_,_,_,_,_,_,_,_,h⟩=>by omega
theorem abr(w:Nat):stc (List.replicate w 42)<=w:=by have:=List.countP_le_length (p:=(·==42)) (l:=List.replicate w 42);rw[List.length_replicate]at this;exact this
theorem KQ:∀{f b w:List Nat},cB f b=none->(∀s∈w,s=48\/s=49)->Fits b w->cL f w=true->False
 |[],b,w,h,_,_,_=>by cases b <;> cases h
 |a::f,[],w,h,_,_,_=>by cases h
 |a::f,c::b,[],h,_,hf,_=>by have:=hf.1;simp at this
 |a::f,c::b,s::w,h,hw,hf,hz=>by
  rw[cL,Bool.and_eq_true]at hz;have hs:=hf.2 0 c s rfl rfl;have hf':Fits b w:=⟨by have:=hf.1;simpa using this,λi c' s' h1 h2=>hf.2 (i+1) c' s' (by simpa using h1) (by simpa using h2)⟩;unfold cB at h;cases h1:dM a c with
  |some x=>
   rw[h1]at h;simp only[Option.map_eq_none_iff]at h;exact KQ h (λs hs=>hw s (List.mem_cons_of_mem _ hs)) hf' hz.2
  |none=>
   unfold dM at h1;split at h1
   ·cases h1
   ·split at h1
    ·cases h1
    ·rename_i ha hc;have h2:=(Kr (hw s List.mem_cons_self)).mp hz.1;unfold alt at hs h2;rw[if_neg ha]at h2;have es:s=a:=by simpa using h2
     split at hs
     ·rename_i e;exact hc (.inl e)
     ·have:s=c:=by simpa using hs
      exact hc (.inr (by omega))
theorem KR:∀{f b w:List Nat},f.length=b.length->(cB f b).isSome=true->cM f b=none->(∀s∈w,s=48\/s=49)->Fits b w->cL f w=true
 |[],b,w,_,_,_,_,_=>rfl
 |a::f,[],w,h,_,_,_,_=>by simp at h
 |a::f,c::b,[],_,_,_,_,hf=>rfl
 |a::f,c::b,s::w,hl,hb,hs,hw,hf=>by
  have hs0:=hf.2 0 c s rfl rfl;have hf':Fits b w:=⟨by have:=hf.1;simpa using this,λi c' s' h1 h2=>hf.2 (i+1) c' s' (by simpa using h1) (by simpa using h2)⟩;unfold cM at hs;rw[List.zip_cons_cons,List.findIdx?_cons]at hs;split at hs
  ·cases hs
  ·rename_i hne;have hs':cM f b=none:=by unfold cM;simpa using hs
   unfold cB at hb;cases h1:dM a c with
   |none=>rw[h1]at hb;cases hb
   |some x=>
    rw[h1]at hb;have hb':(cB f b).isSome=true:=by simpa using hb
    rw[cL,Bool.and_eq_true];refine ⟨?_,KR (by simpa using hl) hb' hs' (λs hs=>hw s (List.mem_cons_of_mem _ hs)) hf'⟩;rw[Kr (hw s List.mem_cons_self)];by_cases ha:a=42
    ·unfold alt;rw[if_pos ha];rcases hw s List.mem_cons_self with e |e <;> simp[e]
    ·have hc:c≠42:=by
      rintro rfl;exact hne (by simp[ha])
     unfold alt at hs0 ⊢;rw[if_neg hc]at hs0;rw[if_neg ha];unfold dM at h1;rw[if_neg ha]at h1;split at h1
     ·rename_i h2;rcases h2 with h2 |h2
      ·exact absurd h2 hc
      ·rw[<-h2];exact hs0
     ·cases h1
theorem abt{rs:List Row}{b l:List Nat}(hf:∀r∈rs,r.1.length=b.length)(hs:cR rs b=none)(hl:∀s∈l,s=48\/s=49)(hb:Fits b l):aZ rs l=bJ rs b:=by
 have no:∀r∈rs,(cB r.1 b).isSome=false->fX r.1 l=false:=by
  intro r hr h;cases e:fX r.1 l with
  |false=>rfl
  |true=>
   unfold fX at e;rw[Bool.and_eq_true]at e;exact (KQ (by simpa using h) hl hb e.2).elim
 cases ht:bJ rs b with
 |none=>
  unfold bJ at ht;unfold aZ;rw[List.findIdx?_eq_none_iff]at ht ⊢;exact λr hr=>no r hr (by simpa using ht r hr)
 |some n=>
  have hn:=sH ht;have ht':=List.findIdx?_eq_some_iff_getElem.mp ht;obtain ⟨_,t1,t2⟩:=ht';unfold aZ;rw[List.findIdx?_eq_some_iff_getElem];refine ⟨hn,?_,λj hj=>?_⟩
  ·have hsf:cM rs[n].1 b=none:=by
    unfold cR at hs;rw[ht]at hs;simpa [hn] using hs
   have hlen:=hf rs[n] (List.getElem_mem _);unfold fX;rw[Bool.and_eq_true];exact ⟨decide_eq_true (by rw[hlen,hb.1]),KR hlen t1 hsf hl hb⟩
  ·have:=no rs[j] (List.getElem_mem _) (by simpa using t2 j hj);simp[this]
theorem abu{f w:List Nat}{i a b:Nat}(h:(f.zip w)[i]?=some (a,b)):cL (f.drop i) (w.drop i)=(lw a b&&cL (f.drop (i+1)) (w.drop (i+1))):=by
 have hz:=List.getElem?_eq_some_iff.mp h;obtain ⟨hl,he⟩:=hz;rw[List.length_zip]at hl;have h1:i < f.length:=by omega
 have h2:i < w.length:=by omega
 rw[List.getElem_zip]at he;rw[List.drop_eq_getElem_cons h1,List.drop_eq_getElem_cons h2];simp only[Prod.mk.injEq]at he;rw[he.1,he.2];rfl
theorem abv{f w:List Nat}:cL (f.drop (f.zip w).length) (w.drop (f.zip w).length)=true:=by
 rw[List.length_zip];by_cases h:f.length<=w.length
 ·rw[Nat.min_eq_left h,List.drop_length];rfl
 ·rw[Nat.min_eq_right (by omega),List.drop_length];cases f.drop w.length <;> rfl
def lD:List D->Option D
 |[.str f,.str w]=>some (.bl (cL f w))
 |_=>none
theorem abw(Φ:aa)(ds:List D)(G:DH)(d:D)(h:lD ds=some d):au Φ wW noE (env0 ds 2) G (ends λd' G'=>G'=G/\d'=d):=by
 unfold lD at h;split at h
 ·rename_i f w;cases h;simp_all_arith[wW];refine seq λM hM=>?_;simp_arith![xZ];refine ForG.inv (P:=λi ρ G'=>(∃o2 o3,ρ=[some (.str f),some (.str w),o2,o3])/\G'=G/\cL f w=cL (f.drop i) (w.drop i)) ⟨⟨_,_,rfl⟩,rfl,by simp⟩ (λ_ _ _ _=>trivial) ?_ ?_
  ·rintro i d ρ G' hd ⟨⟨o2,o3,rfl⟩,rfl,hb⟩ kk hk;rw[List.getElem?_map]at hd;obtain ⟨⟨a,b⟩,hab,rfl⟩:=Option.map_eq_some_iff.mp hd;rw[abu hab]at hb;unfold lw at hb;simp_arith![ends];refine last ?_;simp_arith[fY];cases h42:(a==42) with
   |true=>
    simp_arith[ends];exact hk _ _ ⟨⟨_,_,rfl⟩,rfl,by rw[hb,h42];rfl⟩
   |false=>
    simp_arith[fY];cases hs:(a==b) with
    |true=>
     simp_arith[ends];exact hk _ _ ⟨⟨_,_,rfl⟩,rfl,by rw[hb,hs];simp⟩
    |false=>
     simp_arith[ends];rw[hb,h42,hs];simp
  ·rintro ρ G' ⟨⟨o2,o3,rfl⟩,rfl,hb⟩;rw[List.length_map,abv]at hb;refine hM _ _ ?_;simp_arith[hb]
 ·cases h
theorem abx{f l:List Nat}(h:f.length=l.length):fX f l=cL f l:=by unfold fX;rw[decide_eq_true h];rfl
def sJ:RF.Spec:=bF (A:=Nat×List Row×List Nat) (λa=>[aq a.1 a.2.1,.str a.2.2]) (λa=>∀r∈a.2.1,r.1.length=a.2.2.length) (λa=>aN (aZ a.2.1 a.2.2))
theorem aby{w:Nat}{rs:List Row}{l:List Nat}{G:DH}{k:D->DH->Prop}{E:EK}(h:∀r∈rs,r.1.length=l.length)(hk:k (aN (aZ rs l)) G):sJ.t [aq w rs,.str l] G k E:=bM (w,rs,l) rfl h hk
theorem abz (Φ:aa) (h1:Φ "_law_fits"=aP lD) (a:Nat×List Row×List Nat) (G:DH) (h:∀r∈a.2.1,r.1.length=a.2.2.length):
  au Φ wX noE (env0 [aq a.1 a.2.1,.str a.2.2] 2) G (ends λd G'=>G'=G/\d=aN (aZ a.2.1 a.2.2)):=by
 obtain ⟨w,rs,l⟩:=a;dsimp only at h ⊢;simp_all_arith[wX];refine seq λM hM=>?_;simp_arith![aq];refine ForG.inv (P:=λi ρ G'=>(∃o2 o3,ρ=[some (.tup [.int w,.tup (rs.map aH)]),some (.str l),o2,o3])/\G'=G/\aZ rs l=(aZ (rs.drop i) l).map (·+i)) ⟨⟨_,_,rfl⟩,rfl,by simp⟩ (λ_ _ _ _=>trivial) ?_ ?_
 ·rintro i d ρ G' hd ⟨⟨o2,o3,rfl⟩,rfl,hmet⟩ kk hk;rw[iV]at hd;obtain ⟨d',hd',rfl⟩:=Option.map_eq_some_iff.mp hd;rw[List.getElem?_map]at hd';obtain ⟨r,hr,rfl⟩:=Option.map_eq_some_iff.mp hd';rw[aaZ hr,abx (h r (List.mem_of_getElem? hr))]at hmet;simp_arith![ends];refine last ?_;simp_arith[h1,aH];refine du (d:=.bl (cL r.1 l)) rfl ?_;simp_arith[ends];cases hf:cL r.1 l with
  |true=>
   rw[hf,if_pos rfl]at hmet;rw[hmet];simp[aN]
  |false=>
   rw[hf,if_neg Bool.false_ne_true]at hmet;refine hk _ _ ⟨⟨_,_,rfl⟩,rfl,?_⟩;rw[hmet,Option.map_map];congr 1;funext n;simp;omega
 ·rintro ρ G' ⟨⟨o2,o3,rfl⟩,rfl,hmet⟩;rw[iU,List.length_map,List.drop_length]at hmet;refine hM _ _ ?_;simp_arith[ends];rw[hmet];rfl
def sO(name:List Nat)(rss:List (List Row))(b:List Nat):D:=.tup (.str name::rss.map λrs=>aN (bJ rs b))
def lE(name:List Nat)(rss:List (List Row))(b:List Nat):D:=.tup [.str b,sO name rss b]
inductive Lv (name:List Nat) (rss:List (List Row)):List Nat->D->List (List Nat)->Prop
 |leaf (b:List Nat) (h:∀rs∈rss,cR rs b=none):Lv name rss b (sO name rss b) [b]
 |node (b:List Nat) (n:Nat) (z o:D) (l m:List (List Nat)) (h:b[n]?=some 42) (hz:Lv name rss (b.set n 48) z l) (ho:Lv name rss (b.set n 49) o m):Lv name rss b (.tup [.str jh,.int n,z,o]) (l++m)
theorem Gr.lv{name:List Nat}{rss:List (List Row)}{b:List Nat}{d:D}(h:Gr name rss b d):∃bs,Lv name rss b d bs:=by
 induction h with
 |leaf b h=>exact ⟨_,.leaf b h⟩
 |node b n z o h _ _ hz ho=>
  obtain ⟨l,hl⟩:=hz;obtain ⟨m,hm⟩:=ho;exact ⟨_,.node b n z o l m h hl hm⟩
theorem Lv.len{name:List Nat}{rss:List (List Row)}{b:List Nat}{d:D}{bs:List (List Nat)}(h:Lv name rss b d bs):bs.length<=2 ^ stc b:=by
 induction h with
 |leaf b h=>exact Nat.one_le_two_pow
 |node b n z o l m h _ _ hz ho=>
  have e1:=ji h (show 48≠42 by decide);have e2:=ji h (show 49≠42 by decide);rw[<-e1,Nat.pow_succ,List.length_append];have e3:stc (b.set n 49)=stc (b.set n 48):=by omega
  rw[e3]at ho;omega
theorem Lv.len'{name:List Nat}{rss:List (List Row)}{b:List Nat}{d:D}{bs:List (List Nat)}(h:Lv name rss b d bs)(hb:b.length<=12):bs.length<=4096:=by
 have h1:=h.len;have h2:stc b<=12:=Nat.le_trans (List.countP_le_length) hb;have h3:=Nat.pow_le_pow_right (show 0 < 2 by decide) h2;have h4:2 ^ 12=4096:=by decide
 omega
theorem Lv.box{name:List Nat}{rss:List (List Row)}{b:List Nat}{d:D}{bs:List (List Nat)}(h:Lv name rss b d bs):∀c∈bs,c.length=b.length/\∀rs∈rss,cR rs c=none:=by
 induction h with
 |leaf b h=>intro c hc;rw[List.mem_singleton.mp hc];exact ⟨rfl,h⟩
 |node b n z o l m h _ _ hz ho=>
  intro c hc;rcases List.mem_append.mp hc with hc |hc
  ·have:=hz c hc;rw[List.length_set]at this;exact this
  ·have:=ho c hc;rw[List.length_set]at this;exact this
theorem Lv.okf{w:Nat}{name:List Nat}{rss:List (List Row)}{b:List Nat}{d:D}{bs:List (List Nat)}(h:Lv name rss b d bs):okF w b->∀c∈bs,okF w c:=by
 induction h with
 |leaf b h=>intro hb c hc;rw[List.mem_singleton.mp hc];exact hb
 |node b n z o l m h _ _ hz ho=>
  intro hb c hc;rcases List.mem_append.mp hc with hc |hc
  ·exact hz (KH hb abk) c hc
  ·exact ho (KH hb abl) c hc
theorem abA{w:Nat}{f l:List Nat}(h:okF w f)(hf:Fits f l):∀s∈l,s=48\/s=49:=by
 intro s hs;obtain ⟨i,hi,rfl⟩:=List.getElem_of_mem hs;have hif:i < f.length:=by rw[hf.1];exact hi
 have:=hf.2 i f[i] l[i] (by simp[hif]) (by simp[hi]);rcases h.2 f[i] (List.getElem_mem _) with e |e |e <;> rw[e]at this <;> simp[alt]at this <;> omega
def isPlace(m:Int):D->Bool
 |.int i=>decide (0<=i)&&decide (i < m)
 |_=>false
def gb:List D->Option D
 |[.int m,x]=>if nr x then some (.bl (isPlace m x)) else none
 |_=>none
theorem abB (Φ:aa) (h1:Φ "is_whole"=aP gU) (ds:List D) (G:DH) (d:D) (h:gb ds=some d):au Φ j4 noE (env0 ds 0) G (ends λd' G'=>G'=G/\d'=d):=by
 unfold gb at h;split at h
 ·rename_i m x;split at h
  ·rename_i hx;cases h;have hf:gU [x]=some (.bl (whole x)):=if_pos hx;simp_arith[j4,h1];refine du hf ?_;cases x <;> first | (simp[nr]at hx;done) | (simp_arith[whole,isPlace];first | (simp;done) |skip)
   rename_i i;cases hi:decide (0<=i) with
   |true=>simp
   |false=>simp
  ·cases h
 ·cases h
def fB:List D->Option D
 |[.str name,.int many,.tup (.str s::r)]=>some (.bl ((((r.length+1:Nat):Int)==many+1)&&(s==name)))
 |_=>none
theorem abC(Φ:aa)(ds:List D)(G:DH)(d:D)(h:fB ds=some d):au Φ km noE (env0 ds 0) G (ends λd' G'=>G'=G/\d'=d):=by
 unfold fB at h;split at h
 ·rename_i name many s r;cases h;simp_arith[km];cases he:(((r.length+1:Nat):Int)==many+1) with
  |false=>simp_arith[Bool.false_and]
  |true=>simp_arith[Bool.true_and]
 ·cases h
theorem abD{name s:List Nat}{m:Int}{r:List D}{G:DH}{k:D->DH->Prop}{E:EK}(h:s≠name)(hk:k (.bl false) G):(aP fB).t [.str name,.int m,.tup (.str s::r)] G k E:=
 du (by unfold fB;dsimp only;rw[beq_eq_false_iff_ne.mpr h,Bool.and_false]) hk
theorem abE{name:List Nat}{m:Int}{r:List D}{G:DH}{k:D->DH->Prop}{E:EK}(h:(r.length:Int)=m)(hk:k (.bl true) G):(aP fB).t [.str name,.int m,.tup (.str name::r)] G k E:=
 du (by unfold fB;dsimp only;rw[BEq.rfl,Bool.and_true,beq_iff_eq.mpr (by omega)]) hk
def oI:Option Int->D
 |some i=>.int i
 |none=>.non
inductive T where
 |lf (r:List (Option Int))
 |sp (i:Int) (z o:T)
def T.d(name:List Nat):T->D
 |.lf r=>.tup (.str name::r.map oI)
 |.sp i z o=>.tup [.str jh,.int i,z.d name,o.d name]
def T.dep:T->Nat
 |.lf _=>0
 |.sp _ z o=>max z.dep o.dep+1
def gZ(b:List Nat)(i:Int):Bool:=decide (0<=i)&&b[i.toNat]?==some 42
def T.lvs:T->List Nat->Option (List (List Nat×List (Option Int)))
 |.lf r,b=>some [(b,r)]
 |.sp i z o,b=>match gZ b i with
  |true=>(match z.lvs (b.set i.toNat 48),o.lvs (b.set i.toNat 49) with |some l,some m=>some (l++m) |_,_=>none)
  |false=>none
def lF(name:List Nat)(x:List Nat×List (Option Int)):D:=.tup [.str x.1,.tup (.str name::x.2.map oI)]
def dO(name:List Nat):Option (List (List Nat×List (Option Int)))->D
 |none=>.non
 |some l=>.lst (l.map (lF name))
theorem T.lvs_len:∀(t:T){b:List Nat}{l:List (List Nat×List (Option Int))},t.lvs b=some l->l.length<=2 ^ t.dep
 |.lf r,b,l,h=>by cases h;exact Nat.one_le_two_pow
 |.sp i z o,b,l,h=>by
  rw[T.lvs]at h;split at h
  ·split at h
   ·rename_i l1 l2 h1 h2;cases h;have e1:=z.lvs_len h1;have e2:=o.lvs_len h2;have e3:=Nat.pow_le_pow_right (show 0 < 2 by decide) (Nat.le_max_left z.dep o.dep);have e4:=Nat.pow_le_pow_right (show 0 < 2 by decide) (Nat.le_max_right z.dep o.dep);rw[List.length_append,T.dep,Nat.pow_succ];omega
   ·cases h
  ·cases h
theorem T.lvs_len'{n:Nat}{t:T}{b:List Nat}{l:List (List Nat×List (Option Int))}(h:t.lvs b=some l)(hn:t.dep < n)(hn':n<=12):l.length<=4096:=by
 have h1:=t.lvs_len h;have h3:=Nat.pow_le_pow_right (show 0 < 2 by decide) (show t.dep<=12 by omega);have h4:2 ^ 12=4096:=by decide
 omega
structure TA where
 name:List Nat
 b:List Nat
 t:T
def KY(n:Nat)(a:TA):Prop:=a.name≠jh/\a.b.length<=12/\a.t.dep < n/\n<=12
def dR(n:Nat):RF.Spec:=bF (λa:TA=>[.str a.b,a.t.d a.name]) (KY n) (λa=>dO a.name (a.t.lvs a.b))
theorem ye{n:Nat}{name b:List Nat}{t:T}{G:DH}{k:D->DH->Prop}{E:EK}(h1:name≠jh)(h2:b.length<=12)(h3:t.dep < n)(h4:n<=12)(hk:k (dO name (t.lvs b)) G):(dR n).t [.str b,t.d name] G k E:=bM ⟨name,b,t⟩ rfl ⟨h1,h2,h3,h4⟩ hk
theorem abF(ds:List D)(G:DH)(a:(dR 0).A):¬(dR 0).pre ds G a:=λ⟨_,_,_,_,h,_⟩=>by omega
theorem abG{b:List Nat}{i:Int}(h:gZ b i=true):0<=i/\∃n:Nat,i=n/\n < b.length/\b[n]?=some 42:=by
 unfold gZ at h;rw[Bool.and_eq_true]at h;have h1:=of_decide_eq_true h.1;have h2:b[i.toNat]?=some 42:=by simpa using h.2
 exact ⟨h1,i.toNat,by omega,(List.getElem?_eq_some_iff.mp h2).1,h2⟩
theorem abH (Φ:aa) (n:Nat) (h0:Φ "leaves"=dR n) (h1:Φ "is_named"=aP fB) (h2:Φ "is_place"=aP gb) (h3:Φ "with_sign"=aP fZ) (a:TA) (G:DH) (h:KY (n+1) a):au Φ gQ noE (env0 [.str a.b,a.t.d a.name] 3) G (ends λd G'=>G'=G/\d=dO a.name (a.t.lvs a.b)):=by
 obtain ⟨name,b,t⟩:=a;obtain ⟨hne,hbl,hd,hn⟩:=h;dsimp only at hne hbl hd ⊢;cases t with
 |lf r=>
  simp_all_arith[gQ];refine seq λM hM=>?_;simp_arith[h1,T.d];refine abD hne ?_;simp_arith[T.lvs,dO,List.map_cons,List.map_nil,lF];exact ⟨by decide,by decide⟩
 |sp i z o=>
  rw[T.dep]at hd;simp_all_arith[gQ];refine seq λM hM=>?_;simp_arith[h1,T.d];refine abE rfl ?_;simp_arith[ends];refine hM _ _ (seq λM hM=>?_);simp_arith[ends];refine hM _ _ (seq λM hM=>?_);simp_arith[h2];refine du (d:=.bl (isPlace b.length (.int i))) rfl ?_;cases hst:gZ b i with
  |false=>
   rw[T.lvs,hst];cases hp:isPlace b.length (.int i) with
   |false=>simp_arith[dO]
   |true=>
    unfold isPlace at hp;rw[Bool.and_eq_true]at hp;have p1:=of_decide_eq_true hp.1;have p2:=of_decide_eq_true hp.2;obtain ⟨m,rfl⟩:∃m:Nat,i=m:=⟨i.toNat,by omega⟩;have hm:m < b.length:=by omega
    have hc:b[m]?=some b[m]:=List.getElem?_eq_getElem hm;have hne42:((b[m]==42):Bool)=false:=by unfold gZ at hst;rw[decide_eq_true (by omega),Bool.true_and,Int.toNat_natCast,hc]at hst;simpa using hst
    simp_arith[ends];refine bZ (a:=b[m]) (bO hc) ?_;simp_arith[fY,hne42,dO]
  |true=>
   obtain ⟨_,m,rfl,hm,hc⟩:=abG hst;have hp:isPlace b.length (.int (m:Int))=true:=by show (decide (0<=(m:Int))&&decide ((m:Int) < b.length))=true;rw[decide_eq_true (by omega),decide_eq_true (by omega)];rfl
   have hl:(T.sp (m:Int) z o).lvs b=match z.lvs (b.set m 48),o.lvs (b.set m 49) with |some l,some m=>some (l++m) |_,_=>none:=by rw[T.lvs,hst,Int.toNat_natCast]
   rw[hp];simp_arith[ends];refine bZ (a:=42) (bO hc) ?_;simp_arith[BEq.rfl];refine hM _ _ (seq λM hM=>?_);simp_arith[h0,h3];refine sI hm (by omega) (ye hne (by rw[List.length_set];exact hbl) (by omega) (by omega) (hM _ _ (seq λM hM=>?_)));simp_arith[h0,h3];refine sI hm (by omega) (ye hne (by rw[List.length_set];exact hbl) (by omega) (by omega) (hM _ _ (seq λM hM=>?_)));cases e1:z.lvs (b.set m 48) with
   |none=>
    rw[e1]at hl;simp_arith[hl,dO]
   |some l1=>
    cases e2:o.lvs (b.set m 49) with
    |none=>
     rw[e1,e2]at hl;simp_arith[hl,dO]
    |some l2=>
     rw[e1,e2]at hl;have q1:=T.lvs_len' e1 (n:=n) (by omega) (by omega);have q2:=T.lvs_len' e2 (n:=n) (by omega) (by omega);simp_arith[dO];refine hM _ _ (last ?_);simp_arith[List.length_map,List.map_append,hl,dO];have hsz:sz=1000000:=rfl;omega
theorem abI(o:Option Nat):aN o=oI (o.map λn=>(n:Int)):=by cases o <;> rfl
def jj(rss:List (List Row))(c:List Nat):List (Option Int):=rss.map λrs=>(bJ rs c).map λn=>(n:Int)
theorem KZ{rss:List (List Row)}{c:List Nat}:(jj rss c).map oI=rss.map λrs=>aN (bJ rs c):=by unfold jj;rw[List.map_map];exact List.map_congr_left λrs _=>(abI _).symm
theorem Lv.tree{name:List Nat}{rss:List (List Row)}{b:List Nat}{d:D}{bs:List (List Nat)}(h:Lv name rss b d bs):∃t:T,d=t.d name/\t.dep<=stc b/\t.lvs b=some (bs.map λc=>(c,jj rss c)):=by
 induction h with
 |leaf b h=>exact ⟨.lf (jj rss b),by rw[T.d,KZ];rfl,Nat.zero_le _,rfl⟩
 |node b n z o l m h _ _ hz ho=>
  obtain ⟨tz,rfl,d1,e1⟩:=hz;obtain ⟨tO,rfl,d2,e2⟩:=ho;have s1:=ji h (show 48≠42 by decide);have s2:=ji h (show 49≠42 by decide);refine ⟨.sp n tz tO,rfl,?_,?_⟩
  ·rw[T.dep];have:=Nat.max_le.mpr ⟨show tz.dep<=stc (b.set n 48) from d1,show tO.dep<=stc (b.set n 48) by omega⟩;omega
  ·have hs:gZ b (n:Int)=true:=by unfold gZ;rw[decide_eq_true (by omega),Int.toNat_natCast,h];rfl
   rw[T.lvs,hs,Int.toNat_natCast,e1,e2];simp
theorem abJ{name:List Nat}{rss:List (List Row)}{c:List Nat}:lF name (c,jj rss c)=lE name rss c:=by unfold lF lE sO;rw[KZ]
theorem abK{n:Nat}{name:List Nat}{rss:List (List Row)}{b:List Nat}{d:D}{bs:List (List Nat)}{G:DH}{k:D->DH->Prop}{E:EK}(h:Lv name rss b d bs)(h1:name≠jh)(h2:b.length<=12)(h3:stc b < n)(hk:k (.lst (bs.map (lE name rss))) G)(h4:n<=12:=by decide):(dR n).t [.str b,d] G k E:=by
 obtain ⟨t,rfl,e1,e2⟩:=h.tree;refine ye h1 h2 (by omega) h4 ?_;rw[e2,dO,List.map_map];have:(lF name∘λc=>(c,jj rss c))=lE name rss:=by funext c;exact abJ
 rw[this];exact hk
def fD:List Nat->List (List Nat)
 |[]=>[[]]
 |c::f=>(alt c).flatMap λs=>(fD f).map (s::·)
theorem K1:∀(f:List Nat)(acc:List (List Nat)),f.foldl step1 acc=acc.flatMap λt=>(fD f).map (t ++ ·)
 |[],acc=>by simp[fD]
 |c::f,acc=>by
  rw[List.foldl_cons,K1 f,step1,List.flatMap_assoc];congr 1;funext t;rw[fD,List.flatMap_map,List.map_flatMap];congr 1;funext s;rw[List.map_map];congr 1;funext x;simp
theorem abL(f:List Nat):bu f=fD f:=by unfold bu;rw[K1];simp
theorem abM{w:Nat}{G:DH}{k:D->DH->Prop}{E:EK}(h:w<=1000)(hk:k (.str (List.replicate w 42)) G):(aP gY).t [.int w] G k E:=
 du (d:=.str (List.replicate w 42)) (by unfold gY;dsimp only;rw[if_pos (by simp only[Bool.and_eq_true,decide_eq_true_iff];omega),Int.toNat_natCast]) hk
def cC(l:List Nat):List Nat:=l.map λa=>if a=42 then 48 else a
def jk:List D->Option D
 |[.str l]=>if decide (l.length<=1000) then some (.str (cC l)) else none
 |_=>none
theorem abN{l:List Nat}{G:DH}{k:D->DH->Prop}{E:EK}(h:l.length<=1000)(hk:k (.str (cC l)) G):(aP jk).t [.str l] G k E:=du (if_pos (decide_eq_true h)) hk
theorem abO{b l:List Nat}{n:Nat}(h:Fits b l)(hn:b[n]?=some 42):Fits (b.set n 48) l\/Fits (b.set n 49) l:=by
 obtain ⟨hl,he⟩:=List.getElem?_eq_some_iff.mp hn;have hnl:n < l.length:=by rw[<-h.1];exact hl
 have hs:=h.2 n 42 l[n] hn (List.getElem?_eq_getElem hnl);have put:∀c,l[n]=c->c≠42->Fits (b.set n c) l:=by
  intro c hc hc42;refine ⟨by rw[List.length_set];exact h.1,λi x y hx hy=>?_⟩;rw[List.getElem?_set]at hx;by_cases hi:n=i
  ·subst hi;rw[if_pos rfl,if_pos hl]at hx;rw[List.getElem?_eq_getElem hnl]at hy;cases hx;cases hy;unfold alt;rw[if_neg hc42,hc];simp
  ·rw[if_neg hi]at hx;exact h.2 i x y hx hy
 unfold alt at hs;rw[if_pos rfl]at hs;have:l[n]=48\/l[n]=49:=by simpa using hs
 rcases this with e |e
 ·exact .inl (put 48 e (by decide))
 ·exact .inr (put 49 e (by decide))
theorem K3{b l:List Nat}{n c:Nat}(h:Fits (b.set n c) l)(hn:b[n]?=some 42)(hc:c=48\/c=49):Fits b l:=by
 have hl:=(List.getElem?_eq_some_iff.mp hn).1;refine ⟨by have:=h.1;rwa [List.length_set]at this,λi x y hx hy=>?_⟩;by_cases hi:n=i
 ·subst hi;rw[hn]at hx;cases hx;have:=h.2 n c y (by rw[List.getElem?_set,if_pos rfl,if_pos hl]) hy;unfold alt at this ⊢;rw[if_neg (by omega)]at this;rw[if_pos rfl];have e:y=c:=by simpa using this
  rw[e];simpa using hc
 ·exact h.2 i x y (by rw[List.getElem?_set,if_neg hi];exact hx) hy
theorem Lv.cover{name:List Nat}{rss:List (List Row)}{b:List Nat}{d:D}{bs:List (List Nat)}(h:Lv name rss b d bs):∀l,Fits b l->∃c∈bs,Fits c l:=by
 induction h with
 |leaf b h=>exact λl hl=>⟨b,by simp,hl⟩
 |node b n z o l m h _ _ hz ho=>
  intro w hw;rcases abO hw h with e |e
  ·obtain ⟨c,hc,hf⟩:=hz w e;exact ⟨c,List.mem_append.mpr (.inl hc),hf⟩
  ·obtain ⟨c,hc,hf⟩:=ho w e;exact ⟨c,List.mem_append.mpr (.inr hc),hf⟩
theorem Lv.within{name:List Nat}{rss:List (List Row)}{b:List Nat}{d:D}{bs:List (List Nat)}(h:Lv name rss b d bs):∀c∈bs,∀l,Fits c l->Fits b l:=by
 induction h with
 |leaf b h=>intro c hc l hl;rw[List.mem_singleton.mp hc]at hl;exact hl
 |node b n z o l m h _ _ hz ho=>
  intro c hc w hw;rcases List.mem_append.mp hc with hc |hc
  ·exact K3 (hz c hc w hw) h (.inl rfl)
  ·exact K3 (ho c hc w hw) h (.inr rfl)
theorem abP{a s:Nat}{f l:List Nat}(h:Fits (a::f) (s::l)):s∈alt a/\Fits f l:=
 ⟨h.2 0 a s rfl rfl,by have:=h.1;simpa using this,λi c t h1 h2=>h.2 (i+1) c t (by simpa using h1) (by simpa using h2)⟩
theorem abQ{a s:Nat}{f l:List Nat}(h1:s∈alt a)(h2:Fits f l):Fits (a::f) (s::l):=⟨by simp[h2.1],λi c t hc ht=>by
 cases i with
 |zero=>simp at hc ht;rw[<-hc,<-ht];exact h1
 |succ i=>exact h2.2 i c t (by simpa using hc) (by simpa using ht)⟩
theorem yf:∀c:List Nat,Fits c (cC c)
 |[]=>⟨rfl,λi c s h=>by simp at h⟩
 |a::c=>by
  show Fits (a::c) ((if a=42 then 48 else a)::cC c);refine abQ ?_ (yf c);unfold alt;split <;> simp
theorem K4:∀{c l:List Nat},Fits c l->¬l < cC c
 |[],l,h=>by
  have:l=[]:=List.length_eq_zero_iff.mp h.1.symm;subst this;exact List.lt_irrefl _
 |a::c,[],h=>by have:=h.1;simp at this
 |a::c,s::l,h=>by
  obtain ⟨h1,h2⟩:=abP h;show ¬(s::l) < ((if a=42 then 48 else a)::cC c);rw[List.cons_lt_cons_iff];have ih:=K4 h2;unfold alt at h1;split at h1
  ·rename_i e;rw[if_pos e];have:s=48\/s=49:=by simpa using h1
   rintro (q |q)
   ·omega
   ·exact ih q.2
  ·rename_i e;rw[if_neg e];have:s=a:=by simpa using h1
   rintro (q |q)
   ·omega
   ·exact ih q.2
theorem K5:∀{x m a:List Nat},x < m->¬a < m->x < a
 |x,[],a,h,_=>absurd h (by simp)
 |x,b::m,[],_,h=>absurd (by simp) h
 |[],b::m,y::a,_,_=>by simp
 |c::x,b::m,y::a,h,g=>by
  rw[List.cons_lt_cons_iff]at h g ⊢;have g1:¬y < b:=λe=>g (.inl e);rcases h with h |⟨h1,h2⟩
  ·exact .inl (by omega)
  ·by_cases e:y=b
   ·exact .inr ⟨by omega,K5 h2 λz=>g (.inr ⟨e,z⟩)⟩
   ·exact .inl (by omega)
theorem K6:∀f:List Nat,(fD f).Pairwise (· < ·)
 |[]=>by simp[fD]
 |c::f=>by
  have ih:=K6 f;have one:∀s:Nat,((fD f).map (s::·)).Pairwise (· < ·):=λs=>List.pairwise_map.mpr (ih.imp λh=>List.cons_lt_cons_iff.mpr (.inr ⟨rfl,h⟩));rw[fD];unfold alt;split
  ·rw[List.flatMap_cons,List.flatMap_cons,List.flatMap_nil,List.append_nil,List.pairwise_append];refine ⟨one 48,one 49,λa ha b hb=>?_⟩;obtain ⟨x,_,rfl⟩:=List.mem_map.mp ha;obtain ⟨y,_,rfl⟩:=List.mem_map.mp hb;exact List.cons_lt_cons_iff.mpr (.inl (by decide))
  ·rw[List.flatMap_cons,List.flatMap_nil,List.append_nil];exact one c
theorem abR{u:List (List Nat)}{m:List Nat}(h:u.Pairwise (· < ·))(hm:m∈u)(hl:∀x∈u,¬x < m):u.head?=some m:=by
 cases u with
 |nil=>cases hm
 |cons a u=>
  rcases List.mem_cons.mp hm with e |hm
  ·rw[e];rfl
  ·exact absurd ((List.pairwise_cons.mp h).1 m hm) (hl a List.mem_cons_self)
theorem abS{ds:List D}{ls:List (List Nat)}{k:D->Prop}(h0:bT ds=none)(h:bA ds=some ls)(hk:∀m,m∈ls->(∀a,a∈ls->¬a < m)->k (.str m)):opB .min [.lst ds] k:=by show jr [.lst ds] k;unfold jr;dsimp only;rw[h0,h];exact hk
def K7:List Nat:=[115,97,109,101]
def K8:List Nat:=[112,97,114,116,101,100]
def K9:List Nat:=[97,108,105,107,101]
def sS:RF.Spec:=bF (λa:Nat×List Row×List Row=>[aq a.1 a.2.1,aq a.1 a.2.2]) (λa=>okB a.1 a.2.1/\okB a.1 a.2.2) (λ_=>.non)
theorem abT{w:Nat}{rs ss:List Row}{G:DH}{k:D->DH->Prop}{E:EK}(h:okB w rs)(h':okB w ss)(hk:k .non G):sS.t [aq w rs,aq w ss] G k E:=bM (w,rs,ss) rfl ⟨h,h'⟩ hk
theorem abU (Φ:aa) (h1:Φ "need_book"=jf) (a:Nat×List Row×List Row) (G:DH) (h:okB a.1 a.2.1/\okB a.1 a.2.2):au Φ kE noE (env0 [aq a.1 a.2.1,aq a.1 a.2.2] 0) G (ends λd G'=>G'=G/\d=.non):=by obtain ⟨w,rs,ss⟩:=a;obtain ⟨hb,hc⟩:=h;dsimp only at hb hc ⊢;simp_all_arith[kE];refine seq λM hM=>?_;simp_arith[h1];refine sy hb (hM _ _ (seq λM hM=>?_));simp_arith[h1];refine sy hc (hM _ _ (last ?_));simp_arith[aq,BEq.rfl,and_self]
def aX(rs:List Row)(o:Option Nat):Option (List Nat):=o.bind λn=>rs[n]?.map (·.2)
theorem La{rs:List Row}{o:Option Nat}:jg rs o=bG (aX rs o):=by
 cases o with
 |none=>rfl
 |some n=>
  unfold jg aX;dsimp only[Option.bind];cases rs[n]? <;> rfl
structure SD where
 w:Nat
 rs:List Row
 ss:List Row
 name:List Nat
 o:Option Nat
 p:Option Nat
def sSD:RF.Spec:=bF (λa:SD=>[aq a.w a.rs,aq a.w a.ss,.tup [.str a.name,aN a.o,aN a.p]]) (λa=>(∀n,a.o=some n->n < a.rs.length)/\∀n,a.p=some n->n < a.ss.length) (λa=>.bl (aX a.rs a.o==aX a.ss a.p))
theorem abV{w:Nat}{rs ss:List Row}{name:List Nat}{o p:Option Nat}{G:DH}{k:D->DH->Prop}{E:EK}(h1:∀n,o=some n->n < rs.length)(h2:∀n,p=some n->n < ss.length)(hk:k (.bl (aX rs o==aX ss p)) G):sSD.t [aq w rs,aq w ss,.tup [.str name,aN o,aN p]] G k E:=bM ⟨w,rs,ss,name,o,p⟩ rfl ⟨h1,h2⟩ hk
theorem abW (Φ:aa) (h1:Φ "deed_of"=sE) (a:SD) (G:DH) (h:(∀n,a.o=some n->n < a.rs.length)/\∀n,a.p=some n->n < a.ss.length):au Φ kI noE (env0 [aq a.w a.rs,aq a.w a.ss,.tup [.str a.name,aN a.o,aN a.p]] 0) G (ends λd G'=>G'=G/\d=.bl (aX a.rs a.o==aX a.ss a.p)):=by obtain ⟨w,rs,ss,name,o,p⟩:=a;obtain ⟨ho,hp⟩:=h;dsimp only at ho hp ⊢;simp_arith[kI,h1];refine Ku ho (Ku hp ?_);rw[La,La];cases aX rs o <;> cases aX ss p <;> simp_arith[bG] <;> first |done | (simp;done) | (refine ⟨by decide,?_⟩;simp;done)
def cg(w:Nat)(rs ss:List Row):List (List Nat):=(bu (List.replicate w 42)).filter λl=>!(aX rs (aZ rs l)==aX ss (aZ ss l))
def dU(rs ss:List Row)(c:List Nat):Bool:=aX rs (bJ rs c)==aX ss (bJ ss c)
def yg(w:Nat)(rs ss:List Row)(d:D):Prop:=
 (∃m,(cg w rs ss).head?=some m/\d=.tup [.str K8,.str m])\/(cg w rs ss=[]/\∃t bs,d=.tup [.str K9,t]/\Lv K7 [rs,ss] (List.replicate w 42) t bs/\∀c∈bs,dU rs ss c=true)
def sU:RF.Spec:=ghS (A:=Nat×List Row×List Row) (λa ds _=>ds=[aq a.1 a.2.1,aq a.1 a.2.2]/\okB a.1 a.2.1/\okB a.1 a.2.2) (λa G d G'=>G'=G/\yg a.1 a.2.1 a.2.2 d)
theorem abX{w:Nat}{rs ss:List Row}{G:DH}{k:D->DH->Prop}{E:EK}(h:okB w rs)(h':okB w ss)(hk:∀d,yg w rs ss d->k d G):sU.t [aq w rs,aq w ss] G k E:=
 fV (w,rs,ss) ⟨rfl,h,h'⟩ λd G' hx=>by
  obtain ⟨e,q⟩:=hx;subst e;exact hk d q
theorem abY (Φ:aa) (h1:Φ "need_two_books"=sS) (h2:Φ "grown"=eG 9) (h3:Φ "leaves"=dR 9) (h4:Φ "least"=aP jk) (h5:Φ "stars"=aP gY) (h6:Φ "same_deeds"=sSD) (a:Nat×List Row×List Row) (ds:List D) (G:DH) (h:ds=[aq a.1 a.2.1,aq a.1 a.2.2]/\okB a.1 a.2.1/\okB a.1 a.2.2):
  au Φ kO noE (env0 ds 3) G (ends λd G'=>G'=G/\yg a.1 a.2.1 a.2.2 d):=by
 obtain ⟨w,rs,ss⟩:=a;obtain ⟨rfl,hb,hb'⟩:=h;dsimp only at hb hb' ⊢;have hw6:=hb.w6;have hst:=abr w;have hrl:∀r∈rs,r.1.length=w:=λr hr=>(hb.form r hr).1;have hsl:∀r∈ss,r.1.length=w:=λr hr=>(hb'.form r hr).1;have e0:∀xs:List Row,D.tup [.int w,.tup (xs.map aH)]=aq w xs:=λ_=>rfl;simp_all_arith[kO];refine seq λM hM=>?_;simp_arith[h1];refine abT hb hb' (hM _ _ (seq λM hM=>?_));simp_arith[aq,h5];refine abM (by omega) (hM _ _ (seq λM hM=>?_));simp_arith[h2];have er:[D.tup (rs.map aH),.tup (ss.map aH)]=dN [rs,ss]:=rfl;rw[er];refine ⟨by decide,yd (name:=K7) ⟨by simp,by decide,λxs hxs r hr=>?_,by omega⟩ List.length_replicate (by omega) λt ht=>hM _ _ (seq λM hM=>?_)⟩
 ·rcases List.mem_cons.mp hxs with e |hxs
  ·rw[e]at hr;exact hrl r hr
  ·rw[List.mem_singleton.mp hxs]at hr;exact hsl r hr
 obtain ⟨bs,hL⟩:=ht.lv;have hlen:=hL.len' (by rw[List.length_replicate];omega);simp_arith[h3];refine abK hL (by decide) (by rw[List.length_replicate];omega) (by omega) ?_;simp_arith[ends];refine CompG.inv (P:=λi acc ρ G'=>(∃o1 o2,ρ=[o1,o2,some (.tup [.int w,.tup (rs.map aH)]),some (.tup [.int w,.tup (ss.map aH)])])/\G'=G/\acc=((bs.take i).filter λc=>!dU rs ss c).map λc=>D.str (cC c)) ⟨⟨_,_,rfl⟩,rfl,rfl⟩ (λ_ _ _ _ _=>trivial) (by rw[List.length_map];have hsz:sz=1000000:=rfl;omega) ?_ ?_
 ·rintro i d acc ρ G' hd ⟨⟨o1,o2,rfl⟩,rfl,rfl⟩ kk hk;rw[List.getElem?_map]at hd;obtain ⟨c,hcb,rfl⟩:=Option.map_eq_some_iff.mp hd;have hcl:=(hL.box c (List.mem_of_getElem? hcb)).1;rw[List.length_replicate]at hcl;have htk:bs.take (i+1)=bs.take i++[c]:=by rw[List.take_add_one,hcb];rfl
  simp_arith[lE,sO,List.map_cons,List.map_nil,h6];rw[e0,e0];refine abV (λn hn=>sH hn) (λn hn=>sH hn) ?_;have es:(aX rs (bJ rs c)==aX ss (bJ ss c))=dU rs ss c:=rfl;rw[es];cases hsb:dU rs ss c with
  |true=>
   simp_arith[ends];exact hk _ _ _ ⟨⟨_,_,rfl⟩,rfl,by rw[htk,List.filter_append];simp[hsb]⟩
  |false=>
   simp_arith[h4];refine abN (by omega) (hk _ _ _ ⟨⟨_,_,rfl⟩,rfl,by rw[htk,List.filter_append];simp[hsb]⟩)
 ·rintro acc ρ G' ⟨_,rfl,rfl⟩;rw[List.length_map,List.take_length];refine hM _ _ (seq λM hM=>?_);have meet:∀xs∈[rs,ss],∀c∈bs,∀l,Fits c l->aZ xs l=bJ xs c:=by
   intro xs hxs c hc l hl;obtain ⟨e1,e2⟩:=hL.box c hc;rw[List.length_replicate]at e1;have okc:=hL.okf (aa3 w) c hc;refine abt (λr hr=>?_) (e2 _ hxs) (abA okc hl) hl;rcases List.mem_cons.mp hxs with e |hxs
   ·rw[e]at hr;rw[hrl r hr,e1]
   ·rw[List.mem_singleton.mp hxs]at hr;rw[hsl r hr,e1]
  have both:∀c∈bs,∀l,Fits c l->(aX rs (aZ rs l)==aX ss (aZ ss l))=dU rs ss c:=by intro c hc l hl;rw[meet rs (by simp) c hc l hl,meet ss (by simp) c hc l hl];rfl
  cases hfr:bs.filter λc=>!dU rs ss c with
  |nil=>
   have hall:∀c∈bs,dU rs ss c=true:=by
    intro c hc;have:=List.filter_eq_nil_iff.mp hfr c hc;cases h:dU rs ss c with
    |false=>rw[h]at this;exact absurd rfl this
    |true=>rfl
   simp_arith[List.map_nil];refine hM _ _ (last ?_);simp_arith[ends];refine ⟨by decide,.inr ⟨?_,t,bs,rfl,hL,hall⟩⟩;unfold cg;rw[List.filter_eq_nil_iff];intro l hl;obtain ⟨c,hc',hfc⟩:=hL.cover l (lu.mp hl);rw[both c hc' l hfc,hall c hc'];simp
  |cons c0 cs=>
   have hne:(!(List.isEmpty (D.str (cC c0)::cs.map λc=>D.str (cC c))))=true:=rfl;simp_arith[List.map_cons,hne];rw[<-List.map_cons (f:=λc=>D.str (cC c)),<-hfr];have es:bA ((bs.filter λc=>!dU rs ss c).map λc=>D.str (cC c))=some ((bs.filter λc=>!dU rs ss c).map cC):=strs_map _ _;have ei:bT ((bs.filter λc=>!dU rs ss c).map λc=>D.str (cC c))=none:=by rw[hfr];rfl
   refine abS ei es λm hm hlow=>?_;obtain ⟨c,hcm,rfl⟩:=List.mem_map.mp hm;obtain ⟨hcb,hcn⟩:=List.mem_filter.mp hcm;refine ⟨by decide,.inl ⟨cC c,?_,rfl⟩⟩;refine abR ?_ ?_ ?_
   ·unfold cg;rw[abL];exact (K6 _).filter _
   ·unfold cg;rw[List.mem_filter];refine ⟨lu.mpr (hL.within c hcb _ (yf c)),?_⟩;rw[both c hcb _ (yf c)];exact hcn
   ·intro x hx hlt;unfold cg at hx;obtain ⟨hx1,hx2⟩:=List.mem_filter.mp hx;obtain ⟨c',hc',hfc⟩:=hL.cover x (lu.mp hx1);rw[both c' hc' x hfc]at hx2;have hlow':=hlow (cC c') (List.mem_map.mpr ⟨c',List.mem_filter.mpr ⟨hc',hx2⟩,rfl⟩);exact K4 hfc (K5 hlt hlow')
def sV:RF.Spec:=bF (A:=Nat×List Row×List Nat) (λa=>[aq a.1 a.2.1,.str a.2.2]) (λa=>∀r∈a.2.1,r.1.length=a.2.2.length) (λa=>bG (aX a.2.1 (aZ a.2.1 a.2.2)))
theorem Lb{w:Nat}{rs:List Row}{l:List Nat}{G:DH}{k:D->DH->Prop}{E:EK}(h:∀r∈rs,r.1.length=l.length)(hk:k (bG (aX rs (aZ rs l))) G):sV.t [aq w rs,.str l] G k E:=bM (w,rs,l) rfl h hk
theorem abZ (Φ:aa) (h1:Φ "_law_met"=sJ) (a:Nat×List Row×List Nat) (G:DH) (h:∀r∈a.2.1,r.1.length=a.2.2.length):
  au Φ wY noE (env0 [aq a.1 a.2.1,.str a.2.2] 1) G (ends λd G'=>G'=G/\d=bG (aX a.2.1 (aZ a.2.1 a.2.2))):=by
 obtain ⟨w,rs,l⟩:=a;dsimp only at h ⊢;simp_all_arith[wY];refine seq λM hM=>?_;simp_arith[h1];refine aby h (hM _ _ (seq λM hM=>?_));cases hm:aZ rs l with
 |none=>simp_arith[aN,aX,Option.bind,bG,and_self]
 |some n=>
  have hn:=aa0 hm;have hc:rs[n]?=some rs[n]:=List.getElem?_eq_getElem hn;simp_arith[aN];refine hM _ _ (last ?_);simp_arith[aq];refine bZ (a:=aH rs[n]) (bO (by rw[List.getElem?_map,hc];rfl)) ?_;simp_arith[aH];simp[aX,hc,hm,bG]
def sW:RF.Spec:=ghS (A:=Nat×List Row×List Row) (λa ds _=>ds=[aq a.1 a.2.1,aq a.1 a.2.2]/\okB a.1 a.2.1/\okB a.1 a.2.2) (λa G d G'=>Sa G G'/\d=bG (cg a.1 a.2.1 a.2.2).head?)
theorem ab0{w:Nat}{rs ss:List Row}{G:DH}{k:D->DH->Prop}{E:EK}(h:okB w rs)(h':okB w ss)(hk:∀G',Sa G G'->k (bG (cg w rs ss).head?) G'):sW.t [aq w rs,aq w ss] G k E:=
 fV (w,rs,ss) ⟨rfl,h,h'⟩ λd G' hx=>by
  obtain ⟨e,q⟩:=hx;subst q;exact hk G' e
theorem ab1 (Φ:aa) (h1:Φ "_law_words"=su) (h2:Φ "_law_deed"=sV) (a:Nat×List Row×List Row) (ds:List D) (G:DH) (h:ds=[aq a.1 a.2.1,aq a.1 a.2.2]/\okB a.1 a.2.1/\okB a.1 a.2.2):
  au Φ w5 noE (env0 ds 1) G (ends λd G'=>Sa G G'/\d=bG (cg a.1 a.2.1 a.2.2).head?):=by
 obtain ⟨w,rs,ss⟩:=a;obtain ⟨rfl,hb,hb'⟩:=h;dsimp only at hb hb' ⊢;have hw6:=hb.w6;have e0:∀xs:List Row,D.tup [.int w,.tup (xs.map aH)]=aq w xs:=λ_=>rfl;simp_all_arith[w5];refine seq λM hM=>?_;simp_arith![aq,h1,Int.toNat_natCast,Kv];refine ⟨by omega,by omega,by have hsz:sz=1000000:=rfl;omega,aaO (by rw[List.length_replicate];omega) λG1 sa1=>?_⟩;simp_arith![ends];refine ForG.inv (P:=λi ρ G'=>(∃o2,ρ=[some (.tup [.int w,.tup (rs.map aH)]),some (.tup [.int w,.tup (ss.map aH)]),o2])/\G'=G1/\((bu (List.replicate w 42)).take i).filter (λl=>!(aX rs (aZ rs l)==aX ss (aZ ss l)))=[]) ⟨⟨_,rfl⟩,rfl,rfl⟩ (λ_ _ _ _=>trivial) ?_ ?_
 ·rintro i d ρ G' hd ⟨⟨o2,rfl⟩,rfl,hall⟩ kk hk;rw[List.getElem?_map]at hd;obtain ⟨l,hl,rfl⟩:=Option.map_eq_some_iff.mp hd;have hlm:=List.mem_of_getElem? hl;have hll:l.length=w:=by have:=(aa4.mp (lu.mp hlm)).1;exact this
  have htk:(bu (List.replicate w 42)).take (i+1)=(bu (List.replicate w 42)).take i++[l]:=by rw[List.take_add_one,hl];rfl
  simp_arith![ends];refine last ?_;simp_arith[h2];rw[e0,e0];refine Lb (λr hr=>by rw[(hb.form r hr).1,hll]) ?_;refine Lb (λr hr=>by rw[(hb'.form r hr).1,hll]) ?_;have done:(aX rs (aZ rs l)==aX ss (aZ ss l))=true->∀o2,kk [some (.tup [.int w,.tup (rs.map aH)]),some (.tup [.int w,.tup (ss.map aH)]),o2] G':=λhe o2=>hk _ _ ⟨⟨_,rfl⟩,rfl,by rw[htk,List.filter_append,hall];simp[he]⟩;have found:(aX rs (aZ rs l)==aX ss (aZ ss l))=false->(cg w rs ss).head?=some l:=λhe=>by
   unfold cg;have e:=List.take_append_drop (i+1) (bu (List.replicate w 42));rw[<-e,htk,List.filter_append,List.filter_append,hall];simp[he]
  generalize aX rs (aZ rs l)=x at done found;generalize aX ss (aZ ss l)=y at done found;cases x <;> cases y <;> simp_arith[bG]
  ·exact done rfl _
  ·rw[found rfl];exact ⟨sa1,rfl⟩
  ·rw[found rfl];exact ⟨sa1,rfl⟩
  ·rename_i u v;cases he:(u==v) with
   |true=>
    simp_arith[ends];exact done (by simpa using he) _
   |false=>
    simp_arith[ends];rw[found (by simpa using he)];exact ⟨sa1,rfl⟩
 ·rintro ρ G' ⟨⟨o2,rfl⟩,rfl,hall⟩;rw[List.length_map,List.take_length]at hall;refine hM _ _ ?_;simp_arith[ends];refine ⟨sa1,?_⟩;unfold cg;rw[hall];rfl
def sX:RF.Spec:=bF (λa:Nat×List Row×List Row=>[aq a.1 a.2.1,aq a.1 a.2.2]) (λa=>okB a.1 a.2.1/\okB a.1 a.2.2) (λa=>bG (cg a.1 a.2.1 a.2.2).head?)
theorem ab2{w:Nat}{rs ss:List Row}{G:DH}{k:D->DH->Prop}{E:EK}(h:okB w rs)(h':okB w ss)(hk:k (bG (cg w rs ss).head?) G):sX.t [aq w rs,aq w ss] G k E:=bM (w,rs,ss) rfl ⟨h,h'⟩ hk
theorem ab3 (Φ:aa) (h1:Φ "alike"=sU) (a:Nat×List Row×List Row) (G:DH) (h:okB a.1 a.2.1/\okB a.1 a.2.2):au Φ kW noE (env0 [aq a.1 a.2.1,aq a.1 a.2.2] 2) G (ends λd G'=>G'=G/\d=bG (cg a.1 a.2.1 a.2.2).head?):=by
 obtain ⟨w,rs,ss⟩:=a;obtain ⟨hb,hb'⟩:=h;dsimp only at hb hb' ⊢;have eb:(([97,108,105,107,101]==[112,97,114,116,101,100]):Bool)=false:=by decide
 simp_all_arith[kW];refine seq λM hM=>?_;simp_arith[h1];refine abX hb hb' λd hq=>?_;rcases hq with ⟨m,hm,rfl⟩ |⟨hnil,t,bs,rfl,_,_⟩
 ·simp_arith[K8];refine hM _ _ (last ?_);simp_arith[BEq.rfl,hm,bG,and_self]
 ·simp_arith[K9];refine hM _ _ (last ?_);simp_arith[eb,hnil,List.head?_nil,bG,and_self]
theorem ab4{α:Type}(l:List α)(n:Nat):cut l (some ((n:Int)+2)) none=l.drop (n+2):=wC l (n+2)
theorem ab5{rs:List Row}{n:Nat}(h:n < rs.length):(rs.map aH)[n]?=some (aH (rs.getD n ([],[]))):=by rw[List.getElem?_map,List.getD_eq_getElem?_getD,List.getElem?_eq_getElem h];rfl
def aC(o:List Nat):D:=.tup (o.map λi:Nat=>D.int (i:Int))
def okO(n:Nat)(o:List Nat):Prop:=o.Perm (List.range n)
theorem okO.len{n:Nat}{o:List Nat}(h:okO n o):o.length=n:=by rw[List.Perm.length_eq h,List.length_range]
theorem okO.mem{n i:Nat}{o:List Nat}(h:okO n o)(hi:i∈o):i < n:=List.mem_range.mp ((List.Perm.mem_iff h).mp hi)
theorem lG(n:Nat):D.tup (aR 0 n)=aC (List.range n):=by unfold aR aC;congr 1;exact List.map_congr_left (λ(i:Nat) _=>by rw[Int.zero_add])
def ie(o:List Nat):List Int:=o.map λi:Nat=>(i:Int)
theorem yh(o:List Nat):o.map (λi:Nat=>D.int (i:Int))=(ie o).map D.int:=by unfold ie;rw[List.map_map];rfl
theorem ab6(n:Nat):aR 0 n=(ie (List.range n)).map D.int:=by have:=lG n;unfold aC at this;rw[yh]at this;exact D.tup.inj this
theorem Ld:∀l:List Int,bT (l.map D.int)=some l
 |[]=>rfl
 |a::l=>by rw[List.map_cons,bT,Ld l]
theorem ab7:∀n:Fin 13,(ie (List.range n.1)).Pairwise (·<=·):=by decide
theorem Lg:∀{a b:List Int},a.Perm b->a.Pairwise (·<=·)->b.Pairwise (·<=·)->a=b
 |[],b,h,_,_=>h.nil_eq
 |x::a,[],h,_,_=>absurd h.length_eq (by simp)
 |x::a,y::b,h,ha,hb=>by
  rw[List.pairwise_cons]at ha hb;have h1:x∈y::b:=h.mem_iff.mp List.mem_cons_self;have h2:y∈x::a:=h.mem_iff.mpr List.mem_cons_self;have e:x=y:=by
   rcases List.mem_cons.mp h1 with e |m
   ·exact e
   ·rcases List.mem_cons.mp h2 with e |m'
    ·exact e.symm
    ·have:=hb.1 x m;have:=ha.1 y m';omega
  subst e;rw[Lg (List.perm_cons x |>.mp h) ha.2 hb.2]
theorem lH:∀l:List Int,nrs (l.map D.int)=true/\bc (l.map D.int)=0
 |[]=>⟨rfl,rfl⟩
 |a::l=>by
  obtain ⟨h1,h2⟩:=lH l;rw[List.map_cons,nrs,bc,h1,h2];exact ⟨rfl,rfl⟩
theorem sY(o:List Nat):nr (aC o)=true/\dpt (aC o)<=1:=by unfold aC;rw[yh,nr,dpt,(lH _).1,(lH _).2];exact ⟨rfl,Nat.le_refl _⟩
def sZ:RF.Spec:=bF (λa:Nat×List Row=>[aq a.1 a.2]) (λa=>okB a.1 a.2) (λa=>aC (List.range a.2.length))
theorem ab8{w:Nat}{rs:List Row}{G:DH}{k:D->DH->Prop}{E:EK}(h:okB w rs)(hk:k (aC (List.range rs.length)) G):sZ.t [aq w rs] G k E:=bM (w,rs) rfl h hk
theorem ab9(Φ:aa)(a:Nat×List Row)(G:DH)(h:okB a.1 a.2):au Φ jR noE (env0 [aq a.1 a.2] 0) G (ends λd G'=>G'=G/\d=aC (List.range a.2.length)):=by obtain ⟨w,rs⟩:=a;dsimp only at h ⊢;have hlen:=h.len;simp_arith[jR,aq,List.length_map,Int.toNat_natCast];exact ⟨⟨by omega,by omega⟩,lG _⟩
def tu:RF.Spec:=bF (A:=Nat×List Row×List Nat) (λa=>[aq a.1 a.2.1,aC a.2.2]) (λa=>okB a.1 a.2.1/\okO a.2.1.length a.2.2) (λ_=>.bl true)
theorem aca{w:Nat}{rs:List Row}{o:List Nat}{G:DH}{k:D->DH->Prop}{E:EK}(h:okB w rs)(ho:okO rs.length o)(hk:k (.bl true) G):tu.t [aq w rs,aC o] G k E:=bM (w,rs,o) rfl ⟨h,ho⟩ hk
theorem acb (Φ:aa) (h1:Φ "is_place"=aP gb) (a:Nat×List Row×List Nat) (G:DH) (h:okB a.1 a.2.1/\okO a.2.1.length a.2.2):au Φ j5 noE (env0 [aq a.1 a.2.1,aC a.2.2] 1) G (ends λd G'=>G'=G/\d=.bl true):=by
 obtain ⟨w,rs,o⟩:=a;obtain ⟨hb,ho⟩:=h;dsimp only at hb ho ⊢;have hlen:=hb.len;have hol:=ho.len;unfold aC;simp_all_arith[j5];refine seq λM hM=>?_;simp_arith[aq,List.length_map];refine hM _ _ (seq λM hM=>?_);simp_arith[h1];refine CompG.map (f:=λ_=>.bl true) (I:=λρ=>∃o,ρ=[o,some (.int (rs.length:Nat))]) ⟨_,rfl⟩ trivial (by rw[List.length_map];have hsz:sz=1000000:=rfl;omega) ?_ ?_
 ·rintro d ρ hd ⟨o,rfl⟩ kk hk;obtain ⟨i,hm,rfl⟩:=List.mem_map.mp hd;have hi:=ho.mem hm;have hp:isPlace (rs.length:Int) (.int (i:Int))=true:=by
   show (decide (0<=(i:Int))&&decide ((i:Int) < (rs.length:Int)))=true;rw[decide_eq_true (by omega),decide_eq_true (by omega)];rfl
  simp_arith[h1];refine du (show gb [.int (rs.length:Int),.int (i:Int)]=some (.bl true) from by rw[<-hp];rfl) ?_;exact hk _ ⟨_,rfl⟩
 ·have ea:∀m:List D,(m.map λ_=>true).all id=true:=λm=>by induction m with |nil=>rfl |cons _ _ ih=>rw[List.map_cons,List.all_cons,ih];rfl
  simp_arith[wA,ea];refine hM _ _ (last ?_);simp_arith[ends];rw[yh];refine bZ (Ld _) ⟨by unfold ie;rw[List.length_map];omega,λns hp hs=>?_⟩;have hpn:ns.Perm (ie (List.range rs.length)):=hp.trans (List.Perm.map _ ho);rw[Lg hpn hs (ab7 ⟨rs.length,by omega⟩)];have hn2:=lH (ie (List.range rs.length));refine ⟨⟨by omega,by omega⟩,?_⟩;simp only[Int.toNat_natCast];rw[ab6];refine ⟨⟨hn2.1,hn2.1,by rw[hn2.2];decide⟩,?_⟩;rw[jB hn2.1]
def lJ:RF.Spec:=bF (A:=Nat×List Row×List Nat) (λa=>[aq a.1 a.2.1,aC a.2.2]) (λa=>okB a.1 a.2.1/\okO a.2.1.length a.2.2) (λ_=>.non)
theorem Lh{w:Nat}{rs:List Row}{o:List Nat}{G:DH}{k:D->DH->Prop}{E:EK}(h:okB w rs)(ho:okO rs.length o)(hk:k .non G):lJ.t [aq w rs,aC o] G k E:=bM (w,rs,o) rfl ⟨h,ho⟩ hk
theorem acd (Φ:aa) (h1:Φ "is_order"=tu) (a:Nat×List Row×List Nat) (G:DH) (h:okB a.1 a.2.1/\okO a.2.1.length a.2.2):au Φ j6 noE (env0 [aq a.1 a.2.1,aC a.2.2] 0) G (ends λd G'=>G'=G/\d=.non):=by simp_arith[j6,h1];refine aca h.1 h.2 ?_;simp_arith[ends]
def tB:RF.Spec:=bF (A:=Nat×List Row) (λa=>[aq a.1 a.2]) (λa=>okB a.1 a.2/\a.1<=4/\a.2.length<=5) (λ_=>.non)
theorem ace{w:Nat}{rs:List Row}{G:DH}{k:D->DH->Prop}{E:EK}(h:okB w rs)(h4:w<=4)(h5:rs.length<=5)(hk:k .non G):tB.t [aq w rs] G k E:=bM (w,rs) rfl ⟨h,h4,h5⟩ hk
theorem acf (Φ:aa) (h1:Φ "need_book"=jf) (a:Nat×List Row) (G:DH) (h:okB a.1 a.2/\a.1<=4/\a.2.length<=5):au Φ kZ noE (env0 [aq a.1 a.2] 2) G (ends λd G'=>G'=G/\d=.non):=by obtain ⟨w,rs⟩:=a;obtain ⟨hb,h4,h5⟩:=h;dsimp only at hb h4 h5 ⊢;simp_all_arith[kZ];refine seq λM hM=>?_;simp_arith[h1];refine sy hb (hM _ _ (seq λM hM=>?_));simp_arith[aq];refine hM _ _ (last ?_);simp_arith[List.length_map,decide_eq_false (show ¬(5:Int) < (rs.length:Int) by omega),decide_eq_false (show ¬(4:Int) < (w:Int) by omega)]
def byR(rs:List Row)(o:List Nat):List Row:=o.map λi=>rs.getD i ([],[])
theorem Li{w:Nat}{rs:List Row}{o:List Nat}(hb:okB w rs)(ho:okO rs.length o):okB w (byR rs o):=by
 refine hb.sub ?_ λr hr=>?_
 ·unfold byR;rw[List.length_map,ho.len];first |exact hb.len |exact Nat.le_refl _
 ·obtain ⟨i,hi,rfl⟩:=List.mem_map.mp hr;have:=ho.mem hi;rw[List.getD_eq_getElem?_getD,List.getElem?_eq_getElem this];exact List.getElem_mem _
def sBy:RF.Spec:=bF (A:=Nat×List Row×List Nat) (λa=>[aq a.1 a.2.1,aC a.2.2]) (λa=>okB a.1 a.2.1/\okO a.2.1.length a.2.2) (λa=>aq a.1 (byR a.2.1 a.2.2))
theorem Lj{w:Nat}{rs:List Row}{o:List Nat}{G:DH}{k:D->DH->Prop}{E:EK}(h:okB w rs)(ho:okO rs.length o)(hk:k (aq w (byR rs o)) G):sBy.t [aq w rs,aC o] G k E:=bM (w,rs,o) rfl ⟨h,ho⟩ hk
theorem Lk{rs:List Row}{o:List Nat}{d:D}{n:Nat}(ho:okO n o)(hn:rs.length=n)(hd:d∈o.map λi:Nat=>D.int (i:Int)):∃i:Nat,d=.int (i:Int)/\atI (rs.map aH) (i:Int)=some (aH (rs.getD i ([],[]))):=by obtain ⟨i,hi,rfl⟩:=List.mem_map.mp hd;exact ⟨i,rfl,bO (ab5 (by rw[hn];exact ho.mem hi))⟩
def yj(rs:List Row):D->D
 |.int i=>aH (rs.getD i.toNat ([],[]))
 |_=>.non
theorem Ln(rs:List Row)(o:List Nat):(o.map λi:Nat=>D.int (i:Int)).map (yj rs)=(byR rs o).map aH:=by unfold byR;rw[List.map_map,List.map_map];exact List.map_congr_left λi _=>rfl
theorem acg (Φ:aa) (h1:Φ "need_book"=jf) (h2:Φ "need_order"=lJ) (a:Nat×List Row×List Nat) (G:DH) (h:okB a.1 a.2.1/\okO a.2.1.length a.2.2):au Φ j7 noE (env0 [aq a.1 a.2.1,aC a.2.2] 2) G (ends λd G'=>G'=G/\d=aq a.1 (byR a.2.1 a.2.2)):=by
 obtain ⟨w,rs,o⟩:=a;obtain ⟨hb,ho⟩:=h;dsimp only at hb ho ⊢;have hlen:=hb.len;have hol:=ho.len;simp_all_arith[j7];refine seq λM hM=>?_;simp_arith[h1];refine sy hb (hM _ _ (seq λM hM=>?_));simp_arith[h2];refine Lh hb ho (hM _ _ (seq λM hM=>?_));simp_arith[aq];refine hM _ _ (last ?_);simp_arith[aC];refine CompG.map (f:=yj rs) (I:=λρ=>∃o,ρ=[o,some (.tup (rs.map aH))]) ⟨_,rfl⟩ trivial (by rw[List.length_map];have hsz:sz=1000000:=rfl;omega) ?_ ?_
 ·rintro d ρ hd ⟨o',rfl⟩ kk hk;obtain ⟨i,rfl,e⟩:=Lk ho rfl hd;simp_arith[ends];exact bZ e (hk _ ⟨_,rfl⟩)
 ·rw[Ln];simp_arith[ends];exact ⟨by decide,rfl⟩
theorem ach(Φ:aa)(a:Nat×List Row×List Nat)(G:DH)(h:okB a.1 a.2.1/\okO a.2.1.length a.2.2):au Φ wV noE (env0 [aq a.1 a.2.1,aC a.2.2] 0) G (ends λd G'=>G'=G/\d=aq a.1 (byR a.2.1 a.2.2)):=by
 obtain ⟨w,rs,o⟩:=a;obtain ⟨hb,ho⟩:=h;dsimp only at hb ho ⊢;have hlen:=hb.len;have hol:=ho.len;simp_all_arith[wV,aq];refine last ?_;simp_arith[aC];refine CompG.map (f:=yj rs) (I:=λρ=>∃o,ρ=[o,some (.tup [.int w,.tup (rs.map aH)])]) ⟨_,rfl⟩ trivial (by rw[List.length_map];have hsz:sz=1000000:=rfl;omega) ?_ ?_
 ·rintro d ρ hd ⟨o',rfl⟩ kk hk;obtain ⟨i,rfl,e⟩:=Lk ho rfl hd;simp_arith[ends];exact bZ e (hk _ ⟨_,rfl⟩)
 ·rw[Ln];simp_arith[ends];decide
def good(w:Nat)(rs:List Row)(o:List Nat):Bool:=(cg w rs (byR rs o)).isEmpty
def tD:RF.Spec:=bF (A:=Nat×List Row×List Nat) (λa=>[aq a.1 a.2.1,aC a.2.2]) (λa=>okB a.1 a.2.1/\okO a.2.1.length a.2.2) (λa=>.bl (good a.1 a.2.1 a.2.2))
theorem aci{w:Nat}{rs:List Row}{o:List Nat}{G:DH}{k:D->DH->Prop}{E:EK}(h:okB w rs)(ho:okO rs.length o)(hk:k (.bl (good w rs o)) G):tD.t [aq w rs,aC o] G k E:=bM (w,rs,o) rfl ⟨h,ho⟩ hk
theorem acj (Φ:aa) (h1:Φ "parting_word"=sX) (h2:Φ "by_order"=sBy) (a:Nat×List Row×List Nat) (G:DH) (h:okB a.1 a.2.1/\okO a.2.1.length a.2.2):au Φ kY noE (env0 [aq a.1 a.2.1,aC a.2.2] 0) G (ends λd G'=>G'=G/\d=.bl (good a.1 a.2.1 a.2.2)):=by obtain ⟨w,rs,o⟩:=a;obtain ⟨hb,ho⟩:=h;dsimp only at hb ho ⊢;simp_arith[kY,h1,h2];refine Lj hb ho (ab2 hb (Li hb ho) ?_);unfold good;cases cg w rs (byR rs o) <;> simp_arith[List.head?_nil,List.head?_cons,bG,List.isEmpty_nil,List.isEmpty_cons]
def lK:RF.Spec:=ghS (A:=Nat×List Row×List Nat) (λa ds _=>ds=[aq a.1 a.2.1,aC a.2.2]/\okB a.1 a.2.1/\okO a.2.1.length a.2.2) (λa G d G'=>Sa G G'/\d=.bl (good a.1 a.2.1 a.2.2))
theorem Lp{w:Nat}{rs:List Row}{o:List Nat}{G:DH}{k:D->DH->Prop}{E:EK}(h:okB w rs)(ho:okO rs.length o)(hk:∀G',Sa G G'->k (.bl (good w rs o)) G'):lK.t [aq w rs,aC o] G k E:=fV (w,rs,o) ⟨rfl,h,ho⟩ λd G' hx=>by
 obtain ⟨s,rfl⟩:=hx;exact hk G' s
theorem ack (Φ:aa) (h1:Φ "_law_parting"=sW) (h2:Φ "_law_by"=sBy) (a:Nat×List Row×List Nat) (ds:List D) (G:DH) (h:ds=[aq a.1 a.2.1,aC a.2.2]/\okB a.1 a.2.1/\okO a.2.1.length a.2.2):au Φ xf noE (env0 ds 0) G (ends λd G'=>Sa G G'/\d=.bl (good a.1 a.2.1 a.2.2)):=by obtain ⟨w,rs,o⟩:=a;obtain ⟨rfl,hb,ho⟩:=h;dsimp only at hb ho ⊢;simp_arith[xf,h1,h2];refine Lj hb ho (ab0 hb (Li hb ho) λG6 sa6=>?_);unfold good;cases cg w rs (byR rs o) <;> simp_arith[List.head?_nil,List.head?_cons,bG,List.isEmpty_nil,List.isEmpty_cons] <;> exact sa6
def cI(o:List Nat)(n:Nat):List Nat:=o.take n++[o.getD (n+1) 0,o.getD n 0]++o.drop (n+2)
theorem acl{l:List Nat}{n:Nat}(h:n+1 < l.length):l=l.take n++(l.getD n 0::l.getD (n+1) 0::l.drop (n+2)):=by
 have e:l.drop n=l.getD n 0::l.getD (n+1) 0::l.drop (n+2):=by rw[List.drop_eq_getElem_cons (show n < l.length by omega),List.drop_eq_getElem_cons h,List.getD_eq_getElem?_getD,List.getD_eq_getElem?_getD,List.getElem?_eq_getElem (show n < l.length by omega),List.getElem?_eq_getElem h];rfl
 rw[<-e,List.take_append_drop]
theorem yl{m n:Nat}{o:List Nat}(ho:okO m o)(h:n+1 < m):okO m (cI o n):=by
 have hl:n+1 < o.length:=by rw[ho.len];exact h
 refine List.Perm.trans ?_ ho;conv=>rhs;rw[acl hl]
 unfold cI;rw[List.append_assoc];exact List.Perm.append_left _ (List.Perm.swap _ _ _)
def gf:RF.Spec:=bF (A:=List Nat×Nat) (λa=>[aC a.1,.int (a.2:Nat)]) (λa=>a.2+1 < a.1.length/\a.1.length<=12) (λa=>aC (cI a.1 a.2))
theorem ym{o:List Nat}{n:Nat}{G:DH}{k:D->DH->Prop}{E:EK}(h1:n+1 < o.length)(h2:o.length<=12)(hk:k (aC (cI o n)) G):gf.t [aC o,.int (n:Nat)] G k E:=bM (o,n) rfl ⟨h1,h2⟩ hk
theorem Lq{o:List Nat}{n:Nat}(h:n < o.length):(o.map λi:Nat=>D.int (i:Int))[n]?=some (.int (o.getD n 0:Nat)):=by rw[List.getElem?_map,List.getD_eq_getElem?_getD,List.getElem?_eq_getElem h];rfl
theorem Lr(Φ:aa)(a:List Nat×Nat)(G:DH)(h:a.2+1 < a.1.length/\a.1.length<=12):au Φ jQ noE (env0 [aC a.1,.int (a.2:Nat)] 0) G (ends λd G'=>G'=G/\d=aC (cI a.1 a.2)):=by obtain ⟨o,n⟩:=a;obtain ⟨h1,h2⟩:=h;dsimp only at h1 h2 ⊢;simp_all_arith[jQ,aC];refine last ?_;simp_arith[lz,ab4,<-List.map_drop,List.length_map];refine bZ (a:=.int (o.getD (n+1) 0:Nat)) (bO (j:=n+1) (Lq h1)) (bZ (a:=.int (o.getD n 0:Nat)) (bO (Lq (by omega))) ?_);refine ⟨by decide,by rw[List.length_take];have hsz:sz=1000000:=rfl;omega,by simp only[List.length_append,List.length_map,List.length_take,List.length_drop,List.length_cons,List.length_nil];have hsz:sz=1000000:=rfl;omega,?_⟩;unfold cI;rw[List.map_append,List.map_append];first |trivial |exact ⟨rfl,rfl⟩ |rfl
theorem acn(Φ:aa)(a:List Nat×Nat)(G:DH)(h:a.2+1 < a.1.length/\a.1.length<=12):au Φ Ka noE (env0 [aC a.1,.int (a.2:Nat)] 0) G (ends λd G'=>G'=G/\d=aC (cI a.1 a.2)):=Lr Φ a G h
def cj(w:Nat)(rs:List Row)(o:List Nat):List Int->List Nat->Bool
 |[],here=>deq (aC here) (aC o)
 |p::ps,here=>decide (0<=p)&&decide (p < (rs.length:Int) - 1)&&(good w rs (cI here p.toNat)&&cj w rs o ps (cI here p.toNat))
theorem Ls{w:Nat}{rs:List Row}{o here:List Nat}{p:Int}{ps:List Int}(n:Nat)(hp:p=n)(hn:n+1 < rs.length):cj w rs o (p::ps) here=(good w rs (cI here n)&&cj w rs o ps (cI here n)):=by subst hp;rw[cj,decide_eq_true (by omega),decide_eq_true (by omega),Int.toNat_natCast];rfl
theorem yo{w:Nat}{rs:List Row}{o here:List Nat}{p:Int}{ps:List Int}(h:p < 0\/(rs.length:Int) - 1<=p):cj w rs o (p::ps) here=false:=by
 rw[cj];rcases h with h |h
 ·rw[decide_eq_false (by omega)];rfl
 ·rw[decide_eq_false (show ¬p < (rs.length:Int) - 1 by omega),Bool.and_false];rfl
theorem Lw{α:Type}{l:List α}{i:Nat}{a:α}(h:l[i]?=some a):l.drop i=a::l.drop (i+1):=by obtain ⟨hl,e⟩:=List.getElem?_eq_some_iff.mp h;rw[List.drop_eq_getElem_cons hl,e]
theorem aco{m:Nat}{d:D}(h:isPlace ((m:Int) - 1) d=true):∃n:Nat,d=.int n/\n+1 < m:=by
 unfold isPlace at h;split at h
 ·rename_i i;rw[Bool.and_eq_true,decide_eq_true_iff,decide_eq_true_iff]at h;exact ⟨i.toNat,by congr 1;omega,by omega⟩
 ·cases h
structure W35 where
 w:Nat
 rs:List Row
 o:List Nat
 st:List Int
def tH(a:W35):Prop:=okB a.w a.rs/\okO a.rs.length a.o/\a.w<=4/\a.rs.length<=5
def jl(a:W35):List D:=[aq a.w a.rs,aC a.o,.lst (a.st.map D.int)]
def tM:RF.Spec:=bF (A:=W35) jl tH (λa=>.bl (cj a.w a.rs a.o a.st (List.range a.rs.length)))
theorem acp{w:Nat}{rs:List Row}{o:List Nat}{st:List Int}{G:DH}{k:D->DH->Prop}{E:EK}(h:okB w rs)(ho:okO rs.length o)(h4:w<=4)(h5:rs.length<=5)(hk:k (.bl (cj w rs o st (List.range rs.length))) G):tM.t [aq w rs,aC o,.lst (st.map D.int)] G k E:=bM (⟨w,rs,o,st⟩:W35) rfl ⟨h,ho,h4,h5⟩ hk
structure FW35(Φ:aa):Prop where
 mov:Φ "need_movable"=tB
 need:Φ "need_order"=lJ
 first:Φ "first_order"=sZ
 place:Φ "is_place"=aP gb
 ex:Φ "exchanged"=gf
 good:Φ "is_good"=tD
theorem acq(Φ:aa)(F:FW35 Φ)(a:W35)(G:DH)(h:tH a):au Φ lg noE (env0 (jl a) 2) G (ends λd G'=>G'=G/\d=.bl (cj a.w a.rs a.o a.st (List.range a.rs.length))):=by
 obtain ⟨w,rs,o,st⟩:=a;obtain ⟨hb,ho,h4,h5⟩:=h;dsimp only at hb ho h4 h5 ⊢;have hlen:=hb.len;simp_all_arith[lg,jl];refine seq λM hM=>?_;simp_arith[F.mov];refine ace hb h4 h5 (hM _ _ (seq λM hM=>?_));simp_arith[F.need];refine Lh hb ho (hM _ _ (seq λM hM=>?_));simp_arith[F.first];refine ab8 hb (hM _ _ (seq λM hM=>?_));simp_arith![ends];refine ForG.inv (P:=λi ρ G'=>∃here o4,ρ=[some (aq w rs),some (aC o),some (.lst (st.map D.int)),some (aC here),o4]/\G'=G/\okO rs.length here/\cj w rs o st (List.range rs.length)=cj w rs o (st.drop i) here) ⟨_,_,rfl,rfl,List.Perm.refl _,rfl⟩ (λ_ _ _ _=>trivial) ?_ ?_
 ·rintro i d ρ G' hd ⟨here,o4,rfl,rfl,hh,hway⟩ kk hk;rw[List.getElem?_map]at hd;obtain ⟨p,hp,rfl⟩:=Option.map_eq_some_iff.mp hd;rw[Lw hp]at hway;have hhl:=hh.len;simp_arith![ends];refine seq λM hM=>?_;simp_arith[F.place,aC,List.length_map,hhl];refine du (d:=.bl (isPlace ((rs.length:Int) - 1) (.int p))) rfl ?_;cases hip:isPlace ((rs.length:Int) - 1) (.int p) with
  |false=>
   have hno:p < 0\/(rs.length:Int) - 1<=p:=by
    have hip:(decide (0<=p)&&decide (p < (rs.length:Int) - 1))=false:=hip;by_cases h0:0<=p
    ·rw[decide_eq_true h0,Bool.true_and,decide_eq_false_iff_not]at hip;exact .inr (by omega)
    ·exact .inl (by omega)
   rw[yo hno]at hway;simp_arith[hway,and_self]
  |true=>
   obtain ⟨n,en,hn⟩:=aco hip;have en:p=(n:Int):=by simpa using en
   rw[Ls n en hn]at hway;subst en;simp_arith[ends];refine hM _ _ (seq λM hM=>?_);simp_arith[F.ex];refine ym (by omega) (by omega) (hM _ _ (last ?_));have hok:=yl hh hn;simp_arith[F.good];refine aci hb hok ?_;cases hg:good w rs (cI here n) with
   |false=>
    rw[hg,Bool.false_and]at hway;simp_arith[hway,and_self]
   |true=>
    rw[hg,Bool.true_and]at hway;simp_arith[ends];exact hk _ _ ⟨_,_,rfl,rfl,hok,hway⟩
 ·rintro ρ G' ⟨here,o4,rfl,rfl,hh,hway⟩;rw[List.length_map,List.drop_length,cj]at hway;refine hM _ _ (last ?_);have h1:=sY here;have h2:=sY o;simp_arith[ends];exact ⟨⟨h1.1,h2.1,Nat.le_trans (Nat.min_le_left _ _) (Nat.le_trans h1.2 (by decide))⟩,by rw[hway];rfl⟩
def tQ:RF.Spec:=ghS (A:=W35) (λa ds _=>ds=jl a/\tH a) (λa G d G'=>Sa G G'/\d=.bl (cj a.w a.rs a.o a.st (List.range a.rs.length)))
theorem acr{w:Nat}{rs:List Row}{o:List Nat}{st:List Int}{G:DH}{k:D->DH->Prop}{E:EK}(h:okB w rs)(ho:okO rs.length o)(h4:w<=4)(h5:rs.length<=5)(hk:∀G',Sa G G'->k (.bl (cj w rs o st (List.range rs.length))) G'):tQ.t [aq w rs,aC o,.lst (st.map D.int)] G k E:=fV (⟨w,rs,o,st⟩:W35) ⟨rfl,h,ho,h4,h5⟩ λd G' hx=>by
 obtain ⟨s,rfl⟩:=hx;exact hk G' s
theorem acs (Φ:aa) (h1:Φ "_law_stepped"=gf) (h2:Φ "_law_does_the_same"=lK) (a:W35) (ds:List D) (G:DH) (h:ds=jl a/\tH a):au Φ xj noE (env0 ds 2) G (ends λd G'=>Sa G G'/\d=.bl (cj a.w a.rs a.o a.st (List.range a.rs.length))):=by
 obtain ⟨w,rs,o,st⟩:=a;obtain ⟨rfl,hb,ho,h4,h5⟩:=h;dsimp only at hb ho h4 h5 ⊢;have hlen:=hb.len;have e0:∀xs:List Row,aq w xs=.tup [.int w,.tup (xs.map aH)]:=λ_=>rfl;simp_all_arith[xj,jl];refine seq λM hM=>?_;simp_arith[e0,List.length_map,Int.toNat_natCast];refine ⟨⟨by omega,by omega⟩,hM _ _ ?_⟩;rw[lG,<-e0];refine seq λM hM=>?_;simp_arith![ends];refine ForG.inv (P:=λi ρ G'=>∃here o4,ρ=[some (aq w rs),some (aC o),some (.lst (st.map D.int)),some (aC here),o4]/\Sa G G'/\okO rs.length here/\cj w rs o st (List.range rs.length)=cj w rs o (st.drop i) here) ⟨_,_,rfl,Sa.refl _,List.Perm.refl _,rfl⟩ (λ_ _ _ _=>trivial) ?_ ?_
 ·rintro i d ρ G' hd ⟨here,o4,rfl,sa,hh,hway⟩ kk hk;rw[List.getElem?_map]at hd;obtain ⟨p,hp,rfl⟩:=Option.map_eq_some_iff.mp hd;rw[Lw hp]at hway;have hhl:=hh.len;simp_arith![ends];refine seq λM hM=>?_;simp_arith[aC,List.length_map,hhl];by_cases h0:p < 0
  ·rw[yo (.inl h0)]at hway;simp_arith[decide_eq_true h0,hway,and_true];exact sa
  ·by_cases h2':(rs.length:Int) - 2 < p
   ·rw[yo (.inr (by omega))]at hway;simp_arith[decide_eq_false h0,decide_eq_true h2',hway,and_true];exact sa
   ·obtain ⟨n,rfl⟩:∃n:Nat,p=(n:Int):=⟨p.toNat,by omega⟩;have hn:n+1 < rs.length:=by omega
    rw[Ls n rfl hn]at hway;simp_arith[decide_eq_false h0,decide_eq_false h2'];refine hM _ _ (seq λM hM=>?_);simp_arith[h1];refine ym (by omega) (by omega) (hM _ _ (last ?_));have hok:=yl hh hn;simp_arith[h2];refine Lp hb hok λG2 s2=>?_;cases hg:good w rs (cI here n) with
    |false=>
     rw[hg,Bool.false_and]at hway;simp_arith[hway,and_true];exact sa.trans s2
    |true=>
     rw[hg,Bool.true_and]at hway;simp_arith[ends];exact hk _ _ ⟨_,_,rfl,sa.trans s2,hok,hway⟩
 ·rintro ρ G' ⟨here,o4,rfl,sa,hh,hway⟩;rw[List.length_map,List.drop_length,cj]at hway;refine hM _ _ (last ?_);have h1:=sY here;have h2:=sY o;simp_arith[ends];exact ⟨⟨h1.1,h2.1,Nat.le_trans (Nat.min_le_left _ _) (Nat.le_trans h1.2 (by decide))⟩,sa,by rw[hway];rfl⟩
def tR:RF.Spec:=ghS (A:=Addr×Nat) (λa ds G=>ds=[.ref a.1,.int (a.2:Nat)]/\Pen G a.1/\a.2<=12) (λa _ d G'=>∃o,d=aC o/\okO a.2 o/\Pen G' a.1)
theorem acu{p:Addr}{n:Nat}{G:DH}{k:D->DH->Prop}{E:EK}(hp:Pen G p)(hn:n<=12)(hk:∀o G',okO n o->Pen G' p->k (aC o) G'):tR.t [.ref p,.int (n:Nat)] G k E:=fV (p,n) ⟨rfl,hp,hn⟩ λd G' hx=>by
 obtain ⟨o,rfl,h1,h2⟩:=hx;exact hk o G' h1 h2
theorem acv (Φ:aa) (h1:Φ "_law_take"=dg) (a:Addr×Nat) (ds:List D) (G:DH) (h:ds=[.ref a.1,.int (a.2:Nat)]/\Pen G a.1/\a.2<=12):au Φ xq noE (env0 ds 1) G (ends λd G'=>∃o,d=aC o/\okO a.2 o/\Pen G' a.1):=by
 obtain ⟨p,n⟩:=a;obtain ⟨rfl,hp,hn⟩:=h;dsimp only at hp hn ⊢;simp_all_arith[xq];refine seq λM hM=>?_;simp_arith[Int.toNat_natCast];refine ⟨⟨by omega,by omega⟩,λq hq=>hM _ _ (last ?_)⟩;have hqp:q≠p:=(hp.ne hq).symm;simp_arith[h1,Int.toNat_natCast];refine ⟨by omega,CompG.inv (P:=λi acc ρ G'=>(∃o,ρ=[o,some (.ref q),some (.ref p)])/\Pen G' p/\∃os left:List Nat,acc=(os.map λi:Nat=>D.int (i:Int))/\G' q=some (.lst (left.map λi:Nat=>D.int (i:Int)))/\(os++left).Perm (List.range n)/\os.length=i) ⟨⟨_,rfl⟩,hp.sa (Sa.new hq),[],List.range n,rfl,?_,List.Perm.refl _,rfl⟩ (λ_ _ _ _ _=>trivial) ?_ ?_ ?_⟩
 ·rw[bx];have e:=lG n;unfold aC at e;rw[D.tup.inj e]
 ·simp[aR];have hsz:sz=1000000:=rfl;omega
 ·rintro i d acc ρ G' hd ⟨⟨o,rfl⟩,hp',os,left,rfl,g,hperm,hos⟩ kk hk;have hi:i < n:=by
   have:=(List.getElem?_eq_some_iff.mp hd).1;simpa [aR] using this
  have hll:os.length+left.length=n:=by have:=hperm.length_eq;rwa [List.length_append,List.length_range]at this
  simp_arith[h1,aad,Ha,b8 g,eF g,List.length_map];refine bL hp' (by omega) (by omega) λr G2 hr hp2 sb2=>?_;have g2:=sb2 _ _ g hqp;have hrl:r < left.length:=by omega
  simp only[Ha,b8 g2,Int.toNat_natCast];refine ⟨by omega,by omega,bZ (a:=D.int (left[r]:Nat)) (by rw[List.getElem?_map,List.getElem?_eq_getElem hrl];rfl) ?_⟩;refine hk _ _ _ ⟨⟨_,rfl⟩,hp2.sb Sb.upd hqp.symm,os++[left[r]],left.eraseIdx r,?_,?_,?_,by simp;omega⟩
  ·rw[List.map_append];rfl
  ·rw[bx];congr 2;rw[List.eraseIdx_eq_take_drop_succ,List.eraseIdx_eq_take_drop_succ,List.map_append,List.map_take,List.map_drop]
  ·refine List.Perm.trans ?_ hperm;rw[List.append_assoc];refine List.Perm.append_left _ ?_;have e:left.take r++left[r]::left.drop (r+1)=left:=by rw[<-List.drop_eq_getElem_cons hrl,List.take_append_drop]
   rw[List.eraseIdx_eq_take_drop_succ];have pm:(left[r]::(left.take r++left.drop (r+1))).Perm (left.take r++left[r]::left.drop (r+1)):=List.perm_middle.symm;rw[e]at pm;exact pm
 ·rintro acc ρ G' ⟨⟨o,rfl⟩,hp',os,left,rfl,g,hperm,hos⟩;have hos:os.length=n:=by simpa [aR] using hos
  have hll:os.length+left.length=n:=by have:=hperm.length_eq;rwa [List.length_append,List.length_range]at this
  have hl0:left=[]:=List.length_eq_zero_iff.mp (by omega);subst hl0;rw[List.append_nil]at hperm;exact ⟨os,rfl,hperm,hp'⟩
def tU:RF.Spec:=ghS (A:=Addr×Nat×List Row) (λa ds G=>ds=[.ref a.1,aq a.2.1 a.2.2]/\Pen G a.1/\okB a.2.1 a.2.2) (λa _ d G'=>∃(st:List Int)(o:List Nat),d=.tup [.lst (st.map D.int),aC o]/\st.length<=7/\okO a.2.2.length o/\Pen G' a.1)
theorem acw{p:Addr}{w:Nat}{rs:List Row}{G:DH}{k:D->DH->Prop}{E:EK}(hp:Pen G p)(hb:okB w rs)(hk:∀(st:List Int)(o:List Nat)(G':DH),st.length<=7->okO rs.length o->Pen G' p->k (.tup [.lst (st.map D.int),aC o]) G'):tU.t [.ref p,aq w rs] G k E:=fV (p,w,rs) ⟨rfl,hp,hb⟩ λd G' hx=>by
 obtain ⟨st,o,rfl,h1,h2,h3⟩:=hx;exact hk st o G' h1 h2 h3
theorem acx (Φ:aa) (h1:Φ "_law_take"=dg) (h2:Φ "_law_stepped"=gf) (h3:Φ "_law_does_the_same"=lK) (a:Addr×Nat×List Row) (ds:List D) (G:DH) (h:ds=[.ref a.1,aq a.2.1 a.2.2]/\Pen G a.1/\okB a.2.1 a.2.2):au Φ xg noE (env0 ds 5) G (ends λd G'=>∃(st:List Int) (o:List Nat),d=.tup [.lst (st.map D.int),aC o]/\st.length<=7/\okO a.2.2.length o/\Pen G' a.1):=by
 obtain ⟨p,w,rs⟩:=a;obtain ⟨rfl,hp,hb⟩:=h;dsimp only at hp hb ⊢;have hlen:=hb.len;have e0:∀xs:List Row,aq w xs=.tup [.int w,.tup (xs.map aH)]:=λ_=>rfl;simp_all_arith[xg];refine seq λM hM=>?_;simp_arith[e0,List.length_map,Int.toNat_natCast];refine ⟨⟨by omega,by omega⟩,hM _ _ ?_⟩;rw[lG,<-e0];refine seq λM hM=>?_;simp_arith[ends];refine λq hq=>hM _ _ (seq λM hM=>?_);have hqp:q≠p:=(hp.ne hq).symm;have hp1:=hp.sa (Sa.new (o:=.lst []) hq);have hl0:(List.range rs.length).length=rs.length:=List.length_range;simp_arith![h1];refine bL hp1 (by decide) (by decide) λr G2 hr hp2 sb2=>?_;have g2:=sb2 _ _ (bx (G:=G) (a:=q) (o:=.lst [])) hqp;simp_arith![aC,List.length_map,hl0];have hif:(if decide (1 < (rs.length:Int))=true then (1:Int) else 0)=0\/((if decide (1 < (rs.length:Int))=true then (1:Int) else 0)=1/\1 < rs.length):=by
  by_cases hr:1 < rs.length
  ·exact .inr ⟨if_pos (decide_eq_true (by omega)),hr⟩
  ·exact .inl (if_neg (by rw[decide_eq_true_iff];omega))
 generalize (if decide (1 < (rs.length:Int))=true then (1:Int) else 0)=b at hif ⊢;obtain ⟨m,hm,hm7,hm1⟩:∃m:Nat,(r:Int) * b=(m:Int)/\m<=7/\(0 < m->1 < rs.length):=by
  rcases hif with rfl |⟨rfl,h⟩
  ·exact ⟨0,by simp,by decide,λh=>absurd h (by decide)⟩
  ·exact ⟨r,by simp,by omega,λ_=>h⟩
 have hcm:CMul (r:Int) b:=by rcases hif with rfl |⟨rfl,h⟩ <;> (unfold CMul;omega)
 rw[hm];refine ⟨hcm,by omega,?_⟩;refine ForG.inv (P:=λi ρ G'=>∃here st o4 o5 o6,ρ=[some (.ref p),some (aq w rs),some (aC here),some (.ref q),o4,o5,o6]/\Pen G' p/\okO rs.length here/\G' q=some (.lst (st.map D.int))/\st.length<=i) ⟨List.range rs.length,[],_,_,_,rfl,hp2,List.Perm.refl _,g2,Nat.le_refl _⟩ (λ_ _ _ _=>trivial) ?_ ?_
 ·rintro i d ρ G3 hd ⟨here,st,o4,o5,o6,rfl,hp3,hh,g3,hst⟩ kk hk;have hi:i < m:=by
   have:=(List.getElem?_eq_some_iff.mp hd).1;simpa [aR] using this
  have hn:=hm1 (by omega);have hhl:=hh.len;simp_arith![ends];refine seq λM hM=>?_;simp_arith[h1,aC,List.length_map,hhl];refine bL hp3 (by omega) (by omega) λn G4 hn4 hp4 sb4=>hM _ _ (seq λM hM=>?_);have hn1:n+1 < rs.length:=by omega
  simp_arith[h2];refine ym (o:=here) (by omega) (by omega) (hM _ _ (last ?_));have hok:=yl hh hn1;have g4:=sb4 _ _ g3 hqp;have fin:∀(R:D->DH->Prop)(B C:ak->DH->Prop)(G6:DH),Pen G6 p->G6 q=some (.lst (st.map D.int))->au Φ (.cons (.exp (.mth .append (.var 3) (.cons (.var 5) .nil))) (.cons (.asg (.nm 2) (.var 6)) .nil)) noE [some (.ref p),some (aq w rs),some (aC here),some (.ref q),some d,some (.int (n:Int)),some (aC (cI here n))] G6 ⟨kk,R,B,C⟩:=by intro R B C G6 hp6 g6;refine seq λM hM=>?_;simp_arith[b8 g6,List.length_map];refine ⟨by have hsz:sz=1000000:=rfl;omega,hM _ _ (last ?_)⟩;simp_arith[ends];refine hk _ _ ⟨cI here n,st++[(n:Int)],_,_,_,rfl,hp6.sb Sb.upd hqp.symm,hok,?_,by simp;omega⟩;rw[bx,List.map_append];rfl
  simp_arith![h1];refine bL hp4 (by decide) (by decide) λc G5 hc hp5 sb5=>?_;have g5:=sb5 _ _ g4 hqp;by_cases hc0:(c:Int)=0
  ·simp_arith![hc0];exact fin _ _ _ _ hp5 g5
  ·simp_arith![beq_eq_false_iff_ne.mpr hc0,h3];refine Lp hb hok λG6 s6=>?_;cases good w rs (cI here n) with
   |true=>
    simp_arith![ends];exact fin _ _ _ _ (hp5.sa s6) (s6 _ _ g5)
   |false=>
    simp_arith[ends];exact hk _ _ ⟨here,st,_,_,_,rfl,hp5.sa s6,hh,s6 _ _ g5,by omega⟩
 ·rintro ρ G3 ⟨here,st,o4,o5,o6,rfl,hp3,hh,g3,hst⟩;have hst:st.length<=m:=by simpa [aR] using hst
  refine hM _ _ (last ?_);simp_arith[eF g3];rw[g3];exact ⟨by decide,st,here,rfl,by omega,hh,hp3.sb (λb o e n=>by rw[oR n];exact e) hqp.symm⟩
def tV:RF.Spec:=ghS (A:=Addr×List Int×Nat) (λa ds G=>ds=[.ref a.1,.lst (a.2.1.map D.int),.int (a.2.2:Nat)]/\Pen G a.1/\a.2.1.length<=100/\1<=a.2.2/\a.2.2<=100) (λa G d G'=>∃st:List Int,d=.lst (st.map D.int)/\st.length<=102/\Pen G' a.1/\Sb a.1 G G')
theorem acy{p:Addr}{st:List Int}{n:Nat}{G:DH}{k:D->DH->Prop}{E:EK}(hp:Pen G p)(h1:st.length<=100)(h2:1<=n)(h3:n<=100)(hk:∀(st':List Int)(G':DH),st'.length<=102->Pen G' p->Sb p G G'->k (.lst (st'.map D.int)) G'):tV.t [.ref p,.lst (st.map D.int),.int (n:Nat)] G k E:=fV (p,st,n) ⟨rfl,hp,h1,h2,h3⟩ λd G' hx=>by
 obtain ⟨st',rfl,a1,a2,a3⟩:=hx;exact hk st' G' a1 a2 a3
theorem acz (Φ:aa) (h1:Φ "_law_take"=dg) (a:Addr×List Int×Nat) (ds:List D) (G:DH) (h:ds=[.ref a.1,.lst (a.2.1.map D.int),.int (a.2.2:Nat)]/\Pen G a.1/\a.2.1.length<=100/\1<=a.2.2/\a.2.2<=100):au Φ wK noE (env0 ds 3) G (ends λd G'=>∃st:List Int,d=.lst (st.map D.int)/\st.length<=102/\Pen G' a.1/\Sb a.1 G G'):=by
 obtain ⟨p,st,n⟩:=a;obtain ⟨rfl,hp,hl,hn1,hn2⟩:=h;dsimp only at hp hl hn1 hn2 ⊢;simp_all_arith[wK];refine seq λM hM=>?_;simp_arith[h1,List.length_map];refine bL hp (by omega) (by omega) λr G2 hr hp2 sb2=>hM _ _ (seq λM hM=>?_);simp_arith[h1];refine ⟨xF (by decide),bL hp2 (by omega) (by omega) λc G3 hc hp3 sb3=>⟨by decide,bL hp3 (by decide) (by decide) λc' G4 hc' hp4 sb4=>?_⟩⟩;simp_arith[ends];refine wD (by omega) (by simpa using hc') λy hy=>?_;obtain ⟨i,rfl⟩:∃i:Int,y=.int i:=by simp only[List.mem_cons,List.not_mem_nil,or_false]at hy;rcases hy with rfl |rfl |rfl |rfl |rfl |rfl <;> exact ⟨_,rfl⟩
 clear hy;refine hM _ _ (seq λM hM=>?_);simp_arith[h1];refine bL hp4 (by decide) (by decide) λk G5 hk hp5 sb5=>hM _ _ ?_;have sb:=sb2.trans (sb3.trans (sb4.trans sb5));have hle:∀m:Nat,(st.take m).length<=100/\(st.drop m).length<=100:=λm=>⟨by rw[List.length_take];omega,by rw[List.length_drop];omega⟩;have fin:∀s':List Int,s'.length<=102->∃st:List Int,D.lst (s'.map D.int)=.lst (st.map D.int)/\st.length<=102/\Pen G5 p/\Sb p G G5:=λs' h=>⟨s',rfl,h,hp5,sb⟩;have cd1:∀m:Nat,cut (st.map D.int) (some ((m:Int)+1)) none=(st.drop (m+1)).map D.int:=λm=>lA D.int st (m+1);have hk5:k < 5:=by omega
 have tk:=(hle r).1;have dk:=(hle r).2;have dk1:=(hle (r+1)).2;refine seq λM hM=>?_;by_cases e0:k=0
 ·subst e0;simp_arith[lz,cd1,lA,List.length_map];refine ⟨by have hsz:sz=1000000:=rfl;omega,st.take r++st.drop (r+1),by rw[List.map_append],by rw[List.length_append,List.length_take,List.length_drop];omega,hp5,sb⟩
 simp_arith[beq_eq_false_iff_ne.mpr (show (k:Int)≠0 by omega)];refine hM _ _ (seq λM hM=>?_);by_cases e1:k=1
 ·subst e1;simp_arith[lz,cd1,lA,List.length_map];repeat refine And.intro (by first |decide | ((try simp only[List.length_append,List.length_map,List.length_cons,List.length_nil]);have hsz:sz=1000000:=rfl;omega)) ?_
  exact ⟨st.take r++[i]++st.drop r,by rw[List.map_append,List.map_append];rfl,by rw[List.length_append,List.length_append,List.length_take,List.length_drop];simp only[List.length_cons,List.length_nil];omega,hp5,sb⟩
 simp_arith[beq_eq_false_iff_ne.mpr (show (k:Int)≠1 by omega)];refine hM _ _ (seq λM hM=>?_);by_cases e2:k=2
 ·subst e2;simp_arith[lz,cd1,lA,List.length_map];repeat refine And.intro (by first |decide | ((try simp only[List.length_append,List.length_map,List.length_cons,List.length_nil]);have hsz:sz=1000000:=rfl;omega)) ?_
  exact ⟨st.take r++[i]++st.drop (r+1),by rw[List.map_append,List.map_append];rfl,by rw[List.length_append,List.length_append,List.length_take,List.length_drop];simp only[List.length_cons,List.length_nil];omega,hp5,sb⟩
 simp_arith[beq_eq_false_iff_ne.mpr (show (k:Int)≠2 by omega)];refine hM _ _ (seq λM hM=>?_);by_cases e3:k=3
 ·subst e3;simp_arith[lz,cd1,lA,List.length_map];repeat refine And.intro (by first |decide | ((try simp only[List.length_append,List.length_map,List.length_cons,List.length_nil]);have hsz:sz=1000000:=rfl;omega)) ?_
  exact ⟨st.take r++[i,i]++st.drop r,by rw[List.map_append,List.map_append];rfl,by rw[List.length_append,List.length_append,List.length_take,List.length_drop];simp only[List.length_cons,List.length_nil];omega,hp5,sb⟩
 simp_arith[beq_eq_false_iff_ne.mpr (show (k:Int)≠3 by omega)];refine hM _ _ (last ?_);simp_arith[ends];exact ⟨st.reverse,by rw[List.map_reverse],by rw[List.length_reverse];omega,hp5,sb⟩
structure F35(Φ:aa):Prop where
 opn:Φ "_law_open"=xH
 anew:Φ "_law_anew"=rW
 book:Φ "_law_book"=sr
 drawn:Φ "_law_drawn_steps"=tU
 order:Φ "_law_order"=tR
 bent:Φ "_law_bent"=tV
 way:Φ "is_way"=tM
 due:Φ "_law_due"=tQ
theorem acA(Φ:aa)(F:F35 Φ)(ds:List D)(G:DH)(h:∃ns:List Int,ds=[.scr ns]/\ns.length<=63):au Φ xr noE (env0 ds 12) G (ends λd _=>d=.bl true):=by
 obtain ⟨ns,rfl,hl⟩:=h;simp_all_arith[xr];refine seq λM hM=>?_;simp_arith[F.opn];refine bY ⟨ns,rfl,hl⟩ λd' G1 hx=>?_;obtain ⟨p,e1,_,hp,_⟩:=hx;subst e1;refine hM _ _ (seq λM hM=>?_);simp_arith![ends];refine ⟨by decide,ForG.inv (P:=λi ρ G'=>(∃o2 o3 o4 o5 o6 o7 o8 o9 o10 o11 o12,ρ=[some (.scr ns),some (.ref p),o2,o3,o4,o5,o6,o7,o8,o9,o10,o11,o12])/\Pen G' p) ⟨⟨_,_,_,_,_,_,_,_,_,_,_,rfl⟩,hp⟩ (λ_ _ _ _=>trivial) ?_ ?_⟩
 ·rintro i d ρ G2 hd ⟨⟨o2,o3,o4,o5,o6,o7,o8,o9,o10,o11,o12,rfl⟩,hp2⟩ kk hk;simp_arith![ends];refine seq λM hM=>?_;simp_arith[F.anew,F.book];refine aa5 hp2 λG3 hp3 _=>?_;refine aaH (w:=4) (m:=5) hp3 (by decide) (by decide) (by decide) λw rs G4 hb hw hrs hp4 _=>hM _ _ (seq λM hM=>?_);have hlen:=hb.len;have e0:∀xs:List Row,aq w xs=.tup [.int w,.tup (xs.map aH)]:=λ_=>rfl;simp_arith[F.drawn];refine acw hp4 hb λst o G5 hst ho hp5=>?_;simp_arith[ends];refine hM _ _ (seq λM hM=>?_);simp_arith[F.order,e0,List.length_map];refine acu hp5 (by omega) λo' G6 ho' hp6=>?_;refine ⟨by decide,hM _ _ (seq λM hM=>?_)⟩;simp_arith[ends];refine ⟨by decide,λq hq=>hM _ _ (seq λM hM=>?_)⟩;have hqp:q≠p:=(hp6.ne hq).symm;simp_arith![ends];refine ⟨by decide,ForG.inv (P:=λi ρ G'=>(∃o8,ρ=[some (.scr ns),some (.ref p),some d,some (aq w rs),some (.lst (st.map D.int)),some (aC o),some (.lst [aC o,aC o']),some (.ref q),o8,o9,o10,o11,o12])/\Pen G' p/\∃ls:List (List Int),G' q=some (.lst (ls.map λs=>.lst (s.map D.int)))/\ls.length<=2+i) ⟨⟨_,rfl⟩,hp6.sa (Sa.new hq),[st,[]],bx,by simp⟩ (λ_ _ _ _=>trivial) ?_ ?_⟩
  ·rintro i8 d8 ρ G7 hd8 ⟨⟨o8,rfl⟩,hp7,ls,g7,hls⟩ kk8 hk8;have hi8:i8 < 3:=by
    have:=(List.getElem?_eq_some_iff.mp hd8).1;simpa [aR] using this
   simp_arith![ends];refine last ?_;simp_arith[F.bent,e0,List.length_map,b8 g7];refine acy (n:=rs.length+1) hp7 (by omega) (by omega) (by omega) λs' G8 hs' hp8 sb8=>?_;have g8:=sb8 _ _ g7 hqp;simp_arith[b8 g8,List.length_map];refine ⟨by have hsz:sz=1000000:=rfl;omega,hk8 _ _ ⟨⟨_,rfl⟩,hp8.sb Sb.upd hqp.symm,ls++[s'],?_,by simp;omega⟩⟩;rw[bx,List.map_append];rfl
  ·rintro ρ G7 ⟨⟨o8,rfl⟩,hp7,ls,g7,hls⟩;refine hM _ _ (last ?_);simp_arith![aae g7];refine ForG.inv (P:=λi ρ G'=>(∃o9 o10 o11 o12,ρ=[some (.scr ns),some (.ref p),some d,some (aq w rs),some (.lst (st.map D.int)),some (aC o),some (.lst [aC o,aC o']),some (.ref q),o8,o9,o10,o11,o12])/\Sa G7 G') ⟨⟨_,_,_,_,rfl⟩,Sa.refl _⟩ (λ_ _ _ h=>⟨h.2 _ _ g7,trivial⟩) ?_ ?_
   ·rintro i9 d9 ρ G8 hd9 ⟨⟨o9,o10,o11,o12,rfl⟩,sa8⟩ kk9 hk9;obtain ⟨s,_,rfl⟩:=List.mem_map.mp (List.mem_of_getElem? hd9);have hs:=lH s;simp_arith![ends];refine last ?_;simp_arith![ends];refine ForG.inv (P:=λi ρ G'=>(∃o10 o11 o12,ρ=[some (.scr ns),some (.ref p),some d,some (aq w rs),some (.lst (st.map D.int)),some (aC o),some (.lst [aC o,aC o']),some (.ref q),o8,some (.lst (s.map D.int)),o10,o11,o12])/\Sa G7 G') ⟨⟨_,_,_,rfl⟩,sa8⟩ (λ_ _ _ _=>trivial) ?_ ?_
    ·rintro i10 d10 ρ G9 hd10 ⟨⟨o10,o11,o12,rfl⟩,sa9⟩ kk10 hk10;obtain ⟨u,hu,rfl⟩:∃u,okO rs.length u/\d10=aC u:=by
      have this:=List.mem_of_getElem? hd10;simp only[List.mem_cons,List.not_mem_nil,or_false]at this;rcases this with rfl |rfl
      ·exact ⟨_,ho,rfl⟩
      ·exact ⟨_,ho',rfl⟩
     simp_arith![ends];refine seq λM hM=>?_;simp_arith[ends];refine hM _ _ (seq λM hM=>?_);simp_arith[F.way];refine acp hb hu (by omega) (by omega) (hM _ _ (seq λM hM=>?_));simp_arith[jB hs.1];refine ⟨⟨hs.1,hs.1,by rw[hs.2];decide⟩,?_⟩;refine hM _ _ (last ?_);simp_arith[F.due];refine acr hb hu (by omega) (by omega) λG10 s10=>?_;simp_arith[BEq.rfl];exact hk10 _ _ ⟨⟨_,_,_,rfl⟩,sa9.trans s10⟩
    ·rintro ρ G9 ⟨⟨o10,o11,o12,rfl⟩,sa9⟩;exact hk9 _ _ ⟨⟨_,_,_,_,rfl⟩,sa9⟩
   ·rintro ρ G8 ⟨⟨o9,o10,o11,o12,rfl⟩,sa8⟩;exact hk _ _ ⟨⟨_,_,_,_,_,_,_,_,_,_,_,rfl⟩,hp7.sa sa8⟩
 ·rintro ρ G2 ⟨_,hp2⟩;refine hM _ _ (last ?_);simp_arith[ends]
end RF
namespace HD
open PySem PySem.W
def sv(x:Str)(t:Nat):Value:=.str x t
def ri(n:Nat):Value:=.int n 0
def gh (l:List Value):Obj:=⟨.type "tuple",none,.seq ⟨l⟩ 0,⟨[]⟩⟩
def eH(c:Value)(l:List Value):Obj:=⟨c,none,.fields ⟨l⟩,⟨[]⟩⟩
def lL:Str:="/claim/cut.py"
def yp(n q:Str)(ln ac fl a b:Nat)(isf:Bool)(l1 l2 tm:Value)(t t2:Nat):Obj:=
 eH (.type "code") [sv n t,sv q (t+1),sv lL (t+2),ri ln,ri ac,ri 0,ri 0,ri fl,.ref a,.bool isf,ri 181,.ref b,.none,l1,l2,tm,ri t2,ri ln,sv lL (t2+1)]
def toks(t:Nat):List Str->List Value
 |[]=>[]
 |x::r=>sv x t::toks (t+1) r
def fdO(n q:Str)(p:Arguments)(b:List Stmt)(sc:Scope)(g:Nat)(md cd:Value):Data:=
 .func { name:=n,qualname:=q,params:=p,body:=.stmts b,scope:=sc,globals:=g,closure:=[],defaults:=.none,kwdefaults:=.none,pyModule:=md,code:=cd }
def enO(P:Params)(k:Str)(t:Nat)(v:Value):DictEntry:={ hash:=PyData.keyHash P k,key:=sv k t,val:=v }
def lM (l:List DictEntry) (e:Nat):Obj:=⟨.type "dict",none,.dict ⟨l⟩ e,⟨[]⟩⟩
def frO (c l:Nat) (md:Value):Obj:=⟨.type "frame",none,.plain,⟨[some (.ref c),some (.ref 3),some (.ref l),none,some md,none,some (.ref 0)]⟩⟩
def bfO (s:String) (v:Value):Obj:=eH (.type "builtin_function_or_method") [.builtin s,v]
def veM:List Value:=[.type "ValueError",.type "Exception",.type "BaseException",.type "object"]
def tW (b:Expr):Bool:=match b with |.Name n _=>n==("ValueError":Str) |_=>false
def fnO(q:Str)(a t:Nat)(md:Value)(n:Str)(p:Arguments)(b:List Stmt)(sc:Scope)(ln:Nat):List Obj:=match localNames p sc (.stmts b) with
 |some l=>[gh [],eH .none [],gh (toks (t+3) l.1),gh [],⟨.none,none,fdO n q p b sc 0 .none .none,⟨[]⟩⟩,
   yp n q ln p.args.length 3 a (a+1) true (.ref (a+2)) (.ref (a+3)) (.ref (a+4)) t (t+3+l.1.length),⟨.type "function",none,fdO n q p b sc 3 md (.ref (a+5)),⟨[]⟩⟩]
 |none=>[gh [],eH .none [],⟨.none,none,fdO n q p b sc 0 .none .none,⟨[]⟩⟩,
   yp n q ln p.args.length 3 a (a+1) true .none .none (.ref (a+2)) t (t+3),⟨.type "function",none,fdO n q p b sc 3 md (.ref (a+3)),⟨[]⟩⟩]
def fnA(p:Arguments)(b:List Stmt)(sc:Scope):Nat:=match localNames p sc (.stmts b) with |some _=>7 |none=>5
def fnT(p:Arguments)(b:List Stmt)(sc:Scope):Nat:=match localNames p sc (.stmts b) with |some l=>l.1.length+5 |none=>5
def dot:Str:="."
structure MO where
 os:List Obj
 es:List DictEntry
 cs:List Value
 a:Nat
 t:Nat
def tX(P:Params)(c:Str)(md:Value):List Stmt->Nat->Nat->MO
 |.FunctionDef n p b _ _ _ sc _ _ pos::r,a,t=>
  let m:=tX P c md r (a+fnA p b sc) (t+fnT p b sc+1)
  ⟨fnO (c++dot++n) a t md n p b sc pos.line++m.os,enO P n (t+fnT p b sc) (.ref (a+fnA p b sc - 1))::m.es,ri pos.line::ri pos.col::.ref (a+fnA p b sc - 2)::m.cs,m.a,m.t⟩
 |_::r,a,t=>tX P c md r a t
 |[],a,t=>⟨[],[],[],a,t⟩
def clA(P:Params)(a:Nat)(b:List Stmt):Nat:=(tX P dot .none b (a+7) 0).a+2
def stO(P:Params)(r:Nat)(sub:List Value)(a t:Nat)(md:Value)(s:Stmt):List Obj:=match s with
 |.FunctionDef n p b _ _ _ sc _ _ pos=>fnO n a t md n p b sc pos.line
 |.ClassDef n bs _ body _ _ _ _ _ st pos=>
  let m:=tX P n md body (a+7) (t+12)
  let c:=m.a+2
  let u:=m.t+st.length
  let d1:=[enO P "__module__" (t+7) md]
  let d2:=enO P "__firstlineno__" (t+11) (.int pos.line (t+10))::m.es++[enO P "__static_attributes__" u (.ref m.a)]
  let b:List Value:=match bs with |b::_=>(match tW b with |true=>[.type "ValueError"] |false=>[.ref r]) |[]=>[]
  let own:Bool:=match bs with |[]=>true |_=>false
  let ve:Bool:=match bs with |b::_=>tW b |[]=>false
  let wr (v:Nat):Obj:=eH (.type "getset_descriptor") [sv "__weakref__" v,.ref c,.builtin "ExceptionGroup.__weakref__",.none]
  let typ (mro:List Value) (sub:List Value) (nw:String):Obj:=
   ⟨.type "type",none,.cls { name:=n,bases:=(match own with |true=>[.type "object"] |false=>b),mro:=.ref c::mro,ns:=m.a+1,qualname:=n,subclasses:=sub },
    ⟨[(match own with |true=>none |false=>some (.ref a)),none,some (sv n t),some (sv n (t+8)),some (.builtin nw),some (.bool true)]⟩⟩
  [gh b,bfO "type.__prepare__" (.type "type"),lM (d1++enO P "__qualname__" (t+9) (sv n (t+8))::d2) (4+m.es.length),gh [],eH .none m.cs,
   yp n n pos.line 0 0 (a+3) (a+4) false .none .none .none (t+2) (t+5),frO (a+5) (a+2) md]++m.os++[gh (toks m.t st)] ++
  (match own with
  |true=>[lM (d1++d2++[enO P "__dict__" (u+2) (.ref (c+1)),enO P "__weakref__" (u+4) (.ref (c+2)),enO P "__doc__" (u+5) .none]) 4,typ [.type "object"] [] "object.__new__",
    eH (.type "getset_descriptor") [sv "__dict__" (u+1),.ref c,.builtin "function.__dict__",.builtin "function.__dict__#set"],wr (u+3)]
  |false=>(match ve with
   |true=>[lM (d1++d2++[enO P "__weakref__" (u+2) (.ref (c+1)),enO P "__doc__" (u+3) .none]) 3,typ veM sub "ValueError.__new__",wr (u+1)]
   |false=>[lM (d1++d2++[enO P "__doc__" (u+1) .none]) 2,typ (.ref r::veM) [] "ValueError.__new__"])) ++
  [eH (.type "super") [.ref c,.ref c,.ref c],bfO "object.__init_subclass__" (.ref c)]
 |_=>[]
def mdO(t:Nat)(md:Value)(s:Stmt):Value:=match s with
 |.Assign [.Name n _] (.Constant (.str x) _ _) _=>(match n==("__name__":Str) with |true=>sv x t |false=>md)
 |_=>md
def enS(P:Params)(t u a a':Nat)(s:Stmt):List DictEntry:=match s with
 |.FunctionDef n _ _ _ _ _ _ _ _ _=>[enO P n (u-1) (.ref (a'-1))]
 |.ClassDef n _ _ b _ _ _ _ _ _ _=>[enO P n (u-1) (.ref (clA P a b))]
 |.Assign [.Name n _] (.Constant c _ _) _=>(match n==("__name__":Str) with
  |true=>[]
  |false=>[enO P n (t+1) (match c with |.int i=>.int i t |.str x=>sv x t |_=>.none)])
 |_=>[]
def cdS(a a':Nat)(s:Stmt):List Value:=match s with
 |.FunctionDef _ _ _ _ _ _ _ _ _ pos=>[ri pos.line,ri pos.col,.ref (a'-2)]
 |.ClassDef _ _ _ _ _ _ _ _ _ _ pos=>[ri pos.line,ri pos.col,.ref (a+5)]
 |_=>[]
def sbS(P:Params)(a:Nat)(s:Stmt):List Value:=match s with
 |.ClassDef _ bs _ b0 _ _ _ _ _ _ _=>(match bs with |b::_=>(match tW b with |true=>[] |false=>[.ref (clA P a b0)]) |[]=>[])
 |_=>[]
def acB(P:Params)(a:Nat)(s:Stmt):List Nat:=match s with
 |.ClassDef _ bs _ b0 _ _ _ _ _ _ _=>(match bs with |b::_=>(match tW b with |true=>[clA P a b0] |false=>[]) |[]=>[])
 |_=>[]
def fold{α:Type}(f:Nat->Nat->Nat->Nat->Value->Stmt->List α):List (Nat×Nat)->Value->List Stmt->List α
 | (a,t)::(a',u)::r,md,s::ss=>f a a' t u md s++fold f ((a',u)::r) (mdO t md s) ss
 |_,_,_=>[]
def Lx:List (Nat×Nat)->Value->List Stmt->Value
 | (_,t)::r,md,s::ss=>Lx r (mdO t md s) ss
 |_,md,_=>md
def ig:Value:=sv "__main__" 164
def acC(P:Params)(v:Value):List DictEntry:=
 [enO P "__name__" 165 v,enO P "__doc__" 166 .none,enO P "__package__" 167 .none,enO P "__loader__" 168 (.builtin "__main__.__loader__#opaque"),enO P "__spec__" 169 .none,
  enO P "__annotations__" 170 (.ref 6),enO P "__builtins__" 171 (.ref 4),enO P "__file__" 173 (sv lL 172),enO P "__cached__" 174 .none]
def ents(N:List (Nat×Nat))(b:List Stmt)(P:Params):List DictEntry:=acC P (Lx N ig b)++fold (λa a' t u _ s=>enS P t u a a' s) N ig b
def put{α:Type}:Nat->α->List α->List α
 |_,_,[]=>[]
 |0,x,_::r=>x::r
 |n+1,x,y::r=>y::put n x r
def Ly(cs:List Value):List Obj:=[gh [],eH .none cs,
 eH (.type "code") [sv "<module>" 182,sv "<module>" 183,sv lL 184,ri 1,ri 0,ri 0,ri 0,ri 0,.ref 11,.bool false,ri 181,.ref 12,.none,.none,.none,.none,ri 185,ri 1,sv lL 186],frO 13 3 ig]
def acD(B:List Obj):List Obj:=B++Ly []
def objs(B:List Obj)(N:List (Nat×Nat))(b:List Stmt)(P:Params):List Obj:=
 let es:=ents N b P
 put 3 (lM es es.length) (B++Ly (fold (λa a' _ _ _ s=>cdS a a' s) N ig b) ++
  fold (λa _ t _ md s=>stO P ((fold (λa _ _ _ _ s=>acB P a s) N ig b).headD 0) (fold (λa _ _ _ _ s=>sbS P a s) N ig b) a t md s) N ig b)
def evs{α:Type}:List α->List α
 |[]=>[]
 |[x]=>[x]
 |x::_::r=>x::evs r
def bt:Nat->List Obj->BT
 |0,_=>.nil
 |_,[]=>.nil
 |n+1,x::r=>.node x (bt n (evs r)) (bt n (evs r.tail))
def nameless(s:Stmt):Bool:=match s with
 |.Assign [.Name n _] _ _=>!(n==("__name__":Str))
 |_=>true
def pick:Nat->List Nat->List Obj->Frag
 |i,a::r,o::os=>(match Nat.beq a i with |true=>(a,o)::pick (i+1) r os |false=>pick (i+1) (a::r) os)
 |_,_,_=>[]
end HD
def PySem.W.Fast.tw797582099821577087:PySem.Program:=PySem.Challenge.pw_starsieve_k35_which_steps_lead
theorem PySem.W.Fast.te797582099821577087:PySem.Challenge.pw_starsieve_k35_which_steps_lead=PySem.W.Fast.tw797582099821577087:=rfl
namespace HK
open PySem PySem.W PySem.W.Fast
def pw:Program:=PySem.Challenge.pw_starsieve_k35_which_steps_lead
def rl:OpenLaw:=PySem.Challenge.rw_starsieve_k35_which_steps_lead
def NN:List (Nat×Nat):=[(15,187),(15,189),(28,207),(40,223),(52,239),(64,255),(76,271),(76,273),(76,275),(83,282),(90,289),(97,297),(102,303),(109,311),(116,320),(123,331),(130,338),(130,340),(130,342),(130,344),(130,346),(135,352),(142,360),(147,366),(154,373),(161,381),(168,389),(168,391),(175,398),(182,407),(189,418),(196,428),(203,439),(208,445),(208,447),(215,456),(220,462),(227,472),(227,474),(227,476),(227,478),(234,485),(239,491),(246,499),(253,508),(258,514),(265,522),(272,530),(279,541),(279,543),(286,554),(293,564),(300,571),(307,582),(312,588),(319,596),(326,606),(333,616),(340,628),(345,634),(352,648),(357,654),(364,664),(371,674),(378,683),(385,692),(390,698),(395,704),(402,712),(409,720),(416,731),(423,744),(430,756),(437,775)]
def L1(P:Params):List Obj:=HD.objs (boot_heap P).objs.toList NN pw.main.body P
def H1(P:Params):Heap:=⟨⟨L1 P⟩,{}⟩
def T1(P:Params):BT:=HD.bt 12 (L1 P)
def LA(P:Params):List Obj:=HD.acD (boot_heap P).objs.toList
def HA(P:Params):Heap:=⟨⟨LA P⟩,{}⟩
def T0(P:Params):BT:=HD.bt 5 (LA P)
def env:Env:={ scope:=pw.main.scope,locals:=mainNs,globals:=mainNs,cells:=[],code:=.ref 13,frame:=some 14 }
def bE:List Stmt:=behindTheImports pw
def cE:Code:=.body bE env
def p0:Pos:=⟨0,0,0,0⟩
def B:List Frame:=[topFrame p0]
def ann:Option Value:=some (.ref 6)
def qv:Program:={ pw with main:={ pw.main with body:=pw.main.body.filter HD.nameless } }
def as:List Nat:=[3,23,24,36,37,48,49,60,61,72,73,81,82,88,89,95,96,100,101,107,108,114,115,121,122,128,129,133,134,140,141,145,146,152,153,159,160,166,167,173,174,180,181,187,188,194,195,201,202,206,207,213,214,218,219,225,226,232,233,237,238,244,245,251,252,256,257,263,264,270,271,277,278,284,285,291,292,298,299,305,306,310,311,317,318,324,325,331,332,338,339,343,344,350,351,355,356,362,363,369,370,376,377,383,384,388,389,393,394,400,401,407,408,414,415,421,422,428,429,435,436]
def K(P:Params):Frag:=HD.pick 0 as (L1 P)
def Xt(s:Shared):Bool:=xlAt qv [] s&&recOk (RowW.records rl.row.toRowW) s
def see{α:Type}(_:α):Bool:=true
theorem primed:(see T1&&see T0&&see H1&&see HA&&see cE&&see B&&see env&&see bE&&see qv&&see K&&see Xt)=true:=by k_qdec
theorem pre(w:World)(os:OsState):topGo treeTable pw w 11 ann 12 ⟨boot_heap w.params,⟨[]⟩,boot_drawn,boot_toks,os⟩ (topStub pw)=some (⟨HA w.params,⟨[]⟩,{},187,os⟩,⟨denote treeTable cE,cE,p0,B⟩):=by have _:=primed;rw[PySem.W.Fast.te15667345088766844465,PySem.W.Fast.te14364793385576792824,PySem.W.Fast.te1032975242618825031,PySem.W.Fast.te8093259214132618727,PySem.W.Fast.te1718297227530528222,PySem.W.Fast.te11892475500146522536];rfl'
theorem block(w:World)(os:OsState):segRun treeTable pw w 11 ann 1 2 ⟨HA w.params,⟨[]⟩,{},187,os⟩ (blockOf bE env cE p0 B)=some (.next,SharedT.abs ⟨T0 w.params,15,{},⟨[]⟩,{},187,os⟩,cE,p0):=by rw[PySem.W.Fast.te14374325043358763698,PySem.W.Fast.te14364793385576792824,PySem.W.Fast.te1032975242618825031,PySem.W.Fast.te8093259214132618727,PySem.W.Fast.te1718297227530528222,PySem.W.Fast.te14938417808399470215,PySem.W.Fast.te16330338443398637341,PySem.W.Fast.te10239294469119128424];rfl'
theorem piece(w:World)(os:OsState):segRunT treeTable pw w 11 ann 1 9000 ⟨T0 w.params,15,{},⟨[]⟩,{},187,os⟩ (piecesOf bE env cE p0 B)=some (.next,⟨T1 w.params,437,{},⟨[]⟩,{},775,os⟩,cE,⟨306,0,323,15⟩):=by rw[PySem.W.Fast.te10110043849684766642,PySem.W.Fast.te14364793385576792824,PySem.W.Fast.te1032975242618825031,PySem.W.Fast.te13069687644243786066,PySem.W.Fast.te14938417808399470215,PySem.W.Fast.te1718297227530528222,PySem.W.Fast.te16330338443398637341,PySem.W.Fast.te10239294469119128424];rfl'
theorem fin(w:World)(os:OsState):topRun treeTable pw w 11 ann 3 (SharedT.abs ⟨T1 w.params,437,{},⟨[]⟩,{},775,os⟩) ⟨doneF .next,cE,⟨306,0,323,15⟩,B⟩=some ⟨H1 w.params,⟨[]⟩,{},775,os⟩:=by rw[PySem.W.Fast.te14082659384304107361,PySem.W.Fast.te14364793385576792824,PySem.W.Fast.te1032975242618825031,PySem.W.Fast.te13069687644243786066,PySem.W.Fast.te1718297227530528222,PySem.W.Fast.te14158929756966004236];rfl'
theorem run(w:World)(os:OsState):topRun treeTable pw w 11 ann (12+(2+(9000+3))) ⟨boot_heap w.params,⟨[]⟩,boot_drawn,boot_toks,os⟩ (topStub pw)=some ⟨H1 w.params,⟨[]⟩,{},775,os⟩:=by refine go_top (pre w os) (piece_block (block w os) ?_);have h:=piece_app (rest:=[]) (segRun_of (piece w os)) (piece_nil (fin w os));rw[List.append_nil]at h;exact h
theorem size (w:World):((boot_heap w.params).isNs mainGlobals&&(Array.mk []:Array GenState).size==0,(boot_heap w.params).objs.size,(boot_heap w.params).nsMap mainGlobals "__annotations__")=(true,11,ann):=by rfl'
theorem acE(w:World)(os:OsState):(staticsOk (importedModules pw.main.body) (boot_heap w.params) (H1 w.params)&&namesBound pw (H1 w.params)&&gensDone ⟨H1 w.params,⟨[]⟩,{},775,os⟩&&laidKept (boot_heap w.params) (H1 w.params))=true:=by rw[PySem.W.Fast.te1032975242618825031,PySem.W.Fast.te14158929756966004236,PySem.W.Fast.te5923862056798008813];rfl'
theorem acF(w:World)(os:OsState):openSeen qv [] (importedModules pw.main.body) Xt true ⟨H1 w.params,⟨[]⟩,{},775,os⟩=openGood qv []:=by rw[PySem.W.Fast.te1032975242618825031,PySem.W.Fast.te14158929756966004236,PySem.W.Fast.te5923862056798008813,PySem.W.Fast.te3994408356199485718,PySem.W.Fast.te3154452736318265832,PySem.W.Fast.te4187177175401517315];rfl'
theorem acG(w:World):as.map (H1 w.params).get?=(K w.params).map (λp=>some p.2):=by rw[PySem.W.Fast.te14158929756966004236,PySem.W.Fast.te538113369711794958];rfl'
theorem eAs(P:Params):as=(K P).map (·.1):=by rw[PySem.W.Fast.te538113369711794958];rfl'
def hook:Hook:=kHook K as eAs
theorem left:LeftO pw qv [] Xt hook.obs hook.val 12000:=by refine LeftO.of_pieces (boot_open (by rfl') (by decide) (λs=>by rfl')) size run (by decide) λw=>funext λos=>?_;exact Prod.ext (acE w os) (Prod.ext (acF w os) (acG w))
end HK
namespace Lk35
open PySem PySem.Spec PyProof.Rows L2 RF
open PySem.W (mg_of mg_none_of)
def Φ:aa:=λf=>if f="_law_anew" then rW else if f="_law_spread" then rT else if f="_law_take" then dg else if f="_law_bent" then tV else if f="_law_signs" then lq else if f="_law_deeds_of" then rZ else if f="_law_form" then xG else if f="_law_wider" then gW else if f="_law_within" then gW else if f="_law_form_like" then rY else if f="_law_book" then sr else if f="_law_by" then sBy else if f="_law_fits" then aP lD else if f="_law_met" then sJ else if f="_law_deed" then sV else if f="_law_words" then su else if f="_law_parting" then sW else if f="_law_does_the_same" then lK else if f="_law_stepped" then gf else if f="_law_drawn_steps" then tU else if f="_law_due" then tQ else if f="_law_open" then xH else if f="_law_order" then tR else if f="exchanged" then gf else if f="first_order" then sZ else if f="is_deed" then xV else if f="is_text_of" then xT else if f="is_form" then xU else if f="is_row" then xW else if f="is_whole" then aP gU else if f="is_width" then xX else if f="is_book" then xY else if f="need_book" then jf else if f="is_place" then aP gb else if f="is_order" then tu else if f="need_order" then lJ else if f="by_order" then sBy else if f="both" then aP lB else if f="first_touching" then lC else if f="splitting_place" then sG else if f="with_sign" then aP fZ else if f="grown" then eG 9 else if f="least" then aP jk else if f="is_named" then aP fB else if f="leaves" then dR 9 else if f="need_two_books" then sS else if f="deed_of" then sE else if f="same_deeds" then sSD else if f="stars" then aP gY else if f="alike" then sU else if f="parting_word" then sX else if f="is_good" then tD else if f="need_movable" then tB else if f="is_way" then tM else if f="law" then lr else bD (λ_ _=>False) (λ_ _ _ _=>False)
def Lz:Φ "_law_anew"=rW:=by rfl'
def LC:Φ "_law_spread"=rT:=by rfl'
def dW:Φ "_law_take"=dg:=by rfl'
def LK:Φ "_law_bent"=tV:=by rfl'
def yq:Φ "_law_signs"=lq:=by rfl'
def LQ:Φ "_law_deeds_of"=rZ:=by rfl'
def LR:Φ "_law_form"=xG:=by rfl'
def Ma:Φ "_law_wider"=gW:=by rfl'
def Mg:Φ "_law_within"=gW:=by rfl'
def Mh:Φ "_law_form_like"=rY:=by rfl'
def Mi:Φ "_law_book"=sr:=by rfl'
def Mj:Φ "_law_by"=sBy:=by rfl'
def Ml:Φ "_law_fits"=aP lD:=by rfl'
def Mm:Φ "_law_met"=sJ:=by rfl'
def Mp:Φ "_law_deed"=sV:=by rfl'
def Mq:Φ "_law_words"=su:=by rfl'
def Mr:Φ "_law_parting"=sW:=by rfl'
def yr:Φ "_law_does_the_same"=lK:=by rfl'
def yt:Φ "_law_stepped"=gf:=by rfl'
def Ms:Φ "_law_drawn_steps"=tU:=by rfl'
def Mt:Φ "_law_due"=tQ:=by rfl'
def Mu:Φ "_law_open"=xH:=by rfl'
def Mv:Φ "_law_order"=tR:=by rfl'
def Mw:Φ "exchanged"=gf:=by rfl'
def Mx:Φ "first_order"=sZ:=by rfl'
def My:Φ "is_deed"=xV:=by rfl'
def Mz:Φ "is_text_of"=xT:=by rfl'
def MF:Φ "is_form"=xU:=by rfl'
def MJ:Φ "is_row"=xW:=by rfl'
def yu:Φ "is_whole"=aP gU:=by rfl'
def MK:Φ "is_width"=xX:=by rfl'
def MN:Φ "is_book"=xY:=by rfl'
def tY:Φ "need_book"=jf:=by rfl'
def tZ:Φ "is_place"=aP gb:=by rfl'
def MP:Φ "is_order"=tu:=by rfl'
def yw:Φ "need_order"=lJ:=by rfl'
def MT:Φ "by_order"=sBy:=by rfl'
def M3:Φ "both"=aP lB:=by rfl'
def yx:Φ "first_touching"=lC:=by rfl'
def M4:Φ "splitting_place"=sG:=by rfl'
def yz:Φ "with_sign"=aP fZ:=by rfl'
def M5:Φ "grown"=eG 9:=by rfl'
def M6:Φ "least"=aP jk:=by rfl'
def M7:Φ "is_named"=aP fB:=by rfl'
def M8:Φ "leaves"=dR 9:=by rfl'
def M9:Φ "need_two_books"=sS:=by rfl'
def Nb:Φ "deed_of"=sE:=by rfl'
def Nf:Φ "same_deeds"=sSD:=by rfl'
def Ng:Φ "stars"=aP gY:=by rfl'
def Nh:Φ "alike"=sU:=by rfl'
def Ni:Φ "parting_word"=sX:=by rfl'
def Nj:Φ "is_good"=tD:=by rfl'
def Nk:Φ "need_movable"=tB:=by rfl'
def Nm:Φ "is_way"=tM:=by rfl'
def bt:List String:=["all","bool","enumerate","int","isinstance","len","list","min","range","sorted","str","tuple","zip"]
def cn:List (String×D):=[("LETTERS",(.str [97,98,99,100,101,102,103,104,105,106,107,108,109,110,111,112,113,114,115,116,117,118,119,120,121,122])),("LONGEST_DEED",(.int 8)),("MOST_ROWS",(.int 12)),("MOST_ROWS_MOVED",(.int 5)),("WIDEST",(.int 6)),("WIDEST_MOVED",(.int 4))]
def xs:List (String×Bool):=[("NoBook",true),("NoMatch",true),("NoOrder",true),("TooMany",true)]
def f0:List (String×Nat):=[]
def f1:=("_law_anew",1)::f0
def f2:=("_law_spread",2)::f1
def f3:=("_law_take",2)::f2
def f4:=("_law_bent",3)::f3
def f5:=("_law_signs",3)::f4
def f6:=("_law_deeds_of",2)::f5
def f7:=("_law_form",2)::f6
def f8:=("_law_wider",2)::f7
def f9:=("_law_within",2)::f8
def f10:=("_law_form_like",3)::f9
def f11:=("_law_book",3)::f10
def f12:=("_law_by",2)::f11
def f13:=("_law_fits",2)::f12
def f14:=("_law_met",2)::f13
def f15:=("_law_deed",2)::f14
def f16:=("_law_words",1)::f15
def f17:=("_law_parting",2)::f16
def f18:=("_law_does_the_same",2)::f17
def f19:=("_law_stepped",2)::f18
def f20:=("_law_drawn_steps",2)::f19
def f21:=("_law_due",3)::f20
def f22:=("_law_open",1)::f21
def f23:=("_law_order",2)::f22
def f24:=("exchanged",2)::f23
def f25:=("first_order",1)::f24
def f26:=("is_deed",1)::f25
def f27:=("is_text_of",3)::f26
def f28:=("is_form",2)::f27
def f29:=("is_row",2)::f28
def f30:=("is_whole",1)::f29
def f31:=("is_width",1)::f30
def f32:=("is_book",1)::f31
def f33:=("need_book",1)::f32
def f34:=("is_place",2)::f33
def f35:=("is_order",2)::f34
def f36:=("need_order",2)::f35
def f37:=("by_order",2)::f36
def f38:=("both",2)::f37
def f39:=("first_touching",2)::f38
def f40:=("splitting_place",2)::f39
def f41:=("with_sign",3)::f40
def f42:=("grown",3)::f41
def f43:=("least",1)::f42
def f44:=("is_named",3)::f43
def f45:=("leaves",2)::f44
def f46:=("need_two_books",2)::f45
def f47:=("deed_of",2)::f46
def f48:=("same_deeds",3)::f47
def f49:=("stars",1)::f48
def f50:=("alike",2)::f49
def f51:=("parting_word",2)::f50
def f52:=("is_good",2)::f51
def f53:=("need_movable",1)::f52
def f54:=("is_way",3)::f53
def S(i:Nat):Stmt:=HK.pw.main.body.getD i (.Pass ⟨0,0,0,0⟩)
def lN:Stmt:=S 51
theorem acH:fnB ["pen"] ["pen"] (ao lN)=true:=by decide +kernel
theorem acI:aB (aG ["pen"] (ao lN) f0 bt cn xs) wH (aF lN)=true:=by decide +kernel
def lO:Stmt:=S 49
theorem acJ:fnB ["cell","at","one","two","three"] ["cell","at"] (ao lO)=true:=by decide +kernel
theorem acK:aB (aG ["cell","at","one","two","three"] (ao lO) f1 bt cn xs) wI (aF lO)=true:=by decide +kernel
def lQ:Stmt:=S 52
theorem acL:fnB ["pen","many","at","cell","found"] ["pen","many"] (ao lQ)=true:=by decide +kernel
theorem acM:aB (aG ["pen","many","at","cell","found"] (ao lQ) f2 bt cn xs) wJ (aF lQ)=true:=by decide +kernel
def lR:Stmt:=S 71
theorem acN:fnB ["pen","steps","many","at","place","kind"] ["pen","steps","many"] (ao lR)=true:=by decide +kernel
theorem acO:aB (aG ["pen","steps","many","at","place","kind"] (ao lR) f3 bt cn xs) wK (aF lR)=true:=by decide +kernel
def lU:Stmt:=S 53
theorem acP:fnB ["pen","width","signs"] ["pen","width","signs"] (ao lU)=true:=by decide +kernel
theorem acQ:aB (aG ["pen","width","signs"] (ao lU) f4 bt cn xs) wL (aF lU)=true:=by decide +kernel
def lV:Stmt:=S 58
theorem acR:fnB ["pen","most","some","turn","found","letters"] ["pen","most"] (ao lV)=true:=by decide +kernel
theorem acS:aB (aG ["pen","most","some","turn","found","letters"] (ao lV) f5 bt cn xs) wM (aF lV)=true:=by decide +kernel
def lW:Stmt:=S 54
theorem acT:fnB ["pen","width"] ["pen","width"] (ao lW)=true:=by decide +kernel
theorem acU:aB (aG ["pen","width"] (ao lW) f6 bt cn xs) wN (aF lW)=true:=by decide +kernel
def lX:Stmt:=S 56
theorem acV:fnB ["pen","form","found","sign"] ["pen","form"] (ao lX)=true:=by decide +kernel
theorem acW:aB (aG ["pen","form","found","sign"] (ao lX) f7 bt cn xs) wO (aF lX)=true:=by decide +kernel
def lY:Stmt:=S 55
theorem acX:fnB ["pen","form","found","sign"] ["pen","form"] (ao lY)=true:=by decide +kernel
theorem acY:aB (aG ["pen","form","found","sign"] (ao lY) f8 bt cn xs) wQ (aF lY)=true:=by decide +kernel
def lZ:Stmt:=S 57
theorem acZ:fnB ["pen","width","forms","kind","form","at"] ["pen","width","forms"] (ao lZ)=true:=by decide +kernel
theorem ac0:aB (aG ["pen","width","forms","kind","form","at"] (ao lZ) f9 bt cn xs) wR (aF lZ)=true:=by decide +kernel
def mj:Stmt:=S 59
theorem ac1:fnB ["pen","widest","most","width","deeds","forms","rows","k"] ["pen","widest","most"] (ao mj)=true:=by decide +kernel
theorem ac2:aB (aG ["pen","widest","most","width","deeds","forms","rows","k"] (ao mj) f10 bt cn xs) wU (aF mj)=true:=by decide +kernel
def mq:Stmt:=S 66
theorem ac3:fnB ["book","order"] ["book","order"] (ao mq)=true:=by decide +kernel
theorem ac4:aB (aG ["book","order"] (ao mq) f11 bt cn xs) wV (aF mq)=true:=by decide +kernel
def my:Stmt:=S 61
theorem ac5:fnB ["form","word","sign","other"] ["form","word"] (ao my)=true:=by decide +kernel
theorem ac6:aB (aG ["form","word","sign","other"] (ao my) f12 bt cn xs) wW (aF my)=true:=by decide +kernel
def mz:Stmt:=S 62
theorem ac7:fnB ["book","word","number","row"] ["book","word"] (ao mz)=true:=by decide +kernel
theorem ac8:aB (aG ["book","word","number","row"] (ao mz) f13 bt cn xs) wX (aF mz)=true:=by decide +kernel
def mC:Stmt:=S 63
theorem ac9:fnB ["book","word","number"] ["book","word"] (ao mC)=true:=by decide +kernel
theorem ada:aB (aG ["book","word","number"] (ao mC) f14 bt cn xs) wY (aF mC)=true:=by decide +kernel
def mD:Stmt:=S 60
theorem adb:fnB ["form","found","sign","longer","text"] ["form"] (ao mD)=true:=by decide +kernel
theorem adc:aB (aG ["form","found","sign","longer","text"] (ao mD) f15 bt cn xs) wZ (aF mD)=true:=by decide +kernel
def mF:Stmt:=S 64
theorem ade:fnB ["one","other","word"] ["one","other"] (ao mF)=true:=by decide +kernel
theorem adf:aB (aG ["one","other","word"] (ao mF) f16 bt cn xs) w5 (aF mF)=true:=by decide +kernel
def mG:Stmt:=S 68
theorem adg:fnB ["book","order"] ["book","order"] (ao mG)=true:=by decide +kernel
theorem adh:aB (aG ["book","order"] (ao mG) f17 bt cn xs) xf (aF mG)=true:=by decide +kernel
def mH:Stmt:=S 67
theorem adi:fnB ["order","place"] ["order","place"] (ao mH)=true:=by decide +kernel
theorem adk:aB (aG ["order","place"] (ao mH) f18 bt cn xs) Ka (aF mH)=true:=by decide +kernel
def mJ:Stmt:=S 70
theorem adl:fnB ["pen","book","here","steps","turn","place","there"] ["pen","book"] (ao mJ)=true:=by decide +kernel
theorem adm:aB (aG ["pen","book","here","steps","turn","place","there"] (ao mJ) f19 bt cn xs) xg (aF mJ)=true:=by decide +kernel
def mK:Stmt:=S 69
theorem adn:fnB ["book","order","steps","here","place"] ["book","order","steps"] (ao mK)=true:=by decide +kernel
theorem ado:aB (aG ["book","order","steps","here","place"] (ao mK) f20 bt cn xs) xj (aF mK)=true:=by decide +kernel
def mL:Stmt:=S 50
theorem adp:fnB ["script","cells","k","cell"] ["script"] (ao mL)=true:=by decide +kernel
theorem adq:aB (aG ["script","cells","k","cell"] (ao mL) f21 bt cn xs) xm (aF mL)=true:=by decide +kernel
def mO:Stmt:=S 65
theorem adt:fnB ["pen","many","left"] ["pen","many"] (ao mO)=true:=by decide +kernel
theorem adu:aB (aG ["pen","many","left"] (ao mO) f22 bt cn xs) xq (aF mO)=true:=by decide +kernel
def mQ:Stmt:=S 45
theorem adv:fnB ["things","place"] ["things","place"] (ao mQ)=true:=by decide +kernel
theorem adw:aB (aG ["things","place"] (ao mQ) f23 bt cn xs) jQ (aF mQ)=true:=by decide +kernel
def mR:Stmt:=S 40
theorem adx:fnB ["book"] ["book"] (ao mR)=true:=by decide +kernel
theorem ady:aB (aG ["book"] (ao mR) f24 bt cn xs) jR (aF mR)=true:=by decide +kernel
def mU:Stmt:=S 20
theorem adz:fnB ["thing"] ["thing"] (ao mU)=true:=by decide +kernel
theorem adA:aB (aG ["thing"] (ao mU) f25 bt cn xs) jT (aF mU)=true:=by decide +kernel
def mV:Stmt:=S 11
theorem adB:fnB ["signs","width","thing"] ["signs","width","thing"] (ao mV)=true:=by decide +kernel
theorem adC:aB (aG ["signs","width","thing"] (ao mV) f26 bt cn xs) jU (aF mV)=true:=by decide +kernel
def mW:Stmt:=S 12
theorem adD:fnB ["width","thing"] ["width","thing"] (ao mW)=true:=by decide +kernel
theorem adE:aB (aG ["width","thing"] (ao mW) f27 bt cn xs) jV (aF mW)=true:=by decide +kernel
def mX:Stmt:=S 21
theorem adF:fnB ["width","thing"] ["width","thing"] (ao mX)=true:=by decide +kernel
theorem adG:aB (aG ["width","thing"] (ao mX) f28 bt cn xs) jW (aF mX)=true:=by decide +kernel
def mY:Stmt:=S 8
theorem adH:fnB ["thing"] ["thing"] (ao mY)=true:=by decide +kernel
theorem adI:aB (aG ["thing"] (ao mY) f29 bt cn xs) jX (aF mY)=true:=by decide +kernel
def mZ:Stmt:=S 9
theorem adJ:fnB ["thing"] ["thing"] (ao mZ)=true:=by decide +kernel
theorem adK:aB (aG ["thing"] (ao mZ) f30 bt cn xs) jY (aF mZ)=true:=by decide +kernel
def m5:Stmt:=S 22
theorem adL:fnB ["thing","width","rows"] ["thing"] (ao m5)=true:=by decide +kernel
theorem adM:aB (aG ["thing","width","rows"] (ao m5) f31 bt cn xs) jZ (aF m5)=true:=by decide +kernel
def m6:Stmt:=S 23
theorem adN:fnB ["book"] ["book"] (ao m6)=true:=by decide +kernel
theorem adO:aB (aG ["book"] (ao m6) f32 bt cn xs) j0 (aF m6)=true:=by decide +kernel
def m7:Stmt:=S 10
theorem adP:fnB ["many","thing"] ["many","thing"] (ao m7)=true:=by decide +kernel
theorem adQ:aB (aG ["many","thing"] (ao m7) f33 bt cn xs) j4 (aF m7)=true:=by decide +kernel
def m8:Stmt:=S 41
theorem adR:fnB ["book","thing","many"] ["book","thing"] (ao m8)=true:=by decide +kernel
theorem adS:aB (aG ["book","thing","many"] (ao m8) f34 bt cn xs) j5 (aF m8)=true:=by decide +kernel
def m9:Stmt:=S 42
theorem adT:fnB ["book","order"] ["book","order"] (ao m9)=true:=by decide +kernel
theorem adU:aB (aG ["book","order"] (ao m9) f35 bt cn xs) j6 (aF m9)=true:=by decide +kernel
def ni:Stmt:=S 44
theorem adV:fnB ["book","order","width","rows"] ["book","order"] (ao ni)=true:=by decide +kernel
theorem adW:aB (aG ["book","order","width","rows"] (ao ni) f36 bt cn xs) j7 (aF ni)=true:=by decide +kernel
def nq:Stmt:=S 14
theorem adX:fnB ["form","other","shared","one","two"] ["form","other"] (ao nq)=true:=by decide +kernel
theorem adY:aB (aG ["form","other","shared","one","two"] (ao nq) f37 bt cn xs) j8 (aF nq)=true:=by decide +kernel
def nu:Stmt:=S 30
theorem adZ:fnB ["rows","box","number","row"] ["rows","box"] (ao nu)=true:=by decide +kernel
theorem ad0:aB (aG ["rows","box","number","row"] (ao nu) f38 bt cn xs) j9 (aF nu)=true:=by decide +kernel
def nA:Stmt:=S 31
theorem ad1:fnB ["rows","box","number","at","sign"] ["rows","box"] (ao nA)=true:=by decide +kernel
theorem ad2:aB (aG ["rows","box","number","at","sign"] (ao nA) f39 bt cn xs) kh (aF nA)=true:=by decide +kernel
def nF:Stmt:=S 13
theorem ad3:fnB ["form","at","sign"] ["form","at","sign"] (ao nF)=true:=by decide +kernel
theorem ad4:aB (aG ["form","at","sign"] (ao nF) f40 bt cn xs) kj (aF nF)=true:=by decide +kernel
def nG:Stmt:=S 32
theorem ad5:fnB ["name","many_rows","box","rows","at","zero","one"] ["name","many_rows","box"] (ao nG)=true:=by decide +kernel
theorem ad6:aB (aG ["name","many_rows","box","rows","at","zero","one"] (ao nG) f42 bt cn xs) jd (aF nG)=true:=by decide +kernel
def nH:Stmt:=S 15
def nJ:Stmt:=S 28
theorem ad7:fnB ["name","many","thing"] ["name","many","thing"] (ao nJ)=true:=by decide +kernel
theorem ad8:aB (aG ["name","many","thing"] (ao nJ) f43 bt cn xs) km (aF nJ)=true:=by decide +kernel
def nM:Stmt:=S 29
theorem ad9:fnB ["box","tree","at","zero","one"] ["box","tree"] (ao nM)=true:=by decide +kernel
theorem aea:aB (aG ["box","tree","at","zero","one"] (ao nM) f45 bt cn xs) gQ (aF nM)=true:=by decide +kernel
def nO:Stmt:=S 24
theorem aeb:fnB ["one","other"] ["one","other"] (ao nO)=true:=by decide +kernel
theorem aec:aB (aG ["one","other"] (ao nO) f45 bt cn xs) kE (aF nO)=true:=by decide +kernel
def nP:Stmt:=S 25
theorem aed:fnB ["book","number"] ["book","number"] (ao nP)=true:=by decide +kernel
theorem aee:aB (aG ["book","number"] (ao nP) f46 bt cn xs) je (aF nP)=true:=by decide +kernel
def nQ:Stmt:=S 34
theorem aef:fnB ["one","other","leaf"] ["one","other","leaf"] (ao nQ)=true:=by decide +kernel
theorem aeg:aB (aG ["one","other","leaf"] (ao nQ) f47 bt cn xs) kI (aF nQ)=true:=by decide +kernel
def nR:Stmt:=S 27
theorem aeh:fnB ["width"] ["width"] (ao nR)=true:=by decide +kernel
theorem aei:aB (aG ["width"] (ao nR) f48 bt cn xs) kJ (aF nR)=true:=by decide +kernel
def nT:Stmt:=S 35
theorem aej:fnB ["one","other","box","tree","parting"] ["one","other"] (ao nT)=true:=by decide +kernel
theorem aek:aB (aG ["one","other","box","tree","parting"] (ao nT) f49 bt cn xs) kO (aF nT)=true:=by decide +kernel
def nU:Stmt:=S 36
theorem ael:fnB ["one","other","name","shown"] ["one","other"] (ao nU)=true:=by decide +kernel
theorem aem:aB (aG ["one","other","name","shown"] (ao nU) f50 bt cn xs) kW (aF nU)=true:=by decide +kernel
def nW:Stmt:=S 46
theorem aen:fnB ["book","order"] ["book","order"] (ao nW)=true:=by decide +kernel
theorem aeo:aB (aG ["book","order"] (ao nW) f51 bt cn xs) kY (aF nW)=true:=by decide +kernel
def nY:Stmt:=S 43
theorem aep:fnB ["book","width","rows"] ["book"] (ao nY)=true:=by decide +kernel
theorem aeq:aB (aG ["book","width","rows"] (ao nY) f52 bt cn xs) kZ (aF nY)=true:=by decide +kernel
def nZ:Stmt:=S 47
theorem aer:fnB ["book","order","steps","here","place"] ["book","order","steps"] (ao nZ)=true:=by decide +kernel
theorem aes:aB (aG ["book","order","steps","here","place"] (ao nZ) f53 bt cn xs) lg (aF nZ)=true:=by decide +kernel
def n6:Stmt:=S 72
theorem aet:fnB ["script","pen","turn","book","steps","order","orders","lists","k","some","one","handed","found"] ["script"] (ao n6)=true:=by decide +kernel
theorem aeu:aB (aG ["script","pen","turn","book","steps","order","orders","lists","k","some","one","handed","found"] (ao n6) f54 bt cn xs) xr (aF n6)=true:=by decide +kernel
theorem Np:(Str.ofString "0":Str)=tx [48]:=by decide +kernel
theorem aev:(Str.ofString "*":Str)=tx [42]:=by decide +kernel
theorem aew:FnScope ["form"] ["form"] (ao nH):=⟨rfl,rfl,rfl,by decide +kernel,rfl,by decide +kernel,by decide +kernel⟩
def aex:Sp:=λvs H Q _=>∃l:List Nat,vs=[.str (tx l)]/\l.length<=1000/\Q (.str (tx (cC l))) H
theorem aey {P:Program} {w:World} {K:PySem.W.Frag} {mg:Str->Option Value} {base:Heap} {f:Addr} {fd:FuncData} (F:Fun K "least" "least" nH f fd):FnOk P w K mg base CX0 1 f fd ["form"] aex:=by
 refine F.ok1 aew rfl (by decide +kernel) (λ_=>rfl) (λvs H Q E h=>?_) (λcdv A outer s H vs Q E hr h=>?_)
 ·obtain ⟨l,rfl,_⟩:=h;rfl
 ·obtain ⟨l,rfl,hl,q⟩:=h;refine ⟨_,Vi (Vk (pv 0) (by decide +kernel)),?_⟩;refine ⟨_,rfl,_,rfl,?_,?_⟩
  ·rw[Np,bQ,bQ];simp;omega
  ·rw[aev,Np,Vj];exact q
theorem aez {P:Program} {w:World} {K:PySem.W.Frag} {mg:Str->Option Value} {base:Heap} {f:Addr} {fd:FuncData} (F:Fun K "least" "least" nH f fd):FnOk P w K mg base CX0 1 f fd ["form"] (lift K 1 (aP jk)):=by
 refine (aey F).imp λvs H Q E h=>?_;obtain ⟨e0,Fz,G,ds,r,t,⟨ds',G'⟩,⟨e1,e2⟩,e3,e4⟩:=h;cases e1;obtain ⟨d,hd⟩:=Option.isSome_iff_exists.mp e2;have hd2:=hd;unfold jk at hd;split at hd
 ·rename_i l;split at hd
  ·rename_i hl;cases hd;obtain ⟨v,rfl,rv⟩:=bz t;obtain ⟨rfl,_⟩:=rv;have hl':l.length<=1000:=of_decide_eq_true hl;exact ⟨l,rfl,hl',(e3 _ _ ⟨rfl,hd2⟩).now r ⟨rfl,by unfold cC;rw[List.length_map];exact Nat.le_trans hl' (by decide)⟩⟩
  ·cases hd
 ·cases hd
def fdM(n:Str)(st:Stmt)(m:Str)(t c:Nat):FuncData:=PySem.W.fnOf n n (jq st) (aF st) (ao st) .none .none .none (.str m t) none (.ref c) .none
theorem mkF {K:PySem.W.Frag} {n m:Str} {st:Stmt} {a t c:Nat} (l:K.lookup a=some ⟨.type "function",none,.func (fdM n st m t c),⟨[]⟩⟩) (h1:PySem.W.codeIn K (.ref c) n=true) (h2:PySem.W.keepIn K (.ref a)=true):Fun K n n st a (fdM n st m t c):=U6 l h1 h2
theorem tK:type_of% @PySem.W.Fast.te538113369711794958:=PySem.W.Fast.te538113369711794958
local macro_rules|`(tactic|eq_refl)=>`(tactic|(rw[tK];rfl'))
section
variable {P:Params}
def Nq:FuncData:=fdM "_law_anew" lN "law_starsieve_k35_which_steps_lead" 541 298
theorem Nr:Fun (HK.K P) "_law_anew" "_law_anew" lN 299 Nq:=mkF (by rfl') (by eq_refl) (by eq_refl)
theorem aeA:PySem.W.nsIn (HK.K P) mainGlobals "_law_anew"=some (some (.ref 299)):=by eq_refl
theorem aeB:Binds (HK.K P) Nq ["pen"] []:=Nr.binds (ps:=["pen"]) λ_ _ _ _ _ _ us hl=>by obtain ⟨x0,rfl⟩:=c7 hl;rfl
def Nt:FuncData:=fdM "_law_spread" lO "law_starsieve_k35_which_steps_lead" 541 284
theorem Nu:Fun (HK.K P) "_law_spread" "_law_spread" lO 285 Nt:=mkF (by rfl') (by eq_refl) (by eq_refl)
theorem aeC:PySem.W.nsIn (HK.K P) mainGlobals "_law_spread"=some (some (.ref 285)):=by eq_refl
theorem aeD:Binds (HK.K P) Nt ["cell","at"] []:=Nu.binds (ps:=["cell","at"]) λ_ _ _ _ _ _ us hl=>by obtain ⟨x0,x1,rfl⟩:=aU hl;rfl
def Nv:FuncData:=fdM "_law_take" lQ "law_starsieve_k35_which_steps_lead" 541 305
theorem Nx:Fun (HK.K P) "_law_take" "_law_take" lQ 306 Nv:=mkF (by rfl') (by eq_refl) (by eq_refl)
theorem aeE:PySem.W.nsIn (HK.K P) mainGlobals "_law_take"=some (some (.ref 306)):=by eq_refl
theorem aeF:Binds (HK.K P) Nv ["pen","many"] []:=Nx.binds (ps:=["pen","many"]) λ_ _ _ _ _ _ us hl=>by obtain ⟨x0,x1,rfl⟩:=aU hl;rfl
def Ny:FuncData:=fdM "_law_bent" lR "law_starsieve_k35_which_steps_lead" 541 428
theorem Nz:Fun (HK.K P) "_law_bent" "_law_bent" lR 429 Ny:=mkF (by rfl') (by eq_refl) (by eq_refl)
theorem aeG:PySem.W.nsIn (HK.K P) mainGlobals "_law_bent"=some (some (.ref 429)):=by eq_refl
theorem aeH:Binds (HK.K P) Ny ["pen","steps","many"] []:=Nz.binds (ps:=["pen","steps","many"]) λ_ _ _ _ _ _ us hl=>by obtain ⟨x0,x1,x2,rfl⟩:=dJ hl;rfl
def NB:FuncData:=fdM "_law_signs" lU "law_starsieve_k35_which_steps_lead" 541 310
theorem NK:Fun (HK.K P) "_law_signs" "_law_signs" lU 311 NB:=mkF (by rfl') (by eq_refl) (by eq_refl)
theorem aeI:PySem.W.nsIn (HK.K P) mainGlobals "_law_signs"=some (some (.ref 311)):=by eq_refl
theorem aeJ:Binds (HK.K P) NB ["pen","width","signs"] []:=NK.binds (ps:=["pen","width","signs"]) λ_ _ _ _ _ _ us hl=>by obtain ⟨x0,x1,x2,rfl⟩:=dJ hl;rfl
def NP:FuncData:=fdM "_law_deeds_of" lV "law_starsieve_k35_which_steps_lead" 541 343
theorem NQ:Fun (HK.K P) "_law_deeds_of" "_law_deeds_of" lV 344 NP:=mkF (by rfl') (by eq_refl) (by eq_refl)
theorem aeK:PySem.W.nsIn (HK.K P) mainGlobals "_law_deeds_of"=some (some (.ref 344)):=by eq_refl
theorem aeL:Binds (HK.K P) NP ["pen","most"] []:=NQ.binds (ps:=["pen","most"]) λ_ _ _ _ _ _ us hl=>by obtain ⟨x0,x1,rfl⟩:=aU hl;rfl
def NT:FuncData:=fdM "_law_form" lW "law_starsieve_k35_which_steps_lead" 541 317
theorem NZ:Fun (HK.K P) "_law_form" "_law_form" lW 318 NT:=mkF (by rfl') (by eq_refl) (by eq_refl)
theorem aeM:PySem.W.nsIn (HK.K P) mainGlobals "_law_form"=some (some (.ref 318)):=by eq_refl
theorem aeN:Binds (HK.K P) NT ["pen","width"] []:=NZ.binds (ps:=["pen","width"]) λ_ _ _ _ _ _ us hl=>by obtain ⟨x0,x1,rfl⟩:=aU hl;rfl
def N5:FuncData:=fdM "_law_wider" lX "law_starsieve_k35_which_steps_lead" 541 331
theorem N6:Fun (HK.K P) "_law_wider" "_law_wider" lX 332 N5:=mkF (by rfl') (by eq_refl) (by eq_refl)
theorem aeO:PySem.W.nsIn (HK.K P) mainGlobals "_law_wider"=some (some (.ref 332)):=by eq_refl
theorem aeP:Binds (HK.K P) N5 ["pen","form"] []:=N6.binds (ps:=["pen","form"]) λ_ _ _ _ _ _ us hl=>by obtain ⟨x0,x1,rfl⟩:=aU hl;rfl
def N7:FuncData:=fdM "_law_within" lY "law_starsieve_k35_which_steps_lead" 541 324
theorem N8:Fun (HK.K P) "_law_within" "_law_within" lY 325 N7:=mkF (by rfl') (by eq_refl) (by eq_refl)
theorem aeQ:PySem.W.nsIn (HK.K P) mainGlobals "_law_within"=some (some (.ref 325)):=by eq_refl
theorem aeR:Binds (HK.K P) N7 ["pen","form"] []:=N8.binds (ps:=["pen","form"]) λ_ _ _ _ _ _ us hl=>by obtain ⟨x0,x1,rfl⟩:=aU hl;rfl
def Oa:FuncData:=fdM "_law_form_like" lZ "law_starsieve_k35_which_steps_lead" 541 338
theorem Ob:Fun (HK.K P) "_law_form_like" "_law_form_like" lZ 339 Oa:=mkF (by rfl') (by eq_refl) (by eq_refl)
theorem aeS:PySem.W.nsIn (HK.K P) mainGlobals "_law_form_like"=some (some (.ref 339)):=by eq_refl
theorem aeT:Binds (HK.K P) Oa ["pen","width","forms"] []:=Ob.binds (ps:=["pen","width","forms"]) λ_ _ _ _ _ _ us hl=>by obtain ⟨x0,x1,x2,rfl⟩:=dJ hl;rfl
def Oc:FuncData:=fdM "_law_book" mj "law_starsieve_k35_which_steps_lead" 541 350
theorem Od:Fun (HK.K P) "_law_book" "_law_book" mj 351 Oc:=mkF (by rfl') (by eq_refl) (by eq_refl)
theorem aeU:PySem.W.nsIn (HK.K P) mainGlobals "_law_book"=some (some (.ref 351)):=by eq_refl
theorem aeV:Binds (HK.K P) Oc ["pen","widest","most"] []:=Od.binds (ps:=["pen","widest","most"]) λ_ _ _ _ _ _ us hl=>by obtain ⟨x0,x1,x2,rfl⟩:=dJ hl;rfl
def Oe:FuncData:=fdM "_law_by" mq "law_starsieve_k35_which_steps_lead" 541 393
theorem Og:Fun (HK.K P) "_law_by" "_law_by" mq 394 Oe:=mkF (by rfl') (by eq_refl) (by eq_refl)
theorem aeW:PySem.W.nsIn (HK.K P) mainGlobals "_law_by"=some (some (.ref 394)):=by eq_refl
theorem aeX:Binds (HK.K P) Oe ["book","order"] []:=Og.binds (ps:=["book","order"]) λ_ _ _ _ _ _ us hl=>by obtain ⟨x0,x1,rfl⟩:=aU hl;rfl
def Oh:FuncData:=fdM "_law_fits" my "law_starsieve_k35_which_steps_lead" 541 362
theorem Oi:Fun (HK.K P) "_law_fits" "_law_fits" my 363 Oh:=mkF (by rfl') (by eq_refl) (by eq_refl)
theorem aeY:PySem.W.nsIn (HK.K P) mainGlobals "_law_fits"=some (some (.ref 363)):=by eq_refl
theorem aeZ:Binds (HK.K P) Oh ["form","word"] []:=Oi.binds (ps:=["form","word"]) λ_ _ _ _ _ _ us hl=>by obtain ⟨x0,x1,rfl⟩:=aU hl;rfl
def Oj:FuncData:=fdM "_law_met" mz "law_starsieve_k35_which_steps_lead" 541 369
theorem Ol:Fun (HK.K P) "_law_met" "_law_met" mz 370 Oj:=mkF (by rfl') (by eq_refl) (by eq_refl)
theorem ae0:PySem.W.nsIn (HK.K P) mainGlobals "_law_met"=some (some (.ref 370)):=by eq_refl
theorem ae1:Binds (HK.K P) Oj ["book","word"] []:=Ol.binds (ps:=["book","word"]) λ_ _ _ _ _ _ us hl=>by obtain ⟨x0,x1,rfl⟩:=aU hl;rfl
def Om:FuncData:=fdM "_law_deed" mC "law_starsieve_k35_which_steps_lead" 541 376
theorem Oo:Fun (HK.K P) "_law_deed" "_law_deed" mC 377 Om:=mkF (by rfl') (by eq_refl) (by eq_refl)
theorem ae2:PySem.W.nsIn (HK.K P) mainGlobals "_law_deed"=some (some (.ref 377)):=by eq_refl
theorem ae3:Binds (HK.K P) Om ["book","word"] []:=Oo.binds (ps:=["book","word"]) λ_ _ _ _ _ _ us hl=>by obtain ⟨x0,x1,rfl⟩:=aU hl;rfl
def Oq:FuncData:=fdM "_law_words" mD "law_starsieve_k35_which_steps_lead" 541 355
theorem Ot:Fun (HK.K P) "_law_words" "_law_words" mD 356 Oq:=mkF (by rfl') (by eq_refl) (by eq_refl)
theorem ae4:PySem.W.nsIn (HK.K P) mainGlobals "_law_words"=some (some (.ref 356)):=by eq_refl
theorem ae5:Binds (HK.K P) Oq ["form"] []:=Ot.binds (ps:=["form"]) λ_ _ _ _ _ _ us hl=>by obtain ⟨x0,rfl⟩:=c7 hl;rfl
def Ou:FuncData:=fdM "_law_parting" mF "law_starsieve_k35_which_steps_lead" 541 383
theorem Ov:Fun (HK.K P) "_law_parting" "_law_parting" mF 384 Ou:=mkF (by rfl') (by eq_refl) (by eq_refl)
theorem ae6:PySem.W.nsIn (HK.K P) mainGlobals "_law_parting"=some (some (.ref 384)):=by eq_refl
theorem ae7:Binds (HK.K P) Ou ["one","other"] []:=Ov.binds (ps:=["one","other"]) λ_ _ _ _ _ _ us hl=>by obtain ⟨x0,x1,rfl⟩:=aU hl;rfl
def Ow:FuncData:=fdM "_law_does_the_same" mG "law_starsieve_k35_which_steps_lead" 541 407
theorem Oz:Fun (HK.K P) "_law_does_the_same" "_law_does_the_same" mG 408 Ow:=mkF (by rfl') (by eq_refl) (by eq_refl)
theorem ae8:PySem.W.nsIn (HK.K P) mainGlobals "_law_does_the_same"=some (some (.ref 408)):=by eq_refl
theorem ae9:Binds (HK.K P) Ow ["book","order"] []:=Oz.binds (ps:=["book","order"]) λ_ _ _ _ _ _ us hl=>by obtain ⟨x0,x1,rfl⟩:=aU hl;rfl
def OD:FuncData:=fdM "_law_stepped" mH "law_starsieve_k35_which_steps_lead" 541 400
theorem OJ:Fun (HK.K P) "_law_stepped" "_law_stepped" mH 401 OD:=mkF (by rfl') (by eq_refl) (by eq_refl)
theorem afa:PySem.W.nsIn (HK.K P) mainGlobals "_law_stepped"=some (some (.ref 401)):=by eq_refl
theorem afb:Binds (HK.K P) OD ["order","place"] []:=OJ.binds (ps:=["order","place"]) λ_ _ _ _ _ _ us hl=>by obtain ⟨x0,x1,rfl⟩:=aU hl;rfl
def O1:FuncData:=fdM "_law_drawn_steps" mJ "law_starsieve_k35_which_steps_lead" 541 421
theorem O2:Fun (HK.K P) "_law_drawn_steps" "_law_drawn_steps" mJ 422 O1:=mkF (by rfl') (by eq_refl) (by eq_refl)
theorem afc:PySem.W.nsIn (HK.K P) mainGlobals "_law_drawn_steps"=some (some (.ref 422)):=by eq_refl
theorem afd:Binds (HK.K P) O1 ["pen","book"] []:=O2.binds (ps:=["pen","book"]) λ_ _ _ _ _ _ us hl=>by obtain ⟨x0,x1,rfl⟩:=aU hl;rfl
def O3:FuncData:=fdM "_law_due" mK "law_starsieve_k35_which_steps_lead" 541 414
theorem O4:Fun (HK.K P) "_law_due" "_law_due" mK 415 O3:=mkF (by rfl') (by eq_refl) (by eq_refl)
theorem afe:PySem.W.nsIn (HK.K P) mainGlobals "_law_due"=some (some (.ref 415)):=by eq_refl
theorem afg:Binds (HK.K P) O3 ["book","order","steps"] []:=O4.binds (ps:=["book","order","steps"]) λ_ _ _ _ _ _ us hl=>by obtain ⟨x0,x1,x2,rfl⟩:=dJ hl;rfl
def O5:FuncData:=fdM "_law_open" mL "law_starsieve_k35_which_steps_lead" 541 291
theorem O6:Fun (HK.K P) "_law_open" "_law_open" mL 292 O5:=mkF (by rfl') (by eq_refl) (by eq_refl)
theorem afh:PySem.W.nsIn (HK.K P) mainGlobals "_law_open"=some (some (.ref 292)):=by eq_refl
theorem afi:Binds (HK.K P) O5 ["script"] []:=O6.binds (ps:=["script"]) λ_ _ _ _ _ _ us hl=>by obtain ⟨x0,rfl⟩:=c7 hl;rfl
def O7:FuncData:=fdM "_law_order" mO "law_starsieve_k35_which_steps_lead" 541 388
theorem O8:Fun (HK.K P) "_law_order" "_law_order" mO 389 O7:=mkF (by rfl') (by eq_refl) (by eq_refl)
theorem afj:PySem.W.nsIn (HK.K P) mainGlobals "_law_order"=some (some (.ref 389)):=by eq_refl
theorem afk:Binds (HK.K P) O7 ["pen","many"] []:=O8.binds (ps:=["pen","many"]) λ_ _ _ _ _ _ us hl=>by obtain ⟨x0,x1,rfl⟩:=aU hl;rfl
def O9:FuncData:=fdM "exchanged" mQ "starsieve.moves" 472 263
theorem Pa:Fun (HK.K P) "exchanged" "exchanged" mQ 264 O9:=mkF (by rfl') (by eq_refl) (by eq_refl)
theorem afl:PySem.W.nsIn (HK.K P) mainGlobals "exchanged"=some (some (.ref 264)):=by eq_refl
theorem jQ:Binds (HK.K P) O9 ["things","place"] []:=Pa.binds (ps:=["things","place"]) λ_ _ _ _ _ _ us hl=>by obtain ⟨x0,x1,rfl⟩:=aU hl;rfl
def Pb:FuncData:=fdM "first_order" mR "starsieve.moves" 472 232
theorem Pg:Fun (HK.K P) "first_order" "first_order" mR 233 Pb:=mkF (by rfl') (by eq_refl) (by eq_refl)
theorem afm:PySem.W.nsIn (HK.K P) mainGlobals "first_order"=some (some (.ref 233)):=by eq_refl
theorem jR:Binds (HK.K P) Pb ["book"] []:=Pg.binds (ps:=["book"]) λ_ _ _ _ _ _ us hl=>by obtain ⟨x0,rfl⟩:=c7 hl;rfl
def Ph:FuncData:=fdM "is_deed" mU "starsieve.books" 338 133
theorem Pj:Fun (HK.K P) "is_deed" "is_deed" mU 134 Ph:=mkF (by rfl') (by eq_refl) (by eq_refl)
theorem afn:PySem.W.nsIn (HK.K P) mainGlobals "is_deed"=some (some (.ref 134)):=by eq_refl
theorem jT:Binds (HK.K P) Ph ["thing"] []:=Pj.binds (ps:=["thing"]) λ_ _ _ _ _ _ us hl=>by obtain ⟨x0,rfl⟩:=c7 hl;rfl
def Pk:FuncData:=fdM "is_text_of" mV "starsieve.forms" 271 100
theorem Pn:Fun (HK.K P) "is_text_of" "is_text_of" mV 101 Pk:=mkF (by rfl') (by eq_refl) (by eq_refl)
theorem afo:PySem.W.nsIn (HK.K P) mainGlobals "is_text_of"=some (some (.ref 101)):=by eq_refl
theorem jU:Binds (HK.K P) Pk ["signs","width","thing"] []:=Pn.binds (ps:=["signs","width","thing"]) λ_ _ _ _ _ _ us hl=>by obtain ⟨x0,x1,x2,rfl⟩:=dJ hl;rfl
def Pq:FuncData:=fdM "is_form" mW "starsieve.forms" 271 107
theorem Pr:Fun (HK.K P) "is_form" "is_form" mW 108 Pq:=mkF (by rfl') (by eq_refl) (by eq_refl)
theorem afp:PySem.W.nsIn (HK.K P) mainGlobals "is_form"=some (some (.ref 108)):=by eq_refl
theorem jV:Binds (HK.K P) Pq ["width","thing"] []:=Pr.binds (ps:=["width","thing"]) λ_ _ _ _ _ _ us hl=>by obtain ⟨x0,x1,rfl⟩:=aU hl;rfl
def Pu:FuncData:=fdM "is_row" mX "starsieve.books" 338 140
theorem Px:Fun (HK.K P) "is_row" "is_row" mX 141 Pu:=mkF (by rfl') (by eq_refl) (by eq_refl)
theorem afq:PySem.W.nsIn (HK.K P) mainGlobals "is_row"=some (some (.ref 141)):=by eq_refl
theorem jW:Binds (HK.K P) Pu ["width","thing"] []:=Px.binds (ps:=["width","thing"]) λ_ _ _ _ _ _ us hl=>by obtain ⟨x0,x1,rfl⟩:=aU hl;rfl
def Py:FuncData:=fdM "is_whole" mY "starsieve.forms" 271 81
theorem Pz:Fun (HK.K P) "is_whole" "is_whole" mY 82 Py:=mkF (by rfl') (by eq_refl) (by eq_refl)
theorem afr:PySem.W.nsIn (HK.K P) mainGlobals "is_whole"=some (some (.ref 82)):=by eq_refl
theorem jX:Binds (HK.K P) Py ["thing"] []:=Pz.binds (ps:=["thing"]) λ_ _ _ _ _ _ us hl=>by obtain ⟨x0,rfl⟩:=c7 hl;rfl
def PK:FuncData:=fdM "is_width" mZ "starsieve.forms" 271 88
theorem PL:Fun (HK.K P) "is_width" "is_width" mZ 89 PK:=mkF (by rfl') (by eq_refl) (by eq_refl)
theorem afs:PySem.W.nsIn (HK.K P) mainGlobals "is_width"=some (some (.ref 89)):=by eq_refl
theorem jY:Binds (HK.K P) PK ["thing"] []:=PL.binds (ps:=["thing"]) λ_ _ _ _ _ _ us hl=>by obtain ⟨x0,rfl⟩:=c7 hl;rfl
def PN:FuncData:=fdM "is_book" m5 "starsieve.books" 338 145
theorem PP:Fun (HK.K P) "is_book" "is_book" m5 146 PN:=mkF (by rfl') (by eq_refl) (by eq_refl)
theorem aft:PySem.W.nsIn (HK.K P) mainGlobals "is_book"=some (some (.ref 146)):=by eq_refl
theorem jZ:Binds (HK.K P) PN ["thing"] []:=PP.binds (ps:=["thing"]) λ_ _ _ _ _ _ us hl=>by obtain ⟨x0,rfl⟩:=c7 hl;rfl
def PQ:FuncData:=fdM "need_book" m6 "starsieve.books" 338 152
theorem P0:Fun (HK.K P) "need_book" "need_book" m6 153 PQ:=mkF (by rfl') (by eq_refl) (by eq_refl)
theorem afu:PySem.W.nsIn (HK.K P) mainGlobals "need_book"=some (some (.ref 153)):=by eq_refl
theorem j0:Binds (HK.K P) PQ ["book"] []:=P0.binds (ps:=["book"]) λ_ _ _ _ _ _ us hl=>by obtain ⟨x0,rfl⟩:=c7 hl;rfl
def Qa:FuncData:=fdM "is_place" m7 "starsieve.forms" 271 95
theorem Qc:Fun (HK.K P) "is_place" "is_place" m7 96 Qa:=mkF (by rfl') (by eq_refl) (by eq_refl)
theorem afv:PySem.W.nsIn (HK.K P) mainGlobals "is_place"=some (some (.ref 96)):=by eq_refl
theorem j4:Binds (HK.K P) Qa ["many","thing"] []:=Qc.binds (ps:=["many","thing"]) λ_ _ _ _ _ _ us hl=>by obtain ⟨x0,x1,rfl⟩:=aU hl;rfl
def Qd:FuncData:=fdM "is_order" m8 "starsieve.moves" 472 237
theorem Qe:Fun (HK.K P) "is_order" "is_order" m8 238 Qd:=mkF (by rfl') (by eq_refl) (by eq_refl)
theorem afw:PySem.W.nsIn (HK.K P) mainGlobals "is_order"=some (some (.ref 238)):=by eq_refl
theorem j5:Binds (HK.K P) Qd ["book","thing"] []:=Qe.binds (ps:=["book","thing"]) λ_ _ _ _ _ _ us hl=>by obtain ⟨x0,x1,rfl⟩:=aU hl;rfl
def Qf:FuncData:=fdM "need_order" m9 "starsieve.moves" 472 244
theorem Qg:Fun (HK.K P) "need_order" "need_order" m9 245 Qf:=mkF (by rfl') (by eq_refl) (by eq_refl)
theorem afx:PySem.W.nsIn (HK.K P) mainGlobals "need_order"=some (some (.ref 245)):=by eq_refl
theorem j6:Binds (HK.K P) Qf ["book","order"] []:=Qg.binds (ps:=["book","order"]) λ_ _ _ _ _ _ us hl=>by obtain ⟨x0,x1,rfl⟩:=aU hl;rfl
def Qh:FuncData:=fdM "by_order" ni "starsieve.moves" 472 256
theorem Qi:Fun (HK.K P) "by_order" "by_order" ni 257 Qh:=mkF (by rfl') (by eq_refl) (by eq_refl)
theorem afy:PySem.W.nsIn (HK.K P) mainGlobals "by_order"=some (some (.ref 257)):=by eq_refl
theorem j7:Binds (HK.K P) Qh ["book","order"] []:=Qi.binds (ps:=["book","order"]) λ_ _ _ _ _ _ us hl=>by obtain ⟨x0,x1,rfl⟩:=aU hl;rfl
def Qj:FuncData:=fdM "both" nq "starsieve.forms" 271 121
theorem Qk:Fun (HK.K P) "both" "both" nq 122 Qj:=mkF (by rfl') (by eq_refl) (by eq_refl)
theorem afz:PySem.W.nsIn (HK.K P) mainGlobals "both"=some (some (.ref 122)):=by eq_refl
theorem j8:Binds (HK.K P) Qj ["form","other"] []:=Qk.binds (ps:=["form","other"]) λ_ _ _ _ _ _ us hl=>by obtain ⟨x0,x1,rfl⟩:=aU hl;rfl
def Ql:FuncData:=fdM "first_touching" nu "starsieve.laid" 389 194
theorem Qm:Fun (HK.K P) "first_touching" "first_touching" nu 195 Ql:=mkF (by rfl') (by eq_refl) (by eq_refl)
theorem afA:PySem.W.nsIn (HK.K P) mainGlobals "first_touching"=some (some (.ref 195)):=by eq_refl
theorem j9:Binds (HK.K P) Ql ["rows","box"] []:=Qm.binds (ps:=["rows","box"]) λ_ _ _ _ _ _ us hl=>by obtain ⟨x0,x1,rfl⟩:=aU hl;rfl
def Qn:FuncData:=fdM "splitting_place" nA "starsieve.laid" 389 201
theorem Qo:Fun (HK.K P) "splitting_place" "splitting_place" nA 202 Qn:=mkF (by rfl') (by eq_refl) (by eq_refl)
theorem afB:PySem.W.nsIn (HK.K P) mainGlobals "splitting_place"=some (some (.ref 202)):=by eq_refl
theorem kh:Binds (HK.K P) Qn ["rows","box"] []:=Qo.binds (ps:=["rows","box"]) λ_ _ _ _ _ _ us hl=>by obtain ⟨x0,x1,rfl⟩:=aU hl;rfl
def Qp:FuncData:=fdM "with_sign" nF "starsieve.forms" 271 114
theorem Qq:Fun (HK.K P) "with_sign" "with_sign" nF 115 Qp:=mkF (by rfl') (by eq_refl) (by eq_refl)
theorem afC:PySem.W.nsIn (HK.K P) mainGlobals "with_sign"=some (some (.ref 115)):=by eq_refl
theorem kj:Binds (HK.K P) Qp ["form","at","sign"] []:=Qq.binds (ps:=["form","at","sign"]) λ_ _ _ _ _ _ us hl=>by obtain ⟨x0,x1,x2,rfl⟩:=dJ hl;rfl
def yC:FuncData:=fdM "grown" nG "starsieve.laid" 389 206
theorem t6:Fun (HK.K P) "grown" "grown" nG 207 yC:=mkF (by rfl') (by eq_refl) (by eq_refl)
theorem Qs:PySem.W.nsIn (HK.K P) mainGlobals "grown"=some (some (.ref 207)):=by eq_refl
theorem jd:Binds (HK.K P) yC ["name","many_rows","box"] []:=t6.binds (ps:=["name","many_rows","box"]) λ_ _ _ _ _ _ us hl=>by obtain ⟨x0,x1,x2,rfl⟩:=dJ hl;rfl
def Qt:FuncData:=fdM "least" nH "starsieve.forms" 271 128
theorem yD:Fun (HK.K P) "least" "least" nH 129 Qt:=mkF (by rfl') (by eq_refl) (by eq_refl)
theorem afD:PySem.W.nsIn (HK.K P) mainGlobals "least"=some (some (.ref 129)):=by eq_refl
theorem afE:Binds (HK.K P) Qt ["form"] []:=yD.binds (ps:=["form"]) λ_ _ _ _ _ _ us hl=>by obtain ⟨x0,rfl⟩:=c7 hl;rfl
def Qu:FuncData:=fdM "is_named" nJ "starsieve.laid" 389 180
theorem Qv:Fun (HK.K P) "is_named" "is_named" nJ 181 Qu:=mkF (by rfl') (by eq_refl) (by eq_refl)
theorem afF:PySem.W.nsIn (HK.K P) mainGlobals "is_named"=some (some (.ref 181)):=by eq_refl
theorem km:Binds (HK.K P) Qu ["name","many","thing"] []:=Qv.binds (ps:=["name","many","thing"]) λ_ _ _ _ _ _ us hl=>by obtain ⟨x0,x1,x2,rfl⟩:=dJ hl;rfl
def yE:FuncData:=fdM "leaves" nM "starsieve.laid" 389 187
theorem uc:Fun (HK.K P) "leaves" "leaves" nM 188 yE:=mkF (by rfl') (by eq_refl) (by eq_refl)
theorem Qw:PySem.W.nsIn (HK.K P) mainGlobals "leaves"=some (some (.ref 188)):=by eq_refl
theorem gQ:Binds (HK.K P) yE ["box","tree"] []:=uc.binds (ps:=["box","tree"]) λ_ _ _ _ _ _ us hl=>by obtain ⟨x0,x1,rfl⟩:=aU hl;rfl
def Qx:FuncData:=fdM "need_two_books" nO "starsieve.books" 338 159
theorem Qy:Fun (HK.K P) "need_two_books" "need_two_books" nO 160 Qx:=mkF (by rfl') (by eq_refl) (by eq_refl)
theorem afG:PySem.W.nsIn (HK.K P) mainGlobals "need_two_books"=some (some (.ref 160)):=by eq_refl
theorem kE:Binds (HK.K P) Qx ["one","other"] []:=Qy.binds (ps:=["one","other"]) λ_ _ _ _ _ _ us hl=>by obtain ⟨x0,x1,rfl⟩:=aU hl;rfl
def Qz:FuncData:=fdM "deed_of" nP "starsieve.books" 338 166
theorem QB:Fun (HK.K P) "deed_of" "deed_of" nP 167 Qz:=mkF (by rfl') (by eq_refl) (by eq_refl)
theorem afH:PySem.W.nsIn (HK.K P) mainGlobals "deed_of"=some (some (.ref 167)):=by eq_refl
theorem je:Binds (HK.K P) Qz ["book","number"] []:=QB.binds (ps:=["book","number"]) λ_ _ _ _ _ _ us hl=>by obtain ⟨x0,x1,rfl⟩:=aU hl;rfl
def QC:FuncData:=fdM "same_deeds" nQ "starsieve.alike" 445 213
theorem QD:Fun (HK.K P) "same_deeds" "same_deeds" nQ 214 QC:=mkF (by rfl') (by eq_refl) (by eq_refl)
theorem afI:PySem.W.nsIn (HK.K P) mainGlobals "same_deeds"=some (some (.ref 214)):=by eq_refl
theorem kI:Binds (HK.K P) QC ["one","other","leaf"] []:=QD.binds (ps:=["one","other","leaf"]) λ_ _ _ _ _ _ us hl=>by obtain ⟨x0,x1,x2,rfl⟩:=dJ hl;rfl
def QF:FuncData:=fdM "stars" nR "starsieve.laid" 389 173
theorem QG:Fun (HK.K P) "stars" "stars" nR 174 QF:=mkF (by rfl') (by eq_refl) (by eq_refl)
theorem afJ:PySem.W.nsIn (HK.K P) mainGlobals "stars"=some (some (.ref 174)):=by eq_refl
theorem kJ:Binds (HK.K P) QF ["width"] []:=QG.binds (ps:=["width"]) λ_ _ _ _ _ _ us hl=>by obtain ⟨x0,rfl⟩:=c7 hl;rfl
def QH:FuncData:=fdM "alike" nT "starsieve.alike" 445 218
theorem QJ:Fun (HK.K P) "alike" "alike" nT 219 QH:=mkF (by rfl') (by eq_refl) (by eq_refl)
theorem afK:PySem.W.nsIn (HK.K P) mainGlobals "alike"=some (some (.ref 219)):=by eq_refl
theorem kO:Binds (HK.K P) QH ["one","other"] []:=QJ.binds (ps:=["one","other"]) λ_ _ _ _ _ _ us hl=>by obtain ⟨x0,x1,rfl⟩:=aU hl;rfl
def QK:FuncData:=fdM "parting_word" nU "starsieve.alike" 445 225
theorem QL:Fun (HK.K P) "parting_word" "parting_word" nU 226 QK:=mkF (by rfl') (by eq_refl) (by eq_refl)
theorem afL:PySem.W.nsIn (HK.K P) mainGlobals "parting_word"=some (some (.ref 226)):=by eq_refl
theorem kW:Binds (HK.K P) QK ["one","other"] []:=QL.binds (ps:=["one","other"]) λ_ _ _ _ _ _ us hl=>by obtain ⟨x0,x1,rfl⟩:=aU hl;rfl
def QM:FuncData:=fdM "is_good" nW "starsieve.moves" 472 270
theorem QQ:Fun (HK.K P) "is_good" "is_good" nW 271 QM:=mkF (by rfl') (by eq_refl) (by eq_refl)
theorem afM:PySem.W.nsIn (HK.K P) mainGlobals "is_good"=some (some (.ref 271)):=by eq_refl
theorem kY:Binds (HK.K P) QM ["book","order"] []:=QQ.binds (ps:=["book","order"]) λ_ _ _ _ _ _ us hl=>by obtain ⟨x0,x1,rfl⟩:=aU hl;rfl
def QR:FuncData:=fdM "need_movable" nY "starsieve.moves" 472 251
theorem QS:Fun (HK.K P) "need_movable" "need_movable" nY 252 QR:=mkF (by rfl') (by eq_refl) (by eq_refl)
theorem afN:PySem.W.nsIn (HK.K P) mainGlobals "need_movable"=some (some (.ref 252)):=by eq_refl
theorem kZ:Binds (HK.K P) QR ["book"] []:=QS.binds (ps:=["book"]) λ_ _ _ _ _ _ us hl=>by obtain ⟨x0,rfl⟩:=c7 hl;rfl
def QT:FuncData:=fdM "is_way" nZ "starsieve.moves" 472 277
theorem QV:Fun (HK.K P) "is_way" "is_way" nZ 278 QT:=mkF (by rfl') (by eq_refl) (by eq_refl)
theorem afO:PySem.W.nsIn (HK.K P) mainGlobals "is_way"=some (some (.ref 278)):=by eq_refl
theorem lg:Binds (HK.K P) QT ["book","order","steps"] []:=QV.binds (ps:=["book","order","steps"]) λ_ _ _ _ _ _ us hl=>by obtain ⟨x0,x1,x2,rfl⟩:=dJ hl;rfl
def yF:FuncData:=fdM "law" n6 "law_starsieve_k35_which_steps_lead" 541 435
theorem afP:Fun (HK.K P) "law" "law" n6 436 yF:=mkF (by rfl') (by eq_refl) (by eq_refl)
theorem afQ:PySem.W.nsIn (HK.K P) mainGlobals "law"=some (some (.ref 436)):=by eq_refl
theorem afR:PySem.W.nsIn (HK.K P) mainGlobals "all"=some none:=by eq_refl
theorem afS:PySem.W.nsIn (HK.K P) mainGlobals "bool"=some none:=by eq_refl
theorem afT:PySem.W.nsIn (HK.K P) mainGlobals "enumerate"=some none:=by eq_refl
theorem afU:PySem.W.nsIn (HK.K P) mainGlobals "int"=some none:=by eq_refl
theorem afV:PySem.W.nsIn (HK.K P) mainGlobals "isinstance"=some none:=by eq_refl
theorem afW:PySem.W.nsIn (HK.K P) mainGlobals "len"=some none:=by eq_refl
theorem afX:PySem.W.nsIn (HK.K P) mainGlobals "list"=some none:=by eq_refl
theorem afY:PySem.W.nsIn (HK.K P) mainGlobals "min"=some none:=by eq_refl
theorem afZ:PySem.W.nsIn (HK.K P) mainGlobals "range"=some none:=by eq_refl
theorem af0:PySem.W.nsIn (HK.K P) mainGlobals "sorted"=some none:=by eq_refl
theorem af1:PySem.W.nsIn (HK.K P) mainGlobals "str"=some none:=by eq_refl
theorem af2:PySem.W.nsIn (HK.K P) mainGlobals "tuple"=some none:=by eq_refl
theorem af3:PySem.W.nsIn (HK.K P) mainGlobals "zip"=some none:=by eq_refl
theorem af4:PySem.W.nsIn (HK.K P) mainGlobals "LETTERS"=some (some (.str "abcdefghijklmnopqrstuvwxyz" 344)):=by eq_refl
theorem af5:PySem.W.nsIn (HK.K P) mainGlobals "LONGEST_DEED"=some (some (.int 8 342)):=by eq_refl
theorem af6:PySem.W.nsIn (HK.K P) mainGlobals "MOST_ROWS"=some (some (.int 12 340)):=by eq_refl
theorem af7:PySem.W.nsIn (HK.K P) mainGlobals "MOST_ROWS_MOVED"=some (some (.int 5 474)):=by eq_refl
theorem af8:PySem.W.nsIn (HK.K P) mainGlobals "WIDEST"=some (some (.int 6 273)):=by eq_refl
theorem af9:PySem.W.nsIn (HK.K P) mainGlobals "WIDEST_MOVED"=some (some (.int 4 476)):=by eq_refl
theorem x_s:xsB (HK.K P) xs=true:=by eq_refl
end
section
variable {l:PySem.W.OpenLaw} {w:World} {h:Heap} {mg:Str->Option Value} {base:Heap} (X:(HK.K w.params).In h) (G:h.Ns mainGlobals mg)
include X G
theorem B0:Bse Φ l.prog w (HK.K w.params) mg base (CX1 l.prog w) 0 f0 bt cn xs:=bse trivial ⟨mg_none_of X G afR,mg_none_of X G afS,mg_none_of X G afT,mg_none_of X G afU,mg_none_of X G afV,mg_none_of X G afW,mg_none_of X G afX,mg_none_of X G afY,mg_none_of X G afZ,mg_none_of X G af0,mg_none_of X G af1,mg_none_of X G af2,mg_none_of X G af3,trivial⟩ ⟨aai (mg_of X G af4) (by decide +kernel) (by decide),jP (mg_of X G af5),jP (mg_of X G af6),jP (mg_of X G af7),jP (mg_of X G af8),jP (mg_of X G af9),trivial⟩ X G x_s
theorem B1:Bse Φ l.prog w (HK.K w.params) mg base (CX1 l.prog w) 1 f1 bt cn xs:=(B0 X G).step Nr aeB (mg_of X G aeA) Lz 0 acH acI rfl rfl (b7 (λds G h=>aan Φ  ds G h))
theorem B2:Bse Φ l.prog w (HK.K w.params) mg base (CX1 l.prog w) 2 f2 bt cn xs:=(B1 X G).step Nu aeD (mg_of X G aeC) LC 3 acJ acK rfl rfl (b7 (λds G h=>aam Φ  ds G h))
theorem B3:Bse Φ l.prog w (HK.K w.params) mg base (CX1 l.prog w) 3 f3 bt cn xs:=(B2 X G).step Nx aeF (mg_of X G aeE) dW 3 acL acM rfl rfl (b7 (λds G h=>aao Φ LC ds G h))
theorem B4:Bse Φ l.prog w (HK.K w.params) mg base (CX1 l.prog w) 4 f4 bt cn xs:=(B3 X G).step Nz aeH (mg_of X G aeG) LK 3 acN acO rfl rfl (fW (λa ds G h=>acz Φ dW a ds G h))
theorem B5:Bse Φ l.prog w (HK.K w.params) mg base (CX1 l.prog w) 5 f5 bt cn xs:=(B4 X G).step NK aeJ (mg_of X G aeI) yq 0 acP acQ rfl rfl (b7 (λds G h=>aar Φ dW ds G h))
theorem B6:Bse Φ l.prog w (HK.K w.params) mg base (CX1 l.prog w) 6 f6 bt cn xs:=(B5 X G).step NQ aeL (mg_of X G aeK) LQ 4 acR acS rfl rfl (b7 (λds G h=>aaG Φ dW yq ds G h))
theorem B7:Bse Φ l.prog w (HK.K w.params) mg base (CX1 l.prog w) 7 f7 bt cn xs:=(B6 X G).step NZ aeN (mg_of X G aeM) LR 0 acT acU rfl rfl (b7 (λds G h=>aas Φ dW yq ds G h))
theorem B8:Bse Φ l.prog w (HK.K w.params) mg base (CX1 l.prog w) 8 f8 bt cn xs:=(B7 X G).step N6 aeP (mg_of X G aeO) Ma 2 acV acW rfl rfl (b7 (λds G h=>aay Φ dW ds G h))
theorem B9:Bse Φ l.prog w (HK.K w.params) mg base (CX1 l.prog w) 9 f9 bt cn xs:=(B8 X G).step N8 aeR (mg_of X G aeQ) Mg 2 acX acY rfl rfl (b7 (λds G h=>aax Φ dW ds G h))
theorem B10:Bse Φ l.prog w (HK.K w.params) mg base (CX1 l.prog w) 10 f10 bt cn xs:=(B9 X G).step Ob aeT (mg_of X G aeS) Mh 3 acZ ac0 rfl rfl (b7 (λds G h=>aaD Φ dW LR Mg Ma ds G h))
theorem B11:Bse Φ l.prog w (HK.K w.params) mg base (CX1 l.prog w) 11 f11 bt cn xs:=(B10 X G).step Od aeV (mg_of X G aeU) Mi 5 ac1 ac2 rfl rfl (b7 (λds G h=>aaJ Φ dW LQ Mh ds G h))
theorem B12:Bse Φ l.prog w (HK.K w.params) mg base (CX1 l.prog w) 12 f12 bt cn xs:=(B11 X G).step Og aeX (mg_of X G aeW) Mj 0 ac3 ac4 rfl rfl (bI (λa G h=>ach Φ  a G h))
theorem B13:Bse Φ l.prog w (HK.K w.params) mg base (CX1 l.prog w) 13 f13 bt cn xs:=(B12 X G).step Oi aeZ (mg_of X G aeY) Ml 2 ac5 ac6 rfl rfl (gO (λds G d h=>abw Φ  ds G d h))
theorem B14:Bse Φ l.prog w (HK.K w.params) mg base (CX1 l.prog w) 14 f14 bt cn xs:=(B13 X G).step Ol ae1 (mg_of X G ae0) Mm 2 ac7 ac8 rfl rfl (bI (λa G h=>abz Φ Ml a G h))
theorem B15:Bse Φ l.prog w (HK.K w.params) mg base (CX1 l.prog w) 15 f15 bt cn xs:=(B14 X G).step Oo ae3 (mg_of X G ae2) Mp 1 ac9 ada rfl rfl (bI (λa G h=>abZ Φ Mm a G h))
theorem B16:Bse Φ l.prog w (HK.K w.params) mg base (CX1 l.prog w) 16 f16 bt cn xs:=(B15 X G).step Ot ae5 (mg_of X G ae4) Mq 4 adb adc rfl rfl (b7 (λds G h=>aaP Φ  ds G h))
theorem B17:Bse Φ l.prog w (HK.K w.params) mg base (CX1 l.prog w) 17 f17 bt cn xs:=(B16 X G).step Ov ae7 (mg_of X G ae6) Mr 1 ade adf rfl rfl (fW (λa ds G h=>ab1 Φ Mq Mp a ds G h))
theorem B18:Bse Φ l.prog w (HK.K w.params) mg base (CX1 l.prog w) 18 f18 bt cn xs:=(B17 X G).step Oz ae9 (mg_of X G ae8) yr 0 adg adh rfl rfl (fW (λa ds G h=>ack Φ Mr Mj a ds G h))
theorem B19:Bse Φ l.prog w (HK.K w.params) mg base (CX1 l.prog w) 19 f19 bt cn xs:=(B18 X G).step OJ afb (mg_of X G afa) yt 0 adi adk rfl rfl (bI (λa G h=>acn Φ  a G h))
theorem B20:Bse Φ l.prog w (HK.K w.params) mg base (CX1 l.prog w) 20 f20 bt cn xs:=(B19 X G).step O2 afd (mg_of X G afc) Ms 5 adl adm rfl rfl (fW (λa ds G h=>acx Φ dW yt yr a ds G h))
theorem B21:Bse Φ l.prog w (HK.K w.params) mg base (CX1 l.prog w) 21 f21 bt cn xs:=(B20 X G).step O4 afg (mg_of X G afe) Mt 2 adn ado rfl rfl (fW (λa ds G h=>acs Φ yt yr a ds G h))
theorem B22:Bse Φ l.prog w (HK.K w.params) mg base (CX1 l.prog w) 22 f22 bt cn xs:=(B21 X G).step O6 afi (mg_of X G afh) Mu 3 adp adq rfl rfl (b7 (λds G h=>aat Φ  ds G h))
theorem B23:Bse Φ l.prog w (HK.K w.params) mg base (CX1 l.prog w) 23 f23 bt cn xs:=(B22 X G).step O8 afk (mg_of X G afj) Mv 1 adt adu rfl rfl (fW (λa ds G h=>acv Φ dW a ds G h))
theorem B24:Bse Φ l.prog w (HK.K w.params) mg base (CX1 l.prog w) 24 f24 bt cn xs:=(B23 X G).step Pa jQ (mg_of X G afl) Mw 0 adv adw rfl rfl (bI (λa G h=>Lr Φ  a G h))
theorem B25:Bse Φ l.prog w (HK.K w.params) mg base (CX1 l.prog w) 25 f25 bt cn xs:=(B24 X G).step Pg jR (mg_of X G afm) Mx 0 adx ady rfl rfl (bI (λa G h=>ab9 Φ  a G h))
theorem B26:Bse Φ l.prog w (HK.K w.params) mg base (CX1 l.prog w) 26 f26 bt cn xs:=(B25 X G).step Pj jT (mg_of X G afn) My 0 adz adA rfl rfl (bI (λa G h=>aaU Φ  a G h))
theorem B27:Bse Φ l.prog w (HK.K w.params) mg base (CX1 l.prog w) 27 f27 bt cn xs:=(B26 X G).step Pn jU (mg_of X G afo) Mz 0 adB adC rfl rfl (bI (λa G h=>aaS Φ  a G h))
theorem B28:Bse Φ l.prog w (HK.K w.params) mg base (CX1 l.prog w) 28 f28 bt cn xs:=(B27 X G).step Pr jV (mg_of X G afp) MF 0 adD adE rfl rfl (bI (λa G h=>aaT Φ Mz a G h))
theorem B29:Bse Φ l.prog w (HK.K w.params) mg base (CX1 l.prog w) 29 f29 bt cn xs:=(B28 X G).step Px jW (mg_of X G afq) MJ 0 adF adG rfl rfl (bI (λa G h=>aaV Φ MF My a G h))
theorem B30:Bse Φ l.prog w (HK.K w.params) mg base (CX1 l.prog w) 30 f30 bt cn xs:=(B29 X G).step Pz jX (mg_of X G afr) yu 0 adH adI rfl rfl (gO (λds G d h=>aau Φ  ds G d h))
theorem B31:Bse Φ l.prog w (HK.K w.params) mg base (CX1 l.prog w) 31 f31 bt cn xs:=(B30 X G).step PL jY (mg_of X G afs) MK 0 adJ adK rfl rfl (bI (λa G h=>aaW Φ yu a G h))
theorem B32:Bse Φ l.prog w (HK.K w.params) mg base (CX1 l.prog w) 32 f32 bt cn xs:=(B31 X G).step PP jZ (mg_of X G aft) MN 2 adL adM rfl rfl (bI (λa G h=>aaX Φ MK MJ a G h))
theorem B33:Bse Φ l.prog w (HK.K w.params) mg base (CX1 l.prog w) 33 f33 bt cn xs:=(B32 X G).step P0 j0 (mg_of X G afu) tY 0 adN adO rfl rfl (bI (λa G h=>aaY Φ MN a G h))
theorem B34:Bse Φ l.prog w (HK.K w.params) mg base (CX1 l.prog w) 34 f34 bt cn xs:=(B33 X G).step Qc j4 (mg_of X G afv) tZ 0 adP adQ rfl rfl (gO (λds G d h=>abB Φ yu ds G d h))
theorem B35:Bse Φ l.prog w (HK.K w.params) mg base (CX1 l.prog w) 35 f35 bt cn xs:=(B34 X G).step Qe j5 (mg_of X G afw) MP 1 adR adS rfl rfl (bI (λa G h=>acb Φ tZ a G h))
theorem B36:Bse Φ l.prog w (HK.K w.params) mg base (CX1 l.prog w) 36 f36 bt cn xs:=(B35 X G).step Qg j6 (mg_of X G afx) yw 0 adT adU rfl rfl (bI (λa G h=>acd Φ MP a G h))
theorem B37:Bse Φ l.prog w (HK.K w.params) mg base (CX1 l.prog w) 37 f37 bt cn xs:=(B36 X G).step Qi j7 (mg_of X G afy) MT 2 adV adW rfl rfl (bI (λa G h=>acg Φ tY yw a G h))
theorem B38:Bse Φ l.prog w (HK.K w.params) mg base (CX1 l.prog w) 38 f38 bt cn xs:=(B37 X G).step Qk j8 (mg_of X G afz) M3 3 adX adY rfl rfl (gO (λds G d h=>aa8 Φ  ds G d h))
theorem B39:Bse Φ l.prog w (HK.K w.params) mg base (CX1 l.prog w) 39 f39 bt cn xs:=(B38 X G).step Qm j9 (mg_of X G afA) yx 2 adZ ad0 rfl rfl (b7 (λds G h=>abg Φ M3 ds G h))
theorem B40:Bse Φ l.prog w (HK.K w.params) mg base (CX1 l.prog w) 40 f40 bt cn xs:=(B39 X G).step Qo kh (mg_of X G afB) M4 3 ad1 ad2 rfl rfl (b7 (λds G h=>abj Φ yx ds G h))
theorem B41:Bse Φ l.prog w (HK.K w.params) mg base (CX1 l.prog w) 41 f41 bt cn xs:=(B40 X G).step Qq kj (mg_of X G afC) yz 0 ad3 ad4 rfl rfl (gO (λds G d h=>aba Φ  ds G d h))
theorem QW:∀n:Nat,FnOk l.prog w (HK.K w.params) mg base (CX1 l.prog w) (41+n) 207 yC ["name","many_rows","box"] (lift (HK.K w.params) 3 (eG n))
 |0=>J7 abq
 |n+1=>rR (fs:=f42) t6 ((B41 X G).self (by decide +kernel) (QW n) t6.kp jd (mg_of X G Qs)) (eG (n+1)) 3 4 ad5 ad6 rfl rfl (b7 (λds G h=>abp (gP Φ "grown" (eG n)) n (if_pos rfl) (jc yx rfl) (jc M4 rfl) (jc yz rfl) ds G h))
theorem B42:Bse Φ l.prog w (HK.K w.params) mg base (CX1 l.prog w) 50 f42 bt cn xs:=(B41 X G).add (j:=9) M5 (QW X G 9) t6.kp jd (mg_of X G Qs)
theorem B43:Bse Φ l.prog w (HK.K w.params) mg base (CX1 l.prog w) 51 f43 bt cn xs:=(B42 X G).add (j:=1) M6 ((aez yD).cx.mono (by decide)) yD.kp afE (mg_of X G afD)
theorem B44:Bse Φ l.prog w (HK.K w.params) mg base (CX1 l.prog w) 52 f44 bt cn xs:=(B43 X G).step Qv km (mg_of X G afF) M7 0 ad7 ad8 rfl rfl (gO (λds G d h=>abC Φ  ds G d h))
theorem QX:∀n:Nat,FnOk l.prog w (HK.K w.params) mg base (CX1 l.prog w) (52+n) 188 yE ["box","tree"] (lift (HK.K w.params) 2 (dR n))
 |0=>J7 abF
 |n+1=>rR (fs:=f45) uc ((B44 X G).self (by decide +kernel) (QX n) uc.kp gQ (mg_of X G Qw)) (dR (n+1)) 2 3 ad9 aea rfl rfl (bI (λa G h=>abH (gP Φ "leaves" (dR n)) n (if_pos rfl) (jc M7 rfl) (jc tZ rfl) (jc yz rfl) a G h))
theorem B45:Bse Φ l.prog w (HK.K w.params) mg base (CX1 l.prog w) 61 f45 bt cn xs:=(B44 X G).add (j:=9) M8 (QX X G 9) uc.kp gQ (mg_of X G Qw)
theorem B46:Bse Φ l.prog w (HK.K w.params) mg base (CX1 l.prog w) 62 f46 bt cn xs:=(B45 X G).step Qy kE (mg_of X G afG) M9 0 aeb aec rfl rfl (bI (λa G h=>abU Φ tY a G h))
theorem B47:Bse Φ l.prog w (HK.K w.params) mg base (CX1 l.prog w) 63 f47 bt cn xs:=(B46 X G).step QB je (mg_of X G afH) Nb 0 aed aee rfl rfl (b7 (λds G h=>aa2 Φ  ds G h))
theorem B48:Bse Φ l.prog w (HK.K w.params) mg base (CX1 l.prog w) 64 f48 bt cn xs:=(B47 X G).step QD kI (mg_of X G afI) Nf 0 aef aeg rfl rfl (bI (λa G h=>abW Φ Nb a G h))
theorem B49:Bse Φ l.prog w (HK.K w.params) mg base (CX1 l.prog w) 65 f49 bt cn xs:=(B48 X G).step QG kJ (mg_of X G afJ) Ng 0 aeh aei rfl rfl (gO (λds G d h=>abb Φ  ds G d h))
theorem B50:Bse Φ l.prog w (HK.K w.params) mg base (CX1 l.prog w) 66 f50 bt cn xs:=(B49 X G).step QJ kO (mg_of X G afK) Nh 3 aej aek rfl rfl (fW (λa ds G h=>abY Φ M9 M5 M8 M6 Ng Nf a ds G h))
theorem B51:Bse Φ l.prog w (HK.K w.params) mg base (CX1 l.prog w) 67 f51 bt cn xs:=(B50 X G).step QL kW (mg_of X G afL) Ni 2 ael aem rfl rfl (bI (λa G h=>ab3 Φ Nh a G h))
theorem B52:Bse Φ l.prog w (HK.K w.params) mg base (CX1 l.prog w) 68 f52 bt cn xs:=(B51 X G).step QQ kY (mg_of X G afM) Nj 0 aen aeo rfl rfl (bI (λa G h=>acj Φ Ni MT a G h))
theorem B53:Bse Φ l.prog w (HK.K w.params) mg base (CX1 l.prog w) 69 f53 bt cn xs:=(B52 X G).step QS kZ (mg_of X G afN) Nk 2 aep aeq rfl rfl (bI (λa G h=>acf Φ tY a G h))
theorem B54:Bse Φ l.prog w (HK.K w.params) mg base (CX1 l.prog w) 70 f54 bt cn xs:=(B53 X G).step QV lg (mg_of X G afO) Nm 2 aer aes rfl rfl (bI (λa G h=>acq Φ ⟨Nk,yw,Mx,tZ,Mw,Nj⟩ a G h))
theorem aga:FnOk l.prog w (HK.K w.params) mg base (CX1 l.prog w) 71 436 yF ["script"] (lift (HK.K w.params) 1 (lr)):=rR afP (B54 X G) (lr) 1 12 aet aeu rfl rfl (b7 (λds G h=>acA Φ ⟨Mu,Lz,Mi,Ms,Mv,LK,Nm,Mt⟩ ds G h))
omit X G in
theorem all (fa:Addr) (X:(HK.K w.params).In h) (G:h.Ns mainGlobals mg) (hfa:mg "law"=some (.ref fa)):∃fd:FuncData,(∀(s:Shared) (v:Value),BindsTo s fd ⟨[v],[]⟩ [("script",v)])/\∀base:Heap,(HK.K w.params).In base->base.Ns mainGlobals mg->FnOk l.prog w (HK.K w.params) mg base (CX1 l.prog w) 71 fa fd ["script"] (lift (HK.K w.params) 1 (lr)):=by have e:=hfa.symm.trans (PySem.W.mg_of X G afQ);cases e;exact ⟨yF,λs v=>.of_eq rfl,λbase _ _=>aga X G⟩
end
theorem walk {l:PySem.W.OpenLaw} {q:Program} {loose:List Str} {XP:(Str->Option Value)->Heap->Prop} {d:DefRec} (hn:l.most=some 63) (hdf:d.params.defaults=[]) (hdn:d.name="law"):
  PySem.W.WalkO q loose XP HK.hook.says l.row.toRowW d [] (λf vs=>PySem.call f vs):=
 L2.U5 (n:=63) (k:=71) (x:="script") (K:=HK.K) (CX:=λw=>CX1 l.prog w) (sp:=λw=>lift (HK.K w.params) 1 (lr)) hn (by decide) hdf ⟨rfl,by decide,by decide⟩ (λ_ _ Y=>Y) (λw mg fa h X G hmg=>all fa X G (hdn ▸ hmg)) (λw H a ns hl hO hS=>aaj (aak λns _ hl=>⟨ns,rfl,hl⟩) (HK.K w.params) H a ns hl hO hS) λ_ _ _ _ _ z=>Z6 z
end Lk35
open PySem PySem.W PyProof.Rows
set_option maxRecDepth 100000 in
set_option maxHeartbeats 0 in
theorem PySem.Challenge.cw_starsieve_k35_which_steps_lead_holds : PySem.Challenge.rw_starsieve_k35_which_steps_lead.Holds := by
 have said:PySem.Challenge.rw_starsieve_k35_which_steps_lead.row.wellSaid=true:=by decide +kernel
 refine ⟨by decide +kernel,?_⟩;refine PySem.W.holds_open (q:=HK.qv) (loose:=[]) (Xt:=HK.Xt) (XP:=XL HK.qv []) (Yf:=HK.hook.obs) (Ya:=HK.hook.val) (YP:=HK.hook.says) (N:=12000) HK.left HK.hook.of HK.hook.keeps
  (λs e=>xl_of s (Bool.and_eq_true_iff.mp e).1) XL.keeps (by rfl) (by rfl) (by rfl) (λs e=>recFacts_of (Bool.and_eq_true_iff.mp e).2) (by rfl) (by assumption) (by decide +kernel) ⟨rfl,rfl,rfl,rfl,rfl,by decide +kernel⟩ ?hw ?hc
 case hw=>exact ⟨[.list []],by decide +kernel,by decide +kernel⟩
 exact Lk35.walk rfl rfl rfl
