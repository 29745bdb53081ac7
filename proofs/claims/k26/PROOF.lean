import PyProof.Rows.All
import Wide.All
import OpenK.AllK
import Wide.FinOn
import Lean
import PyProof.EqAt
import PyProof.EqKinds
import PyProof.TupleCall
import PyProof.NeKinds
import PyProof.FactsAll.range_2
import PySem.Challenge.RW_starsieve_k26_which_trees_show_it
set_option Elab.async false
set_option maxRecDepth 100000
noncomputable section
set_option Elab.async false
set_option linter.all false
set_option maxRecDepth 100000
namespace L2
open PySem PySem.Spec PyProof.Rows
abbrev Key:=Sum Int Str
def keyIs:Key→Value→Bool
 | .inl k,v=>Value.isInt k v
 | .inr x,v=>Value.isStrOf x v
def keyH (w:World):Key→Int
 | .inl k=>hashInt k
 | .inr x=>hashStr w x
theorem keyIs_shape:∀ {k:Key} {v:Value},keyIs k v=true→(∃ i t,k=Sum.inl i∧v=Value.int i t)∨(∃ x t,k=Sum.inr x∧v=Value.str x t)
 | .inl i,v,h=>by
  obtain ⟨t,e⟩:=Value.isInt_shape (k:=i) (v:=v) h
  exact .inl ⟨i,t,rfl,e⟩
 | .inr x,v,h=>by
  obtain ⟨t,e⟩:=Value.isStrOf_shape (x:=x) (v:=v) h
  exact .inr ⟨x,t,rfl,e⟩
theorem key_ll (a b:Int):decide ((Sum.inl a:Key)=Sum.inl b)=(a==b):=by
 by_cases e:a=b
 ·subst e; simp
 ·have h:¬ (Sum.inl a:Key)=Sum.inl b:=fun q=>e (Sum.inl.inj q)
  rw [decide_eq_false h]
  exact (beq_eq_false_iff_ne.mpr e).symm
theorem key_rr (a b:Str):decide ((Sum.inr a:Key)=Sum.inr b)=decide (a=b):=by
 by_cases e:a=b
 ·subst e; simp
 ·have h:¬ (Sum.inr a:Key)=Sum.inr b:=fun q=>e (Sum.inr.inj q)
  rw [decide_eq_false h,decide_eq_false e]
theorem key_lr (a:Int) (b:Str):decide ((Sum.inl a:Key)=Sum.inr b)=false:=decide_eq_false (fun q=>nomatch q)
theorem key_rl (a:Str) (b:Int):decide ((Sum.inr a:Key)=Sum.inl b)=false:=decide_eq_false (fun q=>nomatch q)
def mixKind (prog:Program) (w:World):PySem.KeyKind prog w Key where
 is:=keyIs
 hash:=keyH w
 inj:=fun v a b ha hb=>by
  rcases keyIs_shape ha with ⟨i,t,rfl,rfl⟩ | ⟨x,t,rfl,rfl⟩
  ·rcases keyIs_shape hb with ⟨j,u,rfl,e⟩ | ⟨y,u,rfl,e⟩
   ·injection e with e1 _; rw [e1]
   ·exact nomatch e
  ·rcases keyIs_shape hb with ⟨j,u,rfl,e⟩ | ⟨y,u,rfl,e⟩
   ·exact nomatch e
   ·injection e with e1 _; rw [e1]
 byValue:=fun k v h=>by
  rcases keyIs_shape h with ⟨i,t,rfl,rfl⟩ | ⟨x,t,rfl,rfl⟩ <;> rfl
 pyHash:=fun hv h=>by
  rcases keyIs_shape hv with ⟨i,t,rfl,rfl⟩ | ⟨x,t,rfl,rfl⟩
  ·exact wpAny_pyHash_int h
  ·exact wpAny_pyHash_str h
 eqBool:=fun hu hv h=>by
  rcases keyIs_shape hu with ⟨i,t,rfl,rfl⟩ | ⟨x,t,rfl,rfl⟩
  ·rcases keyIs_shape hv with ⟨j,u,rfl,rfl⟩ | ⟨y,u,rfl,rfl⟩
   ·rw [key_ll] at h; exact wpAny_eqBool_int h
   ·rw [key_lr] at h; exact SeqAt.EqAt.int_str i t y u _ _ _ _ h
  ·rcases keyIs_shape hv with ⟨j,u,rfl,rfl⟩ | ⟨y,u,rfl,rfl⟩
   ·rw [key_rl] at h; exact SeqAt.EqAt.str_int x t j u _ _ _ _ h
   ·rw [key_rr] at h; exact wpAny_eqBool_str h
 «strs»:=fun k x t v h=>by
  rcases keyIs_shape h with ⟨i,u,rfl,e⟩ | ⟨y,u,rfl,e⟩
  ·exact nomatch e
  ·injection e with e1 _
   subst e1
   cases v <;> rfl
end L2
namespace L2
open PySem PySem.Spec PyProof.Rows
inductive V where
 | non | bl (b:Bool) | int (i:Int) | str (x:Str) | byt (b:Array UInt8) | flt (b:UInt64) | ref (a:Addr) | ty (n:String)
 deriving DecidableEq
def RelV:V→Value→Prop
 | .non,u=>u=Value.none
 | .bl b,u=>u=Value.bool b
 | .int i,u=>∃ t,u=Value.int i t
 | .str x,u=>∃ t,u=Value.str x t
 | .byt b,u=>∃ t,u=Value.bytes b t
 | .flt b,u=>∃ t,u=Value.float b t
 | .ref a,u=>u=Value.ref a
 | .ty n,u=>u=Value.type n
abbrev Vals:List V→List Value→Prop:=Paired RelV
theorem Vals.length {xs:List V} {us:List Value} (r:Vals xs us):xs.length=us.length:=Paired.length r
theorem Vals.get:∀ {xs:List V} {us:List Value} {i:Nat} {x:V},Vals xs us→xs[i]?=some x→∃ u,us[i]?=some u∧RelV x u
 | _,_,_,_,.nil,e=>by simp at e
 | _,_,0,_,.cons r _,e=>by simp at e; subst e; exact ⟨_,rfl,r⟩
 | _,_,i + 1,x,.cons _ t,e=>by
  obtain ⟨u,h1,h2⟩:=Vals.get (i:=i) (x:=x) t (by simpa using e)
  exact ⟨u,by simpa using h1,h2⟩
theorem Vals.set {x:V} {u:Value} (r:RelV x u):∀ {xs:List V} {us:List Value} (i:Nat),Vals xs us→Vals (xs.set i x) (us.set i u)
 | _,_,_,.nil=>.nil
 | _,_,0,.cons _ t=>.cons r t
 | _,_,i + 1,.cons q t=>.cons q (Vals.set r i t)
theorem Vals.append:∀ {xs ys:List V} {us ws:List Value},Vals xs us→Vals ys ws→Vals (xs ++ ys) (us ++ ws)
 | _,_,_,_,.nil,s=>s
 | _,_,_,_,.cons r t,s=>.cons r (Vals.append t s)
theorem Vals.take:∀ {xs:List V} {us:List Value} (n:Nat),Vals xs us→Vals (xs.take n) (us.take n)
 | _,_,0,_=>.nil
 | _,_,_ + 1,.nil=>.nil
 | _,_,n + 1,.cons r t=>.cons r (Vals.take n t)
theorem Vals.drop:∀ {xs:List V} {us:List Value} (n:Nat),Vals xs us→Vals (xs.drop n) (us.drop n)
 | _,_,0,r=>r
 | _,_,_ + 1,.nil=>.nil
 | _,_,n + 1,.cons _ t=>Vals.drop n t
def RelO:Option V→Option Value→Prop
 | some v,some u=>RelV v u
 | none,none=>True
 | _,_=>False
def KV {κ:Type}:List (κ×V)→List (κ×Value)→Prop:=Paired fun (p:κ×V) (q:κ×Value)=>p.1=q.1∧RelV p.2 q.2
def kV:Key→V
 | .inl i=>.int i
 | .inr x=>.str x
inductive HO where
 | lst (xs:List V)
 | tup (xs:List V)
 | dK (kvs:List (Key×V)) | dT (kvs:List (List Key×V))
 | set (S:Int→Bool) (n:Nat)
 | ins (C dx:Addr) (fs:List (Str×V))
 | own (x:Addr)
 | xd (fs:List (Str×V))
 | met (f x:Addr)
 | rng (lo hi:Int)
 | frz (o:Obj) (u:HO)
 | tbl (ps:Array Value)
 | ext (φ:Heap→Prop)
abbrev Hp:=Addr→Option HO
def upd (H:Hp) (a:Addr) (o:HO):Hp:=fun b=>if b=a then some o else H b
theorem upd_same {H:Hp} {a:Addr} {o:HO}:upd H a o a=some o:=by unfold upd; rw [if_pos rfl]
theorem upd_ne {H:Hp} {a b:Addr} {o:HO} (h:b≠a):upd H a o b=H b:=by unfold upd; rw [if_neg h]
theorem ne_of {H:Hp} {a b:Addr} {o u:HO} (h:H a=some o) (h':H b=some u) (d:o≠u):a≠b:=by
 intro e; subst e; rw [h] at h'; exact d (Option.some.inj h')
theorem ne_of_none {H:Hp} {a b:Addr} {o:HO} (h:H a=some o) (h':H b=none):a≠b:=by
 intro e; subst e; rw [h] at h'; cases h'
section
variable (P:Program) (w:World)
def ObjOk (H:Hp) (h:Heap) (a:Addr):HO→Prop
 | .lst xs=>xs.length≤sizeLine∧∃ (its:List Value) (n:Nat),Vals xs its∧h.get? a=some { cls:=.type "list",data:=.seq its.toArray n }
 | .tup xs=>xs.length≤sizeLine∧∃ its:List Value,Vals xs its∧IsTup h a its.toArray
 | .dK kvs=>kvs.length≤sizeLine∧(a==sysModules)=false∧∃ vs,KV kvs vs∧h.DictOf (mixKind P w) a vs
 | .dT kvs=>kvs.length≤sizeLine∧(a==sysModules)=false∧∃ xs:List (List Key×Addr×Value),
   Paired (fun (p:List Key×V) (q:List Key×Addr×Value)=>p.1=q.1∧H q.2.1=some (.tup (p.1.map kV))∧RelV p.2 q.2.2) kvs xs∧
   ∃ o es ep,h.get? a=some o∧o.ExactDict∧o.data=.dict es ep∧es.toList=xs.map (entryOfKey (tupleKind (mixKind P w)))∧(xs.map (·.1)).Nodup
 | .set S n=>h.SetOf (intKind P w) a S n
 | .ins C dx fs=>H dx=some (.own a)∧fs.length≤1000∧dx≠a∧h.get? a=some (PySem.W.instObj C dx)∧
   ∃ mA,h.Ns1 dx mA∧(∀ f,RelO (fs.lookup f) (mA f))∧PySem.Within mA (fs.map (·.1))
 | .own _=>∃ o,h.get? a=some o
 | .xd fs=>∃ mA,h.Ns1 a mA∧∀ f,RelO (fs.lookup f) (mA f)
 | .rng lo hi=>∃ t u v,h.get? a=some { cls:=.type "range",data:=.fields #[.int lo t,.int hi u,.int 1 v] }
 | .frz o u=>h.get? a=some o∧ObjOk H h a u
 | .tbl ps=>h.get? a=some { cls:=.none,data:=.fields ps }
 | .met f x=>h.get? a=some (PySem.W.methodObj (.ref f) (.ref x))
 | .ext φ=>φ h∧(∃ o,h.get? a=some o)∧∀ h1 h2:Heap,φ h1→(∀ o,h1.get? a=some o→h2.get? a=some o)→φ h2
def HOk (H:Hp) (h:Heap):Prop:=∀ a o,H a=some o→ObjOk P w H h a o
end
section
variable {P:Program} {w:World} {H H':Hp} {h h':Heap} {a:Addr} {o:HO}
theorem ObjOk.lt (x:ObjOk P w H h a o):a < h.objs.size:=by
 cases o with
 | lst xs=>obtain ⟨_,_,_,_,e⟩:=x; exact Heap.lt_size e
 | tup xs=>obtain ⟨_,_,_,p⟩:=x; exact p.lt
 | dK kvs=>obtain ⟨_,_,_,_,o,_,_,e,_⟩:=x; exact Heap.lt_size e
 | dT kvs=>obtain ⟨_,_,_,_,o,_,_,e,_⟩:=x; exact Heap.lt_size e
 | set S n=>obtain ⟨o,_,_,_,e,_⟩:=x; exact Heap.lt_size e
 | ins C dx fs=>obtain ⟨_,_,_,e,_⟩:=x; exact Heap.lt_size e
 | own y=>obtain ⟨_,e⟩:=x; exact Heap.lt_size e
 | xd fs=>obtain ⟨_,⟨_,_,_,e,_⟩,_⟩:=x; exact Heap.lt_size e
 | rng lo hi=>obtain ⟨_,_,_,e⟩:=x; exact Heap.lt_size e
 | frz ob u=>obtain ⟨e,_⟩:=x; exact Heap.lt_size e
 | tbl ps=>exact Heap.lt_size (show h.get? a=some _ from x)
 | met f y=>exact Heap.lt_size (show h.get? a=some _ from x)
 | ext φ=>obtain ⟨_,⟨_,e⟩,_⟩:=x; exact Heap.lt_size e
theorem Paired.mapP {α β:Type} {F G:α→β→Prop}:∀ {l₁:List α} {l₂:List β},Paired F l₁ l₂→(∀ a b,F a b→G a b)→Paired G l₁ l₂
 | _,_,.nil,_=>.nil
 | _,_,.cons r t,f=>.cons (f _ _ r) (Paired.mapP t f)
theorem ObjOk.stay (x:ObjOk P w H h a o) (k:∀ b u,(b=a∨H b=some (.own a))→h.get? b=some u→h'.get? b=some u)
  (ho:∀ b,H b=some (.own a)→H' b=some (.own a)) (ht:∀ b xs,H b=some (.tup xs)→H' b=some (.tup xs)):ObjOk P w H' h' a o:=by
 induction o with
 | lst xs=>obtain ⟨z,its,n,r,e⟩:=x; exact ⟨z,its,n,r,k _ _ (.inl rfl) e⟩
 | tup xs=>obtain ⟨z,its,r,ob,e,c⟩:=x; exact ⟨z,its,r,ob,k _ _ (.inl rfl) e,c⟩
 | dK kvs=>obtain ⟨z,y,vs,r,ob,es,ep,e,c⟩:=x; exact ⟨z,y,vs,r,ob,es,ep,k _ _ (.inl rfl) e,c⟩
 | dT kvs=>
  obtain ⟨z,y,xs,r,ob,es,ep,e,c⟩:=x
  exact ⟨z,y,xs,Paired.mapP r fun p q z=>⟨z.1,ht _ _ z.2.1,z.2.2⟩,ob,es,ep,k _ _ (.inl rfl) e,c⟩
 | set S n=>obtain ⟨ob,es,ep,t,e,c⟩:=x; exact ⟨ob,es,ep,t,k _ _ (.inl rfl) e,c⟩
 | ins C dx fs=>
  obtain ⟨d,z,ne,e,mA,⟨od,es,ep,e2,c⟩,r⟩:=x
  exact ⟨ho _ d,z,ne,k _ _ (.inl rfl) e,mA,⟨od,es,ep,k _ _ (.inr d) e2,c⟩,r⟩
 | own y=>obtain ⟨ob,e⟩:=x; exact ⟨ob,k _ _ (.inl rfl) e⟩
 | xd fs=>obtain ⟨mA,⟨od,es,ep,e,c⟩,r⟩:=x; exact ⟨mA,⟨od,es,ep,k _ _ (.inl rfl) e,c⟩,r⟩
 | rng lo hi=>obtain ⟨t,u,v,e⟩:=x; exact ⟨t,u,v,k _ _ (.inl rfl) e⟩
 | frz ob u ih=>obtain ⟨e,q⟩:=x; exact ⟨k _ _ (.inl rfl) e,ih q⟩
 | tbl ps=>
  have e:h.get? a=some { cls:=.none,data:=.fields ps }:=x
  show h'.get? a=some { cls:=.none,data:=.fields ps }
  exact k a _ (.inl rfl) e
 | met f y=>
  have e:h.get? a=some (PySem.W.methodObj (.ref f) (.ref y)):=x
  show h'.get? a=some (PySem.W.methodObj (.ref f) (.ref y))
  exact k a _ (.inl rfl) e
 | ext φ=>obtain ⟨p,⟨o,e⟩,st⟩:=x; exact ⟨st _ _ p fun o q=>k _ _ (.inl rfl) q,⟨o,k _ _ (.inl rfl) e⟩,st⟩
theorem HOk.lt (x:HOk P w H h) (e:H a=some o):a < h.objs.size:=(x a o e).lt
theorem HOk.fresh (x:HOk P w H h) (e:h.objs.size≤a):H a=none:=by
 cases q:H a with
 | none=>rfl
 | some u=>exact absurd (Nat.lt_of_lt_of_le (x.lt q) e) (Nat.lt_irrefl _)
theorem HOk.kept (x:HOk P w H h) (k:∀ b u,h.get? b=some u→h'.get? b=some u):HOk P w H h':=fun a o e=>
 (x a o e).stay (fun b u _ q=>k b u q) (fun _ q=>q) fun _ _ q=>q
theorem HOk.laid (x:HOk P w H h) (k:∀ b u,h.get? b=some u→h'.get? b=some u) (hp:h.objs.size≤a) (new:ObjOk P w (upd H a o) h' a o):HOk P w (upd H a o) h':=fun b u e=>by
 have hn:=x.fresh hp
 by_cases hb:b=a
 ·subst hb; rw [upd_same] at e; cases e; exact new
 ·rw [upd_ne hb] at e
  exact (x b u e).stay (fun c v _ q=>k c v q) (fun c q=>by rw [upd_ne (ne_of_none q hn)]; exact q) fun c xs q=>by rw [upd_ne (ne_of_none q hn)]; exact q
end
def Rd (H:Hp) (a:Addr) (u:HO):Prop:=H a=some u∨∃ o,H a=some (.frz o u)
theorem Rd.ok {P:Program} {w:World} {H:Hp} {h:Heap} {a:Addr} {u:HO} (r:Rd H a u) (x:HOk P w H h):ObjOk P w H h a u:=by
 rcases r with r | ⟨o,r⟩
 ·exact x a u r
 ·obtain ⟨_,q⟩:=x a _ r
  exact q
def Mut:Option HO→Prop
 | some (.lst _)=>True
 | some (.dK _)=>True
 | some (.dT _)=>True
 | some (.set _ _)=>True
 | some (.ins _ _ _)=>True
 | some (.ext _)=>True
 | _=>False
section
variable {P:Program} {w:World} {H:Hp} {h h':Heap} {x e:Addr} {o':HO}
theorem HOk.write (ok:HOk P w H h) (mu:Mut (H x)) (he:e=x∨H e=some (.own x)) (k:∀ b u,b≠e→h.get? b=some u→h'.get? b=some u) (heo:∃ u,h'.get? e=some u)
  (new:ObjOk P w (upd H x o') h' x o'):HOk P w (upd H x o') h':=fun b u q=>by
 have nown:∀ c y,H c=some (.own y)→c≠x:=fun c y r z=>by subst z; rw [r] at mu; exact mu
 have ntup:∀ c xs,H c=some (.tup xs)→c≠x:=fun c xs r z=>by subst z; rw [r] at mu; exact mu
 by_cases hb:b=x
 ·subst hb; rw [upd_same] at q; cases q; exact new
 ·rw [upd_ne hb] at q
  by_cases hbe:b=e
  ·have q':H b=some (.own x):=by
    rcases he with z | z
    ·exact absurd (hbe.trans z) hb
    ·rw [hbe]; exact z
   rw [q] at q'; cases q'
   obtain ⟨v,hv⟩:=heo
   exact ⟨v,by rw [hbe]; exact hv⟩
  ·refine (ok b u q).stay (fun c v hc r=>k c v ?_ r) (fun c r=>by rw [upd_ne (nown c b r)]; exact r) fun c xs r=>by rw [upd_ne (ntup c xs r)]; exact r
   rcases hc with rfl | hc
   ·exact hbe
   ·rintro rfl
    rcases he with z | z
    ·exact nown c b hc z
    ·rw [hc] at z; cases z; exact hb rfl
end
structure Un (fs ex:List Addr) (H H':Hp) (h h':Heap):Prop where
 keep:∀ b o,h.get? b=some o→H b=none→b∉fs→b∉ex→h'.get? b=some o
 slot:∀ b o,h.get? b=some o→H b=none→b∈fs→b∉ex→∃ sl,h'.get? b=some { o with slots:=sl }
 free:∀ b o,h.get? b=some o→H b=none→b∉ex→H' b=none
 there:∀ b o,h.get? b=some o→b∉ex→∃ o',h'.get? b=some o'
 tups:∀ b xs,H b=some (.tup xs)→H' b=some (.tup xs)
 frzs:∀ b o u,H b=some (.frz o u)→H' b=some (.frz o u)
 tbls:∀ b ps,H b=some (.tbl ps)→∃ more,H' b=some (.tbl (ps ++ more))
section
variable {fs fs' ex ex':List Addr} {H H1 H2:Hp} {h h1 h2 h':Heap} {a x e:Addr} {o:HO}
theorem Un.any (u:Un fs ex H H1 h h1) {b:Addr} {ob:Obj} (q:h.get? b=some ob) (n:H b=none) (hx:b∉ex):∃ sl,h1.get? b=some { ob with slots:=sl }:=by
 by_cases hb:b∈fs
 ·exact u.slot b ob q n hb hx
 ·exact ⟨ob.slots,u.keep b ob q n hb hx⟩
theorem Un.kept (k:∀ b u,h.get? b=some u→h'.get? b=some u):Un fs ex H H h h':=
 ⟨fun b ob q _ _ _=>k b ob q,fun b ob q _ _ _=>⟨ob.slots,k b ob q⟩,fun _ _ _ n _=>n,fun b ob q _=>⟨ob,k b ob q⟩,fun _ _ q=>q,fun _ _ _ q=>q,fun _ ps q=>⟨#[],by rw [q]; simp⟩⟩
theorem Un.refl:Un fs ex H H h h:=Un.kept fun _ _ q=>q
theorem Un.laid (k:∀ b u,h.get? b=some u→h'.get? b=some u) (hp:h.objs.size≤a) (hn:H a=none):Un fs ex H (upd H a o) h h' where
 keep:=fun b u q _ _ _=>k b u q
 slot:=fun b u q _ _ _=>⟨u.slots,k b u q⟩
 free:=fun b u q n _=>by rw [upd_ne (Nat.ne_of_lt (Nat.lt_of_lt_of_le (Heap.lt_size q) hp))]; exact n
 there:=fun b u q _=>⟨u,k b u q⟩
 tups:=fun b xs q=>by rw [upd_ne (ne_of_none q hn)]; exact q
 frzs:=fun b u xs q=>by rw [upd_ne (ne_of_none q hn)]; exact q
 tbls:=fun b ps q=>⟨#[],by rw [upd_ne (ne_of_none q hn),q]; simp⟩
theorem Un.write (mu:Mut (H x)) (he:e=x∨H e=some (.own x)) (k:∀ b u,b≠e→h.get? b=some u→h'.get? b=some u) (heo:∃ u,h'.get? e=some u):Un fs ex H (upd H x o) h h':=by
 have hx:∀ b,H b=none→b≠x:=fun b n z=>by subst z; rw [n] at mu; exact mu
 have hb:∀ b,H b=none→b≠e:=fun b n z=>by
  subst z
  rcases he with r | r
  ·exact hx b n r
  ·rw [n] at r; cases r
 have hm:∀ b u,H b=some u→¬ Mut (some u)→b≠x:=fun b u q nm z=>by subst z; rw [q] at mu; exact nm mu
 refine ⟨fun b u q n _ _=>k b u (hb b n) q,fun b u q n _ _=>⟨u.slots,k b u (hb b n) q⟩,fun b u q n _=>by rw [upd_ne (hx b n)]; exact n,fun b u q _=>?_,
  fun b xs q=>by rw [upd_ne (hm b _ q fun z=>z)]; exact q,fun b u xs q=>by rw [upd_ne (hm b _ q fun z=>z)]; exact q,fun b ps q=>⟨#[],by rw [upd_ne (hm b _ q fun z=>z),q]; simp⟩⟩
 by_cases hbe:b=e
 ·subst hbe; exact heo
 ·exact ⟨u,k b u hbe q⟩
end
def trk (h:Heap) (H:Hp):List Addr:=(List.range h.objs.size).filter fun a=>(H a).isSome
def hidT (h:Heap) (H:Hp):Heap:=PySem.W.hideAll h (trk h H)
theorem hidT_size (h:Heap) (H:Hp):(hidT h H).objs.size=h.objs.size:=PySem.W.hideAll_size _ _
theorem hidT_get {h:Heap} {H:Hp} {b:Addr} {o:Obj} (e:h.get? b=some o) (n:H b=none):(hidT h H).get? b=some o:=
 PySem.W.hideAll_get _ e fun hm=>by
  have q:(H b).isSome=true:=(List.mem_filter.mp hm).2
  rw [n] at q; simp at q
theorem of_hidT {h:Heap} {H:Hp} {b:Addr} {o:Obj} (e:(hidT h H).get? b=some o):h.get? b=some o∧H b=none:=by
 have e':h.get? b=some o:=PySem.W.of_hideAll (trk h H) e
 refine ⟨e',?_⟩
 cases q:H b with
 | none=>rfl
 | some x=>
  have hm:b∈trk h H:=List.mem_filter.mpr ⟨List.mem_range.mpr (Heap.lt_size e'),by simp [q]⟩
  have z:(hidT h H).get? b=none:=PySem.W.hideAll_none (trk h H) hm
  rw [z] at e; cases e
def allNews (g h:Heap) (L:Addr):List (Addr×Obj):=(List.range h.objs.size).filterMap fun a=>if a=L∨(g.get? a).isSome=true then none else (h.get? a).map fun o=>(a,o)
def rest (g h:Heap) (L d:Addr):List (Addr×Obj):=(allNews g h L).filter fun p=>decide (p.1≠d)
end L2
namespace L2
open PySem PySem.Spec PyProof.Rows
structure Mod (K:PySem.W.Frag) (mg:Str→Option Value) (base:Heap):Prop where
 kin:K.In base
 glob:base.Ns mainGlobals mg
 blt:∃ mb,base.Ns builtinsNs mb∧∀ x:Str,x≠"__name__"→mb x=bootBuiltins x
 nolimit:base.NoLimit
structure Cx where
 prog:Program
 w:World
 K:PySem.W.Frag
 mg:Str→Option Value
 base:Heap
 A:Around
 N:List Str
 s₀:Shared
 H₀:Hp
 env:Env
 outer:List Env
 stack:List Env
 ex:List Addr
 fn:Str→Bool
 calm:Bool
 pn:List (Addr×Obj)
 xe:Value→Shared→Prop
def frs (l:List Env):List Addr:=l.filterMap (·.frame)
abbrev Cx.fs (X:Cx):List Addr:=frs X.outer
def Vis (sc:Scope) (x:Str):Prop:=sc.names.lookup x=some .local∨sc.names.lookup x=some .cell∨sc.names.lookup x=some .free
def Loc (sc:Scope) (x:Str):Prop:=sc.names.lookup x=some .local∨sc.names.lookup x=some .cell
def Look (env:Env) (h:Heap) (m:Str→Option Value) (x:Str) (u:Value):Prop:=
 (env.kindOf x=some .local∧m x=some u)∨((env.kindOf x=some .cell∨env.kindOf x=some .free)∧∃ c,env.cells.lookup x=some c∧h.IsCell c (some u))
structure Cx.Ok (X:Cx):Prop where
 mod:Mod X.K X.mg X.base
 kind:X.env.scope.kind=.function
 glob:X.env.globals=mainGlobals
 blt:X.env.builtins=builtinsNs
 above:X.s₀.heap.objs.size≤X.env.locals
 inj:∀ x y c,X.env.cells.lookup x=some c→X.env.cells.lookup y=some c→x=y
 has:∀ x,(X.env.kindOf x=some .cell∨X.env.kindOf x=some .free)→∃ c,X.env.cells.lookup x=some c
 cab:∀ x c,X.fn x=true→X.env.cells.lookup x=some c→X.s₀.heap.objs.size≤c
 hd:X.calm=true→X.A.handled=none
 frames:X.A.frames=some X.stack
 stk:X.stack=X.outer∨(X.stack=X.env::X.outer∧X.env.frame=some X.env.locals)
 exf:∀ b∈X.ex,b≠X.env.locals∧∀ x c,X.env.cells.lookup x=some c→c≠b
 bs:∀ b o,X.base.get? b=some o→X.s₀.heap.get? b=some o∧X.H₀ b=none
 bsz:X.base.objs.size≤X.s₀.heap.objs.size
 noex:∀ b o,X.base.get? b=some o→b∉X.ex
 exfs:∀ b∈X.ex,b∉X.fs
 funs:X.s₀.heap.FunFrames X.base X.outer
 frf:∀ b∈X.fs,X.H₀ b=none
structure Inv (X:Cx) (pins:List (Addr×Obj)) (σ:List (Option V)) (H:Hp) (s:Shared):Prop where
 ok:X.Ok
 os:s.os=X.s₀.os
 bare:AllBare s.gens
 base:Un X.fs X.ex X.H₀ H X.s₀.heap s.heap
 loc:∃ m,s.heap.Ns X.env.locals m∧∀ (i:Nat) (x:Str) (v:V),X.N[i]?=some x→σ[i]?=some (some v)→Vis X.env.scope x→∃ u,RelV v u∧Look X.env s.heap m x u
 cell:∀ x c,X.env.cells.lookup x=some c→∃ v,s.heap.IsCell c v
 free:H X.env.locals=none
 freeC:∀ x c,X.env.cells.lookup x=some c→H c=none
 pin:∀ p∈X.pn ++ pins,s.heap.get? p.1=some p.2∧H p.1=none∧p.1≠X.env.locals∧p.1∉X.fs∧∀ v,p.2.data≠.cell v
 hok:HOk X.prog X.w H s.heap
 len:σ.length=X.N.length
section
variable {X:Cx} {pins:List (Addr×Obj)} {σ:List (Option V)} {H H':Hp} {s:Shared} {h':Heap}
theorem Cx.Ok.nofr (ok:X.Ok) {b:Addr} {o:Obj} (e:X.base.get? b=some o):b∉X.fs:=fun hb=>by
 have:=(ok.funs.mem hb).1
 rw [e] at this; cases this
theorem Inv.bs (I:Inv X pins σ H s):∀ b o,X.base.get? b=some o→s.heap.get? b=some o∧H b=none:=fun b o e=>
 ⟨I.base.keep b o (I.ok.bs b o e).1 (I.ok.bs b o e).2 (I.ok.nofr e) (I.ok.noex b o e),I.base.free b o (I.ok.bs b o e).1 (I.ok.bs b o e).2 (I.ok.noex b o e)⟩
theorem Inv.bk (I:Inv X pins σ H s):∀ b o,X.base.get? b=some o→s.heap.get? b=some o:=fun b o e=>(I.bs b o e).1
theorem Inv.mod (I:Inv X pins σ H s):Mod X.K X.mg X.base:=I.ok.mod
theorem Inv.kIn (I:Inv X pins σ H s):X.K.In s.heap:=I.ok.mod.kin.keeps I.bk
theorem Inv.lt (I:Inv X pins σ H s):X.env.locals < s.heap.objs.size:=let ⟨_,hn,_⟩:=I.loc; hn.lt
theorem Inv.sz (I:Inv X pins σ H s):X.s₀.heap.objs.size≤s.heap.objs.size:=Nat.le_trans I.ok.above (Nat.le_of_lt I.lt)
theorem Inv.nofs (I:Inv X pins σ H s) {a:Addr} (h:s.heap.objs.size≤a):a∉X.fs:=fun hb=>by
 obtain ⟨_,o,ho,_⟩:=I.ok.funs.mem hb
 exact absurd (Nat.lt_of_lt_of_le (Heap.lt_size ho) (Nat.le_trans I.sz h)) (Nat.lt_irrefl _)
theorem Inv.cne (I:Inv X pins σ H s):∀ x c,X.env.cells.lookup x=some c→c≠X.env.locals:=fun x c e z=>by
 obtain ⟨v,o,ho,hd⟩:=I.cell x c e
 obtain ⟨m,⟨o',es,ep,ho',hd',_⟩,_⟩:=I.loc
 rw [z,ho'] at ho; cases ho; rw [hd'] at hd; cases hd
theorem Inv.funs (I:Inv X pins σ H s):s.heap.FunFrames X.base X.outer:=by
 have all:∀ (l:List Env),(∀ b∈frs l,b∈X.fs)→X.s₀.heap.FunFrames X.base l→s.heap.FunFrames X.base l:=by
  intro l
  induction l with
  | nil=>intro _ _; trivial
  | cons env r ih=>
   intro hs hl
   obtain ⟨hk,⟨L,o,hf,hn,ho,hd⟩,hr⟩:=hl
   have hL:L∈X.fs:=hs L (by unfold frs; rw [List.filterMap_cons,hf]; exact List.mem_cons_self)
   obtain ⟨sl,e⟩:=I.base.slot L o ho (I.ok.frf L hL) hL fun z=>I.ok.exfs L z hL
   exact ⟨hk,⟨L,_,hf,hn,e,hd⟩,ih (fun b hb=>hs b (by unfold frs; rw [List.filterMap_cons,hf]; exact List.mem_cons_of_mem _ hb)) hr⟩
 exact all X.outer (fun _ hb=>hb) I.ok.funs
theorem Inv.stack (I:Inv X pins σ H s):s.heap.FunFrames X.base X.stack:=by
 rcases I.ok.stk with e | ⟨e,hf⟩
 ·rw [e]; exact I.funs
 ·rw [e]
  obtain ⟨m,hn,_⟩:=I.loc
  refine .cons (by rw [I.ok.kind]; decide) hf hn ?_ I.funs
  exact Heap.get?_none_of_le (Nat.le_trans I.ok.bsz I.ok.above)
theorem Inv.stkSub (I:Inv X pins σ H s):∀ b∈frs X.stack,b∈X.env.locals::X.fs:=fun b hb=>by
 rcases I.ok.stk with e | ⟨e,hf⟩
 ·rw [e] at hb; exact List.mem_cons_of_mem _ hb
 ·rw [e] at hb
  unfold frs at hb
  rw [List.filterMap_cons,hf] at hb
  exact hb
theorem Inv.stkFree (I:Inv X pins σ H s):∀ b∈frs X.stack,H b=none:=fun b hb=>by
 rcases List.mem_cons.mp (I.stkSub b hb) with e | hb
 ·rw [e]; exact I.free
 ·obtain ⟨_,o,ho,_⟩:=I.ok.funs.mem hb
  exact I.base.free b o ho (I.ok.frf b hb) fun z=>I.ok.exfs b z hb
theorem Inv.step {g':Array GenState} {t':Nat} {d':Drawn} {ch:List Addr} (I:Inv X pins σ H s)
  (hch:∀ b∈ch,(b∈X.ex∨X.s₀.heap.objs.size≤b)∧b≠X.env.locals∧(∀ x c,X.env.cells.lookup x=some c→c≠b)∧∀ p∈X.pn ++ pins,p.1≠b)
  (keep:∀ b o,b≠X.env.locals→b∉X.fs→b∉ch→s.heap.get? b=some o→H b=none→h'.get? b=some o)
  (slot:∀ b o,b≠X.env.locals→b∈X.fs→b∉ch→s.heap.get? b=some o→H b=none→∃ sl,h'.get? b=some { o with slots:=sl }) (free:∀ b o,b∉ch→s.heap.get? b=some o→H b=none→H' b=none)
  (there:∀ b o,b∉ch→s.heap.get? b=some o→∃ o',h'.get? b=some o')
  (tups:∀ b xs,H b=some (.tup xs)→H' b=some (.tup xs)) (frzs:∀ b o u,H b=some (.frz o u)→H' b=some (.frz o u)) (tbls:∀ b ps,H b=some (.tbl ps)→∃ more,H' b=some (.tbl (ps ++ more)))
  (ns:∀ m,s.heap.Ns X.env.locals m→h'.Ns X.env.locals m) (hok:HOk X.prog X.w H' h') (hg:AllBare g'):
  Inv X pins σ H' { s with heap:=h',gens:=g',drawn:=d',toks:=t' }:=by
 have neL:∀ b o,X.s₀.heap.get? b=some o→b≠X.env.locals:=fun b o e=>Nat.ne_of_lt (Nat.lt_of_lt_of_le (Heap.lt_size e) I.ok.above)
 have neC:∀ b o,X.s₀.heap.get? b=some o→b∉X.ex→b∉ch:=fun b o e hx hb=>by
  rcases (hch b hb).1 with z | z
  ·exact hx z
  ·exact absurd (Nat.lt_of_lt_of_le (Heap.lt_size e) z) (Nat.lt_irrefl _)
 have cellK:∀ x c,X.env.cells.lookup x=some c→∀ v,s.heap.IsCell c v→h'.IsCell c v:=fun x c e v ⟨o,ho,hd⟩=>by
  have nch:c∉ch:=fun z=>(hch c z).2.2.1 x c e rfl
  by_cases hc:c∈X.fs
  ·obtain ⟨sl,q⟩:=slot c o (I.cne x c e) hc nch ho (I.freeC x c e)
   exact ⟨_,q,hd⟩
  ·exact ⟨o,keep c o (I.cne x c e) hc nch ho (I.freeC x c e),hd⟩
 refine ⟨I.ok,I.os,hg,⟨fun b o e n hb hx=>?_,fun b o e n hb hx=>?_,fun b o e n hx=>?_,fun b o e hx=>?_,fun b xs e=>tups b xs (I.base.tups b xs e),fun b o xs e=>frzs b o xs (I.base.frzs b o xs e),fun b ps e=>?_⟩,?_,fun x c e=>?_,?_,fun x c e=>?_,fun p hp=>?_,hok,I.len⟩
 ·exact keep b o (neL b o e) hb (neC b o e hx) (I.base.keep b o e n hb hx) (I.base.free b o e n hx)
 ·obtain ⟨sl,e1⟩:=I.base.slot b o e n hb hx
  obtain ⟨sl',e2⟩:=slot b _ (neL b o e) hb (neC b o e hx) e1 (I.base.free b o e n hx)
  exact ⟨sl',e2⟩
 ·obtain ⟨o',e1⟩:=I.base.there b o e hx
  exact free b o' (neC b o e hx) e1 (I.base.free b o e n hx)
 ·obtain ⟨o',e1⟩:=I.base.there b o e hx
  exact there b o' (neC b o e hx) e1
 ·obtain ⟨m1,e1⟩:=I.base.tbls b ps e
  obtain ⟨m2,e2⟩:=tbls b _ e1
  exact ⟨m1 ++ m2,by rw [e2,Array.append_assoc]⟩
 ·obtain ⟨m,hn,hl⟩:=I.loc
  refine ⟨m,ns m hn,fun i x v e1 e2 e3=>?_⟩
  obtain ⟨u,r,l⟩:=hl i x v e1 e2 e3
  refine ⟨u,r,?_⟩
  rcases l with l | ⟨k,c,e,z⟩
  ·exact .inl l
  ·exact .inr ⟨k,c,e,cellK x c e _ z⟩
 ·obtain ⟨v,z⟩:=I.cell x c e
  exact ⟨v,cellK x c e v z⟩
 ·obtain ⟨m,⟨o,_,_,ho,_⟩,_⟩:=I.loc
  exact free _ o (fun z=>(hch _ z).2.1 rfl) ho I.free
 ·obtain ⟨v,o,ho,hd⟩:=I.cell x c e
  exact free c o (fun z=>(hch c z).2.2.1 x c e rfl) ho (I.freeC x c e)
 ·obtain ⟨e,n,ne,nf,d⟩:=I.pin p hp
  have nch:p.1∉ch:=fun z=>(hch p.1 z).2.2.2 p hp rfl
  exact ⟨keep p.1 p.2 ne nf nch e n,free p.1 p.2 nch e n,ne,nf,d⟩
theorem Inv.un {t':Nat} (I:Inv X pins σ H s) (u:Un X.fs [] H H' s.heap h') (hok:HOk X.prog X.w H' h'):Inv X pins σ H' { s with heap:=h',toks:=t' }:=by
 obtain ⟨m,⟨o,es,ep,ho,r⟩,_⟩:=id I.loc
 obtain ⟨sl,hL⟩:=u.any ho I.free (by simp)
 exact I.step (g':=s.gens) (d':=s.drawn) (ch:=[]) (fun _ z=>nomatch z) (fun b o _ hb _ e n=>u.keep b o e n hb (by simp)) (fun b o _ hb _ e n=>u.slot b o e n hb (by simp)) (fun b o _ e n=>u.free b o e n (by simp)) (fun b o _ e=>u.there b o e (by simp)) u.tups u.frzs u.tbls (fun m' hm=>by
  obtain ⟨o',es',ep',ho',r'⟩:=hm
  rw [ho] at ho'; cases ho'
  exact ⟨_,es',ep',hL,r'⟩) hok I.bare
theorem Inv.call {g':Array GenState} {t':Nat} {d':Drawn} {ch:List Addr} (I:Inv X pins σ H s) (u:Un (frs X.stack) ch H H' s.heap h') (hok:HOk X.prog X.w H' h') (hg:AllBare g')
  (hch:∀ b∈ch,(b∈X.ex∨X.s₀.heap.objs.size≤b)∧b≠X.env.locals∧(∀ x c,X.env.cells.lookup x=some c→c≠b)∧∀ p∈X.pn ++ pins,p.1≠b):
  Inv X pins σ H' { s with heap:=h',gens:=g',drawn:=d',toks:=t' }:=by
 obtain ⟨m,⟨o,es,ep,ho,r⟩,_⟩:=id I.loc
 obtain ⟨sl,hL⟩:=u.any ho I.free fun z=>(hch _ z).2.1 rfl
 exact I.step (ch:=ch) hch (fun b o hL hb hc e n=>u.keep b o e n (fun z=>(List.mem_cons.mp (I.stkSub b z)).elim hL hb) hc) (fun b o _ _ hc e n=>u.any e n hc) (fun b o hc e n=>u.free b o e n hc) (fun b o hc e=>u.there b o e hc) u.tups u.frzs u.tbls (fun m' hm=>by
  obtain ⟨o',es',ep',ho',r'⟩:=hm
  rw [ho] at ho'; cases ho'
  exact ⟨_,es',ep',hL,r'⟩) hok hg
theorem Inv.turned {t':Nat} {it:Addr} (I:Inv X pins σ H s) (k:∀ b o,b≠it→s.heap.get? b=some o→h'.get? b=some o) (hn:H it=none) (hL:it≠X.env.locals)
  (h1:it∈X.ex∨X.s₀.heap.objs.size≤it) (h2:∀ x c,X.env.cells.lookup x=some c→c≠it) (h3:∀ p∈X.pn ++ pins,p.1≠it):Inv X pins σ H { s with heap:=h',toks:=t' }:=by
 have nit:∀ b u,H b=some u→b≠it:=fun b u e z=>by rw [z,hn] at e; cases e
 refine I.step (g':=s.gens) (d':=s.drawn) (ch:=[it]) (fun b hb=>?_) (fun b o _ _ hc e _=>k b o (fun z=>hc (by simp [z])) e) (fun b o _ _ hc e _=>⟨o.slots,k b o (fun z=>hc (by simp [z])) e⟩) (fun _ _ _ _ n=>n)
  (fun b o hc e=>⟨o,k b o (fun z=>hc (by simp [z])) e⟩) (fun _ _ e=>e) (fun _ _ _ e=>e) (fun b ps e=>⟨#[],by rw [e]; simp⟩) (fun m hm=>?_) (fun b u e=>?_) I.bare
 ·have e:b=it:=by simpa using hb
  subst e
  exact ⟨h1,hL,h2,h3⟩
 ·obtain ⟨o,es,ep,ho,r⟩:=hm
  exact ⟨o,es,ep,k _ o (Ne.symm hL) ho,r⟩
 ·refine (I.hok b u e).stay (fun c v hc q=>k c v ?_ q) (fun _ q=>q) fun _ _ q=>q
  rcases hc with z | z
  ·rw [z]; exact nit b u e
  ·exact nit c _ z
theorem Inv.tok (I:Inv X pins σ H s) (t:Nat):Inv X pins σ H { s with toks:=t }:=I.un (h':=s.heap) (t':=t) Un.refl I.hok
theorem Inv.kept {t':Nat} (I:Inv X pins σ H s) (k:∀ b u,s.heap.get? b=some u→h'.get? b=some u):Inv X pins σ H { s with heap:=h',toks:=t' }:=I.un (Un.kept k) (I.hok.kept k)
theorem Inv.laid {a:Addr} {o:HO} {t':Nat} (I:Inv X pins σ H s) (k:∀ b u,s.heap.get? b=some u→h'.get? b=some u) (hp:s.heap.objs.size≤a) (new:ObjOk X.prog X.w (upd H a o) h' a o):
  Inv X pins σ (upd H a o) { s with heap:=h',toks:=t' }:=I.un (Un.laid k hp (I.hok.fresh hp)) (I.hok.laid k hp new)
theorem Inv.write {x e:Addr} {o:HO} {t':Nat} (I:Inv X pins σ H s) (mu:Mut (H x)) (he:e=x∨H e=some (.own x)) (k:∀ b u,b≠e→s.heap.get? b=some u→h'.get? b=some u) (heo:∃ u,h'.get? e=some u)
  (new:ObjOk X.prog X.w (upd H x o) h' x o):Inv X pins σ (upd H x o) { s with heap:=h',toks:=t' }:=I.un (Un.write mu he k heo) (I.hok.write mu he k heo new)
theorem Inv.pins_of {pins':List (Addr×Obj)} (I:Inv X pins σ H s) (h:∀ p∈pins',s.heap.get? p.1=some p.2∧H p.1=none∧p.1≠X.env.locals∧p.1∉X.fs∧∀ v,p.2.data≠.cell v):Inv X pins' σ H s:=
 ⟨I.ok,I.os,I.bare,I.base,I.loc,I.cell,I.free,I.freeC,fun p hp=>(List.mem_append.mp hp).elim (fun z=>I.pin p (List.mem_append_left _ z)) (h p),I.hok,I.len⟩
theorem nodup_ix {N:List Str} (hN:N.Nodup) {i j:Nat} {x:Str} (a:N[i]?=some x) (b:N[j]?=some x):i=j:=by
 obtain ⟨h1,e1⟩:=List.getElem?_eq_some_iff.mp a
 obtain ⟨h2,e2⟩:=List.getElem?_eq_some_iff.mp b
 exact (List.getElem_inj hN).mp (e1.trans e2.symm)
theorem store_ok2 {M:Model} {A:Around} {E:Value→Shared→Prop} {i:Nat} {x:Str} {v:V} {u:Value} {Q:Unit→Shared→Prop} (I:Inv X pins σ H s) (hN:X.N.Nodup) (hi:X.N[i]?=some x) (hx:Loc X.env.scope x) (r:RelV v u)
  (h:∀ s',Inv X pins (σ.set i (some v)) H s'→(∃ a,Heap.SameBut a s.heap s'.heap∧(a=X.env.locals∨X.env.cells.lookup x=some a))→Q () s') (hf:X.fn x=true∨X.env.scope.names.lookup x=some .local:=by first | exact .inl rfl | exact .inr rfl | assumption):wpAny M A (storeName X.env x u) Q E s:=by
 obtain ⟨m,hn,hl⟩:=id I.loc
 have hcls:(X.env.scope.kind==.class || (X.env.scope.kind==.module && X.env.locals != X.env.globals))=false:=by rw [I.ok.kind]; rfl
 have hiσ:i < σ.length:=by rw [I.len]; exact (List.getElem?_eq_some_iff.mp hi).1
 have cne:=I.cne
 have tracked:∀ {a:Addr} {h':Heap},(∃ o,s.heap.get? a=some o∧H a=none)→Heap.SameBut a s.heap h'→HOk X.prog X.w H h':=fun {a h'} ha hs b ob e=>by
  obtain ⟨_,_,hfree⟩:=ha
  refine (I.hok b ob e).stay (fun c w' hc q=>(hs.2 c ?_).trans q) (fun _ q=>q) fun _ _ q=>q
  rintro rfl
  rcases hc with rfl | hc
  ·rw [hfree] at e; cases e
  ·rw [hfree] at hc; cases hc
 rcases hx with hk | hk
 ·refine wpAny_storeName_local hk hn (fun h' hn' hs=>?_) hcls
  obtain ⟨oL,_,_,hoL,_⟩:=id hn
  refine h _ ⟨I.ok,I.os,I.bare,⟨fun b o e n hb hx=>?_,fun b o e n hb hx=>?_,I.base.free,fun b o e hx=>?_,I.base.tups,I.base.frzs,I.base.tbls⟩,⟨_,hn',fun j y v' e1 e2 e3=>?_⟩,fun y c e=>?_,I.free,I.freeC,fun p hp=>?_,tracked ⟨oL,hoL,I.free⟩ hs,by simpa using I.len⟩ ⟨_,hs,.inl rfl⟩
  ·exact (hs.2 b (Nat.ne_of_lt (Nat.lt_of_lt_of_le (Heap.lt_size e) I.ok.above))).trans (I.base.keep b o e n hb hx)
  ·obtain ⟨sl,e1⟩:=I.base.slot b o e n hb hx
   exact ⟨sl,(hs.2 b (Nat.ne_of_lt (Nat.lt_of_lt_of_le (Heap.lt_size e) I.ok.above))).trans e1⟩
  ·obtain ⟨o',e1⟩:=I.base.there b o e hx
   exact ⟨o',(hs.2 b (Nat.ne_of_lt (Nat.lt_of_lt_of_le (Heap.lt_size e) I.ok.above))).trans e1⟩
  ·by_cases hj:j=i
   ·subst hj
    rw [hi] at e1; cases e1
    rw [List.getElem?_set_self hiσ] at e2
    cases e2
    exact ⟨u,r,.inl ⟨hk,by simp⟩⟩
   ·rw [List.getElem?_set_ne (Ne.symm hj)] at e2
    obtain ⟨u',r',q⟩:=hl j y v' e1 e2 e3
    refine ⟨u',r',?_⟩
    rcases q with ⟨k,e⟩ | ⟨k,c,e,z⟩
    ·refine .inl ⟨k,?_⟩
     have:y≠x:=fun e=>hj (nodup_ix hN e1 (e ▸ hi))
     simp [this,e]
    ·exact .inr ⟨k,c,e,z.sameBut hs (cne y c e)⟩
  ·obtain ⟨w',z⟩:=I.cell y c e
   exact ⟨w',z.sameBut hs (cne y c e)⟩
  ·obtain ⟨e,n,ne,nf,d⟩:=I.pin p hp
   exact ⟨(hs.2 p.1 ne).trans e,n,ne,nf,d⟩
 ·have hfn:X.fn x=true:=by
   rcases hf with z | z
   ·exact z
   ·rw [z] at hk; cases hk
  obtain ⟨c,hc⟩:=I.ok.has x (.inl hk)
  obtain ⟨w',z⟩:=I.cell x c hc
  refine wpAny_storeName_cell I.ok.kind hk hc z (fun h' hc' hs=>?_)
  obtain ⟨oc,hoc,hocd⟩:=id z
  refine h { s with heap:=h' } ⟨I.ok,I.os,I.bare,⟨fun b o e n hb hx=>?_,fun b o e n hb hx=>?_,I.base.free,fun b o e hx=>?_,I.base.tups,I.base.frzs,I.base.tbls⟩,⟨m,hn.sameBut hs (Ne.symm (cne x c hc)),fun j y v' e1 e2 e3=>?_⟩,fun y c' e=>?_,I.free,I.freeC,fun p hp=>?_,tracked ⟨oc,hoc,I.freeC x c hc⟩ hs,by simpa using I.len⟩ ⟨c,hs,.inr hc⟩
  ·exact (hs.2 b (Nat.ne_of_lt (Nat.lt_of_lt_of_le (Heap.lt_size e) (I.ok.cab x c hfn hc)))).trans (I.base.keep b o e n hb hx)
  ·obtain ⟨sl,e1⟩:=I.base.slot b o e n hb hx
   exact ⟨sl,(hs.2 b (Nat.ne_of_lt (Nat.lt_of_lt_of_le (Heap.lt_size e) (I.ok.cab x c hfn hc)))).trans e1⟩
  ·obtain ⟨o',e1⟩:=I.base.there b o e hx
   exact ⟨o',(hs.2 b (Nat.ne_of_lt (Nat.lt_of_lt_of_le (Heap.lt_size e) (I.ok.cab x c hfn hc)))).trans e1⟩
  ·by_cases hj:j=i
   ·subst hj
    rw [hi] at e1; cases e1
    rw [List.getElem?_set_self hiσ] at e2
    cases e2
    exact ⟨u,r,.inr ⟨.inl hk,c,hc,hc'⟩⟩
   ·rw [List.getElem?_set_ne (Ne.symm hj)] at e2
    obtain ⟨u',r',q⟩:=hl j y v' e1 e2 e3
    refine ⟨u',r',?_⟩
    rcases q with q | ⟨k,c',e,z'⟩
    ·exact .inl q
    ·refine .inr ⟨k,c',e,z'.sameBut hs ?_⟩
     rintro rfl
     exact hj (nodup_ix hN e1 (I.ok.inj _ _ _ e hc ▸ hi))
  ·by_cases hcc:c'=c
   ·subst hcc; exact ⟨_,hc'⟩
   ·obtain ⟨w2,z2⟩:=I.cell y c' e
    exact ⟨w2,z2.sameBut hs hcc⟩
  ·obtain ⟨e,n,ne,nf,d⟩:=I.pin p hp
   refine ⟨(hs.2 p.1 ?_).trans e,n,ne,nf,d⟩
   intro q
   rw [q,hoc] at e
   have q':oc=p.2:=Option.some.inj e
   exact d w' (by rw [← q']; exact hocd)
theorem store_ok {M:Model} {A:Around} {E:Value→Shared→Prop} {i:Nat} {x:Str} {v:V} {u:Value} {Q:Unit→Shared→Prop} (I:Inv X pins σ H s) (hN:X.N.Nodup) (hi:X.N[i]?=some x) (hx:Loc X.env.scope x) (r:RelV v u)
  (h:∀ s',Inv X pins (σ.set i (some v)) H s'→Q () s') (hf:X.fn x=true∨X.env.scope.names.lookup x=some .local:=by first | exact .inl rfl | exact .inr rfl | assumption):wpAny M A (storeName X.env x u) Q E s:=
 store_ok2 I hN hi hx r (fun s' I' _=>h s' I') hf
theorem Inv.call' {s':Shared} {ch:List Addr} (I:Inv X pins σ H s) (ho:s'.os=s.os) (u:Un (frs X.stack) ch H H' s.heap s'.heap) (hok:HOk X.prog X.w H' s'.heap) (hg:AllBare s'.gens)
  (hch:∀ b∈ch,(b∈X.ex∨X.s₀.heap.objs.size≤b)∧b≠X.env.locals∧(∀ x c,X.env.cells.lookup x=some c→c≠b)∧∀ p∈X.pn ++ pins,p.1≠b):Inv X pins σ H' s':=by
 obtain ⟨h',g',d',t',o'⟩:=s'
 have e:o'=s.os:=ho
 subst e
 exact I.call (g':=g') (t':=t') (d':=d') u hok hg hch
end
abbrev XK:=Value→Option Addr→Hp→Prop
abbrev St:=List (Option V)
abbrev VK:=V→Hp→Prop
abbrev TE:=St→Hp→VK→Prop
abbrev TT:=St→Hp→(Bool→Hp→Prop)→Prop
abbrev TA:=St→Hp→(List V→Hp→Prop)→Prop
structure Ends where
 nx:St→Hp→Prop
 rt:VK
 bk:St→Hp→Prop:=fun _ _=>False
 ct:St→Hp→Prop:=fun _ _=>False
abbrev TS:=Ends→St→Hp→Prop
def EP (X:Cx) (pins:List (Addr×Obj)) (σ:St) (Q:VK) (u:Value) (s':Shared):Prop:=∃ v H',Inv X pins σ H' s'∧RelV v u∧Q v H'
def TP (X:Cx) (pins:List (Addr×Obj)) (σ:St) (Q:Bool→Hp→Prop) (b:Bool) (s':Shared):Prop:=∃ H',Inv X pins σ H' s'∧Q b H'
def AP (X:Cx) (pins:List (Addr×Obj)) (σ:St) (Q:List V→Hp→Prop) (us:List Value) (s':Shared):Prop:=∃ vs H',Inv X pins σ H' s'∧Vals vs us∧Q vs H'
def SP (X:Cx) (pins:List (Addr×Obj)) (D:Ends) (f:Flow) (s':Shared):Prop:=
 match f with
 | .next=>∃ σ' H',Inv X pins σ' H' s'∧D.nx σ' H'
 | .brk=>∃ σ' H',Inv X pins σ' H' s'∧D.bk σ' H'
 | .cont=>∃ σ' H',Inv X pins σ' H' s'∧D.ct σ' H'
 | .ret u=>∃ v σ' H',Inv X pins σ' H' s'∧RelV v u∧D.rt v H'
def PE (X:Cx) (e:Expr) (t:TE):Prop:=
 ∀ (pins:List (Addr×Obj)) (s:Shared) (σ:St) (H:Hp) (Q:VK),Inv X pins σ H s→t σ H Q→wpAny (model X.prog X.w) X.A (eval e X.env) (EP X pins σ Q) X.xe s
def PT (X:Cx) (e:Expr) (t:TT):Prop:=
 ∀ (pins:List (Addr×Obj)) (s:Shared) (σ:St) (H:Hp) (Q:Bool→Hp→Prop),Inv X pins σ H s→t σ H Q→wpAny (model X.prog X.w) X.A (isTrue e X.env (eval e X.env)) (TP X pins σ Q) X.xe s
def PW (X:Cx) (e:Expr) (t:TT):Prop:=
 ∀ (whole:Sem Value) (pins:List (Addr×Obj)) (s:Shared) (σ:St) (H:Hp) (Q:Bool→Hp→Prop),Inv X pins σ H s→t σ H Q→wpAny (model X.prog X.w) X.A (isTrue e X.env whole) (TP X pins σ Q) X.xe s
theorem PW.pt {X:Cx} {e:Expr} {t:TT} (h:PW X e t):PT X e t:=h _
def PA (X:Cx) (es:List Expr) (t:TA):Prop:=
 ∀ (pos:Pos) (pins:List (Addr×Obj)) (s:Shared) (σ:St) (H:Hp) (Q:List V→Hp→Prop),Inv X pins σ H s→t σ H Q→wpAny (model X.prog X.w) X.A (spliced (backTo pos (starEach es X.env))) (AP X pins σ Q) X.xe s
def PS (X:Cx) (st:Stmt) (t:TS):Prop:=
 ∀ (pins:List (Addr×Obj)) (s:Shared) (σ:St) (H:Hp) (D:Ends),Inv X pins σ H s→t D σ H→wpAny (model X.prog X.w) X.A (exec st X.env) (SP X pins D) X.xe s
def PSs (X:Cx) (st:List Stmt) (t:TS):Prop:=
 ∀ (pins:List (Addr×Obj)) (s:Shared) (σ:St) (H:Hp) (D:Ends),Inv X pins σ H s→t D σ H→wpAny (model X.prog X.w) X.A (execs st X.env) (SP X pins D) X.xe s
theorem thn {α:Type} {t:Sem α} {Q Q':α→Shared→Prop} {M:Model} {A:Around} {E:Value→Shared→Prop} {s:Shared} (h:wpAny M A t Q E s) (hQ:∀ a s,Q a s→Q' a s):wpAny M A t Q' E s:=wpAny_mono h hQ fun _ _ x=>x
end L2
namespace L2
open PySem PySem.Spec PyProof.Rows
section
variable {X:Cx}
theorem bin {a b:Expr} {ta tb:TE} (ha:PE X a ta) (hb:PE X b tb) {pins:List (Addr×Obj)} {s:Shared} {σ:St} {H:Hp} {R:V→V→Hp→Prop} (I:Inv X pins σ H s) (h:ta σ H fun x H1=>tb σ H1 fun y H2=>R x y H2)
  {α:Type} {Q:α→Shared→Prop} {f:Value→Value→Sem α}
  (hf:∀ v u s2 x y H2,Inv X pins σ H2 s2→RelV x v→RelV y u→R x y H2→wpAny (model X.prog X.w) X.A (f v u) Q X.xe s2):
  wpAny (model X.prog X.w) X.A (eval a X.env) (fun v s₁=>wpAny (model X.prog X.w) X.A (eval b X.env) (fun u s₂=>wpAny (model X.prog X.w) X.A (f v u) Q X.xe s₂) X.xe s₁) X.xe s:=by
 refine thn (ha pins s σ H _ I h) fun v s1 ⟨x,H1,I1,r1,q1⟩=>?_
 refine thn (hb pins s1 σ H1 _ I1 q1) fun u s2 ⟨y,H2,I2,r2,q2⟩=>?_
 exact hf v u s2 x y H2 I2 r1 r2 q2
def tVar (i:Nat):TE:=fun σ H Q=>∃ v,σ[i]?=some (some v)∧Q v H
def tC (v:V):TE:=fun _ H Q=>Q v H
theorem pe_var {i:Nat} {x:Str} {pos:Pos} (hN:X.N[i]?=some x) (hv:Vis X.env.scope x) (hd:(x==("__debug__":Str))=false:=by decide) (hcd:(x==("__classdict__":Str))=false:=by decide):PE X (.Name x pos) (tVar i):=by
 intro pins s σ H Q I h
 obtain ⟨v,e,h⟩:=h
 obtain ⟨m,hn,hl⟩:=I.loc
 obtain ⟨u,r,l⟩:=hl i x v hN e hv
 have fin:EP X pins σ Q u s:=⟨v,H,I,r,h⟩
 rcases l with ⟨hk,hm⟩ | ⟨hk,c,hc,hcell⟩
 ·exact wpAny_Name (wpAny_loadName_local I.ok.kind hk hn hm fin) hd
 ·rcases hk with hk | hk
  ·exact wpAny_Name (wpAny_loadName_cell I.ok.kind hk hc hcell fin) hd
  ·exact wpAny_Name (wpAny_loadName_free I.ok.kind hk hc hcell fin hcd) hd
theorem pe_int {i j pos}:PE X (.Constant (.int i) j pos) (tC (.int i)):=fun _ _ _ H _ I h=>wpAny_Constant_int ⟨.int i,H,I.tok _,⟨_,rfl⟩,h⟩
theorem pe_bl {b j pos}:PE X (.Constant (.bool b) j pos) (tC (.bl b)):=fun _ _ _ H _ I h=>Constant_bool ⟨.bl b,H,I,rfl,h⟩
theorem pe_non {j pos}:PE X (.Constant .none j pos) (tC .non):=fun _ _ _ H _ I h=>Constant_none ⟨.non,H,I,rfl,h⟩
theorem pe_str {x j pos}:PE X (.Constant (.str x) j pos) (tC (.str x)):=fun _ _ _ H _ I h=>Calls.Constant_str ⟨.str x,H,I.tok _,⟨_,rfl⟩,h⟩
def Gl (X:Cx) (x:Str):Prop:=X.env.kindOf x=some .globalImplicit
theorem ld_glob {E:Value→Shared→Prop} {pins:List (Addr×Obj)} {s:Shared} {σ:St} {H:Hp} {x:Str} {u:Value} {pos:Pos} {Q:Value→Shared→Prop} (I:Inv X pins σ H s) (hg:Gl X x) (hm:X.mg x=some u) (h:Q u s)
  (hd:(x==("__debug__":Str))=false:=by decide):wpAny (model X.prog X.w) X.A (eval (.Name x pos) X.env) Q E s:=
 Calls.Name_function_global I.ok.kind hg (Calls.loadGlobal_global (by rw [I.ok.glob]; exact I.mod.glob.keeps I.bk) hm h) hd
theorem ld_blt {E:Value→Shared→Prop} {pins:List (Addr×Obj)} {s:Shared} {σ:St} {H:Hp} {x:Str} {u:Value} {pos:Pos} {Q:Value→Shared→Prop} (I:Inv X pins σ H s) (hg:Gl X x) (hm:X.mg x=none) (hv:bootBuiltins x=some u) (h:Q u s)
  (hn:x≠"__name__":=by decide) (hd:(x==("__debug__":Str))=false:=by decide):wpAny (model X.prog X.w) X.A (eval (.Name x pos) X.env) Q E s:=by
 obtain ⟨mb,h1,h2⟩:=I.mod.blt
 exact Calls.Name_function_global I.ok.kind hg (Calls.loadGlobal_builtin (by rw [I.ok.glob]; exact I.mod.glob.keeps I.bk) hm (by rw [I.ok.blt]; exact h1.keeps I.bk) ((h2 x hn).trans hv) h) hd
theorem pe_glob {x:Str} {v:V} {u:Value} {pos:Pos} (hg:Gl X x) (hm:X.mg x=some u) (r:RelV v u) (hd:(x==("__debug__":Str))=false:=by decide):PE X (.Name x pos) (tC v):=
 fun _ _ _ H _ I h=>ld_glob I hg hm ⟨v,H,I,r,h⟩ hd
theorem pe_bltn {x:Str} {v:V} {u:Value} {pos:Pos} (hg:Gl X x) (hm:X.mg x=none) (hv:bootBuiltins x=some u) (r:RelV v u) (hn:x≠"__name__":=by decide) (hd:(x==("__debug__":Str))=false:=by decide):PE X (.Name x pos) (tC v):=
 fun _ _ _ H _ I h=>ld_blt I hg hm hv ⟨v,H,I,r,h⟩ hn hd
variable {a b:Expr} {ta tb:TE} {pos:Pos}
variable {tA tB':TT} {rest:List Expr}
def tAnd (t u:TT):TT:=fun σ H Q=>t σ H fun c H1=>if c=true then u σ H1 Q else Q false H1
def tOr (t u:TT):TT:=fun σ H Q=>t σ H fun c H1=>if c=true then Q true H1 else u σ H1 Q
def tNot (t:TT):TT:=fun σ H Q=>t σ H fun c H1=>Q (!c) H1
theorem pw_and1 (ha:PT X a tA):PW X (.BoolOp .And [a] pos) tA:=by
 intro wh pins s σ H Q I h
 refine isTrue_and (thn (ha pins s σ H Q I h) fun c s1 e=>?_)
 cases c with
 | true=>exact isTrue_and_nil e
 | false=>exact e
theorem pw_or1 (ha:PT X a tA):PW X (.BoolOp .Or [a] pos) tA:=by
 intro wh pins s σ H Q I h
 refine isTrue_or (thn (ha pins s σ H Q I h) fun c s1 e=>?_)
 cases c with
 | false=>exact isTrue_or_nil e
 | true=>exact e
theorem pw_and (ha:PT X a tA) (hb:PW X (.BoolOp .And (b::rest) pos) tB'):PW X (.BoolOp .And (a::b::rest) pos) (tAnd tA tB'):=by
 intro wh pins s σ H Q I h
 refine isTrue_and (thn (ha pins s σ H _ I h) fun c s1 ⟨H1,I1,q1⟩=>?_)
 cases c with
 | true=>exact hb wh pins s1 σ H1 Q I1 q1
 | false=>exact ⟨H1,I1,q1⟩
theorem pw_or (ha:PT X a tA) (hb:PW X (.BoolOp .Or (b::rest) pos) tB'):PW X (.BoolOp .Or (a::b::rest) pos) (tOr tA tB'):=by
 intro wh pins s σ H Q I h
 refine isTrue_or (thn (ha pins s σ H _ I h) fun c s1 ⟨H1,I1,q1⟩=>?_)
 cases c with
 | true=>exact ⟨H1,I1,q1⟩
 | false=>exact hb wh pins s1 σ H1 Q I1 q1
theorem pt_not (ha:PT X a tA):PT X (.UnaryOp .Not a pos) (tNot tA):=by
 intro pins s σ H Q I h
 exact isTrue_not (ha pins s σ H (fun c H1=>Q (!c) H1) I h)
def tAndV (ta tb:TE):TE:=fun σ H Q=>ta σ H fun x H1=>∃ c,x=.bl c∧if c=true then tb σ H1 Q else Q (.bl false) H1
def tOrV (ta tb:TE):TE:=fun σ H Q=>ta σ H fun x H1=>∃ c,x=.bl c∧if c=true then Q (.bl true) H1 else tb σ H1 Q
theorem pe_one {op} {t:TE} (h:PE X a t):PE X (.BoolOp op [a] pos) t:=fun pins s σ H Q I hw=>BoolOp_one (h pins s σ H Q I hw)
theorem pe_and (ha:PE X a ta) (hb:PE X (.BoolOp .And (b::rest) pos) tb):PE X (.BoolOp .And (a::b::rest) pos) (tAndV ta tb):=by
 intro pins s σ H Q I h
 refine BoolOp_and (thn (ha pins s σ H _ I h) fun v s1 ⟨x,H1,I1,r1,q1⟩=>?_)
 obtain ⟨c,rfl,q1⟩:=q1
 cases r1
 refine wpAny_truthy_bool ?_
 cases c with
 | true=>exact hb pins s1 σ H1 Q I1 q1
 | false=>exact ⟨.bl false,H1,I1,rfl,q1⟩
theorem pe_or (ha:PE X a ta) (hb:PE X (.BoolOp .Or (b::rest) pos) tb):PE X (.BoolOp .Or (a::b::rest) pos) (tOrV ta tb):=by
 intro pins s σ H Q I h
 refine BoolOp_or (thn (ha pins s σ H _ I h) fun v s1 ⟨x,H1,I1,r1,q1⟩=>?_)
 obtain ⟨c,rfl,q1⟩:=q1
 cases r1
 refine wpAny_truthy_bool ?_
 cases c with
 | false=>exact hb pins s1 σ H1 Q I1 q1
 | true=>exact ⟨.bl true,H1,I1,rfl,q1⟩
end
end L2
namespace L2
open PySem PySem.Spec PyProof.Rows
def SqL (K:PySem.W.Frag) (H:Hp) (a:Addr) (xs:List V):Prop:=
 Rd H a (.lst xs)∨
  ∃ (o:Obj) (its:Array Value) (n:Nat),K.lookup a=some o∧o.cls=.type "list"∧o.dict=none∧o.data=.seq its n∧its.size≤sizeLine∧Vals xs its.toList
def SqT (K:PySem.W.Frag) (H:Hp) (a:Addr) (xs:List V):Prop:=
 Rd H a (.tup xs)∨
  ∃ (o:Obj) (its:Array Value) (n:Nat),K.lookup a=some o∧o.cls=.type "tuple"∧o.data=.seq its n∧its.size≤sizeLine∧Vals xs its.toList
def absV:Value→Option V
 | .none=>some .non
 | .bool b=>some (.bl b)
 | .int i _=>some (.int i)
 | .str x _=>some (.str x)
 | .bytes b _=>some (.byt b)
 | .float b _=>some (.flt b)
 | .ref a=>some (.ref a)
 | .type n=>some (.ty n)
 | _=>none
theorem RelV.abs {x:V} {u:Value} (r:RelV x u):absV u=some x:=by
 cases x with
 | non=>cases r; rfl
 | bl _=>cases r; rfl
 | int _=>obtain ⟨t,rfl⟩:=r; rfl
 | str _=>obtain ⟨t,rfl⟩:=r; rfl
 | byt _=>obtain ⟨t,rfl⟩:=r; rfl
 | flt _=>obtain ⟨t,rfl⟩:=r; rfl
 | ref _=>cases r; rfl
 | ty _=>cases r; rfl
theorem RelV.inj {x y:V} {u:Value} (r:RelV x u) (q:RelV y u):x=y:=Option.some.inj (r.abs.symm.trans q.abs)
theorem Vals.inj:∀ {xs ys:List V} {us:List Value},Vals xs us→Vals ys us→xs=ys
 | _,_,_,.nil,.nil=>rfl
 | _,_,_,.cons r t,.cons r' t'=>by rw [r.inj r',Vals.inj t t']
section
variable {X:Cx} {pins:List (Addr×Obj)} {σ:St} {H:Hp} {s:Shared} {a:Addr} {xs ys:List V}
theorem SqL.of {K:PySem.W.Frag} (h:H a=some (.lst xs)):SqL K H a xs:=.inl (.inl h)
theorem SqT.of {K:PySem.W.Frag} (h:H a=some (.tup xs)):SqT K H a xs:=.inl (.inl h)
theorem Inv.list (I:Inv X pins σ H s) (h:SqL X.K H a xs):∃ its:List Value,Vals xs its∧PlainL s.heap a its.toArray∧xs.length≤sizeLine:=by
 rcases h with h | ⟨o,its,n,hk,hc,hd,hs,hz,r⟩
 ·obtain ⟨z,its,n,r,e⟩:=h.ok I.hok
  exact ⟨its,r,⟨_,n,e,rfl,rfl,rfl⟩,z⟩
 ·refine ⟨its.toList,r,⟨o,n,I.kIn a o hk,hc,hd,by simpa using hs⟩,?_⟩
  have e:=r.length
  simp only [Array.length_toList] at e
  omega
theorem Inv.tuple (I:Inv X pins σ H s) (h:SqT X.K H a xs):∃ its:List Value,Vals xs its∧IsTup s.heap a its.toArray∧xs.length≤sizeLine:=by
 rcases h with h | ⟨o,its,n,hk,hc,hs,hz,r⟩
 ·obtain ⟨z,its,r,p⟩:=h.ok I.hok
  exact ⟨its,r,p,z⟩
 ·refine ⟨its.toList,r,⟨o,I.kIn a o hk,hc,n,by simpa using hs⟩,?_⟩
  have e:=r.length
  simp only [Array.length_toList] at e
  omega
theorem Inv.list_inj (I:Inv X pins σ H s) (h:SqL X.K H a xs) (h':SqL X.K H a ys):xs=ys:=by
 obtain ⟨its,r,⟨o,n,e,_,_,d⟩,_⟩:=I.list h
 obtain ⟨its',r',⟨o',n',e',_,_,d'⟩,_⟩:=I.list h'
 rw [e] at e'; cases e'
 rw [d] at d'
 injection d' with d1 _
 have:its=its':=by simpa using congrArg Array.toList d1
 subst this
 exact r.inj r'
theorem Inv.tuple_inj (I:Inv X pins σ H s) (h:SqT X.K H a xs) (h':SqT X.K H a ys):xs=ys:=by
 obtain ⟨its,r,⟨o,e,_,n,d⟩,_⟩:=I.tuple h
 obtain ⟨its',r',⟨o',e',_,n',d'⟩,_⟩:=I.tuple h'
 rw [e] at e'; cases e'
 rw [d] at d'
 injection d' with d1 _
 have:its=its':=by simpa using congrArg Array.toList d1
 subst this
 exact r.inj r'
end
abbrev Cx.wish (X:Cx) (E:Value→Shared→Prop):Cx:={ X with xe:=E }
abbrev Cx.nox (X:Cx):Cx:=X.wish fun _ _=>False
theorem Cx.Ok.wish {X:Cx} (ok:X.Ok) (E:Value→Shared→Prop):(X.wish E).Ok:=
 ⟨ok.mod,ok.kind,ok.glob,ok.blt,ok.above,ok.inj,ok.has,ok.cab,ok.hd,ok.frames,ok.stk,ok.exf,ok.bs,ok.bsz,ok.noex,ok.exfs,ok.funs,ok.frf⟩
theorem Cx.Ok.unwish {X:Cx} {E:Value→Shared→Prop} (ok:(X.wish E).Ok):X.Ok:=
 ⟨ok.mod,ok.kind,ok.glob,ok.blt,ok.above,ok.inj,ok.has,ok.cab,ok.hd,ok.frames,ok.stk,ok.exf,ok.bs,ok.bsz,ok.noex,ok.exfs,ok.funs,ok.frf⟩
section
variable {X:Cx} {pins:List (Addr×Obj)} {σ:St} {H:Hp} {s:Shared} {E:Value→Shared→Prop}
theorem Inv.wish (I:Inv X pins σ H s) (E:Value→Shared→Prop):Inv (X.wish E) pins σ H s:=⟨I.ok.wish E,I.os,I.bare,I.base,I.loc,I.cell,I.free,I.freeC,I.pin,I.hok,I.len⟩
theorem Inv.unwish (I:Inv (X.wish E) pins σ H s):Inv X pins σ H s:=⟨I.ok.unwish,I.os,I.bare,I.base,I.loc,I.cell,I.free,I.freeC,I.pin,I.hok,I.len⟩
theorem SP.unwish {D:Ends} {f:Flow} {s':Shared} (h:SP (X.wish E) pins D f s'):SP X pins D f s':=by
 cases f with
 | next=>obtain ⟨σ',H',I,q⟩:=h; exact ⟨σ',H',I.unwish,q⟩
 | brk=>obtain ⟨σ',H',I,q⟩:=h; exact ⟨σ',H',I.unwish,q⟩
 | cont=>obtain ⟨σ',H',I,q⟩:=h; exact ⟨σ',H',I.unwish,q⟩
 | ret u=>obtain ⟨v,σ',H',I,r,q⟩:=h; exact ⟨v,σ',H',I.unwish,r,q⟩
theorem PSs.nox {st:List Stmt} {t:TS} (h:PSs X.nox st t):PSs X st t:=fun pins s σ H D I hw=>
 wpAny_mono (h pins s σ H D (I.wish _) hw) (fun _ _ q=>q.unwish) fun _ _ z=>False.elim z
end
section
variable {X:Cx} {st:Stmt} {rest:List Stmt} {t u:TS} {e:Expr} {te:TE} {pos:Pos}
def tNext:TS:=fun D σ H=>D.nx σ H
def tSeq (t u:TS):TS:=fun D σ H=>t { D with nx:=u D } σ H
theorem pss_nil:PSs X [] tNext:=fun _ _ σ H _ I h=>wpAny_execs_nil ⟨σ,H,I,h⟩
theorem pss_cons (h1:PS X st t) (h2:PSs X rest u):PSs X (st::rest) (tSeq t u):=by
 intro pins s σ H D I h
 refine wpAny_execs_cons (thn (h1 pins s σ H { D with nx:=u D } I h) fun f s1 q=>?_)
 cases f with
 | next=>
  obtain ⟨σ',H',I',q⟩:=q
  exact h2 pins s1 σ' H' D I' q
 | ret v=>exact q
 | brk=>exact q
 | cont=>exact q
def tBreak:TS:=fun D σ H=>D.bk σ H
def tCont:TS:=fun D σ H=>D.ct σ H
theorem ps_pass:PS X (.Pass pos) tNext:=fun _ _ σ H _ I h=>wpAny_Pass ⟨σ,H,I,h⟩
theorem ps_break:PS X (.Break pos) tBreak:=fun _ _ σ H _ I h=>wpAny_Break ⟨σ,H,I,h⟩
theorem ps_continue:PS X (.Continue pos) tCont:=fun _ _ σ H _ I h=>wpAny_Continue ⟨σ,H,I,h⟩
theorem Inv.quiet {pins:List (Addr×Obj)} {σ:St} {H:Hp} {s:Shared} (I:Inv X pins σ H s):interactive X.env=false:=by simp [interactive,I.ok.kind]
def tDrop (te:TE):TS:=fun D σ H=>te σ H fun _ H1=>D.nx σ H1
theorem ps_expr (he:PE X e te) (hs:swapsWith e none pos.line X.env=pure false:=by rfl):PS X (.Expr e pos) (tDrop te):=by
 intro pins s σ H D I h
 exact wpAny_Expr_any (thn (he pins s σ H _ I h) fun v s1 ⟨x,H1,I1,r1,q1⟩=>⟨σ,H1,I1,q1⟩) I.quiet hs
def tRet (te:TE):TS:=fun D σ H=>te σ H D.rt
theorem ps_ret (he:PE X e te):PS X (.Return (some e) pos) (tRet te):=by
 intro pins s σ H D I h
 exact wpAny_Return_some (thn (he pins s σ H _ I h) fun v s1 ⟨x,H1,I1,r1,q1⟩=>⟨x,σ,H1,I1,r1,q1⟩)
def tRetN:TS:=fun D _ H=>D.rt .non H
theorem ps_retN:PS X (.Return none pos) tRetN:=fun _ _ σ H _ I h=>wpAny_Return_none ⟨.non,σ,H,I,rfl,h⟩
def tIfS (c:TT) (t u:TS):TS:=fun D σ H=>c σ H fun b H1=>if b=true then t D σ H1 else u D σ H1
theorem ps_if {c:Expr} {a b:List Stmt} {tc:TT} (hc:PT X c tc) (ha:PSs X a t) (hb:PSs X b u):PS X (.If c a b pos) (tIfS tc t u):=by
 intro pins s σ H D I h
 refine wpAny_If (thn (hc pins s σ H _ I h) fun d s1 ⟨H1,I1,q1⟩=>?_)
 cases d with
 | true=>exact ha pins s1 σ H1 D I1 q1
 | false=>exact hb pins s1 σ H1 D I1 q1
def tNever:TS:=fun _ _ _=>False
theorem ps_never:PS X st tNever:=fun _ _ _ _ _ _ h=>h.elim
end
abbrev TG:=V→St→Hp→(St→Hp→Prop)→Prop
abbrev TGs:=List V→St→Hp→(St→Hp→Prop)→Prop
def PG (X:Cx) (target:Expr) (t:TG):Prop:=
 ∀ (pins:List (Addr×Obj)) (s:Shared) (σ:St) (H:Hp) (v:V) (u:Value) (Q:St→Hp→Prop),Inv X pins σ H s→RelV v u→t v σ H Q→
  wpAny (model X.prog X.w) X.A (assign target X.env u) (fun _ s'=>∃ σ' H',Inv X pins σ' H' s'∧Q σ' H') X.xe s
def PGs (X:Cx) (ts:List Expr) (t:TGs):Prop:=
 ∀ (pins:List (Addr×Obj)) (s:Shared) (σ:St) (H:Hp) (vs:List V) (us:List Value) (Q:St→Hp→Prop),Inv X pins σ H s→Vals vs us→t vs σ H Q→
  wpAny (model X.prog X.w) X.A (assignInOrder ((assignEach ts X.env).map (·.2)) us) (fun _ s'=>∃ σ' H',Inv X pins σ' H' s'∧Q σ' H') X.xe s
abbrev TSet:=V→V→V→Hp→(Hp→Prop)→Prop
def PSet (X:Cx) (t:TSet):Prop:=
 ∀ (pins:List (Addr×Obj)) (s:Shared) (σ:St) (H:Hp) (o i v:V) (ov iv u:Value) (Q:Hp→Prop),Inv X pins σ H s→RelV o ov→RelV i iv→RelV v u→t o i v H Q→
  wpAny (model X.prog X.w) X.A (setItem ov iv u) (fun _ s'=>∃ H',Inv X pins σ H' s'∧Q H') X.xe s
abbrev TIp:=V→V→Hp→VK→Prop
def PIp (X:Cx) (op:Operator) (t:TIp):Prop:=
 ∀ (pins:List (Addr×Obj)) (s:Shared) (σ:St) (H:Hp) (x y:V) (v u:Value) (Q:VK),Inv X pins σ H s→RelV x v→RelV y u→t x y H Q→
  wpAny (model X.prog X.w) X.A (inplaceOp op v u) (EP X pins σ Q) X.xe s
section
variable {X:Cx} {pos:Pos}
def gName (i:Nat):TG:=fun v σ H Q=>Q (σ.set i (some v)) H
theorem pg_name {i:Nat} {x:Str} (hN:X.N.Nodup) (hi:X.N[i]?=some x) (hx:Loc X.env.scope x) (hf:X.fn x=true∨X.env.scope.names.lookup x=some .local:=by first | exact .inl rfl | exact .inr rfl | assumption):PG X (.Name x pos) (gName i):=by
 intro pins s σ H v u Q I r h
 exact wpAny_assign_Name (store_ok I hN hi hx r (fun s' I'=>⟨_,H,I',h⟩) hf)
def gNil:TGs:=fun vs σ H Q=>vs=[]∧Q σ H
def gCons (t:TG) (u:TGs):TGs:=fun vs σ H Q=>∃ v r,vs=v::r∧t v σ H fun σ' H'=>u r σ' H' Q
theorem pgs_nil:PGs X [] gNil:=by
 intro pins s σ H vs us Q I r h
 obtain ⟨e,h⟩:=h
 subst e
 cases r
 exact assignInOrder_nil ⟨σ,H,I,h⟩
theorem pgs_cons {e:Expr} {es:List Expr} {t:TG} {u:TGs} (h1:PG X e t) (h2:PGs X es u)
  (hs:(assignEach (e::es) X.env).map (·.2)=assign e X.env::(assignEach es X.env).map (·.2):=by rfl):PGs X (e::es) (gCons t u):=by
 intro pins s σ H vs us Q I r h
 obtain ⟨v,vr,e1,h⟩:=h
 subst e1
 cases r with
 | cons r rr=>
  rw [hs]
  refine assignInOrder_cons (thn (h1 pins s σ H _ _ _ I r h) fun _ s1 ⟨σ1,H1,I1,q1⟩=>?_)
  exact h2 pins s1 σ1 H1 _ _ Q I1 rr q1
def gTup (K:PySem.W.Frag) (n:Nat) (t:TGs):TG:=fun v σ H Q=>∃ a xs,v=.ref a∧SqT K H a xs∧xs.length=n∧t xs σ H Q
theorem pg_tup {es:List Expr} {k:Nat} {t:TGs} {n:Nat} (hc:X.calm=true) (h:PGs X es t)
  (hn:(assignEach es X.env).length=n:=by rfl) (hst:(assignEach es X.env).findIdx? (·.1)=none:=by rfl):PG X (.Tuple es k pos) (gTup X.K n t):=by
 intro pins s σ H v u Q I r hw
 obtain ⟨a,xs,e1,hq,hl,hw⟩:=hw
 subst e1
 cases r
 obtain ⟨its,rv,ht,hz⟩:=I.tuple hq
 refine assign_Tuple_tuple (I.ok.hd hc) ht (by simp [hn,← hl,rv.length]) hst fun h' hx=>?_
 have I1:Inv X pins σ H { s with heap:=h' }:=I.kept (t':=s.toks) fun b o e=>hx b o (Nat.ne_of_lt (Heap.lt_size e)) e
 exact h pins _ σ H xs _ Q I1 (by simpa using rv) hw
def gSub (to ti:TE) (t:TSet):TG:=fun v σ H Q=>to σ H fun o H1=>ti σ H1 fun i H2=>t o i v H2 fun H3=>Q σ H3
theorem pg_sub {o i:Expr} {to ti:TE} {t:TSet} (ho:PE X o to) (hi:PE X i ti) (hs:PSet X t)
  (ha:∀ v,assign (.Subscript o i pos) X.env v=(do
   let ov ← holding [v] (eval o X.env)
   let iv ← holding [v,ov] (eval i X.env)
   standAt pos
   holding [v,ov,iv] (setItem ov iv v)
   release [v,ov,iv] []):=by intro _; rfl):PG X (.Subscript o i pos) (gSub to ti t):=by
 intro pins s σ H v u Q I r h
 rw [ha]
 refine wpAny_bind (wpAny_holding (thn (ho pins s σ H _ I h) fun ov s1 ⟨x,H1,I1,r1,q1⟩=>?_))
 refine wpAny_bind (wpAny_holding (thn (hi pins s1 σ H1 _ I1 q1) fun iv s2 ⟨y,H2,I2,r2,q2⟩=>?_))
 refine wpAny_bind (wpAny_standAt (wpAny_bind (wpAny_holding (thn (hs pins s2 σ H2 x y v ov iv u _ I2 r1 r2 r q2) fun _ s3 ⟨H3,I3,q3⟩=>?_))))
 exact wpAny_release ⟨σ,H3,I3,q3⟩
def tAsg (te:TE) (g:TG):TS:=fun D σ H=>te σ H fun x H1=>g x σ H1 D.nx
theorem ps_asg {tg e:Expr} {te:TE} {g:TG} (he:PE X e te) (hg:PG X tg g) (hs:swapsWithSole [tg] e pos.line X.env=pure false:=by rfl) (hw:swappedStores [tg] e X.env=pure none:=by rfl)
  (h1:(assignEach [tg] X.env).map (·.2)=[assign tg X.env]:=by rfl):PS X (.Assign [tg] e pos) (tAsg te g):=by
 intro pins s σ H D I h
 refine wpAny_Assign_stores (thn (he pins s σ H _ I h) fun v s1 ⟨x,H1,I1,r1,q1⟩=>?_) hs hw
 rw [h1]
 exact thn (hg pins s1 σ H1 x v _ I1 r1 q1) fun _ s2 q=>q
theorem ps_set {i:Nat} {x:Str} {e:Expr} {te:TE} {pos':Pos} (hN:X.N.Nodup) (hi:X.N[i]?=some x) (hx:Loc X.env.scope x) (he:PE X e te) (hs:swapsWith e (some (.Name x pos')) pos.line X.env=pure false:=by rfl) (hf:X.fn x=true∨X.env.scope.names.lookup x=some .local:=by first | exact .inl rfl | exact .inr rfl | assumption):
  PS X (.Assign [.Name x pos'] e pos) (tAsg te (gName i)):=by
 intro pins s σ H D I h
 refine wpAny_Assign_Name (thn (he pins s σ H _ I h) fun v s1 ⟨y,H1,I1,r1,q1⟩=>?_) hs
 exact store_ok I1 hN hi hx r1 (fun s2 I2=>⟨_,H1,I2,q1⟩) hf
def tAug (i:Nat) (te:TE) (ti:TIp):TS:=fun D σ H=>∃ x,σ[i]?=some (some x)∧te σ H fun y H1=>ti x y H1 fun z H2=>D.nx (σ.set i (some z)) H2
theorem ps_aug {i:Nat} {x:Str} {e:Expr} {te:TE} {op:Operator} {ti:TIp} {pos':Pos} (hN:X.N.Nodup) (hi:X.N[i]?=some x) (hx:Loc X.env.scope x) (he:PE X e te) (ho:PIp X op ti) (hf:X.fn x=true∨X.env.scope.names.lookup x=some .local:=by first | exact .inl rfl | exact .inr rfl | assumption):
  PS X (.AugAssign (.Name x pos') op e pos) (tAug i te ti):=by
 intro pins s σ H D I h
 obtain ⟨v,e1,h⟩:=h
 obtain ⟨m,hn,hl⟩:=I.loc
 have vis:Vis X.env.scope x:=by rcases hx with k | k; exact .inl k; exact .inr (.inl k)
 obtain ⟨u,r,l⟩:=hl i x v hi e1 vis
 refine wpAny_AugAssign_Name ?_
 have go:wpAny (model X.prog X.w) X.A (eval e X.env) (fun w s₂=>wpAny (model X.prog X.w) X.A (inplaceOp op u w) (fun r s₃=>wpAny (model X.prog X.w) X.A (storeName X.env x r) (fun _=>SP X pins D .next) X.xe s₃) X.xe s₂) X.xe s:=by
  refine thn (he pins s σ H _ I h) fun w s1 ⟨y,H1,I1,r1,q1⟩=>?_
  refine thn (ho pins s1 σ H1 v y u w _ I1 r r1 q1) fun z s2 ⟨zv,H2,I2,r2,q2⟩=>?_
  exact store_ok I2 hN hi hx r2 (fun s3 I3=>⟨_,H2,I3,q2⟩) hf
 rcases l with ⟨hk,hm⟩ | ⟨hk,c,hc,hcell⟩
 ·exact wpAny_loadName_local I.ok.kind hk hn hm go
 ·rcases hk with hk | hk
  ·exact wpAny_loadName_cell I.ok.kind hk hc hcell go
  ·rcases hx with k | k
   ·have:X.env.scope.names.lookup x=some .free:=hk
    rw [k] at this; cases this
   ·have:X.env.scope.names.lookup x=some .free:=hk
    rw [k] at this; cases this
end
section
variable {X:Cx} {pos:Pos}
end
structure It where
 go:Nat→Hp→Prop
 yld:Nat→Hp→V→Hp→Prop
 stop:Nat→Hp→Prop
def FpOk (X:Cx) (pins:List (Addr×Obj)) (H:Hp) (b:Addr):Prop:=
 H b=none∧b≠X.env.locals∧b∉X.fs∧(b∈X.ex∨X.s₀.heap.objs.size≤b)∧(∀ x c,X.env.cells.lookup x=some c→c≠b)∧∀ p∈X.pn ++ pins,p.1≠b
theorem Inv.fpOk {X:Cx} {pins:List (Addr×Obj)} {σ:St} {H H':Hp} {s:Shared} {b:Addr} (I:Inv X pins σ H s) (hb:s.heap.objs.size≤b) (hn:H' b=none):FpOk X pins H' b:=by
 refine ⟨hn,Nat.ne_of_gt (Nat.lt_of_lt_of_le I.lt hb),I.nofs hb,.inr (Nat.le_trans I.sz hb),fun x c e z=>?_,fun p hp z=>?_⟩
 ·obtain ⟨v,q⟩:=I.cell x c e
  exact absurd (Nat.lt_of_lt_of_le q.lt (by rw [z]; exact hb)) (Nat.lt_irrefl _)
 ·exact absurd (Nat.lt_of_lt_of_le (Heap.lt_size (I.pin p hp).1) (by rw [z]; exact hb)) (Nat.lt_irrefl _)
structure Turn (P:Program) (w:World) (K:PySem.W.Frag) (tg:Expr) (J:It) (fp:List Addr) (it:Addr) (tn:Nat→Heap→Prop):Prop where
 mem:it∈fp
 obj:∀ i h,tn i h→∀ b∈fp,∃ o,h.get? b=some o∧∀ v,o.data≠.cell v
 keep:∀ i h h',tn i h→(∀ b∈fp,∀ o,h.get? b=some o→h'.get? b=some o)→tn i h'
 item:∀ (X:Cx),X.prog=P→X.w=w→X.K=K→X.calm=true→∀ (i:Nat) (pins:List (Addr×Obj)) (s:Shared) (σ:St) (H:Hp) (E:Value→Shared→Prop),Inv X pins σ H s→(∀ b∈fp,FpOk X pins H b)→tn i s.heap→J.go i H→
  wpAny (model P w) X.A (pyNext (.ref it)) (fun r s1=>∃ u,r=some u∧
   wpAny (model P w) X.A (letOwnedTupleGo tg (.ref it) u) (fun _ s2=>∃ x H',Inv X pins σ H' s2∧RelV x u∧J.yld i H x H'∧tn (i + 1) s2.heap∧∀ b∈fp,H' b=none) E s1) E s
 done:∀ (X:Cx),X.prog=P→X.w=w→X.K=K→X.calm=true→∀ (i:Nat) (pins:List (Addr×Obj)) (s:Shared) (σ:St) (H:Hp) (E:Value→Shared→Prop),Inv X pins σ H s→(∀ b∈fp,FpOk X pins H b)→tn i s.heap→J.stop i H→
  wpAny (model P w) X.A (pyNext (.ref it)) (fun r s1=>r=none∧Inv X pins σ H s1) E s
 self:∀ (A:Around) (i:Nat) (s:Shared) (Q:Value→Shared→Prop) (E:Value→Shared→Prop),tn i s.heap→Q (.ref it) s→wpAny (model P w) A (pyIter (.ref it)) Q E s
abbrev TI:=St→Hp→(It→Hp→Prop)→Prop
def PIE (X:Cx) (pins:List (Addr×Obj)) (σ:St) (tg:Expr) (R:It→Hp→Prop) (itv:Value) (s2:Shared):Prop:=
 ∃ (it:Addr) (fp:List Addr) (tn:Nat→Heap→Prop) (J:It) (H':Hp),itv=.ref it∧Inv X pins σ H' s2∧Turn X.prog X.w X.K tg J fp it tn∧tn 0 s2.heap∧(∀ b∈fp,FpOk X pins H' b)∧R J H'
def PI (X:Cx) (tg iter:Expr) (wi:TI):Prop:=
 ∀ (pins:List (Addr×Obj)) (s:Shared) (σ:St) (H:Hp) (R:It→Hp→Prop),Inv X pins σ H s→wi σ H R→
  wpAny (model X.prog X.w) X.A (eval iter X.env) (fun v s1=>wpAny (model X.prog X.w) X.A (pyIter v) (PIE X pins σ tg R) X.xe s1) X.xe s
theorem go_of {M:Model} {A:Around} {E:Value→Shared→Prop} {s:Shared} {tg:Expr} {it:Addr} {u:Value} {o:Obj} {n:String} {vs:Array Value} {Q:Unit→Shared→Prop} (ho:s.heap.get? it=some o) (hc:o.cls=.type n) (hd:o.data=.fields vs)
  (hn:["enumerate","zip","dict_itemiterator","dict_reverseitemiterator","odict_iterator","itertools.zip_longest","itertools.pairwise"].contains n=false) (hQ:Q () s):wpAny M A (letOwnedTupleGo tg (.ref it) u) Q E s:=by
 unfold letOwnedTupleGo
 cases tg <;> first
  | exact wpAny_pure hQ
  | (cases u <;> first
    | exact wpAny_pure hQ
    | (refine wpAny_bind (wpAny_load ho ?_)
       rw [hc,hd]
       show wpAny M A (if (["enumerate","zip","dict_itemiterator","dict_reverseitemiterator","odict_iterator","itertools.zip_longest","itertools.pairwise"].contains n && vs[0]?==some (rawInt _))=true then _ else _) Q E s
       rw [if_neg (by intro h; rw [hn,Bool.false_and] at h; cases h)]
       exact wpAny_pure hQ))
def Itl (K:PySem.W.Frag) (a:Addr):It:=
 ⟨fun i H=>∃ xs x,SqL K H a xs∧xs[i]?=some x,fun i H x H'=>H'=H∧∀ xs,SqL K H a xs→xs[i]?=some x,fun i H=>∃ xs,SqL K H a xs∧xs.length≤i⟩
def Itt (K:PySem.W.Frag) (a:Addr):It:=
 ⟨fun i H=>∃ xs x,SqT K H a xs∧xs[i]?=some x,fun i H x H'=>H'=H∧∀ xs,SqT K H a xs→xs[i]?=some x,fun i H=>∃ xs,SqT K H a xs∧xs.length≤i⟩
def Itr (lo:Int) (n:Nat):It:=⟨fun i _=>i < n,fun i H x H'=>H'=H∧x=.int (lo + i),fun i _=>n≤i⟩
theorem turn_list {P:Program} {w:World} {K:PySem.W.Frag} {tg:Expr} (a it:Addr):Turn P w K tg (Itl K a) [it] it (fun i h=>h.IsListIter it a i) where
 mem:=by simp
 obj:=fun i h st b hb=>by
  have e:b=it:=by simpa using hb
  subst e
  obtain ⟨o,e,c,d⟩:=st
  exact ⟨o,e,fun v z=>by rw [d] at z; cases z⟩
 keep:=fun i h h' st k=>st.at fun o e=>k it (by simp) o e
 item:=by
  intro X hP hw hK hc i pins s σ H E I hf st hg
  subst hP hw hK
  obtain ⟨xs,x,hq,hx⟩:=hg
  obtain ⟨its,rv,p,hz⟩:=I.list hq
  obtain ⟨u,hu,ru⟩:=rv.get hx
  obtain ⟨f0,f1,f2,f3,f4,f5⟩:=hf it (by simp)
  refine wpAny_pyNext_list_item st p.isList (x:=u) (by simpa using hu) fun h' st' sb=>?_
  have I1:Inv X pins σ H { s with heap:=h' }:=I.turned (t':=s.toks) (fun b o hb e=>(sb.2 b hb).trans e) f0 f1 f3 f4 f5
  obtain ⟨o,e,c,d⟩:=id st'
  exact ⟨u,rfl,go_of (s:={ s with heap:=h' }) e c d (by decide) ⟨x,H,I1,ru,⟨rfl,fun ys hy=>by rw [I.list_inj hy hq]; exact hx⟩,st',fun b hb=>(hf b hb).1⟩⟩
 done:=by
  intro X hP hw hK hc i pins s σ H E I hf st hg
  subst hP hw hK
  obtain ⟨xs,hq,hx⟩:=hg
  obtain ⟨its,rv,p,hz⟩:=I.list hq
  obtain ⟨f0,f1,f2,f3,f4,f5⟩:=hf it (by simp)
  have hl:=rv.length
  exact wpAny_pyNext_list_end (I.ok.hd hc) st p.isList (by simp; omega) fun h' eb=>⟨rfl,I.turned (t':=s.toks) (fun b o hb e=>eb b o hb e) f0 f1 f3 f4 f5⟩
 self:=fun _ _ _ _ _ st h=>wpAny_pyIter_listiter st h
theorem turn_tuple {P:Program} {w:World} {K:PySem.W.Frag} {tg:Expr} (a it:Addr):Turn P w K tg (Itt K a) [it] it (fun i h=>h.IsTupleIter it a i) where
 mem:=by simp
 obj:=fun i h st b hb=>by
  have e:b=it:=by simpa using hb
  subst e
  obtain ⟨o,e,c,d⟩:=st
  exact ⟨o,e,fun v z=>by rw [d] at z; cases z⟩
 keep:=fun i h h' st k=>st.at fun o e=>k it (by simp) o e
 item:=by
  intro X hP hw hK hc i pins s σ H E I hf st hg
  subst hP hw hK
  obtain ⟨xs,x,hq,hx⟩:=hg
  obtain ⟨its,rv,p,hz⟩:=I.tuple hq
  obtain ⟨u,hu,ru⟩:=rv.get hx
  obtain ⟨f0,f1,f2,f3,f4,f5⟩:=hf it (by simp)
  refine wpAny_pyNext_tuple_item st (show s.heap.IsTuple a its.toArray from p) (x:=u) (by simpa using hu) fun h' st' sb=>?_
  have I1:Inv X pins σ H { s with heap:=h' }:=I.turned (t':=s.toks) (fun b o hb e=>(sb.2 b hb).trans e) f0 f1 f3 f4 f5
  obtain ⟨o,e,c,d⟩:=id st'
  exact ⟨u,rfl,go_of (s:={ s with heap:=h' }) e c d (by decide) ⟨x,H,I1,ru,⟨rfl,fun ys hy=>by rw [I.tuple_inj hy hq]; exact hx⟩,st',fun b hb=>(hf b hb).1⟩⟩
 done:=by
  intro X hP hw hK hc i pins s σ H E I hf st hg
  subst hP hw hK
  obtain ⟨xs,hq,hx⟩:=hg
  obtain ⟨its,rv,p,hz⟩:=I.tuple hq
  obtain ⟨f0,f1,f2,f3,f4,f5⟩:=hf it (by simp)
  have hl:=rv.length
  exact wpAny_pyNext_tuple_end (I.ok.hd hc) st (show s.heap.IsTuple a its.toArray from p) (by simp; omega) fun h' eb=>⟨rfl,I.turned (t':=s.toks) (fun b o hb e=>eb b o hb e) f0 f1 f3 f4 f5⟩
 self:=fun _ _ _ _ _ st h=>wpAny_pyIter_tupleiter st h
theorem turn_range {P:Program} {w:World} {K:PySem.W.Frag} {tg:Expr} (it:Addr) (lo:Int) (n:Nat):Turn P w K tg (Itr lo n) [it] it (fun i h=>IsRangeIter h it (lo + (i:Nat) * 1) ((n:Int) - (i:Nat)) 1) where
 mem:=by simp
 obj:=fun i h st b hb=>by
  have e:b=it:=by simpa using hb
  subst e
  exact ⟨_,st,fun v z=>by
   have z':Data.fields _=Data.cell v:=z
   cases z'⟩
 keep:=fun i h h' st k=>k it (by simp) _ st
 item:=by
  intro X hP hw hK hc i pins s σ H E I hf st hg
  subst hP hw hK
  obtain ⟨f0,f1,f2,f3,f4,f5⟩:=hf it (by simp)
  have W:=Walks.range (prog:=X.prog) (w:=X.w) (I.ok.hd hc) it lo 1 n
  refine W.item i s _ _ hg st fun v h' tk hv st' kk=>?_
  obtain ⟨t,rfl⟩:=hv
  have I1:Inv X pins σ H { s with heap:=h',toks:=tk }:=I.turned (fun b o hb e=>kk b o (by simpa using hb) e) f0 f1 f3 f4 f5
  refine ⟨_,rfl,go_of (s:={ s with heap:=h',toks:=tk }) (n:="range_iterator") st' rfl rfl (by decide) ⟨.int (lo + i),H,I1,⟨t,?_⟩,⟨rfl,rfl⟩,st',fun b hb=>(hf b hb).1⟩⟩
  rw [Int.mul_one]
 done:=by
  intro X hP hw hK hc i pins s σ H E I hf st hg
  subst hP hw hK
  obtain ⟨f0,f1,f2,f3,f4,f5⟩:=hf it (by simp)
  exact wpAny_pyNext_range_end (I.ok.hd hc) st (by have:n≤i:=hg; omega) fun h' eb=>⟨rfl,I.turned (t':=s.toks) (fun b o hb e=>eb b o hb e) f0 f1 f3 f4 f5⟩
 self:=fun _ _ _ _ _ st h=>wpAny_pyIter_rangeiter st h
end L2
namespace L2
open PySem PySem.Spec PyProof.Rows
section
variable {X:Cx} {tg:Expr}
theorem range_it {pins:List (Addr×Obj)} {σ:St} {H:Hp} {s:Shared} {R:It→Hp→Prop} {E:Value→Shared→Prop} {lo hi:Int} {t u v:Tok} {tk:Nat} (I:Inv X pins σ H s) (h1:-(2 ^ 62)≤lo) (h2:lo < 2 ^ 62) (h3:-(2 ^ 62)≤hi) (h4:hi < 2 ^ 62)
  (q:R (Itr lo (hi - lo).toNat) H):wpAny (model X.prog X.w) X.A (pyIter (.ref s.heap.objs.size)) (PIE X pins σ tg R) E { s with heap:=s.heap.push { cls:=.type "range",data:=.fields #[.int lo t,.int hi u,.int 1 v] },toks:=tk }:=by
 refine wpAny_pyIter_range (IsRange.new ..) (small_one h1 h2 h3 h4) ?_
 have I1:Inv X pins σ H { s with heap:=s.heap.push { cls:=.type "range",data:=.fields #[.int lo t,.int hi u,.int 1 v] },toks:=tk }:=I.kept fun b o e=>Heap.get?_push_of_some _ e
 refine ⟨(s.heap.push { cls:=.type "range",data:=.fields #[.int lo t,.int hi u,.int 1 v] }).objs.size,[(s.heap.push { cls:=.type "range",data:=.fields #[.int lo t,.int hi u,.int 1 v] }).objs.size],_,_,H,rfl,
  I1.kept (t':=tk) fun b o e=>Heap.get?_push_of_some _ e,turn_range _ lo (hi - lo).toNat,?_,fun b hb=>?_,q⟩
 ·have e1:lo + ((0:Nat):Int) * 1=lo:=by simp
  have e2:(((hi - lo).toNat:Nat):Int) - ((0:Nat):Int)=Builtin.Range.rangeSize lo hi 1:=by rw [rangeSize_one]; split <;> omega
  show IsRangeIter _ _ (lo + ((0:Nat):Int) * 1) ((((hi - lo).toNat:Nat):Int) - ((0:Nat):Int)) 1
  rw [e1,e2]
  exact Heap.get?_push_size _ rfl
 ·have e:b=(s.heap.push { cls:=.type "range",data:=.fields #[.int lo t,.int hi u,.int 1 v] }).objs.size:=by simpa using hb
  subst e
  exact I1.fpOk (Nat.le_refl _) (I1.hok.fresh (Nat.le_refl _))
def iRng1 (ta:TA):TI:=fun σ H R=>ta σ H fun vs H1=>∃ j:Int,vs=[.int j]∧-(2 ^ 62)≤j∧j < 2 ^ 62∧R (Itr 0 j.toNat) H1
theorem pi_range1 {a:Expr} {ta:TA} {p pos:Pos} (hg:Gl X "range") (hm:X.mg "range"=none) (ha:PA X [a] ta) (hs:starEach [a] X.env=[(false,eval a X.env)]:=by rfl):PI X tg (.Call (.Name "range" p) [a] [] pos) (iRng1 ta):=by
 intro pins s σ H R I h
 refine Call_ (ld_blt I hg hm boot_range (PyProof.Rows.callWith_type1 (thn (ha pos pins s σ H _ I h) fun us s1 ⟨vs,H1,I1,r1,q1⟩=>?_) hs rfl))
 obtain ⟨j,e,q1,q2,q⟩:=q1
 subst e
 cases r1 with
 | cons r rr=>
  cases rr
  obtain ⟨t,rfl⟩:=r
  exact call_range_1 (range_it I1 (by omega) (by omega) q1 q2 (by simpa using q))
def tFor (wi:TI) (g:TG) (tb:TS):TS:=fun D σ H=>wi σ H fun J H1=>∃ W:Nat→Nat→St→Hp→Prop,(∃ m,W 0 m σ H1)∧∀ i m σ H,W i m σ H→
 (J.stop i H∧D.nx σ H)∨(J.go i H∧∃ N:St→Hp→Prop,(∀ σ' H',N σ' H'→∃ m',m' < m∧W (i + 1) m' σ' H')∧∀ x H',J.yld i H x H'→g x σ H' fun σ2 H2=>tb { D with nx:=N,ct:=N,bk:=D.nx } σ2 H2)
def pinsAt (fp:List Addr) (h:Heap):List (Addr×Obj):=fp.filterMap fun b=>(h.get? b).map fun o=>(b,o)
theorem mem_pinsAt {fp:List Addr} {h:Heap} {b:Addr} {o:Obj} (hb:b∈fp) (e:h.get? b=some o):(b,o)∈pinsAt fp h:=List.mem_filterMap.mpr ⟨b,hb,by rw [e]; rfl⟩
theorem of_pinsAt {fp:List Addr} {h:Heap} {p:Addr×Obj} (hp:p∈pinsAt fp h):p.1∈fp∧h.get? p.1=some p.2:=by
 obtain ⟨b,hb,e⟩:=List.mem_filterMap.mp hp
 cases q:h.get? b with
 | none=>rw [q] at e; cases e
 | some o=>
  rw [q] at e
  have e':(b,o)=p:=Option.some.inj e
  subst e'
  exact ⟨hb,q⟩
theorem Inv.pinned {pins:List (Addr×Obj)} {σ:St} {H:Hp} {s:Shared} {fp:List Addr} (I:Inv X pins σ H s) (hf:∀ b∈fp,FpOk X pins H b) (ho:∀ b∈fp,∃ o,s.heap.get? b=some o∧∀ v,o.data≠.cell v):Inv X (pins ++ pinsAt fp s.heap) σ H s:=
 I.pins_of fun p hp=>(List.mem_append.mp hp).elim (fun z=>I.pin p (List.mem_append_right _ z)) fun z=>by
  obtain ⟨hb,e⟩:=of_pinsAt z
  obtain ⟨f0,f1,f2,_⟩:=hf p.1 hb
  obtain ⟨o,e',d⟩:=ho p.1 hb
  rw [e] at e'; cases e'
  exact ⟨e,f0,f1,f2,d⟩
theorem Inv.unpinned {pins pl:List (Addr×Obj)} {σ:St} {H:Hp} {s:Shared} (I:Inv X (pins ++ pl) σ H s):Inv X pins σ H s:=I.pins_of fun p hp=>I.pin p (List.mem_append_right _ (List.mem_append_left _ hp))
theorem ps_for {iter:Expr} {body:List Stmt} {wi:TI} {g:TG} {tb:TS} {pos:Pos} (hp:PassesOwn (model X.prog X.w) X.A X.env X.xe) (hc:X.calm=true) (hi:PI X tg iter wi) (hg:PG X tg g) (hb:PSs X body tb)
  (hs:∀ x,foldedSetIterable iter X.env x=pure x:=by intro _; rfl):PS X (.For tg iter body [] pos) (tFor wi g tb):=by
 intro pins s σ H D I h
 refine wpAny_For (thn (hi pins s σ H _ I h) fun v s1 h1=>thn h1 fun itv s2 h2=>?_) hs
 obtain ⟨it,fp,tn,J,H2,e,I2,T,st2,f2,W,⟨m0,w0⟩,turn⟩:=h2
 subst e
 -- what stays true of the iterator's objects through the loop
 have stat:∀ {H':Hp},(∀ b∈fp,H' b=none)→∀ b∈fp,FpOk X pins H' b:=fun hn b hb=>⟨hn b hb,(f2 b hb).2⟩
 refine codeAny_forLoop_any (fun n s'=>∃ i σ' H',Inv X pins σ' H' s'∧tn i s'.heap∧(∀ b∈fp,H' b=none)∧W i n σ' H') ?_ m0 ⟨0,σ,H2,I2,st2,fun b hb=>(f2 b hb).1,w0⟩
 rintro n s3 ⟨i,σ3,H3,I3,st3,fr3,w3⟩
 rcases turn i n σ3 H3 w3 with ⟨stop,qn⟩ | ⟨go,N,hN,step⟩
 ·refine wpAny_passesOwn hp (thn (T.done X rfl rfl rfl hc i pins s3 σ3 H3 X.xe I3 (stat fr3) st3 stop) fun r s4 ⟨hr,I4⟩=>?_)
  subst hr
  exact wpAny_execs_nil ⟨σ3,H3,I4,qn⟩
 ·refine wpAny_passesOwn hp (thn (T.item X rfl rfl rfl hc i pins s3 σ3 H3 X.xe I3 (stat fr3) st3 go) fun r s4 ⟨u,hr,h4⟩=>?_)
  subst hr
  refine wpAny_passesOwn hp (thn h4 fun _ s5 ⟨x,H5,I5,r5,y5,st5,fr5⟩=>?_)
  have I5':=I5.pinned (stat fr5) (T.obj _ _ st5)
  refine wpAny_passesOwn hp (thn (hg _ s5 σ3 H5 x u _ I5' r5 (step x H5 y5)) fun _ s6 ⟨σ6,H6,I6,q6⟩=>?_)
  refine wpAny_passesOwn hp (thn (hb _ s6 σ6 H6 _ I6 q6) fun f s7 q7=>?_)
  have again:∀ {σ7:St} {H7:Hp},Inv X (pins ++ pinsAt fp s5.heap) σ7 H7 s7→N σ7 H7→∃ m,m < n∧∃ i σ' H',Inv X pins σ' H' s7∧tn i s7.heap∧(∀ b∈fp,H' b=none)∧W i m σ' H':=fun {σ7 H7} I7 n7=>by
   obtain ⟨m',hm,w7⟩:=hN σ7 H7 n7
   refine ⟨m',hm,i + 1,σ7,H7,I7.unpinned,T.keep _ _ _ st5 fun b hb o e=>(I7.pin (b,o) (List.mem_append_right _ (List.mem_append_right _ (mem_pinsAt hb e)))).1,fun b hb=>?_,w7⟩
   obtain ⟨o,e,d⟩:=T.obj _ _ st5 b hb
   exact (I7.pin (b,o) (List.mem_append_right _ (List.mem_append_right _ (mem_pinsAt hb e)))).2.1
  cases f with
  | next=>obtain ⟨σ7,H7,I7,n7⟩:=q7; exact again I7 n7
  | cont=>obtain ⟨σ7,H7,I7,n7⟩:=q7; exact again I7 n7
  | brk=>obtain ⟨σ7,H7,I7,q7⟩:=q7; exact ⟨σ7,H7,I7.unpinned,q7⟩
  | ret v=>obtain ⟨x7,σ7,H7,I7,r7,q7⟩:=q7; exact ⟨x7,σ7,H7,I7.unpinned,r7,q7⟩
end
end L2
namespace L2
open PySem PySem.Spec PyProof.Rows
abbrev R2:=V→V→Hp→VK→Prop
def OpR (X:Cx) (f:Value→Value→Sem Value) (r:R2):Prop:=
 ∀ (pins:List (Addr×Obj)) (s:Shared) (σ:St) (H:Hp) (x y:V) (v u:Value) (Q:VK),Inv X pins σ H s→RelV x v→RelV y u→r x y H Q→
  wpAny (model X.prog X.w) X.A (f v u) (EP X pins σ Q) X.xe s
def UnR (X:Cx) (f:Value→Sem Value) (r:V→Hp→VK→Prop):Prop:=
 ∀ (pins:List (Addr×Obj)) (s:Shared) (σ:St) (H:Hp) (x:V) (v:Value) (Q:VK),Inv X pins σ H s→RelV x v→r x H Q→
  wpAny (model X.prog X.w) X.A (f v) (EP X pins σ Q) X.xe s
def CallR (X:Cx) (f:Value) (r:List V→Hp→VK→Prop):Prop:=
 ∀ (pins:List (Addr×Obj)) (s:Shared) (σ:St) (H:Hp) (xs:List V) (us:List Value) (Q:VK),Inv X pins σ H s→Vals xs us→r xs H Q→
  wpAny (model X.prog X.w) X.A (call f us) (EP X pins σ Q) X.xe s
def TruR (X:Cx) (r:V→Hp→(Bool→Hp→Prop)→Prop):Prop:=
 ∀ (pins:List (Addr×Obj)) (s:Shared) (σ:St) (H:Hp) (x:V) (v:Value) (Q:Bool→Hp→Prop),Inv X pins σ H s→RelV x v→r x H Q→
  wpAny (model X.prog X.w) X.A (truthy v) (TP X pins σ Q) X.xe s
def tOp (r:R2) (ta tb:TE):TE:=fun σ H Q=>ta σ H fun x H1=>tb σ H1 fun y H2=>r x y H2 Q
def tUn (r:V→Hp→VK→Prop) (ta:TE):TE:=fun σ H Q=>ta σ H fun x H1=>r x H1 Q
def rI (C:Int→Int→Prop) (g:Int→Int→V):R2:=fun x y H Q=>∃ i j,x=.int i∧y=.int j∧C i j∧Q (g i j) H
def rI0 (g:Int→Int→V):R2:=fun x y H Q=>∃ i j,x=.int i∧y=.int j∧Q (g i j) H
def rU (g:Int→V):V→Hp→VK→Prop:=fun x H Q=>∃ i,x=.int i∧Q (g i) H
section
variable {X:Cx} {a b c:Expr} {ta tb tc:TE} {pos:Pos}
theorem binT (ha:PE X a ta) (hb:PE X b tb) {pins:List (Addr×Obj)} {s:Shared} {σ:St} {H:Hp} {R:V→V→Hp→Prop} (I:Inv X pins σ H s)
  (h:ta σ H fun x H1=>tb σ H1 fun y H2=>R x y H2) {Q:Value→Shared→Prop} {f:Value→Value→Sem Value}
  (hf:∀ v u s2 x y H2,Inv X pins σ H2 s2→RelV x v→RelV y u→R x y H2→wpAny (model X.prog X.w) X.A (f v u) Q X.xe s2):
  wpAny (model X.prog X.w) X.A (eval a X.env) (fun v s₁=>wpAny (model X.prog X.w) X.A (eval b X.env) (fun u s₂=>wpAny (model X.prog X.w) X.A (f v u) Q X.xe s₂) X.xe s₁) X.xe s:=by
 refine thn (ha pins s σ H _ I h) fun v s1 ⟨x,H1,I1,r1,q1⟩=>?_
 refine thn (hb pins s1 σ H1 _ I1 q1) fun u s2 ⟨y,H2,I2,r2,q2⟩=>?_
 exact hf v u s2 x y H2 I2 r1 r2 q2
theorem pe_op {op:Operator} {r:R2} (ho:OpR X (binaryOp op) r) (ha:PE X a ta) (hb:PE X b tb):PE X (.BinOp a op b pos) (tOp r ta tb):=by
 intro pins s σ H Q I h
 exact wpAny_BinOp (binT ha hb I h fun v u s2 x y H2 I2 rx ry q=>ho pins s2 σ H2 x y v u Q I2 rx ry q)
theorem pe_un {op:UnaryOp} {r:V→Hp→VK→Prop} (ho:UnR X (unaryOp op) r) (ha:PE X a ta):PE X (.UnaryOp op a pos) (tUn r ta):=by
 intro pins s σ H Q I h
 exact UnaryOp_ (thn (ha pins s σ H _ I h) fun v s1 ⟨x,H1,I1,r1,q1⟩=>ho pins s1 σ H1 x v Q I1 r1 q1)
theorem opI {f:Value→Value→Sem Value} {C:Int→Int→Prop} {g:Int→Int→Int}
  (rule:∀ (i j:Int) (t u:Tok) (s:Shared) (Q:Value→Shared→Prop) (E:Value→Shared→Prop),C i j→Q (.int (g i j) s.toks) { s with toks:=s.toks + 1 }→wpAny (model X.prog X.w) X.A (f (.int i t) (.int j u)) Q E s):
  OpR X f (rI C fun i j=>.int (g i j)):=by
 intro pins s σ H x y v u Q I rx ry h
 obtain ⟨i,j,rfl,rfl,hc,q⟩:=h
 obtain ⟨t,rfl⟩:=rx
 obtain ⟨t',rfl⟩:=ry
 exact rule i j t t' s _ _ hc ⟨.int (g i j),H,I.tok _,⟨_,rfl⟩,q⟩
theorem opI0 {f:Value→Value→Sem Value} {g:Int→Int→Int}
  (rule:∀ (i j:Int) (t u:Tok) (s:Shared) (Q:Value→Shared→Prop) (E:Value→Shared→Prop),Q (.int (g i j) s.toks) { s with toks:=s.toks + 1 }→wpAny (model X.prog X.w) X.A (f (.int i t) (.int j u)) Q E s):
  OpR X f (rI0 fun i j=>.int (g i j)):=by
 intro pins s σ H x y v u Q I rx ry h
 obtain ⟨i,j,rfl,rfl,q⟩:=h
 obtain ⟨t,rfl⟩:=rx
 obtain ⟨t',rfl⟩:=ry
 exact rule i j t t' s _ _ ⟨.int (g i j),H,I.tok _,⟨_,rfl⟩,q⟩
def CDiv (i j:Int):Prop:=0 < j∧j < 1073741824
def CPow (i j:Int):Prop:=0≤j∧j≤1000000∧i.natAbs < 2 ^ 64
def CMul (i j:Int):Prop:=(-(2 ^ 64) < i∧i < 2 ^ 64)∨(-(2 ^ 64) < j∧j < 2 ^ 64)
theorem CMul.ok {i j:Int} (h:CMul i j):IntMulOk i j:=by
 rcases h with ⟨h1,h2⟩ | ⟨h1,h2⟩
 ·exact .of_left (intBits_le_64 h1 h2)
 ·exact .of_right (intBits_le_64 h1 h2)
theorem op_add:OpR X (binaryOp .Add) (rI0 fun i j=>.int (i + j)):=opI0 fun _ _ _ _ _ _ _ q=>add_int q
theorem op_sub:OpR X (binaryOp .Sub) (rI0 fun i j=>.int (i - j)):=opI0 fun _ _ _ _ _ _ _ q=>sub_int q
theorem op_mul:OpR X (binaryOp .Mult) (rI CMul fun i j=>.int (i * j)):=opI fun _ _ _ _ _ _ _ hc q=>mul_int q hc.ok
theorem op_fdiv:OpR X (binaryOp .FloorDiv) (rI CDiv fun i j=>.int (i / j)):=opI fun i j _ _ _ _ _ hc q=>by
 have h1:(0:Int) < j:=hc.1
 have h2:j < 1073741824:=hc.2
 exact floordiv_int (by omega) (by rw [Int.fdiv_eq_ediv_of_nonneg i (by omega)]; exact q) (.inl (PyProof.noPylong_small (by omega)))
theorem op_mod:OpR X (binaryOp .Mod) (rI (fun _ j=>0 < j) fun i j=>.int (i % j)):=opI fun i j _ _ _ _ _ hc q=>by
 have h1:(0:Int) < j:=hc
 exact mod_int' (by omega) (by rw [Int.fmod_eq_emod_of_nonneg i (by omega)]; exact q)
theorem op_pow:OpR X (binaryOp .Pow) (rI CPow fun i j=>.int (i ^ j.toNat)):=opI fun _ _ _ _ _ _ _ hc q=>pow_int_small hc.1 hc.2.1 hc.2.2 q
theorem iop_add:OpR X (inplaceOp .Add) (rI0 fun i j=>.int (i + j)):=opI0 fun _ _ _ _ _ _ _ q=>iadd_int q
theorem iop_sub:OpR X (inplaceOp .Sub) (rI0 fun i j=>.int (i - j)):=opI0 fun _ _ _ _ _ _ _ q=>isub_int q
theorem unI {f:Value→Sem Value} {g:Int→Int}
  (rule:∀ (i:Int) (t:Tok) (s:Shared) (Q:Value→Shared→Prop) (E:Value→Shared→Prop),Q (.int (g i) s.toks) { s with toks:=s.toks + 1 }→wpAny (model X.prog X.w) X.A (f (.int i t)) Q E s):
  UnR X f (rU fun i=>.int (g i)):=by
 intro pins s σ H x v Q I rx h
 obtain ⟨i,rfl,q⟩:=h
 obtain ⟨t,rfl⟩:=rx
 exact rule i t s _ _ ⟨.int (g i),H,I.tok _,⟨_,rfl⟩,q⟩
theorem un_neg:UnR X (unaryOp .USub) (rU fun i=>.int (-i)):=unI fun _ _ _ _ _ q=>neg_int q
end
section
variable {X:Cx} {a b c:Expr} {ta tb tc:TE} {pos:Pos}
theorem fin_bl {pins:List (Addr×Obj)} {σ:St} {H:Hp} {s:Shared} {Q:VK} {k k':Bool} (I:Inv X pins σ H s) (q:Q (.bl k) H) (e:k=k'):EP X pins σ Q (.bool k') s:=by
 subst e
 exact ⟨.bl k,H,I,rfl,q⟩
theorem op_isN:OpR X (compareOp .Is) (fun x y H Q=>y=.non∧Q (.bl (decide (x=.non))) H):=by
 intro pins s σ H x y v u Q I rx ry h
 obtain ⟨rfl,q⟩:=h
 cases ry
 refine is_none_gen (fin_bl I q ?_)
 cases x <;> first
  | (cases rx; rfl)
  | (obtain ⟨t,rfl⟩:=rx; rfl)
theorem op_notN:OpR X (compareOp .IsNot) (fun x y H Q=>y=.non∧Q (.bl (!decide (x=.non))) H):=by
 intro pins s σ H x y v u Q I rx ry h
 obtain ⟨rfl,q⟩:=h
 cases ry
 refine isnot_none_gen (fin_bl I q ?_)
 cases x <;> first
  | (cases rx; rfl)
  | (obtain ⟨t,rfl⟩:=rx; rfl)
theorem pe_cmpR {op:CmpOp} {r:R2} (ho:OpR X (compareOp op) r) (ha:PE X a ta) (hb:PE X b tb) (hm:behindInMarks op b=false):PE X (.Compare a [op] [b] pos) (tOp r ta tb):=by
 intro pins s σ H Q I h
 exact wpAny_Compare1 (binT ha hb I h fun v u s2 x y H2 I2 rx ry q=>ho pins s2 σ H2 x y v u Q I2 rx ry q) hm
def tTest (t:TE):TT:=fun σ H Q=>t σ H fun x H'=>∃ k,x=.bl k∧Q k H'
theorem pt_cmpR {op:CmpOp} {r:R2} (ho:OpR X (compareOp op) r) (ha:PE X a ta) (hb:PE X b tb) (hm:behindInMarks op b=false):PT X (.Compare a [op] [b] pos) (tTest (tOp r ta tb)):=by
 intro pins s σ H Q I h
 refine wpAny_isTrue_Compare1 (thn (ha pins s σ H _ I h) fun v s1 ⟨x,H1,I1,r1,q1⟩=>thn (hb pins s1 σ H1 _ I1 q1) fun u s2 ⟨y,H2,I2,r2,q2⟩=>
  thn (ho pins s2 σ H2 x y v u _ I2 r1 r2 q2) fun c s3 ⟨z,H3,I3,r3,k,e,q3⟩=>?_) hm
 subst e
 cases r3
 exact wpAny_truthy_bool ⟨H3,I3,q3⟩
def tChain (r r':R2) (ta tb tc:TE):TE:=fun σ H Q=>ta σ H fun x H1=>tb σ H1 fun y H2=>r x y H2 fun z H3=>∃ k,z=.bl k∧
 (if k=true then tc σ H3 fun w' H4=>r' y w' H4 Q else Q (.bl false) H3)
theorem pe_chain {op op':CmpOp} {r r':R2} (ho:OpR X (compareOp op) r) (ho':OpR X (compareOp op') r') (ha:PE X a ta) (hb:PE X b tb) (hc:PE X c tc)
  (hm:lastMarks [op,op'] [b,c]=false:=by with_unfolding_all rfl):PE X (.Compare a [op,op'] [b,c] pos) (tChain r r' ta tb tc):=by
 intro pins s σ H Q I h
 refine Compare_chain (thn (ha pins s σ H _ I h) fun v s1 ⟨x,H1,I1,r1,q1⟩=>chain_link (thn (hb pins s1 σ H1 _ I1 q1) fun u s2 ⟨y,H2,I2,r2,q2⟩=>
  thn (ho pins s2 σ H2 x y v u _ I2 r1 r2 q2) fun d s3 ⟨z,H3,I3,r3,k,e,q3⟩=>?_)) hm
 subst e
 cases r3
 refine wpAny_truthy_bool ?_
 cases k with
 | false=>exact ite_ff ⟨.bl false,H3,I3,rfl,q3⟩
 | true=>exact ite_tt (chain_last (thn (hc pins s3 σ H3 _ I3 q3) fun w' s4 ⟨z',H4,I4,r4,q4⟩=>ho' pins s4 σ H4 y z' u w' Q I4 r2 r4 q4))
theorem pt_chain {op op':CmpOp} {r r':R2} (ho:OpR X (compareOp op) r) (ho':OpR X (compareOp op') r') (ha:PE X a ta) (hb:PE X b tb) (hc:PE X c tc)
  (hm:lastMarks [op,op'] [b,c]=false:=by with_unfolding_all rfl):PT X (.Compare a [op,op'] [b,c] pos) (tTest (tChain r r' ta tb tc)):=by
 intro pins s σ H Q I h
 refine isTrue_chain (thn (ha pins s σ H _ I h) fun v s1 ⟨x,H1,I1,r1,q1⟩=>test_link (thn (hb pins s1 σ H1 _ I1 q1) fun u s2 ⟨y,H2,I2,r2,q2⟩=>
  thn (ho pins s2 σ H2 x y v u _ I2 r1 r2 q2) fun d s3 ⟨z,H3,I3,r3,k,e,q3⟩=>?_)) hm
 subst e
 cases r3
 refine wpAny_truthy_bool ?_
 cases k with
 | false=>
  obtain ⟨k',e',q'⟩:=q3
  cases e'
  exact ite_ff ⟨H3,I3,q'⟩
 | true=>
  refine ite_tt (test_last (thn (hc pins s3 σ H3 _ I3 q3) fun w' s4 ⟨z',H4,I4,r4,q4⟩=>thn (ho' pins s4 σ H4 y z' u w' _ I4 r2 r4 q4) fun d' s5 ⟨z2,H5,I5,r5,k2,e2,q5⟩=>?_))
  subst e2
  cases r5
  exact wpAny_truthy_bool ⟨H5,I5,q5⟩
def TruV (K:PySem.W.Frag) (x:V) (H:Hp) (k:Bool):Prop:=
 match x with
 | .non=>k=false
 | .bl b=>k=b
 | .int i=>k=(i != 0)
 | .str y=>y.length≤sizeLine∧k=((y.length:Int) != 0)
 | .byt y=>y.size≤sizeLine∧k=((y.size:Int) != 0)
 | .ref p=>(∃ xs,SqL K H p xs∧k=!xs.isEmpty)∨(∃ xs,SqT K H p xs∧k=!xs.isEmpty)∨∃ kvs,H p=some (.dK kvs)∧k=!kvs.isEmpty
 | _=>False
theorem isEmpty_kv {κ:Type} {kvs:List (κ×V)} {vs:List (κ×Value)} (r:KV kvs vs):(!vs.isEmpty)=!kvs.isEmpty:=by
 cases r <;> rfl
theorem isEmpty_of {xs:List V} {its:List Value} (r:Vals xs its):(!its.toArray.isEmpty)=!xs.isEmpty:=by
 cases r <;> simp
theorem line63:(sizeLine:Nat) < 2 ^ 63:=by rw [sizeLine_eq]; decide
theorem tru_ok:TruR X (fun x H Q=>∃ k,TruV X.K x H k∧Q k H):=by
 intro pins s σ H x v Q I rx h
 obtain ⟨k,e,q⟩:=h
 have hl:=line63
 have hs:sizeLine=16777216:=sizeLine_eq
 cases x with
 | non=>
  cases rx
  have e':k=false:=e
  subst e'
  exact truthy_none ⟨H,I,q⟩
 | bl b=>
  cases rx
  have e':k=b:=e
  subst e'
  exact wpAny_truthy_bool ⟨H,I,q⟩
 | int i=>
  obtain ⟨t,rfl⟩:=rx
  have e':k=(i != 0):=e
  subst e'
  exact PySem.P.truthy_int ⟨H,I,q⟩
 | str y=>
  obtain ⟨t,rfl⟩:=rx
  obtain ⟨hy,e'⟩:y.length≤sizeLine∧k=((y.length:Int) != 0):=e
  subst e'
  exact PySem.P.truthy_str (by omega) ⟨H,I.tok _,q⟩
 | byt y=>
  obtain ⟨t,rfl⟩:=rx
  obtain ⟨hy,e'⟩:y.size≤sizeLine∧k=((y.size:Int) != 0):=e
  subst e'
  exact PySem.W.truthy_bytes (by omega) ⟨H,I.tok _,q⟩
 | ref p=>
  cases rx
  have e':(∃ xs,SqL X.K H p xs∧k=!xs.isEmpty)∨(∃ xs,SqT X.K H p xs∧k=!xs.isEmpty)∨∃ kvs,H p=some (.dK kvs)∧k=!kvs.isEmpty:=e
  rcases e' with ⟨xs,hx,e'⟩ | ⟨xs,hx,e'⟩ | ⟨kvs,hx,e'⟩
  ·subst e'
   obtain ⟨its,r,pl,hz⟩:=I.list hx
   have hlen:=r.length
   exact wpAny_truthy_list pl.isList (by simp only [List.size_toArray]; omega) ⟨H,I.tok _,by rw [isEmpty_of r]; exact q⟩
  ·subst e'
   obtain ⟨its,r,pl,hz⟩:=I.tuple hx
   have hlen:=r.length
   exact truthy_tuple pl (by simp only [List.size_toArray]; omega) ⟨H,I.tok _,by rw [isEmpty_of r]; exact q⟩
  ·subst e'
   obtain ⟨hz,hS,vs,r,m⟩:kvs.length≤sizeLine∧(p==sysModules)=false∧∃ vs,KV kvs vs∧s.heap.DictOf (mixKind X.prog X.w) p vs:=I.hok p _ hx
   have hlen:kvs.length=vs.length:=Paired.length r
   exact wpAny_truthy_dict hS m (by omega) ⟨H,I.tok _,by rw [isEmpty_kv r]; exact q⟩
 | _=>exact (show False from e).elim
theorem pt_truth (ha:PE X a ta) (he:∀ whole,isTrue a X.env whole=(do let v ← whole; standAt a.pos; holding [v] (truthy v))):
  PT X a (fun σ H Q=>ta σ H fun x H'=>∃ k,TruV X.K x H' k∧Q k H'):=by
 intro pins s σ H Q I h
 exact isTrue_plain (thn (ha pins s σ H _ I h) fun v s1 ⟨x,H1,I1,r1,q1⟩=>tru_ok pins s1 σ H1 x v Q I1 r1 q1) (he _)
theorem op_add_str:OpR X (binaryOp .Add) (fun x y H Q=>∃ i j,x=.str i∧y=.str j∧i.length + j.length≤sizeLine∧Q (.str (i ++ j)) H):=by
 intro pins s σ H x y v u Q I rx ry h
 obtain ⟨i,j,rfl,rfl,hz,q⟩:=h
 obtain ⟨t,rfl⟩:=rx
 obtain ⟨t',rfl⟩:=ry
 exact add_str (fun t' tk=>⟨.str (i ++ j),H,I.tok _,⟨_,rfl⟩,q⟩) hz
theorem iop_add_str:OpR X (inplaceOp .Add) (fun x y H Q=>∃ i j,x=.str i∧y=.str j∧i.length + j.length≤sizeLine∧Q (.str (i ++ j)) H):=by
 intro pins s σ H x y v u Q I rx ry h
 obtain ⟨i,j,rfl,rfl,hz,q⟩:=h
 obtain ⟨t,rfl⟩:=rx
 obtain ⟨t',rfl⟩:=ry
 exact iadd_str (fun t' tk=>⟨.str (i ++ j),H,I.tok _,⟨_,rfl⟩,q⟩) hz
theorem vals1 {x:V} {us:List Value} (r:Vals [x] us):∃ u,us=[u]∧RelV x u:=by
 cases r with
 | cons r1 r2=>cases r2; exact ⟨_,rfl,r1⟩
theorem vals2 {x y:V} {us:List Value} (r:Vals [x,y] us):∃ u w',us=[u,w']∧RelV x u∧RelV y w':=by
 cases r with
 | cons r1 r2=>
  cases r2 with
  | cons r3 r4=>cases r4; exact ⟨_,_,rfl,r1,r3⟩
theorem call_int1:CallR X (.type "int") (fun xs H Q=>(∃ i,xs=[.int i]∧Q (.int i) H)∨∃ k,xs=[.bl k]∧Q (.int (if k then 1 else 0)) H):=by
 intro pins s σ H xs us Q I r h
 rcases h with ⟨i,rfl,q⟩ | ⟨k,rfl,q⟩
 ·obtain ⟨u,rfl,t,rfl⟩:=vals1 r
  exact call_int_int ⟨.int i,H,I,⟨_,rfl⟩,q⟩
 ·obtain ⟨u,rfl,r1⟩:=vals1 r
  cases r1
  exact call_int_bool ⟨.int (if k then 1 else 0),H,I.tok _,⟨_,rfl⟩,q⟩
end
end L2
namespace L2
open PySem PySem.Spec PyProof.Rows
structure ObjM (h:Heap) (x dx C:Addr) (mA:Str→Option Value):Prop where
 obj:h.get? x=some (PySem.W.instObj C dx)
 ns:h.Ns1 dx mA
 ne:dx≠x
theorem lookIn_ns {h:Heap} {dx:Addr} {mA:Str→Option Value} (n:h.Ns1 dx mA):∃ od,h.get? dx=some od∧∀ name,PySem.W.lookIn name od=some (mA name):=by
 obtain ⟨o,es,ep,ho,hd,hk,_,hm⟩:=n
 refine ⟨o,ho,fun name=>?_⟩
 have e:=hm name
 unfold nsFind findBy at e
 rw [← Array.find?_toList] at e
 unfold PySem.W.lookIn
 rw [hd]
 dsimp only
 split
 ·rename_i y q
  rw [q] at e
  exact congrArg some e
 ·rename_i q
  rw [q] at e
  have a:es.toList.any (·.refKey)=false:=by
   rw [List.any_eq_false]
   intro y hy
   obtain ⟨z,t,hkey⟩:=hk y (Array.mem_toList_iff.mp hy)
   simp [DictEntry.refKey,hkey]
  have a':¬ es.toList.any (·.refKey)=true:=by rw [a]; exact Bool.false_ne_true
  rw [if_neg a']
  exact congrArg some e
theorem ObjM.look {h:Heap} {x dx C:Addr} {mA:Str→Option Value} (I:ObjM h x dx C mA):∃ od,PySem.W.InstAt h x (PySem.W.instObj C dx) C (some od)∧∀ name,PySem.W.lookIn name od=some (mA name):=
 let ⟨od,ho,hl⟩:=lookIn_ns I.ns
 ⟨od,⟨I.obj,rfl,rfl,ho⟩,hl⟩
section
variable {prog:Program} {w:World} {A:Around} {E:Value→Shared→Prop} {s:Shared} {K:PySem.W.Frag} {x dx C f:Addr} {mA:Str→Option Value} {name:Str} {v:Value}
end
section
variable {P:Program} {w:World} {H H':Hp} {h h':Heap} {a C dx:Addr} {fs fs':List (Str×V)}
theorem ins_get (hok:HOk P w H h) (e:H a=some (.ins C dx fs)):∃ mA,ObjM h a dx C mA∧(∀ f,RelO (fs.lookup f) (mA f))∧PySem.Within mA (fs.map (·.1))∧fs.length≤1000∧H dx=some (.own a):=by
 obtain ⟨d,z,ne,ob,mA,n,r,q⟩:=(show ObjOk P w H h a (.ins C dx fs) from hok a _ e)
 exact ⟨mA,⟨ob,n,ne⟩,r,q,z,d⟩
end
structure Cls (K:PySem.W.Frag) (C:Addr):Prop where
 pg:PySem.W.plainGet K C Str.empty=true
 hd:PySem.W.hasDictIn K C=true
 po:PySem.W.plainOver K C=true
 sa:PySem.W.findIn K (.ref C) "__setattr__"=some (some (.builtin "object.__setattr__"))
theorem Cls.get {K:PySem.W.Frag} {C:Addr} (c:Cls K C) (f:Str):PySem.W.plainGet K C f=true:=c.pg
section
variable {X:Cx} {pins:List (Addr×Obj)} {σ:St} {H:Hp} {s:Shared} {a C dx:Addr} {fs:List (Str×V)} {f:Str} {v:V} {A:Around} {E:Value→Shared→Prop}
end
section
variable {X:Cx} {o e value:Expr} {f:Str} {pos pos' tpos:Pos} {ta tv:TE}
end
section
variable {X:Cx} {pins:List (Addr×Obj)} {σ:St} {H:Hp} {s:Shared} {A:Around} {E:Value→Shared→Prop} {Q:Value→Shared→Prop} {c:Value} {b:Bool}
inductive TyOf (K:PySem.W.Frag) (H:Hp):V→Value→Prop where
 | non:TyOf K H .non (.type "NoneType")
 | bl (x:Bool):TyOf K H (.bl x) (.type "bool")
 | int (i:Int):TyOf K H (.int i) (.type "int")
 | str (x:Str):TyOf K H (.str x) (.type "str")
 | flt (x:UInt64):TyOf K H (.flt x) (.type "float")
 | lst {a:Addr} {xs:List V} (e:H a=some (.lst xs)):TyOf K H (.ref a) (.type "list")
 | frz {a:Addr} {o:Obj} {xs:List V} (e:H a=some (.frz o (.lst xs))):TyOf K H (.ref a) (.type "list")
 | tup {a:Addr} {xs:List V} (e:H a=some (.tup xs)):TyOf K H (.ref a) (.type "tuple")
 | dK {a:Addr} {kvs:List (Key×V)} (e:H a=some (.dK kvs)):TyOf K H (.ref a) (.type "dict")
 | dT {a:Addr} {kvs:List (List Key×V)} (e:H a=some (.dT kvs)):TyOf K H (.ref a) (.type "dict")
 | ins {a C dx:Addr} {fs:List (Str×V)} (e:H a=some (.ins C dx fs)) (cl:Cls K C) (ha:PySem.W.findIn K (.ref C) "__class__"=some (some (.builtin "object.__class__")))
   (hn:PySem.W.specialIn K (.builtin "object.__class__") "__get__"=some (some (.builtin "getset_descriptor.__get__"))) (htk:PySem.W.takesIn K (.builtin "object.__class__")=some true)
   (hm:PySem.W.mroIn K C (.type "object")=some true):TyOf K H (.ref a) (.ref C)
theorem isinst_ok {x:V} {u t:Value} (I:Inv X pins σ H s) (rx:RelV x u) (ty:TyOf X.K H x t) (e:PySem.W.kitOne X.K t c=some b) (h:∀ tk,Q (.bool b) { s with toks:=tk }):
  wpAny (model X.prog X.w) A (call (.builtin "isinstance") [u,c]) Q E s:=by
 cases ty with
 | non=>cases (show u=Value.none from rx); exact PySem.W.kia_one PySem.W.kitx_none I.kIn True.intro e (fun z=>nomatch z) h
 | bl y=>cases (show u=Value.bool y from rx); exact PySem.W.kia_one PySem.W.kitx_bool I.kIn True.intro e (fun z=>nomatch z) h
 | int i=>obtain ⟨t,q⟩:=(show ∃ t,u=Value.int i t from rx); cases q; exact PySem.W.kia_one PySem.W.kitx_int I.kIn True.intro e (fun z=>nomatch z) h
 | str y=>obtain ⟨t,q⟩:=(show ∃ t,u=Value.str y t from rx); cases q; exact PySem.W.kia_one PySem.W.kitx_str I.kIn True.intro e (fun z=>nomatch z) h
 | flt y=>obtain ⟨t,q⟩:=(show ∃ t,u=Value.float y t from rx); cases q; exact PySem.W.kia_one PySem.W.kitx_float I.kIn True.intro e (fun z=>nomatch z) h
 | @lst a xs ea=>
  cases (show u=Value.ref a from rx)
  obtain ⟨_,_,n,_,h1⟩:=(show ObjOk X.prog X.w H s.heap a (.lst xs) from I.hok a _ ea)
  exact PySem.W.kia_one PySem.W.kitx_list I.kIn ⟨_,h1,rfl⟩ e (fun z=>nomatch z) h
 | @frz a ob xs ea=>
  cases (show u=Value.ref a from rx)
  obtain ⟨_,_,_,n,_,h1⟩:=(show ObjOk X.prog X.w H s.heap a (.frz ob (.lst xs)) from I.hok a _ ea)
  exact PySem.W.kia_one PySem.W.kitx_list I.kIn ⟨_,h1,rfl⟩ e (fun z=>nomatch z) h
 | @tup a xs ea=>
  cases (show u=Value.ref a from rx)
  obtain ⟨_,_,_,p⟩:=(show ObjOk X.prog X.w H s.heap a (.tup xs) from I.hok a _ ea)
  obtain ⟨o,h1,h2,_⟩:=p
  exact PySem.W.kia_one PySem.W.kitx_tuple I.kIn ⟨o,h1,h2⟩ e (fun z=>nomatch z) h
 | @dK a kvs ea=>
  cases (show u=Value.ref a from rx)
  obtain ⟨_,_,vs,_,p⟩:=(show ObjOk X.prog X.w H s.heap a (.dK kvs) from I.hok a _ ea)
  obtain ⟨o,es,ep,h1,h2,_⟩:=p
  exact PySem.W.kia_one PySem.W.kitx_dict I.kIn ⟨o,h1,h2.1⟩ e (fun z=>nomatch z) h
 | @dT a kvs ea=>
  cases (show u=Value.ref a from rx)
  obtain ⟨_,_,xs,_,o,es,ep,h1,h2,_⟩:=(show ObjOk X.prog X.w H s.heap a (.dT kvs) from I.hok a _ ea)
  exact PySem.W.kia_one PySem.W.kitx_dict I.kIn ⟨o,h1,h2.1⟩ e (fun z=>nomatch z) h
 | @ins a C dx fs ea cl ha hn htk hm=>
  cases (show u=Value.ref a from rx)
  obtain ⟨mA,O,_⟩:=ins_get I.hok ea
  obtain ⟨od,J,_⟩:=O.look
  exact PySem.W.kia_one (PySem.W.kitx_own (cl.get _) cl.hd ha hn htk hm) I.kIn J e (fun z=>nomatch z) h
end
end L2
namespace L2
open PySem PySem.Spec PyProof.Rows
structure Room (k:Nat) (A:Around):Prop where
 hd:A.handled=none
 dp:A.depth + 3 * k + 5 < recursionLimit
 un:A.units + 16 * k + 200 < cLine
theorem Room.mono {j k:Nat} {A:Around} (r:Room k A) (h:j≤k):Room j A:=⟨r.hd,by have:=r.dp; omega,by have:=r.un; omega⟩
theorem Room.deeper {k:Nat} {A:Around} (r:Room (k + 1) A) (env:Env):Room k (A.deeper env):=
 ⟨r.hd,by have:=r.dp; show A.depth + 1 + 3 * k + 5 < _; omega,by have:=r.un; show A.units + 3 + 16 * k + 200 < _; omega⟩
theorem Room.depth {k:Nat} {A:Around} (r:Room k A):A.depth < recursionLimit:=by have:=r.dp; omega
def tNil:TA:=fun _ H Q=>Q [] H
def tCons (ta:TE) (tr:TA):TA:=fun σ H Q=>ta σ H fun x H1=>tr σ H1 fun xs H2=>Q (x::xs) H2
section
variable {X:Cx} {e:Expr} {es:List Expr} {te:TE} {t:TA} {pos:Pos}
theorem pa_nil:PA X [] tNil:=fun _ _ _ _ H Q I h=>Calls.spliced_nil ⟨[],H,I,.nil,h⟩
theorem pa_cons (ha:PE X e te) (hr:PA X es t) (hs:starEach (e::es) X.env=(false,eval e X.env)::starEach es X.env:=by rfl):PA X (e::es) (tCons te t):=by
 intro pos pins s σ H Q I h
 rw [hs]
 show wpAny _ _ (spliced ((false,eval e X.env)::backTo pos (starEach es X.env))) _ _ s
 refine Calls.spliced_cons (thn (ha pins s σ H _ I h) fun u s1 ⟨x,H1,I1,r1,q1⟩=>?_)
 exact thn (hr pos pins s1 σ H1 _ I1 q1) fun us s2 ⟨xs,H2,I2,r2,q2⟩=>⟨x::xs,H2,I2,.cons r1 r2,q2⟩
def tTup (t:TA):TE:=fun σ H Q=>t σ H fun xs H1=>xs.length≤sizeLine∧∀ p,H1 p=none→Q (.ref p) (upd H1 p (.tup xs))
def tLst (t:TA):TE:=fun σ H Q=>t σ H fun xs H1=>xs.length≤sizeLine∧∀ p,H1 p=none→Q (.ref p) (upd H1 p (.lst xs))
theorem pe_tup {x1} (h:PA X es t):PE X (.Tuple es x1 pos) (tTup t):=by
 intro pins s σ H Q I hq
 refine wpAny_Tuple_spliced (thn (h pos pins s σ H _ I hq) fun us s1 ⟨xs,H1,I1,r,z,q⟩=>⟨by rw [← r.length]; exact z,?_⟩)
 have hf:H1 s1.heap.objs.size=none:=I1.hok.fresh (Nat.le_refl _)
 refine ⟨.ref s1.heap.objs.size,upd H1 s1.heap.objs.size (.tup xs),I1.laid (t':=s1.toks) (fun b u e=>Heap.get?_push_of_some _ e) (Nat.le_refl _) ?_,rfl,q _ hf⟩
 exact ⟨z,us,r,⟨_,Heap.get?_push_size _ rfl,rfl,_,rfl⟩⟩
theorem pe_lst (h:PA X es t):PE X (.List es pos) (tLst t):=by
 intro pins s σ H Q I hq
 refine wpAny_List_spliced (thn (h pos pins s σ H _ I hq) fun us s1 ⟨xs,H1,I1,r,z,q⟩=>⟨by rw [← r.length]; exact z,?_⟩)
 have hf:H1 s1.heap.objs.size=none:=I1.hok.fresh (Nat.le_refl _)
 refine ⟨.ref s1.heap.objs.size,upd H1 s1.heap.objs.size (.lst xs),I1.laid (t':=s1.toks) (fun b u e=>Heap.get?_push_of_some _ e) (Nat.le_refl _) ?_,rfl,q _ hf⟩
 exact ⟨z,us,0,r,Heap.get?_push_size _ rfl⟩
end
abbrev Sp:=List V→Hp→VK→XK→Prop
abbrev CXT:=List Env→Hp→Shared→XK→Value→Shared→Prop
structure Env0 (P:Program) (w:World) (K:PySem.W.Frag) (mg:Str→Option Value) (base:Heap) (A:Around) (outer:List Env) (s:Shared) (H:Hp):Prop where
 frames:A.frames=some outer
 mod:Mod K mg base
 bs:∀ b o,base.get? b=some o→s.heap.get? b=some o∧H b=none
 bsz:base.objs.size≤s.heap.objs.size
 funs:s.heap.FunFrames base outer
 frf:∀ b∈frs outer,H b=none
 hok:HOk P w H s.heap
 bare:AllBare s.gens
def CE (outer:List Env) (P:Program) (w:World) (H:Hp) (s:Shared) (Q:VK) (u:Value) (s':Shared):Prop:=
 ∃ v H',s'.os=s.os∧AllBare s'.gens∧Un (frs outer) [] H H' s.heap s'.heap∧HOk P w H' s'.heap∧RelV v u∧Q v H'
def CR (CX:CXT) (outer:List Env) (P:Program) (w:World) (H:Hp) (s:Shared) (Q:VK) (E:XK) (r:Result) (s':Shared):Prop:=
 match r with
 | .ok (.ret u)=>CE outer P w H s Q u s'
 | .ok _=>False
 | .error e=>CX outer H s E e s'
structure FnOk (P:Program) (w:World) (K:PySem.W.Frag) (mg:Str→Option Value) (base:Heap) (CX:CXT) (k:Nat) (f:Addr) (fd:FuncData) (ps:List Str) (sp:Sp):Prop where
 len:∀ vs H Q E,sp vs H Q E→vs.length=ps.length
 run:∀ (A:Around) (outer:List Env) (s:Shared) (H:Hp) (args:Args) (us:List Value) (vs:List V) (Q:VK) (E:XK),Room k A→Env0 P w K mg base A outer s H→BindsTo s fd args (ps.zip us)→Vals vs us→sp vs H Q E→
  codeAny (model P w) A (.call (.ref f) args) (CR CX outer P w H s Q E) s
theorem FnOk.mono {P:Program} {w:World} {K:PySem.W.Frag} {mg:Str→Option Value} {base:Heap} {CX:CXT} {j k:Nat} {f:Addr} {fd:FuncData} {ps:List Str} {sp:Sp} (F:FnOk P w K mg base CX j f fd ps sp) (h:j≤k):
  FnOk P w K mg base CX k f fd ps sp:=⟨F.len,fun A outer s H args us vs Q E hr=>F.run A outer s H args us vs Q E (hr.mono h)⟩
section
variable {X:Cx} {pins:List (Addr×Obj)} {σ:St} {H:Hp} {s s':Shared}
theorem Inv.env0 (I:Inv X pins σ H s):Env0 X.prog X.w X.K X.mg X.base X.A X.stack s H:=
 ⟨I.ok.frames,I.ok.mod,I.bs,Nat.le_trans I.ok.bsz I.sz,I.stack,I.stkFree,I.hok,I.bare⟩
theorem Inv.after {Q:VK} {u:Value} (I:Inv X pins σ H s) (h:CE X.stack X.prog X.w H s Q u s'):EP X pins σ Q u s':=by
 obtain ⟨v,H',os,bare,un,hok,r,q⟩:=h
 obtain ⟨hh,g,d,t,os'⟩:=s'
 obtain rfl:os'=s.os:=os
 exact ⟨v,H',I.call (h':=hh) (g':=g) (d':=d) (t':=t) (ch:=[]) un hok bare (fun b z=>absurd z (by simp)),r,q⟩
end
def tCall (sp:Sp) (dvs:List V) (E:XK) (t:TA):TE:=fun σ H Q=>t σ H fun vs H1=>sp (vs ++ dvs) H1 Q E
def Binds (K:PySem.W.Frag) (fd:FuncData) (ps:List Str) (ds:List Value):Prop:=
 ∀ (s:Shared) (us:List Value),K.In s.heap→(us ++ ds).length=ps.length→BindsTo s fd ⟨us,[]⟩ (ps.zip (us ++ ds))
theorem Binds.all {K:PySem.W.Frag} {fd:FuncData} {ps:List Str} (h:∀ us:List Value,us.length=ps.length→bindArgs fd ⟨us,[]⟩=pure (ps.zip us)):Binds K fd ps []:=fun s us _ hl=>by
 rw [List.append_nil] at hl ⊢
 exact .of_eq (h us hl)
def Passes (CX:CXT) (X:Cx) (E:XK):Prop:=∀ (pins:List (Addr×Obj)) (σ:St) (H:Hp) (s:Shared) (e:Value) (s':Shared),Inv X pins σ H s→CX X.stack H s E e s'→X.xe e s'
section
variable {X:Cx} {CX:CXT} {k:Nat} {f C:Addr} {fd:FuncData} {ps:List Str} {sp:Sp} {dvs:List V} {ds:List Value} {E:XK} {x m:Str} {p pos apos:Pos} {e o:Expr} {es:List Expr} {ta:TE} {t:TA}
theorem run_fn {pins:List (Addr×Obj)} {σ:St} {H:Hp} {s:Shared} {Q:VK} {us:List Value} {vs:List V} (F:FnOk X.prog X.w X.K X.mg X.base CX k f fd ps sp) (hr:Room k X.A) (hb:Binds X.K fd ps ds) (hd:Vals dvs ds) (hx:Passes CX X E)
  (I:Inv X pins σ H s) (r:Vals vs us) (h:sp (vs ++ dvs) H Q E):wpAny (model X.prog X.w) X.A (call (.ref f) us) (EP X pins σ Q) X.xe s:=by
 have r2:Vals (vs ++ dvs) (us ++ ds):=r.append hd
 have hl:(us ++ ds).length=ps.length:=by rw [← r2.length]; exact F.len _ _ _ _ h
 refine wpAny_call (codeAny_mono (F.run X.A X.stack s H ⟨us,[]⟩ (us ++ ds) (vs ++ dvs) Q E hr I.env0 (hb s us I.kIn hl) r2 h) fun r s' hq=>?_)
 cases r with
 | error e=>exact hx pins σ H s e s' I hq
 | ok fl=>
  cases fl with
  | ret u=>exact I.after hq
  | next=>exact False.elim hq
  | brk=>exact False.elim hq
  | cont=>exact False.elim hq
theorem pe_call (F:FnOk X.prog X.w X.K X.mg X.base CX k f fd ps sp) (hr:Room k X.A) (hg:Gl X x) (hm:X.mg x=some (.ref f)) (hk:PySem.W.keepIn X.K (.ref f)=true) (hb:Binds X.K fd ps ds) (hd:Vals dvs ds) (hx:Passes CX X E)
  (ha:PA X (e::es) t) (hdb:(x==("__debug__":Str))=false:=by decide) (he:starEach (e::es) X.env=(false,eval e X.env)::starEach es X.env:=by rfl) (hpl:(backTo pos (starEach es X.env)).any (·.1)=false:=by rfl):
  PE X (.Call (.Name x p) (e::es) [] pos) (tCall sp dvs E t):=by
 intro pins s σ H Q I h
 refine wpAny_Call_Name_kw (ld_glob I hg hm ?_ hdb)
 refine PySem.W.callWith_K (h₀:=X.base) I.ok.mod.kin hk (thn (ha pos pins s σ H _ I h) fun us s1 ⟨vs,H1,I1,r,q⟩=>⟨I1.kIn,?_⟩) he hpl
 exact run_fn F hr hb hd hx I1 r q
end
section
variable {X:Cx} {CX:CXT} {k:Nat} {f C:Addr} {fd:FuncData} {ps ks:List Str} {sp:Sp} {E:XK} {x m:Str} {p pos apos kpos:Pos} {e o:Expr} {es:List Expr} {kws:List Keyword} {te ta:TE} {t tk:TA} {nm:Option Str}
variable {g:List Value→List Value→List Value} {gV:List V→List V→List V}
end
structure FnScope (N P:List Str) (sc:Scope):Prop where
 kind:sc.kind=.function
 co:sc.isCoroutine=false
 gen:sc.isGenerator=false
 nd:N.Nodup
 pre:N.take P.length=P
 par:∀ x∈P,sc.names.lookup x=some .local∨sc.names.lookup x=some .cell
 nofree:∀ y∈sc.names,y.2≠.free
theorem bindL_out {kindOf:Str→Option NameKind} {x:Str}:∀ {binds:List (Str×Value)} {m:Str→Option Value},(∀ v,(x,v)∉binds)→bindL kindOf binds m x=m x
 | [],_,_=>rfl
 | (n,v)::r,m,h=>by
  unfold bindL
  rw [bindL_out fun w hw=>h w (List.mem_cons_of_mem _ hw)]
  split
  ·have:x≠n:=by rintro rfl; exact h v List.mem_cons_self
   simp [this]
  ·rfl
theorem bindC_out {kindOf:Str→Option NameKind} {x:Str}:∀ {binds:List (Str×Value)} {m:Str→Option Value},(∀ v,(x,v)∉binds)→bindC kindOf binds m x=m x
 | [],_,_=>rfl
 | (n,v)::r,m,h=>by
  unfold bindC
  rw [bindC_out fun w hw=>h w (List.mem_cons_of_mem _ hw)]
  split
  ·rfl
  ·have:x≠n:=by rintro rfl; exact h v List.mem_cons_self
   simp [this]
theorem bindL_get {kindOf:Str→Option NameKind} {x:Str} {v:Value}:∀ {P:List Str} {vs:List Value} {i:Nat} {m:Str→Option Value},P.Nodup→P[i]?=some x→vs[i]?=some v→kindOf x=some .local→
  bindL kindOf (P.zip vs) m x=some v
 | [],_,_,_,_,h,_,_=>by simp at h
 | _::_,[],_,_,_,_,h,_=>by simp at h
 | p::P,w::vs,0,m,nd,h1,h2,hk=>by
  simp at h1 h2; subst h1; subst h2
  show bindL kindOf ((p,w)::P.zip vs) m p=_
  unfold bindL
  rw [bindL_out fun v hv=>(List.nodup_cons.mp nd).1 (List.of_mem_zip hv).1,if_pos hk]
  simp
 | p::P,w::vs,i + 1,m,nd,h1,h2,hk=>by
  show bindL kindOf ((p,w)::P.zip vs) m x=_
  unfold bindL
  exact bindL_get (i:=i) (List.nodup_cons.mp nd).2 (by simpa using h1) (by simpa using h2) hk
theorem bindC_get {kindOf:Str→Option NameKind} {x:Str} {v:Value}:∀ {P:List Str} {vs:List Value} {i:Nat} {m:Str→Option Value},P.Nodup→P[i]?=some x→vs[i]?=some v→kindOf x≠some .local→
  bindC kindOf (P.zip vs) m x=some v
 | [],_,_,_,_,h,_,_=>by simp at h
 | _::_,[],_,_,_,_,h,_=>by simp at h
 | p::P,w::vs,0,m,nd,h1,h2,hk=>by
  simp at h1 h2; subst h1; subst h2
  show bindC kindOf ((p,w)::P.zip vs) m p=_
  unfold bindC
  rw [bindC_out fun v hv=>(List.nodup_cons.mp nd).1 (List.of_mem_zip hv).1,if_neg hk]
  simp
 | p::P,w::vs,i + 1,m,nd,h1,h2,hk=>by
  show bindC kindOf ((p,w)::P.zip vs) m x=_
  unfold bindC
  exact bindC_get (i:=i) (List.nodup_cons.mp nd).2 (by simpa using h1) (by simpa using h2) hk
def start (N:List Str) (vs:List V):St:=vs.map some ++ List.replicate (N.length - vs.length) none
def cxOf (CX:CXT) (P:Program) (w:World) (K:PySem.W.Frag) (mg:Str→Option Value) (base:Heap) (N:List Str) (qual:Str) (scope:Scope) (f:Addr) (cd:Value) (A:Around) (outer:List Env) (s:Shared) (H:Hp) (E:XK):Cx where
 prog:=P
 w:=w
 K:=K
 mg:=mg
 base:=base
 A:=A.deeper (envOfC qual scope s.heap.objs.size f cd)
 N:=N
 s₀:=s
 H₀:=H
 env:=envOfC qual scope s.heap.objs.size f cd
 outer:=outer
 stack:=envOfC qual scope s.heap.objs.size f cd::outer
 ex:=[]
 calm:=true
 fn:=fun _=>true
 pn:=[]
 xe:=fun e s'=>wpAny (model P w) (A.deeper (envOfC qual scope s.heap.objs.size f cd)) (leaving (envOfC qual scope s.heap.objs.size f cd) e) (fun _ s''=>CX outer H s E e s'') (fun e' s''=>CX outer H s E e' s'') s'
theorem cell_has {sc:Scope} {n:Nat} {x:Str} (h:sc.names.lookup x=some .cell):∃ c,(cellsFrom n sc.names []).lookup x=some c:=by
 have q:=PySem.W.cellsFrom_some sc.names n [] (.inl h)
 exact Option.isSome_iff_exists.mp q
theorem inv_start {CX:CXT} {P:Program} {w:World} {K:PySem.W.Frag} {mg:Str→Option Value} {base:Heap} {N ps:List Str} {qual:Str} {scope:Scope} {f:Addr} {cd:Value} {A:Around} {outer:List Env} {s s1:Shared} {H:Hp} {E:XK} {us:List Value} {vs:List V}
  (S:FnScope N ps scope) (hd:A.handled=none) (e0:Env0 P w K mg base A outer s H) (hl:vs.length=ps.length) (r:Vals vs us)
  (x:InCallC s s.heap.objs.size (bindL (envOfC qual scope s.heap.objs.size f cd).kindOf (ps.zip us) fun _=>none) (cellsFrom (s.heap.objs.size + 1) scope.names []) (bindC (envOfC qual scope s.heap.objs.size f cd).kindOf (ps.zip us) fun _=>none) s1):
  Inv (cxOf CX P w K mg base N qual scope f cd A outer s H E) [] (start N vs) H s1:=by
 have hpl:ps.length≤N.length:=by have:=congrArg List.length S.pre; rw [List.length_take] at this; omega
 obtain ⟨h1,tk,rfl,hk⟩:=x.done
 have noA:∀ b:Addr,b∉(cxOf CX P w K mg base N qual scope f cd A outer s H E).ex:=fun b z=>absurd (show b∈([]:List Addr) from z) (by simp)
 refine ⟨⟨e0.mod,S.kind,rfl,rfl,Nat.le_refl _,fun y z c h1 h2=>?_,fun y hy=>?_,fun y c _ h=>?_,fun _=>hd,Around.frames_deeper e0.frames,.inr ⟨rfl,rfl⟩,fun b z=>absurd z (noA b),e0.bs,e0.bsz,fun b _ _=>noA b,fun b z=>absurd z (noA b),e0.funs,e0.frf⟩,
  rfl,e0.bare,Un.kept hk,⟨_,x.toInCall.ns,fun i y v h1 h2 h3=>?_⟩,fun y c h=>⟨_,x.cell y c h⟩,e0.hok.fresh (Nat.le_refl _),fun y c h=>?_,fun p hp=>absurd (show p∈([]:List (Addr×Obj)) from hp) (by simp),e0.hok.kept hk,?_⟩
 ·exact name_of_addr x.apart (PySem.mem_of_lookup h1) (PySem.mem_of_lookup h2)
 ·have hy:scope.names.lookup y=some .cell∨scope.names.lookup y=some .free:=hy
  rcases hy with hy | hy
  ·exact cell_has hy
  ·exact absurd rfl (S.nofree _ (PySem.mem_of_lookup hy))
 ·exact Nat.le_of_lt (x.above y c (PySem.mem_of_lookup h))
 ·have hi:i < vs.length:=by
   unfold start at h2
   by_cases hi:i < vs.length
   ·exact hi
   ·rw [List.getElem?_append_right (by simpa using hi)] at h2
    rw [List.getElem?_replicate] at h2
    split at h2 <;> cases h2
  have ha:vs[i]?=some v:=by
   unfold start at h2
   rw [List.getElem?_append_left (by simpa using hi),List.getElem?_map] at h2
   cases e:vs[i]? with
   | none=>rw [e] at h2; cases h2
   | some a=>rw [e] at h2; cases h2; rfl
  obtain ⟨u,hu,rv⟩:=r.get ha
  have hp:ps[i]?=some y:=by
   rw [← S.pre,List.getElem?_take_of_lt (by omega)]; exact h1
  have ndP:ps.Nodup:=by rw [← S.pre]; exact S.nd.sublist (List.take_sublist _ _)
  refine ⟨u,rv,?_⟩
  rcases S.par y (List.mem_of_getElem? hp) with k | k
  ·exact .inl ⟨k,bindL_get ndP hp hu k⟩
  ·obtain ⟨c,e⟩:=cell_has (n:=s.heap.objs.size + 1) k
   refine .inr ⟨.inl k,c,e,?_⟩
   have q:=x.cell y c e
   rw [bindC_get ndP hp hu (by show scope.names.lookup y≠_; rw [k]; decide)] at q
   exact q
 ·exact e0.hok.fresh (Nat.le_of_lt (x.above y c (PySem.mem_of_lookup h)))
 ·unfold start
  show _=N.length
  rw [List.length_append,List.length_map,List.length_replicate]
  omega
theorem fn_of {CX:CXT} {P:Program} {w:World} {K:PySem.W.Frag} {mg:Str→Option Value} {base:Heap} {k:Nat} {f:Addr} {name qual:Str} {params:Arguments} {body:List Stmt} {scope:Scope} {dV kV doc pm cdv ct oc:Value} {an od:Option Addr}
  {osl:Array (Option Value)} {N ps:List Str} {sp:Sp} (lk:K.lookup f=some ⟨oc,od,.func (PySem.W.fnOf name qual params body scope dV kV doc pm an cdv ct),osl⟩) (hcd:PySem.W.codeIn K cdv qual=true) (S:FnScope N ps scope)
  (len:∀ vs H Q E,sp vs H Q E→vs.length=ps.length)
  (hbody:∀ (A:Around) (outer:List Env) (s:Shared) (H:Hp) (vs:List V) (Q:VK) (E:XK),Room k (A.deeper (envOfC qual scope s.heap.objs.size f cdv))→sp vs H Q E→
   ∃ t,PSs (cxOf CX P w K mg base N qual scope f cdv A outer s H E) body t∧t { nx:=fun _ H'=>Q .non H',rt:=Q } (start N vs) H):
  FnOk P w K mg base CX (k + 1) f (PySem.W.fnOf name qual params body scope dV kV doc pm an cdv ct) ps sp:=by
 refine ⟨len,fun A outer s H args us vs Q E hr e0 hb r hsp=>?_⟩
 have hl:=len _ _ _ _ hsp
 have KX:K.In s.heap:=e0.mod.kin.keeps fun b o e=>(e0.bs b o e).1
 have lim:s.heap.NoLimit:=e0.mod.nolimit.keeps fun b o e=>(e0.bs b o e).1
 have hkind:∀ y∈ps.zip us,scope.names.lookup y.1=some .local∨(scope.names.lookup y.1=some .cell∧((cellsFrom (s.heap.objs.size + 1) scope.names []).lookup y.1).isSome=true):=fun ⟨n,v⟩ hy=>by
  rcases S.par n (List.of_mem_zip hy).1 with q | q
  ·exact .inl q
  ·exact .inr ⟨q,PySem.W.cellsFrom_some _ _ _ (.inl q)⟩
 refine codeAny_call_function hr.depth (KX _ _ lk) rfl S.co S.gen rfl (PySem.W.codeRec_of KX hcd) (hb _ _ _ _ ?_)
 refine wpAny_newFunctionEnv_cells S.kind hkind fun env he s1 x=>?_
 subst he
 refine ⟨lim.keeps x.toInCall.keep,codeAny_func ?_⟩
 obtain ⟨t,ht,hq⟩:=hbody A outer s H vs Q E (hr.deeper _) hsp
 have I:Inv (cxOf CX P w K mg base N qual scope f cdv A outer s H E) [] (start N vs) H s1:=inv_start S hr.hd e0 hl r x
 refine wpAny_mono (ht [] s1 (start N vs) H _ I hq) (fun fl s' hs=>?_) fun e s' hs=>hs
 have fin:∀ {σ':St} {H':Hp} {v:V} {u:Value},Inv (cxOf CX P w K mg base N qual scope f cdv A outer s H E) [] σ' H' s'→RelV v u→Q v H'→CE outer P w H s Q u s':=
  fun {σ' H' v u} J rv q=>⟨v,H',J.os,J.bare,J.base,J.hok,rv,q⟩
 cases fl with
 | ret u=>
  obtain ⟨v,σ',H',J,rv,q⟩:=hs
  exact fin J rv q
 | next=>
  obtain ⟨σ',H',J,q⟩:=hs
  exact fin (v:=V.non) (u:=Value.none) J rfl q
 | brk=>
  obtain ⟨_,_,_,q⟩:=hs
  exact False.elim q
 | cont=>
  obtain ⟨_,_,_,q⟩:=hs
  exact False.elim q
end L2
namespace L2
open PySem PySem.Spec PyProof.Rows
section
variable {X:Cx} {x:Str} {p pos:Pos} {e:Expr} {es:List Expr} {t:TA} {id T:String} {r:List V→Hp→VK→Prop}
def tCB (r:List V→Hp→VK→Prop) (t:TA):TE:=fun σ H Q=>t σ H fun vs H1=>r vs H1 Q
theorem pe_callB (hc:CallR X (.builtin id) r) (hg:Gl X x) (hm:X.mg x=none) (hv:bootBuiltins x=some (.builtin id)) (ha:PA X (e::es) t) (hn:x≠"__name__":=by decide) (hdb:(x==("__debug__":Str))=false:=by decide)
  (he:starEach (e::es) X.env=(false,eval e X.env)::starEach es X.env:=by rfl) (hpl:(backTo pos (starEach es X.env)).any (·.1)=false:=by rfl):PE X (.Call (.Name x p) (e::es) [] pos) (tCB r t):=by
 intro pins s σ H Q I h
 refine wpAny_Call_Name_kw (ld_blt I hg hm hv ?_ hn hdb)
 exact PyProof.Rows.callWith_builtin1 (thn (ha pos pins s σ H _ I h) fun us s1 ⟨vs,H1,I1,r1,q1⟩=>hc pins s1 σ H1 vs us Q I1 r1 q1) he hpl
theorem pe_callTy (hc:CallR X (.type T) r) (hg:Gl X x) (hm:X.mg x=none) (hv:bootBuiltins x=some (.type T)) (ha:PA X (e::es) t) (hn:x≠"__name__":=by decide) (hdb:(x==("__debug__":Str))=false:=by decide)
  (he:starEach (e::es) X.env=(false,eval e X.env)::starEach es X.env:=by rfl) (hpl:(backTo pos (starEach es X.env)).any (·.1)=false:=by rfl):PE X (.Call (.Name x p) (e::es) [] pos) (tCB r t):=by
 intro pins s σ H Q I h
 refine wpAny_Call_Name_kw (ld_blt I hg hm hv ?_ hn hdb)
 exact PyProof.Rows.callWith_type1 (thn (ha pos pins s σ H _ I h) fun us s1 ⟨vs,H1,I1,r1,q1⟩=>hc pins s1 σ H1 vs us Q I1 r1 q1) he hpl
end
end L2
namespace HT
open PySem PyProof.Rows
section
open PySem.SeqAt
open PySem.AutoSeq1 (wpAny_loadPart')
open PySem.MeetsSeq PySem.MeetsSeq2 PySem.MeetsSeq3
end
section
variable {prog:Program} {w:World} {A:Around} {E:Value→Shared→Prop} {s:Shared}
theorem cat_tup {t b:Addr} {vs ws:List Value} {Q:Value→Shared→Prop} (ht:IsTup s.heap t vs.toArray) (hb:IsTup s.heap b ws.toArray) (hv:vs≠[])
  (h1:ws=[]→Q (.ref t) s) (h2:ws≠[]→Q (.ref s.heap.objs.size) { s with heap:=s.heap.push { cls:=.type "tuple",data:=.seq (vs ++ ws).toArray } })
  (hsz:vs.length + ws.length≤sizeLine):wpAny (model prog w) A (binaryOp .Add (.ref t) (.ref b)) Q E s:=by
 obtain ⟨⟨cls,dd,data,sl⟩,ho,hc,n,hd⟩:=id ht
 obtain ⟨⟨cls2,dd2,data2,sl2⟩,ho2,hc2,n2,hd2⟩:=id hb
 simp only at hc hd hc2 hd2
 subst hc hd hc2 hd2
 have e:vs.toArray ++ ws.toArray=(vs ++ ws).toArray:=by simp
 by_cases hw:ws=[]
 ·exact concat_meets ⟨_,ho,rfl⟩ ⟨_,ho2,rfl⟩ noFill_tuple_add seq_tuple_add PySem.F.slot_tuple_add PySem.F.entry_tuple_add (PySem.F.args_tuple_add_2 _ _)
   (tuple_addW1 t b vs.toArray ws.toArray n n2 dd dd2 sl sl2 (by simpa using hv) (by simp [hw])) ⟨ho,ho2,h1 hw⟩
 ·refine concat_meets ⟨_,ho,rfl⟩ ⟨_,ho2,rfl⟩ noFill_tuple_add seq_tuple_add PySem.F.slot_tuple_add PySem.F.entry_tuple_add (PySem.F.args_tuple_add_2 _ _)
   (tuple_addW2 t b vs.toArray ws.toArray n n2 dd dd2 sl sl2 (by simpa using hv) (by simpa using hw) (by rw [List.size_toArray,List.size_toArray]; exact hsz)) ⟨ho,ho2,?_⟩
  rw [e]
  exact h2 hw
def sIx (n d:Nat):Option Int→Nat
 | none=>d
 | some v=>if v < 0 then (v + (n:Int)).toNat else min v.toNat n
theorem sIx_nat (n d k:Nat):sIx n d (some (k:Int))=min k n:=by
 show (if (k:Int) < 0 then ((k:Int) + (n:Int)).toNat else min (k:Int).toNat n)=min k n
 rw [if_neg (by omega),Int.toNat_natCast]
theorem sIx_le (n d:Nat) (hd:d≤n) (o:Option Int):sIx n d o≤n:=by
 cases o with
 | none=>exact hd
 | some v=>
  show (if v < 0 then (v + (n:Int)).toNat else min v.toNat n)≤n
  by_cases hv:v < 0
  ·rw [if_pos hv]; omega
  ·rw [if_neg hv]; exact Nat.min_le_right _ _
theorem clip_eq (v:Int) (n d:Nat):(if v < 0 then max (v + (n:Int)) 0 else min v (n:Int))=((sIx n d (some v):Nat):Int):=by
 show (if v < 0 then max (v + (n:Int)) 0 else min v (n:Int))=(((if v < 0 then (v + (n:Int)).toNat else min v.toNat n):Nat):Int)
 by_cases hv:v < 0
 ·simp only [if_pos hv]; omega
 ·simp only [if_neg hv]; omega
theorem adjust_gen (lo hi:Option Int) (n:Nat):Builtin.Slice.sliceAdjust lo hi 1 (n:Int)=(((sIx n 0 lo:Nat):Int),((sIx n n hi:Nat):Int)):=by
 have h1:¬ ((1:Int) < 0):=by omega
 unfold Builtin.Slice.sliceAdjust
 simp only [h1,if_false]
 refine Prod.ext ?_ ?_
 ·cases lo with
  | none=>rfl
  | some v=>exact clip_eq v n 0
 ·cases hi with
  | none=>rfl
  | some v=>exact clip_eq v n n
theorem places_gen (i j:Nat):Builtin.Slice.slicePlaces (i:Int) (j:Int) 1=j - i:=by
 unfold Builtin.Slice.slicePlaces
 have h1:(1:Int) > 0:=by omega
 simp only [h1,if_true,Int.ediv_one]
 split <;> omega
theorem slicePart_ {v:Value} {o:Option Int} {Q:Option Int→Shared→Prop} (p:IsPart v o) (h:Q o s):wpAny (model prog w) A (Builtin.Slice.slicePartIndex v) Q E s:=by
 cases p with
 | none=>exact slicePart_none h
 | int i t=>exact slicePart_int h
theorem sliceApplied_gen {sl:Addr} {vl vu:Value} {lo hi:Option Int} {n:Nat} {Q:Int×Int×Nat→Shared→Prop} (hs:s.heap.IsSliceOf sl vl vu .none) (pl:IsPart vl lo) (pu:IsPart vu hi)
  (h:Q (((sIx n 0 lo:Nat):Int),1,sIx n n hi - sIx n 0 lo) s):wpAny (model prog w) A (Builtin.Slice.sliceApplied (.ref sl) (pure (n:Int))) Q E s:=by
 obtain ⟨os,hos,hcs,hds⟩:=id hs
 unfold Builtin.Slice.sliceApplied Builtin.Slice.sliceFields
 refine wpAny_bind (wpAny_bind (wpAny_field hos hds (x:=vl) rfl (wpAny_bind (wpAny_field hos hds (x:=vu) rfl (wpAny_bind (wpAny_field hos hds (x:=.none) rfl (wpAny_pure ?_)))))))
 refine wpAny_bind (slicePart_none ?_)
 show wpAny _ _ (if ((1:Int)==0)=true then _ else _) _ _ s
 rw [if_neg (by decide)]
 refine wpAny_bind (slicePart_ pl (wpAny_bind (slicePart_ pu (wpAny_bind (wpAny_pure ?_)))))
 show wpAny _ _ (match Builtin.Slice.sliceAdjust lo hi 1 (n:Int) with | (lo,hi)=>pure (lo,(1:Int),Builtin.Slice.slicePlaces lo hi 1)) _ _ s
 rw [adjust_gen lo hi n]
 show wpAny _ _ (pure (((sIx n 0 lo:Nat):Int),(1:Int),Builtin.Slice.slicePlaces ((sIx n 0 lo:Nat):Int) ((sIx n n hi:Nat):Int) 1)) _ _ s
 rw [places_gen]
 exact wpAny_pure h
theorem pick_gen (xs:Array Value) (i k:Nat):((List.range k).filterMap fun (m:Nat)=>xs[((i:Int) + (m:Int) * 1).toNat]?).toArray=((xs.toList.drop i).take k).toArray:=by
 have e:(fun (m:Nat)=>xs[((i:Int) + (m:Int) * 1).toNat]?)=fun m=>xs[i + m]?:=by
  funext m
  have:((i:Int) + (m:Int) * 1).toNat=i + m:=by omega
  rw [this]
 rw [e]
 have:=pick_run xs i k
 rw [List.filterMap_map] at this
 have e2:((fun x=>xs[x]?)∘fun x=>i + x)=fun m=>xs[i + m]?:=rfl
 rw [e2] at this
 rw [this]
theorem getItem_tuple_cut {t sl:Addr} {items:Array Value} {vl vu:Value} {lo hi:Option Int} {Q:Value→Shared→Prop} (ht:IsTup s.heap t items) (hs:s.heap.IsSliceOf sl vl vu .none) (pl:IsPart vl lo) (pu:IsPart vu hi)
  (hw:¬ (sIx items.size 0 lo=0∧sIx items.size items.size hi=items.size))
  (h:Q (.ref s.heap.objs.size) { s with heap:=s.heap.push { cls:=.type "tuple",data:=.seq ((items.toList.drop (sIx items.size 0 lo)).take (sIx items.size items.size hi - sIx items.size 0 lo)).toArray } })
  (hsz:items.size≤sizeLine):wpAny (model prog w) A (getItem (.ref t) (.ref sl)) Q E s:=by
 have htake:sizeOk (.seq ((items.toList.drop (sIx items.size 0 lo)).take (sIx items.size items.size hi - sIx items.size 0 lo)).toArray):=by
  show ((items.toList.drop (sIx items.size 0 lo)).take (sIx items.size items.size hi - sIx items.size 0 lo)).toArray.size≤sizeLine
  rw [List.size_toArray,List.length_take,List.length_drop,Array.length_toList]
  omega
 have hj:sIx items.size items.size hi≤items.size:=sIx_le _ _ (Nat.le_refl _) hi
 obtain ⟨os,hos,hcs,hds⟩:=id hs
 have hTs:s.TypeIs (.ref sl) "slice":=⟨os,hos,hcs⟩
 unfold getItem
 try with_reducible refine wpAny_holding ?_
 first | refine wpAny_bind (wpAny_pure ?_) | skip
 refine wpAny_bind (wpAny_sequenceKey ht.typeIs (by decide) ?_)
 refine wpAny_bind (wpAny_callSpecial?_slot (name:=Str.ofString "__getitem__") ht.typeIs PyProof.Rows.slot_tuple_getitem
  (wpAny_call_entry PyProof.Rows.slot_tuple_getitem ht.typeIs entry_tuple_getitem ?_ (args_tuple_getitem _ _)))
 show wpAny _ _ (Builtin.Tuple.tupleItemsOf (.ref t) >>= _) _ _ s
 refine wpAny_bind (tupleItemsOf_ ht ?_)
 refine wpAny_bind (wpAny_typeOf hTs ?_)
 rw [if_pos (by decide)]
 refine wpAny_bind (sliceApplied_gen hs pl pu ?_)
 have hno:¬ ((((sIx items.size 0 lo:Nat):Int)==0 && (1:Int)==1 && (sIx items.size items.size hi - sIx items.size 0 lo)==items.size)=true):=by
  intro q
  rw [Bool.and_eq_true,Bool.and_eq_true] at q
  have q1:((sIx items.size 0 lo:Nat):Int)=0:=eq_of_beq q.1.1
  have q2:sIx items.size items.size hi - sIx items.size 0 lo=items.size:=eq_of_beq q.2
  exact hw ⟨by omega,by omega⟩
 show wpAny _ _ (if (((sIx items.size 0 lo:Nat):Int)==0 && (1:Int)==1 && (sIx items.size items.size hi - sIx items.size 0 lo)==items.size)=true then _ else _) _ _ s
 rw [if_neg hno,pick_gen]
 first
  | exact wpAny_bind (m:=Builtin.Tuple.tupleExact _) (wpAny_newObj_type (wpAny_pure ⟨_,rfl,wpAny_pure h⟩) htake)
  | exact wpAny_bind (m:=Builtin.Tuple.tupleExact _) (wpAny_newObj_type (wpAny_bind (wpAny_pure (wpAny_pure ⟨_,rfl,wpAny_pure h⟩))) htake)
  | exact wpAny_bind (wpAny_bind (m:=Builtin.Tuple.tupleExact _) (wpAny_newObj_type (wpAny_pure (wpAny_pure ⟨_,rfl,wpAny_pure h⟩)) htake))
  | exact wpAny_bind (wpAny_bind (m:=Builtin.Tuple.tupleExact _) (wpAny_newObj_type (wpAny_pure ⟨_,rfl,wpAny_pure h⟩) htake))
end
end HT
namespace L2
open PySem PySem.Spec PyProof.Rows
abbrev TO:=St→Hp→(Option Int→Hp→Prop)→Prop
def PO (X:Cx) (e:Option Expr) (t:TO):Prop:=
 ∀ (pins:List (Addr×Obj)) (s:Shared) (σ:St) (H:Hp) (Q:Option Int→Hp→Prop),Inv X pins σ H s→t σ H Q→
  wpAny (model X.prog X.w) X.A (evalPart e X.env) (fun u s'=>∃ o H',Inv X pins σ H' s'∧IsPart u o∧Q o H') X.xe s
def tNoPart:TO:=fun _ H Q=>Q none H
def tPart (t:TE):TO:=fun σ H Q=>t σ H fun x H1=>∃ i,x=.int i∧Q (some i) H1
section
variable {X:Cx} {e:Expr} {te:TE} {lo hi:Option Expr} {tl th:TO} {pos p2:Pos}
theorem po_none:PO X none tNoPart:=by
 intro pins s σ H Q I h
 rw [evalPart_none]
 exact wpAny_pure ⟨none,H,I,.none,h⟩
theorem po_some (h:PE X e te):PO X (some e) (tPart te):=by
 intro pins s σ H Q I hw
 rw [evalPart_some]
 refine thn (h pins s σ H _ I hw) fun u s1 ⟨x,H1,I1,r1,q1⟩=>?_
 obtain ⟨i,rfl,q⟩:=q1
 obtain ⟨t,rfl⟩:=r1
 exact ⟨some i,H1,I1,.int i t,q⟩
def SlR (X:Cx) (r:V→Option Int→Option Int→Hp→VK→Prop):Prop:=
 ∀ (pins:List (Addr×Obj)) (s:Shared) (σ:St) (H:Hp) (x:V) (v vl vu:Value) (lo hi:Option Int) (sl:Addr) (Q:VK),Inv X pins σ H s→RelV x v→s.heap.IsSliceOf sl vl vu .none→IsPart vl lo→IsPart vu hi→r x lo hi H Q→
  ∃ T id,typeLookup (.type T) "__getitem__"=pure (some (.builtin id))∧s.TypeIs v T∧wpAny (model X.prog X.w) X.A (getItem v (.ref sl)) (EP X pins σ Q) X.xe s
def tSl (r:V→Option Int→Option Int→Hp→VK→Prop) (te:TE) (tl th:TO):TE:=fun σ H Q=>te σ H fun x H1=>tl σ H1 fun l H2=>th σ H2 fun u H3=>r x l u H3 Q
theorem pe_slice {r:V→Option Int→Option Int→Hp→VK→Prop} (hr:SlR X r) (he:PE X e te) (hl:PO X lo tl) (hu:PO X hi th):PE X (.Subscript e (.Slice lo hi none p2) pos) (tSl r te tl th):=by
 intro pins s σ H Q I h
 refine Subscript_ (thn (he pins s σ H _ I h) fun v s1 ⟨x,H1,I1,r1,q1⟩=>?_)
 refine wpAny_Slice (thn (hl pins s1 σ H1 _ I1 q1) fun vl s2 ⟨l,H2,I2,pl,q2⟩=>thn (hu pins s2 σ H2 _ I2 q2) fun vu s3 ⟨u,H3,I3,pu,q3⟩=>?_)
 rw [evalPart_none]
 refine wpAny_pure ?_
 have I4:Inv X pins σ H3 { s3 with heap:=s3.heap.push { cls:=.type "slice",data:=.fields #[vl,vu,.none] } }:=I3.kept (t':=s3.toks) fun b ob q=>Heap.get?_push_of_some _ q
 obtain ⟨T,id,hT,ht,hg⟩:=hr pins { s3 with heap:=s3.heap.push { cls:=.type "slice",data:=.fields #[vl,vu,.none] } } σ H3 x v vl vu l u s3.heap.objs.size Q I4 r1 (Heap.IsSliceOf.new ..) pl pu q3
 show wpAny (model X.prog X.w) X.A (subscriptTail e (.Slice lo hi none p2) v (.ref s3.heap.objs.size)) (EP X pins σ Q) X.xe { s3 with heap:=s3.heap.push { cls:=.type "slice",data:=.fields #[vl,vu,.none] } }
 exact tail_any (ops:=[.ref s3.heap.objs.size,v]) ht hT hg (by with_unfolding_all rfl)
def cutV (xs:List V) (lo hi:Option Int):List V:=(xs.drop (HT.sIx xs.length 0 lo)).take (HT.sIx xs.length xs.length hi - HT.sIx xs.length 0 lo)
theorem cutV_length (xs:List V) (lo hi:Option Int):(cutV xs lo hi).length≤xs.length:=by
 unfold cutV
 rw [List.length_take,List.length_drop]
 omega
def rSlT (K:PySem.W.Frag):V→Option Int→Option Int→Hp→VK→Prop:=fun x lo hi H Q=>∃ a xs,x=.ref a∧SqT K H a xs∧
 ¬ (HT.sIx xs.length 0 lo=0∧HT.sIx xs.length xs.length hi=xs.length)∧∀ p,H p=none→Q (.ref p) (upd H p (.tup (cutV xs lo hi)))
theorem sl_tup:SlR X (rSlT X.K):=by
 intro pins s σ H x v vl vu lo hi sl Q I rx hs pl pu h
 obtain ⟨a,xs,rfl,hx,hw,q⟩:=h
 cases rx
 obtain ⟨its,r,ht,hz⟩:=I.tuple hx
 have hlen:its.toArray.size=xs.length:=by rw [List.size_toArray]; exact r.length.symm
 refine ⟨"tuple",_,PyProof.Rows.slot_tuple_getitem.lookup,ht.typeIs,?_⟩
 refine HT.getItem_tuple_cut ht hs pl pu (by rw [hlen]; exact hw) ?_ (by rw [hlen]; exact hz)
 rw [hlen]
 refine ⟨.ref s.heap.objs.size,_,I.laid (t':=s.toks) (o:=.tup (cutV xs lo hi)) (fun b ob q=>Heap.get?_push_of_some _ q) (Nat.le_refl _) ?_,rfl,q _ (I.hok.fresh (Nat.le_refl _))⟩
 exact ⟨Nat.le_trans (cutV_length xs lo hi) hz,_,(r.drop (HT.sIx xs.length 0 lo)).take (HT.sIx xs.length xs.length hi - HT.sIx xs.length 0 lo),IsTup.new _ _⟩
def rCatT (K:PySem.W.Frag):R2:=fun x y H Q=>∃ a b xs ys,x=.ref a∧y=.ref b∧SqT K H a xs∧SqT K H b ys∧xs≠[]∧xs.length + ys.length≤sizeLine∧
 (ys=[]→Q (.ref a) H)∧(ys≠[]→∀ p,H p=none→Q (.ref p) (upd H p (.tup (xs ++ ys))))
theorem Vals.nil_iff {xs:List V} {us:List Value} (r:Vals xs us):us=[]↔xs=[]:=by
 cases r with
 | nil=>simp
 | cons _ _=>simp
theorem op_catT:OpR X (binaryOp .Add) (rCatT X.K):=by
 intro pins s σ H x y v u Q I rx ry h
 obtain ⟨a,b,xs,ys,rfl,rfl,ha,hb,hx,hz,q1,q2⟩:=h
 cases rx
 cases ry
 obtain ⟨its,r1,p1,_⟩:=I.tuple ha
 obtain ⟨its2,r2,p2,_⟩:=I.tuple hb
 refine HT.cat_tup p1 p2 (fun z=>hx (r1.nil_iff.mp z)) (fun z=>⟨.ref a,H,I,rfl,q1 (r2.nil_iff.mp z)⟩) (fun z=>?_) (by rw [← r1.length,← r2.length]; exact hz)
 refine ⟨.ref s.heap.objs.size,_,I.laid (t':=s.toks) (o:=.tup (xs ++ ys)) (fun b ob q=>Heap.get?_push_of_some _ q) (Nat.le_refl _) ?_,rfl,q2 (fun w=>z (r2.nil_iff.mpr w)) _ (I.hok.fresh (Nat.le_refl _))⟩
 exact ⟨by rw [List.length_append]; exact hz,_,r1.append r2,IsTup.new _ _⟩
end
end L2
namespace L2
open PySem PySem.Spec PyProof.Rows
def ixN (n:Nat) (i:Int):Option Nat:=if 0≤i then (if i < n then some i.toNat else none) else if -(n:Int)≤i then some (i + n).toNat else none
def atI {α:Type} (xs:List α) (i:Int):Option α:=(ixN xs.length i).bind fun j=>xs[j]?
theorem ixN_seq {n:Nat} {i:Int} {j:Nat} (h:ixN n i=some j):seqIndex? i n=some j∧j < n∧-(n:Int)≤i∧i < n:=by
 unfold ixN at h
 by_cases h0:0≤i
 ·rw [if_pos h0] at h
  by_cases h1:i < n
  ·rw [if_pos h1] at h
   have e:i.toNat=j:=Option.some.inj h
   exact ⟨by rw [seqIndex_of h0 h1,e],by omega,by omega,h1⟩
  ·rw [if_neg h1] at h; cases h
 ·rw [if_neg h0] at h
  by_cases h1:-(n:Int)≤i
  ·rw [if_pos h1] at h
   have e:(i + n).toNat=j:=Option.some.inj h
   exact ⟨by rw [seqIndex_neg (by omega) h1,e],by omega,h1,by omega⟩
  ·rw [if_neg h1] at h; cases h
theorem atI_get {α:Type} {xs:List α} {i:Int} {v:α} (h:atI xs i=some v):∃ j,seqIndex? i xs.length=some j∧xs[j]?=some v∧j < xs.length∧-(xs.length:Int)≤i∧i < xs.length:=by
 unfold atI at h
 cases e:ixN xs.length i with
 | none=>rw [e] at h; cases h
 | some j=>
  rw [e] at h
  obtain ⟨h1,h2,h3,h4⟩:=ixN_seq e
  exact ⟨j,h1,h,h2,h3,h4⟩
theorem atI_nat {α:Type} {xs:List α} {j:Nat} {v:α} (h:xs[j]?=some v):atI xs (j:Int)=some v:=by
 have hj:j < xs.length:=(List.getElem?_eq_some_iff.mp h).1
 have e:ixN xs.length (j:Int)=some j:=by
  unfold ixN
  rw [if_pos (by omega),if_pos (by omega)]; simp
 unfold atI; rw [e]; exact h
theorem atI_last {α:Type} (xs:List α) (v:α):atI (xs ++ [v]) (-1)=some v:=by
 have hl:(xs ++ [v]).length=xs.length + 1:=by simp
 have e:ixN (xs ++ [v]).length (-1)=some xs.length:=by
  unfold ixN
  rw [hl,if_neg (by decide),if_pos (by omega)]
  congr 1
  omega
 unfold atI
 rw [e]
 show (xs ++ [v])[xs.length]?=some v
 simp
def PlainIx (b:Expr):Prop:=∀ o i,subscripted b false o i=operate [o,i] (getItem o i)
def IxR (X:Cx) (r:R2):Prop:=
 ∀ (value slice:Expr) (pins:List (Addr×Obj)) (s:Shared) (σ:St) (H:Hp) (x y:V) (v u:Value) (Q:VK),Inv X pins σ H s→RelV x v→RelV y u→r x y H Q→
  subscripted slice false v u=operate [v,u] (getItem v u)→wpAny (model X.prog X.w) X.A (subscriptTail value slice v u) (EP X pins σ Q) X.xe s
def MtR (X:Cx) (id:String) (r:V→List V→Hp→VK→Prop):Prop:=
 ∀ (pins:List (Addr×Obj)) (s:Shared) (σ:St) (H:Hp) (x:V) (xs:List V) (v:Value) (us:List Value) (Q:VK),Inv X pins σ H s→RelV x v→Vals xs us→r x xs H Q→
  wpAny (model X.prog X.w) X.A (call (.builtin id) (v::us)) (EP X pins σ Q) X.xe s
section
variable {X:Cx} {a b:Expr} {ta tb:TE} {pos:Pos}
theorem pe_ix {r:R2} (hr:IxR X r) (ha:PE X a ta) (hb:PE X b tb) (hs:PlainIx b):PE X (.Subscript a b pos) (tOp r ta tb):=by
 intro pins s σ H Q I h
 exact Subscript_ (binT ha hb I h fun v u s2 x y H2 I2 rx ry q=>hr a b pins s2 σ H2 x y v u Q I2 rx ry q (hs _ _))
def rIxL (K:PySem.W.Frag):R2:=fun x y H Q=>∃ p xs i v,x=.ref p∧y=.int i∧SqL K H p xs∧atI xs i=some v∧Q v H
def rIxT (K:PySem.W.Frag):R2:=fun x y H Q=>∃ p xs i v,x=.ref p∧y=.int i∧SqT K H p xs∧atI xs i=some v∧Q v H
def rIxS:R2:=fun x y H Q=>∃ z i c,x=.str z∧y=.int i∧z.length≤sizeLine∧atI z.cps.toList i=some c∧Q (.str ⟨#[c]⟩) H
theorem ix_list:IxR X (rIxL X.K):=by
 intro value slice pins s σ H x y v u Q I rx ry h hs
 obtain ⟨p,xs,i,z,rfl,rfl,hq,he,q⟩:=h
 cases rx
 obtain ⟨t,rfl⟩:=ry
 obtain ⟨its,r,pl,hz⟩:=I.list hq
 obtain ⟨j,h1,h2,h3,h4,h5⟩:=atI_get he
 obtain ⟨w,ew,rw'⟩:=r.get h2
 have hl:=r.length
 have hn:=line63
 have fin:EP X pins σ Q w s:=⟨z,H,I,rw',q⟩
 by_cases h0:0≤i
 ·have hj:i.toNat=j:=by
   rw [seqIndex_of h0 h5] at h1
   exact Option.some.inj h1
  exact item_listR pl.isList h0 (by omega) (by rw [hj]; simpa using ew) fin hs
 ·have hj:(i + (its.toArray.size:Int)).toNat=j:=by
   rw [seqIndex_neg (by omega) h4] at h1
   rw [List.size_toArray,← hl]
   exact Option.some.inj h1
  exact subscriptTail_builtinR (x:=w) pl.isList.typeIs slot_list_getitem.lookup
   (wpAny_getItem_list_neg (Q:=fun r s'=>r=w∧EP X pins σ Q r s') pl.isList (by omega) (by rw [List.size_toArray] <;> omega) (by omega) (by rw [hj]; simpa using ew) ⟨rfl,fin⟩) hs
theorem ix_tup:IxR X (rIxT X.K):=by
 intro value slice pins s σ H x y v u Q I rx ry h hs
 obtain ⟨p,xs,i,z,rfl,rfl,hq,he,q⟩:=h
 cases rx
 obtain ⟨t,rfl⟩:=ry
 obtain ⟨its,r,pl,hz⟩:=I.tuple hq
 obtain ⟨j,h1,h2,h3,h4,h5⟩:=atI_get he
 obtain ⟨w,ew,rw'⟩:=r.get h2
 have hl:=r.length
 have hn:=line63
 have fin:EP X pins σ Q w s:=⟨z,H,I,rw',q⟩
 exact subscriptTail_builtinR (x:=w) pl.typeIs slot_tuple_getitem.lookup
  (getItem_tuple (j:=j) (Q:=fun r s'=>r=w∧EP X pins σ Q r s') pl (by omega) (by omega) (by rw [List.size_toArray,← hl]; exact h1) (by simpa using ew) ⟨rfl,fin⟩) hs
theorem ix_str:IxR X rIxS:=by
 intro value slice pins s σ H x y v u Q I rx ry h hs
 obtain ⟨z,i,c,rfl,rfl,hz,he,q⟩:=h
 obtain ⟨t,rfl⟩:=rx
 obtain ⟨t',rfl⟩:=ry
 obtain ⟨j,h1,h2,h3,h4,h5⟩:=atI_get he
 have hl:z.cps.toList.length=z.length:=by simp [Str.length]
 rw [hl] at h1 h4 h5
 have hn:=line63
 exact tail_any (typeIs_str s z t) slot_str_getitem.lookup (getItem_str (c:=c) (by
  have e1:decide (i < -(2 ^ 63:Int))=false:=decide_eq_false (by omega)
  have e2:decide (i≥2 ^ 63)=false:=decide_eq_false (by omega)
  rw [e1,e2,Bool.or_false]) (by rw [h1]; simpa using h2) ⟨.str ⟨#[c]⟩,H,I.tok _,⟨_,rfl⟩,q⟩) hs
theorem mapSeq_set (its:List Value) (n j:Nat) (u:Value):Obj.mapSeq (·.setIfInBounds j u) { cls:=.type "list",data:=.seq its.toArray n }={ cls:=.type "list",data:=.seq (its.set j u).toArray n }:=by
 simp [Obj.mapSeq]
theorem Inv.lst {pins:List (Addr×Obj)} {σ:St} {H:Hp} {s:Shared} {p:Addr} {xs:List V} (I:Inv X pins σ H s) (h:H p=some (.lst xs)):
  ∃ (its:List Value) (n:Nat),Vals xs its∧s.heap.get? p=some { cls:=.type "list",data:=.seq its.toArray n }∧xs.length≤sizeLine:=by
 obtain ⟨z,its,n,r,e⟩:=I.hok p _ h
 exact ⟨its,n,r,e,z⟩
theorem Inv.lstUpd {pins:List (Addr×Obj)} {σ:St} {H:Hp} {s:Shared} {p:Addr} {xs ys:List V} {its its':List Value} {n n':Nat} {f:Obj→Obj} (I:Inv X pins σ H s) (h:H p=some (.lst xs))
  (ho:s.heap.get? p=some { cls:=.type "list",data:=.seq its.toArray n }) (hf:f { cls:=.type "list",data:=.seq its.toArray n }={ cls:=.type "list",data:=.seq its'.toArray n' }) (r:Vals ys its') (hz:ys.length≤sizeLine) (t:Nat):
  Inv X pins σ (upd H p (.lst ys)) { s with heap:=s.heap.update p f,toks:=t }:=by
 have e:(s.heap.update p f).get? p=some { cls:=.type "list",data:=.seq its'.toArray n' }:=by
  rw [Heap.get?_update_self f ho (by rw [hf] <;> rfl),hf]
 refine I.write (x:=p) (e:=p) (by rw [h]; trivial) (.inl rfl) (fun b u hb q=>(Heap.get?_update_other _ _ (Ne.symm hb)).trans q) ⟨_,e⟩ ?_
 exact ⟨hz,its',n',r,e⟩
def rSetL:V→V→V→Hp→(Hp→Prop)→Prop:=fun o i v H Q=>∃ p xs k j,o=.ref p∧i=.int k∧H p=some (.lst xs)∧ixN xs.length k=some j∧Q (upd H p (.lst (xs.set j v)))
theorem set_list:PSet X rSetL:=by
 intro pins s σ H o i v ov iv u Q I ro ri rv h
 obtain ⟨p,xs,k,j,rfl,rfl,hp,hj,q⟩:=h
 cases ro
 obtain ⟨t,rfl⟩:=ri
 obtain ⟨its,n,r,ho,hz⟩:=I.lst hp
 obtain ⟨h1,h2,h3,h4⟩:=ixN_seq hj
 have hl:=r.length
 have hn:=line63
 have I':Inv X pins σ (upd H p (.lst (xs.set j v))) { s with heap:=s.heap.update p (Obj.mapSeq (·.setIfInBounds j u)) }:=
  I.lstUpd hp ho (mapSeq_set its n j u) (r.set rv j) (by rw [List.length_set]; exact hz) s.toks
 by_cases h0:0≤k
 ·have hk:k.toNat=j:=by
   rw [seqIndex_of h0 h4] at h1
   exact Option.some.inj h1
  exact PySem.W.ki_setAt ho h0 (by omega) (by rw [List.size_toArray,← hl]; exact h4) (by rw [hk]; exact ⟨_,I',q⟩)
 ·have hk:(k + (its.toArray.size:Int)).toNat=j:=by
   rw [seqIndex_neg (by omega) h3] at h1
   rw [List.size_toArray,← hl]
   exact Option.some.inj h1
  exact PySem.W.ki_setBack ho (by omega) (by rw [List.size_toArray,← hl]; exact h3) (by omega) (by rw [hk]; exact ⟨_,I',q⟩)
theorem slice_bounds (lo hi:Option Int) (n:Nat):(sliceBounds lo hi none n).1=((HT.sIx n 0 lo:Nat):Int)∧(sliceBounds lo hi none n).2.1=((HT.sIx n n hi:Nat):Int)∧(sliceBounds lo hi none n).2.2=1:=by
 refine ⟨?_,?_,rfl⟩
 ·cases lo with
  | none=>simp [sliceBounds,HT.sIx]
  | some i=>
   simp only [sliceBounds,HT.sIx,Option.getD_none,show (1:Int) > 0 by decide,if_true]
   by_cases h:i < 0
   ·simp only [h,if_true] <;> omega
   ·simp only [h,if_false] <;> omega
 ·cases hi with
  | none=>simp [sliceBounds,HT.sIx]
  | some i=>
   simp only [sliceBounds,HT.sIx,Option.getD_none,show (1:Int) > 0 by decide,if_true]
   by_cases h:i < 0
   ·simp only [h,if_true] <;> omega
   ·simp only [h,if_false] <;> omega
theorem slicePick_cut (its:List Value) (lo hi:Option Int):slicePick its.toArray lo hi none=((its.drop (HT.sIx its.length 0 lo)).take (HT.sIx its.length its.length hi - HT.sIx its.length 0 lo)).toArray:=by
 obtain ⟨h1,h2,h3⟩:=slice_bounds lo hi its.toArray.size
 unfold slicePick
 rw [h1,h2,h3]
 simp only [sliceRange_one,pick_run,List.size_toArray] <;> rfl
def rSlL (K:PySem.W.Frag):V→Option Int→Option Int→Hp→VK→Prop:=fun x lo hi H Q=>∃ a xs,x=.ref a∧SqL K H a xs∧∀ p,H p=none→Q (.ref p) (upd H p (.lst (cutV xs lo hi)))
theorem sl_list:SlR X (rSlL X.K):=by
 intro pins s σ H x v vl vu lo hi sl Q I rx hs pl pu h
 obtain ⟨a,xs,rfl,hx,q⟩:=h
 cases rx
 obtain ⟨its,r,ht,hz⟩:=I.list hx
 have hlen:=r.length
 refine ⟨"list",_,slot_list_getitem.lookup,ht.isList.typeIs,?_⟩
 refine wpAny_getItem_list_slice ht.isList hs pl pu .none (by simp) ?_ (by rw [List.size_toArray] <;> omega)
 rw [slicePick_cut,← hlen]
 refine ⟨.ref s.heap.objs.size,_,I.laid (t':=s.toks) (o:=.lst (cutV xs lo hi)) (fun b ob q=>Heap.get?_push_of_some _ q) (Nat.le_refl _) ?_,rfl,q _ (I.hok.fresh (Nat.le_refl _))⟩
 exact ⟨Nat.le_trans (cutV_length xs lo hi) hz,_,0,(r.drop (HT.sIx xs.length 0 lo)).take (HT.sIx xs.length xs.length hi - HT.sIx xs.length 0 lo),Heap.get?_push_size _ rfl⟩
theorem call_len_seq:CallR X (.builtin "len") (fun xs H Q=>∃ p ys,xs=[.ref p]∧(SqL X.K H p ys∨SqT X.K H p ys)∧Q (.int ys.length) H):=by
 intro pins s σ H xs us Q I r h
 obtain ⟨p,ys,rfl,hq,q⟩:=h
 obtain ⟨u,rfl,rx⟩:=vals1 r
 cases rx
 have hn:=line63
 rcases hq with hq | hq
 ·obtain ⟨its,r',pl,hz⟩:=I.list hq
  have hlen:=r'.length
  exact Calls.call_len_list pl.isList (by simp only [List.size_toArray] <;> omega) ⟨.int ys.length,H,I.tok _,⟨s.toks + 1,by rw [List.size_toArray,hlen]⟩,q⟩
 ·obtain ⟨its,r',pl,hz⟩:=I.tuple hq
  have hlen:=r'.length
  exact len_tuple pl (by simp only [List.size_toArray] <;> omega) ⟨.int ys.length,H,I.tok _,⟨s.toks + 1,by rw [List.size_toArray,hlen]⟩,q⟩
theorem call_len_str:CallR X (.builtin "len") (fun xs H Q=>∃ z,xs=[.str z]∧z.length≤sizeLine∧Q (.int z.length) H):=by
 intro pins s σ H xs us Q I r h
 obtain ⟨z,rfl,hz,q⟩:=h
 obtain ⟨u,rfl,t,rfl⟩:=vals1 r
 have hn:=line63
 exact len_str (by omega) ⟨.int z.length,H,I.tok _,⟨_,rfl⟩,q⟩
theorem call_list_of:CallR X (.type "list") (fun xs H Q=>∃ p ys,xs=[.ref p]∧(SqL X.K H p ys∨SqT X.K H p ys)∧∀ l,H l=none→Q (.ref l) (upd H l (.lst ys))):=by
 intro pins s σ H xs us Q I r h
 obtain ⟨p,ys,rfl,hq,q⟩:=h
 obtain ⟨u,rfl,rx⟩:=vals1 r
 cases rx
 have fin:∀ (its:List Value),Vals ys its→ys.length≤sizeLine→∀ (h':Heap) (c':Nat),(∀ b o',s.heap.get? b=some o'→h'.get? b=some o')→
   h'.get? s.heap.objs.size=some { cls:=.type "list",dict:=none,data:=.seq its.toArray c',slots:=#[] }→EP X pins σ Q (.ref s.heap.objs.size) { s with heap:=h' }:=fun its r' hz h' c' kp e=>
  ⟨.ref s.heap.objs.size,_,I.laid (t':=s.toks) kp (Nat.le_refl _) (show ObjOk X.prog X.w _ h' _ (.lst ys) from ⟨hz,its,c',r',e⟩),rfl,q _ (I.hok.fresh (Nat.le_refl _))⟩
 rcases hq with hq | hq
 ·obtain ⟨its,r',pl,hz⟩:=I.list hq
  have hlen:=r'.length
  obtain ⟨o,ho,hc,n,hd⟩:=pl.isList
  exact call_list_seq p (.inl rfl) ho hc hd (fun h' c' kp e=>fin its r' hz h' c' kp e) (by simp only [List.size_toArray] <;> omega)
 ·obtain ⟨its,r',pl,hz⟩:=I.tuple hq
  have hlen:=r'.length
  obtain ⟨o,ho,hc,n,hd⟩:=pl
  exact call_list_seq p (.inr rfl) ho hc hd (fun h' c' kp e=>fin its r' hz h' c' kp e) (by simp only [List.size_toArray] <;> omega)
theorem call_tuple_of:CallR X (.type "tuple") (fun xs H Q=>∃ p ys,xs=[.ref p]∧((SqL X.K H p ys∧∀ l,H l=none→Q (.ref l) (upd H l (.tup ys)))∨(SqT X.K H p ys∧Q (.ref p) H))):=by
 intro pins s σ H xs us Q I r h
 obtain ⟨p,ys,rfl,h⟩:=h
 obtain ⟨u,rfl,rx⟩:=vals1 r
 cases rx
 rcases h with ⟨hq,q⟩ | ⟨hq,q⟩
 ·obtain ⟨its,r',pl,hz⟩:=I.list hq
  have hlen:=r'.length
  refine call_tuple_list pl.isList (fun h' kp=>?_) (by simp only [List.size_toArray] <;> omega)
  have I1:Inv X pins σ H { s with heap:=h' }:=I.kept (t':=s.toks) kp
  have I2:Inv X pins σ (upd H h'.objs.size (.tup ys)) { s with heap:=h'.push { cls:=.type "tuple",data:=.seq its.toArray } }:=
   I1.laid (t':=s.toks) (fun b o e=>Heap.get?_push_of_some _ e) (Nat.le_refl _) (show ObjOk X.prog X.w _ _ _ (.tup ys) from ⟨hz,its,r',IsTup.new _ _⟩)
  exact ⟨.ref h'.objs.size,_,I2,rfl,q _ (I1.hok.fresh (Nat.le_refl _))⟩
 ·obtain ⟨its,r',pl,hz⟩:=I.tuple hq
  exact call_tuple_same pl ⟨.ref p,H,I,rfl,q⟩
def tyV (K:PySem.W.Frag) (T:String) (x:V) (H:Hp):Prop:=match x with
 | .str _=>T="str"
 | .int _=>T="int"
 | .ref p=>(T="list"∧∃ xs,SqL K H p xs)∨(T="tuple"∧∃ o,K.lookup p=some o∧o.cls=.type "tuple"∧o.dict=none)∨
   (T="dict"∧((∃ kvs,H p=some (.dK kvs))∨∃ kvs,H p=some (.dT kvs)))∨(T="set"∧∃ S n,H p=some (.set S n))
 | _=>False
theorem tyV_is {pins:List (Addr×Obj)} {σ:St} {H:Hp} {s:Shared} {T:String} {x:V} {v:Value} (I:Inv X pins σ H s) (r:RelV x v) (ty:tyV X.K T x H):
  s.TypeIs v T∧∀ a,v=.ref a→∃ ob,s.heap.get? a=some ob∧ob.dict=none:=by
 cases x with
 | str z=>
  obtain ⟨t,rfl⟩:=r
  cases (show T="str" from ty)
  exact ⟨typeIs_str s z t,fun _ e=>nomatch e⟩
 | int i=>
  obtain ⟨t,rfl⟩:=r
  cases (show T="int" from ty)
  exact ⟨typeIs_int s i t,fun _ e=>nomatch e⟩
 | ref p=>
  cases r
  rcases ty with ⟨rfl,xs,hq⟩ | ⟨rfl,o,hk,hc,hd⟩ | ⟨rfl,hk⟩ | ⟨rfl,S,n,hk⟩
  ·obtain ⟨its,_,pl,_⟩:=I.list hq
   refine ⟨pl.isList.typeIs,fun a e=>?_⟩
   cases e
   obtain ⟨o,n,e,c,hd,_⟩:=pl
   exact ⟨o,e,hd⟩
  ·refine ⟨⟨o,I.kIn p o hk,hc⟩,fun a e=>?_⟩
   cases e
   exact ⟨o,I.kIn _ o hk,hd⟩
  ·have z:∃ o,s.heap.get? p=some o∧o.ExactDict:=by
    rcases hk with ⟨kvs,hk⟩ | ⟨kvs,hk⟩
    ·obtain ⟨_,_,_,_,o,_,_,e,ex,_⟩:=I.hok p _ hk
     exact ⟨o,e,ex⟩
    ·obtain ⟨_,_,_,_,o,_,_,e,ex,_⟩:=I.hok p _ hk
     exact ⟨o,e,ex⟩
   obtain ⟨o,e,ex⟩:=z
   refine ⟨⟨o,e,ex.1⟩,fun a e2=>?_⟩
   cases e2
   exact ⟨o,e,ex.2.1⟩
  ·obtain ⟨o,_,_,_,e,ex,_⟩:=I.hok p _ hk
   refine ⟨⟨o,e,ex.1⟩,fun a e2=>?_⟩
   cases e2
   exact ⟨o,e,ex.2.1⟩
 | _=>exact False.elim ty
def tBM (K:PySem.W.Frag) (T:String) (r:V→List V→Hp→VK→Prop) (to:TE) (t:TA):TE:=fun σ H Q=>to σ H fun x H1=>tyV K T x H1∧t σ H1 fun xs H2=>r x xs H2 Q
variable {o e:Expr} {es:List Expr} {to:TE} {t:TA} {name:Str} {apos cpos:Pos} {T id:String} {r:V→List V→Hp→VK→Prop}
theorem pe_bm (pa:PlainAttrs T) (slot:Slot T name id) (hty:typeOf (.builtin id)=pure (.type "method_descriptor")) (hm:MtR X id r) (ho:PE X o to) (ha:PA X (e::es) t)
  (hbase:attributeBase o name X.env (eval o X.env)=eval o X.env:=by rfl)
  (hfew:((backTo cpos (starEach (e::es) X.env)).all (fun x=>!x.1) && (backToKw cpos (keywordEach [] X.env)).all (fun x=>x.1.isSome)
   && decide ((e::es).length + ([]:List Keyword).length + (if ([]:List Keyword).isEmpty then 0 else 1) < 30))=true:=by rfl)
  (hline:(apos.endLine==cpos.line)=true:=by rfl) (hs:starEach (e::es) X.env=(false,eval e X.env)::starEach es X.env:=by rfl) (hplain:(backTo cpos (starEach es X.env)).any (·.1)=false:=by rfl):
  PE X (.Call (.Attribute o name apos) (e::es) [] cpos) (tBM X.K T r to t):=by
 intro pins s σ H Q I h
 refine wpAny_Call_method_late hbase hfew hline rfl (thn (ho pins s σ H _ I h) fun v s1 ⟨x,H1,I1,r1,ty,q1⟩=>?_)
 obtain ⟨h1,h2⟩:=tyV_is I1 r1 ty
 refine ⟨T,id,pa,slot,hty,h1,h2,?_⟩
 have hA:=ha cpos pins s1 σ H1 _ I1 q1
 rw [hs] at hA ⊢
 refine Calls.callWith_builtin (by show (false || (backTo cpos (starEach es X.env)).any (·.1))=false; rw [hplain] <;> rfl) (Calls.evalArgs_plain ?_)
 exact thn hA fun us s2 ⟨vs,H2,I2,r2,q2⟩=>hm pins s2 σ H2 x vs v us Q I2 r1 r2 q2
end
end L2
namespace L2
open PySem PySem.Spec PyProof.Rows
def MtM (X:Cx) (id:String) (r:V→List V→Hp→VK→Prop):Prop:=
 ∀ (pins:List (Addr×Obj)) (s:Shared) (σ:St) (H:Hp) (x:V) (xs:List V) (v:Value) (us:List Value) (Q:VK),Inv X pins σ H s→RelV x v→Vals xs us→r x xs H Q→
  wpAny (model X.prog X.w) X.A (call (.builtin id) (v::us)) (EP X pins σ Q) X.xe s
theorem Vals.one:∀ {x:V} {us:List Value},Vals [x] us→∃ u,us=[u]∧RelV x u
 | _,_,.cons r .nil=>⟨_,rfl,r⟩
theorem Vals.reverse {xs:List V} {us:List Value} (h:Vals xs us):Vals xs.reverse us.reverse:=by
 induction h with
 | nil=>exact .nil
 | cons r t ih=>rw [List.reverse_cons,List.reverse_cons]; exact Vals.append ih (.cons r .nil)
section
variable {X:Cx} {pins:List (Addr×Obj)} {σ:St} {H:Hp} {s:Shared} {l b:Addr} {xs ys zs:List V}
theorem Inv.lset {its its':List Value} {n:Nat} {f:Array Value→Array Value} {t':Nat} (I:Inv X pins σ H s) (hH:H l=some (.lst xs))
  (e:s.heap.get? l=some { cls:=.type "list",data:=.seq its.toArray n }) (hf:f its.toArray=its'.toArray) (hv:Vals ys its') (hz:ys.length≤sizeLine):
  Inv X pins σ (upd H l (.lst ys)) { s with heap:=s.heap.update l (Obj.mapSeq f),toks:=t' }:=by
 have q:=PySem.IsL.update e f
 rw [hf] at q
 refine I.write (x:=l) (e:=l) (by rw [hH]; exact trivial) (.inl rfl) (fun b' u hb hu=>(Heap.get?_update_other s.heap (Obj.mapSeq f) (Ne.symm hb)).trans hu) ⟨_,q⟩ ?_
 exact ⟨hz,its',_,hv,q⟩
theorem Inv.lnew {its:List Value} {t':Nat} (I:Inv X pins σ H s) (hv:Vals ys its) (hz:ys.length≤sizeLine):
  Inv X pins σ (upd H s.heap.objs.size (.lst ys)) { s with heap:=s.heap.push { cls:=.type "list",data:=.seq its.toArray },toks:=t' }:=
 I.laid (fun _ _ q=>Heap.get?_push_of_some _ q) (Nat.le_refl _) ⟨hz,its,0,hv,Heap.get?_push_size _ rfl⟩
theorem Inv.fresh (I:Inv X pins σ H s):H s.heap.objs.size=none:=I.hok.fresh (Nat.le_refl _)
theorem Inv.lstM (I:Inv X pins σ H s) (hH:H l=some (.lst xs)):xs.length≤sizeLine∧∃ (its:List Value) (n:Nat),Vals xs its∧xs.length=its.length∧s.heap.get? l=some { cls:=.type "list",data:=.seq its.toArray n }:=by
 obtain ⟨z,its,n,r,e⟩:=I.hok l _ hH
 exact ⟨z,its,n,r,r.length,e⟩
theorem notLongL {n:Nat} (h:n≤sizeLine):Builtin.List.listTooLong n=false:=by
 unfold Builtin.List.listTooLong
 exact decide_eq_false (by omega)
end
section
variable {X:Cx}
def rAppend:V→List V→Hp→VK→Prop:=fun x vs H Q=>∃ l xs y,x=.ref l∧vs=[y]∧H l=some (.lst xs)∧xs.length < sizeLine∧Q .non (upd H l (.lst (xs ++ [y])))
theorem mt_append:MtM X "list.append" rAppend:=by
 intro pins s σ H x vs v us Q I rx rv h
 obtain ⟨l,xs,y,rfl,rfl,hH,hz,q⟩:=h
 cases rx
 obtain ⟨u,rfl,ru⟩:=rv.one
 obtain ⟨z,its,n,r,hl,e⟩:=I.lstM hH
 refine call_meets F.slot_list_append ⟨_,e,rfl⟩ F.entry_list_append (F.args_list_append_2 _ _) (PySem.list_append l its.toArray n u (by rw [List.size_toArray]; omega)) ⟨e,?_⟩
 refine ⟨.non,_,I.lset (its':=its ++ [u]) hH e (by simp) (r.append (.cons ru .nil)) ?_,rfl,q⟩
 rw [List.length_append,List.length_singleton]
 omega
def rExtend:V→List V→Hp→VK→Prop:=fun x vs H Q=>∃ l b xs zs,x=.ref l∧vs=[.ref b]∧H l=some (.lst xs)∧H b=some (.lst zs)∧xs.length + zs.length≤sizeLine∧Q .non (upd H l (.lst (xs ++ zs)))
theorem mt_extend:MtM X "list.extend" rExtend:=by
 intro pins s σ H x vs v us Q I rx rv h
 obtain ⟨l,b,xs,zs,rfl,rfl,hH,hB,hz,q⟩:=h
 cases rx
 obtain ⟨u,rfl,ru⟩:=rv.one
 cases ru
 obtain ⟨z,its,n,r,hl,e⟩:=I.lstM hH
 obtain ⟨z2,its2,n2,r2,hl2,e2⟩:=I.lstM hB
 have hsz:its.toArray.size + its2.toArray.size≤sizeLine:=by rw [List.size_toArray,List.size_toArray]; omega
 have hlong:¬ (!its.toArray.isEmpty && Builtin.List.listTooLong (its.toArray.size + its2.toArray.size))=true:=by
  rw [notLongL hsz,Bool.and_false]
  exact Bool.false_ne_true
 refine call_meets F.slot_list_extend ⟨_,e,rfl⟩ F.entry_list_extend (F.args_list_extend_2 _ _)
  (AutoSeq1.list_extend_list_list_0 l its.toArray n b its2.toArray n2 hlong (by rw [List.size_toArray]; omega) (by omega)) ⟨e,e2,?_⟩
 refine ⟨.non,_,I.lset (its':=its ++ its2) hH e (by simp) (r.append r2) ?_,rfl,q⟩
 rw [List.length_append]
 omega
theorem len_rep {α:Type} (xs:List α) (k:Nat):(List.replicate k xs).flatten.length=k * xs.length:=by
 induction k with
 | zero=>simp
 | succ k ih=>rw [List.replicate_succ,List.flatten_cons,List.length_append,ih,Nat.succ_mul,Nat.add_comm]
end
section
variable {prog:Program} {w:World} {A:Around} {E:Value→Shared→Prop} {s:Shared}
end
section
variable {X:Cx}
end
end L2
namespace Att
open PySem PySem.W PySem.Calls PyProof.Rows
theorem ints_of_wellAll {P:Params} {h:Heap}:∀ (ns:List Int) (vs:List Value),WellAll P h vs (ns.map WData.int)→IntsAre vs ns:=by
 intro ns
 induction ns with
 | nil=>
  intro vs w
  rw [List.map_nil] at w
  cases w
  exact .nil
 | cons n ns ih=>
  intro vs w
  rw [List.map_cons] at w
  cases w with
  | cons a b=>
   cases a
   exact .cons _ _ (ih _ b)
theorem script_of {l:OpenLaw} {n:Nat} (hn:l.most=some n) {P:Params} {h:Heap} {args:List WData} {vals:List Value}
  (hpre:l.row.toRowW.claim.pre args=true) (hwl:WellAll P h vals args):
  ∃ a vs ns,vals=[Value.ref a]∧args=[WData.list (ns.map WData.int)]∧h.get? a=some { cls:=.type "list",data:=.seq vs.toArray }∧IntsAre vs ns∧ns.length≤n:=by
 have hsh:WShape.hasAll [] args [.list .int]=true:=(pre_splitW hpre).1
 have hc:l.pre.holds [] { args:=args }=true:=(pre_splitW hpre).2
 obtain ⟨d,r,rfl,h1,h2⟩:=hasAllW_cons hsh
 obtain rfl:=hasAllW_nil h2
 obtain ⟨xs,rfl,h3⟩:=hasW_list h1
 obtain ⟨ns,rfl⟩:=items_int h3
 have hlen:ns.length≤n:=by
  unfold OpenLaw.pre at hc
  have h4:(WTm.not (.lt (.lit (.int (n:Int))) (.len (.arg 0)))).holds [] { args:=[.list (ns.map .int)] }=true:=by
   have h4:=(holds_andW hc).1
   rw [hn] at h4
   exact h4
  have h5:=condW_of h4 (w_not (w_lt w_lit (w_len_list (w_arg rfl))))
  rw [List.length_map] at h5
  refine Nat.le_of_not_lt fun q=>?_
  have q':(n:Int) < ((ns.length:Nat):Int):=by omega
  first
   | (rw [decide_eq_true q'] at h5; exact absurd h5 (by decide))
   | (simp at h5; omega)
 cases hwl with
 | cons w1 w2=>
  cases w2
  cases w1 with
  | list ho hall=>exact ⟨_,_,ns,rfl,rfl,ho,ints_of_wellAll ns _ hall,hlen⟩
theorem post_true (l:OpenLaw) (args:List WData):l.row.toRowW.claim.post args (.bool true) args=true:=
 postW_of (r:=l.row.toRowW) (X:=(true==true))
  (show WShape.has [] (.bool true) .bool=true by first | rfl | decide | simp [WShape.has,WShape.arms,WShape.armsAll])
  (show (WTm.eq .res (.lit (.bool true))).value [] { args:=args,res:=some (.bool true),after:=args }=some (.bool (true==true)) from w_eq_bool (w_res rfl) w_lit) rfl
theorem attach_call {l:OpenLaw} {n:Nat} {q:Program} {loose:List Str} {XP:(Str→Option Value)→Heap→Prop} {YP:World→Heap→Prop} {d:DefRec}
  (hn:l.most=some n) (hdf:d.params.defaults=[])
  (call:∀ (w:World) (s₀ s₁:Shared) (mg mb:Str→Option Value) (fa:Addr) (o:Obj) (pm cd doc:Value) (a:Addr) (vs:List Value) (ns:List Int),
   Ground q loose [] XP w s₀ mg mb s₁.heap→YP w s₁.heap→
   s₁.heap.get? fa=some o→o.data=.func (docDef d.name d.params d.body d.scope pm cd doc)→s₁.heap.CodeRec cd d.name→mg d.name=some (.ref fa)→
   s₁.heap.get? a=some { cls:=.type "list",data:=.seq vs.toArray }→IntsAre vs ns→ns.length≤n→s₁.gens=#[]→
   codeAny (model l.prog w) callerA (.call (.ref fa) ⟨[.ref a],[]⟩) (fun r s'=>r=.ok (.ret (.bool true))∧OldK s₁.heap s'.heap∧s'.os=s₁.os∧AllBare s'.gens) s₁):
  WalkO q loose XP YP l.row.toRowW d [] (fun f vs=>PySem.call f vs):=by
 intro w s₀ s₁ mg mb G Y fa o pm cd doc dV kV ho hd hcd hD hmg hg args vals as hpre hlay hrd hwl hlo
 obtain rfl:dV=.none:=Dflts.none hD hdf
 obtain rfl:kV=.none:=Dflts.noKw hD
 obtain ⟨a,vs,ns,rfl,rfl,hobj,hints,hlen⟩:=script_of hn hpre hwl
 refine enter_call (codeAny_mono (call w s₀ s₁ mg mb fa o pm cd doc a vs ns G Y ho (fd_plain hd) hcd hmg hobj hints hlen hg) fun r s' hq=>?_)
 obtain ⟨rfl,h2,h3,h4⟩:=hq
 exact ⟨.inl ⟨.bool true,.bool true,[],rfl,fun _=>rfl,.bool true,post_true l _,fun _=>⟨List.Pairwise.nil,fun _ hm=>(nomatch hm)⟩⟩,h2,h3,h4⟩
section
variable {prog:Program} {w:World} {A:Around} {E:Value→Shared→Prop} {s:Shared} {K:Frag}
end
end Att
namespace L2
open PySem PySem.Spec PyProof.Rows
theorem vals_ints:∀ {vs:List Value} {ns:List Int},IntsAre vs ns→Vals (ns.map V.int) vs
 | _,_,.nil=>.nil
 | _,_,.cons n t h=>.cons ⟨t,rfl⟩ (vals_ints h)
def Only (H:Hp):Prop:=∀ b,H b=none∨∃ o xs,H b=some (.frz o (.lst xs))
theorem law_call {P:Program} {w:World} {K:PySem.W.Frag} {mg mb:Str→Option Value} {CX:CXT} {k:Nat} {fa a:Addr} {fd:FuncData} {x:Str} {sp:Sp} {s₁:Shared} {vs:List Value} {ns:List Int}
  (KX:K.In s₁.heap) (hns:s₁.heap.Ns mainGlobals mg) (hb:s₁.heap.Ns builtinsNs mb) (hbb:∀ x:Str,x≠"__name__"→mb x=bootBuiltins x) (hlim:s₁.heap.NoLimit) (hg:s₁.gens=#[])
  (ha:s₁.heap.get? a=some { cls:=.type "list",data:=.seq vs.toArray }) (hi:IntsAre vs ns) (hl:ns.length≤sizeLine) (hr:Room k callerA)
  (F:∀ base:Heap,K.In base→base.Ns mainGlobals mg→FnOk P w K mg base CX k fa fd [x] sp) (hbind:∀ (s:Shared) (u:Value),BindsTo s fd ⟨[u],[]⟩ [(x,u)])
  (hsp:∀ H:Hp,Only H→SqL K H a (ns.map V.int)→sp [.ref a] H (fun v _=>v=.bl true) fun _ _ _=>False)
  (hCX:∀ H e s',CX [] H s₁ (fun _ _ _=>False) e s'→False):
  codeAny (model P w) callerA (.call (.ref fa) ⟨[.ref a],[]⟩) (fun r s'=>r=.ok (.ret (.bool true))∧OldK s₁.heap s'.heap∧s'.os=s₁.os∧AllBare s'.gens) s₁:=by
 have rv:=vals_ints hi
 have lenV:=hi.length
 -- from an abstract heap in which nothing but the script may be tracked
 have core:∀ H:Hp,Only H→SqL K H a (ns.map V.int)→HOk P w H s₁.heap→(∀ b,H b≠none→b=a)→(H a≠none→K.lookup a=none)→
   codeAny (model P w) callerA (.call (.ref fa) ⟨[.ref a],[]⟩) (fun r s'=>r=.ok (.ret (.bool true))∧OldK s₁.heap s'.heap∧s'.os=s₁.os∧AllBare s'.gens) s₁:=by
  intro H hO hS hok hA hK
  have base_of:∀ {b:Addr} {o:Obj},s₁.heap.get? b=some o→H b=none→(hidT s₁.heap H).get? b=some o:=fun e n=>hidT_get e n
  have noA:∀ {b:Addr} {o:Obj} {es:Array DictEntry} {ep:Nat},s₁.heap.get? b=some o→o.data=.dict es ep→H b=none:=fun {b o es ep} e d=>by
   cases q:H b with
   | none=>rfl
   | some u=>
    have e':b=a:=hA b (by rw [q]; simp)
    subst e'
    rw [ha] at e; cases e
    have d':Data.seq vs.toArray _=Data.dict es ep:=d
    cases d'
  have nsK:∀ {b:Addr} {m:Str→Option Value},s₁.heap.Ns b m→(hidT s₁.heap H).Ns b m:=fun {b m} ⟨o,es,ep,e,d,r⟩=>⟨o,es,ep,base_of e (noA e d),d,r⟩
  have hKb:K.In (hidT s₁.heap H):=fun b o e=>base_of (KX b o e) (by
   cases q:H b with
   | none=>rfl
   | some u=>
    have e':b=a:=hA b (by rw [q]; simp)
    subst e'
    rw [hK (by rw [q]; simp)] at e; cases e)
  have hM:Mod K mg (hidT s₁.heap H):=⟨hKb,nsK hns,⟨mb,nsK hb,hbb⟩,let ⟨mc,h1,h2⟩:=hlim; ⟨mc,nsK h1,h2⟩⟩
  have e0:Env0 P w K mg (hidT s₁.heap H) callerA [] s₁ H:=⟨rfl,hM,fun b o e=>of_hidT e,Nat.le_of_eq (hidT_size _ _),trivial,fun b hb=>absurd (show b∈([]:List Addr) from hb) (by simp),hok,.of_eq hg⟩
  refine codeAny_mono ((F _ hKb (nsK hns)).run callerA [] s₁ H ⟨[.ref a],[]⟩ [.ref a] [.ref a] _ _ hr e0 (hbind s₁ (.ref a)) (.cons rfl .nil) (hsp H hO hS)) fun r s' h=>?_
  cases r with
  | error e=>exact (hCX H e s' h).elim
  | ok fl=>
   cases fl with
   | next=>exact False.elim h
   | brk=>exact False.elim h
   | cont=>exact False.elim h
   | ret u=>
    obtain ⟨v,H',os,bare,un,hok',r',q⟩:=h
    have q':v=.bl true:=q
    subst q'
    obtain rfl:u=Value.bool true:=r'
    refine ⟨rfl,OldK.of_keep fun b o e=>?_,os,bare⟩
    cases q:H b with
    | none=>exact un.keep b o e q (by intro z; exact absurd (show b∈([]:List Addr) from z) (by simp)) (by simp)
    | some u=>
     rcases hO b with z | ⟨ob,xs,z⟩
     ·rw [q] at z; cases z
     ·have z2:=un.frzs b ob _ z
      obtain ⟨e1,_⟩:=hok b _ z
      obtain ⟨e2,_⟩:=hok' b _ z2
      rw [e] at e1; cases e1
      exact e2
 cases hk:K.lookup a with
 | some o=>
  -- the script is one of the module's own objects
  have e:=KX a o hk
  rw [ha] at e
  cases e
  refine core (fun _=>none) (fun _=>.inl rfl) (.inr ⟨_,vs.toArray,_,hk,rfl,rfl,rfl,by rw [List.size_toArray,lenV]; exact hl,by simpa using rv⟩) (fun b u z=>by have z':(none:Option HO)=some u:=z; cases z') (fun b z=>absurd rfl z) fun z=>absurd rfl z
 | none=>
  refine core (fun b=>if b=a then some (.frz { cls:=.type "list",data:=.seq vs.toArray } (.lst (ns.map V.int))) else none) (fun b=>?_) (.inl (.inr ⟨{ cls:=.type "list",data:=.seq vs.toArray },if_pos rfl⟩)) (fun b u z=>?_) (fun b z=>?_) fun _=>hk
  ·by_cases hb:b=a
   ·exact .inr ⟨_,_,if_pos hb⟩
   ·exact .inl (if_neg hb)
  ·by_cases hb:b=a
   ·have z':=(if_pos hb).symm.trans z
    cases z'
    subst hb
    exact ⟨ha,by rw [List.length_map]; exact hl,vs,_,rv,ha⟩
   ·have z':=(if_neg hb).symm.trans z
    cases z'
  ·by_cases hb:b=a
   ·exact hb
   ·exact absurd (if_neg hb) z
end L2
namespace L2
open PySem PySem.Spec PyProof.Rows
theorem walk_of {l:PySem.W.OpenLaw} {n k:Nat} {q:Program} {loose:List Str} {XP:(Str→Option Value)→Heap→Prop} {YP:World→Heap→Prop} {d:DefRec} {K:Params→PySem.W.Frag} {CX:World→CXT} {sp:World→Sp} {x:Str}
  (hn:l.most=some n) (hn2:n≤sizeLine) (hdf:d.params.defaults=[]) (hr:Room k callerA)
  (hY:∀ (w:World) (h:Heap),YP w h→(K w.params).In h)
  (F:∀ (w:World) (mg:Str→Option Value) (fa:Addr) (h:Heap),(K w.params).In h→h.Ns mainGlobals mg→mg d.name=some (.ref fa)→
   ∃ fd:FuncData,(∀ (s:Shared) (u:Value),BindsTo s fd ⟨[u],[]⟩ [(x,u)])∧
    ∀ base:Heap,(K w.params).In base→base.Ns mainGlobals mg→FnOk l.prog w (K w.params) mg base (CX w) k fa fd [x] (sp w))
  (hsp:∀ (w:World) (H:Hp) (a:Addr) (ns:List Int),ns.length≤n→Only H→SqL (K w.params) H a (ns.map V.int)→sp w [.ref a] H (fun v _=>v=.bl true) fun _ _ _=>False)
  (hCX:∀ (w:World) (H:Hp) (s:Shared) (e:Value) (s':Shared),CX w [] H s (fun _ _ _=>False) e s'→False):
  PySem.W.WalkO q loose XP YP l.row.toRowW d [] (fun f vs=>PySem.call f vs):=by
 refine Att.attach_call hn hdf fun w s₀ s₁ mg mb fa o pm cd doc a vs ns G Y ho hd hcd hmg hobj hints hlen hg=>?_
 have KX:=hY w _ Y
 obtain ⟨fd,hb,hF⟩:=F w mg fa _ KX G.T.g hmg
 exact law_call KX G.T.g G.T.b G.T.builtins G.T.nolimit hg hobj hints (Nat.le_trans hlen hn2) hr hF hb (fun H hO hS=>hsp w H a ns hlen hO hS) fun H e s'=>hCX w H s₁ e s'
end L2
namespace L2
open PySem PySem.Spec PyProof.Rows
def defArgs (s:Stmt):Arguments:=match s with
 | .FunctionDef _ a _ _ _ _ _ _ _ _=>a
 | _=>{ posonlyargs:=[],args:=[],vararg:=none,kwonlyargs:=[],kw_defaults:=[],kwarg:=none,defaults:=[] }
def defBody (s:Stmt):List Stmt:=match s with
 | .FunctionDef _ _ b _ _ _ _ _ _ _=>b
 | _=>[]
def defScope (s:Stmt):Scope:=match s with
 | .FunctionDef _ _ _ _ _ _ sc _ _ _=>sc
 | _=>{ kind:=.function,names:=[],isGenerator:=false,isCoroutine:=false }
structure Fun (K:PySem.W.Frag) (x qual:Str) (st:Stmt) (f:Addr) (fd:FuncData):Prop where
 ex:∃ (oc:Value) (od:Option Addr) (kV doc pm:Value) (an:Option Addr) (cdv ct:Value) (osl:Array (Option Value)),
  fd=PySem.W.fnOf x qual (defArgs st) (defBody st) (defScope st) .none kV doc pm an cdv ct∧K.lookup f=some ⟨oc,od,.func fd,osl⟩∧PySem.W.codeIn K cdv qual=true
 kp:PySem.W.keepIn K (.ref f)=true
section
variable {P:Program} {w:World} {K:PySem.W.Frag} {mg:Str→Option Value} {base:Heap}
theorem Fun.binds {x qual:Str} {st:Stmt} {f:Addr} {fd:FuncData} {ps:List Str} (F:Fun K x qual st f fd)
  (h:∀ (kV doc pm:Value) (an:Option Addr) (cdv ct:Value) (us:List Value),us.length=ps.length→bindArgs (PySem.W.fnOf x qual (defArgs st) (defBody st) (defScope st) .none kV doc pm an cdv ct) ⟨us,[]⟩=pure (ps.zip us)):Binds K fd ps []:=by
 obtain ⟨oc,od,kV,doc,pm,an,cdv,ct,osl,rfl,lk,hcd⟩:=F.ex
 exact .all (h kV doc pm an cdv ct)
theorem fun_mk {x qual:Str} {st:Stmt} {f:Addr} {oc:Value} {od an:Option Addr} {osl:Array (Option Value)} {kV doc pm cdv ct:Value} (l:K.lookup f=some ⟨oc,od,.func (PySem.W.fnOf x qual (defArgs st) (defBody st) (defScope st) .none kV doc pm an cdv ct),osl⟩)
  (c:PySem.W.codeIn K cdv qual=true) (k:PySem.W.keepIn K (.ref f)=true):Fun K x qual st f (PySem.W.fnOf x qual (defArgs st) (defBody st) (defScope st) .none kV doc pm an cdv ct):=⟨⟨oc,od,kV,doc,pm,an,cdv,ct,osl,rfl,l,c⟩,k⟩
end
section
variable {X:Cx}
end
end L2
set_option maxHeartbeats 4000000
set_option bootstrap.genMatcherCode false
set_option genSizeOf false
set_option genSizeOfSpec false
namespace L2
open PySem PySem.Spec PyProof.Rows
section
variable {X:Cx} {pins:List (Addr×Obj)} {σ:St} {H:Hp} {s:Shared} {h':Heap}
theorem Inv.turnedL {t':Nat} {ch:List Addr} (I:Inv X pins σ H s) (hf:∀ b∈ch,FpOk X pins H b) (k:∀ b o,b∉ch→s.heap.get? b=some o→h'.get? b=some o):
  Inv X pins σ H { s with heap:=h',toks:=t' }:=by
 have nit:∀ b u,H b=some u→b∉ch:=fun b u e z=>by
  have q:=(hf b z).1
  rw [q] at e; cases e
 refine I.step (g':=s.gens) (d':=s.drawn) (ch:=ch) (fun b hb=>?_) (fun b o _ _ hc e _=>k b o hc e) (fun b o _ _ hc e _=>⟨o.slots,k b o hc e⟩) (fun _ _ _ _ n=>n)
  (fun b o hc e=>⟨o,k b o hc e⟩) (fun _ _ e=>e) (fun _ _ _ e=>e) (fun b ps e=>⟨#[],by rw [e]; simp⟩) (fun m hm=>?_) (fun b u e=>?_) I.bare
 ·obtain ⟨_,f1,_,f3,f4,f5⟩:=hf b hb
  exact ⟨f3,f1,f4,f5⟩
 ·obtain ⟨o,es,ep,ho,r⟩:=hm
  exact ⟨o,es,ep,k _ o (fun z=>(hf _ z).2.1 rfl) ho,r⟩
 ·refine (I.hok b u e).stay (fun c v hc q=>k c v ?_ q) (fun _ q=>q) fun _ _ q=>q
  rcases hc with z | z
  ·rw [z]; exact nit b u e
  ·exact nit c _ z
theorem Inv.track {T:Addr} {o:HO} (I:Inv X pins σ H s) (hT:FpOk X pins H T) (new:ObjOk X.prog X.w (upd H T o) s.heap T o):Inv X pins σ (upd H T o) s:=by
 have hn:=hT.1
 have hok:HOk X.prog X.w (upd H T o) s.heap:=fun b u e=>by
  by_cases hb:b=T
  ·subst hb; rw [upd_same] at e; cases e; exact new
  ·rw [upd_ne hb] at e
   exact (I.hok b u e).stay (fun c v _ q=>q) (fun c q=>by rw [upd_ne (ne_of_none q hn)]; exact q) fun c xs q=>by rw [upd_ne (ne_of_none q hn)]; exact q
 obtain ⟨hp,g,d,tk,os⟩:=s
 refine I.step (h':=hp) (g':=g) (d':=d) (t':=tk) (ch:=[T]) (fun b hb=>?_) (fun b o _ _ _ e _=>e) (fun b o _ _ _ e _=>⟨o.slots,e⟩) (fun b u hc _ n=>?_)
  (fun b o _ e=>⟨o,e⟩) (fun b xs e=>by rw [upd_ne (ne_of_none e hn)]; exact e) (fun b u v e=>by rw [upd_ne (ne_of_none e hn)]; exact e) (fun b ps e=>⟨#[],by rw [upd_ne (ne_of_none e hn),e]; simp⟩) (fun m hm=>hm) hok I.bare
 ·have e:b=T:=by simpa using hb
  subst e
  obtain ⟨_,f1,_,f3,f4,f5⟩:=hT
  exact ⟨f3,f1,f4,f5⟩
 ·rw [upd_ne (by simpa using hc)]; exact n
end
def Its (x:Str):It:=⟨fun i _=>i < x.cps.size,fun i H v H'=>H'=H∧∃ c,x.cps[i]?=some c∧v=.str ⟨#[c]⟩,fun i _=>i=x.cps.size⟩
theorem walks_str {prog:Program} {w:World} {A:Around} (hh:A.handled=none) (I:Addr) (x:Str) (t:Tok):
  Walks prog w A I [I] [I] x.cps.size (SignAt x) (fun i h=>h.IsStrIter I (strIterType x) x t i):=by
 unfold strIterType
 split
 ·exact Walks.strAscii hh I x t
 ·exact Walks.strWide hh I x t
theorem turn_str {P:Program} {w:World} {K:PySem.W.Frag} {tg:Expr} (it:Addr) (x:Str) (t:Tok):Turn P w K tg (Its x) [it] it (fun i h=>h.IsStrIter it (strIterType x) x t i) where
 mem:=by simp
 obj:=fun i h st b hb=>by
  have e:b=it:=by simpa using hb
  subst e
  obtain ⟨o,e,c,d⟩:=st
  exact ⟨o,e,fun v z=>by rw [d] at z; cases z⟩
 keep:=fun i h h' st k=>let ⟨o,ho,r⟩:=st; ⟨o,k it (by simp) o ho,r⟩
 item:=by
  intro X hP hw hK hc i pins s σ H E I hf st hg
  subst hP hw hK
  obtain ⟨f0,f1,f2,f3,f4,f5⟩:=hf it (by simp)
  have W:=walks_str (prog:=X.prog) (w:=X.w) (I.ok.hd hc) it x t
  refine W.item i s _ _ hg st fun v h' tk hv st' kk=>?_
  obtain ⟨c,u,e,rfl⟩:=hv
  have I1:Inv X pins σ H { s with heap:=h',toks:=tk }:=I.turned (fun b o hb e=>kk b o (by simpa using hb) e) f0 f1 f3 f4 f5
  obtain ⟨o,eo,cc,d⟩:=id st'
  exact ⟨_,rfl,go_of (s:={ s with heap:=h',toks:=tk }) (n:=strIterType x) eo cc d (by unfold strIterType; split <;> decide) ⟨.str ⟨#[c]⟩,H,I1,⟨u,rfl⟩,⟨rfl,c,e,rfl⟩,st',fun b hb=>(hf b hb).1⟩⟩
 done:=by
  intro X hP hw hK hc i pins s σ H E I hf st hg
  subst hP hw hK
  obtain ⟨f0,f1,f2,f3,f4,f5⟩:=hf it (by simp)
  have W:=walks_str (prog:=X.prog) (w:=X.w) (I.ok.hd hc) it x t
  have hg':i=x.cps.size:=hg
  subst hg'
  exact W.done s _ _ st fun h' tk kk=>⟨rfl,I.turned (fun b o hb e=>kk b o (by simpa using hb) e) f0 f1 f3 f4 f5⟩
 self:=fun A i s Q E st h=>by
  unfold strIterType at st
  split at st
  ·exact wpAny_pyIter_striter_ascii st h
  ·exact wpAny_pyIter_striter_wide st h
end L2
namespace L2
open PySem PySem.Spec PyProof.Rows
def closL (env:Env):List (Str×NameKind)→List (Str×Addr)→List (Str×Addr)
 | [],cs=>cs
 | (n,k)::r,cs=>closL env r (if (k==.free)=true then (match env.cells.lookup n with | some c=>(n,c)::cs | none=>cs) else cs)
theorem closL_sub {env:Env}:∀ {l:List (Str×NameKind)} {cs:List (Str×Addr)},(∀ x c,cs.lookup x=some c→env.cells.lookup x=some c)→∀ x c,(closL env l cs).lookup x=some c→env.cells.lookup x=some c
 | [],_,h,x,c,e=>h x c e
 | (n,k)::r,cs,h,x,c,e=>by
  refine closL_sub (l:=r) (cs:=_) ?_ x c e
  intro y d q
  by_cases hk:(k==NameKind.free)=true
  ·rw [if_pos hk] at q
   cases hn:env.cells.lookup n with
   | none=>rw [hn] at q; exact h y d q
   | some c'=>
    rw [hn] at q
    simp only [List.lookup_cons] at q
    cases hy:y==n with
    | true=>
     rw [hy] at q
     have e1:y=n:=eq_of_beq hy
     rw [e1,hn]; exact q
    | false=>rw [hy] at q; exact h y d q
  ·rw [if_neg hk] at q; exact h y d q
theorem closL_mono {env:Env} {x:Str}:∀ {l:List (Str×NameKind)} {cs:List (Str×Addr)},(cs.lookup x).isSome=true→((closL env l cs).lookup x).isSome=true
 | [],_,h=>h
 | (n,k)::r,cs,h=>by
  refine closL_mono (l:=r) (cs:=_) ?_
  by_cases hk:(k==NameKind.free)=true
  ·rw [if_pos hk]
   cases hn:env.cells.lookup n with
   | none=>exact h
   | some c'=>
    simp only [List.lookup_cons]
    cases hy:x==n with
    | true=>rfl
    | false=>exact h
  ·rw [if_neg hk]; exact h
theorem closL_has {env:Env} {x:Str} (hx:(env.cells.lookup x).isSome=true):∀ {l:List (Str×NameKind)} {cs:List (Str×Addr)},(x,NameKind.free)∈l→((closL env l cs).lookup x).isSome=true
 | (n,k)::r,cs,h=>by
  rcases List.mem_cons.mp h with e | h
  ·cases e
   refine closL_mono (l:=r) (cs:=_) ?_
   rw [if_pos (show (NameKind.free==NameKind.free)=true by decide)]
   obtain ⟨c,hc⟩:=Option.isSome_iff_exists.mp hx
   rw [hc]
   simp
  ·exact closL_has hx (l:=r) h
theorem closureFor_eq {scope:Scope} {env:Env} (h:∀ y∈scope.names,y.2=NameKind.free→(env.cells.lookup y.1).isSome=true):closureFor scope env=pure (closL env scope.names []):=by
 simp only [closureFor]
 generalize ([]:List (Str×Addr))=cs
 generalize scope.names=l at h
 induction l generalizing cs with
 | nil=>rfl
 | cons y r ih=>
  obtain ⟨n,k⟩:=y
  have ih':=fun cs=>ih cs fun y hy=>h y (List.mem_cons_of_mem _ hy)
  rw [List.forIn_cons]
  by_cases hk:(k==NameKind.free)=true
  ·have hk':k=NameKind.free:=eq_of_beq hk
   obtain ⟨c,hc⟩:=Option.isSome_iff_exists.mp (h (n,k) List.mem_cons_self hk')
   have e1:closL env ((n,k)::r) cs=closL env r ((n,c)::cs):=by
    rw [closL,if_pos hk]
    show closL env r (match env.cells.lookup n with | some c=>(n,c)::cs | none=>cs)=_
    have hc':env.cells.lookup n=some c:=hc
    rw [hc']
   have e2:cellOf env n=pure c:=by
    unfold cellOf
    have hc':env.cells.lookup n=some c:=hc
    rw [hc']
   rw [e1,← ih' ((n,c)::cs)]
   simp only [hk,if_true,e2]
   rfl
  ·have e1:closL env ((n,k)::r) cs=closL env r cs:=by rw [closL,if_neg hk]
   rw [e1,← ih' cs]
   simp only [hk,if_false]
   rfl
theorem lookup_relabel {env:Env} {x:Str}:∀ {names:List (Str×NameKind)},
  (names.map fun (n,k)=>if (k==NameKind.free && env.scope.kind==.function && env.kindOf n==some .cell) then (n,NameKind.cell) else (n,k)).lookup x=
   (names.lookup x).map fun k=>if (k==NameKind.free && env.scope.kind==.function && env.kindOf x==some .cell)=true then NameKind.cell else k
 | []=>rfl
 | (n,k)::r=>by
  have ih:=@lookup_relabel env x r
  rw [List.map_cons]
  have hh:∀ (c:Prop) [Decidable c],(if c then (n,NameKind.cell) else (n,k))=(n,if c then NameKind.cell else k):=fun c _=>by split <;> rfl
  show List.lookup x ((if (k==NameKind.free && env.scope.kind==.function && env.kindOf n==some .cell)=true then (n,NameKind.cell) else (n,k))::_)=_
  rw [hh]
  simp only [List.lookup_cons]
  cases hx:x==n with
  | true=>
   have e1:x=n:=eq_of_beq hx
   subst e1
   rfl
  | false=>exact ih
abbrev Cx.comp (X:Cx) (N':List Str) (scope:Scope) (cl:List (Str×Addr)) (C:Addr) (s₁:Shared) (H₁:Hp) (fp:List Addr) (pn:List (Addr×Obj)):Cx where
 prog:=X.prog
 w:=X.w
 K:=X.K
 mg:=X.mg
 base:=X.base
 A:=X.A
 N:=N'
 s₀:=s₁
 H₀:=H₁
 env:=compEnvC scope cl C X.env
 outer:=X.stack
 stack:=X.stack
 ex:=fp
 fn:=fun _=>false
 calm:=X.calm
 pn:=pn
 xe:=fun _ _=>False
def PIf (X:Cx) (ifs:List Expr) (t:TT):Prop:=
 ∀ (pins:List (Addr×Obj)) (s:Shared) (σ:St) (H:Hp) (Q:Bool→Hp→Prop),Inv X pins σ H s→t σ H Q→
  wpAny (model X.prog X.w) X.A (forIn ifs true fun c r=>if r=true then do let ok ← isTrue c X.env (eval c X.env); pure (ForInStep.yield ok) else pure (ForInStep.yield r)) (TP X pins σ Q) X.xe s
def tYes:TT:=fun _ H Q=>Q true H
theorem pif_nil {X:Cx}:PIf X [] tYes:=fun _ _ _ H _ I h=>wpAny_tests_nil ⟨H,I,h⟩
theorem pif_one {X:Cx} {c:Expr} {t:TT} (h:PT X c t):PIf X [c] t:=fun pins s σ H Q I q=>wpAny_tests_one (h pins s σ H Q I q)
def capSt (cap:List (Option Nat)) (σ:St):St:=cap.map fun o=>match o with | none=>none | some j=>(σ[j]?).join
def Caps (X:Cx) (scope:Scope):List Str→List (Option Nat)→Prop
 | [],[]=>True
 | _::N',none::cap=>Caps X scope N' cap
 | x::N',some j::cap=>(X.N[j]?=some x∧scope.names.lookup x=some NameKind.free)∧Caps X scope N' cap
 | _,_=>False
theorem Caps.len {X:Cx} {scope:Scope}:∀ {N':List Str} {cap:List (Option Nat)},Caps X scope N' cap→cap.length=N'.length
 | [],[],_=>rfl
 | _::N',none::cap,h=>by
  have:=Caps.len (N':=N') (cap:=cap) h
  simp [this]
 | _::N',some _::cap,h=>by
  have:=Caps.len (N':=N') (cap:=cap) h.2
  simp [this]
 | [],_::_,h=>False.elim h
 | _::_,[],h=>False.elim h
theorem Caps.at {X:Cx} {scope:Scope}:∀ {N':List Str} {cap:List (Option Nat)} {i:Nat} {x:Str} {v:V} {σ:St},Caps X scope N' cap→N'[i]?=some x→(capSt cap σ)[i]?=some (some v)→
  ∃ j:Nat,X.N[j]?=some x∧scope.names.lookup x=some NameKind.free∧σ[j]?=some (some v)
 | [],[],i,x,v,σ,_,e,_=>by simp at e
 | y::N',none::cap,0,x,v,σ,h,e,q=>by simp [capSt] at q
 | y::N',some j::cap,0,x,v,σ,h,e,q=>by
  have e1:y=x:=by simpa using e
  subst e1
  have q1:(σ[j]?).join=some v:=by simpa [capSt] using q
  refine ⟨j,h.1.1,h.1.2,?_⟩
  cases z:σ[j]? with
  | none=>rw [z] at q1; cases q1
  | some o=>rw [z] at q1; exact congrArg some q1
 | y::N',none::cap,i + 1,x,v,σ,h,e,q=>Caps.at (N':=N') (cap:=cap) (i:=i) h (by simpa using e) (by simpa [capSt] using q)
 | y::N',some _::cap,i + 1,x,v,σ,h,e,q=>Caps.at (N':=N') (cap:=cap) (i:=i) h.2 (by simpa using e) (by simpa [capSt] using q)
 | [],_::_,_,_,_,_,h,_,_=>False.elim h
 | _::_,[],_,_,_,_,h,_,_=>False.elim h
def CompW (X:Cx) (N':List Str) (scope:Scope) (tg:Expr) (ifs:List Expr) (elt:Expr) (J:It) (σ0:St) (H1:Hp) (Q:VK):Prop:=
 ∃ W:Nat→Nat→List V→St→Hp→Prop,(∃ m,W 0 m [] σ0 H1)∧∀ i m ys σ' H',W i m ys σ' H'→
  (J.stop i H'∧ys.length≤sizeLine∧∀ D,H' D=none→Q (.ref D) (upd H' D (.lst ys)))∨
  (J.go i H'∧ys.length < sizeLine∧∀ cl C s₁ H₁ fp pn,∃ g tt te,PG (X.comp N' scope cl C s₁ H₁ fp pn) tg g∧PIf (X.comp N' scope cl C s₁ H₁ fp pn) ifs tt∧PE (X.comp N' scope cl C s₁ H₁ fp pn) elt te∧
   ∀ x H2,J.yld i H' x H2→g x σ' H2 fun σ3 H3=>tt σ3 H3 fun b H4=>if b=true then te σ3 H4 fun y H5=>∃ m',m' < m∧W (i + 1) m' (ys ++ [y]) σ3 H5 else ∃ m',m' < m∧W (i + 1) m' ys σ3 H4)
def tComp (X:Cx) (N':List Str) (scope:Scope) (tg:Expr) (ifs:List Expr) (elt:Expr) (wi:TI) (cap:List (Option Nat)):TE:=fun σ H Q=>wi σ H fun J H1=>CompW X N' scope tg ifs elt J (capSt cap σ) H1 Q
section
variable {prog:Program} {w:World} {A:Around} {R:Result→Shared→Prop} {s:Shared}
theorem codeAny_compLoop_own {elt target iter:Expr} {ifs:List Expr} {scope:Scope} {pos:Pos} {it acc:Value} {env:Env} (I:Nat→Shared→Prop)
  (turn:∀ n s,I n s→wpAny (model prog w) A (pyNext it) (fun r s₁=>match r with
   | none=>R (.ok .next) s₁
   | some v=>wpAny (model prog w) A (letOwnedTupleGo target it v) (fun _ s₁'=>wpAny (model prog w) A (assign target env v) (fun _ s₂=>
     wpAny (model prog w) A (forIn ifs true fun c r=>if r=true then do let ok ← isTrue c env (eval c env); pure (ForInStep.yield ok) else pure (ForInStep.yield r)) (fun ok s₃=>
      if ok=true then wpAny (model prog w) A (eval elt env) (fun x s₄=>
       wpAny (model prog w) A (call (.builtin "list.append") [acc,x]) (fun _ s₅=>∃ m,m < n∧I m s₅) (fun _ _=>False) s₄) (fun _ _=>False) s₃
      else ∃ m,m < n∧I m s₃) (fun _ _=>False) s₂) (fun _ _=>False) s₁') (fun _ _=>False) s₁) (fun _ _=>False) s)
  (n:Nat) (h:I n s):codeAny (model prog w) A (.compLoop (.ListComp elt [⟨target,iter,ifs,0⟩] scope pos) 0 it acc env) R s:=by
 refine codeAny_loop rfl I (fun n s hI=>?_) n h
 show wpAny _ A ((compTurn (.ListComp elt [⟨target,iter,ifs,0⟩] scope pos) 0 it acc env).onRaise (fun x=>do noteFrame x env; theTreesLotGoes x)) _ _ s
 refine wpAny_noted ?_
 rw [compTurn_list]
 refine wpAny_bind (wpAny_standAt (wpAny_bind (wpAny_mono (turn n s hI) (fun r s₁ h₁=>?_) fun _ _ h'=>False.elim h')))
 cases r with
 | none=>exact wpAny_pure h₁
 | some v=>
  refine wpAny_bind (wpAny_mono h₁ (fun _ s₁' h₁'=>?_) fun _ _ h'=>False.elim h')
  refine wpAny_bind (wpAny_mono h₁' (fun _ s₂ h₂=>wpAny_bind (wpAny_mono h₂ (fun ok s₃ h₃=>?_) fun _ _ h'=>False.elim h')) fun _ _ h'=>False.elim h')
  cases ok with
  | false=>exact wpAny_pure ⟨rfl,h₃⟩
  | true=>
   exact wpAny_bind (wpAny_bind (wpAny_mono h₃ (fun x s₄ h₄=>wpAny_bind (wpAny_mono h₄ (fun _ s₅ h₅=>wpAny_pure (wpAny_pure ⟨rfl,h₅⟩)) fun _ _ h'=>False.elim h')) fun _ _ h'=>False.elim h'))
end
end L2
namespace L2
open PySem PySem.Spec PyProof.Rows
abbrev tx (l:List Nat):Str:=⟨l.toArray⟩
theorem tx_len (l:List Nat):(tx l).length=l.length:=by simp [Str.length]
theorem tx_app (a b:List Nat):tx a ++ tx b=tx (a ++ b):=by
 show (⟨a.toArray ++ b.toArray⟩:Str)=⟨(a ++ b).toArray⟩
 simp
theorem tx_inj {a b:List Nat} (h:tx a=tx b):a=b:=by
 have:=congrArg (fun x:Str=>x.cps.toList) h
 simpa using this
theorem tx_of (x:Str):x=tx x.cps.toList:=by cases x; simp
section
variable {X:Cx}
theorem strsAre_of:∀ {ys:List Str} {us:List Value},Vals (ys.map V.str) us→StrsAre us ys
 | [],us,r=>by
  rw [List.map_nil] at r
  cases r
  exact .nil
 | y::ys,us,r=>by
  rw [List.map_cons] at r
  cases r with
  | cons r1 r2=>
   obtain ⟨t,e⟩:=r1
   subst e
   exact .cons y t (strsAre_of r2)
def rJoin (K:PySem.W.Frag):V→List V→Hp→VK→Prop:=fun x vs H Q=>∃ z p ys,x=.str z∧vs=[.ref p]∧SqL K H p (ys.map V.str)∧(ys.map (·.length)).sum + ys.length * z.length≤16777216∧Q (.str (Str.join z ys)) H
theorem mt_join:MtR X "str.join" (rJoin X.K):=by
 intro pins s σ H x xs v us Q I rx rs h
 obtain ⟨z,p,ys,rfl,rfl,hq,hb,q⟩:=h
 obtain ⟨t,rfl⟩:=rx
 obtain ⟨u,rfl,ru⟩:=vals1 rs
 cases ru
 obtain ⟨its,rv,pl,hz⟩:=I.list hq
 refine join_list pl.isList (by simpa using strsAre_of rv) hb fun t' k=>⟨.str _,H,I.tok _,⟨_,rfl⟩,?_⟩
 have e:Txt.join z ys=Str.join z ys:=StrLaws.glued_eq_join z ys
 rw [e]
 exact q
def rInst (K:PySem.W.Frag):List V→Hp→VK→Prop:=fun xs H Q=>∃ x n t b,xs=[x,.ty n]∧TyOf K H x t∧PySem.W.kitOne K t (.type n)=some b∧Q (.bl b) H
theorem call_inst:CallR X (.builtin "isinstance") (rInst X.K):=by
 intro pins s σ H xs us Q I r h
 obtain ⟨x,n,t,b,rfl,ty,e,q⟩:=h
 obtain ⟨u,w',rfl,rx,ry⟩:=vals2 r
 cases ry
 exact isinst_ok I rx ty e fun tk=>⟨.bl b,H,I.tok _,rfl,q⟩
theorem bt_bool:bootBuiltins "bool"=some (.type "bool"):=by decide +kernel
theorem bt_int:bootBuiltins "int"=some (.type "int"):=by decide +kernel
theorem bt_str:bootBuiltins "str"=some (.type "str"):=by decide +kernel
theorem bt_list:bootBuiltins "list"=some (.type "list"):=by decide +kernel
theorem bt_isinst:bootBuiltins "isinstance"=some (.builtin "isinstance"):=by decide +kernel
theorem pe_ty {x:Str} {T:String} {pos:Pos} (hg:Gl X x) (hm:X.mg x=none) (hv:bootBuiltins x=some (.type T)) (hn:x≠"__name__":=by decide) (hd:(x==("__debug__":Str))=false:=by decide):PE X (.Name x pos) (tC (.ty T)):=
 pe_bltn hg hm hv (v:=.ty T) rfl hn hd
theorem op_mul_str:OpR X (binaryOp .Mult) (fun x y H Q=>∃ i n,x=.str i∧y=.int n∧MulOk i n∧Q (.str (Txt.mul i n)) H):=by
 intro pins s σ H x y v u Q I rx ry h
 obtain ⟨i,n,rfl,rfl,hok,q⟩:=h
 obtain ⟨t,rfl⟩:=rx
 obtain ⟨t',rfl⟩:=ry
 exact SB.mul hok fun t' k=>⟨.str _,H,I.tok _,⟨_,rfl⟩,q⟩
end
end L2
namespace L2
open PySem PySem.Spec PyProof.Rows
section
variable {X:Cx}
end
end L2
namespace L2
open PySem PySem.Spec PyProof.Rows
open Builtin Builtin.Str
theorem draws_str {prog:Program} {w:World} {A:Around} (hh:A.handled=none) (it:Addr) (x:Str) (t:Tok):
  Draws prog w A it [it] x.cps.size (fun i v=>∃ c u,x.cps[i]?=some c∧v=.str ⟨#[c]⟩ u) (fun i h=>h.IsStrIter it (strIterType x) x t i):=by
 unfold strIterType
 split
 ·exact Draws.strAscii hh it x t
 ·exact Draws.strWide hh it x t
structure ZApart (z TI TO i1 i2:Addr):Prop where
 TIz:TI≠z
 TOz:TO≠z
 i1z:i1≠z
 i2z:i2≠z
 TITO:TI≠TO
 TIi1:TI≠i1
 TIi2:TI≠i2
 TOi1:TO≠i1
 TOi2:TO≠i2
 i12:i1≠i2
section
variable {prog:Program} {w:World} {A:Around} {E:Value→Shared→Prop} {s:Shared}
end
section
variable {prog:Program} {w:World} {A:Around} {E:Value→Shared→Prop} {s:Shared}
end
end L2
namespace L2
open PySem PySem.Spec PyProof.Rows
section
variable {X:Cx}
theorem boolsAre_get:∀ {bs:List Bool} {us:List Value} {i:Nat} {v:Value},Vals (bs.map V.bl) us→us[i]?=some v→∃ b,bs[i]?=some b∧v=.bool b
 | [],us,i,v,r,e=>by
  rw [List.map_nil] at r
  cases r
  simp at e
 | b::bs,us,i,v,r,e=>by
  rw [List.map_cons] at r
  cases r with
  | cons r1 r2=>
   cases i with
   | zero=>
    cases (show _=Value.bool b from r1)
    exact ⟨b,rfl,by simpa using e.symm⟩
   | succ i=>exact boolsAre_get (i:=i) r2 (by simpa using e)
theorem boot_all':bootBuiltins "all"=some (.builtin "all"):=by decide +kernel
theorem boot_zip':bootBuiltins "zip"=some (.type "zip"):=by decide +kernel
theorem all_range (bs:List Bool) (n:Nat) (hn:n=bs.length):((List.range n).all fun i=>(bs[i]?).getD true)=bs.all id:=by
 subst hn
 rw [Bool.eq_iff_iff,List.all_eq_true,List.all_eq_true]
 constructor
 ·intro h b hb
  obtain ⟨i,hi,e⟩:=List.mem_iff_getElem.mp hb
  have:=h i (List.mem_range.mpr hi)
  rw [List.getElem?_eq_getElem hi,e] at this
  simpa using this
 ·intro h i hi
  have hi':=List.mem_range.mp hi
  rw [List.getElem?_eq_getElem hi']
  simpa using h _ (List.getElem_mem hi')
theorem call_all (hc:X.calm=true):CallR X (.builtin "all") (fun xs H Q=>∃ (p:Addr) (bs:List Bool),xs=[.ref p]∧SqL X.K H p (bs.map V.bl)∧Q (.bl (bs.all id)) H):=by
 intro pins s σ H xs us Q I r h
 obtain ⟨p,bs,rfl,hq,q⟩:=h
 obtain ⟨u,rfl,ru⟩:=vals1 r
 cases ru
 obtain ⟨its,rv,pl,hz⟩:=I.list hq
 have hl:=pl.isList
 have hlt:p < s.heap.objs.size:=by obtain ⟨_,e,_⟩:=hl; exact Heap.lt_size e
 refine call_all_walk (wpAny_pyIter_list hl ?_)
 refine ⟨s.heap.objs.size,[s.heap.objs.size,p],[s.heap.objs.size],its.toArray.size,_,_,fun i=>(bs[i]?).getD true,rfl,Walks.list (A:=X.A.in1) (I.ok.hd hc) _ p (Nat.ne_of_lt hlt) its.toArray,
  ⟨⟨_,Heap.get?_push_size _ rfl,rfl,rfl⟩,hl.push _⟩,fun i v s' Q' E' hP hQ=>?_,fun h' tk hk=>?_⟩
 ·obtain ⟨b,e,rfl⟩:=boolsAre_get rv (i:=i) (v:=v) (by simpa using hP)
  simp only [e,Option.getD_some] at hQ
  exact wpAny_truthy_bool hQ
 ·have e:=all_range bs its.toArray.size (by rw [List.size_toArray,← rv.length,List.length_map])
  rw [e]
  exact ⟨.bl _,H,I.kept (fun b o q=>hk b o (fun hm=>by rw [List.mem_singleton.mp hm] at q; exact Nat.lt_irrefl _ (Heap.lt_size q)) (Heap.get?_push_of_some _ q)),rfl,q⟩
theorem op_is_bool:OpR X (compareOp .Is) (fun x y H Q=>∃ i j,x=.bl i∧y=.bl j∧Q (.bl (i==j)) H):=by
 intro pins s σ H x y v u Q I rx ry h
 obtain ⟨i,j,rfl,rfl,q⟩:=h
 cases rx
 cases ry
 exact is_bool ⟨.bl _,H,I,rfl,q⟩
theorem call_int_text:CallR X (.type "int") (fun xs H Q=>∃ z n,xs=[.str z]∧PySem.intText? z=some n∧z.length≤640∧Q (.int n) H):=by
 intro pins s σ H xs us Q I r h
 obtain ⟨z,n,rfl,hn,hl,q⟩:=h
 obtain ⟨u,rfl,t,rfl⟩:=vals1 r
 exact PySem.W.KIN.call_text hn hl ⟨.int n,H,I.tok _,⟨_,rfl⟩,q⟩
def rSlS:V→Option Int→Option Int→Hp→VK→Prop:=fun x lo hi H Q=>∃ z,x=.str z∧z.length≤sizeLine∧Q (.str (Txt.slice z lo hi)) H
theorem sl_str:SlR X rSlS:=by
 intro pins s σ H x v vl vu lo hi sl Q I rx hs pl pu h
 obtain ⟨z,rfl,hz,q⟩:=h
 obtain ⟨t,rfl⟩:=rx
 refine ⟨"str",_,slot_str_getitem.lookup,typeIs_str _ _ _,?_⟩
 obtain ⟨l,el,e1⟩:∃ l:Option (Int×Tok),vl=partValue l∧l.map (·.1)=lo:=by
  cases pl with
  | none=>exact ⟨none,rfl,rfl⟩
  | int i t=>exact ⟨some (i,t),rfl,rfl⟩
 obtain ⟨u,eu,e2⟩:∃ u:Option (Int×Tok),vu=partValue u∧u.map (·.1)=hi:=by
  cases pu with
  | none=>exact ⟨none,rfl,rfl⟩
  | int i t=>exact ⟨some (i,t),rfl,rfl⟩
 subst el eu e1 e2
 refine wpAny_getItem_str_slice (l:=l) (u:=u) (st:=none) hs rfl ?_
 unfold sliceMade
 unfold Txt.slice at q
 show (if ((1:Int)==1 && (slicePicked z l u none).length==z.length)=true then Made.val (.str z t) else Made.str ⟨((slicePicked z l u none).filterMap (z.cps[·]?)).toArray⟩).post _ _
 have ep:slicePicked z l u none=Builtin.Str.strSliceIndices (l.map (·.1)) (u.map (·.1)) 1 z.length:=rfl
 rw [ep]
 by_cases hc:((1:Int)==1 && (Builtin.Str.strSliceIndices (l.map (·.1)) (u.map (·.1)) 1 z.length).length==z.length)=true
 ·rw [if_pos hc] at q ⊢
  exact ⟨.str z,H,I,⟨t,rfl⟩,q⟩
 ·rw [if_neg hc] at q ⊢
  refine ⟨?_,⟨.str _,H,I.tok _,⟨_,rfl⟩,q⟩⟩
  show (List.filterMap _ _).toArray.size≤sizeLine
  rw [List.size_toArray]
  have h1:=sliceIndices_le (l.map (·.1)) (u.map (·.1)) z.length
  have h2:=List.length_filterMap_le (fun x=>z.cps[x]?) (Builtin.Str.strSliceIndices (l.map (·.1)) (u.map (·.1)) 1 z.length)
  omega
end
section
variable {X:Cx} {st:Stmt} {rest:List Stmt} {t u:TS} {e:Expr} {te:TE} {pos:Pos}
end
end L2
namespace L2
open PySem PySem.Spec PyProof.Rows
theorem lc_core {X:Cx} {elt tg iter:Expr} {ifs:List Expr} {scope:Scope} {pos:Pos} {wi:TI} {pins:List (Addr×Obj)} {s:Shared} {σ:St} {H:Hp} {Q:VK} {RR:Value→Addr→Result→Shared→Prop} (N':List Str) (cap:List (Option Nat)) (hc:X.calm=true) (hi:PI X tg iter wi) (hcap:Caps X scope N' cap)
  (hcell:scope.names.all (fun y=>y.2 != NameKind.cell)=true)
  (hfr:scope.names.all (fun y=>y.2 != NameKind.free || (X.env.kindOf y.1==some NameKind.cell || X.env.kindOf y.1==some NameKind.free))=true)
  (hkind:scope.kind=.function) (I:Inv X pins σ H s) (h:tComp X N' scope tg ifs elt wi cap σ H Q)
  (fin:∀ (D C:Addr) (H':Hp) (s4:Shared) (m:Str→Option Value),Inv X pins σ H' s4→Q (.ref D) H'→s4.heap.Ns C m→FpOk X pins H' C→RR (.ref D) C (.ok .next) s4):
  wpAny (model X.prog X.w) X.A (eval iter X.env) (fun x s₁=>wpAny (model X.prog X.w) X.A (pyIter x) (fun it s₂=>wpAny (model X.prog X.w) X.A (newList []) (fun acc s₃=>
   wpAny (model X.prog X.w) X.A (newFunctionEnv scope X.env.globals (closL X.env scope.names []) [] X.env.qual none .none (some X.env)) (fun cenv s₄=>
    codeAny (model X.prog X.w) X.A (.compStart (.ListComp elt [⟨tg,iter,ifs,0⟩] scope pos) 0 it acc { cenv with scope:=relabel scope X.env }) (RR acc cenv.locals) s₄) X.xe s₃) X.xe s₂) X.xe s₁) X.xe s:=by
 have hcell':∀ y∈scope.names,y.2≠NameKind.cell:=fun y hy=>by
  have:=List.all_eq_true.mp hcell y hy
  simpa using this
 have hfr':∀ y∈scope.names,y.2=NameKind.free→(X.env.kindOf y.1=some NameKind.cell∨X.env.kindOf y.1=some NameKind.free):=fun y hy hl=>by
  have:=List.all_eq_true.mp hfr y hy
  simpa [hl] using this
 have hcs:∀ y∈scope.names,y.2=NameKind.free→(X.env.cells.lookup y.1).isSome=true:=fun y hy hl=>by
  obtain ⟨c,e⟩:=I.ok.has y.1 (hfr' y hy hl)
  rw [e]; rfl
 have clsub:∀ x c,(closL X.env scope.names []).lookup x=some c→X.env.cells.lookup x=some c:=closL_sub (fun x c e=>by simp at e)
 have clhas:∀ x,scope.names.lookup x=some NameKind.free→∃ c,(closL X.env scope.names []).lookup x=some c:=fun x e=>by
  have hm:=PySem.mem_of_lookup e
  exact Option.isSome_iff_exists.mp (closL_has (hcs _ hm rfl) hm)
 have rel:∀ x,(relabel scope X.env).names.lookup x=(scope.names.lookup x).map fun k=>if (k==NameKind.free && X.env.scope.kind==.function && X.env.kindOf x==some .cell)=true then NameKind.cell else k:=fun x=>lookup_relabel
 have relfree:∀ x,((relabel scope X.env).names.lookup x=some NameKind.cell∨(relabel scope X.env).names.lookup x=some NameKind.free)→scope.names.lookup x=some NameKind.free:=fun x e=>by
  rw [rel x] at e
  cases z:scope.names.lookup x with
  | none=>rw [z] at e; rcases e with e | e <;> cases e
  | some k=>
   have nk:=hcell' _ (PySem.mem_of_lookup z)
   rw [z] at e
   cases k with
   | free=>rfl
   | cell=>exact absurd rfl nk
   | «local»=>rcases e with e | e <;> simp [show (NameKind.«local»==NameKind.free)=false by decide] at e
   | globalExplicit=>rcases e with e | e <;> simp [show (NameKind.globalExplicit==NameKind.free)=false by decide] at e
   | globalImplicit=>rcases e with e | e <;> simp [show (NameKind.globalImplicit==NameKind.free)=false by decide] at e
 generalize hcl:closL X.env scope.names []=cl at clsub clhas
 refine thn (hi pins s σ H _ I h) fun xv s0 h0=>thn h0 fun itv s2 h2=>?_
 obtain ⟨it,fp,tn,J,H2,e,I2,T,st2,f2,W,⟨m0,w0⟩,turn⟩:=h2
 subst e
 refine wpAny_newObj_type (wpAny_newFunctionEnv hcell' (by intro y hy; simp at hy) (fun h₁ hns₁ hsb₁=>?_) hkind)
 dsimp only at hns₁ hsb₁ ⊢
 generalize hH2:s2.heap.push { cls:=.type "list",dict:=none,data:=.seq ([]:List Value).toArray }=HP at hns₁ hsb₁ ⊢
 have hC:HP.objs.size=s2.heap.objs.size + 1:=by rw [← hH2,Heap.size_push]
 have hDC:s2.heap.objs.size≠HP.objs.size:=by rw [hC]; exact Nat.ne_of_lt (Nat.lt_succ_self _)
 have below:∀ b,b < s2.heap.objs.size→b≠HP.objs.size∧b≠s2.heap.objs.size:=fun b hb=>⟨by rw [hC]; exact Nat.ne_of_lt (Nat.lt_succ_of_lt hb),Nat.ne_of_lt hb⟩
 have old:∀ b o,s2.heap.get? b=some o→h₁.get? b=some o:=fun b o e=>hsb₁.extBut b o (below b (Heap.lt_size e)).1 (Heap.get?_push_of_some _ (hH2 ▸ Heap.get?_push_of_some _ e))
 have hacc:h₁.get? s2.heap.objs.size=some { cls:=.type "list",data:=.seq ([]:List Value).toArray 0 }:=hsb₁.extBut _ _ hDC (Heap.get?_push_of_some _ (hH2 ▸ Heap.get?_push_size _ rfl))
 have hst₁:tn 0 h₁:=T.keep _ _ _ st2 fun b _ o e=>old b o e
 have fplt:∀ b∈fp,b < s2.heap.objs.size:=fun b hb=>by
  obtain ⟨o,e,_⟩:=T.obj _ _ st2 b hb
  exact Heap.lt_size e
 have fslt:∀ b∈frs X.stack,b < s2.heap.objs.size:=fun b hb=>by
  obtain ⟨_,o,e,_⟩:=I2.stack.mem hb
  exact Heap.lt_size e
 have celllt:∀ x c,cl.lookup x=some c→c < s2.heap.objs.size:=fun x c e=>by
  obtain ⟨v,q⟩:=I2.cell x c (clsub x c e)
  exact q.lt
 have hDf:H2 s2.heap.objs.size=none:=I2.hok.fresh (Nat.le_refl _)
 have hCf:H2 HP.objs.size=none:=I2.hok.fresh (by rw [hC]; exact Nat.le_succ _)
 have nofs:∀ b∈fp,b∉frs X.stack:=fun b hb z=>by
  obtain ⟨_,f1,f2',_⟩:=f2 b hb
  rcases List.mem_cons.mp (I2.stkSub b z) with e | e
  ·exact f1 e
  ·exact f2' e
 have ok':(X.comp N' scope cl HP.objs.size s2 H2 fp (X.pn ++ pins)).Ok:=
  ⟨I2.ok.mod,hkind,I2.ok.glob,I2.ok.blt,(by show s2.heap.objs.size≤HP.objs.size; rw [hC]; exact Nat.le_succ _),
   fun x y c e1 e2=>I2.ok.inj x y c (clsub x c e1) (clsub y c e2),fun x hx=>clhas x (relfree x hx),fun x c hf _=>(by cases hf),I2.ok.hd,I2.ok.frames,.inl rfl,
   fun b hb=>⟨(below b (fplt b hb)).1,fun x c e=>(f2 b hb).2.2.2.2.1 x c (clsub x c e)⟩,I2.bs,Nat.le_trans I2.ok.bsz I2.sz,
   fun b o e hb=>(by
    rcases (f2 b hb).2.2.2.1 with z | z
    ·exact I2.ok.noex b o e z
    ·exact absurd (Nat.lt_of_lt_of_le (Heap.lt_size e) (Nat.le_trans I2.ok.bsz z)) (Nat.lt_irrefl _)),
   nofs,I2.stack,I2.stkFree⟩
 have pnOk:∀ p∈X.pn ++ pins,p.1 < s2.heap.objs.size∧p.1∉frs X.stack:=fun p hp=>by
  obtain ⟨e,_,n1,n2,_⟩:=I2.pin p hp
  refine ⟨Heap.lt_size e,fun z=>?_⟩
  rcases List.mem_cons.mp (I2.stkSub _ z) with e | e
  ·exact n1 e
  ·exact n2 e
 have I0:∀ t,Inv (X.comp N' scope cl HP.objs.size s2 H2 fp (X.pn ++ pins)) [(s2.heap.objs.size,{ cls:=.type "list",data:=.seq ([]:List Value).toArray 0 })] (capSt cap σ) H2 { s2 with heap:=h₁,toks:=t }:=fun t=>
  ⟨ok',rfl,I2.bare,Un.kept old,⟨_,hns₁,fun i x v e1 e2 _=>by
    obtain ⟨j,nj,fr,sj⟩:=hcap.at e1 e2
    obtain ⟨m,_,hl⟩:=I2.loc
    have hk:=hfr' (x,NameKind.free) (PySem.mem_of_lookup fr) rfl
    obtain ⟨u,r,l⟩:=hl j x v nj sj (by rcases hk with hk | hk; exact .inr (.inl hk); exact .inr (.inr hk))
    refine ⟨u,r,.inr ⟨?_,?_⟩⟩
    ·show (relabel scope X.env).names.lookup x=some .cell∨(relabel scope X.env).names.lookup x=some .free
     rw [rel x,fr,Option.map_some]
     by_cases hh:(NameKind.free==NameKind.free && X.env.scope.kind==ScopeKind.function && X.env.kindOf x==some NameKind.cell)=true
     ·exact .inl (by rw [if_pos hh])
     ·exact .inr (by rw [if_neg hh])
    ·obtain ⟨c,ec⟩:=clhas x fr
     have ec':=clsub x c ec
     rcases l with ⟨k1,_⟩ | ⟨_,c',e',q⟩
     ·rcases hk with hk | hk <;> (rw [hk] at k1; cases k1)
     ·have ecc:X.env.cells.lookup x=some c:=ec'
      rw [e'] at ecc
      cases ecc
      obtain ⟨o,ho,hd⟩:=q
      exact ⟨_,ec,o,old _ _ ho,hd⟩⟩,
   fun x c e=>(by obtain ⟨v,o,ho,hd⟩:=I2.cell x c (clsub x c e); exact ⟨v,o,old _ _ ho,hd⟩),hCf,fun x c e=>I2.freeC x c (clsub x c e),
   fun p hp=>by
    rcases List.mem_append.mp hp with z | z
    ·obtain ⟨e,n0,_,_,d⟩:=I2.pin p z
     exact ⟨old _ _ e,n0,(below _ (pnOk p z).1).1,(pnOk p z).2,d⟩
    ·have e:p=_:=List.mem_singleton.mp z
     subst e
     exact ⟨hacc,hDf,hDC,fun z=>absurd (fslt _ z) (Nat.lt_irrefl _),fun v z=>by have z':Data.seq _ _=Data.cell v:=z; cases z'⟩,
   I2.hok.kept old,by show (capSt cap σ).length=N'.length; unfold capSt; rw [List.length_map]; exact hcap.len⟩
 have fpok:∀ {H':Hp} {o:Obj},(∀ b∈fp,H' b=none)→∀ b∈fp,FpOk (X.comp N' scope cl HP.objs.size s2 H2 fp (X.pn ++ pins)) [(s2.heap.objs.size,o)] H' b:=fun hn b hb=>
  ⟨hn b hb,(below b (fplt b hb)).1,nofs b hb,.inl hb,fun x c e=>(f2 b hb).2.2.2.2.1 x c (clsub x c e),fun p hp=>by
   rcases List.mem_append.mp hp with z | z
   ·exact (f2 b hb).2.2.2.2.2 p z
   ·have e:p=_:=List.mem_singleton.mp z
    subst e
    exact Ne.symm (below b (fplt b hb)).2⟩
 have loop:∀ s₃:Shared,s₃={ s2 with heap:=h₁,toks:=s2.toks + ([]:List (Str×Value)).length }→
   codeAny (model X.prog X.w) X.A (.compLoop (.ListComp elt [⟨tg,iter,ifs,0⟩] scope pos) 0 (.ref it) (.ref s2.heap.objs.size) (compEnvC scope cl HP.objs.size X.env))
    (RR (.ref s2.heap.objs.size) HP.objs.size) s₃:=by
  rintro s₃ rfl
  refine codeAny_compLoop_own
   (fun k s'=>∃ (i:Nat) (ys:List V) (its:List Value) (n:Nat) (σ':St) (H':Hp),Inv (X.comp N' scope cl HP.objs.size s2 H2 fp (X.pn ++ pins)) [(s2.heap.objs.size,{ cls:=.type "list",data:=.seq its.toArray n })] σ' H' s'∧Vals ys its∧
    tn i s'.heap∧(∀ b∈fp,H' b=none)∧W i k ys σ' H') ?_ m0 ⟨0,[],[],0,_,H2,I0 _,.nil,hst₁,fun b hb=>(f2 b hb).1,w0⟩
  rintro k s3 ⟨i,ys,its,n,σ3,H3,I3,rv3,st3,fr3,w3⟩
  rcases turn i k ys σ3 H3 w3 with ⟨stop,hz,qn⟩ | ⟨go,hz,step⟩
  ·refine thn (T.done (X.comp N' scope cl HP.objs.size s2 H2 fp (X.pn ++ pins)) rfl rfl rfl hc i _ s3 σ3 H3 _ I3 (fpok fr3) st3 stop) fun r s4 ⟨hr,I4⟩=>?_
   subst hr
   obtain ⟨m,hn,_⟩:=I4.loc
   obtain ⟨pD,nD,_,_,_⟩:=I4.pin (s2.heap.objs.size,{ cls:=.type "list",data:=.seq its.toArray n }) (List.mem_append_right _ (List.mem_singleton.mpr rfl))
   have nC:H3 HP.objs.size=none:=I4.free
   have u:Un (frs X.stack) fp H2 H3 s2.heap s4.heap:=I4.base
   refine fin s2.heap.objs.size HP.objs.size (upd H3 s2.heap.objs.size (.lst ys)) s4 m ?_ (qn _ nD) hn ?_
   ·refine I2.call' (s':=s4) (ch:=fp) I4.os ?_ ?_ I4.bare fun b hb=>⟨(f2 b hb).2.2.2.1,(f2 b hb).2.1,(f2 b hb).2.2.2.2.1,(f2 b hb).2.2.2.2.2⟩
    ·refine ⟨fun b o e n0 hb hx=>u.keep b o e n0 hb hx,fun b o e n0 hb hx=>u.slot b o e n0 hb hx,fun b o e n0 hx=>?_,fun b o e hx=>u.there b o e hx,fun b xs e=>?_,fun b o v e=>?_,fun b ps e=>?_⟩
     ·rw [upd_ne (below b (Heap.lt_size e)).2]
      exact u.free b o e n0 hx
     ·rw [upd_ne (ne_of_none e hDf)]
      exact u.tups b xs e
     ·rw [upd_ne (ne_of_none e hDf)]
      exact u.frzs b o v e
     ·rw [upd_ne (ne_of_none e hDf)]
      exact u.tbls b ps e
    ·intro b o e
     by_cases hb:b=s2.heap.objs.size
     ·subst hb
      rw [upd_same] at e
      cases e
      exact ⟨hz,its,n,rv3,pD⟩
     ·rw [upd_ne hb] at e
      exact (I4.hok b o e).stay (fun c v _ q=>q) (fun c q=>by rw [upd_ne (ne_of_none q nD)]; exact q) fun c xs q=>by rw [upd_ne (ne_of_none q nD)]; exact q
   ·have hle:s2.heap.objs.size≤HP.objs.size:=by rw [hC]; exact Nat.le_succ _
    exact I2.fpOk hle (by rw [upd_ne (Ne.symm hDC)]; exact nC)
  ·refine thn (T.item (X.comp N' scope cl HP.objs.size s2 H2 fp (X.pn ++ pins)) rfl rfl rfl hc i _ s3 σ3 H3 _ I3 (fpok fr3) st3 go) fun r s4 ⟨u,hr,h4⟩=>?_
   subst hr
   refine thn h4 fun _ s5 ⟨x,H5,I5,r5,y5,st5,fr5⟩=>?_
   obtain ⟨g,tt,te,hg,ht,he,body⟩:=step cl HP.objs.size s2 H2 fp (X.pn ++ pins)
   have I5':=I5.pinned (fpok fr5) (T.obj _ _ st5)
   have tail:∀ {σ7:St} {H7:Hp} {s7:Shared} {po:Obj},Inv (X.comp N' scope cl HP.objs.size s2 H2 fp (X.pn ++ pins)) ([(s2.heap.objs.size,po)] ++ pinsAt fp s5.heap) σ7 H7 s7→tn (i + 1) s7.heap∧∀ b∈fp,H7 b=none:=fun {σ7 H7 s7 po} I7=>by
    refine ⟨T.keep _ _ _ st5 fun b hb o e=>(I7.pin (b,o) (List.mem_append_right _ (List.mem_append_right _ (mem_pinsAt hb e)))).1,fun b hb=>?_⟩
    obtain ⟨o,e,d⟩:=T.obj _ _ st5 b hb
    exact (I7.pin (b,o) (List.mem_append_right _ (List.mem_append_right _ (mem_pinsAt hb e)))).2.1
   refine thn (hg _ s5 σ3 H5 x u _ I5' r5 (body x H5 y5)) fun _ s6 ⟨σ6,H6,I6,q6⟩=>?_
   refine thn (ht _ s6 σ6 H6 _ I6 q6) fun ok s7 ⟨H7,I7,q7⟩=>?_
   cases ok with
   | false=>
    obtain ⟨m',hm,w7⟩:=q7
    obtain ⟨t7,n7⟩:=tail I7
    exact ⟨m',hm,i + 1,ys,its,n,σ6,H7,I7.unpinned,rv3,t7,n7,w7⟩
   | true=>
    refine thn (he _ s7 σ6 H7 _ I7 q7) fun v s8 ⟨y,H8,I8,r8,m',hm,w8⟩=>?_
    obtain ⟨t8,n8⟩:=tail I8
    obtain ⟨pD,nD,_,_,_⟩:=I8.pin (s2.heap.objs.size,{ cls:=.type "list",data:=.seq its.toArray n }) (List.mem_append_right _ (List.mem_append_left _ (List.mem_singleton.mpr rfl)))
    have hl:=rv3.length
    refine append_at (hsz:=by rw [List.size_toArray]; omega) pD fun h9 hs9 hD9=>?_
    have I8a:Inv (X.comp N' scope cl HP.objs.size s2 H2 fp (X.pn ++ pins)) [] σ6 H8 s8:=I8.pins_of fun p hp=>nomatch hp
    have I9:Inv (X.comp N' scope cl HP.objs.size s2 H2 fp (X.pn ++ pins)) [] σ6 H8 { s8 with heap:=h9 }:=I8a.turned (t':=s8.toks) (it:=s2.heap.objs.size) (fun b o hb e=>hs9.extBut b o hb e) nD hDC (.inr (Nat.le_refl _))
     (fun x c e z=>absurd (celllt x c e) (by rw [z]; exact Nat.lt_irrefl _)) (fun p hp z=>by
      rcases List.mem_append.mp hp with hp | hp
      ·exact absurd (pnOk p hp).1 (by rw [z]; exact Nat.lt_irrefl _)
      ·exact nomatch hp)
    have hD9':h9.get? s2.heap.objs.size=some { cls:=.type "list",data:=.seq (its ++ [v]).toArray (n + 1) }:=by
     rw [hD9,List.push_toArray]
    refine ⟨m',hm,i + 1,ys ++ [y],its ++ [v],n + 1,σ6,H8,I9.pins_of fun p hp=>?_,rv3.append (.cons r8 .nil),T.keep _ _ _ t8 fun b hb o e=>hs9.extBut b o (below b (fplt b hb)).2 e,n8,w8⟩
    have e:p=_:=List.mem_singleton.mp hp
    subst e
    exact ⟨hD9',nD,hDC,fun z=>absurd (fslt _ z) (Nat.lt_irrefl _),fun v z=>by have z':Data.seq _ _=Data.cell v:=z; cases z'⟩
 exact codeAny_compStart_list (loop _ rfl) (T.self X.A 0 _ _ _ hst₁ (loop _ rfl))
theorem pe_lc2 {X:Cx} {elt tg iter:Expr} {ifs:List Expr} {scope:Scope} {pos:Pos} {wi:TI} (N':List Str) (cap:List (Option Nat)) (hc:X.calm=true) (hi:PI X tg iter wi) (hcap:Caps X scope N' cap)
  (hcell:scope.names.all (fun y=>y.2 != NameKind.cell)=true) (hnames:scope.names.all (fun y=>y.2 != NameKind.local || scope.names.lookup y.1==some NameKind.local)=true)
  (hfr:scope.names.all (fun y=>y.2 != NameKind.free || (X.env.kindOf y.1==some NameKind.cell || X.env.kindOf y.1==some NameKind.free))=true)
  (hkind:scope.kind=.function) (hs:∀ x,foldedSetIterable iter X.env x=pure x):
  PE X (.ListComp elt [⟨tg,iter,ifs,0⟩] scope pos) (tComp X N' scope tg ifs elt wi cap):=by
 intro pins s σ H Q I h
 have hnames':∀ y∈scope.names,y.2=NameKind.local→scope.names.lookup y.1=some NameKind.local:=fun y hy hl=>by
  have:=List.all_eq_true.mp hnames y hy
  simpa [hl] using this
 have hcs:∀ y∈scope.names,y.2=NameKind.free→(X.env.cells.lookup y.1).isSome=true:=fun y hy hl=>by
  have:=List.all_eq_true.mp hfr y hy
  obtain ⟨c,e⟩:=I.ok.has y.1 (by simpa [hl] using this)
  rw [e]; rfl
 rw [eval_ListComp]
 refine wpAny_comprehension_free (use:=none) (Q:=EP X pins σ Q) rfl hs (closureFor_eq hcs) hkind hnames'
  (lc_core (RR:=fun acc C=>compPost (model X.prog X.w) X.A X.xe none (EP X pins σ Q) acc C) N' cap hc hi hcap hcell hfr hkind I h fun L C H' s4 m I4 q hn fC=>?_)
 obtain ⟨f0,f1,f2,f3,f4,f5⟩:=fC
 exact ⟨m,hn,fun h' hs'=>⟨.ref L,H',I4.turned (t':=s4.toks) (it:=C) (fun b o hb e=>hs'.extBut b o hb e) f0 f1 f3 f4 f5,rfl,q⟩⟩
theorem ps_lc {X:Cx} {elt tg iter:Expr} {ifs:List Expr} {scope:Scope} {pos py spos:Pos} {wi:TI} {i:Nat} {y:Str} (hN:X.N.Nodup) (hiy:X.N[i]?=some y) (hy:Loc X.env.scope y) (N':List Str) (cap:List (Option Nat)) (hc:X.calm=true) (hi:PI X tg iter wi) (hcap:Caps X scope N' cap)
  (hcell:scope.names.all (fun y=>y.2 != NameKind.cell)=true:=by rfl) (hnames:scope.names.all (fun y=>y.2 != NameKind.local || scope.names.lookup y.1==some NameKind.local)=true:=by rfl)
  (hfr:scope.names.all (fun y=>y.2 != NameKind.free || (X.env.kindOf y.1==some NameKind.cell || X.env.kindOf y.1==some NameKind.free))=true:=by rfl)
  (hkind:scope.kind=.function:=by rfl) (hs:∀ x,foldedSetIterable iter X.env x=pure x:=by intro _; rfl)
  (hsw:swapsWith (.ListComp elt [⟨tg,iter,ifs,0⟩] scope pos) (some (.Name y py)) spos.line X.env=pure true:=by rfl)
  (hf:X.fn y=true∨X.env.scope.names.lookup y=some .local:=by first | exact .inl rfl | exact .inr rfl | assumption):
  PS X (.Assign [.Name y py] (.ListComp elt [⟨tg,iter,ifs,0⟩] scope pos) spos) (tAsg (tComp X N' scope tg ifs elt wi cap) (gName i)):=by
 intro pins s σ H D I h
 have hnames':∀ y∈scope.names,y.2=NameKind.local→scope.names.lookup y.1=some NameKind.local:=fun y hy hl=>by
  have:=List.all_eq_true.mp hnames y hy
  simpa [hl] using this
 have hcs:∀ y∈scope.names,y.2=NameKind.free→(X.env.cells.lookup y.1).isSome=true:=fun y hy hl=>by
  have:=List.all_eq_true.mp hfr y hy
  obtain ⟨c,e⟩:=I.ok.has y.1 (by simpa [hl] using this)
  rw [e]; rfl
 rw [exec_Assign_Name_used _ _ _ _ hsw]
 refine wpAny_bind (wpAny_standAt (wpAny_bind ?_))
 show wpAny _ X.A (do let _ ← comprehension (.ListComp elt [⟨tg,iter,ifs,0⟩] scope pos) scope X.env _ (newList []) false (eval iter X.env) (some (assign (.Name y py) X.env))) _ _ s
 refine wpAny_bind (wpAny_mono (wpAny_comprehension_free (use:=some (assign (.Name y py) X.env)) (Q:=fun _ s'=>SP X pins D .next s') rfl hs (closureFor_eq hcs) hkind hnames'
  (lc_core (RR:=fun acc C=>compPost (model X.prog X.w) X.A X.xe (some (assign (.Name y py) X.env)) (fun _ s'=>SP X pins D .next s') acc C) N' cap hc hi hcap hcell hfr hkind I h fun L C H' s4 m I4 q hn fC=>?_)) (fun _ s' hq=>wpAny_pure (wpAny_pure hq)) fun _ _ e=>e)
 obtain ⟨oC,es,ep,eC,rC⟩:=id hn
 obtain ⟨f0,f1,f2,f3,f4,f5⟩:=fC
 have ncell:∀ v,oC.data≠.cell v:=fun v z=>by rw [rC.1] at z; cases z
 have I5:Inv X (pins ++ [(C,oC)]) σ H' s4:=I4.pins_of fun p hp=>by
  rcases List.mem_append.mp hp with z | z
  ·exact I4.pin p (List.mem_append_right _ z)
  ·have e:p=_:=List.mem_singleton.mp z
   subst e
   exact ⟨eC,f0,f1,f2,ncell⟩
 refine wpAny_assign_Name (store_ok I5 hN hiy hy (v:=.ref L) (u:=.ref L) rfl (fun s5 I6=>?_) hf)
 have eC5:s5.heap.get? C=some oC:=(I6.pin (C,oC) (List.mem_append_right _ (List.mem_append_right _ (List.mem_singleton.mpr rfl)))).1
 have I7:Inv X pins (σ.set i (some (.ref L))) H' s5:=I6.pins_of fun p hp=>I6.pin p (List.mem_append_right _ (List.mem_append_left _ hp))
 refine ⟨m,⟨oC,es,ep,eC5,rC⟩,fun h'' hs''=>?_⟩
 exact ⟨_,H',I7.turned (t':=s5.toks) (it:=C) (fun b o hb e=>hs''.extBut b o hb e) f0 f1 f3 f4 f5,q⟩
end L2
namespace L2
open PySem PySem.Spec PyProof.Rows
section
variable {X:Cx}
theorem op_isnot_bool:OpR X (compareOp .IsNot) (fun x y H Q=>∃ i j,x=.bl i∧y=.bl j∧Q (.bl (i != j)) H):=by
 intro pins s σ H x y v u Q I rx ry h
 obtain ⟨i,j,rfl,rfl,q⟩:=h
 cases rx
 cases ry
 exact isnot_bool ⟨.bl _,H,I,rfl,q⟩
end
end L2
namespace L2
open PySem PySem.Spec PyProof.Rows
def noStar:Expr→Bool
 | .Starred ..=>false
 | _=>true
theorem starEach_cons (e:Expr) (es:List Expr) (env:Env) (h:noStar e=true):starEach (e::es) env=(false,eval e env)::starEach es env:=by
 cases e <;> first | rfl | cases h
end L2
namespace L2
open PySem PySem.Spec PyProof.Rows
end L2
namespace L2
open PySem PySem.Spec PyProof.Rows
section
variable {prog:Program} {w:World} {A:Around} {E:Value→Shared→Prop} {s:Shared}
end
section
variable {X:Cx} {tg:Expr}
end
end L2
namespace L2
open PySem PySem.Spec PyProof.Rows
theorem pick_back (its:List Value):slicePick its.toArray none none (some (-1))=its.reverse.toArray:=by
 have e:(List.range its.length).map (fun k:Nat=>((its.length:Int) - 1 + -1 * (k:Int)).toNat)=(List.range its.length).map fun k=>its.length - 1 - k:=by
  apply List.map_congr_left
  intro k _
  omega
 have e2:(sliceRange ((its.length:Int) - 1) (-1) (-1))=(List.range its.length).map fun k=>its.length - 1 - k:=by
  rw [← e]
  unfold sliceRange
  dsimp only
  rw [if_neg (by decide)]
  congr 2
  by_cases h:(its.length:Int) - 1 > -1
  ·rw [if_pos h,show (-(-1):Int)=1 by decide,Int.ediv_one]; omega
  ·rw [if_neg h]; omega
 have e3:((List.range its.length).map fun k=>its.length - 1 - k).filterMap (fun x=>its.toArray[x]?)=its.reverse:=by
  have h1:∀ x∈(List.range its.length).map (fun k=>its.length - 1 - k),its.toArray[x]?=some (its.getD x .none):=by
   intro x hx
   obtain ⟨k,hk,rfl⟩:=List.mem_map.mp hx
   have:=List.mem_range.mp hk
   rw [List.getElem?_toArray,List.getD_eq_getElem?_getD,List.getElem?_eq_getElem (by omega)]; rfl
  have h2:∀ l:List Nat,(∀ x∈l,its.toArray[x]?=some (its.getD x .none))→(l.filterMap fun x=>its.toArray[x]?)=l.map fun x=>its.getD x .none:=fun l=>by
   induction l with
   | nil=>intro _; rfl
   | cons a l ih=>intro hl; rw [List.map_cons,← ih fun x hx=>hl x (List.mem_cons_of_mem _ hx),List.filterMap_cons,hl a List.mem_cons_self]
  rw [h2 _ h1,List.map_map]
  apply List.ext_getElem
  ·simp
  ·intro i hi hj
   rw [List.getElem_map,List.getElem_range,List.getElem_reverse]
   have:its.length - 1 - i < its.length:=by simp at hi; omega
   show its.getD (its.length - 1 - i) .none=_
   rw [List.getD_eq_getElem?_getD,List.getElem?_eq_getElem this]; rfl
 show ((sliceRange ((its.toArray.size:Int) - 1) (-1) (-1)).filterMap fun x=>its.toArray[x]?).toArray=_
 rw [List.size_toArray,e2,e3]
def rBack (K:PySem.W.Frag):V→V→Hp→VK→Prop:=fun x y H Q=>y=.int (-1)∧∃ a xs,x=.ref a∧SqL K H a xs∧∀ p,H p=none→Q (.ref p) (upd H p (.lst xs.reverse))
theorem Vals.back {xs:List V} {us:List Value} (r:Vals xs us):Vals xs.reverse us.reverse:=Vals.reverse r
variable {X:Cx} {e st:Expr} {te ts:TE} {p2 pos:Pos}
theorem pe_back (he:PE X e te) (hs:PE X st ts):PE X (.Subscript e (.Slice none none (some st) p2) pos) (fun σ H Q=>te σ H fun x H1=>ts σ H1 fun y H2=>rBack X.K x y H2 Q):=by
 intro pins s σ H Q I h
 refine Subscript_ (thn (he pins s σ H _ I h) fun v s1 ⟨x,H1,I1,r1,q1⟩=>?_)
 refine wpAny_Slice (thn (po_none pins s1 σ H1 (fun l H2=>l=none∧H2=H1) I1 ⟨rfl,rfl⟩) fun vl s2 hy=>?_)
 obtain ⟨l,H2,I2,pl,rfl,rfl⟩:=hy
 refine thn (po_none pins s2 σ H2 (fun l H3=>l=none∧H3=H2) I2 ⟨rfl,rfl⟩) fun vu s3 hy=>?_
 obtain ⟨u,H3,I3,pu,rfl,rfl⟩:=hy
 rw [evalPart_some]
 refine thn (hs pins s3 σ H3 _ I3 q1) fun vs s4 hy=>?_
 obtain ⟨y,H4,I4,r4,rfl,a,xs,rfl,hx,q⟩:=hy
 obtain ⟨t,rfl⟩:=r4
 cases r1
 have I5:Inv X pins σ H4 { s4 with heap:=s4.heap.push { cls:=.type "slice",data:=.fields #[vl,vu,.int (-1) t] } }:=I4.kept (t':=s4.toks) fun b ob q=>Heap.get?_push_of_some _ q
 obtain ⟨its,r,ht,hz⟩:=I5.list hx
 have hlen:=r.length
 refine tail_any (ops:=[.ref a,.ref s4.heap.objs.size]) (T:="list") ht.isList.typeIs slot_list_getitem.lookup ?_ (by with_unfolding_all rfl)
 refine wpAny_getItem_list_slice ht.isList (Heap.IsSliceOf.new ..) pl pu (.int (-1) t) (by simp) ?_ (by rw [List.size_toArray] <;> omega)
 rw [pick_back]
 refine ⟨.ref _,_,I5.laid (t':=s4.toks) (o:=.lst xs.reverse) (fun b ob q=>Heap.get?_push_of_some _ q) (Nat.le_refl _) ?_,rfl,q _ (I5.hok.fresh (Nat.le_refl _))⟩
 exact ⟨by rw [List.length_reverse]; exact hz,_,0,r.back,Heap.get?_push_size _ rfl⟩
end L2
namespace L2
open PySem PySem.Spec PyProof.Rows
def Tr (h0:Heap) (H:Hp) (h:Heap) (a:Addr) (c:Value):Prop:=
 ∃ oe vs T oT ts,h.get? a=some oe∧oe.cls=c∧oe.data=.fields vs∧vs[1]?=some (.ref T)∧T≠a∧h.get? T=some oT∧oT.data=.fields ts∧ts[3]?=some .none∧
  h0.get? a=none∧h0.get? T=none∧H a=none∧H T=none
def CX1 (P:Program) (w:World):CXT:=fun outer H s E e s'=>
 ∃ (a:Addr) (c:Value) (H':Hp),e=.ref a∧s'.os=s.os∧AllBare s'.gens∧Un (frs outer) [] H H' s.heap s'.heap∧HOk P w H' s'.heap∧Tr s.heap H' s'.heap a c∧E c none H'
section
variable {X:Cx} {pins:List (Addr×Obj)} {σ:St} {H:Hp} {s:Shared}
theorem passes_no {P:Program} {w:World} (Y:Cx):Passes (CX1 P w) Y fun _ _ _=>False:=fun _ _ _ _ _ _ _ h=>by
 obtain ⟨_,_,_,_,_,_,_,_,_,q⟩:=h
 exact q.elim
end
end L2
namespace L2
open PySem PySem.Spec PyProof.Rows
abbrev veM:List Value:=[.type "ValueError",.type "Exception",.type "BaseException",.type "object"]
def isVeM:List Value→Bool
 | [.type a,.type b,.type c,.type d]=>a=="ValueError" && b=="Exception" && c=="BaseException" && d=="object"
 | _=>false
def isKeyS:Value→Bool
 | .str _ _=>true
 | _=>false
def nsB (K:PySem.W.Frag) (N:Addr):Bool:=match K.lookup N with
 | some ⟨_,_,.dict es _,_⟩=>es.toList.all (fun e=>isKeyS e.key) && quietNames.all fun n=>(nsFind es n).isNone
 | _=>false
def clsB (K:PySem.W.Frag) (A:Addr):Bool:=match K.lookup A with
 | some ⟨_,_,.cls cd,_⟩=>nsB K cd.ns
 | _=>false
def tailB (K:PySem.W.Frag):List Value→Bool
 | []=>false
 | v::tl=>(match v with | .ref A=>clsB K A && tailB K tl | _=>isVeM (v::tl))
def isRef (C:Addr):Value→Bool
 | .ref a=>a==C
 | _=>false
def isNew:Option Value→Bool
 | some (.builtin s)=>s=="ValueError.__new__"
 | _=>false
def isTyp:Value→Bool
 | .type s=>s=="type"
 | _=>false
def xclsB (K:PySem.W.Frag) (C:Addr):Bool:=match K.lookup C with
 | some ⟨ty,_,.cls cd,⟨[_,_,_,_,k,_]⟩⟩=>isTyp ty && isNew k && nsB K cd.ns && !cd.hasDel && (match cd.mro with | v::tl=>isRef C v && tailB K tl | []=>false)
 | _=>false
section
variable {X:Cx}
def Throws (X:Cx) (E:XK):Prop:=∀ (pins:List (Addr×Obj)) (σ:St) (H:Hp) (s:Shared) (h':Heap) (a:Addr) (c:Value) (args:List Value),Inv X pins σ H s→s.heap.MadeExcOf h' a c args→E c none H→X.xe (.ref a) { s with heap:=h' }
end
end L2
namespace L2
open PySem PySem.Spec PyProof.Rows
section
variable {X:Cx}
variable {pins:List (Addr×Obj)} {σ:St} {H:Hp} {s:Shared}
variable {H':Hp} {a:Addr} {c:Value} {s':Shared}
end
end L2
namespace RF
open PySem PySem.Spec PyProof.Rows L2
inductive D where
 | non | bl (b:Bool) | int (i:Int) | str (l:List Nat) | tup (xs:List D) | lst (xs:List D) | ref (a:Addr) | scr (ns:List Int)
 deriving Inhabited
inductive DO where
 | lst (xs:List D)
 deriving Inhabited
abbrev DH:=Addr→Option DO
def gupd (G:DH) (a:Addr) (o:DO):DH:=fun b=>if b=a then some o else G b
def gdel (G:DH) (a:Addr):DH:=fun b=>if b=a then none else G b
theorem gupd_same {G:DH} {a:Addr} {o:DO}:gupd G a o a=some o:=if_pos rfl
theorem gupd_ne {G:DH} {a b:Addr} {o:DO} (h:b≠a):gupd G a o b=G b:=if_neg h
theorem gdel_same {G:DH} {a:Addr}:gdel G a a=none:=if_pos rfl
theorem gdel_ne {G:DH} {a b:Addr} (h:b≠a):gdel G a b=G b:=if_neg h
theorem gupd_gupd {G:DH} {a:Addr} {o u:DO}:gupd (gupd G a o) a u=gupd G a u:=by
 funext b; unfold gupd; split <;> rfl
theorem gdel_gupd {G:DH} {a:Addr} {o:DO} (h:G a=none):gdel (gupd G a o) a=G:=by
 funext b; unfold gupd gdel; split
 ·rename_i e; rw [e,h]
 ·rename_i e; exact if_neg e
theorem g_ne {G:DH} {a b:Addr} {o:DO} (h:G a=some o) (h':G b=none):a≠b:=by
 intro e; subst e; rw [h] at h'; cases h'
abbrev sz:Nat:=1000000
abbrev FZ:=Addr→Prop
def FzL (H:Hp) (F:FZ) (a:Addr) (vs:List V):Prop:=F a∧H a=some (.lst vs)
theorem FzL.sq {K:PySem.W.Frag} {H:Hp} {F:FZ} {a:Addr} {vs:List V} (h:FzL H F a vs):SqL K H a vs:=.inl (.inl h.2)
structure TpT (K:PySem.W.Frag) (H:Hp) (a:Addr) (vs:List V):Prop where
 it:H a=some (.tup vs)
theorem TpT.sq {K:PySem.W.Frag} {H:Hp} {a:Addr} {vs:List V} (h:TpT K H a vs):SqT K H a vs:=.inl (.inl h.it)
def ScL (K:PySem.W.Frag) (H:Hp) (a:Addr) (vs:List V):Prop:=
 (∃ o,H a=some (.frz o (.lst vs)))∨
  ∃ (o:Obj) (its:Array Value) (n:Nat),K.lookup a=some o∧o.cls=.type "list"∧o.dict=none∧o.data=.seq its n∧its.size≤sizeLine∧Vals vs its.toList
theorem ScL.sq {K:PySem.W.Frag} {H:Hp} {a:Addr} {vs:List V} (h:ScL K H a vs):SqL K H a vs:=by
 rcases h with ⟨o,h⟩ | h
 ·exact .inl (.inr ⟨o,h⟩)
 ·exact .inr h
mutual
def Rep (K:PySem.W.Frag) (H:Hp) (F:FZ):D→V→Prop
 | .non,v=>v=.non
 | .bl b,v=>v=.bl b
 | .int i,v=>v=.int i
 | .str l,v=>v=.str (tx l)∧l.length≤sz
 | .tup ds,v=>∃ a vs,v=.ref a∧TpT K H a vs∧Reps K H F ds vs
 | .lst ds,v=>∃ a vs,v=.ref a∧FzL H F a vs∧Reps K H F ds vs
 | .ref a,v=>v=.ref a
 | .scr ns,v=>∃ a,v=.ref a∧ScL K H a (ns.map V.int)
def Reps (K:PySem.W.Frag) (H:Hp) (F:FZ):List D→List V→Prop
 | [],vs=>vs=[]
 | d::ds,vs=>∃ v r,vs=v::r∧Rep K H F d v∧Reps K H F ds r
end
structure Ext (H:Hp) (F:FZ) (H':Hp) (F':FZ):Prop where
 sub:∀ a,F a→F' a
 keep:∀ a,F a→H' a=H a
 tups:∀ a xs,H a=some (.tup xs)→H' a=some (.tup xs)
 frzs:∀ a o u,H a=some (.frz o u)→H' a=some (.frz o u)
theorem Ext.refl (H:Hp) (F:FZ):Ext H F H F:=⟨fun _ h=>h,fun _ _=>rfl,fun _ _ h=>h,fun _ _ _ h=>h⟩
theorem Ext.trans {H H1 H2:Hp} {F F1 F2:FZ} (a:Ext H F H1 F1) (b:Ext H1 F1 H2 F2):Ext H F H2 F2:=
 ⟨fun c h=>b.sub c (a.sub c h),fun c h=>(b.keep c (a.sub c h)).trans (a.keep c h),fun c xs h=>b.tups c xs (a.tups c xs h),fun c o u h=>b.frzs c o u (a.frzs c o u h)⟩
section
variable {K:PySem.W.Frag} {H H':Hp} {F F':FZ}
theorem TpT.ext {a:Addr} {vs:List V} (x:Ext H F H' F') (h:TpT K H a vs):TpT K H' a vs:=⟨x.tups _ _ h.it⟩
theorem FzL.ext {a:Addr} {vs:List V} (x:Ext H F H' F') (h:FzL H F a vs):FzL H' F' a vs:=⟨x.sub _ h.1,(x.keep _ h.1).trans h.2⟩
theorem ScL.ext {a:Addr} {vs:List V} (x:Ext H F H' F') (h:ScL K H a vs):ScL K H' a vs:=by
 rcases h with ⟨o,h⟩ | h
 ·exact .inl ⟨o,x.frzs _ _ _ h⟩
 ·exact .inr h
mutual
theorem Rep.ext (x:Ext H F H' F'):∀ {d:D} {v:V},Rep K H F d v→Rep K H' F' d v
 | .non,_,h=>h
 | .bl _,_,h=>h
 | .int _,_,h=>h
 | .str _,_,h=>h
 | .tup _,_,⟨a,vs,e,q,r⟩=>⟨a,vs,e,TpT.ext x q,Reps.ext x r⟩
 | .lst _,_,⟨a,vs,e,q,r⟩=>⟨a,vs,e,FzL.ext x q,Reps.ext x r⟩
 | .ref _,_,h=>h
 | .scr _,_,⟨a,e,q⟩=>⟨a,e,ScL.ext x q⟩
theorem Reps.ext (x:Ext H F H' F'):∀ {ds:List D} {vs:List V},Reps K H F ds vs→Reps K H' F' ds vs
 | [],_,h=>h
 | _::_,_,⟨v,r,e,h,t⟩=>⟨v,r,e,Rep.ext x h,Reps.ext x t⟩
end
theorem Reps.nil:Reps K H F [] []:=rfl
theorem Reps.cons {d:D} {v:V} {ds:List D} {vs:List V} (h:Rep K H F d v) (t:Reps K H F ds vs):Reps K H F (d::ds) (v::vs):=⟨v,vs,rfl,h,t⟩
theorem Reps.length:∀ {ds:List D} {vs:List V},Reps K H F ds vs→ds.length=vs.length
 | [],_,h=>by cases h; rfl
 | _::_,_,⟨v,r,e,_,t⟩=>by subst e; simp [Reps.length t]
theorem Reps.append:∀ {ds es:List D} {vs us:List V},Reps K H F ds vs→Reps K H F es us→Reps K H F (ds ++ es) (vs ++ us)
 | [],_,_,_,h,t=>by cases h; exact t
 | _::_,_,_,_,⟨v,r,e,h,t⟩,t'=>by subst e; exact ⟨v,_,rfl,h,Reps.append t t'⟩
theorem Reps.get:∀ {ds:List D} {vs:List V} {i:Nat} {d:D},Reps K H F ds vs→ds[i]?=some d→∃ v,vs[i]?=some v∧Rep K H F d v
 | [],_,_,_,_,e=>by simp at e
 | _::_,_,0,_,⟨v,r,e,h,t⟩,q=>by subst e; simp at q; subst q; exact ⟨v,rfl,h⟩
 | _::_,_,i + 1,d,⟨v,r,e,h,t⟩,q=>by
  subst e
  obtain ⟨u,h1,h2⟩:=Reps.get (i:=i) (d:=d) t (by simpa using q)
  exact ⟨u,by simpa using h1,h2⟩
theorem Reps.set {d:D} {v:V} (r:Rep K H F d v):∀ {ds:List D} {vs:List V} (i:Nat),Reps K H F ds vs→Reps K H F (ds.set i d) (vs.set i v)
 | [],_,_,h=>by cases h; exact rfl
 | _::_,_,0,⟨v',r',e,h,t⟩=>by subst e; exact ⟨_,_,rfl,r,t⟩
 | _::_,_,i + 1,⟨v',r',e,h,t⟩=>by subst e; exact ⟨_,_,rfl,h,Reps.set r i t⟩
theorem Reps.take:∀ {ds:List D} {vs:List V} (n:Nat),Reps K H F ds vs→Reps K H F (ds.take n) (vs.take n)
 | _,_,0,_=>rfl
 | [],_,_ + 1,h=>by cases h; exact rfl
 | _::_,_,n + 1,⟨v',r',e,h,t⟩=>by subst e; exact ⟨_,_,rfl,h,Reps.take n t⟩
theorem Reps.drop:∀ {ds:List D} {vs:List V} (n:Nat),Reps K H F ds vs→Reps K H F (ds.drop n) (vs.drop n)
 | _,_,0,h=>h
 | [],_,_ + 1,h=>by cases h; exact rfl
 | _::_,_,n + 1,⟨v',r',e,h,t⟩=>by subst e; exact Reps.drop n t
theorem Reps.cut {ds:List D} {vs:List V} (h:Reps K H F ds vs) (lo hi:Option Int):
  Reps K H F ((ds.drop (HT.sIx ds.length 0 lo)).take (HT.sIx ds.length ds.length hi - HT.sIx ds.length 0 lo)) (cutV vs lo hi):=by
 unfold cutV
 rw [← h.length]
 exact (h.drop _).take _
theorem Reps.reverse:∀ {ds:List D} {vs:List V},Reps K H F ds vs→Reps K H F ds.reverse vs.reverse
 | [],_,h=>by cases h; exact rfl
 | _::_,_,⟨v',r',e,h,t⟩=>by
  subst e
  rw [List.reverse_cons,List.reverse_cons]
  exact Reps.append (Reps.reverse t) (Reps.cons h rfl)
end
def ORep (K:PySem.W.Frag) (H:Hp) (F:FZ) (a:Addr):DO→Prop
 | .lst ds=>∃ vs,H a=some (.lst vs)∧Reps K H F ds vs
structure R (K:PySem.W.Frag) (H:Hp) (F:FZ) (G:DH):Prop where
 fz:∀ a,F a→G a=none∧∃ vs,H a=some (.lst vs)
 ob:∀ a o,G a=some o→ORep K H F a o
section
variable {K:PySem.W.Frag} {H:Hp} {F:FZ} {G:DH} {p:Addr} {vs:List V} {ds:List D}
theorem R.lst (r:R K H F G) (h:G p=some (.lst ds)):∃ vs,H p=some (.lst vs)∧Reps K H F ds vs:=r.ob p _ h
theorem R.free (r:R K H F G) (h:H p=none):G p=none:=by
 cases e:G p with
 | none=>rfl
 | some o=>
  cases o with
  | lst ds=>obtain ⟨vs,q,_⟩:=r.lst e; rw [h] at q; cases q
theorem R.notF (r:R K H F G) (h:H p=none):¬ F p:=fun f=>by
 obtain ⟨_,vs,q⟩:=r.fz p f; rw [h] at q; cases q
theorem ext_new {o:HO} (r:R K H F G) (h:H p=none):Ext H F (upd H p o) F:=
 ⟨fun _ f=>f,fun a f=>upd_ne fun e=>r.notF h (by rw [← e]; exact f),fun a xs q=>by rw [upd_ne (ne_of_none q h)]; exact q,fun a ob u q=>by rw [upd_ne (ne_of_none q h)]; exact q⟩
theorem R.new {o:HO} (r:R K H F G) (h:H p=none):R K (upd H p o) F G:=by
 have x:Ext H F (upd H p o) F:=ext_new r h
 refine ⟨fun a f=>⟨(r.fz a f).1,?_⟩,fun a u e=>?_⟩
 ·obtain ⟨_,vs,q⟩:=r.fz a f
  exact ⟨vs,by rw [x.keep a f]; exact q⟩
 ·cases u with
  | lst ds=>
   obtain ⟨vs,q,t⟩:=r.lst e
   exact ⟨vs,by rw [upd_ne (ne_of_none q h)]; exact q,Reps.ext x t⟩
theorem R.newL (r:R K H F G) (h:H p=none) (t:Reps K H F ds vs):R K (upd H p (.lst vs)) F (gupd G p (.lst ds)):=by
 have x:Ext H F (upd H p (.lst vs)) F:=ext_new r h
 have r':R K (upd H p (.lst vs)) F G:=r.new h
 refine ⟨fun a f=>⟨?_,(r'.fz a f).2⟩,fun a u e=>?_⟩
 ·rw [gupd_ne fun e=>r.notF h (by rw [← e]; exact f)]; exact (r.fz a f).1
 ·by_cases ha:a=p
  ·subst ha
   rw [gupd_same] at e; cases e
   exact ⟨vs,upd_same,Reps.ext x t⟩
  ·rw [gupd_ne ha] at e
   exact r'.ob a u e
theorem ext_newF (r:R K H F G) (h:H p=none):Ext H F (upd H p (.lst vs)) (fun a=>F a∨a=p):=
 ⟨fun _ f=>.inl f,(ext_new r h).keep,(ext_new r h).tups,(ext_new r h).frzs⟩
theorem R.newF (r:R K H F G) (h:H p=none):R K (upd H p (.lst vs)) (fun a=>F a∨a=p) G:=by
 have x:Ext H F (upd H p (.lst vs)) (fun a=>F a∨a=p):=ext_newF r h
 refine ⟨fun a f=>?_,fun a u e=>?_⟩
 ·rcases f with f | f
  ·obtain ⟨g,vs',q⟩:=r.fz a f
   exact ⟨g,vs',by rw [x.keep a f]; exact q⟩
  ·subst f
   exact ⟨r.free h,vs,upd_same⟩
 ·cases u with
  | lst ds=>
   obtain ⟨vs',q,t⟩:=r.lst e
   exact ⟨vs',by rw [upd_ne (ne_of_none q h)]; exact q,Reps.ext x t⟩
theorem rep_newF (r:R K H F G) (h:H p=none) (t:Reps K H F ds vs):Rep K (upd H p (.lst vs)) (fun a=>F a∨a=p) (.lst ds) (.ref p):=
 ⟨p,vs,rfl,⟨.inr rfl,upd_same⟩,Reps.ext (ext_newF r h) t⟩
theorem rep_newT (r:R K H F G) (h:H p=none) (t:Reps K H F ds vs):Rep K (upd H p (.tup vs)) F (.tup ds) (.ref p):=
 ⟨p,vs,rfl,⟨upd_same⟩,Reps.ext (ext_new r h) t⟩
theorem ext_write {ds0:List D} {o:HO} (r:R K H F G) (h:G p=some (.lst ds0)):Ext H F (upd H p o) F:=by
 obtain ⟨vs0,q,_⟩:=r.lst h
 refine ⟨fun _ f=>f,fun a f=>upd_ne fun e=>?_,fun a xs z=>?_,fun a ob u z=>?_⟩
 ·subst e; rw [(r.fz a f).1] at h; cases h
 ·rw [upd_ne (ne_of z q (by intro w; cases w))]; exact z
 ·rw [upd_ne (ne_of z q (by intro w; cases w))]; exact z
theorem R.write {ds0:List D} (r:R K H F G) (h:G p=some (.lst ds0)) (t:Reps K H F ds vs):R K (upd H p (.lst vs)) F (gupd G p (.lst ds)):=by
 have x:Ext H F (upd H p (.lst vs)) F:=ext_write r h
 refine ⟨fun a f=>⟨?_,?_⟩,fun a u e=>?_⟩
 ·rw [gupd_ne fun e=>by subst e; rw [(r.fz a f).1] at h; cases h]; exact (r.fz a f).1
 ·obtain ⟨_,vs',q⟩:=r.fz a f
  exact ⟨vs',by rw [x.keep a f]; exact q⟩
 ·by_cases ha:a=p
  ·subst ha
   rw [gupd_same] at e; cases e
   exact ⟨vs,upd_same,Reps.ext x t⟩
  ·rw [gupd_ne ha] at e
   cases u with
   | lst ds'=>
    obtain ⟨vs',q,t'⟩:=r.lst e
    exact ⟨vs',by rw [upd_ne ha]; exact q,Reps.ext x t'⟩
theorem ext_frz:Ext H F H (fun a=>F a∨a=p):=⟨fun _ f=>.inl f,fun _ _=>rfl,fun _ _ h=>h,fun _ _ _ h=>h⟩
theorem R.frz (r:R K H F G) (h:G p=some (.lst ds)):R K H (fun a=>F a∨a=p) (gdel G p):=by
 have x:Ext H F H (fun a=>F a∨a=p):=ext_frz
 refine ⟨fun a f=>?_,fun a u e=>?_⟩
 ·rcases f with f | f
  ·obtain ⟨g,vs',q⟩:=r.fz a f
   refine ⟨?_,vs',q⟩
   by_cases ha:a=p
   ·rw [ha]; exact gdel_same
   ·rw [gdel_ne ha]; exact g
  ·subst f
   obtain ⟨vs,q,_⟩:=r.lst h
   exact ⟨gdel_same,vs,q⟩
 ·by_cases ha:a=p
  ·rw [ha,gdel_same] at e; cases e
  ·rw [gdel_ne ha] at e
   cases u with
   | lst ds'=>
    obtain ⟨vs',q,t'⟩:=r.lst e
    exact ⟨vs',q,Reps.ext x t'⟩
theorem rep_frz (r:R K H F G) (h:G p=some (.lst ds)):Rep K H (fun a=>F a∨a=p) (.lst ds) (.ref p):=by
 obtain ⟨vs,q,t⟩:=r.lst h
 exact ⟨p,vs,rfl,⟨.inr rfl,q⟩,Reps.ext ext_frz t⟩
end
def view (G:DH):D→D
 | .ref p=>match G p with | some (.lst ds)=>.lst ds | none=>.ref p
 | d=>d
theorem Rep.list {K:PySem.W.Frag} {H:Hp} {F:FZ} {G:DH} {d:D} {v:V} {ds:List D} (r:R K H F G) (h:Rep K H F d v) (e:view G d=.lst ds):∃ a vs,v=.ref a∧SqL K H a vs∧Reps K H F ds vs:=by
 cases d with
 | lst xs=>
  have e':D.lst xs=.lst ds:=e
  cases e'
  obtain ⟨a,vs,e1,q,t⟩:=h
  exact ⟨a,vs,e1,q.sq,t⟩
 | ref p=>
  have hv:v=.ref p:=h
  unfold view at e
  cases g:G p with
  | none=>simp only [g] at e; cases e
  | some o=>
   cases o with
   | lst xs=>
    simp only [g] at e
    cases e
    obtain ⟨vs,q,t⟩:=r.lst g
    exact ⟨p,vs,hv,.inl (.inl q),t⟩
 | _=>cases (show _=D.lst ds from e)
theorem view_tup {G:DH} {d:D} {ds:List D} (e:view G d=.tup ds):d=.tup ds:=by
 cases d with
 | ref p=>
  unfold view at e
  cases g:G p with
  | none=>simp only [g] at e; cases e
  | some o=>cases o; simp only [g] at e; cases e
 | _=>exact e
theorem view_str {G:DH} {d:D} {l:List Nat} (e:view G d=.str l):d=.str l:=by
 cases d with
 | ref p=>
  unfold view at e
  cases g:G p with
  | none=>simp only [g] at e; cases e
  | some o=>cases o; simp only [g] at e; cases e
 | _=>exact e
theorem view_int {G:DH} {d:D} {l:Int} (e:view G d=.int l):d=.int l:=by
 cases d with
 | ref p=>
  unfold view at e
  cases g:G p with
  | none=>simp only [g] at e; cases e
  | some o=>cases o; simp only [g] at e; cases e
 | _=>exact e
theorem view_bl {G:DH} {d:D} {l:Bool} (e:view G d=.bl l):d=.bl l:=by
 cases d with
 | ref p=>
  unfold view at e
  cases g:G p with
  | none=>simp only [g] at e; cases e
  | some o=>cases o; simp only [g] at e; cases e
 | _=>exact e
abbrev Env':=List (Option D)
def EnvR (K:PySem.W.Frag) (H:Hp) (F:FZ):Env'→L2.St→Prop
 | [],σ=>σ=[]
 | o::ρ,σ=>∃ u τ,σ=u::τ∧(∀ d,o=some d→∃ v,u=some v∧Rep K H F d v)∧EnvR K H F ρ τ
section
variable {K:PySem.W.Frag} {H H':Hp} {F F':FZ}
theorem EnvR.ext (x:Ext H F H' F'):∀ {ρ:Env'} {σ:L2.St},EnvR K H F ρ σ→EnvR K H' F' ρ σ
 | [],_,h=>h
 | _::_,_,⟨u,τ,e,h,t⟩=>⟨u,τ,e,fun d q=>by obtain ⟨v,e1,r⟩:=h d q; exact ⟨v,e1,Rep.ext x r⟩,EnvR.ext x t⟩
theorem EnvR.get:∀ {ρ:Env'} {σ:L2.St} {i:Nat} {d:D},EnvR K H F ρ σ→ρ[i]?=some (some d)→∃ v,σ[i]?=some (some v)∧Rep K H F d v
 | [],_,_,_,_,e=>by simp at e
 | _::_,_,0,d,⟨u,τ,e,h,t⟩,q=>by
  subst e
  obtain ⟨v,e1,r⟩:=h d (by simpa using q)
  exact ⟨v,by simp [e1],r⟩
 | _::_,_,i + 1,d,⟨u,τ,e,h,t⟩,q=>by
  subst e
  obtain ⟨v,e1,r⟩:=EnvR.get (i:=i) (d:=d) t (by simpa using q)
  exact ⟨v,by simpa using e1,r⟩
theorem EnvR.set {d:D} {v:V} (r:Rep K H F d v):∀ {ρ:Env'} {σ:L2.St} (i:Nat),EnvR K H F ρ σ→EnvR K H F (ρ.set i (some d)) (σ.set i (some v))
 | [],_,_,h=>by cases h; exact rfl
 | _::_,_,0,⟨u,τ,e,h,t⟩=>by subst e; exact ⟨_,_,rfl,fun d' q=>⟨v,rfl,by cases q; exact r⟩,t⟩
 | _::_,_,i + 1,⟨u,τ,e,h,t⟩=>by subst e; exact ⟨_,_,rfl,h,EnvR.set r i t⟩
theorem EnvR.none:∀ (n:Nat),EnvR K H F (List.replicate n Option.none) (List.replicate n Option.none)
 | 0=>rfl
 | n + 1=>⟨_,_,rfl,fun d q=>(nomatch q),EnvR.none n⟩
theorem EnvR.start:∀ {ds:List D} {vs:List V} (n:Nat),Reps K H F ds vs→EnvR K H F (ds.map some ++ List.replicate n Option.none) (vs.map some ++ List.replicate n Option.none)
 | [],_,n,h=>by cases h; exact EnvR.none n
 | d::ds,_,n,⟨v,r,e,h,t⟩=>by
  subst e
  exact ⟨_,_,rfl,fun d' q=>⟨v,rfl,by cases q; exact h⟩,EnvR.start n t⟩
theorem EnvR.cap {ρ:Env'} {σ:L2.St} (h:EnvR K H F ρ σ):∀ (cap:List (Option Nat)),EnvR K H F (cap.map fun o=>match o with | Option.none=>Option.none | some j=>(ρ[j]?).join) (capSt cap σ)
 | []=>rfl
 | Option.none::cap=>⟨_,_,rfl,fun d q=>(nomatch q),EnvR.cap h cap⟩
 | some j::cap=>by
  refine ⟨_,_,rfl,fun d q=>?_,EnvR.cap h cap⟩
  have q':(ρ[j]?).join=some d:=q
  have z:ρ[j]?=some (some d):=by
   cases e:ρ[j]? with
   | none=>rw [e] at q'; cases q'
   | some o=>rw [e] at q'; exact congrArg some q'
  obtain ⟨v,e1,r⟩:=h.get z
  exact ⟨v,by show (σ[j]?).join=some v; rw [e1]; rfl,r⟩
end
end RF
namespace RF
open PySem L2
mutual
def deq:D→D→Bool
 | .non,.non=>true
 | .bl a,.bl b=>a==b
 | .bl a,.int b=>(if a then 1 else 0)==b
 | .int a,.bl b=>a==(if b then 1 else 0)
 | .int a,.int b=>a==b
 | .str a,.str b=>a==b
 | .tup a,.tup b=>deqs a b
 | .lst a,.lst b=>deqs a b
 | _,_=>false
def deqs:List D→List D→Bool
 | [],[]=>true
 | a::as,b::bs=>deq a b && deqs as bs
 | _,_=>false
end
mutual
/-- no tracked object within -/
def nr:D→Bool
 | .tup a=>nrs a
 | .lst a=>nrs a
 | .ref _=>false
 | .scr _=>false
 | _=>true
def nrs:List D→Bool
 | []=>true
 | a::as=>nr a && nrs as
end
mutual
def dpt:D→Nat
 | .tup a=>dpts a + 1
 | .lst a=>dpts a + 1
 | _=>0
def dpts:List D→Nat
 | []=>0
 | a::as=>max (dpt a) (dpts as)
end
def truth:D→Option Bool
 | .non=>some false
 | .bl b=>some b
 | .int i=>some (i != 0)
 | .str l=>some (!l.isEmpty)
 | .tup l=>some (!l.isEmpty)
 | .lst l=>some (!l.isEmpty)
 | _=>none
def cut {α:Type} (xs:List α) (lo hi:Option Int):List α:=(xs.drop (HT.sIx xs.length 0 lo)).take (HT.sIx xs.length xs.length hi - HT.sIx xs.length 0 lo)
def reps {α:Type} (xs:List α) (n:Nat):List α:=(List.replicate n xs).flatten
def mk (fz:Bool) (xs:List D) (G:DH) (k:D→DH→Prop):Prop:=
 match fz with
 | true=>k (.lst xs) G
 | false=>∀ p,G p=none→k (.ref p) (gupd G p (.lst xs))
def opAdd (fz:Bool) (a b:D) (G:DH) (k:D→DH→Prop):Prop:=
 match a with
 | .int i=>(match b with | .int j=>k (.int (i + j)) G | _=>False)
 | .str x=>(match b with | .str y=>x.length + y.length≤sz∧k (.str (x ++ y)) G | _=>False)
 | .lst x=>(match b with | .lst y=>x.length + y.length≤sz∧mk fz (x ++ y) G k | _=>False)
 | .tup x=>(match b with | .tup y=>x.length + y.length≤sz∧k (.tup (x ++ y)) G | _=>False)
 | _=>False
def opInts (a b:D) (p:Int→Int→Prop):Prop:=
 match a with
 | .int i=>(match b with | .int j=>p i j | _=>False)
 | _=>False
def opMul (a b:D) (G:DH) (k:D→DH→Prop):Prop:=
 match b with
 | .int n=>(match a with | .int i=>CMul i n∧k (.int (i * n)) G | .str x=>0≤n∧n≤1000∧x.length * n.toNat≤sz∧k (.str (reps x n.toNat)) G | _=>False)
 | _=>False
def opBin (op:Operator) (fz:Bool) (a b:D) (G:DH) (k:D→DH→Prop):Prop:=
 match op with
 | .Add=>opAdd fz a b G k
 | .Sub=>opInts a b fun i j=>k (.int (i - j)) G
 | .Mult=>opMul a b G k
 | .FloorDiv=>opInts a b fun i j=>(0 < j∧j < 1073741824)∧k (.int (i / j)) G
 | .Mod=>opInts a b fun i j=>0 < j∧k (.int (i % j)) G
 | .Pow=>opInts a b fun i j=>CPow i j∧k (.int (i ^ j.toNat)) G
 | _=>False
def isIn (x:D) (ys:List D):Bool:=ys.any fun y=>deq y x
def cmpG (a b:D):Prop:=nr a=true∧nr b=true∧min (dpt a) (dpt b)≤60
def inG (a:D) (l:List D):Prop:=nr a=true∧nrs l=true∧dpts l≤60
def opLt (a b:D) (k:Bool→Prop):Prop:=
 match a,b with
 | .int i,.int j=>k (decide (i < j))
 | .str i,.str j=>k (decide (i < j))
 | _,_=>False
def opLe (a b:D) (k:Bool→Prop):Prop:=
 match a,b with
 | .int i,.int j=>k (decide (i≤j))
 | .str i,.str j=>k (!decide (j < i))
 | _,_=>False
def opGt (a b:D) (k:Bool→Prop):Prop:=
 match a,b with
 | .int i,.int j=>k (decide (j < i))
 | _,_=>False
def opGe (a b:D) (k:Bool→Prop):Prop:=
 match a,b with
 | .int i,.int j=>k (decide (j≤i))
 | _,_=>False
def nonB (a:D):Bool:=match a with | .non=>true | _=>false
def opIs (a b:D) (k:Bool→Prop):Prop:=
 match b with
 | .non=>k (nonB a)
 | .bl b=>(match a with | .bl a=>k (a==b) | _=>False)
 | _=>False
def opIsN (a b:D) (k:Bool→Prop):Prop:=
 match b with
 | .non=>k (!nonB a)
 | .bl b=>(match a with | .bl a=>k (a != b) | _=>False)
 | _=>False
def opIn (a b:D) (k:Bool→Prop):Prop:=
 match b with
 | .str l=>(match a with | .str [c]=>k (l.contains c) | _=>False)
 | .lst l=>inG a l∧k (isIn a l)
 | .tup l=>inG a l∧k (isIn a l)
 | _=>False
def opCmp (op:CmpOp) (a b:D) (k:Bool→Prop):Prop:=
 match op with
 | .Eq=>cmpG a b∧k (deq a b)
 | .NotEq=>cmpG a b∧k (!deq a b)
 | .Lt=>opLt a b k
 | .LtE=>opLe a b k
 | .Gt=>opGt a b k
 | .GtE=>opGe a b k
 | .Is=>opIs a b k
 | .IsNot=>opIsN a b k
 | .In=>opIn a b k
 | .NotIn=>opIn a b fun c=>k (!c)
def opIdx (a i:D) (k:D→Prop):Prop:=
 match a,i with
 | .lst ds,.int i=>match atI ds i with | some d=>k d | none=>False
 | .tup ds,.int i=>match atI ds i with | some d=>k d | none=>False
 | .str l,.int i=>match atI l i with | some c=>k (.str [c]) | none=>False
 | _,_=>False
def opSlc (fz:Bool) (a:D) (lo hi:Option Int) (G:DH) (k:D→DH→Prop):Prop:=
 match a with
 | .lst ds=>mk fz (cut ds lo hi) G k
 | .scr ns=>mk fz ((cut ns lo hi).map .int) G k
 | .tup ds=>k (.tup (cut ds lo hi)) G
 | .str l=>k (.str (cut l lo hi)) G
 | _=>False
def opRvs (fz:Bool) (a y:D) (G:DH) (k:D→DH→Prop):Prop:=
 match a with
 | .lst ds=>y=.int (-1)∧mk fz ds.reverse G k
 | _=>False
def bools:List D→Option (List Bool)
 | []=>some []
 | .bl b::r=>match bools r with | some s=>some (b::s) | none=>none
 | _=>none
def dInts:List D→Option (List Int)
 | []=>some []
 | .int b::r=>match dInts r with | some s=>some (b::s) | none=>none
 | _=>none
def dStrs:List D→Option (List (List Nat))
 | []=>some []
 | .str b::r=>match dStrs r with | some s=>some (b::s) | none=>none
 | _=>none
def joinL (s:List Nat):List (List Nat)→List Nat
 | []=>[]
 | [x]=>x
 | x::y::r=>x ++ s ++ joinL s (y::r)
inductive Bf where
 | len | all | int | tuple | sum | min | max
inductive Lf where
 | list | sorted
inductive Mf where
 | join | append | extend | insert
def opLen (as:List D) (k:D→Prop):Prop:=
 match as with
 | [.lst ds]=>k (.int ds.length)
 | [.tup ds]=>k (.int ds.length)
 | [.str l]=>k (.int l.length)
 | _=>False
def opAll (as:List D) (k:D→Prop):Prop:=
 match as with
 | [.lst ds]=>match bools ds with | some bs=>k (.bl (bs.all id)) | none=>False
 | _=>False
def opInt (as:List D) (k:D→Prop):Prop:=
 match as with
 | [.bl b]=>k (.int (if b then 1 else 0))
 | [.int i]=>k (.int i)
 | [.str l]=>match PySem.intText? (tx l) with | some n=>l.length≤640∧k (.int n) | none=>False
 | _=>False
def opTuple (as:List D) (k:D→Prop):Prop:=
 match as with
 | [.lst ds]=>k (.tup ds)
 | [.tup ds]=>k (.tup ds)
 | _=>False
def opSum (as:List D) (k:D→Prop):Prop:=
 match as with
 | [.lst ds]=>match dInts ds with | some ns=>k (.int ns.sum) | none=>False
 | _=>False
def opMin (as:List D) (k:D→Prop):Prop:=
 match as with
 | [.lst ds]=>match dInts ds with
  | some ns=>ns≠[]∧∀ m,m∈ns→(∀ a,a∈ns→m≤a)→k (.int m)
  | none=>match dStrs ds with
   | some ls=>∀ m,m∈ls→(∀ a,a∈ls→¬ a < m)→k (.str m)
   | none=>False
 | _=>False
def opMax (as:List D) (k:D→Prop):Prop:=
 match as with
 | [.int a,.int b]=>k (.int (if b > a then b else a))
 | _=>False
def opB:Bf→List D→(D→Prop)→Prop
 | .len=>opLen
 | .all=>opAll
 | .int=>opInt
 | .tuple=>opTuple
 | .sum=>opSum
 | .min=>opMin
 | .max=>opMax
def opList (as:List D) (k:List D→Prop):Prop:=
 match as with
 | [.lst ds]=>k ds
 | [.tup ds]=>k ds
 | [.str l]=>k (l.map fun c=>.str [c])
 | _=>False
def opSorted (as:List D) (k:List D→Prop):Prop:=
 match as with
 | [.lst ds]=>match dStrs ds with | some ls=>ls.length < 64∧∀ ls':List (List Nat),ls'.Perm ls→PyProof.Rows.sortedS (ls'.map tx)=true→k (ls'.map D.str) | none=>False
 | _=>False
def opBL:Lf→List D→(List D→Prop)→Prop
 | .list=>opList
 | .sorted=>opSorted
def isT (t:String) (d:D):Option Bool:=
 match d with
 | .non=>some false
 | .bl _=>some (t=="bool" || t=="int")
 | .int _=>some (t=="int")
 | .str _=>some (t=="str")
 | .tup _=>some (t=="tuple")
 | .lst _=>some (t=="list")
 | _=>none
def goodT (t:String):Bool:=t=="bool" || t=="int" || t=="str" || t=="tuple" || t=="list"
def opJoin (o:D) (as:List D) (G:DH) (k:D→DH→Prop):Prop:=
 match o,as with
 | .str s,[.lst ds]=>match dStrs ds with | some ls=>((ls.map (·.length)).sum + ls.length * s.length≤sz)∧k (.str (joinL s ls)) G | none=>False
 | _,_=>False
def opAppend (o:D) (as:List D) (G:DH) (k:D→DH→Prop):Prop:=
 match o,as with
 | .ref p,[x]=>match G p with | some (.lst ds)=>ds.length < sz∧k .non (gupd G p (.lst (ds ++ [x]))) | none=>False
 | _,_=>False
def opExtend (o:D) (as:List D) (G:DH) (k:D→DH→Prop):Prop:=
 match o,as with
 | .ref p,[.lst xs]=>match G p with | some (.lst ds)=>ds.length + xs.length < sz∧k .non (gupd G p (.lst (ds ++ xs))) | none=>False
 | _,_=>False
def opInsert (o:D) (as:List D) (G:DH) (k:D→DH→Prop):Prop:=
 match o,as with
 | .ref p,[.int i,x]=>match G p with | some (.lst ds)=>ds.length < sz∧0≤i∧i≤1000000∧k .non (gupd G p (.lst (ds.take i.toNat ++ x::ds.drop i.toNat))) | none=>False
 | _,_=>False
def recv (m:Mf) (o:D) (G:DH):Prop:=
 match m,o with
 | .join,.str _=>True
 | .append,.ref p=>match G p with | some (.lst _)=>True | none=>False
 | .extend,.ref p=>match G p with | some (.lst _)=>True | none=>False
 | .insert,.ref p=>match G p with | some (.lst _)=>True | none=>False
 | _,_=>False
def opM:Mf→D→List D→DH→(D→DH→Prop)→Prop
 | .join,o,as,G,k=>opJoin o (as.map (view G)) G k
 | .append,o,as,G,k=>opAppend o as G k
 | .extend,o,as,G,k=>opExtend o (as.map (view G)) G k
 | .insert,o,as,G,k=>opInsert o as G k
mutual
inductive Tg where
 | nm (i:Nat)
 | tp (ts:Tgs)
inductive Tgs where
 | nil
 | cons (t:Tg) (r:Tgs)
end
mutual
inductive Ex where
 | var (i:Nat)
 | cst (d:D)
 | glb (x:String) (d:D)
 | bin (op:Operator) (fz:Bool) (a b:Ex)
 | neg (a:Ex)
 | cmp (op:CmpOp) (a b:Ex)
 | chn (op op':CmpOp) (a b c:Ex)
 | not (a:Ex)
 | boo (isAnd:Bool) (e:Ex) (es:Exs)
 | ife (c:Tx) (a b:Ex)
 | tup (es:Exs)
 | lst (fz:Bool) (es:Exs)
 | idx (a i:Ex)
 | slc (fz:Bool) (a:Ex) (lo hi:Ox)
 | rvs (fz:Bool) (a s:Ex)
 | call (f:String) (es:Exs)
 | bcl (f:Bf) (es:Exs)
 | lcl (fz:Bool) (f:Lf) (es:Exs)
 | isi (a:Ex) (t:String)
 | mth (m:Mf) (o:Ex) (es:Exs)
 | comp (fz:Bool) (elt:Ex) (tg:Tg) (it:It') (cond:Tx) (N:List String) (cap:List (Option Nat))
 | frz (a:Ex)
inductive Exs where
 | nil
 | cons (e:Ex) (es:Exs)
/-- a test -/
inductive Tx where
 | val (e:Ex)
 | not (t:Tx)
 | boo (isAnd:Bool) (t:Tx) (ts:Txs)
 | yes
inductive Txs where
 | nil
 | cons (t:Tx) (ts:Txs)
/-- a bound of a slice -/
inductive Ox where
 | no
 | ob (e:Ex)
/-- what a loop walks -/
inductive It' where
 | seq (e:Ex)
 | rng (a:Ex)
 | rng2 (a b:Ex)
 | rev (a:Ex)
 | dwn (a b c:Ex)
 | enm (e:Ex)
 | zip (a b:Ex)
end
mutual
inductive Sx where
 | exp (e:Ex)
 | asg (t:Tg) (e:Ex)
 | set (o i e:Ex)
 | aug (i:Nat) (op:Operator) (e:Ex)
 | augs (o i:Ex) (op:Operator) (e:Ex)
 | ret (e:Ex)
 | rtn
 | ite (c:Tx) (a b:Sxs)
 | for_ (t:Tg) (it:It') (body:Sxs)
 | whl (c:Tx) (body:Sxs)
 | pas
 | brk
 | cnt
 | nev
 | rse (C:String) (es:Exs)
 | tryc (f:String) (es:Exs) (C:String) (i:Nat) (b:Bool)
inductive Sxs where
 | nil
 | cons (s:Sx) (r:Sxs)
end
structure Xn where
 cls:String
 fld:D
structure Spec where
 A:Type
 pre:List D→DH→A→Prop
 post:A→D→DH→Prop
 exc:A→Xn→DH→Prop
abbrev EK:=Xn→DH→Prop
def Spec.t (S:Spec) (ds:List D) (G:DH) (Q:D→DH→Prop) (E:EK):Prop:=
 ∃ a,S.pre ds G a∧(∀ d G',S.post a d G'→Q d G')∧∀ x G',S.exc a x G'→E x G'
theorem Spec.mono {S:Spec} {ds:List D} {G:DH} {Q Q':D→DH→Prop} {E E':EK} (h:S.t ds G Q E) (hq:∀ d G',Q d G'→Q' d G') (he:∀ x G',E x G'→E' x G'):S.t ds G Q' E':=by
 obtain ⟨a,h1,h2,h3⟩:=h
 exact ⟨a,h1,fun d G' q=>hq _ _ (h2 d G' q),fun x G' q=>he _ _ (h3 x G' q)⟩
abbrev Funs:=String→Spec
mutual
def bindT:Tg→D→Env'→DH→(Env'→Prop)→Prop
 | .nm i,d,ρ,_,k=>k (ρ.set i (some d))
 | .tp ts,d,ρ,G,k=>match d with | .tup ds=>bindTs ts ds ρ G k | .lst ds=>bindTs ts ds ρ G k | _=>False
def bindTs:Tgs→List D→Env'→DH→(Env'→Prop)→Prop
 | .nil,ds,ρ,_,k=>match ds with | []=>k ρ | _=>False
 | .cons t r,ds,ρ,G,k=>match ds with | d::ds=>bindT t d ρ G (fun ρ'=>bindTs r ds ρ' G k) | []=>False
end
abbrev Hld:=List (Addr×List D)
def held:Hld→DH→Prop
 | [],_=>True
 | (a,ds)::r,G=>G a=some (.lst ds)∧held r G
def compLoop (step:D→Env'→DH→(Option D→Env'→DH→Prop)→Prop) (g:Hld):List D→List D→Env'→DH→(List D→DH→Prop)→Prop
 | [],acc,_,G,k=>held g G∧acc.length≤sz∧k acc G
 | d::ds,acc,ρ,G,k=>held g G∧acc.length < sz∧step d ρ G (fun o ρ' G'=>match o with | some y=>compLoop step g ds (acc ++ [y]) ρ' G' k | none=>compLoop step g ds acc ρ' G' k)
def enumL:Nat→List D→List D
 | _,[]=>[]
 | i,d::ds=>.tup [.int i,d]::enumL (i + 1) ds
def zipL:List D→List D→List D
 | a::as,b::bs=>.tup [a,b]::zipL as bs
 | _,_=>[]
def itemsOf (G:DH):D→Option (List D×Hld)
 | .lst ds=>some (ds,[])
 | .tup ds=>some (ds,[])
 | .str l=>some (l.map fun c=>.str [c],[])
 | .ref p=>match G p with | some (.lst ds)=>some (ds,[(p,ds)]) | none=>none
 | _=>none
def rangeL (lo:Int) (n:Nat):List D:=(List.range n).map fun i=>.int (lo + (i:Nat))
def downL (lo:Int) (n:Nat):List D:=(List.range n).map fun i=>.int (lo - (i:Nat))
def noE:EK:=fun _ _=>False
mutual
def wpE (Φ:Funs):Ex→EK→Env'→DH→(D→DH→Prop)→Prop
 | .var i,_,ρ,G,k=>match ρ[i]? with | some (some d)=>k d G | _=>False
 | .cst d,_,_,G,k=>k d G
 | .glb _ d,_,_,G,k=>k d G
 | .bin op fz a b,E,ρ,G,k=>wpE Φ a E ρ G fun x G1=>wpE Φ b E ρ G1 fun y G2=>opBin op fz (view G2 x) (view G2 y) G2 k
 | .neg a,E,ρ,G,k=>wpE Φ a E ρ G fun x G1=>match x with | .int i=>k (.int (-i)) G1 | _=>False
 | .cmp op a b,E,ρ,G,k=>wpE Φ a E ρ G fun x G1=>wpE Φ b E ρ G1 fun y G2=>opCmp op (view G2 x) (view G2 y) fun c=>k (.bl c) G2
 | .chn op op' a b c,E,ρ,G,k=>wpE Φ a E ρ G fun x G1=>wpE Φ b E ρ G1 fun y G2=>opCmp op (view G2 x) (view G2 y) fun t=>
   match t with
   | true=>wpE Φ c E ρ G2 fun z G3=>opCmp op' (view G3 y) (view G3 z) fun t'=>k (.bl t') G3
   | false=>k (.bl false) G2
 | .not a,E,ρ,G,k=>wpE Φ a E ρ G fun x G1=>match truth (view G1 x) with | some b=>k (.bl (!b)) G1 | none=>False
 | .boo isAnd e es,E,ρ,G,k=>wpE Φ e E ρ G fun d G1=>match d with | .bl b=>wpB Φ es isAnd b E ρ G1 (fun c G2=>k (.bl c) G2) | _=>False
 | .ife c a b,E,ρ,G,k=>wpT Φ c E ρ G fun t G1=>match t with | true=>wpE Φ a E ρ G1 k | false=>wpE Φ b E ρ G1 k
 | .tup es,E,ρ,G,k=>wpEs Φ es E ρ G fun ds G1=>ds.length≤sz∧k (.tup ds) G1
 | .lst fz es,E,ρ,G,k=>wpEs Φ es E ρ G fun ds G1=>ds.length≤sz∧mk fz ds G1 k
 | .idx a i,E,ρ,G,k=>wpE Φ a E ρ G fun x G1=>wpE Φ i E ρ G1 fun y G2=>opIdx (view G2 x) y fun d=>k d G2
 | .slc fz a lo hi,E,ρ,G,k=>wpE Φ a E ρ G fun x G1=>wpO Φ lo E ρ G1 fun l G2=>wpO Φ hi E ρ G2 fun h G3=>opSlc fz (view G3 x) l h G3 k
 | .rvs fz a s,E,ρ,G,k=>wpE Φ a E ρ G fun x G1=>wpE Φ s E ρ G1 fun y G2=>opRvs fz (view G2 x) y G2 k
 | .call f es,E,ρ,G,k=>wpEs Φ es E ρ G fun ds G1=>(Φ f).t ds G1 k E
 | .bcl f es,E,ρ,G,k=>wpEs Φ es E ρ G fun ds G1=>opB f (ds.map (view G1)) fun d=>k d G1
 | .lcl fz f es,E,ρ,G,k=>wpEs Φ es E ρ G fun ds G1=>opBL f (ds.map (view G1)) fun xs=>mk fz xs G1 k
 | .isi a t,E,ρ,G,k=>wpE Φ a E ρ G fun x G1=>match isT t (view G1 x) with | some b=>k (.bl b) G1 | none=>False
 | .mth m o es,E,ρ,G,k=>wpE Φ o E ρ G fun x G1=>recv m x G1∧wpEs Φ es E ρ G1 fun ds G2=>opM m x ds G2 k
 | .comp fz elt tg it cond _ cap,E,ρ,G,k=>wpI Φ it E ρ G fun items g G1=>
   compLoop (fun d ρ' G' k'=>bindT tg d ρ' G' fun ρ1=>wpT Φ cond noE ρ1 G' fun b G2=>match b with | true=>wpE Φ elt noE ρ1 G2 fun y G3=>k' (some y) ρ1 G3 | false=>k' none ρ1 G2)
    g items [] (cap.map fun o=>match o with | none=>none | some j=>(ρ[j]?).join) G1 fun ds G2=>mk fz ds G2 k
 | .frz a,E,ρ,G,k=>wpE Φ a E ρ G fun x G1=>match x with | .ref p=>(match G1 p with | some (.lst ds)=>k (.lst ds) (gdel G1 p) | none=>False) | d=>k d G1
/-- a test -/
def wpT (Φ:Funs):Tx→EK→Env'→DH→(Bool→DH→Prop)→Prop
 | .not a,E,ρ,G,k=>wpT Φ a E ρ G fun b G1=>k (!b) G1
 | .boo isAnd e es,E,ρ,G,k=>wpT Φ e E ρ G fun b G1=>wpTB Φ es isAnd b E ρ G1 k
 | .yes,_,_,G,k=>k true G
 | .val x,E,ρ,G,k=>wpE Φ x E ρ G fun d G1=>match truth (view G1 d) with | some b=>k b G1 | none=>False
def wpEs (Φ:Funs):Exs→EK→Env'→DH→(List D→DH→Prop)→Prop
 | .nil,_,_,G,k=>k [] G
 | .cons e es,E,ρ,G,k=>wpE Φ e E ρ G fun d G1=>wpEs Φ es E ρ G1 fun ds G2=>k (d::ds) G2
/-- and,or as values:truths alone; b:the one ahead -/
def wpB (Φ:Funs):Exs→Bool→Bool→EK→Env'→DH→(Bool→DH→Prop)→Prop
 | .nil,_,b,_,_,G,k=>k b G
 | .cons e es,isAnd,b,E,ρ,G,k=>match isAnd,b with
  | true,false=>k false G
  | false,true=>k true G
  | _,_=>wpE Φ e E ρ G fun d G1=>match d with | .bl b'=>wpB Φ es isAnd b' E ρ G1 k | _=>False
def wpTB (Φ:Funs):Txs→Bool→Bool→EK→Env'→DH→(Bool→DH→Prop)→Prop
 | .nil,_,b,_,_,G,k=>k b G
 | .cons e es,isAnd,b,E,ρ,G,k=>match isAnd,b with
  | true,false=>k false G
  | false,true=>k true G
  | _,_=>wpT Φ e E ρ G fun b' G1=>wpTB Φ es isAnd b' E ρ G1 k
/-- a bound of a slice -/
def wpO (Φ:Funs):Ox→EK→Env'→DH→(Option Int→DH→Prop)→Prop
 | .no,_,_,G,k=>k none G
 | .ob x,E,ρ,G,k=>wpE Φ x E ρ G fun d G1=>match d with | .int i=>k (some i) G1 | _=>False
def wpI (Φ:Funs):It'→EK→Env'→DH→(List D→Hld→DH→Prop)→Prop
 | .seq e,E,ρ,G,k=>wpE Φ e E ρ G fun d G1=>match itemsOf G1 d with | some ds=>k ds.1 ds.2 G1 | none=>False
 | .rng a,E,ρ,G,k=>wpE Φ a E ρ G fun d G1=>match d with | .int n=>(-(2 ^ 62)≤n∧n < 2 ^ 62)∧k (rangeL 0 n.toNat) [] G1 | _=>False
 | .rng2 a b,E,ρ,G,k=>wpE Φ a E ρ G fun x G1=>wpE Φ b E ρ G1 fun y G2=>match x,y with
  | .int m,.int n=>(-(2 ^ 62)≤m∧m < 2 ^ 62∧-(2 ^ 62)≤n∧n < 2 ^ 62)∧k (rangeL m (n - m).toNat) [] G2
  | _,_=>False
 | .rev a,E,ρ,G,k=>wpE Φ a E ρ G fun d G1=>match d with | .int n=>(-(2 ^ 62)≤n∧n < 2 ^ 62)∧k (downL ((n.toNat:Int) - 1) n.toNat) [] G1 | _=>False
 | .dwn a b c,E,ρ,G,k=>wpE Φ a E ρ G fun x G1=>wpE Φ b E ρ G1 fun y G2=>wpE Φ c E ρ G2 fun z G3=>match x,y,z with
  | .int m,.int n,.int s=>(s=-1∧-(2 ^ 62)≤m∧m < 2 ^ 62∧-(2 ^ 62)≤n∧n < 2 ^ 62)∧k (downL m (m - n).toNat) [] G3
  | _,_,_=>False
 | .enm e,E,ρ,G,k=>wpE Φ e E ρ G fun d G1=>match itemsOf G1 d with | some ds=>k (enumL 0 ds.1) ds.2 G1 | none=>False
 | .zip a b,E,ρ,G,k=>wpE Φ a E ρ G fun x G1=>wpE Φ b E ρ G1 fun y G2=>match itemsOf G2 x,itemsOf G2 y with | some ds,some es=>k (zipL ds.1 es.1) (ds.2 ++ es.2) G2 | _,_=>False
end
structure En where
 nx:Env'→DH→Prop
 rt:D→DH→Prop
 bk:Env'→DH→Prop
 ct:Env'→DH→Prop
def forLoop (step:D→Env'→DH→(Env'→DH→Prop)→Prop) (g:Hld):List D→Env'→DH→(Env'→DH→Prop)→Prop
 | [],ρ,G,k=>held g G∧k ρ G
 | d::ds,ρ,G,k=>held g G∧step d ρ G fun ρ' G'=>forLoop step g ds ρ' G' k
def whileLoop (test:Env'→DH→(Bool→DH→Prop)→Prop) (body:Env'→DH→(Env'→DH→Prop)→Prop):Nat→Env'→DH→(Env'→DH→Prop)→Prop
 | 0,_,_,_=>False
 | n + 1,ρ,G,k=>test ρ G fun b G1=>match b with | true=>body ρ G1 fun ρ' G'=>whileLoop test body n ρ' G' k | false=>k ρ G1
def opSet (o i x:D) (G:DH) (k:DH→Prop):Prop:=
 match o,i with
 | .ref p,.int i=>match G p with | some (.lst ds)=>(match ixN ds.length i with | some j=>k (gupd G p (.lst (ds.set j x))) | none=>False) | none=>False
 | _,_=>False
def opAug (op:Operator) (a b:D) (k:D→Prop):Prop:=
 match op,a,b with
 | .Add,.int i,.int j=>k (.int (i + j))
 | .Add,.str x,.str y=>x.length + y.length≤sz∧k (.str (x ++ y))
 | .Sub,.int i,.int j=>k (.int (i - j))
 | _,_,_=>False
def smallI:D→Bool
 | .int i=>decide (0≤i) && decide (i < 100)
 | _=>false
def wpM (Φ:Funs):Exs→EK→Env'→DH→(DH→Prop)→Prop
 | .nil,_,_,G,k=>k G
 | .cons e es,E,ρ,G,k=>wpE Φ e E ρ G fun d G1=>smallI d=true∧wpM Φ es E ρ G1 k
mutual
def wpS (Φ:Funs):Sx→EK→Env'→DH→En→Prop
 | .exp e,E,ρ,G,D=>wpE Φ e E ρ G fun _ G1=>D.nx ρ G1
 | .asg t e,E,ρ,G,D=>wpE Φ e E ρ G fun d G1=>bindT t d ρ G1 fun ρ'=>D.nx ρ' G1
 | .set o i e,E,ρ,G,D=>wpE Φ e E ρ G fun x G1=>wpE Φ o E ρ G1 fun a G2=>wpE Φ i E ρ G2 fun y G3=>opSet a y x G3 fun G4=>D.nx ρ G4
 | .aug i op e,E,ρ,G,D=>match ρ[i]? with
  | some (some a)=>wpE Φ e E ρ G fun b G1=>opAug op a b fun c=>D.nx (ρ.set i (some c)) G1
  | _=>False
 | .augs o i op e,E,ρ,G,D=>wpE Φ o E ρ G fun a G1=>wpE Φ i E ρ G1 fun y G2=>opIdx (view G2 a) y fun old=>wpE Φ e E ρ G2 fun b G3=>opAug op old b fun c=>opSet a y c G3 fun G4=>D.nx ρ G4
 | .ret e,E,ρ,G,D=>wpE Φ e E ρ G D.rt
 | .rtn,_,_,G,D=>D.rt .non G
 | .ite c a b,E,ρ,G,D=>wpT Φ c E ρ G fun t G1=>match t with | true=>wpSs Φ a E ρ G1 D | false=>wpSs Φ b E ρ G1 D
 | .for_ t it body,E,ρ,G,D=>wpI Φ it E ρ G fun items g G1=>
   forLoop (fun d ρ' G' k=>bindT t d ρ' G' fun ρ1=>wpSs Φ body E ρ1 G' { D with nx:=k,ct:=k,bk:=D.nx }) g items ρ G1 D.nx
 | .whl c body,E,ρ,G,D=>∃ n,whileLoop (fun ρ' G' k=>wpT Φ c E ρ' G' k) (fun ρ' G' k=>wpSs Φ body E ρ' G' { D with nx:=k,ct:=k,bk:=D.nx }) n ρ G D.nx
 | .pas,_,ρ,G,D=>D.nx ρ G
 | .brk,_,ρ,G,D=>D.bk ρ G
 | .cnt,_,ρ,G,D=>D.ct ρ G
 | .nev,_,_,_,_=>False
 | .rse C es,E,ρ,G,_=>wpM Φ es E ρ G fun G1=>E ⟨C,.non⟩ G1
 | .tryc f es C i b,_,ρ,G,D=>wpEs Φ es noE ρ G fun ds G1=>(Φ f).t ds G1 (fun _ G2=>D.nx ρ G2) fun x G2=>x.cls=C∧x.fld=.non∧D.nx (ρ.set i (some (.bl b))) G2
def wpSs (Φ:Funs):Sxs→EK→Env'→DH→En→Prop
 | .nil,_,ρ,G,D=>D.nx ρ G
 | .cons s r,E,ρ,G,D=>wpS Φ s E ρ G { D with nx:=fun ρ' G'=>wpSs Φ r E ρ' G' D }
end
theorem wT_not {Φ:Funs} {a} {E} {ρ} {G} {k}:wpT Φ (.not a) E ρ G k=(wpT Φ a E ρ G fun b G1=>k (!b) G1):=rfl
theorem wT_boo {Φ:Funs} {isAnd} {e} {es} {E} {ρ} {G} {k}:wpT Φ (.boo isAnd e es) E ρ G k=(wpT Φ e E ρ G fun b G1=>wpTB Φ es isAnd b E ρ G1 k):=rfl
theorem wT_yes {Φ:Funs} {E} {ρ} {G} {k}:wpT Φ .yes E ρ G k=(k true G):=rfl
theorem wT_val {Φ:Funs} {x} {E} {ρ} {G} {k}:wpT Φ (.val x) E ρ G k=(wpE Φ x E ρ G fun d G1=>match truth (view G1 d) with | some b=>k b G1 | none=>False):=rfl
theorem wEs_nil {Φ:Funs} {E} {ρ} {G} {k}:wpEs Φ .nil E ρ G k=(k [] G):=rfl
theorem wEs_cons {Φ:Funs} {e} {es} {E} {ρ} {G} {k}:wpEs Φ (.cons e es) E ρ G k=(wpE Φ e E ρ G fun d G1=>wpEs Φ es E ρ G1 fun ds G2=>k (d::ds) G2):=rfl
theorem wB_nil {Φ:Funs} {isAnd:Bool} {b:Bool} {E} {ρ} {G} {k}:wpB Φ .nil isAnd b E ρ G k=(k b G):=rfl
theorem wB_cons {Φ:Funs} {e} {es} {isAnd:Bool} {b:Bool} {E} {ρ} {G} {k}:wpB Φ (.cons e es) isAnd b E ρ G k=(match isAnd,b with
  | true,false=>k false G
  | false,true=>k true G
  | _,_=>wpE Φ e E ρ G fun d G1=>match d with | .bl b'=>wpB Φ es isAnd b' E ρ G1 k | _=>False):=rfl
theorem wTB_nil {Φ:Funs} {isAnd:Bool} {b:Bool} {E} {ρ} {G} {k}:wpTB Φ .nil isAnd b E ρ G k=(k b G):=rfl
theorem wTB_cons {Φ:Funs} {e} {es} {isAnd:Bool} {b:Bool} {E} {ρ} {G} {k}:wpTB Φ (.cons e es) isAnd b E ρ G k=(match isAnd,b with
  | true,false=>k false G
  | false,true=>k true G
  | _,_=>wpT Φ e E ρ G fun b' G1=>wpTB Φ es isAnd b' E ρ G1 k):=rfl
theorem wO_no {Φ:Funs} {E} {ρ} {G} {k}:wpO Φ .no E ρ G k=(k none G):=rfl
theorem wO_ob {Φ:Funs} {x} {E} {ρ} {G} {k}:wpO Φ (.ob x) E ρ G k=(wpE Φ x E ρ G fun d G1=>match d with | .int i=>k (some i) G1 | _=>False):=rfl
theorem wI_seq {Φ:Funs} {e} {E} {ρ} {G} {k}:wpI Φ (.seq e) E ρ G k=(wpE Φ e E ρ G fun d G1=>match itemsOf G1 d with | some ds=>k ds.1 ds.2 G1 | none=>False):=rfl
theorem wI_rng {Φ:Funs} {a} {E} {ρ} {G} {k}:wpI Φ (.rng a) E ρ G k=(wpE Φ a E ρ G fun d G1=>match d with | .int n=>(-(2 ^ 62)≤n∧n < 2 ^ 62)∧k (rangeL 0 n.toNat) [] G1 | _=>False):=rfl
theorem wI_rng2 {Φ:Funs} {a} {b} {E} {ρ} {G} {k}:wpI Φ (.rng2 a b) E ρ G k=(wpE Φ a E ρ G fun x G1=>wpE Φ b E ρ G1 fun y G2=>match x,y with
  | .int m,.int n=>(-(2 ^ 62)≤m∧m < 2 ^ 62∧-(2 ^ 62)≤n∧n < 2 ^ 62)∧k (rangeL m (n - m).toNat) [] G2
  | _,_=>False):=rfl
theorem wI_rev {Φ:Funs} {a} {E} {ρ} {G} {k}:wpI Φ (.rev a) E ρ G k=(wpE Φ a E ρ G fun d G1=>match d with | .int n=>(-(2 ^ 62)≤n∧n < 2 ^ 62)∧k (downL ((n.toNat:Int) - 1) n.toNat) [] G1 | _=>False):=rfl
theorem wI_dwn {Φ:Funs} {a} {b} {c} {E} {ρ} {G} {k}:wpI Φ (.dwn a b c) E ρ G k=(wpE Φ a E ρ G fun x G1=>wpE Φ b E ρ G1 fun y G2=>wpE Φ c E ρ G2 fun z G3=>match x,y,z with
  | .int m,.int n,.int s=>(s=-1∧-(2 ^ 62)≤m∧m < 2 ^ 62∧-(2 ^ 62)≤n∧n < 2 ^ 62)∧k (downL m (m - n).toNat) [] G3
  | _,_,_=>False):=rfl
theorem wI_enm {Φ:Funs} {e} {E} {ρ} {G} {k}:wpI Φ (.enm e) E ρ G k=(wpE Φ e E ρ G fun d G1=>match itemsOf G1 d with | some ds=>k (enumL 0 ds.1) ds.2 G1 | none=>False):=rfl
theorem wI_zip {Φ:Funs} {a} {b} {E} {ρ} {G} {k}:wpI Φ (.zip a b) E ρ G k=(wpE Φ a E ρ G fun x G1=>wpE Φ b E ρ G1 fun y G2=>match itemsOf G2 x,itemsOf G2 y with | some ds,some es=>k (zipL ds.1 es.1) (ds.2 ++ es.2) G2 | _,_=>False):=rfl
theorem wSs_nil {Φ:Funs} {E} {ρ} {G} {D}:wpSs Φ .nil E ρ G D=(D.nx ρ G):=rfl
theorem wSs_cons {Φ:Funs} {s} {r} {E} {ρ} {G} {D}:wpSs Φ (.cons s r) E ρ G D=(wpS Φ s E ρ G { D with nx:=fun ρ' G'=>wpSs Φ r E ρ' G' D }):=rfl
theorem wE_var {Φ:Funs} {i E ρ G k}:wpE Φ (.var i) E ρ G k=(match ρ[i]? with | some (some d)=>k d G | _=>False):=rfl
theorem wE_cst {Φ:Funs} {d E ρ G k}:wpE Φ (.cst d) E ρ G k=(k d G):=rfl
theorem wE_glb {Φ:Funs} {u0 d E ρ G k}:wpE Φ (.glb u0 d) E ρ G k=(k d G):=rfl
theorem wE_bin {Φ:Funs} {op fz a b E ρ G k}:wpE Φ (.bin op fz a b) E ρ G k=(wpE Φ a E ρ G fun x G1=>wpE Φ b E ρ G1 fun y G2=>opBin op fz (view G2 x) (view G2 y) G2 k):=rfl
theorem wE_neg {Φ:Funs} {a E ρ G k}:wpE Φ (.neg a) E ρ G k=(wpE Φ a E ρ G fun x G1=>match x with | .int i=>k (.int (-i)) G1 | _=>False):=rfl
theorem wE_cmp {Φ:Funs} {op a b E ρ G k}:wpE Φ (.cmp op a b) E ρ G k=(wpE Φ a E ρ G fun x G1=>wpE Φ b E ρ G1 fun y G2=>opCmp op (view G2 x) (view G2 y) fun c=>k (.bl c) G2):=rfl
theorem wE_chn {Φ:Funs} {op op' a b c E ρ G k}:wpE Φ (.chn op op' a b c) E ρ G k=(wpE Φ a E ρ G fun x G1=>wpE Φ b E ρ G1 fun y G2=>opCmp op (view G2 x) (view G2 y) fun t=>
   match t with
   | true=>wpE Φ c E ρ G2 fun z G3=>opCmp op' (view G3 y) (view G3 z) fun t'=>k (.bl t') G3
   | false=>k (.bl false) G2):=rfl
theorem wE_not {Φ:Funs} {a E ρ G k}:wpE Φ (.not a) E ρ G k=(wpE Φ a E ρ G fun x G1=>match truth (view G1 x) with | some b=>k (.bl (!b)) G1 | none=>False):=rfl
theorem wE_boo {Φ:Funs} {isAnd e es E ρ G k}:wpE Φ (.boo isAnd e es) E ρ G k=(wpE Φ e E ρ G fun d G1=>match d with | .bl b=>wpB Φ es isAnd b E ρ G1 (fun c G2=>k (.bl c) G2) | _=>False):=rfl
theorem wE_ife {Φ:Funs} {c a b E ρ G k}:wpE Φ (.ife c a b) E ρ G k=(wpT Φ c E ρ G fun t G1=>match t with | true=>wpE Φ a E ρ G1 k | false=>wpE Φ b E ρ G1 k):=rfl
theorem wE_tup {Φ:Funs} {es E ρ G k}:wpE Φ (.tup es) E ρ G k=(wpEs Φ es E ρ G fun ds G1=>ds.length≤sz∧k (.tup ds) G1):=rfl
theorem wE_lst {Φ:Funs} {fz es E ρ G k}:wpE Φ (.lst fz es) E ρ G k=(wpEs Φ es E ρ G fun ds G1=>ds.length≤sz∧mk fz ds G1 k):=rfl
theorem wE_idx {Φ:Funs} {a i E ρ G k}:wpE Φ (.idx a i) E ρ G k=(wpE Φ a E ρ G fun x G1=>wpE Φ i E ρ G1 fun y G2=>opIdx (view G2 x) y fun d=>k d G2):=rfl
theorem wE_rvs {Φ:Funs} {fz a s E ρ G k}:wpE Φ (.rvs fz a s) E ρ G k=(wpE Φ a E ρ G fun x G1=>wpE Φ s E ρ G1 fun y G2=>opRvs fz (view G2 x) y G2 k):=rfl
theorem wE_slc {Φ:Funs} {fz a lo hi E ρ G k}:wpE Φ (.slc fz a lo hi) E ρ G k=(wpE Φ a E ρ G fun x G1=>wpO Φ lo E ρ G1 fun l G2=>wpO Φ hi E ρ G2 fun h G3=>opSlc fz (view G3 x) l h G3 k):=rfl
theorem wE_call {Φ:Funs} {f es E ρ G k}:wpE Φ (.call f es) E ρ G k=(wpEs Φ es E ρ G fun ds G1=>(Φ f).t ds G1 k E):=rfl
theorem wE_bcl {Φ:Funs} {f es E ρ G k}:wpE Φ (.bcl f es) E ρ G k=(wpEs Φ es E ρ G fun ds G1=>opB f (ds.map (view G1)) fun d=>k d G1):=rfl
theorem wE_lcl {Φ:Funs} {fz f es E ρ G k}:wpE Φ (.lcl fz f es) E ρ G k=(wpEs Φ es E ρ G fun ds G1=>opBL f (ds.map (view G1)) fun xs=>mk fz xs G1 k):=rfl
theorem wE_isi {Φ:Funs} {a t E ρ G k}:wpE Φ (.isi a t) E ρ G k=(wpE Φ a E ρ G fun x G1=>match isT t (view G1 x) with | some b=>k (.bl b) G1 | none=>False):=rfl
theorem wE_mth {Φ:Funs} {m o es E ρ G k}:wpE Φ (.mth m o es) E ρ G k=(wpE Φ o E ρ G fun x G1=>recv m x G1∧wpEs Φ es E ρ G1 fun ds G2=>opM m x ds G2 k):=rfl
theorem wE_frz {Φ:Funs} {a E ρ G k}:wpE Φ (.frz a) E ρ G k=(wpE Φ a E ρ G fun x G1=>match x with | .ref p=>(match G1 p with | some (.lst ds)=>k (.lst ds) (gdel G1 p) | none=>False) | d=>k d G1):=rfl
theorem wS_exp {Φ:Funs} {e E ρ G D}:wpS Φ (.exp e) E ρ G D=(wpE Φ e E ρ G fun _ G1=>D.nx ρ G1):=rfl
theorem wS_asg {Φ:Funs} {t e E ρ G D}:wpS Φ (.asg t e) E ρ G D=(wpE Φ e E ρ G fun d G1=>bindT t d ρ G1 fun ρ'=>D.nx ρ' G1):=rfl
theorem wS_set {Φ:Funs} {o i e E ρ G D}:wpS Φ (.set o i e) E ρ G D=(wpE Φ e E ρ G fun x G1=>wpE Φ o E ρ G1 fun a G2=>wpE Φ i E ρ G2 fun y G3=>opSet a y x G3 fun G4=>D.nx ρ G4):=rfl
theorem wS_aug {Φ:Funs} {i op e E ρ G D}:wpS Φ (.aug i op e) E ρ G D=(match ρ[i]? with
  | some (some a)=>wpE Φ e E ρ G fun b G1=>opAug op a b fun c=>D.nx (ρ.set i (some c)) G1
  | _=>False):=rfl
theorem wS_augs {Φ:Funs} {o i op e E ρ G D}:wpS Φ (.augs o i op e) E ρ G D=(wpE Φ o E ρ G fun a G1=>wpE Φ i E ρ G1 fun y G2=>opIdx (view G2 a) y fun old=>wpE Φ e E ρ G2 fun b G3=>opAug op old b fun c=>opSet a y c G3 fun G4=>D.nx ρ G4):=rfl
theorem wS_ret {Φ:Funs} {e E ρ G D}:wpS Φ (.ret e) E ρ G D=(wpE Φ e E ρ G D.rt):=rfl
theorem wS_rtn {Φ:Funs} {E ρ G D}:wpS Φ .rtn E ρ G D=(D.rt .non G):=rfl
theorem wS_ite {Φ:Funs} {c a b E ρ G D}:wpS Φ (.ite c a b) E ρ G D=(wpT Φ c E ρ G fun t G1=>match t with | true=>wpSs Φ a E ρ G1 D | false=>wpSs Φ b E ρ G1 D):=rfl
theorem wS_pas {Φ:Funs} {E ρ G D}:wpS Φ .pas E ρ G D=(D.nx ρ G):=rfl
theorem wS_brk {Φ:Funs} {E ρ G D}:wpS Φ .brk E ρ G D=(D.bk ρ G):=rfl
theorem wS_cnt {Φ:Funs} {E ρ G D}:wpS Φ .cnt E ρ G D=(D.ct ρ G):=rfl
theorem wS_rse {Φ:Funs} {C es E ρ G D}:wpS Φ (.rse C es) E ρ G D=(wpM Φ es E ρ G fun G1=>E ⟨C,.non⟩ G1):=rfl
theorem wM_nil {Φ:Funs} {E ρ G k}:wpM Φ .nil E ρ G k=k G:=rfl
theorem wM_cons {Φ:Funs} {e es E ρ G k}:wpM Φ (.cons e es) E ρ G k=(wpE Φ e E ρ G fun d G1=>smallI d=true∧wpM Φ es E ρ G1 k):=rfl
theorem wS_tryc {Φ:Funs} {f es C i b E ρ G D}:wpS Φ (.tryc f es C i b) E ρ G D=(wpEs Φ es noE ρ G fun ds G1=>(Φ f).t ds G1 (fun _ G2=>D.nx ρ G2) fun x G2=>x.cls=C∧x.fld=.non∧D.nx (ρ.set i (some (.bl b))) G2):=rfl
theorem wS_nev {Φ:Funs} {E ρ G D}:wpS Φ .nev E ρ G D=(False):=rfl
theorem wE_comp {Φ:Funs} {fz elt tg it cond N cap E ρ G k}:wpE Φ (.comp fz elt tg it cond N cap) E ρ G k=(wpI Φ it E ρ G fun items g G1=>
   compLoop (fun d ρ' G' k'=>bindT tg d ρ' G' fun ρ1=>wpT Φ cond noE ρ1 G' fun b G2=>match b with | true=>wpE Φ elt noE ρ1 G2 fun y G3=>k' (some y) ρ1 G3 | false=>k' none ρ1 G2)
    g items [] (cap.map fun o=>match o with | none=>none | some j=>(ρ[j]?).join) G1 fun ds G2=>mk fz ds G2 k):=rfl
theorem wS_for_ {Φ:Funs} {t it body E ρ G D}:wpS Φ (.for_ t it body) E ρ G D=(wpI Φ it E ρ G fun items g G1=>
   forLoop (fun d ρ' G' k=>bindT t d ρ' G' fun ρ1=>wpSs Φ body E ρ1 G' { D with nx:=k,ct:=k,bk:=D.nx }) g items ρ G1 D.nx):=rfl
theorem wS_whl {Φ:Funs} {c body E ρ G D}:wpS Φ (.whl c body) E ρ G D=(∃ n,whileLoop (fun ρ' G' k=>wpT Φ c E ρ' G' k) (fun ρ' G' k=>wpSs Φ body E ρ' G' { D with nx:=k,ct:=k,bk:=D.nx }) n ρ G D.nx):=rfl
end RF
namespace RF
open PySem L2
section
variable {k k':D→DH→Prop} {G:DH}
theorem mk_mono {fz:Bool} {xs:List D} (h:∀ d G',k d G'→k' d G') (q:mk fz xs G k):mk fz xs G k':=by
 cases fz with
 | true=>exact h _ _ q
 | false=>exact fun p hp=>h _ _ (q p hp)
theorem opInts_of {a b:D} {p:Int→Int→Prop} (h:opInts a b p):∃ i j,a=.int i∧b=.int j∧p i j:=by
 cases a with
 | int i=>cases b with
  | int j=>exact ⟨i,j,rfl,rfl,h⟩
  | _=>exact h.elim
 | _=>exact h.elim
theorem opInts_mono {a b:D} {p q:Int→Int→Prop} (h:∀ i j,p i j→q i j) (z:opInts a b p):opInts a b q:=by
 obtain ⟨i,j,rfl,rfl,z⟩:=opInts_of z
 exact h i j z
theorem opBin_mono {op:Operator} {fz:Bool} {a b:D} (h:∀ d G',k d G'→k' d G') (q:opBin op fz a b G k):opBin op fz a b G k':=by
 cases op with
 | Add=>
  have q:opAdd fz a b G k:=q
  show opAdd fz a b G k'
  unfold opAdd at q ⊢
  cases a with
  | int i=>cases b <;> first | exact h _ _ q | exact q
  | str i=>cases b <;> first | exact ⟨q.1,h _ _ q.2⟩ | exact q
  | lst i=>cases b <;> first | exact ⟨q.1,mk_mono h q.2⟩ | exact q
  | tup i=>cases b <;> first | exact ⟨q.1,h _ _ q.2⟩ | exact q
  | _=>exact q
 | Sub=>exact opInts_mono (fun _ _ z=>h _ _ z) q
 | Mult=>
  have q:opMul a b G k:=q
  show opMul a b G k'
  unfold opMul at q ⊢
  cases b with
  | int n=>cases a <;> first | exact ⟨q.1,h _ _ q.2⟩ | exact ⟨q.1,q.2.1,q.2.2.1,h _ _ q.2.2.2⟩ | exact q
  | _=>exact q
 | FloorDiv=>exact opInts_mono (fun _ _ z=>⟨z.1,h _ _ z.2⟩) q
 | Mod=>exact opInts_mono (fun _ _ z=>⟨z.1,h _ _ z.2⟩) q
 | Pow=>exact opInts_mono (fun _ _ z=>⟨z.1,h _ _ z.2⟩) q
 | _=>exact q
theorem opIn_mono {a b:D} {k k':Bool→Prop} (h:∀ c,k c→k' c) (q:opIn a b k):opIn a b k':=by
 unfold opIn at q ⊢
 split at q
 ·split at q
  ·exact h _ q
  ·exact q
 ·exact ⟨q.1,h _ q.2⟩
 ·exact ⟨q.1,h _ q.2⟩
 ·exact q
theorem opCmp_mono {op:CmpOp} {a b:D} {k k':Bool→Prop} (h:∀ c,k c→k' c) (q:opCmp op a b k):opCmp op a b k':=by
 cases op with
 | Eq=>exact ⟨q.1,h _ q.2⟩
 | NotEq=>exact ⟨q.1,h _ q.2⟩
 | Lt=>have q:opLt a b k:=q; show opLt a b k'; unfold opLt at q ⊢; split at q <;> first | exact h _ q | exact q
 | LtE=>have q:opLe a b k:=q; show opLe a b k'; unfold opLe at q ⊢; split at q <;> first | exact h _ q | exact q
 | Gt=>have q:opGt a b k:=q; show opGt a b k'; unfold opGt at q ⊢; split at q <;> first | exact h _ q | exact q
 | GtE=>have q:opGe a b k:=q; show opGe a b k'; unfold opGe at q ⊢; split at q <;> first | exact h _ q | exact q
 | Is=>
  have q:opIs a b k:=q
  show opIs a b k'
  unfold opIs at q ⊢
  split at q
  ·exact h _ q
  ·split at q
   ·exact h _ q
   ·exact q
  ·exact q
 | IsNot=>
  have q:opIsN a b k:=q
  show opIsN a b k'
  unfold opIsN at q ⊢
  split at q
  ·exact h _ q
  ·split at q
   ·exact h _ q
   ·exact q
  ·exact q
 | In=>exact opIn_mono h q
 | NotIn=>exact opIn_mono (fun c=>h _) q
theorem opIdx_mono {a i:D} {k k':D→Prop} (h:∀ c,k c→k' c) (q:opIdx a i k):opIdx a i k':=by
 unfold opIdx at q ⊢
 split at q
 ·split at q
  ·exact h _ q
  ·exact q
 ·split at q
  ·exact h _ q
  ·exact q
 ·split at q
  ·exact h _ q
  ·exact q
 ·exact q
theorem opSlc_mono {fz:Bool} {a:D} {lo hi:Option Int} (h:∀ d G',k d G'→k' d G') (q:opSlc fz a lo hi G k):opSlc fz a lo hi G k':=by
 unfold opSlc at q ⊢
 split at q <;> first
  | exact mk_mono h q
  | exact h _ _ q
  | exact q.elim
theorem opRvs_mono {fz:Bool} {a y:D} (h:∀ d G',k d G'→k' d G') (q:opRvs fz a y G k):opRvs fz a y G k':=by
 unfold opRvs at q ⊢
 split at q
 ·exact ⟨q.1,mk_mono h q.2⟩
 ·exact q.elim
theorem opB_mono {f:Bf} {as:List D} {k k':D→Prop} (h:∀ c,k c→k' c) (q:opB f as k):opB f as k':=by
 cases f with
 | len=>simp only [opB,opLen] at q ⊢; split at q <;> first | exact h _ q | exact q.elim
 | all=>
  simp only [opB,opAll] at q ⊢
  split at q
  ·split at q
   ·exact h _ q
   ·exact q
  ·exact q
 | int=>
  simp only [opB,opInt] at q ⊢
  split at q
  ·exact h _ q
  ·exact h _ q
  ·split at q
   ·exact ⟨q.1,h _ q.2⟩
   ·exact q
  ·exact q
 | tuple=>simp only [opB,opTuple] at q ⊢; split at q <;> first | exact h _ q | exact q.elim
 | sum=>
  simp only [opB,opSum] at q ⊢
  split at q
  ·split at q
   ·exact h _ q
   ·exact q
  ·exact q
 | min=>
  simp only [opB,opMin] at q ⊢
  split at q
  ·split at q
   ·exact ⟨q.1,fun m h1 h2=>h _ (q.2 m h1 h2)⟩
   ·split at q
    ·exact fun m h1 h2=>h _ (q m h1 h2)
    ·exact q
  ·exact q
 | max=>simp only [opB,opMax] at q ⊢; split at q <;> first | exact h _ q | exact q.elim
theorem opBL_mono {f:Lf} {as:List D} {k k':List D→Prop} (h:∀ c,k c→k' c) (q:opBL f as k):opBL f as k':=by
 cases f with
 | list=>simp only [opBL,opList] at q ⊢; split at q <;> first | exact h _ q | exact q.elim
 | sorted=>
  simp only [opBL,opSorted] at q ⊢
  split at q
  ·split at q
   ·exact ⟨q.1,fun ls p z=>h _ (q.2 ls p z)⟩
   ·exact q
  ·exact q
theorem opM_mono {m:Mf} {o:D} {as:List D} (h:∀ d G',k d G'→k' d G') (q:opM m o as G k):opM m o as G k':=by
 cases m with
 | join=>
  simp only [opM,opJoin] at q ⊢
  split at q
  ·split at q
   ·exact ⟨q.1,h _ _ q.2⟩
   ·exact q
  ·exact q
 | append=>
  simp only [opM,opAppend] at q ⊢
  split at q
  ·split at q
   ·exact ⟨q.1,h _ _ q.2⟩
   ·exact q
  ·exact q
 | extend=>
  simp only [opM,opExtend] at q ⊢
  split at q
  ·split at q
   ·exact ⟨q.1,h _ _ q.2⟩
   ·exact q
  ·exact q
 | insert=>
  simp only [opM,opInsert] at q ⊢
  split at q
  ·split at q
   ·exact ⟨q.1,q.2.1,q.2.2.1,h _ _ q.2.2.2⟩
   ·exact q
  ·exact q
theorem opSet_mono {o i x:D} {k k':DH→Prop} (h:∀ G',k G'→k' G') (q:opSet o i x G k):opSet o i x G k':=by
 unfold opSet at q ⊢
 split at q
 ·split at q
  ·split at q
   ·exact h _ q
   ·exact q
  ·exact q
 ·exact q
theorem opAug_mono {op:Operator} {a b:D} {k k':D→Prop} (h:∀ c,k c→k' c) (q:opAug op a b k):opAug op a b k':=by
 unfold opAug at q ⊢
 split at q <;> first
  | exact h _ q
  | exact ⟨q.1,h _ q.2⟩
  | exact q.elim
mutual
theorem bindT_mono {k k':Env'→Prop} (h:∀ ρ,k ρ→k' ρ):∀ (t:Tg) {d:D} {ρ:Env'},bindT t d ρ G k→bindT t d ρ G k'
 | .nm i,d,ρ,q=>h _ q
 | .tp ts,d,ρ,q=>by
  unfold bindT at q ⊢
  split at q
  ·exact bindTs_mono h ts q
  ·exact bindTs_mono h ts q
  ·exact q
theorem bindTs_mono {k k':Env'→Prop} (h:∀ ρ,k ρ→k' ρ):∀ (ts:Tgs) {ds:List D} {ρ:Env'},bindTs ts ds ρ G k→bindTs ts ds ρ G k'
 | .nil,ds,ρ,q=>by
  unfold bindTs at q ⊢
  split at q
  ·exact h _ q
  ·exact q
 | .cons t r,ds,ρ,q=>by
  unfold bindTs at q ⊢
  split at q
  ·exact bindT_mono (fun ρ' q'=>bindTs_mono h r q') t q
  ·exact q
end
theorem compLoop_mono {step step':D→Env'→DH→(Option D→Env'→DH→Prop)→Prop} (hs:∀ d ρ G (k k':Option D→Env'→DH→Prop),(∀ o ρ' G',k o ρ' G'→k' o ρ' G')→step d ρ G k→step' d ρ G k')
  {g:Hld} {k k':List D→DH→Prop} (h:∀ ds G',k ds G'→k' ds G'):∀ (ds acc:List D) (ρ:Env') (G:DH),compLoop step g ds acc ρ G k→compLoop step' g ds acc ρ G k'
 | [],acc,ρ,G,q=>⟨q.1,q.2.1,h _ _ q.2.2⟩
 | d::ds,acc,ρ,G,q=>by
  refine ⟨q.1,q.2.1,hs d ρ G _ _ (fun o ρ' G' z=>?_) q.2.2⟩
  cases o with
  | some y=>exact compLoop_mono hs h ds (acc ++ [y]) ρ' G' z
  | none=>exact compLoop_mono hs h ds acc ρ' G' z
theorem forLoop_mono {step step':D→Env'→DH→(Env'→DH→Prop)→Prop} (hs:∀ d ρ G (k k':Env'→DH→Prop),(∀ ρ' G',k ρ' G'→k' ρ' G')→step d ρ G k→step' d ρ G k')
  {g:Hld} {k k':Env'→DH→Prop} (h:∀ ρ G',k ρ G'→k' ρ G'):∀ (ds:List D) (ρ:Env') (G:DH),forLoop step g ds ρ G k→forLoop step' g ds ρ G k'
 | [],ρ,G,q=>⟨q.1,h _ _ q.2⟩
 | d::ds,ρ,G,q=>⟨q.1,hs d ρ G _ _ (fun ρ' G' z=>forLoop_mono hs h ds ρ' G' z) q.2⟩
theorem whileLoop_mono {test test':Env'→DH→(Bool→DH→Prop)→Prop} {body body':Env'→DH→(Env'→DH→Prop)→Prop}
  (ht:∀ ρ G (k k':Bool→DH→Prop),(∀ b G',k b G'→k' b G')→test ρ G k→test' ρ G k') (hb:∀ ρ G (k k':Env'→DH→Prop),(∀ ρ' G',k ρ' G'→k' ρ' G')→body ρ G k→body' ρ G k')
  {k k':Env'→DH→Prop} (h:∀ ρ G',k ρ G'→k' ρ G'):∀ (n:Nat) (ρ:Env') (G:DH),whileLoop test body n ρ G k→whileLoop test' body' n ρ G k'
 | 0,ρ,G,q=>q
 | n + 1,ρ,G,q=>ht ρ G _ _ (fun b G' z=>by
   cases b with
   | true=>exact hb ρ G' _ _ (fun ρ' G'' z'=>whileLoop_mono ht hb h n ρ' G'' z') z
   | false=>exact h _ _ z) q
end
section
variable {Φ:Funs} {G:DH}
mutual
theorem wpE_mono {E:EK} {ρ:Env'}:∀ (x:Ex) {G:DH} {k k':D→DH→Prop},(∀ d G',k d G'→k' d G')→wpE Φ x E ρ G k→wpE Φ x E ρ G k'
 | .var i,G,k,k',h,q=>by
  rw [wE_var] at q ⊢
  split at q
  ·exact h _ _ q
  ·exact q
 | .cst d,G,k,k',h,q=>by rw [wE_cst] at q ⊢; exact h _ _ q
 | .glb x d,G,k,k',h,q=>by rw [wE_glb] at q ⊢; exact h _ _ q
 | .bin op fz a b,G,k,k',h,q=>by
  rw [wE_bin] at q ⊢
  exact wpE_mono a (fun _ _ q=>wpE_mono b (fun _ _ q=>opBin_mono h q) q) q
 | .neg a,G,k,k',h,q=>by
  rw [wE_neg] at q ⊢
  refine wpE_mono a (fun x _ q=>?_) q
  split at q
  ·exact h _ _ q
  ·exact q
 | .cmp op a b,G,k,k',h,q=>by
  rw [wE_cmp] at q ⊢
  exact wpE_mono a (fun _ _ q=>wpE_mono b (fun _ _ q=>opCmp_mono (fun _ q=>h _ _ q) q) q) q
 | .chn op op' a b c,G,k,k',h,q=>by
  rw [wE_chn] at q ⊢
  refine wpE_mono a (fun _ _ q=>wpE_mono b (fun _ _ q=>opCmp_mono (fun t q=>?_) q) q) q
  cases t with
  | true=>exact wpE_mono c (fun _ _ q=>opCmp_mono (fun _ q=>h _ _ q) q) q
  | false=>exact h _ _ q
 | .not a,G,k,k',h,q=>by
  rw [wE_not] at q ⊢
  refine wpE_mono a (fun x _ q=>?_) q
  split at q
  ·exact h _ _ q
  ·exact q
 | .boo isAnd e es,G,k,k',h,q=>by
  rw [wE_boo] at q ⊢
  refine wpE_mono e (fun x _ q=>?_) q
  split at q
  ·exact wpB_mono es (fun _ _ q=>h _ _ q) q
  ·exact q
 | .ife c a b,G,k,k',h,q=>by
  rw [wE_ife] at q ⊢
  refine wpT_mono c (fun t _ q=>?_) q
  cases t with
  | true=>exact wpE_mono a h q
  | false=>exact wpE_mono b h q
 | .tup es,G,k,k',h,q=>by
  rw [wE_tup] at q ⊢
  exact wpEs_mono es (fun _ _ q=>⟨q.1,h _ _ q.2⟩) q
 | .lst fz es,G,k,k',h,q=>by
  rw [wE_lst] at q ⊢
  exact wpEs_mono es (fun _ _ q=>⟨q.1,mk_mono h q.2⟩) q
 | .idx a i,G,k,k',h,q=>by
  rw [wE_idx] at q ⊢
  exact wpE_mono a (fun _ _ q=>wpE_mono i (fun _ _ q=>opIdx_mono (fun _ q=>h _ _ q) q) q) q
 | .slc fz a lo hi,G,k,k',h,q=>by
  rw [wE_slc] at q ⊢
  exact wpE_mono a (fun _ _ q=>wpO_mono lo (fun _ _ q=>wpO_mono hi (fun _ _ q=>opSlc_mono h q) q) q) q
 | .rvs fz a s,G,k,k',h,q=>by
  rw [wE_rvs] at q ⊢
  exact wpE_mono a (fun _ _ q=>wpE_mono s (fun _ _ q=>opRvs_mono h q) q) q
 | .call f es,G,k,k',h,q=>by
  rw [wE_call] at q ⊢
  exact wpEs_mono es (fun _ _ q=>Spec.mono q h fun _ _ z=>z) q
 | .bcl f es,G,k,k',h,q=>by
  rw [wE_bcl] at q ⊢
  exact wpEs_mono es (fun _ _ q=>opB_mono (fun _ q=>h _ _ q) q) q
 | .lcl fz f es,G,k,k',h,q=>by
  rw [wE_lcl] at q ⊢
  exact wpEs_mono es (fun _ _ q=>opBL_mono (fun _ q=>mk_mono h q) q) q
 | .isi a t,G,k,k',h,q=>by
  rw [wE_isi] at q ⊢
  refine wpE_mono a (fun x _ q=>?_) q
  split at q
  ·exact h _ _ q
  ·exact q
 | .mth m o es,G,k,k',h,q=>by
  rw [wE_mth] at q ⊢
  exact wpE_mono o (fun _ _ q=>⟨q.1,wpEs_mono es (fun _ _ q=>opM_mono h q) q.2⟩) q
 | .comp fz elt tg it cond N cap,G,k,k',h,q=>by
  rw [wE_comp] at q ⊢
  refine wpI_mono it (fun items g G1 q=>?_) q
  refine compLoop_mono ?_ (fun ds G2 z=>mk_mono h z) items [] _ G1 q
  intro d ρ' G' k k' hk z
  refine bindT_mono (fun ρ1 z=>?_) tg z
  refine wpT_mono cond (fun b G2 z=>?_) z
  cases b with
  | true=>exact wpE_mono elt (fun y G3 z=>hk _ _ _ z) z
  | false=>exact hk _ _ _ z
 | .frz a,G,k,k',h,q=>by
  rw [wE_frz] at q ⊢
  refine wpE_mono a (fun x G1 q=>?_) q
  split at q
  ·split at q
   ·exact h _ _ q
   ·exact q
  ·exact h _ _ q
theorem wpT_mono {E:EK} {ρ:Env'}:∀ (x:Tx) {G:DH} {k k':Bool→DH→Prop},(∀ d G',k d G'→k' d G')→wpT Φ x E ρ G k→wpT Φ x E ρ G k'
 | .not a,G,k,k',h,q=>by rw [wT_not] at q ⊢; exact wpT_mono a (fun _ _ q=>h _ _ q) q
 | .boo isAnd e es,G,k,k',h,q=>by rw [wT_boo] at q ⊢; exact wpT_mono e (fun _ _ q=>wpTB_mono es h q) q
 | .yes,G,k,k',h,q=>by rw [wT_yes] at q ⊢; exact h _ _ q
 | .val a,G,k,k',h,q=>by
  rw [wT_val] at q ⊢
  refine wpE_mono a (fun x _ q=>?_) q
  split at q
  ·exact h _ _ q
  ·exact q
theorem wpEs_mono {E:EK} {ρ:Env'}:∀ (x:Exs) {G:DH} {k k':List D→DH→Prop},(∀ d G',k d G'→k' d G')→wpEs Φ x E ρ G k→wpEs Φ x E ρ G k'
 | .nil,G,k,k',h,q=>by rw [wEs_nil] at q ⊢; exact h _ _ q
 | .cons e es,G,k,k',h,q=>by rw [wEs_cons] at q ⊢; exact wpE_mono e (fun _ _ q=>wpEs_mono es (fun _ _ q=>h _ _ q) q) q
theorem wpB_mono {E:EK} {ρ:Env'}:∀ (x:Exs) {isAnd b:Bool} {G:DH} {k k':Bool→DH→Prop},(∀ d G',k d G'→k' d G')→wpB Φ x isAnd b E ρ G k→wpB Φ x isAnd b E ρ G k'
 | .nil,_,_,G,k,k',h,q=>by rw [wB_nil] at q ⊢; exact h _ _ q
 | .cons e es,isAnd,b,G,k,k',h,q=>by
  rw [wB_cons] at q ⊢
  cases isAnd <;> cases b <;> first
   | exact h _ _ q
   | (refine wpE_mono e (fun d _ q=>?_) q
      split at q
      ·exact wpB_mono es h q
      ·exact q)
theorem wpTB_mono {E:EK} {ρ:Env'}:∀ (x:Txs) {isAnd b:Bool} {G:DH} {k k':Bool→DH→Prop},(∀ d G',k d G'→k' d G')→wpTB Φ x isAnd b E ρ G k→wpTB Φ x isAnd b E ρ G k'
 | .nil,_,_,G,k,k',h,q=>by rw [wTB_nil] at q ⊢; exact h _ _ q
 | .cons e es,isAnd,b,G,k,k',h,q=>by
  rw [wTB_cons] at q ⊢
  cases isAnd <;> cases b <;> first
   | exact h _ _ q
   | exact wpT_mono e (fun d _ q=>wpTB_mono es h q) q
theorem wpO_mono {E:EK} {ρ:Env'}:∀ (x:Ox) {G:DH} {k k':Option Int→DH→Prop},(∀ d G',k d G'→k' d G')→wpO Φ x E ρ G k→wpO Φ x E ρ G k'
 | .no,G,k,k',h,q=>by rw [wO_no] at q ⊢; exact h _ _ q
 | .ob a,G,k,k',h,q=>by
  rw [wO_ob] at q ⊢
  refine wpE_mono a (fun x _ q=>?_) q
  split at q
  ·exact h _ _ q
  ·exact q
theorem wpI_mono {E:EK} {ρ:Env'}:∀ (x:It') {G:DH} {k k':List D→Hld→DH→Prop},(∀ d g G',k d g G'→k' d g G')→wpI Φ x E ρ G k→wpI Φ x E ρ G k'
 | .seq a,G,k,k',h,q=>by
  rw [wI_seq] at q ⊢
  refine wpE_mono a (fun x _ q=>?_) q
  split at q
  ·exact h _ _ _ q
  ·exact q
 | .rng a,G,k,k',h,q=>by
  rw [wI_rng] at q ⊢
  refine wpE_mono a (fun x _ q=>?_) q
  split at q
  ·exact ⟨q.1,h _ _ _ q.2⟩
  ·exact q
 | .rev a,G,k,k',h,q=>by
  rw [wI_rev] at q ⊢
  refine wpE_mono a (fun x _ q=>?_) q
  split at q
  ·exact ⟨q.1,h _ _ _ q.2⟩
  ·exact q
 | .dwn a b d,G,k,k',h,q=>by
  rw [wI_dwn] at q ⊢
  refine wpE_mono a (fun x _ q=>wpE_mono b (fun y _ q=>wpE_mono d (fun z _ q=>?_) q) q) q
  split at q
  ·exact ⟨q.1,h _ _ _ q.2⟩
  ·exact q
 | .rng2 a b,G,k,k',h,q=>by
  rw [wI_rng2] at q ⊢
  refine wpE_mono a (fun x _ q=>wpE_mono b (fun y _ q=>?_) q) q
  split at q
  ·exact ⟨q.1,h _ _ _ q.2⟩
  ·exact q
 | .enm a,G,k,k',h,q=>by
  rw [wI_enm] at q ⊢
  refine wpE_mono a (fun x _ q=>?_) q
  split at q
  ·exact h _ _ _ q
  ·exact q
 | .zip a b,G,k,k',h,q=>by
  rw [wI_zip] at q ⊢
  refine wpE_mono a (fun x _ q=>wpE_mono b (fun y _ q=>?_) q) q
  split at q
  ·exact h _ _ _ q
  ·exact q
end
structure En.Le (D D':En):Prop where
 nx:∀ ρ G,D.nx ρ G→D'.nx ρ G
 rt:∀ d G,D.rt d G→D'.rt d G
 bk:∀ ρ G,D.bk ρ G→D'.bk ρ G
 ct:∀ ρ G,D.ct ρ G→D'.ct ρ G
mutual
theorem wpS_mono {E:EK}:∀ (x:Sx) {ρ:Env'} {G:DH} {D D':En},D.Le D'→wpS Φ x E ρ G D→wpS Φ x E ρ G D'
 | .exp e,ρ,G,D,D',h,q=>by rw [wS_exp] at q ⊢; exact wpE_mono e (fun _ _ q=>h.nx _ _ q) q
 | .asg t e,ρ,G,D,D',h,q=>by rw [wS_asg] at q ⊢; exact wpE_mono e (fun _ _ q=>bindT_mono (fun _ q=>h.nx _ _ q) t q) q
 | .set o i e,ρ,G,D,D',h,q=>by rw [wS_set] at q ⊢; exact wpE_mono e (fun _ _ q=>wpE_mono o (fun _ _ q=>wpE_mono i (fun _ _ q=>opSet_mono (fun _ q=>h.nx _ _ q) q) q) q) q
 | .aug i op e,ρ,G,D,D',h,q=>by
  rw [wS_aug] at q ⊢
  split at q
  ·exact wpE_mono e (fun _ _ q=>opAug_mono (fun _ q=>h.nx _ _ q) q) q
  ·exact q
 | .augs o i op e,ρ,G,D,D',h,q=>by
  rw [wS_augs] at q ⊢
  exact wpE_mono o (fun _ _ q=>wpE_mono i (fun _ _ q=>opIdx_mono (fun _ q=>wpE_mono e (fun _ _ q=>opAug_mono (fun _ q=>opSet_mono (fun _ q=>h.nx _ _ q) q) q) q) q) q) q
 | .ret e,ρ,G,D,D',h,q=>by rw [wS_ret] at q ⊢; exact wpE_mono e (fun _ _ q=>h.rt _ _ q) q
 | .rtn,ρ,G,D,D',h,q=>by rw [wS_rtn] at q ⊢; exact h.rt _ _ q
 | .ite c a b,ρ,G,D,D',h,q=>by
  rw [wS_ite] at q ⊢
  refine wpT_mono c (fun t _ q=>?_) q
  cases t with
  | true=>exact wpSs_mono a h q
  | false=>exact wpSs_mono b h q
 | .for_ t it body,ρ,G,D,D',h,q=>by
  rw [wS_for_] at q ⊢
  exact wpI_mono it (fun items g G1 q=>forLoop_mono (fun d ρ' G' k k' hk z=>bindT_mono (fun ρ1 z=>wpSs_mono body (D:={ D with nx:=k,ct:=k,bk:=D.nx }) (D':={ D' with nx:=k',ct:=k',bk:=D'.nx }) ⟨hk,h.rt,h.nx,hk⟩ z) t z) h.nx items ρ G1 q) q
 | .whl c body,ρ,G,D,D',h,q=>by
  rw [wS_whl] at q ⊢
  obtain ⟨n,q⟩:=q
  refine ⟨n,?_⟩
  refine whileLoop_mono ?_ ?_ h.nx n ρ G q
  ·exact fun ρ' G' k k' hk z=>wpT_mono c hk z
  ·exact fun ρ' G' k k' hk z=>wpSs_mono body (D:={ D with nx:=k,ct:=k,bk:=D.nx }) (D':={ D' with nx:=k',ct:=k',bk:=D'.nx }) ⟨hk,h.rt,h.nx,hk⟩ z
 | .pas,ρ,G,D,D',h,q=>by rw [wS_pas] at q ⊢; exact h.nx _ _ q
 | .brk,ρ,G,D,D',h,q=>by rw [wS_brk] at q ⊢; exact h.bk _ _ q
 | .cnt,ρ,G,D,D',h,q=>by rw [wS_cnt] at q ⊢; exact h.ct _ _ q
 | .nev,ρ,G,D,D',h,q=>by rw [wS_nev] at q; exact q.elim
 | .rse C es,ρ,G,D,D',h,q=>by rw [wS_rse] at q ⊢; exact q
 | .tryc f es C i b,ρ,G,D,D',h,q=>by rw [wS_tryc] at q ⊢; exact wpEs_mono es (fun _ _ q=>Spec.mono q (fun _ _ z=>h.nx _ _ z) fun _ _ z=>⟨z.1,z.2.1,h.nx _ _ z.2.2⟩) q
theorem wpSs_mono {E:EK}:∀ (x:Sxs) {ρ:Env'} {G:DH} {D D':En},D.Le D'→wpSs Φ x E ρ G D→wpSs Φ x E ρ G D'
 | .nil,ρ,G,D,D',h,q=>by rw [wSs_nil] at q ⊢; exact h.nx _ _ q
 | .cons s r,ρ,G,D,D',h,q=>by rw [wSs_cons] at q ⊢; exact wpS_mono s (D:={ D with nx:=fun ρ' G'=>wpSs Φ r E ρ' G' D }) (D':={ D' with nx:=fun ρ' G'=>wpSs Φ r E ρ' G' D' }) ⟨fun _ _ z=>wpSs_mono r h z,h.rt,h.bk,h.ct⟩ q
end
end
end RF
namespace RF
open PySem PySem.Spec PyProof.Rows L2
def PV (K:PySem.W.Frag) (H:Hp) (F:FZ) (Q:VK):D→DH→Prop:=fun d G'=>∀ H' F' v,Ext H F H' F'→R K H' F' G'→Rep K H' F' d v→Q v H'
def PB (K:PySem.W.Frag) (H:Hp) (F:FZ) (Q:Bool→Hp→Prop):Bool→DH→Prop:=fun b G'=>∀ H' F',Ext H F H' F'→R K H' F' G'→Q b H'
def PLs (K:PySem.W.Frag) (H:Hp) (F:FZ) (Q:List V→Hp→Prop):List D→DH→Prop:=fun ds G'=>∀ H' F' vs,Ext H F H' F'→R K H' F' G'→Reps K H' F' ds vs→Q vs H'
section
variable {K:PySem.W.Frag} {H:Hp} {F:FZ} {G:DH} {Q:VK}
theorem PV.now {d:D} {v:V} (h:PV K H F Q d G) (r:R K H F G) (q:Rep K H F d v):Q v H:=h H F v (Ext.refl H F) r q
theorem mk_ok {fz:Bool} {ds:List D} {vs:List V} (h:mk fz ds G (PV K H F Q)) (r:R K H F G) (t:Reps K H F ds vs) (p:Addr) (hp:H p=none):Q (.ref p) (upd H p (.lst vs)):=by
 cases fz with
 | true=>exact h _ _ _ (ext_newF r hp) (r.newF hp) (rep_newF r hp t)
 | false=>exact h p (r.free hp) _ _ _ (ext_new r hp) (r.newL hp t) rfl
theorem tup_ok {ds:List D} {vs:List V} (h:PV K H F Q (.tup ds) G) (r:R K H F G) (t:Reps K H F ds vs) (p:Addr) (hp:H p=none):Q (.ref p) (upd H p (.tup vs)):=
 h _ _ _ (ext_new r hp) (r.new hp) (rep_newT r hp t)
end
theorem szl:sz≤sizeLine:=by rw [sizeLine_eq]; decide
theorem le_szl {n:Nat} (h:n≤sz):n≤sizeLine:=Nat.le_trans h szl
def rB2 (K:PySem.W.Frag) (f:D→D→DH→(D→DH→Prop)→Prop):R2:=fun x y H Q=>∃ F G a b,R K H F G∧Rep K H F a x∧Rep K H F b y∧f (view G a) (view G b) G (PV K H F Q)
section
variable {X:Cx}
theorem op_catS:OpR X (binaryOp .Add) (fun x y H Q=>∃ a b xs ys,x=.ref a∧y=.ref b∧SqL X.K H a xs∧SqL X.K H b ys∧xs.length + ys.length≤sizeLine∧∀ p,H p=none→Q (.ref p) (upd H p (.lst (xs ++ ys)))):=by
 intro pins s σ H x y v u Q I rx ry h
 obtain ⟨a,b,xs,ys,rfl,rfl,ha,hb,hz,q⟩:=h
 cases rx
 cases ry
 obtain ⟨its,r1,p1,_⟩:=I.list ha
 obtain ⟨its2,r2,p2,_⟩:=I.list hb
 obtain ⟨⟨cls,dd,data,sl⟩,ho,hc,n,hd⟩:=p1.isList
 obtain ⟨⟨cls2,dd2,data2,sl2⟩,ho2,hc2,n2,hd2⟩:=p2.isList
 simp only at hc hd hc2 hd2
 subst hc hd hc2 hd2
 have e:its.toArray ++ its2.toArray=(its ++ its2).toArray:=by simp
 refine concat_meets ⟨_,ho,rfl⟩ ⟨_,ho2,rfl⟩ noFill_list_add seq_list_add PySem.F.slot_list_add PySem.F.entry_list_add (PySem.F.args_list_add_2 _ _)
  (list_addW a b its.toArray its2.toArray n n2 dd dd2 sl sl2 (by rw [List.size_toArray,List.size_toArray,← r1.length,← r2.length]; exact hz)) ⟨ho,ho2,?_⟩
 rw [e]
 exact ⟨.ref _,_,I.lnew (t':=s.toks) (r1.append r2) (by rw [List.length_append]; exact hz),rfl,q _ I.fresh⟩
theorem op_catT0:OpR X (binaryOp .Add) (fun x y H Q=>∃ a b ys,x=.ref a∧y=.ref b∧SqT X.K H a []∧SqT X.K H b ys∧Q (.ref b) H):=by
 intro pins s σ H x y v u Q I rx ry h
 obtain ⟨a,b,ys,rfl,rfl,ha,hb,q⟩:=h
 cases rx
 cases ry
 obtain ⟨its,r1,p1,_⟩:=I.tuple ha
 obtain ⟨its2,r2,p2,_⟩:=I.tuple hb
 obtain ⟨⟨cls,dd,data,sl⟩,ho,hc,n,hd⟩:=id p1
 obtain ⟨⟨cls2,dd2,data2,sl2⟩,ho2,hc2,n2,hd2⟩:=id p2
 simp only at hc hd hc2 hd2
 subst hc hd hc2 hd2
 cases r1
 exact concat_meets ⟨_,ho,rfl⟩ ⟨_,ho2,rfl⟩ noFill_tuple_add seq_tuple_add PySem.F.slot_tuple_add PySem.F.entry_tuple_add (PySem.F.args_tuple_add_2 _ _)
   (tuple_addW0 a b _ its2.toArray n n2 dd dd2 sl sl2 (by simp)) ⟨ho,ho2,⟨.ref b,H,I,rfl,q⟩⟩
theorem tup_nil_iff {K:PySem.W.Frag} {H:Hp} {F:FZ} {ds:List D} {vs:List V} (t:Reps K H F ds vs):ds=[]↔vs=[]:=by
 have:=t.length
 constructor
 ·intro e; subst e; exact List.length_eq_zero_iff.mp this.symm
 ·intro e; subst e; exact List.length_eq_zero_iff.mp this
theorem mul_ok {x:Str} {n:Nat} (h1:n≤1000) (h:x.length * n≤sz):MulOk x (n:Int):=by
 have h2:((x.length * n:Nat):Int)≤((1000000:Nat):Int):=Int.ofNat_le.mpr h
 rw [Int.natCast_mul] at h2
 refine ⟨?_,?_,?_⟩
 ·rw [decide_eq_false (by omega),decide_eq_false (by omega)]; rfl
 ·intro hn _ hh
  have hp:(0:Int) < n:=by omega
  have h3:(x.length:Int)≤(2 ^ 63 - 1) / n:=(Int.le_ediv_iff_mul_le hp).mpr (Int.le_trans h2 (by decide))
  exact absurd hh (Int.not_lt.mpr h3)
 ·intro _ _
  unfold Builtin.Str.tooLong
  rw [sizeLine_eq,Int.toNat_natCast]
  exact decide_eq_false (by have:sz=1000000:=rfl; omega)
theorem foldl_app (l:List Nat):∀ (n:Nat) (acc:List Nat),(List.replicate n l.toArray).foldl (· ++ ·) acc.toArray=(acc ++ reps l n).toArray
 | 0,acc=>by simp [reps]
 | n + 1,acc=>by
  rw [List.replicate_succ,List.foldl_cons]
  have e:acc.toArray ++ l.toArray=(acc ++ l).toArray:=by simp
  rw [e,foldl_app l n (acc ++ l)]
  unfold reps
  rw [List.replicate_succ,List.flatten_cons,List.append_assoc]
theorem reps_nil (n:Nat):reps ([]:List Nat) n=[]:=by
 unfold reps
 induction n with
 | zero=>rfl
 | succ n ih=>rw [List.replicate_succ,List.flatten_cons,ih]; rfl
theorem reps_length {α:Type} (l:List α) (n:Nat):(reps l n).length=n * l.length:=len_rep l n
theorem mul_txt (l:List Nat) (n:Nat):Txt.mul (tx l) (n:Int)=tx (reps l n):=by
 unfold Txt.mul
 by_cases h:(n:Int) < 1
 ·rw [if_pos h]
  have:n=0:=by omega
  subst this
  rfl
 ·rw [if_neg h]
  by_cases h2:((n:Int)==1 || (tx l).length==0)=true
  ·rw [if_pos h2]
   rw [Bool.or_eq_true] at h2
   rcases h2 with h2 | h2
   ·have:n=1:=by have:=eq_of_beq h2; omega
    subst this
    simp [reps]
   ·have h3:=eq_of_beq h2
    rw [tx_len] at h3
    have:l=[]:=List.length_eq_zero_iff.mp h3
    subst this
    rw [reps_nil]
  ·rw [if_neg h2]
   have e:=foldl_app l n []
   rw [List.nil_append] at e
   exact congrArg Str.mk (by simpa using e)
theorem op_bin (op:Operator) (fz:Bool):OpR X (binaryOp op) (rB2 X.K (opBin op fz)):=by
 intro pins s σ H x y v u Q I rx ry h
 obtain ⟨F,G,a,b,r,ra,rb,h⟩:=h
 generalize ea:view G a=va at h
 generalize eb:view G b=vb at h
 have twoI:∀ {p:Int→Int→Prop},opInts va vb p→∃ i j,x=.int i∧y=.int j∧p i j:=fun {p} h=>by
  obtain ⟨i,j,rfl,rfl,h⟩:=opInts_of h
  cases view_int ea; cases view_int eb
  exact ⟨i,j,ra,rb,h⟩
 cases op with
 | Add=>
  have h:opAdd fz va vb G _:=h
  unfold opAdd at h
  cases va with
  | int _=>cases vb with
   | int _=>
    cases view_int ea; cases view_int eb
    have ha:x=.int _:=ra
    have hb:y=.int _:=rb
    subst ha; subst hb
    exact op_add pins s σ H _ _ v u Q I rx ry ⟨_,_,rfl,rfl,h.now r rfl⟩
   | _=>exact h.elim
  | str _=>cases vb with
   | str _=>
    cases view_str ea; cases view_str eb
    obtain ⟨ha,la⟩:=ra
    obtain ⟨hb,lb⟩:=rb
    subst ha; subst hb
    refine op_add_str pins s σ H _ _ v u Q I rx ry ⟨_,_,rfl,rfl,?_,?_⟩
    ·rw [tx_len,tx_len]; exact le_szl h.1
    ·rw [tx_app]; exact h.2.now r ⟨rfl,by rw [List.length_append]; exact h.1⟩
   | _=>exact h.elim
  | lst _=>cases vb with
   | lst _=>
    obtain ⟨p,vs,rfl,q1,t1⟩:=Rep.list r ra ea
    obtain ⟨p',vs',rfl,q2,t2⟩:=Rep.list r rb eb
    exact op_catS pins s σ H _ _ v u Q I rx ry ⟨p,p',vs,vs',rfl,rfl,q1,q2,by rw [← t1.length,← t2.length]; exact le_szl h.1,mk_ok h.2 r (t1.append t2)⟩
   | _=>exact h.elim
  | tup xs=>cases vb with
   | tup ys=>
    cases view_tup ea; cases view_tup eb
    obtain ⟨p,vs,rfl,q1,t1⟩:=id ra
    obtain ⟨p',vs',rfl,q2,t2⟩:=id rb
    by_cases hx:vs=[]
    ·subst hx
     have:xs=[]:=(tup_nil_iff t1).mpr rfl
     subst this
     exact op_catT0 pins s σ H _ _ v u Q I rx ry ⟨p,p',vs',rfl,rfl,q1.sq,q2.sq,h.2.now r rb⟩
    ·refine op_catT pins s σ H _ _ v u Q I rx ry ⟨p,p',vs,vs',rfl,rfl,q1.sq,q2.sq,hx,by rw [← t1.length,← t2.length]; exact le_szl h.1,fun e=>?_,fun _=>tup_ok h.2 r (t1.append t2)⟩
     subst e
     have:ys=[]:=(tup_nil_iff t2).mpr rfl
     subst this
     have h2:=h.2
     rw [List.append_nil] at h2
     exact h2.now r ra
   | _=>exact h.elim
  | _=>exact h.elim
 | Sub=>
  obtain ⟨i,j,rfl,rfl,h⟩:=twoI h
  exact op_sub pins s σ H _ _ v u Q I rx ry ⟨_,_,rfl,rfl,h.now r rfl⟩
 | Mult=>
  have h:opMul va vb G _:=h
  unfold opMul at h
  cases vb with
  | int _=>cases va with
   | int _=>
    cases view_int ea; cases view_int eb
    have ha:x=.int _:=ra
    have hb:y=.int _:=rb
    subst ha; subst hb
    exact op_mul pins s σ H _ _ v u Q I rx ry ⟨_,_,rfl,rfl,h.1,h.2.now r rfl⟩
   | str _=>
    cases view_str ea; cases view_int eb
    obtain ⟨ha,la⟩:=ra
    have hb:y=.int _:=rb
    subst ha; subst hb
    obtain ⟨h0,h1,h2,h3⟩:=h
    obtain ⟨n,rfl⟩:=Int.eq_ofNat_of_zero_le h0
    rw [Int.toNat_natCast] at h2 h3
    refine op_mul_str pins s σ H _ _ v u Q I rx ry ⟨_,_,rfl,rfl,mul_ok (by omega) (by rw [tx_len]; exact h2),?_⟩
    rw [mul_txt]
    exact h3.now r ⟨rfl,by rw [reps_length,Nat.mul_comm]; exact h2⟩
   | _=>exact h.elim
  | _=>exact h.elim
 | FloorDiv=>
  obtain ⟨i,j,rfl,rfl,h⟩:=twoI h
  exact op_fdiv pins s σ H _ _ v u Q I rx ry ⟨_,_,rfl,rfl,h.1,h.2.now r rfl⟩
 | Mod=>
  obtain ⟨i,j,rfl,rfl,h⟩:=twoI h
  exact op_mod pins s σ H _ _ v u Q I rx ry ⟨_,_,rfl,rfl,h.1,h.2.now r rfl⟩
 | Pow=>
  obtain ⟨i,j,rfl,rfl,h⟩:=twoI h
  exact op_pow pins s σ H _ _ v u Q I rx ry ⟨_,_,rfl,rfl,h.1,h.2.now r rfl⟩
 | _=>exact h.elim
end
end RF
namespace RF
open PySem PySem.Spec PyProof.Rows L2
mutual
theorem deq_refl:∀ {d:D},nr d=true→deq d d=true
 | .non,_=>rfl
 | .bl b,_=>by simp [deq]
 | .int i,_=>by simp [deq]
 | .str l,_=>by simp [deq]
 | .tup xs,h=>by rw [deq]; exact deqs_refl (by rw [nr] at h; exact h)
 | .lst xs,h=>by rw [deq]; exact deqs_refl (by rw [nr] at h; exact h)
 | .ref a,h=>by rw [nr] at h; cases h
 | .scr a,h=>by rw [nr] at h; cases h
theorem deqs_refl:∀ {ds:List D},nrs ds=true→deqs ds ds=true
 | [],_=>rfl
 | d::ds,h=>by
  rw [nrs,Bool.and_eq_true] at h
  rw [deqs,deq_refl h.1,deqs_refl h.2]; rfl
end
theorem deqs_all:∀ (xs ys:List D),deqs xs ys=((List.range (min xs.length ys.length)).all (fun j=>deq (xs.getD j .non) (ys.getD j .non)) && xs.length==ys.length)
 | [],[]=>rfl
 | [],y::ys=>by simp [deqs]
 | x::xs,[]=>by simp [deqs]
 | x::xs,y::ys=>by
  have e:min (x::xs).length (y::ys).length=(min xs.length ys.length) + 1:=by simp only [List.length_cons]; omega
  rw [deqs,deqs_all xs ys,e,List.range_succ_eq_map,List.all_cons,List.all_map]
  simp only [List.getD_cons_zero,List.length_cons,Bool.and_assoc]
  congr 1
  congr 1
  rw [Bool.eq_iff_iff]; simp
theorem deqs_len {xs ys:List D} (h:xs.length≠ys.length):deqs xs ys=false:=by
 rw [deqs_all]
 rw [show (xs.length==ys.length)=false from beq_eq_false_iff_ne.mpr h,Bool.and_false]
theorem nrs_get:∀ {xs:List D} {i:Nat},nrs xs=true→nr (xs.getD i .non)=true
 | [],_,_=>rfl
 | x::xs,0,h=>by rw [nrs,Bool.and_eq_true] at h; exact h.1
 | x::xs,i + 1,h=>by rw [nrs,Bool.and_eq_true] at h; rw [List.getD_cons_succ]; exact nrs_get h.2
theorem dpts_get:∀ {xs:List D} {i:Nat},dpt (xs.getD i .non)≤dpts xs
 | [],_=>Nat.zero_le _
 | x::xs,0=>by rw [dpts,List.getD_cons_zero]; omega
 | x::xs,i + 1=>by rw [dpts,List.getD_cons_succ]; have:=@dpts_get xs i; omega
section
variable {X:Cx} {pins:List (Addr×Obj)} {σ:L2.St} {H:Hp} {s:Shared} {F:FZ}
mutual
theorem rep_inj (I:Inv X pins σ H s):∀ {d d':D} {v:V},nr d=true→nr d'=true→Rep X.K H F d v→Rep X.K H F d' v→d=d'
 | .non,d',v,_,n',h,h'=>by
  have h:v=.non:=h
  subst h
  cases d' with
  | non=>rfl
  | bl _=>simp only [Rep] at h'; cases h'
  | int _=>simp only [Rep] at h'; cases h'
  | ref _=>simp only [Rep] at h'; cases h'
  | scr _=>rw [nr] at n'; cases n'
  | str _=>simp only [Rep] at h'; obtain ⟨e,_⟩:=h'; cases e
  | tup _=>simp only [Rep] at h'; obtain ⟨_,_,e,_⟩:=h'; cases e
  | lst _=>simp only [Rep] at h'; obtain ⟨_,_,e,_⟩:=h'; cases e
 | .bl b,d',v,_,n',h,h'=>by
  have h:v=.bl b:=h
  subst h
  cases d' with
  | non=>simp only [Rep] at h'; cases h'
  | bl _=>simp only [Rep] at h'; cases h'; rfl
  | int _=>simp only [Rep] at h'; cases h'
  | ref _=>simp only [Rep] at h'; cases h'
  | scr _=>rw [nr] at n'; cases n'
  | str _=>simp only [Rep] at h'; obtain ⟨e,_⟩:=h'; cases e
  | tup _=>simp only [Rep] at h'; obtain ⟨_,_,e,_⟩:=h'; cases e
  | lst _=>simp only [Rep] at h'; obtain ⟨_,_,e,_⟩:=h'; cases e
 | .int b,d',v,_,n',h,h'=>by
  have h:v=.int b:=h
  subst h
  cases d' with
  | non=>simp only [Rep] at h'; cases h'
  | bl _=>simp only [Rep] at h'; cases h'
  | int _=>simp only [Rep] at h'; cases h'; rfl
  | ref _=>simp only [Rep] at h'; cases h'
  | scr _=>rw [nr] at n'; cases n'
  | str _=>simp only [Rep] at h'; obtain ⟨e,_⟩:=h'; cases e
  | tup _=>simp only [Rep] at h'; obtain ⟨_,_,e,_⟩:=h'; cases e
  | lst _=>simp only [Rep] at h'; obtain ⟨_,_,e,_⟩:=h'; cases e
 | .str l,d',v,_,n',h,h'=>by
  obtain ⟨h,_⟩:=h
  subst h
  cases d' with
  | str l'=>
   obtain ⟨e,_⟩:=h'
   injection e with e
   rw [tx_inj e]
  | non=>simp only [Rep] at h'; cases h'
  | bl _=>simp only [Rep] at h'; cases h'
  | int _=>simp only [Rep] at h'; cases h'
  | ref _=>simp only [Rep] at h'; cases h'
  | scr _=>rw [nr] at n'; cases n'
  | tup _=>simp only [Rep] at h'; obtain ⟨_,_,e,_⟩:=h'; cases e
  | lst _=>simp only [Rep] at h'; obtain ⟨_,_,e,_⟩:=h'; cases e
 | .tup xs,d',v,n,n',h,h'=>by
  obtain ⟨a,vs,e,q,t⟩:=h
  subst e
  cases d' with
  | tup ys=>
   obtain ⟨a',vs',e,q',t'⟩:=h'
   injection e with e
   subst e
   have:=I.tuple_inj q.sq q'.sq
   subst this
   rw [nr] at n n'
   rw [reps_inj I n n' t t']
  | lst ys=>
   obtain ⟨a',vs',e,q',t'⟩:=h'
   injection e with e
   subst e
   obtain ⟨its,_,⟨o,e1,c1,_⟩,_⟩:=I.tuple q.sq
   obtain ⟨its',_,⟨o',n',e2,c2,_⟩,_⟩:=I.list q'.sq
   rw [e1] at e2; cases e2
   rw [c1] at c2; exact absurd c2 (by decide +kernel)
  | ref _=>rw [nr] at n'; cases n'
  | scr _=>rw [nr] at n'; cases n'
  | str _=>simp only [Rep] at h'; obtain ⟨e,_⟩:=h'; cases e
  | non=>simp only [Rep] at h'; cases h'
  | bl _=>simp only [Rep] at h'; cases h'
  | int _=>simp only [Rep] at h'; cases h'
 | .lst xs,d',v,n,n',h,h'=>by
  obtain ⟨a,vs,e,q,t⟩:=h
  subst e
  cases d' with
  | lst ys=>
   obtain ⟨a',vs',e,q',t'⟩:=h'
   injection e with e
   subst e
   have:=I.list_inj q.sq q'.sq
   subst this
   rw [nr] at n n'
   rw [reps_inj I n n' t t']
  | tup ys=>
   obtain ⟨a',vs',e,q',t'⟩:=h'
   injection e with e
   subst e
   obtain ⟨its,_,⟨o,e1,c1,_⟩,_⟩:=I.tuple q'.sq
   obtain ⟨its',_,⟨o',n',e2,c2,_⟩,_⟩:=I.list q.sq
   rw [e1] at e2; cases e2
   rw [c1] at c2; exact absurd c2 (by decide +kernel)
  | ref _=>rw [nr] at n'; cases n'
  | scr _=>rw [nr] at n'; cases n'
  | str _=>simp only [Rep] at h'; obtain ⟨e,_⟩:=h'; cases e
  | non=>simp only [Rep] at h'; cases h'
  | bl _=>simp only [Rep] at h'; cases h'
  | int _=>simp only [Rep] at h'; cases h'
 | .ref a,d',v,n,_,_,_=>by rw [nr] at n; cases n
 | .scr a,d',v,n,_,_,_=>by rw [nr] at n; cases n
theorem reps_inj (I:Inv X pins σ H s):∀ {ds ds':List D} {vs:List V},nrs ds=true→nrs ds'=true→Reps X.K H F ds vs→Reps X.K H F ds' vs→ds=ds'
 | [],[],_,_,_,_,_=>rfl
 | [],_::_,_,_,_,h,⟨v,r,e,_⟩=>by have h:_=[]:=h; rw [h] at e; cases e
 | _::_,[],_,_,_,⟨v,r,e,_⟩,h=>by have h:_=[]:=h; rw [h] at e; cases e
 | d::ds,d'::ds',_,n,n',⟨v,r,e,h,t⟩,⟨v',r',e',h',t'⟩=>by
  subst e
  injection e' with e1 e2
  subst e1; subst e2
  rw [nrs,Bool.and_eq_true] at n n'
  rw [rep_inj I n.1 n'.1 h h',reps_inj I n.2 n'.2 t t']
end
theorem items_ok {I:Inv X pins σ H s} {ds:List D} {vs:List V} {its:List Value} (t:Reps X.K H F ds vs) (r:Vals vs its) (j:Nat) (h:j < its.length):∃ v,Rep X.K H F (ds.getD j .non) v∧RelV v its[j]:=by
 have hl:j < ds.length:=by rw [t.length,r.length]; exact h
 have e1:ds[j]?=some (ds.getD j .non):=by rw [List.getD_eq_getElem?_getD,List.getElem?_eq_getElem hl]; rfl
 obtain ⟨v,e2,r2⟩:=t.get e1
 obtain ⟨u,e3,r3⟩:=r.get e2
 rw [List.getElem?_eq_getElem h] at e3
 cases e3
 exact ⟨v,r2,r3⟩
theorem beq_tx (a b:List Nat):(tx a==tx b)=(a==b):=by
 rw [Bool.eq_iff_iff,beq_iff_eq,beq_iff_eq]
 exact ⟨fun h=>tx_inj h,fun h=>by rw [h]⟩
theorem cmp_tuple (I:Inv X pins σ H s) {n:Nat} {A:Around} {xs ys:List D} {a a':Addr} {vs vs':List V} {its its':List Value}
  (ih:∀ m,m < n→∀ (A:Around) (d d':D) (v v':V) (u u':Value),A.units + m < cLine→min (dpt d) (dpt d')≤m→nr d=true→nr d'=true→Rep X.K H F d v→Rep X.K H F d' v'→RelV v u→RelV v' u'→
   SeqAt.RcAt A s u u' (deq d d')∧SeqAt.EqAt A s u u' (deq d d')∧SeqAt.RcNeAt A s u u' (!deq d d'))
  (hu:A.units + n < cLine) (hd:min (dpt (.tup xs)) (dpt (.tup ys))≤n) (n1:nr (.tup xs)=true) (n2:nr (.tup ys)=true) (h:Rep X.K H F (.tup xs) (.ref a)) (h':Rep X.K H F (.tup ys) (.ref a'))
  (pt:s.heap.IsTuple a its.toArray) (pt':s.heap.IsTuple a' its'.toArray) (rv:Vals vs its) (rv':Vals vs' its') (tt:Reps X.K H F xs vs) (tt':Reps X.K H F ys vs'):
  SeqAt.RcAt A s (.ref a) (.ref a') (deq (.tup xs) (.tup ys))∧SeqAt.EqAt A s (.ref a) (.ref a') (deq (.tup xs) (.tup ys))∧SeqAt.RcNeAt A s (.ref a) (.ref a') (!deq (.tup xs) (.tup ys)):=by
 have hd':min (dpts xs + 1) (dpts ys + 1)≤n:=by rw [dpt,dpt] at hd; exact hd
 have hn1:nrs xs=true:=by rw [nr] at n1; exact n1
 have hn2:nrs ys=true:=by rw [nr] at n2; exact n2
 have l1:its.toArray.size=xs.length:=by rw [List.size_toArray,← rv.length,tt.length]
 have l2:its'.toArray.size=ys.length:=by rw [List.size_toArray,← rv'.length,tt'.length]
 have he:∀ j (h1:j < its.toArray.size) (h2:j < its'.toArray.size),SeqAt.EqAt A.in1 s its.toArray[j] its'.toArray[j] (deq (xs.getD j .non) (ys.getD j .non)):=by
  intro j h1 h2
  obtain ⟨w1,q1,q2⟩:=items_ok (I:=I) tt rv j (by simpa using h1)
  obtain ⟨w2,q3,q4⟩:=items_ok (I:=I) tt' rv' j (by simpa using h2)
  have d1:=@dpts_get xs j
  have d2:=@dpts_get ys j
  exact (ih (n - 1) (by omega) A.in1 _ _ w1 w2 _ _ (by show A.units + 1 + (n - 1) < cLine; omega) (by omega) (nrs_get hn1) (nrs_get hn2) q1 q3 (by simpa using q2) (by simpa using q4)).2.1
 have e:deq (.tup xs) (.tup ys)=((List.range (min its.toArray.size its'.toArray.size)).all (fun j=>deq (xs.getD j .non) (ys.getD j .non)) && its.toArray.size==its'.toArray.size):=by
  rw [deq,deqs_all,l1,l2]
 have rc:SeqAt.RcAt A s (.ref a) (.ref a') (deq (.tup xs) (.tup ys)):=by rw [e]; exact .tuples pt pt' (by omega) he
 refine ⟨rc,?_,by rw [e]; exact .tuples pt pt' (by omega) he⟩
 by_cases z:a=a'
 ·subst z
  have:=rep_inj I n1 n2 h h'
  rw [← this,deq_refl n1]
  exact .same _
 ·exact .of_refs z rc
theorem cmp_list (I:Inv X pins σ H s) {n:Nat} {A:Around} {xs ys:List D} {a a':Addr} {vs vs':List V} {its its':List Value}
  (ih:∀ m,m < n→∀ (A:Around) (d d':D) (v v':V) (u u':Value),A.units + m < cLine→min (dpt d) (dpt d')≤m→nr d=true→nr d'=true→Rep X.K H F d v→Rep X.K H F d' v'→RelV v u→RelV v' u'→
   SeqAt.RcAt A s u u' (deq d d')∧SeqAt.EqAt A s u u' (deq d d')∧SeqAt.RcNeAt A s u u' (!deq d d'))
  (hu:A.units + n < cLine) (hd:min (dpt (.lst xs)) (dpt (.lst ys))≤n) (n1:nr (.lst xs)=true) (n2:nr (.lst ys)=true) (h:a=a'→xs=ys)
  (pt:s.heap.IsList a its.toArray) (pt':s.heap.IsList a' its'.toArray) (rv:Vals vs its) (rv':Vals vs' its') (tt:Reps X.K H F xs vs) (tt':Reps X.K H F ys vs'):
  SeqAt.RcAt A s (.ref a) (.ref a') (deq (.lst xs) (.lst ys))∧SeqAt.EqAt A s (.ref a) (.ref a') (deq (.lst xs) (.lst ys))∧SeqAt.RcNeAt A s (.ref a) (.ref a') (!deq (.lst xs) (.lst ys)):=by
 have hd':min (dpts xs + 1) (dpts ys + 1)≤n:=by rw [dpt,dpt] at hd; exact hd
 have hn1:nrs xs=true:=by rw [nr] at n1; exact n1
 have hn2:nrs ys=true:=by rw [nr] at n2; exact n2
 have l1:its.toArray.size=xs.length:=by rw [List.size_toArray,← rv.length,tt.length]
 have l2:its'.toArray.size=ys.length:=by rw [List.size_toArray,← rv'.length,tt'.length]
 have eqs:∀ (rc:SeqAt.RcAt A s (.ref a) (.ref a') (deq (.lst xs) (.lst ys))),SeqAt.EqAt A s (.ref a) (.ref a') (deq (.lst xs) (.lst ys)):=fun rc=>by
  by_cases z:a=a'
  ·have:=h z
   subst z
   subst this
   rw [deq_refl n1]
   exact .same _
  ·exact .of_refs z rc
 by_cases hl:xs.length=ys.length
 ·have he:∀ j (h1:j < its.toArray.size) (h2:j < its'.toArray.size),SeqAt.EqAt A.in1 s its.toArray[j] its'.toArray[j] (deq (xs.getD j .non) (ys.getD j .non)):=by
   intro j h1 h2
   obtain ⟨w1,q1,q2⟩:=items_ok (I:=I) tt rv j (by simpa using h1)
   obtain ⟨w2,q3,q4⟩:=items_ok (I:=I) tt' rv' j (by simpa using h2)
   have d1:=@dpts_get xs j
   have d2:=@dpts_get ys j
   exact (ih (n - 1) (by omega) A.in1 _ _ w1 w2 _ _ (by show A.units + 1 + (n - 1) < cLine; omega) (by omega) (nrs_get hn1) (nrs_get hn2) q1 q3 (by simpa using q2) (by simpa using q4)).2.1
  have e:deq (.lst xs) (.lst ys)=(List.range its.toArray.size).all (fun j=>deq (xs.getD j .non) (ys.getD j .non)):=by
   rw [deq,deqs_all,l1,hl,Nat.min_self]
   simp
  have rc:SeqAt.RcAt A s (.ref a) (.ref a') (deq (.lst xs) (.lst ys)):=by rw [e]; exact .lists pt pt' (by rw [l1,l2]; exact hl) (by omega) he
  exact ⟨rc,eqs rc,by rw [e]; exact .lists pt pt' (by rw [l1,l2]; exact hl) (by omega) he⟩
 ·have e:deq (.lst xs) (.lst ys)=false:=by rw [deq]; exact deqs_len hl
  have hne:(its.toArray.size != its'.toArray.size)=true:=by rw [l1,l2]; simpa using hl
  have rc:SeqAt.RcAt A s (.ref a) (.ref a') (deq (.lst xs) (.lst ys)):=by rw [e]; exact .lists_lengths pt pt' hne (by omega)
  exact ⟨rc,eqs rc,by rw [e]; exact .lists_lengths pt pt' hne (by omega)⟩
theorem cmp_D (I:Inv X pins σ H s):∀ (n:Nat) (A:Around) (d d':D) (v v':V) (u u':Value),A.units + n < cLine→min (dpt d) (dpt d')≤n→nr d=true→nr d'=true→Rep X.K H F d v→Rep X.K H F d' v'→RelV v u→RelV v' u'→
  SeqAt.RcAt A s u u' (deq d d')∧SeqAt.EqAt A s u u' (deq d d')∧SeqAt.RcNeAt A s u u' (!deq d d'):=by
 intro n
 induction n using Nat.strongRecOn with
 | _ n ih=>
  intro A d d' v v' u u' hu hd n1 n2 h h' r r'
  have hu0:A.units < cLine:=by omega
  cases d with
  | ref a=>rw [nr] at n1; cases n1
  | scr a=>rw [nr] at n1; cases n1
  | non=>
   have hv:v=.non:=h
   subst hv
   have hr:u=Value.none:=r
   subst hr
   cases d' with
   | ref a=>rw [nr] at n2; cases n2
   | scr a=>rw [nr] at n2; cases n2
   | non=>
    have hv:v'=.non:=h'
    subst hv
    have hr:u'=Value.none:=r'
    subst hr
    exact ⟨.none_none,.same _,.none_none⟩
   | bl b'=>
    have hv:v'=.bl b':=h'
    subst hv
    have hr:u'=Value.bool b':=r'
    subst hr
    exact ⟨.none_bool b',.none_bool b',.none_bool b'⟩
   | int i'=>
    have hv:v'=.int i':=h'
    subst hv
    obtain ⟨t',hr⟩:∃ t',u'=Value.int i' t':=r'
    subst hr
    exact ⟨.none_int i' t',.none_int i' t',.none_int i' t'⟩
   | str l'=>
    obtain ⟨hv,_⟩:=h'
    subst hv
    obtain ⟨t',hr⟩:∃ t',u'=Value.str (tx l') t':=r'
    subst hr
    exact ⟨.none_str (tx l') t',.none_str (tx l') t',.none_str (tx l') t'⟩
   | tup ys=>
    obtain ⟨a',vs',hv,q',tt'⟩:=id h'
    subst hv
    have hr:u'=Value.ref a':=r'
    subst hr
    obtain ⟨its',rv',pt',_⟩:=I.tuple q'.sq
    have pt':s.heap.IsTuple a' its'.toArray:=pt'
    exact ⟨.none_tuple pt' hu0,.none_tuple pt' hu0,.none_tuple pt' hu0⟩
   | lst ys=>
    obtain ⟨a',vs',hv,q',tt'⟩:=id h'
    subst hv
    have hr:u'=Value.ref a':=r'
    subst hr
    obtain ⟨its',rv',pl',_⟩:=I.list q'.sq
    have pt':s.heap.IsList a' its'.toArray:=pl'.isList
    exact ⟨.none_list pt' hu0,.none_list pt' hu0,.none_list pt' hu0⟩
  | bl b=>
   have hv:v=.bl b:=h
   subst hv
   have hr:u=Value.bool b:=r
   subst hr
   cases d' with
   | ref a=>rw [nr] at n2; cases n2
   | scr a=>rw [nr] at n2; cases n2
   | non=>
    have hv:v'=.non:=h'
    subst hv
    have hr:u'=Value.none:=r'
    subst hr
    exact ⟨.bool_none b,.bool_none b,.bool_none b⟩
   | bl b'=>
    have hv:v'=.bl b':=h'
    subst hv
    have hr:u'=Value.bool b':=r'
    subst hr
    exact ⟨.bool_bool b b',.bool_bool b b',.bool_bool b b'⟩
   | int i'=>
    have hv:v'=.int i':=h'
    subst hv
    obtain ⟨t',hr⟩:∃ t',u'=Value.int i' t':=r'
    subst hr
    exact ⟨.bool_int b i' t',.bool_int b i' t',.bool_int b i' t'⟩
   | str l'=>
    obtain ⟨hv,_⟩:=h'
    subst hv
    obtain ⟨t',hr⟩:∃ t',u'=Value.str (tx l') t':=r'
    subst hr
    exact ⟨.bool_str b (tx l') t',.bool_str b (tx l') t',.bool_str b (tx l') t'⟩
   | tup ys=>
    obtain ⟨a',vs',hv,q',tt'⟩:=id h'
    subst hv
    have hr:u'=Value.ref a':=r'
    subst hr
    obtain ⟨its',rv',pt',_⟩:=I.tuple q'.sq
    have pt':s.heap.IsTuple a' its'.toArray:=pt'
    exact ⟨.bool_tuple b pt' hu0,.bool_tuple b pt' hu0,.bool_tuple b pt' hu0⟩
   | lst ys=>
    obtain ⟨a',vs',hv,q',tt'⟩:=id h'
    subst hv
    have hr:u'=Value.ref a':=r'
    subst hr
    obtain ⟨its',rv',pl',_⟩:=I.list q'.sq
    have pt':s.heap.IsList a' its'.toArray:=pl'.isList
    exact ⟨.bool_list b pt' hu0,.bool_list b pt' hu0,.bool_list b pt' hu0⟩
  | int i=>
   have hv:v=.int i:=h
   subst hv
   obtain ⟨t,hr⟩:∃ t,u=Value.int i t:=r
   subst hr
   cases d' with
   | ref a=>rw [nr] at n2; cases n2
   | scr a=>rw [nr] at n2; cases n2
   | non=>
    have hv:v'=.non:=h'
    subst hv
    have hr:u'=Value.none:=r'
    subst hr
    exact ⟨.int_none i t,.int_none i t,.int_none i t⟩
   | bl b'=>
    have hv:v'=.bl b':=h'
    subst hv
    have hr:u'=Value.bool b':=r'
    subst hr
    exact ⟨.int_bool i t b',.int_bool i t b',.int_bool i t b'⟩
   | int i'=>
    have hv:v'=.int i':=h'
    subst hv
    obtain ⟨t',hr⟩:∃ t',u'=Value.int i' t':=r'
    subst hr
    exact ⟨.int_int i t i' t',.int_int i t i' t',.int_int i t i' t'⟩
   | str l'=>
    obtain ⟨hv,_⟩:=h'
    subst hv
    obtain ⟨t',hr⟩:∃ t',u'=Value.str (tx l') t':=r'
    subst hr
    exact ⟨.int_str i t (tx l') t',.int_str i t (tx l') t',.int_str i t (tx l') t'⟩
   | tup ys=>
    obtain ⟨a',vs',hv,q',tt'⟩:=id h'
    subst hv
    have hr:u'=Value.ref a':=r'
    subst hr
    obtain ⟨its',rv',pt',_⟩:=I.tuple q'.sq
    have pt':s.heap.IsTuple a' its'.toArray:=pt'
    exact ⟨.int_tuple i t pt' hu0,.int_tuple i t pt' hu0,.int_tuple i t pt' hu0⟩
   | lst ys=>
    obtain ⟨a',vs',hv,q',tt'⟩:=id h'
    subst hv
    have hr:u'=Value.ref a':=r'
    subst hr
    obtain ⟨its',rv',pl',_⟩:=I.list q'.sq
    have pt':s.heap.IsList a' its'.toArray:=pl'.isList
    exact ⟨.int_list i t pt' hu0,.int_list i t pt' hu0,.int_list i t pt' hu0⟩
  | str l=>
   obtain ⟨hv,_⟩:=h
   subst hv
   obtain ⟨t,hr⟩:∃ t,u=Value.str (tx l) t:=r
   subst hr
   cases d' with
   | ref a=>rw [nr] at n2; cases n2
   | scr a=>rw [nr] at n2; cases n2
   | non=>
    have hv:v'=.non:=h'
    subst hv
    have hr:u'=Value.none:=r'
    subst hr
    exact ⟨.str_none (tx l) t,.str_none (tx l) t,.str_none (tx l) t⟩
   | bl b'=>
    have hv:v'=.bl b':=h'
    subst hv
    have hr:u'=Value.bool b':=r'
    subst hr
    exact ⟨.str_bool (tx l) t b',.str_bool (tx l) t b',.str_bool (tx l) t b'⟩
   | int i'=>
    have hv:v'=.int i':=h'
    subst hv
    obtain ⟨t',hr⟩:∃ t',u'=Value.int i' t':=r'
    subst hr
    exact ⟨.str_int (tx l) t i' t',.str_int (tx l) t i' t',.str_int (tx l) t i' t'⟩
   | str l'=>
    obtain ⟨hv,_⟩:=h'
    subst hv
    obtain ⟨t',hr⟩:∃ t',u'=Value.str (tx l') t':=r'
    subst hr
    rw [deq,← beq_tx]
    exact ⟨.str_str (tx l) t (tx l') t',.str_str (tx l) t (tx l') t',.str_str (tx l) t (tx l') t'⟩
   | tup ys=>
    obtain ⟨a',vs',hv,q',tt'⟩:=id h'
    subst hv
    have hr:u'=Value.ref a':=r'
    subst hr
    obtain ⟨its',rv',pt',_⟩:=I.tuple q'.sq
    have pt':s.heap.IsTuple a' its'.toArray:=pt'
    exact ⟨.str_tuple (tx l) t pt' hu0,.str_tuple (tx l) t pt' hu0,.str_tuple (tx l) t pt' hu0⟩
   | lst ys=>
    obtain ⟨a',vs',hv,q',tt'⟩:=id h'
    subst hv
    have hr:u'=Value.ref a':=r'
    subst hr
    obtain ⟨its',rv',pl',_⟩:=I.list q'.sq
    have pt':s.heap.IsList a' its'.toArray:=pl'.isList
    exact ⟨.str_list (tx l) t pt' hu0,.str_list (tx l) t pt' hu0,.str_list (tx l) t pt' hu0⟩
  | tup xs=>
   obtain ⟨a,vs,hv,q,tt⟩:=id h
   subst hv
   have hr:u=Value.ref a:=r
   subst hr
   obtain ⟨its,rv,pt,_⟩:=I.tuple q.sq
   have pt:s.heap.IsTuple a its.toArray:=pt
   cases d' with
   | ref a=>rw [nr] at n2; cases n2
   | scr a=>rw [nr] at n2; cases n2
   | non=>
    have hv:v'=.non:=h'
    subst hv
    have hr:u'=Value.none:=r'
    subst hr
    exact ⟨.tuple_none pt hu0,.tuple_none pt hu0,.tuple_none pt hu0⟩
   | bl b'=>
    have hv:v'=.bl b':=h'
    subst hv
    have hr:u'=Value.bool b':=r'
    subst hr
    exact ⟨.tuple_bool b' pt hu0,.tuple_bool b' pt hu0,.tuple_bool b' pt hu0⟩
   | int i'=>
    have hv:v'=.int i':=h'
    subst hv
    obtain ⟨t',hr⟩:∃ t',u'=Value.int i' t':=r'
    subst hr
    exact ⟨.tuple_int i' t' pt hu0,.tuple_int i' t' pt hu0,.tuple_int i' t' pt hu0⟩
   | str l'=>
    obtain ⟨hv,_⟩:=h'
    subst hv
    obtain ⟨t',hr⟩:∃ t',u'=Value.str (tx l') t':=r'
    subst hr
    exact ⟨.tuple_str (tx l') t' pt hu0,.tuple_str (tx l') t' pt hu0,.tuple_str (tx l') t' pt hu0⟩
   | tup ys=>
    obtain ⟨a',vs',hv,q',tt'⟩:=id h'
    subst hv
    have hr:u'=Value.ref a':=r'
    subst hr
    obtain ⟨its',rv',pt',_⟩:=I.tuple q'.sq
    have pt':s.heap.IsTuple a' its'.toArray:=pt'
    exact cmp_tuple I ih hu hd n1 n2 h h' pt pt' rv rv' tt tt'
   | lst ys=>
    obtain ⟨a',vs',hv,q',tt'⟩:=id h'
    subst hv
    have hr:u'=Value.ref a':=r'
    subst hr
    obtain ⟨its',rv',pl',_⟩:=I.list q'.sq
    have pt':s.heap.IsList a' its'.toArray:=pl'.isList
    exact ⟨.tuple_list pt pt' hu0,.tuple_list pt pt' hu0,.tuple_list pt pt' hu0⟩
  | lst xs=>
   obtain ⟨a,vs,hv,q,tt⟩:=id h
   subst hv
   have hr:u=Value.ref a:=r
   subst hr
   obtain ⟨its,rv,pl,_⟩:=I.list q.sq
   have pt:s.heap.IsList a its.toArray:=pl.isList
   cases d' with
   | ref a=>rw [nr] at n2; cases n2
   | scr a=>rw [nr] at n2; cases n2
   | non=>
    have hv:v'=.non:=h'
    subst hv
    have hr:u'=Value.none:=r'
    subst hr
    exact ⟨.list_none pt hu0,.list_none pt hu0,.list_none pt hu0⟩
   | bl b'=>
    have hv:v'=.bl b':=h'
    subst hv
    have hr:u'=Value.bool b':=r'
    subst hr
    exact ⟨.list_bool b' pt hu0,.list_bool b' pt hu0,.list_bool b' pt hu0⟩
   | int i'=>
    have hv:v'=.int i':=h'
    subst hv
    obtain ⟨t',hr⟩:∃ t',u'=Value.int i' t':=r'
    subst hr
    exact ⟨.list_int i' t' pt hu0,.list_int i' t' pt hu0,.list_int i' t' pt hu0⟩
   | str l'=>
    obtain ⟨hv,_⟩:=h'
    subst hv
    obtain ⟨t',hr⟩:∃ t',u'=Value.str (tx l') t':=r'
    subst hr
    exact ⟨.list_str (tx l') t' pt hu0,.list_str (tx l') t' pt hu0,.list_str (tx l') t' pt hu0⟩
   | tup ys=>
    obtain ⟨a',vs',hv,q',tt'⟩:=id h'
    subst hv
    have hr:u'=Value.ref a':=r'
    subst hr
    obtain ⟨its',rv',pt',_⟩:=I.tuple q'.sq
    have pt':s.heap.IsTuple a' its'.toArray:=pt'
    exact ⟨.list_tuple pt pt' hu0,.list_tuple pt pt' hu0,.list_tuple pt pt' hu0⟩
   | lst ys=>
    obtain ⟨a',vs',hv,q',tt'⟩:=id h'
    subst hv
    have hr:u'=Value.ref a':=r'
    subst hr
    obtain ⟨its',rv',pl',_⟩:=I.list q'.sq
    have pt':s.heap.IsList a' its'.toArray:=pl'.isList
    exact cmp_list I ih hu hd n1 n2 (fun z=>by subst z; have e:=rep_inj I n1 n2 h h'; injection e) pt pt' rv rv' tt tt'
end
def FA (F:FZ) (G:DH):FZ:=fun a=>F a∨∃ o,G a=some o
theorem ext_FA {H:Hp} {F:FZ} {G:DH}:Ext H F H (FA F G):=⟨fun _ f=>.inl f,fun _ _=>rfl,fun _ _ h=>h,fun _ _ _ h=>h⟩
theorem rep_view {K:PySem.W.Frag} {H:Hp} {F:FZ} {G:DH} {d:D} {v:V} (r:R K H F G) (h:Rep K H F d v):Rep K H (FA F G) (view G d) v:=by
 cases d with
 | ref p=>
  have hv:v=.ref p:=h
  cases g:G p with
  | none=>
   have e:view G (.ref p)=.ref p:=by simp only [view,g]
   rw [e]; exact hv
  | some o=>
   cases o with
   | lst ds=>
    have e:view G (.ref p)=.lst ds:=by simp only [view,g]
    rw [e]
    obtain ⟨vs,q,t⟩:=r.lst g
    exact ⟨p,vs,hv,⟨.inr ⟨_,g⟩,q⟩,Reps.ext ext_FA t⟩
 | _=>exact Rep.ext ext_FA h
def rC2 (K:PySem.W.Frag) (f:D→D→(Bool→Prop)→Prop):R2:=fun x y H Q=>∃ F G a b,R K H F G∧Rep K H F a x∧Rep K H F b y∧f (view G a) (view G b) (fun c=>PV K H F Q (.bl c) G)
section
variable {X:Cx}
theorem in_one (c:Nat) (l:List Nat):(!(Builtin.Str.occurrences (tx l) (tx [c]) 0 (tx l).length 1).isEmpty)=l.contains c:=by
 have:=StrLaws.found_one (tx l) c
 rw [this,Bool.eq_iff_iff]
 simp
theorem eqU_any {pins:List (Addr×Obj)} {σ:L2.St} {H:Hp} {s:Shared} {F:FZ} (I:Inv X pins σ H s) {A:Around} {x:D} {v:V} {u:Value} (hu:A.units + 64 < cLine) (hx:nr x=true) (rx:Rep X.K H F x v) (ru:RelV v u):
  ∀ {ds:List D} {vs:List V} {us:List Value},nrs ds=true→dpts ds≤60→Reps X.K H F ds vs→Vals vs us→∃ e:Value→Bool,(∀ y∈us,SeqAt.EqAt A s y u (e y))∧us.any e=isIn x ds:=by
 intro ds vs us hn hd t r
 let P:Value→D→Prop:=fun y d=>nr d=true∧∃ v,Rep X.K H F d v∧RelV v y
 have one:∀ y d d',P y d→P y d'→d=d':=fun y d d' ⟨n,v,q,z⟩ ⟨n',v',q',z'⟩=>by
  have e:=z.inj z'
  subst e
  exact rep_inj I n n' q q'
 have ⟨f,hf⟩:∃ f:Value→D,∀ y d,P y d→f y=d:=by
  refine ⟨fun y=>Classical.epsilon (P y),fun y d h=>?_⟩
  exact one y _ _ (Classical.epsilon_spec ⟨d,h⟩) h
 refine ⟨fun y=>deq (f y) x,?_,?_⟩
 ·skip
  have key:∀ {ds:List D} {vs:List V} {us:List Value},nrs ds=true→dpts ds≤60→Reps X.K H F ds vs→Vals vs us→∀ y∈us,SeqAt.EqAt A s y u (deq (f y) x):=by
   intro ds
   induction ds with
   | nil=>
    intro vs us _ _ t r y hy
    have t:vs=[]:=t
    subst t
    cases r
    cases hy
   | cons d ds ih=>
    intro vs us hn hd t r y hy
    obtain ⟨v1,r1,e,h1,t1⟩:=t
    subst e
    rw [nrs,Bool.and_eq_true] at hn
    rw [dpts] at hd
    cases r with
    | cons p q=>
     rcases List.mem_cons.mp hy with e | hy
     ·subst e
      rw [hf _ d ⟨hn.1,_,h1,p⟩]
      exact (cmp_D I 60 A d x v1 v _ u (by omega) (by omega) hn.1 hx h1 rx p ru).2.1
     ·exact ih hn.2 (by omega) t1 q y hy
  exact key hn hd t r
 ·have key:∀ {ds:List D} {vs:List V} {us:List Value},nrs ds=true→Reps X.K H F ds vs→Vals vs us→us.any (fun y=>deq (f y) x)=isIn x ds:=by
   intro ds
   induction ds with
   | nil=>
    intro vs us _ t r
    have t:vs=[]:=t
    subst t
    cases r
    rfl
   | cons d ds ih=>
    intro vs us hn t r
    obtain ⟨v1,r1,e,h1,t1⟩:=t
    subst e
    rw [nrs,Bool.and_eq_true] at hn
    cases r with
    | cons p q=>
     rw [List.any_cons,hf _ d ⟨hn.1,_,h1,p⟩,ih hn.2 t1 q]
     rfl
  exact key hn t r
theorem op_cmp (op:CmpOp) (hu:X.A.units + 100 < cLine):OpR X (compareOp op) (rC2 X.K (opCmp op)):=by
 intro pins s σ H x y v u Q I rx ry h
 obtain ⟨F,G,a,b,r,ra,rb,h⟩:=h
 have ra':=rep_view r ra
 have rb':=rep_view r rb
 generalize ea:view G a=va at h ra'
 generalize eb:view G b=vb at h rb'
 have fin:∀ c:Bool,PV X.K H F Q (.bl c) G→EP X pins σ Q (.bool c) s:=fun c q=>⟨.bl c,H,I,rfl,q.now r rfl⟩
 have hin:∀ (l:List D) (k:Bool→Prop),(nr va=true∧nrs l=true∧dpts l≤60)→∀ {vs:List V} {us:List Value},Reps X.K H (FA F G) l vs→Vals vs us→
   ∃ e:Value→Bool,(∀ z∈us,SeqAt.EqAt X.A.in1 s z v (e z))∧us.any e=isIn va l:=fun l k hh {vs us} t rv=>
  eqU_any I (A:=X.A.in1) (by show X.A.units + 1 + 64 < cLine; omega) hh.1 ra' rx hh.2.1 hh.2.2 t rv
 cases op with
 | Eq=>
  obtain ⟨⟨n1,n2,n3⟩,q⟩:=h
  exact (cmp_D I 60 X.A _ _ x y v u (by omega) n3 n1 n2 ra' rb' rx ry).1 _ _ _ _ (fin _ q)
 | NotEq=>
  obtain ⟨⟨n1,n2,n3⟩,q⟩:=h
  exact (cmp_D I 60 X.A _ _ x y v u (by omega) n3 n1 n2 ra' rb' rx ry).2.2 _ _ _ _ (fin _ q)
 | Lt=>
  have h:opLt va vb (fun c=>PV X.K H F Q (.bl c) G):=h
  unfold opLt at h
  split at h
  ·have e1:x=.int _:=ra'
   have e2:y=.int _:=rb'
   subst e1; subst e2
   obtain ⟨t,rfl⟩:=rx
   obtain ⟨t',rfl⟩:=ry
   exact lt_int (fin _ h)
  ·obtain ⟨e1,_⟩:=ra'
   obtain ⟨e2,_⟩:=rb'
   subst e1; subst e2
   obtain ⟨t,rfl⟩:=rx
   obtain ⟨t',rfl⟩:=ry
   exact lt_str (fin _ h)
  ·exact h.elim
 | LtE=>
  have h:opLe va vb (fun c=>PV X.K H F Q (.bl c) G):=h
  unfold opLe at h
  split at h
  ·have e1:x=.int _:=ra'
   have e2:y=.int _:=rb'
   subst e1; subst e2
   obtain ⟨t,rfl⟩:=rx
   obtain ⟨t',rfl⟩:=ry
   exact le_int (fin _ h)
  ·obtain ⟨e1,_⟩:=ra'
   obtain ⟨e2,_⟩:=rb'
   subst e1; subst e2
   obtain ⟨t,rfl⟩:=rx
   obtain ⟨t',rfl⟩:=ry
   exact PySem.P.le_str (fin _ h)
  ·exact h.elim
 | Gt=>
  have h:opGt va vb (fun c=>PV X.K H F Q (.bl c) G):=h
  unfold opGt at h
  split at h
  ·have e1:x=.int _:=ra'
   have e2:y=.int _:=rb'
   subst e1; subst e2
   obtain ⟨t,rfl⟩:=rx
   obtain ⟨t',rfl⟩:=ry
   exact gt_int (fin _ h)
  ·exact h.elim
 | GtE=>
  have h:opGe va vb (fun c=>PV X.K H F Q (.bl c) G):=h
  unfold opGe at h
  split at h
  ·have e1:x=.int _:=ra'
   have e2:y=.int _:=rb'
   subst e1; subst e2
   obtain ⟨t,rfl⟩:=rx
   obtain ⟨t',rfl⟩:=ry
   exact ge_int (fin _ h)
  ·exact h.elim
 | Is=>
  have h:opIs va vb (fun c=>PV X.K H F Q (.bl c) G):=h
  unfold opIs at h
  split at h
  ·have e2:y=.non:=rb'
   subst e2
   have q:∀ c,(c=decide (x=.non))→PV X.K H F Q (.bl c) G→wpAny (model X.prog X.w) X.A (compareOp .Is v u) (EP X pins σ Q) X.xe s:=fun c e q=>
    op_isN pins s σ H _ _ v u Q I rx ry ⟨rfl,by rw [← e]; exact q.now r rfl⟩
   refine q _ ?_ h
   have:nonB va=decide (x=.non):=by
    cases va with
    | non=>have e1:x=.non:=ra'; subst e1; rfl
    | bl _=>have e1:x=.bl _:=ra'; subst e1; rfl
    | int _=>have e1:x=.int _:=ra'; subst e1; rfl
    | str _=>obtain ⟨e1,_⟩:=ra'; subst e1; rfl
    | tup _=>obtain ⟨_,_,e1,_⟩:=ra'; subst e1; rfl
    | lst _=>obtain ⟨_,_,e1,_⟩:=ra'; subst e1; rfl
    | ref _=>have e1:x=.ref _:=ra'; subst e1; rfl
    | scr _=>obtain ⟨_,e1,_⟩:=ra'; subst e1; rfl
   rw [this]
  ·split at h
   ·have e1:x=.bl _:=ra'
    have e2:y=.bl _:=rb'
    subst e1; subst e2
    exact op_is_bool pins s σ H _ _ v u Q I rx ry ⟨_,_,rfl,rfl,h.now r rfl⟩
   ·exact h.elim
  ·exact h.elim
 | IsNot=>
  have h:opIsN va vb (fun c=>PV X.K H F Q (.bl c) G):=h
  unfold opIsN at h
  split at h
  ·have e2:y=.non:=rb'
   subst e2
   have q:∀ c,(c=!decide (x=.non))→PV X.K H F Q (.bl c) G→wpAny (model X.prog X.w) X.A (compareOp .IsNot v u) (EP X pins σ Q) X.xe s:=fun c e q=>
    op_notN pins s σ H _ _ v u Q I rx ry ⟨rfl,by rw [← e]; exact q.now r rfl⟩
   refine q _ ?_ h
   have:nonB va=decide (x=.non):=by
    cases va with
    | non=>have e1:x=.non:=ra'; subst e1; rfl
    | bl _=>have e1:x=.bl _:=ra'; subst e1; rfl
    | int _=>have e1:x=.int _:=ra'; subst e1; rfl
    | str _=>obtain ⟨e1,_⟩:=ra'; subst e1; rfl
    | tup _=>obtain ⟨_,_,e1,_⟩:=ra'; subst e1; rfl
    | lst _=>obtain ⟨_,_,e1,_⟩:=ra'; subst e1; rfl
    | ref _=>have e1:x=.ref _:=ra'; subst e1; rfl
    | scr _=>obtain ⟨_,e1,_⟩:=ra'; subst e1; rfl
   rw [this]
  ·split at h
   ·have e1:x=.bl _:=ra'
    have e2:y=.bl _:=rb'
    subst e1; subst e2
    exact op_isnot_bool pins s σ H _ _ v u Q I rx ry ⟨_,_,rfl,rfl,h.now r rfl⟩
   ·exact h.elim
  ·exact h.elim
 | In=>
  have h:opIn va vb (fun c=>PV X.K H F Q (.bl c) G):=h
  unfold opIn at h
  split at h
  ·split at h
   ·obtain ⟨e1,_⟩:=ra'
    obtain ⟨e2,_⟩:=rb'
    subst e1; subst e2
    obtain ⟨t,rfl⟩:=rx
    obtain ⟨t',rfl⟩:=ry
    exact in_str (by rw [in_one]; exact fin _ h)
   ·exact h.elim
  ·obtain ⟨hh,q⟩:=h
   obtain ⟨p,vs,e2,q2,t⟩:=rb'
   subst e2
   cases ry
   obtain ⟨its,rv,pl,hz⟩:=I.list q2.sq
   obtain ⟨e,he,hany⟩:=hin _ (fun _=>True) hh t rv
   refine SeqAt.in_listAt e pl.isList (fun w hw=>he w (by simpa using hw)) ?_
   rw [show its.toArray.any e=its.any e by simp,hany]
   exact fin _ q
  ·obtain ⟨hh,q⟩:=h
   obtain ⟨p,vs,e2,q2,t⟩:=rb'
   subst e2
   cases ry
   obtain ⟨its,rv,pl,hz⟩:=I.tuple q2.sq
   obtain ⟨e,he,hany⟩:=hin _ (fun _=>True) hh t rv
   refine SeqAt.in_tupleAt e pl (fun w hw=>he w (by simpa using hw)) ?_
   rw [show its.toArray.any e=its.any e by simp,hany]
   exact fin _ q
  ·exact h.elim
 | NotIn=>
  have h:opIn va vb (fun c=>PV X.K H F Q (.bl (!c)) G):=h
  unfold opIn at h
  split at h
  ·split at h
   ·obtain ⟨e1,_⟩:=ra'
    obtain ⟨e2,_⟩:=rb'
    subst e1; subst e2
    obtain ⟨t,rfl⟩:=rx
    obtain ⟨t',rfl⟩:=ry
    exact notIn_str (by rw [in_one]; exact fin _ h)
   ·exact h.elim
  ·obtain ⟨hh,q⟩:=h
   obtain ⟨p,vs,e2,q2,t⟩:=rb'
   subst e2
   cases ry
   obtain ⟨its,rv,pl,hz⟩:=I.list q2.sq
   obtain ⟨e,he,hany⟩:=hin _ (fun _=>True) hh t rv
   refine SeqAt.notIn_listAt e pl.isList (fun w hw=>he w (by simpa using hw)) ?_
   rw [show its.toArray.any e=its.any e by simp,hany]
   exact fin _ q
  ·obtain ⟨hh,q⟩:=h
   obtain ⟨p,vs,e2,q2,t⟩:=rb'
   subst e2
   cases ry
   obtain ⟨its,rv,pl,hz⟩:=I.tuple q2.sq
   obtain ⟨e,he,hany⟩:=hin _ (fun _=>True) hh t rv
   refine SeqAt.notIn_tupleAt e pl (fun w hw=>he w (by simpa using hw)) ?_
   rw [show its.toArray.any e=its.any e by simp,hany]
   exact fin _ q
  ·exact h.elim
end
end RF
namespace RF
open PySem PySem.Spec PyProof.Rows L2
section
variable {X:Cx}
def rIdx (K:PySem.W.Frag):R2:=fun x y H Q=>∃ F G a b,R K H F G∧Rep K H F a x∧Rep K H F b y∧opIdx (view G a) b (fun d=>PV K H F Q d G)
theorem atI_rep {K:PySem.W.Frag} {H:Hp} {F:FZ} {ds:List D} {vs:List V} {i:Int} {d:D} (t:Reps K H F ds vs) (h:atI ds i=some d):∃ v,atI vs i=some v∧Rep K H F d v:=by
 unfold atI at h ⊢
 rw [← t.length]
 cases e:ixN ds.length i with
 | none=>rw [e] at h; cases h
 | some j=>
  rw [e] at h
  obtain ⟨v,e1,r⟩:=t.get (show ds[j]?=some d from h)
  exact ⟨v,e1,r⟩
theorem ix_ok:IxR X (rIdx X.K):=by
 intro value slice pins s σ H x y v u Q I rx ry h hs
 obtain ⟨F,G,a,b,r,ra,rb,h⟩:=h
 generalize ea:view G a=va at h
 unfold opIdx at h
 split at h
 ·obtain ⟨p,vs,e,q,t⟩:=Rep.list r ra ea
  subst e
  have e2:y=.int _:=rb
  subst e2
  split at h
  ·rename_i d hd
   obtain ⟨w,hw,rw'⟩:=atI_rep t hd
   exact ix_list value slice pins s σ H _ _ v u Q I rx ry ⟨p,vs,_,w,rfl,rfl,q,hw,h.now r rw'⟩ hs
  ·exact h.elim
 ·cases view_tup ea
  obtain ⟨p,vs,e,q,t⟩:=ra
  subst e
  have e2:y=.int _:=rb
  subst e2
  split at h
  ·rename_i d hd
   obtain ⟨w,hw,rw'⟩:=atI_rep t hd
   exact ix_tup value slice pins s σ H _ _ v u Q I rx ry ⟨p,vs,_,w,rfl,rfl,q.sq,hw,h.now r rw'⟩ hs
  ·exact h.elim
 ·cases view_str ea
  obtain ⟨e,hl⟩:=ra
  subst e
  have e2:y=.int _:=rb
  subst e2
  split at h
  ·rename_i c hc
   exact ix_str value slice pins s σ H _ _ v u Q I rx ry ⟨_,_,c,rfl,rfl,by rw [tx_len]; exact le_szl hl,hc,h.now r ⟨rfl,by show 1≤sz; decide⟩⟩ hs
  ·exact h.elim
 ·exact h.elim
theorem slice_tx (l:List Nat) (lo hi:Option Int):Txt.slice (tx l) lo hi=tx (cut l lo hi):=by
 have e:Builtin.Str.strSliceIndices lo hi 1 (tx l).length=sliceRange (sliceBounds lo hi none (tx l).length).1 (sliceBounds lo hi none (tx l).length).2.1 1:=by
  unfold Builtin.Str.strSliceIndices sliceBounds
  cases lo <;> cases hi <;> rfl
 obtain ⟨h1,h2,h3⟩:=slice_bounds lo hi (tx l).length
 rw [h1,h2,sliceRange_one] at e
 have e2:((Builtin.Str.strSliceIndices lo hi 1 (tx l).length).filterMap ((tx l).cps[·]?))=cut l lo hi:=by
  rw [e,pick_run]
  unfold cut
  rw [tx_len]
 unfold Txt.slice
 split
 ·rename_i hh
  rw [Bool.and_eq_true] at hh
  have hl:=eq_of_beq hh.2
  rw [e,List.length_map,List.length_range,tx_len] at hl
  have b1:HT.sIx l.length l.length hi≤l.length:=HT.sIx_le _ _ (Nat.le_refl _) hi
  unfold cut
  by_cases hz:l=[]
  ·subst hz; simp
  ·have hp:0 < l.length:=List.length_pos_iff.mpr hz
   have e3:HT.sIx l.length 0 lo=0:=by omega
   have e4:HT.sIx l.length l.length hi=l.length:=by omega
   rw [e3,e4]
   simp
 ·rw [e2]
theorem cut_length {α:Type} (xs:List α) (lo hi:Option Int):(cut xs lo hi).length≤xs.length:=by
 unfold cut
 rw [List.length_take,List.length_drop]
 omega
theorem getItem_tuple_whole {prog:Program} {w:World} {A:Around} {E:Value→Shared→Prop} {s:Shared} {t sl:Addr} {items:Array Value} {vl vu:Value} {lo hi:Option Int} {Q:Value→Shared→Prop} (ht:IsTup s.heap t items) (hs:s.heap.IsSliceOf sl vl vu .none) (pl:IsPart vl lo) (pu:IsPart vu hi)
  (hw:HT.sIx items.size 0 lo=0∧HT.sIx items.size items.size hi=items.size) (h:Q (.ref t) s):wpAny (model prog w) A (getItem (.ref t) (.ref sl)) Q E s:=by
 obtain ⟨os,hos,hcs,hds⟩:=id hs
 have hTs:s.TypeIs (.ref sl) "slice":=⟨os,hos,hcs⟩
 unfold getItem
 try with_reducible refine wpAny_holding ?_
 first | refine wpAny_bind (wpAny_pure ?_) | skip
 refine wpAny_bind (wpAny_sequenceKey ht.typeIs (by decide) ?_)
 refine wpAny_bind (wpAny_callSpecial?_slot (name:=Str.ofString "__getitem__") ht.typeIs PyProof.Rows.slot_tuple_getitem
  (wpAny_call_entry PyProof.Rows.slot_tuple_getitem ht.typeIs entry_tuple_getitem ?_ (args_tuple_getitem _ _)))
 show wpAny _ _ (Builtin.Tuple.tupleItemsOf (.ref t) >>= _) _ _ s
 refine wpAny_bind (tupleItemsOf_ ht ?_)
 refine wpAny_bind (wpAny_typeOf hTs ?_)
 rw [if_pos (by decide)]
 refine wpAny_bind (HT.sliceApplied_gen hs pl pu ?_)
 have hyes:(((HT.sIx items.size 0 lo:Nat):Int)==0 && (1:Int)==1 && (HT.sIx items.size items.size hi - HT.sIx items.size 0 lo)==items.size)=true:=by
  rw [hw.1,hw.2]; simp
 show wpAny _ _ (if (((HT.sIx items.size 0 lo:Nat):Int)==0 && (1:Int)==1 && (HT.sIx items.size items.size hi - HT.sIx items.size 0 lo)==items.size)=true then _ else _) _ _ s
 rw [if_pos hyes]
 refine wpAny_bind (m:=Builtin.Tuple.tupleIsExact _) (wpAny_bind (wpAny_typeOf ht.typeIs (wpAny_pure ?_)))
 rw [if_pos (by decide)]
 exact wpAny_bind (wpAny_rule (wpAny_pure ⟨_,rfl,wpAny_pure h⟩))
theorem sl_tupW:SlR X (fun x lo hi H Q=>∃ a xs,x=.ref a∧SqT X.K H a xs∧(HT.sIx xs.length 0 lo=0∧HT.sIx xs.length xs.length hi=xs.length)∧Q (.ref a) H):=by
 intro pins s σ H x v vl vu lo hi sl Q I rx hs pl pu h
 obtain ⟨a,xs,rfl,hx,hw,q⟩:=h
 cases rx
 obtain ⟨its,r,ht,hz⟩:=I.tuple hx
 have hlen:its.toArray.size=xs.length:=by rw [List.size_toArray]; exact r.length.symm
 exact ⟨"tuple",_,PyProof.Rows.slot_tuple_getitem.lookup,ht.typeIs,getItem_tuple_whole ht hs pl pu (by rw [hlen]; exact hw) ⟨.ref a,H,I,rfl,q⟩⟩
theorem reps_ints {K:PySem.W.Frag} {H:Hp} {F:FZ}:∀ ns:List Int,Reps K H F (ns.map D.int) (ns.map V.int)
 | []=>rfl
 | n::ns=>⟨_,_,rfl,rfl,reps_ints ns⟩
def rSlc (K:PySem.W.Frag) (fz:Bool):V→Option Int→Option Int→Hp→VK→Prop:=fun x lo hi H Q=>∃ F G a,R K H F G∧Rep K H F a x∧opSlc fz (view G a) lo hi G (PV K H F Q)
theorem cut_cutV {K:PySem.W.Frag} {H:Hp} {F:FZ} {ds:List D} {vs:List V} (t:Reps K H F ds vs) (lo hi:Option Int):Reps K H F (cut ds lo hi) (cutV vs lo hi):=t.cut lo hi
theorem sl_ok (fz:Bool):SlR X (rSlc X.K fz):=by
 intro pins s σ H x v vl vu lo hi sl Q I rx hs pl pu h
 obtain ⟨F,G,a,r,ra,h⟩:=h
 generalize ea:view G a=va at h
 unfold opSlc at h
 split at h
 ·obtain ⟨p,vs,e,q,t⟩:=Rep.list r ra ea
  subst e
  exact sl_list pins s σ H _ v vl vu lo hi sl Q I rx hs pl pu ⟨p,vs,rfl,q,mk_ok h r (cut_cutV t lo hi)⟩
 ·rename_i ns
  have ea':a=.scr ns:=by
   cases a with
   | ref p=>
    unfold view at ea
    cases g:G p with
    | none=>simp only [g] at ea; cases ea
    | some o=>cases o; simp only [g] at ea; cases ea
   | _=>exact ea
  subst ea'
  obtain ⟨p,e,q⟩:=ra
  subst e
  refine sl_list pins s σ H _ v vl vu lo hi sl Q I rx hs pl pu ⟨p,_,rfl,q.sq,mk_ok h r ?_⟩
  have e2:cutV (ns.map V.int) lo hi=(cut ns lo hi).map V.int:=by
   unfold cutV cut
   rw [List.length_map,List.map_take,List.map_drop]
  rw [e2]
  exact reps_ints (cut ns lo hi)
 ·cases view_tup ea
  obtain ⟨p,vs,e,q,t⟩:=id ra
  subst e
  by_cases hw:HT.sIx vs.length 0 lo=0∧HT.sIx vs.length vs.length hi=vs.length
  ·refine sl_tupW pins s σ H _ v vl vu lo hi sl Q I rx hs pl pu ⟨p,vs,rfl,q.sq,hw,?_⟩
   refine h.now r ?_
   rename_i ds
   have:cut ds lo hi=ds:=by
    unfold cut
    rw [t.length,hw.1,hw.2]
    simp [← t.length]
   rw [this]
   exact ra
  ·exact sl_tup pins s σ H _ v vl vu lo hi sl Q I rx hs pl pu ⟨p,vs,rfl,q.sq,hw,tup_ok h r (cut_cutV t lo hi)⟩
 ·cases view_str ea
  obtain ⟨e,hl⟩:=ra
  subst e
  refine sl_str pins s σ H _ v vl vu lo hi sl Q I rx hs pl pu ⟨_,rfl,by rw [tx_len]; exact le_szl hl,?_⟩
  rw [slice_tx]
  exact h.now r ⟨rfl,Nat.le_trans (cut_length _ _ _) hl⟩
 ·exact h.elim
theorem tru_D {K:PySem.W.Frag} {H:Hp} {F:FZ} {G:DH} {d:D} {v:V} {b:Bool} (r:R K H F G) (h:Rep K H F d v) (e:truth (view G d)=some b):TruV K v H b:=by
 have h':=rep_view r h
 generalize view G d=w at e h'
 cases w with
 | non=>have e1:v=.non:=h'; subst e1; simp only [truth,Option.some.injEq] at e; exact e.symm
 | bl x=>have e1:v=.bl x:=h'; subst e1; simp only [truth,Option.some.injEq] at e; exact e.symm
 | int i=>have e1:v=.int i:=h'; subst e1; simp only [truth,Option.some.injEq] at e; exact e.symm
 | str l=>
  obtain ⟨e1,hl⟩:=h'
  subst e1
  simp only [truth,Option.some.injEq] at e
  refine ⟨by rw [tx_len]; exact le_szl hl,?_⟩
  rw [tx_len,← e]
  cases l with
  | nil=>rfl
  | cons c l=>simp; omega
 | tup l=>
  obtain ⟨a,vs,e1,q,t⟩:=h'
  subst e1
  simp only [truth,Option.some.injEq] at e
  refine .inr (.inl ⟨vs,q.sq,?_⟩)
  rw [← e]
  cases l with
  | nil=>have t:vs=[]:=t; subst t; rfl
  | cons c l=>obtain ⟨_,_,e2,_⟩:=t; subst e2; rfl
 | lst l=>
  obtain ⟨a,vs,e1,q,t⟩:=h'
  subst e1
  simp only [truth,Option.some.injEq] at e
  refine .inl ⟨vs,q.sq,?_⟩
  rw [← e]
  cases l with
  | nil=>have t:vs=[]:=t; subst t; rfl
  | cons c l=>obtain ⟨_,_,e2,_⟩:=t; subst e2; rfl
 | ref a=>simp [truth] at e
 | scr a=>simp [truth] at e
theorem bools_reps {K:PySem.W.Frag} {H:Hp} {F:FZ}:∀ {ds:List D} {vs:List V} {bs:List Bool},bools ds=some bs→Reps K H F ds vs→vs=bs.map V.bl
 | [],_,bs,e,h=>by
  simp only [bools,Option.some.injEq] at e
  subst e
  exact h
 | d::ds,_,bs,e,⟨v,w,e1,h,t⟩=>by
  cases d with
  | bl b=>
   simp only [bools] at e
   cases q:bools ds with
   | none=>rw [q] at e; cases e
   | some s=>
    rw [q] at e
    cases e
    have hv:v=.bl b:=h
    rw [e1,hv,bools_reps q t]; rfl
  | _=>simp [bools] at e
theorem one_rep {K:PySem.W.Frag} {H:Hp} {F:FZ} {d:D} {vs:List V} (t:Reps K H F [d] vs):∃ v,vs=[v]∧Rep K H F d v:=by
 obtain ⟨v,r,e,h,t⟩:=t
 have t:r=[]:=t
 subst t
 exact ⟨v,e,h⟩
def rBuilt (K:PySem.W.Frag) (f:Bf):List V→Hp→VK→Prop:=fun vs H Q=>∃ F G ds,R K H F G∧Reps K H F ds vs∧opB f (ds.map (view G)) (fun d=>PV K H F Q d G)
theorem map_one {G:DH} {ds:List D} {x:D} (h:ds.map (view G)=[x]):∃ d,ds=[d]∧view G d=x:=by
 match ds,h with
 | [d],h=>exact ⟨d,rfl,by simpa using h⟩
theorem b_len:CallR X (.builtin "len") (rBuilt X.K .len):=by
 intro pins s σ H xs us Q I rs h
 obtain ⟨F,G,ds,r,t,h⟩:=h
 generalize ea:ds.map (view G)=va at h
 simp only [opB,opLen] at h
 split at h
 ·obtain ⟨d,rfl,ev⟩:=map_one ea
  obtain ⟨v,rfl,rv⟩:=one_rep t
  obtain ⟨a,vs,e,q,t'⟩:=Rep.list r rv ev
  subst e
  exact call_len_seq pins s σ H _ us Q I rs ⟨a,vs,rfl,.inl q,by rw [← t'.length]; exact h.now r rfl⟩
 ·obtain ⟨d,rfl,ev⟩:=map_one ea
  obtain ⟨v,rfl,rv⟩:=one_rep t
  cases view_tup ev
  obtain ⟨a,vs,e,q,t'⟩:=rv
  subst e
  exact call_len_seq pins s σ H _ us Q I rs ⟨a,vs,rfl,.inr q.sq,by rw [← t'.length]; exact h.now r rfl⟩
 ·obtain ⟨d,rfl,ev⟩:=map_one ea
  obtain ⟨v,rfl,rv⟩:=one_rep t
  cases view_str ev
  obtain ⟨e,hl⟩:=rv
  subst e
  exact call_len_str pins s σ H _ us Q I rs ⟨_,rfl,by rw [tx_len]; exact le_szl hl,by rw [tx_len]; exact h.now r rfl⟩
 ·exact h.elim
theorem b_all (hc:X.calm=true):CallR X (.builtin "all") (rBuilt X.K .all):=by
 intro pins s σ H xs us Q I rs h
 obtain ⟨F,G,ds,r,t,h⟩:=h
 generalize ea:ds.map (view G)=va at h
 simp only [opB,opAll] at h
 split at h
 ·obtain ⟨d,rfl,ev⟩:=map_one ea
  obtain ⟨v,rfl,rv⟩:=one_rep t
  obtain ⟨a,vs,e,q,t'⟩:=Rep.list r rv ev
  subst e
  split at h
  ·rename_i bs hb
   have e2:=bools_reps hb t'
   subst e2
   exact call_all hc pins s σ H _ us Q I rs ⟨a,bs,rfl,q,h.now r rfl⟩
  ·exact h.elim
 ·exact h.elim
theorem b_int:CallR X (.type "int") (rBuilt X.K .int):=by
 intro pins s σ H xs us Q I rs h
 obtain ⟨F,G,ds,r,t,h⟩:=h
 generalize ea:ds.map (view G)=va at h
 simp only [opB,opInt] at h
 split at h
 ·obtain ⟨d,rfl,ev⟩:=map_one ea
  obtain ⟨v,rfl,rv⟩:=one_rep t
  cases view_bl ev
  have e:v=.bl _:=rv
  subst e
  exact call_int1 pins s σ H _ us Q I rs (.inr ⟨_,rfl,h.now r rfl⟩)
 ·obtain ⟨d,rfl,ev⟩:=map_one ea
  obtain ⟨v,rfl,rv⟩:=one_rep t
  cases view_int ev
  have e:v=.int _:=rv
  subst e
  exact call_int1 pins s σ H _ us Q I rs (.inl ⟨_,rfl,h.now r rfl⟩)
 ·obtain ⟨d,rfl,ev⟩:=map_one ea
  obtain ⟨v,rfl,rv⟩:=one_rep t
  cases view_str ev
  obtain ⟨e,hl⟩:=rv
  subst e
  split at h
  ·rename_i n hn
   exact call_int_text pins s σ H _ us Q I rs ⟨_,n,rfl,hn,by rw [tx_len]; exact h.1,h.2.now r rfl⟩
  ·exact h.elim
 ·exact h.elim
theorem b_tuple:CallR X (.type "tuple") (rBuilt X.K .tuple):=by
 intro pins s σ H xs us Q I rs h
 obtain ⟨F,G,ds,r,t,h⟩:=h
 generalize ea:ds.map (view G)=va at h
 simp only [opB,opTuple] at h
 split at h
 ·obtain ⟨d,rfl,ev⟩:=map_one ea
  obtain ⟨v,rfl,rv⟩:=one_rep t
  obtain ⟨a,vs,e,q,t'⟩:=Rep.list r rv ev
  subst e
  exact call_tuple_of pins s σ H _ us Q I rs ⟨a,vs,rfl,.inl ⟨q,tup_ok h r t'⟩⟩
 ·obtain ⟨d,rfl,ev⟩:=map_one ea
  obtain ⟨v,rfl,rv⟩:=one_rep t
  cases view_tup ev
  obtain ⟨a,vs,e,q,t'⟩:=id rv
  subst e
  exact call_tuple_of pins s σ H _ us Q I rs ⟨a,vs,rfl,.inr ⟨q.sq,h.now r rv⟩⟩
 ·exact h.elim
def rBuiltL (K:PySem.W.Frag) (fz:Bool) (f:Lf):List V→Hp→VK→Prop:=fun vs H Q=>∃ F G ds,R K H F G∧Reps K H F ds vs∧opBL f (ds.map (view G)) (fun xs=>mk fz xs G (PV K H F Q))
theorem signs_vals (l:List Nat):∀ (us:List Value),us.length=l.length→(∀ (j:Nat) (v:Value),us[j]?=some v→∃ (c:Nat) (u:Tok),l[j]?=some c∧v=Value.str ⟨#[c]⟩ u)→Vals (l.map fun c=>V.str (tx [c])) us:=by
 induction l with
 | nil=>intro us h _; cases us with | nil=>exact .nil | cons _ _=>cases h
 | cons c l ih=>
  intro us h q
  cases us with
  | nil=>cases h
  | cons u us=>
   obtain ⟨c',t,e1,e2⟩:=q 0 u (by simp)
   have e1:c=c':=by simpa using e1
   subst e1
   exact .cons ⟨t,e2⟩ (ih us (by simpa using h) fun j v hv=>by simpa using q (j + 1) v (by simpa using hv))
theorem call_list_tx (hc:X.calm=true):CallR X (.type "list") (fun xs H Q=>∃ l:List Nat,xs=[.str (tx l)]∧l.length≤sizeLine∧∀ p,H p=none→Q (.ref p) (upd H p (.lst (l.map fun c=>V.str (tx [c]))))):=by
 intro pins s σ H xs us Q I r h
 obtain ⟨l,rfl,hz,q⟩:=h
 obtain ⟨u,rfl,t,rfl⟩:=vals1 r
 have hz':(tx l).cps.size≤sizeLine:=by simpa using hz
 refine call_list_str (hn:=hz') (I.ok.hd hc) (tx l) t fun h' tk acc' c' kp e hi=>?_
 have hv:Vals (l.map fun c=>V.str (tx [c])) acc'.toList:=by
  refine signs_vals l _ ?_ fun j v hv=>?_
  ·rw [Array.length_toList,hi.1]; simp
  ·obtain ⟨c,u,e1,e2⟩:=hi.2 j v (by rw [← Array.getElem?_toList]; exact hv)
   exact ⟨c,u,by simpa using e1,e2⟩
 exact ⟨.ref s.heap.objs.size,_,I.laid (t':=tk) kp (Nat.le_refl _) (show ObjOk X.prog X.w _ h' _ (.lst _) from ⟨by rw [List.length_map]; exact hz,acc'.toList,c',hv,by rw [Array.toArray_toList]; exact e⟩),rfl,q _ (I.hok.fresh (Nat.le_refl _))⟩
theorem reps_signs {K:PySem.W.Frag} {H:Hp} {F:FZ}:∀ l:List Nat,Reps K H F (l.map fun c=>D.str [c]) (l.map fun c=>V.str (tx [c]))
 | []=>rfl
 | c::l=>⟨_,_,rfl,⟨rfl,by show 1≤sz; decide⟩,reps_signs l⟩
theorem b_list (hc:X.calm=true) (fz:Bool):CallR X (.type "list") (rBuiltL X.K fz .list):=by
 intro pins s σ H xs us Q I rs h
 obtain ⟨F,G,ds,r,t,h⟩:=h
 generalize ea:ds.map (view G)=va at h
 simp only [opBL,opList] at h
 split at h
 ·obtain ⟨d,rfl,ev⟩:=map_one ea
  obtain ⟨v,rfl,rv⟩:=one_rep t
  obtain ⟨a,vs,e,q,t'⟩:=Rep.list r rv ev
  subst e
  exact call_list_of pins s σ H _ us Q I rs ⟨a,vs,rfl,.inl q,mk_ok h r t'⟩
 ·obtain ⟨d,rfl,ev⟩:=map_one ea
  obtain ⟨v,rfl,rv⟩:=one_rep t
  cases view_tup ev
  obtain ⟨a,vs,e,q,t'⟩:=id rv
  subst e
  exact call_list_of pins s σ H _ us Q I rs ⟨a,vs,rfl,.inr q.sq,mk_ok h r t'⟩
 ·obtain ⟨d,rfl,ev⟩:=map_one ea
  obtain ⟨v,rfl,rv⟩:=one_rep t
  cases view_str ev
  obtain ⟨e,hl⟩:=rv
  subst e
  exact call_list_tx hc pins s σ H _ us Q I rs ⟨_,rfl,le_szl hl,mk_ok h r (reps_signs _)⟩
 ·exact h.elim
theorem strs_reps {K:PySem.W.Frag} {H:Hp} {F:FZ}:∀ {ds:List D} {vs:List V} {ls:List (List Nat)},dStrs ds=some ls→Reps K H F ds vs→vs=(ls.map tx).map V.str
 | [],_,bs,e,h=>by
  simp only [dStrs,Option.some.injEq] at e
  subst e
  exact h
 | d::ds,_,bs,e,⟨v,w,e1,h,t⟩=>by
  cases d with
  | str b=>
   simp only [dStrs] at e
   cases q:dStrs ds with
   | none=>rw [q] at e; cases e
   | some s=>
    rw [q] at e
    cases e
    obtain ⟨hv,_⟩:=h
    rw [e1,hv,strs_reps q t]; rfl
  | _=>simp [dStrs] at e
section
variable {prog:Program} {w:World} {A:Around} {E:Value→Shared→Prop} {s:Shared} {l:Addr}
end
theorem strs_ne {ds:List D} {ls:List (List Nat)} (h0:dInts ds=none) (h1:dStrs ds=some ls):ls≠[]:=by
 rintro rfl
 cases ds with
 | nil=>simp [dInts] at h0
 | cons x y=>cases x <;> simp only [dStrs] at h1 <;> first | (cases h1; done) | (cases hd:dStrs y <;> rw [hd] at h1 <;> cases h1)
theorem map_two {G:DH} {ds:List D} {x y:D} (h:ds.map (view G)=[x,y]):∃ d e,ds=[d,e]∧view G d=x∧view G e=y:=by
 cases ds with
 | nil=>cases h
 | cons d ds=>
  cases ds with
  | nil=>cases h
  | cons e ds=>
   cases ds with
   | nil=>cases h; exact ⟨d,e,rfl,rfl,rfl⟩
   | cons _ _=>cases h
theorem b_max (hc:X.calm=true):CallR X (.builtin "max") (rBuilt X.K .max):=by
 intro pins s σ H xs us Q I rs h
 obtain ⟨F,G,ds,r,t,h⟩:=h
 generalize ea:ds.map (view G)=va at h
 simp only [opB,opMax] at h
 split at h
 ·rename_i a b
  obtain ⟨d,e,rfl,ev,ew⟩:=map_two ea
  obtain ⟨v,vs',e1,h1,t⟩:=t
  obtain ⟨v',vs'',e2,h2,t⟩:=t
  have t:vs''=[]:=t
  have q1:=rep_view r h1
  have q2:=rep_view r h2
  rw [ev] at q1
  rw [ew] at q2
  have q1:v=.int a:=q1
  have q2:v'=.int b:=q2
  subst t e2 e1 q1 q2
  obtain ⟨u,u',rfl,ru,ru'⟩:=vals2 rs
  obtain ⟨t1,rfl⟩:=ru
  obtain ⟨t2,rfl⟩:=ru'
  refine PySem.max_two_ints (I.ok.hd hc) fun h' tk hk=>⟨.int (if b > a then b else a),H,I.kept hk,?_,h.now r rfl⟩
  split
  ·exact ⟨t2,rfl⟩
  ·exact ⟨t1,rfl⟩
 ·exact h.elim
theorem boot_max':bootBuiltins "max"=some (.builtin "max"):=by decide +kernel
def kindN:D→Option String
 | .non=>some "NoneType"
 | .bl _=>some "bool"
 | .int _=>some "int"
 | .str _=>some "str"
 | .tup _=>some "tuple"
 | .lst _=>some "list"
 | _=>none
theorem ty_D {K:PySem.W.Frag} {H:Hp} {F:FZ} {G:DH} {d:D} {v:V} {T:String} (r:R K H F G) (h:Rep K H F d v) (e:kindN (view G d)=some T):TyOf K H v (.type T):=by
 have h':=rep_view r h
 generalize view G d=w at e h'
 cases w with
 | non=>have e1:v=.non:=h'; subst e1; simp only [kindN,Option.some.injEq] at e; subst e; exact .non
 | bl x=>have e1:v=.bl x:=h'; subst e1; simp only [kindN,Option.some.injEq] at e; subst e; exact .bl x
 | int i=>have e1:v=.int i:=h'; subst e1; simp only [kindN,Option.some.injEq] at e; subst e; exact .int i
 | str l=>obtain ⟨e1,hl⟩:=h'; subst e1; simp only [kindN,Option.some.injEq] at e; subst e; exact .str _
 | tup l=>obtain ⟨a,vs,e1,q,t⟩:=h'; subst e1; simp only [kindN,Option.some.injEq] at e; subst e; exact .tup q.it
 | lst l=>obtain ⟨a,vs,e1,q,t⟩:=h'; subst e1; simp only [kindN,Option.some.injEq] at e; subst e; exact .lst q.2
 | ref a=>simp [kindN] at e
 | scr a=>simp [kindN] at e
def Kits (K:PySem.W.Frag):Prop:=∀ T t:String,T∈["NoneType","bool","int","str","tuple","list"]→goodT t=true→PySem.W.kitOne K (.type T) (.type t)=some (T==t || (T=="bool" && t=="int"))
theorem kits {K:PySem.W.Frag}:Kits K:=by
 intro T t hT ht
 simp only [List.mem_cons,List.not_mem_nil,or_false] at hT
 simp only [goodT,Bool.or_eq_true,beq_iff_eq] at ht
 rcases hT with rfl | rfl | rfl | rfl | rfl | rfl <;> rcases ht with (((rfl | rfl) | rfl) | rfl) | rfl <;> (with_unfolding_all rfl)
theorem isT_kind {d:D} {t:String} {b:Bool} (e:isT t d=some b):∃ T,kindN d=some T∧T∈["NoneType","bool","int","str","tuple","list"]∧(goodT t=true→b=(T==t || (T=="bool" && t=="int"))):=by
 have comm:∀ a b:String,(a==b)=(b==a):=fun a b=>by rw [Bool.eq_iff_iff,beq_iff_eq,beq_iff_eq]; exact ⟨Eq.symm,Eq.symm⟩
 cases d with
 | non=>
  refine ⟨"NoneType",rfl,by simp,fun ht=>?_⟩
  simp only [isT,Option.some.injEq] at e
  simp only [goodT,Bool.or_eq_true,beq_iff_eq] at ht
  subst e
  rcases ht with (((rfl | rfl) | rfl) | rfl) | rfl <;> rfl
 | bl _=>
  refine ⟨"bool",rfl,by simp,fun ht=>?_⟩
  simp only [isT,Option.some.injEq] at e
  rw [← e,comm t "bool"]; rfl
 | int _=>
  refine ⟨"int",rfl,by simp,fun ht=>?_⟩
  simp only [isT,Option.some.injEq] at e
  rw [← e,comm t "int"]; simp
 | str _=>
  refine ⟨"str",rfl,by simp,fun ht=>?_⟩
  simp only [isT,Option.some.injEq] at e
  rw [← e,comm t "str"]; simp
 | tup _=>
  refine ⟨"tuple",rfl,by simp,fun ht=>?_⟩
  simp only [isT,Option.some.injEq] at e
  rw [← e,comm t "tuple"]; simp
 | lst _=>
  refine ⟨"list",rfl,by simp,fun ht=>?_⟩
  simp only [isT,Option.some.injEq] at e
  rw [← e,comm t "list"]; simp
 | ref a=>simp [isT] at e
 | scr a=>simp [isT] at e
theorem join_tx (s:List Nat):∀ ls:List (List Nat),Str.join (tx s) (ls.map tx)=tx (joinL s ls)
 | []=>rfl
 | [x]=>rfl
 | x::y::r=>by
  have ih:=join_tx s (y::r)
  show tx x ++ tx s ++ Str.join (tx s) ((y::r).map tx)=_
  rw [ih,tx_app,tx_app]; rfl
theorem joinL_len (s:List Nat):∀ ls:List (List Nat),(joinL s ls).length≤(ls.map (·.length)).sum + ls.length * s.length
 | []=>by simp [joinL]
 | [x]=>by simp [joinL]
 | x::y::r=>by
  have ih:=joinL_len s (y::r)
  simp only [joinL,List.length_append,List.map_cons,List.sum_cons,List.length_cons] at ih ⊢
  have:(r.length + 1 + 1) * s.length=(r.length + 1) * s.length + s.length:=by rw [Nat.succ_mul]
  omega
def rMeth (K:PySem.W.Frag) (m:Mf):V→List V→Hp→VK→Prop:=fun x vs H Q=>∃ F G d ds,R K H F G∧Rep K H F d x∧Reps K H F ds vs∧opM m d ds G (PV K H F Q)
theorem m_join:MtR X "str.join" (rMeth X.K .join):=by
 intro pins s σ H x xs v us Q I rx rs h
 obtain ⟨F,G,d,ds,r,rd,t,h⟩:=h
 simp only [opM] at h
 generalize ea:ds.map (view G)=va at h
 simp only [opJoin] at h
 split at h
 ·obtain ⟨d',rfl,ev⟩:=map_one ea
  obtain ⟨v',rfl,rv⟩:=one_rep t
  obtain ⟨a,vs,e,q,t'⟩:=Rep.list r rv ev
  subst e
  obtain ⟨e1,hl⟩:=rd
  subst e1
  split at h
  ·rename_i ls hls
   have e2:=strs_reps hls t'
   subst e2
   refine mt_join pins s σ H _ _ v us Q I rx rs ⟨_,a,_,rfl,rfl,q,?_,?_⟩
   ·have hz:=h.1
    rw [List.map_map,List.length_map,tx_len,show (fun x:Str=>x.length)∘tx=fun l=>l.length from funext tx_len]
    have:sz=1000000:=rfl
    omega
   ·rw [join_tx]
    exact h.2.now r ⟨rfl,Nat.le_trans (joinL_len _ _) h.1⟩
  ·exact h.elim
 ·exact h.elim
theorem m_append:MtM X "list.append" (rMeth X.K .append):=by
 intro pins s σ H x xs v us Q I rx rs h
 obtain ⟨F,G,d,ds,r,rd,t,h⟩:=h
 simp only [opM,opAppend] at h
 split at h
 ·obtain ⟨v',rfl,rv⟩:=one_rep t
  have e1:x=.ref _:=rd
  subst e1
  split at h
  ·rename_i ds0 hg
   obtain ⟨vs,q,t'⟩:=r.lst hg
   refine mt_append pins s σ H _ _ v us Q I rx rs ⟨_,vs,v',rfl,rfl,q,?_,?_⟩
   ·rw [← t'.length]; exact Nat.lt_of_lt_of_le h.1 szl
   ·exact h.2 _ _ _ (ext_write r hg) (r.write hg (t'.append (Reps.cons rv Reps.nil))) rfl
  ·exact h.elim
 ·exact h.elim
def rInsert:V→List V→Hp→VK→Prop:=fun x vs H Q=>∃ (l:Addr) (xs:List V) (i:Int) (y:V),x=.ref l∧vs=[.int i,y]∧H l=some (.lst xs)∧xs.length < sizeLine∧0≤i∧i≤1000000∧Q .non (upd H l (.lst (xs.take i.toNat ++ y::xs.drop i.toNat)))
theorem ins_eq {its:List Value} {i:Int} {u:Value} (h:0≤i):(its.toArray.extract 0 (if i < 0 then (i + (its.toArray.size:Int)).toNat else min i.toNat its.toArray.size)).push u ++ its.toArray.extract (if i < 0 then (i + (its.toArray.size:Int)).toNat else min i.toNat its.toArray.size)=(its.take i.toNat ++ u::its.drop i.toNat).toArray:=by
 rw [if_neg (by omega),PySem.W.kl_ins_eq,List.size_toArray]
 by_cases hc:i.toNat≤its.length
 ·rw [Nat.min_eq_left hc]
 ·rw [Nat.min_eq_right (by omega),List.take_of_length_le (Nat.le_refl _),List.drop_of_length_le (Nat.le_refl _),List.take_of_length_le (by omega),List.drop_of_length_le (by omega)]
theorem fits_ix {i:Int} (h0:0≤i) (h1:i≤1000000):¬ (!Builtin.List.listFitsIndex i)=true:=by
 have:Builtin.List.listFitsIndex i=true:=by
  unfold Builtin.List.listFitsIndex
  rw [Bool.and_eq_true]
  exact ⟨decide_eq_true (by omega),decide_eq_true (by omega)⟩
 rw [this]; decide
theorem mt_insert:MtM X "list.insert" rInsert:=by
 intro pins s σ H x vs v us Q I rx rv h
 obtain ⟨l,xs,i,y,rfl,rfl,hH,hz,h0,h1,q⟩:=h
 cases rx
 cases rv with
 | cons r1 rv=>
  obtain ⟨t,rfl⟩:=r1
  obtain ⟨u,rfl,ru⟩:=L2.Vals.one rv
  obtain ⟨z,its,m,r,hl,e⟩:=I.lstM hH
  refine call_meets PySem.F.slot_list_insert ⟨_,e,rfl⟩ PySem.F.entry_list_insert (PySem.F.args_list_insert_3 _ _ _) (PySem.AutoSeq1.list_insert_list_int_val_1 l its.toArray m i t u (fits_ix h0 h1) (by rw [List.size_toArray]; omega)) ⟨e,?_⟩
  refine ⟨.non,_,I.lset (its':=its.take i.toNat ++ u::its.drop i.toNat) hH e (ins_eq h0) ((r.take _).append (.cons ru (r.drop _))) ?_,rfl,q⟩
  rw [List.length_append,List.length_cons,List.length_take,List.length_drop]; omega
theorem m_insert:MtM X "list.insert" (rMeth X.K .insert):=by
 intro pins s σ H x xs v us Q I rx rs h
 obtain ⟨F,G,d,ds,r,rd,t,h⟩:=h
 simp only [opM,opInsert] at h
 split at h
 ·rename_i i y
  obtain ⟨v1,r1,rfl,rv1,t⟩:=t
  obtain ⟨v',rfl,rv⟩:=one_rep t
  have e1:x=.ref _:=rd
  subst e1
  have e2:v1=.int i:=rv1
  subst e2
  split at h
  ·rename_i ds0 hg
   obtain ⟨h1,h2,h3,h4⟩:=h
   obtain ⟨vs,q,t'⟩:=r.lst hg
   refine mt_insert pins s σ H _ _ v us Q I rx rs ⟨_,vs,i,v',rfl,rfl,q,?_,h2,h3,?_⟩
   ·rw [← t'.length]; exact Nat.lt_of_lt_of_le h1 szl
   ·exact h4 _ _ _ (ext_write r hg) (r.write hg ((t'.take _).append (Reps.cons rv (t'.drop _)))) rfl
  ·exact h.elim
 ·exact h.elim
theorem rep_lst_H {K:PySem.W.Frag} {H:Hp} {F:FZ} {G:DH} {d:D} {v:V} {ds:List D} (r:R K H F G) (h:Rep K H F d v) (e:view G d=.lst ds):∃ a vs,v=.ref a∧H a=some (.lst vs)∧Reps K H F ds vs:=by
 cases d with
 | lst xs=>
  have e':D.lst xs=.lst ds:=e
  cases e'
  obtain ⟨a,vs,e1,q,t⟩:=h
  exact ⟨a,vs,e1,q.2,t⟩
 | ref p=>
  have hv:v=.ref p:=h
  unfold view at e
  cases g:G p with
  | none=>simp only [g] at e; cases e
  | some o=>
   cases o with
   | lst xs=>
    simp only [g] at e
    cases e
    obtain ⟨vs,q,t⟩:=r.lst g
    exact ⟨p,vs,hv,q,t⟩
 | _=>cases (show _=D.lst ds from e)
theorem m_extend:MtM X "list.extend" (rMeth X.K .extend):=by
 intro pins s σ H x xs v us Q I rx rs h
 obtain ⟨F,G,d,ds,r,rd,t,h⟩:=h
 simp only [opM] at h
 generalize ea:ds.map (view G)=va at h
 simp only [opExtend] at h
 split at h
 ·obtain ⟨d',rfl,ev⟩:=map_one ea
  obtain ⟨v',rfl,rv⟩:=one_rep t
  obtain ⟨b,vs2,e2,q2,t2⟩:=rep_lst_H r rv ev
  subst e2
  have e1:x=.ref _:=rd
  subst e1
  split at h
  ·rename_i ds0 hg
   obtain ⟨vs,q,t'⟩:=r.lst hg
   refine mt_extend pins s σ H _ _ v us Q I rx rs ⟨_,b,vs,vs2,rfl,rfl,q,q2,?_,?_⟩
   ·rw [← t'.length,← t2.length]; exact Nat.le_of_lt (Nat.lt_of_lt_of_le h.1 szl)
   ·exact h.2 _ _ _ (ext_write r hg) (r.write hg (t'.append t2)) rfl
  ·exact h.elim
 ·exact h.elim
theorem set_ok:PSet X (fun o i x H Q=>∃ F G a b c,R X.K H F G∧Rep X.K H F a o∧Rep X.K H F b i∧Rep X.K H F c x∧opSet a b c G (fun G'=>∀ H' F',Ext H F H' F'→R X.K H' F' G'→Q H')):=by
 intro pins s σ H o i v ov iv u Q I ro ri rv h
 obtain ⟨F,G,a,b,c,r,ra,rb,rc,h⟩:=h
 unfold opSet at h
 split at h
 ·have e1:o=.ref _:=ra
  have e2:i=.int _:=rb
  subst e1; subst e2
  split at h
  ·rename_i ds hg
   obtain ⟨vs,q,t⟩:=r.lst hg
   split at h
   ·rename_i j hj
    refine set_list pins s σ H _ _ v ov iv u Q I ro ri rv ⟨_,vs,_,j,rfl,rfl,q,by rw [← t.length]; exact hj,?_⟩
    exact h _ _ (ext_write r hg) (r.write hg (t.set rc j))
   ·exact h.elim
  ·exact h.elim
 ·exact h.elim
theorem aug_ok (op:Operator):PIp X op (fun x y H Q=>∃ F G a b,R X.K H F G∧Rep X.K H F a x∧Rep X.K H F b y∧opAug op a b (fun d=>PV X.K H F Q d G)):=by
 intro pins s σ H x y v u Q I rx ry h
 obtain ⟨F,G,a,b,r,ra,rb,h⟩:=h
 unfold opAug at h
 split at h
 ·have e1:x=.int _:=ra
  have e2:y=.int _:=rb
  subst e1; subst e2
  exact iop_add pins s σ H _ _ v u Q I rx ry ⟨_,_,rfl,rfl,h.now r rfl⟩
 ·obtain ⟨e1,l1⟩:=ra
  obtain ⟨e2,l2⟩:=rb
  subst e1; subst e2
  refine iop_add_str pins s σ H _ _ v u Q I rx ry ⟨_,_,rfl,rfl,by rw [tx_len,tx_len]; exact le_szl h.1,?_⟩
  rw [tx_app]
  exact h.2.now r ⟨rfl,by rw [List.length_append]; exact h.1⟩
 ·have e1:x=.int _:=ra
  have e2:y=.int _:=rb
  subst e1; subst e2
  exact iop_sub pins s σ H _ _ v u Q I rx ry ⟨_,_,rfl,rfl,h.now r rfl⟩
 ·exact h.elim
end
end RF
namespace RF
open PySem PySem.Spec PyProof.Rows L2
inductive SK where
 | lst (a:Addr) | tup (a:Addr) | str (x:Str) (t:Tok)
def SK.val:SK→Value
 | .lst a=>.ref a
 | .tup a=>.ref a
 | .str x t=>.str x t
def SK.cls:SK→String
 | .lst _=>"list_iterator"
 | .tup _=>"tuple_iterator"
 | .str x _=>strIterType x
def SK.obj (k:SK):Obj:={ cls:=.type k.cls,data:=.fields #[k.val,.int 0 0] }
def SK.pos (k:SK) (it:Addr) (i:Nat) (h:Heap):Prop:=∃ o,h.get? it=some o∧o.cls=.type k.cls∧o.data=.fields #[k.val,.int i 0]
def SK.Sat (H:Hp) (vs:List V):SK→Prop
 | .lst a=>H a=some (.lst vs)
 | .tup a=>H a=some (.tup vs)
 | .str x _=>vs=x.cps.toList.map fun c=>V.str ⟨#[c]⟩
def SK.No (e:Addr):SK→Prop
 | .lst a=>a≠e
 | .tup a=>a≠e
 | .str _ _=>True
theorem SK.Sat.no {H:Hp} {vs:List V} {k:SK} {e:Addr} (h:k.Sat H vs) (he:H e=none):k.No e:=by
 cases k with
 | lst a=>exact ne_of_none (show H a=some _ from h) he
 | tup a=>exact ne_of_none (show H a=some _ from h) he
 | str x t=>trivial
def SK.On (its:Array Value) (h:Heap):SK→Prop
 | .lst a=>h.IsList a its
 | .tup a=>h.IsTuple a its
 | .str _ _=>True
theorem SK.On.keeps {its:Array Value} {h h':Heap} {k:SK} (x:k.On its h) (kk:∀ b o,k.val=.ref b→h.get? b=some o→h'.get? b=some o):k.On its h':=by
 cases k with
 | lst a=>obtain ⟨o,e,r⟩:=x; exact ⟨o,kk a o rfl e,r⟩
 | tup a=>obtain ⟨o,e,r⟩:=x; exact ⟨o,kk a o rfl e,r⟩
 | str _ _=>trivial
section
variable {prog:Program} {w:World} {A:Around} {E:Value→Shared→Prop} {s:Shared}
theorem SK.iter {k:SK} {its:Array Value} {Q:Value→Shared→Prop} (h:k.On its s.heap) (q:Q (.ref s.heap.objs.size) { s with heap:=s.heap.push k.obj }):wpAny (model prog w) A (pyIter k.val) Q E s:=by
 cases k with
 | lst a=>exact wpAny_pyIter_list h q
 | tup a=>exact wpAny_pyIter_tuple h q
 | str x t=>exact wpAny_pyIter_strU q
theorem SK.pos0 {k:SK} {h:Heap}:k.pos h.objs.size 0 (h.push k.obj):=⟨_,Heap.get?_push_size _ rfl,rfl,rfl⟩
theorem SK.pos.keep {k:SK} {it:Addr} {i:Nat} {h h':Heap} (x:k.pos it i h) (kk:∀ o,h.get? it=some o→h'.get? it=some o):k.pos it i h':=let ⟨o,e,r⟩:=x; ⟨o,kk o e,r⟩
theorem nextOf_tuple_item {it t:Addr} {i:Nat} {items} {x:Value} {Q:Value→Shared→Prop} (hit:s.heap.IsTupleIter it t i)
  (ht:s.heap.IsTuple t items) (hx:items[i]?=some x)
  (hQ:∀ h',h'.IsTupleIter it t (i + 1)→Heap.SameBut it s.heap h'→Q x { s with heap:=h' }):
  wpAny (model prog w) A (Builtin.SmallTypes.nextOf (.ref it)) Q E s:=by
 obtain ⟨o,ho,hc,hd⟩:=id hit
 obtain ⟨ol,hol,_,nl,hdl⟩:=ht
 unfold Builtin.SmallTypes.nextOf
 refine wpAny_bind (wpAny_callSpecial?_slot (name:=Str.ofString "__next__") hit.typeIs F.slot_tuple_iterator_next
  (wpAny_call_entry F.slot_tuple_iterator_next hit.typeIs F.entry_tuple_iterator_next ?_ (F.args_tuple_iterator_next_1 _)))
 show wpAny _ _ (field (.ref it) 0 >>= _) _ _ s
 refine wpAny_bind (wpAny_field ho hd (x:=.ref t) rfl ?_)
 show wpAny _ _ (if (Value.ref t==Value.none)=true then _ else _) _ _ s
 rw [if_neg (show ¬ ((Value.ref t==Value.none)=true) from Bool.false_ne_true)]
 show wpAny _ _ (field (.ref it) 1 >>= _) _ _ s
 refine wpAny_bind (wpAny_field ho hd (x:=.int i 0) rfl ?_)
 show wpAny _ _ (seqItems? (.ref t) >>= _) _ _ s
 refine wpAny_bind (wpAny_seqItems hol hdl ?_)
 simp only [Int.toNat_natCast,hx]
 refine wpAny_bind (wpAny_setField ho hd (by simp) (wpAny_pure ⟨x,rfl,wpAny_pure (hQ _ ?_ (Heap.SameBut.update ..))⟩))
 exact ⟨_,Heap.get?_update_self _ ho (Obj.isFreed_of_fields (Obj.data_mapFields hd _)),(Obj.cls_mapFields ..).trans hc,by
  rw [Obj.data_mapFields hd]; simp [rawInt]⟩
theorem nextOf_tuple_end {it t:Addr} {i:Nat} {items} {Q:Value→Shared→Prop} (hh:A.handled=none)
  (hit:s.heap.IsTupleIter it t i) (ht:s.heap.IsTuple t items) (hx:items[i]?=none)
  (hE:∀ h' e,Heap.ExtBut it s.heap h'→(∃ o,h'.get? e=some o∧o.cls=.type "StopIteration")→E (.ref e) { s with heap:=h' }):
  wpAny (model prog w) A (Builtin.SmallTypes.nextOf (.ref it)) Q E s:=by
 obtain ⟨o,ho,hc,hd⟩:=id hit
 obtain ⟨ol,hol,_,nl,hdl⟩:=ht
 unfold Builtin.SmallTypes.nextOf
 refine wpAny_bind (wpAny_callSpecial?_slot (name:=Str.ofString "__next__") hit.typeIs F.slot_tuple_iterator_next
  (wpAny_call_entry F.slot_tuple_iterator_next hit.typeIs F.entry_tuple_iterator_next ?_ (F.args_tuple_iterator_next_1 _)))
 show wpAny _ _ (field (.ref it) 0 >>= _) _ _ s
 refine wpAny_bind (wpAny_field ho hd (x:=.ref t) rfl ?_)
 show wpAny _ _ (if (Value.ref t==Value.none)=true then _ else _) _ _ s
 rw [if_neg (show ¬ ((Value.ref t==Value.none)=true) from Bool.false_ne_true)]
 show wpAny _ _ (field (.ref it) 1 >>= _) _ _ s
 refine wpAny_bind (wpAny_field ho hd (x:=.int i 0) rfl ?_)
 show wpAny _ _ (seqItems? (.ref t) >>= _) _ _ s
 refine wpAny_bind (wpAny_seqItems hol hdl ?_)
 simp only [Int.toNat_natCast,hx]
 refine wpAny_bind (wpAny_rule (wpAny_bind (wpAny_setField ho hd (by simp) ?_)))
 show wpAny _ _ (newExc (.type "StopIteration") [] >>= _) _ _ _
 refine wpAny_bind ?_
 simp only [newExc,newTuple]
 refine wpAny_bind (wpAny_newObj_type ?_ (by size_fits))
 refine wpAny_bind (m:=firstArgMember _ _) (wpAny_of_eq (a:=Value.none) (by first | rfl | (simp only [firstArgMember]; rfl)) ?_)
 refine wpAny_newObj_type ?_ (by size_fits)
 simp only [raiseNew]
 refine wpAny_bind (wpAny_handled ?_)
 first | rw [show A.in1.handled=none from hh] | rw [hh]
 refine wpAny_bind (wpAny_pure (wpAny_throw ?_))
 exact hE _ _ (((Heap.SameBut.update ..).extBut.push _).push _) ⟨_,Heap.get?_push_size _ rfl,rfl⟩
theorem draws_tuple (hh:A.handled=none) (it l:Addr) (hne:l≠it) (items:Array Value):
  Draws prog w A it [it,l] items.size (fun i v=>items[i]?=some v) (fun i h=>h.IsTupleIter it l i∧h.IsTuple l items) where
 live:=fun _ _ st=>let ⟨o,ho,_⟩:=st.1; ⟨o,ho⟩
 frame:=fun _ _ _ st hk=>⟨let ⟨o,e,r⟩:=st.1; ⟨o,hk it (by simp) o e,r⟩,let ⟨o,e,r⟩:=st.2; ⟨o,hk l (by simp) o e,r⟩⟩
 item:=fun i s Q E hi st hQ=>by
  refine nextOf_tuple_item st.1 st.2 (x:=items[i]) (by simp [hi]) fun h' hit' hs'=>?_
  exact hQ _ h' s.toks (by simp [hi]) ⟨hit',let ⟨o,e,r⟩:=st.2; ⟨o,hs'.extBut l o hne e,r⟩⟩ hs'
 done:=fun s Q E st hE=>nextOf_tuple_end hh st.1 st.2 (by simp) hE
end
structure Drawn (P:Program) (w:World) (A:Around) (k:SK) (it:Addr) (i:Nat) (vs:List V) (h:Heap) (fp:List Addr) (Pd:Nat→Value→Prop) (S:Nat→Heap→Prop):Prop where
 D:Draws P w A it fp vs.length Pd S
 st:S i h
 val:∀ j v,Pd j v→∃ x,vs[j]?=some x∧RelV x v
 pos:∀ j h,S j h→k.pos it j h
 fp:∀ b∈fp,b=it∨k.val=.ref b
theorem drawn {X:Cx} {pins:List (Addr×Obj)} {σ:L2.St} {H:Hp} {s:Shared} {A:Around} (hh:A.handled=none) (I:Inv X pins σ H s) {k:SK} {it:Addr} {i:Nat} {vs:List V} (sat:k.Sat H vs) (hit:H it=none) (p:k.pos it i s.heap):
  ∃ fp Pd S,Drawn X.prog X.w A k it i vs s.heap fp Pd S:=by
 cases k with
 | lst a=>
  have sat:H a=some (.lst vs):=sat
  obtain ⟨its,r,pl,_⟩:=I.list (SqL.of sat)
  refine ⟨[it,a],fun j v=>its.toArray[j]?=some v,fun j h=>h.IsListIter it a j∧h.IsList a its.toArray,?_,⟨p,pl.isList⟩,?_,fun j h st=>st.1,?_⟩
  ·have D:=Draws.list (prog:=X.prog) (w:=X.w) hh it a (ne_of_none sat hit) its.toArray
   rw [List.size_toArray,← r.length] at D
   exact D
  ·intro j v e
   have e:its.toArray[j]?=some v:=e
   have hj:j < vs.length:=by
    rw [r.length]
    have:=(Array.getElem?_eq_some_iff.mp e).1
    simpa using this
   obtain ⟨u,e2,r2⟩:=r.get (show vs[j]?=some vs[j] by simp [hj])
   refine ⟨vs[j],by simp [hj],?_⟩
   have:its[j]?=some v:=by simpa using e
   rw [this] at e2; cases e2
   exact r2
  ·intro b hb
   have hb:b=it∨b=a:=by simpa using hb
   rcases hb with e | e
   ·exact .inl e
   ·exact .inr (by rw [e]; rfl)
 | tup a=>
  have sat:H a=some (.tup vs):=sat
  obtain ⟨its,r,pl,_⟩:=I.tuple (SqT.of sat)
  refine ⟨[it,a],fun j v=>its.toArray[j]?=some v,fun j h=>h.IsTupleIter it a j∧h.IsTuple a its.toArray,?_,⟨p,pl⟩,?_,fun j h st=>st.1,?_⟩
  ·have D:=draws_tuple (prog:=X.prog) (w:=X.w) hh it a (ne_of_none sat hit) its.toArray
   rw [List.size_toArray,← r.length] at D
   exact D
  ·intro j v e
   have e:its.toArray[j]?=some v:=e
   have hj:j < vs.length:=by
    rw [r.length]
    have:=(Array.getElem?_eq_some_iff.mp e).1
    simpa using this
   obtain ⟨u,e2,r2⟩:=r.get (show vs[j]?=some vs[j] by simp [hj])
   refine ⟨vs[j],by simp [hj],?_⟩
   have:its[j]?=some v:=by simpa using e
   rw [this] at e2; cases e2
   exact r2
  ·intro b hb
   have hb:b=it∨b=a:=by simpa using hb
   rcases hb with e | e
   ·exact .inl e
   ·exact .inr (by rw [e]; rfl)
 | str x t=>
  have sat:vs=x.cps.toList.map fun c=>V.str ⟨#[c]⟩:=sat
  refine ⟨[it],fun i v=>∃ c u,x.cps[i]?=some c∧v=.str ⟨#[c]⟩ u,fun i h=>h.IsStrIter it (strIterType x) x t i,?_,p,?_,fun j h st=>st,?_⟩
  ·have D:=draws_str (prog:=X.prog) (w:=X.w) hh it x t
   have e:x.cps.size=vs.length:=by rw [sat,List.length_map,Array.length_toList]
   rw [e] at D
   exact D
  ·rintro j v ⟨c,u,e1,e2⟩
   refine ⟨V.str ⟨#[c]⟩,?_,u,e2⟩
   rw [sat,List.getElem?_map,Array.getElem?_toList,e1]; rfl
  ·intro b hb
   exact .inl (by simpa using hb)
def Jk (k:SK):It:=⟨fun i H=>∃ vs,k.Sat H vs∧i < vs.length,fun i H x H'=>H'=H∧∀ vs,k.Sat H vs→vs[i]?=some x,fun i H=>∃ vs,k.Sat H vs∧vs.length=i⟩
def Je (k:SK):It:=⟨fun i H=>∃ vs,k.Sat H vs∧i < vs.length,fun i H x H'=>∃ T y,H T=none∧x=.ref T∧H'=upd H T (.tup [.int i,y])∧∀ vs,k.Sat H vs→vs[i]?=some y,fun i H=>∃ vs,k.Sat H vs∧vs.length=i⟩
theorem sat_inj {H:Hp} {k:SK} {vs ws:List V} (h:k.Sat H vs) (h':k.Sat H ws):vs=ws:=by
 cases k with
 | lst a=>have e:=(show H a=some _ from h).symm.trans h'; cases e; rfl
 | tup a=>have e:=(show H a=some _ from h).symm.trans h'; cases e; rfl
 | str x t=>exact (show vs=_ from h).trans (show ws=_ from h').symm
theorem turn_en {P:Program} {w:World} {K:PySem.W.Frag} {elts:List Expr} {x1:Nat} {pos:Pos} (k:SK) (e it:Addr) (hne:e≠it):
  Turn P w K (.Tuple elts x1 pos) (Je k) [e,it] e (fun i h=>(∃ old,IsEnum h e it i old)∧k.pos it i h) where
 mem:=by simp
 obj:=fun i h st b hb=>by
  obtain ⟨⟨old,he⟩,o,ho,c,d⟩:=st
  have hb:b=e∨b=it:=by simpa using hb
  rcases hb with rfl | rfl
  ·exact ⟨_,he,fun v z=>by have z':Data.fields _=Data.cell v:=z; cases z'⟩
  ·exact ⟨o,ho,fun v z=>by rw [d] at z; cases z⟩
 keep:=fun i h h' st kk=>⟨let ⟨old,he⟩:=st.1; ⟨old,kk e (by simp) _ he⟩,st.2.keep fun o ho=>kk it (by simp) o ho⟩
 item:=by
  intro X hP hw hK hc i pins s σ H E I hf st hg
  subst hP hw hK
  obtain ⟨vs,sat,hi⟩:=hg
  obtain ⟨⟨old,he⟩,hit⟩:=st
  have hfe:=hf e (by simp)
  have hfi:=hf it (by simp)
  obtain ⟨fp,Pd,S,Dr⟩:=drawn (A:=X.A.in1) (I.ok.hd hc) I sat hfi.1 hit
  have helt:e < s.heap.objs.size:=Heap.lt_size he
  have hef:e∉fp:=fun hb=>by
   rcases Dr.fp e hb with z | z
   ·exact hne z
   ·have:=sat.no hfe.1
    cases k with
    | lst a=>cases z; exact this rfl
    | tup a=>cases z; exact this rfl
    | str _ _=>cases z
  refine wpAny_pyNext_enum_itemD Dr.D he Dr.st hi hne hef fun u h1 tk hu heo hit1 ht1 hz1 hk1=>?_
  obtain ⟨x,hx,ru⟩:=Dr.val _ _ hu
  refine ⟨_,rfl,?_⟩
  refine wpAny_letOwnedTupleGo_enum heo fun h2 he2 hs2=>?_
  have hs2':Heap.SameBut e h1 h2:=hs2
  have hn:H s.heap.objs.size=none:=I.hok.fresh (Nat.le_refl _)
  have k2:∀ b o,b∉[e,it]→s.heap.get? b=some o→h2.get? b=some o:=fun b o hb q=>by
   have hb':b≠e∧b≠it:=by simpa using hb
   exact hs2'.extBut b o hb'.1 (hk1 b o hb'.1 hb'.2 q)
  have I2:Inv X pins σ H { s with heap:=h2,toks:=tk + 1 }:=I.turnedL hf k2
  have ht2:h2.get? s.heap.objs.size=some { cls:=.type "tuple",data:=.seq #[.int i tk,u] }:=hs2'.extBut _ _ (Nat.ne_of_gt helt) ht1
  have ob:ObjOk X.prog X.w (upd H s.heap.objs.size (.tup [.int i,x])) h2 s.heap.objs.size (.tup [.int i,x]):=
   ⟨by rw [sizeLine_eq]; simp,[.int i tk,u],.cons ⟨_,rfl⟩ (.cons ru .nil),⟨_,ht2,rfl,_,rfl⟩⟩
  have I3:=I2.track (I.fpOk (Nat.le_refl _) hn) ob
  have nee:s.heap.objs.size≠e:=Nat.ne_of_gt helt
  have nei:s.heap.objs.size≠it:=by
   obtain ⟨o,ho,_⟩:=hit
   exact Nat.ne_of_gt (Heap.lt_size ho)
  refine ⟨.ref s.heap.objs.size,_,I3,rfl,⟨s.heap.objs.size,x,hn,rfl,rfl,fun ys hy=>by rw [sat_inj hy sat]; exact hx⟩,⟨⟨u,?_⟩,?_⟩,fun b hb=>?_⟩
  ·show IsEnum h2 e it (((i + 1:Nat)):Int) u
   rw [show (((i + 1:Nat):Int))=(i:Int) + 1 by omega]
   exact he2
  ·exact (Dr.pos _ _ hit1).keep fun o ho=>hs2'.extBut _ _ (Ne.symm hne) ho
  ·have hb':b=e∨b=it:=by simpa using hb
   rw [upd_ne (by rcases hb' with rfl | rfl; exact Ne.symm nee; exact Ne.symm nei)]
   exact (hf b hb).1
 done:=by
  intro X hP hw hK hc i pins s σ H E I hf st hg
  subst hP hw hK
  obtain ⟨vs,sat,hi⟩:=hg
  subst hi
  obtain ⟨⟨old,he⟩,hit⟩:=st
  have hfi:=hf it (by simp)
  obtain ⟨fp,Pd,S,Dr⟩:=drawn (A:=X.A.in1) (I.ok.hd hc) I sat hfi.1 hit
  refine wpAny_pyNext_enum_endD Dr.D he Dr.st fun h' eb=>⟨rfl,I.turnedL (t':=s.toks) hf fun b o hb q=>?_⟩
  have hb':b≠e∧b≠it:=by simpa using hb
  exact eb b o hb'.2 q
 self:=fun A i s Q E st h=>by
  obtain ⟨⟨old,he⟩,_⟩:=st
  exact wpAny_pyIter_enum he h
theorem turn_k {P:Program} {w:World} {K:PySem.W.Frag} {tg:Expr} (k:SK) (it:Addr):Turn P w K tg (Jk k) [it] it (fun i h=>k.pos it i h) where
 mem:=by simp
 obj:=fun i h st b hb=>by
  have e:b=it:=by simpa using hb
  subst e
  obtain ⟨o,e,c,d⟩:=st
  exact ⟨o,e,fun v z=>by rw [d] at z; cases z⟩
 keep:=fun i h h' st kk=>st.keep fun o e=>kk it (by simp) o e
 item:=by
  intro X hP hw hK hc i pins s σ H E I hf st hg
  obtain ⟨vs,sat,hi⟩:=hg
  have hfi:=hf it (by simp)
  cases k with
  | lst a=>
   have sat':H a=some (.lst vs):=sat
   refine wpAny_mono ((turn_list (tg:=tg) a it).item X hP hw hK hc i pins s σ H E I hf st ⟨vs,vs[i],SqL.of sat',by simp [hi]⟩) ?_ (fun _ _ e=>e)
   rintro r s1 ⟨u,hr,h1⟩
   refine ⟨u,hr,wpAny_mono h1 ?_ (fun _ _ e=>e)⟩
   rintro _ s2 ⟨x,H',I',rx,⟨e1,e2⟩,st',fr⟩
   exact ⟨x,H',I',rx,⟨e1,fun ws hw'=>e2 ws (SqL.of (show H a=some (.lst ws) from hw'))⟩,st',fr⟩
  | tup a=>
   have sat':H a=some (.tup vs):=sat
   refine wpAny_mono ((turn_tuple (tg:=tg) a it).item X hP hw hK hc i pins s σ H E I hf st ⟨vs,vs[i],SqT.of sat',by simp [hi]⟩) ?_ (fun _ _ e=>e)
   rintro r s1 ⟨u,hr,h1⟩
   refine ⟨u,hr,wpAny_mono h1 ?_ (fun _ _ e=>e)⟩
   rintro _ s2 ⟨x,H',I',rx,⟨e1,e2⟩,st',fr⟩
   exact ⟨x,H',I',rx,⟨e1,fun ws hw'=>e2 ws (SqT.of (show H a=some (.tup ws) from hw'))⟩,st',fr⟩
  | str y t=>
   have sat':vs=y.cps.toList.map fun c=>V.str ⟨#[c]⟩:=sat
   have hlen:vs.length=y.cps.size:=by rw [sat',List.length_map,Array.length_toList]
   refine wpAny_mono ((turn_str (tg:=tg) it y t).item X hP hw hK hc i pins s σ H E I hf st (show i < y.cps.size by omega)) ?_ (fun _ _ e=>e)
   rintro r s1 ⟨u,hr,h1⟩
   refine ⟨u,hr,wpAny_mono h1 ?_ (fun _ _ e=>e)⟩
   rintro _ s2 ⟨x,H',I',rx,⟨e1,c,e2,e3⟩,st',fr⟩
   refine ⟨x,H',I',rx,⟨e1,fun ws hw'=>?_⟩,st',fr⟩
   have hw':ws=y.cps.toList.map fun c=>V.str ⟨#[c]⟩:=hw'
   rw [hw',e3,List.getElem?_map,Array.getElem?_toList,e2]; rfl
 done:=by
  intro X hP hw hK hc i pins s σ H E I hf st hg
  obtain ⟨vs,sat,hi⟩:=hg
  cases k with
  | lst a=>exact (turn_list (tg:=tg) a it).done X hP hw hK hc i pins s σ H E I hf st ⟨vs,SqL.of (show H a=some (.lst vs) from sat),by omega⟩
  | tup a=>exact (turn_tuple (tg:=tg) a it).done X hP hw hK hc i pins s σ H E I hf st ⟨vs,SqT.of (show H a=some (.tup vs) from sat),by omega⟩
  | str y t=>
   have sat':vs=y.cps.toList.map fun c=>V.str ⟨#[c]⟩:=sat
   have hlen:vs.length=y.cps.size:=by rw [sat',List.length_map,Array.length_toList]
   exact (turn_str (tg:=tg) it y t).done X hP hw hK hc i pins s σ H E I hf st (show i=y.cps.size by omega)
 self:=fun A i s Q E st h=>by
  cases k with
  | lst a=>exact wpAny_pyIter_listiter st h
  | tup a=>exact wpAny_pyIter_tupleiter st h
  | str y t=>exact (turn_str (K:=K) (tg:=tg) it y t).self A i s Q E st h
end RF
namespace RF
open PySem PySem.Spec PyProof.Rows L2
open Builtin Builtin.Str
section
variable {prog:Program} {w:World} {A:Around} {E:Value→Shared→Prop} {s:Shared}
theorem zipK_next_item {z TI TO i1 i2:Addr} {k n1 n2:Nat} {fp1 fp2:List Addr} {P1 P2:Nat→Value→Prop} {S1 S2:Nat→Heap→Prop} {a b:Value} {Q:Value→Shared→Prop} (D:ZApart z TI TO i1 i2)
  (D1:Draws prog w A i1 fp1 n1 P1 S1) (D2:Draws prog w A i2 fp2 n2 P2 S2) (f1:∀ c∈fp1,c≠z∧c≠TO∧c≠i2) (f2:∀ c∈fp2,c≠z∧c≠TO∧c≠i1)
  (hz:IsZip s.heap z TI TO .none) (hTI:IsPair s.heap TI (.ref i1) (.ref i2)) (hTO:IsPair s.heap TO a b)
  (h1:S1 k s.heap) (h2:S2 k s.heap) (hx:k < n1) (hy:k < n2)
  (hQ:∀ h' tk c d,P1 k c→P2 k d→IsZip h' z TI TO (rawInt s.heap.objs.size)→IsPair h' TO c d→S1 (k + 1) h'→S2 (k + 1) h'→
   IsPair h' s.heap.objs.size c d→h'.objs.size=s.heap.objs.size + 1→
   (∀ c o,c≠z→c≠TO→c≠i1→c≠i2→s.heap.get? c=some o→h'.get? c=some o)→Q (.ref s.heap.objs.size) { s with heap:=h',toks:=tk }):
  wpAny (model prog w) A (Builtin.«zip.__next__» ⟨[.ref z],[]⟩) (fun fin s'=>∃ v,fin=.done (.ret v)∧Q v s') E s:=by
 have e1:∀ {h h':Heap} {c:Addr} {j:Nat},S1 j h→Heap.ExtBut c h h'→(∀ b∈fp1,b≠c)→S1 j h':=fun q e n=>D1.frame _ _ _ q fun b hb o y=>e b o (n b hb) y
 have e2:∀ {h h':Heap} {c:Addr} {j:Nat},S2 j h→Heap.ExtBut c h h'→(∀ b∈fp2,b≠c)→S2 j h':=fun q e n=>D2.frame _ _ _ q fun b hb o y=>e b o (n b hb) y
 have z1:∀ b∈fp1,b≠z:=fun b hb=>(f1 b hb).1
 have t1:∀ b∈fp1,b≠TO:=fun b hb=>(f1 b hb).2.1
 have j1:∀ b∈fp1,b≠i2:=fun b hb=>(f1 b hb).2.2
 have z2:∀ b∈fp2,b≠z:=fun b hb=>(f2 b hb).1
 have t2:∀ b∈fp2,b≠TO:=fun b hb=>(f2 b hb).2.1
 have j2:∀ b∈fp2,b≠i1:=fun b hb=>(f2 b hb).2.2
 show wpAny _ _ (field (.ref z) 2 >>= _) _ _ _
 refine wpAny_bind (wpAny_field hz rfl (x:=.bool false) rfl ?_)
 show wpAny _ _ (field (.ref z) 3 >>= _) _ _ _
 refine wpAny_bind (wpAny_field hz rfl (x:=.ref TI) rfl ?_)
 refine wpAny_bind (wpAny_seqItems hTI rfl ?_)
 show wpAny _ _ (Builtin.SmallTypes.ownedTupleIsFree (.ref z) >>= _) _ _ _
 refine wpAny_bind ?_
 unfold Builtin.SmallTypes.ownedTupleIsFree
 refine wpAny_bind (wpAny_field hz rfl (x:=.none) rfl (wpAny_pure ?_))
 simp only [if_true]
 refine wpAny_bind (wpAny_rule ?_)
 refine wpAny_bind (wpAny_field hz rfl (x:=.ref TO) rfl ?_)
 refine wpAny_bind (wpAny_setField_rec hz (by simp) fun h₁ hz₁ hs₁=>?_)
 replace hz₁:IsZip h₁ z TI TO .ellipsis:=hz₁
 replace hs₁:Heap.SameBut z s.heap h₁:=hs₁
 refine wpAny_bind ?_
 simp only [List.zipIdx_cons,List.zipIdx_nil,List.forIn_cons,List.forIn_nil]
 refine wpAny_bind (wpAny_bind (wpAny_onRaise ?_))
 show wpAny _ _ (Builtin.SmallTypes.nextOf (.ref i1) >>= _) _ _ _
 refine wpAny_bind (D1.item k _ _ _ hx (e1 h1 hs₁.extBut z1) fun c h₂ tk₂ hc h1₂ hs₂=>wpAny_pure ?_)
 replace hs₂:Heap.SameBut i1 h₁ h₂:=hs₂
 have hTO₂:IsPair h₂ TO a b:=hs₂.extBut _ _ D.TOi1 (hs₁.extBut _ _ D.TOz hTO)
 refine wpAny_bind (wpAny_seqItems hTO₂ rfl ?_)
 refine wpAny_bind (wpAny_updateSeq_pair hTO₂ fun h₃ hTO₃ hs₃=>?_)
 replace hTO₃:IsPair h₃ TO c b:=hTO₃
 replace hs₃:Heap.SameBut TO h₂ h₃:=hs₃
 refine wpAny_bind (wpAny_letGo (wpAny_pure ?_))
 refine wpAny_bind (wpAny_bind (wpAny_onRaise ?_))
 show wpAny _ _ (Builtin.SmallTypes.nextOf (.ref i2) >>= _) _ _ _
 refine wpAny_bind (D2.item k _ _ _ hy (e2 (e2 (e2 h2 hs₁.extBut z2) hs₂.extBut j2) hs₃.extBut t2) fun d h₄ tk₄ hd h2₄ hs₄=>wpAny_pure ?_)
 replace hs₄:Heap.SameBut i2 h₃ h₄:=hs₄
 have hTO₄:IsPair h₄ TO c b:=hs₄.extBut _ _ D.TOi2 hTO₃
 refine wpAny_bind (wpAny_seqItems hTO₄ rfl ?_)
 refine wpAny_bind (wpAny_updateSeq_pair hTO₄ fun h₅ hTO₅ hs₅=>?_)
 replace hTO₅:IsPair h₅ TO c d:=hTO₅
 replace hs₅:Heap.SameBut TO h₄ h₅:=hs₅
 refine wpAny_bind (wpAny_letGo (wpAny_pure (wpAny_pure ?_)))
 refine wpAny_bind (wpAny_seqItems hTO₅ rfl ?_)
 refine wpAny_bind (wpAny_newTuple ?_)
 have hsz:h₅.objs.size=s.heap.objs.size:=by rw [hs₅.1,hs₄.1,hs₃.1,hs₂.1,hs₁.1]
 have hz₅:IsZip h₅ z TI TO .ellipsis:=hs₅.extBut _ _ D.TOz.symm (hs₄.extBut _ _ D.i2z.symm (hs₃.extBut _ _ D.TOz.symm (hs₂.extBut _ _ D.i1z.symm hz₁)))
 have hk₅:∀ c o,c≠z→c≠TO→c≠i1→c≠i2→s.heap.get? c=some o→h₅.get? c=some o:=fun c o c1 c2 c3 c4 e=>
  hs₅.extBut _ _ c2 (hs₄.extBut _ _ c4 (hs₃.extBut _ _ c2 (hs₂.extBut _ _ c3 (hs₁.extBut _ _ c1 e))))
 have h1₅:S1 (k + 1) h₅:=e1 (e1 (e1 h1₂ hs₃.extBut t1) hs₄.extBut j1) hs₅.extBut t1
 have h2₅:S2 (k + 1) h₅:=e2 h2₄ hs₅.extBut t2
 have hzlt:z < h₅.objs.size:=Heap.lt_size hz₅
 show wpAny _ _ (Builtin.SmallTypes.ownedTupleHandOut (.ref z) (.ref h₅.objs.size) >>= _) _ _ _
 refine wpAny_bind ?_
 unfold Builtin.SmallTypes.ownedTupleHandOut
 have hz₆:IsZip (h₅.push { cls:=.type "tuple",data:=.seq #[c,d] }) z TI TO .ellipsis:=Heap.get?_push_of_some _ hz₅
 refine wpAny_bind (wpAny_setField_rec hz₆ (by simp) fun h₇ hz₇ hs₇=>?_)
 replace hz₇:IsZip h₇ z TI TO (rawInt h₅.objs.size):=hz₇
 refine wpAny_setField_rec hz₇ (by simp) fun h₈ hz₈ hs₈=>?_
 replace hz₈:IsZip h₈ z TI TO (rawInt h₅.objs.size):=hz₈
 have up:∀ c o,c≠z→h₅.get? c=some o→h₈.get? c=some o:=fun c o c1 e=>hs₈.extBut _ _ c1 (hs₇.extBut _ _ c1 (Heap.get?_push_of_some _ e))
 have hT₈:IsPair h₈ h₅.objs.size c d:=hs₈.extBut _ _ (Nat.ne_of_gt hzlt) (hs₇.extBut _ _ (Nat.ne_of_gt hzlt) (Heap.get?_push_size _ rfl))
 have hz8:h₈.objs.size=h₅.objs.size + 1:=by rw [hs₈.1,hs₇.1,Heap.size_push]
 rw [hsz] at hz₈ hT₈ hz8
 refine wpAny_pure ⟨_,rfl,?_⟩
 show Q (.ref h₅.objs.size) _
 rw [hsz]
 exact hQ h₈ tk₄ c d hc hd hz₈ (up _ _ D.TOz hTO₅) (D1.frame _ _ _ h1₅ fun b hb o y=>up b o (z1 b hb) y) (D2.frame _ _ _ h2₅ fun b hb o y=>up b o (z2 b hb) y) hT₈ hz8 fun c o c1 c2 c3 c4 e=>up c o c1 (hk₅ c o c1 c2 c3 c4 e)
theorem zipK_next_end1 {z TI TO i1 i2:Addr} {n1:Nat} {fp1:List Addr} {P1:Nat→Value→Prop} {S1:Nat→Heap→Prop} {a b:Value} {Q:Fin→Shared→Prop} (D:ZApart z TI TO i1 i2)
  (D1:Draws prog w A i1 fp1 n1 P1 S1) (f1:∀ c∈fp1,c≠z)
  (hz:IsZip s.heap z TI TO .none) (hTI:IsPair s.heap TI (.ref i1) (.ref i2)) (hTO:IsPair s.heap TO a b) (h1:S1 n1 s.heap)
  (hE:∀ h' e,(∀ c o,c≠z→c≠TO→c≠i1→c≠i2→s.heap.get? c=some o→h'.get? c=some o)→(∃ o,h'.get? e=some o∧o.cls=.type "StopIteration")→E (.ref e) { s with heap:=h' }):
  wpAny (model prog w) A (Builtin.«zip.__next__» ⟨[.ref z],[]⟩) Q E s:=by
 show wpAny _ _ (field (.ref z) 2 >>= _) _ _ _
 refine wpAny_bind (wpAny_field hz rfl (x:=.bool false) rfl ?_)
 show wpAny _ _ (field (.ref z) 3 >>= _) _ _ _
 refine wpAny_bind (wpAny_field hz rfl (x:=.ref TI) rfl ?_)
 refine wpAny_bind (wpAny_seqItems hTI rfl ?_)
 show wpAny _ _ (Builtin.SmallTypes.ownedTupleIsFree (.ref z) >>= _) _ _ _
 refine wpAny_bind ?_
 unfold Builtin.SmallTypes.ownedTupleIsFree
 refine wpAny_bind (wpAny_field hz rfl (x:=.none) rfl (wpAny_pure ?_))
 simp only [if_true]
 refine wpAny_bind (wpAny_rule ?_)
 refine wpAny_bind (wpAny_field hz rfl (x:=.ref TO) rfl ?_)
 refine wpAny_bind (wpAny_setField_rec hz (by simp) fun h₁ hz₁ hs₁=>?_)
 replace hz₁:IsZip h₁ z TI TO .ellipsis:=hz₁
 replace hs₁:Heap.SameBut z s.heap h₁:=hs₁
 refine wpAny_bind ?_
 simp only [List.zipIdx_cons,List.zipIdx_nil,List.forIn_cons,List.forIn_nil]
 refine wpAny_bind (wpAny_bind (wpAny_onRaise ?_))
 show wpAny _ _ (Builtin.SmallTypes.nextOf (.ref i1) >>= _) _ _ _
 refine wpAny_bind (D1.done _ _ _ (D1.frame _ _ _ h1 fun b hb o y=>hs₁.extBut b o (f1 b hb) y) fun h₂ e hs₂ he=>?_)
 obtain ⟨oe,hoe,hce⟩:=he
 have hz₂:IsZip h₂ z TI TO .ellipsis:=hs₂ _ _ D.i1z.symm hz₁
 have hez:e≠z:=fun x=>by subst x; rw [hz₂] at hoe; cases hoe; simp at hce
 refine wpAny_setField_rec hz₂ (by simp) fun h₃ _ hs₃=>hE h₃ e (fun c o c1 _ c3 _ x=>hs₃.extBut _ _ c1 (hs₂ _ _ c3 (hs₁.extBut _ _ c1 x))) ⟨oe,hs₃.extBut _ _ hez hoe,hce⟩
theorem zipK_next_end2 {z TI TO i1 i2:Addr} {k n1 n2:Nat} {fp1 fp2:List Addr} {P1 P2:Nat→Value→Prop} {S1 S2:Nat→Heap→Prop} {a b:Value} {Q:Fin→Shared→Prop} (D:ZApart z TI TO i1 i2)
  (D1:Draws prog w A i1 fp1 n1 P1 S1) (D2:Draws prog w A i2 fp2 n2 P2 S2) (f1:∀ c∈fp1,c≠z∧c≠TO∧c≠i2) (f2:∀ c∈fp2,c≠z∧c≠TO∧c≠i1)
  (hz:IsZip s.heap z TI TO .none) (hTI:IsPair s.heap TI (.ref i1) (.ref i2)) (hTO:IsPair s.heap TO a b) (h1:S1 k s.heap) (h2:S2 k s.heap) (hx:k < n1) (hy:k=n2)
  (hE:∀ h' tk e,(∀ c o,c≠z→c≠TO→c≠i1→c≠i2→s.heap.get? c=some o→h'.get? c=some o)→(∃ o,h'.get? e=some o∧o.cls=.type "StopIteration")→E (.ref e) { s with heap:=h',toks:=tk }):
  wpAny (model prog w) A (Builtin.«zip.__next__» ⟨[.ref z],[]⟩) Q E s:=by
 have e1:∀ {h h':Heap} {c:Addr} {j:Nat},S1 j h→Heap.ExtBut c h h'→(∀ b∈fp1,b≠c)→S1 j h':=fun q e n=>D1.frame _ _ _ q fun b hb o y=>e b o (n b hb) y
 have e2:∀ {h h':Heap} {c:Addr} {j:Nat},S2 j h→Heap.ExtBut c h h'→(∀ b∈fp2,b≠c)→S2 j h':=fun q e n=>D2.frame _ _ _ q fun b hb o y=>e b o (n b hb) y
 have z1:∀ b∈fp1,b≠z:=fun b hb=>(f1 b hb).1
 have z2:∀ b∈fp2,b≠z:=fun b hb=>(f2 b hb).1
 have t2:∀ b∈fp2,b≠TO:=fun b hb=>(f2 b hb).2.1
 have j2:∀ b∈fp2,b≠i1:=fun b hb=>(f2 b hb).2.2
 show wpAny _ _ (field (.ref z) 2 >>= _) _ _ _
 refine wpAny_bind (wpAny_field hz rfl (x:=.bool false) rfl ?_)
 show wpAny _ _ (field (.ref z) 3 >>= _) _ _ _
 refine wpAny_bind (wpAny_field hz rfl (x:=.ref TI) rfl ?_)
 refine wpAny_bind (wpAny_seqItems hTI rfl ?_)
 show wpAny _ _ (Builtin.SmallTypes.ownedTupleIsFree (.ref z) >>= _) _ _ _
 refine wpAny_bind ?_
 unfold Builtin.SmallTypes.ownedTupleIsFree
 refine wpAny_bind (wpAny_field hz rfl (x:=.none) rfl (wpAny_pure ?_))
 simp only [if_true]
 refine wpAny_bind (wpAny_rule ?_)
 refine wpAny_bind (wpAny_field hz rfl (x:=.ref TO) rfl ?_)
 refine wpAny_bind (wpAny_setField_rec hz (by simp) fun h₁ hz₁ hs₁=>?_)
 replace hz₁:IsZip h₁ z TI TO .ellipsis:=hz₁
 replace hs₁:Heap.SameBut z s.heap h₁:=hs₁
 refine wpAny_bind ?_
 simp only [List.zipIdx_cons,List.zipIdx_nil,List.forIn_cons,List.forIn_nil]
 refine wpAny_bind (wpAny_bind (wpAny_onRaise ?_))
 show wpAny _ _ (Builtin.SmallTypes.nextOf (.ref i1) >>= _) _ _ _
 refine wpAny_bind (D1.item k _ _ _ hx (e1 h1 hs₁.extBut z1) fun c h₂ tk₂ hc h1₂ hs₂=>wpAny_pure ?_)
 replace hs₂:Heap.SameBut i1 h₁ h₂:=hs₂
 have hTO₂:IsPair h₂ TO a b:=hs₂.extBut _ _ D.TOi1 (hs₁.extBut _ _ D.TOz hTO)
 refine wpAny_bind (wpAny_seqItems hTO₂ rfl ?_)
 refine wpAny_bind (wpAny_updateSeq_pair hTO₂ fun h₃ hTO₃ hs₃=>?_)
 replace hs₃:Heap.SameBut TO h₂ h₃:=hs₃
 refine wpAny_bind (wpAny_letGo (wpAny_pure ?_))
 refine wpAny_bind (wpAny_bind (wpAny_onRaise ?_))
 show wpAny _ _ (Builtin.SmallTypes.nextOf (.ref i2) >>= _) _ _ _
 subst hy
 refine wpAny_bind (D2.done _ _ _ (e2 (e2 (e2 h2 hs₁.extBut z2) hs₂.extBut j2) hs₃.extBut t2) fun h₄ e hs₄ he=>?_)
 obtain ⟨oe,hoe,hce⟩:=he
 have hz₄:IsZip h₄ z TI TO .ellipsis:=hs₄ _ _ D.i2z.symm (hs₃.extBut _ _ D.TOz.symm (hs₂.extBut _ _ D.i1z.symm hz₁))
 have hez:e≠z:=fun x=>by subst x; rw [hz₄] at hoe; cases hoe; simp at hce
 refine wpAny_setField_rec hz₄ (by simp) fun h₅ _ hs₅=>hE h₅ tk₂ e (fun c o c1 c2 c3 c4 x=>hs₅.extBut _ _ c1 (hs₄ _ _ c4 (hs₃.extBut _ _ c2 (hs₂.extBut _ _ c3 (hs₁.extBut _ _ c1 x))))) ⟨oe,hs₅.extBut _ _ hez hoe,hce⟩
end
def Jz (k l:SK):It:=⟨fun i H=>∃ vs ws,k.Sat H vs∧l.Sat H ws∧i < vs.length∧i < ws.length,
 fun i H x H'=>∃ T y z,H T=none∧x=.ref T∧H'=upd H T (.tup [y,z])∧(∀ vs,k.Sat H vs→vs[i]?=some y)∧(∀ ws,l.Sat H ws→ws[i]?=some z),
 fun i H=>∃ vs ws,k.Sat H vs∧l.Sat H ws∧(vs.length=i∧i≤ws.length∨i < vs.length∧ws.length=i)⟩
theorem turn_z {P:Program} {w:World} {K:PySem.W.Frag} {elts:List Expr} {x1:Nat} {pos:Pos} (k l:SK) (z TI TO i1 i2:Addr) (D:ZApart z TI TO i1 i2):
  Turn P w K (.Tuple elts x1 pos) (Jz k l) [z,TI,TO,i1,i2] z
   (fun i h=>IsZip h z TI TO .none∧IsPair h TI (.ref i1) (.ref i2)∧(∃ a b,IsPair h TO a b)∧k.pos i1 i h∧l.pos i2 i h) where
 mem:=by simp
 obj:=fun i h st b hb=>by
  obtain ⟨hz,hTI,⟨a,c,hTO⟩,⟨o1,e1,_,d1⟩,⟨o2,e2,_,d2⟩⟩:=st
  have hb':b=z∨b=TI∨b=TO∨b=i1∨b=i2:=by simpa using hb
  rcases hb' with rfl | rfl | rfl | rfl | rfl
  ·exact ⟨_,hz,fun v q=>by have q':Data.fields _=Data.cell v:=q; cases q'⟩
  ·exact ⟨_,hTI,fun v q=>by have q':Data.seq _ _=Data.cell v:=q; cases q'⟩
  ·exact ⟨_,hTO,fun v q=>by have q':Data.seq _ _=Data.cell v:=q; cases q'⟩
  ·exact ⟨o1,e1,fun v q=>by rw [d1] at q; cases q⟩
  ·exact ⟨o2,e2,fun v q=>by rw [d2] at q; cases q⟩
 keep:=fun i h h' st kk=>by
  obtain ⟨hz,hTI,⟨a,c,hTO⟩,p1,p2⟩:=st
  exact ⟨kk z (by simp) _ hz,kk TI (by simp) _ hTI,⟨a,c,kk TO (by simp) _ hTO⟩,p1.keep fun o e=>kk i1 (by simp) o e,p2.keep fun o e=>kk i2 (by simp) o e⟩
 item:=by
  intro X hP hw hK hc i pins s σ H E I hf st hg
  subst hP hw hK
  obtain ⟨vs,ws,sat1,sat2,l1,l2⟩:=hg
  obtain ⟨hz,hTI,⟨a,b,hTO⟩,h1,h2⟩:=st
  have hT:s.TypeIs (.ref z) "zip":=⟨_,hz,rfl⟩
  have fz:=hf z (by simp)
  have fTO:=hf TO (by simp)
  have fi1:=hf i1 (by simp)
  have fi2:=hf i2 (by simp)
  obtain ⟨fp1,P1,S1,Dr1⟩:=drawn (A:=X.A.in1) (I.ok.hd hc) I sat1 fi1.1 h1
  obtain ⟨fp2,P2,S2,Dr2⟩:=drawn (A:=X.A.in1) (I.ok.hd hc) I sat2 fi2.1 h2
  have no1:∀ e,H e=none→e≠i1→∀ c∈fp1,c≠e:=fun e he hei c hc z=>by
   rcases Dr1.fp c hc with q | q
   ·exact hei (z.symm.trans q)
   ·have:=sat1.no he
    cases k with
    | lst a=>injection q with q; exact this (q.trans z)
    | tup a=>injection q with q; exact this (q.trans z)
    | str _ _=>cases q
  have no2:∀ e,H e=none→e≠i2→∀ c∈fp2,c≠e:=fun e he hei c hc z=>by
   rcases Dr2.fp c hc with q | q
   ·exact hei (z.symm.trans q)
   ·have:=sat2.no he
    cases l with
    | lst a=>injection q with q; exact this (q.trans z)
    | tup a=>injection q with q; exact this (q.trans z)
    | str _ _=>cases q
  have f1:∀ c∈fp1,c≠z∧c≠TO∧c≠i2:=fun c hc=>⟨no1 z fz.1 D.i1z.symm c hc,no1 TO fTO.1 D.TOi1 c hc,no1 i2 fi2.1 D.i12.symm c hc⟩
  have f2:∀ c∈fp2,c≠z∧c≠TO∧c≠i1:=fun c hc=>⟨no2 z fz.1 D.i2z.symm c hc,no2 TO fTO.1 D.TOi2 c hc,no2 i1 fi1.1 D.i12 c hc⟩
  have ltz:z < s.heap.objs.size:=Heap.lt_size hz
  have ltTI:TI < s.heap.objs.size:=Heap.lt_size hTI
  have ltTO:TO < s.heap.objs.size:=Heap.lt_size hTO
  have lti1:i1 < s.heap.objs.size:=by obtain ⟨_,e,_⟩:=h1; exact Heap.lt_size e
  have lti2:i2 < s.heap.objs.size:=by obtain ⟨_,e,_⟩:=h2; exact Heap.lt_size e
  unfold pyNext
  refine wpAny_bind (wpAny_attempt (wpAny_callSpecial?_slot (name:=Str.ofString "__next__") hT F.slot_zip_next
   (wpAny_call_entry F.slot_zip_next hT F.entry_zip_next (zipK_next_item D Dr1.D Dr2.D f1 f2 hz hTI hTO Dr1.st Dr2.st l1 l2 fun h' tk c d pc pd a1 a2 a3 a4 a5 a6 hk=>wpAny_pure ?_) (F.args_zip_next_1 _))))
  obtain ⟨y,hy,ry⟩:=Dr1.val _ _ pc
  obtain ⟨y',hy',ry'⟩:=Dr2.val _ _ pd
  refine ⟨_,rfl,?_⟩
  refine wpAny_letOwnedTupleGo_zip a1 fun h2' hz2 hs2=>?_
  have hs2':Heap.SameBut z h' h2':=hs2
  have hn:H s.heap.objs.size=none:=I.hok.fresh (Nat.le_refl _)
  have k2:∀ b o,b∉[z,TI,TO,i1,i2]→s.heap.get? b=some o→h2'.get? b=some o:=fun b o hb q=>by
   have hb':b≠z∧b≠TI∧b≠TO∧b≠i1∧b≠i2:=by simpa using hb
   exact hs2'.extBut b o hb'.1 (hk b o hb'.1 hb'.2.2.1 hb'.2.2.2.1 hb'.2.2.2.2 q)
  have I2:Inv X pins σ H { s with heap:=h2',toks:=tk }:=I.turnedL hf k2
  have ht2:h2'.get? s.heap.objs.size=some { cls:=.type "tuple",data:=.seq #[c,d] }:=hs2'.extBut _ _ (Nat.ne_of_gt ltz) a5
  have ob:ObjOk X.prog X.w (upd H s.heap.objs.size (.tup [y,y'])) h2' s.heap.objs.size (.tup [y,y']):=
   ⟨by rw [sizeLine_eq]; simp,[c,d],.cons ry (.cons ry' .nil),⟨_,ht2,rfl,_,rfl⟩⟩
  have I3:=I2.track (I.fpOk (Nat.le_refl _) hn) ob
  refine ⟨.ref s.heap.objs.size,_,I3,rfl,⟨s.heap.objs.size,y,y',hn,rfl,rfl,fun us hu=>by rw [sat_inj hu sat1]; exact hy,fun us hu=>by rw [sat_inj hu sat2]; exact hy'⟩,
   ⟨hz2,hs2'.extBut _ _ D.TIz (hk _ _ D.TIz D.TITO D.TIi1 D.TIi2 hTI),⟨_,_,hs2'.extBut _ _ D.TOz a2⟩,(Dr1.pos _ _ a3).keep fun o e=>hs2'.extBut _ _ D.i1z e,(Dr2.pos _ _ a4).keep fun o e=>hs2'.extBut _ _ D.i2z e⟩,fun b hb=>?_⟩
  have hb':b=z∨b=TI∨b=TO∨b=i1∨b=i2:=by simpa using hb
  rw [upd_ne (by rcases hb' with rfl | rfl | rfl | rfl | rfl <;> exact Nat.ne_of_lt ‹_›)]
  exact (hf b hb).1
 done:=by
  intro X hP hw hK hc i pins s σ H E I hf st hg
  subst hP hw hK
  obtain ⟨vs,ws,sat1,sat2,hend⟩:=hg
  obtain ⟨hz,hTI,⟨a,b,hTO⟩,h1,h2⟩:=st
  have hT:s.TypeIs (.ref z) "zip":=⟨_,hz,rfl⟩
  have fz:=hf z (by simp)
  have fTO:=hf TO (by simp)
  have fi1:=hf i1 (by simp)
  have fi2:=hf i2 (by simp)
  obtain ⟨fp1,P1,S1,Dr1⟩:=drawn (A:=X.A.in1) (I.ok.hd hc) I sat1 fi1.1 h1
  obtain ⟨fp2,P2,S2,Dr2⟩:=drawn (A:=X.A.in1) (I.ok.hd hc) I sat2 fi2.1 h2
  have no1:∀ e,H e=none→e≠i1→∀ c∈fp1,c≠e:=fun e he hei c hc z=>by
   rcases Dr1.fp c hc with q | q
   ·exact hei (z.symm.trans q)
   ·have:=sat1.no he
    cases k with
    | lst a=>injection q with q; exact this (q.trans z)
    | tup a=>injection q with q; exact this (q.trans z)
    | str _ _=>cases q
  have no2:∀ e,H e=none→e≠i2→∀ c∈fp2,c≠e:=fun e he hei c hc z=>by
   rcases Dr2.fp c hc with q | q
   ·exact hei (z.symm.trans q)
   ·have:=sat2.no he
    cases l with
    | lst a=>injection q with q; exact this (q.trans z)
    | tup a=>injection q with q; exact this (q.trans z)
    | str _ _=>cases q
  have f1:∀ c∈fp1,c≠z∧c≠TO∧c≠i2:=fun c hc=>⟨no1 z fz.1 D.i1z.symm c hc,no1 TO fTO.1 D.TOi1 c hc,no1 i2 fi2.1 D.i12.symm c hc⟩
  have f2:∀ c∈fp2,c≠z∧c≠TO∧c≠i1:=fun c hc=>⟨no2 z fz.1 D.i2z.symm c hc,no2 TO fTO.1 D.TOi2 c hc,no2 i1 fi1.1 D.i12 c hc⟩
  have fin:∀ (h':Heap) (tk:Nat) (e:Addr),(∀ c o,c≠z→c≠TO→c≠i1→c≠i2→s.heap.get? c=some o→h'.get? c=some o)→Inv X pins σ H { s with heap:=h',toks:=tk }:=fun h' tk e hk=>I.turnedL (t':=tk) hf fun b o hb q=>by
   have hb':b≠z∧b≠TI∧b≠TO∧b≠i1∧b≠i2:=by simpa using hb
   exact hk b o hb'.1 hb'.2.2.1 hb'.2.2.2.1 hb'.2.2.2.2 q
  unfold pyNext
  refine wpAny_bind (wpAny_attempt (wpAny_callSpecial?_slot (name:=Str.ofString "__next__") hT F.slot_zip_next
   (wpAny_call_entry F.slot_zip_next hT F.entry_zip_next ?_ (F.args_zip_next_1 _))))
  rcases hend with ⟨e1,_⟩ | ⟨e1,e2⟩
  ·subst e1
   refine zipK_next_end1 D Dr1.D (fun c hc=>(f1 c hc).1) hz hTI hTO Dr1.st fun h' e hk he=>?_
   obtain ⟨o,ho,hc'⟩:=he
   refine wpAny_bind (wpAny_isInstance (T:="StopIteration") (b:=true) ⟨o,ho,hc'⟩ isSubtype_stop ?_)
   exact wpAny_pure ⟨rfl,fin h' s.toks e hk⟩
  ·refine zipK_next_end2 D Dr1.D Dr2.D f1 f2 hz hTI hTO Dr1.st Dr2.st e1 e2.symm fun h' tk e hk he=>?_
   obtain ⟨o,ho,hc'⟩:=he
   refine wpAny_bind (wpAny_isInstance (T:="StopIteration") (b:=true) ⟨o,ho,hc'⟩ isSubtype_stop ?_)
   exact wpAny_pure ⟨rfl,fin h' tk e hk⟩
 self:=fun A i s Q E st h=>wpAny_pyIter_zip st.1 h
end RF
namespace RF
open PySem PySem.Spec PyProof.Rows L2
open Sem (wp)
open AutoSeq1 (wpAny_loadPart')
set_option maxRecDepth 100000
set_option maxHeartbeats 1000000 in
theorem meets_enumerate_newT (l:Addr) (items:Array Value) (n:Nat) (dct:Option Addr) (sl:Array (Option Value)):
  Meets (Builtin.«enumerate.__new__» ⟨[.type "enumerate",.ref l],[]⟩) (fun _ R s=>s.heap.get? l=some { cls:=.type "tuple",dict:=dct,data:=.seq items n,slots:=sl }∧
   R (.ok (.ret (.ref (s.heap.push { cls:=.type "tuple_iterator",data:=.fields #[.ref l,.int 0 0] }).objs.size)))
    { s with heap:=(s.heap.push { cls:=.type "tuple_iterator",data:=.fields #[.ref l,.int 0 0] }).push { cls:=.type "enumerate",data:=.fields #[.none,.bool false,.ref s.heap.objs.size,rawInt 0,.none,.none] } }):=
 .of_wp fun prog w A R s h=>by
  obtain ⟨hp,g,d,tk,os⟩:=s; obtain ⟨hl,h⟩:=h
  have hsub:=sub_enumerate
  have hL:Heap.IsTuple (Shared.heap ⟨hp,g,d,tk,os⟩) l items:=⟨_,hl,rfl,n,rfl⟩
  wp_walk using wpAny_loadPart' hl
  refine wpAny_stack_any fun st=>wpAny_pure ?_
  split
  ·rename_i c _ _ _ _ _
   cases (c==Value.type "enumerate")
   ·wp_walk using wpAny_loadPart' hl,wpAny_pyIter_tuple hL
    exact ⟨_,rfl,h⟩
   ·wp_walk using wpAny_loadPart' hl,wpAny_pyIter_tuple hL
    exact ⟨_,rfl,h⟩
  ·wp_walk using wpAny_loadPart' hl,wpAny_pyIter_tuple hL
   exact ⟨_,rfl,h⟩
abbrev zkH1 (h:Heap) (k:SK):Heap:=h.push k.obj
abbrev zkH2 (h:Heap) (k l:SK):Heap:=(zkH1 h k).push l.obj
abbrev zkH3 (h:Heap) (k l:SK):Heap:=(zkH2 h k l).push { cls:=.type "tuple",data:=.seq #[.ref h.objs.size,.ref (zkH1 h k).objs.size] }
abbrev zkH4 (h:Heap) (k l:SK):Heap:=(zkH3 h k l).push { cls:=.type "tuple",data:=.seq #[.none,.none] }
abbrev zkH5 (h:Heap) (k l:SK):Heap:=(zkH4 h k l).push { cls:=.type "zip",data:=.fields #[.none,.bool false,.bool false,.ref (zkH2 h k l).objs.size,.ref (zkH3 h k l).objs.size] }
theorem meets_zip_newK (k l:SK) (xs ys:Array Value):
  Meets (Builtin.«zip.__new__» ⟨[.type "zip",k.val,l.val],[]⟩) (fun _ R s=>k.On xs s.heap∧l.On ys s.heap∧R (.ok (.ret (.ref (zkH4 s.heap k l).objs.size))) { s with heap:=zkH5 s.heap k l }):=
 .of_wp fun prog w A R s h=>by
  obtain ⟨hp,g,d,tk,os⟩:=s
  obtain ⟨h1,h2,h⟩:=h
  have hsub:=sub_zip
  have h1':k.On xs (Shared.heap ⟨hp,g,d,tk,os⟩):=h1
  have h2':l.On ys (Shared.heap ⟨hp.push k.obj,g,d,tk,os⟩):=SK.On.keeps h2 fun b o _ e=>Heap.get?_push_of_some _ e
  wp_walk using SK.iter h1',SK.iter h2'
  exact ⟨_,rfl,h⟩
section
variable {prog:Program} {w:World} {A:Around} {E:Value→Shared→Prop} {s:Shared}
theorem call_zip_K {k l:SK} {xs ys:Array Value} {Q:Value→Shared→Prop} (h1:k.On xs s.heap) (h2:l.On ys s.heap)
  (h:∀ h',IsZip h' (s.heap.objs.size + 4) (s.heap.objs.size + 2) (s.heap.objs.size + 3) .none→IsPair h' (s.heap.objs.size + 2) (.ref s.heap.objs.size) (.ref (s.heap.objs.size + 1))→
   IsPair h' (s.heap.objs.size + 3) .none .none→k.pos s.heap.objs.size 0 h'→l.pos (s.heap.objs.size + 1) 0 h'→h'.objs.size=s.heap.objs.size + 5→
   (∀ c o,s.heap.get? c=some o→h'.get? c=some o)→Q (.ref (s.heap.objs.size + 4)) { s with heap:=h' }):
  wpAny (model prog w) A (call (.type "zip") [k.val,l.val]) Q E s:=by
 refine callType_new F.called_zip (by decide) (F.typeCall_zip_2 _ _) (F.newCall_zip_2 _ _) (fun obj=>F.args_object_init_3 obj _ _) F.entry_zip_new
  (meets_zip_newK k l xs ys) ⟨h1,h2,?_⟩
 have z1:(zkH1 s.heap k).objs.size=s.heap.objs.size + 1:=Heap.size_push ..
 have z2:(zkH2 s.heap k l).objs.size=s.heap.objs.size + 2:=by rw [Heap.size_push,z1]
 have z3:(zkH3 s.heap k l).objs.size=s.heap.objs.size + 3:=by rw [Heap.size_push,z2]
 have z4:(zkH4 s.heap k l).objs.size=s.heap.objs.size + 4:=by rw [Heap.size_push,z3]
 have z5:(zkH5 s.heap k l).objs.size=s.heap.objs.size + 5:=by rw [Heap.size_push,z4]
 have g5:(zkH5 s.heap k l).get? (zkH4 s.heap k l).objs.size=some _:=Heap.get?_push_size _ rfl
 have g4:(zkH5 s.heap k l).get? (zkH3 s.heap k l).objs.size=some _:=Heap.get?_push_of_some _ (Heap.get?_push_size _ rfl)
 have g3:(zkH5 s.heap k l).get? (zkH2 s.heap k l).objs.size=some _:=Heap.get?_push_of_some _ (Heap.get?_push_of_some _ (Heap.get?_push_size _ rfl))
 have g2:(zkH5 s.heap k l).get? (zkH1 s.heap k).objs.size=some _:=Heap.get?_push_of_some _ (Heap.get?_push_of_some _ (Heap.get?_push_of_some _ (Heap.get?_push_size _ rfl)))
 have g1:(zkH5 s.heap k l).get? s.heap.objs.size=some _:=Heap.get?_push_of_some _ (Heap.get?_push_of_some _ (Heap.get?_push_of_some _ (Heap.get?_push_of_some _ (Heap.get?_push_size _ rfl))))
 show _∧_
 rw [z2,z3,z4] at g5
 rw [z1,z2] at g3
 rw [z3] at g4
 rw [z1] at g2
 rw [z4]
 exact ⟨⟨_,g5,rfl⟩,h _ g5 g3 g4 ⟨_,g1,rfl,rfl⟩ ⟨_,g2,rfl,rfl⟩ z5 fun c o x=>
  Heap.get?_push_of_some _ (Heap.get?_push_of_some _ (Heap.get?_push_of_some _ (Heap.get?_push_of_some _ (Heap.get?_push_of_some _ x))))⟩
theorem call_enumerate_tuple {l:Addr} {items:Array Value} {Q:Value→Shared→Prop} (hL:s.heap.IsTuple l items)
  (h:∀ h',IsEnum h' (s.heap.objs.size + 1) s.heap.objs.size 0 .none→h'.IsTupleIter s.heap.objs.size l 0→h'.objs.size=s.heap.objs.size + 2→
   (∀ b o,s.heap.get? b=some o→h'.get? b=some o)→Q (.ref (s.heap.objs.size + 1)) { s with heap:=h' }):
  wpAny (model prog w) A (call (.type "enumerate") [.ref l]) Q E s:=by
 obtain ⟨⟨c,dct,dt,sl⟩,hl,hc,n,hd⟩:=hL
 replace hc:c=.type "tuple":=hc
 replace hd:dt=.seq items n:=hd
 subst hc hd
 refine callType_new F.called_enumerate (by decide) (F.typeCall_enumerate_1 _) (F.newCall_enumerate_1 _) (fun obj=>F.args_object_init_2 obj _) F.entry_enumerate_new
  (meets_enumerate_newT l items n dct sl) ⟨hl,?_⟩
 have hz:(s.heap.push { cls:=.type "tuple_iterator",data:=.fields #[.ref l,.int 0 0] }).objs.size=s.heap.objs.size + 1:=Heap.size_push ..
 show _∧_
 rw [hz]
 have he:IsEnum ((s.heap.push { cls:=.type "tuple_iterator",data:=.fields #[.ref l,.int 0 0] }).push
   { cls:=.type "enumerate",data:=.fields #[.none,.bool false,.ref s.heap.objs.size,rawInt 0,.none,.none] }) (s.heap.objs.size + 1) s.heap.objs.size 0 .none:=by
  have:=Heap.get?_push_size (s.heap.push { cls:=.type "tuple_iterator",data:=.fields #[.ref l,.int 0 0] })
   (o:={ cls:=.type "enumerate",data:=.fields #[.none,.bool false,.ref s.heap.objs.size,rawInt 0,.none,.none] }) rfl
  rw [hz] at this; exact this
 refine ⟨⟨_,he,rfl⟩,h _ he ⟨_,Heap.get?_push_of_some _ (Heap.get?_push_size _ rfl),rfl,rfl⟩ (by rw [Heap.size_push,hz]) fun b o x=>Heap.get?_push_of_some _ (Heap.get?_push_of_some _ x)⟩
theorem call_enum_K {k:SK} {xs:Array Value} {Q:Value→Shared→Prop} (h1:k.On xs s.heap)
  (h:∀ h',IsEnum h' (s.heap.objs.size + 1) s.heap.objs.size 0 .none→k.pos s.heap.objs.size 0 h'→h'.objs.size=s.heap.objs.size + 2→
   (∀ b o,s.heap.get? b=some o→h'.get? b=some o)→Q (.ref (s.heap.objs.size + 1)) { s with heap:=h' }):
  wpAny (model prog w) A (call (.type "enumerate") [k.val]) Q E s:=by
 cases k with
 | lst a=>exact call_enumerate_list h1 h
 | tup a=>exact call_enumerate_tuple h1 h
 | str x t=>exact call_enumerate_str h
end
end RF
namespace RF
open PySem PySem.Spec L2
structure CT where
 N:List Str
 kd:List (Str×NameKind)
 fn:Bool
 fs:List (String×Nat)
 bt:List String
 cn:List (String×D)
 xs:List String:=[]
def isVis:Option NameKind→Bool
 | some .local=>true
 | some .cell=>true
 | some .free=>true
 | _=>false
def CT.sto (c:CT) (x:Str):Bool:=c.kd.lookup x==some .local || (c.fn && c.kd.lookup x==some .cell)
def okN (x:Str):Bool:=!(x==("__debug__":Str)) && !(x==("__classdict__":Str)) && !(x==("__name__":Str))
def CT.glo (c:CT) (x:Str):Bool:=c.kd.lookup x==some .globalImplicit && okN x
def sEq:D→D→Bool
 | .non,.non=>true
 | .bl a,.bl b=>a==b
 | .int a,.int b=>a==b
 | .str a,.str b=>a==b
 | _,_=>false
theorem sEq_eq {a b:D} (h:sEq a b=true):a=b:=by
 cases a <;> cases b <;> simp_all [sEq]
def cnOf (d:D) (k:Const):Bool:=
 match d,k with
 | .non,.none=>true
 | .bl a,.bool b=>a==b
 | .int a,.int b=>a==b
 | .str a,.str b=>a==b.cps.toList && decide (a.length≤sz)
 | _,_=>false
def Bf.name:Bf→String
 | .len=>"len"
 | .all=>"all"
 | .int=>"int"
 | .tuple=>"tuple"
 | .sum=>"sum"
 | .min=>"min"
 | .max=>"max"
def okBf:Bf→Bool
 | .sum=>false
 | .min=>false
 | .max=>true
 | _=>true
def okLf:Lf→Bool
 | .sorted=>false
 | _=>true
def Lf.name:Lf→String
 | .list=>"list"
 | .sorted=>"sorted"
def Mf.name:Mf→String
 | .join=>"join"
 | .append=>"append"
 | .extend=>"extend"
 | .insert=>"insert"
def isBare:Expr→Bool
 | .Call (.Name _ _) [] [] _=>true
 | _=>false
def isComp:Expr→Bool
 | .ListComp ..=>true
 | .SetComp ..=>true
 | .DictComp ..=>true
 | _=>false
def plainTest:Expr→Bool
 | .UnaryOp .Not _ _=>false
 | .BoolOp ..=>false
 | .IfExp ..=>false
 | .Compare ..=>false
 | _=>true
def capsOk (N:List Str) (scope:Scope):List Str→List (Option Nat)→Bool
 | [],[]=>true
 | _::N',none::cap=>capsOk N scope N' cap
 | x::N',some j::cap=>(N[j]?==some x) && (scope.names.lookup x==some NameKind.free) && capsOk N scope N' cap
 | _,_=>false
def scopeOk (c:CT) (scope:Scope):Bool:=
 scope.names.all (fun y=>y.2 != NameKind.cell) && scope.names.all (fun y=>y.2 != NameKind.local || scope.names.lookup y.1==some NameKind.local) &&
 scope.names.all (fun y=>y.2 != NameKind.free || (c.kd.lookup y.1==some NameKind.cell || c.kd.lookup y.1==some NameKind.free)) && decide (scope.kind=.function) && decide (c.kd=c.kd)
def CT.comp (c:CT) (N:List Str) (scope:Scope):CT:={ N:=N,kd:=scope.names,fn:=false,fs:=c.fs,bt:=c.bt,cn:=c.cn }
def nodupB:List Str→Bool
 | []=>true
 | x::r=>!r.contains x && nodupB r
def asName (e:Expr):Option { t:Str×Pos // e=.Name t.1 t.2 }:=match e with
 | .Name a0 a1=>some ⟨(a0,a1),rfl⟩
 | _=>none
def asConstant (e:Expr):Option { t:Const×Nat×Pos // e=.Constant t.1 t.2.1 t.2.2 }:=match e with
 | .Constant a0 a1 a2=>some ⟨(a0,a1,a2),rfl⟩
 | _=>none
def asBinOp (e:Expr):Option { t:Expr×Operator×Expr×Pos // e=.BinOp t.1 t.2.1 t.2.2.1 t.2.2.2 }:=match e with
 | .BinOp a0 a1 a2 a3=>some ⟨(a0,a1,a2,a3),rfl⟩
 | _=>none
def asUnaryOp (e:Expr):Option { t:UnaryOp×Expr×Pos // e=.UnaryOp t.1 t.2.1 t.2.2 }:=match e with
 | .UnaryOp a0 a1 a2=>some ⟨(a0,a1,a2),rfl⟩
 | _=>none
def asCompare (e:Expr):Option { t:Expr×List CmpOp×List Expr×Pos // e=.Compare t.1 t.2.1 t.2.2.1 t.2.2.2 }:=match e with
 | .Compare a0 a1 a2 a3=>some ⟨(a0,a1,a2,a3),rfl⟩
 | _=>none
def asBoolOp (e:Expr):Option { t:BoolOp×List Expr×Pos // e=.BoolOp t.1 t.2.1 t.2.2 }:=match e with
 | .BoolOp a0 a1 a2=>some ⟨(a0,a1,a2),rfl⟩
 | _=>none
def asIfExp (e:Expr):Option { t:Expr×Expr×Expr×Pos // e=.IfExp t.1 t.2.1 t.2.2.1 t.2.2.2 }:=match e with
 | .IfExp a0 a1 a2 a3=>some ⟨(a0,a1,a2,a3),rfl⟩
 | _=>none
def asTuple (e:Expr):Option { t:List Expr×Nat×Pos // e=.Tuple t.1 t.2.1 t.2.2 }:=match e with
 | .Tuple a0 a1 a2=>some ⟨(a0,a1,a2),rfl⟩
 | _=>none
def asList (e:Expr):Option { t:List Expr×Pos // e=.List t.1 t.2 }:=match e with
 | .List a0 a1=>some ⟨(a0,a1),rfl⟩
 | _=>none
def asSubscript (e:Expr):Option { t:Expr×Expr×Pos // e=.Subscript t.1 t.2.1 t.2.2 }:=match e with
 | .Subscript a0 a1 a2=>some ⟨(a0,a1,a2),rfl⟩
 | _=>none
def asSlice (e:Expr):Option { t:Option Expr×Option Expr×Option Expr×Pos // e=.Slice t.1 t.2.1 t.2.2.1 t.2.2.2 }:=match e with
 | .Slice a0 a1 a2 a3=>some ⟨(a0,a1,a2,a3),rfl⟩
 | _=>none
def asCall (e:Expr):Option { t:Expr×List Expr×List Keyword×Pos // e=.Call t.1 t.2.1 t.2.2.1 t.2.2.2 }:=match e with
 | .Call a0 a1 a2 a3=>some ⟨(a0,a1,a2,a3),rfl⟩
 | _=>none
def asAttribute (e:Expr):Option { t:Expr×Str×Pos // e=.Attribute t.1 t.2.1 t.2.2 }:=match e with
 | .Attribute a0 a1 a2=>some ⟨(a0,a1,a2),rfl⟩
 | _=>none
def asListComp (e:Expr):Option { t:Expr×List Comprehension×Scope×Pos // e=.ListComp t.1 t.2.1 t.2.2.1 t.2.2.2 }:=match e with
 | .ListComp a0 a1 a2 a3=>some ⟨(a0,a1,a2,a3),rfl⟩
 | _=>none
def stExpr (e:Stmt):Option { t:Expr×Pos // e=.Expr t.1 t.2 }:=match e with
 | .Expr a0 a1=>some ⟨(a0,a1),rfl⟩
 | _=>none
def stAssign (e:Stmt):Option { t:List Expr×Expr×Pos // e=.Assign t.1 t.2.1 t.2.2 }:=match e with
 | .Assign a0 a1 a2=>some ⟨(a0,a1,a2),rfl⟩
 | _=>none
def stAugAssign (e:Stmt):Option { t:Expr×Operator×Expr×Pos // e=.AugAssign t.1 t.2.1 t.2.2.1 t.2.2.2 }:=match e with
 | .AugAssign a0 a1 a2 a3=>some ⟨(a0,a1,a2,a3),rfl⟩
 | _=>none
def stRaise (e:Stmt):Option { t:Option Expr×Option Expr×Pos // e=.Raise t.1 t.2.1 t.2.2 }:=match e with
 | .Raise a0 a1 a2=>some ⟨(a0,a1,a2),rfl⟩
 | _=>none
def stTry (e:Stmt):Option { t:List Stmt×List ExceptHandler×List Stmt×List Stmt×Pos // e=.Try t.1 t.2.1 t.2.2.1 t.2.2.2.1 t.2.2.2.2 }:=match e with
 | .Try a0 a1 a2 a3 a4=>some ⟨(a0,a1,a2,a3,a4),rfl⟩
 | _=>none
def asHnd (e:ExceptHandler):Option { t:Option Expr×Option Str×List Stmt×Pos // e=.ExceptHandler t.1 t.2.1 t.2.2.1 t.2.2.2 }:=match e with
 | .ExceptHandler a0 a1 a2 a3=>some ⟨(a0,a1,a2,a3),rfl⟩
def asFmt (e:Expr):Option { t:Expr×Int×Option Expr×Pos // e=.FormattedValue t.1 t.2.1 t.2.2.1 t.2.2.2 }:=match e with
 | .FormattedValue a0 a1 a2 a3=>some ⟨(a0,a1,a2,a3),rfl⟩
 | _=>none
def asJoin (e:Expr):Option { t:List Expr×Pos // e=.JoinedStr t.1 t.2 }:=match e with
 | .JoinedStr a0 a1=>some ⟨(a0,a1),rfl⟩
 | _=>none
def asStrC (k:Const):Option { x:Str // k=.str x }:=match k with
 | .str x=>some ⟨x,rfl⟩
 | _=>none
def isBoolC (b:Bool) (k:Const):Bool:=match k with
 | .bool c=>c==b
 | _=>false
def stReturn (e:Stmt):Option { t:Option Expr×Pos // e=.Return t.1 t.2 }:=match e with
 | .Return a0 a1=>some ⟨(a0,a1),rfl⟩
 | _=>none
def stIf (e:Stmt):Option { t:Expr×List Stmt×List Stmt×Pos // e=.If t.1 t.2.1 t.2.2.1 t.2.2.2 }:=match e with
 | .If a0 a1 a2 a3=>some ⟨(a0,a1,a2,a3),rfl⟩
 | _=>none
def stFor (e:Stmt):Option { t:Expr×Expr×List Stmt×List Stmt×Pos // e=.For t.1 t.2.1 t.2.2.1 t.2.2.2.1 t.2.2.2.2 }:=match e with
 | .For a0 a1 a2 a3 a4=>some ⟨(a0,a1,a2,a3,a4),rfl⟩
 | _=>none
def stWhile (e:Stmt):Option { t:Expr×List Stmt×List Stmt×Pos // e=.While t.1 t.2.1 t.2.2.1 t.2.2.2 }:=match e with
 | .While a0 a1 a2 a3=>some ⟨(a0,a1,a2,a3),rfl⟩
 | _=>none
def stPass (e:Stmt):Option { t:Pos // e=.Pass t }:=match e with
 | .Pass a0=>some ⟨a0,rfl⟩
 | _=>none
def stBreak (e:Stmt):Option { t:Pos // e=.Break t }:=match e with
 | .Break a0=>some ⟨a0,rfl⟩
 | _=>none
def stContinue (e:Stmt):Option { t:Pos // e=.Continue t }:=match e with
 | .Continue a0=>some ⟨a0,rfl⟩
 | _=>none
def one {α:Type}:List α→Option α
 | [a]=>some a
 | _=>none
def three {α:Type}:List α→Option (α×α×α)
 | [x,y,z]=>some (x,y,z)
 | _=>none
theorem three_inv {α:Type} {l:List α} {v:α×α×α} (h:three l=some v):l=[v.1,v.2.1,v.2.2]:=by
 unfold three at h
 split at h
 ·cases h; rfl
 ·cases h
def two {α:Type}:List α→Option (α×α)
 | [a,b]=>some (a,b)
 | _=>none
def hdT {α:Type}:List α→Option (α×List α)
 | a::r=>some (a,r)
 | []=>none
theorem one_inv {α:Type} {l:List α} {a:α} (h:one l=some a):l=[a]:=by
 cases l with
 | nil=>cases h
 | cons x r=>cases r with
  | nil=>cases h; rfl
  | cons _ _=>cases h
theorem two_inv {α:Type} {l:List α} {a:α×α} (h:two l=some a):l=[a.1,a.2]:=by
 cases l with
 | nil=>cases h
 | cons x r=>cases r with
  | nil=>cases h
  | cons y r=>cases r with
   | nil=>cases h; rfl
   | cons _ _=>cases h
theorem hd_inv {α:Type} {l:List α} {a:α×List α} (h:hdT l=some a):l=a.1::a.2:=by
 cases l with
 | nil=>cases h
 | cons x r=>cases h; rfl
theorem anyO {α:Type} {o:Option α} {p:α→Bool} (h:o.any p=true):∃ t,o=some t∧p t=true:=by
 cases o with
 | none=>cases h
 | some t=>exact ⟨t,rfl,h⟩
def isUSub:UnaryOp→Bool
 | .USub=>true
 | _=>false
def isNotO:UnaryOp→Bool
 | .Not=>true
 | _=>false
theorem usub_inv {o:UnaryOp} (h:isUSub o=true):o=.USub:=by cases o <;> first | rfl | cases h
theorem noto_inv {o:UnaryOp} (h:isNotO o=true):o=.Not:=by cases o <;> first | rfl | cases h
def asCN (e:Expr):Option (Str×Pos×List Expr×Pos):=(asCall e).bind fun t=>(asName t.1.1).bind fun n=>match t.1.2.2.1 with | []=>some (n.1.1,n.1.2,t.1.2.1,t.1.2.2.2) | _::_=>none
def anyV {α:Type} {q:α→Prop} (o:Option { t:α // q t }) (P:α→Bool):Bool:=match o with | some t=>P t.1 | none=>false
theorem anyV_inv {α:Type} {q:α→Prop} {o:Option { t:α // q t }} {P:α→Bool} (h:anyV o P=true):∃ t,q t∧P t=true:=by
 cases o with
 | none=>cases h
 | some t=>exact ⟨t.1,t.2,h⟩
theorem bindO {α β:Type} {o:Option α} {f:α→Option β} {b:β} (h:o.bind f=some b):∃ t,o=some t∧f t=some b:=by
 cases o with
 | none=>cases h
 | some t=>exact ⟨t,rfl,h⟩
theorem asCN_inv {e:Expr} {t:Str×Pos×List Expr×Pos} (h:asCN e=some t):e=.Call (.Name t.1 t.2.1) t.2.2.1 [] t.2.2.2:=by
 obtain ⟨⟨⟨f,as,ks,p⟩,hu⟩,_,h⟩:=bindO h
 obtain ⟨⟨⟨x,p'⟩,hn⟩,_,h⟩:=bindO h
 dsimp only at h hn hu
 cases ks with
 | nil=>cases h; rw [hu,hn]
 | cons _ _=>cases h
def isCmpE (e:Expr):Bool:=(asCompare e).isSome
def notFrz:Ex→Bool
 | .frz _=>false
 | _=>true
def isYes:Tx→Bool
 | .yes=>true
 | _=>false
mutual
def chkG (c:CT):Tg→Expr→Bool
 | .nm i,e=>anyV (asName e) fun t=>(c.N[i]?==some t.1) && c.sto t.1
 | .tp ts,e=>anyV (asTuple e) fun t=>chkGs c ts t.1
def chkGs (c:CT):Tgs→List Expr→Bool
 | .nil,es=>es.isEmpty
 | .cons t r,es=>match es with
  | e::es=>chkG c t e && chkGs c r es
  | []=>false
end
mutual
def chkE (c:CT):Ex→Expr→Bool
 | .var i,e=>anyV (asName e) fun t=>(c.N[i]?==some t.1) && isVis (c.kd.lookup t.1) && okN t.1
 | .cst d,e=>anyV (asConstant e) fun t=>cnOf d t.1
 | .glb x d,e=>anyV (asName e) fun t=>t.1==Str.ofString x && c.glo t.1 && c.cn.any (fun p=>p.1==x && sEq p.2 d)
 | .bin op _ a b,e=>anyV (asBinOp e) fun t=>t.2.1==op && chkE c a t.1 && chkE c b t.2.2.1
 | .neg a,e=>anyV (asUnaryOp e) fun t=>isUSub t.1 && chkE c a t.2.1
 | .cmp op a b,e=>anyV (asCompare e) fun t=>(one t.2.1).any fun o=>(one t.2.2.1).any fun r=>o==op && chkE c a t.1 && chkE c b r
 | .chn op op' a b d,e=>anyV (asCompare e) fun t=>(two t.2.1).any fun o=>(two t.2.2.1).any fun r=>o.1==op && o.2==op' && chkE c a t.1 && chkE c b r.1 && chkE c d r.2
 | .not a,e=>anyV (asUnaryOp e) fun t=>isNotO t.1 && chkE c a t.2.1
 | .boo isAnd x es,e=>anyV (asBoolOp e) fun t=>(hdT t.2.1).any fun v=>t.1==(if isAnd then .And else .Or) && chkE c x v.1 && chkEs c es v.2
 | .ife _ _ _,_=>false
 | .tup es,e=>anyV (asTuple e) fun t=>chkEs c es t.1
 | .lst _ es,e=>anyV (asList e) fun t=>chkEs c es t.1
 | .idx a i,e=>anyV (asSubscript e) fun t=>chkE c a t.1 && chkE c i t.2.1
 | .slc _ a lo hi,e=>anyV (asSubscript e) fun t=>anyV (asSlice t.2.1) fun s=>s.2.2.1.isNone && (chkE c a t.1 && chkO c lo s.1 && chkO c hi s.2.1)
 | .rvs _ a s,e=>anyV (asSubscript e) fun t=>anyV (asSlice t.2.1) fun u=>u.1.isNone && u.2.1.isNone && (u.2.2.1.any fun st=>chkE c a t.1 && chkE c s st)
 | .call f es,e=>(asCN e).any fun t=>t.1==Str.ofString f && c.glo t.1 && (c.fs.any fun p=>p.1==f && p.2==t.2.2.1.length) && !t.2.2.1.isEmpty && chkEs c es t.2.2.1
 | .bcl f es,e=>(asCN e).any fun t=>t.1==Str.ofString f.name && okBf f && c.glo t.1 && c.bt.contains f.name && !t.2.2.1.isEmpty && chkEs c es t.2.2.1
 | .lcl _ f es,e=>(asCN e).any fun t=>t.1==Str.ofString f.name && okLf f && c.glo t.1 && c.bt.contains f.name && !t.2.2.1.isEmpty && chkEs c es t.2.2.1
 | .isi a t,e=>(asCN e).any fun u=>(two u.2.2.1).any fun v=>anyV (asName v.2) fun y=>u.1==Str.ofString "isinstance" && c.glo u.1 && c.bt.contains "isinstance" && chkE c a v.1 && y.1==Str.ofString t && c.glo y.1 && c.bt.contains t && goodT t
 | .mth m o es,e=>anyV (asCall e) fun t=>anyV (asAttribute t.1) fun v=>t.2.2.1.isEmpty && (v.2.1==Str.ofString m.name && chkE c o v.1 && !isBare v.1 && (v.2.2.endLine==t.2.2.2.line) && decide (t.2.1.length < 29) && !t.2.1.isEmpty && chkEs c es t.2.1)
 | .comp _ elt tg it cond N cap,e=>anyV (asListComp e) fun t=>(one t.2.1).any fun g=>decide (g.is_async=0) && chkI c it g.target g.iter && capsOk c.N t.2.2.1 (N.map Str.ofString) cap && scopeOk c t.2.2.1 && nodupB (N.map Str.ofString) &&
    chkG (c.comp (N.map Str.ofString) t.2.2.1) tg g.target && ((isYes cond && g.ifs.isEmpty) || (one g.ifs).any fun f=>chkT (c.comp (N.map Str.ofString) t.2.2.1) cond f) && chkE (c.comp (N.map Str.ofString) t.2.2.1) elt t.1
 | .frz a,e=>chkE c a e
def chkT (c:CT):Tx→Expr→Bool
 | .val x,e=>(plainTest e || isCmpE e) && chkE c x e && notFrz x
 | .not t,e=>anyV (asUnaryOp e) fun u=>isNotO u.1 && chkT c t u.2.1
 | .boo isAnd t ts,e=>anyV (asBoolOp e) fun u=>(hdT u.2.1).any fun v=>u.1==(if isAnd then .And else .Or) && chkT c t v.1 && chkTs c ts v.2
 | .yes,_=>false
def chkTs (c:CT):Txs→List Expr→Bool
 | .nil,es=>es.isEmpty
 | .cons t r,es=>match es with
  | e::es=>chkT c t e && chkTs c r es
  | []=>false
def chkEs (c:CT):Exs→List Expr→Bool
 | .nil,es=>es.isEmpty
 | .cons t r,es=>match es with
  | e::es=>chkE c t e && chkEs c r es
  | []=>false
def chkO (c:CT):Ox→Option Expr→Bool
 | .no,e=>e.isNone
 | .ob x,e=>match e with
  | some e=>chkE c x e
  | none=>false
def chkI (c:CT):It'→Expr→Expr→Bool
 | .seq x,_,e=>chkE c x e
 | .rng a,_,e=>(asCN e).any fun t=>(one t.2.2.1).any fun v=>t.1==Str.ofString "range" && c.glo t.1 && c.bt.contains "range" && chkE c a v
 | .rng2 _ _,_,_=>false
 | .rev _,_,_=>false
 | .dwn _ _ _,_,_=>false
 | .enm a,tg,e=>anyV (asTuple tg) fun _=>(asCN e).any fun t=>(one t.2.2.1).any fun v=>t.1==Str.ofString "enumerate" && c.glo t.1 && c.bt.contains "enumerate" && chkE c a v
 | .zip a b,tg,e=>anyV (asTuple tg) fun _=>(asCN e).any fun t=>(two t.2.2.1).any fun v=>t.1==Str.ofString "zip" && c.glo t.1 && c.bt.contains "zip" && chkE c a v.1 && chkE c b v.2
end
def chkIf (c:CT) (cond:Tx) (ifs:List Expr):Bool:=(isYes cond && ifs.isEmpty) || (one ifs).any fun f=>chkT c cond f
def isCompX:Ex→Bool
 | .comp ..=>true
 | _=>false
def isTupD:Expr→Bool
 | .Tuple ..=>true
 | _=>false
def asgOk (g:Tg) (x:Ex) (e:Expr):Bool:=match g with | .nm _=>!isComp e || isCompX x | .tp _=>!isTupD e && !isComp e
def isMsg (e:Expr):Bool:=anyV (asConstant e) fun t=>anyV (asStrC t.1) fun x=>decide (x.length≤1000)
def chkParts (c:CT):Exs→List Expr→Bool
 | es,[]=>(match es with | .nil=>true | _=>false)
 | es,p::ps=>match isMsg p with
  | true=>chkParts c es ps
  | false=>(match es with | .cons x r=>(anyV (asFmt p) fun t=>decide (t.2.1=-1) && t.2.2.1.isNone && chkE c x t.1) && chkParts c r ps | .nil=>false)
def chkMsg (c:CT) (es:Exs) (e:Expr):Bool:=(match es with | .nil=>isMsg e | _=>false) || anyV (asJoin e) fun t=>decide (2≤t.1.length) && decide (t.1.length≤50) && chkParts c es t.1
mutual
def chkS (c:CT):Sx→Stmt→Bool
 | .exp x,st=>anyV (stExpr st) fun t=>!isComp t.1 && chkE c x t.1
 | .asg g x,st=>anyV (stAssign st) fun t=>(one t.1).any fun tg=>chkG c g tg && chkE c x t.2.1 && asgOk g x t.2.1
 | .set o i x,st=>anyV (stAssign st) fun t=>(one t.1).any fun tg=>anyV (asSubscript tg) fun u=>chkE c o u.1 && chkE c i u.2.1 && chkE c x t.2.1 && !isComp t.2.1
 | .aug i op x,st=>anyV (stAugAssign st) fun t=>anyV (asName t.1) fun y=>t.2.1==op && (c.N[i]?==some y.1) && c.sto y.1 && okN y.1 && chkE c x t.2.2.1
 | .augs _ _ _ _,_=>false
 | .ret x,st=>anyV (stReturn st) fun t=>t.1.any fun e=>chkE c x e
 | .rtn,st=>anyV (stReturn st) fun t=>t.1.isNone
 | .ite t a b,st=>anyV (stIf st) fun u=>chkT c t u.1 && chkSs c a u.2.1 && chkSs c b u.2.2.1
 | .for_ g it b,st=>anyV (stFor st) fun t=>t.2.2.2.1.isEmpty && (chkG c g t.1 && chkI c it t.1 t.2.1 && chkSs c b t.2.2.1)
 | .whl _ _,_=>false
 | .pas,st=>(stPass st).isSome
 | .brk,st=>(stBreak st).isSome
 | .cnt,st=>(stContinue st).isSome
 | .nev,_=>true
 | .rse _ _,_=>false
 | .tryc _ _ _ _ _,_=>false
def chkSs (c:CT):Sxs→List Stmt→Bool
 | .nil,es=>es.isEmpty
 | .cons t r,es=>match es with
  | e::es=>chkS c t e && chkSs c r es
  | []=>false
end
theorem inv_nm {c:CT} {i:Nat} {e:Expr} (h:chkG c (.nm i) e=true):∃ x p,e=.Name x p∧((c.N[i]?==some x) && c.sto x)=true:=by
 have h:(anyV (asName e) fun t=>(c.N[i]?==some t.1) && c.sto t.1)=true:=h
 obtain ⟨t,ht,h⟩:=anyV_inv h
 exact ⟨_,_,ht,h⟩
theorem inv_tpl {c:CT} {ts:Tgs} {e:Expr} (h:chkG c (.tp ts) e=true):∃ es k p,e=.Tuple es k p∧(chkGs c ts es)=true:=by
 have h:(anyV (asTuple e) fun t=>chkGs c ts t.1)=true:=h
 obtain ⟨t,ht,h⟩:=anyV_inv h
 exact ⟨_,_,_,ht,h⟩
theorem inv_var {c:CT} {i:Nat} {e:Expr} (h:chkE c (.var i) e=true):∃ x p,e=.Name x p∧((c.N[i]?==some x) && isVis (c.kd.lookup x) && okN x)=true:=by
 have h:(anyV (asName e) fun t=>(c.N[i]?==some t.1) && isVis (c.kd.lookup t.1) && okN t.1)=true:=h
 obtain ⟨t,ht,h⟩:=anyV_inv h
 exact ⟨_,_,ht,h⟩
theorem inv_cst {c:CT} {d:D} {e:Expr} (h:chkE c (.cst d) e=true):∃ k n p,e=.Constant k n p∧(cnOf d k)=true:=by
 have h:(anyV (asConstant e) fun t=>cnOf d t.1)=true:=h
 obtain ⟨t,ht,h⟩:=anyV_inv h
 exact ⟨_,_,_,ht,h⟩
theorem inv_glb {c:CT} {x:String} {d:D} {e:Expr} (h:chkE c (.glb x d) e=true):∃ y p,e=.Name y p∧(y==Str.ofString x && c.glo y && c.cn.any (fun p=>p.1==x && sEq p.2 d))=true:=by
 have h:(anyV (asName e) fun t=>t.1==Str.ofString x && c.glo t.1 && c.cn.any (fun p=>p.1==x && sEq p.2 d))=true:=h
 obtain ⟨t,ht,h⟩:=anyV_inv h
 exact ⟨_,_,ht,h⟩
theorem inv_bin {c:CT} {op:Operator} {fz:Bool} {a b:Ex} {e:Expr} (h:chkE c (.bin op fz a b) e=true):∃ l o r p,e=.BinOp l o r p∧(o==op && chkE c a l && chkE c b r)=true:=by
 have h:(anyV (asBinOp e) fun t=>t.2.1==op && chkE c a t.1 && chkE c b t.2.2.1)=true:=h
 obtain ⟨t,ht,h⟩:=anyV_inv h
 exact ⟨_,_,_,_,ht,h⟩
theorem inv_neg {c:CT} {a:Ex} {e:Expr} (h:chkE c (.neg a) e=true):∃ x p,e=.UnaryOp .USub x p∧(chkE c a x)=true:=by
 have h:(anyV (asUnaryOp e) fun t=>isUSub t.1 && chkE c a t.2.1)=true:=h
 obtain ⟨t,ht,h⟩:=anyV_inv h
 rw [Bool.and_eq_true] at h
 exact ⟨_,_,by rw [ht,usub_inv h.1],h.2⟩
theorem inv_not {c:CT} {a:Ex} {e:Expr} (h:chkE c (.not a) e=true):∃ x p,e=.UnaryOp .Not x p∧(chkE c a x)=true:=by
 have h:(anyV (asUnaryOp e) fun t=>isNotO t.1 && chkE c a t.2.1)=true:=h
 obtain ⟨t,ht,h⟩:=anyV_inv h
 rw [Bool.and_eq_true] at h
 exact ⟨_,_,by rw [ht,noto_inv h.1],h.2⟩
theorem inv_cmp {c:CT} {op:CmpOp} {a b:Ex} {e:Expr} (h:chkE c (.cmp op a b) e=true):∃ l o r p,e=.Compare l [o] [r] p∧(o==op && chkE c a l && chkE c b r)=true:=by
 have h:(anyV (asCompare e) fun t=>(one t.2.1).any fun o=>(one t.2.2.1).any fun r=>o==op && chkE c a t.1 && chkE c b r)=true:=h
 obtain ⟨t,ht,h⟩:=anyV_inv h
 obtain ⟨o,ho,h⟩:=anyO h
 obtain ⟨r,hr,h⟩:=anyO h
 exact ⟨_,_,_,_,by rw [ht,one_inv ho,one_inv hr],h⟩
theorem inv_chn {c:CT} {op op':CmpOp} {a b d:Ex} {e:Expr} (h:chkE c (.chn op op' a b d) e=true):∃ l o o' m r p,e=.Compare l [o,o'] [m,r] p∧(o==op && o'==op' && chkE c a l && chkE c b m && chkE c d r)=true:=by
 have h:(anyV (asCompare e) fun t=>(two t.2.1).any fun o=>(two t.2.2.1).any fun r=>o.1==op && o.2==op' && chkE c a t.1 && chkE c b r.1 && chkE c d r.2)=true:=h
 obtain ⟨t,ht,h⟩:=anyV_inv h
 obtain ⟨o,ho,h⟩:=anyO h
 obtain ⟨r,hr,h⟩:=anyO h
 exact ⟨_,_,_,_,_,_,by rw [ht,two_inv ho,two_inv hr],h⟩
theorem inv_boo {c:CT} {isAnd:Bool} {x:Ex} {es:Exs} {e:Expr} (h:chkE c (.boo isAnd x es) e=true):∃ op v vs p,e=.BoolOp op (v::vs) p∧(op==(if isAnd then .And else .Or) && chkE c x v && chkEs c es vs)=true:=by
 have h:(anyV (asBoolOp e) fun t=>(hdT t.2.1).any fun v=>t.1==(if isAnd then .And else .Or) && chkE c x v.1 && chkEs c es v.2)=true:=h
 obtain ⟨t,ht,h⟩:=anyV_inv h
 obtain ⟨v,hv,h⟩:=anyO h
 exact ⟨_,_,_,_,by rw [ht,hd_inv hv],h⟩
theorem inv_tup {c:CT} {es:Exs} {e:Expr} (h:chkE c (.tup es) e=true):∃ vs k p,e=.Tuple vs k p∧(chkEs c es vs)=true:=by
 have h:(anyV (asTuple e) fun t=>chkEs c es t.1)=true:=h
 obtain ⟨t,ht,h⟩:=anyV_inv h
 exact ⟨_,_,_,ht,h⟩
theorem inv_lst {c:CT} {fz:Bool} {es:Exs} {e:Expr} (h:chkE c (.lst fz es) e=true):∃ vs p,e=.List vs p∧(chkEs c es vs)=true:=by
 have h:(anyV (asList e) fun t=>chkEs c es t.1)=true:=h
 obtain ⟨t,ht,h⟩:=anyV_inv h
 exact ⟨_,_,ht,h⟩
theorem inv_idx {c:CT} {a i:Ex} {e:Expr} (h:chkE c (.idx a i) e=true):∃ v s p,e=.Subscript v s p∧(chkE c a v && chkE c i s)=true:=by
 have h:(anyV (asSubscript e) fun t=>chkE c a t.1 && chkE c i t.2.1)=true:=h
 obtain ⟨t,ht,h⟩:=anyV_inv h
 exact ⟨_,_,_,ht,h⟩
theorem inv_slc {c:CT} {fz:Bool} {a:Ex} {lo hi:Ox} {e:Expr} (h:chkE c (.slc fz a lo hi) e=true):∃ v l u p' p,e=.Subscript v (.Slice l u none p') p∧(chkE c a v && chkO c lo l && chkO c hi u)=true:=by
 have h:(anyV (asSubscript e) fun t=>anyV (asSlice t.2.1) fun s=>s.2.2.1.isNone && (chkE c a t.1 && chkO c lo s.1 && chkO c hi s.2.1))=true:=h
 obtain ⟨t,ht,h⟩:=anyV_inv h
 obtain ⟨s,hs,h⟩:=anyV_inv h
 rw [Bool.and_eq_true,Option.isNone_iff_eq_none] at h
 exact ⟨_,_,_,_,_,by rw [ht,hs,h.1],h.2⟩
theorem inv_rvs {c:CT} {fz:Bool} {a s:Ex} {e:Expr} (h:chkE c (.rvs fz a s) e=true):∃ v st p' p,e=.Subscript v (.Slice none none (some st) p') p∧(chkE c a v && chkE c s st)=true:=by
 have h:(anyV (asSubscript e) fun t=>anyV (asSlice t.2.1) fun u=>u.1.isNone && u.2.1.isNone && (u.2.2.1.any fun st=>chkE c a t.1 && chkE c s st))=true:=h
 obtain ⟨t,ht,h⟩:=anyV_inv h
 obtain ⟨u,hu,h⟩:=anyV_inv h
 rw [Bool.and_eq_true,Bool.and_eq_true,Option.isNone_iff_eq_none,Option.isNone_iff_eq_none] at h
 obtain ⟨st,hst,h'⟩:=anyO h.2
 exact ⟨_,_,_,_,by rw [ht,hu,h.1.1,h.1.2,hst],h'⟩
theorem inv_call {c:CT} {f:String} {es:Exs} {e:Expr} (h:chkE c (.call f es) e=true):∃ x p args pos,e=.Call (.Name x p) args [] pos∧(x==Str.ofString f && c.glo x && (c.fs.any fun p=>p.1==f && p.2==args.length) && !args.isEmpty && chkEs c es args)=true:=by
 have h:((asCN e).any fun t=>t.1==Str.ofString f && c.glo t.1 && (c.fs.any fun p=>p.1==f && p.2==t.2.2.1.length) && !t.2.2.1.isEmpty && chkEs c es t.2.2.1)=true:=h
 obtain ⟨t,ht,h⟩:=anyO h
 exact ⟨_,_,_,_,asCN_inv ht,h⟩
theorem inv_bcl {c:CT} {f:Bf} {es:Exs} {e:Expr} (h:chkE c (.bcl f es) e=true):∃ x p args pos,e=.Call (.Name x p) args [] pos∧(x==Str.ofString f.name && okBf f && c.glo x && c.bt.contains f.name && !args.isEmpty && chkEs c es args)=true:=by
 have h:((asCN e).any fun t=>t.1==Str.ofString f.name && okBf f && c.glo t.1 && c.bt.contains f.name && !t.2.2.1.isEmpty && chkEs c es t.2.2.1)=true:=h
 obtain ⟨t,ht,h⟩:=anyO h
 exact ⟨_,_,_,_,asCN_inv ht,h⟩
theorem inv_lcl {c:CT} {fz:Bool} {f:Lf} {es:Exs} {e:Expr} (h:chkE c (.lcl fz f es) e=true):∃ x p args pos,e=.Call (.Name x p) args [] pos∧(x==Str.ofString f.name && okLf f && c.glo x && c.bt.contains f.name && !args.isEmpty && chkEs c es args)=true:=by
 have h:((asCN e).any fun t=>t.1==Str.ofString f.name && okLf f && c.glo t.1 && c.bt.contains f.name && !t.2.2.1.isEmpty && chkEs c es t.2.2.1)=true:=h
 obtain ⟨t,ht,h⟩:=anyO h
 exact ⟨_,_,_,_,asCN_inv ht,h⟩
theorem inv_isi {c:CT} {a:Ex} {t:String} {e:Expr} (h:chkE c (.isi a t) e=true):∃ x p v y p' pos,e=.Call (.Name x p) [v,.Name y p'] [] pos∧(x==Str.ofString "isinstance" && c.glo x && c.bt.contains "isinstance" && chkE c a v && y==Str.ofString t && c.glo y && c.bt.contains t && goodT t)=true:=by
 have h:((asCN e).any fun u=>(two u.2.2.1).any fun v=>anyV (asName v.2) fun y=>u.1==Str.ofString "isinstance" && c.glo u.1 && c.bt.contains "isinstance" && chkE c a v.1 && y.1==Str.ofString t && c.glo y.1 && c.bt.contains t && goodT t)=true:=h
 obtain ⟨u,hu,h⟩:=anyO h
 obtain ⟨v,hv,h⟩:=anyO h
 obtain ⟨y,hy,h⟩:=anyV_inv h
 exact ⟨_,_,_,_,_,_,by rw [asCN_inv hu,two_inv hv,hy],h⟩
theorem inv_mth {c:CT} {m:Mf} {o:Ex} {es:Exs} {e:Expr} (h:chkE c (.mth m o es) e=true):∃ v x apos args cpos,e=.Call (.Attribute v x apos) args [] cpos∧(x==Str.ofString m.name && chkE c o v && !isBare v && (apos.endLine==cpos.line) && decide (args.length < 29) && !args.isEmpty && chkEs c es args)=true:=by
 have h:(anyV (asCall e) fun t=>anyV (asAttribute t.1) fun v=>t.2.2.1.isEmpty && (v.2.1==Str.ofString m.name && chkE c o v.1 && !isBare v.1 && (v.2.2.endLine==t.2.2.2.line) && decide (t.2.1.length < 29) && !t.2.1.isEmpty && chkEs c es t.2.1))=true:=h
 obtain ⟨t,ht,h⟩:=anyV_inv h
 obtain ⟨v,hv,h⟩:=anyV_inv h
 rw [Bool.and_eq_true,List.isEmpty_iff] at h
 exact ⟨_,_,_,_,_,by rw [ht,hv,h.1],h.2⟩
theorem inv_comp {c:CT} {fz:Bool} {elt:Ex} {tg:Tg} {it:It'} {cond:Tx} {N:List String} {cap:List (Option Nat)} {e:Expr} (h:chkE c (.comp fz elt tg it cond N cap) e=true):∃ elt' tg' iter ifs as scope pos,e=.ListComp elt' [⟨tg',iter,ifs,as⟩] scope pos∧(decide (as=0) && chkI c it tg' iter && capsOk c.N scope (N.map Str.ofString) cap && scopeOk c scope && nodupB (N.map Str.ofString) && chkG (c.comp (N.map Str.ofString) scope) tg tg' && chkIf (c.comp (N.map Str.ofString) scope) cond ifs && chkE (c.comp (N.map Str.ofString) scope) elt elt')=true:=by
 have h:(anyV (asListComp e) fun t=>(one t.2.1).any fun g=>decide (g.is_async=0) && chkI c it g.target g.iter && capsOk c.N t.2.2.1 (N.map Str.ofString) cap && scopeOk c t.2.2.1 && nodupB (N.map Str.ofString) && chkG (c.comp (N.map Str.ofString) t.2.2.1) tg g.target && ((isYes cond && g.ifs.isEmpty) || (one g.ifs).any fun f=>chkT (c.comp (N.map Str.ofString) t.2.2.1) cond f) && chkE (c.comp (N.map Str.ofString) t.2.2.1) elt t.1)=true:=h
 obtain ⟨t,ht,h⟩:=anyV_inv h
 obtain ⟨⟨tg',iter,ifs,as⟩,hg,h⟩:=anyO h
 exact ⟨t.1,tg',iter,ifs,as,t.2.2.1,t.2.2.2,(ht).trans (by rw [one_inv hg]),h⟩
theorem inv_tnot {c:CT} {t:Tx} {e:Expr} (h:chkT c (.not t) e=true):∃ x p,e=.UnaryOp .Not x p∧(chkT c t x)=true:=by
 have h:(anyV (asUnaryOp e) fun u=>isNotO u.1 && chkT c t u.2.1)=true:=h
 obtain ⟨u,ht,h⟩:=anyV_inv h
 rw [Bool.and_eq_true] at h
 exact ⟨_,_,by rw [ht,noto_inv h.1],h.2⟩
theorem inv_tboo {c:CT} {isAnd:Bool} {x:Tx} {es:Txs} {e:Expr} (h:chkT c (.boo isAnd x es) e=true):∃ op v vs p,e=.BoolOp op (v::vs) p∧(op==(if isAnd then .And else .Or) && chkT c x v && chkTs c es vs)=true:=by
 have h:(anyV (asBoolOp e) fun u=>(hdT u.2.1).any fun v=>u.1==(if isAnd then .And else .Or) && chkT c x v.1 && chkTs c es v.2)=true:=h
 obtain ⟨t,ht,h⟩:=anyV_inv h
 obtain ⟨v,hv,h⟩:=anyO h
 exact ⟨_,_,_,_,by rw [ht,hd_inv hv],h⟩
theorem inv_rng {c:CT} {a:Ex} {tg e:Expr} (h:chkI c (.rng a) tg e=true):∃ x p v pos,e=.Call (.Name x p) [v] [] pos∧(x==Str.ofString "range" && c.glo x && c.bt.contains "range" && chkE c a v)=true:=by
 have h:((asCN e).any fun t=>(one t.2.2.1).any fun v=>t.1==Str.ofString "range" && c.glo t.1 && c.bt.contains "range" && chkE c a v)=true:=h
 obtain ⟨t,ht,h⟩:=anyO h
 obtain ⟨v,hv,h⟩:=anyO h
 exact ⟨_,_,_,_,by rw [asCN_inv ht,one_inv hv],h⟩
theorem inv_enm {c:CT} {a:Ex} {tg e:Expr} (h:chkI c (.enm a) tg e=true):∃ ts k p0 x p v pos,tg=.Tuple ts k p0∧e=.Call (.Name x p) [v] [] pos∧(x==Str.ofString "enumerate" && c.glo x && c.bt.contains "enumerate" && chkE c a v)=true:=by
 have h:(anyV (asTuple tg) fun _=>(asCN e).any fun t=>(one t.2.2.1).any fun v=>t.1==Str.ofString "enumerate" && c.glo t.1 && c.bt.contains "enumerate" && chkE c a v)=true:=h
 obtain ⟨g,hg,h⟩:=anyV_inv h
 obtain ⟨t,ht,h⟩:=anyO h
 obtain ⟨v,hv,h⟩:=anyO h
 exact ⟨_,_,_,_,_,_,_,hg,by rw [asCN_inv ht,one_inv hv],h⟩
theorem inv_zip {c:CT} {a b:Ex} {tg e:Expr} (h:chkI c (.zip a b) tg e=true):∃ ts k p0 x p v v' pos,tg=.Tuple ts k p0∧e=.Call (.Name x p) [v,v'] [] pos∧(x==Str.ofString "zip" && c.glo x && c.bt.contains "zip" && chkE c a v && chkE c b v')=true:=by
 have h:(anyV (asTuple tg) fun _=>(asCN e).any fun t=>(two t.2.2.1).any fun v=>t.1==Str.ofString "zip" && c.glo t.1 && c.bt.contains "zip" && chkE c a v.1 && chkE c b v.2)=true:=h
 obtain ⟨g,hg,h⟩:=anyV_inv h
 obtain ⟨t,ht,h⟩:=anyO h
 obtain ⟨v,hv,h⟩:=anyO h
 exact ⟨_,_,_,_,_,_,_,_,hg,by rw [asCN_inv ht,two_inv hv],h⟩
theorem inv_exp {c:CT} {x:Ex} {st:Stmt} (h:chkS c (.exp x) st=true):∃ e pos,st=.Expr e pos∧(!isComp e && chkE c x e)=true:=by
 have h:(anyV (stExpr st) fun t=>!isComp t.1 && chkE c x t.1)=true:=h
 obtain ⟨t,ht,h⟩:=anyV_inv h
 exact ⟨_,_,ht,h⟩
theorem inv_asg {c:CT} {g:Tg} {x:Ex} {st:Stmt} (h:chkS c (.asg g x) st=true):∃ tg e pos,st=.Assign [tg] e pos∧(chkG c g tg && chkE c x e && asgOk g x e)=true:=by
 have h:(anyV (stAssign st) fun t=>(one t.1).any fun tg=>chkG c g tg && chkE c x t.2.1 && asgOk g x t.2.1)=true:=h
 obtain ⟨t,ht,h⟩:=anyV_inv h
 obtain ⟨g,hg,h⟩:=anyO h
 exact ⟨_,_,_,by rw [ht,one_inv hg],h⟩
theorem inv_set {c:CT} {o i x:Ex} {st:Stmt} (h:chkS c (.set o i x) st=true):∃ o' i' tpos e pos,st=.Assign [.Subscript o' i' tpos] e pos∧(chkE c o o' && chkE c i i' && chkE c x e && !isComp e)=true:=by
 have h:(anyV (stAssign st) fun t=>(one t.1).any fun tg=>anyV (asSubscript tg) fun u=>chkE c o u.1 && chkE c i u.2.1 && chkE c x t.2.1 && !isComp t.2.1)=true:=h
 obtain ⟨t,ht,h⟩:=anyV_inv h
 obtain ⟨g,hg,h⟩:=anyO h
 obtain ⟨u,hu,h⟩:=anyV_inv h
 exact ⟨_,_,_,_,_,by rw [ht,one_inv hg,hu],h⟩
theorem inv_aug {c:CT} {i:Nat} {op:Operator} {x:Ex} {st:Stmt} (h:chkS c (.aug i op x) st=true):∃ y py o e pos,st=.AugAssign (.Name y py) o e pos∧(o==op && (c.N[i]?==some y) && c.sto y && okN y && chkE c x e)=true:=by
 have h:(anyV (stAugAssign st) fun t=>anyV (asName t.1) fun y=>t.2.1==op && (c.N[i]?==some y.1) && c.sto y.1 && okN y.1 && chkE c x t.2.2.1)=true:=h
 obtain ⟨t,ht,h⟩:=anyV_inv h
 obtain ⟨u,hu,h⟩:=anyV_inv h
 exact ⟨_,_,_,_,_,by rw [ht,hu],h⟩
theorem inv_ret {c:CT} {x:Ex} {st:Stmt} (h:chkS c (.ret x) st=true):∃ e pos,st=.Return (some e) pos∧(chkE c x e)=true:=by
 have h:(anyV (stReturn st) fun t=>t.1.any fun e=>chkE c x e)=true:=h
 obtain ⟨t,ht,h⟩:=anyV_inv h
 obtain ⟨e,he,h⟩:=anyO h
 exact ⟨_,_,by rw [ht,he],h⟩
theorem inv_rtn {c:CT}  {st:Stmt} (h:chkS c .rtn st=true):∃ pos,st=.Return none pos∧(true)=true:=by
 have h:(anyV (stReturn st) fun t=>t.1.isNone)=true:=h
 obtain ⟨t,ht,h⟩:=anyV_inv h
 rw [Option.isNone_iff_eq_none] at h
 exact ⟨_,by rw [ht,h],rfl⟩
theorem inv_ite {c:CT} {t:Tx} {a b:Sxs} {st:Stmt} (h:chkS c (.ite t a b) st=true):∃ t' a' b' pos,st=.If t' a' b' pos∧(chkT c t t' && chkSs c a a' && chkSs c b b')=true:=by
 have h:(anyV (stIf st) fun u=>chkT c t u.1 && chkSs c a u.2.1 && chkSs c b u.2.2.1)=true:=h
 obtain ⟨u,ht,h⟩:=anyV_inv h
 exact ⟨_,_,_,_,ht,h⟩
theorem inv_for {c:CT} {g:Tg} {it:It'} {b:Sxs} {st:Stmt} (h:chkS c (.for_ g it b) st=true):∃ tg iter body pos,st=.For tg iter body [] pos∧(chkG c g tg && chkI c it tg iter && chkSs c b body)=true:=by
 have h:(anyV (stFor st) fun t=>t.2.2.2.1.isEmpty && (chkG c g t.1 && chkI c it t.1 t.2.1 && chkSs c b t.2.2.1))=true:=h
 obtain ⟨t,ht,h⟩:=anyV_inv h
 rw [Bool.and_eq_true,List.isEmpty_iff] at h
 exact ⟨_,_,_,_,by rw [ht,h.1],h.2⟩
theorem inv_pas {c:CT}  {st:Stmt} (h:chkS c .pas st=true):∃ pos,st=.Pass pos∧(true)=true:=by
 obtain ⟨⟨t,ht⟩,_⟩:=Option.isSome_iff_exists.mp (show (stPass st).isSome=true from h)
 exact ⟨t,ht,rfl⟩
theorem inv_brk {c:CT}  {st:Stmt} (h:chkS c .brk st=true):∃ pos,st=.Break pos∧(true)=true:=by
 obtain ⟨⟨t,ht⟩,_⟩:=Option.isSome_iff_exists.mp (show (stBreak st).isSome=true from h)
 exact ⟨t,ht,rfl⟩
theorem inv_cnt {c:CT}  {st:Stmt} (h:chkS c .cnt st=true):∃ pos,st=.Continue pos∧(true)=true:=by
 obtain ⟨⟨t,ht⟩,_⟩:=Option.isSome_iff_exists.mp (show (stContinue st).isSome=true from h)
 exact ⟨t,ht,rfl⟩
def okShape:Expr→Bool
 | .Starred ..=>false
 | .Set ..=>false
 | .Slice ..=>false
 | _=>true
theorem chk_shape {c:CT}:∀ (x:Ex) {e:Expr},chkE c x e=true→okShape e=true
 | .frz a,e,h=>chk_shape a (show chkE c a e=true from h)
 | .var _,e,h=>by obtain ⟨_,_,rfl,_⟩:=inv_var h; rfl
 | .cst _,e,h=>by obtain ⟨_,_,_,rfl,_⟩:=inv_cst h; rfl
 | .glb _ _,e,h=>by obtain ⟨_,_,rfl,_⟩:=inv_glb h; rfl
 | .bin _ _ _ _,e,h=>by obtain ⟨_,_,_,_,rfl,_⟩:=inv_bin h; rfl
 | .neg _,e,h=>by obtain ⟨_,_,rfl,_⟩:=inv_neg h; rfl
 | .cmp _ _ _,e,h=>by obtain ⟨_,_,_,_,rfl,_⟩:=inv_cmp h; rfl
 | .chn _ _ _ _ _,e,h=>by obtain ⟨_,_,_,_,_,_,rfl,_⟩:=inv_chn h; rfl
 | .not _,e,h=>by obtain ⟨_,_,rfl,_⟩:=inv_not h; rfl
 | .boo _ _ _,e,h=>by obtain ⟨_,_,_,_,rfl,_⟩:=inv_boo h; rfl
 | .ife _ _ _,_,h=>nomatch (show false=true from h)
 | .tup _,e,h=>by obtain ⟨_,_,_,rfl,_⟩:=inv_tup h; rfl
 | .lst _ _,e,h=>by obtain ⟨_,_,rfl,_⟩:=inv_lst h; rfl
 | .idx _ _,e,h=>by obtain ⟨_,_,_,rfl,_⟩:=inv_idx h; rfl
 | .slc _ _ _ _,e,h=>by obtain ⟨_,_,_,_,_,rfl,_⟩:=inv_slc h; rfl
 | .rvs _ _ _,e,h=>by obtain ⟨_,_,_,_,rfl,_⟩:=inv_rvs h; rfl
 | .call _ _,e,h=>by obtain ⟨_,_,_,_,rfl,_⟩:=inv_call h; rfl
 | .bcl _ _,e,h=>by obtain ⟨_,_,_,_,rfl,_⟩:=inv_bcl h; rfl
 | .lcl _ _ _,e,h=>by obtain ⟨_,_,_,_,rfl,_⟩:=inv_lcl h; rfl
 | .isi _ _,e,h=>by obtain ⟨_,_,_,_,_,_,rfl,_⟩:=inv_isi h; rfl
 | .mth _ _ _,e,h=>by obtain ⟨_,_,_,_,_,rfl,_⟩:=inv_mth h; rfl
 | .comp _ _ _ _ _ _ _,e,h=>by obtain ⟨_,_,_,_,_,_,_,rfl,_⟩:=inv_comp h; rfl
theorem shape_star {e:Expr} (h:okShape e=true):noStar e=true:=by cases e <;> first | rfl | exact nomatch (show false=true from h)
theorem shape_marks {e:Expr} (h:okShape e=true) (op:CmpOp):behindInMarks op e=false:=by cases e <;> first | rfl | exact nomatch (show false=true from h)
theorem shape_folded {e:Expr} (h:okShape e=true) (env:Env) (x:Value):foldedSetIterable e env x=pure x:=by cases e <;> first | rfl | exact nomatch (show false=true from h)
theorem shape_plain {e:Expr} (h:okShape e=true):PlainIx e:=by
 intro o i
 cases e <;> first | rfl | exact nomatch (show false=true from h)
theorem test_plain {e:Expr} (h:plainTest e=true) (env:Env) (whole:Sem Value):isTrue e env whole=(do let v ← whole; standAt e.pos; holding [v] (truthy v)):=by
 cases e with
 | UnaryOp op x p=>cases op <;> first | rfl | exact nomatch (show false=true from h)
 | _=>first | rfl | exact nomatch (show false=true from h)
end RF
namespace RF
open PySem PySem.Spec PyProof.Rows L2
def XV (K:PySem.W.Frag) (H:Hp) (F:FZ) (x:Xn) (cv:Value) (od:Option Addr):Prop:=
 ∃ C,cv=.ref C∧PySem.W.nsIn K mainGlobals (Str.ofString x.cls)=some (some (.ref C))∧
  match x.fld with
  | .non=>True
  | d=>∃ a f v,od=some a∧H a=some (.xd [(f,v)])∧Rep K H F d v
def XR (K:PySem.W.Frag) (H:Hp) (F:FZ) (x:Xn) (EX:XK):Prop:=∀ cv od,XV K H F x cv od→EX cv od H
def PX (K:PySem.W.Frag) (H:Hp) (F:FZ) (EX:XK):EK:=fun x G'=>∀ H' F',Ext H F H' F'→R K H' F' G'→XR K H' F' x EX
theorem el {α β γ:Type} {p q r s:α→β→γ→Prop} {C:Prop} (h:∃ x y z,p x y z∧q x y z∧r x y z∧s x y z) (k:∀ x y z,p x y z→q x y z→r x y z→s x y z→C):C:=by
 obtain ⟨x,y,z,h1,h2,h3,h4⟩:=h
 exact k x y z h1 h2 h3 h4
def lift (K:PySem.W.Frag) (n:Nat) (S:RF.Spec):Sp:=fun vs H Q EX=>vs.length=n∧∃ F G ds,R K H F G∧Reps K H F ds vs∧S.t ds G (PV K H F Q) (PX K H F EX)
structure Bs where
 H:Hp
 F:FZ
structure Stat (Φ:Funs) (CX:CXT) (k:Nat) (c:CT) (E:EK) (B:Bs) (X:Cx):Prop where
 N:X.N=c.N
 nd:X.N.Nodup
 calm:X.calm=true
 own:PassesOwn (model X.prog X.w) X.A X.env X.xe
 kd:X.env.kindOf=fun x=>X.env.scope.names.lookup x
 vis:∀ x,isVis (c.kd.lookup x)=true→Vis X.env.scope x
 cel:∀ x,(c.kd.lookup x=some .cell∨c.kd.lookup x=some .free)→(X.env.kindOf x=some .cell∨X.env.kindOf x=some .free)
 glo:∀ x,c.kd.lookup x=some .globalImplicit→Gl X x
 sto:∀ x,c.sto x=true→Loc X.env.scope x∧(X.fn x=true∨X.env.scope.names.lookup x=some .local)
 room:Room k X.A
 call:∀ f n,(f,n)∈c.fs→∃ fa fd ps,FnOk X.prog X.w X.K X.mg X.base CX k fa fd ps (lift X.K n (Φ f))∧PySem.W.keepIn X.K (.ref fa)=true∧Binds X.K fd ps []∧X.mg (Str.ofString f)=some (.ref fa)
 blt:∀ f,f∈c.bt→X.mg (Str.ofString f)=none
 con:∀ x d,(x,d)∈c.cn→∃ u v,X.mg (Str.ofString x)=some u∧RelV v u∧∀ H F,Rep X.K H F d v
 exc:∃ EX,Passes CX X EX∧Throws X EX∧∀ x G' H' F',E x G'→Ext B.H B.F H' F'→R X.K H' F' G'→XR X.K H' F' x EX
 nox:∀ (Y:Cx),Passes CX Y fun _ _ _=>False
 xcl:∀ C,c.xs.contains C=true→∃ a,X.mg (Str.ofString C)=some (.ref a)∧xclsB X.K a=true∧PySem.W.nsIn X.K mainGlobals (Str.ofString C)=some (some (.ref a))
 trc:c.xs≠[]→CX=CX1 X.prog X.w∧X.stack=X.env::X.outer
def tE (K:PySem.W.Frag) (B:Bs) (w:Env'→DH→(D→DH→Prop)→Prop):TE:=fun σ H Q=>∃ ρ F G,Ext B.H B.F H F∧EnvR K H F ρ σ∧R K H F G∧w ρ G (PV K H F Q)
def tB' (K:PySem.W.Frag) (B:Bs) (w:Env'→DH→(Bool→DH→Prop)→Prop):TT:=fun σ H Q=>∃ ρ F G,Ext B.H B.F H F∧EnvR K H F ρ σ∧R K H F G∧w ρ G (PB K H F Q)
def tL (K:PySem.W.Frag) (B:Bs) (w:Env'→DH→(List D→DH→Prop)→Prop):TA:=fun σ H Q=>∃ ρ F G,Ext B.H B.F H F∧EnvR K H F ρ σ∧R K H F G∧w ρ G (PLs K H F Q)
def POp (K:PySem.W.Frag) (H:Hp) (F:FZ) (Q:Option Int→Hp→Prop):Option Int→DH→Prop:=fun b G'=>∀ H' F',Ext H F H' F'→R K H' F' G'→Q b H'
def tOp' (K:PySem.W.Frag) (B:Bs) (w:Env'→DH→(Option Int→DH→Prop)→Prop):TO:=fun σ H Q=>∃ ρ F G,Ext B.H B.F H F∧EnvR K H F ρ σ∧R K H F G∧w ρ G (POp K H F Q)
theorem peI {X:Cx} {e:Expr} {t t':TE} (h:PE X e t) (i:∀ σ H Q,t' σ H Q→t σ H Q):PE X e t':=fun pins s σ H Q I q=>h pins s σ H Q I (i σ H Q q)
theorem ptI {X:Cx} {e:Expr} {t t':TT} (h:PT X e t) (i:∀ σ H Q,t' σ H Q→t σ H Q):PT X e t':=fun pins s σ H Q I q=>h pins s σ H Q I (i σ H Q q)
theorem pwI {X:Cx} {e:Expr} {t t':TT} (h:PW X e t) (i:∀ σ H Q,t' σ H Q→t σ H Q):PW X e t':=fun wh pins s σ H Q I q=>h wh pins s σ H Q I (i σ H Q q)
theorem paI {X:Cx} {e:List Expr} {t t':TA} (h:PA X e t) (i:∀ σ H Q,t' σ H Q→t σ H Q):PA X e t':=fun pos pins s σ H Q I q=>h pos pins s σ H Q I (i σ H Q q)
section
variable {Φ:Funs} {CX:CXT} {k:Nat} {c:CT} {E:EK} {B:Bs} {X:Cx}
theorem tE_then {K:PySem.W.Frag} {x:Ex} {σ:L2.St} {H:Hp} {F:FZ} {G:DH} {ρ:Env'} {W:D→DH→Prop} {Q:VK} (e0:Ext B.H B.F H F) (he:EnvR K H F ρ σ) (r:R K H F G) (hw:wpE Φ x E ρ G W)
  (h:∀ d G1 H1 F1 v,W d G1→Ext B.H B.F H1 F1→Ext H F H1 F1→EnvR K H1 F1 ρ σ→R K H1 F1 G1→Rep K H1 F1 d v→Q v H1):tE K B (wpE Φ x E) σ H Q:=
 ⟨ρ,F,G,e0,he,r,wpE_mono x (fun d G1 q H1 F1 v x1 r1 rv=>h d G1 H1 F1 v q (e0.trans x1) x1 (he.ext x1) r1 rv) hw⟩
theorem tL_then {K:PySem.W.Frag} {x:Exs} {σ:L2.St} {H:Hp} {F:FZ} {G:DH} {ρ:Env'} {W:List D→DH→Prop} {Q:List V→Hp→Prop} (e0:Ext B.H B.F H F) (he:EnvR K H F ρ σ) (r:R K H F G) (hw:wpEs Φ x E ρ G W)
  (h:∀ d G1 H1 F1 v,W d G1→Ext B.H B.F H1 F1→Ext H F H1 F1→EnvR K H1 F1 ρ σ→R K H1 F1 G1→Reps K H1 F1 d v→Q v H1):tL K B (wpEs Φ x E) σ H Q:=
 ⟨ρ,F,G,e0,he,r,wpEs_mono x (fun d G1 q H1 F1 v x1 r1 rv=>h d G1 H1 F1 v q (e0.trans x1) x1 (he.ext x1) r1 rv) hw⟩
theorem tB_then {K:PySem.W.Frag} {x:Tx} {σ:L2.St} {H:Hp} {F:FZ} {G:DH} {ρ:Env'} {W:Bool→DH→Prop} {Q:Bool→Hp→Prop} (e0:Ext B.H B.F H F) (he:EnvR K H F ρ σ) (r:R K H F G) (hw:wpT Φ x E ρ G W)
  (h:∀ d G1 H1 F1,W d G1→Ext B.H B.F H1 F1→Ext H F H1 F1→EnvR K H1 F1 ρ σ→R K H1 F1 G1→Q d H1):tB' K B (wpT Φ x E) σ H Q:=
 ⟨ρ,F,G,e0,he,r,wpT_mono x (fun d G1 q H1 F1 x1 r1=>h d G1 H1 F1 q (e0.trans x1) x1 (he.ext x1) r1) hw⟩
theorem tO_then {K:PySem.W.Frag} {x:Ox} {σ:L2.St} {H:Hp} {F:FZ} {G:DH} {ρ:Env'} {W:Option Int→DH→Prop} {Q:Option Int→Hp→Prop} (e0:Ext B.H B.F H F) (he:EnvR K H F ρ σ) (r:R K H F G) (hw:wpO Φ x E ρ G W)
  (h:∀ d G1 H1 F1,W d G1→Ext B.H B.F H1 F1→Ext H F H1 F1→EnvR K H1 F1 ρ σ→R K H1 F1 G1→Q d H1):tOp' K B (wpO Φ x E) σ H Q:=
 ⟨ρ,F,G,e0,he,r,wpO_mono x (fun d G1 q H1 F1 x1 r1=>h d G1 H1 F1 q (e0.trans x1) x1 (he.ext x1) r1) hw⟩
theorem PV.later {K:PySem.W.Frag} {H H1:Hp} {F F1:FZ} {Q:VK} {d:D} {G:DH} (h:PV K H F Q d G) (x:Ext H F H1 F1):PV K H1 F1 Q d G:=fun H' F' v x1=>h H' F' v (x.trans x1)
theorem PB.later {K:PySem.W.Frag} {H H1:Hp} {F F1:FZ} {Q:Bool→Hp→Prop} {d:Bool} {G:DH} (h:PB K H F Q d G) (x:Ext H F H1 F1):PB K H1 F1 Q d G:=fun H' F' x1=>h H' F' (x.trans x1)
theorem PB.now {K:PySem.W.Frag} {H:Hp} {F:FZ} {Q:Bool→Hp→Prop} {d:Bool} {G:DH} (h:PB K H F Q d G) (r:R K H F G):Q d H:=h H F (Ext.refl H F) r
theorem hu_of' (S:Stat Φ CX k c E B X):X.A.units + 100 < cLine:=by have:=S.room.un; omega
theorem okN_debug {x:Str} (h:okN x=true):(x==("__debug__":Str))=false:=by
 unfold okN at h
 cases e:x==("__debug__":Str) with
 | false=>rfl
 | true=>rw [e] at h; simp at h
theorem okN_cd {x:Str} (h:okN x=true):(x==("__classdict__":Str))=false:=by
 unfold okN at h
 cases e:x==("__classdict__":Str) with
 | false=>rfl
 | true=>rw [e] at h; simp at h
theorem okN_name {x:Str} (h:okN x=true):x≠"__name__":=by
 unfold okN at h
 intro e
 rw [beq_iff_eq.mpr e] at h
 simp at h
theorem glo_split {x:Str} (h:c.glo x=true):c.kd.lookup x=some .globalImplicit∧okN x=true:=by
 unfold CT.glo at h
 rw [Bool.and_eq_true,beq_iff_eq] at h
 exact h
theorem e_var (S:Stat Φ CX k c E B X) {i:Nat} {e:Expr} (h:chkE c (.var i) e=true):PE X e (tE X.K B (wpE Φ (.var i) E)):=by
 replace h:=inv_var h
 obtain ⟨x,pos,rfl,h⟩:=h
 ·rw [Bool.and_eq_true,Bool.and_eq_true,beq_iff_eq] at h
  refine peI (pe_var (i:=i) (by rw [S.N]; exact h.1.1) (S.vis x h.1.2) (okN_debug h.2) (okN_cd h.2)) fun σ H Q q=>?_
  obtain ⟨ρ,F,G,_,he,r,hw⟩:=q
  rw [wE_var] at hw
  split at hw
  ·rename_i d hd
   obtain ⟨v,e1,rv⟩:=he.get hd
   exact ⟨v,e1,hw.now r rv⟩
  ·exact hw.elim
theorem e_cst (S:Stat Φ CX k c E B X) {d:D} {e:Expr} (h:chkE c (.cst d) e=true):PE X e (tE X.K B (wpE Φ (.cst d) E)):=by
 replace h:=inv_cst h
 obtain ⟨kk,_,_,rfl,h⟩:=h
 ·unfold cnOf at h
  split at h
  ·exact peI pe_non fun σ H Q hq=>el hq fun ρ F G _ he r hw=>by rw [wE_cst] at hw; exact hw.now r rfl
  ·rw [beq_iff_eq] at h
   subst h
   exact peI pe_bl fun σ H Q hq=>el hq fun ρ F G _ he r hw=>by rw [wE_cst] at hw; exact hw.now r rfl
  ·rw [beq_iff_eq] at h
   subst h
   exact peI pe_int fun σ H Q hq=>el hq fun ρ F G _ he r hw=>by rw [wE_cst] at hw; exact hw.now r rfl
  ·rename_i l b
   rw [Bool.and_eq_true,beq_iff_eq,decide_eq_true_iff] at h
   refine peI pe_str fun σ H Q hq=>el hq fun ρ F G _ he r hw=>?_
   rw [wE_cst] at hw
   refine hw.now r ⟨?_,h.2⟩
   rw [h.1,← tx_of]
  ·cases h
theorem e_glb (S:Stat Φ CX k c E B X) {x:String} {d:D} {e:Expr} (h:chkE c (.glb x d) e=true):PE X e (tE X.K B (wpE Φ (.glb x d) E)):=by
 replace h:=inv_glb h
 obtain ⟨y,pos,rfl,h⟩:=h
 ·rw [Bool.and_eq_true,Bool.and_eq_true,beq_iff_eq,List.any_eq_true] at h
  obtain ⟨⟨e1,h1⟩,⟨x',d'⟩,hm,h2⟩:=h
  rw [Bool.and_eq_true,beq_iff_eq] at h2
  obtain ⟨e2,e3⟩:=h2
  have e3:=sEq_eq e3
  simp only at e2 e3
  subst e1 e2 e3
  obtain ⟨g1,g2⟩:=glo_split h1
  obtain ⟨u,v,hu,ru,hr⟩:=S.con _ _ hm
  exact peI (pe_glob (S.glo _ g1) hu ru (okN_debug g2)) fun σ H Q hq=>el hq fun ρ F G _ he r hw=>by rw [wE_glb] at hw; exact hw.now r (hr H F)
theorem e_bin (S:Stat Φ CX k c E B X) {op:Operator} {fz:Bool} {a b:Ex} (iha:∀ {e},chkE c a e=true→PE X e (tE X.K B (wpE Φ a E))) (ihb:∀ {e},chkE c b e=true→PE X e (tE X.K B (wpE Φ b E))) {e:Expr}
  (h:chkE c (.bin op fz a b) e=true):PE X e (tE X.K B (wpE Φ (.bin op fz a b) E)):=by
 replace h:=inv_bin h
 obtain ⟨l,o,r,pos,rfl,h⟩:=h
 ·rw [Bool.and_eq_true,Bool.and_eq_true,beq_iff_eq] at h
  obtain ⟨⟨e1,h1⟩,h2⟩:=h
  subst e1
  refine peI (pe_op (op_bin _ fz) (iha h1) (ihb h2)) fun σ H Q hq=>el hq fun ρ F G e0 he r hw=>?_
  rw [wE_bin] at hw
  refine tE_then e0 he r hw fun x G1 H1 F1 v q e1 x1 he1 r1 rv=>tE_then e1 he1 r1 q fun y G2 H2 F2 u q e2 x2 he2 r2 ru=>?_
  exact ⟨F2,G2,x,y,r2,Rep.ext x2 rv,ru,opBin_mono (fun d G' z=>PV.later z (x1.trans x2)) q⟩
theorem e_neg (S:Stat Φ CX k c E B X) {a:Ex} (iha:∀ {e},chkE c a e=true→PE X e (tE X.K B (wpE Φ a E))) {e:Expr} (h:chkE c (.neg a) e=true):PE X e (tE X.K B (wpE Φ (.neg a) E)):=by
 replace h:=inv_neg h
 obtain ⟨_,_,rfl,h⟩:=h
 ·refine peI (pe_un un_neg (iha h)) fun σ H Q hq=>el hq fun ρ F G e0 he r hw=>?_
  rw [wE_neg] at hw
  refine tE_then e0 he r hw fun x G1 H1 F1 v q e1 x1 he1 r1 rv=>?_
  split at q
  ·have e2:v=.int _:=rv
   subst e2
   exact ⟨_,rfl,q _ _ _ x1 r1 rfl⟩
  ·exact q.elim
theorem e_cmp (S:Stat Φ CX k c E B X) {op:CmpOp} {a b:Ex} (iha:∀ {e},chkE c a e=true→PE X e (tE X.K B (wpE Φ a E))) (ihb:∀ {e},chkE c b e=true→PE X e (tE X.K B (wpE Φ b E))) {e:Expr}
  (h:chkE c (.cmp op a b) e=true):PE X e (tE X.K B (wpE Φ (.cmp op a b) E))∧PT X e (tB' X.K B (wpT Φ (.val (.cmp op a b)) E)):=by
 replace h:=inv_cmp h
 obtain ⟨l,o,r,pos,rfl,h⟩:=h
 ·rw [Bool.and_eq_true,Bool.and_eq_true,beq_iff_eq] at h
  obtain ⟨⟨e1,h1⟩,h2⟩:=h
  subst e1
  have hm:=shape_marks (chk_shape b h2) o
  refine ⟨peI (pe_cmpR (op_cmp _ (hu_of' S)) (iha h1) (ihb h2) hm) fun σ H Q hq=>el hq fun ρ F G e0 he r hw=>?_,ptI (pt_cmpR (op_cmp _ (hu_of' S)) (iha h1) (ihb h2) hm) fun σ H Q hq=>el hq fun ρ F G e0 he r hw=>?_⟩
  ·rw [wE_cmp] at hw
   refine tE_then e0 he r hw fun x G1 H1 F1 v q e1 x1 he1 r1 rv=>tE_then e1 he1 r1 q fun y G2 H2 F2 u q e2 x2 he2 r2 ru=>?_
   exact ⟨F2,G2,x,y,r2,Rep.ext x2 rv,ru,opCmp_mono (fun d z=>PV.later z (x1.trans x2)) q⟩
  ·rw [wpT,wpE] at hw
   refine tE_then e0 he r hw fun x G1 H1 F1 v q e1 x1 he1 r1 rv=>tE_then e1 he1 r1 q fun y G2 H2 F2 u q e2 x2 he2 r2 ru=>?_
   refine ⟨F2,G2,x,y,r2,Rep.ext x2 rv,ru,opCmp_mono (fun d z=>?_) q⟩
   intro H' F' v' x' r' rv'
   have e3:v'=.bl d:=rv'
   exact ⟨d,e3,z H' F' ((x1.trans x2).trans x') r'⟩
theorem e_chn (S:Stat Φ CX k c E B X) {op op':CmpOp} {a b d:Ex} (iha:∀ {e},chkE c a e=true→PE X e (tE X.K B (wpE Φ a E))) (ihb:∀ {e},chkE c b e=true→PE X e (tE X.K B (wpE Φ b E))) (ihd:∀ {e},chkE c d e=true→PE X e (tE X.K B (wpE Φ d E))) {e:Expr}
  (h:chkE c (.chn op op' a b d) e=true):PE X e (tE X.K B (wpE Φ (.chn op op' a b d) E))∧PT X e (tB' X.K B (wpT Φ (.val (.chn op op' a b d)) E)):=by
 replace h:=inv_chn h
 obtain ⟨l,o,o',m,r,pos,rfl,h⟩:=h
 ·simp only [Bool.and_eq_true,beq_iff_eq] at h
  obtain ⟨⟨⟨⟨e1,e2⟩,h1⟩,h2⟩,h3⟩:=h
  subst e1 e2
  have hm:lastMarks [o,o'] [m,r]=false:=shape_marks (chk_shape d h3) o'
  have go:∀ {σ H Q ρ F G} {W:Bool→DH→Prop},Ext B.H B.F H F→EnvR X.K H F ρ σ→R X.K H F G→
    wpE Φ a E ρ G (fun x G1=>wpE Φ b E ρ G1 fun y G2=>opCmp o (view G2 x) (view G2 y) fun t=>match t with | true=>wpE Φ d E ρ G2 fun z G3=>opCmp o' (view G3 y) (view G3 z) fun t'=>W t' G3 | false=>W false G2)→
    (∀ t G' H' F',W t G'→Ext H F H' F'→R X.K H' F' G'→Q (.bl t) H')→
    tChain (rC2 X.K (opCmp o)) (rC2 X.K (opCmp o')) (tE X.K B (wpE Φ a E)) (tE X.K B (wpE Φ b E)) (tE X.K B (wpE Φ d E)) σ H Q:=by
   intro σ H Q ρ F G W e0 he r hw fin
   refine tE_then e0 he r hw fun x G1 H1 F1 v q e1 x1 he1 r1 rv=>tE_then e1 he1 r1 q fun y G2 H2 F2 u q e2 x2 he2 r2 ru=>?_
   refine ⟨F2,G2,x,y,r2,Rep.ext x2 rv,ru,opCmp_mono (fun t q=>?_) q⟩
   intro H3 F3 v3 x3 r3 rv3
   have e3:v3=.bl t:=rv3
   refine ⟨t,e3,?_⟩
   cases t with
   | true=>
    rw [if_pos rfl]
    refine tE_then (e2.trans x3) (he2.ext x3) r3 q fun z G4 H4 F4 v4 q e4 x4 he4 r4 rv4=>?_
    refine ⟨F4,G4,y,z,r4,Rep.ext (x3.trans x4) ru,rv4,opCmp_mono (fun t' q=>?_) q⟩
    intro H5 F5 v5 x5 r5 rv5
    have e5:v5=.bl t':=rv5
    subst e5
    exact fin _ _ _ _ q ((((x1.trans x2).trans x3).trans x4).trans x5) r5
   | false=>
    rw [if_neg Bool.false_ne_true]
    exact fin _ _ _ _ q ((x1.trans x2).trans x3) r3
  refine ⟨peI (pe_chain (op_cmp _ (hu_of' S)) (op_cmp _ (hu_of' S)) (iha h1) (ihb h2) (ihd h3) hm) fun σ H Q hq=>el hq fun ρ F G e0 he r hw=>?_,ptI (pt_chain (op_cmp _ (hu_of' S)) (op_cmp _ (hu_of' S)) (iha h1) (ihb h2) (ihd h3) hm) fun σ H Q hq=>el hq fun ρ F G e0 he r hw=>?_⟩
  ·rw [wE_chn] at hw
   exact go (W:=fun t G'=>PV X.K H F Q (.bl t) G') e0 he r hw fun t G' H' F' z x' r'=>z H' F' _ x' r' rfl
  ·rw [wpT,wpE] at hw
   refine go (W:=fun t G'=>PB X.K H F Q t G') e0 he r hw fun t G' H' F' z x' r'=>⟨t,rfl,z H' F' x' r'⟩
end
end RF
namespace RF
open PySem PySem.Spec PyProof.Rows L2
section
variable {Φ:Funs} {CX:CXT} {k:Nat} {c:CT} {E:EK} {B:Bs} {X:Cx}
abbrev OkE (Φ:Funs) (c:CT) (E:EK) (B:Bs) (X:Cx) (x:Ex):Prop:=∀ {e:Expr},chkE c x e=true→PE X e (tE X.K B (wpE Φ x E))
abbrev OkEs (Φ:Funs) (c:CT) (E:EK) (B:Bs) (X:Cx) (x:Exs):Prop:=∀ {es:List Expr},chkEs c x es=true→PA X es (tL X.K B (wpEs Φ x E))
abbrev OkT (Φ:Funs) (c:CT) (E:EK) (B:Bs) (X:Cx) (x:Tx):Prop:=∀ {e:Expr},chkT c x e=true→PT X e (tB' X.K B (wpT Φ x E))
theorem e_not (S:Stat Φ CX k c E B X) {a:Ex} (iha:OkE Φ c E B X a) {e:Expr} (h:chkE c (.not a) e=true):PE X e (tE X.K B (wpE Φ (.not a) E)):=by
 replace h:=inv_not h
 obtain ⟨_,_,rfl,h⟩:=h
 ·intro pins s σ H Q I q
  obtain ⟨ρ,F,G,e0,he,r,hw⟩:=q
  rw [wE_not] at hw
  have q':tE X.K B (wpE Φ a E) σ H (fun x H1=>∃ b,TruV X.K x H1 b∧Q (.bl (!b)) H1):=tE_then e0 he r hw fun x G1 H1 F1 v q e1 x1 he1 r1 rv=>by
   split at q
   ·rename_i b hb
    exact ⟨b,tru_D r1 rv hb,q _ _ _ x1 r1 rfl⟩
   ·exact q.elim
  refine UnaryOp_ (thn (iha h pins s σ H _ I q') fun v s1 ⟨x,H1,I1,r1,b,tb,q1⟩=>?_)
  refine not_of (thn (tru_ok pins s1 σ H1 x v (fun b' H'=>Q (.bl (!b')) H') I1 r1 ⟨b,tb,q1⟩) fun b' s2 ⟨H2,I2,q2⟩=>?_)
  exact ⟨.bl (!b'),H2,I2,rfl,q2⟩
theorem es_nil {es:List Expr} (h:chkEs c .nil es=true):PA X es (tL X.K B (wpEs Φ .nil E)):=by
 unfold chkEs at h
 cases es with
 | nil=>exact paI pa_nil fun σ H Q hq=>el hq fun ρ F G e0 he r hw=>by rw [wEs_nil] at hw; exact hw H F [] (Ext.refl _ _) r rfl
 | cons _ _=>cases h
theorem es_cons {x:Ex} {xs:Exs} (ih:OkE Φ c E B X x) (ihs:OkEs Φ c E B X xs) {es:List Expr} (h:chkEs c (.cons x xs) es=true):PA X es (tL X.K B (wpEs Φ (.cons x xs) E)):=by
 unfold chkEs at h
 split at h
 ·rename_i e es
  rw [Bool.and_eq_true] at h
  refine paI (pa_cons (ih h.1) (ihs h.2) (starEach_cons e es X.env (shape_star (chk_shape x h.1)))) fun σ H Q hq=>el hq fun ρ F G e0 he r hw=>?_
  rw [wEs_cons] at hw
  refine tE_then e0 he r hw fun d G1 H1 F1 v q e1 x1 he1 r1 rv=>tL_then e1 he1 r1 q fun ds G2 H2 F2 vs q e2 x2 he2 r2 rvs=>?_
  exact q H2 F2 _ (x1.trans x2) r2 ⟨v,vs,rfl,Rep.ext x2 rv,rvs⟩
 ·cases h
theorem e_tup (S:Stat Φ CX k c E B X) {es:Exs} (ih:OkEs Φ c E B X es) {e:Expr} (h:chkE c (.tup es) e=true):PE X e (tE X.K B (wpE Φ (.tup es) E)):=by
 replace h:=inv_tup h
 obtain ⟨_,_,_,rfl,h⟩:=h
 ·refine peI (pe_tup (ih h)) fun σ H Q hq=>el hq fun ρ F G e0 he r hw=>?_
  rw [wE_tup] at hw
  refine tL_then e0 he r hw fun ds G1 H1 F1 vs q e1 x1 he1 r1 rvs=>⟨by rw [← rvs.length]; exact le_szl q.1,tup_ok (PV.later q.2 x1) r1 rvs⟩
theorem e_lst (S:Stat Φ CX k c E B X) {fz:Bool} {es:Exs} (ih:OkEs Φ c E B X es) {e:Expr} (h:chkE c (.lst fz es) e=true):PE X e (tE X.K B (wpE Φ (.lst fz es) E)):=by
 replace h:=inv_lst h
 obtain ⟨_,_,rfl,h⟩:=h
 ·refine peI (pe_lst (ih h)) fun σ H Q hq=>el hq fun ρ F G e0 he r hw=>?_
  rw [wE_lst] at hw
  refine tL_then e0 he r hw fun ds G1 H1 F1 vs q e1 x1 he1 r1 rvs=>⟨by rw [← rvs.length]; exact le_szl q.1,mk_ok (mk_mono (fun d G' z=>PV.later z x1) q.2) r1 rvs⟩
theorem e_idx (S:Stat Φ CX k c E B X) {a i:Ex} (iha:OkE Φ c E B X a) (ihi:OkE Φ c E B X i) {e:Expr} (h:chkE c (.idx a i) e=true):PE X e (tE X.K B (wpE Φ (.idx a i) E)):=by
 replace h:=inv_idx h
 obtain ⟨_,_,_,rfl,h⟩:=h
 ·rw [Bool.and_eq_true] at h
  refine peI (pe_ix ix_ok (iha h.1) (ihi h.2) (shape_plain (chk_shape i h.2))) fun σ H Q hq=>el hq fun ρ F G e0 he r hw=>?_
  rw [wE_idx] at hw
  refine tE_then e0 he r hw fun x G1 H1 F1 v q e1 x1 he1 r1 rv=>tE_then e1 he1 r1 q fun y G2 H2 F2 u q e2 x2 he2 r2 ru=>?_
  exact ⟨F2,G2,x,y,r2,Rep.ext x2 rv,ru,opIdx_mono (fun d z=>PV.later z (x1.trans x2)) q⟩
theorem o_ok {lo:Ox} (ih:∀ x,lo=.ob x→OkE Φ c E B X x) {l:Option Expr} (h:chkO c lo l=true):PO X l (tOp' X.K B (wpO Φ lo E)):=by
 cases lo with
 | no=>
  unfold chkO at h
  cases l with
  | none=>
   intro pins s σ H Q I q
   refine po_none pins s σ H Q I ?_
   obtain ⟨ρ,F,G,e0,he,r,hw⟩:=q
   rw [wO_no] at hw
   exact hw H F (Ext.refl _ _) r
  | some _=>cases h
 | ob x=>
  unfold chkO at h
  split at h
  ·intro pins s σ H Q I q
   refine po_some (ih x rfl h) pins s σ H Q I ?_
   obtain ⟨ρ,F,G,e0,he,r,hw⟩:=q
   rw [wO_ob] at hw
   refine tE_then e0 he r hw fun d G1 H1 F1 v q e1 x1 he1 r1 rv=>?_
   split at q
   ·have e2:v=.int _:=rv
    exact ⟨_,e2,q H1 F1 x1 r1⟩
   ·exact q.elim
  ·cases h
theorem e_slc (S:Stat Φ CX k c E B X) {fz:Bool} {a:Ex} {lo hi:Ox} (iha:OkE Φ c E B X a) (ihl:∀ x,lo=.ob x→OkE Φ c E B X x) (ihh:∀ x,hi=.ob x→OkE Φ c E B X x) {e:Expr} (h:chkE c (.slc fz a lo hi) e=true):
  PE X e (tE X.K B (wpE Φ (.slc fz a lo hi) E)):=by
 replace h:=inv_slc h
 obtain ⟨_,_,_,_,_,rfl,h⟩:=h
 ·rw [Bool.and_eq_true,Bool.and_eq_true] at h
  refine peI (pe_slice (sl_ok fz) (iha h.1.1) (o_ok ihl h.1.2) (o_ok ihh h.2)) fun σ H Q hq=>el hq fun ρ F G e0 he r hw=>?_
  rw [wE_slc] at hw
  refine tE_then e0 he r hw fun x G1 H1 F1 v q e1 x1 he1 r1 rv=>tO_then e1 he1 r1 q fun l G2 H2 F2 q e2 x2 he2 r2=>tO_then e2 he2 r2 q fun u G3 H3 F3 q e3 x3 he3 r3=>?_
  exact ⟨F3,G3,x,r3,Rep.ext (x2.trans x3) rv,opSlc_mono (fun d G' z=>PV.later z ((x1.trans x2).trans x3)) q⟩
theorem e_rvs (S:Stat Φ CX k c E B X) {fz:Bool} {a s:Ex} (iha:OkE Φ c E B X a) (ihs:OkE Φ c E B X s) {e:Expr} (h:chkE c (.rvs fz a s) e=true):PE X e (tE X.K B (wpE Φ (.rvs fz a s) E)):=by
 replace h:=inv_rvs h
 obtain ⟨_,_,_,_,rfl,h⟩:=h
 rw [Bool.and_eq_true] at h
 refine peI (pe_back (iha h.1) (ihs h.2)) fun σ H Q hq=>el hq fun ρ F G e0 he r hw=>?_
 rw [wE_rvs] at hw
 refine tE_then e0 he r hw fun x G1 H1 F1 v q e1 x1 he1 r1 rv=>tE_then e1 he1 r1 q fun y G2 H2 F2 u q e2 x2 he2 r2 ru=>?_
 have q:=opRvs_mono (fun d G' z=>PV.later z (x1.trans x2)) q
 have rv2:=Rep.ext x2 rv
 generalize ea:view G2 x=va at q
 unfold opRvs at q
 split at q
 ·obtain ⟨p,vs,e,sq,t⟩:=Rep.list r2 rv2 ea
  have ey:=q.1
  subst ey
  exact ⟨ru,p,vs,e,sq,mk_ok q.2 r2 t.reverse⟩
 ·exact q.elim
theorem e_frz (S:Stat Φ CX k c E B X) {a:Ex} (iha:OkE Φ c E B X a) {e:Expr} (h:chkE c (.frz a) e=true):PE X e (tE X.K B (wpE Φ (.frz a) E)):=by
 have h:chkE c a e=true:=h
 refine peI (iha h) fun σ H Q hq=>el hq fun ρ F G e0 he r hw=>?_
 rw [wE_frz] at hw
 refine tE_then e0 he r hw fun x G1 H1 F1 v q e1 x1 he1 r1 rv=>?_
 split at q
 ·rename_i p
  have e2:v=.ref p:=rv
  subst e2
  split at q
  ·rename_i ds hg
   exact q _ _ _ (x1.trans ext_frz) (r1.frz hg) (rep_frz r1 hg)
  ·exact q.elim
 ·exact q _ _ _ x1 r1 rv
theorem any_false {es:List Expr} {xs:Exs} (h:chkEs c xs es=true) (env:Env) (pos:Pos):(backTo pos (starEach es env)).any (·.1)=false:=by
 induction es generalizing xs with
 | nil=>rfl
 | cons e es ih=>
  cases xs with
  | nil=>unfold chkEs at h; cases h
  | cons x xs=>
   unfold chkEs at h
   rw [Bool.and_eq_true] at h
   rw [starEach_cons e es env (shape_star (chk_shape x h.1))]
   show (false || (backTo pos (starEach es env)).any (·.1))=false
   rw [ih h.2]; rfl
theorem chkEs_head {e:Expr} {es:List Expr} {xs:Exs} (h:chkEs c xs (e::es)=true):∃ x xs',xs=.cons x xs'∧chkE c x e=true∧chkEs c xs' es=true:=by
 cases xs with
 | nil=>unfold chkEs at h; cases h
 | cons x xs'=>
  unfold chkEs at h
  rw [Bool.and_eq_true] at h
  exact ⟨x,xs',rfl,h.1,h.2⟩
theorem wpEs_len {ρ:Env'}:∀ (xs:Exs) {es:List Expr} {G:DH} {Q:List D→DH→Prop},chkEs c xs es=true→wpEs Φ xs E ρ G Q→wpEs Φ xs E ρ G (fun ds G'=>ds.length=es.length∧Q ds G')
 | .nil,es,G,Q,h,q=>by
  unfold chkEs at h
  rw [wEs_nil] at q ⊢
  cases es with
  | nil=>exact ⟨rfl,q⟩
  | cons _ _=>cases h
 | .cons x xs,es,G,Q,h,q=>by
  unfold chkEs at h
  split at h
  ·rename_i e es
   rw [Bool.and_eq_true] at h
   rw [wEs_cons] at q ⊢
   refine wpE_mono x (fun d G1 q=>wpEs_mono xs (fun ds G2 z=>?_) (wpEs_len xs h.2 q)) q
   exact ⟨by simp [z.1],z.2⟩
  ·cases h
theorem e_call (S:Stat Φ CX k c E B X) {f:String} {xs:Exs} (ih:OkEs Φ c E B X xs) {e:Expr} (h:chkE c (.call f xs) e=true):PE X e (tE X.K B (wpE Φ (.call f xs) E)):=by
 replace h:=inv_call h
 obtain ⟨x,p,args,pos,rfl,h⟩:=h
 ·simp only [Bool.and_eq_true,beq_iff_eq,List.any_eq_true] at h
  obtain ⟨⟨⟨⟨e1,h1⟩,⟨f',n⟩,hm,e2,e3⟩,h2⟩,h3⟩:=h
  simp only at e2 e3
  subst e1 e2 e3
  obtain ⟨g1,g2⟩:=glo_split h1
  obtain ⟨fa,fd,ps,F0,hk,hb,hmg⟩:=S.call _ _ hm
  obtain ⟨EX,hpass,_,hEX⟩:=S.exc
  cases args with
  | nil=>cases h2
  | cons e es=>
   obtain ⟨x0,xs',rfl,c1,c2⟩:=chkEs_head h3
   refine peI (pe_call F0 S.room (S.glo _ g1) hmg hk hb .nil hpass (ih h3) (okN_debug g2) (starEach_cons e es X.env (shape_star (chk_shape x0 c1))) (any_false c2 X.env pos)) fun σ H Q hq=>el hq fun ρ F G e0 he r hw=>?_
   rw [wE_call] at hw
   refine tL_then e0 he r (wpEs_len _ h3 hw) fun ds G1 H1 F1 vs q e1 x1 he1 r1 rvs=>?_
   rw [List.append_nil]
   refine ⟨by rw [← rvs.length]; exact q.1,F1,G1,ds,r1,rvs,Spec.mono q.2 (fun d G' z=>PV.later z x1) fun x G' z H' F' x' r'=>?_⟩
   exact hEX x G' H' F' z (e1.trans x') r'
theorem e_bcl (S:Stat Φ CX k c E B X) {f:Bf} {xs:Exs} (ih:OkEs Φ c E B X xs) {e:Expr} (h:chkE c (.bcl f xs) e=true):PE X e (tE X.K B (wpE Φ (.bcl f xs) E)):=by
 replace h:=inv_bcl h
 obtain ⟨x,p,args,pos,rfl,h⟩:=h
 ·simp only [Bool.and_eq_true,beq_iff_eq] at h
  obtain ⟨⟨⟨⟨⟨e1,hok⟩,h1⟩,hm⟩,h2⟩,h3⟩:=h
  subst e1
  obtain ⟨g1,g2⟩:=glo_split h1
  have hmg:=S.blt _ (List.contains_iff_mem.mp hm)
  cases args with
  | nil=>cases h2
  | cons e es=>
   obtain ⟨x0,xs',rfl,c1,c2⟩:=chkEs_head h3
   have hs:=starEach_cons e es X.env (shape_star (chk_shape x0 c1))
   have ha:=any_false c2 X.env pos
   have go:∀ σ H Q,tE X.K B (wpE Φ (.bcl f (.cons x0 xs')) E) σ H Q→tCB (rBuilt X.K f) (tL X.K B (wpEs Φ (.cons x0 xs') E)) σ H Q:=fun σ H Q hq=>el hq fun ρ F G e0 he r hw=>by
    rw [wE_bcl] at hw
    refine tL_then e0 he r hw fun ds G1 H1 F1 vs q e1 x1 he1 r1 rvs=>?_
    exact ⟨F1,G1,ds,r1,rvs,opB_mono (fun d z=>PV.later z x1) q⟩
   cases f with
   | len=>exact peI (pe_callB b_len (S.glo _ g1) hmg PySem.boot_len (ih h3) (okN_name g2) (okN_debug g2) hs ha) go
   | all=>exact peI (pe_callB (b_all S.calm) (S.glo _ g1) hmg boot_all' (ih h3) (okN_name g2) (okN_debug g2) hs ha) go
   | int=>exact peI (pe_callTy b_int (S.glo _ g1) hmg bt_int (ih h3) (okN_name g2) (okN_debug g2) hs ha) go
   | tuple=>exact peI (pe_callTy b_tuple (S.glo _ g1) hmg (by decide +kernel) (ih h3) (okN_name g2) (okN_debug g2) hs ha) go
   | sum=>cases hok
   | min=>cases hok
   | max=>exact peI (pe_callB (b_max S.calm) (S.glo _ g1) hmg boot_max' (ih h3) (okN_name g2) (okN_debug g2) hs ha) go
theorem e_lcl (S:Stat Φ CX k c E B X) {fz:Bool} {f:Lf} {xs:Exs} (ih:OkEs Φ c E B X xs) {e:Expr} (h:chkE c (.lcl fz f xs) e=true):PE X e (tE X.K B (wpE Φ (.lcl fz f xs) E)):=by
 replace h:=inv_lcl h
 obtain ⟨x,p,args,pos,rfl,h⟩:=h
 ·simp only [Bool.and_eq_true,beq_iff_eq] at h
  obtain ⟨⟨⟨⟨⟨e1,hok⟩,h1⟩,hm⟩,h2⟩,h3⟩:=h
  subst e1
  obtain ⟨g1,g2⟩:=glo_split h1
  have hmg:=S.blt _ (List.contains_iff_mem.mp hm)
  cases args with
  | nil=>cases h2
  | cons e es=>
   obtain ⟨x0,xs',rfl,c1,c2⟩:=chkEs_head h3
   have hs:=starEach_cons e es X.env (shape_star (chk_shape x0 c1))
   have ha:=any_false c2 X.env pos
   have go:∀ σ H Q,tE X.K B (wpE Φ (.lcl fz f (.cons x0 xs')) E) σ H Q→tCB (rBuiltL X.K fz f) (tL X.K B (wpEs Φ (.cons x0 xs') E)) σ H Q:=fun σ H Q hq=>el hq fun ρ F G e0 he r hw=>by
    rw [wE_lcl] at hw
    refine tL_then e0 he r hw fun ds G1 H1 F1 vs q e1 x1 he1 r1 rvs=>?_
    exact ⟨F1,G1,ds,r1,rvs,opBL_mono (fun d z=>mk_mono (fun d G' z=>PV.later z x1) z) q⟩
   cases f with
   | list=>exact peI (pe_callTy (b_list S.calm fz) (S.glo _ g1) hmg bt_list (ih h3) (okN_name g2) (okN_debug g2) hs ha) go
   | sorted=>cases hok
theorem boot_ty {t:String} (h:goodT t=true):bootBuiltins (Str.ofString t)=some (.type t):=by
 simp only [goodT,Bool.or_eq_true,beq_iff_eq] at h
 rcases h with (((rfl | rfl) | rfl) | rfl) | rfl
 ·exact bt_bool
 ·exact bt_int
 ·exact bt_str
 ·decide +kernel
 ·exact bt_list
theorem e_isi (S:Stat Φ CX k c E B X) {a:Ex} {t:String} (iha:OkE Φ c E B X a) {e:Expr} (h:chkE c (.isi a t) e=true):PE X e (tE X.K B (wpE Φ (.isi a t) E)):=by
 replace h:=inv_isi h
 obtain ⟨x,p,v,y,p2,pos,rfl,h⟩:=h
 ·simp only [Bool.and_eq_true,beq_iff_eq] at h
  obtain ⟨⟨⟨⟨⟨⟨⟨e1,h1⟩,hm1⟩,h2⟩,e2⟩,h3⟩,hm2⟩,h4⟩:=h
  subst e1 e2
  obtain ⟨g1,g2⟩:=glo_split h1
  obtain ⟨g3,g4⟩:=glo_split h3
  have hmg:=S.blt _ (List.contains_iff_mem.mp hm1)
  have hmt:=S.blt _ (List.contains_iff_mem.mp hm2)
  have hty:PE X (.Name (Str.ofString t) p2) (tC (.ty t)):=pe_ty (S.glo _ g3) hmt (boot_ty h4) (okN_name g4) (okN_debug g4)
  have sv:=shape_star (chk_shape a h2)
  refine peI (pe_callB call_inst (S.glo _ g1) hmg bt_isinst (pa_cons (iha h2) (pa_cons hty pa_nil (starEach_cons _ _ _ rfl)) (starEach_cons _ _ _ sv)) (okN_name g2) (okN_debug g2) (starEach_cons _ _ _ sv) rfl) fun σ H Q hq=>el hq fun ρ F G e0 he r hw=>?_
  rw [wE_isi] at hw
  refine tE_then e0 he r hw fun d G1 H1 F1 v q e1 x1 he1 r1 rv=>?_
  split at q
  ·rename_i b hb
   obtain ⟨T,hk,hT,hb'⟩:=isT_kind hb
   refine ⟨v,t,.type T,b,rfl,ty_D r1 rv hk,?_,q _ _ _ x1 r1 rfl⟩
   rw [kits T t hT h4,hb' h4]
  ·exact q.elim
theorem base_plain {v:Expr} (h:(!isBare v)=true) (name:Str) (env:Env):attributeBase v name env (eval v env)=eval v env:=by
 cases v with
 | Call f args kw pos=>
  cases f with
  | Name id p=>
   cases args with
   | nil=>
    cases kw with
    | nil=>cases h
    | cons _ _=>rfl
   | cons _ _=>rfl
  | _=>rfl
 | _=>rfl
theorem all_plain {es:List Expr} {xs:Exs} (h:chkEs c xs es=true) (env:Env) (pos:Pos):(backTo pos (starEach es env)).all (fun x=>!x.1)=true:=by
 induction es generalizing xs with
 | nil=>rfl
 | cons e es ih=>
  obtain ⟨x0,xs',rfl,c1,c2⟩:=chkEs_head h
  rw [starEach_cons e es env (shape_star (chk_shape x0 c1))]
  show (!false && (backTo pos (starEach es env)).all (fun x=>!x.1))=true
  rw [ih c2]; rfl
theorem e_mth (S:Stat Φ CX k c E B X) {m:Mf} {o:Ex} {xs:Exs} (iho:OkE Φ c E B X o) (ih:OkEs Φ c E B X xs) {e:Expr} (h:chkE c (.mth m o xs) e=true):PE X e (tE X.K B (wpE Φ (.mth m o xs) E)):=by
 replace h:=inv_mth h
 obtain ⟨v,x,apos,args,cpos,rfl,h⟩:=h
 ·simp only [Bool.and_eq_true,beq_iff_eq,decide_eq_true_iff] at h
  obtain ⟨⟨⟨⟨⟨⟨e1,h1⟩,hb⟩,hl⟩,hn⟩,h2⟩,h3⟩:=h
  subst e1
  cases args with
  | nil=>cases h2
  | cons e es=>
   obtain ⟨x0,xs',rfl,c1,c2⟩:=chkEs_head h3
   have hs:=starEach_cons e es X.env (shape_star (chk_shape x0 c1))
   have ha:=any_false c2 X.env cpos
   have hbase:=base_plain hb (Str.ofString m.name) X.env
   have hfew:((backTo cpos (starEach (e::es) X.env)).all (fun x=>!x.1) && (backToKw cpos (keywordEach [] X.env)).all (fun x=>x.1.isSome)
     && decide ((e::es).length + ([]:List Keyword).length + (if ([]:List Keyword).isEmpty then 0 else 1) < 30))=true:=by
    rw [all_plain h3 X.env cpos]
    have:(e::es).length + ([]:List Keyword).length + (if ([]:List Keyword).isEmpty then 0 else 1) < 30:=by
     have e0:(if ([]:List Keyword).isEmpty=true then 0 else 1)=0:=rfl
     rw [e0]; show (e::es).length + 0 + 0 < 30; omega
    rw [decide_eq_true this]; rfl
   have hline:(apos.endLine==cpos.line)=true:=by rw [beq_iff_eq]; exact hl
   have lst:∀ {d:D} {u:V} {G1:DH} {H1:Hp} {F1:FZ},(match d with | .ref p=>(match G1 p with | some (.lst _)=>True | none=>False) | _=>False)→R X.K H1 F1 G1→Rep X.K H1 F1 d u→tyV X.K "list" u H1:=fun {d u G1 H1 F1} q r1 ru=>by
    split at q
    ·rename_i p
     split at q
     ·rename_i ds hg
      obtain ⟨vs,hv,_⟩:=r1.lst hg
      have e2:u=.ref p:=ru
      subst e2
      exact .inl ⟨rfl,vs,SqL.of hv⟩
     ·exact q.elim
    ·exact q.elim
   cases m with
   | join=>
    refine peI (pe_bm PySem.F.plainAttrs_str PySem.F.slot_str_join PySem.F.type_str_join m_join (iho h1) (ih h3) hbase hfew hline hs ha) fun σ H Q hq=>el hq fun ρ F G e0 he r hw=>?_
    rw [wE_mth] at hw
    refine tE_then e0 he r hw fun d G1 H1 F1 u q e1 x1 he1 r1 ru=>⟨?_,tL_then e1 he1 r1 q.2 fun ds G2 H2 F2 vs q e2 x2 he2 r2 rvs=>?_⟩
    ·have q1:=q.1
     cases d with
     | str l=>obtain ⟨e2,_⟩:=ru; subst e2; exact rfl
     | _=>exact (show False from q1).elim
    ·exact ⟨F2,G2,d,ds,r2,Rep.ext x2 ru,rvs,opM_mono (fun d G' z=>PV.later z (x1.trans x2)) q⟩
   | append=>
    refine peI (pe_bm PySem.F.plainAttrs_list PySem.F.slot_list_append PySem.F.type_list_append m_append (iho h1) (ih h3) hbase hfew hline hs ha) fun σ H Q hq=>el hq fun ρ F G e0 he r hw=>?_
    rw [wE_mth] at hw
    refine tE_then e0 he r hw fun d G1 H1 F1 u q e1 x1 he1 r1 ru=>⟨?_,tL_then e1 he1 r1 q.2 fun ds G2 H2 F2 vs q e2 x2 he2 r2 rvs=>?_⟩
    ·refine lst (d:=d) (G1:=G1) ?_ r1 ru
     have q1:=q.1
     cases d <;> first | exact q1 | exact (show False from q1).elim
    ·exact ⟨F2,G2,d,ds,r2,Rep.ext x2 ru,rvs,opM_mono (fun d G' z=>PV.later z (x1.trans x2)) q⟩
   | extend=>
    refine peI (pe_bm PySem.F.plainAttrs_list PySem.F.slot_list_extend PySem.F.type_list_extend m_extend (iho h1) (ih h3) hbase hfew hline hs ha) fun σ H Q hq=>el hq fun ρ F G e0 he r hw=>?_
    rw [wE_mth] at hw
    refine tE_then e0 he r hw fun d G1 H1 F1 u q e1 x1 he1 r1 ru=>⟨?_,tL_then e1 he1 r1 q.2 fun ds G2 H2 F2 vs q e2 x2 he2 r2 rvs=>?_⟩
    ·refine lst (d:=d) (G1:=G1) ?_ r1 ru
     have q1:=q.1
     cases d <;> first | exact q1 | exact (show False from q1).elim
    ·exact ⟨F2,G2,d,ds,r2,Rep.ext x2 ru,rvs,opM_mono (fun d G' z=>PV.later z (x1.trans x2)) q⟩
   | insert=>
    refine peI (pe_bm PySem.F.plainAttrs_list PySem.F.slot_list_insert PySem.F.type_list_insert m_insert (iho h1) (ih h3) hbase hfew hline hs ha) fun σ H Q hq=>el hq fun ρ F G e0 he r hw=>?_
    rw [wE_mth] at hw
    refine tE_then e0 he r hw fun d G1 H1 F1 u q e1 x1 he1 r1 ru=>⟨?_,tL_then e1 he1 r1 q.2 fun ds G2 H2 F2 vs q e2 x2 he2 r2 rvs=>?_⟩
    ·refine lst (d:=d) (G1:=G1) ?_ r1 ru
     have q1:=q.1
     cases d <;> first | exact q1 | exact (show False from q1).elim
    ·exact ⟨F2,G2,d,ds,r2,Rep.ext x2 ru,rvs,opM_mono (fun d G' z=>PV.later z (x1.trans x2)) q⟩
end
end RF
namespace RF
open PySem PySem.Spec PyProof.Rows L2
section
variable {Φ:Funs} {CX:CXT} {k:Nat} {c:CT} {E:EK} {B:Bs} {X:Cx}
def EachE (Φ:Funs) (c:CT) (E:EK) (B:Bs) (X:Cx):Exs→Prop
 | .nil=>True
 | .cons e es=>OkE Φ c E B X e∧EachE Φ c E B X es
def EachT (Φ:Funs) (c:CT) (E:EK) (B:Bs) (X:Cx):Txs→Prop
 | .nil=>True
 | .cons e es=>OkT Φ c E B X e∧EachT Φ c E B X es
theorem EachE.oks:∀ {xs:Exs},EachE Φ c E B X xs→OkEs Φ c E B X xs
 | .nil,_=>by intro h; exact es_nil h
 | .cons x xs,hh=>by intro h; exact es_cons hh.1 (EachE.oks hh.2) h
def wBoo (Φ:Funs) (E:EK) (isAnd:Bool) (x:Ex) (xs:Exs):Env'→DH→(D→DH→Prop)→Prop:=fun ρ G kk=>wpE Φ x E ρ G fun d G1=>match d with | .bl b=>wpB Φ xs isAnd b E ρ G1 (fun c G2=>kk (.bl c) G2) | _=>False
theorem boo_list {isAnd:Bool} {pos:Pos}:∀ (xs:Exs) {x:Ex},OkE Φ c E B X x→EachE Φ c E B X xs→∀ {v:Expr} {vs:List Expr},chkE c x v=true→chkEs c xs vs=true→
  PE X (.BoolOp (if isAnd then .And else .Or) (v::vs) pos) (tE X.K B (wBoo Φ E isAnd x xs))
 | .nil,x,ih,_,v,vs,h1,h2=>by
  unfold chkEs at h2
  cases vs with
  | nil=>
   refine peI (pe_one (ih h1)) fun σ H Q hq=>el hq fun ρ F G e0 he r hw=>?_
   unfold wBoo at hw
   refine tE_then e0 he r hw fun d G1 H1 F1 u q e1 x1 he1 r1 ru=>?_
   split at q
   ·rw [wB_nil] at q
    exact q _ _ _ x1 r1 ru
   ·exact q.elim
  | cons _ _=>cases h2
 | .cons y ys,x,ih,hh,v,vs,h1,h2=>by
  unfold chkEs at h2
  split at h2
  ·rename_i w ws
   rw [Bool.and_eq_true] at h2
   have rest:=boo_list (isAnd:=isAnd) (pos:=pos) ys hh.1 hh.2 h2.1 h2.2
   cases isAnd with
   | true=>
    refine peI (pe_and (ih h1) rest) fun σ H Q hq=>el hq fun ρ F G e0 he r hw=>?_
    unfold wBoo at hw
    refine tE_then e0 he r hw fun d G1 H1 F1 u q e1 x1 he1 r1 ru=>?_
    split at q
    ·rename_i b
     refine ⟨b,ru,?_⟩
     rw [wB_cons] at q
     cases b with
     | true=>
      rw [if_pos rfl]
      exact ⟨ρ,F1,G1,e1,he1,r1,wpE_mono y (fun d G' z=>by
       cases d <;> first | exact (show False from z).elim | exact wpB_mono ys (fun c G2 z=>PV.later z x1) z) q⟩
     | false=>
      rw [if_neg Bool.false_ne_true]
      exact q _ _ _ x1 r1 rfl
    ·exact q.elim
   | false=>
    refine peI (pe_or (ih h1) rest) fun σ H Q hq=>el hq fun ρ F G e0 he r hw=>?_
    unfold wBoo at hw
    refine tE_then e0 he r hw fun d G1 H1 F1 u q e1 x1 he1 r1 ru=>?_
    split at q
    ·rename_i b
     refine ⟨b,ru,?_⟩
     rw [wB_cons] at q
     cases b with
     | false=>
      rw [if_neg Bool.false_ne_true]
      exact ⟨ρ,F1,G1,e1,he1,r1,wpE_mono y (fun d G' z=>by
       cases d <;> first | exact (show False from z).elim | exact wpB_mono ys (fun c G2 z=>PV.later z x1) z) q⟩
     | true=>
      rw [if_pos rfl]
      exact q _ _ _ x1 r1 rfl
    ·exact q.elim
  ·cases h2
theorem e_boo {isAnd:Bool} {x:Ex} {xs:Exs} (ih:OkE Φ c E B X x) (hh:EachE Φ c E B X xs) {e:Expr} (h:chkE c (.boo isAnd x xs) e=true):PE X e (tE X.K B (wpE Φ (.boo isAnd x xs) E)):=by
 replace h:=inv_boo h
 obtain ⟨_,_,_,_,rfl,h⟩:=h
 ·simp only [Bool.and_eq_true,beq_iff_eq] at h
  obtain ⟨⟨e1,h1⟩,h2⟩:=h
  subst e1
  refine peI (boo_list xs ih hh h1 h2) fun σ H Q hq=>el hq fun ρ F G e0 he r hw=>⟨ρ,F,G,e0,he,r,?_⟩
  rw [wE_boo] at hw
  exact hw
theorem e_ife {t:Tx} {a b:Ex} (iht:OkT Φ c E B X t) (iha:OkE Φ c E B X a) (ihb:OkE Φ c E B X b) {e:Expr} (h:chkE c (.ife t a b) e=true):PE X e (tE X.K B (wpE Φ (.ife t a b) E)):=nomatch (show false=true from h)
theorem t_plain {x:Ex} (ih:OkE Φ c E B X x) {e:Expr} (hp:plainTest e=true) (h:chkE c x e=true):PT X e (tB' X.K B (wpT Φ (.val x) E)):=by
 refine ptI (pt_truth (ih h) (test_plain hp X.env)) fun σ H Q hq=>el hq fun ρ F G e0 he r hw=>?_
 rw [wT_val] at hw
 refine tE_then e0 he r hw fun d G1 H1 F1 u q e1 x1 he1 r1 ru=>?_
 split at q
 ·rename_i b hb
  exact ⟨b,tru_D r1 ru hb,q _ _ x1 r1⟩
 ·exact q.elim
theorem t_not {t:Tx} (ih:OkT Φ c E B X t) {e:Expr} (h:chkT c (.not t) e=true):PT X e (tB' X.K B (wpT Φ (.not t) E)):=by
 replace h:=inv_tnot h
 obtain ⟨_,_,rfl,h⟩:=h
 ·refine ptI (pt_not (ih h)) fun σ H Q hq=>el hq fun ρ F G e0 he r hw=>?_
  rw [wT_not] at hw
  exact tB_then e0 he r hw fun b G1 H1 F1 q e1 x1 he1 r1=>q _ _ x1 r1
def wTBoo (Φ:Funs) (E:EK) (isAnd:Bool) (x:Tx) (xs:Txs):Env'→DH→(Bool→DH→Prop)→Prop:=fun ρ G kk=>wpT Φ x E ρ G fun b G1=>wpTB Φ xs isAnd b E ρ G1 kk
theorem tboo_list {isAnd:Bool} {pos:Pos}:∀ (xs:Txs) {x:Tx},OkT Φ c E B X x→EachT Φ c E B X xs→∀ {v:Expr} {vs:List Expr},chkT c x v=true→chkTs c xs vs=true→
  PW X (.BoolOp (if isAnd then .And else .Or) (v::vs) pos) (tB' X.K B (wTBoo Φ E isAnd x xs))
 | .nil,x,ih,_,v,vs,h1,h2=>by
  unfold chkTs at h2
  cases vs with
  | nil=>
   have go:∀ σ H Q,tB' X.K B (wTBoo Φ E isAnd x .nil) σ H Q→tB' X.K B (wpT Φ x E) σ H Q:=fun σ H Q hq=>el hq fun ρ F G e0 he r hw=>by
    unfold wTBoo at hw
    refine ⟨ρ,F,G,e0,he,r,wpT_mono x (fun b G1 q=>?_) hw⟩
    rw [wTB_nil] at q
    exact q
   cases isAnd with
   | true=>exact pwI (pw_and1 (ih h1)) go
   | false=>exact pwI (pw_or1 (ih h1)) go
  | cons _ _=>cases h2
 | .cons y ys,x,ih,hh,v,vs,h1,h2=>by
  unfold chkTs at h2
  split at h2
  ·rename_i w ws
   rw [Bool.and_eq_true] at h2
   have rest:=tboo_list (isAnd:=isAnd) (pos:=pos) ys hh.1 hh.2 h2.1 h2.2
   cases isAnd with
   | true=>
    refine pwI (pw_and (ih h1) rest) fun σ H Q hq=>el hq fun ρ F G e0 he r hw=>?_
    unfold wTBoo at hw
    refine tB_then e0 he r hw fun b G1 H1 F1 q e1 x1 he1 r1=>?_
    rw [wTB_cons] at q
    cases b with
    | true=>
     rw [if_pos rfl]
     exact ⟨ρ,F1,G1,e1,he1,r1,wpT_mono y (fun b' G' z=>wpTB_mono ys (fun c G2 z=>PB.later z x1) z) q⟩
    | false=>
     rw [if_neg Bool.false_ne_true]
     exact q _ _ x1 r1
   | false=>
    refine pwI (pw_or (ih h1) rest) fun σ H Q hq=>el hq fun ρ F G e0 he r hw=>?_
    unfold wTBoo at hw
    refine tB_then e0 he r hw fun b G1 H1 F1 q e1 x1 he1 r1=>?_
    rw [wTB_cons] at q
    cases b with
    | false=>
     rw [if_neg Bool.false_ne_true]
     exact ⟨ρ,F1,G1,e1,he1,r1,wpT_mono y (fun b' G' z=>wpTB_mono ys (fun c G2 z=>PB.later z x1) z) q⟩
    | true=>
     rw [if_pos rfl]
     exact q _ _ x1 r1
  ·cases h2
theorem t_boo {isAnd:Bool} {x:Tx} {xs:Txs} (ih:OkT Φ c E B X x) (hh:EachT Φ c E B X xs) {e:Expr} (h:chkT c (.boo isAnd x xs) e=true):PT X e (tB' X.K B (wpT Φ (.boo isAnd x xs) E)):=by
 replace h:=inv_tboo h
 obtain ⟨_,_,_,_,rfl,h⟩:=h
 ·simp only [Bool.and_eq_true,beq_iff_eq] at h
  obtain ⟨⟨e1,h1⟩,h2⟩:=h
  subst e1
  refine ptI (PW.pt (tboo_list xs ih hh h1 h2)) fun σ H Q hq=>el hq fun ρ F G e0 he r hw=>⟨ρ,F,G,e0,he,r,?_⟩
  rw [wT_boo] at hw
  exact hw
def tG (K:PySem.W.Frag) (B:Bs) (t:Tg):TG:=fun v σ H Q=>∃ ρ F G d,Ext B.H B.F H F∧EnvR K H F ρ σ∧R K H F G∧Rep K H F d v∧bindT t d ρ G (fun ρ'=>∀ σ',EnvR K H F ρ' σ'→Q σ' H)
def tGs (K:PySem.W.Frag) (B:Bs) (t:Tgs):TGs:=fun vs σ H Q=>∃ ρ F G ds,Ext B.H B.F H F∧EnvR K H F ρ σ∧R K H F G∧Reps K H F ds vs∧bindTs t ds ρ G (fun ρ'=>∀ σ',EnvR K H F ρ' σ'→Q σ' H)
theorem assign_len:∀ {ts:Tgs} {es:List Expr} {env:Env},chkGs c ts es=true→(assignEach es env).length=es.length∧(assignEach es env).findIdx? (·.1)=none∧(assignEach es env).map (·.2)=es.map fun e=>assign e env
 | .nil,[],env,_=>⟨rfl,rfl,rfl⟩
 | .nil,_::_,env,h=>by unfold chkGs at h; cases h
 | .cons t r,[],env,h=>by unfold chkGs at h; cases h
 | .cons t r,e::es,env,h=>by
  unfold chkGs at h
  rw [Bool.and_eq_true] at h
  obtain ⟨h1,h2,h3⟩:=assign_len (env:=env) h.2
  have hs:assignEach (e::es) env=(false,assign e env)::assignEach es env:=by
   cases t with
   | nm i=>
    have h':=h.1
    obtain ⟨_,_,rfl,_⟩:=inv_nm h'
    rfl
   | tp ts=>
    have h':=h.1
    obtain ⟨_,_,_,rfl,_⟩:=inv_tpl h'
    rfl
  rw [hs]
  refine ⟨by simp [h1],?_,by simp [h3]⟩
  rw [List.findIdx?_cons]
  simp [h2]
section
variable {prog:Program} {w:World} {A:Around} {E:Value→Shared→Prop} {s:Shared}
theorem draw_list {it t:Addr} {items:Array Value} (hne:t≠it):∀ (n i:Nat) (s:Shared) (Q:List Value→Shared→Prop),s.heap.IsListIter it t i→s.heap.IsList t items→i + n≤items.size→
  (∀ h',h'.IsListIter it t (i + n)→Heap.SameBut it s.heap h'→Q ((items.toList.drop i).take n) { s with heap:=h' })→wpAny (model prog w) A (draw (.ref it) n) Q E s
 | 0,i,s,Q,hit,_,_,hQ=>by
  show wpAny _ _ (pure []) Q E s
  exact wpAny_pure (by simpa using hQ s.heap hit (Heap.SameBut.refl ..))
 | n + 1,i,s,Q,hit,ht,hle,hQ=>by
  have hlt:i < items.size:=by omega
  show wpAny _ _ (pyNext (.ref it) >>= _) Q E s
  refine wpAny_bind (wpAny_pyNext_list_item hit ht (x:=items[i]) (by simp [hlt]) fun h₁ hit₁ hs₁=>?_)
  refine wpAny_bind (wpAny_holding (draw_list hne n (i + 1) _ _ hit₁ (ht.extBut hs₁.extBut hne) (by omega) fun h₂ hit₂ hs₂=>wpAny_pure ?_))
  have hd:items.toList.drop i=items[i]::items.toList.drop (i + 1):=by simp [List.drop_eq_getElem_cons,hlt]
  have:=hQ h₂ (by rw [show i + (n + 1)=i + 1 + n by omega]; exact hit₂) (hs₁.trans hs₂)
  rw [hd,List.take_succ_cons] at this
  exact this
theorem unpackItems_list {t:Addr} {items:Array Value} {Q:List Value→Shared→Prop} (hh:A.handled=none) (ht:s.heap.IsList t items)
  (hQ:∀ h',Heap.ExtBut s.heap.objs.size s.heap h'→Q items.toList { s with heap:=h' }):wpAny (model prog w) A (unpackItems (.ref t) items.size none) Q E s:=by
 have hlt:t≠s.heap.objs.size:=by obtain ⟨o,ho,_⟩:=ht; exact Nat.ne_of_lt (Heap.lt_size ho)
 unfold unpackItems
 refine wpAny_bind ?_
 unfold notIterableAtAll
 refine wpAny_bind (wpAny_specialOf ht.typeIs PySem.F.slot_list_iter.lookup ?_)
 refine wpAny_pure ?_
 simp only [Bool.false_eq_true,if_false]
 refine wpAny_bind (wpAny_holding (wpAny_pyIter_list ht ?_))
 refine wpAny_bind (wpAny_holding (draw_list hlt items.size 0 _ _ ⟨_,Heap.get?_push_size _ rfl,rfl,rfl⟩ (ht.push _) (by omega) fun h₁ hit₁ hs₁=>?_))
 have hall:List.take items.size (List.drop 0 items.toList)=items.toList:=by
  rw [List.drop_zero]; exact List.take_of_length_le (by simp)
 rw [hall]
 rw [if_neg (by simp)]
 have ht₁:h₁.IsList t items:=(ht.push _).extBut hs₁.extBut hlt
 refine wpAny_bind (wpAny_holding (wpAny_pyNext_list_end hh hit₁ ht₁ (by simp) fun h₂ he₂=>?_))
 simp only [Option.isSome_none,Bool.false_eq_true,if_false]
 refine wpAny_pure (hQ h₂ fun b o hb e=>he₂ b o hb (hs₁.extBut b o hb (Heap.get?_push_of_some _ e)))
theorem assign_Tuple_list {env:Env} {elts:List Expr} {x1} {pos:Pos} {t:Addr} {items:Array Value} {Q:Unit→Shared→Prop} (hh:A.handled=none) (ht:s.heap.IsList t items)
  (hn:(assignEach elts env).length=items.size) (hstar:(assignEach elts env).findIdx? (·.1)=none)
  (h:∀ h',Heap.ExtBut s.heap.objs.size s.heap h'→wpAny (model prog w) A (assignInOrder ((assignEach elts env).map (·.2)) items.toList) Q E { s with heap:=h' }):
  wpAny (model prog w) A (assign (.Tuple elts x1 pos) env (.ref t)) Q E s:=by
 rw [assign_Tuple]
 refine wpAny_bind (wpAny_standAt ?_)
 unfold unpack
 rw [hn,hstar]
 exact wpAny_bind (wpAny_holding (unpackItems_list hh ht h))
end
section
variable {X:Cx} {pos:Pos}
def gLst (K:PySem.W.Frag) (n:Nat) (t:TGs):TG:=fun v σ H Q=>∃ a xs,v=.ref a∧SqL K H a xs∧xs.length=n∧t xs σ H Q
theorem pg_lst {es:List Expr} {k:Nat} {t:TGs} {n:Nat} (hc:X.calm=true) (h:PGs X es t)
  (hn:(assignEach es X.env).length=n:=by rfl) (hst:(assignEach es X.env).findIdx? (·.1)=none:=by rfl):PG X (.Tuple es k pos) (gLst X.K n t):=by
 intro pins s σ H v u Q I r hw
 obtain ⟨a,xs,e1,hq,hl,hw⟩:=hw
 subst e1
 cases r
 obtain ⟨its,rv,pl,hz⟩:=I.list hq
 refine assign_Tuple_list (I.ok.hd hc) pl.isList (by simp [hn,← hl,rv.length]) hst fun h' hx=>?_
 have I1:Inv X pins σ H { s with heap:=h' }:=I.kept (t':=s.toks) fun b o e=>hx b o (Nat.ne_of_lt (Heap.lt_size e)) e
 exact h pins _ σ H xs _ Q I1 (by simpa using rv) hw
end
mutual
theorem g_ok (S:Stat Φ CX k c E B X):∀ (t:Tg) {e:Expr},chkG c t e=true→PG X e (tG X.K B t)
 | .nm i,e,h=>by
  replace h:=inv_nm h
  obtain ⟨x,pos,rfl,h⟩:=h
  ·skip
   rw [Bool.and_eq_true,beq_iff_eq] at h
   obtain ⟨l,f⟩:=S.sto x h.2
   intro pins s σ H v u Q I rv q
   refine pg_name (i:=i) S.nd (by rw [S.N]; exact h.1) l f pins s σ H v u Q I rv ?_
   obtain ⟨ρ,F,G,d,e0,he,r,rd,hw⟩:=q
   unfold bindT at hw
   exact hw _ (he.set rd i)
 | .tp ts,e,h=>by
  replace h:=inv_tpl h
  obtain ⟨es,kk,pos,rfl,h⟩:=h
  ·skip
   obtain ⟨h1,h2,h3⟩:=assign_len (env:=X.env) h
   intro pins s σ H v u Q I rv q
   obtain ⟨ρ,F,G,d,e0,he,r,rd,hw⟩:=q
   unfold bindT at hw
   split at hw
   ·rename_i ds
    refine pg_tup (n:=es.length) S.calm (gs_ok S ts h) h1 h2 pins s σ H v u Q I rv ?_
    obtain ⟨a,vs,e1,q,t⟩:=rd
    refine ⟨a,vs,e1,q.sq,?_,ρ,F,G,ds,e0,he,r,t,hw⟩
    rw [← t.length]
    exact bindTs_len ts h hw
   ·rename_i ds
    refine pg_lst (n:=es.length) S.calm (gs_ok S ts h) h1 h2 pins s σ H v u Q I rv ?_
    obtain ⟨a,vs,e1,q,t⟩:=rd
    refine ⟨a,vs,e1,q.sq,?_,ρ,F,G,ds,e0,he,r,t,hw⟩
    rw [← t.length]
    exact bindTs_len ts h hw
   ·exact hw.elim
theorem gs_ok (S:Stat Φ CX k c E B X):∀ (ts:Tgs) {es:List Expr},chkGs c ts es=true→PGs X es (tGs X.K B ts)
 | .nil,es,h=>by
  unfold chkGs at h
  cases es with
  | nil=>
   intro pins s σ H vs us Q I rv q
   refine pgs_nil pins s σ H vs us Q I rv ?_
   obtain ⟨ρ,F,G,ds,e0,he,r,rd,hw⟩:=q
   unfold bindTs at hw
   split at hw
   ·exact ⟨rd,hw _ he⟩
   ·exact hw.elim
  | cons _ _=>cases h
 | .cons t r,es,h=>by
  unfold chkGs at h
  split at h
  ·rename_i e es
   rw [Bool.and_eq_true] at h
   intro pins s σ H vs us Q I rv q
   have hs:(assignEach (e::es) X.env).map (·.2)=assign e X.env::(assignEach es X.env).map (·.2):=by
    have hh:chkGs c (.cons t r) (e::es)=true:=by unfold chkGs; show (chkG c t e && chkGs c r es)=true; rw [h.1,h.2]; rfl
    rw [(assign_len (env:=X.env) hh).2.2,(assign_len (env:=X.env) h.2).2.2]; rfl
   refine pgs_cons (g_ok S t h.1) (gs_ok S r h.2) hs pins s σ H vs us Q I rv ?_
   obtain ⟨ρ,F,G,ds,e0,he,rr,rd,hw⟩:=q
   unfold bindTs at hw
   split at hw
   ·rename_i d ds
    obtain ⟨v,vs',e1,rd1,rds⟩:=rd
    refine ⟨v,vs',e1,ρ,F,G,d,e0,he,rr,rd1,bindT_mono (fun ρ' z σ' he'=>?_) t hw⟩
    exact ⟨ρ',F,G,ds,e0,he',rr,rds,z⟩
   ·exact hw.elim
  ·cases h
theorem bindTs_len {G:DH}:∀ (ts:Tgs) {es:List Expr} {ds:List D} {ρ:Env'} {Q:Env'→Prop},chkGs c ts es=true→bindTs ts ds ρ G Q→ds.length=es.length
 | .nil,es,ds,ρ,Q,h,q=>by
  unfold chkGs at h
  unfold bindTs at q
  split at q
  ·cases es with
   | nil=>rfl
   | cons _ _=>cases h
  ·exact q.elim
 | .cons t r,es,ds,ρ,Q,h,q=>by
  unfold chkGs at h
  split at h
  ·rw [Bool.and_eq_true] at h
   unfold bindTs at q
   split at q
   ·rename_i d ds
    have:∃ ρ',bindTs r ds ρ' G Q:=bindT_some t q
    obtain ⟨ρ',q'⟩:=this
    have:=bindTs_len r h.2 q'
    simp [this]
   ·exact q.elim
  ·cases h
theorem bindT_some {G:DH}:∀ (t:Tg) {d:D} {ρ:Env'} {Q:Env'→Prop},bindT t d ρ G Q→∃ ρ',Q ρ'
 | .nm i,d,ρ,Q,q=>⟨_,q⟩
 | .tp ts,d,ρ,Q,q=>by
  unfold bindT at q
  split at q
  ·exact bindTs_some ts q
  ·exact bindTs_some ts q
  ·exact q.elim
theorem bindTs_some {G:DH}:∀ (ts:Tgs) {ds:List D} {ρ:Env'} {Q:Env'→Prop},bindTs ts ds ρ G Q→∃ ρ',Q ρ'
 | .nil,ds,ρ,Q,q=>by
  unfold bindTs at q
  split at q
  ·exact ⟨_,q⟩
  ·exact q.elim
 | .cons t r,ds,ρ,Q,q=>by
  unfold bindTs at q
  split at q
  ·obtain ⟨ρ',q'⟩:=bindT_some t q
   exact bindTs_some r q'
  ·exact q.elim
end
end
end RF
namespace RF
open PySem PySem.Spec PyProof.Rows L2
structure WalkJ (K:PySem.W.Frag) (H:Hp) (F:FZ) (items:List D) (g:Hld) (J:It):Prop where
 go:∀ H' F' G i,Ext H F H' F'→R K H' F' G→held g G→i < items.length→J.go i H'
 stop:∀ H' F' G,Ext H F H' F'→R K H' F' G→held g G→J.stop items.length H'
 yld:∀ H' F' i x H'' d G,Ext H F H' F'→R K H' F' G→held g G→items[i]?=some d→J.yld i H' x H''→Ext H' F' H'' F'∧R K H'' F' G∧Rep K H'' F' d x
section
variable {K:PySem.W.Frag} {H:Hp} {F:FZ}
structure Src (K:PySem.W.Frag) (H:Hp) (F:FZ) (u:Value) (ds:List D) (g:Hld) (k:SK):Prop where
 val:k.val=u
 sat:∀ H' F' G,Ext H F H' F'→R K H' F' G→held g G→∃ vs,k.Sat H' vs∧Reps K H' F' ds vs
theorem src_of {d:D} {v:V} {u:Value} {G:DH} {ds:List D×Hld} (h:Rep K H F d v) (r:RelV v u) (e:itemsOf G d=some ds):∃ k,Src K H F u ds.1 ds.2 k:=by
 cases d with
 | lst xs=>
  simp only [itemsOf,Option.some.injEq] at e
  subst e
  obtain ⟨a,vs,e1,q,t⟩:=h
  subst e1
  have hu:u=Value.ref a:=r
  subst hu
  exact ⟨.lst a,rfl,fun H' F' G' x _ _=>⟨vs,(FzL.ext x q).2,Reps.ext x t⟩⟩
 | tup xs=>
  simp only [itemsOf,Option.some.injEq] at e
  subst e
  obtain ⟨a,vs,e1,q,t⟩:=h
  subst e1
  have hu:u=Value.ref a:=r
  subst hu
  exact ⟨.tup a,rfl,fun H' F' G' x _ _=>⟨vs,(TpT.ext (K:=K) x q).it,Reps.ext x t⟩⟩
 | str l=>
  simp only [itemsOf,Option.some.injEq] at e
  subst e
  obtain ⟨e1,hl⟩:=h
  subst e1
  obtain ⟨t,hu⟩:∃ t,u=Value.str (tx l) t:=r
  subst hu
  exact ⟨.str (tx l) t,rfl,fun H' F' G' x _ _=>⟨_,rfl,by simpa using reps_signs l⟩⟩
 | ref p=>
  simp only [itemsOf] at e
  split at e
  ·rename_i xs hg
   simp only [Option.some.injEq] at e
   subst e
   have e1:v=.ref p:=h
   subst e1
   have hu:u=Value.ref p:=r
   subst hu
   exact ⟨.lst p,rfl,fun H' F' G' x r' hh=>r'.lst hh.1⟩
  ·cases e
 | _=>cases e
theorem items_held {G:DH} {d:D} {ds:List D×Hld} (e:itemsOf G d=some ds):held ds.2 G:=by
 cases d with
 | ref p=>
  simp only [itemsOf] at e
  split at e
  ·rename_i xs hg
   simp only [Option.some.injEq] at e
   subst e
   exact ⟨hg,trivial⟩
  ·cases e
 | _=>simp only [itemsOf] at e; first | (cases e; done) | (simp only [Option.some.injEq] at e; subst e; exact trivial)
theorem walk_k {u:Value} {ds:List D} {g:Hld} {k:SK} (s:Src K H F u ds g k):WalkJ K H F ds g (Jk k) where
 go:=fun H' F' G i x r hh hi=>by
  obtain ⟨vs,h1,h2⟩:=s.sat H' F' G x r hh
  exact ⟨vs,h1,by rw [← h2.length]; exact hi⟩
 stop:=fun H' F' G x r hh=>by
  obtain ⟨vs,h1,h2⟩:=s.sat H' F' G x r hh
  exact ⟨vs,h1,h2.length.symm⟩
 yld:=fun H' F' i v H'' d G x r hh hd y=>by
  obtain ⟨e,hv⟩:=y
  subst e
  obtain ⟨vs,h1,h2⟩:=s.sat _ F' G x r hh
  obtain ⟨w,e1,rw'⟩:=h2.get hd
  have e2:=hv vs h1
  rw [e1] at e2; cases e2
  exact ⟨Ext.refl _ _,r,rw'⟩
theorem enumL_length:∀ (n:Nat) (ds:List D),(enumL n ds).length=ds.length
 | _,[]=>rfl
 | n,d::ds=>by simp [enumL,enumL_length (n + 1) ds]
theorem enumL_get:∀ (n:Nat) (ds:List D) (i:Nat),(enumL n ds)[i]?=(ds[i]?).map fun d=>.tup [.int ((n + i:Nat):Int),d]
 | _,[],_=>by simp [enumL]
 | n,d::ds,0=>by simp [enumL]
 | n,d::ds,i + 1=>by
  simp only [enumL,List.getElem?_cons_succ]
  rw [enumL_get (n + 1) ds i]
  congr 1
  funext d
  rw [show n + 1 + i=n + (i + 1) by omega]
theorem zipL_length:∀ (as bs:List D),(zipL as bs).length=min as.length bs.length
 | [],bs=>by simp [zipL]
 | a::as,[]=>by simp [zipL]
 | a::as,b::bs=>by simp [zipL,zipL_length as bs]
theorem zipL_get:∀ (as bs:List D) (i:Nat) (d:D),(zipL as bs)[i]?=some d→∃ a b,as[i]?=some a∧bs[i]?=some b∧d=.tup [a,b]
 | [],bs,i,d,h=>by simp [zipL] at h
 | a::as,[],i,d,h=>by simp [zipL] at h
 | a::as,b::bs,0,d,h=>by simp [zipL] at h; exact ⟨a,b,rfl,rfl,h.symm⟩
 | a::as,b::bs,i + 1,d,h=>by
  simp only [zipL,List.getElem?_cons_succ] at h
  obtain ⟨x,y,h1,h2,h3⟩:=zipL_get as bs i d h
  exact ⟨x,y,by simpa using h1,by simpa using h2,h3⟩
theorem walk_e {u:Value} {ds:List D} {g:Hld} {k:SK} (s:Src K H F u ds g k):WalkJ K H F (enumL 0 ds) g (Je k) where
 go:=fun H' F' G i x r hh hi=>by
  obtain ⟨vs,h1,h2⟩:=s.sat H' F' G x r hh
  exact ⟨vs,h1,by rw [← h2.length,← enumL_length 0]; exact hi⟩
 stop:=fun H' F' G x r hh=>by
  obtain ⟨vs,h1,h2⟩:=s.sat H' F' G x r hh
  exact ⟨vs,h1,by rw [enumL_length]; exact h2.length.symm⟩
 yld:=fun H' F' i v H'' d G x r hh hd y=>by
  obtain ⟨vs,h1,h2⟩:=s.sat H' F' G x r hh
  obtain ⟨T,y,hT,e1,e2,hv⟩:=y
  subst e1 e2
  rw [enumL_get] at hd
  obtain ⟨d',hd',e3⟩:=Option.map_eq_some_iff.mp hd
  subst e3
  obtain ⟨w,e1,rw'⟩:=h2.get hd'
  have e2:=hv vs h1
  rw [e1] at e2; cases e2
  refine ⟨ext_new r hT,r.new hT,?_⟩
  rw [Nat.zero_add]
  exact rep_newT r hT (Reps.cons rfl (Reps.cons rw' Reps.nil))
theorem held_app {g g':Hld} {G:DH}:held (g ++ g') G→held g G∧held g' G:=by
 induction g with
 | nil=>exact fun h=>⟨trivial,h⟩
 | cons p r ih=>
  intro h
  obtain ⟨h1,h2⟩:=ih h.2
  exact ⟨⟨h.1,h1⟩,h2⟩
theorem walk_z {u u':Value} {ds es:List D} {g g':Hld} {k l:SK} (s:Src K H F u ds g k) (s':Src K H F u' es g' l):WalkJ K H F (zipL ds es) (g ++ g') (Jz k l) where
 go:=fun H' F' G i x r hh hi=>by
  obtain ⟨vs,h1,h2⟩:=s.sat H' F' G x r (held_app hh).1
  obtain ⟨ws,h3,h4⟩:=s'.sat H' F' G x r (held_app hh).2
  rw [zipL_length] at hi
  exact ⟨vs,ws,h1,h3,by rw [← h2.length]; omega,by rw [← h4.length]; omega⟩
 stop:=fun H' F' G x r hh=>by
  obtain ⟨vs,h1,h2⟩:=s.sat H' F' G x r (held_app hh).1
  obtain ⟨ws,h3,h4⟩:=s'.sat H' F' G x r (held_app hh).2
  exact ⟨vs,ws,h1,h3,by rw [zipL_length,← h2.length,← h4.length]; omega⟩
 yld:=fun H' F' i v H'' d G x r hh hd y=>by
  obtain ⟨T,y,z,hT,e1,e2,hv,hz⟩:=y
  subst e1 e2
  obtain ⟨a,b,ha,hb,e3⟩:=zipL_get _ _ _ _ hd
  subst e3
  obtain ⟨vs,h1,h2⟩:=s.sat H' F' G x r (held_app hh).1
  obtain ⟨ws,h3,h4⟩:=s'.sat H' F' G x r (held_app hh).2
  obtain ⟨w,e1,rw'⟩:=h2.get ha
  obtain ⟨w2,e3,rw2⟩:=h4.get hb
  have e2:=hv vs h1
  have e4:=hz ws h3
  rw [e1] at e2; cases e2
  rw [e3] at e4; cases e4
  exact ⟨ext_new r hT,r.new hT,rep_newT r hT (Reps.cons rw' (Reps.cons rw2 Reps.nil))⟩
theorem walk_r (lo:Int) (n:Nat):WalkJ K H F (rangeL lo n) [] (Itr lo n) where
 go:=fun H' F' G i x _ _ hi=>by show i < n; simpa [rangeL] using hi
 stop:=fun H' F' G x _ _=>by show n≤(rangeL lo n).length; simp [rangeL]
 yld:=fun H' F' i v H'' d G x r _ hd y=>by
  obtain ⟨e1,e2⟩:=y
  subst e1 e2
  refine ⟨Ext.refl _ _,r,?_⟩
  unfold rangeL at hd
  rw [List.getElem?_map] at hd
  obtain ⟨j,hj,e3⟩:=Option.map_eq_some_iff.mp hd
  have:j=i:=by
   have:=List.getElem?_eq_some_iff.mp hj
   obtain ⟨h1,h2⟩:=this
   simpa using h2.symm
  subst this
  subst e3
  rfl
end
def tI (K:PySem.W.Frag) (B:Bs) (w:Env'→DH→(List D→Hld→DH→Prop)→Prop):TI:=fun σ H Rr=>∃ ρ F G,Ext B.H B.F H F∧EnvR K H F ρ σ∧R K H F G∧
 w ρ G (fun items g G'=>∀ H' F' J,Ext H F H' F'→R K H' F' G'→WalkJ K H' F' items g J→Rr J H')
section
variable {Φ:Funs} {CX:CXT} {k:Nat} {c:CT} {E:EK} {B:Bs} {X:Cx}
theorem on_of {pins:List (Addr×Obj)} {σ:L2.St} {H:Hp} {s:Shared} (I:Inv X pins σ H s) {kk:SK} {vs:List V} (h:kk.Sat H vs):∃ its:Array Value,kk.On its s.heap:=by
 cases kk with
 | lst a=>obtain ⟨its,_,pl,_⟩:=I.list (SqL.of (show H a=some _ from h)); exact ⟨its.toArray,pl.isList⟩
 | tup a=>obtain ⟨its,_,pl,_⟩:=I.tuple (SqT.of (show H a=some _ from h)); exact ⟨its.toArray,pl⟩
 | str x t=>exact ⟨#[],trivial⟩
theorem i_seq {x:Ex} (ih:OkE Φ c E B X x) {tg e:Expr} (h:chkE c x e=true):PI X tg e (tI X.K B (wpI Φ (.seq x) E)):=by
 intro pins s σ H Rr I q
 obtain ⟨ρ,F,G,e0,he,r,hw⟩:=q
 rw [wI_seq] at hw
 have q':tE X.K B (wpE Φ x E) σ H (fun v H1=>∃ F1 G1 d items,R X.K H1 F1 G1∧Rep X.K H1 F1 d v∧itemsOf G1 d=some items∧∀ J,WalkJ X.K H1 F1 items.1 items.2 J→Rr J H1):=
  tE_then e0 he r hw fun d G1 H1 F1 u q e1 x1 he1 r1 ru=>by
   split at q
   ·rename_i ds hd
    exact ⟨F1,G1,d,ds,r1,ru,hd,fun J w=>q H1 F1 J x1 r1 w⟩
   ·exact q.elim
 refine thn (ih h pins s σ H _ I q') fun u s1 ⟨v,H1,I1,rv,F1,G1,d,items,r1,rd,hd,q1⟩=>?_
 obtain ⟨kk,src⟩:=src_of rd rv hd
 obtain ⟨vs,sat,_⟩:=src.sat H1 F1 G1 (Ext.refl _ _) r1 (items_held hd)
 obtain ⟨its,on⟩:=on_of I1 sat
 rw [← src.val]
 refine SK.iter on ?_
 refine ⟨s1.heap.objs.size,[s1.heap.objs.size],_,_,H1,rfl,I1.kept (t':=s1.toks) fun b o e=>Heap.get?_push_of_some _ e,turn_k kk _,SK.pos0,fun b hb=>?_,q1 _ (walk_k src)⟩
 have e:b=s1.heap.objs.size:=by simpa using hb
 subst e
 exact I1.fpOk (Nat.le_refl _) (I1.hok.fresh (Nat.le_refl _))
theorem i_rng (S:Stat Φ CX k c E B X) {a:Ex} (ih:OkE Φ c E B X a) {tg e:Expr} (h:chkI c (.rng a) tg e=true):PI X tg e (tI X.K B (wpI Φ (.rng a) E)):=by
 replace h:=inv_rng h
 obtain ⟨_,_,_,_,rfl,h⟩:=h
 ·simp only [Bool.and_eq_true,beq_iff_eq] at h
  obtain ⟨⟨⟨e1,h1⟩,hm⟩,h2⟩:=h
  subst e1
  obtain ⟨g1,g2⟩:=glo_split h1
  have hmg:=S.blt _ (List.contains_iff_mem.mp hm)
  have hs:=starEach_cons _ [] X.env (shape_star (chk_shape a h2))
  intro pins s σ H Rr I q
  refine pi_range1 (S.glo _ g1) hmg (pa_cons (ih h2) pa_nil hs) hs pins s σ H Rr I ?_
  obtain ⟨ρ,F,G,e0,he,r,hw⟩:=q
  rw [wI_rng] at hw
  refine tE_then e0 he r hw fun d G1 H1 F1 u q e1 x1 he1 r1 ru=>?_
  split at q
  ·rename_i n
   have e2:u=.int n:=ru
   subst e2
   exact ⟨n,rfl,q.1.1,q.1.2,q.2 H1 F1 _ x1 r1 (walk_r 0 n.toNat)⟩
  ·exact q.elim
theorem i_rev (S:Stat Φ CX k c E B X) {a:Ex} (ih:OkE Φ c E B X a) {tg e:Expr} (h:chkI c (.rev a) tg e=true):PI X tg e (tI X.K B (wpI Φ (.rev a) E)):=nomatch (show false=true from h)
theorem i_dwn (S:Stat Φ CX k c E B X) {a b d:Ex} (iha:OkE Φ c E B X a) (ihb:OkE Φ c E B X b) (ihd:OkE Φ c E B X d) {tg e:Expr} (h:chkI c (.dwn a b d) tg e=true):PI X tg e (tI X.K B (wpI Φ (.dwn a b d) E)):=nomatch (show false=true from h)
theorem i_rng2 (S:Stat Φ CX k c E B X) {a b:Ex} (iha:OkE Φ c E B X a) (ihb:OkE Φ c E B X b) {tg e:Expr} (h:chkI c (.rng2 a b) tg e=true):PI X tg e (tI X.K B (wpI Φ (.rng2 a b) E)):=nomatch (show false=true from h)
theorem i_enm (S:Stat Φ CX k c E B X) {a:Ex} (ih:OkE Φ c E B X a) {tg e:Expr} (h:chkI c (.enm a) tg e=true):PI X tg e (tI X.K B (wpI Φ (.enm a) E)):=by
 replace h:=inv_enm h
 obtain ⟨_,_,_,_,_,_,_,rfl,rfl,h⟩:=h
 ·skip
  ·simp only [Bool.and_eq_true,beq_iff_eq] at h
   obtain ⟨⟨⟨e1,h1⟩,hm⟩,h2⟩:=h
   subst e1
   obtain ⟨g1,g2⟩:=glo_split h1
   have hmg:=S.blt _ (List.contains_iff_mem.mp hm)
   have hs:=starEach_cons _ [] X.env (shape_star (chk_shape a h2))
   intro pins s σ H Rr I q
   obtain ⟨ρ,F,G,e0,he,r,hw⟩:=q
   rw [wI_enm] at hw
   have q':tL X.K B (wpEs Φ (.cons a .nil) E) σ H (fun vs H1=>∃ v F1 G1 d items,vs=[v]∧R X.K H1 F1 G1∧Rep X.K H1 F1 d v∧itemsOf G1 d=some items∧∀ J,WalkJ X.K H1 F1 (enumL 0 items.1) items.2 J→Rr J H1):=by
    refine tL_then (W:=fun ds G1=>∃ d items,ds=[d]∧itemsOf G1 d=some items∧∀ H' F' J,Ext H F H' F'→R X.K H' F' G1→WalkJ X.K H' F' (enumL 0 items.1) items.2 J→Rr J H') e0 he r ?_ fun ds G1 H1 F1 vs q e1 x1 he1 r1 rvs=>?_
    ·rw [wEs_cons]
     refine wpE_mono a (fun d G1 q=>?_) hw
     rw [wEs_nil]
     split at q
     ·rename_i items hd
      exact ⟨d,items,rfl,hd,q⟩
     ·exact q.elim
    ·obtain ⟨d,items,e2,hd,q⟩:=q
     subst e2
     obtain ⟨v,e3,rv⟩:=one_rep rvs
     exact ⟨v,F1,G1,d,items,e3,r1,rv,hd,fun J w=>q H1 F1 J x1 r1 w⟩
   refine Call_ (ld_blt I (S.glo _ g1) hmg (u:=.type "enumerate") boot_enumerate (PyProof.Rows.callWith_type1 (thn (es_cons ih (fun h=>es_nil h) (c:=c) (es:=[_]) (by unfold chkEs; show (chkE c a _ && true)=true; rw [h2]; rfl) _ pins s σ H _ I q') fun us s1 ⟨vs,H1,I1,r1v,q1⟩=>?_) hs rfl) (okN_name g2) (okN_debug g2))
   obtain ⟨v,F1,G1,d,items,e1,r1,rd,hd,q1⟩:=q1
   subst e1
   obtain ⟨u,rfl,ru⟩:=vals1 r1v
   obtain ⟨kk,src⟩:=src_of rd ru hd
   obtain ⟨vs,sat,_⟩:=src.sat H1 F1 G1 (Ext.refl _ _) r1 (items_held hd)
   obtain ⟨its,on⟩:=on_of I1 sat
   rw [← src.val]
   refine call_enum_K on fun h' hen hit hsz hk=>?_
   refine wpAny_pyIter_enum hen ?_
   have n1:H1 s1.heap.objs.size=none:=I1.hok.fresh (Nat.le_refl _)
   have n2:H1 (s1.heap.objs.size + 1)=none:=I1.hok.fresh (Nat.le_succ _)
   refine ⟨s1.heap.objs.size + 1,[s1.heap.objs.size + 1,s1.heap.objs.size],_,_,H1,rfl,I1.kept (t':=s1.toks) hk,turn_en kk _ _ (Nat.succ_ne_self _),⟨⟨_,hen⟩,hit⟩,fun b hb=>?_,q1 _ (walk_e src)⟩
   have hb':b=s1.heap.objs.size + 1∨b=s1.heap.objs.size:=by simpa using hb
   rcases hb' with rfl | rfl
   ·exact I1.fpOk (Nat.le_succ _) n2
   ·exact I1.fpOk (Nat.le_refl _) n1
theorem zap (n:Nat):ZApart (n + 4) (n + 2) (n + 3) n (n + 1):=
 ⟨(by omega:(n + 2:Nat)≠n + 4),(by omega:(n + 3:Nat)≠n + 4),(by omega:(n:Nat)≠n + 4),(by omega:(n + 1:Nat)≠n + 4),(by omega:(n + 2:Nat)≠n + 3),(by omega:(n + 2:Nat)≠n),(by omega:(n + 2:Nat)≠n + 1),(by omega:(n + 3:Nat)≠n),(by omega:(n + 3:Nat)≠n + 1),(by omega:(n:Nat)≠n + 1)⟩
theorem i_zip (S:Stat Φ CX k c E B X) {a b:Ex} (iha:OkE Φ c E B X a) (ihb:OkE Φ c E B X b) {tg e:Expr} (h:chkI c (.zip a b) tg e=true):PI X tg e (tI X.K B (wpI Φ (.zip a b) E)):=by
 replace h:=inv_zip h
 obtain ⟨_,_,_,_,_,v,v',pos,rfl,rfl,h⟩:=h
 ·skip
  ·simp only [Bool.and_eq_true,beq_iff_eq] at h
   obtain ⟨⟨⟨⟨e1,h1⟩,hm⟩,h2⟩,h3⟩:=h
   subst e1
   obtain ⟨g1,g2⟩:=glo_split h1
   have hmg:=S.blt _ (List.contains_iff_mem.mp hm)
   have hs2:=starEach_cons v' [] X.env (shape_star (chk_shape b h3))
   have hs:=starEach_cons v [v'] X.env (shape_star (chk_shape a h2))
   intro pins s σ H Rr I q
   obtain ⟨ρ,F,G,e0,he,r,hw⟩:=q
   rw [wI_zip] at hw
   have hA:chkEs c (.cons a (.cons b .nil)) [v,v']=true:=by
    unfold chkEs chkEs chkEs; show (chkE c a v && (chkE c b v' && true))=true; rw [h2,h3]; rfl
   have q':tL X.K B (wpEs Φ (.cons a (.cons b .nil)) E) σ H (fun vs H1=>∃ v v' F1 G1 d d' items items',vs=[v,v']∧R X.K H1 F1 G1∧Rep X.K H1 F1 d v∧Rep X.K H1 F1 d' v'∧itemsOf G1 d=some items∧itemsOf G1 d'=some items'∧∀ J,WalkJ X.K H1 F1 (zipL items.1 items'.1) (items.2 ++ items'.2) J→Rr J H1):=by
    refine tL_then (W:=fun ds G1=>∃ d d' items items',ds=[d,d']∧itemsOf G1 d=some items∧itemsOf G1 d'=some items'∧∀ H' F' J,Ext H F H' F'→R X.K H' F' G1→WalkJ X.K H' F' (zipL items.1 items'.1) (items.2 ++ items'.2) J→Rr J H') e0 he r ?_ fun ds G1 H1 F1 vs q e1 x1 he1 r1 rvs=>?_
    ·rw [wEs_cons]
     refine wpE_mono a (fun d G1 q=>?_) hw
     rw [wEs_cons]
     refine wpE_mono b (fun d' G2 q=>?_) q
     rw [wEs_nil]
     split at q
     ·rename_i items items' hd hd'
      exact ⟨d,d',items,items',rfl,hd,hd',q⟩
     ·exact q.elim
    ·obtain ⟨d,d',items,items',e2,hd,hd',q⟩:=q
     subst e2
     obtain ⟨w1,r2,e3,rw1,t2⟩:=rvs
     obtain ⟨w2,e4,rw2⟩:=one_rep t2
     subst e4
     exact ⟨w1,w2,F1,G1,d,d',items,items',e3,r1,rw1,rw2,hd,hd',fun J w=>q H1 F1 J x1 r1 w⟩
   refine Call_ (ld_blt I (S.glo _ g1) hmg (u:=.type "zip") boot_zip' (PyProof.Rows.callWith_type1 (thn (es_cons iha (fun h=>es_cons ihb (fun h=>es_nil h) h) (c:=c) (es:=[v,v']) hA _ pins s σ H _ I q') fun us s1 ⟨vs,H1,I1,r1v,q1⟩=>?_) hs (by rw [hs2]; rfl)) (okN_name g2) (okN_debug g2))
   obtain ⟨w1,w2,F1,G1,d,d',items,items',e1,r1,rd,rd',hd,hd',q1⟩:=q1
   subst e1
   obtain ⟨u,u',rfl,ru,ru'⟩:=vals2 r1v
   obtain ⟨kk,src⟩:=src_of rd ru hd
   obtain ⟨ll,src'⟩:=src_of rd' ru' hd'
   obtain ⟨vs,sat,_⟩:=src.sat H1 F1 G1 (Ext.refl _ _) r1 (items_held hd)
   obtain ⟨ws,sat',_⟩:=src'.sat H1 F1 G1 (Ext.refl _ _) r1 (items_held hd')
   obtain ⟨its,on⟩:=on_of I1 sat
   obtain ⟨its',on'⟩:=on_of I1 sat'
   rw [← src.val,← src'.val]
   refine call_zip_K on on' fun h' hz hTI hTO p1 p2 hsz hk=>?_
   refine wpAny_pyIter_zip hz ?_
   have fr:∀ j,H1 (s1.heap.objs.size + j)=none:=fun j=>I1.hok.fresh (Nat.le_add_right _ _)
   refine ⟨s1.heap.objs.size + 4,[s1.heap.objs.size + 4,s1.heap.objs.size + 2,s1.heap.objs.size + 3,s1.heap.objs.size,s1.heap.objs.size + 1],_,_,H1,rfl,I1.kept (t':=s1.toks) hk,
    turn_z kk ll (s1.heap.objs.size + 4) (s1.heap.objs.size + 2) (s1.heap.objs.size + 3) s1.heap.objs.size (s1.heap.objs.size + 1) (zap s1.heap.objs.size),⟨hz,hTI,⟨_,_,hTO⟩,p1,p2⟩,fun b hb=>?_,q1 _ (walk_z src src')⟩
   have hb':b=s1.heap.objs.size + 4∨b=s1.heap.objs.size + 2∨b=s1.heap.objs.size + 3∨b=s1.heap.objs.size∨b=s1.heap.objs.size + 1:=by simpa using hb
   rcases hb' with rfl | rfl | rfl | rfl | rfl
   ·exact I1.fpOk (Nat.le_add_right _ _) (fr 4)
   ·exact I1.fpOk (Nat.le_add_right _ _) (fr 2)
   ·exact I1.fpOk (Nat.le_add_right _ _) (fr 3)
   ·exact I1.fpOk (Nat.le_refl _) (fr 0)
   ·exact I1.fpOk (Nat.le_add_right _ _) (fr 1)
end
end RF
namespace RF
open PySem PySem.Spec PyProof.Rows L2
section
variable {Φ:Funs} {CX:CXT} {k:Nat} {c:CT} {E:EK} {B:Bs} {X:Cx}
theorem nodup_of:∀ {l:List Str},nodupB l=true→l.Nodup
 | [],_=>List.nodup_nil
 | x::r,h=>by
  unfold nodupB at h
  rw [Bool.and_eq_true] at h
  refine List.nodup_cons.mpr ⟨fun hm=>?_,nodup_of h.2⟩
  have:=h.1
  rw [List.contains_iff_mem.mpr hm] at this
  cases this
theorem caps_of {N:List Str} {scope:Scope}:∀ {N':List Str} {cap:List (Option Nat)},X.N=N→capsOk N scope N' cap=true→Caps X scope N' cap
 | [],[],_,_=>trivial
 | _::N',none::cap,e,h=>caps_of (N':=N') (cap:=cap) e h
 | x::N',some j::cap,e,h=>by
  unfold capsOk at h
  simp only [Bool.and_eq_true,beq_iff_eq] at h
  exact ⟨⟨by rw [e]; exact h.1.1,h.1.2⟩,caps_of (N':=N') (cap:=cap) e h.2⟩
 | [],_::_,_,h=>by cases h
 | _::_,[],_,h=>by cases h
theorem relabel_look {scope:Scope} {env:Env} (x:Str):(relabel scope env).names.lookup x=(scope.names.lookup x).map fun kk=>if (kk==NameKind.free && env.scope.kind==.function && env.kindOf x==some .cell)=true then NameKind.cell else kk:=lookup_relabel
theorem Stat.comp (S:Stat Φ CX k c E B X) {N':List Str} {scope:Scope} (hn:nodupB N'=true) (cl:List (Str×Addr)) (C:Addr) (s₁:Shared) (H₁:Hp) (fp:List Addr) (pn:List (Addr×Obj)):
  Stat Φ CX k (c.comp N' scope) noE B (X.comp N' scope cl C s₁ H₁ fp pn) where
 N:=rfl
 nd:=nodup_of hn
 calm:=S.calm
 own:=PassesOwn.never
 kd:=rfl
 vis:=fun x h=>by
  have h:isVis (scope.names.lookup x)=true:=h
  show (relabel scope X.env).names.lookup x=_∨(relabel scope X.env).names.lookup x=_∨(relabel scope X.env).names.lookup x=_
  rw [relabel_look]
  cases e:scope.names.lookup x with
  | none=>rw [e] at h; cases h
  | some kk=>
   rw [e] at h
   cases kk with
   | «local»=>exact .inl (by simp [show (NameKind.«local»==NameKind.free)=false by decide])
   | cell=>exact .inr (.inl (by simp [show (NameKind.cell==NameKind.free)=false by decide]))
   | free=>
    by_cases q:(NameKind.free==NameKind.free && X.env.scope.kind==ScopeKind.function && X.env.kindOf x==some NameKind.cell)=true
    ·exact .inr (.inl (by simp only [Option.map_some,if_pos q]))
    ·exact .inr (.inr (by simp only [Option.map_some,if_neg q]))
   | globalExplicit=>cases h
   | globalImplicit=>cases h
 cel:=fun x h=>by
  have h:scope.names.lookup x=some .cell∨scope.names.lookup x=some .free:=h
  show (relabel scope X.env).names.lookup x=_∨(relabel scope X.env).names.lookup x=_
  rw [relabel_look]
  rcases h with h | h
  ·exact .inl (by rw [h]; simp [show (NameKind.cell==NameKind.free)=false by decide])
  ·rw [h]
   by_cases q:(NameKind.free==NameKind.free && X.env.scope.kind==ScopeKind.function && X.env.kindOf x==some NameKind.cell)=true
   ·exact .inl (by simp only [Option.map_some,if_pos q])
   ·exact .inr (by simp only [Option.map_some,if_neg q])
 glo:=fun x h=>by
  have h:scope.names.lookup x=some .globalImplicit:=h
  show (relabel scope X.env).names.lookup x=_
  rw [relabel_look,h]
  simp [show (NameKind.globalImplicit==NameKind.free)=false by decide]
 sto:=fun x h=>by
  have h:(scope.names.lookup x==some .local || (false && scope.names.lookup x==some .cell))=true:=h
  rw [Bool.false_and,Bool.or_false,beq_iff_eq] at h
  have e:(relabel scope X.env).names.lookup x=some .local:=by rw [relabel_look,h]; simp [show (NameKind.«local»==NameKind.free)=false by decide]
  exact ⟨.inl e,.inr e⟩
 room:=S.room
 call:=S.call
 blt:=S.blt
 con:=S.con
 exc:=⟨_,S.nox _,fun _ _ _ _ _ _ _ _ _ _ q=>q.elim,fun x G' H' F' h=>h.elim⟩
 nox:=S.nox
 xcl:=fun C h=>nomatch (show false=true from h)
 trc:=fun h=>absurd rfl h
theorem if_ok (S:Stat Φ CX k c E B X) {t:Tx} (ih:OkT Φ c E B X t) {ifs:List Expr} (h:chkIf c t ifs=true):PIf X ifs (tB' X.K B (wpT Φ t E)):=by
 unfold chkIf at h
 rw [Bool.or_eq_true] at h
 rcases h with h | h
 ·rw [Bool.and_eq_true,List.isEmpty_iff] at h
  obtain ⟨hy,rfl⟩:=h
  cases t with
  | yes=>
   intro pins s σ H Q I q
   refine pif_nil pins s σ H Q I ?_
   obtain ⟨ρ,F,G,e0,he,r,hw⟩:=q
   rw [wT_yes] at hw
   exact hw.now r
  | _=>cases hy
 ·obtain ⟨e,he,h⟩:=anyO h
  rw [one_inv he]
  exact pif_one (ih h)
theorem comp_ok (S:Stat Φ CX k c E B X) {fz:Bool} {elt:Ex} {tg:Tg} {it:It'} {cond:Tx} {N':List Str} {cap:List (Option Nat)} {scope:Scope} {elt' tg':Expr} {ifs:List Expr} (hn:nodupB N'=true)
  (ihe:∀ {X':Cx},Stat Φ CX k (c.comp N' scope) noE B X'→OkE Φ (c.comp N' scope) noE B X' elt) (iht:∀ {X':Cx},Stat Φ CX k (c.comp N' scope) noE B X'→OkT Φ (c.comp N' scope) noE B X' cond)
  (hg:chkG (c.comp N' scope) tg tg'=true) (hi:chkIf (c.comp N' scope) cond ifs=true) (he:chkE (c.comp N' scope) elt elt'=true)
  {σ:L2.St} {H:Hp} {Q:VK} {ρ:Env'} {F:FZ} {G:DH} (e0:Ext B.H B.F H F) (henv:EnvR X.K H F ρ σ) (r:R X.K H F G)
  (hw:wpI Φ it E ρ G fun items g G1=>
   compLoop (fun d ρ' G' k'=>bindT tg d ρ' G' fun ρ1=>wpT Φ cond noE ρ1 G' fun b G2=>match b with | true=>wpE Φ elt noE ρ1 G2 fun y G3=>k' (some y) ρ1 G3 | false=>k' none ρ1 G2)
    g items [] (cap.map fun o=>match o with | none=>none | some j=>(ρ[j]?).join) G1 fun ds G2=>mk fz ds G2 (PV X.K H F Q)):
  tI X.K B (wpI Φ it E) σ H (fun J H1=>CompW X N' scope tg' ifs elt' J (capSt cap σ) H1 Q):=by
 refine ⟨ρ,F,G,e0,henv,r,wpI_mono it (fun items g G1 q H1 F1 J x1 r1 W=>?_) hw⟩
 let step:D→Env'→DH→(Option D→Env'→DH→Prop)→Prop:=fun d ρ' G' k'=>bindT tg d ρ' G' fun ρ1=>wpT Φ cond noE ρ1 G' fun b G2=>match b with | true=>wpE Φ elt noE ρ1 G2 fun y G3=>k' (some y) ρ1 G3 | false=>k' none ρ1 G2
 let fin:List D→DH→Prop:=fun ds G2=>mk fz ds G2 (PV X.K H F Q)
 refine ⟨fun i m ys σ' H'=>m=items.length - i∧i≤items.length∧∃ ρ' F' G' acc,Ext B.H B.F H' F'∧Ext H1 F1 H' F'∧EnvR X.K H' F' ρ' σ'∧R X.K H' F' G'∧Reps X.K H' F' acc ys∧compLoop step g (items.drop i) acc ρ' G' fin,
  ⟨items.length,by simp,Nat.zero_le _,_,F1,G1,[],e0.trans x1,Ext.refl _ _,(henv.ext x1).cap cap,r1,rfl,q⟩,?_⟩
 rintro i m ys σ' H' ⟨rfl,hle,ρ',F',G',acc,eB,e1,he',r',ra,hl⟩
 by_cases hlt:i < items.length
 ·have hd:items.drop i=items[i]::items.drop (i + 1):=List.drop_eq_getElem_cons hlt
  rw [hd] at hl
  obtain ⟨hh,hz,hl⟩:=hl
  refine .inr ⟨W.go H' F' G' i e1 r' hh hlt,by rw [← ra.length]; exact Nat.lt_of_lt_of_le hz szl,fun cl C s₁ H₁ fp pn=>?_⟩
  have S':=S.comp (scope:=scope) hn cl C s₁ H₁ fp pn
  refine ⟨_,_,_,g_ok S' tg hg,if_ok S' (iht S') hi,ihe S' he,fun x H2 hy=>?_⟩
  obtain ⟨xy,ry,rx⟩:=W.yld H' F' i x H2 items[i] G' e1 r' hh (by simp [hlt]) hy
  refine ⟨ρ',F',G',items[i],eB.trans xy,he'.ext xy,ry,rx,bindT_mono (fun ρ1 z σ1 hσ1=>?_) tg hl⟩
  refine tB_then (eB.trans xy) hσ1 ry z fun b G2 H3 F3 z e3 x3 he3 r3=>?_
  cases b with
  | true=>
   rw [if_pos rfl]
   refine tE_then e3 he3 r3 z fun y G4 H4 F4 v z e4 x4 he4 r4 rv=>?_
   exact ⟨items.length - (i + 1),by omega,rfl,hlt,ρ1,F4,G4,acc ++ [y],e4,e1.trans (xy.trans (x3.trans x4)),he4,r4,(Reps.ext (xy.trans (x3.trans x4)) ra).append (Reps.cons rv Reps.nil),z⟩
  | false=>
   rw [if_neg Bool.false_ne_true]
   exact ⟨items.length - (i + 1),by omega,rfl,hlt,ρ1,F3,G2,acc,e3,e1.trans (xy.trans x3),he3,r3,Reps.ext (xy.trans x3) ra,z⟩
 ·have hi':i=items.length:=by omega
  subst hi'
  rw [List.drop_length] at hl
  obtain ⟨hh,hz,hl⟩:=hl
  refine .inl ⟨W.stop H' F' G' e1 r' hh,by rw [← ra.length]; exact le_szl hz,fun p hp=>?_⟩
  exact mk_ok (mk_mono (fun d G' z=>PV.later z (x1.trans e1)) hl) r' ra p hp
structure CompC (c:CT) (elt:Ex) (tg:Tg) (it:It') (cond:Tx) (N':List Str) (cap:List (Option Nat)) (elt' tg' iter:Expr) (ifs:List Expr) (scope:Scope):Prop where
 it:chkI c it tg' iter=true
 cap:capsOk c.N scope N' cap=true
 sc:scopeOk c scope=true
 nd:nodupB N'=true
 tg:chkG (c.comp N' scope) tg tg'=true
 cd:chkIf (c.comp N' scope) cond ifs=true
 el:chkE (c.comp N' scope) elt elt'=true
theorem scope_split (S:Stat Φ CX k c E B X) {scope:Scope} (h:scopeOk c scope=true):scope.names.all (fun y=>y.2 != NameKind.cell)=true∧scope.names.all (fun y=>y.2 != NameKind.local || scope.names.lookup y.1==some NameKind.local)=true∧
  scope.names.all (fun y=>y.2 != NameKind.free || (X.env.kindOf y.1==some NameKind.cell || X.env.kindOf y.1==some NameKind.free))=true∧scope.kind=.function:=by
 unfold scopeOk at h
 simp only [Bool.and_eq_true,decide_eq_true_iff] at h
 obtain ⟨⟨⟨⟨h1,h2⟩,h3⟩,h4⟩,_⟩:=h
 refine ⟨h1,h2,?_,h4⟩
 rw [List.all_eq_true] at h3 ⊢
 intro y hy
 have:=h3 y hy
 rw [Bool.or_eq_true,Bool.or_eq_true,beq_iff_eq,beq_iff_eq] at this
 rw [Bool.or_eq_true,Bool.or_eq_true,beq_iff_eq,beq_iff_eq]
 rcases this with q | q
 ·exact .inl q
 ·exact .inr (S.cel y.1 q)
theorem comp_split {fz:Bool} {elt:Ex} {tg:Tg} {it:It'} {cond:Tx} {N:List String} {cap:List (Option Nat)} {e:Expr} (h:chkE c (.comp fz elt tg it cond N cap) e=true):
  ∃ elt' tg' iter ifs scope pos,e=.ListComp elt' [⟨tg',iter,ifs,0⟩] scope pos∧CompC c elt tg it cond (N.map Str.ofString) cap elt' tg' iter ifs scope:=by
 replace h:=inv_comp h
 obtain ⟨_,_,_,_,_,_,_,rfl,h⟩:=h
 simp only [Bool.and_eq_true,decide_eq_true_iff] at h
 obtain ⟨⟨⟨⟨⟨⟨⟨h1,h2⟩,h3⟩,h4⟩,h5⟩,h6⟩,h7⟩,h8⟩:=h
 subst h1
 exact ⟨_,_,_,_,_,_,rfl,h2,h3,h4,h5,h6,h7,h8⟩
theorem iter_folded {it:It'} {tg' iter:Expr} (h:chkI c it tg' iter=true) (env:Env) (x:Value):foldedSetIterable iter env x=pure x:=by
 cases it with
 | seq y=>exact shape_folded (chk_shape y (show chkE c y iter=true from h)) env x
 | rng a=>obtain ⟨_,_,_,_,rfl,_⟩:=inv_rng h; rfl
 | rng2 _ _=>exact nomatch (show false=true from h)
 | rev _=>exact nomatch (show false=true from h)
 | dwn _ _ _=>exact nomatch (show false=true from h)
 | enm a=>obtain ⟨_,_,_,_,_,_,_,_,rfl,_⟩:=inv_enm h; rfl
 | zip a b=>obtain ⟨_,_,_,_,_,_,_,_,_,rfl,_⟩:=inv_zip h; rfl
theorem e_comp (S:Stat Φ CX k c E B X) {fz:Bool} {elt:Ex} {tg:Tg} {it:It'} {cond:Tx} {N:List String} {cap:List (Option Nat)}
  (ihe:∀ {c':CT} {X':Cx},Stat Φ CX k c' noE B X'→OkE Φ c' noE B X' elt) (iht:∀ {c':CT} {X':Cx},Stat Φ CX k c' noE B X'→OkT Φ c' noE B X' cond)
  (ihi:∀ {tg' iter:Expr},chkI c it tg' iter=true→PI X tg' iter (tI X.K B (wpI Φ it E))) {e:Expr} (h:chkE c (.comp fz elt tg it cond N cap) e=true):
  PE X e (tE X.K B (wpE Φ (.comp fz elt tg it cond N cap) E)):=by
 obtain ⟨elt',tg',iter,ifs,scope,pos,rfl,C⟩:=comp_split h
 obtain ⟨s1,s2,s3,s4⟩:=scope_split S C.sc
 refine peI (pe_lc2 (N.map Str.ofString) cap S.calm (ihi C.it) (caps_of S.N C.cap) s1 s2 s3 s4 (iter_folded C.it X.env)) fun σ H Q hq=>el hq fun ρ F G e0 he r hw=>?_
 rw [wE_comp] at hw
 exact comp_ok S C.nd (fun S'=>ihe S') (fun S'=>iht S') C.tg C.cd C.el e0 he r hw
theorem t_oth {x:Ex} (ih:OkE Φ c E B X x) (hn:∀ l os rs pos,chkE c x (.Compare l os rs pos)=true→False) {e:Expr} (h:chkT c (.val x) e=true):PT X e (tB' X.K B (wpT Φ (.val x) E)):=by
 have h:((plainTest e || isCmpE e) && chkE c x e && notFrz x)=true:=h
 simp only [Bool.and_eq_true,Bool.or_eq_true] at h
 obtain ⟨⟨h1,h2⟩,h3⟩:=h
 rcases h1 with h1 | h1
 ·exact t_plain ih h1 h2
 ·obtain ⟨⟨t,ht⟩,_⟩:=Option.isSome_iff_exists.mp h1
  rw [ht] at h2
  exact (hn _ _ _ _ h2).elim
end
mutual
theorem sndE {Φ:Funs} {CX:CXT} {k:Nat} {B:Bs}:∀ (x:Ex) {c:CT} {E:EK} {X:Cx},Stat Φ CX k c E B X→OkE Φ c E B X x
 | .var i,c,E,X,S=>by intro h; exact e_var S h
 | .cst d,c,E,X,S=>by intro h; exact e_cst S h
 | .glb x d,c,E,X,S=>by intro h; exact e_glb S h
 | .bin op fz a b,c,E,X,S=>by intro h; exact e_bin S (sndE a S) (sndE b S) h
 | .neg a,c,E,X,S=>by intro h; exact e_neg S (sndE a S) h
 | .cmp op a b,c,E,X,S=>by intro h; exact (e_cmp S (sndE a S) (sndE b S) h).1
 | .chn op op' a b d,c,E,X,S=>by intro h; exact (e_chn S (sndE a S) (sndE b S) (sndE d S) h).1
 | .not a,c,E,X,S=>by intro h; exact e_not S (sndE a S) h
 | .boo isAnd e es,c,E,X,S=>by intro h; exact e_boo (sndE e S) (sndEs es S) h
 | .ife t a b,c,E,X,S=>by intro h; exact e_ife (sndT t S) (sndE a S) (sndE b S) h
 | .tup es,c,E,X,S=>by intro h; exact e_tup S (EachE.oks (sndEs es S)) h
 | .lst fz es,c,E,X,S=>by intro h; exact e_lst S (EachE.oks (sndEs es S)) h
 | .idx a i,c,E,X,S=>by intro h; exact e_idx S (sndE a S) (sndE i S) h
 | .slc fz a lo hi,c,E,X,S=>by intro h; exact e_slc S (sndE a S) (sndO lo S) (sndO hi S) h
 | .rvs fz a s,c,E,X,S=>by intro h; exact e_rvs S (sndE a S) (sndE s S) h
 | .call f es,c,E,X,S=>by intro h; exact e_call S (EachE.oks (sndEs es S)) h
 | .bcl f es,c,E,X,S=>by intro h; exact e_bcl S (EachE.oks (sndEs es S)) h
 | .lcl fz f es,c,E,X,S=>by intro h; exact e_lcl S (EachE.oks (sndEs es S)) h
 | .isi a t,c,E,X,S=>by intro h; exact e_isi S (sndE a S) h
 | .mth m o es,c,E,X,S=>by intro h; exact e_mth S (sndE o S) (EachE.oks (sndEs es S)) h
 | .comp fz elt tg it cond N cap,c,E,X,S=>by intro h; exact e_comp S (fun S'=>sndE elt S') (fun S'=>sndT cond S') (sndI it S) h
 | .frz a,c,E,X,S=>by intro h; exact e_frz S (sndE a S) h
theorem sndEs {Φ:Funs} {CX:CXT} {k:Nat} {B:Bs}:∀ (x:Exs) {c:CT} {E:EK} {X:Cx},Stat Φ CX k c E B X→EachE Φ c E B X x
 | .nil,_,_,_,_=>trivial
 | .cons e es,c,E,X,S=>⟨sndE e S,sndEs es S⟩
theorem sndT {Φ:Funs} {CX:CXT} {k:Nat} {B:Bs}:∀ (x:Tx) {c:CT} {E:EK} {X:Cx},Stat Φ CX k c E B X→OkT Φ c E B X x
 | .not t,c,E,X,S=>by intro h; exact t_not (sndT t S) h
 | .boo isAnd t ts,c,E,X,S=>by intro h; exact t_boo (sndT t S) (sndTs ts S) h
 | .yes,c,E,X,S=>by intro h; exact nomatch (show false=true from h)
 | .val (.cmp op a b),c,E,X,S=>by
  intro h
  have h:((plainTest _ || isCmpE _) && chkE c (.cmp op a b) _ && true)=true:=h
  simp only [Bool.and_eq_true] at h
  exact (e_cmp S (sndE a S) (sndE b S) h.1.2).2
 | .val (.chn op op' a b d),c,E,X,S=>by
  intro h
  have h:((plainTest _ || isCmpE _) && chkE c (.chn op op' a b d) _ && true)=true:=h
  simp only [Bool.and_eq_true] at h
  exact (e_chn S (sndE a S) (sndE b S) (sndE d S) h.1.2).2
 | .val (.frz a),c,E,X,S=>by
  intro h
  have h:((plainTest _ || isCmpE _) && chkE c (.frz a) _ && false)=true:=h
  rw [Bool.and_false] at h; cases h
 | .val (.var i),c,E,X,S=>by intro h; exact t_oth (sndE (.var i) S) (fun _ _ _ _ h=>nomatch (show false=true from h)) h
 | .val (.cst d),c,E,X,S=>by intro h; exact t_oth (sndE (.cst d) S) (fun _ _ _ _ h=>nomatch (show false=true from h)) h
 | .val (.glb x d),c,E,X,S=>by intro h; exact t_oth (sndE (.glb x d) S) (fun _ _ _ _ h=>nomatch (show false=true from h)) h
 | .val (.bin op fz a b),c,E,X,S=>by intro h; exact t_oth (sndE (.bin op fz a b) S) (fun _ _ _ _ h=>nomatch (show false=true from h)) h
 | .val (.neg a),c,E,X,S=>by intro h; exact t_oth (sndE (.neg a) S) (fun _ _ _ _ h=>nomatch (show false=true from h)) h
 | .val (.not a),c,E,X,S=>by intro h; exact t_oth (sndE (.not a) S) (fun _ _ _ _ h=>nomatch (show false=true from h)) h
 | .val (.boo isAnd e es),c,E,X,S=>by intro h; exact t_oth (sndE (.boo isAnd e es) S) (fun _ _ _ _ h=>nomatch (show false=true from h)) h
 | .val (.ife t a b),c,E,X,S=>by intro h; exact t_oth (sndE (.ife t a b) S) (fun _ _ _ _ h=>nomatch (show false=true from h)) h
 | .val (.tup es),c,E,X,S=>by intro h; exact t_oth (sndE (.tup es) S) (fun _ _ _ _ h=>nomatch (show false=true from h)) h
 | .val (.lst fz es),c,E,X,S=>by intro h; exact t_oth (sndE (.lst fz es) S) (fun _ _ _ _ h=>nomatch (show false=true from h)) h
 | .val (.idx a i),c,E,X,S=>by intro h; exact t_oth (sndE (.idx a i) S) (fun _ _ _ _ h=>nomatch (show false=true from h)) h
 | .val (.slc fz a lo hi),c,E,X,S=>by intro h; exact t_oth (sndE (.slc fz a lo hi) S) (fun _ _ _ _ h=>nomatch (show false=true from h)) h
 | .val (.rvs fz a s),c,E,X,S=>by intro h; exact t_oth (sndE (.rvs fz a s) S) (fun _ _ _ _ h=>nomatch (show false=true from h)) h
 | .val (.call f es),c,E,X,S=>by intro h; exact t_oth (sndE (.call f es) S) (fun _ _ _ _ h=>nomatch (show false=true from h)) h
 | .val (.bcl f es),c,E,X,S=>by intro h; exact t_oth (sndE (.bcl f es) S) (fun _ _ _ _ h=>nomatch (show false=true from h)) h
 | .val (.lcl fz f es),c,E,X,S=>by intro h; exact t_oth (sndE (.lcl fz f es) S) (fun _ _ _ _ h=>nomatch (show false=true from h)) h
 | .val (.isi a t),c,E,X,S=>by intro h; exact t_oth (sndE (.isi a t) S) (fun _ _ _ _ h=>nomatch (show false=true from h)) h
 | .val (.mth m o es),c,E,X,S=>by intro h; exact t_oth (sndE (.mth m o es) S) (fun _ _ _ _ h=>nomatch (show false=true from h)) h
 | .val (.comp fz elt tg it cond N cap),c,E,X,S=>by intro h; exact t_oth (sndE (.comp fz elt tg it cond N cap) S) (fun _ _ _ _ h=>nomatch (show false=true from h)) h
theorem sndTs {Φ:Funs} {CX:CXT} {k:Nat} {B:Bs}:∀ (x:Txs) {c:CT} {E:EK} {X:Cx},Stat Φ CX k c E B X→EachT Φ c E B X x
 | .nil,_,_,_,_=>trivial
 | .cons e es,c,E,X,S=>⟨sndT e S,sndTs es S⟩
theorem sndO {Φ:Funs} {CX:CXT} {k:Nat} {B:Bs}:∀ (x:Ox) {c:CT} {E:EK} {X:Cx},Stat Φ CX k c E B X→∀ y,x=.ob y→OkE Φ c E B X y
 | .no,c,E,X,S,y,e=>by cases e
 | .ob z,c,E,X,S,y,e=>by injection e with e; subst e; exact sndE z S
theorem sndI {Φ:Funs} {CX:CXT} {k:Nat} {B:Bs}:∀ (x:It') {c:CT} {E:EK} {X:Cx},Stat Φ CX k c E B X→∀ {tg e:Expr},chkI c x tg e=true→PI X tg e (tI X.K B (wpI Φ x E))
 | .seq y,c,E,X,S,tg,e,h=>i_seq (sndE y S) (show chkE c y e=true from h)
 | .rng a,c,E,X,S,tg,e,h=>i_rng S (sndE a S) h
 | .rng2 a b,c,E,X,S,tg,e,h=>i_rng2 S (sndE a S) (sndE b S) h
 | .rev a,c,E,X,S,tg,e,h=>i_rev S (sndE a S) h
 | .dwn a b d,c,E,X,S,tg,e,h=>i_dwn S (sndE a S) (sndE b S) (sndE d S) h
 | .enm a,c,E,X,S,tg,e,h=>i_enm S (sndE a S) h
 | .zip a b,c,E,X,S,tg,e,h=>i_zip S (sndE a S) (sndE b S) h
end
end RF
namespace RF
open PySem PySem.Spec PyProof.Rows L2
def EnD (K:PySem.W.Frag) (H:Hp) (F:FZ) (D:Ends):En where
 nx:=fun ρ G'=>∀ H' F' σ',Ext H F H' F'→EnvR K H' F' ρ σ'→R K H' F' G'→D.nx σ' H'
 rt:=PV K H F D.rt
 bk:=fun ρ G'=>∀ H' F' σ',Ext H F H' F'→EnvR K H' F' ρ σ'→R K H' F' G'→D.bk σ' H'
 ct:=fun ρ G'=>∀ H' F' σ',Ext H F H' F'→EnvR K H' F' ρ σ'→R K H' F' G'→D.ct σ' H'
theorem EnD.later {K:PySem.W.Frag} {H H1:Hp} {F F1:FZ} {D:Ends} (x:Ext H F H1 F1):(EnD K H F D).Le (EnD K H1 F1 D):=
 ⟨fun _ _ h H' F' σ' x1=>h H' F' σ' (x.trans x1),fun _ _ h=>PV.later h x,fun _ _ h H' F' σ' x1=>h H' F' σ' (x.trans x1),fun _ _ h H' F' σ' x1=>h H' F' σ' (x.trans x1)⟩
def tS (K:PySem.W.Frag) (B:Bs) (w:Env'→DH→En→Prop):TS:=fun D σ H=>∃ ρ F G,Ext B.H B.F H F∧EnvR K H F ρ σ∧R K H F G∧w ρ G (EnD K H F D)
theorem psI {X:Cx} {st:Stmt} {t t':TS} (h:PS X st t) (i:∀ D σ H,t' D σ H→t D σ H):PS X st t':=fun pins s σ H D I q=>h pins s σ H D I (i D σ H q)
theorem pssI {X:Cx} {st:List Stmt} {t t':TS} (h:PSs X st t) (i:∀ D σ H,t' D σ H→t D σ H):PSs X st t':=fun pins s σ H D I q=>h pins s σ H D I (i D σ H q)
theorem swaps_no {e:Expr} (h:isComp e=false) (t:Option Expr) (n:Nat) (env:Env):swapsWith e t n env=pure false:=by
 cases e <;> first | rfl | exact nomatch (show true=false from h)
theorem swaps_sole {e:Expr} (h:isComp e=false) (t:Expr) (n:Nat) (env:Env):swapsWithSole [t] e n env=pure false:=swaps_no h _ _ _
section
variable {Φ:Funs} {CX:CXT} {k:Nat} {c:CT} {E:EK} {B:Bs} {X:Cx}
abbrev OkS (Φ:Funs) (c:CT) (E:EK) (B:Bs) (X:Cx) (x:Sx):Prop:=∀ {st:Stmt},chkS c x st=true→PS X st (tS X.K B (wpS Φ x E))
abbrev OkSs (Φ:Funs) (c:CT) (E:EK) (B:Bs) (X:Cx) (x:Sxs):Prop:=∀ {st:List Stmt},chkSs c x st=true→PSs X st (tS X.K B (wpSs Φ x E))
theorem s_exp (S:Stat Φ CX k c E B X) {x:Ex} {st:Stmt} (h:chkS c (.exp x) st=true):PS X st (tS X.K B (wpS Φ (.exp x) E)):=by
 replace h:=inv_exp h
 obtain ⟨_,_,rfl,h⟩:=h
 ·rw [Bool.and_eq_true] at h
  refine psI (ps_expr (sndE x S h.2) (swaps_no (by simpa using h.1) _ _ _)) fun D σ H hq=>el hq fun ρ F G e0 he r hw=>?_
  rw [wS_exp] at hw
  exact tE_then e0 he r hw fun d G1 H1 F1 v q e1 x1 he1 r1 rv=>q _ _ _ x1 he1 r1
theorem s_nm (S:Stat Φ CX k c E B X) {i:Nat} {x:Ex} {st:Stmt} (h:chkS c (.asg (.nm i) x) st=true):PS X st (tS X.K B (wpS Φ (.asg (.nm i) x) E)):=by
 replace h:=inv_asg h
 obtain ⟨tg,e,pos,rfl,h⟩:=h
 ·simp only [Bool.and_eq_true] at h
  obtain ⟨⟨h1,h2⟩,h3⟩:=h
  have h3:(!isComp e || isCompX x)=true:=h3
  replace h1:=inv_nm h1
  obtain ⟨y,py,rfl,h1⟩:=h1
  ·rw [Bool.and_eq_true,beq_iff_eq] at h1
   obtain ⟨l,f⟩:=S.sto y h1.2
   have hi:X.N[i]?=some y:=by rw [S.N]; exact h1.1
   have go:∀ (D:Ends) (σ:L2.St) (H:Hp),tS X.K B (wpS Φ (.asg (.nm i) x) E) D σ H→tAsg (tE X.K B (wpE Φ x E)) (gName i) D σ H:=fun D σ H hq=>el hq fun ρ F G e0 he r hw=>by
    rw [wS_asg] at hw
    refine tE_then e0 he r hw fun d G1 H1 F1 v q e1 x1 he1 r1 rv=>?_
    unfold bindT at q
    exact q _ _ _ x1 (he1.set rv i) r1
   cases hc:isComp e with
   | false=>exact psI (ps_set S.nd hi l (sndE x S h2) (swaps_no hc _ _ _) f) go
   | true=>
    rw [hc,Bool.not_true,Bool.false_or] at h3
    cases x with
    | comp fz elt tg it cond N cap=>
     obtain ⟨elt',tg',iter,ifs,scope,pos',rfl,C⟩:=comp_split h2
     obtain ⟨s1,s2,s3,s4⟩:=scope_split S C.sc
     have hb:∃ b:Bool,swapsWith (.ListComp elt' [⟨tg',iter,ifs,0⟩] scope pos') (some (.Name y py)) pos.line X.env=pure b:=⟨_,rfl⟩
     obtain ⟨b,hb⟩:=hb
     cases b with
     | false=>exact psI (ps_set S.nd hi l (sndE _ S h2) hb f) go
     | true=>
      refine psI (ps_lc S.nd hi l (N.map Str.ofString) cap S.calm (sndI it S C.it) (caps_of S.N C.cap) s1 s2 s3 s4 (iter_folded C.it X.env) hb f) fun D σ H hq=>el hq fun ρ F G e0 he r hw=>?_
      rw [wS_asg] at hw
      rw [wE_comp] at hw
      refine comp_ok (fz:=fz) (Q:=fun v H1=>D.nx (σ.set i (some v)) H1) S C.nd (fun S'=>sndE elt S') (fun S'=>sndT cond S') C.tg C.cd C.el e0 he r (wpI_mono it (fun items g G1 q=>?_) hw)
      refine compLoop_mono (fun d ρ' G' k1 k2 hk z=>bindT_mono (fun ρ1 z=>wpT_mono cond (fun b G2 z=>by
       cases b with
       | true=>exact wpE_mono elt (fun y G3 z=>hk _ _ _ z) z
       | false=>exact hk _ _ _ z) z) tg z) ?_ _ _ _ _ q
      ·intro ds G2 q
       refine mk_mono (fun d G3 q=>?_) q
       intro H1 F1 v x1 r1 rv
       unfold bindT at q
       exact q _ _ _ x1 ((he.ext x1).set rv i) r1
    | _=>cases h3
theorem s_tp (S:Stat Φ CX k c E B X) {ts:Tgs} {x:Ex} {st:Stmt} (h:chkS c (.asg (.tp ts) x) st=true):PS X st (tS X.K B (wpS Φ (.asg (.tp ts) x) E)):=by
 replace h:=inv_asg h
 obtain ⟨tg,e,pos,rfl,h⟩:=h
 ·rw [Bool.and_eq_true,Bool.and_eq_true] at h
  have h34:(!isTupD e && !isComp e)=true:=h.2
  obtain ⟨h1,h2⟩:=h.1
  rw [Bool.and_eq_true,Bool.not_eq_true',Bool.not_eq_true'] at h34
  obtain ⟨h3,h4⟩:=h34
  have hg:=g_ok S (.tp ts) h1
  replace h1:=inv_tpl h1
  obtain ⟨_,_,_,rfl,h1⟩:=h1
  ·refine psI (ps_asg (sndE x S h2) hg (swaps_sole h4 _ _ _) ?_ rfl) fun D σ H hq=>el hq fun ρ F G e0 he r hw=>?_
   ·cases e <;> first | rfl | exact nomatch (show true=false from h3)
   ·rw [wS_asg] at hw
    refine tE_then e0 he r hw fun d G1 H1 F1 v q e1 x1 he1 r1 rv=>?_
    exact ⟨ρ,F1,G1,d,e1,he1,r1,rv,bindT_mono (fun ρ' z σ' hσ=>z H1 F1 σ' x1 hσ r1) (.tp ts) q⟩
theorem s_set (S:Stat Φ CX k c E B X) {o i x:Ex} {st:Stmt} (h:chkS c (.set o i x) st=true):PS X st (tS X.K B (wpS Φ (.set o i x) E)):=by
 replace h:=inv_set h
 obtain ⟨o',i',tpos,e,pos,rfl,h⟩:=h
 ·simp only [Bool.and_eq_true,Bool.not_eq_true'] at h
  obtain ⟨⟨⟨h1,h2⟩,h3⟩,h4⟩:=h
  have hi:=chk_shape i h2
  refine psI (ps_asg (sndE x S h3) (pg_sub (sndE o S h1) (sndE i S h2) set_ok ?_) (swaps_sole h4 _ _ _) ?_ rfl) fun D σ H hq=>el hq fun ρ F G e0 he r hw=>?_
  ·intro v
   cases i' <;> first | rfl | exact nomatch (show false=true from hi)
  ·cases e <;> rfl
  ·rw [wS_set] at hw
   refine tE_then e0 he r hw fun d G1 H1 F1 v q e1 x1 he1 r1 rv=>?_
   refine tE_then e1 he1 r1 q fun a G2 H2 F2 w q e2 x2 he2 r2 rw'=>?_
   refine tE_then e2 he2 r2 q fun y G3 H3 F3 u q e3 x3 he3 r3 ru=>?_
   refine ⟨F3,G3,a,y,d,r3,rw'.ext x3,ru,rv.ext (x2.trans x3),opSet_mono (fun G4 q=>?_) q⟩
   intro H4 F4 x4 r4
   exact q _ _ _ (x1.trans (x2.trans (x3.trans x4))) (he3.ext x4) r4
theorem s_aug (S:Stat Φ CX k c E B X) {i:Nat} {op:Operator} {x:Ex} {st:Stmt} (h:chkS c (.aug i op x) st=true):PS X st (tS X.K B (wpS Φ (.aug i op x) E)):=by
 replace h:=inv_aug h
 obtain ⟨y,py,o,e,pos,rfl,h⟩:=h
 ·simp only [Bool.and_eq_true,beq_iff_eq] at h
  obtain ⟨⟨⟨⟨rfl,h1⟩,h2⟩,h3⟩,h4⟩:=h
  obtain ⟨l,f⟩:=S.sto y h2
  refine psI (ps_aug S.nd (by rw [S.N]; exact h1) l (sndE x S h4) (aug_ok o) f) fun D σ H hq=>el hq fun ρ F G e0 he r hw=>?_
  rw [wS_aug] at hw
  split at hw
  ·rename_i a ha
   obtain ⟨v,e1,rv⟩:=he.get ha
   refine ⟨v,e1,tE_then e0 he r hw fun b G1 H1 F1 u q e1 x1 he1 r1 ru=>?_⟩
   refine ⟨F1,G1,a,b,r1,rv.ext x1,ru,opAug_mono (fun d q=>?_) q⟩
   intro H2 F2 w x2 r2 rw'
   exact q _ _ _ (x1.trans x2) ((he1.ext x2).set rw' i) r2
  ·exact hw.elim
theorem s_augs (S:Stat Φ CX k c E B X) {o i:Ex} {op:Operator} {x:Ex} {st:Stmt} (h:chkS c (.augs o i op x) st=true):PS X st (tS X.K B (wpS Φ (.augs o i op x) E)):=nomatch (show false=true from h)
theorem s_ret (S:Stat Φ CX k c E B X) {x:Ex} {st:Stmt} (h:chkS c (.ret x) st=true):PS X st (tS X.K B (wpS Φ (.ret x) E)):=by
 replace h:=inv_ret h
 obtain ⟨_,_,rfl,h⟩:=h
 ·refine psI (ps_ret (sndE x S h)) fun D σ H hq=>el hq fun ρ F G e0 he r hw=>?_
  rw [wS_ret] at hw
  exact ⟨ρ,F,G,e0,he,r,hw⟩
theorem s_rtn {st:Stmt} (h:chkS c .rtn st=true):PS X st (tS X.K B (wpS Φ .rtn E)):=by
 replace h:=inv_rtn h
 obtain ⟨_,rfl,h⟩:=h
 ·refine psI ps_retN fun D σ H hq=>el hq fun ρ F G e0 he r hw=>?_
  rw [wS_rtn] at hw
  exact hw.now r rfl
theorem s_ite (S:Stat Φ CX k c E B X) {t:Tx} {a b:Sxs} (iha:OkSs Φ c E B X a) (ihb:OkSs Φ c E B X b) {st:Stmt} (h:chkS c (.ite t a b) st=true):PS X st (tS X.K B (wpS Φ (.ite t a b) E)):=by
 replace h:=inv_ite h
 obtain ⟨_,_,_,_,rfl,h⟩:=h
 ·simp only [Bool.and_eq_true] at h
  obtain ⟨⟨h1,h2⟩,h3⟩:=h
  refine psI (ps_if (sndT t S h1) (iha h2) (ihb h3)) fun D σ H hq=>el hq fun ρ F G e0 he r hw=>?_
  rw [wS_ite] at hw
  refine tB_then e0 he r hw fun b' G1 H1 F1 q e1 x1 he1 r1=>?_
  cases b' with
  | true=>
   rw [if_pos rfl]
   exact ⟨ρ,F1,G1,e1,he1,r1,wpSs_mono a (EnD.later x1) q⟩
  | false=>
   rw [if_neg Bool.false_ne_true]
   exact ⟨ρ,F1,G1,e1,he1,r1,wpSs_mono b (EnD.later x1) q⟩
theorem s_for (S:Stat Φ CX k c E B X) {t:Tg} {it:It'} {b:Sxs} (ihb:OkSs Φ c E B X b) {st:Stmt} (h:chkS c (.for_ t it b) st=true):PS X st (tS X.K B (wpS Φ (.for_ t it b) E)):=by
 replace h:=inv_for h
 obtain ⟨tg,iter,body,pos,rfl,h⟩:=h
 ·simp only [Bool.and_eq_true] at h
  obtain ⟨⟨h1,h2⟩,h3⟩:=h
  refine psI (ps_for S.own S.calm (sndI it S h2) (g_ok S t h1) (ihb h3) (iter_folded h2 X.env)) fun D σ H hq=>el hq fun ρ F G e0 he r hw=>?_
  rw [wS_for_] at hw
  refine ⟨ρ,F,G,e0,he,r,wpI_mono it (fun items g G1 q H1 F1 J x1 r1 W=>?_) hw⟩
  let step:RF.D→Env'→DH→(Env'→DH→Prop)→Prop:=fun d ρ' G' k=>bindT t d ρ' G' fun ρ1=>wpSs Φ b E ρ1 G' { EnD X.K H F D with nx:=k,ct:=k,bk:=(EnD X.K H F D).nx }
  let P:Nat→L2.St→Hp→Prop:=fun i σ' H'=>∃ ρ' F' G',Ext B.H B.F H' F'∧Ext H1 F1 H' F'∧EnvR X.K H' F' ρ' σ'∧R X.K H' F' G'∧forLoop step g (items.drop i) ρ' G' (EnD X.K H F D).nx
  refine ⟨fun i m σ' H'=>m=items.length - i∧i≤items.length∧P i σ' H',⟨items.length,by simp,Nat.zero_le _,ρ,F1,G1,e0.trans x1,Ext.refl _ _,he.ext x1,r1,q⟩,?_⟩
  rintro i m σ' H' ⟨rfl,hle,ρ',F',G',eB,e1,he',r',hl⟩
  by_cases hlt:i < items.length
  ·have hd:items.drop i=items[i]::items.drop (i + 1):=List.drop_eq_getElem_cons hlt
   rw [hd] at hl
   obtain ⟨hh,hl⟩:=hl
   refine .inr ⟨W.go H' F' G' i e1 r' hh hlt,P (i + 1),fun σ2 H2 p=>⟨items.length - (i + 1),by omega,rfl,hlt,p⟩,fun x H2 hy=>?_⟩
   obtain ⟨xy,ry,rx⟩:=W.yld H' F' i x H2 items[i] G' e1 r' hh (by simp [hlt]) hy
   refine ⟨ρ',F',G',items[i],eB.trans xy,he'.ext xy,ry,rx,bindT_mono (fun ρ1 z σ1 hσ1=>?_) t hl⟩
   refine ⟨ρ1,F',G',eB.trans xy,hσ1,ry,wpSs_mono b (D:={ EnD X.K H F D with nx:=fun ρ' G'=>forLoop step g (items.drop (i + 1)) ρ' G' (EnD X.K H F D).nx,ct:=fun ρ' G'=>forLoop step g (items.drop (i + 1)) ρ' G' (EnD X.K H F D).nx,bk:=(EnD X.K H F D).nx }) ⟨fun ρ2 G2 z H3 F3 σ3 x3 he3 r3=>?_,fun d G2 z=>PV.later z (x1.trans (e1.trans xy)),fun ρ2 G2 z H3 F3 σ3 x3=>z H3 F3 σ3 (x1.trans (e1.trans (xy.trans x3))),fun ρ2 G2 z H3 F3 σ3 x3 he3 r3=>?_⟩ z⟩
   ·exact ⟨ρ2,F3,G2,eB.trans (xy.trans x3),e1.trans (xy.trans x3),he3,r3,z⟩
   ·exact ⟨ρ2,F3,G2,eB.trans (xy.trans x3),e1.trans (xy.trans x3),he3,r3,z⟩
  ·have hi':i=items.length:=by omega
   subst hi'
   rw [List.drop_length] at hl
   exact .inl ⟨W.stop H' F' G' e1 r' hl.1,hl.2 _ _ _ (x1.trans e1) he' r'⟩
theorem s_whl (S:Stat Φ CX k c E B X) {t:Tx} {b:Sxs} (ihb:OkSs Φ c E B X b) {st:Stmt} (h:chkS c (.whl t b) st=true):PS X st (tS X.K B (wpS Φ (.whl t b) E)):=nomatch (show false=true from h)
theorem s_rse (S:Stat Φ CX k c E B X) {C:String} {es:Exs} {st:Stmt} (h:chkS c (.rse C es) st=true):PS X st (tS X.K B (wpS Φ (.rse C es) E)):=nomatch (show false=true from h)
theorem s_tryc (S:Stat Φ CX k c E B X) {f:String} {es:Exs} {C:String} {i:Nat} {b:Bool} {st:Stmt} (h:chkS c (.tryc f es C i b) st=true):PS X st (tS X.K B (wpS Φ (.tryc f es C i b) E)):=nomatch (show false=true from h)
theorem ss_nil {st:List Stmt} (h:chkSs c .nil st=true):PSs X st (tS X.K B (wpSs Φ .nil E)):=by
 unfold chkSs at h
 cases st with
 | nil=>exact pssI pss_nil fun D σ H hq=>el hq fun ρ F G e0 he r hw=>by rw [wSs_nil] at hw; exact hw _ _ _ (Ext.refl _ _) he r
 | cons _ _=>cases h
theorem ss_cons {x:Sx} {xs:Sxs} (ih:OkS Φ c E B X x) (ihs:OkSs Φ c E B X xs) {st:List Stmt} (h:chkSs c (.cons x xs) st=true):PSs X st (tS X.K B (wpSs Φ (.cons x xs) E)):=by
 unfold chkSs at h
 split at h
 ·rw [Bool.and_eq_true] at h
  refine pssI (pss_cons (ih h.1) (ihs h.2)) fun D σ H hq=>el hq fun ρ F G e0 he r hw=>?_
  rw [wSs_cons] at hw
  refine ⟨ρ,F,G,e0,he,r,wpS_mono x (D:={ EnD X.K H F D with nx:=fun ρ' G'=>wpSs Φ xs E ρ' G' (EnD X.K H F D) }) ⟨fun ρ1 G1 q H1 F1 σ1 x1 he1 r1=>?_,fun _ _ z=>z,fun _ _ z=>z,fun _ _ z=>z⟩ hw⟩
  exact ⟨ρ1,F1,G1,e0.trans x1,he1,r1,wpSs_mono xs (EnD.later x1) q⟩
 ·cases h
end
mutual
theorem sndS {Φ:Funs} {CX:CXT} {k:Nat} {B:Bs} {c:CT} {E:EK} {X:Cx} (S:Stat Φ CX k c E B X):∀ (x:Sx),OkS Φ c E B X x
 | .exp e=>by intro h; exact s_exp S h
 | .asg (.nm i) e=>by intro h; exact s_nm S h
 | .asg (.tp ts) e=>by intro h; exact s_tp S h
 | .set o i e=>by intro h; exact s_set S h
 | .aug i op e=>by intro h; exact s_aug S h
 | .augs o i op e=>by intro h; exact s_augs S h
 | .ret e=>by intro h; exact s_ret S h
 | .rtn=>by intro h; exact s_rtn h
 | .ite t a b=>by intro h; exact s_ite S (sndSs S a) (sndSs S b) h
 | .for_ t it b=>by intro h; exact s_for S (sndSs S b) h
 | .whl t b=>by intro h; exact s_whl S (sndSs S b) h
 | .pas=>by
  intro h
  obtain ⟨_,rfl,_⟩:=inv_pas h
  exact psI ps_pass fun D σ H hq=>el hq fun ρ F G e0 he r hw=>by rw [wS_pas] at hw; exact hw _ _ _ (Ext.refl _ _) he r
 | .brk=>by
  intro h
  obtain ⟨_,rfl,_⟩:=inv_brk h
  exact psI ps_break fun D σ H hq=>el hq fun ρ F G e0 he r hw=>by rw [wS_brk] at hw; exact hw _ _ _ (Ext.refl _ _) he r
 | .cnt=>by
  intro h
  obtain ⟨_,rfl,_⟩:=inv_cnt h
  exact psI ps_continue fun D σ H hq=>el hq fun ρ F G e0 he r hw=>by rw [wS_cnt] at hw; exact hw _ _ _ (Ext.refl _ _) he r
 | .rse C es=>by intro h; exact s_rse S h
 | .tryc f es C i b=>by intro h; exact s_tryc S h
 | .nev=>by
  intro h
  exact psI ps_never fun D σ H hq=>el hq fun ρ F G e0 he r hw=>by rw [wS_nev] at hw; exact hw.elim
theorem sndSs {Φ:Funs} {CX:CXT} {k:Nat} {B:Bs} {c:CT} {E:EK} {X:Cx} (S:Stat Φ CX k c E B X):∀ (x:Sxs),OkSs Φ c E B X x
 | .nil=>by intro h; exact ss_nil h
 | .cons s r=>by intro h; exact ss_cons (sndS S s) (sndSs S r) h
end
end RF
namespace L2
open PySem PySem.Spec PyProof.Rows
theorem Fun.okX {P:Program} {w:World} {K:PySem.W.Frag} {mg:Str→Option Value} {base:Heap} {CX:CXT} {x qual:Str} {st:Stmt} {f:Addr} {fd:FuncData} {N ps:List Str} {k:Nat} {sp:Sp} (F:Fun K x qual st f fd) (S:FnScope N ps (defScope st)) (len:∀ vs H Q E,sp vs H Q E→vs.length=ps.length)
  (hbody:∀ (cdv:Value) (A:Around) (outer:List Env) (s:Shared) (H:Hp) (vs:List V) (Q:VK) (E:XK),Room k (A.deeper (envOfC qual (defScope st) s.heap.objs.size f cdv))→sp vs H Q E→
   ∃ t,PSs (cxOf CX P w K mg base N qual (defScope st) f cdv A outer s H E) (defBody st) t∧t { nx:=fun _ H'=>Q .non H',rt:=Q } (start N vs) H):FnOk P w K mg base CX (k + 1) f fd ps sp:=by
 obtain ⟨oc,od,kV,doc,pm,an,cdv,ct,osl,rfl,lk,hcd⟩:=F.ex
 exact fn_of lk hcd S len fun A outer s H vs Q E hr hsp=>hbody cdv A outer s H vs Q E hr hsp
end L2
namespace RF
open PySem PySem.Spec PyProof.Rows L2
def fnB (N ps:List Str) (sc:Scope):Bool:=
 decide (sc.kind=.function) && !sc.isCoroutine && !sc.isGenerator && nodupB N && (N.take ps.length==ps) && ps.all (fun x=>sc.names.lookup x==some .local || sc.names.lookup x==some .cell) && sc.names.all (fun y=>y.2 != .free)
theorem fnB_scope {N ps:List Str} {sc:Scope} (h:fnB N ps sc=true):FnScope N ps sc:=by
 unfold fnB at h
 simp only [Bool.and_eq_true,Bool.not_eq_true',decide_eq_true_iff,beq_iff_eq,List.all_eq_true,Bool.or_eq_true,bne_iff_ne] at h
 obtain ⟨⟨⟨⟨⟨⟨h1,h2⟩,h3⟩,h4⟩,h5⟩,h6⟩,h7⟩:=h
 exact ⟨h1,h2,h3,nodup_of h4,h5,h6,fun y hy=>h7 y hy⟩
structure Bse (Φ:Funs) (P:Program) (w:World) (K:PySem.W.Frag) (mg:Str→Option Value) (base:Heap) (CX:CXT) (k:Nat) (fs:List (String×Nat)) (bt:List String) (cn:List (String×D)) (xs:List String):Prop where
 call:∀ f n,(f,n)∈fs→∃ fa fd ps,FnOk P w K mg base CX k fa fd ps (lift K n (Φ f))∧PySem.W.keepIn K (.ref fa)=true∧Binds K fd ps []∧mg (Str.ofString f)=some (.ref fa)
 blt:∀ f,f∈bt→mg (Str.ofString f)=none
 con:∀ x d,(x,d)∈cn→∃ u v,mg (Str.ofString x)=some u∧RelV v u∧∀ H F,Rep K H F d v
 xcl:∀ C,xs.contains C=true→∃ a,mg (Str.ofString C)=some (.ref a)∧xclsB K a=true∧PySem.W.nsIn K mainGlobals (Str.ofString C)=some (some (.ref a))
def ctOf (N:List Str) (sc:Scope) (fs:List (String×Nat)) (bt:List String) (cn:List (String×D)) (xs:List String):CT:={ N:=N,kd:=sc.names,fn:=true,fs:=fs,bt:=bt,cn:=cn,xs:=xs }
section
variable {Φ:Funs} {P:Program} {w:World} {K:PySem.W.Frag} {mg:Str→Option Value} {base:Heap} {k:Nat} {fs:List (String×Nat)} {bt:List String} {cn:List (String×D)} {xs:List String}
theorem stat_of {N ps:List Str} {sc:Scope} {qual:Str} {f:Addr} {cdv:Value} {A:Around} {outer:List Env} {s:Shared} {H:Hp} {EX:XK} {B:Bs} (T:Bse Φ P w K mg base (CX1 P w) k fs bt cn xs) (hs:fnB N ps sc=true)
  (hr:Room k (A.deeper (envOfC qual sc s.heap.objs.size f cdv))):Stat Φ (CX1 P w) k (ctOf N sc fs bt cn xs) noE B (cxOf (CX1 P w) P w K mg base N qual sc f cdv A outer s H EX).nox where
 N:=rfl
 nd:=(fnB_scope hs).nd
 calm:=rfl
 own:=PassesOwn.never
 kd:=rfl
 vis:=fun x h=>by
  have h:isVis (sc.names.lookup x)=true:=h
  show sc.names.lookup x=_∨sc.names.lookup x=_∨sc.names.lookup x=_
  unfold isVis at h
  split at h <;> first | (cases h; done) | simp_all
 cel:=fun x h=>h
 glo:=fun x h=>h
 sto:=fun x h=>by
  have h:(sc.names.lookup x==some .local || (true && sc.names.lookup x==some .cell))=true:=h
  rw [Bool.true_and,Bool.or_eq_true,beq_iff_eq,beq_iff_eq] at h
  exact ⟨h,.inl rfl⟩
 room:=hr
 call:=T.call
 blt:=T.blt
 con:=T.con
 exc:=⟨_,passes_no _,fun _ _ _ _ _ _ _ _ _ _ q=>q.elim,fun _ _ _ _ h=>h.elim⟩
 nox:=fun Y=>passes_no Y
 xcl:=T.xcl
 trc:=fun _=>⟨rfl,rfl⟩
theorem cx1_no {outer:List Env} {H:Hp} {s s':Shared} {e:Value} (h:CX1 P w outer H s (fun _ _ _=>False) e s'):False:=by
 obtain ⟨_,_,_,_,_,_,_,_,_,q⟩:=h
 exact q
def ends (Q:D→DH→Prop):En:={ nx:=fun _ G=>Q .non G,rt:=Q,bk:=fun _ _=>False,ct:=fun _ _=>False }
def env0 (ds:List D) (n:Nat):Env':=ds.map some ++ List.replicate n none
theorem fun_ok {x qual:Str} {st:Stmt} {f:Addr} {fd:FuncData} (Fu:Fun K x qual st f fd) (T:Bse Φ P w K mg base (CX1 P w) k fs bt cn xs) {N ps:List Str} {body:Sxs} (S:RF.Spec) (n m:Nat) (hs:fnB N ps (defScope st)=true)
  (hc:chkSs (ctOf N (defScope st) fs bt cn xs) body (defBody st)=true) (hn:ps.length=n) (hm:N.length=n + m)
  (hw:∀ ds G a,ds.length=n→S.pre ds G a→wpSs Φ body noE (env0 ds m) G (ends (S.post a))):FnOk P w K mg base (CX1 P w) (k + 1) f fd ps (lift K n S):=by
 refine Fu.okX (fnB_scope hs) (fun vs H Q E h=>by rw [hn]; exact h.1) fun cdv A outer s H vs Q EX hr hsp=>?_
 obtain ⟨hl,F,G,ds,r,rs,a,h1,h2,h3⟩:=hsp
 have St:Stat Φ (CX1 P w) k (ctOf N (defScope st) fs bt cn xs) noE ⟨H,F⟩ (cxOf (CX1 P w) P w K mg base N qual (defScope st) f cdv A outer s H EX).nox:=stat_of T hs hr
 refine ⟨_,(sndSs St body hc).nox,?_⟩
 refine ⟨env0 ds m,F,G,Ext.refl _ _,?_,r,wpSs_mono body (D:=ends (S.post a)) ⟨fun ρ G' q=>?_,fun d G' q=>h2 d G' q,fun _ _ q=>False.elim q,fun _ _ q=>False.elim q⟩ (hw ds G a (by rw [rs.length]; exact hl) h1)⟩
 ·unfold L2.start
  rw [show N.length - vs.length=m by omega]
  exact EnvR.start m rs
 ·intro H' F' σ' x1 _ r1
  exact h2 .non G' q H' F' .non x1 r1 rfl
end
end RF
namespace RF
open PySem L2
def relS (pre:List D→DH→Prop) (post:List D→DH→D→DH→Prop):RF.Spec where
 A:=List D×DH
 pre:=fun ds G a=>a=(ds,G)∧pre ds G
 post:=fun a d G'=>post a.1 a.2 d G'
 exc:=fun _ _ _=>False
theorem relS_t {pre:List D→DH→Prop} {post:List D→DH→D→DH→Prop} {ds:List D} {G:DH} {k:D→DH→Prop} {E:EK} (h:pre ds G) (hk:∀ d G',post ds G d G'→k d G'):(relS pre post).t ds G k E:=
 ⟨(ds,G),⟨rfl,h⟩,hk,fun _ _ z=>z.elim⟩
theorem relS_w {Φ:Funs} {body:Sxs} {m n:Nat} {pre:List D→DH→Prop} {post:List D→DH→D→DH→Prop} (h:∀ ds G,pre ds G→wpSs Φ body noE (env0 ds m) G (ends (post ds G))):
  ∀ ds G a,ds.length=n→(relS pre post).pre ds G a→wpSs Φ body noE (env0 ds m) G (ends ((relS pre post).post a)):=by
 rintro ds G a _ ⟨rfl,h1⟩
 exact h ds G h1
def pureS (f:List D→Option D):RF.Spec:=relS (fun ds _=>(f ds).isSome=true) (fun ds G d G'=>G'=G∧f ds=some d)
theorem pureS_t {f:List D→Option D} {ds:List D} {d:D} {G:DH} {k:D→DH→Prop} {E:EK} (h:f ds=some d) (hk:k d G):(pureS f).t ds G k E:=
 relS_t (by rw [h]; rfl) fun d' G' ⟨e1,e2⟩=>by rw [h] at e2; cases e2; rw [e1]; exact hk
theorem pureS_w {Φ:Funs} {body:Sxs} {m n:Nat} {f:List D→Option D} (h:∀ ds G d,f ds=some d→wpSs Φ body noE (env0 ds m) G (ends fun d' G'=>G'=G∧d'=d)):
  ∀ ds G a,ds.length=n→(pureS f).pre ds G a→wpSs Φ body noE (env0 ds m) G (ends ((pureS f).post a)):=by
 refine relS_w fun ds G hf=>?_
 obtain ⟨d,e⟩:=Option.isSome_iff_exists.mp hf
 refine wpSs_mono body (D:=ends fun d' G'=>G'=G∧d'=d) ⟨fun ρ G' q=>?_,fun d' G' q=>?_,fun _ _ q=>q,fun _ _ q=>q⟩ (h ds G d e)
 ·exact ⟨q.1,by rw [e]; exact congrArg some q.2.symm⟩
 ·exact ⟨q.1,by rw [e]; exact congrArg some q.2.symm⟩
theorem for_inv {step:D→Env'→DH→(Env'→DH→Prop)→Prop} {g:Hld} {items:List D} {ρ:Env'} {G:DH} {k:Env'→DH→Prop} (P:Nat→Env'→DH→Prop) (h0:P 0 ρ G) (hh:∀ i ρ G,P i ρ G→held g G)
  (hs:∀ i d ρ G,items[i]?=some d→P i ρ G→∀ kk:Env'→DH→Prop,(∀ ρ' G',P (i + 1) ρ' G'→kk ρ' G')→step d ρ G kk) (he:∀ ρ G,P items.length ρ G→k ρ G):forLoop step g items ρ G k:=by
 have go:∀ (l:List D) (i:Nat) (ρ:Env') (G:DH),items.drop i=l→i≤items.length→P i ρ G→forLoop step g l ρ G k:=by
  intro l
  induction l with
  | nil=>
   intro i ρ G e hi p
   have:i=items.length:=by
    have:=congrArg List.length e
    rw [List.length_drop] at this
    simp at this
    omega
   subst this
   exact ⟨hh _ _ _ p,he _ _ p⟩
  | cons d l ih=>
   intro i ρ G e hi p
   have hl:i < items.length:=by
    by_cases h:i < items.length
    ·exact h
    ·rw [List.drop_eq_nil_of_le (by omega)] at e; cases e
   rw [List.drop_eq_getElem_cons hl] at e
   injection e with e1 e2
   refine ⟨hh _ _ _ p,hs i d ρ G (by rw [List.getElem?_eq_getElem hl,e1]) p _ fun ρ' G' p'=>ih (i + 1) ρ' G' e2 hl p'⟩
 exact go _ 0 ρ G (by simp) (Nat.zero_le _) h0
theorem comp_inv {step:D→Env'→DH→(Option D→Env'→DH→Prop)→Prop} {g:Hld} {items acc:List D} {ρ:Env'} {G:DH} {k:List D→DH→Prop} (P:Nat→List D→Env'→DH→Prop) (h0:P 0 acc ρ G) (hh:∀ i acc ρ G,P i acc ρ G→held g G)
  (hl:acc.length + items.length≤sz)
  (hs:∀ i d acc ρ G,items[i]?=some d→P i acc ρ G→∀ kk:Option D→Env'→DH→Prop,(∀ o ρ' G',P (i + 1) (acc ++ o.toList) ρ' G'→kk o ρ' G')→step d ρ G kk) (he:∀ acc ρ G,P items.length acc ρ G→k acc G):compLoop step g items acc ρ G k:=by
 have go:∀ (l:List D) (i:Nat) (acc:List D) (ρ:Env') (G:DH),items.drop i=l→i≤items.length→acc.length + l.length≤sz→P i acc ρ G→compLoop step g l acc ρ G k:=by
  intro l
  induction l with
  | nil=>
   intro i acc ρ G e hi ha p
   have:i=items.length:=by
    have:=congrArg List.length e
    rw [List.length_drop] at this
    simp at this
    omega
   subst this
   exact ⟨hh _ _ _ _ p,by simpa using ha,he _ _ _ p⟩
  | cons d l ih=>
   intro i acc ρ G e hi ha p
   have hl:i < items.length:=by
    by_cases h:i < items.length
    ·exact h
    ·rw [List.drop_eq_nil_of_le (by omega)] at e; cases e
   rw [List.drop_eq_getElem_cons hl] at e
   injection e with e1 e2
   have ha':acc.length + (l.length + 1)≤sz:=ha
   refine ⟨hh _ _ _ _ p,by omega,hs i d acc ρ G (by rw [List.getElem?_eq_getElem hl,e1]) p _ fun o ρ' G' p'=>?_⟩
   cases o with
   | some y=>exact ih (i + 1) (acc ++ [y]) ρ' G' e2 hl (by rw [List.length_append]; simp; omega) p'
   | none=>exact ih (i + 1) acc ρ' G' e2 hl (by omega) (by simpa using p')
 exact go _ 0 acc ρ G (by simp) (Nat.zero_le _) hl h0
theorem comp_pure {step:D→Env'→DH→(Option D→Env'→DH→Prop)→Prop} {items:List D} {ρ:Env'} {G:DH} {k:List D→DH→Prop} (g:Hld) (f:D→Option D) (I:Env'→Prop) (h0:I ρ) (hg:held g G) (hl:items.length≤sz)
  (hs:∀ d ρ,d∈items→I ρ→∀ kk:Option D→Env'→DH→Prop,(∀ ρ',I ρ'→kk (f d) ρ' G)→step d ρ G kk) (he:k (items.filterMap f) G):compLoop step g items [] ρ G k:=by
 refine comp_inv (fun i acc ρ' G'=>I ρ'∧G'=G∧acc=(items.take i).filterMap f) ⟨h0,rfl,rfl⟩ (fun i acc ρ' G' p=>by rw [p.2.1]; exact hg) (by simpa using hl) ?_ ?_
 ·rintro i d acc ρ' G' hd ⟨p1,rfl,rfl⟩ kk hk
  refine hs d ρ' (List.mem_of_getElem? hd) p1 kk fun ρ2 i2=>hk _ _ _ ⟨i2,rfl,?_⟩
  rw [List.take_add_one,hd,List.filterMap_append]
  congr 1
 ·rintro acc ρ' G' ⟨_,rfl,rfl⟩
  rw [List.take_length]
  exact he
theorem comp_map {step:D→Env'→DH→(Option D→Env'→DH→Prop)→Prop} {items:List D} {ρ:Env'} {G:DH} {k:List D→DH→Prop} (g:Hld) (f:D→D) (I:Env'→Prop) (h0:I ρ) (hg:held g G) (hl:items.length≤sz)
  (hs:∀ d ρ,d∈items→I ρ→∀ kk:Option D→Env'→DH→Prop,(∀ ρ',I ρ'→kk (some (f d)) ρ' G)→step d ρ G kk) (he:k (items.map f) G):compLoop step g items [] ρ G k:=
 comp_pure g (fun d=>some (f d)) I h0 hg hl hs (by rw [← List.filterMap_eq_map] at he; exact he)
theorem bools_map {α:Type} (f:α→Bool):∀ l:List α,bools (l.map fun x=>D.bl (f x))=some (l.map f)
 | []=>rfl
 | x::l=>by simp [bools,bools_map f l]
theorem strs_map {α:Type} (f:α→List Nat):∀ l:List α,dStrs (l.map fun x=>D.str (f x))=some (l.map f)
 | []=>rfl
 | x::l=>by simp [dStrs,strs_map f l]
theorem joinL_nil:∀ l:List (List Nat),joinL [] l=l.flatten
 | []=>rfl
 | [x]=>by simp [joinL]
 | x::y::r=>by simp [joinL,joinL_nil (y::r)]
def Sa (G G':DH):Prop:=∀ b o,G b=some o→G' b=some o
def Sb (p:Addr) (G G':DH):Prop:=∀ b o,G b=some o→b≠p→G' b=some o
theorem Sa.refl (G:DH):Sa G G:=fun _ _ h=>h
theorem Sb.refl (p:Addr) (G:DH):Sb p G G:=fun _ _ h _=>h
theorem Sa.trans {G G1 G2:DH} (a:Sa G G1) (b:Sa G1 G2):Sa G G2:=fun c o h=>b c o (a c o h)
theorem Sb.trans {p:Addr} {G G1 G2:DH} (a:Sb p G G1) (b:Sb p G1 G2):Sb p G G2:=fun c o h n=>b c o (a c o h n) n
theorem Sa.sb {p:Addr} {G G':DH} (a:Sa G G'):Sb p G G':=fun c o h _=>a c o h
theorem Sa.new {G:DH} {p:Addr} {o:DO} (h:G p=none):Sa G (gupd G p o):=fun b u e=>by rw [gupd_ne (g_ne e h)]; exact e
theorem Sb.upd {G:DH} {p:Addr} {o:DO}:Sb p G (gupd G p o):=fun b u e n=>by rw [gupd_ne n]; exact e
theorem Sa.then {p:Addr} {G G1 G2:DH} (a:Sa G G1) (hp:G p=none) (b:Sb p G1 G2):Sa G G2:=fun c o h=>b c o (a c o h) (g_ne h hp)
theorem Sa.frz {G G1:DH} {p:Addr} (a:Sa G G1) (hp:G p=none):Sa G (gdel G1 p):=fun c o h=>by rw [gdel_ne (g_ne h hp)]; exact a c o h
end RF
namespace RF
open PySem L2
theorem atI_0 {α:Type} {a:α} {l:List α}:atI (a::l) 0=some a:=atI_nat (j:=0) rfl
theorem atI_1 {α:Type} {a b:α} {l:List α}:atI (a::b::l) 1=some b:=atI_nat (j:=1) rfl
theorem atI_2 {α:Type} {a b c:α} {l:List α}:atI (a::b::c::l) 2=some c:=atI_nat (j:=2) rfl
theorem atI_3 {α:Type} {a b c d:α} {l:List α}:atI (a::b::c::d::l) 3=some d:=atI_nat (j:=3) rfl
theorem ixN_nat {n j:Nat} (h:j < n):ixN n (j:Int)=some j:=by unfold ixN; rw [if_pos (by omega),if_pos (by omega)]; simp
theorem ixN_0 {n:Nat}:ixN (n + 1) 0=some 0:=by unfold ixN; rw [if_pos (by omega),if_pos (by omega)]; rfl
theorem ixN_1 {n:Nat}:ixN (n + 2) 1=some 1:=by unfold ixN; rw [if_pos (by omega),if_pos (by omega)]; rfl
theorem ixN_2 {n:Nat}:ixN (n + 3) 2=some 2:=by unfold ixN; rw [if_pos (by omega),if_pos (by omega)]; rfl
end RF
namespace RF
open PySem L2
theorem atI_ok {α:Type} {xs:List α} {i:Int} (h0:0≤i) (h1:i < xs.length):∃ a,atI xs i=some a∧a∈xs:=by
 obtain ⟨n,rfl⟩:=Int.eq_ofNat_of_zero_le h0
 have hn:n < xs.length:=by omega
 exact ⟨xs[n],atI_nat (by simp [hn]),List.getElem_mem _⟩
theorem cut_len {α:Type} (xs:List α) (lo hi:Option Int):(cut xs lo hi).length≤xs.length:=by
 unfold cut
 rw [List.length_take,List.length_drop]
 omega
theorem deqs_nil {l:List D}:deqs l []=l.isEmpty:=by cases l <;> rfl
theorem cut_take {α:Type} (l:List α) (n:Nat):cut l none (some (n:Int))=l.take n:=by
 unfold cut
 rw [show HT.sIx l.length 0 none=0 from rfl,HT.sIx_nat,List.drop_zero,Nat.sub_zero]
 by_cases h:n≤l.length
 ·rw [Nat.min_eq_left h]
 ·rw [Nat.min_eq_right (by omega),List.take_of_length_le (Nat.le_refl _),List.take_of_length_le (by omega)]
theorem cut_drop {α:Type} (l:List α) (n:Nat):cut l (some (n:Int)) none=l.drop n:=by
 unfold cut
 rw [show HT.sIx l.length l.length none=l.length from rfl,HT.sIx_nat]
 by_cases h:n≤l.length
 ·rw [Nat.min_eq_left h,List.take_of_length_le (by rw [List.length_drop]; exact Nat.le_refl _)]
 ·rw [Nat.min_eq_right (by omega),Nat.sub_self,List.take_zero,List.drop_eq_nil_of_le (by omega)]
theorem cut_drop1 {α:Type} (l:List α) (n:Nat):cut l (some ((n:Int) + 1)) none=l.drop (n + 1):=cut_drop l (n + 1)
theorem nrs_of:∀ {l:List D},(∀ d∈l,nr d=true)→nrs l=true
 | [],_=>rfl
 | a::l,h=>by rw [nrs,h a List.mem_cons_self,nrs_of fun d hd=>h d (List.mem_cons_of_mem _ hd)]; rfl
end RF
namespace RF
theorem snocRec {α:Type} {motive:List α→Prop} (l:List α) (nil:motive []) (snoc:∀ (l:List α) (a:α),motive l→motive (l ++ [a])):motive l:=by
 have go:∀ (n:Nat) (l:List α),l.length=n→motive l:=by
  intro n
  induction n with
  | zero=>intro l h; rw [List.length_eq_zero_iff.mp h]; exact nil
  | succ n ih=>
   intro l h
   have hne:l≠[]:=by rintro rfl; simp at h
   rw [← List.dropLast_concat_getLast hne]
   exact snoc _ _ (ih _ (by rw [List.length_dropLast]; omega))
 exact go _ l rfl
end RF
namespace RF
open PySem L2
section
variable {G:DH} {k:D→DH→Prop} {fz:Bool} {kb:Bool→Prop} {kd:D→Prop} {p:Addr}
theorem x_add_ii {i j:Int}:opBin .Add fz (.int i) (.int j) G k=k (.int (i + j)) G:=rfl
theorem x_add_ss {x y:List Nat}:opBin .Add fz (.str x) (.str y) G k=(x.length + y.length≤sz∧k (.str (x ++ y)) G):=rfl
theorem x_add_ll {x y:List D}:opBin .Add fz (.lst x) (.lst y) G k=(x.length + y.length≤sz∧mk fz (x ++ y) G k):=rfl
theorem x_add_tt {x y:List D}:opBin .Add fz (.tup x) (.tup y) G k=(x.length + y.length≤sz∧k (.tup (x ++ y)) G):=rfl
theorem x_sub_ii {i j:Int}:opBin .Sub fz (.int i) (.int j) G k=k (.int (i - j)) G:=rfl
theorem x_mul_ii {i j:Int}:opBin .Mult fz (.int i) (.int j) G k=(CMul i j∧k (.int (i * j)) G):=rfl
theorem x_mul_si {x:List Nat} {n:Int}:opBin .Mult fz (.str x) (.int n) G k=(0≤n∧n≤1000∧x.length * n.toNat≤sz∧k (.str (reps x n.toNat)) G):=rfl
theorem x_div_ii {i j:Int}:opBin .FloorDiv fz (.int i) (.int j) G k=((0 < j∧j < 1073741824)∧k (.int (i / j)) G):=rfl
theorem x_mod_ii {i j:Int}:opBin .Mod fz (.int i) (.int j) G k=(0 < j∧k (.int (i % j)) G):=rfl
theorem x_pow_ii {i j:Int}:opBin .Pow fz (.int i) (.int j) G k=(CPow i j∧k (.int (i ^ j.toNat)) G):=rfl
def isNon:D→Bool
 | .non=>true
 | _=>false
theorem x_eq {a b:D}:opCmp .Eq a b kb=((nr a=true∧nr b=true∧min (dpt a) (dpt b)≤60)∧kb (deq a b)):=rfl
theorem x_ne {a b:D}:opCmp .NotEq a b kb=((nr a=true∧nr b=true∧min (dpt a) (dpt b)≤60)∧kb (!deq a b)):=rfl
theorem x_lt_ii {i j:Int}:opCmp .Lt (.int i) (.int j) kb=kb (decide (i < j)):=rfl
theorem x_le_ii {i j:Int}:opCmp .LtE (.int i) (.int j) kb=kb (decide (i≤j)):=rfl
theorem x_gt_ii {i j:Int}:opCmp .Gt (.int i) (.int j) kb=kb (decide (j < i)):=rfl
theorem x_ge_ii {i j:Int}:opCmp .GtE (.int i) (.int j) kb=kb (decide (j≤i)):=rfl
theorem x_lt_ss {i j:List Nat}:opCmp .Lt (.str i) (.str j) kb=kb (decide (i < j)):=rfl
theorem x_le_ss {i j:List Nat}:opCmp .LtE (.str i) (.str j) kb=kb (!decide (j < i)):=rfl
theorem x_is_non {a:D}:opCmp .Is a .non kb=kb (isNon a):=by cases a <;> rfl
theorem x_isnot_non {a:D}:opCmp .IsNot a .non kb=kb (!isNon a):=by cases a <;> rfl
theorem x_is_bb {a b:Bool}:opCmp .Is (.bl a) (.bl b) kb=kb (a==b):=rfl
theorem x_isnot_bb {a b:Bool}:opCmp .IsNot (.bl a) (.bl b) kb=kb (a != b):=rfl
theorem x_in_cs {c:Nat} {l:List Nat}:opCmp .In (.str [c]) (.str l) kb=kb (l.contains c):=rfl
theorem x_notin_cs {c:Nat} {l:List Nat}:opCmp .NotIn (.str [c]) (.str l) kb=kb (!l.contains c):=rfl
theorem x_in_l {a:D} {l:List D}:opCmp .In a (.lst l) kb=((nr a=true∧nrs l=true∧dpts l≤60)∧kb (isIn a l)):=rfl
theorem x_in_t {a:D} {l:List D}:opCmp .In a (.tup l) kb=((nr a=true∧nrs l=true∧dpts l≤60)∧kb (isIn a l)):=rfl
theorem x_notin_l {a:D} {l:List D}:opCmp .NotIn a (.lst l) kb=((nr a=true∧nrs l=true∧dpts l≤60)∧kb (!isIn a l)):=rfl
theorem x_notin_t {a:D} {l:List D}:opCmp .NotIn a (.tup l) kb=((nr a=true∧nrs l=true∧dpts l≤60)∧kb (!isIn a l)):=rfl
theorem nn_int {i:Int}:isNon (.int i)=false:=rfl
theorem nn_bl {i:Bool}:isNon (.bl i)=false:=rfl
theorem nn_str {i:List Nat}:isNon (.str i)=false:=rfl
theorem nn_tup {i:List D}:isNon (.tup i)=false:=rfl
theorem nn_lst {i:List D}:isNon (.lst i)=false:=rfl
theorem nn_ref {i:Addr}:isNon (.ref i)=false:=rfl
theorem nn_non:isNon .non=true:=rfl
def optK {α:Type} (o:Option α) (k:α→Prop):Prop:=match o with | some a=>k a | none=>False
theorem optK_some {α:Type} {a:α} {k:α→Prop}:optK (some a) k=k a:=rfl
theorem optK_of {α:Type} {o:Option α} {a:α} {k:α→Prop} (e:o=some a) (h:k a):optK o k:=by rw [e]; exact h
theorem optK_in {α:Type} {xs:List α} {i:Int} {k:α→Prop} (h0:0≤i) (h1:i < xs.length) (h:∀ a,a∈xs→k a):optK (atI xs i) k:=by
 obtain ⟨a,e,m⟩:=atI_ok h0 h1
 exact optK_of e (h a m)
theorem x_idx_l {ds:List D} {i:Int}:opIdx (.lst ds) (.int i) kd=optK (atI ds i) kd:=by unfold opIdx optK; (try dsimp only) <;> (cases atI ds i <;> rfl)
theorem x_idx_t {ds:List D} {i:Int}:opIdx (.tup ds) (.int i) kd=optK (atI ds i) kd:=by unfold opIdx optK; (try dsimp only) <;> (cases atI ds i <;> rfl)
theorem x_idx_s {l:List Nat} {i:Int}:opIdx (.str l) (.int i) kd=optK (atI l i) (fun c=>kd (.str [c])):=by unfold opIdx optK; (try dsimp only) <;> (cases atI l i <;> rfl)
theorem x_slc_l {ds:List D} {lo hi:Option Int}:opSlc fz (.lst ds) lo hi G k=mk fz (cut ds lo hi) G k:=rfl
theorem x_rvs {ds:List D} {y:D}:opRvs fz (.lst ds) y G k=(y=.int (-1)∧mk fz ds.reverse G k):=rfl
theorem x_slc_c {ds:List Int} {lo hi:Option Int}:opSlc fz (.scr ds) lo hi G k=mk fz ((cut ds lo hi).map .int) G k:=rfl
theorem x_slc_t {ds:List D} {lo hi:Option Int}:opSlc fz (.tup ds) lo hi G k=k (.tup (cut ds lo hi)) G:=rfl
theorem x_slc_s {ds:List Nat} {lo hi:Option Int}:opSlc fz (.str ds) lo hi G k=k (.str (cut ds lo hi)) G:=rfl
theorem x_len_l {ds:List D}:opB .len [.lst ds] kd=kd (.int ds.length):=rfl
theorem x_len_t {ds:List D}:opB .len [.tup ds] kd=kd (.int ds.length):=rfl
theorem x_len_s {ds:List Nat}:opB .len [.str ds] kd=kd (.int ds.length):=rfl
theorem x_all_l {ds:List D}:opB .all [.lst ds] kd=optK (bools ds) (fun bs=>kd (.bl (bs.all id))):=by unfold opB opAll optK; (try dsimp only) <;> (cases bools ds <;> rfl)
theorem x_int_b {b:Bool}:opB .int [.bl b] kd=kd (.int (if b then 1 else 0)):=rfl
theorem x_int_i {b:Int}:opB .int [.int b] kd=kd (.int b):=rfl
theorem x_int_s {l:List Nat}:opB .int [.str l] kd=optK (PySem.intText? (tx l)) (fun n=>l.length≤640∧kd (.int n)):=by unfold opB opInt optK; (try dsimp only) <;> (cases PySem.intText? (tx l) <;> rfl)
theorem x_sum {ds:List D}:opB .sum [.lst ds] kd=optK (dInts ds) (fun ns=>kd (.int ns.sum)):=by unfold opB opSum optK; (try dsimp only) <;> (cases dInts ds <;> rfl)
theorem x_max {a b:Int}:opB .max [.int a,.int b] kd=kd (.int (if b > a then b else a)):=rfl
theorem x_sorted {ds:List D} {kl:List D→Prop}:opBL .sorted [.lst ds] kl=optK (dStrs ds) (fun ls=>ls.length < 64∧∀ ls':List (List Nat),ls'.Perm ls→PyProof.Rows.sortedS (ls'.map tx)=true→kl (ls'.map D.str)):=by unfold opBL opSorted optK; (try dsimp only) <;> (cases dStrs ds <;> rfl)
theorem x_tup_l {ds:List D}:opB .tuple [.lst ds] kd=kd (.tup ds):=rfl
theorem x_tup_t {ds:List D}:opB .tuple [.tup ds] kd=kd (.tup ds):=rfl
theorem x_list_l {ds:List D} {kl:List D→Prop}:opBL .list [.lst ds] kl=kl ds:=rfl
theorem x_list_t {ds:List D} {kl:List D→Prop}:opBL .list [.tup ds] kl=kl ds:=rfl
theorem x_list_s {l:List Nat} {kl:List D→Prop}:opBL .list [.str l] kl=kl (l.map fun c=>.str [c]):=rfl
theorem x_join {s:List Nat} {ds:List D}:opM .join (.str s) [.lst ds] G k=optK (dStrs ds) (fun ls=>((ls.map (·.length)).sum + ls.length * s.length≤sz)∧k (.str (joinL s ls)) G):=by unfold opM opJoin optK; (simp only [List.map_cons,List.map_nil,view]) <;> (cases dStrs ds <;> rfl)
def trk (G:DH) (p:Addr) (k:List D→Prop):Prop:=match G p with | some (.lst ds)=>k ds | none=>False
theorem trk_eq {ds:List D} {k:List D→Prop} (e:G p=some (.lst ds)):trk G p k=k ds:=by unfold trk; rw [e]
theorem x_append {x:D}:opM .append (.ref p) [x] G k=trk G p (fun ds=>ds.length < sz∧k .non (gupd G p (.lst (ds ++ [x])))):=by unfold opM opAppend trk; (try dsimp only) <;> (cases G p <;> first | rfl | (rename_i o; cases o; rfl))
theorem x_insert {x:D} {i:Int}:opM .insert (.ref p) [.int i,x] G k=trk G p (fun ds=>ds.length < sz∧0≤i∧i≤1000000∧k .non (gupd G p (.lst (ds.take i.toNat ++ x::ds.drop i.toNat)))):=by unfold opM opInsert trk; (try dsimp only) <;> (cases G p <;> first | rfl | (rename_i o; cases o; rfl))
theorem x_recv_i:recv .insert (.ref p) G=trk G p (fun _=>True):=by unfold recv trk; (try dsimp only) <;> (cases G p <;> first | rfl | (rename_i o; cases o; rfl))
theorem x_extend {xs:List D}:opM .extend (.ref p) [.lst xs] G k=trk G p (fun ds=>ds.length + xs.length < sz∧k .non (gupd G p (.lst (ds ++ xs)))):=by unfold opM opExtend trk; (simp only [List.map_cons,List.map_nil,view]) <;> (cases G p <;> first | rfl | (rename_i o; cases o; rfl))
theorem x_recv_j {s:List Nat}:recv .join (.str s) G=True:=rfl
theorem x_recv_a:recv .append (.ref p) G=trk G p (fun _=>True):=by unfold recv trk; (try dsimp only) <;> (cases G p <;> first | rfl | (rename_i o; cases o; rfl))
theorem x_recv_e:recv .extend (.ref p) G=trk G p (fun _=>True):=by unfold recv trk; (try dsimp only) <;> (cases G p <;> first | rfl | (rename_i o; cases o; rfl))
theorem x_set {i:Int} {x:D} {kg:DH→Prop}:opSet (.ref p) (.int i) x G kg=trk G p (fun ds=>optK (ixN ds.length i) (fun j=>kg (gupd G p (.lst (ds.set j x))))):=by
 unfold opSet trk optK
 (try dsimp only) <;> (cases G p <;> first | rfl | (rename_i o; cases o; (try dsimp only) <;> (rename_i ds; cases ixN ds.length i <;> rfl)))
theorem x_aug_ii {i j:Int}:opAug .Add (.int i) (.int j) kd=kd (.int (i + j)):=rfl
theorem x_aug_ss {x y:List Nat}:opAug .Add (.str x) (.str y) kd=(x.length + y.length≤sz∧kd (.str (x ++ y))):=rfl
theorem x_asub_ii {i j:Int}:opAug .Sub (.int i) (.int j) kd=kd (.int (i - j)):=rfl
theorem x_mk_t {xs:List D}:mk true xs G k=k (.lst xs) G:=rfl
theorem x_mk_f {xs:List D}:mk false xs G k=∀ p,G p=none→k (.ref p) (gupd G p (.lst xs)):=rfl
theorem v_non:view G .non=.non:=rfl
theorem v_bl {b:Bool}:view G (.bl b)=.bl b:=rfl
theorem v_int {b:Int}:view G (.int b)=.int b:=rfl
theorem v_str {b:List Nat}:view G (.str b)=.str b:=rfl
theorem v_tup {b:List D}:view G (.tup b)=.tup b:=rfl
theorem v_lst {b:List D}:view G (.lst b)=.lst b:=rfl
theorem v_scr {b:List Int}:view G (.scr b)=.scr b:=rfl
theorem v_ref {ds:List D} (e:G p=some (.lst ds)):view G (.ref p)=.lst ds:=by unfold view; dsimp only; rw [e]
theorem tr_non:truth .non=some false:=rfl
theorem tr_bl {b:Bool}:truth (.bl b)=some b:=rfl
theorem tr_int {i:Int}:truth (.int i)=some (i != 0):=rfl
theorem tr_str {l:List Nat}:truth (.str l)=some (!l.isEmpty):=rfl
theorem tr_tup {l:List D}:truth (.tup l)=some (!l.isEmpty):=rfl
theorem tr_lst {l:List D}:truth (.lst l)=some (!l.isEmpty):=rfl
theorem it_lst {l:List D}:itemsOf G (.lst l)=some (l,[]):=rfl
theorem it_tup {l:List D}:itemsOf G (.tup l)=some (l,[]):=rfl
theorem it_str {l:List Nat}:itemsOf G (.str l)=some (l.map fun c=>.str [c],[]):=rfl
theorem it_ref {ds:List D} (e:G p=some (.lst ds)):itemsOf G (.ref p)=some (ds,[(p,ds)]):=by unfold itemsOf; dsimp only; rw [e]
theorem is_non {t:String}:isT t .non=some false:=rfl
theorem is_bl {t:String} {b:Bool}:isT t (.bl b)=some (t=="bool" || t=="int"):=rfl
theorem is_int {t:String} {b:Int}:isT t (.int b)=some (t=="int"):=rfl
theorem is_str {t:String} {b:List Nat}:isT t (.str b)=some (t=="str"):=rfl
theorem is_tup {t:String} {b:List D}:isT t (.tup b)=some (t=="tuple"):=rfl
theorem is_lst {t:String} {b:List D}:isT t (.lst b)=some (t=="list"):=rfl
theorem b_nm {i:Nat} {d:D} {ρ:Env'} {kr:Env'→Prop}:bindT (.nm i) d ρ G kr=kr (ρ.set i (some d)):=rfl
theorem b_tl {ts:Tgs} {ds:List D} {ρ:Env'} {kr:Env'→Prop}:bindT (.tp ts) (.lst ds) ρ G kr=bindTs ts ds ρ G kr:=rfl
theorem b_tp {ts:Tgs} {ds:List D} {ρ:Env'} {kr:Env'→Prop}:bindT (.tp ts) (.tup ds) ρ G kr=bindTs ts ds ρ G kr:=rfl
theorem b_nil {ρ:Env'} {kr:Env'→Prop}:bindTs .nil [] ρ G kr=kr ρ:=rfl
theorem b_cons {t:Tg} {r:Tgs} {d:D} {ds:List D} {ρ:Env'} {kr:Env'→Prop}:bindTs (.cons t r) (d::ds) ρ G kr=bindT t d ρ G (fun ρ'=>bindTs r ds ρ' G kr):=rfl
theorem dq_nn:deq .non .non=true:=rfl
theorem dq_nb  {y:Bool}:deq .non (.bl y)=false:=rfl
theorem dq_ni  {y:Int}:deq .non (.int y)=false:=rfl
theorem dq_ns  {y:List Nat}:deq .non (.str y)=false:=rfl
theorem dq_nt  {y:List D}:deq .non (.tup y)=false:=rfl
theorem dq_nl  {y:List D}:deq .non (.lst y)=false:=rfl
theorem dq_bn {x:Bool} :deq (.bl x) .non=false:=rfl
theorem dq_bb {x:Bool} {y:Bool}:deq (.bl x) (.bl y)=(x==y):=by rw [deq]
theorem dq_bs {x:Bool} {y:List Nat}:deq (.bl x) (.str y)=false:=rfl
theorem dq_bt {x:Bool} {y:List D}:deq (.bl x) (.tup y)=false:=rfl
theorem dq_bl {x:Bool} {y:List D}:deq (.bl x) (.lst y)=false:=rfl
theorem dq_in {x:Int} :deq (.int x) .non=false:=rfl
theorem dq_ii {x:Int} {y:Int}:deq (.int x) (.int y)=(x==y):=by rw [deq]
theorem dq_is {x:Int} {y:List Nat}:deq (.int x) (.str y)=false:=rfl
theorem dq_it {x:Int} {y:List D}:deq (.int x) (.tup y)=false:=rfl
theorem dq_il {x:Int} {y:List D}:deq (.int x) (.lst y)=false:=rfl
theorem dq_sn {x:List Nat} :deq (.str x) .non=false:=rfl
theorem dq_sb {x:List Nat} {y:Bool}:deq (.str x) (.bl y)=false:=rfl
theorem dq_si {x:List Nat} {y:Int}:deq (.str x) (.int y)=false:=rfl
theorem dq_ss {x:List Nat} {y:List Nat}:deq (.str x) (.str y)=(x==y):=by rw [deq]
theorem dq_st {x:List Nat} {y:List D}:deq (.str x) (.tup y)=false:=rfl
theorem dq_sl {x:List Nat} {y:List D}:deq (.str x) (.lst y)=false:=rfl
theorem dq_tn {x:List D} :deq (.tup x) .non=false:=rfl
theorem dq_tb {x:List D} {y:Bool}:deq (.tup x) (.bl y)=false:=rfl
theorem dq_ti {x:List D} {y:Int}:deq (.tup x) (.int y)=false:=rfl
theorem dq_ts {x:List D} {y:List Nat}:deq (.tup x) (.str y)=false:=rfl
theorem dq_tt {x:List D} {y:List D}:deq (.tup x) (.tup y)=deqs x y:=by rw [deq]
theorem dq_tl {x:List D} {y:List D}:deq (.tup x) (.lst y)=false:=rfl
theorem dq_ln {x:List D} :deq (.lst x) .non=false:=rfl
theorem dq_lb {x:List D} {y:Bool}:deq (.lst x) (.bl y)=false:=rfl
theorem dq_li {x:List D} {y:Int}:deq (.lst x) (.int y)=false:=rfl
theorem dq_ls {x:List D} {y:List Nat}:deq (.lst x) (.str y)=false:=rfl
theorem dq_lt {x:List D} {y:List D}:deq (.lst x) (.tup y)=false:=rfl
theorem dq_ll {x:List D} {y:List D}:deq (.lst x) (.lst y)=deqs x y:=by rw [deq]
theorem dqs_n:deqs [] []=true:=rfl
theorem dqs_c {a b:D} {as bs:List D}:deqs (a::as) (b::bs)=(deq a b && deqs as bs):=by rw [deqs]
theorem dqs_nc {b:D} {bs:List D}:deqs [] (b::bs)=false:=rfl
theorem dqs_cn {b:D} {bs:List D}:deqs (b::bs) []=false:=rfl
theorem nr_n :nr .non=true:=rfl
theorem dp_n :dpt .non=0:=rfl
theorem nr_b {x:Bool}:nr (.bl x)=true:=rfl
theorem dp_b {x:Bool}:dpt (.bl x)=0:=rfl
theorem nr_i {x:Int}:nr (.int x)=true:=rfl
theorem dp_i {x:Int}:dpt (.int x)=0:=rfl
theorem nr_s {x:List Nat}:nr (.str x)=true:=rfl
theorem dp_s {x:List Nat}:dpt (.str x)=0:=rfl
theorem nr_t {x:List D}:nr (.tup x)=nrs x:=by rw [nr]
theorem dp_t {x:List D}:dpt (.tup x)=dpts x + 1:=by rw [dpt]
theorem nr_l {x:List D}:nr (.lst x)=nrs x:=by rw [nr]
theorem dp_l {x:List D}:dpt (.lst x)=dpts x + 1:=by rw [dpt]
theorem nrs_0:nrs []=true:=rfl
theorem nrs_1 {a:D} {l:List D}:nrs (a::l)=(nr a && nrs l):=by rw [nrs]
theorem dps_0:dpts []=0:=rfl
theorem dps_1 {a:D} {l:List D}:dpts (a::l)=max (dpt a) (dpts l):=by rw [dpts]
end
theorem seq {Φ:Funs} {s:Sx} {r:Sxs} {E:EK} {ρ:Env'} {G:DH} {D:En} (h:∀ M:Env'→DH→Prop,(∀ ρ' G',wpSs Φ r E ρ' G' D→M ρ' G')→wpS Φ s E ρ G { D with nx:=M }):wpSs Φ (.cons s r) E ρ G D:=by
 rw [wSs_cons]
 exact h _ fun _ _ x=>x
theorem last {Φ:Funs} {s:Sx} {E:EK} {ρ:Env'} {G:DH} {D:En} (h:wpS Φ s E ρ G D):wpSs Φ (.cons s .nil) E ρ G D:=by
 rw [wSs_cons]
 exact wpS_mono s (D:=D) (D':={ D with nx:=fun ρ' G'=>wpSs Φ .nil E ρ' G' D }) ⟨fun ρ' G' q=>(show wpSs Φ .nil E ρ' G' D from by rw [wSs_nil]; exact q),fun _ _ q=>q,fun _ _ q=>q,fun _ _ q=>q⟩ h
theorem done {Φ:Funs} {E:EK} {ρ:Env'} {G:DH} {D:En} (h:D.nx ρ G):wpSs Φ .nil E ρ G D:=by
 rw [wSs_nil]
 exact h
end RF
namespace RF
open PySem L2
section
variable {Φ:Funs} {E:EK} {ρ:Env'} {G:DH}
def ForG (Φ:Funs) (t:Tg) (body:Sxs) (E:EK) (D:En) (items:List RF.D) (g:Hld) (ρ:Env') (G:DH):Prop:=
 forLoop (fun d ρ' G' k=>bindT t d ρ' G' fun ρ1=>wpSs Φ body E ρ1 G' { D with nx:=k,ct:=k,bk:=D.nx }) g items ρ G D.nx
theorem S_for {t:Tg} {it:It'} {body:Sxs} {D:En}:wpS Φ (.for_ t it body) E ρ G D=wpI Φ it E ρ G fun items g G1=>ForG Φ t body E D items g ρ G1:=rfl
theorem ForG.inv {t:Tg} {body:Sxs} {D:En} {items:List RF.D} {g:Hld} (P:Nat→Env'→DH→Prop) (h0:P 0 ρ G) (hh:∀ i ρ G,P i ρ G→held g G)
  (hs:∀ i d ρ G,items[i]?=some d→P i ρ G→∀ kk:Env'→DH→Prop,(∀ ρ' G',P (i + 1) ρ' G'→kk ρ' G')→bindT t d ρ G fun ρ1=>wpSs Φ body E ρ1 G { D with nx:=kk,ct:=kk,bk:=D.nx })
  (he:∀ ρ G,P items.length ρ G→D.nx ρ G):ForG Φ t body E D items g ρ G:=for_inv P h0 hh hs he
def CompG (Φ:Funs) (elt:Ex) (tg:Tg) (cond:Tx) (items:List D) (g:Hld) (ρ:Env') (G:DH) (k:List D→DH→Prop):Prop:=
 compLoop (fun d ρ' G' k'=>bindT tg d ρ' G' fun ρ1=>wpT Φ cond noE ρ1 G' fun b G2=>match b with | true=>wpE Φ elt noE ρ1 G2 fun y G3=>k' (some y) ρ1 G3 | false=>k' none ρ1 G2) g items [] ρ G k
def caps (cap:List (Option Nat)) (ρ:Env'):Env':=cap.map fun o=>match o with | none=>none | some j=>(ρ[j]?).join
theorem caps_nil {ρ:Env'}:caps [] ρ=[]:=rfl
theorem caps_n {cap:List (Option Nat)} {ρ:Env'}:caps (none::cap) ρ=none::caps cap ρ:=rfl
theorem caps_s {cap:List (Option Nat)} {ρ:Env'} {j:Nat}:caps (some j::cap) ρ=(ρ[j]?).join::caps cap ρ:=rfl
theorem E_comp {fz:Bool} {elt:Ex} {tg:Tg} {it:It'} {cond:Tx} {N:List String} {cap:List (Option Nat)} {k:D→DH→Prop}:
  wpE Φ (.comp fz elt tg it cond N cap) E ρ G k=wpI Φ it E ρ G fun items g G1=>CompG Φ elt tg cond items g (caps cap ρ) G1 fun ds G2=>mk fz ds G2 k:=rfl
theorem CompG.inv {elt:Ex} {tg:Tg} {cond:Tx} {items:List D} {g:Hld} {k:List D→DH→Prop} (P:Nat→List D→Env'→DH→Prop) (h0:P 0 [] ρ G) (hh:∀ i acc ρ G,P i acc ρ G→held g G) (hl:items.length≤sz)
  (hs:∀ i d acc ρ G,items[i]?=some d→P i acc ρ G→∀ kk:Option D→Env'→DH→Prop,(∀ o ρ' G',P (i + 1) (acc ++ o.toList) ρ' G'→kk o ρ' G')→
   bindT tg d ρ G fun ρ1=>wpT Φ cond noE ρ1 G fun b G2=>match b with | true=>wpE Φ elt noE ρ1 G2 fun y G3=>kk (some y) ρ1 G3 | false=>kk none ρ1 G2)
  (he:∀ acc ρ G,P items.length acc ρ G→k acc G):CompG Φ elt tg cond items g ρ G k:=comp_inv P h0 hh (by simpa using hl) hs he
theorem CompG.pure {elt:Ex} {tg:Tg} {cond:Tx} {items:List D} {g:Hld} {k:List D→DH→Prop} (f:D→Option D) (I:Env'→Prop) (h0:I ρ) (hg:held g G) (hl:items.length≤sz)
  (hs:∀ d ρ,d∈items→I ρ→∀ kk:Option D→Env'→DH→Prop,(∀ ρ',I ρ'→kk (f d) ρ' G)→bindT tg d ρ G fun ρ1=>wpT Φ cond noE ρ1 G fun b G2=>match b with | true=>wpE Φ elt noE ρ1 G2 fun y G3=>kk (some y) ρ1 G3 | false=>kk none ρ1 G2)
  (he:k (items.filterMap f) G):CompG Φ elt tg cond items g ρ G k:=comp_pure g f I h0 hg hl hs he
theorem CompG.map {elt:Ex} {tg:Tg} {cond:Tx} {items:List D} {g:Hld} {k:List D→DH→Prop} (f:D→D) (I:Env'→Prop) (h0:I ρ) (hg:held g G) (hl:items.length≤sz)
  (hs:∀ d ρ,d∈items→I ρ→∀ kk:Option D→Env'→DH→Prop,(∀ ρ',I ρ'→kk (some (f d)) ρ' G)→bindT tg d ρ G fun ρ1=>wpT Φ cond noE ρ1 G fun b G2=>match b with | true=>wpE Φ elt noE ρ1 G2 fun y G3=>kk (some y) ρ1 G3 | false=>kk none ρ1 G2)
  (he:k (items.map f) G):CompG Φ elt tg cond items g ρ G k:=comp_map g f I h0 hg hl hs he
def WhlG (Φ:Funs) (c:Tx) (body:Sxs) (E:EK) (D:En) (n:Nat) (ρ:Env') (G:DH):Prop:=
 whileLoop (fun ρ' G' k=>wpT Φ c E ρ' G' k) (fun ρ' G' k=>wpSs Φ body E ρ' G' { D with nx:=k,ct:=k,bk:=D.nx }) n ρ G D.nx
theorem S_whl {c:Tx} {body:Sxs} {D:En}:wpS Φ (.whl c body) E ρ G D=∃ n,WhlG Φ c body E D n ρ G:=rfl
end
end RF
namespace RF
open PySem PySem.Spec PyProof.Rows L2
theorem len0 {α:Type} {l:List α} (h:l.length=0):l=[]:=List.length_eq_zero_iff.mp h
theorem lenS {α:Type} {n:Nat} {l:List α} (h:l.length=n + 1):∃ a r,l=a::r∧r.length=n:=by
 cases l with
 | nil=>cases h
 | cons a r=>exact ⟨a,r,rfl,Nat.succ.inj h⟩
theorem len1 {α:Type} {l:List α} (h:l.length=1):∃ a,l=[a]:=by
 obtain ⟨a,r,rfl,h2⟩:=lenS h; cases len0 h2; exact ⟨a,rfl⟩
theorem len2 {α:Type} {l:List α} (h:l.length=2):∃ a b,l=[a,b]:=by
 obtain ⟨a,r,rfl,h2⟩:=lenS h; obtain ⟨b,rfl⟩:=len1 h2; exact ⟨a,b,rfl⟩
theorem len3 {α:Type} {l:List α} (h:l.length=3):∃ a b c,l=[a,b,c]:=by
 obtain ⟨a,r,rfl,h2⟩:=lenS h; obtain ⟨b,c,rfl⟩:=len2 h2; exact ⟨a,b,c,rfl⟩
theorem len4 {α:Type} {l:List α} (h:l.length=4):∃ a b c d,l=[a,b,c,d]:=by
 obtain ⟨a,r,rfl,h2⟩:=lenS h; obtain ⟨b,c,d,rfl⟩:=len3 h2; exact ⟨a,b,c,d,rfl⟩
structure Fo (Φ:Funs) (P:Program) (w:World) (K:PySem.W.Frag) (mg:Str→Option Value) (base:Heap) (k:Nat) (f:String) (n:Nat):Prop where
 ex:∃ fa fd ps,FnOk P w K mg base (CX1 P w) k fa fd ps (lift K n (Φ f))∧PySem.W.keepIn K (.ref fa)=true∧Binds K fd ps []∧mg (Str.ofString f)=some (.ref fa)
section
variable {Φ:Funs} {P:Program} {w:World} {K:PySem.W.Frag} {mg:Str→Option Value} {base:Heap} {k:Nat} {xs:List String}
def AllF (Φ:Funs) (P:Program) (w:World) (K:PySem.W.Frag) (mg:Str→Option Value) (base:Heap) (k:Nat):List (String×Nat)→Prop
 | []=>True
 | (f,n)::r=>Fo Φ P w K mg base k f n∧AllF Φ P w K mg base k r
def AllB (mg:Str→Option Value):List String→Prop
 | []=>True
 | f::r=>mg (Str.ofString f)=none∧AllB mg r
def AllC (K:PySem.W.Frag) (mg:Str→Option Value):List (String×D)→Prop
 | []=>True
 | (x,d)::r=>(∃ u v,mg (Str.ofString x)=some u∧RelV v u∧∀ H F,Rep K H F d v)∧AllC K mg r
theorem AllF.get:∀ {fs:List (String×Nat)} {f:String} {n:Nat},AllF Φ P w K mg base k fs→(f,n)∈fs→Fo Φ P w K mg base k f n
 | (f',n')::r,f,n,h,m=>by
  rcases List.mem_cons.mp m with e | m
  ·cases e; exact h.1
  ·exact AllF.get h.2 m
theorem AllB.get:∀ {fs:List String} {f:String},AllB mg fs→f∈fs→mg (Str.ofString f)=none
 | f'::r,f,h,m=>by
  rcases List.mem_cons.mp m with e | m
  ·cases e; exact h.1
  ·exact AllB.get h.2 m
theorem AllC.get:∀ {fs:List (String×D)} {x:String} {d:D},AllC K mg fs→(x,d)∈fs→∃ u v,mg (Str.ofString x)=some u∧RelV v u∧∀ H F,Rep K H F d v
 | (f',n')::r,f,n,h,m=>by
  rcases List.mem_cons.mp m with e | m
  ·cases e; exact h.1
  ·exact AllC.get h.2 m
def AllX (K:PySem.W.Frag) (mg:Str→Option Value):List String→Prop
 | []=>True
 | C::r=>(∃ a,mg (Str.ofString C)=some (.ref a)∧xclsB K a=true∧PySem.W.nsIn K mainGlobals (Str.ofString C)=some (some (.ref a)))∧AllX K mg r
theorem AllX.get:∀ {xs:List String} {C:String},AllX K mg xs→C∈xs→∃ a,mg (Str.ofString C)=some (.ref a)∧xclsB K a=true∧PySem.W.nsIn K mainGlobals (Str.ofString C)=some (some (.ref a))
 | C'::r,C,h,m=>by
  rcases List.mem_cons.mp m with e | m
  ·cases e; exact h.1
  ·exact AllX.get h.2 m
theorem bse {fs:List (String×Nat)} {bt:List String} {cn:List (String×D)} (h1:AllF Φ P w K mg base k fs) (h2:AllB mg bt) (h3:AllC K mg cn) (h4:AllX K mg xs):Bse Φ P w K mg base (CX1 P w) k fs bt cn xs:=
 ⟨fun _ _ m=>(h1.get m).ex,fun _ m=>h2.get m,fun _ _ m=>h3.get m,fun _ m=>h4.get (List.contains_iff_mem.mp m)⟩
theorem con_int {x:String} {i:Int} {t:Tok} (h:mg (Str.ofString x)=some (.int i t)):∃ u v,mg (Str.ofString x)=some u∧RelV v u∧∀ H F,Rep K H F (.int i) v:=⟨_,.int i,h,⟨t,rfl⟩,fun _ _=>rfl⟩
theorem con_str {x:String} {l:List Nat} {s:Str} {t:Tok} (h:mg (Str.ofString x)=some (.str s t)) (e:s=tx l) (hl:l.length≤sz):∃ u v,mg (Str.ofString x)=some u∧RelV v u∧∀ H F,Rep K H F (.str l) v:=⟨_,.str s,h,⟨t,rfl⟩,fun _ _=>⟨by rw [e],hl⟩⟩
theorem fn_never {n:Nat} {S:RF.Spec} {fa:Addr} {fd:FuncData} {ps:List Str} (h:∀ ds G a,¬ S.pre ds G a):FnOk P w K mg base (CX1 P w) k fa fd ps (lift K n S):=
 ⟨fun _ _ _ _ ⟨_,_,_,_,_,_,a,hp,_⟩=>absurd hp (h _ _ a),fun _ _ _ _ _ _ _ _ _ _ _ _ _ ⟨_,_,_,_,_,_,a,hp,_⟩=>absurd hp (h _ _ a)⟩
end
section
variable {Φ:Funs} {P:Program} {w:World} {K:PySem.W.Frag} {mg:Str→Option Value} {base:Heap} {k j n:Nat} {fs:List (String×Nat)} {bt:List String} {cn:List (String×D)} {xs:List String} {x:String} {S:RF.Spec} {fa:Addr} {fd:FuncData} {ps:List Str}
theorem Bse.add (B:Bse Φ P w K mg base (CX1 P w) k fs bt cn xs) (e:Φ x=S) (o:FnOk P w K mg base (CX1 P w) (k + j) fa fd ps (lift K n S)) (h2:PySem.W.keepIn K (.ref fa)=true) (h3:Binds K fd ps []) (h4:mg (Str.ofString x)=some (.ref fa)):Bse Φ P w K mg base (CX1 P w) (k + j) ((x,n)::fs) bt cn xs:=by
 refine ⟨fun f m hm=>?_,B.blt,B.con,B.xcl⟩
 rcases List.mem_cons.mp hm with e' | hm
 ·cases e'; exact ⟨fa,fd,ps,by rw [e]; exact o,h2,h3,h4⟩
 ·obtain ⟨fa,fd,ps,h1,h⟩:=B.call f m hm
  exact ⟨fa,fd,ps,h1.mono (Nat.le_add_right _ _),h⟩
theorem Bse.step {qual:Str} {st:Stmt} {N:List Str} {body:Sxs} (B:Bse Φ P w K mg base (CX1 P w) k fs bt cn xs) (F:Fun K (Str.ofString x) qual st fa fd) (h3:Binds K fd ps []) (h4:mg (Str.ofString x)=some (.ref fa)) (e:Φ x=S) (m:Nat)
  (hs:fnB N ps (defScope st)=true) (hc:chkSs (ctOf N (defScope st) fs bt cn xs) body (defBody st)=true) (hn:ps.length=n) (hm:N.length=n + m)
  (hw:∀ ds G a,ds.length=n→S.pre ds G a→wpSs Φ body noE (env0 ds m) G (ends (S.post a))):Bse Φ P w K mg base (CX1 P w) (k + 1) ((x,n)::fs) bt cn xs:=
 B.add e (fun_ok F B S n m hs hc hn hm hw) F.kp h3 h4
def altF (Φ:Funs) (x:String) (S:RF.Spec):Funs:=fun f=>if f=x then S else Φ f
theorem altF_ne {y:String} (e:Φ y=S) {S':RF.Spec} (h:(y==x)=false):altF Φ x S' y=S:=by
 unfold altF
 rw [if_neg (by simpa using h)]; exact e
theorem Bse.self (B:Bse Φ P w K mg base (CX1 P w) k fs bt cn xs) (hx:(fs.map (·.1)).contains x=false) (o:FnOk P w K mg base (CX1 P w) (k + j) fa fd ps (lift K n S)) (h2:PySem.W.keepIn K (.ref fa)=true) (h3:Binds K fd ps []) (h4:mg (Str.ofString x)=some (.ref fa)):Bse (altF Φ x S) P w K mg base (CX1 P w) (k + j) ((x,n)::fs) bt cn xs:=by
 refine ⟨fun f m hm=>?_,B.blt,B.con,B.xcl⟩
 rcases List.mem_cons.mp hm with e' | hm'
 ·cases e'; exact ⟨fa,fd,ps,by unfold altF; rw [if_pos rfl]; exact o,h2,h3,h4⟩
 ·obtain ⟨fa,fd,ps,h1,h⟩:=B.call f m hm'
  have hf:f≠x:=by
   rintro rfl
   rw [← Bool.not_eq_true,List.contains_iff_mem] at hx
   exact hx (List.mem_map.mpr ⟨(f,m),hm',rfl⟩)
  exact ⟨fa,fd,ps,by unfold altF; rw [if_neg hf]; exact h1.mono (Nat.le_add_right _ _),h⟩
end
theorem law_sp {S:RF.Spec} (hS:∀ (ns:List Int) (G:DH),ns.length≤63→∃ a,S.pre [.scr ns] G a∧(∀ d G',S.post a d G'→d=.bl true)∧∀ x G',¬ S.exc a x G') (K:PySem.W.Frag) (H:Hp) (a:Addr) (ns:List Int) (hl:ns.length≤63) (hO:Only H) (hs:SqL K H a (ns.map V.int)):
  lift K 1 S [.ref a] H (fun v _=>v=.bl true) fun _ _ _=>False:=by
 obtain ⟨b,h1,h2,h3⟩:=hS ns (fun _=>none) hl
 refine ⟨rfl,fun _=>False,fun _=>none,[.scr ns],⟨fun _ f=>f.elim,fun _ _ e=>by cases e⟩,⟨.ref a,[],rfl,⟨a,rfl,?_⟩,rfl⟩,b,h1,fun d G' q H' F' v _ _ rv=>?_,fun x G' q=>absurd q (h3 x G')⟩
 ·rcases hs with (h | h) | h
  ·exfalso
   rcases hO a with z | ⟨o,u,z⟩
   ·rw [z] at h; cases h
   ·rw [z] at h; cases h
  ·exact .inl h
  ·exact .inr h
 ·rw [h2 d G' q] at rv
  exact rv
theorem relS_law {pre:List D→DH→Prop} (h:∀ (ns:List Int) (G:DH),ns.length≤63→pre [.scr ns] G):∀ (ns:List Int) (G:DH),ns.length≤63→∃ a,(relS pre (fun _ _ d _=>d=.bl true)).pre [.scr ns] G a∧(∀ d G',(relS pre (fun _ _ d _=>d=.bl true)).post a d G'→d=.bl true)∧∀ x G',¬ (relS pre (fun _ _ d _=>d=.bl true)).exc a x G':=
 fun ns G hl=>⟨([.scr ns],G),⟨rfl,h ns G hl⟩,fun _ _ q=>q,fun _ _ z=>z⟩
def ghS {A:Type} (pre:A→List D→DH→Prop) (post:A→DH→D→DH→Prop):RF.Spec where
 A:=A×DH
 pre:=fun ds G a=>a.2=G∧pre a.1 ds G
 post:=fun a d G'=>post a.1 a.2 d G'
 exc:=fun _ _ _=>False
theorem ghS_t {A:Type} {pre:A→List D→DH→Prop} {post:A→DH→D→DH→Prop} {ds:List D} {G:DH} {k:D→DH→Prop} {E:EK} (a:A) (h:pre a ds G) (hk:∀ d G',post a G d G'→k d G'):(ghS pre post).t ds G k E:=
 ⟨(a,G),⟨rfl,h⟩,hk,fun _ _ z=>z.elim⟩
theorem ghS_w {A:Type} {Φ:Funs} {body:Sxs} {m n:Nat} {pre:A→List D→DH→Prop} {post:A→DH→D→DH→Prop} (h:∀ a ds G,pre a ds G→wpSs Φ body noE (env0 ds m) G (ends (post a G))):
  ∀ ds G a,ds.length=n→(ghS pre post).pre ds G a→wpSs Φ body noE (env0 ds m) G (ends ((ghS pre post).post a)):=by
 rintro ds G ⟨a,G0⟩ _ ⟨rfl,h1⟩
 exact h a ds _ h1
def valS {A:Type} (args:A→List D) (ok:A→Prop) (val:A→D):RF.Spec:=ghS (fun a ds _=>ds=args a∧ok a) (fun a G d G'=>G'=G∧d=val a)
theorem valS_t {A:Type} {args:A→List D} {ok:A→Prop} {val:A→D} {ds:List D} {G:DH} {k:D→DH→Prop} {E:EK} (a:A) (e:ds=args a) (h:ok a) (hk:k (val a) G):(valS args ok val).t ds G k E:=
 ghS_t a ⟨e,h⟩ fun d G' ⟨e1,e2⟩=>by subst e1 e2; exact hk
theorem valS_w {A:Type} {Φ:Funs} {body:Sxs} {m n:Nat} {args:A→List D} {ok:A→Prop} {val:A→D} (h:∀ a G,ok a→wpSs Φ body noE (env0 (args a) m) G (ends fun d G'=>G'=G∧d=val a)):
  ∀ ds G a,ds.length=n→(valS args ok val).pre ds G a→wpSs Φ body noE (env0 ds m) G (ends ((valS args ok val).post a)):=
 ghS_w fun a ds G ⟨e,h1⟩=>by subst e; exact h a G h1
end RF
namespace RF
open PySem L2
theorem wpre:type_of% (And.intro @wS_exp (And.intro @wS_asg (And.intro @wS_set (And.intro @wS_aug (And.intro @wS_augs (And.intro @wS_ret (And.intro @wS_rtn (And.intro @wS_ite (And.intro @wS_pas (And.intro @wS_brk (And.intro @wS_cnt (And.intro (And.intro @wS_nev (And.intro @wS_rse (And.intro @wS_tryc (And.intro @wM_nil @wM_cons)))) (And.intro @S_for (And.intro @S_whl (And.intro (And.intro @wE_var (And.intro @wT_not (And.intro @wT_boo (And.intro @wT_yes (And.intro @wT_val (And.intro @wEs_nil (And.intro @wEs_cons (And.intro @wB_nil (And.intro @wB_cons (And.intro @wTB_nil (And.intro @wTB_cons (And.intro @wO_no (And.intro @wO_ob (And.intro @wI_seq (And.intro @wI_rng (And.intro @wI_rng2 (And.intro @wI_rev (And.intro @wI_dwn (And.intro @wI_enm @wI_zip))))))))))))))))))) (And.intro @wE_cst (And.intro @wE_glb (And.intro @wE_bin (And.intro @wE_neg (And.intro @wE_cmp (And.intro @wE_chn (And.intro @wE_not (And.intro @wE_boo (And.intro @wE_ife (And.intro @wE_tup (And.intro @wE_lst (And.intro @wE_idx (And.intro (And.intro @wE_slc @wE_rvs) (And.intro @wE_call (And.intro @wE_bcl (And.intro @wE_lcl (And.intro @wE_isi (And.intro @wE_mth (And.intro @wE_frz (And.intro @E_comp (And.intro @x_add_ii (And.intro @x_add_ss (And.intro @x_add_ll (And.intro @x_add_tt (And.intro @x_sub_ii (And.intro @x_mul_ii (And.intro @x_mul_si (And.intro @x_div_ii (And.intro @x_mod_ii (And.intro @x_pow_ii (And.intro @x_eq (And.intro @x_ne (And.intro @x_lt_ii (And.intro @x_le_ii (And.intro @x_gt_ii (And.intro @x_ge_ii (And.intro @x_lt_ss (And.intro @x_le_ss (And.intro @x_is_non (And.intro @x_isnot_non (And.intro @x_is_bb (And.intro @x_isnot_bb (And.intro @x_in_cs (And.intro @x_notin_cs (And.intro @x_in_l (And.intro @x_in_t (And.intro @x_notin_l (And.intro @x_notin_t (And.intro @nn_int (And.intro @nn_bl (And.intro @nn_str (And.intro @nn_tup (And.intro @nn_lst (And.intro @nn_ref (And.intro @nn_non (And.intro @x_idx_l (And.intro @x_idx_t (And.intro @x_idx_s (And.intro @x_slc_l (And.intro (And.intro @x_slc_c @x_rvs) (And.intro @x_slc_t (And.intro @x_slc_s (And.intro @x_len_l (And.intro @x_len_t (And.intro @x_len_s (And.intro @x_all_l (And.intro @x_int_b (And.intro @x_int_i (And.intro @x_int_s (And.intro @x_sum (And.intro @x_sorted (And.intro (And.intro @x_tup_l @x_max) (And.intro @x_tup_t (And.intro @x_list_l (And.intro @x_list_t (And.intro @x_list_s (And.intro @x_join (And.intro @x_append (And.intro (And.intro @x_extend (And.intro @x_insert @x_recv_i)) (And.intro @x_recv_j (And.intro @x_recv_a (And.intro @x_recv_e (And.intro @x_set (And.intro @x_aug_ii (And.intro @x_aug_ss (And.intro @x_asub_ii (And.intro @x_mk_t (And.intro @x_mk_f (And.intro @v_non (And.intro @v_bl (And.intro @v_int (And.intro @v_str (And.intro @v_tup (And.intro @v_lst (And.intro @v_scr (And.intro @tr_non (And.intro @tr_bl (And.intro @tr_int (And.intro @tr_str (And.intro @tr_tup (And.intro @tr_lst (And.intro @it_lst (And.intro @it_tup (And.intro @it_str (And.intro @is_non (And.intro @is_bl (And.intro @is_int (And.intro @is_str (And.intro @is_tup (And.intro @is_lst (And.intro @b_nm (And.intro (And.intro @b_tp @b_tl) (And.intro @b_nil (And.intro @b_cons (@optK_some)))))))))))))))))))))))))))))))))))))))))))))))))))))))))))))))))))))))))))))))))))))))))))))))))))))))))))))))))))))))))))))))))):=And.intro @wS_exp (And.intro @wS_asg (And.intro @wS_set (And.intro @wS_aug (And.intro @wS_augs (And.intro @wS_ret (And.intro @wS_rtn (And.intro @wS_ite (And.intro @wS_pas (And.intro @wS_brk (And.intro @wS_cnt (And.intro (And.intro @wS_nev (And.intro @wS_rse (And.intro @wS_tryc (And.intro @wM_nil @wM_cons)))) (And.intro @S_for (And.intro @S_whl (And.intro (And.intro @wE_var (And.intro @wT_not (And.intro @wT_boo (And.intro @wT_yes (And.intro @wT_val (And.intro @wEs_nil (And.intro @wEs_cons (And.intro @wB_nil (And.intro @wB_cons (And.intro @wTB_nil (And.intro @wTB_cons (And.intro @wO_no (And.intro @wO_ob (And.intro @wI_seq (And.intro @wI_rng (And.intro @wI_rng2 (And.intro @wI_rev (And.intro @wI_dwn (And.intro @wI_enm @wI_zip))))))))))))))))))) (And.intro @wE_cst (And.intro @wE_glb (And.intro @wE_bin (And.intro @wE_neg (And.intro @wE_cmp (And.intro @wE_chn (And.intro @wE_not (And.intro @wE_boo (And.intro @wE_ife (And.intro @wE_tup (And.intro @wE_lst (And.intro @wE_idx (And.intro (And.intro @wE_slc @wE_rvs) (And.intro @wE_call (And.intro @wE_bcl (And.intro @wE_lcl (And.intro @wE_isi (And.intro @wE_mth (And.intro @wE_frz (And.intro @E_comp (And.intro @x_add_ii (And.intro @x_add_ss (And.intro @x_add_ll (And.intro @x_add_tt (And.intro @x_sub_ii (And.intro @x_mul_ii (And.intro @x_mul_si (And.intro @x_div_ii (And.intro @x_mod_ii (And.intro @x_pow_ii (And.intro @x_eq (And.intro @x_ne (And.intro @x_lt_ii (And.intro @x_le_ii (And.intro @x_gt_ii (And.intro @x_ge_ii (And.intro @x_lt_ss (And.intro @x_le_ss (And.intro @x_is_non (And.intro @x_isnot_non (And.intro @x_is_bb (And.intro @x_isnot_bb (And.intro @x_in_cs (And.intro @x_notin_cs (And.intro @x_in_l (And.intro @x_in_t (And.intro @x_notin_l (And.intro @x_notin_t (And.intro @nn_int (And.intro @nn_bl (And.intro @nn_str (And.intro @nn_tup (And.intro @nn_lst (And.intro @nn_ref (And.intro @nn_non (And.intro @x_idx_l (And.intro @x_idx_t (And.intro @x_idx_s (And.intro @x_slc_l (And.intro (And.intro @x_slc_c @x_rvs) (And.intro @x_slc_t (And.intro @x_slc_s (And.intro @x_len_l (And.intro @x_len_t (And.intro @x_len_s (And.intro @x_all_l (And.intro @x_int_b (And.intro @x_int_i (And.intro @x_int_s (And.intro @x_sum (And.intro @x_sorted (And.intro (And.intro @x_tup_l @x_max) (And.intro @x_tup_t (And.intro @x_list_l (And.intro @x_list_t (And.intro @x_list_s (And.intro @x_join (And.intro @x_append (And.intro (And.intro @x_extend (And.intro @x_insert @x_recv_i)) (And.intro @x_recv_j (And.intro @x_recv_a (And.intro @x_recv_e (And.intro @x_set (And.intro @x_aug_ii (And.intro @x_aug_ss (And.intro @x_asub_ii (And.intro @x_mk_t (And.intro @x_mk_f (And.intro @v_non (And.intro @v_bl (And.intro @v_int (And.intro @v_str (And.intro @v_tup (And.intro @v_lst (And.intro @v_scr (And.intro @tr_non (And.intro @tr_bl (And.intro @tr_int (And.intro @tr_str (And.intro @tr_tup (And.intro @tr_lst (And.intro @it_lst (And.intro @it_tup (And.intro @it_str (And.intro @is_non (And.intro @is_bl (And.intro @is_int (And.intro @is_str (And.intro @is_tup (And.intro @is_lst (And.intro @b_nm (And.intro (And.intro @b_tp @b_tl) (And.intro @b_nil (And.intro @b_cons (@optK_some)))))))))))))))))))))))))))))))))))))))))))))))))))))))))))))))))))))))))))))))))))))))))))))))))))))))))))))))))))))))))))))))))
theorem wpSq:type_of% (And.intro @wSs_nil @wSs_cons):=And.intro @wSs_nil @wSs_cons
theorem wpst:type_of% (And.intro @caps_nil (And.intro @caps_n (And.intro @caps_s (And.intro @Option.join_some.{0} (And.intro @List.map_cons.{0,0} (And.intro @List.map_nil.{0,0} (And.intro @List.cons_append.{0} (And.intro @List.nil_append.{0} (And.intro @List.replicate_succ.{0} (And.intro @List.replicate_zero.{0} (And.intro @List.getElem?_cons_zero.{0} (And.intro @List.getElem?_cons_succ.{0} (And.intro @List.set_cons_zero.{0} (And.intro @List.set_cons_succ.{0} (And.intro @List.length_cons.{0} (And.intro @List.length_nil.{0} (And.intro @atI_0 (And.intro @atI_1 (And.intro @atI_2 (And.intro @atI_3 (And.intro @ixN_0 (And.intro @ixN_1 (And.intro @ixN_2 (And.intro @true_and (And.intro @and_true (And.intro @Nat.min_self (And.intro @Nat.zero_min (And.intro @Nat.min_zero (And.intro @Nat.zero_le (And.intro @Bool.or_false (And.intro @Bool.or_true (And.intro @Bool.false_or (And.intro @Bool.true_or (And.intro @Bool.not_true (And.intro @Bool.not_false (And.intro @dq_nn (And.intro @dq_nb (And.intro @dq_ni (And.intro @dq_ns (And.intro @dq_nt (And.intro @dq_nl (And.intro @dq_bn (And.intro @dq_bb (And.intro @dq_bs (And.intro @dq_bt (And.intro @dq_bl (And.intro @dq_in (And.intro @dq_ii (And.intro @dq_is (And.intro @dq_it (And.intro @dq_il (And.intro @dq_sn (And.intro @dq_sb (And.intro @dq_si (And.intro @dq_ss (And.intro @dq_st (And.intro @dq_sl (And.intro @dq_tn (And.intro @dq_tb (And.intro @dq_ti (And.intro @dq_ts (And.intro @dq_tt (And.intro @dq_tl (And.intro @dq_ln (And.intro @dq_lb (And.intro @dq_li (And.intro @dq_ls (And.intro @dq_lt (And.intro @dq_ll (And.intro @dqs_n (And.intro @dqs_c (And.intro @dqs_nc (And.intro @dqs_cn (And.intro @nr_n (And.intro @dp_n (And.intro @nr_b (And.intro @dp_b (And.intro @nr_i (And.intro @dp_i (And.intro @nr_s (And.intro @dp_s (And.intro @nr_t (And.intro @dp_t (And.intro @nr_l (And.intro @dp_l (And.intro @nrs_0 (And.intro @nrs_1 (And.intro @dps_0 (@dps_1))))))))))))))))))))))))))))))))))))))))))))))))))))))))))))))))))))))))))))))))))))))))):=And.intro @caps_nil (And.intro @caps_n (And.intro @caps_s (And.intro @Option.join_some.{0} (And.intro @List.map_cons.{0,0} (And.intro @List.map_nil.{0,0} (And.intro @List.cons_append.{0} (And.intro @List.nil_append.{0} (And.intro @List.replicate_succ.{0} (And.intro @List.replicate_zero.{0} (And.intro @List.getElem?_cons_zero.{0} (And.intro @List.getElem?_cons_succ.{0} (And.intro @List.set_cons_zero.{0} (And.intro @List.set_cons_succ.{0} (And.intro @List.length_cons.{0} (And.intro @List.length_nil.{0} (And.intro @atI_0 (And.intro @atI_1 (And.intro @atI_2 (And.intro @atI_3 (And.intro @ixN_0 (And.intro @ixN_1 (And.intro @ixN_2 (And.intro @true_and (And.intro @and_true (And.intro @Nat.min_self (And.intro @Nat.zero_min (And.intro @Nat.min_zero (And.intro @Nat.zero_le (And.intro @Bool.or_false (And.intro @Bool.or_true (And.intro @Bool.false_or (And.intro @Bool.true_or (And.intro @Bool.not_true (And.intro @Bool.not_false (And.intro @dq_nn (And.intro @dq_nb (And.intro @dq_ni (And.intro @dq_ns (And.intro @dq_nt (And.intro @dq_nl (And.intro @dq_bn (And.intro @dq_bb (And.intro @dq_bs (And.intro @dq_bt (And.intro @dq_bl (And.intro @dq_in (And.intro @dq_ii (And.intro @dq_is (And.intro @dq_it (And.intro @dq_il (And.intro @dq_sn (And.intro @dq_sb (And.intro @dq_si (And.intro @dq_ss (And.intro @dq_st (And.intro @dq_sl (And.intro @dq_tn (And.intro @dq_tb (And.intro @dq_ti (And.intro @dq_ts (And.intro @dq_tt (And.intro @dq_tl (And.intro @dq_ln (And.intro @dq_lb (And.intro @dq_li (And.intro @dq_ls (And.intro @dq_lt (And.intro @dq_ll (And.intro @dqs_n (And.intro @dqs_c (And.intro @dqs_nc (And.intro @dqs_cn (And.intro @nr_n (And.intro @dp_n (And.intro @nr_b (And.intro @dp_b (And.intro @nr_i (And.intro @dp_i (And.intro @nr_s (And.intro @dp_s (And.intro @nr_t (And.intro @dp_t (And.intro @nr_l (And.intro @dp_l (And.intro @nrs_0 (And.intro @nrs_1 (And.intro @dps_0 (@dps_1))))))))))))))))))))))))))))))))))))))))))))))))))))))))))))))))))))))))))))))))))))))))
end RF
namespace RF
open PySem L2
def b_is_whole:Sxs:=(.cons (.ret (.boo true (.isi (.var 0) "int") (.cons (.not (.isi (.var 0) "bool")) .nil))) .nil)
def b_is_width:Sxs:=(.cons (.ret (.boo true (.call "is_whole" (.cons (.var 0) .nil)) (.cons (.chn .LtE .LtE (.cst (.int 1)) (.var 0) (.glb "WIDEST" (.int 6))) .nil))) .nil)
def b_is_place:Sxs:=(.cons (.ret (.boo true (.call "is_whole" (.cons (.var 1) .nil)) (.cons (.chn .LtE .Lt (.cst (.int 0)) (.var 1) (.var 0)) .nil))) .nil)
def b_is_text_of:Sxs:=(.cons (.ite (.boo false (.not (.val (.isi (.var 2) "str"))) (.cons (.val (.cmp .NotEq (.bcl .len (.cons (.var 2) .nil)) (.var 1))) .nil)) (.cons (.ret (.cst (.bl false))) .nil) .nil) (.cons (.ret (.bcl .all (.cons (.comp true (.cmp .In (.var 0) (.var 1)) (.nm 0) (.seq (.var 2)) .yes ["sign","signs"] [none,some 0]) .nil))) .nil))
def b_is_form:Sxs:=(.cons (.ret (.call "is_text_of" (.cons (.cst (.str [48,49,42])) (.cons (.var 0) (.cons (.var 1) .nil))))) .nil)
def b_fits:Sxs:=(.cons (.ite (.val (.cmp .NotEq (.bcl .len (.cons (.var 0) .nil)) (.bcl .len (.cons (.var 1) .nil)))) (.cons (.ret (.cst (.bl false))) .nil) .nil) (.cons (.ret (.bcl .all (.cons (.comp true (.boo false (.cmp .Eq (.var 0) (.cst (.str [42]))) (.cons (.cmp .Eq (.var 0) (.var 1)) .nil)) (.tp (.cons (.nm 0) (.cons (.nm 1) .nil))) (.zip (.var 0) (.var 1)) .yes ["sign","given"] [none,none]) .nil))) .nil))
def b_lies_in:Sxs:=(.cons (.ret (.call "fits" (.cons (.var 1) (.cons (.var 0) .nil)))) .nil)
def b_with_sign:Sxs:=(.cons (.ret (.bin .Add true (.bin .Add true (.slc true (.var 0) .no (.ob (.var 1))) (.var 2)) (.slc true (.var 0) (.ob (.bin .Add true (.var 1) (.cst (.int 1)))) .no))) .nil)
def b_both:Sxs:=(.cons (.asg (.nm 2) (.cst (.str []))) (.cons (.for_ (.tp (.cons (.nm 3) (.cons (.nm 4) .nil))) (.zip (.var 0) (.var 1)) (.cons (.ite (.val (.cmp .Eq (.var 3) (.cst (.str [42])))) (.cons (.aug 2 .Add (.var 4)) .nil) (.cons (.ite (.boo false (.val (.cmp .Eq (.var 4) (.cst (.str [42])))) (.cons (.val (.cmp .Eq (.var 4) (.var 3))) .nil)) (.cons (.aug 2 .Add (.var 3)) .nil) (.cons (.ret (.cst .non)) .nil)) .nil)) .nil)) (.cons (.ret (.var 2)) .nil)))
def b_is_deed:Sxs:=(.cons (.ite (.boo false (.not (.val (.isi (.var 0) "str"))) (.cons (.not (.val (.chn .LtE .LtE (.cst (.int 1)) (.bcl .len (.cons (.var 0) .nil)) (.glb "LONGEST_DEED" (.int 8))))) .nil)) (.cons (.ret (.cst (.bl false))) .nil) .nil) (.cons (.ret (.bcl .all (.cons (.comp true (.cmp .In (.var 0) (.glb "LETTERS" (.str [97,98,99,100,101,102,103,104,105,106,107,108,109,110,111,112,113,114,115,116,117,118,119,120,121,122]))) (.nm 0) (.seq (.var 0)) .yes ["sign"] [none]) .nil))) .nil))
def b_is_row:Sxs:=(.cons (.ite (.boo false (.not (.val (.isi (.var 1) "tuple"))) (.cons (.val (.cmp .NotEq (.bcl .len (.cons (.var 1) .nil)) (.cst (.int 2)))) .nil)) (.cons (.ret (.cst (.bl false))) .nil) .nil) (.cons (.ret (.boo true (.call "is_form" (.cons (.var 0) (.cons (.idx (.var 1) (.cst (.int 0))) .nil))) (.cons (.call "is_deed" (.cons (.idx (.var 1) (.cst (.int 1))) .nil)) .nil))) .nil))
def b_is_book:Sxs:=(.cons (.ite (.boo false (.not (.val (.isi (.var 0) "tuple"))) (.cons (.val (.cmp .NotEq (.bcl .len (.cons (.var 0) .nil)) (.cst (.int 2)))) .nil)) (.cons (.ret (.cst (.bl false))) .nil) .nil) (.cons (.asg (.tp (.cons (.nm 1) (.cons (.nm 2) .nil))) (.var 0)) (.cons (.ite (.boo false (.not (.val (.call "is_width" (.cons (.var 1) .nil)))) (.cons (.not (.val (.isi (.var 2) "tuple"))) (.cons (.val (.cmp .Gt (.bcl .len (.cons (.var 2) .nil)) (.glb "MOST_ROWS" (.int 12)))) .nil))) (.cons (.ret (.cst (.bl false))) .nil) .nil) (.cons (.ret (.bcl .all (.cons (.comp true (.call "is_row" (.cons (.var 1) (.cons (.var 0) .nil))) (.nm 0) (.seq (.var 2)) .yes ["row","width"] [none,some 1]) .nil))) .nil))))
def b_need_book:Sxs:=(.cons (.ite (.not (.val (.call "is_book" (.cons (.var 0) .nil)))) (.cons .nev .nil) .nil) .nil)
def b_need_two_books:Sxs:=(.cons (.exp (.call "need_book" (.cons (.var 0) .nil))) (.cons (.exp (.call "need_book" (.cons (.var 1) .nil))) (.cons (.ite (.val (.cmp .NotEq (.idx (.var 0) (.cst (.int 0))) (.idx (.var 1) (.cst (.int 0))))) (.cons .nev .nil) .nil) .nil)))
def b_deed_of:Sxs:=(.cons (.ite (.val (.cmp .Is (.var 1) (.cst .non))) (.cons (.ret (.cst .non)) .nil) .nil) (.cons (.ret (.idx (.idx (.idx (.var 0) (.cst (.int 1))) (.var 1)) (.cst (.int 1)))) .nil))
def b_stars:Sxs:=(.cons (.ret (.bin .Mult true (.cst (.str [42])) (.var 0))) .nil)
def b_is_named:Sxs:=(.cons (.ret (.boo true (.isi (.var 2) "tuple") (.cons (.cmp .Eq (.bcl .len (.cons (.var 2) .nil)) (.bin .Add true (.var 1) (.cst (.int 1)))) (.cons (.cmp .Eq (.idx (.var 2) (.cst (.int 0))) (.var 0)) .nil)))) .nil)
def b_leaves:Sxs:=(.cons (.ite (.not (.val (.call "is_named" (.cons (.cst (.str [115,112,108,105,116])) (.cons (.cst (.int 3)) (.cons (.var 1) .nil)))))) (.cons (.ret (.lst true (.cons (.tup (.cons (.var 0) (.cons (.var 1) .nil))) .nil))) .nil) .nil) (.cons (.asg (.nm 2) (.idx (.var 1) (.cst (.int 1)))) (.cons (.ite (.boo false (.not (.val (.call "is_place" (.cons (.bcl .len (.cons (.var 0) .nil)) (.cons (.var 2) .nil))))) (.cons (.val (.cmp .NotEq (.idx (.var 0) (.var 2)) (.cst (.str [42])))) .nil)) (.cons (.ret (.cst .non)) .nil) .nil) (.cons (.asg (.nm 3) (.call "leaves" (.cons (.call "with_sign" (.cons (.var 0) (.cons (.var 2) (.cons (.cst (.str [48])) .nil)))) (.cons (.idx (.var 1) (.cst (.int 2))) .nil)))) (.cons (.asg (.nm 4) (.call "leaves" (.cons (.call "with_sign" (.cons (.var 0) (.cons (.var 2) (.cons (.cst (.str [49])) .nil)))) (.cons (.idx (.var 1) (.cst (.int 3))) .nil)))) (.cons (.ite (.boo false (.val (.cmp .Is (.var 3) (.cst .non))) (.cons (.val (.cmp .Is (.var 4) (.cst .non))) .nil)) (.cons (.ret (.cst .non)) .nil) .nil) (.cons (.ret (.bin .Add true (.var 3) (.var 4))) .nil)))))))
def b_first_touching:Sxs:=(.cons (.for_ (.tp (.cons (.nm 2) (.cons (.nm 3) .nil))) (.enm (.var 0)) (.cons (.ite (.val (.cmp .IsNot (.call "both" (.cons (.idx (.var 3) (.cst (.int 0))) (.cons (.var 1) .nil))) (.cst .non))) (.cons (.ret (.var 2)) .nil) .nil) .nil)) (.cons (.ret (.cst .non)) .nil))
def b_is_met:Sxs:=(.cons (.ite (.val (.cmp .Is (.var 2) (.cst .non))) (.cons (.ret (.cmp .Is (.call "first_touching" (.cons (.var 0) (.cons (.var 1) .nil))) (.cst .non))) .nil) .nil) (.cons (.ite (.boo false (.not (.val (.call "is_place" (.cons (.bcl .len (.cons (.var 0) .nil)) (.cons (.var 2) .nil))))) (.cons (.not (.val (.call "lies_in" (.cons (.var 1) (.cons (.idx (.idx (.var 0) (.var 2)) (.cst (.int 0))) .nil))))) .nil)) (.cons (.ret (.cst (.bl false))) .nil) .nil) (.cons (.ret (.cmp .Eq (.call "first_touching" (.cons (.var 0) (.cons (.var 1) .nil))) (.var 2))) .nil)))
def b_same_deeds:Sxs:=(.cons (.ret (.cmp .Eq (.call "deed_of" (.cons (.var 0) (.cons (.idx (.var 2) (.cst (.int 1))) .nil))) (.call "deed_of" (.cons (.var 1) (.cons (.idx (.var 2) (.cst (.int 2))) .nil))))) .nil)
def b_is_same:Sxs:=(.cons (.ite (.not (.val (.call "is_named" (.cons (.cst (.str [115,97,109,101])) (.cons (.cst (.int 2)) (.cons (.var 3) .nil)))))) (.cons (.ret (.cst (.bl false))) .nil) .nil) (.cons (.ite (.boo false (.not (.val (.call "is_met" (.cons (.idx (.var 0) (.cst (.int 1))) (.cons (.var 2) (.cons (.idx (.var 3) (.cst (.int 1))) .nil)))))) (.cons (.not (.val (.call "is_met" (.cons (.idx (.var 1) (.cst (.int 1))) (.cons (.var 2) (.cons (.idx (.var 3) (.cst (.int 2))) .nil)))))) .nil)) (.cons (.ret (.cst (.bl false))) .nil) .nil) (.cons (.ret (.call "same_deeds" (.cons (.var 0) (.cons (.var 1) (.cons (.var 3) .nil))))) .nil)))
def b_is_alike:Sxs:=(.cons (.exp (.call "need_two_books" (.cons (.var 0) (.cons (.var 1) .nil)))) (.cons (.asg (.nm 3) (.call "leaves" (.cons (.call "stars" (.cons (.idx (.var 0) (.cst (.int 0))) .nil)) (.cons (.var 2) .nil)))) (.cons (.ite (.val (.cmp .Is (.var 3) (.cst .non))) (.cons (.ret (.cst (.bl false))) .nil) .nil) (.cons (.ret (.bcl .all (.cons (.comp true (.call "is_same" (.cons (.var 2) (.cons (.var 3) (.cons (.var 0) (.cons (.var 1) .nil))))) (.tp (.cons (.nm 0) (.cons (.nm 1) .nil))) (.seq (.var 3)) .yes ["box","leaf","one","other"] [none,none,some 0,some 1]) .nil))) .nil))))
def b_law_spread:Sxs:=(.cons (.ite (.val (.cmp .GtE (.var 0) (.bin .Pow true (.cst (.int 10)) (.cst (.int 18))))) (.cons (.ret (.var 0)) .nil) .nil) (.cons (.asg (.nm 2) (.bin .Mod true (.bin .Add true (.bin .Add true (.bin .Mult true (.bin .Mod true (.var 0) (.cst (.int 1000000007))) (.cst (.int 69069))) (.bin .Mult true (.var 1) (.cst (.int 40503)))) (.cst (.int 977))) (.cst (.int 2147483629)))) (.cons (.asg (.nm 3) (.bin .Mod true (.bin .Add true (.bin .Add true (.bin .Mult true (.var 2) (.var 2)) (.bin .Mult true (.var 1) (.cst (.int 7919)))) (.bin .Mod true (.var 0) (.cst (.int 65537)))) (.cst (.int 2147483587)))) (.cons (.asg (.nm 4) (.bin .Mod true (.bin .Add true (.bin .Add true (.bin .Mult true (.var 3) (.var 3)) (.bin .Mult true (.var 2) (.cst (.int 31)))) (.cst (.int 5))) (.cst (.int 2147483563)))) (.cons (.ret (.bin .Add true (.bin .Mult true (.bin .Add true (.bin .Mult true (.var 2) (.cst (.int 2147483659))) (.var 3)) (.cst (.int 2147483693))) (.var 4))) .nil)))))
def b_law_open:Sxs:=(.cons (.asg (.nm 1) (.lcl false .list (.cons (.slc true (.var 0) .no (.ob (.cst (.int 12)))) .nil))) (.cons (.for_ (.tp (.cons (.nm 2) (.cons (.nm 3) .nil))) (.enm (.slc true (.var 0) (.ob (.cst (.int 12))) (.ob (.cst (.int 63))))) (.cons (.set (.var 1) (.bin .Mod true (.var 2) (.cst (.int 12))) (.bin .Add true (.idx (.var 1) (.bin .Mod true (.var 2) (.cst (.int 12)))) (.var 3))) .nil)) (.cons (.ret (.lst false (.cons (.frz (.var 1)) (.cons (.cst (.int 0)) (.cons (.cst (.int 0)) .nil))))) .nil)))
def b_law_anew:Sxs:=(.cons (.set (.var 0) (.cst (.int 2)) (.cst (.int 0))) (.cons (.ret (.var 0)) .nil))
def b_law_take:Sxs:=(.cons (.ite (.val (.cmp .Lt (.idx (.var 0) (.cst (.int 2))) (.var 1))) (.cons (.asg (.nm 2) (.idx (.var 0) (.cst (.int 1)))) (.cons (.asg (.nm 3) (.cst (.int 0))) (.cons (.ite (.val (.cmp .Lt (.var 2) (.bcl .len (.cons (.idx (.var 0) (.cst (.int 0))) .nil)))) (.cons (.asg (.nm 3) (.idx (.idx (.var 0) (.cst (.int 0))) (.var 2))) .nil) (.cons (.ite (.val (.cmp .Gt (.bcl .len (.cons (.idx (.var 0) (.cst (.int 0))) .nil)) (.cst (.int 0)))) (.cons (.asg (.nm 3) (.bin .Mod true (.idx (.idx (.var 0) (.cst (.int 0))) (.bin .Mod true (.bin .Add true (.bin .Mult true (.var 2) (.cst (.int 5))) (.cst (.int 3))) (.bcl .len (.cons (.idx (.var 0) (.cst (.int 0))) .nil)))) (.bin .Add true (.bin .Pow true (.cst (.int 10)) (.cst (.int 17))) (.var 2)))) .nil) .nil) .nil)) (.cons (.set (.var 0) (.cst (.int 1)) (.bin .Add true (.var 2) (.cst (.int 1)))) (.cons (.set (.var 0) (.cst (.int 2)) (.call "_law_spread" (.cons (.var 3) (.cons (.var 2) .nil)))) .nil))))) .nil) (.cons (.asg (.nm 4) (.bin .Mod true (.idx (.var 0) (.cst (.int 2))) (.var 1))) (.cons (.set (.var 0) (.cst (.int 2)) (.bin .FloorDiv true (.idx (.var 0) (.cst (.int 2))) (.var 1))) (.cons (.ret (.var 4)) .nil))))
def b_law_signs:Sxs:=(.cons (.ret (.mth .join (.cst (.str [])) (.cons (.comp true (.idx (.var 1) (.call "_law_take" (.cons (.var 2) (.cons (.bcl .len (.cons (.var 1) .nil)) .nil)))) (.nm 0) (.rng (.var 1)) .yes ["at","signs","pen"] [none,some 2,some 0]) .nil))) .nil)
def b_law_form:Sxs:=(.cons (.ret (.call "_law_signs" (.cons (.var 0) (.cons (.var 1) (.cons (.idx (.lst true (.cons (.cst (.str [48,49,42])) (.cons (.cst (.str [48,49,42,42])) (.cons (.cst (.str [48,49,42,42,42,42])) (.cons (.cst (.str [48,42])) (.cons (.cst (.str [48,49])) .nil)))))) (.call "_law_take" (.cons (.var 0) (.cons (.cst (.int 5)) .nil)))) .nil))))) .nil)
def b_law_within:Sxs:=(.cons (.asg (.nm 2) (.cst (.str []))) (.cons (.for_ (.nm 3) (.seq (.var 1)) (.cons (.ite (.boo true (.val (.cmp .Eq (.var 3) (.cst (.str [42])))) (.cons (.val (.cmp .Eq (.call "_law_take" (.cons (.var 0) (.cons (.cst (.int 2)) .nil))) (.cst (.int 0)))) .nil)) (.cons (.asg (.nm 3) (.idx (.cst (.str [48,49])) (.call "_law_take" (.cons (.var 0) (.cons (.cst (.int 2)) .nil))))) .nil) .nil) (.cons (.asg (.nm 2) (.bin .Add true (.var 2) (.var 3))) .nil))) (.cons (.ret (.var 2)) .nil)))
def b_law_wider:Sxs:=(.cons (.asg (.nm 2) (.cst (.str []))) (.cons (.for_ (.nm 3) (.seq (.var 1)) (.cons (.ite (.val (.cmp .Eq (.call "_law_take" (.cons (.var 0) (.cons (.cst (.int 3)) .nil))) (.cst (.int 0)))) (.cons (.asg (.nm 3) (.cst (.str [42]))) .nil) .nil) (.cons (.asg (.nm 2) (.bin .Add true (.var 2) (.var 3))) .nil))) (.cons (.ret (.var 2)) .nil)))
def b_law_form_like:Sxs:=(.cons (.asg (.nm 3) (.call "_law_take" (.cons (.var 0) (.cons (.cst (.int 7)) .nil)))) (.cons (.ite (.boo false (.val (.cmp .Eq (.var 2) (.lst true .nil))) (.cons (.val (.cmp .Lt (.var 3) (.cst (.int 2)))) .nil)) (.cons (.ret (.call "_law_form" (.cons (.var 0) (.cons (.var 1) .nil)))) .nil) .nil) (.cons (.asg (.nm 4) (.idx (.var 2) (.call "_law_take" (.cons (.var 0) (.cons (.bcl .len (.cons (.var 2) .nil)) .nil))))) (.cons (.ite (.val (.cmp .Eq (.var 3) (.cst (.int 2)))) (.cons (.ret (.var 4)) .nil) .nil) (.cons (.ite (.val (.cmp .Lt (.var 3) (.cst (.int 5)))) (.cons (.asg (.nm 5) (.call "_law_take" (.cons (.var 0) (.cons (.var 1) .nil)))) (.cons (.ret (.bin .Add true (.bin .Add true (.slc true (.var 4) .no (.ob (.var 5))) (.idx (.cst (.str [48,49,42])) (.call "_law_take" (.cons (.var 0) (.cons (.cst (.int 3)) .nil))))) (.slc true (.var 4) (.ob (.bin .Add true (.var 5) (.cst (.int 1)))) .no))) .nil)) .nil) (.cons (.ite (.val (.cmp .Eq (.var 3) (.cst (.int 5)))) (.cons (.ret (.call "_law_within" (.cons (.var 0) (.cons (.var 4) .nil)))) .nil) .nil) (.cons (.ret (.call "_law_wider" (.cons (.var 0) (.cons (.var 4) .nil)))) .nil)))))))
def b_law_deeds_of:Sxs:=(.cons (.asg (.nm 2) (.lst true (.cons (.cst (.str [97])) (.cons (.cst (.str [103,111])) (.cons (.cst (.str [115,116,97,121])) (.cons (.cst (.str [97,98,99,100,101,102,103,104])) (.cons (.cst (.str [110,111,110,101])) (.cons (.cst (.str [121,101,115])) (.cons (.cst (.str [105,110])) (.cons (.cst (.str [111,117,116])) (.cons (.cst (.str [107,101,101,112])) (.cons (.cst (.str [119,111,114,100])) (.cons (.cst (.str [122,122])) .nil))))))))))))) (.cons (.asg (.nm 3) (.call "_law_take" (.cons (.var 0) (.cons (.cst (.int 11)) .nil)))) (.cons (.asg (.nm 4) (.comp true (.idx (.var 1) (.bin .Mod true (.bin .Add true (.var 2) (.bin .Mult true (.cst (.int 3)) (.var 0))) (.cst (.int 11)))) (.nm 0) (.rng (.bin .Add true (.cst (.int 1)) (.call "_law_take" (.cons (.var 0) (.cons (.var 1) .nil))))) .yes ["k","some","turn"] [none,some 2,some 3])) (.cons (.ite (.val (.cmp .Eq (.call "_law_take" (.cons (.var 0) (.cons (.cst (.int 3)) .nil))) (.cst (.int 0)))) (.cons (.asg (.nm 5) (.cst (.str [97,98,99,100,101,102,103,104,105,106,107,108,109,110,111,112,113,114,115,116,117,118,119,120,121,122]))) (.cons (.asg (.nm 4) (.comp true (.call "_law_signs" (.cons (.var 1) (.cons (.bin .Add true (.cst (.int 1)) (.call "_law_take" (.cons (.var 1) (.cons (.cst (.int 8)) .nil)))) (.cons (.var 2) .nil)))) (.nm 0) (.seq (.var 4)) .yes ["one","pen","letters"] [none,some 0,some 5])) .nil)) .nil) (.cons (.ret (.var 4)) .nil)))))
def b_law_book:Sxs:=(.cons (.asg (.nm 3) (.bin .Add true (.cst (.int 1)) (.call "_law_take" (.cons (.var 0) (.cons (.var 1) .nil))))) (.cons (.asg (.nm 4) (.call "_law_deeds_of" (.cons (.var 0) (.cons (.cst (.int 3)) .nil)))) (.cons (.asg (.nm 5) (.lst false .nil)) (.cons (.asg (.nm 6) (.lst false .nil)) (.cons (.for_ (.nm 7) (.rng (.call "_law_take" (.cons (.var 0) (.cons (.bin .Add true (.var 2) (.cst (.int 1))) .nil)))) (.cons (.exp (.mth .append (.var 5) (.cons (.call "_law_form_like" (.cons (.var 0) (.cons (.var 3) (.cons (.var 5) .nil)))) .nil))) (.cons (.exp (.mth .append (.var 6) (.cons (.tup (.cons (.idx (.var 5) (.neg (.cst (.int 1)))) (.cons (.idx (.var 4) (.call "_law_take" (.cons (.var 0) (.cons (.bcl .len (.cons (.var 4) .nil)) .nil)))) .nil))) .nil))) .nil))) (.cons (.ret (.tup (.cons (.var 3) (.cons (.bcl .tuple (.cons (.var 6) .nil)) .nil)))) .nil))))))
def b_law_words:Sxs:=(.cons (.asg (.nm 1) (.lst true (.cons (.cst (.str [])) .nil))) (.cons (.for_ (.nm 2) (.seq (.var 0)) (.cons (.asg (.nm 3) (.lst false .nil)) (.cons (.for_ (.nm 4) (.seq (.var 1)) (.cons (.exp (.mth .extend (.var 3) (.cons (.comp true (.bin .Add true (.var 1) (.var 0)) (.nm 0) (.seq (.idx (.lst true (.cons (.cst (.str [48,49])) (.cons (.var 2) .nil))) (.bcl .int (.cons (.cmp .NotEq (.var 2) (.cst (.str [42]))) .nil)))) .yes ["one","text"] [none,some 4]) .nil))) .nil)) (.cons (.asg (.nm 1) (.frz (.var 3))) .nil)))) (.cons (.ret (.var 1)) .nil)))
def b_law_meet:Sxs:=(.cons (.ret (.cmp .Eq (.comp true (.cst (.int 1)) (.tp (.cons (.nm 0) (.cons (.nm 1) .nil))) (.zip (.var 0) (.var 1)) (.val (.cmp .In (.bin .Add true (.var 0) (.var 1)) (.tup (.cons (.cst (.str [48,49])) (.cons (.cst (.str [49,48])) .nil))))) ["one","two"] [none,none]) (.lst true .nil))) .nil)
def b_law_one_turning:Sxs:=(.cons (.asg (.nm 2) (.call "_law_take" (.cons (.var 0) (.cons (.bcl .len (.cons (.var 1) .nil)) .nil)))) (.cons (.asg (.tp (.cons (.nm 3) (.cons (.nm 4) .nil))) (.idx (.var 1) (.var 2))) (.cons (.asg (.nm 5) (.comp true (.var 0) (.nm 0) (.rng (.bcl .len (.cons (.var 3) .nil))) (.val (.cmp .Eq (.idx (.var 1) (.var 0)) (.cst (.str [42])))) ["place","form"] [none,some 3])) (.cons (.asg (.nm 6) (.call "_law_take" (.cons (.var 0) (.cons (.cst (.int 5)) .nil)))) (.cons (.ite (.boo true (.val (.cmp .Eq (.var 6) (.cst (.int 0)))) (.cons (.val (.cmp .NotEq (.var 5) (.lst true .nil))) .nil)) (.cons (.asg (.nm 7) (.idx (.var 5) (.call "_law_take" (.cons (.var 0) (.cons (.bcl .len (.cons (.var 5) .nil)) .nil))))) (.cons (.asg (.nm 8) (.comp true (.tup (.cons (.bin .Add true (.bin .Add true (.slc true (.var 2) .no (.ob (.var 3))) (.var 0)) (.slc true (.var 2) (.ob (.bin .Add true (.var 3) (.cst (.int 1)))) .no)) (.cons (.var 1) .nil))) (.nm 0) (.seq (.idx (.lst true (.cons (.cst (.str [48,49])) (.cons (.cst (.str [49,48])) .nil))) (.call "_law_take" (.cons (.var 0) (.cons (.cst (.int 2)) .nil))))) .yes ["sign","one","form","place"] [none,some 4,some 3,some 7])) (.cons (.ret (.bin .Add true (.bin .Add true (.slc true (.var 1) .no (.ob (.var 2))) (.var 8)) (.slc true (.var 1) (.ob (.bin .Add true (.var 2) (.cst (.int 1)))) .no))) .nil))) .nil) (.cons (.ite (.val (.cmp .Eq (.var 6) (.cst (.int 1)))) (.cons (.asg (.nm 7) (.bin .Add true (.bin .Add true (.var 2) (.cst (.int 1))) (.call "_law_take" (.cons (.var 0) (.cons (.bin .Sub true (.bcl .len (.cons (.var 1) .nil)) (.var 2)) .nil))))) (.cons (.ret (.bin .Add true (.bin .Add true (.slc true (.var 1) .no (.ob (.var 7))) (.lst true (.cons (.tup (.cons (.call "_law_within" (.cons (.var 0) (.cons (.var 3) .nil))) (.cons (.idx (.idx (.var 1) (.call "_law_take" (.cons (.var 0) (.cons (.bcl .len (.cons (.var 1) .nil)) .nil)))) (.cst (.int 1))) .nil))) .nil))) (.slc true (.var 1) (.ob (.var 7)) .no))) .nil)) .nil) (.cons (.ite (.val (.cmp .Eq (.var 6) (.cst (.int 2)))) (.cons (.ret (.bin .Add true (.bin .Add true (.slc true (.var 1) .no (.ob (.var 2))) (.lst true (.cons (.tup (.cons (.call "_law_within" (.cons (.var 0) (.cons (.var 3) .nil))) (.cons (.var 4) .nil))) .nil))) (.slc true (.var 1) (.ob (.var 2)) .no))) .nil) .nil) (.cons (.ite (.boo true (.val (.cmp .Lt (.bin .Add true (.var 2) (.cst (.int 1))) (.bcl .len (.cons (.var 1) .nil)))) (.cons (.boo false (.val (.cmp .Eq (.idx (.idx (.var 1) (.bin .Add true (.var 2) (.cst (.int 1)))) (.cst (.int 1))) (.var 4))) (.cons (.not (.val (.call "_law_meet" (.cons (.var 3) (.cons (.idx (.idx (.var 1) (.bin .Add true (.var 2) (.cst (.int 1)))) (.cst (.int 0))) .nil))))) .nil)) .nil)) (.cons (.ret (.bin .Add true (.bin .Add true (.slc true (.var 1) .no (.ob (.var 2))) (.lst true (.cons (.idx (.var 1) (.bin .Add true (.var 2) (.cst (.int 1)))) (.cons (.idx (.var 1) (.var 2)) .nil)))) (.slc true (.var 1) (.ob (.bin .Add true (.var 2) (.cst (.int 2)))) .no))) .nil) .nil) (.cons (.ret (.var 1)) .nil)))))))))
def b_law_turned_alike:Sxs:=(.cons (.asg (.nm 3) (.lcl true .list (.cons (.idx (.var 1) (.cst (.int 1))) .nil))) (.cons (.for_ (.nm 4) (.rng (.bin .Mult true (.var 2) (.bcl .int (.cons (.cmp .NotEq (.var 3) (.lst true .nil)) .nil)))) (.cons (.ite (.val (.cmp .Lt (.bcl .len (.cons (.var 3) .nil)) (.cst (.int 12)))) (.cons (.asg (.nm 3) (.call "_law_one_turning" (.cons (.var 0) (.cons (.var 3) .nil)))) .nil) .nil) .nil)) (.cons (.ret (.tup (.cons (.idx (.var 1) (.cst (.int 0))) (.cons (.bcl .tuple (.cons (.var 3) .nil)) .nil)))) .nil)))
def b_law_bent_book:Sxs:=(.cons (.asg (.tp (.cons (.nm 2) (.cons (.nm 3) .nil))) (.var 1)) (.cons (.asg (.nm 3) (.lcl true .list (.cons (.var 3) .nil))) (.cons (.asg (.nm 4) (.comp true (.idx (.var 0) (.cst (.int 0))) (.nm 0) (.seq (.var 3)) .yes ["row"] [none])) (.cons (.asg (.nm 5) (.tup (.cons (.call "_law_form_like" (.cons (.var 0) (.cons (.var 2) (.cons (.var 4) .nil)))) (.cons (.idx (.call "_law_deeds_of" (.cons (.var 0) (.cons (.cst (.int 1)) .nil))) (.cst (.int 0))) .nil)))) (.cons (.asg (.nm 6) (.call "_law_take" (.cons (.var 0) (.cons (.cst (.int 6)) .nil)))) (.cons (.ite (.boo false (.val (.cmp .Eq (.var 3) (.lst true .nil))) (.cons (.boo true (.val (.cmp .Eq (.var 6) (.cst (.int 0)))) (.cons (.val (.cmp .Lt (.bcl .len (.cons (.var 3) .nil)) (.cst (.int 12)))) .nil)) .nil)) (.cons (.asg (.nm 7) (.call "_law_take" (.cons (.var 0) (.cons (.bin .Add true (.bcl .len (.cons (.var 3) .nil)) (.cst (.int 1))) .nil)))) (.cons (.ret (.tup (.cons (.var 2) (.cons (.bcl .tuple (.cons (.bin .Add true (.bin .Add true (.slc true (.var 3) .no (.ob (.var 7))) (.lst true (.cons (.var 5) .nil))) (.slc true (.var 3) (.ob (.var 7)) .no)) .nil)) .nil)))) .nil)) .nil) (.cons (.asg (.nm 7) (.call "_law_take" (.cons (.var 0) (.cons (.bcl .len (.cons (.var 3) .nil)) .nil)))) (.cons (.ite (.val (.cmp .Eq (.var 6) (.cst (.int 1)))) (.cons (.ret (.tup (.cons (.var 2) (.cons (.bcl .tuple (.cons (.bin .Add true (.slc true (.var 3) .no (.ob (.var 7))) (.slc true (.var 3) (.ob (.bin .Add true (.var 7) (.cst (.int 1)))) .no)) .nil)) .nil)))) .nil) .nil) (.cons (.ite (.val (.cmp .Eq (.var 6) (.cst (.int 2)))) (.cons (.ret (.tup (.cons (.var 2) (.cons (.bcl .tuple (.cons (.bin .Add true (.bin .Add true (.slc true (.var 3) .no (.ob (.var 7))) (.rvs true (.slc true (.var 3) (.ob (.var 7)) (.ob (.bin .Add true (.var 7) (.cst (.int 2))))) (.neg (.cst (.int 1))))) (.slc true (.var 3) (.ob (.bin .Add true (.var 7) (.cst (.int 2)))) .no)) .nil)) .nil)))) .nil) .nil) (.cons (.ite (.val (.cmp .Eq (.var 6) (.cst (.int 3)))) (.cons (.asg (.nm 5) (.tup (.cons (.idx (.idx (.var 3) (.var 7)) (.cst (.int 0))) (.cons (.idx (.idx (.var 3) (.call "_law_take" (.cons (.var 0) (.cons (.bcl .len (.cons (.var 3) .nil)) .nil)))) (.cst (.int 1))) .nil)))) .nil) .nil) (.cons (.ite (.val (.cmp .Eq (.var 6) (.cst (.int 4)))) (.cons (.asg (.nm 5) (.tup (.cons (.call "_law_form_like" (.cons (.var 0) (.cons (.var 2) (.cons (.lst true (.cons (.idx (.idx (.var 3) (.var 7)) (.cst (.int 0))) .nil)) .nil)))) (.cons (.idx (.idx (.var 3) (.var 7)) (.cst (.int 1))) .nil)))) .nil) .nil) (.cons (.ret (.tup (.cons (.var 2) (.cons (.bcl .tuple (.cons (.bin .Add true (.bin .Add true (.slc true (.var 3) .no (.ob (.var 7))) (.lst true (.cons (.var 5) .nil))) (.slc true (.var 3) (.ob (.bin .Add true (.var 7) (.cst (.int 1)))) .no)) .nil)) .nil)))) .nil))))))))))))
def b_law_fits:Sxs:=(.cons (.for_ (.tp (.cons (.nm 2) (.cons (.nm 3) .nil))) (.zip (.var 0) (.var 1)) (.cons (.ite (.boo true (.val (.cmp .NotEq (.var 2) (.cst (.str [42])))) (.cons (.val (.cmp .NotEq (.var 2) (.var 3))) .nil)) (.cons (.ret (.cst (.bl false))) .nil) .nil) .nil)) (.cons (.ret (.cst (.bl true))) .nil))
def b_law_met:Sxs:=(.cons (.for_ (.tp (.cons (.nm 2) (.cons (.nm 3) .nil))) (.enm (.idx (.var 0) (.cst (.int 1)))) (.cons (.ite (.val (.call "_law_fits" (.cons (.idx (.var 3) (.cst (.int 0))) (.cons (.var 1) .nil)))) (.cons (.ret (.var 2)) .nil) .nil) .nil)) (.cons (.ret (.cst .non)) .nil))
def b_law_boxes:Sxs:=(.cons (.ite (.val (.cmp .NotEq (.idx (.var 1) (.cst (.int 0))) (.cst (.str [115,112,108,105,116])))) (.cons (.ret (.lst true (.cons (.tup (.cons (.var 0) (.cons (.var 1) .nil))) .nil))) .nil) .nil) (.cons (.asg (.nm 2) (.idx (.var 1) (.cst (.int 1)))) (.cons (.ite (.boo false (.val (.cmp .Lt (.var 2) (.cst (.int 0)))) (.cons (.val (.cmp .GtE (.var 2) (.bcl .len (.cons (.var 0) .nil)))) (.cons (.val (.cmp .NotEq (.idx (.var 0) (.var 2)) (.cst (.str [42])))) .nil))) (.cons (.ret (.lst true (.cons (.cst .non) .nil))) .nil) .nil) (.cons (.asg (.nm 3) (.call "_law_boxes" (.cons (.bin .Add true (.bin .Add true (.slc true (.var 0) .no (.ob (.var 2))) (.cst (.str [48]))) (.slc true (.var 0) (.ob (.bin .Add true (.var 2) (.cst (.int 1)))) .no)) (.cons (.idx (.var 1) (.cst (.int 2))) .nil)))) (.cons (.ret (.bin .Add true (.var 3) (.call "_law_boxes" (.cons (.bin .Add true (.bin .Add true (.slc true (.var 0) .no (.ob (.var 2))) (.cst (.str [49]))) (.slc true (.var 0) (.ob (.bin .Add true (.var 2) (.cst (.int 1)))) .no)) (.cons (.idx (.var 1) (.cst (.int 3))) .nil))))) .nil)))))
def b_law_paths:Sxs:=(.cons (.asg (.nm 1) (.lst false (.cons (.tup .nil) .nil))) (.cons (.ite (.val (.cmp .Eq (.idx (.var 0) (.cst (.int 0))) (.cst (.str [115,112,108,105,116])))) (.cons (.for_ (.nm 2) (.seq (.lst true (.cons (.cst (.int 2)) (.cons (.cst (.int 3)) .nil)))) (.cons (.exp (.mth .extend (.var 1) (.cons (.comp true (.bin .Add true (.tup (.cons (.var 1) .nil)) (.var 0)) (.nm 0) (.seq (.call "_law_paths" (.cons (.idx (.var 0) (.var 2)) .nil))) .yes ["path","side"] [none,some 2]) .nil))) .nil)) .nil) .nil) (.cons (.ret (.frz (.var 1))) .nil)))
def b_law_part:Sxs:=(.cons (.for_ (.nm 2) (.seq (.var 1)) (.cons (.asg (.nm 0) (.idx (.var 0) (.var 2))) .nil)) (.cons (.ret (.var 0)) .nil))
def b_law_put_part:Sxs:=(.cons (.ite (.val (.cmp .Eq (.var 1) (.tup .nil))) (.cons (.ret (.var 2)) .nil) .nil) (.cons (.asg (.nm 3) (.idx (.var 1) (.cst (.int 0)))) (.cons (.ret (.bin .Add true (.bin .Add true (.slc true (.var 0) .no (.ob (.var 3))) (.tup (.cons (.call "_law_put_part" (.cons (.idx (.var 0) (.var 3)) (.cons (.slc true (.var 1) (.ob (.cst (.int 1))) .no) (.cons (.var 2) .nil)))) .nil))) (.slc true (.var 0) (.ob (.bin .Add true (.var 3) (.cst (.int 1)))) .no))) .nil)))
def b_law_is_whole:Sxs:=(.cons (.ret (.boo true (.isi (.var 0) "int") (.cons (.not (.isi (.var 0) "bool")) .nil))) .nil)
def b_law_is_tree:Sxs:=(.cons (.ite (.boo false (.not (.val (.isi (.var 0) "tuple"))) (.cons (.val (.cmp .Eq (.bcl .len (.cons (.var 0) .nil)) (.cst (.int 0)))) (.cons (.not (.val (.isi (.idx (.var 0) (.cst (.int 0))) "str"))) .nil))) (.cons (.ret (.cst (.bl false))) .nil) .nil) (.cons (.ite (.val (.cmp .Eq (.idx (.var 0) (.cst (.int 0))) (.cst (.str [115,112,108,105,116])))) (.cons (.ite (.boo false (.val (.cmp .NotEq (.bcl .len (.cons (.var 0) .nil)) (.cst (.int 4)))) (.cons (.not (.val (.call "_law_is_whole" (.cons (.idx (.var 0) (.cst (.int 1))) .nil)))) .nil)) (.cons (.ret (.cst (.bl false))) .nil) .nil) (.cons (.ret (.boo true (.call "_law_is_tree" (.cons (.idx (.var 0) (.cst (.int 2))) (.cons (.var 1) .nil))) (.cons (.call "_law_is_tree" (.cons (.idx (.var 0) (.cst (.int 3))) (.cons (.var 1) .nil))) .nil))) .nil)) .nil) (.cons (.ite (.boo false (.val (.cmp .NotEq (.idx (.var 0) (.cst (.int 0))) (.idx (.var 1) (.cst (.int 0))))) (.cons (.val (.cmp .NotEq (.bcl .len (.cons (.var 0) .nil)) (.bin .Add true (.idx (.var 1) (.cst (.int 1))) (.cst (.int 1))))) .nil)) (.cons (.ret (.cst (.bl false))) .nil) .nil) (.cons (.ret (.cmp .NotIn (.cst (.bl false)) (.comp true (.boo false (.cmp .Is (.var 0) (.cst .non)) (.cons (.call "_law_is_whole" (.cons (.var 0) .nil)) .nil)) (.nm 0) (.seq (.slc true (.var 0) (.ob (.cst (.int 1))) .no)) .yes ["part"] [none]))) .nil))))
def b_law_all_meet:Sxs:=(.cons (.for_ (.nm 3) (.seq (.call "_law_words" (.cons (.var 1) .nil))) (.cons (.ite (.val (.cmp .NotEq (.call "_law_met" (.cons (.var 0) (.cons (.var 3) .nil))) (.var 2))) (.cons (.ret (.cst (.bl false))) .nil) .nil) .nil)) (.cons (.ret (.cst (.bl true))) .nil))
def b_law_deed_at:Sxs:=(.cons (.ite (.boo false (.val (.cmp .Is (.var 1) (.cst .non))) (.cons (.val (.cmp .Lt (.var 1) (.cst (.int 0)))) (.cons (.val (.cmp .GtE (.var 1) (.bcl .len (.cons (.idx (.var 0) (.cst (.int 1))) .nil)))) .nil))) (.cons (.ret (.cst .non)) .nil) .nil) (.cons (.ret (.idx (.idx (.idx (.var 0) (.cst (.int 1))) (.var 1)) (.cst (.int 1)))) .nil))
def b_law_alike_right:Sxs:=(.cons (.ite (.not (.val (.call "_law_is_tree" (.cons (.var 2) (.cons (.tup (.cons (.cst (.str [115,97,109,101])) (.cons (.cst (.int 2)) .nil))) .nil))))) (.cons (.ret (.cst (.bl false))) .nil) .nil) (.cons (.for_ (.nm 3) (.seq (.call "_law_boxes" (.cons (.bin .Mult true (.cst (.str [42])) (.idx (.var 0) (.cst (.int 0)))) (.cons (.var 2) .nil)))) (.cons (.ite (.val (.cmp .Is (.var 3) (.cst .non))) (.cons (.ret (.cst (.bl false))) .nil) .nil) (.cons (.asg (.tp (.cons (.nm 4) (.cons (.tp (.cons (.nm 5) (.cons (.nm 6) (.cons (.nm 7) .nil)))) .nil))) (.var 3)) (.cons (.ite (.boo false (.not (.val (.call "_law_all_meet" (.cons (.var 0) (.cons (.var 4) (.cons (.var 6) .nil)))))) (.cons (.not (.val (.call "_law_all_meet" (.cons (.var 1) (.cons (.var 4) (.cons (.var 7) .nil)))))) .nil)) (.cons (.ret (.cst (.bl false))) .nil) .nil) (.cons (.ite (.val (.cmp .NotEq (.call "_law_deed_at" (.cons (.var 0) (.cons (.var 6) .nil))) (.call "_law_deed_at" (.cons (.var 1) (.cons (.var 7) .nil))))) (.cons (.ret (.cst (.bl false))) .nil) .nil) .nil))))) (.cons (.ret (.cst (.bl true))) .nil)))
def b_law_cut:Sxs:=(.cons (.ret (.comp true (.bin .Add true (.bin .Add true (.slc true (.var 1) .no (.ob (.var 2))) (.var 0)) (.slc true (.var 1) (.ob (.bin .Add true (.var 2) (.cst (.int 1)))) .no)) (.nm 0) (.seq (.cst (.str [48,49]))) .yes ["sign","box","at"] [none,some 0,some 1])) .nil)
def b_law_tree_of:Sxs:=(.cons (.asg (.nm 3) (.comp true (.call "_law_met" (.cons (.var 0) (.cons (.idx (.call "_law_words" (.cons (.var 1) .nil)) (.cst (.int 0))) .nil))) (.nm 0) (.seq (.var 1)) .yes ["book","box"] [none,some 2])) (.cons (.asg (.nm 4) (.comp true (.var 0) (.nm 0) (.rng (.bcl .len (.cons (.var 2) .nil))) (.val (.cmp .Eq (.idx (.var 1) (.var 0)) (.cst (.str [42])))) ["at","box"] [none,some 2])) (.cons (.asg (.nm 5) (.bcl .all (.cons (.comp true (.call "_law_all_meet" (.cons (.var 0) (.cons (.var 2) (.cons (.var 1) .nil)))) (.tp (.cons (.nm 0) (.cons (.nm 1) .nil))) (.zip (.var 1) (.var 3)) .yes ["book","number","box"] [none,none,some 2]) .nil))) (.cons (.ite (.boo false (.val (.cmp .Eq (.var 4) (.lst true .nil))) (.cons (.boo true (.val (.var 5)) (.cons (.val (.cmp .Gt (.call "_law_take" (.cons (.var 0) (.cons (.cst (.int 5)) .nil))) (.cst (.int 0)))) .nil)) .nil)) (.cons (.ret (.bin .Add true (.tup (.cons (.idx (.lst true (.cons (.cst (.str [109,101,116])) (.cons (.cst (.str [115,97,109,101])) .nil))) (.bin .Sub true (.bcl .len (.cons (.var 1) .nil)) (.cst (.int 1)))) .nil)) (.bcl .tuple (.cons (.var 3) .nil)))) .nil) .nil) (.cons (.asg (.nm 6) (.idx (.var 4) (.call "_law_take" (.cons (.var 0) (.cons (.bcl .len (.cons (.var 4) .nil)) .nil))))) (.cons (.asg (.tp (.cons (.nm 7) (.cons (.nm 8) .nil))) (.call "_law_cut" (.cons (.var 2) (.cons (.var 6) .nil)))) (.cons (.ret (.tup (.cons (.cst (.str [115,112,108,105,116])) (.cons (.var 6) (.cons (.call "_law_tree_of" (.cons (.var 0) (.cons (.var 1) (.cons (.var 7) .nil)))) (.cons (.call "_law_tree_of" (.cons (.var 0) (.cons (.var 1) (.cons (.var 8) .nil)))) .nil)))))) .nil)))))))
def b_law_bent_tree:Sxs:=(.cons (.asg (.nm 3) (.call "_law_paths" (.cons (.var 1) .nil))) (.cons (.asg (.nm 4) (.idx (.var 3) (.call "_law_take" (.cons (.var 0) (.cons (.bcl .len (.cons (.var 3) .nil)) .nil))))) (.cons (.asg (.nm 5) (.call "_law_part" (.cons (.var 1) (.cons (.var 4) .nil)))) (.cons (.asg (.nm 6) (.lst true (.cons (.cst .non) (.cons (.cst (.int 0)) (.cons (.cst (.int 1)) (.cons (.bin .Sub true (.var 2) (.cst (.int 1))) (.cons (.var 2) (.cons (.neg (.cst (.int 1))) (.cons (.bin .Pow true (.cst (.int 10)) (.cst (.int 20))) (.cons (.call "_law_take" (.cons (.var 0) (.cons (.bin .Add true (.var 2) (.cst (.int 1))) .nil))) .nil)))))))))) (.cons (.asg (.nm 7) (.idx (.var 6) (.call "_law_take" (.cons (.var 0) (.cons (.cst (.int 8)) .nil))))) (.cons (.asg (.nm 8) (.call "_law_take" (.cons (.var 0) (.cons (.cst (.int 6)) .nil)))) (.cons (.ite (.val (.cmp .Eq (.idx (.var 5) (.cst (.int 0))) (.cst (.str [115,112,108,105,116])))) (.cons (.ite (.val (.cmp .Eq (.var 8) (.cst (.int 0)))) (.cons (.ret (.call "_law_put_part" (.cons (.var 1) (.cons (.var 4) (.cons (.tup (.cons (.cst (.str [115,112,108,105,116])) (.cons (.idx (.var 5) (.cst (.int 1))) (.cons (.idx (.var 5) (.cst (.int 3))) (.cons (.idx (.var 5) (.cst (.int 2))) .nil))))) .nil))))) .nil) .nil) (.cons (.ite (.val (.cmp .Eq (.var 8) (.cst (.int 1)))) (.cons (.ret (.call "_law_put_part" (.cons (.var 1) (.cons (.var 4) (.cons (.idx (.var 5) (.cst (.int 2))) .nil))))) .nil) .nil) (.cons (.ite (.val (.cmp .Eq (.var 8) (.cst (.int 2)))) (.cons (.ret (.call "_law_put_part" (.cons (.var 1) (.cons (.var 4) (.cons (.tup (.cons (.cst (.str [115,112,108,105,116])) (.cons (.idx (.var 5) (.cst (.int 1))) (.cons (.var 5) (.cons (.idx (.var 5) (.cst (.int 3))) .nil))))) .nil))))) .nil) .nil) (.cons (.ite (.boo true (.val (.cmp .Eq (.var 8) (.cst (.int 3)))) (.cons (.val (.cmp .IsNot (.var 7) (.cst .non))) .nil)) (.cons (.ret (.call "_law_put_part" (.cons (.var 1) (.cons (.var 4) (.cons (.tup (.cons (.cst (.str [115,112,108,105,116])) (.cons (.var 7) (.cons (.idx (.var 5) (.cst (.int 2))) (.cons (.idx (.var 5) (.cst (.int 3))) .nil))))) .nil))))) .nil) .nil) (.cons (.ret (.var 1)) .nil))))) .nil) (.cons (.ite (.val (.cmp .Eq (.var 8) (.cst (.int 0)))) (.cons (.ret (.call "_law_put_part" (.cons (.var 1) (.cons (.var 4) (.cons (.tup (.cons (.cst (.str [115,112,108,105,116])) (.cons (.idx (.lst true (.cons (.cst (.int 0)) (.cons (.neg (.cst (.int 1))) (.cons (.cst (.int 12)) (.cons (.bin .Pow true (.cst (.int 10)) (.cst (.int 20))) .nil))))) (.call "_law_take" (.cons (.var 0) (.cons (.cst (.int 4)) .nil)))) (.cons (.var 5) (.cons (.var 5) .nil))))) .nil))))) .nil) .nil) (.cons (.asg (.nm 9) (.bin .Add true (.cst (.int 1)) (.call "_law_take" (.cons (.var 0) (.cons (.bin .Sub true (.bcl .len (.cons (.var 5) .nil)) (.cst (.int 1))) .nil))))) (.cons (.ret (.call "_law_put_part" (.cons (.var 1) (.cons (.var 4) (.cons (.bin .Add true (.bin .Add true (.slc true (.var 5) .no (.ob (.var 9))) (.tup (.cons (.var 7) .nil))) (.slc true (.var 5) (.ob (.bin .Add true (.var 9) (.cst (.int 1)))) .no)) .nil))))) .nil))))))))))
def b_law_two_books:Sxs:=(.cons (.asg (.nm 3) (.call "_law_book" (.cons (.call "_law_anew" (.cons (.var 0) .nil)) (.cons (.var 1) (.cons (.var 2) .nil))))) (.cons (.asg (.nm 4) (.call "_law_take" (.cons (.var 0) (.cons (.cst (.int 5)) .nil)))) (.cons (.ite (.val (.cmp .Lt (.var 4) (.cst (.int 2)))) (.cons (.asg (.nm 5) (.call "_law_turned_alike" (.cons (.var 0) (.cons (.var 3) (.cons (.bin .Add true (.cst (.int 1)) (.call "_law_take" (.cons (.var 0) (.cons (.cst (.int 3)) .nil)))) .nil))))) .nil) (.cons (.ite (.val (.cmp .Lt (.var 4) (.cst (.int 4)))) (.cons (.asg (.nm 5) (.call "_law_bent_book" (.cons (.var 0) (.cons (.call "_law_turned_alike" (.cons (.var 0) (.cons (.var 3) (.cons (.call "_law_take" (.cons (.var 0) (.cons (.cst (.int 3)) .nil))) .nil)))) .nil)))) .nil) (.cons (.asg (.nm 6) (.idx (.call "_law_book" (.cons (.var 0) (.cons (.var 1) (.cons (.var 2) .nil)))) (.cst (.int 1)))) (.cons (.asg (.nm 5) (.tup (.cons (.idx (.var 3) (.cst (.int 0))) (.cons (.bcl .tuple (.cons (.comp true (.tup (.cons (.slc true (.bin .Mult true (.idx (.var 0) (.cst (.int 0))) (.cst (.int 6))) .no (.ob (.idx (.var 1) (.cst (.int 0))))) (.cons (.idx (.var 0) (.cst (.int 1))) .nil))) (.nm 0) (.seq (.var 6)) .yes ["row","book"] [none,some 3]) .nil)) .nil)))) .nil))) .nil)) (.cons (.ret (.idx (.lst true (.cons (.tup (.cons (.var 3) (.cons (.var 5) .nil))) (.cons (.tup (.cons (.var 5) (.cons (.var 3) .nil))) .nil))) (.call "_law_take" (.cons (.var 0) (.cons (.cst (.int 2)) .nil))))) .nil))))
def b_k26_law:Sxs:=(.cons (.asg (.nm 1) (.call "_law_open" (.cons (.var 0) .nil))) (.cons (.for_ (.nm 2) (.rng (.cst (.int 3))) (.cons (.asg (.tp (.cons (.nm 3) (.cons (.nm 4) .nil))) (.call "_law_two_books" (.cons (.var 1) (.cons (.idx (.lst true (.cons (.cst (.int 5)) (.cons (.cst (.int 6)) (.cons (.cst (.int 3)) .nil)))) (.var 2)) (.cons (.idx (.lst true (.cons (.cst (.int 7)) (.cons (.cst (.int 12)) (.cons (.cst (.int 5)) .nil)))) (.var 2)) .nil))))) (.cons (.asg (.nm 5) (.call "_law_tree_of" (.cons (.var 1) (.cons (.lst true (.cons (.var 3) (.cons (.var 4) .nil))) (.cons (.bin .Mult true (.cst (.str [42])) (.idx (.var 3) (.cst (.int 0)))) .nil))))) (.cons (.asg (.nm 6) (.lst false (.cons (.var 5) (.cons (.tup (.cons (.cst (.str [115,97,109,101])) (.cons (.cst .non) (.cons (.cst .non) .nil)))) (.cons (.tup (.cons (.cst (.str [115,97,109,101])) (.cons (.cst (.int 0)) (.cons (.cst (.int 0)) .nil)))) .nil))))) (.cons (.asg (.nm 7) (.bcl .max (.cons (.bcl .len (.cons (.idx (.var 3) (.cst (.int 1))) .nil)) (.cons (.bcl .len (.cons (.idx (.var 4) (.cst (.int 1))) .nil)) .nil)))) (.cons (.for_ (.nm 8) (.rng (.cst (.int 5))) (.cons (.exp (.mth .append (.var 6) (.cons (.call "_law_bent_tree" (.cons (.var 1) (.cons (.var 5) (.cons (.var 7) .nil)))) .nil))) .nil)) (.cons (.exp (.mth .append (.var 6) (.cons (.call "_law_bent_tree" (.cons (.var 1) (.cons (.idx (.var 6) (.neg (.cst (.int 1)))) (.cons (.var 7) .nil)))) .nil))) (.cons (.for_ (.nm 9) (.seq (.var 6)) (.cons (.asg (.nm 10) (.call "is_alike" (.cons (.var 3) (.cons (.var 4) (.cons (.var 9) .nil))))) (.cons (.ite (.boo false (.not (.val (.isi (.var 10) "bool"))) (.cons (.val (.cmp .NotEq (.var 10) (.call "_law_alike_right" (.cons (.var 3) (.cons (.var 4) (.cons (.var 9) .nil)))))) .nil)) (.cons (.ret (.cst (.bl false))) .nil) .nil) .nil))) .nil)))))))) (.cons (.ret (.cmp .Is (.call "is_alike" (.cons (.tup (.cons (.cst (.int 1)) (.cons (.tup .nil) .nil))) (.cons (.tup (.cons (.cst (.int 1)) (.cons (.tup .nil) .nil))) (.cons (.tup (.cons (.cst (.str [115,97,109,101])) (.cons (.cst .non) (.cons (.cst .non) .nil)))) .nil)))) (.cst (.bl true)))) .nil)))
end RF
local macro_rules | `(tactic| simp_arith [$l,*] $[$c:location]?) => `(tactic| simp -implicitDefEqProofs only [↓RF.wpSq, ↓RF.wpre, RF.wpst, RF.env0, RF.ends, String.reduceBEq, $l,*] $[$c:location]?)
local macro_rules | `(tactic| simp_arith! [$l,*] $[$c:location]?) => `(tactic| simp -implicitDefEqProofs only [↓RF.wpre, RF.wpst, RF.env0, RF.ends, String.reduceBEq, $l,*] $[$c:location]?)
local macro_rules | `(tactic| simp_all_arith [$l,*]) => `(tactic| simp -implicitDefEqProofs only [RF.env0, RF.ends, List.map_cons, List.map_nil, List.cons_append, List.nil_append, List.replicate_succ, List.replicate_zero, $l,*])
namespace RF
open PySem L2
theorem cmulR {i j:Int} (h:-(2 ^ 64) < j∧j < 2 ^ 64):CMul i j:=.inr h
theorem cmulL {i j:Int} (h:-(2 ^ 64) < i∧i < 2 ^ 64):CMul i j:=.inl h
theorem cpow10 {j:Int} (h:0≤j∧j≤1000):CPow 10 j:=⟨h.1,by omega,by decide⟩
def sSpread:RF.Spec:=relS (fun ds _=>∃ c k:Int,ds=[.int c,.int k]∧0≤k) (fun _ G d G'=>G'=G∧∃ r:Int,d=.int r∧0≤r)
theorem w_spread (Φ:Funs) (ds:List D) (G:DH) (h:∃ c k:Int,ds=[.int c,.int k]∧0≤k):wpSs Φ b_law_spread noE (env0 ds 3) G (ends fun d G'=>G'=G∧∃ r:Int,d=.int r∧0≤r):=by
 obtain ⟨c,k,rfl,hk⟩:=h
 simp_arith [b_law_spread]
 refine ⟨cpow10 (by decide),?_⟩
 cases hc:decide (10 ^ Int.toNat 18≤c) with
 | true=>
  refine ⟨c,rfl,?_⟩
  have:=of_decide_eq_true hc
  have h2:(0:Int)≤(10:Int) ^ (18:Int).toNat:=by decide
  exact Int.le_trans h2 this
 | false=>
  generalize hone:(c % 1000000007 * 69069 + k * 40503 + 977) % 2147483629=one
  have o1:0≤one:=by rw [← hone]; exact Int.emod_nonneg _ (by decide)
  have o2:one < 2147483629:=by rw [← hone]; exact Int.emod_lt_of_pos _ (by decide)
  generalize htwo:(one * one + k * 7919 + c % 65537) % 2147483587=two
  have t1:0≤two:=by rw [← htwo]; exact Int.emod_nonneg _ (by decide)
  have t2:two < 2147483587:=by rw [← htwo]; exact Int.emod_lt_of_pos _ (by decide)
  generalize hthree:(two * two + one * 31 + 5) % 2147483563=three
  have h1:0≤three:=by rw [← hthree]; exact Int.emod_nonneg _ (by decide)
  clear hone htwo hthree
  refine ⟨by decide,cmulR (by decide),cmulR (by decide),by decide,cmulL (by omega),cmulR (by decide),by decide,by decide,cmulL (by omega),cmulR (by decide),by decide,cmulR (by decide),cmulR (by decide),_,rfl,?_⟩
  omega
def Pen (G:DH) (p:Addr):Prop:=∃ (ns:List Int) (k st:Int),G p=some (.lst [.lst (ns.map D.int),.int k,.int st])∧0≤k∧0≤st
theorem Pen.sa {G G':DH} {p:Addr} (h:Pen G p) (s:Sa G G'):Pen G' p:=by
 obtain ⟨ns,k,st,e,h1⟩:=h
 exact ⟨ns,k,st,s _ _ e,h1⟩
theorem Pen.ne {G:DH} {p q:Addr} (h:Pen G p) (e:G q=none):p≠q:=by
 obtain ⟨ns,k,st,e1,h1⟩:=h
 exact g_ne e1 e
theorem Pen.sb {G G':DH} {p q:Addr} (h:Pen G p) (s:Sb q G G') (n:p≠q):Pen G' p:=by
 obtain ⟨ns,k,st,e,h1⟩:=h
 exact ⟨ns,k,st,s _ _ e n,h1⟩
def sAnew:RF.Spec:=relS (fun ds G=>∃ p,ds=[.ref p]∧Pen G p) (fun ds G d G'=>∃ p,ds=[.ref p]∧d=.ref p∧Pen G' p∧Sb p G G')
theorem w_anew (Φ:Funs) (ds:List D) (G:DH) (h:∃ p,ds=[.ref p]∧Pen G p):wpSs Φ b_law_anew noE (env0 ds 0) G (ends fun d G'=>∃ p,ds=[.ref p]∧d=.ref p∧Pen G' p∧Sb p G G'):=by
 obtain ⟨p,rfl,ns,k,st,e,h1,h2⟩:=h
 simp_arith [b_law_anew,trk_eq e]
 exact ⟨p,rfl,rfl,⟨ns,k,0,gupd_same,h1,by decide⟩,Sb.upd⟩
def sTake:RF.Spec:=relS (fun ds G=>∃ p,∃ m:Int,ds=[.ref p,.int m]∧Pen G p∧0 < m∧m < 1073741824) (fun ds G d G'=>∃ p,∃ m r:Int,ds=[.ref p,.int m]∧d=.int r∧0≤r∧r < m∧Pen G' p∧Sb p G G')
theorem w_take (Φ:Funs) (hΦ:Φ "_law_spread"=sSpread) (ds:List D) (G:DH) (h:∃ p,∃ m:Int,ds=[.ref p,.int m]∧Pen G p∧0 < m∧m < 1073741824):
  wpSs Φ b_law_take noE (env0 ds 3) G (ends fun d G'=>∃ p,∃ m r:Int,ds=[.ref p,.int m]∧d=.int r∧0≤r∧r < m∧Pen G' p∧Sb p G G'):=by
 obtain ⟨p,m,rfl,⟨ns,k,st,e,h1,h2⟩,h3,h4⟩:=h
 simp_all_arith [b_law_take]
 refine seq fun M hM=>?_
 have fin:∀ (ρ2 ρ3 ρ4:Option D) (G1:DH) (k1 s1:Int),0≤k1→0≤s1→G1 p=some (.lst [.lst (ns.map D.int),.int k1,.int s1])→Sb p G G1→M [some (.ref p),some (.int m),ρ2,ρ3,ρ4] G1:=by
  intro ρ2 ρ3 ρ4 G1 k1 s1 q1 q2 e1 sb
  refine hM _ _ ?_
  simp_arith [v_ref e1,trk_eq e1]
  refine ⟨h3,⟨h3,h4⟩,p,m,_,rfl,rfl,Int.emod_nonneg _ (by omega),Int.emod_lt_of_pos _ h3,⟨ns,k1,_,gupd_same,q1,?_⟩,sb.trans Sb.upd⟩
  exact Int.ediv_nonneg q2 (by omega)
 simp_arith [v_ref e,trk_eq e,hΦ]
 have draw:∀ c:Int,sSpread.t [.int c,.int k] (gupd G p (.lst [.lst (ns.map D.int),.int (k + 1),.int st])) (fun x G1=>trk G1 p fun ds=>optK (ixN ds.length 2) fun j=>M [some (.ref p),some (.int m),some (.int k),some (.int c),none] (gupd G1 p (.lst (ds.set j x)))) noE:=by
  intro c
  refine relS_t ⟨c,k,rfl,h1⟩ fun d G' hx=>?_
  obtain ⟨e1,r,e2,hr⟩:=hx
  subst e1 e2
  simp_arith [trk_eq gupd_same]
  refine fin _ _ _ _ (k + 1) r (by omega) hr gupd_same (Sb.trans Sb.upd Sb.upd)
 cases hc:decide (st < m) with
 | false=>exact fin _ _ _ _ k st h1 h2 e (Sb.refl _ _)
 | true=>
  cases hk:decide (k < ((ns.map D.int).length:Int)) with
  | true=>
   have hk:=of_decide_eq_true hk
   rw [List.length_map] at hk
   refine optK_of (a:=.int ns[k.toNat]) ?_ ?_
   ·obtain ⟨n,rfl⟩:=Int.eq_ofNat_of_zero_le h1
    exact atI_nat (by simp at hk ⊢)
   ·exact draw _
  | false=>
   cases hz:decide (0 < ((ns.map D.int).length:Int)) with
   | false=>exact draw 0
   | true=>
    have hz:=of_decide_eq_true hz
    have j1:0≤(k * 5 + 3) % ((ns.map D.int).length:Int):=Int.emod_nonneg _ (by omega)
    have j2:(k * 5 + 3) % ((ns.map D.int).length:Int) < ((ns.map D.int).length:Int):=Int.emod_lt_of_pos _ hz
    obtain ⟨j,hj⟩:=Int.eq_ofNat_of_zero_le j1
    rw [hj] at j2
    have j3:j < ns.length:=by rw [List.length_map] at j2; omega
    refine ⟨cmulR (by decide),hz,optK_of (a:=.int ns[j]) ?_ ⟨cpow10 (by decide),?_⟩⟩
    ·rw [hj]; exact atI_nat (by simp [j3])
    ·simp_arith [trk_eq e]
     refine ⟨?_,draw _⟩
     have:(0:Int) < 10 ^ Int.toNat 17:=by decide
     omega
def sSigns:RF.Spec:=relS (fun ds G=>∃ p,∃ n:Nat,∃ cs:List Nat,ds=[.ref p,.int n,.str cs]∧Pen G p∧n≤1000∧cs≠[]∧cs.length≤1000)
 (fun ds G d G'=>∃ p,∃ n:Nat,∃ cs l:List Nat,ds=[.ref p,.int n,.str cs]∧d=.str l∧l.length=n∧(∀ c∈l,c∈cs)∧Pen G' p∧Sb p G G')
theorem one_sum (l:List Nat):((l.map fun c=>[c]).map (·.length)).sum=l.length:=by
 induction l with
 | nil=>rfl
 | cons a l ih=>simp at ih ⊢; omega
theorem one_flat (l:List Nat):(l.map fun c=>[c]).flatten=l:=by
 induction l with
 | nil=>rfl
 | cons a l ih=>simp at ih ⊢; exact ih
theorem w_signs (Φ:Funs) (hΦ:Φ "_law_take"=sTake) (ds:List D) (G:DH) (h:∃ p,∃ n:Nat,∃ cs:List Nat,ds=[.ref p,.int n,.str cs]∧Pen G p∧n≤1000∧cs≠[]∧cs.length≤1000):
  wpSs Φ b_law_signs noE (env0 ds 0) G (ends fun d G'=>∃ p,∃ n:Nat,∃ cs l:List Nat,ds=[.ref p,.int n,.str cs]∧d=.str l∧l.length=n∧(∀ c∈l,c∈cs)∧Pen G' p∧Sb p G G'):=by
 obtain ⟨p,n,cs,rfl,hp,hn,hc,hl⟩:=h
 have hc1:0 < cs.length:=List.length_pos_iff.mpr hc
 simp_arith [b_law_signs,hΦ]
 refine ⟨by omega,CompG.inv (P:=fun i acc ρ G'=>(∃ o,ρ=[o,some (.str cs),some (.ref p)])∧Pen G' p∧Sb p G G'∧∃ l:List Nat,acc=l.map (fun c=>D.str [c])∧l.length=i∧∀ c∈l,c∈cs) (h0:=⟨⟨_,rfl⟩,hp,Sb.refl _ _,[],rfl,rfl,by simp⟩) (hh:=fun _ _ _ _ _=>trivial) (hl:=by simp [rangeL]; have hsz:sz=1000000:=rfl; omega) (hs:=?_) (he:=?_)⟩
 ·rintro i d acc ρ G' hd ⟨⟨o,rfl⟩,hp',sb,l,rfl,hl',hm⟩ kk hk
  simp_arith [hΦ]
  refine relS_t ⟨p,_,rfl,hp',by omega,by omega⟩ fun d' G2 hx=>?_
  obtain ⟨p2,m2,r,e1,e2,r0,r1,pp2,sb2⟩:=hx
  cases e1
  subst e2
  obtain ⟨j,rfl⟩:=Int.eq_ofNat_of_zero_le r0
  have hj:j < cs.length:=by omega
  simp_arith [ends]
  refine optK_of (a:=cs[j]) (atI_nat (by simp [hj])) (hk _ _ _ ⟨⟨_,rfl⟩,pp2,sb.trans sb2,l ++ [cs[j]],by simp,by simp [hl'],?_⟩)
  intro c hc
  rcases List.mem_append.mp hc with h | h
  ·exact hm c h
  ·rw [List.mem_singleton.mp h]; exact List.getElem_mem _
 ·rintro acc ρ G' ⟨_,hp',sb,l,rfl,hl',hm⟩
  simp_arith [strs_map]
  have hl2:l.length=n:=by rw [hl']; simp [rangeL]
  refine ⟨?_,p,n,cs,l,rfl,?_,hl2,hm,hp',sb⟩
  ·rw [one_sum]; simp; have hsz:sz=1000000:=rfl; omega
  ·rw [joinL_nil,one_flat]
def isF (c:Nat):Prop:=c=48∨c=49∨c=42
def sForm:RF.Spec:=relS (fun ds G=>∃ p,∃ n:Nat,ds=[.ref p,.int n]∧Pen G p∧n≤1000) (fun ds G d G'=>∃ p,∃ n:Nat,∃ l:List Nat,ds=[.ref p,.int n]∧d=.str l∧l.length=n∧(∀ c∈l,isF c)∧Pen G' p∧Sb p G G')
theorem w_form (Φ:Funs) (h1:Φ "_law_take"=sTake) (h2:Φ "_law_signs"=sSigns) (ds:List D) (G:DH) (h:∃ p,∃ n:Nat,ds=[.ref p,.int n]∧Pen G p∧n≤1000):
  wpSs Φ b_law_form noE (env0 ds 0) G (ends fun d G'=>∃ p,∃ n:Nat,∃ l:List Nat,ds=[.ref p,.int n]∧d=.str l∧l.length=n∧(∀ c∈l,isF c)∧Pen G' p∧Sb p G G'):=by
 obtain ⟨p,n,rfl,hp,hn⟩:=h
 simp_arith [b_law_form,h1,h2]
 refine ⟨by decide,relS_t ⟨p,_,rfl,hp,by decide,by decide⟩ fun d' G2 ⟨p2,m2,r,e1,e2,r0,r1,pp2,sb2⟩=>?_⟩
 cases e1
 subst e2
 obtain ⟨j,rfl⟩:=Int.eq_ofNat_of_zero_le r0
 simp_arith [ends]
 have:∃ cs:List Nat,atI [D.str [48,49,42],D.str [48,49,42,42],D.str [48,49,42,42,42,42],D.str [48,42],D.str [48,49]] ((j:Nat):Int)=some (.str cs)∧cs≠[]∧cs.length≤1000∧∀ c∈cs,isF c:=by
  have hj:j=0∨j=1∨j=2∨j=3∨j=4:=by omega
  rcases hj with rfl | rfl | rfl | rfl | rfl <;> exact ⟨_,rfl,by decide,by decide,by simp [isF]⟩
 obtain ⟨cs,e,c1,c2,c3⟩:=this
 refine optK_of e (relS_t ⟨p,n,cs,rfl,pp2,hn,c1,c2⟩ fun d G3 ⟨p3,n3,cs3,l,e1,e2,q1,q2,q3,q4⟩=>?_)
 cases e1
 exact ⟨p,n,l,rfl,e2,q1,fun c hc=>c3 c (q2 c hc),q3,sb2.trans q4⟩
def sOpen:RF.Spec:=relS (fun ds _=>∃ ns:List Int,ds=[.scr ns]∧ns.length≤63) (fun _ G d G'=>∃ p,d=.ref p∧G p=none∧Pen G' p∧Sa G G')
theorem w_open (Φ:Funs) (ds:List D) (G:DH) (h:∃ ns:List Int,ds=[.scr ns]∧ns.length≤63):wpSs Φ b_law_open noE (env0 ds 3) G (ends fun d G'=>∃ p,d=.ref p∧G p=none∧Pen G' p∧Sa G G'):=by
 obtain ⟨ns,rfl,hl⟩:=h
 simp_all_arith [b_law_open]
 refine seq fun M hM=>?_
 simp_arith [ends]
 intro c hc
 refine hM _ _ ?_
 refine seq fun M hM=>?_
 simp_arith [ends]
 refine ForG.inv (fun i ρ G'=>∃ (o2 o3:Option D) (xs:List Int),ρ=[some (.scr ns),some (.ref c),o2,o3]∧G'=gupd G c (.lst (xs.map D.int))∧(12≤xs.length∨cut ns (some 12) (some 63)=[])) ⟨_,_,cut ns none (some 12),rfl,rfl,?_⟩ (fun _ _ _ _=>trivial) ?_ ?_
 ·by_cases h12:12≤ns.length
  ·left
   simp [cut,HT.sIx]
   omega
  ·right
   simp [cut,HT.sIx]
   omega
 ·rintro i d ρ G' hd ⟨o2,o3,xs,rfl,rfl,hx⟩ kk hk
  rw [enumL_get] at hd
  obtain ⟨d',hd',e3⟩:=Option.map_eq_some_iff.mp hd
  subst e3
  rw [List.getElem?_map] at hd'
  obtain ⟨x,hx',e4⟩:=Option.map_eq_some_iff.mp hd'
  subst e4
  have h12:12≤xs.length:=by
   rcases hx with h | h
   ·exact h
   ·rw [h] at hx'; simp at hx'
  obtain ⟨j,hj⟩:=Int.eq_ofNat_of_zero_le (Int.emod_nonneg ((0 + i:Nat):Int) (by decide:(12:Int)≠0))
  have hj12:j < 12:=by
   have:=Int.emod_lt_of_pos ((0 + i:Nat):Int) (by decide:(0:Int) < 12)
   omega
  have hjx:j < xs.length:=by omega
  simp_arith [hj,v_ref gupd_same,trk_eq gupd_same]
  refine ⟨by decide,optK_of (a:=.int xs[j]) (atI_nat (by simp [hjx])) ?_⟩
  simp_arith [hj,v_ref gupd_same,trk_eq gupd_same,List.length_map,ixN_nat hjx]
  refine ⟨by decide,hk _ _ ⟨_,_,xs.set j (xs[j] + x),rfl,?_,by simp [h12]⟩⟩
  rw [gupd_gupd,List.map_set]
 ·rintro ρ G' ⟨o2,o3,xs,rfl,rfl,hx⟩
  refine hM _ _ ?_
  simp_arith [gupd_same]
  refine ⟨by have hsz:sz=1000000:=rfl; omega,fun p hp=>⟨p,rfl,?_,⟨xs,0,0,gupd_same,by decide,by decide⟩,?_⟩⟩
  ·rw [gdel_gupd hc] at hp; exact hp
  ·rw [gdel_gupd hc] at hp ⊢; exact Sa.new hp
def sLaw:RF.Spec:=relS (fun ds _=>∃ ns:List Int,ds=[.scr ns]∧ns.length≤63) (fun _ _ d _=>d=.bl true)
end RF
namespace RF
open PySem L2
def whole:D→Bool
 | .int _=>true
 | _=>false
def fWhole:List D→Option D
 | [x]=>if nr x then some (.bl (whole x)) else none
 | _=>none
theorem w_is_whole (Φ:Funs) (ds:List D) (G:DH) (d:D) (h:fWhole ds=some d):wpSs Φ b_is_whole noE (env0 ds 0) G (ends fun d' G'=>G'=G∧d'=d):=by
 unfold fWhole at h
 split at h
 ·rename_i x
  split at h
  ·rename_i hx
   cases h
   cases x <;> first | (simp [nr] at hx; done) | (simp_arith [b_is_whole,whole]; try simp)
  ·cases h
 ·cases h
theorem w_law_is_whole (Φ:Funs) (ds:List D) (G:DH) (d:D) (h:fWhole ds=some d):wpSs Φ b_law_is_whole noE (env0 ds 0) G (ends fun d' G'=>G'=G∧d'=d):=w_is_whole Φ ds G d h
end RF
namespace RF
open PySem L2
theorem view_nr {x:D} {G:DH} (h1:nr x=true):view G x=x:=by cases x <;> first | rfl | (simp [nr] at h1)
end RF
namespace RF
open PySem L2
def okF (w:Nat) (l:List Nat):Prop:=l.length=w∧∀ c∈l,isF c
theorem okF.app {w v:Nat} {l m:List Nat} (h:okF w l) (h':okF v m):okF (w + v) (l ++ m):=⟨by rw [List.length_append,h.1,h'.1],fun c hc=>(List.mem_append.mp hc).elim (h.2 c) (h'.2 c)⟩
theorem okF.one {c:Nat} (h:isF c):okF 1 [c]:=⟨rfl,fun d hd=>by rw [List.mem_singleton.mp hd]; exact h⟩
theorem take_t {p:Addr} {m:Int} {G:DH} {k:D→DH→Prop} {E:EK} (hp:Pen G p) (h1:0 < m) (h2:m < 1073741824) (hk:∀ (r:Nat) (G':DH),(r:Int) < m→Pen G' p→Sb p G G'→k (.int r) G'):sTake.t [.ref p,.int m] G k E:=by
 refine relS_t ⟨p,m,rfl,hp,h1,h2⟩ fun d G' hx=>?_
 obtain ⟨p2,m2,r,e1,e2,r0,r1,hp',sb⟩:=hx
 cases e1
 subst e2
 obtain ⟨n,rfl⟩:=Int.eq_ofNat_of_zero_le r0
 exact hk n G' r1 hp' sb
theorem isF01 {n:Nat} (h:(n:Int) < 2):∃ c,atI [48,49] (n:Int)=some c∧isF c:=by
 have:n=0∨n=1:=by omega
 rcases this with rfl | rfl
 ·exact ⟨48,rfl,.inl rfl⟩
 ·exact ⟨49,rfl,.inr (.inl rfl)⟩
theorem isF3 {n:Nat} (h:(n:Int) < 3):∃ c,atI [48,49,42] (n:Int)=some c∧isF c:=by
 have:n=0∨n=1∨n=2:=by omega
 rcases this with rfl | rfl | rfl
 ·exact ⟨48,rfl,.inl rfl⟩
 ·exact ⟨49,rfl,.inr (.inl rfl)⟩
 ·exact ⟨42,rfl,.inr (.inr rfl)⟩
def pText (ds:List D) (G:DH):Prop:=∃ p l,ds=[.ref p,.str l]∧Pen G p∧(∀ c∈l,isF c)∧l.length≤1000
def qText (ds:List D) (G:DH) (d:D) (G':DH):Prop:=∃ p l m,ds=[.ref p,.str l]∧d=.str m∧okF l.length m∧Pen G' p∧Sb p G G'
def sWithin:RF.Spec:=relS pText qText
theorem text_t {p:Addr} {l:List Nat} {G:DH} {k:D→DH→Prop} {E:EK} (hp:Pen G p) (hl:∀ c∈l,isF c) (h2:l.length≤1000) (hk:∀ (m:List Nat) (G':DH),okF l.length m→Pen G' p→Sb p G G'→k (.str m) G'):sWithin.t [.ref p,.str l] G k E:=by
 refine relS_t ⟨p,l,rfl,hp,hl,h2⟩ fun d G' hx=>?_
 obtain ⟨p2,l2,m,e1,e2,h,hp',sb⟩:=hx
 cases e1
 subst e2
 exact hk m G' h hp' sb
theorem w_law_within (Φ:Funs) (h1:Φ "_law_take"=sTake) (ds:List D) (G:DH) (h:pText ds G):wpSs Φ b_law_within noE (env0 ds 2) G (ends (qText ds G)):=by
 obtain ⟨p,l,rfl,hp,hl,hl2⟩:=h
 simp_all_arith [b_law_within]
 refine seq fun M hM=>?_
 simp_arith [ends]
 refine hM _ _ (seq fun M hM=>?_)
 simp_arith! [ends]
 refine ForG.inv (P:=fun i ρ G'=>(∃ o m,ρ=[some (.ref p),some (.str l),some (.str m),o]∧okF i m)∧Pen G' p∧Sb p G G') ⟨⟨_,_,rfl,rfl,by simp⟩,hp,Sb.refl _ _⟩ (fun _ _ _ _=>trivial) ?_ ?_
 ·rintro i d ρ G2 hd ⟨⟨o,m,rfl,hm⟩,hp2,sb2⟩ kk hk
  rw [List.getElem?_map] at hd
  obtain ⟨c,hc,rfl⟩:=Option.map_eq_some_iff.mp hd
  have hi:i < l.length:=(List.getElem?_eq_some_iff.mp hc).1
  have fc:=hl c (List.mem_of_getElem? hc)
  have l1:=hm.1
  simp_arith! [ends]
  refine seq fun M hM=>?_
  have fin:∀ (c:Nat) (G3:DH),isF c→Pen G3 p→Sb p G2 G3→M [some (.ref p),some (.str l),some (.str m),some (.str [c])] G3:=by
   intro c G3 fc hp3 sb3
   refine hM _ _ (last ?_)
   simp_arith [ends]
   exact ⟨by have hsz:sz=1000000:=rfl; omega,hk _ _ ⟨⟨_,_,rfl,hm.app (okF.one fc)⟩,hp3,sb2.trans sb3⟩⟩
  simp_arith [h1]
  cases ht:([c]==[42]) with
  | false=>exact fin c G2 fc hp2 (Sb.refl _ _)
  | true=>
   refine take_t hp2 (by decide) (by decide) fun r G3 hr hp3 sb3=>?_
   simp_arith [ends]
   cases hr0:((r:Int)==0) with
   | false=>exact fin c G3 fc hp3 sb3
   | true=>
    refine take_t hp3 (by decide) (by decide) fun r' G4 hr' hp4 sb4=>?_
    obtain ⟨c',e,fc'⟩:=isF01 hr'
    simp_arith [e]
    exact fin c' G4 fc' hp4 (sb3.trans sb4)
 ·rintro ρ G2 ⟨⟨o,m,rfl,hm⟩,hp2,sb2⟩
  refine hM _ _ ?_
  simp_arith [ends]
  exact ⟨p,l,m,rfl,rfl,by simpa using hm,hp2,sb2⟩
theorem w_law_wider (Φ:Funs) (h1:Φ "_law_take"=sTake) (ds:List D) (G:DH) (h:pText ds G):wpSs Φ b_law_wider noE (env0 ds 2) G (ends (qText ds G)):=by
 obtain ⟨p,l,rfl,hp,hl,hl2⟩:=h
 simp_all_arith [b_law_wider]
 refine seq fun M hM=>?_
 simp_arith [ends]
 refine hM _ _ (seq fun M hM=>?_)
 simp_arith! [ends]
 refine ForG.inv (P:=fun i ρ G'=>(∃ o m,ρ=[some (.ref p),some (.str l),some (.str m),o]∧okF i m)∧Pen G' p∧Sb p G G') ⟨⟨_,_,rfl,rfl,by simp⟩,hp,Sb.refl _ _⟩ (fun _ _ _ _=>trivial) ?_ ?_
 ·rintro i d ρ G2 hd ⟨⟨o,m,rfl,hm⟩,hp2,sb2⟩ kk hk
  rw [List.getElem?_map] at hd
  obtain ⟨c,hc,rfl⟩:=Option.map_eq_some_iff.mp hd
  have hi:i < l.length:=(List.getElem?_eq_some_iff.mp hc).1
  have fc:=hl c (List.mem_of_getElem? hc)
  have l1:=hm.1
  simp_arith! [ends]
  refine seq fun M hM=>?_
  have fin:∀ (c:Nat) (G3:DH),isF c→Pen G3 p→Sb p G2 G3→M [some (.ref p),some (.str l),some (.str m),some (.str [c])] G3:=by
   intro c G3 fc hp3 sb3
   refine hM _ _ (last ?_)
   simp_arith [ends]
   exact ⟨by have hsz:sz=1000000:=rfl; omega,hk _ _ ⟨⟨_,_,rfl,hm.app (okF.one fc)⟩,hp3,sb2.trans sb3⟩⟩
  simp_arith [h1]
  refine take_t hp2 (by decide) (by decide) fun r G3 hr hp3 sb3=>?_
  simp_arith [ends]
  cases hr0:((r:Int)==0) with
  | false=>exact fin c G3 fc hp3 sb3
  | true=>exact fin 42 G3 (.inr (.inr rfl)) hp3 sb3
 ·rintro ρ G2 ⟨⟨o,m,rfl,hm⟩,hp2,sb2⟩
  refine hM _ _ ?_
  simp_arith [ends]
  exact ⟨p,l,m,rfl,rfl,by simpa using hm,hp2,sb2⟩
theorem texts_stay {G G':DH} {p:Addr} {x:D} {fs:List (List Nat)} (hv:view G x=.lst (fs.map D.str)) (hp:Pen G p) (sb:Sb p G G'):view G' x=.lst (fs.map D.str):=by
 cases x with
 | ref q=>
  unfold view at hv
  dsimp only at hv
  cases g:G q with
  | none=>rw [g] at hv; cases hv
  | some o=>
   cases o with
   | lst ds=>
    rw [g] at hv
    have e:ds=fs.map D.str:=by simpa using hv
    have hn:q≠p:=by
     rintro rfl
     obtain ⟨ns,k,st,e1,_⟩:=hp
     rw [g,e] at e1
     cases fs with
     | nil=>simp at e1
     | cons a r=>simp at e1
    rw [v_ref (sb q _ g hn),e]
 | lst l=>exact hv
 | _=>cases hv
def pLike (ds:List D) (G:DH):Prop:=∃ p,∃ w:Nat,∃ x,∃ fs:List (List Nat),ds=[.ref p,.int w,x]∧Pen G p∧0 < w∧w≤1000∧view G x=.lst (fs.map D.str)∧fs.length≤1000∧∀ f∈fs,okF w f
def qLike (ds:List D) (G:DH) (d:D) (G':DH):Prop:=∃ p,∃ w:Nat,∃ x m,ds=[.ref p,.int w,x]∧d=.str m∧okF w m∧Pen G' p∧Sb p G G'
def sLike:RF.Spec:=relS pLike qLike
theorem like_t {p:Addr} {w:Nat} {x:D} {fs:List (List Nat)} {G:DH} {k:D→DH→Prop} {E:EK} (hp:Pen G p) (h1:0 < w) (h2:w≤1000) (hv:view G x=.lst (fs.map D.str)) (h3:fs.length≤1000) (h4:∀ f∈fs,okF w f)
  (hk:∀ (m:List Nat) (G':DH),okF w m→Pen G' p→Sb p G G'→k (.str m) G'):sLike.t [.ref p,.int w,x] G k E:=by
 refine relS_t ⟨p,w,x,fs,rfl,hp,h1,h2,hv,h3,h4⟩ fun d G' hx=>?_
 obtain ⟨p2,w2,x2,m,e1,e2,h,hp',sb⟩:=hx
 simp only [List.cons.injEq,D.ref.injEq,D.int.injEq,Int.ofNat_inj,and_true] at e1
 obtain ⟨rfl,rfl,rfl⟩:=e1
 subst e2
 exact hk m G' h hp' sb
theorem nrs_strs (fs:List (List Nat)):nrs (fs.map D.str)=true:=by
 induction fs with
 | nil=>rfl
 | cons a l ih=>rw [List.map_cons,nrs,ih]; rfl
theorem dpts_strs (fs:List (List Nat)):dpts (fs.map D.str)=0:=by
 induction fs with
 | nil=>rfl
 | cons a l ih=>rw [List.map_cons,dpts,ih]; rfl
theorem okF_put {w n:Nat} {l:List Nat} {c:Nat} (h:okF w l) (hn:n < w) (fc:isF c):okF w (cut l none (some (n:Int)) ++ [c] ++ cut l (some ((n:Int) + 1)) none):=by
 have h1:=h.1
 rw [cut_take,cut_drop1]
 refine ⟨?_,fun d hd=>?_⟩
 ·simp; omega
 ·rcases List.mem_append.mp hd with hd | hd
  ·rcases List.mem_append.mp hd with hd | hd
   ·exact h.2 d (List.mem_of_mem_take hd)
   ·rw [List.mem_singleton.mp hd]; exact fc
  ·exact h.2 d (List.mem_of_mem_drop hd)
theorem w_law_form_like (Φ:Funs) (h1:Φ "_law_take"=sTake) (h2:Φ "_law_form"=sForm) (h3:Φ "_law_within"=sWithin) (h4:Φ "_law_wider"=sWithin) (ds:List D) (G:DH) (h:pLike ds G):wpSs Φ b_law_form_like noE (env0 ds 3) G (ends (qLike ds G)):=by
 obtain ⟨p,w,x,fs,rfl,hp,w1,w2,hv,hf,hfs⟩:=h
 simp_all_arith [b_law_form_like]
 refine seq fun M hM=>?_
 simp_arith [h1]
 refine take_t hp (by decide) (by decide) fun kd G2 hkd hp2 sb2=>?_
 have hv2:=texts_stay hv hp sb2
 refine hM _ _ (seq fun M hM=>?_)
 have drawn:∀ (ρ:Env') (G3:DH),Pen G3 p→Sb p G G3→wpSs Φ (.cons (.ret (.call "_law_form" (.cons (.var 0) (.cons (.var 1) .nil)))) .nil) noE (some (.ref p)::some (.int w)::ρ) G3 { nx:=M,rt:=qLike [.ref p,.int w,x] G,bk:=fun _ _=>False,ct:=fun _ _=>False }:=by
  intro ρ G3 hp3 sb3
  simp_arith [h2]
  refine relS_t ⟨p,w,rfl,hp3,w2⟩ fun d G4 hx=>?_
  obtain ⟨p4,n4,l,e1,e2,l1,l2,hp4,sb4⟩:=hx
  simp only [List.cons.injEq,D.ref.injEq,D.int.injEq,Int.ofNat_inj,and_true] at e1
  obtain ⟨rfl,rfl⟩:=e1
  exact ⟨p,w,x,l,rfl,e2,⟨l1,l2⟩,hp4,sb3.trans sb4⟩
 simp_arith! [hv2,deqs_nil,dpts_strs,nrs_strs]
 refine ⟨by decide,?_⟩
 cases he:(fs.map D.str).isEmpty with
 | true=>exact drawn _ _ hp2 sb2
 | false=>
  have hlen:0 < fs.length:=by
   cases fs with
   | nil=>simp at he
   | cons a r=>simp
  simp_arith! [ends]
  cases hk2:decide ((kd:Int) < 2) with
  | true=>exact drawn _ _ hp2 sb2
  | false=>
   simp_arith [ends]
   refine hM _ _ (seq fun M hM=>?_)
   simp_arith [h1,hv2,List.length_map]
   refine take_t hp2 (by omega) (by omega) fun r G3 hr hp3 sb3=>?_
   have hv3:=texts_stay hv2 hp2 sb3
   simp_arith [hv3]
   have hr':r < fs.length:=by omega
   refine optK_of (a:=.str fs[r]) (atI_nat (by simp [hr'])) ?_
   have fok:=hfs fs[r] (List.getElem_mem _)
   generalize fs[r]=f at fok
   refine hM _ _ (seq fun M hM=>?_)
   have sb':=sb2.trans sb3
   simp_arith [ends]
   cases hk3:((kd:Int)==2) with
   | true=>exact ⟨p,w,x,f,rfl,rfl,fok,hp3,sb'⟩
   | false=>
    refine hM _ _ (seq fun M hM=>?_)
    simp_arith! [ends]
    cases hk5:decide ((kd:Int) < 5) with
    | true=>
     simp_arith [h1]
     refine take_t hp3 (by omega) (by omega) fun at' G4 hat hp4 sb4=>?_
     refine take_t hp4 (by decide) (by decide) fun s G5 hs hp5 sb5=>?_
     obtain ⟨c,e,fc⟩:=isF3 hs
     have c1:=cut_len f none (some (at':Int))
     have c2:=cut_len f (some ((at':Int) + 1)) none
     have f1:=fok.1
     simp_arith [e,List.length_append]
     exact ⟨by have hsz:sz=1000000:=rfl; omega,by have hsz:sz=1000000:=rfl; omega,p,w,x,_,rfl,rfl,okF_put fok (by omega) fc,hp5,sb'.trans (sb4.trans sb5)⟩
    | false=>
     simp_arith [ends]
     refine hM _ _ (seq fun M hM=>?_)
     have f1:=fok.1
     simp_arith [h3]
     cases hk6:((kd:Int)==5) with
     | true=>
      refine text_t hp3 fok.2 (by omega) fun m G4 hm hp4 sb4=>?_
      rw [f1] at hm
      exact ⟨p,w,x,m,rfl,rfl,hm,hp4,sb'.trans sb4⟩
     | false=>
      refine hM _ _ ?_
      simp_arith [h4]
      refine text_t hp3 fok.2 (by omega) fun m G4 hm hp4 sb4=>?_
      rw [f1] at hm
      exact ⟨p,w,x,m,rfl,rfl,hm,hp4,sb'.trans sb4⟩
end RF
namespace RF
open PySem L2
def okD (l:List Nat):Prop:=1≤l.length∧l.length≤8∧∀ c∈l,97≤c∧c≤122
theorem signs_t {p:Addr} {n:Nat} {cs:List Nat} {G:DH} {k:D→DH→Prop} {E:EK} (hp:Pen G p) (hn:n≤1000) (h1:cs≠[]) (h2:cs.length≤1000) (hk:∀ (l:List Nat) (G':DH),l.length=n→(∀ c∈l,c∈cs)→Pen G' p→Sb p G G'→k (.str l) G'):sSigns.t [.ref p,.int n,.str cs] G k E:=by
 refine relS_t ⟨p,n,cs,rfl,hp,hn,h1,h2⟩ fun d G' hx=>?_
 obtain ⟨p2,n2,cs2,l,e1,e2,l1,l2,hp',sb⟩:=hx
 simp only [List.cons.injEq,D.ref.injEq,D.int.injEq,D.str.injEq,Int.ofNat_inj,and_true] at e1
 obtain ⟨rfl,rfl,rfl⟩:=e1
 subst e2
 exact hk l G' l1 l2 hp' sb
def pDeeds (ds:List D) (G:DH):Prop:=∃ p,∃ m:Int,ds=[.ref p,.int m]∧Pen G p∧0 < m∧m≤100
def qDeeds (ds:List D) (G:DH) (d:D) (G':DH):Prop:=∃ p,∃ m:Int,∃ xs:List (List Nat),ds=[.ref p,.int m]∧d=.lst (xs.map D.str)∧0 < xs.length∧xs.length≤100∧(∀ x∈xs,okD x)∧Pen G' p∧Sb p G G'
def sDeeds:RF.Spec:=relS pDeeds qDeeds
def someDeeds:List (List Nat):=[[97],[103,111],[115,116,97,121],[97,98,99,100,101,102,103,104],[110,111,110,101],[121,101,115],[105,110],[111,117,116],[107,101,101,112],[119,111,114,100],[122,122]]
theorem some_ok:∀ x∈someDeeds,okD x:=by
 have h:∀ x∈someDeeds,1≤x.length∧x.length≤8∧∀ c∈x,97≤c∧c≤122:=by decide
 exact h
theorem letter_ok {c:Nat} (h:c∈[97,98,99,100,101,102,103,104,105,106,107,108,109,110,111,112,113,114,115,116,117,118,119,120,121,122]):97≤c∧c≤122:=by
 have:∀ c∈[97,98,99,100,101,102,103,104,105,106,107,108,109,110,111,112,113,114,115,116,117,118,119,120,121,122],97≤c∧c≤122:=by decide
 exact this c h
theorem w_law_deeds_of (Φ:Funs) (h1:Φ "_law_take"=sTake) (h2:Φ "_law_signs"=sSigns) (ds:List D) (G:DH) (h:pDeeds ds G):wpSs Φ b_law_deeds_of noE (env0 ds 4) G (ends (qDeeds ds G)):=by
 obtain ⟨p,m,rfl,hp,m1,m2⟩:=h
 simp_all_arith [b_law_deeds_of]
 refine seq fun M hM=>?_
 simp_arith [ends]
 refine ⟨by decide,hM _ _ ?_⟩
 refine (fun tail=>tail someDeeds rfl some_ok) (?_:∀ xs:List (List Nat),xs.length=11→(∀ x∈xs,okD x)→wpSs Φ _ noE [some (.ref p),some (.int m),some (.lst (xs.map D.str)),none,none,none] G _)
 intro xs x1 x2
 refine seq fun M hM=>?_
 simp_arith [h1]
 refine take_t hp (by decide) (by decide) fun t G2 ht hp2 sb2=>?_
 refine hM _ _ (seq fun M hM=>?_)
 simp_arith [h1]
 refine take_t hp2 (by omega) (by omega) fun r G3 hr hp3 sb3=>?_
 simp_arith [ends]
 refine ⟨by omega,?_⟩
 refine CompG.inv (P:=fun i acc ρ G'=>(∃ o,ρ=[o,some (.lst (xs.map D.str)),some (.int t)])∧G'=G3∧∃ ys:List (List Nat),acc=ys.map D.str∧ys.length=i∧∀ y∈ys,okD y) ⟨⟨_,rfl⟩,rfl,[],rfl,rfl,by simp⟩ (fun _ _ _ _ _=>trivial) (by simp [rangeL]; have hsz:sz=1000000:=rfl; omega) ?_ ?_
 ·rintro i d acc ρ G' hd ⟨⟨o,rfl⟩,rfl,ys,rfl,y1,y2⟩ kk hk
  unfold rangeL at hd
  rw [List.getElem?_map] at hd
  obtain ⟨j,hj,rfl⟩:=Option.map_eq_some_iff.mp hd
  simp_arith [ends]
  have q0:0≤((t:Int) + 3 * (0 + (j:Int))) % 11:=Int.emod_nonneg _ (by decide)
  have q1:((t:Int) + 3 * (0 + (j:Int))) % 11 < 11:=Int.emod_lt_of_pos _ (by decide)
  refine ⟨cmulL (by decide),by decide,optK_in q0 (by rw [List.length_map,x1]; exact q1) fun a ha=>?_⟩
  obtain ⟨x,hx,rfl⟩:=List.mem_map.mp ha
  refine hk _ _ _ ⟨⟨_,rfl⟩,rfl,ys ++ [x],by simp,by simp [y1],fun y hy=>?_⟩
  rcases List.mem_append.mp hy with h | h
  ·exact y2 y h
  ·rw [List.mem_singleton.mp h]; exact x2 x hx
 ·rintro acc ρ G' ⟨_,rfl,ys,rfl,y1,y2⟩
  have hy:ys.length=r + 1:=by rw [y1]; simp [rangeL]; omega
  refine hM _ _ (seq fun M hM=>?_)
  simp_arith [h1]
  refine take_t hp3 (by decide) (by decide) fun q G4 hq hp4 sb4=>?_
  have sb':=sb2.trans (sb3.trans sb4)
  simp_arith [ends]
  cases hq0:((q:Int)==0) with
  | false=>
   refine hM _ _ ?_
   simp_arith [ends]
   exact ⟨p,m,ys,rfl,rfl,by omega,by omega,y2,hp4,sb'⟩
  | true=>
   simp_arith [ends]
   refine CompG.inv (P:=fun i acc ρ G'=>(∃ o,ρ=[o,some (.ref p),some (.str [97,98,99,100,101,102,103,104,105,106,107,108,109,110,111,112,113,114,115,116,117,118,119,120,121,122])])∧Pen G' p∧Sb p G G'∧∃ zs:List (List Nat),acc=zs.map D.str∧zs.length=i∧∀ z∈zs,okD z) ⟨⟨_,rfl⟩,hp4,sb',[],rfl,rfl,by simp⟩ (fun _ _ _ _ _=>trivial) (by simp; have hsz:sz=1000000:=rfl; omega) ?_ ?_
   ·rintro i d acc ρ G' hd ⟨⟨o,rfl⟩,hp5,sb5,zs,rfl,z1,z2⟩ kk hk
    simp_arith [h1,h2]
    refine take_t hp5 (by decide) (by decide) fun n G6 hn hp6 sb6=>?_
    simp_arith [ends]
    rw [show (1:Int) + (n:Int)=((n + 1:Nat):Int) by omega]
    refine signs_t hp6 (by omega) (by simp) (by simp) fun l G7 l1 l2 hp7 sb7=>?_
    refine hk _ _ _ ⟨⟨_,rfl⟩,hp7,sb5.trans (sb6.trans sb7),zs ++ [l],by simp,by simp [z1],fun z hz=>?_⟩
    rcases List.mem_append.mp hz with h | h
    ·exact z2 z h
    ·rw [List.mem_singleton.mp h]; exact ⟨by omega,by omega,fun c hc=>letter_ok (l2 c hc)⟩
   ·rintro acc ρ G' ⟨_,hp5,sb5,zs,rfl,z1,z2⟩
    rw [List.length_map] at z1
    refine hM _ _ ?_
    simp_arith [ends]
    exact ⟨p,m,zs,rfl,rfl,by omega,by omega,z2,hp5,sb5⟩
abbrev Row:=List Nat×List Nat
def dRow (r:Row):D:=.tup [.str r.1,.str r.2]
def dBook (w:Nat) (rs:List Row):D:=.tup [.int w,.tup (rs.map dRow)]
structure okB (w:Nat) (rs:List Row):Prop where
 w1:1≤w
 w6:w≤6
 len:rs.length≤12
 form:∀ r∈rs,okF w r.1
 deed:∀ r∈rs,okD r.2
def pBook (ds:List D) (G:DH):Prop:=∃ p,∃ w m:Nat,ds=[.ref p,.int w,.int m]∧Pen G p∧1≤w∧w≤6∧m≤12
def qBook (ds:List D) (G:DH) (d:D) (G':DH):Prop:=∃ p,∃ w m v:Nat,∃ rs:List Row,ds=[.ref p,.int w,.int m]∧d=dBook v rs∧okB v rs∧v≤w∧rs.length≤m∧Pen G' p∧Sb p G G'
def sBook:RF.Spec:=relS pBook qBook
theorem book_t {p:Addr} {w m:Nat} {G:DH} {k:D→DH→Prop} {E:EK} (hp:Pen G p) (h1:1≤w) (h2:w≤6) (h3:m≤12) (hk:∀ (v:Nat) (rs:List Row) (G':DH),okB v rs→v≤w→rs.length≤m→Pen G' p→Sb p G G'→k (dBook v rs) G'):sBook.t [.ref p,.int w,.int m] G k E:=by
 refine relS_t ⟨p,w,m,rfl,hp,h1,h2,h3⟩ fun d G' hx=>?_
 obtain ⟨p2,w2,m2,v,rs,e1,e2,o,q1,q2,hp',sb⟩:=hx
 simp only [List.cons.injEq,D.ref.injEq,D.int.injEq,Int.ofNat_inj,and_true] at e1
 obtain ⟨rfl,rfl,rfl⟩:=e1
 subst e2
 exact hk v rs G' o q1 q2 hp' sb
theorem deeds_t {p:Addr} {m:Int} {G:DH} {k:D→DH→Prop} {E:EK} (hp:Pen G p) (h1:0 < m) (h2:m≤100) (hk:∀ (xs:List (List Nat)) (G':DH),0 < xs.length→xs.length≤100→(∀ x∈xs,okD x)→Pen G' p→Sb p G G'→k (.lst (xs.map D.str)) G'):sDeeds.t [.ref p,.int m] G k E:=by
 refine relS_t ⟨p,m,rfl,hp,h1,h2⟩ fun d G' hx=>?_
 obtain ⟨p2,m2,xs,e1,e2,q1,q2,q3,hp',sb⟩:=hx
 cases e1
 subst e2
 exact hk xs G' q1 q2 q3 hp' sb
theorem atI_last {α:Type} {l:List α} {a:α}:atI (l ++ [a]) (-1)=some a:=by
 unfold atI ixN
 rw [if_neg (by decide),if_pos (by simp; omega),List.length_append,List.length_singleton,show (-1 + ((l.length + 1:Nat):Int)).toNat=l.length by omega]
 simp
theorem w_law_book (Φ:Funs) (h1:Φ "_law_take"=sTake) (h2:Φ "_law_deeds_of"=sDeeds) (h3:Φ "_law_form_like"=sLike) (ds:List D) (G:DH) (h:pBook ds G):wpSs Φ b_law_book noE (env0 ds 5) G (ends (qBook ds G)):=by
 obtain ⟨p,w,m,rfl,hp,w1,w2,m1⟩:=h
 simp_all_arith [b_law_book]
 refine seq fun M hM=>?_
 simp_arith [h1]
 refine take_t hp (by omega) (by omega) fun n G2 hn hp2 sb2=>?_
 simp_arith [ends]
 rw [show (1:Int) + (n:Int)=((n + 1:Nat):Int) by omega]
 refine hM _ _ (seq fun M hM=>?_)
 simp_arith [h2]
 refine deeds_t hp2 (by decide) (by decide) fun xs G3 x1 x2 x3 hp3 sb3=>?_
 refine hM _ _ (seq fun M hM=>?_)
 simp_arith [ends]
 refine fun q hq=>hM _ _ (seq fun M hM=>?_)
 simp_arith [ends]
 refine fun s hs=>hM _ _ (seq fun M hM=>?_)
 have hqs:q≠s:=by
  rintro rfl
  rw [gupd_same] at hs; cases hs
 have hs3:G3 s=none:=by rw [gupd_ne (Ne.symm hqs)] at hs; exact hs
 have npq:p≠q:=hp3.ne hq
 have nps:p≠s:=hp3.ne hs3
 have sa4:Sa G3 (gupd (gupd G3 q (.lst [])) s (.lst [])):=(Sa.new hq).trans (Sa.new hs)
 have hp4:=hp3.sa sa4
 simp_arith! [h1]
 refine take_t hp4 (by omega) (by omega) fun r G5 hr hp5 sb5=>?_
 simp_arith! [ends]
 refine ⟨by omega,?_⟩
 refine ForG.inv (P:=fun i ρ G'=>(∃ o,ρ=[some (.ref p),some (.int w),some (.int m),some (.int ((n + 1:Nat):Int)),some (.lst (xs.map D.str)),some (.ref q),some (.ref s),o])∧Pen G' p∧Sb p G G'∧
   ∃ rs:List Row,G' q=some (.lst ((rs.map (·.1)).map D.str))∧G' s=some (.lst (rs.map dRow))∧rs.length=i∧(∀ r∈rs,okF (n + 1) r.1)∧∀ r∈rs,okD r.2) ⟨⟨_,rfl⟩,hp5,sb2.trans (sb3.trans (sa4.sb.trans sb5)),[],?_,?_,rfl,by simp,by simp⟩ (fun _ _ _ _=>trivial) ?_ ?_
 ·exact sb5 q _ (by rw [gupd_ne hqs]; exact gupd_same) (Ne.symm npq)
 ·exact sb5 s _ gupd_same (Ne.symm nps)
 ·rintro i d ρ G' hd ⟨⟨o,rfl⟩,hp6,sb6,rs,g1,g2,r1,r2,r3⟩ kk hk
  have hi:i < r:=by
   have:=(List.getElem?_eq_some_iff.mp hd).1
   simpa [rangeL] using this
  simp_arith! [ends]
  refine seq fun M hM=>?_
  simp_arith [h3,trk_eq g1]
  refine like_t (fs:=rs.map (·.1)) hp6 (by omega) (by omega) (v_ref g1) (by simp; omega) (fun f hf=>?_) fun f G7 hf hp7 sb7=>?_
  ·obtain ⟨r',hr',rfl⟩:=List.mem_map.mp hf
   exact r2 r' hr'
  have g1':=sb7 q _ g1 (Ne.symm npq)
  have g2':=sb7 s _ g2 (Ne.symm nps)
  simp_arith [trk_eq g1']
  refine ⟨by simp; have hsz:sz=1000000:=rfl; omega,hM _ _ (last ?_)⟩
  have e2:gupd G7 q (.lst ((rs.map (·.1)).map D.str ++ [.str f])) s=some (.lst (rs.map dRow)):=by rw [gupd_ne (Ne.symm hqs)]; exact g2'
  have hp8:Pen (gupd G7 q (.lst ((rs.map (·.1)).map D.str ++ [.str f]))) p:=hp7.sb Sb.upd npq
  simp_arith [h1,trk_eq e2,v_ref gupd_same,atI_last,List.length_map]
  refine take_t hp8 (by omega) (by omega) fun t G9 ht hp9 sb9=>?_
  have e1':=sb9 q _ gupd_same (Ne.symm npq)
  have e2':=sb9 s _ e2 (Ne.symm nps)
  simp_arith [trk_eq e2']
  refine optK_in (by omega) (by simp; omega) fun x hx=>?_
  obtain ⟨dd,hdd,rfl⟩:=List.mem_map.mp hx
  refine ⟨by decide,by simp; have hsz:sz=1000000:=rfl; omega,hk _ _ ⟨⟨_,rfl⟩,hp9.sb Sb.upd nps,?_,rs ++ [(f,dd)],?_,?_,by simp [r1],?_,?_⟩⟩
  ·intro b ob hb nb
   by_cases hbs:b=s
   ·subst hbs
    exfalso
    have z:=sb2 b _ hb nb
    have z:=sb3 b _ z nb
    rw [hs3] at z; cases z
   ·by_cases hbq:b=q
    ·subst hbq
     exfalso
     have z:=sb2 b _ hb nb
     have z:=sb3 b _ z nb
     rw [hq] at z; cases z
    ·rw [gupd_ne hbs]
     exact sb9 b _ (by rw [gupd_ne hbq]; exact sb7 b _ (sb6 b _ hb nb) nb) nb
  ·rw [gupd_ne hqs,e1']; simp
  ·rw [gupd_same]; simp [dRow]
  ·intro r' hr'
   rcases List.mem_append.mp hr' with h | h
   ·exact r2 r' h
   ·rw [List.mem_singleton.mp h]; exact hf
  ·intro r' hr'
   rcases List.mem_append.mp hr' with h | h
   ·exact r3 r' h
   ·rw [List.mem_singleton.mp h]; exact x3 dd hdd
 ·rintro ρ G' ⟨⟨o,rfl⟩,hp6,sb6,rs,g1,g2,r1,r2,r3⟩
  have hl:rs.length=r:=by rw [r1]; simp [rangeL]
  refine hM _ _ ?_
  simp_arith [v_ref g2]
  exact ⟨by decide,p,w,m,n + 1,rs,rfl,rfl,⟨by omega,by omega,by omega,r2,r3⟩,by omega,by omega,hp6,sb6⟩
end RF
namespace RF
open PySem L2
def alt (c:Nat):List Nat:=if c=42 then [48,49] else [c]
def step1 (acc:List (List Nat)) (c:Nat):List (List Nat):=acc.flatMap fun t=>(alt c).map fun s=>t ++ [s]
def wordsL (f:List Nat):List (List Nat):=f.foldl step1 [[]]
def Fits (f w:List Nat):Prop:=f.length=w.length∧∀ (i c s:Nat),f[i]?=some c→w[i]?=some s→s∈alt c
theorem wordsL_snoc (f:List Nat) (c:Nat):wordsL (f ++ [c])=step1 (wordsL f) c:=by unfold wordsL; rw [List.foldl_append]; rfl
theorem mem_step1 {acc:List (List Nat)} {c:Nat} {w:List Nat}:w∈step1 acc c↔∃ t s,t∈acc∧s∈alt c∧w=t ++ [s]:=by
 unfold step1
 rw [List.mem_flatMap]
 constructor
 ·rintro ⟨t,ht,h⟩
  obtain ⟨s,hs,rfl⟩:=List.mem_map.mp h
  exact ⟨t,s,ht,hs,rfl⟩
 ·rintro ⟨t,s,ht,hs,rfl⟩
  exact ⟨t,ht,List.mem_map.mpr ⟨s,hs,rfl⟩⟩
theorem Fits_snoc {f w:List Nat} {c s:Nat}:Fits (f ++ [c]) (w ++ [s])↔Fits f w∧s∈alt c:=by
 constructor
 ·rintro ⟨h1,h2⟩
  have hl:f.length=w.length:=by simpa using h1
  refine ⟨⟨hl,fun i c' s' hc hs=>?_⟩,?_⟩
  ·have i1:=(List.getElem?_eq_some_iff.mp hc).1
   exact h2 i c' s' (by rw [List.getElem?_append_left i1]; exact hc) (by rw [List.getElem?_append_left (by omega)]; exact hs)
  ·exact h2 f.length c s (by simp) (by rw [hl]; simp)
 ·rintro ⟨⟨h1,h2⟩,h3⟩
  refine ⟨by simp [h1],fun i c' s' hc hs=>?_⟩
  by_cases hi:i < f.length
  ·rw [List.getElem?_append_left hi] at hc
   rw [List.getElem?_append_left (by omega)] at hs
   exact h2 i c' s' hc hs
  ·have i2:=(List.getElem?_eq_some_iff.mp hc).1
   simp at i2
   have e:i=f.length:=by omega
   subst e
   simp at hc
   rw [h1] at hs
   simp at hs
   subst hc hs
   exact h3
theorem mem_words {f w:List Nat}:w∈wordsL f↔Fits f w:=by
 induction f using snocRec generalizing w with
 | nil=>
  simp [wordsL,Fits]
  constructor
  ·rintro rfl; simp
  ·intro h; exact List.length_eq_zero_iff.mp h.symm
 | snoc f c ih=>
  rw [wordsL_snoc,mem_step1]
  constructor
  ·rintro ⟨t,s,ht,hs,rfl⟩
   exact Fits_snoc.mpr ⟨ih.mp ht,hs⟩
  ·intro h
   have hl:=h.1
   simp at hl
   have hne:w≠[]:=by rintro rfl; simp at hl
   refine ⟨w.dropLast,w.getLast hne,?_,?_,(List.dropLast_concat_getLast hne).symm⟩
   ·rw [← List.dropLast_concat_getLast hne] at h
    exact ih.mpr (Fits_snoc.mp h).1
   ·rw [← List.dropLast_concat_getLast hne] at h
    exact (Fits_snoc.mp h).2
theorem words_len {f w:List Nat} (h:w∈wordsL f):w.length=f.length:=(mem_words.mp h).1.symm
theorem step1_len {acc:List (List Nat)} {c:Nat}:(step1 acc c).length≤2 * acc.length:=by
 unfold step1
 induction acc with
 | nil=>simp
 | cons a r ih=>
  rw [List.flatMap_cons,List.length_append,List.length_map,List.length_cons]
  have:(alt c).length≤2:=by unfold alt; split <;> simp
  omega
theorem words_card (f:List Nat):(wordsL f).length≤2 ^ f.length:=by
 induction f using snocRec with
 | nil=>simp [wordsL]
 | snoc f c ih=>
  rw [wordsL_snoc,List.length_append,List.length_singleton,Nat.pow_succ]
  have:=@step1_len (wordsL f) c
  omega
theorem step1_app {a b:List (List Nat)} {c:Nat}:step1 (a ++ b) c=step1 a c ++ step1 b c:=by unfold step1; rw [List.flatMap_append]
def pWords (ds:List D) (_:DH):Prop:=∃ f:List Nat,ds=[.str f]∧f.length≤12
def qWords (ds:List D) (G:DH) (d:D) (G':DH):Prop:=∃ f:List Nat,ds=[.str f]∧d=.lst ((wordsL f).map D.str)∧Sa G G'
def sWords:RF.Spec:=relS pWords qWords
theorem words_t {f:List Nat} {G:DH} {k:D→DH→Prop} {E:EK} (h:f.length≤12) (hk:∀ G',Sa G G'→k (.lst ((wordsL f).map D.str)) G'):sWords.t [.str f] G k E:=by
 refine relS_t ⟨f,rfl,h⟩ fun d G' hx=>?_
 obtain ⟨f2,e1,e2,sa⟩:=hx
 cases e1
 subst e2
 exact hk G' sa
theorem w_law_words (Φ:Funs) (ds:List D) (G:DH) (h:pWords ds G):wpSs Φ b_law_words noE (env0 ds 4) G (ends (qWords ds G)):=by
 obtain ⟨f,rfl,hf⟩:=h
 simp_all_arith [b_law_words]
 refine seq fun M hM=>?_
 simp_arith [ends]
 refine ⟨by decide,hM _ _ (seq fun M hM=>?_)⟩
 simp_arith! [ends]
 refine ForG.inv (P:=fun i ρ G'=>(∃ o2 o3 o4,ρ=[some (.str f),some (.lst ((wordsL (f.take i)).map D.str)),o2,o3,o4])∧Sa G G') ⟨⟨_,_,_,rfl⟩,Sa.refl G⟩ (fun _ _ _ _=>trivial) ?_ ?_
 ·rintro i d ρ G2 hd ⟨⟨o2,o3,o4,rfl⟩,sa⟩ kk hk
  rw [List.getElem?_map] at hd
  obtain ⟨c,hc,rfl⟩:=Option.map_eq_some_iff.mp hd
  have hi:=(List.getElem?_eq_some_iff.mp hc).1
  have ht:f.take (i + 1)=f.take i ++ [c]:=by rw [List.take_add_one,hc]; rfl
  have hcard:(wordsL (f.take i)).length≤4096:=by
   have h1:=words_card (f.take i)
   have h2:(f.take i).length≤12:=by rw [List.length_take]; omega
   have h3:=Nat.pow_le_pow_right (show 0 < 2 by decide) h2
   have h4:2 ^ 12=4096:=by decide
   omega
  simp_arith! [ends]
  refine seq fun M hM=>?_
  simp_arith [ends]
  refine fun q hq=>hM _ _ (seq fun M hM=>?_)
  simp_arith! [ends]
  refine ForG.inv (P:=fun j ρ G'=>(∃ o4,ρ=[some (.str f),some (.lst ((wordsL (f.take i)).map D.str)),some (.str [c]),some (.ref q),o4])∧Sa G G'∧G' q=some (.lst ((step1 ((wordsL (f.take i)).take j) c).map D.str))) ⟨⟨_,rfl⟩,sa.trans (Sa.new hq),gupd_same⟩ (fun _ _ _ _=>trivial) ?_ ?_
  ·rintro j d ρ G3 hd3 ⟨⟨o4,rfl⟩,sa3,g3⟩ kk' hk'
   rw [List.getElem?_map] at hd3
   obtain ⟨t,htt,rfl⟩:=Option.map_eq_some_iff.mp hd3
   have hj:=(List.getElem?_eq_some_iff.mp htt).1
   have tlen:t.length≤12:=by rw [words_len (List.mem_of_getElem? htt),List.length_take]; omega
   have tk:(wordsL (f.take i)).take (j + 1)=(wordsL (f.take i)).take j ++ [t]:=by rw [List.take_add_one,htt]; rfl
   have st:step1 [t] c=(alt c).map fun s=>t ++ [s]:=by simp [step1]
   have l1:(step1 ((wordsL (f.take i)).take j) c).length≤8192:=by
    have:=@step1_len ((wordsL (f.take i)).take j) c
    have:((wordsL (f.take i)).take j).length≤4096:=by rw [List.length_take]; omega
    omega
   have al2:(alt c).length≤2:=by unfold alt; split <;> simp
   simp_arith! [ends]
   refine last ?_
   simp_arith [trk_eq g3]
   refine ⟨by decide,?_⟩
   have ix:atI [D.str [48,49],D.str [c]] (if (!([c]==[42]))=true then 1 else 0)=some (.str (alt c)):=by
    unfold alt
    by_cases h42:c=42
    ·subst h42; rfl
    ·have:([c]==[42])=false:=by simp [h42]
     rw [this,if_neg h42]; rfl
   simp_arith [ix]
   refine CompG.map (f:=fun d=>match d with | .str [s]=>.str (t ++ [s]) | _=>.non) (I:=fun ρ=>∃ o,ρ=[o,some (.str t)]) ⟨_,rfl⟩ trivial (by simp; have hsz:sz=1000000:=rfl; omega) ?_ ?_
   ·rintro d ρ hd ⟨o,rfl⟩ kk2 hk2
    obtain ⟨s,_,rfl⟩:=List.mem_map.mp hd
    simp_arith [ends]
    exact ⟨by have hsz:sz=1000000:=rfl; omega,hk2 _ ⟨_,rfl⟩⟩
   ·rw [List.map_map]
    simp_arith [Function.comp_def,trk_eq g3,List.length_map]
    refine ⟨by have hsz:sz=1000000:=rfl; omega,hk' _ _ ⟨⟨_,rfl⟩,?_,?_⟩⟩
    ·intro b ob hb
     by_cases hbq:b=q
     ·subst hbq
      exfalso
      have:=sa b _ hb
      rw [hq] at this; cases this
     ·rw [gupd_ne hbq]; exact sa3 b _ hb
    ·rw [gupd_same,tk,step1_app,st,List.map_append,List.map_map]; rfl
  ·rintro ρ G3 ⟨⟨o4,rfl⟩,sa3,g3⟩
   rw [List.length_map,List.take_length] at g3
   refine hM _ _ (last ?_)
   simp_arith [g3]
   refine hk _ _ ⟨⟨_,_,_,by rw [ht,wordsL_snoc]⟩,?_⟩
   intro b ob hb
   have hbq:b≠q:=by
    rintro rfl
    have:=sa b _ hb
    rw [hq] at this; cases this
   rw [gdel_ne hbq]; exact sa3 b _ hb
 ·rintro ρ G2 ⟨⟨o2,o3,o4,rfl⟩,sa⟩
  rw [List.length_map,List.take_length]
  refine hM _ _ ?_
  simp_arith [ends]
  exact ⟨f,rfl,rfl,sa⟩
end RF
namespace RF
open PySem L2
def letters:List Nat:=[97,98,99,100,101,102,103,104,105,106,107,108,109,110,111,112,113,114,115,116,117,118,119,120,121,122]
theorem letters_all:∀ c:Fin 123,97≤c.1→letters.contains c.1=true:=by decide
theorem letters_ok {c:Nat}:letters.contains c=true↔97≤c∧c≤122:=
 ⟨fun h=>letter_ok (List.contains_iff_mem.mp h),fun ⟨h1,h2⟩=>letters_all ⟨c,Nat.lt_succ_of_le h2⟩ h1⟩
theorem trues {α:Type} (l:List α):bools (l.map fun _=>D.bl true)=some (l.map fun _=>true):=bools_map _ l
theorem all_true {α:Type} (l:List α):(l.map fun _=>true).all id=true:=List.all_eq_true.mpr fun x hx=>by obtain ⟨_,_,rfl⟩:=List.mem_map.mp hx; rfl
def sTextOk:RF.Spec:=valS (fun a:List Nat×List Nat=>[.str a.1,.int a.2.length,.str a.2]) (fun a=>a.2.length≤1000∧∀ c∈a.2,a.1.contains c=true) (fun _=>.bl true)
theorem w_text_ok (Φ:Funs) (a:List Nat×List Nat) (G:DH) (h:a.2.length≤1000∧∀ c∈a.2,a.1.contains c=true):wpSs Φ b_is_text_of noE (env0 [.str a.1,.int a.2.length,.str a.2] 0) G (ends fun d G'=>G'=G∧d=.bl true):=by
 obtain ⟨s,l⟩:=a
 obtain ⟨h1,h2⟩:=h
 dsimp only at h1 h2
 simp_arith [b_is_text_of,BEq.rfl]
 refine CompG.map (f:=fun _=>.bl true) (I:=fun ρ=>∃ o,ρ=[o,some (.str s)]) ⟨_,rfl⟩ trivial (by simp; have hsz:sz=1000000:=rfl; omega) ?_ ?_
 ·rintro d ρ hd ⟨o,rfl⟩ kk hk
  obtain ⟨c,hc,rfl⟩:=List.mem_map.mp hd
  simp_arith [h2 c hc]
  exact hk _ ⟨_,rfl⟩
 ·simp_arith [trues,all_true]
def sFormOk:RF.Spec:=valS (fun l:List Nat=>[.int l.length,.str l]) (fun l=>l.length≤1000∧∀ c∈l,isF c) (fun _=>.bl true)
theorem w_form_ok (Φ:Funs) (h1:Φ "is_text_of"=sTextOk) (l:List Nat) (G:DH) (h:l.length≤1000∧∀ c∈l,isF c):wpSs Φ b_is_form noE (env0 [.int l.length,.str l] 0) G (ends fun d G'=>G'=G∧d=.bl true):=by
 simp_arith [b_is_form,h1]
 exact valS_t ([48,49,42],l) rfl ⟨h.1,fun c hc=>by rcases h.2 c hc with rfl | rfl | rfl <;> rfl⟩ ⟨rfl,rfl⟩
def sDeedOk:RF.Spec:=valS (fun l:List Nat=>[.str l]) okD (fun _=>.bl true)
theorem w_deed_ok (Φ:Funs) (l:List Nat) (G:DH) (h:okD l):wpSs Φ b_is_deed noE (env0 [.str l] 0) G (ends fun d G'=>G'=G∧d=.bl true):=by
 obtain ⟨h1,h2,h3⟩:=h
 have b1:decide ((1:Int)≤(l.length:Int))=true:=decide_eq_true (by omega)
 have b2:decide ((l.length:Int)≤8)=true:=decide_eq_true (by omega)
 simp_arith [b_is_deed,b1,b2]
 refine CompG.map (f:=fun _=>.bl true) (I:=fun ρ=>∃ o,ρ=[o]) ⟨_,rfl⟩ trivial (by simp; have hsz:sz=1000000:=rfl; omega) ?_ ?_
 ·rintro d ρ hd ⟨o,rfl⟩ kk hk
  obtain ⟨c,hc,rfl⟩:=List.mem_map.mp hd
  have hcl:[97,98,99,100,101,102,103,104,105,106,107,108,109,110,111,112,113,114,115,116,117,118,119,120,121,122].contains c=true:=letters_ok.mpr (h3 c hc)
  simp_arith [hcl]
  exact hk _ ⟨_,rfl⟩
 ·simp_arith [trues,all_true]
def sRowOk:RF.Spec:=valS (fun a:Nat×Row=>[.int a.1,dRow a.2]) (fun a=>a.1≤6∧okF a.1 a.2.1∧okD a.2.2) (fun _=>.bl true)
theorem w_row_ok (Φ:Funs) (h1:Φ "is_form"=sFormOk) (h2:Φ "is_deed"=sDeedOk) (a:Nat×Row) (G:DH) (h:a.1≤6∧okF a.1 a.2.1∧okD a.2.2):wpSs Φ b_is_row noE (env0 [.int a.1,dRow a.2] 0) G (ends fun d G'=>G'=G∧d=.bl true):=by
 obtain ⟨w,f,d⟩:=a
 obtain ⟨hw,hf,hd⟩:=h
 dsimp only at hw hf hd
 simp_arith [b_is_row,dRow,h1,h2]
 simp_arith [show ((0 + 1 + 1:Nat):Int)=2 from rfl,BEq.rfl]
 refine valS_t f (by rw [hf.1]) ⟨by rw [hf.1]; omega,hf.2⟩ ?_
 simp_arith [ends]
 exact valS_t d rfl hd ⟨rfl,rfl⟩
def sWidthOk:RF.Spec:=valS (fun w:Nat=>[.int w]) (fun w=>1≤w∧w≤6) (fun _=>.bl true)
theorem w_width_ok (Φ:Funs) (h1:Φ "is_whole"=pureS fWhole) (w:Nat) (G:DH) (h:1≤w∧w≤6):wpSs Φ b_is_width noE (env0 [.int w] 0) G (ends fun d G'=>G'=G∧d=.bl true):=by
 have b1:decide ((1:Int)≤(w:Int))=true:=decide_eq_true (by omega)
 have b2:decide ((w:Int)≤6)=true:=decide_eq_true (by omega)
 simp_arith [b_is_width,h1]
 refine pureS_t (d:=.bl true) rfl ?_
 simp_arith [b1,b2]
def sBookOk:RF.Spec:=valS (fun a:Nat×List Row=>[dBook a.1 a.2]) (fun a=>okB a.1 a.2) (fun _=>.bl true)
theorem w_book_ok (Φ:Funs) (h1:Φ "is_width"=sWidthOk) (h2:Φ "is_row"=sRowOk) (a:Nat×List Row) (G:DH) (h:okB a.1 a.2):wpSs Φ b_is_book noE (env0 [dBook a.1 a.2] 2) G (ends fun d G'=>G'=G∧d=.bl true):=by
 obtain ⟨w,rs⟩:=a
 dsimp only at h ⊢
 have hlen:=h.len
 simp_all_arith [b_is_book,dBook]
 refine seq fun M hM=>?_
 simp_arith [ends]
 simp_arith [show ((0 + 1 + 1:Nat):Int)=2 from rfl,BEq.rfl]
 refine hM _ _ (seq fun M hM=>?_)
 simp_arith [ends]
 refine hM _ _ (seq fun M hM=>?_)
 simp_arith [h1]
 refine valS_t w rfl ⟨h.w1,h.w6⟩ ?_
 have hd:decide ((12:Int) < ((rs.map dRow).length:Int))=false:=decide_eq_false (by rw [List.length_map]; omega)
 simp_arith [hd]
 refine hM _ _ ?_
 simp_arith [ends]
 refine CompG.map (f:=fun _=>.bl true) (I:=fun ρ=>∃ o,ρ=[o,some (.int w)]) ⟨_,rfl⟩ trivial (by rw [List.length_map]; have hsz:sz=1000000:=rfl; omega) ?_ ?_
 ·rintro d ρ hd ⟨o,rfl⟩ kk hk
  obtain ⟨r,hr,rfl⟩:=List.mem_map.mp hd
  simp_arith [h2]
  exact valS_t (w,r) rfl ⟨h.w6,h.form r hr,h.deed r hr⟩ (hk _ ⟨_,rfl⟩)
 ·simp_arith [trues,all_true]
def sNeed:RF.Spec:=valS (fun a:Nat×List Row=>[dBook a.1 a.2]) (fun a=>okB a.1 a.2) (fun _=>.non)
theorem need_t {w:Nat} {rs:List Row} {G:DH} {k:D→DH→Prop} {E:EK} (h:okB w rs) (hk:k .non G):sNeed.t [dBook w rs] G k E:=valS_t (w,rs) rfl h hk
theorem w_need_book (Φ:Funs) (h1:Φ "is_book"=sBookOk) (a:Nat×List Row) (G:DH) (h:okB a.1 a.2):wpSs Φ b_need_book noE (env0 [dBook a.1 a.2] 0) G (ends fun d G'=>G'=G∧d=.non):=by
 simp_arith [b_need_book,h1]
 refine valS_t a rfl h ?_
 simp_arith [ends]
def fit1 (c s:Nat):Bool:=c==42 || c==s
def fitZ:List Nat→List Nat→Bool
 | c::f,s::w=>fit1 c s && fitZ f w
 | _,_=>true
def fitB (f w:List Nat):Bool:=decide (f.length=w.length) && fitZ f w
def fFits:List D→Option D
 | [.str f,.str w]=>if decide (f.length≤100000) then some (.bl (fitB f w)) else none
 | _=>none
theorem zip_signs:∀ (f w:List Nat),zipL (f.map fun c=>D.str [c]) (w.map fun c=>D.str [c])=(f.zip w).map fun p=>D.tup [.str [p.1],.str [p.2]]
 | [],w=>by simp [zipL]
 | c::f,[]=>by simp [zipL]
 | c::f,s::w=>by simp [zipL,zip_signs f w]
theorem fitZ_all:∀ (f w:List Nat),((f.zip w).map fun p=>fit1 p.1 p.2).all id=fitZ f w
 | [],w=>by simp [fitZ]
 | c::f,[]=>by simp [fitZ]
 | c::f,s::w=>by simp [fitZ,fitZ_all f w]
theorem sg_eq {c s:Nat}:(([c]==[s]):Bool)=(c==s):=by
 by_cases h:c=s
 ·subst h; simp
 ·rw [beq_eq_false_iff_ne.mpr h,beq_eq_false_iff_ne.mpr (by simp [h])]
theorem len_beq {a b:Nat}:((((a:Nat):Int)==((b:Nat):Int)):Bool)=decide (a=b):=by
 by_cases h:a=b
 ·subst h; simp
 ·rw [decide_eq_false h,beq_eq_false_iff_ne]; omega
theorem w_fits (Φ:Funs) (ds:List D) (G:DH) (d:D) (h:fFits ds=some d):wpSs Φ b_fits noE (env0 ds 0) G (ends fun d' G'=>G'=G∧d'=d):=by
 unfold fFits at h
 split at h
 ·rename_i f w
  split at h
  ·rename_i hl
   have hl:=of_decide_eq_true hl
   cases h
   simp_arith [b_fits,len_beq,fitB]
   cases he:decide (f.length=w.length) with
   | false=>simp_arith [Bool.false_and]
   | true=>
    simp_arith [zip_signs,Bool.true_and]
    refine CompG.map (f:=fun d=>match d with | .tup [.str [c],.str [s]]=>.bl (fit1 c s) | _=>.non) (I:=fun ρ=>∃ o o',ρ=[o,o']) ⟨_,_,rfl⟩ trivial (by simp; have hsz:sz=1000000:=rfl; omega) ?_ ?_
    ·rintro d ρ hd ⟨o,o',rfl⟩ kk hk
     obtain ⟨⟨c,s⟩,_,rfl⟩:=List.mem_map.mp hd
     simp_arith [sg_eq]
     have:=hk [some (.str [c]),some (.str [s])] ⟨_,_,rfl⟩
     unfold fit1 at this
     cases hc:(c==42) with
     | true=>simp_arith [hc] at this ⊢; exact this
     | false=>simp_arith [hc] at this ⊢; exact this
    ·rw [List.map_map]
     simp_arith [Function.comp_def,bools_map,fitZ_all,and_self]
  ·cases h
 ·cases h
theorem fit1_alt {c s:Nat} (hs:s=48∨s=49):fit1 c s=true↔s∈alt c:=by
 unfold fit1 alt
 by_cases h:c=42
 ·subst h; simp; rcases hs with rfl | rfl <;> simp
 ·simp [h]; exact eq_comm
theorem fitZ_iff:∀ {f w:List Nat},f.length=w.length→(∀ s∈w,s=48∨s=49)→(fitZ f w=true↔∀ (i c s:Nat),f[i]?=some c→w[i]?=some s→s∈alt c)
 | [],[],_,_=>by simp [fitZ]
 | [],s::w,h,_=>by simp at h
 | c::f,[],h,_=>by simp at h
 | c::f,s::w,h,hw=>by
  rw [fitZ,Bool.and_eq_true,fitZ_iff (by simpa using h) fun s hs=>hw s (List.mem_cons_of_mem _ hs),fit1_alt (hw s List.mem_cons_self)]
  constructor
  ·rintro ⟨h1,h2⟩ i c' s' hc hs
   cases i with
   | zero=>simp at hc hs; subst hc hs; exact h1
   | succ i=>exact h2 i c' s' (by simpa using hc) (by simpa using hs)
  ·intro h
   exact ⟨h 0 c s rfl rfl,fun i c' s' hc hs=>h (i + 1) c' s' (by simpa using hc) (by simpa using hs)⟩
def metN (rs:List Row) (w:List Nat):Option Nat:=rs.findIdx? fun r=>fitB r.1 w
def optD:Option Nat→D
 | some n=>.int n
 | none=>.non
theorem book_inj {w v:Nat} {rs ss:List Row} (h:dBook w rs=dBook v ss):w=v∧rs=ss:=by
 unfold dBook at h
 simp only [D.tup.injEq,List.cons.injEq,D.int.injEq,Int.ofNat_inj,and_true] at h
 refine ⟨h.1,?_⟩
 have h2:=h.2
 clear h
 induction rs generalizing ss with
 | nil=>cases ss with
  | nil=>rfl
  | cons _ _=>simp at h2
 | cons r rs ih=>cases ss with
  | nil=>simp at h2
  | cons s ss=>
   simp only [List.map_cons,List.cons.injEq] at h2
   have e:r=s:=by
    have:=h2.1
    unfold dRow at this
    simp only [D.tup.injEq,List.cons.injEq,D.str.injEq,and_true] at this
    exact Prod.ext this.1 this.2
   rw [e,ih h2.2]
theorem met_step {rs:List Row} {l:List Nat} {i:Nat} {r:Row} (h:rs[i]?=some r):metN (rs.drop i) l=if fitB r.1 l then some 0 else (metN (rs.drop (i + 1)) l).map (· + 1):=by
 have hi:=(List.getElem?_eq_some_iff.mp h).1
 have e:rs.drop i=r::rs.drop (i + 1):=by
  rw [List.drop_eq_getElem_cons hi]
  rw [(List.getElem?_eq_some_iff.mp h).2]
 rw [e]
 unfold metN
 rw [List.findIdx?_cons]
def deedN (rs:List Row):Option Nat→D
 | some n=>match rs[n]? with | some r=>.str r.2 | none=>.non
 | none=>.non
def sDeedOf:RF.Spec:=relS (fun ds _=>∃ w rs o,ds=[dBook w rs,optD o]∧∀ n,o=some n→n < rs.length) (fun ds G d G'=>G'=G∧∃ w rs o,ds=[dBook w rs,optD o]∧d=deedN rs o)
theorem optD_inj {a b:Option Nat} (h:optD a=optD b):a=b:=by
 cases a <;> cases b <;> simp [optD] at h ⊢ <;> omega
theorem deedOf_t {w:Nat} {rs:List Row} {o:Option Nat} {G:DH} {k:D→DH→Prop} {E:EK} (h:∀ n,o=some n→n < rs.length) (hk:k (deedN rs o) G):sDeedOf.t [dBook w rs,optD o] G k E:=by
 refine relS_t ⟨w,rs,o,rfl,h⟩ fun d G' hx=>?_
 obtain ⟨e1,w2,rs2,o2,e2,e3⟩:=hx
 simp only [List.cons.injEq,and_true] at e2
 obtain ⟨e2,e4⟩:=e2
 obtain ⟨rfl,rfl⟩:=book_inj e2
 cases optD_inj e4
 subst e1 e3
 exact hk
theorem w_deed_of (Φ:Funs) (ds:List D) (G:DH) (h:∃ w rs o,ds=[dBook w rs,optD o]∧∀ n,o=some n→n < rs.length):wpSs Φ b_deed_of noE (env0 ds 0) G (ends fun d G'=>G'=G∧∃ w rs o,ds=[dBook w rs,optD o]∧d=deedN rs o):=by
 obtain ⟨w,rs,o,rfl,ho⟩:=h
 cases o with
 | none=>
  simp_arith [b_deed_of,optD]
  exact ⟨w,rs,none,rfl,rfl⟩
 | some n=>
  have hn:=ho n rfl
  simp_arith [b_deed_of,optD,dBook]
  refine optK_of (a:=dRow rs[n]) (atI_nat (by simp [hn])) ?_
  simp_arith [dRow]
  exact ⟨w,rs,some n,rfl,by simp [deedN,hn]⟩
end RF
namespace RF
open PySem L2
theorem cut_map {α β:Type} (f:α→β) (l:List α) (lo hi:Option Int):cut (l.map f) lo hi=(cut l lo hi).map f:=by
 unfold cut
 rw [List.length_map,List.map_take,List.map_drop]
theorem cut_take_map {α β:Type} (f:α→β) (l:List α) (n:Nat):cut (l.map f) none (some (n:Int))=(l.take n).map f:=by rw [cut_take,List.map_take]
theorem cut_drop_map {α β:Type} (f:α→β) (l:List α) (n:Nat):cut (l.map f) (some (n:Int)) none=(l.drop n).map f:=by rw [cut_drop,List.map_drop]
theorem reps_one (c:Nat) (n:Nat):reps [c] n=List.replicate n c:=by
 unfold reps
 induction n with
 | zero=>rfl
 | succ n ih=>rw [List.replicate_succ,List.flatten_cons,ih,List.replicate_succ]; rfl
theorem okF_stars (w:Nat):okF w (List.replicate w 42):=⟨List.length_replicate,fun c hc=>.inr (.inr (List.eq_of_mem_replicate hc))⟩
theorem anew_t {p:Addr} {G:DH} {k:D→DH→Prop} {E:EK} (hp:Pen G p) (hk:∀ G',Pen G' p→Sb p G G'→k (.ref p) G'):sAnew.t [.ref p] G k E:=
 relS_t ⟨p,rfl,hp⟩ fun d G' hx=>by obtain ⟨p2,e1,e2,hp',sb⟩:=hx; cases e1; subst e2; exact hk G' hp' sb
end RF
namespace RF
open PySem L2
def both1 (a b:Nat):Option Nat:=if a=42 then some b else if b=42∨b=a then some a else none
def bothO:List Nat→List Nat→Option (List Nat)
 | a::f,b::g=>match both1 a b with | some c=>(bothO f g).map (c::·) | none=>none
 | _,_=>some []
def optS:Option (List Nat)→D
 | some l=>.str l
 | none=>.non
def fBoth:List D→Option D
 | [.str f,.str g]=>if decide (f.length≤100000) then some (optS (bothO f g)) else none
 | _=>none
theorem bothO_drop {f g:List Nat} {i a b:Nat} (h:(f.zip g)[i]?=some (a,b)):bothO (f.drop i) (g.drop i)=match both1 a b with | some c=>(bothO (f.drop (i + 1)) (g.drop (i + 1))).map (c::·) | none=>none:=by
 have hz:=List.getElem?_eq_some_iff.mp h
 obtain ⟨hl,he⟩:=hz
 rw [List.length_zip] at hl
 have h1:i < f.length:=by omega
 have h2:i < g.length:=by omega
 rw [List.getElem_zip] at he
 rw [List.drop_eq_getElem_cons h1,List.drop_eq_getElem_cons h2]
 simp only [Prod.mk.injEq] at he
 rw [he.1,he.2]; rfl
theorem bothO_end {f g:List Nat}:bothO (f.drop (f.zip g).length) (g.drop (f.zip g).length)=some []:=by
 rw [List.length_zip]
 by_cases h:f.length≤g.length
 ·rw [Nat.min_eq_left h,List.drop_length]; cases g.drop f.length <;> rfl
 ·rw [Nat.min_eq_right (by omega),List.drop_length]; cases f.drop g.length <;> rfl
theorem w_both (Φ:Funs) (ds:List D) (G:DH) (d:D) (h:fBoth ds=some d):wpSs Φ b_both noE (env0 ds 3) G (ends fun d' G'=>G'=G∧d'=d):=by
 unfold fBoth at h
 split at h
 ·rename_i f g
  split at h
  ·rename_i hl
   have hl:=of_decide_eq_true hl
   cases h
   simp_all_arith [b_both]
   refine seq fun M hM=>?_
   simp_arith [ends]
   refine hM _ _ (seq fun M hM=>?_)
   simp_arith! [zip_signs]
   refine ForG.inv (P:=fun i ρ G'=>(∃ o3 o4 m,ρ=[some (.str f),some (.str g),some (.str m),o3,o4]∧m.length=i∧bothO f g=(bothO (f.drop i) (g.drop i)).map (m ++ ·))∧G'=G) ⟨⟨_,_,[],rfl,rfl,by simp⟩,rfl⟩ (fun _ _ _ _=>trivial) ?_ ?_
   ·rintro i d ρ G' hd ⟨⟨o3,o4,m,rfl,hm,hb⟩,rfl⟩ kk hk
    rw [List.getElem?_map] at hd
    obtain ⟨⟨a,b⟩,hab,rfl⟩:=Option.map_eq_some_iff.mp hd
    have hi:=(List.getElem?_eq_some_iff.mp hab).1
    rw [List.length_zip] at hi
    rw [bothO_drop hab] at hb
    simp_arith! [ends]
    refine last ?_
    have put:∀ (c:Nat) (o3 o4:Option D),both1 a b=some c→m.length + 1≤sz∧kk [some (.str f),some (.str g),some (.str (m ++ [c])),o3,o4] G':=by
     intro c o3 o4 hc
     rw [hc] at hb
     refine ⟨by have hsz:sz=1000000:=rfl; omega,hk _ _ ⟨⟨_,_,_,rfl,by simp [hm],?_⟩,rfl⟩⟩
     rw [hb,Option.map_map]
     congr 1
     funext x
     simp
    simp_arith [sg_eq]
    by_cases h42:a=42
    ·have:((a==42):Bool)=true:=by simp [h42]
     simp_arith [this]
     exact put b _ _ (if_pos h42)
    ·have h0:((a==42):Bool)=false:=by simp [h42]
     simp_arith [h0,sg_eq]
     by_cases hb42:b=42
     ·have:((b==42):Bool)=true:=by simp [hb42]
      simp_arith [this]
      exact put a _ _ (by unfold both1; rw [if_neg h42,if_pos (.inl hb42)])
     ·have h1:((b==42):Bool)=false:=by simp [hb42]
      simp_arith [h1,sg_eq]
      by_cases hba:b=a
      ·have:((b==a):Bool)=true:=by simp [hba]
       simp_arith [this]
       exact put a _ _ (by unfold both1; rw [if_neg h42,if_pos (.inr hba)])
      ·have:((b==a):Bool)=false:=by simp [hba]
       simp_arith [this]
       have hn:both1 a b=none:=by unfold both1; rw [if_neg h42,if_neg (by rintro (h | h); exact hb42 h; exact hba h)]
       rw [hn] at hb
       rw [hb]; rfl
   ·rintro ρ G' ⟨⟨o3,o4,m,rfl,hm,hb⟩,rfl⟩
    rw [List.length_map,bothO_end] at hb
    refine hM _ _ ?_
    simp_arith [ends]
    rw [hb]; simp [optS]
  ·cases h
 ·cases h
def fWith:List D→Option D
 | [.str f,.int n,.str [c]]=>if decide (0≤n) && decide (n < f.length) && decide (f.length≤1000) then some (.str (f.set n.toNat c)) else none
 | _=>none
theorem put_set {l:List Nat} {n c:Nat} (h:n < l.length):l.take n ++ [c] ++ l.drop (n + 1)=l.set n c:=by
 rw [List.set_eq_take_append_cons_drop,if_pos h]; simp
theorem w_with_sign (Φ:Funs) (ds:List D) (G:DH) (d:D) (h:fWith ds=some d):wpSs Φ b_with_sign noE (env0 ds 0) G (ends fun d' G'=>G'=G∧d'=d):=by
 unfold fWith at h
 split at h
 ·rename_i f n c
  split at h
  ·rename_i hl
   simp only [Bool.and_eq_true,decide_eq_true_iff] at hl
   obtain ⟨⟨h0,h1⟩,h2⟩:=hl
   cases h
   obtain ⟨k,rfl⟩:=Int.eq_ofNat_of_zero_le h0
   simp_arith [b_with_sign,cut_take,cut_drop1,List.length_append,List.length_take,List.length_drop,Int.toNat_natCast,put_set (show k < f.length by omega)]
   exact ⟨by have hsz:sz=1000000:=rfl; omega,by have hsz:sz=1000000:=rfl; omega⟩
  ·cases h
 ·cases h
def fStars:List D→Option D
 | [.int n]=>if decide (0≤n) && decide (n≤1000) then some (.str (List.replicate n.toNat 42)) else none
 | _=>none
theorem w_stars (Φ:Funs) (ds:List D) (G:DH) (d:D) (h:fStars ds=some d):wpSs Φ b_stars noE (env0 ds 0) G (ends fun d' G'=>G'=G∧d'=d):=by
 unfold fStars at h
 split at h
 ·rename_i n
  split at h
  ·rename_i hl
   simp only [Bool.and_eq_true,decide_eq_true_iff] at hl
   cases h
   simp_arith [b_stars,reps_one]
   exact ⟨hl.1,hl.2,by have hsz:sz=1000000:=rfl; omega⟩
  ·cases h
 ·cases h
def touchN (rs:List Row) (b:List Nat):Option Nat:=rs.findIdx? fun r=>(bothO r.1 b).isSome
def pTouch (ds:List D) (_:DH):Prop:=∃ (rs:List Row) (b:List Nat),ds=[.tup (rs.map dRow),.str b]∧∀ r∈rs,r.1.length≤1000
def qTouch (ds:List D) (G:DH) (d:D) (G':DH):Prop:=G'=G∧∃ (rs:List Row) (b:List Nat),ds=[.tup (rs.map dRow),.str b]∧d=optD (touchN rs b)
def sTouch:RF.Spec:=relS pTouch qTouch
theorem rows_inj {rs ss:List Row} (h:rs.map dRow=ss.map dRow):rs=ss:=(book_inj (w:=0) (v:=0) (by unfold dBook; rw [h])).2
theorem touch_t {rs:List Row} {b:List Nat} {G:DH} {k:D→DH→Prop} {E:EK} (h:∀ r∈rs,r.1.length≤1000) (hk:k (optD (touchN rs b)) G):sTouch.t [.tup (rs.map dRow),.str b] G k E:=by
 refine relS_t ⟨rs,b,rfl,h⟩ fun d G' hx=>?_
 obtain ⟨e1,rs2,b2,e2,e3⟩:=hx
 simp only [List.cons.injEq,D.str.injEq,D.tup.injEq,and_true] at e2
 obtain ⟨e2,rfl⟩:=e2
 cases rows_inj e2
 subst e1 e3
 exact hk
theorem optS_non {o:Option (List Nat)}:isNon (optS o)=!o.isSome:=by cases o <;> rfl
theorem v_optS {G:DH} {o:Option (List Nat)}:view G (optS o)=optS o:=by cases o <;> rfl
theorem touch_step {rs:List Row} {b:List Nat} {i:Nat} {r:Row} (h:rs[i]?=some r):touchN (rs.drop i) b=if (bothO r.1 b).isSome then some 0 else (touchN (rs.drop (i + 1)) b).map (· + 1):=by
 have hi:=(List.getElem?_eq_some_iff.mp h).1
 have e:rs.drop i=r::rs.drop (i + 1):=by
  rw [List.drop_eq_getElem_cons hi]
  rw [(List.getElem?_eq_some_iff.mp h).2]
 rw [e]
 unfold touchN
 rw [List.findIdx?_cons]
theorem w_first_touching (Φ:Funs) (h1:Φ "both"=pureS fBoth) (ds:List D) (G:DH) (h:pTouch ds G):wpSs Φ b_first_touching noE (env0 ds 2) G (ends (qTouch ds G)):=by
 obtain ⟨rs,b,rfl,hb⟩:=h
 simp_all_arith [b_first_touching]
 refine seq fun M hM=>?_
 simp_arith! [ends]
 refine ForG.inv (P:=fun i ρ G'=>(∃ o2 o3,ρ=[some (.tup (rs.map dRow)),some (.str b),o2,o3])∧G'=G∧touchN rs b=(touchN (rs.drop i) b).map (· + i)) ⟨⟨_,_,rfl⟩,rfl,by simp⟩ (fun _ _ _ _=>trivial) ?_ ?_
 ·rintro i d ρ G' hd ⟨⟨o2,o3,rfl⟩,rfl,hmet⟩ kk hk
  rw [enumL_get] at hd
  obtain ⟨d',hd',rfl⟩:=Option.map_eq_some_iff.mp hd
  rw [List.getElem?_map] at hd'
  obtain ⟨r,hr,rfl⟩:=Option.map_eq_some_iff.mp hd'
  have hrl:=hb r (List.mem_of_getElem? hr)
  rw [touch_step hr] at hmet
  simp_arith! [ends]
  refine last ?_
  simp_arith [h1,dRow]
  refine pureS_t (d:=optS (bothO r.1 b)) (if_pos (decide_eq_true (by omega))) ?_
  simp_arith [v_optS,optS_non]
  cases hf:(bothO r.1 b).isSome with
  | true=>
   rw [hf,if_pos rfl] at hmet
   exact ⟨rfl,rs,b,rfl,by rw [hmet]; simp [optD]⟩
  | false=>
   rw [hf,if_neg Bool.false_ne_true] at hmet
   refine hk _ _ ⟨⟨_,_,rfl⟩,rfl,?_⟩
   rw [hmet,Option.map_map]
   congr 1
   funext n
   simp; omega
 ·rintro ρ G' ⟨⟨o2,o3,rfl⟩,rfl,hmet⟩
  rw [enumL_length,List.length_map,List.drop_length] at hmet
  refine hM _ _ ?_
  simp_arith [ends]
  exact ⟨rfl,rs,b,rfl,by rw [hmet]; rfl⟩
end RF
namespace RF
open PySem L2
def splitT:List Nat:=[115,112,108,105,116]
def stc (b:List Nat):Nat:=b.countP (·==42)
theorem stc_set {b:List Nat} {n c:Nat} (h:b[n]?=some 42) (hc:c≠42):stc (b.set n c) + 1=stc b:=by
 obtain ⟨hl,he⟩:=List.getElem?_eq_some_iff.mp h
 have e1:b=b.take n ++ 42::b.drop (n + 1):=by
  rw [← he,← List.drop_eq_getElem_cons hl,List.take_append_drop]
 have e2:b.set n c=b.take n ++ c::b.drop (n + 1):=by rw [List.set_eq_take_append_cons_drop,if_pos hl]
 unfold stc
 rw [e2]
 conv=>rhs; rw [e1]
 rw [List.countP_append,List.countP_append,List.countP_cons_of_neg (by simp [hc]),List.countP_cons_of_pos (by simp)]
 omega
theorem okF_set {w n c:Nat} {b:List Nat} (h:okF w b) (hc:isF c):okF w (b.set n c):=⟨by rw [List.length_set]; exact h.1,fun d hd=>by
 rcases List.mem_or_eq_of_mem_set hd with h' | h'
 ·exact h.2 d h'
 ·rw [h']; exact hc⟩
theorem isF0:isF 48:=.inl rfl
theorem isF1:isF 49:=.inr (.inl rfl)
theorem with_t {b:List Nat} {n c:Nat} {G:DH} {k:D→DH→Prop} {E:EK} (h:n < b.length) (hl:b.length≤1000) (hk:k (.str (b.set n c)) G):(pureS fWith).t [.str b,.int n,.str [c]] G k E:=
 pureS_t (by
  unfold fWith
  dsimp only
  rw [if_pos (by simp only [Bool.and_eq_true,decide_eq_true_iff]; omega),Int.toNat_natCast]) hk
theorem stc_stars (w:Nat):stc (List.replicate w 42)≤w:=by
 have:=List.countP_le_length (p:=(·==42)) (l:=List.replicate w 42)
 rw [List.length_replicate] at this
 exact this
theorem both_none_fit:∀ {f b w:List Nat},bothO f b=none→(∀ s∈w,s=48∨s=49)→Fits b w→fitZ f w=true→False
 | [],b,w,h,_,_,_=>by cases b <;> cases h
 | a::f,[],w,h,_,_,_=>by cases h
 | a::f,c::b,[],h,_,hf,_=>by have:=hf.1; simp at this
 | a::f,c::b,s::w,h,hw,hf,hz=>by
  rw [fitZ,Bool.and_eq_true] at hz
  have hs:=hf.2 0 c s rfl rfl
  have hf':Fits b w:=⟨by have:=hf.1; simpa using this,fun i c' s' h1 h2=>hf.2 (i + 1) c' s' (by simpa using h1) (by simpa using h2)⟩
  unfold bothO at h
  cases h1:both1 a c with
  | some x=>
   rw [h1] at h
   simp only [Option.map_eq_none_iff] at h
   exact both_none_fit h (fun s hs=>hw s (List.mem_cons_of_mem _ hs)) hf' hz.2
  | none=>
   unfold both1 at h1
   split at h1
   ·cases h1
   ·split at h1
    ·cases h1
    ·rename_i ha hc
     have h2:=(fit1_alt (hw s List.mem_cons_self)).mp hz.1
     unfold alt at hs h2
     rw [if_neg ha] at h2
     have es:s=a:=by simpa using h2
     split at hs
     ·rename_i e; exact hc (.inl e)
     ·have:s=c:=by simpa using hs
      exact hc (.inr (by omega))
end RF
namespace RF
open PySem L2
theorem fitZ_drop {f w:List Nat} {i a b:Nat} (h:(f.zip w)[i]?=some (a,b)):fitZ (f.drop i) (w.drop i)=(fit1 a b && fitZ (f.drop (i + 1)) (w.drop (i + 1))):=by
 have hz:=List.getElem?_eq_some_iff.mp h
 obtain ⟨hl,he⟩:=hz
 rw [List.length_zip] at hl
 have h1:i < f.length:=by omega
 have h2:i < w.length:=by omega
 rw [List.getElem_zip] at he
 rw [List.drop_eq_getElem_cons h1,List.drop_eq_getElem_cons h2]
 simp only [Prod.mk.injEq] at he
 rw [he.1,he.2]; rfl
theorem fitZ_end {f w:List Nat}:fitZ (f.drop (f.zip w).length) (w.drop (f.zip w).length)=true:=by
 rw [List.length_zip]
 by_cases h:f.length≤w.length
 ·rw [Nat.min_eq_left h,List.drop_length]; rfl
 ·rw [Nat.min_eq_right (by omega),List.drop_length]; cases f.drop w.length <;> rfl
def fLFits:List D→Option D
 | [.str f,.str w]=>some (.bl (fitZ f w))
 | _=>none
theorem w_law_fits (Φ:Funs) (ds:List D) (G:DH) (d:D) (h:fLFits ds=some d):wpSs Φ b_law_fits noE (env0 ds 2) G (ends fun d' G'=>G'=G∧d'=d):=by
 unfold fLFits at h
 split at h
 ·rename_i f w
  cases h
  simp_all_arith [b_law_fits]
  refine seq fun M hM=>?_
  simp_arith! [zip_signs]
  refine ForG.inv (P:=fun i ρ G'=>(∃ o2 o3,ρ=[some (.str f),some (.str w),o2,o3])∧G'=G∧fitZ f w=fitZ (f.drop i) (w.drop i)) ⟨⟨_,_,rfl⟩,rfl,by simp⟩ (fun _ _ _ _=>trivial) ?_ ?_
  ·rintro i d ρ G' hd ⟨⟨o2,o3,rfl⟩,rfl,hb⟩ kk hk
   rw [List.getElem?_map] at hd
   obtain ⟨⟨a,b⟩,hab,rfl⟩:=Option.map_eq_some_iff.mp hd
   rw [fitZ_drop hab] at hb
   unfold fit1 at hb
   simp_arith! [ends]
   refine last ?_
   simp_arith [sg_eq]
   cases h42:(a==42) with
   | true=>
    simp_arith [ends]
    exact hk _ _ ⟨⟨_,_,rfl⟩,rfl,by rw [hb,h42]; rfl⟩
   | false=>
    simp_arith [sg_eq]
    cases hs:(a==b) with
    | true=>
     simp_arith [ends]
     exact hk _ _ ⟨⟨_,_,rfl⟩,rfl,by rw [hb,hs]; simp⟩
    | false=>
     simp_arith [ends]
     rw [hb,h42,hs]; simp
  ·rintro ρ G' ⟨⟨o2,o3,rfl⟩,rfl,hb⟩
   rw [List.length_map,fitZ_end] at hb
   refine hM _ _ ?_
   simp_arith [hb]
 ·cases h
theorem fitB_z {f l:List Nat} (h:f.length=l.length):fitB f l=fitZ f l:=by unfold fitB; rw [decide_eq_true h]; rfl
def sLMet:RF.Spec:=valS (A:=Nat×List Row×List Nat) (fun a=>[dBook a.1 a.2.1,.str a.2.2]) (fun a=>∀ r∈a.2.1,r.1.length=a.2.2.length) (fun a=>optD (metN a.2.1 a.2.2))
theorem lmet_t {w:Nat} {rs:List Row} {l:List Nat} {G:DH} {k:D→DH→Prop} {E:EK} (h:∀ r∈rs,r.1.length=l.length) (hk:k (optD (metN rs l)) G):sLMet.t [dBook w rs,.str l] G k E:=valS_t (w,rs,l) rfl h hk
theorem w_law_met (Φ:Funs) (h1:Φ "_law_fits"=pureS fLFits) (a:Nat×List Row×List Nat) (G:DH) (h:∀ r∈a.2.1,r.1.length=a.2.2.length):
  wpSs Φ b_law_met noE (env0 [dBook a.1 a.2.1,.str a.2.2] 2) G (ends fun d G'=>G'=G∧d=optD (metN a.2.1 a.2.2)):=by
 obtain ⟨w,rs,l⟩:=a
 dsimp only at h ⊢
 simp_all_arith [b_law_met]
 refine seq fun M hM=>?_
 simp_arith! [dBook]
 refine ForG.inv (P:=fun i ρ G'=>(∃ o2 o3,ρ=[some (.tup [.int w,.tup (rs.map dRow)]),some (.str l),o2,o3])∧G'=G∧metN rs l=(metN (rs.drop i) l).map (· + i)) ⟨⟨_,_,rfl⟩,rfl,by simp⟩ (fun _ _ _ _=>trivial) ?_ ?_
 ·rintro i d ρ G' hd ⟨⟨o2,o3,rfl⟩,rfl,hmet⟩ kk hk
  rw [enumL_get] at hd
  obtain ⟨d',hd',rfl⟩:=Option.map_eq_some_iff.mp hd
  rw [List.getElem?_map] at hd'
  obtain ⟨r,hr,rfl⟩:=Option.map_eq_some_iff.mp hd'
  rw [met_step hr,fitB_z (h r (List.mem_of_getElem? hr))] at hmet
  simp_arith! [ends]
  refine last ?_
  simp_arith [h1,dRow]
  refine pureS_t (d:=.bl (fitZ r.1 l)) rfl ?_
  simp_arith [ends]
  cases hf:fitZ r.1 l with
  | true=>
   rw [hf,if_pos rfl] at hmet
   rw [hmet]; simp [optD]
  | false=>
   rw [hf,if_neg Bool.false_ne_true] at hmet
   refine hk _ _ ⟨⟨_,_,rfl⟩,rfl,?_⟩
   rw [hmet,Option.map_map]
   congr 1
   funext n
   simp; omega
 ·rintro ρ G' ⟨⟨o2,o3,rfl⟩,rfl,hmet⟩
  rw [enumL_length,List.length_map,List.drop_length] at hmet
  refine hM _ _ ?_
  simp_arith [ends]
  rw [hmet]; rfl
end RF
namespace RF
open PySem L2
theorem fits_signs {w:Nat} {f l:List Nat} (h:okF w f) (hf:Fits f l):∀ s∈l,s=48∨s=49:=by
 intro s hs
 obtain ⟨i,hi,rfl⟩:=List.getElem_of_mem hs
 have hif:i < f.length:=by rw [hf.1]; exact hi
 have:=hf.2 i f[i] l[i] (by simp [hif]) (by simp [hi])
 rcases h.2 f[i] (List.getElem_mem _) with e | e | e <;> rw [e] at this <;> simp [alt] at this <;> omega
theorem cut_tail {a:D} {l:List D}:cut (a::l) (some 1) none=l:=cut_drop (a::l) 1
end RF
namespace RF
open PySem L2
def isPlace (m:Int):D→Bool
 | .int i=>decide (0≤i) && decide (i < m)
 | _=>false
def fPlace:List D→Option D
 | [.int m,x]=>if nr x then some (.bl (isPlace m x)) else none
 | _=>none
theorem w_is_place (Φ:Funs) (h1:Φ "is_whole"=pureS fWhole) (ds:List D) (G:DH) (d:D) (h:fPlace ds=some d):wpSs Φ b_is_place noE (env0 ds 0) G (ends fun d' G'=>G'=G∧d'=d):=by
 unfold fPlace at h
 split at h
 ·rename_i m x
  split at h
  ·rename_i hx
   cases h
   have hf:fWhole [x]=some (.bl (whole x)):=if_pos hx
   simp_arith [b_is_place,h1]
   refine pureS_t hf ?_
   cases x <;> first | (simp [nr] at hx; done) | (simp_arith [whole,isPlace]; first | (simp; done) | skip)
   rename_i i
   cases hi:decide (0≤i) with
   | true=>simp
   | false=>simp
  ·cases h
 ·cases h
def fNamed:List D→Option D
 | [.str name,.int many,.tup (.str s::r)]=>some (.bl ((((r.length + 1:Nat):Int)==many + 1) && (s==name)))
 | _=>none
theorem w_is_named (Φ:Funs) (ds:List D) (G:DH) (d:D) (h:fNamed ds=some d):wpSs Φ b_is_named noE (env0 ds 0) G (ends fun d' G'=>G'=G∧d'=d):=by
 unfold fNamed at h
 split at h
 ·rename_i name many s r
  cases h
  simp_arith [b_is_named]
  cases he:(((r.length + 1:Nat):Int)==many + 1) with
  | false=>simp_arith [Bool.false_and]
  | true=>simp_arith [Bool.true_and]
 ·cases h
theorem named_leaf {name s:List Nat} {m:Int} {r:List D} {G:DH} {k:D→DH→Prop} {E:EK} (h:s≠name) (hk:k (.bl false) G):(pureS fNamed).t [.str name,.int m,.tup (.str s::r)] G k E:=
 pureS_t (by unfold fNamed; dsimp only; rw [beq_eq_false_iff_ne.mpr h,Bool.and_false]) hk
theorem named_yes {name:List Nat} {m:Int} {r:List D} {G:DH} {k:D→DH→Prop} {E:EK} (h:(r.length:Int)=m) (hk:k (.bl true) G):(pureS fNamed).t [.str name,.int m,.tup (.str name::r)] G k E:=
 pureS_t (by unfold fNamed; dsimp only; rw [BEq.rfl,Bool.and_true,beq_iff_eq.mpr (by omega)]) hk
end RF
namespace RF
open PySem L2
def oI:Option Int→D
 | some i=>.int i
 | none=>.non
inductive T where
 | lf (r:List (Option Int))
 | sp (i:Int) (z o:T)
def T.d (name:List Nat):T→D
 | .lf r=>.tup (.str name::r.map oI)
 | .sp i z o=>.tup [.str splitT,.int i,z.d name,o.d name]
def T.dep:T→Nat
 | .lf _=>0
 | .sp _ z o=>max z.dep o.dep + 1
def starAt (b:List Nat) (i:Int):Bool:=decide (0≤i) && b[i.toNat]?==some 42
def T.lvs:T→List Nat→Option (List (List Nat×List (Option Int)))
 | .lf r,b=>some [(b,r)]
 | .sp i z o,b=>match starAt b i with
  | true=>(match z.lvs (b.set i.toNat 48),o.lvs (b.set i.toNat 49) with | some l,some m=>some (l ++ m) | _,_=>none)
  | false=>none
def leafT (name:List Nat) (x:List Nat×List (Option Int)):D:=.tup [.str x.1,.tup (.str name::x.2.map oI)]
def lvsD (name:List Nat):Option (List (List Nat×List (Option Int)))→D
 | none=>.non
 | some l=>.lst (l.map (leafT name))
theorem T.lvs_len:∀ (t:T) {b:List Nat} {l:List (List Nat×List (Option Int))},t.lvs b=some l→l.length≤2 ^ t.dep
 | .lf r,b,l,h=>by cases h; exact Nat.one_le_two_pow
 | .sp i z o,b,l,h=>by
  rw [T.lvs] at h
  split at h
  ·split at h
   ·rename_i l1 l2 h1 h2
    cases h
    have e1:=z.lvs_len h1
    have e2:=o.lvs_len h2
    have e3:=Nat.pow_le_pow_right (show 0 < 2 by decide) (Nat.le_max_left z.dep o.dep)
    have e4:=Nat.pow_le_pow_right (show 0 < 2 by decide) (Nat.le_max_right z.dep o.dep)
    rw [List.length_append,T.dep,Nat.pow_succ]
    omega
   ·cases h
  ·cases h
theorem T.lvs_len' {n:Nat} {t:T} {b:List Nat} {l:List (List Nat×List (Option Int))} (h:t.lvs b=some l) (hn:t.dep < n) (hn':n≤12):l.length≤4096:=by
 have h1:=t.lvs_len h
 have h3:=Nat.pow_le_pow_right (show 0 < 2 by decide) (show t.dep≤12 by omega)
 have h4:2 ^ 12=4096:=by decide
 omega
theorem T.lvs_okf {w:Nat}:∀ (t:T) {b:List Nat} {l:List (List Nat×List (Option Int))},t.lvs b=some l→okF w b→∀ x∈l,okF w x.1
 | .lf r,b,l,h,hb=>by cases h; intro x hx; rw [List.mem_singleton.mp hx]; exact hb
 | .sp i z o,b,l,h,hb=>by
  rw [T.lvs] at h
  split at h
  ·split at h
   ·rename_i l1 l2 h1 h2
    cases h
    intro x hx
    rcases List.mem_append.mp hx with hx | hx
    ·exact z.lvs_okf h1 (okF_set hb isF0) x hx
    ·exact o.lvs_okf h2 (okF_set hb isF1) x hx
   ·cases h
  ·cases h
structure TA where
 name:List Nat
 b:List Nat
 t:T
def okTA (n:Nat) (a:TA):Prop:=a.name≠splitT∧a.b.length≤12∧a.t.dep < n∧n≤12
def sLvs (n:Nat):RF.Spec:=valS (fun a:TA=>[.str a.b,a.t.d a.name]) (okTA n) (fun a=>lvsD a.name (a.t.lvs a.b))
theorem lvs_t {n:Nat} {name b:List Nat} {t:T} {G:DH} {k:D→DH→Prop} {E:EK} (h1:name≠splitT) (h2:b.length≤12) (h3:t.dep < n) (h4:n≤12) (hk:k (lvsD name (t.lvs b)) G):(sLvs n).t [.str b,t.d name] G k E:=valS_t ⟨name,b,t⟩ rfl ⟨h1,h2,h3,h4⟩ hk
theorem lvs_zero (ds:List D) (G:DH) (a:(sLvs 0).A):¬ (sLvs 0).pre ds G a:=fun ⟨_,_,_,_,h,_⟩=>by omega
theorem star_at {b:List Nat} {i:Int} (h:starAt b i=true):0≤i∧∃ n:Nat,i=n∧n < b.length∧b[n]?=some 42:=by
 unfold starAt at h
 rw [Bool.and_eq_true] at h
 have h1:=of_decide_eq_true h.1
 have h2:b[i.toNat]?=some 42:=by simpa using h.2
 exact ⟨h1,i.toNat,by omega,(List.getElem?_eq_some_iff.mp h2).1,h2⟩
theorem w_leaves2 (Φ:Funs) (n:Nat) (h0:Φ "leaves"=sLvs n) (h1:Φ "is_named"=pureS fNamed) (h2:Φ "is_place"=pureS fPlace) (h3:Φ "with_sign"=pureS fWith) (a:TA) (G:DH) (h:okTA (n + 1) a):wpSs Φ b_leaves noE (env0 [.str a.b,a.t.d a.name] 3) G (ends fun d G'=>G'=G∧d=lvsD a.name (a.t.lvs a.b)):=by
 obtain ⟨name,b,t⟩:=a
 obtain ⟨hne,hbl,hd,hn⟩:=h
 dsimp only at hne hbl hd ⊢
 cases t with
 | lf r=>
  simp_all_arith [b_leaves]
  refine seq fun M hM=>?_
  simp_arith [h1,T.d]
  refine named_leaf hne ?_
  simp_arith [T.lvs,lvsD,List.map_cons,List.map_nil,leafT]
  exact ⟨by decide,by decide⟩
 | sp i z o=>
  rw [T.dep] at hd
  simp_all_arith [b_leaves]
  refine seq fun M hM=>?_
  simp_arith [h1,T.d]
  refine named_yes rfl ?_
  simp_arith [ends]
  refine hM _ _ (seq fun M hM=>?_)
  simp_arith [ends]
  refine hM _ _ (seq fun M hM=>?_)
  simp_arith [h2]
  refine pureS_t (d:=.bl (isPlace b.length (.int i))) rfl ?_
  cases hst:starAt b i with
  | false=>
   rw [T.lvs,hst]
   cases hp:isPlace b.length (.int i) with
   | false=>simp_arith [lvsD]
   | true=>
    unfold isPlace at hp
    rw [Bool.and_eq_true] at hp
    have p1:=of_decide_eq_true hp.1
    have p2:=of_decide_eq_true hp.2
    obtain ⟨m,rfl⟩:∃ m:Nat,i=m:=⟨i.toNat,by omega⟩
    have hm:m < b.length:=by omega
    have hc:b[m]?=some b[m]:=List.getElem?_eq_getElem hm
    have hne42:((b[m]==42):Bool)=false:=by
     unfold starAt at hst
     rw [decide_eq_true (by omega),Bool.true_and,Int.toNat_natCast,hc] at hst
     simpa using hst
    simp_arith [ends]
    refine optK_of (a:=b[m]) (atI_nat hc) ?_
    simp_arith [sg_eq,hne42,lvsD]
  | true=>
   obtain ⟨_,m,rfl,hm,hc⟩:=star_at hst
   have hp:isPlace b.length (.int (m:Int))=true:=by
    show (decide (0≤(m:Int)) && decide ((m:Int) < b.length))=true
    rw [decide_eq_true (by omega),decide_eq_true (by omega)]; rfl
   have hl:(T.sp (m:Int) z o).lvs b=match z.lvs (b.set m 48),o.lvs (b.set m 49) with | some l,some m=>some (l ++ m) | _,_=>none:=by rw [T.lvs,hst,Int.toNat_natCast]
   rw [hp]
   simp_arith [ends]
   refine optK_of (a:=42) (atI_nat hc) ?_
   simp_arith [BEq.rfl]
   refine hM _ _ (seq fun M hM=>?_)
   simp_arith [h0,h3]
   refine with_t hm (by omega) (lvs_t hne (by rw [List.length_set]; exact hbl) (by omega) (by omega) (hM _ _ (seq fun M hM=>?_)))
   simp_arith [h0,h3]
   refine with_t hm (by omega) (lvs_t hne (by rw [List.length_set]; exact hbl) (by omega) (by omega) (hM _ _ (seq fun M hM=>?_)))
   cases e1:z.lvs (b.set m 48) with
   | none=>
    rw [e1] at hl
    simp_arith [hl,lvsD]
   | some l1=>
    cases e2:o.lvs (b.set m 49) with
    | none=>
     rw [e1,e2] at hl
     simp_arith [hl,lvsD]
    | some l2=>
     rw [e1,e2] at hl
     have q1:=T.lvs_len' e1 (n:=n) (by omega) (by omega)
     have q2:=T.lvs_len' e2 (n:=n) (by omega) (by omega)
     simp_arith [lvsD]
     refine hM _ _ (last ?_)
     simp_arith [List.length_map,List.map_append,hl,lvsD]
     have hsz:sz=1000000:=rfl; omega
end RF
namespace RF
open PySem L2
theorem fit1_iff {c s:Nat}:fit1 c s=true↔c=42∨c=s:=by unfold fit1; simp
theorem fit1_trans {a b c:Nat} (h1:fit1 b a=true) (h2:fit1 c b=true):fit1 c a=true:=by
 rw [fit1_iff] at h1 h2 ⊢
 rcases h2 with h | h
 ·exact .inl h
 ·rcases h1 with h' | h'
  ·exact .inl (h.trans h')
  ·exact .inr (h.trans h')
theorem fitZ_trans:∀ {f g h:List Nat},f.length=g.length→g.length=h.length→fitZ g f=true→fitZ h g=true→fitZ h f=true
 | [],g,h,_,_,_,_=>by cases h <;> rfl
 | a::f,[],h,e,_,_,_=>by simp at e
 | a::f,b::g,[],_,e,_,_=>by simp at e
 | a::f,b::g,c::h,e1,e2,h1,h2=>by
  rw [fitZ,Bool.and_eq_true] at h1 h2 ⊢
  exact ⟨fit1_trans h1.1 h2.1,fitZ_trans (by simpa using e1) (by simpa using e2) h1.2 h2.2⟩
theorem fitB_trans {f g h:List Nat} (h1:fitB g f=true) (h2:fitB h g=true):fitB h f=true:=by
 unfold fitB at h1 h2 ⊢
 rw [Bool.and_eq_true,decide_eq_true_iff] at h1 h2 ⊢
 exact ⟨h2.1.trans h1.1,fitZ_trans h1.1.symm h2.1.symm h1.2 h2.2⟩
theorem both1_fit {a b c:Nat} (h:both1 a b=some c):fit1 a c=true∧fit1 b c=true:=by
 unfold both1 at h
 rw [fit1_iff,fit1_iff]
 split at h
 ·cases h; rename_i h; exact ⟨.inl h,.inr rfl⟩
 ·split at h
  ·cases h
   rename_i h
   exact ⟨.inr rfl,h⟩
  ·cases h
theorem bothO_fit:∀ {f g c:List Nat},f.length=g.length→bothO f g=some c→c.length=f.length∧fitZ f c=true∧fitZ g c=true
 | [],[],c,_,h=>by cases h; exact ⟨rfl,rfl,rfl⟩
 | [],b::g,c,e,_=>by simp at e
 | a::f,[],c,e,_=>by simp at e
 | a::f,b::g,c,e,h=>by
  rw [bothO] at h
  cases h1:both1 a b with
  | none=>rw [h1] at h; cases h
  | some x=>
   rw [h1] at h
   obtain ⟨y,hy,rfl⟩:=Option.map_eq_some_iff.mp h
   obtain ⟨i1,i2,i3⟩:=bothO_fit (by simpa using e) hy
   obtain ⟨j1,j2⟩:=both1_fit h1
   exact ⟨by simp [i1],by rw [fitZ,j1,i2]; rfl,by rw [fitZ,j2,i3]; rfl⟩
theorem okF_both:∀ {f g c:List Nat},(∀ x∈f,isF x)→(∀ x∈g,isF x)→bothO f g=some c→∀ x∈c,isF x
 | [],g,c,_,_,h=>by cases g <;> (cases h; intro x hx; cases hx)
 | a::f,[],c,_,_,h=>by cases h; intro x hx; cases hx
 | a::f,b::g,c,hf,hg,h=>by
  rw [bothO] at h
  cases h1:both1 a b with
  | none=>rw [h1] at h; cases h
  | some y=>
   rw [h1] at h
   obtain ⟨z,hz,rfl⟩:=Option.map_eq_some_iff.mp h
   intro x hx
   rcases List.mem_cons.mp hx with e | hx
   ·unfold both1 at h1
    split at h1
    ·cases h1; rw [e]; exact hg _ List.mem_cons_self
    ·split at h1
     ·cases h1; rw [e]; exact hf _ List.mem_cons_self
     ·cases h1
   ·exact okF_both (fun x hx=>hf x (List.mem_cons_of_mem _ hx)) (fun x hx=>hg x (List.mem_cons_of_mem _ hx)) hz x hx
theorem fitB_Z {f g:List Nat} (h:fitB f g=true):fitZ f g=true:=by unfold fitB at h; rw [Bool.and_eq_true] at h; exact h.2
theorem fitB_mk {f g:List Nat} (hl:f.length=g.length) (h:fitZ f g=true):fitB f g=true:=by rw [fitB_z hl]; exact h
def fLies:List D→Option D
 | [.str f,.str g]=>if decide (g.length≤100000) then some (.bl (fitB g f)) else none
 | _=>none
theorem w_lies_in (Φ:Funs) (h1:Φ "fits"=pureS fFits) (ds:List D) (G:DH) (d:D) (h:fLies ds=some d):wpSs Φ b_lies_in noE (env0 ds 0) G (ends fun d' G'=>G'=G∧d'=d):=by
 unfold fLies at h
 split at h
 ·rename_i f g
  split at h
  ·rename_i hl
   cases h
   simp_arith [b_lies_in,h1]
   exact pureS_t (d:=.bl (fitB g f)) (if_pos hl) ⟨rfl,rfl⟩
  ·cases h
 ·cases h
theorem lies_t {f g:List Nat} {G:DH} {k:D→DH→Prop} {E:EK} (h:g.length≤1000) (hk:k (.bl (fitB g f)) G):(pureS fLies).t [.str f,.str g] G k E:=pureS_t (if_pos (decide_eq_true (by omega))) hk
end RF
namespace RF
open PySem L2
def wordsR:List Nat→List (List Nat)
 | []=>[[]]
 | c::f=>(alt c).flatMap fun s=>(wordsR f).map (s::·)
theorem words_fold:∀ (f:List Nat) (acc:List (List Nat)),f.foldl step1 acc=acc.flatMap fun t=>(wordsR f).map (t ++ ·)
 | [],acc=>by simp [wordsR]
 | c::f,acc=>by
  rw [List.foldl_cons,words_fold f,step1,List.flatMap_assoc]
  congr 1
  funext t
  rw [wordsR,List.flatMap_map,List.map_flatMap]
  congr 1
  funext s
  rw [List.map_map]
  congr 1
  funext x
  simp
theorem wordsL_R (f:List Nat):wordsL f=wordsR f:=by
 unfold wordsL
 rw [words_fold]
 simp
theorem words_pow:∀ (b:List Nat),(wordsR b).length=2 ^ stc b
 | []=>rfl
 | c::b=>by
  have ih:=words_pow b
  rw [wordsR]
  unfold alt stc
  unfold stc at ih
  split
  ·rename_i h
   subst h
   simp [ih,Nat.pow_succ]
   omega
  ·rename_i h
   simp [ih,h]
end RF
namespace RF
open PySem L2
def formAt (rs:List Row) (i:Int):List Nat:=match rs[i.toNat]? with | some r=>r.1 | none=>[]
def isMet (rs:List Row) (b:List Nat):Option Int→Bool
 | none=>(touchN rs b).isNone
 | some i=>isPlace rs.length (.int i) && (fitB (formAt rs i) b && touchN rs b==some i.toNat)
def sIsMet:RF.Spec:=valS (fun a:List Row×List Nat×Option Int=>[.tup (a.1.map dRow),.str a.2.1,oI a.2.2]) (fun a=>∀ r∈a.1,r.1.length≤1000) (fun a=>.bl (isMet a.1 a.2.1 a.2.2))
theorem ismet_t {rs:List Row} {b:List Nat} {x:Option Int} {G:DH} {k:D→DH→Prop} {E:EK} (h:∀ r∈rs,r.1.length≤1000) (hk:k (.bl (isMet rs b x)) G):sIsMet.t [.tup (rs.map dRow),.str b,oI x] G k E:=valS_t (rs,b,x) rfl h hk
theorem place_at {rs:List Row} {i:Int} (h:isPlace rs.length (.int i)=true):∃ (n:Nat) (hn:n < rs.length),i=n∧rs[n]?=some rs[n]:=by
 unfold isPlace at h
 rw [Bool.and_eq_true] at h
 have p1:=of_decide_eq_true h.1
 have p2:=of_decide_eq_true h.2
 exact ⟨i.toNat,by omega,by omega,List.getElem?_eq_getElem _⟩
theorem w_is_met (Φ:Funs) (h1:Φ "first_touching"=sTouch) (h2:Φ "is_place"=pureS fPlace) (h3:Φ "lies_in"=pureS fLies) (a:List Row×List Nat×Option Int) (G:DH) (h:∀ r∈a.1,r.1.length≤1000):
  wpSs Φ b_is_met noE (env0 [.tup (a.1.map dRow),.str a.2.1,oI a.2.2] 0) G (ends fun d G'=>G'=G∧d=.bl (isMet a.1 a.2.1 a.2.2)):=by
 obtain ⟨rs,b,x⟩:=a
 dsimp only at h ⊢
 simp_all_arith [b_is_met]
 refine seq fun M hM=>?_
 cases x with
 | none=>
  simp_arith [oI,h1]
  refine touch_t h ?_
  cases ht:touchN rs b with
  | none=>simp_arith [optD,isMet,ht,Option.isNone_none,and_self]
  | some n=>simp_arith [optD,isMet,ht,Option.isNone_some,and_self]
 | some i=>
  simp_arith [oI]
  refine hM _ _ (seq fun M hM=>?_)
  simp_arith [h2,List.length_map]
  refine pureS_t (d:=.bl (isPlace rs.length (.int i))) rfl ?_
  cases hp:isPlace rs.length (.int i) with
  | false=>simp_arith [isMet,hp,Bool.false_and,and_self]
  | true=>
   obtain ⟨n,hn,rfl,hc⟩:=place_at hp
   have hf:formAt rs (n:Int)=rs[n].1:=by unfold formAt; rw [Int.toNat_natCast,hc]
   have hat:atI (rs.map dRow) (n:Int)=some (dRow rs[n]):=atI_nat (by rw [List.getElem?_map,hc]; rfl)
   simp_arith [ends]
   refine optK_of hat ?_
   simp_arith [dRow,h3]
   refine lies_t (h _ (List.getElem_mem _)) ?_
   cases hfb:fitB rs[n].1 b with
   | false=>simp_arith [isMet,hf,hfb,hp,Bool.false_and,Bool.and_false,and_self]
   | true=>
    simp_arith [ends]
    refine hM _ _ ?_
    simp_arith [h1]
    refine touch_t h ?_
    cases ht:touchN rs b with
    | none=>simp_arith [optD,isMet,hf,hfb,hp,ht,Bool.true_and,and_true]; rfl
    | some m=>
     have e:(((m:Int)==(n:Int)):Bool)=(some m==some (n:Int).toNat):=by rw [Int.toNat_natCast,Bool.eq_iff_iff]; simp; omega
     simp_arith [optD,isMet,hf,hfb,hp,ht,Bool.true_and,e,and_self]
theorem stars_t {w:Nat} {G:DH} {k:D→DH→Prop} {E:EK} (h:w≤1000) (hk:k (.str (List.replicate w 42)) G):(pureS fStars).t [.int w] G k E:=
 pureS_t (d:=.str (List.replicate w 42)) (by unfold fStars; dsimp only; rw [if_pos (by simp only [Bool.and_eq_true,decide_eq_true_iff]; omega),Int.toNat_natCast]) hk
theorem all_id {α:Type} (f:α→Bool) (l:List α):(l.map f).all id=l.all f:=by induction l with | nil=>rfl | cons a l ih=>simp [ih]
end RF
namespace RF
open PySem L2
def lst0 (l:List Nat):List Nat:=l.map fun a=>if a=42 then 48 else a
theorem cons_fits {a s:Nat} {f l:List Nat} (h1:s∈alt a) (h2:Fits f l):Fits (a::f) (s::l):=⟨by simp [h2.1],fun i c t hc ht=>by
 cases i with
 | zero=>simp at hc ht; rw [← hc,← ht]; exact h1
 | succ i=>exact h2.2 i c t (by simpa using hc) (by simpa using ht)⟩
theorem lst0_fits:∀ c:List Nat,Fits c (lst0 c)
 | []=>⟨rfl,fun i c s h=>by simp at h⟩
 | a::c=>by
  show Fits (a::c) ((if a=42 then 48 else a)::lst0 c)
  refine cons_fits ?_ (lst0_fits c)
  unfold alt
  split <;> simp
end RF
namespace RF
open PySem L2
theorem nrs_dRow (rs:List Row):nrs (rs.map dRow)=true:=by
 induction rs with
 | nil=>rfl
 | cons r rs ih=>rw [List.map_cons,nrs,ih]; rfl
def okRs (w:Nat) (rs:List Row):Prop:=∀ r∈rs,okF w r.1∧okD r.2
theorem okRs.ins {w n:Nat} {rs:List Row} {r:Row} (h:okRs w rs) (h1:okF w r.1) (h2:okD r.2):okRs w (rs.take n ++ r::rs.drop n):=by
 intro x hx
 rcases List.mem_append.mp hx with hx | hx
 ·exact h x (List.mem_of_mem_take hx)
 ·rcases List.mem_cons.mp hx with e | hx
  ·rw [e]; exact ⟨h1,h2⟩
  ·exact h x (List.mem_of_mem_drop hx)
theorem ins_len {rs:List Row} {n:Nat} {r:Row}:(rs.take n ++ r::rs.drop n).length=rs.length + 1:=by rw [List.length_append,List.length_cons,List.length_take,List.length_drop]; omega
end RF
namespace RF
open PySem L2
def sameT:List Nat:=[115,97,109,101]
def sTwo:RF.Spec:=valS (fun a:Nat×List Row×List Row=>[dBook a.1 a.2.1,dBook a.1 a.2.2]) (fun a=>okB a.1 a.2.1∧okB a.1 a.2.2) (fun _=>.non)
theorem two_t {w:Nat} {rs ss:List Row} {G:DH} {k:D→DH→Prop} {E:EK} (h:okB w rs) (h':okB w ss) (hk:k .non G):sTwo.t [dBook w rs,dBook w ss] G k E:=valS_t (w,rs,ss) rfl ⟨h,h'⟩ hk
theorem w_need_two_books (Φ:Funs) (h1:Φ "need_book"=sNeed) (a:Nat×List Row×List Row) (G:DH) (h:okB a.1 a.2.1∧okB a.1 a.2.2):wpSs Φ b_need_two_books noE (env0 [dBook a.1 a.2.1,dBook a.1 a.2.2] 0) G (ends fun d G'=>G'=G∧d=.non):=by
 obtain ⟨w,rs,ss⟩:=a
 obtain ⟨hb,hc⟩:=h
 dsimp only at hb hc ⊢
 simp_all_arith [b_need_two_books]
 refine seq fun M hM=>?_
 simp_arith [h1]
 refine need_t hb (hM _ _ (seq fun M hM=>?_))
 simp_arith [h1]
 refine need_t hc (hM _ _ (last ?_))
 simp_arith [dBook,BEq.rfl,and_self]
def deedO (rs:List Row) (o:Option Nat):Option (List Nat):=o.bind fun n=>rs[n]?.map (·.2)
theorem deedN_O {rs:List Row} {o:Option Nat}:deedN rs o=optS (deedO rs o):=by
 cases o with
 | none=>rfl
 | some n=>
  unfold deedN deedO
  dsimp only [Option.bind]
  cases rs[n]? <;> rfl
structure SD where
 w:Nat
 rs:List Row
 ss:List Row
 name:List Nat
 o:Option Nat
 p:Option Nat
def sSD:RF.Spec:=valS (fun a:SD=>[dBook a.w a.rs,dBook a.w a.ss,.tup [.str a.name,optD a.o,optD a.p]]) (fun a=>(∀ n,a.o=some n→n < a.rs.length)∧∀ n,a.p=some n→n < a.ss.length) (fun a=>.bl (deedO a.rs a.o==deedO a.ss a.p))
theorem sd_t {w:Nat} {rs ss:List Row} {name:List Nat} {o p:Option Nat} {G:DH} {k:D→DH→Prop} {E:EK} (h1:∀ n,o=some n→n < rs.length) (h2:∀ n,p=some n→n < ss.length) (hk:k (.bl (deedO rs o==deedO ss p)) G):sSD.t [dBook w rs,dBook w ss,.tup [.str name,optD o,optD p]] G k E:=valS_t ⟨w,rs,ss,name,o,p⟩ rfl ⟨h1,h2⟩ hk
theorem w_same_deeds (Φ:Funs) (h1:Φ "deed_of"=sDeedOf) (a:SD) (G:DH) (h:(∀ n,a.o=some n→n < a.rs.length)∧∀ n,a.p=some n→n < a.ss.length):wpSs Φ b_same_deeds noE (env0 [dBook a.w a.rs,dBook a.w a.ss,.tup [.str a.name,optD a.o,optD a.p]] 0) G (ends fun d G'=>G'=G∧d=.bl (deedO a.rs a.o==deedO a.ss a.p)):=by
 obtain ⟨w,rs,ss,name,o,p⟩:=a
 obtain ⟨ho,hp⟩:=h
 dsimp only at ho hp ⊢
 simp_arith [b_same_deeds,h1]
 refine deedOf_t ho (deedOf_t hp ?_)
 rw [deedN_O,deedN_O]
 cases deedO rs o <;> cases deedO ss p <;> simp_arith [optS] <;> first | done | (simp; done) | (refine ⟨by decide,?_⟩; simp; done)
end RF
namespace RF
open PySem L2
def T.bxs:T→List Nat→List (Option (List Nat×List (Option Int)))
 | .lf r,b=>[some (b,r)]
 | .sp i z o,b=>match starAt b i with
  | true=>z.bxs (b.set i.toNat 48) ++ o.bxs (b.set i.toNat 49)
  | false=>[none]
def bxD (name:List Nat):Option (List Nat×List (Option Int))→D
 | none=>.non
 | some x=>leafT name x
theorem T.bxs_len:∀ (t:T) {b:List Nat},(t.bxs b).length≤2 ^ t.dep
 | .lf r,b=>Nat.one_le_two_pow
 | .sp i z o,b=>by
  rw [T.bxs]
  split
  ·have e1:=z.bxs_len (b:=b.set i.toNat 48)
   have e2:=o.bxs_len (b:=b.set i.toNat 49)
   have e3:=Nat.pow_le_pow_right (show 0 < 2 by decide) (Nat.le_max_left z.dep o.dep)
   have e4:=Nat.pow_le_pow_right (show 0 < 2 by decide) (Nat.le_max_right z.dep o.dep)
   rw [List.length_append,T.dep,Nat.pow_succ]
   omega
  ·exact Nat.one_le_two_pow
theorem T.bxs_len' {n:Nat} {t:T} {b:List Nat} (hn:t.dep < n) (hn':n≤12):(t.bxs b).length≤4096:=by
 have h1:=t.bxs_len (b:=b)
 have h3:=Nat.pow_le_pow_right (show 0 < 2 by decide) (show t.dep≤12 by omega)
 have h4:2 ^ 12=4096:=by decide
 omega
def sBxs (n:Nat):RF.Spec:=valS (fun a:TA=>[.str a.b,a.t.d a.name]) (okTA n) (fun a=>.lst ((a.t.bxs a.b).map (bxD a.name)))
theorem bxs_t {n:Nat} {name b:List Nat} {t:T} {G:DH} {k:D→DH→Prop} {E:EK} (h1:name≠splitT) (h2:b.length≤12) (h3:t.dep < n) (h4:n≤12) (hk:k (.lst ((t.bxs b).map (bxD name))) G):(sBxs n).t [.str b,t.d name] G k E:=valS_t ⟨name,b,t⟩ rfl ⟨h1,h2,h3,h4⟩ hk
theorem bxs_zero (ds:List D) (G:DH) (a:(sBxs 0).A):¬ (sBxs 0).pre ds G a:=fun ⟨_,_,_,_,h,_⟩=>by omega
theorem w_law_boxes2 (Φ:Funs) (n:Nat) (h0:Φ "_law_boxes"=sBxs n) (a:TA) (G:DH) (h:okTA (n + 1) a):wpSs Φ b_law_boxes noE (env0 [.str a.b,a.t.d a.name] 2) G (ends fun d G'=>G'=G∧d=.lst ((a.t.bxs a.b).map (bxD a.name))):=by
 obtain ⟨name,b,t⟩:=a
 obtain ⟨hne,hbl,hd,hn⟩:=h
 dsimp only at hne hbl hd ⊢
 have hnb:((name==splitT):Bool)=false:=by simp [hne]
 cases t with
 | lf r=>
  simp_all_arith [b_law_boxes]
  refine seq fun M hM=>?_
  unfold splitT at hnb
  simp_arith [T.d,hnb,T.bxs,List.map_cons,List.map_nil,bxD,leafT]
  exact ⟨by decide,by decide⟩
 | sp i z o=>
  rw [T.dep] at hd
  simp_all_arith [b_law_boxes]
  refine seq fun M hM=>?_
  simp_arith [T.d,splitT,BEq.rfl]
  refine hM _ _ (seq fun M hM=>?_)
  simp_arith [ends]
  refine hM _ _ (seq fun M hM=>?_)
  cases hst:starAt b i with
  | false=>
   have hl:(T.sp i z o).bxs b=[none]:=by rw [T.bxs,hst]
   rw [hl]
   simp_arith [List.map_cons,List.map_nil,bxD]
   cases d1:decide (i < 0) with
   | true=>simp_arith [and_true]; decide
   | false=>
    cases d2:decide ((b.length:Int)≤i) with
    | true=>simp_arith [d2,and_true]; decide
    | false=>
     have p1:=of_decide_eq_false d1
     have p2:=of_decide_eq_false d2
     obtain ⟨m,rfl⟩:∃ m:Nat,i=m:=⟨i.toNat,by omega⟩
     have hm:m < b.length:=by omega
     have hc:b[m]?=some b[m]:=List.getElem?_eq_getElem hm
     have hne42:((b[m]==42):Bool)=false:=by
      unfold starAt at hst
      rw [decide_eq_true (by omega),Bool.true_and,Int.toNat_natCast,hc] at hst
      simpa using hst
     simp_arith [d2]
     refine optK_of (a:=b[m]) (atI_nat hc) ?_
     simp_arith [sg_eq,hne42,and_true]
     decide
  | true=>
   obtain ⟨_,m,rfl,hm,hc⟩:=star_at hst
   have hl:(T.sp (m:Int) z o).bxs b=z.bxs (b.set m 48) ++ o.bxs (b.set m 49):=by rw [T.bxs,hst,Int.toNat_natCast]
   have d1:decide ((m:Int) < 0)=false:=decide_eq_false (by omega)
   have d2:decide ((b.length:Int)≤(m:Int))=false:=decide_eq_false (by omega)
   simp_arith [d1,d2]
   refine optK_of (a:=42) (atI_nat hc) ?_
   simp_arith [BEq.rfl]
   refine hM _ _ (seq fun M hM=>?_)
   simp_arith [h0,cut_take,cut_drop1,List.length_append,List.length_take,List.length_drop,put_set hm]
   refine ⟨by have hsz:sz=1000000:=rfl; omega,by have hsz:sz=1000000:=rfl; omega,bxs_t hne (by rw [List.length_set]; exact hbl) (by omega) (by omega) (hM _ _ (last ?_))⟩
   simp_arith [h0,cut_take,cut_drop1,List.length_append,List.length_take,List.length_drop,put_set hm]
   refine ⟨by have hsz:sz=1000000:=rfl; omega,by have hsz:sz=1000000:=rfl; omega,bxs_t hne (by rw [List.length_set]; exact hbl) (by omega) (by omega) ?_⟩
   have q1:=T.bxs_len' (n:=n) (t:=z) (b:=b.set m 48) (by omega) (by omega)
   have q2:=T.bxs_len' (n:=n) (t:=o) (b:=b.set m 49) (by omega) (by omega)
   simp_arith [List.length_map,hl,List.map_append]
   have hsz:sz=1000000:=rfl; omega
def metI (rs:List Row) (l:List Nat):Option Int:=(metN rs l).map fun n:Nat=>(n:Int)
theorem optD_metI {rs:List Row} {l:List Nat}:optD (metN rs l)=oI (metI rs l):=by unfold metI; cases metN rs l <;> rfl
def allM (rs:List Row) (b:List Nat) (x:Option Int):Bool:=(wordsL b).all fun l=>metI rs l==x
def sAllM:RF.Spec:=ghS (A:=Nat×List Row×List Nat×Option Int) (fun a ds _=>ds=[dBook a.1 a.2.1,.str a.2.2.1,oI a.2.2.2]∧a.2.2.1.length≤12∧∀ r∈a.2.1,r.1.length=a.2.2.1.length) (fun a G d G'=>Sa G G'∧d=.bl (allM a.2.1 a.2.2.1 a.2.2.2))
theorem allm_t {w:Nat} {rs:List Row} {b:List Nat} {x:Option Int} {G:DH} {k:D→DH→Prop} {E:EK} (h1:b.length≤12) (h2:∀ r∈rs,r.1.length=b.length) (hk:∀ G',Sa G G'→k (.bl (allM rs b x)) G'):sAllM.t [dBook w rs,.str b,oI x] G k E:=
 ghS_t (w,rs,b,x) ⟨rfl,h1,h2⟩ fun d G' hx=>by obtain ⟨e1,e2⟩:=hx; subst e2; exact hk G' e1
theorem deq_oI (a b:Option Int):deq (oI a) (oI b)=(a==b):=by
 cases a <;> cases b <;> simp only [oI,dq_nn,dq_ni,dq_in,dq_ii] <;> rfl
theorem nr_oI (a:Option Int):nr (oI a)=true:=by cases a <;> rfl
theorem dpt_oI (a:Option Int):dpt (oI a)=0:=by cases a <;> rfl
theorem w_law_all_meet2 (Φ:Funs) (h1:Φ "_law_words"=sWords) (h2:Φ "_law_met"=sLMet) (a:Nat×List Row×List Nat×Option Int) (ds:List D) (G:DH) (h:ds=[dBook a.1 a.2.1,.str a.2.2.1,oI a.2.2.2]∧a.2.2.1.length≤12∧∀ r∈a.2.1,r.1.length=a.2.2.1.length):
  wpSs Φ b_law_all_meet noE (env0 ds 1) G (ends fun d G'=>Sa G G'∧d=.bl (allM a.2.1 a.2.2.1 a.2.2.2)):=by
 obtain ⟨w,rs,b,x⟩:=a
 obtain ⟨rfl,hb,hf⟩:=h
 dsimp only at hb hf ⊢
 simp_all_arith [b_law_all_meet]
 refine seq fun M hM=>?_
 simp_arith! [h1]
 refine words_t hb fun G1 sa=>?_
 simp_arith! [ends]
 refine ForG.inv (P:=fun i ρ G'=>(∃ o3,ρ=[some (dBook w rs),some (.str b),some (oI x),o3])∧Sa G G'∧((wordsL b).take i).all (fun l=>metI rs l==x)=true) ⟨⟨_,rfl⟩,sa,rfl⟩ (fun _ _ _ _=>trivial) ?_ ?_
 ·rintro i d ρ G' hd ⟨⟨o3,rfl⟩,sa',hall⟩ kk hk
  rw [List.getElem?_map] at hd
  obtain ⟨l,hl,rfl⟩:=Option.map_eq_some_iff.mp hd
  have hl':=List.mem_of_getElem? hl
  simp_arith! [ends]
  refine last ?_
  simp_arith [h2]
  refine lmet_t (fun r hr=>by rw [hf r hr,words_len hl']) ?_
  rw [optD_metI]
  have v:∀ a,view G' (oI a)=oI a:=fun a=>view_nr (nr_oI a)
  simp_arith [v,deq_oI,nr_oI,dpt_oI]
  cases hm:(metI rs l==x) with
  | true=>
   simp_arith [ends]
   exact hk _ _ ⟨⟨_,rfl⟩,sa',by rw [List.take_add_one,hl,List.all_append,hall]; simp [hm]⟩
  | false=>
   simp_arith [ends]
   refine ⟨sa',?_⟩
   unfold allM
   rw [List.all_eq_false.mpr ⟨l,hl',by rw [hm]; decide⟩]
 ·rintro ρ G' ⟨⟨o3,rfl⟩,sa',hall⟩
  rw [List.length_map,List.take_length] at hall
  refine hM _ _ ?_
  simp_arith [ends]
  exact ⟨sa',by unfold allM; rw [hall]⟩
theorem T.bxs_box:∀ (t:T) {b:List Nat},∀ x,some x∈t.bxs b→x.1.length=b.length
 | .lf r,b,x,h=>by rw [T.bxs] at h; have:=List.mem_singleton.mp h; cases this; rfl
 | .sp i z o,b,x,h=>by
  rw [T.bxs] at h
  split at h
  ·rcases List.mem_append.mp h with h | h
   ·have:=z.bxs_box x h; rw [List.length_set] at this; exact this
   ·have:=o.bxs_box x h; rw [List.length_set] at this; exact this
  ·have:=List.mem_singleton.mp h; cases this
theorem fits_iff {c l:List Nat} (h:c.length=l.length) (hl:∀ s∈l,s=48∨s=49):Fits c l↔fitZ c l=true:=by
 rw [fitZ_iff h hl]
 exact ⟨fun q=>q.2,fun q=>⟨h,q⟩⟩
theorem lst0_fitZ:∀ c:List Nat,fitZ c (lst0 c)=true
 | []=>rfl
 | a::c=>by
  show (fit1 a (if a=42 then 48 else a) && fitZ c (lst0 c))=true
  rw [lst0_fitZ c,Bool.and_true,fit1_iff]
  split
  ·exact .inl (by assumption)
  ·exact .inr rfl
theorem lst0_sign {c:List Nat} (h:∀ x∈c,isF x):∀ s∈lst0 c,s=48∨s=49:=by
 intro s hs
 obtain ⟨a,ha,rfl⟩:=List.mem_map.mp hs
 rcases h a ha with e | e | e <;> simp [e]
theorem lst0_len (c:List Nat):(lst0 c).length=c.length:=List.length_map _
theorem both_word {w:Nat} {f c d:List Nat} (hf:okF w f) (hc:okF w c) (h:bothO f c=some d):∃ l,Fits c l∧fitB f l=true:=by
 have hl:f.length=c.length:=by rw [hf.1,hc.1]
 obtain ⟨d1,d2,d3⟩:=bothO_fit hl h
 have dF:=okF_both hf.2 hc.2 h
 refine ⟨lst0 d,(fits_iff (by rw [lst0_len,d1,hl]) (lst0_sign dF)).mpr (fitZ_trans (by rw [lst0_len]) (by rw [d1,hl]) (lst0_fitZ d) d3),?_⟩
 unfold fitB
 rw [decide_eq_true (by rw [lst0_len,d1]),fitZ_trans (by rw [lst0_len]) d1 (lst0_fitZ d) d2]; rfl
theorem all_fit:∀ {f c:List Nat},f.length=c.length→(∀ x∈c,isF x)→(∀ l,Fits c l→fitZ f l=true)→fitZ f c=true
 | [],[],_,_,_=>rfl
 | [],_::_,h,_,_=>by simp at h
 | _::_,[],h,_,_=>by simp at h
 | a::f,b::c,hl,hF,h=>by
  have hF':∀ x∈c,isF x:=fun x hx=>hF x (List.mem_cons_of_mem _ hx)
  have tl:∀ s,s∈alt b→∀ l,Fits c l→fit1 a s=true∧fitZ f l=true:=fun s hs l hl'=>by
   have:=h (s::l) (cons_fits hs hl')
   rw [fitZ,Bool.and_eq_true] at this
   exact this
  obtain ⟨s0,hs0⟩:∃ s,s∈alt b:=by unfold alt; split <;> exact ⟨_,List.mem_cons_self⟩
  rw [fitZ,Bool.and_eq_true]
  refine ⟨?_,all_fit (by simpa using hl) hF' fun l hl'=>(tl s0 hs0 l hl').2⟩
  have l0:=lst0_fits c
  by_cases hb:b=42
  ·subst hb
   have e1:=fit1_iff.mp (tl 48 (by simp [alt]) _ l0).1
   have e2:=fit1_iff.mp (tl 49 (by simp [alt]) _ l0).1
   rw [fit1_iff]
   omega
  ·exact (tl b (by simp [alt,hb]) _ l0).1
theorem isMet_all {w:Nat} {rs:List Row} {c:List Nat} {x:Option Int} (hr:∀ r∈rs,okF w r.1) (hc:okF w c):isMet rs c x=allM rs c x:=by
 have hlen:∀ r∈rs,r.1.length=c.length:=fun r h=>by rw [(hr r h).1,hc.1]
 have no:∀ r∈rs,(bothO r.1 c).isSome=false→∀ l,Fits c l→fitB r.1 l=false:=by
  intro r hr' h l hl
  cases e:fitB r.1 l with
  | false=>rfl
  | true=>exact (both_none_fit (by simpa using h) (fits_signs hc hl) hl (fitB_Z e)).elim
 have yes:∀ r∈rs,(bothO r.1 c).isSome=true→∃ l,Fits c l∧fitB r.1 l=true:=by
  intro r hr' h
  obtain ⟨d,hd⟩:=Option.isSome_iff_exists.mp h
  exact both_word (hr r hr') hc hd
 have all:allM rs c x=true↔∀ l,Fits c l→metI rs l=x:=by
  unfold allM
  rw [List.all_eq_true]
  exact ⟨fun h l hl=>by simpa using h l (mem_words.mpr hl),fun h l hl=>by simpa using h l (mem_words.mp hl)⟩
 rw [Bool.eq_iff_iff,all]
 cases x with
 | none=>
  show (touchN rs c).isNone=true↔_
  constructor
  ·intro h l hl
   have h:touchN rs c=none:=by simpa using h
   unfold touchN at h
   rw [List.findIdx?_eq_none_iff] at h
   have:metN rs l=none:=by
    unfold metN
    rw [List.findIdx?_eq_none_iff]
    exact fun r hr'=>no r hr' (by simpa using h r hr') l hl
   unfold metI; rw [this]; rfl
  ·intro h
   cases ht:touchN rs c with
   | none=>rfl
   | some n=>
    exfalso
    obtain ⟨hn,t1,_⟩:=List.findIdx?_eq_some_iff_getElem.mp ht
    obtain ⟨l,hl,hf⟩:=yes rs[n] (List.getElem_mem hn) t1
    have:=h l hl
    unfold metI at this
    have hm:metN rs l=none:=Option.map_eq_none_iff.mp this
    unfold metN at hm
    rw [List.findIdx?_eq_none_iff] at hm
    have:=hm rs[n] (List.getElem_mem hn)
    rw [hf] at this; cases this
 | some i=>
  show (isPlace rs.length (.int i) && (fitB (formAt rs i) c && touchN rs c==some i.toNat))=true↔_
  constructor
  ·intro h l hl
   rw [Bool.and_eq_true,Bool.and_eq_true] at h
   obtain ⟨hp,hf,ht⟩:=h
   obtain ⟨n,hn,rfl,hcn⟩:=place_at hp
   have ht:touchN rs c=some n:=by simpa using ht
   have hfa:formAt rs (n:Int)=rs[n].1:=by unfold formAt; rw [Int.toNat_natCast,hcn]
   rw [hfa] at hf
   obtain ⟨_,_,t2⟩:=List.findIdx?_eq_some_iff_getElem.mp ht
   have hm:metN rs l=some n:=by
    unfold metN
    rw [List.findIdx?_eq_some_iff_getElem]
    refine ⟨hn,?_,fun j hj=>?_⟩
    ·exact fitB_trans (fitB_mk hl.1 ((fits_iff hl.1 (fits_signs hc hl)).mp hl)) hf
    ·have:=no rs[j] (List.getElem_mem _) (by simpa using t2 j hj) l hl
     simp [this]
   unfold metI; rw [hm]; rfl
  ·intro h
   have h0:=h _ (lst0_fits c)
   unfold metI at h0
   obtain ⟨n,hm0,rfl⟩:=Option.map_eq_some_iff.mp h0
   have hall:∀ l,Fits c l→metN rs l=some n:=fun l hl=>by
    have:=h l hl
    unfold metI at this
    obtain ⟨n',e1,e2⟩:=Option.map_eq_some_iff.mp this
    rw [e1]; congr 1; omega
   obtain ⟨hn,t1,_⟩:=List.findIdx?_eq_some_iff_getElem.mp hm0
   have hcn:rs[n]?=some rs[n]:=List.getElem?_eq_getElem hn
   have hfa:formAt rs (n:Int)=rs[n].1:=by unfold formAt; rw [Int.toNat_natCast,hcn]
   have hp:isPlace rs.length (.int (n:Int))=true:=by
    show (decide (0≤(n:Int)) && decide ((n:Int) < rs.length))=true
    rw [decide_eq_true (by omega),decide_eq_true (by omega)]; rfl
   have hfc:fitB rs[n].1 c=true:=by
    refine fitB_mk (hlen _ (List.getElem_mem hn)) (all_fit (hlen _ (List.getElem_mem hn)) hc.2 fun l hl=>?_)
    obtain ⟨_,q,_⟩:=List.findIdx?_eq_some_iff_getElem.mp (hall l hl)
    exact fitB_Z q
   have ht:touchN rs c=some n:=by
    unfold touchN
    rw [List.findIdx?_eq_some_iff_getElem]
    refine ⟨hn,?_,fun j hj=>?_⟩
    ·cases hb:(bothO rs[n].1 c).isSome with
     | true=>rfl
     | false=>
      have:=no rs[n] (List.getElem_mem hn) hb _ (lst0_fits c)
      rw [t1] at this; cases this
    ·cases hb:(bothO rs[j].1 c).isSome with
     | false=>simp
     | true=>
      exfalso
      obtain ⟨l,hl,hf⟩:=yes rs[j] (List.getElem_mem _) hb
      obtain ⟨_,_,q⟩:=List.findIdx?_eq_some_iff_getElem.mp (hall l hl)
      have:=q j hj
      rw [hf] at this; simp at this
   rw [hp,hfa,hfc,ht]
   simp
theorem T.lvs_bxs:∀ (t:T) {b:List Nat},(∀ l,t.lvs b=some l→t.bxs b=l.map some)∧(t.lvs b=none→none∈t.bxs b)
 | .lf r,b=>⟨fun l h=>by cases h; rfl,fun h=>by cases h⟩
 | .sp i z o,b=>by
  rw [T.lvs,T.bxs]
  cases starAt b i with
  | false=>exact ⟨fun l h=>(by cases h),fun _=>by simp⟩
  | true=>
   obtain ⟨z1,z2⟩:=z.lvs_bxs (b:=b.set i.toNat 48)
   obtain ⟨o1,o2⟩:=o.lvs_bxs (b:=b.set i.toNat 49)
   dsimp only
   cases hz:z.lvs (b.set i.toNat 48) with
   | none=>exact ⟨fun l h=>(by cases h),fun _=>List.mem_append.mpr (.inl (z2 hz))⟩
   | some l1=>
    cases ho:o.lvs (b.set i.toNat 49) with
    | none=>exact ⟨fun l h=>(by cases h),fun _=>List.mem_append.mpr (.inr (o2 ho))⟩
    | some l2=>exact ⟨fun l h=>by cases h; rw [z1 _ hz,o1 _ ho,List.map_append],fun h=>(by cases h)⟩
end RF
namespace RF
open PySem L2
def natO (x:Option Int):Option Nat:=x.map Int.toNat
def isSm (rs ss:List Row) (b:List Nat):List (Option Int)→Bool
 | [x,y]=>isMet rs b x && (isMet ss b y && (deedO rs (natO x)==deedO ss (natO y)))
 | _=>false
theorem isMet_nat {rs:List Row} {b:List Nat} {x:Option Int} (h:isMet rs b x=true):oI x=optD (natO x)∧∀ n,natO x=some n→n < rs.length:=by
 cases x with
 | none=>exact ⟨rfl,fun n h=>by cases h⟩
 | some i=>
  unfold isMet at h
  rw [Bool.and_eq_true] at h
  obtain ⟨n,hn,rfl,_⟩:=place_at h.1
  exact ⟨rfl,fun m hm=>by
   have:n=m:=by simpa [natO] using hm
   omega⟩
structure SA where
 w:Nat
 rs:List Row
 ss:List Row
 b:List Nat
 r:List (Option Int)
def sIsSame:RF.Spec:=valS (fun a:SA=>[dBook a.w a.rs,dBook a.w a.ss,.str a.b,.tup (.str sameT::a.r.map oI)]) (fun a=>okB a.w a.rs∧okB a.w a.ss) (fun a=>.bl (isSm a.rs a.ss a.b a.r))
theorem issame_t {w:Nat} {rs ss:List Row} {b:List Nat} {r:List (Option Int)} {G:DH} {k:D→DH→Prop} {E:EK} (h:okB w rs) (h':okB w ss) (hk:k (.bl (isSm rs ss b r)) G):sIsSame.t [dBook w rs,dBook w ss,.str b,.tup (.str sameT::r.map oI)] G k E:=valS_t ⟨w,rs,ss,b,r⟩ rfl ⟨h,h'⟩ hk
theorem named_f2 {name s:List Nat} {m:Int} {r:List D} {G:DH} {k:D→DH→Prop} {E:EK} (h:(r.length:Int)≠m) (hk:k (.bl false) G):(pureS fNamed).t [.str name,.int m,.tup (.str s::r)] G k E:=
 pureS_t (by unfold fNamed; dsimp only; rw [beq_eq_false_iff_ne.mpr (by omega),Bool.false_and]) hk
theorem w_is_same (Φ:Funs) (h1:Φ "is_named"=pureS fNamed) (h2:Φ "is_met"=sIsMet) (h3:Φ "same_deeds"=sSD) (a:SA) (G:DH) (h:okB a.w a.rs∧okB a.w a.ss):
  wpSs Φ b_is_same noE (env0 [dBook a.w a.rs,dBook a.w a.ss,.str a.b,.tup (.str sameT::a.r.map oI)] 0) G (ends fun d G'=>G'=G∧d=.bl (isSm a.rs a.ss a.b a.r)):=by
 obtain ⟨w,rs,ss,b,r⟩:=a
 obtain ⟨hb,hb'⟩:=h
 dsimp only at hb hb' ⊢
 have hw6:=hb.w6
 have hrl:∀ r∈rs,r.1.length≤1000:=fun r hr=>by rw [(hb.form r hr).1]; omega
 have hsl:∀ r∈ss,r.1.length≤1000:=fun r hr=>by rw [(hb'.form r hr).1]; omega
 have e0:∀ xs:List Row,D.tup [.int w,.tup (xs.map dRow)]=dBook w xs:=fun _=>rfl
 simp_all_arith [b_is_same]
 refine seq fun M hM=>?_
 rcases r with _ | ⟨x,_ | ⟨y,_ | ⟨z,r⟩⟩⟩
 ·simp_arith [h1,List.map_nil]
  refine named_f2 (by decide) ?_
  simp_arith [isSm,and_self]
 ·simp_arith [h1,List.map_nil,List.map_cons]
  refine named_f2 (by simp) ?_
  simp_arith [isSm,and_self]
 ·simp_arith [h1,List.map_nil,List.map_cons]
  refine named_yes rfl ?_
  simp_arith [ends]
  refine hM _ _ (seq fun M hM=>?_)
  simp_arith [h2,dBook]
  refine ismet_t hrl ?_
  cases hx:isMet rs b x with
  | false=>simp_arith [isSm,hx,Bool.false_and,and_self]
  | true=>
   simp_arith [ends]
   refine ismet_t hsl ?_
   cases hy:isMet ss b y with
   | false=>simp_arith [isSm,hx,hy,Bool.false_and,Bool.and_false,and_self]
   | true=>
    obtain ⟨ex,lx⟩:=isMet_nat hx
    obtain ⟨ey,ly⟩:=isMet_nat hy
    simp_arith [ends]
    refine hM _ _ (last ?_)
    simp_arith [h3,ex,ey]
    rw [e0,e0]
    refine sd_t lx ly ?_
    simp only [isSm,hx,hy,Bool.true_and,and_self]
 ·simp_arith [h1,List.map_cons]
  refine named_f2 (by simp only [List.length_cons]; omega) ?_
  simp_arith [isSm,and_self]
def alkB (rs ss:List Row) (o:Option (List (List Nat×List (Option Int)))):Bool:=match o with
 | none=>false
 | some l=>l.all fun x=>isSm rs ss x.1 x.2
def sIsAlike:RF.Spec:=valS (fun a:Nat×List Row×List Row×T=>[dBook a.1 a.2.1,dBook a.1 a.2.2.1,a.2.2.2.d sameT]) (fun a=>okB a.1 a.2.1∧okB a.1 a.2.2.1∧a.2.2.2.dep < 9) (fun a=>.bl (alkB a.2.1 a.2.2.1 (a.2.2.2.lvs (List.replicate a.1 42))))
theorem isalike_t {w:Nat} {rs ss:List Row} {t:T} {G:DH} {k:D→DH→Prop} {E:EK} (h1:okB w rs) (h2:okB w ss) (h3:t.dep < 9) (hk:k (.bl (alkB rs ss (t.lvs (List.replicate w 42)))) G):sIsAlike.t [dBook w rs,dBook w ss,t.d sameT] G k E:=valS_t (w,rs,ss,t) rfl ⟨h1,h2,h3⟩ hk
theorem w_is_alike (Φ:Funs) (h1:Φ "need_two_books"=sTwo) (h2:Φ "leaves"=sLvs 9) (h3:Φ "stars"=pureS fStars) (h4:Φ "is_same"=sIsSame) (a:Nat×List Row×List Row×T) (G:DH) (h:okB a.1 a.2.1∧okB a.1 a.2.2.1∧a.2.2.2.dep < 9):
  wpSs Φ b_is_alike noE (env0 [dBook a.1 a.2.1,dBook a.1 a.2.2.1,a.2.2.2.d sameT] 1) G (ends fun d G'=>G'=G∧d=.bl (alkB a.2.1 a.2.2.1 (a.2.2.2.lvs (List.replicate a.1 42)))):=by
 obtain ⟨w,rs,ss,t⟩:=a
 obtain ⟨hb,hb',hd⟩:=h
 dsimp only at hb hb' hd ⊢
 have hw6:=hb.w6
 have e0:∀ xs:List Row,D.tup [.int w,.tup (xs.map dRow)]=dBook w xs:=fun _=>rfl
 simp_all_arith [b_is_alike]
 refine seq fun M hM=>?_
 simp_arith [h1]
 refine two_t hb hb' (hM _ _ (seq fun M hM=>?_))
 simp_arith [dBook,h2,h3]
 refine stars_t (by omega) (lvs_t (by decide) (by rw [List.length_replicate]; omega) hd (by decide) (hM _ _ (seq fun M hM=>?_)))
 cases hl:t.lvs (List.replicate w 42) with
 | none=>simp_arith [lvsD,alkB,and_self]
 | some l=>
  have hlen:=T.lvs_len' hl hd (by decide)
  simp_arith [lvsD]
  refine hM _ _ (last ?_)
  simp_arith [ends]
  refine CompG.inv (P:=fun i acc ρ G'=>(∃ o1 o2,ρ=[o1,o2,some (.tup [.int w,.tup (rs.map dRow)]),some (.tup [.int w,.tup (ss.map dRow)])])∧G'=G∧acc=(l.take i).map fun x=>D.bl (isSm rs ss x.1 x.2)) ⟨⟨_,_,rfl⟩,rfl,rfl⟩ (fun _ _ _ _ _=>trivial) (by rw [List.length_map]; have hsz:sz=1000000:=rfl; omega) ?_ ?_
  ·rintro i d acc ρ G' hd' ⟨⟨o1,o2,rfl⟩,rfl,rfl⟩ kk hk
   rw [List.getElem?_map] at hd'
   obtain ⟨x,hx,rfl⟩:=Option.map_eq_some_iff.mp hd'
   have htk:l.take (i + 1)=l.take i ++ [x]:=by rw [List.take_add_one,hx]; rfl
   simp_arith [leafT,h4]
   rw [e0,e0]
   refine issame_t hb hb' (hk _ _ _ ⟨⟨_,_,rfl⟩,rfl,by rw [htk,List.map_append]; rfl⟩)
  ·rintro acc ρ G' ⟨_,rfl,rfl⟩
   rw [List.length_map,List.take_length]
   simp_arith [ends]
   refine optK_of (bools_map _ _) ?_
   rw [all_id,hl]
   rfl
end RF
namespace RF
open PySem L2
def T.two:T→Prop
 | .lf r=>r.length=2
 | .sp _ z o=>z.two∧o.two
theorem two2 {α:Type} {r:List α} (h:r.length=2):∃ x y,r=[x,y]:=by
 match r,h with
 | [x,y],_=>exact ⟨x,y,rfl⟩
end RF
namespace RF
open PySem L2
theorem optS_deq (a b:Option (List Nat)):deq (optS a) (optS b)=(a==b):=by
 cases a <;> cases b <;> simp [optS,deq]
end RF
namespace RF
open PySem L2
def sIsT2 (n:Nat):RF.Spec:=valS (fun t:T=>[t.d sameT,.tup [.str sameT,.int 2]]) (fun t=>t.two∧t.dep < n) (fun _=>.bl true)
theorem ist2_t {n:Nat} {t:T} {G:DH} {k:D→DH→Prop} {E:EK} (h2:t.two) (h3:t.dep < n) (hk:k (.bl true) G):(sIsT2 n).t [t.d sameT,.tup [.str sameT,.int 2]] G k E:=valS_t t rfl ⟨h2,h3⟩ hk
theorem ist2_zero (ds:List D) (G:DH) (a:(sIsT2 0).A):¬ (sIsT2 0).pre ds G a:=fun ⟨_,_,h⟩=>by omega
theorem w_law_is_tree3 (Φ:Funs) (n:Nat) (h0:Φ "_law_is_tree"=sIsT2 n) (h1:Φ "_law_is_whole"=pureS fWhole) (t:T) (G:DH) (h:t.two∧t.dep < n + 1):wpSs Φ b_law_is_tree noE (env0 [t.d sameT,.tup [.str sameT,.int 2]] 0) G (ends fun d G'=>G'=G∧d=.bl true):=by
 obtain ⟨h2,hd⟩:=h
 cases t with
 | lf r=>
  obtain ⟨x,y,rfl⟩:=two2 h2
  have e0:((((0 + 1 + 1 + 1:Nat):Int)==0):Bool)=false:=by decide
  have e1:((((0 + 1 + 1 + 1:Nat):Int)==2 + 1):Bool)=true:=by decide
  have hnb:(([115,97,109,101]==[115,112,108,105,116]):Bool)=false:=by decide
  simp_all_arith [b_law_is_tree]
  refine seq fun M hM=>?_
  simp_arith [T.d,sameT,List.map_cons,List.map_nil,e0]
  refine hM _ _ (seq fun M hM=>?_)
  simp_arith [hnb]
  refine hM _ _ (seq fun M hM=>?_)
  simp_arith [BEq.rfl,e1]
  refine hM _ _ (last ?_)
  simp_arith [cut_tail]
  refine CompG.map (f:=fun _=>.bl true) (I:=fun ρ=>∃ o,ρ=[o]) ⟨_,rfl⟩ trivial (show 2≤sz by decide) ?_ ?_
  ·rintro d ρ hd ⟨o,rfl⟩ kk hk
   have:∃ x:Option Int,d=oI x:=by
    rcases List.mem_cons.mp hd with e | e
    ·exact ⟨_,e⟩
    ·exact ⟨_,List.mem_singleton.mp e⟩
   obtain ⟨x,rfl⟩:=this
   cases x with
   | none=>simp_arith [oI]; exact hk _ ⟨_,rfl⟩
   | some i=>simp_arith [oI,h1]; exact pureS_t (d:=.bl true) rfl (hk _ ⟨_,rfl⟩)
  ·simp_arith [List.map_cons,List.map_nil]
   exact ⟨by decide,rfl⟩
 | sp i z o=>
  rw [T.dep] at hd
  have e0:((((0 + 1 + 1 + 1 + 1:Nat):Int)==0):Bool)=false:=by decide
  have e4:((((0 + 1 + 1 + 1 + 1:Nat):Int)==4):Bool)=true:=rfl
  simp_all_arith [b_law_is_tree]
  refine seq fun M hM=>?_
  simp_arith [T.d,e0]
  refine hM _ _ (seq fun M hM=>?_)
  simp_arith [splitT,BEq.rfl,e4,h1]
  refine pureS_t (d:=.bl true) rfl ?_
  simp_arith [h0]
  refine ist2_t h2.1 (by omega) ?_
  simp_arith [ends]
  exact ist2_t h2.2 (by omega) ⟨rfl,rfl⟩
def deedI (rs:List Row) (x:Option Int):Option (List Nat):=x.bind fun i=>if 0≤i then rs[i.toNat]?.map (·.2) else none
def sDAt:RF.Spec:=valS (fun a:Nat×List Row×Option Int=>[dBook a.1 a.2.1,oI a.2.2]) (fun _=>True) (fun a=>optS (deedI a.2.1 a.2.2))
theorem dat_t {w:Nat} {rs:List Row} {x:Option Int} {G:DH} {k:D→DH→Prop} {E:EK} (hk:k (optS (deedI rs x)) G):sDAt.t [dBook w rs,oI x] G k E:=valS_t (w,rs,x) rfl trivial hk
theorem w_law_deed_at (Φ:Funs) (a:Nat×List Row×Option Int) (G:DH) (_:True):wpSs Φ b_law_deed_at noE (env0 [dBook a.1 a.2.1,oI a.2.2] 0) G (ends fun d G'=>G'=G∧d=optS (deedI a.2.1 a.2.2)):=by
 obtain ⟨w,rs,x⟩:=a
 dsimp only
 simp_all_arith [b_law_deed_at]
 refine seq fun M hM=>?_
 cases x with
 | none=>simp_arith [oI,deedI,Option.bind_none,optS,and_self]
 | some i=>
  simp_arith [oI,dBook,List.length_map]
  cases d1:decide (i < 0) with
  | true=>
   have p1:=of_decide_eq_true d1
   simp_arith [ends]
   show _=optS (if 0≤i then rs[i.toNat]?.map (·.2) else none)
   rw [if_neg (by omega)]; rfl
  | false=>
   have p1:=of_decide_eq_false d1
   cases d2:decide ((rs.length:Int)≤i) with
   | true=>
    have p2:=of_decide_eq_true d2
    simp_arith [d2]
    show _=optS (if 0≤i then rs[i.toNat]?.map (·.2) else none)
    rw [if_pos (by omega),List.getElem?_eq_none (by omega)]; rfl
   | false=>
    have p2:=of_decide_eq_false d2
    obtain ⟨m,rfl⟩:∃ m:Nat,i=m:=⟨i.toNat,by omega⟩
    have hm:m < rs.length:=by omega
    have hc:rs[m]?=some rs[m]:=List.getElem?_eq_getElem hm
    generalize rs[m]=r at hc
    simp_arith [d2]
    refine hM _ _ (last ?_)
    simp_arith [ends]
    refine optK_of (a:=dRow r) (atI_nat (by rw [List.getElem?_map,hc]; rfl)) ?_
    simp_arith [dRow]
    show _=optS (if 0≤(m:Int) then rs[(m:Int).toNat]?.map (·.2) else none)
    rw [if_pos (by omega),Int.toNat_natCast,hc]; rfl
def alr1 (rs ss:List Row) (c:List Nat):List (Option Int)→Bool
 | [x,y]=>allM rs c x && (allM ss c y && (deedI rs x==deedI ss y))
 | _=>false
def alr0 (rs ss:List Row):Option (List Nat×List (Option Int))→Bool
 | none=>false
 | some x=>alr1 rs ss x.1 x.2
def alrB (rs ss:List Row) (l:List (Option (List Nat×List (Option Int)))):Bool:=l.all (alr0 rs ss)
theorem alr_two {rs ss:List Row} {c:List Nat} {x y:Option Int}:alr0 rs ss (some (c,[x,y]))=(allM rs c x && (allM ss c y && (deedI rs x==deedI ss y))):=rfl
theorem T.bxs_two:∀ (t:T) {b:List Nat},t.two→∀ x,some x∈t.bxs b→x.2.length=2
 | .lf r,b,h1,x,h=>by rw [T.bxs] at h; have:=List.mem_singleton.mp h; cases this; exact h1
 | .sp i z o,b,h1,x,h=>by
  rw [T.bxs] at h
  split at h
  ·rcases List.mem_append.mp h with h | h
   ·exact z.bxs_two h1.1 x h
   ·exact o.bxs_two h1.2 x h
  ·have:=List.mem_singleton.mp h; cases this
structure AR where
 w:Nat
 rs:List Row
 ss:List Row
 t:T
def pAR (a:AR) (ds:List D) (_:DH):Prop:=ds=[dBook a.w a.rs,dBook a.w a.ss,a.t.d sameT]∧okB a.w a.rs∧okB a.w a.ss∧a.t.two∧a.t.dep < 9
def qAR (a:AR) (G:DH) (d:D) (G':DH):Prop:=Sa G G'∧d=.bl (alrB a.rs a.ss (a.t.bxs (List.replicate a.w 42)))
def sAR:RF.Spec:=ghS pAR qAR
theorem ar_t {w:Nat} {rs ss:List Row} {t:T} {G:DH} {k:D→DH→Prop} {E:EK} (h1:okB w rs) (h2:okB w ss) (h3:t.two) (h4:t.dep < 9) (hk:∀ G',Sa G G'→k (.bl (alrB rs ss (t.bxs (List.replicate w 42)))) G'):sAR.t [dBook w rs,dBook w ss,t.d sameT] G k E:=
 ghS_t ⟨w,rs,ss,t⟩ ⟨rfl,h1,h2,h3,h4⟩ fun d G' hx=>by obtain ⟨e1,e2⟩:=hx; subst e2; exact hk G' e1
theorem w_law_alike_right (Φ:Funs) (h1:Φ "_law_is_tree"=sIsT2 9) (h2:Φ "_law_boxes"=sBxs 9) (h3:Φ "_law_all_meet"=sAllM) (h4:Φ "_law_deed_at"=sDAt) (a:AR) (ds:List D) (G:DH) (h:pAR a ds G):wpSs Φ b_law_alike_right noE (env0 ds 5) G (ends (qAR a G)):=by
 obtain ⟨w,rs,ss,t⟩:=a
 obtain ⟨rfl,hb,hb',h1o,hdp⟩:=h
 dsimp only at hb hb' h1o hdp ⊢
 have hw6:=hb.w6
 simp_all_arith [b_law_alike_right]
 refine seq fun M hM=>?_
 simp_arith [h1]
 refine ⟨by decide,ist2_t h1o hdp ?_⟩
 simp_arith [ends]
 refine hM _ _ (seq fun M hM=>?_)
 have e0:∀ xs,dBook w xs=.tup [.int w,.tup (xs.map dRow)]:=fun _=>rfl
 simp_arith! [e0,h2,Int.toNat_natCast,reps_one]
 refine ⟨by omega,by omega,by have hsz:sz=1000000:=rfl; omega,bxs_t (by decide) (by rw [List.length_replicate]; omega) hdp (by decide) ?_⟩
 simp_arith! [ends]
 refine ForG.inv (P:=fun i ρ G'=>(∃ o3 o4 o5 o6 o7,ρ=[some (.tup [.int w,.tup (rs.map dRow)]),some (.tup [.int w,.tup (ss.map dRow)]),some (t.d sameT),o3,o4,o5,o6,o7])∧Sa G G'∧alrB rs ss ((t.bxs (List.replicate w 42)).take i)=true) ⟨⟨_,_,_,_,_,rfl⟩,Sa.refl G,rfl⟩ (fun _ _ _ _=>trivial) ?_ ?_
 ·rintro i d ρ G' hd ⟨⟨o3,o4,o5,o6,o7,rfl⟩,sa,hall⟩ kk hk
  rw [List.getElem?_map] at hd
  obtain ⟨x,hx,rfl⟩:=Option.map_eq_some_iff.mp hd
  have hxm:=List.mem_of_getElem? hx
  have no:∀ G2,Sa G G2→alr0 rs ss x=false→qAR ⟨w,rs,ss,t⟩ G (.bl false) G2:=fun G2 s2 e=>⟨s2,by
   unfold alrB
   rw [List.all_eq_false.mpr ⟨x,hxm,by rw [e]; decide⟩]⟩
  simp_arith! [ends]
  refine seq fun M hM=>?_
  cases x with
  | none=>
   simp_arith [bxD]
   exact no _ sa rfl
  | some y=>
   obtain ⟨c,r⟩:=y
   have hcl:=t.bxs_box _ hxm
   rw [List.length_replicate] at hcl
   replace hcl:c.length=w:=hcl
   obtain ⟨x,y,rfl⟩:=two2 (t.bxs_two h1o _ hxm)
   simp_arith [bxD,leafT,List.map_cons,List.map_nil]
   refine hM _ _ (seq fun M hM=>?_)
   simp_arith [ends]
   refine hM _ _ (seq fun M hM=>?_)
   simp_arith [h3]
   rw [← e0,← e0]
   refine allm_t (by omega) (fun r hr=>by rw [(hb.form r hr).1,hcl]) fun G2 sa2=>?_
   cases hm:allM rs c x with
   | false=>
    simp_arith [ends]
    exact no _ (sa.trans sa2) (by rw [alr_two,hm]; rfl)
   | true=>
    simp_arith [h3]
    refine allm_t (by omega) (fun r hr=>by rw [(hb'.form r hr).1,hcl]) fun G3 sa3=>?_
    cases hm2:allM ss c y with
    | false=>
     simp_arith [ends]
     exact no _ ((sa.trans sa2).trans sa3) (by rw [alr_two,hm,hm2]; rfl)
    | true=>
     simp_arith [ends]
     refine hM _ _ (last ?_)
     simp_arith [h4]
     refine dat_t (dat_t ?_)
     have v:∀ a,view G3 (optS a)=optS a:=fun a=>by cases a <;> rfl
     have nrS:∀ a,nr (optS a)=true:=fun a=>by cases a <;> rfl
     have dpS:∀ a,dpt (optS a)=0:=fun a=>by cases a <;> rfl
     rw [v,v,optS_deq,nrS,nrS,dpS]
     refine ⟨⟨rfl,rfl,Nat.le_trans (Nat.min_le_left _ _) (by decide)⟩,?_⟩
     cases hm3:(deedI rs x==deedI ss y) with
     | false=>exact no _ ((sa.trans sa2).trans sa3) (by rw [alr_two,hm,hm2,hm3]; rfl)
     | true=>
      refine hk _ _ ⟨⟨_,_,_,_,_,rfl⟩,(sa.trans sa2).trans sa3,?_⟩
      unfold alrB at hall ⊢
      rw [List.take_add_one,hx,List.all_append,hall]
      simp [alr_two,hm,hm2,hm3]
 ·rintro ρ G' ⟨⟨o3,o4,o5,o6,o7,rfl⟩,sa,hall⟩
  rw [List.length_map,List.take_length] at hall
  refine hM _ _ ?_
  simp_arith [ends]
  exact ⟨sa,by rw [hall]⟩
theorem deedI_O {rs:List Row} {b:List Nat} {x:Option Int} (h:isMet rs b x=true):deedI rs x=deedO rs (natO x):=by
 cases x with
 | none=>rfl
 | some i=>
  unfold isMet at h
  rw [Bool.and_eq_true] at h
  obtain ⟨n,hn,rfl,hc⟩:=place_at h.1
  show (if 0≤(n:Int) then rs[(n:Int).toNat]?.map (·.2) else none)=rs[(n:Int).toNat]?.map (·.2)
  rw [if_pos (by omega)]
theorem alk_alr {w:Nat} {rs ss:List Row} {t:T} {b:List Nat} (hr:∀ r∈rs,okF w r.1) (hs:∀ r∈ss,okF w r.1) (hb:okF w b):alrB rs ss (t.bxs b)=alkB rs ss (t.lvs b):=by
 obtain ⟨h1,h2⟩:=t.lvs_bxs (b:=b)
 cases hl:t.lvs b with
 | none=>
  unfold alkB alrB
  rw [List.all_eq_false.mpr ⟨none,h2 hl,by simp [alr0]⟩]
 | some l=>
  have hok:=t.lvs_okf hl hb
  rw [h1 l hl]
  unfold alkB alrB
  dsimp only
  rw [List.all_map]
  have key:∀ x∈l,alr1 rs ss x.1 x.2=isSm rs ss x.1 x.2:=by
   rintro ⟨c,r⟩ hx
   rcases r with _ | ⟨x,_ | ⟨y,_ | ⟨z,r⟩⟩⟩
   ·rfl
   ·rfl
   ·show (allM rs c x && (allM ss c y && (deedI rs x==deedI ss y)))=(isMet rs c x && (isMet ss c y && (deedO rs (natO x)==deedO ss (natO y))))
    rw [← isMet_all hr (hok _ hx),← isMet_all hs (hok _ hx)]
    cases hx':isMet rs c x with
    | false=>rfl
    | true=>
     cases hy':isMet ss c y with
     | false=>rfl
     | true=>rw [deedI_O hx',deedI_O hy']
   ·rfl
  rw [Bool.eq_iff_iff,List.all_eq_true,List.all_eq_true]
  exact ⟨fun h x hx=>(key x hx).symm.trans (h x hx),fun h x hx=>(key x hx).trans (h x hx)⟩
end RF
namespace RF
open PySem L2
def okP (a:List Nat×List Nat):Prop:=a.1.length=a.2.length∧a.1.length≤1000∧(∀ x∈a.1,isF x)∧∀ x∈a.2,isF x
def sMeet:RF.Spec:=valS (fun a:List Nat×List Nat=>[.str a.1,.str a.2]) okP (fun a=>.bl (bothO a.1 a.2).isSome)
def clash:D→Option D
 | .tup [.str [a],.str [b]]=>if (both1 a b).isSome then none else some (.int 1)
 | _=>none
theorem clash_nil:∀ (f g:List Nat),(((f.zip g).map fun p=>D.tup [.str [p.1],.str [p.2]]).filterMap clash).isEmpty=(bothO f g).isSome
 | [],g=>by cases g <;> rfl
 | a::f,[]=>rfl
 | a::f,b::g=>by
  have ih:=clash_nil f g
  rw [List.zip_cons_cons,List.map_cons,bothO]
  cases h:both1 a b with
  | none=>
   have:clash (D.tup [.str [a],.str [b]])=some (.int 1):=by show (if (both1 a b).isSome=true then none else some (D.int 1))=_; rw [h]; rfl
   rw [List.filterMap_cons,this]; rfl
  | some c=>
   have:clash (D.tup [.str [a],.str [b]])=none:=by show (if (both1 a b).isSome=true then none else some (D.int 1))=_; rw [h]; rfl
   rw [List.filterMap_cons,this]
   show (List.filterMap clash _).isEmpty=_
   rw [ih]
   cases bothO f g <;> rfl
theorem w_law_meet (Φ:Funs) (a:List Nat×List Nat) (G:DH) (h:okP a):wpSs Φ b_law_meet noE (env0 [.str a.1,.str a.2] 0) G (ends fun d G'=>G'=G∧d=.bl (bothO a.1 a.2).isSome):=by
 obtain ⟨f,g⟩:=a
 obtain ⟨hl,hz,hf,hg⟩:=h
 dsimp only at hl hz hf hg ⊢
 simp_arith [b_law_meet,zip_signs]
 refine CompG.pure (f:=clash) (I:=fun ρ=>∃ o1 o2,ρ=[o1,o2]) ⟨_,_,rfl⟩ trivial (by rw [List.length_map,List.length_zip]; have hsz:sz=1000000:=rfl; omega) ?_ ?_
 ·rintro d ρ hd ⟨o1,o2,rfl⟩ kk hk
  obtain ⟨⟨x,y⟩,hxy,rfl⟩:=List.mem_map.mp hd
  have hx:=hf x (List.of_mem_zip hxy).1
  have hy:=hg y (List.of_mem_zip hxy).2
  have hin:isIn (.str [x,y]) [.str [48,49],.str [49,48]]=!(both1 x y).isSome:=by
   rcases hx with rfl | rfl | rfl <;> rcases hy with rfl | rfl | rfl <;> simp [isIn,dq_ss,both1]
  have go:=fun ρ' hr=>hk ρ' hr
  have ec:clash (D.tup [.str [x],.str [y]])=if (both1 x y).isSome then none else some (.int 1):=rfl
  simp_arith [hin]
  refine ⟨by decide,by decide,⟨by decide,by decide⟩,?_⟩
  cases hb:(both1 x y).isSome with
  | true=>simp_arith [ends]; have:=hk [some (.str [x]),some (.str [y])] ⟨_,_,rfl⟩; rw [ec,hb] at this; exact this
  | false=>simp_arith [ends]; have:=hk [some (.str [x]),some (.str [y])] ⟨_,_,rfl⟩; rw [ec,hb] at this; exact this
 ·simp_arith [deqs_nil,clash_nil]
  refine ⟨nrs_of fun d hd=>?_,Nat.le_trans (Nat.min_le_right _ _) (by decide)⟩
  obtain ⟨e,_,he⟩:=List.mem_filterMap.mp hd
  unfold clash at he
  split at he
  ·split at he
   ·cases he
   ·cases he; rfl
  ·cases he
theorem meet_t {f g:List Nat} {G:DH} {k:D→DH→Prop} {E:EK} (h:okP (f,g)) (hk:k (.bl (bothO f g).isSome) G):sMeet.t [.str f,.str g] G k E:=valS_t (f,g) rfl h hk
end RF
namespace RF
open PySem L2
def pTurn (a:Addr×Nat×List Row) (ds:List D) (G:DH):Prop:=ds=[.ref a.1,.lst (a.2.2.map dRow)]∧Pen G a.1∧a.2.1≤6∧okRs a.2.1 a.2.2∧0 < a.2.2.length∧a.2.2.length≤12
def qTurn (a:Addr×Nat×List Row) (G:DH) (d:D) (G':DH):Prop:=∃ rs':List Row,d=.lst (rs'.map dRow)∧okRs a.2.1 rs'∧a.2.2.length≤rs'.length∧rs'.length≤a.2.2.length + 1∧Pen G' a.1∧Sb a.1 G G'
def sTurn1:RF.Spec:=ghS pTurn qTurn
theorem turn1_t {p:Addr} {w:Nat} {rs:List Row} {G:DH} {k:D→DH→Prop} {E:EK} (hp:Pen G p) (hw:w≤6) (h1:okRs w rs) (h2:0 < rs.length) (h3:rs.length≤12) (hk:∀ (rs':List Row) (G':DH),okRs w rs'→rs.length≤rs'.length→rs'.length≤rs.length + 1→Pen G' p→Sb p G G'→k (.lst (rs'.map dRow)) G'):sTurn1.t [.ref p,.lst (rs.map dRow)] G k E:=
 ghS_t (p,w,rs) ⟨rfl,hp,hw,h1,h2,h3⟩ fun d G' ⟨rs',e,h1,h2,h3,h4,h5⟩=>by subst e; exact hk rs' G' h1 h2 h3 h4 h5
def starsL' (b:List Nat):List Nat:=(List.range b.length).filter fun n=>b[n]?==some 42
def iN' (n:Nat):D:=.int (n:Int)
theorem cut_d1' {α:Type} (l:List α) (n:Nat):cut l (some ((n:Int) + 1)) none=l.drop (n + 1):=cut_drop l (n + 1)
theorem cut_d2' {α:Type} (l:List α) (n:Nat):cut l (some ((n:Int) + 2)) none=l.drop (n + 2):=cut_drop l (n + 2)
theorem okRs.cat {w:Nat} {as bs:List Row} (h:okRs w as) (h':okRs w bs):okRs w (as ++ bs):=fun r hr=>by
 rcases List.mem_append.mp hr with e | e
 ·exact h r e
 ·exact h' r e
theorem okRs.take {w:Nat} {as:List Row} (n:Nat) (h:okRs w as):okRs w (as.take n):=fun r hr=>h r (List.mem_of_mem_take hr)
theorem okRs.drop {w:Nat} {as:List Row} (n:Nat) (h:okRs w as):okRs w (as.drop n):=fun r hr=>h r (List.mem_of_mem_drop hr)
theorem ins_t {w n:Nat} {rs:List Row} {m dd:List Nat} (hr:okRs w rs) (hm:okF w m) (hd:okD dd) (h:rs.length≤12):(rs.take n).length + (0 + 1)≤sz∧((rs.take n).map dRow ++ [D.tup [.str m,.str dd]]).length + (rs.drop n).length≤sz∧∃ rs':List Row,D.lst ((rs.take n).map dRow ++ [D.tup [.str m,.str dd]] ++ (rs.drop n).map dRow)=.lst (rs'.map dRow)∧okRs w rs'∧rs.length≤rs'.length∧rs'.length≤rs.length + 1:=by
 refine ⟨by rw [List.length_take]; have hsz:sz=1000000:=rfl; omega,by rw [List.length_append,List.length_map,List.length_take,List.length_drop,List.length_singleton]; have hsz:sz=1000000:=rfl; omega,rs.take n ++ (m,dd)::rs.drop n,?_,hr.ins hm hd,by rw [ins_len]; omega,by rw [ins_len]; omega⟩
 rw [List.map_append,List.map_cons,List.append_assoc]; rfl
theorem w_law_one_turning (Φ:Funs) (h1:Φ "_law_take"=sTake) (h2:Φ "_law_within"=sWithin) (h3:Φ "_law_meet"=sMeet) (a:Addr×Nat×List Row) (ds:List D) (G:DH) (h:pTurn a ds G):wpSs Φ b_law_one_turning noE (env0 ds 7) G (ends (qTurn a G)):=by
 obtain ⟨p,w,rs⟩:=a
 obtain ⟨rfl,hp,hw,hr,h0,h12⟩:=h
 dsimp only at hp hw hr h0 h12 ⊢
 simp_all_arith [b_law_one_turning]
 refine seq fun M hM=>?_
 simp_arith [h1,List.length_map]
 refine take_t hp (by omega) (by omega) fun at' G1 hat hp1 sb1=>hM _ _ (seq fun M hM=>?_)
 have hat:at' < rs.length:=by omega
 have hc:rs[at']?=some rs[at']:=List.getElem?_eq_getElem hat
 generalize rs[at']=r at hc
 have hok:=hr r (List.mem_of_getElem? hc)
 have hbl:=hok.1.1
 have hatI:atI (rs.map dRow) (at':Int)=some (dRow r):=atI_nat (by rw [List.getElem?_map,hc]; rfl)
 simp_arith [ends]
 refine optK_of hatI ?_
 simp_arith [dRow]
 refine hM _ _ (seq fun M hM=>?_)
 simp_arith [ends]
 refine ⟨by omega,CompG.inv (P:=fun i acc ρ G'=>(∃ o,ρ=[o,some (.str r.1)])∧G'=G1∧acc=((List.range i).filter fun n=>r.1[n]?==some 42).map iN') ⟨⟨_,rfl⟩,rfl,rfl⟩ (fun _ _ _ _ _=>trivial) (by simp [rangeL]; have hsz:sz=1000000:=rfl; omega) ?_ ?_⟩
 ·rintro i d acc ρ G' hd ⟨⟨o,rfl⟩,rfl,rfl⟩ kk hk
  have hi:i < r.1.length:=by
   have:=(List.getElem?_eq_some_iff.mp hd).1
   simpa [rangeL] using this
  have hdi:d=.int (i:Int):=by
   unfold rangeL at hd
   rw [List.getElem?_map,List.getElem?_range (by simpa using hi)] at hd
   simpa using hd.symm
  subst hdi
  have hc:r.1[i]?=some r.1[i]:=List.getElem?_eq_getElem hi
  simp_arith [ends]
  refine optK_of (a:=r.1[i]) (atI_nat hc) ?_
  simp_arith [sg_eq]
  cases h42:(r.1[i]==42) with
  | true=>exact hk _ _ _ ⟨⟨_,rfl⟩,rfl,by rw [List.range_succ,List.filter_append,List.filter_cons,hc]; simp [iN',h42]⟩
  | false=>exact hk _ _ _ ⟨⟨_,rfl⟩,rfl,by rw [List.range_succ,List.filter_append,List.filter_cons,hc]; simp [iN',h42]⟩
 ·rintro acc ρ G2 ⟨_,rfl,rfl⟩
  have el:((List.range (rangeL 0 (r.1.length:Int).toNat).length).filter fun n=>r.1[n]?==some 42).map iN'=(starsL' r.1).map iN':=by unfold starsL'; simp [rangeL]
  rw [el]
  have hsl:(starsL' r.1).length≤r.1.length:=Nat.le_trans (List.length_filter_le _ _) (by simp)
  refine hM _ _ (seq fun M hM=>?_)
  simp_arith [h1]
  refine take_t hp1 (by decide) (by decide) fun kd G3 hkd hp3 sb3=>hM _ _ (seq fun M hM=>?_)
  have sb30:=sb1.trans sb3
  have more:kd≠0∨starsL' r.1=[]→∀ G4,Pen G4 p→Sb p G G4→M [some (.ref p),some (.lst (rs.map dRow)),some (.int at'),some (.str r.1),some (.str r.2),some (.lst ((starsL' r.1).map iN')),some (.int kd),none,none] G4:=by
   intro _ G4 hp4 sb4
   refine hM _ _ (seq fun M hM=>?_)
   cases hk1:((kd:Int)==1) with
   | true=>
    simp_arith! [hk1]
    refine seq fun M hM=>?_
    simp_arith [h1,List.length_map]
    refine take_t hp4 (by omega) (by omega) fun q G5 hq hp5 sb5=>?_
    have epl:(at':Int) + 1 + (q:Int)=((at' + 1 + q:Nat):Int):=by omega
    simp_arith [epl]
    refine hM _ _ (last ?_)
    simp_arith [h1,h2,cut_take_map,cut_drop_map,List.length_map]
    refine text_t hp5 hok.1.2 (by omega) fun m G6 hm hp6 sb6=>?_
    rw [hbl] at hm
    refine take_t hp6 (by omega) (by omega) fun q2 G7 hq2 hp7 sb7=>?_
    simp_arith [ends]
    refine optK_in (by omega) (by simp; omega) fun y hy=>?_
    obtain ⟨r2,hr2,rfl⟩:=List.mem_map.mp hy
    simp_arith [dRow]
    obtain ⟨i1,i2,rs',i3,i4,i5,i6⟩:=ins_t (n:=at' + 1 + q) hr hm (hr r2 hr2).2 h12
    exact ⟨by decide,by decide,i1,i2,rs',i3,i4,i5,i6,hp7,((sb4.trans sb5).trans sb6).trans sb7⟩
   | false=>
    simp_arith [hk1]
    refine hM _ _ (seq fun M hM=>?_)
    cases hk2:((kd:Int)==2) with
    | true=>
     simp_arith [hk2,h2,cut_take_map,cut_drop_map,List.length_map]
     refine text_t hp4 hok.1.2 (by omega) fun m G6 hm hp6 sb6=>?_
     rw [hbl] at hm
     obtain ⟨i1,i2,rs',i3,i4,i5,i6⟩:=ins_t (n:=at') hr hm hok.2 h12
     exact ⟨by decide,by decide,i1,i2,rs',i3,i4,i5,i6,hp6,sb4.trans sb6⟩
    | false=>
     simp_arith [hk2]
     refine hM _ _ (seq fun M hM=>?_)
     have stay:∀ G5,Pen G5 p→Sb p G G5→M [some (.ref p),some (.lst (rs.map dRow)),some (.int at'),some (.str r.1),some (.str r.2),some (.lst ((starsL' r.1).map iN')),some (.int kd),none,none] G5:=by
      intro G5 hp5 sb5
      refine hM _ _ (last ?_)
      simp_arith [ends]
      exact ⟨rs,rfl,hr,Nat.le_refl _,Nat.le_succ _,hp5,sb5⟩
     by_cases hlt:at' + 1 < rs.length
     ·have hl1:decide ((at':Int) + 1 < (rs.length:Int))=true:=decide_eq_true (by omega)
      have hc2:rs[at' + 1]?=some rs[at' + 1]:=List.getElem?_eq_getElem hlt
      generalize rs[at' + 1]=r2 at hc2
      have hok2:=hr r2 (List.mem_of_getElem? hc2)
      have hatJ:atI (rs.map dRow) ((at':Int) + 1)=some (dRow r2):=atI_nat (j:=at' + 1) (by rw [List.getElem?_map,hc2]; rfl)
      simp_arith [List.length_map,hl1]
      refine optK_of hatJ ?_
      have swap:∀ G5,Pen G5 p→Sb p G G5→optK (atI (rs.map dRow) ((at':Int) + 1)) fun d=>optK (atI (rs.map dRow) (at':Int)) fun d1=>0 + 1 + 1≤sz∧(cut (rs.map dRow) none (some (at':Int))).length + (0 + 1 + 1)≤sz∧(cut (rs.map dRow) none (some (at':Int)) ++ [d,d1]).length + (cut (rs.map dRow) (some ((at':Int) + 2)) none).length≤sz∧qTurn (p,w,rs) G (D.lst (cut (rs.map dRow) none (some (at':Int)) ++ [d,d1] ++ cut (rs.map dRow) (some ((at':Int) + 2)) none)) G5:=by
       intro G5 hp5 sb5
       refine optK_of hatJ (optK_of hatI ?_)
       rw [cut_take_map,cut_d2',← List.map_drop]
       refine ⟨by decide,by rw [List.length_map,List.length_take]; have hsz:sz=1000000:=rfl; omega,by rw [List.length_append,List.length_map,List.length_map,List.length_take,List.length_drop]; simp only [List.length_cons,List.length_nil]; have hsz:sz=1000000:=rfl; omega,rs.take at' ++ [r2,r] ++ rs.drop (at' + 2),?_,?_,?_,?_,hp5,sb5⟩
       ·rw [List.map_append,List.map_append]; rfl
       ·refine ((hr.take at').cat ?_).cat (hr.drop _)
        intro x hx
        simp only [List.mem_cons,List.not_mem_nil,or_false] at hx
        rcases hx with e | e <;> subst e
        ·exact hok2
        ·exact hok
       ·rw [List.length_append,List.length_append,List.length_take,List.length_drop]; simp only [List.length_cons,List.length_nil]; omega
       ·rw [List.length_append,List.length_append,List.length_take,List.length_drop]; simp only [List.length_cons,List.length_nil]; omega
      simp_arith [dRow]
      cases hdd:(r2.2==r.2) with
      | true=>exact swap G4 hp4 sb4
      | false=>
       simp_arith [h3]
       refine optK_of hatJ ?_
       simp_arith [dRow]
       refine meet_t ⟨by rw [hbl,hok2.1.1],show r.1.length≤1000 by omega,hok.1.2,hok2.1.2⟩ ?_
       cases (bothO r.1 r2.1).isSome with
       | true=>
        simp_arith [ends]
        exact stay _ hp4 sb4
       | false=>
        simp_arith [ends]
        exact swap G4 hp4 sb4
     ·have hl1:decide ((at':Int) + 1 < (rs.length:Int))=false:=decide_eq_false (by omega)
      simp_arith [List.length_map,hl1]
      exact stay _ hp4 sb4
  cases hk0:((kd:Int)==0) with
  | false=>
   simp_arith [hk0]
   exact more (.inl (by have:=beq_eq_false_iff_ne.mp hk0; omega)) _ hp3 sb30
  | true=>
   cases hst:starsL' r.1 with
   | nil=>
    rw [hst] at more
    simp_arith [List.map_nil,hk0]
    exact ⟨by decide,more (.inr rfl) _ hp3 sb30⟩
   | cons y ys=>
    have hne:starsL' r.1≠[]:=by rw [hst]; simp
    have hpos:0 < (starsL' r.1).length:=List.length_pos_iff.mpr hne
    have hnr:nrs ((y::ys).map iN')=true:=nrs_of fun d hd=>by obtain ⟨_,_,rfl⟩:=List.mem_map.mp hd; rfl
    rw [List.map_cons] at hnr
    simp_arith! [List.map_cons,hk0]
    refine ⟨⟨by simpa [nrs] using hnr,Nat.le_trans (Nat.min_le_right _ _) (by decide)⟩,?_⟩
    rw [← List.map_cons (f:=iN'),← hst]
    refine seq fun M hM=>?_
    simp_arith [h1,List.length_map]
    refine take_t hp3 (by omega) (by omega) fun q G4 hq hp4 sb4=>?_
    simp_arith [ends]
    refine optK_in (by omega) (by simp; omega) fun y hy=>?_
    obtain ⟨pl,hpl,rfl⟩:=List.mem_map.mp hy
    have hpl42:r.1[pl]?=some 42:=by
     unfold starsL' at hpl
     simpa using (List.mem_filter.mp hpl).2
    have hpll:=(List.getElem?_eq_some_iff.mp hpl42).1
    refine hM _ _ (seq fun M hM=>?_)
    simp_arith [h1,iN']
    refine ⟨by decide,take_t hp4 (by decide) (by decide) fun q5 G5 hq5 hp5 sb5=>?_⟩
    simp_arith [ends]
    refine optK_in (by omega) (by simp; omega) fun y hy=>?_
    obtain ⟨c1,c2,f1,f2,rfl⟩:∃ c1 c2:Nat,isF c1∧isF c2∧y=.str [c1,c2]:=by
     simp only [List.mem_cons,List.not_mem_nil,or_false] at hy
     rcases hy with e | e
     ·exact ⟨48,49,isF0,isF1,e⟩
     ·exact ⟨49,48,isF1,isF0,e⟩
    simp_arith [ends]
    refine CompG.inv (P:=fun i acc ρ G'=>(∃ o,ρ=[o,some (.str r.2),some (.str r.1),some (.int pl)])∧G'=G5∧acc=(([c1,c2].take i).map fun c=>((r.1.set pl c,r.2):Row)).map dRow) ⟨⟨_,rfl⟩,rfl,rfl⟩ (fun _ _ _ _ _=>trivial) (show 2≤sz by decide) ?_ ?_
    ·rintro i d acc ρ G' hd ⟨⟨o,rfl⟩,rfl,rfl⟩ kk hk
     replace hd:([c1,c2].map fun c=>D.str [c])[i]?=some d:=hd
     rw [List.getElem?_map] at hd
     obtain ⟨c,hcc,rfl⟩:=Option.map_eq_some_iff.mp hd
     have htk:[c1,c2].take (i + 1)=[c1,c2].take i ++ [c]:=by rw [List.take_add_one,hcc]; rfl
     simp_arith [cut_take,cut_d1']
     refine ⟨by rw [List.length_take]; have hsz:sz=1000000:=rfl; omega,by rw [List.length_append,List.length_take,List.length_drop,List.length_singleton]; have hsz:sz=1000000:=rfl; omega,by decide,?_⟩
     rw [put_set hpll]
     exact hk _ _ _ ⟨⟨_,rfl⟩,rfl,by rw [htk,List.map_append,List.map_append]; rfl⟩
    ·rintro acc ρ G' ⟨_,rfl,rfl⟩
     have e2:((([c1,c2].take [D.str [c1],D.str [c2]].length).map fun c=>((r.1.set pl c,r.2):Row)).map dRow)=([(r.1.set pl c1,r.2),(r.1.set pl c2,r.2)]:List Row).map dRow:=rfl
     rw [e2]
     refine hM _ _ (last ?_)
     simp_arith [cut_take_map,cut_d1',← List.map_drop,List.length_map]
     refine ⟨by simp only [List.length_take,List.length_append,List.length_map,List.length_drop,List.length_cons,List.length_nil]; have hsz:sz=1000000:=rfl; omega,by simp only [List.length_take,List.length_append,List.length_map,List.length_drop,List.length_cons,List.length_nil]; have hsz:sz=1000000:=rfl; omega,rs.take at' ++ [(r.1.set pl c1,r.2),(r.1.set pl c2,r.2)] ++ rs.drop (at' + 1),?_,?_,?_,?_,hp5,(sb30.trans sb4).trans sb5⟩
     ·rw [List.map_append,List.map_append]; rfl
     ·refine ((hr.take at').cat ?_).cat (hr.drop _)
      intro x hx
      simp only [List.mem_cons,List.not_mem_nil,or_false] at hx
      rcases hx with e | e <;> subst e
      ·exact ⟨okF_set hok.1 f1,hok.2⟩
      ·exact ⟨okF_set hok.1 f2,hok.2⟩
     ·rw [List.length_append,List.length_append,List.length_take,List.length_drop]; simp only [List.length_cons,List.length_nil]; omega
     ·rw [List.length_append,List.length_append,List.length_take,List.length_drop]; simp only [List.length_cons,List.length_nil]; omega
def pTA (a:Addr×Nat×List Row×Nat) (ds:List D) (G:DH):Prop:=ds=[.ref a.1,dBook a.2.1 a.2.2.1,.int (a.2.2.2:Nat)]∧Pen G a.1∧okB a.2.1 a.2.2.1∧a.2.2.2≤100
def qTA (a:Addr×Nat×List Row×Nat) (G:DH) (d:D) (G':DH):Prop:=∃ rs',d=dBook a.2.1 rs'∧okB a.2.1 rs'∧Pen G' a.1∧Sb a.1 G G'
def sTA:RF.Spec:=ghS pTA qTA
theorem ta_t {p:Addr} {w m:Nat} {rs:List Row} {G:DH} {k:D→DH→Prop} {E:EK} (hp:Pen G p) (h1:okB w rs) (h2:m≤100) (hk:∀ (rs':List Row) (G':DH),okB w rs'→Pen G' p→Sb p G G'→k (dBook w rs') G'):sTA.t [.ref p,dBook w rs,.int (m:Nat)] G k E:=
 ghS_t (p,w,rs,m) ⟨rfl,hp,h1,h2⟩ fun d G' ⟨rs',e,h1,h2,h3⟩=>by subst e; exact hk rs' G' h1 h2 h3
theorem w_law_turned_alike (Φ:Funs) (h1:Φ "_law_one_turning"=sTurn1) (a:Addr×Nat×List Row×Nat) (ds:List D) (G:DH) (h:pTA a ds G):wpSs Φ b_law_turned_alike noE (env0 ds 2) G (ends (qTA a G)):=by
 obtain ⟨p,w,rs,m⟩:=a
 obtain ⟨rfl,hp,hb,hm⟩:=h
 dsimp only at hp hb hm ⊢
 have hw6:=hb.w6
 have hlen:=hb.len
 have hr:okRs w rs:=fun r hr=>⟨hb.form r hr,hb.deed r hr⟩
 simp_all_arith [b_law_turned_alike]
 refine seq fun M hM=>?_
 simp_arith [dBook]
 refine hM _ _ (seq fun M hM=>?_)
 have hdq:deq (.lst (rs.map dRow)) (.lst [])=rs.isEmpty:=by
  cases rs with
  | nil=>rfl
  | cons r rs=>rfl
 simp_arith! [hdq]
 refine ⟨⟨nrs_dRow rs,Nat.le_trans (Nat.min_le_right _ _) (by decide)⟩,cmulR (by split <;> decide),⟨by split <;> omega,by split <;> omega⟩,?_⟩
 refine ForG.inv (P:=fun i ρ G'=>∃ (rs':List Row) (o4:Option D),ρ=[some (.ref p),some (.tup [.int w,.tup (rs.map dRow)]),some (.int (m:Nat)),some (.lst (rs'.map dRow)),o4]∧okRs w rs'∧rs.length≤rs'.length∧rs'.length≤12∧Pen G' p∧Sb p G G') ⟨rs,none,rfl,hr,Nat.le_refl _,hlen,hp,Sb.refl _ _⟩ (fun _ _ _ _=>trivial) ?_ ?_
 ·rintro i d ρ G' hd ⟨rs',o4,rfl,ok',hle,h12,hp',sb'⟩ kk hk
  have hne:0 < rs.length:=by
   cases rs with
   | nil=>simp [rangeL] at hd
   | cons _ _=>simp
  simp_arith! [ends]
  refine last ?_
  by_cases hlt:rs'.length < 12
  ·have hl:decide ((rs'.length:Int) < 12)=true:=decide_eq_true (by omega)
   simp_arith [List.length_map,hl,h1]
   refine turn1_t hp' hw6 ok' (by omega) h12 fun rs2 G2 ok2 l1 l2 hp2 sb2=>hk _ _ ⟨rs2,_,rfl,ok2,by omega,by omega,hp2,sb'.trans sb2⟩
  ·have hl:decide ((rs'.length:Int) < 12)=false:=decide_eq_false (by omega)
   simp_arith [List.length_map,hl]
   exact hk _ _ ⟨rs',_,rfl,ok',hle,h12,hp',sb'⟩
 ·rintro ρ G' ⟨rs',o4,rfl,ok',hle,h12,hp',sb'⟩
  refine hM _ _ (last ?_)
  simp_arith [ends]
  exact ⟨by decide,rs',rfl,⟨hb.w1,hb.w6,h12,fun r hr=>(ok' r hr).1,fun r hr=>(ok' r hr).2⟩,hp',sb'⟩
end RF
namespace RF
open PySem L2
theorem okB.of {w:Nat} {rs rs':List Row} (hb:okB w rs) (h:okRs w rs') (hl:rs'.length≤12):okB w rs':=⟨hb.w1,hb.w6,hl,fun r hr=>(h r hr).1,fun r hr=>(h r hr).2⟩
def pBB (a:Addr×Nat×List Row) (ds:List D) (G:DH):Prop:=ds=[.ref a.1,dBook a.2.1 a.2.2]∧Pen G a.1∧okB a.2.1 a.2.2
def qBB (a:Addr×Nat×List Row) (G:DH) (d:D) (G':DH):Prop:=∃ rs',d=dBook a.2.1 rs'∧okB a.2.1 rs'∧Pen G' a.1∧Sb a.1 G G'
def sBB:RF.Spec:=ghS pBB qBB
theorem bb_t {p:Addr} {w:Nat} {rs:List Row} {G:DH} {k:D→DH→Prop} {E:EK} (hp:Pen G p) (h1:okB w rs) (hk:∀ (rs':List Row) (G':DH),okB w rs'→Pen G' p→Sb p G G'→k (dBook w rs') G'):sBB.t [.ref p,dBook w rs] G k E:=
 ghS_t (p,w,rs) ⟨rfl,hp,h1⟩ fun d G' hx=>by
  obtain ⟨rs',e,h1,h2,h3⟩:=hx
  subst e
  exact hk rs' G' h1 h2 h3
def fst':D→D
 | .tup (x::_)=>x
 | d=>d
theorem cut2_len {α:Type} {l:List α} {n:Nat}:(cut l (some (n:Int)) (some ((n:Int) + 2))).length≤min (n + 2) l.length - min n l.length:=by
 show (cut l (some (n:Int)) (some ((n + 2:Nat):Int))).length≤_
 unfold cut
 rw [HT.sIx_nat,HT.sIx_nat]
 exact List.length_take_le _ _
theorem mem_cut {α:Type} {l:List α} {lo hi:Option Int} {x:α} (h:x∈cut l lo hi):x∈l:=List.mem_of_mem_drop (List.mem_of_mem_take h)
theorem sz_t {rs:List Row} {q:Nat} (h:rs.length≤12):(rs.take q).length + (0 + 1)≤sz:=Nat.le_trans (Nat.add_le_add_right (Nat.le_trans (List.length_take_le' q rs) h) _) (by decide)
theorem sz_d {rs:List Row} {q:Nat} (h:rs.length≤12):(rs.drop q).length≤12:=Nat.le_trans (by rw [List.length_drop]; exact Nat.sub_le _ _) h
theorem sz_td {rs:List Row} {x:D} {q r:Nat} (h:rs.length≤12):((rs.take q).map dRow ++ [x]).length + (rs.drop r).length≤sz:=by
 rw [List.length_append,List.length_map]
 exact Nat.le_trans (Nat.add_le_add (Nat.add_le_add_right (Nat.le_trans (List.length_take_le' q rs) h) _) (sz_d h)) (show 12 + 1 + 12≤sz by decide)
theorem ln_ins {rs:List Row} {q:Nat} {r:Row} (h:rs.length < 12):(rs.take q ++ r::rs.drop q).length≤12:=by rw [ins_len]; exact h
theorem w_law_bent_book (Φ:Funs) (h1:Φ "_law_take"=sTake) (h2:Φ "_law_form_like"=sLike) (h3:Φ "_law_deeds_of"=sDeeds) (a:Addr×Nat×List Row) (ds:List D) (G:DH) (h:pBB a ds G):wpSs Φ b_law_bent_book noE (env0 ds 6) G (ends (qBB a G)):=by
 obtain ⟨p,w,rs⟩:=a
 obtain ⟨rfl,hp,hb⟩:=h
 dsimp only at hp hb ⊢
 have hw6:=hb.w6
 have hw1:=hb.w1
 have hlen:=hb.len
 have hr:okRs w rs:=fun r h=>⟨hb.form r h,hb.deed r h⟩
 have fin:∀ (rs':List Row) (G':DH),okRs w rs'→rs'.length≤12→Pen G' p→Sb p G G'→qBB (p,w,rs) G (.tup [.int w,.tup (rs'.map dRow)]) G':=fun rs' G' h1 h2 h3 h4=>⟨rs',rfl,hb.of h1 h2,h3,h4⟩
 simp_all_arith [b_law_bent_book]
 refine seq fun M hM=>?_
 simp_arith [dBook]
 refine hM _ _ (seq fun M hM=>?_)
 simp_arith [ends]
 refine hM _ _ (seq fun M hM=>?_)
 simp_arith [ends]
 refine CompG.map (f:=fst') (I:=fun ρ=>∃ o,ρ=[o]) ⟨_,rfl⟩ trivial (by rw [List.length_map]; have hsz:sz=1000000:=rfl; omega) ?_ ?_
 ·rintro d ρ hd ⟨o,rfl⟩ kk hk
  obtain ⟨r,hr',rfl⟩:=List.mem_map.mp hd
  simp_arith [dRow]
  exact hk _ ⟨_,rfl⟩
 have ef:(rs.map dRow).map fst'=(rs.map (·.1)).map D.str:=by rw [List.map_map,List.map_map]; rfl
 rw [ef]
 refine hM _ _ (seq fun M hM=>?_)
 simp_arith [h2]
 refine like_t (fs:=rs.map (·.1)) hp hw1 (by omega) rfl (by rw [List.length_map]; omega) (fun f hf=>by obtain ⟨r,hr',rfl⟩:=List.mem_map.mp hf; exact hb.form r hr') fun m G1 hm hp1 sb1=>?_
 simp_arith [h3]
 refine deeds_t hp1 (by decide) (by decide) fun xs G2 hx0 _ hxs hp2 sb2=>?_
 simp_arith [ends]
 refine optK_in (by decide) (by rw [List.length_map]; omega) fun y hy=>?_
 obtain ⟨dd,hdd,rfl⟩:=List.mem_map.mp hy
 refine ⟨by decide,hM _ _ (seq fun M hM=>?_)⟩
 have hmd:okF w m∧okD dd:=⟨hm,hxs dd hdd⟩
 simp_arith [h1]
 refine take_t hp2 (by decide) (by decide) fun kd G3 hkd hp3 sb3=>hM _ _ (seq fun M hM=>?_)
 have sb30:=(sb1.trans sb2).trans sb3
 have hdq:deqs (rs.map dRow) []=rs.isEmpty:=by cases rs <;> rfl
 have hnr:nrs (rs.map dRow)=true∧min (dpts (rs.map dRow) + 1) (0 + 1)≤60:=⟨nrs_dRow rs,Nat.le_trans (Nat.min_le_right _ _) (by decide)⟩
 have eI:∀ q,(rs.take q).map dRow ++ [D.tup [.str m,.str dd]] ++ (rs.drop q).map dRow=(rs.take q ++ (m,dd)::rs.drop q).map dRow:=fun q=>by rw [List.map_append,List.map_cons,List.append_assoc]; rfl
 have go:rs≠[]→M [some (.ref p),some (.tup [.int w,.tup (rs.map dRow)]),some (.int w),some (.lst (rs.map dRow)),some (.lst ((rs.map (·.1)).map D.str)),some (.tup [.str m,.str dd]),some (.int kd),none] G3:=by
  intro hne
  have hpos:0 < rs.length:=List.length_pos_iff.mpr hne
  refine hM _ _ (seq fun M hM=>?_)
  simp_arith [h1,List.length_map]
  refine take_t hp3 (by omega) (by omega) fun q G4 hq hp4 sb4=>hM _ _ (seq fun M hM=>?_)
  have sb40:=sb30.trans sb4
  have hq':q < rs.length:=by omega
  cases hk1:((kd:Int)==1) with
  | true=>
   simp_arith [hk1,cut_take_map,cut_d1',← List.map_drop,List.length_map,← List.map_append]
   exact ⟨by rw [List.length_take,List.length_drop]; have hsz:sz=1000000:=rfl; omega,by decide,fin _ _ ((hr.take q).cat (hr.drop _)) (by rw [List.length_append,List.length_take,List.length_drop]; omega) hp4 sb40⟩
  | false=>
   simp_arith [hk1]
   refine hM _ _ (seq fun M hM=>?_)
   cases hk2:((kd:Int)==2) with
   | true=>
    have hc2:=cut2_len (l:=rs) (n:=q)
    simp_arith [hk2,cut_take_map,cut_d2',← List.map_drop,cut_map,← List.map_reverse,List.length_map,← List.map_append]
    rw [cut_take]
    have l1:(rs.take q ++ (cut rs (some (q:Int)) (some ((q:Int) + 2))).reverse).length≤rs.length:=by rw [List.length_append,List.length_take,List.length_reverse]; omega
    refine ⟨by rw [List.length_reverse,List.length_take]; have hsz:sz=1000000:=rfl; omega,by rw [List.length_drop]; have hsz:sz=1000000:=rfl; omega,by decide,fin _ _ (((hr.take q).cat fun y hy=>hr y (mem_cut (List.mem_reverse.mp hy))).cat (hr.drop _)) ?_ hp4 sb40⟩
    rw [List.length_append,List.length_append,List.length_take,List.length_reverse,List.length_drop]; omega
   | false=>
    simp_arith [hk2]
    refine hM _ _ (seq fun M hM=>?_)
    have hc:rs[q]?=some rs[q]:=List.getElem?_eq_getElem hq'
    have hok:=hr rs[q] (List.getElem_mem hq')
    generalize rs[q]=r at hc hok
    have hat:atI (rs.map dRow) (q:Int)=some (dRow r):=atI_nat (by rw [List.getElem?_map,hc]; rfl)
    have put:∀ (x:Row) (G5:DH),okF w x.1∧okD x.2→Pen G5 p→Sb p G G5→qBB (p,w,rs) G (.tup [.int w,.tup ((rs.take q).map dRow ++ [dRow x] ++ (rs.drop (q + 1)).map dRow)]) G5:=by
     intro x G5 hx hp5 sb5
     have e:(rs.take q).map dRow ++ [dRow x] ++ (rs.drop (q + 1)).map dRow=(rs.take q ++ [x] ++ rs.drop (q + 1)).map dRow:=by rw [List.map_append,List.map_append]; rfl
     rw [e]
     refine fin _ _ (((hr.take q).cat fun y hy=>?_).cat (hr.drop _)) (by rw [List.length_append,List.length_append,List.length_take,List.length_drop,List.length_singleton]; omega) hp5 sb5
     rw [List.mem_singleton.mp hy]; exact hx
    have sizes:∀ x:D,(rs.take q).length + (0 + 1)≤sz∧((rs.take q).map dRow ++ [x]).length + (rs.drop (q + 1)).length≤sz:=fun x=>⟨sz_t hlen,sz_td hlen⟩
    have last2:∀ (x:Row) (G5:DH),okF w x.1∧okD x.2→Pen G5 p→Sb p G G5→M [some (.ref p),some (.tup [.int w,.tup (rs.map dRow)]),some (.int w),some (.lst (rs.map dRow)),some (.lst ((rs.map (·.1)).map D.str)),some (dRow x),some (.int kd),some (.int q)] G5:=by
     intro x G5 hx hp5 sb5
     obtain ⟨s1,s2⟩:=sizes (dRow x)
     refine hM _ _ (seq fun M hM=>?_)
     cases hk4:((kd:Int)==4) with
     | false=>
      simp_arith [hk4]
      refine hM _ _ (last ?_)
      simp_arith [cut_take_map,cut_d1',← List.map_drop,List.length_map]
      exact ⟨by decide,s1,s2,by decide,put x G5 hx hp5 sb5⟩
     | true=>
      simp_arith! [hk4]
      refine last ?_
      simp_arith [h2]
      refine optK_of hat ?_
      simp_arith [dRow]
      refine ⟨by decide,like_t (fs:=[r.1]) hp5 hw1 (by omega) rfl (show 1≤1000 by decide) (fun f hf=>by rw [List.mem_singleton.mp hf]; exact hok.1) fun m' G6 hm' hp6 sb6=>optK_of hat ?_⟩
      simp_arith [dRow]
      refine ⟨by decide,hM _ _ (last ?_)⟩
      obtain ⟨s1,s2⟩:=sizes (dRow (m',r.2))
      simp_arith [cut_take_map,cut_d1',← List.map_drop,List.length_map]
      exact ⟨by decide,s1,s2,by decide,put (m',r.2) G6 ⟨hm',hok.2⟩ hp6 (sb5.trans sb6)⟩
    cases hk3:((kd:Int)==3) with
    | false=>
     simp_arith [hk3]
     exact last2 (m,dd) G4 hmd hp4 sb40
    | true=>
     simp_arith! [hk3]
     refine last ?_
     simp_arith [h1]
     refine optK_of hat ?_
     simp_arith [dRow,List.length_map]
     refine take_t hp4 (by omega) (by omega) fun q2 G5 hq2 hp5 sb5=>?_
     simp_arith [ends]
     refine optK_in (by omega) (by rw [List.length_map]; omega) fun y hy=>?_
     obtain ⟨r2,hr2,rfl⟩:=List.mem_map.mp hy
     simp_arith [dRow]
     exact ⟨by decide,last2 (r.1,r2.2) G5 ⟨hok.1,(hr r2 hr2).2⟩ hp5 (sb40.trans sb5)⟩
 cases hE:rs.isEmpty with
 | true=>
  have hl0:rs.length=0:=by rw [List.isEmpty_iff.mp hE]; rfl
  simp_arith! [hdq,hE]
  refine ⟨hnr,seq fun M hM=>?_⟩
  simp_arith [h1,List.length_map]
  refine take_t hp3 (by omega) (by omega) fun q G4 hq hp4 sb4=>hM _ _ (last ?_)
  simp_arith [cut_take_map,cut_drop_map,List.length_map]
  rw [eI]
  exact ⟨by decide,sz_t hlen,sz_td hlen,by decide,fin _ _ (hr.ins hmd.1 hmd.2) (ln_ins (by omega)) hp4 (sb30.trans sb4)⟩
 | false=>
  have hne:rs≠[]:=fun e=>by rw [e] at hE; cases hE
  cases hk0:((kd:Int)==0) with
  | false=>
   simp_arith! [hdq,hE,hk0]
   exact ⟨hnr,go hne⟩
  | true=>
   cases h12:decide ((rs.length:Int) < 12) with
   | false=>
    simp_arith! [hdq,hE,hk0,List.length_map,h12]
    exact ⟨hnr,go hne⟩
   | true=>
    have h12':=of_decide_eq_true h12
    simp_arith! [hdq,hE,hk0,List.length_map,h12]
    refine ⟨hnr,seq fun M hM=>?_⟩
    simp_arith [h1,List.length_map]
    refine take_t hp3 (by omega) (by omega) fun q G4 hq hp4 sb4=>hM _ _ (last ?_)
    simp_arith [cut_take_map,cut_drop_map,List.length_map]
    rw [eI]
    exact ⟨by decide,sz_t hlen,sz_td hlen,by decide,fin _ _ (hr.ins hmd.1 hmd.2) (ln_ins (by omega)) hp4 (sb30.trans sb4)⟩
end RF
namespace RF
open PySem L2
def pTB (a:Addr×Nat×Nat) (ds:List D) (G:DH):Prop:=ds=[.ref a.1,.int a.2.1,.int a.2.2]∧Pen G a.1∧1≤a.2.1∧a.2.1≤6∧a.2.2≤12
def qTB (a:Addr×Nat×Nat) (G:DH) (d:D) (G':DH):Prop:=∃ w rs ss,d=.tup [dBook w rs,dBook w ss]∧okB w rs∧okB w ss∧Pen G' a.1∧Sb a.1 G G'
def sTB:RF.Spec:=ghS pTB qTB
theorem tb_t {p:Addr} {w m:Nat} {G:DH} {k:D→DH→Prop} {E:EK} (hp:Pen G p) (h1:1≤w) (h2:w≤6) (h3:m≤12) (hk:∀ (v:Nat) (rs ss:List Row) (G':DH),okB v rs→okB v ss→Pen G' p→Sb p G G'→k (.tup [dBook v rs,dBook v ss]) G'):sTB.t [.ref p,.int w,.int m] G k E:=
 ghS_t (p,w,m) ⟨rfl,hp,h1,h2,h3⟩ fun d G' hx=>by
  obtain ⟨v,rs,ss,e,h1,h2,h3,h4⟩:=hx
  subst e
  exact hk v rs ss G' h1 h2 h3 h4
def wdN (w:Nat) (l:List Nat):List Nat:=(reps l 6).take w
def wdD (w:Nat):D→D
 | .tup [.str l,d]=>.tup [.str (wdN w l),d]
 | d=>d
theorem wd_ok {w v:Nat} {l:List Nat} (h:okF v l) (h1:1≤v) (h6:w≤6):okF w (wdN w l):=by
 unfold wdN
 refine ⟨?_,fun c hc=>?_⟩
 ·rw [List.length_take,reps_length,h.1]; omega
 ·have:=List.mem_of_mem_take hc
  unfold reps at this
  obtain ⟨m,hm,hc'⟩:=List.mem_flatten.mp this
  rw [List.eq_of_mem_replicate hm] at hc'
  exact h.2 c hc'
theorem w_law_two_books (Φ:Funs) (h1:Φ "_law_take"=sTake) (h2:Φ "_law_book"=sBook) (h3:Φ "_law_anew"=sAnew) (h4:Φ "_law_turned_alike"=sTA) (h5:Φ "_law_bent_book"=sBB) (a:Addr×Nat×Nat) (ds:List D) (G:DH) (h:pTB a ds G):wpSs Φ b_law_two_books noE (env0 ds 4) G (ends (qTB a G)):=by
 obtain ⟨p,wd,mo⟩:=a
 obtain ⟨rfl,hp,hw1,hw6,hmo⟩:=h
 dsimp only at hp hw1 hw6 hmo ⊢
 simp_all_arith [b_law_two_books]
 refine seq fun M hM=>?_
 simp_arith [h2,h3]
 refine anew_t hp fun G1 hp1 sb1=>?_
 refine book_t hp1 hw1 hw6 hmo fun w rs G2 hb hw hrs hp2 sb2=>hM _ _ (seq fun M hM=>?_)
 simp_arith [h1]
 refine take_t hp2 (by decide) (by decide) fun kd G3 hkd hp3 sb3=>hM _ _ (seq fun M hM=>?_)
 have sb30:=(sb1.trans sb2).trans sb3
 have fin:∀ (ss:List Row) (o6:Option D) (G4:DH),okB w ss→Pen G4 p→Sb p G G4→M [some (.ref p),some (.int wd),some (.int mo),some (dBook w rs),some (.int kd),some (dBook w ss),o6] G4:=by
  intro ss o6 G4 hb' hp4 sb4
  refine hM _ _ (last ?_)
  simp_arith [h1]
  refine ⟨by decide,by decide,by decide,take_t hp4 (by decide) (by decide) fun q G5 hq hp5 sb5=>?_⟩
  simp_arith [ends]
  have:q=0∨q=1:=by omega
  rcases this with rfl | rfl
  ·exact optK_of (a:=.tup [dBook w rs,dBook w ss]) rfl ⟨w,rs,ss,rfl,hb,hb',hp5,sb4.trans sb5⟩
  ·exact optK_of (a:=.tup [dBook w ss,dBook w rs]) rfl ⟨w,ss,rs,rfl,hb',hb,hp5,sb4.trans sb5⟩
 by_cases hk2:kd < 2
 ·have e2:decide ((kd:Int) < 2)=true:=decide_eq_true (by omega)
  simp_arith! [e2]
  refine last ?_
  simp_arith [h1,h4]
  refine take_t hp3 (by decide) (by decide) fun q G4 hq hp4 sb4=>?_
  have eq:(1:Int) + (q:Int)=((1 + q:Nat):Int):=by omega
  simp_arith [eq]
  exact ta_t hp4 hb (by omega) fun rs' G5 hb' hp5 sb5=>fin rs' _ G5 hb' hp5 ((sb30.trans sb4).trans sb5)
 ·have e2:decide ((kd:Int) < 2)=false:=decide_eq_false (by omega)
  simp_arith! [e2]
  refine last ?_
  by_cases hk4:kd < 4
  ·have e4:decide ((kd:Int) < 4)=true:=decide_eq_true (by omega)
   simp_arith! [e4]
   refine last ?_
   simp_arith [h1,h4,h5]
   refine take_t hp3 (by decide) (by decide) fun q G4 hq hp4 sb4=>?_
   refine ta_t hp4 hb (by omega) fun rs' G5 hb' hp5 sb5=>?_
   exact bb_t hp5 hb' fun rs2 G6 hb2 hp6 sb6=>fin rs2 _ G6 hb2 hp6 (((sb30.trans sb4).trans sb5).trans sb6)
  ·have e4:decide ((kd:Int) < 4)=false:=decide_eq_false (by omega)
   simp_arith! [e4]
   refine seq fun M hM=>?_
   simp_arith [h2]
   refine book_t hp3 hw1 hw6 hmo fun v ss G4 hbs hv hss hp4 sb4=>?_
   have ed:dBook v ss=.tup [.int v,.tup (ss.map dRow)]:=rfl
   simp_arith [ed]
   refine hM _ _ (last ?_)
   have edr:dBook w rs=.tup [.int w,.tup (rs.map dRow)]:=rfl
   simp_arith [edr]
   have hsl:=hbs.len
   refine CompG.map (f:=wdD w) (I:=fun ρ=>∃ o,ρ=[o,some (.tup [.int w,.tup (rs.map dRow)])]) ⟨_,rfl⟩ trivial (by rw [List.length_map]; have hsz:sz=1000000:=rfl; omega) ?_ ?_
   ·rintro d ρ hd ⟨o,rfl⟩ kk hk
    obtain ⟨r,hr',rfl⟩:=List.mem_map.mp hd
    have hrl:=(hbs.form r hr').1
    have hv6:=hbs.w6
    simp_arith [dRow,cut_take]
    exact ⟨by decide,by decide,by rw [show (6:Int).toNat=6 from rfl]; have hsz:sz=1000000:=rfl; omega,by decide,hk _ ⟨_,rfl⟩⟩
   ·have em:(ss.map dRow).map (wdD w)=(ss.map fun r=>(wdN w r.1,r.2)).map dRow:=by rw [List.map_map,List.map_map]; rfl
    rw [em]
    have hbk:okB w (ss.map fun r=>((wdN w r.1,r.2):Row)):=by
     refine ⟨hb.w1,hb.w6,by rw [List.length_map]; exact hsl,fun r hr=>?_,fun r hr=>?_⟩
     ·obtain ⟨r0,hr0,rfl⟩:=List.mem_map.mp hr
      exact wd_ok (hbs.form r0 hr0) hbs.w1 hb.w6
     ·obtain ⟨r0,hr0,rfl⟩:=List.mem_map.mp hr
      exact hbs.deed r0 hr0
    exact ⟨by decide,fin _ _ G4 hbk hp4 (sb30.trans sb4)⟩
end RF
namespace RF
open PySem L2
def T.paths:T→List (List Nat)
 | .lf _=>[[]]
 | .sp _ z o=>[]::(z.paths.map (2::·) ++ o.paths.map (3::·))
def iN (n:Nat):D:=.int (n:Int)
def pD (p:List Nat):D:=.tup (p.map iN)
theorem T.paths_len:∀ t:T,t.paths.length≤4 * 2 ^ t.dep - 1
 | .lf r=>by simp [T.paths,T.dep]
 | .sp i z o=>by
  have e1:=z.paths_len
  have e2:=o.paths_len
  have e3:=Nat.pow_le_pow_right (show 0 < 2 by decide) (Nat.le_max_left z.dep o.dep)
  have e4:=Nat.pow_le_pow_right (show 0 < 2 by decide) (Nat.le_max_right z.dep o.dep)
  rw [T.paths,T.dep,Nat.pow_succ,List.length_cons,List.length_append,List.length_map,List.length_map]
  have:=Nat.one_le_two_pow (n:=z.dep)
  have:=Nat.one_le_two_pow (n:=o.dep)
  omega
theorem T.paths_len' {t:T} (h:t.dep < 9):t.paths.length≤4096:=by
 have h1:=t.paths_len
 have h3:=Nat.pow_le_pow_right (show 0 < 2 by decide) (show t.dep≤9 by omega)
 have h4:2 ^ 9=512:=by decide
 omega
theorem T.paths_pos:∀ t:T,0 < t.paths.length
 | .lf _=>by simp [T.paths]
 | .sp _ _ _=>by simp [T.paths]
def T.sub:T→List Nat→Option T
 | t,[]=>some t
 | .lf _,_::_=>none
 | .sp _ z o,n::p=>if n=2 then z.sub p else if n=3 then o.sub p else none
def T.put:T→List Nat→T→T
 | _,[],u=>u
 | .lf r,_::_,_=>.lf r
 | .sp i z o,n::p,u=>if n=2 then .sp i (z.put p u) o else .sp i z (o.put p u)
theorem T.sub_path:∀ (t:T) (p:List Nat),p∈t.paths→∃ u,t.sub p=some u∧p.length + u.dep≤t.dep
 | .lf r,p,h=>by
  have:p=[]:=by simpa [T.paths] using h
  subst this; exact ⟨_,rfl,by simp [T.dep]⟩
 | .sp i z o,p,h=>by
  rw [T.paths] at h
  rcases List.mem_cons.mp h with e | h
  ·subst e; exact ⟨_,rfl,by simp⟩
  ·rcases List.mem_append.mp h with h | h
   ·obtain ⟨q,hq,rfl⟩:=List.mem_map.mp h
    obtain ⟨u,h1,h2⟩:=z.sub_path q hq
    exact ⟨u,by rw [T.sub,if_pos rfl]; exact h1,by rw [T.dep,List.length_cons]; omega⟩
   ·obtain ⟨q,hq,rfl⟩:=List.mem_map.mp h
    obtain ⟨u,h1,h2⟩:=o.sub_path q hq
    exact ⟨u,by rw [T.sub,if_neg (by decide),if_pos rfl]; exact h1,by rw [T.dep,List.length_cons]; omega⟩
theorem T.put_dep:∀ (t:T) (p:List Nat) (u v:T) (m:Nat),t.sub p=some v→p.length + u.dep≤m→t.dep≤m→(t.put p u).dep≤m
 | t,[],u,v,m,_,h1,_=>by cases t <;> simpa [T.put] using h1
 | .lf r,_::_,u,v,m,_,_,h2=>h2
 | .sp i z o,n::p,u,v,m,hs,h1,h2=>by
  rw [T.sub] at hs
  rw [T.dep] at h2
  rw [List.length_cons] at h1
  rw [T.put]
  split at hs
  ·rename_i e
   rw [if_pos e,T.dep]
   have:=z.put_dep p u v (m - 1) hs (by omega) (by omega)
   omega
  ·rename_i e
   rw [if_neg e,T.dep]
   split at hs
   ·have:=o.put_dep p u v (m - 1) hs (by omega) (by omega)
    omega
   ·cases hs
theorem T.put_two:∀ (t:T) (p:List Nat) (u:T),t.two→u.two→(t.put p u).two
 | t,[],u,_,h=>by cases t <;> simpa [T.put] using h
 | .lf r,_::_,u,h,_=>h
 | .sp i z o,n::p,u,h,hu=>by
  rw [T.put]
  split
  ·exact ⟨z.put_two p u h.1 hu,h.2⟩
  ·exact ⟨h.1,o.put_two p u h.2 hu⟩
theorem T.sub_two:∀ (t:T) (p:List Nat) (u:T),t.two→t.sub p=some u→u.two
 | t,[],u,h,hs=>by cases t <;> (cases hs; exact h)
 | .lf r,_::_,u,_,hs=>by cases hs
 | .sp i z o,n::p,u,h,hs=>by
  rw [T.sub] at hs
  split at hs
  ·exact z.sub_two p u h.1 hs
  ·split at hs
   ·exact o.sub_two p u h.2 hs
   ·cases hs
def sPaths (n:Nat):RF.Spec:=ghS (A:=T) (fun t ds _=>ds=[t.d sameT]∧t.dep < n∧n≤9) (fun t G d G'=>Sa G G'∧d=.lst (t.paths.map pD))
theorem paths_t {n:Nat} {t:T} {G:DH} {k:D→DH→Prop} {E:EK} (h1:t.dep < n) (h2:n≤9) (hk:∀ G',Sa G G'→k (.lst (t.paths.map pD)) G'):(sPaths n).t [t.d sameT] G k E:=
 ghS_t t ⟨rfl,h1,h2⟩ fun d G' ⟨e1,e2⟩=>by subst e2; exact hk G' e1
theorem paths_zero (ds:List D) (G:DH) (a:(sPaths 0).A):¬ (sPaths 0).pre ds G a:=fun ⟨_,_,h,_⟩=>by omega
theorem w_law_paths (Φ:Funs) (n:Nat) (h0:Φ "_law_paths"=sPaths n) (t:T) (ds:List D) (G:DH) (h:ds=[t.d sameT]∧t.dep < n + 1∧n + 1≤9):wpSs Φ b_law_paths noE (env0 ds 2) G (ends fun d G'=>Sa G G'∧d=.lst (t.paths.map pD)):=by
 obtain ⟨rfl,hd,hn⟩:=h
 have hme:(([115,97,109,101]==[115,112,108,105,116]):Bool)=false:=by decide
 simp_all_arith [b_law_paths]
 refine seq fun M hM=>?_
 simp_arith [ends]
 refine ⟨by decide,fun q hq=>hM _ _ (seq fun M hM=>?_)⟩
 cases t with
 | lf r=>
  simp_arith [T.d,sameT,hme]
  refine hM _ _ (last ?_)
  simp_arith [ends]
  rw [gupd_same]
  exact ⟨Sa.frz (Sa.new hq) hq,rfl⟩
 | sp i z o=>
  rw [T.dep] at hd
  simp_arith! [T.d,splitT,BEq.rfl]
  refine last ?_
  simp_arith! [ends]
  refine ⟨by decide,ForG.inv (P:=fun i' ρ G'=>(∃ o2,ρ=[some (.tup [.str splitT,.int i,z.d sameT,o.d sameT]),some (.ref q),o2])∧Sa G G'∧G' q=some (.lst ((([]:List Nat)::(if 0 < i' then z.paths.map (2::·) else []) ++ (if 1 < i' then o.paths.map (3::·) else [])).map pD))) ⟨⟨_,rfl⟩,Sa.new hq,gupd_same⟩ (fun _ _ _ _=>trivial) ?_ ?_⟩
  ·rintro i' d ρ G' hd' ⟨⟨o2,rfl⟩,sa,gq⟩ kk hk
   have step:∀ (u:T) (sd:Nat),u.dep < n→(z=u∧sd=2∧i'=0∨o=u∧sd=3∧i'=1)→d=.int (sd:Int)→atI [.str splitT,.int i,z.d sameT,o.d sameT] (sd:Int)=some (u.d sameT)→bindT (.nm 2) d [some (.tup [.str splitT,.int i,z.d sameT,o.d sameT]),some (.ref q),o2] G' fun ρ1=>wpSs Φ (.cons (.exp (.mth .extend (.var 1) (.cons (.comp true (.bin .Add true (.tup (.cons (.var 1) .nil)) (.var 0)) (.nm 0) (.seq (.call "_law_paths" (.cons (.idx (.var 0) (.var 2)) .nil))) .yes ["path","side"] [none,some 2]) .nil))) .nil) noE ρ1 G' { ends (fun d G'=>Sa G G'∧d=.lst (((T.sp i z o).paths).map pD)) with nx:=kk,ct:=kk,bk:=M }:=by
    rintro u sd hud hcase rfl hat
    simp_arith! [ends]
    refine last ?_
    simp_arith [trk_eq gq,h0]
    refine optK_of hat ?_
    refine paths_t hud (by omega) fun G2 sa2=>?_
    have gq2:=sa2 _ _ gq
    have hpl:=T.paths_len' (t:=u) (by omega)
    simp_arith [ends]
    refine CompG.inv (P:=fun j acc ρ G''=>(∃ o,ρ=[o,some (.int (sd:Int))])∧G''=G2∧acc=((u.paths.take j).map (sd::·)).map pD) ⟨⟨_,rfl⟩,rfl,rfl⟩ (fun _ _ _ _ _=>trivial) (by rw [List.length_map]; have hsz:sz=1000000:=rfl; omega) ?_ ?_
    ·rintro j d acc ρ G'' hd2 ⟨⟨o,rfl⟩,rfl,rfl⟩ kk' hk'
     rw [List.getElem?_map] at hd2
     obtain ⟨p,hp,rfl⟩:=Option.map_eq_some_iff.mp hd2
     have htk:u.paths.take (j + 1)=u.paths.take j ++ [p]:=by rw [List.take_add_one,hp]; rfl
     obtain ⟨_,_,hpd⟩:=u.sub_path p (List.mem_of_getElem? hp)
     simp_arith [pD]
     refine ⟨by decide,by rw [List.length_map]; have hsz:sz=1000000:=rfl; omega,hk' _ _ _ ⟨⟨_,rfl⟩,rfl,?_⟩⟩
     rw [htk]
     simp [pD,iN]
    ·rintro acc ρ G'' ⟨_,rfl,rfl⟩
     have el:(u.paths.map pD).length=u.paths.length:=List.length_map _
     simp only [el,List.take_length,trk_eq gq2]
     refine ⟨?_,hk _ _ ⟨⟨_,rfl⟩,(sa.trans sa2).then hq Sb.upd,?_⟩⟩
     ·have h1:=T.paths_len' (t:=z) (by omega)
      have h2:=T.paths_len' (t:=o) (by omega)
      have e1:(if 0 < i' then z.paths.map (2::·) else []).length≤4096:=by split <;> simp; omega
      have e2:(if 1 < i' then o.paths.map (3::·) else []).length≤4096:=by split <;> simp; omega
      simp only [List.length_map,List.length_cons,List.length_append] at e1 e2 ⊢
      have hsz:sz=1000000:=rfl; omega
     ·rw [gupd_same]
      rcases hcase with ⟨rfl,rfl,rfl⟩ | ⟨rfl,rfl,rfl⟩ <;> simp
   have hlt:=(List.getElem?_eq_some_iff.mp hd').1
   have:i'=0∨i'=1:=by
    have:i' < 2:=hlt
    omega
   rcases this with e | e
   ·subst e
    exact step z 2 (by omega) (.inl ⟨rfl,rfl,rfl⟩) (by simpa using hd'.symm) rfl
   ·subst e
    exact step o 3 (by omega) (.inr ⟨rfl,rfl,rfl⟩) (by simpa using hd'.symm) rfl
  ·rintro ρ G' ⟨⟨o2,rfl⟩,sa,gq⟩
   refine hM _ _ (last ?_)
   simp_arith [ends]
   rw [gq]
   refine ⟨sa.frz hq,?_⟩
   rw [T.paths]; rfl
def sPart:RF.Spec:=valS (fun a:T×List Nat×T=>[a.1.d sameT,pD a.2.1]) (fun a=>a.1.sub a.2.1=some a.2.2) (fun a=>a.2.2.d sameT)
theorem part_t {t u:T} {p:List Nat} {G:DH} {k:D→DH→Prop} {E:EK} (h:t.sub p=some u) (hk:k (u.d sameT) G):sPart.t [t.d sameT,pD p] G k E:=valS_t (t,p,u) rfl h hk
theorem T.sub_snoc:∀ (t:T) (p:List Nat) (n:Nat),t.sub (p ++ [n])=(t.sub p).bind fun v=>v.sub [n]
 | t,[],n=>by cases t <;> rfl
 | .lf r,_::_,n=>rfl
 | .sp i z o,m::p,n=>by
  rw [List.cons_append,T.sub,T.sub]
  split
  ·exact z.sub_snoc p n
  ·split
   ·exact o.sub_snoc p n
   ·rfl
theorem T.sub_app:∀ (t:T) (p q:List Nat),t.sub (p ++ q)=(t.sub p).bind fun v=>v.sub q
 | t,[],q=>by cases t <;> rfl
 | .lf r,_::_,q=>rfl
 | .sp i z o,m::p,q=>by
  rw [List.cons_append,T.sub,T.sub]
  split
  ·exact z.sub_app p q
  ·split
   ·exact o.sub_app p q
   ·rfl
theorem w_law_part (Φ:Funs) (a:T×List Nat×T) (G:DH) (h:a.1.sub a.2.1=some a.2.2):wpSs Φ b_law_part noE (env0 [a.1.d sameT,pD a.2.1] 1) G (ends fun d G'=>G'=G∧d=a.2.2.d sameT):=by
 obtain ⟨t,p,u⟩:=a
 dsimp only at h ⊢
 simp_all_arith [b_law_part]
 refine seq fun M hM=>?_
 simp_arith! [pD]
 refine ForG.inv (P:=fun i ρ G'=>(∃ (v:T) (o2:Option D),ρ=[some (v.d sameT),some (.tup (p.map iN)),o2]∧t.sub (p.take i)=some v)∧G'=G) ⟨⟨t,_,rfl,by cases t <;> rfl⟩,rfl⟩ (fun _ _ _ _=>trivial) ?_ ?_
 ·rintro i d ρ G' hd ⟨⟨v,o2,rfl,hv⟩,rfl⟩ kk hk
  rw [List.getElem?_map] at hd
  obtain ⟨n,hn,rfl⟩:=Option.map_eq_some_iff.mp hd
  have htk:p.take (i + 1)=p.take i ++ [n]:=by rw [List.take_add_one,hn]; rfl
  have hs:∃ v',v.sub [n]=some v':=by
   have e:=T.sub_snoc t (p.take i) n
   rw [hv] at e
   have hle:t.sub (p.take i ++ [n])≠none:=by
    intro hno
    have hp:p=(p.take i ++ [n]) ++ p.drop (i + 1):=by rw [← htk,List.take_append_drop]
    rw [hp] at h
    rw [T.sub_app,hno] at h
    cases h
   cases hh:v.sub [n] with
   | none=>rw [e] at hle; exact absurd hh hle
   | some v'=>exact ⟨v',rfl⟩
  obtain ⟨v',hv'⟩:=hs
  have hnew:t.sub (p.take (i + 1))=some v':=by rw [htk,T.sub_snoc,hv]; exact hv'
  cases v with
  | lf r=>cases hv'
  | sp j z o=>
   simp_arith! [iN,T.d]
   refine last ?_
   simp_arith [ends]
   rw [T.sub] at hv'
   split at hv'
   ·rename_i e
    subst e
    have:z=v':=by cases z <;> simpa [T.sub] using hv'
    subst this
    exact optK_of (a:=z.d sameT) rfl (hk _ _ ⟨⟨z,_,rfl,hnew⟩,rfl⟩)
   ·split at hv'
    ·rename_i e
     subst e
     have:o=v':=by cases o <;> simpa [T.sub] using hv'
     subst this
     exact optK_of (a:=o.d sameT) rfl (hk _ _ ⟨⟨o,_,rfl,hnew⟩,rfl⟩)
    ·cases hv'
 ·rintro ρ G' ⟨⟨v,o2,rfl,hv⟩,rfl⟩
  rw [List.length_map,List.take_length,h] at hv
  cases hv
  refine hM _ _ ?_
  simp_arith [ends]
def sPutP (n:Nat):RF.Spec:=valS (fun a:T×List Nat×T×T=>[a.1.d sameT,pD a.2.1,a.2.2.1.d sameT]) (fun a=>a.1.sub a.2.1=some a.2.2.2∧a.2.1.length < n) (fun a=>(a.1.put a.2.1 a.2.2.1).d sameT)
theorem putp_t {n:Nat} {t u v:T} {p:List Nat} {G:DH} {k:D→DH→Prop} {E:EK} (h:t.sub p=some v) (hn:p.length < n) (hk:k ((t.put p u).d sameT) G):(sPutP n).t [t.d sameT,pD p,u.d sameT] G k E:=valS_t (t,p,u,v) rfl ⟨h,hn⟩ hk
theorem putp_zero (ds:List D) (G:DH) (a:(sPutP 0).A):¬ (sPutP 0).pre ds G a:=fun ⟨_,_,_,h⟩=>by omega
theorem w_law_put_part (Φ:Funs) (n:Nat) (h0:Φ "_law_put_part"=sPutP n) (a:T×List Nat×T×T) (G:DH) (h:a.1.sub a.2.1=some a.2.2.2∧a.2.1.length < n + 1):wpSs Φ b_law_put_part noE (env0 [a.1.d sameT,pD a.2.1,a.2.2.1.d sameT] 1) G (ends fun d G'=>G'=G∧d=(a.1.put a.2.1 a.2.2.1).d sameT):=by
 obtain ⟨t,p,u,v⟩:=a
 obtain ⟨h,hn⟩:=h
 dsimp only at h hn ⊢
 simp_all_arith [b_law_put_part]
 refine seq fun M hM=>?_
 cases p with
 | nil=>
  simp_arith [pD,List.map_nil]
  refine ⟨by decide,?_⟩
  cases t <;> rfl
 | cons m p=>
  have hnr:nrs (p.map iN)=true:=nrs_of fun d hd=>by obtain ⟨_,_,rfl⟩:=List.mem_map.mp hd; rfl
  simp_arith [pD,List.map_cons]
  refine ⟨⟨by rw [hnr]; rfl,Nat.le_trans (Nat.min_le_right _ _) (by decide)⟩,hM _ _ (seq fun M hM=>?_)⟩
  simp_arith [ends]
  refine hM _ _ (last ?_)
  cases t with
  | lf r=>cases h
  | sp i z o=>
   rw [List.length_cons] at hn
   rw [T.sub] at h
   split at h
   ·rename_i e
    subst e
    simp_arith [T.d,iN,h0,cut_tail]
    refine optK_of (a:=z.d sameT) rfl ?_
    refine putp_t (p:=p) h (by omega) ?_
    exact ⟨by decide,show 2 + (0 + 1)≤sz by decide,show 3 + 1≤sz by decide,rfl,by rw [T.put,if_pos rfl]; rfl⟩
   ·rename_i e2
    split at h
    ·rename_i e
     subst e
     simp_arith [T.d,iN,h0,cut_tail]
     refine optK_of (a:=o.d sameT) rfl ?_
     refine putp_t (p:=p) h (by omega) ?_
     exact ⟨by decide,show 3 + (0 + 1)≤sz by decide,show 4 + 0≤sz by decide,rfl,by rw [T.put,if_neg (by decide)]; rfl⟩
    ·cases h
end RF
namespace RF
open PySem L2
def sCut:RF.Spec:=valS (fun a:List Nat×Nat=>[.str a.1,.int (a.2:Nat)]) (fun a=>a.2 < a.1.length∧a.1.length≤12) (fun a=>.lst [.str (a.1.set a.2 48),.str (a.1.set a.2 49)])
theorem cut_t {b:List Nat} {n:Nat} {G:DH} {k:D→DH→Prop} {E:EK} (h1:n < b.length) (h2:b.length≤12) (hk:k (.lst [.str (b.set n 48),.str (b.set n 49)]) G):sCut.t [.str b,.int (n:Nat)] G k E:=valS_t (b,n) rfl ⟨h1,h2⟩ hk
theorem w_law_cut (Φ:Funs) (a:List Nat×Nat) (G:DH) (h:a.2 < a.1.length∧a.1.length≤12):wpSs Φ b_law_cut noE (env0 [.str a.1,.int (a.2:Nat)] 0) G (ends fun d G'=>G'=G∧d=.lst [.str (a.1.set a.2 48),.str (a.1.set a.2 49)]):=by
 obtain ⟨b,n⟩:=a
 obtain ⟨h1,h2⟩:=h
 dsimp only at h1 h2 ⊢
 simp_all_arith [b_law_cut]
 refine last ?_
 simp_arith [List.map_cons,List.map_nil]
 refine CompG.inv (P:=fun i acc ρ G'=>(∃ o,ρ=[o,some (.str b),some (.int (n:Nat))])∧G'=G∧acc=([48,49].take i).map fun c=>D.str (b.set n c)) ⟨⟨_,rfl⟩,rfl,rfl⟩ (fun _ _ _ _ _=>trivial) (show 2≤sz by decide) ?_ ?_
 ·rintro i d acc ρ G' hd ⟨⟨o,rfl⟩,rfl,rfl⟩ kk hk
  have hd:([48,49].map fun c=>D.str [c])[i]?=some d:=hd
  rw [List.getElem?_map] at hd
  obtain ⟨c,hc,rfl⟩:=Option.map_eq_some_iff.mp hd
  simp_arith [cut_take,cut_drop1,List.length_append,List.length_take,List.length_drop,put_set h1]
  refine ⟨by have hsz:sz=1000000:=rfl; omega,by have hsz:sz=1000000:=rfl; omega,hk _ _ _ ⟨⟨_,rfl⟩,rfl,?_⟩⟩
  rw [List.take_add_one,hc]; simp
 ·rintro acc ρ G' ⟨_,rfl,rfl⟩
  simp_arith [ends]
  rfl
structure TO' where
 p:Addr
 w:Nat
 rs:List Row
 ss:List Row
 b:List Nat
def pTO (n:Nat) (a:TO') (ds:List D) (G:DH):Prop:=ds=[.ref a.p,.lst [dBook a.w a.rs,dBook a.w a.ss],.str a.b]∧Pen G a.p∧okB a.w a.rs∧okB a.w a.ss∧okF a.w a.b∧stc a.b < n
def qTO (a:TO') (G:DH) (d:D) (G':DH):Prop:=∃ t:T,d=t.d sameT∧t.two∧t.dep≤stc a.b∧Pen G' a.p∧Sb a.p G G'
def sTreeOf (n:Nat):RF.Spec:=ghS (pTO n) qTO
theorem treeof_t {n:Nat} {p:Addr} {w:Nat} {rs ss:List Row} {b:List Nat} {G:DH} {k:D→DH→Prop} {E:EK} (hp:Pen G p) (h1:okB w rs) (h1':okB w ss) (h2:okF w b) (h3:stc b < n) (hk:∀ (t:T) (G':DH),t.two→t.dep≤stc b→Pen G' p→Sb p G G'→k (t.d sameT) G'):(sTreeOf n).t [.ref p,.lst [dBook w rs,dBook w ss],.str b] G k E:=
 ghS_t ⟨p,w,rs,ss,b⟩ ⟨rfl,hp,h1,h1',h2,h3⟩ fun d G' hx=>by
  obtain ⟨t,e,h1,h2,h3,h4⟩:=hx
  subst e
  exact hk t G' h1 h2 h3 h4
theorem treeof_zero (ds:List D) (G:DH) (a:(sTreeOf 0).A):¬ (sTreeOf 0).pre ds G a:=fun ⟨_,_,_,_,_,_,h⟩=>by omega
def starsL (b:List Nat):List Nat:=(List.range b.length).filter fun n=>b[n]?==some 42
theorem w_law_tree_of (Φ:Funs) (n:Nat) (h0:Φ "_law_tree_of"=sTreeOf n) (h1:Φ "_law_met"=sLMet) (h2:Φ "_law_words"=sWords) (h3:Φ "_law_all_meet"=sAllM) (h4:Φ "_law_take"=sTake) (h5:Φ "_law_cut"=sCut) (a:TO') (ds:List D) (G:DH) (h:pTO (n + 1) a ds G):
  wpSs Φ b_law_tree_of noE (env0 ds 6) G (ends (qTO a G)):=by
 obtain ⟨p,w,rs,ss,b⟩:=a
 obtain ⟨rfl,hp,hb,hb',hF,hs⟩:=h
 dsimp only at hp hb hb' hF hs ⊢
 have hw6:=hb.w6
 have hbl:=hF.1
 have hrl:∀ r∈rs,r.1.length=b.length:=fun r hr=>by rw [(hb.form r hr).1,hbl]
 have hsl':∀ r∈ss,r.1.length=b.length:=fun r hr=>by rw [(hb'.form r hr).1,hbl]
 simp_all_arith [b_law_tree_of]
 refine seq fun M hM=>?_
 simp_arith [ends]
 refine CompG.inv (P:=fun i acc ρ G'=>(∃ o,ρ=[o,some (.str b)])∧Sa G G'∧∃ x y:Option Nat,acc=([optD x,optD y].take i)) ⟨⟨_,rfl⟩,Sa.refl _,none,none,rfl⟩ (fun _ _ _ _ _=>trivial) (show 2≤sz by decide) ?_ ?_
 ·rintro i d acc ρ G' hd ⟨⟨o,rfl⟩,sa,x,y,rfl⟩ kk hk
  have hne:0 < (wordsL b).length:=by rw [wordsL_R,words_pow]; exact Nat.one_le_two_pow
  have hw0:(wordsL b)[0]?=some (wordsL b)[0]:=List.getElem?_eq_getElem hne
  have one:∀ (xs:List Row),(∀ r∈xs,r.1.length=b.length)→d=dBook w xs→(∀ G1,Sa G' G1→kk (some (optD (metN xs (wordsL b)[0]))) [some (dBook w xs),some (.str b)] G1)→bindT (.nm 0) d [o,some (.str b)] G' fun ρ1=>wpT Φ .yes noE ρ1 G' fun b G2=>match b with | true=>wpE Φ (.call "_law_met" (.cons (.var 0) (.cons (.idx (.call "_law_words" (.cons (.var 1) .nil)) (.cst (.int 0))) .nil))) noE ρ1 G2 fun y G3=>kk (some y) ρ1 G3 | false=>kk none ρ1 G2:=by
   intro xs hxl e hkk
   subst e
   simp_arith [h2]
   refine words_t (by omega) fun G1 sa1=>?_
   simp_arith [h1]
   refine optK_of (a:=.str (wordsL b)[0]) (atI_nat (j:=0) (by rw [List.getElem?_map,hw0]; rfl)) ?_
   exact lmet_t (fun r hr=>by rw [hxl r hr,words_len (List.getElem_mem hne)]) (hkk _ sa1)
  have hi:i=0∨i=1:=by
   have:=(List.getElem?_eq_some_iff.mp hd).1
   have:i < 2:=this
   omega
  rcases hi with rfl | rfl
  ·exact one rs hrl (by simpa using hd.symm) fun G1 sa1=>hk _ _ _ ⟨⟨_,rfl⟩,sa.trans sa1,_,y,rfl⟩
  ·exact one ss hsl' (by simpa using hd.symm) fun G1 sa1=>hk _ _ _ ⟨⟨_,rfl⟩,sa.trans sa1,x,_,rfl⟩
 ·rintro acc ρ G1 ⟨_,sa1,x,y,rfl⟩
  have hp1:=hp.sa sa1
  have ex:∀ x:Option Nat,optD x=oI (x.map fun n:Nat=>(n:Int)):=fun x=>by cases x <;> rfl
  refine hM _ _ (seq fun M hM=>?_)
  simp_arith [ends]
  refine ⟨by omega,CompG.inv (P:=fun i acc ρ G'=>(∃ o,ρ=[o,some (.str b)])∧G'=G1∧acc=((List.range i).filter fun n=>b[n]?==some 42).map iN) ⟨⟨_,rfl⟩,rfl,rfl⟩ (fun _ _ _ _ _=>trivial) (by simp [rangeL]; have hsz:sz=1000000:=rfl; omega) ?_ ?_⟩
  ·rintro i d acc ρ G' hd ⟨⟨o,rfl⟩,rfl,rfl⟩ kk hk
   have hi:i < b.length:=by
    have:=(List.getElem?_eq_some_iff.mp hd).1
    simpa [rangeL] using this
   have hdi:d=.int (i:Int):=by
    unfold rangeL at hd
    rw [List.getElem?_map,List.getElem?_range (by simpa using hi)] at hd
    simpa using hd.symm
   subst hdi
   have hc:b[i]?=some b[i]:=List.getElem?_eq_getElem hi
   simp_arith [ends]
   refine optK_of (a:=b[i]) (atI_nat hc) ?_
   simp_arith [sg_eq]
   cases h42:(b[i]==42) with
   | true=>exact hk _ _ _ ⟨⟨_,rfl⟩,rfl,by rw [List.range_succ,List.filter_append,List.filter_cons,hc]; simp [iN,h42]⟩
   | false=>exact hk _ _ _ ⟨⟨_,rfl⟩,rfl,by rw [List.range_succ,List.filter_append,List.filter_cons,hc]; simp [iN,h42]⟩
  ·rintro acc ρ G2 ⟨_,rfl,rfl⟩
   have el:((List.range (rangeL 0 (b.length:Int).toNat).length).filter fun n=>b[n]?==some 42).map iN=(starsL b).map iN:=by unfold starsL; simp [rangeL]
   rw [el]
   have hsl:(starsL b).length≤b.length:=Nat.le_trans (List.length_filter_le _ _) (by simp)
   refine hM _ _ (seq fun M hM=>?_)
   simp_arith [ends]
   refine CompG.inv (P:=fun i acc ρ G'=>(∃ o1 o2,ρ=[o1,o2,some (.str b)])∧Sa G2 G'∧∃ b1 b2:Bool,acc=([D.bl b1,D.bl b2].take i)) ⟨⟨_,_,rfl⟩,Sa.refl _,true,true,rfl⟩ (fun _ _ _ _ _=>trivial) (show 2≤sz by decide) ?_ ?_
   ·rintro i d acc ρ G' hd ⟨⟨o1,o2,rfl⟩,sa,b1,b2,rfl⟩ kk hk
    have hi:i=0∨i=1:=by
     have:=(List.getElem?_eq_some_iff.mp hd).1
     have:i < 2:=this
     omega
    rcases hi with rfl | rfl
    ·have hd:d=.tup [dBook w rs,optD x]:=by simpa [zipL] using hd.symm
     subst hd
     simp_arith [h3]
     rw [ex]
     exact allm_t (by omega) hrl fun G3 sa3=>hk _ _ _ ⟨⟨_,_,rfl⟩,sa.trans sa3,_,b2,rfl⟩
    ·have hd:d=.tup [dBook w ss,optD y]:=by simpa [zipL] using hd.symm
     subst hd
     simp_arith [h3]
     rw [ex]
     exact allm_t (by omega) hsl' fun G3 sa3=>hk _ _ _ ⟨⟨_,_,rfl⟩,sa.trans sa3,b1,_,rfl⟩
   ·rintro acc ρ G3 ⟨_,sa3,b1,b2,rfl⟩
    have hp3:=hp1.sa sa3
    have sb3:Sb p G G3:=(sa1.trans sa3).sb
    refine optK_of (a:=[b1,b2]) rfl ?_
    show M [some (.ref p),some (.lst [dBook w rs,dBook w ss]),some (.str b),some (.lst [optD x,optD y]),some (.lst ((starsL b).map iN)),some (.bl ([b1,b2].all id)),none,none,none] G3
    generalize [b1,b2].all id=bb
    refine hM _ _ (seq fun M hM=>?_)
    have leaf:∀ G4:DH,Pen G4 p→Sb p G G4→qTO ⟨p,w,rs,ss,b⟩ G (D.tup [.str sameT,optD x,optD y]) G4:=fun G4 h1 h2=>⟨.lf [x.map fun n:Nat=>(n:Int),y.map fun n:Nat=>(n:Int)],by rw [ex,ex]; rfl,rfl,Nat.zero_le _,h1,h2⟩
    have go:∀ (G4:DH),starsL b≠[]→Pen G4 p→Sb p G G4→M [some (.ref p),some (.lst [dBook w rs,dBook w ss]),some (.str b),some (.lst [optD x,optD y]),some (.lst ((starsL b).map iN)),some (.bl bb),none,none,none] G4:=by
     intro G4 hne hp4 sb4
     have hpos:0 < (starsL b).length:=List.length_pos_iff.mpr hne
     refine hM _ _ (seq fun M hM=>?_)
     simp_arith [h4,List.length_map]
     refine take_t hp4 (by omega) (by omega) fun q G5 hq hp5 sb5=>?_
     simp_arith [ends]
     refine optK_in (by omega) (by simp; omega) fun y hy=>?_
     obtain ⟨m,hm,rfl⟩:=List.mem_map.mp hy
     have hm42:b[m]?=some 42:=by
      unfold starsL at hm
      simpa using (List.mem_filter.mp hm).2
     have hml:=(List.getElem?_eq_some_iff.mp hm42).1
     have s1:=stc_set hm42 (show 48≠42 by decide)
     have s2:=stc_set hm42 (show 49≠42 by decide)
     refine hM _ _ (seq fun M hM=>?_)
     simp_arith [h5,iN]
     refine cut_t hml (by omega) ?_
     simp_arith [ends]
     refine hM _ _ (last ?_)
     simp_arith [h0]
     refine treeof_t hp5 hb hb' (okF_set hF isF0) (by omega) fun z G6 z1 z2 hp6 sb6=>?_
     refine treeof_t hp6 hb hb' (okF_set hF isF1) (by omega) fun o G7 o1 o2 hp7 sb7=>?_
     refine ⟨by decide,.sp m z o,rfl,⟨z1,o1⟩,?_,hp7,((sb4.trans sb5).trans sb6).trans sb7⟩
     show (T.sp (m:Int) z o).dep≤stc b
     rw [T.dep]
     omega
    have fin:∀ (G4:DH),Pen G4 p→Sb p G G4→0 + 1 + 1≤sz∧optK (atI [D.str [109,101,116],D.str [115,97,109,101]] (((0 + 1 + 1:Nat):Int) - 1)) fun d=>0 + 1≤sz∧0 + 1 + (0 + 1 + 1)≤sz∧qTO ⟨p,w,rs,ss,b⟩ G (D.tup [d,optD x,optD y]) G4:=fun G4 h1 h2=>⟨by decide,optK_of (a:=.str sameT) rfl ⟨by decide,by decide,leaf G4 h1 h2⟩⟩
    cases hst:starsL b with
    | nil=>
     simp_arith [List.map_nil]
     exact ⟨by decide,fin G3 hp3 sb3⟩
    | cons y ys=>
     have hne:starsL b≠[]:=by rw [hst]; simp
     rw [hst] at go
     have hnr:nrs ((y::ys).map iN)=true:=nrs_of fun d hd=>by obtain ⟨_,_,rfl⟩:=List.mem_map.mp hd; rfl
     rw [List.map_cons] at hnr go
     simp_arith [List.map_cons]
     refine ⟨⟨by simpa [nrs] using hnr,Nat.le_trans (Nat.min_le_right _ _) (by decide)⟩,?_⟩
     cases bb with
     | false=>
      simp_arith [ends]
      exact go _ (by simp) hp3 sb3
     | true=>
      simp_arith [h4]
      refine take_t hp3 (by decide) (by decide) fun q G4 hq hp4 sb4=>?_
      simp_arith [ends]
      cases hq0:decide (0 < (q:Int)) with
      | true=>
       simp_arith [ends]
       exact fin G4 hp4 (sb3.trans sb4)
      | false=>
       simp_arith [ends]
       exact go _ (by simp) hp4 (sb3.trans sb4)
def sBent:RF.Spec:=ghS (A:=Addr×T×Nat) (fun a ds G=>ds=[.ref a.1,a.2.1.d sameT,.int (a.2.2:Nat)]∧Pen G a.1∧a.2.1.two∧a.2.1.dep < 8∧a.2.2≤12) (fun a G d G'=>∃ t:T,d=t.d sameT∧t.two∧t.dep≤a.2.1.dep + 1∧Pen G' a.1∧Sb a.1 G G')
theorem bent_t {p:Addr} {t:T} {m:Nat} {G:DH} {k:D→DH→Prop} {E:EK} (hp:Pen G p) (h1:t.two) (h2:t.dep < 8) (h3:m≤12) (hk:∀ (u:T) (G':DH),u.two→u.dep≤t.dep + 1→Pen G' p→Sb p G G'→k (u.d sameT) G'):sBent.t [.ref p,t.d sameT,.int (m:Nat)] G k E:=
 ghS_t (p,t,m) ⟨rfl,hp,h1,h2,h3⟩ fun d G' ⟨u,e,h1,h2,h3,h4⟩=>by subst e; exact hk u G' h1 h2 h3 h4
theorem w_law_bent_tree (Φ:Funs) (h1:Φ "_law_paths"=sPaths 9) (h2:Φ "_law_part"=sPart) (h3:Φ "_law_put_part"=sPutP 9) (h4:Φ "_law_take"=sTake) (a:Addr×T×Nat) (ds:List D) (G:DH) (h:ds=[.ref a.1,a.2.1.d sameT,.int (a.2.2:Nat)]∧Pen G a.1∧a.2.1.two∧a.2.1.dep < 8∧a.2.2≤12):
  wpSs Φ b_law_bent_tree noE (env0 ds 7) G (ends fun d G'=>∃ t:T,d=t.d sameT∧t.two∧t.dep≤a.2.1.dep + 1∧Pen G' a.1∧Sb a.1 G G'):=by
 obtain ⟨p,t,m⟩:=a
 obtain ⟨rfl,hp,h1o,hd,hm⟩:=h
 dsimp only at hp h1o hd hm ⊢
 simp_all_arith [b_law_bent_tree]
 refine seq fun M hM=>?_
 simp_arith [h1]
 refine paths_t (by omega) (by decide) fun G1 sa1=>hM _ _ (seq fun M hM=>?_)
 have hp1:=hp.sa sa1
 have hpl:=T.paths_len' (t:=t) (by omega)
 have hpp:=t.paths_pos
 simp_arith [h4,List.length_map]
 refine take_t hp1 (by omega) (by omega) fun q G2 hq hp2 sb2=>?_
 simp_arith [ends]
 refine optK_in (by omega) (by simp; omega) fun y hy=>?_
 obtain ⟨pth,hpth,rfl⟩:=List.mem_map.mp hy
 obtain ⟨u,hu,hud⟩:=t.sub_path pth hpth
 have huo:=t.sub_two pth u h1o hu
 have sb20:Sb p G G2:=sa1.sb.trans sb2
 refine hM _ _ (seq fun M hM=>?_)
 simp_arith [h2]
 refine part_t hu (hM _ _ (seq fun M hM=>?_))
 have fin:∀ (v:T) (G4:DH),v.two→v.dep≤u.dep + 1→Pen G4 p→Sb p G G4→(sPutP 9).t [t.d sameT,pD pth,v.d sameT] G4 (fun d G'=>∃ t':T,d=t'.d sameT∧t'.two∧t'.dep≤t.dep + 1∧Pen G' p∧Sb p G G') noE:=fun v G4 v1 v2 hp4 sb4=>
  putp_t hu (by omega) ⟨t.put pth v,rfl,t.put_two pth v h1o v1,t.put_dep pth v u (t.dep + 1) hu (by omega) (by omega),hp4,sb4⟩
 simp_arith [h4]
 refine ⟨cpow10 (by decide),take_t hp2 (by omega) (by omega) fun r G3 hr hp3 sb3=>⟨by decide,hM _ _ (seq fun M hM=>?_)⟩⟩
 simp_arith [h4]
 refine take_t hp3 (by decide) (by decide) fun q2 G4 hq2 hp4 sb4=>?_
 simp_arith [ends]
 have sb40:=(sb20.trans sb3).trans sb4
 refine optK_in (by omega) (by simp; omega) fun y hy=>?_
 obtain ⟨x,rfl⟩:∃ x:Option Int,y=oI x:=by
  simp only [List.mem_cons,List.not_mem_nil,or_false] at hy
  rcases hy with e | e | e | e | e | e | e | e
  ·exact ⟨none,e⟩
  all_goals exact ⟨some _,e⟩
 refine hM _ _ (seq fun M hM=>?_)
 simp_arith [h4]
 refine take_t hp4 (by decide) (by decide) fun kd G5 hkd hp5 sb5=>hM _ _ (seq fun M hM=>?_)
 have sb50:=sb40.trans sb5
 cases u with
 | lf r0=>
  obtain ⟨x0,y0,rfl⟩:=two2 huo
  have hme:(([115,97,109,101]==[115,112,108,105,116]):Bool)=false:=by decide
  simp_arith [T.d,sameT,hme,List.map_cons,List.map_nil]
  refine hM _ _ (seq fun M hM=>?_)
  cases hk0:((kd:Int)==0) with
  | true=>
   simp_arith [hk0,h4]
   refine ⟨cpow10 (by decide),by decide,take_t hp5 (by decide) (by decide) fun q6 G6 hq6 hp6 sb6=>?_⟩
   simp_arith [ends]
   refine optK_in (by omega) (by simp; omega) fun y hy=>?_
   obtain ⟨i6,rfl⟩:∃ i:Int,y=.int i:=by
    simp only [List.mem_cons,List.not_mem_nil,or_false] at hy
    rcases hy with e | e | e | e <;> exact ⟨_,e⟩
   simp_arith [h3]
   exact ⟨by decide,fin (.sp i6 (.lf [x0,y0]) (.lf [x0,y0])) G6 ⟨rfl,rfl⟩ (by simp [T.dep]) hp6 (sb50.trans sb6)⟩
  | false=>
   simp_arith [hk0]
   refine hM _ _ (seq fun M hM=>?_)
   simp_arith [h4]
   refine take_t hp5 (by decide) (by decide) fun q6 G6 hq6 hp6 sb6=>?_
   have:q6=0∨q6=1:=by
    have:(q6:Int) < 2:=hq6
    omega
   rcases this with rfl | rfl
   ·simp_arith [ends]
    refine hM _ _ (last ?_)
    simp_arith [h3]
    exact ⟨by decide,show 1 + (0 + 1)≤sz by decide,show 2 + 1≤sz by decide,fin (.lf [x,y0]) G6 rfl (by simp [T.dep]) hp6 (sb50.trans sb6)⟩
   ·simp_arith [ends]
    refine hM _ _ (last ?_)
    simp_arith [h3]
    exact ⟨by decide,show 2 + (0 + 1)≤sz by decide,show 3 + 0≤sz by decide,fin (.lf [x0,x]) G6 rfl (by simp [T.dep]) hp6 (sb50.trans sb6)⟩
 | sp i z o=>
  rw [T.dep] at hud fin
  simp_arith! [T.d,splitT,BEq.rfl]
  refine seq fun M hM=>?_
  cases hk0:((kd:Int)==0) with
  | true=>
   simp_arith [hk0,h3]
   exact ⟨by decide,fin (.sp i o z) G5 ⟨huo.2,huo.1⟩ (by rw [T.dep]; omega) hp5 sb50⟩
  | false=>
   simp_arith [hk0]
   refine hM _ _ (seq fun M hM=>?_)
   cases hk1:((kd:Int)==1) with
   | true=>
    simp_arith [hk1,h3]
    exact fin z G5 huo.1 (by omega) hp5 sb50
   | false=>
    simp_arith [hk1]
    refine hM _ _ (seq fun M hM=>?_)
    cases hk2:((kd:Int)==2) with
    | true=>
     simp_arith [hk2,h3]
     exact ⟨by decide,fin (.sp i (.sp i z o) o) G5 ⟨huo,huo.2⟩ (by rw [T.dep,T.dep]; omega) hp5 sb50⟩
    | false=>
     simp_arith [hk2]
     refine hM _ _ (seq fun M hM=>?_)
     have stay:∃ t':T,t.d sameT=t'.d sameT∧t'.two∧t'.dep≤t.dep + 1∧Pen G5 p∧Sb p G G5:=⟨t,rfl,h1o,by omega,hp5,sb50⟩
     cases hk3:((kd:Int)==3) with
     | false=>
      simp_arith [hk3]
      refine hM _ _ (last ?_)
      simp_arith [ends]
      exact stay
     | true=>
      cases x with
      | none=>
       simp_arith [hk3,oI]
       refine hM _ _ (last ?_)
       simp_arith [ends]
       exact stay
      | some ix=>
       simp_arith [hk3,oI,h3]
       exact ⟨by decide,fin (.sp ix z o) G5 huo (by rw [T.dep]; omega) hp5 sb50⟩
structure F26 (Φ:Funs):Prop where
 opn:Φ "_law_open"=sOpen
 two:Φ "_law_two_books"=sTB
 treeof:Φ "_law_tree_of"=sTreeOf 9
 bent:Φ "_law_bent_tree"=sBent
 isalike:Φ "is_alike"=sIsAlike
 right:Φ "_law_alike_right"=sAR
theorem w_k26 (Φ:Funs) (F:F26 Φ) (ds:List D) (G:DH) (h:∃ ns:List Int,ds=[.scr ns]∧ns.length≤63):wpSs Φ b_k26_law noE (env0 ds 10) G (ends fun d _=>d=.bl true):=by
 obtain ⟨ns,rfl,hl⟩:=h
 simp_all_arith [b_k26_law]
 refine seq fun M hM=>?_
 simp_arith [F.opn]
 refine relS_t ⟨ns,rfl,hl⟩ fun d' G1 hx=>?_
 obtain ⟨p,e1,_,hp,_⟩:=hx
 subst e1
 refine hM _ _ (seq fun M hM=>?_)
 simp_arith! [ends]
 refine ⟨by decide,ForG.inv (P:=fun i ρ G'=>(∃ o2 o3 o4 o5 o6 o7 o8 o9 o10,ρ=[some (.scr ns),some (.ref p),o2,o3,o4,o5,o6,o7,o8,o9,o10])∧Pen G' p) ⟨⟨_,_,_,_,_,_,_,_,_,rfl⟩,hp⟩ (fun _ _ _ _=>trivial) ?_ ?_⟩
 ·rintro i d ρ G2 hd ⟨⟨o2,o3,o4,o5,o6,o7,o8,o9,o10,rfl⟩,hp2⟩ kk hk
  unfold rangeL at hd
  rw [List.getElem?_map] at hd
  obtain ⟨j,hj,rfl⟩:=Option.map_eq_some_iff.mp hd
  have hj3:j < 3:=by
   have:=List.mem_of_getElem? hj
   simpa using this
  have ix:∀ a b c:Nat,∃ n:Nat,(n=a∨n=b∨n=c)∧atI [D.int a,D.int b,D.int c] (0 + (j:Int))=some (.int (n:Int)):=by
   intro a b c
   have:j=0∨j=1∨j=2:=by omega
   rcases this with e | e | e
   ·exact ⟨a,.inl rfl,by rw [e]; rfl⟩
   ·exact ⟨b,.inr (.inl rfl),by rw [e]; rfl⟩
   ·exact ⟨c,.inr (.inr rfl),by rw [e]; rfl⟩
  obtain ⟨w0,hw0,ew⟩:=ix 5 6 3
  obtain ⟨m0,hm0,em⟩:=ix 7 12 5
  simp_arith! [ends]
  refine seq fun M hM=>?_
  simp_arith [F.two]
  refine ⟨by decide,optK_of ew ⟨by decide,optK_of em ?_⟩⟩
  refine tb_t hp2 (by omega) (by omega) (by omega) fun w rs ss G4 hb hb' hp4 _=>?_
  simp_arith [ends]
  refine hM _ _ (seq fun M hM=>?_)
  have hw6:=hb.w6
  have hlen:=hb.len
  have hlen':=hb'.len
  have hst:=stc_stars w
  have e0:∀ xs,dBook w xs=.tup [.int w,.tup (xs.map dRow)]:=fun _=>rfl
  simp_arith [e0,F.treeof,Int.toNat_natCast,reps_one]
  rw [← e0,← e0]
  refine ⟨by decide,by omega,by omega,by have hsz:sz=1000000:=rfl; omega,treeof_t hp4 hb hb' (okF_stars w) (by omega) fun t G6 t1 t2 hp6 _=>hM _ _ (seq fun M hM=>?_)⟩
  have htd:t.dep≤6:=by omega
  simp_arith [ends]
  refine ⟨by decide,by decide,by decide,fun s hs=>hM _ _ (seq fun M hM=>?_)⟩
  have nps:p≠s:=hp6.ne hs
  have hp7:Pen (gupd G6 s (.lst [t.d sameT,.tup [.str [115,97,109,101],.non,.non],.tup [.str [115,97,109,101],.int 0,.int 0]])) p:=hp6.sa (Sa.new hs)
  obtain ⟨mx,hmx,emx⟩:∃ mx:Nat,mx≤12∧(if (ss.length:Int) > (rs.length:Int) then (ss.length:Int) else (rs.length:Int))=(mx:Int):=by
   split
   ·exact ⟨ss.length,hlen',rfl⟩
   ·exact ⟨rs.length,hlen,rfl⟩
  simp_arith [e0,List.length_map]
  rw [emx]
  refine hM _ _ (seq fun M hM=>?_)
  simp_arith! [ends]
  refine ⟨by decide,ForG.inv (P:=fun i ρ G'=>(∃ o8 o9 o10,ρ=[some (.scr ns),some (.ref p),some (.int (0 + (j:Int))),some (dBook w rs),some (dBook w ss),some (t.d sameT),some (.ref s),some (.int (mx:Int)),o8,o9,o10])∧Pen G' p∧∃ ts:List T,G' s=some (.lst (ts.map (T.d sameT)))∧ts.length=3 + i∧∀ u∈ts,u.two∧u.dep≤7)
   ⟨⟨_,_,_,rfl⟩,hp7,[t,.lf [none,none],.lf [some 0,some 0]],gupd_same,rfl,fun u hu=>by
    simp only [List.mem_cons,List.not_mem_nil,or_false] at hu
    rcases hu with e | e | e
    ·rw [e]; exact ⟨t1,by omega⟩
    ·rw [e]; exact ⟨rfl,by simp [T.dep]⟩
    ·rw [e]; exact ⟨rfl,by simp [T.dep]⟩⟩ (fun _ _ _ _=>trivial) ?_ ?_⟩
  ·rintro i d ρ G8 hd8 ⟨⟨o8,o9,o10,rfl⟩,hp8,ts,g8,hl8,ok8⟩ kk' hk'
   have hi:i < 5:=by
    have:=(List.getElem?_eq_some_iff.mp hd8).1
    simpa [rangeL] using this
   simp_arith! [ends]
   refine last ?_
   simp_arith [trk_eq g8,F.bent,List.length_map]
   refine bent_t hp8 t1 (by omega) hmx fun u G9 u1 u2 hp9 sb9=>?_
   have g9:=sb9 s _ g8 (Ne.symm nps)
   simp_arith [trk_eq g9,List.length_map]
   refine ⟨by have hsz:sz=1000000:=rfl; omega,hk' _ _ ⟨⟨_,_,_,rfl⟩,hp9.sb Sb.upd nps,ts ++ [u],by rw [gupd_same,List.map_append]; rfl,by simp [hl8]; omega,fun v hv=>?_⟩⟩
   rcases List.mem_append.mp hv with h | h
   ·exact ok8 v h
   ·rw [List.mem_singleton.mp h]; exact ⟨u1,by omega⟩
  ·rintro ρ G8 ⟨⟨o8,o9,o10,rfl⟩,hp8,ts,g8,hl8,ok8⟩
   have hl8:ts.length=8:=by simpa [rangeL] using hl8
   refine hM _ _ (seq fun M hM=>?_)
   obtain ⟨ts0,v,rfl⟩:∃ ts0 v,ts=ts0 ++ [v]:=by
    have hne:ts≠[]:=by intro e; rw [e] at hl8; cases hl8
    exact ⟨ts.dropLast,ts.getLast hne,(List.dropLast_concat_getLast hne).symm⟩
   have okv:=ok8 v (by simp)
   have g8':G8 s=some (.lst (ts0.map (T.d sameT) ++ [v.d sameT])):=by rw [g8,List.map_append]; rfl
   simp_arith [trk_eq g8',v_ref g8',atI_last,F.bent,List.length_map]
   refine bent_t hp8 okv.1 (by omega) hmx fun u G9 u1 u2 hp9 sb9=>?_
   have g9:=sb9 s _ g8' (Ne.symm nps)
   have g9':G9 s=some (.lst ((ts0 ++ [v]).map (T.d sameT))):=by rw [g9,List.map_append]; rfl
   simp_arith [trk_eq g9',List.length_map]
   refine ⟨by rw [hl8]; have hsz:sz=1000000:=rfl; omega,hM _ _ (last ?_)⟩
   have g10:gupd G9 s (.lst ((ts0 ++ [v]).map (T.d sameT) ++ [u.d sameT])) s=some (.lst ((ts0 ++ [v] ++ [u]).map (T.d sameT))):=by rw [gupd_same]; simp
   have ok10:∀ y∈ts0 ++ [v] ++ [u],y.two∧y.dep < 9:=by
    intro y hy
    rcases List.mem_append.mp hy with h | h
    ·exact ⟨(ok8 y h).1,by have:=(ok8 y h).2; omega⟩
    ·rw [List.mem_singleton.mp h]; exact ⟨u1,by omega⟩
   generalize ts0 ++ [v] ++ [u]=us at g10 ok10
   have hp10:Pen (gupd G9 s (.lst ((ts0 ++ [v]).map (T.d sameT) ++ [u.d sameT]))) p:=hp9.sb Sb.upd nps
   have hit:itemsOf (gupd G9 s (.lst ((ts0 ++ [v]).map (T.d sameT) ++ [u.d sameT]))) (D.ref s)=some (us.map (T.d sameT),[(s,us.map (T.d sameT))]):=it_ref g10
   simp_arith! [hit]
   refine ForG.inv (P:=fun i ρ G'=>(∃ o9 o10,ρ=[some (.scr ns),some (.ref p),some (.int (0 + (j:Int))),some (dBook w rs),some (dBook w ss),some (t.d sameT),some (.ref s),some (.int (mx:Int)),o8,o9,o10])∧Pen G' p∧G' s=some (.lst (us.map (T.d sameT)))) ⟨⟨_,_,rfl⟩,hp10,g10⟩ (fun _ _ _ h=>⟨h.2.2,trivial⟩) ?_ ?_
   ·rintro i d ρ G11 hd11 ⟨⟨o9,o10,rfl⟩,hp11,g11⟩ kk' hk'
    rw [List.getElem?_map] at hd11
    obtain ⟨y,hy,rfl⟩:=Option.map_eq_some_iff.mp hd11
    obtain ⟨y1,y2⟩:=ok10 y (List.mem_of_getElem? hy)
    simp_arith! [ends]
    refine seq fun M hM=>?_
    simp_arith [F.isalike]
    refine isalike_t hb hb' y2 (hM _ _ (last ?_))
    simp_arith [F.right]
    refine ar_t hb hb' y1 y2 fun G12 sa12=>?_
    rw [alk_alr hb.form hb'.form (okF_stars w)]
    simp_arith [BEq.rfl]
    exact hk' _ _ ⟨⟨_,_,rfl⟩,hp11.sa sa12,sa12 _ _ g11⟩
   ·rintro ρ G11 ⟨⟨o9,o10,rfl⟩,hp11,g11⟩
    exact hk _ _ ⟨⟨_,_,_,_,_,_,_,_,_,rfl⟩,hp11⟩
 ·rintro ρ G2 ⟨_,hp2⟩
  refine hM _ _ ?_
  simp_arith [F.isalike]
  have e0:D.tup [.int 1,.tup []]=dBook 1 []:=rfl
  have e1:D.tup [.str [115,97,109,101],.non,.non]=(T.lf [none,none]).d sameT:=rfl
  have ok1:okB 1 []:=⟨by decide,by decide,by decide,(fun r hr=>by cases hr),(fun r hr=>by cases hr)⟩
  rw [e0,e1]
  refine ⟨by decide,by decide,by decide,isalike_t (w:=1) (rs:=[]) (ss:=[]) ok1 ok1 (by decide) ?_⟩
  have:alkB [] [] ((T.lf [none,none]).lvs (List.replicate 1 42))=true:=by decide +kernel
  rw [this]
  simp_arith [ends]
  rfl
end RF
namespace HD
open PySem PySem.W
def sv (x:Str) (t:Nat):Value:=.str x t
def ri (n:Nat):Value:=.int n 0
def tupO (l:List Value):Obj:=⟨.type "tuple",none,.seq ⟨l⟩ 0,⟨[]⟩⟩
def fldO (c:Value) (l:List Value):Obj:=⟨c,none,.fields ⟨l⟩,⟨[]⟩⟩
def cutpy:Str:="/claim/cut.py"
def codeO (n:Str) (ln ac fl a b:Nat) (isf:Bool) (l1 l2 tm:Value) (t t2:Nat):Obj:=
 fldO (.type "code") [sv n t,sv n (t+1),sv cutpy (t+2),ri ln,ri ac,ri 0,ri 0,ri fl,.ref a,.bool isf,ri 181,.ref b,.none,l1,l2,tm,ri t2,ri ln,sv cutpy (t2+1)]
def toks (t:Nat):List Str→List Value
 | []=>[]
 | x::r=>sv x t::toks (t+1) r
def fdO (n:Str) (p:Arguments) (b:List Stmt) (sc:Scope) (g:Nat) (md cd:Value):Data:=
 .func { name:=n,qualname:=n,params:=p,body:=.stmts b,scope:=sc,globals:=g,closure:=[],defaults:=.none,kwdefaults:=.none,pyModule:=md,code:=cd }
def enO (P:Params) (k:Str) (t:Nat) (v:Value):DictEntry:={ hash:=PyData.keyHash P k,key:=sv k t,val:=v }
def dicO (l:List DictEntry) (e:Nat):Obj:=⟨.type "dict",none,.dict ⟨l⟩ e,⟨[]⟩⟩
def frO (c l:Nat) (md:Value):Obj:=⟨.type "frame",none,.plain,⟨[some (.ref c),some (.ref 3),some (.ref l),none,some md,none,some (.ref 0)]⟩⟩
def bfO (s:String) (v:Value):Obj:=fldO (.type "builtin_function_or_method") [.builtin s,v]
def typO (n:Str) (a t:Nat) (b:Value) (mro sub:List Value):Obj:=
 ⟨.type "type",none,.cls { name:=n,bases:=[b],mro:=.ref (a+9)::mro,ns:=a+8,qualname:=n,subclasses:=sub },
  ⟨[some (.ref a),none,some (sv n t),some (sv n (t+8)),some (.builtin "ValueError.__new__"),some (.bool true)]⟩⟩
def veM:List Value:=[.type "ValueError",.type "Exception",.type "BaseException",.type "object"]
def isVE (b:Expr):Bool:=match b with | .Name n _=>n==("ValueError":Str) | _=>false
def stO (P:Params) (r:Nat) (sub:List Value) (a t:Nat) (md:Value) (s:Stmt):List Obj:=match s with
 | .FunctionDef n p b _ _ _ sc _ _ pos=>(match localNames p sc (.stmts b) with
  | some l=>[tupO [],fldO .none [],tupO (toks (t+3) l.1),tupO [],⟨.none,none,fdO n p b sc 0 .none .none,⟨[]⟩⟩,
    codeO n pos.line p.args.length 3 a (a+1) true (.ref (a+2)) (.ref (a+3)) (.ref (a+4)) t (t+3+l.1.length),⟨.type "function",none,fdO n p b sc 3 md (.ref (a+5)),⟨[]⟩⟩]
  | none=>[tupO [],fldO .none [],⟨.none,none,fdO n p b sc 0 .none .none,⟨[]⟩⟩,
    codeO n pos.line p.args.length 3 a (a+1) true .none .none (.ref (a+2)) t (t+3),⟨.type "function",none,fdO n p b sc 3 md (.ref (a+3)),⟨[]⟩⟩])
 | .ClassDef n bs _ _ _ _ _ _ _ _ pos=>
  let ve:=match bs with | b::_=>isVE b | []=>false
  let d1:=[enO P "__module__" (t+7) md]
  let d2:=[enO P "__firstlineno__" (t+11) (.int pos.line (t+10)),enO P "__static_attributes__" (t+12) (.ref (a+7))]
  let b:Value:=match ve with | true=>.type "ValueError" | false=>.ref r
  [tupO [b],bfO "type.__prepare__" (.type "type"),dicO (d1 ++ enO P "__qualname__" (t+9) (sv n (t+8))::d2) 4,tupO [],fldO .none [],
   codeO n pos.line 0 0 (a+3) (a+4) false .none .none .none (t+2) (t+5),frO (a+5) (a+2) md,tupO []] ++
  (match ve with
  | true=>[dicO (d1 ++ d2 ++ [enO P "__weakref__" (t+14) (.ref (a+10)),enO P "__doc__" (t+15) .none]) 3,typO n a t b veM sub,
    fldO (.type "getset_descriptor") [sv "__weakref__" (t+13),.ref (a+9),.builtin "ExceptionGroup.__weakref__",.none]]
  | false=>[dicO (d1 ++ d2 ++ [enO P "__doc__" (t+13) .none]) 2,typO n a t b (.ref r::veM) []]) ++
  [fldO (.type "super") [.ref (a+9),.ref (a+9),.ref (a+9)],bfO "object.__init_subclass__" (.ref (a+9))]
 | _=>[]
def mdO (t:Nat) (md:Value) (s:Stmt):Value:=match s with
 | .Assign [.Name n _] (.Constant (.str x) _ _) _=>(match n==("__name__":Str) with | true=>sv x t | false=>md)
 | _=>md
def enS (P:Params) (t u a a':Nat) (s:Stmt):List DictEntry:=match s with
 | .FunctionDef n _ _ _ _ _ _ _ _ _=>[enO P n (u-1) (.ref (a'-1))]
 | .ClassDef n _ _ _ _ _ _ _ _ _ _=>[enO P n (u-1) (.ref (a+9))]
 | .Assign [.Name n _] (.Constant c _ _) _=>(match n==("__name__":Str) with
  | true=>[]
  | false=>[enO P n (t+1) (match c with | .int i=>.int i t | .str x=>sv x t | _=>.none)])
 | _=>[]
def cdS (a a':Nat) (s:Stmt):List Value:=match s with
 | .FunctionDef _ _ _ _ _ _ _ _ _ pos=>[ri pos.line,ri pos.col,.ref (a'-2)]
 | .ClassDef _ _ _ _ _ _ _ _ _ _ pos=>[ri pos.line,ri pos.col,.ref (a+5)]
 | _=>[]
def sbS (a:Nat) (s:Stmt):List Value:=match s with
 | .ClassDef _ bs _ _ _ _ _ _ _ _ _=>(match bs with | b::_=>(match isVE b with | true=>[] | false=>[.ref (a+9)]) | []=>[])
 | _=>[]
def rootS (a:Nat) (s:Stmt):List Nat:=match s with
 | .ClassDef _ bs _ _ _ _ _ _ _ _ _=>(match bs with | b::_=>(match isVE b with | true=>[a+9] | false=>[]) | []=>[])
 | _=>[]
def fold {α:Type} (f:Nat→Nat→Nat→Nat→Value→Stmt→List α):List (Nat×Nat)→Value→List Stmt→List α
 | (a,t)::(a',u)::r,md,s::ss=>f a a' t u md s ++ fold f ((a',u)::r) (mdO t md s) ss
 | _,_,_=>[]
def lastMd:List (Nat×Nat)→Value→List Stmt→Value
 | (_,t)::r,md,s::ss=>lastMd r (mdO t md s) ss
 | _,md,_=>md
def main0:Value:=sv "__main__" 164
def ents0 (P:Params) (v:Value):List DictEntry:=
 [enO P "__name__" 165 v,enO P "__doc__" 166 .none,enO P "__package__" 167 .none,enO P "__loader__" 168 (.builtin "__main__.__loader__#opaque"),enO P "__spec__" 169 .none,
  enO P "__annotations__" 170 (.ref 6),enO P "__builtins__" 171 (.ref 4),enO P "__file__" 173 (sv cutpy 172),enO P "__cached__" 174 .none]
def ents (N:List (Nat×Nat)) (b:List Stmt) (P:Params):List DictEntry:=ents0 P (lastMd N main0 b) ++ fold (fun a a' t u _ s=>enS P t u a a' s) N main0 b
def put {α:Type}:Nat→α→List α→List α
 | _,_,[]=>[]
 | 0,x,_::r=>x::r
 | n+1,x,y::r=>y::put n x r
def pre4 (cs:List Value):List Obj:=[tupO [],fldO .none cs,
 fldO (.type "code") [sv "<module>" 182,sv "<module>" 183,sv cutpy 184,ri 1,ri 0,ri 0,ri 0,ri 0,.ref 11,.bool false,ri 181,.ref 12,.none,.none,.none,.none,ri 185,ri 1,sv cutpy 186],frO 13 3 main0]
def objsA (B:List Obj):List Obj:=B ++ pre4 []
def objs (B:List Obj) (N:List (Nat×Nat)) (b:List Stmt) (P:Params):List Obj:=
 let es:=ents N b P
 put 3 (dicO es es.length) (B ++ pre4 (fold (fun a a' _ _ _ s=>cdS a a' s) N main0 b) ++
  fold (fun a _ t _ md s=>stO P ((fold (fun a _ _ _ _ s=>rootS a s) N main0 b).headD 0) (fold (fun a _ _ _ _ s=>sbS a s) N main0 b) a t md s) N main0 b)
def evs {α:Type}:List α→List α
 | []=>[]
 | [x]=>[x]
 | x::_::r=>x::evs r
def bt:Nat→List Obj→BT
 | 0,_=>.nil
 | _,[]=>.nil
 | n+1,x::r=>.node x (bt n (evs r)) (bt n (evs r.tail))
def nameless (s:Stmt):Bool:=match s with
 | .Assign [.Name n _] _ _=>!(n==("__name__":Str))
 | _=>true
def pick:Nat→List Nat→List Obj→Frag
 | i,a::r,o::os=>(match Nat.beq a i with | true=>(a,o)::pick (i+1) r os | false=>pick (i+1) (a::r) os)
 | _,_,_=>[]
end HD
def PySem.W.Fast.tw6360627482735195171:PySem.Program:=PySem.Challenge.pw_starsieve_k26_which_trees_show_it
theorem PySem.W.Fast.te6360627482735195171:PySem.Challenge.pw_starsieve_k26_which_trees_show_it=PySem.W.Fast.tw6360627482735195171:=rfl
namespace HK
open PySem PySem.W PySem.W.Fast
def pw:Program:=PySem.Challenge.pw_starsieve_k26_which_trees_show_it
def rl:OpenLaw:=PySem.Challenge.rw_starsieve_k26_which_trees_show_it
def NN:List (Nat×Nat):=[(15,187),(15,189),(28,207),(40,223),(52,239),(52,241),(52,243),(59,250),(66,257),(73,265),(78,271),(85,279),(90,285),(97,293),(104,302),(111,313),(111,315),(111,317),(111,319),(111,321),(116,327),(123,335),(128,341),(135,348),(142,356),(149,364),(149,366),(156,373),(163,382),(170,393),(177,403),(184,412),(184,414),(191,423),(198,433),(203,439),(203,441),(210,452),(217,462),(224,469),(231,480),(236,486),(243,494),(250,504),(257,514),(264,526),(269,532),(276,546),(281,552),(286,558),(291,564),(298,575),(303,581),(310,591),(317,601),(324,611),(329,617),(336,626),(343,636),(350,643),(355,649),(362,659),(369,667),(376,681),(381,687),(386,693),(393,709),(398,715),(405,732)]
def L1 (P:Params):List Obj:=HD.objs (boot_heap P).objs.toList NN pw.main.body P
def H1 (P:Params):Heap:=⟨⟨L1 P⟩,{}⟩
def T1 (P:Params):BT:=HD.bt 12 (L1 P)
def LA (P:Params):List Obj:=HD.objsA (boot_heap P).objs.toList
def HA (P:Params):Heap:=⟨⟨LA P⟩,{}⟩
def T0 (P:Params):BT:=HD.bt 5 (LA P)
def env:Env:={ scope:=pw.main.scope,locals:=mainNs,globals:=mainNs,cells:=[],code:=.ref 13,frame:=some 14 }
def bE:List Stmt:=behindTheImports pw
def cE:Code:=.body bE env
def p0:Pos:=⟨0,0,0,0⟩
def B:List Frame:=[topFrame p0]
def ann:Option Value:=some (.ref 6)
def qv:Program:={ pw with main:={ pw.main with body:=pw.main.body.filter HD.nameless } }
def as:List Nat:=[3,57,58,64,65,71,72,76,77,83,84,88,89,95,96,102,103,109,110,114,115,121,122,126,127,133,134,140,141,147,148,154,155,161,162,168,169,175,176,182,183,189,190,196,197,201,202,208,209,215,216,222,223,229,230,234,235,241,242,248,249,255,256,262,263,267,268,274,275,279,280,284,285,289,290,296,297,301,302,308,309,315,316,322,323,327,328,334,335,341,342,348,349,353,354,360,361,367,368,374,375,379,380,384,385,391,392,396,397,403,404]
def K (P:Params):Frag:=HD.pick 0 as (L1 P)
def Xt (s:Shared):Bool:=xlAt qv [] s && recOk (RowW.records rl.row.toRowW) s
def see {α:Type} (_:α):Bool:=true
theorem primed:(see T1 && see T0 && see H1 && see HA && see cE && see B && see env && see bE && see qv && see K && see Xt)=true:=by k_qdec
theorem pre (w:World) (os:OsState):topGo treeTable pw w 11 ann 12 ⟨boot_heap w.params,⟨[]⟩,boot_drawn,boot_toks,os⟩ (topStub pw)=some (⟨HA w.params,⟨[]⟩,{},187,os⟩,⟨denote treeTable cE,cE,p0,B⟩):=by
 have _:=primed
 rw [PySem.W.Fast.te15667345088766844465,PySem.W.Fast.te14364793385576792824,PySem.W.Fast.te1032975242618825031,PySem.W.Fast.te8093259214132618727,PySem.W.Fast.te1718297227530528222,PySem.W.Fast.te11892475500146522536]
 kernel_rfl
theorem block (w:World) (os:OsState):segRun treeTable pw w 11 ann 1 2 ⟨HA w.params,⟨[]⟩,{},187,os⟩ (blockOf bE env cE p0 B)=some (.next,SharedT.abs ⟨T0 w.params,15,{},⟨[]⟩,{},187,os⟩,cE,p0):=by
 rw [PySem.W.Fast.te14374325043358763698,PySem.W.Fast.te14364793385576792824,PySem.W.Fast.te1032975242618825031,PySem.W.Fast.te8093259214132618727,PySem.W.Fast.te1718297227530528222,PySem.W.Fast.te14938417808399470215,PySem.W.Fast.te16330338443398637341,PySem.W.Fast.te10239294469119128424]
 kernel_rfl
theorem piece (w:World) (os:OsState):segRunT treeTable pw w 11 ann 1 9000 ⟨T0 w.params,15,{},⟨[]⟩,{},187,os⟩ (piecesOf bE env cE p0 B)=some (.next,⟨T1 w.params,405,{},⟨[]⟩,{},732,os⟩,cE,⟨351,0,365,67⟩):=by
 rw [PySem.W.Fast.te10110043849684766642,PySem.W.Fast.te14364793385576792824,PySem.W.Fast.te1032975242618825031,PySem.W.Fast.te13069687644243786066,PySem.W.Fast.te14938417808399470215,PySem.W.Fast.te1718297227530528222,PySem.W.Fast.te16330338443398637341,PySem.W.Fast.te10239294469119128424]
 kernel_rfl
theorem fin (w:World) (os:OsState):topRun treeTable pw w 11 ann 3 (SharedT.abs ⟨T1 w.params,405,{},⟨[]⟩,{},732,os⟩) ⟨doneF .next,cE,⟨351,0,365,67⟩,B⟩=some ⟨H1 w.params,⟨[]⟩,{},732,os⟩:=by
 rw [PySem.W.Fast.te14082659384304107361,PySem.W.Fast.te14364793385576792824,PySem.W.Fast.te1032975242618825031,PySem.W.Fast.te13069687644243786066,PySem.W.Fast.te1718297227530528222,PySem.W.Fast.te14158929756966004236]
 kernel_rfl
theorem run (w:World) (os:OsState):topRun treeTable pw w 11 ann (12 + (2 + (9000 + 3))) ⟨boot_heap w.params,⟨[]⟩,boot_drawn,boot_toks,os⟩ (topStub pw)=some ⟨H1 w.params,⟨[]⟩,{},732,os⟩:=by
 refine go_top (pre w os) (piece_block (block w os) ?_)
 have h:=piece_app (rest:=[]) (segRun_of (piece w os)) (piece_nil (fin w os))
 rw [List.append_nil] at h
 exact h
theorem size (w:World):((boot_heap w.params).isNs mainGlobals && (Array.mk []:Array GenState).size==0,(boot_heap w.params).objs.size,(boot_heap w.params).nsMap mainGlobals "__annotations__")=(true,11,ann):=by kernel_rfl
theorem looks1 (w:World) (os:OsState):(staticsOk (importedModules pw.main.body) (boot_heap w.params) (H1 w.params) && namesBound pw (H1 w.params) && gensDone ⟨H1 w.params,⟨[]⟩,{},732,os⟩ && laidKept (boot_heap w.params) (H1 w.params))=true:=by
 rw [PySem.W.Fast.te1032975242618825031,PySem.W.Fast.te14158929756966004236,PySem.W.Fast.te5923862056798008813]
 kernel_rfl
theorem looks2 (w:World) (os:OsState):openSeen qv [] (importedModules pw.main.body) Xt true ⟨H1 w.params,⟨[]⟩,{},732,os⟩=openGood qv []:=by
 rw [PySem.W.Fast.te1032975242618825031,PySem.W.Fast.te14158929756966004236,PySem.W.Fast.te5923862056798008813,PySem.W.Fast.te3994408356199485718,PySem.W.Fast.te3154452736318265832,PySem.W.Fast.te4187177175401517315]
 kernel_rfl
theorem looks3 (w:World):as.map (H1 w.params).get?=(K w.params).map (fun p=>some p.2):=by
 rw [PySem.W.Fast.te14158929756966004236,PySem.W.Fast.te538113369711794958]
 kernel_rfl
theorem eAs (P:Params):as=(K P).map (·.1):=by
 rw [PySem.W.Fast.te538113369711794958]
 kernel_rfl
def hook:Hook:=kHook K as eAs
theorem left:LeftO pw qv [] Xt hook.obs hook.val 12000:=by
 refine LeftO.of_pieces (boot_open (by kernel_rfl) (by decide) (fun s=>by kernel_rfl)) size run (by decide) fun w=>funext fun os=>?_
 exact Prod.ext (looks1 w os) (Prod.ext (looks2 w os) (looks3 w))
end HK
namespace Lk26
open PySem PySem.Spec PyProof.Rows L2 RF
open PySem.W (mg_of mg_none_of)
def Φ:Funs:=fun f=>if f="is_whole" then pureS fWhole else if f="is_width" then sWidthOk else if f="is_place" then pureS fPlace else if f="is_text_of" then sTextOk else if f="is_form" then sFormOk else if f="fits" then pureS fFits else if f="lies_in" then pureS fLies else if f="with_sign" then pureS fWith else if f="both" then pureS fBoth else if f="is_deed" then sDeedOk else if f="is_row" then sRowOk else if f="is_book" then sBookOk else if f="need_book" then sNeed else if f="need_two_books" then sTwo else if f="deed_of" then sDeedOf else if f="stars" then pureS fStars else if f="is_named" then pureS fNamed else if f="leaves" then sLvs 9 else if f="first_touching" then sTouch else if f="is_met" then sIsMet else if f="same_deeds" then sSD else if f="is_same" then sIsSame else if f="is_alike" then sIsAlike else if f="_law_spread" then sSpread else if f="_law_open" then sOpen else if f="_law_anew" then sAnew else if f="_law_take" then sTake else if f="_law_signs" then sSigns else if f="_law_form" then sForm else if f="_law_within" then sWithin else if f="_law_wider" then sWithin else if f="_law_form_like" then sLike else if f="_law_deeds_of" then sDeeds else if f="_law_book" then sBook else if f="_law_words" then sWords else if f="_law_meet" then sMeet else if f="_law_one_turning" then sTurn1 else if f="_law_turned_alike" then sTA else if f="_law_bent_book" then sBB else if f="_law_fits" then pureS fLFits else if f="_law_met" then sLMet else if f="_law_boxes" then sBxs 9 else if f="_law_paths" then sPaths 9 else if f="_law_part" then sPart else if f="_law_put_part" then sPutP 9 else if f="_law_is_whole" then pureS fWhole else if f="_law_is_tree" then sIsT2 9 else if f="_law_all_meet" then sAllM else if f="_law_deed_at" then sDAt else if f="_law_alike_right" then sAR else if f="_law_cut" then sCut else if f="_law_tree_of" then sTreeOf 9 else if f="_law_bent_tree" then sBent else if f="_law_two_books" then sTB else if f="law" then sLaw else relS (fun _ _=>False) (fun _ _ _ _=>False)
theorem e_is_whole:Φ "is_whole"=pureS fWhole:=by kernel_rfl
theorem e_is_width:Φ "is_width"=sWidthOk:=by kernel_rfl
theorem e_is_place:Φ "is_place"=pureS fPlace:=by kernel_rfl
theorem e_is_text_of:Φ "is_text_of"=sTextOk:=by kernel_rfl
theorem e_is_form:Φ "is_form"=sFormOk:=by kernel_rfl
theorem e_fits:Φ "fits"=pureS fFits:=by kernel_rfl
theorem e_lies_in:Φ "lies_in"=pureS fLies:=by kernel_rfl
theorem e_with_sign:Φ "with_sign"=pureS fWith:=by kernel_rfl
theorem e_both:Φ "both"=pureS fBoth:=by kernel_rfl
theorem e_is_deed:Φ "is_deed"=sDeedOk:=by kernel_rfl
theorem e_is_row:Φ "is_row"=sRowOk:=by kernel_rfl
theorem e_is_book:Φ "is_book"=sBookOk:=by kernel_rfl
theorem e_need_book:Φ "need_book"=sNeed:=by kernel_rfl
theorem e_need_two_books:Φ "need_two_books"=sTwo:=by kernel_rfl
theorem e_deed_of:Φ "deed_of"=sDeedOf:=by kernel_rfl
theorem e_stars:Φ "stars"=pureS fStars:=by kernel_rfl
theorem e_is_named:Φ "is_named"=pureS fNamed:=by kernel_rfl
theorem e_leaves:Φ "leaves"=sLvs 9:=by kernel_rfl
theorem e_first_touching:Φ "first_touching"=sTouch:=by kernel_rfl
theorem e_is_met:Φ "is_met"=sIsMet:=by kernel_rfl
theorem e_same_deeds:Φ "same_deeds"=sSD:=by kernel_rfl
theorem e_is_same:Φ "is_same"=sIsSame:=by kernel_rfl
theorem e_is_alike:Φ "is_alike"=sIsAlike:=by kernel_rfl
theorem e__law_spread:Φ "_law_spread"=sSpread:=by kernel_rfl
theorem e__law_open:Φ "_law_open"=sOpen:=by kernel_rfl
theorem e__law_anew:Φ "_law_anew"=sAnew:=by kernel_rfl
theorem e__law_take:Φ "_law_take"=sTake:=by kernel_rfl
theorem e__law_signs:Φ "_law_signs"=sSigns:=by kernel_rfl
theorem e__law_form:Φ "_law_form"=sForm:=by kernel_rfl
theorem e__law_within:Φ "_law_within"=sWithin:=by kernel_rfl
theorem e__law_wider:Φ "_law_wider"=sWithin:=by kernel_rfl
theorem e__law_form_like:Φ "_law_form_like"=sLike:=by kernel_rfl
theorem e__law_deeds_of:Φ "_law_deeds_of"=sDeeds:=by kernel_rfl
theorem e__law_book:Φ "_law_book"=sBook:=by kernel_rfl
theorem e__law_words:Φ "_law_words"=sWords:=by kernel_rfl
theorem e__law_meet:Φ "_law_meet"=sMeet:=by kernel_rfl
theorem e__law_one_turning:Φ "_law_one_turning"=sTurn1:=by kernel_rfl
theorem e__law_turned_alike:Φ "_law_turned_alike"=sTA:=by kernel_rfl
theorem e__law_bent_book:Φ "_law_bent_book"=sBB:=by kernel_rfl
theorem e__law_fits:Φ "_law_fits"=pureS fLFits:=by kernel_rfl
theorem e__law_met:Φ "_law_met"=sLMet:=by kernel_rfl
theorem e__law_boxes:Φ "_law_boxes"=sBxs 9:=by kernel_rfl
theorem e__law_paths:Φ "_law_paths"=sPaths 9:=by kernel_rfl
theorem e__law_part:Φ "_law_part"=sPart:=by kernel_rfl
theorem e__law_put_part:Φ "_law_put_part"=sPutP 9:=by kernel_rfl
theorem e__law_is_whole:Φ "_law_is_whole"=pureS fWhole:=by kernel_rfl
theorem e__law_is_tree:Φ "_law_is_tree"=sIsT2 9:=by kernel_rfl
theorem e__law_all_meet:Φ "_law_all_meet"=sAllM:=by kernel_rfl
theorem e__law_deed_at:Φ "_law_deed_at"=sDAt:=by kernel_rfl
theorem e__law_alike_right:Φ "_law_alike_right"=sAR:=by kernel_rfl
theorem e__law_cut:Φ "_law_cut"=sCut:=by kernel_rfl
theorem e__law_tree_of:Φ "_law_tree_of"=sTreeOf 9:=by kernel_rfl
theorem e__law_bent_tree:Φ "_law_bent_tree"=sBent:=by kernel_rfl
theorem e__law_two_books:Φ "_law_two_books"=sTB:=by kernel_rfl
def bt:List String:=["all","bool","enumerate","int","isinstance","len","list","max","range","str","tuple","zip"]
def cn:List (String×D):=[("LETTERS",(.str [97,98,99,100,101,102,103,104,105,106,107,108,109,110,111,112,113,114,115,116,117,118,119,120,121,122])),("LONGEST_DEED",(.int 8)),("MOST_ROWS",(.int 12)),("WIDEST",(.int 6))]
def xs:List String:=[]
def f0:List (String×Nat):=[]
def f1:=("is_whole",1)::f0
def f2:=("is_width",1)::f1
def f3:=("is_place",2)::f2
def f4:=("is_text_of",3)::f3
def f5:=("is_form",2)::f4
def f6:=("fits",2)::f5
def f7:=("lies_in",2)::f6
def f8:=("with_sign",3)::f7
def f9:=("both",2)::f8
def f10:=("is_deed",1)::f9
def f11:=("is_row",2)::f10
def f12:=("is_book",1)::f11
def f13:=("need_book",1)::f12
def f14:=("need_two_books",2)::f13
def f15:=("deed_of",2)::f14
def f16:=("stars",1)::f15
def f17:=("is_named",3)::f16
def f18:=("leaves",2)::f17
def f19:=("first_touching",2)::f18
def f20:=("is_met",3)::f19
def f21:=("same_deeds",3)::f20
def f22:=("is_same",4)::f21
def f23:=("is_alike",3)::f22
def f24:=("_law_spread",2)::f23
def f25:=("_law_open",1)::f24
def f26:=("_law_anew",1)::f25
def f27:=("_law_take",2)::f26
def f28:=("_law_signs",3)::f27
def f29:=("_law_form",2)::f28
def f30:=("_law_within",2)::f29
def f31:=("_law_wider",2)::f30
def f32:=("_law_form_like",3)::f31
def f33:=("_law_deeds_of",2)::f32
def f34:=("_law_book",3)::f33
def f35:=("_law_words",1)::f34
def f36:=("_law_meet",2)::f35
def f37:=("_law_one_turning",2)::f36
def f38:=("_law_turned_alike",3)::f37
def f39:=("_law_bent_book",2)::f38
def f40:=("_law_fits",2)::f39
def f41:=("_law_met",2)::f40
def f42:=("_law_boxes",2)::f41
def f43:=("_law_paths",1)::f42
def f44:=("_law_part",2)::f43
def f45:=("_law_put_part",3)::f44
def f46:=("_law_is_whole",1)::f45
def f47:=("_law_is_tree",2)::f46
def f48:=("_law_all_meet",3)::f47
def f49:=("_law_deed_at",2)::f48
def f50:=("_law_alike_right",3)::f49
def f51:=("_law_cut",2)::f50
def f52:=("_law_tree_of",3)::f51
def f53:=("_law_bent_tree",3)::f52
def f54:=("_law_two_books",3)::f53
def S (i:Nat):Stmt:=HK.pw.main.body.getD i (.Pass ⟨0,0,0,0⟩)
def st_is_whole:Stmt:=S 6
theorem n_is_whole:fnB ["thing"] ["thing"] (defScope st_is_whole)=true:=by decide +kernel
theorem c_is_whole:chkSs (ctOf ["thing"] (defScope st_is_whole) f0 bt cn xs) b_is_whole (defBody st_is_whole)=true:=by decide +kernel
def st_is_width:Stmt:=S 7
theorem n_is_width:fnB ["thing"] ["thing"] (defScope st_is_width)=true:=by decide +kernel
theorem c_is_width:chkSs (ctOf ["thing"] (defScope st_is_width) f1 bt cn xs) b_is_width (defBody st_is_width)=true:=by decide +kernel
def st_is_place:Stmt:=S 8
theorem n_is_place:fnB ["many","thing"] ["many","thing"] (defScope st_is_place)=true:=by decide +kernel
theorem c_is_place:chkSs (ctOf ["many","thing"] (defScope st_is_place) f2 bt cn xs) b_is_place (defBody st_is_place)=true:=by decide +kernel
def st_is_text_of:Stmt:=S 9
theorem n_is_text_of:fnB ["signs","width","thing"] ["signs","width","thing"] (defScope st_is_text_of)=true:=by decide +kernel
theorem c_is_text_of:chkSs (ctOf ["signs","width","thing"] (defScope st_is_text_of) f3 bt cn xs) b_is_text_of (defBody st_is_text_of)=true:=by decide +kernel
def st_is_form:Stmt:=S 10
theorem n_is_form:fnB ["width","thing"] ["width","thing"] (defScope st_is_form)=true:=by decide +kernel
theorem c_is_form:chkSs (ctOf ["width","thing"] (defScope st_is_form) f4 bt cn xs) b_is_form (defBody st_is_form)=true:=by decide +kernel
def st_fits:Stmt:=S 11
theorem n_fits:fnB ["form","word"] ["form","word"] (defScope st_fits)=true:=by decide +kernel
theorem c_fits:chkSs (ctOf ["form","word"] (defScope st_fits) f5 bt cn xs) b_fits (defBody st_fits)=true:=by decide +kernel
def st_lies_in:Stmt:=S 12
theorem n_lies_in:fnB ["form","other"] ["form","other"] (defScope st_lies_in)=true:=by decide +kernel
theorem c_lies_in:chkSs (ctOf ["form","other"] (defScope st_lies_in) f6 bt cn xs) b_lies_in (defBody st_lies_in)=true:=by decide +kernel
def st_with_sign:Stmt:=S 13
theorem n_with_sign:fnB ["form","at","sign"] ["form","at","sign"] (defScope st_with_sign)=true:=by decide +kernel
theorem c_with_sign:chkSs (ctOf ["form","at","sign"] (defScope st_with_sign) f7 bt cn xs) b_with_sign (defBody st_with_sign)=true:=by decide +kernel
def st_both:Stmt:=S 14
theorem n_both:fnB ["form","other","shared","one","two"] ["form","other"] (defScope st_both)=true:=by decide +kernel
theorem c_both:chkSs (ctOf ["form","other","shared","one","two"] (defScope st_both) f8 bt cn xs) b_both (defBody st_both)=true:=by decide +kernel
def st_is_deed:Stmt:=S 19
theorem n_is_deed:fnB ["thing"] ["thing"] (defScope st_is_deed)=true:=by decide +kernel
theorem c_is_deed:chkSs (ctOf ["thing"] (defScope st_is_deed) f9 bt cn xs) b_is_deed (defBody st_is_deed)=true:=by decide +kernel
def st_is_row:Stmt:=S 20
theorem n_is_row:fnB ["width","thing"] ["width","thing"] (defScope st_is_row)=true:=by decide +kernel
theorem c_is_row:chkSs (ctOf ["width","thing"] (defScope st_is_row) f10 bt cn xs) b_is_row (defBody st_is_row)=true:=by decide +kernel
def st_is_book:Stmt:=S 21
theorem n_is_book:fnB ["thing","width","rows"] ["thing"] (defScope st_is_book)=true:=by decide +kernel
theorem c_is_book:chkSs (ctOf ["thing","width","rows"] (defScope st_is_book) f11 bt cn xs) b_is_book (defBody st_is_book)=true:=by decide +kernel
def st_need_book:Stmt:=S 22
theorem n_need_book:fnB ["book"] ["book"] (defScope st_need_book)=true:=by decide +kernel
theorem c_need_book:chkSs (ctOf ["book"] (defScope st_need_book) f12 bt cn xs) b_need_book (defBody st_need_book)=true:=by decide +kernel
def st_need_two_books:Stmt:=S 23
theorem n_need_two_books:fnB ["one","other"] ["one","other"] (defScope st_need_two_books)=true:=by decide +kernel
theorem c_need_two_books:chkSs (ctOf ["one","other"] (defScope st_need_two_books) f13 bt cn xs) b_need_two_books (defBody st_need_two_books)=true:=by decide +kernel
def st_deed_of:Stmt:=S 24
theorem n_deed_of:fnB ["book","number"] ["book","number"] (defScope st_deed_of)=true:=by decide +kernel
theorem c_deed_of:chkSs (ctOf ["book","number"] (defScope st_deed_of) f14 bt cn xs) b_deed_of (defBody st_deed_of)=true:=by decide +kernel
def st_stars:Stmt:=S 26
theorem n_stars:fnB ["width"] ["width"] (defScope st_stars)=true:=by decide +kernel
theorem c_stars:chkSs (ctOf ["width"] (defScope st_stars) f15 bt cn xs) b_stars (defBody st_stars)=true:=by decide +kernel
def st_is_named:Stmt:=S 27
theorem n_is_named:fnB ["name","many","thing"] ["name","many","thing"] (defScope st_is_named)=true:=by decide +kernel
theorem c_is_named:chkSs (ctOf ["name","many","thing"] (defScope st_is_named) f16 bt cn xs) b_is_named (defBody st_is_named)=true:=by decide +kernel
def st_leaves:Stmt:=S 28
theorem n_leaves:fnB ["box","tree","at","zero","one"] ["box","tree"] (defScope st_leaves)=true:=by decide +kernel
theorem c_leaves:chkSs (ctOf ["box","tree","at","zero","one"] (defScope st_leaves) f18 bt cn xs) b_leaves (defBody st_leaves)=true:=by decide +kernel
def st_first_touching:Stmt:=S 29
theorem n_first_touching:fnB ["rows","box","number","row"] ["rows","box"] (defScope st_first_touching)=true:=by decide +kernel
theorem c_first_touching:chkSs (ctOf ["rows","box","number","row"] (defScope st_first_touching) f18 bt cn xs) b_first_touching (defBody st_first_touching)=true:=by decide +kernel
def st_is_met:Stmt:=S 30
theorem n_is_met:fnB ["rows","box","number"] ["rows","box","number"] (defScope st_is_met)=true:=by decide +kernel
theorem c_is_met:chkSs (ctOf ["rows","box","number"] (defScope st_is_met) f19 bt cn xs) b_is_met (defBody st_is_met)=true:=by decide +kernel
def st_same_deeds:Stmt:=S 32
theorem n_same_deeds:fnB ["one","other","leaf"] ["one","other","leaf"] (defScope st_same_deeds)=true:=by decide +kernel
theorem c_same_deeds:chkSs (ctOf ["one","other","leaf"] (defScope st_same_deeds) f20 bt cn xs) b_same_deeds (defBody st_same_deeds)=true:=by decide +kernel
def st_is_same:Stmt:=S 33
theorem n_is_same:fnB ["one","other","box","leaf"] ["one","other","box","leaf"] (defScope st_is_same)=true:=by decide +kernel
theorem c_is_same:chkSs (ctOf ["one","other","box","leaf"] (defScope st_is_same) f21 bt cn xs) b_is_same (defBody st_is_same)=true:=by decide +kernel
def st_is_alike:Stmt:=S 34
theorem n_is_alike:fnB ["one","other","tree","found"] ["one","other","tree"] (defScope st_is_alike)=true:=by decide +kernel
theorem c_is_alike:chkSs (ctOf ["one","other","tree","found"] (defScope st_is_alike) f22 bt cn xs) b_is_alike (defBody st_is_alike)=true:=by decide +kernel
def st__law_spread:Stmt:=S 36
theorem n__law_spread:fnB ["cell","at","one","two","three"] ["cell","at"] (defScope st__law_spread)=true:=by decide +kernel
theorem c__law_spread:chkSs (ctOf ["cell","at","one","two","three"] (defScope st__law_spread) f23 bt cn xs) b_law_spread (defBody st__law_spread)=true:=by decide +kernel
def st__law_open:Stmt:=S 37
theorem n__law_open:fnB ["script","cells","k","cell"] ["script"] (defScope st__law_open)=true:=by decide +kernel
theorem c__law_open:chkSs (ctOf ["script","cells","k","cell"] (defScope st__law_open) f24 bt cn xs) b_law_open (defBody st__law_open)=true:=by decide +kernel
def st__law_anew:Stmt:=S 38
theorem n__law_anew:fnB ["pen"] ["pen"] (defScope st__law_anew)=true:=by decide +kernel
theorem c__law_anew:chkSs (ctOf ["pen"] (defScope st__law_anew) f25 bt cn xs) b_law_anew (defBody st__law_anew)=true:=by decide +kernel
def st__law_take:Stmt:=S 39
theorem n__law_take:fnB ["pen","many","at","cell","found"] ["pen","many"] (defScope st__law_take)=true:=by decide +kernel
theorem c__law_take:chkSs (ctOf ["pen","many","at","cell","found"] (defScope st__law_take) f26 bt cn xs) b_law_take (defBody st__law_take)=true:=by decide +kernel
def st__law_signs:Stmt:=S 40
theorem n__law_signs:fnB ["pen","width","signs"] ["pen","width","signs"] (defScope st__law_signs)=true:=by decide +kernel
theorem c__law_signs:chkSs (ctOf ["pen","width","signs"] (defScope st__law_signs) f27 bt cn xs) b_law_signs (defBody st__law_signs)=true:=by decide +kernel
def st__law_form:Stmt:=S 41
theorem n__law_form:fnB ["pen","width"] ["pen","width"] (defScope st__law_form)=true:=by decide +kernel
theorem c__law_form:chkSs (ctOf ["pen","width"] (defScope st__law_form) f28 bt cn xs) b_law_form (defBody st__law_form)=true:=by decide +kernel
def st__law_within:Stmt:=S 42
theorem n__law_within:fnB ["pen","form","found","sign"] ["pen","form"] (defScope st__law_within)=true:=by decide +kernel
theorem c__law_within:chkSs (ctOf ["pen","form","found","sign"] (defScope st__law_within) f29 bt cn xs) b_law_within (defBody st__law_within)=true:=by decide +kernel
def st__law_wider:Stmt:=S 43
theorem n__law_wider:fnB ["pen","form","found","sign"] ["pen","form"] (defScope st__law_wider)=true:=by decide +kernel
theorem c__law_wider:chkSs (ctOf ["pen","form","found","sign"] (defScope st__law_wider) f30 bt cn xs) b_law_wider (defBody st__law_wider)=true:=by decide +kernel
def st__law_form_like:Stmt:=S 44
theorem n__law_form_like:fnB ["pen","width","forms","kind","form","at"] ["pen","width","forms"] (defScope st__law_form_like)=true:=by decide +kernel
theorem c__law_form_like:chkSs (ctOf ["pen","width","forms","kind","form","at"] (defScope st__law_form_like) f31 bt cn xs) b_law_form_like (defBody st__law_form_like)=true:=by decide +kernel
def st__law_deeds_of:Stmt:=S 45
theorem n__law_deeds_of:fnB ["pen","most","some","turn","found","letters"] ["pen","most"] (defScope st__law_deeds_of)=true:=by decide +kernel
theorem c__law_deeds_of:chkSs (ctOf ["pen","most","some","turn","found","letters"] (defScope st__law_deeds_of) f32 bt cn xs) b_law_deeds_of (defBody st__law_deeds_of)=true:=by decide +kernel
def st__law_book:Stmt:=S 46
theorem n__law_book:fnB ["pen","widest","most","width","deeds","forms","rows","k"] ["pen","widest","most"] (defScope st__law_book)=true:=by decide +kernel
theorem c__law_book:chkSs (ctOf ["pen","widest","most","width","deeds","forms","rows","k"] (defScope st__law_book) f33 bt cn xs) b_law_book (defBody st__law_book)=true:=by decide +kernel
def st__law_words:Stmt:=S 47
theorem n__law_words:fnB ["form","found","sign","longer","text"] ["form"] (defScope st__law_words)=true:=by decide +kernel
theorem c__law_words:chkSs (ctOf ["form","found","sign","longer","text"] (defScope st__law_words) f34 bt cn xs) b_law_words (defBody st__law_words)=true:=by decide +kernel
def st__law_meet:Stmt:=S 48
theorem n__law_meet:fnB ["form","other"] ["form","other"] (defScope st__law_meet)=true:=by decide +kernel
theorem c__law_meet:chkSs (ctOf ["form","other"] (defScope st__law_meet) f35 bt cn xs) b_law_meet (defBody st__law_meet)=true:=by decide +kernel
def st__law_one_turning:Stmt:=S 49
theorem n__law_one_turning:fnB ["pen","rows","at","form","one","stars_v","kind","place","two"] ["pen","rows"] (defScope st__law_one_turning)=true:=by decide +kernel
theorem c__law_one_turning:chkSs (ctOf ["pen","rows","at","form","one","stars_v","kind","place","two"] (defScope st__law_one_turning) f36 bt cn xs) b_law_one_turning (defBody st__law_one_turning)=true:=by decide +kernel
def st__law_turned_alike:Stmt:=S 50
theorem n__law_turned_alike:fnB ["pen","book","times","rows","turn"] ["pen","book","times"] (defScope st__law_turned_alike)=true:=by decide +kernel
theorem c__law_turned_alike:chkSs (ctOf ["pen","book","times","rows","turn"] (defScope st__law_turned_alike) f37 bt cn xs) b_law_turned_alike (defBody st__law_turned_alike)=true:=by decide +kernel
def st__law_bent_book:Stmt:=S 51
theorem n__law_bent_book:fnB ["pen","book","width","rows","forms","fresh","kind","at"] ["pen","book"] (defScope st__law_bent_book)=true:=by decide +kernel
theorem c__law_bent_book:chkSs (ctOf ["pen","book","width","rows","forms","fresh","kind","at"] (defScope st__law_bent_book) f38 bt cn xs) b_law_bent_book (defBody st__law_bent_book)=true:=by decide +kernel
def st__law_fits:Stmt:=S 52
theorem n__law_fits:fnB ["form","word","sign","other"] ["form","word"] (defScope st__law_fits)=true:=by decide +kernel
theorem c__law_fits:chkSs (ctOf ["form","word","sign","other"] (defScope st__law_fits) f39 bt cn xs) b_law_fits (defBody st__law_fits)=true:=by decide +kernel
def st__law_met:Stmt:=S 53
theorem n__law_met:fnB ["book","word","number","row"] ["book","word"] (defScope st__law_met)=true:=by decide +kernel
theorem c__law_met:chkSs (ctOf ["book","word","number","row"] (defScope st__law_met) f40 bt cn xs) b_law_met (defBody st__law_met)=true:=by decide +kernel
def st__law_boxes:Stmt:=S 54
theorem n__law_boxes:fnB ["box","tree","at","zero"] ["box","tree"] (defScope st__law_boxes)=true:=by decide +kernel
theorem c__law_boxes:chkSs (ctOf ["box","tree","at","zero"] (defScope st__law_boxes) f42 bt cn xs) b_law_boxes (defBody st__law_boxes)=true:=by decide +kernel
def st__law_paths:Stmt:=S 55
theorem n__law_paths:fnB ["tree","found","side"] ["tree"] (defScope st__law_paths)=true:=by decide +kernel
theorem c__law_paths:chkSs (ctOf ["tree","found","side"] (defScope st__law_paths) f43 bt cn xs) b_law_paths (defBody st__law_paths)=true:=by decide +kernel
def st__law_part:Stmt:=S 56
theorem n__law_part:fnB ["tree","path","side"] ["tree","path"] (defScope st__law_part)=true:=by decide +kernel
theorem c__law_part:chkSs (ctOf ["tree","path","side"] (defScope st__law_part) f43 bt cn xs) b_law_part (defBody st__law_part)=true:=by decide +kernel
def st__law_put_part:Stmt:=S 57
theorem n__law_put_part:fnB ["tree","path","other","side"] ["tree","path","other"] (defScope st__law_put_part)=true:=by decide +kernel
theorem c__law_put_part:chkSs (ctOf ["tree","path","other","side"] (defScope st__law_put_part) f45 bt cn xs) b_law_put_part (defBody st__law_put_part)=true:=by decide +kernel
def st__law_is_whole:Stmt:=S 58
theorem n__law_is_whole:fnB ["thing"] ["thing"] (defScope st__law_is_whole)=true:=by decide +kernel
theorem c__law_is_whole:chkSs (ctOf ["thing"] (defScope st__law_is_whole) f45 bt cn xs) b_law_is_whole (defBody st__law_is_whole)=true:=by decide +kernel
def st__law_is_tree:Stmt:=S 59
theorem n__law_is_tree:fnB ["thing","words"] ["thing","words"] (defScope st__law_is_tree)=true:=by decide +kernel
theorem c__law_is_tree:chkSs (ctOf ["thing","words"] (defScope st__law_is_tree) f47 bt cn xs) b_law_is_tree (defBody st__law_is_tree)=true:=by decide +kernel
def st__law_all_meet:Stmt:=S 60
theorem n__law_all_meet:fnB ["book","box","number","word"] ["book","box","number"] (defScope st__law_all_meet)=true:=by decide +kernel
theorem c__law_all_meet:chkSs (ctOf ["book","box","number","word"] (defScope st__law_all_meet) f47 bt cn xs) b_law_all_meet (defBody st__law_all_meet)=true:=by decide +kernel
def st__law_deed_at:Stmt:=S 61
theorem n__law_deed_at:fnB ["book","number"] ["book","number"] (defScope st__law_deed_at)=true:=by decide +kernel
theorem c__law_deed_at:chkSs (ctOf ["book","number"] (defScope st__law_deed_at) f48 bt cn xs) b_law_deed_at (defBody st__law_deed_at)=true:=by decide +kernel
def st__law_alike_right:Stmt:=S 62
theorem n__law_alike_right:fnB ["one","other","tree","leaf","box","word","first","second"] ["one","other","tree"] (defScope st__law_alike_right)=true:=by decide +kernel
theorem c__law_alike_right:chkSs (ctOf ["one","other","tree","leaf","box","word","first","second"] (defScope st__law_alike_right) f49 bt cn xs) b_law_alike_right (defBody st__law_alike_right)=true:=by decide +kernel
def st__law_cut:Stmt:=S 63
theorem n__law_cut:fnB ["box","at"] ["box","at"] (defScope st__law_cut)=true:=by decide +kernel
theorem c__law_cut:chkSs (ctOf ["box","at"] (defScope st__law_cut) f50 bt cn xs) b_law_cut (defBody st__law_cut)=true:=by decide +kernel
def st__law_tree_of:Stmt:=S 64
theorem n__law_tree_of:fnB ["pen","books","box","found","stars_v","whole","at","zero","one"] ["pen","books","box"] (defScope st__law_tree_of)=true:=by decide +kernel
theorem c__law_tree_of:chkSs (ctOf ["pen","books","box","found","stars_v","whole","at","zero","one"] (defScope st__law_tree_of) f52 bt cn xs) b_law_tree_of (defBody st__law_tree_of)=true:=by decide +kernel
def st__law_bent_tree:Stmt:=S 65
theorem n__law_bent_tree:fnB ["pen","tree","many","paths","path","part","numbers","number","kind","at"] ["pen","tree","many"] (defScope st__law_bent_tree)=true:=by decide +kernel
theorem c__law_bent_tree:chkSs (ctOf ["pen","tree","many","paths","path","part","numbers","number","kind","at"] (defScope st__law_bent_tree) f52 bt cn xs) b_law_bent_tree (defBody st__law_bent_tree)=true:=by decide +kernel
def st__law_two_books:Stmt:=S 66
theorem n__law_two_books:fnB ["pen","widest","most","book","kind","other","rows"] ["pen","widest","most"] (defScope st__law_two_books)=true:=by decide +kernel
theorem c__law_two_books:chkSs (ctOf ["pen","widest","most","book","kind","other","rows"] (defScope st__law_two_books) f53 bt cn xs) b_law_two_books (defBody st__law_two_books)=true:=by decide +kernel
def st_law:Stmt:=S 67
theorem n_law:fnB ["script","pen","turn","one","other","tree","trees","many","k","some","found"] ["script"] (defScope st_law)=true:=by decide +kernel
theorem c_law:chkSs (ctOf ["script","pen","turn","one","other","tree","trees","many","k","some","found"] (defScope st_law) f54 bt cn xs) b_k26_law (defBody st_law)=true:=by decide +kernel
def fdM (n:Str) (st:Stmt) (m:Str) (t c:Nat):FuncData:=PySem.W.fnOf n n (defArgs st) (defBody st) (defScope st) .none .none .none (.str m t) none (.ref c) .none
theorem mkF {K:PySem.W.Frag} {n m:Str} {st:Stmt} {a t c:Nat} (l:K.lookup a=some ⟨.type "function",none,.func (fdM n st m t c),⟨[]⟩⟩) (h1:PySem.W.codeIn K (.ref c) n=true) (h2:PySem.W.keepIn K (.ref a)=true):Fun K n n st a (fdM n st m t c):=fun_mk l h1 h2
theorem tK:type_of% @PySem.W.Fast.te538113369711794958:=PySem.W.Fast.te538113369711794958
section
variable {P:Params}
def fd_is_whole:FuncData:=fdM "is_whole" st_is_whole "starsieve.forms" 239 57
theorem F_is_whole:Fun (HK.K P) "is_whole" "is_whole" st_is_whole 58 fd_is_whole:=mkF (by kernel_rfl) (by rw [tK]; kernel_rfl) (by rw [tK]; kernel_rfl)
theorem a_is_whole:PySem.W.nsIn (HK.K P) mainGlobals "is_whole"=some (some (.ref 58)):=by rw [tK]; kernel_rfl
theorem b_is_whole:Binds (HK.K P) fd_is_whole ["thing"] []:=F_is_whole.binds (ps:=["thing"]) fun _ _ _ _ _ _ us hl=>by obtain ⟨x0,rfl⟩:=len1 hl; rfl
def fd_is_width:FuncData:=fdM "is_width" st_is_width "starsieve.forms" 239 64
theorem F_is_width:Fun (HK.K P) "is_width" "is_width" st_is_width 65 fd_is_width:=mkF (by kernel_rfl) (by rw [tK]; kernel_rfl) (by rw [tK]; kernel_rfl)
theorem a_is_width:PySem.W.nsIn (HK.K P) mainGlobals "is_width"=some (some (.ref 65)):=by rw [tK]; kernel_rfl
theorem b_is_width:Binds (HK.K P) fd_is_width ["thing"] []:=F_is_width.binds (ps:=["thing"]) fun _ _ _ _ _ _ us hl=>by obtain ⟨x0,rfl⟩:=len1 hl; rfl
def fd_is_place:FuncData:=fdM "is_place" st_is_place "starsieve.forms" 239 71
theorem F_is_place:Fun (HK.K P) "is_place" "is_place" st_is_place 72 fd_is_place:=mkF (by kernel_rfl) (by rw [tK]; kernel_rfl) (by rw [tK]; kernel_rfl)
theorem a_is_place:PySem.W.nsIn (HK.K P) mainGlobals "is_place"=some (some (.ref 72)):=by rw [tK]; kernel_rfl
theorem b_is_place:Binds (HK.K P) fd_is_place ["many","thing"] []:=F_is_place.binds (ps:=["many","thing"]) fun _ _ _ _ _ _ us hl=>by obtain ⟨x0,x1,rfl⟩:=len2 hl; rfl
def fd_is_text_of:FuncData:=fdM "is_text_of" st_is_text_of "starsieve.forms" 239 76
theorem F_is_text_of:Fun (HK.K P) "is_text_of" "is_text_of" st_is_text_of 77 fd_is_text_of:=mkF (by kernel_rfl) (by rw [tK]; kernel_rfl) (by rw [tK]; kernel_rfl)
theorem a_is_text_of:PySem.W.nsIn (HK.K P) mainGlobals "is_text_of"=some (some (.ref 77)):=by rw [tK]; kernel_rfl
theorem b_is_text_of:Binds (HK.K P) fd_is_text_of ["signs","width","thing"] []:=F_is_text_of.binds (ps:=["signs","width","thing"]) fun _ _ _ _ _ _ us hl=>by obtain ⟨x0,x1,x2,rfl⟩:=len3 hl; rfl
def fd_is_form:FuncData:=fdM "is_form" st_is_form "starsieve.forms" 239 83
theorem F_is_form:Fun (HK.K P) "is_form" "is_form" st_is_form 84 fd_is_form:=mkF (by kernel_rfl) (by rw [tK]; kernel_rfl) (by rw [tK]; kernel_rfl)
theorem a_is_form:PySem.W.nsIn (HK.K P) mainGlobals "is_form"=some (some (.ref 84)):=by rw [tK]; kernel_rfl
theorem b_is_form:Binds (HK.K P) fd_is_form ["width","thing"] []:=F_is_form.binds (ps:=["width","thing"]) fun _ _ _ _ _ _ us hl=>by obtain ⟨x0,x1,rfl⟩:=len2 hl; rfl
def fd_fits:FuncData:=fdM "fits" st_fits "starsieve.forms" 239 88
theorem F_fits:Fun (HK.K P) "fits" "fits" st_fits 89 fd_fits:=mkF (by kernel_rfl) (by rw [tK]; kernel_rfl) (by rw [tK]; kernel_rfl)
theorem a_fits:PySem.W.nsIn (HK.K P) mainGlobals "fits"=some (some (.ref 89)):=by rw [tK]; kernel_rfl
theorem b_fits:Binds (HK.K P) fd_fits ["form","word"] []:=F_fits.binds (ps:=["form","word"]) fun _ _ _ _ _ _ us hl=>by obtain ⟨x0,x1,rfl⟩:=len2 hl; rfl
def fd_lies_in:FuncData:=fdM "lies_in" st_lies_in "starsieve.forms" 239 95
theorem F_lies_in:Fun (HK.K P) "lies_in" "lies_in" st_lies_in 96 fd_lies_in:=mkF (by kernel_rfl) (by rw [tK]; kernel_rfl) (by rw [tK]; kernel_rfl)
theorem a_lies_in:PySem.W.nsIn (HK.K P) mainGlobals "lies_in"=some (some (.ref 96)):=by rw [tK]; kernel_rfl
theorem b_lies_in:Binds (HK.K P) fd_lies_in ["form","other"] []:=F_lies_in.binds (ps:=["form","other"]) fun _ _ _ _ _ _ us hl=>by obtain ⟨x0,x1,rfl⟩:=len2 hl; rfl
def fd_with_sign:FuncData:=fdM "with_sign" st_with_sign "starsieve.forms" 239 102
theorem F_with_sign:Fun (HK.K P) "with_sign" "with_sign" st_with_sign 103 fd_with_sign:=mkF (by kernel_rfl) (by rw [tK]; kernel_rfl) (by rw [tK]; kernel_rfl)
theorem a_with_sign:PySem.W.nsIn (HK.K P) mainGlobals "with_sign"=some (some (.ref 103)):=by rw [tK]; kernel_rfl
theorem b_with_sign:Binds (HK.K P) fd_with_sign ["form","at","sign"] []:=F_with_sign.binds (ps:=["form","at","sign"]) fun _ _ _ _ _ _ us hl=>by obtain ⟨x0,x1,x2,rfl⟩:=len3 hl; rfl
def fd_both:FuncData:=fdM "both" st_both "starsieve.forms" 239 109
theorem F_both:Fun (HK.K P) "both" "both" st_both 110 fd_both:=mkF (by kernel_rfl) (by rw [tK]; kernel_rfl) (by rw [tK]; kernel_rfl)
theorem a_both:PySem.W.nsIn (HK.K P) mainGlobals "both"=some (some (.ref 110)):=by rw [tK]; kernel_rfl
theorem b_both:Binds (HK.K P) fd_both ["form","other"] []:=F_both.binds (ps:=["form","other"]) fun _ _ _ _ _ _ us hl=>by obtain ⟨x0,x1,rfl⟩:=len2 hl; rfl
def fd_is_deed:FuncData:=fdM "is_deed" st_is_deed "starsieve.books" 313 114
theorem F_is_deed:Fun (HK.K P) "is_deed" "is_deed" st_is_deed 115 fd_is_deed:=mkF (by kernel_rfl) (by rw [tK]; kernel_rfl) (by rw [tK]; kernel_rfl)
theorem a_is_deed:PySem.W.nsIn (HK.K P) mainGlobals "is_deed"=some (some (.ref 115)):=by rw [tK]; kernel_rfl
theorem b_is_deed:Binds (HK.K P) fd_is_deed ["thing"] []:=F_is_deed.binds (ps:=["thing"]) fun _ _ _ _ _ _ us hl=>by obtain ⟨x0,rfl⟩:=len1 hl; rfl
def fd_is_row:FuncData:=fdM "is_row" st_is_row "starsieve.books" 313 121
theorem F_is_row:Fun (HK.K P) "is_row" "is_row" st_is_row 122 fd_is_row:=mkF (by kernel_rfl) (by rw [tK]; kernel_rfl) (by rw [tK]; kernel_rfl)
theorem a_is_row:PySem.W.nsIn (HK.K P) mainGlobals "is_row"=some (some (.ref 122)):=by rw [tK]; kernel_rfl
theorem b_is_row:Binds (HK.K P) fd_is_row ["width","thing"] []:=F_is_row.binds (ps:=["width","thing"]) fun _ _ _ _ _ _ us hl=>by obtain ⟨x0,x1,rfl⟩:=len2 hl; rfl
def fd_is_book:FuncData:=fdM "is_book" st_is_book "starsieve.books" 313 126
theorem F_is_book:Fun (HK.K P) "is_book" "is_book" st_is_book 127 fd_is_book:=mkF (by kernel_rfl) (by rw [tK]; kernel_rfl) (by rw [tK]; kernel_rfl)
theorem a_is_book:PySem.W.nsIn (HK.K P) mainGlobals "is_book"=some (some (.ref 127)):=by rw [tK]; kernel_rfl
theorem b_is_book:Binds (HK.K P) fd_is_book ["thing"] []:=F_is_book.binds (ps:=["thing"]) fun _ _ _ _ _ _ us hl=>by obtain ⟨x0,rfl⟩:=len1 hl; rfl
def fd_need_book:FuncData:=fdM "need_book" st_need_book "starsieve.books" 313 133
theorem F_need_book:Fun (HK.K P) "need_book" "need_book" st_need_book 134 fd_need_book:=mkF (by kernel_rfl) (by rw [tK]; kernel_rfl) (by rw [tK]; kernel_rfl)
theorem a_need_book:PySem.W.nsIn (HK.K P) mainGlobals "need_book"=some (some (.ref 134)):=by rw [tK]; kernel_rfl
theorem b_need_book:Binds (HK.K P) fd_need_book ["book"] []:=F_need_book.binds (ps:=["book"]) fun _ _ _ _ _ _ us hl=>by obtain ⟨x0,rfl⟩:=len1 hl; rfl
def fd_need_two_books:FuncData:=fdM "need_two_books" st_need_two_books "starsieve.books" 313 140
theorem F_need_two_books:Fun (HK.K P) "need_two_books" "need_two_books" st_need_two_books 141 fd_need_two_books:=mkF (by kernel_rfl) (by rw [tK]; kernel_rfl) (by rw [tK]; kernel_rfl)
theorem a_need_two_books:PySem.W.nsIn (HK.K P) mainGlobals "need_two_books"=some (some (.ref 141)):=by rw [tK]; kernel_rfl
theorem b_need_two_books:Binds (HK.K P) fd_need_two_books ["one","other"] []:=F_need_two_books.binds (ps:=["one","other"]) fun _ _ _ _ _ _ us hl=>by obtain ⟨x0,x1,rfl⟩:=len2 hl; rfl
def fd_deed_of:FuncData:=fdM "deed_of" st_deed_of "starsieve.books" 313 147
theorem F_deed_of:Fun (HK.K P) "deed_of" "deed_of" st_deed_of 148 fd_deed_of:=mkF (by kernel_rfl) (by rw [tK]; kernel_rfl) (by rw [tK]; kernel_rfl)
theorem a_deed_of:PySem.W.nsIn (HK.K P) mainGlobals "deed_of"=some (some (.ref 148)):=by rw [tK]; kernel_rfl
theorem b_deed_of:Binds (HK.K P) fd_deed_of ["book","number"] []:=F_deed_of.binds (ps:=["book","number"]) fun _ _ _ _ _ _ us hl=>by obtain ⟨x0,x1,rfl⟩:=len2 hl; rfl
def fd_stars:FuncData:=fdM "stars" st_stars "starsieve.laid" 364 154
theorem F_stars:Fun (HK.K P) "stars" "stars" st_stars 155 fd_stars:=mkF (by kernel_rfl) (by rw [tK]; kernel_rfl) (by rw [tK]; kernel_rfl)
theorem a_stars:PySem.W.nsIn (HK.K P) mainGlobals "stars"=some (some (.ref 155)):=by rw [tK]; kernel_rfl
theorem b_stars:Binds (HK.K P) fd_stars ["width"] []:=F_stars.binds (ps:=["width"]) fun _ _ _ _ _ _ us hl=>by obtain ⟨x0,rfl⟩:=len1 hl; rfl
def fd_is_named:FuncData:=fdM "is_named" st_is_named "starsieve.laid" 364 161
theorem F_is_named:Fun (HK.K P) "is_named" "is_named" st_is_named 162 fd_is_named:=mkF (by kernel_rfl) (by rw [tK]; kernel_rfl) (by rw [tK]; kernel_rfl)
theorem a_is_named:PySem.W.nsIn (HK.K P) mainGlobals "is_named"=some (some (.ref 162)):=by rw [tK]; kernel_rfl
theorem b_is_named:Binds (HK.K P) fd_is_named ["name","many","thing"] []:=F_is_named.binds (ps:=["name","many","thing"]) fun _ _ _ _ _ _ us hl=>by obtain ⟨x0,x1,x2,rfl⟩:=len3 hl; rfl
def fd_leaves:FuncData:=fdM "leaves" st_leaves "starsieve.laid" 364 168
theorem F_leaves:Fun (HK.K P) "leaves" "leaves" st_leaves 169 fd_leaves:=mkF (by kernel_rfl) (by rw [tK]; kernel_rfl) (by rw [tK]; kernel_rfl)
theorem a_leaves:PySem.W.nsIn (HK.K P) mainGlobals "leaves"=some (some (.ref 169)):=by rw [tK]; kernel_rfl
theorem b_leaves:Binds (HK.K P) fd_leaves ["box","tree"] []:=F_leaves.binds (ps:=["box","tree"]) fun _ _ _ _ _ _ us hl=>by obtain ⟨x0,x1,rfl⟩:=len2 hl; rfl
def fd_first_touching:FuncData:=fdM "first_touching" st_first_touching "starsieve.laid" 364 175
theorem F_first_touching:Fun (HK.K P) "first_touching" "first_touching" st_first_touching 176 fd_first_touching:=mkF (by kernel_rfl) (by rw [tK]; kernel_rfl) (by rw [tK]; kernel_rfl)
theorem a_first_touching:PySem.W.nsIn (HK.K P) mainGlobals "first_touching"=some (some (.ref 176)):=by rw [tK]; kernel_rfl
theorem b_first_touching:Binds (HK.K P) fd_first_touching ["rows","box"] []:=F_first_touching.binds (ps:=["rows","box"]) fun _ _ _ _ _ _ us hl=>by obtain ⟨x0,x1,rfl⟩:=len2 hl; rfl
def fd_is_met:FuncData:=fdM "is_met" st_is_met "starsieve.laid" 364 182
theorem F_is_met:Fun (HK.K P) "is_met" "is_met" st_is_met 183 fd_is_met:=mkF (by kernel_rfl) (by rw [tK]; kernel_rfl) (by rw [tK]; kernel_rfl)
theorem a_is_met:PySem.W.nsIn (HK.K P) mainGlobals "is_met"=some (some (.ref 183)):=by rw [tK]; kernel_rfl
theorem b_is_met:Binds (HK.K P) fd_is_met ["rows","box","number"] []:=F_is_met.binds (ps:=["rows","box","number"]) fun _ _ _ _ _ _ us hl=>by obtain ⟨x0,x1,x2,rfl⟩:=len3 hl; rfl
def fd_same_deeds:FuncData:=fdM "same_deeds" st_same_deeds "starsieve.alike" 412 189
theorem F_same_deeds:Fun (HK.K P) "same_deeds" "same_deeds" st_same_deeds 190 fd_same_deeds:=mkF (by kernel_rfl) (by rw [tK]; kernel_rfl) (by rw [tK]; kernel_rfl)
theorem a_same_deeds:PySem.W.nsIn (HK.K P) mainGlobals "same_deeds"=some (some (.ref 190)):=by rw [tK]; kernel_rfl
theorem b_same_deeds:Binds (HK.K P) fd_same_deeds ["one","other","leaf"] []:=F_same_deeds.binds (ps:=["one","other","leaf"]) fun _ _ _ _ _ _ us hl=>by obtain ⟨x0,x1,x2,rfl⟩:=len3 hl; rfl
def fd_is_same:FuncData:=fdM "is_same" st_is_same "starsieve.alike" 412 196
theorem F_is_same:Fun (HK.K P) "is_same" "is_same" st_is_same 197 fd_is_same:=mkF (by kernel_rfl) (by rw [tK]; kernel_rfl) (by rw [tK]; kernel_rfl)
theorem a_is_same:PySem.W.nsIn (HK.K P) mainGlobals "is_same"=some (some (.ref 197)):=by rw [tK]; kernel_rfl
theorem b_is_same:Binds (HK.K P) fd_is_same ["one","other","box","leaf"] []:=F_is_same.binds (ps:=["one","other","box","leaf"]) fun _ _ _ _ _ _ us hl=>by obtain ⟨x0,x1,x2,x3,rfl⟩:=len4 hl; rfl
def fd_is_alike:FuncData:=fdM "is_alike" st_is_alike "starsieve.alike" 412 201
theorem F_is_alike:Fun (HK.K P) "is_alike" "is_alike" st_is_alike 202 fd_is_alike:=mkF (by kernel_rfl) (by rw [tK]; kernel_rfl) (by rw [tK]; kernel_rfl)
theorem a_is_alike:PySem.W.nsIn (HK.K P) mainGlobals "is_alike"=some (some (.ref 202)):=by rw [tK]; kernel_rfl
theorem b_is_alike:Binds (HK.K P) fd_is_alike ["one","other","tree"] []:=F_is_alike.binds (ps:=["one","other","tree"]) fun _ _ _ _ _ _ us hl=>by obtain ⟨x0,x1,x2,rfl⟩:=len3 hl; rfl
def fd__law_spread:FuncData:=fdM "_law_spread" st__law_spread "law_starsieve_k26_which_trees_show_it" 439 208
theorem F__law_spread:Fun (HK.K P) "_law_spread" "_law_spread" st__law_spread 209 fd__law_spread:=mkF (by kernel_rfl) (by rw [tK]; kernel_rfl) (by rw [tK]; kernel_rfl)
theorem a__law_spread:PySem.W.nsIn (HK.K P) mainGlobals "_law_spread"=some (some (.ref 209)):=by rw [tK]; kernel_rfl
theorem b__law_spread:Binds (HK.K P) fd__law_spread ["cell","at"] []:=F__law_spread.binds (ps:=["cell","at"]) fun _ _ _ _ _ _ us hl=>by obtain ⟨x0,x1,rfl⟩:=len2 hl; rfl
def fd__law_open:FuncData:=fdM "_law_open" st__law_open "law_starsieve_k26_which_trees_show_it" 439 215
theorem F__law_open:Fun (HK.K P) "_law_open" "_law_open" st__law_open 216 fd__law_open:=mkF (by kernel_rfl) (by rw [tK]; kernel_rfl) (by rw [tK]; kernel_rfl)
theorem a__law_open:PySem.W.nsIn (HK.K P) mainGlobals "_law_open"=some (some (.ref 216)):=by rw [tK]; kernel_rfl
theorem b__law_open:Binds (HK.K P) fd__law_open ["script"] []:=F__law_open.binds (ps:=["script"]) fun _ _ _ _ _ _ us hl=>by obtain ⟨x0,rfl⟩:=len1 hl; rfl
def fd__law_anew:FuncData:=fdM "_law_anew" st__law_anew "law_starsieve_k26_which_trees_show_it" 439 222
theorem F__law_anew:Fun (HK.K P) "_law_anew" "_law_anew" st__law_anew 223 fd__law_anew:=mkF (by kernel_rfl) (by rw [tK]; kernel_rfl) (by rw [tK]; kernel_rfl)
theorem a__law_anew:PySem.W.nsIn (HK.K P) mainGlobals "_law_anew"=some (some (.ref 223)):=by rw [tK]; kernel_rfl
theorem b__law_anew:Binds (HK.K P) fd__law_anew ["pen"] []:=F__law_anew.binds (ps:=["pen"]) fun _ _ _ _ _ _ us hl=>by obtain ⟨x0,rfl⟩:=len1 hl; rfl
def fd__law_take:FuncData:=fdM "_law_take" st__law_take "law_starsieve_k26_which_trees_show_it" 439 229
theorem F__law_take:Fun (HK.K P) "_law_take" "_law_take" st__law_take 230 fd__law_take:=mkF (by kernel_rfl) (by rw [tK]; kernel_rfl) (by rw [tK]; kernel_rfl)
theorem a__law_take:PySem.W.nsIn (HK.K P) mainGlobals "_law_take"=some (some (.ref 230)):=by rw [tK]; kernel_rfl
theorem b__law_take:Binds (HK.K P) fd__law_take ["pen","many"] []:=F__law_take.binds (ps:=["pen","many"]) fun _ _ _ _ _ _ us hl=>by obtain ⟨x0,x1,rfl⟩:=len2 hl; rfl
def fd__law_signs:FuncData:=fdM "_law_signs" st__law_signs "law_starsieve_k26_which_trees_show_it" 439 234
theorem F__law_signs:Fun (HK.K P) "_law_signs" "_law_signs" st__law_signs 235 fd__law_signs:=mkF (by kernel_rfl) (by rw [tK]; kernel_rfl) (by rw [tK]; kernel_rfl)
theorem a__law_signs:PySem.W.nsIn (HK.K P) mainGlobals "_law_signs"=some (some (.ref 235)):=by rw [tK]; kernel_rfl
theorem b__law_signs:Binds (HK.K P) fd__law_signs ["pen","width","signs"] []:=F__law_signs.binds (ps:=["pen","width","signs"]) fun _ _ _ _ _ _ us hl=>by obtain ⟨x0,x1,x2,rfl⟩:=len3 hl; rfl
def fd__law_form:FuncData:=fdM "_law_form" st__law_form "law_starsieve_k26_which_trees_show_it" 439 241
theorem F__law_form:Fun (HK.K P) "_law_form" "_law_form" st__law_form 242 fd__law_form:=mkF (by kernel_rfl) (by rw [tK]; kernel_rfl) (by rw [tK]; kernel_rfl)
theorem a__law_form:PySem.W.nsIn (HK.K P) mainGlobals "_law_form"=some (some (.ref 242)):=by rw [tK]; kernel_rfl
theorem b__law_form:Binds (HK.K P) fd__law_form ["pen","width"] []:=F__law_form.binds (ps:=["pen","width"]) fun _ _ _ _ _ _ us hl=>by obtain ⟨x0,x1,rfl⟩:=len2 hl; rfl
def fd__law_within:FuncData:=fdM "_law_within" st__law_within "law_starsieve_k26_which_trees_show_it" 439 248
theorem F__law_within:Fun (HK.K P) "_law_within" "_law_within" st__law_within 249 fd__law_within:=mkF (by kernel_rfl) (by rw [tK]; kernel_rfl) (by rw [tK]; kernel_rfl)
theorem a__law_within:PySem.W.nsIn (HK.K P) mainGlobals "_law_within"=some (some (.ref 249)):=by rw [tK]; kernel_rfl
theorem b__law_within:Binds (HK.K P) fd__law_within ["pen","form"] []:=F__law_within.binds (ps:=["pen","form"]) fun _ _ _ _ _ _ us hl=>by obtain ⟨x0,x1,rfl⟩:=len2 hl; rfl
def fd__law_wider:FuncData:=fdM "_law_wider" st__law_wider "law_starsieve_k26_which_trees_show_it" 439 255
theorem F__law_wider:Fun (HK.K P) "_law_wider" "_law_wider" st__law_wider 256 fd__law_wider:=mkF (by kernel_rfl) (by rw [tK]; kernel_rfl) (by rw [tK]; kernel_rfl)
theorem a__law_wider:PySem.W.nsIn (HK.K P) mainGlobals "_law_wider"=some (some (.ref 256)):=by rw [tK]; kernel_rfl
theorem b__law_wider:Binds (HK.K P) fd__law_wider ["pen","form"] []:=F__law_wider.binds (ps:=["pen","form"]) fun _ _ _ _ _ _ us hl=>by obtain ⟨x0,x1,rfl⟩:=len2 hl; rfl
def fd__law_form_like:FuncData:=fdM "_law_form_like" st__law_form_like "law_starsieve_k26_which_trees_show_it" 439 262
theorem F__law_form_like:Fun (HK.K P) "_law_form_like" "_law_form_like" st__law_form_like 263 fd__law_form_like:=mkF (by kernel_rfl) (by rw [tK]; kernel_rfl) (by rw [tK]; kernel_rfl)
theorem a__law_form_like:PySem.W.nsIn (HK.K P) mainGlobals "_law_form_like"=some (some (.ref 263)):=by rw [tK]; kernel_rfl
theorem b__law_form_like:Binds (HK.K P) fd__law_form_like ["pen","width","forms"] []:=F__law_form_like.binds (ps:=["pen","width","forms"]) fun _ _ _ _ _ _ us hl=>by obtain ⟨x0,x1,x2,rfl⟩:=len3 hl; rfl
def fd__law_deeds_of:FuncData:=fdM "_law_deeds_of" st__law_deeds_of "law_starsieve_k26_which_trees_show_it" 439 267
theorem F__law_deeds_of:Fun (HK.K P) "_law_deeds_of" "_law_deeds_of" st__law_deeds_of 268 fd__law_deeds_of:=mkF (by kernel_rfl) (by rw [tK]; kernel_rfl) (by rw [tK]; kernel_rfl)
theorem a__law_deeds_of:PySem.W.nsIn (HK.K P) mainGlobals "_law_deeds_of"=some (some (.ref 268)):=by rw [tK]; kernel_rfl
theorem b__law_deeds_of:Binds (HK.K P) fd__law_deeds_of ["pen","most"] []:=F__law_deeds_of.binds (ps:=["pen","most"]) fun _ _ _ _ _ _ us hl=>by obtain ⟨x0,x1,rfl⟩:=len2 hl; rfl
def fd__law_book:FuncData:=fdM "_law_book" st__law_book "law_starsieve_k26_which_trees_show_it" 439 274
theorem F__law_book:Fun (HK.K P) "_law_book" "_law_book" st__law_book 275 fd__law_book:=mkF (by kernel_rfl) (by rw [tK]; kernel_rfl) (by rw [tK]; kernel_rfl)
theorem a__law_book:PySem.W.nsIn (HK.K P) mainGlobals "_law_book"=some (some (.ref 275)):=by rw [tK]; kernel_rfl
theorem b__law_book:Binds (HK.K P) fd__law_book ["pen","widest","most"] []:=F__law_book.binds (ps:=["pen","widest","most"]) fun _ _ _ _ _ _ us hl=>by obtain ⟨x0,x1,x2,rfl⟩:=len3 hl; rfl
def fd__law_words:FuncData:=fdM "_law_words" st__law_words "law_starsieve_k26_which_trees_show_it" 439 279
theorem F__law_words:Fun (HK.K P) "_law_words" "_law_words" st__law_words 280 fd__law_words:=mkF (by kernel_rfl) (by rw [tK]; kernel_rfl) (by rw [tK]; kernel_rfl)
theorem a__law_words:PySem.W.nsIn (HK.K P) mainGlobals "_law_words"=some (some (.ref 280)):=by rw [tK]; kernel_rfl
theorem b__law_words:Binds (HK.K P) fd__law_words ["form"] []:=F__law_words.binds (ps:=["form"]) fun _ _ _ _ _ _ us hl=>by obtain ⟨x0,rfl⟩:=len1 hl; rfl
def fd__law_meet:FuncData:=fdM "_law_meet" st__law_meet "law_starsieve_k26_which_trees_show_it" 439 284
theorem F__law_meet:Fun (HK.K P) "_law_meet" "_law_meet" st__law_meet 285 fd__law_meet:=mkF (by kernel_rfl) (by rw [tK]; kernel_rfl) (by rw [tK]; kernel_rfl)
theorem a__law_meet:PySem.W.nsIn (HK.K P) mainGlobals "_law_meet"=some (some (.ref 285)):=by rw [tK]; kernel_rfl
theorem b__law_meet:Binds (HK.K P) fd__law_meet ["form","other"] []:=F__law_meet.binds (ps:=["form","other"]) fun _ _ _ _ _ _ us hl=>by obtain ⟨x0,x1,rfl⟩:=len2 hl; rfl
def fd__law_one_turning:FuncData:=fdM "_law_one_turning" st__law_one_turning "law_starsieve_k26_which_trees_show_it" 439 289
theorem F__law_one_turning:Fun (HK.K P) "_law_one_turning" "_law_one_turning" st__law_one_turning 290 fd__law_one_turning:=mkF (by kernel_rfl) (by rw [tK]; kernel_rfl) (by rw [tK]; kernel_rfl)
theorem a__law_one_turning:PySem.W.nsIn (HK.K P) mainGlobals "_law_one_turning"=some (some (.ref 290)):=by rw [tK]; kernel_rfl
theorem b__law_one_turning:Binds (HK.K P) fd__law_one_turning ["pen","rows"] []:=F__law_one_turning.binds (ps:=["pen","rows"]) fun _ _ _ _ _ _ us hl=>by obtain ⟨x0,x1,rfl⟩:=len2 hl; rfl
def fd__law_turned_alike:FuncData:=fdM "_law_turned_alike" st__law_turned_alike "law_starsieve_k26_which_trees_show_it" 439 296
theorem F__law_turned_alike:Fun (HK.K P) "_law_turned_alike" "_law_turned_alike" st__law_turned_alike 297 fd__law_turned_alike:=mkF (by kernel_rfl) (by rw [tK]; kernel_rfl) (by rw [tK]; kernel_rfl)
theorem a__law_turned_alike:PySem.W.nsIn (HK.K P) mainGlobals "_law_turned_alike"=some (some (.ref 297)):=by rw [tK]; kernel_rfl
theorem b__law_turned_alike:Binds (HK.K P) fd__law_turned_alike ["pen","book","times"] []:=F__law_turned_alike.binds (ps:=["pen","book","times"]) fun _ _ _ _ _ _ us hl=>by obtain ⟨x0,x1,x2,rfl⟩:=len3 hl; rfl
def fd__law_bent_book:FuncData:=fdM "_law_bent_book" st__law_bent_book "law_starsieve_k26_which_trees_show_it" 439 301
theorem F__law_bent_book:Fun (HK.K P) "_law_bent_book" "_law_bent_book" st__law_bent_book 302 fd__law_bent_book:=mkF (by kernel_rfl) (by rw [tK]; kernel_rfl) (by rw [tK]; kernel_rfl)
theorem a__law_bent_book:PySem.W.nsIn (HK.K P) mainGlobals "_law_bent_book"=some (some (.ref 302)):=by rw [tK]; kernel_rfl
theorem b__law_bent_book:Binds (HK.K P) fd__law_bent_book ["pen","book"] []:=F__law_bent_book.binds (ps:=["pen","book"]) fun _ _ _ _ _ _ us hl=>by obtain ⟨x0,x1,rfl⟩:=len2 hl; rfl
def fd__law_fits:FuncData:=fdM "_law_fits" st__law_fits "law_starsieve_k26_which_trees_show_it" 439 308
theorem F__law_fits:Fun (HK.K P) "_law_fits" "_law_fits" st__law_fits 309 fd__law_fits:=mkF (by kernel_rfl) (by rw [tK]; kernel_rfl) (by rw [tK]; kernel_rfl)
theorem a__law_fits:PySem.W.nsIn (HK.K P) mainGlobals "_law_fits"=some (some (.ref 309)):=by rw [tK]; kernel_rfl
theorem b__law_fits:Binds (HK.K P) fd__law_fits ["form","word"] []:=F__law_fits.binds (ps:=["form","word"]) fun _ _ _ _ _ _ us hl=>by obtain ⟨x0,x1,rfl⟩:=len2 hl; rfl
def fd__law_met:FuncData:=fdM "_law_met" st__law_met "law_starsieve_k26_which_trees_show_it" 439 315
theorem F__law_met:Fun (HK.K P) "_law_met" "_law_met" st__law_met 316 fd__law_met:=mkF (by kernel_rfl) (by rw [tK]; kernel_rfl) (by rw [tK]; kernel_rfl)
theorem a__law_met:PySem.W.nsIn (HK.K P) mainGlobals "_law_met"=some (some (.ref 316)):=by rw [tK]; kernel_rfl
theorem b__law_met:Binds (HK.K P) fd__law_met ["book","word"] []:=F__law_met.binds (ps:=["book","word"]) fun _ _ _ _ _ _ us hl=>by obtain ⟨x0,x1,rfl⟩:=len2 hl; rfl
def fd__law_boxes:FuncData:=fdM "_law_boxes" st__law_boxes "law_starsieve_k26_which_trees_show_it" 439 322
theorem F__law_boxes:Fun (HK.K P) "_law_boxes" "_law_boxes" st__law_boxes 323 fd__law_boxes:=mkF (by kernel_rfl) (by rw [tK]; kernel_rfl) (by rw [tK]; kernel_rfl)
theorem a__law_boxes:PySem.W.nsIn (HK.K P) mainGlobals "_law_boxes"=some (some (.ref 323)):=by rw [tK]; kernel_rfl
theorem b__law_boxes:Binds (HK.K P) fd__law_boxes ["box","tree"] []:=F__law_boxes.binds (ps:=["box","tree"]) fun _ _ _ _ _ _ us hl=>by obtain ⟨x0,x1,rfl⟩:=len2 hl; rfl
def fd__law_paths:FuncData:=fdM "_law_paths" st__law_paths "law_starsieve_k26_which_trees_show_it" 439 327
theorem F__law_paths:Fun (HK.K P) "_law_paths" "_law_paths" st__law_paths 328 fd__law_paths:=mkF (by kernel_rfl) (by rw [tK]; kernel_rfl) (by rw [tK]; kernel_rfl)
theorem a__law_paths:PySem.W.nsIn (HK.K P) mainGlobals "_law_paths"=some (some (.ref 328)):=by rw [tK]; kernel_rfl
theorem b__law_paths:Binds (HK.K P) fd__law_paths ["tree"] []:=F__law_paths.binds (ps:=["tree"]) fun _ _ _ _ _ _ us hl=>by obtain ⟨x0,rfl⟩:=len1 hl; rfl
def fd__law_part:FuncData:=fdM "_law_part" st__law_part "law_starsieve_k26_which_trees_show_it" 439 334
theorem F__law_part:Fun (HK.K P) "_law_part" "_law_part" st__law_part 335 fd__law_part:=mkF (by kernel_rfl) (by rw [tK]; kernel_rfl) (by rw [tK]; kernel_rfl)
theorem a__law_part:PySem.W.nsIn (HK.K P) mainGlobals "_law_part"=some (some (.ref 335)):=by rw [tK]; kernel_rfl
theorem b__law_part:Binds (HK.K P) fd__law_part ["tree","path"] []:=F__law_part.binds (ps:=["tree","path"]) fun _ _ _ _ _ _ us hl=>by obtain ⟨x0,x1,rfl⟩:=len2 hl; rfl
def fd__law_put_part:FuncData:=fdM "_law_put_part" st__law_put_part "law_starsieve_k26_which_trees_show_it" 439 341
theorem F__law_put_part:Fun (HK.K P) "_law_put_part" "_law_put_part" st__law_put_part 342 fd__law_put_part:=mkF (by kernel_rfl) (by rw [tK]; kernel_rfl) (by rw [tK]; kernel_rfl)
theorem a__law_put_part:PySem.W.nsIn (HK.K P) mainGlobals "_law_put_part"=some (some (.ref 342)):=by rw [tK]; kernel_rfl
theorem b__law_put_part:Binds (HK.K P) fd__law_put_part ["tree","path","other"] []:=F__law_put_part.binds (ps:=["tree","path","other"]) fun _ _ _ _ _ _ us hl=>by obtain ⟨x0,x1,x2,rfl⟩:=len3 hl; rfl
def fd__law_is_whole:FuncData:=fdM "_law_is_whole" st__law_is_whole "law_starsieve_k26_which_trees_show_it" 439 348
theorem F__law_is_whole:Fun (HK.K P) "_law_is_whole" "_law_is_whole" st__law_is_whole 349 fd__law_is_whole:=mkF (by kernel_rfl) (by rw [tK]; kernel_rfl) (by rw [tK]; kernel_rfl)
theorem a__law_is_whole:PySem.W.nsIn (HK.K P) mainGlobals "_law_is_whole"=some (some (.ref 349)):=by rw [tK]; kernel_rfl
theorem b__law_is_whole:Binds (HK.K P) fd__law_is_whole ["thing"] []:=F__law_is_whole.binds (ps:=["thing"]) fun _ _ _ _ _ _ us hl=>by obtain ⟨x0,rfl⟩:=len1 hl; rfl
def fd__law_is_tree:FuncData:=fdM "_law_is_tree" st__law_is_tree "law_starsieve_k26_which_trees_show_it" 439 353
theorem F__law_is_tree:Fun (HK.K P) "_law_is_tree" "_law_is_tree" st__law_is_tree 354 fd__law_is_tree:=mkF (by kernel_rfl) (by rw [tK]; kernel_rfl) (by rw [tK]; kernel_rfl)
theorem a__law_is_tree:PySem.W.nsIn (HK.K P) mainGlobals "_law_is_tree"=some (some (.ref 354)):=by rw [tK]; kernel_rfl
theorem b__law_is_tree:Binds (HK.K P) fd__law_is_tree ["thing","words"] []:=F__law_is_tree.binds (ps:=["thing","words"]) fun _ _ _ _ _ _ us hl=>by obtain ⟨x0,x1,rfl⟩:=len2 hl; rfl
def fd__law_all_meet:FuncData:=fdM "_law_all_meet" st__law_all_meet "law_starsieve_k26_which_trees_show_it" 439 360
theorem F__law_all_meet:Fun (HK.K P) "_law_all_meet" "_law_all_meet" st__law_all_meet 361 fd__law_all_meet:=mkF (by kernel_rfl) (by rw [tK]; kernel_rfl) (by rw [tK]; kernel_rfl)
theorem a__law_all_meet:PySem.W.nsIn (HK.K P) mainGlobals "_law_all_meet"=some (some (.ref 361)):=by rw [tK]; kernel_rfl
theorem b__law_all_meet:Binds (HK.K P) fd__law_all_meet ["book","box","number"] []:=F__law_all_meet.binds (ps:=["book","box","number"]) fun _ _ _ _ _ _ us hl=>by obtain ⟨x0,x1,x2,rfl⟩:=len3 hl; rfl
def fd__law_deed_at:FuncData:=fdM "_law_deed_at" st__law_deed_at "law_starsieve_k26_which_trees_show_it" 439 367
theorem F__law_deed_at:Fun (HK.K P) "_law_deed_at" "_law_deed_at" st__law_deed_at 368 fd__law_deed_at:=mkF (by kernel_rfl) (by rw [tK]; kernel_rfl) (by rw [tK]; kernel_rfl)
theorem a__law_deed_at:PySem.W.nsIn (HK.K P) mainGlobals "_law_deed_at"=some (some (.ref 368)):=by rw [tK]; kernel_rfl
theorem b__law_deed_at:Binds (HK.K P) fd__law_deed_at ["book","number"] []:=F__law_deed_at.binds (ps:=["book","number"]) fun _ _ _ _ _ _ us hl=>by obtain ⟨x0,x1,rfl⟩:=len2 hl; rfl
def fd__law_alike_right:FuncData:=fdM "_law_alike_right" st__law_alike_right "law_starsieve_k26_which_trees_show_it" 439 374
theorem F__law_alike_right:Fun (HK.K P) "_law_alike_right" "_law_alike_right" st__law_alike_right 375 fd__law_alike_right:=mkF (by kernel_rfl) (by rw [tK]; kernel_rfl) (by rw [tK]; kernel_rfl)
theorem a__law_alike_right:PySem.W.nsIn (HK.K P) mainGlobals "_law_alike_right"=some (some (.ref 375)):=by rw [tK]; kernel_rfl
theorem b__law_alike_right:Binds (HK.K P) fd__law_alike_right ["one","other","tree"] []:=F__law_alike_right.binds (ps:=["one","other","tree"]) fun _ _ _ _ _ _ us hl=>by obtain ⟨x0,x1,x2,rfl⟩:=len3 hl; rfl
def fd__law_cut:FuncData:=fdM "_law_cut" st__law_cut "law_starsieve_k26_which_trees_show_it" 439 379
theorem F__law_cut:Fun (HK.K P) "_law_cut" "_law_cut" st__law_cut 380 fd__law_cut:=mkF (by kernel_rfl) (by rw [tK]; kernel_rfl) (by rw [tK]; kernel_rfl)
theorem a__law_cut:PySem.W.nsIn (HK.K P) mainGlobals "_law_cut"=some (some (.ref 380)):=by rw [tK]; kernel_rfl
theorem b__law_cut:Binds (HK.K P) fd__law_cut ["box","at"] []:=F__law_cut.binds (ps:=["box","at"]) fun _ _ _ _ _ _ us hl=>by obtain ⟨x0,x1,rfl⟩:=len2 hl; rfl
def fd__law_tree_of:FuncData:=fdM "_law_tree_of" st__law_tree_of "law_starsieve_k26_which_trees_show_it" 439 384
theorem F__law_tree_of:Fun (HK.K P) "_law_tree_of" "_law_tree_of" st__law_tree_of 385 fd__law_tree_of:=mkF (by kernel_rfl) (by rw [tK]; kernel_rfl) (by rw [tK]; kernel_rfl)
theorem a__law_tree_of:PySem.W.nsIn (HK.K P) mainGlobals "_law_tree_of"=some (some (.ref 385)):=by rw [tK]; kernel_rfl
theorem b__law_tree_of:Binds (HK.K P) fd__law_tree_of ["pen","books","box"] []:=F__law_tree_of.binds (ps:=["pen","books","box"]) fun _ _ _ _ _ _ us hl=>by obtain ⟨x0,x1,x2,rfl⟩:=len3 hl; rfl
def fd__law_bent_tree:FuncData:=fdM "_law_bent_tree" st__law_bent_tree "law_starsieve_k26_which_trees_show_it" 439 391
theorem F__law_bent_tree:Fun (HK.K P) "_law_bent_tree" "_law_bent_tree" st__law_bent_tree 392 fd__law_bent_tree:=mkF (by kernel_rfl) (by rw [tK]; kernel_rfl) (by rw [tK]; kernel_rfl)
theorem a__law_bent_tree:PySem.W.nsIn (HK.K P) mainGlobals "_law_bent_tree"=some (some (.ref 392)):=by rw [tK]; kernel_rfl
theorem b__law_bent_tree:Binds (HK.K P) fd__law_bent_tree ["pen","tree","many"] []:=F__law_bent_tree.binds (ps:=["pen","tree","many"]) fun _ _ _ _ _ _ us hl=>by obtain ⟨x0,x1,x2,rfl⟩:=len3 hl; rfl
def fd__law_two_books:FuncData:=fdM "_law_two_books" st__law_two_books "law_starsieve_k26_which_trees_show_it" 439 396
theorem F__law_two_books:Fun (HK.K P) "_law_two_books" "_law_two_books" st__law_two_books 397 fd__law_two_books:=mkF (by kernel_rfl) (by rw [tK]; kernel_rfl) (by rw [tK]; kernel_rfl)
theorem a__law_two_books:PySem.W.nsIn (HK.K P) mainGlobals "_law_two_books"=some (some (.ref 397)):=by rw [tK]; kernel_rfl
theorem b__law_two_books:Binds (HK.K P) fd__law_two_books ["pen","widest","most"] []:=F__law_two_books.binds (ps:=["pen","widest","most"]) fun _ _ _ _ _ _ us hl=>by obtain ⟨x0,x1,x2,rfl⟩:=len3 hl; rfl
def fd_law:FuncData:=fdM "law" st_law "law_starsieve_k26_which_trees_show_it" 439 403
theorem F_law:Fun (HK.K P) "law" "law" st_law 404 fd_law:=mkF (by kernel_rfl) (by rw [tK]; kernel_rfl) (by rw [tK]; kernel_rfl)
theorem a_law:PySem.W.nsIn (HK.K P) mainGlobals "law"=some (some (.ref 404)):=by rw [tK]; kernel_rfl
theorem z_all:PySem.W.nsIn (HK.K P) mainGlobals "all"=some none:=by rw [tK]; kernel_rfl
theorem z_bool:PySem.W.nsIn (HK.K P) mainGlobals "bool"=some none:=by rw [tK]; kernel_rfl
theorem z_enumerate:PySem.W.nsIn (HK.K P) mainGlobals "enumerate"=some none:=by rw [tK]; kernel_rfl
theorem z_int:PySem.W.nsIn (HK.K P) mainGlobals "int"=some none:=by rw [tK]; kernel_rfl
theorem z_isinstance:PySem.W.nsIn (HK.K P) mainGlobals "isinstance"=some none:=by rw [tK]; kernel_rfl
theorem z_len:PySem.W.nsIn (HK.K P) mainGlobals "len"=some none:=by rw [tK]; kernel_rfl
theorem z_list:PySem.W.nsIn (HK.K P) mainGlobals "list"=some none:=by rw [tK]; kernel_rfl
theorem z_max:PySem.W.nsIn (HK.K P) mainGlobals "max"=some none:=by rw [tK]; kernel_rfl
theorem z_range:PySem.W.nsIn (HK.K P) mainGlobals "range"=some none:=by rw [tK]; kernel_rfl
theorem z_str:PySem.W.nsIn (HK.K P) mainGlobals "str"=some none:=by rw [tK]; kernel_rfl
theorem z_tuple:PySem.W.nsIn (HK.K P) mainGlobals "tuple"=some none:=by rw [tK]; kernel_rfl
theorem z_zip:PySem.W.nsIn (HK.K P) mainGlobals "zip"=some none:=by rw [tK]; kernel_rfl
theorem g_LETTERS:PySem.W.nsIn (HK.K P) mainGlobals "LETTERS"=some (some (.str "abcdefghijklmnopqrstuvwxyz" 319)):=by rw [tK]; kernel_rfl
theorem g_LONGEST_DEED:PySem.W.nsIn (HK.K P) mainGlobals "LONGEST_DEED"=some (some (.int 8 317)):=by rw [tK]; kernel_rfl
theorem g_MOST_ROWS:PySem.W.nsIn (HK.K P) mainGlobals "MOST_ROWS"=some (some (.int 12 315)):=by rw [tK]; kernel_rfl
theorem g_WIDEST:PySem.W.nsIn (HK.K P) mainGlobals "WIDEST"=some (some (.int 6 241)):=by rw [tK]; kernel_rfl
end
section
variable {l:PySem.W.OpenLaw} {w:World} {h:Heap} {mg:Str→Option Value} {base:Heap} (X:(HK.K w.params).In h) (G:h.Ns mainGlobals mg)
include X G
theorem B0:Bse Φ l.prog w (HK.K w.params) mg base (CX1 l.prog w) 0 f0 bt cn xs:=bse trivial ⟨mg_none_of X G z_all,mg_none_of X G z_bool,mg_none_of X G z_enumerate,mg_none_of X G z_int,mg_none_of X G z_isinstance,mg_none_of X G z_len,mg_none_of X G z_list,mg_none_of X G z_max,mg_none_of X G z_range,mg_none_of X G z_str,mg_none_of X G z_tuple,mg_none_of X G z_zip,trivial⟩ ⟨con_str (mg_of X G g_LETTERS) (by decide +kernel) (by decide),con_int (mg_of X G g_LONGEST_DEED),con_int (mg_of X G g_MOST_ROWS),con_int (mg_of X G g_WIDEST),trivial⟩ trivial
theorem B1:Bse Φ l.prog w (HK.K w.params) mg base (CX1 l.prog w) 1 f1 bt cn xs:=(B0 X G).step F_is_whole b_is_whole (mg_of X G a_is_whole) e_is_whole 0 n_is_whole c_is_whole rfl rfl (pureS_w (fun ds G d h=>w_is_whole Φ  ds G d h))
theorem B2:Bse Φ l.prog w (HK.K w.params) mg base (CX1 l.prog w) 2 f2 bt cn xs:=(B1 X G).step F_is_width b_is_width (mg_of X G a_is_width) e_is_width 0 n_is_width c_is_width rfl rfl (valS_w (fun a G h=>w_width_ok Φ e_is_whole a G h))
theorem B3:Bse Φ l.prog w (HK.K w.params) mg base (CX1 l.prog w) 3 f3 bt cn xs:=(B2 X G).step F_is_place b_is_place (mg_of X G a_is_place) e_is_place 0 n_is_place c_is_place rfl rfl (pureS_w (fun ds G d h=>w_is_place Φ e_is_whole ds G d h))
theorem B4:Bse Φ l.prog w (HK.K w.params) mg base (CX1 l.prog w) 4 f4 bt cn xs:=(B3 X G).step F_is_text_of b_is_text_of (mg_of X G a_is_text_of) e_is_text_of 0 n_is_text_of c_is_text_of rfl rfl (valS_w (fun a G h=>w_text_ok Φ  a G h))
theorem B5:Bse Φ l.prog w (HK.K w.params) mg base (CX1 l.prog w) 5 f5 bt cn xs:=(B4 X G).step F_is_form b_is_form (mg_of X G a_is_form) e_is_form 0 n_is_form c_is_form rfl rfl (valS_w (fun a G h=>w_form_ok Φ e_is_text_of a G h))
theorem B6:Bse Φ l.prog w (HK.K w.params) mg base (CX1 l.prog w) 6 f6 bt cn xs:=(B5 X G).step F_fits b_fits (mg_of X G a_fits) e_fits 0 n_fits c_fits rfl rfl (pureS_w (fun ds G d h=>w_fits Φ  ds G d h))
theorem B7:Bse Φ l.prog w (HK.K w.params) mg base (CX1 l.prog w) 7 f7 bt cn xs:=(B6 X G).step F_lies_in b_lies_in (mg_of X G a_lies_in) e_lies_in 0 n_lies_in c_lies_in rfl rfl (pureS_w (fun ds G d h=>w_lies_in Φ e_fits ds G d h))
theorem B8:Bse Φ l.prog w (HK.K w.params) mg base (CX1 l.prog w) 8 f8 bt cn xs:=(B7 X G).step F_with_sign b_with_sign (mg_of X G a_with_sign) e_with_sign 0 n_with_sign c_with_sign rfl rfl (pureS_w (fun ds G d h=>w_with_sign Φ  ds G d h))
theorem B9:Bse Φ l.prog w (HK.K w.params) mg base (CX1 l.prog w) 9 f9 bt cn xs:=(B8 X G).step F_both b_both (mg_of X G a_both) e_both 3 n_both c_both rfl rfl (pureS_w (fun ds G d h=>w_both Φ  ds G d h))
theorem B10:Bse Φ l.prog w (HK.K w.params) mg base (CX1 l.prog w) 10 f10 bt cn xs:=(B9 X G).step F_is_deed b_is_deed (mg_of X G a_is_deed) e_is_deed 0 n_is_deed c_is_deed rfl rfl (valS_w (fun a G h=>w_deed_ok Φ  a G h))
theorem B11:Bse Φ l.prog w (HK.K w.params) mg base (CX1 l.prog w) 11 f11 bt cn xs:=(B10 X G).step F_is_row b_is_row (mg_of X G a_is_row) e_is_row 0 n_is_row c_is_row rfl rfl (valS_w (fun a G h=>w_row_ok Φ e_is_form e_is_deed a G h))
theorem B12:Bse Φ l.prog w (HK.K w.params) mg base (CX1 l.prog w) 12 f12 bt cn xs:=(B11 X G).step F_is_book b_is_book (mg_of X G a_is_book) e_is_book 2 n_is_book c_is_book rfl rfl (valS_w (fun a G h=>w_book_ok Φ e_is_width e_is_row a G h))
theorem B13:Bse Φ l.prog w (HK.K w.params) mg base (CX1 l.prog w) 13 f13 bt cn xs:=(B12 X G).step F_need_book b_need_book (mg_of X G a_need_book) e_need_book 0 n_need_book c_need_book rfl rfl (valS_w (fun a G h=>w_need_book Φ e_is_book a G h))
theorem B14:Bse Φ l.prog w (HK.K w.params) mg base (CX1 l.prog w) 14 f14 bt cn xs:=(B13 X G).step F_need_two_books b_need_two_books (mg_of X G a_need_two_books) e_need_two_books 0 n_need_two_books c_need_two_books rfl rfl (valS_w (fun a G h=>w_need_two_books Φ e_need_book a G h))
theorem B15:Bse Φ l.prog w (HK.K w.params) mg base (CX1 l.prog w) 15 f15 bt cn xs:=(B14 X G).step F_deed_of b_deed_of (mg_of X G a_deed_of) e_deed_of 0 n_deed_of c_deed_of rfl rfl (relS_w (fun ds G h=>w_deed_of Φ  ds G h))
theorem B16:Bse Φ l.prog w (HK.K w.params) mg base (CX1 l.prog w) 16 f16 bt cn xs:=(B15 X G).step F_stars b_stars (mg_of X G a_stars) e_stars 0 n_stars c_stars rfl rfl (pureS_w (fun ds G d h=>w_stars Φ  ds G d h))
theorem B17:Bse Φ l.prog w (HK.K w.params) mg base (CX1 l.prog w) 17 f17 bt cn xs:=(B16 X G).step F_is_named b_is_named (mg_of X G a_is_named) e_is_named 0 n_is_named c_is_named rfl rfl (pureS_w (fun ds G d h=>w_is_named Φ  ds G d h))
theorem r_leaves:∀ n:Nat,FnOk l.prog w (HK.K w.params) mg base (CX1 l.prog w) (17 + n) 169 fd_leaves ["box","tree"] (lift (HK.K w.params) 2 (sLvs n))
 | 0=>fn_never lvs_zero
 | n + 1=>fun_ok (fs:=f18) F_leaves ((B17 X G).self (by decide +kernel) (r_leaves n) F_leaves.kp b_leaves (mg_of X G a_leaves)) (sLvs (n + 1)) 2 3 n_leaves c_leaves rfl rfl (valS_w (fun a G h=>w_leaves2 (altF Φ "leaves" (sLvs n)) n (if_pos rfl) (altF_ne e_is_named rfl) (altF_ne e_is_place rfl) (altF_ne e_with_sign rfl) a G h))
theorem B18:Bse Φ l.prog w (HK.K w.params) mg base (CX1 l.prog w) 26 f18 bt cn xs:=(B17 X G).add (j:=9) e_leaves (r_leaves X G 9) F_leaves.kp b_leaves (mg_of X G a_leaves)
theorem B19:Bse Φ l.prog w (HK.K w.params) mg base (CX1 l.prog w) 27 f19 bt cn xs:=(B18 X G).step F_first_touching b_first_touching (mg_of X G a_first_touching) e_first_touching 2 n_first_touching c_first_touching rfl rfl (relS_w (fun ds G h=>w_first_touching Φ e_both ds G h))
theorem B20:Bse Φ l.prog w (HK.K w.params) mg base (CX1 l.prog w) 28 f20 bt cn xs:=(B19 X G).step F_is_met b_is_met (mg_of X G a_is_met) e_is_met 0 n_is_met c_is_met rfl rfl (valS_w (fun a G h=>w_is_met Φ e_first_touching e_is_place e_lies_in a G h))
theorem B21:Bse Φ l.prog w (HK.K w.params) mg base (CX1 l.prog w) 29 f21 bt cn xs:=(B20 X G).step F_same_deeds b_same_deeds (mg_of X G a_same_deeds) e_same_deeds 0 n_same_deeds c_same_deeds rfl rfl (valS_w (fun a G h=>w_same_deeds Φ e_deed_of a G h))
theorem B22:Bse Φ l.prog w (HK.K w.params) mg base (CX1 l.prog w) 30 f22 bt cn xs:=(B21 X G).step F_is_same b_is_same (mg_of X G a_is_same) e_is_same 0 n_is_same c_is_same rfl rfl (valS_w (fun a G h=>w_is_same Φ e_is_named e_is_met e_same_deeds a G h))
theorem B23:Bse Φ l.prog w (HK.K w.params) mg base (CX1 l.prog w) 31 f23 bt cn xs:=(B22 X G).step F_is_alike b_is_alike (mg_of X G a_is_alike) e_is_alike 1 n_is_alike c_is_alike rfl rfl (valS_w (fun a G h=>w_is_alike Φ e_need_two_books e_leaves e_stars e_is_same a G h))
theorem B24:Bse Φ l.prog w (HK.K w.params) mg base (CX1 l.prog w) 32 f24 bt cn xs:=(B23 X G).step F__law_spread b__law_spread (mg_of X G a__law_spread) e__law_spread 3 n__law_spread c__law_spread rfl rfl (relS_w (fun ds G h=>w_spread Φ  ds G h))
theorem B25:Bse Φ l.prog w (HK.K w.params) mg base (CX1 l.prog w) 33 f25 bt cn xs:=(B24 X G).step F__law_open b__law_open (mg_of X G a__law_open) e__law_open 3 n__law_open c__law_open rfl rfl (relS_w (fun ds G h=>w_open Φ  ds G h))
theorem B26:Bse Φ l.prog w (HK.K w.params) mg base (CX1 l.prog w) 34 f26 bt cn xs:=(B25 X G).step F__law_anew b__law_anew (mg_of X G a__law_anew) e__law_anew 0 n__law_anew c__law_anew rfl rfl (relS_w (fun ds G h=>w_anew Φ  ds G h))
theorem B27:Bse Φ l.prog w (HK.K w.params) mg base (CX1 l.prog w) 35 f27 bt cn xs:=(B26 X G).step F__law_take b__law_take (mg_of X G a__law_take) e__law_take 3 n__law_take c__law_take rfl rfl (relS_w (fun ds G h=>w_take Φ e__law_spread ds G h))
theorem B28:Bse Φ l.prog w (HK.K w.params) mg base (CX1 l.prog w) 36 f28 bt cn xs:=(B27 X G).step F__law_signs b__law_signs (mg_of X G a__law_signs) e__law_signs 0 n__law_signs c__law_signs rfl rfl (relS_w (fun ds G h=>w_signs Φ e__law_take ds G h))
theorem B29:Bse Φ l.prog w (HK.K w.params) mg base (CX1 l.prog w) 37 f29 bt cn xs:=(B28 X G).step F__law_form b__law_form (mg_of X G a__law_form) e__law_form 0 n__law_form c__law_form rfl rfl (relS_w (fun ds G h=>w_form Φ e__law_take e__law_signs ds G h))
theorem B30:Bse Φ l.prog w (HK.K w.params) mg base (CX1 l.prog w) 38 f30 bt cn xs:=(B29 X G).step F__law_within b__law_within (mg_of X G a__law_within) e__law_within 2 n__law_within c__law_within rfl rfl (relS_w (fun ds G h=>w_law_within Φ e__law_take ds G h))
theorem B31:Bse Φ l.prog w (HK.K w.params) mg base (CX1 l.prog w) 39 f31 bt cn xs:=(B30 X G).step F__law_wider b__law_wider (mg_of X G a__law_wider) e__law_wider 2 n__law_wider c__law_wider rfl rfl (relS_w (fun ds G h=>w_law_wider Φ e__law_take ds G h))
theorem B32:Bse Φ l.prog w (HK.K w.params) mg base (CX1 l.prog w) 40 f32 bt cn xs:=(B31 X G).step F__law_form_like b__law_form_like (mg_of X G a__law_form_like) e__law_form_like 3 n__law_form_like c__law_form_like rfl rfl (relS_w (fun ds G h=>w_law_form_like Φ e__law_take e__law_form e__law_within e__law_wider ds G h))
theorem B33:Bse Φ l.prog w (HK.K w.params) mg base (CX1 l.prog w) 41 f33 bt cn xs:=(B32 X G).step F__law_deeds_of b__law_deeds_of (mg_of X G a__law_deeds_of) e__law_deeds_of 4 n__law_deeds_of c__law_deeds_of rfl rfl (relS_w (fun ds G h=>w_law_deeds_of Φ e__law_take e__law_signs ds G h))
theorem B34:Bse Φ l.prog w (HK.K w.params) mg base (CX1 l.prog w) 42 f34 bt cn xs:=(B33 X G).step F__law_book b__law_book (mg_of X G a__law_book) e__law_book 5 n__law_book c__law_book rfl rfl (relS_w (fun ds G h=>w_law_book Φ e__law_take e__law_deeds_of e__law_form_like ds G h))
theorem B35:Bse Φ l.prog w (HK.K w.params) mg base (CX1 l.prog w) 43 f35 bt cn xs:=(B34 X G).step F__law_words b__law_words (mg_of X G a__law_words) e__law_words 4 n__law_words c__law_words rfl rfl (relS_w (fun ds G h=>w_law_words Φ  ds G h))
theorem B36:Bse Φ l.prog w (HK.K w.params) mg base (CX1 l.prog w) 44 f36 bt cn xs:=(B35 X G).step F__law_meet b__law_meet (mg_of X G a__law_meet) e__law_meet 0 n__law_meet c__law_meet rfl rfl (valS_w (fun a G h=>w_law_meet Φ  a G h))
theorem B37:Bse Φ l.prog w (HK.K w.params) mg base (CX1 l.prog w) 45 f37 bt cn xs:=(B36 X G).step F__law_one_turning b__law_one_turning (mg_of X G a__law_one_turning) e__law_one_turning 7 n__law_one_turning c__law_one_turning rfl rfl (ghS_w (fun a ds G h=>w_law_one_turning Φ e__law_take e__law_within e__law_meet a ds G h))
theorem B38:Bse Φ l.prog w (HK.K w.params) mg base (CX1 l.prog w) 46 f38 bt cn xs:=(B37 X G).step F__law_turned_alike b__law_turned_alike (mg_of X G a__law_turned_alike) e__law_turned_alike 2 n__law_turned_alike c__law_turned_alike rfl rfl (ghS_w (fun a ds G h=>w_law_turned_alike Φ e__law_one_turning a ds G h))
theorem B39:Bse Φ l.prog w (HK.K w.params) mg base (CX1 l.prog w) 47 f39 bt cn xs:=(B38 X G).step F__law_bent_book b__law_bent_book (mg_of X G a__law_bent_book) e__law_bent_book 6 n__law_bent_book c__law_bent_book rfl rfl (ghS_w (fun a ds G h=>w_law_bent_book Φ e__law_take e__law_form_like e__law_deeds_of a ds G h))
theorem B40:Bse Φ l.prog w (HK.K w.params) mg base (CX1 l.prog w) 48 f40 bt cn xs:=(B39 X G).step F__law_fits b__law_fits (mg_of X G a__law_fits) e__law_fits 2 n__law_fits c__law_fits rfl rfl (pureS_w (fun ds G d h=>w_law_fits Φ  ds G d h))
theorem B41:Bse Φ l.prog w (HK.K w.params) mg base (CX1 l.prog w) 49 f41 bt cn xs:=(B40 X G).step F__law_met b__law_met (mg_of X G a__law_met) e__law_met 2 n__law_met c__law_met rfl rfl (valS_w (fun a G h=>w_law_met Φ e__law_fits a G h))
theorem r__law_boxes:∀ n:Nat,FnOk l.prog w (HK.K w.params) mg base (CX1 l.prog w) (49 + n) 323 fd__law_boxes ["box","tree"] (lift (HK.K w.params) 2 (sBxs n))
 | 0=>fn_never bxs_zero
 | n + 1=>fun_ok (fs:=f42) F__law_boxes ((B41 X G).self (by decide +kernel) (r__law_boxes n) F__law_boxes.kp b__law_boxes (mg_of X G a__law_boxes)) (sBxs (n + 1)) 2 2 n__law_boxes c__law_boxes rfl rfl (valS_w (fun a G h=>w_law_boxes2 (altF Φ "_law_boxes" (sBxs n)) n (if_pos rfl)  a G h))
theorem B42:Bse Φ l.prog w (HK.K w.params) mg base (CX1 l.prog w) 58 f42 bt cn xs:=(B41 X G).add (j:=9) e__law_boxes (r__law_boxes X G 9) F__law_boxes.kp b__law_boxes (mg_of X G a__law_boxes)
theorem r__law_paths:∀ n:Nat,FnOk l.prog w (HK.K w.params) mg base (CX1 l.prog w) (58 + n) 328 fd__law_paths ["tree"] (lift (HK.K w.params) 1 (sPaths n))
 | 0=>fn_never paths_zero
 | n + 1=>fun_ok (fs:=f43) F__law_paths ((B42 X G).self (by decide +kernel) (r__law_paths n) F__law_paths.kp b__law_paths (mg_of X G a__law_paths)) (sPaths (n + 1)) 1 2 n__law_paths c__law_paths rfl rfl (ghS_w (fun a ds G h=>w_law_paths (altF Φ "_law_paths" (sPaths n)) n (if_pos rfl)  a ds G h))
theorem B43:Bse Φ l.prog w (HK.K w.params) mg base (CX1 l.prog w) 67 f43 bt cn xs:=(B42 X G).add (j:=9) e__law_paths (r__law_paths X G 9) F__law_paths.kp b__law_paths (mg_of X G a__law_paths)
theorem B44:Bse Φ l.prog w (HK.K w.params) mg base (CX1 l.prog w) 68 f44 bt cn xs:=(B43 X G).step F__law_part b__law_part (mg_of X G a__law_part) e__law_part 1 n__law_part c__law_part rfl rfl (valS_w (fun a G h=>w_law_part Φ  a G h))
theorem r__law_put_part:∀ n:Nat,FnOk l.prog w (HK.K w.params) mg base (CX1 l.prog w) (68 + n) 342 fd__law_put_part ["tree","path","other"] (lift (HK.K w.params) 3 (sPutP n))
 | 0=>fn_never putp_zero
 | n + 1=>fun_ok (fs:=f45) F__law_put_part ((B44 X G).self (by decide +kernel) (r__law_put_part n) F__law_put_part.kp b__law_put_part (mg_of X G a__law_put_part)) (sPutP (n + 1)) 3 1 n__law_put_part c__law_put_part rfl rfl (valS_w (fun a G h=>w_law_put_part (altF Φ "_law_put_part" (sPutP n)) n (if_pos rfl)  a G h))
theorem B45:Bse Φ l.prog w (HK.K w.params) mg base (CX1 l.prog w) 77 f45 bt cn xs:=(B44 X G).add (j:=9) e__law_put_part (r__law_put_part X G 9) F__law_put_part.kp b__law_put_part (mg_of X G a__law_put_part)
theorem B46:Bse Φ l.prog w (HK.K w.params) mg base (CX1 l.prog w) 78 f46 bt cn xs:=(B45 X G).step F__law_is_whole b__law_is_whole (mg_of X G a__law_is_whole) e__law_is_whole 0 n__law_is_whole c__law_is_whole rfl rfl (pureS_w (fun ds G d h=>w_law_is_whole Φ  ds G d h))
theorem r__law_is_tree:∀ n:Nat,FnOk l.prog w (HK.K w.params) mg base (CX1 l.prog w) (78 + n) 354 fd__law_is_tree ["thing","words"] (lift (HK.K w.params) 2 (sIsT2 n))
 | 0=>fn_never ist2_zero
 | n + 1=>fun_ok (fs:=f47) F__law_is_tree ((B46 X G).self (by decide +kernel) (r__law_is_tree n) F__law_is_tree.kp b__law_is_tree (mg_of X G a__law_is_tree)) (sIsT2 (n + 1)) 2 0 n__law_is_tree c__law_is_tree rfl rfl (valS_w (fun a G h=>w_law_is_tree3 (altF Φ "_law_is_tree" (sIsT2 n)) n (if_pos rfl) (altF_ne e__law_is_whole rfl) a G h))
theorem B47:Bse Φ l.prog w (HK.K w.params) mg base (CX1 l.prog w) 87 f47 bt cn xs:=(B46 X G).add (j:=9) e__law_is_tree (r__law_is_tree X G 9) F__law_is_tree.kp b__law_is_tree (mg_of X G a__law_is_tree)
theorem B48:Bse Φ l.prog w (HK.K w.params) mg base (CX1 l.prog w) 88 f48 bt cn xs:=(B47 X G).step F__law_all_meet b__law_all_meet (mg_of X G a__law_all_meet) e__law_all_meet 1 n__law_all_meet c__law_all_meet rfl rfl (ghS_w (fun a ds G h=>w_law_all_meet2 Φ e__law_words e__law_met a ds G h))
theorem B49:Bse Φ l.prog w (HK.K w.params) mg base (CX1 l.prog w) 89 f49 bt cn xs:=(B48 X G).step F__law_deed_at b__law_deed_at (mg_of X G a__law_deed_at) e__law_deed_at 0 n__law_deed_at c__law_deed_at rfl rfl (valS_w (fun a G h=>w_law_deed_at Φ  a G h))
theorem B50:Bse Φ l.prog w (HK.K w.params) mg base (CX1 l.prog w) 90 f50 bt cn xs:=(B49 X G).step F__law_alike_right b__law_alike_right (mg_of X G a__law_alike_right) e__law_alike_right 5 n__law_alike_right c__law_alike_right rfl rfl (ghS_w (fun a ds G h=>w_law_alike_right Φ e__law_is_tree e__law_boxes e__law_all_meet e__law_deed_at a ds G h))
theorem B51:Bse Φ l.prog w (HK.K w.params) mg base (CX1 l.prog w) 91 f51 bt cn xs:=(B50 X G).step F__law_cut b__law_cut (mg_of X G a__law_cut) e__law_cut 0 n__law_cut c__law_cut rfl rfl (valS_w (fun a G h=>w_law_cut Φ  a G h))
theorem r__law_tree_of:∀ n:Nat,FnOk l.prog w (HK.K w.params) mg base (CX1 l.prog w) (91 + n) 385 fd__law_tree_of ["pen","books","box"] (lift (HK.K w.params) 3 (sTreeOf n))
 | 0=>fn_never treeof_zero
 | n + 1=>fun_ok (fs:=f52) F__law_tree_of ((B51 X G).self (by decide +kernel) (r__law_tree_of n) F__law_tree_of.kp b__law_tree_of (mg_of X G a__law_tree_of)) (sTreeOf (n + 1)) 3 6 n__law_tree_of c__law_tree_of rfl rfl (ghS_w (fun a ds G h=>w_law_tree_of (altF Φ "_law_tree_of" (sTreeOf n)) n (if_pos rfl) (altF_ne e__law_met rfl) (altF_ne e__law_words rfl) (altF_ne e__law_all_meet rfl) (altF_ne e__law_take rfl) (altF_ne e__law_cut rfl) a ds G h))
theorem B52:Bse Φ l.prog w (HK.K w.params) mg base (CX1 l.prog w) 100 f52 bt cn xs:=(B51 X G).add (j:=9) e__law_tree_of (r__law_tree_of X G 9) F__law_tree_of.kp b__law_tree_of (mg_of X G a__law_tree_of)
theorem B53:Bse Φ l.prog w (HK.K w.params) mg base (CX1 l.prog w) 101 f53 bt cn xs:=(B52 X G).step F__law_bent_tree b__law_bent_tree (mg_of X G a__law_bent_tree) e__law_bent_tree 7 n__law_bent_tree c__law_bent_tree rfl rfl (ghS_w (fun a ds G h=>w_law_bent_tree Φ e__law_paths e__law_part e__law_put_part e__law_take a ds G h))
theorem B54:Bse Φ l.prog w (HK.K w.params) mg base (CX1 l.prog w) 102 f54 bt cn xs:=(B53 X G).step F__law_two_books b__law_two_books (mg_of X G a__law_two_books) e__law_two_books 4 n__law_two_books c__law_two_books rfl rfl (ghS_w (fun a ds G h=>w_law_two_books Φ e__law_take e__law_book e__law_anew e__law_turned_alike e__law_bent_book a ds G h))
theorem q_law:FnOk l.prog w (HK.K w.params) mg base (CX1 l.prog w) 103 404 fd_law ["script"] (lift (HK.K w.params) 1 (sLaw)):=fun_ok F_law (B54 X G) (sLaw) 1 10 n_law c_law rfl rfl (relS_w (fun ds G h=>w_k26 Φ ⟨e__law_open,e__law_two_books,e__law_tree_of,e__law_bent_tree,e_is_alike,e__law_alike_right⟩ ds G h))
omit X G in
theorem all (fa:Addr) (X:(HK.K w.params).In h) (G:h.Ns mainGlobals mg) (hfa:mg "law"=some (.ref fa)):∃ fd:FuncData,(∀ (s:Shared) (v:Value),BindsTo s fd ⟨[v],[]⟩ [("script",v)])∧∀ base:Heap,(HK.K w.params).In base→base.Ns mainGlobals mg→FnOk l.prog w (HK.K w.params) mg base (CX1 l.prog w) 103 fa fd ["script"] (lift (HK.K w.params) 1 (sLaw)):=by
 have e:=hfa.symm.trans (PySem.W.mg_of X G a_law)
 cases e
 exact ⟨fd_law,fun s v=>.of_eq rfl,fun base _ _=>q_law X G⟩
end
theorem walk {l:PySem.W.OpenLaw} {q:Program} {loose:List Str} {XP:(Str→Option Value)→Heap→Prop} {d:DefRec} (hn:l.most=some 63) (hdf:d.params.defaults=[]) (hdn:d.name="law"):
  PySem.W.WalkO q loose XP HK.hook.says l.row.toRowW d [] (fun f vs=>PySem.call f vs):=
 L2.walk_of (n:=63) (k:=103) (x:="script") (K:=HK.K) (CX:=fun w=>CX1 l.prog w) (sp:=fun w=>lift (HK.K w.params) 1 (sLaw)) hn (by decide) hdf ⟨rfl,by decide,by decide⟩ (fun _ _ Y=>Y) (fun w mg fa h X G hmg=>all fa X G (hdn ▸ hmg)) (fun w H a ns hl hO hS=>law_sp (relS_law fun ns _ hl=>⟨ns,rfl,hl⟩) (HK.K w.params) H a ns hl hO hS) fun _ _ _ _ _ z=>cx1_no z
end Lk26
open PySem PySem.W PyProof.Rows
set_option maxRecDepth 100000 in
set_option maxHeartbeats 0 in
theorem PySem.Challenge.cw_starsieve_k26_which_trees_show_it_holds : PySem.Challenge.rw_starsieve_k26_which_trees_show_it.Holds := by
 have said:PySem.Challenge.rw_starsieve_k26_which_trees_show_it.row.wellSaid=true:=by decide +kernel
 refine ⟨by decide +kernel,?_⟩
 refine PySem.W.holds_open (q:=HK.qv) (loose:=[]) (Xt:=HK.Xt) (XP:=XL HK.qv []) (Yf:=HK.hook.obs) (Ya:=HK.hook.val) (YP:=HK.hook.says) (N:=12000) HK.left HK.hook.of HK.hook.keeps
  (fun s e=>xl_of s (Bool.and_eq_true_iff.mp e).1) XL.keeps (by rfl) (by rfl) (by rfl) (fun s e=>recFacts_of (Bool.and_eq_true_iff.mp e).2) (by rfl) (by assumption) (by decide +kernel) ⟨rfl,rfl,rfl,rfl,rfl,by decide +kernel⟩ ?hw ?hc
 case hw=>exact ⟨[.list []],by decide +kernel,by decide +kernel⟩
 exact Lk26.walk rfl rfl rfl
