import PyProof.Rows.All
import Wide.All
import OpenK.AllK
import Wide.FinOn
import Lean
import PyProof.EqAt
import PyProof.EqKinds
import PyProof.TupleCall
import PyProof.NeKinds
import PyProof.FactsAll.range_2
import PyProof.FactsAll.tuple_2
import PyProof.FactsAll.tuple
import PyProof.ListRange
import PyProof.ExcInit
import KE.KDictList
import PyProof.DictCompW
import PyProof.IsiNone
import PySem.Challenge.RW_starsieve_k37_orders_and_refusals
set_option compiler.extract_closed false
set_option bootstrap.genMatcherCode false
set_option genSizeOf false
set_option Elab.async false
set_option maxRecDepth 100000
noncomputable section
local macro_rules|`(def $n:declId $s:optDeclSig $v:declVal)=>do return (←`(noncomputable def $n:declId $s:optDeclSig $v:declVal)).raw.rewriteBottomUp (·.setInfo .none)
local macro_rules|`(abbrev $n:declId $s:optDeclSig $v:declVal)=>do return (←`(noncomputable abbrev $n:declId $s:optDeclSig $v:declVal)).raw.rewriteBottomUp (·.setInfo .none)
local macro_rules|`(theorem $n:declId $s:declSig $v:declVal)=>do
 if n.raw.getPos?.isNone then Lean.Macro.throwUnsupported
 return (←`(theorem $n:declId $s:declSig $v:declVal)).raw.rewriteBottomUp (·.setInfo .none)
def nZf.{u}{a:Sort u}(h:false=true):a:=nomatch h
local macro_rules|`(~~~$x)=>`(($x).heap.objs.size)
local macro_rules|`(↥$x)=>`(PySem.wpAny (PySem.model ($x).prog ($x).w) ($x).A)
local macro_rules|`(!0)=>`(by omega)
local macro_rules|`(!1)=>`(by decide)
local macro_rules|`(!!$x)=>`(by simpa using $x)
local macro_rules|`(⇑$x)=>`(PySem.Str.ofString $x)
abbrev AA:=List Nat
abbrev AB:=List PySem.Value
abbrev AC:=List (PySem.Addr×PySem.Obj)
abbrev AD:=List PySem.Str
abbrev AE:=List PySem.Expr
abbrev AF:=List PySem.Stmt
abbrev AG:=PySem.Value->PySem.Shared->Prop
abbrev AH:=PySem.Str->Option PySem.Value
abbrev AI:=PySem.Shared
abbrev AJ:=PySem.FuncData
abbrev AK:=PySem.Program
abbrev AL:=String
abbrev AM:=PySem.Around
abbrev AN:=PySem.Value
abbrev AO:=PySem.Expr
abbrev AQ:=PySem.Addr
local macro_rules|`(tactic|rfl')=>`(tactic|kernel_rfl)
local macro_rules|`(tactic|ac_rfl)=>`(tactic|decide +kernel)
abbrev PF:=PySem.W.Frag
set_option linter.all false
namespace L2
open PySem PySem.Spec PyProof.Rows
def ae:=@Bool.and_eq_true
def af:=@PySem.wpAny_bind
def ag:=@List.length_map
def ah:=@PySem.Heap.get?_push_of_some
def ai:=@PySem.wpAny_pure
def al:=@List.mem_singleton
def am:=@List.size_toArray
def ar:=@List.getElem?_eq_some_iff
def av:=@beq_iff_eq
def aw:=@List.mem_append_right
def ax:=@Nat.le_refl
def ay:=@PySem.Heap.lt_size
def aE:=@List.getElem?_eq_getElem
def aI:=@List.length_append
def aS:=@PySem.Heap.get?_push_size
def aT:=@List.contains_iff_mem
def a7:=@List.mem_cons
def a8:=@Option.some.injEq
def a9:=@List.map_cons
def ba:=@List.mem_append
def bg:=@List.all_eq_true
def bi:=@Nat.lt_of_lt_of_le
def bp:=@List.mem_cons_self
def bq:=@decide_eq_true
def br:=@Option.map_eq_some_iff
def bv:=@List.mem_cons_of_mem
def bB:=@decide_eq_false
def bP:=@Bool.false_ne_true
def bS:=@decide_eq_true_iff
def bX:=@List.mem_map
def b6:=@List.drop_eq_getElem_cons
def b9:=@List.getElem?_map
def ca:=@Nat.ne_of_lt
def cb:type_of% @Int.toNat_natCast:=@Int.toNat_natCast
def ce:=@Nat.le_trans
def cf:=@List.mem_of_getElem?
def ci:=@Int.eq_ofNat_of_zero_le
def ck:type_of% @List.replicate_succ:=@List.replicate_succ
def cm:=@PySem.wpAny_mono
def cp:type_of% @Array.length_toList:=@Array.length_toList
def cq:=@Option.isSome_iff_exists
def cr:=@beq_eq_false_iff_ne
def cw:=@List.cons.injEq
def cy:=@Bool.or_eq_true
def cK:=@List.length_eq_zero_iff
def cS:=@List.getD_eq_getElem?_getD
def c6:type_of% @List.length_cons:=@List.length_cons
def c8:=@List.mem_append_left
def c9:=@List.map_append
def da:=@List.getElem_mem
def dc:=@List.map_map
def de:=@Bool.false_eq_true
def df:=@PySem.wpAny_callSpecial?_slot
def dk:=@Nat.le_add_right
def dn:=@List.length_replicate
def dv:=@PySem.W.kia_one
def dy:=@PySem.wpAny_field
def dA:=@PySem.wpAny_holding
def dE:=@Nat.zero_le
def dL:=@PySem.Heap.size_push
def dP:=@List.findIdx?_eq_some_iff_getElem
def dQ:=@of_decide_eq_true
def dS:=@PySem.mem_of_lookup
def d0:=@List.map_congr_left
def d3:=@Option.some.inj
def d4:=@List.nodup_cons
def d5:=@List.length_set
def d6:=@List.append_nil
def ee:=@List.eraseIdx_eq_take_drop_succ
def ef:=@Option.isNone_iff_eq_none
def eg:=@List.not_mem_nil
def eh:=@List.length_drop
def en:=@List.length_range
def et:=@PyProof.Rows.callWith_type1
def ez:=@PySem.wpAny_truthy_bool
def eA:=@Nat.lt_irrefl
def eD:=@Bool.and_true
def eI:=@PySem.wpAny_execs_nil
def eJ:=@PySem.F.slot_dict_keyiterator_next
def eK:=@congrArg
def eL:=@and_self
def eM:=@List.findIdx?_cons
def eP:=@Array.getElem?_toList
def eR:=@PySem.wpAny_call_entry
def eS:=@List.getElem?_append_left
def eT:=@PySem.wpAny_setField_rec
def eW:=@PySem.wpAny_seqItems
def e6:type_of% @List.flatten_cons:=@List.flatten_cons
def e7:=@Bool.true_and
def e8:=@PyProof.Rows.slot_tuple_getitem
def e9:=@PySem.wpAny_newObj_type
def fb:=@if_false
def fe:=@PySem.F.plainAttrs_list
def ff:=@List.length_take
def fg:=@List.isEmpty_iff
def fh:=@Bool.and_false
def fi:=@List.eq_nil_of_length_eq_zero
def fk:type_of% @List.length_singleton:=@List.length_singleton
def fm:=@Int.emod_lt_of_pos
def fo:=@List.dropLast_concat_getLast
def fq:=@Int.emod_nonneg
def ft:=@Bool.not_true
def fv:=@PySem.wpAny_typeNameOfWhole_keyiter
def fw:=@PySem.sizeLine_eq
def fx:=@Bool.not_eq_true'
def fy:=@PySem.wpAny_passesOwn
def fA:=@Nat.pow_le_pow_right
def fE:=@Nat.le_succ
def fF:=@List.mem_range
def fI:=@Bool.false_and
def fN:=@Array.getElem?_eq_some_iff
def fR:=@Nat.ne_of_gt
def fS:=@List.map_nil
def fT:type_of% @List.filterMap_cons:=@List.filterMap_cons
def gc:=@List.drop_length
def gd:=@Array.getElem?_eq_getElem
def ge:=@List.length_pos_iff
def gg:=@PySem.wpAny_rule
def gi:=@PySem.F.slot_tuple_iterator_next
def gl:=@List.mem_filter
def gs:=@PySem.wpAny_execs_cons
def gt:=@True.intro
def gu:=@PySem.wpAny_typeNameOf_keyiter
def gv:=@PySem.wpAny_comprehension_free
def gx:=@Nat.lt_succ_of_lt
def gy:=@List.take_of_length_le
def gz:=@List.nodup_nil
def gE:=@List.getElem?_set_self
def gI:=@PySem.wpAny_Call_Name_kw
def gL:=@PySem.call_meets
def gN:=@List.cons_lt_cons_iff
def gS:=@Nat.min_eq_right
def gT:=@List.any_eq_true
def gV:=@List.cons.inj
def gX:=@PySem.wpAny_pyIter_list
def g0:=@PySem.wpAny_loadPart_at
def g6:type_of% @List.length_nil:=@List.length_nil
def g7:=@PySem.wpAny_standAt
def g9:=@PySem.Paired.length
abbrev Key:=Sum Int Str
def jr:Key->AN->Bool
 |.inl k,v=>Value.isInt k v
 |.inr x,v=>Value.isStrOf x v
def Qe(w:World):Key->Int
 |.inl k=>hashInt k
 |.inr x=>hashStr w x
def fO:∀{k:Key}{v:AN},jr k v=true->(∃i t,k=Sum.inl i/\v=Value.int i t)\/(∃x t,k=Sum.inr x/\v=Value.str x t)
 |.inl i,v,h=>by
  obtain ⟨t,e⟩:=Value.isInt_shape (k:=i) (v:=v) h;exact .inl ⟨i,t,rfl,e⟩
 |.inr x,v,h=>by
  obtain ⟨t,e⟩:=Value.isStrOf_shape (x:=x) (v:=v) h;exact .inr ⟨x,t,rfl,e⟩
def Qf(i:Int)(t:Tok):jr (.inl i) (.int i t)=true:=by simp[jr,Value.isInt]
def Qg(x:Str)(t:Tok):jr (.inr x) (.str x t)=true:=by simp[jr,Value.isStrOf]
def Qh(a b:Int):decide ((Sum.inl a:Key)=Sum.inl b)=(a==b):=by
 by_cases e:a=b
 .subst e;simp
 .have h:¬(Sum.inl a:Key)=Sum.inl b:=λq=>e (Sum.inl.inj q);rw[bB h];exact (cr.mpr e).symm
def Qi(a b:Str):decide ((Sum.inr a:Key)=Sum.inr b)=decide (a=b):=by
 by_cases e:a=b
 .subst e;simp
 .have h:¬(Sum.inr a:Key)=Sum.inr b:=λq=>e (Sum.inr.inj q);rw[bB h,bB e]
def Qj(a:Int)(b:Str):decide ((Sum.inl a:Key)=Sum.inr b)=false:=bB (λq=>nomatch q)
def Qk(a:Str)(b:Int):decide ((Sum.inr a:Key)=Sum.inl b)=false:=bB (λq=>nomatch q)
def bQ(prog:AK)(w:World):PySem.KeyKind prog w Key where
 is:=jr
 hash:=Qe w
 inj:=λv a b ha hb=>by
  rcases fO ha with ⟨i,t,rfl,rfl⟩ |⟨x,t,rfl,rfl⟩
  .rcases fO hb with ⟨j,u,rfl,e⟩ |⟨y,u,rfl,e⟩
   .injection e with e1 _;rw[e1]
   .exact nomatch e
  .rcases fO hb with ⟨j,u,rfl,e⟩ |⟨y,u,rfl,e⟩
   .exact nomatch e
   .injection e with e1 _;rw[e1]
 byValue:=λk v h=>by
  rcases fO h with ⟨i,t,rfl,rfl⟩ |⟨x,t,rfl,rfl⟩ <;> rfl
 pyHash:=λhv h=>by
  rcases fO hv with ⟨i,t,rfl,rfl⟩ |⟨x,t,rfl,rfl⟩
  .exact wpAny_pyHash_int h
  .exact wpAny_pyHash_str h
 eqBool:=λhu hv h=>by
  rcases fO hu with ⟨i,t,rfl,rfl⟩ |⟨x,t,rfl,rfl⟩
  .rcases fO hv with ⟨j,u,rfl,rfl⟩ |⟨y,u,rfl,rfl⟩
   .rw[Qh]at h;exact wpAny_eqBool_int h
   .rw[Qj]at h;exact SeqAt.EqAt.int_str i t y u _ _ _ _ h
  .rcases fO hv with ⟨j,u,rfl,rfl⟩ |⟨y,u,rfl,rfl⟩
   .rw[Qk]at h;exact SeqAt.EqAt.str_int x t j u _ _ _ _ h
   .rw[Qi]at h;exact wpAny_eqBool_str h
 «strs»:=λk x t v h=>by
  rcases fO h with ⟨i,u,rfl,e⟩ |⟨y,u,rfl,e⟩
  .exact nomatch e
  .injection e with e1 _;subst e1;cases v <;> rfl
def Ql(prog:AK)(w:World)(i:Int)(t:Tok):(bQ prog w).is (.inl i) (.int i t)=true:=Qf i t
def Qm(prog:AK)(w:World)(x:Str)(t:Tok):(bQ prog w).is (.inr x) (.str x t)=true:=Qg x t
inductive V where
 |non |bl (b:Bool) |int (i:Int) |str (x:Str) |byt (b:Array UInt8) |flt (b:UInt64) |ref (a:AQ) |ty (n:AL)
 deriving DecidableEq
abbrev AR:=List V
def RelV:V->AN->Prop
 |.non,u=>u=Value.none
 |.bl b,u=>u=Value.bool b
 |.int i,u=>∃t,u=Value.int i t
 |.str x,u=>∃t,u=Value.str x t
 |.byt b,u=>∃t,u=Value.bytes b t
 |.flt b,u=>∃t,u=Value.float b t
 |.ref a,u=>u=Value.ref a
 |.ty n,u=>u=Value.type n
abbrev Vals:AR->AB->Prop:=Paired RelV
def Vals.length{xs:AR}{us:AB}(r:Vals xs us):xs.length=us.length:=g9 r
def Vals.get:∀{xs:AR}{us:AB}{i:Nat}{x:V},Vals xs us->xs[i]?=some x->∃u,us[i]?=some u/\RelV x u
 |_,_,_,_,.nil,e=>by simp at e
 |_,_,0,_,.cons r _,e=>by simp at e;subst e;exact ⟨_,rfl,r⟩
 |_,_,i+1,x,.cons _ t,e=>by
  obtain ⟨u,h1,h2⟩:=Vals.get (i:=i) (x:=x) t (!!e);exact ⟨u,!!h1,h2⟩
def Vals.set{x:V}{u:AN}(r:RelV x u):∀{xs:AR}{us:AB}(i:Nat),Vals xs us->Vals (xs.set i x) (us.set i u)
 |_,_,_,.nil=>.nil
 |_,_,0,.cons _ t=>.cons r t
 |_,_,i+1,.cons q t=>.cons q (Vals.set r i t)
def Vals.append:∀{xs ys:AR}{us ws:AB},Vals xs us->Vals ys ws->Vals (xs++ys) (us++ws)
 |_,_,_,_,.nil,s=>s
 |_,_,_,_,.cons r t,s=>.cons r (Vals.append t s)
def Vals.take:∀{xs:AR}{us:AB}(n:Nat),Vals xs us->Vals (xs.take n) (us.take n)
 |_,_,0,_=>.nil
 |_,_,_+1,.nil=>.nil
 |_,_,n+1,.cons r t=>.cons r (Vals.take n t)
def Vals.drop:∀{xs:AR}{us:AB}(n:Nat),Vals xs us->Vals (xs.drop n) (us.drop n)
 |_,_,0,r=>r
 |_,_,_+1,.nil=>.nil
 |_,_,n+1,.cons _ t=>Vals.drop n t
def RelO:Option V->Option AN->Prop
 |some v,some u=>RelV v u
 |none,none=>True
 |_,_=>False
def KV{κ:Type}:List (κ×V)->List (κ×AN)->Prop:=Paired λ(p:κ×V) (q:κ×AN)=>p.1=q.1/\RelV p.2 q.2
def kV:Key->V
 |.inl i=>.int i
 |.inr x=>.str x
inductive HO where
 |lst (xs:AR)
 |tup (xs:AR)
 |dK (kvs:List (Key×V)) |dT (kvs:List (List Key×V))
 |set (S:Int->Bool) (n:Nat)
 |ins (C dx:AQ) (fs:List (Str×V))
 |own (x:AQ)
 |xd (fs:List (Str×V))
 |met (f x:AQ)
 |rng (lo hi:Int)
 |frz (o:Obj) (u:HO)
 |tbl (ps:Array AN)
 |ext (φ:Heap->Prop)
abbrev Hp:=AQ->Option HO
def upd(H:Hp)(a:AQ)(o:HO):Hp:=λb=>if b=a then some o else H b
def cY{H:Hp}{a:AQ}{o:HO}:upd H a o a=some o:=by unfold upd;rw[if_pos rfl]
def aF{H:Hp}{a b:AQ}{o:HO}(h:b≠a):upd H a o b=H b:=by unfold upd;rw[if_neg h]
def lB{H:Hp}{a b:AQ}{o u:HO}(h:H a=some o)(h':H b=some u)(d:o≠u):a≠b:=by intro e;subst e;rw[h]at h';exact d (d3 h')
def aZ{H:Hp}{a b:AQ}{o:HO}(h:H a=some o)(h':H b=none):a≠b:=by intro e;subst e;rw[h]at h';cases h'
section
variable (P:AK) (w:World)
def ObjOk(H:Hp)(h:Heap)(a:AQ):HO->Prop
 |.lst xs=>xs.length<=sizeLine/\∃(its:AB) (n:Nat),Vals xs its/\h.get? a=some { cls:=.type "list",data:=.seq its.toArray n }
 |.tup xs=>xs.length<=sizeLine/\∃its:AB,Vals xs its/\IsTup h a its.toArray
 |.dK kvs=>kvs.length<=sizeLine/\(a==sysModules)=false/\∃vs,KV kvs vs/\h.DictOf (bQ P w) a vs
 |.dT kvs=>kvs.length<=sizeLine/\(a==sysModules)=false/\∃xs:List (List Key×AQ×AN),
   Paired (λ(p:List Key×V) (q:List Key×AQ×AN)=>p.1=q.1/\H q.2.1=some (.tup (p.1.map kV))/\RelV p.2 q.2.2) kvs xs/\
   ∃o es ep,h.get? a=some o/\o.ExactDict/\o.data=.dict es ep/\es.toList=xs.map (entryOfKey (tupleKind (bQ P w)))/\(xs.map (·.1)).Nodup
 |.set S n=>h.SetOf (intKind P w) a S n
 |.ins C dx fs=>H dx=some (.own a)/\fs.length<=1000/\dx≠a/\h.get? a=some (PySem.W.instObj C dx)/\
   ∃mA,h.Ns1 dx mA/\(∀f,RelO (fs.lookup f) (mA f))/\PySem.Within mA (fs.map (·.1))
 |.own _=>∃o,h.get? a=some o
 |.xd fs=>∃mA,h.Ns1 a mA/\∀f,RelO (fs.lookup f) (mA f)
 |.rng lo hi=>∃t u v,h.get? a=some { cls:=.type "range",data:=.fields #[.int lo t,.int hi u,.int 1 v] }
 |.frz o u=>h.get? a=some o/\ObjOk H h a u
 |.tbl ps=>h.get? a=some { cls:=.none,data:=.fields ps }
 |.met f x=>h.get? a=some (PySem.W.methodObj (.ref f) (.ref x))
 |.ext φ=>φ h/\(∃o,h.get? a=some o)/\∀h1 h2:Heap,φ h1->(∀o,h1.get? a=some o->h2.get? a=some o)->φ h2
def HOk(H:Hp)(h:Heap):Prop:=∀a o,H a=some o->ObjOk P w H h a o
end
section
variable {P:AK} {w:World} {H H':Hp} {h h':Heap} {a:AQ} {o:HO}
theorem ObjOk.lt(x:ObjOk P w H h a o):a < h.objs.size:=by
 cases o with
 |lst xs=>obtain ⟨_,_,_,_,e⟩:=x;exact ay e
 |tup xs=>obtain ⟨_,_,_,p⟩:=x;exact p.lt
 |dK kvs=>obtain ⟨_,_,_,_,o,_,_,e,_⟩:=x;exact ay e
 |dT kvs=>obtain ⟨_,_,_,_,o,_,_,e,_⟩:=x;exact ay e
 |set S n=>obtain ⟨o,_,_,_,e,_⟩:=x;exact ay e
 |ins C dx fs=>obtain ⟨_,_,_,e,_⟩:=x;exact ay e
 |own y=>obtain ⟨_,e⟩:=x;exact ay e
 |xd fs=>obtain ⟨_,⟨_,_,_,e,_⟩,_⟩:=x;exact ay e
 |rng lo hi=>obtain ⟨_,_,_,e⟩:=x;exact ay e
 |frz ob u=>obtain ⟨e,_⟩:=x;exact ay e
 |tbl ps=>exact ay (show h.get? a=some _ from x)
 |met f y=>exact ay (show h.get? a=some _ from x)
 |ext φ=>obtain ⟨_,⟨_,e⟩,_⟩:=x;exact ay e
theorem Paired.mapP{α β:Type}{F G:α->β->Prop}:∀{l₁:List α}{l₂:List β},Paired F l₁ l₂->(∀a b,F a b->G a b)->Paired G l₁ l₂
 |_,_,.nil,_=>.nil
 |_,_,.cons r t,f=>.cons (f _ _ r) (Paired.mapP t f)
theorem ObjOk.stay(x:ObjOk P w H h a o)(k:∀b u,(b=a\/H b=some (.own a))->h.get? b=some u->h'.get? b=some u)
  (ho:∀b,H b=some (.own a)->H' b=some (.own a)) (ht:∀b xs,H b=some (.tup xs)->H' b=some (.tup xs)):ObjOk P w H' h' a o:=by
 induction o with
 |lst xs=>obtain ⟨z,its,n,r,e⟩:=x;exact ⟨z,its,n,r,k _ _ (.inl rfl) e⟩
 |tup xs=>obtain ⟨z,its,r,ob,e,c⟩:=x;exact ⟨z,its,r,ob,k _ _ (.inl rfl) e,c⟩
 |dK kvs=>obtain ⟨z,y,vs,r,ob,es,ep,e,c⟩:=x;exact ⟨z,y,vs,r,ob,es,ep,k _ _ (.inl rfl) e,c⟩
 |dT kvs=>
  obtain ⟨z,y,xs,r,ob,es,ep,e,c⟩:=x;exact ⟨z,y,xs,Paired.mapP r λp q z=>⟨z.1,ht _ _ z.2.1,z.2.2⟩,ob,es,ep,k _ _ (.inl rfl) e,c⟩
 |set S n=>obtain ⟨ob,es,ep,t,e,c⟩:=x;exact ⟨ob,es,ep,t,k _ _ (.inl rfl) e,c⟩
 |ins C dx fs=>
  obtain ⟨d,z,ne,e,mA,⟨od,es,ep,e2,c⟩,r⟩:=x;exact ⟨ho _ d,z,ne,k _ _ (.inl rfl) e,mA,⟨od,es,ep,k _ _ (.inr d) e2,c⟩,r⟩
 |own y=>obtain ⟨ob,e⟩:=x;exact ⟨ob,k _ _ (.inl rfl) e⟩
 |xd fs=>obtain ⟨mA,⟨od,es,ep,e,c⟩,r⟩:=x;exact ⟨mA,⟨od,es,ep,k _ _ (.inl rfl) e,c⟩,r⟩
 |rng lo hi=>obtain ⟨t,u,v,e⟩:=x;exact ⟨t,u,v,k _ _ (.inl rfl) e⟩
 |frz ob u ih=>obtain ⟨e,q⟩:=x;exact ⟨k _ _ (.inl rfl) e,ih q⟩
 |tbl ps=>
  have e:h.get? a=some { cls:=.none,data:=.fields ps }:=x;show h'.get? a=some { cls:=.none,data:=.fields ps };exact k a _ (.inl rfl) e
 |met f y=>
  have e:h.get? a=some (PySem.W.methodObj (.ref f) (.ref y)):=x;show h'.get? a=some (PySem.W.methodObj (.ref f) (.ref y));exact k a _ (.inl rfl) e
 |ext φ=>obtain ⟨p,⟨o,e⟩,st⟩:=x;exact ⟨st _ _ p λo q=>k _ _ (.inl rfl) q,⟨o,k _ _ (.inl rfl) e⟩,st⟩
theorem HOk.lt(x:HOk P w H h)(e:H a=some o):a < h.objs.size:=(x a o e).lt
theorem HOk.fresh(x:HOk P w H h)(e:h.objs.size<=a):H a=none:=by
 cases q:H a with
 |none=>rfl
 |some u=>exact absurd (bi (x.lt q) e) (eA _)
theorem HOk.kept(x:HOk P w H h)(k:∀b u,h.get? b=some u->h'.get? b=some u):HOk P w H h':=λa o e=>
 (x a o e).stay (λb u _ q=>k b u q) (λ_ q=>q) λ_ _ q=>q
theorem HOk.laid(x:HOk P w H h)(k:∀b u,h.get? b=some u->h'.get? b=some u)(hp:h.objs.size<=a)(new:ObjOk P w (upd H a o) h' a o):HOk P w (upd H a o) h':=λb u e=>by
 have hn:=x.fresh hp;by_cases hb:b=a
 .subst hb;rw[cY]at e;cases e;exact new
 .rw[aF hb]at e;exact (x b u e).stay (λc v _ q=>k c v q) (λc q=>by rw[aF (aZ q hn)];exact q) λc xs q=>by rw[aF (aZ q hn)];exact q
end
def Rd(H:Hp)(a:AQ)(u:HO):Prop:=H a=some u\/∃o,H a=some (.frz o u)
def Rd.ok{P:AK}{w:World}{H:Hp}{h:Heap}{a:AQ}{u:HO}(r:Rd H a u)(x:HOk P w H h):ObjOk P w H h a u:=by
 rcases r with r |⟨o,r⟩
 .exact x a u r
 .obtain ⟨_,q⟩:=x a _ r;exact q
def Mut:Option HO->Prop
 |some (.lst _)=>True
 |some (.dK _)=>True
 |some (.dT _)=>True
 |some (.set _ _)=>True
 |some (.ins _ _ _)=>True
 |some (.ext _)=>True
 |_=>False
section
variable {P:AK} {w:World} {H:Hp} {h h':Heap} {x e:AQ} {o':HO}
theorem HOk.write(ok:HOk P w H h)(mu:Mut (H x))(he:e=x\/H e=some (.own x))(k:∀b u,b≠e->h.get? b=some u->h'.get? b=some u)(heo:∃u,h'.get? e=some u)
  (new:ObjOk P w (upd H x o') h' x o'):HOk P w (upd H x o') h':=λb u q=>by
 have nown:∀c y,H c=some (.own y)->c≠x:=λc y r z=>by subst z;rw[r]at mu;exact mu
 have ntup:∀c xs,H c=some (.tup xs)->c≠x:=λc xs r z=>by subst z;rw[r]at mu;exact mu
 by_cases hb:b=x
 .subst hb;rw[cY]at q;cases q;exact new
 .rw[aF hb]at q;by_cases hbe:b=e
  .have q':H b=some (.own x):=by
    rcases he with z |z
    .exact absurd (hbe.trans z) hb
    .rw[hbe];exact z
   rw[q]at q';cases q';obtain ⟨v,hv⟩:=heo;exact ⟨v,by rw[hbe];exact hv⟩
  .refine (ok b u q).stay (λc v hc r=>k c v ?_ r) (λc r=>by rw[aF (nown c b r)];exact r) λc xs r=>by rw[aF (ntup c xs r)];exact r
   rcases hc with rfl |hc
   .exact hbe
   .rintro rfl;rcases he with z |z
    .exact nown c b hc z
    .rw[hc]at z;cases z;exact hb rfl
end
structure Un(fs ex:List AQ)(H H':Hp)(h h':Heap):Prop where
 keep:∀b o,h.get? b=some o->H b=none->b∉fs->b∉ex->h'.get? b=some o
 slot:∀b o,h.get? b=some o->H b=none->b∈fs->b∉ex->∃sl,h'.get? b=some { o with slots:=sl }
 free:∀b o,h.get? b=some o->H b=none->b∉ex->H' b=none
 there:∀b o,h.get? b=some o->b∉ex->∃o',h'.get? b=some o'
 tups:∀b xs,H b=some (.tup xs)->H' b=some (.tup xs)
 frzs:∀b o u,H b=some (.frz o u)->H' b=some (.frz o u)
 tbls:∀b ps,H b=some (.tbl ps)->∃more,H' b=some (.tbl (ps++more))
section
variable {fs fs' ex ex':List AQ} {H H1 H2:Hp} {h h1 h2 h':Heap} {a x e:AQ} {o:HO}
theorem Un.any(u:Un fs ex H H1 h h1){b:AQ}{ob:Obj}(q:h.get? b=some ob)(n:H b=none)(hx:b∉ex):∃sl,h1.get? b=some { ob with slots:=sl }:=by
 by_cases hb:b∈fs
 .exact u.slot b ob q n hb hx
 .exact ⟨ob.slots,u.keep b ob q n hb hx⟩
theorem Un.kept(k:∀b u,h.get? b=some u->h'.get? b=some u):Un fs ex H H h h':=
 ⟨λb ob q _ _ _=>k b ob q,λb ob q _ _ _=>⟨ob.slots,k b ob q⟩,λ_ _ _ n _=>n,λb ob q _=>⟨ob,k b ob q⟩,λ_ _ q=>q,λ_ _ _ q=>q,λ_ ps q=>⟨#[],by rw[q];simp⟩⟩
theorem Un.refl:Un fs ex H H h h:=Un.kept λ_ _ q=>q
theorem Un.laid(k:∀b u,h.get? b=some u->h'.get? b=some u)(hp:h.objs.size<=a)(hn:H a=none):Un fs ex H (upd H a o) h h' where
 keep:=λb u q _ _ _=>k b u q
 slot:=λb u q _ _ _=>⟨u.slots,k b u q⟩
 free:=λb u q n _=>by rw[aF (ca (bi (ay q) hp))];exact n
 there:=λb u q _=>⟨u,k b u q⟩
 tups:=λb xs q=>by rw[aF (aZ q hn)];exact q
 frzs:=λb u xs q=>by rw[aF (aZ q hn)];exact q
 tbls:=λb ps q=>⟨#[],by rw[aF (aZ q hn),q];simp⟩
theorem Un.write(mu:Mut (H x))(he:e=x\/H e=some (.own x))(k:∀b u,b≠e->h.get? b=some u->h'.get? b=some u)(heo:∃u,h'.get? e=some u):Un fs ex H (upd H x o) h h':=by
 have hx:∀b,H b=none->b≠x:=λb n z=>by subst z;rw[n]at mu;exact mu
 have hb:∀b,H b=none->b≠e:=λb n z=>by
  subst z;rcases he with r |r
  .exact hx b n r
  .rw[n]at r;cases r
 have hm:∀b u,H b=some u->¬Mut (some u)->b≠x:=λb u q nm z=>by subst z;rw[q]at mu;exact nm mu
 refine ⟨λb u q n _ _=>k b u (hb b n) q,λb u q n _ _=>⟨u.slots,k b u (hb b n) q⟩,λb u q n _=>by rw[aF (hx b n)];exact n,λb u q _=>?_,
  λb xs q=>by rw[aF (hm b _ q λz=>z)];exact q,λb u xs q=>by rw[aF (hm b _ q λz=>z)];exact q,λb ps q=>⟨#[],by rw[aF (hm b _ q λz=>z),q];simp⟩⟩
 by_cases hbe:b=e
 .subst hbe;exact heo
 .exact ⟨u,k b u hbe q⟩
end
def trk(h:Heap)(H:Hp):List AQ:=(List.range h.objs.size).filter λa=>(H a).isSome
def fP(h:Heap)(H:Hp):Heap:=PySem.W.hideAll h (trk h H)
def Qn(h:Heap)(H:Hp):(fP h H).objs.size=h.objs.size:=PySem.W.hideAll_size _ _
def Qo{h:Heap}{H:Hp}{b:AQ}{o:Obj}(e:h.get? b=some o)(n:H b=none):(fP h H).get? b=some o:=
 PySem.W.hideAll_get _ e λhm=>by
  have q:(H b).isSome=true:=(gl.mp hm).2;rw[n]at q;simp at q
def Qp{h:Heap}{H:Hp}{b:AQ}{o:Obj}(e:(fP h H).get? b=some o):h.get? b=some o/\H b=none:=by
 have e':h.get? b=some o:=PySem.W.of_hideAll (trk h H) e;refine ⟨e',?_⟩;cases q:H b with
 |none=>rfl
 |some x=>
  have hm:b∈trk h H:=gl.mpr ⟨fF.mpr (ay e'),by simp[q]⟩;have z:(fP h H).get? b=none:=PySem.W.hideAll_none (trk h H) hm;rw[z]at e;cases e
def Qq(g h:Heap)(L:AQ):AC:=(List.range h.objs.size).filterMap λa=>if a=L\/(g.get? a).isSome=true then none else (h.get? a).map λo=>(a,o)
def rest(g h:Heap)(L d:AQ):AC:=(Qq g h L).filter λp=>decide (p.1≠d)
structure Mod(K:PF)(mg:AH)(base:Heap):Prop where
 kin:K.In base
 glob:base.Ns mainGlobals mg
 blt:∃mb,base.Ns builtinsNs mb/\∀x:Str,x≠"__name__"->mb x=bootBuiltins x
 nolimit:base.NoLimit
structure Cx where
 prog:AK
 w:World
 K:PF
 mg:Str->Option AN
 base:Heap
 A:AM
 N:AD
 s₀:AI
 H₀:Hp
 env:Env
 outer:List Env
 stack:List Env
 ex:List AQ
 fn:Str->Bool
 calm:Bool
 pn:AC
 xe:AN->AI->Prop
def frs(l:List Env):List AQ:=l.filterMap (·.frame)
abbrev Cx.fs(X:Cx):List AQ:=frs X.outer
def Vis(sc:Scope)(x:Str):Prop:=sc.names.lookup x=some .local\/sc.names.lookup x=some .cell\/sc.names.lookup x=some .free
def Loc(sc:Scope)(x:Str):Prop:=sc.names.lookup x=some .local\/sc.names.lookup x=some .cell
def Look(env:Env)(h:Heap)(m:AH)(x:Str)(u:AN):Prop:=
 (env.kindOf x=some .local/\m x=some u)\/((env.kindOf x=some .cell\/env.kindOf x=some .free)/\∃c,env.cells.lookup x=some c/\h.IsCell c (some u))
structure Cx.Ok(X:Cx):Prop where
 mod:Mod X.K X.mg X.base
 kind:X.env.scope.kind=.function
 glob:X.env.globals=mainGlobals
 blt:X.env.builtins=builtinsNs
 above:X.s₀.heap.objs.size<=X.env.locals
 inj:∀x y c,X.env.cells.lookup x=some c->X.env.cells.lookup y=some c->x=y
 has:∀x,(X.env.kindOf x=some .cell\/X.env.kindOf x=some .free)->∃c,X.env.cells.lookup x=some c
 cab:∀x c,X.fn x=true->X.env.cells.lookup x=some c->X.s₀.heap.objs.size<=c
 hd:X.calm=true->X.A.handled=none
 frames:X.A.frames=some X.stack
 stk:X.stack=X.outer\/(X.stack=X.env::X.outer/\X.env.frame=some X.env.locals)
 exf:∀b∈X.ex,b≠X.env.locals/\∀x c,X.env.cells.lookup x=some c->c≠b
 bs:∀b o,X.base.get? b=some o->X.s₀.heap.get? b=some o/\X.H₀ b=none
 bsz:X.base.objs.size<=X.s₀.heap.objs.size
 noex:∀b o,X.base.get? b=some o->b∉X.ex
 exfs:∀b∈X.ex,b∉X.fs
 funs:X.s₀.heap.FunFrames X.base X.outer
 frf:∀b∈X.fs,X.H₀ b=none
structure Inv(X:Cx)(p9:AC)(Y:List (Option V))(H:Hp)(s:AI):Prop where
 ok:X.Ok
 os:s.os=X.s₀.os
 bare:AllBare s.gens
 base:Un X.fs X.ex X.H₀ H X.s₀.heap s.heap
 loc:∃m,s.heap.Ns X.env.locals m/\∀(i:Nat)(x:Str)(v:V),X.N[i]?=some x->Y[i]?=some (some v)->Vis X.env.scope x->∃u,RelV v u/\Look X.env s.heap m x u
 cell:∀x c,X.env.cells.lookup x=some c->∃v,s.heap.IsCell c v
 free:H X.env.locals=none
 freeC:∀x c,X.env.cells.lookup x=some c->H c=none
 pin:∀p∈X.pn++p9,s.heap.get? p.1=some p.2/\H p.1=none/\p.1≠X.env.locals/\p.1∉X.fs/\∀v,p.2.data≠.cell v
 hok:HOk X.prog X.w H s.heap
 len:Y.length=X.N.length
section
variable {X:Cx} {p9:AC} {σ:List (Option V)} {H H':Hp} {s:AI} {h':Heap}
theorem Cx.Ok.nofr(ok:X.Ok){b:AQ}{o:Obj}(e:X.base.get? b=some o):b∉X.fs:=λhb=>by
 have:=(ok.funs.mem hb).1;rw[e]at this;cases this
theorem Inv.bs(I:Inv X p9 σ H s):∀b o,X.base.get? b=some o->s.heap.get? b=some o/\H b=none:=λb o e=>
 ⟨I.base.keep b o (I.ok.bs b o e).1 (I.ok.bs b o e).2 (I.ok.nofr e) (I.ok.noex b o e),I.base.free b o (I.ok.bs b o e).1 (I.ok.bs b o e).2 (I.ok.noex b o e)⟩
theorem Inv.bk(I:Inv X p9 σ H s):∀b o,X.base.get? b=some o->s.heap.get? b=some o:=λb o e=>(I.bs b o e).1
theorem Inv.mod(I:Inv X p9 σ H s):Mod X.K X.mg X.base:=I.ok.mod
theorem Inv.kIn(I:Inv X p9 σ H s):X.K.In s.heap:=I.ok.mod.kin.keeps I.bk
theorem Inv.lt(I:Inv X p9 σ H s):X.env.locals < (~~~s):=let ⟨_,hn,_⟩:=I.loc;hn.lt
theorem Inv.sz(I:Inv X p9 σ H s):X.s₀.heap.objs.size<=(~~~s):=ce I.ok.above (Nat.le_of_lt I.lt)
theorem Inv.nofs(I:Inv X p9 σ H s){a:AQ}(h:(~~~s)<=a):a∉X.fs:=λhb=>by
 obtain ⟨_,o,ho,_⟩:=I.ok.funs.mem hb;exact absurd (bi (ay ho) (ce I.sz h)) (eA _)
theorem Inv.cne(I:Inv X p9 σ H s):∀x c,X.env.cells.lookup x=some c->c≠X.env.locals:=λx c e z=>by
 obtain ⟨v,o,ho,hd⟩:=I.cell x c e;obtain ⟨m,⟨o',es,ep,ho',hd',_⟩,_⟩:=I.loc;rw[z,ho']at ho;cases ho;rw[hd']at hd;cases hd
theorem Inv.funs(I:Inv X p9 σ H s):s.heap.FunFrames X.base X.outer:=by
 have all:∀(l:List Env),(∀b∈frs l,b∈X.fs)->X.s₀.heap.FunFrames X.base l->s.heap.FunFrames X.base l:=by
  intro l;induction l with
  |nil=>intro _ _;trivial
  |cons env r ih=>
   intro hs hl;obtain ⟨hk,⟨L,o,hf,hn,ho,hd⟩,hr⟩:=hl;have hL:L∈X.fs:=hs L (by unfold frs;rw[fT,hf];exact bp);obtain ⟨sl,e⟩:=I.base.slot L o ho (I.ok.frf L hL) hL λz=>I.ok.exfs L z hL;exact ⟨hk,⟨L,_,hf,hn,e,hd⟩,ih (λb hb=>hs b (by unfold frs;rw[fT,hf];exact bv _ hb)) hr⟩
 exact all X.outer (λ_ hb=>hb) I.ok.funs
theorem Inv.stack(I:Inv X p9 σ H s):s.heap.FunFrames X.base X.stack:=by
 rcases I.ok.stk with e |⟨e,hf⟩
 .rw[e];exact I.funs
 .rw[e];obtain ⟨m,hn,_⟩:=I.loc;refine .cons (by rw[I.ok.kind];decide) hf hn ?_ I.funs;exact Heap.get?_none_of_le (ce I.ok.bsz I.ok.above)
theorem Inv.stkSub(I:Inv X p9 σ H s):∀b∈frs X.stack,b∈X.env.locals::X.fs:=λb hb=>by
 rcases I.ok.stk with e |⟨e,hf⟩
 .rw[e]at hb;exact bv _ hb
 .rw[e]at hb;unfold frs at hb;rw[fT,hf]at hb;exact hb
theorem Inv.stkFree(I:Inv X p9 σ H s):∀b∈frs X.stack,H b=none:=λb hb=>by
 rcases a7.mp (I.stkSub b hb) with e |hb
 .rw[e];exact I.free
 .obtain ⟨_,o,ho,_⟩:=I.ok.funs.mem hb;exact I.base.free b o ho (I.ok.frf b hb) λz=>I.ok.exfs b z hb
theorem Inv.step{g':Array GenState}{t':Nat}{d':Drawn}{ch:List AQ}(I:Inv X p9 σ H s)
  (hch:∀b∈ch,(b∈X.ex\/X.s₀.heap.objs.size<=b)/\b≠X.env.locals/\(∀x c,X.env.cells.lookup x=some c->c≠b)/\∀p∈X.pn++p9,p.1≠b)
  (keep:∀b o,b≠X.env.locals->b∉X.fs->b∉ch->s.heap.get? b=some o->H b=none->h'.get? b=some o)
  (slot:∀b o,b≠X.env.locals->b∈X.fs->b∉ch->s.heap.get? b=some o->H b=none->∃sl,h'.get? b=some { o with slots:=sl }) (free:∀b o,b∉ch->s.heap.get? b=some o->H b=none->H' b=none)
  (there:∀b o,b∉ch->s.heap.get? b=some o->∃o',h'.get? b=some o')
  (tups:∀b xs,H b=some (.tup xs)->H' b=some (.tup xs)) (frzs:∀b o u,H b=some (.frz o u)->H' b=some (.frz o u)) (tbls:∀b ps,H b=some (.tbl ps)->∃more,H' b=some (.tbl (ps++more)))
  (ns:∀m,s.heap.Ns X.env.locals m->h'.Ns X.env.locals m) (hok:HOk X.prog X.w H' h') (hg:AllBare g'):
  Inv X p9 σ H' { s with heap:=h',gens:=g',drawn:=d',toks:=t' }:=by
 have neL:∀b o,X.s₀.heap.get? b=some o->b≠X.env.locals:=λb o e=>ca (bi (ay e) I.ok.above);have neC:∀b o,X.s₀.heap.get? b=some o->b∉X.ex->b∉ch:=λb o e hx hb=>by
  rcases (hch b hb).1 with z |z
  .exact hx z
  .exact absurd (bi (ay e) z) (eA _)
 have cellK:∀x c,X.env.cells.lookup x=some c->∀v,s.heap.IsCell c v->h'.IsCell c v:=λx c e v ⟨o,ho,hd⟩=>by
  have nch:c∉ch:=λz=>(hch c z).2.2.1 x c e rfl;by_cases hc:c∈X.fs
  .obtain ⟨sl,q⟩:=slot c o (I.cne x c e) hc nch ho (I.freeC x c e);exact ⟨_,q,hd⟩
  .exact ⟨o,keep c o (I.cne x c e) hc nch ho (I.freeC x c e),hd⟩
 refine ⟨I.ok,I.os,hg,⟨λb o e n hb hx=>?_,λb o e n hb hx=>?_,λb o e n hx=>?_,λb o e hx=>?_,λb xs e=>tups b xs (I.base.tups b xs e),λb o xs e=>frzs b o xs (I.base.frzs b o xs e),λb ps e=>?_⟩,?_,λx c e=>?_,?_,λx c e=>?_,λp hp=>?_,hok,I.len⟩
 .exact keep b o (neL b o e) hb (neC b o e hx) (I.base.keep b o e n hb hx) (I.base.free b o e n hx)
 .obtain ⟨sl,e1⟩:=I.base.slot b o e n hb hx;obtain ⟨sl',e2⟩:=slot b _ (neL b o e) hb (neC b o e hx) e1 (I.base.free b o e n hx);exact ⟨sl',e2⟩
 .obtain ⟨o',e1⟩:=I.base.there b o e hx;exact free b o' (neC b o e hx) e1 (I.base.free b o e n hx)
 .obtain ⟨o',e1⟩:=I.base.there b o e hx;exact there b o' (neC b o e hx) e1
 .obtain ⟨m1,e1⟩:=I.base.tbls b ps e;obtain ⟨m2,e2⟩:=tbls b _ e1;exact ⟨m1++m2,by rw[e2,Array.append_assoc]⟩
 .obtain ⟨m,hn,hl⟩:=I.loc;refine ⟨m,ns m hn,λi x v e1 e2 e3=>?_⟩;obtain ⟨u,r,l⟩:=hl i x v e1 e2 e3;refine ⟨u,r,?_⟩;rcases l with l |⟨k,c,e,z⟩
  .exact .inl l
  .exact .inr ⟨k,c,e,cellK x c e _ z⟩
 .obtain ⟨v,z⟩:=I.cell x c e;exact ⟨v,cellK x c e v z⟩
 .obtain ⟨m,⟨o,_,_,ho,_⟩,_⟩:=I.loc;exact free _ o (λz=>(hch _ z).2.1 rfl) ho I.free
 .obtain ⟨v,o,ho,hd⟩:=I.cell x c e;exact free c o (λz=>(hch c z).2.2.1 x c e rfl) ho (I.freeC x c e)
 .obtain ⟨e,n,ne,nf,d⟩:=I.pin p hp;have nch:p.1∉ch:=λz=>(hch p.1 z).2.2.2 p hp rfl;exact ⟨keep p.1 p.2 ne nf nch e n,free p.1 p.2 nch e n,ne,nf,d⟩
theorem Inv.un{t':Nat}(I:Inv X p9 σ H s)(u:Un X.fs [] H H' s.heap h')(hok:HOk X.prog X.w H' h'):Inv X p9 σ H' { s with heap:=h',toks:=t' }:=by
 obtain ⟨m,⟨o,es,ep,ho,r⟩,_⟩:=id I.loc;obtain ⟨sl,hL⟩:=u.any ho I.free (by simp);exact I.step (g':=s.gens) (d':=s.drawn) (ch:=[]) (λ_ z=>nomatch z) (λb o _ hb _ e n=>u.keep b o e n hb (by simp)) (λb o _ hb _ e n=>u.slot b o e n hb (by simp)) (λb o _ e n=>u.free b o e n (by simp)) (λb o _ e=>u.there b o e (by simp)) u.tups u.frzs u.tbls (λm' hm=>by
  obtain ⟨o',es',ep',ho',r'⟩:=hm;rw[ho]at ho';cases ho';exact ⟨_,es',ep',hL,r'⟩) hok I.bare
theorem Inv.call{g':Array GenState}{t':Nat}{d':Drawn}{ch:List AQ}(I:Inv X p9 σ H s)(u:Un (frs X.stack) ch H H' s.heap h')(hok:HOk X.prog X.w H' h')(hg:AllBare g')
  (hch:∀b∈ch,(b∈X.ex\/X.s₀.heap.objs.size<=b)/\b≠X.env.locals/\(∀x c,X.env.cells.lookup x=some c->c≠b)/\∀p∈X.pn++p9,p.1≠b):
  Inv X p9 σ H' { s with heap:=h',gens:=g',drawn:=d',toks:=t' }:=by
 obtain ⟨m,⟨o,es,ep,ho,r⟩,_⟩:=id I.loc;obtain ⟨sl,hL⟩:=u.any ho I.free λz=>(hch _ z).2.1 rfl;exact I.step (ch:=ch) hch (λb o hL hb hc e n=>u.keep b o e n (λz=>(a7.mp (I.stkSub b z)).elim hL hb) hc) (λb o _ _ hc e n=>u.any e n hc) (λb o hc e n=>u.free b o e n hc) (λb o hc e=>u.there b o e hc) u.tups u.frzs u.tbls (λm' hm=>by
  obtain ⟨o',es',ep',ho',r'⟩:=hm;rw[ho]at ho';cases ho';exact ⟨_,es',ep',hL,r'⟩) hok hg
theorem Inv.turned{t':Nat}{it:AQ}(I:Inv X p9 σ H s)(k:∀b o,b≠it->s.heap.get? b=some o->h'.get? b=some o)(hn:H it=none)(hL:it≠X.env.locals)
  (h1:it∈X.ex\/X.s₀.heap.objs.size<=it) (h2:∀x c,X.env.cells.lookup x=some c->c≠it) (h3:∀p∈X.pn++p9,p.1≠it):Inv X p9 σ H { s with heap:=h',toks:=t' }:=by
 have nit:∀b u,H b=some u->b≠it:=λb u e z=>by rw[z,hn]at e;cases e
 refine I.step (g':=s.gens) (d':=s.drawn) (ch:=[it]) (λb hb=>?_) (λb o _ _ hc e _=>k b o (λz=>hc (by simp[z])) e) (λb o _ _ hc e _=>⟨o.slots,k b o (λz=>hc (by simp[z])) e⟩) (λ_ _ _ _ n=>n)
  (λb o hc e=>⟨o,k b o (λz=>hc (by simp[z])) e⟩) (λ_ _ e=>e) (λ_ _ _ e=>e) (λb ps e=>⟨#[],by rw[e];simp⟩) (λm hm=>?_) (λb u e=>?_) I.bare
 .have e:b=it:=by simpa using hb
  subst e;exact ⟨h1,hL,h2,h3⟩
 .obtain ⟨o,es,ep,ho,r⟩:=hm;exact ⟨o,es,ep,k _ o (Ne.symm hL) ho,r⟩
 .refine (I.hok b u e).stay (λc v hc q=>k c v ?_ q) (λ_ q=>q) λ_ _ q=>q;rcases hc with z |z
  .rw[z];exact nit b u e
  .exact nit c _ z
theorem Inv.tok(I:Inv X p9 σ H s)(t:Nat):Inv X p9 σ H { s with toks:=t }:=I.un (h':=s.heap) (t':=t) Un.refl I.hok
theorem Inv.kept{t':Nat}(I:Inv X p9 σ H s)(k:∀b u,s.heap.get? b=some u->h'.get? b=some u):Inv X p9 σ H { s with heap:=h',toks:=t' }:=I.un (Un.kept k) (I.hok.kept k)
theorem Inv.laid{a:AQ}{o:HO}{t':Nat}(I:Inv X p9 σ H s)(k:∀b u,s.heap.get? b=some u->h'.get? b=some u)(hp:(~~~s)<=a)(new:ObjOk X.prog X.w (upd H a o) h' a o):
  Inv X p9 σ (upd H a o) { s with heap:=h',toks:=t' }:=I.un (Un.laid k hp (I.hok.fresh hp)) (I.hok.laid k hp new)
theorem Inv.write{x e:AQ}{o:HO}{t':Nat}(I:Inv X p9 σ H s)(mu:Mut (H x))(he:e=x\/H e=some (.own x))(k:∀b u,b≠e->s.heap.get? b=some u->h'.get? b=some u)(heo:∃u,h'.get? e=some u)
  (new:ObjOk X.prog X.w (upd H x o) h' x o):Inv X p9 σ (upd H x o) { s with heap:=h',toks:=t' }:=I.un (Un.write mu he k heo) (I.hok.write mu he k heo new)
theorem Inv.pins_of{pins':AC}(I:Inv X p9 σ H s)(h:∀p∈pins',s.heap.get? p.1=some p.2/\H p.1=none/\p.1≠X.env.locals/\p.1∉X.fs/\∀v,p.2.data≠.cell v):Inv X pins' σ H s:=
 ⟨I.ok,I.os,I.bare,I.base,I.loc,I.cell,I.free,I.freeC,λp hp=>(ba.mp hp).elim (λz=>I.pin p (c8 _ z)) (h p),I.hok,I.len⟩
theorem vd{N:AD}(hN:N.Nodup){i j:Nat}{x:Str}(a:N[i]?=some x)(b:N[j]?=some x):i=j:=by obtain ⟨h1,e1⟩:=ar.mp a;obtain ⟨h2,e2⟩:=ar.mp b;exact (List.getElem_inj hN).mp (e1.trans e2.symm)
theorem Qs{M:Model}{A:AM}{E:AG}{i:Nat}{x:Str}{v:V}{u:AN}{Q:Unit->AI->Prop}(I:Inv X p9 σ H s)(hN:X.N.Nodup)(hi:X.N[i]?=some x)(hx:Loc X.env.scope x)(r:RelV v u)
  (h:∀s',Inv X p9 (σ.set i (some v)) H s'->(∃a,Heap.SameBut a s.heap s'.heap/\(a=X.env.locals\/X.env.cells.lookup x=some a))->Q () s') (hf:X.fn x=true\/X.env.scope.names.lookup x=some .local:=by first |exact .inl rfl |exact .inr rfl |assumption):wpAny M A (storeName X.env x u) Q E s:=by
 obtain ⟨m,hn,hl⟩:=id I.loc;have hcls:(X.env.scope.kind==.class||(X.env.scope.kind==.module&&X.env.locals != X.env.globals))=false:=by rw[I.ok.kind];rfl
 have hiσ:i < σ.length:=by rw[I.len];exact (ar.mp hi).1
 have cne:=I.cne;have tracked:∀{a:AQ}{h':Heap},(∃o,s.heap.get? a=some o/\H a=none)->Heap.SameBut a s.heap h'->HOk X.prog X.w H h':=λ{a h'} ha hs b ob e=>by
  obtain ⟨_,_,hfree⟩:=ha;refine (I.hok b ob e).stay (λc w' hc q=>(hs.2 c ?_).trans q) (λ_ q=>q) λ_ _ q=>q;rintro rfl;rcases hc with rfl |hc
  .rw[hfree]at e;cases e
  .rw[hfree]at hc;cases hc
 rcases hx with hk |hk
 .refine wpAny_storeName_local hk hn (λh' hn' hs=>?_) hcls;obtain ⟨oL,_,_,hoL,_⟩:=id hn;refine h _ ⟨I.ok,I.os,I.bare,⟨λb o e n hb hx=>?_,λb o e n hb hx=>?_,I.base.free,λb o e hx=>?_,I.base.tups,I.base.frzs,I.base.tbls⟩,⟨_,hn',λj y v' e1 e2 e3=>?_⟩,λy c e=>?_,I.free,I.freeC,λp hp=>?_,tracked ⟨oL,hoL,I.free⟩ hs,!!I.len⟩ ⟨_,hs,.inl rfl⟩
  .exact (hs.2 b (ca (bi (ay e) I.ok.above))).trans (I.base.keep b o e n hb hx)
  .obtain ⟨sl,e1⟩:=I.base.slot b o e n hb hx;exact ⟨sl,(hs.2 b (ca (bi (ay e) I.ok.above))).trans e1⟩
  .obtain ⟨o',e1⟩:=I.base.there b o e hx;exact ⟨o',(hs.2 b (ca (bi (ay e) I.ok.above))).trans e1⟩
  .by_cases hj:j=i
   .subst hj;rw[hi]at e1;cases e1;rw[gE hiσ]at e2;cases e2;exact ⟨u,r,.inl ⟨hk,by simp⟩⟩
   .rw[List.getElem?_set_ne (Ne.symm hj)]at e2;obtain ⟨u',r',q⟩:=hl j y v' e1 e2 e3;refine ⟨u',r',?_⟩;rcases q with ⟨k,e⟩ |⟨k,c,e,z⟩
    .refine .inl ⟨k,?_⟩;have:y≠x:=λe=>hj (vd hN e1 (e ▸ hi));simp[this,e]
    .exact .inr ⟨k,c,e,z.sameBut hs (cne y c e)⟩
  .obtain ⟨w',z⟩:=I.cell y c e;exact ⟨w',z.sameBut hs (cne y c e)⟩
  .obtain ⟨e,n,ne,nf,d⟩:=I.pin p hp;exact ⟨(hs.2 p.1 ne).trans e,n,ne,nf,d⟩
 .have hfn:X.fn x=true:=by
   rcases hf with z |z
   .exact z
   .rw[z]at hk;cases hk
  obtain ⟨c,hc⟩:=I.ok.has x (.inl hk);obtain ⟨w',z⟩:=I.cell x c hc;refine wpAny_storeName_cell I.ok.kind hk hc z (λh' hc' hs=>?_);obtain ⟨oc,hoc,hocd⟩:=id z;refine h { s with heap:=h' } ⟨I.ok,I.os,I.bare,⟨λb o e n hb hx=>?_,λb o e n hb hx=>?_,I.base.free,λb o e hx=>?_,I.base.tups,I.base.frzs,I.base.tbls⟩,⟨m,hn.sameBut hs (Ne.symm (cne x c hc)),λj y v' e1 e2 e3=>?_⟩,λy c' e=>?_,I.free,I.freeC,λp hp=>?_,tracked ⟨oc,hoc,I.freeC x c hc⟩ hs,!!I.len⟩ ⟨c,hs,.inr hc⟩
  .exact (hs.2 b (ca (bi (ay e) (I.ok.cab x c hfn hc)))).trans (I.base.keep b o e n hb hx)
  .obtain ⟨sl,e1⟩:=I.base.slot b o e n hb hx;exact ⟨sl,(hs.2 b (ca (bi (ay e) (I.ok.cab x c hfn hc)))).trans e1⟩
  .obtain ⟨o',e1⟩:=I.base.there b o e hx;exact ⟨o',(hs.2 b (ca (bi (ay e) (I.ok.cab x c hfn hc)))).trans e1⟩
  .by_cases hj:j=i
   .subst hj;rw[hi]at e1;cases e1;rw[gE hiσ]at e2;cases e2;exact ⟨u,r,.inr ⟨.inl hk,c,hc,hc'⟩⟩
   .rw[List.getElem?_set_ne (Ne.symm hj)]at e2;obtain ⟨u',r',q⟩:=hl j y v' e1 e2 e3;refine ⟨u',r',?_⟩;rcases q with q |⟨k,c',e,z'⟩
    .exact .inl q
    .refine .inr ⟨k,c',e,z'.sameBut hs ?_⟩;rintro rfl;exact hj (vd hN e1 (I.ok.inj _ _ _ e hc ▸ hi))
  .by_cases hcc:c'=c
   .subst hcc;exact ⟨_,hc'⟩
   .obtain ⟨w2,z2⟩:=I.cell y c' e;exact ⟨w2,z2.sameBut hs hcc⟩
  .obtain ⟨e,n,ne,nf,d⟩:=I.pin p hp;refine ⟨(hs.2 p.1 ?_).trans e,n,ne,nf,d⟩;intro q;rw[q,hoc]at e;have q':oc=p.2:=d3 e;exact d w' (by rw[<-q'];exact hocd)
theorem iw{M:Model}{A:AM}{E:AG}{i:Nat}{x:Str}{v:V}{u:AN}{Q:Unit->AI->Prop}(I:Inv X p9 σ H s)(hN:X.N.Nodup)(hi:X.N[i]?=some x)(hx:Loc X.env.scope x)(r:RelV v u)
  (h:∀s',Inv X p9 (σ.set i (some v)) H s'->Q () s') (hf:X.fn x=true\/X.env.scope.names.lookup x=some .local:=by first |exact .inl rfl |exact .inr rfl |assumption):wpAny M A (storeName X.env x u) Q E s:=
 Qs I hN hi hx r (λs' I' _=>h s' I') hf
theorem Inv.call'{s':AI}{ch:List AQ}(I:Inv X p9 σ H s)(ho:s'.os=s.os)(u:Un (frs X.stack) ch H H' s.heap s'.heap)(hok:HOk X.prog X.w H' s'.heap)(hg:AllBare s'.gens)
  (hch:∀b∈ch,(b∈X.ex\/X.s₀.heap.objs.size<=b)/\b≠X.env.locals/\(∀x c,X.env.cells.lookup x=some c->c≠b)/\∀p∈X.pn++p9,p.1≠b):Inv X p9 σ H' s':=by
 obtain ⟨h',g',d',t',o'⟩:=s';have e:o'=s.os:=ho;subst e;exact I.call (g':=g') (t':=t') (d':=d') u hok hg hch
end
abbrev XK:=AN->Option AQ->Hp->Prop
abbrev St:=List (Option V)
abbrev VK:=V->Hp->Prop
abbrev TE:=St->Hp->VK->Prop
abbrev TT:=St->Hp->(Bool->Hp->Prop)->Prop
abbrev TA:=St->Hp->(AR->Hp->Prop)->Prop
structure Ends where
 nx:St->Hp->Prop
 rt:VK
 bk:St->Hp->Prop:=λ_ _=>False
 ct:St->Hp->Prop:=λ_ _=>False
abbrev TS:=Ends->St->Hp->Prop
def EP(X:Cx)(p9:AC)(Y:St)(Q:VK)(u:AN)(s':AI):Prop:=∃v H',Inv X p9 Y H' s'/\RelV v u/\Q v H'
def TP(X:Cx)(p9:AC)(Y:St)(Q:Bool->Hp->Prop)(b:Bool)(s':AI):Prop:=∃H',Inv X p9 Y H' s'/\Q b H'
def AP(X:Cx)(p9:AC)(Y:St)(Q:AR->Hp->Prop)(us:AB)(s':AI):Prop:=∃vs H',Inv X p9 Y H' s'/\Vals vs us/\Q vs H'
def SP(X:Cx)(p9:AC)(D:Ends)(f:Flow)(s':AI):Prop:=
 match f with
 |.next=>∃σ' H',Inv X p9 σ' H' s'/\D.nx σ' H'
 |.brk=>∃σ' H',Inv X p9 σ' H' s'/\D.bk σ' H'
 |.cont=>∃σ' H',Inv X p9 σ' H' s'/\D.ct σ' H'
 |.ret u=>∃v σ' H',Inv X p9 σ' H' s'/\RelV v u/\D.rt v H'
def PE(X:Cx)(e:AO)(t:TE):Prop:=
 ∀(p9:AC)(s:AI)(Y:St)(H:Hp)(Q:VK),Inv X p9 Y H s->t Y H Q->↥X (eval e X.env) (EP X p9 Y Q) X.xe s
def PT(X:Cx)(e:AO)(t:TT):Prop:=
 ∀(p9:AC)(s:AI)(Y:St)(H:Hp)(Q:Bool->Hp->Prop),Inv X p9 Y H s->t Y H Q->↥X (isTrue e X.env (eval e X.env)) (TP X p9 Y Q) X.xe s
def PW(X:Cx)(e:AO)(t:TT):Prop:=
 ∀(whole:Sem AN)(p9:AC)(s:AI)(Y:St)(H:Hp)(Q:Bool->Hp->Prop),Inv X p9 Y H s->t Y H Q->↥X (isTrue e X.env whole) (TP X p9 Y Q) X.xe s
def PW.pt{X:Cx}{e:AO}{t:TT}(h:PW X e t):PT X e t:=h _
def PA(X:Cx)(es:AE)(t:TA):Prop:=
 ∀(pos:Pos)(p9:AC)(s:AI)(Y:St)(H:Hp)(Q:AR->Hp->Prop),Inv X p9 Y H s->t Y H Q->↥X (spliced (backTo pos (starEach es X.env))) (AP X p9 Y Q) X.xe s
def PS(X:Cx)(st:Stmt)(t:TS):Prop:=
 ∀(p9:AC)(s:AI)(Y:St)(H:Hp)(D:Ends),Inv X p9 Y H s->t D Y H->↥X (exec st X.env) (SP X p9 D) X.xe s
def PSs(X:Cx)(st:AF)(t:TS):Prop:=
 ∀(p9:AC)(s:AI)(Y:St)(H:Hp)(D:Ends),Inv X p9 Y H s->t D Y H->↥X (execs st X.env) (SP X p9 D) X.xe s
def thn{α:Type}{t:Sem α}{Q Q':α->AI->Prop}{M:Model}{A:AM}{E:AG}{s:AI}(h:wpAny M A t Q E s)(hQ:∀a s,Q a s->Q' a s):wpAny M A t Q' E s:=cm h hQ λ_ _ x=>x
section
variable {X:Cx}
theorem bin{a b:AO}{ta tb:TE}(ha:PE X a ta)(hb:PE X b tb){p9:AC}{s:AI}{Y:St}{H:Hp}{R:V->V->Hp->Prop}(I:Inv X p9 Y H s)(h:ta Y H λx H1=>tb Y H1 λy H2=>R x y H2)
  {α:Type} {Q:α->AI->Prop} {f:AN->AN->Sem α}
  (hf:∀v u s2 x y H2,Inv X p9 Y H2 s2->RelV x v->RelV y u->R x y H2->↥X (f v u) Q X.xe s2):
  ↥X (eval a X.env) (λv s₁=>↥X (eval b X.env) (λu s₂=>↥X (f v u) Q X.xe s₂) X.xe s₁) X.xe s:=by
 refine thn (ha p9 s Y H _ I h) λv s1 ⟨x,H1,I1,r1,q1⟩=>?_;refine thn (hb p9 s1 Y H1 _ I1 q1) λu s2 ⟨y,H2,I2,r2,q2⟩=>?_;exact hf v u s2 x y H2 I2 r1 r2 q2
def Ax(i:Nat):TE:=λY H Q=>∃v,Y[i]?=some (some v)/\Q v H
def tC(v:V):TE:=λ_ H Q=>Q v H
theorem vf {i:Nat} {x:Str} {pos:Pos} (hN:X.N[i]?=some x) (hv:Vis X.env.scope x) (hd:(x==("__debug__":Str))=false:=by decide) (hcd:(x==("__classdict__":Str))=false:=by decide):PE X (.Name x pos) (Ax i):=by
 intro p9 s Y H Q I h;obtain ⟨v,e,h⟩:=h;obtain ⟨m,hn,hl⟩:=I.loc;obtain ⟨u,r,l⟩:=hl i x v hN e hv;have fin:EP X p9 Y Q u s:=⟨v,H,I,r,h⟩;rcases l with ⟨hk,hm⟩ |⟨hk,c,hc,hcell⟩
 .exact wpAny_Name (wpAny_loadName_local I.ok.kind hk hn hm fin) hd
 .rcases hk with hk |hk
  .exact wpAny_Name (wpAny_loadName_cell I.ok.kind hk hc hcell fin) hd
  .exact wpAny_Name (wpAny_loadName_free I.ok.kind hk hc hcell fin hcd) hd
theorem Qt{i j pos}:PE X (.Constant (.int i) j pos) (tC (.int i)):=λ_ _ _ H _ I h=>wpAny_Constant_int ⟨.int i,H,I.tok _,⟨_,rfl⟩,h⟩
theorem Ay{b j pos}:PE X (.Constant (.bool b) j pos) (tC (.bl b)):=λ_ _ _ H _ I h=>Constant_bool ⟨.bl b,H,I,rfl,h⟩
theorem Qu{j pos}:PE X (.Constant .none j pos) (tC .non):=λ_ _ _ H _ I h=>Constant_none ⟨.non,H,I,rfl,h⟩
theorem Az{x j pos}:PE X (.Constant (.str x) j pos) (tC (.str x)):=λ_ _ _ H _ I h=>Calls.Constant_str ⟨.str x,H,I.tok _,⟨_,rfl⟩,h⟩
def Gl(X:Cx)(x:Str):Prop:=X.env.kindOf x=some .globalImplicit
theorem iy{E:AG}{p9:AC}{s:AI}{Y:St}{H:Hp}{x:Str}{u:AN}{pos:Pos}{Q:AG}(I:Inv X p9 Y H s)(hg:Gl X x)(hm:X.mg x=some u)(h:Q u s)
  (hd:(x==("__debug__":Str))=false:=by decide):↥X (eval (.Name x pos) X.env) Q E s:=
 Calls.Name_function_global I.ok.kind hg (Calls.loadGlobal_global (by rw[I.ok.glob];exact I.mod.glob.keeps I.bk) hm h) hd
theorem iz{E:AG}{p9:AC}{s:AI}{Y:St}{H:Hp}{x:Str}{u:AN}{pos:Pos}{Q:AG}(I:Inv X p9 Y H s)(hg:Gl X x)(hm:X.mg x=none)(hv:bootBuiltins x=some u)(h:Q u s)
  (hn:x≠"__name__":=by decide) (hd:(x==("__debug__":Str))=false:=by decide):↥X (eval (.Name x pos) X.env) Q E s:=by
 obtain ⟨mb,h1,h2⟩:=I.mod.blt;exact Calls.Name_function_global I.ok.kind hg (Calls.loadGlobal_builtin (by rw[I.ok.glob];exact I.mod.glob.keeps I.bk) hm (by rw[I.ok.blt];exact h1.keeps I.bk) ((h2 x hn).trans hv) h) hd
theorem Ba {x:Str} {v:V} {u:AN} {pos:Pos} (hg:Gl X x) (hm:X.mg x=some u) (r:RelV v u) (hd:(x==("__debug__":Str))=false:=by decide):PE X (.Name x pos) (tC v):=
 λ_ _ _ H _ I h=>iy I hg hm ⟨v,H,I,r,h⟩ hd
theorem Qv {x:Str} {v:V} {u:AN} {pos:Pos} (hg:Gl X x) (hm:X.mg x=none) (hv:bootBuiltins x=some u) (r:RelV v u) (hn:x≠"__name__":=by decide) (hd:(x==("__debug__":Str))=false:=by decide):PE X (.Name x pos) (tC v):=
 λ_ _ _ H _ I h=>iz I hg hm hv ⟨v,H,I,r,h⟩ hn hd
variable {a b:AO} {ta tb:TE} {pos:Pos}
variable {tA tB':TT} {rest:AE}
def Qw(t u:TT):TT:=λY H Q=>t Y H λc H1=>if c=true then u Y H1 Q else Q false H1
def tOr(t u:TT):TT:=λY H Q=>t Y H λc H1=>if c=true then Q true H1 else u Y H1 Q
def Qx(t:TT):TT:=λY H Q=>t Y H λc H1=>Q (!c) H1
theorem Qy(ha:PT X a tA):PW X (.BoolOp .And [a] pos) tA:=by
 intro wh p9 s Y H Q I h;refine isTrue_and (thn (ha p9 s Y H Q I h) λc s1 e=>?_);cases c with
 |true=>exact isTrue_and_nil e
 |false=>exact e
theorem Qz(ha:PT X a tA):PW X (.BoolOp .Or [a] pos) tA:=by
 intro wh p9 s Y H Q I h;refine isTrue_or (thn (ha p9 s Y H Q I h) λc s1 e=>?_);cases c with
 |false=>exact isTrue_or_nil e
 |true=>exact e
theorem QB(ha:PT X a tA)(hb:PW X (.BoolOp .And (b::rest) pos) tB'):PW X (.BoolOp .And (a::b::rest) pos) (Qw tA tB'):=by
 intro wh p9 s Y H Q I h;refine isTrue_and (thn (ha p9 s Y H _ I h) λc s1 ⟨H1,I1,q1⟩=>?_);cases c with
 |true=>exact hb wh p9 s1 Y H1 Q I1 q1
 |false=>exact ⟨H1,I1,q1⟩
theorem QC(ha:PT X a tA)(hb:PW X (.BoolOp .Or (b::rest) pos) tB'):PW X (.BoolOp .Or (a::b::rest) pos) (tOr tA tB'):=by
 intro wh p9 s Y H Q I h;refine isTrue_or (thn (ha p9 s Y H _ I h) λc s1 ⟨H1,I1,q1⟩=>?_);cases c with
 |true=>exact ⟨H1,I1,q1⟩
 |false=>exact hb wh p9 s1 Y H1 Q I1 q1
theorem QD(ha:PT X a tA):PT X (.UnaryOp .Not a pos) (Qx tA):=by intro p9 s Y H Q I h;exact isTrue_not (ha p9 s Y H (λc H1=>Q (!c) H1) I h)
def QF(ta tb:TE):TE:=λY H Q=>ta Y H λx H1=>∃c,x=.bl c/\if c=true then tb Y H1 Q else Q (.bl false) H1
def QG(ta tb:TE):TE:=λY H Q=>ta Y H λx H1=>∃c,x=.bl c/\if c=true then Q (.bl true) H1 else tb Y H1 Q
theorem QH{op}{t:TE}(h:PE X a t):PE X (.BoolOp op [a] pos) t:=λp9 s Y H Q I hw=>BoolOp_one (h p9 s Y H Q I hw)
theorem QJ(ha:PE X a ta)(hb:PE X (.BoolOp .And (b::rest) pos) tb):PE X (.BoolOp .And (a::b::rest) pos) (QF ta tb):=by
 intro p9 s Y H Q I h;refine BoolOp_and (thn (ha p9 s Y H _ I h) λv s1 ⟨x,H1,I1,r1,q1⟩=>?_);obtain ⟨c,rfl,q1⟩:=q1;cases r1;refine ez ?_;cases c with
 |true=>exact hb p9 s1 Y H1 Q I1 q1
 |false=>exact ⟨.bl false,H1,I1,rfl,q1⟩
theorem QK(ha:PE X a ta)(hb:PE X (.BoolOp .Or (b::rest) pos) tb):PE X (.BoolOp .Or (a::b::rest) pos) (QG ta tb):=by
 intro p9 s Y H Q I h;refine BoolOp_or (thn (ha p9 s Y H _ I h) λv s1 ⟨x,H1,I1,r1,q1⟩=>?_);obtain ⟨c,rfl,q1⟩:=q1;cases r1;refine ez ?_;cases c with
 |false=>exact hb p9 s1 Y H1 Q I1 q1
 |true=>exact ⟨.bl true,H1,I1,rfl,q1⟩
def tIf(t:TT)(ta tb:TE):TE:=λY H Q=>t Y H λc H1=>if c=true then ta Y H1 Q else tb Y H1 Q
theorem QL{c:AO}(hc:PT X c tA)(ha:PE X a ta)(hb:PE X b tb):PE X (.IfExp c a b pos) (tIf tA ta tb):=by
 intro p9 s Y H Q I h;refine wpAny_IfExp (thn (hc p9 s Y H _ I h) λd s1 ⟨H1,I1,q1⟩=>?_);cases d with
 |true=>exact ha p9 s1 Y H1 Q I1 q1
 |false=>exact hb p9 s1 Y H1 Q I1 q1
end
def SqL(K:PF)(H:Hp)(a:AQ)(xs:AR):Prop:=
 Rd H a (.lst xs)\/
  ∃(o:Obj) (its:Array AN) (n:Nat),K.lookup a=some o/\o.cls=.type "list"/\o.dict=none/\o.data=.seq its n/\its.size<=sizeLine/\Vals xs its.toList
def SqT(K:PF)(H:Hp)(a:AQ)(xs:AR):Prop:=
 Rd H a (.tup xs)\/
  ∃(o:Obj) (its:Array AN) (n:Nat),K.lookup a=some o/\o.cls=.type "tuple"/\o.data=.seq its n/\its.size<=sizeLine/\Vals xs its.toList
def QM:AN->Option V
 |.none=>some .non
 |.bool b=>some (.bl b)
 |.int i _=>some (.int i)
 |.str x _=>some (.str x)
 |.bytes b _=>some (.byt b)
 |.float b _=>some (.flt b)
 |.ref a=>some (.ref a)
 |.type n=>some (.ty n)
 |_=>none
def RelV.abs{x:V}{u:AN}(r:RelV x u):QM u=some x:=by
 cases x with
 |non=>cases r;rfl
 |bl _=>cases r;rfl
 |int _=>obtain ⟨t,rfl⟩:=r;rfl
 |str _=>obtain ⟨t,rfl⟩:=r;rfl
 |byt _=>obtain ⟨t,rfl⟩:=r;rfl
 |flt _=>obtain ⟨t,rfl⟩:=r;rfl
 |ref _=>cases r;rfl
 |ty _=>cases r;rfl
def RelV.inj{x y:V}{u:AN}(r:RelV x u)(q:RelV y u):x=y:=d3 (r.abs.symm.trans q.abs)
def Vals.inj:∀{xs ys:AR}{us:AB},Vals xs us->Vals ys us->xs=ys
 |_,_,_,.nil,.nil=>rfl
 |_,_,_,.cons r t,.cons r' t'=>by rw[r.inj r',Vals.inj t t']
section
variable {X:Cx} {p9:AC} {σ:St} {H:Hp} {s:AI} {a:AQ} {xs ys:AR}
theorem SqL.of{K:PF}(h:H a=some (.lst xs)):SqL K H a xs:=.inl (.inl h)
theorem SqT.of{K:PF}(h:H a=some (.tup xs)):SqT K H a xs:=.inl (.inl h)
theorem Inv.list(I:Inv X p9 σ H s)(h:SqL X.K H a xs):∃its:AB,Vals xs its/\PlainL s.heap a its.toArray/\xs.length<=sizeLine:=by
 rcases h with h |⟨o,its,n,hk,hc,hd,hs,hz,r⟩
 .obtain ⟨z,its,n,r,e⟩:=h.ok I.hok;exact ⟨its,r,⟨_,n,e,rfl,rfl,rfl⟩,z⟩
 .refine ⟨its.toList,r,⟨o,n,I.kIn a o hk,hc,hd,!!hs⟩,?_⟩;have e:=r.length;simp only[cp]at e;omega
theorem Inv.tuple(I:Inv X p9 σ H s)(h:SqT X.K H a xs):∃its:AB,Vals xs its/\IsTup s.heap a its.toArray/\xs.length<=sizeLine:=by
 rcases h with h |⟨o,its,n,hk,hc,hs,hz,r⟩
 .obtain ⟨z,its,r,p⟩:=h.ok I.hok;exact ⟨its,r,p,z⟩
 .refine ⟨its.toList,r,⟨o,I.kIn a o hk,hc,n,!!hs⟩,?_⟩;have e:=r.length;simp only[cp]at e;omega
theorem Inv.list_inj(I:Inv X p9 σ H s)(h:SqL X.K H a xs)(h':SqL X.K H a ys):xs=ys:=by
 obtain ⟨its,r,⟨o,n,e,_,_,d⟩,_⟩:=I.list h;obtain ⟨its',r',⟨o',n',e',_,_,d'⟩,_⟩:=I.list h';rw[e]at e';cases e';rw[d]at d';injection d' with d1 _;have:its=its':=by simpa using eK Array.toList d1
 subst this;exact r.inj r'
theorem Inv.tuple_inj(I:Inv X p9 σ H s)(h:SqT X.K H a xs)(h':SqT X.K H a ys):xs=ys:=by
 obtain ⟨its,r,⟨o,e,_,n,d⟩,_⟩:=I.tuple h;obtain ⟨its',r',⟨o',e',_,n',d'⟩,_⟩:=I.tuple h';rw[e]at e';cases e';rw[d]at d';injection d' with d1 _;have:its=its':=by simpa using eK Array.toList d1
 subst this;exact r.inj r'
end
abbrev Cx.wish(X:Cx)(E:AG):Cx:={ X with xe:=E }
abbrev Cx.nox(X:Cx):Cx:=X.wish λ_ _=>False
def Cx.Ok.wish{X:Cx}(ok:X.Ok)(E:AG):(X.wish E).Ok:=
 ⟨ok.mod,ok.kind,ok.glob,ok.blt,ok.above,ok.inj,ok.has,ok.cab,ok.hd,ok.frames,ok.stk,ok.exf,ok.bs,ok.bsz,ok.noex,ok.exfs,ok.funs,ok.frf⟩
def Cx.Ok.unwish{X:Cx}{E:AG}(ok:(X.wish E).Ok):X.Ok:=
 ⟨ok.mod,ok.kind,ok.glob,ok.blt,ok.above,ok.inj,ok.has,ok.cab,ok.hd,ok.frames,ok.stk,ok.exf,ok.bs,ok.bsz,ok.noex,ok.exfs,ok.funs,ok.frf⟩
section
variable {X:Cx} {p9:AC} {σ:St} {H:Hp} {s:AI} {E:AG}
theorem Inv.wish(I:Inv X p9 σ H s)(E:AG):Inv (X.wish E) p9 σ H s:=⟨I.ok.wish E,I.os,I.bare,I.base,I.loc,I.cell,I.free,I.freeC,I.pin,I.hok,I.len⟩
theorem Inv.unwish(I:Inv (X.wish E) p9 σ H s):Inv X p9 σ H s:=⟨I.ok.unwish,I.os,I.bare,I.base,I.loc,I.cell,I.free,I.freeC,I.pin,I.hok,I.len⟩
theorem SP.unwish{D:Ends}{f:Flow}{s':AI}(h:SP (X.wish E) p9 D f s'):SP X p9 D f s':=by
 cases f with
 |next=>obtain ⟨σ',H',I,q⟩:=h;exact ⟨σ',H',I.unwish,q⟩
 |brk=>obtain ⟨σ',H',I,q⟩:=h;exact ⟨σ',H',I.unwish,q⟩
 |cont=>obtain ⟨σ',H',I,q⟩:=h;exact ⟨σ',H',I.unwish,q⟩
 |ret u=>obtain ⟨v,σ',H',I,r,q⟩:=h;exact ⟨v,σ',H',I.unwish,r,q⟩
theorem PSs.nox{st:AF}{t:TS}(h:PSs X.nox st t):PSs X st t:=λp9 s σ H D I hw=>
 cm (h p9 s σ H D (I.wish _) hw) (λ_ _ q=>q.unwish) λ_ _ z=>False.elim z
end
section
variable {X:Cx} {st:Stmt} {rest:AF} {t u:TS} {e:AO} {te:TE} {pos:Pos}
def Bb:TS:=λD Y H=>D.nx Y H
def QQ(t u:TS):TS:=λD Y H=>t { D with nx:=u D } Y H
theorem QR:PSs X [] Bb:=λ_ _ Y H _ I h=>eI ⟨Y,H,I,h⟩
theorem QS(h1:PS X st t)(h2:PSs X rest u):PSs X (st::rest) (QQ t u):=by
 intro p9 s Y H D I h;refine gs (thn (h1 p9 s Y H { D with nx:=u D } I h) λf s1 q=>?_);cases f with
 |next=>
  obtain ⟨σ',H',I',q⟩:=q;exact h2 p9 s1 σ' H' D I' q
 |ret v=>exact q
 |brk=>exact q
 |cont=>exact q
theorem Bc(h1:PS X st t):PSs X [st] t:=by
 intro p9 s Y H D I h;refine gs (thn (h1 p9 s Y H D I h) λf s1 q=>?_);cases f with
 |next=>exact eI q
 |ret v=>exact q
 |brk=>exact q
 |cont=>exact q
def QT:TS:=λD Y H=>D.bk Y H
def QV:TS:=λD Y H=>D.ct Y H
theorem QW:PS X (.Pass pos) Bb:=λ_ _ Y H _ I h=>wpAny_Pass ⟨Y,H,I,h⟩
theorem QX:PS X (.Break pos) QT:=λ_ _ Y H _ I h=>wpAny_Break ⟨Y,H,I,h⟩
theorem QZ:PS X (.Continue pos) QV:=λ_ _ Y H _ I h=>wpAny_Continue ⟨Y,H,I,h⟩
theorem Inv.quiet{p9:AC}{Y:St}{H:Hp}{s:AI}(I:Inv X p9 Y H s):interactive X.env=false:=by simp[interactive,I.ok.kind]
def Q0(te:TE):TS:=λD Y H=>te Y H λ_ H1=>D.nx Y H1
theorem Q3(he:PE X e te)(hs:swapsWith e none pos.line X.env=pure false:=by rfl):PS X (.Expr e pos) (Q0 te):=by intro p9 s Y H D I h;exact wpAny_Expr_any (thn (he p9 s Y H _ I h) λv s1 ⟨x,H1,I1,r1,q1⟩=>⟨Y,H1,I1,q1⟩) I.quiet hs
def Bd(te:TE):TS:=λD Y H=>te Y H D.rt
theorem Q4(he:PE X e te):PS X (.Return (some e) pos) (Bd te):=by intro p9 s Y H D I h;exact wpAny_Return_some (thn (he p9 s Y H _ I h) λv s1 ⟨x,H1,I1,r1,q1⟩=>⟨x,Y,H1,I1,r1,q1⟩)
def Q5:TS:=λD _ H=>D.rt .non H
theorem Q6:PS X (.Return none pos) Q5:=λ_ _ Y H _ I h=>wpAny_Return_none ⟨.non,Y,H,I,rfl,h⟩
def Q7(c:TT)(t u:TS):TS:=λD Y H=>c Y H λb H1=>if b=true then t D Y H1 else u D Y H1
theorem Q8{c:AO}{a b:AF}{tc:TT}(hc:PT X c tc)(ha:PSs X a t)(hb:PSs X b u):PS X (.If c a b pos) (Q7 tc t u):=by
 intro p9 s Y H D I h;refine wpAny_If (thn (hc p9 s Y H _ I h) λd s1 ⟨H1,I1,q1⟩=>?_);cases d with
 |true=>exact ha p9 s1 Y H1 D I1 q1
 |false=>exact hb p9 s1 Y H1 D I1 q1
def Q9:TS:=λ_ _ _=>False
theorem Ra:PS X st Q9:=λ_ _ _ _ _ _ h=>h.elim
end
abbrev TG:=V->St->Hp->(St->Hp->Prop)->Prop
abbrev TGs:=AR->St->Hp->(St->Hp->Prop)->Prop
def PG(X:Cx)(target:AO)(t:TG):Prop:=
 ∀(p9:AC)(s:AI)(Y:St)(H:Hp)(v:V)(u:AN)(Q:St->Hp->Prop),Inv X p9 Y H s->RelV v u->t v Y H Q->
  ↥X (assign target X.env u) (λ_ s'=>∃σ' H',Inv X p9 σ' H' s'/\Q σ' H') X.xe s
def PGs(X:Cx)(ts:AE)(t:TGs):Prop:=
 ∀(p9:AC)(s:AI)(Y:St)(H:Hp)(vs:AR)(us:AB)(Q:St->Hp->Prop),Inv X p9 Y H s->Vals vs us->t vs Y H Q->
  ↥X (assignInOrder ((assignEach ts X.env).map (·.2)) us) (λ_ s'=>∃σ' H',Inv X p9 σ' H' s'/\Q σ' H') X.xe s
abbrev vg:=V->V->V->Hp->(Hp->Prop)->Prop
def vh(X:Cx)(t:vg):Prop:=
 ∀(p9:AC)(s:AI)(Y:St)(H:Hp)(o i v:V)(ov iv u:AN)(Q:Hp->Prop),Inv X p9 Y H s->RelV o ov->RelV i iv->RelV v u->t o i v H Q->
  ↥X (setItem ov iv u) (λ_ s'=>∃H',Inv X p9 Y H' s'/\Q H') X.xe s
abbrev TIp:=V->V->Hp->VK->Prop
def PIp(X:Cx)(op:Operator)(t:TIp):Prop:=
 ∀(p9:AC)(s:AI)(Y:St)(H:Hp)(x y:V)(v u:AN)(Q:VK),Inv X p9 Y H s->RelV x v->RelV y u->t x y H Q->
  ↥X (inplaceOp op v u) (EP X p9 Y Q) X.xe s
section
variable {X:Cx} {pos:Pos}
def lC(i:Nat):TG:=λv Y H Q=>Q (Y.set i (some v)) H
theorem Rb{i:Nat}{x:Str}(hN:X.N.Nodup)(hi:X.N[i]?=some x)(hx:Loc X.env.scope x)(hf:X.fn x=true\/X.env.scope.names.lookup x=some .local:=by first |exact .inl rfl |exact .inr rfl |assumption):PG X (.Name x pos) (lC i):=by intro p9 s Y H v u Q I r h;exact wpAny_assign_Name (iw I hN hi hx r (λs' I'=>⟨_,H,I',h⟩) hf)
def Rc:TGs:=λvs Y H Q=>vs=[]/\Q Y H
def Rf(t:TG)(u:TGs):TGs:=λvs Y H Q=>∃v r,vs=v::r/\t v Y H λσ' H'=>u r σ' H' Q
theorem Rg:PGs X [] Rc:=by intro p9 s Y H vs us Q I r h;obtain ⟨e,h⟩:=h;subst e;cases r;exact assignInOrder_nil ⟨Y,H,I,h⟩
theorem Rh{e:AO}{es:AE}{t:TG}{u:TGs}(h1:PG X e t)(h2:PGs X es u)
  (hs:(assignEach (e::es) X.env).map (·.2)=assign e X.env::(assignEach es X.env).map (·.2):=by rfl):PGs X (e::es) (Rf t u):=by
 intro p9 s Y H vs us Q I r h;obtain ⟨v,vr,e1,h⟩:=h;subst e1;cases r with
 |cons r rr=>
  rw[hs];refine assignInOrder_cons (thn (h1 p9 s Y H _ _ _ I r h) λ_ s1 ⟨σ1,H1,I1,q1⟩=>?_);exact h2 p9 s1 σ1 H1 _ _ Q I1 rr q1
def Ri(K:PF)(n:Nat)(t:TGs):TG:=λv Y H Q=>∃a xs,v=.ref a/\SqT K H a xs/\xs.length=n/\t xs Y H Q
theorem Rj{es:AE}{k:Nat}{t:TGs}{n:Nat}(hc:X.calm=true)(h:PGs X es t)
  (hn:(assignEach es X.env).length=n:=by rfl) (hst:(assignEach es X.env).findIdx? (·.1)=none:=by rfl):PG X (.Tuple es k pos) (Ri X.K n t):=by
 intro p9 s Y H v u Q I r hw;obtain ⟨a,xs,e1,hq,hl,hw⟩:=hw;subst e1;cases r;obtain ⟨its,rv,ht,hz⟩:=I.tuple hq;refine assign_Tuple_tuple (I.ok.hd hc) ht (by simp[hn,<-hl,rv.length]) hst λh' hx=>?_;have I1:Inv X p9 Y H { s with heap:=h' }:=I.kept (t':=s.toks) λb o e=>hx b o (ca (ay e)) e;exact h p9 _ Y H xs _ Q I1 (!!rv) hw
def Rk(to ti:TE)(t:vg):TG:=λv Y H Q=>to Y H λo H1=>ti Y H1 λi H2=>t o i v H2 λH3=>Q Y H3
theorem Rm{o i:AO}{to ti:TE}{t:vg}(ho:PE X o to)(hi:PE X i ti)(hs:vh X t)
  (ha:∀v,assign (.Subscript o i pos) X.env v=(do
   let ov <-holding [v] (eval o X.env)
   let iv <-holding [v,ov] (eval i X.env)
   standAt pos
   holding [v,ov,iv] (setItem ov iv v)
   release [v,ov,iv] []):=by intro _;rfl):PG X (.Subscript o i pos) (Rk to ti t):=by
 intro p9 s Y H v u Q I r h;rw[ha];refine af (dA (thn (ho p9 s Y H _ I h) λov s1 ⟨x,H1,I1,r1,q1⟩=>?_));refine af (dA (thn (hi p9 s1 Y H1 _ I1 q1) λiv s2 ⟨y,H2,I2,r2,q2⟩=>?_));refine af (g7 (af (dA (thn (hs p9 s2 Y H2 x y v ov iv u _ I2 r1 r2 r q2) λ_ s3 ⟨H3,I3,q3⟩=>?_))));exact wpAny_release ⟨Y,H3,I3,q3⟩
def lE(te:TE)(g:TG):TS:=λD Y H=>te Y H λx H1=>g x Y H1 D.nx
theorem Be{tg e:AO}{te:TE}{g:TG}(he:PE X e te)(hg:PG X tg g)(hs:swapsWithSole [tg] e pos.line X.env=pure false:=by rfl)(hw:swappedStores [tg] e X.env=pure none:=by rfl)
  (h1:(assignEach [tg] X.env).map (·.2)=[assign tg X.env]:=by rfl):PS X (.Assign [tg] e pos) (lE te g):=by
 intro p9 s Y H D I h;refine wpAny_Assign_stores (thn (he p9 s Y H _ I h) λv s1 ⟨x,H1,I1,r1,q1⟩=>?_) hs hw;rw[h1];exact thn (hg p9 s1 Y H1 x v _ I1 r1 q1) λ_ s2 q=>q
theorem lF{i:Nat}{x:Str}{e:AO}{te:TE}{pos':Pos}(hN:X.N.Nodup)(hi:X.N[i]?=some x)(hx:Loc X.env.scope x)(he:PE X e te)(hs:swapsWith e (some (.Name x pos')) pos.line X.env=pure false:=by rfl)(hf:X.fn x=true\/X.env.scope.names.lookup x=some .local:=by first |exact .inl rfl |exact .inr rfl |assumption):
  PS X (.Assign [.Name x pos'] e pos) (lE te (lC i)):=by
 intro p9 s Y H D I h;refine wpAny_Assign_Name (thn (he p9 s Y H _ I h) λv s1 ⟨y,H1,I1,r1,q1⟩=>?_) hs;exact iw I1 hN hi hx r1 (λs2 I2=>⟨_,H1,I2,q1⟩) hf
def Rn(i:Nat)(te:TE)(ti:TIp):TS:=λD Y H=>∃x,Y[i]?=some (some x)/\te Y H λy H1=>ti x y H1 λz H2=>D.nx (Y.set i (some z)) H2
theorem Ro{i:Nat}{x:Str}{e:AO}{te:TE}{op:Operator}{ti:TIp}{pos':Pos}(hN:X.N.Nodup)(hi:X.N[i]?=some x)(hx:Loc X.env.scope x)(he:PE X e te)(ho:PIp X op ti)(hf:X.fn x=true\/X.env.scope.names.lookup x=some .local:=by first |exact .inl rfl |exact .inr rfl |assumption):
  PS X (.AugAssign (.Name x pos') op e pos) (Rn i te ti):=by
 intro p9 s Y H D I h;obtain ⟨v,e1,h⟩:=h;obtain ⟨m,hn,hl⟩:=I.loc;have vis:Vis X.env.scope x:=by rcases hx with k |k;exact .inl k;exact .inr (.inl k)
 obtain ⟨u,r,l⟩:=hl i x v hi e1 vis;refine wpAny_AugAssign_Name ?_;have go:↥X (eval e X.env) (λw s₂=>↥X (inplaceOp op u w) (λr s₃=>↥X (storeName X.env x r) (λ_=>SP X p9 D .next) X.xe s₃) X.xe s₂) X.xe s:=by refine thn (he p9 s Y H _ I h) λw s1 ⟨y,H1,I1,r1,q1⟩=>?_;refine thn (ho p9 s1 Y H1 v y u w _ I1 r r1 q1) λz s2 ⟨zv,H2,I2,r2,q2⟩=>?_;exact iw I2 hN hi hx r2 (λs3 I3=>⟨_,H2,I3,q2⟩) hf
 rcases l with ⟨hk,hm⟩ |⟨hk,c,hc,hcell⟩
 .exact wpAny_loadName_local I.ok.kind hk hn hm go
 .rcases hk with hk |hk
  .exact wpAny_loadName_cell I.ok.kind hk hc hcell go
  .rcases hx with k |k
   .have:X.env.scope.names.lookup x=some .free:=hk;rw[k]at this;cases this
   .have:X.env.scope.names.lookup x=some .free:=hk;rw[k]at this;cases this
end
section
variable {X:Cx} {pos:Pos}
def Rp(c:TT)(tb:TS):TS:=λD Y H=>∃W:Nat->St->Hp->Prop,(∃m,W m Y H)/\∀m Y H,W m Y H->
 c Y H λb H1=>if b=true then ∃N:St->Hp->Prop,(∀σ' H',N σ' H'->∃m',m' < m/\W m' σ' H')/\tb { D with nx:=N,ct:=N,bk:=D.nx } Y H1 else D.nx Y H1
theorem Rq{c:AO}{body:AF}{tc:TT}{tb:TS}(hp:PassesOwn (model X.prog X.w) X.A X.env X.xe)(hc:PT X c tc)(hb:PSs X body tb):PS X (.While c body [] pos) (Rp tc tb):=by
 intro p9 s Y H D I h;obtain ⟨W,⟨m0,w0⟩,turn⟩:=h;refine wpAny_While (codeAny_whileLoop (λn s'=>∃σ' H',Inv X p9 σ' H' s'/\W n σ' H') ?_ m0 ⟨Y,H,I,w0⟩);rintro n s1 ⟨σ1,H1,I1,w1⟩;refine fy hp (thn (hc p9 s1 σ1 H1 _ I1 (turn n σ1 H1 w1)) λb s2 ⟨H2,I2,q2⟩=>?_);cases b with
 |true=>
  obtain ⟨N,hN,q2⟩:=q2;rw[if_pos rfl];refine fy hp (thn (hb p9 s2 σ1 H2 _ I2 q2) λf s3 q3=>?_);cases f with
  |next=>
   obtain ⟨σ3,H3,I3,n3⟩:=q3;obtain ⟨m',hm,w3⟩:=hN σ3 H3 n3;exact ⟨m',hm,σ3,H3,I3,w3⟩
  |cont=>
   obtain ⟨σ3,H3,I3,n3⟩:=q3;obtain ⟨m',hm,w3⟩:=hN σ3 H3 n3;exact ⟨m',hm,σ3,H3,I3,w3⟩
  |brk=>exact q3
  |ret v=>exact q3
 |false=>
  rw[if_neg bP];exact eI ⟨σ1,H2,I2,q2⟩
end
structure It where
 go:Nat->Hp->Prop
 yld:Nat->Hp->V->Hp->Prop
 stop:Nat->Hp->Prop
def dI(X:Cx)(p9:AC)(H:Hp)(b:AQ):Prop:=
 H b=none/\b≠X.env.locals/\b∉X.fs/\(b∈X.ex\/X.s₀.heap.objs.size<=b)/\(∀x c,X.env.cells.lookup x=some c->c≠b)/\∀p∈X.pn++p9,p.1≠b
def Inv.fpOk{X:Cx}{p9:AC}{Y:St}{H H':Hp}{s:AI}{b:AQ}(I:Inv X p9 Y H s)(hb:(~~~s)<=b)(hn:H' b=none):dI X p9 H' b:=by
 refine ⟨hn,fR (bi I.lt hb),I.nofs hb,.inr (ce I.sz hb),λx c e z=>?_,λp hp z=>?_⟩
 .obtain ⟨v,q⟩:=I.cell x c e;exact absurd (bi q.lt (by rw[z];exact hb)) (eA _)
 .exact absurd (bi (ay (I.pin p hp).1) (by rw[z];exact hb)) (eA _)
structure Turn(P:AK)(w:World)(K:PF)(tg:AO)(J:It)(fp:List AQ)(it:AQ)(tn:Nat->Heap->Prop):Prop where
 mem:it∈fp
 obj:∀i h,tn i h->∀b∈fp,∃o,h.get? b=some o/\∀v,o.data≠.cell v
 keep:∀i h h',tn i h->(∀b∈fp,∀o,h.get? b=some o->h'.get? b=some o)->tn i h'
 item:∀(X:Cx),X.prog=P->X.w=w->X.K=K->X.calm=true->∀(i:Nat)(p9:AC)(s:AI)(Y:St)(H:Hp)(E:AG),Inv X p9 Y H s->(∀b∈fp,dI X p9 H b)->tn i s.heap->J.go i H->
  wpAny (model P w) X.A (pyNext (.ref it)) (λr s1=>∃u,r=some u/\
   wpAny (model P w) X.A (letOwnedTupleGo tg (.ref it) u) (λ_ s2=>∃x H',Inv X p9 Y H' s2/\RelV x u/\J.yld i H x H'/\tn (i+1) s2.heap/\∀b∈fp,H' b=none) E s1) E s
 done:∀(X:Cx),X.prog=P->X.w=w->X.K=K->X.calm=true->∀(i:Nat)(p9:AC)(s:AI)(Y:St)(H:Hp)(E:AG),Inv X p9 Y H s->(∀b∈fp,dI X p9 H b)->tn i s.heap->J.stop i H->
  wpAny (model P w) X.A (pyNext (.ref it)) (λr s1=>r=none/\Inv X p9 Y H s1) E s
 self:∀(A:AM)(i:Nat)(s:AI)(Q:AG)(E:AG),tn i s.heap->Q (.ref it) s->wpAny (model P w) A (pyIter (.ref it)) Q E s
abbrev TI:=St->Hp->(It->Hp->Prop)->Prop
def PIE(X:Cx)(p9:AC)(Y:St)(tg:AO)(R:It->Hp->Prop)(itv:AN)(s2:AI):Prop:=
 ∃(it:AQ)(fp:List AQ)(tn:Nat->Heap->Prop)(J:It)(H':Hp),itv=.ref it/\Inv X p9 Y H' s2/\Turn X.prog X.w X.K tg J fp it tn/\tn 0 s2.heap/\(∀b∈fp,dI X p9 H' b)/\R J H'
def PI(X:Cx)(tg iter:AO)(wi:TI):Prop:=
 ∀(p9:AC)(s:AI)(Y:St)(H:Hp)(R:It->Hp->Prop),Inv X p9 Y H s->wi Y H R->
  ↥X (eval iter X.env) (λv s1=>↥X (pyIter v) (PIE X p9 Y tg R) X.xe s1) X.xe s
def qM{M:Model}{A:AM}{E:AG}{s:AI}{tg:AO}{it:AQ}{u:AN}{o:Obj}{n:AL}{vs:Array AN}{Q:Unit->AI->Prop}(ho:s.heap.get? it=some o)(hc:o.cls=.type n)(hd:o.data=.fields vs)
  (hn:["enumerate","zip","dict_itemiterator","dict_reverseitemiterator","odict_iterator","itertools.zip_longest","itertools.pairwise"].contains n=false) (hQ:Q () s):wpAny M A (letOwnedTupleGo tg (.ref it) u) Q E s:=by
 unfold letOwnedTupleGo;cases tg <;> first
  |exact ai hQ
  | (cases u <;> first
    |exact ai hQ
    | (refine af (wpAny_load ho ?_)
       rw[hc,hd];show wpAny M A (if (["enumerate","zip","dict_itemiterator","dict_reverseitemiterator","odict_iterator","itertools.zip_longest","itertools.pairwise"].contains n&&vs[0]?==some (rawInt _))=true then _ else _) Q E s;rw[if_neg (by intro h;rw[hn,fI]at h;cases h)];exact ai hQ))
def Itl(K:PF)(a:AQ):It:=
 ⟨λi H=>∃xs x,SqL K H a xs/\xs[i]?=some x,λi H x H'=>H'=H/\∀xs,SqL K H a xs->xs[i]?=some x,λi H=>∃xs,SqL K H a xs/\xs.length<=i⟩
def Itt(K:PF)(a:AQ):It:=
 ⟨λi H=>∃xs x,SqT K H a xs/\xs[i]?=some x,λi H x H'=>H'=H/\∀xs,SqT K H a xs->xs[i]?=some x,λi H=>∃xs,SqT K H a xs/\xs.length<=i⟩
def Itr(lo:Int)(n:Nat):It:=⟨λi _=>i < n,λi H x H'=>H'=H/\x=.int (lo+i),λi _=>n<=i⟩
def Bg{P:AK}{w:World}{K:PF}{tg:AO}(a it:AQ):Turn P w K tg (Itl K a) [it] it (λi h=>h.IsListIter it a i) where
 mem:=by simp
 obj:=λi h st b hb=>by
  have e:b=it:=by simpa using hb
  subst e;obtain ⟨o,e,c,d⟩:=st;exact ⟨o,e,λv z=>by rw[d]at z;cases z⟩
 keep:=λi h h' st k=>st.at λo e=>k it (by simp) o e
 item:=by intro X hP hw hK hc i p9 s Y H E I hf st hg;subst hP hw hK;obtain ⟨xs,x,hq,hx⟩:=hg;obtain ⟨its,rv,p,hz⟩:=I.list hq;obtain ⟨u,hu,ru⟩:=rv.get hx;obtain ⟨f0,f1,f2,f3,f4,f5⟩:=hf it (by simp);refine wpAny_pyNext_list_item st p.isList (x:=u) (!!hu) λh' st' sb=>?_;have I1:Inv X p9 Y H { s with heap:=h' }:=I.turned (t':=s.toks) (λb o hb e=>(sb.2 b hb).trans e) f0 f1 f3 f4 f5;obtain ⟨o,e,c,d⟩:=id st';exact ⟨u,rfl,qM (s:={ s with heap:=h' }) e c d (!1) ⟨x,H,I1,ru,⟨rfl,λys hy=>by rw[I.list_inj hy hq];exact hx⟩,st',λb hb=>(hf b hb).1⟩⟩
 done:=by intro X hP hw hK hc i p9 s Y H E I hf st hg;subst hP hw hK;obtain ⟨xs,hq,hx⟩:=hg;obtain ⟨its,rv,p,hz⟩:=I.list hq;obtain ⟨f0,f1,f2,f3,f4,f5⟩:=hf it (by simp);have hl:=rv.length;exact wpAny_pyNext_list_end (I.ok.hd hc) st p.isList (by simp;omega) λh' eb=>⟨rfl,I.turned (t':=s.toks) (λb o hb e=>eb b o hb e) f0 f1 f3 f4 f5⟩
 self:=λ_ _ _ _ _ st h=>wpAny_pyIter_listiter st h
def Bh{P:AK}{w:World}{K:PF}{tg:AO}(a it:AQ):Turn P w K tg (Itt K a) [it] it (λi h=>h.IsTupleIter it a i) where
 mem:=by simp
 obj:=λi h st b hb=>by
  have e:b=it:=by simpa using hb
  subst e;obtain ⟨o,e,c,d⟩:=st;exact ⟨o,e,λv z=>by rw[d]at z;cases z⟩
 keep:=λi h h' st k=>st.at λo e=>k it (by simp) o e
 item:=by intro X hP hw hK hc i p9 s Y H E I hf st hg;subst hP hw hK;obtain ⟨xs,x,hq,hx⟩:=hg;obtain ⟨its,rv,p,hz⟩:=I.tuple hq;obtain ⟨u,hu,ru⟩:=rv.get hx;obtain ⟨f0,f1,f2,f3,f4,f5⟩:=hf it (by simp);refine wpAny_pyNext_tuple_item st (show s.heap.IsTuple a its.toArray from p) (x:=u) (!!hu) λh' st' sb=>?_;have I1:Inv X p9 Y H { s with heap:=h' }:=I.turned (t':=s.toks) (λb o hb e=>(sb.2 b hb).trans e) f0 f1 f3 f4 f5;obtain ⟨o,e,c,d⟩:=id st';exact ⟨u,rfl,qM (s:={ s with heap:=h' }) e c d (!1) ⟨x,H,I1,ru,⟨rfl,λys hy=>by rw[I.tuple_inj hy hq];exact hx⟩,st',λb hb=>(hf b hb).1⟩⟩
 done:=by intro X hP hw hK hc i p9 s Y H E I hf st hg;subst hP hw hK;obtain ⟨xs,hq,hx⟩:=hg;obtain ⟨its,rv,p,hz⟩:=I.tuple hq;obtain ⟨f0,f1,f2,f3,f4,f5⟩:=hf it (by simp);have hl:=rv.length;exact wpAny_pyNext_tuple_end (I.ok.hd hc) st (show s.heap.IsTuple a its.toArray from p) (by simp;omega) λh' eb=>⟨rfl,I.turned (t':=s.toks) (λb o hb e=>eb b o hb e) f0 f1 f3 f4 f5⟩
 self:=λ_ _ _ _ _ st h=>wpAny_pyIter_tupleiter st h
def Rt{P:AK}{w:World}{K:PF}{tg:AO}(it:AQ)(lo:Int)(n:Nat):Turn P w K tg (Itr lo n) [it] it (λi h=>IsRangeIter h it (lo+(i:Nat) * 1) ((n:Int) - (i:Nat)) 1) where
 mem:=by simp
 obj:=λi h st b hb=>by
  have e:b=it:=by simpa using hb
  subst e;exact ⟨_,st,λv z=>by
   have z':Data.fields _=Data.cell v:=z;cases z'⟩
 keep:=λi h h' st k=>k it (by simp) _ st
 item:=by intro X hP hw hK hc i p9 s Y H E I hf st hg;subst hP hw hK;obtain ⟨f0,f1,f2,f3,f4,f5⟩:=hf it (by simp);have W:=Walks.range (prog:=X.prog) (w:=X.w) (I.ok.hd hc) it lo 1 n;refine W.item i s _ _ hg st λv h' tk hv st' kk=>?_;obtain ⟨t,rfl⟩:=hv;have I1:Inv X p9 Y H { s with heap:=h',toks:=tk }:=I.turned (λb o hb e=>kk b o (!!hb) e) f0 f1 f3 f4 f5;refine ⟨_,rfl,qM (s:={ s with heap:=h',toks:=tk }) (n:="range_iterator") st' rfl rfl (!1) ⟨.int (lo+i),H,I1,⟨t,?_⟩,⟨rfl,rfl⟩,st',λb hb=>(hf b hb).1⟩⟩;rw[Int.mul_one]
 done:=by intro X hP hw hK hc i p9 s Y H E I hf st hg;subst hP hw hK;obtain ⟨f0,f1,f2,f3,f4,f5⟩:=hf it (by simp);exact wpAny_pyNext_range_end (I.ok.hd hc) st (by have:n<=i:=hg;omega) λh' eb=>⟨rfl,I.turned (t':=s.toks) (λb o hb e=>eb b o hb e) f0 f1 f3 f4 f5⟩
 self:=λ_ _ _ _ _ st h=>wpAny_pyIter_rangeiter st h
section
variable {X:Cx} {tg:AO}
theorem Ru{p9:AC}{Y:St}{H:Hp}{s:AI}{R:It->Hp->Prop}{E:AG}{lo hi:Int}{t u v:Tok}{tk:Nat}(I:Inv X p9 Y H s)(h1:-(2 ^ 62)<=lo)(h2:lo < 2 ^ 62)(h3:-(2 ^ 62)<=hi)(h4:hi < 2 ^ 62)
  (q:R (Itr lo (hi - lo).toNat) H):↥X (pyIter (.ref (~~~s))) (PIE X p9 Y tg R) E { s with heap:=s.heap.push { cls:=.type "range",data:=.fields #[.int lo t,.int hi u,.int 1 v] },toks:=tk }:=by
 refine wpAny_pyIter_range (IsRange.new ..) (small_one h1 h2 h3 h4) ?_;have I1:Inv X p9 Y H { s with heap:=s.heap.push { cls:=.type "range",data:=.fields #[.int lo t,.int hi u,.int 1 v] },toks:=tk }:=I.kept λb o e=>ah _ e;refine ⟨(s.heap.push { cls:=.type "range",data:=.fields #[.int lo t,.int hi u,.int 1 v] }).objs.size,[(s.heap.push { cls:=.type "range",data:=.fields #[.int lo t,.int hi u,.int 1 v] }).objs.size],_,_,H,rfl,
  I1.kept (t':=tk) λb o e=>ah _ e,Rt _ lo (hi - lo).toNat,?_,λb hb=>?_,q⟩
 .have e1:lo+((0:Nat):Int) * 1=lo:=by simp
  have e2:(((hi - lo).toNat:Nat):Int) - ((0:Nat):Int)=Builtin.Range.rangeSize lo hi 1:=by rw[rangeSize_one];split <;> omega
  show IsRangeIter _ _ (lo+((0:Nat):Int) * 1) ((((hi - lo).toNat:Nat):Int) - ((0:Nat):Int)) 1;rw[e1,e2];exact aS _ rfl
 .have e:b=(s.heap.push { cls:=.type "range",data:=.fields #[.int lo t,.int hi u,.int 1 v] }).objs.size:=by simpa using hb
  subst e;exact I1.fpOk (ax _) (I1.hok.fresh (ax _))
def Rv(ta:TA):TI:=λY H R=>ta Y H λvs H1=>∃j:Int,vs=[.int j]/\-(2 ^ 62)<=j/\j < 2 ^ 62/\R (Itr 0 j.toNat) H1
theorem Rw {a:AO} {ta:TA} {p pos:Pos} (hg:Gl X "range") (hm:X.mg "range"=none) (ha:PA X [a] ta) (hs:starEach [a] X.env=[(false,eval a X.env)]:=by rfl):PI X tg (.Call (.Name "range" p) [a] [] pos) (Rv ta):=by
 intro p9 s Y H R I h;refine Call_ (iz I hg hm boot_range (et (thn (ha pos p9 s Y H _ I h) λus s1 ⟨vs,H1,I1,r1,q1⟩=>?_) hs rfl));obtain ⟨j,e,q1,q2,q⟩:=q1;subst e;cases r1 with
 |cons r rr=>
  cases rr;obtain ⟨t,rfl⟩:=r;exact call_range_1 (Ru I1 (!0) (!0) q1 q2 (!!q))
def Rx(wi:TI)(g:TG)(tb:TS):TS:=λD Y H=>wi Y H λJ H1=>∃W:Nat->Nat->St->Hp->Prop,(∃m,W 0 m Y H1)/\∀i m Y H,W i m Y H->
 (J.stop i H/\D.nx Y H)\/(J.go i H/\∃N:St->Hp->Prop,(∀σ' H',N σ' H'->∃m',m' < m/\W (i+1) m' σ' H')/\∀x H',J.yld i H x H'->g x Y H' λσ2 H2=>tb { D with nx:=N,ct:=N,bk:=D.nx } σ2 H2)
def lG(fp:List AQ)(h:Heap):AC:=fp.filterMap λb=>(h.get? b).map λo=>(b,o)
theorem qN{fp:List AQ}{h:Heap}{b:AQ}{o:Obj}(hb:b∈fp)(e:h.get? b=some o):(b,o)∈lG fp h:=List.mem_filterMap.mpr ⟨b,hb,by rw[e];rfl⟩
theorem Bj{fp:List AQ}{h:Heap}{p:AQ×Obj}(hp:p∈lG fp h):p.1∈fp/\h.get? p.1=some p.2:=by
 obtain ⟨b,hb,e⟩:=List.mem_filterMap.mp hp;cases q:h.get? b with
 |none=>rw[q]at e;cases e
 |some o=>
  rw[q]at e;have e':(b,o)=p:=d3 e;subst e';exact ⟨hb,q⟩
theorem Inv.pinned{p9:AC}{Y:St}{H:Hp}{s:AI}{fp:List AQ}(I:Inv X p9 Y H s)(hf:∀b∈fp,dI X p9 H b)(ho:∀b∈fp,∃o,s.heap.get? b=some o/\∀v,o.data≠.cell v):Inv X (p9++lG fp s.heap) Y H s:=
 I.pins_of λp hp=>(ba.mp hp).elim (λz=>I.pin p (aw _ z)) λz=>by
  obtain ⟨hb,e⟩:=Bj z;obtain ⟨f0,f1,f2,_⟩:=hf p.1 hb;obtain ⟨o,e',d⟩:=ho p.1 hb;rw[e]at e';cases e';exact ⟨e,f0,f1,f2,d⟩
theorem Inv.unpinned{p9 pl:AC}{Y:St}{H:Hp}{s:AI}(I:Inv X (p9++pl) Y H s):Inv X p9 Y H s:=I.pins_of λp hp=>I.pin p (aw _ (c8 _ hp))
theorem Ry{iter:AO}{body:AF}{wi:TI}{g:TG}{tb:TS}{pos:Pos}(hp:PassesOwn (model X.prog X.w) X.A X.env X.xe)(hc:X.calm=true)(hi:PI X tg iter wi)(hg:PG X tg g)(hb:PSs X body tb)
  (hs:∀x,foldedSetIterable iter X.env x=pure x:=by intro _;rfl):PS X (.For tg iter body [] pos) (Rx wi g tb):=by
 intro p9 s Y H D I h;refine wpAny_For (thn (hi p9 s Y H _ I h) λv s1 h1=>thn h1 λitv s2 h2=>?_) hs;obtain ⟨it,fp,tn,J,H2,e,I2,T,st2,f2,W,⟨m0,w0⟩,turn⟩:=h2;subst e
 -- what stays true of the iterator's objects through the loop
 have stat:∀{H':Hp},(∀b∈fp,H' b=none)->∀b∈fp,dI X p9 H' b:=λhn b hb=>⟨hn b hb,(f2 b hb).2⟩;refine codeAny_forLoop_any (λn s'=>∃i σ' H',Inv X p9 σ' H' s'/\tn i s'.heap/\(∀b∈fp,H' b=none)/\W i n σ' H') ?_ m0 ⟨0,Y,H2,I2,st2,λb hb=>(f2 b hb).1,w0⟩;rintro n s3 ⟨i,σ3,H3,I3,st3,fr3,w3⟩;rcases turn i n σ3 H3 w3 with ⟨stop,qn⟩ |⟨go,N,hN,step⟩
 .refine fy hp (thn (T.done X rfl rfl rfl hc i p9 s3 σ3 H3 X.xe I3 (stat fr3) st3 stop) λr s4 ⟨hr,I4⟩=>?_);subst hr;exact eI ⟨σ3,H3,I4,qn⟩
 .refine fy hp (thn (T.item X rfl rfl rfl hc i p9 s3 σ3 H3 X.xe I3 (stat fr3) st3 go) λr s4 ⟨u,hr,h4⟩=>?_);subst hr;refine fy hp (thn h4 λ_ s5 ⟨x,H5,I5,r5,y5,st5,fr5⟩=>?_);have I5':=I5.pinned (stat fr5) (T.obj _ _ st5);refine fy hp (thn (hg _ s5 σ3 H5 x u _ I5' r5 (step x H5 y5)) λ_ s6 ⟨σ6,H6,I6,q6⟩=>?_);refine fy hp (thn (hb _ s6 σ6 H6 _ I6 q6) λf s7 q7=>?_);have again:∀{σ7:St}{H7:Hp},Inv X (p9++lG fp s5.heap) σ7 H7 s7->N σ7 H7->∃m,m < n/\∃i σ' H',Inv X p9 σ' H' s7/\tn i s7.heap/\(∀b∈fp,H' b=none)/\W i m σ' H':=λ{σ7 H7} I7 n7=>by
   obtain ⟨m',hm,w7⟩:=hN σ7 H7 n7;refine ⟨m',hm,i+1,σ7,H7,I7.unpinned,T.keep _ _ _ st5 λb hb o e=>(I7.pin (b,o) (aw _ (aw _ (qN hb e)))).1,λb hb=>?_,w7⟩;obtain ⟨o,e,d⟩:=T.obj _ _ st5 b hb;exact (I7.pin (b,o) (aw _ (aw _ (qN hb e)))).2.1
  cases f with
  |next=>obtain ⟨σ7,H7,I7,n7⟩:=q7;exact again I7 n7
  |cont=>obtain ⟨σ7,H7,I7,n7⟩:=q7;exact again I7 n7
  |brk=>obtain ⟨σ7,H7,I7,q7⟩:=q7;exact ⟨σ7,H7,I7.unpinned,q7⟩
  |ret v=>obtain ⟨x7,σ7,H7,I7,r7,q7⟩:=q7;exact ⟨x7,σ7,H7,I7.unpinned,r7,q7⟩
end
abbrev R2:=V->V->Hp->VK->Prop
def OpR(X:Cx)(f:AN->AN->Sem AN)(r:R2):Prop:=
 ∀(p9:AC)(s:AI)(Y:St)(H:Hp)(x y:V)(v u:AN)(Q:VK),Inv X p9 Y H s->RelV x v->RelV y u->r x y H Q->
  ↥X (f v u) (EP X p9 Y Q) X.xe s
def UnR(X:Cx)(f:AN->Sem AN)(r:V->Hp->VK->Prop):Prop:=
 ∀(p9:AC)(s:AI)(Y:St)(H:Hp)(x:V)(v:AN)(Q:VK),Inv X p9 Y H s->RelV x v->r x H Q->
  ↥X (f v) (EP X p9 Y Q) X.xe s
def bh(X:Cx)(f:AN)(r:AR->Hp->VK->Prop):Prop:=
 ∀(p9:AC)(s:AI)(Y:St)(H:Hp)(xs:AR)(us:AB)(Q:VK),Inv X p9 Y H s->Vals xs us->r xs H Q->
  ↥X (call f us) (EP X p9 Y Q) X.xe s
def Rz(X:Cx)(r:V->Hp->(Bool->Hp->Prop)->Prop):Prop:=
 ∀(p9:AC)(s:AI)(Y:St)(H:Hp)(x:V)(v:AN)(Q:Bool->Hp->Prop),Inv X p9 Y H s->RelV x v->r x H Q->
  ↥X (truthy v) (TP X p9 Y Q) X.xe s
def tOp(r:R2)(ta tb:TE):TE:=λY H Q=>ta Y H λx H1=>tb Y H1 λy H2=>r x y H2 Q
def tUn(r:V->Hp->VK->Prop)(ta:TE):TE:=λY H Q=>ta Y H λx H1=>r x H1 Q
def rI(C:Int->Int->Prop)(g:Int->Int->V):R2:=λx y H Q=>∃i j,x=.int i/\y=.int j/\C i j/\Q (g i j) H
def rI0(g:Int->Int->V):R2:=λx y H Q=>∃i j,x=.int i/\y=.int j/\Q (g i j) H
def rU(g:Int->V):V->Hp->VK->Prop:=λx H Q=>∃i,x=.int i/\Q (g i) H
section
variable {X:Cx} {a b c:AO} {ta tb tc:TE} {pos:Pos}
theorem vm(ha:PE X a ta)(hb:PE X b tb){p9:AC}{s:AI}{Y:St}{H:Hp}{R:V->V->Hp->Prop}(I:Inv X p9 Y H s)
  (h:ta Y H λx H1=>tb Y H1 λy H2=>R x y H2) {Q:AG} {f:AN->AN->Sem AN}
  (hf:∀v u s2 x y H2,Inv X p9 Y H2 s2->RelV x v->RelV y u->R x y H2->↥X (f v u) Q X.xe s2):
  ↥X (eval a X.env) (λv s₁=>↥X (eval b X.env) (λu s₂=>↥X (f v u) Q X.xe s₂) X.xe s₁) X.xe s:=by
 refine thn (ha p9 s Y H _ I h) λv s1 ⟨x,H1,I1,r1,q1⟩=>?_;refine thn (hb p9 s1 Y H1 _ I1 q1) λu s2 ⟨y,H2,I2,r2,q2⟩=>?_;exact hf v u s2 x y H2 I2 r1 r2 q2
theorem RB{op:Operator}{r:R2}(ho:OpR X (binaryOp op) r)(ha:PE X a ta)(hb:PE X b tb):PE X (.BinOp a op b pos) (tOp r ta tb):=by intro p9 s Y H Q I h;exact wpAny_BinOp (vm ha hb I h λv u s2 x y H2 I2 rx ry q=>ho p9 s2 Y H2 x y v u Q I2 rx ry q)
theorem RC{op:UnaryOp}{r:V->Hp->VK->Prop}(ho:UnR X (unaryOp op) r)(ha:PE X a ta):PE X (.UnaryOp op a pos) (tUn r ta):=by intro p9 s Y H Q I h;exact UnaryOp_ (thn (ha p9 s Y H _ I h) λv s1 ⟨x,H1,I1,r1,q1⟩=>ho p9 s1 Y H1 x v Q I1 r1 q1)
theorem opI{f:AN->AN->Sem AN}{C:Int->Int->Prop}{g:Int->Int->Int}
  (rule:∀(i j:Int)(t u:Tok)(s:AI)(Q:AG)(E:AG),C i j->Q (.int (g i j) s.toks) { s with toks:=s.toks+1 }->↥X (f (.int i t) (.int j u)) Q E s):
  OpR X f (rI C λi j=>.int (g i j)):=by
 intro p9 s Y H x y v u Q I rx ry h;obtain ⟨i,j,rfl,rfl,hc,q⟩:=h;obtain ⟨t,rfl⟩:=rx;obtain ⟨t',rfl⟩:=ry;exact rule i j t t' s _ _ hc ⟨.int (g i j),H,I.tok _,⟨_,rfl⟩,q⟩
theorem qO{f:AN->AN->Sem AN}{g:Int->Int->Int}
  (rule:∀(i j:Int)(t u:Tok)(s:AI)(Q:AG)(E:AG),Q (.int (g i j) s.toks) { s with toks:=s.toks+1 }->↥X (f (.int i t) (.int j u)) Q E s):
  OpR X f (rI0 λi j=>.int (g i j)):=by
 intro p9 s Y H x y v u Q I rx ry h;obtain ⟨i,j,rfl,rfl,q⟩:=h;obtain ⟨t,rfl⟩:=rx;obtain ⟨t',rfl⟩:=ry;exact rule i j t t' s _ _ ⟨.int (g i j),H,I.tok _,⟨_,rfl⟩,q⟩
def qP(i j:Int):Prop:=0<=j/\j<=1000000/\i.natAbs < 2 ^ 64
def CMul(i j:Int):Prop:=(-(2 ^ 64) < i/\i < 2 ^ 64)\/(-(2 ^ 64) < j/\j < 2 ^ 64)
theorem CMul.ok{i j:Int}(h:CMul i j):IntMulOk i j:=by
 rcases h with ⟨h1,h2⟩ |⟨h1,h2⟩
 .exact .of_left (intBits_le_64 h1 h2)
 .exact .of_right (intBits_le_64 h1 h2)
theorem RD:OpR X (binaryOp .Add) (rI0 λi j=>.int (i+j)):=qO λ_ _ _ _ _ _ _ q=>add_int q
theorem RG:OpR X (binaryOp .Sub) (rI0 λi j=>.int (i - j)):=qO λ_ _ _ _ _ _ _ q=>sub_int q
theorem RJ:OpR X (binaryOp .Mult) (rI CMul λi j=>.int (i * j)):=opI λ_ _ _ _ _ _ _ hc q=>mul_int q hc.ok
theorem RK:OpR X (binaryOp .Mod) (rI (λ_ j=>0 < j) λi j=>.int (i % j)):=opI λi j _ _ _ _ _ hc q=>by
 have h1:(0:Int) < j:=hc;exact mod_int' (!0) (by rw[Int.fmod_eq_emod_of_nonneg i (!0)];exact q)
theorem RL:OpR X (binaryOp .Pow) (rI qP λi j=>.int (i ^ j.toNat)):=opI λ_ _ _ _ _ _ _ hc q=>pow_int_small hc.1 hc.2.1 hc.2.2 q
theorem RM:OpR X (inplaceOp .Add) (rI0 λi j=>.int (i+j)):=qO λ_ _ _ _ _ _ _ q=>iadd_int q
theorem RN:OpR X (inplaceOp .Sub) (rI0 λi j=>.int (i - j)):=qO λ_ _ _ _ _ _ _ q=>isub_int q
theorem unI{f:AN->Sem AN}{g:Int->Int}
  (rule:∀(i:Int)(t:Tok)(s:AI)(Q:AG)(E:AG),Q (.int (g i) s.toks) { s with toks:=s.toks+1 }->↥X (f (.int i t)) Q E s):
  UnR X f (rU λi=>.int (g i)):=by
 intro p9 s Y H x v Q I rx h;obtain ⟨i,rfl,q⟩:=h;obtain ⟨t,rfl⟩:=rx;exact rule i t s _ _ ⟨.int (g i),H,I.tok _,⟨_,rfl⟩,q⟩
theorem RP:UnR X (unaryOp .USub) (rU λi=>.int (-i)):=unI λ_ _ _ _ _ q=>neg_int q
end
section
variable {X:Cx} {a b c:AO} {ta tb tc:TE} {pos:Pos}
theorem Bk{p9:AC}{Y:St}{H:Hp}{s:AI}{Q:VK}{k k':Bool}(I:Inv X p9 Y H s)(q:Q (.bl k) H)(e:k=k'):EP X p9 Y Q (.bool k') s:=by subst e;exact ⟨.bl k,H,I,rfl,q⟩
theorem RQ:OpR X (compareOp .Is) (λx y H Q=>y=.non/\Q (.bl (decide (x=.non))) H):=by
 intro p9 s Y H x y v u Q I rx ry h;obtain ⟨rfl,q⟩:=h;cases ry;refine is_none_gen (Bk I q ?_);cases x <;> first
  | (cases rx;rfl)
  | (obtain ⟨t,rfl⟩:=rx;rfl)
theorem RT:OpR X (compareOp .IsNot) (λx y H Q=>y=.non/\Q (.bl (!decide (x=.non))) H):=by
 intro p9 s Y H x y v u Q I rx ry h;obtain ⟨rfl,q⟩:=h;cases ry;refine isnot_none_gen (Bk I q ?_);cases x <;> first
  | (cases rx;rfl)
  | (obtain ⟨t,rfl⟩:=rx;rfl)
theorem RV{op:CmpOp}{r:R2}(ho:OpR X (compareOp op) r)(ha:PE X a ta)(hb:PE X b tb)(hm:behindInMarks op b=false):PE X (.Compare a [op] [b] pos) (tOp r ta tb):=by intro p9 s Y H Q I h;exact wpAny_Compare1 (vm ha hb I h λv u s2 x y H2 I2 rx ry q=>ho p9 s2 Y H2 x y v u Q I2 rx ry q) hm
def Bl(t:TE):TT:=λY H Q=>t Y H λx H'=>∃k,x=.bl k/\Q k H'
theorem RW{op:CmpOp}{r:R2}(ho:OpR X (compareOp op) r)(ha:PE X a ta)(hb:PE X b tb)(hm:behindInMarks op b=false):PT X (.Compare a [op] [b] pos) (Bl (tOp r ta tb)):=by
 intro p9 s Y H Q I h;refine wpAny_isTrue_Compare1 (thn (ha p9 s Y H _ I h) λv s1 ⟨x,H1,I1,r1,q1⟩=>thn (hb p9 s1 Y H1 _ I1 q1) λu s2 ⟨y,H2,I2,r2,q2⟩=>
  thn (ho p9 s2 Y H2 x y v u _ I2 r1 r2 q2) λc s3 ⟨z,H3,I3,r3,k,e,q3⟩=>?_) hm
 subst e;cases r3;exact ez ⟨H3,I3,q3⟩
def vo(r r':R2)(ta tb tc:TE):TE:=λY H Q=>ta Y H λx H1=>tb Y H1 λy H2=>r x y H2 λz H3=>∃k,z=.bl k/\
 (if k=true then tc Y H3 λw' H4=>r' y w' H4 Q else Q (.bl false) H3)
theorem RX{op op':CmpOp}{r r':R2}(ho:OpR X (compareOp op) r)(ho':OpR X (compareOp op') r')(ha:PE X a ta)(hb:PE X b tb)(hc:PE X c tc)
  (hm:lastMarks [op,op'] [b,c]=false:=by with_unfolding_all rfl):PE X (.Compare a [op,op'] [b,c] pos) (vo r r' ta tb tc):=by
 intro p9 s Y H Q I h;refine Compare_chain (thn (ha p9 s Y H _ I h) λv s1 ⟨x,H1,I1,r1,q1⟩=>chain_link (thn (hb p9 s1 Y H1 _ I1 q1) λu s2 ⟨y,H2,I2,r2,q2⟩=>
  thn (ho p9 s2 Y H2 x y v u _ I2 r1 r2 q2) λd s3 ⟨z,H3,I3,r3,k,e,q3⟩=>?_)) hm
 subst e;cases r3;refine ez ?_;cases k with
 |false=>exact ite_ff ⟨.bl false,H3,I3,rfl,q3⟩
 |true=>exact ite_tt (chain_last (thn (hc p9 s3 Y H3 _ I3 q3) λw' s4 ⟨z',H4,I4,r4,q4⟩=>ho' p9 s4 Y H4 y z' u w' Q I4 r2 r4 q4))
theorem RZ{op op':CmpOp}{r r':R2}(ho:OpR X (compareOp op) r)(ho':OpR X (compareOp op') r')(ha:PE X a ta)(hb:PE X b tb)(hc:PE X c tc)
  (hm:lastMarks [op,op'] [b,c]=false:=by with_unfolding_all rfl):PT X (.Compare a [op,op'] [b,c] pos) (Bl (vo r r' ta tb tc)):=by
 intro p9 s Y H Q I h;refine isTrue_chain (thn (ha p9 s Y H _ I h) λv s1 ⟨x,H1,I1,r1,q1⟩=>test_link (thn (hb p9 s1 Y H1 _ I1 q1) λu s2 ⟨y,H2,I2,r2,q2⟩=>
  thn (ho p9 s2 Y H2 x y v u _ I2 r1 r2 q2) λd s3 ⟨z,H3,I3,r3,k,e,q3⟩=>?_)) hm
 subst e;cases r3;refine ez ?_;cases k with
 |false=>
  obtain ⟨k',e',q'⟩:=q3;cases e';exact ite_ff ⟨H3,I3,q'⟩
 |true=>
  refine ite_tt (test_last (thn (hc p9 s3 Y H3 _ I3 q3) λw' s4 ⟨z',H4,I4,r4,q4⟩=>thn (ho' p9 s4 Y H4 y z' u w' _ I4 r2 r4 q4) λd' s5 ⟨z2,H5,I5,r5,k2,e2,q5⟩=>?_));subst e2;cases r5;exact ez ⟨H5,I5,q5⟩
def qQ(K:PF)(x:V)(H:Hp)(k:Bool):Prop:=
 match x with
 |.non=>k=false
 |.bl b=>k=b
 |.int i=>k=(i != 0)
 |.str y=>y.length<=sizeLine/\k=((y.length:Int) != 0)
 |.byt y=>y.size<=sizeLine/\k=((y.size:Int) != 0)
 |.ref p=>(∃xs,SqL K H p xs/\k=!xs.isEmpty)\/(∃xs,SqT K H p xs/\k=!xs.isEmpty)\/∃kvs,H p=some (.dK kvs)/\k=!kvs.isEmpty
 |_=>False
theorem R0{κ:Type}{kvs:List (κ×V)}{vs:List (κ×AN)}(r:KV kvs vs):(!vs.isEmpty)=!kvs.isEmpty:=by cases r <;> rfl
theorem Bm{xs:AR}{its:AB}(r:Vals xs its):(!its.toArray.isEmpty)=!xs.isEmpty:=by cases r <;> simp
theorem iB:(sizeLine:Nat) < 2 ^ 63:=by rw[fw];decide
theorem Bo:Rz X (λx H Q=>∃k,qQ X.K x H k/\Q k H):=by
 intro p9 s Y H x v Q I rx h;obtain ⟨k,e,q⟩:=h;have hl:=iB;have hs:sizeLine=16777216:=fw;cases x with
 |non=>
  cases rx;have e':k=false:=e;subst e';exact truthy_none ⟨H,I,q⟩
 |bl b=>
  cases rx;have e':k=b:=e;subst e';exact ez ⟨H,I,q⟩
 |int i=>
  obtain ⟨t,rfl⟩:=rx;have e':k=(i != 0):=e;subst e';exact PySem.P.truthy_int ⟨H,I,q⟩
 |str y=>
  obtain ⟨t,rfl⟩:=rx;obtain ⟨hy,e'⟩:y.length<=sizeLine/\k=((y.length:Int) != 0):=e;subst e';exact PySem.P.truthy_str (!0) ⟨H,I.tok _,q⟩
 |byt y=>
  obtain ⟨t,rfl⟩:=rx;obtain ⟨hy,e'⟩:y.size<=sizeLine/\k=((y.size:Int) != 0):=e;subst e';exact PySem.W.truthy_bytes (!0) ⟨H,I.tok _,q⟩
 |ref p=>
  cases rx;have e':(∃xs,SqL X.K H p xs/\k=!xs.isEmpty)\/(∃xs,SqT X.K H p xs/\k=!xs.isEmpty)\/∃kvs,H p=some (.dK kvs)/\k=!kvs.isEmpty:=e;rcases e' with ⟨xs,hx,e'⟩ |⟨xs,hx,e'⟩ |⟨kvs,hx,e'⟩
  .subst e';obtain ⟨its,r,pl,hz⟩:=I.list hx;have hlen:=r.length;exact wpAny_truthy_list pl.isList (by simp only[am];omega) ⟨H,I.tok _,by rw[Bm r];exact q⟩
  .subst e';obtain ⟨its,r,pl,hz⟩:=I.tuple hx;have hlen:=r.length;exact truthy_tuple pl (by simp only[am];omega) ⟨H,I.tok _,by rw[Bm r];exact q⟩
  .subst e';obtain ⟨hz,hS,vs,r,m⟩:kvs.length<=sizeLine/\(p==sysModules)=false/\∃vs,KV kvs vs/\s.heap.DictOf (bQ X.prog X.w) p vs:=I.hok p _ hx;have hlen:kvs.length=vs.length:=g9 r;exact wpAny_truthy_dict hS m (!0) ⟨H,I.tok _,by rw[R0 r];exact q⟩
 |_=>exact (show False from e).elim
theorem R1(ha:PE X a ta)(he:∀whole,isTrue a X.env whole=(do let v <-whole;standAt a.pos;holding [v] (truthy v))):
  PT X a (λY H Q=>ta Y H λx H'=>∃k,qQ X.K x H' k/\Q k H'):=by
 intro p9 s Y H Q I h;exact isTrue_plain (thn (ha p9 s Y H _ I h) λv s1 ⟨x,H1,I1,r1,q1⟩=>Bo p9 s1 Y H1 x v Q I1 r1 q1) (he _)
theorem R3:OpR X (binaryOp .Add) (λx y H Q=>∃i j,x=.str i/\y=.str j/\i.length+j.length<=sizeLine/\Q (.str (i++j)) H):=by intro p9 s Y H x y v u Q I rx ry h;obtain ⟨i,j,rfl,rfl,hz,q⟩:=h;obtain ⟨t,rfl⟩:=rx;obtain ⟨t',rfl⟩:=ry;exact add_str (λt' tk=>⟨.str (i++j),H,I.tok _,⟨_,rfl⟩,q⟩) hz
theorem R4:OpR X (inplaceOp .Add) (λx y H Q=>∃i j,x=.str i/\y=.str j/\i.length+j.length<=sizeLine/\Q (.str (i++j)) H):=by intro p9 s Y H x y v u Q I rx ry h;obtain ⟨i,j,rfl,rfl,hz,q⟩:=h;obtain ⟨t,rfl⟩:=rx;obtain ⟨t',rfl⟩:=ry;exact iadd_str (λt' tk=>⟨.str (i++j),H,I.tok _,⟨_,rfl⟩,q⟩) hz
theorem vals1{x:V}{us:AB}(r:Vals [x] us):∃u,us=[u]/\RelV x u:=by
 cases r with
 |cons r1 r2=>cases r2;exact ⟨_,rfl,r1⟩
theorem vals2{x y:V}{us:AB}(r:Vals [x,y] us):∃u w',us=[u,w']/\RelV x u/\RelV y w':=by
 cases r with
 |cons r1 r2=>
  cases r2 with
  |cons r3 r4=>cases r4;exact ⟨_,_,rfl,r1,r3⟩
theorem Bp:bh X (.type "int") (λxs H Q=>(∃i,xs=[.int i]/\Q (.int i) H)\/∃k,xs=[.bl k]/\Q (.int (if k then 1 else 0)) H):=by
 intro p9 s Y H xs us Q I r h;rcases h with ⟨i,rfl,q⟩ |⟨k,rfl,q⟩
 .obtain ⟨u,rfl,t,rfl⟩:=vals1 r;exact call_int_int ⟨.int i,H,I,⟨_,rfl⟩,q⟩
 .obtain ⟨u,rfl,r1⟩:=vals1 r;cases r1;exact call_int_bool ⟨.int (if k then 1 else 0),H,I.tok _,⟨_,rfl⟩,q⟩
end
structure ObjM(h:Heap)(x dx C:AQ)(mA:AH):Prop where
 obj:h.get? x=some (PySem.W.instObj C dx)
 ns:h.Ns1 dx mA
 ne:dx≠x
def R5{h:Heap}{dx:AQ}{mA:AH}(n:h.Ns1 dx mA):∃od,h.get? dx=some od/\∀name,PySem.W.lookIn name od=some (mA name):=by
 obtain ⟨o,es,ep,ho,hd,hk,_,hm⟩:=n;refine ⟨o,ho,λname=>?_⟩;have e:=hm name;unfold nsFind findBy at e;rw[<-Array.find?_toList]at e;unfold PySem.W.lookIn;rw[hd];dsimp only;split
 .rename_i y q;rw[q]at e;exact eK some e
 .rename_i q;rw[q]at e;have a:es.toList.any (·.refKey)=false:=by
   rw[List.any_eq_false];intro y hy;obtain ⟨z,t,hkey⟩:=hk y (Array.mem_toList_iff.mp hy);simp[DictEntry.refKey,hkey]
  have a':¬es.toList.any (·.refKey)=true:=by rw[a];exact bP
  rw[if_neg a'];exact eK some e
def ObjM.look{h:Heap}{x dx C:AQ}{mA:AH}(I:ObjM h x dx C mA):∃od,PySem.W.InstAt h x (PySem.W.instObj C dx) C (some od)/\∀name,PySem.W.lookIn name od=some (mA name):=
 let ⟨od,ho,hl⟩:=R5 I.ns
 ⟨od,⟨I.obj,rfl,rfl,ho⟩,hl⟩
def RelO.some_of{v:V}{o:Option AN}(r:RelO (some v) o):∃u,o=some u/\RelV v u:=by
 cases o with
 |none=>exact (show False from r).elim
 |some u=>exact ⟨u,rfl,r⟩
section
variable {P:AK} {w:World} {H H':Hp} {h h':Heap} {a C dx:AQ} {fs fs':List (Str×V)}
theorem R6(hok:HOk P w H h)(e:H a=some (.ins C dx fs)):∃mA,ObjM h a dx C mA/\(∀f,RelO (fs.lookup f) (mA f))/\PySem.Within mA (fs.map (·.1))/\fs.length<=1000/\H dx=some (.own a):=by obtain ⟨d,z,ne,ob,mA,n,r,q⟩:=(show ObjOk P w H h a (.ins C dx fs) from hok a _ e);exact ⟨mA,⟨ob,n,ne⟩,r,q,z,d⟩
end
structure Cls(K:PF)(C:AQ):Prop where
 pg:PySem.W.plainGet K C Str.empty=true
 hd:PySem.W.hasDictIn K C=true
 po:PySem.W.plainOver K C=true
 sa:PySem.W.findIn K (.ref C) "__setattr__"=some (some (.builtin "object.__setattr__"))
def Cls.get{K:PF}{C:AQ}(c:Cls K C)(f:Str):PySem.W.plainGet K C f=true:=c.pg
def R7(K:PF)(C:AQ)(f:Str):Prop:=PySem.W.findIn K (.ref C) f=some none
structure Meth(K:PF)(C:AQ)(m:Str)(f:AQ):Prop where
 at_:PySem.W.findIn K (.ref C) m=some (some (.ref f))
 fn:PySem.W.isFn K (.ref f)=true
 kp:PySem.W.keepIn K (.ref f)=true
section
variable {X:Cx} {p9:AC} {σ:St} {H:Hp} {s:AI} {A:AM} {E:AG} {Q:AG} {c:AN} {b:Bool}
inductive TyOf (K:PF) (H:Hp):V->AN->Prop where
 |non:TyOf K H .non (.type "NoneType")
 |bl (x:Bool):TyOf K H (.bl x) (.type "bool")
 |int (i:Int):TyOf K H (.int i) (.type "int")
 |str (x:Str):TyOf K H (.str x) (.type "str")
 |flt (x:UInt64):TyOf K H (.flt x) (.type "float")
 |lst {a:AQ} {xs:AR} (e:H a=some (.lst xs)):TyOf K H (.ref a) (.type "list")
 |frz {a:AQ} {o:Obj} {xs:AR} (e:H a=some (.frz o (.lst xs))):TyOf K H (.ref a) (.type "list")
 |tup {a:AQ} {xs:AR} (e:H a=some (.tup xs)):TyOf K H (.ref a) (.type "tuple")
 |dK {a:AQ} {kvs:List (Key×V)} (e:H a=some (.dK kvs)):TyOf K H (.ref a) (.type "dict")
 |dT {a:AQ} {kvs:List (List Key×V)} (e:H a=some (.dT kvs)):TyOf K H (.ref a) (.type "dict")
 |ins {a C dx:AQ} {fs:List (Str×V)} (e:H a=some (.ins C dx fs)) (cl:Cls K C) (ha:PySem.W.findIn K (.ref C) "__class__"=some (some (.builtin "object.__class__")))
   (hn:PySem.W.specialIn K (.builtin "object.__class__") "__get__"=some (some (.builtin "getset_descriptor.__get__"))) (htk:PySem.W.takesIn K (.builtin "object.__class__")=some true)
   (hm:PySem.W.mroIn K C (.type "object")=some true):TyOf K H (.ref a) (.ref C)
theorem R8{x:V}{u t:AN}(I:Inv X p9 σ H s)(rx:RelV x u)(ty:TyOf X.K H x t)(e:PySem.W.kitOne X.K t c=some b)(h:∀tk,Q (.bool b) { s with toks:=tk }):
  wpAny (model X.prog X.w) A (call (.builtin "isinstance") [u,c]) Q E s:=by
 cases ty with
 |non=>cases (show u=Value.none from rx);exact dv PySem.W.kitx_none I.kIn gt e (λz=>nomatch z) h
 |bl y=>cases (show u=Value.bool y from rx);exact dv PySem.W.kitx_bool I.kIn gt e (λz=>nomatch z) h
 |int i=>obtain ⟨t,q⟩:=(show ∃t,u=Value.int i t from rx);cases q;exact dv PySem.W.kitx_int I.kIn gt e (λz=>nomatch z) h
 |str y=>obtain ⟨t,q⟩:=(show ∃t,u=Value.str y t from rx);cases q;exact dv PySem.W.kitx_str I.kIn gt e (λz=>nomatch z) h
 |flt y=>obtain ⟨t,q⟩:=(show ∃t,u=Value.float y t from rx);cases q;exact dv PySem.W.kitx_float I.kIn gt e (λz=>nomatch z) h
 | @lst a xs ea=>
  cases (show u=Value.ref a from rx);obtain ⟨_,_,n,_,h1⟩:=(show ObjOk X.prog X.w H s.heap a (.lst xs) from I.hok a _ ea);exact dv PySem.W.kitx_list I.kIn ⟨_,h1,rfl⟩ e (λz=>nomatch z) h
 | @frz a ob xs ea=>
  cases (show u=Value.ref a from rx);obtain ⟨_,_,_,n,_,h1⟩:=(show ObjOk X.prog X.w H s.heap a (.frz ob (.lst xs)) from I.hok a _ ea);exact dv PySem.W.kitx_list I.kIn ⟨_,h1,rfl⟩ e (λz=>nomatch z) h
 | @tup a xs ea=>
  cases (show u=Value.ref a from rx);obtain ⟨_,_,_,p⟩:=(show ObjOk X.prog X.w H s.heap a (.tup xs) from I.hok a _ ea);obtain ⟨o,h1,h2,_⟩:=p;exact dv PySem.W.kitx_tuple I.kIn ⟨o,h1,h2⟩ e (λz=>nomatch z) h
 | @dK a kvs ea=>
  cases (show u=Value.ref a from rx);obtain ⟨_,_,vs,_,p⟩:=(show ObjOk X.prog X.w H s.heap a (.dK kvs) from I.hok a _ ea);obtain ⟨o,es,ep,h1,h2,_⟩:=p;exact dv PySem.W.kitx_dict I.kIn ⟨o,h1,h2.1⟩ e (λz=>nomatch z) h
 | @dT a kvs ea=>
  cases (show u=Value.ref a from rx);obtain ⟨_,_,xs,_,o,es,ep,h1,h2,_⟩:=(show ObjOk X.prog X.w H s.heap a (.dT kvs) from I.hok a _ ea);exact dv PySem.W.kitx_dict I.kIn ⟨o,h1,h2.1⟩ e (λz=>nomatch z) h
 | @ins a C dx fs ea cl ha hn htk hm=>
  cases (show u=Value.ref a from rx);obtain ⟨mA,O,_⟩:=R6 I.hok ea;obtain ⟨od,J,_⟩:=O.look;exact dv (PySem.W.kitx_own (cl.get _) cl.hd ha hn htk hm) I.kIn J e (λz=>nomatch z) h
end
structure Room(k:Nat)(A:AM):Prop where
 hd:A.handled=none
 dp:A.depth+3 * k+5 < recursionLimit
 un:A.units+16 * k+200 < cLine
def Room.mono{j k:Nat}{A:AM}(r:Room k A)(h:j<=k):Room j A:=⟨r.hd,by have:=r.dp;omega,by have:=r.un;omega⟩
def Room.deeper{k:Nat}{A:AM}(r:Room (k+1) A)(env:Env):Room k (A.deeper env):=
 ⟨r.hd,by have:=r.dp;show A.depth+1+3 * k+5 < _;omega,by have:=r.un;show A.units+3+16 * k+200 < _;omega⟩
def Room.depth{k:Nat}{A:AM}(r:Room k A):A.depth < recursionLimit:=by have:=r.dp;omega
def R9:TA:=λ_ H Q=>Q [] H
def Sd(ta:TE)(tr:TA):TA:=λY H Q=>ta Y H λx H1=>tr Y H1 λxs H2=>Q (x::xs) H2
section
variable {X:Cx} {e:AO} {es:AE} {te:TE} {t:TA} {pos:Pos}
theorem eU:PA X [] R9:=λ_ _ _ _ H Q I h=>Calls.spliced_nil ⟨[],H,I,.nil,h⟩
theorem dJ(ha:PE X e te)(hr:PA X es t)(hs:starEach (e::es) X.env=(false,eval e X.env)::starEach es X.env:=by rfl):PA X (e::es) (Sd te t):=by intro pos p9 s Y H Q I h;rw[hs];show wpAny _ _ (spliced ((false,eval e X.env)::backTo pos (starEach es X.env))) _ _ s;refine Calls.spliced_cons (thn (ha p9 s Y H _ I h) λu s1 ⟨x,H1,I1,r1,q1⟩=>?_);exact thn (hr pos p9 s1 Y H1 _ I1 q1) λus s2 ⟨xs,H2,I2,r2,q2⟩=>⟨x::xs,H2,I2,.cons r1 r2,q2⟩
def Sg(t:TA):TE:=λY H Q=>t Y H λxs H1=>xs.length<=sizeLine/\∀p,H1 p=none->Q (.ref p) (upd H1 p (.tup xs))
def Sq(t:TA):TE:=λY H Q=>t Y H λxs H1=>xs.length<=sizeLine/\∀p,H1 p=none->Q (.ref p) (upd H1 p (.lst xs))
theorem Ss{x1}(h:PA X es t):PE X (.Tuple es x1 pos) (Sg t):=by intro p9 s Y H Q I hq;refine wpAny_Tuple_spliced (thn (h pos p9 s Y H _ I hq) λus s1 ⟨xs,H1,I1,r,z,q⟩=>⟨by rw[<-r.length];exact z,?_⟩);have hf:H1 s1.heap.objs.size=none:=I1.hok.fresh (ax _);refine ⟨.ref s1.heap.objs.size,upd H1 s1.heap.objs.size (.tup xs),I1.laid (t':=s1.toks) (λb u e=>ah _ e) (ax _) ?_,rfl,q _ hf⟩;exact ⟨z,us,r,⟨_,aS _ rfl,rfl,_,rfl⟩⟩
theorem Su(h:PA X es t):PE X (.List es pos) (Sq t):=by intro p9 s Y H Q I hq;refine wpAny_List_spliced (thn (h pos p9 s Y H _ I hq) λus s1 ⟨xs,H1,I1,r,z,q⟩=>⟨by rw[<-r.length];exact z,?_⟩);have hf:H1 s1.heap.objs.size=none:=I1.hok.fresh (ax _);refine ⟨.ref s1.heap.objs.size,upd H1 s1.heap.objs.size (.lst xs),I1.laid (t':=s1.toks) (λb u e=>ah _ e) (ax _) ?_,rfl,q _ hf⟩;exact ⟨z,us,0,r,aS _ rfl⟩
end
abbrev Sp:=AR->Hp->VK->XK->Prop
abbrev CXT:=List Env->Hp->AI->XK->AN->AI->Prop
structure Env0(P:AK)(w:World)(K:PF)(mg:AH)(base:Heap)(A:AM)(outer:List Env)(s:AI)(H:Hp):Prop where
 frames:A.frames=some outer
 mod:Mod K mg base
 bs:∀b o,base.get? b=some o->s.heap.get? b=some o/\H b=none
 bsz:base.objs.size<=(~~~s)
 funs:s.heap.FunFrames base outer
 frf:∀b∈frs outer,H b=none
 hok:HOk P w H s.heap
 bare:AllBare s.gens
def CE(outer:List Env)(P:AK)(w:World)(H:Hp)(s:AI)(Q:VK)(u:AN)(s':AI):Prop:=
 ∃v H',s'.os=s.os/\AllBare s'.gens/\Un (frs outer) [] H H' s.heap s'.heap/\HOk P w H' s'.heap/\RelV v u/\Q v H'
def CR(CX:CXT)(outer:List Env)(P:AK)(w:World)(H:Hp)(s:AI)(Q:VK)(E:XK)(r:Result)(s':AI):Prop:=
 match r with
 |.ok (.ret u)=>CE outer P w H s Q u s'
 |.ok _=>False
 |.error e=>CX outer H s E e s'
structure FnOk(P:AK)(w:World)(K:PF)(mg:AH)(base:Heap)(CX:CXT)(k:Nat)(f:AQ)(fd:AJ)(ps:AD)(sp:Sp):Prop where
 len:∀vs H Q E,sp vs H Q E->vs.length=ps.length
 run:∀(A:AM)(outer:List Env)(s:AI)(H:Hp)(args:Args)(us:AB)(vs:AR)(Q:VK)(E:XK),Room k A->Env0 P w K mg base A outer s H->BindsTo s fd args (ps.zip us)->Vals vs us->sp vs H Q E->
  codeAny (model P w) A (.call (.ref f) args) (CR CX outer P w H s Q E) s
def FnOk.mono{P:AK}{w:World}{K:PF}{mg:AH}{base:Heap}{CX:CXT}{j k:Nat}{f:AQ}{fd:AJ}{ps:AD}{sp:Sp}(F:FnOk P w K mg base CX j f fd ps sp)(h:j<=k):
  FnOk P w K mg base CX k f fd ps sp:=⟨F.len,λA outer s H args us vs Q E hr=>F.run A outer s H args us vs Q E (hr.mono h)⟩
def FnOk.imp{P:AK}{w:World}{K:PF}{mg:AH}{base:Heap}{CX:CXT}{k:Nat}{f:AQ}{fd:AJ}{ps:AD}{sp sp':Sp}(F:FnOk P w K mg base CX k f fd ps sp)
  (h:∀vs H Q E,sp' vs H Q E->sp vs H Q E):FnOk P w K mg base CX k f fd ps sp':=
 ⟨λvs H Q E q=>F.len vs H Q E (h _ _ _ _ q),λA outer s H args us vs Q E hr he hb hv hs=>F.run A outer s H args us vs Q E hr he hb hv (h _ _ _ _ hs)⟩
section
variable {X:Cx} {p9:AC} {σ:St} {H:Hp} {s s':AI}
theorem Inv.env0(I:Inv X p9 σ H s):Env0 X.prog X.w X.K X.mg X.base X.A X.stack s H:=
 ⟨I.ok.frames,I.ok.mod,I.bs,ce I.ok.bsz I.sz,I.stack,I.stkFree,I.hok,I.bare⟩
theorem Inv.after{Q:VK}{u:AN}(I:Inv X p9 σ H s)(h:CE X.stack X.prog X.w H s Q u s'):EP X p9 σ Q u s':=by obtain ⟨v,H',os,bare,un,hok,r,q⟩:=h;obtain ⟨hh,g,d,t,os'⟩:=s';obtain rfl:os'=s.os:=os;exact ⟨v,H',I.call (h':=hh) (g':=g) (d':=d) (t':=t) (ch:=[]) un hok bare (λb z=>absurd z (by simp)),r,q⟩
end
def Sv(sp:Sp)(dvs:AR)(E:XK)(t:TA):TE:=λY H Q=>t Y H λvs H1=>sp (vs++dvs) H1 Q E
def Binds(K:PF)(fd:AJ)(ps:AD)(ds:AB):Prop:=
 ∀(s:AI)(us:AB),K.In s.heap->(us++ds).length=ps.length->BindsTo s fd ⟨us,[]⟩ (ps.zip (us++ds))
def Binds.all{K:PF}{fd:AJ}{ps:AD}(h:∀us:AB,us.length=ps.length->bindArgs fd ⟨us,[]⟩=pure (ps.zip us)):Binds K fd ps []:=λs us _ hl=>by
 rw[d6]at hl ⊢;exact .of_eq (h us hl)
def jt(CX:CXT)(X:Cx)(E:XK):Prop:=∀(p9:AC)(Y:St)(H:Hp)(s:AI)(e:AN)(s':AI),Inv X p9 Y H s->CX X.stack H s E e s'->X.xe e s'
section
variable {X:Cx} {CX:CXT} {k:Nat} {f C:AQ} {fd:AJ} {ps:AD} {sp:Sp} {dvs:AR} {ds:AB} {E:XK} {x m:Str} {p pos apos:Pos} {e o:AO} {es:AE} {ta:TE} {t:TA}
theorem Sw{p9:AC}{Y:St}{H:Hp}{s:AI}{Q:VK}{us:AB}{vs:AR}(F:FnOk X.prog X.w X.K X.mg X.base CX k f fd ps sp)(hr:Room k X.A)(hb:Binds X.K fd ps ds)(hd:Vals dvs ds)(hx:jt CX X E)
  (I:Inv X p9 Y H s) (r:Vals vs us) (h:sp (vs++dvs) H Q E):↥X (call (.ref f) us) (EP X p9 Y Q) X.xe s:=by
 have r2:Vals (vs++dvs) (us++ds):=r.append hd;have hl:(us++ds).length=ps.length:=by rw[<-r2.length];exact F.len _ _ _ _ h
 refine wpAny_call (codeAny_mono (F.run X.A X.stack s H ⟨us,[]⟩ (us++ds) (vs++dvs) Q E hr I.env0 (hb s us I.kIn hl) r2 h) λr s' hq=>?_);cases r with
 |error e=>exact hx p9 Y H s e s' I hq
 |ok fl=>
  cases fl with
  |ret u=>exact I.after hq
  |next=>exact False.elim hq
  |brk=>exact False.elim hq
  |cont=>exact False.elim hq
theorem Sy(F:FnOk X.prog X.w X.K X.mg X.base CX k f fd ps sp)(hr:Room k X.A)(hg:Gl X x)(hm:X.mg x=some (.ref f))(hk:PySem.W.keepIn X.K (.ref f)=true)(hb:Binds X.K fd ps ds)(hd:Vals dvs ds)(hx:jt CX X E)
  (ha:PA X (e::es) t) (hdb:(x==("__debug__":Str))=false:=by decide) (he:starEach (e::es) X.env=(false,eval e X.env)::starEach es X.env:=by rfl) (hpl:(backTo pos (starEach es X.env)).any (·.1)=false:=by rfl):
  PE X (.Call (.Name x p) (e::es) [] pos) (Sv sp dvs E t):=by
 intro p9 s Y H Q I h;refine gI (iy I hg hm ?_ hdb);refine PySem.W.callWith_K (h₀:=X.base) I.ok.mod.kin hk (thn (ha pos p9 s Y H _ I h) λus s1 ⟨vs,H1,I1,r,q⟩=>⟨I1.kIn,?_⟩) he hpl;exact Sw F hr hb hd hx I1 r q
structure Mk(K:PF)(C f:AQ):Prop where
 makes:PySem.W.makesIn K C=true
 init:PySem.W.findIn K (.ref C) "__init__"=some (some (.ref f))
 fn:PySem.W.isFn K (.ref f)=true
 kp:PySem.W.keepIn K (.ref C)=true
end
structure FnScope(N P:AD)(sc:Scope):Prop where
 kind:sc.kind=.function
 co:sc.isCoroutine=false
 gen:sc.isGenerator=false
 nd:N.Nodup
 pre:N.take P.length=P
 par:∀x∈P,sc.names.lookup x=some .local\/sc.names.lookup x=some .cell
 nofree:∀y∈sc.names,y.2≠.free
def Bq{kindOf:Str->Option NameKind}{x:Str}:∀{binds:List (Str×AN)}{m:AH},(∀v,(x,v)∉binds)->bindL kindOf binds m x=m x
 |[],_,_=>rfl
 | (n,v)::r,m,h=>by
  unfold bindL;rw[Bq λw hw=>h w (bv _ hw)];split
  .have:x≠n:=by rintro rfl;exact h v bp
   simp[this]
  .rfl
def Br{kindOf:Str->Option NameKind}{x:Str}:∀{binds:List (Str×AN)}{m:AH},(∀v,(x,v)∉binds)->bindC kindOf binds m x=m x
 |[],_,_=>rfl
 | (n,v)::r,m,h=>by
  unfold bindC;rw[Br λw hw=>h w (bv _ hw)];split
  .rfl
  .have:x≠n:=by rintro rfl;exact h v bp
   simp[this]
def Bt{kindOf:Str->Option NameKind}{x:Str}{v:AN}:∀{P:AD}{vs:AB}{i:Nat}{m:AH},P.Nodup->P[i]?=some x->vs[i]?=some v->kindOf x=some .local->
  bindL kindOf (P.zip vs) m x=some v
 |[],_,_,_,_,h,_,_=>by simp at h
 |_::_,[],_,_,_,_,h,_=>by simp at h
 |p::P,w::vs,0,m,nd,h1,h2,hk=>by
  simp at h1 h2;subst h1;subst h2;show bindL kindOf ((p,w)::P.zip vs) m p=_;unfold bindL;rw[Bq λv hv=>(d4.mp nd).1 (List.of_mem_zip hv).1,if_pos hk];simp
 |p::P,w::vs,i+1,m,nd,h1,h2,hk=>by
  show bindL kindOf ((p,w)::P.zip vs) m x=_;unfold bindL;exact Bt (i:=i) (d4.mp nd).2 (!!h1) (!!h2) hk
def Bu{kindOf:Str->Option NameKind}{x:Str}{v:AN}:∀{P:AD}{vs:AB}{i:Nat}{m:AH},P.Nodup->P[i]?=some x->vs[i]?=some v->kindOf x≠some .local->
  bindC kindOf (P.zip vs) m x=some v
 |[],_,_,_,_,h,_,_=>by simp at h
 |_::_,[],_,_,_,_,h,_=>by simp at h
 |p::P,w::vs,0,m,nd,h1,h2,hk=>by
  simp at h1 h2;subst h1;subst h2;show bindC kindOf ((p,w)::P.zip vs) m p=_;unfold bindC;rw[Br λv hv=>(d4.mp nd).1 (List.of_mem_zip hv).1,if_neg hk];simp
 |p::P,w::vs,i+1,m,nd,h1,h2,hk=>by
  show bindC kindOf ((p,w)::P.zip vs) m x=_;unfold bindC;exact Bu (i:=i) (d4.mp nd).2 (!!h1) (!!h2) hk
def start(N:AD)(vs:AR):St:=vs.map some++List.replicate (N.length - vs.length) none
def cZ(CX:CXT)(P:AK)(w:World)(K:PF)(mg:AH)(base:Heap)(N:AD)(qual:Str)(scope:Scope)(f:AQ)(cd:AN)(A:AM)(outer:List Env)(s:AI)(H:Hp)(E:XK):Cx where
 prog:=P
 w:=w
 K:=K
 mg:=mg
 base:=base
 A:=A.deeper (envOfC qual scope (~~~s) f cd)
 N:=N
 s₀:=s
 H₀:=H
 env:=envOfC qual scope (~~~s) f cd
 outer:=outer
 stack:=envOfC qual scope (~~~s) f cd::outer
 ex:=[]
 calm:=true
 fn:=λ_=>true
 pn:=[]
 xe:=λe s'=>wpAny (model P w) (A.deeper (envOfC qual scope (~~~s) f cd)) (leaving (envOfC qual scope (~~~s) f cd) e) (λ_ s''=>CX outer H s E e s'') (λe' s''=>CX outer H s E e' s'') s'
def Bv{sc:Scope}{n:Nat}{x:Str}(h:sc.names.lookup x=some .cell):∃c,(cellsFrom n sc.names []).lookup x=some c:=by have q:=PySem.W.cellsFrom_some sc.names n [] (.inl h);exact cq.mp q
def Bw{CX:CXT}{P:AK}{w:World}{K:PF}{mg:AH}{base:Heap}{N ps:AD}{qual:Str}{scope:Scope}{f:AQ}{cd:AN}{A:AM}{outer:List Env}{s s1:AI}{H:Hp}{E:XK}{us:AB}{vs:AR}
  (S:FnScope N ps scope) (hd:A.handled=none) (e0:Env0 P w K mg base A outer s H) (hl:vs.length=ps.length) (r:Vals vs us)
  (x:InCallC s (~~~s) (bindL (envOfC qual scope (~~~s) f cd).kindOf (ps.zip us) λ_=>none) (cellsFrom ((~~~s)+1) scope.names []) (bindC (envOfC qual scope (~~~s) f cd).kindOf (ps.zip us) λ_=>none) s1):
  Inv (cZ CX P w K mg base N qual scope f cd A outer s H E) [] (start N vs) H s1:=by
 have hpl:ps.length<=N.length:=by have:=eK List.length S.pre;rw[ff]at this;omega
 obtain ⟨h1,tk,rfl,hk⟩:=x.done;have noA:∀b:AQ,b∉(cZ CX P w K mg base N qual scope f cd A outer s H E).ex:=λb z=>absurd (show b∈([]:List AQ) from z) (by simp);refine ⟨⟨e0.mod,S.kind,rfl,rfl,ax _,λy z c h1 h2=>?_,λy hy=>?_,λy c _ h=>?_,λ_=>hd,Around.frames_deeper e0.frames,.inr ⟨rfl,rfl⟩,λb z=>absurd z (noA b),e0.bs,e0.bsz,λb _ _=>noA b,λb z=>absurd z (noA b),e0.funs,e0.frf⟩,
  rfl,e0.bare,Un.kept hk,⟨_,x.toInCall.ns,λi y v h1 h2 h3=>?_⟩,λy c h=>⟨_,x.cell y c h⟩,e0.hok.fresh (ax _),λy c h=>?_,λp hp=>absurd (show p∈([]:AC) from hp) (by simp),e0.hok.kept hk,?_⟩
 .exact name_of_addr x.apart (dS h1) (dS h2)
 .have hy:scope.names.lookup y=some .cell\/scope.names.lookup y=some .free:=hy;rcases hy with hy |hy
  .exact Bv hy
  .exact absurd rfl (S.nofree _ (dS hy))
 .exact Nat.le_of_lt (x.above y c (dS h))
 .have hi:i < vs.length:=by
   unfold start at h2;by_cases hi:i < vs.length
   .exact hi
   .rw[List.getElem?_append_right (!!hi)]at h2;rw[List.getElem?_replicate]at h2;split at h2 <;> cases h2
  have ha:vs[i]?=some v:=by
   unfold start at h2;rw[eS (!!hi),b9]at h2;cases e:vs[i]? with
   |none=>rw[e]at h2;cases h2
   |some a=>rw[e]at h2;cases h2;rfl
  obtain ⟨u,hu,rv⟩:=r.get ha;have hp:ps[i]?=some y:=by rw[<-S.pre,List.getElem?_take_of_lt (!0)];exact h1
  have ndP:ps.Nodup:=by rw[<-S.pre];exact S.nd.sublist (List.take_sublist _ _)
  refine ⟨u,rv,?_⟩;rcases S.par y (cf hp) with k |k
  .exact .inl ⟨k,Bt ndP hp hu k⟩
  .obtain ⟨c,e⟩:=Bv (n:=(~~~s)+1) k;refine .inr ⟨.inl k,c,e,?_⟩;have q:=x.cell y c e;rw[Bu ndP hp hu (by show scope.names.lookup y≠_;rw[k];decide)]at q;exact q
 .exact e0.hok.fresh (Nat.le_of_lt (x.above y c (dS h)))
 .unfold start;show _=N.length;rw[aI,ag,dn];omega
def SJ{CX:CXT}{P:AK}{w:World}{K:PF}{mg:AH}{base:Heap}{k:Nat}{f:AQ}{name qual:Str}{params:Arguments}{body:AF}{scope:Scope}{dV kV doc pm cdv ct oc:AN}{an od:Option AQ}
  {osl:Array (Option AN)} {N ps:AD} {sp:Sp} (lk:K.lookup f=some ⟨oc,od,.func (PySem.W.fnOf name qual params body scope dV kV doc pm an cdv ct),osl⟩) (hcd:PySem.W.codeIn K cdv qual=true) (S:FnScope N ps scope)
  (len:∀vs H Q E,sp vs H Q E->vs.length=ps.length)
  (hbody:∀(A:AM)(outer:List Env)(s:AI)(H:Hp)(vs:AR)(Q:VK)(E:XK),Room k (A.deeper (envOfC qual scope (~~~s) f cdv))->sp vs H Q E->
   ∃t,PSs (cZ CX P w K mg base N qual scope f cdv A outer s H E) body t/\t { nx:=λ_ H'=>Q .non H',rt:=Q } (start N vs) H):
  FnOk P w K mg base CX (k+1) f (PySem.W.fnOf name qual params body scope dV kV doc pm an cdv ct) ps sp:=by
 refine ⟨len,λA outer s H args us vs Q E hr e0 hb r hsp=>?_⟩;have hl:=len _ _ _ _ hsp;have KX:K.In s.heap:=e0.mod.kin.keeps λb o e=>(e0.bs b o e).1;have lim:s.heap.NoLimit:=e0.mod.nolimit.keeps λb o e=>(e0.bs b o e).1;have hkind:∀y∈ps.zip us,scope.names.lookup y.1=some .local\/(scope.names.lookup y.1=some .cell/\((cellsFrom ((~~~s)+1) scope.names []).lookup y.1).isSome=true):=λ⟨n,v⟩ hy=>by
  rcases S.par n (List.of_mem_zip hy).1 with q |q
  .exact .inl q
  .exact .inr ⟨q,PySem.W.cellsFrom_some _ _ _ (.inl q)⟩
 refine codeAny_call_function hr.depth (KX _ _ lk) rfl S.co S.gen rfl (PySem.W.codeRec_of KX hcd) (hb _ _ _ _ ?_);refine wpAny_newFunctionEnv_cells S.kind hkind λenv he s1 x=>?_;subst he;refine ⟨lim.keeps x.toInCall.keep,codeAny_func ?_⟩;obtain ⟨t,ht,hq⟩:=hbody A outer s H vs Q E (hr.deeper _) hsp;have I:Inv (cZ CX P w K mg base N qual scope f cdv A outer s H E) [] (start N vs) H s1:=Bw S hr.hd e0 hl r x;refine cm (ht [] s1 (start N vs) H _ I hq) (λfl s' hs=>?_) λe s' hs=>hs;have fin:∀{σ':St}{H':Hp}{v:V}{u:AN},Inv (cZ CX P w K mg base N qual scope f cdv A outer s H E) [] σ' H' s'->RelV v u->Q v H'->CE outer P w H s Q u s':=
  λ{σ' H' v u} J rv q=>⟨v,H',J.os,J.bare,J.base,J.hok,rv,q⟩
 cases fl with
 |ret u=>
  obtain ⟨v,σ',H',J,rv,q⟩:=hs;exact fin J rv q
 |next=>
  obtain ⟨σ',H',J,q⟩:=hs;exact fin (v:=V.non) (u:=Value.none) J rfl q
 |brk=>
  obtain ⟨_,_,_,q⟩:=hs;exact False.elim q
 |cont=>
  obtain ⟨_,_,_,q⟩:=hs;exact False.elim q
section
variable {X:Cx} {x:Str} {p pos:Pos} {e:AO} {es:AE} {t:TA} {id T:AL} {r:AR->Hp->VK->Prop}
def tCB(r:AR->Hp->VK->Prop)(t:TA):TE:=λY H Q=>t Y H λvs H1=>r vs H1 Q
theorem ju (hc:bh X (.builtin id) r) (hg:Gl X x) (hm:X.mg x=none) (hv:bootBuiltins x=some (.builtin id)) (ha:PA X (e::es) t) (hn:x≠"__name__":=by decide) (hdb:(x==("__debug__":Str))=false:=by decide)
  (he:starEach (e::es) X.env=(false,eval e X.env)::starEach es X.env:=by rfl) (hpl:(backTo pos (starEach es X.env)).any (·.1)=false:=by rfl):PE X (.Call (.Name x p) (e::es) [] pos) (tCB r t):=by
 intro p9 s Y H Q I h;refine gI (iz I hg hm hv ?_ hn hdb);exact PyProof.Rows.callWith_builtin1 (thn (ha pos p9 s Y H _ I h) λus s1 ⟨vs,H1,I1,r1,q1⟩=>hc p9 s1 Y H1 vs us Q I1 r1 q1) he hpl
theorem jw (hc:bh X (.type T) r) (hg:Gl X x) (hm:X.mg x=none) (hv:bootBuiltins x=some (.type T)) (ha:PA X (e::es) t) (hn:x≠"__name__":=by decide) (hdb:(x==("__debug__":Str))=false:=by decide)
  (he:starEach (e::es) X.env=(false,eval e X.env)::starEach es X.env:=by rfl) (hpl:(backTo pos (starEach es X.env)).any (·.1)=false:=by rfl):PE X (.Call (.Name x p) (e::es) [] pos) (tCB r t):=by
 intro p9 s Y H Q I h;refine gI (iz I hg hm hv ?_ hn hdb);exact et (thn (ha pos p9 s Y H _ I h) λus s1 ⟨vs,H1,I1,r1,q1⟩=>hc p9 s1 Y H1 vs us Q I1 r1 q1) he hpl
end
end L2
namespace HT
open PySem PyProof.Rows
section
variable {prog:AK} {w:World} {A:AM} {E:AG} {s:AI}
theorem SM{t b:AQ}{vs ws:AB}{Q:AG}(ht:IsTup s.heap t vs.toArray)(hb:IsTup s.heap b ws.toArray)(hv:vs≠[])
  (h1:ws=[]->Q (.ref t) s) (h2:ws≠[]->Q (.ref (~~~s)) { s with heap:=s.heap.push { cls:=.type "tuple",data:=.seq (vs++ws).toArray } })
  (hsz:vs.length+ws.length<=sizeLine):wpAny (model prog w) A (binaryOp .Add (.ref t) (.ref b)) Q E s:=by
 obtain ⟨⟨cls,dd,data,sl⟩,ho,hc,n,hd⟩:=id ht;obtain ⟨⟨cls2,dd2,data2,sl2⟩,ho2,hc2,n2,hd2⟩:=id hb;simp only at hc hd hc2 hd2;subst hc hd hc2 hd2;have e:vs.toArray++ws.toArray=(vs++ws).toArray:=by simp
 by_cases hw:ws=[]
 .exact concat_meets ⟨_,ho,rfl⟩ ⟨_,ho2,rfl⟩ noFill_tuple_add seq_tuple_add PySem.F.slot_tuple_add PySem.F.entry_tuple_add (PySem.F.args_tuple_add_2 _ _)
   (tuple_addW1 t b vs.toArray ws.toArray n n2 dd dd2 sl sl2 (!!hv) (by simp[hw])) ⟨ho,ho2,h1 hw⟩
 .refine concat_meets ⟨_,ho,rfl⟩ ⟨_,ho2,rfl⟩ noFill_tuple_add seq_tuple_add PySem.F.slot_tuple_add PySem.F.entry_tuple_add (PySem.F.args_tuple_add_2 _ _)
   (tuple_addW2 t b vs.toArray ws.toArray n n2 dd dd2 sl sl2 (!!hv) (!!hw) (by rw[List.size_toArray,List.size_toArray];exact hsz)) ⟨ho,ho2,?_⟩
  rw[e];exact h2 hw
def sIx(n d:Nat):Option Int->Nat
 |none=>d
 |some v=>if v < 0 then (v+(n:Int)).toNat else min v.toNat n
theorem Bx(n d k:Nat):sIx n d (some (k:Int))=min k n:=by show (if (k:Int) < 0 then ((k:Int)+(n:Int)).toNat else min (k:Int).toNat n)=min k n;rw[if_neg (!0),Int.toNat_natCast]
theorem By(n d:Nat)(hd:d<=n)(o:Option Int):sIx n d o<=n:=by
 cases o with
 |none=>exact hd
 |some v=>
  show (if v < 0 then (v+(n:Int)).toNat else min v.toNat n)<=n;by_cases hv:v < 0
  .rw[if_pos hv];omega
  .rw[if_neg hv];exact Nat.min_le_right _ _
theorem BJ(v:Int)(n d:Nat):(if v < 0 then max (v+(n:Int)) 0 else min v (n:Int))=((sIx n d (some v):Nat):Int):=by
 show (if v < 0 then max (v+(n:Int)) 0 else min v (n:Int))=(((if v < 0 then (v+(n:Int)).toNat else min v.toNat n):Nat):Int);by_cases hv:v < 0
 .simp only[if_pos hv];omega
 .simp only[if_neg hv];omega
theorem SN(lo hi:Option Int)(n:Nat):Builtin.Slice.sliceAdjust lo hi 1 (n:Int)=(((sIx n 0 lo:Nat):Int),((sIx n n hi:Nat):Int)):=by
 have h1:¬((1:Int) < 0):=by omega
 unfold Builtin.Slice.sliceAdjust;simp only[h1,if_false];refine Prod.ext ?_ ?_
 .cases lo with
  |none=>rfl
  |some v=>exact BJ v n 0
 .cases hi with
  |none=>rfl
  |some v=>exact BJ v n n
theorem SQ(i j:Nat):Builtin.Slice.slicePlaces (i:Int) (j:Int) 1=j - i:=by
 unfold Builtin.Slice.slicePlaces;have h1:(1:Int) > 0:=by omega
 simp only[h1,if_true,Int.ediv_one];split <;> omega
theorem BK{v:AN}{o:Option Int}{Q:Option Int->AI->Prop}(p:IsPart v o)(h:Q o s):wpAny (model prog w) A (Builtin.Slice.slicePartIndex v) Q E s:=by
 cases p with
 |none=>exact slicePart_none h
 |int i t=>exact slicePart_int h
theorem BL{sl:AQ}{vl vu:AN}{lo hi:Option Int}{n:Nat}{Q:Int×Int×Nat->AI->Prop}(hs:s.heap.IsSliceOf sl vl vu .none)(pl:IsPart vl lo)(pu:IsPart vu hi)
  (h:Q (((sIx n 0 lo:Nat):Int),1,sIx n n hi - sIx n 0 lo) s):wpAny (model prog w) A (Builtin.Slice.sliceApplied (.ref sl) (pure (n:Int))) Q E s:=by
 obtain ⟨os,hos,hcs,hds⟩:=id hs;unfold Builtin.Slice.sliceApplied Builtin.Slice.sliceFields;refine wpAny_bind (wpAny_bind (wpAny_field hos hds (x:=vl) rfl (wpAny_bind (wpAny_field hos hds (x:=vu) rfl (wpAny_bind (wpAny_field hos hds (x:=.none) rfl (wpAny_pure ?_)))))));refine wpAny_bind (slicePart_none ?_);show wpAny _ _ (if ((1:Int)==0)=true then _ else _) _ _ s;rw[if_neg (!1)];refine wpAny_bind (BK pl (wpAny_bind (BK pu (wpAny_bind (wpAny_pure ?_)))));show wpAny _ _ (match Builtin.Slice.sliceAdjust lo hi 1 (n:Int) with | (lo,hi)=>pure (lo,(1:Int),Builtin.Slice.slicePlaces lo hi 1)) _ _ s;rw[SN lo hi n];show wpAny _ _ (pure (((sIx n 0 lo:Nat):Int),(1:Int),Builtin.Slice.slicePlaces ((sIx n 0 lo:Nat):Int) ((sIx n n hi:Nat):Int) 1)) _ _ s;rw[SQ];exact wpAny_pure h
theorem SX(xs:Array AN)(i k:Nat):((List.range k).filterMap λ(m:Nat)=>xs[((i:Int)+(m:Int) * 1).toNat]?).toArray=((xs.toList.drop i).take k).toArray:=by
 have e:(λ(m:Nat)=>xs[((i:Int)+(m:Int) * 1).toNat]?)=λm=>xs[i+m]?:=by
  funext m;have:((i:Int)+(m:Int) * 1).toNat=i+m:=by omega
  rw[this]
 rw[e];have:=pick_run xs i k;rw[List.filterMap_map]at this;have e2:((λx=>xs[x]?)∘λx=>i+x)=λm=>xs[i+m]?:=rfl;rw[e2]at this;rw[this]
theorem S5{t sl:AQ}{items:Array AN}{vl vu:AN}{lo hi:Option Int}{Q:AG}(ht:IsTup s.heap t items)(hs:s.heap.IsSliceOf sl vl vu .none)(pl:IsPart vl lo)(pu:IsPart vu hi)
  (hw:¬(sIx items.size 0 lo=0/\sIx items.size items.size hi=items.size))
  (h:Q (.ref (~~~s)) { s with heap:=s.heap.push { cls:=.type "tuple",data:=.seq ((items.toList.drop (sIx items.size 0 lo)).take (sIx items.size items.size hi - sIx items.size 0 lo)).toArray } })
  (hsz:items.size<=sizeLine):wpAny (model prog w) A (getItem (.ref t) (.ref sl)) Q E s:=by
 have htake:sizeOk (.seq ((items.toList.drop (sIx items.size 0 lo)).take (sIx items.size items.size hi - sIx items.size 0 lo)).toArray):=by show ((items.toList.drop (sIx items.size 0 lo)).take (sIx items.size items.size hi - sIx items.size 0 lo)).toArray.size<=sizeLine;rw[List.size_toArray,List.length_take,List.length_drop,Array.length_toList];omega
 have hj:sIx items.size items.size hi<=items.size:=By _ _ (Nat.le_refl _) hi;obtain ⟨os,hos,hcs,hds⟩:=id hs;have hTs:s.TypeIs (.ref sl) "slice":=⟨os,hos,hcs⟩;unfold getItem;try with_reducible refine wpAny_holding ?_
 first |refine wpAny_bind (wpAny_pure ?_) |skip
 refine wpAny_bind (wpAny_sequenceKey ht.typeIs (!1) ?_);refine wpAny_bind (wpAny_callSpecial?_slot (name:=⇑"__getitem__") ht.typeIs PyProof.Rows.slot_tuple_getitem
  (wpAny_call_entry PyProof.Rows.slot_tuple_getitem ht.typeIs entry_tuple_getitem ?_ (args_tuple_getitem _ _)))
 show wpAny _ _ (Builtin.Tuple.tupleItemsOf (.ref t) >>= _) _ _ s;refine wpAny_bind (tupleItemsOf_ ht ?_);refine wpAny_bind (wpAny_typeOf hTs ?_);rw[if_pos (!1)];refine wpAny_bind (BL hs pl pu ?_);have hno:¬((((sIx items.size 0 lo:Nat):Int)==0&&(1:Int)==1&&(sIx items.size items.size hi - sIx items.size 0 lo)==items.size)=true):=by intro q;rw[Bool.and_eq_true,Bool.and_eq_true]at q;have q1:((sIx items.size 0 lo:Nat):Int)=0:=eq_of_beq q.1.1;have q2:sIx items.size items.size hi - sIx items.size 0 lo=items.size:=eq_of_beq q.2;exact hw ⟨!0,!0⟩
 show wpAny _ _ (if (((sIx items.size 0 lo:Nat):Int)==0&&(1:Int)==1&&(sIx items.size items.size hi - sIx items.size 0 lo)==items.size)=true then _ else _) _ _ s;rw[if_neg hno,SX];first
  |exact wpAny_bind (m:=Builtin.Tuple.tupleExact _) (wpAny_newObj_type (wpAny_pure ⟨_,rfl,wpAny_pure h⟩) htake)
  |exact wpAny_bind (m:=Builtin.Tuple.tupleExact _) (wpAny_newObj_type (wpAny_bind (wpAny_pure (wpAny_pure ⟨_,rfl,wpAny_pure h⟩))) htake)
  |exact wpAny_bind (wpAny_bind (m:=Builtin.Tuple.tupleExact _) (wpAny_newObj_type (wpAny_pure (wpAny_pure ⟨_,rfl,wpAny_pure h⟩)) htake))
  |exact wpAny_bind (wpAny_bind (m:=Builtin.Tuple.tupleExact _) (wpAny_newObj_type (wpAny_pure ⟨_,rfl,wpAny_pure h⟩) htake))
end
end HT
namespace L2
open PySem PySem.Spec PyProof.Rows
abbrev TO:=St->Hp->(Option Int->Hp->Prop)->Prop
def PO(X:Cx)(e:Option AO)(t:TO):Prop:=
 ∀(p9:AC)(s:AI)(Y:St)(H:Hp)(Q:Option Int->Hp->Prop),Inv X p9 Y H s->t Y H Q->
  ↥X (evalPart e X.env) (λu s'=>∃o H',Inv X p9 Y H' s'/\IsPart u o/\Q o H') X.xe s
def S6:TO:=λ_ H Q=>Q none H
def S7(t:TE):TO:=λY H Q=>t Y H λx H1=>∃i,x=.int i/\Q (some i) H1
def intsAre_of{ns:List Int}:∀{us:AB},Vals (ns.map V.int) us->IntsAre us ns:=by
 induction ns with
 |nil=>intro us r;rw[fS]at r;cases r;exact .nil
 |cons n ns ih=>
  intro us r;rw[a9]at r;cases r with
  |cons r1 r2=>
   obtain ⟨t,e⟩:=r1;subst e;exact .cons n t (ih r2)
section
variable {X:Cx} {e:AO} {te:TE} {lo hi:Option AO} {tl th:TO} {pos p2:Pos}
theorem S8:PO X none S6:=by intro p9 s Y H Q I h;rw[evalPart_none];exact ai ⟨none,H,I,.none,h⟩
theorem S9(h:PE X e te):PO X (some e) (S7 te):=by intro p9 s Y H Q I hw;rw[evalPart_some];refine thn (h p9 s Y H _ I hw) λu s1 ⟨x,H1,I1,r1,q1⟩=>?_;obtain ⟨i,rfl,q⟩:=q1;obtain ⟨t,rfl⟩:=r1;exact ⟨some i,H1,I1,.int i t,q⟩
def SlR(X:Cx)(r:V->Option Int->Option Int->Hp->VK->Prop):Prop:=
 ∀(p9:AC)(s:AI)(Y:St)(H:Hp)(x:V)(v vl vu:AN)(lo hi:Option Int)(sl:AQ)(Q:VK),Inv X p9 Y H s->RelV x v->s.heap.IsSliceOf sl vl vu .none->IsPart vl lo->IsPart vu hi->r x lo hi H Q->
  ∃T id,typeLookup (.type T) "__getitem__"=pure (some (.builtin id))/\s.TypeIs v T/\↥X (getItem v (.ref sl)) (EP X p9 Y Q) X.xe s
def tSl(r:V->Option Int->Option Int->Hp->VK->Prop)(te:TE)(tl th:TO):TE:=λY H Q=>te Y H λx H1=>tl Y H1 λl H2=>th Y H2 λu H3=>r x l u H3 Q
theorem Tc{r:V->Option Int->Option Int->Hp->VK->Prop}(hr:SlR X r)(he:PE X e te)(hl:PO X lo tl)(hu:PO X hi th):PE X (.Subscript e (.Slice lo hi none p2) pos) (tSl r te tl th):=by intro p9 s Y H Q I h;refine Subscript_ (thn (he p9 s Y H _ I h) λv s1 ⟨x,H1,I1,r1,q1⟩=>?_);refine wpAny_Slice (thn (hl p9 s1 Y H1 _ I1 q1) λvl s2 ⟨l,H2,I2,pl,q2⟩=>thn (hu p9 s2 Y H2 _ I2 q2) λvu s3 ⟨u,H3,I3,pu,q3⟩=>?_);rw[evalPart_none];refine ai ?_;have I4:Inv X p9 Y H3 { s3 with heap:=s3.heap.push { cls:=.type "slice",data:=.fields #[vl,vu,.none] } }:=I3.kept (t':=s3.toks) λb ob q=>ah _ q;obtain ⟨T,id,hT,ht,hg⟩:=hr p9 { s3 with heap:=s3.heap.push { cls:=.type "slice",data:=.fields #[vl,vu,.none] } } Y H3 x v vl vu l u s3.heap.objs.size Q I4 r1 (Heap.IsSliceOf.new ..) pl pu q3;show ↥X (subscriptTail e (.Slice lo hi none p2) v (.ref s3.heap.objs.size)) (EP X p9 Y Q) X.xe { s3 with heap:=s3.heap.push { cls:=.type "slice",data:=.fields #[vl,vu,.none] } };exact tail_any (ops:=[.ref s3.heap.objs.size,v]) ht hT hg (by with_unfolding_all rfl)
def dW(xs:AR)(lo hi:Option Int):AR:=(xs.drop (HT.sIx xs.length 0 lo)).take (HT.sIx xs.length xs.length hi - HT.sIx xs.length 0 lo)
theorem BP(xs:AR)(lo hi:Option Int):(dW xs lo hi).length<=xs.length:=by unfold dW;rw[ff,eh];omega
def Td(K:PF):V->Option Int->Option Int->Hp->VK->Prop:=λx lo hi H Q=>∃a xs,x=.ref a/\SqT K H a xs/\
 ¬(HT.sIx xs.length 0 lo=0/\HT.sIx xs.length xs.length hi=xs.length)/\∀p,H p=none->Q (.ref p) (upd H p (.tup (dW xs lo hi)))
theorem Te:SlR X (Td X.K):=by
 intro p9 s Y H x v vl vu lo hi sl Q I rx hs pl pu h;obtain ⟨a,xs,rfl,hx,hw,q⟩:=h;cases rx;obtain ⟨its,r,ht,hz⟩:=I.tuple hx;have hlen:its.toArray.size=xs.length:=by rw[am];exact r.length.symm
 refine ⟨"tuple",_,e8.lookup,ht.typeIs,?_⟩;refine HT.S5 ht hs pl pu (by rw[hlen];exact hw) ?_ (by rw[hlen];exact hz);rw[hlen];refine ⟨.ref (~~~s),_,I.laid (t':=s.toks) (o:=.tup (dW xs lo hi)) (λb ob q=>ah _ q) (ax _) ?_,rfl,q _ (I.hok.fresh (ax _))⟩;exact ⟨ce (BP xs lo hi) hz,_,(r.drop (HT.sIx xs.length 0 lo)).take (HT.sIx xs.length xs.length hi - HT.sIx xs.length 0 lo),IsTup.new _ _⟩
def Tf(K:PF):R2:=λx y H Q=>∃a b xs ys,x=.ref a/\y=.ref b/\SqT K H a xs/\SqT K H b ys/\xs≠[]/\xs.length+ys.length<=sizeLine/\
 (ys=[]->Q (.ref a) H)/\(ys≠[]->∀p,H p=none->Q (.ref p) (upd H p (.tup (xs++ys))))
theorem Vals.nil_iff{xs:AR}{us:AB}(r:Vals xs us):us=[]↔xs=[]:=by
 cases r with
 |nil=>simp
 |cons _ _=>simp
theorem Th:OpR X (binaryOp .Add) (Tf X.K):=by intro p9 s Y H x y v u Q I rx ry h;obtain ⟨a,b,xs,ys,rfl,rfl,ha,hb,hx,hz,q1,q2⟩:=h;cases rx;cases ry;obtain ⟨its,r1,p1,_⟩:=I.tuple ha;obtain ⟨its2,r2,p2,_⟩:=I.tuple hb;refine HT.SM p1 p2 (λz=>hx (r1.nil_iff.mp z)) (λz=>⟨.ref a,H,I,rfl,q1 (r2.nil_iff.mp z)⟩) (λz=>?_) (by rw[<-r1.length,<-r2.length];exact hz);refine ⟨.ref (~~~s),_,I.laid (t':=s.toks) (o:=.tup (xs++ys)) (λb ob q=>ah _ q) (ax _) ?_,rfl,q2 (λw=>z (r2.nil_iff.mpr w)) _ (I.hok.fresh (ax _))⟩;exact ⟨by rw[aI];exact hz,_,r1.append r2,IsTup.new _ _⟩
end
def ixN(n:Nat)(i:Int):Option Nat:=if 0<=i then (if i < n then some i.toNat else none) else if -(n:Int)<=i then some (i+n).toNat else none
def atI{α:Type}(xs:List α)(i:Int):Option α:=(ixN xs.length i).bind λj=>xs[j]?
def BR{n:Nat}{i:Int}{j:Nat}(h:ixN n i=some j):seqIndex? i n=some j/\j < n/\-(n:Int)<=i/\i < n:=by
 unfold ixN at h;by_cases h0:0<=i
 .rw[if_pos h0]at h;by_cases h1:i < n
  .rw[if_pos h1]at h;have e:i.toNat=j:=d3 h;exact ⟨by rw[seqIndex_of h0 h1,e],!0,!0,h1⟩
  .rw[if_neg h1]at h;cases h
 .rw[if_neg h0]at h;by_cases h1:-(n:Int)<=i
  .rw[if_pos h1]at h;have e:(i+n).toNat=j:=d3 h;exact ⟨by rw[seqIndex_neg (!0) h1,e],!0,h1,!0⟩
  .rw[if_neg h1]at h;cases h
def vp{α:Type}{xs:List α}{i:Int}{v:α}(h:atI xs i=some v):∃j,seqIndex? i xs.length=some j/\xs[j]?=some v/\j < xs.length/\-(xs.length:Int)<=i/\i < xs.length:=by
 unfold atI at h;cases e:ixN xs.length i with
 |none=>rw[e]at h;cases h
 |some j=>
  rw[e]at h;obtain ⟨h1,h2,h3,h4⟩:=BR e;exact ⟨j,h1,h,h2,h3,h4⟩
def b7{α:Type}{xs:List α}{j:Nat}{v:α}(h:xs[j]?=some v):atI xs (j:Int)=some v:=by
 have hj:j < xs.length:=(ar.mp h).1;have e:ixN xs.length (j:Int)=some j:=by unfold ixN;rw[if_pos (!0),if_pos (!0)];simp
 unfold atI;rw[e];exact h
def BV{α:Type}(xs:List α)(v:α):atI (xs++[v]) (-1)=some v:=by
 have hl:(xs++[v]).length=xs.length+1:=by simp
 have e:ixN (xs++[v]).length (-1)=some xs.length:=by unfold ixN;rw[hl,if_neg (!1),if_pos (!0)];congr 1;omega
 unfold atI;rw[e];show (xs++[v])[xs.length]?=some v;simp
def BW(b:AO):Prop:=∀o i,subscripted b false o i=operate [o,i] (getItem o i)
def IxR(X:Cx)(r:R2):Prop:=
 ∀(value slice:AO)(p9:AC)(s:AI)(Y:St)(H:Hp)(x y:V)(v u:AN)(Q:VK),Inv X p9 Y H s->RelV x v->RelV y u->r x y H Q->
  subscripted slice false v u=operate [v,u] (getItem v u)->↥X (subscriptTail value slice v u) (EP X p9 Y Q) X.xe s
def MtR(X:Cx)(id:AL)(r:V->AR->Hp->VK->Prop):Prop:=
 ∀(p9:AC)(s:AI)(Y:St)(H:Hp)(x:V)(xs:AR)(v:AN)(us:AB)(Q:VK),Inv X p9 Y H s->RelV x v->Vals xs us->r x xs H Q->
  ↥X (call (.builtin id) (v::us)) (EP X p9 Y Q) X.xe s
section
variable {X:Cx} {a b:AO} {ta tb:TE} {pos:Pos}
theorem Ti{r:R2}(hr:IxR X r)(ha:PE X a ta)(hb:PE X b tb)(hs:BW b):PE X (.Subscript a b pos) (tOp r ta tb):=by intro p9 s Y H Q I h;exact Subscript_ (vm ha hb I h λv u s2 x y H2 I2 rx ry q=>hr a b p9 s2 Y H2 x y v u Q I2 rx ry q (hs _ _))
def Tj(K:PF):R2:=λx y H Q=>∃p xs i v,x=.ref p/\y=.int i/\SqL K H p xs/\atI xs i=some v/\Q v H
def Tn(K:PF):R2:=λx y H Q=>∃p xs i v,x=.ref p/\y=.int i/\SqT K H p xs/\atI xs i=some v/\Q v H
def Tp:R2:=λx y H Q=>∃z i c,x=.str z/\y=.int i/\z.length<=sizeLine/\atI z.cps.toList i=some c/\Q (.str ⟨#[c]⟩) H
theorem Tq:IxR X (Tj X.K):=by
 intro value slice p9 s Y H x y v u Q I rx ry h hs;obtain ⟨p,xs,i,z,rfl,rfl,hq,he,q⟩:=h;cases rx;obtain ⟨t,rfl⟩:=ry;obtain ⟨its,r,pl,hz⟩:=I.list hq;obtain ⟨j,h1,h2,h3,h4,h5⟩:=vp he;obtain ⟨w,ew,rw'⟩:=r.get h2;have hl:=r.length;have hn:=iB;have fin:EP X p9 Y Q w s:=⟨z,H,I,rw',q⟩;by_cases h0:0<=i
 .have hj:i.toNat=j:=by
   rw[seqIndex_of h0 h5]at h1;exact d3 h1
  exact item_listR pl.isList h0 (!0) (by rw[hj];simpa using ew) fin hs
 .have hj:(i+(its.toArray.size:Int)).toNat=j:=by
   rw[seqIndex_neg (!0) h4]at h1;rw[am,<-hl];exact d3 h1
  exact subscriptTail_builtinR (x:=w) pl.isList.typeIs slot_list_getitem.lookup
   (wpAny_getItem_list_neg (Q:=λr s'=>r=w/\EP X p9 Y Q r s') pl.isList (!0) (by rw[am] <;> omega) (!0) (by rw[hj];simpa using ew) ⟨rfl,fin⟩) hs
theorem Tt:IxR X (Tn X.K):=by
 intro value slice p9 s Y H x y v u Q I rx ry h hs;obtain ⟨p,xs,i,z,rfl,rfl,hq,he,q⟩:=h;cases rx;obtain ⟨t,rfl⟩:=ry;obtain ⟨its,r,pl,hz⟩:=I.tuple hq;obtain ⟨j,h1,h2,h3,h4,h5⟩:=vp he;obtain ⟨w,ew,rw'⟩:=r.get h2;have hl:=r.length;have hn:=iB;have fin:EP X p9 Y Q w s:=⟨z,H,I,rw',q⟩;exact subscriptTail_builtinR (x:=w) pl.typeIs slot_tuple_getitem.lookup
  (getItem_tuple (j:=j) (Q:=λr s'=>r=w/\EP X p9 Y Q r s') pl (!0) (!0) (by rw[am,<-hl];exact h1) (!!ew) ⟨rfl,fin⟩) hs
theorem Tu:IxR X Tp:=by
 intro value slice p9 s Y H x y v u Q I rx ry h hs;obtain ⟨z,i,c,rfl,rfl,hz,he,q⟩:=h;obtain ⟨t,rfl⟩:=rx;obtain ⟨t',rfl⟩:=ry;obtain ⟨j,h1,h2,h3,h4,h5⟩:=vp he;have hl:z.cps.toList.length=z.length:=by simp[Str.length]
 rw[hl]at h1 h4 h5;have hn:=iB;exact tail_any (typeIs_str s z t) slot_str_getitem.lookup (getItem_str (c:=c) (by
  have e1:decide (i < -(2 ^ 63:Int))=false:=bB (!0);have e2:decide (i≥2 ^ 63)=false:=bB (!0);rw[e1,e2,Bool.or_false]) (by rw[h1];simpa using h2) ⟨.str ⟨#[c]⟩,H,I.tok _,⟨_,rfl⟩,q⟩) hs
theorem Tv (its:AB) (n j:Nat) (u:AN):Obj.mapSeq (·.setIfInBounds j u) { cls:=.type "list",data:=.seq its.toArray n }={ cls:=.type "list",data:=.seq (its.set j u).toArray n }:=by simp[Obj.mapSeq]
theorem Inv.lst{p9:AC}{Y:St}{H:Hp}{s:AI}{p:AQ}{xs:AR}(I:Inv X p9 Y H s)(h:H p=some (.lst xs)):
  ∃(its:AB) (n:Nat),Vals xs its/\s.heap.get? p=some { cls:=.type "list",data:=.seq its.toArray n }/\xs.length<=sizeLine:=by
 obtain ⟨z,its,n,r,e⟩:=I.hok p _ h;exact ⟨its,n,r,e,z⟩
theorem Inv.lstUpd{p9:AC}{Y:St}{H:Hp}{s:AI}{p:AQ}{xs ys:AR}{its its':AB}{n n':Nat}{f:Obj->Obj}(I:Inv X p9 Y H s)(h:H p=some (.lst xs))
  (ho:s.heap.get? p=some { cls:=.type "list",data:=.seq its.toArray n }) (hf:f { cls:=.type "list",data:=.seq its.toArray n }={ cls:=.type "list",data:=.seq its'.toArray n' }) (r:Vals ys its') (hz:ys.length<=sizeLine) (t:Nat):
  Inv X p9 Y (upd H p (.lst ys)) { s with heap:=s.heap.update p f,toks:=t }:=by
 have e:(s.heap.update p f).get? p=some { cls:=.type "list",data:=.seq its'.toArray n' }:=by rw[Heap.get?_update_self f ho (by rw[hf] <;> rfl),hf]
 refine I.write (x:=p) (e:=p) (by rw[h];trivial) (.inl rfl) (λb u hb q=>(Heap.get?_update_other _ _ (Ne.symm hb)).trans q) ⟨_,e⟩ ?_;exact ⟨hz,its',n',r,e⟩
def Tw:V->V->V->Hp->(Hp->Prop)->Prop:=λo i v H Q=>∃p xs k j,o=.ref p/\i=.int k/\H p=some (.lst xs)/\ixN xs.length k=some j/\Q (upd H p (.lst (xs.set j v)))
theorem set_list:vh X Tw:=by
 intro p9 s Y H o i v ov iv u Q I ro ri rv h;obtain ⟨p,xs,k,j,rfl,rfl,hp,hj,q⟩:=h;cases ro;obtain ⟨t,rfl⟩:=ri;obtain ⟨its,n,r,ho,hz⟩:=I.lst hp;obtain ⟨h1,h2,h3,h4⟩:=BR hj;have hl:=r.length;have hn:=iB;have I':Inv X p9 Y (upd H p (.lst (xs.set j v))) { s with heap:=s.heap.update p (Obj.mapSeq (·.setIfInBounds j u)) }:=
  I.lstUpd hp ho (Tv its n j u) (r.set rv j) (by rw[d5];exact hz) s.toks
 by_cases h0:0<=k
 .have hk:k.toNat=j:=by
   rw[seqIndex_of h0 h4]at h1;exact d3 h1
  exact PySem.W.ki_setAt ho h0 (!0) (by rw[am,<-hl];exact h4) (by rw[hk];exact ⟨_,I',q⟩)
 .have hk:(k+(its.toArray.size:Int)).toNat=j:=by
   rw[seqIndex_neg (!0) h3]at h1;rw[am,<-hl];exact d3 h1
  exact PySem.W.ki_setBack ho (!0) (by rw[am,<-hl];exact h3) (!0) (by rw[hk];exact ⟨_,I',q⟩)
theorem BX(lo hi:Option Int)(n:Nat):(sliceBounds lo hi none n).1=((HT.sIx n 0 lo:Nat):Int)/\(sliceBounds lo hi none n).2.1=((HT.sIx n n hi:Nat):Int)/\(sliceBounds lo hi none n).2.2=1:=by
 refine ⟨?_,?_,rfl⟩
 .cases lo with
  |none=>simp[sliceBounds,HT.sIx]
  |some i=>
   simp only[sliceBounds,HT.sIx,Option.getD_none,show (1:Int) > 0 by decide,if_true];by_cases h:i < 0
   .simp only[h,if_true] <;> omega
   .simp only[h,fb] <;> omega
 .cases hi with
  |none=>simp[sliceBounds,HT.sIx]
  |some i=>
   simp only[sliceBounds,HT.sIx,Option.getD_none,show (1:Int) > 0 by decide,if_true];by_cases h:i < 0
   .simp only[h,if_true] <;> omega
   .simp only[h,fb] <;> omega
theorem Tz(its:AB)(lo hi:Option Int):slicePick its.toArray lo hi none=((its.drop (HT.sIx its.length 0 lo)).take (HT.sIx its.length its.length hi - HT.sIx its.length 0 lo)).toArray:=by obtain ⟨h1,h2,h3⟩:=BX lo hi its.toArray.size;unfold slicePick;rw[h1,h2,h3];simp only[sliceRange_one,pick_run,am] <;> rfl
def TF(K:PF):V->Option Int->Option Int->Hp->VK->Prop:=λx lo hi H Q=>∃a xs,x=.ref a/\SqL K H a xs/\∀p,H p=none->Q (.ref p) (upd H p (.lst (dW xs lo hi)))
theorem BZ:SlR X (TF X.K):=by intro p9 s Y H x v vl vu lo hi sl Q I rx hs pl pu h;obtain ⟨a,xs,rfl,hx,q⟩:=h;cases rx;obtain ⟨its,r,ht,hz⟩:=I.list hx;have hlen:=r.length;refine ⟨"list",_,slot_list_getitem.lookup,ht.isList.typeIs,?_⟩;refine wpAny_getItem_list_slice ht.isList hs pl pu .none (by simp) ?_ (by rw[am] <;> omega);rw[Tz,<-hlen];refine ⟨.ref (~~~s),_,I.laid (t':=s.toks) (o:=.lst (dW xs lo hi)) (λb ob q=>ah _ q) (ax _) ?_,rfl,q _ (I.hok.fresh (ax _))⟩;exact ⟨ce (BP xs lo hi) hz,_,0,(r.drop (HT.sIx xs.length 0 lo)).take (HT.sIx xs.length xs.length hi - HT.sIx xs.length 0 lo),aS _ rfl⟩
theorem Ca:bh X (.builtin "len") (λxs H Q=>∃p ys,xs=[.ref p]/\(SqL X.K H p ys\/SqT X.K H p ys)/\Q (.int ys.length) H):=by
 intro p9 s Y H xs us Q I r h;obtain ⟨p,ys,rfl,hq,q⟩:=h;obtain ⟨u,rfl,rx⟩:=vals1 r;cases rx;have hn:=iB;rcases hq with hq |hq
 .obtain ⟨its,r',pl,hz⟩:=I.list hq;have hlen:=r'.length;exact Calls.call_len_list pl.isList (by simp only[am] <;> omega) ⟨.int ys.length,H,I.tok _,⟨s.toks+1,by rw[am,hlen]⟩,q⟩
 .obtain ⟨its,r',pl,hz⟩:=I.tuple hq;have hlen:=r'.length;exact len_tuple pl (by simp only[am] <;> omega) ⟨.int ys.length,H,I.tok _,⟨s.toks+1,by rw[am,hlen]⟩,q⟩
theorem TQ:bh X (.builtin "len") (λxs H Q=>∃z,xs=[.str z]/\z.length<=sizeLine/\Q (.int z.length) H):=by intro p9 s Y H xs us Q I r h;obtain ⟨z,rfl,hz,q⟩:=h;obtain ⟨u,rfl,t,rfl⟩:=vals1 r;have hn:=iB;exact len_str (!0) ⟨.int z.length,H,I.tok _,⟨_,rfl⟩,q⟩
theorem Cd:bh X (.type "list") (λxs H Q=>∃p ys,xs=[.ref p]/\(SqL X.K H p ys\/SqT X.K H p ys)/\∀l,H l=none->Q (.ref l) (upd H l (.lst ys))):=by
 intro p9 s Y H xs us Q I r h;obtain ⟨p,ys,rfl,hq,q⟩:=h;obtain ⟨u,rfl,rx⟩:=vals1 r;cases rx;have fin:∀(its:AB),Vals ys its->ys.length<=sizeLine->∀(h':Heap)(c':Nat),(∀b o',s.heap.get? b=some o'->h'.get? b=some o')->
   h'.get? (~~~s)=some { cls:=.type "list",dict:=none,data:=.seq its.toArray c',slots:=#[] }->EP X p9 Y Q (.ref (~~~s)) { s with heap:=h' }:=λits r' hz h' c' kp e=>
  ⟨.ref (~~~s),_,I.laid (t':=s.toks) kp (ax _) (show ObjOk X.prog X.w _ h' _ (.lst ys) from ⟨hz,its,c',r',e⟩),rfl,q _ (I.hok.fresh (ax _))⟩
 rcases hq with hq |hq
 .obtain ⟨its,r',pl,hz⟩:=I.list hq;have hlen:=r'.length;obtain ⟨o,ho,hc,n,hd⟩:=pl.isList;exact call_list_seq p (.inl rfl) ho hc hd (λh' c' kp e=>fin its r' hz h' c' kp e) (by simp only[am] <;> omega)
 .obtain ⟨its,r',pl,hz⟩:=I.tuple hq;have hlen:=r'.length;obtain ⟨o,ho,hc,n,hd⟩:=pl;exact call_list_seq p (.inr rfl) ho hc hd (λh' c' kp e=>fin its r' hz h' c' kp e) (by simp only[am] <;> omega)
theorem Ce:bh X (.type "tuple") (λxs H Q=>∃p ys,xs=[.ref p]/\((SqL X.K H p ys/\∀l,H l=none->Q (.ref l) (upd H l (.tup ys)))\/(SqT X.K H p ys/\Q (.ref p) H))):=by
 intro p9 s Y H xs us Q I r h;obtain ⟨p,ys,rfl,h⟩:=h;obtain ⟨u,rfl,rx⟩:=vals1 r;cases rx;rcases h with ⟨hq,q⟩ |⟨hq,q⟩
 .obtain ⟨its,r',pl,hz⟩:=I.list hq;have hlen:=r'.length;refine call_tuple_list pl.isList (λh' kp=>?_) (by simp only[am] <;> omega);have I1:Inv X p9 Y H { s with heap:=h' }:=I.kept (t':=s.toks) kp;have I2:Inv X p9 Y (upd H h'.objs.size (.tup ys)) { s with heap:=h'.push { cls:=.type "tuple",data:=.seq its.toArray } }:=
   I1.laid (t':=s.toks) (λb o e=>ah _ e) (ax _) (show ObjOk X.prog X.w _ _ _ (.tup ys) from ⟨hz,its,r',IsTup.new _ _⟩)
  exact ⟨.ref h'.objs.size,_,I2,rfl,q _ (I1.hok.fresh (ax _))⟩
 .obtain ⟨its,r',pl,hz⟩:=I.tuple hq;exact call_tuple_same pl ⟨.ref p,H,I,rfl,q⟩
def tyV(K:PF)(T:AL)(x:V)(H:Hp):Prop:=match x with
 |.str _=>T="str"
 |.int _=>T="int"
 |.ref p=>(T="list"/\∃xs,SqL K H p xs)\/(T="tuple"/\∃o,K.lookup p=some o/\o.cls=.type "tuple"/\o.dict=none)\/
   (T="dict"/\((∃kvs,H p=some (.dK kvs))\/∃kvs,H p=some (.dT kvs)))\/(T="set"/\∃S n,H p=some (.set S n))
 |_=>False
theorem TV{p9:AC}{Y:St}{H:Hp}{s:AI}{T:AL}{x:V}{v:AN}(I:Inv X p9 Y H s)(r:RelV x v)(ty:tyV X.K T x H):
  s.TypeIs v T/\∀a,v=.ref a->∃ob,s.heap.get? a=some ob/\ob.dict=none:=by
 cases x with
 |str z=>
  obtain ⟨t,rfl⟩:=r;cases (show T="str" from ty);exact ⟨typeIs_str s z t,λ_ e=>nomatch e⟩
 |int i=>
  obtain ⟨t,rfl⟩:=r;cases (show T="int" from ty);exact ⟨typeIs_int s i t,λ_ e=>nomatch e⟩
 |ref p=>
  cases r;rcases ty with ⟨rfl,xs,hq⟩ |⟨rfl,o,hk,hc,hd⟩ |⟨rfl,hk⟩ |⟨rfl,S,n,hk⟩
  .obtain ⟨its,_,pl,_⟩:=I.list hq;refine ⟨pl.isList.typeIs,λa e=>?_⟩;cases e;obtain ⟨o,n,e,c,hd,_⟩:=pl;exact ⟨o,e,hd⟩
  .refine ⟨⟨o,I.kIn p o hk,hc⟩,λa e=>?_⟩;cases e;exact ⟨o,I.kIn _ o hk,hd⟩
  .have z:∃o,s.heap.get? p=some o/\o.ExactDict:=by
    rcases hk with ⟨kvs,hk⟩ |⟨kvs,hk⟩
    .obtain ⟨_,_,_,_,o,_,_,e,ex,_⟩:=I.hok p _ hk;exact ⟨o,e,ex⟩
    .obtain ⟨_,_,_,_,o,_,_,e,ex,_⟩:=I.hok p _ hk;exact ⟨o,e,ex⟩
   obtain ⟨o,e,ex⟩:=z;refine ⟨⟨o,e,ex.1⟩,λa e2=>?_⟩;cases e2;exact ⟨o,e,ex.2.1⟩
  .obtain ⟨o,_,_,_,e,ex,_⟩:=I.hok p _ hk;refine ⟨⟨o,e,ex.1⟩,λa e2=>?_⟩;cases e2;exact ⟨o,e,ex.2.1⟩
 |_=>exact False.elim ty
def tBM(K:PF)(T:AL)(r:V->AR->Hp->VK->Prop)(to:TE)(t:TA):TE:=λY H Q=>to Y H λx H1=>tyV K T x H1/\t Y H1 λxs H2=>r x xs H2 Q
variable {o e:AO} {es:AE} {to:TE} {t:TA} {name:Str} {apos cpos:Pos} {T id:AL} {r:V->AR->Hp->VK->Prop}
theorem jx (pa:PlainAttrs T) (slot:Slot T name id) (hty:typeOf (.builtin id)=pure (.type "method_descriptor")) (hm:MtR X id r) (ho:PE X o to) (ha:PA X (e::es) t)
  (hbase:attributeBase o name X.env (eval o X.env)=eval o X.env:=by rfl)
  (hfew:((backTo cpos (starEach (e::es) X.env)).all (λx=>!x.1)&&(backToKw cpos (keywordEach [] X.env)).all (λx=>x.1.isSome)
  &&decide ((e::es).length+([]:List Keyword).length+(if ([]:List Keyword).isEmpty then 0 else 1) < 30))=true:=by rfl)
  (hline:(apos.endLine==cpos.line)=true:=by rfl) (hs:starEach (e::es) X.env=(false,eval e X.env)::starEach es X.env:=by rfl) (hplain:(backTo cpos (starEach es X.env)).any (·.1)=false:=by rfl):
  PE X (.Call (.Attribute o name apos) (e::es) [] cpos) (tBM X.K T r to t):=by
 intro p9 s Y H Q I h;refine wpAny_Call_method_late hbase hfew hline rfl (thn (ho p9 s Y H _ I h) λv s1 ⟨x,H1,I1,r1,ty,q1⟩=>?_);obtain ⟨h1,h2⟩:=TV I1 r1 ty;refine ⟨T,id,pa,slot,hty,h1,h2,?_⟩;have hA:=ha cpos p9 s1 Y H1 _ I1 q1;rw[hs]at hA ⊢;refine Calls.callWith_builtin (by show (false||(backTo cpos (starEach es X.env)).any (·.1))=false;rw[hplain] <;> rfl) (Calls.evalArgs_plain ?_);exact thn hA λus s2 ⟨vs,H2,I2,r2,q2⟩=>hm p9 s2 Y H2 x vs v us Q I2 r1 r2 q2
end
def MtM(X:Cx)(id:AL)(r:V->AR->Hp->VK->Prop):Prop:=
 ∀(p9:AC)(s:AI)(Y:St)(H:Hp)(x:V)(xs:AR)(v:AN)(us:AB)(Q:VK),Inv X p9 Y H s->RelV x v->Vals xs us->r x xs H Q->
  ↥X (call (.builtin id) (v::us)) (EP X p9 Y Q) X.xe s
def Vals.one:∀{x:V}{us:AB},Vals [x] us->∃u,us=[u]/\RelV x u
 |_,_,.cons r .nil=>⟨_,rfl,r⟩
def Vals.eraseIdx:∀{xs:AR}{us:AB}(i:Nat),Vals xs us->Vals (xs.eraseIdx i) (us.eraseIdx i)
 |_,_,_,.nil=>.nil
 |_,_,0,.cons _ t=>t
 |_,_,i+1,.cons r t=>.cons r (Vals.eraseIdx i t)
def Vals.rep{xs:AR}{us:AB}(h:Vals xs us):∀k:Nat,Vals (List.replicate k xs).flatten (List.replicate k us).flatten
 |0=>.nil
 |k+1=>by
  rw[ck,ck,e6,e6];exact Vals.append h (Vals.rep h k)
def Cg{α:Type}:∀(l:List α)(i:Nat),(l.eraseIdx i).length<=l.length
 |[],_=>ax _
 |_::_,0=>fE _
 |_::r,i+1=>Nat.succ_le_succ (Cg r i)
def foldl_rep(its:AB):∀(k:Nat)(acc:AB),
  List.foldl (λx1 x2=>x1++x2) acc.toArray (List.replicate k its.toArray)=(acc++(List.replicate k its).flatten).toArray
 |0,acc=>by simp
 |k+1,acc=>by
  have e:acc.toArray++its.toArray=(acc++its).toArray:=by simp
  have e2:(acc++its)++(List.replicate k its).flatten=acc++(List.replicate (k+1) its).flatten:=by rw[ck,e6,List.append_assoc]
  rw[<-e2,<-foldl_rep its k (acc++its),<-e,ck,List.foldl_cons]
section
variable {X:Cx} {p9:AC} {σ:St} {H:Hp} {s:AI} {l b:AQ} {xs ys zs:AR}
theorem Inv.lset{its its':AB}{n:Nat}{f:Array AN->Array AN}{t':Nat}(I:Inv X p9 σ H s)(hH:H l=some (.lst xs))
  (e:s.heap.get? l=some { cls:=.type "list",data:=.seq its.toArray n }) (hf:f its.toArray=its'.toArray) (hv:Vals ys its') (hz:ys.length<=sizeLine):
  Inv X p9 σ (upd H l (.lst ys)) { s with heap:=s.heap.update l (Obj.mapSeq f),toks:=t' }:=by
 have q:=PySem.IsL.update e f;rw[hf]at q;refine I.write (x:=l) (e:=l) (by rw[hH];exact trivial) (.inl rfl) (λb' u hb hu=>(Heap.get?_update_other s.heap (Obj.mapSeq f) (Ne.symm hb)).trans hu) ⟨_,q⟩ ?_;exact ⟨hz,its',_,hv,q⟩
theorem Inv.lnew{its:AB}{t':Nat}(I:Inv X p9 σ H s)(hv:Vals ys its)(hz:ys.length<=sizeLine):
  Inv X p9 σ (upd H (~~~s) (.lst ys)) { s with heap:=s.heap.push { cls:=.type "list",data:=.seq its.toArray },toks:=t' }:=
 I.laid (λ_ _ q=>ah _ q) (ax _) ⟨hz,its,0,hv,aS _ rfl⟩
theorem Inv.fresh(I:Inv X p9 σ H s):H (~~~s)=none:=I.hok.fresh (ax _)
theorem Inv.lstM (I:Inv X p9 σ H s) (hH:H l=some (.lst xs)):xs.length<=sizeLine/\∃(its:AB) (n:Nat),Vals xs its/\xs.length=its.length/\s.heap.get? l=some { cls:=.type "list",data:=.seq its.toArray n }:=by obtain ⟨z,its,n,r,e⟩:=I.hok l _ hH;exact ⟨z,its,n,r,r.length,e⟩
theorem Ci{n:Nat}(h:n<=sizeLine):Builtin.List.listTooLong n=false:=by unfold Builtin.List.listTooLong;exact bB (!0)
end
section
variable {X:Cx}
def TY:V->AR->Hp->VK->Prop:=λx vs H Q=>∃l xs y,x=.ref l/\vs=[y]/\H l=some (.lst xs)/\xs.length < sizeLine/\Q .non (upd H l (.lst (xs++[y])))
theorem T3:MtM X "list.append" TY:=by intro p9 s Y H x vs v us Q I rx rv h;obtain ⟨l,xs,y,rfl,rfl,hH,hz,q⟩:=h;cases rx;obtain ⟨u,rfl,ru⟩:=rv.one;obtain ⟨z,its,n,r,hl,e⟩:=I.lstM hH;refine gL F.slot_list_append ⟨_,e,rfl⟩ F.entry_list_append (F.args_list_append_2 _ _) (PySem.list_append l its.toArray n u (by rw[am];omega)) ⟨e,?_⟩;refine ⟨.non,_,I.lset (its':=its++[u]) hH e (by simp) (r.append (.cons ru .nil)) ?_,rfl,q⟩;rw[aI,fk];omega
def T4:V->AR->Hp->VK->Prop:=λx vs H Q=>∃l b xs zs,x=.ref l/\vs=[.ref b]/\H l=some (.lst xs)/\H b=some (.lst zs)/\xs.length+zs.length<=sizeLine/\Q .non (upd H l (.lst (xs++zs)))
theorem T5:MtM X "list.extend" T4:=by
 intro p9 s Y H x vs v us Q I rx rv h;obtain ⟨l,b,xs,zs,rfl,rfl,hH,hB,hz,q⟩:=h;cases rx;obtain ⟨u,rfl,ru⟩:=rv.one;cases ru;obtain ⟨z,its,n,r,hl,e⟩:=I.lstM hH;obtain ⟨z2,its2,n2,r2,hl2,e2⟩:=I.lstM hB;have hsz:its.toArray.size+its2.toArray.size<=sizeLine:=by rw[am,am];omega
 have hlong:¬(!its.toArray.isEmpty&&Builtin.List.listTooLong (its.toArray.size+its2.toArray.size))=true:=by rw[Ci hsz,fh];exact bP
 refine gL F.slot_list_extend ⟨_,e,rfl⟩ F.entry_list_extend (F.args_list_extend_2 _ _)
  (AutoSeq1.list_extend_list_list_0 l its.toArray n b its2.toArray n2 hlong (by rw[am];omega) (!0)) ⟨e,e2,?_⟩
 refine ⟨.non,_,I.lset (its':=its++its2) hH e (by simp) (r.append r2) ?_,rfl,q⟩;rw[aI];omega
def T6:V->AR->Hp->VK->Prop:=λx vs H Q=>∃l xs i k y,x=.ref l/\vs=[.int i]/\H l=some (.lst xs)/\-(2 ^ 63)<=i/\i < 2 ^ 63/\seqIndex? i xs.length=some k/\xs[k]?=some y/\Q y (upd H l (.lst (xs.eraseIdx k)))
theorem T7:MtM X "list.pop" T6:=by
 intro p9 s Y H x vs v us Q I rx rv h;obtain ⟨l,xs,i,k,y,rfl,rfl,hH,h1,h2,hk,hy,q⟩:=h;cases rx;obtain ⟨u,rfl,ru⟩:=rv.one;obtain ⟨t,rfl⟩:=ru;obtain ⟨z,its,n,r,hl,e⟩:=I.lstM hH;obtain ⟨w,hw,rw'⟩:=r.get hy;refine gL F.slot_list_pop ⟨_,e,rfl⟩ F.entry_list_pop (F.args_list_pop_2 _ _)
  (MeetsSeq.list_pop_at l its.toArray n i t k w (fitsIndex_both h1 h2) (by rw[am,<-hl];exact hk) (by rw[<-eP];exact hw) (by rw[am];omega)) ⟨e,?_⟩
 refine ⟨y,_,I.lset (its':=its.eraseIdx k) hH e ?_ (r.eraseIdx k) ?_,rw',q⟩
 .show its.toArray.eraseIdxIfInBounds k=(its.eraseIdx k).toArray;rw[List.eraseIdxIfInBounds_toArray]
 .have:=Cg xs k;omega
theorem len_rep{α:Type}(xs:List α)(k:Nat):(List.replicate k xs).flatten.length=k * xs.length:=by
 induction k with
 |zero=>simp
 |succ k ih=>rw[ck,e6,aI,ih,Nat.succ_mul,Nat.add_comm]
end
end L2
namespace Att
open PySem PySem.W PySem.Calls PyProof.Rows
def T8{P:Params}{h:Heap}:∀(ns:List Int)(vs:AB),WellAll P h vs (ns.map WData.int)->IntsAre vs ns:=by
 intro ns;induction ns with
 |nil=>
  intro vs w;rw[List.map_nil]at w;cases w;exact .nil
 |cons n ns ih=>
  intro vs w;rw[List.map_cons]at w;cases w with
  |cons a b=>
   cases a;exact .cons _ _ (ih _ b)
def T9{l:OpenLaw}{n:Nat}(hn:l.most=some n){P:Params}{h:Heap}{args:List WData}{vals:AB}
  (hpre:l.row.toRowW.claim.pre args=true) (hwl:WellAll P h vals args):
  ∃a vs ns,vals=[Value.ref a]/\args=[WData.list (ns.map WData.int)]/\h.get? a=some { cls:=.type "list",data:=.seq vs.toArray }/\IntsAre vs ns/\ns.length<=n:=by
 have hsh:WShape.hasAll [] args [.list .int]=true:=(pre_splitW hpre).1;have hc:l.pre.holds [] { args:=args }=true:=(pre_splitW hpre).2;obtain ⟨d,r,rfl,h1,h2⟩:=hasAllW_cons hsh;obtain rfl:=hasAllW_nil h2;obtain ⟨xs,rfl,h3⟩:=hasW_list h1;obtain ⟨ns,rfl⟩:=items_int h3;have hlen:ns.length<=n:=by
  unfold OpenLaw.pre at hc;have h4:(WTm.not (.lt (.lit (.int (n:Int))) (.len (.arg 0)))).holds [] { args:=[.list (ns.map .int)] }=true:=by have h4:=(holds_andW hc).1;rw[hn]at h4;exact h4
  have h5:=condW_of h4 (w_not (w_lt w_lit (w_len_list (w_arg rfl))));rw[List.length_map]at h5;refine Nat.le_of_not_lt λq=>?_;have q':(n:Int) < ((ns.length:Nat):Int):=by omega
  first
   | (rw[decide_eq_true q']at h5;exact absurd h5 (!1))
   | (simp at h5;omega)
 cases hwl with
 |cons w1 w2=>
  cases w2;cases w1 with
  |list ho hall=>exact ⟨_,_,ns,rfl,rfl,ho,T8 ns _ hall,hlen⟩
def Ua(l:OpenLaw)(args:List WData):l.row.toRowW.claim.post args (.bool true) args=true:=
 postW_of (r:=l.row.toRowW) (X:=(true==true))
  (show WShape.has [] (.bool true) .bool=true by first |rfl |decide |simp[WShape.has,WShape.arms,WShape.armsAll])
  (show (WTm.eq .res (.lit (.bool true))).value [] { args:=args,res:=some (.bool true),after:=args }=some (.bool (true==true)) from w_eq_bool (w_res rfl) w_lit) rfl
def attach_call{l:OpenLaw}{n:Nat}{q:AK}{loose:AD}{XP:(AH)->Heap->Prop}{YP:World->Heap->Prop}{d:DefRec}
  (hn:l.most=some n) (hdf:d.params.defaults=[])
  (call:∀(w:World)(s₀ s₁:AI)(mg mb:AH)(fa:AQ)(o:Obj)(pm cd doc:AN)(a:AQ)(vs:AB)(ns:List Int),
   Ground q loose [] XP w s₀ mg mb s₁.heap->YP w s₁.heap->
   s₁.heap.get? fa=some o->o.data=.func (docDef d.name d.params d.body d.scope pm cd doc)->s₁.heap.CodeRec cd d.name->mg d.name=some (.ref fa)->
   s₁.heap.get? a=some { cls:=.type "list",data:=.seq vs.toArray }->IntsAre vs ns->ns.length<=n->s₁.gens=#[]->
   codeAny (model l.prog w) callerA (.call (.ref fa) ⟨[.ref a],[]⟩) (λr s'=>r=.ok (.ret (.bool true))/\OldK s₁.heap s'.heap/\s'.os=s₁.os/\AllBare s'.gens) s₁):
  WalkO q loose XP YP l.row.toRowW d [] (λf vs=>PySem.call f vs):=by
 intro w s₀ s₁ mg mb G Y fa o pm cd doc dV kV ho hd hcd hD hmg hg args vals as hpre hlay hrd hwl hlo;obtain rfl:dV=.none:=Dflts.none hD hdf;obtain rfl:kV=.none:=Dflts.noKw hD;obtain ⟨a,vs,ns,rfl,rfl,hobj,hints,hlen⟩:=T9 hn hpre hwl;refine enter_call (codeAny_mono (call w s₀ s₁ mg mb fa o pm cd doc a vs ns G Y ho (fd_plain hd) hcd hmg hobj hints hlen hg) λr s' hq=>?_);obtain ⟨rfl,h2,h3,h4⟩:=hq;exact ⟨.inl ⟨.bool true,.bool true,[],rfl,λ_=>rfl,.bool true,Ua l _,λ_=>⟨List.Pairwise.nil,λ_ hm=>(nomatch hm)⟩⟩,h2,h3,h4⟩
end Att
namespace L2
open PySem PySem.Spec PyProof.Rows
def vq:∀{vs:AB}{ns:List Int},IntsAre vs ns->Vals (ns.map V.int) vs
 |_,_,.nil=>.nil
 |_,_,.cons n t h=>.cons ⟨t,rfl⟩ (vq h)
def Only(H:Hp):Prop:=∀b,H b=none\/∃o xs,H b=some (.frz o (.lst xs))
def Ub{P:AK}{w:World}{K:PF}{mg mb:AH}{CX:CXT}{k:Nat}{fa a:AQ}{fd:AJ}{x:Str}{sp:Sp}{s₁:AI}{vs:AB}{ns:List Int}
  (KX:K.In s₁.heap) (hns:s₁.heap.Ns mainGlobals mg) (hb:s₁.heap.Ns builtinsNs mb) (hbb:∀x:Str,x≠"__name__"->mb x=bootBuiltins x) (hlim:s₁.heap.NoLimit) (hg:s₁.gens=#[])
  (ha:s₁.heap.get? a=some { cls:=.type "list",data:=.seq vs.toArray }) (hi:IntsAre vs ns) (hl:ns.length<=sizeLine) (hr:Room k callerA)
  (F:∀base:Heap,K.In base->base.Ns mainGlobals mg->FnOk P w K mg base CX k fa fd [x] sp) (hbind:∀(s:AI)(u:AN),BindsTo s fd ⟨[u],[]⟩ [(x,u)])
  (hsp:∀H:Hp,Only H->SqL K H a (ns.map V.int)->sp [.ref a] H (λv _=>v=.bl true) λ_ _ _=>False)
  (hCX:∀H e s',CX [] H s₁ (λ_ _ _=>False) e s'->False):
  codeAny (model P w) callerA (.call (.ref fa) ⟨[.ref a],[]⟩) (λr s'=>r=.ok (.ret (.bool true))/\OldK s₁.heap s'.heap/\s'.os=s₁.os/\AllBare s'.gens) s₁:=by
 have rv:=vq hi;have lenV:=hi.length
 -- from an abstract heap in which nothing but the script may be tracked
 have core:∀H:Hp,Only H->SqL K H a (ns.map V.int)->HOk P w H s₁.heap->(∀b,H b≠none->b=a)->(H a≠none->K.lookup a=none)->
   codeAny (model P w) callerA (.call (.ref fa) ⟨[.ref a],[]⟩) (λr s'=>r=.ok (.ret (.bool true))/\OldK s₁.heap s'.heap/\s'.os=s₁.os/\AllBare s'.gens) s₁:=by
  intro H hO hS hok hA hK;have base_of:∀{b:AQ}{o:Obj},s₁.heap.get? b=some o->H b=none->(fP s₁.heap H).get? b=some o:=λe n=>Qo e n;have noA:∀{b:AQ}{o:Obj}{es:Array DictEntry}{ep:Nat},s₁.heap.get? b=some o->o.data=.dict es ep->H b=none:=λ{b o es ep} e d=>by
   cases q:H b with
   |none=>rfl
   |some u=>
    have e':b=a:=hA b (by rw[q];simp);subst e';rw[ha]at e;cases e;have d':Data.seq vs.toArray _=Data.dict es ep:=d;cases d'
  have nsK:∀{b:AQ}{m:AH},s₁.heap.Ns b m->(fP s₁.heap H).Ns b m:=λ{b m} ⟨o,es,ep,e,d,r⟩=>⟨o,es,ep,base_of e (noA e d),d,r⟩;have hKb:K.In (fP s₁.heap H):=λb o e=>base_of (KX b o e) (by
   cases q:H b with
   |none=>rfl
   |some u=>
    have e':b=a:=hA b (by rw[q];simp);subst e';rw[hK (by rw[q];simp)]at e;cases e)
  have hM:Mod K mg (fP s₁.heap H):=⟨hKb,nsK hns,⟨mb,nsK hb,hbb⟩,let ⟨mc,h1,h2⟩:=hlim;⟨mc,nsK h1,h2⟩⟩;have e0:Env0 P w K mg (fP s₁.heap H) callerA [] s₁ H:=⟨rfl,hM,λb o e=>Qp e,Nat.le_of_eq (Qn _ _),trivial,λb hb=>absurd (show b∈([]:List AQ) from hb) (by simp),hok,.of_eq hg⟩;refine codeAny_mono ((F _ hKb (nsK hns)).run callerA [] s₁ H ⟨[.ref a],[]⟩ [.ref a] [.ref a] _ _ hr e0 (hbind s₁ (.ref a)) (.cons rfl .nil) (hsp H hO hS)) λr s' h=>?_;cases r with
  |error e=>exact (hCX H e s' h).elim
  |ok fl=>
   cases fl with
   |next=>exact False.elim h
   |brk=>exact False.elim h
   |cont=>exact False.elim h
   |ret u=>
    obtain ⟨v,H',os,bare,un,hok',r',q⟩:=h;have q':v=.bl true:=q;subst q';obtain rfl:u=Value.bool true:=r';refine ⟨rfl,OldK.of_keep λb o e=>?_,os,bare⟩;cases q:H b with
    |none=>exact un.keep b o e q (by intro z;exact absurd (show b∈([]:List AQ) from z) (by simp)) (by simp)
    |some u=>
     rcases hO b with z |⟨ob,xs,z⟩
     .rw[q]at z;cases z
     .have z2:=un.frzs b ob _ z;obtain ⟨e1,_⟩:=hok b _ z;obtain ⟨e2,_⟩:=hok' b _ z2;rw[e]at e1;cases e1;exact e2
 cases hk:K.lookup a with
 |some o=>
  -- the script is one of the module's own objects
  have e:=KX a o hk;rw[ha]at e;cases e;refine core (λ_=>none) (λ_=>.inl rfl) (.inr ⟨_,vs.toArray,_,hk,rfl,rfl,rfl,by rw[am,lenV];exact hl,!!rv⟩) (λb u z=>by have z':(none:Option HO)=some u:=z;cases z') (λb z=>absurd rfl z) λz=>absurd rfl z
 |none=>
  refine core (λb=>if b=a then some (.frz { cls:=.type "list",data:=.seq vs.toArray } (.lst (ns.map V.int))) else none) (λb=>?_) (.inl (.inr ⟨{ cls:=.type "list",data:=.seq vs.toArray },if_pos rfl⟩)) (λb u z=>?_) (λb z=>?_) λ_=>hk
  .by_cases hb:b=a
   .exact .inr ⟨_,_,if_pos hb⟩
   .exact .inl (if_neg hb)
  .by_cases hb:b=a
   .have z':=(if_pos hb).symm.trans z;cases z';subst hb;exact ⟨ha,by rw[ag];exact hl,vs,_,rv,ha⟩
   .have z':=(if_neg hb).symm.trans z;cases z'
  .by_cases hb:b=a
   .exact hb
   .exact absurd (if_neg hb) z
def Uc{l:PySem.W.OpenLaw}{n k:Nat}{q:AK}{loose:AD}{XP:(AH)->Heap->Prop}{YP:World->Heap->Prop}{d:DefRec}{K:Params->PF}{CX:World->CXT}{sp:World->Sp}{x:Str}
  (hn:l.most=some n) (hn2:n<=sizeLine) (hdf:d.params.defaults=[]) (hr:Room k callerA)
  (hY:∀(w:World)(h:Heap),YP w h->(K w.params).In h)
  (F:∀(w:World)(mg:AH)(fa:AQ)(h:Heap),(K w.params).In h->h.Ns mainGlobals mg->mg d.name=some (.ref fa)->
   ∃fd:AJ,(∀(s:AI)(u:AN),BindsTo s fd ⟨[u],[]⟩ [(x,u)])/\
    ∀base:Heap,(K w.params).In base->base.Ns mainGlobals mg->FnOk l.prog w (K w.params) mg base (CX w) k fa fd [x] (sp w))
  (hsp:∀(w:World)(H:Hp)(a:AQ)(ns:List Int),ns.length<=n->Only H->SqL (K w.params) H a (ns.map V.int)->sp w [.ref a] H (λv _=>v=.bl true) λ_ _ _=>False)
  (hCX:∀(w:World)(H:Hp)(s:AI)(e:AN)(s':AI),CX w [] H s (λ_ _ _=>False) e s'->False):
  PySem.W.WalkO q loose XP YP l.row.toRowW d [] (λf vs=>PySem.call f vs):=by
 refine Att.attach_call hn hdf λw s₀ s₁ mg mb fa o pm cd doc a vs ns G Y ho hd hcd hmg hobj hints hlen hg=>?_;have KX:=hY w _ Y;obtain ⟨fd,hb,hF⟩:=F w mg fa _ KX G.T.g hmg;exact Ub KX G.T.g G.T.b G.T.builtins G.T.nolimit hg hobj hints (ce hlen hn2) hr hF hb (λH hO hS=>hsp w H a ns hlen hO hS) λH e s'=>hCX w H s₁ e s'
def lH(s:Stmt):Arguments:=match s with
 |.FunctionDef _ a _ _ _ _ _ _ _ _=>a
 |_=>{ posonlyargs:=[],args:=[],vararg:=none,kwonlyargs:=[],kw_defaults:=[],kwarg:=none,defaults:=[] }
def aD(s:Stmt):AF:=match s with
 |.FunctionDef _ _ b _ _ _ _ _ _ _=>b
 |_=>[]
def ao(s:Stmt):Scope:=match s with
 |.FunctionDef _ _ _ _ _ _ sc _ _ _=>sc
 |_=>{ kind:=.function,names:=[],isGenerator:=false,isCoroutine:=false }
abbrev CX0:CXT:=λ_ _ _ _ _ _=>False
structure Fun(K:PF)(x qual:Str)(st:Stmt)(f:AQ)(fd:AJ):Prop where
 ex:∃(oc:AN)(od:Option AQ)(kV doc pm:AN)(an:Option AQ)(cdv ct:AN)(osl:Array (Option AN)),
  fd=PySem.W.fnOf x qual (lH st) (aD st) (ao st) .none kV doc pm an cdv ct/\K.lookup f=some ⟨oc,od,.func fd,osl⟩/\PySem.W.codeIn K cdv qual=true
 kp:PySem.W.keepIn K (.ref f)=true
section
variable {P:AK} {w:World} {K:PF} {mg:AH} {base:Heap}
theorem Fun.binds{x qual:Str}{st:Stmt}{f:AQ}{fd:AJ}{ps:AD}(F:Fun K x qual st f fd)
  (h:∀(kV doc pm:AN)(an:Option AQ)(cdv ct:AN)(us:AB),us.length=ps.length->bindArgs (PySem.W.fnOf x qual (lH st) (aD st) (ao st) .none kV doc pm an cdv ct) ⟨us,[]⟩=pure (ps.zip us)):Binds K fd ps []:=by
 obtain ⟨oc,od,kV,doc,pm,an,cdv,ct,osl,rfl,lk,hcd⟩:=F.ex;exact .all (h kV doc pm an cdv ct)
theorem Ud{x qual:Str}{st:Stmt}{f:AQ}{oc:AN}{od an:Option AQ}{osl:Array (Option AN)}{kV doc pm cdv ct:AN}(l:K.lookup f=some ⟨oc,od,.func (PySem.W.fnOf x qual (lH st) (aD st) (ao st) .none kV doc pm an cdv ct),osl⟩)
  (c:PySem.W.codeIn K cdv qual=true) (k:PySem.W.keepIn K (.ref f)=true):Fun K x qual st f (PySem.W.fnOf x qual (lH st) (aD st) (ao st) .none kV doc pm an cdv ct):=⟨⟨oc,od,kV,doc,pm,an,cdv,ct,osl,rfl,l,c⟩,k⟩
end
section
variable {X:Cx}
theorem pv (i:Nat) {x:Str} {pos:Pos} (hN:X.N[i]?=some x:=by rfl) (hv:Vis X.env.scope x:=by first |exact Or.inl rfl |exact Or.inr (Or.inl rfl) |exact Or.inr (Or.inr rfl)) (hd:(x==("__debug__":Str))=false:=by decide)
  (hcd:(x==("__classdict__":Str))=false:=by decide):PE X (.Name x pos) (Ax i):=vf hN hv hd hcd
end
end L2
set_option maxHeartbeats 4000000
namespace L2
open PySem PySem.Spec PyProof.Rows
section
variable {X:Cx} {p9:AC} {σ:St} {H:Hp} {s:AI} {h':Heap}
theorem Inv.turnedL{t':Nat}{ch:List AQ}(I:Inv X p9 σ H s)(hf:∀b∈ch,dI X p9 H b)(k:∀b o,b∉ch->s.heap.get? b=some o->h'.get? b=some o):
  Inv X p9 σ H { s with heap:=h',toks:=t' }:=by
 have nit:∀b u,H b=some u->b∉ch:=λb u e z=>by
  have q:=(hf b z).1;rw[q]at e;cases e
 refine I.step (g':=s.gens) (d':=s.drawn) (ch:=ch) (λb hb=>?_) (λb o _ _ hc e _=>k b o hc e) (λb o _ _ hc e _=>⟨o.slots,k b o hc e⟩) (λ_ _ _ _ n=>n)
  (λb o hc e=>⟨o,k b o hc e⟩) (λ_ _ e=>e) (λ_ _ _ e=>e) (λb ps e=>⟨#[],by rw[e];simp⟩) (λm hm=>?_) (λb u e=>?_) I.bare
 .obtain ⟨_,f1,_,f3,f4,f5⟩:=hf b hb;exact ⟨f3,f1,f4,f5⟩
 .obtain ⟨o,es,ep,ho,r⟩:=hm;exact ⟨o,es,ep,k _ o (λz=>(hf _ z).2.1 rfl) ho,r⟩
 .refine (I.hok b u e).stay (λc v hc q=>k c v ?_ q) (λ_ q=>q) λ_ _ q=>q;rcases hc with z |z
  .rw[z];exact nit b u e
  .exact nit c _ z
theorem Inv.track{T:AQ}{o:HO}(I:Inv X p9 σ H s)(hT:dI X p9 H T)(new:ObjOk X.prog X.w (upd H T o) s.heap T o):Inv X p9 σ (upd H T o) s:=by
 have hn:=hT.1;have hok:HOk X.prog X.w (upd H T o) s.heap:=λb u e=>by
  by_cases hb:b=T
  .subst hb;rw[cY]at e;cases e;exact new
  .rw[aF hb]at e;exact (I.hok b u e).stay (λc v _ q=>q) (λc q=>by rw[aF (aZ q hn)];exact q) λc xs q=>by rw[aF (aZ q hn)];exact q
 obtain ⟨hp,g,d,tk,os⟩:=s;refine I.step (h':=hp) (g':=g) (d':=d) (t':=tk) (ch:=[T]) (λb hb=>?_) (λb o _ _ _ e _=>e) (λb o _ _ _ e _=>⟨o.slots,e⟩) (λb u hc _ n=>?_)
  (λb o _ e=>⟨o,e⟩) (λb xs e=>by rw[aF (aZ e hn)];exact e) (λb u v e=>by rw[aF (aZ e hn)];exact e) (λb ps e=>⟨#[],by rw[aF (aZ e hn),e];simp⟩) (λm hm=>hm) hok I.bare
 .have e:b=T:=by simpa using hb
  subst e;obtain ⟨_,f1,_,f3,f4,f5⟩:=hT;exact ⟨f3,f1,f4,f5⟩
 .rw[aF (!!hc)];exact n
end
def Its(x:Str):It:=⟨λi _=>i < x.cps.size,λi H v H'=>H'=H/\∃c,x.cps[i]?=some c/\v=.str ⟨#[c]⟩,λi _=>i=x.cps.size⟩
def Cj{prog:AK}{w:World}{A:AM}(hh:A.handled=none)(I:AQ)(x:Str)(t:Tok):
  Walks prog w A I [I] [I] x.cps.size (SignAt x) (λi h=>h.IsStrIter I (strIterType x) x t i):=by
 unfold strIterType;split
 .exact Walks.strAscii hh I x t
 .exact Walks.strWide hh I x t
def vy{P:AK}{w:World}{K:PF}{tg:AO}(it:AQ)(x:Str)(t:Tok):Turn P w K tg (Its x) [it] it (λi h=>h.IsStrIter it (strIterType x) x t i) where
 mem:=by simp
 obj:=λi h st b hb=>by
  have e:b=it:=by simpa using hb
  subst e;obtain ⟨o,e,c,d⟩:=st;exact ⟨o,e,λv z=>by rw[d]at z;cases z⟩
 keep:=λi h h' st k=>let ⟨o,ho,r⟩:=st;⟨o,k it (by simp) o ho,r⟩
 item:=by intro X hP hw hK hc i p9 s Y H E I hf st hg;subst hP hw hK;obtain ⟨f0,f1,f2,f3,f4,f5⟩:=hf it (by simp);have W:=Cj (prog:=X.prog) (w:=X.w) (I.ok.hd hc) it x t;refine W.item i s _ _ hg st λv h' tk hv st' kk=>?_;obtain ⟨c,u,e,rfl⟩:=hv;have I1:Inv X p9 Y H { s with heap:=h',toks:=tk }:=I.turned (λb o hb e=>kk b o (!!hb) e) f0 f1 f3 f4 f5;obtain ⟨o,eo,cc,d⟩:=id st';exact ⟨_,rfl,qM (s:={ s with heap:=h',toks:=tk }) (n:=strIterType x) eo cc d (by unfold strIterType;split <;> decide) ⟨.str ⟨#[c]⟩,H,I1,⟨u,rfl⟩,⟨rfl,c,e,rfl⟩,st',λb hb=>(hf b hb).1⟩⟩
 done:=by intro X hP hw hK hc i p9 s Y H E I hf st hg;subst hP hw hK;obtain ⟨f0,f1,f2,f3,f4,f5⟩:=hf it (by simp);have W:=Cj (prog:=X.prog) (w:=X.w) (I.ok.hd hc) it x t;have hg':i=x.cps.size:=hg;subst hg';exact W.done s _ _ st λh' tk kk=>⟨rfl,I.turned (λb o hb e=>kk b o (!!hb) e) f0 f1 f3 f4 f5⟩
 self:=λA i s Q E st h=>by
  unfold strIterType at st;split at st
  .exact wpAny_pyIter_striter_ascii st h
  .exact wpAny_pyIter_striter_wide st h
def b8(env:Env):List (Str×NameKind)->List (Str×AQ)->List (Str×AQ)
 |[],cs=>cs
 | (n,k)::r,cs=>b8 env r (if (k==.free)=true then (match env.cells.lookup n with |some c=>(n,c)::cs |none=>cs) else cs)
def Ck{env:Env}:∀{l:List (Str×NameKind)}{cs:List (Str×AQ)},(∀x c,cs.lookup x=some c->env.cells.lookup x=some c)->∀x c,(b8 env l cs).lookup x=some c->env.cells.lookup x=some c
 |[],_,h,x,c,e=>h x c e
 | (n,k)::r,cs,h,x,c,e=>by
  refine Ck (l:=r) (cs:=_) ?_ x c e;intro y d q;by_cases hk:(k==NameKind.free)=true
  .rw[if_pos hk]at q;cases hn:env.cells.lookup n with
   |none=>rw[hn]at q;exact h y d q
   |some c'=>
    rw[hn]at q;simp only[List.lookup_cons]at q;cases hy:y==n with
    |true=>
     rw[hy]at q;have e1:y=n:=eq_of_beq hy;rw[e1,hn];exact q
    |false=>rw[hy]at q;exact h y d q
  .rw[if_neg hk]at q;exact h y d q
def Cm{env:Env}{x:Str}:∀{l:List (Str×NameKind)}{cs:List (Str×AQ)},(cs.lookup x).isSome=true->((b8 env l cs).lookup x).isSome=true
 |[],_,h=>h
 | (n,k)::r,cs,h=>by
  refine Cm (l:=r) (cs:=_) ?_;by_cases hk:(k==NameKind.free)=true
  .rw[if_pos hk];cases hn:env.cells.lookup n with
   |none=>exact h
   |some c'=>
    simp only[List.lookup_cons];cases hy:x==n with
    |true=>rfl
    |false=>exact h
  .rw[if_neg hk];exact h
def Cp{env:Env}{x:Str}(hx:(env.cells.lookup x).isSome=true):∀{l:List (Str×NameKind)}{cs:List (Str×AQ)},(x,NameKind.free)∈l->((b8 env l cs).lookup x).isSome=true
 | (n,k)::r,cs,h=>by
  rcases a7.mp h with e |h
  .cases e;refine Cm (l:=r) (cs:=_) ?_;rw[if_pos (show (NameKind.free==NameKind.free)=true by decide)];obtain ⟨c,hc⟩:=cq.mp hx;rw[hc];simp
  .exact Cp hx (l:=r) h
def qR{scope:Scope}{env:Env}(h:∀y∈scope.names,y.2=NameKind.free->(env.cells.lookup y.1).isSome=true):closureFor scope env=pure (b8 env scope.names []):=by
 simp only[closureFor];generalize ([]:List (Str×AQ))=cs;generalize scope.names=l at h;induction l generalizing cs with
 |nil=>rfl
 |cons y r ih=>
  obtain ⟨n,k⟩:=y;have ih':=λcs=>ih cs λy hy=>h y (bv _ hy);rw[List.forIn_cons];by_cases hk:(k==NameKind.free)=true
  .have hk':k=NameKind.free:=eq_of_beq hk;obtain ⟨c,hc⟩:=cq.mp (h (n,k) bp hk');have e1:b8 env ((n,k)::r) cs=b8 env r ((n,c)::cs):=by
    rw[b8,if_pos hk];show b8 env r (match env.cells.lookup n with |some c=>(n,c)::cs |none=>cs)=_;have hc':env.cells.lookup n=some c:=hc;rw[hc']
   have e2:cellOf env n=pure c:=by unfold cellOf;have hc':env.cells.lookup n=some c:=hc;rw[hc']
   rw[e1,<-ih' ((n,c)::cs)];simp only[hk,if_true,e2];rfl
  .have e1:b8 env ((n,k)::r) cs=b8 env r cs:=by rw[b8,if_neg hk]
   rw[e1,<-ih' cs];simp only[hk,fb];rfl
def vz{env:Env}{x:Str}:∀{names:List (Str×NameKind)},
  (names.map λ(n,k)=>if (k==NameKind.free&&env.scope.kind==.function&&env.kindOf n==some .cell) then (n,NameKind.cell) else (n,k)).lookup x=
   (names.lookup x).map λk=>if (k==NameKind.free&&env.scope.kind==.function&&env.kindOf x==some .cell)=true then NameKind.cell else k
 |[]=>rfl
 | (n,k)::r=>by
  have ih:=@vz env x r;rw[a9];have hh:∀(c:Prop)[Decidable c],(if c then (n,NameKind.cell) else (n,k))=(n,if c then NameKind.cell else k):=λc _=>by split <;> rfl
  show List.lookup x ((if (k==NameKind.free&&env.scope.kind==.function&&env.kindOf n==some .cell)=true then (n,NameKind.cell) else (n,k))::_)=_;rw[hh];simp only[List.lookup_cons];cases hx:x==n with
  |true=>
   have e1:x=n:=eq_of_beq hx;subst e1;rfl
  |false=>exact ih
abbrev Cx.comp(X:Cx)(N':AD)(scope:Scope)(cl:List (Str×AQ))(C:AQ)(s₁:AI)(H₁:Hp)(fp:List AQ)(pn:AC):Cx where
 prog:=X.prog
 w:=X.w
 K:=X.K
 mg:=X.mg
 base:=X.base
 A:=X.A
 N:=N'
 s₀:=s₁
 H₀:=H₁
 env:=compEnvC scope cl C X.env
 outer:=X.stack
 stack:=X.stack
 ex:=fp
 fn:=λ_=>false
 calm:=X.calm
 pn:=pn
 xe:=λ_ _=>False
def PIf(X:Cx)(ifs:AE)(t:TT):Prop:=
 ∀(p9:AC)(s:AI)(Y:St)(H:Hp)(Q:Bool->Hp->Prop),Inv X p9 Y H s->t Y H Q->
  ↥X (forIn ifs true λc r=>if r=true then do let ok <-isTrue c X.env (eval c X.env);pure (ForInStep.yield ok) else pure (ForInStep.yield r)) (TP X p9 Y Q) X.xe s
def Ue:TT:=λ_ H Q=>Q true H
def Ug{X:Cx}:PIf X [] Ue:=λ_ _ _ H _ I h=>wpAny_tests_nil ⟨H,I,h⟩
def Uh{X:Cx}{c:AO}{t:TT}(h:PT X c t):PIf X [c] t:=λp9 s Y H Q I q=>wpAny_tests_one (h p9 s Y H Q I q)
def dX(cap:List (Option Nat))(Y:St):St:=cap.map λo=>match o with |none=>none |some j=>(Y[j]?).join
def Caps(X:Cx)(scope:Scope):AD->List (Option Nat)->Prop
 |[],[]=>True
 |_::N',none::cap=>Caps X scope N' cap
 |x::N',some j::cap=>(X.N[j]?=some x/\scope.names.lookup x=some NameKind.free)/\Caps X scope N' cap
 |_,_=>False
def Caps.len{X:Cx}{scope:Scope}:∀{N':AD}{cap:List (Option Nat)},Caps X scope N' cap->cap.length=N'.length
 |[],[],_=>rfl
 |_::N',none::cap,h=>by
  have:=Caps.len (N':=N') (cap:=cap) h;simp[this]
 |_::N',some _::cap,h=>by
  have:=Caps.len (N':=N') (cap:=cap) h.2;simp[this]
 |[],_::_,h=>False.elim h
 |_::_,[],h=>False.elim h
def Caps.at{X:Cx}{scope:Scope}:∀{N':AD}{cap:List (Option Nat)}{i:Nat}{x:Str}{v:V}{Y:St},Caps X scope N' cap->N'[i]?=some x->(dX cap Y)[i]?=some (some v)->
  ∃j:Nat,X.N[j]?=some x/\scope.names.lookup x=some NameKind.free/\Y[j]?=some (some v)
 |[],[],i,x,v,Y,_,e,_=>by simp at e
 |y::N',none::cap,0,x,v,Y,h,e,q=>by simp[dX]at q
 |y::N',some j::cap,0,x,v,Y,h,e,q=>by
  have e1:y=x:=by simpa using e
  subst e1;have q1:(Y[j]?).join=some v:=by simpa [dX] using q
  refine ⟨j,h.1.1,h.1.2,?_⟩;cases z:Y[j]? with
  |none=>rw[z]at q1;cases q1
  |some o=>rw[z]at q1;exact eK some q1
 |y::N',none::cap,i+1,x,v,Y,h,e,q=>Caps.at (N':=N') (cap:=cap) (i:=i) h (!!e) (by simpa [dX] using q)
 |y::N',some _::cap,i+1,x,v,Y,h,e,q=>Caps.at (N':=N') (cap:=cap) (i:=i) h.2 (!!e) (by simpa [dX] using q)
 |[],_::_,_,_,_,_,h,_,_=>False.elim h
 |_::_,[],_,_,_,_,h,_,_=>False.elim h
abbrev tx(l:AA):Str:=⟨l.toArray⟩
def bV(l:AA):(tx l).length=l.length:=by simp[Str.length]
def qT(a b:AA):tx a++tx b=tx (a++b):=by show (⟨a.toArray++b.toArray⟩:Str)=⟨(a++b).toArray⟩;simp
def Cq{a b:AA}(h:tx a=tx b):a=b:=by have:=eK (λx:Str=>x.cps.toList) h;simpa using this
def qU(x:Str):x=tx x.cps.toList:=by cases x;simp
section
variable {X:Cx}
theorem Cr:∀{ys:AD}{us:AB},Vals (ys.map V.str) us->StrsAre us ys
 |[],us,r=>by
  rw[fS]at r;cases r;exact .nil
 |y::ys,us,r=>by
  rw[a9]at r;cases r with
  |cons r1 r2=>
   obtain ⟨t,e⟩:=r1;subst e;exact .cons y t (Cr r2)
def rJoin(K:PF):V->AR->Hp->VK->Prop:=λx vs H Q=>∃z p ys,x=.str z/\vs=[.ref p]/\SqL K H p (ys.map V.str)/\(ys.map (·.length)).sum+ys.length * z.length<=16777216/\Q (.str (Str.join z ys)) H
theorem Ui:MtR X "str.join" (rJoin X.K):=by intro p9 s Y H x xs v us Q I rx rs h;obtain ⟨z,p,ys,rfl,rfl,hq,hb,q⟩:=h;obtain ⟨t,rfl⟩:=rx;obtain ⟨u,rfl,ru⟩:=vals1 rs;cases ru;obtain ⟨its,rv,pl,hz⟩:=I.list hq;refine join_list pl.isList (by simpa using Cr rv) hb λt' k=>⟨.str _,H,I.tok _,⟨_,rfl⟩,?_⟩;have e:Txt.join z ys=Str.join z ys:=StrLaws.glued_eq_join z ys;rw[e];exact q
def Uj(K:PF):AR->Hp->VK->Prop:=λxs H Q=>∃x n t b,xs=[x,.ty n]/\TyOf K H x t/\PySem.W.kitOne K t (.type n)=some b/\Q (.bl b) H
theorem Uk:bh X (.builtin "isinstance") (Uj X.K):=by intro p9 s Y H xs us Q I r h;obtain ⟨x,n,t,b,rfl,ty,e,q⟩:=h;obtain ⟨u,w',rfl,rx,ry⟩:=vals2 r;cases ry;exact R8 I rx ty e λtk=>⟨.bl b,H,I.tok _,rfl,q⟩
theorem Ul:bootBuiltins "bool"=some (.type "bool"):=by ac_rfl
theorem Cu:bootBuiltins "int"=some (.type "int"):=by ac_rfl
theorem Cv:bootBuiltins "str"=some (.type "str"):=by ac_rfl
theorem vA:bootBuiltins "list"=some (.type "list"):=by ac_rfl
theorem Cw:bootBuiltins "isinstance"=some (.builtin "isinstance"):=by ac_rfl
theorem Cy {x:Str} {T:AL} {pos:Pos} (hg:Gl X x) (hm:X.mg x=none) (hv:bootBuiltins x=some (.type T)) (hn:x≠"__name__":=by decide) (hd:(x==("__debug__":Str))=false:=by decide):PE X (.Name x pos) (tC (.ty T)):=
 Qv hg hm hv (v:=.ty T) rfl hn hd
theorem Um:OpR X (binaryOp .Mult) (λx y H Q=>∃i n,x=.str i/\y=.int n/\MulOk i n/\Q (.str (Txt.mul i n)) H):=by intro p9 s Y H x y v u Q I rx ry h;obtain ⟨i,n,rfl,rfl,hok,q⟩:=h;obtain ⟨t,rfl⟩:=rx;obtain ⟨t',rfl⟩:=ry;exact SB.mul hok λt' k=>⟨.str _,H,I.tok _,⟨_,rfl⟩,q⟩
end
def vB(X:Cx)(st:AF)(t:TS):Prop:=
 ∀(p9:AC)(s:AI)(Y:St)(H:Hp)(D:Ends),1<=s.toks->Inv X p9 Y H s->t D Y H->↥X (execs st X.env) (SP X p9 D) X.xe s
def PE1(X:Cx)(e:AO)(t:TE):Prop:=
 ∀(p9:AC)(s:AI)(Y:St)(H:Hp)(Q:VK),1<=s.toks->Inv X p9 Y H s->t Y H Q->↥X (eval e X.env) (EP X p9 Y Q) X.xe s
def Uo{X:Cx}{e:AO}{te:TE}{pos:Pos}(he:PE1 X e te):vB X [.Return (some e) pos] (Bd te):=by intro p9 s Y H D h1 I h;refine gs (wpAny_Return_some (thn (he p9 s Y H _ h1 I h) λv s1 ⟨x,H1,I1,r1,q1⟩=>?_));exact ⟨x,Y,H1,I1,r1,q1⟩
def vC{c d:Nat}:∀l:AA,c∉l->l.map (λa=>if a=c then d else a)=l
 |[],_=>rfl
 |a::r,h=>by
  have h1:a≠c:=λe=>h (by rw[e];exact bp);rw[a9,if_neg h1,vC r λz=>h (bv _ z)]
def Cz(c d:Nat):∀parts:AD,(∀p∈parts,c∉p.cps.toList)->(Str.join ⟨#[c]⟩ parts).cps.toList.map (λa=>if a=c then d else a)=(Str.join ⟨#[d]⟩ parts).cps.toList
 |[],_=>rfl
 |[x],h=>by
  simp only[Str.join];exact vC _ (h x bp)
 |x::y::r,h=>by
  have ih:=Cz c d (y::r) λp hp=>h p (bv _ hp);have e:∀z:Str,Str.join z (x::y::r)=x++z++Str.join z (y::r):=λz=>by simp only[Str.join]
  have ap:∀u v:Str,(u++v).cps.toList=u.cps.toList++v.cps.toList:=λu v=>by
   show (u.cps++v.cps).toList=_;simp
  rw[e,e,ap,ap,ap,ap,c9,c9,ih,vC _ (h x bp)];simp
def Up(l:AA)(c d:Nat):Txt.replace (tx l) (tx [c]) (tx [d])=tx (l.map λa=>if a=c then d else a):=by
 have e:(Txt.replace (tx l) ⟨#[c]⟩ ⟨#[d]⟩).cps.toList=l.map λa=>if a=c then d else a:=by rw[StrLaws.replace_one,<-Cz c d _ (StrLaws.split_free (tx l) c),StrLaws.join_split]
 rw[qU (Txt.replace (tx l) (tx [c]) (tx [d]))];exact eK tx e
section
variable {X:Cx}
theorem Uq{o:AO}{to:TE}{y z:Str}{ky kz:Nat}{py pz apos cpos:Pos}(ho:PE X o to)(hyz:(y==z)=false)
  (hbase:attributeBase o "replace" X.env (eval o X.env)=eval o X.env:=by rfl)
  (hfew:((backTo cpos (starEach [.Constant (.str y) ky py,.Constant (.str z) kz pz] X.env)).all (λx=>!x.1)&&(backToKw cpos (keywordEach [] X.env)).all (λx=>x.1.isSome)
  &&decide (([.Constant (.str y) ky py,.Constant (.str z) kz pz]:AE).length+([]:List Keyword).length+(if ([]:List Keyword).isEmpty then 0 else 1) < 30))=true:=by rfl)
  (hline:(apos.endLine==cpos.line)=true:=by rfl):
  PE1 X (.Call (.Attribute o "replace" apos) [.Constant (.str y) ky py,.Constant (.str z) kz pz] [] cpos)
   (λY H Q=>to Y H λv H1=>∃x,v=.str x/\x.length+(x.length+1) * z.length<=16777216/\Q (.str (Txt.replace x y z)) H1):=by
 intro p9 s Y H Q h1 I h;refine wpAny_Call_method_late hbase hfew hline rfl (cm (wpAny_toks_of (n:=1) h1 (ho p9 s Y H _ I h)) (λv s1 h2=>?_) (λ_ _ e=>e.2));obtain ⟨t1,v',H1,I1,r1,x,e,hb,q⟩:=h2;subst e;obtain ⟨t,rfl⟩:=r1;refine ⟨"str","str.replace",F.plainAttrs_str,F.slot_str_replace,F.type_str_replace,typeIs_str _ _ _,(λ_ e=>nomatch e),?_⟩;refine Calls.callWith_builtin (by rfl) (Calls.evalArgs_plain ?_);show wpAny _ _ (spliced [(false,eval (.Constant (.str y) ky py) X.env),(false,eval (.Constant (.str z) kz pz) X.env)]) _ _ s1;refine Calls.spliced_cons (Calls.Constant_str (Calls.spliced_cons (Calls.Constant_str (Calls.spliced_nil ?_))));exact SC.replace (by show @Ne Nat s1.toks 0;omega) (by show @Ne Nat (s1.toks+1) 0;omega) (by show @Ne Nat s1.toks (s1.toks+1);omega) hyz hb λt' k=>⟨.str _,H1,I1.tok _,⟨_,rfl⟩,q⟩
end
def Ur{CX:CXT}{P:AK}{w:World}{K:PF}{mg:AH}{base:Heap}{k:Nat}{f:AQ}{name qual:Str}{params:Arguments}{body:AF}{scope:Scope}{dV kV doc pm cdv ct oc:AN}{an od:Option AQ}
  {osl:Array (Option AN)} {N:AD} {x:Str} {sp:Sp} (lk:K.lookup f=some ⟨oc,od,.func (PySem.W.fnOf name qual params body scope dV kV doc pm an cdv ct),osl⟩) (hcd:PySem.W.codeIn K cdv qual=true) (S:FnScope N [x] scope)
  (hx:scope.names.lookup x=some .local) (hnc:∀y∈scope.names,y.2≠NameKind.cell) (hcf:∀n,cellsFrom n scope.names []=[])
  (len:∀vs H Q E,sp vs H Q E->vs.length=[x].length)
  (hbody:∀(A:AM)(outer:List Env)(s:AI)(H:Hp)(vs:AR)(Q:VK)(E:XK),Room k (A.deeper (envOfC qual scope (~~~s) f cdv))->sp vs H Q E->
   ∃t,vB (cZ CX P w K mg base N qual scope f cdv A outer s H E) body t/\t { nx:=λ_ H'=>Q .non H',rt:=Q } (start N vs) H):
  FnOk P w K mg base CX (k+1) f (PySem.W.fnOf name qual params body scope dV kV doc pm an cdv ct) [x] sp:=by
 refine ⟨len,λA outer s H args us vs Q E hr e0 hb r hsp=>?_⟩;have hl:=len _ _ _ _ hsp;have KX:K.In s.heap:=e0.mod.kin.keeps λb o e=>(e0.bs b o e).1;have lim:s.heap.NoLimit:=e0.mod.nolimit.keeps λb o e=>(e0.bs b o e).1;obtain ⟨u,rfl⟩:∃u,us=[u]:=by
  have h2:=r.length;rw[hl]at h2;match us,h2 with
  |[u],_=>exact ⟨u,rfl⟩
 refine codeAny_call_function hr.depth (KX _ _ lk) rfl S.co S.gen rfl (PySem.W.codeRec_of KX hcd) (hb _ _ _ _ ?_);refine wpAny_newFunctionEnv (binds:=[x].zip [u]) hnc (λy hy=>?_) (λh' hns hsb=>?_) S.kind
 .have e:y=(x,u):=by simpa using hy
  rw[e];exact hx
 have envEq:newEnv scope (~~~s) mainGlobals [] (qual++⇑".<locals>.") (some f) cdv none builtinsNs=envOfC qual scope (~~~s) f cdv:=by unfold envOfC newEnv;rw[hcf]
 have kp:∀b o,s.heap.get? b=some o->h'.get? b=some o:=λb o e=>hsb.extBut b o (ca (ay e)) (ah _ e);have mEq:bindL (envOfC qual scope (~~~s) f cdv).kindOf ([x].zip [u]) (λ_=>none)=λy=>(([x].zip [u]).reverse).lookup y:=by
  funext y;have hk:(envOfC qual scope (~~~s) f cdv).kindOf x=some .local:=hx;show bindL (envOfC qual scope (~~~s) f cdv).kindOf [(x,u)] (λ_=>none) y=List.lookup y [(x,u)];unfold bindL;rw[if_pos hk];unfold bindL;by_cases hy:y=x
  .subst hy;simp
  .have:(y==x)=false:=by simpa using hy
   simp[hy,List.lookup_cons,this]
 have xx:InCallC s (~~~s) (bindL (envOfC qual scope (~~~s) f cdv).kindOf ([x].zip [u]) λ_=>none) (cellsFrom ((~~~s)+1) scope.names []) (bindC (envOfC qual scope (~~~s) f cdv).kindOf ([x].zip [u]) λ_=>none)
   { s with heap:=h',toks:=s.toks+([x].zip [u]).length }:=by
  rw[mEq,hcf];exact ⟨⟨⟨h',_,rfl⟩,hns,kp,ax _⟩,(λn c e=>by simp at e),List.Pairwise.nil,(λn c e=>nomatch e)⟩
 show _/\codeAny (model P w) A (.func body (newEnv scope (~~~s) mainGlobals [] (qual++⇑".<locals>.") (some f) cdv none builtinsNs)) _ _;rw[envEq];refine ⟨lim.keeps kp,codeAny_func ?_⟩;obtain ⟨t,ht,hq⟩:=hbody A outer s H vs Q E (hr.deeper _) hsp;have I:Inv (cZ CX P w K mg base N qual scope f cdv A outer s H E) [] (start N vs) H { s with heap:=h',toks:=s.toks+([x].zip [u]).length }:=Bw S hr.hd e0 hl r xx;refine cm (ht [] _ (start N vs) H _ (Nat.le_add_left 1 s.toks) I hq) (λfl s' hs=>?_) λe s' hs=>hs;have fin:∀{σ':St}{H':Hp}{v:V}{u:AN},Inv (cZ CX P w K mg base N qual scope f cdv A outer s H E) [] σ' H' s'->RelV v u->Q v H'->CE outer P w H s Q u s':=
  λ{σ' H' v u} J rv q=>⟨v,H',J.os,J.bare,J.base,J.hok,rv,q⟩
 cases fl with
 |ret u=>
  obtain ⟨v,σ',H',J,rv,q⟩:=hs;exact fin J rv q
 |next=>
  obtain ⟨σ',H',J,q⟩:=hs;exact fin (v:=V.non) (u:=Value.none) J rfl q
 |brk=>
  obtain ⟨_,_,_,q⟩:=hs;exact False.elim q
 |cont=>
  obtain ⟨_,_,_,q⟩:=hs;exact False.elim q
def Fun.ok1{P:AK}{w:World}{K:PF}{mg:AH}{base:Heap}{x qual:Str}{st:Stmt}{f:AQ}{fd:AJ}{N:AD}{y:Str}{k:Nat}{sp:Sp}(F:Fun K x qual st f fd)(S:FnScope N [y] (ao st))
  (hx:(ao st).names.lookup y=some .local) (hnc:∀z∈(ao st).names,z.2≠NameKind.cell) (hcf:∀n,cellsFrom n (ao st).names []=[]) (len:∀vs H Q E,sp vs H Q E->vs.length=[y].length)
  (hbody:∀(cdv:AN)(A:AM)(outer:List Env)(s:AI)(H:Hp)(vs:AR)(Q:VK)(E:XK),Room k (A.deeper (envOfC qual (ao st) (~~~s) f cdv))->sp vs H Q E->
   ∃t,vB (cZ CX0 P w K mg base N qual (ao st) f cdv A outer s H E) (aD st) t/\t { nx:=λ_ H'=>Q .non H',rt:=Q } (start N vs) H):FnOk P w K mg base CX0 (k+1) f fd [y] sp:=by
 obtain ⟨oc,od,kV,doc,pm,an,cdv,ct,osl,rfl,lk,hcd⟩:=F.ex;exact Ur lk hcd S hx hnc hcf len λA outer s H vs Q E hr hsp=>hbody cdv A outer s H vs Q E hr hsp
open Builtin Builtin.Str
def Us{prog:AK}{w:World}{A:AM}(hh:A.handled=none)(it:AQ)(x:Str)(t:Tok):
  Draws prog w A it [it] x.cps.size (λi v=>∃c u,x.cps[i]?=some c/\v=.str ⟨#[c]⟩ u) (λi h=>h.IsStrIter it (strIterType x) x t i):=by
 unfold strIterType;split
 .exact Draws.strAscii hh it x t
 .exact Draws.strWide hh it x t
structure ZApart(z TI TO i1 i2:AQ):Prop where
 TIz:TI≠z
 TOz:TO≠z
 i1z:i1≠z
 i2z:i2≠z
 TITO:TI≠TO
 TIi1:TI≠i1
 TIi2:TI≠i2
 TOi1:TO≠i1
 TOi2:TO≠i2
 i12:i1≠i2
section
variable {X:Cx}
theorem CG:∀{bs:List Bool}{us:AB}{i:Nat}{v:AN},Vals (bs.map V.bl) us->us[i]?=some v->∃b,bs[i]?=some b/\v=.bool b
 |[],us,i,v,r,e=>by
  rw[fS]at r;cases r;simp at e
 |b::bs,us,i,v,r,e=>by
  rw[a9]at r;cases r with
  |cons r1 r2=>
   cases i with
   |zero=>
    cases (show _=Value.bool b from r1);exact ⟨b,rfl,!!e.symm⟩
   |succ i=>exact CG (i:=i) r2 (!!e)
theorem Ut:bootBuiltins "all"=some (.builtin "all"):=by ac_rfl
theorem Uu:bootBuiltins "zip"=some (.type "zip"):=by ac_rfl
theorem all_range(bs:List Bool)(n:Nat)(hn:n=bs.length):((List.range n).all λi=>(bs[i]?).getD true)=bs.all id:=by
 subst hn;rw[Bool.eq_iff_iff,bg,bg];constructor
 .intro h b hb;obtain ⟨i,hi,e⟩:=List.mem_iff_getElem.mp hb;have:=h i (fF.mpr hi);rw[aE hi,e]at this;simpa using this
 .intro h i hi;have hi':=fF.mp hi;rw[aE hi'];simpa using h _ (da hi')
theorem Uv (hc:X.calm=true):bh X (.builtin "all") (λxs H Q=>∃(p:AQ) (bs:List Bool),xs=[.ref p]/\SqL X.K H p (bs.map V.bl)/\Q (.bl (bs.all id)) H):=by
 intro p9 s Y H xs us Q I r h;obtain ⟨p,bs,rfl,hq,q⟩:=h;obtain ⟨u,rfl,ru⟩:=vals1 r;cases ru;obtain ⟨its,rv,pl,hz⟩:=I.list hq;have hl:=pl.isList;have hlt:p < (~~~s):=by obtain ⟨_,e,_⟩:=hl;exact ay e
 refine call_all_walk (gX hl ?_);refine ⟨(~~~s),[(~~~s),p],[(~~~s)],its.toArray.size,_,_,λi=>(bs[i]?).getD true,rfl,Walks.list (A:=X.A.in1) (I.ok.hd hc) _ p (ca hlt) its.toArray,
  ⟨⟨_,aS _ rfl,rfl,rfl⟩,hl.push _⟩,λi v s' Q' E' hP hQ=>?_,λh' tk hk=>?_⟩
 .obtain ⟨b,e,rfl⟩:=CG rv (i:=i) (v:=v) (!!hP);simp only[e,Option.getD_some]at hQ;exact ez hQ
 .have e:=all_range bs its.toArray.size (by rw[am,<-rv.length,ag]);rw[e];exact ⟨.bl _,H,I.kept (λb o q=>hk b o (λhm=>by rw[al.mp hm]at q;exact eA _ (ay q)) (ah _ q)),rfl,q⟩
theorem Uw:OpR X (compareOp .Is) (λx y H Q=>∃i j,x=.bl i/\y=.bl j/\Q (.bl (i==j)) H):=by intro p9 s Y H x y v u Q I rx ry h;obtain ⟨i,j,rfl,rfl,q⟩:=h;cases rx;cases ry;exact is_bool ⟨.bl _,H,I,rfl,q⟩
theorem Ux:bh X (.type "int") (λxs H Q=>∃z n,xs=[.str z]/\PySem.intText? z=some n/\z.length<=640/\Q (.int n) H):=by intro p9 s Y H xs us Q I r h;obtain ⟨z,n,rfl,hn,hl,q⟩:=h;obtain ⟨u,rfl,t,rfl⟩:=vals1 r;exact PySem.W.KIN.call_text hn hl ⟨.int n,H,I.tok _,⟨_,rfl⟩,q⟩
def Uy:V->Option Int->Option Int->Hp->VK->Prop:=λx lo hi H Q=>∃z,x=.str z/\z.length<=sizeLine/\Q (.str (Txt.slice z lo hi)) H
theorem Uz:SlR X Uy:=by
 intro p9 s Y H x v vl vu lo hi sl Q I rx hs pl pu h;obtain ⟨z,rfl,hz,q⟩:=h;obtain ⟨t,rfl⟩:=rx;refine ⟨"str",_,slot_str_getitem.lookup,typeIs_str _ _ _,?_⟩;obtain ⟨l,el,e1⟩:∃l:Option (Int×Tok),vl=partValue l/\l.map (·.1)=lo:=by
  cases pl with
  |none=>exact ⟨none,rfl,rfl⟩
  |int i t=>exact ⟨some (i,t),rfl,rfl⟩
 obtain ⟨u,eu,e2⟩:∃u:Option (Int×Tok),vu=partValue u/\u.map (·.1)=hi:=by
  cases pu with
  |none=>exact ⟨none,rfl,rfl⟩
  |int i t=>exact ⟨some (i,t),rfl,rfl⟩
 subst el eu e1 e2;refine wpAny_getItem_str_slice (l:=l) (u:=u) (st:=none) hs rfl ?_;unfold sliceMade;unfold Txt.slice at q;show (if ((1:Int)==1&&(slicePicked z l u none).length==z.length)=true then Made.val (.str z t) else Made.str ⟨((slicePicked z l u none).filterMap (z.cps[·]?)).toArray⟩).post _ _;have ep:slicePicked z l u none=Builtin.Str.strSliceIndices (l.map (·.1)) (u.map (·.1)) 1 z.length:=rfl;rw[ep];by_cases hc:((1:Int)==1&&(Builtin.Str.strSliceIndices (l.map (·.1)) (u.map (·.1)) 1 z.length).length==z.length)=true
 .rw[if_pos hc]at q ⊢;exact ⟨.str z,H,I,⟨t,rfl⟩,q⟩
 .rw[if_neg hc]at q ⊢;refine ⟨?_,⟨.str _,H,I.tok _,⟨_,rfl⟩,q⟩⟩;show (List.filterMap _ _).toArray.size<=sizeLine;rw[am];have h1:=sliceIndices_le (l.map (·.1)) (u.map (·.1)) z.length;have h2:=List.length_filterMap_le (λx=>z.cps[x]?) (Builtin.Str.strSliceIndices (l.map (·.1)) (u.map (·.1)) 1 z.length);omega
end
section
variable {X:Cx}
theorem UG:OpR X (compareOp .IsNot) (λx y H Q=>∃i j,x=.bl i/\y=.bl j/\Q (.bl (i != j)) H):=by intro p9 s Y H x y v u Q I rx ry h;obtain ⟨i,j,rfl,rfl,q⟩:=h;cases rx;cases ry;exact isnot_bool ⟨.bl _,H,I,rfl,q⟩
theorem CJ:∀us:AB,(∀v∈us,∃x:V,RelV x v)->∃xs,Vals xs us
 |[],_=>⟨[],.nil⟩
 |u::r,h=>by
  obtain ⟨x,hx⟩:=h u bp;obtain ⟨xs,hr⟩:=CJ r λv hv=>h v (bv _ hv);exact ⟨x::xs,.cons hx hr⟩
end
def noStar:AO->Bool
 |.Starred ..=>false
 |_=>true
def bO(e:AO)(es:AE)(env:Env)(h:noStar e=true):starEach (e::es) env=(false,eval e env)::starEach es env:=by cases e <;> first |rfl |cases h
variable {X:Cx} {e st:AO} {te ts:TE} {p2 pos:Pos}
def holes(h:Heap)(l:List AQ):Heap:={ h with objs:=h.objs.mapIdx λi o=>if l.contains i then { o with data:=.freed } else o }
theorem CN{h:Heap}{l:List AQ}{b:AQ}:(holes h l).get? b=if l.contains b then none else h.get? b:=by
 unfold holes Heap.get?;simp only[Array.getElem?_mapIdx];cases hb:h.objs[b]? with
 |none=>simp
 |some o=>
  cases hc:l.contains b with
  |true=>simp[hc]
  |false=>simp[hc]
theorem gF{h:Heap}{l:List AQ}{b:AQ}(hb:b∈l):(holes h l).get? b=none:=by rw[CN,aT.mpr hb];rfl
theorem vD{h:Heap}{l:List AQ}{b:AQ}(hb:b∉l):(holes h l).get? b=h.get? b:=by
 rw[CN];cases hc:l.contains b with
 |true=>exact absurd (aT.mp hc) hb
 |false=>rfl
theorem qW{h:Heap}{l:List AQ}:(holes h l).StaysIn h:=λb o e=>by
 by_cases hb:b∈l
 .rw[gF hb]at e;cases e
 .rw[vD hb]at e;exact e
theorem ObjOk.at{P:AK}{w:World}{H:Hp}{h:Heap}{a:AQ}{o:HO}(x:ObjOk P w H h a o):∃u,h.get? a=some u:=by
 cases o with
 |lst xs=>obtain ⟨_,_,_,_,e⟩:=x;exact ⟨_,e⟩
 |tup xs=>obtain ⟨_,_,_,o,e,_⟩:=x;exact ⟨_,e⟩
 |dK kvs=>obtain ⟨_,_,_,_,o,_,_,e,_⟩:=x;exact ⟨_,e⟩
 |dT kvs=>obtain ⟨_,_,_,_,o,_,_,e,_⟩:=x;exact ⟨_,e⟩
 |set S n=>obtain ⟨o,_,_,_,e,_⟩:=x;exact ⟨_,e⟩
 |ins C dx fs=>obtain ⟨_,_,_,e,_⟩:=x;exact ⟨_,e⟩
 |own y=>exact x
 |xd fs=>obtain ⟨_,⟨_,_,_,e,_⟩,_⟩:=x;exact ⟨_,e⟩
 |rng lo hi=>obtain ⟨_,_,_,e⟩:=x;exact ⟨_,e⟩
 |frz ob u=>obtain ⟨e,_⟩:=x;exact ⟨_,e⟩
 |tbl ps=>exact ⟨_,(show h.get? a=some _ from x)⟩
 |met f y=>exact ⟨_,(show h.get? a=some _ from x)⟩
 |ext φ=>obtain ⟨_,e,_⟩:=x;exact e
theorem HOk.gone{P:AK}{w:World}{H:Hp}{h:Heap}{a:AQ}(x:HOk P w H h)(e:h.get? a=none):H a=none:=by
 cases q:H a with
 |none=>rfl
 |some u=>obtain ⟨o,ho⟩:=(x a u q).at;rw[ho]at e;cases e
theorem vG{h base:Heap}:∀{l:List Env},h.FunFrames base l->∀b∈frs l,∃o,h.get? b=some o/\∀vs,o.data≠.fields vs
 |[],_,b,hb=>by cases hb
 |env::l,hf,b,hb=>by
  unfold Heap.FunFrames at hf;obtain ⟨_,⟨L,o,e1,_,e3,e4⟩,hr⟩:=hf;unfold frs at hb;rw[fT,e1]at hb;rcases a7.mp hb with rfl |hb
  .exact ⟨o,e3,e4⟩
  .exact vG hr b hb
theorem lJ{h base:Heap}{x:List AQ}:∀{l:List Env},h.FunFrames base l->(∀b∈frs l,b∈x)->h.FunFrames (holes h x) l
 |[],_,_=>by unfold Heap.FunFrames;trivial
 |env::l,hf,hx=>by
  unfold Heap.FunFrames at hf ⊢;obtain ⟨h1,⟨L,o,e1,_,e3,e4⟩,hr⟩:=hf;have hL:L∈frs (env::l):=by unfold frs;rw[fT,e1];exact bp
  refine ⟨h1,⟨L,o,e1,gF (hx L hL),e3,e4⟩,lJ hr λb hb=>hx b ?_⟩;unfold frs at hb ⊢;rw[fT,e1];exact bv _ hb
theorem vH{h base:Heap}{env:Env}{l:List Env}(hf:h.FunFrames base (env::l)):∃L,env.frame=some L:=by unfold Heap.FunFrames at hf;obtain ⟨_,⟨L,o,e1,_⟩,_⟩:=hf;exact ⟨L,e1⟩
def Tr(h0:Heap)(H:Hp)(h:Heap)(a:AQ)(c:AN):Prop:=
 ∃oe vs T oT ts,h.get? a=some oe/\oe.cls=c/\oe.data=.fields vs/\vs[1]?=some (.ref T)/\T≠a/\h.get? T=some oT/\oT.data=.fields ts/\ts[3]?=some .none/\
  h0.get? a=none/\h0.get? T=none/\H a=none/\H T=none
def CX1(P:AK)(w:World):CXT:=λouter H s E e s'=>
 ∃(a:AQ)(c:AN)(H':Hp),e=.ref a/\s'.os=s.os/\AllBare s'.gens/\Un (frs outer) [] H H' s.heap s'.heap/\HOk P w H' s'.heap/\Tr s.heap H' s'.heap a c/\E c none H'
theorem CP{P:AK}{w:World}{fs st:List AQ}{H0 H:Hp}{h0 h h':Heap}{l:List Env}{a:AQ}{xs:List AQ}{c:AN}(un:Un fs [] H0 H h0 h)(hok:HOk P w H h)
  (up:∀b∈fs,b∈st) (old:∀b o,h0.get? b=some o->b∉fs->b∉st) (fr:∀b∈st,H b=none/\∃o,h.get? b=some o/\∀vs,o.data≠.fields vs)
  (ha:h0.get? a=none) (hHa:H a=none) (hxs:∀x∈xs,h0.get? x=none/\H x=none)
  (L:(holes h (st++a::xs)).Left l a c h h'):Un fs [] H0 H h0 h'/\HOk P w H h'/\Tr h0 H h' a c:=by
 obtain ⟨stay,_,tr,slots⟩:=L;have old:∀b o,h0.get? b=some o->b∉fs->b∉st++a::xs:=by
  intro b o hb hf hin;rcases ba.mp hin with hin |hin
  .exact old b o hb hf hin
  .rcases a7.mp hin with e |e
   .rw[e,ha]at hb;cases hb
   .rw[(hxs b e).1]at hb;cases hb
 have kept:∀b o,h.get? b=some o->b∉st++a::xs->h'.get? b=some o:=λb o e hn=>stay b o (by rw[vD hn];exact e);have trk:∀b o,H b=some o->b∉st++a::xs:=by
  intro b o hb hin;rcases ba.mp hin with hin |hin
  .rw[(fr b hin).1]at hb;cases hb
  .rcases a7.mp hin with e |e
   .rw[e,hHa]at hb;cases hb
   .rw[(hxs b e).2]at hb;cases hb
 have noex:∀b:AQ,b∉([]:List AQ):=λb hb=>by cases hb
 have frd:∀b∈st,∀o,h.get? b=some o->∀vs,o.data≠.fields vs:=by intro b hb o ho vs;obtain ⟨_,o',e1,e2⟩:=fr b hb;rw[e1]at ho;cases ho;exact e2 vs
 refine ⟨⟨?_,?_,?_,?_,un.tups,un.frzs,un.tbls⟩,?_,?_⟩
 .intro b o hb hn hf _;exact kept b o (un.keep b o hb hn hf (noex b)) (old b o hb hf)
 .intro b o hb hn hf _;obtain ⟨sl,e⟩:=un.slot b o hb hn hf (noex b);obtain ⟨sl',e'⟩:=slots b _ e (frd b (up b hf) _ e);exact ⟨sl',e'⟩
 .intro b o hb hn _;exact un.free b o hb hn (noex b)
 .intro b o hb _;obtain ⟨o',e⟩:=un.there b o hb (noex b);by_cases hin:b∈st++a::xs
  .rcases ba.mp hin with h1 |h1
   .obtain ⟨sl',e'⟩:=slots b _ e (frd b h1 _ e);exact ⟨_,e'⟩
   .rcases a7.mp h1 with e2 |e2
    .rw[e2,ha]at hb;cases hb
    .rw[(hxs b e2).1]at hb;cases hb
  .exact ⟨_,kept b o' e hin⟩
 .intro b o hb;refine (hok b o hb).stay (λb' u hb' e=>kept b' u e ?_) (λ_ z=>z) λ_ _ z=>z;rcases hb' with rfl |hb'
  .exact trk _ _ hb
  .exact trk _ _ hb'
 .obtain ⟨oe,vs,T,oT,ts,t1,t2,t3,t4,t5,t6,t7,t8,t9⟩:=tr;have hT:T∈xs\/h.get? T=none:=by
   by_cases hin:T∈st++a::xs
   .rcases ba.mp hin with h1 |h1
    .exfalso;obtain ⟨_,o,e1,e2⟩:=fr T h1;obtain ⟨sl,e3⟩:=slots T o e1 e2;rw[e3]at t7;cases t7;exact e2 ts t8
    .rcases a7.mp h1 with e2 |e2
     .exact absurd e2 t6
     .exact .inl e2
   .rw[vD hin]at t5;exact .inr t5
  refine ⟨oe,vs,T,oT,ts,t1,t2,t3,t4,t6,t7,t8,t9,ha,?_,hHa,?_⟩
  .rcases hT with h1 |h1
   .exact (hxs T h1).1
   .cases e:h0.get? T with
    |none=>rfl
    |some o=>obtain ⟨o',e'⟩:=un.there T o e (noex T);rw[e']at h1;cases h1
  .rcases hT with h1 |h1
   .exact (hxs T h1).2
   .exact hok.gone h1
section
variable {X:Cx} {p9:AC} {σ:St} {H:Hp} {s:AI}
theorem CQ(J:Inv X p9 σ H s)(hst:X.stack=X.env::X.outer)(hex:X.ex=[]){a:AQ}{xs:List AQ}{c:AN}{E:XK}
  (ha:X.s₀.heap.get? a=none) (hHa:H a=none) (hxs:∀x∈xs,X.s₀.heap.get? x=none/\H x=none)
  {h':Heap} (L:(holes s.heap (frs X.stack++a::xs)).Left (X.env::X.outer) a c s.heap h') (q:E c none H):
  CX1 X.prog X.w X.outer X.H₀ X.s₀ E (.ref a) { s with heap:=h' }:=by
 have sub:=J.stkSub;have hb0:=J.base;rw[hex]at hb0;have up:∀b∈X.fs,b∈frs X.stack:=by
  intro b hb;rw[hst];unfold Cx.fs at hb;unfold frs at hb ⊢;rw[fT];split
  .exact hb
  .exact bv _ hb
 have old:∀b o,X.s₀.heap.get? b=some o->b∉X.fs->b∉frs X.stack:=by
  intro b o hb hf hin;rcases a7.mp (sub b hin) with e |e
  .have h1:=ay hb;have h2:=J.ok.above;rw[e]at h1;exact absurd h1 (Nat.not_lt.mpr h2)
  .exact hf e
 obtain ⟨u,k,t⟩:=CP hb0 J.hok up old (λb hb=>⟨J.stkFree b hb,vG J.stack b hb⟩) ha hHa hxs L;exact ⟨a,c,H,rfl,J.os,J.bare,u,k,t,q⟩
theorem UJ(J:Inv X p9 σ H s)(hst:X.stack=X.env::X.outer)(hex:X.ex=[]){a:AQ}{c:AN}{E:XK}(t:Tr X.s₀.heap H s.heap a c)(q:E c none H){E':AG}:
  ↥X (leaving X.env (.ref a)) (λ_ s''=>CX1 X.prog X.w X.outer X.H₀ X.s₀ E (.ref a) s'') E' s:=by
 obtain ⟨oe,vs,T,oT,ts,t1,t2,t3,t4,t6,t7,t8,t9,n1,n2,n3,n4⟩:=t;have hfr:=J.stack;rw[hst]at hfr;obtain ⟨L,hL⟩:=vH hfr;have sub:∀b∈frs (X.env::X.outer),b∈frs X.stack++a::[T]:=λb hb=>by rw[hst];exact c8 _ hb
 refine wpAny_leaving_next (base:=holes s.heap (frs X.stack++a::[T])) (cls:=c) (by rw[J.ok.frames,hst]) (lJ hfr sub) hL ?_ qW (gF (by simp)) λh' hl=>?_
 .exact ⟨oe,vs,T,oT,ts,t1,t2,t3,t4,gF (by simp),t6,t7,t8,t9⟩
 .exact CQ J hst hex n1 n3 (λx hx=>by rw[al.mp hx];exact ⟨n2,n4⟩) hl q
theorem UL{h':Heap}(I:Inv X p9 σ H s)(hst:X.stack=X.env::X.outer)(hex:X.ex=[]){a:AQ}{c:AN}{args:AB}{E:XK}(m:s.heap.MadeExcOf h' a c args)(q:E c none H){E':AG}:
  ↥X (leaving X.env (.ref a)) (λ_ s''=>CX1 X.prog X.w X.outer X.H₀ X.s₀ E (.ref a) s'') E' { s with heap:=h' }:=by
 have J:Inv X p9 σ H { s with heap:=h' }:=I.kept (t':=s.toks) m.keeps;have hfr:=J.stack;rw[hst]at hfr;obtain ⟨L,hL⟩:=vH hfr;have sub:∀b∈frs (X.env::X.outer),b∈frs X.stack++a::[]:=λb hb=>by rw[hst];exact c8 _ hb
 obtain ⟨t,e,_,_⟩:=m.there;have n1:X.s₀.heap.get? a=none:=by
  cases e:X.s₀.heap.get? a with
  |none=>rfl
  |some o=>
   obtain ⟨o',e'⟩:=I.base.there a o e (by rw[hex];simp);rw[m.new]at e';cases e'
 refine wpAny_leaving_first (base:=holes h' (frs X.stack++a::[])) (by rw[J.ok.frames,hst]) (lJ hfr sub) hL e qW (gF (by simp)) rfl rfl λh'' hl=>?_;exact CQ J hst hex n1 (I.hok.gone m.new) (λx hx=>by cases hx) hl q
theorem UT{E:XK}(hst:X.stack=X.env::X.outer)(hex:X.ex=[])(hxe:∀e s',↥X (leaving X.env e) (λ_ s''=>CX1 X.prog X.w X.outer X.H₀ X.s₀ E e s'') (λe' s''=>CX1 X.prog X.w X.outer X.H₀ X.s₀ E e' s'') s'->X.xe e s'):
  jt (CX1 X.prog X.w) X E:=by
 intro p9 σ H s e s' I h;obtain ⟨a,c,H',rfl,ho,hg,un,hok,tr,q⟩:=h;have J:Inv X p9 σ H' s':=I.call' (ch:=[]) ho un hok hg (λb z=>absurd z (by simp));refine hxe _ _ (UJ J hst hex ?_ q);obtain ⟨oe,vs,T,oT,ts,t1,t2,t3,t4,t6,t7,t8,t9,n1,n2,n3,n4⟩:=tr;have old:∀b,s.heap.get? b=none->X.s₀.heap.get? b=none:=λb hb=>by
  cases e:X.s₀.heap.get? b with
  |none=>rfl
  |some o=>
   obtain ⟨o',e'⟩:=I.base.there b o e (by rw[hex];simp);rw[hb]at e';cases e'
 exact ⟨oe,vs,T,oT,ts,t1,t2,t3,t4,t6,t7,t8,t9,old a n1,old T n2,n3,n4⟩
theorem CW{P:AK}{w:World}(Y:Cx):jt (CX1 P w) Y λ_ _ _=>False:=λ_ _ _ _ _ _ _ h=>by
 obtain ⟨_,_,_,_,_,_,_,_,_,q⟩:=h;exact q.elim
end
abbrev veM:AB:=[.type "ValueError",.type "Exception",.type "BaseException",.type "object"]
def vI:AB->Bool
 |[.type a,.type b,.type c,.type d]=>a=="ValueError"&&b=="Exception"&&c=="BaseException"&&d=="object"
 |_=>false
theorem UV{l:AB}(h:vI l=true):l=veM:=by
 unfold vI at h;split at h
 .simp only[ae,av]at h;obtain ⟨⟨⟨rfl,rfl⟩,rfl⟩,rfl⟩:=h;rfl
 .cases h
def vJ:AN->Bool
 |.str _ _=>true
 |_=>false
def nsB(K:PF)(N:AQ):Bool:=match K.lookup N with
 |some ⟨_,_,.dict es _,_⟩=>es.toList.all (λe=>vJ e.key)&&quietNames.all λn=>(nsFind es n).isNone
 |_=>false
theorem CZ{K:PF}{N:AQ}{h:Heap}(KX:K.In h)(b:nsB K N=true):∃m,h.Ns N m/\∀n∈quietNames,m n=none:=by
 unfold nsB at b;split at b
 .rename_i c d es ep sl e;rw[ae,bg,bg]at b;refine ⟨nsFind es,⟨_,es,ep,KX _ _ e,rfl,λx hx=>?_,λ_=>rfl⟩,λn hn=>by simpa using b.2 n hn⟩;have:=b.1 x (Array.mem_toList_iff.mpr hx);unfold vJ at this;split at this
  .rename_i y t e;exact ⟨_,_,e⟩
  .cases this
 .cases b
def Dc(K:PF)(A:AQ):Bool:=match K.lookup A with
 |some ⟨_,_,.cls cd,_⟩=>nsB K cd.ns
 |_=>false
def lK(K:PF):AB->Bool
 |[]=>false
 |v::tl=>(match v with |.ref A=>Dc K A&&lK K tl |_=>vI (v::tl))
theorem Dd{K:PF}{h:Heap}(KX:K.In h):∀{l:AB},lK K l=true->OwnTailQ h veM l
 |[],b=>by cases b
 |v::tl,b=>by
  unfold lK at b;split at b
  .rename_i A;rw[ae]at b;have b1:=b.1;unfold Dc at b1;split at b1
   .rename_i c d cd sl e;obtain ⟨m,hm,hq⟩:=CZ KX b1;exact .own (KX _ _ e) hm hq (Dd KX b.2)
   .cases b1
  .rw[UV b];exact .base
def isRef(C:AQ):AN->Bool
 |.ref a=>a==C
 |_=>false
def isNew:Option AN->Bool
 |some (.builtin s)=>s=="ValueError.__new__"
 |_=>false
def vK:AN->Bool
 |.type s=>s=="type"
 |_=>false
def iC(K:PF)(C:AQ):Bool:=match K.lookup C with
 |some ⟨ty,_,.cls cd,⟨[_,_,_,_,k,_]⟩⟩=>vK ty&&isNew k&&nsB K cd.ns&&!cd.hasDel&&(match cd.mro with |v::tl=>isRef C v&&lK K tl |[]=>false)
 |_=>false
theorem UW {K:PF} {C:AQ} {h:Heap} {mg:AH} {x:Str} (KX:K.In h) (b:iC K C=true) (hm:mg x=some (.ref C)):OwnClsQ x C veM "ValueError.__new__" mg h:=by
 unfold iC at b;split at b
 .rename_i ty dd cd k0 k1 k2 k3 k k5 e;simp only[ae]at b;obtain ⟨⟨⟨⟨b1,b2⟩,b3⟩,b5⟩,b4⟩:=b;obtain ⟨m,hns,hq⟩:=CZ KX b3;have e1:ty=.type "type":=by
   unfold vK at b1;split at b1
   .rw[av]at b1;rw[b1]
   .cases b1
  have e2:k=some (.builtin "ValueError.__new__"):=by
   unfold isNew at b2;split at b2
   .rw[av]at b2;rw[b2]
   .cases b2
  obtain ⟨nm,bs,mro,ns,q,hd,sn,sub,ab,col,del⟩:=cd;dsimp only at b4 hns b5;have e4:del=false:=by simpa using b5
  subst e4;split at b4
  .rename_i v tl;rw[ae]at b4;have e3:v=.ref C:=by
    have:=b4.1;unfold isRef at this;split at this
    .rw[av]at this;rw[this]
    .cases this
   subst e1 e2 e3;exact ⟨hm,tl,ns,nm,q,bs,hd,sn,sub,ab,col,dd,k0,k1,k2,k3,k5,m,KX _ _ e,hns,hq,Dd KX b4.2⟩
  .cases b4
 .cases b
theorem U0{h:Heap}{bmB bm:AB}(t:OwnTail h bmB bm){v:AN}(hv:bmB.contains v=true):bm.contains v=true:=by
 induction t with
 |base=>exact hv
 |own _ _ _ _ ih=>rw[List.contains_cons,ih,Bool.or_true]
theorem De{h h':Heap}(k:∀b o,h.get? b=some o->h'.get? b=some o){N:AQ}{m:AH}(n:h.Ns N m):h'.Ns N m:=by obtain ⟨o,es,ep,e,r⟩:=n;exact ⟨o,es,ep,k _ _ e,r⟩
theorem U3{h h':Heap}(k:∀b o,h.get? b=some o->h'.get? b=some o){bmB bm:AB}(t:OwnTail h bmB bm):OwnTail h' bmB bm:=by
 induction t with
 |base=>exact .base
 |own e n i _ ih=>exact .own (k _ _ e) (De k n) i ih
section
variable {X:Cx}
abbrev TJ:=St->Hp->(Hp->Prop)->Prop
def PJ(X:Cx)(es:AE)(t:TJ)(n:Nat):Prop:=∀(p9:AC)(s:AI)(Y:St)(H:Hp)(Q:Hp->Prop)(out:Str),Inv X p9 Y H s->out.length+n<=100000->t Y H Q->
 ↥X (joinParts out (evalEach es X.env)) (EP X p9 Y λv H'=>(∃x,v=.str x)/\Q H') X.xe s
theorem U4:PJ X [] (λ_ H Q=>Q H) 0:=λp9 s Y H Q out I hl q=>by
 refine joinParts_nil ⟨.str out,H,I.tok _,⟨_,rfl⟩,⟨_,rfl⟩,q⟩ ?_;have:sizeLine≥100000:=by decide
 omega
theorem qX(x y:Str):(x++y).length=x.length+y.length:=by show (x.cps++y.cps).size=_;rw[Array.size_append];rfl
theorem U5{y:Str}{k:Nat}{p:Pos}{es:AE}{t:TJ}{n:Nat}(h:PJ X es t n):PJ X (.Constant (.str y) k p::es) t (y.length+n):=λp9 s Y H Q out I hl q=>by
 have hz:sizeLine≥100000:=by decide
 refine joinParts_consE (joinParts_cons (Calls.Constant_str ?_));dsimp only;refine ⟨by rw[qX];omega,h p9 _ Y H Q _ (I.tok _) (by rw[qX];omega) q⟩
theorem digits_le:∀n:Fin 100,(⇑(toString (n.val:Int))).length<=3:=by ac_rfl
theorem U6{e:AO}{te:TE}{p:Pos}{es:AE}{t:TJ}{n:Nat}(he:PE X e te)(h:PJ X es t n):PJ X (.FormattedValue e (-1) none p::es) (λY H Q=>te Y H λv H1=>(∃m:Nat,v=.int m/\m < 100)/\t Y H1 Q) (3+n):=λp9 s Y H Q out I hl q=>by
 have hz:sizeLine≥100000:=by decide
 refine joinParts_consE (joinParts_cons (FormattedValue_plain (thn (he p9 s Y H _ I q) λv s1 hy=>?_)));obtain ⟨x,H1,I1,r1,⟨m,rfl,hm⟩,q1⟩:=hy;obtain ⟨tk,rfl⟩:=r1;have hd:(⇑(toString (m:Int))).length<=3:=digits_le ⟨m,hm⟩;refine formatField_int_small ?_ ?_
 .have:(m:Int).natAbs=m:=Int.natAbs_natCast m;rw[this];exact Nat.lt_of_le_of_lt (Nat.log2_le_self m) (!0)
 .dsimp only;exact ⟨by rw[qX];omega,h p9 _ Y H1 Q _ ((I1.tok _)) (by rw[qX];omega) q1⟩
theorem U7{v1 v2:AO}{es:AE}{t:TJ}{n:Nat}{pos:Pos}(h:PJ X (v1::v2::es) t n)(hn:n<=100000):PE X (.JoinedStr (v1::v2::es) pos) (λY H Q=>t Y H λH1=>∀x,Q (.str x) H1):=λp9 s Y H Q I q=>by
 refine JoinedStr_many ?_;refine cm (h p9 s Y H _ Str.empty I (by show 0+n<=_;omega) q) (λv s1 hy=>?_) λ_ _ z=>z;obtain ⟨x,H1,I1,r1,⟨y,rfl⟩,q1⟩:=hy;exact ⟨_,H1,I1,r1,q1 y⟩
def Throws(X:Cx)(E:XK):Prop:=∀(p9:AC)(Y:St)(H:Hp)(s:AI)(h':Heap)(a:AQ)(c:AN)(args:AB),Inv X p9 Y H s->s.heap.MadeExcOf h' a c args->E c none H->X.xe (.ref a) { s with heap:=h' }
theorem U8{E:XK}(hst:X.stack=X.env::X.outer)(hex:X.ex=[])(hxe:∀e s',↥X (leaving X.env e) (λ_ s''=>CX1 X.prog X.w X.outer X.H₀ X.s₀ E e s'') (λe' s''=>CX1 X.prog X.w X.outer X.H₀ X.s₀ E e' s'') s'->X.xe e s'):Throws X E:=
 λ_ _ _ _ _ _ _ _ I m q=>hxe _ _ (UL I hst hex m q)
theorem Df{x:Str}{C:AQ}{np cpos pos:Pos}{e:AO}{es:AE}{ta:TA}{E:XK}(hc:X.calm=true)(hg:Gl X x)(hm:X.mg x=some (.ref C))(hb:iC X.K C=true)(hE:Throws X E)(ha:PA X (e::es) ta)
  (hdb:(x==("__debug__":Str))=false:=by decide) (he:starEach (e::es) X.env=(false,eval e X.env)::starEach es X.env:=by rfl) (hpl:(backTo cpos (starEach es X.env)).any (·.1)=false:=by rfl):
  PS X (.Raise (some (.Call (.Name x np) (e::es) [] cpos)) none pos) (λ_ Y H=>ta Y H λvs H1=>vs.length<=sizeLine/\E (.ref C) none H1):=by
 intro p9 s Y H D I h;have kb:=I.ok.mod.kin;obtain ⟨bm,N,nm,q,bs,hd,sn,sub,ab,col,dd,k0,k1,k2,k3,k5,mN,b1,b2,b3,b4⟩:=(UW kb hb hm:OwnClsQ x C veM "ValueError.__new__" X.mg X.base).own.obj;refine wpAny_Raise_call_subT (nm:=nm) (q:=q) (N:=N) (bs:=bs) (hdct:=hd) (sn:=sn) (sub:=sub) (ab:=ab) (col:=col) (dd:=dd) (k0:=k0) (k1:=k1) (k2:=k2) (k3:=k3) (k5:=k5) (F.excBase_ValueError) (U0 b4 (!1)) (I.ok.hd hc) ?_ b3 (iy I hg hm ⟨rfl,?_⟩ hdb)
 .rw[he];exact hpl
 .have hsp:=ha cpos p9 s Y H _ I h;rw[he]at hsp ⊢;refine Calls.evalArgs_plain (cm hsp (λvs s2 hy=>?_) λ_ _ z=>z);obtain ⟨ws,H2,I2,r2,hl,q2⟩:=hy;refine ⟨rfl,by rw[<-r2.length];exact hl,I2.bk _ _ b1,De I2.bk b2,U3 I2.bk b4,λh' a m=>hE p9 Y H2 s2 h' a _ _ I2 m q2⟩
end
section
variable {X:Cx}
abbrev Cx.marked(X:Cx)(a:AQ)(E:AG):Cx:={ X with A:=X.A.mark (some (.ref a)),calm:=false,xe:=E }
theorem Cx.Ok.marked{X:Cx}(ok:X.Ok)(a:AQ)(E:AG):(X.marked a E).Ok:=
 ⟨ok.mod,ok.kind,ok.glob,ok.blt,ok.above,ok.inj,ok.has,ok.cab,λh=>(by cases h),ok.frames,ok.stk,ok.exf,ok.bs,ok.bsz,ok.noex,ok.exfs,ok.funs,ok.frf⟩
variable {p9:AC} {σ:St} {H:Hp} {s:AI}
theorem Inv.marked(I:Inv X p9 σ H s)(a:AQ)(E:AG):Inv (X.marked a E) p9 σ H s:=⟨I.ok.marked a E,I.os,I.bare,I.base,I.loc,I.cell,I.free,I.freeC,I.pin,I.hok,I.len⟩
theorem Inv.unmarked{a:AQ}{E:AG}(I:Inv (X.marked a E) p9 σ H s)(ok:X.Ok):Inv X p9 σ H s:=⟨ok,I.os,I.bare,I.base,I.loc,I.cell,I.free,I.freeC,I.pin,I.hok,I.len⟩
theorem SP.unmarked{a:AQ}{E:AG}{D:Ends}{f:Flow}{s':AI}(ok:X.Ok)(h:SP (X.marked a E) p9 D f s'):SP X p9 D f s':=by
 cases f with
 |next=>obtain ⟨σ',H',I,q⟩:=h;exact ⟨σ',H',I.unmarked ok,q⟩
 |brk=>obtain ⟨σ',H',I,q⟩:=h;exact ⟨σ',H',I.unmarked ok,q⟩
 |cont=>obtain ⟨σ',H',I,q⟩:=h;exact ⟨σ',H',I.unmarked ok,q⟩
 |ret u=>obtain ⟨v,σ',H',I,r,q⟩:=h;exact ⟨v,σ',H',I.unmarked ok,r,q⟩
structure Caught(X:Cx)(H:Hp)(s:AI)(H':Hp)(a:AQ)(c:AN)(s':AI):Prop where
 os:s'.os=s.os
 bare:AllBare s'.gens
 un:Un (frs X.stack) [] H H' s.heap s'.heap
 hok:HOk X.prog X.w H' s'.heap
 tr:Tr s.heap H' s'.heap a c
variable {H':Hp} {a:AQ} {c:AN} {s':AI}
theorem Caught.inv(K:Caught X H s H' a c s')(I:Inv X p9 σ H s):Inv X p9 σ H' s':=I.call' (ch:=[]) K.os K.un K.hok K.bare (λb z=>absurd z (by simp))
theorem Caught.left(K:Caught X H s H' a c s')(I:Inv X p9 σ H s){T:AQ}{h':Heap}{l:List Env}(hT:s.heap.get? T=none/\H' T=none)(L:(holes s'.heap (frs X.stack++a::[T])).Left l a c s'.heap h'):Caught X H s H' a c { s' with heap:=h' }:=by have J:=K.inv I;obtain ⟨_,_,_,_,_,_,_,_,_,_,_,_,_,n1,_,n3,_⟩:=K.tr;obtain ⟨u,k,t⟩:=CP K.un K.hok (λb hb=>hb) (λb o _ hn=>hn) (λb hb=>⟨J.stkFree b hb,vG J.stack b hb⟩) n1 n3 (λx hx=>by rw[al.mp hx];exact hT) L;exact ⟨K.os,K.bare,u,k,t⟩
theorem Caught.note(K:Caught X H s H' a c s')(I:Inv X p9 σ H s)(hst:X.stack=X.env::X.outer){Q:AI->Prop}{E1 E2:AG}(hQ:∀h2,Caught X H s H' a c { s' with heap:=h2 }->Q { s' with heap:=h2 }):
  ↥X (noteFrame (.ref a) X.env) (λ_ s2=>↥X (setFlight (.ref a) none) (λ_ s3=>Q s3) E1 s2) E2 s':=by
 have J:=K.inv I;obtain ⟨oe,vs,T,oT,ts,t1,t2,t3,t4,t6,t7,t8,t9,n1,n2,n3,n4⟩:=K.tr;have hfr:=J.stack;rw[hst]at hfr;obtain ⟨L,hL⟩:=vH hfr;have sub:∀b∈frs (X.env::X.outer),b∈frs X.stack++a::[T]:=λb hb=>by rw[hst];exact c8 _ hb
 obtain ⟨a0,h0⟩:∃a0,vs[0]?=some a0:=by obtain ⟨hi,_⟩:=fN.mp t4;exact ⟨vs[0],gd (!0)⟩
 refine wpAny_noteFrame_onW (base:=holes s'.heap (frs X.stack++a::[T])) (cls:=c) (a0:=a0) (by rw[J.ok.frames,hst]) (lJ hfr sub) hL ?_ qW (gF (by simp)) λh1 hn=>?_
 .exact ⟨oe,vs,T,oT,ts,t1,⟨t2,h0⟩,t3,t4,gF (by simp),t6,t7,t8,t9⟩
 .obtain ⟨m1,m2,m3,m4⟩:=hn;refine wpAny_setFlight_noneW m1 m2 m3 λh2 p1 p2 p3 p4=>?_;refine hQ h2 (K.left I ⟨n2,n4⟩ (l:=X.env::X.outer) ⟨p1,p2,?_,λb o e d=>?_⟩)
  .obtain ⟨oe,vs,T,oT,ts,t1,⟨t2,_⟩,r⟩:=p3;exact ⟨oe,vs,T,oT,ts,t1,t2,r⟩
  .obtain ⟨sl,e'⟩:=m4 b o e d;exact ⟨sl,p4 b _ e' d⟩
theorem Caught.flight(K:Caught X H s H' a c s')(I:Inv X p9 σ H s){A:AM}{Q:AI->Prop}{E1:AG}(hQ:∀h2,Caught X H s H' a c { s' with heap:=h2 }->Q { s' with heap:=h2 }):
  wpAny (model X.prog X.w) A (setFlight (.ref a) none) (λ_ s3=>Q s3) E1 s':=by
 have J:=K.inv I;obtain ⟨oe,vs,T,oT,ts,t1,t2,t3,t4,t6,t7,t8,t9,n1,n2,n3,n4⟩:=K.tr;obtain ⟨a0,h0⟩:∃a0,vs[0]?=some a0:=by obtain ⟨hi,_⟩:=fN.mp t4;exact ⟨vs[0],gd (!0)⟩
 refine wpAny_setFlight_noneW (base:=holes s'.heap (frs X.stack++a::[T])) (l:=X.stack) (cls:=c) (a0:=a0) (fl:=.none) qW (lJ J.stack λb hb=>c8 _ hb) ?_ λh2 p1 p2 p3 p4=>?_
 .exact ⟨oe,vs,T,oT,ts,t1,⟨t2,h0⟩,t3,t4,gF (by simp),t6,t7,t8,t9⟩
 .refine hQ h2 (K.left I ⟨n2,n4⟩ (l:=X.stack) ⟨p1,p2,?_,λb o e d=>⟨o.slots,p4 b o e d⟩⟩);obtain ⟨oe,vs,T,oT,ts,t1,⟨t2,_⟩,r⟩:=p3;exact ⟨oe,vs,T,oT,ts,t1,t2,r⟩
end
open Builtin.ObjectAttr Builtin.Getset_descriptor
open PySem.W (findIn mroIn clsIn typeIn Looks InstAt looks_findIn looks_mroIn looks_typeIn)
def jy(K:PF)(D:AQ):Bool:=
 findIn K (.ref D) "__class__"==some (some (.builtin "object.__class__"))&&findIn K (.ref D) "__getattribute__"==some (some (.builtin "BaseException.__getattribute__"))&&findIn K (.ref D) "__getattr__"==some none &&
  mroIn K D (.type "object")==some true&&mroIn K D (.type "BaseException")==some true&&(clsIn K D).isSome
structure Xin(K:PF)(D:AQ):Prop where
 c:findIn K (.ref D) "__class__"=some (some (.builtin "object.__class__"))
 ga:findIn K (.ref D) "__getattribute__"=some (some (.builtin "BaseException.__getattribute__"))
 g:findIn K (.ref D) "__getattr__"=some none
 o:mroIn K D (.type "object")=some true
 b:mroIn K D (.type "BaseException")=some true
 d:(clsIn K D).isSome=true
theorem U9{K:PF}{D:AQ}(h:jy K D=true):Xin K D:=by unfold jy at h;simp only[ae,av]at h;obtain ⟨⟨⟨⟨⟨h1,h2⟩,h3⟩,h4⟩,h5⟩,h6⟩:=h;exact ⟨h1,h2,h3,h4,h5,h6⟩
section
variable {prog:AK} {w:World} {A:AM} {E:AG} {h:Heap} {g:Array GenState} {d:Drawn} {t:Nat} {os:OsState} {a:AQ} {o:Obj} {K:PF} {D:AQ}
theorem Dg{M:Model}(hx:h.get? a=some o)(hc:o.cls=.ref D):Looks M h (typeOf (.ref a)) (.ref D):=by have:=(Looks.ld (M:=M) (part:=none) hx).andThen (f:=λo=>pure o.cls) (b:=.ref D) (by rw[hc];exact .now);exact this
theorem Va {s:AI} {R:Result->AI->Prop} {tp:AN} (X:K.In s.heap) (hx:s.heap.get? a=some o) (hc:o.cls=.ref D) (hm:mroIn K D (.type "object")=some true)
  (h:R (.ok (.ret (.ref D))) s):codeAny (model prog w) A (.call (.builtin "getset_descriptor.__get__") ⟨[.builtin "object.__class__",.ref a,tp],[]⟩) R s:=by
 obtain ⟨hh,g,dr,t,os⟩:=s;have L0:=Dg (M:=model prog w) hx hc;have L1:=looks_mroIn (M:=model prog w) X hm;refine codeAny_call_builtin PySem.W.KF.slot_gs.plain PySem.W.KF.entry_gs (PySem.W.KF.slot_gs.check _ _ _ _ _ _ _ _ PySem.W.KF.type_class (PySem.W.KF.args_gs _ _ _) ?_);unfold Builtin.«getset_descriptor.__get__» descrGet;rw[PySem.W.dga_obj];refine af (ai ?_);unfold descrGetter descrCheckInstance descrNameAndClass isInstance;simp only[PySem.W.KF.owner_class];repeat lk
 refine ⟨Code.quiet_builtin _ (by ac_rfl),codeAny_builtin PySem.W.KF.entry_class ?_⟩;unfold Builtin.«object.__class__» shownTypeOf;repeat lk
 exact h
theorem Vb{tk:Tok}{Q:Fin->AI->Prop}(X:K.In h)(x:Xin K D)(hx:h.get? a=some o)(hc:o.cls=.ref D)(hq:Q (.done (.ret (.ref D))) ⟨h,g,d,t,os⟩):
  wpAny (model prog w) A (Builtin.«object.__getattribute__» ⟨[.ref a,.str "__class__" tk],[]⟩) Q E ⟨h,g,d,t,os⟩:=by
 have hT5:(⟨h,g,d,t,os⟩:AI).TypeIs (.builtin "object.__class__") "getset_descriptor":=F.typeOf_object_class;have f5:=F.typeOf_object_class;have f6:=F.slot_gs_get.lookup;have f7:=F.slot_gs_set.lookup;have L1:=looks_findIn (M:=model prog w) X x.c;repeat (any_goals (first |assumption | (with_reducible refine g0 hx ?_;rw[hc]) |with_reducible refine L1.at ?_ |wp_step))
 refine Va (s:=⟨h,g,d,t,os⟩) X hx hc x.o ?_;repeat (any_goals (first |assumption |wp_step))
theorem Vc{M:Model}{nameV:AN}{Q:Unit->AI->Prop}(X:K.In h)(x:Xin K D)(hx:h.get? a=some o)(hc:o.cls=.ref D)(hq:Q () ⟨h,g,d,t,os⟩):
  wpAny M A (checkBuiltinCall "BaseException.__getattribute__" ⟨[.ref a,nameV],[]⟩) Q E ⟨h,g,d,t,os⟩:=by
 have hk:builtinKind "BaseException.__getattribute__"=some .slot:=by ac_rfl
 have hsplit:splitId "BaseException.__getattribute__"=some ("BaseException","__getattribute__"):=by ac_rfl
 have L1:=looks_mroIn (M:=M) X x.b;have ha:=F.args_bexc_ga (.ref a) nameV;simp only[checkBuiltinCall,hk,hsplit];refine af ?_
 .unfold isInstance;repeat (first | (with_reducible refine g0 hx ?_;rw[hc]) |with_reducible refine L1.at ?_ |wp_step)
  exact hq
theorem Vd{tk:Tok}{R:Result->AI->Prop}(X:K.In h)(x:Xin K D)(hx:h.get? a=some o)(hc:o.cls=.ref D)(hq:R (.ok (.ret (.ref D))) ⟨h,g,d,t,os⟩):
  codeAny (model prog w) A (.call (.builtin "BaseException.__getattribute__") ⟨[.ref a,.str "__class__" tk],[]⟩) R ⟨h,g,d,t,os⟩:=
 codeAny_call_builtin (by ac_rfl) F.entry_bexc_ga (Vc X x hx hc (Vb X x hx hc hq))
theorem Ve{Q:Option AN->AI->Prop}(X:K.In h)(x:Xin K D)(hx:h.get? a=some o)(hc:o.cls=.ref D)(hq:Q (some (.ref D)) ⟨h,g,d,t+1,os⟩):
  wpAny (model prog w) A (getAttr? (.ref a) "__class__") Q E ⟨h,g,d,t,os⟩:=by
 have L1:=looks_findIn (M:=model prog w) X x.ga;have L2:=looks_findIn (M:=model prog w) X x.g;have f3:bindSpecial (.builtin "BaseException.__getattribute__") (.ref a)=pure (.builtin "BaseException.__getattribute__",[.ref a]):=(PySem.F.excAttr_ValueError).ga.bind (.ref a);have hx2:(Value.builtin "BaseException.__getattribute__"==Value.builtin "object.__getattribute__")=false:=by ac_rfl
 have hx1:(onTheHeap (Value.ref D)&&Value.builtin "BaseException.__getattribute__"==Value.builtin "object.__getattribute__")=false:=by rw[hx2];rfl
 unfold getAttr? getAttrBy? getAttrBy;repeat (any_goals (first |assumption | (with_reducible refine g0 hx ?_;rw[hc]) |with_reducible refine L1.at ?_ |with_reducible refine L2.at ?_ |wp_step))
 refine Vd X x hx hc ?_;repeat (any_goals (first |assumption |wp_step))
def dq(K:PF)(c:AN):Bool:=match c with
 |.ref C=>(clsIn K C).isSome&&typeIn K (.ref C)==some (.type "type")
 |.type T=>T=="ValueError"
 |_=>false
theorem ty_ValueError:typeOf (.type "ValueError")=pure (.type "type"):=by rfl'
theorem Dh {M:Model} {c:AN} (X:K.In h) (e:dq K c=true):Looks M h (typeOf c) (.type "type")/\Looks M h (isType c) true:=by
 unfold dq at e;split at e
 .rename_i C;rw[ae,av]at e;obtain ⟨e0,e1⟩:=e;refine ⟨looks_typeIn X e1,?_⟩;unfold clsIn at e0;split at e0
  .rename_i c' d' cd' sl' ho;intro A' Q' E' s' k q;unfold isType loadHead;exact af (wpAny_loadPart (k _ _ (X _ _ ho)) (ai q))
  .cases e0
 .rename_i T;rw[av]at e;subst e;exact ⟨Looks.of_pure ty_ValueError,Looks.of_pure rfl⟩
 .cases e
theorem Vf{c:AN}{b:Bool}{dep:Int}{tk:Tok}{Q:Fin->AI->Prop}(X:K.In h)(x:Xin K D)(hx:h.get? a=some o)(hc:o.cls=.ref D)(hk:dq K c=true)
  (hm:mroIn K D c=some b) (hne:b=false->(Value.ref D==c)=false) (hq:∀t',Q (.done (.ret (.bool b))) ⟨h,g,d,t',os⟩):
  wpAny (model prog w) A (Builtin.«isinstance.nested» ⟨[.ref a,c,.int dep tk],[]⟩) Q E ⟨h,g,d,t,os⟩:=by
 obtain ⟨hty,his⟩:=Dh (M:=model prog w) X hk;have hsub:=looks_mroIn (M:=model prog w) X hm;have L0:=Dg (M:=model prog w) hx hc;have LI:Looks (model prog w) h (isInstance (.ref a) c) b:=L0.andThen hsub;have hisD:Looks (model prog w) h (isType (.ref D)) true:=by
  have e0:=x.d;unfold clsIn at e0;split at e0
  .rename_i c' d' cd' sl' ho;intro A' Q' E' s' k q;unfold isType loadHead;exact af (wpAny_loadPart (k _ _ (X _ _ ho)) (ai q))
  .cases e0
 unfold Builtin.«isinstance.nested»;refine af (L0.at ?_);by_cases he:(Value.ref D==c)=true
 .rw[if_pos he];cases b with
  |false=>rw[hne rfl]at he;cases he
  |true=>
   repeat (first |refine ai ?_ |refine gg ?_ |refine af ?_)
   exact hq t
 .rw[if_neg he];refine af (hty.at ?_);rw[if_pos (!1)]
  k_delta "plainIsInstance"
  refine af (af (his.at ?_));simp only[ft,de,fb];refine af (LI.at ?_);cases b with
  |true=>
   simp only[if_true];repeat (first |refine ai ?_ |refine gg ?_ |refine af ?_)
   exact hq t
  |false=>
   simp only[de,fb];refine af (Ve X x hx hc ?_);refine af (hisD.at ?_);simp only[ft,de,fb];refine af (gg ?_);refine hsub.at ?_;first
    |exact ai (hq _)
    |exact ai (ai (hq _))
    |exact af (ai (ai (hq _)))
theorem Vg{c:AN}{b:Bool}{Q:AG}{s:AI}(X:K.In s.heap)(x:Xin K D)(hx:s.heap.get? a=some o)(hc:o.cls=.ref D)(hk:dq K c=true)
  (hm:mroIn K D c=some b) (hne:b=false->(Value.ref D==c)=false) (hq:∀t',Q (.bool b) { s with toks:=t' }):wpAny (model prog w) A (call (.builtin "isinstance") [.ref a,c]) Q E s:=by
 obtain ⟨hh,g,d,t,os⟩:=s;exact call_isinstance_of (Vf X x hx hc hk hm hne λt'=>hq t') (by intro e;cases e)
end
open PySem.W (findIn mroIn clsIn typeIn Looks looks_findIn looks_mroIn looks_typeIn)
section
variable {X:Cx}
def XO(H:Hp)(a c:AQ):Prop:=∃o y,H a=some (.frz o (.own y))/\o.cls=.ref c
def valOf:V->AN
 |.ref a=>.ref a
 |.ty n=>.type n
 |_=>.none
def Di(K:PF):AR->Hp->VK->Prop:=λxs H Q=>∃a c cv b,xs=[.ref a,cv]/\XO H a c/\jy K c=true/\dq K (valOf cv)=true/\mroIn K c (valOf cv)=some b/\(b=false->(Value.ref c==valOf cv)=false)/\Q (.bl b) H
theorem Vh:bh X (.builtin "isinstance") (Di X.K):=by
 intro p9 s Y H xs us Q I r h;obtain ⟨a,c,cv,b,rfl,⟨o,y,ho,hc⟩,hx,hk,hm,hne,q⟩:=h;obtain ⟨u,w',rfl,rx,ry⟩:=vals2 r;cases rx;have e2:w'=valOf cv:=by
  cases cv with
  |ref a=>exact ry
  |ty n=>exact ry
  |_=>cases hk
 subst e2;have hob:=(show ObjOk X.prog X.w H s.heap a (.frz o (.own y)) from I.hok a _ ho).1;exact Vg I.kIn (U9 hx) hob hc hk hm hne λt'=>⟨.bl b,H,I.tok _,rfl,q⟩
end
section
variable {M:Model} {A:AM} {E:AG} {h:Heap} {g:Array GenState} {d:Drawn} {t:Nat} {os:OsState} {e:AQ} {oe:Obj} {K:PF} {D C:AQ}
theorem Dj {Q:Bool->AI->Prop} (X:K.In h) (he:h.get? e=some oe) (hcls:oe.cls=.ref D) (hC:typeIn K (.ref C)=some (.type "type")) (hk:(clsIn K C).isSome=true) (hB:mroIn K C (.type "BaseException")=some true) (hm:mroIn K D (.ref C)=some true)
  (hq:Q true ⟨h,g,d,t,os⟩):wpAny M A (excMatches (.ref e) (.ref C)) Q E ⟨h,g,d,t,os⟩:=by
 have f:=tc_notTuple;have L0:=looks_typeIn (M:=M) X hC;have L1:=looks_mroIn (M:=M) X hB;have L2:=looks_mroIn (M:=M) X hm;unfold clsIn at hk;split at hk
 .rename_i c' d' cd' sl' ho;have hoC:=X _ _ ho;unfold excMatches;have hC2:(K.lookup C).map (·.cls)=some (.type "type"):=hC;rw[ho]at hC2;have ec:c'=.type "type":=by simpa using hC2
  subst ec;repeat (first | (with_reducible refine g0 he ?_;rw[hcls]) |with_reducible refine g0 hoC ?_ |with_reducible refine L1.at ?_ |with_reducible refine L2.at ?_ |wp_step)
  exact hq
 .cases hk
end
section
variable {X:Cx} {p9:AC} {σ:St} {H:Hp} {s:AI}
theorem Inv.tell(I:Inv X p9 σ H s){a:AQ}{o:Obj}{vs:Array AN}(h0:X.s₀.heap.get? a=none)(hH:H a=none)(ho:s.heap.get? a=some o)(hd:o.data=.fields vs)(hp:∀p∈X.pn++p9,p.1≠a):
  Inv X p9 σ (upd H a (.frz o (.own a))) s:=by
 have nl:X.env.locals≠a:=by intro e;obtain ⟨m,⟨o',es,ep,e1,e2,_⟩,_⟩:=I.loc;rw[e,ho]at e1;cases e1;rw[hd]at e2;cases e2
 have nc:∀x c,X.env.cells.lookup x=some c->c≠a:=by intro x c hc e;obtain ⟨v,o',e1,e2⟩:=I.cell x c hc;rw[e,ho]at e1;cases e1;rw[hd]at e2;cases e2
 refine ⟨I.ok,I.os,I.bare,⟨I.base.keep,I.base.slot,λb u q n hx=>?_,I.base.there,λb xs q=>?_,λb u v q=>?_,λb ps q=>?_⟩,I.loc,I.cell,by rw[aF nl];exact I.free,λx c e=>by rw[aF (nc x c e)];exact I.freeC x c e,λp hpp=>?_,λb u q=>?_,I.len⟩
 .rw[aF (λe=>by rw[e,h0]at q;cases q)];exact I.base.free b u q n hx
 .have q':=I.base.tups b xs q;rw[aF (aZ q' hH)];exact q'
 .have q':=I.base.frzs b u v q;rw[aF (aZ q' hH)];exact q'
 .obtain ⟨m,q'⟩:=I.base.tbls b ps q;exact ⟨m,by rw[aF (aZ q' hH)];exact q'⟩
 .obtain ⟨p1,p2,p3⟩:=I.pin p hpp;exact ⟨p1,by rw[aF (hp p hpp)];exact p2,p3⟩
 .by_cases hb:b=a
  .subst hb;rw[cY]at q;cases q;exact ⟨ho,o,ho⟩
  .rw[aF hb]at q;exact (I.hok b u q).stay (λ_ _ _ z=>z) (λc z=>by rw[aF (aZ z hH)];exact z) λc xs z=>by rw[aF (aZ z hH)];exact z
end
section
variable {X:Cx}
abbrev TX:=(St->Hp->Prop)->(AN->St->Hp->Prop)->St->Hp->Prop
def XP(X:Cx)(p9:AC)(ex:AN->St->Hp->Prop)(Y:St)(e:AN)(s1:AI):Prop:=∃a c H1 s0 H',e=.ref a/\Inv X p9 Y H1 s0/\Caught X H1 s0 H' a c s1/\ex c Y H'
def NP(X:Cx)(p9:AC)(nx:St->Hp->Prop)(f:Flow)(s1:AI):Prop:=f=.next/\∃σ' H',Inv X p9 σ' H' s1/\nx σ' H'
def PXs(X:Cx)(sts:AF)(t:TX):Prop:=
 ∀(p9:AC)(s:AI)(Y:St)(H:Hp)(nx:St->Hp->Prop)(ex:AN->St->Hp->Prop)(E':AG),Inv X p9 Y H s->PassesOwn (model X.prog X.w) X.A X.env E'->(∀e s1,XP X p9 ex Y e s1->E' e s1)->t nx ex Y H->
  ↥X (execs sts X.env) (NP X p9 nx) E' s
theorem Vi{k:Nat}{f:AQ}{fd:AJ}{ps:AD}{sp:Sp}{x:Str}{p cpos p0:Pos}{e:AO}{es:AE}{ta:TA}
  (F:FnOk X.prog X.w X.K X.mg X.base (CX1 X.prog X.w) k f fd ps sp) (hr:Room k X.A) (hg:Gl X x) (hm:X.mg x=some (.ref f)) (hk:PySem.W.keepIn X.K (.ref f)=true) (hbd:Binds X.K fd ps [])
  (ha:∀E':AN->AI->Prop,PassesOwn (model X.prog X.w) X.A X.env E'->PA (X.wish E') (e::es) ta)
  (hs:swapsWith (.Call (.Name x p) (e::es) [] cpos) none p0.line X.env=pure false)
  (hdb:(x==("__debug__":Str))=false:=by decide) (he:starEach (e::es) X.env=(false,eval e X.env)::starEach es X.env:=by rfl) (hpl:(backTo cpos (starEach es X.env)).any (·.1)=false:=by rfl):
  PXs X [.Expr (.Call (.Name x p) (e::es) [] cpos) p0] (λnx ex Y H=>ta Y H λvs H1=>sp vs H1 (λ_ H2=>nx Y H2) (λc _ H2=>ex c Y H2)):=by
 intro p9 s Y H nx ex E' I hpo hE h;refine gs (wpAny_Expr_any (gI (iy (X:=X.wish E') (I.wish E') hg hm ?_ hdb)) I.quiet hs);refine PySem.W.callWith_K (h₀:=X.base) I.ok.mod.kin hk (thn (ha _ hpo cpos p9 s Y H _ (I.wish _) h) λus s1 hy=>?_) he hpl;obtain ⟨vs,H1,I1,r,q⟩:=hy;have I1:=I1.unwish;refine ⟨I1.kIn,?_⟩;have hl:us.length=ps.length:=by rw[<-r.length];exact F.len _ _ _ _ q
 have hb2:=hbd s1 us I1.kIn (by rw[d6];exact hl);rw[d6]at hb2;refine wpAny_call (codeAny_mono (F.run X.A X.stack s1 H1 ⟨us,[]⟩ us vs _ _ hr I1.env0 hb2 r q) λrr s2 hq=>?_);cases rr with
 |error ev=>
  obtain ⟨a,c,H2,rfl,ho,hgn,un,hok,tr,qn⟩:=hq;exact hE _ _ ⟨a,c,H1,s1,H2,rfl,I1,⟨ho,hgn,un,hok,tr⟩,qn⟩
 |ok fl=>
  cases fl with
  |ret u=>
   obtain ⟨v,H2,I2,r2,q2⟩:=I1.after hq;exact eI ⟨rfl,Y,H2,I2,q2⟩
  |next=>exact False.elim hq
  |brk=>exact False.elim hq
  |cont=>exact False.elim hq
theorem Vj{k:Nat}{f:AQ}{fd:AJ}{ps:AD}{sp:Sp}{x y:Str}{i:Nat}{p cpos p0 p2:Pos}{e:AO}{es:AE}{ta:TA}
  (F:FnOk X.prog X.w X.K X.mg X.base (CX1 X.prog X.w) k f fd ps sp) (hr:Room k X.A) (hg:Gl X x) (hm:X.mg x=some (.ref f)) (hk:PySem.W.keepIn X.K (.ref f)=true) (hbd:Binds X.K fd ps [])
  (hN:X.N.Nodup) (hi:X.N[i]?=some y) (hx:Loc X.env.scope y) (hf:X.fn y=true\/X.env.scope.names.lookup y=some .local)
  (ha:∀E':AN->AI->Prop,PassesOwn (model X.prog X.w) X.A X.env E'->PA (X.wish E') (e::es) ta)
  (hs:swapsWith (.Call (.Name x p) (e::es) [] cpos) (some (.Name y p2)) p0.line X.env=pure false)
  (hdb:(x==("__debug__":Str))=false:=by decide) (he:starEach (e::es) X.env=(false,eval e X.env)::starEach es X.env:=by rfl) (hpl:(backTo cpos (starEach es X.env)).any (·.1)=false:=by rfl):
  PXs X [.Assign [.Name y p2] (.Call (.Name x p) (e::es) [] cpos) p0] (λnx ex Y H=>ta Y H λvs H1=>sp vs H1 (λv H2=>nx (Y.set i (some v)) H2) (λc _ H2=>ex c Y H2)):=by
 intro p9 s Y H nx ex E' I hpo hE h;refine gs (wpAny_Assign_Name (gI (iy (X:=X.wish E') (I.wish E') hg hm ?_ hdb)) hs);refine PySem.W.callWith_K (h₀:=X.base) I.ok.mod.kin hk (thn (ha _ hpo cpos p9 s Y H _ (I.wish _) h) λus s1 hy=>?_) he hpl;obtain ⟨vs,H1,I1,r,q⟩:=hy;have I1:=I1.unwish;refine ⟨I1.kIn,?_⟩;have hl:us.length=ps.length:=by rw[<-r.length];exact F.len _ _ _ _ q
 have hb2:=hbd s1 us I1.kIn (by rw[d6];exact hl);rw[d6]at hb2;refine wpAny_call (codeAny_mono (F.run X.A X.stack s1 H1 ⟨us,[]⟩ us vs _ _ hr I1.env0 hb2 r q) λrr s2 hq=>?_);cases rr with
 |error ev=>
  obtain ⟨a,c,H2,rfl,ho,hgn,un,hok,tr,qn⟩:=hq;exact hE _ _ ⟨a,c,H1,s1,H2,rfl,I1,⟨ho,hgn,un,hok,tr⟩,qn⟩
 |ok fl=>
  cases fl with
  |ret u=>
   obtain ⟨v,H2,I2,r2,q2⟩:=I1.after hq;exact iw I2 hN hi hx r2 (λs3 I3=>eI ⟨rfl,_,H2,I3,q2⟩) hf
  |next=>exact False.elim hq
  |brk=>exact False.elim hq
  |cont=>exact False.elim hq
theorem Vk{c:AO}{a b:AF}{pos:Pos}{tc:TT}{ta tb:TX}(hc:∀E':AN->AI->Prop,PassesOwn (model X.prog X.w) X.A X.env E'->PT (X.wish E') c tc)(ha:PXs X a ta)(hb:PXs X b tb):
  PXs X [.If c a b pos] (λnx ex Y H=>tc Y H λd H1=>if d=true then ta nx ex Y H1 else tb nx ex Y H1):=by
 intro p9 s Y H nx ex E' I hpo hE h;refine gs (wpAny_If (thn (hc E' hpo p9 s Y H _ (I.wish _) h) λd s1 ⟨H1,I1,q1⟩=>?_));have I1:=I1.unwish;have fin:∀f s2,NP X p9 nx f s2->(match f with |.next=>↥X (execs [] X.env) (NP X p9 nx) E' s2 |f=>NP X p9 nx f s2):=by rintro f s2 ⟨rfl,q⟩;exact eI ⟨rfl,q⟩
 cases d with
 |true=>exact thn (ha p9 s1 Y H1 nx ex E' I1 hpo hE q1) fin
 |false=>exact thn (hb p9 s1 Y H1 nx ex E' I1 hpo hE q1) fin
theorem Vl{prog:AK}{w:World}{A:AM}{E:AG}{s:AI}{env:Env}{K:PF}{e C D:AQ}{t:AO}{b₀:Stmt}{suite:AF}{pos:Pos}{rest:List ExceptHandler}{Q:Flow->AI->Prop}
  (hC:typeIn K (.ref C)=some (.type "type")) (hk:(clsIn K C).isSome=true) (hB:mroIn K C (.type "BaseException")=some true) (hm:mroIn K D (.ref C)=some true)
  (h:wpAny (model prog w) (A.mark (some (.ref e))) (eval t env) (λc s₁=>c=.ref C/\K.In s₁.heap/\(∃oe,s₁.heap.get? e=some oe/\oe.cls=.ref D)/\
   wpAny (model prog w) (A.mark (some (.ref e))) (setFlight (.ref e) none) (λ_ s₂=>wpAny (model prog w) (A.mark (some (.ref e))) (execs (b₀::suite) env) Q (notedBy (model prog w) (A.mark (some (.ref e))) env (cameBackBy (model prog w) A env E)) s₂) (notedBy (model prog w) (A.mark (some (.ref e))) env (cameBackBy (model prog w) A env E)) s₁) (notedBy (model prog w) (A.mark (some (.ref e))) env (cameBackBy (model prog w) A env E)) s):
  wpAny (model prog w) A (handleBy (.ref e) env (.ExceptHandler (some t) none (b₀::suite) pos::rest)) Q E s:=by
 refine wpAny_handleBy_cons (codeAny_handlers_test (cm h (λc s₁ h₁=>?_) λ_ _ y=>y)) (by intro q;cases q);obtain ⟨rfl,O,⟨oe,he,hcls⟩,hkk⟩:=h₁;obtain ⟨hh,g,d,tk,os⟩:=s₁;exact Dj O he hcls hC hk hB hm (codeAny_handlers_suite hkk)
theorem Vm{prog:AK}{w:World}{A:AM}{E:AG}{s:AI}{env:Env}{K:PF}{e C D:AQ}{t:AO}{n:Str}{b₀:Stmt}{suite:AF}{pos:Pos}{rest:List ExceptHandler}{Q:Flow->AI->Prop}
  (hC:typeIn K (.ref C)=some (.type "type")) (hk:(clsIn K C).isSome=true) (hB:mroIn K C (.type "BaseException")=some true) (hm:mroIn K D (.ref C)=some true)
  (h:wpAny (model prog w) (A.mark (some (.ref e))) (eval t env) (λc s₁=>c=.ref C/\K.In s₁.heap/\(∃oe,s₁.heap.get? e=some oe/\oe.cls=.ref D)/\
   wpAny (model prog w) (A.mark (some (.ref e))) (setFlight (.ref e) none) (λ_ s₂=>
     wpAny (model prog w) (A.mark (some (.ref e))) (storeName env n (.ref e)) (λ_ s₃=>
      wpAny (model prog w) (A.mark (some (.ref e))) (execs (b₀::suite) env)
       (λf s₄=>wpAny (model prog w) A (do bindName env n .none;unbindBehindTheSuite env n pos) (λ_ s₅=>Q f s₅) E s₄)
       (AsSuiteRaised (model prog w) (A.mark (some (.ref e))) env n pos (notedBy (model prog w) (A.mark (some (.ref e))) env (cameBackBy (model prog w) A env E))) s₃) (notedBy (model prog w) (A.mark (some (.ref e))) env (cameBackBy (model prog w) A env E)) s₂) (notedBy (model prog w) (A.mark (some (.ref e))) env (cameBackBy (model prog w) A env E)) s₁) (notedBy (model prog w) (A.mark (some (.ref e))) env (cameBackBy (model prog w) A env E)) s):
  wpAny (model prog w) A (handleBy (.ref e) env (.ExceptHandler (some t) (some n) (b₀::suite) pos::rest)) Q E s:=by
 refine wpAny_handleBy_cons (codeAny_handlers_test (cm h (λc s₁ h₁=>?_) λ_ _ y=>y)) (by intro q;cases q);obtain ⟨rfl,O,⟨oe,he,hcls⟩,hkk⟩:=h₁;obtain ⟨hh,g,d,tk,os⟩:=s₁;exact Dj O he hcls hC hk hB hm (codeAny_handlers_suite_as hkk)
structure Cat(K:PF)(C:AQ):Prop where
 t:typeIn K (.ref C)=some (.type "type")
 c:(clsIn K C).isSome=true
 b:mroIn K C (.type "BaseException")=some true
def qY (K:PF) (C:AQ):Bool:=typeIn K (.ref C)==some (.type "type")&&(clsIn K C).isSome&&mroIn K C (.type "BaseException")==some true
theorem Dk{K:PF}{C:AQ}(h:qY K C=true):Cat K C:=by unfold qY at h;rw[ae,ae,av,av]at h;exact ⟨h.1.1,h.1.2,h.2⟩
theorem Vn{C:AQ}{cx y:Str}{i:Nat}{b:Bool}{j:Nat}{p1 p2 p3 p4 p5 pos:Pos}{body:AF}{t:TX}(hb:PXs X body t)(hst:X.stack=X.env::X.outer)
  (hcg:Gl X cx) (hcm:X.mg cx=some (.ref C)) (hcb:Cat X.K C) (hN:X.N.Nodup) (hi:X.N[i]?=some y) (hx:Loc X.env.scope y) (hf:X.fn y=true\/X.env.scope.names.lookup y=some .local)
  (hs2:swapsWith (.Constant (.bool b) j p3) (some (.Name y p2)) p4.line X.env=pure false:=by rfl) (hdc:(cx==("__debug__":Str))=false:=by decide):
  PS X (.Try body [.ExceptHandler (some (.Name cx p1)) none [.Assign [.Name y p2] (.Constant (.bool b) j p3) p4] p5] [] [] pos)
   (λD Y H=>t D.nx (λc σ' H2=>∃d,c=.ref d/\mroIn X.K d (.ref C)=some true/\D.nx (σ'.set i (some (.bl b))) H2) Y H):=by
 intro p9 s Y H D I h;refine wpAny_Try_except (cm (hb p9 s Y H _ _ _ I PassesOwn.looking (λe s1 q=>?_) h) (λf s1 q=>?_) λ_ _ q=>q)
 .obtain ⟨a,c,H1,s0,H2,rfl,I1,K,d,rfl,hm,qn⟩:=q;refine K.note I1 hst λh3 K3=>Vl (K:=X.K) (C:=C) (D:=d) hcb.t hcb.c hcb.b hm ?_;have J3:=K3.inv I1;have hcl:∃oe,h3.get? a=some oe/\oe.cls=.ref d:=by
   obtain ⟨oe,_,_,_,_,t1,t2,_⟩:=K3.tr;exact ⟨oe,t1,t2⟩
  refine iy (X:=X.marked a X.xe) (J3.marked a X.xe) hcg hcm ⟨rfl,J3.kIn,hcl,?_⟩ hdc;refine K3.flight I1 λh4 K4=>?_;have J4:=K4.inv I1;exact cm (Bc (lF (X:=X.marked a _) hN hi hx Ay hs2 hf) p9 _ Y H2 D (J4.marked a _) qn) (λf s5 z=>z.unmarked J4.ok) λ_ _ z=>z
 .obtain ⟨rfl,σ',H',I',q'⟩:=q;exact eI ⟨σ',H',I',q'⟩
theorem Vo{M:Model}{A:AM}{E:AG}{p9:AC}{Y:St}{H:Hp}{s:AI}{i:Nat}{x:Str}{pos:Pos}{Q:Unit->AI->Prop}(I:Inv X p9 Y H s)(hN:X.N.Nodup)(hi:X.N[i]?=some x)(hk:X.env.kindOf x=some .local)
  (h:∀s',Inv X p9 (Y.set i none) H s'->Q () s'):wpAny M A (do bindName X.env x .none;unbindBehindTheSuite X.env x pos) Q E s:=by
 obtain ⟨m,hn,hl⟩:=id I.loc;have hcls:(X.env.scope.kind==.class||(X.env.scope.kind==.module&&X.env.locals != X.env.globals))=false:=by rw[I.ok.kind];rfl
 have hiσ:i < Y.length:=by rw[I.len];exact (ar.mp hi).1
 have cne:=I.cne;have tracked:∀{a:AQ}{h':Heap},(∃o,s.heap.get? a=some o/\H a=none)->Heap.SameBut a s.heap h'->HOk X.prog X.w H h':=λ{a h'} ha hs b ob e=>by
  obtain ⟨_,_,hfree⟩:=ha;refine (I.hok b ob e).stay (λc w' hc q=>(hs.2 c ?_).trans q) (λ_ q=>q) λ_ _ q=>q;rintro rfl;rcases hc with rfl |hc
  .rw[hfree]at e;cases e
  .rw[hfree]at hc;cases hc
 refine wpAny_nameGoes_keeps hk hn hcls λh' v hn' hs=>?_;obtain ⟨oL,_,_,hoL,_⟩:=id hn;refine h _ ⟨I.ok,I.os,I.bare,⟨λb o e n hb hx=>?_,λb o e n hb hx=>?_,I.base.free,λb o e hx=>?_,I.base.tups,I.base.frzs,I.base.tbls⟩,⟨_,hn',λj y v' e1 e2 e3=>?_⟩,λy c e=>?_,I.free,I.freeC,λp hp=>?_,tracked ⟨oL,hoL,I.free⟩ hs,!!I.len⟩
 .exact (hs.2 b (ca (bi (ay e) I.ok.above))).trans (I.base.keep b o e n hb hx)
 .obtain ⟨sl,e1⟩:=I.base.slot b o e n hb hx;exact ⟨sl,(hs.2 b (ca (bi (ay e) I.ok.above))).trans e1⟩
 .obtain ⟨o',e1⟩:=I.base.there b o e hx;exact ⟨o',(hs.2 b (ca (bi (ay e) I.ok.above))).trans e1⟩
 .by_cases hj:j=i
  .subst hj;rw[gE hiσ]at e2;cases e2
  .rw[List.getElem?_set_ne (Ne.symm hj)]at e2;obtain ⟨u',r',q⟩:=hl j y v' e1 e2 e3;refine ⟨u',r',?_⟩;rcases q with ⟨k,e⟩ |⟨k,c,e,z⟩
   .refine .inl ⟨k,?_⟩;have:y≠x:=λe=>hj (vd hN e1 (e ▸ hi));simp[this,e]
   .exact .inr ⟨k,c,e,z.sameBut hs (cne y c e)⟩
 .obtain ⟨w',z⟩:=I.cell y c e;exact ⟨w',z.sameBut hs (cne y c e)⟩
 .obtain ⟨e,n,ne,nf,d⟩:=I.pin p hp;exact ⟨(hs.2 p.1 ne).trans e,n,ne,nf,d⟩
theorem Vp{C:AQ}{cx y n:Str}{i jn:Nat}{p1 p2 p3 p4 p5 pos:Pos}{body:AF}{t:TX}(hb:PXs X body t)(hst:X.stack=X.env::X.outer)(hex:X.ex=[])
  (hcg:Gl X cx) (hcm:X.mg cx=some (.ref C)) (hcb:Cat X.K C) (hN:X.N.Nodup) (hi:X.N[i]?=some y) (hx:Loc X.env.scope y) (hf:X.fn y=true\/X.env.scope.names.lookup y=some .local)
  (hj:X.N[jn]?=some n) (hnk:X.env.kindOf n=some .local) (hnl:X.env.scope.names.lookup n=some .local) (hnd:(n==("__debug__":Str))=false) (hnc:(n==("__classdict__":Str))=false)
  (hs2:swapsWith (.Name n p3) (some (.Name y p2)) p4.line X.env=pure false) (hdc:(cx==("__debug__":Str))=false:=by decide):
  PS X (.Try body [.ExceptHandler (some (.Name cx p1)) (some n) [.Assign [.Name y p2] (.Name n p3) p4] p5] [] [] pos)
   (λD Y H=>t D.nx (λc σ' H2=>∃d,c=.ref d/\mroIn X.K d (.ref C)=some true/\∀a o,H2 a=none->o.cls=.ref d->D.nx (((σ'.set jn (some (.ref a))).set i (some (.ref a))).set jn none) (upd H2 a (.frz o (.own a)))) Y H):=by
 intro p9 s Y H D I h;refine wpAny_Try_except (cm (hb p9 s Y H _ _ _ I PassesOwn.looking (λe s1 q=>?_) h) (λf s1 q=>?_) λ_ _ q=>q)
 .obtain ⟨a,c,H1,s0,H2,rfl,I1,K,d,rfl,hm,qn⟩:=q;refine K.note I1 hst λh3 K3=>Vm (K:=X.K) (C:=C) (D:=d) hcb.t hcb.c hcb.b hm ?_;have J3:=K3.inv I1;have hcl:∃oe,h3.get? a=some oe/\oe.cls=.ref d:=by
   obtain ⟨oe,_,_,_,_,t1,t2,_⟩:=K3.tr;exact ⟨oe,t1,t2⟩
  refine iy (X:=X.marked a X.xe) (J3.marked a X.xe) hcg hcm ⟨rfl,J3.kIn,hcl,?_⟩ hdc;refine K3.flight I1 λh4 K4=>?_;have J4:=K4.inv I1;obtain ⟨oe,vs,T,oT,ts,t1,t2,t3,t4,t6,t7,t8,t9,n1,n2,n3,n4⟩:=K4.tr;have n0:X.s₀.heap.get? a=none:=by
   cases e:X.s₀.heap.get? a with
   |none=>rfl
   |some o=>
    obtain ⟨o',e'⟩:=I1.base.there a o e (by rw[hex];simp);rw[n1]at e';cases e'
  have J5:=J4.tell n0 n3 t1 t3 (λp hp e=>by
   obtain ⟨e1,_⟩:=I1.pin p hp;rw[e,n1]at e1;cases e1)
  have q5:=qn a oe n3 t2;refine iw (X:=X.marked a X.xe) (J5.marked a X.xe) hN hj (.inl hnl) (v:=.ref a) rfl (λs6 J6=>?_) (.inr hnl);have J6':Inv X p9 (Y.set jn (some (.ref a))) (upd H2 a (.frz oe (.own a))) s6:=J6.unmarked J4.ok;have hl6:jn < Y.length:=by rw[I1.len];exact (ar.mp hj).1
  refine cm (Bc (lF (X:=X.marked a _) hN hi hx (vf (i:=jn) hj (.inl hnl) hnd hnc) hs2 hf) p9 s6 _ _ { nx:=λσ' H'=>D.nx (σ'.set jn none) H',rt:=λ_ _=>False,bk:=λ_ _=>False,ct:=λ_ _=>False } (J6'.marked a _) ⟨.ref a,gE hl6,q5⟩) (λf s7 z=>?_) λ_ _ z=>z;have z':=z.unmarked (X:=X) J4.ok;cases f with
  |next=>
   obtain ⟨σ7,H7,I7,q7⟩:=z';exact Vo I7 hN hj hnk λs8 I8=>⟨_,H7,I8,q7⟩
  |brk=>obtain ⟨_,_,_,q⟩:=z';exact q.elim
  |cont=>obtain ⟨_,_,_,q⟩:=z';exact q.elim
  |ret u=>obtain ⟨_,_,_,_,_,q⟩:=z';exact q.elim
 .obtain ⟨rfl,σ',H',I',q'⟩:=q;exact eI ⟨σ',H',I',q'⟩
end
open PySem.SeqAt
section
variable {X:Cx}
theorem vL:∀{bs:List Bool}{us:AB},Vals (bs.map V.bl) us->us=bs.map Value.bool
 |[],us,r=>by cases r;rfl
 |b::bs,us,r=>by
  cases r with
  |cons r1 r2=>
   have e:_=Value.bool b:=r1;rw[e,vL r2];rfl
theorem Dl(k:Bool){bs:List Bool}:∀y,y∈(bs.map Value.bool)->∀(A:AM)(s:AI),EqAt A s y (.bool k) (isBoolOf k y):=by intro y hy A s;obtain ⟨b,_,rfl⟩:=bX.mp hy;exact EqAt.bool_bool b k
theorem Vq(k:Bool)(bs:List Bool):(bs.map Value.bool).countP (isBoolOf k)=bs.count k:=by
 induction bs with
 |nil=>rfl
 |cons b bs ih=>
  rw[a9,List.countP_cons,ih,List.count_cons];rfl
def Vr(K:PF):V->AR->Hp->VK->Prop:=λx vs H Q=>∃(p:AQ)(bs:List Bool),x=.ref p/\vs=[.bl true]/\SqL K H p (bs.map V.bl)/\Q (.int (bs.count true:Nat)) H
theorem Vs:MtR X "list.count" (Vr X.K):=by intro p9 s Y H x xs v us Q I rx rs h;obtain ⟨p,bs,rfl,rfl,hq,q⟩:=h;cases rx;obtain ⟨u,rfl,ru⟩:=vals1 rs;cases ru;obtain ⟨its,rv,⟨o,n,ho,hc,hd,hdd⟩,hz⟩:=I.list hq;obtain ⟨cls,dd,data,sl⟩:=o;simp only at hc hd hdd;subst hc hd hdd;have e:=vL rv;subst e;refine gL PySem.F.slot_list_count ⟨_,ho,rfl⟩ PySem.F.entry_list_count (PySem.F.args_list_count_2 _ _) (list_countAt p _ n _ sl (.bool true) (isBoolOf true)) ⟨ho,λy hy=>Dl true y (!!hy) _ _,?_⟩;refine ⟨.int _,H,I.tok _,⟨_,rfl⟩,?_⟩;rw[show ((bs.map Value.bool).toArray).toList=bs.map Value.bool from rfl,Vq];exact q
def Vt(K:PF):V->AR->Hp->VK->Prop:=λx vs H Q=>∃(p:AQ)(bs:List Bool),x=.ref p/\vs=[.bl true]/\SqL K H p (bs.map V.bl)/\true∈bs/\Q (.int (bs.idxOf true:Nat)) H
theorem Dm(bs:List Bool)(j:Nat)(h:j < (bs.map Value.bool).length)(h':j < bs.length):isBoolOf true (bs.map Value.bool)[j]=(bs[j]==true):=by rw[List.getElem_map];rfl
theorem Vu:MtR X "list.index" (Vt X.K):=by
 intro p9 s Y H x xs v us Q I rx rs h;obtain ⟨p,bs,rfl,rfl,hq,hin,q⟩:=h;cases rx;obtain ⟨u,rfl,ru⟩:=vals1 rs;cases ru;obtain ⟨its,rv,⟨o,n,ho,hc,hd,hdd⟩,hz⟩:=I.list hq;obtain ⟨cls,dd,data,sl⟩:=o;simp only at hc hd hdd;subst hc hd hdd;have e:=vL rv;subst e;have hj:bs.idxOf true < bs.length:=List.idxOf_lt_length_iff.mpr hin;have hz':bs.length<=sizeLine:=by rw[ag]at hz;exact hz
 have hs:sizeLine < 2 ^ 63 - 1:=by decide
 refine gL PySem.F.slot_list_index ⟨_,ho,rfl⟩ PySem.F.entry_list_index (PySem.F.args_list_index_2 _ _) (list_indexAt p _ n _ sl (.bool true) (isBoolOf true) (bs.idxOf true) (!!hj) (!0) ?_ ?_) ⟨ho,λy hy=>Dl true y (!!hy) _ _,?_⟩
 .have h3:bs.idxOf true < (bs.map Value.bool).length:=by rw[ag];exact hj
  show isBoolOf true ((bs.map Value.bool)[bs.idxOf true]'h3)=true;rw[Dm bs _ h3 hj];simpa using List.getElem_idxOf hj
 .intro j hjs hlt;have h2:j < bs.length:=by omega
  have h3:j < (bs.map Value.bool).length:=by rw[ag];exact h2
  show isBoolOf true ((bs.map Value.bool)[j]'h3)=false;rw[Dm bs j h3 h2];have h4:j < bs.findIdx (·==true):=hlt;simpa using List.not_of_lt_findIdx h4
 .exact ⟨.int _,H,I.tok _,⟨_,rfl⟩,q⟩
end
section
variable {X:Cx}
theorem Vv:OpR X (binaryOp .FloorDiv) (rI (λ_ j=>0 < j/\j < 1152921504606846976) λi j=>.int (i / j)):=opI λi j _ _ _ _ _ hc q=>by
 have h1:(0:Int) < j:=hc.1;have h2:j < 1152921504606846976:=hc.2;refine floordiv_int (!0) (by rw[Int.fdiv_eq_ediv_of_nonneg i (!0)];exact q) (.inl (PyProof.noPylong_of_log2 ?_));have:j.natAbs.log2 < 60:=(Nat.log2_lt (!0)).mpr (by show j.natAbs < 1152921504606846976;omega);omega
def vM(m:Nat):Str:=⇑(toString (m:Int))
theorem Vw{m:Nat}(h:m < 100):(m:Int).natAbs.log2 < 1920:=by have:(m:Int).natAbs=m:=Int.natAbs_natCast m;rw[this];exact Nat.lt_of_le_of_lt (Nat.log2_le_self m) (!0)
theorem Vx:bh X (.type "str") (λxs H Q=>∃m:Nat,xs=[.int m]/\m < 100/\Q (.str (vM m)) H):=by intro p9 s Y H xs us Q I r h;obtain ⟨m,rfl,hm,q⟩:=h;obtain ⟨u,rfl,ru⟩:=vals1 r;obtain ⟨t,rfl⟩:=ru;exact PySem.P.str_of_int (Vw hm) ⟨.str _,H,I.tok _,⟨_,rfl⟩,q⟩
end
end L2
namespace HT
open PySem PySem.Spec PyProof.Rows Builtin
def Vy:fillsNumberSlot (.type "tuple") "mul"=pure false:=
 PySem.fillsNumberSlot_seq (id:="tuple.__mul__") (r:=some (.builtin "tuple.__rmul__")) PySem.F.slot_tuple_mul.lookup (by ac_rfl) PySem.F.slot_tuple_rmul.lookup (by ac_rfl)
def Vz:seqRepeat? (.type "tuple")=pure (some (.builtin "tuple.__mul__")):=by unfold seqRepeat?;rw[PySem.seqSlot_of (T:="tuple") (name:="__mul__") (id:="tuple.__mul__") PySem.F.slot_tuple_mul.lookup (by ac_rfl),PySem.seqSlot_of (T:="tuple") (name:="__rmul__") (id:="tuple.__rmul__") PySem.F.slot_tuple_rmul.lookup (by ac_rfl)];rfl
def VB(a:Int)(t:Tok)(l:AQ)(items:Array AN)(n:Nat)(dd:Option AQ)(sl:Array (Option AN)):
  Meets (Builtin.«int.__rmul__» ⟨[.int a t,.ref l],[]⟩) (λ_ R s=>s.heap.get? l=some { cls:=.type "tuple",dict:=dd,data:=.seq items n,slots:=sl }/\R (.ok (.ret Value.notImplemented)) s):=
 .of_wp λprog w A R s h=>by obtain ⟨hp,g,d,tk,os⟩:=s;obtain ⟨hl,h⟩:=h;wp_walk;exact ⟨_,rfl,h⟩
def VD(l:AQ)(items:Array AN)(n:Nat)(dd:Option AQ)(sl:Array (Option AN))(k:Int)(t:Tok)(h2:2<=k)(hk:k<=1000)(hne:items.isEmpty=false)(hz:items.size * k.toNat<=sizeLine)(hz2:(List.foldl (λx1 x2=>x1++x2) #[] (List.replicate k.toNat items)).size<=sizeLine):
  Meets (Builtin.«tuple.__mul__» ⟨[.ref l,.int k t],[]⟩) (λ_ R s=>s.heap.get? l=some { cls:=.type "tuple",dict:=dd,data:=.seq items n,slots:=sl }/\
   R (.ok (.ret (.ref (~~~s)))) { s with heap:=s.heap.push { cls:=.type "tuple",data:=.seq ((List.replicate k.toNat items).foldl (· ++ ·) #[]) } }):=
 .of_wp λprog w A R s h=>by
  obtain ⟨hp,g,d,tk,os⟩:=s;obtain ⟨hl,h⟩:=h;have a1:(decide (k < -(2 ^ 63))||decide (k≥2 ^ 63))=false:=by rw[decide_eq_false (!0),decide_eq_false (!0)];rfl
  have a2:(items.isEmpty||k==1)=false:=by rw[hne,Bool.false_or,beq_eq_false_iff_ne];omega
  have a3:(decide (k<=0)||items.isEmpty)=false:=by rw[decide_eq_false (!0),hne];rfl
  have hs:(items.size:Int) * k=((items.size * k.toNat:Nat):Int):=by rw[Int.natCast_mul,Int.toNat_of_nonneg (!0)]
  have hsl:sizeLine<=1152921504606846975:=by decide
  have a4:¬((items.size:Int) * k > (2 ^ 63 - 1) / 8):=by rw[hs];omega
  have a5:¬(Tuple.tupleTooMany ((items.size:Int) * k)=true):=by unfold Tuple.tupleTooMany;rw[decide_eq_true_iff,hs];omega
  wp_walk
  rw[if_neg (by rw[a1];exact Bool.false_ne_true)];wp_walk
  rw[if_neg (by rw[a2];exact Bool.false_ne_true)];dsimp only;rw[if_neg (by rw[a3];exact Bool.false_ne_true),if_neg a4,if_neg a5];unfold Tuple.tupleExact;wp_walk
  exact ⟨_,rfl,h⟩
end HT
namespace L2
open PySem PySem.Spec PyProof.Rows
section
variable {X:Cx}
def VF(K:PF):R2:=λx y H Q=>∃(l:AQ)(k:Int)(xs:AR),x=.ref l/\y=.int k/\SqT K H l xs/\xs≠[]/\2<=k/\k<=1000/\xs.length * k.toNat<=sizeLine/\∀p,H p=none->Q (.ref p) (upd H p (.tup (List.replicate k.toNat xs).flatten))
theorem VG:OpR X (binaryOp .Mult) (VF X.K):=by
 intro p9 s Y H x y v u Q I rx ry h;obtain ⟨l,k,xs,rfl,rfl,hT,hne,h2,hk,hz,q⟩:=h;cases rx;obtain ⟨t,rfl⟩:=ry;obtain ⟨its,r,pt,_⟩:=I.tuple hT;obtain ⟨⟨cls,dd,data,sl⟩,ho,hc,n,hd⟩:=id pt;simp only at hc hd;subst hc hd;have hl:=r.length;have hz':its.toArray.size * k.toNat<=sizeLine:=by rw[am,<-hl];exact hz
 have he:its.toArray.isEmpty=false:=by
  cases its with
  |nil=>exact absurd (cK.mp hl) hne
  |cons _ _=>rfl
 have hnew:List.foldl (λx1 x2=>x1++x2) #[] (List.replicate k.toNat its.toArray)=(List.replicate k.toNat its).flatten.toArray:=by have:=foldl_rep its k.toNat [];rw[List.nil_append]at this;exact this
 refine wpAny_binaryOp_repeat_ref (T:="tuple") (U:="int") (!1) ⟨_,ho,rfl⟩ (λs'=>typeIs_int s' k t) HT.Vy F.fills_int_mul F.slot_int_rmul HT.Vz F.slot_int_index.lookup
  (gL F.slot_int_rmul (typeIs_int s k t) F.entry_int_rmul (F.args_int_rmul_2 _ _) (HT.VB k t l its.toArray n dd sl)
   ⟨ho,rfl,⟨_,ho,rfl⟩,gL PySem.F.slot_tuple_mul ⟨_,ho,rfl⟩ PySem.F.entry_tuple_mul (PySem.F.args_tuple_mul_2 _ _) (HT.VD l its.toArray n dd sl k t h2 hk he hz' (by rw[hnew,am,len_rep,Nat.mul_comm,<-hl];exact hz)) ⟨ho,?_⟩⟩)
 rw[hnew];refine ⟨.ref (~~~s),_,I.laid (t':=s.toks) (o:=.tup (List.replicate k.toNat xs).flatten) (λb ob q=>ah _ q) (ax _) ?_,rfl,q _ (I.hok.fresh (ax _))⟩;exact ⟨by rw[len_rep,Nat.mul_comm];exact hz,_,r.rep k.toNat,IsTup.new _ _⟩
end
end L2
namespace HT
open PySem PySem.Spec PyProof.Rows Builtin
def VH(a:Int)(t:Tok)(l:AQ)(items:Array AN)(n:Nat)(dd:Option AQ)(sl:Array (Option AN)):
  Meets (Builtin.«int.__rmul__» ⟨[.int a t,.ref l],[]⟩) (λ_ R s=>s.heap.get? l=some { cls:=.type "list",dict:=dd,data:=.seq items n,slots:=sl }/\R (.ok (.ret Value.notImplemented)) s):=
 .of_wp λprog w A R s h=>by obtain ⟨hp,g,d,tk,os⟩:=s;obtain ⟨hl,h⟩:=h;wp_walk;exact ⟨_,rfl,h⟩
def VJ(l:AQ)(items:Array AN)(n:Nat)(dd:Option AQ)(sl:Array (Option AN))(x:Int)(u:Tok)(hc0:¬(!Builtin.List.listFitsIndex x)=true)(hc1:¬items.size * x.toNat > (2 ^ 63 - 1) / 8)(hc2:¬Builtin.List.listTooLong (items.size * x.toNat)=true):
  Meets (Builtin.«list.__mul__» ⟨[.ref l,.int x u],[]⟩) (λ_ R s=>s.heap.get? l=some { cls:=.type "list",dict:=dd,data:=.seq items n,slots:=sl }/\R (.ok (.ret (Value.ref (~~~s)))) { s with heap:=s.heap.push { cls:=Value.type "list",data:=Data.seq (List.foldl (λx1 x2=>x1++x2) #[] (List.replicate (if items.isEmpty=true then 0 else x.toNat) items)) },toks:=s.toks }):=
 .of_wp λprog w A R s h=>by
  obtain ⟨hp,g,d,tk,os⟩:=s;obtain ⟨hl,h⟩:=h;have hsz:=AutoListH.joined_fits hc2;wp_walk;refine wpAny_ite_false (decide_eq_false (Nat.not_lt.mpr hsz)) ?_;wp_walk;exact ⟨_,rfl,h⟩
end HT
namespace L2
open PySem PySem.Spec PyProof.Rows
section
variable {X:Cx}
def VL(K:PF):R2:=λx y H Q=>∃(l:AQ)(k:Int)(xs:AR),x=.ref l/\y=.int k/\SqL K H l xs/\0<=k/\k<=1000/\xs.length * k.toNat<=sizeLine/\∀p,H p=none->Q (.ref p) (upd H p (.lst (List.replicate k.toNat xs).flatten))
theorem VM:OpR X (binaryOp .Mult) (VL X.K):=by
 intro p9 s Y H x y v u Q I rx ry h;obtain ⟨l,k,xs,rfl,rfl,hH,h1,h2,hz,q⟩:=h;cases rx;obtain ⟨t,rfl⟩:=ry;obtain ⟨its,r,⟨⟨cls,dd,data,sl⟩,n,e,c1,c2,c3⟩,_⟩:=I.list hH;simp only at c1 c2 c3;have hl:=r.length;have hlen:its.toArray.size * k.toNat<=sizeLine:=by rw[am,<-hl];exact hz
 have hcap:¬its.toArray.size * k.toNat > (2 ^ 63 - 1) / 8:=by
  have:(sizeLine:Nat)<=(2 ^ 63 - 1) / 8:=by decide
  omega
 have hfit:¬(!Builtin.List.listFitsIndex k)=true:=by rw[fitsIndex_both (!0) (!0)];exact bP
 have hlong:¬Builtin.List.listTooLong (its.toArray.size * k.toNat)=true:=by rw[Ci hlen];exact bP
 have hnew:List.foldl (λx1 x2=>x1++x2) #[] (List.replicate (if its.toArray.isEmpty=true then 0 else k.toNat) its.toArray)=(List.replicate k.toNat its).flatten.toArray:=by
  have f0:∀m:Nat,List.foldl (λx1 x2=>x1++x2) #[] (List.replicate m its.toArray)=(List.replicate m its).flatten.toArray:=λm=>by
   have:=foldl_rep its m [];rw[List.nil_append]at this;exact this
  rw[f0];cases its with
  |nil=>simp
  |cons a r'=>rw[if_neg (by simp)]
 subst c1 c3;refine wpAny_binaryOp_repeat_ref (T:="list") (U:="int") (!1) ⟨_,e,rfl⟩ (λs'=>typeIs_int s' k t) noFill_list_mul F.fills_int_mul F.slot_int_rmul repeat_list F.slot_int_index.lookup
  (gL F.slot_int_rmul (typeIs_int s k t) F.entry_int_rmul (F.args_int_rmul_2 _ _) (HT.VH k t l its.toArray n dd sl)
   ⟨e,rfl,⟨_,e,rfl⟩,gL F.slot_list_mul ⟨_,e,rfl⟩ F.entry_list_mul (F.args_list_mul_2 _ _) (HT.VJ l its.toArray n dd sl k t hfit hcap hlong) ⟨e,?_⟩⟩)
 rw[hnew];exact ⟨.ref _,_,I.lnew (t':=s.toks) (r.rep k.toNat) (by rw[len_rep,Nat.mul_comm];exact hz),rfl,q _ I.fresh⟩
end
end L2
namespace PySem
def VN:plainId "list.__iadd__"=true:=by ac_rfl
def VP:plainId "proto.collect"=true:=by ac_rfl
def VR{prog:AK}{w:World}{A:AM}{R:Result->AI->Prop}{s:AI}{r:AQ}{a b c:Int}{t u v:Tok}{n:Nat}(hh:A.handled=none)(hr:IsRange s.heap r a b c t u v)(hsmall:Builtin.Range.small a b c=true)
  (hn:Builtin.Range.rangeSize a b c=n) (hlen:n<=2 ^ 24)
  (hR:∀h' tk acc' c',(∀b o,s.heap.get? b=some o->h'.get? b=some o)->h'.get? (~~~s)=some { cls:=.type "list",dict:=none,data:=.seq acc' c',slots:=#[] }->ItemsOf (λi v=>∃t,v=.int (a+i * c) t) acc' n->R (.ok (.ret (.ref (~~~s)))) { s with heap:=h',toks:=tk }):
  codeAny (model prog w) A (.builtin "proto.collect" ⟨[.ref r],[]⟩) R s:=by
 refine codeAny_builtin PyProof.Rows.entry_proto_collect' ?_;rw[Around.under_plainId VP _];show wpAny _ _ (do again (.builtin "list.__iadd__" ⟨[<-newList [],.ref r],[]⟩)) _ _ s;refine wpAny_bind (wpAny_newList (wpAny_pure ⟨Code.quiet_builtin _ (by ac_rfl),codeAny_builtin PyProof.Rows.entry_list_iadd' ?_⟩));rw[Around.under_plainId VN _];have hS:(s.heap.push { cls:=.type "list",data:=.seq #[] }).get? (~~~s)=some { cls:=.type "list",data:=.seq #[] }:=Heap.get?_push_size _ rfl;exact wpAny_extend_range (R:=R) (s:={ s with heap:=s.heap.push { cls:=.type "list",data:=.seq #[] } }) hh (Heap.get?_push_of_some _ hr) hsmall hn hlen (~~~s) (.ref (~~~s)) _ hS λh' tk acc' c' hk hS' hacc=>
  hR h' tk acc' c' (λb o e=>hk b o (Nat.ne_of_lt (Heap.lt_size e)) (Heap.get?_push_of_some _ e)) hS' hacc
open AutoSeq1 (wpAny_loadPart') in
def VV(r:AQ)(lo hi:Int)(t u v:Tok)(n:Nat)(hsmall:Builtin.Range.small lo hi 1=true)(hn:Builtin.Range.rangeSize lo hi 1=n)(hlen:n<=1000):
  Meets (Builtin.«tuple.__new__» ⟨[.type "tuple",.ref r],[]⟩)
   (λA R s=>A.handled=none/\IsRange s.heap r lo hi 1 t u v/\∀(h':Heap) (tk:Nat) (acc:Array AN),(∀b o',s.heap.get? b=some o'->h'.get? b=some o')->ItemsOf (λi v=>∃t,v=.int (lo+i * 1) t) acc n->R (.ok (.ret (.ref h'.objs.size))) { s with heap:=h'.push { cls:=.type "tuple",data:=.seq acc },toks:=tk }):=
 .of_wp λprog w A R s h=>by
  obtain ⟨hp,g,d,tk,os⟩:=s;obtain ⟨hh,ht,h⟩:=h;have hsub:=sub_tuple_self;have hinit:=init_tuple_lookup;have hmh:=madeHere_tuple;have hT:Shared.TypeIs ⟨hp,g,d,tk,os⟩ (.ref r) "range":=⟨_,ht,rfl⟩;wp_walk using wpAny_loadPart' ht,wpAny_typeOf hT
  refine VR (A:=A.in1) hh ht hsmall hn (!0) λh' tk' acc c' hk hS' hacc=>?_;dsimp only;refine wpAny_bind (wpAny_load hS' (wpAny_pure ?_));show wpAny _ _ (Builtin.Tuple.tupleExact acc.toList.toArray >>= λv=>ret v) _ _ _;unfold Builtin.Tuple.tupleExact;refine wpAny_bind (wpAny_newObj_type ?_ (by show acc.toList.toArray.size<=sizeLine;rw[show acc.toList.toArray=acc by simp,hacc.1,sizeLine_eq];omega));refine wpAny_pure ⟨_,rfl,?_⟩;have e:acc.toList.toArray=acc:=by simp
  rw[e];exact h h' tk' acc hk hacc
def V0{prog:AK}{w:World}{A:AM}{E:AG}{s:AI}{Q:AG}{r:AQ}{lo hi:Int}{t u v:Tok}{n:Nat}(hh:A.handled=none)(hr:IsRange s.heap r lo hi 1 t u v)(hsmall:Builtin.Range.small lo hi 1=true)(hn:Builtin.Range.rangeSize lo hi 1=n)(hlen:n<=1000)
  (h:∀(h':Heap) (tk:Nat) (acc:Array AN),(∀b o',s.heap.get? b=some o'->h'.get? b=some o')->ItemsOf (λi v=>∃t,v=.int (lo+i * 1) t) acc n->Q (.ref h'.objs.size) { s with heap:=h'.push { cls:=.type "tuple",data:=.seq acc },toks:=tk }):
  wpAny (model prog w) A (call (.type "tuple") [.ref r]) Q E s:=
 callType_new F.called_tuple (!1) (F.typeCall_tuple_1 _) (F.newCall_tuple_1 _) (λobj=>F.args_object_init_2 obj _) F.entry_tuple_new
  (VV r lo hi t u v n hsmall hn hlen) ⟨hh,hr,λh' tk acc hk ha=>⟨⟨_,Heap.get?_push_size _ rfl,rfl⟩,h h' tk acc hk ha⟩⟩
end PySem
namespace L2
open PySem PySem.Spec PyProof.Rows
section
variable {X:Cx}
theorem Do{acc:Array AN}{n:Nat}(h:ItemsOf (λi v=>∃t,v=.int (0+i * 1) t) acc n):Vals ((List.range n).map λi=>V.int (i:Nat)) acc.toList:=by
 have hz:=h.1;obtain ⟨ys,hv⟩:=CJ acc.toList λv hv=>by
  obtain ⟨j,hj,ej⟩:=List.mem_iff_getElem.mp hv;have ej':acc[j]?=some v:=by rw[<-eP,aE hj,ej]
  obtain ⟨t,e⟩:=h.2 j v ej';exact ⟨.int (0+j * 1),t,e⟩
 have hl:ys.length=n:=by rw[hv.length,cp,hz]
 have e:ys=(List.range n).map λi=>V.int (i:Nat):=by
  refine List.ext_getElem? λi=>?_;by_cases hi:i < n
  .obtain ⟨y,hy⟩:∃y,ys[i]?=some y:=⟨_,aE (!0)⟩;obtain ⟨w,ew,rw'⟩:=hv.get hy;obtain ⟨t,e⟩:=h.2 i w (by rw[<-eP];exact ew);rw[hy,b9,List.getElem?_range hi,Option.map_some];subst e;cases y with
   |int k=>
    obtain ⟨t',e'⟩:=(show ∃t',Value.int (0+i * 1) t=Value.int k t' from rw');simp only[Value.int.injEq]at e';rw[<-e'.1];simp
   |non=>cases (show Value.int _ _=Value.none from rw')
   |bl b=>cases (show Value.int _ _=Value.bool b from rw')
   |str x=>obtain ⟨_,z⟩:=(show ∃t',Value.int _ _=Value.str x t' from rw');cases z
   |byt x=>obtain ⟨_,z⟩:=(show ∃t',Value.int _ _=Value.bytes x t' from rw');cases z
   |flt x=>obtain ⟨_,z⟩:=(show ∃t',Value.int _ _=Value.float x t' from rw');cases z
   |ref a=>cases (show Value.int _ _=Value.ref a from rw')
   |ty a=>cases (show Value.int _ _=Value.type a from rw')
  .rw[List.getElem?_eq_none (!0),List.getElem?_eq_none (by simp;omega)]
 rw[<-e];exact hv
theorem Dp {a:AO} {ta:TA} {p pos:Pos} (hg:Gl X "range") (hm:X.mg "range"=none) (ha:PA X [a] ta) (hs:starEach [a] X.env=[(false,eval a X.env)]:=by rfl):
  PE X (.Call (.Name "range" p) [a] [] pos) (λY H Q=>ta Y H λvs H1=>∃j:Int,vs=[.int j]/\∀r,H1 r=none->Q (.ref r) (upd H1 r (.rng 0 j))):=by
 intro p9 s Y H Q I h;refine Call_ (iz I hg hm boot_range (et (thn (ha pos p9 s Y H _ I h) λus s1 ⟨vs,H1,I1,r1,q1⟩=>?_) hs rfl));obtain ⟨j,e,q⟩:=q1;subst e;cases r1 with
 |cons r rr=>
  cases rr;obtain ⟨t,rfl⟩:=r;exact call_range_1 ⟨.ref s1.heap.objs.size,_,I1.laid (t':=s1.toks+1+1) (λb u z=>ah _ z) (ax _) (show ObjOk X.prog X.w _ _ _ (.rng 0 j) from ⟨_,_,_,aS _ rfl⟩),rfl,q _ (I1.hok.fresh (ax _))⟩
theorem Dq(n:Nat):Builtin.Range.rangeSize 0 (n:Int) 1=n:=by rw[rangeSize_one];split <;> omega
theorem V1 (hc:X.calm=true):bh X (.type "list") (λxs H Q=>∃(r:AQ) (n:Nat),xs=[.ref r]/\H r=some (.rng 0 n)/\n<=1000/\∀l,H l=none->Q (.ref l) (upd H l (.lst ((List.range n).map λi=>V.int (i:Nat))))):=by
 intro p9 s Y H xs us Q I r h;obtain ⟨p,n,rfl,hq,hn,q⟩:=h;obtain ⟨u,rfl,rx⟩:=vals1 r;cases rx;obtain ⟨t1,t2,t3,ho⟩:=(show ObjOk X.prog X.w H s.heap p (.rng 0 n) from I.hok p _ hq);refine call_list_range (I.ok.hd hc) ho (small_one (!1) (!1) (!0) (!0)) (Dq n) (!0) λh' tk acc c' kp e hi=>?_;have hv:=Do hi;have hl:((List.range n).map λi=>V.int (i:Nat)).length<=sizeLine:=by rw[ag,en,fw];omega
 exact ⟨.ref (~~~s),_,I.laid (t':=tk) kp (ax _) (show ObjOk X.prog X.w _ h' _ (.lst _) from ⟨hl,acc.toList,c',hv,by rw[Array.toArray_toList];exact e⟩),rfl,q _ (I.hok.fresh (ax _))⟩
theorem V2 (hc:X.calm=true):bh X (.type "tuple") (λxs H Q=>∃(r:AQ) (n:Nat),xs=[.ref r]/\H r=some (.rng 0 n)/\n<=1000/\∀l,H l=none->Q (.ref l) (upd H l (.tup ((List.range n).map λi=>V.int (i:Nat))))):=by
 intro p9 s Y H xs us Q I r h;obtain ⟨p,n,rfl,hq,hn,q⟩:=h;obtain ⟨u,rfl,rx⟩:=vals1 r;cases rx;obtain ⟨t1,t2,t3,ho⟩:=(show ObjOk X.prog X.w H s.heap p (.rng 0 n) from I.hok p _ hq);refine V0 (I.ok.hd hc) ho (small_one (!1) (!1) (!0) (!0)) (Dq n) hn λh' tk acc kp hi=>?_;have hv:=Do hi;have hl:((List.range n).map λi=>V.int (i:Nat)).length<=sizeLine:=by rw[ag,en,fw];omega
 have I1:Inv X p9 Y H { s with heap:=h',toks:=tk }:=I.kept (t':=tk) kp;have I2:Inv X p9 Y (upd H h'.objs.size (.tup ((List.range n).map λi=>V.int (i:Nat)))) { s with heap:=h'.push { cls:=.type "tuple",data:=.seq acc },toks:=tk }:=
  I1.laid (t':=tk) (λb o e=>ah _ e) (ax _) (show ObjOk X.prog X.w _ _ _ (.tup _) from ⟨hl,acc.toList,hv,by have:=IsTup.new h' acc.toList.toArray;rwa [Array.toArray_toList]at this⟩)
 exact ⟨.ref h'.objs.size,_,I2,rfl,q _ (I1.hok.fresh (ax _))⟩
end
end L2
namespace PyProof.Rows
open PySem
def V3 {prog:AK} {w:World} {A:AM} {E:AG} {s:AI} {it:AQ} {T:AL} {o:Obj} {items:AB} {n:Nat} {ns:List Int} {Q:AG} (hT:T="list"\/T="tuple")
  (ho:s.heap.get? it=some o) (hc:o.cls=.type T) (hd:o.data=.seq items.toArray n) (hI:IntsAre items ns) (h64:items.length < 64)
  (h:∀(h1 h':Heap) (e:Nat) (out:Array AN) (ns':List Int),IntsAre out.toList ns'->ns'.Perm ns->ns'.Pairwise (·<=·)->(∀b o',s.heap.get? b=some o'->h1.get? b=some o')->(∀b o',h1.get? b=some o'->h'.get? b=some o')->h'.get? h1.objs.size=some (seqObj "list" out e)->Q (.ref h1.objs.size) { s with heap:=h' }):
  wpAny (model prog w) A (call (.builtin "sorted") [.ref it]) Q E s:=by
 refine Calls.call_function_entry kind_sorted plain_sorted entry_sorted (args_sorted1 _) ?_;unfold Builtin.«sorted»;refine wpAny_bind (m:=checkCount "sorted" 1 1 _) (wpAny_pure ?_);refine wpAny_bind (wpAny_collect_seq it hT ho hc hd (λh1 k1=>?_) (by rw[List.size_toArray,sizeLine_eq];omega));refine wpAny_bind (wpAny_newList ?_);have e1:items.toArray.toList=items:=by simp
 rw[e1];have hoL:(h1.push (seqObj "list" items.toArray 0)).get? h1.objs.size=some (seqObj "list" items.toArray 0):=Heap.get?_push_size _ rfl;show wpAny _ _ _ _ _ { s with heap:=h1.push (seqObj "list" items.toArray 0) };refine wpAny_bind (wpAny_holding (wpAny_call_entry slot_list_sort ⟨_,hoL,rfl⟩ entry_list_sort (list_sort_tree hoL hI h64 λout ns' a1 a2 a3=>⟨_,rfl,?_⟩) (args_list_sort _)));obtain ⟨e,he⟩:=sortedHeap_at (vs:=items) (out:=out) hoL;refine wpAny_pure ⟨_,rfl,h h1 _ e out ns' a1 a2 a3 k1 (λb o' hb1=>?_) he⟩;rw[sortedHeap_old (Nat.ne_of_lt (Heap.lt_size hb1)) (by rw[size_push'];exact Nat.lt_succ_of_lt (Heap.lt_size hb1))];exact Heap.get?_push_of_some _ hb1
end PyProof.Rows
namespace L2
open PySem PySem.Spec PyProof.Rows
def V4 {X:Cx}:bh X (.builtin "sorted") (λxs H Q=>∃(p:AQ) (ns:List Int),xs=[.ref p]/\SqT X.K H p (ns.map V.int)/\ns.length < 64/\∀ns':List Int,ns'.Perm ns->ns'.Pairwise (·<=·)->∀l,H l=none->Q (.ref l) (upd H l (.lst (ns'.map V.int)))):=by
 intro p9 s Y H xs us Q I r h;obtain ⟨p,ns,rfl,hq,h64,q⟩:=h;obtain ⟨u,rfl,ru⟩:=vals1 r;cases ru;obtain ⟨its,rv,⟨o,ho,hc,n,hd⟩,hz⟩:=I.tuple hq;have hlen:its.length=ns.length:=by rw[<-rv.length];simp
 refine V3 (.inr rfl) ho hc hd (intsAre_of rv) (!0) λh1 h' e out ns' a1 a2 a3 k1 k2 he=>?_;have I1:Inv X p9 Y H { s with heap:=h1 }:=I.kept (t':=s.toks) k1;have hsz:(ns'.map V.int).length<=sizeLine:=by rw[ag,a2.length_eq,fw];omega
 exact ⟨.ref h1.objs.size,_,I1.laid (t':=s.toks) k2 (ax _) (show ObjOk X.prog X.w _ _ _ (.lst (ns'.map V.int)) from ⟨hsz,out.toList,e,vq a1,by rw[Array.toArray_toList];exact he⟩),rfl,q ns' a2 a3 _ (I1.hok.fresh (ax _))⟩
section
variable {prog:AK} {w:World} {A:AM} {R:Result->AI->Prop} {s:AI}
def jz(e:AO)(d:Nat)(target iter:AO)(em:AN->Env->Sem Fin->Sem Fin):Prop:=
 ∀it acc env,compTurn e d it acc env=(standAt iter.pos >>= λ_=>pyNext it >>= λr=>match r with
   |none=>pure (.done .next)
   |some v=>letOwnedTupleGo target it v >>= λ_=>assign target env v >>= λ_=>em acc env (again (.compLoop e d it acc env)))
def emE (elt:AO) (acc:AN) (env:Env) (k:Sem Fin):Sem Fin:=(eval elt env >>= λx=>call (.builtin "list.append") [acc,x] >>= λ_=>pure ()) >>= λ_=>k
def emG(e:AO)(d:Nat)(iter:AO)(acc:AN)(env:Env)(k:Sem Fin):Sem Fin:=
 eval iter env >>= λx=>standAt iter.pos >>= λ_=>foldedSetIterable iter env x >>= λx=>holding [x] (pyIter x) >>= λit=>runOwn (.compStart e d it acc env) env >>= λ_=>k
theorem ajr(elt t1 i1 t2 i2 t3 i3:AO)(scope:Scope)(pos:Pos):jz (.ListComp elt [⟨t1,i1,[],0⟩,⟨t2,i2,[],0⟩,⟨t3,i3,[],0⟩] scope pos) 0 t1 i1 (emG (.ListComp elt [⟨t1,i1,[],0⟩,⟨t2,i2,[],0⟩,⟨t3,i3,[],0⟩] scope pos) 1 i2):=λ_ _ _=>rfl
theorem V5{elt:AO}{gens:List Comprehension}{scope:Scope}{pos:Pos}{d:Nat}{target iter:AO}{em:AN->Env->Sem Fin->Sem Fin}{it acc:AN}{env:Env}(hT:jz (.ListComp elt gens scope pos) d target iter em)(I:Nat->AI->Prop)
  (turn:∀n s,I n s->wpAny (model prog w) A (pyNext it) (λr s₁=>match r with
   |none=>R (.ok .next) s₁
   |some v=>wpAny (model prog w) A (letOwnedTupleGo target it v) (λ_ s₁'=>wpAny (model prog w) A (assign target env v) (λ_ s₂=>
     ∀(k:Sem Fin)(Q:Fin->AI->Prop)(E:AG),(∀s₅,(∃m,m < n/\I m s₅)->wpAny (model prog w) A k Q E s₅)->wpAny (model prog w) A (em acc env k) Q E s₂) (λ_ _=>False) s₁') (λ_ _=>False) s₁) (λ_ _=>False) s)
  (n:Nat) (h:I n s):codeAny (model prog w) A (.compLoop (.ListComp elt gens scope pos) d it acc env) R s:=by
 refine codeAny_loop rfl I (λn s hI=>?_) n h;show wpAny _ A ((compTurn (.ListComp elt gens scope pos) d it acc env).onRaise (λx=>do noteFrame x env;theTreesLotGoes x)) _ _ s;refine wpAny_noted ?_;rw[hT];refine af (g7 (af (cm (turn n s hI) (λr s₁ h₁=>?_) λ_ _ h'=>False.elim h')));cases r with
 |none=>exact ai h₁
 |some v=>
  refine af (cm h₁ (λ_ s₁' h₁'=>?_) λ_ _ h'=>False.elim h');exact af (cm h₁' (λ_ s₂ h₂=>h₂ _ _ _ λs₃ h₃=>ai ⟨rfl,h₃⟩) λ_ _ h'=>False.elim h')
end
abbrev TM:=AR->St->Hp->(AR->St->Hp->Prop)->Prop
def lob (its:AB) (n:Nat):Obj:={ cls:=.type "list",data:=.seq its.toArray n }
structure AccOk(X:Cx)(a:AQ):Prop where
 new:a∈X.ex\/X.s₀.heap.objs.size<=a
 cel:∀x c,X.env.cells.lookup x=some c->c≠a
 pin:∀p∈X.pn,p.1≠a
def PM(X:Cx)(lim:Bool)(a:AQ)(em:Sem Fin->Sem Fin)(t:TM):Prop:=
 ∀(p9:AC)(its:AB)(n:Nat)(ys:AR)(Y:St)(H:Hp)(s:AI)(K:AR->St->Hp->Prop),Inv X ((a,lob its n)::p9) Y H s->(∀p∈p9,p.1≠a)->Vals ys its->(lim=true->ys.length < sizeLine)->t ys Y H K->
  ∀(k:Sem Fin)(Q:Fin->AI->Prop)(E:AG),(∀s' its' n' ys' σ' H',Inv X ((a,lob its' n')::p9) σ' H' s'->Vals ys' its'->K ys' σ' H'->↥X k Q E s')->↥X (em k) Q E s
def tmE(te:TE):TM:=λys Y H K=>ys.length < sizeLine/\te Y H λy H'=>K (ys++[y]) Y H'
def V6{X:Cx}{a:AQ}{elt:AO}{te:TE}(hx:X.xe=λ_ _=>False)(ha:AccOk X a)(he:PE X elt te):PM X false a (emE elt (.ref a) X.env) (tmE te):=by
 intro p9 its n ys Y H s K I hp rv _ h kk Q E hk;obtain ⟨hz,h⟩:=h;have h0:=he _ s Y H _ I h;rw[hx]at h0;refine af (af (cm h0 (λv s8 h8=>?_) λ_ _ z=>False.elim z));obtain ⟨y,H8,I8,r8,k8⟩:=h8;obtain ⟨pD,nD,lD,fD,cD⟩:=I8.pin (a,lob its n) (aw _ bp);have hl:=rv.length;refine af (append_at (hsz:=by rw[am];omega) pD λh9 hs9 hD9=>ai ?_);have I8a:Inv X p9 Y H8 s8:=I8.pins_of λp hp=>I8.pin p (aw _ (bv _ hp));have I9:Inv X p9 Y H8 { s8 with heap:=h9 }:=I8a.turned (t':=s8.toks) (it:=a) (λb o hb e=>hs9.extBut b o hb e) nD lD ha.new ha.cel (λp hp'=>by
  rcases ba.mp hp' with z |z
  .exact ha.pin p z
  .exact hp p z)
 have hD9':h9.get? a=some (lob (its++[v]) (n+1)):=by rw[hD9,List.push_toArray];rfl
 refine hk _ (its++[v]) (n+1) (ys++[y]) Y H8 (I9.pins_of λp hp'=>?_) (rv.append (.cons r8 .nil)) k8;rcases a7.mp hp' with e |z
 .subst e;exact ⟨hD9',nD,lD,fD,λv z=>by have z':Data.seq _ _=Data.cell v:=z;cases z'⟩
 .exact I9.pin p (aw _ z)
def emT(ifs:AE)(elt:AO)(acc:AN)(env:Env)(k:Sem Fin):Sem Fin:=
 (forIn ifs true λc r=>if r=true then do let ok <-isTrue c env (eval c env);pure (ForInStep.yield ok) else pure (ForInStep.yield r)) >>= λok=>if ok=true then emE elt acc env k else k
def Ds(elt tg iter:AO)(ifs:AE)(scope:Scope)(pos:Pos):jz (.ListComp elt [⟨tg,iter,ifs,0⟩] scope pos) 0 tg iter (emT ifs elt):=λ_ _ _=>rfl
def tmT(tt:TT)(te:TE):TM:=λys Y H K=>tt Y H λb H4=>if b=true then te Y H4 λy H5=>K (ys++[y]) Y H5 else K ys Y H4
def V7{X:Cx}{a:AQ}{elt:AO}{ifs:AE}{tt:TT}{te:TE}(hx:X.xe=λ_ _=>False)(ha:AccOk X a)(ht:PIf X ifs tt)(he:PE X elt te):PM X true a (emT ifs elt (.ref a) X.env) (tmT tt te):=by
 intro p9 its n ys Y H s K I hp rv hl h kk Q E hk;have h0:=ht _ s Y H _ I h;rw[hx]at h0;refine af (cm h0 (λb s4 h4=>?_) λ_ _ z=>False.elim z);obtain ⟨H4,I4,q4⟩:=h4;cases b with
 |false=>exact hk s4 its n ys Y H4 I4 rv q4
 |true=>exact V6 hx ha he p9 its n ys Y H4 s4 K I4 hp rv (λz=>nomatch z) ⟨hl rfl,q4⟩ kk Q E hk
def Dt(lim:Bool)(X:Cx)(N':AD)(scope:Scope)(tg:AO)(em:AN->Env->Sem Fin->Sem Fin)(J:It)(σ0:St)(H1:Hp)(Q:VK):Prop:=
 ∃W:Nat->Nat->AR->St->Hp->Prop,(∃m,W 0 m [] σ0 H1)/\∀i m ys σ' H',W i m ys σ' H'->
  (J.stop i H'/\ys.length<=sizeLine/\∀D,H' D=none->Q (.ref D) (upd H' D (.lst ys)))\/
  (J.go i H'/\(lim=true->ys.length < sizeLine)/\∀cl C s₁ H₁ fp pn,∃g tm,PG (X.comp N' scope cl C s₁ H₁ fp pn) tg g/\(∀a,AccOk (X.comp N' scope cl C s₁ H₁ fp pn) a->PM (X.comp N' scope cl C s₁ H₁ fp pn) lim a (em (.ref a) (X.comp N' scope cl C s₁ H₁ fp pn).env) tm)/\
   ∀x H2,J.yld i H' x H2->g x σ' H2 λσ3 H3=>tm ys σ3 H3 λys' σ4 H4=>∃m',m' < m/\W (i+1) m' ys' σ4 H4)
def vN(lim:Bool)(X:Cx)(N':AD)(scope:Scope)(tg:AO)(em:AN->Env->Sem Fin->Sem Fin)(wi:TI)(cap:List (Option Nat)):TE:=λY H Q=>wi Y H λJ H1=>Dt lim X N' scope tg em J (dX cap Y) H1 Q
def Du{X:Cx}{elt tg iter:AO}{ifs:AE}{lim:Bool}{rest:List Comprehension}{em:AN->Env->Sem Fin->Sem Fin}{scope:Scope}{pos:Pos}{wi:TI}{p9:AC}{s:AI}{Y:St}{H:Hp}{Q:VK}{RR:AN->AQ->Result->AI->Prop}(N':AD)(cap:List (Option Nat))(hc:X.calm=true)(hi:PI X tg iter wi)(hcap:Caps X scope N' cap)
  (hcell:scope.names.all (λy=>y.2 != NameKind.cell)=true)
  (hfr:scope.names.all (λy=>y.2 != NameKind.free||(X.env.kindOf y.1==some NameKind.cell||X.env.kindOf y.1==some NameKind.free))=true)
  (hkind:scope.kind=.function) (hT:jz (.ListComp elt (⟨tg,iter,ifs,0⟩::rest) scope pos) 0 tg iter em) (I:Inv X p9 Y H s) (h:vN lim X N' scope tg em wi cap Y H Q)
  (fin:∀(D C:AQ)(H':Hp)(s4:AI)(m:AH),Inv X p9 Y H' s4->Q (.ref D) H'->s4.heap.Ns C m->dI X p9 H' C->RR (.ref D) C (.ok .next) s4):
  ↥X (eval iter X.env) (λx s₁=>↥X (pyIter x) (λit s₂=>↥X (newList []) (λacc s₃=>
   ↥X (newFunctionEnv scope X.env.globals (b8 X.env scope.names []) [] X.env.qual none .none (some X.env)) (λcenv s₄=>
    codeAny (model X.prog X.w) X.A (.compStart (.ListComp elt (⟨tg,iter,ifs,0⟩::rest) scope pos) 0 it acc { cenv with scope:=relabel scope X.env }) (RR acc cenv.locals) s₄) X.xe s₃) X.xe s₂) X.xe s₁) X.xe s:=by
 have hcell':∀y∈scope.names,y.2≠NameKind.cell:=λy hy=>by
  have:=bg.mp hcell y hy;simpa using this
 have hfr':∀y∈scope.names,y.2=NameKind.free->(X.env.kindOf y.1=some NameKind.cell\/X.env.kindOf y.1=some NameKind.free):=λy hy hl=>by
  have:=bg.mp hfr y hy;simpa [hl] using this
 have hcs:∀y∈scope.names,y.2=NameKind.free->(X.env.cells.lookup y.1).isSome=true:=λy hy hl=>by
  obtain ⟨c,e⟩:=I.ok.has y.1 (hfr' y hy hl);rw[e];rfl
 have clsub:∀x c,(b8 X.env scope.names []).lookup x=some c->X.env.cells.lookup x=some c:=Ck (λx c e=>by simp at e);have clhas:∀x,scope.names.lookup x=some NameKind.free->∃c,(b8 X.env scope.names []).lookup x=some c:=λx e=>by
  have hm:=dS e;exact cq.mp (Cp (hcs _ hm rfl) hm)
 have rel:∀x,(relabel scope X.env).names.lookup x=(scope.names.lookup x).map λk=>if (k==NameKind.free&&X.env.scope.kind==.function&&X.env.kindOf x==some .cell)=true then NameKind.cell else k:=λx=>vz
 have relfree:∀x,((relabel scope X.env).names.lookup x=some NameKind.cell\/(relabel scope X.env).names.lookup x=some NameKind.free)->scope.names.lookup x=some NameKind.free:=λx e=>by
  rw[rel x]at e;cases z:scope.names.lookup x with
  |none=>rw[z]at e;rcases e with e |e <;> cases e
  |some k=>
   have nk:=hcell' _ (dS z);rw[z]at e;cases k with
   |free=>rfl
   |cell=>exact absurd rfl nk
   | «local»=>rcases e with e |e <;> simp[show (NameKind.«local»==NameKind.free)=false by decide]at e
   |globalExplicit=>rcases e with e |e <;> simp[show (NameKind.globalExplicit==NameKind.free)=false by decide]at e
   |globalImplicit=>rcases e with e |e <;> simp[show (NameKind.globalImplicit==NameKind.free)=false by decide]at e
 generalize hcl:b8 X.env scope.names []=cl at clsub clhas;refine thn (hi p9 s Y H _ I h) λxv s0 h0=>thn h0 λitv s2 h2=>?_;obtain ⟨it,fp,tn,J,H2,e,I2,T,st2,f2,W,⟨m0,w0⟩,turn⟩:=h2;subst e;refine e9 (wpAny_newFunctionEnv hcell' (by intro y hy;simp at hy) (λh₁ hns₁ hsb₁=>?_) hkind);dsimp only at hns₁ hsb₁ ⊢;generalize hH2:s2.heap.push { cls:=.type "list",dict:=none,data:=.seq ([]:AB).toArray }=HP at hns₁ hsb₁ ⊢;have hC:HP.objs.size=s2.heap.objs.size+1:=by rw[<-hH2,dL]
 have hDC:s2.heap.objs.size≠HP.objs.size:=by rw[hC];exact ca (Nat.lt_succ_self _)
 have below:∀b,b < s2.heap.objs.size->b≠HP.objs.size/\b≠s2.heap.objs.size:=λb hb=>⟨by rw[hC];exact ca (gx hb),ca hb⟩;have old:∀b o,s2.heap.get? b=some o->h₁.get? b=some o:=λb o e=>hsb₁.extBut b o (below b (ay e)).1 (ah _ (hH2 ▸ ah _ e));have hacc:h₁.get? s2.heap.objs.size=some { cls:=.type "list",data:=.seq ([]:AB).toArray 0 }:=hsb₁.extBut _ _ hDC (ah _ (hH2 ▸ aS _ rfl));have hst₁:tn 0 h₁:=T.keep _ _ _ st2 λb _ o e=>old b o e;have fplt:∀b∈fp,b < s2.heap.objs.size:=λb hb=>by
  obtain ⟨o,e,_⟩:=T.obj _ _ st2 b hb;exact ay e
 have fslt:∀b∈frs X.stack,b < s2.heap.objs.size:=λb hb=>by
  obtain ⟨_,o,e,_⟩:=I2.stack.mem hb;exact ay e
 have celllt:∀x c,cl.lookup x=some c->c < s2.heap.objs.size:=λx c e=>by
  obtain ⟨v,q⟩:=I2.cell x c (clsub x c e);exact q.lt
 have hDf:H2 s2.heap.objs.size=none:=I2.hok.fresh (ax _);have hCf:H2 HP.objs.size=none:=I2.hok.fresh (by rw[hC];exact fE _);have nofs:∀b∈fp,b∉frs X.stack:=λb hb z=>by
  obtain ⟨_,f1,f2',_⟩:=f2 b hb;rcases a7.mp (I2.stkSub b z) with e |e
  .exact f1 e
  .exact f2' e
 have ok':(X.comp N' scope cl HP.objs.size s2 H2 fp (X.pn++p9)).Ok:=
  ⟨I2.ok.mod,hkind,I2.ok.glob,I2.ok.blt,(by show s2.heap.objs.size<=HP.objs.size;rw[hC];exact fE _),
   λx y c e1 e2=>I2.ok.inj x y c (clsub x c e1) (clsub y c e2),λx hx=>clhas x (relfree x hx),λx c hf _=>(by cases hf),I2.ok.hd,I2.ok.frames,.inl rfl,
   λb hb=>⟨(below b (fplt b hb)).1,λx c e=>(f2 b hb).2.2.2.2.1 x c (clsub x c e)⟩,I2.bs,ce I2.ok.bsz I2.sz,
   λb o e hb=>(by
    rcases (f2 b hb).2.2.2.1 with z |z
    .exact I2.ok.noex b o e z
    .exact absurd (bi (ay e) (ce I2.ok.bsz z)) (eA _)),
   nofs,I2.stack,I2.stkFree⟩
 have pnOk:∀p∈X.pn++p9,p.1 < s2.heap.objs.size/\p.1∉frs X.stack:=λp hp=>by
  obtain ⟨e,_,n1,n2,_⟩:=I2.pin p hp;refine ⟨ay e,λz=>?_⟩;rcases a7.mp (I2.stkSub _ z) with e |e
  .exact n1 e
  .exact n2 e
 have I0:∀t,Inv (X.comp N' scope cl HP.objs.size s2 H2 fp (X.pn++p9)) [(s2.heap.objs.size,{ cls:=.type "list",data:=.seq ([]:AB).toArray 0 })] (dX cap Y) H2 { s2 with heap:=h₁,toks:=t }:=λt=>
  ⟨ok',rfl,I2.bare,Un.kept old,⟨_,hns₁,λi x v e1 e2 _=>by
    obtain ⟨j,nj,fr,sj⟩:=hcap.at e1 e2;obtain ⟨m,_,hl⟩:=I2.loc;have hk:=hfr' (x,NameKind.free) (dS fr) rfl;obtain ⟨u,r,l⟩:=hl j x v nj sj (by rcases hk with hk |hk;exact .inr (.inl hk);exact .inr (.inr hk));refine ⟨u,r,.inr ⟨?_,?_⟩⟩
    .show (relabel scope X.env).names.lookup x=some .cell\/(relabel scope X.env).names.lookup x=some .free;rw[rel x,fr,Option.map_some];by_cases hh:(NameKind.free==NameKind.free&&X.env.scope.kind==ScopeKind.function&&X.env.kindOf x==some NameKind.cell)=true
     .exact .inl (by rw[if_pos hh])
     .exact .inr (by rw[if_neg hh])
    .obtain ⟨c,ec⟩:=clhas x fr;have ec':=clsub x c ec;rcases l with ⟨k1,_⟩ |⟨_,c',e',q⟩
     .rcases hk with hk |hk <;> (rw[hk]at k1;cases k1)
     .have ecc:X.env.cells.lookup x=some c:=ec';rw[e']at ecc;cases ecc;obtain ⟨o,ho,hd⟩:=q;exact ⟨_,ec,o,old _ _ ho,hd⟩⟩,
   λx c e=>(by obtain ⟨v,o,ho,hd⟩:=I2.cell x c (clsub x c e);exact ⟨v,o,old _ _ ho,hd⟩),hCf,λx c e=>I2.freeC x c (clsub x c e),
   λp hp=>by
    rcases ba.mp hp with z |z
    .obtain ⟨e,n0,_,_,d⟩:=I2.pin p z;exact ⟨old _ _ e,n0,(below _ (pnOk p z).1).1,(pnOk p z).2,d⟩
    .have e:p=_:=al.mp z;subst e;exact ⟨hacc,hDf,hDC,λz=>absurd (fslt _ z) (eA _),λv z=>by have z':Data.seq _ _=Data.cell v:=z;cases z'⟩,
   I2.hok.kept old,by show (dX cap Y).length=N'.length;unfold dX;rw[ag];exact hcap.len⟩
 have fpok:∀{H':Hp}{o:Obj},(∀b∈fp,H' b=none)->∀b∈fp,dI (X.comp N' scope cl HP.objs.size s2 H2 fp (X.pn++p9)) [(s2.heap.objs.size,o)] H' b:=λhn b hb=>
  ⟨hn b hb,(below b (fplt b hb)).1,nofs b hb,.inl hb,λx c e=>(f2 b hb).2.2.2.2.1 x c (clsub x c e),λp hp=>by
   rcases ba.mp hp with z |z
   .exact (f2 b hb).2.2.2.2.2 p z
   .have e:p=_:=al.mp z;subst e;exact Ne.symm (below b (fplt b hb)).2⟩
 have loop:∀s₃:AI,s₃={ s2 with heap:=h₁,toks:=s2.toks+([]:List (Str×AN)).length }->
   codeAny (model X.prog X.w) X.A (.compLoop (.ListComp elt (⟨tg,iter,ifs,0⟩::rest) scope pos) 0 (.ref it) (.ref s2.heap.objs.size) (compEnvC scope cl HP.objs.size X.env))
    (RR (.ref s2.heap.objs.size) HP.objs.size) s₃:=by
  rintro s₃ rfl;refine V5 hT
   (λk s'=>∃(i:Nat) (ys:AR) (its:AB) (n:Nat) (σ':St) (H':Hp),Inv (X.comp N' scope cl HP.objs.size s2 H2 fp (X.pn++p9)) [(s2.heap.objs.size,{ cls:=.type "list",data:=.seq its.toArray n })] σ' H' s'/\Vals ys its/\
    tn i s'.heap/\(∀b∈fp,H' b=none)/\W i k ys σ' H') ?_ m0 ⟨0,[],[],0,_,H2,I0 _,.nil,hst₁,λb hb=>(f2 b hb).1,w0⟩
  rintro k s3 ⟨i,ys,its,n,σ3,H3,I3,rv3,st3,fr3,w3⟩;rcases turn i k ys σ3 H3 w3 with ⟨stop,hz,qn⟩ |⟨go,hlim,step⟩
  .refine thn (T.done (X.comp N' scope cl HP.objs.size s2 H2 fp (X.pn++p9)) rfl rfl rfl hc i _ s3 σ3 H3 _ I3 (fpok fr3) st3 stop) λr s4 ⟨hr,I4⟩=>?_;subst hr;obtain ⟨m,hn,_⟩:=I4.loc;obtain ⟨pD,nD,_,_,_⟩:=I4.pin (s2.heap.objs.size,{ cls:=.type "list",data:=.seq its.toArray n }) (aw _ (al.mpr rfl));have nC:H3 HP.objs.size=none:=I4.free;have u:Un (frs X.stack) fp H2 H3 s2.heap s4.heap:=I4.base;refine fin s2.heap.objs.size HP.objs.size (upd H3 s2.heap.objs.size (.lst ys)) s4 m ?_ (qn _ nD) hn ?_
   .refine I2.call' (s':=s4) (ch:=fp) I4.os ?_ ?_ I4.bare λb hb=>⟨(f2 b hb).2.2.2.1,(f2 b hb).2.1,(f2 b hb).2.2.2.2.1,(f2 b hb).2.2.2.2.2⟩
    .refine ⟨λb o e n0 hb hx=>u.keep b o e n0 hb hx,λb o e n0 hb hx=>u.slot b o e n0 hb hx,λb o e n0 hx=>?_,λb o e hx=>u.there b o e hx,λb xs e=>?_,λb o v e=>?_,λb ps e=>?_⟩
     .rw[aF (below b (ay e)).2];exact u.free b o e n0 hx
     .rw[aF (aZ e hDf)];exact u.tups b xs e
     .rw[aF (aZ e hDf)];exact u.frzs b o v e
     .rw[aF (aZ e hDf)];exact u.tbls b ps e
    .intro b o e;by_cases hb:b=s2.heap.objs.size
     .subst hb;rw[cY]at e;cases e;exact ⟨hz,its,n,rv3,pD⟩
     .rw[aF hb]at e;exact (I4.hok b o e).stay (λc v _ q=>q) (λc q=>by rw[aF (aZ q nD)];exact q) λc xs q=>by rw[aF (aZ q nD)];exact q
   .have hle:s2.heap.objs.size<=HP.objs.size:=by rw[hC];exact fE _
    exact I2.fpOk hle (by rw[aF (Ne.symm hDC)];exact nC)
  .refine thn (T.item (X.comp N' scope cl HP.objs.size s2 H2 fp (X.pn++p9)) rfl rfl rfl hc i _ s3 σ3 H3 _ I3 (fpok fr3) st3 go) λr s4 ⟨u,hr,h4⟩=>?_;subst hr;refine thn h4 λ_ s5 ⟨x,H5,I5,r5,y5,st5,fr5⟩=>?_;obtain ⟨g,tm,hg,hm,body⟩:=step cl HP.objs.size s2 H2 fp (X.pn++p9);have acc:AccOk (X.comp N' scope cl HP.objs.size s2 H2 fp (X.pn++p9)) s2.heap.objs.size:=
    ⟨.inr (ax _),λx c e z=>absurd (celllt x c e) (by rw[z];exact eA _),λp hp z=>absurd (pnOk p hp).1 (by rw[z];exact eA _)⟩
   have I5':=I5.pinned (fpok fr5) (T.obj _ _ st5);refine thn (hg _ s5 σ3 H5 x u _ I5' r5 (body x H5 y5)) λ_ s6 ⟨σ6,H6,I6,q6⟩=>?_;intro kk Q' E' hk';refine hm _ acc (lG fp s5.heap) its n ys σ6 H6 s6 _ I6 (λp hp' e=>?_) rv3 hlim q6 kk Q' E' λs7 its' n' ys' σ7 H7 I7 rv7 ⟨m',hm',w7⟩=>hk' s7 ⟨m',hm',i+1,ys',its',n',σ7,H7,I7.pins_of λp hp'=>?_,rv7,?_,λb hb=>?_,w7⟩
   .exact (below p.1 (fplt p.1 (Bj hp').1)).2 e
   .refine I7.pin p (aw _ ?_);rw[al.mp hp'];exact bp
   .exact T.keep _ _ _ st5 λb hb o e=>(I7.pin (b,o) (aw _ (bv _ (qN hb e)))).1
   .obtain ⟨o,e,_⟩:=T.obj _ _ st5 b hb;exact (I7.pin (b,o) (aw _ (bv _ (qN hb e)))).2.1
 exact codeAny_compStart_list (loop _ rfl) (T.self X.A 0 _ _ _ hst₁ (loop _ rfl))
def V8{X:Cx}{elt tg iter:AO}{ifs:AE}{lim:Bool}{rest:List Comprehension}{em:AN->Env->Sem Fin->Sem Fin}{scope:Scope}{pos:Pos}{wi:TI}(N':AD)(cap:List (Option Nat))(hc:X.calm=true)(hi:PI X tg iter wi)(hcap:Caps X scope N' cap)
  (hcell:scope.names.all (λy=>y.2 != NameKind.cell)=true) (hnames:scope.names.all (λy=>y.2 != NameKind.local||scope.names.lookup y.1==some NameKind.local)=true)
  (hfr:scope.names.all (λy=>y.2 != NameKind.free||(X.env.kindOf y.1==some NameKind.cell||X.env.kindOf y.1==some NameKind.free))=true)
  (hkind:scope.kind=.function) (hs:∀x,foldedSetIterable iter X.env x=pure x) (hT:jz (.ListComp elt (⟨tg,iter,ifs,0⟩::rest) scope pos) 0 tg iter em):
  PE X (.ListComp elt (⟨tg,iter,ifs,0⟩::rest) scope pos) (vN lim X N' scope tg em wi cap):=by
 intro p9 s Y H Q I h;have hnames':∀y∈scope.names,y.2=NameKind.local->scope.names.lookup y.1=some NameKind.local:=λy hy hl=>by
  have:=bg.mp hnames y hy;simpa [hl] using this
 have hcs:∀y∈scope.names,y.2=NameKind.free->(X.env.cells.lookup y.1).isSome=true:=λy hy hl=>by
  have:=bg.mp hfr y hy;obtain ⟨c,e⟩:=I.ok.has y.1 (by simpa [hl] using this);rw[e];rfl
 rw[eval_ListComp];refine gv (use:=none) (Q:=EP X p9 Y Q) rfl hs (qR hcs) hkind hnames'
  (Du (RR:=λacc C=>compPost (model X.prog X.w) X.A X.xe none (EP X p9 Y Q) acc C) N' cap hc hi hcap hcell hfr hkind hT I h λL C H' s4 m I4 q hn fC=>?_)
 obtain ⟨f0,f1,f2,f3,f4,f5⟩:=fC;exact ⟨m,hn,λh' hs'=>⟨.ref L,H',I4.turned (t':=s4.toks) (it:=C) (λb o hb e=>hs'.extBut b o hb e) f0 f1 f3 f4 f5,rfl,q⟩⟩
def V9{X:Cx}{elt tg iter:AO}{ifs:AE}{lim:Bool}{rest:List Comprehension}{em:AN->Env->Sem Fin->Sem Fin}{scope:Scope}{pos py spos:Pos}{wi:TI}{i:Nat}{y:Str}(hT:jz (.ListComp elt (⟨tg,iter,ifs,0⟩::rest) scope pos) 0 tg iter em)(hN:X.N.Nodup)(hiy:X.N[i]?=some y)(hy:Loc X.env.scope y)(N':AD)(cap:List (Option Nat))(hc:X.calm=true)(hi:PI X tg iter wi)(hcap:Caps X scope N' cap)
  (hcell:scope.names.all (λy=>y.2 != NameKind.cell)=true:=by rfl) (hnames:scope.names.all (λy=>y.2 != NameKind.local||scope.names.lookup y.1==some NameKind.local)=true:=by rfl)
  (hfr:scope.names.all (λy=>y.2 != NameKind.free||(X.env.kindOf y.1==some NameKind.cell||X.env.kindOf y.1==some NameKind.free))=true:=by rfl)
  (hkind:scope.kind=.function:=by rfl) (hs:∀x,foldedSetIterable iter X.env x=pure x:=by intro _;rfl)
  (hsw:swapsWith (.ListComp elt (⟨tg,iter,ifs,0⟩::rest) scope pos) (some (.Name y py)) spos.line X.env=pure true:=by rfl)
  (hf:X.fn y=true\/X.env.scope.names.lookup y=some .local:=by first |exact .inl rfl |exact .inr rfl |assumption):
  PS X (.Assign [.Name y py] (.ListComp elt (⟨tg,iter,ifs,0⟩::rest) scope pos) spos) (lE (vN lim X N' scope tg em wi cap) (lC i)):=by
 intro p9 s Y H D I h;have hnames':∀y∈scope.names,y.2=NameKind.local->scope.names.lookup y.1=some NameKind.local:=λy hy hl=>by
  have:=bg.mp hnames y hy;simpa [hl] using this
 have hcs:∀y∈scope.names,y.2=NameKind.free->(X.env.cells.lookup y.1).isSome=true:=λy hy hl=>by
  have:=bg.mp hfr y hy;obtain ⟨c,e⟩:=I.ok.has y.1 (by simpa [hl] using this);rw[e];rfl
 rw[exec_Assign_Name_used _ _ _ _ hsw];refine af (g7 (af ?_));show wpAny _ X.A (do let _ <-comprehension (.ListComp elt (⟨tg,iter,ifs,0⟩::rest) scope pos) scope X.env _ (newList []) false (eval iter X.env) (some (assign (.Name y py) X.env))) _ _ s;refine af (cm (gv (use:=some (assign (.Name y py) X.env)) (Q:=λ_ s'=>SP X p9 D .next s') rfl hs (qR hcs) hkind hnames'
  (Du (RR:=λacc C=>compPost (model X.prog X.w) X.A X.xe (some (assign (.Name y py) X.env)) (λ_ s'=>SP X p9 D .next s') acc C) N' cap hc hi hcap hcell hfr hkind hT I h λL C H' s4 m I4 q hn fC=>?_)) (λ_ s' hq=>ai (ai hq)) λ_ _ e=>e)
 obtain ⟨oC,es,ep,eC,rC⟩:=id hn;obtain ⟨f0,f1,f2,f3,f4,f5⟩:=fC;have ncell:∀v,oC.data≠.cell v:=λv z=>by rw[rC.1]at z;cases z
 have I5:Inv X (p9++[(C,oC)]) Y H' s4:=I4.pins_of λp hp=>by
  rcases ba.mp hp with z |z
  .exact I4.pin p (aw _ z)
  .have e:p=_:=al.mp z;subst e;exact ⟨eC,f0,f1,f2,ncell⟩
 refine wpAny_assign_Name (iw I5 hN hiy hy (v:=.ref L) (u:=.ref L) rfl (λs5 I6=>?_) hf);have eC5:s5.heap.get? C=some oC:=(I6.pin (C,oC) (aw _ (aw _ (al.mpr rfl)))).1;have I7:Inv X p9 (Y.set i (some (.ref L))) H' s5:=I6.pins_of λp hp=>I6.pin p (aw _ (c8 _ hp));refine ⟨m,⟨oC,es,ep,eC5,rC⟩,λh'' hs''=>?_⟩;exact ⟨_,H',I7.turned (t':=s5.toks) (it:=C) (λb o hb e=>hs''.extBut b o hb e) f0 f1 f3 f4 f5,q⟩
open HT
end L2
namespace PySem
open Sem (wp)
open Builtin Builtin.Str
open AutoSeq1 (wpAny_loadPart')
end PySem
namespace RF
open PySem L2 PySem.Builtin PySem.Builtin.Str PySem.StrLaws
def qZ(c:Nat):AA->List (AA)
 |[]=>[[]]
 |x::r=>if x=c then []::qZ c r else (x::(qZ c r).headD [])::(qZ c r).tail
end RF
namespace L2
open PySem PySem.Spec PyProof.Rows
open Builtin Builtin.ObjectAttr
open PySem.W (findIn mroIn clsIn typeIn Looks InstAt looks_findIn looks_mroIn looks_typeIn looks_clsIn takerIn takesIn hasDictIn looks_takesIn check_slot osa_eq)
def exO(C l:AQ)(dx:Option AQ):Obj:=⟨.ref C,dx,.fields #[.ref l,.none,.none,.none,.bool false,.none],#[]⟩
open PySem.W (findIn mroIn clsIn typeIn takerIn specialIn findCls readsIn)
def Wa(f:AQ):Option AN->Bool
 |some (.ref a)=>a==f
 |_=>false
def Wb(K:PF)(N f:AQ):Bool:=match K.lookup N with
 |some ⟨_,_,.dict es _,_⟩=>es.toList.all (λe=>vJ e.key)&&Wa f (nsFind es "__init__")
 |_=>false
def Wc(K:PF)(C f:AQ):Bool:=match K.lookup C with
 |some ⟨ty,_,.cls cd,⟨[_,_,_,_,k,_]⟩⟩=>vK ty&&isNew k&&Wb K cd.ns f&&!cd.hasDel&&(match cd.mro with |v::tl=>isRef C v&&lK K tl |[]=>false)
 |_=>false
def Dv(e C l:AQ)(dx:Option AQ):Heap->Prop:=λh=>h.get? e=some (exO C l dx)
section
variable {prog:AK} {w:World} {A:AM} {E:AG} {s:AI} {κ:PyProof.Rows.KeyKind}
def okK(κ:PyProof.Rows.KeyKind)(p:Keyed):Prop:=∃a,κ.keyOf p.1=some a
def okA(κ:PyProof.Rows.KeyKind)(xs:Array Keyed):Prop:=∀p,p∈xs.toList->okK κ p
theorem nb{a b:Nat}(h:¬(a==b)=true):a≠b:=λz=>h (av.mpr z)
end
section
variable {κ:Type} [DecidableEq κ]
def cg(kvs:List (κ×V))(k:κ):Option V:=(kvs.find? λkv=>decide (kv.1=k)).map (·.2)
def putD(kvs:List (κ×V))(k:κ)(v:V):List (κ×V):=
 if (kvs.any λkv=>decide (kv.1=k))=true then kvs.map (λkv=>if kv.1=k then (kv.1,v) else kv) else kvs++[(k,v)]
theorem q8{p:κ×V}{r:List (κ×V)}{k:κ}(e:p.1=k):cg (p::r) k=some p.2:=by simp[cg,List.find?_cons,e]
theorem q9{p:κ×V}{r:List (κ×V)}{k:κ}(e:¬p.1=k):cg (p::r) k=cg r k:=by simp[cg,List.find?_cons,e]
theorem rm(k:κ):∀kvs:List (κ×V),(kvs.any λkv=>decide (kv.1=k))=(cg kvs k).isSome
 |[]=>rfl
 |p::r=>by
  rw[List.any_cons];by_cases e:p.1=k
  .simp only[q8 e,bq e,Bool.true_or,Option.isSome_some]
  .rw[q9 e,bB e,Bool.false_or];exact rm k r
theorem length_putD(kvs:List (κ×V))(k:κ)(v:V):(putD kvs k v).length<=kvs.length+1:=by
 unfold putD;split
 .rw[ag];omega
 .rw[aI,c6,g6];omega
theorem Dw{kvs:List (κ×V)}{k:κ}(v:V)(h:cg kvs k=none):putD kvs k v=kvs++[(k,v)]:=by unfold putD;rw[rm,h];exact if_neg (!1)
theorem RelO.isSome_eq{o:Option V}{u:Option AN}(r:RelO o u):o.isSome=u.isSome:=by
 cases o with
 |none=>cases u with
  |none=>rfl
  |some _=>exact (show False from r).elim
 |some _=>cases u with
  |none=>exact (show False from r).elim
  |some _=>rfl
theorem KV.val{kvs:List (κ×V)}{vs:List (κ×AN)}(r:KV kvs vs)(k:κ):RelO (cg kvs k) (valueAt vs k):=by
 unfold KV at r;induction r with
 |nil=>exact gt
 | @cons p q ps qs h t ih=>
  obtain ⟨h1,h2⟩:=h;by_cases e:p.1=k
  .have e':q.1=k:=h1.symm.trans e;have b:valueAt (q::qs) k=some q.2:=by simp[valueAt,List.find?_cons,e']
   rw[q8 e,b];exact h2
  .have e':¬q.1=k:=λz=>e (h1.trans z);have b:valueAt (q::qs) k=valueAt qs k:=by simp[valueAt,List.find?_cons,e']
   rw[q9 e,b];exact ih
theorem KV.any{kvs:List (κ×V)}{vs:List (κ×AN)}(r:KV kvs vs)(k:κ):(kvs.any λkv=>decide (kv.1=k))=vs.any λkv=>decide (kv.1=k):=by
 unfold KV at r;induction r with
 |nil=>rfl
 |cons h t ih=>rw[List.any_cons,List.any_cons,ih,h.1]
theorem KV.repl{kvs:List (κ×V)}{vs:List (κ×AN)}(r:KV kvs vs)(k:κ){y:V}{u:AN}(ry:RelV y u):
  KV (kvs.map λkv=>if kv.1=k then (kv.1,y) else kv) (vs.map λkv=>if kv.1=k then (kv.1,u) else kv):=by
 unfold KV at r ⊢;induction r with
 |nil=>exact .nil
 | @cons p q ps qs h t ih=>
  rw[a9,a9];refine .cons ?_ ih;obtain ⟨h1,h2⟩:=h;by_cases e:p.1=k
  .rw[if_pos e,if_pos (h1.symm.trans e)];exact ⟨h1,ry⟩
  .rw[if_neg e,if_neg (λz=>e (h1.trans z))];exact ⟨h1,h2⟩
theorem KV.put{kvs:List (κ×V)}{vs:List (κ×AN)}(r:KV kvs vs)(k:κ){y:V}{u:AN}(ry:RelV y u):KV (putD kvs k y) (stored vs k u):=by
 unfold putD stored;rw[r.any k];by_cases e:(vs.any λkv=>decide (kv.1=k))=true
 .rw[if_pos e,if_pos e];exact r.repl k ry
 .rw[if_neg e,if_neg e];exact Paired.snoc r ⟨rfl,ry⟩
theorem KV.length{kvs:List (κ×V)}{vs:List (κ×AN)}(r:KV kvs vs):kvs.length=vs.length:=g9 r
end
def lL{P:AK}{w:World}{k:Key}{u:AN}(r:RelV (kV k) u):(bQ P w).is k u=true:=by
 cases k with
 |inl i=>obtain ⟨t,e⟩:=(show ∃t,u=Value.int i t from r);subst e;exact Ql P w i t
 |inr x=>obtain ⟨t,e⟩:=(show ∃t,u=Value.str x t from r);subst e;exact Qm P w x t
def Dy{P:AK}{w:World}:∀{ks:List Key}{us:AB},Vals (ks.map kV) us->ItemsAre (bQ P w) ks us
 |[],_,r=>by rw[fS]at r;cases r;exact .nil
 |k::ks,_,r=>by
  rw[a9]at r;cases r with
  |cons h t=>exact .cons (lL h) (Dy t)
abbrev KT(H:Hp):List (List Key×V)->List (List Key×AQ×AN)->Prop:=Paired λp q=>p.1=q.1/\H q.2.1=some (.tup (p.1.map kV))/\RelV p.2 q.2.2
def KT.val{H:Hp}{kvs:List (List Key×V)}{xs:List (List Key×AQ×AN)}(r:KT H kvs xs)(k:List Key):RelO (cg kvs k) ((atKey xs k).map (·.2)):=by
 induction r with
 |nil=>exact gt
 | @cons p q ps qs h t ih=>
  obtain ⟨h1,_,h2⟩:=h;by_cases e:p.1=k
  .have e':q.1=k:=h1.symm.trans e;have b:atKey (q::qs) k=some q.2:=by simp[atKey,List.find?_cons,e']
   rw[q8 e,b];exact h2
  .have e':¬q.1=k:=λz=>e (h1.trans z);have b:atKey (q::qs) k=atKey qs k:=by simp[atKey,List.find?_cons,e']
   rw[q9 e,b];exact ih
def KT.repl{H:Hp}{kvs:List (List Key×V)}{xs:List (List Key×AQ×AN)}(r:KT H kvs xs)(k:List Key){y:V}{u:AN}(ry:RelV y u):
  KT H (kvs.map λkv=>if kv.1=k then (kv.1,y) else kv) (xs.map (putAt k u)):=by
 induction r with
 |nil=>exact .nil
 | @cons p q ps qs h t ih=>
  rw[a9,a9];refine .cons ?_ ih;obtain ⟨h1,h2,h3⟩:=h;unfold putAt;by_cases e:p.1=k
  .rw[if_pos e,if_pos (h1.symm.trans e)];exact ⟨h1,h2,ry⟩
  .rw[if_neg e,if_neg (λz=>e (h1.trans z))];exact ⟨h1,h2,h3⟩
def KT.put{H:Hp}{kvs:List (List Key×V)}{xs:List (List Key×AQ×AN)}(r:KT H kvs xs)(k:List Key){b:AQ}{y:V}{u:AN}(hb:H b=some (.tup (k.map kV)))(ry:RelV y u):
  KT H (putD kvs k y) (storedH xs k b u):=by
 have e:(kvs.any λkv=>decide (kv.1=k))=(atKey xs k).isSome:=by rw[rm,(r.val k).isSome_eq,Option.isSome_map]
 unfold putD storedH;rw[e];by_cases q:(atKey xs k).isSome=true
 .rw[if_pos q,if_pos q];exact r.repl k ry
 .rw[if_neg q,if_neg q];exact Paired.snoc r ⟨rfl,hb,ry⟩
def KT.keeps{H H':Hp}{kvs:List (List Key×V)}{xs:List (List Key×AQ×AN)}(r:KT H kvs xs)(ht:∀b ys,H b=some (.tup ys)->H' b=some (.tup ys)):KT H' kvs xs:=
 Paired.mapP r λ_ _ z=>⟨z.1,ht _ _ z.2.1,z.2.2⟩
section
variable {P:AK} {w:World} {H:Hp} {h:Heap} {a:AQ}
theorem Dz{u:HO}(ok:HOk P w H h)(e:Rd H a u):ObjOk P w H h a u:=e.ok ok
theorem lM{kvs:List (Key×V)}(ok:HOk P w H h)(e:Rd H a (.dK kvs)):kvs.length<=sizeLine/\(a==sysModules)=false/\∃vs,KV kvs vs/\h.DictOf (bQ P w) a vs:=
 show ObjOk P w H h a (.dK kvs) from Dz ok e
theorem Wd{kvs:List (Key×V)}(ok:HOk P w H h)(e:H a=some (.dK kvs)):kvs.length<=sizeLine/\(a==sysModules)=false/\∃vs,KV kvs vs/\h.DictOf (bQ P w) a vs:=lM ok (.inl e)
theorem jA{ks:List Key}(ok:HOk P w H h)(e:H a=some (.tup (ks.map kV))):(tupleKind (bQ P w)).is h ks a:=by obtain ⟨_,its,r,o,h1,h2,n,h3⟩:=(show ObjOk P w H h a (.tup (ks.map kV)) from ok a _ e);exact ⟨o,its.toArray,n,h1,h2,h3,by simpa using Dy r⟩
theorem lN{kvs:List (List Key×V)}(ok:HOk P w H h)(e:Rd H a (.dT kvs)):kvs.length<=sizeLine/\(a==sysModules)=false/\
  ∃xs,KT H kvs xs/\h.DictOfH (tupleKind (bQ P w)) a xs:=by
 obtain ⟨z,y,xs,r,o,es,ep,h1,h2,h3,h4,h5⟩:=(show ObjOk P w H h a (.dT kvs) from Dz ok e);refine ⟨z,y,xs,r,o,es,ep,h1,h2,h3,h4,λx hx=>?_,h5⟩;have all:∀{l:List (List Key×V)}{m:List (List Key×AQ×AN)},KT H l m->∀x∈m,(tupleKind (bQ P w)).is h x.1 x.2.1:=by
  intro l m q;induction q with
  |nil=>intro x hx;exact nomatch hx
  | @cons p q ps qs hq t ih=>
   intro x hx;rcases a7.mp hx with e |hx
   .subst e;exact jA ok (by rw[<-hq.1];exact hq.2.1)
   .exact ih x hx
 exact all r x hx
theorem rn{kvs:List (List Key×V)}(ok:HOk P w H h)(e:H a=some (.dT kvs)):kvs.length<=sizeLine/\(a==sysModules)=false/\
  ∃xs,KT H kvs xs/\h.DictOfH (tupleKind (bQ P w)) a xs:=lN ok (.inl e)
end
def DGet(H:Hp)(a:AQ)(y:V)(r:Option V):Prop:=
 (∃kvs k,Rd H a (.dK kvs)/\y=kV k/\r=cg kvs k)\/∃kvs k b,Rd H a (.dT kvs)/\y=.ref b/\H b=some (.tup (k.map kV))/\r=cg kvs k
def DPut(H:Hp)(a:AQ)(y v:V)(H':Hp):Prop:=
 (∃kvs k,H a=some (.dK kvs)/\y=kV k/\kvs.length < sizeLine/\H'=upd H a (.dK (putD kvs k v)))\/
 ∃kvs k b,H a=some (.dT kvs)/\y=.ref b/\H b=some (.tup (k.map kV))/\kvs.length < sizeLine/\H'=upd H a (.dT (putD kvs k v))
def DGet.t{H:Hp}{a b:AQ}{kvs:List (List Key×V)}{k:List Key}(e:H a=some (.dT kvs))(eb:H b=some (.tup (k.map kV))):DGet H a (.ref b) (cg kvs k):=.inr ⟨kvs,k,b,.inl e,rfl,eb,rfl⟩
def DPut.t{H:Hp}{a b:AQ}{kvs:List (List Key×V)}{k:List Key}{v:V}(e:H a=some (.dT kvs))(eb:H b=some (.tup (k.map kV)))(hl:kvs.length < sizeLine):
  DPut H a (.ref b) v (upd H a (.dT (putD kvs k v))):=.inr ⟨kvs,k,b,e,rfl,eb,hl,rfl⟩
section
variable {X:Cx} {p9:AC} {σ:St} {H:Hp} {s:AI} {a:AQ} {y v:V} {u r:AN} {o:Option V} {A:AM} {E:AG}
theorem Inv.big(I:Inv X p9 σ H s):sysModules < (~~~s):=by have h:mainGlobals < (~~~s):=(I.mod.glob.keeps I.bk).lt;exact Nat.lt_trans (!1) h
theorem We{Q:AG}(hu:A.units+1 < cLine)(I:Inv X p9 σ H s)(g:DGet H a y (some v))(ry:RelV y u)(h:∀w' s',Inv X p9 σ H s'->RelV v w'->Q w' s'):
  wpAny (model X.prog X.w) A (getItem (.ref a) u) Q E s:=by
 rcases g with ⟨kvs,k,e,ey,l⟩ |⟨kvs,k,b,e,ey,eb,l⟩
 .subst ey;obtain ⟨z,hd,vs,rel,dd⟩:=lM I.hok e;obtain ⟨w',hw,rw'⟩:=RelO.some_of (v:=v) (o:=valueAt vs k) (by rw[l];exact rel.val k);exact wpAny_getItem_of (lL ry) dd.mapOf hw (h w' _ (I.tok _) rw')
 .subst ey;cases (show u=Value.ref b from ry);obtain ⟨z,hd,xs,rel,dd⟩:=lN I.hok e;obtain ⟨w',hw,rw'⟩:=RelO.some_of (v:=v) (o:=(atKey xs k).map (·.2)) (by rw[l];exact rel.val k);obtain ⟨p,hp,hp2⟩:=br.mp hw;refine wpAny_getItem_heap (tupleKind_room_in1 hu) (jA I.hok eb) dd hp ?_;rw[hp2];exact h w' _ (I.tok _) rw'
theorem Wf{Q:AG}(hu:A.units+1 < cLine)(I:Inv X p9 σ H s)(g:DGet H a y o)(ry:RelV y u)(h:∀s',Inv X p9 σ H s'->Q (.bool o.isSome) s'):
  wpAny (model X.prog X.w) A (compareOp .In u (.ref a)) Q E s:=by
 rcases g with ⟨kvs,k,e,ey,l⟩ |⟨kvs,k,b,e,ey,eb,l⟩
 .subst ey;obtain ⟨z,hd,vs,rel,dd⟩:=lM I.hok e;refine wpAny_in_of (lL ry) hd dd.mapOf ?_;rw[<-(rel.val k).isSome_eq,<-l];exact h _ (I.tok _)
 .subst ey;cases (show u=Value.ref b from ry);obtain ⟨z,hd,xs,rel,dd⟩:=lN I.hok e;refine wpAny_in_heap (tupleKind_room_in1 hu) (jA I.hok eb) hd dd ?_;have q:=(rel.val k).isSome_eq;rw[Option.isSome_map]at q;rw[<-q,<-l];exact h _ (I.tok _)
theorem Wg{Q:AG}(hu:A.units+1 < cLine)(I:Inv X p9 σ H s)(g:DGet H a y o)(ry:RelV y u)(h:∀s',Inv X p9 σ H s'->Q (.bool (!o.isSome)) s'):
  wpAny (model X.prog X.w) A (compareOp .NotIn u (.ref a)) Q E s:=by
 rcases g with ⟨kvs,k,e,ey,l⟩ |⟨kvs,k,b,e,ey,eb,l⟩
 .subst ey;obtain ⟨z,hd,vs,rel,dd⟩:=lM I.hok e;refine wpAny_notIn_of (lL ry) hd dd.mapOf ?_;rw[<-(rel.val k).isSome_eq,<-l];exact h _ (I.tok _)
 .subst ey;cases (show u=Value.ref b from ry);obtain ⟨z,hd,xs,rel,dd⟩:=lN I.hok e;refine wpAny_notIn_heap (tupleKind_room_in1 hu) (jA I.hok eb) hd dd ?_;have q:=(rel.val k).isSome_eq;rw[Option.isSome_map]at q;rw[<-q,<-l];exact h _ (I.tok _)
theorem DG{h':Heap}{t':Nat}{ob:HO}(I:Inv X p9 σ H s)(mu:Mut (H a))(hs:Heap.SameBut a s.heap h')(he:∃q,h'.get? a=some q)(new:ObjOk X.prog X.w (upd H a ob) h' a ob):
  Inv X p9 σ (upd H a ob) { s with heap:=h',toks:=t' }:=
 I.write (x:=a) (e:=a) mu (.inl rfl) (λb q hb z=>(hs.2 b hb).trans z) he new
theorem Wh{P:AK}{w:World}{H':Hp}{h':Heap}{kvs:List (Key×V)}{vs:List (Key×AN)}(z:kvs.length<=sizeLine)(hd:(a==sysModules)=false)(rel:KV kvs vs)(dd:h'.DictOf (bQ P w) a vs):
  ObjOk P w H' h' a (.dK kvs):=⟨z,hd,vs,rel,dd⟩
theorem Wi{H':Hp}{Q:Unit->AI->Prop}(hu:A.units+1 < cLine)(I:Inv X p9 σ H s)(g:DPut H a y v H')(ry:RelV y u)(rv:RelV v r)(h:∀s',Inv X p9 σ H' s'->Q () s'):
  wpAny (model X.prog X.w) A (setItem (.ref a) u r) Q E s:=by
 rcases g with ⟨kvs,k,e,ey,l,eH⟩ |⟨kvs,k,b,e,ey,eb,l,eH⟩
 .subst ey eH;obtain ⟨z,hd,vs,rel,dd⟩:=Wd I.hok e;have hz:vs.length<=sizeLine:=by rw[<-rel.length];exact z
  have hl:(putD kvs k v).length<=sizeLine:=by have:=length_putD kvs k v;omega
  refine wpAny_setItem_pairs (hsz:=hz) (lL ry) dd λh' dd' hs=>h _ ?_;have he:∃q,h'.get? a=some q:=let ⟨q,_,_,hq,_⟩:=dd';⟨q,hq⟩;exact DG I (by rw[e];exact gt) hs he (Wh hl hd (rel.put k rv) dd')
 .subst ey eH;cases (show u=Value.ref b from ry);obtain ⟨z,hd,xs,rel,dd⟩:=rn I.hok e;have hz:xs.length<=sizeLine:=by rw[<-g9 rel];exact z
  have hl:(putD kvs k v).length<=sizeLine:=by have:=length_putD kvs k v;omega
  refine wpAny_setItem_heap (hsz:=hz) (tupleKind_room_in1 hu) (jA I.hok eb) dd λh' dd' hs=>h _ ?_;obtain ⟨q,es,ep,hq,h2,h3,h4,_,h5⟩:=dd';refine DG I (by rw[e];exact gt) hs ⟨q,hq⟩ ⟨hl,hd,_,(rel.put k eb rv).keeps λc ys ec=>?_,q,es,ep,hq,h2,h3,h4,h5⟩;rw[aF (lB ec e (λz=>nomatch z))];exact ec
end
def Wj {X:Cx} {p9:AC} {Y:St} {H:Hp} {s:AI} {a:AQ} {y:V} {o:Option V} (I:Inv X p9 Y H s) (g:DGet H a y o):s.TypeIs (.ref a) "dict":=by
 rcases g with ⟨kvs,k,e,_,_⟩ |⟨kvs,k,b,e,_,_,_⟩
 .obtain ⟨_,_,vs,_,dd⟩:=lM I.hok e;exact dd.typeIs
 .obtain ⟨_,_,xs,_,dd⟩:=lN I.hok e;exact dd.typeIs
def Wk {P:AK} {w:World} {H:Hp} (h:Heap) (hb:sysModules < h.objs.size):ObjOk P w H (h.push { cls:=.type "dict",data:=.dict #[] }) h.objs.size (.dT []):=
 ⟨dE _,cr.mpr (Ne.symm (ca hb)),[],.nil,_,#[],0,aS _ rfl,⟨rfl,rfl,rfl⟩,rfl,rfl,gz⟩
def Wl:TE:=λ_ H Q=>∀p,H p=none->Q (.ref p) (upd H p (.dT []))
section
variable {X:Cx} {pos:Pos}
theorem Wm:PE X (.Dict [] [] pos) Wl:=λp9 s Y H Q I h=>
 wpAny_Dict_empty ⟨.ref (~~~s),_,I.laid (a:=(~~~s)) (o:=.dT []) (t':=s.toks) (λ_ _ q=>ah _ q) (ax _) (Wk s.heap I.big),rfl,h _ (I.hok.fresh (ax _))⟩
end
def Wn(tk tv:TE):TE:=λY H Q=>tk Y H λy H1=>tv Y H1 λv H2=>∃(b:AQ)(k:List Key),y=.ref b/\H2 b=some (.tup (k.map kV))/\∀p,H2 p=none->Q (.ref p) (upd H2 p (.dT [(k,v)]))
section
variable {X:Cx}
def lO:Obj:={ cls:=.type "dict",data:=.dict #[] }
theorem Wo{k v:AO}{pos:Pos}{tk tv:TE}(hu:X.A.units+1 < cLine)(hk:PE X k tk)(hv:PE X v tv):PE X (.Dict [some k] [v] pos) (Wn tk tv):=by
 intro p9 s Y H Q I q;have fp:∀{H':Hp},H' (~~~s)=none->dI X p9 H' (~~~s):=λhn=>I.fpOk (ax _) hn;have I0:Inv X p9 Y H { s with heap:=s.heap.push lO }:=I.kept (t':=s.toks) λ_ _ q=>ah _ q;have I1:Inv X (p9++[((~~~s),lO)]) Y H { s with heap:=s.heap.push lO }:=I0.pins_of λx hx=>by
  rcases ba.mp hx with z |z
  .exact I0.pin x (aw _ z)
  .have e:x=_:=al.mp z;subst e;obtain ⟨f0,f1,f2,_⟩:=fp (I.hok.fresh (ax _));exact ⟨aS _ rfl,f0,f1,f2,λv z=>nomatch z⟩
 have sh:=zip_pairTrees [some k] [v] X.env pos rfl rfl;rw[arm_eval_Dict,sh,dictDisplay_pairs _ (by simp[pairTrees]) (by simp[pairTrees])];refine af (g7 (af ?_));unfold subDict;refine af (wpAny_alloc ?_);refine af (dA ?_);rw[if_pos (by simp[pairTrees])];refine af (pairTrees_cons_walk (thn (hk _ _ Y _ _ I1 q) λu s1 ⟨y,H1,I1,ry,q1⟩=>thn (hv _ s1 Y H1 _ I1 q1) λr s2 ⟨x,H2,I2,rx,b,kk,ey,eb,q2⟩=>pairTrees_nil_walk ?_));subst ey;cases (show u=Value.ref b from ry);obtain ⟨p1,p2,_⟩:=I2.pin ((~~~s),lO) (aw _ (aw _ (al.mpr rfl)));have I3:Inv X p9 Y H2 s2:=I2.pins_of λx hx=>I2.pin x (aw _ (c8 _ hx));have dd:s2.heap.DictOfH (tupleKind (bQ X.prog X.w)) (~~~s) []:=⟨lO,#[],0,p1,⟨rfl,rfl,rfl⟩,rfl,rfl,(λx hx=>nomatch hx),List.Pairwise.nil⟩;refine dA ?_;rw[List.forIn_cons];refine af (af ?_);show wpAny _ _ (dictSet (~~~s) (.ref b) r >>= _) _ _ _;refine af (wpAny_dictSet_heap (hsz:=dE _) (show (tupleKind (bQ X.prog X.w)).room X.A from Nat.lt_of_le_of_lt (fE _) hu) (jA I3.hok eb) dd λh' dd' hs=>ai ?_);show wpAny _ _ (forIn [] PUnit.unit _) _ _ _;rw[List.forIn_nil];refine ai (ai (ai (ai ⟨.ref (~~~s),_,?_,rfl,q2 _ p2⟩)));obtain ⟨o,es,ep,ho,h2,h3,h4,_,h5⟩:=dd';have I4:Inv X p9 Y H2 { s2 with heap:=h',toks:=s2.toks+(tupleKind (bQ X.prog X.w)).draws kk }:=I3.turnedL (ch:=[(~~~s)]) (λb hb=>by rw[al.mp hb];exact fp p2) λb o hb e=>(hs.2 b λz=>hb (by rw[z];exact al.mpr rfl)).trans e;have hsm:((~~~s)==sysModules)=false:=cr.mpr (fR I.big);refine I4.track (fp p2) ⟨by show 1<=sizeLine;decide,hsm,_,.cons ⟨rfl,?_,rx⟩ .nil,o,es,ep,ho,h2,h3,h4,h5⟩;rw[aF (aZ eb p2)];exact eb
end
open Sem (wp)
open PySem.W (KdlSrc kdl_call kdl_hint_dict)
section
variable {prog:AK} {w:World} {A:AM} {E:AG} {s:AI} {d it:AQ} {es:Array DictEntry} {ep i:Nat}
def DE(h:Heap)(d:AQ)(es:Array DictEntry)(ep:Nat):Prop:=∃o,h.get? d=some o/\o.ExactDict/\o.data=.dict es ep
theorem DE.ty (x:DE s.heap d es ep):s.TypeIs (.ref d) "dict":=by obtain ⟨o,ho,hc,hd⟩:=x;exact ⟨o,ho,hc.1⟩
theorem DE.lt{h:Heap}(x:DE h d es ep):d < h.objs.size:=by obtain ⟨o,ho,_⟩:=x;exact ay ho
theorem DE.kp{h h':Heap}(x:DE h d es ep)(k:∀o,h.get? d=some o->h'.get? d=some o):DE h' d es ep:=by obtain ⟨o,ho,r⟩:=x;exact ⟨o,k o ho,r⟩
theorem Wq{Q:AG}(hd:(d==sysModules)=false)(x:DE s.heap d es ep)
  (q:Q (.ref (~~~s)) { s with heap:=s.heap.push { cls:=.type "dict_keyiterator",data:=.fields #[.ref d,.int 0 0,.int es.size 0,.int ep 0] } }):wpAny (model prog w) A (pyIter (.ref d)) Q E s:=by
 have ty:=x.ty;obtain ⟨o,ho,hc,dat⟩:=x;refine wpAny_pyIter_slot ty F.slot_dict_iter (eR F.slot_dict_iter ty F.entry_dict_iter ?_ (F.args_dict_iter_1 _));unfold Builtin.«dict.__iter__» Builtin.Dict.dictSlotNone;refine af (af (wpAny_notOrdered_dict ty ?_));show wpAny _ _ (pure (Value.ref d)) _ _ s;refine ai ?_;show wpAny _ _ (Builtin.Dict.showsAll d >>= _) _ _ s;unfold Builtin.Dict.showsAll;rw[hd];refine af (ai (af (wpAny_dictEntries ho dat (af (wpAny_dictEpoch ho dat (af (e9 (ai ⟨_,rfl,"dict_keyiterator",_,⟨_,aS _ rfl,rfl⟩,eJ.lookup,q⟩))))))))
theorem Wr{Q:Option AN->AI->Prop}(hit:s.heap.IsKeyIter it d i es.size ep)(x:DE s.heap d es ep)(hi:i < es.size)
  (q:∀h',h'.IsKeyIter it d (i+1) es.size ep->Heap.SameBut it s.heap h'->Q (some es[i].key) { s with heap:=h' }):wpAny (model prog w) A (pyNext (.ref it)) Q E s:=by
 have ty:=hit.typeIs;obtain ⟨o,ho,hc,hd⟩:=id hit;obtain ⟨od,hod,_,dat⟩:=x;have hn:¬((i:Int) < 0):=by omega
 have own:Builtin.Dict_items.ownsTuple "dict_keyiterator"=false:=by decide
 unfold pyNext;refine af (wpAny_attempt (df (name:=⇑"__next__") ty eJ (eR eJ ty F.entry_dict_keyiterator_next ?_ (F.args_dict_keyiterator_next_1 _))));refine af (ai (af (af ?_)));first |refine af (fv ty (ai ?_)) |refine af (gu ty (ai ?_))
 refine af (wpAny_fieldsOf ho hd ?_);simp only[own,de,fb];show wpAny _ _ (if (Value.ref d==Value.none)=true then _ else _) _ _ s;rw[if_neg (show ¬((Value.ref d==Value.none)=true) from bP)];refine af (ai (af (wpAny_dictEntries hod dat ?_)));rw[if_neg (by simp)];refine af (ai (af (wpAny_dictEpoch hod dat ?_)));rw[if_neg (by simp)];refine ai ?_;simp only[hn,fb,cb,gd hi];refine af ?_;first |refine af (fv ty (ai ?_)) |refine af (gu ty (ai ?_))
 refine af (wpAny_isOneOf_keyiter ty ?_);show wpAny _ _ (setField (.ref it) 1 (rawInt ((i:Int)+1)) >>= _) _ _ s;refine af (wpAny_setField ho hd (by simp) ?_);have hit':(s.heap.update it (Obj.mapFields (·.setIfInBounds 1 (rawInt ((i:Int)+1))))).IsKeyIter it d (i+1) es.size ep:=
  ⟨_,Heap.get?_update_self _ ho (Obj.isFreed_of_fields (Obj.data_mapFields hd _)),(Obj.cls_mapFields ..).trans hc,by rw[Obj.data_mapFields hd];simp[rawInt]⟩
 refine af (dA (af (wpAny_isOneOf_keyiter (s:={ s with heap:=s.heap.update it (Obj.mapFields (·.setIfInBounds 1 (rawInt ((i:Int)+1)))) }) hit'.typeIs ?_)));show wpAny _ _ (pure es[i].key) _ _ _;exact ai (ai ⟨_,rfl,ai (q _ hit' (Heap.SameBut.update ..))⟩)
theorem Ws{Q:Option AN->AI->Prop}(hh:A.handled=none)(hit:s.heap.IsKeyIter it d es.size es.size ep)(x:DE s.heap d es ep)
  (q:∀h',Heap.ExtBut it s.heap h'->Q none { s with heap:=h' }):wpAny (model prog w) A (pyNext (.ref it)) Q E s:=by
 have ty:=hit.typeIs;obtain ⟨o,ho,hc,hd⟩:=id hit;obtain ⟨od,hod,_,dat⟩:=x;have hn:¬((es.size:Int) < 0):=by omega
 have own:Builtin.Dict_items.ownsTuple "dict_keyiterator"=false:=by decide
 unfold pyNext;refine af (wpAny_attempt (df (name:=⇑"__next__") ty eJ (eR eJ ty F.entry_dict_keyiterator_next ?_ (F.args_dict_keyiterator_next_1 _))));refine af (ai (af (af ?_)));first |refine af (fv ty (ai ?_)) |refine af (gu ty (ai ?_))
 refine af (wpAny_fieldsOf ho hd ?_);simp only[own,de,fb];show wpAny _ _ (if (Value.ref d==Value.none)=true then _ else _) _ _ s;rw[if_neg (show ¬((Value.ref d==Value.none)=true) from bP)];refine af (ai (af (wpAny_dictEntries hod dat ?_)));rw[if_neg (by simp)];refine af (ai (af (wpAny_dictEpoch hod dat ?_)));rw[if_neg (by simp)];refine ai ?_;simp only[hn,fb,cb,Array.getElem?_eq_none (ax es.size)];refine af ?_;first |refine af (fv ty (ai ?_)) |refine af (gu ty (ai ?_))
 show wpAny _ _ (setField (.ref it) 0 .none >>= _) _ _ s;refine af (wpAny_setField ho hd (by simp) ?_);show wpAny _ _ (newExc (.type "StopIteration") [] >>= _) _ _ _;refine af ?_;simp only[newExc,newTuple];refine af (e9 ?_ (by size_fits));refine af (m:=firstArgMember _ _) (wpAny_of_eq (a:=Value.none) (by first |rfl | (simp only[firstArgMember];rfl)) ?_);refine e9 ?_ (by size_fits);simp only[raiseNew];refine af (wpAny_handled ?_);rw[show A.in1.handled=none from hh];refine af (ai (wpAny_throw ?_));refine af (wpAny_isInstance (T:="StopIteration") (b:=true) ⟨_,aS _ rfl,rfl⟩ isSubtype_stop ?_);exact ai (q _ (((Heap.SameBut.update ..).extBut.push _).push _))
theorem Wt(hh:A.handled=none)(I d:AQ)(hne:d≠I)(es:Array DictEntry)(ep:Nat):
  Walks prog w A I [I,d] [I] es.size (λi v=>∃h:i < es.size,v=es[i].key) (λi h=>h.IsKeyIter I d i es.size ep/\DE h d es ep) where
 sub:=λb hb=>by simp at hb;simp[hb]
 frame:=λ_ _ _ st hk=>⟨st.1.at λo e=>hk I (by simp) o e,st.2.kp λo e=>hk d (by simp) o e⟩
 item:=λi s Q E hi st hQ=>Wr st.1 st.2 hi λh' hit' hs=>hQ _ h' s.toks ⟨hi,rfl⟩ ⟨hit',st.2.kp λo e=>hs.extBut d o hne e⟩ λb o hb e=>hs.extBut b o (λh=>hb (by simp[h])) e
 done:=λs Q E st hQ=>Ws hh st.1 st.2 λh' he=>hQ h' s.toks λb o hb e=>he b o (λh=>hb (by simp[h])) e
 self:=λ_ _ _ _ st hQ=>wpAny_pyIter_keyiter st.1 hQ
theorem Wu (lo:(d==sysModules)=false):KdlSrc prog w "dict" d d es.size (λi v=>∃h:i < es.size,v=es[i].key) (λh=>DE h d es ep) where
 type:=λ_ hm=>hm.ty
 there:=λ_ hm=>⟨hm.lt,hm.lt⟩
 keep:=λ_ _ hm hk=>hm.kp λo e=>hk d (.inl rfl) o e
 notList:=by decide
 notTuple:=by decide
 hint:=λ_ _ _ _ hm hq=>kdl_hint_dict hm.ty hq
 iter:=λ_ _ hh hm=>⟨_,_,(λ_ _ hq=>Wq lo hm hq),Wt hh _ d (ca hm.lt) es ep,⟨⟨_,aS _ rfl,rfl,rfl⟩,hm.kp λo e=>ah _ e⟩⟩
theorem Wv(hd:(d==sysModules)=false):MeetsIn prog w (Builtin.«dict.__len__» ⟨[.ref d],[]⟩) (λ_ R s=>∃es ep,DE s.heap d es ep/\R (.ok (.ret (.int es.size s.toks))) { s with toks:=s.toks+1 }):=
 .of_wp λA R s ⟨es,ep,⟨o,ho,_,dat⟩,h⟩=>by
  show wpAny _ _ (dictSize d >>= _) _ _ s;unfold dictSize;refine af (af (wpAny_dictEntries ho dat (ai ?_)));show wpAny _ _ (Builtin.Dict.pendingCount d >>= _) _ _ s;exact af (wpAny_pendingCount_other hd (wpAny_ret_mkInt (by rw[Nat.add_zero];exact h)))
theorem Ww {Q:AG} (hd:(d==sysModules)=false) (x:DE s.heap d es ep) (hf:(es.size:Int) < 2 ^ 63) (q:Q (.int es.size (s.toks+1)) { s with toks:=s.toks+1+1 }):wpAny (model prog w) A (call (.builtin "len") [.ref d]) Q E s:=by refine Calls.call_function_entry kind_len plain_len entry_len (args_len1 _) ?_;unfold Builtin.«len»;refine af (m:=oneArg "len" _) (ai ?_);refine af (m:=callSpecial? (.ref d) (⇑"__len__")) (df (name:=⇑"__len__") x.ty F.slot_dict_len (call_meetsIn F.slot_dict_len x.ty F.entry_dict_len (F.args_dict_len_1 _) (Wv hd) ⟨es,ep,x,?_⟩));show wpAny _ _ _ _ _ { s with toks:=s.toks+1 };refine af (dA (ai (af (wpAny_letGo ?_))));show wpAny _ _ (if ((es.size:Nat):Int) < 0 then _ else _) _ _ _;rw[if_neg (!0)];show wpAny _ _ (if ((es.size:Nat):Int)≥2 ^ 63 then _ else _) _ _ _;rw[if_neg (!0)];exact af (wpAny_mkInt (ai ⟨_,rfl,q⟩))
end
section
variable {X:Cx}
theorem Wx:bh X (.builtin "len") (λxs H Q=>∃a kvs,xs=[V.ref a]/\H a=some (.dT kvs)/\Q (.int kvs.length) H):=by
 intro p9 s Y H xs us Q I r h;obtain ⟨a,kvs,rfl,ha,q⟩:=h;obtain ⟨u,rfl,ru⟩:=vals1 r;cases ru;obtain ⟨z,hd,ys,rel,o,es,ep,ho,h2,h3,h4,_⟩:=rn I.hok ha;have hl:es.size=kvs.length:=by rw[<-cp,h4,ag,<-g9 rel]
 refine Ww hd ⟨o,ho,h2,h3⟩ (by rw[fw]at z;omega) ⟨.int kvs.length,H,(I.tok _).tok _,⟨_,by rw[hl]⟩,q⟩
theorem KT.adrs{H:Hp}{kvs:List (List Key×V)}{ys:List (List Key×AQ×AN)}(r:KT H kvs ys):Paired (λ(k:List Key×V) (a:AQ)=>H a=some (.tup (k.1.map kV))) kvs (ys.map (·.2.1)):=by
 induction r with
 |nil=>exact .nil
 |cons h t ih=>exact .cons h.2.1 ih
theorem DK:∀as:List AQ,Vals (as.map V.ref) (as.map Value.ref)
 |[]=>.nil
 |_::as=>.cons rfl (DK as)
theorem Wy (hc:X.calm=true):bh X (.type "list") (λxs H Q=>∃p kvs,xs=[V.ref p]/\H p=some (.dT kvs)/\∀as:List AQ,Paired (λ(k:List Key×V) (a:AQ)=>H a=some (.tup (k.1.map kV))) kvs as->∀l,H l=none->Q (.ref l) (upd H l (.lst (as.map V.ref)))):=by
 intro p9 s Y H xs us Q I r h;obtain ⟨p,kvs,rfl,ha,q⟩:=h;obtain ⟨u,rfl,ru⟩:=vals1 r;cases ru;obtain ⟨z,hd,ys,rel,o,es,ep,ho,h2,h3,h4,_⟩:=rn I.hok ha;have hy:es.size=ys.length:=by rw[<-cp,h4,ag]
 have hl:ys.length=kvs.length:=(g9 rel).symm;refine kdl_call (Wu (es:=es) (ep:=ep) hd) (I.ok.hd hc) ⟨o,ho,h2,h3⟩ (by rw[hy,hl];exact z) λh' tk acc c kp e it=>?_;have hv:acc=((ys.map (·.2.1)).map Value.ref).toArray:=by
  refine Array.ext (by rw[it.1,hy];simp) λi h1 h2=>?_;obtain ⟨hi,ev⟩:=it.2 i _ (gd h1);rw[ev];have e1:es[i]=es.toList[i]'(by rw[cp];exact hi):=by rw[Array.getElem_toList]
  rw[e1];simp only[h4,List.getElem_map,entryOfKey,List.getElem_toArray]
 refine ⟨.ref (~~~s),_,I.laid (t':=tk) kp (ax _) (show ObjOk X.prog X.w _ h' _ (.lst ((ys.map (·.2.1)).map V.ref)) from ⟨by rw[ag,ag,hl];exact z,_,c,DK _,by rw[e,hv]⟩),rfl,q _ (KT.adrs rel) _ (I.hok.fresh (ax _))⟩
end
def vO(X:Cx)(t:TE):TE:=λY H Q=>t Y H λv H1=>∃p,v=.ref p/\SqL X.K H1 p []/\∀D,H1 D=none->Q (.ref D) (upd H1 D (.dT []))
def na{a b c:Nat}(h:a=c)(l:b < c)(e:a=b):False:=by omega
def DN{X:Cx}{kx vx iter:AO}{x:Str}{px:Pos}{ifs:AE}{scope:Scope}{pos:Pos}{t:TE}{p9:AC}{s:AI}{Y:St}{H:Hp}{Q:VK}{RR:AN->AQ->Result->AI->Prop}(hc:X.calm=true)(he:PE X iter t)
  (hcell:scope.names.all (λy=>y.2 != NameKind.cell)=true) (hkind:scope.kind=.function) (hx:scope.names.lookup x=some .local) (I:Inv X p9 Y H s) (h:vO X t Y H Q)
  (fin:∀(D C:AQ)(H':Hp)(s4:AI)(m:AH),Inv X p9 Y H' s4->Q (.ref D) H'->s4.heap.Ns C m->dI X p9 H' C->RR (.ref D) C (.ok .next) s4):
  ↥X (eval iter X.env) (λxv s₁=>↥X (pyIter xv) (λit s₂=>↥X newDict (λacc s₃=>
   ↥X (newFunctionEnv scope X.env.globals (b8 X.env scope.names []) [] X.env.qual none .none (some X.env)) (λcenv s₄=>
    codeAny (model X.prog X.w) X.A (.compStart (.DictComp kx vx [⟨.Name x px,iter,ifs,0⟩] scope pos) 0 it acc { cenv with scope:=relabel scope X.env }) (RR acc cenv.locals) s₄) X.xe s₃) X.xe s₂) X.xe s₁) X.xe s:=by
 have hcell':∀y∈scope.names,y.2≠NameKind.cell:=λy hy=>by
  have:=bg.mp hcell y hy;simpa using this
 generalize b8 X.env scope.names []=cl;refine thn (he p9 s Y H _ I h) λxv s1 h1=>?_;obtain ⟨v,H1,I1,rv,p,ev,hp,q⟩:=h1;subst ev;cases rv;obtain ⟨its,r,pl,_⟩:=I1.list hp;cases r;have hl:s1.heap.IsList p #[]:=pl.isList;have hlt:p < s1.heap.objs.size:=by obtain ⟨_,e,_⟩:=hl;exact ay e
 refine gX hl ?_;refine e9 (wpAny_newFunctionEnv hcell' (by intro y hy;simp at hy) (λh₁ hns₁ hsb₁=>?_) hkind);dsimp only at hns₁ hsb₁ ⊢;generalize hH1:s1.heap.push { cls:=.type "list_iterator",data:=.fields #[.ref p,.int 0 0] }=h2 at hns₁ hsb₁ ⊢;generalize hH2:h2.push { cls:=.type "dict",dict:=none,data:=.dict #[] }=HP at hns₁ hsb₁ ⊢;have z1:h2.objs.size=s1.heap.objs.size+1:=by rw[<-hH1,dL]
 have z2:HP.objs.size=s1.heap.objs.size+2:=by rw[<-hH2,dL,z1]
 have up:∀b o,HP.get? b=some o->h₁.get? b=some o:=λb o e=>hsb₁.extBut b o (ca (ay e)) (ah _ e);have up2:∀b o,h2.get? b=some o->h₁.get? b=some o:=λb o e=>up b o (hH2 ▸ ah _ e);have old:∀b o,s1.heap.get? b=some o->h₁.get? b=some o:=λb o e=>up2 b o (hH1 ▸ ah _ e);have hacc:h₁.DictOf (bQ X.prog X.w) h2.objs.size []:=(Heap.DictOf.new h2 (knd:=bQ X.prog X.w)).at λo e=>up _ _ (hH2 ▸ e);have hit:h₁.IsListIter s1.heap.objs.size p 0:=⟨_,up2 _ _ (hH1 ▸ aS _ rfl),rfl,rfl⟩;have loop:∀s₃:AI,s₃={ s1 with heap:=h₁,toks:=s1.toks+([]:List (Str×AN)).length }->
   codeAny (model X.prog X.w) X.A (.compLoop (.DictComp kx vx [⟨.Name x px,iter,ifs,0⟩] scope pos) 0 (.ref s1.heap.objs.size) (.ref h2.objs.size) (compEnvC scope cl HP.objs.size X.env))
    (RR (.ref h2.objs.size) HP.objs.size) s₃:=by
  rintro s₃ rfl;refine codeAny_compLoop_walkD (knd:=bQ X.prog X.w) (cenv:=compEnvC scope cl HP.objs.size X.env) (Walks.list (I1.ok.hd hc) s1.heap.objs.size p (ca hlt) #[]) (λ_=>true) (λ_ _=>True) (λ_ _=>True) (lookup_relabel_local hx) (by simp[compEnvC,relabel,hkind])
   (show h2.objs.size≠HP.objs.size by omega) (λz=>?_) (λz=>?_) ⟨hit,hl.at λo e=>old _ _ e⟩ hacc hns₁ (λi v _ _ z=>by simp at z) (λi v _ _ z=>by simp at z) (λi v _ _ z=>by simp at z) (λh' tk m' kvs vs hn ha hlen hP hF hk=>?_) (dE _)
  .rcases a7.mp z with e |e
   .exact na z1 (Nat.lt_succ_self _) e
   .exact na z1 (gx hlt) (al.mp e)
  .have z:HP.objs.size∈[s1.heap.objs.size,p]:=z;rcases a7.mp z with e |e
   .exact na z2 (!0) e
   .exact na z2 (bi hlt (!0)) (al.mp e)
  .have e0:vs=[]:=fi hlen;subst e0;have e1:kvs=[]:=fi (Nat.le_zero.mp hF.length_le);subst e1;obtain ⟨o,es,ep,g1,g2,g3,_,g4,_⟩:=ha;have e2:es.toList=[]:=fi g4.length;have keep:∀b o,s1.heap.get? b=some o->h'.get? b=some o:=λb o e=>by
    have lb:=ay e;exact hk b o (λz=>na z2 (bi lb (!0)) (Eq.symm z)) (λz=>na rfl lb (Eq.symm (al.mp z))) (λz=>na z1 (gx lb) (Eq.symm z)) (old b o e)
   have nd:H1 h2.objs.size=none:=I1.hok.fresh (!0);have hne:HP.objs.size≠h2.objs.size:=by omega
   exact fin _ _ _ { s1 with heap:=h',toks:=tk } m' (I1.laid (t':=tk) (o:=.dT []) keep (!0) ⟨dE _,cr.mpr (λz=>na z1 (gx I1.big) z),[],.nil,o,es,ep,g1,g2,g3,e2,gz⟩) (q _ nd) hn (I1.fpOk (!0) (by rw[aF hne];exact I1.hok.fresh (!0)))
 exact codeAny_compStart_dict (loop _ rfl) ((Walks.list (I1.ok.hd hc) s1.heap.objs.size p (ca hlt) #[]).self 0 _ _ _ ⟨hit,hl.at λo e=>old _ _ e⟩ (loop _ rfl))
def Wz{X:Cx}{kx vx iter:AO}{x:Str}{px:Pos}{ifs:AE}{scope:Scope}{pos:Pos}{t:TE}(hc:X.calm=true)(he:PE X iter t)
  (hcell:scope.names.all (λy=>y.2 != NameKind.cell)=true) (hnames:scope.names.all (λy=>y.2 != NameKind.local||scope.names.lookup y.1==some NameKind.local)=true)
  (hfr:scope.names.all (λy=>y.2 != NameKind.free||(X.env.kindOf y.1==some NameKind.cell||X.env.kindOf y.1==some NameKind.free))=true)
  (hkind:scope.kind=.function) (hx:scope.names.lookup x=some .local) (hs:∀x,foldedSetIterable iter X.env x=pure x):PE X (.DictComp kx vx [⟨.Name x px,iter,ifs,0⟩] scope pos) (vO X t):=by
 intro p9 s Y H Q I h;have hnames':∀y∈scope.names,y.2=NameKind.local->scope.names.lookup y.1=some NameKind.local:=λy hy hl=>by
  have:=bg.mp hnames y hy;simpa [hl] using this
 have hcs:∀y∈scope.names,y.2=NameKind.free->(X.env.cells.lookup y.1).isSome=true:=λy hy hl=>by
  have:=bg.mp hfr y hy;obtain ⟨c,e⟩:=I.ok.has y.1 (by simpa [hl] using this);rw[e];rfl
 rw[arm_eval_DictComp];refine gv (use:=none) (Q:=EP X p9 Y Q) rfl hs (qR hcs) hkind hnames'
  (DN (RR:=λacc C=>compPost (model X.prog X.w) X.A X.xe none (EP X p9 Y Q) acc C) hc he hcell hkind hx I h λL C H' s4 m I4 q hn fC=>?_)
 obtain ⟨f0,f1,f2,f3,f4,f5⟩:=fC;exact ⟨m,hn,λh' hs'=>⟨.ref L,H',I4.turned (t':=s4.toks) (it:=C) (λb o hb e=>hs'.extBut b o hb e) f0 f1 f3 f4 f5,rfl,q⟩⟩
def WD{X:Cx}{kx vx iter:AO}{x:Str}{px:Pos}{ifs:AE}{scope:Scope}{pos py spos:Pos}{t:TE}{i:Nat}{y:Str}(hN:X.N.Nodup)(hiy:X.N[i]?=some y)(hy:Loc X.env.scope y)(hc:X.calm=true)(he:PE X iter t)
  (hcell:scope.names.all (λy=>y.2 != NameKind.cell)=true) (hnames:scope.names.all (λy=>y.2 != NameKind.local||scope.names.lookup y.1==some NameKind.local)=true)
  (hfr:scope.names.all (λy=>y.2 != NameKind.free||(X.env.kindOf y.1==some NameKind.cell||X.env.kindOf y.1==some NameKind.free))=true)
  (hkind:scope.kind=.function) (hx:scope.names.lookup x=some .local) (hs:∀x,foldedSetIterable iter X.env x=pure x)
  (hsw:swapsWith (.DictComp kx vx [⟨.Name x px,iter,ifs,0⟩] scope pos) (some (.Name y py)) spos.line X.env=pure true)
  (hf:X.fn y=true\/X.env.scope.names.lookup y=some .local):
  PS X (.Assign [.Name y py] (.DictComp kx vx [⟨.Name x px,iter,ifs,0⟩] scope pos) spos) (lE (vO X t) (lC i)):=by
 intro p9 s Y H D I h;have hnames':∀y∈scope.names,y.2=NameKind.local->scope.names.lookup y.1=some NameKind.local:=λy hy hl=>by
  have:=bg.mp hnames y hy;simpa [hl] using this
 have hcs:∀y∈scope.names,y.2=NameKind.free->(X.env.cells.lookup y.1).isSome=true:=λy hy hl=>by
  have:=bg.mp hfr y hy;obtain ⟨c,e⟩:=I.ok.has y.1 (by simpa [hl] using this);rw[e];rfl
 rw[exec_Assign_Name_used _ _ _ _ hsw];refine af (g7 (af ?_));show wpAny _ X.A (do let _ <-comprehension (.DictComp kx vx [⟨.Name x px,iter,ifs,0⟩] scope pos) scope X.env _ newDict false (eval iter X.env) (some (assign (.Name y py) X.env))) _ _ s;refine af (cm (gv (use:=some (assign (.Name y py) X.env)) (Q:=λ_ s'=>SP X p9 D .next s') rfl hs (qR hcs) hkind hnames'
  (DN (RR:=λacc C=>compPost (model X.prog X.w) X.A X.xe (some (assign (.Name y py) X.env)) (λ_ s'=>SP X p9 D .next s') acc C) hc he hcell hkind hx I h λL C H' s4 m I4 q hn fC=>?_)) (λ_ s' hq=>ai (ai hq)) λ_ _ e=>e)
 obtain ⟨oC,es,ep,eC,rC⟩:=id hn;obtain ⟨f0,f1,f2,f3,f4,f5⟩:=fC;have ncell:∀v,oC.data≠.cell v:=λv z=>by rw[rC.1]at z;cases z
 have I5:Inv X (p9++[(C,oC)]) Y H' s4:=I4.pins_of λp hp=>by
  rcases ba.mp hp with z |z
  .exact I4.pin p (aw _ z)
  .have e:p=_:=al.mp z;subst e;exact ⟨eC,f0,f1,f2,ncell⟩
 refine wpAny_assign_Name (iw I5 hN hiy hy (v:=.ref L) (u:=.ref L) rfl (λs5 I6=>?_) hf);have eC5:s5.heap.get? C=some oC:=(I6.pin (C,oC) (aw _ (aw _ (al.mpr rfl)))).1;have I7:Inv X p9 (Y.set i (some (.ref L))) H' s5:=I6.pins_of λp hp=>I6.pin p (aw _ (c8 _ hp));refine ⟨m,⟨oC,es,ep,eC5,rC⟩,λh'' hs''=>?_⟩;exact ⟨_,H',I7.turned (t':=s5.toks) (it:=C) (λb o hb e=>hs''.extBut b o hb e) f0 f1 f3 f4 f5,q⟩
open PySem.W (findIn mroIn clsIn typeIn Looks looks_findIn looks_mroIn looks_typeIn)
section
variable {prog:AK} {w:World} {A:AM} {E:AG} {h:Heap} {g:Array GenState} {d:Drawn} {t:Nat} {os:OsState} {K:PF}
theorem WF {c:AN} (hk:dq K c=true):isSubtype (.type "NoneType") c=pure false:=by
 rw[isSubtype_type];have e:fastBuiltinMro "NoneType"=some [.type "NoneType",.type "object"]:=by rfl'
 rw[e];unfold dq at hk;split at hk
 .rfl
 .rename_i T;rw[av]at hk;subst hk;rfl'
 .cases hk
theorem WK {c:AN} (hk:dq K c=true):¬(Value.type "NoneType"==c)=true:=by
 unfold dq at hk;split at hk
 .intro z;cases z
 .rename_i T;rw[av]at hk;subst hk;ac_rfl
 .cases hk
theorem WL{c:AN}{dep:Int}{tk:Tok}{Q:Fin->AI->Prop}(X:K.In h)(hk:dq K c=true)(hq:∀t',Q (.done (.ret (.bool false))) ⟨h,g,d,t',os⟩):
  wpAny (model prog w) A (Builtin.«isinstance.nested» ⟨[.none,c,.int dep tk],[]⟩) Q E ⟨h,g,d,t,os⟩:=by
 obtain ⟨hty,his⟩:=Dh (M:=model prog w) X hk;have hsub:Looks (model prog w) h (isSubtype (.type "NoneType") c) false:=Looks.of_pure (WF hk);have L0:Looks (model prog w) h (typeOf .none) (.type "NoneType"):=Looks.of_pure rfl;have LI:Looks (model prog w) h (isInstance .none c) false:=L0.andThen hsub;have hisD:Looks (model prog w) h (isType (.type "NoneType")) true:=Looks.of_pure rfl;unfold Builtin.«isinstance.nested»;refine af (L0.at ?_);rw[if_neg (WK hk)];refine af (hty.at ?_);rw[if_pos (!1)]
 k_delta "plainIsInstance"
 refine af (af (his.at ?_));simp only[ft,de,fb];refine af (LI.at ?_);simp only[de,fb];refine af (class_attr_none ?_);first
  | (refine af (hisD.at ?_)
     simp only[ft,de,fb];refine af (gg ?_);refine hsub.at ?_;first
     |exact ai (hq _)
     |exact ai (ai (hq _))
     |exact af (ai (ai (hq _))))
  | (repeat (first |refine ai ?_ |refine gg ?_ |refine af ?_)
     exact hq _)
theorem WM {c:AN} {Q:AG} {s:AI} (X:K.In s.heap) (hk:dq K c=true) (hq:∀t',Q (.bool false) { s with toks:=t' }):wpAny (model prog w) A (call (.builtin "isinstance") [.none,c]) Q E s:=by obtain ⟨hh,g,d,t,os⟩:=s;exact call_isinstance_of (WL X hk λt'=>hq t') (by intro e;cases e)
end
section
variable {X:Cx}
def WN(K:PF):AR->Hp->VK->Prop:=λxs H Q=>(∃cv,xs=[.non,cv]/\dq K (valOf cv)=true/\Q (.bl false) H)\/Di K xs H Q
theorem WP:bh X (.builtin "isinstance") (WN X.K):=by
 intro p9 s Y H xs us Q I r h;rcases h with ⟨cv,rfl,hk,q⟩ |h
 .obtain ⟨u,w',rfl,rx,ry⟩:=vals2 r;cases rx;have e2:w'=valOf cv:=by
   cases cv with
   |ref a=>exact ry
   |ty n=>exact ry
   |_=>cases hk
  subst e2;exact WM I.kIn hk λt'=>⟨.bl false,H,I.tok _,rfl,q⟩
 .exact Vh p9 s Y H xs us Q I r h
end
end L2
namespace RF
open PySem PySem.Spec PyProof.Rows L2
inductive D where
 |non |bl (b:Bool) |int (i:Int) |str (l:AA) |tup (xs:List D) |lst (xs:List D) |ref (a:AQ) |scr (ns:List Int) |exn (C:AL) |exa (C f:AL) (d:D) |obj (C f:AL) (q:AQ) |dct (ks:List (List Int)) (ds:List D)
 deriving Inhabited
abbrev AS:=List D
inductive DO where
 |lst (xs:AS)
 |dct (ks:List (List Int)) (ds:AS)
 deriving Inhabited
abbrev DH:=AQ->Option DO
abbrev AT:=D->DH->Prop
def aP(G:DH)(a:AQ)(o:DO):DH:=λb=>if b=a then some o else G b
def gG(G:DH)(a:AQ):DH:=λb=>if b=a then none else G b
def bG{G:DH}{a:AQ}{o:DO}:aP G a o a=some o:=if_pos rfl
def bR{G:DH}{a b:AQ}{o:DO}(h:b≠a):aP G a o b=G b:=if_neg h
def vP{G:DH}{a:AQ}:gG G a a=none:=if_pos rfl
def lQ{G:DH}{a b:AQ}(h:b≠a):gG G a b=G b:=if_neg h
def WQ{G:DH}{a:AQ}{o u:DO}:aP (aP G a o) a u=aP G a u:=by funext b;unfold aP;split <;> rfl
def DP{G:DH}{a:AQ}{o:DO}(h:G a=none):gG (aP G a o) a=G:=by
 funext b;unfold aP gG;split
 .rename_i e;rw[e,h]
 .rename_i e;exact if_neg e
def rA{G:DH}{a b:AQ}{o:DO}(h:G a=some o)(h':G b=none):a≠b:=by intro e;subst e;rw[h]at h';cases h'
abbrev sz:Nat:=1000000
abbrev FZ:=AQ->Prop
def FzL(H:Hp)(F:FZ)(a:AQ)(vs:AR):Prop:=F a/\H a=some (.lst vs)
def FzL.sq{K:PF}{H:Hp}{F:FZ}{a:AQ}{vs:AR}(h:FzL H F a vs):SqL K H a vs:=.inl (.inl h.2)
structure TpT(K:PF)(H:Hp)(a:AQ)(vs:AR):Prop where
 it:H a=some (.tup vs)
def TpT.sq{K:PF}{H:Hp}{a:AQ}{vs:AR}(h:TpT K H a vs):SqT K H a vs:=.inl (.inl h.it)
def ScL(K:PF)(H:Hp)(a:AQ)(vs:AR):Prop:=
 (∃o,H a=some (.frz o (.lst vs)))\/
  ∃(o:Obj) (its:Array AN) (n:Nat),K.lookup a=some o/\o.cls=.type "list"/\o.dict=none/\o.data=.seq its n/\its.size<=sizeLine/\Vals vs its.toList
def ScL.sq{K:PF}{H:Hp}{a:AQ}{vs:AR}(h:ScL K H a vs):SqL K H a vs:=by
 rcases h with ⟨o,h⟩ |h
 .exact .inl (.inr ⟨o,h⟩)
 .exact .inr h
def bj(k:List Int):List Key:=k.map Sum.inl
def FzO(H:Hp)(F:FZ)(a c dx:AQ)(f:Str)(q:AQ):Prop:=F a/\H a=some (.ins c dx [(f,.ref q)])
mutual
def Rep(K:PF)(H:Hp)(F:FZ):D->V->Prop
 |.non,v=>v=.non
 |.bl b,v=>v=.bl b
 |.int i,v=>v=.int i
 |.str l,v=>v=.str (tx l)/\l.length<=sz
 |.tup ds,v=>∃a vs,v=.ref a/\TpT K H a vs/\Reps K H F ds vs
 |.lst ds,v=>∃a vs,v=.ref a/\FzL H F a vs/\Reps K H F ds vs
 |.ref a,v=>v=.ref a
 |.scr ns,v=>∃a,v=.ref a/\ScL K H a (ns.map V.int)
 |.obj C f q,v=>∃a c dx,v=.ref a/\FzO H F a c dx (⇑f) q/\PySem.W.nsIn K mainGlobals (⇑C)=some (some (.ref c))
 |.exa C f d,v=>∃a c dx ob od,∃(y:AQ)(u:V),v=.ref a/\(H a=some (.frz ob (.own y))/\ob.cls=.ref c/\ob.dict=some dx/\PySem.W.notCls ob=true)/\H dx=some (.frz od (.xd [(⇑f,u)]))/\Rep K H F d u/\PySem.W.nsIn K mainGlobals (⇑C)=some (some (.ref c))
 |.dct ks ds,v=>∃(a:AQ)(kv:List (List Key×V)),v=.ref a/\(F a/\H a=some (.dT kv))/\kv.map (·.1)=ks.map bj/\Reps K H F ds (kv.map (·.2))
 |.exn C,v=>∃a c,v=.ref a/\XO H a c/\PySem.W.nsIn K mainGlobals (⇑C)=some (some (.ref c))
def Reps(K:PF)(H:Hp)(F:FZ):AS->AR->Prop
 |[],vs=>vs=[]
 |d::ds,vs=>∃v r,vs=v::r/\Rep K H F d v/\Reps K H F ds r
end
structure Ext(H:Hp)(F:FZ)(H':Hp)(F':FZ):Prop where
 sub:∀a,F a->F' a
 keep:∀a,F a->H' a=H a
 tups:∀a xs,H a=some (.tup xs)->H' a=some (.tup xs)
 frzs:∀a o u,H a=some (.frz o u)->H' a=some (.frz o u)
def Ext.refl(H:Hp)(F:FZ):Ext H F H F:=⟨λ_ h=>h,λ_ _=>rfl,λ_ _ h=>h,λ_ _ _ h=>h⟩
def Ext.trans{H H1 H2:Hp}{F F1 F2:FZ}(a:Ext H F H1 F1)(b:Ext H1 F1 H2 F2):Ext H F H2 F2:=
 ⟨λc h=>b.sub c (a.sub c h),λc h=>(b.keep c (a.sub c h)).trans (a.keep c h),λc xs h=>b.tups c xs (a.tups c xs h),λc o u h=>b.frzs c o u (a.frzs c o u h)⟩
section
variable {K:PF} {H H':Hp} {F F':FZ}
theorem TpT.ext{a:AQ}{vs:AR}(x:Ext H F H' F')(h:TpT K H a vs):TpT K H' a vs:=⟨x.tups _ _ h.it⟩
theorem FzL.ext{a:AQ}{vs:AR}(x:Ext H F H' F')(h:FzL H F a vs):FzL H' F' a vs:=⟨x.sub _ h.1,(x.keep _ h.1).trans h.2⟩
theorem ScL.ext{a:AQ}{vs:AR}(x:Ext H F H' F')(h:ScL K H a vs):ScL K H' a vs:=by
 rcases h with ⟨o,h⟩ |h
 .exact .inl ⟨o,x.frzs _ _ _ h⟩
 .exact .inr h
mutual
theorem Rep.ext(x:Ext H F H' F'):∀{d:D}{v:V},Rep K H F d v->Rep K H' F' d v
 |.non,_,h=>h
 |.bl _,_,h=>h
 |.int _,_,h=>h
 |.str _,_,h=>h
 |.tup _,_,⟨a,vs,e,q,r⟩=>⟨a,vs,e,TpT.ext x q,Reps.ext x r⟩
 |.lst _,_,⟨a,vs,e,q,r⟩=>⟨a,vs,e,FzL.ext x q,Reps.ext x r⟩
 |.ref _,_,h=>h
 |.scr _,_,⟨a,e,q⟩=>⟨a,e,ScL.ext x q⟩
 |.obj _ _ _,_,⟨a,c,dx,e,⟨hf,hh⟩,n⟩=>⟨a,c,dx,e,⟨x.sub _ hf,(x.keep _ hf).trans hh⟩,n⟩
 |.dct _ _,_,⟨a,kv,e,⟨hf,hh⟩,hk,t⟩=>⟨a,kv,e,⟨x.sub _ hf,(x.keep _ hf).trans hh⟩,hk,Reps.ext x t⟩
 |.exn _,_,⟨a,c,e,⟨o,y,q,hc⟩,n⟩=>⟨a,c,e,⟨o,y,x.frzs _ _ _ q,hc⟩,n⟩
 |.exa _ _ _,_,⟨a,c,dx,ob,od,y,u,e,⟨q,h1,h2,h3⟩,qd,r,n⟩=>⟨a,c,dx,ob,od,y,u,e,⟨x.frzs _ _ _ q,h1,h2,h3⟩,x.frzs _ _ _ qd,Rep.ext x r,n⟩
theorem Reps.ext(x:Ext H F H' F'):∀{ds:AS}{vs:AR},Reps K H F ds vs->Reps K H' F' ds vs
 |[],_,h=>h
 |_::_,_,⟨v,r,e,h,t⟩=>⟨v,r,e,Rep.ext x h,Reps.ext x t⟩
end
theorem Reps.nil:Reps K H F [] []:=rfl
theorem Reps.cons{d:D}{v:V}{ds:AS}{vs:AR}(h:Rep K H F d v)(t:Reps K H F ds vs):Reps K H F (d::ds) (v::vs):=⟨v,vs,rfl,h,t⟩
theorem Reps.length:∀{ds:AS}{vs:AR},Reps K H F ds vs->ds.length=vs.length
 |[],_,h=>by cases h;rfl
 |_::_,_,⟨v,r,e,_,t⟩=>by subst e;simp[Reps.length t]
theorem Reps.append:∀{ds es:AS}{vs us:AR},Reps K H F ds vs->Reps K H F es us->Reps K H F (ds++es) (vs++us)
 |[],_,_,_,h,t=>by cases h;exact t
 |_::_,_,_,_,⟨v,r,e,h,t⟩,t'=>by subst e;exact ⟨v,_,rfl,h,Reps.append t t'⟩
theorem Reps.get:∀{ds:AS}{vs:AR}{i:Nat}{d:D},Reps K H F ds vs->ds[i]?=some d->∃v,vs[i]?=some v/\Rep K H F d v
 |[],_,_,_,_,e=>by simp at e
 |_::_,_,0,_,⟨v,r,e,h,t⟩,q=>by subst e;simp at q;subst q;exact ⟨v,rfl,h⟩
 |_::_,_,i+1,d,⟨v,r,e,h,t⟩,q=>by
  subst e;obtain ⟨u,h1,h2⟩:=Reps.get (i:=i) (d:=d) t (!!q);exact ⟨u,!!h1,h2⟩
theorem Reps.set{d:D}{v:V}(r:Rep K H F d v):∀{ds:AS}{vs:AR}(i:Nat),Reps K H F ds vs->Reps K H F (ds.set i d) (vs.set i v)
 |[],_,_,h=>by cases h;exact rfl
 |_::_,_,0,⟨v',r',e,h,t⟩=>by subst e;exact ⟨_,_,rfl,r,t⟩
 |_::_,_,i+1,⟨v',r',e,h,t⟩=>by subst e;exact ⟨_,_,rfl,h,Reps.set r i t⟩
theorem Reps.take:∀{ds:AS}{vs:AR}(n:Nat),Reps K H F ds vs->Reps K H F (ds.take n) (vs.take n)
 |_,_,0,_=>rfl
 |[],_,_+1,h=>by cases h;exact rfl
 |_::_,_,n+1,⟨v',r',e,h,t⟩=>by subst e;exact ⟨_,_,rfl,h,Reps.take n t⟩
theorem Reps.drop:∀{ds:AS}{vs:AR}(n:Nat),Reps K H F ds vs->Reps K H F (ds.drop n) (vs.drop n)
 |_,_,0,h=>h
 |[],_,_+1,h=>by cases h;exact rfl
 |_::_,_,n+1,⟨v',r',e,h,t⟩=>by subst e;exact Reps.drop n t
theorem Reps.cut{ds:AS}{vs:AR}(h:Reps K H F ds vs)(lo hi:Option Int):
  Reps K H F ((ds.drop (HT.sIx ds.length 0 lo)).take (HT.sIx ds.length ds.length hi - HT.sIx ds.length 0 lo)) (dW vs lo hi):=by
 unfold dW;rw[<-h.length];exact (h.drop _).take _
theorem Reps.rep{ds:AS}{vs:AR}(h:Reps K H F ds vs):∀k:Nat,Reps K H F (List.replicate k ds).flatten (List.replicate k vs).flatten
 |0=>rfl
 |k+1=>by
  rw[ck,ck,e6,e6];exact Reps.append h (Reps.rep h k)
end
def WR(K:PF)(H:Hp)(F:FZ)(a:AQ):DO->Prop
 |.lst ds=>∃vs,H a=some (.lst vs)/\Reps K H F ds vs
 |.dct ks ds=>∃kv:List (List Key×V),H a=some (.dT kv)/\kv.map (·.1)=ks.map bj/\Reps K H F ds (kv.map (·.2))
structure R(K:PF)(H:Hp)(F:FZ)(G:DH):Prop where
 fz:∀a,F a->G a=none/\∃o,H a=some o
 ob:∀a o,G a=some o->WR K H F a o
section
variable {K:PF} {H:Hp} {F:FZ} {G:DH} {p:AQ} {vs:AR} {ds:AS}
theorem R.lst(r:R K H F G)(h:G p=some (.lst ds)):∃vs,H p=some (.lst vs)/\Reps K H F ds vs:=r.ob p _ h
theorem R.dct{ks:List (List Int)}(r:R K H F G)(h:G p=some (.dct ks ds)):∃kv:List (List Key×V),H p=some (.dT kv)/\kv.map (·.1)=ks.map bj/\Reps K H F ds (kv.map (·.2)):=r.ob p _ h
theorem R.free(r:R K H F G)(h:H p=none):G p=none:=by
 cases e:G p with
 |none=>rfl
 |some o=>
  cases o with
  |lst ds=>obtain ⟨vs,q,_⟩:=r.lst e;rw[h]at q;cases q
  |dct ks ds=>obtain ⟨kv,q,_⟩:=r.dct e;rw[h]at q;cases q
theorem R.notF(r:R K H F G)(h:H p=none):¬F p:=λf=>by
 obtain ⟨_,vs,q⟩:=r.fz p f;rw[h]at q;cases q
theorem cM{o:HO}(r:R K H F G)(h:H p=none):Ext H F (upd H p o) F:=
 ⟨λ_ f=>f,λa f=>aF λe=>r.notF h (by rw[<-e];exact f),λa xs q=>by rw[aF (aZ q h)];exact q,λa ob u q=>by rw[aF (aZ q h)];exact q⟩
theorem R.new{o:HO}(r:R K H F G)(h:H p=none):R K (upd H p o) F G:=by
 have x:Ext H F (upd H p o) F:=cM r h;refine ⟨λa f=>⟨(r.fz a f).1,?_⟩,λa u e=>?_⟩
 .obtain ⟨_,vs,q⟩:=r.fz a f;exact ⟨vs,by rw[x.keep a f];exact q⟩
 .cases u with
  |lst ds=>
   obtain ⟨vs,q,t⟩:=r.lst e;exact ⟨vs,by rw[aF (aZ q h)];exact q,Reps.ext x t⟩
  |dct ks ds=>
   obtain ⟨kv,q,hk,t⟩:=r.dct e;exact ⟨kv,by rw[aF (aZ q h)];exact q,hk,Reps.ext x t⟩
theorem R.newL(r:R K H F G)(h:H p=none)(t:Reps K H F ds vs):R K (upd H p (.lst vs)) F (aP G p (.lst ds)):=by
 have x:Ext H F (upd H p (.lst vs)) F:=cM r h;have r':R K (upd H p (.lst vs)) F G:=r.new h;refine ⟨λa f=>⟨?_,(r'.fz a f).2⟩,λa u e=>?_⟩
 .rw[bR λe=>r.notF h (by rw[<-e];exact f)];exact (r.fz a f).1
 .by_cases ha:a=p
  .subst ha;rw[bG]at e;cases e;exact ⟨vs,cY,Reps.ext x t⟩
  .rw[bR ha]at e;exact r'.ob a u e
theorem vQ(r:R K H F G)(h:H p=none):Ext H F (upd H p (.lst vs)) (λa=>F a\/a=p):=
 ⟨λ_ f=>.inl f,(cM r h).keep,(cM r h).tups,(cM r h).frzs⟩
theorem R.newF(r:R K H F G)(h:H p=none):R K (upd H p (.lst vs)) (λa=>F a\/a=p) G:=by
 have x:Ext H F (upd H p (.lst vs)) (λa=>F a\/a=p):=vQ r h;refine ⟨λa f=>?_,λa u e=>?_⟩
 .rcases f with f |f
  .obtain ⟨g,vs',q⟩:=r.fz a f;exact ⟨g,vs',by rw[x.keep a f];exact q⟩
  .subst f;exact ⟨r.free h,_,cY⟩
 .cases u with
  |lst ds=>
   obtain ⟨vs',q,t⟩:=r.lst e;exact ⟨vs',by rw[aF (aZ q h)];exact q,Reps.ext x t⟩
  |dct ks ds=>
   obtain ⟨kv,q,hk,t⟩:=r.dct e;exact ⟨kv,by rw[aF (aZ q h)];exact q,hk,Reps.ext x t⟩
theorem WT(r:R K H F G)(h:H p=none)(t:Reps K H F ds vs):Rep K (upd H p (.lst vs)) (λa=>F a\/a=p) (.lst ds) (.ref p):=
 ⟨p,vs,rfl,⟨.inr rfl,cY⟩,Reps.ext (vQ r h) t⟩
theorem vR(r:R K H F G)(h:H p=none)(t:Reps K H F ds vs):Rep K (upd H p (.tup vs)) F (.tup ds) (.ref p):=
 ⟨p,vs,rfl,⟨cY⟩,Reps.ext (cM r h) t⟩
theorem jB{ds0:AS}{o:HO}(r:R K H F G)(h:G p=some (.lst ds0)):Ext H F (upd H p o) F:=by
 obtain ⟨vs0,q,_⟩:=r.lst h;refine ⟨λ_ f=>f,λa f=>aF λe=>?_,λa xs z=>?_,λa ob u z=>?_⟩
 .subst e;rw[(r.fz a f).1]at h;cases h
 .rw[aF (lB z q (by intro w;cases w))];exact z
 .rw[aF (lB z q (by intro w;cases w))];exact z
theorem R.write{ds0:AS}(r:R K H F G)(h:G p=some (.lst ds0))(t:Reps K H F ds vs):R K (upd H p (.lst vs)) F (aP G p (.lst ds)):=by
 have x:Ext H F (upd H p (.lst vs)) F:=jB r h;refine ⟨λa f=>⟨?_,?_⟩,λa u e=>?_⟩
 .rw[bR λe=>by subst e;rw[(r.fz a f).1]at h;cases h];exact (r.fz a f).1
 .obtain ⟨_,vs',q⟩:=r.fz a f;exact ⟨vs',by rw[x.keep a f];exact q⟩
 .by_cases ha:a=p
  .subst ha;rw[bG]at e;cases e;exact ⟨vs,cY,Reps.ext x t⟩
  .rw[bR ha]at e;cases u with
   |lst ds'=>
    obtain ⟨vs',q,t'⟩:=r.lst e;exact ⟨vs',by rw[aF ha];exact q,Reps.ext x t'⟩
   |dct ks ds=>
    obtain ⟨kv,q,hk,t'⟩:=r.dct e;exact ⟨kv,by rw[aF ha];exact q,hk,Reps.ext x t'⟩
theorem vU{ks0:List (List Int)}{ds0:AS}{o:HO}(r:R K H F G)(h:G p=some (.dct ks0 ds0)):Ext H F (upd H p o) F:=by
 obtain ⟨vs0,q,_⟩:=r.dct h;refine ⟨λ_ f=>f,λa f=>aF λe=>?_,λa xs z=>?_,λa ob u z=>?_⟩
 .subst e;rw[(r.fz a f).1]at h;cases h
 .rw[aF (lB z q (by intro w;cases w))];exact z
 .rw[aF (lB z q (by intro w;cases w))];exact z
theorem R.dctAt{ks:List (List Int)}{kv:List (List Key×V)}(r:R K H F G)(x:Ext H F (upd H p (.dT kv)) F)(hp:¬F p)(hk:kv.map (·.1)=ks.map bj)(t:Reps K H F ds (kv.map (·.2))):R K (upd H p (.dT kv)) F (aP G p (.dct ks ds)):=by
 refine ⟨λa f=>⟨?_,?_⟩,λa u e=>?_⟩
 .rw[bR λe=>hp (by rw[<-e];exact f)];exact (r.fz a f).1
 .obtain ⟨_,vs',q⟩:=r.fz a f;exact ⟨vs',by rw[x.keep a f];exact q⟩
 .by_cases ha:a=p
  .subst ha;rw[bG]at e;cases e;exact ⟨kv,cY,hk,Reps.ext x t⟩
  .rw[bR ha]at e;cases u with
   |lst ds'=>
    obtain ⟨vs',q,t'⟩:=r.lst e;exact ⟨vs',by rw[aF ha];exact q,Reps.ext x t'⟩
   |dct ks' ds'=>
    obtain ⟨kv',q,hk',t'⟩:=r.dct e;exact ⟨kv',by rw[aF ha];exact q,hk',Reps.ext x t'⟩
theorem R.notFD{ks0:List (List Int)}{ds0:AS}(r:R K H F G)(h:G p=some (.dct ks0 ds0)):¬F p:=λf=>by rw[(r.fz p f).1]at h;cases h
theorem vV:Ext H F H (λa=>F a\/a=p):=⟨λ_ f=>.inl f,λ_ _=>rfl,λ_ _ h=>h,λ_ _ _ h=>h⟩
theorem R.frz(r:R K H F G)(h:G p=some (.lst ds)):R K H (λa=>F a\/a=p) (gG G p):=by
 have x:Ext H F H (λa=>F a\/a=p):=vV;refine ⟨λa f=>?_,λa u e=>?_⟩
 .rcases f with f |f
  .obtain ⟨g,vs',q⟩:=r.fz a f;refine ⟨?_,vs',q⟩;by_cases ha:a=p
   .rw[ha];exact vP
   .rw[lQ ha];exact g
  .subst f;obtain ⟨vs,q,_⟩:=r.lst h;exact ⟨vP,_,q⟩
 .by_cases ha:a=p
  .rw[ha,vP]at e;cases e
  .rw[lQ ha]at e;cases u with
   |lst ds'=>
    obtain ⟨vs',q,t'⟩:=r.lst e;exact ⟨vs',q,Reps.ext x t'⟩
   |dct ks ds=>
    obtain ⟨kv,q,hk,t'⟩:=r.dct e;exact ⟨kv,q,hk,Reps.ext x t'⟩
theorem WW(r:R K H F G)(h:G p=some (.lst ds)):Rep K H (λa=>F a\/a=p) (.lst ds) (.ref p):=by obtain ⟨vs,q,t⟩:=r.lst h;exact ⟨p,vs,rfl,⟨.inr rfl,q⟩,Reps.ext vV t⟩
end
def view(G:DH):D->D
 |.ref p=>match G p with |some (.lst ds)=>.lst ds |some (.dct ks ds)=>.dct ks ds |none=>.ref p
 |d=>d
def Rep.list{K:PF}{H:Hp}{F:FZ}{G:DH}{d:D}{v:V}{ds:AS}(r:R K H F G)(h:Rep K H F d v)(e:view G d=.lst ds):∃a vs,v=.ref a/\SqL K H a vs/\Reps K H F ds vs:=by
 cases d with
 |lst xs=>
  have e':D.lst xs=.lst ds:=e;cases e';obtain ⟨a,vs,e1,q,t⟩:=h;exact ⟨a,vs,e1,q.sq,t⟩
 |ref p=>
  have hv:v=.ref p:=h;unfold view at e;cases g:G p with
  |none=>simp only[g]at e;cases e
  |some o=>
   cases o with
   |lst xs=>
    simp only[g]at e;cases e;obtain ⟨vs,q,t⟩:=r.lst g;exact ⟨p,vs,hv,.inl (.inl q),t⟩
   |dct ks xs=>simp only[g]at e;cases e
 |_=>cases (show _=D.lst ds from e)
def fQ{G:DH}{d:D}{ds:AS}(e:view G d=.tup ds):d=.tup ds:=by
 cases d with
 |ref p=>
  unfold view at e;cases g:G p with
  |none=>simp only[g]at e;cases e
  |some o=>cases o <;> (simp only[g]at e;cases e)
 |_=>exact e
def gH{G:DH}{d:D}{l:AA}(e:view G d=.str l):d=.str l:=by
 cases d with
 |ref p=>
  unfold view at e;cases g:G p with
  |none=>simp only[g]at e;cases e
  |some o=>cases o <;> (simp only[g]at e;cases e)
 |_=>exact e
def dY{G:DH}{d:D}{l:Int}(e:view G d=.int l):d=.int l:=by
 cases d with
 |ref p=>
  unfold view at e;cases g:G p with
  |none=>simp only[g]at e;cases e
  |some o=>cases o <;> (simp only[g]at e;cases e)
 |_=>exact e
def WX{G:DH}{d:D}{l:Bool}(e:view G d=.bl l):d=.bl l:=by
 cases d with
 |ref p=>
  unfold view at e;cases g:G p with
  |none=>simp only[g]at e;cases e
  |some o=>cases o <;> (simp only[g]at e;cases e)
 |_=>exact e
abbrev ak:=List (Option D)
def EnvR(K:PF)(H:Hp)(F:FZ):ak->L2.St->Prop
 |[],X=>X=[]
 |o::Y,X=>∃u τ,X=u::τ/\(∀d,o=some d->∃v,u=some v/\Rep K H F d v)/\EnvR K H F Y τ
section
variable {K:PF} {H H':Hp} {F F':FZ}
theorem EnvR.ext(x:Ext H F H' F'):∀{Y:ak}{X:L2.St},EnvR K H F Y X->EnvR K H' F' Y X
 |[],_,h=>h
 |_::_,_,⟨u,τ,e,h,t⟩=>⟨u,τ,e,λd q=>by obtain ⟨v,e1,r⟩:=h d q;exact ⟨v,e1,Rep.ext x r⟩,EnvR.ext x t⟩
theorem EnvR.get:∀{Y:ak}{X:L2.St}{i:Nat}{d:D},EnvR K H F Y X->Y[i]?=some (some d)->∃v,X[i]?=some (some v)/\Rep K H F d v
 |[],_,_,_,_,e=>by simp at e
 |_::_,_,0,d,⟨u,τ,e,h,t⟩,q=>by
  subst e;obtain ⟨v,e1,r⟩:=h d (!!q);exact ⟨v,by simp[e1],r⟩
 |_::_,_,i+1,d,⟨u,τ,e,h,t⟩,q=>by
  subst e;obtain ⟨v,e1,r⟩:=EnvR.get (i:=i) (d:=d) t (!!q);exact ⟨v,!!e1,r⟩
theorem EnvR.set{d:D}{v:V}(r:Rep K H F d v):∀{Y:ak}{X:L2.St}(i:Nat),EnvR K H F Y X->EnvR K H F (Y.set i (some d)) (X.set i (some v))
 |[],_,_,h=>by cases h;exact rfl
 |_::_,_,0,⟨u,τ,e,h,t⟩=>by subst e;exact ⟨_,_,rfl,λd' q=>⟨v,rfl,by cases q;exact r⟩,t⟩
 |_::_,_,i+1,⟨u,τ,e,h,t⟩=>by subst e;exact ⟨_,_,rfl,h,EnvR.set r i t⟩
theorem EnvR.unset:∀{Y:ak}{X:L2.St}(i:Nat),EnvR K H F Y X->EnvR K H F (Y.set i Option.none) (X.set i Option.none)
 |[],_,_,h=>by cases h;exact rfl
 |_::_,_,0,⟨u,τ,e,h,t⟩=>by subst e;exact ⟨_,_,rfl,λd' q=>(nomatch q),t⟩
 |_::_,_,i+1,⟨u,τ,e,h,t⟩=>by subst e;exact ⟨_,_,rfl,h,EnvR.unset i t⟩
theorem EnvR.none:∀(n:Nat),EnvR K H F (List.replicate n Option.none) (List.replicate n Option.none)
 |0=>rfl
 |n+1=>⟨_,_,rfl,λd q=>(nomatch q),EnvR.none n⟩
theorem EnvR.start:∀{ds:AS}{vs:AR}(n:Nat),Reps K H F ds vs->EnvR K H F (ds.map some++List.replicate n Option.none) (vs.map some++List.replicate n Option.none)
 |[],_,n,h=>by cases h;exact EnvR.none n
 |d::ds,_,n,⟨v,r,e,h,t⟩=>by
  subst e;exact ⟨_,_,rfl,λd' q=>⟨v,rfl,by cases q;exact h⟩,EnvR.start n t⟩
theorem EnvR.cap{Y:ak}{X:L2.St}(h:EnvR K H F Y X):∀(cap:List (Option Nat)),EnvR K H F (cap.map λo=>match o with |Option.none=>Option.none |some j=>(Y[j]?).join) (dX cap X)
 |[]=>rfl
 |Option.none::cap=>⟨_,_,rfl,λd q=>(nomatch q),EnvR.cap h cap⟩
 |some j::cap=>by
  refine ⟨_,_,rfl,λd q=>?_,EnvR.cap h cap⟩;have q':(Y[j]?).join=some d:=q;have z:Y[j]?=some (some d):=by
   cases e:Y[j]? with
   |none=>rw[e]at q';cases q'
   |some o=>rw[e]at q';exact eK some q'
  obtain ⟨v,e1,r⟩:=h.get z;exact ⟨v,by show (X[j]?).join=some v;rw[e1];rfl,r⟩
end
mutual
def deq:D->D->Bool
 |.non,.non=>true
 |.bl a,.bl b=>a==b
 |.bl a,.int b=>(if a then 1 else 0)==b
 |.int a,.bl b=>a==(if b then 1 else 0)
 |.int a,.int b=>a==b
 |.str a,.str b=>a==b
 |.tup a,.tup b=>bJ a b
 |.lst a,.lst b=>bJ a b
 |_,_=>false
def bJ:AS->AS->Bool
 |[],[]=>true
 |a::as,b::bs=>deq a b&&bJ as bs
 |_,_=>false
end
mutual
/-- no tracked object within -/
def nr:D->Bool
 |.tup a=>nrs a
 |.lst a=>nrs a
 |.ref _=>false
 |.scr _=>false
 |.exn _=>false
 |.exa _ _ _=>false
 |.obj _ _ _=>false
 |.dct _ _=>false
 |_=>true
def nrs:AS->Bool
 |[]=>true
 |a::as=>nr a&&nrs as
end
mutual
def dpt:D->Nat
 |.tup a=>aV a+1
 |.lst a=>aV a+1
 |_=>0
def aV:AS->Nat
 |[]=>0
 |a::as=>max (dpt a) (aV as)
end
def truth:D->Option Bool
 |.non=>some false
 |.bl b=>some b
 |.int i=>some (i != 0)
 |.str l=>some (!l.isEmpty)
 |.tup l=>some (!l.isEmpty)
 |.lst l=>some (!l.isEmpty)
 |_=>none
def cut{α:Type}(xs:List α)(lo hi:Option Int):List α:=(xs.drop (HT.sIx xs.length 0 lo)).take (HT.sIx xs.length xs.length hi - HT.sIx xs.length 0 lo)
def reps{α:Type}(xs:List α)(n:Nat):List α:=(List.replicate n xs).flatten
def mk(fz:Bool)(xs:AS)(G:DH)(k:AT):Prop:=
 match fz with
 |true=>k (.lst xs) G
 |false=>∀p,G p=none->k (.ref p) (aP G p (.lst xs))
def jC(fz:Bool)(a b:D)(G:DH)(k:AT):Prop:=
 match a with
 |.int i=>(match b with |.int j=>k (.int (i+j)) G |_=>False)
 |.str x=>(match b with |.str y=>x.length+y.length<=sz/\k (.str (x++y)) G |_=>False)
 |.lst x=>(match b with |.lst y=>x.length+y.length<=sz/\mk fz (x++y) G k |_=>False)
 |.tup x=>(match b with |.tup y=>x.length+y.length<=sz/\k (.tup (x++y)) G |_=>False)
 |_=>False
def gJ(a b:D)(p:Int->Int->Prop):Prop:=
 match a with
 |.int i=>(match b with |.int j=>p i j |_=>False)
 |_=>False
def jD(fz:Bool)(a b:D)(G:DH)(k:AT):Prop:=
 match b with
 |.int n=>(match a with |.int i=>CMul i n/\k (.int (i * n)) G |.str x=>0<=n/\n<=1000/\x.length * n.toNat<=sz/\k (.str (reps x n.toNat)) G |.tup x=>2<=n/\n<=1000/\x≠[]/\x.length * n.toNat<=sz/\k (.tup (reps x n.toNat)) G |.lst x=>0<=n/\n<=1000/\x.length * n.toNat<=sz/\mk fz (reps x n.toNat) G k |_=>False)
 |_=>False
def cz(op:Operator)(fz:Bool)(a b:D)(G:DH)(k:AT):Prop:=
 match op with
 |.Add=>jC fz a b G k
 |.Sub=>gJ a b λi j=>k (.int (i - j)) G
 |.Mult=>jD fz a b G k
 |.FloorDiv=>gJ a b λi j=>(0 < j/\j < 1152921504606846976)/\k (.int (i / j)) G
 |.Mod=>gJ a b λi j=>0 < j/\k (.int (i % j)) G
 |.Pow=>gJ a b λi j=>qP i j/\k (.int (i ^ j.toNat)) G
 |_=>False
def bx:AS->Option (List Int)
 |[]=>some []
 |.int b::r=>match bx r with |some s=>some (b::s) |none=>none
 |_=>none
def kIx(ks:List (List Int))(n:List Int):Option Nat:=ks.findIdx? λk=>decide (k=n)
def bW(d:D)(k:List Int->Prop):Prop:=match d with |.tup l=>(match bx l with |some ns=>k ns |none=>False) |_=>False
def isE(d:D):Prop:=match d with |.lst []=>True |_=>False
def dput(ks:List (List Int))(ds:AS)(n:List Int)(x:D):DO:=match kIx ks n with |some i=>.dct ks (ds.set i x) |none=>.dct (ks++[n]) (ds++[x])
def isIn(x:D)(ys:AS):Bool:=ys.any λy=>deq y x
def DQ(a b:D):Prop:=nr a=true/\nr b=true/\min (dpt a) (dpt b)<=60
def inG(a:D)(l:AS):Prop:=nr a=true/\nrs l=true/\aV l<=60
def jE(a b:D)(k:Bool->Prop):Prop:=
 match a,b with
 |.int i,.int j=>k (decide (i < j))
 |.str i,.str j=>k (decide (i < j))
 |_,_=>False
def jF(a b:D)(k:Bool->Prop):Prop:=
 match a,b with
 |.int i,.int j=>k (decide (i<=j))
 |.str i,.str j=>k (!decide (j < i))
 |_,_=>False
def jG(a b:D)(k:Bool->Prop):Prop:=
 match a,b with
 |.int i,.int j=>k (decide (j < i))
 |_,_=>False
def jH(a b:D)(k:Bool->Prop):Prop:=
 match a,b with
 |.int i,.int j=>k (decide (j<=i))
 |_,_=>False
def lR(a:D):Bool:=match a with |.non=>true |_=>false
def jJ(a b:D)(k:Bool->Prop):Prop:=
 match b with
 |.non=>k (lR a)
 |.bl b=>(match a with |.bl a=>k (a==b) |_=>False)
 |_=>False
def jK(a b:D)(k:Bool->Prop):Prop:=
 match b with
 |.non=>k (!lR a)
 |.bl b=>(match a with |.bl a=>k (a != b) |_=>False)
 |_=>False
def fU(a b:D)(k:Bool->Prop):Prop:=
 match b with
 |.str l=>(match a with |.str [c]=>k (l.contains c) |_=>False)
 |.lst l=>inG a l/\k (isIn a l)
 |.tup l=>inG a l/\k (isIn a l)
 |.dct ks _=>bW a λn=>k (kIx ks n).isSome
 |_=>False
def aW(op:CmpOp)(a b:D)(k:Bool->Prop):Prop:=
 match op with
 |.Eq=>DQ a b/\k (deq a b)
 |.NotEq=>DQ a b/\k (!deq a b)
 |.Lt=>jE a b k
 |.LtE=>jF a b k
 |.Gt=>jG a b k
 |.GtE=>jH a b k
 |.Is=>jJ a b k
 |.IsNot=>jK a b k
 |.In=>fU a b k
 |.NotIn=>fU a b λc=>k (!c)
def cN(a i:D)(k:D->Prop):Prop:=
 match a,i with
 |.lst ds,.int i=>match atI ds i with |some d=>k d |none=>False
 |.tup ds,.int i=>match atI ds i with |some d=>k d |none=>False
 |.str l,.int i=>match atI l i with |some c=>k (.str [c]) |none=>False
 |.dct ks ds,y=>bW y λn=>match kIx ks n with |some i=>(match ds[i]? with |some d=>k d |none=>False) |none=>False
 |_,_=>False
def dZ(fz:Bool)(a:D)(lo hi:Option Int)(G:DH)(k:AT):Prop:=
 match a with
 |.lst ds=>mk fz (cut ds lo hi) G k
 |.scr ns=>mk fz ((cut ns lo hi).map .int) G k
 |.tup ds=>k (.tup (cut ds lo hi)) G
 |.str l=>k (.str (cut l lo hi)) G
 |_=>False
def rB(fz:Bool)(a y:D)(G:DH)(k:AT):Prop:=
 match a with
 |.lst ds=>y=.int (-1)/\mk fz ds.reverse G k
 |.tup ds=>y=.int (-1)/\k (.tup ds.reverse) G
 |_=>False
def bools:AS->Option (List Bool)
 |[]=>some []
 |.bl b::r=>match bools r with |some s=>some (b::s) |none=>none
 |_=>none
def bz:AS->Option (List (AA))
 |[]=>some []
 |.str b::r=>match bz r with |some s=>some (b::s) |none=>none
 |_=>none
def d7(s:AA):List (AA)->AA
 |[]=>[]
 |[x]=>x
 |x::y::r=>x++s++d7 s (y::r)
inductive Bf where
 |len |all |int |tuple |sum |min |max |str |abs |min2
inductive Lf where
 |list |sorted
inductive Mf where
 |join |append |extend |count |index |pop
def vW(as:AS)(k:D->Prop):Prop:=
 match as with
 |[.lst ds]=>k (.int ds.length)
 |[.tup ds]=>k (.int ds.length)
 |[.str l]=>k (.int l.length)
 |[.dct ks _]=>k (.int ks.length)
 |_=>False
def rD(as:AS)(k:D->Prop):Prop:=
 match as with
 |[.lst ds]=>match bools ds with |some bs=>k (.bl (bs.all id)) |none=>False
 |_=>False
def rE(as:AS)(k:D->Prop):Prop:=
 match as with
 |[.bl b]=>k (.int (if b then 1 else 0))
 |[.int i]=>k (.int i)
 |[.str l]=>match PySem.intText? (tx l) with |some n=>l.length<=640/\k (.int n) |none=>False
 |_=>False
def vX(as:AS)(k:D->Prop):Prop:=
 match as with
 |[.lst ds]=>k (.tup ds)
 |[.tup ds]=>k (.tup ds)
 |_=>False
def vY(as:AS)(k:D->Prop):Prop:=
 match as with
 |[.lst ds]=>match bx ds with |some ns=>k (.int ns.sum) |none=>False
 |_=>False
def lU(as:AS)(k:D->Prop):Prop:=
 match as with
 |[.lst ds]=>match bx ds with
  |some ns=>ns≠[]/\∀m,m∈ns->(∀a,a∈ns->m<=a)->k (.int m)
  |none=>match bz ds with
   |some ls=>∀m,m∈ls->(∀a,a∈ls->¬a < m)->k (.str m)
   |none=>False
 |_=>False
def DR(as:AS)(k:D->Prop):Prop:=match as with
 |[.int a]=>k (.int (if a < 0 then -a else a))
 |_=>False
def DW(as:AS)(k:D->Prop):Prop:=match as with
 |[.int a,.int b]=>k (.int (if b < a then b else a))
 |_=>False
def DX(as:AS)(k:D->Prop):Prop:=
 match as with
 |[.int a,.int b]=>k (.int (if b > a then b else a))
 |_=>False
def gK(m:Nat):AA:=(vM m).cps.toList
def vZ(as:AS)(k:D->Prop):Prop:=
 match as with
 |[.int i]=>(0<=i/\i < 100)/\k (.str (gK i.toNat))
 |_=>False
def opB:Bf->AS->(D->Prop)->Prop
 |.len=>vW
 |.all=>rD
 |.int=>rE
 |.tuple=>vX
 |.sum=>vY
 |.min=>lU
 |.max=>DX
 |.abs=>DR
 |.min2=>DW
 |.str=>vZ
def v6(as:AS)(k:AS->Prop):Prop:=
 match as with
 |[.lst ds]=>k ds
 |[.tup ds]=>k ds
 |[.str l]=>k (l.map λc=>.str [c])
 |[.dct ks _]=>k (ks.map λn=>.tup (n.map .int))
 |_=>False
def lV(as:AS)(k:AS->Prop):Prop:=
 match as with
 |[.lst ds]=>match bz ds with |some ls=>ls.length < 64/\∀ls':List (AA),ls'.Perm ls->PyProof.Rows.sortedS (ls'.map tx)=true->k (ls'.map D.str) |none=>False
 |[.tup ds]=>match bx ds with |some ns=>ns.length < 64/\∀ns':List Int,ns'.Perm ns->ns'.Pairwise (·<=·)->k (ns'.map D.int) |none=>False
 |_=>False
def putN(ks:List (AA))(k:AA):List (AA):=if k∈ks then ks else ks++[k]
def rF(ls:List (AA)):List (AA):=ls.foldl putN []
def lW(d:D)(k:AS->Prop):Prop:=
 match d with
 |.lst ds=>match bz ds with |some ls=>(ls.length<=1000/\(rF ls).length<=64)/\∀ls':List (AA),ls'.Perm (rF ls)->k (ls'.map D.str) |none=>False
 |_=>False
def cA:Lf->AS->(AS->Prop)->Prop
 |.list=>v6
 |.sorted=>lV
def isT(t:AL)(d:D):Option Bool:=
 match d with
 |.non=>some false
 |.bl _=>some (t=="bool"||t=="int")
 |.int _=>some (t=="int")
 |.str _=>some (t=="str")
 |.tup _=>some (t=="tuple")
 |.lst _=>some (t=="list")
 |_=>none
def fV (t:AL):Bool:=t=="bool"||t=="int"||t=="str"||t=="tuple"||t=="list"
def rG(o:D)(as:AS)(G:DH)(k:AT):Prop:=
 match o,as with
 |.str s,[.lst ds]=>match bz ds with |some ls=>((ls.map (·.length)).sum+ls.length * s.length<=sz)/\k (.str (d7 s ls)) G |none=>False
 |_,_=>False
def rH(o:D)(as:AS)(G:DH)(k:AT):Prop:=
 match o,as with
 |.ref p,[x]=>match G p with |some (.lst ds)=>ds.length < sz/\k .non (aP G p (.lst (ds++[x]))) |_=>False
 |_,_=>False
def rJ(o:D)(as:AS)(G:DH)(k:AT):Prop:=
 match o,as with
 |.ref p,[.lst xs]=>match G p with |some (.lst ds)=>ds.length+xs.length < sz/\k .non (aP G p (.lst (ds++xs))) |_=>False
 |_,_=>False
def ajs(o:D)(as:AS)(G:DH)(k:AT):Prop:=
 match o,as with
 |.ref p,[.int i,x]=>match G p with |some (.lst ds)=>ds.length < sz/\0<=i/\i<=1000000/\k .non (aP G p (.lst (ds.take i.toNat++x::ds.drop i.toNat))) |_=>False
 |_,_=>False
def rK(o:D)(as:AS)(G:DH)(k:AT):Prop:=
 match o,as with
 |.ref p,[.int i]=>match G p with |some (.lst ds)=>0<=i/\i<=1000000/\(match ds[i.toNat]? with |some y=>k y (aP G p (.lst (ds.eraseIdx i.toNat))) |none=>False) |_=>False
 |_,_=>False
def rM(o:D)(as:AS)(G:DH)(k:AT):Prop:=
 match o,as with
 |.lst ds,[.bl true]=>match bools ds with |some bs=>k (.int (bs.count true:Nat)) G |none=>False
 |_,_=>False
def rN(o:D)(as:AS)(G:DH)(k:AT):Prop:=
 match o,as with
 |.lst ds,[.bl true]=>match bools ds with |some bs=>true∈bs/\k (.int (bs.idxOf true:Nat)) G |none=>False
 |_,_=>False
def ajt(o:D)(as:AS)(G:DH)(k:AT):Prop:=
 match o,as with
 |.str l,[.str [c]]=>k (.int (-1)) G/\∀i:Nat,l[i]?=some c->k (.int (i:Int)) G
 |_,_=>False
def aju(o:D)(as:AS)(G:DH)(k:AT):Prop:=
 match o,as with
 |.str l,[.str [c]]=>(c < 256/\l.length+2<=sz)/\k (.lst ((qZ c l).map .str)) G
 |_,_=>False
def v7:D->Prop
 |.lst _=>True
 |_=>False
def recv(m:Mf)(o:D)(G:DH):Prop:=
 match m,o with
 |.join,.str _=>True
 |.append,.ref p=>match G p with |some (.lst _)=>True |_=>False
 |.extend,.ref p=>match G p with |some (.lst _)=>True |_=>False
 |.pop,.ref p=>match G p with |some (.lst _)=>True |_=>False
 |.count,o=>v7 (view G o)
 |.index,o=>v7 (view G o)
 |_,_=>False
def opM:Mf->D->AS->DH->(AT)->Prop
 |.join,o,as,G,k=>rG o (as.map (view G)) G k
 |.append,o,as,G,k=>rH o as G k
 |.extend,o,as,G,k=>rJ o (as.map (view G)) G k
 |.pop,o,as,G,k=>rK o as G k
 |.count,o,as,G,k=>rM (view G o) as G k
 |.index,o,as,G,k=>rN (view G o) as G k
def cj (C C':AL):Bool:=C==C'||C'=="SieveError"||C'=="ValueError"
def iD(C:AL)(xs:List AL)(d:D)(k:Bool->Prop):Prop:=match d with
 |.exn c=>xs.contains c=true/\k (cj c C)
 |.exa c _ _=>xs.contains c=true/\k (cj c C)
 |.non=>k false
 |_=>False
def okA(d:D):Prop:=match d with
 |.int i=>0<=i/\i < 100
 |.str l=>l.length<=1000
 |_=>False
def DY(C f:AL)(d:D)(k:D->Prop):Prop:=match d with
 |.exa C' f' v=>C'=C/\f'=f/\k v
 |_=>False
mutual
inductive Tg where
 |nm (i:Nat)
 |tp (ts:Tgs)
inductive Tgs where
 |nil
 |cons (t:Tg) (r:Tgs)
end
mutual
inductive Ex where
 |var (i:Nat)
 |cst (d:D)
 |glb (x:AL) (d:D)
 |bin (op:Operator) (fz:Bool) (a b:Ex)
 |neg (a:Ex)
 |cmp (op:CmpOp) (a b:Ex)
 |chn (op op':CmpOp) (a b c:Ex)
 |not (a:Ex)
 |boo (isAnd:Bool) (e:Ex) (es:Exs)
 |ife (c:Tx) (a b:Ex)
 |tup (es:Exs)
 |lst (fz:Bool) (es:Exs)
 |idx (a i:Ex)
 |slc (fz:Bool) (a:Ex) (lo hi:Ox)
 |call (f:AL) (es:Exs)
 |bcl (f:Bf) (es:Exs)
 |lcl (fz:Bool) (f:Lf) (es:Exs)
 |isi (a:Ex) (t:AL)
 |isx (a:Ex) (C:AL) (xs:List AL)
 |rgl (fz:Bool) (a:Ex)
 |rgt (a:Ex)
 |mth (m:Mf) (o:Ex) (es:Exs)
 |comp (fz:Bool) (elt:Ex) (tg:Tg) (it:It') (cond:Tx) (N:List AL) (cap:List (Option Nat))
 |frz (a:Ex)
 |dnw
 |dp1 (a b:Ex)
 |dc0 (a:Ex)
inductive Exs where
 |nil
 |cons (e:Ex) (es:Exs)
/-- a test -/
inductive Tx where
 |val (e:Ex)
 |not (t:Tx)
 |boo (isAnd:Bool) (t:Tx) (ts:Txs)
 |yes
inductive Txs where
 |nil
 |cons (t:Tx) (ts:Txs)
/-- a bound of a slice -/
inductive Ox where
 |no
 |ob (e:Ex)
/-- what a loop walks -/
inductive It' where
 |seq (e:Ex)
 |rng (a:Ex)
 |enm (e:Ex)
 |zip (a b:Ex)
end
inductive Tb where
 |call (f:AL) (es:Exs)
 |asg (i:Nat) (f:AL) (es:Exs)
 |pick (f g:AL) (i:Nat) (es:Exs)
 |ite (c:Tx) (a b:Tb)
inductive Hd where
 |flag (i:Nat) (b:Bool)
 |bind (n i:Nat)
mutual
inductive Sx where
 |exp (e:Ex)
 |asg (t:Tg) (e:Ex)
 |set (o i e:Ex)
 |aug (i:Nat) (op:Operator) (e:Ex)
 |ret (e:Ex)
 |rtn
 |ite (c:Tx) (a b:Sxs)
 |for_ (t:Tg) (it:It') (body:Sxs)
 |whl (c:Tx) (body:Sxs)
 |pas
 |brk
 |cnt
 |nev
 |rse (C:AL) (es:Exs)
 |tryx (b:Tb) (C:AL) (h:Hd) (xs:List AL)
inductive Sxs where
 |nil
 |cons (s:Sx) (r:Sxs)
end
structure Xn where
 cls:AL
 fld:D
structure Spec where
 A:Type
 pre:AS->DH->A->Prop
 post:A->D->DH->Prop
 exc:A->Xn->DH->Prop
abbrev EK:=Xn->DH->Prop
def Spec.t(S:Spec)(ds:AS)(G:DH)(Q:AT)(E:EK):Prop:=
 ∃a,S.pre ds G a/\(∀d G',S.post a d G'->Q d G')/\∀x G',S.exc a x G'->E x G'
def Spec.mono{S:Spec}{ds:AS}{G:DH}{Q Q':AT}{E E':EK}(h:S.t ds G Q E)(hq:∀d G',Q d G'->Q' d G')(he:∀x G',E x G'->E' x G'):S.t ds G Q' E':=by obtain ⟨a,h1,h2,h3⟩:=h;exact ⟨a,h1,λd G' q=>hq _ _ (h2 d G' q),λx G' q=>he _ _ (h3 x G' q)⟩
abbrev aa:=AL->Spec
def ajv(C f:AL)(d:D)(k:AQ->Prop):Prop:=match d with |.obj C' f' q=>C'=C/\f'=f/\k q |_=>False
def ajw(C m:AL)(d:D):Prop:=match d with |.obj C' f' _=>C'=C/\(⇑m==⇑f')=false |_=>False
def ajx(d:D)(G:DH)(k:AT):Prop:=match d with |.ref p=>(match G p with |some (.lst ds)=>(match ds[ds.length - 1]? with |some y=>k y (aP G p (.lst ds.dropLast)) |none=>False) |_=>False) |_=>False
def ajy(d:D)(k:AA->Prop):Prop:=match d with |.str l=>l.length<=1000/\k l |_=>False
def ajz(i:D)(l:AA)(k:AA->Prop):Prop:=match i with |.int n=>(match atI [48,49] n with |some c=>k (l.map λa=>if a=42 then c else a) |none=>False) |_=>False
def WY(i j:Nat)(d:D)(Y:ak)(G:DH)(k:ak->DH->Prop):Prop:=
 match d with
 |.lst ds=>ds≠[]/\∀xs y,ds=xs++[y]->k ((Y.set i (some (.lst xs))).set j (some y)) G
 |_=>False
mutual
def bc:Tg->D->ak->DH->(ak->Prop)->Prop
 |.nm i,d,Y,_,k=>k (Y.set i (some d))
 |.tp ts,d,Y,G,k=>match d with |.tup ds=>bN ts ds Y G k |.lst ds=>bN ts ds Y G k |_=>False
def bN:Tgs->AS->ak->DH->(ak->Prop)->Prop
 |.nil,ds,Y,_,k=>match ds with |[]=>k Y |_=>False
 |.cons t r,ds,Y,G,k=>match ds with |d::ds=>bc t d Y G (λρ'=>bN r ds ρ' G k) |[]=>False
end
abbrev Hld:=List (AQ×AS)
def held:Hld->DH->Prop
 |[],_=>True
 | (a,ds)::r,G=>G a=some (.lst ds)/\held r G
def compLoop(step:D->ak->DH->(Option D->ak->DH->Prop)->Prop)(g:Hld):AS->AS->ak->DH->(AS->DH->Prop)->Prop
 |[],acc,_,G,k=>held g G/\acc.length<=sz/\k acc G
 |d::ds,acc,Y,G,k=>held g G/\acc.length < sz/\step d Y G (λo ρ' G'=>match o with |some y=>compLoop step g ds (acc++[y]) ρ' G' k |none=>compLoop step g ds acc ρ' G' k)
def v8(step:D->AS->ak->DH->(AS->ak->DH->Prop)->Prop)(g:Hld):AS->AS->ak->DH->(AS->ak->DH->Prop)->Prop
 |[],acc,Y,G,k=>held g G/\k acc Y G
 |d::ds,acc,Y,G,k=>held g G/\step d acc Y G (λacc' ρ' G'=>v8 step g ds acc' ρ' G' k)
def dM:Nat->AS->AS
 |_,[]=>[]
 |i,d::ds=>.tup [.int i,d]::dM (i+1) ds
def bT:AS->AS->AS
 |a::as,b::bs=>.tup [a,b]::bT as bs
 |_,_=>[]
def itemsOf(G:DH):D->Option (AS×Hld)
 |.lst ds=>some (ds,[])
 |.tup ds=>some (ds,[])
 |.str l=>some (l.map λc=>.str [c],[])
 |.ref p=>match G p with |some (.lst ds)=>some (ds,[(p,ds)]) |_=>none
 |_=>none
def aX(lo:Int)(n:Nat):AS:=(List.range n).map λi=>.int (lo+(i:Nat))
def ajA(lo:Int)(n:Nat):AS:=(List.range n).map λi=>.int (lo - (i:Nat))
def noE:EK:=λ_ _=>False
def jL:Exs->Prop->Prop
 |.nil,P=>P
 |.cons _ _,_=>False
mutual
def wpE(Z:aa):Ex->EK->ak->DH->(AT)->Prop
 |.var i,_,Y,G,k=>match Y[i]? with |some (some d)=>k d G |_=>False
 |.cst d,_,_,G,k=>k d G
 |.glb _ d,_,_,G,k=>k d G
 |.bin op fz a b,E,Y,G,k=>wpE Z a E Y G λx G1=>wpE Z b E Y G1 λy G2=>cz op fz (view G2 x) (view G2 y) G2 k
 |.neg a,E,Y,G,k=>wpE Z a E Y G λx G1=>match x with |.int i=>k (.int (-i)) G1 |_=>False
 |.cmp op a b,E,Y,G,k=>wpE Z a E Y G λx G1=>wpE Z b E Y G1 λy G2=>aW op (view G2 x) (view G2 y) λc=>k (.bl c) G2
 |.chn op op' a b c,E,Y,G,k=>wpE Z a E Y G λx G1=>wpE Z b E Y G1 λy G2=>aW op (view G2 x) (view G2 y) λt=>
   match t with
   |true=>wpE Z c E Y G2 λz G3=>aW op' (view G3 y) (view G3 z) λt'=>k (.bl t') G3
   |false=>k (.bl false) G2
 |.not a,E,Y,G,k=>wpE Z a E Y G λx G1=>match truth (view G1 x) with |some b=>k (.bl (!b)) G1 |none=>False
 |.boo isAnd e es,E,Y,G,k=>wpE Z e E Y G λd G1=>match d with |.bl b=>wpB Z es isAnd b E Y G1 k |_=>False
 |.ife c a b,E,Y,G,k=>wpT Z c E Y G λt G1=>match t with |true=>wpE Z a E Y G1 k |false=>wpE Z b E Y G1 k
 |.tup es,E,Y,G,k=>aU Z es E Y G λds G1=>ds.length<=sz/\k (.tup ds) G1
 |.lst fz es,E,Y,G,k=>aU Z es E Y G λds G1=>ds.length<=sz/\mk fz ds G1 k
 |.idx a i,E,Y,G,k=>wpE Z a E Y G λx G1=>wpE Z i E Y G1 λy G2=>cN (view G2 x) y λd=>k d G2
 |.slc fz a lo hi,E,Y,G,k=>wpE Z a E Y G λx G1=>wpO Z lo E Y G1 λl G2=>wpO Z hi E Y G2 λh G3=>dZ fz (view G3 x) l h G3 k
 |.call f es,E,Y,G,k=>aU Z es E Y G λds G1=>(Z f).t ds G1 k E
 |.bcl f es,E,Y,G,k=>aU Z es E Y G λds G1=>opB f (ds.map (view G1)) λd=>k d G1
 |.lcl fz f es,E,Y,G,k=>aU Z es E Y G λds G1=>cA f (ds.map (view G1)) λxs=>mk fz xs G1 k
 |.isi a t,E,Y,G,k=>wpE Z a E Y G λx G1=>match isT t (view G1 x) with |some b=>k (.bl b) G1 |none=>False
 |.isx a C xs,E,Y,G,k=>wpE Z a E Y G λx G1=>iD C xs x λb=>k (.bl b) G1
 |.rgl fz a,E,Y,G,k=>wpE Z a E Y G λd G1=>match d with |.int n=>(0<=n/\n<=1000)/\mk fz (aX 0 n.toNat) G1 k |_=>False
 |.rgt a,E,Y,G,k=>wpE Z a E Y G λd G1=>match d with |.int n=>(0<=n/\n<=1000)/\k (.tup (aX 0 n.toNat)) G1 |_=>False
 |.mth m o es,E,Y,G,k=>wpE Z o E Y G λx G1=>recv m x G1/\aU Z es E Y G1 λds G2=>opM m x ds G2 k
 |.comp fz elt tg it cond _ cap,E,Y,G,k=>wpI Z it E Y G λitems g G1=>
   compLoop (λd ρ' G' k'=>bc tg d ρ' G' λρ1=>wpT Z cond noE ρ1 G' λb G2=>match b with |true=>wpE Z elt noE ρ1 G2 λy G3=>k' (some y) ρ1 G3 |false=>k' none ρ1 G2)
    g items [] (cap.map λo=>match o with |none=>none |some j=>(Y[j]?).join) G1 λds G2=>mk fz ds G2 k
 |.frz a,E,Y,G,k=>wpE Z a E Y G λx G1=>match x with |.ref p=>(match G1 p with |some (.lst ds)=>k (.lst ds) (gG G1 p) |_=>False) |d=>k d G1
 |.dnw,_,_,G,k=>∀p,G p=none->k (.ref p) (aP G p (.dct [] []))
 |.dc0 a,E,Y,G,k=>wpE Z a E Y G λx G1=>isE (view G1 x)/\∀p,G1 p=none->k (.ref p) (aP G1 p (.dct [] []))
 |.dp1 a b,E,Y,G,k=>wpE Z a E Y G λx G1=>wpE Z b E Y G1 λy G2=>bW x λn=>∀p,G2 p=none->k (.ref p) (aP G2 p (.dct [n] [y]))
/-- a test -/
def wpT(Z:aa):Tx->EK->ak->DH->(Bool->DH->Prop)->Prop
 |.not a,E,Y,G,k=>wpT Z a E Y G λb G1=>k (!b) G1
 |.boo isAnd e es,E,Y,G,k=>wpT Z e E Y G λb G1=>fW Z es isAnd b E Y G1 k
 |.yes,_,_,G,k=>k true G
 |.val x,E,Y,G,k=>wpE Z x E Y G λd G1=>match truth (view G1 d) with |some b=>k b G1 |none=>False
def wpF(Z:aa):Exs->EK->ak->DH->(AA->DH->Prop)->Prop
 |.nil,_,_,G,k=>k [] G
 |.cons e es,E,Y,G,k=>wpE Z e E Y G λd G1=>match d with
  |.str l=>l.length<=1000/\wpF Z es E Y G1 λx G2=>k (l++x) G2
  |.int i=>(0<=i/\i < 100)/\wpF Z es E Y G1 λx G2=>k (gK i.toNat++x) G2
  |_=>False
def aU(Z:aa):Exs->EK->ak->DH->(AS->DH->Prop)->Prop
 |.nil,_,_,G,k=>k [] G
 |.cons e es,E,Y,G,k=>wpE Z e E Y G λd G1=>aU Z es E Y G1 λds G2=>k (d::ds) G2
/-- and,or as values:truths,the last one anything;b:the one ahead -/
def wpB(Z:aa):Exs->Bool->Bool->EK->ak->DH->(AT)->Prop
 |.nil,_,b,_,_,G,k=>k (.bl b) G
 |.cons e es,isAnd,b,E,Y,G,k=>match isAnd,b with
  |true,false=>k (.bl false) G
  |false,true=>k (.bl true) G
  |_,_=>wpE Z e E Y G λd G1=>match d with |.bl b'=>wpB Z es isAnd b' E Y G1 k |d=>jL es (k d G1)
def fW(Z:aa):Txs->Bool->Bool->EK->ak->DH->(Bool->DH->Prop)->Prop
 |.nil,_,b,_,_,G,k=>k b G
 |.cons e es,isAnd,b,E,Y,G,k=>match isAnd,b with
  |true,false=>k false G
  |false,true=>k true G
  |_,_=>wpT Z e E Y G λb' G1=>fW Z es isAnd b' E Y G1 k
/-- a bound of a slice -/
def wpO(Z:aa):Ox->EK->ak->DH->(Option Int->DH->Prop)->Prop
 |.no,_,_,G,k=>k none G
 |.ob x,E,Y,G,k=>wpE Z x E Y G λd G1=>match d with |.int i=>k (some i) G1 |_=>False
def wpI(Z:aa):It'->EK->ak->DH->(AS->Hld->DH->Prop)->Prop
 |.seq e,E,Y,G,k=>wpE Z e E Y G λd G1=>match itemsOf G1 d with |some ds=>k ds.1 ds.2 G1 |none=>False
 |.rng a,E,Y,G,k=>wpE Z a E Y G λd G1=>match d with |.int n=>(-(2 ^ 62)<=n/\n < 2 ^ 62)/\k (aX 0 n.toNat) [] G1 |_=>False
 |.enm e,E,Y,G,k=>wpE Z e E Y G λd G1=>match itemsOf G1 d with |some ds=>k (dM 0 ds.1) ds.2 G1 |none=>False
 |.zip a b,E,Y,G,k=>wpE Z a E Y G λx G1=>wpE Z b E Y G1 λy G2=>match itemsOf G2 x,itemsOf G2 y with |some ds,some es=>k (bT ds.1 es.1) (ds.2++es.2) G2 |_,_=>False
end
structure En where
 nx:ak->DH->Prop
 rt:D->DH->Prop
 bk:ak->DH->Prop
 ct:ak->DH->Prop
def forLoop(step:D->ak->DH->(ak->DH->Prop)->Prop)(g:Hld):AS->ak->DH->(ak->DH->Prop)->Prop
 |[],Y,G,k=>held g G/\k Y G
 |d::ds,Y,G,k=>held g G/\step d Y G λρ' G'=>forLoop step g ds ρ' G' k
def whileLoop(test:ak->DH->(Bool->DH->Prop)->Prop)(body:ak->DH->(ak->DH->Prop)->Prop):Nat->ak->DH->(ak->DH->Prop)->Prop
 |0,_,_,_=>False
 |n+1,Y,G,k=>test Y G λb G1=>match b with |true=>body Y G1 λρ' G'=>whileLoop test body n ρ' G' k |false=>k Y G1
def dN(o i x:D)(G:DH)(k:DH->Prop):Prop:=
 match o with
 |.ref p=>match G p with
  |some (.lst ds)=>(match i with |.int i=>(match ixN ds.length i with |some j=>k (aP G p (.lst (ds.set j x))) |none=>False) |_=>False)
  |some (.dct ks ds)=>bW i λn=>ks.length < sz/\k (aP G p (dput ks ds n x))
  |none=>False
 |_=>False
def eV(op:Operator)(a b:D)(k:D->Prop):Prop:=
 match op,a,b with
 |.Add,.int i,.int j=>k (.int (i+j))
 |.Add,.str x,.str y=>x.length+y.length<=sz/\k (.str (x++y))
 |.Sub,.int i,.int j=>k (.int (i - j))
 |_,_,_=>False
def v9:D->Bool
 |.int i=>decide (0<=i)&&decide (i < 100)
 |_=>false
def wpM(Z:aa):Exs->EK->ak->DH->(DH->Prop)->Prop
 |.nil,_,_,G,k=>k G
 |.cons e es,E,Y,G,k=>wpE Z e E Y G λd G1=>v9 d=true/\wpM Z es E Y G1 k
def wpX(Z:aa):Tb->ak->DH->(ak->DH->Prop)->(Xn->ak->DH->Prop)->Prop
 |.call f es,Y,G,nx,ex=>aU Z es noE Y G λds G1=>(Z f).t ds G1 (λ_ G2=>nx Y G2) λx G2=>ex x Y G2
 |.asg i f es,Y,G,nx,ex=>aU Z es noE Y G λds G1=>(Z f).t ds G1 (λd G2=>nx (Y.set i (some d)) G2) λx G2=>ex x Y G2
 |.pick f g i es,Y,G,nx,ex=>wpE Z (.var i) noE Y G λd G1=>∃b:Bool,d=.int (if b then 1 else 0)/\aU Z es noE Y G1 λds G2=>(Z (if b then g else f)).t ds G2 (λ_ G3=>nx Y G3) λx G3=>ex x Y G3
 |.ite c a b,Y,G,nx,ex=>wpT Z c noE Y G λt G1=>match t with |true=>wpX Z a Y G1 nx ex |false=>wpX Z b Y G1 nx ex
def caught(h:Hd)(C:AL)(Y:ak):ak:=match h with
 |.flag i b=>Y.set i (some (.bl b))
 |.bind n i=>((Y.set n (some (.exn C))).set i (some (.exn C))).set n none
mutual
def wpS(Z:aa):Sx->EK->ak->DH->En->Prop
 |.exp e,E,Y,G,D=>wpE Z e E Y G λ_ G1=>D.nx Y G1
 |.asg t e,E,Y,G,D=>wpE Z e E Y G λd G1=>bc t d Y G1 λρ'=>D.nx ρ' G1
 |.set o i e,E,Y,G,D=>wpE Z e E Y G λx G1=>wpE Z o E Y G1 λa G2=>wpE Z i E Y G2 λy G3=>dN a y x G3 λG4=>D.nx Y G4
 |.aug i op e,E,Y,G,D=>match Y[i]? with
  |some (some a)=>wpE Z e E Y G λb G1=>eV op a b λc=>D.nx (Y.set i (some c)) G1
  |_=>False
 |.ret e,E,Y,G,D=>wpE Z e E Y G D.rt
 |.rtn,_,_,G,D=>D.rt .non G
 |.ite c a b,E,Y,G,D=>wpT Z c E Y G λt G1=>match t with |true=>au Z a E Y G1 D |false=>au Z b E Y G1 D
 |.for_ t it body,E,Y,G,D=>wpI Z it E Y G λitems g G1=>
   forLoop (λd ρ' G' k=>bc t d ρ' G' λρ1=>au Z body E ρ1 G' { D with nx:=k,ct:=k,bk:=D.nx }) g items Y G1 D.nx
 |.whl c body,E,Y,G,D=>∃n,whileLoop (λρ' G' k=>wpT Z c E ρ' G' k) (λρ' G' k=>au Z body E ρ' G' { D with nx:=k,ct:=k,bk:=D.nx }) n Y G D.nx
 |.pas,_,Y,G,D=>D.nx Y G
 |.brk,_,Y,G,D=>D.bk Y G
 |.cnt,_,Y,G,D=>D.ct Y G
 |.nev,_,_,_,_=>False
 |.rse C es,E,Y,G,_=>wpM Z es E Y G λG1=>E ⟨C,.non⟩ G1
 |.tryx b C h xs,_,Y,G,D=>wpX Z b Y G D.nx λx ρ' G'=>x.fld=.non/\xs.contains x.cls=true/\cj x.cls C=true/\D.nx (caught h x.cls ρ') G'
def au(Z:aa):Sxs->EK->ak->DH->En->Prop
 |.nil,_,Y,G,D=>D.nx Y G
 |.cons s r,E,Y,G,D=>wpS Z s E Y G { D with nx:=λρ' G'=>au Z r E ρ' G' D }
end
theorem wg{Z:aa}{a}{E}{Y}{G}{k}:wpT Z (.not a) E Y G k=(wpT Z a E Y G λb G1=>k (!b) G1):=rfl
theorem wj{Z:aa}{isAnd}{e}{es}{E}{Y}{G}{k}:wpT Z (.boo isAnd e es) E Y G k=(wpT Z e E Y G λb G1=>fW Z es isAnd b E Y G1 k):=rfl
theorem wk{Z:aa}{E}{Y}{G}{k}:wpT Z .yes E Y G k=(k true G):=rfl
theorem lX{Z:aa}{x}{E}{Y}{G}{k}:wpT Z (.val x) E Y G k=(wpE Z x E Y G λd G1=>match truth (view G1 d) with |some b=>k b G1 |none=>False):=rfl
theorem jM{Z:aa}{E}{Y}{G}{k}:aU Z .nil E Y G k=(k [] G):=rfl
theorem iG{Z:aa}{e}{es}{E}{Y}{G}{k}:aU Z (.cons e es) E Y G k=(wpE Z e E Y G λd G1=>aU Z es E Y G1 λds G2=>k (d::ds) G2):=rfl
theorem wu{Z:aa}{isAnd:Bool}{b:Bool}{E}{Y}{G}{k}:wpB Z .nil isAnd b E Y G k=(k (.bl b) G):=rfl
theorem rO{Z:aa}{e}{es}{isAnd:Bool}{b:Bool}{E}{Y}{G}{k}:wpB Z (.cons e es) isAnd b E Y G k=(match isAnd,b with
  |true,false=>k (.bl false) G
  |false,true=>k (.bl true) G
  |_,_=>wpE Z e E Y G λd G1=>match d with |.bl b'=>wpB Z es isAnd b' E Y G1 k |d=>jL es (k d G1)):=rfl
theorem W0{P:Prop}:jL .nil P=P:=rfl
theorem ww{Z:aa}{isAnd:Bool}{b:Bool}{E}{Y}{G}{k}:fW Z .nil isAnd b E Y G k=(k b G):=rfl
theorem rP{Z:aa}{e}{es}{isAnd:Bool}{b:Bool}{E}{Y}{G}{k}:fW Z (.cons e es) isAnd b E Y G k=(match isAnd,b with
  |true,false=>k false G
  |false,true=>k true G
  |_,_=>wpT Z e E Y G λb' G1=>fW Z es isAnd b' E Y G1 k):=rfl
theorem wy{Z:aa}{E}{Y}{G}{k}:wpO Z .no E Y G k=(k none G):=rfl
theorem wz{Z:aa}{x}{E}{Y}{G}{k}:wpO Z (.ob x) E Y G k=(wpE Z x E Y G λd G1=>match d with |.int i=>k (some i) G1 |_=>False):=rfl
theorem wA{Z:aa}{e}{E}{Y}{G}{k}:wpI Z (.seq e) E Y G k=(wpE Z e E Y G λd G1=>match itemsOf G1 d with |some ds=>k ds.1 ds.2 G1 |none=>False):=rfl
theorem wB{Z:aa}{a}{E}{Y}{G}{k}:wpI Z (.rng a) E Y G k=(wpE Z a E Y G λd G1=>match d with |.int n=>(-(2 ^ 62)<=n/\n < 2 ^ 62)/\k (aX 0 n.toNat) [] G1 |_=>False):=rfl
theorem wC{Z:aa}{e}{E}{Y}{G}{k}:wpI Z (.enm e) E Y G k=(wpE Z e E Y G λd G1=>match itemsOf G1 d with |some ds=>k (dM 0 ds.1) ds.2 G1 |none=>False):=rfl
theorem wD{Z:aa}{a}{b}{E}{Y}{G}{k}:wpI Z (.zip a b) E Y G k=(wpE Z a E Y G λx G1=>wpE Z b E Y G1 λy G2=>match itemsOf G2 x,itemsOf G2 y with |some ds,some es=>k (bT ds.1 es.1) (ds.2++es.2) G2 |_,_=>False):=rfl
theorem lY{Z:aa}{E}{Y}{G}{D}:au Z .nil E Y G D=(D.nx Y G):=rfl
theorem lZ{Z:aa}{s}{r}{E}{Y}{G}{D}:au Z (.cons s r) E Y G D=(wpS Z s E Y G { D with nx:=λρ' G'=>au Z r E ρ' G' D }):=rfl
theorem wF{Z:aa}{i E Y G k}:wpE Z (.var i) E Y G k=(match Y[i]? with |some (some d)=>k d G |_=>False):=rfl
theorem jN{Z:aa}{d E Y G k}:wpE Z (.cst d) E Y G k=(k d G):=rfl
theorem wG{Z:aa}{u0 d E Y G k}:wpE Z (.glb u0 d) E Y G k=(k d G):=rfl
theorem wH{Z:aa}{op fz a b E Y G k}:wpE Z (.bin op fz a b) E Y G k=(wpE Z a E Y G λx G1=>wpE Z b E Y G1 λy G2=>cz op fz (view G2 x) (view G2 y) G2 k):=rfl
theorem wI{Z:aa}{a E Y G k}:wpE Z (.neg a) E Y G k=(wpE Z a E Y G λx G1=>match x with |.int i=>k (.int (-i)) G1 |_=>False):=rfl
theorem rQ{Z:aa}{op a b E Y G k}:wpE Z (.cmp op a b) E Y G k=(wpE Z a E Y G λx G1=>wpE Z b E Y G1 λy G2=>aW op (view G2 x) (view G2 y) λc=>k (.bl c) G2):=rfl
theorem rR{Z:aa}{op op' a b c E Y G k}:wpE Z (.chn op op' a b c) E Y G k=(wpE Z a E Y G λx G1=>wpE Z b E Y G1 λy G2=>aW op (view G2 x) (view G2 y) λt=>
   match t with
   |true=>wpE Z c E Y G2 λz G3=>aW op' (view G3 y) (view G3 z) λt'=>k (.bl t') G3
   |false=>k (.bl false) G2):=rfl
theorem wJ{Z:aa}{a E Y G k}:wpE Z (.not a) E Y G k=(wpE Z a E Y G λx G1=>match truth (view G1 x) with |some b=>k (.bl (!b)) G1 |none=>False):=rfl
theorem wK{Z:aa}{isAnd e es E Y G k}:wpE Z (.boo isAnd e es) E Y G k=(wpE Z e E Y G λd G1=>match d with |.bl b=>wpB Z es isAnd b E Y G1 k |_=>False):=rfl
theorem wL{Z:aa}{c a b E Y G k}:wpE Z (.ife c a b) E Y G k=(wpT Z c E Y G λt G1=>match t with |true=>wpE Z a E Y G1 k |false=>wpE Z b E Y G1 k):=rfl
theorem wM{Z:aa}{es E Y G k}:wpE Z (.tup es) E Y G k=(aU Z es E Y G λds G1=>ds.length<=sz/\k (.tup ds) G1):=rfl
theorem wN{Z:aa}{fz es E Y G k}:wpE Z (.lst fz es) E Y G k=(aU Z es E Y G λds G1=>ds.length<=sz/\mk fz ds G1 k):=rfl
theorem wO{Z:aa}{a i E Y G k}:wpE Z (.idx a i) E Y G k=(wpE Z a E Y G λx G1=>wpE Z i E Y G1 λy G2=>cN (view G2 x) y λd=>k d G2):=rfl
theorem wQ{Z:aa}{fz a lo hi E Y G k}:wpE Z (.slc fz a lo hi) E Y G k=(wpE Z a E Y G λx G1=>wpO Z lo E Y G1 λl G2=>wpO Z hi E Y G2 λh G3=>dZ fz (view G3 x) l h G3 k):=rfl
theorem wR{Z:aa}{f es E Y G k}:wpE Z (.call f es) E Y G k=(aU Z es E Y G λds G1=>(Z f).t ds G1 k E):=rfl
theorem wU{Z:aa}{f es E Y G k}:wpE Z (.bcl f es) E Y G k=(aU Z es E Y G λds G1=>opB f (ds.map (view G1)) λd=>k d G1):=rfl
theorem wV{Z:aa}{fz f es E Y G k}:wpE Z (.lcl fz f es) E Y G k=(aU Z es E Y G λds G1=>cA f (ds.map (view G1)) λxs=>mk fz xs G1 k):=rfl
theorem wW{Z:aa}{a t E Y G k}:wpE Z (.isi a t) E Y G k=(wpE Z a E Y G λx G1=>match isT t (view G1 x) with |some b=>k (.bl b) G1 |none=>False):=rfl
theorem wX{Z:aa}{a C xs E Y G k}:wpE Z (.isx a C xs) E Y G k=(wpE Z a E Y G λx G1=>iD C xs x λb=>k (.bl b) G1):=rfl
theorem wY{Z:aa}{fz a E Y G k}:wpE Z (.rgl fz a) E Y G k=(wpE Z a E Y G λd G1=>match d with |.int n=>(0<=n/\n<=1000)/\mk fz (aX 0 n.toNat) G1 k |_=>False):=rfl
theorem wZ{Z:aa}{a E Y G k}:wpE Z (.rgt a) E Y G k=(wpE Z a E Y G λd G1=>match d with |.int n=>(0<=n/\n<=1000)/\k (.tup (aX 0 n.toNat)) G1 |_=>False):=rfl
theorem Ea{Z:aa}{E Y G k}:wpF Z .nil E Y G k=k [] G:=rfl
theorem Eb{Z:aa}{e es E Y G k}:wpF Z (.cons e es) E Y G k=(wpE Z e E Y G λd G1=>match d with
  |.str l=>l.length<=1000/\wpF Z es E Y G1 λx G2=>k (l++x) G2
  |.int i=>(0<=i/\i < 100)/\wpF Z es E Y G1 λx G2=>k (gK i.toNat++x) G2
  |_=>False):=rfl
theorem gM{Z:aa}{m o es E Y G k}:wpE Z (.mth m o es) E Y G k=(wpE Z o E Y G λx G1=>recv m x G1/\aU Z es E Y G1 λds G2=>opM m x ds G2 k):=rfl
theorem w5{Z:aa}{a E Y G k}:wpE Z (.frz a) E Y G k=(wpE Z a E Y G λx G1=>match x with |.ref p=>(match G1 p with |some (.lst ds)=>k (.lst ds) (gG G1 p) |_=>False) |d=>k d G1):=rfl
theorem xf{Z:aa}{E Y G k}:wpE Z .dnw E Y G k=(∀p,G p=none->k (.ref p) (aP G p (.dct [] []))):=rfl
theorem rT{Z:aa}{a E Y G k}:wpE Z (.dc0 a) E Y G k=(wpE Z a E Y G λx G1=>isE (view G1 x)/\∀p,G1 p=none->k (.ref p) (aP G1 p (.dct [] []))):=rfl
theorem xg{Z:aa}{a b E Y G k}:wpE Z (.dp1 a b) E Y G k=(wpE Z a E Y G λx G1=>wpE Z b E Y G1 λy G2=>bW x λn=>∀p,G2 p=none->k (.ref p) (aP G2 p (.dct [n] [y]))):=rfl
theorem xj{Z:aa}{e E Y G D}:wpS Z (.exp e) E Y G D=(wpE Z e E Y G λ_ G1=>D.nx Y G1):=rfl
theorem jO{Z:aa}{t e E Y G D}:wpS Z (.asg t e) E Y G D=(wpE Z e E Y G λd G1=>bc t d Y G1 λρ'=>D.nx ρ' G1):=rfl
theorem xm{Z:aa}{o i e E Y G D}:wpS Z (.set o i e) E Y G D=(wpE Z e E Y G λx G1=>wpE Z o E Y G1 λa G2=>wpE Z i E Y G2 λy G3=>dN a y x G3 λG4=>D.nx Y G4):=rfl
theorem xq{Z:aa}{i op e E Y G D}:wpS Z (.aug i op e) E Y G D=(match Y[i]? with
  |some (some a)=>wpE Z e E Y G λb G1=>eV op a b λc=>D.nx (Y.set i (some c)) G1
  |_=>False):=rfl
theorem xr{Z:aa}{e E Y G D}:wpS Z (.ret e) E Y G D=(wpE Z e E Y G D.rt):=rfl
theorem xu{Z:aa}{E Y G D}:wpS Z .rtn E Y G D=(D.rt .non G):=rfl
theorem xF{Z:aa}{c a b E Y G D}:wpS Z (.ite c a b) E Y G D=(wpT Z c E Y G λt G1=>match t with |true=>au Z a E Y G1 D |false=>au Z b E Y G1 D):=rfl
theorem xG{Z:aa}{E Y G D}:wpS Z .pas E Y G D=(D.nx Y G):=rfl
theorem xH{Z:aa}{E Y G D}:wpS Z .brk E Y G D=(D.bk Y G):=rfl
theorem xJ{Z:aa}{E Y G D}:wpS Z .cnt E Y G D=(D.ct Y G):=rfl
theorem rW{Z:aa}{C es E Y G D}:wpS Z (.rse C es) E Y G D=(wpM Z es E Y G λG1=>E ⟨C,.non⟩ G1):=rfl
theorem Ec{Z:aa}{E Y G k}:wpM Z .nil E Y G k=k G:=rfl
theorem xK{Z:aa}{e es E Y G k}:wpM Z (.cons e es) E Y G k=(wpE Z e E Y G λd G1=>v9 d=true/\wpM Z es E Y G1 k):=rfl
theorem rY{Z:aa}{b C h xs E Y G D}:wpS Z (.tryx b C h xs) E Y G D=(wpX Z b Y G D.nx λx ρ' G'=>x.fld=.non/\xs.contains x.cls=true/\cj x.cls C=true/\D.nx (caught h x.cls ρ') G'):=rfl
theorem Ed{Z:aa}{f g i es Y G nx ex}:wpX Z (.pick f g i es) Y G nx ex=(wpE Z (.var i) noE Y G λd G1=>∃b:Bool,d=.int (if b then 1 else 0)/\aU Z es noE Y G1 λds G2=>(Z (if b then g else f)).t ds G2 (λ_ G3=>nx Y G3) λx G3=>ex x Y G3):=rfl
theorem xM{Z:aa}{f es Y G nx ex}:wpX Z (.call f es) Y G nx ex=(aU Z es noE Y G λds G1=>(Z f).t ds G1 (λ_ G2=>nx Y G2) λx G2=>ex x Y G2):=rfl
theorem xN{Z:aa}{i f es Y G nx ex}:wpX Z (.asg i f es) Y G nx ex=(aU Z es noE Y G λds G1=>(Z f).t ds G1 (λd G2=>nx (Y.set i (some d)) G2) λx G2=>ex x Y G2):=rfl
theorem xO{Z:aa}{c a b Y G nx ex}:wpX Z (.ite c a b) Y G nx ex=(wpT Z c noE Y G λt G1=>match t with |true=>wpX Z a Y G1 nx ex |false=>wpX Z b Y G1 nx ex):=rfl
theorem xP{Z:aa}{E Y G D}:wpS Z .nev E Y G D=(False):=rfl
theorem xQ{Z:aa}{fz elt tg it cond N cap E Y G k}:wpE Z (.comp fz elt tg it cond N cap) E Y G k=(wpI Z it E Y G λitems g G1=>
   compLoop (λd ρ' G' k'=>bc tg d ρ' G' λρ1=>wpT Z cond noE ρ1 G' λb G2=>match b with |true=>wpE Z elt noE ρ1 G2 λy G3=>k' (some y) ρ1 G3 |false=>k' none ρ1 G2)
    g items [] (cap.map λo=>match o with |none=>none |some j=>(Y[j]?).join) G1 λds G2=>mk fz ds G2 k):=rfl
theorem Ef{Z:aa}{t it body E Y G D}:wpS Z (.for_ t it body) E Y G D=(wpI Z it E Y G λitems g G1=>
   forLoop (λd ρ' G' k=>bc t d ρ' G' λρ1=>au Z body E ρ1 G' { D with nx:=k,ct:=k,bk:=D.nx }) g items Y G1 D.nx):=rfl
theorem Eg{Z:aa}{c body E Y G D}:wpS Z (.whl c body) E Y G D=(∃n,whileLoop (λρ' G' k=>wpT Z c E ρ' G' k) (λρ' G' k=>au Z body E ρ' G' { D with nx:=k,ct:=k,bk:=D.nx }) n Y G D.nx):=rfl
section
variable {k k':AT} {G:DH}
theorem du{fz:Bool}{xs:AS}(h:∀d G',k d G'->k' d G')(q:mk fz xs G k):mk fz xs G k':=by
 cases fz with
 |true=>exact h _ _ q
 |false=>exact λp hp=>h _ _ (q p hp)
theorem Eh{a b:D}{p:Int->Int->Prop}(h:gJ a b p):∃i j,a=.int i/\b=.int j/\p i j:=by
 cases a with
 |int i=>cases b with
  |int j=>exact ⟨i,j,rfl,rfl,h⟩
  |_=>exact h.elim
 |_=>exact h.elim
theorem rZ{a b:D}{p q:Int->Int->Prop}(h:∀i j,p i j->q i j)(z:gJ a b p):gJ a b q:=by obtain ⟨i,j,rfl,rfl,z⟩:=Eh z;exact h i j z
theorem Ei{op:Operator}{fz:Bool}{a b:D}(h:∀d G',k d G'->k' d G')(q:cz op fz a b G k):cz op fz a b G k':=by
 cases op with
 |Add=>
  have q:jC fz a b G k:=q;show jC fz a b G k';unfold jC at q ⊢;cases a with
  |int i=>cases b <;> first |exact h _ _ q |exact q
  |str i=>cases b <;> first |exact ⟨q.1,h _ _ q.2⟩ |exact q
  |lst i=>cases b <;> first |exact ⟨q.1,du h q.2⟩ |exact q
  |tup i=>cases b <;> first |exact ⟨q.1,h _ _ q.2⟩ |exact q
  |_=>exact q
 |Sub=>exact rZ (λ_ _ z=>h _ _ z) q
 |Mult=>
  have q:jD fz a b G k:=q;show jD fz a b G k';unfold jD at q ⊢;cases b with
  |int n=>cases a <;> first |exact ⟨q.1,h _ _ q.2⟩ |exact ⟨q.1,q.2.1,q.2.2.1,h _ _ q.2.2.2⟩ |exact ⟨q.1,q.2.1,q.2.2.1,du h q.2.2.2⟩ |exact ⟨q.1,q.2.1,q.2.2.1,q.2.2.2.1,h _ _ q.2.2.2.2⟩ |exact q
  |_=>exact q
 |FloorDiv=>exact rZ (λ_ _ z=>⟨z.1,h _ _ z.2⟩) q
 |Mod=>exact rZ (λ_ _ z=>⟨z.1,h _ _ z.2⟩) q
 |Pow=>exact rZ (λ_ _ z=>⟨z.1,h _ _ z.2⟩) q
 |_=>exact q
theorem sr{d:D}{k k':List Int->Prop}(h:∀n,k n->k' n)(q:bW d k):bW d k':=by
 unfold bW at q ⊢;split at q
 .split at q
  .exact h _ q
  .exact q
 .exact q
theorem Ej{a b:D}{k k':Bool->Prop}(h:∀c,k c->k' c)(q:fU a b k):fU a b k':=by
 unfold fU at q ⊢;split at q
 .split at q
  .exact h _ q
  .exact q
 .exact ⟨q.1,h _ q.2⟩
 .exact ⟨q.1,h _ q.2⟩
 .exact sr (λ_ z=>h _ z) q
 .exact q
theorem iH{op:CmpOp}{a b:D}{k k':Bool->Prop}(h:∀c,k c->k' c)(q:aW op a b k):aW op a b k':=by
 cases op with
 |Eq=>exact ⟨q.1,h _ q.2⟩
 |NotEq=>exact ⟨q.1,h _ q.2⟩
 |Lt=>have q:jE a b k:=q;show jE a b k';unfold jE at q ⊢;split at q <;> first |exact h _ q |exact q
 |LtE=>have q:jF a b k:=q;show jF a b k';unfold jF at q ⊢;split at q <;> first |exact h _ q |exact q
 |Gt=>have q:jG a b k:=q;show jG a b k';unfold jG at q ⊢;split at q <;> first |exact h _ q |exact q
 |GtE=>have q:jH a b k:=q;show jH a b k';unfold jH at q ⊢;split at q <;> first |exact h _ q |exact q
 |Is=>
  have q:jJ a b k:=q;show jJ a b k';unfold jJ at q ⊢;split at q
  .exact h _ q
  .split at q
   .exact h _ q
   .exact q
  .exact q
 |IsNot=>
  have q:jK a b k:=q;show jK a b k';unfold jK at q ⊢;split at q
  .exact h _ q
  .split at q
   .exact h _ q
   .exact q
  .exact q
 |In=>exact Ej h q
 |NotIn=>exact Ej (λc=>h _) q
theorem Ek{a i:D}{k k':D->Prop}(h:∀c,k c->k' c)(q:cN a i k):cN a i k':=by
 unfold cN at q ⊢;split at q
 .split at q
  .exact h _ q
  .exact q
 .split at q
  .exact h _ q
  .exact q
 .split at q
  .exact h _ q
  .exact q
 .refine sr (λ_ q=>?_) q;split at q
  .split at q
   .exact h _ q
   .exact q
  .exact q
 .exact q
theorem El{fz:Bool}{a:D}{lo hi:Option Int}(h:∀d G',k d G'->k' d G')(q:dZ fz a lo hi G k):dZ fz a lo hi G k':=by
 unfold dZ at q ⊢;split at q <;> first
  |exact du h q
  |exact h _ _ q
  |exact q.elim
theorem ajB{fz:Bool}{a y:D}(h:∀d G',k d G'->k' d G')(q:rB fz a y G k):rB fz a y G k':=by
 unfold rB at q ⊢;split at q
 .exact ⟨q.1,du h q.2⟩
 .exact ⟨q.1,h _ _ q.2⟩
 .exact q.elim
theorem Em{f:Bf}{as:AS}{k k':D->Prop}(h:∀c,k c->k' c)(q:opB f as k):opB f as k':=by
 cases f with
 |len=>simp only[opB,vW]at q ⊢;split at q <;> first |exact h _ q |exact q.elim
 |all=>
  simp only[opB,rD]at q ⊢;split at q
  .split at q
   .exact h _ q
   .exact q
  .exact q
 |int=>
  simp only[opB,rE]at q ⊢;split at q
  .exact h _ q
  .exact h _ q
  .split at q
   .exact ⟨q.1,h _ q.2⟩
   .exact q
  .exact q
 |tuple=>simp only[opB,vX]at q ⊢;split at q <;> first |exact h _ q |exact q.elim
 |sum=>
  simp only[opB,vY]at q ⊢;split at q
  .split at q
   .exact h _ q
   .exact q
  .exact q
 |min=>
  simp only[opB,lU]at q ⊢;split at q
  .split at q
   .exact ⟨q.1,λm h1 h2=>h _ (q.2 m h1 h2)⟩
   .split at q
    .exact λm h1 h2=>h _ (q m h1 h2)
    .exact q
  .exact q
 |max=>simp only[opB,DX]at q ⊢;split at q <;> first |exact h _ q |exact q.elim
 |abs=>simp only[opB,DR]at q ⊢;split at q <;> first |exact h _ q |exact q.elim
 |min2=>simp only[opB,DW]at q ⊢;split at q <;> first |exact h _ q |exact q.elim
 |str=>
  simp only[opB,vZ]at q ⊢;split at q
  .exact ⟨q.1,h _ q.2⟩
  .exact q
theorem ajC{d:D}{k k':AS->Prop}(h:∀c,k c->k' c)(q:lW d k):lW d k':=by
 unfold lW at q ⊢;split at q
 .split at q
  .exact ⟨q.1,λls p=>h _ (q.2 ls p)⟩
  .exact q
 .exact q
theorem Eo{f:Lf}{as:AS}{k k':AS->Prop}(h:∀c,k c->k' c)(q:cA f as k):cA f as k':=by
 cases f with
 |list=>simp only[cA,v6]at q ⊢;split at q <;> first |exact h _ q |exact q.elim
 |sorted=>
  simp only[cA,lV]at q ⊢;split at q
  .split at q
   .exact ⟨q.1,λls p z=>h _ (q.2 ls p z)⟩
   .exact q
  .split at q
   .exact ⟨q.1,λls p z=>h _ (q.2 ls p z)⟩
   .exact q
  .exact q
theorem iI{m:Mf}{o:D}{as:AS}(h:∀d G',k d G'->k' d G')(q:opM m o as G k):opM m o as G k':=by
 cases m with
 |join=>
  simp only[opM,rG]at q ⊢;split at q
  .split at q
   .exact ⟨q.1,h _ _ q.2⟩
   .exact q
  .exact q
 |append=>
  simp only[opM,rH]at q ⊢;split at q
  .split at q
   .exact ⟨q.1,h _ _ q.2⟩
   .exact q
  .exact q
 |extend=>
  simp only[opM,rJ]at q ⊢;split at q
  .split at q
   .exact ⟨q.1,h _ _ q.2⟩
   .exact q
  .exact q
 |pop=>
  simp only[opM,rK]at q ⊢;split at q
  .split at q
   .refine ⟨q.1,q.2.1,?_⟩;have q2:=q.2.2;split at q2
    .exact h _ _ q2
    .exact q2
   .exact q
  .exact q
 |count=>
  simp only[opM,rM]at q ⊢;split at q
  .split at q
   .exact h _ _ q
   .exact q
  .exact q
 |index=>
  simp only[opM,rN]at q ⊢;split at q
  .split at q
   .exact ⟨q.1,h _ _ q.2⟩
   .exact q
  .exact q
theorem Ep{o i x:D}{k k':DH->Prop}(h:∀G',k G'->k' G')(q:dN o i x G k):dN o i x G k':=by
 unfold dN at q ⊢;split at q
 .split at q
  .split at q
   .split at q
    .exact h _ q
    .exact q
   .exact q
  .exact sr (λ_ z=>⟨z.1,h _ z.2⟩) q
  .exact q
 .exact q
theorem Er{op:Operator}{a b:D}{k k':D->Prop}(h:∀c,k c->k' c)(q:eV op a b k):eV op a b k':=by
 unfold eV at q ⊢;split at q <;> first
  |exact h _ q
  |exact ⟨q.1,h _ q.2⟩
  |exact q.elim
mutual
theorem fX{k k':ak->Prop}(h:∀Y,k Y->k' Y):∀(t:Tg){d:D}{Y:ak},bc t d Y G k->bc t d Y G k'
 |.nm i,d,Y,q=>h _ q
 |.tp ts,d,Y,q=>by
  unfold bc at q ⊢;split at q
  .exact xR h ts q
  .exact xR h ts q
  .exact q
theorem xR{k k':ak->Prop}(h:∀Y,k Y->k' Y):∀(ts:Tgs){ds:AS}{Y:ak},bN ts ds Y G k->bN ts ds Y G k'
 |.nil,ds,Y,q=>by
  unfold bN at q ⊢;split at q
  .exact h _ q
  .exact q
 |.cons t r,ds,Y,q=>by
  unfold bN at q ⊢;split at q
  .exact fX (λρ' q'=>xR h r q') t q
  .exact q
end
theorem su{step step':D->ak->DH->(Option D->ak->DH->Prop)->Prop}(hs:∀d Y G (k k':Option D->ak->DH->Prop),(∀o ρ' G',k o ρ' G'->k' o ρ' G')->step d Y G k->step' d Y G k')
  {g:Hld} {k k':AS->DH->Prop} (h:∀ds G',k ds G'->k' ds G'):∀(ds acc:AS)(Y:ak)(G:DH),compLoop step g ds acc Y G k->compLoop step' g ds acc Y G k'
 |[],acc,Y,G,q=>⟨q.1,q.2.1,h _ _ q.2.2⟩
 |d::ds,acc,Y,G,q=>by
  refine ⟨q.1,q.2.1,hs d Y G _ _ (λo ρ' G' z=>?_) q.2.2⟩;cases o with
  |some y=>exact su hs h ds (acc++[y]) ρ' G' z
  |none=>exact su hs h ds acc ρ' G' z
theorem W2{step step':D->AS->ak->DH->(AS->ak->DH->Prop)->Prop}(hs:∀d acc Y G (k k':AS->ak->DH->Prop),(∀a ρ' G',k a ρ' G'->k' a ρ' G')->step d acc Y G k->step' d acc Y G k')
  {g:Hld} {k k':AS->ak->DH->Prop} (h:∀a Y G',k a Y G'->k' a Y G'):∀(ds acc:AS)(Y:ak)(G:DH),v8 step g ds acc Y G k->v8 step' g ds acc Y G k'
 |[],acc,Y,G,q=>⟨q.1,h _ _ _ q.2⟩
 |d::ds,acc,Y,G,q=>⟨q.1,hs d acc Y G _ _ (λa ρ' G' z=>W2 hs h ds a ρ' G' z) q.2⟩
theorem Es{step step':D->ak->DH->(ak->DH->Prop)->Prop}(hs:∀d Y G (k k':ak->DH->Prop),(∀ρ' G',k ρ' G'->k' ρ' G')->step d Y G k->step' d Y G k')
  {g:Hld} {k k':ak->DH->Prop} (h:∀Y G',k Y G'->k' Y G'):∀(ds:AS)(Y:ak)(G:DH),forLoop step g ds Y G k->forLoop step' g ds Y G k'
 |[],Y,G,q=>⟨q.1,h _ _ q.2⟩
 |d::ds,Y,G,q=>⟨q.1,hs d Y G _ _ (λρ' G' z=>Es hs h ds ρ' G' z) q.2⟩
theorem Et{test test':ak->DH->(Bool->DH->Prop)->Prop}{body body':ak->DH->(ak->DH->Prop)->Prop}
  (ht:∀Y G (k k':Bool->DH->Prop),(∀b G',k b G'->k' b G')->test Y G k->test' Y G k') (hb:∀Y G (k k':ak->DH->Prop),(∀ρ' G',k ρ' G'->k' ρ' G')->body Y G k->body' Y G k')
  {k k':ak->DH->Prop} (h:∀Y G',k Y G'->k' Y G'):∀(n:Nat)(Y:ak)(G:DH),whileLoop test body n Y G k->whileLoop test' body' n Y G k'
 |0,Y,G,q=>q
 |n+1,Y,G,q=>ht Y G _ _ (λb G' z=>by
   cases b with
   |true=>exact hb Y G' _ _ (λρ' G'' z'=>Et ht hb h n ρ' G'' z') z
   |false=>exact h _ _ z) q
end
section
variable {Z:aa} {G:DH}
theorem xT:∀(x:Exs){P Q:Prop},(P->Q)->jL x P->jL x Q
 |.nil,_,_,h,q=>h q
 |.cons _ _,_,_,_,q=>q
mutual
theorem aK{E:EK}{Y:ak}:∀(x:Ex){G:DH}{k k':AT},(∀d G',k d G'->k' d G')->wpE Z x E Y G k->wpE Z x E Y G k'
 |.var i,G,k,k',h,q=>by
  rw[wF]at q ⊢;split at q
  .exact h _ _ q
  .exact q
 |.cst d,G,k,k',h,q=>by rw[jN]at q ⊢;exact h _ _ q
 |.glb x d,G,k,k',h,q=>by rw[wG]at q ⊢;exact h _ _ q
 |.bin op fz a b,G,k,k',h,q=>by
  rw[wH]at q ⊢;exact aK a (λ_ _ q=>aK b (λ_ _ q=>Ei h q) q) q
 |.neg a,G,k,k',h,q=>by
  rw[wI]at q ⊢;refine aK a (λx _ q=>?_) q;split at q
  .exact h _ _ q
  .exact q
 |.cmp op a b,G,k,k',h,q=>by
  rw[rQ]at q ⊢;exact aK a (λ_ _ q=>aK b (λ_ _ q=>iH (λ_ q=>h _ _ q) q) q) q
 |.chn op op' a b c,G,k,k',h,q=>by
  rw[rR]at q ⊢;refine aK a (λ_ _ q=>aK b (λ_ _ q=>iH (λt q=>?_) q) q) q;cases t with
  |true=>exact aK c (λ_ _ q=>iH (λ_ q=>h _ _ q) q) q
  |false=>exact h _ _ q
 |.not a,G,k,k',h,q=>by
  rw[wJ]at q ⊢;refine aK a (λx _ q=>?_) q;split at q
  .exact h _ _ q
  .exact q
 |.boo isAnd e es,G,k,k',h,q=>by
  rw[wK]at q ⊢;refine aK e (λx _ q=>?_) q;split at q
  .exact sy es h q
  .exact q
 |.ife c a b,G,k,k',h,q=>by
  rw[wL]at q ⊢;refine cU c (λt _ q=>?_) q;cases t with
  |true=>exact aK a h q
  |false=>exact aK b h q
 |.tup es,G,k,k',h,q=>by
  rw[wM]at q ⊢;exact dO es (λ_ _ q=>⟨q.1,h _ _ q.2⟩) q
 |.lst fz es,G,k,k',h,q=>by
  rw[wN]at q ⊢;exact dO es (λ_ _ q=>⟨q.1,du h q.2⟩) q
 |.idx a i,G,k,k',h,q=>by
  rw[wO]at q ⊢;exact aK a (λ_ _ q=>aK i (λ_ _ q=>Ek (λ_ q=>h _ _ q) q) q) q
 |.slc fz a lo hi,G,k,k',h,q=>by
  rw[wQ]at q ⊢;exact aK a (λ_ _ q=>xU lo (λ_ _ q=>xU hi (λ_ _ q=>El h q) q) q) q
 |.call f es,G,k,k',h,q=>by
  rw[wR]at q ⊢;exact dO es (λ_ _ q=>Spec.mono q h λ_ _ z=>z) q
 |.bcl f es,G,k,k',h,q=>by
  rw[wU]at q ⊢;exact dO es (λ_ _ q=>Em (λ_ q=>h _ _ q) q) q
 |.lcl fz f es,G,k,k',h,q=>by
  rw[wV]at q ⊢;exact dO es (λ_ _ q=>Eo (λ_ q=>du h q) q) q
 |.isi a t,G,k,k',h,q=>by
  rw[wW]at q ⊢;refine aK a (λx _ q=>?_) q;split at q
  .exact h _ _ q
  .exact q
 |.isx a C xs,G,k,k',h,q=>by
  rw[wX]at q ⊢;refine aK a (λx _ q=>?_) q;unfold iD at q ⊢;split at q
  .exact ⟨q.1,h _ _ q.2⟩
  .exact ⟨q.1,h _ _ q.2⟩
  .exact h _ _ q
  .exact q
 |.rgl fz a,G,k,k',h,q=>by
  rw[wY]at q ⊢;refine aK a (λd _ q=>?_) q;split at q
  .exact ⟨q.1,du h q.2⟩
  .exact q
 |.rgt a,G,k,k',h,q=>by
  rw[wZ]at q ⊢;refine aK a (λd _ q=>?_) q;split at q
  .exact ⟨q.1,h _ _ q.2⟩
  .exact q
 |.mth m o es,G,k,k',h,q=>by
  rw[gM]at q ⊢;exact aK o (λ_ _ q=>⟨q.1,dO es (λ_ _ q=>iI h q) q.2⟩) q
 |.comp fz elt tg it cond N cap,G,k,k',h,q=>by
  rw[xQ]at q ⊢;refine mj it (λitems g G1 q=>?_) q;refine su ?_ (λds G2 z=>du h z) items [] _ G1 q;intro d ρ' G' k k' hk z;refine fX (λρ1 z=>?_) tg z;refine cU cond (λb G2 z=>?_) z;cases b with
  |true=>exact aK elt (λy G3 z=>hk _ _ _ z) z
  |false=>exact hk _ _ _ z
 |.dnw,G,k,k',h,q=>by rw[xf]at q ⊢;exact λp hp=>h _ _ (q p hp)
 |.dc0 a,G,k,k',h,q=>by rw[rT]at q ⊢;exact aK a (λ_ _ q=>⟨q.1,λp hp=>h _ _ (q.2 p hp)⟩) q
 |.dp1 a b,G,k,k',h,q=>by rw[xg]at q ⊢;exact aK a (λ_ _ q=>aK b (λ_ _ q=>sr (λ_ z p hp=>h _ _ (z p hp)) q) q) q
 |.frz a,G,k,k',h,q=>by
  rw[w5]at q ⊢;refine aK a (λx G1 q=>?_) q;split at q
  .split at q
   .exact h _ _ q
   .exact q
  .exact h _ _ q
theorem cU{E:EK}{Y:ak}:∀(x:Tx){G:DH}{k k':Bool->DH->Prop},(∀d G',k d G'->k' d G')->wpT Z x E Y G k->wpT Z x E Y G k'
 |.not a,G,k,k',h,q=>by rw[wg]at q ⊢;exact cU a (λ_ _ q=>h _ _ q) q
 |.boo isAnd e es,G,k,k',h,q=>by rw[wj]at q ⊢;exact cU e (λ_ _ q=>sE es h q) q
 |.yes,G,k,k',h,q=>by rw[wk]at q ⊢;exact h _ _ q
 |.val a,G,k,k',h,q=>by
  rw[lX]at q ⊢;refine aK a (λx _ q=>?_) q;split at q
  .exact h _ _ q
  .exact q
theorem Eu{E:EK}{Y:ak}:∀(x:Exs){G:DH}{k k':AA->DH->Prop},(∀d G',k d G'->k' d G')->wpF Z x E Y G k->wpF Z x E Y G k'
 |.nil,G,k,k',h,q=>by rw[Ea]at q ⊢;exact h _ _ q
 |.cons e es,G,k,k',h,q=>by
  rw[Eb]at q ⊢;refine aK e (λd _ q=>?_) q;split at q
  .exact ⟨q.1,Eu es (λ_ _ q=>h _ _ q) q.2⟩
  .exact ⟨q.1,Eu es (λ_ _ q=>h _ _ q) q.2⟩
  .exact q
theorem dO{E:EK}{Y:ak}:∀(x:Exs){G:DH}{k k':AS->DH->Prop},(∀d G',k d G'->k' d G')->aU Z x E Y G k->aU Z x E Y G k'
 |.nil,G,k,k',h,q=>by rw[jM]at q ⊢;exact h _ _ q
 |.cons e es,G,k,k',h,q=>by rw[iG]at q ⊢;exact aK e (λ_ _ q=>dO es (λ_ _ q=>h _ _ q) q) q
theorem sy{E:EK}{Y:ak}:∀(x:Exs){isAnd b:Bool}{G:DH}{k k':AT},(∀d G',k d G'->k' d G')->wpB Z x isAnd b E Y G k->wpB Z x isAnd b E Y G k'
 |.nil,_,_,G,k,k',h,q=>by rw[wu]at q ⊢;exact h _ _ q
 |.cons e es,isAnd,b,G,k,k',h,q=>by
  rw[rO]at q ⊢;cases isAnd <;> cases b <;> first
   |exact h _ _ q
   | (refine aK e (λd _ q=>?_) q
      split at q
      .exact sy es h q
      .exact xT es (h _ _) q)
theorem sE{E:EK}{Y:ak}:∀(x:Txs){isAnd b:Bool}{G:DH}{k k':Bool->DH->Prop},(∀d G',k d G'->k' d G')->fW Z x isAnd b E Y G k->fW Z x isAnd b E Y G k'
 |.nil,_,_,G,k,k',h,q=>by rw[ww]at q ⊢;exact h _ _ q
 |.cons e es,isAnd,b,G,k,k',h,q=>by
  rw[rP]at q ⊢;cases isAnd <;> cases b <;> first
   |exact h _ _ q
   |exact cU e (λd _ q=>sE es h q) q
theorem xU{E:EK}{Y:ak}:∀(x:Ox){G:DH}{k k':Option Int->DH->Prop},(∀d G',k d G'->k' d G')->wpO Z x E Y G k->wpO Z x E Y G k'
 |.no,G,k,k',h,q=>by rw[wy]at q ⊢;exact h _ _ q
 |.ob a,G,k,k',h,q=>by
  rw[wz]at q ⊢;refine aK a (λx _ q=>?_) q;split at q
  .exact h _ _ q
  .exact q
theorem mj{E:EK}{Y:ak}:∀(x:It'){G:DH}{k k':AS->Hld->DH->Prop},(∀d g G',k d g G'->k' d g G')->wpI Z x E Y G k->wpI Z x E Y G k'
 |.seq a,G,k,k',h,q=>by
  rw[wA]at q ⊢;refine aK a (λx _ q=>?_) q;split at q
  .exact h _ _ _ q
  .exact q
 |.rng a,G,k,k',h,q=>by
  rw[wB]at q ⊢;refine aK a (λx _ q=>?_) q;split at q
  .exact ⟨q.1,h _ _ _ q.2⟩
  .exact q
 |.enm a,G,k,k',h,q=>by
  rw[wC]at q ⊢;refine aK a (λx _ q=>?_) q;split at q
  .exact h _ _ _ q
  .exact q
 |.zip a b,G,k,k',h,q=>by
  rw[wD]at q ⊢;refine aK a (λx _ q=>aK b (λy _ q=>?_) q) q;split at q
  .exact h _ _ _ q
  .exact q
end
structure En.Le(D D':En):Prop where
 nx:∀Y G,D.nx Y G->D'.nx Y G
 rt:∀d G,D.rt d G->D'.rt d G
 bk:∀Y G,D.bk Y G->D'.bk Y G
 ct:∀Y G,D.ct Y G->D'.ct Y G
theorem jP:∀(b:Tb){Y:ak}{G:DH}{nx nx':ak->DH->Prop}{ex ex':Xn->ak->DH->Prop},(∀Y G,nx Y G->nx' Y G)->(∀x Y G,ex x Y G->ex' x Y G)->wpX Z b Y G nx ex->wpX Z b Y G nx' ex'
 |.call f es,Y,G,nx,nx',ex,ex',h,h',q=>by rw[xM]at q ⊢;exact dO es (λ_ _ q=>Spec.mono q (λ_ _ z=>h _ _ z) λ_ _ z=>h' _ _ _ z) q
 |.pick f g i es,Y,G,nx,nx',ex,ex',h,h',q=>by
  rw[Ed]at q ⊢;exact aK (.var i) (λ_ _ q=>let ⟨b,e,q⟩:=q;⟨b,e,dO es (λ_ _ q=>Spec.mono q (λ_ _ z=>h _ _ z) λ_ _ z=>h' _ _ _ z) q⟩) q
 |.asg i f es,Y,G,nx,nx',ex,ex',h,h',q=>by rw[xN]at q ⊢;exact dO es (λ_ _ q=>Spec.mono q (λ_ _ z=>h _ _ z) λ_ _ z=>h' _ _ _ z) q
 |.ite c a b,Y,G,nx,nx',ex,ex',h,h',q=>by
  rw[xO]at q ⊢;refine cU c (λt _ q=>?_) q;cases t with
  |true=>exact jP a h h' q
  |false=>exact jP b h h' q
mutual
theorem wpS_mono{E:EK}:∀(x:Sx){Y:ak}{G:DH}{D D':En},D.Le D'->wpS Z x E Y G D->wpS Z x E Y G D'
 |.exp e,Y,G,D,D',h,q=>by rw[xj]at q ⊢;exact aK e (λ_ _ q=>h.nx _ _ q) q
 |.asg t e,Y,G,D,D',h,q=>by rw[jO]at q ⊢;exact aK e (λ_ _ q=>fX (λ_ q=>h.nx _ _ q) t q) q
 |.set o i e,Y,G,D,D',h,q=>by rw[xm]at q ⊢;exact aK e (λ_ _ q=>aK o (λ_ _ q=>aK i (λ_ _ q=>Ep (λ_ q=>h.nx _ _ q) q) q) q) q
 |.aug i op e,Y,G,D,D',h,q=>by
  rw[xq]at q ⊢;split at q
  .exact aK e (λ_ _ q=>Er (λ_ q=>h.nx _ _ q) q) q
  .exact q
 |.ret e,Y,G,D,D',h,q=>by rw[xr]at q ⊢;exact aK e (λ_ _ q=>h.rt _ _ q) q
 |.rtn,Y,G,D,D',h,q=>by rw[xu]at q ⊢;exact h.rt _ _ q
 |.ite c a b,Y,G,D,D',h,q=>by
  rw[xF]at q ⊢;refine cU c (λt _ q=>?_) q;cases t with
  |true=>exact c7 a h q
  |false=>exact c7 b h q
 |.for_ t it body,Y,G,D,D',h,q=>by
  rw[Ef]at q ⊢;exact mj it (λitems g G1 q=>Es (λd ρ' G' k k' hk z=>fX (λρ1 z=>c7 body (D:={ D with nx:=k,ct:=k,bk:=D.nx }) (D':={ D' with nx:=k',ct:=k',bk:=D'.nx }) ⟨hk,h.rt,h.nx,hk⟩ z) t z) h.nx items Y G1 q) q
 |.whl c body,Y,G,D,D',h,q=>by
  rw[Eg]at q ⊢;obtain ⟨n,q⟩:=q;refine ⟨n,?_⟩;refine Et ?_ ?_ h.nx n Y G q
  .exact λρ' G' k k' hk z=>cU c hk z
  .exact λρ' G' k k' hk z=>c7 body (D:={ D with nx:=k,ct:=k,bk:=D.nx }) (D':={ D' with nx:=k',ct:=k',bk:=D'.nx }) ⟨hk,h.rt,h.nx,hk⟩ z
 |.pas,Y,G,D,D',h,q=>by rw[xG]at q ⊢;exact h.nx _ _ q
 |.brk,Y,G,D,D',h,q=>by rw[xH]at q ⊢;exact h.bk _ _ q
 |.cnt,Y,G,D,D',h,q=>by rw[xJ]at q ⊢;exact h.ct _ _ q
 |.nev,Y,G,D,D',h,q=>by rw[xP]at q;exact q.elim
 |.rse C es,Y,G,D,D',h,q=>by rw[rW]at q ⊢;exact q
 |.tryx b C hd xs,Y,G,D,D',h,q=>by rw[rY]at q ⊢;exact jP b (λ_ _ z=>h.nx _ _ z) (λ_ _ _ z=>⟨z.1,z.2.1,z.2.2.1,h.nx _ _ z.2.2.2⟩) q
theorem c7{E:EK}:∀(x:Sxs){Y:ak}{G:DH}{D D':En},D.Le D'->au Z x E Y G D->au Z x E Y G D'
 |.nil,Y,G,D,D',h,q=>by rw[lY]at q ⊢;exact h.nx _ _ q
 |.cons s r,Y,G,D,D',h,q=>by rw[lZ]at q ⊢;exact wpS_mono s (D:={ D with nx:=λρ' G'=>au Z r E ρ' G' D }) (D':={ D' with nx:=λρ' G'=>au Z r E ρ' G' D' }) ⟨λ_ _ z=>c7 r h z,h.rt,h.bk,h.ct⟩ q
end
end
def PV(K:PF)(H:Hp)(F:FZ)(Q:VK):D->DH->Prop:=λd G'=>∀H' F' v,Ext H F H' F'->R K H' F' G'->Rep K H' F' d v->Q v H'
def PB(K:PF)(H:Hp)(F:FZ)(Q:Bool->Hp->Prop):Bool->DH->Prop:=λb G'=>∀H' F',Ext H F H' F'->R K H' F' G'->Q b H'
def PLs(K:PF)(H:Hp)(F:FZ)(Q:AR->Hp->Prop):AS->DH->Prop:=λds G'=>∀H' F' vs,Ext H F H' F'->R K H' F' G'->Reps K H' F' ds vs->Q vs H'
section
variable {K:PF} {H:Hp} {F:FZ} {G:DH} {Q:VK}
theorem PV.now{d:D}{v:V}(h:PV K H F Q d G)(r:R K H F G)(q:Rep K H F d v):Q v H:=h H F v (Ext.refl H F) r q
theorem dw{fz:Bool}{ds:AS}{vs:AR}(h:mk fz ds G (PV K H F Q))(r:R K H F G)(t:Reps K H F ds vs)(p:AQ)(hp:H p=none):Q (.ref p) (upd H p (.lst vs)):=by
 cases fz with
 |true=>exact h _ _ _ (vQ r hp) (r.newF hp) (WT r hp t)
 |false=>exact h p (r.free hp) _ _ _ (cM r hp) (r.newL hp t) rfl
theorem jQ{ds:AS}{vs:AR}(h:PV K H F Q (.tup ds) G)(r:R K H F G)(t:Reps K H F ds vs)(p:AQ)(hp:H p=none):Q (.ref p) (upd H p (.tup vs)):=
 h _ _ _ (cM r hp) (r.new hp) (vR r hp t)
end
def szl:sz<=sizeLine:=by rw[fw];decide
def cV{n:Nat}(h:n<=sz):n<=sizeLine:=ce h szl
def rB2(K:PF)(f:D->D->DH->(AT)->Prop):R2:=λx y H Q=>∃F G a b,R K H F G/\Rep K H F a x/\Rep K H F b y/\f (view G a) (view G b) G (PV K H F Q)
section
variable {X:Cx}
theorem W3:OpR X (binaryOp .Add) (λx y H Q=>∃a b xs ys,x=.ref a/\y=.ref b/\SqL X.K H a xs/\SqL X.K H b ys/\xs.length+ys.length<=sizeLine/\∀p,H p=none->Q (.ref p) (upd H p (.lst (xs++ys)))):=by
 intro p9 s Y H x y v u Q I rx ry h;obtain ⟨a,b,xs,ys,rfl,rfl,ha,hb,hz,q⟩:=h;cases rx;cases ry;obtain ⟨its,r1,p1,_⟩:=I.list ha;obtain ⟨its2,r2,p2,_⟩:=I.list hb;obtain ⟨⟨cls,dd,data,sl⟩,ho,hc,n,hd⟩:=p1.isList;obtain ⟨⟨cls2,dd2,data2,sl2⟩,ho2,hc2,n2,hd2⟩:=p2.isList;simp only at hc hd hc2 hd2;subst hc hd hc2 hd2;have e:its.toArray++its2.toArray=(its++its2).toArray:=by simp
 refine concat_meets ⟨_,ho,rfl⟩ ⟨_,ho2,rfl⟩ noFill_list_add seq_list_add PySem.F.slot_list_add PySem.F.entry_list_add (PySem.F.args_list_add_2 _ _)
  (list_addW a b its.toArray its2.toArray n n2 dd dd2 sl sl2 (by rw[am,am,<-r1.length,<-r2.length];exact hz)) ⟨ho,ho2,?_⟩
 rw[e];exact ⟨.ref _,_,I.lnew (t':=s.toks) (r1.append r2) (by rw[aI];exact hz),rfl,q _ I.fresh⟩
theorem W4:OpR X (binaryOp .Add) (λx y H Q=>∃a b ys,x=.ref a/\y=.ref b/\SqT X.K H a []/\SqT X.K H b ys/\Q (.ref b) H):=by
 intro p9 s Y H x y v u Q I rx ry h;obtain ⟨a,b,ys,rfl,rfl,ha,hb,q⟩:=h;cases rx;cases ry;obtain ⟨its,r1,p1,_⟩:=I.tuple ha;obtain ⟨its2,r2,p2,_⟩:=I.tuple hb;obtain ⟨⟨cls,dd,data,sl⟩,ho,hc,n,hd⟩:=id p1;obtain ⟨⟨cls2,dd2,data2,sl2⟩,ho2,hc2,n2,hd2⟩:=id p2;simp only at hc hd hc2 hd2;subst hc hd hc2 hd2;cases r1;exact concat_meets ⟨_,ho,rfl⟩ ⟨_,ho2,rfl⟩ noFill_tuple_add seq_tuple_add PySem.F.slot_tuple_add PySem.F.entry_tuple_add (PySem.F.args_tuple_add_2 _ _)
   (tuple_addW0 a b _ its2.toArray n n2 dd dd2 sl sl2 (by simp)) ⟨ho,ho2,⟨.ref b,H,I,rfl,q⟩⟩
theorem xV{K:PF}{H:Hp}{F:FZ}{ds:AS}{vs:AR}(t:Reps K H F ds vs):ds=[]↔vs=[]:=by
 have:=t.length;constructor
 .intro e;subst e;exact cK.mp this.symm
 .intro e;subst e;exact cK.mp this
theorem W5{x:Str}{n:Nat}(h1:n<=1000)(h:x.length * n<=sz):MulOk x (n:Int):=by
 have h2:((x.length * n:Nat):Int)<=((1000000:Nat):Int):=Int.ofNat_le.mpr h;rw[Int.natCast_mul]at h2;refine ⟨?_,?_,?_⟩
 .rw[bB (!0),bB (!0)];rfl
 .intro hn _ hh;have hp:(0:Int) < n:=by omega
  have h3:(x.length:Int)<=(2 ^ 63 - 1) / n:=(Int.le_ediv_iff_mul_le hp).mpr (Int.le_trans h2 (!1));exact absurd hh (Int.not_lt.mpr h3)
 .intro _ _;unfold Builtin.Str.tooLong;rw[fw,cb];exact bB (by have:sz=1000000:=rfl;omega)
theorem Ew(l:AA):∀(n:Nat)(acc:AA),(List.replicate n l.toArray).foldl (· ++ ·) acc.toArray=(acc++reps l n).toArray
 |0,acc=>by simp[reps]
 |n+1,acc=>by
  rw[ck,List.foldl_cons];have e:acc.toArray++l.toArray=(acc++l).toArray:=by simp
  rw[e,Ew l n (acc++l)];unfold reps;rw[ck,e6,List.append_assoc]
theorem W6(n:Nat):reps ([]:AA) n=[]:=by
 unfold reps;induction n with
 |zero=>rfl
 |succ n ih=>rw[ck,e6,ih];rfl
theorem W7{α:Type}(l:List α)(n:Nat):(reps l n).length=n * l.length:=len_rep l n
theorem W8(l:AA)(n:Nat):Txt.mul (tx l) (n:Int)=tx (reps l n):=by
 unfold Txt.mul;by_cases h:(n:Int) < 1
 .rw[if_pos h];have:n=0:=by omega
  subst this;rfl
 .rw[if_neg h];by_cases h2:((n:Int)==1||(tx l).length==0)=true
  .rw[if_pos h2];rw[cy]at h2;rcases h2 with h2 |h2
   .have:n=1:=by have:=eq_of_beq h2;omega
    subst this;simp[reps]
   .have h3:=eq_of_beq h2;rw[bV]at h3;have:l=[]:=cK.mp h3;subst this;rw[W6]
  .rw[if_neg h2];have e:=Ew l n [];rw[List.nil_append]at e;exact eK Str.mk (!!e)
theorem W9(op:Operator)(fz:Bool):OpR X (binaryOp op) (rB2 X.K (cz op fz)):=by
 intro p9 s Y H x y v u Q I rx ry h;obtain ⟨F,G,a,b,r,ra,rb,h⟩:=h;generalize ea:view G a=va at h;generalize eb:view G b=vb at h;have twoI:∀{p:Int->Int->Prop},gJ va vb p->∃i j,x=.int i/\y=.int j/\p i j:=λ{p} h=>by
  obtain ⟨i,j,rfl,rfl,h⟩:=Eh h;cases dY ea;cases dY eb;exact ⟨i,j,ra,rb,h⟩
 cases op with
 |Add=>
  have h:jC fz va vb G _:=h;unfold jC at h;cases va with
  |int _=>cases vb with
   |int _=>
    cases dY ea;cases dY eb;have ha:x=.int _:=ra;have hb:y=.int _:=rb;subst ha;subst hb;exact RD p9 s Y H _ _ v u Q I rx ry ⟨_,_,rfl,rfl,h.now r rfl⟩
   |_=>exact h.elim
  |str _=>cases vb with
   |str _=>
    cases gH ea;cases gH eb;obtain ⟨ha,la⟩:=ra;obtain ⟨hb,lb⟩:=rb;subst ha;subst hb;refine R3 p9 s Y H _ _ v u Q I rx ry ⟨_,_,rfl,rfl,?_,?_⟩
    .rw[bV,bV];exact cV h.1
    .rw[qT];exact h.2.now r ⟨rfl,by rw[aI];exact h.1⟩
   |_=>exact h.elim
  |lst _=>cases vb with
   |lst _=>
    obtain ⟨p,vs,rfl,q1,t1⟩:=Rep.list r ra ea;obtain ⟨p',vs',rfl,q2,t2⟩:=Rep.list r rb eb;exact W3 p9 s Y H _ _ v u Q I rx ry ⟨p,p',vs,vs',rfl,rfl,q1,q2,by rw[<-t1.length,<-t2.length];exact cV h.1,dw h.2 r (t1.append t2)⟩
   |_=>exact h.elim
  |tup xs=>cases vb with
   |tup ys=>
    cases fQ ea;cases fQ eb;obtain ⟨p,vs,rfl,q1,t1⟩:=id ra;obtain ⟨p',vs',rfl,q2,t2⟩:=id rb;by_cases hx:vs=[]
    .subst hx;have:xs=[]:=(xV t1).mpr rfl;subst this;exact W4 p9 s Y H _ _ v u Q I rx ry ⟨p,p',vs',rfl,rfl,q1.sq,q2.sq,h.2.now r rb⟩
    .refine Th p9 s Y H _ _ v u Q I rx ry ⟨p,p',vs,vs',rfl,rfl,q1.sq,q2.sq,hx,by rw[<-t1.length,<-t2.length];exact cV h.1,λe=>?_,λ_=>jQ h.2 r (t1.append t2)⟩;subst e;have:ys=[]:=(xV t2).mpr rfl;subst this;have h2:=h.2;rw[d6]at h2;exact h2.now r ra
   |_=>exact h.elim
  |_=>exact h.elim
 |Sub=>
  obtain ⟨i,j,rfl,rfl,h⟩:=twoI h;exact RG p9 s Y H _ _ v u Q I rx ry ⟨_,_,rfl,rfl,h.now r rfl⟩
 |Mult=>
  have h:jD fz va vb G _:=h;unfold jD at h;cases vb with
  |int _=>cases va with
   |int _=>
    cases dY ea;cases dY eb;have ha:x=.int _:=ra;have hb:y=.int _:=rb;subst ha;subst hb;exact RJ p9 s Y H _ _ v u Q I rx ry ⟨_,_,rfl,rfl,h.1,h.2.now r rfl⟩
   |str _=>
    cases gH ea;cases dY eb;obtain ⟨ha,la⟩:=ra;have hb:y=.int _:=rb;subst ha;subst hb;obtain ⟨h0,h1,h2,h3⟩:=h;obtain ⟨n,rfl⟩:=ci h0;rw[cb]at h2 h3;refine Um p9 s Y H _ _ v u Q I rx ry ⟨_,_,rfl,rfl,W5 (!0) (by rw[bV];exact h2),?_⟩;rw[W8];exact h3.now r ⟨rfl,by rw[W7,Nat.mul_comm];exact h2⟩
   |tup _=>
    cases fQ ea;cases dY eb;obtain ⟨p,vs,rfl,q1,t1⟩:=ra;have hb:y=.int _:=rb;subst hb;obtain ⟨h0,h1,h2,h3,h4⟩:=h;refine VG p9 s Y H _ _ v u Q I rx ry ⟨p,_,vs,rfl,rfl,q1.sq,λe=>h2 ((xV t1).mpr e),h0,h1,by rw[<-t1.length];exact cV h3,?_⟩;exact jQ h4 r (t1.rep _)
   |lst _=>
    cases dY eb;have hb:y=.int _:=rb;subst hb;obtain ⟨p,vs,rfl,q1,t1⟩:=ra.list r ea;obtain ⟨h0,h1,h2,h3⟩:=h;exact VM p9 s Y H _ _ v u Q I rx ry ⟨p,_,vs,rfl,rfl,q1,h0,h1,by rw[<-t1.length];exact cV h2,dw h3 r (t1.rep _)⟩
   |_=>exact h.elim
  |_=>exact h.elim
 |FloorDiv=>
  obtain ⟨i,j,rfl,rfl,h⟩:=twoI h;exact Vv p9 s Y H _ _ v u Q I rx ry ⟨_,_,rfl,rfl,h.1,h.2.now r rfl⟩
 |Mod=>
  obtain ⟨i,j,rfl,rfl,h⟩:=twoI h;exact RK p9 s Y H _ _ v u Q I rx ry ⟨_,_,rfl,rfl,h.1,h.2.now r rfl⟩
 |Pow=>
  obtain ⟨i,j,rfl,rfl,h⟩:=twoI h;exact RL p9 s Y H _ _ v u Q I rx ry ⟨_,_,rfl,rfl,h.1,h.2.now r rfl⟩
 |_=>exact h.elim
end
mutual
theorem xW:∀{d:D},nr d=true->deq d d=true
 |.non,_=>rfl
 |.bl b,_=>by simp[deq]
 |.int i,_=>by simp[deq]
 |.str l,_=>by simp[deq]
 |.tup xs,h=>by rw[deq];exact sG (by rw[nr]at h;exact h)
 |.lst xs,h=>by rw[deq];exact sG (by rw[nr]at h;exact h)
 |.ref a,h=>by rw[nr]at h;cases h
 |.scr a,h=>by rw[nr]at h;cases h
 |.exn a,h=>by rw[nr]at h;cases h
 |.exa _ _ _,h=>by rw[nr]at h;cases h
 |.obj _ _ _,h=>by rw[nr]at h;cases h
 |.dct _ _,h=>by rw[nr]at h;cases h
theorem sG:∀{ds:AS},nrs ds=true->bJ ds ds=true
 |[],_=>rfl
 |d::ds,h=>by
  rw[nrs,ae]at h;rw[bJ,xW h.1,sG h.2];rfl
end
def sH:∀(xs ys:AS),bJ xs ys=((List.range (min xs.length ys.length)).all (λj=>deq (xs.getD j .non) (ys.getD j .non))&&xs.length==ys.length)
 |[],[]=>rfl
 |[],y::ys=>by simp[bJ]
 |x::xs,[]=>by simp[bJ]
 |x::xs,y::ys=>by
  have e:min (x::xs).length (y::ys).length=(min xs.length ys.length)+1:=by simp only[c6];omega
  rw[bJ,sH xs ys,e,List.range_succ_eq_map,List.all_cons,List.all_map];simp only[List.getD_cons_zero,c6,Bool.and_assoc];congr 1;congr 1;rw[Bool.eq_iff_iff];simp
def Xa{xs ys:AS}(h:xs.length≠ys.length):bJ xs ys=false:=by rw[sH];rw[show (xs.length==ys.length)=false from cr.mpr h,fh]
def mq:∀{xs:AS}{i:Nat},nrs xs=true->nr (xs.getD i .non)=true
 |[],_,_=>rfl
 |x::xs,0,h=>by rw[nrs,ae]at h;exact h.1
 |x::xs,i+1,h=>by rw[nrs,ae]at h;rw[List.getD_cons_succ];exact mq h.2
def my:∀{xs:AS}{i:Nat},dpt (xs.getD i .non)<=aV xs
 |[],_=>dE _
 |x::xs,0=>by rw[aV,List.getD_cons_zero];omega
 |x::xs,i+1=>by rw[aV,List.getD_cons_succ];have:=@my xs i;omega
section
variable {X:Cx} {p9:AC} {σ:L2.St} {H:Hp} {s:AI} {F:FZ}
mutual
theorem sI(I:Inv X p9 σ H s):∀{d d':D}{v:V},nr d=true->nr d'=true->Rep X.K H F d v->Rep X.K H F d' v->d=d'
 |.non,d',v,_,n',h,h'=>by
  have h:v=.non:=h;subst h;cases d' with
  |non=>rfl
  |bl _=>simp only[Rep]at h';cases h'
  |int _=>simp only[Rep]at h';cases h'
  |ref _=>simp only[Rep]at h';cases h'
  |scr _=>rw[nr]at n';cases n'
  |exn _=>rw[nr]at n';cases n'
  |exa _ _ _=>rw[nr]at n';cases n'
  |obj _ _ _=>rw[nr]at n';cases n'
  |dct _ _=>rw[nr]at n';cases n'
  |str _=>simp only[Rep]at h';obtain ⟨e,_⟩:=h';cases e
  |tup _=>simp only[Rep]at h';obtain ⟨_,_,e,_⟩:=h';cases e
  |lst _=>simp only[Rep]at h';obtain ⟨_,_,e,_⟩:=h';cases e
 |.bl b,d',v,_,n',h,h'=>by
  have h:v=.bl b:=h;subst h;cases d' with
  |non=>simp only[Rep]at h';cases h'
  |bl _=>simp only[Rep]at h';cases h';rfl
  |int _=>simp only[Rep]at h';cases h'
  |ref _=>simp only[Rep]at h';cases h'
  |scr _=>rw[nr]at n';cases n'
  |exn _=>rw[nr]at n';cases n'
  |exa _ _ _=>rw[nr]at n';cases n'
  |obj _ _ _=>rw[nr]at n';cases n'
  |dct _ _=>rw[nr]at n';cases n'
  |str _=>simp only[Rep]at h';obtain ⟨e,_⟩:=h';cases e
  |tup _=>simp only[Rep]at h';obtain ⟨_,_,e,_⟩:=h';cases e
  |lst _=>simp only[Rep]at h';obtain ⟨_,_,e,_⟩:=h';cases e
 |.int b,d',v,_,n',h,h'=>by
  have h:v=.int b:=h;subst h;cases d' with
  |non=>simp only[Rep]at h';cases h'
  |bl _=>simp only[Rep]at h';cases h'
  |int _=>simp only[Rep]at h';cases h';rfl
  |ref _=>simp only[Rep]at h';cases h'
  |scr _=>rw[nr]at n';cases n'
  |exn _=>rw[nr]at n';cases n'
  |exa _ _ _=>rw[nr]at n';cases n'
  |obj _ _ _=>rw[nr]at n';cases n'
  |dct _ _=>rw[nr]at n';cases n'
  |str _=>simp only[Rep]at h';obtain ⟨e,_⟩:=h';cases e
  |tup _=>simp only[Rep]at h';obtain ⟨_,_,e,_⟩:=h';cases e
  |lst _=>simp only[Rep]at h';obtain ⟨_,_,e,_⟩:=h';cases e
 |.str l,d',v,_,n',h,h'=>by
  obtain ⟨h,_⟩:=h;subst h;cases d' with
  |str l'=>
   obtain ⟨e,_⟩:=h';injection e with e;rw[Cq e]
  |non=>simp only[Rep]at h';cases h'
  |bl _=>simp only[Rep]at h';cases h'
  |int _=>simp only[Rep]at h';cases h'
  |ref _=>simp only[Rep]at h';cases h'
  |scr _=>rw[nr]at n';cases n'
  |exn _=>rw[nr]at n';cases n'
  |exa _ _ _=>rw[nr]at n';cases n'
  |obj _ _ _=>rw[nr]at n';cases n'
  |dct _ _=>rw[nr]at n';cases n'
  |tup _=>simp only[Rep]at h';obtain ⟨_,_,e,_⟩:=h';cases e
  |lst _=>simp only[Rep]at h';obtain ⟨_,_,e,_⟩:=h';cases e
 |.tup xs,d',v,n,n',h,h'=>by
  obtain ⟨a,vs,e,q,t⟩:=h;subst e;cases d' with
  |tup ys=>
   obtain ⟨a',vs',e,q',t'⟩:=h';injection e with e;subst e;have:=I.tuple_inj q.sq q'.sq;subst this;rw[nr]at n n';rw[xX I n n' t t']
  |lst ys=>
   obtain ⟨a',vs',e,q',t'⟩:=h';injection e with e;subst e;obtain ⟨its,_,⟨o,e1,c1,_⟩,_⟩:=I.tuple q.sq;obtain ⟨its',_,⟨o',n',e2,c2,_⟩,_⟩:=I.list q'.sq;rw[e1]at e2;cases e2;rw[c1]at c2;exact absurd c2 (by ac_rfl)
  |ref _=>rw[nr]at n';cases n'
  |scr _=>rw[nr]at n';cases n'
  |exn _=>rw[nr]at n';cases n'
  |exa _ _ _=>rw[nr]at n';cases n'
  |obj _ _ _=>rw[nr]at n';cases n'
  |dct _ _=>rw[nr]at n';cases n'
  |str _=>simp only[Rep]at h';obtain ⟨e,_⟩:=h';cases e
  |non=>simp only[Rep]at h';cases h'
  |bl _=>simp only[Rep]at h';cases h'
  |int _=>simp only[Rep]at h';cases h'
 |.lst xs,d',v,n,n',h,h'=>by
  obtain ⟨a,vs,e,q,t⟩:=h;subst e;cases d' with
  |lst ys=>
   obtain ⟨a',vs',e,q',t'⟩:=h';injection e with e;subst e;have:=I.list_inj q.sq q'.sq;subst this;rw[nr]at n n';rw[xX I n n' t t']
  |tup ys=>
   obtain ⟨a',vs',e,q',t'⟩:=h';injection e with e;subst e;obtain ⟨its,_,⟨o,e1,c1,_⟩,_⟩:=I.tuple q'.sq;obtain ⟨its',_,⟨o',n',e2,c2,_⟩,_⟩:=I.list q.sq;rw[e1]at e2;cases e2;rw[c1]at c2;exact absurd c2 (by ac_rfl)
  |ref _=>rw[nr]at n';cases n'
  |scr _=>rw[nr]at n';cases n'
  |exn _=>rw[nr]at n';cases n'
  |exa _ _ _=>rw[nr]at n';cases n'
  |obj _ _ _=>rw[nr]at n';cases n'
  |dct _ _=>rw[nr]at n';cases n'
  |str _=>simp only[Rep]at h';obtain ⟨e,_⟩:=h';cases e
  |non=>simp only[Rep]at h';cases h'
  |bl _=>simp only[Rep]at h';cases h'
  |int _=>simp only[Rep]at h';cases h'
 |.ref a,d',v,n,_,_,_=>by rw[nr]at n;cases n
 |.scr a,d',v,n,_,_,_=>by rw[nr]at n;cases n
 |.exn a,d',v,n,_,_,_=>by rw[nr]at n;cases n
 |.exa _ _ _,d',v,n,_,_,_=>by rw[nr]at n;cases n
 |.obj _ _ _,d',v,n,_,_,_=>by rw[nr]at n;cases n
 |.dct _ _,d',v,n,_,_,_=>by rw[nr]at n;cases n
theorem xX(I:Inv X p9 σ H s):∀{ds ds':AS}{vs:AR},nrs ds=true->nrs ds'=true->Reps X.K H F ds vs->Reps X.K H F ds' vs->ds=ds'
 |[],[],_,_,_,_,_=>rfl
 |[],_::_,_,_,_,h,⟨v,r,e,_⟩=>by have h:_=[]:=h;rw[h]at e;cases e
 |_::_,[],_,_,_,⟨v,r,e,_⟩,h=>by have h:_=[]:=h;rw[h]at e;cases e
 |d::ds,d'::ds',_,n,n',⟨v,r,e,h,t⟩,⟨v',r',e',h',t'⟩=>by
  subst e;injection e' with e1 e2;subst e1;subst e2;rw[nrs,ae]at n n';rw[sI I n.1 n'.1 h h',xX I n.2 n'.2 t t']
end
theorem sJ{I:Inv X p9 Y H s}{ds:AS}{vs:AR}{its:AB}(t:Reps X.K H F ds vs)(r:Vals vs its)(j:Nat)(h:j < its.length):∃v,Rep X.K H F (ds.getD j .non) v/\RelV v its[j]:=by
 have hl:j < ds.length:=by rw[t.length,r.length];exact h
 have e1:ds[j]?=some (ds.getD j .non):=by rw[cS,aE hl];rfl
 obtain ⟨v,e2,r2⟩:=t.get e1;obtain ⟨u,e3,r3⟩:=r.get e2;rw[aE h]at e3;cases e3;exact ⟨v,r2,r3⟩
theorem Xb(a b:AA):(tx a==tx b)=(a==b):=by rw[Bool.eq_iff_iff,av,av];exact ⟨λh=>Cq h,λh=>by rw[h]⟩
theorem Xc(I:Inv X p9 Y H s){n:Nat}{A:AM}{xs ys:AS}{a a':AQ}{vs vs':AR}{its its':AB}
  (ih:∀m,m < n->∀(A:AM)(d d':D)(v v':V)(u u':AN),A.units+m < cLine->min (dpt d) (dpt d')<=m->nr d=true->nr d'=true->Rep X.K H F d v->Rep X.K H F d' v'->RelV v u->RelV v' u'->
   SeqAt.RcAt A s u u' (deq d d')/\SeqAt.EqAt A s u u' (deq d d')/\SeqAt.RcNeAt A s u u' (!deq d d'))
  (hu:A.units+n < cLine) (hd:min (dpt (.tup xs)) (dpt (.tup ys))<=n) (n1:nr (.tup xs)=true) (n2:nr (.tup ys)=true) (h:Rep X.K H F (.tup xs) (.ref a)) (h':Rep X.K H F (.tup ys) (.ref a'))
  (pt:s.heap.IsTuple a its.toArray) (pt':s.heap.IsTuple a' its'.toArray) (rv:Vals vs its) (rv':Vals vs' its') (tt:Reps X.K H F xs vs) (tt':Reps X.K H F ys vs'):
  SeqAt.RcAt A s (.ref a) (.ref a') (deq (.tup xs) (.tup ys))/\SeqAt.EqAt A s (.ref a) (.ref a') (deq (.tup xs) (.tup ys))/\SeqAt.RcNeAt A s (.ref a) (.ref a') (!deq (.tup xs) (.tup ys)):=by
 have hd':min (aV xs+1) (aV ys+1)<=n:=by rw[dpt,dpt]at hd;exact hd
 have hn1:nrs xs=true:=by rw[nr]at n1;exact n1
 have hn2:nrs ys=true:=by rw[nr]at n2;exact n2
 have l1:its.toArray.size=xs.length:=by rw[am,<-rv.length,tt.length]
 have l2:its'.toArray.size=ys.length:=by rw[am,<-rv'.length,tt'.length]
 have he:∀j (h1:j < its.toArray.size) (h2:j < its'.toArray.size),SeqAt.EqAt A.in1 s its.toArray[j] its'.toArray[j] (deq (xs.getD j .non) (ys.getD j .non)):=by intro j h1 h2;obtain ⟨w1,q1,q2⟩:=sJ (I:=I) tt rv j (!!h1);obtain ⟨w2,q3,q4⟩:=sJ (I:=I) tt' rv' j (!!h2);have d1:=@my xs j;have d2:=@my ys j;exact (ih (n - 1) (!0) A.in1 _ _ w1 w2 _ _ (by show A.units+1+(n - 1) < cLine;omega) (!0) (mq hn1) (mq hn2) q1 q3 (!!q2) (!!q4)).2.1
 have e:deq (.tup xs) (.tup ys)=((List.range (min its.toArray.size its'.toArray.size)).all (λj=>deq (xs.getD j .non) (ys.getD j .non))&&its.toArray.size==its'.toArray.size):=by rw[deq,sH,l1,l2]
 have rc:SeqAt.RcAt A s (.ref a) (.ref a') (deq (.tup xs) (.tup ys)):=by rw[e];exact .tuples pt pt' (!0) he
 refine ⟨rc,?_,by rw[e];exact .tuples pt pt' (!0) he⟩;by_cases z:a=a'
 .subst z;have:=sI I n1 n2 h h';rw[<-this,xW n1];exact .same _
 .exact .of_refs z rc
theorem Xd(I:Inv X p9 Y H s){n:Nat}{A:AM}{xs ys:AS}{a a':AQ}{vs vs':AR}{its its':AB}
  (ih:∀m,m < n->∀(A:AM)(d d':D)(v v':V)(u u':AN),A.units+m < cLine->min (dpt d) (dpt d')<=m->nr d=true->nr d'=true->Rep X.K H F d v->Rep X.K H F d' v'->RelV v u->RelV v' u'->
   SeqAt.RcAt A s u u' (deq d d')/\SeqAt.EqAt A s u u' (deq d d')/\SeqAt.RcNeAt A s u u' (!deq d d'))
  (hu:A.units+n < cLine) (hd:min (dpt (.lst xs)) (dpt (.lst ys))<=n) (n1:nr (.lst xs)=true) (n2:nr (.lst ys)=true) (h:a=a'->xs=ys)
  (pt:s.heap.IsList a its.toArray) (pt':s.heap.IsList a' its'.toArray) (rv:Vals vs its) (rv':Vals vs' its') (tt:Reps X.K H F xs vs) (tt':Reps X.K H F ys vs'):
  SeqAt.RcAt A s (.ref a) (.ref a') (deq (.lst xs) (.lst ys))/\SeqAt.EqAt A s (.ref a) (.ref a') (deq (.lst xs) (.lst ys))/\SeqAt.RcNeAt A s (.ref a) (.ref a') (!deq (.lst xs) (.lst ys)):=by
 have hd':min (aV xs+1) (aV ys+1)<=n:=by rw[dpt,dpt]at hd;exact hd
 have hn1:nrs xs=true:=by rw[nr]at n1;exact n1
 have hn2:nrs ys=true:=by rw[nr]at n2;exact n2
 have l1:its.toArray.size=xs.length:=by rw[am,<-rv.length,tt.length]
 have l2:its'.toArray.size=ys.length:=by rw[am,<-rv'.length,tt'.length]
 have eqs:∀(rc:SeqAt.RcAt A s (.ref a) (.ref a') (deq (.lst xs) (.lst ys))),SeqAt.EqAt A s (.ref a) (.ref a') (deq (.lst xs) (.lst ys)):=λrc=>by
  by_cases z:a=a'
  .have:=h z;subst z;subst this;rw[xW n1];exact .same _
  .exact .of_refs z rc
 by_cases hl:xs.length=ys.length
 .have he:∀j (h1:j < its.toArray.size) (h2:j < its'.toArray.size),SeqAt.EqAt A.in1 s its.toArray[j] its'.toArray[j] (deq (xs.getD j .non) (ys.getD j .non)):=by
   intro j h1 h2;obtain ⟨w1,q1,q2⟩:=sJ (I:=I) tt rv j (!!h1);obtain ⟨w2,q3,q4⟩:=sJ (I:=I) tt' rv' j (!!h2);have d1:=@my xs j;have d2:=@my ys j;exact (ih (n - 1) (!0) A.in1 _ _ w1 w2 _ _ (by show A.units+1+(n - 1) < cLine;omega) (!0) (mq hn1) (mq hn2) q1 q3 (!!q2) (!!q4)).2.1
  have e:deq (.lst xs) (.lst ys)=(List.range its.toArray.size).all (λj=>deq (xs.getD j .non) (ys.getD j .non)):=by rw[deq,sH,l1,hl,Nat.min_self];simp
  have rc:SeqAt.RcAt A s (.ref a) (.ref a') (deq (.lst xs) (.lst ys)):=by rw[e];exact .lists pt pt' (by rw[l1,l2];exact hl) (!0) he
  exact ⟨rc,eqs rc,by rw[e];exact .lists pt pt' (by rw[l1,l2];exact hl) (!0) he⟩
 .have e:deq (.lst xs) (.lst ys)=false:=by rw[deq];exact Xa hl
  have hne:(its.toArray.size != its'.toArray.size)=true:=by rw[l1,l2];simpa using hl
  have rc:SeqAt.RcAt A s (.ref a) (.ref a') (deq (.lst xs) (.lst ys)):=by rw[e];exact .lists_lengths pt pt' hne (!0)
  exact ⟨rc,eqs rc,by rw[e];exact .lists_lengths pt pt' hne (!0)⟩
inductive Sh (K:PF) (H:Hp) (F:FZ) (s:AI):D->V->AN->Prop
 |non:Sh K H F s .non .non .none
 |bl {b:Bool}:Sh K H F s (.bl b) (.bl b) (.bool b)
 |int {i:Int} {t:Tok}:Sh K H F s (.int i) (.int i) (.int i t)
 |str {l:AA} {t:Tok}:Sh K H F s (.str l) (.str (tx l)) (.str (tx l) t)
 |tup {ds:AS} {a:AQ} {vs:AR} {its:AB} (p:s.heap.IsTuple a its.toArray) (r:Vals vs its) (t:Reps K H F ds vs):Sh K H F s (.tup ds) (.ref a) (.ref a)
 |lst {ds:AS} {a:AQ} {vs:AR} {its:AB} (p:s.heap.IsList a its.toArray) (r:Vals vs its) (t:Reps K H F ds vs):Sh K H F s (.lst ds) (.ref a) (.ref a)
theorem Ey(I:Inv X p9 Y H s){d:D}{v:V}{u:AN}(n:nr d=true)(h:Rep X.K H F d v)(r:RelV v u):Sh X.K H F s d v u:=by
 cases d with
 |non=>have e:v=.non:=h;subst e;have e:u=Value.none:=r;subst e;exact .non
 |bl b=>have e:v=.bl b:=h;subst e;have e:u=Value.bool b:=r;subst e;exact .bl
 |int i=>have e:v=.int i:=h;subst e;obtain ⟨t,e⟩:∃t,u=Value.int i t:=r;subst e;exact .int
 |str l=>obtain ⟨e,_⟩:=h;subst e;obtain ⟨t,e⟩:∃t,u=Value.str (tx l) t:=r;subst e;exact .str
 |tup ds=>obtain ⟨a,vs,e,q,tt⟩:=h;subst e;have e:u=Value.ref a:=r;subst e;obtain ⟨its,rv,pt,_⟩:=I.tuple q.sq;exact .tup pt rv tt
 |lst ds=>obtain ⟨a,vs,e,q,tt⟩:=h;subst e;have e:u=Value.ref a:=r;subst e;obtain ⟨its,rv,pl,_⟩:=I.list q.sq;exact .lst pl.isList rv tt
 |_=>rw[nr]at n;cases n
theorem xY(I:Inv X p9 Y H s):∀(n:Nat)(A:AM)(d d':D)(v v':V)(u u':AN),A.units+n < cLine->min (dpt d) (dpt d')<=n->nr d=true->nr d'=true->Rep X.K H F d v->Rep X.K H F d' v'->RelV v u->RelV v' u'->
  SeqAt.RcAt A s u u' (deq d d')/\SeqAt.EqAt A s u u' (deq d d')/\SeqAt.RcNeAt A s u u' (!deq d d'):=by
 intro n;induction n using Nat.strongRecOn with
 |_ n ih=>
  intro A d d' v v' u u' hu hd n1 n2 h h' r r';have hu0:A.units < cLine:=by omega
  have k2:=Ey I n2 h' r';cases Ey I n1 h r with
  |non=>
   cases k2 with
   |non=>exact ⟨.none_none,.same _,.none_none⟩
   |bl=>exact ⟨.none_bool _,.none_bool _,.none_bool _⟩
   |int=>exact ⟨.none_int _ _,.none_int _ _,.none_int _ _⟩
   |str=>exact ⟨.none_str _ _,.none_str _ _,.none_str _ _⟩
   |tup p' rv' tt'=>exact ⟨.none_tuple p' hu0,.none_tuple p' hu0,.none_tuple p' hu0⟩
   |lst p' rv' tt'=>exact ⟨.none_list p' hu0,.none_list p' hu0,.none_list p' hu0⟩
  |bl=>
   cases k2 with
   |non=>exact ⟨.bool_none _,.bool_none _,.bool_none _⟩
   |bl=>exact ⟨.bool_bool _ _,.bool_bool _ _,.bool_bool _ _⟩
   |int=>exact ⟨.bool_int _ _ _,.bool_int _ _ _,.bool_int _ _ _⟩
   |str=>exact ⟨.bool_str _ _ _,.bool_str _ _ _,.bool_str _ _ _⟩
   |tup p' rv' tt'=>exact ⟨.bool_tuple _ p' hu0,.bool_tuple _ p' hu0,.bool_tuple _ p' hu0⟩
   |lst p' rv' tt'=>exact ⟨.bool_list _ p' hu0,.bool_list _ p' hu0,.bool_list _ p' hu0⟩
  |int=>
   cases k2 with
   |non=>exact ⟨.int_none _ _,.int_none _ _,.int_none _ _⟩
   |bl=>exact ⟨.int_bool _ _ _,.int_bool _ _ _,.int_bool _ _ _⟩
   |int=>exact ⟨.int_int _ _ _ _,.int_int _ _ _ _,.int_int _ _ _ _⟩
   |str=>exact ⟨.int_str _ _ _ _,.int_str _ _ _ _,.int_str _ _ _ _⟩
   |tup p' rv' tt'=>exact ⟨.int_tuple _ _ p' hu0,.int_tuple _ _ p' hu0,.int_tuple _ _ p' hu0⟩
   |lst p' rv' tt'=>exact ⟨.int_list _ _ p' hu0,.int_list _ _ p' hu0,.int_list _ _ p' hu0⟩
  |str=>
   cases k2 with
   |non=>exact ⟨.str_none _ _,.str_none _ _,.str_none _ _⟩
   |bl=>exact ⟨.str_bool _ _ _,.str_bool _ _ _,.str_bool _ _ _⟩
   |int=>exact ⟨.str_int _ _ _ _,.str_int _ _ _ _,.str_int _ _ _ _⟩
   |str=>rw[deq,<-Xb];exact ⟨.str_str _ _ _ _,.str_str _ _ _ _,.str_str _ _ _ _⟩
   |tup p' rv' tt'=>exact ⟨.str_tuple _ _ p' hu0,.str_tuple _ _ p' hu0,.str_tuple _ _ p' hu0⟩
   |lst p' rv' tt'=>exact ⟨.str_list _ _ p' hu0,.str_list _ _ p' hu0,.str_list _ _ p' hu0⟩
  |tup p rv tt=>
   cases k2 with
   |non=>exact ⟨.tuple_none p hu0,.tuple_none p hu0,.tuple_none p hu0⟩
   |bl=>exact ⟨.tuple_bool _ p hu0,.tuple_bool _ p hu0,.tuple_bool _ p hu0⟩
   |int=>exact ⟨.tuple_int _ _ p hu0,.tuple_int _ _ p hu0,.tuple_int _ _ p hu0⟩
   |str=>exact ⟨.tuple_str _ _ p hu0,.tuple_str _ _ p hu0,.tuple_str _ _ p hu0⟩
   |tup p' rv' tt'=>exact Xc I ih hu hd n1 n2 h h' p p' rv rv' tt tt'
   |lst p' rv' tt'=>exact ⟨.tuple_list p p' hu0,.tuple_list p p' hu0,.tuple_list p p' hu0⟩
  |lst p rv tt=>
   cases k2 with
   |non=>exact ⟨.list_none p hu0,.list_none p hu0,.list_none p hu0⟩
   |bl=>exact ⟨.list_bool _ p hu0,.list_bool _ p hu0,.list_bool _ p hu0⟩
   |int=>exact ⟨.list_int _ _ p hu0,.list_int _ _ p hu0,.list_int _ _ p hu0⟩
   |str=>exact ⟨.list_str _ _ p hu0,.list_str _ _ p hu0,.list_str _ _ p hu0⟩
   |tup p' rv' tt'=>exact ⟨.list_tuple p p' hu0,.list_tuple p p' hu0,.list_tuple p p' hu0⟩
   |lst p' rv' tt'=>exact Xd I ih hu hd n1 n2 (λz=>by subst z;have e:=sI I n1 n2 h h';injection e) p p' rv rv' tt tt'
end
def FA(F:FZ)(G:DH):FZ:=λa=>F a\/∃o,G a=some o
def xZ{H:Hp}{F:FZ}{G:DH}:Ext H F H (FA F G):=⟨λ_ f=>.inl f,λ_ _=>rfl,λ_ _ h=>h,λ_ _ _ h=>h⟩
def sO{K:PF}{H:Hp}{F:FZ}{G:DH}{d:D}{v:V}(r:R K H F G)(h:Rep K H F d v):Rep K H (FA F G) (view G d) v:=by
 cases d with
 |ref p=>
  have hv:v=.ref p:=h;cases g:G p with
  |none=>
   have e:view G (.ref p)=.ref p:=by simp only[view,g]
   rw[e];exact hv
  |some o=>
   cases o with
   |lst ds=>
    have e:view G (.ref p)=.lst ds:=by simp only[view,g]
    rw[e];obtain ⟨vs,q,t⟩:=r.lst g;exact ⟨p,vs,hv,⟨.inr ⟨_,g⟩,q⟩,Reps.ext xZ t⟩
   |dct ks ds=>
    have e:view G (.ref p)=.dct ks ds:=by simp only[view,g]
    rw[e];obtain ⟨kv,q,hk,t⟩:=r.dct g;exact ⟨p,kv,hv,⟨.inr ⟨_,g⟩,q⟩,hk,Reps.ext xZ t⟩
 |_=>exact Rep.ext xZ h
def Ez{a b:List Int}(h:bj a=bj b):a=b:=by unfold bj at h;exact (List.map_inj_right λ_ _ e=>Sum.inl.inj e).mp h
def EY(n:List Int):(bj n).map kV=n.map V.int:=by unfold bj;rw[dc];rfl
def yc:∀(ks:List (List Int))(kv:List (List Key×V))(n:List Int),kv.map (·.1)=ks.map bj->cg kv (bj n)=(kIx ks n).bind λi=>(kv.map (·.2))[i]?
 |[],kv,n,h=>by cases List.map_eq_nil_iff.mp h;rfl
 |k::ks,[],n,h=>by cases h
 |k::ks,p::kv,n,h=>by
  have h1:p.1=bj k:=(gV h).1;have h2:kv.map (·.1)=ks.map bj:=(gV h).2;have ih:=yc ks kv n h2;by_cases e:k=n
  .subst e;rw[q8 h1];simp[kIx,eM]
  .rw[q9 (by rw[h1];exact λz=>e (Ez z)),ih];unfold kIx;rw[eM,if_neg (!!e)];cases ks.findIdx? (λk=>decide (k=n)) <;> rfl
def Fb{K:PF}{H:Hp}{F:FZ}:∀{ds:AS}{vs:AR}{ns:List Int},bx ds=some ns->Reps K H F ds vs->vs=ns.map V.int
 |[],_,_,e,h=>by cases e;exact h
 |d::ds,_,ns,e,⟨v,r,ev,hd,ht⟩=>by
  cases d with
  |int i=>
   simp only[bx]at e;cases q:bx ds with
   |none=>rw[q]at e;cases e
   |some l=>
    rw[q]at e;cases e;rw[ev,Fb q ht,show v=.int i from hd];rfl
  |_=>cases e
def mz{K:PF}{H:Hp}{F:FZ}{d:D}{v:V}{k:List Int->Prop}(h:Rep K H F d v)(q:bW d k):∃n b,k n/\v=.ref b/\H b=some (.tup ((bj n).map kV))/\d=.tup (n.map D.int):=by
 unfold bW at q;split at q
 .rename_i l;split at q
  .rename_i ns e;obtain ⟨b,vs,hv,ht,rs⟩:=h;have e2:=Fb e rs;subst e2;refine ⟨ns,b,q,hv,by rw[EY];exact ht.it,?_⟩;congr 1;clear rs ht hv q;induction l generalizing ns with
   |nil=>cases e;rfl
   |cons d l ih=>
    cases d with
    |int i=>
     simp only[bx]at e;cases z:bx l with
     |none=>rw[z]at e;cases e
     |some m=>rw[z]at e;cases e;rw[ih m z];rfl
    |_=>cases e
  .exact q.elim
 .exact q.elim
def sS{ks:List (List Int)}{kv:List (List Key×V)}{n:List Int}(h:kv.map (·.1)=ks.map bj):(cg kv (bj n)).isSome=(kIx ks n).isSome:=by
 rw[yc ks kv n h];cases e:kIx ks n with
 |none=>rfl
 |some i=>
  have hl:i < ks.length:=(dP.mp e).1;have hl2:kv.length=ks.length:=by have:=eK List.length h;simpa using this
  rw[Option.bind_some,aE (by rw[ag];omega)];rfl
def rC2(K:PF)(f:D->D->(Bool->Prop)->Prop):R2:=λx y H Q=>∃F G a b,R K H F G/\Rep K H F a x/\Rep K H F b y/\f (view G a) (view G b) (λc=>PV K H F Q (.bl c) G)
section
variable {X:Cx}
theorem Fd(c:Nat)(l:AA):(!(Builtin.Str.occurrences (tx l) (tx [c]) 0 (tx l).length 1).isEmpty)=l.contains c:=by have:=StrLaws.found_one (tx l) c;rw[this,Bool.eq_iff_iff];simp
theorem Xe{p9:AC}{Y:L2.St}{H:Hp}{s:AI}{F:FZ}(I:Inv X p9 Y H s){A:AM}{x:D}{v:V}{u:AN}(hu:A.units+64 < cLine)(hx:nr x=true)(rx:Rep X.K H F x v)(ru:RelV v u):
  ∀{ds:AS}{vs:AR}{us:AB},nrs ds=true->aV ds<=60->Reps X.K H F ds vs->Vals vs us->∃e:AN->Bool,(∀y∈us,SeqAt.EqAt A s y u (e y))/\us.any e=isIn x ds:=by
 intro ds vs us hn hd t r;let P:AN->D->Prop:=λy d=>nr d=true/\∃v,Rep X.K H F d v/\RelV v y
 have one:∀y d d',P y d->P y d'->d=d':=λy d d' ⟨n,v,q,z⟩ ⟨n',v',q',z'⟩=>by
  have e:=z.inj z';subst e;exact sI I n n' q q'
 have ⟨f,hf⟩:∃f:AN->D,∀y d,P y d->f y=d:=by refine ⟨λy=>Classical.epsilon (P y),λy d h=>?_⟩;exact one y _ _ (Classical.epsilon_spec ⟨d,h⟩) h
 refine ⟨λy=>deq (f y) x,?_,?_⟩
 .skip;have key:∀{ds:AS}{vs:AR}{us:AB},nrs ds=true->aV ds<=60->Reps X.K H F ds vs->Vals vs us->∀y∈us,SeqAt.EqAt A s y u (deq (f y) x):=by
   intro ds;induction ds with
   |nil=>
    intro vs us _ _ t r y hy;have t:vs=[]:=t;subst t;cases r;cases hy
   |cons d ds ih=>
    intro vs us hn hd t r y hy;obtain ⟨v1,r1,e,h1,t1⟩:=t;subst e;rw[nrs,ae]at hn;rw[aV]at hd;cases r with
    |cons p q=>
     rcases a7.mp hy with e |hy
     .subst e;rw[hf _ d ⟨hn.1,_,h1,p⟩];exact (xY I 60 A d x v1 v _ u (!0) (!0) hn.1 hx h1 rx p ru).2.1
     .exact ih hn.2 (!0) t1 q y hy
  exact key hn hd t r
 .have key:∀{ds:AS}{vs:AR}{us:AB},nrs ds=true->Reps X.K H F ds vs->Vals vs us->us.any (λy=>deq (f y) x)=isIn x ds:=by
   intro ds;induction ds with
   |nil=>
    intro vs us _ t r;have t:vs=[]:=t;subst t;cases r;rfl
   |cons d ds ih=>
    intro vs us hn t r;obtain ⟨v1,r1,e,h1,t1⟩:=t;subst e;rw[nrs,ae]at hn;cases r with
    |cons p q=>
     rw[List.any_cons,hf _ d ⟨hn.1,_,h1,p⟩,ih hn.2 t1 q];rfl
  exact key hn t r
theorem jR(op:CmpOp)(hu:X.A.units+100 < cLine):OpR X (compareOp op) (rC2 X.K (aW op)):=by
 intro p9 s Y H x y v u Q I rx ry h;obtain ⟨F,G,a,b,r,ra,rb,h⟩:=h;have ra':=sO r ra;have rb':=sO r rb;generalize view G a=va at h ra';generalize view G b=vb at h rb';have fin:∀c:Bool,PV X.K H F Q (.bl c) G->EP X p9 Y Q (.bool c) s:=λc q=>⟨.bl c,H,I,rfl,q.now r rfl⟩;have hin:∀(l:AS){vs:AR}{us:AB},inG va l->Reps X.K H (FA F G) l vs->Vals vs us->∃e:AN->Bool,(∀z∈us.toArray,SeqAt.EqAt X.A.in1 s z v (e z))/\us.toArray.any e=isIn va l:=λl {vs us} hh t rv=>by
  obtain ⟨e,he,hany⟩:=Xe I (A:=X.A.in1) (by show X.A.units+1+64 < cLine;omega) hh.1 ra' rx hh.2.1 hh.2.2 t rv;exact ⟨e,λw hw=>he w (!!hw),!!hany⟩
 have ii:∀{i j:Int},Rep X.K H (FA F G) (.int i) x->Rep X.K H (FA F G) (.int j) y->∃t t',v=.int i t/\u=.int j t':=λe1 e2=>by
  cases (show x=.int _ from e1);cases (show y=.int _ from e2);obtain ⟨t,e⟩:=rx;obtain ⟨t',e'⟩:=ry;exact ⟨t,t',e,e'⟩
 have ss:∀{i j:AA},Rep X.K H (FA F G) (.str i) x->Rep X.K H (FA F G) (.str j) y->∃t t',v=.str (tx i) t/\u=.str (tx j) t':=λe1 e2=>by
  cases e1.1;cases e2.1;obtain ⟨t,e⟩:=rx;obtain ⟨t',e'⟩:=ry;exact ⟨t,t',e,e'⟩
 have hnon:lR va=decide (x=.non):=by
  cases va with
  |non=>cases (show x=.non from ra');rfl
  |bl _=>cases (show x=.bl _ from ra');rfl
  |int _=>cases (show x=.int _ from ra');rfl
  |str _=>cases ra'.1;rfl
  |tup _=>obtain ⟨_,_,e1,_⟩:=ra';cases e1;rfl
  |lst _=>obtain ⟨_,_,e1,_⟩:=ra';cases e1;rfl
  |ref _=>cases (show x=.ref _ from ra');rfl
  |scr _=>obtain ⟨_,e1,_⟩:=ra';cases e1;rfl
  |exn _=>obtain ⟨_,_,e1,_⟩:=ra';cases e1;rfl
  |exa _ _ _=>obtain ⟨_,_,_,_,_,_,_,e1,_⟩:=ra';cases e1;rfl
  |obj _ _ _=>obtain ⟨_,_,_,e1,_⟩:=ra';cases e1;rfl
  |dct _ _=>obtain ⟨_,_,e1,_⟩:=ra';cases e1;rfl
 cases op with
 |Eq=>exact (xY I 60 X.A _ _ x y v u (!0) h.1.2.2 h.1.1 h.1.2.1 ra' rb' rx ry).1 _ _ _ _ (fin _ h.2)
 |NotEq=>exact (xY I 60 X.A _ _ x y v u (!0) h.1.2.2 h.1.1 h.1.2.1 ra' rb' rx ry).2.2 _ _ _ _ (fin _ h.2)
 |Lt=>
  have h:jE va vb (λc=>PV X.K H F Q (.bl c) G):=h;unfold jE at h;split at h
  .obtain ⟨t,t',e,e'⟩:=ii ra' rb';subst e e';exact lt_int (fin _ h)
  .obtain ⟨t,t',e,e'⟩:=ss ra' rb';subst e e';exact lt_str (fin _ h)
  .exact h.elim
 |LtE=>
  have h:jF va vb (λc=>PV X.K H F Q (.bl c) G):=h;unfold jF at h;split at h
  .obtain ⟨t,t',e,e'⟩:=ii ra' rb';subst e e';exact le_int (fin _ h)
  .obtain ⟨t,t',e,e'⟩:=ss ra' rb';subst e e';exact PySem.P.le_str (fin _ h)
  .exact h.elim
 |Gt=>
  have h:jG va vb (λc=>PV X.K H F Q (.bl c) G):=h;unfold jG at h;split at h
  .obtain ⟨t,t',e,e'⟩:=ii ra' rb';subst e e';exact gt_int (fin _ h)
  .exact h.elim
 |GtE=>
  have h:jH va vb (λc=>PV X.K H F Q (.bl c) G):=h;unfold jH at h;split at h
  .obtain ⟨t,t',e,e'⟩:=ii ra' rb';subst e e';exact ge_int (fin _ h)
  .exact h.elim
 |Is=>
  have h:jJ va vb (λc=>PV X.K H F Q (.bl c) G):=h;unfold jJ at h;split at h
  .cases (show y=.non from rb');exact RQ p9 s Y H _ _ v u Q I rx ry ⟨rfl,by rw[<-hnon];exact h.now r rfl⟩
  .split at h
   .cases (show x=.bl _ from ra');cases (show y=.bl _ from rb');exact Uw p9 s Y H _ _ v u Q I rx ry ⟨_,_,rfl,rfl,h.now r rfl⟩
   .exact h.elim
  .exact h.elim
 |IsNot=>
  have h:jK va vb (λc=>PV X.K H F Q (.bl c) G):=h;unfold jK at h;split at h
  .cases (show y=.non from rb');exact RT p9 s Y H _ _ v u Q I rx ry ⟨rfl,by rw[<-hnon];exact h.now r rfl⟩
  .split at h
   .cases (show x=.bl _ from ra');cases (show y=.bl _ from rb');exact UG p9 s Y H _ _ v u Q I rx ry ⟨_,_,rfl,rfl,h.now r rfl⟩
   .exact h.elim
  .exact h.elim
 |In=>
  have h:fU va vb (λc=>PV X.K H F Q (.bl c) G):=h;unfold fU at h;split at h
  .split at h
   .obtain ⟨t,t',e,e'⟩:=ss ra' rb';subst e e';exact in_str (by rw[Fd];exact fin _ h)
   .exact h.elim
  .obtain ⟨p,vs,e2,q2,t⟩:=rb';cases e2;cases ry;obtain ⟨its,rv,pl,hz⟩:=I.list q2.sq;obtain ⟨e,he,hany⟩:=hin _ h.1 t rv;exact SeqAt.in_listAt e pl.isList he (by rw[hany];exact fin _ h.2)
  .obtain ⟨p,vs,e2,q2,t⟩:=rb';cases e2;cases ry;obtain ⟨its,rv,pl,hz⟩:=I.tuple q2.sq;obtain ⟨e,he,hany⟩:=hin _ h.1 t rv;exact SeqAt.in_tupleAt e pl he (by rw[hany];exact fin _ h.2)
  .obtain ⟨n,c,q,e1,eb,_⟩:=mz ra' h;obtain ⟨p,kv,e2,hp,hk,t⟩:=rb';cases e1;cases e2;cases ry;refine Wf (!0) I (DGet.t hp.2 eb) rx λs' I'=>?_;rw[sS hk];exact ⟨.bl _,H,I',rfl,q.now r rfl⟩
  .exact h.elim
 |NotIn=>
  have h:fU va vb (λc=>PV X.K H F Q (.bl (!c)) G):=h;unfold fU at h;split at h
  .split at h
   .obtain ⟨t,t',e,e'⟩:=ss ra' rb';subst e e';exact notIn_str (by rw[Fd];exact fin _ h)
   .exact h.elim
  .obtain ⟨p,vs,e2,q2,t⟩:=rb';cases e2;cases ry;obtain ⟨its,rv,pl,hz⟩:=I.list q2.sq;obtain ⟨e,he,hany⟩:=hin _ h.1 t rv;exact SeqAt.notIn_listAt e pl.isList he (by rw[hany];exact fin _ h.2)
  .obtain ⟨p,vs,e2,q2,t⟩:=rb';cases e2;cases ry;obtain ⟨its,rv,pl,hz⟩:=I.tuple q2.sq;obtain ⟨e,he,hany⟩:=hin _ h.1 t rv;exact SeqAt.notIn_tupleAt e pl he (by rw[hany];exact fin _ h.2)
  .obtain ⟨n,c,q,e1,eb,_⟩:=mz ra' h;obtain ⟨p,kv,e2,hp,hk,t⟩:=rb';cases e1;cases e2;cases ry;refine Wg (!0) I (DGet.t hp.2 eb) rx λs' I'=>?_;rw[sS hk];exact ⟨.bl _,H,I',rfl,q.now r rfl⟩
  .exact h.elim
end
section
variable {X:Cx}
def Xf(K:PF):R2:=λx y H Q=>∃F G a b,R K H F G/\Rep K H F a x/\Rep K H F b y/\cN (view G a) b (λd=>PV K H F Q d G)
theorem Fe{K:PF}{H:Hp}{F:FZ}{ds:AS}{vs:AR}{i:Int}{d:D}(t:Reps K H F ds vs)(h:atI ds i=some d):∃v,atI vs i=some v/\Rep K H F d v:=by
 unfold atI at h ⊢;rw[<-t.length];cases e:ixN ds.length i with
 |none=>rw[e]at h;cases h
 |some j=>
  rw[e]at h;obtain ⟨v,e1,r⟩:=t.get (show ds[j]?=some d from h);exact ⟨v,e1,r⟩
theorem yd{K:PF}{H:Hp}{F:FZ}{G:DH}{d:D}{v:V}{ks:List (List Int)}{ds:AS}(r:R K H F G)(h:Rep K H F d v)(e:view G d=.dct ks ds):∃p kv,v=.ref p/\H p=some (.dT kv)/\kv.map (·.1)=ks.map bj/\Reps K H F ds (kv.map (·.2)):=by
 cases d with
 |dct ks' ds'=>
  have e':D.dct ks' ds'=.dct ks ds:=e;cases e';obtain ⟨a,kv,e1,q,hk,t⟩:=h;exact ⟨a,kv,e1,q.2,hk,t⟩
 |ref p=>
  have hv:v=.ref p:=h;unfold view at e;cases g:G p with
  |none=>simp only[g]at e;cases e
  |some o=>
   cases o with
   |lst xs=>simp only[g]at e;cases e
   |dct ks' xs=>
    simp only[g]at e;cases e;obtain ⟨kv,q,hk,t⟩:=r.dct g;exact ⟨p,kv,hv,q,hk,t⟩
 |_=>cases (show _=D.dct ks ds from e)
theorem Xg{value slice:AO}{p9:AC}{s:AI}{Y:L2.St}{H:Hp}{p:AQ}{y z:V}{u:AN}{Q:VK}(hu:X.A.units+100 < cLine)(I:Inv X p9 Y H s)(g:DGet H p y (some z))(ry:RelV y u)
  (hs:subscripted slice false (.ref p) u=operate [.ref p,u] (getItem (.ref p) u)) (q:Q z H):↥X (subscriptTail value slice (.ref p) u) (EP X p9 Y Q) X.xe s:=by
 have hT:=Wj I g;unfold subscriptTail;refine af ?_;rw[getitemInPython_of_ne hT.not_modules];refine af (wpAny_specialOf hT slot_dict_getitem.lookup ?_);have fin:↥X (subscripted slice false (.ref p) u) (λr s₃=>↥X (letTemporaryGo value (.ref p) r >>= λ_=>pure r) (EP X p9 Y Q) X.xe s₃) X.xe s:=by rw[hs];exact wpAny_operating (We (!0) I g ry λw' s' I' rw'=>af (wpAny_letTemporaryGo (ai ⟨z,H,I',rw',q⟩)))
 first
  |exact ai (af fin)
  |exact af (ai (af fin))
  |exact af fin
theorem Xh{K:PF}{H:Hp}{F:FZ}{G:DH}{d i:D}{v y:V}{ks:List (List Int)}{ds:AS}{k:D->Prop}(r:R K H F G)(h:Rep K H F d v)(e:view G d=.dct ks ds)(hi:Rep K H F i y)
  (q:bW i λn=>match kIx ks n with |some i=>(match ds[i]? with |some d=>k d |none=>False) |none=>False):∃p z d',v=.ref p/\DGet H p y (some z)/\Rep K H F d' z/\k d':=by
 obtain ⟨n,b,q,e1,eb,_⟩:=mz hi q;obtain ⟨p,kv,e2,hp,hk,t⟩:=yd r h e;subst e1;split at q
 .rename_i j hj;split at q
  .rename_i d' hd;obtain ⟨z,hz,rz⟩:=t.get hd;have hv:cg kv (bj n)=some z:=by rw[yc ks kv n hk,hj];exact hz
   exact ⟨p,z,d',e2,by rw[<-hv];exact DGet.t hp eb,rz,q⟩
  .exact q.elim
 .exact q.elim
theorem Xi(hu:X.A.units+100 < cLine):IxR X (Xf X.K):=by
 intro value slice p9 s Y H x y v u Q I rx ry h hs;obtain ⟨F,G,a,b,r,ra,rb,h⟩:=h;generalize ea:view G a=va at h;unfold cN at h;split at h
 .obtain ⟨p,vs,e,q,t⟩:=Rep.list r ra ea;subst e;have e2:y=.int _:=rb;subst e2;split at h
  .rename_i d hd;obtain ⟨w,hw,rw'⟩:=Fe t hd;exact Tq value slice p9 s Y H _ _ v u Q I rx ry ⟨p,vs,_,w,rfl,rfl,q,hw,h.now r rw'⟩ hs
  .exact h.elim
 .cases fQ ea;obtain ⟨p,vs,e,q,t⟩:=ra;subst e;have e2:y=.int _:=rb;subst e2;split at h
  .rename_i d hd;obtain ⟨w,hw,rw'⟩:=Fe t hd;exact Tt value slice p9 s Y H _ _ v u Q I rx ry ⟨p,vs,_,w,rfl,rfl,q.sq,hw,h.now r rw'⟩ hs
  .exact h.elim
 .cases gH ea;obtain ⟨e,hl⟩:=ra;subst e;have e2:y=.int _:=rb;subst e2;split at h
  .rename_i c hc;exact Tu value slice p9 s Y H _ _ v u Q I rx ry ⟨_,_,c,rfl,rfl,by rw[bV];exact cV hl,hc,h.now r ⟨rfl,by show 1<=sz;decide⟩⟩ hs
  .exact h.elim
 .obtain ⟨p,z,d',e2,g,rz,q⟩:=Xh r ra ea rb h;subst e2;cases rx;exact Xg hu I g ry hs (q.now r rz)
 .exact h.elim
theorem Xj(l:AA)(lo hi:Option Int):Txt.slice (tx l) lo hi=tx (cut l lo hi):=by
 have e:Builtin.Str.strSliceIndices lo hi 1 (tx l).length=sliceRange (sliceBounds lo hi none (tx l).length).1 (sliceBounds lo hi none (tx l).length).2.1 1:=by unfold Builtin.Str.strSliceIndices sliceBounds;cases lo <;> cases hi <;> rfl
 obtain ⟨h1,h2,h3⟩:=BX lo hi (tx l).length;rw[h1,h2,sliceRange_one]at e;have e2:((Builtin.Str.strSliceIndices lo hi 1 (tx l).length).filterMap ((tx l).cps[·]?))=cut l lo hi:=by rw[e,pick_run];unfold cut;rw[bV]
 unfold Txt.slice;split
 .rename_i hh;rw[ae]at hh;have hl:=eq_of_beq hh.2;rw[e,ag,en,bV]at hl;have b1:HT.sIx l.length l.length hi<=l.length:=HT.By _ _ (ax _) hi;unfold cut;by_cases hz:l=[]
  .subst hz;simp
  .have hp:0 < l.length:=ge.mpr hz;have e3:HT.sIx l.length 0 lo=0:=by omega
   have e4:HT.sIx l.length l.length hi=l.length:=by omega
   rw[e3,e4];simp
 .rw[e2]
theorem Xk{α:Type}(xs:List α)(lo hi:Option Int):(cut xs lo hi).length<=xs.length:=by unfold cut;rw[ff,eh];omega
theorem Xl{prog:AK}{w:World}{A:AM}{E:AG}{s:AI}{t sl:AQ}{items:Array AN}{vl vu:AN}{lo hi:Option Int}{Q:AG}(ht:IsTup s.heap t items)(hs:s.heap.IsSliceOf sl vl vu .none)(pl:IsPart vl lo)(pu:IsPart vu hi)
  (hw:HT.sIx items.size 0 lo=0/\HT.sIx items.size items.size hi=items.size) (h:Q (.ref t) s):wpAny (model prog w) A (getItem (.ref t) (.ref sl)) Q E s:=by
 obtain ⟨os,hos,hcs,hds⟩:=id hs;have hTs:s.TypeIs (.ref sl) "slice":=⟨os,hos,hcs⟩;unfold getItem;try with_reducible refine dA ?_
 first |refine af (ai ?_) |skip
 refine af (wpAny_sequenceKey ht.typeIs (!1) ?_);refine af (df (name:=⇑"__getitem__") ht.typeIs e8
  (eR e8 ht.typeIs entry_tuple_getitem ?_ (args_tuple_getitem _ _)))
 show wpAny _ _ (Builtin.Tuple.tupleItemsOf (.ref t) >>= _) _ _ s;refine af (tupleItemsOf_ ht ?_);refine af (wpAny_typeOf hTs ?_);rw[if_pos (!1)];refine af (HT.BL hs pl pu ?_);have hyes:(((HT.sIx items.size 0 lo:Nat):Int)==0&&(1:Int)==1&&(HT.sIx items.size items.size hi - HT.sIx items.size 0 lo)==items.size)=true:=by rw[hw.1,hw.2];simp
 show wpAny _ _ (if (((HT.sIx items.size 0 lo:Nat):Int)==0&&(1:Int)==1&&(HT.sIx items.size items.size hi - HT.sIx items.size 0 lo)==items.size)=true then _ else _) _ _ s;rw[if_pos hyes];refine af (m:=Builtin.Tuple.tupleIsExact _) (af (wpAny_typeOf ht.typeIs (ai ?_)));rw[if_pos (!1)];exact af (gg (ai ⟨_,rfl,ai h⟩))
theorem Xm:SlR X (λx lo hi H Q=>∃a xs,x=.ref a/\SqT X.K H a xs/\(HT.sIx xs.length 0 lo=0/\HT.sIx xs.length xs.length hi=xs.length)/\Q (.ref a) H):=by
 intro p9 s Y H x v vl vu lo hi sl Q I rx hs pl pu h;obtain ⟨a,xs,rfl,hx,hw,q⟩:=h;cases rx;obtain ⟨its,r,ht,hz⟩:=I.tuple hx;have hlen:its.toArray.size=xs.length:=by rw[am];exact r.length.symm
 exact ⟨"tuple",_,e8.lookup,ht.typeIs,Xl ht hs pl pu (by rw[hlen];exact hw) ⟨.ref a,H,I,rfl,q⟩⟩
theorem mC{K:PF}{H:Hp}{F:FZ}:∀ns:List Int,Reps K H F (ns.map D.int) (ns.map V.int)
 |[]=>rfl
 |n::ns=>⟨_,_,rfl,rfl,mC ns⟩
def Xo(K:PF)(fz:Bool):V->Option Int->Option Int->Hp->VK->Prop:=λx lo hi H Q=>∃F G a,R K H F G/\Rep K H F a x/\dZ fz (view G a) lo hi G (PV K H F Q)
theorem Ff{K:PF}{H:Hp}{F:FZ}{ds:AS}{vs:AR}(t:Reps K H F ds vs)(lo hi:Option Int):Reps K H F (cut ds lo hi) (dW vs lo hi):=t.cut lo hi
theorem Xp(fz:Bool):SlR X (Xo X.K fz):=by
 intro p9 s Y H x v vl vu lo hi sl Q I rx hs pl pu h;obtain ⟨F,G,a,r,ra,h⟩:=h;generalize ea:view G a=va at h;unfold dZ at h;split at h
 .obtain ⟨p,vs,e,q,t⟩:=Rep.list r ra ea;subst e;exact BZ p9 s Y H _ v vl vu lo hi sl Q I rx hs pl pu ⟨p,vs,rfl,q,dw h r (Ff t lo hi)⟩
 .rename_i ns;have ea':a=.scr ns:=by
   cases a with
   |ref p=>
    unfold view at ea;cases g:G p with
    |none=>simp only[g]at ea;cases ea
    |some o=>cases o <;> (simp only[g]at ea;cases ea)
   |_=>exact ea
  subst ea';obtain ⟨p,e,q⟩:=ra;subst e;refine BZ p9 s Y H _ v vl vu lo hi sl Q I rx hs pl pu ⟨p,_,rfl,q.sq,dw h r ?_⟩;have e2:dW (ns.map V.int) lo hi=(cut ns lo hi).map V.int:=by unfold dW cut;rw[ag,List.map_take,List.map_drop]
  rw[e2];exact mC (cut ns lo hi)
 .cases fQ ea;obtain ⟨p,vs,e,q,t⟩:=id ra;subst e;by_cases hw:HT.sIx vs.length 0 lo=0/\HT.sIx vs.length vs.length hi=vs.length
  .refine Xm p9 s Y H _ v vl vu lo hi sl Q I rx hs pl pu ⟨p,vs,rfl,q.sq,hw,?_⟩;refine h.now r ?_;rename_i ds;have:cut ds lo hi=ds:=by
    unfold cut;rw[t.length,hw.1,hw.2];simp[<-t.length]
   rw[this];exact ra
  .exact Te p9 s Y H _ v vl vu lo hi sl Q I rx hs pl pu ⟨p,vs,rfl,q.sq,hw,jQ h r (Ff t lo hi)⟩
 .cases gH ea;obtain ⟨e,hl⟩:=ra;subst e;refine Uz p9 s Y H _ v vl vu lo hi sl Q I rx hs pl pu ⟨_,rfl,by rw[bV];exact cV hl,?_⟩;rw[Xj];exact h.now r ⟨rfl,ce (Xk _ _ _) hl⟩
 .exact h.elim
theorem Fg{K:PF}{H:Hp}{F:FZ}{G:DH}{d:D}{v:V}{b:Bool}(r:R K H F G)(h:Rep K H F d v)(e:truth (view G d)=some b):qQ K v H b:=by
 have h':=sO r h;generalize view G d=w at e h';cases w with
 |non=>have e1:v=.non:=h';subst e1;simp only[truth,a8]at e;exact e.symm
 |bl x=>have e1:v=.bl x:=h';subst e1;simp only[truth,a8]at e;exact e.symm
 |int i=>have e1:v=.int i:=h';subst e1;simp only[truth,a8]at e;exact e.symm
 |str l=>
  obtain ⟨e1,hl⟩:=h';subst e1;simp only[truth,a8]at e;refine ⟨by rw[bV];exact cV hl,?_⟩;rw[bV,<-e];cases l with
  |nil=>rfl
  |cons c l=>simp;omega
 |tup l=>
  obtain ⟨a,vs,e1,q,t⟩:=h';subst e1;simp only[truth,a8]at e;refine .inr (.inl ⟨vs,q.sq,?_⟩);rw[<-e];cases l with
  |nil=>have t:vs=[]:=t;subst t;rfl
  |cons c l=>obtain ⟨_,_,e2,_⟩:=t;subst e2;rfl
 |lst l=>
  obtain ⟨a,vs,e1,q,t⟩:=h';subst e1;simp only[truth,a8]at e;refine .inl ⟨vs,q.sq,?_⟩;rw[<-e];cases l with
  |nil=>have t:vs=[]:=t;subst t;rfl
  |cons c l=>obtain ⟨_,_,e2,_⟩:=t;subst e2;rfl
 |ref a=>simp[truth]at e
 |scr a=>simp[truth]at e
 |exn a=>simp[truth]at e
 |exa _ _ _=>simp[truth]at e
 |obj _ _ _=>simp[truth]at e
 |dct _ _=>simp[truth]at e
theorem sU{K:PF}{H:Hp}{F:FZ}:∀{ds:AS}{vs:AR}{bs:List Bool},bools ds=some bs->Reps K H F ds vs->vs=bs.map V.bl
 |[],_,bs,e,h=>by
  simp only[bools,a8]at e;subst e;exact h
 |d::ds,_,bs,e,⟨v,w,e1,h,t⟩=>by
  cases d with
  |bl b=>
   simp only[bools]at e;cases q:bools ds with
   |none=>rw[q]at e;cases e
   |some s=>
    rw[q]at e;cases e;have hv:v=.bl b:=h;rw[e1,hv,sU q t];rfl
  |_=>simp[bools]at e
theorem bD{K:PF}{H:Hp}{F:FZ}{d:D}{vs:AR}(t:Reps K H F [d] vs):∃v,vs=[v]/\Rep K H F d v:=by obtain ⟨v,r,e,h,t⟩:=t;have t:r=[]:=t;subst t;exact ⟨v,e,h⟩
def iJ(K:PF)(f:Bf):AR->Hp->VK->Prop:=λvs H Q=>∃F G ds,R K H F G/\Reps K H F ds vs/\opB f (ds.map (view G)) (λd=>PV K H F Q d G)
theorem map_one{G:DH}{ds:AS}{x:D}(h:ds.map (view G)=[x]):∃d,ds=[d]/\view G d=x:=by
 match ds,h with
 |[d],h=>exact ⟨d,rfl,!!h⟩
theorem Xq:bh X (.builtin "len") (iJ X.K .len):=by
 intro p9 s Y H xs us Q I rs h;obtain ⟨F,G,ds,r,t,h⟩:=h;generalize ea:ds.map (view G)=va at h;simp only[opB,vW]at h;split at h
 .obtain ⟨d,rfl,ev⟩:=map_one ea;obtain ⟨v,rfl,rv⟩:=bD t;obtain ⟨a,vs,e,q,t'⟩:=Rep.list r rv ev;subst e;exact Ca p9 s Y H _ us Q I rs ⟨a,vs,rfl,.inl q,by rw[<-t'.length];exact h.now r rfl⟩
 .obtain ⟨d,rfl,ev⟩:=map_one ea;obtain ⟨v,rfl,rv⟩:=bD t;cases fQ ev;obtain ⟨a,vs,e,q,t'⟩:=rv;subst e;exact Ca p9 s Y H _ us Q I rs ⟨a,vs,rfl,.inr q.sq,by rw[<-t'.length];exact h.now r rfl⟩
 .obtain ⟨d,rfl,ev⟩:=map_one ea;obtain ⟨v,rfl,rv⟩:=bD t;cases gH ev;obtain ⟨e,hl⟩:=rv;subst e;exact TQ p9 s Y H _ us Q I rs ⟨_,rfl,by rw[bV];exact cV hl,by rw[bV];exact h.now r rfl⟩
 .obtain ⟨d,rfl,ev⟩:=map_one ea;obtain ⟨v,rfl,rv⟩:=bD t;obtain ⟨a,kv,e,q,hk,t'⟩:=yd r rv ev;subst e;have hl:=eK List.length hk;rw[ag,ag]at hl;exact Wx p9 s Y H _ us Q I rs ⟨a,kv,rfl,q,by rw[hl];exact h.now r rfl⟩
 .exact h.elim
theorem Xr (hc:X.calm=true):bh X (.builtin "all") (iJ X.K .all):=by
 intro p9 s Y H xs us Q I rs h;obtain ⟨F,G,ds,r,t,h⟩:=h;generalize ea:ds.map (view G)=va at h;simp only[opB,rD]at h;split at h
 .obtain ⟨d,rfl,ev⟩:=map_one ea;obtain ⟨v,rfl,rv⟩:=bD t;obtain ⟨a,vs,e,q,t'⟩:=Rep.list r rv ev;subst e;split at h
  .rename_i bs hb;have e2:=sU hb t';subst e2;exact Uv hc p9 s Y H _ us Q I rs ⟨a,bs,rfl,q,h.now r rfl⟩
  .exact h.elim
 .exact h.elim
theorem Xu:bh X (.type "int") (iJ X.K .int):=by
 intro p9 s Y H xs us Q I rs h;obtain ⟨F,G,ds,r,t,h⟩:=h;generalize ea:ds.map (view G)=va at h;simp only[opB,rE]at h;split at h
 .obtain ⟨d,rfl,ev⟩:=map_one ea;obtain ⟨v,rfl,rv⟩:=bD t;cases WX ev;have e:v=.bl _:=rv;subst e;exact Bp p9 s Y H _ us Q I rs (.inr ⟨_,rfl,h.now r rfl⟩)
 .obtain ⟨d,rfl,ev⟩:=map_one ea;obtain ⟨v,rfl,rv⟩:=bD t;cases dY ev;have e:v=.int _:=rv;subst e;exact Bp p9 s Y H _ us Q I rs (.inl ⟨_,rfl,h.now r rfl⟩)
 .obtain ⟨d,rfl,ev⟩:=map_one ea;obtain ⟨v,rfl,rv⟩:=bD t;cases gH ev;obtain ⟨e,hl⟩:=rv;subst e;split at h
  .rename_i n hn;exact Ux p9 s Y H _ us Q I rs ⟨_,n,rfl,hn,by rw[bV];exact h.1,h.2.now r rfl⟩
  .exact h.elim
 .exact h.elim
theorem Xv:bh X (.type "tuple") (iJ X.K .tuple):=by
 intro p9 s Y H xs us Q I rs h;obtain ⟨F,G,ds,r,t,h⟩:=h;generalize ea:ds.map (view G)=va at h;simp only[opB,vX]at h;split at h
 .obtain ⟨d,rfl,ev⟩:=map_one ea;obtain ⟨v,rfl,rv⟩:=bD t;obtain ⟨a,vs,e,q,t'⟩:=Rep.list r rv ev;subst e;exact Ce p9 s Y H _ us Q I rs ⟨a,vs,rfl,.inl ⟨q,jQ h r t'⟩⟩
 .obtain ⟨d,rfl,ev⟩:=map_one ea;obtain ⟨v,rfl,rv⟩:=bD t;cases fQ ev;obtain ⟨a,vs,e,q,t'⟩:=id rv;subst e;exact Ce p9 s Y H _ us Q I rs ⟨a,vs,rfl,.inr ⟨q.sq,h.now r rv⟩⟩
 .exact h.elim
def ye(K:PF)(fz:Bool)(f:Lf):AR->Hp->VK->Prop:=λvs H Q=>∃F G ds,R K H F G/\Reps K H F ds vs/\cA f (ds.map (view G)) (λxs=>mk fz xs G (PV K H F Q))
theorem Xw(l:AA):∀(us:AB),us.length=l.length->(∀(j:Nat)(v:AN),us[j]?=some v->∃(c:Nat)(u:Tok),l[j]?=some c/\v=Value.str ⟨#[c]⟩ u)->Vals (l.map λc=>V.str (tx [c])) us:=by
 induction l with
 |nil=>intro us h _;cases us with |nil=>exact .nil |cons _ _=>cases h
 |cons c l ih=>
  intro us h q;cases us with
  |nil=>cases h
  |cons u us=>
   obtain ⟨c',t,e1,e2⟩:=q 0 u (by simp);have e1:c=c':=by simpa using e1
   subst e1;exact .cons ⟨t,e2⟩ (ih us (!!h) λj v hv=>by simpa using q (j+1) v (!!hv))
theorem Xx (hc:X.calm=true):bh X (.type "list") (λxs H Q=>∃l:AA,xs=[.str (tx l)]/\l.length<=sizeLine/\∀p,H p=none->Q (.ref p) (upd H p (.lst (l.map λc=>V.str (tx [c]))))):=by
 intro p9 s Y H xs us Q I r h;obtain ⟨l,rfl,hz,q⟩:=h;obtain ⟨u,rfl,t,rfl⟩:=vals1 r;have hz':(tx l).cps.size<=sizeLine:=by simpa using hz
 refine call_list_str (hn:=hz') (I.ok.hd hc) (tx l) t λh' tk acc' c' kp e hi=>?_;have hv:Vals (l.map λc=>V.str (tx [c])) acc'.toList:=by
  refine Xw l _ ?_ λj v hv=>?_
  .rw[cp,hi.1];simp
  .obtain ⟨c,u,e1,e2⟩:=hi.2 j v (by rw[<-eP];exact hv);exact ⟨c,u,!!e1,e2⟩
 exact ⟨.ref (~~~s),_,I.laid (t':=tk) kp (ax _) (show ObjOk X.prog X.w _ h' _ (.lst _) from ⟨by rw[ag];exact hz,acc'.toList,c',hv,by rw[Array.toArray_toList];exact e⟩),rfl,q _ (I.hok.fresh (ax _))⟩
theorem yf{K:PF}{H:Hp}{F:FZ}:∀l:AA,Reps K H F (l.map λc=>D.str [c]) (l.map λc=>V.str (tx [c]))
 |[]=>rfl
 |c::l=>⟨_,_,rfl,⟨rfl,by show 1<=sz;decide⟩,yf l⟩
theorem Fi{K:PF}{H:Hp}{F:FZ}:∀{ks:List (List Int)}{kv:List (List Key×V)}{as:List AQ},kv.map (·.1)=ks.map bj->Paired (λ(k:List Key×V) (a:AQ)=>H a=some (.tup (k.1.map kV))) kv as->Reps K H F (ks.map λn=>.tup (n.map D.int)) (as.map V.ref)
 |[],_,_,h,p=>by cases List.map_eq_nil_iff.mp h;cases p;exact rfl
 |k::ks,[],_,h,_=>by cases h
 |k::ks,q::kv,_,h,p=>by
  have h1:q.1=bj k:=(gV h).1;cases p with
  |cons a t=>
   rw[h1,EY]at a;exact ⟨_,_,rfl,⟨_,_,rfl,⟨a⟩,mC k⟩,Fi (gV h).2 t⟩
theorem Xy (hc:X.calm=true) (fz:Bool):bh X (.type "list") (ye X.K fz .list):=by
 intro p9 s Y H xs us Q I rs h;obtain ⟨F,G,ds,r,t,h⟩:=h;generalize ea:ds.map (view G)=va at h;simp only[cA,v6]at h;split at h
 .obtain ⟨d,rfl,ev⟩:=map_one ea;obtain ⟨v,rfl,rv⟩:=bD t;obtain ⟨a,vs,e,q,t'⟩:=Rep.list r rv ev;subst e;exact Cd p9 s Y H _ us Q I rs ⟨a,vs,rfl,.inl q,dw h r t'⟩
 .obtain ⟨d,rfl,ev⟩:=map_one ea;obtain ⟨v,rfl,rv⟩:=bD t;cases fQ ev;obtain ⟨a,vs,e,q,t'⟩:=id rv;subst e;exact Cd p9 s Y H _ us Q I rs ⟨a,vs,rfl,.inr q.sq,dw h r t'⟩
 .obtain ⟨d,rfl,ev⟩:=map_one ea;obtain ⟨v,rfl,rv⟩:=bD t;cases gH ev;obtain ⟨e,hl⟩:=rv;subst e;exact Xx hc p9 s Y H _ us Q I rs ⟨_,rfl,cV hl,dw h r (yf _)⟩
 .obtain ⟨d,rfl,ev⟩:=map_one ea;obtain ⟨v,rfl,rv⟩:=bD t;obtain ⟨a,kv,e,q,hk,t'⟩:=yd r rv ev;subst e;exact Wy hc p9 s Y H _ us Q I rs ⟨a,kv,rfl,q,λas pr=>dw h r (Fi hk pr)⟩
 .exact h.elim
theorem sV{K:PF}{H:Hp}{F:FZ}:∀{ds:AS}{vs:AR}{ls:List (AA)},bz ds=some ls->Reps K H F ds vs->vs=(ls.map tx).map V.str
 |[],_,bs,e,h=>by
  simp only[bz,a8]at e;subst e;exact h
 |d::ds,_,bs,e,⟨v,w,e1,h,t⟩=>by
  cases d with
  |str b=>
   simp only[bz]at e;cases q:bz ds with
   |none=>rw[q]at e;cases e
   |some s=>
    rw[q]at e;cases e;obtain ⟨hv,_⟩:=h;rw[e1,hv,sV q t];rfl
  |_=>simp[bz]at e
theorem yg{K:PF}{H:Hp}{F:FZ}:∀{ds:AS}{vs:AR}{ns:List Int},bx ds=some ns->Reps K H F ds vs->vs=ns.map V.int
 |[],vs,ns,e,t=>by
  simp only[bx,a8]at e;subst e;have t:vs=[]:=t;rw[t];rfl
 |d::ds,vs,ns,e,t=>by
  obtain ⟨v,r,e1,h,t⟩:=t;cases d with
  |int b=>
   simp only[bx]at e;cases q:bx ds with
   |none=>rw[q]at e;cases e
   |some s=>
    rw[q]at e;cases e;have hv:v=.int b:=h;rw[e1,hv,yg q t];rfl
  |_=>simp[bx]at e
theorem Fj:∀{ns:List Int}{its:AB},Vals (ns.map V.int) its->IntsAre its ns
 |[],its,h=>by cases h;exact .nil
 |n::ns,its,h=>by
  cases h with
  |cons a b=>
   obtain ⟨t,rfl⟩:=a;exact .cons n t (Fj b)
theorem Xz:bootBuiltins "sorted"=some (.builtin "sorted"):=by ac_rfl
theorem yh:∀{ls:List (AA)}{its:AB},Vals ((ls.map tx).map V.str) its->StrsAre its (ls.map tx)
 |[],its,h=>by cases h;exact .nil
 |n::ns,its,h=>by
  cases h with
  |cons a b=>
   obtain ⟨t,rfl⟩:=a;exact .cons _ t (yh b)
theorem Fl:∀{ss:AD}{its:AB},StrsAre its ss->Vals (ss.map V.str) its
 |_,_,.nil=>.nil
 |_,_,.cons y t h=>.cons ⟨t,rfl⟩ (Fl h)
theorem XC{ss:AD}{ls:List (AA)}(h:ss.Perm (ls.map tx)):∃ls':List (AA),ss=ls'.map tx/\ls'.Perm ls:=by
 refine ⟨ss.map λs=>s.cps.toList,?_,?_⟩
 .rw[dc];refine (List.map_id ss).symm.trans (d0 λs _=>?_);show s=tx s.cps.toList;exact qU s
 .have:=h.map λs=>s.cps.toList;rw[dc]at this;have e:(λs:Str=>s.cps.toList)∘tx=id:=by funext l;rfl
  rw[e,List.map_id]at this;exact this
theorem XD:bh X (.builtin "sorted") (λxs H Q=>∃(p:AQ) (ls:List (AA)),xs=[.ref p]/\SqL X.K H p ((ls.map tx).map V.str)/\ls.length < 64/\∀ls':List (AA),ls'.Perm ls->PyProof.Rows.sortedS (ls'.map tx)=true->∀l,H l=none->Q (.ref l) (upd H l (.lst ((ls'.map tx).map V.str)))):=by
 intro p9 s Y H xs us Q I r h;obtain ⟨p,ls,rfl,hq,h64,q⟩:=h;obtain ⟨u,rfl,ru⟩:=vals1 r;cases ru;obtain ⟨its,rv,pl,hz⟩:=I.list hq;have hlen:its.length=ls.length:=by rw[<-rv.length];simp
 refine sorted_strs pl.isList (yh rv) (!0) λout ss' a1 a2 a3=>?_;obtain ⟨ls',rfl,pm⟩:=XC a2;obtain ⟨e,he⟩:=sortedAll_at s.heap its out;have hsz:((ls'.map tx).map V.str).length<=sizeLine:=by rw[ag,ag,pm.length_eq];exact ce (Nat.le_of_lt h64) (!1)
 exact ⟨.ref ((~~~s)+1),_,I.laid (t':=s.toks) (λ_ _=>sortedAll_old) (fE _) (show ObjOk X.prog X.w _ _ _ (.lst ((ls'.map tx).map V.str)) from ⟨hsz,out.toList,e,Fl a1,he⟩),rfl,q ls' pm a3 _ (I.hok.fresh (fE _))⟩
theorem Fp{K:PF}{H:Hp}{F:FZ}:∀{ls:List (AA)},(∀l∈ls,l.length<=sz)->Reps K H F (ls.map D.str) ((ls.map tx).map V.str)
 |[],_=>rfl
 |l::ls,h=>⟨_,_,rfl,⟨rfl,h l bp⟩,Fp λx hx=>h x (bv _ hx)⟩
theorem yj{K:PF}{H:Hp}{F:FZ}:∀{ds:AS}{vs:AR}{ls:List (AA)},bz ds=some ls->Reps K H F ds vs->∀l∈ls,l.length<=sz
 |[],vs,ls,e,t=>by simp only[bz,a8]at e;subst e;intro l hl;cases hl
 |d::ds,vs,ls,e,t=>by
  obtain ⟨v,r,e1,h,t⟩:=t;cases d with
  |str b=>
   simp only[bz]at e;cases q:bz ds with
   |none=>rw[q]at e;cases e
   |some s=>
    rw[q]at e;cases e;intro l hl;rcases a7.mp hl with e |hl
    .rw[e];exact h.2
    .exact yj q t l hl
  |_=>simp[bz]at e
theorem XF (fz:Bool):bh X (.builtin "sorted") (ye X.K fz .sorted):=by
 intro p9 s Y H xs us Q I rs h;obtain ⟨F,G,ds,r,t,h⟩:=h;generalize ea:ds.map (view G)=va at h;simp only[cA,lV]at h;split at h
 .obtain ⟨d,rfl,ev⟩:=map_one ea;obtain ⟨v,rfl,rv⟩:=bD t;obtain ⟨a,vs,e,q,t'⟩:=Rep.list r rv ev;subst e;split at h
  .rename_i ls hb;have e2:=sV hb t';have hsz:=yj hb t';subst e2;exact XD p9 s Y H _ us Q I rs ⟨a,ls,rfl,q,h.1,λls' pm so=>dw (h.2 ls' pm so) r (Fp λl hl=>hsz l (pm.mem_iff.mp hl))⟩
  .exact h.elim
 .obtain ⟨d,rfl,ev⟩:=map_one ea;obtain ⟨v,rfl,rv⟩:=bD t;cases fQ ev;obtain ⟨a,vs,e,q,t'⟩:=rv;subst e;split at h
  .rename_i ns hb;have e2:=yg hb t';subst e2;exact V4 p9 s Y H _ us Q I rs ⟨a,ns,rfl,q.sq,h.1,λns' pm so=>dw (h.2 ns' pm so) r (mC ns')⟩
  .exact h.elim
 .exact h.elim
theorem Fq(val:Nat->AA):∀k,argBest (λi j=>decide (val i < val j)) k<=k/\∀j,j<=k->¬val j < val (argBest (λi j=>decide (val i < val j)) k)
 |0=>⟨ax _,λj hj=>by
  have:j=0:=by omega
  subst this;exact List.lt_irrefl _⟩
 |k+1=>by
  obtain ⟨h1,h2⟩:=Fq val k;simp only[argBest];by_cases hc:val (k+1) < val (argBest (λi j=>decide (val i < val j)) k)
  .rw[if_pos (!!hc)];refine ⟨ax _,λj hj=>?_⟩;rcases Nat.lt_or_ge j (k+1) with hlt |hge
   .exact λh=>h2 j (!0) (List.lt_trans h hc)
   .have:j=k+1:=by omega
    subst this;exact List.lt_irrefl _
  .rw[if_neg (!!hc)];refine ⟨!0,λj hj=>?_⟩;rcases Nat.lt_or_ge j (k+1) with hlt |hge
   .exact h2 j (!0)
   .have:j=k+1:=by omega
    subst this;exact hc
section
variable {prog:AK} {w:World} {A:AM} {E:AG} {s:AI} {l:AQ}
theorem sW:∀{its:AB}{ls:List (AA)}{i:Nat}{v:AN},StrsAre its (ls.map tx)->its[i]?=some v->∃t,v=.str (tx (ls.getD i [])) t
 |[],ls,i,v,_,h=>by simp at h
 |x::its,[],i,v,hs,h=>by cases hs
 |x::its,a::ls,0,v,hs,h=>by
  cases hs with
  |cons y t q=>exact ⟨t,!!h.symm⟩
 |x::its,a::ls,i+1,v,hs,h=>by
  cases hs with
  |cons y t q=>
   have:=sW (i:=i) (v:=v) q (!!h);simpa using this
theorem XH{Q:AG}{its:AB}{ls:List (AA)}(hh:A.handled=none)(hl:s.heap.IsList l its.toArray)(hs:StrsAre its (ls.map tx))(hn:its.length=ls.length)(hne:0 < ls.length)
  (h:∀(m:AA)(t:Tok)(h':Heap)(tk:Nat),m∈ls->(∀a,a∈ls->¬a < m)->(∀b o,s.heap.get? b=some o->h'.get? b=some o)->Q (.str (tx m) t) { s with heap:=h',toks:=tk }):
  wpAny (model prog w) A (call (.builtin "min") [.ref l]) Q E s:=by
 have hlt:l < (~~~s):=by obtain ⟨_,e,_⟩:=hl;exact ay e
 refine call_min_walk (gX hl ?_);refine ⟨_,_,_,_,_,_,λi j=>decide (ls.getD i [] < ls.getD j []),rfl,Walks.list (A:=A.in1) hh _ l (ca hlt) its.toArray,⟨⟨_,aS _ rfl,rfl,rfl⟩,hl.push _⟩,?_,?_,?_,?_⟩
 .intro b hb;show b < (s.heap.push _).objs.size;rw[dL];rcases a7.mp hb with rfl |hb
  .exact Nat.lt_succ_self _
  .rcases a7.mp hb with rfl |hb
   .exact gx hlt
   .cases hb
 .simpa [hn] using hne
 .intro i j vi vj s Q E hi hj h;obtain ⟨t,rfl⟩:=sW hs (!!hi);obtain ⟨u,rfl⟩:=sW hs (!!hj);exact richCompare_gives (op:=.Lt) (typeIs_str s _ t) (typeIs_str s _ u) F.slot_str_lt F.entry_str_lt (F.args_str_lt_2 _ _) (gives_str_lt _ _ t u) (λe=>nomatch e) h
 .intro v h' tk hP hk;obtain ⟨t,rfl⟩:=sW hs (show its[_]?=some v by rw[<-List.getElem?_toArray];exact hP);obtain ⟨b1,b2⟩:=Fq (λi=>ls.getD i []) (its.toArray.size - 1);have hsz:its.toArray.size=ls.length:=by simpa using hn
  refine h _ t h' tk ?_ (λa ha=>?_) (old_kept hk)
  .rw[cS,aE (!0)];exact da _
  .obtain ⟨j,hj,rfl⟩:=List.getElem_of_mem ha;have:=b2 j (!0);rwa [show ls.getD j []=ls[j] by rw[cS,aE hj];rfl]at this
end
theorem XJ (hc:X.calm=true):bh X (.builtin "min") (λxs H Q=>∃(p:AQ) (ns:List Int),xs=[.ref p]/\SqL X.K H p (ns.map V.int)/\ns≠[]/\∀m,m∈ns->(∀a,a∈ns->m<=a)->Q (.int m) H):=by
 intro p9 s Y H xs us Q I r h;obtain ⟨p,ns,rfl,hq,hne,q⟩:=h;obtain ⟨u,rfl,ru⟩:=vals1 r;cases ru;obtain ⟨its,rv,pl,hz⟩:=I.list hq;have hi:=Fj rv;obtain ⟨xs,ex⟩:=hi.allInts.items;have hl:=pl.isList;rw[ex]at hl;have e1:xs.toList.map (·.1)=ns:=by rw[<-PySem.nums_intItems,<-ex];exact hi.numsOf
 have hsz:0 < xs.size:=by have:=ge.mpr hne;rw[<-e1,ag,cp]at this;exact this
 refine PySem.min_intList (I.ok.hd hc) hl hsz λv h' tk hv hk=>?_;obtain ⟨t,rfl⟩:=PySem.intItems_at hv;obtain ⟨b1,b2⟩:=PySem.argBest_lt (PySem.numAt xs) (xs.size - 1);refine ⟨.int _,H,I.kept hk,⟨t,rfl⟩,q _ ?_ λa ha=>?_⟩
 .rw[<-e1,PySem.numAt_eq];exact PySem.getD_mem (by rw[ag,cp];omega)
 .rw[<-e1]at ha;obtain ⟨j,hj,rfl⟩:=PySem.mem_getD ha;rw[ag,cp]at hj;rw[<-PySem.numAt_eq];exact b2 j (!0)
theorem XM (hc:X.calm=true):bh X (.builtin "min") (λxs H Q=>∃(p:AQ) (ls:List (AA)),xs=[.ref p]/\SqL X.K H p ((ls.map tx).map V.str)/\ls≠[]/\∀m,m∈ls->(∀a,a∈ls->¬a < m)->Q (.str (tx m)) H):=by
 intro p9 s Y H xs us Q I r h;obtain ⟨p,ls,rfl,hq,hne,q⟩:=h;obtain ⟨u,rfl,ru⟩:=vals1 r;cases ru;obtain ⟨its,rv,pl,hz⟩:=I.list hq;have hlen:its.length=ls.length:=by rw[<-rv.length];simp
 refine XH (I.ok.hd hc) pl.isList (yh rv) hlen (ge.mpr hne) λm t h' tk h1 h2 hk=>?_;exact ⟨.str (tx m),H,I.kept hk,⟨t,rfl⟩,q m h1 h2⟩
theorem XN{ds:AS}{ls:List (AA)}(h0:bx ds=none)(h1:bz ds=some ls):ls≠[]:=by
 rintro rfl;cases ds with
 |nil=>simp[bx]at h0
 |cons x y=>cases x <;> simp only[bz]at h1 <;> first | (cases h1;done) | (cases hd:bz y <;> rw[hd]at h1 <;> cases h1)
theorem XQ (hc:X.calm=true):bh X (.builtin "min") (iJ X.K .min):=by
 intro p9 s Y H xs us Q I rs h;obtain ⟨F,G,ds,r,t,h⟩:=h;generalize ea:ds.map (view G)=va at h;simp only[opB,lU]at h;split at h
 .obtain ⟨d,rfl,ev⟩:=map_one ea;obtain ⟨v,rfl,rv⟩:=bD t;obtain ⟨a,vs,e,q,t'⟩:=Rep.list r rv ev;subst e;split at h
  .rename_i ns hb;have e2:=yg hb t';subst e2;exact XJ hc p9 s Y H _ us Q I rs ⟨a,ns,rfl,q,h.1,λm h1 h2=>(h.2 m h1 h2).now r rfl⟩
  .split at h
   .rename_i hb0 _ ls hb;have e2:=sV hb t';have hsz:=yj hb t';subst e2;refine XM hc p9 s Y H _ us Q I rs ⟨a,ls,rfl,q,?_,λm h1 h2=>(h m h1 h2).now r ⟨rfl,hsz m h1⟩⟩;exact XN (by assumption) hb
   .exact h.elim
 .exact h.elim
theorem XS:bootBuiltins "min"=some (.builtin "min"):=by ac_rfl
theorem XX:bh X (.type "str") (iJ X.K .str):=by
 intro p9 s Y H xs us Q I r h;obtain ⟨F,G,ds,rr,t,h⟩:=h;generalize ea:ds.map (view G)=va at h;simp only[opB,vZ]at h;split at h
 .rename_i i;obtain ⟨d',rfl,ev⟩:=map_one ea;obtain ⟨v',rfl,rv⟩:=bD t;have e1:=dY ev;subst e1;have e2:v'=.int i:=rv;subst e2;obtain ⟨⟨h0,h1⟩,h2⟩:=h;have hm:(i.toNat:Int)=i:=Int.toNat_of_nonneg h0;have hl:(gK i.toNat).length<=3:=by
   have:=digits_le ⟨i.toNat,!0⟩;unfold gK;rw[cp];exact this
  have hs:=h2.now rr (v:=.str (tx (gK i.toNat))) ⟨rfl,by have hz:sz=1000000:=rfl;omega⟩;have ht:tx (gK i.toNat)=vM i.toNat:=(qU _).symm;rw[ht]at hs;exact Vx p9 s Y H _ us Q I r ⟨i.toNat,by rw[hm],!0,hs⟩
 .exact h.elim
def dg:D->Option AL
 |.non=>some "NoneType"
 |.bl _=>some "bool"
 |.int _=>some "int"
 |.str _=>some "str"
 |.tup _=>some "tuple"
 |.lst _=>some "list"
 |_=>none
theorem X3{K:PF}{H:Hp}{F:FZ}{G:DH}{d:D}{v:V}{T:AL}(r:R K H F G)(h:Rep K H F d v)(e:dg (view G d)=some T):TyOf K H v (.type T):=by
 have h':=sO r h;generalize view G d=w at e h';cases w with
 |non=>have e1:v=.non:=h';subst e1;simp only[dg,a8]at e;subst e;exact .non
 |bl x=>have e1:v=.bl x:=h';subst e1;simp only[dg,a8]at e;subst e;exact .bl x
 |int i=>have e1:v=.int i:=h';subst e1;simp only[dg,a8]at e;subst e;exact .int i
 |str l=>obtain ⟨e1,hl⟩:=h';subst e1;simp only[dg,a8]at e;subst e;exact .str _
 |tup l=>obtain ⟨a,vs,e1,q,t⟩:=h';subst e1;simp only[dg,a8]at e;subst e;exact .tup q.it
 |lst l=>obtain ⟨a,vs,e1,q,t⟩:=h';subst e1;simp only[dg,a8]at e;subst e;exact .lst q.2
 |ref a=>simp[dg]at e
 |scr a=>simp[dg]at e
 |exn a=>simp[dg]at e
 |exa _ _ _=>simp[dg]at e
 |obj _ _ _=>simp[dg]at e
 |dct _ _=>simp[dg]at e
def X4 (K:PF):Prop:=∀T t:AL,T∈["NoneType","bool","int","str","tuple","list"]->fV t=true->PySem.W.kitOne K (.type T) (.type t)=some (T==t||(T=="bool"&&t=="int"))
theorem X5{K:PF}:X4 K:=by intro T t hT ht;simp only[a7,eg,or_false]at hT;simp only[fV,cy,av]at ht;rcases hT with rfl |rfl |rfl |rfl |rfl |rfl <;> rcases ht with (((rfl |rfl) |rfl) |rfl) |rfl <;> (with_unfolding_all rfl)
theorem X6 {d:D} {t:AL} {b:Bool} (e:isT t d=some b):∃T,dg d=some T/\T∈["NoneType","bool","int","str","tuple","list"]/\(fV t=true->b=(T==t||(T=="bool"&&t=="int"))):=by
 have comm:∀a b:AL,(a==b)=(b==a):=λa b=>by rw[Bool.eq_iff_iff,av,av];exact ⟨Eq.symm,Eq.symm⟩
 cases d with
 |non=>
  refine ⟨"NoneType",rfl,by simp,λht=>?_⟩;simp only[isT,a8]at e;simp only[fV,cy,av]at ht;subst e;rcases ht with (((rfl |rfl) |rfl) |rfl) |rfl <;> rfl
 |bl _=>
  refine ⟨"bool",rfl,by simp,λht=>?_⟩;simp only[isT,a8]at e;rw[<-e,comm t "bool"];rfl
 |int _=>
  refine ⟨"int",rfl,by simp,λht=>?_⟩;simp only[isT,a8]at e;rw[<-e,comm t "int"];simp
 |str _=>
  refine ⟨"str",rfl,by simp,λht=>?_⟩;simp only[isT,a8]at e;rw[<-e,comm t "str"];simp
 |tup _=>
  refine ⟨"tuple",rfl,by simp,λht=>?_⟩;simp only[isT,a8]at e;rw[<-e,comm t "tuple"];simp
 |lst _=>
  refine ⟨"list",rfl,by simp,λht=>?_⟩;simp only[isT,a8]at e;rw[<-e,comm t "list"];simp
 |ref a=>simp[isT]at e
 |scr a=>simp[isT]at e
 |exn a=>simp[isT]at e
 |exa _ _ _=>simp[isT]at e
 |obj _ _ _=>simp[isT]at e
 |dct _ _=>simp[isT]at e
theorem Ft(s:AA):∀ls:List (AA),Str.join (tx s) (ls.map tx)=tx (d7 s ls)
 |[]=>rfl
 |[x]=>rfl
 |x::y::r=>by
  have ih:=Ft s (y::r);show tx x++tx s++Str.join (tx s) ((y::r).map tx)=_;rw[ih,qT,qT];rfl
theorem Fv(s:AA):∀ls:List (AA),(d7 s ls).length<=(ls.map (·.length)).sum+ls.length * s.length
 |[]=>by simp[d7]
 |[x]=>by simp[d7]
 |x::y::r=>by
  have ih:=Fv s (y::r);simp only[d7,aI,a9,List.sum_cons,c6]at ih ⊢;have:(r.length+1+1) * s.length=(r.length+1) * s.length+s.length:=by rw[Nat.succ_mul]
  omega
def jT(K:PF)(m:Mf):V->AR->Hp->VK->Prop:=λx vs H Q=>∃F G d ds,R K H F G/\Rep K H F d x/\Reps K H F ds vs/\opM m d ds G (PV K H F Q)
theorem X7:MtR X "str.join" (jT X.K .join):=by
 intro p9 s Y H x xs v us Q I rx rs h;obtain ⟨F,G,d,ds,r,rd,t,h⟩:=h;simp only[opM]at h;generalize ea:ds.map (view G)=va at h;simp only[rG]at h;split at h
 .obtain ⟨d',rfl,ev⟩:=map_one ea;obtain ⟨v',rfl,rv⟩:=bD t;obtain ⟨a,vs,e,q,t'⟩:=Rep.list r rv ev;subst e;obtain ⟨e1,hl⟩:=rd;subst e1;split at h
  .rename_i ls hls;have e2:=sV hls t';subst e2;refine Ui p9 s Y H _ _ v us Q I rx rs ⟨_,a,_,rfl,rfl,q,?_,?_⟩
   .have hz:=h.1;rw[dc,ag,bV,show (λx:Str=>x.length)∘tx=λl=>l.length from funext bV];have:sz=1000000:=rfl;omega
   .rw[Ft];exact h.2.now r ⟨rfl,ce (Fv _ _) h.1⟩
  .exact h.elim
 .exact h.elim
theorem X8:MtM X "list.append" (jT X.K .append):=by
 intro p9 s Y H x xs v us Q I rx rs h;obtain ⟨F,G,d,ds,r,rd,t,h⟩:=h;simp only[opM,rH]at h;split at h
 .obtain ⟨v',rfl,rv⟩:=bD t;have e1:x=.ref _:=rd;subst e1;split at h
  .rename_i ds0 hg;obtain ⟨vs,q,t'⟩:=r.lst hg;refine T3 p9 s Y H _ _ v us Q I rx rs ⟨_,vs,v',rfl,rfl,q,?_,?_⟩
   .rw[<-t'.length];exact bi h.1 szl
   .exact h.2 _ _ _ (jB r hg) (r.write hg (t'.append (Reps.cons rv Reps.nil))) rfl
  .exact h.elim
 .exact h.elim
theorem Yb:MtR X "list.count" (jT X.K .count):=by
 intro p9 s Y H x xs v us Q I rx rs h;obtain ⟨F,G,d,ds,r,rd,t,h⟩:=h;simp only[opM]at h;generalize ea:view G d=va at h;simp only[rM]at h;split at h
 .obtain ⟨a,vs,e,q,t'⟩:=Rep.list r rd ea;subst e;obtain ⟨v',rfl,rv⟩:=bD t;have e2:v'=.bl true:=rv;subst e2;split at h
  .rename_i bs hbs;have e3:=sU hbs t';subst e3;exact Vs p9 s Y H _ _ v us Q I rx rs ⟨a,bs,rfl,rfl,q,h.now r rfl⟩
  .exact h.elim
 .exact h.elim
theorem Yc:MtR X "list.index" (jT X.K .index):=by
 intro p9 s Y H x xs v us Q I rx rs h;obtain ⟨F,G,d,ds,r,rd,t,h⟩:=h;simp only[opM]at h;generalize ea:view G d=va at h;simp only[rN]at h;split at h
 .obtain ⟨a,vs,e,q,t'⟩:=Rep.list r rd ea;subst e;obtain ⟨v',rfl,rv⟩:=bD t;have e2:v'=.bl true:=rv;subst e2;split at h
  .rename_i bs hbs;have e3:=sU hbs t';subst e3;exact Vu p9 s Y H _ _ v us Q I rx rs ⟨a,bs,rfl,rfl,q,h.1,h.2.now r rfl⟩
  .exact h.elim
 .exact h.elim
theorem Yd:MtM X "list.pop" (jT X.K .pop):=by
 intro p9 s Y H x xs v us Q I rx rs h;obtain ⟨F,G,d,ds,r,rd,t,h⟩:=h;simp only[opM,rK]at h;split at h
 .rename_i i;obtain ⟨v',rfl,rv⟩:=bD t;have e1:x=.ref _:=rd;subst e1;have e2:v'=.int i:=rv;subst e2;split at h
  .rename_i ds0 hg;obtain ⟨h1,h2,h3⟩:=h;obtain ⟨vs,q,t'⟩:=r.lst hg;split at h3
   .rename_i y hy;obtain ⟨u,hu,ru⟩:=t'.get hy;have hlt:i.toNat < vs.length:=(ar.mp hu).1;refine T7 p9 s Y H _ _ v us Q I rx rs ⟨_,vs,i,i.toNat,u,rfl,rfl,q,!0,!0,?_,hu,?_⟩
    .unfold seqIndex?;have e3:¬i < 0:=by omega
     simp[e3];omega
    .rw[ee];rw[ee]at h3;have rw2:=r.write hg ((t'.take i.toNat).append (t'.drop (i.toNat+1)));exact h3 _ _ _ (jB r hg) rw2 (Rep.ext (jB r hg) ru)
   .exact h3.elim
  .exact h.elim
 .exact h.elim
theorem Ye{K:PF}{H:Hp}{F:FZ}{G:DH}{d:D}{v:V}{ds:AS}(r:R K H F G)(h:Rep K H F d v)(e:view G d=.lst ds):∃a vs,v=.ref a/\H a=some (.lst vs)/\Reps K H F ds vs:=by
 cases d with
 |lst xs=>
  have e':D.lst xs=.lst ds:=e;cases e';obtain ⟨a,vs,e1,q,t⟩:=h;exact ⟨a,vs,e1,q.2,t⟩
 |ref p=>
  have hv:v=.ref p:=h;unfold view at e;cases g:G p with
  |none=>simp only[g]at e;cases e
  |some o=>
   cases o with
   |lst xs=>
    simp only[g]at e;cases e;obtain ⟨vs,q,t⟩:=r.lst g;exact ⟨p,vs,hv,q,t⟩
   |dct _ _=>simp only[g]at e;cases e
 |_=>cases (show _=D.lst ds from e)
theorem Yg:MtM X "list.extend" (jT X.K .extend):=by
 intro p9 s Y H x xs v us Q I rx rs h;obtain ⟨F,G,d,ds,r,rd,t,h⟩:=h;simp only[opM]at h;generalize ea:ds.map (view G)=va at h;simp only[rJ]at h;split at h
 .obtain ⟨d',rfl,ev⟩:=map_one ea;obtain ⟨v',rfl,rv⟩:=bD t;obtain ⟨b,vs2,e2,q2,t2⟩:=Ye r rv ev;subst e2;have e1:x=.ref _:=rd;subst e1;split at h
  .rename_i ds0 hg;obtain ⟨vs,q,t'⟩:=r.lst hg;refine T5 p9 s Y H _ _ v us Q I rx rs ⟨_,b,vs,vs2,rfl,rfl,q,q2,?_,?_⟩
   .rw[<-t'.length,<-t2.length];exact Nat.le_of_lt (bi h.1 szl)
   .exact h.2 _ _ _ (jB r hg) (r.write hg (t'.append t2)) rfl
  .exact h.elim
 .exact h.elim
theorem Fw:∀{ks:List (List Int)}{kv:List (List Key×V)}{n:List Int}{i:Nat}(v:V),kv.map (·.1)=ks.map bj->(kv.map (·.1)).Nodup->kIx ks n=some i->
  (kv.map λp=>if p.1=bj n then (p.1,v) else p).map (·.2)=(kv.map (·.2)).set i v
 |[],_,n,i,v,h,_,e=>by cases e
 |k::ks,[],n,i,v,h,_,_=>by cases h
 |k::ks,p::kv,n,i,v,h,nd,e=>by
  have h1:p.1=bj k:=(gV h).1;have h2:kv.map (·.1)=ks.map bj:=(gV h).2;obtain ⟨nd1,nd2⟩:=d4.mp nd;unfold kIx at e;rw[eM]at e;by_cases z:k=n
  .subst z;rw[if_pos (by simp)]at e;cases e;rw[a9,if_pos h1,a9,a9,List.set_cons_zero];congr 2;rw[d0 (g:=id)]
   .exact List.map_id _
   .intro q hq;exact if_neg λz=>nd1 (bX.mpr ⟨q,hq,z.trans h1.symm⟩)
  .rw[if_neg (!!z)]at e;obtain ⟨j,hj,rfl⟩:=br.mp e;rw[a9,if_neg (by rw[h1];exact λw=>z (Ez w)),a9,a9,List.set_cons_succ,Fw v h2 nd2 hj]
theorem KT.fst{H:Hp}{kv:List (List Key×V)}{xs:List (List Key×AQ×AN)}(r:KT H kv xs):kv.map (·.1)=xs.map (·.1):=by
 induction r with
 |nil=>rfl
 |cons h t ih=>rw[a9,a9,h.1,ih]
theorem Fx{kv:List (List Key×V)}{k:List Key}{v:V}(h:(cg kv k).isSome=true):putD kv k v=kv.map λp=>if p.1=k then (p.1,v) else p:=by unfold putD;rw[rm,if_pos h]
theorem Yh(hu:X.A.units+100 < cLine):vh X (λo i x H Q=>∃F G a b c,R X.K H F G/\Rep X.K H F a o/\Rep X.K H F b i/\Rep X.K H F c x/\dN a b c G (λG'=>∀H' F',Ext H F H' F'->R X.K H' F' G'->Q H')):=by
 intro p9 s Y H o i v ov iv u Q I ro ri rv h;obtain ⟨F,G,a,b,c,r,ra,rb,rc,h⟩:=h;unfold dN at h;split at h
 .have e1:o=.ref _:=ra;subst e1;split at h
  .rename_i ds hg;obtain ⟨vs,q,t⟩:=r.lst hg;split at h
   .have e2:i=.int _:=rb;subst e2;split at h
    .rename_i j hj;refine set_list p9 s Y H _ _ v ov iv u Q I ro ri rv ⟨_,vs,_,j,rfl,rfl,q,by rw[<-t.length];exact hj,?_⟩;exact h _ _ (jB r hg) (r.write hg (t.set rc j))
    .exact h.elim
   .exact h.elim
  .rename_i ks ds hg;obtain ⟨n,bb,⟨hz,q⟩,e1,eb,_⟩:=mz rb h;obtain ⟨kv,hp,hk,t⟩:=r.dct hg;subst e1;cases ro;have hl:=eK List.length hk;rw[ag,ag]at hl;have nd:(kv.map (·.1)).Nodup:=by
    obtain ⟨_,_,xs,rel,_,_,_,_,_,_,_,_,nd⟩:=rn I.hok hp;rw[KT.fst rel];exact nd
   refine Wi (!0) I (DPut.t hp eb (by rw[hl];exact bi hz (cV (ax _)))) ri rv λs' I'=>⟨_,I',?_⟩;refine q _ _ (vU r hg) ?_;unfold dput;cases e:kIx ks n with
   |some j=>
    have hs:(cg kv (bj n)).isSome=true:=by rw[sS hk,e];rfl
    refine r.dctAt (vU r hg) (r.notFD hg) ?_ ?_
    .rw[Fx hs,dc,<-hk];refine d0 λp _=>?_;show (if p.1=bj n then (p.1,v) else p).1=p.1;split <;> rfl
    .rw[Fx hs,Fw v hk nd e];exact t.set rc j
   |none=>
    have hs:cg kv (bj n)=none:=by have:=sS (n:=n) hk;rw[e]at this;exact ef.mp (by rw[<-Option.not_isSome,this];rfl)
    refine r.dctAt (vU r hg) (r.notFD hg) ?_ ?_
    .rw[Dw v hs,c9,c9,hk];rfl
    .rw[Dw v hs,c9];exact t.append ⟨_,_,rfl,rc,rfl⟩
  .exact h.elim
 .exact h.elim
theorem Yi(op:Operator):PIp X op (λx y H Q=>∃F G a b,R X.K H F G/\Rep X.K H F a x/\Rep X.K H F b y/\eV op a b (λd=>PV X.K H F Q d G)):=by
 intro p9 s Y H x y v u Q I rx ry h;obtain ⟨F,G,a,b,r,ra,rb,h⟩:=h;unfold eV at h;split at h
 .have e1:x=.int _:=ra;have e2:y=.int _:=rb;subst e1;subst e2;exact RM p9 s Y H _ _ v u Q I rx ry ⟨_,_,rfl,rfl,h.now r rfl⟩
 .obtain ⟨e1,l1⟩:=ra;obtain ⟨e2,l2⟩:=rb;subst e1;subst e2;refine R4 p9 s Y H _ _ v u Q I rx ry ⟨_,_,rfl,rfl,by rw[bV,bV];exact cV h.1,?_⟩;rw[qT];exact h.2.now r ⟨rfl,by rw[aI];exact h.1⟩
 .have e1:x=.int _:=ra;have e2:y=.int _:=rb;subst e1;subst e2;exact RN p9 s Y H _ _ v u Q I rx ry ⟨_,_,rfl,rfl,h.now r rfl⟩
 .exact h.elim
end
inductive SK where
 |lst (a:AQ) |tup (a:AQ) |str (x:Str) (t:Tok)
def SK.val:SK->AN
 |.lst a=>.ref a
 |.tup a=>.ref a
 |.str x t=>.str x t
def SK.cls:SK->AL
 |.lst _=>"list_iterator"
 |.tup _=>"tuple_iterator"
 |.str x _=>strIterType x
def SK.obj(k:SK):Obj:={ cls:=.type k.cls,data:=.fields #[k.val,.int 0 0] }
def SK.pos(k:SK)(it:AQ)(i:Nat)(h:Heap):Prop:=∃o,h.get? it=some o/\o.cls=.type k.cls/\o.data=.fields #[k.val,.int i 0]
def SK.Sat(H:Hp)(vs:AR):SK->Prop
 |.lst a=>H a=some (.lst vs)
 |.tup a=>H a=some (.tup vs)
 |.str x _=>vs=x.cps.toList.map λc=>V.str ⟨#[c]⟩
def SK.No(e:AQ):SK->Prop
 |.lst a=>a≠e
 |.tup a=>a≠e
 |.str _ _=>True
def SK.Sat.no{H:Hp}{vs:AR}{k:SK}{e:AQ}(h:k.Sat H vs)(he:H e=none):k.No e:=by
 cases k with
 |lst a=>exact aZ (show H a=some _ from h) he
 |tup a=>exact aZ (show H a=some _ from h) he
 |str x t=>trivial
def SK.On(its:Array AN)(h:Heap):SK->Prop
 |.lst a=>h.IsList a its
 |.tup a=>h.IsTuple a its
 |.str _ _=>True
def SK.On.keeps{its:Array AN}{h h':Heap}{k:SK}(x:k.On its h)(kk:∀b o,k.val=.ref b->h.get? b=some o->h'.get? b=some o):k.On its h':=by
 cases k with
 |lst a=>obtain ⟨o,e,r⟩:=x;exact ⟨o,kk a o rfl e,r⟩
 |tup a=>obtain ⟨o,e,r⟩:=x;exact ⟨o,kk a o rfl e,r⟩
 |str _ _=>trivial
section
variable {prog:AK} {w:World} {A:AM} {E:AG} {s:AI}
theorem SK.iter{k:SK}{its:Array AN}{Q:AG}(h:k.On its s.heap)(q:Q (.ref (~~~s)) { s with heap:=s.heap.push k.obj }):wpAny (model prog w) A (pyIter k.val) Q E s:=by
 cases k with
 |lst a=>exact gX h q
 |tup a=>exact wpAny_pyIter_tuple h q
 |str x t=>exact wpAny_pyIter_strU q
theorem SK.pos0{k:SK}{h:Heap}:k.pos h.objs.size 0 (h.push k.obj):=⟨_,aS _ rfl,rfl,rfl⟩
theorem SK.pos.keep{k:SK}{it:AQ}{i:Nat}{h h':Heap}(x:k.pos it i h)(kk:∀o,h.get? it=some o->h'.get? it=some o):k.pos it i h':=let ⟨o,e,r⟩:=x;⟨o,kk o e,r⟩
theorem Yj{it t:AQ}{i:Nat}{items}{x:AN}{Q:AG}(hit:s.heap.IsTupleIter it t i)
  (ht:s.heap.IsTuple t items) (hx:items[i]?=some x)
  (hQ:∀h',h'.IsTupleIter it t (i+1)->Heap.SameBut it s.heap h'->Q x { s with heap:=h' }):
  wpAny (model prog w) A (Builtin.SmallTypes.nextOf (.ref it)) Q E s:=by
 obtain ⟨o,ho,hc,hd⟩:=id hit;obtain ⟨ol,hol,_,nl,hdl⟩:=ht;unfold Builtin.SmallTypes.nextOf;refine af (df (name:=⇑"__next__") hit.typeIs gi
  (eR gi hit.typeIs F.entry_tuple_iterator_next ?_ (F.args_tuple_iterator_next_1 _)))
 show wpAny _ _ (field (.ref it) 0 >>= _) _ _ s;refine af (dy ho hd (x:=.ref t) rfl ?_);show wpAny _ _ (if (Value.ref t==Value.none)=true then _ else _) _ _ s;rw[if_neg (show ¬((Value.ref t==Value.none)=true) from bP)];show wpAny _ _ (field (.ref it) 1 >>= _) _ _ s;refine af (dy ho hd (x:=.int i 0) rfl ?_);show wpAny _ _ (seqItems? (.ref t) >>= _) _ _ s;refine af (eW hol hdl ?_);simp only[cb,hx];refine af (wpAny_setField ho hd (by simp) (ai ⟨x,rfl,ai (hQ _ ?_ (Heap.SameBut.update ..))⟩));exact ⟨_,Heap.get?_update_self _ ho (Obj.isFreed_of_fields (Obj.data_mapFields hd _)),(Obj.cls_mapFields ..).trans hc,by
  rw[Obj.data_mapFields hd];simp[rawInt]⟩
theorem Yk{it t:AQ}{i:Nat}{items}{Q:AG}(hh:A.handled=none)
  (hit:s.heap.IsTupleIter it t i) (ht:s.heap.IsTuple t items) (hx:items[i]?=none)
  (hE:∀h' e,Heap.ExtBut it s.heap h'->(∃o,h'.get? e=some o/\o.cls=.type "StopIteration")->E (.ref e) { s with heap:=h' }):
  wpAny (model prog w) A (Builtin.SmallTypes.nextOf (.ref it)) Q E s:=by
 obtain ⟨o,ho,hc,hd⟩:=id hit;obtain ⟨ol,hol,_,nl,hdl⟩:=ht;unfold Builtin.SmallTypes.nextOf;refine af (df (name:=⇑"__next__") hit.typeIs gi
  (eR gi hit.typeIs F.entry_tuple_iterator_next ?_ (F.args_tuple_iterator_next_1 _)))
 show wpAny _ _ (field (.ref it) 0 >>= _) _ _ s;refine af (dy ho hd (x:=.ref t) rfl ?_);show wpAny _ _ (if (Value.ref t==Value.none)=true then _ else _) _ _ s;rw[if_neg (show ¬((Value.ref t==Value.none)=true) from bP)];show wpAny _ _ (field (.ref it) 1 >>= _) _ _ s;refine af (dy ho hd (x:=.int i 0) rfl ?_);show wpAny _ _ (seqItems? (.ref t) >>= _) _ _ s;refine af (eW hol hdl ?_);simp only[cb,hx];refine af (gg (af (wpAny_setField ho hd (by simp) ?_)));show wpAny _ _ (newExc (.type "StopIteration") [] >>= _) _ _ _;refine af ?_;simp only[newExc,newTuple];refine af (e9 ?_ (by size_fits));refine af (m:=firstArgMember _ _) (wpAny_of_eq (a:=Value.none) (by first |rfl | (simp only[firstArgMember];rfl)) ?_);refine e9 ?_ (by size_fits);simp only[raiseNew];refine af (wpAny_handled ?_);first |rw[show A.in1.handled=none from hh] |rw[hh]
 refine af (ai (wpAny_throw ?_));exact hE _ _ (((Heap.SameBut.update ..).extBut.push _).push _) ⟨_,aS _ rfl,rfl⟩
theorem Yl(hh:A.handled=none)(it l:AQ)(hne:l≠it)(items:Array AN):
  Draws prog w A it [it,l] items.size (λi v=>items[i]?=some v) (λi h=>h.IsTupleIter it l i/\h.IsTuple l items) where
 live:=λ_ _ st=>let ⟨o,ho,_⟩:=st.1;⟨o,ho⟩
 frame:=λ_ _ _ st hk=>⟨let ⟨o,e,r⟩:=st.1;⟨o,hk it (by simp) o e,r⟩,let ⟨o,e,r⟩:=st.2;⟨o,hk l (by simp) o e,r⟩⟩
 item:=λi s Q E hi st hQ=>by
  refine Yj st.1 st.2 (x:=items[i]) (by simp[hi]) λh' hit' hs'=>?_;exact hQ _ h' s.toks (by simp[hi]) ⟨hit',let ⟨o,e,r⟩:=st.2;⟨o,hs'.extBut l o hne e,r⟩⟩ hs'
 done:=λs Q E st hE=>Yk hh st.1 st.2 (by simp) hE
end
structure Drawn(P:AK)(w:World)(A:AM)(k:SK)(it:AQ)(i:Nat)(vs:AR)(h:Heap)(fp:List AQ)(Pd:Nat->AN->Prop)(S:Nat->Heap->Prop):Prop where
 D:Draws P w A it fp vs.length Pd S
 st:S i h
 val:∀j v,Pd j v->∃x,vs[j]?=some x/\RelV x v
 pos:∀j h,S j h->k.pos it j h
 fp:∀b∈fp,b=it\/k.val=.ref b
def drawn{X:Cx}{p9:AC}{Y:L2.St}{H:Hp}{s:AI}{A:AM}(hh:A.handled=none)(I:Inv X p9 Y H s){k:SK}{it:AQ}{i:Nat}{vs:AR}(sat:k.Sat H vs)(hit:H it=none)(p:k.pos it i s.heap):
  ∃fp Pd S,Drawn X.prog X.w A k it i vs s.heap fp Pd S:=by
 cases k with
 |lst a=>
  have sat:H a=some (.lst vs):=sat;obtain ⟨its,r,pl,_⟩:=I.list (SqL.of sat);refine ⟨[it,a],λj v=>its.toArray[j]?=some v,λj h=>h.IsListIter it a j/\h.IsList a its.toArray,?_,⟨p,pl.isList⟩,?_,λj h st=>st.1,?_⟩
  .have D:=Draws.list (prog:=X.prog) (w:=X.w) hh it a (aZ sat hit) its.toArray;rw[am,<-r.length]at D;exact D
  .intro j v e;have e:its.toArray[j]?=some v:=e;have hj:j < vs.length:=by
    rw[r.length];have:=(fN.mp e).1;simpa using this
   obtain ⟨u,e2,r2⟩:=r.get (show vs[j]?=some vs[j] by simp[hj]);refine ⟨vs[j],by simp[hj],?_⟩;have:its[j]?=some v:=by simpa using e
   rw[this]at e2;cases e2;exact r2
  .intro b hb;have hb:b=it\/b=a:=by simpa using hb
   rcases hb with e |e
   .exact .inl e
   .exact .inr (by rw[e];rfl)
 |tup a=>
  have sat:H a=some (.tup vs):=sat;obtain ⟨its,r,pl,_⟩:=I.tuple (SqT.of sat);refine ⟨[it,a],λj v=>its.toArray[j]?=some v,λj h=>h.IsTupleIter it a j/\h.IsTuple a its.toArray,?_,⟨p,pl⟩,?_,λj h st=>st.1,?_⟩
  .have D:=Yl (prog:=X.prog) (w:=X.w) hh it a (aZ sat hit) its.toArray;rw[am,<-r.length]at D;exact D
  .intro j v e;have e:its.toArray[j]?=some v:=e;have hj:j < vs.length:=by
    rw[r.length];have:=(fN.mp e).1;simpa using this
   obtain ⟨u,e2,r2⟩:=r.get (show vs[j]?=some vs[j] by simp[hj]);refine ⟨vs[j],by simp[hj],?_⟩;have:its[j]?=some v:=by simpa using e
   rw[this]at e2;cases e2;exact r2
  .intro b hb;have hb:b=it\/b=a:=by simpa using hb
   rcases hb with e |e
   .exact .inl e
   .exact .inr (by rw[e];rfl)
 |str x t=>
  have sat:vs=x.cps.toList.map λc=>V.str ⟨#[c]⟩:=sat;refine ⟨[it],λi v=>∃c u,x.cps[i]?=some c/\v=.str ⟨#[c]⟩ u,λi h=>h.IsStrIter it (strIterType x) x t i,?_,p,?_,λj h st=>st,?_⟩
  .have D:=Us (prog:=X.prog) (w:=X.w) hh it x t;have e:x.cps.size=vs.length:=by rw[sat,ag,cp]
   rw[e]at D;exact D
  .rintro j v ⟨c,u,e1,e2⟩;refine ⟨V.str ⟨#[c]⟩,?_,u,e2⟩;rw[sat,b9,eP,e1];rfl
  .intro b hb;exact .inl (!!hb)
def Jk(k:SK):It:=⟨λi H=>∃vs,k.Sat H vs/\i < vs.length,λi H x H'=>H'=H/\∀vs,k.Sat H vs->vs[i]?=some x,λi H=>∃vs,k.Sat H vs/\vs.length=i⟩
def Je(k:SK):It:=⟨λi H=>∃vs,k.Sat H vs/\i < vs.length,λi H x H'=>∃T y,H T=none/\x=.ref T/\H'=upd H T (.tup [.int i,y])/\∀vs,k.Sat H vs->vs[i]?=some y,λi H=>∃vs,k.Sat H vs/\vs.length=i⟩
def yl{H:Hp}{k:SK}{vs ws:AR}(h:k.Sat H vs)(h':k.Sat H ws):vs=ws:=by
 cases k with
 |lst a=>have e:=(show H a=some _ from h).symm.trans h';cases e;rfl
 |tup a=>have e:=(show H a=some _ from h).symm.trans h';cases e;rfl
 |str x t=>exact (show vs=_ from h).trans (show ws=_ from h').symm
def Ym{P:AK}{w:World}{K:PF}{elts:AE}{x1:Nat}{pos:Pos}(k:SK)(e it:AQ)(hne:e≠it):
  Turn P w K (.Tuple elts x1 pos) (Je k) [e,it] e (λi h=>(∃old,IsEnum h e it i old)/\k.pos it i h) where
 mem:=by simp
 obj:=λi h st b hb=>by
  obtain ⟨⟨old,he⟩,o,ho,c,d⟩:=st;have hb:b=e\/b=it:=by simpa using hb
  rcases hb with rfl |rfl
  .exact ⟨_,he,λv z=>by have z':Data.fields _=Data.cell v:=z;cases z'⟩
  .exact ⟨o,ho,λv z=>by rw[d]at z;cases z⟩
 keep:=λi h h' st kk=>⟨let ⟨old,he⟩:=st.1;⟨old,kk e (by simp) _ he⟩,st.2.keep λo ho=>kk it (by simp) o ho⟩
 item:=by
  intro X hP hw hK hc i p9 s Y H E I hf st hg;subst hP hw hK;obtain ⟨vs,sat,hi⟩:=hg;obtain ⟨⟨old,he⟩,hit⟩:=st;have hfe:=hf e (by simp);have hfi:=hf it (by simp);obtain ⟨fp,Pd,S,Dr⟩:=drawn (A:=X.A.in1) (I.ok.hd hc) I sat hfi.1 hit;have helt:e < (~~~s):=ay he;have hef:e∉fp:=λhb=>by
   rcases Dr.fp e hb with z |z
   .exact hne z
   .have:=sat.no hfe.1;cases k with
    |lst a=>cases z;exact this rfl
    |tup a=>cases z;exact this rfl
    |str _ _=>cases z
  refine wpAny_pyNext_enum_itemD Dr.D he Dr.st hi hne hef λu h1 tk hu heo hit1 ht1 hz1 hk1=>?_;obtain ⟨x,hx,ru⟩:=Dr.val _ _ hu;refine ⟨_,rfl,?_⟩;refine wpAny_letOwnedTupleGo_enum heo λh2 he2 hs2=>?_;have hs2':Heap.SameBut e h1 h2:=hs2;have hn:H (~~~s)=none:=I.hok.fresh (ax _);have k2:∀b o,b∉[e,it]->s.heap.get? b=some o->h2.get? b=some o:=λb o hb q=>by
   have hb':b≠e/\b≠it:=by simpa using hb
   exact hs2'.extBut b o hb'.1 (hk1 b o hb'.1 hb'.2 q)
  have I2:Inv X p9 Y H { s with heap:=h2,toks:=tk+1 }:=I.turnedL hf k2;have ht2:h2.get? (~~~s)=some { cls:=.type "tuple",data:=.seq #[.int i tk,u] }:=hs2'.extBut _ _ (fR helt) ht1;have ob:ObjOk X.prog X.w (upd H (~~~s) (.tup [.int i,x])) h2 (~~~s) (.tup [.int i,x]):=
   ⟨by rw[fw];simp,[.int i tk,u],.cons ⟨_,rfl⟩ (.cons ru .nil),⟨_,ht2,rfl,_,rfl⟩⟩
  have I3:=I2.track (I.fpOk (ax _) hn) ob;have nee:(~~~s)≠e:=fR helt;have nei:(~~~s)≠it:=by obtain ⟨o,ho,_⟩:=hit;exact fR (ay ho)
  refine ⟨.ref (~~~s),_,I3,rfl,⟨(~~~s),x,hn,rfl,rfl,λys hy=>by rw[yl hy sat];exact hx⟩,⟨⟨u,?_⟩,?_⟩,λb hb=>?_⟩
  .show IsEnum h2 e it (((i+1:Nat)):Int) u;rw[show (((i+1:Nat):Int))=(i:Int)+1 by omega];exact he2
  .exact (Dr.pos _ _ hit1).keep λo ho=>hs2'.extBut _ _ (Ne.symm hne) ho
  .have hb':b=e\/b=it:=by simpa using hb
   rw[aF (by rcases hb' with rfl |rfl;exact Ne.symm nee;exact Ne.symm nei)];exact (hf b hb).1
 done:=by
  intro X hP hw hK hc i p9 s Y H E I hf st hg;subst hP hw hK;obtain ⟨vs,sat,hi⟩:=hg;subst hi;obtain ⟨⟨old,he⟩,hit⟩:=st;have hfi:=hf it (by simp);obtain ⟨fp,Pd,S,Dr⟩:=drawn (A:=X.A.in1) (I.ok.hd hc) I sat hfi.1 hit;refine wpAny_pyNext_enum_endD Dr.D he Dr.st λh' eb=>⟨rfl,I.turnedL (t':=s.toks) hf λb o hb q=>?_⟩;have hb':b≠e/\b≠it:=by simpa using hb
  exact eb b o hb'.2 q
 self:=λA i s Q E st h=>by
  obtain ⟨⟨old,he⟩,_⟩:=st;exact wpAny_pyIter_enum he h
def Yn{P:AK}{w:World}{K:PF}{tg:AO}(k:SK)(it:AQ):Turn P w K tg (Jk k) [it] it (λi h=>k.pos it i h) where
 mem:=by simp
 obj:=λi h st b hb=>by
  have e:b=it:=by simpa using hb
  subst e;obtain ⟨o,e,c,d⟩:=st;exact ⟨o,e,λv z=>by rw[d]at z;cases z⟩
 keep:=λi h h' st kk=>st.keep λo e=>kk it (by simp) o e
 item:=by
  intro X hP hw hK hc i p9 s Y H E I hf st hg;obtain ⟨vs,sat,hi⟩:=hg;have hfi:=hf it (by simp);cases k with
  |lst a=>
   have sat':H a=some (.lst vs):=sat;refine cm ((Bg (tg:=tg) a it).item X hP hw hK hc i p9 s Y H E I hf st ⟨vs,vs[i],SqL.of sat',by simp[hi]⟩) ?_ (λ_ _ e=>e);rintro r s1 ⟨u,hr,h1⟩;refine ⟨u,hr,cm h1 ?_ (λ_ _ e=>e)⟩;rintro _ s2 ⟨x,H',I',rx,⟨e1,e2⟩,st',fr⟩;exact ⟨x,H',I',rx,⟨e1,λws hw'=>e2 ws (SqL.of (show H a=some (.lst ws) from hw'))⟩,st',fr⟩
  |tup a=>
   have sat':H a=some (.tup vs):=sat;refine cm ((Bh (tg:=tg) a it).item X hP hw hK hc i p9 s Y H E I hf st ⟨vs,vs[i],SqT.of sat',by simp[hi]⟩) ?_ (λ_ _ e=>e);rintro r s1 ⟨u,hr,h1⟩;refine ⟨u,hr,cm h1 ?_ (λ_ _ e=>e)⟩;rintro _ s2 ⟨x,H',I',rx,⟨e1,e2⟩,st',fr⟩;exact ⟨x,H',I',rx,⟨e1,λws hw'=>e2 ws (SqT.of (show H a=some (.tup ws) from hw'))⟩,st',fr⟩
  |str y t=>
   have sat':vs=y.cps.toList.map λc=>V.str ⟨#[c]⟩:=sat;have hlen:vs.length=y.cps.size:=by rw[sat',ag,cp]
   refine cm ((vy (tg:=tg) it y t).item X hP hw hK hc i p9 s Y H E I hf st (show i < y.cps.size by omega)) ?_ (λ_ _ e=>e);rintro r s1 ⟨u,hr,h1⟩;refine ⟨u,hr,cm h1 ?_ (λ_ _ e=>e)⟩;rintro _ s2 ⟨x,H',I',rx,⟨e1,c,e2,e3⟩,st',fr⟩;refine ⟨x,H',I',rx,⟨e1,λws hw'=>?_⟩,st',fr⟩;have hw':ws=y.cps.toList.map λc=>V.str ⟨#[c]⟩:=hw';rw[hw',e3,b9,eP,e2];rfl
 done:=by
  intro X hP hw hK hc i p9 s Y H E I hf st hg;obtain ⟨vs,sat,hi⟩:=hg;cases k with
  |lst a=>exact (Bg (tg:=tg) a it).done X hP hw hK hc i p9 s Y H E I hf st ⟨vs,SqL.of (show H a=some (.lst vs) from sat),!0⟩
  |tup a=>exact (Bh (tg:=tg) a it).done X hP hw hK hc i p9 s Y H E I hf st ⟨vs,SqT.of (show H a=some (.tup vs) from sat),!0⟩
  |str y t=>
   have sat':vs=y.cps.toList.map λc=>V.str ⟨#[c]⟩:=sat;have hlen:vs.length=y.cps.size:=by rw[sat',ag,cp]
   exact (vy (tg:=tg) it y t).done X hP hw hK hc i p9 s Y H E I hf st (show i=y.cps.size by omega)
 self:=λA i s Q E st h=>by
  cases k with
  |lst a=>exact wpAny_pyIter_listiter st h
  |tup a=>exact wpAny_pyIter_tupleiter st h
  |str y t=>exact (vy (K:=K) (tg:=tg) it y t).self A i s Q E st h
open Builtin Builtin.Str
section
variable {prog:AK} {w:World} {A:AM} {E:AG} {s:AI}
theorem Yo{z TI TO i1 i2:AQ}{k n1 n2:Nat}{fp1 fp2:List AQ}{P1 P2:Nat->AN->Prop}{S1 S2:Nat->Heap->Prop}{a b:AN}{Q:AG}(D:ZApart z TI TO i1 i2)
  (D1:Draws prog w A i1 fp1 n1 P1 S1) (D2:Draws prog w A i2 fp2 n2 P2 S2) (f1:∀c∈fp1,c≠z/\c≠TO/\c≠i2) (f2:∀c∈fp2,c≠z/\c≠TO/\c≠i1)
  (hz:IsZip s.heap z TI TO .none) (hTI:IsPair s.heap TI (.ref i1) (.ref i2)) (hTO:IsPair s.heap TO a b)
  (h1:S1 k s.heap) (h2:S2 k s.heap) (hx:k < n1) (hy:k < n2)
  (hQ:∀h' tk c d,P1 k c->P2 k d->IsZip h' z TI TO (rawInt (~~~s))->IsPair h' TO c d->S1 (k+1) h'->S2 (k+1) h'->
   IsPair h' (~~~s) c d->h'.objs.size=(~~~s)+1->
   (∀c o,c≠z->c≠TO->c≠i1->c≠i2->s.heap.get? c=some o->h'.get? c=some o)->Q (.ref (~~~s)) { s with heap:=h',toks:=tk }):
  wpAny (model prog w) A (Builtin.«zip.__next__» ⟨[.ref z],[]⟩) (λfin s'=>∃v,fin=.done (.ret v)/\Q v s') E s:=by
 have e1:∀{h h':Heap}{c:AQ}{j:Nat},S1 j h->Heap.ExtBut c h h'->(∀b∈fp1,b≠c)->S1 j h':=λq e n=>D1.frame _ _ _ q λb hb o y=>e b o (n b hb) y;have e2:∀{h h':Heap}{c:AQ}{j:Nat},S2 j h->Heap.ExtBut c h h'->(∀b∈fp2,b≠c)->S2 j h':=λq e n=>D2.frame _ _ _ q λb hb o y=>e b o (n b hb) y;have z1:∀b∈fp1,b≠z:=λb hb=>(f1 b hb).1;have t1:∀b∈fp1,b≠TO:=λb hb=>(f1 b hb).2.1;have j1:∀b∈fp1,b≠i2:=λb hb=>(f1 b hb).2.2;have z2:∀b∈fp2,b≠z:=λb hb=>(f2 b hb).1;have t2:∀b∈fp2,b≠TO:=λb hb=>(f2 b hb).2.1;have j2:∀b∈fp2,b≠i1:=λb hb=>(f2 b hb).2.2;show wpAny _ _ (field (.ref z) 2 >>= _) _ _ _;refine af (dy hz rfl (x:=.bool false) rfl ?_);show wpAny _ _ (field (.ref z) 3 >>= _) _ _ _;refine af (dy hz rfl (x:=.ref TI) rfl ?_);refine af (eW hTI rfl ?_);show wpAny _ _ (Builtin.SmallTypes.ownedTupleIsFree (.ref z) >>= _) _ _ _;refine af ?_;unfold Builtin.SmallTypes.ownedTupleIsFree;refine af (dy hz rfl (x:=.none) rfl (ai ?_));simp only[if_true];refine af (gg ?_);refine af (dy hz rfl (x:=.ref TO) rfl ?_);refine af (eT hz (by simp) λh₁ hz₁ hs₁=>?_);replace hz₁:IsZip h₁ z TI TO .ellipsis:=hz₁;replace hs₁:Heap.SameBut z s.heap h₁:=hs₁;refine af ?_;simp only[List.zipIdx_cons,List.zipIdx_nil,List.forIn_cons,List.forIn_nil];refine af (af (wpAny_onRaise ?_));show wpAny _ _ (Builtin.SmallTypes.nextOf (.ref i1) >>= _) _ _ _;refine af (D1.item k _ _ _ hx (e1 h1 hs₁.extBut z1) λc h₂ tk₂ hc h1₂ hs₂=>ai ?_);replace hs₂:Heap.SameBut i1 h₁ h₂:=hs₂;have hTO₂:IsPair h₂ TO a b:=hs₂.extBut _ _ D.TOi1 (hs₁.extBut _ _ D.TOz hTO);refine af (eW hTO₂ rfl ?_);refine af (wpAny_updateSeq_pair hTO₂ λh₃ hTO₃ hs₃=>?_);replace hTO₃:IsPair h₃ TO c b:=hTO₃;replace hs₃:Heap.SameBut TO h₂ h₃:=hs₃;refine af (wpAny_letGo (ai ?_));refine af (af (wpAny_onRaise ?_));show wpAny _ _ (Builtin.SmallTypes.nextOf (.ref i2) >>= _) _ _ _;refine af (D2.item k _ _ _ hy (e2 (e2 (e2 h2 hs₁.extBut z2) hs₂.extBut j2) hs₃.extBut t2) λd h₄ tk₄ hd h2₄ hs₄=>ai ?_);replace hs₄:Heap.SameBut i2 h₃ h₄:=hs₄;have hTO₄:IsPair h₄ TO c b:=hs₄.extBut _ _ D.TOi2 hTO₃;refine af (eW hTO₄ rfl ?_);refine af (wpAny_updateSeq_pair hTO₄ λh₅ hTO₅ hs₅=>?_);replace hTO₅:IsPair h₅ TO c d:=hTO₅;replace hs₅:Heap.SameBut TO h₄ h₅:=hs₅;refine af (wpAny_letGo (ai (ai ?_)));refine af (eW hTO₅ rfl ?_);refine af (wpAny_newTuple ?_);have hsz:h₅.objs.size=(~~~s):=by rw[hs₅.1,hs₄.1,hs₃.1,hs₂.1,hs₁.1]
 have hz₅:IsZip h₅ z TI TO .ellipsis:=hs₅.extBut _ _ D.TOz.symm (hs₄.extBut _ _ D.i2z.symm (hs₃.extBut _ _ D.TOz.symm (hs₂.extBut _ _ D.i1z.symm hz₁)));have hk₅:∀c o,c≠z->c≠TO->c≠i1->c≠i2->s.heap.get? c=some o->h₅.get? c=some o:=λc o c1 c2 c3 c4 e=>
  hs₅.extBut _ _ c2 (hs₄.extBut _ _ c4 (hs₃.extBut _ _ c2 (hs₂.extBut _ _ c3 (hs₁.extBut _ _ c1 e))))
 have h1₅:S1 (k+1) h₅:=e1 (e1 (e1 h1₂ hs₃.extBut t1) hs₄.extBut j1) hs₅.extBut t1;have h2₅:S2 (k+1) h₅:=e2 h2₄ hs₅.extBut t2;have hzlt:z < h₅.objs.size:=ay hz₅;show wpAny _ _ (Builtin.SmallTypes.ownedTupleHandOut (.ref z) (.ref h₅.objs.size) >>= _) _ _ _;refine af ?_;unfold Builtin.SmallTypes.ownedTupleHandOut;have hz₆:IsZip (h₅.push { cls:=.type "tuple",data:=.seq #[c,d] }) z TI TO .ellipsis:=ah _ hz₅;refine af (eT hz₆ (by simp) λh₇ hz₇ hs₇=>?_);replace hz₇:IsZip h₇ z TI TO (rawInt h₅.objs.size):=hz₇;refine eT hz₇ (by simp) λh₈ hz₈ hs₈=>?_;replace hz₈:IsZip h₈ z TI TO (rawInt h₅.objs.size):=hz₈;have up:∀c o,c≠z->h₅.get? c=some o->h₈.get? c=some o:=λc o c1 e=>hs₈.extBut _ _ c1 (hs₇.extBut _ _ c1 (ah _ e));have hT₈:IsPair h₈ h₅.objs.size c d:=hs₈.extBut _ _ (fR hzlt) (hs₇.extBut _ _ (fR hzlt) (aS _ rfl));have hz8:h₈.objs.size=h₅.objs.size+1:=by rw[hs₈.1,hs₇.1,dL]
 rw[hsz]at hz₈ hT₈ hz8;refine ai ⟨_,rfl,?_⟩;show Q (.ref h₅.objs.size) _;rw[hsz];exact hQ h₈ tk₄ c d hc hd hz₈ (up _ _ D.TOz hTO₅) (D1.frame _ _ _ h1₅ λb hb o y=>up b o (z1 b hb) y) (D2.frame _ _ _ h2₅ λb hb o y=>up b o (z2 b hb) y) hT₈ hz8 λc o c1 c2 c3 c4 e=>up c o c1 (hk₅ c o c1 c2 c3 c4 e)
theorem Yp{z TI TO i1 i2:AQ}{n1:Nat}{fp1:List AQ}{P1:Nat->AN->Prop}{S1:Nat->Heap->Prop}{a b:AN}{Q:Fin->AI->Prop}(D:ZApart z TI TO i1 i2)
  (D1:Draws prog w A i1 fp1 n1 P1 S1) (f1:∀c∈fp1,c≠z)
  (hz:IsZip s.heap z TI TO .none) (hTI:IsPair s.heap TI (.ref i1) (.ref i2)) (hTO:IsPair s.heap TO a b) (h1:S1 n1 s.heap)
  (hE:∀h' e,(∀c o,c≠z->c≠TO->c≠i1->c≠i2->s.heap.get? c=some o->h'.get? c=some o)->(∃o,h'.get? e=some o/\o.cls=.type "StopIteration")->E (.ref e) { s with heap:=h' }):
  wpAny (model prog w) A (Builtin.«zip.__next__» ⟨[.ref z],[]⟩) Q E s:=by
 show wpAny _ _ (field (.ref z) 2 >>= _) _ _ _;refine af (dy hz rfl (x:=.bool false) rfl ?_);show wpAny _ _ (field (.ref z) 3 >>= _) _ _ _;refine af (dy hz rfl (x:=.ref TI) rfl ?_);refine af (eW hTI rfl ?_);show wpAny _ _ (Builtin.SmallTypes.ownedTupleIsFree (.ref z) >>= _) _ _ _;refine af ?_;unfold Builtin.SmallTypes.ownedTupleIsFree;refine af (dy hz rfl (x:=.none) rfl (ai ?_));simp only[if_true];refine af (gg ?_);refine af (dy hz rfl (x:=.ref TO) rfl ?_);refine af (eT hz (by simp) λh₁ hz₁ hs₁=>?_);replace hz₁:IsZip h₁ z TI TO .ellipsis:=hz₁;replace hs₁:Heap.SameBut z s.heap h₁:=hs₁;refine af ?_;simp only[List.zipIdx_cons,List.zipIdx_nil,List.forIn_cons,List.forIn_nil];refine af (af (wpAny_onRaise ?_));show wpAny _ _ (Builtin.SmallTypes.nextOf (.ref i1) >>= _) _ _ _;refine af (D1.done _ _ _ (D1.frame _ _ _ h1 λb hb o y=>hs₁.extBut b o (f1 b hb) y) λh₂ e hs₂ he=>?_);obtain ⟨oe,hoe,hce⟩:=he;have hz₂:IsZip h₂ z TI TO .ellipsis:=hs₂ _ _ D.i1z.symm hz₁;have hez:e≠z:=λx=>by subst x;rw[hz₂]at hoe;cases hoe;simp at hce
 refine eT hz₂ (by simp) λh₃ _ hs₃=>hE h₃ e (λc o c1 _ c3 _ x=>hs₃.extBut _ _ c1 (hs₂ _ _ c3 (hs₁.extBut _ _ c1 x))) ⟨oe,hs₃.extBut _ _ hez hoe,hce⟩
theorem Yq{z TI TO i1 i2:AQ}{k n1 n2:Nat}{fp1 fp2:List AQ}{P1 P2:Nat->AN->Prop}{S1 S2:Nat->Heap->Prop}{a b:AN}{Q:Fin->AI->Prop}(D:ZApart z TI TO i1 i2)
  (D1:Draws prog w A i1 fp1 n1 P1 S1) (D2:Draws prog w A i2 fp2 n2 P2 S2) (f1:∀c∈fp1,c≠z/\c≠TO/\c≠i2) (f2:∀c∈fp2,c≠z/\c≠TO/\c≠i1)
  (hz:IsZip s.heap z TI TO .none) (hTI:IsPair s.heap TI (.ref i1) (.ref i2)) (hTO:IsPair s.heap TO a b) (h1:S1 k s.heap) (h2:S2 k s.heap) (hx:k < n1) (hy:k=n2)
  (hE:∀h' tk e,(∀c o,c≠z->c≠TO->c≠i1->c≠i2->s.heap.get? c=some o->h'.get? c=some o)->(∃o,h'.get? e=some o/\o.cls=.type "StopIteration")->E (.ref e) { s with heap:=h',toks:=tk }):
  wpAny (model prog w) A (Builtin.«zip.__next__» ⟨[.ref z],[]⟩) Q E s:=by
 have e1:∀{h h':Heap}{c:AQ}{j:Nat},S1 j h->Heap.ExtBut c h h'->(∀b∈fp1,b≠c)->S1 j h':=λq e n=>D1.frame _ _ _ q λb hb o y=>e b o (n b hb) y;have e2:∀{h h':Heap}{c:AQ}{j:Nat},S2 j h->Heap.ExtBut c h h'->(∀b∈fp2,b≠c)->S2 j h':=λq e n=>D2.frame _ _ _ q λb hb o y=>e b o (n b hb) y;have z1:∀b∈fp1,b≠z:=λb hb=>(f1 b hb).1;have z2:∀b∈fp2,b≠z:=λb hb=>(f2 b hb).1;have t2:∀b∈fp2,b≠TO:=λb hb=>(f2 b hb).2.1;have j2:∀b∈fp2,b≠i1:=λb hb=>(f2 b hb).2.2;show wpAny _ _ (field (.ref z) 2 >>= _) _ _ _;refine af (dy hz rfl (x:=.bool false) rfl ?_);show wpAny _ _ (field (.ref z) 3 >>= _) _ _ _;refine af (dy hz rfl (x:=.ref TI) rfl ?_);refine af (eW hTI rfl ?_);show wpAny _ _ (Builtin.SmallTypes.ownedTupleIsFree (.ref z) >>= _) _ _ _;refine af ?_;unfold Builtin.SmallTypes.ownedTupleIsFree;refine af (dy hz rfl (x:=.none) rfl (ai ?_));simp only[if_true];refine af (gg ?_);refine af (dy hz rfl (x:=.ref TO) rfl ?_);refine af (eT hz (by simp) λh₁ hz₁ hs₁=>?_);replace hz₁:IsZip h₁ z TI TO .ellipsis:=hz₁;replace hs₁:Heap.SameBut z s.heap h₁:=hs₁;refine af ?_;simp only[List.zipIdx_cons,List.zipIdx_nil,List.forIn_cons,List.forIn_nil];refine af (af (wpAny_onRaise ?_));show wpAny _ _ (Builtin.SmallTypes.nextOf (.ref i1) >>= _) _ _ _;refine af (D1.item k _ _ _ hx (e1 h1 hs₁.extBut z1) λc h₂ tk₂ hc h1₂ hs₂=>ai ?_);replace hs₂:Heap.SameBut i1 h₁ h₂:=hs₂;have hTO₂:IsPair h₂ TO a b:=hs₂.extBut _ _ D.TOi1 (hs₁.extBut _ _ D.TOz hTO);refine af (eW hTO₂ rfl ?_);refine af (wpAny_updateSeq_pair hTO₂ λh₃ hTO₃ hs₃=>?_);replace hs₃:Heap.SameBut TO h₂ h₃:=hs₃;refine af (wpAny_letGo (ai ?_));refine af (af (wpAny_onRaise ?_));show wpAny _ _ (Builtin.SmallTypes.nextOf (.ref i2) >>= _) _ _ _;subst hy;refine af (D2.done _ _ _ (e2 (e2 (e2 h2 hs₁.extBut z2) hs₂.extBut j2) hs₃.extBut t2) λh₄ e hs₄ he=>?_);obtain ⟨oe,hoe,hce⟩:=he;have hz₄:IsZip h₄ z TI TO .ellipsis:=hs₄ _ _ D.i2z.symm (hs₃.extBut _ _ D.TOz.symm (hs₂.extBut _ _ D.i1z.symm hz₁));have hez:e≠z:=λx=>by subst x;rw[hz₄]at hoe;cases hoe;simp at hce
 refine eT hz₄ (by simp) λh₅ _ hs₅=>hE h₅ tk₂ e (λc o c1 c2 c3 c4 x=>hs₅.extBut _ _ c1 (hs₄ _ _ c4 (hs₃.extBut _ _ c2 (hs₂.extBut _ _ c3 (hs₁.extBut _ _ c1 x))))) ⟨oe,hs₅.extBut _ _ hez hoe,hce⟩
end
def Jz(k l:SK):It:=⟨λi H=>∃vs ws,k.Sat H vs/\l.Sat H ws/\i < vs.length/\i < ws.length,
 λi H x H'=>∃T y z,H T=none/\x=.ref T/\H'=upd H T (.tup [y,z])/\(∀vs,k.Sat H vs->vs[i]?=some y)/\(∀ws,l.Sat H ws->ws[i]?=some z),
 λi H=>∃vs ws,k.Sat H vs/\l.Sat H ws/\(vs.length=i/\i<=ws.length\/i < vs.length/\ws.length=i)⟩
def Yr{P:AK}{w:World}{K:PF}{elts:AE}{x1:Nat}{pos:Pos}(k l:SK)(z TI TO i1 i2:AQ)(D:ZApart z TI TO i1 i2):
  Turn P w K (.Tuple elts x1 pos) (Jz k l) [z,TI,TO,i1,i2] z
   (λi h=>IsZip h z TI TO .none/\IsPair h TI (.ref i1) (.ref i2)/\(∃a b,IsPair h TO a b)/\k.pos i1 i h/\l.pos i2 i h) where
 mem:=by simp
 obj:=λi h st b hb=>by
  obtain ⟨hz,hTI,⟨a,c,hTO⟩,⟨o1,e1,_,d1⟩,⟨o2,e2,_,d2⟩⟩:=st;have hb':b=z\/b=TI\/b=TO\/b=i1\/b=i2:=by simpa using hb
  rcases hb' with rfl |rfl |rfl |rfl |rfl
  .exact ⟨_,hz,λv q=>by have q':Data.fields _=Data.cell v:=q;cases q'⟩
  .exact ⟨_,hTI,λv q=>by have q':Data.seq _ _=Data.cell v:=q;cases q'⟩
  .exact ⟨_,hTO,λv q=>by have q':Data.seq _ _=Data.cell v:=q;cases q'⟩
  .exact ⟨o1,e1,λv q=>by rw[d1]at q;cases q⟩
  .exact ⟨o2,e2,λv q=>by rw[d2]at q;cases q⟩
 keep:=λi h h' st kk=>by
  obtain ⟨hz,hTI,⟨a,c,hTO⟩,p1,p2⟩:=st;exact ⟨kk z (by simp) _ hz,kk TI (by simp) _ hTI,⟨a,c,kk TO (by simp) _ hTO⟩,p1.keep λo e=>kk i1 (by simp) o e,p2.keep λo e=>kk i2 (by simp) o e⟩
 item:=by
  intro X hP hw hK hc i p9 s Y H E I hf st hg;subst hP hw hK;obtain ⟨vs,ws,sat1,sat2,l1,l2⟩:=hg;obtain ⟨hz,hTI,⟨a,b,hTO⟩,h1,h2⟩:=st;have hT:s.TypeIs (.ref z) "zip":=⟨_,hz,rfl⟩;have fz:=hf z (by simp);have fTO:=hf TO (by simp);have fi1:=hf i1 (by simp);have fi2:=hf i2 (by simp);obtain ⟨fp1,P1,S1,Dr1⟩:=drawn (A:=X.A.in1) (I.ok.hd hc) I sat1 fi1.1 h1;obtain ⟨fp2,P2,S2,Dr2⟩:=drawn (A:=X.A.in1) (I.ok.hd hc) I sat2 fi2.1 h2;have no1:∀e,H e=none->e≠i1->∀c∈fp1,c≠e:=λe he hei c hc z=>by
   rcases Dr1.fp c hc with q |q
   .exact hei (z.symm.trans q)
   .have:=sat1.no he;cases k with
    |lst a=>injection q with q;exact this (q.trans z)
    |tup a=>injection q with q;exact this (q.trans z)
    |str _ _=>cases q
  have no2:∀e,H e=none->e≠i2->∀c∈fp2,c≠e:=λe he hei c hc z=>by
   rcases Dr2.fp c hc with q |q
   .exact hei (z.symm.trans q)
   .have:=sat2.no he;cases l with
    |lst a=>injection q with q;exact this (q.trans z)
    |tup a=>injection q with q;exact this (q.trans z)
    |str _ _=>cases q
  have f1:∀c∈fp1,c≠z/\c≠TO/\c≠i2:=λc hc=>⟨no1 z fz.1 D.i1z.symm c hc,no1 TO fTO.1 D.TOi1 c hc,no1 i2 fi2.1 D.i12.symm c hc⟩;have f2:∀c∈fp2,c≠z/\c≠TO/\c≠i1:=λc hc=>⟨no2 z fz.1 D.i2z.symm c hc,no2 TO fTO.1 D.TOi2 c hc,no2 i1 fi1.1 D.i12 c hc⟩;have ltz:z < (~~~s):=ay hz;have ltTI:TI < (~~~s):=ay hTI;have ltTO:TO < (~~~s):=ay hTO;have lti1:i1 < (~~~s):=by obtain ⟨_,e,_⟩:=h1;exact ay e
  have lti2:i2 < (~~~s):=by obtain ⟨_,e,_⟩:=h2;exact ay e
  unfold pyNext;refine af (wpAny_attempt (df (name:=⇑"__next__") hT F.slot_zip_next
   (eR F.slot_zip_next hT F.entry_zip_next (Yo D Dr1.D Dr2.D f1 f2 hz hTI hTO Dr1.st Dr2.st l1 l2 λh' tk c d pc pd a1 a2 a3 a4 a5 a6 hk=>ai ?_) (F.args_zip_next_1 _))))
  obtain ⟨y,hy,ry⟩:=Dr1.val _ _ pc;obtain ⟨y',hy',ry'⟩:=Dr2.val _ _ pd;refine ⟨_,rfl,?_⟩;refine wpAny_letOwnedTupleGo_zip a1 λh2' hz2 hs2=>?_;have hs2':Heap.SameBut z h' h2':=hs2;have hn:H (~~~s)=none:=I.hok.fresh (ax _);have k2:∀b o,b∉[z,TI,TO,i1,i2]->s.heap.get? b=some o->h2'.get? b=some o:=λb o hb q=>by
   have hb':b≠z/\b≠TI/\b≠TO/\b≠i1/\b≠i2:=by simpa using hb
   exact hs2'.extBut b o hb'.1 (hk b o hb'.1 hb'.2.2.1 hb'.2.2.2.1 hb'.2.2.2.2 q)
  have I2:Inv X p9 Y H { s with heap:=h2',toks:=tk }:=I.turnedL hf k2;have ht2:h2'.get? (~~~s)=some { cls:=.type "tuple",data:=.seq #[c,d] }:=hs2'.extBut _ _ (fR ltz) a5;have ob:ObjOk X.prog X.w (upd H (~~~s) (.tup [y,y'])) h2' (~~~s) (.tup [y,y']):=
   ⟨by rw[fw];simp,[c,d],.cons ry (.cons ry' .nil),⟨_,ht2,rfl,_,rfl⟩⟩
  have I3:=I2.track (I.fpOk (ax _) hn) ob;refine ⟨.ref (~~~s),_,I3,rfl,⟨(~~~s),y,y',hn,rfl,rfl,λus hu=>by rw[yl hu sat1];exact hy,λus hu=>by rw[yl hu sat2];exact hy'⟩,
   ⟨hz2,hs2'.extBut _ _ D.TIz (hk _ _ D.TIz D.TITO D.TIi1 D.TIi2 hTI),⟨_,_,hs2'.extBut _ _ D.TOz a2⟩,(Dr1.pos _ _ a3).keep λo e=>hs2'.extBut _ _ D.i1z e,(Dr2.pos _ _ a4).keep λo e=>hs2'.extBut _ _ D.i2z e⟩,λb hb=>?_⟩
  have hb':b=z\/b=TI\/b=TO\/b=i1\/b=i2:=by simpa using hb
  rw[aF (by rcases hb' with rfl |rfl |rfl |rfl |rfl <;> exact ca ‹_›)];exact (hf b hb).1
 done:=by
  intro X hP hw hK hc i p9 s Y H E I hf st hg;subst hP hw hK;obtain ⟨vs,ws,sat1,sat2,hend⟩:=hg;obtain ⟨hz,hTI,⟨a,b,hTO⟩,h1,h2⟩:=st;have hT:s.TypeIs (.ref z) "zip":=⟨_,hz,rfl⟩;have fz:=hf z (by simp);have fTO:=hf TO (by simp);have fi1:=hf i1 (by simp);have fi2:=hf i2 (by simp);obtain ⟨fp1,P1,S1,Dr1⟩:=drawn (A:=X.A.in1) (I.ok.hd hc) I sat1 fi1.1 h1;obtain ⟨fp2,P2,S2,Dr2⟩:=drawn (A:=X.A.in1) (I.ok.hd hc) I sat2 fi2.1 h2;have no1:∀e,H e=none->e≠i1->∀c∈fp1,c≠e:=λe he hei c hc z=>by
   rcases Dr1.fp c hc with q |q
   .exact hei (z.symm.trans q)
   .have:=sat1.no he;cases k with
    |lst a=>injection q with q;exact this (q.trans z)
    |tup a=>injection q with q;exact this (q.trans z)
    |str _ _=>cases q
  have no2:∀e,H e=none->e≠i2->∀c∈fp2,c≠e:=λe he hei c hc z=>by
   rcases Dr2.fp c hc with q |q
   .exact hei (z.symm.trans q)
   .have:=sat2.no he;cases l with
    |lst a=>injection q with q;exact this (q.trans z)
    |tup a=>injection q with q;exact this (q.trans z)
    |str _ _=>cases q
  have f1:∀c∈fp1,c≠z/\c≠TO/\c≠i2:=λc hc=>⟨no1 z fz.1 D.i1z.symm c hc,no1 TO fTO.1 D.TOi1 c hc,no1 i2 fi2.1 D.i12.symm c hc⟩;have f2:∀c∈fp2,c≠z/\c≠TO/\c≠i1:=λc hc=>⟨no2 z fz.1 D.i2z.symm c hc,no2 TO fTO.1 D.TOi2 c hc,no2 i1 fi1.1 D.i12 c hc⟩;have fin:∀(h':Heap)(tk:Nat)(e:AQ),(∀c o,c≠z->c≠TO->c≠i1->c≠i2->s.heap.get? c=some o->h'.get? c=some o)->Inv X p9 Y H { s with heap:=h',toks:=tk }:=λh' tk e hk=>I.turnedL (t':=tk) hf λb o hb q=>by
   have hb':b≠z/\b≠TI/\b≠TO/\b≠i1/\b≠i2:=by simpa using hb
   exact hk b o hb'.1 hb'.2.2.1 hb'.2.2.2.1 hb'.2.2.2.2 q
  unfold pyNext;refine af (wpAny_attempt (df (name:=⇑"__next__") hT F.slot_zip_next
   (eR F.slot_zip_next hT F.entry_zip_next ?_ (F.args_zip_next_1 _))))
  rcases hend with ⟨e1,_⟩ |⟨e1,e2⟩
  .subst e1;refine Yp D Dr1.D (λc hc=>(f1 c hc).1) hz hTI hTO Dr1.st λh' e hk he=>?_;obtain ⟨o,ho,hc'⟩:=he;refine af (wpAny_isInstance (T:="StopIteration") (b:=true) ⟨o,ho,hc'⟩ isSubtype_stop ?_);exact ai ⟨rfl,fin h' s.toks e hk⟩
  .refine Yq D Dr1.D Dr2.D f1 f2 hz hTI hTO Dr1.st Dr2.st e1 e2.symm λh' tk e hk he=>?_;obtain ⟨o,ho,hc'⟩:=he;refine af (wpAny_isInstance (T:="StopIteration") (b:=true) ⟨o,ho,hc'⟩ isSubtype_stop ?_);exact ai ⟨rfl,fin h' tk e hk⟩
 self:=λA i s Q E st h=>wpAny_pyIter_zip st.1 h
open Sem (wp)
open AutoSeq1 (wpAny_loadPart')
set_option maxHeartbeats 1000000 in
theorem Ys(l:AQ)(items:Array AN)(n:Nat)(dct:Option AQ)(sl:Array (Option AN)):
  Meets (Builtin.«enumerate.__new__» ⟨[.type "enumerate",.ref l],[]⟩) (λ_ R s=>s.heap.get? l=some { cls:=.type "tuple",dict:=dct,data:=.seq items n,slots:=sl }/\
   R (.ok (.ret (.ref (s.heap.push { cls:=.type "tuple_iterator",data:=.fields #[.ref l,.int 0 0] }).objs.size)))
    { s with heap:=(s.heap.push { cls:=.type "tuple_iterator",data:=.fields #[.ref l,.int 0 0] }).push { cls:=.type "enumerate",data:=.fields #[.none,.bool false,.ref (~~~s),rawInt 0,.none,.none] } }):=
 .of_wp λprog w A R s h=>by
  obtain ⟨hp,g,d,tk,os⟩:=s;obtain ⟨hl,h⟩:=h;have hsub:=sub_enumerate;have hL:Heap.IsTuple (Shared.heap ⟨hp,g,d,tk,os⟩) l items:=⟨_,hl,rfl,n,rfl⟩;wp_walk using wpAny_loadPart' hl
  refine wpAny_stack_any λst=>ai ?_;split
  .rename_i c _ _ _ _ _;cases (c==Value.type "enumerate")
   .wp_walk using wpAny_loadPart' hl,wpAny_pyIter_tuple hL
    exact ⟨_,rfl,h⟩
   .wp_walk using wpAny_loadPart' hl,wpAny_pyIter_tuple hL
    exact ⟨_,rfl,h⟩
  .wp_walk using wpAny_loadPart' hl,wpAny_pyIter_tuple hL
   exact ⟨_,rfl,h⟩
abbrev sX(h:Heap)(k:SK):Heap:=h.push k.obj
abbrev sY(h:Heap)(k l:SK):Heap:=(sX h k).push l.obj
abbrev sZ (h:Heap) (k l:SK):Heap:=(sY h k l).push { cls:=.type "tuple",data:=.seq #[.ref h.objs.size,.ref (sX h k).objs.size] }
abbrev tu (h:Heap) (k l:SK):Heap:=(sZ h k l).push { cls:=.type "tuple",data:=.seq #[.none,.none] }
abbrev iK (h:Heap) (k l:SK):Heap:=(tu h k l).push { cls:=.type "zip",data:=.fields #[.none,.bool false,.bool false,.ref (sY h k l).objs.size,.ref (sZ h k l).objs.size] }
def Yt(k l:SK)(xs ys:Array AN):
  Meets (Builtin.«zip.__new__» ⟨[.type "zip",k.val,l.val],[]⟩) (λ_ R s=>k.On xs s.heap/\l.On ys s.heap/\R (.ok (.ret (.ref (tu s.heap k l).objs.size))) { s with heap:=iK s.heap k l }):=
 .of_wp λprog w A R s h=>by
  obtain ⟨hp,g,d,tk,os⟩:=s;obtain ⟨h1,h2,h⟩:=h;have hsub:=sub_zip;have h1':k.On xs (Shared.heap ⟨hp,g,d,tk,os⟩):=h1;have h2':l.On ys (Shared.heap ⟨hp.push k.obj,g,d,tk,os⟩):=SK.On.keeps h2 λb o _ e=>ah _ e;wp_walk using SK.iter h1',SK.iter h2'
  exact ⟨_,rfl,h⟩
section
variable {prog:AK} {w:World} {A:AM} {E:AG} {s:AI}
theorem Yu{k l:SK}{xs ys:Array AN}{Q:AG}(h1:k.On xs s.heap)(h2:l.On ys s.heap)
  (h:∀h',IsZip h' ((~~~s)+4) ((~~~s)+2) ((~~~s)+3) .none->IsPair h' ((~~~s)+2) (.ref (~~~s)) (.ref ((~~~s)+1))->
   IsPair h' ((~~~s)+3) .none .none->k.pos (~~~s) 0 h'->l.pos ((~~~s)+1) 0 h'->h'.objs.size=(~~~s)+5->
   (∀c o,s.heap.get? c=some o->h'.get? c=some o)->Q (.ref ((~~~s)+4)) { s with heap:=h' }):
  wpAny (model prog w) A (call (.type "zip") [k.val,l.val]) Q E s:=by
 refine callType_new F.called_zip (!1) (F.typeCall_zip_2 _ _) (F.newCall_zip_2 _ _) (λobj=>F.args_object_init_3 obj _ _) F.entry_zip_new
  (Yt k l xs ys) ⟨h1,h2,?_⟩
 have z1:(sX s.heap k).objs.size=(~~~s)+1:=dL ..;have z2:(sY s.heap k l).objs.size=(~~~s)+2:=by rw[dL,z1]
 have z3:(sZ s.heap k l).objs.size=(~~~s)+3:=by rw[dL,z2]
 have z4:(tu s.heap k l).objs.size=(~~~s)+4:=by rw[dL,z3]
 have z5:(iK s.heap k l).objs.size=(~~~s)+5:=by rw[dL,z4]
 have g5:(iK s.heap k l).get? (tu s.heap k l).objs.size=some _:=aS _ rfl;have g4:(iK s.heap k l).get? (sZ s.heap k l).objs.size=some _:=ah _ (aS _ rfl);have g3:(iK s.heap k l).get? (sY s.heap k l).objs.size=some _:=ah _ (ah _ (aS _ rfl));have g2:(iK s.heap k l).get? (sX s.heap k).objs.size=some _:=ah _ (ah _ (ah _ (aS _ rfl)));have g1:(iK s.heap k l).get? (~~~s)=some _:=ah _ (ah _ (ah _ (ah _ (aS _ rfl))));show _/\_;rw[z2,z3,z4]at g5;rw[z1,z2]at g3;rw[z3]at g4;rw[z1]at g2;rw[z4];exact ⟨⟨_,g5,rfl⟩,h _ g5 g3 g4 ⟨_,g1,rfl,rfl⟩ ⟨_,g2,rfl,rfl⟩ z5 λc o x=>
  ah _ (ah _ (ah _ (ah _ (ah _ x))))⟩
theorem Yv{l:AQ}{items:Array AN}{Q:AG}(hL:s.heap.IsTuple l items)
  (h:∀h',IsEnum h' ((~~~s)+1) (~~~s) 0 .none->h'.IsTupleIter (~~~s) l 0->h'.objs.size=(~~~s)+2->
   (∀b o,s.heap.get? b=some o->h'.get? b=some o)->Q (.ref ((~~~s)+1)) { s with heap:=h' }):
  wpAny (model prog w) A (call (.type "enumerate") [.ref l]) Q E s:=by
 obtain ⟨⟨c,dct,dt,sl⟩,hl,hc,n,hd⟩:=hL;replace hc:c=.type "tuple":=hc;replace hd:dt=.seq items n:=hd;subst hc hd;refine callType_new F.called_enumerate (!1) (F.typeCall_enumerate_1 _) (F.newCall_enumerate_1 _) (λobj=>F.args_object_init_2 obj _) F.entry_enumerate_new
  (Ys l items n dct sl) ⟨hl,?_⟩
 have hz:(s.heap.push { cls:=.type "tuple_iterator",data:=.fields #[.ref l,.int 0 0] }).objs.size=(~~~s)+1:=dL ..;show _/\_;rw[hz];have he:IsEnum ((s.heap.push { cls:=.type "tuple_iterator",data:=.fields #[.ref l,.int 0 0] }).push
   { cls:=.type "enumerate",data:=.fields #[.none,.bool false,.ref (~~~s),rawInt 0,.none,.none] }) ((~~~s)+1) (~~~s) 0 .none:=by
  have:=aS (s.heap.push { cls:=.type "tuple_iterator",data:=.fields #[.ref l,.int 0 0] })
   (o:={ cls:=.type "enumerate",data:=.fields #[.none,.bool false,.ref (~~~s),rawInt 0,.none,.none] }) rfl
  rw[hz]at this;exact this
 refine ⟨⟨_,he,rfl⟩,h _ he ⟨_,ah _ (aS _ rfl),rfl,rfl⟩ (by rw[dL,hz]) λb o x=>ah _ (ah _ x)⟩
theorem Yw{k:SK}{xs:Array AN}{Q:AG}(h1:k.On xs s.heap)
  (h:∀h',IsEnum h' ((~~~s)+1) (~~~s) 0 .none->k.pos (~~~s) 0 h'->h'.objs.size=(~~~s)+2->
   (∀b o,s.heap.get? b=some o->h'.get? b=some o)->Q (.ref ((~~~s)+1)) { s with heap:=h' }):
  wpAny (model prog w) A (call (.type "enumerate") [k.val]) Q E s:=by
 cases k with
 |lst a=>exact call_enumerate_list h1 h
 |tup a=>exact Yv h1 h
 |str x t=>exact call_enumerate_str h
end
set_option backward.match.sparseCases false
structure OT where
 ms:List (AL×AL×AL×Nat):=[]
 ks:List (AL×Nat):=[]
 fl:List (AL×AL):=[]
 xk:List (AL×AL):=[]
structure CT where
 N:AD
 kd:List (Str×NameKind)
 fn:Bool
 fs:List (AL×Nat)
 bt:List AL
 cn:List (AL×D)
 xs:List (AL×Bool):=[]
 ot:OT:={}
def iM:Option NameKind->Bool
 |some .local=>true
 |some .cell=>true
 |some .free=>true
 |_=>false
def CT.sto(c:CT)(x:Str):Bool:=c.kd.lookup x==some .local||(c.fn&&c.kd.lookup x==some .cell)
def okN (x:Str):Bool:=!(x==("__debug__":Str))&&!(x==("__classdict__":Str))&&!(x==("__name__":Str))
def CT.glo(c:CT)(x:Str):Bool:=c.kd.lookup x==some .globalImplicit&&okN x
def sEq:D->D->Bool
 |.non,.non=>true
 |.bl a,.bl b=>a==b
 |.int a,.int b=>a==b
 |.str a,.str b=>a==b
 |_,_=>false
def Yx{a b:D}(h:sEq a b=true):a=b:=by cases a <;> cases b <;> simp_all [sEq]
def tB(d:D)(k:Const):Bool:=
 match d,k with
 |.non,.none=>true
 |.bl a,.bool b=>a==b
 |.int a,.int b=>a==b
 |.str a,.str b=>a==b.cps.toList&&decide (a.length<=sz)
 |_,_=>false
def Bf.name:Bf->AL
 |.len=>"len"
 |.all=>"all"
 |.int=>"int"
 |.tuple=>"tuple"
 |.sum=>"sum"
 |.min=>"min"
 |.max=>"max"
 |.abs=>"abs"
 |.min2=>"min"
 |.str=>"str"
def ym:Bf->Bool
 |.sum=>false
 |.min=>true
 |.max=>false
 |.abs=>false
 |.min2=>false
 |.str=>true
 |_=>true
def yo:Lf->Bool
 |.sorted=>true
 |_=>true
def Lf.name:Lf->AL
 |.list=>"list"
 |.sorted=>"sorted"
def Mf.name:Mf->AL
 |.join=>"join"
 |.append=>"append"
 |.extend=>"extend"
 |.pop=>"pop"
 |.count=>"count"
 |.index=>"index"
def ajD:AO->Bool
 |.Name _ _=>true
 |.Subscript _ _ _=>true
 |_=>false
def tD:AO->Bool
 |.Call (.Name _ _) [] [] _=>true
 |_=>false
def dz:AO->Bool
 |.ListComp ..=>true
 |.SetComp ..=>true
 |.DictComp ..=>true
 |_=>false
def iQ:AO->Bool
 |.UnaryOp .Not _ _=>false
 |.BoolOp ..=>false
 |.IfExp ..=>false
 |.Compare ..=>false
 |_=>true
def gO(N:AD)(scope:Scope):AD->List (Option Nat)->Bool
 |[],[]=>true
 |_::N',none::cap=>gO N scope N' cap
 |x::N',some j::cap=>(N[j]?==some x)&&(scope.names.lookup x==some NameKind.free)&&gO N scope N' cap
 |_,_=>false
def fY(c:CT)(scope:Scope):Bool:=
 scope.names.all (λy=>y.2 != NameKind.cell)&&scope.names.all (λy=>y.2 != NameKind.local||scope.names.lookup y.1==some NameKind.local) &&
 scope.names.all (λy=>y.2 != NameKind.free||(c.kd.lookup y.1==some NameKind.cell||c.kd.lookup y.1==some NameKind.free))&&decide (scope.kind=.function)&&decide (c.kd=c.kd)
def CT.comp(c:CT)(N:AD)(scope:Scope):CT:={ N:=N,kd:=scope.names,fn:=false,fs:=c.fs,bt:=c.bt,cn:=c.cn,ot:=c.ot }
def eX:AD->Bool
 |[]=>true
 |x::r=>!r.contains x&&eX r
def asName(e:AO):Option { t:Str×Pos // e=.Name t.1 t.2 }:=match e with
 |.Name a0 a1=>some ⟨(a0,a1),rfl⟩
 |_=>none
def ajE(e:AO):Option { t:AO×Pos // e=.Starred t.1 t.2 }:=match e with
 |.Starred a0 a1=>some ⟨(a0,a1),rfl⟩
 |_=>none
def tH(e:AO):Option { t:Const×Nat×Pos // e=.Constant t.1 t.2.1 t.2.2 }:=match e with
 |.Constant a0 a1 a2=>some ⟨(a0,a1,a2),rfl⟩
 |_=>none
def Fy(e:AO):Option { t:AO×Operator×AO×Pos // e=.BinOp t.1 t.2.1 t.2.2.1 t.2.2.2 }:=match e with
 |.BinOp a0 a1 a2 a3=>some ⟨(a0,a1,a2,a3),rfl⟩
 |_=>none
def jU(e:AO):Option { t:UnaryOp×AO×Pos // e=.UnaryOp t.1 t.2.1 t.2.2 }:=match e with
 |.UnaryOp a0 a1 a2=>some ⟨(a0,a1,a2),rfl⟩
 |_=>none
def mD(e:AO):Option { t:AO×List CmpOp×AE×Pos // e=.Compare t.1 t.2.1 t.2.2.1 t.2.2.2 }:=match e with
 |.Compare a0 a1 a2 a3=>some ⟨(a0,a1,a2,a3),rfl⟩
 |_=>none
def tM(e:AO):Option { t:BoolOp×AE×Pos // e=.BoolOp t.1 t.2.1 t.2.2 }:=match e with
 |.BoolOp a0 a1 a2=>some ⟨(a0,a1,a2),rfl⟩
 |_=>none
def FJ(e:AO):Option { t:AO×AO×AO×Pos // e=.IfExp t.1 t.2.1 t.2.2.1 t.2.2.2 }:=match e with
 |.IfExp a0 a1 a2 a3=>some ⟨(a0,a1,a2,a3),rfl⟩
 |_=>none
def FN(e:AO):Option { t:AO×AO×List Comprehension×Scope×Pos // e=.DictComp t.1 t.2.1 t.2.2.1 t.2.2.2.1 t.2.2.2.2 }:=match e with
 |.DictComp a0 a1 a2 a3 a4=>some ⟨(a0,a1,a2,a3,a4),rfl⟩
 |_=>none
def tQ(e:AO):Option { t:List (Option AO)×AE×Pos // e=.Dict t.1 t.2.1 t.2.2 }:=match e with
 |.Dict a b p=>some ⟨(a,b,p),rfl⟩
 |_=>none
def gP(e:AO):Option { t:AE×Nat×Pos // e=.Tuple t.1 t.2.1 t.2.2 }:=match e with
 |.Tuple a0 a1 a2=>some ⟨(a0,a1,a2),rfl⟩
 |_=>none
def asList(e:AO):Option { t:AE×Pos // e=.List t.1 t.2 }:=match e with
 |.List a0 a1=>some ⟨(a0,a1),rfl⟩
 |_=>none
def jV(e:AO):Option { t:AO×AO×Pos // e=.Subscript t.1 t.2.1 t.2.2 }:=match e with
 |.Subscript a0 a1 a2=>some ⟨(a0,a1,a2),rfl⟩
 |_=>none
def FP(e:AO):Option { t:Option AO×Option AO×Option AO×Pos // e=.Slice t.1 t.2.1 t.2.2.1 t.2.2.2 }:=match e with
 |.Slice a0 a1 a2 a3=>some ⟨(a0,a1,a2,a3),rfl⟩
 |_=>none
def tR(e:AO):Option { t:AO×AE×List Keyword×Pos // e=.Call t.1 t.2.1 t.2.2.1 t.2.2.2 }:=match e with
 |.Call a0 a1 a2 a3=>some ⟨(a0,a1,a2,a3),rfl⟩
 |_=>none
def FQ(e:AO):Option { t:AO×Str×Pos // e=.Attribute t.1 t.2.1 t.2.2 }:=match e with
 |.Attribute a0 a1 a2=>some ⟨(a0,a1,a2),rfl⟩
 |_=>none
def FT(e:AO):Option { t:AO×List Comprehension×Scope×Pos // e=.ListComp t.1 t.2.1 t.2.2.1 t.2.2.2 }:=match e with
 |.ListComp a0 a1 a2 a3=>some ⟨(a0,a1,a2,a3),rfl⟩
 |_=>none
def tU(e:Stmt):Option { t:AO×Pos // e=.Expr t.1 t.2 }:=match e with
 |.Expr a0 a1=>some ⟨(a0,a1),rfl⟩
 |_=>none
def gQ(e:Stmt):Option { t:AE×AO×Pos // e=.Assign t.1 t.2.1 t.2.2 }:=match e with
 |.Assign a0 a1 a2=>some ⟨(a0,a1,a2),rfl⟩
 |_=>none
def FW(e:Stmt):Option { t:AO×Operator×AO×Pos // e=.AugAssign t.1 t.2.1 t.2.2.1 t.2.2.2 }:=match e with
 |.AugAssign a0 a1 a2 a3=>some ⟨(a0,a1,a2,a3),rfl⟩
 |_=>none
def Ga(e:Stmt):Option { t:Option AO×Option AO×Pos // e=.Raise t.1 t.2.1 t.2.2 }:=match e with
 |.Raise a0 a1 a2=>some ⟨(a0,a1,a2),rfl⟩
 |_=>none
def Gb(e:Stmt):Option { t:AF×List ExceptHandler×AF×AF×Pos // e=.Try t.1 t.2.1 t.2.2.1 t.2.2.2.1 t.2.2.2.2 }:=match e with
 |.Try a0 a1 a2 a3 a4=>some ⟨(a0,a1,a2,a3,a4),rfl⟩
 |_=>none
def Gd(e:ExceptHandler):Option { t:Option AO×Option Str×AF×Pos // e=.ExceptHandler t.1 t.2.1 t.2.2.1 t.2.2.2 }:=match e with
 |.ExceptHandler a0 a1 a2 a3=>some ⟨(a0,a1,a2,a3),rfl⟩
def yp(e:AO):Option { t:AO×Int×Option AO×Pos // e=.FormattedValue t.1 t.2.1 t.2.2.1 t.2.2.2 }:=match e with
 |.FormattedValue a0 a1 a2 a3=>some ⟨(a0,a1,a2,a3),rfl⟩
 |_=>none
def Yy(e:AO):Option { t:AE×Pos // e=.JoinedStr t.1 t.2 }:=match e with
 |.JoinedStr a0 a1=>some ⟨(a0,a1),rfl⟩
 |_=>none
def Yz(k:Const):Option { x:Str // k=.str x }:=match k with
 |.str x=>some ⟨x,rfl⟩
 |_=>none
def ajF(b:Bool)(k:Const):Bool:=match k with
 |.bool c=>c==b
 |_=>false
def tV(e:Stmt):Option { t:Option AO×Pos // e=.Return t.1 t.2 }:=match e with
 |.Return a0 a1=>some ⟨(a0,a1),rfl⟩
 |_=>none
def tW(e:Stmt):Option { t:AO×AF×AF×Pos // e=.If t.1 t.2.1 t.2.2.1 t.2.2.2 }:=match e with
 |.If a0 a1 a2 a3=>some ⟨(a0,a1,a2,a3),rfl⟩
 |_=>none
def Ge(e:Stmt):Option { t:AO×AO×AF×AF×Pos // e=.For t.1 t.2.1 t.2.2.1 t.2.2.2.1 t.2.2.2.2 }:=match e with
 |.For a0 a1 a2 a3 a4=>some ⟨(a0,a1,a2,a3,a4),rfl⟩
 |_=>none
def Gf(e:Stmt):Option { t:AO×AF×AF×Pos // e=.While t.1 t.2.1 t.2.2.1 t.2.2.2 }:=match e with
 |.While a0 a1 a2 a3=>some ⟨(a0,a1,a2,a3),rfl⟩
 |_=>none
def Gg(e:Stmt):Option { t:Pos // e=.Pass t }:=match e with
 |.Pass a0=>some ⟨a0,rfl⟩
 |_=>none
def Gi(e:Stmt):Option { t:Pos // e=.Break t }:=match e with
 |.Break a0=>some ⟨a0,rfl⟩
 |_=>none
def Gj(e:Stmt):Option { t:Pos // e=.Continue t }:=match e with
 |.Continue a0=>some ⟨a0,rfl⟩
 |_=>none
def one{α:Type}:List α->Option α
 |[a]=>some a
 |_=>none
def three{α:Type}:List α->Option (α×α×α)
 |[x,y,z]=>some (x,y,z)
 |_=>none
def two{α:Type}:List α->Option (α×α)
 |[a,b]=>some (a,b)
 |_=>none
def hdT{α:Type}:List α->Option (α×List α)
 |a::r=>some (a,r)
 |[]=>none
def bL{α:Type}{l:List α}{a:α}(h:one l=some a):l=[a]:=by
 cases l with
 |nil=>cases h
 |cons x r=>cases r with
  |nil=>cases h;rfl
  |cons _ _=>cases h
def mF{α:Type}{l:List α}{a:α×α}(h:two l=some a):l=[a.1,a.2]:=by
 cases l with
 |nil=>cases h
 |cons x r=>cases r with
  |nil=>cases h
  |cons y r=>cases r with
   |nil=>cases h;rfl
   |cons _ _=>cases h
def Gk{α:Type}{l:List α}{a:α×List α}(h:hdT l=some a):l=a.1::a.2:=by
 cases l with
 |nil=>cases h
 |cons x r=>cases h;rfl
def aN{α:Type}{o:Option α}{p:α->Bool}(h:o.any p=true):∃t,o=some t/\p t=true:=by
 cases o with
 |none=>cases h
 |some t=>exact ⟨t,rfl,h⟩
def yq:UnaryOp->Bool
 |.USub=>true
 |_=>false
def mG:UnaryOp->Bool
 |.Not=>true
 |_=>false
def YB{o:UnaryOp}(h:yq o=true):o=.USub:=by cases o <;> first |rfl |cases h
def Gm{o:UnaryOp}(h:mG o=true):o=.Not:=by cases o <;> first |rfl |cases h
def bf(e:AO):Option (Str×Pos×AE×Pos):=(tR e).bind λt=>(asName t.1.1).bind λn=>match t.1.2.2.1 with |[]=>some (n.1.1,n.1.2,t.1.2.1,t.1.2.2.2) |_::_=>none
def az{α:Type}{q:α->Prop}(o:Option { t:α // q t })(P:α->Bool):Bool:=match o with |some t=>P t.1 |none=>false
def aJ{α:Type}{q:α->Prop}{o:Option { t:α // q t }}{P:α->Bool}(h:az o P=true):∃t,q t/\P t=true:=by
 cases o with
 |none=>cases h
 |some t=>exact ⟨t.1,t.2,h⟩
def Gn{α β:Type}{o:Option α}{f:α->Option β}{b:β}(h:o.bind f=some b):∃t,o=some t/\f t=some b:=by
 cases o with
 |none=>cases h
 |some t=>exact ⟨t,rfl,h⟩
def cW{e:AO}{t:Str×Pos×AE×Pos}(h:bf e=some t):e=.Call (.Name t.1 t.2.1) t.2.2.1 [] t.2.2.2:=by
 obtain ⟨⟨⟨f,as,ks,p⟩,hu⟩,_,h⟩:=Gn h;obtain ⟨⟨⟨x,p'⟩,hn⟩,_,h⟩:=Gn h;dsimp only at h hn hu;cases ks with
 |nil=>cases h;rw[hu,hn]
 |cons _ _=>cases h
def ajG (e:AO):Option (Str×Pos×AO×AO×Pos×Pos):=(tR e).bind λt=>(asName t.1.1).bind λn=>(one t.1.2.1).bind λv=>(one t.1.2.2.1).bind λkw=>if kw.arg=some (⇑"start") then some (n.1.1,n.1.2,v,kw.value,kw.pos,t.1.2.2.2) else none
def mH(e:AO):Bool:=(mD e).isSome
def Gp:Ex->Bool
 |.frz _=>false
 |_=>true
def yr:Tx->Bool
 |.yes=>true
 |_=>false
mutual
def cO(c:CT):Tg->AO->Bool
 |.nm i,e=>az (asName e) λt=>(c.N[i]?==some t.1)&&c.sto t.1
 |.tp ts,e=>az (gP e) λt=>cB c ts t.1
def cB(c:CT):Tgs->AE->Bool
 |.nil,es=>es.isEmpty
 |.cons t r,es=>match es with
  |e::es=>cO c t e&&cB c r es
  |[]=>false
end
def yt(e:AO):Bool:=az (tH e) λt=>az (Yz t.1) λx=>decide (x.length<=1000)
def unF(e:AO):AO:=match yp e with |some t=>t.1.1 |none=>e
def YC:Ex->Bool
 |.cst (.str _)=>true
 |_=>false
def YD:Exs->AE->Bool
 |.cons x xs,p::ps=>(match yp p with |some t=>decide (t.1.2.1=-1)&&t.1.2.2.1.isNone |none=>YC x)&&YD xs ps
 |.nil,ps=>ps.isEmpty
 |_,[]=>false
mutual
def aj(c:CT):Ex->AO->Bool
 |.var i,e=>az (asName e) λt=>(c.N[i]?==some t.1)&&iM (c.kd.lookup t.1)&&okN t.1
 |.cst d,e=>az (tH e) λt=>tB d t.1
 |.glb x d,e=>az (asName e) λt=>t.1==⇑x&&c.glo t.1&&c.cn.any (λp=>p.1==x&&sEq p.2 d)
 |.bin op _ a b,e=>az (Fy e) λt=>t.2.1==op&&aj c a t.1&&aj c b t.2.2.1
 |.neg a,e=>az (jU e) λt=>yq t.1&&aj c a t.2.1
 |.cmp op a b,e=>az (mD e) λt=>(one t.2.1).any λo=>(one t.2.2.1).any λr=>o==op&&aj c a t.1&&aj c b r
 |.chn op op' a b d,e=>az (mD e) λt=>(two t.2.1).any λo=>(two t.2.2.1).any λr=>o.1==op&&o.2==op'&&aj c a t.1&&aj c b r.1&&aj c d r.2
 |.not a,e=>az (jU e) λt=>mG t.1&&aj c a t.2.1
 |.boo isAnd x es,e=>az (tM e) λt=>(hdT t.2.1).any λv=>t.1==(if isAnd then .And else .Or)&&aj c x v.1&&aL c es v.2
 |.ife t a b,e=>az (FJ e) λu=>bu c t u.1&&aj c a u.2.1&&aj c b u.2.2.1
 |.tup es,e=>az (gP e) λt=>aL c es t.1
 |.lst _ es,e=>az (asList e) λt=>aL c es t.1
 |.idx a i,e=>az (jV e) λt=>aj c a t.1&&aj c i t.2.1
 |.slc _ a lo hi,e=>az (jV e) λt=>az (FP t.2.1) λs=>s.2.2.1.isNone&&(aj c a t.1&&fZ c lo s.1&&fZ c hi s.2.1)
 |.call f es,e=>(bf e).any λt=>t.1==⇑f&&c.glo t.1&&(c.fs.any λp=>p.1==f&&p.2==t.2.2.1.length)&&!t.2.2.1.isEmpty&&aL c es t.2.2.1
 |.bcl f es,e=>(bf e).any λt=>t.1==⇑f.name&&ym f&&c.glo t.1&&c.bt.contains f.name&&!t.2.2.1.isEmpty&&aL c es t.2.2.1
 |.lcl _ f es,e=>(bf e).any λt=>t.1==⇑f.name&&yo f&&c.glo t.1&&c.bt.contains f.name&&!t.2.2.1.isEmpty&&aL c es t.2.2.1
 |.isi a t,e=>(bf e).any λu=>(two u.2.2.1).any λv=>az (asName v.2) λy=>u.1==⇑"isinstance"&&c.glo u.1&&c.bt.contains "isinstance"&&aj c a v.1&&y.1==⇑t&&c.glo y.1&&c.bt.contains t&&fV t
 |.isx a C xs,e=>(bf e).any λu=>(two u.2.2.1).any λv=>az (asName v.2) λy=>u.1==⇑"isinstance"&&c.glo u.1&&c.bt.contains "isinstance"&&aj c a v.1&&y.1==⇑C&&c.glo y.1&&c.xs.contains (C,false)&&xs.all λx=>c.xs.contains (x,true)||c.ot.xk.any λp=>p.1==x
 |.rgl _ a,e=>(bf e).any λt=>(one t.2.2.1).any λe1=>(bf e1).any λu=>(one u.2.2.1).any λe2=>t.1==⇑"list"&&c.glo t.1&&c.bt.contains "list"&&u.1==⇑"range"&&c.glo u.1&&c.bt.contains "range"&&aj c a e2
 |.rgt a,e=>(bf e).any λt=>(one t.2.2.1).any λe1=>(bf e1).any λu=>(one u.2.2.1).any λe2=>t.1==⇑"tuple"&&c.glo t.1&&c.bt.contains "tuple"&&u.1==⇑"range"&&c.glo u.1&&c.bt.contains "range"&&aj c a e2
 |.mth m o es,e=>az (tR e) λt=>az (FQ t.1) λv=>t.2.2.1.isEmpty&&(v.2.1==⇑m.name&&aj c o v.1&&!tD v.1&&(v.2.2.endLine==t.2.2.2.line)&&decide (t.2.1.length < 29)&&!t.2.1.isEmpty&&aL c es t.2.1)
 |.comp _ elt tg it cond N cap,e=>az (FT e) λt=>(one t.2.1).any λg=>decide (g.is_async=0)&&cP c it g.target g.iter&&gO c.N t.2.2.1 (N.map Str.ofString) cap&&fY c t.2.2.1&&eX (N.map Str.ofString) &&
    cO (c.comp (N.map Str.ofString) t.2.2.1) tg g.target&&((yr cond&&g.ifs.isEmpty)||(one g.ifs).any λf=>bu (c.comp (N.map Str.ofString) t.2.2.1) cond f)&&aj (c.comp (N.map Str.ofString) t.2.2.1) elt t.1
 |.frz a,e=>aj c a e
 |.dnw,e=>az (tQ e) λt=>t.1.isEmpty&&t.2.1.isEmpty
 |.dc0 a,e=>az (FN e) λt=>(one t.2.2.1).any λg=>decide (g.is_async=0)&&aj c a g.iter&&fY c t.2.2.2.1&&az (asName g.target) λy=>t.2.2.2.1.names.lookup y.1==some NameKind.local
 |.dp1 a b,e=>az (tQ e) λt=>(one t.1).any λk=>k.any λk=>(one t.2.1).any λv=>aj c a k&&aj c b v
def bu(c:CT):Tx->AO->Bool
 |.val x,e=>(iQ e||mH e)&&aj c x e&&Gp x
 |.not t,e=>az (jU e) λu=>mG u.1&&bu c t u.2.1
 |.boo isAnd t ts,e=>az (tM e) λu=>(hdT u.2.1).any λv=>u.1==(if isAnd then .And else .Or)&&bu c t v.1&&iR c ts v.2
 |.yes,_=>false
def iR(c:CT):Txs->AE->Bool
 |.nil,es=>es.isEmpty
 |.cons t r,es=>match es with
  |e::es=>bu c t e&&iR c r es
  |[]=>false
def aL(c:CT):Exs->AE->Bool
 |.nil,es=>es.isEmpty
 |.cons t r,es=>match es with
  |e::es=>aj c t e&&aL c r es
  |[]=>false
def fZ(c:CT):Ox->Option AO->Bool
 |.no,e=>e.isNone
 |.ob x,e=>match e with
  |some e=>aj c x e
  |none=>false
def cP(c:CT):It'->AO->AO->Bool
 |.seq x,_,e=>aj c x e
 |.rng a,_,e=>(bf e).any λt=>(one t.2.2.1).any λv=>t.1==⇑"range"&&c.glo t.1&&c.bt.contains "range"&&aj c a v
 |.enm a,tg,e=>az (gP tg) λ_=>(bf e).any λt=>(one t.2.2.1).any λv=>t.1==⇑"enumerate"&&c.glo t.1&&c.bt.contains "enumerate"&&aj c a v
 |.zip a b,tg,e=>az (gP tg) λ_=>(bf e).any λt=>(two t.2.2.1).any λv=>t.1==⇑"zip"&&c.glo t.1&&c.bt.contains "zip"&&aj c a v.1&&aj c b v.2
end
def mJ(c:CT)(cond:Tx)(ifs:AE):Bool:=(yr cond&&ifs.isEmpty)||(one ifs).any λf=>bu c cond f
def Gq:Ex->Bool
 |.comp ..=>true
 |.dc0 _=>true
 |_=>false
def Gs:AO->Bool
 |.Tuple ..=>true
 |_=>false
def yu(g:Tg)(x:Ex)(e:AO):Bool:=match g with |.nm _=>!dz e||Gq x |.tp _=>!Gs e&&!dz e
def mK(c:CT):Exs->AE->Bool
 |es,[]=>(match es with |.nil=>true |_=>false)
 |es,p::ps=>match yt p with
  |true=>mK c es ps
  |false=>(match es with |.cons x r=>(az (yp p) λt=>decide (t.2.1=-1)&&t.2.2.1.isNone&&aj c x t.1)&&mK c r ps |.nil=>false)
def tX(c:CT)(es:Exs)(e:AO):Bool:=(match es with |.nil=>yt e |_=>false)||az (Yy e) λt=>decide (2<=t.1.length)&&decide (t.1.length<=50)&&mK c es t.1
def dh(c:CT):Tb->AF->Bool
 |.call f es,sts=>(one sts).any λs0=>az (tU s0) λe0=>(bf e0.1).any λu=>(u.1==⇑f&&c.glo u.1&&(c.fs.any λp=>p.1==f&&p.2==u.2.2.1.length)&&!u.2.2.1.isEmpty&&aL c es u.2.2.1)
 |.pick _ _ _ _,_=>false
 |.asg i f es,sts=>(one sts).any λs0=>az (gQ s0) λa=>(one a.1).any λtg=>az (asName tg) λy=>(bf a.2.1).any λu=>(c.N[i]?==some y.1&&c.sto y.1&&okN y.1)&&(u.1==⇑f&&c.glo u.1&&(c.fs.any λp=>p.1==f&&p.2==u.2.2.1.length)&&!u.2.2.1.isEmpty&&aL c es u.2.2.1)
 |.ite t a b,sts=>(one sts).any λs0=>az (tW s0) λu=>bu c t u.1&&dh c a u.2.1&&dh c b u.2.2.1
def yw(b:Bool):Const->Bool
 |.bool x=>x==b
 |_=>false
def tY(c:CT)(h:Hd)(nm:Option Str)(y:Str)(e:AO):Bool:=(match h with
 |.flag i b=>nm.isNone&&(c.N[i]?==some y)&&az (tH e) λk=>yw b k.1
 |.bind n i=>nm.any λx=>(c.N[i]?==some y)&&(c.N[n]?==some x)&&(c.kd.lookup x==some .local)&&okN x&&az (asName e) λz=>z.1==x)&&c.sto y&&okN y
mutual
def bA(c:CT):Sx->Stmt->Bool
 |.exp x,st=>az (tU st) λt=>!dz t.1&&aj c x t.1
 |.asg g x,st=>az (gQ st) λt=>(one t.1).any λtg=>cO c g tg&&aj c x t.2.1&&yu g x t.2.1
 |.set o i x,st=>az (gQ st) λt=>(one t.1).any λtg=>az (jV tg) λu=>aj c o u.1&&aj c i u.2.1&&aj c x t.2.1&&!dz t.2.1
 |.aug i op x,st=>az (FW st) λt=>az (asName t.1) λy=>t.2.1==op&&(c.N[i]?==some y.1)&&c.sto y.1&&okN y.1&&aj c x t.2.2.1
 |.ret x,st=>az (tV st) λt=>t.1.any λe=>aj c x e
 |.rtn,st=>az (tV st) λt=>t.1.isNone
 |.ite t a b,st=>az (tW st) λu=>bu c t u.1&&aC c a u.2.1&&aC c b u.2.2.1
 |.for_ g it b,st=>az (Ge st) λt=>t.2.2.2.1.isEmpty&&(cO c g t.1&&cP c it t.1 t.2.1&&aC c b t.2.2.1)
 |.whl t b,st=>az (Gf st) λu=>u.2.2.1.isEmpty&&(bu c t u.1&&aC c b u.2.1)
 |.pas,st=>(Gg st).isSome
 |.brk,st=>(Gi st).isSome
 |.cnt,st=>(Gj st).isSome
 |.nev,_=>true
 |.rse C es,st=>az (Ga st) λt=>t.2.1.isNone&&t.1.any λe=>(bf e).any λu=>u.1==⇑C&&c.glo u.1&&c.xs.contains (C,true)&&(one u.2.2.1).any λm=>tX c es m
 |.tryx b C h xs,st=>az (Gb st) λt=>t.2.2.1.isEmpty&&t.2.2.2.1.isEmpty&&dh c b t.1&&(xs.all λx=>c.xs.contains (x,true))&&!(C=="ValueError")&&(one t.2.1).any λhd=>az (Gd hd) λw=>w.1.any λte=>az (asName te) λn=>(n.1==⇑C&&c.glo n.1&&c.xs.contains (C,false))&&(one w.2.2.1).any λs1=>az (gQ s1) λa=>(one a.1).any λtg=>az (asName tg) λy=>tY c h w.2.1 y.1 a.2.1
def aC(c:CT):Sxs->AF->Bool
 |.nil,es=>es.isEmpty
 |.cons t r,es=>match es with
  |e::es=>bA c t e&&aC c r es
  |[]=>false
end
def yx{c:CT}{i:Nat}{e:AO}(h:cO c (.nm i) e=true):∃x p,e=.Name x p/\((c.N[i]?==some x)&&c.sto x)=true:=by have h:(az (asName e) λt=>(c.N[i]?==some t.1)&&c.sto t.1)=true:=h;obtain ⟨t,ht,h⟩:=aJ h;exact ⟨_,_,ht,h⟩
def yz{c:CT}{ts:Tgs}{e:AO}(h:cO c (.tp ts) e=true):∃es k p,e=.Tuple es k p/\(cB c ts es)=true:=by have h:(az (gP e) λt=>cB c ts t.1)=true:=h;obtain ⟨t,ht,h⟩:=aJ h;exact ⟨_,_,_,ht,h⟩
def Gu{c:CT}{i:Nat}{e:AO}(h:aj c (.var i) e=true):∃x p,e=.Name x p/\((c.N[i]?==some x)&&iM (c.kd.lookup x)&&okN x)=true:=by have h:(az (asName e) λt=>(c.N[i]?==some t.1)&&iM (c.kd.lookup t.1)&&okN t.1)=true:=h;obtain ⟨t,ht,h⟩:=aJ h;exact ⟨_,_,ht,h⟩
def Gv{c:CT}{d:D}{e:AO}(h:aj c (.cst d) e=true):∃k n p,e=.Constant k n p/\(tB d k)=true:=by have h:(az (tH e) λt=>tB d t.1)=true:=h;obtain ⟨t,ht,h⟩:=aJ h;exact ⟨_,_,_,ht,h⟩
def Gw{c:CT}{x:AL}{d:D}{e:AO}(h:aj c (.glb x d) e=true):∃y p,e=.Name y p/\(y==⇑x&&c.glo y&&c.cn.any (λp=>p.1==x&&sEq p.2 d))=true:=by have h:(az (asName e) λt=>t.1==⇑x&&c.glo t.1&&c.cn.any (λp=>p.1==x&&sEq p.2 d))=true:=h;obtain ⟨t,ht,h⟩:=aJ h;exact ⟨_,_,ht,h⟩
def Gx{c:CT}{op:Operator}{fz:Bool}{a b:Ex}{e:AO}(h:aj c (.bin op fz a b) e=true):∃l o r p,e=.BinOp l o r p/\(o==op&&aj c a l&&aj c b r)=true:=by have h:(az (Fy e) λt=>t.2.1==op&&aj c a t.1&&aj c b t.2.2.1)=true:=h;obtain ⟨t,ht,h⟩:=aJ h;exact ⟨_,_,_,_,ht,h⟩
def Gy{c:CT}{a:Ex}{e:AO}(h:aj c (.neg a) e=true):∃x p,e=.UnaryOp .USub x p/\(aj c a x)=true:=by have h:(az (jU e) λt=>yq t.1&&aj c a t.2.1)=true:=h;obtain ⟨t,ht,h⟩:=aJ h;rw[ae]at h;exact ⟨_,_,by rw[ht,YB h.1],h.2⟩
def Gz{c:CT}{a:Ex}{e:AO}(h:aj c (.not a) e=true):∃x p,e=.UnaryOp .Not x p/\(aj c a x)=true:=by have h:(az (jU e) λt=>mG t.1&&aj c a t.2.1)=true:=h;obtain ⟨t,ht,h⟩:=aJ h;rw[ae]at h;exact ⟨_,_,by rw[ht,Gm h.1],h.2⟩
def GC{c:CT}{op:CmpOp}{a b:Ex}{e:AO}(h:aj c (.cmp op a b) e=true):∃l o r p,e=.Compare l [o] [r] p/\(o==op&&aj c a l&&aj c b r)=true:=by have h:(az (mD e) λt=>(one t.2.1).any λo=>(one t.2.2.1).any λr=>o==op&&aj c a t.1&&aj c b r)=true:=h;obtain ⟨t,ht,h⟩:=aJ h;obtain ⟨o,ho,h⟩:=aN h;obtain ⟨r,hr,h⟩:=aN h;exact ⟨_,_,_,_,by rw[ht,bL ho,bL hr],h⟩
def GD{c:CT}{op op':CmpOp}{a b d:Ex}{e:AO}(h:aj c (.chn op op' a b d) e=true):∃l o o' m r p,e=.Compare l [o,o'] [m,r] p/\(o==op&&o'==op'&&aj c a l&&aj c b m&&aj c d r)=true:=by have h:(az (mD e) λt=>(two t.2.1).any λo=>(two t.2.2.1).any λr=>o.1==op&&o.2==op'&&aj c a t.1&&aj c b r.1&&aj c d r.2)=true:=h;obtain ⟨t,ht,h⟩:=aJ h;obtain ⟨o,ho,h⟩:=aN h;obtain ⟨r,hr,h⟩:=aN h;exact ⟨_,_,_,_,_,_,by rw[ht,mF ho,mF hr],h⟩
def GF{c:CT}{isAnd:Bool}{x:Ex}{es:Exs}{e:AO}(h:aj c (.boo isAnd x es) e=true):∃op v vs p,e=.BoolOp op (v::vs) p/\(op==(if isAnd then .And else .Or)&&aj c x v&&aL c es vs)=true:=by have h:(az (tM e) λt=>(hdT t.2.1).any λv=>t.1==(if isAnd then .And else .Or)&&aj c x v.1&&aL c es v.2)=true:=h;obtain ⟨t,ht,h⟩:=aJ h;obtain ⟨v,hv,h⟩:=aN h;exact ⟨_,_,_,_,by rw[ht,Gk hv],h⟩
def GJ{c:CT}{t:Tx}{a b:Ex}{e:AO}(h:aj c (.ife t a b) e=true):∃t' a' b' p,e=.IfExp t' a' b' p/\(bu c t t'&&aj c a a'&&aj c b b')=true:=by have h:(az (FJ e) λu=>bu c t u.1&&aj c a u.2.1&&aj c b u.2.2.1)=true:=h;obtain ⟨u,ht,h⟩:=aJ h;exact ⟨_,_,_,_,ht,h⟩
def GK{c:CT}{es:Exs}{e:AO}(h:aj c (.tup es) e=true):∃vs k p,e=.Tuple vs k p/\(aL c es vs)=true:=by have h:(az (gP e) λt=>aL c es t.1)=true:=h;obtain ⟨t,ht,h⟩:=aJ h;exact ⟨_,_,_,ht,h⟩
def GP{c:CT}{fz:Bool}{es:Exs}{e:AO}(h:aj c (.lst fz es) e=true):∃vs p,e=.List vs p/\(aL c es vs)=true:=by have h:(az (asList e) λt=>aL c es t.1)=true:=h;obtain ⟨t,ht,h⟩:=aJ h;exact ⟨_,_,ht,h⟩
def GQ{c:CT}{a i:Ex}{e:AO}(h:aj c (.idx a i) e=true):∃v s p,e=.Subscript v s p/\(aj c a v&&aj c i s)=true:=by have h:(az (jV e) λt=>aj c a t.1&&aj c i t.2.1)=true:=h;obtain ⟨t,ht,h⟩:=aJ h;exact ⟨_,_,_,ht,h⟩
def GR{c:CT}{e:AO}(h:aj c .dnw e=true):∃p,e=.Dict [] [] p:=by have h:(az (tQ e) λt=>t.1.isEmpty&&t.2.1.isEmpty)=true:=h;obtain ⟨t,ht,h⟩:=aJ h;rw[ae,fg,fg]at h;exact ⟨t.2.2,by rw[ht,h.1,h.2]⟩
def yC{c:CT}{a:Ex}{e:AO}(h:aj c (.dc0 a) e=true):∃kx vx x px iter ifs scope pos,e=.DictComp kx vx [⟨.Name x px,iter,ifs,0⟩] scope pos/\aj c a iter=true/\fY c scope=true/\scope.names.lookup x=some NameKind.local:=by have h:(az (FN e) λt=>(one t.2.2.1).any λg=>decide (g.is_async=0)&&aj c a g.iter&&fY c t.2.2.2.1&&az (asName g.target) λy=>t.2.2.2.1.names.lookup y.1==some NameKind.local)=true:=h;obtain ⟨t,ht,h⟩:=aJ h;obtain ⟨⟨tg',iter,ifs,as⟩,hg,h⟩:=aN h;simp only[ae,bS]at h;obtain ⟨⟨⟨h1,h2⟩,h3⟩,h4⟩:=h;obtain ⟨y,hy,h4⟩:=aJ h4;subst h1;exact ⟨_,_,y.1,y.2,iter,ifs,_,_,ht.trans (by rw[bL hg,<-hy]),h2,h3,by rw[av]at h4;exact h4⟩
def GX{c:CT}{a b:Ex}{e:AO}(h:aj c (.dp1 a b) e=true):∃k v p,e=.Dict [some k] [v] p/\(aj c a k&&aj c b v)=true:=by have h:(az (tQ e) λt=>(one t.1).any λk=>k.any λk=>(one t.2.1).any λv=>aj c a k&&aj c b v)=true:=h;obtain ⟨t,ht,h⟩:=aJ h;obtain ⟨k,hk,h⟩:=aN h;obtain ⟨k',hk',h⟩:=aN h;obtain ⟨v,hv,h⟩:=aN h;exact ⟨k',v,t.2.2,by rw[ht,bL hk,bL hv,hk'],h⟩
def GZ{c:CT}{fz:Bool}{a:Ex}{lo hi:Ox}{e:AO}(h:aj c (.slc fz a lo hi) e=true):∃v l u p' p,e=.Subscript v (.Slice l u none p') p/\(aj c a v&&fZ c lo l&&fZ c hi u)=true:=by have h:(az (jV e) λt=>az (FP t.2.1) λs=>s.2.2.1.isNone&&(aj c a t.1&&fZ c lo s.1&&fZ c hi s.2.1))=true:=h;obtain ⟨t,ht,h⟩:=aJ h;obtain ⟨s,hs,h⟩:=aJ h;rw[ae,ef]at h;exact ⟨_,_,_,_,_,by rw[ht,hs,h.1],h.2⟩
def Ha{c:CT}{f:AL}{es:Exs}{e:AO}(h:aj c (.call f es) e=true):∃x p args pos,e=.Call (.Name x p) args [] pos/\(x==⇑f&&c.glo x&&(c.fs.any λp=>p.1==f&&p.2==args.length)&&!args.isEmpty&&aL c es args)=true:=by have h:((bf e).any λt=>t.1==⇑f&&c.glo t.1&&(c.fs.any λp=>p.1==f&&p.2==t.2.2.1.length)&&!t.2.2.1.isEmpty&&aL c es t.2.2.1)=true:=h;obtain ⟨t,ht,h⟩:=aN h;exact ⟨_,_,_,_,cW ht,h⟩
def Hb{c:CT}{f:Bf}{es:Exs}{e:AO}(h:aj c (.bcl f es) e=true):∃x p args pos,e=.Call (.Name x p) args [] pos/\(x==⇑f.name&&ym f&&c.glo x&&c.bt.contains f.name&&!args.isEmpty&&aL c es args)=true:=by have h:((bf e).any λt=>t.1==⇑f.name&&ym f&&c.glo t.1&&c.bt.contains f.name&&!t.2.2.1.isEmpty&&aL c es t.2.2.1)=true:=h;obtain ⟨t,ht,h⟩:=aN h;exact ⟨_,_,_,_,cW ht,h⟩
def Hc{c:CT}{fz:Bool}{f:Lf}{es:Exs}{e:AO}(h:aj c (.lcl fz f es) e=true):∃x p args pos,e=.Call (.Name x p) args [] pos/\(x==⇑f.name&&yo f&&c.glo x&&c.bt.contains f.name&&!args.isEmpty&&aL c es args)=true:=by have h:((bf e).any λt=>t.1==⇑f.name&&yo f&&c.glo t.1&&c.bt.contains f.name&&!t.2.2.1.isEmpty&&aL c es t.2.2.1)=true:=h;obtain ⟨t,ht,h⟩:=aN h;exact ⟨_,_,_,_,cW ht,h⟩
def Hf {c:CT} {a:Ex} {t:AL} {e:AO} (h:aj c (.isi a t) e=true):∃x p v y p' pos,e=.Call (.Name x p) [v,.Name y p'] [] pos/\(x==⇑"isinstance"&&c.glo x&&c.bt.contains "isinstance"&&aj c a v&&y==⇑t&&c.glo y&&c.bt.contains t&&fV t)=true:=by have h:((bf e).any λu=>(two u.2.2.1).any λv=>az (asName v.2) λy=>u.1==⇑"isinstance"&&c.glo u.1&&c.bt.contains "isinstance"&&aj c a v.1&&y.1==⇑t&&c.glo y.1&&c.bt.contains t&&fV t)=true:=h;obtain ⟨u,hu,h⟩:=aN h;obtain ⟨v,hv,h⟩:=aN h;obtain ⟨y,hy,h⟩:=aJ h;exact ⟨_,_,_,_,_,_,by rw[cW hu,mF hv,hy],h⟩
def Hg {c:CT} {a:Ex} {C:AL} {xs:List AL} {e:AO} (h:aj c (.isx a C xs) e=true):∃x p v y p' pos,e=.Call (.Name x p) [v,.Name y p'] [] pos/\(x==⇑"isinstance"&&c.glo x&&c.bt.contains "isinstance"&&aj c a v&&y==⇑C&&c.glo y&&c.xs.contains (C,false)&&xs.all λx=>c.xs.contains (x,true)||c.ot.xk.any λp=>p.1==x)=true:=by have h:((bf e).any λu=>(two u.2.2.1).any λv=>az (asName v.2) λy=>u.1==⇑"isinstance"&&c.glo u.1&&c.bt.contains "isinstance"&&aj c a v.1&&y.1==⇑C&&c.glo y.1&&c.xs.contains (C,false)&&xs.all λx=>c.xs.contains (x,true)||c.ot.xk.any λp=>p.1==x)=true:=h;obtain ⟨u,hu,h⟩:=aN h;obtain ⟨v,hv,h⟩:=aN h;obtain ⟨y,hy,h⟩:=aJ h;exact ⟨_,_,_,_,_,_,by rw[cW hu,mF hv,hy],h⟩
def Hh {c:CT} {fz:Bool} {a:Ex} {e:AO} (h:aj c (.rgl fz a) e=true):∃x p x' p' e2 pos' pos,e=.Call (.Name x p) [.Call (.Name x' p') [e2] [] pos'] [] pos/\(x==⇑"list"&&c.glo x&&c.bt.contains "list"&&x'==⇑"range"&&c.glo x'&&c.bt.contains "range"&&aj c a e2)=true:=by have h:((bf e).any λt=>(one t.2.2.1).any λe1=>(bf e1).any λu=>(one u.2.2.1).any λe2=>t.1==⇑"list"&&c.glo t.1&&c.bt.contains "list"&&u.1==⇑"range"&&c.glo u.1&&c.bt.contains "range"&&aj c a e2)=true:=h;obtain ⟨t,ht,h⟩:=aN h;obtain ⟨e1,he1,h⟩:=aN h;obtain ⟨u,hu,h⟩:=aN h;obtain ⟨e2,he2,h⟩:=aN h;exact ⟨_,_,_,_,_,_,_,by rw[cW ht,bL he1,cW hu,bL he2],h⟩
def Hi {c:CT} {a:Ex} {e:AO} (h:aj c (.rgt a) e=true):∃x p x' p' e2 pos' pos,e=.Call (.Name x p) [.Call (.Name x' p') [e2] [] pos'] [] pos/\(x==⇑"tuple"&&c.glo x&&c.bt.contains "tuple"&&x'==⇑"range"&&c.glo x'&&c.bt.contains "range"&&aj c a e2)=true:=by have h:((bf e).any λt=>(one t.2.2.1).any λe1=>(bf e1).any λu=>(one u.2.2.1).any λe2=>t.1==⇑"tuple"&&c.glo t.1&&c.bt.contains "tuple"&&u.1==⇑"range"&&c.glo u.1&&c.bt.contains "range"&&aj c a e2)=true:=h;obtain ⟨t,ht,h⟩:=aN h;obtain ⟨e1,he1,h⟩:=aN h;obtain ⟨u,hu,h⟩:=aN h;obtain ⟨e2,he2,h⟩:=aN h;exact ⟨_,_,_,_,_,_,_,by rw[cW ht,bL he1,cW hu,bL he2],h⟩
def Hj{c:CT}{m:Mf}{o:Ex}{es:Exs}{e:AO}(h:aj c (.mth m o es) e=true):∃v x apos args cpos,e=.Call (.Attribute v x apos) args [] cpos/\(x==⇑m.name&&aj c o v&&!tD v&&(apos.endLine==cpos.line)&&decide (args.length < 29)&&!args.isEmpty&&aL c es args)=true:=by have h:(az (tR e) λt=>az (FQ t.1) λv=>t.2.2.1.isEmpty&&(v.2.1==⇑m.name&&aj c o v.1&&!tD v.1&&(v.2.2.endLine==t.2.2.2.line)&&decide (t.2.1.length < 29)&&!t.2.1.isEmpty&&aL c es t.2.1))=true:=h;obtain ⟨t,ht,h⟩:=aJ h;obtain ⟨v,hv,h⟩:=aJ h;rw[ae,fg]at h;exact ⟨_,_,_,_,_,by rw[ht,hv,h.1],h.2⟩
def Hk{c:CT}{fz:Bool}{elt:Ex}{tg:Tg}{it:It'}{cond:Tx}{N:List AL}{cap:List (Option Nat)}{e:AO}(h:aj c (.comp fz elt tg it cond N cap) e=true):∃elt' tg' iter ifs as scope pos,e=.ListComp elt' [⟨tg',iter,ifs,as⟩] scope pos/\(decide (as=0)&&cP c it tg' iter&&gO c.N scope (N.map Str.ofString) cap&&fY c scope&&eX (N.map Str.ofString)&&cO (c.comp (N.map Str.ofString) scope) tg tg'&&mJ (c.comp (N.map Str.ofString) scope) cond ifs&&aj (c.comp (N.map Str.ofString) scope) elt elt')=true:=by have h:(az (FT e) λt=>(one t.2.1).any λg=>decide (g.is_async=0)&&cP c it g.target g.iter&&gO c.N t.2.2.1 (N.map Str.ofString) cap&&fY c t.2.2.1&&eX (N.map Str.ofString)&&cO (c.comp (N.map Str.ofString) t.2.2.1) tg g.target&&((yr cond&&g.ifs.isEmpty)||(one g.ifs).any λf=>bu (c.comp (N.map Str.ofString) t.2.2.1) cond f)&&aj (c.comp (N.map Str.ofString) t.2.2.1) elt t.1)=true:=h;obtain ⟨t,ht,h⟩:=aJ h;obtain ⟨⟨tg',iter,ifs,as⟩,hg,h⟩:=aN h;exact ⟨t.1,tg',iter,ifs,as,t.2.2.1,t.2.2.2,(ht).trans (by rw[bL hg]),h⟩
def YF{c:CT}{t:Tx}{e:AO}(h:bu c (.not t) e=true):∃x p,e=.UnaryOp .Not x p/\(bu c t x)=true:=by have h:(az (jU e) λu=>mG u.1&&bu c t u.2.1)=true:=h;obtain ⟨u,ht,h⟩:=aJ h;rw[ae]at h;exact ⟨_,_,by rw[ht,Gm h.1],h.2⟩
def YG{c:CT}{isAnd:Bool}{x:Tx}{es:Txs}{e:AO}(h:bu c (.boo isAnd x es) e=true):∃op v vs p,e=.BoolOp op (v::vs) p/\(op==(if isAnd then .And else .Or)&&bu c x v&&iR c es vs)=true:=by have h:(az (tM e) λu=>(hdT u.2.1).any λv=>u.1==(if isAnd then .And else .Or)&&bu c x v.1&&iR c es v.2)=true:=h;obtain ⟨t,ht,h⟩:=aJ h;obtain ⟨v,hv,h⟩:=aN h;exact ⟨_,_,_,_,by rw[ht,Gk hv],h⟩
def Hl {c:CT} {a:Ex} {tg e:AO} (h:cP c (.rng a) tg e=true):∃x p v pos,e=.Call (.Name x p) [v] [] pos/\(x==⇑"range"&&c.glo x&&c.bt.contains "range"&&aj c a v)=true:=by have h:((bf e).any λt=>(one t.2.2.1).any λv=>t.1==⇑"range"&&c.glo t.1&&c.bt.contains "range"&&aj c a v)=true:=h;obtain ⟨t,ht,h⟩:=aN h;obtain ⟨v,hv,h⟩:=aN h;exact ⟨_,_,_,_,by rw[cW ht,bL hv],h⟩
def Hm {c:CT} {a:Ex} {tg e:AO} (h:cP c (.enm a) tg e=true):∃ts k p0 x p v pos,tg=.Tuple ts k p0/\e=.Call (.Name x p) [v] [] pos/\(x==⇑"enumerate"&&c.glo x&&c.bt.contains "enumerate"&&aj c a v)=true:=by have h:(az (gP tg) λ_=>(bf e).any λt=>(one t.2.2.1).any λv=>t.1==⇑"enumerate"&&c.glo t.1&&c.bt.contains "enumerate"&&aj c a v)=true:=h;obtain ⟨g,hg,h⟩:=aJ h;obtain ⟨t,ht,h⟩:=aN h;obtain ⟨v,hv,h⟩:=aN h;exact ⟨_,_,_,_,_,_,_,hg,by rw[cW ht,bL hv],h⟩
def Hn {c:CT} {a b:Ex} {tg e:AO} (h:cP c (.zip a b) tg e=true):∃ts k p0 x p v v' pos,tg=.Tuple ts k p0/\e=.Call (.Name x p) [v,v'] [] pos/\(x==⇑"zip"&&c.glo x&&c.bt.contains "zip"&&aj c a v&&aj c b v')=true:=by have h:(az (gP tg) λ_=>(bf e).any λt=>(two t.2.2.1).any λv=>t.1==⇑"zip"&&c.glo t.1&&c.bt.contains "zip"&&aj c a v.1&&aj c b v.2)=true:=h;obtain ⟨g,hg,h⟩:=aJ h;obtain ⟨t,ht,h⟩:=aN h;obtain ⟨v,hv,h⟩:=aN h;exact ⟨_,_,_,_,_,_,_,_,hg,by rw[cW ht,mF hv],h⟩
def YH{c:CT}{x:Ex}{st:Stmt}(h:bA c (.exp x) st=true):∃e pos,st=.Expr e pos/\(!dz e&&aj c x e)=true:=by have h:(az (tU st) λt=>!dz t.1&&aj c x t.1)=true:=h;obtain ⟨t,ht,h⟩:=aJ h;exact ⟨_,_,ht,h⟩
def Ho{c:CT}{g:Tg}{x:Ex}{st:Stmt}(h:bA c (.asg g x) st=true):∃tg e pos,st=.Assign [tg] e pos/\(cO c g tg&&aj c x e&&yu g x e)=true:=by have h:(az (gQ st) λt=>(one t.1).any λtg=>cO c g tg&&aj c x t.2.1&&yu g x t.2.1)=true:=h;obtain ⟨t,ht,h⟩:=aJ h;obtain ⟨g,hg,h⟩:=aN h;exact ⟨_,_,_,by rw[ht,bL hg],h⟩
def YJ{c:CT}{o i x:Ex}{st:Stmt}(h:bA c (.set o i x) st=true):∃o' i' tpos e pos,st=.Assign [.Subscript o' i' tpos] e pos/\(aj c o o'&&aj c i i'&&aj c x e&&!dz e)=true:=by have h:(az (gQ st) λt=>(one t.1).any λtg=>az (jV tg) λu=>aj c o u.1&&aj c i u.2.1&&aj c x t.2.1&&!dz t.2.1)=true:=h;obtain ⟨t,ht,h⟩:=aJ h;obtain ⟨g,hg,h⟩:=aN h;obtain ⟨u,hu,h⟩:=aJ h;exact ⟨_,_,_,_,_,by rw[ht,bL hg,hu],h⟩
def YK{c:CT}{i:Nat}{op:Operator}{x:Ex}{st:Stmt}(h:bA c (.aug i op x) st=true):∃y py o e pos,st=.AugAssign (.Name y py) o e pos/\(o==op&&(c.N[i]?==some y)&&c.sto y&&okN y&&aj c x e)=true:=by have h:(az (FW st) λt=>az (asName t.1) λy=>t.2.1==op&&(c.N[i]?==some y.1)&&c.sto y.1&&okN y.1&&aj c x t.2.2.1)=true:=h;obtain ⟨t,ht,h⟩:=aJ h;obtain ⟨u,hu,h⟩:=aJ h;exact ⟨_,_,_,_,_,by rw[ht,hu],h⟩
def YL{c:CT}{C:AL}{es:Exs}{st:Stmt}(h:bA c (.rse C es) st=true):∃x np m cpos pos,st=.Raise (some (.Call (.Name x np) [m] [] cpos)) none pos/\(x==⇑C&&c.glo x&&c.xs.contains (C,true)&&tX c es m)=true:=by have h:(az (Ga st) λt=>t.2.1.isNone&&t.1.any λe=>(bf e).any λu=>u.1==⇑C&&c.glo u.1&&c.xs.contains (C,true)&&(one u.2.2.1).any λm=>tX c es m)=true:=h;obtain ⟨t,ht,h⟩:=aJ h;rw[ae,ef]at h;obtain ⟨e,he,h2⟩:=aN h.2;obtain ⟨u,hu,h3⟩:=aN h2;rw[ae]at h3;obtain ⟨m,hm,h4⟩:=aN h3.2;exact ⟨_,_,m,_,_,by rw[ht,h.1,he,cW hu,bL hm],by rw[ae];exact ⟨h3.1,h4⟩⟩
def YM{b:Bool}{k:Const}(h:yw b k=true):k=.bool b:=by
 cases k <;> first | (cases h;done) |skip
 rw[show yw b (.bool _)=(_==b) from rfl,av]at h;rw[h]
def YQ{c:CT}{b:Tb}{C:AL}{h:Hd}{xs:List AL}{st:Stmt}(hh:bA c (.tryx b C h xs) st=true):
  ∃body cx p1 nm y p2 e p4 p5 pos,st=.Try body [.ExceptHandler (some (.Name cx p1)) nm [.Assign [.Name y p2] e p4] p5] [] [] pos/\
   dh c b body=true/\(xs.all λx=>c.xs.contains (x,true))=true/\(C=="ValueError")=false/\(cx==⇑C&&c.glo cx&&c.xs.contains (C,false))=true/\tY c h nm y e=true:=by
 have hh:(az (Gb st) λt=>t.2.2.1.isEmpty&&t.2.2.2.1.isEmpty&&dh c b t.1&&(xs.all λx=>c.xs.contains (x,true))&&!(C=="ValueError")&&(one t.2.1).any λhd=>az (Gd hd) λw=>w.1.any λte=>az (asName te) λn=>(n.1==⇑C&&c.glo n.1&&c.xs.contains (C,false))&&(one w.2.2.1).any λs1=>az (gQ s1) λa=>(one a.1).any λtg=>az (asName tg) λy=>tY c h w.2.1 y.1 a.2.1)=true:=hh;obtain ⟨t,ht,h1⟩:=aJ hh;simp only[ae,fg,fx]at h1;obtain ⟨⟨⟨⟨⟨e1,e2⟩,hx⟩,ha⟩,hv⟩,h2⟩:=h1;obtain ⟨hd,hhd,h3⟩:=aN h2;obtain ⟨w,hw,h3⟩:=aJ h3;obtain ⟨te,hte,h4⟩:=aN h3;obtain ⟨n,hn',h4⟩:=aJ h4;simp only[ae]at h4;obtain ⟨s1,hs1,h5⟩:=aN h4.2;obtain ⟨a,ha',h5⟩:=aJ h5;obtain ⟨tg,htg,h5⟩:=aN h5;obtain ⟨y,hy,h5⟩:=aJ h5;exact ⟨_,_,_,_,_,_,_,_,_,_,by rw[ht,e1,e2,bL hhd,hw,hte,hn',bL hs1,ha',bL htg,hy],hx,ha,hv,by simp only[ae];exact h4.1,h5⟩
def YS{c:CT}{f:AL}{es:Exs}{sts:AF}(h:dh c (.call f es) sts=true):∃x p args cpos p0,sts=[.Expr (.Call (.Name x p) args [] cpos) p0]/\
   (x==⇑f&&c.glo x&&(c.fs.any λp=>p.1==f&&p.2==args.length)&&!args.isEmpty&&aL c es args)=true:=by
 have h:((one sts).any λs0=>az (tU s0) λe0=>(bf e0.1).any λu=>(u.1==⇑f&&c.glo u.1&&(c.fs.any λp=>p.1==f&&p.2==u.2.2.1.length)&&!u.2.2.1.isEmpty&&aL c es u.2.2.1))=true:=h;obtain ⟨s0,hs0,h⟩:=aN h;obtain ⟨e0,he0,h⟩:=aJ h;obtain ⟨u,hu,h⟩:=aN h;exact ⟨_,_,_,_,_,by rw[bL hs0,he0,cW hu],h⟩
def YT{c:CT}{i:Nat}{f:AL}{es:Exs}{sts:AF}(h:dh c (.asg i f es) sts=true):∃y p2 x p args cpos p0,sts=[.Assign [.Name y p2] (.Call (.Name x p) args [] cpos) p0]/\(c.N[i]?==some y&&c.sto y&&okN y)=true/\
   (x==⇑f&&c.glo x&&(c.fs.any λp=>p.1==f&&p.2==args.length)&&!args.isEmpty&&aL c es args)=true:=by
 have h:((one sts).any λs0=>az (gQ s0) λa=>(one a.1).any λtg=>az (asName tg) λy=>(bf a.2.1).any λu=>(c.N[i]?==some y.1&&c.sto y.1&&okN y.1)&&(u.1==⇑f&&c.glo u.1&&(c.fs.any λp=>p.1==f&&p.2==u.2.2.1.length)&&!u.2.2.1.isEmpty&&aL c es u.2.2.1))=true:=h;obtain ⟨s0,hs0,h⟩:=aN h;obtain ⟨a,ha,h⟩:=aJ h;obtain ⟨tg,htg,h⟩:=aN h;obtain ⟨y,hy,h⟩:=aJ h;obtain ⟨u,hu,h⟩:=aN h;rw[ae]at h;exact ⟨_,_,_,_,_,_,_,by rw[bL hs0,ha,bL htg,hy,cW hu],h.1,h.2⟩
def YW{c:CT}{t:Tx}{a b:Tb}{sts:AF}(h:dh c (.ite t a b) sts=true):∃e x y pos,sts=[.If e x y pos]/\bu c t e=true/\dh c a x=true/\dh c b y=true:=by have h:((one sts).any λs0=>az (tW s0) λu=>bu c t u.1&&dh c a u.2.1&&dh c b u.2.2.1)=true:=h;obtain ⟨s0,hs0,h⟩:=aN h;obtain ⟨u,hu,h⟩:=aJ h;rw[ae,ae]at h;exact ⟨_,_,_,_,by rw[bL hs0,hu],h.1.1,h.1.2,h.2⟩
def YX{c:CT}{x:Ex}{st:Stmt}(h:bA c (.ret x) st=true):∃e pos,st=.Return (some e) pos/\(aj c x e)=true:=by have h:(az (tV st) λt=>t.1.any λe=>aj c x e)=true:=h;obtain ⟨t,ht,h⟩:=aJ h;obtain ⟨e,he,h⟩:=aN h;exact ⟨_,_,by rw[ht,he],h⟩
def YZ{c:CT}{st:Stmt}(h:bA c .rtn st=true):∃pos,st=.Return none pos/\(true)=true:=by have h:(az (tV st) λt=>t.1.isNone)=true:=h;obtain ⟨t,ht,h⟩:=aJ h;rw[ef]at h;exact ⟨_,by rw[ht,h],rfl⟩
def Y0{c:CT}{t:Tx}{a b:Sxs}{st:Stmt}(h:bA c (.ite t a b) st=true):∃t' a' b' pos,st=.If t' a' b' pos/\(bu c t t'&&aC c a a'&&aC c b b')=true:=by have h:(az (tW st) λu=>bu c t u.1&&aC c a u.2.1&&aC c b u.2.2.1)=true:=h;obtain ⟨u,ht,h⟩:=aJ h;exact ⟨_,_,_,_,ht,h⟩
def Y4{c:CT}{g:Tg}{it:It'}{b:Sxs}{st:Stmt}(h:bA c (.for_ g it b) st=true):∃tg iter body pos,st=.For tg iter body [] pos/\(cO c g tg&&cP c it tg iter&&aC c b body)=true:=by have h:(az (Ge st) λt=>t.2.2.2.1.isEmpty&&(cO c g t.1&&cP c it t.1 t.2.1&&aC c b t.2.2.1))=true:=h;obtain ⟨t,ht,h⟩:=aJ h;rw[ae,fg]at h;exact ⟨_,_,_,_,by rw[ht,h.1],h.2⟩
def Y5{c:CT}{t:Tx}{b:Sxs}{st:Stmt}(h:bA c (.whl t b) st=true):∃t' body pos,st=.While t' body [] pos/\(bu c t t'&&aC c b body)=true:=by have h:(az (Gf st) λu=>u.2.2.1.isEmpty&&(bu c t u.1&&aC c b u.2.1))=true:=h;obtain ⟨u,ht,h⟩:=aJ h;rw[ae,fg]at h;exact ⟨_,_,_,by rw[ht,h.1],h.2⟩
def Y6{c:CT}{st:Stmt}(h:bA c .pas st=true):∃pos,st=.Pass pos/\(true)=true:=by obtain ⟨⟨t,ht⟩,_⟩:=cq.mp (show (Gg st).isSome=true from h);exact ⟨t,ht,rfl⟩
def Y7{c:CT}{st:Stmt}(h:bA c .brk st=true):∃pos,st=.Break pos/\(true)=true:=by obtain ⟨⟨t,ht⟩,_⟩:=cq.mp (show (Gi st).isSome=true from h);exact ⟨t,ht,rfl⟩
def Y8{c:CT}{st:Stmt}(h:bA c .cnt st=true):∃pos,st=.Continue pos/\(true)=true:=by obtain ⟨⟨t,ht⟩,_⟩:=cq.mp (show (Gj st).isSome=true from h);exact ⟨t,ht,rfl⟩
def mL:AO->Bool
 |.Starred ..=>false
 |.Set ..=>false
 |.Slice ..=>false
 |_=>true
def bH{c:CT}:∀(x:Ex){e:AO},aj c x e=true->mL e=true
 |.frz a,e,h=>bH a (show aj c a e=true from h)
 |.dnw,e,h=>by obtain ⟨_,rfl⟩:=GR h;rfl
 |.dc0 _,e,h=>by obtain ⟨_,_,_,_,_,_,_,_,rfl,_⟩:=yC h;rfl
 |.dp1 _ _,e,h=>by obtain ⟨_,_,_,rfl,_⟩:=GX h;rfl
 |.var _,e,h=>by obtain ⟨_,_,rfl,_⟩:=Gu h;rfl
 |.cst _,e,h=>by obtain ⟨_,_,_,rfl,_⟩:=Gv h;rfl
 |.glb _ _,e,h=>by obtain ⟨_,_,rfl,_⟩:=Gw h;rfl
 |.bin _ _ _ _,e,h=>by obtain ⟨_,_,_,_,rfl,_⟩:=Gx h;rfl
 |.neg _,e,h=>by obtain ⟨_,_,rfl,_⟩:=Gy h;rfl
 |.cmp _ _ _,e,h=>by obtain ⟨_,_,_,_,rfl,_⟩:=GC h;rfl
 |.chn _ _ _ _ _,e,h=>by obtain ⟨_,_,_,_,_,_,rfl,_⟩:=GD h;rfl
 |.not _,e,h=>by obtain ⟨_,_,rfl,_⟩:=Gz h;rfl
 |.boo _ _ _,e,h=>by obtain ⟨_,_,_,_,rfl,_⟩:=GF h;rfl
 |.ife _ _ _,e,h=>by obtain ⟨_,_,_,_,rfl,_⟩:=GJ h;rfl
 |.tup _,e,h=>by obtain ⟨_,_,_,rfl,_⟩:=GK h;rfl
 |.lst _ _,e,h=>by obtain ⟨_,_,rfl,_⟩:=GP h;rfl
 |.idx _ _,e,h=>by obtain ⟨_,_,_,rfl,_⟩:=GQ h;rfl
 |.slc _ _ _ _,e,h=>by obtain ⟨_,_,_,_,_,rfl,_⟩:=GZ h;rfl
 |.call _ _,e,h=>by obtain ⟨_,_,_,_,rfl,_⟩:=Ha h;rfl
 |.bcl _ _,e,h=>by obtain ⟨_,_,_,_,rfl,_⟩:=Hb h;rfl
 |.lcl _ _ _,e,h=>by obtain ⟨_,_,_,_,rfl,_⟩:=Hc h;rfl
 |.isi _ _,e,h=>by obtain ⟨_,_,_,_,_,_,rfl,_⟩:=Hf h;rfl
 |.rgl _ _,e,h=>by obtain ⟨_,_,_,_,_,_,_,rfl,_⟩:=Hh h;rfl
 |.rgt _,e,h=>by obtain ⟨_,_,_,_,_,_,_,rfl,_⟩:=Hi h;rfl
 |.isx _ _ _,e,h=>by obtain ⟨_,_,_,_,_,_,rfl,_⟩:=Hg h;rfl
 |.mth _ _ _,e,h=>by obtain ⟨_,_,_,_,_,rfl,_⟩:=Hj h;rfl
 |.comp _ _ _ _ _ _ _,e,h=>by obtain ⟨_,_,_,_,_,_,_,rfl,_⟩:=Hk h;rfl
def cC{e:AO}(h:mL e=true):noStar e=true:=by cases e <;> first |rfl |exact nZf h
def Hq{e:AO}(h:mL e=true)(op:CmpOp):behindInMarks op e=false:=by cases e <;> first |rfl |exact nZf h
def yD{e:AO}(h:mL e=true)(env:Env)(x:AN):foldedSetIterable e env x=pure x:=by cases e <;> first |rfl |exact nZf h
def Y9{e:AO}(h:mL e=true):BW e:=by intro o i;cases e <;> first |rfl |exact nZf h
def Za{e:AO}(h:iQ e=true)(env:Env)(whole:Sem AN):isTrue e env whole=(do let v <-whole;standAt e.pos;holding [v] (truthy v)):=by
 cases e with
 |UnaryOp op x p=>cases op <;> first |rfl |exact nZf h
 |_=>first |rfl |exact nZf h
set_option backward.match.sparseCases true
def XV(K:PF)(H:Hp)(F:FZ)(x:Xn)(cv:AN)(od:Option AQ):Prop:=
 ∃C,cv=.ref C/\PySem.W.nsIn K mainGlobals (⇑x.cls)=some (some (.ref C))/\
  match x.fld with
  |.non=>True
  |d=>∃a f v,od=some a/\H a=some (.xd [(f,v)])/\Rep K H F d v
def XR(K:PF)(H:Hp)(F:FZ)(x:Xn)(EX:XK):Prop:=∀cv od,XV K H F x cv od->EX cv od H
def PX(K:PF)(H:Hp)(F:FZ)(EX:XK):EK:=λx G'=>∀H' F',Ext H F H' F'->R K H' F' G'->XR K H' F' x EX
def el{α β γ:Type}{p q r s:α->β->γ->Prop}{C:Prop}(h:∃x y z,p x y z/\q x y z/\r x y z/\s x y z)(k:∀x y z,p x y z->q x y z->r x y z->s x y z->C):C:=by obtain ⟨x,y,z,h1,h2,h3,h4⟩:=h;exact k x y z h1 h2 h3 h4
def lift(K:PF)(n:Nat)(S:RF.Spec):Sp:=λvs H Q EX=>vs.length=n/\∃F G ds,R K H F G/\Reps K H F ds vs/\S.t ds G (PV K H F Q) (PX K H F EX)
def CV(K:PF)(mg:AH)(C':AL)(cv:V):Prop:=
 (∃a,cv=.ref a/\mg (⇑C')=some (.ref a)/\qY K a=true)\/(C'="ValueError"/\cv=.ty "ValueError"/\mg (⇑C')=none)
def XI(K:PF)(C C':AL)(cv:V):Prop:=
 ∃c,PySem.W.nsIn K mainGlobals (⇑C)=some (some (.ref c))/\jy K c=true/\PySem.W.mroIn K c (valOf cv)=some (cj C C')/\(cj C C'=false->(Value.ref c==valOf cv)=false)
def CV.ok{K:PF}{mg:AH}{C':AL}{cv:V}(h:CV K mg C' cv):dq K (valOf cv)=true:=by
 rcases h with ⟨a,rfl,_,h⟩ |⟨_,rfl,_⟩
 .have kc:=Dk h;show ((PySem.W.clsIn K a).isSome&&PySem.W.typeIn K (.ref a)==some (.type "type"))=true;rw[kc.c,kc.t];rfl
 .rfl
structure Bs where
 H:Hp
 F:FZ
def Hr(K:PF)(C f:AL):Prop:=∃c,PySem.W.nsIn K mainGlobals (⇑C)=some (some (.ref c))/\Cls K c/\R7 K c (⇑f)
def MthOk(Z:aa)(P:AK)(w:World)(K:PF)(mg:AH)(base:Heap)(CX:CXT)(k:Nat)(f C m:AL)(n:Nat):Prop:=
 ∃c fa fd ps,PySem.W.nsIn K mainGlobals (⇑C)=some (some (.ref c))/\Cls K c/\Meth K c (⇑m) fa/\Binds K fd ps []/\FnOk P w K mg base CX k fa fd ps (lift K n (Z f))
def MkoOk(Z:aa)(P:AK)(w:World)(K:PF)(mg:AH)(base:Heap)(CX:CXT)(k:Nat)(C:AL)(n:Nat):Prop:=
 ∃c fa fd ps sp j,j+1<=k/\mg (⇑C)=some (.ref c)/\Mk K c fa/\Binds K fd ps []/\FnOk P w K mg base CX j fa fd ps sp/\
  ∀vs H Q E,lift K n (Z C) vs H Q E->∀x dx,H x=none->H dx=none->dx≠x->sp (.ref x::vs) (upd (upd H dx (.own x)) x (.ins c dx [])) (λv H2=>v=.non/\Q (.ref x) H2) E
def Zb(K:PF)(c:AQ)(f:AL):Sp:=λvs H Q _=>∃a b l d F G,vs=[.ref a,b]/\H a=some (.ext (Dv a c l none))/\¬F a/\R K H F G/\Rep K H F d b/\okA d/\
 ∀H2 F2 dx od ob l',Ext H F H2 F2->R K H2 F2 G->H2 a=some (.ext (Dv a c l' none))->H2 dx=none->dx≠a->ob.cls=.ref c->ob.dict=some dx->PySem.W.notCls ob=true->Q .non (upd (upd H2 a (.frz ob (.own a))) dx (.frz od (.xd [(⇑f,b)])))
def Zc(P:AK)(w:World)(K:PF)(mg:AH)(base:Heap)(CX:CXT)(k:Nat)(C f:AL):Prop:=
 ∃c fa fd ps j,j+1<=k/\mg (⇑C)=some (.ref c)/\PySem.W.nsIn K mainGlobals (⇑C)=some (some (.ref c))/\Wc K c fa=true/\PySem.W.typeIn K (.ref fa)=some (.type "function")/\PySem.W.keepIn K (.ref c)=true/\
  (jy K c=true/\PySem.W.hasDictIn K c=true/\PySem.W.findIn K (.ref c) (⇑f)=some none)/\Binds K fd ps []/\FnOk P w K mg base CX j fa fd ps (Zb K c f)
def XkoX(P:AK)(w:World)(K:PF)(mg:AH)(base:Heap)(CX:CXT)(k:Nat)(xs:List (AL×Bool))(C f:AL):Prop:=
 Zc P w K mg base CX k C f/\∀C' cv,xs.contains (C',false)=true->CV K mg C' cv->XI K C C' cv
structure Stat(Z:aa)(CX:CXT)(k:Nat)(c:CT)(E:EK)(B:Bs)(X:Cx):Prop where
 N:X.N=c.N
 nd:X.N.Nodup
 calm:X.calm=true
 own:PassesOwn (model X.prog X.w) X.A X.env X.xe
 kd:X.env.kindOf=λx=>X.env.scope.names.lookup x
 vis:∀x,iM (c.kd.lookup x)=true->Vis X.env.scope x
 cel:∀x,(c.kd.lookup x=some .cell\/c.kd.lookup x=some .free)->(X.env.kindOf x=some .cell\/X.env.kindOf x=some .free)
 glo:∀x,c.kd.lookup x=some .globalImplicit->Gl X x
 sto:∀x,c.sto x=true->Loc X.env.scope x/\(X.fn x=true\/X.env.scope.names.lookup x=some .local)
 room:Room k X.A
 call:∀f n,(f,n)∈c.fs->∃fa fd ps,FnOk X.prog X.w X.K X.mg X.base CX k fa fd ps (lift X.K n (Z f))/\PySem.W.keepIn X.K (.ref fa)=true/\Binds X.K fd ps []/\X.mg (⇑f)=some (.ref fa)
 blt:∀f,f∈c.bt->X.mg (⇑f)=none
 con:∀x d,(x,d)∈c.cn->∃u v,X.mg (⇑x)=some u/\RelV v u/\∀H F,Rep X.K H F d v
 exc:∃EX,jt CX X EX/\Throws X EX/\∀x G' H' F',E x G'->Ext B.H B.F H' F'->R X.K H' F' G'->XR X.K H' F' x EX
 nox:∀(Y:Cx),jt CX Y λ_ _ _=>False
 xcl:∀C,c.xs.contains (C,true)=true->∃a,X.mg (⇑C)=some (.ref a)/\iC X.K a=true/\PySem.W.nsIn X.K mainGlobals (⇑C)=some (some (.ref a))
 loc:∀x,c.kd.lookup x=some .local->X.env.scope.names.lookup x=some .local
 xis:∀C',c.xs.contains (C',false)=true->∃cv,CV X.K X.mg C' cv/\∀C,c.xs.contains (C,true)=true->XI X.K C C' cv
 mth:∀f C m n,(f,C,m,n)∈c.ot.ms->MthOk Z X.prog X.w X.K X.mg X.base CX k f C m n
 mko:∀C n,(C,n)∈c.ot.ks->MkoOk Z X.prog X.w X.K X.mg X.base CX k C n
 fld:∀C f,(C,f)∈c.ot.fl->Hr X.K C f
 xko:∀C f,(C,f)∈c.ot.xk->XkoX X.prog X.w X.K X.mg X.base CX k c.xs C f
 trc:c.xs≠[]->CX=CX1 X.prog X.w/\X.stack=X.env::X.outer/\X.ex=[]
def tE(K:PF)(B:Bs)(w:ak->DH->(AT)->Prop):TE:=λX H Q=>∃Y F G,Ext B.H B.F H F/\EnvR K H F Y X/\R K H F G/\w Y G (PV K H F Q)
def tB'(K:PF)(B:Bs)(w:ak->DH->(Bool->DH->Prop)->Prop):TT:=λX H Q=>∃Y F G,Ext B.H B.F H F/\EnvR K H F Y X/\R K H F G/\w Y G (PB K H F Q)
def tL(K:PF)(B:Bs)(w:ak->DH->(AS->DH->Prop)->Prop):TA:=λX H Q=>∃Y F G,Ext B.H B.F H F/\EnvR K H F Y X/\R K H F G/\w Y G (PLs K H F Q)
def POp(K:PF)(H:Hp)(F:FZ)(Q:Option Int->Hp->Prop):Option Int->DH->Prop:=λb G'=>∀H' F',Ext H F H' F'->R K H' F' G'->Q b H'
def Hs(K:PF)(B:Bs)(w:ak->DH->(Option Int->DH->Prop)->Prop):TO:=λX H Q=>∃Y F G,Ext B.H B.F H F/\EnvR K H F Y X/\R K H F G/\w Y G (POp K H F Q)
def peI{X:Cx}{e:AO}{t t':TE}(h:PE X e t)(i:∀Y H Q,t' Y H Q->t Y H Q):PE X e t':=λp9 s Y H Q I q=>h p9 s Y H Q I (i Y H Q q)
def ptI{X:Cx}{e:AO}{t t':TT}(h:PT X e t)(i:∀Y H Q,t' Y H Q->t Y H Q):PT X e t':=λp9 s Y H Q I q=>h p9 s Y H Q I (i Y H Q q)
def pwI{X:Cx}{e:AO}{t t':TT}(h:PW X e t)(i:∀Y H Q,t' Y H Q->t Y H Q):PW X e t':=λwh p9 s Y H Q I q=>h wh p9 s Y H Q I (i Y H Q q)
def paI{X:Cx}{e:AE}{t t':TA}(h:PA X e t)(i:∀Y H Q,t' Y H Q->t Y H Q):PA X e t':=λpos p9 s Y H Q I q=>h pos p9 s Y H Q I (i Y H Q q)
section
variable {Z:aa} {CX:CXT} {k:Nat} {c:CT} {E:EK} {B:Bs} {X:Cx}
theorem aO{K:PF}{x:Ex}{X:L2.St}{H:Hp}{F:FZ}{G:DH}{Y:ak}{W:AT}{Q:VK}(e0:Ext B.H B.F H F)(he:EnvR K H F Y X)(r:R K H F G)(hw:wpE Z x E Y G W)
  (h:∀d G1 H1 F1 v,W d G1->Ext B.H B.F H1 F1->Ext H F H1 F1->EnvR K H1 F1 Y X->R K H1 F1 G1->Rep K H1 F1 d v->Q v H1):tE K B (wpE Z x E) X H Q:=
 ⟨Y,F,G,e0,he,r,aK x (λd G1 q H1 F1 v x1 r1 rv=>h d G1 H1 F1 v q (e0.trans x1) x1 (he.ext x1) r1 rv) hw⟩
theorem cQ{K:PF}{x:Exs}{X:L2.St}{H:Hp}{F:FZ}{G:DH}{Y:ak}{W:AS->DH->Prop}{Q:AR->Hp->Prop}(e0:Ext B.H B.F H F)(he:EnvR K H F Y X)(r:R K H F G)(hw:aU Z x E Y G W)
  (h:∀d G1 H1 F1 v,W d G1->Ext B.H B.F H1 F1->Ext H F H1 F1->EnvR K H1 F1 Y X->R K H1 F1 G1->Reps K H1 F1 d v->Q v H1):tL K B (aU Z x E) X H Q:=
 ⟨Y,F,G,e0,he,r,dO x (λd G1 q H1 F1 v x1 r1 rv=>h d G1 H1 F1 v q (e0.trans x1) x1 (he.ext x1) r1 rv) hw⟩
theorem gR{K:PF}{x:Tx}{X:L2.St}{H:Hp}{F:FZ}{G:DH}{Y:ak}{W:Bool->DH->Prop}{Q:Bool->Hp->Prop}(e0:Ext B.H B.F H F)(he:EnvR K H F Y X)(r:R K H F G)(hw:wpT Z x E Y G W)
  (h:∀d G1 H1 F1,W d G1->Ext B.H B.F H1 F1->Ext H F H1 F1->EnvR K H1 F1 Y X->R K H1 F1 G1->Q d H1):tB' K B (wpT Z x E) X H Q:=
 ⟨Y,F,G,e0,he,r,cU x (λd G1 q H1 F1 x1 r1=>h d G1 H1 F1 q (e0.trans x1) x1 (he.ext x1) r1) hw⟩
theorem Ht{K:PF}{x:Ox}{X:L2.St}{H:Hp}{F:FZ}{G:DH}{Y:ak}{W:Option Int->DH->Prop}{Q:Option Int->Hp->Prop}(e0:Ext B.H B.F H F)(he:EnvR K H F Y X)(r:R K H F G)(hw:wpO Z x E Y G W)
  (h:∀d G1 H1 F1,W d G1->Ext B.H B.F H1 F1->Ext H F H1 F1->EnvR K H1 F1 Y X->R K H1 F1 G1->Q d H1):Hs K B (wpO Z x E) X H Q:=
 ⟨Y,F,G,e0,he,r,xU x (λd G1 q H1 F1 x1 r1=>h d G1 H1 F1 q (e0.trans x1) x1 (he.ext x1) r1) hw⟩
theorem PV.later{K:PF}{H H1:Hp}{F F1:FZ}{Q:VK}{d:D}{G:DH}(h:PV K H F Q d G)(x:Ext H F H1 F1):PV K H1 F1 Q d G:=λH' F' v x1=>h H' F' v (x.trans x1)
theorem PB.later{K:PF}{H H1:Hp}{F F1:FZ}{Q:Bool->Hp->Prop}{d:Bool}{G:DH}(h:PB K H F Q d G)(x:Ext H F H1 F1):PB K H1 F1 Q d G:=λH' F' x1=>h H' F' (x.trans x1)
theorem PB.now{K:PF}{H:Hp}{F:FZ}{Q:Bool->Hp->Prop}{d:Bool}{G:DH}(h:PB K H F Q d G)(r:R K H F G):Q d H:=h H F (Ext.refl H F) r
theorem gb(S:Stat Z CX k c E B X):X.A.units+100 < cLine:=by have:=S.room.un;omega
theorem bF {x:Str} (h:okN x=true):(x==("__debug__":Str))=false:=by
 unfold okN at h;cases e:x==("__debug__":Str) with
 |false=>rfl
 |true=>rw[e]at h;simp at h
theorem Hu {x:Str} (h:okN x=true):(x==("__classdict__":Str))=false:=by
 unfold okN at h;cases e:x==("__classdict__":Str) with
 |false=>rfl
 |true=>rw[e]at h;simp at h
theorem cR {x:Str} (h:okN x=true):x≠"__name__":=by unfold okN at h;intro e;rw[av.mpr e]at h;simp at h
theorem bY{x:Str}(h:c.glo x=true):c.kd.lookup x=some .globalImplicit/\okN x=true:=by unfold CT.glo at h;rw[ae,av]at h;exact h
theorem Zd(S:Stat Z CX k c E B X){i:Nat}{e:AO}(h:aj c (.var i) e=true):PE X e (tE X.K B (wpE Z (.var i) E)):=by
 replace h:=Gu h;obtain ⟨x,pos,rfl,h⟩:=h
 .rw[ae,ae,av]at h;refine peI (vf (i:=i) (by rw[S.N];exact h.1.1) (S.vis x h.1.2) (bF h.2) (Hu h.2)) λW H Q q=>?_;obtain ⟨Y,F,G,_,he,r,hw⟩:=q;rw[wF]at hw;split at hw
  .rename_i d hd;obtain ⟨v,e1,rv⟩:=he.get hd;exact ⟨v,e1,hw.now r rv⟩
  .exact hw.elim
theorem Ze(S:Stat Z CX k c E B X){d:D}{e:AO}(h:aj c (.cst d) e=true):PE X e (tE X.K B (wpE Z (.cst d) E)):=by
 replace h:=Gv h;obtain ⟨kk,_,_,rfl,h⟩:=h
 .unfold tB at h;split at h
  .exact peI Qu λW H Q hq=>el hq λY F G _ he r hw=>by rw[jN]at hw;exact hw.now r rfl
  .rw[av]at h;subst h;exact peI Ay λW H Q hq=>el hq λY F G _ he r hw=>by rw[jN]at hw;exact hw.now r rfl
  .rw[av]at h;subst h;exact peI Qt λW H Q hq=>el hq λY F G _ he r hw=>by rw[jN]at hw;exact hw.now r rfl
  .rename_i l b;rw[ae,av,bS]at h;refine peI Az λW H Q hq=>el hq λY F G _ he r hw=>?_;rw[jN]at hw;refine hw.now r ⟨?_,h.2⟩;rw[h.1,<-qU]
  .cases h
theorem Zf(S:Stat Z CX k c E B X){x:AL}{d:D}{e:AO}(h:aj c (.glb x d) e=true):PE X e (tE X.K B (wpE Z (.glb x d) E)):=by
 replace h:=Gw h;obtain ⟨y,pos,rfl,h⟩:=h
 .rw[ae,ae,av,gT]at h;obtain ⟨⟨e1,h1⟩,⟨x',d'⟩,hm,h2⟩:=h;rw[ae,av]at h2;obtain ⟨e2,e3⟩:=h2;have e3:=Yx e3;simp only at e2 e3;subst e1 e2 e3;obtain ⟨g1,g2⟩:=bY h1;obtain ⟨u,v,hu,ru,hr⟩:=S.con _ _ hm;exact peI (Ba (S.glo _ g1) hu ru (bF g2)) λW H Q hq=>el hq λY F G _ he r hw=>by rw[wG]at hw;exact hw.now r (hr H F)
theorem Zg(S:Stat Z CX k c E B X){op:Operator}{fz:Bool}{a b:Ex}(iha:∀{e},aj c a e=true->PE X e (tE X.K B (wpE Z a E)))(ihb:∀{e},aj c b e=true->PE X e (tE X.K B (wpE Z b E))){e:AO}
  (h:aj c (.bin op fz a b) e=true):PE X e (tE X.K B (wpE Z (.bin op fz a b) E)):=by
 replace h:=Gx h;obtain ⟨l,o,r,pos,rfl,h⟩:=h
 .rw[ae,ae,av]at h;obtain ⟨⟨e1,h1⟩,h2⟩:=h;subst e1;refine peI (RB (W9 _ fz) (iha h1) (ihb h2)) λW H Q hq=>el hq λY F G e0 he r hw=>?_;rw[wH]at hw;refine aO e0 he r hw λx G1 H1 F1 v q e1 x1 he1 r1 rv=>aO e1 he1 r1 q λy G2 H2 F2 u q e2 x2 he2 r2 ru=>?_;exact ⟨F2,G2,x,y,r2,Rep.ext x2 rv,ru,Ei (λd G' z=>PV.later z (x1.trans x2)) q⟩
theorem Zh(S:Stat Z CX k c E B X){a:Ex}(iha:∀{e},aj c a e=true->PE X e (tE X.K B (wpE Z a E))){e:AO}(h:aj c (.neg a) e=true):PE X e (tE X.K B (wpE Z (.neg a) E)):=by
 replace h:=Gy h;obtain ⟨_,_,rfl,h⟩:=h
 .refine peI (RC RP (iha h)) λW H Q hq=>el hq λY F G e0 he r hw=>?_;rw[wI]at hw;refine aO e0 he r hw λx G1 H1 F1 v q e1 x1 he1 r1 rv=>?_;split at q
  .have e2:v=.int _:=rv;subst e2;exact ⟨_,rfl,q _ _ _ x1 r1 rfl⟩
  .exact q.elim
theorem Hv(S:Stat Z CX k c E B X){op:CmpOp}{a b:Ex}(iha:∀{e},aj c a e=true->PE X e (tE X.K B (wpE Z a E)))(ihb:∀{e},aj c b e=true->PE X e (tE X.K B (wpE Z b E))){e:AO}
  (h:aj c (.cmp op a b) e=true):PE X e (tE X.K B (wpE Z (.cmp op a b) E))/\PT X e (tB' X.K B (wpT Z (.val (.cmp op a b)) E)):=by
 replace h:=GC h;obtain ⟨l,o,r,pos,rfl,h⟩:=h
 .rw[ae,ae,av]at h;obtain ⟨⟨e1,h1⟩,h2⟩:=h;subst e1;have hm:=Hq (bH b h2) o;refine ⟨peI (RV (jR _ (gb S)) (iha h1) (ihb h2) hm) λW H Q hq=>el hq λY F G e0 he r hw=>?_,ptI (RW (jR _ (gb S)) (iha h1) (ihb h2) hm) λW H Q hq=>el hq λY F G e0 he r hw=>?_⟩
  .rw[rQ]at hw;refine aO e0 he r hw λx G1 H1 F1 v q e1 x1 he1 r1 rv=>aO e1 he1 r1 q λy G2 H2 F2 u q e2 x2 he2 r2 ru=>?_;exact ⟨F2,G2,x,y,r2,Rep.ext x2 rv,ru,iH (λd z=>PV.later z (x1.trans x2)) q⟩
  .rw[lX,rQ]at hw;refine aO e0 he r hw λx G1 H1 F1 v q e1 x1 he1 r1 rv=>aO e1 he1 r1 q λy G2 H2 F2 u q e2 x2 he2 r2 ru=>?_;refine ⟨F2,G2,x,y,r2,Rep.ext x2 rv,ru,iH (λd z=>?_) q⟩;intro H' F' v' x' r' rv';have e3:v'=.bl d:=rv';exact ⟨d,e3,z H' F' ((x1.trans x2).trans x') r'⟩
theorem Hw(S:Stat Z CX k c E B X){op op':CmpOp}{a b d:Ex}(iha:∀{e},aj c a e=true->PE X e (tE X.K B (wpE Z a E)))(ihb:∀{e},aj c b e=true->PE X e (tE X.K B (wpE Z b E)))(ihd:∀{e},aj c d e=true->PE X e (tE X.K B (wpE Z d E))){e:AO}
  (h:aj c (.chn op op' a b d) e=true):PE X e (tE X.K B (wpE Z (.chn op op' a b d) E))/\PT X e (tB' X.K B (wpT Z (.val (.chn op op' a b d)) E)):=by
 replace h:=GD h;obtain ⟨l,o,o',m,r,pos,rfl,h⟩:=h
 .simp only[ae,av]at h;obtain ⟨⟨⟨⟨e1,e2⟩,h1⟩,h2⟩,h3⟩:=h;subst e1 e2;have hm:lastMarks [o,o'] [m,r]=false:=Hq (bH d h3) o';have go:∀{V H Q Y F G}{W:Bool->DH->Prop},Ext B.H B.F H F->EnvR X.K H F Y V->R X.K H F G->
    wpE Z a E Y G (λx G1=>wpE Z b E Y G1 λy G2=>aW o (view G2 x) (view G2 y) λt=>match t with |true=>wpE Z d E Y G2 λz G3=>aW o' (view G3 y) (view G3 z) λt'=>W t' G3 |false=>W false G2)->
    (∀t G' H' F',W t G'->Ext H F H' F'->R X.K H' F' G'->Q (.bl t) H')->
    vo (rC2 X.K (aW o)) (rC2 X.K (aW o')) (tE X.K B (wpE Z a E)) (tE X.K B (wpE Z b E)) (tE X.K B (wpE Z d E)) V H Q:=by
   intro V H Q Y F G W e0 he r hw fin;refine aO e0 he r hw λx G1 H1 F1 v q e1 x1 he1 r1 rv=>aO e1 he1 r1 q λy G2 H2 F2 u q e2 x2 he2 r2 ru=>?_;refine ⟨F2,G2,x,y,r2,Rep.ext x2 rv,ru,iH (λt q=>?_) q⟩;intro H3 F3 v3 x3 r3 rv3;have e3:v3=.bl t:=rv3;refine ⟨t,e3,?_⟩;cases t with
   |true=>
    rw[if_pos rfl];refine aO (e2.trans x3) (he2.ext x3) r3 q λz G4 H4 F4 v4 q e4 x4 he4 r4 rv4=>?_;refine ⟨F4,G4,y,z,r4,Rep.ext (x3.trans x4) ru,rv4,iH (λt' q=>?_) q⟩;intro H5 F5 v5 x5 r5 rv5;have e5:v5=.bl t':=rv5;subst e5;exact fin _ _ _ _ q ((((x1.trans x2).trans x3).trans x4).trans x5) r5
   |false=>
    rw[if_neg bP];exact fin _ _ _ _ q ((x1.trans x2).trans x3) r3
  refine ⟨peI (RX (jR _ (gb S)) (jR _ (gb S)) (iha h1) (ihb h2) (ihd h3) hm) λV H Q hq=>el hq λY F G e0 he r hw=>?_,ptI (RZ (jR _ (gb S)) (jR _ (gb S)) (iha h1) (ihb h2) (ihd h3) hm) λV H Q hq=>el hq λY F G e0 he r hw=>?_⟩
  .rw[rR]at hw;exact go (W:=λt G'=>PV X.K H F Q (.bl t) G') e0 he r hw λt G' H' F' z x' r'=>z H' F' _ x' r' rfl
  .rw[lX,rR]at hw;refine go (W:=λt G'=>PB X.K H F Q t G') e0 he r hw λt G' H' F' z x' r'=>⟨t,rfl,z H' F' x' r'⟩
end
section
variable {Z:aa} {CX:CXT} {k:Nat} {c:CT} {E:EK} {B:Bs} {X:Cx}
abbrev OkE(Z:aa)(c:CT)(E:EK)(B:Bs)(X:Cx)(x:Ex):Prop:=∀{e:AO},aj c x e=true->PE X e (tE X.K B (wpE Z x E))
abbrev gU(Z:aa)(c:CT)(E:EK)(B:Bs)(X:Cx)(x:Exs):Prop:=∀{es:AE},aL c x es=true->PA X es (tL X.K B (aU Z x E))
abbrev OkT(Z:aa)(c:CT)(E:EK)(B:Bs)(X:Cx)(x:Tx):Prop:=∀{e:AO},bu c x e=true->PT X e (tB' X.K B (wpT Z x E))
theorem Zi(S:Stat Z CX k c E B X){a:Ex}(iha:OkE Z c E B X a){e:AO}(h:aj c (.not a) e=true):PE X e (tE X.K B (wpE Z (.not a) E)):=by
 replace h:=Gz h;obtain ⟨_,_,rfl,h⟩:=h
 .intro p9 s W H Q I q;obtain ⟨Y,F,G,e0,he,r,hw⟩:=q;rw[wJ]at hw;have q':tE X.K B (wpE Z a E) W H (λx H1=>∃b,qQ X.K x H1 b/\Q (.bl (!b)) H1):=aO e0 he r hw λx G1 H1 F1 v q e1 x1 he1 r1 rv=>by
   split at q
   .rename_i b hb;exact ⟨b,Fg r1 rv hb,q _ _ _ x1 r1 rfl⟩
   .exact q.elim
  refine UnaryOp_ (thn (iha h p9 s W H _ I q') λv s1 ⟨x,H1,I1,r1,b,tb,q1⟩=>?_);refine not_of (thn (Bo p9 s1 W H1 x v (λb' H'=>Q (.bl (!b')) H') I1 r1 ⟨b,tb,q1⟩) λb' s2 ⟨H2,I2,q2⟩=>?_);exact ⟨.bl (!b'),H2,I2,rfl,q2⟩
theorem yE{es:AE}(h:aL c .nil es=true):PA X es (tL X.K B (aU Z .nil E)):=by
 unfold aL at h;cases es with
 |nil=>exact paI eU λW H Q hq=>el hq λY F G e0 he r hw=>by rw[jM]at hw;exact hw H F [] (Ext.refl _ _) r rfl
 |cons _ _=>cases h
theorem tZ{x:Ex}{xs:Exs}(ih:OkE Z c E B X x)(ihs:gU Z c E B X xs){es:AE}(h:aL c (.cons x xs) es=true):PA X es (tL X.K B (aU Z (.cons x xs) E)):=by
 unfold aL at h;split at h
 .rename_i e es;rw[ae]at h;refine paI (dJ (ih h.1) (ihs h.2) (bO e es X.env (cC (bH x h.1)))) λW H Q hq=>el hq λY F G e0 he r hw=>?_;rw[iG]at hw;refine aO e0 he r hw λd G1 H1 F1 v q e1 x1 he1 r1 rv=>cQ e1 he1 r1 q λds G2 H2 F2 vs q e2 x2 he2 r2 rvs=>?_;exact q H2 F2 _ (x1.trans x2) r2 ⟨v,vs,rfl,Rep.ext x2 rv,rvs⟩
 .cases h
theorem Zj(S:Stat Z CX k c E B X){es:Exs}(ih:gU Z c E B X es){e:AO}(h:aj c (.tup es) e=true):PE X e (tE X.K B (wpE Z (.tup es) E)):=by
 replace h:=GK h;obtain ⟨_,_,_,rfl,h⟩:=h
 .refine peI (Ss (ih h)) λW H Q hq=>el hq λY F G e0 he r hw=>?_;rw[wM]at hw;refine cQ e0 he r hw λds G1 H1 F1 vs q e1 x1 he1 r1 rvs=>⟨by rw[<-rvs.length];exact cV q.1,jQ (PV.later q.2 x1) r1 rvs⟩
theorem Zk(S:Stat Z CX k c E B X){fz:Bool}{es:Exs}(ih:gU Z c E B X es){e:AO}(h:aj c (.lst fz es) e=true):PE X e (tE X.K B (wpE Z (.lst fz es) E)):=by
 replace h:=GP h;obtain ⟨_,_,rfl,h⟩:=h
 .refine peI (Su (ih h)) λW H Q hq=>el hq λY F G e0 he r hw=>?_;rw[wN]at hw;refine cQ e0 he r hw λds G1 H1 F1 vs q e1 x1 he1 r1 rvs=>⟨by rw[<-rvs.length];exact cV q.1,dw (du (λd G' z=>PV.later z x1) q.2) r1 rvs⟩
theorem Zm(S:Stat Z CX k c E B X){a i:Ex}(iha:OkE Z c E B X a)(ihi:OkE Z c E B X i){e:AO}(h:aj c (.idx a i) e=true):PE X e (tE X.K B (wpE Z (.idx a i) E)):=by
 replace h:=GQ h;obtain ⟨_,_,_,rfl,h⟩:=h
 .rw[ae]at h;refine peI (Ti (Xi (gb S)) (iha h.1) (ihi h.2) (Y9 (bH i h.2))) λW H Q hq=>el hq λY F G e0 he r hw=>?_;rw[wO]at hw;refine aO e0 he r hw λx G1 H1 F1 v q e1 x1 he1 r1 rv=>aO e1 he1 r1 q λy G2 H2 F2 u q e2 x2 he2 r2 ru=>?_;exact ⟨F2,G2,x,y,r2,Rep.ext x2 rv,ru,Ek (λd z=>PV.later z (x1.trans x2)) q⟩
theorem Zn(S:Stat Z CX k c E B X){e:AO}(h:aj c .dnw e=true):PE X e (tE X.K B (wpE Z .dnw E)):=by obtain ⟨p,rfl⟩:=GR h;refine peI Wm λW H Q hq=>el hq λY F G e0 he r hw=>?_;rw[xf]at hw;intro p hp;have x:=cM (o:=.dT []) r hp;exact hw p (r.free hp) _ F _ x (r.dctAt x (λf=>by obtain ⟨vs,z⟩:=(r.fz p f).2;rw[hp]at z;cases z) rfl .nil) rfl
theorem Zo(S:Stat Z CX k c E B X){a b:Ex}(iha:OkE Z c E B X a)(ihb:OkE Z c E B X b){e:AO}(h:aj c (.dp1 a b) e=true):PE X e (tE X.K B (wpE Z (.dp1 a b) E)):=by obtain ⟨ek,ev,p,rfl,hh⟩:=GX h;rw[ae]at hh;refine peI (Wo (by have:=gb S;omega) (iha hh.1) (ihb hh.2)) λW H Q hq=>el hq λY F G e0 he r hw=>?_;rw[xg]at hw;refine aO e0 he r hw λx G1 H1 F1 v q e1 x1 he1 r1 rv=>aO e1 he1 r1 q λy G2 H2 F2 u q e2 x2 he2 r2 ru=>?_;obtain ⟨n,b,q,rfl,hb,_⟩:=mz (Rep.ext x2 rv) q;refine ⟨b,bj n,rfl,hb,λp hp=>?_⟩;have x:=cM (o:=.dT [(bj n,u)]) r2 hp;exact q p (r2.free hp) _ F2 _ (x1.trans (x2.trans x)) (r2.dctAt x (λf=>by obtain ⟨vs,z⟩:=(r2.fz p f).2;rw[hp]at z;cases z) rfl (.cons ru .nil)) rfl
theorem Hx{lo:Ox}(ih:∀x,lo=.ob x->OkE Z c E B X x){l:Option AO}(h:fZ c lo l=true):PO X l (Hs X.K B (wpO Z lo E)):=by
 cases lo with
 |no=>
  unfold fZ at h;cases l with
  |none=>
   intro p9 s W H Q I q;refine S8 p9 s W H Q I ?_;obtain ⟨Y,F,G,e0,he,r,hw⟩:=q;rw[wy]at hw;exact hw H F (Ext.refl _ _) r
  |some _=>cases h
 |ob x=>
  unfold fZ at h;split at h
  .intro p9 s W H Q I q;refine S9 (ih x rfl h) p9 s W H Q I ?_;obtain ⟨Y,F,G,e0,he,r,hw⟩:=q;rw[wz]at hw;refine aO e0 he r hw λd G1 H1 F1 v q e1 x1 he1 r1 rv=>?_;split at q
   .have e2:v=.int _:=rv;exact ⟨_,e2,q H1 F1 x1 r1⟩
   .exact q.elim
  .cases h
theorem Zq(S:Stat Z CX k c E B X){fz:Bool}{a:Ex}{lo hi:Ox}(iha:OkE Z c E B X a)(ihl:∀x,lo=.ob x->OkE Z c E B X x)(ihh:∀x,hi=.ob x->OkE Z c E B X x){e:AO}(h:aj c (.slc fz a lo hi) e=true):
  PE X e (tE X.K B (wpE Z (.slc fz a lo hi) E)):=by
 replace h:=GZ h;obtain ⟨_,_,_,_,_,rfl,h⟩:=h
 .rw[ae,ae]at h;refine peI (Tc (Xp fz) (iha h.1.1) (Hx ihl h.1.2) (Hx ihh h.2)) λW H Q hq=>el hq λY F G e0 he r hw=>?_;rw[wQ]at hw;refine aO e0 he r hw λx G1 H1 F1 v q e1 x1 he1 r1 rv=>Ht e1 he1 r1 q λl G2 H2 F2 q e2 x2 he2 r2=>Ht e2 he2 r2 q λu G3 H3 F3 q e3 x3 he3 r3=>?_;exact ⟨F3,G3,x,r3,Rep.ext (x2.trans x3) rv,El (λd G' z=>PV.later z ((x1.trans x2).trans x3)) q⟩
theorem Zr(S:Stat Z CX k c E B X){a:Ex}(iha:OkE Z c E B X a){e:AO}(h:aj c (.frz a) e=true):PE X e (tE X.K B (wpE Z (.frz a) E)):=by
 have h:aj c a e=true:=h;refine peI (iha h) λW H Q hq=>el hq λY F G e0 he r hw=>?_;rw[w5]at hw;refine aO e0 he r hw λx G1 H1 F1 v q e1 x1 he1 r1 rv=>?_;split at q
 .rename_i p;have e2:v=.ref p:=rv;subst e2;split at q
  .rename_i ds hg;exact q _ _ _ (x1.trans vV) (r1.frz hg) (WW r1 hg)
  .exact q.elim
 .exact q _ _ _ x1 r1 rv
theorem jW{es:AE}{xs:Exs}(h:aL c xs es=true)(env:Env)(pos:Pos):(backTo pos (starEach es env)).any (·.1)=false:=by
 induction es generalizing xs with
 |nil=>rfl
 |cons e es ih=>
  cases xs with
  |nil=>unfold aL at h;cases h
  |cons x xs=>
   unfold aL at h;rw[ae]at h;rw[bO e es env (cC (bH x h.1))];show (false||(backTo pos (starEach es env)).any (·.1))=false;rw[ih h.2];rfl
theorem iT{e:AO}{es:AE}{xs:Exs}(h:aL c xs (e::es)=true):∃x xs',xs=.cons x xs'/\aj c x e=true/\aL c xs' es=true:=by
 cases xs with
 |nil=>unfold aL at h;cases h
 |cons x xs'=>
  unfold aL at h;rw[ae]at h;exact ⟨x,xs',rfl,h.1,h.2⟩
theorem uc{Y:ak}:∀(xs:Exs){es:AE}{G:DH}{Q:AS->DH->Prop},aL c xs es=true->aU Z xs E Y G Q->aU Z xs E Y G (λds G'=>ds.length=es.length/\Q ds G')
 |.nil,es,G,Q,h,q=>by
  unfold aL at h;rw[jM]at q ⊢;cases es with
  |nil=>exact ⟨rfl,q⟩
  |cons _ _=>cases h
 |.cons x xs,es,G,Q,h,q=>by
  unfold aL at h;split at h
  .rename_i e es;rw[ae]at h;rw[iG]at q ⊢;refine aK x (λd G1 q=>dO xs (λds G2 z=>?_) (uc xs h.2 q)) q;exact ⟨by simp[z.1],z.2⟩
  .cases h
theorem Zt(S:Stat Z CX k c E B X){f:AL}{xs:Exs}(ih:gU Z c E B X xs){e:AO}(h:aj c (.call f xs) e=true):PE X e (tE X.K B (wpE Z (.call f xs) E)):=by
 replace h:=Ha h;obtain ⟨x,p,args,pos,rfl,h⟩:=h
 .simp only[ae,av,gT]at h;obtain ⟨⟨⟨⟨e1,h1⟩,⟨f',n⟩,hm,e2,e3⟩,h2⟩,h3⟩:=h;simp only at e2 e3;subst e1 e2 e3;obtain ⟨g1,g2⟩:=bY h1;obtain ⟨fa,fd,ps,F0,hk,hb,hmg⟩:=S.call _ _ hm;obtain ⟨EX,hpass,_,hEX⟩:=S.exc;cases args with
  |nil=>cases h2
  |cons e es=>
   obtain ⟨x0,xs',rfl,c1,c2⟩:=iT h3;refine peI (Sy F0 S.room (S.glo _ g1) hmg hk hb .nil hpass (ih h3) (bF g2) (bO e es X.env (cC (bH x0 c1))) (jW c2 X.env pos)) λW H Q hq=>el hq λY F G e0 he r hw=>?_;rw[wR]at hw;refine cQ e0 he r (uc _ h3 hw) λds G1 H1 F1 vs q e1 x1 he1 r1 rvs=>?_;rw[d6];refine ⟨by rw[<-rvs.length];exact q.1,F1,G1,ds,r1,rvs,Spec.mono q.2 (λd G' z=>PV.later z x1) λx G' z H' F' x' r'=>?_⟩;exact hEX x G' H' F' z (e1.trans x') r'
theorem Zu(S:Stat Z CX k c E B X){f:Bf}{xs:Exs}(ih:gU Z c E B X xs){e:AO}(h:aj c (.bcl f xs) e=true):PE X e (tE X.K B (wpE Z (.bcl f xs) E)):=by
 replace h:=Hb h;obtain ⟨x,p,args,pos,rfl,h⟩:=h
 .simp only[ae,av]at h;obtain ⟨⟨⟨⟨⟨e1,hok⟩,h1⟩,hm⟩,h2⟩,h3⟩:=h;subst e1;obtain ⟨g1,g2⟩:=bY h1;have hmg:=S.blt _ (aT.mp hm);cases args with
  |nil=>cases h2
  |cons e es=>
   obtain ⟨x0,xs',rfl,c1,c2⟩:=iT h3;have hs:=bO e es X.env (cC (bH x0 c1));have ha:=jW c2 X.env pos;have go:∀W H Q,tE X.K B (wpE Z (.bcl f (.cons x0 xs')) E) W H Q->tCB (iJ X.K f) (tL X.K B (aU Z (.cons x0 xs') E)) W H Q:=λW H Q hq=>el hq λY F G e0 he r hw=>by
    rw[wU]at hw;refine cQ e0 he r hw λds G1 H1 F1 vs q e1 x1 he1 r1 rvs=>?_;exact ⟨F1,G1,ds,r1,rvs,Em (λd z=>PV.later z x1) q⟩
   cases f with
   |len=>exact peI (ju Xq (S.glo _ g1) hmg PySem.boot_len (ih h3) (cR g2) (bF g2) hs ha) go
   |all=>exact peI (ju (Xr S.calm) (S.glo _ g1) hmg Ut (ih h3) (cR g2) (bF g2) hs ha) go
   |int=>exact peI (jw Xu (S.glo _ g1) hmg Cu (ih h3) (cR g2) (bF g2) hs ha) go
   |tuple=>exact peI (jw Xv (S.glo _ g1) hmg (by ac_rfl) (ih h3) (cR g2) (bF g2) hs ha) go
   |sum=>cases hok
   |min=>exact peI (ju (XQ S.calm) (S.glo _ g1) hmg XS (ih h3) (cR g2) (bF g2) hs ha) go
   |max=>cases hok
   |abs=>cases hok
   |min2=>cases hok
   |str=>exact peI (jw XX (S.glo _ g1) hmg Cv (ih h3) (cR g2) (bF g2) hs ha) go
theorem Zv(S:Stat Z CX k c E B X){fz:Bool}{f:Lf}{xs:Exs}(ih:gU Z c E B X xs){e:AO}(h:aj c (.lcl fz f xs) e=true):PE X e (tE X.K B (wpE Z (.lcl fz f xs) E)):=by
 replace h:=Hc h;obtain ⟨x,p,args,pos,rfl,h⟩:=h
 .simp only[ae,av]at h;obtain ⟨⟨⟨⟨⟨e1,hok⟩,h1⟩,hm⟩,h2⟩,h3⟩:=h;subst e1;obtain ⟨g1,g2⟩:=bY h1;have hmg:=S.blt _ (aT.mp hm);cases args with
  |nil=>cases h2
  |cons e es=>
   obtain ⟨x0,xs',rfl,c1,c2⟩:=iT h3;have hs:=bO e es X.env (cC (bH x0 c1));have ha:=jW c2 X.env pos;have go:∀W H Q,tE X.K B (wpE Z (.lcl fz f (.cons x0 xs')) E) W H Q->tCB (ye X.K fz f) (tL X.K B (aU Z (.cons x0 xs') E)) W H Q:=λW H Q hq=>el hq λY F G e0 he r hw=>by
    rw[wV]at hw;refine cQ e0 he r hw λds G1 H1 F1 vs q e1 x1 he1 r1 rvs=>?_;exact ⟨F1,G1,ds,r1,rvs,Eo (λd z=>du (λd G' z=>PV.later z x1) z) q⟩
   cases f with
   |list=>exact peI (jw (Xy S.calm fz) (S.glo _ g1) hmg vA (ih h3) (cR g2) (bF g2) hs ha) go
   |sorted=>exact peI (ju (XF fz) (S.glo _ g1) hmg Xz (ih h3) (cR g2) (bF g2) hs ha) go
theorem Hy{K:PF}{H:Hp}{F:FZ}(n:Nat):Reps K H F (aX 0 n) ((List.range n).map λi=>V.int (i:Nat)):=by
 have e1:aX 0 n=((List.range n).map λi:Nat=>(i:Int)).map D.int:=by unfold aX;rw[dc];refine d0 λi _=>?_;show D.int (0+(i:Int))=D.int i;rw[Int.zero_add]
 have e2:((List.range n).map λi:Nat=>V.int (i:Nat))=((List.range n).map λi:Nat=>(i:Int)).map V.int:=by rw[dc];rfl
 rw[e1,e2];exact mC _
theorem Zw(S:Stat Z CX k c E B X){fz:Bool}{a:Ex}(iha:OkE Z c E B X a){e:AO}(h:aj c (.rgl fz a) e=true):PE X e (tE X.K B (wpE Z (.rgl fz a) E)):=by
 obtain ⟨x,p,x',p',e2,pos',pos,rfl,h'⟩:=Hh h;simp only[ae,av]at h';obtain ⟨⟨⟨⟨⟨⟨e1,h1⟩,hm⟩,e3⟩,h2⟩,hr⟩,h3⟩:=h';subst e1 e3;obtain ⟨g1,g2⟩:=bY h1;obtain ⟨g1',g2'⟩:=bY h2;have hmg:=S.blt _ (aT.mp hm);have hmr:=S.blt _ (aT.mp hr);have hs:=bO e2 [] X.env (cC (bH a h3));refine peI (jw (V1 S.calm) (S.glo _ g1) hmg vA (dJ (Dp (S.glo _ g1') hmr (dJ (iha h3) eU hs) hs) eU rfl) (cR g2) (bF g2) rfl rfl) λW H Q hq=>el hq λY F G e0 he r hw=>?_;rw[wY]at hw;refine aO e0 he r hw λd G1 H1 F1 v q e1 x1 he1 r1 rv=>?_;split at q
 .rename_i n;have ev:v=.int n:=rv;subst ev;obtain ⟨⟨h0,hn⟩,q⟩:=q;obtain ⟨m,rfl⟩:=ci h0;refine ⟨_,rfl,λrr hrr=>⟨rr,m,rfl,cY,!0,λl hl=>?_⟩⟩;have xn:=cM (o:=.rng 0 m) r1 hrr;exact dw (du (λd G' z=>PV.later z (x1.trans xn)) q) (r1.new hrr) (Hy m) l hl
 .exact q.elim
theorem Zx(S:Stat Z CX k c E B X){a:Ex}(iha:OkE Z c E B X a){e:AO}(h:aj c (.rgt a) e=true):PE X e (tE X.K B (wpE Z (.rgt a) E)):=by
 obtain ⟨x,p,x',p',e2,pos',pos,rfl,h'⟩:=Hi h;simp only[ae,av]at h';obtain ⟨⟨⟨⟨⟨⟨e1,h1⟩,hm⟩,e3⟩,h2⟩,hr⟩,h3⟩:=h';subst e1 e3;obtain ⟨g1,g2⟩:=bY h1;obtain ⟨g1',g2'⟩:=bY h2;have hmg:=S.blt _ (aT.mp hm);have hmr:=S.blt _ (aT.mp hr);have hs:=bO e2 [] X.env (cC (bH a h3));refine peI (jw (V2 S.calm) (S.glo _ g1) hmg (by ac_rfl) (dJ (Dp (S.glo _ g1') hmr (dJ (iha h3) eU hs) hs) eU rfl) (cR g2) (bF g2) rfl rfl) λW H Q hq=>el hq λY F G e0 he r hw=>?_;rw[wZ]at hw;refine aO e0 he r hw λd G1 H1 F1 v q e1 x1 he1 r1 rv=>?_;split at q
 .rename_i n;have ev:v=.int n:=rv;subst ev;obtain ⟨⟨h0,hn⟩,q⟩:=q;obtain ⟨m,rfl⟩:=ci h0;refine ⟨_,rfl,λrr hrr=>⟨rr,m,rfl,cY,!0,λl hl=>?_⟩⟩;have xn:=cM (o:=.rng 0 m) r1 hrr;exact jQ (PV.later q (x1.trans xn)) (r1.new hrr) (Hy m) l hl
 .exact q.elim
theorem Zy{t:AL}(h:fV t=true):bootBuiltins (⇑t)=some (.type t):=by
 simp only[fV,cy,av]at h;rcases h with (((rfl |rfl) |rfl) |rfl) |rfl
 .exact Ul
 .exact Cu
 .exact Cv
 .ac_rfl
 .exact vA
theorem Zz(S:Stat Z CX k c E B X){a:Ex}{t:AL}(iha:OkE Z c E B X a){e:AO}(h:aj c (.isi a t) e=true):PE X e (tE X.K B (wpE Z (.isi a t) E)):=by
 replace h:=Hf h;obtain ⟨x,p,v,y,p2,pos,rfl,h⟩:=h
 .simp only[ae,av]at h;obtain ⟨⟨⟨⟨⟨⟨⟨e1,h1⟩,hm1⟩,h2⟩,e2⟩,h3⟩,hm2⟩,h4⟩:=h;subst e1 e2;obtain ⟨g1,g2⟩:=bY h1;obtain ⟨g3,g4⟩:=bY h3;have hmg:=S.blt _ (aT.mp hm1);have hmt:=S.blt _ (aT.mp hm2);have hty:PE X (.Name (⇑t) p2) (tC (.ty t)):=Cy (S.glo _ g3) hmt (Zy h4) (cR g4) (bF g4);have sv:=cC (bH a h2);refine peI (ju Uk (S.glo _ g1) hmg Cw (dJ (iha h2) (dJ hty eU (bO _ _ _ rfl)) (bO _ _ _ sv)) (cR g2) (bF g2) (bO _ _ _ sv) rfl) λW H Q hq=>el hq λY F G e0 he r hw=>?_;rw[wW]at hw;refine aO e0 he r hw λd G1 H1 F1 v q e1 x1 he1 r1 rv=>?_;split at q
  .rename_i b hb;obtain ⟨T,hk,hT,hb'⟩:=X6 hb;refine ⟨v,t,.type T,b,rfl,X3 r1 rv hk,?_,q _ _ _ x1 r1 rfl⟩;rw[X5 T t hT h4,hb' h4]
  .exact q.elim
theorem ZC:bootBuiltins (⇑"ValueError")=some (.type "ValueError"):=by ac_rfl
theorem ZD(S:Stat Z CX k c E B X){a:Ex}{C:AL}{xs:List AL}(iha:OkE Z c E B X a){e:AO}(h:aj c (.isx a C xs) e=true):PE X e (tE X.K B (wpE Z (.isx a C xs) E)):=by
 replace h:=Hg h;obtain ⟨x,p,v,y,p2,pos,rfl,h⟩:=h;simp only[ae,av]at h;obtain ⟨⟨⟨⟨⟨⟨⟨e1,h1⟩,hm1⟩,h2⟩,e2⟩,h3⟩,hC⟩,hxs⟩:=h;subst e1 e2;obtain ⟨g1,g2⟩:=bY h1;obtain ⟨g3,g4⟩:=bY h3;have hmg:=S.blt _ (aT.mp hm1);have sv:=cC (bH a h2);obtain ⟨cv,hcv,hall0⟩:=S.xis C hC;have hall:∀C1,(c.xs.contains (C1,true)||c.ot.xk.any λp=>p.1==C1)=true->XI X.K C1 C cv:=λC1 z=>by
  rw[cy]at z;rcases z with z |z
  .exact hall0 C1 z
  .obtain ⟨⟨C2,f2⟩,m1,m2⟩:=gT.mp z;have:C2=C1:=by simpa using m2
   subst this;exact (S.xko _ _ m1).2 C cv hC hcv
 have hok:=hcv.ok;have hty:PE X (.Name (⇑C) p2) (tC cv):=by
  rcases hcv with ⟨a1,rfl,hm,_⟩ |⟨rfl,rfl,hm⟩
  .exact Ba (S.glo _ g3) hm rfl (bF g4)
  .exact Cy (S.glo _ g3) hm ZC (cR g4) (bF g4)
 refine peI (ju WP (S.glo _ g1) hmg Cw (dJ (iha h2) (dJ hty eU (bO _ _ _ rfl)) (bO _ _ _ sv)) (cR g2) (bF g2) (bO _ _ _ sv) rfl) λW H Q hq=>el hq λY F G e0 he r hw=>?_;rw[wX]at hw;refine aO e0 he r hw λd G1 H1 F1 v q e1 x1 he1 r1 rv=>?_;unfold iD at q;split at q
 .rename_i C1;obtain ⟨c1,k1,k2,k4,k5⟩:=hall C1 (bg.mp hxs C1 (aT.mp q.1));obtain ⟨a',c',e2,xo,hn⟩:=rv;rw[k1]at hn;have ec:c1=c':=by simpa using hn
  subst ec;subst e2;exact .inr ⟨a',c1,cv,_,rfl,xo,k2,hok,k4,k5,q.2 _ _ _ x1 r1 rfl⟩
 .rename_i C1 f1 d1;obtain ⟨c1,k1,k2,k4,k5⟩:=hall C1 (bg.mp hxs C1 (aT.mp q.1));obtain ⟨a',c',dx,ob,od,y,u,e2,⟨xo,xc,_⟩,_,_,hn⟩:=rv;rw[k1]at hn;have ec:c1=c':=by simpa using hn
  subst ec;subst e2;exact .inr ⟨a',c1,cv,_,rfl,⟨ob,y,xo,xc⟩,k2,hok,k4,k5,q.2 _ _ _ x1 r1 rfl⟩
 .have e2:v=.non:=rv;subst e2;exact .inl ⟨cv,rfl,hok,q _ _ _ x1 r1 rfl⟩
 .exact q.elim
theorem ZF{v:AO}(h:(!tD v)=true)(name:Str)(env:Env):attributeBase v name env (eval v env)=eval v env:=by
 cases v with
 |Call f args kw pos=>
  cases f with
  |Name id p=>
   cases args with
   |nil=>
    cases kw with
    |nil=>cases h
    |cons _ _=>rfl
   |cons _ _=>rfl
  |_=>rfl
 |_=>rfl
theorem all_plain{es:AE}{xs:Exs}(h:aL c xs es=true)(env:Env)(pos:Pos):(backTo pos (starEach es env)).all (λx=>!x.1)=true:=by
 induction es generalizing xs with
 |nil=>rfl
 |cons e es ih=>
  obtain ⟨x0,xs',rfl,c1,c2⟩:=iT h;rw[bO e es env (cC (bH x0 c1))];show (!false&&(backTo pos (starEach es env)).all (λx=>!x.1))=true;rw[ih c2];rfl
theorem ZG(S:Stat Z CX k c E B X){m:Mf}{o:Ex}{xs:Exs}(iho:OkE Z c E B X o)(ih:gU Z c E B X xs){e:AO}(h:aj c (.mth m o xs) e=true):PE X e (tE X.K B (wpE Z (.mth m o xs) E)):=by
 replace h:=Hj h;obtain ⟨v,x,apos,args,cpos,rfl,h⟩:=h
 .simp only[ae,av,bS]at h;obtain ⟨⟨⟨⟨⟨⟨e1,h1⟩,hb⟩,hl⟩,hn⟩,h2⟩,h3⟩:=h;subst e1;cases args with
  |nil=>cases h2
  |cons e es=>
   obtain ⟨x0,xs',rfl,c1,c2⟩:=iT h3;have hs:=bO e es X.env (cC (bH x0 c1));have ha:=jW c2 X.env cpos;have hbase:=ZF hb (⇑m.name) X.env;have hfew:((backTo cpos (starEach (e::es) X.env)).all (λx=>!x.1)&&(backToKw cpos (keywordEach [] X.env)).all (λx=>x.1.isSome)
    &&decide ((e::es).length+([]:List Keyword).length+(if ([]:List Keyword).isEmpty then 0 else 1) < 30))=true:=by
    rw[all_plain h3 X.env cpos];have:(e::es).length+([]:List Keyword).length+(if ([]:List Keyword).isEmpty then 0 else 1) < 30:=by have e0:(if ([]:List Keyword).isEmpty=true then 0 else 1)=0:=rfl;rw[e0];show (e::es).length+0+0 < 30;omega
    rw[bq this];rfl
   have hline:(apos.endLine==cpos.line)=true:=by rw[av];exact hl
   have lst:∀{d:D} {u:V} {G1:DH} {H1:Hp} {F1:FZ},(match d with |.ref p=>(match G1 p with |some (.lst _)=>True |_=>False) |_=>False)->R X.K H1 F1 G1->Rep X.K H1 F1 d u->tyV X.K "list" u H1:=λ{d u G1 H1 F1} q r1 ru=>by
    split at q
    .rename_i p;split at q
     .rename_i ds hg;obtain ⟨vs,hv,_⟩:=r1.lst hg;have e2:u=.ref p:=ru;subst e2;exact .inl ⟨rfl,vs,SqL.of hv⟩
     .exact q.elim
    .exact q.elim
   have lstV:∀{d:D} {u:V} {G1:DH} {H1:Hp} {F1:FZ},v7 (view G1 d)->R X.K H1 F1 G1->Rep X.K H1 F1 d u->tyV X.K "list" u H1:=λ{d u G1 H1 F1} q r1 ru=>by
    generalize hv:view G1 d=w at q;cases w with
    |lst ds=>
     obtain ⟨a,vs,rfl,sq,_⟩:=Rep.list r1 ru hv;exact .inl ⟨rfl,vs,sq⟩
    |_=>exact (show False from q).elim
   cases m with
   |join=>
    refine peI (jx PySem.F.plainAttrs_str PySem.F.slot_str_join PySem.F.type_str_join X7 (iho h1) (ih h3) hbase hfew hline hs ha) λW H Q hq=>el hq λY F G e0 he r hw=>?_;rw[gM]at hw;refine aO e0 he r hw λd G1 H1 F1 u q e1 x1 he1 r1 ru=>⟨?_,cQ e1 he1 r1 q.2 λds G2 H2 F2 vs q e2 x2 he2 r2 rvs=>?_⟩
    .have q1:=q.1;cases d with
     |str l=>obtain ⟨e2,_⟩:=ru;subst e2;exact rfl
     |_=>exact (show False from q1).elim
    .exact ⟨F2,G2,d,ds,r2,Rep.ext x2 ru,rvs,iI (λd G' z=>PV.later z (x1.trans x2)) q⟩
   |append=>
    refine peI (jx fe PySem.F.slot_list_append PySem.F.type_list_append X8 (iho h1) (ih h3) hbase hfew hline hs ha) λW H Q hq=>el hq λY F G e0 he r hw=>?_;rw[gM]at hw;refine aO e0 he r hw λd G1 H1 F1 u q e1 x1 he1 r1 ru=>⟨?_,cQ e1 he1 r1 q.2 λds G2 H2 F2 vs q e2 x2 he2 r2 rvs=>?_⟩
    .refine lst (d:=d) (G1:=G1) ?_ r1 ru;have q1:=q.1;cases d <;> first |exact q1 |exact (show False from q1).elim
    .exact ⟨F2,G2,d,ds,r2,Rep.ext x2 ru,rvs,iI (λd G' z=>PV.later z (x1.trans x2)) q⟩
   |extend=>
    refine peI (jx fe PySem.F.slot_list_extend PySem.F.type_list_extend Yg (iho h1) (ih h3) hbase hfew hline hs ha) λW H Q hq=>el hq λY F G e0 he r hw=>?_;rw[gM]at hw;refine aO e0 he r hw λd G1 H1 F1 u q e1 x1 he1 r1 ru=>⟨?_,cQ e1 he1 r1 q.2 λds G2 H2 F2 vs q e2 x2 he2 r2 rvs=>?_⟩
    .refine lst (d:=d) (G1:=G1) ?_ r1 ru;have q1:=q.1;cases d <;> first |exact q1 |exact (show False from q1).elim
    .exact ⟨F2,G2,d,ds,r2,Rep.ext x2 ru,rvs,iI (λd G' z=>PV.later z (x1.trans x2)) q⟩
   |pop=>
    refine peI (jx fe PySem.F.slot_list_pop PySem.F.type_list_pop Yd (iho h1) (ih h3) hbase hfew hline hs ha) λW H Q hq=>el hq λY F G e0 he r hw=>?_;rw[gM]at hw;refine aO e0 he r hw λd G1 H1 F1 u q e1 x1 he1 r1 ru=>⟨?_,cQ e1 he1 r1 q.2 λds G2 H2 F2 vs q e2 x2 he2 r2 rvs=>?_⟩
    .refine lst (d:=d) (G1:=G1) ?_ r1 ru;have q1:=q.1;cases d <;> first |exact q1 |exact (show False from q1).elim
    .exact ⟨F2,G2,d,ds,r2,Rep.ext x2 ru,rvs,iI (λd G' z=>PV.later z (x1.trans x2)) q⟩
   |count=>
    refine peI (jx fe PySem.F.slot_list_count PySem.F.type_list_count Yb (iho h1) (ih h3) hbase hfew hline hs ha) λW H Q hq=>el hq λY F G e0 he r hw=>?_;rw[gM]at hw;refine aO e0 he r hw λd G1 H1 F1 u q e1 x1 he1 r1 ru=>⟨lstV q.1 r1 ru,cQ e1 he1 r1 q.2 λds G2 H2 F2 vs q e2 x2 he2 r2 rvs=>?_⟩;exact ⟨F2,G2,d,ds,r2,Rep.ext x2 ru,rvs,iI (λd G' z=>PV.later z (x1.trans x2)) q⟩
   |index=>
    refine peI (jx fe PySem.F.slot_list_index PySem.F.type_list_index Yc (iho h1) (ih h3) hbase hfew hline hs ha) λW H Q hq=>el hq λY F G e0 he r hw=>?_;rw[gM]at hw;refine aO e0 he r hw λd G1 H1 F1 u q e1 x1 he1 r1 ru=>⟨lstV q.1 r1 ru,cQ e1 he1 r1 q.2 λds G2 H2 F2 vs q e2 x2 he2 r2 rvs=>?_⟩;exact ⟨F2,G2,d,ds,r2,Rep.ext x2 ru,rvs,iI (λd G' z=>PV.later z (x1.trans x2)) q⟩
end
section
variable {Z:aa} {CX:CXT} {k:Nat} {c:CT} {E:EK} {B:Bs} {X:Cx}
def EachE(Z:aa)(c:CT)(E:EK)(B:Bs)(X:Cx):Exs->Prop
 |.nil=>True
 |.cons e es=>OkE Z c E B X e/\EachE Z c E B X es
def ud(Z:aa)(c:CT)(E:EK)(B:Bs)(X:Cx):Txs->Prop
 |.nil=>True
 |.cons e es=>OkT Z c E B X e/\ud Z c E B X es
theorem EachE.oks:∀{xs:Exs},EachE Z c E B X xs->gU Z c E B X xs
 |.nil,_=>λh=>yE h
 |.cons x xs,hh=>λh=>tZ hh.1 (EachE.oks hh.2) h
def ue(Z:aa)(E:EK)(isAnd:Bool)(x:Ex)(xs:Exs):ak->DH->(AT)->Prop:=λY G kk=>wpE Z x E Y G λd G1=>match d with |.bl b=>wpB Z xs isAnd b E Y G1 kk |d=>jL xs (kk d G1)
theorem Hz{isAnd:Bool}{pos:Pos}:∀(xs:Exs){x:Ex},OkE Z c E B X x->EachE Z c E B X xs->∀{v:AO}{vs:AE},aj c x v=true->aL c xs vs=true->
  PE X (.BoolOp (if isAnd then .And else .Or) (v::vs) pos) (tE X.K B (ue Z E isAnd x xs))
 |.nil,x,ih,_,v,vs,h1,h2=>by
  unfold aL at h2;cases vs with
  |nil=>
   refine peI (QH (ih h1)) λW H Q hq=>el hq λY F G e0 he r hw=>?_;unfold ue at hw;refine aO e0 he r hw λd G1 H1 F1 u q e1 x1 he1 r1 ru=>?_;split at q
   .rw[wu]at q;exact q _ _ _ x1 r1 ru
   .exact (show PV X.K H F Q _ _ from q) _ _ _ x1 r1 ru
  |cons _ _=>cases h2
 |.cons y ys,x,ih,hh,v,vs,h1,h2=>by
  unfold aL at h2;split at h2
  .rename_i w ws;rw[ae]at h2;have rest:=Hz (isAnd:=isAnd) (pos:=pos) ys hh.1 hh.2 h2.1 h2.2;cases isAnd with
   |true=>
    refine peI (QJ (ih h1) rest) λW H Q hq=>el hq λY F G e0 he r hw=>?_;unfold ue at hw;refine aO e0 he r hw λd G1 H1 F1 u q e1 x1 he1 r1 ru=>?_;split at q
    .rename_i b;refine ⟨b,ru,?_⟩;rw[rO]at q;cases b with
     |true=>
      rw[if_pos rfl];exact ⟨Y,F1,G1,e1,he1,r1,aK y (λd G' z=>by
       cases d <;> first |exact sy ys (λc G2 z=>PV.later z x1) z |exact xT ys (λz=>PV.later z x1) z) q⟩
     |false=>
      rw[if_neg bP];exact q _ _ _ x1 r1 rfl
    .exact q.elim
   |false=>
    refine peI (QK (ih h1) rest) λW H Q hq=>el hq λY F G e0 he r hw=>?_;unfold ue at hw;refine aO e0 he r hw λd G1 H1 F1 u q e1 x1 he1 r1 ru=>?_;split at q
    .rename_i b;refine ⟨b,ru,?_⟩;rw[rO]at q;cases b with
     |false=>
      rw[if_neg bP];exact ⟨Y,F1,G1,e1,he1,r1,aK y (λd G' z=>by
       cases d <;> first |exact sy ys (λc G2 z=>PV.later z x1) z |exact xT ys (λz=>PV.later z x1) z) q⟩
     |true=>
      rw[if_pos rfl];exact q _ _ _ x1 r1 rfl
    .exact q.elim
  .cases h2
theorem ZJ{isAnd:Bool}{x:Ex}{xs:Exs}(ih:OkE Z c E B X x)(hh:EachE Z c E B X xs){e:AO}(h:aj c (.boo isAnd x xs) e=true):PE X e (tE X.K B (wpE Z (.boo isAnd x xs) E)):=by
 replace h:=GF h;obtain ⟨_,_,_,_,rfl,h⟩:=h
 .simp only[ae,av]at h;obtain ⟨⟨e1,h1⟩,h2⟩:=h;subst e1;refine peI (Hz xs ih hh h1 h2) λW H Q hq=>el hq λY F G e0 he r hw=>⟨Y,F,G,e0,he,r,?_⟩;rw[wK]at hw;refine aK x (λd G1 z=>?_) hw;split at z
  .exact z
  .exact z.elim
theorem ZK{t:Tx}{a b:Ex}(iht:OkT Z c E B X t)(iha:OkE Z c E B X a)(ihb:OkE Z c E B X b){e:AO}(h:aj c (.ife t a b) e=true):PE X e (tE X.K B (wpE Z (.ife t a b) E)):=by
 replace h:=GJ h;obtain ⟨_,_,_,_,rfl,h⟩:=h
 .simp only[ae]at h;obtain ⟨⟨h1,h2⟩,h3⟩:=h;refine peI (QL (iht h1) (iha h2) (ihb h3)) λW H Q hq=>el hq λY F G e0 he r hw=>?_;rw[wL]at hw;refine gR e0 he r hw λb' G1 H1 F1 q e1 x1 he1 r1=>?_;cases b' with
  |true=>
   rw[if_pos rfl];exact ⟨Y,F1,G1,e1,he1,r1,aK a (λd G' z=>PV.later z x1) q⟩
  |false=>
   rw[if_neg bP];exact ⟨Y,F1,G1,e1,he1,r1,aK b (λd G' z=>PV.later z x1) q⟩
theorem ZL{x:Ex}(ih:OkE Z c E B X x){e:AO}(hp:iQ e=true)(h:aj c x e=true):PT X e (tB' X.K B (wpT Z (.val x) E)):=by
 refine ptI (R1 (ih h) (Za hp X.env)) λW H Q hq=>el hq λY F G e0 he r hw=>?_;rw[lX]at hw;refine aO e0 he r hw λd G1 H1 F1 u q e1 x1 he1 r1 ru=>?_;split at q
 .rename_i b hb;exact ⟨b,Fg r1 ru hb,q _ _ x1 r1⟩
 .exact q.elim
theorem ZM{t:Tx}(ih:OkT Z c E B X t){e:AO}(h:bu c (.not t) e=true):PT X e (tB' X.K B (wpT Z (.not t) E)):=by
 replace h:=YF h;obtain ⟨_,_,rfl,h⟩:=h
 .refine ptI (QD (ih h)) λW H Q hq=>el hq λY F G e0 he r hw=>?_;rw[wg]at hw;exact gR e0 he r hw λb G1 H1 F1 q e1 x1 he1 r1=>q _ _ x1 r1
def mO(Z:aa)(E:EK)(isAnd:Bool)(x:Tx)(xs:Txs):ak->DH->(Bool->DH->Prop)->Prop:=λY G kk=>wpT Z x E Y G λb G1=>fW Z xs isAnd b E Y G1 kk
theorem HB{isAnd:Bool}{pos:Pos}:∀(xs:Txs){x:Tx},OkT Z c E B X x->ud Z c E B X xs->∀{v:AO}{vs:AE},bu c x v=true->iR c xs vs=true->
  PW X (.BoolOp (if isAnd then .And else .Or) (v::vs) pos) (tB' X.K B (mO Z E isAnd x xs))
 |.nil,x,ih,_,v,vs,h1,h2=>by
  unfold iR at h2;cases vs with
  |nil=>
   have go:∀W H Q,tB' X.K B (mO Z E isAnd x .nil) W H Q->tB' X.K B (wpT Z x E) W H Q:=λW H Q hq=>el hq λY F G e0 he r hw=>by
    unfold mO at hw;refine ⟨Y,F,G,e0,he,r,cU x (λb G1 q=>?_) hw⟩;rw[ww]at q;exact q
   cases isAnd with
   |true=>exact pwI (Qy (ih h1)) go
   |false=>exact pwI (Qz (ih h1)) go
  |cons _ _=>cases h2
 |.cons y ys,x,ih,hh,v,vs,h1,h2=>by
  unfold iR at h2;split at h2
  .rename_i w ws;rw[ae]at h2;have rest:=HB (isAnd:=isAnd) (pos:=pos) ys hh.1 hh.2 h2.1 h2.2;cases isAnd with
   |true=>
    refine pwI (QB (ih h1) rest) λW H Q hq=>el hq λY F G e0 he r hw=>?_;unfold mO at hw;refine gR e0 he r hw λb G1 H1 F1 q e1 x1 he1 r1=>?_;rw[rP]at q;cases b with
    |true=>
     rw[if_pos rfl];exact ⟨Y,F1,G1,e1,he1,r1,cU y (λb' G' z=>sE ys (λc G2 z=>PB.later z x1) z) q⟩
    |false=>
     rw[if_neg bP];exact q _ _ x1 r1
   |false=>
    refine pwI (QC (ih h1) rest) λW H Q hq=>el hq λY F G e0 he r hw=>?_;unfold mO at hw;refine gR e0 he r hw λb G1 H1 F1 q e1 x1 he1 r1=>?_;rw[rP]at q;cases b with
    |false=>
     rw[if_neg bP];exact ⟨Y,F1,G1,e1,he1,r1,cU y (λb' G' z=>sE ys (λc G2 z=>PB.later z x1) z) q⟩
    |true=>
     rw[if_pos rfl];exact q _ _ x1 r1
  .cases h2
theorem ZP{isAnd:Bool}{x:Tx}{xs:Txs}(ih:OkT Z c E B X x)(hh:ud Z c E B X xs){e:AO}(h:bu c (.boo isAnd x xs) e=true):PT X e (tB' X.K B (wpT Z (.boo isAnd x xs) E)):=by
 replace h:=YG h;obtain ⟨_,_,_,_,rfl,h⟩:=h
 .simp only[ae,av]at h;obtain ⟨⟨e1,h1⟩,h2⟩:=h;subst e1;refine ptI (PW.pt (HB xs ih hh h1 h2)) λW H Q hq=>el hq λY F G e0 he r hw=>⟨Y,F,G,e0,he,r,?_⟩;rw[wj]at hw;exact hw
def tG(K:PF)(B:Bs)(t:Tg):TG:=λv X H Q=>∃Y F G d,Ext B.H B.F H F/\EnvR K H F Y X/\R K H F G/\Rep K H F d v/\bc t d Y G (λρ'=>∀σ',EnvR K H F ρ' σ'->Q σ' H)
def tGs(K:PF)(B:Bs)(t:Tgs):TGs:=λvs X H Q=>∃Y F G ds,Ext B.H B.F H F/\EnvR K H F Y X/\R K H F G/\Reps K H F ds vs/\bN t ds Y G (λρ'=>∀σ',EnvR K H F ρ' σ'->Q σ' H)
theorem uf:∀{ts:Tgs}{es:AE}{env:Env},cB c ts es=true->(assignEach es env).length=es.length/\(assignEach es env).findIdx? (·.1)=none/\(assignEach es env).map (·.2)=es.map λe=>assign e env
 |.nil,[],env,_=>⟨rfl,rfl,rfl⟩
 |.nil,_::_,env,h=>by unfold cB at h;cases h
 |.cons t r,[],env,h=>by unfold cB at h;cases h
 |.cons t r,e::es,env,h=>by
  unfold cB at h;rw[ae]at h;obtain ⟨h1,h2,h3⟩:=uf (env:=env) h.2;have hs:assignEach (e::es) env=(false,assign e env)::assignEach es env:=by
   cases t with
   |nm i=>
    have h':=h.1;obtain ⟨_,_,rfl,_⟩:=yx h';rfl
   |tp ts=>
    have h':=h.1;obtain ⟨_,_,_,rfl,_⟩:=yz h';rfl
  rw[hs];refine ⟨by simp[h1],?_,by simp[h3]⟩;rw[eM];simp[h2]
section
variable {prog:AK} {w:World} {A:AM} {E:AG} {s:AI}
theorem HF{it t:AQ}{items:Array AN}(hne:t≠it):∀(n i:Nat)(s:AI)(Q:AB->AI->Prop),s.heap.IsListIter it t i->s.heap.IsList t items->i+n<=items.size->
  (∀h',h'.IsListIter it t (i+n)->Heap.SameBut it s.heap h'->Q ((items.toList.drop i).take n) { s with heap:=h' })->wpAny (model prog w) A (draw (.ref it) n) Q E s
 |0,i,s,Q,hit,_,_,hQ=>by
  show wpAny _ _ (pure []) Q E s;exact ai (by simpa using hQ s.heap hit (Heap.SameBut.refl ..))
 |n+1,i,s,Q,hit,ht,hle,hQ=>by
  have hlt:i < items.size:=by omega
  show wpAny _ _ (pyNext (.ref it) >>= _) Q E s;refine af (wpAny_pyNext_list_item hit ht (x:=items[i]) (by simp[hlt]) λh₁ hit₁ hs₁=>?_);refine af (dA (HF hne n (i+1) _ _ hit₁ (ht.extBut hs₁.extBut hne) (!0) λh₂ hit₂ hs₂=>ai ?_));have hd:items.toList.drop i=items[i]::items.toList.drop (i+1):=by simp[b6,hlt]
  have:=hQ h₂ (by rw[show i+(n+1)=i+1+n by omega];exact hit₂) (hs₁.trans hs₂);rw[hd,List.take_succ_cons]at this;exact this
theorem ZQ{t:AQ}{items:Array AN}{Q:AB->AI->Prop}(hh:A.handled=none)(ht:s.heap.IsList t items)
  (hQ:∀h',Heap.ExtBut (~~~s) s.heap h'->Q items.toList { s with heap:=h' }):wpAny (model prog w) A (unpackItems (.ref t) items.size none) Q E s:=by
 have hlt:t≠(~~~s):=by obtain ⟨o,ho,_⟩:=ht;exact ca (ay ho)
 unfold unpackItems;refine af ?_;unfold notIterableAtAll;refine af (wpAny_specialOf ht.typeIs PySem.F.slot_list_iter.lookup ?_);refine ai ?_;simp only[de,fb];refine af (dA (gX ht ?_));refine af (dA (HF hlt items.size 0 _ _ ⟨_,aS _ rfl,rfl,rfl⟩ (ht.push _) (!0) λh₁ hit₁ hs₁=>?_));have hall:List.take items.size (List.drop 0 items.toList)=items.toList:=by rw[List.drop_zero];exact gy (by simp)
 rw[hall];rw[if_neg (by simp)];have ht₁:h₁.IsList t items:=(ht.push _).extBut hs₁.extBut hlt;refine af (dA (wpAny_pyNext_list_end hh hit₁ ht₁ (by simp) λh₂ he₂=>?_));simp only[Option.isSome_none,de,fb];refine ai (hQ h₂ λb o hb e=>he₂ b o hb (hs₁.extBut b o hb (ah _ e)))
theorem ZR{env:Env}{elts:AE}{x1}{pos:Pos}{t:AQ}{items:Array AN}{Q:Unit->AI->Prop}(hh:A.handled=none)(ht:s.heap.IsList t items)
  (hn:(assignEach elts env).length=items.size) (hstar:(assignEach elts env).findIdx? (·.1)=none)
  (h:∀h',Heap.ExtBut (~~~s) s.heap h'->wpAny (model prog w) A (assignInOrder ((assignEach elts env).map (·.2)) items.toList) Q E { s with heap:=h' }):
  wpAny (model prog w) A (assign (.Tuple elts x1 pos) env (.ref t)) Q E s:=by
 rw[assign_Tuple];refine af (g7 ?_);unfold unpack;rw[hn,hstar];exact af (dA (ZQ hh ht h))
end
section
variable {X:Cx} {pos:Pos}
def ZS(K:PF)(n:Nat)(t:TGs):TG:=λv Y H Q=>∃a xs,v=.ref a/\SqL K H a xs/\xs.length=n/\t xs Y H Q
theorem ZV{es:AE}{k:Nat}{t:TGs}{n:Nat}(hc:X.calm=true)(h:PGs X es t)
  (hn:(assignEach es X.env).length=n:=by rfl) (hst:(assignEach es X.env).findIdx? (·.1)=none:=by rfl):PG X (.Tuple es k pos) (ZS X.K n t):=by
 intro p9 s Y H v u Q I r hw;obtain ⟨a,xs,e1,hq,hl,hw⟩:=hw;subst e1;cases r;obtain ⟨its,rv,pl,hz⟩:=I.list hq;refine ZR (I.ok.hd hc) pl.isList (by simp[hn,<-hl,rv.length]) hst λh' hx=>?_;have I1:Inv X p9 Y H { s with heap:=h' }:=I.kept (t':=s.toks) λb o e=>hx b o (ca (ay e)) e;exact h p9 _ Y H xs _ Q I1 (!!rv) hw
end
mutual
theorem ug(S:Stat Z CX k c E B X):∀(t:Tg){e:AO},cO c t e=true->PG X e (tG X.K B t)
 |.nm i,e,h=>by
  replace h:=yx h;obtain ⟨x,pos,rfl,h⟩:=h
  .skip;rw[ae,av]at h;obtain ⟨l,f⟩:=S.sto x h.2;intro p9 s W H v u Q I rv q;refine Rb (i:=i) S.nd (by rw[S.N];exact h.1) l f p9 s W H v u Q I rv ?_;obtain ⟨Y,F,G,d,e0,he,r,rd,hw⟩:=q;unfold bc at hw;exact hw _ (he.set rd i)
 |.tp ts,e,h=>by
  replace h:=yz h;obtain ⟨es,kk,pos,rfl,h⟩:=h
  .skip;obtain ⟨h1,h2,h3⟩:=uf (env:=X.env) h;intro p9 s W H v u Q I rv q;obtain ⟨Y,F,G,d,e0,he,r,rd,hw⟩:=q;unfold bc at hw;split at hw
   .rename_i ds;refine Rj (n:=es.length) S.calm (yF S ts h) h1 h2 p9 s W H v u Q I rv ?_;obtain ⟨a,vs,e1,q,t⟩:=rd;refine ⟨a,vs,e1,q.sq,?_,Y,F,G,ds,e0,he,r,t,hw⟩;rw[<-t.length];exact yG ts h hw
   .rename_i ds;refine ZV (n:=es.length) S.calm (yF S ts h) h1 h2 p9 s W H v u Q I rv ?_;obtain ⟨a,vs,e1,q,t⟩:=rd;refine ⟨a,vs,e1,q.sq,?_,Y,F,G,ds,e0,he,r,t,hw⟩;rw[<-t.length];exact yG ts h hw
   .exact hw.elim
theorem yF(S:Stat Z CX k c E B X):∀(ts:Tgs){es:AE},cB c ts es=true->PGs X es (tGs X.K B ts)
 |.nil,es,h=>by
  unfold cB at h;cases es with
  |nil=>
   intro p9 s W H vs us Q I rv q;refine Rg p9 s W H vs us Q I rv ?_;obtain ⟨Y,F,G,ds,e0,he,r,rd,hw⟩:=q;unfold bN at hw;split at hw
   .exact ⟨rd,hw _ he⟩
   .exact hw.elim
  |cons _ _=>cases h
 |.cons t r,es,h=>by
  unfold cB at h;split at h
  .rename_i e es;rw[ae]at h;intro p9 s W H vs us Q I rv q;have hs:(assignEach (e::es) X.env).map (·.2)=assign e X.env::(assignEach es X.env).map (·.2):=by
    have hh:cB c (.cons t r) (e::es)=true:=by unfold cB;show (cO c t e&&cB c r es)=true;rw[h.1,h.2];rfl
    rw[(uf (env:=X.env) hh).2.2,(uf (env:=X.env) h.2).2.2];rfl
   refine Rh (ug S t h.1) (yF S r h.2) hs p9 s W H vs us Q I rv ?_;obtain ⟨Y,F,G,ds,e0,he,rr,rd,hw⟩:=q;unfold bN at hw;split at hw
   .rename_i d ds;obtain ⟨v,vs',e1,rd1,rds⟩:=rd;refine ⟨v,vs',e1,Y,F,G,d,e0,he,rr,rd1,fX (λρ' z σ' he'=>?_) t hw⟩;exact ⟨ρ',F,G,ds,e0,he',rr,rds,z⟩
   .exact hw.elim
  .cases h
theorem yG{G:DH}:∀(ts:Tgs){es:AE}{ds:AS}{Y:ak}{Q:ak->Prop},cB c ts es=true->bN ts ds Y G Q->ds.length=es.length
 |.nil,es,ds,Y,Q,h,q=>by
  unfold cB at h;unfold bN at q;split at q
  .cases es with
   |nil=>rfl
   |cons _ _=>cases h
  .exact q.elim
 |.cons t r,es,ds,Y,Q,h,q=>by
  unfold cB at h;split at h
  .rw[ae]at h;unfold bN at q;split at q
   .rename_i d ds;have:∃ρ',bN r ds ρ' G Q:=HH t q;obtain ⟨ρ',q'⟩:=this;have:=yG r h.2 q';simp[this]
   .exact q.elim
  .cases h
theorem HH{G:DH}:∀(t:Tg){d:D}{Y:ak}{Q:ak->Prop},bc t d Y G Q->∃ρ',Q ρ'
 |.nm i,d,Y,Q,q=>⟨_,q⟩
 |.tp ts,d,Y,Q,q=>by
  unfold bc at q;split at q
  .exact yH ts q
  .exact yH ts q
  .exact q.elim
theorem yH{G:DH}:∀(ts:Tgs){ds:AS}{Y:ak}{Q:ak->Prop},bN ts ds Y G Q->∃ρ',Q ρ'
 |.nil,ds,Y,Q,q=>by
  unfold bN at q;split at q
  .exact ⟨_,q⟩
  .exact q.elim
 |.cons t r,ds,Y,Q,q=>by
  unfold bN at q;split at q
  .obtain ⟨ρ',q'⟩:=HH t q;exact yH r q'
  .exact q.elim
end
end
structure WalkJ(K:PF)(H:Hp)(F:FZ)(items:AS)(g:Hld)(J:It):Prop where
 go:∀H' F' G i,Ext H F H' F'->R K H' F' G->held g G->i < items.length->J.go i H'
 stop:∀H' F' G,Ext H F H' F'->R K H' F' G->held g G->J.stop items.length H'
 yld:∀H' F' i x H'' d G,Ext H F H' F'->R K H' F' G->held g G->items[i]?=some d->J.yld i H' x H''->Ext H' F' H'' F'/\R K H'' F' G/\Rep K H'' F' d x
section
variable {K:PF} {H:Hp} {F:FZ}
structure Src(K:PF)(H:Hp)(F:FZ)(u:AN)(ds:AS)(g:Hld)(k:SK):Prop where
 val:k.val=u
 sat:∀H' F' G,Ext H F H' F'->R K H' F' G->held g G->∃vs,k.Sat H' vs/\Reps K H' F' ds vs
theorem uh{d:D}{v:V}{u:AN}{G:DH}{ds:AS×Hld}(h:Rep K H F d v)(r:RelV v u)(e:itemsOf G d=some ds):∃k,Src K H F u ds.1 ds.2 k:=by
 cases d with
 |lst xs=>
  simp only[itemsOf,a8]at e;subst e;obtain ⟨a,vs,e1,q,t⟩:=h;subst e1;have hu:u=Value.ref a:=r;subst hu;exact ⟨.lst a,rfl,λH' F' G' x _ _=>⟨vs,(FzL.ext x q).2,Reps.ext x t⟩⟩
 |tup xs=>
  simp only[itemsOf,a8]at e;subst e;obtain ⟨a,vs,e1,q,t⟩:=h;subst e1;have hu:u=Value.ref a:=r;subst hu;exact ⟨.tup a,rfl,λH' F' G' x _ _=>⟨vs,(TpT.ext (K:=K) x q).it,Reps.ext x t⟩⟩
 |str l=>
  simp only[itemsOf,a8]at e;subst e;obtain ⟨e1,hl⟩:=h;subst e1;obtain ⟨t,hu⟩:∃t,u=Value.str (tx l) t:=r;subst hu;exact ⟨.str (tx l) t,rfl,λH' F' G' x _ _=>⟨_,rfl,by simpa using yf l⟩⟩
 |ref p=>
  simp only[itemsOf]at e;split at e
  .rename_i xs hg;simp only[a8]at e;subst e;have e1:v=.ref p:=h;subst e1;have hu:u=Value.ref p:=r;subst hu;exact ⟨.lst p,rfl,λH' F' G' x r' hh=>r'.lst hh.1⟩
  .cases e
 |_=>cases e
theorem ul{G:DH}{d:D}{ds:AS×Hld}(e:itemsOf G d=some ds):held ds.2 G:=by
 cases d with
 |ref p=>
  simp only[itemsOf]at e;split at e
  .rename_i xs hg;simp only[a8]at e;subst e;exact ⟨hg,trivial⟩
  .cases e
 |_=>simp only[itemsOf]at e;first | (cases e;done) | (simp only[a8]at e;subst e;exact trivial)
theorem ZW{u:AN}{ds:AS}{g:Hld}{k:SK}(s:Src K H F u ds g k):WalkJ K H F ds g (Jk k) where
 go:=λH' F' G i x r hh hi=>by
  obtain ⟨vs,h1,h2⟩:=s.sat H' F' G x r hh;exact ⟨vs,h1,by rw[<-h2.length];exact hi⟩
 stop:=λH' F' G x r hh=>by
  obtain ⟨vs,h1,h2⟩:=s.sat H' F' G x r hh;exact ⟨vs,h1,h2.length.symm⟩
 yld:=λH' F' i v H'' d G x r hh hd y=>by
  obtain ⟨e,hv⟩:=y;subst e;obtain ⟨vs,h1,h2⟩:=s.sat _ F' G x r hh;obtain ⟨w,e1,rw'⟩:=h2.get hd;have e2:=hv vs h1;rw[e1]at e2;cases e2;exact ⟨Ext.refl _ _,r,rw'⟩
theorem mQ:∀(n:Nat)(ds:AS),(dM n ds).length=ds.length
 |_,[]=>rfl
 |n,d::ds=>by simp[dM,mQ (n+1) ds]
theorem mR:∀(n:Nat)(ds:AS)(i:Nat),(dM n ds)[i]?=(ds[i]?).map λd=>.tup [.int ((n+i:Nat):Int),d]
 |_,[],_=>by simp[dM]
 |n,d::ds,0=>by simp[dM]
 |n,d::ds,i+1=>by
  simp only[dM,List.getElem?_cons_succ];rw[mR (n+1) ds i];congr 1;funext d;rw[show n+1+i=n+(i+1) by omega]
theorem um:∀(as bs:AS),(bT as bs).length=min as.length bs.length
 |[],bs=>by simp[bT]
 |a::as,[]=>by simp[bT]
 |a::as,b::bs=>by simp[bT,um as bs]
theorem yI:∀(as bs:AS)(i:Nat)(d:D),(bT as bs)[i]?=some d->∃a b,as[i]?=some a/\bs[i]?=some b/\d=.tup [a,b]
 |[],bs,i,d,h=>by simp[bT]at h
 |a::as,[],i,d,h=>by simp[bT]at h
 |a::as,b::bs,0,d,h=>by simp[bT]at h;exact ⟨a,b,rfl,rfl,h.symm⟩
 |a::as,b::bs,i+1,d,h=>by
  simp only[bT,List.getElem?_cons_succ]at h;obtain ⟨x,y,h1,h2,h3⟩:=yI as bs i d h;exact ⟨x,y,!!h1,!!h2,h3⟩
theorem ZX{u:AN}{ds:AS}{g:Hld}{k:SK}(s:Src K H F u ds g k):WalkJ K H F (dM 0 ds) g (Je k) where
 go:=λH' F' G i x r hh hi=>by
  obtain ⟨vs,h1,h2⟩:=s.sat H' F' G x r hh;exact ⟨vs,h1,by rw[<-h2.length,<-mQ 0];exact hi⟩
 stop:=λH' F' G x r hh=>by
  obtain ⟨vs,h1,h2⟩:=s.sat H' F' G x r hh;exact ⟨vs,h1,by rw[mQ];exact h2.length.symm⟩
 yld:=λH' F' i v H'' d G x r hh hd y=>by
  obtain ⟨vs,h1,h2⟩:=s.sat H' F' G x r hh;obtain ⟨T,y,hT,e1,e2,hv⟩:=y;subst e1 e2;rw[mR]at hd;obtain ⟨d',hd',e3⟩:=br.mp hd;subst e3;obtain ⟨w,e1,rw'⟩:=h2.get hd';have e2:=hv vs h1;rw[e1]at e2;cases e2;refine ⟨cM r hT,r.new hT,?_⟩;rw[Nat.zero_add];exact vR r hT (Reps.cons rfl (Reps.cons rw' Reps.nil))
theorem jX{g g':Hld}{G:DH}:held (g++g') G->held g G/\held g' G:=by
 induction g with
 |nil=>exact λh=>⟨trivial,h⟩
 |cons p r ih=>
  intro h;obtain ⟨h1,h2⟩:=ih h.2;exact ⟨⟨h.1,h1⟩,h2⟩
theorem ZZ{u u':AN}{ds es:AS}{g g':Hld}{k l:SK}(s:Src K H F u ds g k)(s':Src K H F u' es g' l):WalkJ K H F (bT ds es) (g++g') (Jz k l) where
 go:=λH' F' G i x r hh hi=>by
  obtain ⟨vs,h1,h2⟩:=s.sat H' F' G x r (jX hh).1;obtain ⟨ws,h3,h4⟩:=s'.sat H' F' G x r (jX hh).2;rw[um]at hi;exact ⟨vs,ws,h1,h3,by rw[<-h2.length];omega,by rw[<-h4.length];omega⟩
 stop:=λH' F' G x r hh=>by
  obtain ⟨vs,h1,h2⟩:=s.sat H' F' G x r (jX hh).1;obtain ⟨ws,h3,h4⟩:=s'.sat H' F' G x r (jX hh).2;exact ⟨vs,ws,h1,h3,by rw[um,<-h2.length,<-h4.length];omega⟩
 yld:=λH' F' i v H'' d G x r hh hd y=>by
  obtain ⟨T,y,z,hT,e1,e2,hv,hz⟩:=y;subst e1 e2;obtain ⟨a,b,ha,hb,e3⟩:=yI _ _ _ _ hd;subst e3;obtain ⟨vs,h1,h2⟩:=s.sat H' F' G x r (jX hh).1;obtain ⟨ws,h3,h4⟩:=s'.sat H' F' G x r (jX hh).2;obtain ⟨w,e1,rw'⟩:=h2.get ha;obtain ⟨w2,e3,rw2⟩:=h4.get hb;have e2:=hv vs h1;have e4:=hz ws h3;rw[e1]at e2;cases e2;rw[e3]at e4;cases e4;exact ⟨cM r hT,r.new hT,vR r hT (Reps.cons rw' (Reps.cons rw2 Reps.nil))⟩
theorem Z0(lo:Int)(n:Nat):WalkJ K H F (aX lo n) [] (Itr lo n) where
 go:=λH' F' G i x _ _ hi=>by show i < n;simpa [aX] using hi
 stop:=λH' F' G x _ _=>by show n<=(aX lo n).length;simp[aX]
 yld:=λH' F' i v H'' d G x r _ hd y=>by
  obtain ⟨e1,e2⟩:=y;subst e1 e2;refine ⟨Ext.refl _ _,r,?_⟩;unfold aX at hd;rw[b9]at hd;obtain ⟨j,hj,e3⟩:=br.mp hd;have:j=i:=by have:=ar.mp hj;obtain ⟨h1,h2⟩:=this;simpa using h2.symm
  subst this;subst e3;rfl
end
def tI(K:PF)(B:Bs)(w:ak->DH->(AS->Hld->DH->Prop)->Prop):TI:=λX H Rr=>∃Y F G,Ext B.H B.F H F/\EnvR K H F Y X/\R K H F G/\
 w Y G (λitems g G'=>∀H' F' J,Ext H F H' F'->R K H' F' G'->WalkJ K H' F' items g J->Rr J H')
section
variable {Z:aa} {CX:CXT} {k:Nat} {c:CT} {E:EK} {B:Bs} {X:Cx}
theorem uo{p9:AC}{Y:L2.St}{H:Hp}{s:AI}(I:Inv X p9 Y H s){kk:SK}{vs:AR}(h:kk.Sat H vs):∃its:Array AN,kk.On its s.heap:=by
 cases kk with
 |lst a=>obtain ⟨its,_,pl,_⟩:=I.list (SqL.of (show H a=some _ from h));exact ⟨its.toArray,pl.isList⟩
 |tup a=>obtain ⟨its,_,pl,_⟩:=I.tuple (SqT.of (show H a=some _ from h));exact ⟨its.toArray,pl⟩
 |str x t=>exact ⟨#[],trivial⟩
theorem Z1{x:Ex}(ih:OkE Z c E B X x){tg e:AO}(h:aj c x e=true):PI X tg e (tI X.K B (wpI Z (.seq x) E)):=by
 intro p9 s W H Rr I q;obtain ⟨Y,F,G,e0,he,r,hw⟩:=q;rw[wA]at hw;have q':tE X.K B (wpE Z x E) W H (λv H1=>∃F1 G1 d items,R X.K H1 F1 G1/\Rep X.K H1 F1 d v/\itemsOf G1 d=some items/\∀J,WalkJ X.K H1 F1 items.1 items.2 J->Rr J H1):=
  aO e0 he r hw λd G1 H1 F1 u q e1 x1 he1 r1 ru=>by
   split at q
   .rename_i ds hd;exact ⟨F1,G1,d,ds,r1,ru,hd,λJ w=>q H1 F1 J x1 r1 w⟩
   .exact q.elim
 refine thn (ih h p9 s W H _ I q') λu s1 ⟨v,H1,I1,rv,F1,G1,d,items,r1,rd,hd,q1⟩=>?_;obtain ⟨kk,src⟩:=uh rd rv hd;obtain ⟨vs,sat,_⟩:=src.sat H1 F1 G1 (Ext.refl _ _) r1 (ul hd);obtain ⟨its,on⟩:=uo I1 sat;rw[<-src.val];refine SK.iter on ?_;refine ⟨s1.heap.objs.size,[s1.heap.objs.size],_,_,H1,rfl,I1.kept (t':=s1.toks) λb o e=>ah _ e,Yn kk _,SK.pos0,λb hb=>?_,q1 _ (ZW src)⟩;have e:b=s1.heap.objs.size:=by simpa using hb
 subst e;exact I1.fpOk (ax _) (I1.hok.fresh (ax _))
theorem Z2(S:Stat Z CX k c E B X){a:Ex}(ih:OkE Z c E B X a){tg e:AO}(h:cP c (.rng a) tg e=true):PI X tg e (tI X.K B (wpI Z (.rng a) E)):=by
 replace h:=Hl h;obtain ⟨_,_,_,_,rfl,h⟩:=h
 .simp only[ae,av]at h;obtain ⟨⟨⟨e1,h1⟩,hm⟩,h2⟩:=h;subst e1;obtain ⟨g1,g2⟩:=bY h1;have hmg:=S.blt _ (aT.mp hm);have hs:=bO _ [] X.env (cC (bH a h2));intro p9 s W H Rr I q;refine Rw (S.glo _ g1) hmg (dJ (ih h2) eU hs) hs p9 s W H Rr I ?_;obtain ⟨Y,F,G,e0,he,r,hw⟩:=q;rw[wB]at hw;refine aO e0 he r hw λd G1 H1 F1 u q e1 x1 he1 r1 ru=>?_;split at q
  .rename_i n;have e2:u=.int n:=ru;subst e2;exact ⟨n,rfl,q.1.1,q.1.2,q.2 H1 F1 _ x1 r1 (Z0 0 n.toNat)⟩
  .exact q.elim
theorem Z3(S:Stat Z CX k c E B X){a:Ex}(ih:OkE Z c E B X a){tg e:AO}(h:cP c (.enm a) tg e=true):PI X tg e (tI X.K B (wpI Z (.enm a) E)):=by
 replace h:=Hm h;obtain ⟨_,_,_,_,_,_,_,rfl,rfl,h⟩:=h
 .skip
  .simp only[ae,av]at h;obtain ⟨⟨⟨e1,h1⟩,hm⟩,h2⟩:=h;subst e1;obtain ⟨g1,g2⟩:=bY h1;have hmg:=S.blt _ (aT.mp hm);have hs:=bO _ [] X.env (cC (bH a h2));intro p9 s V H Rr I q;obtain ⟨Y,F,G,e0,he,r,hw⟩:=q;rw[wC]at hw;have q':tL X.K B (aU Z (.cons a .nil) E) V H (λvs H1=>∃v F1 G1 d items,vs=[v]/\R X.K H1 F1 G1/\Rep X.K H1 F1 d v/\itemsOf G1 d=some items/\∀J,WalkJ X.K H1 F1 (dM 0 items.1) items.2 J->Rr J H1):=by
    refine cQ (W:=λds G1=>∃d items,ds=[d]/\itemsOf G1 d=some items/\∀H' F' J,Ext H F H' F'->R X.K H' F' G1->WalkJ X.K H' F' (dM 0 items.1) items.2 J->Rr J H') e0 he r ?_ λds G1 H1 F1 vs q e1 x1 he1 r1 rvs=>?_
    .rw[iG];refine aK a (λd G1 q=>?_) hw;rw[jM];split at q
     .rename_i items hd;exact ⟨d,items,rfl,hd,q⟩
     .exact q.elim
    .obtain ⟨d,items,e2,hd,q⟩:=q;subst e2;obtain ⟨v,e3,rv⟩:=bD rvs;exact ⟨v,F1,G1,d,items,e3,r1,rv,hd,λJ w=>q H1 F1 J x1 r1 w⟩
   refine Call_ (iz I (S.glo _ g1) hmg (u:=.type "enumerate") boot_enumerate (et (thn (tZ ih (λh=>yE h) (c:=c) (es:=[_]) (by unfold aL;show (aj c a _&&true)=true;rw[h2];rfl) _ p9 s V H _ I q') λus s1 ⟨vs,H1,I1,r1v,q1⟩=>?_) hs rfl) (cR g2) (bF g2));obtain ⟨v,F1,G1,d,items,e1,r1,rd,hd,q1⟩:=q1;subst e1;obtain ⟨u,rfl,ru⟩:=vals1 r1v;obtain ⟨kk,src⟩:=uh rd ru hd;obtain ⟨vs,sat,_⟩:=src.sat H1 F1 G1 (Ext.refl _ _) r1 (ul hd);obtain ⟨its,on⟩:=uo I1 sat;rw[<-src.val];refine Yw on λh' hen hit hsz hk=>?_;refine wpAny_pyIter_enum hen ?_;have n1:H1 s1.heap.objs.size=none:=I1.hok.fresh (ax _);have n2:H1 (s1.heap.objs.size+1)=none:=I1.hok.fresh (fE _);refine ⟨s1.heap.objs.size+1,[s1.heap.objs.size+1,s1.heap.objs.size],_,_,H1,rfl,I1.kept (t':=s1.toks) hk,Ym kk _ _ (Nat.succ_ne_self _),⟨⟨_,hen⟩,hit⟩,λb hb=>?_,q1 _ (ZX src)⟩;have hb':b=s1.heap.objs.size+1\/b=s1.heap.objs.size:=by simpa using hb
   rcases hb' with rfl |rfl
   .exact I1.fpOk (fE _) n2
   .exact I1.fpOk (ax _) n1
theorem zap(n:Nat):ZApart (n+4) (n+2) (n+3) n (n+1):=
 ⟨(by omega:(n+2:Nat)≠n+4),(by omega:(n+3:Nat)≠n+4),(by omega:(n:Nat)≠n+4),(by omega:(n+1:Nat)≠n+4),(by omega:(n+2:Nat)≠n+3),(by omega:(n+2:Nat)≠n),(by omega:(n+2:Nat)≠n+1),(by omega:(n+3:Nat)≠n),(by omega:(n+3:Nat)≠n+1),(by omega:(n:Nat)≠n+1)⟩
theorem Z4(S:Stat Z CX k c E B X){a b:Ex}(iha:OkE Z c E B X a)(ihb:OkE Z c E B X b){tg e:AO}(h:cP c (.zip a b) tg e=true):PI X tg e (tI X.K B (wpI Z (.zip a b) E)):=by
 replace h:=Hn h;obtain ⟨_,_,_,_,_,v,v',pos,rfl,rfl,h⟩:=h
 .skip
  .simp only[ae,av]at h;obtain ⟨⟨⟨⟨e1,h1⟩,hm⟩,h2⟩,h3⟩:=h;subst e1;obtain ⟨g1,g2⟩:=bY h1;have hmg:=S.blt _ (aT.mp hm);have hs2:=bO v' [] X.env (cC (bH b h3));have hs:=bO v [v'] X.env (cC (bH a h2));intro p9 s V H Rr I q;obtain ⟨Y,F,G,e0,he,r,hw⟩:=q;rw[wD]at hw;have hA:aL c (.cons a (.cons b .nil)) [v,v']=true:=by
    unfold aL aL aL;show (aj c a v&&(aj c b v'&&true))=true;rw[h2,h3];rfl
   have q':tL X.K B (aU Z (.cons a (.cons b .nil)) E) V H (λvs H1=>∃v v' F1 G1 d d' items items',vs=[v,v']/\R X.K H1 F1 G1/\Rep X.K H1 F1 d v/\Rep X.K H1 F1 d' v'/\itemsOf G1 d=some items/\itemsOf G1 d'=some items'/\∀J,WalkJ X.K H1 F1 (bT items.1 items'.1) (items.2++items'.2) J->Rr J H1):=by
    refine cQ (W:=λds G1=>∃d d' items items',ds=[d,d']/\itemsOf G1 d=some items/\itemsOf G1 d'=some items'/\∀H' F' J,Ext H F H' F'->R X.K H' F' G1->WalkJ X.K H' F' (bT items.1 items'.1) (items.2++items'.2) J->Rr J H') e0 he r ?_ λds G1 H1 F1 vs q e1 x1 he1 r1 rvs=>?_
    .rw[iG];refine aK a (λd G1 q=>?_) hw;rw[iG];refine aK b (λd' G2 q=>?_) q;rw[jM];split at q
     .rename_i items items' hd hd';exact ⟨d,d',items,items',rfl,hd,hd',q⟩
     .exact q.elim
    .obtain ⟨d,d',items,items',e2,hd,hd',q⟩:=q;subst e2;obtain ⟨w1,r2,e3,rw1,t2⟩:=rvs;obtain ⟨w2,e4,rw2⟩:=bD t2;subst e4;exact ⟨w1,w2,F1,G1,d,d',items,items',e3,r1,rw1,rw2,hd,hd',λJ w=>q H1 F1 J x1 r1 w⟩
   refine Call_ (iz I (S.glo _ g1) hmg (u:=.type "zip") Uu (et (thn (tZ iha (λh=>tZ ihb (λh=>yE h) h) (c:=c) (es:=[v,v']) hA _ p9 s V H _ I q') λus s1 ⟨vs,H1,I1,r1v,q1⟩=>?_) hs (by rw[hs2];rfl)) (cR g2) (bF g2));obtain ⟨w1,w2,F1,G1,d,d',items,items',e1,r1,rd,rd',hd,hd',q1⟩:=q1;subst e1;obtain ⟨u,u',rfl,ru,ru'⟩:=vals2 r1v;obtain ⟨kk,src⟩:=uh rd ru hd;obtain ⟨ll,src'⟩:=uh rd' ru' hd';obtain ⟨vs,sat,_⟩:=src.sat H1 F1 G1 (Ext.refl _ _) r1 (ul hd);obtain ⟨ws,sat',_⟩:=src'.sat H1 F1 G1 (Ext.refl _ _) r1 (ul hd');obtain ⟨its,on⟩:=uo I1 sat;obtain ⟨its',on'⟩:=uo I1 sat';rw[<-src.val,<-src'.val];refine Yu on on' λh' hz hTI hTO p1 p2 hsz hk=>?_;refine wpAny_pyIter_zip hz ?_;have fr:∀j,H1 (s1.heap.objs.size+j)=none:=λj=>I1.hok.fresh (dk _ _);refine ⟨s1.heap.objs.size+4,[s1.heap.objs.size+4,s1.heap.objs.size+2,s1.heap.objs.size+3,s1.heap.objs.size,s1.heap.objs.size+1],_,_,H1,rfl,I1.kept (t':=s1.toks) hk,
    Yr kk ll (s1.heap.objs.size+4) (s1.heap.objs.size+2) (s1.heap.objs.size+3) s1.heap.objs.size (s1.heap.objs.size+1) (zap s1.heap.objs.size),⟨hz,hTI,⟨_,_,hTO⟩,p1,p2⟩,λb hb=>?_,q1 _ (ZZ src src')⟩
   have hb':b=s1.heap.objs.size+4\/b=s1.heap.objs.size+2\/b=s1.heap.objs.size+3\/b=s1.heap.objs.size\/b=s1.heap.objs.size+1:=by simpa using hb
   rcases hb' with rfl |rfl |rfl |rfl |rfl
   .exact I1.fpOk (dk _ _) (fr 4)
   .exact I1.fpOk (dk _ _) (fr 2)
   .exact I1.fpOk (dk _ _) (fr 3)
   .exact I1.fpOk (ax _) (fr 0)
   .exact I1.fpOk (dk _ _) (fr 1)
end
section
variable {Z:aa} {CX:CXT} {k:Nat} {c:CT} {E:EK} {B:Bs} {X:Cx}
theorem yJ:∀{l:AD},eX l=true->l.Nodup
 |[],_=>gz
 |x::r,h=>by
  unfold eX at h;rw[ae]at h;refine d4.mpr ⟨λhm=>?_,yJ h.2⟩;have:=h.1;rw[aT.mpr hm]at this;cases this
theorem uq{N:AD}{scope:Scope}:∀{N':AD}{cap:List (Option Nat)},X.N=N->gO N scope N' cap=true->Caps X scope N' cap
 |[],[],_,_=>trivial
 |_::N',none::cap,e,h=>uq (N':=N') (cap:=cap) e h
 |x::N',some j::cap,e,h=>by
  unfold gO at h;simp only[ae,av]at h;exact ⟨⟨by rw[e];exact h.1.1,h.1.2⟩,uq (N':=N') (cap:=cap) e h.2⟩
 |[],_::_,_,h=>by cases h
 |_::_,[],_,h=>by cases h
theorem mU{scope:Scope}{env:Env}(x:Str):(relabel scope env).names.lookup x=(scope.names.lookup x).map λkk=>if (kk==NameKind.free&&env.scope.kind==.function&&env.kindOf x==some .cell)=true then NameKind.cell else kk:=vz
theorem Stat.comp(S:Stat Z CX k c E B X){N':AD}{scope:Scope}(hn:eX N'=true)(cl:List (Str×AQ))(C:AQ)(s₁:AI)(H₁:Hp)(fp:List AQ)(pn:AC):
  Stat Z CX k (c.comp N' scope) noE B (X.comp N' scope cl C s₁ H₁ fp pn) where
 N:=rfl
 nd:=yJ hn
 calm:=S.calm
 own:=PassesOwn.never
 kd:=rfl
 vis:=λx h=>by
  have h:iM (scope.names.lookup x)=true:=h;show (relabel scope X.env).names.lookup x=_\/(relabel scope X.env).names.lookup x=_\/(relabel scope X.env).names.lookup x=_;rw[mU];cases e:scope.names.lookup x with
  |none=>rw[e]at h;cases h
  |some kk=>
   rw[e]at h;cases kk with
   | «local»=>exact .inl (by simp[show (NameKind.«local»==NameKind.free)=false by decide])
   |cell=>exact .inr (.inl (by simp[show (NameKind.cell==NameKind.free)=false by decide]))
   |free=>
    by_cases q:(NameKind.free==NameKind.free&&X.env.scope.kind==ScopeKind.function&&X.env.kindOf x==some NameKind.cell)=true
    .exact .inr (.inl (by simp only[Option.map_some,if_pos q]))
    .exact .inr (.inr (by simp only[Option.map_some,if_neg q]))
   |globalExplicit=>cases h
   |globalImplicit=>cases h
 cel:=λx h=>by
  have h:scope.names.lookup x=some .cell\/scope.names.lookup x=some .free:=h;show (relabel scope X.env).names.lookup x=_\/(relabel scope X.env).names.lookup x=_;rw[mU];rcases h with h |h
  .exact .inl (by rw[h];simp[show (NameKind.cell==NameKind.free)=false by decide])
  .rw[h];by_cases q:(NameKind.free==NameKind.free&&X.env.scope.kind==ScopeKind.function&&X.env.kindOf x==some NameKind.cell)=true
   .exact .inl (by simp only[Option.map_some,if_pos q])
   .exact .inr (by simp only[Option.map_some,if_neg q])
 glo:=λx h=>by
  have h:scope.names.lookup x=some .globalImplicit:=h;show (relabel scope X.env).names.lookup x=_;rw[mU,h];simp[show (NameKind.globalImplicit==NameKind.free)=false by decide]
 sto:=λx h=>by
  have h:(scope.names.lookup x==some .local||(false&&scope.names.lookup x==some .cell))=true:=h;rw[fI,Bool.or_false,av]at h;have e:(relabel scope X.env).names.lookup x=some .local:=by rw[mU,h];simp[show (NameKind.«local»==NameKind.free)=false by decide]
  exact ⟨.inl e,.inr e⟩
 room:=S.room
 call:=S.call
 blt:=S.blt
 con:=S.con
 exc:=⟨_,S.nox _,λ_ _ _ _ _ _ _ _ _ _ q=>q.elim,λx G' H' F' h=>h.elim⟩
 nox:=S.nox
 xcl:=λC h=>nZf h
 loc:=λx h=>by show (relabel scope X.env).names.lookup x=_;rw[mU,show scope.names.lookup x=some .local from h];simp[show (NameKind.«local»==NameKind.free)=false by decide]
 xis:=λC h=>nZf h
 mth:=S.mth
 mko:=S.mko
 fld:=S.fld
 xko:=λC f h=>⟨(S.xko C f h).1,λ_ _ z=>nomatch (show false=true from z)⟩
 trc:=λh=>absurd rfl h
theorem Z5(S:Stat Z CX k c E B X){t:Tx}(ih:OkT Z c E B X t){ifs:AE}(h:mJ c t ifs=true):PIf X ifs (tB' X.K B (wpT Z t E)):=by
 unfold mJ at h;rw[cy]at h;rcases h with h |h
 .rw[ae,fg]at h;obtain ⟨hy,rfl⟩:=h;cases t with
  |yes=>
   intro p9 s W H Q I q;refine Ug p9 s W H Q I ?_;obtain ⟨Y,F,G,e0,he,r,hw⟩:=q;rw[wk]at hw;exact hw.now r
  |_=>cases hy
 .obtain ⟨e,he,h⟩:=aN h;rw[bL he];exact Uh (ih h)
theorem HJ(S:Stat Z CX k c E B X){fz:Bool}{elt:Ex}{tg:Tg}{it:It'}{cond:Tx}{N':AD}{cap:List (Option Nat)}{scope:Scope}{elt' tg':AO}{ifs:AE}(hn:eX N'=true)
  (ihe:∀{X':Cx},Stat Z CX k (c.comp N' scope) noE B X'->OkE Z (c.comp N' scope) noE B X' elt) (iht:∀{X':Cx},Stat Z CX k (c.comp N' scope) noE B X'->OkT Z (c.comp N' scope) noE B X' cond)
  (hg:cO (c.comp N' scope) tg tg'=true) (hi:mJ (c.comp N' scope) cond ifs=true) (he:aj (c.comp N' scope) elt elt'=true)
  {V:L2.St} {H:Hp} {Q:VK} {Y:ak} {F:FZ} {G:DH} (e0:Ext B.H B.F H F) (henv:EnvR X.K H F Y V) (r:R X.K H F G)
  (hw:wpI Z it E Y G λitems g G1=>
   compLoop (λd ρ' G' k'=>bc tg d ρ' G' λρ1=>wpT Z cond noE ρ1 G' λb G2=>match b with |true=>wpE Z elt noE ρ1 G2 λy G3=>k' (some y) ρ1 G3 |false=>k' none ρ1 G2)
    g items [] (cap.map λo=>match o with |none=>none |some j=>(Y[j]?).join) G1 λds G2=>mk fz ds G2 (PV X.K H F Q)):
  tI X.K B (wpI Z it E) V H (λJ H1=>Dt true X N' scope tg' (emT ifs elt') J (dX cap V) H1 Q):=by
 refine ⟨Y,F,G,e0,henv,r,mj it (λitems g G1 q H1 F1 J x1 r1 W=>?_) hw⟩;let step:D->ak->DH->(Option D->ak->DH->Prop)->Prop:=λd ρ' G' k'=>bc tg d ρ' G' λρ1=>wpT Z cond noE ρ1 G' λb G2=>match b with |true=>wpE Z elt noE ρ1 G2 λy G3=>k' (some y) ρ1 G3 |false=>k' none ρ1 G2
 let fin:AS->DH->Prop:=λds G2=>mk fz ds G2 (PV X.K H F Q)
 refine ⟨λi m ys σ' H'=>m=items.length - i/\i<=items.length/\∃ρ' F' G' acc,Ext B.H B.F H' F'/\Ext H1 F1 H' F'/\EnvR X.K H' F' ρ' σ'/\R X.K H' F' G'/\Reps X.K H' F' acc ys/\compLoop step g (items.drop i) acc ρ' G' fin,
  ⟨items.length,by simp,dE _,_,F1,G1,[],e0.trans x1,Ext.refl _ _,(henv.ext x1).cap cap,r1,rfl,q⟩,?_⟩
 rintro i m ys σ' H' ⟨rfl,hle,ρ',F',G',acc,eB,e1,he',r',ra,hl⟩;by_cases hlt:i < items.length
 .have hd:items.drop i=items[i]::items.drop (i+1):=b6 hlt;rw[hd]at hl;obtain ⟨hh,hz,hl⟩:=hl;refine .inr ⟨W.go H' F' G' i e1 r' hh hlt,λ_=>by rw[<-ra.length];exact bi hz szl,λcl C s₁ H₁ fp pn=>?_⟩;have S':=S.comp (scope:=scope) hn cl C s₁ H₁ fp pn;refine ⟨_,tmT _ _,ug S' tg hg,λa ha=>V7 rfl ha (Z5 S' (iht S') hi) (ihe S' he),λx H2 hy=>?_⟩;obtain ⟨xy,ry,rx⟩:=W.yld H' F' i x H2 items[i] G' e1 r' hh (by simp[hlt]) hy;refine ⟨ρ',F',G',items[i],eB.trans xy,he'.ext xy,ry,rx,fX (λρ1 z σ1 hσ1=>?_) tg hl⟩;unfold tmT;refine gR (eB.trans xy) hσ1 ry z λb G2 H3 F3 z e3 x3 he3 r3=>?_;cases b with
  |true=>
   rw[if_pos rfl];refine aO e3 he3 r3 z λy G4 H4 F4 v z e4 x4 he4 r4 rv=>?_;exact ⟨items.length - (i+1),!0,rfl,hlt,ρ1,F4,G4,acc++[y],e4,e1.trans (xy.trans (x3.trans x4)),he4,r4,(Reps.ext (xy.trans (x3.trans x4)) ra).append (Reps.cons rv Reps.nil),z⟩
  |false=>
   rw[if_neg bP];exact ⟨items.length - (i+1),!0,rfl,hlt,ρ1,F3,G2,acc,e3,e1.trans (xy.trans x3),he3,r3,Reps.ext (xy.trans x3) ra,z⟩
 .have hi':i=items.length:=by omega
  subst hi';rw[gc]at hl;obtain ⟨hh,hz,hl⟩:=hl;refine .inl ⟨W.stop H' F' G' e1 r' hh,by rw[<-ra.length];exact cV hz,λp hp=>?_⟩;exact dw (du (λd G' z=>PV.later z (x1.trans e1)) hl) r' ra p hp
structure CompC(c:CT)(elt:Ex)(tg:Tg)(it:It')(cond:Tx)(N':AD)(cap:List (Option Nat))(elt' tg' iter:AO)(ifs:AE)(scope:Scope):Prop where
 it:cP c it tg' iter=true
 cap:gO c.N scope N' cap=true
 sc:fY c scope=true
 nd:eX N'=true
 tg:cO (c.comp N' scope) tg tg'=true
 cd:mJ (c.comp N' scope) cond ifs=true
 el:aj (c.comp N' scope) elt elt'=true
theorem ur(S:Stat Z CX k c E B X){scope:Scope}(h:fY c scope=true):scope.names.all (λy=>y.2 != NameKind.cell)=true/\scope.names.all (λy=>y.2 != NameKind.local||scope.names.lookup y.1==some NameKind.local)=true/\
  scope.names.all (λy=>y.2 != NameKind.free||(X.env.kindOf y.1==some NameKind.cell||X.env.kindOf y.1==some NameKind.free))=true/\scope.kind=.function:=by
 unfold fY at h;simp only[ae,bS]at h;obtain ⟨⟨⟨⟨h1,h2⟩,h3⟩,h4⟩,_⟩:=h;refine ⟨h1,h2,?_,h4⟩;rw[bg]at h3 ⊢;intro y hy;have:=h3 y hy;rw[cy,cy,av,av]at this;rw[cy,cy,av,av];rcases this with q |q
 .exact .inl q
 .exact .inr (S.cel y.1 q)
theorem HN{fz:Bool}{elt:Ex}{tg:Tg}{it:It'}{cond:Tx}{N:List AL}{cap:List (Option Nat)}{e:AO}(h:aj c (.comp fz elt tg it cond N cap) e=true):
  ∃elt' tg' iter ifs scope pos,e=.ListComp elt' [⟨tg',iter,ifs,0⟩] scope pos/\CompC c elt tg it cond (N.map Str.ofString) cap elt' tg' iter ifs scope:=by
 replace h:=Hk h;obtain ⟨_,_,_,_,_,_,_,rfl,h⟩:=h;simp only[ae,bS]at h;obtain ⟨⟨⟨⟨⟨⟨⟨h1,h2⟩,h3⟩,h4⟩,h5⟩,h6⟩,h7⟩,h8⟩:=h;subst h1;exact ⟨_,_,_,_,_,_,rfl,h2,h3,h4,h5,h6,h7,h8⟩
theorem yK{it:It'}{tg' iter:AO}(h:cP c it tg' iter=true)(env:Env)(x:AN):foldedSetIterable iter env x=pure x:=by
 cases it with
 |seq y=>exact yD (bH y (show aj c y iter=true from h)) env x
 |rng a=>obtain ⟨_,_,_,_,rfl,_⟩:=Hl h;rfl
 |enm a=>obtain ⟨_,_,_,_,_,_,_,_,rfl,_⟩:=Hm h;rfl
 |zip a b=>obtain ⟨_,_,_,_,_,_,_,_,_,rfl,_⟩:=Hn h;rfl
theorem HQ{a:Ex}{Q:VK}{k':AT}{G1:DH}{H1:Hp}{F1:FZ}{d:D}{v:V}(r1:R X.K H1 F1 G1)(rv:Rep X.K H1 F1 d v)(q:isE (view G1 d)/\∀p,G1 p=none->k' (.ref p) (aP G1 p (.dct [] [])))
  (h:∀d G' H2 F2 v,k' d G'->Ext H1 F1 H2 F2->R X.K H2 F2 G'->Rep X.K H2 F2 d v->Q v H2):∃p,v=.ref p/\SqL X.K H1 p []/\∀D,H1 D=none->Q (.ref D) (upd H1 D (.dT [])):=by
 obtain ⟨q1,q2⟩:=q;generalize hv:view G1 d=w at q1;cases w with
 |lst ds=>
  cases ds with
  |nil=>
   obtain ⟨p,vs,rfl,sq,t⟩:=Rep.list r1 rv hv;cases t;refine ⟨p,rfl,sq,λD hD=>?_⟩;have x:=cM (o:=.dT []) r1 hD;exact h _ _ _ _ _ (q2 D (r1.free hD)) x (r1.dctAt x (λf=>by obtain ⟨vs,z⟩:=(r1.fz D f).2;rw[hD]at z;cases z) rfl .nil) rfl
  |cons _ _=>exact q1.elim
 |_=>exact (show False from q1).elim
theorem Z6(S:Stat Z CX k c E B X){a:Ex}(iha:OkE Z c E B X a){e:AO}(h:aj c (.dc0 a) e=true):PE X e (tE X.K B (wpE Z (.dc0 a) E)):=by obtain ⟨kx,vx,x,px,iter,ifs,scope,pos,rfl,ha,hs,hx⟩:=yC h;obtain ⟨s1,s2,s3,s4⟩:=ur S hs;refine peI (Wz S.calm (iha ha) s1 s2 s3 s4 hx (yD (bH a ha) X.env)) λW H Q hq=>el hq λY F G e0 he r hw=>?_;rw[rT]at hw;exact aO e0 he r hw λd G1 H1 F1 v q e1 x1 he1 r1 rv=>HQ (a:=a) r1 rv q λd G' H2 F2 v z x2 r2 rv2=>z H2 F2 v (x1.trans x2) r2 rv2
theorem Z7(S:Stat Z CX k c E B X){fz:Bool}{elt:Ex}{tg:Tg}{it:It'}{cond:Tx}{N:List AL}{cap:List (Option Nat)}
  (ihe:∀{c':CT}{X':Cx},Stat Z CX k c' noE B X'->OkE Z c' noE B X' elt) (iht:∀{c':CT}{X':Cx},Stat Z CX k c' noE B X'->OkT Z c' noE B X' cond)
  (ihi:∀{tg' iter:AO},cP c it tg' iter=true->PI X tg' iter (tI X.K B (wpI Z it E))) {e:AO} (h:aj c (.comp fz elt tg it cond N cap) e=true):
  PE X e (tE X.K B (wpE Z (.comp fz elt tg it cond N cap) E)):=by
 obtain ⟨elt',tg',iter,ifs,scope,pos,rfl,C⟩:=HN h;obtain ⟨s1,s2,s3,s4⟩:=ur S C.sc;refine peI (V8 (lim:=true) (N.map Str.ofString) cap S.calm (ihi C.it) (uq S.N C.cap) s1 s2 s3 s4 (yK C.it X.env) (Ds _ _ _ _ _ _)) λW H Q hq=>el hq λY F G e0 he r hw=>?_;rw[xQ]at hw;exact HJ S C.nd (λS'=>ihe S') (λS'=>iht S') C.tg C.cd C.el e0 he r hw
theorem bK{x:Ex}(ih:OkE Z c E B X x)(hn:∀l os rs pos,aj c x (.Compare l os rs pos)=true->False){e:AO}(h:bu c (.val x) e=true):PT X e (tB' X.K B (wpT Z (.val x) E)):=by
 have h:((iQ e||mH e)&&aj c x e&&Gp x)=true:=h;simp only[ae,cy]at h;obtain ⟨⟨h1,h2⟩,h3⟩:=h;rcases h1 with h1 |h1
 .exact ZL ih h1 h2
 .obtain ⟨⟨t,ht⟩,_⟩:=cq.mp h1;rw[ht]at h2;exact (hn _ _ _ _ h2).elim
end
mutual
theorem aB{Z:aa}{CX:CXT}{k:Nat}{B:Bs}:∀(x:Ex){c:CT}{E:EK}{X:Cx},Stat Z CX k c E B X->OkE Z c E B X x
 |.var i,c,E,X,S=>λh=>Zd S h
 |.cst d,c,E,X,S=>λh=>Ze S h
 |.glb x d,c,E,X,S=>λh=>Zf S h
 |.bin op fz a b,c,E,X,S=>λh=>Zg S (aB a S) (aB b S) h
 |.neg a,c,E,X,S=>λh=>Zh S (aB a S) h
 |.cmp op a b,c,E,X,S=>λh=>(Hv S (aB a S) (aB b S) h).1
 |.chn op op' a b d,c,E,X,S=>λh=>(Hw S (aB a S) (aB b S) (aB d S) h).1
 |.not a,c,E,X,S=>λh=>Zi S (aB a S) h
 |.boo isAnd e es,c,E,X,S=>λh=>ZJ (aB e S) (eY es S) h
 |.ife t a b,c,E,X,S=>λh=>ZK (gf t S) (aB a S) (aB b S) h
 |.tup es,c,E,X,S=>λh=>Zj S (EachE.oks (eY es S)) h
 |.lst fz es,c,E,X,S=>λh=>Zk S (EachE.oks (eY es S)) h
 |.idx a i,c,E,X,S=>λh=>Zm S (aB a S) (aB i S) h
 |.slc fz a lo hi,c,E,X,S=>λh=>Zq S (aB a S) (HS lo S) (HS hi S) h
 |.call f es,c,E,X,S=>λh=>Zt S (EachE.oks (eY es S)) h
 |.bcl f es,c,E,X,S=>λh=>Zu S (EachE.oks (eY es S)) h
 |.lcl fz f es,c,E,X,S=>λh=>Zv S (EachE.oks (eY es S)) h
 |.isi a t,c,E,X,S=>λh=>Zz S (aB a S) h
 |.isx a C xs,c,E,X,S=>λh=>ZD S (aB a S) h
 |.rgl fz a,c,E,X,S=>λh=>Zw S (aB a S) h
 |.rgt a,c,E,X,S=>λh=>Zx S (aB a S) h
 |.mth m o es,c,E,X,S=>λh=>ZG S (aB o S) (EachE.oks (eY es S)) h
 |.comp fz elt tg it cond N cap,c,E,X,S=>λh=>Z7 S (λS'=>aB elt S') (λS'=>gf cond S') (yL it S) h
 |.frz a,c,E,X,S=>λh=>Zr S (aB a S) h
 |.dnw,c,E,X,S=>λh=>Zn S h
 |.dc0 a,c,E,X,S=>λh=>Z6 S (aB a S) h
 |.dp1 a b,c,E,X,S=>λh=>Zo S (aB a S) (aB b S) h
theorem eY{Z:aa}{CX:CXT}{k:Nat}{B:Bs}:∀(x:Exs){c:CT}{E:EK}{X:Cx},Stat Z CX k c E B X->EachE Z c E B X x
 |.nil,_,_,_,_=>trivial
 |.cons e es,c,E,X,S=>⟨aB e S,eY es S⟩
theorem gf{Z:aa}{CX:CXT}{k:Nat}{B:Bs}:∀(x:Tx){c:CT}{E:EK}{X:Cx},Stat Z CX k c E B X->OkT Z c E B X x
 |.not t,c,E,X,S=>λh=>ZM (gf t S) h
 |.boo isAnd t ts,c,E,X,S=>λh=>ZP (gf t S) (HR ts S) h
 |.yes,c,E,X,S=>λh=>nZf h
 |.val (.cmp op a b),c,E,X,S=>by
  intro h;have h:((iQ _||mH _)&&aj c (.cmp op a b) _&&true)=true:=h;simp only[ae]at h;exact (Hv S (aB a S) (aB b S) h.1.2).2
 |.val (.chn op op' a b d),c,E,X,S=>by
  intro h;have h:((iQ _||mH _)&&aj c (.chn op op' a b d) _&&true)=true:=h;simp only[ae]at h;exact (Hw S (aB a S) (aB b S) (aB d S) h.1.2).2
 |.val (.frz a),c,E,X,S=>by
  intro h;have h:((iQ _||mH _)&&aj c (.frz a) _&&false)=true:=h;rw[fh]at h;cases h
 |.val .dnw,c,E,X,S=>λh=>bK (aB .dnw S) (λ_ _ _ _ h=>nZf h) h
 |.val (.dc0 a),c,E,X,S=>λh=>bK (aB (.dc0 a) S) (λ_ _ _ _ h=>nZf h) h
 |.val (.dp1 a b),c,E,X,S=>λh=>bK (aB (.dp1 a b) S) (λ_ _ _ _ h=>nZf h) h
 |.val (.var i),c,E,X,S=>λh=>bK (aB (.var i) S) (λ_ _ _ _ h=>nZf h) h
 |.val (.cst d),c,E,X,S=>λh=>bK (aB (.cst d) S) (λ_ _ _ _ h=>nZf h) h
 |.val (.glb x d),c,E,X,S=>λh=>bK (aB (.glb x d) S) (λ_ _ _ _ h=>nZf h) h
 |.val (.bin op fz a b),c,E,X,S=>λh=>bK (aB (.bin op fz a b) S) (λ_ _ _ _ h=>nZf h) h
 |.val (.neg a),c,E,X,S=>λh=>bK (aB (.neg a) S) (λ_ _ _ _ h=>nZf h) h
 |.val (.not a),c,E,X,S=>λh=>bK (aB (.not a) S) (λ_ _ _ _ h=>nZf h) h
 |.val (.boo isAnd e es),c,E,X,S=>λh=>bK (aB (.boo isAnd e es) S) (λ_ _ _ _ h=>nZf h) h
 |.val (.ife t a b),c,E,X,S=>λh=>bK (aB (.ife t a b) S) (λ_ _ _ _ h=>nZf h) h
 |.val (.tup es),c,E,X,S=>λh=>bK (aB (.tup es) S) (λ_ _ _ _ h=>nZf h) h
 |.val (.lst fz es),c,E,X,S=>λh=>bK (aB (.lst fz es) S) (λ_ _ _ _ h=>nZf h) h
 |.val (.idx a i),c,E,X,S=>λh=>bK (aB (.idx a i) S) (λ_ _ _ _ h=>nZf h) h
 |.val (.slc fz a lo hi),c,E,X,S=>λh=>bK (aB (.slc fz a lo hi) S) (λ_ _ _ _ h=>nZf h) h
 |.val (.call f es),c,E,X,S=>λh=>bK (aB (.call f es) S) (λ_ _ _ _ h=>nZf h) h
 |.val (.bcl f es),c,E,X,S=>λh=>bK (aB (.bcl f es) S) (λ_ _ _ _ h=>nZf h) h
 |.val (.lcl fz f es),c,E,X,S=>λh=>bK (aB (.lcl fz f es) S) (λ_ _ _ _ h=>nZf h) h
 |.val (.isx a C xs),c,E,X,S=>λh=>bK (aB (.isx a C xs) S) (λ_ _ _ _ h=>nZf h) h
 |.val (.rgl fz a),c,E,X,S=>λh=>bK (aB (.rgl fz a) S) (λ_ _ _ _ h=>nZf h) h
 |.val (.rgt a),c,E,X,S=>λh=>bK (aB (.rgt a) S) (λ_ _ _ _ h=>nZf h) h
 |.val (.isi a t),c,E,X,S=>λh=>bK (aB (.isi a t) S) (λ_ _ _ _ h=>nZf h) h
 |.val (.mth m o es),c,E,X,S=>λh=>bK (aB (.mth m o es) S) (λ_ _ _ _ h=>nZf h) h
 |.val (.comp fz elt tg it cond N cap),c,E,X,S=>λh=>bK (aB (.comp fz elt tg it cond N cap) S) (λ_ _ _ _ h=>nZf h) h
theorem HR{Z:aa}{CX:CXT}{k:Nat}{B:Bs}:∀(x:Txs){c:CT}{E:EK}{X:Cx},Stat Z CX k c E B X->ud Z c E B X x
 |.nil,_,_,_,_=>trivial
 |.cons e es,c,E,X,S=>⟨gf e S,HR es S⟩
theorem HS{Z:aa}{CX:CXT}{k:Nat}{B:Bs}:∀(x:Ox){c:CT}{E:EK}{X:Cx},Stat Z CX k c E B X->∀y,x=.ob y->OkE Z c E B X y
 |.no,c,E,X,S,y,e=>by cases e
 |.ob z,c,E,X,S,y,e=>by injection e with e;subst e;exact aB z S
theorem yL{Z:aa}{CX:CXT}{k:Nat}{B:Bs}:∀(x:It'){c:CT}{E:EK}{X:Cx},Stat Z CX k c E B X->∀{tg e:AO},cP c x tg e=true->PI X tg e (tI X.K B (wpI Z x E))
 |.seq y,c,E,X,S,tg,e,h=>Z1 (aB y S) (show aj c y e=true from h)
 |.rng a,c,E,X,S,tg,e,h=>Z2 S (aB a S) h
 |.enm a,c,E,X,S,tg,e,h=>Z3 S (aB a S) h
 |.zip a b,c,E,X,S,tg,e,h=>Z4 S (aB a S) (aB b S) h
end
def EnD(K:PF)(H:Hp)(F:FZ)(D:Ends):En where
 nx:=λY G'=>∀H' F' σ',Ext H F H' F'->EnvR K H' F' Y σ'->R K H' F' G'->D.nx σ' H'
 rt:=PV K H F D.rt
 bk:=λY G'=>∀H' F' σ',Ext H F H' F'->EnvR K H' F' Y σ'->R K H' F' G'->D.bk σ' H'
 ct:=λY G'=>∀H' F' σ',Ext H F H' F'->EnvR K H' F' Y σ'->R K H' F' G'->D.ct σ' H'
def EnD.later{K:PF}{H H1:Hp}{F F1:FZ}{D:Ends}(x:Ext H F H1 F1):(EnD K H F D).Le (EnD K H1 F1 D):=
 ⟨λ_ _ h H' F' σ' x1=>h H' F' σ' (x.trans x1),λ_ _ h=>PV.later h x,λ_ _ h H' F' σ' x1=>h H' F' σ' (x.trans x1),λ_ _ h H' F' σ' x1=>h H' F' σ' (x.trans x1)⟩
def tS(K:PF)(B:Bs)(w:ak->DH->En->Prop):TS:=λD X H=>∃Y F G,Ext B.H B.F H F/\EnvR K H F Y X/\R K H F G/\w Y G (EnD K H F D)
def psI{X:Cx}{st:Stmt}{t t':TS}(h:PS X st t)(i:∀D Y H,t' D Y H->t D Y H):PS X st t':=λp9 s Y H D I q=>h p9 s Y H D I (i D Y H q)
def HW{X:Cx}{st:AF}{t t':TS}(h:PSs X st t)(i:∀D Y H,t' D Y H->t D Y H):PSs X st t':=λp9 s Y H D I q=>h p9 s Y H D I (i D Y H q)
def yM{e:AO}(h:dz e=false)(t:Option AO)(n:Nat)(env:Env):swapsWith e t n env=pure false:=by cases e <;> first |rfl |exact nomatch (show true=false from h)
def HX{e:AO}(h:dz e=false)(t:AO)(n:Nat)(env:Env):swapsWithSole [t] e n env=pure false:=yM h _ _ _
section
variable {Z:aa} {CX:CXT} {k:Nat} {c:CT} {E:EK} {B:Bs} {X:Cx}
abbrev OkS(Z:aa)(c:CT)(E:EK)(B:Bs)(X:Cx)(x:Sx):Prop:=∀{st:Stmt},bA c x st=true->PS X st (tS X.K B (wpS Z x E))
abbrev jY(Z:aa)(c:CT)(E:EK)(B:Bs)(X:Cx)(x:Sxs):Prop:=∀{st:AF},aC c x st=true->PSs X st (tS X.K B (au Z x E))
theorem Z8(S:Stat Z CX k c E B X){x:Ex}{st:Stmt}(h:bA c (.exp x) st=true):PS X st (tS X.K B (wpS Z (.exp x) E)):=by
 replace h:=YH h;obtain ⟨_,_,rfl,h⟩:=h
 .rw[ae]at h;refine psI (Q3 (aB x S h.2) (yM (!!h.1) _ _ _)) λD W H hq=>el hq λY F G e0 he r hw=>?_;rw[xj]at hw;exact aO e0 he r hw λd G1 H1 F1 v q e1 x1 he1 r1 rv=>q _ _ _ x1 he1 r1
theorem Z9(S:Stat Z CX k c E B X){i:Nat}{x:Ex}{st:Stmt}(h:bA c (.asg (.nm i) x) st=true):PS X st (tS X.K B (wpS Z (.asg (.nm i) x) E)):=by
 replace h:=Ho h;obtain ⟨tg,e,pos,rfl,h⟩:=h
 .simp only[ae]at h;obtain ⟨⟨h1,h2⟩,h3⟩:=h;have h3:(!dz e||Gq x)=true:=h3;replace h1:=yx h1;obtain ⟨y,py,rfl,h1⟩:=h1
  .rw[ae,av]at h1;obtain ⟨l,f⟩:=S.sto y h1.2;have hi:X.N[i]?=some y:=by rw[S.N];exact h1.1
   have go:∀(D:Ends)(W:L2.St)(H:Hp),tS X.K B (wpS Z (.asg (.nm i) x) E) D W H->lE (tE X.K B (wpE Z x E)) (lC i) D W H:=λD W H hq=>el hq λY F G e0 he r hw=>by
    rw[jO]at hw;refine aO e0 he r hw λd G1 H1 F1 v q e1 x1 he1 r1 rv=>?_;unfold bc at q;exact q _ _ _ x1 (he1.set rv i) r1
   cases hc:dz e with
   |false=>exact psI (lF S.nd hi l (aB x S h2) (yM hc _ _ _) f) go
   |true=>
    rw[hc,ft,Bool.false_or]at h3;cases x with
    |comp fz elt tg it cond N cap=>
     obtain ⟨elt',tg',iter,ifs,scope,pos',rfl,C⟩:=HN h2;obtain ⟨s1,s2,s3,s4⟩:=ur S C.sc;have hb:∃b:Bool,swapsWith (.ListComp elt' [⟨tg',iter,ifs,0⟩] scope pos') (some (.Name y py)) pos.line X.env=pure b:=⟨_,rfl⟩;obtain ⟨b,hb⟩:=hb;cases b with
     |false=>exact psI (lF S.nd hi l (aB _ S h2) hb f) go
     |true=>
      refine psI (V9 (lim:=true) (Ds _ _ _ _ _ _) S.nd hi l (N.map Str.ofString) cap S.calm (yL it S C.it) (uq S.N C.cap) s1 s2 s3 s4 (yK C.it X.env) hb f) λD W H hq=>el hq λY F G e0 he r hw=>?_;rw[jO]at hw;rw[xQ]at hw;refine HJ (fz:=fz) (Q:=λv H1=>D.nx (W.set i (some v)) H1) S C.nd (λS'=>aB elt S') (λS'=>gf cond S') C.tg C.cd C.el e0 he r (mj it (λitems g G1 q=>?_) hw);refine su (λd ρ' G' k1 k2 hk z=>fX (λρ1 z=>cU cond (λb G2 z=>by
       cases b with
       |true=>exact aK elt (λy G3 z=>hk _ _ _ z) z
       |false=>exact hk _ _ _ z) z) tg z) ?_ _ _ _ _ q
      .intro ds G2 q;refine du (λd G3 q=>?_) q;intro H1 F1 v x1 r1 rv;unfold bc at q;exact q _ _ _ x1 ((he.ext x1).set rv i) r1
    |dc0 a=>
     obtain ⟨kx,vx,x',px,iter,ifs,scope,pos',rfl,ha,hs,hx⟩:=yC h2;obtain ⟨s1,s2,s3,s4⟩:=ur S hs;have hb:∃b:Bool,swapsWith (.DictComp kx vx [⟨.Name x' px,iter,ifs,0⟩] scope pos') (some (.Name y py)) pos.line X.env=pure b:=⟨_,rfl⟩;obtain ⟨b,hb⟩:=hb;cases b with
     |false=>exact psI (lF S.nd hi l (aB _ S h2) hb f) go
     |true=>
      refine psI (WD S.nd hi l S.calm (aB a S ha) s1 s2 s3 s4 hx (yD (bH a ha) X.env) hb f) λD W H hq=>el hq λY F G e0 he r hw=>?_;rw[jO]at hw;rw[rT]at hw;refine aO e0 he r hw λd G1 H1 F1 v q e1 x1 he1 r1 rv=>HQ (a:=a) (k':=λd G'=>bc (.nm i) d Y G' λρ'=>(EnD X.K H F D).nx ρ' G') (Q:=λv H1=>D.nx (W.set i (some v)) H1) r1 rv q λd G' H2 F2 v z x2 r2 rv2=>?_;unfold bc at z;exact z _ _ _ (x1.trans x2) ((he1.ext x2).set rv2 i) r2
    |_=>cases h3
theorem aaa(S:Stat Z CX k c E B X){ts:Tgs}{x:Ex}{st:Stmt}(h:bA c (.asg (.tp ts) x) st=true):PS X st (tS X.K B (wpS Z (.asg (.tp ts) x) E)):=by
 replace h:=Ho h;obtain ⟨tg,e,pos,rfl,h⟩:=h
 .rw[ae,ae]at h;have h34:(!Gs e&&!dz e)=true:=h.2;obtain ⟨h1,h2⟩:=h.1;rw[ae,fx,fx]at h34;obtain ⟨h3,h4⟩:=h34;have hg:=ug S (.tp ts) h1;replace h1:=yz h1;obtain ⟨_,_,_,rfl,h1⟩:=h1
  .refine psI (Be (aB x S h2) hg (HX h4 _ _ _) ?_ rfl) λD W H hq=>el hq λY F G e0 he r hw=>?_
   .cases e <;> first |rfl |exact nomatch (show true=false from h3)
   .rw[jO]at hw;refine aO e0 he r hw λd G1 H1 F1 v q e1 x1 he1 r1 rv=>?_;exact ⟨Y,F1,G1,d,e1,he1,r1,rv,fX (λρ' z σ' hσ=>z H1 F1 σ' x1 hσ r1) (.tp ts) q⟩
theorem aab(S:Stat Z CX k c E B X){o i x:Ex}{st:Stmt}(h:bA c (.set o i x) st=true):PS X st (tS X.K B (wpS Z (.set o i x) E)):=by
 replace h:=YJ h;obtain ⟨o',i',tpos,e,pos,rfl,h⟩:=h
 .simp only[ae,fx]at h;obtain ⟨⟨⟨h1,h2⟩,h3⟩,h4⟩:=h;have hi:=bH i h2;refine psI (Be (aB x S h3) (Rm (aB o S h1) (aB i S h2) (Yh (gb S)) ?_) (HX h4 _ _ _) ?_ rfl) λD W H hq=>el hq λY F G e0 he r hw=>?_
  .intro v;cases i' <;> first |rfl |exact nomatch (show false=true from hi)
  .cases e <;> rfl
  .rw[xm]at hw;refine aO e0 he r hw λd G1 H1 F1 v q e1 x1 he1 r1 rv=>?_;refine aO e1 he1 r1 q λa G2 H2 F2 w q e2 x2 he2 r2 rw'=>?_;refine aO e2 he2 r2 q λy G3 H3 F3 u q e3 x3 he3 r3 ru=>?_;refine ⟨F3,G3,a,y,d,r3,rw'.ext x3,ru,rv.ext (x2.trans x3),Ep (λG4 q=>?_) q⟩;intro H4 F4 x4 r4;exact q _ _ _ (x1.trans (x2.trans (x3.trans x4))) (he3.ext x4) r4
theorem aac(S:Stat Z CX k c E B X){i:Nat}{op:Operator}{x:Ex}{st:Stmt}(h:bA c (.aug i op x) st=true):PS X st (tS X.K B (wpS Z (.aug i op x) E)):=by
 replace h:=YK h;obtain ⟨y,py,o,e,pos,rfl,h⟩:=h
 .simp only[ae,av]at h;obtain ⟨⟨⟨⟨rfl,h1⟩,h2⟩,h3⟩,h4⟩:=h;obtain ⟨l,f⟩:=S.sto y h2;refine psI (Ro S.nd (by rw[S.N];exact h1) l (aB x S h4) (Yi o) f) λD W H hq=>el hq λY F G e0 he r hw=>?_;rw[xq]at hw;split at hw
  .rename_i a ha;obtain ⟨v,e1,rv⟩:=he.get ha;refine ⟨v,e1,aO e0 he r hw λb G1 H1 F1 u q e1 x1 he1 r1 ru=>?_⟩;refine ⟨F1,G1,a,b,r1,rv.ext x1,ru,Er (λd q=>?_) q⟩;intro H2 F2 w x2 r2 rw';exact q _ _ _ (x1.trans x2) ((he1.ext x2).set rw' i) r2
  .exact hw.elim
theorem aad(S:Stat Z CX k c E B X){x:Ex}{st:Stmt}(h:bA c (.ret x) st=true):PS X st (tS X.K B (wpS Z (.ret x) E)):=by
 replace h:=YX h;obtain ⟨_,_,rfl,h⟩:=h
 .refine psI (Q4 (aB x S h)) λD W H hq=>el hq λY F G e0 he r hw=>?_;rw[xr]at hw;exact ⟨Y,F,G,e0,he,r,hw⟩
theorem aae{st:Stmt}(h:bA c .rtn st=true):PS X st (tS X.K B (wpS Z .rtn E)):=by
 replace h:=YZ h;obtain ⟨_,rfl,h⟩:=h
 .refine psI Q6 λD W H hq=>el hq λY F G e0 he r hw=>?_;rw[xu]at hw;exact hw.now r rfl
theorem aaf(S:Stat Z CX k c E B X){t:Tx}{a b:Sxs}(iha:jY Z c E B X a)(ihb:jY Z c E B X b){st:Stmt}(h:bA c (.ite t a b) st=true):PS X st (tS X.K B (wpS Z (.ite t a b) E)):=by
 replace h:=Y0 h;obtain ⟨_,_,_,_,rfl,h⟩:=h
 .simp only[ae]at h;obtain ⟨⟨h1,h2⟩,h3⟩:=h;refine psI (Q8 (gf t S h1) (iha h2) (ihb h3)) λD W H hq=>el hq λY F G e0 he r hw=>?_;rw[xF]at hw;refine gR e0 he r hw λb' G1 H1 F1 q e1 x1 he1 r1=>?_;cases b' with
  |true=>
   rw[if_pos rfl];exact ⟨Y,F1,G1,e1,he1,r1,c7 a (EnD.later x1) q⟩
  |false=>
   rw[if_neg bP];exact ⟨Y,F1,G1,e1,he1,r1,c7 b (EnD.later x1) q⟩
theorem aag(S:Stat Z CX k c E B X){t:Tg}{it:It'}{b:Sxs}(ihb:jY Z c E B X b){st:Stmt}(h:bA c (.for_ t it b) st=true):PS X st (tS X.K B (wpS Z (.for_ t it b) E)):=by
 replace h:=Y4 h;obtain ⟨tg,iter,body,pos,rfl,h⟩:=h
 .simp only[ae]at h;obtain ⟨⟨h1,h2⟩,h3⟩:=h;refine psI (Ry S.own S.calm (yL it S h2) (ug S t h1) (ihb h3) (yK h2 X.env)) λD V H hq=>el hq λY F G e0 he r hw=>?_;rw[Ef]at hw;refine ⟨Y,F,G,e0,he,r,mj it (λitems g G1 q H1 F1 J x1 r1 W=>?_) hw⟩;let step:RF.D->ak->DH->(ak->DH->Prop)->Prop:=λd ρ' G' k=>bc t d ρ' G' λρ1=>au Z b E ρ1 G' { EnD X.K H F D with nx:=k,ct:=k,bk:=(EnD X.K H F D).nx }
  let P:Nat->L2.St->Hp->Prop:=λi σ' H'=>∃ρ' F' G',Ext B.H B.F H' F'/\Ext H1 F1 H' F'/\EnvR X.K H' F' ρ' σ'/\R X.K H' F' G'/\forLoop step g (items.drop i) ρ' G' (EnD X.K H F D).nx
  refine ⟨λi m σ' H'=>m=items.length - i/\i<=items.length/\P i σ' H',⟨items.length,by simp,dE _,Y,F1,G1,e0.trans x1,Ext.refl _ _,he.ext x1,r1,q⟩,?_⟩;rintro i m σ' H' ⟨rfl,hle,ρ',F',G',eB,e1,he',r',hl⟩;by_cases hlt:i < items.length
  .have hd:items.drop i=items[i]::items.drop (i+1):=b6 hlt;rw[hd]at hl;obtain ⟨hh,hl⟩:=hl;refine .inr ⟨W.go H' F' G' i e1 r' hh hlt,P (i+1),λσ2 H2 p=>⟨items.length - (i+1),!0,rfl,hlt,p⟩,λx H2 hy=>?_⟩;obtain ⟨xy,ry,rx⟩:=W.yld H' F' i x H2 items[i] G' e1 r' hh (by simp[hlt]) hy;refine ⟨ρ',F',G',items[i],eB.trans xy,he'.ext xy,ry,rx,fX (λρ1 z σ1 hσ1=>?_) t hl⟩;refine ⟨ρ1,F',G',eB.trans xy,hσ1,ry,c7 b (D:={ EnD X.K H F D with nx:=λρ' G'=>forLoop step g (items.drop (i+1)) ρ' G' (EnD X.K H F D).nx,ct:=λρ' G'=>forLoop step g (items.drop (i+1)) ρ' G' (EnD X.K H F D).nx,bk:=(EnD X.K H F D).nx }) ⟨λρ2 G2 z H3 F3 σ3 x3 he3 r3=>?_,λd G2 z=>PV.later z (x1.trans (e1.trans xy)),λρ2 G2 z H3 F3 σ3 x3=>z H3 F3 σ3 (x1.trans (e1.trans (xy.trans x3))),λρ2 G2 z H3 F3 σ3 x3 he3 r3=>?_⟩ z⟩
   .exact ⟨ρ2,F3,G2,eB.trans (xy.trans x3),e1.trans (xy.trans x3),he3,r3,z⟩
   .exact ⟨ρ2,F3,G2,eB.trans (xy.trans x3),e1.trans (xy.trans x3),he3,r3,z⟩
  .have hi':i=items.length:=by omega
   subst hi';rw[gc]at hl;exact .inl ⟨W.stop H' F' G' e1 r' hl.1,hl.2 _ _ _ (x1.trans e1) he' r'⟩
theorem aah(S:Stat Z CX k c E B X){t:Tx}{b:Sxs}(ihb:jY Z c E B X b){st:Stmt}(h:bA c (.whl t b) st=true):PS X st (tS X.K B (wpS Z (.whl t b) E)):=by
 replace h:=Y5 h;obtain ⟨_,_,_,rfl,h⟩:=h
 .simp only[ae]at h;obtain ⟨h1,h2⟩:=h;refine psI (Rq S.own (gf t S h1) (ihb h2)) λD W H hq=>el hq λY F G e0 he r hw=>?_;rw[Eg]at hw;obtain ⟨n,hw⟩:=hw;let test:ak->DH->(Bool->DH->Prop)->Prop:=λρ' G' k=>wpT Z t E ρ' G' k
  let bd:ak->DH->(ak->DH->Prop)->Prop:=λρ' G' k=>au Z b E ρ' G' { EnD X.K H F D with nx:=k,ct:=k,bk:=(EnD X.K H F D).nx }
  let P:Nat->L2.St->Hp->Prop:=λm σ' H'=>∃ρ' F' G',Ext B.H B.F H' F'/\Ext H F H' F'/\EnvR X.K H' F' ρ' σ'/\R X.K H' F' G'/\whileLoop test bd m ρ' G' (EnD X.K H F D).nx
  refine ⟨P,⟨n,Y,F,G,e0,Ext.refl _ _,he,r,hw⟩,?_⟩;rintro m σ' H' ⟨ρ',F',G',eB,e1,he',r',hl⟩;cases m with
  |zero=>exact hl.elim
  |succ m=>
   refine gR eB he' r' hl λb' G1 H1 F1 q e2 x2 he2 r2=>?_;cases b' with
   |true=>
    rw[if_pos rfl];refine ⟨P m,λσ2 H2 p=>⟨m,Nat.lt_succ_self _,p⟩,ρ',F1,G1,e2,he2,r2,c7 b (D:={ EnD X.K H F D with nx:=λρ' G'=>whileLoop test bd m ρ' G' (EnD X.K H F D).nx,ct:=λρ' G'=>whileLoop test bd m ρ' G' (EnD X.K H F D).nx,bk:=(EnD X.K H F D).nx }) ⟨λρ2 G2 z H3 F3 σ3 x3 he3 r3=>?_,λd G2 z=>PV.later z (e1.trans x2),λρ2 G2 z H3 F3 σ3 x3=>z H3 F3 σ3 (e1.trans (x2.trans x3)),λρ2 G2 z H3 F3 σ3 x3 he3 r3=>?_⟩ q⟩
    .exact ⟨ρ2,F3,G2,e2.trans x3,e1.trans (x2.trans x3),he3,r3,z⟩
    .exact ⟨ρ2,F3,G2,e2.trans x3,e1.trans (x2.trans x3),he3,r3,z⟩
   |false=>
    rw[if_neg bP];exact q _ _ _ (e1.trans x2) he2 r2
def tJ(K:PF)(B:Bs)(w:ak->DH->(DH->Prop)->Prop):TJ:=λX H Q=>∃Y F G,Ext B.H B.F H F/\EnvR K H F Y X/\R K H F G/\w Y G λG'=>∀H' F',Ext H F H' F'->R K H' F' G'->Q H'
theorem pjI{X:Cx}{ps:AE}{t t':TJ}{n:Nat}(h:PJ X ps t n)(i:∀Y H Q,t' Y H Q->t Y H Q):PJ X ps t' n:=λp9 s Y H Q out I hl q=>h p9 s Y H Q out I hl (i Y H Q q)
theorem yN{E:EK}{Y:ak}:∀(es:Exs){G:DH}{k k':DH->Prop},(∀G',k G'->k' G')->wpM Z es E Y G k->wpM Z es E Y G k'
 |.nil,G,k,k',h,q=>h G q
 |.cons e es,G,k,k',h,q=>by
  rw[xK]at q ⊢;exact aK e (λd G1 q=>⟨q.1,yN es h q.2⟩) q
theorem HY{p:AO}(h:yt p=true):∃y k pos,p=.Constant (.str y) k pos/\y.length<=1000:=by obtain ⟨t,ht,h⟩:=aJ h;obtain ⟨x,hx,h⟩:=aJ h;exact ⟨x,_,_,by rw[ht,hx],dQ h⟩
theorem yO(S:Stat Z CX k c E B X):∀(ps:AE){es:Exs},mK c es ps=true->∃n,n<=1000 * ps.length/\PJ X ps (tJ X.K B (wpM Z es E)) n
 |[],es,h=>by
  cases es with
  |nil=>exact ⟨0,dE _,pjI U4 λW H Q hq=>el hq λY F G e0 he r hw=>hw H F (Ext.refl _ _) r⟩
  |cons _ _=>exact nZf h
 |p::ps,es,h=>by
  unfold mK at h;split at h
  .rename_i hm;obtain ⟨y,kk,pos,rfl,hy⟩:=HY hm;obtain ⟨n,hn,hp⟩:=yO S ps h;exact ⟨y.length+n,by rw[c6];omega,U5 hp⟩
  .split at h
   .rename_i x rr;rw[ae]at h;obtain ⟨t,ht,h1⟩:=aJ h.1;rw[ae,ae,ef,bS]at h1;obtain ⟨n,hn,hp⟩:=yO S ps h.2;refine ⟨3+n,by rw[c6];omega,?_⟩;rw[ht,h1.1.1,h1.1.2];refine pjI (U6 (aB x S h1.2) hp) λW H Q hq=>el hq λY F G e0 he r hw=>?_;rw[xK]at hw;refine aO e0 he r hw λd G1 H1 F1 v q e1 x1 he1 r1 rv=>?_;obtain ⟨q1,q2⟩:=q;unfold v9 at q1;split at q1
    .rename_i i;rw[ae,bS,bS]at q1;have e2:v=.int i:=rv;refine ⟨⟨i.toNat,by rw[e2];congr 1;omega,!0⟩,Y,F1,G1,e1,he1,r1,yN rr (λG' z H' F' x' r'=>z H' F' (x1.trans x') r') q2⟩
    .cases q1
   .cases h
theorem aai(S:Stat Z CX k c E B X){C:AL}{es:Exs}{st:Stmt}(h:bA c (.rse C es) st=true):PS X st (tS X.K B (wpS Z (.rse C es) E)):=by
 replace h:=YL h;obtain ⟨x,np,m,cpos,pos,rfl,h⟩:=h;simp only[ae,av]at h;obtain ⟨⟨⟨e1,h1⟩,h2⟩,h3⟩:=h;subst e1;obtain ⟨g1,g2⟩:=bY h1;obtain ⟨a,hm,hb,hn⟩:=S.xcl C h2;obtain ⟨EX,_,hth,hEX⟩:=S.exc;unfold tX at h3;rw[cy]at h3;rcases h3 with h3 |h3
 .cases es with
  |cons _ _=>cases h3
  |nil=>
   obtain ⟨y,kk,p,rfl,hy⟩:=HY h3;refine psI (Df S.calm (S.glo _ g1) hm hb hth (dJ Az eU rfl) (bF g2) rfl rfl) λD W H hq=>el hq λY F G e0 he r hw=>?_;rw[rW,Ec]at hw;exact ⟨show 1<=sizeLine by decide,hEX ⟨C,.non⟩ G H F hw e0 r (.ref a) none ⟨a,rfl,hn,trivial⟩⟩
 .obtain ⟨t,ht,h3⟩:=aJ h3;rw[ae,ae,bS,bS]at h3;obtain ⟨n,hn',hp⟩:=yO S t.1 h3.2;rcases hps:t.1 with _ |⟨v1,_ |⟨v2,r⟩⟩
  .rw[hps]at h3;simp at h3
  .rw[hps]at h3;simp at h3
  .rw[hps]at hp;subst ht;rw[hps]at *;refine psI (Df S.calm (S.glo _ g1) hm hb hth (dJ (U7 hp (!0)) eU rfl) (bF g2) rfl rfl) λD W H hq=>el hq λY F G e0 he r hw=>?_;rw[rW]at hw;refine ⟨Y,F,G,e0,he,r,yN es (λG1 q H1 F1 x1 r1 y=>⟨show 1<=sizeLine by decide,?_⟩) hw⟩;exact hEX ⟨C,.non⟩ G1 H1 F1 q (e0.trans x1) r1 (.ref a) none ⟨a,rfl,hn,trivial⟩
theorem Stat.wish(S:Stat Z CX k c E B X)(E':AG)(ho:PassesOwn (model X.prog X.w) X.A X.env E'):Stat Z CX k c noE B (X.wish E'):=
 ⟨S.N,S.nd,S.calm,ho,S.kd,S.vis,S.cel,S.glo,S.sto,S.room,S.call,S.blt,S.con,⟨_,S.nox _,λ_ _ _ _ _ _ _ _ _ _ q=>q.elim,λx G' H' F' h=>h.elim⟩,S.nox,S.xcl,S.loc,S.xis,S.mth,S.mko,S.fld,S.xko,S.trc⟩
def PNx(K:PF)(H:Hp)(F:FZ)(nx:L2.St->Hp->Prop):ak->DH->Prop:=λρ' G'=>∀H' F' σ',Ext H F H' F'->EnvR K H' F' ρ' σ'->R K H' F' G'->nx σ' H'
def PEx(K:PF)(H:Hp)(F:FZ)(ex:AN->L2.St->Hp->Prop):Xn->ak->DH->Prop:=λx ρ' G'=>∀H' F' σ' cv od,Ext H F H' F'->EnvR K H' F' ρ' σ'->R K H' F' G'->XV K H' F' x cv od->ex cv σ' H'
def tXX(K:PF)(B:Bs)(w:ak->DH->(ak->DH->Prop)->(Xn->ak->DH->Prop)->Prop):TX:=λnx ex X H=>∃Y F G,Ext B.H B.F H F/\EnvR K H F Y X/\R K H F G/\w Y G (PNx K H F nx) (PEx K H F ex)
theorem pxI{X:Cx}{sts:AF}{t t':TX}(h:PXs X sts t)(i:∀nx ex Y H,t' nx ex Y H->t nx ex Y H):PXs X sts t':=λp9 s Y H nx ex E' I ho hE q=>h p9 s Y H nx ex E' I ho hE (i nx ex Y H q)
theorem aaj{B:Bs}{c:CT}{E:EK}{X:Cx}(S:Stat Z (CX1 X.prog X.w) k c E B X){f g:AL}{i:Nat}{es:Exs}{sts:AF}(h:dh c (.pick f g i es) sts=true):PXs X sts (tXX X.K B (wpX Z (.pick f g i es))):=nZf h
theorem ut{B:Bs}{c:CT}{E:EK}{X:Cx}(S:Stat Z (CX1 X.prog X.w) k c E B X):∀(b:Tb){sts:AF},dh c b sts=true->PXs X sts (tXX X.K B (wpX Z b))
 |.call f es,sts,h=>by
  obtain ⟨x,p,args,cpos,p0,rfl,h1⟩:=YS h;simp only[ae,av,gT]at h1;obtain ⟨⟨⟨⟨e1,h1⟩,⟨f',n⟩,hm,e2,e3⟩,h4⟩,h5⟩:=h1;simp only at e2 e3;subst e1 e2 e3;obtain ⟨g1,g2⟩:=bY h1;obtain ⟨fa,fd,ps,F0,hk,hb,hmg⟩:=S.call _ _ hm;cases args with
  |nil=>cases h4
  |cons e0 es0=>
   obtain ⟨x0,xs',rfl,c1,c2⟩:=iT h5;refine pxI (Vi (ta:=tL X.K B (aU Z (.cons x0 xs') noE)) F0 S.room (S.glo _ g1) hmg hk hb (λE' ho=>EachE.oks (eY (.cons x0 xs') (S.wish E' ho)) h5) rfl (bF g2) (bO e0 es0 X.env (cC (bH x0 c1))) (jW c2 X.env cpos)) λnx ex W H hq=>el hq λY F G eB he r hw=>?_;rw[xM]at hw;refine cQ eB he r (uc _ h5 hw) λds G1 H1 F1 vs q e1 x1 he1 r1 rvs=>?_;exact ⟨by rw[<-rvs.length];exact q.1,F1,G1,ds,r1,rvs,Spec.mono q.2 (λd G2 z H2 F2 v x2 r2 _=>z H2 F2 W (x1.trans x2) (he1.ext x2) r2) λxn G2 z H2 F2 x2 r2 cv od hv=>z H2 F2 W cv od (x1.trans x2) (he1.ext x2) r2 hv⟩
 |.pick f g i es,sts,h=>aaj S h
 |.asg i f es,sts,h=>by
  obtain ⟨y,p2,x,p,args,cpos,p0,rfl,h0,h1⟩:=YT h;simp only[ae,av,gT]at h0 h1;obtain ⟨⟨hi,hs⟩,hok⟩:=h0;obtain ⟨⟨⟨⟨e1,h1⟩,⟨f',n⟩,hm,e2,e3⟩,h4⟩,h5⟩:=h1;simp only at e2 e3;subst e1 e2 e3;obtain ⟨g1,g2⟩:=bY h1;obtain ⟨fa,fd,ps,F0,hk,hb,hmg⟩:=S.call _ _ hm;obtain ⟨hloc,hfn⟩:=S.sto _ hs;cases args with
  |nil=>cases h4
  |cons e0 es0=>
   obtain ⟨x0,xs',rfl,c1,c2⟩:=iT h5;refine pxI (Vj (i:=i) (ta:=tL X.K B (aU Z (.cons x0 xs') noE)) F0 S.room (S.glo _ g1) hmg hk hb S.nd (by rw[S.N];exact hi) hloc hfn (λE' ho=>EachE.oks (eY (.cons x0 xs') (S.wish E' ho)) h5) rfl (bF g2) (bO e0 es0 X.env (cC (bH x0 c1))) (jW c2 X.env cpos)) λnx ex W H hq=>el hq λY F G eB he r hw=>?_;rw[xN]at hw;refine cQ eB he r (uc _ h5 hw) λds G1 H1 F1 vs q e1 x1 he1 r1 rvs=>?_;exact ⟨by rw[<-rvs.length];exact q.1,F1,G1,ds,r1,rvs,Spec.mono q.2 (λd G2 z H2 F2 v x2 r2 rv=>z H2 F2 _ (x1.trans x2) (EnvR.set rv i (he1.ext x2)) r2) λxn G2 z H2 F2 x2 r2 cv od hv=>z H2 F2 W cv od (x1.trans x2) (he1.ext x2) r2 hv⟩
 |.ite t a b,sts,h=>by
  obtain ⟨e,xa,xb,pos,rfl,h1,h2,h3⟩:=YW h;refine pxI (Vk (tc:=tB' X.K B (wpT Z t noE)) (λE' ho=>gf t (S.wish E' ho) h1) (ut S a h2) (ut S b h3)) λnx ex W H hq=>el hq λY F G eB he r hw=>?_;rw[xO]at hw;refine gR eB he r hw λd G1 H1 F1 q e1 x1 he1 r1=>?_;have later:∀(z:Tb),wpX Z z Y G1 (PNx X.K H F nx) (PEx X.K H F ex)->tXX X.K B (wpX Z z) nx ex W H1:=λz q=>⟨Y,F1,G1,e1,he1,r1,jP z (λ_ _ w H2 F2 σ2 x2=>w H2 F2 σ2 (x1.trans x2)) (λ_ _ _ w H2 F2 σ2 cv od x2=>w H2 F2 σ2 cv od (x1.trans x2)) q⟩;cases d with
  |true=>exact later a q
  |false=>exact later b q
theorem aak(S:Stat Z CX k c E B X){b:Tb}{C:AL}{hd:Hd}{xs:List AL}{st:Stmt}(h:bA c (.tryx b C hd xs) st=true):PS X st (tS X.K B (wpS Z (.tryx b C hd xs) E)):=by
 obtain ⟨body,cx,p1,nm,y,p2,e,p4,p5,pos,rfl,h1,h2,h3,h4,h5⟩:=YQ h;simp only[ae,av]at h4;obtain ⟨⟨ec,hc⟩,hcx⟩:=h4;subst ec;obtain ⟨g3,g4⟩:=bY hc;have hne:c.xs≠[]:=λe=>by rw[e]at hcx;cases hcx
 obtain ⟨ecx,hst,hex⟩:=S.trc hne;subst ecx;obtain ⟨cv,hcv,hall⟩:=S.xis C hcx;have hcat:∃a,cv=.ref a/\X.mg (⇑C)=some (.ref a)/\Cat X.K a:=by
  rcases hcv with ⟨a,e,hm,hb⟩ |⟨e,_,_⟩
  .exact ⟨a,e,hm,Dk hb⟩
  .rw[e]at h3;cases h3
 obtain ⟨a,rfl,ham,hca⟩:=hcat;unfold tY at h5;rw[ae,ae]at h5;obtain ⟨⟨h5,hsy⟩,hoy⟩:=h5;obtain ⟨hloc,hfn⟩:=S.sto _ hsy;have cls:∀{x:Xn}{H':Hp}{F':FZ}{cv:AN}{od:Option AQ},xs.contains x.cls=true->cj x.cls C=true->XV X.K H' F' x cv od->∃d,cv=.ref d/\PySem.W.mroIn X.K d (.ref a)=some true/\PySem.W.nsIn X.K mainGlobals (⇑x.cls)=some (some (.ref d)):=by
  intro x H' F' cv od hx hs hv;obtain ⟨d,rfl,hn,_⟩:=hv;obtain ⟨c1,k1,_,k4,_⟩:=hall x.cls (bg.mp h2 _ (aT.mp hx));rw[k1]at hn;have ed:c1=d:=by simpa using hn
  subst ed;rw[hs]at k4;exact ⟨c1,rfl,k4,k1⟩
 cases hd with
 |flag i v=>
  simp only[ae,av,ef]at h5;obtain ⟨⟨rfl,hi⟩,h6⟩:=h5;obtain ⟨kk,hk,h6⟩:=aJ h6;have ek:=YM h6;subst hk;rw[ek];refine psI (Vn (ut S b h1) hst (S.glo _ g3) ham hca S.nd (by rw[S.N];exact hi) hloc hfn rfl (bF g4)) λD U H hq=>el hq λY F G eB he r hw=>?_;rw[rY]at hw;refine ⟨Y,F,G,eB,he,r,jP b (λρ' G' z H' F' σ' x' he' r'=>z H' F' σ' x' he' r') (λx ρ' G' z H' F' σ' cv od x' he' r' hv=>?_) hw⟩;obtain ⟨z1,z2,z3,z4⟩:=z;obtain ⟨d,e1,e2,_⟩:=cls z2 z3 hv;exact ⟨d,e1,e2,z4 H' F' _ x' (EnvR.set (d:=.bl v) (v:=.bl v) (show V.bl v=.bl v from rfl) i he') r'⟩
 |bind n i=>
  obtain ⟨nn,hnn,h6⟩:=aN h5;simp only[ae,av]at h6;obtain ⟨⟨⟨⟨hi,hj⟩,hkd⟩,hon⟩,h7⟩:=h6;obtain ⟨zz,hz,h8⟩:=aJ h7;rw[av]at h8;rw[h8]at hz;subst hz hnn;have hnl:X.env.scope.names.lookup nn=some .local:=S.loc nn hkd;refine psI (Vp (jn:=n) (ut S b h1) hst hex (S.glo _ g3) ham hca S.nd (by rw[S.N];exact hi) hloc hfn (by rw[S.N];exact hj) (by rw[S.kd];exact hnl) hnl (bF hon) (Hu hon) rfl (bF g4)) λD U H hq=>el hq λY F G eB he r hw=>?_;rw[rY]at hw;refine ⟨Y,F,G,eB,he,r,jP b (λρ' G' z H' F' σ' x' he' r'=>z H' F' σ' x' he' r') (λx ρ' G' z H' F' σ' cv od x' he' r' hv=>?_) hw⟩;obtain ⟨z1,z2,z3,z4⟩:=z;obtain ⟨d,e1,e2,e3⟩:=cls z2 z3 hv;refine ⟨d,e1,e2,λa0 o0 hn0 hc0=>?_⟩;have xx:Ext H' F' (upd H' a0 (.frz o0 (.own a0))) F':=cM r' hn0;have rr:R X.K (upd H' a0 (.frz o0 (.own a0))) F' G':=r'.new hn0;have rx:Rep X.K (upd H' a0 (.frz o0 (.own a0))) F' (.exn x.cls) (.ref a0):=⟨a0,d,rfl,⟨o0,a0,cY,hc0⟩,e3⟩;exact z4 _ F' _ (x'.trans xx) (EnvR.unset n (EnvR.set rx i (EnvR.set rx n (he'.ext xx)))) rr
theorem aal{st:AF}(h:aC c .nil st=true):PSs X st (tS X.K B (au Z .nil E)):=by
 unfold aC at h;cases st with
 |nil=>exact HW QR λD W H hq=>el hq λY F G e0 he r hw=>by rw[lY]at hw;exact hw _ _ _ (Ext.refl _ _) he r
 |cons _ _=>cases h
theorem aam{x:Sx}{xs:Sxs}(ih:OkS Z c E B X x)(ihs:jY Z c E B X xs){st:AF}(h:aC c (.cons x xs) st=true):PSs X st (tS X.K B (au Z (.cons x xs) E)):=by
 unfold aC at h;split at h
 .rw[ae]at h;refine HW (QS (ih h.1) (ihs h.2)) λD W H hq=>el hq λY F G e0 he r hw=>?_;rw[lZ]at hw;refine ⟨Y,F,G,e0,he,r,wpS_mono x (D:={ EnD X.K H F D with nx:=λρ' G'=>au Z xs E ρ' G' (EnD X.K H F D) }) ⟨λρ1 G1 q H1 F1 σ1 x1 he1 r1=>?_,λ_ _ z=>z,λ_ _ z=>z,λ_ _ z=>z⟩ hw⟩;exact ⟨ρ1,F1,G1,e0.trans x1,he1,r1,c7 xs (EnD.later x1) q⟩
 .cases h
end
mutual
theorem aan{Z:aa}{CX:CXT}{k:Nat}{B:Bs}{c:CT}{E:EK}{X:Cx}(S:Stat Z CX k c E B X):∀(x:Sx),OkS Z c E B X x
 |.exp e=>λh=>Z8 S h
 |.asg (.nm i) e=>λh=>Z9 S h
 |.asg (.tp ts) e=>λh=>aaa S h
 |.set o i e=>λh=>aab S h
 |.aug i op e=>λh=>aac S h
 |.ret e=>λh=>aad S h
 |.rtn=>λh=>aae h
 |.ite t a b=>λh=>aaf S (iU S a) (iU S b) h
 |.for_ t it b=>λh=>aag S (iU S b) h
 |.whl t b=>λh=>aah S (iU S b) h
 |.pas=>by
  intro h;obtain ⟨_,rfl,_⟩:=Y6 h;exact psI QW λD W H hq=>el hq λY F G e0 he r hw=>by rw[xG]at hw;exact hw _ _ _ (Ext.refl _ _) he r
 |.brk=>by
  intro h;obtain ⟨_,rfl,_⟩:=Y7 h;exact psI QX λD W H hq=>el hq λY F G e0 he r hw=>by rw[xH]at hw;exact hw _ _ _ (Ext.refl _ _) he r
 |.cnt=>by
  intro h;obtain ⟨_,rfl,_⟩:=Y8 h;exact psI QZ λD W H hq=>el hq λY F G e0 he r hw=>by rw[xJ]at hw;exact hw _ _ _ (Ext.refl _ _) he r
 |.rse C es=>λh=>aai S h
 |.tryx b C h xs=>by intro hh;exact aak S hh
 |.nev=>by
  intro h;exact psI Ra λD W H hq=>el hq λY F G e0 he r hw=>by rw[xP]at hw;exact hw.elim
theorem iU{Z:aa}{CX:CXT}{k:Nat}{B:Bs}{c:CT}{E:EK}{X:Cx}(S:Stat Z CX k c E B X):∀(x:Sxs),jY Z c E B X x
 |.nil=>λh=>aal h
 |.cons s r=>λh=>aam (aan S s) (iU S r) h
end
end RF
namespace L2
open PySem PySem.Spec PyProof.Rows
def Fun.okX{P:AK}{w:World}{K:PF}{mg:AH}{base:Heap}{CX:CXT}{x qual:Str}{st:Stmt}{f:AQ}{fd:AJ}{N ps:AD}{k:Nat}{sp:Sp}(F:Fun K x qual st f fd)(S:FnScope N ps (ao st))(len:∀vs H Q E,sp vs H Q E->vs.length=ps.length)
  (hbody:∀(cdv:AN)(A:AM)(outer:List Env)(s:AI)(H:Hp)(vs:AR)(Q:VK)(E:XK),Room k (A.deeper (envOfC qual (ao st) (~~~s) f cdv))->sp vs H Q E->
   ∃t,PSs (cZ CX P w K mg base N qual (ao st) f cdv A outer s H E) (aD st) t/\t { nx:=λ_ H'=>Q .non H',rt:=Q } (start N vs) H):FnOk P w K mg base CX (k+1) f fd ps sp:=by
 obtain ⟨oc,od,kV,doc,pm,an,cdv,ct,osl,rfl,lk,hcd⟩:=F.ex;exact SJ lk hcd S len λA outer s H vs Q E hr hsp=>hbody cdv A outer s H vs Q E hr hsp
def FnOk.cx{P:AK}{w:World}{K:PF}{mg:AH}{base:Heap}{k:Nat}{CX:CXT}{f:AQ}{fd:AJ}{ps:AD}{sp:Sp}(F:FnOk P w K mg base CX0 k f fd ps sp):FnOk P w K mg base CX k f fd ps sp:=
 ⟨F.len,λA outer s H args us vs Q E hr he hb hv hs=>codeAny_mono (F.run A outer s H args us vs Q E hr he hb hv hs) λr s' hq=>by
  cases r with
  |error e=>exact False.elim hq
  |ok fl=>cases fl <;> exact hq⟩
end L2
namespace RF
open PySem PySem.Spec PyProof.Rows L2
def fnB(N ps:AD)(sc:Scope):Bool:=
 decide (sc.kind=.function)&&!sc.isCoroutine&&!sc.isGenerator&&eX N&&(N.take ps.length==ps)&&ps.all (λx=>sc.names.lookup x==some .local||sc.names.lookup x==some .cell)&&sc.names.all (λy=>y.2 != .free)
def yP{N ps:AD}{sc:Scope}(h:fnB N ps sc=true):FnScope N ps sc:=by unfold fnB at h;simp only[ae,fx,bS,av,bg,cy,bne_iff_ne]at h;obtain ⟨⟨⟨⟨⟨⟨h1,h2⟩,h3⟩,h4⟩,h5⟩,h6⟩,h7⟩:=h;exact ⟨h1,h2,h3,yJ h4,h5,h6,λy hy=>h7 y hy⟩
structure Bse(Z:aa)(P:AK)(w:World)(K:PF)(mg:AH)(base:Heap)(CX:CXT)(k:Nat)(fs:List (AL×Nat))(bt:List AL)(cn:List (AL×D))(xs:List (AL×Bool))(ot:OT):Prop where
 call:∀f n,(f,n)∈fs->∃fa fd ps,FnOk P w K mg base CX k fa fd ps (lift K n (Z f))/\PySem.W.keepIn K (.ref fa)=true/\Binds K fd ps []/\mg (⇑f)=some (.ref fa)
 blt:∀f,f∈bt->mg (⇑f)=none
 con:∀x d,(x,d)∈cn->∃u v,mg (⇑x)=some u/\RelV v u/\∀H F,Rep K H F d v
 xcl:∀C,xs.contains (C,true)=true->∃a,mg (⇑C)=some (.ref a)/\iC K a=true/\PySem.W.nsIn K mainGlobals (⇑C)=some (some (.ref a))
 xis:∀C',xs.contains (C',false)=true->∃cv,CV K mg C' cv/\∀C,xs.contains (C,true)=true->XI K C C' cv
 mth:∀f C m n,(f,C,m,n)∈ot.ms->MthOk Z P w K mg base CX k f C m n
 mko:∀C n,(C,n)∈ot.ks->MkoOk Z P w K mg base CX k C n
 fld:∀C f,(C,f)∈ot.fl->Hr K C f
 xko:∀C f,(C,f)∈ot.xk->XkoX P w K mg base CX k xs C f
def aG(N:AD)(sc:Scope)(fs:List (AL×Nat))(bt:List AL)(cn:List (AL×D))(xs:List (AL×Bool))(ot:OT):CT:={ N:=N,kd:=sc.names,fn:=true,fs:=fs,bt:=bt,cn:=cn,xs:=xs,ot:=ot }
section
variable {Z:aa} {P:AK} {w:World} {K:PF} {mg:AH} {base:Heap} {k:Nat} {fs:List (AL×Nat)} {bt:List AL} {cn:List (AL×D)} {xs:List (AL×Bool)} {ot:OT}
theorem H9{N ps:AD}{sc:Scope}{qual:Str}{f:AQ}{cdv:AN}{A:AM}{outer:List Env}{s:AI}{H:Hp}{EX:XK}{B:Bs}(T:Bse Z P w K mg base (CX1 P w) k fs bt cn xs ot)(hs:fnB N ps sc=true)
  (hr:Room k (A.deeper (envOfC qual sc (~~~s) f cdv))):Stat Z (CX1 P w) k (aG N sc fs bt cn xs ot) noE B (cZ (CX1 P w) P w K mg base N qual sc f cdv A outer s H EX).nox where
 N:=rfl
 nd:=(yP hs).nd
 calm:=rfl
 own:=PassesOwn.never
 kd:=rfl
 vis:=λx h=>by
  have h:iM (sc.names.lookup x)=true:=h;show sc.names.lookup x=_\/sc.names.lookup x=_\/sc.names.lookup x=_;unfold iM at h;split at h <;> first | (cases h;done) |simp_all
 cel:=λx h=>h
 glo:=λx h=>h
 sto:=λx h=>by
  have h:(sc.names.lookup x==some .local||(true&&sc.names.lookup x==some .cell))=true:=h;rw[e7,cy,av,av]at h;exact ⟨h,.inl rfl⟩
 room:=hr
 call:=T.call
 blt:=T.blt
 con:=T.con
 exc:=⟨_,CW _,λ_ _ _ _ _ _ _ _ _ _ q=>q.elim,λ_ _ _ _ h=>h.elim⟩
 nox:=λY=>CW Y
 xcl:=T.xcl
 loc:=λx h=>h
 xis:=T.xis
 mth:=T.mth
 mko:=T.mko
 fld:=T.fld
 xko:=T.xko
 trc:=λ_=>⟨rfl,rfl,rfl⟩
theorem aao{N ps:AD}{sc:Scope}{qual:Str}{f:AQ}{cdv:AN}{A:AM}{outer:List Env}{s:AI}{H:Hp}{EX:XK}{B:Bs}{E:EK}(T:Bse Z P w K mg base (CX1 P w) k fs bt cn xs ot)(hs:fnB N ps sc=true)
  (hr:Room k (A.deeper (envOfC qual sc (~~~s) f cdv))) (hE:∀x G' H' F',E x G'->Ext B.H B.F H' F'->R K H' F' G'->XR K H' F' x EX):Stat Z (CX1 P w) k (aG N sc fs bt cn xs ot) E B (cZ (CX1 P w) P w K mg base N qual sc f cdv A outer s H EX):=
 have S:=H9 (EX:=EX) (B:=B) (qual:=qual) (f:=f) (cdv:=cdv) (A:=A) (outer:=outer) (s:=s) (H:=H) T hs hr
 ⟨S.N,S.nd,S.calm,PassesOwn.leaving,S.kd,S.vis,S.cel,S.glo,S.sto,S.room,S.call,S.blt,S.con,⟨EX,UT rfl rfl λ_ _ h=>h,U8 rfl rfl λ_ _ h=>h,hE⟩,S.nox,S.xcl,S.loc,S.xis,S.mth,S.mko,S.fld,S.xko,λ_=>⟨rfl,rfl,rfl⟩⟩
theorem aap{outer:List Env}{H:Hp}{s s':AI}{e:AN}(h:CX1 P w outer H s (λ_ _ _=>False) e s'):False:=by obtain ⟨_,_,_,_,_,_,_,_,_,q⟩:=h;exact q
def ends(Q:AT):En:={ nx:=λ_ G=>Q .non G,rt:=Q,bk:=λ_ _=>False,ct:=λ_ _=>False }
def env0(ds:AS)(n:Nat):ak:=ds.map some++List.replicate n none
theorem aaq{x qual:Str}{st:Stmt}{f:AQ}{fd:AJ}(Fu:Fun K x qual st f fd)(T:Bse Z P w K mg base (CX1 P w) k fs bt cn xs ot){N ps:AD}{body:Sxs}(S:RF.Spec)(n m:Nat)(hs:fnB N ps (ao st)=true)
  (hc:aC (aG N (ao st) fs bt cn xs ot) body (aD st)=true) (hn:ps.length=n) (hm:N.length=n+m)
  (hw:∀ds G a,ds.length=n->S.pre ds G a->au Z body (S.exc a) (env0 ds m) G (ends (S.post a))):FnOk P w K mg base (CX1 P w) (k+1) f fd ps (lift K n S):=by
 refine Fu.okX (yP hs) (λvs H Q E h=>by rw[hn];exact h.1) λcdv A outer s H vs Q EX hr hsp=>?_;obtain ⟨hl,F,G,ds,r,rs,a,h1,h2,h3⟩:=hsp;have St:Stat Z (CX1 P w) k (aG N (ao st) fs bt cn xs ot) (S.exc a) ⟨H,F⟩ (cZ (CX1 P w) P w K mg base N qual (ao st) f cdv A outer s H EX):=aao T hs hr λx G' H' F' hx e r'=>h3 x G' hx H' F' e r';refine ⟨_,iU St body hc,?_⟩;refine ⟨env0 ds m,F,G,Ext.refl _ _,?_,r,c7 body (D:=ends (S.post a)) ⟨λY G' q=>?_,λd G' q=>h2 d G' q,λ_ _ q=>False.elim q,λ_ _ q=>False.elim q⟩ (hw ds G a (by rw[rs.length];exact hl) h1)⟩
 .unfold L2.start;rw[show N.length - vs.length=m by omega];exact EnvR.start m rs
 .intro H' F' σ' x1 _ r1;exact h2 .non G' q H' F' .non x1 r1 rfl
theorem mV{x qual:Str}{st:Stmt}{f:AQ}{fd:AJ}(Fu:Fun K x qual st f fd)(T:Bse Z P w K mg base (CX1 P w) k fs bt cn xs ot){N ps:AD}{body:Sxs}(S:RF.Spec)(n m:Nat)(hs:fnB N ps (ao st)=true)
  (hc:aC (aG N (ao st) fs bt cn xs ot) body (aD st)=true) (hn:ps.length=n) (hm:N.length=n+m)
  (hw:∀ds G a,ds.length=n->S.pre ds G a->au Z body noE (env0 ds m) G (ends (S.post a))):FnOk P w K mg base (CX1 P w) (k+1) f fd ps (lift K n S):=by
 refine Fu.okX (yP hs) (λvs H Q E h=>by rw[hn];exact h.1) λcdv A outer s H vs Q EX hr hsp=>?_;obtain ⟨hl,F,G,ds,r,rs,a,h1,h2,h3⟩:=hsp;have St:Stat Z (CX1 P w) k (aG N (ao st) fs bt cn xs ot) noE ⟨H,F⟩ (cZ (CX1 P w) P w K mg base N qual (ao st) f cdv A outer s H EX).nox:=H9 T hs hr;refine ⟨_,(iU St body hc).nox,?_⟩;refine ⟨env0 ds m,F,G,Ext.refl _ _,?_,r,c7 body (D:=ends (S.post a)) ⟨λY G' q=>?_,λd G' q=>h2 d G' q,λ_ _ q=>False.elim q,λ_ _ q=>False.elim q⟩ (hw ds G a (by rw[rs.length];exact hl) h1)⟩
 .unfold L2.start;rw[show N.length - vs.length=m by omega];exact EnvR.start m rs
 .intro H' F' σ' x1 _ r1;exact h2 .non G' q H' F' .non x1 r1 rfl
end
def bI(pre:AS->DH->Prop)(post:AS->DH->D->DH->Prop):RF.Spec where
 A:=AS×DH
 pre:=λds G a=>a=(ds,G)/\pre ds G
 post:=λa d G'=>post a.1 a.2 d G'
 exc:=λ_ _ _=>False
def bU{pre:AS->DH->Prop}{post:AS->DH->D->DH->Prop}{ds:AS}{G:DH}{k:AT}{E:EK}(h:pre ds G)(hk:∀d G',post ds G d G'->k d G'):(bI pre post).t ds G k E:=
 ⟨(ds,G),⟨rfl,h⟩,hk,λ_ _ z=>z.elim⟩
def bZ{Z:aa}{body:Sxs}{m n:Nat}{pre:AS->DH->Prop}{post:AS->DH->D->DH->Prop}(h:∀ds G,pre ds G->au Z body noE (env0 ds m) G (ends (post ds G))):
  ∀ds G a,ds.length=n->(bI pre post).pre ds G a->au Z body noE (env0 ds m) G (ends ((bI pre post).post a)):=by
 rintro ds G a _ ⟨rfl,h1⟩;exact h ds G h1
def aM(f:AS->Option D):RF.Spec:=bI (λds _=>(f ds).isSome=true) (λds G d G'=>G'=G/\f ds=some d)
def cF{f:AS->Option D}{ds:AS}{d:D}{G:DH}{k:AT}{E:EK}(h:f ds=some d)(hk:k d G):(aM f).t ds G k E:=
 bU (by rw[h];rfl) λd' G' ⟨e1,e2⟩=>by rw[h]at e2;cases e2;rw[e1];exact hk
def dR{Z:aa}{body:Sxs}{m n:Nat}{f:AS->Option D}(h:∀ds G d,f ds=some d->au Z body noE (env0 ds m) G (ends λd' G'=>G'=G/\d'=d)):
  ∀ds G a,ds.length=n->(aM f).pre ds G a->au Z body noE (env0 ds m) G (ends ((aM f).post a)):=by
 refine bZ λds G hf=>?_;obtain ⟨d,e⟩:=cq.mp hf;refine c7 body (D:=ends λd' G'=>G'=G/\d'=d) ⟨λY G' q=>?_,λd' G' q=>?_,λ_ _ q=>q,λ_ _ q=>q⟩ (h ds G d e)
 .exact ⟨q.1,by rw[e];exact eK some q.2.symm⟩
 .exact ⟨q.1,by rw[e];exact eK some q.2.symm⟩
def aar{step:D->ak->DH->(ak->DH->Prop)->Prop}{g:Hld}{items:AS}{Y:ak}{G:DH}{k:ak->DH->Prop}(P:Nat->ak->DH->Prop)(h0:P 0 Y G)(hh:∀i Y G,P i Y G->held g G)
  (hs:∀i d Y G,items[i]?=some d->P i Y G->∀kk:ak->DH->Prop,(∀ρ' G',P (i+1) ρ' G'->kk ρ' G')->step d Y G kk) (he:∀Y G,P items.length Y G->k Y G):forLoop step g items Y G k:=by
 have go:∀(l:AS)(i:Nat)(Y:ak)(G:DH),items.drop i=l->i<=items.length->P i Y G->forLoop step g l Y G k:=by
  intro l;induction l with
  |nil=>
   intro i Y G e hi p;have:i=items.length:=by have:=eK List.length e;rw[eh]at this;simp at this;omega
   subst this;exact ⟨hh _ _ _ p,he _ _ p⟩
  |cons d l ih=>
   intro i Y G e hi p;have hl:i < items.length:=by
    by_cases h:i < items.length
    .exact h
    .rw[List.drop_eq_nil_of_le (!0)]at e;cases e
   rw[b6 hl]at e;injection e with e1 e2;refine ⟨hh _ _ _ p,hs i d Y G (by rw[aE hl,e1]) p _ λρ' G' p'=>ih (i+1) ρ' G' e2 hl p'⟩
 exact go _ 0 Y G (by simp) (dE _) h0
def Ia{step:D->ak->DH->(Option D->ak->DH->Prop)->Prop}{g:Hld}{items acc:AS}{Y:ak}{G:DH}{k:AS->DH->Prop}(P:Nat->AS->ak->DH->Prop)(h0:P 0 acc Y G)(hh:∀i acc Y G,P i acc Y G->held g G)
  (hl:acc.length+items.length<=sz)
  (hs:∀i d acc Y G,items[i]?=some d->P i acc Y G->∀kk:Option D->ak->DH->Prop,(∀o ρ' G',P (i+1) (acc++o.toList) ρ' G'->kk o ρ' G')->step d Y G kk) (he:∀acc Y G,P items.length acc Y G->k acc G):compLoop step g items acc Y G k:=by
 have go:∀(l:AS)(i:Nat)(acc:AS)(Y:ak)(G:DH),items.drop i=l->i<=items.length->acc.length+l.length<=sz->P i acc Y G->compLoop step g l acc Y G k:=by
  intro l;induction l with
  |nil=>
   intro i acc Y G e hi ha p;have:i=items.length:=by have:=eK List.length e;rw[eh]at this;simp at this;omega
   subst this;exact ⟨hh _ _ _ _ p,!!ha,he _ _ _ p⟩
  |cons d l ih=>
   intro i acc Y G e hi ha p;have hl:i < items.length:=by
    by_cases h:i < items.length
    .exact h
    .rw[List.drop_eq_nil_of_le (!0)]at e;cases e
   rw[b6 hl]at e;injection e with e1 e2;have ha':acc.length+(l.length+1)<=sz:=ha;refine ⟨hh _ _ _ _ p,!0,hs i d acc Y G (by rw[aE hl,e1]) p _ λo ρ' G' p'=>?_⟩;cases o with
   |some y=>exact ih (i+1) (acc++[y]) ρ' G' e2 hl (by rw[aI];simp;omega) p'
   |none=>exact ih (i+1) acc ρ' G' e2 hl (!0) (!!p')
 exact go _ 0 acc Y G (by simp) (dE _) hl h0
def aas{step:D->ak->DH->(Option D->ak->DH->Prop)->Prop}{items:AS}{Y:ak}{G:DH}{k:AS->DH->Prop}(g:Hld)(f:D->Option D)(I:ak->Prop)(h0:I Y)(hg:held g G)(hl:items.length<=sz)
  (hs:∀d Y,d∈items->I Y->∀kk:Option D->ak->DH->Prop,(∀ρ',I ρ'->kk (f d) ρ' G)->step d Y G kk) (he:k (items.filterMap f) G):compLoop step g items [] Y G k:=by
 refine Ia (λi acc ρ' G'=>I ρ'/\G'=G/\acc=(items.take i).filterMap f) ⟨h0,rfl,rfl⟩ (λi acc ρ' G' p=>by rw[p.2.1];exact hg) (!!hl) ?_ ?_
 .rintro i d acc ρ' G' hd ⟨p1,rfl,rfl⟩ kk hk;refine hs d ρ' (cf hd) p1 kk λρ2 i2=>hk _ _ _ ⟨i2,rfl,?_⟩;rw[List.take_add_one,hd,List.filterMap_append];congr 1
 .rintro acc ρ' G' ⟨_,rfl,rfl⟩;rw[List.take_length];exact he
def aat{step:D->ak->DH->(Option D->ak->DH->Prop)->Prop}{items:AS}{Y:ak}{G:DH}{k:AS->DH->Prop}(g:Hld)(f:D->D)(I:ak->Prop)(h0:I Y)(hg:held g G)(hl:items.length<=sz)
  (hs:∀d Y,d∈items->I Y->∀kk:Option D->ak->DH->Prop,(∀ρ',I ρ'->kk (some (f d)) ρ' G)->step d Y G kk) (he:k (items.map f) G):compLoop step g items [] Y G k:=
 aas g (λd=>some (f d)) I h0 hg hl hs (by rw[<-List.filterMap_eq_map]at he;exact he)
def mW{α:Type}(f:α->Bool):∀l:List α,bools (l.map λx=>D.bl (f x))=some (l.map f)
 |[]=>rfl
 |x::l=>by simp[bools,mW f l]
def strs_map{α:Type}(f:α->AA):∀l:List α,bz (l.map λx=>D.str (f x))=some (l.map f)
 |[]=>rfl
 |x::l=>by simp[bz,strs_map f l]
def Ib:∀l:List (AA),d7 [] l=l.flatten
 |[]=>rfl
 |[x]=>by simp[d7]
 |x::y::r=>by simp[d7,Ib (y::r)]
def Sa(G G':DH):Prop:=∀b o,G b=some o->G' b=some o
def Sb(p:AQ)(G G':DH):Prop:=∀b o,G b=some o->b≠p->G' b=some o
def Sa.refl(G:DH):Sa G G:=λ_ _ h=>h
def Sb.refl(p:AQ)(G:DH):Sb p G G:=λ_ _ h _=>h
def Sa.trans{G G1 G2:DH}(a:Sa G G1)(b:Sa G1 G2):Sa G G2:=λc o h=>b c o (a c o h)
def Sb.trans{p:AQ}{G G1 G2:DH}(a:Sb p G G1)(b:Sb p G1 G2):Sb p G G2:=λc o h n=>b c o (a c o h n) n
def Sa.sb{p:AQ}{G G':DH}(a:Sa G G'):Sb p G G':=λc o h _=>a c o h
def Sa.new{G:DH}{p:AQ}{o:DO}(h:G p=none):Sa G (aP G p o):=λb u e=>by rw[bR (rA e h)];exact e
def Sb.upd{G:DH}{p:AQ}{o:DO}:Sb p G (aP G p o):=λb u e n=>by rw[bR n];exact e
def Sa.then{p:AQ}{G G1 G2:DH}(a:Sa G G1)(hp:G p=none)(b:Sb p G1 G2):Sa G G2:=λc o h=>b c o (a c o h) (rA h hp)
def Sa.frz{G G1:DH}{p:AQ}(a:Sa G G1)(hp:G p=none):Sa G (gG G1 p):=λc o h=>by rw[lQ (rA h hp)];exact a c o h
def aau{α:Type}{a:α}{l:List α}:atI (a::l) 0=some a:=b7 (j:=0) rfl
def aav{α:Type}{a b:α}{l:List α}:atI (a::b::l) 1=some b:=b7 (j:=1) rfl
def aaw{α:Type}{a b c:α}{l:List α}:atI (a::b::c::l) 2=some c:=b7 (j:=2) rfl
def aax{α:Type}{a b c d:α}{l:List α}:atI (a::b::c::d::l) 3=some d:=b7 (j:=3) rfl
def aay{n j:Nat}(h:j < n):ixN n (j:Int)=some j:=by unfold ixN;rw[if_pos (!0),if_pos (!0)];simp
def aaz{n:Nat}:ixN (n+1) 0=some 0:=by unfold ixN;rw[if_pos (!0),if_pos (!0)];rfl
def aaA{n:Nat}:ixN (n+2) 1=some 1:=by unfold ixN;rw[if_pos (!0),if_pos (!0)];rfl
def aaB{n:Nat}:ixN (n+3) 2=some 2:=by unfold ixN;rw[if_pos (!0),if_pos (!0)];rfl
def aaC{α:Type}{xs:List α}{i:Int}(h0:0<=i)(h1:i < xs.length):∃a,atI xs i=some a/\a∈xs:=by
 obtain ⟨n,rfl⟩:=ci h0;have hn:n < xs.length:=by omega
 exact ⟨xs[n],b7 (by simp[hn]),da _⟩
def Ie{α:Type}(xs:List α)(lo hi:Option Int):(cut xs lo hi).length<=xs.length:=by unfold cut;rw[ff,eh];omega
def aaD{l:AS}:bJ l []=l.isEmpty:=by cases l <;> rfl
def yQ{α:Type}(l:List α)(n:Nat):cut l none (some (n:Int))=l.take n:=by
 unfold cut;rw[show HT.sIx l.length 0 none=0 from rfl,HT.Bx,List.drop_zero,Nat.sub_zero];by_cases h:n<=l.length
 .rw[Nat.min_eq_left h]
 .rw[gS (!0),gy (ax _),gy (!0)]
def yR{α:Type}(l:List α)(n:Nat):cut l (some (n:Int)) none=l.drop n:=by
 unfold cut;rw[show HT.sIx l.length l.length none=l.length from rfl,HT.Bx];by_cases h:n<=l.length
 .rw[Nat.min_eq_left h,gy (by rw[eh];exact ax _)]
 .rw[gS (!0),Nat.sub_self,List.take_zero,List.drop_eq_nil_of_le (!0)]
def Ig{α:Type}(l:List α)(n:Nat):cut l (some ((n:Int)+1)) none=l.drop (n+1):=yR l (n+1)
def Ih:∀{l:AS},(∀d∈l,nr d=true)->nrs l=true
 |[],_=>rfl
 |a::l,h=>by rw[nrs,h a bp,Ih λd hd=>h d (bv _ hd)];rfl
def Ii{n:Nat}:∀{l:AS},(∀d∈l,dpt d<=n)->aV l<=n
 |[],_=>dE _
 |a::l,h=>by rw[aV];exact Nat.max_le.mpr ⟨h a bp,Ii λd hd=>h d (bv _ hd)⟩
def aaE{α:Type}{motive:List α->Prop}(l:List α)(nil:motive [])(snoc:∀(l:List α)(a:α),motive l->motive (l++[a])):motive l:=by
 have go:∀(n:Nat)(l:List α),l.length=n->motive l:=by
  intro n;induction n with
  |zero=>intro l h;rw[cK.mp h];exact nil
  |succ n ih=>
   intro l h;have hne:l≠[]:=by rintro rfl;simp at h
   rw[<-fo hne];exact snoc _ _ (ih _ (by rw[List.length_dropLast];omega))
 exact go _ l rfl
section
variable {G:DH} {k:AT} {fz:Bool} {kb:Bool->Prop} {kd:D->Prop} {p:AQ}
theorem aaF{i j:Int}:cz .Add fz (.int i) (.int j) G k=k (.int (i+j)) G:=rfl
theorem aaG{x y:AA}:cz .Add fz (.str x) (.str y) G k=(x.length+y.length<=sz/\k (.str (x++y)) G):=rfl
theorem aaH{x y:AS}:cz .Add fz (.lst x) (.lst y) G k=(x.length+y.length<=sz/\mk fz (x++y) G k):=rfl
theorem aaI{x y:AS}:cz .Add fz (.tup x) (.tup y) G k=(x.length+y.length<=sz/\k (.tup (x++y)) G):=rfl
theorem aaJ{i j:Int}:cz .Sub fz (.int i) (.int j) G k=k (.int (i - j)) G:=rfl
theorem aaK{i j:Int}:cz .Mult fz (.int i) (.int j) G k=(CMul i j/\k (.int (i * j)) G):=rfl
theorem aaL{x:AS}{n:Int}:cz .Mult fz (.tup x) (.int n) G k=(2<=n/\n<=1000/\x≠[]/\x.length * n.toNat<=sz/\k (.tup (reps x n.toNat)) G):=rfl
theorem aaM{x:AS}{n:Int}:cz .Mult fz (.lst x) (.int n) G k=(0<=n/\n<=1000/\x.length * n.toNat<=sz/\mk fz (reps x n.toNat) G k):=rfl
theorem aaN{x:AA}{n:Int}:cz .Mult fz (.str x) (.int n) G k=(0<=n/\n<=1000/\x.length * n.toNat<=sz/\k (.str (reps x n.toNat)) G):=rfl
theorem aaO{i j:Int}:cz .FloorDiv fz (.int i) (.int j) G k=((0 < j/\j < 1152921504606846976)/\k (.int (i / j)) G):=rfl
theorem aaP{i j:Int}:cz .Mod fz (.int i) (.int j) G k=(0 < j/\k (.int (i % j)) G):=rfl
theorem aaQ{i j:Int}:cz .Pow fz (.int i) (.int j) G k=(qP i j/\k (.int (i ^ j.toNat)) G):=rfl
def eZ:D->Bool
 |.non=>true
 |_=>false
theorem aaR{a b:D}:aW .Eq a b kb=((nr a=true/\nr b=true/\min (dpt a) (dpt b)<=60)/\kb (deq a b)):=rfl
theorem aaS{a b:D}:aW .NotEq a b kb=((nr a=true/\nr b=true/\min (dpt a) (dpt b)<=60)/\kb (!deq a b)):=rfl
theorem aaT{i j:Int}:aW .Lt (.int i) (.int j) kb=kb (decide (i < j)):=rfl
theorem aaU{i j:Int}:aW .LtE (.int i) (.int j) kb=kb (decide (i<=j)):=rfl
theorem aaV{i j:Int}:aW .Gt (.int i) (.int j) kb=kb (decide (j < i)):=rfl
theorem aaW{i j:Int}:aW .GtE (.int i) (.int j) kb=kb (decide (j<=i)):=rfl
theorem aaX{i j:AA}:aW .Lt (.str i) (.str j) kb=kb (decide (i < j)):=rfl
theorem aaY{i j:AA}:aW .LtE (.str i) (.str j) kb=kb (!decide (j < i)):=rfl
theorem aaZ{a:D}:aW .Is a .non kb=kb (eZ a):=by cases a <;> rfl
theorem aa0{a:D}:aW .IsNot a .non kb=kb (!eZ a):=by cases a <;> rfl
theorem aa1{a b:Bool}:aW .Is (.bl a) (.bl b) kb=kb (a==b):=rfl
theorem aa2{a b:Bool}:aW .IsNot (.bl a) (.bl b) kb=kb (a != b):=rfl
theorem aa3{c:Nat}{l:AA}:aW .In (.str [c]) (.str l) kb=kb (l.contains c):=rfl
theorem aa4{c:Nat}{l:AA}:aW .NotIn (.str [c]) (.str l) kb=kb (!l.contains c):=rfl
theorem aa5{a:D}{l:AS}:aW .In a (.lst l) kb=((nr a=true/\nrs l=true/\aV l<=60)/\kb (isIn a l)):=rfl
theorem aa6{a:D}{l:AS}:aW .In a (.tup l) kb=((nr a=true/\nrs l=true/\aV l<=60)/\kb (isIn a l)):=rfl
theorem aa7{a:D}{l:AS}:aW .NotIn a (.lst l) kb=((nr a=true/\nrs l=true/\aV l<=60)/\kb (!isIn a l)):=rfl
theorem aa8{a:D}{l:AS}:aW .NotIn a (.tup l) kb=((nr a=true/\nrs l=true/\aV l<=60)/\kb (!isIn a l)):=rfl
theorem aa9{i:Int}:eZ (.int i)=false:=rfl
theorem aba{i:Bool}:eZ (.bl i)=false:=rfl
theorem abb{i:AA}:eZ (.str i)=false:=rfl
theorem abd{i:AS}:eZ (.tup i)=false:=rfl
theorem abe{i:AS}:eZ (.lst i)=false:=rfl
theorem abf{i:AQ}:eZ (.ref i)=false:=rfl
theorem abg:eZ .non=true:=rfl
def aR{α:Type}(o:Option α)(k:α->Prop):Prop:=match o with |some a=>k a |none=>False
theorem Ij{α:Type}{a:α}{k:α->Prop}:aR (some a) k=k a:=rfl
theorem bw{α:Type}{o:Option α}{a:α}{k:α->Prop}(e:o=some a)(h:k a):aR o k:=by rw[e];exact h
theorem uv{α:Type}{xs:List α}{i:Int}{k:α->Prop}(h0:0<=i)(h1:i < xs.length)(h:∀a,a∈xs->k a):aR (atI xs i) k:=by obtain ⟨a,e,m⟩:=aaC h0 h1;exact bw e (h a m)
theorem Ik{ds:AS}{i:Int}:cN (.lst ds) (.int i) kd=aR (atI ds i) kd:=by unfold cN aR;(try dsimp only) <;> (cases atI ds i <;> rfl)
theorem abh{ds:AS}{i:Int}:cN (.tup ds) (.int i) kd=aR (atI ds i) kd:=by unfold cN aR;(try dsimp only) <;> (cases atI ds i <;> rfl)
theorem abi{l:AA}{i:Int}:cN (.str l) (.int i) kd=aR (atI l i) (λc=>kd (.str [c])):=by unfold cN aR;(try dsimp only) <;> (cases atI l i <;> rfl)
theorem abj{ds:AS}{lo hi:Option Int}:dZ fz (.lst ds) lo hi G k=mk fz (cut ds lo hi) G k:=rfl
theorem abk{ds:AS}{y:D}:rB fz (.lst ds) y G k=(y=.int (-1)/\mk fz ds.reverse G k):=rfl
theorem abl{ds:List Int}{lo hi:Option Int}:dZ fz (.scr ds) lo hi G k=mk fz ((cut ds lo hi).map .int) G k:=rfl
theorem abm{ds:AS}{lo hi:Option Int}:dZ fz (.tup ds) lo hi G k=k (.tup (cut ds lo hi)) G:=rfl
theorem abn{ds:AA}{lo hi:Option Int}:dZ fz (.str ds) lo hi G k=k (.str (cut ds lo hi)) G:=rfl
theorem abo{ds:AS}:opB .len [.lst ds] kd=kd (.int ds.length):=rfl
theorem abp{ds:AS}:opB .len [.tup ds] kd=kd (.int ds.length):=rfl
theorem abq{ds:AA}:opB .len [.str ds] kd=kd (.int ds.length):=rfl
theorem abr{ds:AS}:opB .all [.lst ds] kd=aR (bools ds) (λbs=>kd (.bl (bs.all id))):=by unfold opB rD aR;(try dsimp only) <;> (cases bools ds <;> rfl)
theorem abt{b:Bool}:opB .int [.bl b] kd=kd (.int (if b then 1 else 0)):=rfl
theorem abu{b:Int}:opB .int [.int b] kd=kd (.int b):=rfl
theorem abv{l:AA}:opB .int [.str l] kd=aR (PySem.intText? (tx l)) (λn=>l.length<=640/\kd (.int n)):=by unfold opB rE aR;(try dsimp only) <;> (cases PySem.intText? (tx l) <;> rfl)
theorem abw{ds:AS}:opB .sum [.lst ds] kd=aR (bx ds) (λns=>kd (.int ns.sum)):=by unfold opB vY aR;(try dsimp only) <;> (cases bx ds <;> rfl)
theorem abx{a:Int}:opB .str [.int a] kd=((0<=a/\a < 100)/\kd (.str (gK a.toNat))):=rfl
theorem aby{a:Int}:opB .abs [.int a] kd=kd (.int (if a < 0 then -a else a)):=rfl
theorem abz{a b:Int}:opB .min2 [.int a,.int b] kd=kd (.int (if b < a then b else a)):=rfl
theorem abA{a b:Int}:opB .max [.int a,.int b] kd=kd (.int (if b > a then b else a)):=rfl
theorem abB{ds:AS}{kl:AS->Prop}:cA .sorted [.tup ds] kl=aR (bx ds) (λns=>ns.length < 64/\∀ns':List Int,ns'.Perm ns->ns'.Pairwise (·<=·)->kl (ns'.map D.int)):=by unfold cA lV aR;(try dsimp only) <;> (cases bx ds <;> rfl)
theorem abC{ds:AS}{kl:AS->Prop}:lW (.lst ds) kl=aR (bz ds) (λls=>(ls.length<=1000/\(rF ls).length<=64)/\∀ls':List (AA),ls'.Perm (rF ls)->kl (ls'.map D.str)):=by unfold lW aR;(try dsimp only) <;> (cases bz ds <;> rfl)
theorem abD{ds:AS}{kl:AS->Prop}:cA .sorted [.lst ds] kl=aR (bz ds) (λls=>ls.length < 64/\∀ls':List (AA),ls'.Perm ls->PyProof.Rows.sortedS (ls'.map tx)=true->kl (ls'.map D.str)):=by unfold cA lV aR;(try dsimp only) <;> (cases bz ds <;> rfl)
theorem abE{ds:AS}:opB .tuple [.lst ds] kd=kd (.tup ds):=rfl
theorem abF{ds:AS}:opB .tuple [.tup ds] kd=kd (.tup ds):=rfl
theorem abG{ds:AS}{kl:AS->Prop}:cA .list [.lst ds] kl=kl ds:=rfl
theorem abH{ds:AS}{kl:AS->Prop}:cA .list [.tup ds] kl=kl ds:=rfl
theorem abI{l:AA}{kl:AS->Prop}:cA .list [.str l] kl=kl (l.map λc=>.str [c]):=rfl
theorem abJ{s:AA}{ds:AS}:opM .join (.str s) [.lst ds] G k=aR (bz ds) (λls=>((ls.map (·.length)).sum+ls.length * s.length<=sz)/\k (.str (d7 s ls)) G):=by unfold opM rG aR;(simp only[a9,fS,view]) <;> (cases bz ds <;> rfl)
def trk(G:DH)(p:AQ)(k:AS->Prop):Prop:=match G p with |some (.lst ds)=>k ds |_=>False
theorem di{ds:AS}{k:AS->Prop}(e:G p=some (.lst ds)):trk G p k=k ds:=by unfold trk;rw[e]
theorem abK{x:D}:opM .append (.ref p) [x] G k=trk G p (λds=>ds.length < sz/\k .non (aP G p (.lst (ds++[x])))):=by unfold opM rH trk;(try dsimp only) <;> (cases G p <;> first |rfl | (rename_i o;cases o <;> rfl))
theorem Il{i:Int}:opM .pop (.ref p) [.int i] G k=trk G p (λds=>0<=i/\i<=1000000/\aR ds[i.toNat]? λy=>k y (aP G p (.lst (ds.eraseIdx i.toNat)))):=by
 unfold opM rK trk
 (try dsimp only) <;> (cases G p <;> first |rfl | (rename_i o;cases o with |lst ds=>unfold aR;dsimp only;cases ds[i.toNat]? <;> rfl |dct _ _=>rfl))
theorem abL:recv .pop (.ref p) G=trk G p (λ_=>True):=by unfold recv trk;(try dsimp only) <;> (cases G p <;> first |rfl | (rename_i o;cases o <;> rfl))
theorem abM{xs:AS}:opM .extend (.ref p) [.lst xs] G k=trk G p (λds=>ds.length+xs.length < sz/\k .non (aP G p (.lst (ds++xs)))):=by unfold opM rJ trk;(simp only[a9,fS,view]) <;> (cases G p <;> first |rfl | (rename_i o;cases o <;> rfl))
theorem abN{ds:AS}:opM .count (.lst ds) [.bl true] G k=aR (bools ds) (λbs=>k (.int (bs.count true:Nat)) G):=by unfold opM rM aR;(try dsimp only[view]) <;> (cases bools ds <;> rfl)
theorem abO{ds:AS}:opM .index (.lst ds) [.bl true] G k=aR (bools ds) (λbs=>true∈bs/\k (.int (bs.idxOf true:Nat)) G):=by unfold opM rN aR;(try dsimp only[view]) <;> (cases bools ds <;> rfl)
theorem abP{ds:AS}:recv .count (.lst ds) G=True:=rfl
theorem abQ{ds:AS}:recv .index (.lst ds) G=True:=rfl
theorem abR{i j:Nat}{ds:AS}{Y:ak}{kk:ak->DH->Prop}:WY i j (.lst ds) Y G kk=(ds≠[]/\∀xs y,ds=xs++[y]->kk ((Y.set i (some (.lst xs))).set j (some y)) G):=rfl
theorem abS{C:AL}{xs:List AL}{kk:Bool->Prop}:iD C xs .non kk=kk false:=rfl
theorem abT{C c:AL}{xs:List AL}{kk:Bool->Prop}:iD C xs (.exn c) kk=(xs.contains c=true/\kk (cj c C)):=rfl
theorem abU{C c f:AL}{d:D}{xs:List AL}{kk:Bool->Prop}:iD C xs (.exa c f d) kk=(xs.contains c=true/\kk (cj c C)):=rfl
theorem x_at{C f:AL}{v:D}{kk:D->Prop}:DY C f (.exa C f v) kk=kk v:=by simp[DY]
theorem abV{b f:AL}{d:D}:view G (.exa b f d)=.exa b f d:=rfl
theorem abW{s:AA}:recv .join (.str s) G=True:=rfl
theorem abX:recv .append (.ref p) G=trk G p (λ_=>True):=by unfold recv trk;(try dsimp only) <;> (cases G p <;> first |rfl | (rename_i o;cases o <;> rfl))
theorem abY:recv .extend (.ref p) G=trk G p (λ_=>True):=by unfold recv trk;(try dsimp only) <;> (cases G p <;> first |rfl | (rename_i o;cases o <;> rfl))
theorem abZ{i:Int}{x:D}{kg:DH->Prop}:dN (.ref p) (.int i) x G kg=trk G p (λds=>aR (ixN ds.length i) (λj=>kg (aP G p (.lst (ds.set j x))))):=by
 unfold dN trk aR
 (try dsimp only) <;> (cases G p <;> first |rfl | (rename_i o;cases o with |lst ds=>dsimp only;cases ixN ds.length i <;> rfl |dct _ _=>rfl))
theorem uw{l:AS}{kk:List Int->Prop}:bW (.tup l) kk=aR (bx l) kk:=by unfold bW aR;dsimp only;cases bx l <;> rfl
theorem Im{a:D}{ks:List (List Int)}{ds:AS}:aW .In a (.dct ks ds) kb=bW a λn=>kb (kIx ks n).isSome:=rfl
theorem Io{a:D}{ks:List (List Int)}{ds:AS}:aW .NotIn a (.dct ks ds) kb=bW a λn=>kb (!(kIx ks n).isSome):=rfl
theorem Ip{ks:List (List Int)}{ds:AS}{l:AS}:cN (.dct ks ds) (.tup l) kd=bW (.tup l) λn=>aR (kIx ks n) λi=>aR ds[i]? kd:=by
 unfold cN bW aR;dsimp only;cases bx l with
 |none=>rfl
 |some n=>dsimp only;cases kIx ks n with
  |none=>rfl
  |some i=>dsimp only;cases ds[i]? <;> rfl
theorem ab0{ks:List (List Int)}{ds:AS}:opB .len [.dct ks ds] kd=kd (.int ks.length):=rfl
theorem ab1{ks:List (List Int)}{ds:AS}{kl:AS->Prop}:cA .list [.dct ks ds] kl=kl (ks.map λn=>.tup (n.map .int)):=rfl
def mX(G:DH)(p:AQ)(k:List (List Int)->AS->Prop):Prop:=match G p with |some (.dct ks ds)=>k ks ds |_=>False
theorem Ir{ks:List (List Int)}{ds:AS}{k:List (List Int)->AS->Prop}(e:G p=some (.dct ks ds)):mX G p k=k ks ds:=by unfold mX;rw[e]
theorem Iu{l:AS}{x:D}{kg:DH->Prop}:dN (.ref p) (.tup l) x G kg=mX G p (λks ds=>bW (.tup l) λn=>ks.length < sz/\kg (aP G p (dput ks ds n x))):=by
 unfold dN mX;dsimp only;cases G p with
 |none=>rfl
 |some o=>cases o <;> rfl
theorem fj{ks:List (List Int)}{ds:AS}(e:G p=some (.dct ks ds)):view G (.ref p)=.dct ks ds:=by unfold view;dsimp only;rw[e]
theorem ab2{i j:Int}:eV .Add (.int i) (.int j) kd=kd (.int (i+j)):=rfl
theorem ab3{x y:AA}:eV .Add (.str x) (.str y) kd=(x.length+y.length<=sz/\kd (.str (x++y))):=rfl
theorem ab4{i j:Int}:eV .Sub (.int i) (.int j) kd=kd (.int (i - j)):=rfl
theorem ab5{xs:AS}:mk true xs G k=k (.lst xs) G:=rfl
theorem ab6{xs:AS}:mk false xs G k=∀p,G p=none->k (.ref p) (aP G p (.lst xs)):=rfl
theorem ab7:view G .non=.non:=rfl
theorem ab8{b:Bool}:view G (.bl b)=.bl b:=rfl
theorem ab9{b:Int}:view G (.int b)=.int b:=rfl
theorem aca{b:AA}:view G (.str b)=.str b:=rfl
theorem acb{b:AS}:view G (.tup b)=.tup b:=rfl
theorem acd{b:AS}:view G (.lst b)=.lst b:=rfl
theorem ace{C f:AL}{q:AQ}:view G (.obj C f q)=.obj C f q:=rfl
theorem acf{b:AL}:view G (.exn b)=.exn b:=rfl
theorem acg{b:List Int}:view G (.scr b)=.scr b:=rfl
theorem gh{ds:AS}(e:G p=some (.lst ds)):view G (.ref p)=.lst ds:=by unfold view;dsimp only;rw[e]
theorem ach:truth .non=some false:=rfl
theorem aci{b:Bool}:truth (.bl b)=some b:=rfl
theorem acj{i:Int}:truth (.int i)=some (i != 0):=rfl
theorem ack{l:AA}:truth (.str l)=some (!l.isEmpty):=rfl
theorem acl{l:AS}:truth (.tup l)=some (!l.isEmpty):=rfl
theorem acn{l:AS}:truth (.lst l)=some (!l.isEmpty):=rfl
theorem aco{l:AS}:itemsOf G (.lst l)=some (l,[]):=rfl
theorem acp{l:AS}:itemsOf G (.tup l)=some (l,[]):=rfl
theorem acq{l:AA}:itemsOf G (.str l)=some (l.map λc=>.str [c],[]):=rfl
theorem acr{t:AL}:isT t .non=some false:=rfl
theorem acs {t:AL} {b:Bool}:isT t (.bl b)=some (t=="bool"||t=="int"):=rfl
theorem acu {t:AL} {b:Int}:isT t (.int b)=some (t=="int"):=rfl
theorem acv {t:AL} {b:AA}:isT t (.str b)=some (t=="str"):=rfl
theorem is_tup {t:AL} {b:AS}:isT t (.tup b)=some (t=="tuple"):=rfl
theorem acw {t:AL} {b:AS}:isT t (.lst b)=some (t=="list"):=rfl
theorem acx{i:Nat}{d:D}{Y:ak}{kr:ak->Prop}:bc (.nm i) d Y G kr=kr (Y.set i (some d)):=rfl
theorem acy{ts:Tgs}{ds:AS}{Y:ak}{kr:ak->Prop}:bc (.tp ts) (.lst ds) Y G kr=bN ts ds Y G kr:=rfl
theorem acz{ts:Tgs}{ds:AS}{Y:ak}{kr:ak->Prop}:bc (.tp ts) (.tup ds) Y G kr=bN ts ds Y G kr:=rfl
theorem acA{ρ:ak}{kr:ak->Prop}:bN .nil [] ρ G kr=kr ρ:=rfl
theorem acB{t:Tg}{r:Tgs}{d:D}{ds:AS}{Y:ak}{kr:ak->Prop}:bN (.cons t r) (d::ds) Y G kr=bc t d Y G (λρ'=>bN r ds ρ' G kr):=rfl
theorem acC:deq .non .non=true:=rfl
theorem acD  {y:Bool}:deq .non (.bl y)=false:=rfl
theorem acE  {y:Int}:deq .non (.int y)=false:=rfl
theorem acF  {y:AA}:deq .non (.str y)=false:=rfl
theorem acG  {y:AS}:deq .non (.tup y)=false:=rfl
theorem acH  {y:AS}:deq .non (.lst y)=false:=rfl
theorem acI{x:Bool} :deq (.bl x) .non=false:=rfl
theorem acJ{x:Bool}{y:Bool}:deq (.bl x) (.bl y)=(x==y):=by rw[deq]
theorem acK{x:Bool}{y:AA}:deq (.bl x) (.str y)=false:=rfl
theorem acL{x:Bool}{y:AS}:deq (.bl x) (.tup y)=false:=rfl
theorem acM{x:Bool}{y:AS}:deq (.bl x) (.lst y)=false:=rfl
theorem acN{x:Int} :deq (.int x) .non=false:=rfl
theorem acO{x:Int}{y:Int}:deq (.int x) (.int y)=(x==y):=by rw[deq]
theorem acP{x:Int}{y:AA}:deq (.int x) (.str y)=false:=rfl
theorem acQ{x:Int}{y:AS}:deq (.int x) (.tup y)=false:=rfl
theorem acR{x:Int}{y:AS}:deq (.int x) (.lst y)=false:=rfl
theorem acS{x:AA} :deq (.str x) .non=false:=rfl
theorem acT{x:AA}{y:Bool}:deq (.str x) (.bl y)=false:=rfl
theorem acU{x:AA}{y:Int}:deq (.str x) (.int y)=false:=rfl
theorem acV{x:AA}{y:AA}:deq (.str x) (.str y)=(x==y):=by rw[deq]
theorem acW{x:AA}{y:AS}:deq (.str x) (.tup y)=false:=rfl
theorem acX{x:AA}{y:AS}:deq (.str x) (.lst y)=false:=rfl
theorem acY{x:AS} :deq (.tup x) .non=false:=rfl
theorem acZ{x:AS}{y:Bool}:deq (.tup x) (.bl y)=false:=rfl
theorem ac0{x:AS}{y:Int}:deq (.tup x) (.int y)=false:=rfl
theorem ac1{x:AS}{y:AA}:deq (.tup x) (.str y)=false:=rfl
theorem ac2{x:AS}{y:AS}:deq (.tup x) (.tup y)=bJ x y:=by rw[deq]
theorem ac3{x:AS}{y:AS}:deq (.tup x) (.lst y)=false:=rfl
theorem ac4{x:AS} :deq (.lst x) .non=false:=rfl
theorem ac5{x:AS}{y:Bool}:deq (.lst x) (.bl y)=false:=rfl
theorem ac6{x:AS}{y:Int}:deq (.lst x) (.int y)=false:=rfl
theorem ac7{x:AS}{y:AA}:deq (.lst x) (.str y)=false:=rfl
theorem ac8{x:AS}{y:AS}:deq (.lst x) (.tup y)=false:=rfl
theorem ac9{x:AS}{y:AS}:deq (.lst x) (.lst y)=bJ x y:=by rw[deq]
theorem ada:bJ [] []=true:=rfl
theorem adb{a b:D}{as bs:AS}:bJ (a::as) (b::bs)=(deq a b&&bJ as bs):=by rw[bJ]
theorem adc{b:D}{bs:AS}:bJ [] (b::bs)=false:=rfl
theorem ade{b:D}{bs:AS}:bJ (b::bs) []=false:=rfl
theorem adf :nr .non=true:=rfl
theorem adg :dpt .non=0:=rfl
theorem adh{x:Bool}:nr (.bl x)=true:=rfl
theorem adi{x:Bool}:dpt (.bl x)=0:=rfl
theorem adk{x:Int}:nr (.int x)=true:=rfl
theorem adl{x:Int}:dpt (.int x)=0:=rfl
theorem adm{x:AA}:nr (.str x)=true:=rfl
theorem adn{x:AA}:dpt (.str x)=0:=rfl
theorem ado{x:AS}:nr (.tup x)=nrs x:=by rw[nr]
theorem adp{x:AS}:dpt (.tup x)=aV x+1:=by rw[dpt]
theorem adq{x:AS}:nr (.lst x)=nrs x:=by rw[nr]
theorem adt{x:AS}:dpt (.lst x)=aV x+1:=by rw[dpt]
theorem adu:nrs []=true:=rfl
theorem adv{a:D}{l:AS}:nrs (a::l)=(nr a&&nrs l):=by rw[nrs]
theorem adw:aV []=0:=rfl
theorem adx{a:D}{l:AS}:aV (a::l)=max (dpt a) (aV l):=by rw[aV]
end
def seq{Z:aa}{s:Sx}{r:Sxs}{E:EK}{Y:ak}{G:DH}{D:En}(h:∀M:ak->DH->Prop,(∀ρ' G',au Z r E ρ' G' D->M ρ' G')->wpS Z s E Y G { D with nx:=M }):au Z (.cons s r) E Y G D:=by rw[lZ];exact h _ λ_ _ x=>x
def last{Z:aa}{s:Sx}{E:EK}{Y:ak}{G:DH}{D:En}(h:wpS Z s E Y G D):au Z (.cons s .nil) E Y G D:=by rw[lZ];exact wpS_mono s (D:=D) (D':={ D with nx:=λρ' G'=>au Z .nil E ρ' G' D }) ⟨λρ' G' q=>(show au Z .nil E ρ' G' D from by rw[lY];exact q),λ_ _ q=>q,λ_ _ q=>q,λ_ _ q=>q⟩ h
def done{Z:aa}{E:EK}{Y:ak}{G:DH}{D:En}(h:D.nx Y G):au Z .nil E Y G D:=by rw[lY];exact h
section
variable {Z:aa} {E:EK} {ρ:ak} {G:DH}
def ForG(Z:aa)(t:Tg)(body:Sxs)(E:EK)(D:En)(items:List RF.D)(g:Hld)(ρ:ak)(G:DH):Prop:=
 forLoop (λd ρ' G' k=>bc t d ρ' G' λρ1=>au Z body E ρ1 G' { D with nx:=k,ct:=k,bk:=D.nx }) g items ρ G D.nx
theorem ady{t:Tg}{it:It'}{body:Sxs}{D:En}:wpS Z (.for_ t it body) E ρ G D=wpI Z it E ρ G λitems g G1=>ForG Z t body E D items g ρ G1:=rfl
theorem ForG.inv{t:Tg}{body:Sxs}{D:En}{items:List RF.D}{g:Hld}(P:Nat->ak->DH->Prop)(h0:P 0 ρ G)(hh:∀i ρ G,P i ρ G->held g G)
  (hs:∀i d ρ G,items[i]?=some d->P i ρ G->∀kk:ak->DH->Prop,(∀ρ' G',P (i+1) ρ' G'->kk ρ' G')->bc t d ρ G λρ1=>au Z body E ρ1 G { D with nx:=kk,ct:=kk,bk:=D.nx })
  (he:∀ρ G,P items.length ρ G->D.nx ρ G):ForG Z t body E D items g ρ G:=aar P h0 hh hs he
def CompG(Z:aa)(elt:Ex)(tg:Tg)(cond:Tx)(items:AS)(g:Hld)(ρ:ak)(G:DH)(k:AS->DH->Prop):Prop:=
 compLoop (λd ρ' G' k'=>bc tg d ρ' G' λρ1=>wpT Z cond noE ρ1 G' λb G2=>match b with |true=>wpE Z elt noE ρ1 G2 λy G3=>k' (some y) ρ1 G3 |false=>k' none ρ1 G2) g items [] ρ G k
def jZ(cap:List (Option Nat))(ρ:ak):ak:=cap.map λo=>match o with |none=>none |some j=>(ρ[j]?).join
theorem adz{ρ:ak}:jZ [] ρ=[]:=rfl
theorem adA{cap:List (Option Nat)}{ρ:ak}:jZ (none::cap) ρ=none::jZ cap ρ:=rfl
theorem adB{cap:List (Option Nat)}{ρ:ak}{j:Nat}:jZ (some j::cap) ρ=(ρ[j]?).join::jZ cap ρ:=rfl
theorem adC{fz:Bool}{elt:Ex}{tg:Tg}{it:It'}{cond:Tx}{N:List AL}{cap:List (Option Nat)}{k:AT}:
  wpE Z (.comp fz elt tg it cond N cap) E ρ G k=wpI Z it E ρ G λitems g G1=>CompG Z elt tg cond items g (jZ cap ρ) G1 λds G2=>mk fz ds G2 k:=rfl
theorem CompG.inv{elt:Ex}{tg:Tg}{cond:Tx}{items:AS}{g:Hld}{k:AS->DH->Prop}(P:Nat->AS->ak->DH->Prop)(h0:P 0 [] ρ G)(hh:∀i acc ρ G,P i acc ρ G->held g G)(hl:items.length<=sz)
  (hs:∀i d acc ρ G,items[i]?=some d->P i acc ρ G->∀kk:Option D->ak->DH->Prop,(∀o ρ' G',P (i+1) (acc++o.toList) ρ' G'->kk o ρ' G')->
   bc tg d ρ G λρ1=>wpT Z cond noE ρ1 G λb G2=>match b with |true=>wpE Z elt noE ρ1 G2 λy G3=>kk (some y) ρ1 G3 |false=>kk none ρ1 G2)
  (he:∀acc ρ G,P items.length acc ρ G->k acc G):CompG Z elt tg cond items g ρ G k:=Ia P h0 hh (!!hl) hs he
theorem CompG.map{elt:Ex}{tg:Tg}{cond:Tx}{items:AS}{g:Hld}{k:AS->DH->Prop}(f:D->D)(I:ak->Prop)(h0:I ρ)(hg:held g G)(hl:items.length<=sz)
  (hs:∀d ρ,d∈items->I ρ->∀kk:Option D->ak->DH->Prop,(∀ρ',I ρ'->kk (some (f d)) ρ' G)->bc tg d ρ G λρ1=>wpT Z cond noE ρ1 G λb G2=>match b with |true=>wpE Z elt noE ρ1 G2 λy G3=>kk (some y) ρ1 G3 |false=>kk none ρ1 G2)
  (he:k (items.map f) G):CompG Z elt tg cond items g ρ G k:=aat g f I h0 hg hl hs he
def WhlG(Z:aa)(c:Tx)(body:Sxs)(E:EK)(D:En)(n:Nat)(ρ:ak)(G:DH):Prop:=
 whileLoop (λρ' G' k=>wpT Z c E ρ' G' k) (λρ' G' k=>au Z body E ρ' G' { D with nx:=k,ct:=k,bk:=D.nx }) n ρ G D.nx
theorem adD{c:Tx}{body:Sxs}{D:En}:wpS Z (.whl c body) E ρ G D=∃n,WhlG Z c body E D n ρ G:=rfl
theorem WhlG.inv{c:Tx}{body:Sxs}{D:En}(P:Nat->ak->DH->Prop)(hs:∀n ρ G,P n ρ G->wpT Z c E ρ G λb G1=>match b with |true=>∀kk:ak->DH->Prop,(∀m ρ' G',m < n->P m ρ' G'->kk ρ' G')->au Z body E ρ G1 { D with nx:=kk,ct:=kk,bk:=D.nx } |false=>D.nx ρ G1):
  ∀n ρ G,P n ρ G->WhlG Z c body E D (n+1) ρ G:=by
 intro n;induction n using Nat.strongRecOn with
 |_ n ih=>
  intro ρ G p;refine cU c (λb G1 q=>?_) (hs n ρ G p);cases b with
  |false=>exact q
  |true=>
   refine q _ λm ρ' G' hm p'=>?_;have:=ih m hm ρ' G' p';have up:∀(i j:Nat)(ρ:ak)(G:DH),i<=j->WhlG Z c body E D i ρ G->WhlG Z c body E D j ρ G:=by
    intro i;induction i with
    |zero=>intro j ρ G _ h;exact h.elim
    |succ i ihi=>
     intro j ρ G hij h;cases j with
     |zero=>omega
     |succ j=>
      refine cU c (λb G1 q=>?_) h;cases b with
      |false=>exact q
      |true=>exact c7 body (D:={ D with nx:=λρ' G'=>WhlG Z c body E D i ρ' G',ct:=λρ' G'=>WhlG Z c body E D i ρ' G',bk:=D.nx }) ⟨λρ' G' z=>ihi j ρ' G' (!0) z,λ_ _ z=>z,λ_ _ z=>z,λρ' G' z=>ihi j ρ' G' (!0) z⟩ q
   exact up (m+1) n ρ' G' hm this
end
def len0{α:Type}{l:List α}(h:l.length=0):l=[]:=cK.mp h
def yS{α:Type}{n:Nat}{l:List α}(h:l.length=n+1):∃a r,l=a::r/\r.length=n:=by
 cases l with
 |nil=>cases h
 |cons a r=>exact ⟨a,r,rfl,Nat.succ.inj h⟩
def dB{α:Type}{l:List α}(h:l.length=1):∃a,l=[a]:=by obtain ⟨a,r,rfl,h2⟩:=yS h;cases len0 h2;exact ⟨a,rfl⟩
def bC{α:Type}{l:List α}(h:l.length=2):∃a b,l=[a,b]:=by obtain ⟨a,r,rfl,h2⟩:=yS h;obtain ⟨b,rfl⟩:=dB h2;exact ⟨a,b,rfl⟩
def dU{α:Type}{l:List α}(h:l.length=3):∃a b c,l=[a,b,c]:=by obtain ⟨a,r,rfl,h2⟩:=yS h;obtain ⟨b,c,rfl⟩:=bC h2;exact ⟨a,b,c,rfl⟩
structure Fo(Z:aa)(P:AK)(w:World)(K:PF)(mg:AH)(base:Heap)(k:Nat)(f:AL)(n:Nat):Prop where
 ex:∃fa fd ps,FnOk P w K mg base (CX1 P w) k fa fd ps (lift K n (Z f))/\PySem.W.keepIn K (.ref fa)=true/\Binds K fd ps []/\mg (⇑f)=some (.ref fa)
section
variable {Z:aa} {P:AK} {w:World} {K:PF} {mg:AH} {base:Heap} {k:Nat} {xs:List (AL×Bool)} {ot:OT}
def AllF(Z:aa)(P:AK)(w:World)(K:PF)(mg:AH)(base:Heap)(k:Nat):List (AL×Nat)->Prop
 |[]=>True
 | (f,n)::r=>Fo Z P w K mg base k f n/\AllF Z P w K mg base k r
def AllB(mg:AH):List AL->Prop
 |[]=>True
 |f::r=>mg (⇑f)=none/\AllB mg r
def AllC(K:PF)(mg:AH):List (AL×D)->Prop
 |[]=>True
 | (x,d)::r=>(∃u v,mg (⇑x)=some u/\RelV v u/\∀H F,Rep K H F d v)/\AllC K mg r
theorem AllF.get:∀{fs:List (AL×Nat)}{f:AL}{n:Nat},AllF Z P w K mg base k fs->(f,n)∈fs->Fo Z P w K mg base k f n
 | (f',n')::r,f,n,h,m=>by
  rcases a7.mp m with e |m
  .cases e;exact h.1
  .exact AllF.get h.2 m
theorem AllB.get:∀{fs:List AL}{f:AL},AllB mg fs->f∈fs->mg (⇑f)=none
 |f'::r,f,h,m=>by
  rcases a7.mp m with e |m
  .cases e;exact h.1
  .exact AllB.get h.2 m
theorem AllC.get:∀{fs:List (AL×D)}{x:AL}{d:D},AllC K mg fs->(x,d)∈fs->∃u v,mg (⇑x)=some u/\RelV v u/\∀H F,Rep K H F d v
 | (f',n')::r,f,n,h,m=>by
  rcases a7.mp m with e |m
  .cases e;exact h.1
  .exact AllC.get h.2 m
def cvB(K:PF)(C':AL):Option V:=match PySem.W.nsIn K mainGlobals (⇑C') with
 |some (some (.ref a))=>if qY K a then some (.ref a) else none
 |some none=>if C'=="ValueError" then some (.ty "ValueError") else none
 |_=>none
def xiB(K:PF)(C C':AL)(cv:V):Bool:=match PySem.W.nsIn K mainGlobals (⇑C) with
 |some (some (.ref c))=>jy K c&&PySem.W.mroIn K c (valOf cv)==some (cj C C')&&(cj C C'||!(Value.ref c==valOf cv))
 |_=>false
def yU(K:PF)(C:AL):Bool:=match PySem.W.nsIn K mainGlobals (⇑C) with
 |some (some (.ref c))=>iC K c
 |_=>false
def xsB(K:PF)(xs:List (AL×Bool)):Bool:=xs.all λp=>match p.2 with
 |true=>yU K p.1
 |false=>(cvB K p.1).any λcv=>xs.all λq=>!q.2||xiB K q.1 p.1 cv
theorem adE{h:Heap}(X:K.In h)(Gh:h.Ns mainGlobals mg){xs:List (AL×Bool)}(e:xsB K xs=true)(C:AL)(hC:xs.contains (C,true)=true):∃a,mg (⇑C)=some (.ref a)/\iC K a=true/\PySem.W.nsIn K mainGlobals (⇑C)=some (some (.ref a)):=by
 have e1:yU K C=true:=bg.mp e _ (aT.mp hC);unfold yU at e1;split at e1
 .rename_i a hn;exact ⟨a,PySem.W.mg_of X Gh hn,e1,hn⟩
 .cases e1
theorem adF{h:Heap}(X:K.In h)(Gh:h.Ns mainGlobals mg){xs:List (AL×Bool)}(e:xsB K xs=true)(C':AL)(hC:xs.contains (C',false)=true):∃cv,CV K mg C' cv/\∀C,xs.contains (C,true)=true->XI K C C' cv:=by
 have e1:((cvB K C').any λcv=>xs.all λq=>!q.2||xiB K q.1 C' cv)=true:=bg.mp e _ (aT.mp hC);obtain ⟨cv,hcv,h2⟩:=aN e1;refine ⟨cv,?_,λC hC=>?_⟩
 .unfold cvB at hcv;split at hcv
  .rename_i a hn;split at hcv
   .rename_i hb;cases hcv;exact .inl ⟨a,rfl,PySem.W.mg_of X Gh hn,hb⟩
   .cases hcv
  .rename_i hn;split at hcv
   .rename_i hb;cases hcv;exact .inr ⟨av.mp hb,rfl,PySem.W.mg_none_of X Gh hn⟩
   .cases hcv
  .cases hcv
 .have e3:(!true||xiB K C C' cv)=true:=bg.mp h2 _ (aT.mp hC);have e3:xiB K C C' cv=true:=e3;unfold xiB at e3;split at e3
  .rename_i c hn;rw[ae,ae,av]at e3;refine ⟨c,hn,e3.1.1,e3.1.2,λhs=>?_⟩;have:=e3.2;rw[hs,Bool.false_or,fx]at this;exact this
  .cases e3
theorem bse{h:Heap}{fs:List (AL×Nat)}{bt:List AL}{cn:List (AL×D)}(h1:AllF Z P w K mg base k fs)(h2:AllB mg bt)(h3:AllC K mg cn)(X:K.In h)(Gh:h.Ns mainGlobals mg)(e:xsB K xs=true):Bse Z P w K mg base (CX1 P w) k fs bt cn xs {}:=
 ⟨λ_ _ m=>(h1.get m).ex,λ_ m=>h2.get m,λ_ _ m=>h3.get m,adE X Gh e,adF X Gh e,(λ_ _ _ _ h=>(nomatch h)),(λ_ _ h=>(nomatch h)),(λ_ _ h=>(nomatch h)),(λ_ _ h=>(nomatch h))⟩
theorem mY{x:AL}{i:Int}{t:Tok}(h:mg (⇑x)=some (.int i t)):∃u v,mg (⇑x)=some u/\RelV v u/\∀H F,Rep K H F (.int i) v:=⟨_,.int i,h,⟨t,rfl⟩,λ_ _=>rfl⟩
theorem adG{x:AL}{l:AA}{s:Str}{t:Tok}(h:mg (⇑x)=some (.str s t))(e:s=tx l)(hl:l.length<=sz):∃u v,mg (⇑x)=some u/\RelV v u/\∀H F,Rep K H F (.str l) v:=⟨_,.str s,h,⟨t,rfl⟩,λ_ _=>⟨by rw[e],hl⟩⟩
theorem yV{n:Nat}{S:RF.Spec}{fa:AQ}{fd:AJ}{ps:AD}(h:∀ds G a,¬S.pre ds G a):FnOk P w K mg base (CX1 P w) k fa fd ps (lift K n S):=
 ⟨λ_ _ _ _ ⟨_,_,_,_,_,_,a,hp,_⟩=>absurd hp (h _ _ a),λ_ _ _ _ _ _ _ _ _ _ _ _ _ ⟨_,_,_,_,_,_,a,hp,_⟩=>absurd hp (h _ _ a)⟩
end
section
variable {Z:aa} {P:AK} {w:World} {K:PF} {mg:AH} {base:Heap} {k j n:Nat} {fs:List (AL×Nat)} {bt:List AL} {cn:List (AL×D)} {xs:List (AL×Bool)} {ot:OT} {x:AL} {S:RF.Spec} {fa:AQ} {fd:AJ} {ps:AD}
theorem MthOk.mono{f C m:AL}(h:MthOk Z P w K mg base (CX1 P w) k f C m n)(hk:k<=j):MthOk Z P w K mg base (CX1 P w) j f C m n:=by obtain ⟨c,fa,fd,ps,h1,h2,h3,h4,h5⟩:=h;exact ⟨c,fa,fd,ps,h1,h2,h3,h4,h5.mono hk⟩
theorem MkoOk.mono{C:AL}(h:MkoOk Z P w K mg base (CX1 P w) k C n)(hk:k<=j):MkoOk Z P w K mg base (CX1 P w) j C n:=by obtain ⟨c,fa,fd,ps,sp,i,h0,h⟩:=h;exact ⟨c,fa,fd,ps,sp,i,ce h0 hk,h⟩
theorem XkoX.mono{C f:AL}(h:XkoX P w K mg base (CX1 P w) k xs C f)(hk:k<=j):XkoX P w K mg base (CX1 P w) j xs C f:=by obtain ⟨⟨c,fa,fd,ps,i,h0,h⟩,h2⟩:=h;exact ⟨⟨c,fa,fd,ps,i,ce h0 hk,h⟩,h2⟩
theorem Bse.add(B:Bse Z P w K mg base (CX1 P w) k fs bt cn xs ot)(e:Z x=S)(o:FnOk P w K mg base (CX1 P w) (k+j) fa fd ps (lift K n S))(h2:PySem.W.keepIn K (.ref fa)=true)(h3:Binds K fd ps [])(h4:mg (⇑x)=some (.ref fa)):Bse Z P w K mg base (CX1 P w) (k+j) ((x,n)::fs) bt cn xs ot:=by
 refine ⟨λf m hm=>?_,B.blt,B.con,B.xcl,B.xis,λf C m n h=>(B.mth f C m n h).mono (dk _ _),λC n h=>(B.mko C n h).mono (dk _ _),B.fld,λC f h=>(B.xko C f h).mono (dk _ _)⟩;rcases a7.mp hm with e' |hm
 .cases e';exact ⟨fa,fd,ps,by rw[e];exact o,h2,h3,h4⟩
 .obtain ⟨fa,fd,ps,h1,h⟩:=B.call f m hm;exact ⟨fa,fd,ps,h1.mono (dk _ _),h⟩
theorem Bse.step{qual:Str}{st:Stmt}{N:AD}{body:Sxs}(B:Bse Z P w K mg base (CX1 P w) k fs bt cn xs ot)(F:Fun K (⇑x) qual st fa fd)(h3:Binds K fd ps [])(h4:mg (⇑x)=some (.ref fa))(e:Z x=S)(m:Nat)
  (hs:fnB N ps (ao st)=true) (hc:aC (aG N (ao st) fs bt cn xs ot) body (aD st)=true) (hn:ps.length=n) (hm:N.length=n+m)
  (hw:∀ds G a,ds.length=n->S.pre ds G a->au Z body noE (env0 ds m) G (ends (S.post a))):Bse Z P w K mg base (CX1 P w) (k+1) ((x,n)::fs) bt cn xs ot:=
 B.add e (mV F B S n m hs hc hn hm hw) F.kp h3 h4
theorem Bse.stepX{qual:Str}{st:Stmt}{N:AD}{body:Sxs}(B:Bse Z P w K mg base (CX1 P w) k fs bt cn xs ot)(F:Fun K (⇑x) qual st fa fd)(h3:Binds K fd ps [])(h4:mg (⇑x)=some (.ref fa))(e:Z x=S)(m:Nat)
  (hs:fnB N ps (ao st)=true) (hc:aC (aG N (ao st) fs bt cn xs ot) body (aD st)=true) (hn:ps.length=n) (hm:N.length=n+m)
  (hw:∀ds G a,ds.length=n->S.pre ds G a->au Z body (S.exc a) (env0 ds m) G (ends (S.post a))):Bse Z P w K mg base (CX1 P w) (k+1) ((x,n)::fs) bt cn xs ot:=
 B.add e (aaq F B S n m hs hc hn hm hw) F.kp h3 h4
def gW(Z:aa)(x:AL)(S:RF.Spec):aa:=λf=>if f=x then S else Z f
theorem j0{y:AL}(e:Z y=S){S':RF.Spec}(h:(y==x)=false):gW Z x S' y=S:=by unfold gW;rw[if_neg (!!h)];exact e
theorem Bse.self(B:Bse Z P w K mg base (CX1 P w) k fs bt cn xs {})(hx:(fs.map (·.1)).contains x=false)(o:FnOk P w K mg base (CX1 P w) (k+j) fa fd ps (lift K n S))(h2:PySem.W.keepIn K (.ref fa)=true)(h3:Binds K fd ps [])(h4:mg (⇑x)=some (.ref fa)):Bse (gW Z x S) P w K mg base (CX1 P w) (k+j) ((x,n)::fs) bt cn xs {}:=by
 refine ⟨λf m hm=>?_,B.blt,B.con,B.xcl,B.xis,(λ_ _ _ _ h=>(nomatch h)),(λ_ _ h=>(nomatch h)),(λ_ _ h=>(nomatch h)),(λ_ _ h=>(nomatch h))⟩;rcases a7.mp hm with e' |hm'
 .cases e';exact ⟨fa,fd,ps,by unfold gW;rw[if_pos rfl];exact o,h2,h3,h4⟩
 .obtain ⟨fa,fd,ps,h1,h⟩:=B.call f m hm';have hf:f≠x:=by
   rintro rfl;rw[<-Bool.not_eq_true,aT]at hx;exact hx (bX.mpr ⟨(f,m),hm',rfl⟩)
  exact ⟨fa,fd,ps,by unfold gW;rw[if_neg hf];exact h1.mono (dk _ _),h⟩
end
def adH{S:RF.Spec}(hS:∀(ns:List Int)(G:DH),ns.length<=63->∃a,S.pre [.scr ns] G a/\(∀d G',S.post a d G'->d=.bl true)/\∀x G',¬S.exc a x G')(K:PF)(H:Hp)(a:AQ)(ns:List Int)(hl:ns.length<=63)(hO:Only H)(hs:SqL K H a (ns.map V.int)):
  lift K 1 S [.ref a] H (λv _=>v=.bl true) λ_ _ _=>False:=by
 obtain ⟨b,h1,h2,h3⟩:=hS ns (λ_=>none) hl;refine ⟨rfl,λ_=>False,λ_=>none,[.scr ns],⟨λ_ f=>f.elim,λ_ _ e=>by cases e⟩,⟨.ref a,[],rfl,⟨a,rfl,?_⟩,rfl⟩,b,h1,λd G' q H' F' v _ _ rv=>?_,λx G' q=>absurd q (h3 x G')⟩
 .rcases hs with (h |h) |h
  .exfalso;rcases hO a with z |⟨o,u,z⟩
   .rw[z]at h;cases h
   .rw[z]at h;cases h
  .exact .inl h
  .exact .inr h
 .rw[h2 d G' q]at rv;exact rv
def adI{pre:AS->DH->Prop}(h:∀(ns:List Int)(G:DH),ns.length<=63->pre [.scr ns] G):∀(ns:List Int)(G:DH),ns.length<=63->∃a,(bI pre (λ_ _ d _=>d=.bl true)).pre [.scr ns] G a/\(∀d G',(bI pre (λ_ _ d _=>d=.bl true)).post a d G'->d=.bl true)/\∀x G',¬(bI pre (λ_ _ d _=>d=.bl true)).exc a x G':=
 λns G hl=>⟨([.scr ns],G),⟨rfl,h ns G hl⟩,λ_ _ q=>q,λ_ _ z=>z⟩
def ghS{A:Type}(pre:A->AS->DH->Prop)(post:A->DH->D->DH->Prop):RF.Spec where
 A:=A×DH
 pre:=λds G a=>a.2=G/\pre a.1 ds G
 post:=λa d G'=>post a.1 a.2 d G'
 exc:=λ_ _ _=>False
def gj{A:Type}{pre:A->AS->DH->Prop}{post:A->DH->D->DH->Prop}{ds:AS}{G:DH}{k:AT}{E:EK}(a:A)(h:pre a ds G)(hk:∀d G',post a G d G'->k d G'):(ghS pre post).t ds G k E:=
 ⟨(a,G),⟨rfl,h⟩,hk,λ_ _ z=>z.elim⟩
def gk{A:Type}{Z:aa}{body:Sxs}{m n:Nat}{pre:A->AS->DH->Prop}{post:A->DH->D->DH->Prop}(h:∀a ds G,pre a ds G->au Z body noE (env0 ds m) G (ends (post a G))):
  ∀ds G a,ds.length=n->(ghS pre post).pre ds G a->au Z body noE (env0 ds m) G (ends ((ghS pre post).post a)):=by
 rintro ds G ⟨a,G0⟩ _ ⟨rfl,h1⟩;exact h a ds _ h1
def cT{A:Type}(args:A->AS)(ok:A->Prop)(val:A->D):RF.Spec:=ghS (λa ds _=>ds=args a/\ok a) (λa G d G'=>G'=G/\d=val a)
def dC{A:Type}{args:A->AS}{ok:A->Prop}{val:A->D}{ds:AS}{G:DH}{k:AT}{E:EK}(a:A)(e:ds=args a)(h:ok a)(hk:k (val a) G):(cT args ok val).t ds G k E:=
 gj a ⟨e,h⟩ λd G' ⟨e1,e2⟩=>by subst e1 e2;exact hk
def dD{A:Type}{Z:aa}{body:Sxs}{m n:Nat}{args:A->AS}{ok:A->Prop}{val:A->D}(h:∀a G,ok a->au Z body noE (env0 (args a) m) G (ends λd G'=>G'=G/\d=val a)):
  ∀ds G a,ds.length=n->(cT args ok val).pre ds G a->au Z body noE (env0 ds m) G (ends ((cT args ok val).post a)):=
 gk λa ds G ⟨e,h1⟩=>by subst e;exact h a G h1
section
local macro_rules|`(#[])=>`(.nil)|`(#[$x])=>`(.cons $x .nil)|`(#[$x,$y,*])=>`(.cons $x #[$y,*])
local macro_rules|`(-$x)=>`(.var $x)
local macro_rules|`(¬$x)=>`(.cst (.int $x))
local macro_rules|`(!$x)=>`(.cst (.str $x))
local macro_rules|`($x<|$y)=>`(.call $x $y)
def yW:Sxs:=#[.set (-0) (¬2) (¬0),.ret (-0)]
def yX:Sxs:=#[.ite (.val (.cmp .GtE (-0) (.bin .Pow true (¬10) (¬18)))) #[.ret (-0)] #[],.asg (.nm 2) (.bin .Mod true (.bin .Add true (.bin .Add true (.bin .Mult true (.bin .Mod true (-0) (¬1000000007)) (¬69069)) (.bin .Mult true (-1) (¬40503))) (¬977)) (¬2147483629)),.asg (.nm 3) (.bin .Mod true (.bin .Add true (.bin .Add true (.bin .Mult true (-2) (-2)) (.bin .Mult true (-1) (¬7919))) (.bin .Mod true (-0) (¬65537))) (¬2147483587)),.asg (.nm 4) (.bin .Mod true (.bin .Add true (.bin .Add true (.bin .Mult true (-3) (-3)) (.bin .Mult true (-2) (¬31))) (¬5)) (¬2147483563)),.ret (.bin .Add true (.bin .Mult true (.bin .Add true (.bin .Mult true (-2) (¬2147483659)) (-3)) (¬2147483693)) (-4))]
def yZ:Sxs:=#[.ite (.val (.cmp .Lt (.idx (-0) (¬2)) (-1))) #[.asg (.nm 2) (.idx (-0) (¬1)),.asg (.nm 3) (¬0),.ite (.val (.cmp .Lt (-2) (.bcl .len #[.idx (-0) (¬0)]))) #[.asg (.nm 3) (.idx (.idx (-0) (¬0)) (-2))] #[.ite (.val (.cmp .Gt (.bcl .len #[.idx (-0) (¬0)]) (¬0))) #[.asg (.nm 3) (.bin .Mod true (.idx (.idx (-0) (¬0)) (.bin .Mod true (.bin .Add true (.bin .Mult true (-2) (¬5)) (¬3)) (.bcl .len #[.idx (-0) (¬0)]))) (.bin .Add true (.bin .Pow true (¬10) (¬17)) (-2)))] #[]],.set (-0) (¬1) (.bin .Add true (-2) (¬1)),.set (-0) (¬2) ("_law_spread"<|#[-3,-2])] #[],.asg (.nm 4) (.bin .Mod true (.idx (-0) (¬2)) (-1)),.set (-0) (¬2) (.bin .FloorDiv true (.idx (-0) (¬2)) (-1)),.ret (-4)]
def za:Sxs:=#[.ret (.mth .join (![]) #[.comp true (.idx (-1) ("_law_take"<|#[-2,.bcl .len #[-1]])) (.nm 0) (.rng (-1)) .yes ["at","signs","pen"] [none,some 2,some 0]])]
def zb:Sxs:=#[.asg (.nm 2) (.lst true #[![97],![103,111],![115,116,97,121],![97,98,99,100,101,102,103,104],![110,111,110,101],![121,101,115],![105,110],![111,117,116],![107,101,101,112],![119,111,114,100],![122,122]]),.asg (.nm 3) ("_law_take"<|#[-0,¬11]),.asg (.nm 4) (.comp true (.idx (-1) (.bin .Mod true (.bin .Add true (-2) (.bin .Mult true (¬3) (-0))) (¬11))) (.nm 0) (.rng (.bin .Add true (¬1) ("_law_take"<|#[-0,-1]))) .yes ["k","some","turn"] [none,some 2,some 3]),.ite (.val (.cmp .Eq ("_law_take"<|#[-0,¬3]) (¬0))) #[.asg (.nm 5) (![97,98,99,100,101,102,103,104,105,106,107,108,109,110,111,112,113,114,115,116,117,118,119,120,121,122]),.asg (.nm 4) (.comp true ("_law_signs"<|#[-1,.bin .Add true (¬1) ("_law_take"<|#[-1,¬8]),-2]) (.nm 0) (.seq (-4)) .yes ["one","pen","letters"] [none,some 0,some 5])] #[],.ret (-4)]
def zc:Sxs:=#[.ret ("_law_signs"<|#[-0,-1,.idx (.lst true #[![48,49,42],![48,49,42,42],![48,49,42,42,42,42],![48,42],![48,49]]) ("_law_take"<|#[-0,¬5])])]
def zf:Sxs:=#[.asg (.nm 2) (![]),.for_ (.nm 3) (.seq (-1)) #[.ite (.val (.cmp .Eq ("_law_take"<|#[-0,¬3]) (¬0))) #[.asg (.nm 3) (![42])] #[],.asg (.nm 2) (.bin .Add true (-2) (-3))],.ret (-2)]
def zg:Sxs:=#[.asg (.nm 2) (![]),.for_ (.nm 3) (.seq (-1)) #[.ite (.boo true (.val (.cmp .Eq (-3) (![42]))) #[.val (.cmp .Eq ("_law_take"<|#[-0,¬2]) (¬0))]) #[.asg (.nm 3) (.idx (![48,49]) ("_law_take"<|#[-0,¬2]))] #[],.asg (.nm 2) (.bin .Add true (-2) (-3))],.ret (-2)]
def zj:Sxs:=#[.asg (.nm 3) ("_law_take"<|#[-0,¬7]),.ite (.boo false (.val (.cmp .Eq (-2) (.lst true #[]))) #[.val (.cmp .Lt (-3) (¬2))]) #[.ret ("_law_form"<|#[-0,-1])] #[],.asg (.nm 4) (.idx (-2) ("_law_take"<|#[-0,.bcl .len #[-2]])),.ite (.val (.cmp .Eq (-3) (¬2))) #[.ret (-4)] #[],.ite (.val (.cmp .Lt (-3) (¬5))) #[.asg (.nm 5) ("_law_take"<|#[-0,-1]),.ret (.bin .Add true (.bin .Add true (.slc true (-4) .no (.ob (-5))) (.idx (![48,49,42]) ("_law_take"<|#[-0,¬3]))) (.slc true (-4) (.ob (.bin .Add true (-5) (¬1))) .no))] #[],.ite (.val (.cmp .Eq (-3) (¬5))) #[.ret ("_law_within"<|#[-0,-4])] #[],.ret ("_law_wider"<|#[-0,-4])]
def zm:Sxs:=#[.asg (.nm 3) (.bin .Add true (¬1) ("_law_take"<|#[-0,-1])),.asg (.nm 4) ("_law_deeds_of"<|#[-0,¬3]),.asg (.nm 5) (.lst false #[]),.asg (.nm 6) (.lst false #[]),.for_ (.nm 7) (.rng ("_law_take"<|#[-0,.bin .Add true (-2) (¬1)])) #[.exp (.mth .append (-5) #["_law_form_like"<|#[-0,-3,-5]]),.exp (.mth .append (-6) #[.tup #[.idx (-5) (.neg (¬1)),.idx (-4) ("_law_take"<|#[-0,.bcl .len #[-4]])]])],.ret (.tup #[-3,.bcl .tuple #[-6]])]
def zu:Sxs:=#[.ite (.boo true (.val (.cmp .Gt (-0) (¬0))) #[.boo false (.val (.cmp .Gt (.bcl .len #[.idx (-1) (¬1)]) (¬5))) #[.val (.cmp .Gt (.idx (-1) (¬0)) (¬4))]]) #[.ret (![109,97,110,121])] #[],.ret (.idx (.lst true #[![111,114,100,101,114],![110,111,110,101]]) (.bcl .int #[-2]))]
def zx:Sxs:=#[.asg (.nm 2) (.lst true #[.lcl true .list #[-1],.bin .Add true (-1) (.tup #[.bcl .len #[-1]]),.bin .Add true (.slc true (-1) (.ob (¬1)) .no) (.bin .Mult true (.tup #[.bcl .len #[-1]]) (¬2)),.cst .non,![],.bin .Add true (-1) (.tup #[.neg (¬1)]),¬7]),.ite (.val (.cmp .Gt (.bcl .len #[-1]) (¬1))) #[.asg (.nm 2) (.bin .Add true (-2) (.lst true #[.slc true (-1) (.ob (¬1)) .no,.bin .Add true (.slc true (-1) (.ob (¬1)) .no) (.slc true (-1) (.ob (¬1)) (.ob (¬2))),.bcl .tuple #[.comp true (.boo false (.cmp .Eq (-0) (¬1)) #[-0]) (.nm 0) (.seq (-1)) .yes ["number"] [none]]]))] #[],.ret (.idx (-2) ("_law_take"<|#[-0,.bcl .len #[-2]]))]
def zy:Sxs:=#[.asg (.nm 1) (.lcl false .list #[.slc true (-0) .no (.ob (¬12))]),.for_ (.tp #[.nm 2,.nm 3]) (.enm (.slc true (-0) (.ob (¬12)) (.ob (¬63)))) #[.set (-1) (.bin .Mod true (-2) (¬12)) (.bin .Add true (.idx (-1) (.bin .Mod true (-2) (¬12))) (-3))],.ret (.lst false #[.frz (-1),¬0,¬0])]
def zA:Sxs:=#[.asg (.nm 2) (.rgl false (-1)),.ret (.bcl .tuple #[.comp true (.mth .pop (-1) #["_law_take"<|#[-2,.bcl .len #[-1]]]) (.nm 0) (.rng (-1)) .yes ["k","left","pen"] [none,some 2,some 0]])]
def mZ:Sxs:=#[.ite (.val (.cmp .Is (-1) (.cst .non))) #[.ret (.cmp .Is (-0) (.cst .non))] #[],.ite (.boo false (.val (.isi (-1) "bool")) #[.val (.isi (-0) "bool")]) #[.ret (.boo true (.isi (-1) "bool") #[.isi (-0) "bool",.cmp .Eq (-0) (-1)])] #[],.ite (.val (.isi (-1) "int")) #[.ret (.boo true (.isi (-0) "int") #[.cmp .Eq (-0) (-1)])] #[],.ite (.val (.isi (-1) "str")) #[.ret (.boo true (.isi (-0) "str") #[.cmp .Eq (-0) (-1)])] #[],.ite (.boo false (.val (.cmp .NotEq (.isi (-1) "tuple") (.isi (-0) "tuple"))) #[.val (.cmp .NotEq (.isi (-1) "list") (.isi (-0) "list"))]) #[.ret (.cst (.bl false))] #[],.ite (.val (.cmp .NotEq (.bcl .len #[-0]) (.bcl .len #[-1]))) #[.ret (.cst (.bl false))] #[],.ret (.cmp .NotIn (.cst (.bl false)) (.comp true ("_law_same"<|#[-0,-1]) (.tp #[.nm 0,.nm 1]) (.zip (-0) (-1)) .yes ["one","other"] [none,none]))]
def j4:Sxs:=#[.ite (.boo false (.not (.val (.isi (-0) "str"))) #[.not (.val (.chn .LtE .LtE (¬1) (.bcl .len #[-0]) (.glb "LONGEST_DEED" (.int 8))))]) #[.ret (.cst (.bl false))] #[],.ret (.bcl .all #[.comp true (.cmp .In (-0) (.glb "LETTERS" (.str [97,98,99,100,101,102,103,104,105,106,107,108,109,110,111,112,113,114,115,116,117,118,119,120,121,122]))) (.nm 0) (.seq (-0)) .yes ["sign"] [none]])]
def j5:Sxs:=#[.ite (.boo false (.not (.val (.isi (-2) "str"))) #[.val (.cmp .NotEq (.bcl .len #[-2]) (-1))]) #[.ret (.cst (.bl false))] #[],.ret (.bcl .all #[.comp true (.cmp .In (-0) (-1)) (.nm 0) (.seq (-2)) .yes ["sign","signs"] [none,some 0]])]
def m5:Sxs:=#[.ret ("is_text_of"<|#[![48,49,42],-0,-1])]
def gm:Sxs:=#[.ite (.boo false (.not (.val (.isi (-1) "tuple"))) #[.val (.cmp .NotEq (.bcl .len #[-1]) (¬2))]) #[.ret (.cst (.bl false))] #[],.ret (.boo true ("is_form"<|#[-0,.idx (-1) (¬0)]) #["is_deed"<|#[.idx (-1) (¬1)]])]
def m6:Sxs:=#[.ret (.boo true (.isi (-0) "int") #[.not (.isi (-0) "bool")])]
def m7:Sxs:=#[.ret (.boo true ("is_whole"<|#[-0]) #[.chn .LtE .LtE (¬1) (-0) (.glb "WIDEST" (.int 6))])]
def gn:Sxs:=#[.ite (.boo false (.not (.val (.isi (-0) "tuple"))) #[.val (.cmp .NotEq (.bcl .len #[-0]) (¬2))]) #[.ret (.cst (.bl false))] #[],.asg (.tp #[.nm 1,.nm 2]) (-0),.ite (.boo false (.not (.val ("is_width"<|#[-1]))) #[.not (.val (.isi (-2) "tuple")),.val (.cmp .Gt (.bcl .len #[-2]) (.glb "MOST_ROWS" (.int 12)))]) #[.ret (.cst (.bl false))] #[],.ret (.bcl .all #[.comp true ("is_row"<|#[-1,-0]) (.nm 0) (.seq (-2)) .yes ["row","width"] [none,some 1]])]
def iV:Sxs:=#[.ite (.not (.val ("is_book"<|#[-0]))) #[.rse "NoBook" #[]] #[]]
def m8:Sxs:=#[.ret (.boo true ("is_whole"<|#[-1]) #[.chn .LtE .Lt (¬0) (-1) (-0)])]
def fB:Sxs:=#[.asg (.nm 2) (.bcl .len #[.idx (-0) (¬1)]),.ite (.boo false (.not (.val (.isi (-1) "tuple"))) #[.not (.val (.bcl .all #[.comp true ("is_place"<|#[-1,-0]) (.nm 0) (.seq (-1)) .yes ["number","many"] [none,some 2]]))]) #[.ret (.cst (.bl false))] #[],.ret (.cmp .Eq (.lcl true .sorted #[-1]) (.rgl true (-2)))]
def iW:Sxs:=#[.ite (.not (.val ("is_order"<|#[-0,-1]))) #[.rse "NoOrder" #[]] #[]]
def gY:Sxs:=#[.exp ("need_book"<|#[-0]),.exp ("need_order"<|#[-0,-1]),.asg (.tp #[.nm 2,.nm 3]) (-0),.ret (.tup #[-2,.bcl .tuple #[.comp true (.idx (-1) (-0)) (.nm 0) (.seq (-1)) .yes ["number","rows"] [none,some 3]]])]
def m9:Sxs:=#[.ret (.rgt (.bcl .len #[.idx (-0) (¬1)]))]
def gZ:Sxs:=#[.exp ("need_book"<|#[-0]),.asg (.tp #[.nm 1,.nm 2]) (-0),.ite (.boo false (.val (.cmp .Gt (.bcl .len #[-2]) (.glb "MOST_ROWS_MOVED" (.int 5)))) #[.val (.cmp .Gt (-1) (.glb "WIDEST_MOVED" (.int 4)))]) #[.rse "TooMany" #[.glb "MOST_ROWS_MOVED" (.int 5),.glb "WIDEST_MOVED" (.int 4)]] #[]]
def j6:Sxs:=#[.exp ("need_movable"<|#[-0]),.exp ("need_order"<|#[-0,-1]),.ite (.not (.val (.bcl .all #[.comp true ("is_order"<|#[-1,-0]) (.nm 0) (.seq (-2)) .yes ["given","book"] [none,some 0]]))) #[.ret (.cst (.bl false))] #[],.asg (.nm 3) (.dc0 (-2)),.ite (.boo false (.val (.cmp .NotEq (.bcl .len #[-3]) (.bcl .len #[-2]))) #[.val (.cmp .NotIn ("first_order"<|#[-0]) (-3)),.val (.cmp .In (-1) (-3))]) #[.ret (.cst (.bl false))] #[],.nev,.nev]
def ni:Sxs:=#[.ret (.bin .Add true (.bin .Add true (.slc true (-0) .no (.ob (-1))) (.tup #[.idx (-0) (.bin .Add true (-1) (¬1)),.idx (-0) (-1)])) (.slc true (-0) (.ob (.bin .Add true (-1) (¬2))) .no))]
def nq:Sxs:=#[.asg (.nm 2) (![]),.for_ (.tp #[.nm 3,.nm 4]) (.zip (-0) (-1)) #[.ite (.val (.cmp .Eq (-3) (![42]))) #[.aug 2 .Add (-4)] #[.ite (.boo false (.val (.cmp .Eq (-4) (![42]))) #[.val (.cmp .Eq (-4) (-3))]) #[.aug 2 .Add (-3)] #[.ret (.cst .non)]]],.ret (-2)]
def nu:Sxs:=#[.for_ (.tp #[.nm 2,.nm 3]) (.enm (-0)) #[.ite (.val (.cmp .IsNot ("both"<|#[.idx (-3) (¬0),-1]) (.cst .non))) #[.ret (-2)] #[]],.ret (.cst .non)]
def nA:Sxs:=#[.asg (.nm 2) ("first_touching"<|#[-0,-1]),.ite (.val (.cmp .Is (-2) (.cst .non))) #[.ret (.cst .non)] #[],.for_ (.tp #[.nm 3,.nm 4]) (.enm (.idx (.idx (-0) (-2)) (¬0))) #[.ite (.boo true (.val (.cmp .Eq (.idx (-1) (-3)) (![42]))) #[.val (.cmp .NotEq (-4) (![42]))]) #[.ret (-3)] #[]],.ret (.cst .non)]
def nF:Sxs:=#[.ret (.bin .Add true (.bin .Add true (.slc true (-0) .no (.ob (-1))) (-2)) (.slc true (-0) (.ob (.bin .Add true (-1) (¬1))) .no))]
def j7:Sxs:=#[.for_ (.nm 3) (.seq (-1)) #[.asg (.nm 4) ("splitting_place"<|#[-3,-2]),.ite (.val (.cmp .IsNot (-4) (.cst .non))) #[.asg (.nm 5) ("grown"<|#[-0,-1,"with_sign"<|#[-2,-4,![48]]]),.asg (.nm 6) ("grown"<|#[-0,-1,"with_sign"<|#[-2,-4,![49]]]),.ret (.tup #[![115,112,108,105,116],-4,-5,-6])] #[]],.ret (.bin .Add true (.tup #[-0]) (.bcl .tuple #[.comp true ("first_touching"<|#[-0,-1]) (.nm 0) (.seq (-1)) .yes ["rows","box"] [none,some 2]]))]
def nG:Sxs:=#[.ret (.boo true (.isi (-2) "tuple") #[.cmp .Eq (.bcl .len #[-2]) (.bin .Add true (-1) (¬1)),.cmp .Eq (.idx (-2) (¬0)) (-0)])]
def iY:Sxs:=#[.ite (.not (.val ("is_named"<|#[![115,112,108,105,116],¬3,-1]))) #[.ret (.lst true #[.tup #[-0,-1]])] #[],.asg (.nm 2) (.idx (-1) (¬1)),.ite (.boo false (.not (.val ("is_place"<|#[.bcl .len #[-0],-2]))) #[.val (.cmp .NotEq (.idx (-0) (-2)) (![42]))]) #[.ret (.cst .non)] #[],.asg (.nm 3) ("leaves"<|#["with_sign"<|#[-0,-2,![48]],.idx (-1) (¬2)]),.asg (.nm 4) ("leaves"<|#["with_sign"<|#[-0,-2,![49]],.idx (-1) (¬3)]),.ite (.boo false (.val (.cmp .Is (-3) (.cst .non))) #[.val (.cmp .Is (-4) (.cst .non))]) #[.ret (.cst .non)] #[],.ret (.bin .Add true (-3) (-4))]
def nH:Sxs:=#[.exp ("need_book"<|#[-0]),.exp ("need_book"<|#[-1]),.ite (.val (.cmp .NotEq (.idx (-0) (¬0)) (.idx (-1) (¬0)))) #[.rse "NoMatch" #[.idx (-0) (¬0),.idx (-1) (¬0)]] #[]]
def j8:Sxs:=#[.ite (.val (.cmp .Is (-1) (.cst .non))) #[.ret (.cst .non)] #[],.ret (.idx (.idx (.idx (-0) (¬1)) (-1)) (¬1))]
def nJ:Sxs:=#[.ret (.cmp .Eq ("deed_of"<|#[-0,.idx (-2) (¬1)]) ("deed_of"<|#[-1,.idx (-2) (¬2)]))]
def nM:Sxs:=#[.ret (.bin .Mult true (![42]) (-0))]
def nO:Sxs:=#[.exp ("need_two_books"<|#[-0,-1]),.asg (.nm 2) ("stars"<|#[.idx (-0) (¬0)]),.asg (.nm 3) ("grown"<|#[![115,97,109,101],.lst true #[.idx (-0) (¬1),.idx (-1) (¬1)],-2]),.asg (.nm 4) (.comp true ("least"<|#[-0]) (.tp #[.nm 0,.nm 1]) (.seq ("leaves"<|#[-2,-3])) (.not (.val ("same_deeds"<|#[-2,-3,-1]))) ["part","leaf","one","other"] [none,none,some 0,some 1]),.ite (.val (-4)) #[.ret (.tup #[![112,97,114,116,101,100],.bcl .min #[-4]])] #[],.ret (.tup #[![97,108,105,107,101],-3])]
def nP:Sxs:=#[.asg (.tp #[.nm 2,.nm 3]) ("alike"<|#[-0,-1]),.ret (.ife (.val (.cmp .Eq (-2) (![112,97,114,116,101,100]))) (-3) (.cst .non))]
def nQ:Sxs:=#[.ret (.cmp .Is ("parting_word"<|#[-0,"by_order"<|#[-0,-1]]) (.cst .non))]
def j9:Sxs:=#[.exp ("need_movable"<|#[-0]),.exp ("need_order"<|#[-0,-1]),.asg (.nm 3) ("first_order"<|#[-0]),.for_ (.nm 4) (.seq (-2)) #[.ite (.not (.val ("is_place"<|#[.bin .Sub true (.bcl .len #[-3]) (¬1),-4]))) #[.ret (.cst (.bl false))] #[],.asg (.nm 3) ("exchanged"<|#[-3,-4]),.ite (.not (.val ("is_good"<|#[-0,-3]))) #[.ret (.cst (.bl false))] #[]],.ret (.cmp .Eq (-3) (-1))]
def nR:Sxs:=#[.ret (.comp true (.tup #[-0,"exchanged"<|#[-1,-0]]) (.nm 0) (.rng (.bin .Sub true (.bcl .len #[-0]) (¬1))) .yes ["place","order"] [none,some 0])]
def nT:Sxs:=#[.asg (.nm 2) (.dp1 ("first_order"<|#[-0]) (.lst true #[])),.asg (.nm 3) .dnw,.asg (.nm 4) (.lcl true .list #[-2]),.whl (.boo true (.val (-4)) #[.val (.cmp .NotIn (-1) (-2))]) #[.asg (.nm 5) (.lst false #[]),.for_ (.nm 6) (.seq (-4)) #[.for_ (.tp #[.nm 7,.nm 8]) (.seq ("steps_from"<|#[-6])) #[.ite (.boo false (.val (.cmp .In (-8) (-2))) #[.val (.cmp .In (-8) (-3))]) #[.cnt] #[],.ite (.val ("is_good"<|#[-0,-8])) #[.set (-2) (-8) (.bin .Add true (.idx (-2) (-6)) (.lst true #[-7])),.exp (.mth .append (-5) #[-8])] #[.set (-3) (-8) (.cst (.bl true))]]],.asg (.nm 4) (.frz (-5))],.ret (-2)]
def iZ:Sxs:=#[.exp ("need_movable"<|#[-0]),.exp ("need_order"<|#[-0,-1]),.asg (.nm 2) ("good_ways"<|#[-0,-1]),.ite (.val (.cmp .In (-1) (-2))) #[.ret (.tup #[![119,97,121],.idx (-2) (-1)])] #[],.ret (.tup #[![97,112,97,114,116],.lcl true .list #[-2]])]
def zB:Sxs:=#[.asg (.nm 3) (.cst .non),.tryx (.ite (.val (.cmp .Eq (-0) (¬0))) ("by_order"<|#[-1,-2]) (.ite (.val (.cmp .Eq (-0) (¬1))) ("way"<|#[-1,-2]) (.ite (.val (.cmp .Eq (-0) (¬2))) ("is_way"<|#[-1,-2,.lst true #[]]) ("is_apart"<|#[-1,-2,.lst true #[]])))) "SieveError" (.bind 4 3) ["NoBook","NoMatch","NoOrder","TooMany"],.asg (.nm 5) (.lst true #[.isx (-3) "NoBook" ["NoBook","NoMatch","NoOrder","TooMany"],.isx (-3) "TooMany" ["NoBook","NoMatch","NoOrder","TooMany"],.isx (-3) "NoOrder" ["NoBook","NoMatch","NoOrder","TooMany"]]),.asg (.nm 6) (.lst true #[.isx (-3) "NoMatch" ["NoBook","NoMatch","NoOrder","TooMany"],.isx (-3) "NoRow" ["NoBook","NoMatch","NoOrder","TooMany"]]),.ite (.val (.cmp .Is (-3) (.cst .non))) #[.ret (![110,111,110,101])] #[],.ite (.boo false (.val (.cmp .NotEq (.mth .count (-5) #[.cst (.bl true)]) (¬1))) #[.val (.cmp .In (.cst (.bl true)) (-6)),.not (.val (.isx (-3) "ValueError" ["NoBook","NoMatch","NoOrder","TooMany"]))]) #[.ret (![111,100,100])] #[],.ret (.idx (.lst true #[![98,111,111,107],![109,97,110,121],![111,114,100,101,114]]) (.mth .index (-5) #[.cst (.bl true)]))]
def zE:Sxs:=#[.asg (.nm 1) ("_law_open"<|#[-0]),.for_ (.nm 2) (.rng (¬4)) #[.asg (.nm 3) ("_law_book"<|#["_law_anew"<|#[-1],.idx (.lst true #[¬6,¬5,¬2,¬4]) (-2),.idx (.lst true #[¬12,¬7,¬4,¬7]) (-2)]),.asg (.nm 4) ("_law_order"<|#[-1,.bcl .len #[.idx (-3) (¬1)]]),.asg (.nm 5) (.tup #[.idx (-3) (¬0),.bcl .tuple #[.comp true (.idx (.idx (-1) (¬1)) (-0)) (.nm 0) (.seq (-4)) .yes ["number","book"] [none,some 3]]]),.ite (.not (.val ("_law_same"<|#["by_order"<|#[-3,-4],-5]))) #[.ret (.cst (.bl false))] #[],.asg (.nm 6) ("_law_no_order"<|#[-1,-4]),.asg (.nm 7) (.idx (.lst true #[.tup #[],.tup #[¬0,.tup #[]],.lst true #[],.idx (-3) (¬1),.cst .non]) ("_law_take"<|#[-1,¬5])),.for_ (.nm 8) (.rng (¬4)) #[.ite (.val (.cmp .NotEq ("_law_told"<|#[-8,-7,-6]) (![98,111,111,107]))) #[.ret (.cst (.bl false))] #[],.ite (.val (.cmp .NotEq ("_law_told"<|#[-8,-3,-6]) ("_law_due"<|#[-8,-3,.cst (.bl false)]))) #[.ret (.cst (.bl false))] #[],.ite (.val (.cmp .NotEq ("_law_told"<|#[-8,-3,-4]) ("_law_due"<|#[-8,-3,.cst (.bl true)]))) #[.ret (.cst (.bl false))] #[]]],.ret (.cst (.bl true))]
end
end RF
local macro_rules | `(tactic| simp_arith! [$l,*] $[$c:location]?) => `(tactic| simp only [↓RF.xj, ↓RF.jO, ↓RF.xm, ↓RF.xq, ↓RF.xr, ↓RF.xu, ↓RF.xF, ↓RF.xG, ↓RF.xH, ↓RF.xJ, ↓RF.xP, ↓RF.rW, ↓RF.rY, ↓RF.xM, ↓RF.Ed, ↓RF.xN, ↓RF.xO, ↓RF.wX, ↓RF.wF, ↓RF.wY, ↓RF.wZ, ↓RF.Ea, ↓RF.Eb, ↓RF.Ec, ↓RF.xK, ↓RF.ady, ↓RF.adD, ↓RF.wg, ↓RF.wj, ↓RF.wk, ↓RF.lX, ↓RF.jM, ↓RF.iG, ↓RF.W0, ↓RF.wu, ↓RF.rO, ↓RF.ww, ↓RF.rP, ↓RF.wy, ↓RF.wz, ↓RF.wA, ↓RF.wB, ↓RF.wC, ↓RF.wD, ↓RF.abK, ↓RF.abR, ↓RF.x_at, ↓RF.abV, ↓RF.abT, ↓RF.abS, ↓RF.abU, ↓RF.jN, ↓RF.wG, ↓RF.wH, ↓RF.wI, ↓RF.rQ, ↓RF.rR, ↓RF.wJ, ↓RF.wK, ↓RF.wL, ↓RF.wM, ↓RF.wN, ↓RF.wO, ↓RF.wQ, ↓RF.wR, ↓RF.wU, ↓RF.wV, ↓RF.wW, ↓RF.gM, ↓RF.w5, ↓RF.adC, ↓RF.aaF, ↓RF.aaG, ↓RF.aaH, ↓RF.aaI, ↓RF.aaJ, ↓RF.aaK, ↓RF.aaN, ↓RF.aaM, ↓RF.aaL, ↓RF.aaO, ↓RF.aaP, ↓RF.aaQ, ↓RF.aaR, ↓RF.aaS, ↓RF.aaT, ↓RF.aaU, ↓RF.aaV, ↓RF.aaW, ↓RF.aaX, ↓RF.aaY, ↓RF.aaZ, ↓RF.aa0, ↓RF.aa1, ↓RF.aa2, ↓RF.aa3, ↓RF.aa4, ↓RF.aa5, ↓RF.aa6, ↓RF.aa7, ↓RF.aa8, ↓RF.aa9, ↓RF.aba, ↓RF.abb, ↓RF.abd, ↓RF.abe, ↓RF.abf, ↓RF.abg, ↓RF.Ik, ↓RF.abh, ↓RF.abi, ↓RF.abj, ↓RF.abl, ↓RF.abk, ↓RF.abm, ↓RF.abn, ↓RF.abo, ↓RF.abp, ↓RF.abq, ↓RF.abr, ↓RF.abt, ↓RF.abu, ↓RF.abv, ↓RF.abw, ↓RF.abC, ↓RF.abD, ↓RF.abB, ↓RF.abE, ↓RF.abA, ↓RF.aby, ↓RF.abz, ↓RF.abx, ↓RF.abF, ↓RF.abG, ↓RF.abH, ↓RF.abI, ↓RF.abJ, ↓RF.abN, ↓RF.abO, ↓RF.abP, ↓RF.abQ, ↓RF.acf, ↓RF.ace, ↓RF.abM, ↓RF.abW, ↓RF.abX, ↓RF.abY, ↓RF.abZ, ↓RF.Iu, ↓RF.uw, ↓RF.Im, ↓RF.Io, ↓RF.Ip, ↓RF.ab0, ↓RF.ab1, ↓RF.xf, ↓RF.rT, ↓RF.xg, ↓RF.ab2, ↓RF.ab3, ↓RF.ab4, ↓RF.ab5, ↓RF.ab6, ↓RF.ab7, ↓RF.ab8, ↓RF.ab9, ↓RF.aca, ↓RF.acb, ↓RF.acd, ↓RF.acg, ↓RF.ach, ↓RF.aci, ↓RF.acj, ↓RF.ack, ↓RF.acl, ↓RF.acn, ↓RF.aco, ↓RF.acp, ↓RF.acq, ↓RF.acr, ↓RF.acs, ↓RF.acu, ↓RF.acv, ↓RF.is_tup, ↓RF.acw, ↓RF.acx, ↓RF.acz, ↓RF.acy, ↓RF.acA, ↓RF.acB, ↓RF.Ij, RF.adz, RF.adA, RF.adB, Option.join_some, List.map_cons, List.map_nil, List.cons_append, List.nil_append, List.replicate_succ, List.replicate_zero, List.getElem?_cons_zero, List.getElem?_cons_succ, List.set_cons_zero, List.set_cons_succ, List.length_cons, List.length_nil, RF.aau, RF.aav, RF.aaw, RF.aax, RF.aaz, RF.aaA, RF.aaB, true_and, and_true, Nat.min_self, Nat.zero_min, Nat.min_zero, Nat.zero_le, Bool.or_false, Bool.or_true, Bool.false_or, Bool.true_or, Bool.not_true, Bool.not_false, RF.acC, RF.acD, RF.acE, RF.acF, RF.acG, RF.acH, RF.acI, RF.acJ, RF.acK, RF.acL, RF.acM, RF.acN, RF.acO, RF.acP, RF.acQ, RF.acR, RF.acS, RF.acT, RF.acU, RF.acV, RF.acW, RF.acX, RF.acY, RF.acZ, RF.ac0, RF.ac1, RF.ac2, RF.ac3, RF.ac4, RF.ac5, RF.ac6, RF.ac7, RF.ac8, RF.ac9, RF.ada, RF.adb, RF.adc, RF.ade, RF.adf, RF.adg, RF.adh, RF.adi, RF.adk, RF.adl, RF.adm, RF.adn, RF.ado, RF.adp, RF.adq, RF.adt, RF.adu, RF.adv, RF.adw, RF.adx, RF.env0, RF.ends, String.reduceBEq, $l,*] $[$c:location]?)
local macro_rules | `(tactic| simp_arith [$l,*] $[$c:location]?) => `(tactic| simp_arith! [↓RF.lY, ↓RF.lZ, $l,*] $[$c:location]?)
local macro_rules | `(tactic| simp_all_arith [$l,*]) => `(tactic| simp only [RF.env0, RF.ends, List.map_cons, List.map_nil, List.cons_append, List.nil_append, List.replicate_succ, List.replicate_zero, $l,*])
local macro_rules|`(tactic|bv_omega)=>`(tactic|(have hsz:RF.sz=1000000:=rfl;omega))
local macro_rules|`(tactic|symm)=>do let M:=Lean.mkIdent `M;let h:=Lean.mkIdent `hM;`(tactic|refine $h _ _ (RF.seq fun $M $h=>?_))
local macro_rules|`(tactic|nofun)=>do let M:=Lean.mkIdent `M;let h:=Lean.mkIdent `hM;`(tactic|refine RF.seq fun $M $h=>?_)
local macro_rules|`(tactic|ac_nf0)=>do let h:=Lean.mkIdent `hM;`(tactic|refine $h _ _ (RF.last ?_))
local macro_rules|`(tactic|erw[$[$x:term],*]$[$c:location]?)=>`(tactic|simp_arith[$[$x:term],*]$[$c:location]?)
namespace RF
open PySem L2
def jb{i j:Int}(h:-(2 ^ 64) < j/\j < 2 ^ 64):CMul i j:=.inr h
def zF{i j:Int}(h:-(2 ^ 64) < i/\i < 2 ^ 64):CMul i j:=.inl h
def Iv{j:Int}(h:0<=j/\j<=1000):qP 10 j:=⟨h.1,!0,!1⟩
def ux:RF.Spec:=bI (λds _=>∃c k:Int,ds=[.int c,.int k]/\0<=k) (λ_ G d G'=>G'=G/\∃r:Int,d=.int r/\0<=r)
def adJ(Z:aa)(ds:AS)(G:DH)(h:∃c k:Int,ds=[.int c,.int k]/\0<=k):au Z yX noE (env0 ds 3) G (ends λd G'=>G'=G/\∃r:Int,d=.int r/\0<=r):=by
 obtain ⟨c,k,rfl,hk⟩:=h;erw[yX];refine ⟨Iv (!1),?_⟩;cases hc:decide (10 ^ Int.toNat 18<=c) with
 |true=>
  refine ⟨c,rfl,?_⟩;have:=dQ hc;have h2:(0:Int)<=(10:Int) ^ (18:Int).toNat:=by decide
  exact Int.le_trans h2 this
 |false=>
  generalize hone:(c % 1000000007 * 69069+k * 40503+977) % 2147483629=one;have o1:0<=one:=by rw[<-hone];exact fq _ (!1)
  have o2:one < 2147483629:=by rw[<-hone];exact fm _ (!1)
  generalize htwo:(one * one+k * 7919+c % 65537) % 2147483587=two;have t1:0<=two:=by rw[<-htwo];exact fq _ (!1)
  have t2:two < 2147483587:=by rw[<-htwo];exact fm _ (!1)
  generalize hthree:(two * two+one * 31+5) % 2147483563=three;have h1:0<=three:=by rw[<-hthree];exact fq _ (!1)
  clear hone htwo hthree;refine ⟨!1,jb (!1),jb (!1),!1,zF (!0),jb (!1),!1,!1,zF (!0),jb (!1),!1,jb (!1),jb (!1),_,rfl,?_⟩;omega
def Pen(G:DH)(p:AQ):Prop:=∃(ns:List Int)(k st:Int),G p=some (.lst [.lst (ns.map D.int),.int k,.int st])/\0<=k/\0<=st
def Pen.sa{G G':DH}{p:AQ}(h:Pen G p)(s:Sa G G'):Pen G' p:=by obtain ⟨ns,k,st,e,h1⟩:=h;exact ⟨ns,k,st,s _ _ e,h1⟩
def Pen.ne{G:DH}{p q:AQ}(h:Pen G p)(e:G q=none):p≠q:=by obtain ⟨ns,k,st,e1,h1⟩:=h;exact rA e1 e
def Pen.sb{G G':DH}{p q:AQ}(h:Pen G p)(s:Sb q G G')(n:p≠q):Pen G' p:=by obtain ⟨ns,k,st,e,h1⟩:=h;exact ⟨ns,k,st,s _ _ e n,h1⟩
def uy:RF.Spec:=bI (λds G=>∃p,ds=[.ref p]/\Pen G p) (λds G d G'=>∃p,ds=[.ref p]/\d=.ref p/\Pen G' p/\Sb p G G')
def adK(Z:aa)(ds:AS)(G:DH)(h:∃p,ds=[.ref p]/\Pen G p):au Z yW noE (env0 ds 0) G (ends λd G'=>∃p,ds=[.ref p]/\d=.ref p/\Pen G' p/\Sb p G G'):=by obtain ⟨p,rfl,ns,k,st,e,h1,h2⟩:=h;erw[yW,di e];exact ⟨p,rfl,rfl,⟨ns,k,0,bG,h1,!1⟩,Sb.upd⟩
def dF:RF.Spec:=bI (λds G=>∃p,∃m:Int,ds=[.ref p,.int m]/\Pen G p/\0 < m/\m < 1152921504606846976) (λds G d G'=>∃p,∃m r:Int,ds=[.ref p,.int m]/\d=.int r/\0<=r/\r < m/\Pen G' p/\Sb p G G')
def adL (Z:aa) (hΦ:Z "_law_spread"=ux) (ds:AS) (G:DH) (h:∃p,∃m:Int,ds=[.ref p,.int m]/\Pen G p/\0 < m/\m < 1152921504606846976):
  au Z yZ noE (env0 ds 3) G (ends λd G'=>∃p,∃m r:Int,ds=[.ref p,.int m]/\d=.int r/\0<=r/\r < m/\Pen G' p/\Sb p G G'):=by
 obtain ⟨p,m,rfl,⟨ns,k,st,e,h1,h2⟩,h3,h4⟩:=h;simp_all_arith[yZ];nofun;have fin:∀(ρ2 ρ3 ρ4:Option D)(G1:DH)(k1 s1:Int),0<=k1->0<=s1->G1 p=some (.lst [.lst (ns.map D.int),.int k1,.int s1])->Sb p G G1->M [some (.ref p),some (.int m),ρ2,ρ3,ρ4] G1:=by intro ρ2 ρ3 ρ4 G1 k1 s1 q1 q2 e1 sb;refine hM _ _ ?_;erw[gh e1,di e1];refine ⟨h3,⟨h3,h4⟩,p,m,_,rfl,rfl,fq _ (!0),fm _ h3,⟨ns,k1,_,bG,q1,?_⟩,sb.trans Sb.upd⟩;exact Int.ediv_nonneg q2 (!0)
 erw[gh e,di e,hΦ];have draw:∀c:Int,ux.t [.int c,.int k] (aP G p (.lst [.lst (ns.map D.int),.int (k+1),.int st])) (λx G1=>trk G1 p λds=>aR (ixN ds.length 2) λj=>M [some (.ref p),some (.int m),some (.int k),some (.int c),none] (aP G1 p (.lst (ds.set j x)))) noE:=by intro c;refine bU ⟨c,k,rfl,h1⟩ λd G' hx=>?_;obtain ⟨e1,r,e2,hr⟩:=hx;subst e1 e2;erw[di bG];refine fin _ _ _ _ (k+1) r (!0) hr bG (Sb.trans Sb.upd Sb.upd)
 cases hc:decide (st < m) with
 |false=>exact fin _ _ _ _ k st h1 h2 e (Sb.refl _ _)
 |true=>
  cases hk:decide (k < ((ns.map D.int).length:Int)) with
  |true=>
   have hk:=dQ hk;rw[ag]at hk;refine bw (a:=.int ns[k.toNat]) ?_ ?_
   .obtain ⟨n,rfl⟩:=ci h1;exact b7 (by simp at hk ⊢)
   .exact draw _
  |false=>
   cases hz:decide (0 < ((ns.map D.int).length:Int)) with
   |false=>exact draw 0
   |true=>
    have hz:=dQ hz;have j1:0<=(k * 5+3) % ((ns.map D.int).length:Int):=fq _ (!0);have j2:(k * 5+3) % ((ns.map D.int).length:Int) < ((ns.map D.int).length:Int):=fm _ hz;obtain ⟨j,hj⟩:=ci j1;rw[hj]at j2;have j3:j < ns.length:=by rw[ag]at j2;omega
    refine ⟨jb (!1),hz,bw (a:=.int ns[j]) ?_ ⟨Iv (!1),?_⟩⟩
    .rw[hj];exact b7 (by simp[j3])
    .erw[di e];refine ⟨?_,draw _⟩;have:(0:Int) < 10 ^ Int.toNat 17:=by decide
     omega
def nU:RF.Spec:=bI (λds G=>∃p,∃n:Nat,∃cs:AA,ds=[.ref p,.int n,.str cs]/\Pen G p/\n<=1000/\cs≠[]/\cs.length<=1000)
 (λds G d G'=>∃p,∃n:Nat,∃cs l:AA,ds=[.ref p,.int n,.str cs]/\d=.str l/\l.length=n/\(∀c∈l,c∈cs)/\Pen G' p/\Sb p G G')
def adM(l:AA):((l.map λc=>[c]).map (·.length)).sum=l.length:=by
 induction l with
 |nil=>rfl
 |cons a l ih=>simp at ih ⊢;omega
def adN(l:AA):(l.map λc=>[c]).flatten=l:=by
 induction l with
 |nil=>rfl
 |cons a l ih=>simp at ih ⊢;exact ih
def adO (Z:aa) (hΦ:Z "_law_take"=dF) (ds:AS) (G:DH) (h:∃p,∃n:Nat,∃cs:AA,ds=[.ref p,.int n,.str cs]/\Pen G p/\n<=1000/\cs≠[]/\cs.length<=1000):
  au Z za noE (env0 ds 0) G (ends λd G'=>∃p,∃n:Nat,∃cs l:AA,ds=[.ref p,.int n,.str cs]/\d=.str l/\l.length=n/\(∀c∈l,c∈cs)/\Pen G' p/\Sb p G G'):=by
 obtain ⟨p,n,cs,rfl,hp,hn,hc,hl⟩:=h;have hc1:0 < cs.length:=ge.mpr hc;erw[za,hΦ];refine ⟨!0,CompG.inv (P:=λi acc Y G'=>(∃o,Y=[o,some (.str cs),some (.ref p)])/\Pen G' p/\Sb p G G'/\∃l:AA,acc=l.map (λc=>D.str [c])/\l.length=i/\∀c∈l,c∈cs) (h0:=⟨⟨_,rfl⟩,hp,Sb.refl _ _,[],rfl,rfl,by simp⟩) (hh:=λ_ _ _ _ _=>trivial) (hl:=by simp[aX];bv_omega) (hs:=?_) (he:=?_)⟩
 .rintro i d acc Y G' hd ⟨⟨o,rfl⟩,hp',sb,l,rfl,hl',hm⟩ kk hk;erw[hΦ];refine bU ⟨p,_,rfl,hp',!0,!0⟩ λd' G2 hx=>?_;obtain ⟨p2,m2,r,e1,e2,r0,r1,pp2,sb2⟩:=hx;cases e1;subst e2;obtain ⟨j,rfl⟩:=ci r0;have hj:j < cs.length:=by omega
  erw[ends];refine bw (a:=cs[j]) (b7 (by simp[hj])) (hk _ _ _ ⟨⟨_,rfl⟩,pp2,sb.trans sb2,l++[cs[j]],by simp,by simp[hl'],?_⟩);intro c hc;rcases ba.mp hc with h |h
  .exact hm c h
  .rw[al.mp h];exact da _
 .rintro acc Y G' ⟨_,hp',sb,l,rfl,hl',hm⟩;erw[strs_map];have hl2:l.length=n:=by rw[hl'];simp[aX]
  refine ⟨?_,p,n,cs,l,rfl,?_,hl2,hm,hp',sb⟩
  .rw[adM];simp;bv_omega
  .rw[Ib,adN]
def isF(c:Nat):Prop:=c=48\/c=49\/c=42
def zG:RF.Spec:=bI (λds G=>∃p,∃n:Nat,ds=[.ref p,.int n]/\Pen G p/\n<=1000) (λds G d G'=>∃p,∃n:Nat,∃l:AA,ds=[.ref p,.int n]/\d=.str l/\l.length=n/\(∀c∈l,isF c)/\Pen G' p/\Sb p G G')
def adP (Z:aa) (h1:Z "_law_take"=dF) (h2:Z "_law_signs"=nU) (ds:AS) (G:DH) (h:∃p,∃n:Nat,ds=[.ref p,.int n]/\Pen G p/\n<=1000):
  au Z zc noE (env0 ds 0) G (ends λd G'=>∃p,∃n:Nat,∃l:AA,ds=[.ref p,.int n]/\d=.str l/\l.length=n/\(∀c∈l,isF c)/\Pen G' p/\Sb p G G'):=by
 obtain ⟨p,n,rfl,hp,hn⟩:=h;erw[zc,h1,h2];refine ⟨!1,bU ⟨p,_,rfl,hp,!1,!1⟩ λd' G2 ⟨p2,m2,r,e1,e2,r0,r1,pp2,sb2⟩=>?_⟩;cases e1;subst e2;obtain ⟨j,rfl⟩:=ci r0;erw[ends];have:∃cs:AA,atI [D.str [48,49,42],D.str [48,49,42,42],D.str [48,49,42,42,42,42],D.str [48,42],D.str [48,49]] ((j:Nat):Int)=some (.str cs)/\cs≠[]/\cs.length<=1000/\∀c∈cs,isF c:=by
  have hj:j=0\/j=1\/j=2\/j=3\/j=4:=by omega
  rcases hj with rfl |rfl |rfl |rfl |rfl <;> exact ⟨_,rfl,!1,!1,by simp[isF]⟩
 obtain ⟨cs,e,c1,c2,c3⟩:=this;refine bw e (bU ⟨p,n,cs,rfl,pp2,hn,c1,c2⟩ λd G3 ⟨p3,n3,cs3,l,e1,e2,q1,q2,q3,q4⟩=>?_);cases e1;exact ⟨p,n,l,rfl,e2,q1,λc hc=>c3 c (q2 c hc),q3,sb2.trans q4⟩
def zH:RF.Spec:=bI (λds _=>∃ns:List Int,ds=[.scr ns]/\ns.length<=63) (λ_ G d G'=>∃p,d=.ref p/\G p=none/\Pen G' p/\Sa G G')
def adQ(Z:aa)(ds:AS)(G:DH)(h:∃ns:List Int,ds=[.scr ns]/\ns.length<=63):au Z zy noE (env0 ds 3) G (ends λd G'=>∃p,d=.ref p/\G p=none/\Pen G' p/\Sa G G'):=by
 obtain ⟨ns,rfl,hl⟩:=h;simp_all_arith[zy];nofun;erw[ends];intro c hc;refine hM _ _ ?_;nofun;erw[ends];refine ForG.inv (λi Y G'=>∃(o2 o3:Option D)(xs:List Int),Y=[some (.scr ns),some (.ref c),o2,o3]/\G'=aP G c (.lst (xs.map D.int))/\(12<=xs.length\/cut ns (some 12) (some 63)=[])) ⟨_,_,cut ns none (some 12),rfl,rfl,?_⟩ (λ_ _ _ _=>trivial) ?_ ?_
 .by_cases h12:12<=ns.length
  .left;simp[cut,HT.sIx];omega
  .right;simp[cut,HT.sIx];omega
 .rintro i d Y G' hd ⟨o2,o3,xs,rfl,rfl,hx⟩ kk hk;rw[mR]at hd;obtain ⟨d',hd',e3⟩:=br.mp hd;subst e3;rw[b9]at hd';obtain ⟨x,hx',e4⟩:=br.mp hd';subst e4;have h12:12<=xs.length:=by
   rcases hx with h |h
   .exact h
   .rw[h]at hx';simp at hx'
  obtain ⟨j,hj⟩:=ci (fq ((0+i:Nat):Int) (by decide:(12:Int)≠0));have hj12:j < 12:=by have:=fm ((0+i:Nat):Int) (by decide:(0:Int) < 12);omega
  have hjx:j < xs.length:=by omega
  erw[hj,gh bG,di bG];refine ⟨!1,bw (a:=.int xs[j]) (b7 (by simp[hjx])) ?_⟩;erw[hj,gh bG,di bG,ag,aay hjx];refine ⟨!1,hk _ _ ⟨_,_,xs.set j (xs[j]+x),rfl,?_,by simp[h12]⟩⟩;rw[WQ,List.map_set]
 .rintro Y G' ⟨o2,o3,xs,rfl,rfl,hx⟩;refine hM _ _ ?_;erw[bG];refine ⟨by bv_omega,λp hp=>⟨p,rfl,?_,⟨xs,0,0,bG,!1,!1⟩,?_⟩⟩
  .rw[DP hc]at hp;exact hp
  .rw[DP hc]at hp ⊢;exact Sa.new hp
def nW:RF.Spec:=bI (λds _=>∃ns:List Int,ds=[.scr ns]/\ns.length<=63) (λ_ _ d _=>d=.bl true)
def whole:D->Bool
 |.int _=>true
 |_=>false
def g8:AS->Option D
 |[x]=>if nr x then some (.bl (whole x)) else none
 |_=>none
def adR(Z:aa)(ds:AS)(G:DH)(d:D)(h:g8 ds=some d):au Z m6 noE (env0 ds 0) G (ends λd' G'=>G'=G/\d'=d):=by
 unfold g8 at h;split at h
 .rename_i x;split at h
  .rename_i hx;cases h;cases x <;> first | (simp[nr]at hx;done) | (erw[m6,whole];try simp)
  .cases h
 .cases h
def uz:D->Bool
 |.int i=>decide (1<=i)&&decide (i<=6)
 |_=>false
def nY:AS->Option D
 |[x]=>if nr x then some (.bl (uz x)) else none
 |_=>none
def adS (Z:aa) (h1:Z "is_whole"=aM g8) (ds:AS) (G:DH) (d:D) (h:nY ds=some d):au Z m7 noE (env0 ds 0) G (ends λd' G'=>G'=G/\d'=d):=by
 unfold nY at h;split at h
 .rename_i x;split at h
  .rename_i hx;cases h;have hf:g8 [x]=some (.bl (whole x)):=if_pos hx;erw[m7,h1];refine cF hf ?_;cases x <;> first | (simp[nr]at hx;done) | (erw[whole,uz];first | (simp;done) |skip)
   rename_i i;cases hi:decide (1<=i) with
   |true=>simp
   |false=>simp
  .cases h
 .cases h
def isText(s:AA)(w:Int):D->Bool
 |.str l=>decide ((l.length:Int)=w)&&l.all (λc=>s.contains c)
 |_=>false
def szd:D->Bool
 |.str l=>decide (l.length<=100000)
 |_=>true
def fText:AS->Option D
 |[.str s,.int w,x]=>if nr x&&szd x then some (.bl (isText s w x)) else none
 |_=>none
def all_map{l:AA}{f:Nat->Bool}:((l.map f).all id)=l.all f:=by
 induction l with
 |nil=>rfl
 |cons a l ih=>simp[ih]
def adT(Z:aa)(ds:AS)(G:DH)(d:D)(h:fText ds=some d):au Z j5 noE (env0 ds 0) G (ends λd' G'=>G'=G/\d'=d):=by
 unfold fText at h;split at h
 .rename_i s w x;split at h
  .rename_i hx;cases h;rw[ae]at hx;cases x with
   |str l=>
    have hl:l.length<=100000:=by simpa [szd] using hx.2
    erw[j5,isText];by_cases hw:(l.length:Int)=w
    .have hb:(((l.length:Int)==w):Bool)=true:=by simp[hw]
     erw[hb];refine CompG.map (f:=λd=>match d with |.str [c]=>.bl (s.contains c) |_=>.non) (I:=λY=>∃o,Y=[o,some (.str s)]) ⟨_,rfl⟩ trivial (by simp;bv_omega) ?_ ?_
     .rintro d Y hd ⟨o,rfl⟩ kk hk;obtain ⟨c,_,rfl⟩:=bX.mp hd;erw[ends];exact hk _ ⟨_,rfl⟩
     .rw[dc];erw[Function.comp_def,mW,all_map];simp only[bq hw,e7,eL]
    .have hb:(((l.length:Int)==w):Bool)=false:=by simp[hw]
     erw[hb];simp[hw]
   |ref p=>simp[nr]at hx
   |scr p=>simp[nr]at hx
   |exn p=>simp[nr]at hx
   |exa _ _ _=>simp[nr]at hx
   |obj _ _ _=>simp[nr]at hx
   |dct _ _=>simp[nr]at hx
   |_=>erw[j5,isText];try simp
  .cases h
 .cases h
def nZ:AS->Option D
 |[.int w,x]=>if nr x&&szd x then some (.bl (isText [48,49,42] w x)) else none
 |_=>none
def adU (Z:aa) (h1:Z "is_text_of"=aM fText) (ds:AS) (G:DH) (d:D) (h:nZ ds=some d):au Z m5 noE (env0 ds 0) G (ends λd' G'=>G'=G/\d'=d):=by
 unfold nZ at h;split at h
 .rename_i w x;split at h
  .rename_i hx;cases h;erw[m5,h1];exact cF (d:=.bl (isText [48,49,42] w x)) (if_pos hx) ⟨rfl,rfl⟩
  .cases h
 .cases h
def Iw:∀{l:AS}{d:D},nrs l=true->d∈l->nr d=true
 |a::as,d,h,m=>by
  rw[nrs,ae]at h;rcases a7.mp m with e |m
  .rw[e];exact h.1
  .exact Iw h.2 m
def Iz:∀{l:AS}{d:D},d∈l->dpt d<=aV l
 |a::as,d,m=>by
  rw[aV];rcases a7.mp m with e |m
  .rw[e];exact Nat.le_max_left _ _
  .exact ce (Iz m) (Nat.le_max_right _ _)
def adV{n:Nat}:isIn (.bl false) (List.replicate n (.bl true))=false:=by
 induction n with
 |zero=>rfl
 |succ n ih=>simp only[isIn,ck,List.any_cons,deq]at ih ⊢;rw[ih];rfl
def adW{n:Nat}{b:Bool}:nrs (List.replicate n (.bl b))=true:=by
 induction n with
 |zero=>rfl
 |succ n ih=>rw[ck,nrs,ih];rfl
def adX{n:Nat}{b:Bool}:aV (List.replicate n (.bl b))=0:=by
 induction n with
 |zero=>rfl
 |succ n ih=>rw[ck,aV,ih];rfl
def adY:∀(l:AS)(i:Nat)(d:D),(bT l l)[i]?=some d->∃a,a∈l/\d=.tup [a,a]
 |l,i,d,h=>by
  obtain ⟨a,b,h1,h2,rfl⟩:=yI l l i d h;rw[h1]at h2;cases h2;exact ⟨a,cf h1,rfl⟩
def okF(w:Nat)(l:AA):Prop:=l.length=w/\∀c∈l,isF c
def okF.app{w v:Nat}{l m:AA}(h:okF w l)(h':okF v m):okF (w+v) (l++m):=⟨by rw[aI,h.1,h'.1],λc hc=>(ba.mp hc).elim (h.2 c) (h'.2 c)⟩
def okF.one{c:Nat}(h:isF c):okF 1 [c]:=⟨rfl,λd hd=>by rw[al.mp hd];exact h⟩
def cG{p:AQ}{m:Int}{G:DH}{k:AT}{E:EK}(hp:Pen G p)(h1:0 < m)(h2:m < 1152921504606846976)(hk:∀(r:Nat)(G':DH),(r:Int) < m->Pen G' p->Sb p G G'->k (.int r) G'):dF.t [.ref p,.int m] G k E:=by refine bU ⟨p,m,rfl,hp,h1,h2⟩ λd G' hx=>?_;obtain ⟨p2,m2,r,e1,e2,r0,r1,hp',sb⟩:=hx;cases e1;subst e2;obtain ⟨n,rfl⟩:=ci r0;exact hk n G' r1 hp' sb
def adZ{n:Nat}(h:(n:Int) < 2):∃c,atI [48,49] (n:Int)=some c/\isF c:=by
 have:n=0\/n=1:=by omega
 rcases this with rfl |rfl
 .exact ⟨48,rfl,.inl rfl⟩
 .exact ⟨49,rfl,.inr (.inl rfl)⟩
def ad0{n:Nat}(h:(n:Int) < 3):∃c,atI [48,49,42] (n:Int)=some c/\isF c:=by
 have:n=0\/n=1\/n=2:=by omega
 rcases this with rfl |rfl |rfl
 .exact ⟨48,rfl,.inl rfl⟩
 .exact ⟨49,rfl,.inr (.inl rfl)⟩
 .exact ⟨42,rfl,.inr (.inr rfl)⟩
def zJ(ds:AS)(G:DH):Prop:=∃p l,ds=[.ref p,.str l]/\Pen G p/\(∀c∈l,isF c)/\l.length<=1000
def zK(ds:AS)(G:DH)(d:D)(G':DH):Prop:=∃p l m,ds=[.ref p,.str l]/\d=.str m/\okF l.length m/\Pen G' p/\Sb p G G'
def jc:RF.Spec:=bI zJ zK
def IK{p:AQ}{l:AA}{G:DH}{k:AT}{E:EK}(hp:Pen G p)(hl:∀c∈l,isF c)(h2:l.length<=1000)(hk:∀(m:AA)(G':DH),okF l.length m->Pen G' p->Sb p G G'->k (.str m) G'):jc.t [.ref p,.str l] G k E:=by refine bU ⟨p,l,rfl,hp,hl,h2⟩ λd G' hx=>?_;obtain ⟨p2,l2,m,e1,e2,h,hp',sb⟩:=hx;cases e1;subst e2;exact hk m G' h hp' sb
def ad1 (Z:aa) (h1:Z "_law_take"=dF) (ds:AS) (G:DH) (h:zJ ds G):au Z zg noE (env0 ds 2) G (ends (zK ds G)):=by
 obtain ⟨p,l,rfl,hp,hl,hl2⟩:=h;simp_all_arith[zg];nofun;erw[ends];symm;simp_arith![ends];refine ForG.inv (P:=λi Y G'=>(∃o m,Y=[some (.ref p),some (.str l),some (.str m),o]/\okF i m)/\Pen G' p/\Sb p G G') ⟨⟨_,_,rfl,rfl,by simp⟩,hp,Sb.refl _ _⟩ (λ_ _ _ _=>trivial) ?_ ?_
 .rintro i d Y G2 hd ⟨⟨o,m,rfl,hm⟩,hp2,sb2⟩ kk hk;rw[b9]at hd;obtain ⟨c,hc,rfl⟩:=br.mp hd;have hi:i < l.length:=(ar.mp hc).1;have fc:=hl c (cf hc);have l1:=hm.1;simp_arith![ends];nofun;have fin:∀(c:Nat)(G3:DH),isF c->Pen G3 p->Sb p G2 G3->M [some (.ref p),some (.str l),some (.str m),some (.str [c])] G3:=by
   intro c G3 fc hp3 sb3;ac_nf0;erw[ends];exact ⟨by bv_omega,hk _ _ ⟨⟨_,_,rfl,hm.app (okF.one fc)⟩,hp3,sb2.trans sb3⟩⟩
  erw[h1];cases ht:([c]==[42]) with
  |false=>exact fin c G2 fc hp2 (Sb.refl _ _)
  |true=>
   refine cG hp2 (!1) (!1) λr G3 hr hp3 sb3=>?_;erw[ends];cases hr0:((r:Int)==0) with
   |false=>exact fin c G3 fc hp3 sb3
   |true=>
    refine cG hp3 (!1) (!1) λr' G4 hr' hp4 sb4=>?_;obtain ⟨c',e,fc'⟩:=adZ hr';erw[e];exact fin c' G4 fc' hp4 (sb3.trans sb4)
 .rintro Y G2 ⟨⟨o,m,rfl,hm⟩,hp2,sb2⟩;refine hM _ _ ?_;erw[ends];exact ⟨p,l,m,rfl,rfl,!!hm,hp2,sb2⟩
def ad2 (Z:aa) (h1:Z "_law_take"=dF) (ds:AS) (G:DH) (h:zJ ds G):au Z zf noE (env0 ds 2) G (ends (zK ds G)):=by
 obtain ⟨p,l,rfl,hp,hl,hl2⟩:=h;simp_all_arith[zf];nofun;erw[ends];symm;simp_arith![ends];refine ForG.inv (P:=λi Y G'=>(∃o m,Y=[some (.ref p),some (.str l),some (.str m),o]/\okF i m)/\Pen G' p/\Sb p G G') ⟨⟨_,_,rfl,rfl,by simp⟩,hp,Sb.refl _ _⟩ (λ_ _ _ _=>trivial) ?_ ?_
 .rintro i d Y G2 hd ⟨⟨o,m,rfl,hm⟩,hp2,sb2⟩ kk hk;rw[b9]at hd;obtain ⟨c,hc,rfl⟩:=br.mp hd;have hi:i < l.length:=(ar.mp hc).1;have fc:=hl c (cf hc);have l1:=hm.1;simp_arith![ends];nofun;have fin:∀(c:Nat)(G3:DH),isF c->Pen G3 p->Sb p G2 G3->M [some (.ref p),some (.str l),some (.str m),some (.str [c])] G3:=by
   intro c G3 fc hp3 sb3;ac_nf0;erw[ends];exact ⟨by bv_omega,hk _ _ ⟨⟨_,_,rfl,hm.app (okF.one fc)⟩,hp3,sb2.trans sb3⟩⟩
  erw[h1];refine cG hp2 (!1) (!1) λr G3 hr hp3 sb3=>?_;erw[ends];cases hr0:((r:Int)==0) with
  |false=>exact fin c G3 fc hp3 sb3
  |true=>exact fin 42 G3 (.inr (.inr rfl)) hp3 sb3
 .rintro Y G2 ⟨⟨o,m,rfl,hm⟩,hp2,sb2⟩;refine hM _ _ ?_;erw[ends];exact ⟨p,l,m,rfl,rfl,!!hm,hp2,sb2⟩
def IV{G G':DH}{p:AQ}{x:D}{fs:List (AA)}(hv:view G x=.lst (fs.map D.str))(hp:Pen G p)(sb:Sb p G G'):view G' x=.lst (fs.map D.str):=by
 cases x with
 |ref q=>
  unfold view at hv;dsimp only at hv;cases g:G q with
  |none=>rw[g]at hv;cases hv
  |some o=>
   cases o with
   |lst ds=>
    rw[g]at hv;have e:ds=fs.map D.str:=by simpa using hv
    have hn:q≠p:=by
     rintro rfl;obtain ⟨ns,k,st,e1,_⟩:=hp;rw[g,e]at e1;cases fs with
     |nil=>simp at e1
     |cons a r=>simp at e1
    rw[gh (sb q _ g hn),e]
   |dct _ _=>rw[g]at hv;cases hv
 |lst l=>exact hv
 |_=>cases hv
def IW(ds:AS)(G:DH):Prop:=∃p,∃w:Nat,∃x,∃fs:List (AA),ds=[.ref p,.int w,x]/\Pen G p/\0 < w/\w<=1000/\view G x=.lst (fs.map D.str)/\fs.length<=1000/\∀f∈fs,okF w f
def zL(ds:AS)(G:DH)(d:D)(G':DH):Prop:=∃p,∃w:Nat,∃x m,ds=[.ref p,.int w,x]/\d=.str m/\okF w m/\Pen G' p/\Sb p G G'
def uA:RF.Spec:=bI IW zL
def ad3{p:AQ}{w:Nat}{x:D}{fs:List (AA)}{G:DH}{k:AT}{E:EK}(hp:Pen G p)(h1:0 < w)(h2:w<=1000)(hv:view G x=.lst (fs.map D.str))(h3:fs.length<=1000)(h4:∀f∈fs,okF w f)
  (hk:∀(m:AA)(G':DH),okF w m->Pen G' p->Sb p G G'->k (.str m) G'):uA.t [.ref p,.int w,x] G k E:=by
 refine bU ⟨p,w,x,fs,rfl,hp,h1,h2,hv,h3,h4⟩ λd G' hx=>?_;obtain ⟨p2,w2,x2,m,e1,e2,h,hp',sb⟩:=hx;simp only[cw,D.ref.injEq,D.int.injEq,Int.ofNat_inj,and_true]at e1;obtain ⟨rfl,rfl,rfl⟩:=e1;subst e2;exact hk m G' h hp' sb
def ad4(fs:List (AA)):nrs (fs.map D.str)=true:=by
 induction fs with
 |nil=>rfl
 |cons a l ih=>rw[a9,nrs,ih];rfl
def ad5(fs:List (AA)):aV (fs.map D.str)=0:=by
 induction fs with
 |nil=>rfl
 |cons a l ih=>rw[a9,aV,ih];rfl
def ad6{w n:Nat}{l:AA}{c:Nat}(h:okF w l)(hn:n < w)(fc:isF c):okF w (cut l none (some (n:Int))++[c]++cut l (some ((n:Int)+1)) none):=by
 have h1:=h.1;rw[yQ,Ig];refine ⟨?_,λd hd=>?_⟩
 .simp;omega
 .rcases ba.mp hd with hd |hd
  .rcases ba.mp hd with hd |hd
   .exact h.2 d (List.mem_of_mem_take hd)
   .rw[al.mp hd];exact fc
  .exact h.2 d (List.mem_of_mem_drop hd)
def ad7 (Z:aa) (h1:Z "_law_take"=dF) (h2:Z "_law_form"=zG) (h3:Z "_law_within"=jc) (h4:Z "_law_wider"=jc) (ds:AS) (G:DH) (h:IW ds G):au Z zj noE (env0 ds 3) G (ends (zL ds G)):=by
 obtain ⟨p,w,x,fs,rfl,hp,w1,w2,hv,hf,hfs⟩:=h;simp_all_arith[zj];nofun;erw[h1];refine cG hp (!1) (!1) λkd G2 hkd hp2 sb2=>?_;have hv2:=IV hv hp sb2;symm;have drawn:∀(Y:ak) (G3:DH),Pen G3 p->Sb p G G3->au Z (.cons (.ret (.call "_law_form" (.cons (.var 0) (.cons (.var 1) .nil)))) .nil) noE (some (.ref p)::some (.int w)::Y) G3 { nx:=M,rt:=zL [.ref p,.int w,x] G,bk:=λ_ _=>False,ct:=λ_ _=>False }:=by intro Y G3 hp3 sb3;erw[h2];refine bU ⟨p,w,rfl,hp3,w2⟩ λd G4 hx=>?_;obtain ⟨p4,n4,l,e1,e2,l1,l2,hp4,sb4⟩:=hx;simp only[cw,D.ref.injEq,D.int.injEq,Int.ofNat_inj,and_true]at e1;obtain ⟨rfl,rfl⟩:=e1;exact ⟨p,w,x,l,rfl,e2,⟨l1,l2⟩,hp4,sb3.trans sb4⟩
 simp_arith![hv2,aaD,ad5,ad4];refine ⟨!1,?_⟩;cases he:(fs.map D.str).isEmpty with
 |true=>exact drawn _ _ hp2 sb2
 |false=>
  have hlen:0 < fs.length:=by
   cases fs with
   |nil=>simp at he
   |cons a r=>simp
  simp_arith![ends];cases hk2:decide ((kd:Int) < 2) with
  |true=>exact drawn _ _ hp2 sb2
  |false=>
   erw[ends];symm;erw[h1,hv2,ag];refine cG hp2 (!0) (!0) λr G3 hr hp3 sb3=>?_;have hv3:=IV hv2 hp2 sb3;erw[hv3];have hr':r < fs.length:=by omega
   refine bw (a:=.str fs[r]) (b7 (by simp[hr'])) ?_;have fok:=hfs fs[r] (da _);generalize fs[r]=f at fok;symm;have sb':=sb2.trans sb3;erw[ends];cases hk3:((kd:Int)==2) with
   |true=>exact ⟨p,w,x,f,rfl,rfl,fok,hp3,sb'⟩
   |false=>
    symm;simp_arith![ends];cases hk5:decide ((kd:Int) < 5) with
    |true=>
     erw[h1];refine cG hp3 (!0) (!0) λat' G4 hat hp4 sb4=>?_;refine cG hp4 (!1) (!1) λs G5 hs hp5 sb5=>?_;obtain ⟨c,e,fc⟩:=ad0 hs;have c1:=Ie f none (some (at':Int));have c2:=Ie f (some ((at':Int)+1)) none;have f1:=fok.1;erw[e,aI];exact ⟨by bv_omega,by bv_omega,p,w,x,_,rfl,rfl,ad6 fok (!0) fc,hp5,sb'.trans (sb4.trans sb5)⟩
    |false=>
     erw[ends];symm;have f1:=fok.1;erw[h3];cases hk6:((kd:Int)==5) with
     |true=>
      refine IK hp3 fok.2 (!0) λm G4 hm hp4 sb4=>?_;rw[f1]at hm;exact ⟨p,w,x,m,rfl,rfl,hm,hp4,sb'.trans sb4⟩
     |false=>
      refine hM _ _ ?_;erw[h4];refine IK hp3 fok.2 (!0) λm G4 hm hp4 sb4=>?_;rw[f1]at hm;exact ⟨p,w,x,m,rfl,rfl,hm,hp4,sb'.trans sb4⟩
def okD(l:AA):Prop:=1<=l.length/\l.length<=8/\∀c∈l,97<=c/\c<=122
def ad8{p:AQ}{n:Nat}{cs:AA}{G:DH}{k:AT}{E:EK}(hp:Pen G p)(hn:n<=1000)(h1:cs≠[])(h2:cs.length<=1000)(hk:∀(l:AA)(G':DH),l.length=n->(∀c∈l,c∈cs)->Pen G' p->Sb p G G'->k (.str l) G'):nU.t [.ref p,.int n,.str cs] G k E:=by refine bU ⟨p,n,cs,rfl,hp,hn,h1,h2⟩ λd G' hx=>?_;obtain ⟨p2,n2,cs2,l,e1,e2,l1,l2,hp',sb⟩:=hx;simp only[cw,D.ref.injEq,D.int.injEq,D.str.injEq,Int.ofNat_inj,and_true]at e1;obtain ⟨rfl,rfl,rfl⟩:=e1;subst e2;exact hk l G' l1 l2 hp' sb
def Ja(ds:AS)(G:DH):Prop:=∃p,∃m:Int,ds=[.ref p,.int m]/\Pen G p/\0 < m/\m<=100
def Jb(ds:AS)(G:DH)(d:D)(G':DH):Prop:=∃p,∃m:Int,∃xs:List (AA),ds=[.ref p,.int m]/\d=.lst (xs.map D.str)/\0 < xs.length/\xs.length<=100/\(∀x∈xs,okD x)/\Pen G' p/\Sb p G G'
def uB:RF.Spec:=bI Ja Jb
def zM:List (AA):=[[97],[103,111],[115,116,97,121],[97,98,99,100,101,102,103,104],[110,111,110,101],[121,101,115],[105,110],[111,117,116],[107,101,101,112],[119,111,114,100],[122,122]]
def ad9:∀x∈zM,okD x:=by
 have h:∀x∈zM,1<=x.length/\x.length<=8/\∀c∈x,97<=c/\c<=122:=by decide
 exact h
def Jc{c:Nat}(h:c∈[97,98,99,100,101,102,103,104,105,106,107,108,109,110,111,112,113,114,115,116,117,118,119,120,121,122]):97<=c/\c<=122:=by
 have:∀c∈[97,98,99,100,101,102,103,104,105,106,107,108,109,110,111,112,113,114,115,116,117,118,119,120,121,122],97<=c/\c<=122:=by decide
 exact this c h
def aea (Z:aa) (h1:Z "_law_take"=dF) (h2:Z "_law_signs"=nU) (ds:AS) (G:DH) (h:Ja ds G):au Z zb noE (env0 ds 4) G (ends (Jb ds G)):=by
 obtain ⟨p,m,rfl,hp,m1,m2⟩:=h;simp_all_arith[zb];nofun;erw[ends];refine ⟨!1,hM _ _ ?_⟩;refine (λtail=>tail zM rfl ad9) (?_:∀xs:List (AA),xs.length=11->(∀x∈xs,okD x)->au Z _ noE [some (.ref p),some (.int m),some (.lst (xs.map D.str)),none,none,none] G _);intro xs x1 x2;nofun;erw[h1];refine cG hp (!1) (!1) λt G2 ht hp2 sb2=>?_;symm;erw[h1];refine cG hp2 (!0) (!0) λr G3 hr hp3 sb3=>?_;erw[ends];refine ⟨!0,?_⟩;refine CompG.inv (P:=λi acc Y G'=>(∃o,Y=[o,some (.lst (xs.map D.str)),some (.int t)])/\G'=G3/\∃ys:List (AA),acc=ys.map D.str/\ys.length=i/\∀y∈ys,okD y) ⟨⟨_,rfl⟩,rfl,[],rfl,rfl,by simp⟩ (λ_ _ _ _ _=>trivial) (by simp[aX];bv_omega) ?_ ?_
 .rintro i d acc Y G' hd ⟨⟨o,rfl⟩,rfl,ys,rfl,y1,y2⟩ kk hk;unfold aX at hd;rw[b9]at hd;obtain ⟨j,hj,rfl⟩:=br.mp hd;erw[ends];have q0:0<=((t:Int)+3 * (0+(j:Int))) % 11:=fq _ (!1);have q1:((t:Int)+3 * (0+(j:Int))) % 11 < 11:=fm _ (!1);refine ⟨zF (!1),!1,uv q0 (by rw[ag,x1];exact q1) λa ha=>?_⟩;obtain ⟨x,hx,rfl⟩:=bX.mp ha;refine hk _ _ _ ⟨⟨_,rfl⟩,rfl,ys++[x],by simp,by simp[y1],λy hy=>?_⟩;rcases ba.mp hy with h |h
  .exact y2 y h
  .rw[al.mp h];exact x2 x hx
 .rintro acc Y G' ⟨_,rfl,ys,rfl,y1,y2⟩;have hy:ys.length=r+1:=by rw[y1];simp[aX];omega
  symm;erw[h1];refine cG hp3 (!1) (!1) λq G4 hq hp4 sb4=>?_;have sb':=sb2.trans (sb3.trans sb4);erw[ends];cases hq0:((q:Int)==0) with
  |false=>
   refine hM _ _ ?_;erw[ends];exact ⟨p,m,ys,rfl,rfl,!0,!0,y2,hp4,sb'⟩
  |true=>
   erw[ends];refine CompG.inv (P:=λi acc Y G'=>(∃o,Y=[o,some (.ref p),some (.str [97,98,99,100,101,102,103,104,105,106,107,108,109,110,111,112,113,114,115,116,117,118,119,120,121,122])])/\Pen G' p/\Sb p G G'/\∃zs:List (AA),acc=zs.map D.str/\zs.length=i/\∀z∈zs,okD z) ⟨⟨_,rfl⟩,hp4,sb',[],rfl,rfl,by simp⟩ (λ_ _ _ _ _=>trivial) (by simp;bv_omega) ?_ ?_
   .rintro i d acc Y G' hd ⟨⟨o,rfl⟩,hp5,sb5,zs,rfl,z1,z2⟩ kk hk;erw[h1,h2];refine cG hp5 (!1) (!1) λn G6 hn hp6 sb6=>?_;erw[ends];rw[show (1:Int)+(n:Int)=((n+1:Nat):Int) by omega];refine ad8 hp6 (!0) (by simp) (by simp) λl G7 l1 l2 hp7 sb7=>?_;refine hk _ _ _ ⟨⟨_,rfl⟩,hp7,sb5.trans (sb6.trans sb7),zs++[l],by simp,by simp[z1],λz hz=>?_⟩;rcases ba.mp hz with h |h
    .exact z2 z h
    .rw[al.mp h];exact ⟨!0,!0,λc hc=>Jc (l2 c hc)⟩
   .rintro acc Y G' ⟨_,hp5,sb5,zs,rfl,z1,z2⟩;rw[ag]at z1;refine hM _ _ ?_;erw[ends];exact ⟨p,m,zs,rfl,rfl,!0,!0,z2,hp5,sb5⟩
abbrev Row:=AA×AA
abbrev AU:=List Row
def aQ(r:Row):D:=.tup [.str r.1,.str r.2]
def aq(w:Nat)(rs:AU):D:=.tup [.int w,.tup (rs.map aQ)]
structure okB(w:Nat)(rs:AU):Prop where
 w1:1<=w
 w6:w<=6
 len:rs.length<=12
 form:∀r∈rs,okF w r.1
 deed:∀r∈rs,okD r.2
def Jd(ds:AS)(G:DH):Prop:=∃p,∃w m:Nat,ds=[.ref p,.int w,.int m]/\Pen G p/\1<=w/\w<=6/\m<=12
def Jf(ds:AS)(G:DH)(d:D)(G':DH):Prop:=∃p,∃w m v:Nat,∃rs:AU,ds=[.ref p,.int w,.int m]/\d=aq v rs/\okB v rs/\v<=w/\rs.length<=m/\Pen G' p/\Sb p G G'
def uC:RF.Spec:=bI Jd Jf
def aeb{p:AQ}{w m:Nat}{G:DH}{k:AT}{E:EK}(hp:Pen G p)(h1:1<=w)(h2:w<=6)(h3:m<=12)(hk:∀(v:Nat)(rs:AU)(G':DH),okB v rs->v<=w->rs.length<=m->Pen G' p->Sb p G G'->k (aq v rs) G'):uC.t [.ref p,.int w,.int m] G k E:=by refine bU ⟨p,w,m,rfl,hp,h1,h2,h3⟩ λd G' hx=>?_;obtain ⟨p2,w2,m2,v,rs,e1,e2,o,q1,q2,hp',sb⟩:=hx;simp only[cw,D.ref.injEq,D.int.injEq,Int.ofNat_inj,and_true]at e1;obtain ⟨rfl,rfl,rfl⟩:=e1;subst e2;exact hk v rs G' o q1 q2 hp' sb
def aec{p:AQ}{m:Int}{G:DH}{k:AT}{E:EK}(hp:Pen G p)(h1:0 < m)(h2:m<=100)(hk:∀(xs:List (AA))(G':DH),0 < xs.length->xs.length<=100->(∀x∈xs,okD x)->Pen G' p->Sb p G G'->k (.lst (xs.map D.str)) G'):uB.t [.ref p,.int m] G k E:=by refine bU ⟨p,m,rfl,hp,h1,h2⟩ λd G' hx=>?_;obtain ⟨p2,m2,xs,e1,e2,q1,q2,q3,hp',sb⟩:=hx;cases e1;subst e2;exact hk xs G' q1 q2 q3 hp' sb
def BV{α:Type}{l:List α}{a:α}:atI (l++[a]) (-1)=some a:=by unfold atI ixN;rw[if_neg (!1),if_pos (by simp;omega),aI,fk,show (-1+((l.length+1:Nat):Int)).toNat=l.length by omega];simp
def aed (Z:aa) (h1:Z "_law_take"=dF) (h2:Z "_law_deeds_of"=uB) (h3:Z "_law_form_like"=uA) (ds:AS) (G:DH) (h:Jd ds G):au Z zm noE (env0 ds 5) G (ends (Jf ds G)):=by
 obtain ⟨p,w,m,rfl,hp,w1,w2,m1⟩:=h;simp_all_arith[zm];nofun;erw[h1];refine cG hp (!0) (!0) λn G2 hn hp2 sb2=>?_;erw[ends];rw[show (1:Int)+(n:Int)=((n+1:Nat):Int) by omega];symm;erw[h2];refine aec hp2 (!1) (!1) λxs G3 x1 x2 x3 hp3 sb3=>?_;symm;erw[ends];refine λq hq=>hM _ _ (seq λM hM=>?_);erw[ends];refine λs hs=>hM _ _ (seq λM hM=>?_);have hqs:q≠s:=by rintro rfl;rw[bG]at hs;cases hs
 have hs3:G3 s=none:=by rw[bR (Ne.symm hqs)]at hs;exact hs
 have npq:p≠q:=hp3.ne hq;have nps:p≠s:=hp3.ne hs3;have sa4:Sa G3 (aP (aP G3 q (.lst [])) s (.lst [])):=(Sa.new hq).trans (Sa.new hs);have hp4:=hp3.sa sa4;simp_arith![h1];refine cG hp4 (!0) (!0) λr G5 hr hp5 sb5=>?_;simp_arith![ends];refine ⟨!0,?_⟩;refine ForG.inv (P:=λi Y G'=>(∃o,Y=[some (.ref p),some (.int w),some (.int m),some (.int ((n+1:Nat):Int)),some (.lst (xs.map D.str)),some (.ref q),some (.ref s),o])/\Pen G' p/\Sb p G G'/\
   ∃rs:AU,G' q=some (.lst ((rs.map (·.1)).map D.str))/\G' s=some (.lst (rs.map aQ))/\rs.length=i/\(∀r∈rs,okF (n+1) r.1)/\∀r∈rs,okD r.2) ⟨⟨_,rfl⟩,hp5,sb2.trans (sb3.trans (sa4.sb.trans sb5)),[],?_,?_,rfl,by simp,by simp⟩ (λ_ _ _ _=>trivial) ?_ ?_
 .exact sb5 q _ (by rw[bR hqs];exact bG) (Ne.symm npq)
 .exact sb5 s _ bG (Ne.symm nps)
 .rintro i d Y G' hd ⟨⟨o,rfl⟩,hp6,sb6,rs,g1,g2,r1,r2,r3⟩ kk hk;have hi:i < r:=by
   have:=(ar.mp hd).1;simpa [aX] using this
  simp_arith![ends];nofun;erw[h3,di g1];refine ad3 (fs:=rs.map (·.1)) hp6 (!0) (!0) (gh g1) (by simp;omega) (λf hf=>?_) λf G7 hf hp7 sb7=>?_
  .obtain ⟨r',hr',rfl⟩:=bX.mp hf;exact r2 r' hr'
  have g1':=sb7 q _ g1 (Ne.symm npq);have g2':=sb7 s _ g2 (Ne.symm nps);erw[di g1'];refine ⟨by simp;bv_omega,hM _ _ (last ?_)⟩;have e2:aP G7 q (.lst ((rs.map (·.1)).map D.str++[.str f])) s=some (.lst (rs.map aQ)):=by rw[bR (Ne.symm hqs)];exact g2'
  have hp8:Pen (aP G7 q (.lst ((rs.map (·.1)).map D.str++[.str f]))) p:=hp7.sb Sb.upd npq;erw[h1,di e2,gh bG,BV,ag];refine cG hp8 (!0) (!0) λt G9 ht hp9 sb9=>?_;have e1':=sb9 q _ bG (Ne.symm npq);have e2':=sb9 s _ e2 (Ne.symm nps);erw[di e2'];refine uv (!0) (by simp;omega) λx hx=>?_;obtain ⟨dd,hdd,rfl⟩:=bX.mp hx;refine ⟨!1,by simp;bv_omega,hk _ _ ⟨⟨_,rfl⟩,hp9.sb Sb.upd nps,?_,rs++[(f,dd)],?_,?_,by simp[r1],?_,?_⟩⟩
  .intro b ob hb nb;by_cases hbs:b=s
   .subst hbs;exfalso;have z:=sb2 b _ hb nb;have z:=sb3 b _ z nb;rw[hs3]at z;cases z
   .by_cases hbq:b=q
    .subst hbq;exfalso;have z:=sb2 b _ hb nb;have z:=sb3 b _ z nb;rw[hq]at z;cases z
    .rw[bR hbs];exact sb9 b _ (by rw[bR hbq];exact sb7 b _ (sb6 b _ hb nb) nb) nb
  .rw[bR hqs,e1'];simp
  .rw[bG];simp[aQ]
  .intro r' hr';rcases ba.mp hr' with h |h
   .exact r2 r' h
   .rw[al.mp h];exact hf
  .intro r' hr';rcases ba.mp hr' with h |h
   .exact r3 r' h
   .rw[al.mp h];exact x3 dd hdd
 .rintro Y G' ⟨⟨o,rfl⟩,hp6,sb6,rs,g1,g2,r1,r2,r3⟩;have hl:rs.length=r:=by rw[r1];simp[aX]
  refine hM _ _ ?_;erw[gh g2];exact ⟨!1,p,w,m,n+1,rs,rfl,rfl,⟨!0,!0,!0,r2,r3⟩,!0,!0,hp6,sb6⟩
def alt(c:Nat):AA:=if c=42 then [48,49] else [c]
def step1(acc:List (AA))(c:Nat):List (AA):=acc.flatMap λt=>(alt c).map λs=>t++[s]
def ie(f:AA):List (AA):=f.foldl step1 [[]]
def Fits(f w:AA):Prop:=f.length=w.length/\∀(i c s:Nat),f[i]?=some c->w[i]?=some s->s∈alt c
def aee(f:AA)(c:Nat):ie (f++[c])=step1 (ie f) c:=by unfold ie;rw[List.foldl_append];rfl
def aef{acc:List (AA)}{c:Nat}{w:AA}:w∈step1 acc c↔∃t s,t∈acc/\s∈alt c/\w=t++[s]:=by
 unfold step1;rw[List.mem_flatMap];constructor
 .rintro ⟨t,ht,h⟩;obtain ⟨s,hs,rfl⟩:=bX.mp h;exact ⟨t,s,ht,hs,rfl⟩
 .rintro ⟨t,s,ht,hs,rfl⟩;exact ⟨t,ht,bX.mpr ⟨s,hs,rfl⟩⟩
def zN{f w:AA}{c s:Nat}:Fits (f++[c]) (w++[s])↔Fits f w/\s∈alt c:=by
 constructor
 .rintro ⟨h1,h2⟩;have hl:f.length=w.length:=by simpa using h1
  refine ⟨⟨hl,λi c' s' hc hs=>?_⟩,?_⟩
  .have i1:=(ar.mp hc).1;exact h2 i c' s' (by rw[eS i1];exact hc) (by rw[eS (!0)];exact hs)
  .exact h2 f.length c s (by simp) (by rw[hl];simp)
 .rintro ⟨⟨h1,h2⟩,h3⟩;refine ⟨by simp[h1],λi c' s' hc hs=>?_⟩;by_cases hi:i < f.length
  .rw[eS hi]at hc;rw[eS (!0)]at hs;exact h2 i c' s' hc hs
  .have i2:=(ar.mp hc).1;simp at i2;have e:i=f.length:=by omega
   subst e;simp at hc;rw[h1]at hs;simp at hs;subst hc hs;exact h3
def zO{f w:AA}:w∈ie f↔Fits f w:=by
 induction f using aaE generalizing w with
 |nil=>
  simp[ie,Fits];constructor
  .rintro rfl;simp
  .intro h;exact cK.mp h.symm
 |snoc f c ih=>
  rw[aee,aef];constructor
  .rintro ⟨t,s,ht,hs,rfl⟩;exact zN.mpr ⟨ih.mp ht,hs⟩
  .intro h;have hl:=h.1;simp at hl;have hne:w≠[]:=by rintro rfl;simp at hl
   refine ⟨w.dropLast,w.getLast hne,?_,?_,(fo hne).symm⟩
   .rw[<-fo hne]at h;exact ih.mpr (zN.mp h).1
   .rw[<-fo hne]at h;exact (zN.mp h).2
def orX(S:RF.Spec)(P:AS->AL->Prop):RF.Spec where
 A:=S.A ⊕ (AL×DH)
 pre:=λds G a=>match a with |.inl a=>S.pre ds G a |.inr c=>c.2=G/\P ds c.1
 post:=λa d G'=>match a with |.inl a=>S.post a d G' |.inr _=>False
 exc:=λa x G'=>match a with |.inl a=>S.exc a x G' |.inr c=>x=⟨c.1,.non⟩/\G'=c.2
def jd{S:RF.Spec}{P:AS->AL->Prop}{ds:AS}{G:DH}{k:AT}{E:EK}(h:S.t ds G k E):(orX S P).t ds G k E:=by obtain ⟨a,h1,h2,h3⟩:=h;exact ⟨.inl a,h1,h2,h3⟩
def je{S:RF.Spec}{P:AS->AL->Prop}{ds:AS}{G:DH}{k:AT}{E:EK}{C:AL}(h:P ds C)(hE:E ⟨C,.non⟩ G):(orX S P).t ds G k E:=
 ⟨.inr (C,G),⟨rfl,h⟩,λ_ _ q=>q.elim,λx G' ⟨e1,e2⟩=>by subst e1 e2;exact hE⟩
def jf{Z:aa}{body:Sxs}{m n:Nat}{S:RF.Spec}{P:AS->AL->Prop}(hS:S.exc=λ_ _ _=>False)(h1:∀ds G a,ds.length=n->S.pre ds G a->au Z body noE (env0 ds m) G (ends (S.post a)))
  (h2:∀ds G C,P ds C->au Z body (λx G'=>x=⟨C,.non⟩/\G'=G) (env0 ds m) G (ends λ_ _=>False)):∀ds G a,ds.length=n->(orX S P).pre ds G a->au Z body ((orX S P).exc a) (env0 ds m) G (ends ((orX S P).post a)):=by
 rintro ds G (a |c) hl h
 .have e:(orX S P).exc (.inl a)=noE:=by show S.exc a=noE;rw[hS];rfl
  rw[e];exact h1 ds G a hl h
 .obtain ⟨e,hp⟩:=h;subst e;exact h2 ds c.2 c.1 hp
mutual
def szA:D->Bool
 |.str l=>decide (l.length<=100000)
 |.tup l=>decide (l.length<=100000)&&dG l
 |.lst l=>decide (l.length<=100000)&&dG l
 |_=>true
def dG:AS->Bool
 |[]=>true
 |a::as=>szA a&&dG as
end
def Jg{x:D}(h:szA x=true):szd x=true:=by cases x <;> first |rfl | (rw[szA]at h;exact h)
def Jh:∀{l:AS}{d:D},dG l=true->d∈l->szA d=true
 |a::as,d,h,m=>by
  rw[dG,ae]at h;rcases a7.mp m with e |m
  .rw[e];exact h.1
  .exact Jh h.2 m
def Ji:∀{l:AS},(∀d∈l,szA d=true)->dG l=true
 |[],_=>rfl
 |a::l,h=>by rw[dG,h a bp,Ji λd hd=>h d (bv _ hd)];rfl
def letters:AA:=[97,98,99,100,101,102,103,104,105,106,107,108,109,110,111,112,113,114,115,116,117,118,119,120,121,122]
def aeg:∀c:Fin 123,97<=c.1->letters.contains c.1=true:=by decide
def aeh{c:Nat}:letters.contains c=true↔97<=c/\c<=122:=
 ⟨λh=>Jc (aT.mp h),λ⟨h1,h2⟩=>aeg ⟨c,Nat.lt_succ_of_le h2⟩ h1⟩
def jg:D->Bool
 |.str l=>decide (1<=l.length)&&decide (l.length<=8)&&l.all (λc=>letters.contains c)
 |_=>false
def n6:AS->Option D
 |[x]=>if nr x&&szd x then some (.bl (jg x)) else none
 |_=>none
def aei(Z:aa)(ds:AS)(G:DH)(d:D)(h:n6 ds=some d):au Z j4 noE (env0 ds 0) G (ends λd' G'=>G'=G/\d'=d):=by
 unfold n6 at h;split at h
 .rename_i x;split at h
  .rename_i hx;cases h;rw[ae]at hx;cases x with
   |str l=>
    have hl:l.length<=100000:=by simpa [szd] using hx.2
    erw[j4,jg];by_cases hw:1<=l.length
    .have hb:decide ((1:Int)<=(l.length:Int))=true:=bq (!0);erw[hb];by_cases hw8:l.length<=8
     .have hb8:decide ((l.length:Int)<=8)=true:=bq (!0);erw[hb8];refine CompG.map (f:=λd=>match d with |.str [c]=>.bl (letters.contains c) |_=>.non) (I:=λY=>∃o,Y=[o]) ⟨_,rfl⟩ trivial (by simp;bv_omega) ?_ ?_
      .rintro d Y hd ⟨o,rfl⟩ kk hk;obtain ⟨c,_,rfl⟩:=bX.mp hd;erw[ends];exact hk _ ⟨_,rfl⟩
      .rw[dc];erw[Function.comp_def,mW,all_map];simp only[bq hw,bq hw8,e7,eL]
     .have hb8:decide ((l.length:Int)<=8)=false:=bB (!0);erw[hb8];simp only[bB hw8,fh,fI]
    .have hb:decide ((1:Int)<=(l.length:Int))=false:=bB (!0);erw[hb];simp only[bB hw,fI]
   |ref p=>simp[nr]at hx
   |scr p=>simp[nr]at hx
   |exn p=>simp[nr]at hx
   |exa _ _ _=>simp[nr]at hx
   |obj _ _ _=>simp[nr]at hx
   |dct _ _=>simp[nr]at hx
   |_=>erw[j4,jg];try simp
  .cases h
 .cases h
def fG(w:Int):D->Bool
 |.tup [a,b]=>isText [48,49,42] w a&&jg b
 |_=>false
def n8:AS->Option D
 |[.int w,x]=>if nr x&&szA x then some (.bl (fG w x)) else none
 |_=>none
def aej (Z:aa) (h1:Z "is_form"=aM nZ) (h2:Z "is_deed"=aM n6) (ds:AS) (G:DH) (d:D) (h:n8 ds=some d):au Z gm noE (env0 ds 0) G (ends λd' G'=>G'=G/\d'=d):=by
 unfold n8 at h;split at h
 .rename_i w x;split at h
  .rename_i hx;cases h;rw[ae]at hx;cases x with
   |tup l=>
    match l,hx with
    |[],_=>erw[gm,fG];try simp
    |[a],_=>erw[gm,fG];try simp
    |[a,b],hx=>
     simp only[nr,nrs,szA,dG,eD,ae]at hx;obtain ⟨⟨n1,n2⟩,_,s1,s2⟩:=hx;have g1:(nr a&&szd a)=true:=by rw[n1,Jg s1];rfl
     have g2:(nr b&&szd b)=true:=by rw[n2,Jg s2];rfl
     erw[gm,h1,h2];erw[show ((0+1+1:Nat):Int)=2 from rfl,BEq.rfl];refine cF (if_pos g1) ?_;erw[ends];cases ht:isText [48,49,42] w a with
     |false=>simp[fG,ht]
     |true=>
      refine cF (if_pos g2) ?_;erw[ends];simp[fG,ht]
    |a::b::c::r,_=>
     have hb:((((r.length+1+1+1:Nat):Int)==2):Bool)=false:=by rw[cr];omega
     erw[gm,fG,hb]
   |ref p=>simp[nr]at hx
   |scr p=>simp[nr]at hx
   |exn p=>simp[nr]at hx
   |exa _ _ _=>simp[nr]at hx
   |obj _ _ _=>simp[nr]at hx
   |dct _ _=>simp[nr]at hx
   |_=>erw[gm,fG];try simp
  .cases h
 .cases h
def dH:D->Bool
 |.tup [.int w,.tup rows]=>decide (1<=w)&&decide (w<=6)&&decide (rows.length<=12)&&rows.all (fG w)
 |_=>false
def kh:AS->Option D
 |[x]=>if nr x&&szA x then some (.bl (dH x)) else none
 |_=>none
def aek (Z:aa) (h1:Z "is_width"=aM nY) (h2:Z "is_row"=aM n8) (ds:AS) (G:DH) (d:D) (h:kh ds=some d):au Z gn noE (env0 ds 2) G (ends λd' G'=>G'=G/\d'=d):=by
 unfold kh at h;split at h
 .rename_i x;split at h
  .rename_i hx;cases h;rw[ae]at hx;cases x with
   |tup l=>
    match l,hx with
    |[],_=>erw[gn,dH];try simp
    |[a],_=>erw[gn,dH];try simp
    |[a,b],hx=>
     simp only[nr,nrs,szA,dG,eD,ae]at hx;obtain ⟨⟨n1,n2⟩,_,s1,s2⟩:=hx;simp_all_arith[gn];nofun;erw[ends];erw[show ((0+1+1:Nat):Int)=2 from rfl,BEq.rfl];symm;erw[ends];symm;erw[h1];refine cF (if_pos n1) ?_;erw[ends];cases hw:uz a with
     |false=>
      have:dH (.tup [a,b])=false:=by
       cases a with
       |int i=>
        have hw:(decide (1<=i)&&decide (i<=6))=false:=hw;cases b <;> simp only[dH]
        rw[hw];simp
       |_=>rfl
      rw[this];erw[ends]
     |true=>
      cases a with
      |int w=>
       have hw':decide (1<=w)=true/\decide (w<=6)=true:=by unfold uz at hw;simpa using hw
       cases b with
       |tup rows=>
        erw[ends];simp only[nr,szA,ae,bS]at n2 s2;by_cases hr:rows.length<=12
        .have hd:decide ((12:Int) < (rows.length:Int))=false:=bB (!0);erw[hd];refine hM _ _ ?_;erw[ends];refine CompG.map (f:=λd=>.bl (fG w d)) (I:=λY=>∃o,Y=[o,some (.int w)]) ⟨_,rfl⟩ trivial (by bv_omega) ?_ ?_
         .rintro d Y hd ⟨o,rfl⟩ kk hk;erw[h2];refine cF (if_pos (by rw[Iw n2 hd,Jh s2.2 hd];rfl)) ?_;exact hk _ ⟨_,rfl⟩
         .erw[mW];simp only[dH,hw'.1,hw'.2,bq hr,e7,List.all_map,Function.comp_def,id_eq]
        .have hd:decide ((12:Int) < (rows.length:Int))=true:=bq (!0);erw[hd,dH,bB hr,fh,fI]
       |ref p=>simp[nr]at n2
       |scr p=>simp[nr]at n2
       |exn p=>simp[nr]at n2
       |exa _ _ _=>simp[nr]at n2
       |obj _ _ _=>simp[nr]at n2
       |dct _ _=>simp[nr]at n2
       |_=>erw[dH];try simp
      |_=>cases hw
    |a::b::c::r,_=>
     have hb:((((r.length+1+1+1:Nat):Int)==2):Bool)=false:=by rw[cr];omega
     erw[gn,dH,hb]
   |ref p=>simp[nr]at hx
   |scr p=>simp[nr]at hx
   |exn p=>simp[nr]at hx
   |exa _ _ _=>simp[nr]at hx
   |obj _ _ _=>simp[nr]at hx
   |dct _ _=>simp[nr]at hx
   |_=>erw[gn,dH];try simp
  .cases h
 .cases h
def ael{w:Nat}{l:AA}(h:okF w l):isText [48,49,42] (w:Int) (.str l)=true:=by unfold isText;rw[ae];refine ⟨bq (by rw[h.1]),bg.mpr λc hc=>?_⟩;rcases h.2 c hc with rfl |rfl |rfl <;> rfl
def aem{l:AA}(h:okD l):jg (.str l)=true:=by unfold jg;rw[ae,ae];exact ⟨⟨bq h.1,bq h.2.1⟩,bg.mpr λc hc=>aeh.mpr (h.2.2 c hc)⟩
def aen{w:Nat}{r:Row}(h1:okF w r.1)(h2:okD r.2):fG (w:Int) (aQ r)=true:=by show (isText [48,49,42] (w:Int) (.str r.1)&&jg (.str r.2))=true;rw[ael h1,aem h2];rfl
def aeo{w:Nat}{rs:AU}(h:okB w rs):dH (aq w rs)=true:=by unfold aq dH;simp only[ae,bS,ag,List.all_map,bg];have:=h.w1;have:=h.w6;refine ⟨⟨⟨!0,!0⟩,h.len⟩,λr hr=>aen (h.form r hr) (h.deed r hr)⟩
def Jj(rs:AU):nrs (rs.map aQ)=true:=Ih λd hd=>by obtain ⟨r,_,rfl⟩:=bX.mp hd;rfl
def aep(w:Nat)(rs:AU):nr (aq w rs)=true:=by unfold aq;simp only[nr,nrs,Jj,eD]
def Jl{w:Nat}{rs:AU}(h:okB w rs):szA (aq w rs)=true:=by unfold aq;simp only[szA,dG,eD,e7,ae,bS,ag];have hlen:=h.len;have hw:=h.w6;refine ⟨by simp,!0,Ji λd hd=>?_⟩;obtain ⟨r,hr,rfl⟩:=bX.mp hd;have h1:=(h.form r hr).1;have h2:=(h.deed r hr).2.1;unfold aQ;simp only[szA,dG,eD,ae,bS];exact ⟨by simp,!0,!0⟩
def aeq:RF.Spec:=bI (λds _=>∃w rs,ds=[aq w rs]/\okB w rs) (λ_ G d G'=>G'=G/\d=.non)
def jh(x:D):Prop:=nr x=true/\szA x=true/\dH x=false
def Jm (ds:AS) (C:AL):Prop:=C="NoBook"/\∃x,ds=[x]/\jh x
def gr:RF.Spec:=orX aeq Jm
def kj{w:Nat}{rs:AU}{G:DH}{k:AT}{E:EK}(h:okB w rs)(hk:k .non G):gr.t [aq w rs] G k E:=jd (bU ⟨w,rs,rfl,h⟩ λd G' ⟨e1,e2⟩=>by subst e1 e2;exact hk)
def Jo {x:D} {G:DH} {k:AT} {E:EK} (h:jh x) (hE:E ⟨"NoBook",.non⟩ G):gr.t [x] G k E:=je ⟨rfl,x,rfl,h⟩ hE
def aer (Z:aa) (h1:Z "is_book"=aM kh) (ds:AS) (G:DH) (h:∃w rs,ds=[aq w rs]/\okB w rs):au Z iV noE (env0 ds 0) G (ends λd G'=>G'=G/\d=.non):=by obtain ⟨w,rs,rfl,hb⟩:=h;erw[iV,h1];refine cF (d:=.bl true) (by rw[<-aeo hb];exact if_pos (by rw[aep,Jl hb];rfl)) ?_;erw[ends]
def aes (Z:aa) (h1:Z "is_book"=aM kh) (ds:AS) (G:DH) (C:AL) (h:Jm ds C):au Z iV (λx G'=>x=⟨C,.non⟩/\G'=G) (env0 ds 0) G (ends λ_ _=>False):=by obtain ⟨rfl,x,rfl,hx,hz,hn⟩:=h;erw[iV,h1];refine cF (d:=.bl false) (by rw[<-hn];exact if_pos (by rw[hx,hz];rfl)) ?_;erw[eL]
def zP(c s:Nat):Bool:=c==42||c==s
def km:AA->AA->Bool
 |c::f,s::w=>zP c s&&km f w
 |_,_=>true
def oh(f w:AA):Bool:=decide (f.length=w.length)&&km f w
def Jp:∀(f w:AA),bT (f.map λc=>D.str [c]) (w.map λc=>D.str [c])=(f.zip w).map λp=>D.tup [.str [p.1],.str [p.2]]
 |[],w=>by simp[bT]
 |c::f,[]=>by simp[bT]
 |c::f,s::w=>by simp[bT,Jp f w]
def kE{c s:Nat}:(([c]==[s]):Bool)=(c==s):=by
 by_cases h:c=s
 .subst h;simp
 .rw[cr.mpr h,cr.mpr (by simp[h])]
def Jq{c s:Nat}(hs:s=48\/s=49):zP c s=true↔s∈alt c:=by
 unfold zP alt;by_cases h:c=42
 .subst h;simp;rcases hs with rfl |rfl <;> simp
 .simp[h];exact eq_comm
def ig(rs:AU)(w:AA):Option Nat:=rs.findIdx? λr=>oh r.1 w
def aY:Option Nat->D
 |some n=>.int n
 |none=>.non
def Jr{w v:Nat}{rs ss:AU}(h:aq w rs=aq v ss):w=v/\rs=ss:=by
 unfold aq at h;simp only[D.tup.injEq,cw,D.int.injEq,Int.ofNat_inj,and_true]at h;refine ⟨h.1,?_⟩;have h2:=h.2;clear h;induction rs generalizing ss with
 |nil=>cases ss with
  |nil=>rfl
  |cons _ _=>simp at h2
 |cons r rs ih=>cases ss with
  |nil=>simp at h2
  |cons s ss=>
   simp only[a9,cw]at h2;have e:r=s:=by have:=h2.1;unfold aQ at this;simp only[D.tup.injEq,cw,D.str.injEq,and_true]at this;exact Prod.ext this.1 this.2
   rw[e,ih h2.2]
def kI(rs:AU):Option Nat->D
 |some n=>match rs[n]? with |some r=>.str r.2 |none=>.non
 |none=>.non
def uD:RF.Spec:=bI (λds _=>∃w rs o,ds=[aq w rs,aY o]/\∀n,o=some n->n < rs.length) (λds G d G'=>G'=G/\∃w rs o,ds=[aq w rs,aY o]/\d=kI rs o)
def aet{a b:Option Nat}(h:aY a=aY b):a=b:=by cases a <;> cases b <;> simp[aY]at h ⊢ <;> omega
def Js{w:Nat}{rs:AU}{o:Option Nat}{G:DH}{k:AT}{E:EK}(h:∀n,o=some n->n < rs.length)(hk:k (kI rs o) G):uD.t [aq w rs,aY o] G k E:=by refine bU ⟨w,rs,o,rfl,h⟩ λd G' ⟨e1,w2,rs2,o2,e2,e3⟩=>?_;simp only[cw,and_true]at e2;obtain ⟨e2,e4⟩:=e2;obtain ⟨rfl,rfl⟩:=Jr e2;cases aet e4;subst e1 e3;exact hk
def aeu(Z:aa)(ds:AS)(G:DH)(h:∃w rs o,ds=[aq w rs,aY o]/\∀n,o=some n->n < rs.length):au Z j8 noE (env0 ds 0) G (ends λd G'=>G'=G/\∃w rs o,ds=[aq w rs,aY o]/\d=kI rs o):=by
 obtain ⟨w,rs,o,rfl,ho⟩:=h;cases o with
 |none=>
  erw[j8,aY];exact ⟨w,rs,none,rfl,rfl⟩
 |some n=>
  have hn:=ho n rfl;erw[j8,aY,aq];refine bw (a:=aQ rs[n]) (b7 (by simp[hn])) ?_;erw[aQ];exact ⟨w,rs,some n,rfl,by simp[kI,hn]⟩
def aev{α β:Type}(f:α->β)(l:List α)(n:Nat):cut (l.map f) none (some (n:Int))=(l.take n).map f:=by rw[yQ,List.map_take]
def okB.sub{w:Nat}{rs ss:AU}(h:okB w rs)(hl:ss.length<=rs.length)(hs:∀r∈ss,r∈rs):okB w ss:=
 ⟨h.w1,h.w6,ce hl h.len,λr hr=>h.form r (hs r hr),λr hr=>h.deed r (hs r hr)⟩
def aew(c:Nat)(n:Nat):reps [c] n=List.replicate n c:=by
 unfold reps;induction n with
 |zero=>rfl
 |succ n ih=>rw[ck,e6,ih,ck];rfl
def aex(w:Nat):okF w (List.replicate w 42):=⟨dn,λc hc=>.inr (.inr (List.eq_of_mem_replicate hc))⟩
def aey{p:AQ}{G:DH}{k:AT}{E:EK}(hp:Pen G p)(hk:∀G',Pen G' p->Sb p G G'->k (.ref p) G'):uy.t [.ref p] G k E:=
 bU ⟨p,rfl,hp⟩ λd G' hx=>by obtain ⟨p2,e1,e2,hp',sb⟩:=hx;cases e1;subst e2;exact hk G' hp' sb
def d9(a b:Nat):Option Nat:=if a=42 then some b else if b=42\/b=a then some a else none
def cH:AA->AA->Option (AA)
 |a::f,b::g=>match d9 a b with |some c=>(cH f g).map (c::·) |none=>none
 |_,_=>some []
def dj:Option (AA)->D
 |some l=>.str l
 |none=>.non
def ou:AS->Option D
 |[.str f,.str g]=>if decide (f.length<=100000) then some (dj (cH f g)) else none
 |_=>none
def aez{f g:AA}{i a b:Nat}(h:(f.zip g)[i]?=some (a,b)):cH (f.drop i) (g.drop i)=match d9 a b with |some c=>(cH (f.drop (i+1)) (g.drop (i+1))).map (c::·) |none=>none:=by
 have hz:=ar.mp h;obtain ⟨hl,he⟩:=hz;rw[List.length_zip]at hl;have h1:i < f.length:=by omega
 have h2:i < g.length:=by omega
 rw[List.getElem_zip]at he;rw[b6 h1,b6 h2];simp only[Prod.mk.injEq]at he;rw[he.1,he.2];rfl
def aeA{f g:AA}:cH (f.drop (f.zip g).length) (g.drop (f.zip g).length)=some []:=by
 rw[List.length_zip];by_cases h:f.length<=g.length
 .rw[Nat.min_eq_left h,gc];cases g.drop f.length <;> rfl
 .rw[gS (!0),gc];cases f.drop g.length <;> rfl
def aeB(Z:aa)(ds:AS)(G:DH)(d:D)(h:ou ds=some d):au Z nq noE (env0 ds 3) G (ends λd' G'=>G'=G/\d'=d):=by
 unfold ou at h;split at h
 .rename_i f g;split at h
  .rename_i hl;have hl:=dQ hl;cases h;simp_all_arith[nq];nofun;erw[ends];symm;simp_arith![Jp];refine ForG.inv (P:=λi Y G'=>(∃o3 o4 m,Y=[some (.str f),some (.str g),some (.str m),o3,o4]/\m.length=i/\cH f g=(cH (f.drop i) (g.drop i)).map (m ++ ·))/\G'=G) ⟨⟨_,_,[],rfl,rfl,by simp⟩,rfl⟩ (λ_ _ _ _=>trivial) ?_ ?_
   .rintro i d Y G' hd ⟨⟨o3,o4,m,rfl,hm,hb⟩,rfl⟩ kk hk;rw[b9]at hd;obtain ⟨⟨a,b⟩,hab,rfl⟩:=br.mp hd;have hi:=(ar.mp hab).1;rw[List.length_zip]at hi;rw[aez hab]at hb;simp_arith![ends];refine last ?_;have put:∀(c:Nat)(o3 o4:Option D),d9 a b=some c->m.length+1<=sz/\kk [some (.str f),some (.str g),some (.str (m++[c])),o3,o4] G':=by
     intro c o3 o4 hc;rw[hc]at hb;refine ⟨by bv_omega,hk _ _ ⟨⟨_,_,_,rfl,by simp[hm],?_⟩,rfl⟩⟩;rw[hb,Option.map_map];congr 1;funext x;simp
    erw[kE];by_cases h42:a=42
    .have:((a==42):Bool)=true:=by simp[h42]
     erw[this];exact put b _ _ (if_pos h42)
    .have h0:((a==42):Bool)=false:=by simp[h42]
     erw[h0,kE];by_cases hb42:b=42
     .have:((b==42):Bool)=true:=by simp[hb42]
      erw[this];exact put a _ _ (by unfold d9;rw[if_neg h42,if_pos (.inl hb42)])
     .have h1:((b==42):Bool)=false:=by simp[hb42]
      erw[h1,kE];by_cases hba:b=a
      .have:((b==a):Bool)=true:=by simp[hba]
       erw[this];exact put a _ _ (by unfold d9;rw[if_neg h42,if_pos (.inr hba)])
      .have:((b==a):Bool)=false:=by simp[hba]
       erw[this];have hn:d9 a b=none:=by unfold d9;rw[if_neg h42,if_neg (by rintro (h |h);exact hb42 h;exact hba h)]
       rw[hn]at hb;rw[hb];rfl
   .rintro Y G' ⟨⟨o3,o4,m,rfl,hm,hb⟩,rfl⟩;rw[ag,aeA]at hb;refine hM _ _ ?_;erw[ends];rw[hb];simp[dj]
  .cases h
 .cases h
def ik:AS->Option D
 |[.str f,.int n,.str [c]]=>if decide (0<=n)&&decide (n < f.length)&&decide (f.length<=1000) then some (.str (f.set n.toNat c)) else none
 |_=>none
def aeC{l:AA}{n c:Nat}(h:n < l.length):l.take n++[c]++l.drop (n+1)=l.set n c:=by rw[List.set_eq_take_append_cons_drop,if_pos h];simp
def aeD(Z:aa)(ds:AS)(G:DH)(d:D)(h:ik ds=some d):au Z nF noE (env0 ds 0) G (ends λd' G'=>G'=G/\d'=d):=by
 unfold ik at h;split at h
 .rename_i f n c;split at h
  .rename_i hl;simp only[ae,bS]at hl;obtain ⟨⟨h0,h1⟩,h2⟩:=hl;cases h;obtain ⟨k,rfl⟩:=ci h0;erw[nF,yQ,Ig,aI,ff,eh,cb,aeC (show k < f.length by omega)];exact ⟨by bv_omega,by bv_omega⟩
  .cases h
 .cases h
def ji:AS->Option D
 |[.int n]=>if decide (0<=n)&&decide (n<=1000) then some (.str (List.replicate n.toNat 42)) else none
 |_=>none
def aeE(Z:aa)(ds:AS)(G:DH)(d:D)(h:ji ds=some d):au Z nM noE (env0 ds 0) G (ends λd' G'=>G'=G/\d'=d):=by
 unfold ji at h;split at h
 .rename_i n;split at h
  .rename_i hl;simp only[ae,bS]at hl;cases h;erw[nM,aew];exact ⟨hl.1,hl.2,by bv_omega⟩
  .cases h
 .cases h
def bM(rs:AU)(b:AA):Option Nat:=rs.findIdx? λr=>(cH r.1 b).isSome
def Jt(ds:AS)(_:DH):Prop:=∃(rs:AU)(b:AA),ds=[.tup (rs.map aQ),.str b]/\∀r∈rs,r.1.length<=1000
def Ju(ds:AS)(G:DH)(d:D)(G':DH):Prop:=G'=G/\∃(rs:AU)(b:AA),ds=[.tup (rs.map aQ),.str b]/\d=aY (bM rs b)
def oA:RF.Spec:=bI Jt Ju
def zQ{rs ss:AU}(h:rs.map aQ=ss.map aQ):rs=ss:=(Jr (w:=0) (v:=0) (by unfold aq;rw[h])).2
def Jv{rs:AU}{b:AA}{G:DH}{k:AT}{E:EK}(h:∀r∈rs,r.1.length<=1000)(hk:k (aY (bM rs b)) G):oA.t [.tup (rs.map aQ),.str b] G k E:=by refine bU ⟨rs,b,rfl,h⟩ λd G' hx=>?_;obtain ⟨e1,rs2,b2,e2,e3⟩:=hx;simp only[cw,D.str.injEq,D.tup.injEq,and_true]at e2;obtain ⟨e2,rfl⟩:=e2;cases zQ e2;subst e1 e3;exact hk
def aeF{o:Option (AA)}:eZ (dj o)=!o.isSome:=by cases o <;> rfl
def aeG{G:DH}{o:Option (AA)}:view G (dj o)=dj o:=by cases o <;> rfl
def aeH{rs:AU}{b:AA}{i:Nat}{r:Row}(h:rs[i]?=some r):bM (rs.drop i) b=if (cH r.1 b).isSome then some 0 else (bM (rs.drop (i+1)) b).map (·+1):=by
 have hi:=(ar.mp h).1;have e:rs.drop i=r::rs.drop (i+1):=by rw[b6 hi];rw[(ar.mp h).2]
 rw[e];unfold bM;rw[eM]
def aeI (Z:aa) (h1:Z "both"=aM ou) (ds:AS) (G:DH) (h:Jt ds G):au Z nu noE (env0 ds 2) G (ends (Ju ds G)):=by
 obtain ⟨rs,b,rfl,hb⟩:=h;simp_all_arith[nu];nofun;simp_arith![ends];refine ForG.inv (P:=λi Y G'=>(∃o2 o3,Y=[some (.tup (rs.map aQ)),some (.str b),o2,o3])/\G'=G/\bM rs b=(bM (rs.drop i) b).map (·+i)) ⟨⟨_,_,rfl⟩,rfl,by simp⟩ (λ_ _ _ _=>trivial) ?_ ?_
 .rintro i d Y G' hd ⟨⟨o2,o3,rfl⟩,rfl,hmet⟩ kk hk;rw[mR]at hd;obtain ⟨d',hd',rfl⟩:=br.mp hd;rw[b9]at hd';obtain ⟨r,hr,rfl⟩:=br.mp hd';have hrl:=hb r (cf hr);rw[aeH hr]at hmet;simp_arith![ends];refine last ?_;erw[h1,aQ];refine cF (d:=dj (cH r.1 b)) (if_pos (bq (!0))) ?_;erw[aeG,aeF];cases hf:(cH r.1 b).isSome with
  |true=>
   rw[hf,if_pos rfl]at hmet;exact ⟨rfl,rs,b,rfl,by rw[hmet];simp[aY]⟩
  |false=>
   rw[hf,if_neg bP]at hmet;refine hk _ _ ⟨⟨_,_,rfl⟩,rfl,?_⟩;rw[hmet,Option.map_map];congr 1;funext n;simp;omega
 .rintro Y G' ⟨⟨o2,o3,rfl⟩,rfl,hmet⟩;rw[mQ,ag,gc]at hmet;refine hM _ _ ?_;erw[ends];exact ⟨rfl,rs,b,rfl,by rw[hmet];rfl⟩
def cX(f b:AA):Option Nat:=(f.zip b).findIdx? λp=>p.2==42&&!(p.1==42)
def dm(rs:AU)(b:AA):Option Nat:=match bM rs b with |some n=>(match rs[n]? with |some r=>cX r.1 b |none=>none) |none=>none
def Jw(ds:AS)(_:DH):Prop:=∃(rs:AU)(b:AA),ds=[.tup (rs.map aQ),.str b]/\(∀r∈rs,r.1.length=b.length)/\b.length<=1000
def Jx(ds:AS)(G:DH)(d:D)(G':DH):Prop:=G'=G/\∃(rs:AU)(b:AA),ds=[.tup (rs.map aQ),.str b]/\d=aY (dm rs b)
def uE:RF.Spec:=bI Jw Jx
def aeJ{rs:AU}{b:AA}{G:DH}{k:AT}{E:EK}(h:∀r∈rs,r.1.length=b.length)(hl:b.length<=1000)(hk:k (aY (dm rs b)) G):uE.t [.tup (rs.map aQ),.str b] G k E:=by refine bU ⟨rs,b,rfl,h,hl⟩ λd G' hx=>?_;obtain ⟨e1,rs2,b2,e2,e3⟩:=hx;simp only[cw,D.str.injEq,D.tup.injEq,and_true]at e2;obtain ⟨e2,rfl⟩:=e2;cases zQ e2;subst e1 e3;exact hk
def uF{rs:AU}{b:AA}{n:Nat}(h:bM rs b=some n):n < rs.length:=(List.findIdx?_eq_some_iff_findIdx_eq.mp h).1
def aeK{f b:AA}{i s c:Nat}(hs:f[i]?=some s)(hc:b[i]?=some c):cX (f.drop i) (b.drop i)=if (c==42&&!(s==42))=true then some 0 else (cX (f.drop (i+1)) (b.drop (i+1))).map (·+1):=by have h1:=ar.mp hs;have h2:=ar.mp hc;rw[b6 h1.1,b6 h2.1,h1.2,h2.2];unfold cX;rw[List.zip_cons_cons,eM]
def aeL (Z:aa) (h1:Z "first_touching"=oA) (ds:AS) (G:DH) (h:Jw ds G):au Z nA noE (env0 ds 3) G (ends (Jx ds G)):=by
 obtain ⟨rs,b,rfl,hb,hbl⟩:=h;simp_all_arith[nA];nofun;erw[h1];refine Jv (λr hr=>by rw[hb r hr];exact hbl) (hM _ _ (seq λM hM=>?_));cases ht:bM rs b with
 |none=>
  erw[aY];exact ⟨rfl,rs,b,rfl,by unfold dm;rw[ht];rfl⟩
 |some n=>
  have hn:=uF ht;have hlen:=hb rs[n] (da _);have hsp:dm rs b=cX rs[n].1 b:=by unfold dm;rw[ht];simp[hn]
  erw[aY];symm;simp_arith![ends];refine bw (a:=aQ rs[n]) (b7 (by simp[hn])) ?_;simp_arith![aQ];generalize rs[n].1=f at hlen hsp;refine ForG.inv (P:=λi Y G'=>(∃o3 o4,Y=[some (.tup (rs.map aQ)),some (.str b),some (.int (n:Int)),o3,o4])/\G'=G/\cX f b=(cX (f.drop i) (b.drop i)).map (·+i)) ⟨⟨_,_,rfl⟩,rfl,by simp⟩ (λ_ _ _ _=>trivial) ?_ ?_
  .rintro i d Y G' hd ⟨⟨o3,o4,rfl⟩,rfl,hs⟩ kk hk;rw[mR]at hd;obtain ⟨d',hd',rfl⟩:=br.mp hd;rw[b9]at hd';obtain ⟨s,hsi,rfl⟩:=br.mp hd';have hi:=(ar.mp hsi).1;have hib:i < b.length:=by omega
   have hbi:b[i]?=some b[i]:=by simp[hib]
   rw[aeK hsi hbi]at hs;simp_arith![ends];refine last ?_;erw[ends];refine bw (a:=b[i]) (by rw[Nat.zero_add];exact b7 hbi) ?_;erw[kE];cases h42:(b[i]==42) with
   |false=>
    simp only[h42,fI,if_neg bP]at hs;erw[ends];refine hk _ _ ⟨⟨_,_,rfl⟩,rfl,?_⟩;rw[hs,Option.map_map];congr 1;funext n;simp;omega
   |true=>
    erw[kE];cases hs42:(s==42) with
    |true=>
     simp only[h42,hs42,ft,fh,if_neg bP]at hs;erw[ends];refine hk _ _ ⟨⟨_,_,rfl⟩,rfl,?_⟩;rw[hs,Option.map_map];congr 1;funext n;simp;omega
    |false=>
     simp only[h42,hs42,Bool.not_false,eD,if_pos]at hs;erw[ends];exact ⟨rfl,rs,b,rfl,by rw[hsp,hs];simp[aY]⟩
  .rintro Y G' ⟨⟨o3,o4,rfl⟩,rfl,hs⟩;rw[mQ,ag,gc]at hs;refine hM _ _ ?_;erw[ends];exact ⟨rfl,rs,b,rfl,by rw[hsp,hs];simp[cX,aY]⟩
def kJ:AA:=[115,112,108,105,116]
def stc(b:AA):Nat:=b.countP (·==42)
def kO{b:AA}{n c:Nat}(h:b[n]?=some 42)(hc:c≠42):stc (b.set n c)+1=stc b:=by
 obtain ⟨hl,he⟩:=ar.mp h;have e1:b=b.take n++42::b.drop (n+1):=by rw[<-he,<-b6 hl,List.take_append_drop]
 have e2:b.set n c=b.take n++c::b.drop (n+1):=by rw[List.set_eq_take_append_cons_drop,if_pos hl]
 unfold stc;rw[e2];conv=>rhs;rw[e1]
 rw[List.countP_append,List.countP_append,List.countP_cons_of_neg (by simp[hc]),List.countP_cons_of_pos (by simp)];omega
def Jy{w n c:Nat}{b:AA}(h:okF w b)(hc:isF c):okF w (b.set n c):=⟨by rw[d5];exact h.1,λd hd=>by
 rcases List.mem_or_eq_of_mem_set hd with h' |h'
 .exact h.2 d h'
 .rw[h'];exact hc⟩
def aeM:isF 48:=.inl rfl
def aeN:isF 49:=.inr (.inl rfl)
inductive Gr (name:AA) (rss:List (AU)):AA->D->Prop
 |leaf (b:AA) (h:∀rs∈rss,dm rs b=none):Gr name rss b (.tup (.str name::rss.map λrs=>aY (bM rs b)))
 |node (b:AA) (n:Nat) (z o:D) (h:b[n]?=some 42) (hz:Gr name rss (b.set n 48) z) (ho:Gr name rss (b.set n 49) o):Gr name rss b (.tup [.str kJ,.int n,z,o])
def eE(rss:List (AU)):AS:=rss.map λrs=>.tup (rs.map aQ)
structure okG(w:Nat)(name:AA)(rss:List (AU)):Prop where
 len:rss.length<=100
 nl:name.length<=100
 form:∀rs∈rss,∀r∈rs,r.1.length=w
 w1000:w<=1000
def JB(n:Nat)(ds:AS)(_:DH):Prop:=∃(w:Nat)(name:AA)(rss:List (AU))(b:AA),ds=[.str name,.lst (eE rss),.str b]/\okG w name rss/\b.length=w/\stc b < n
def JC(ds:AS)(G:DH)(d:D)(G':DH):Prop:=G'=G/\∃(name:AA)(rss:List (AU))(b:AA),ds=[.str name,.lst (eE rss),.str b]/\Gr name rss b d
def fH(n:Nat):RF.Spec:=bI (JB n) JC
def aeO{a b:List (AU)}(h:eE a=eE b):a=b:=by
 unfold eE at h;induction a generalizing b with
 |nil=>cases b with
  |nil=>rfl
  |cons _ _=>simp at h
 |cons x a ih=>cases b with
  |nil=>simp at h
  |cons y b=>
   simp only[a9,cw,D.tup.injEq]at h;rw[zQ h.1,ih h.2]
def zR{n w:Nat}{name:AA}{rss:List (AU)}{b:AA}{G:DH}{k:AT}{E:EK}(h:okG w name rss)(hb:b.length=w)(hs:stc b < n)(hk:∀d,Gr name rss b d->k d G):(fH n).t [.str name,.lst (eE rss),.str b] G k E:=by refine bU ⟨w,name,rss,b,rfl,h,hb,hs⟩ λd G' hx=>?_;obtain ⟨e1,name2,rss2,b2,e2,e3⟩:=hx;simp only[cw,D.str.injEq,D.lst.injEq,and_true]at e2;obtain ⟨rfl,e2,rfl⟩:=e2;cases aeO e2;subst e1;exact hk d e3
def aeP{f b:AA}{n:Nat}(h:cX f b=some n):b[n]?=some 42:=by unfold cX at h;have h2:=dP.mp h;obtain ⟨hl,hp,_⟩:=h2;rw[List.length_zip]at hl;rw[List.getElem_zip]at hp;simp only[ae,av]at hp;rw[aE (!0),hp.1]
def aeQ{rs:AU}{b:AA}{n:Nat}(h:dm rs b=some n):b[n]?=some 42:=by
 unfold dm at h;split at h
 .split at h
  .exact aeP h
  .cases h
 .cases h
def uG{b:AA}{n c:Nat}{G:DH}{k:AT}{E:EK}(h:n < b.length)(hl:b.length<=1000)(hk:k (.str (b.set n c)) G):(aM ik).t [.str b,.int n,.str [c]] G k E:=
 cF (by
  unfold ik;dsimp only;rw[if_pos (by simp only[ae,bS];omega),cb]) hk
def aeR (Z:aa) (n:Nat) (h0:Z "grown"=fH n) (h1:Z "first_touching"=oA) (h2:Z "splitting_place"=uE) (h3:Z "with_sign"=aM ik) (ds:AS) (G:DH) (h:JB (n+1) ds G):au Z j7 noE (env0 ds 4) G (ends (JC ds G)):=by
 obtain ⟨w,name,rss,b,rfl,hg,hb,hs⟩:=h;have hw:=hg.w1000;simp_all_arith[j7];nofun;simp_arith![ends];refine ForG.inv (P:=λi Y G'=>(∃o3 o4 o5 o6,Y=[some (.str name),some (.lst (eE rss)),some (.str b),o3,o4,o5,o6])/\G'=G/\∀rs∈rss.take i,dm rs b=none) ⟨⟨_,_,_,_,rfl⟩,rfl,by simp⟩ (λ_ _ _ _=>trivial) ?_ ?_
 .rintro i d Y G' hd ⟨⟨o3,o4,o5,o6,rfl⟩,rfl,hall⟩ kk hk;unfold eE at hd;rw[b9]at hd;obtain ⟨rs,hrs,rfl⟩:=br.mp hd;simp_arith![ends];nofun;erw[h2];refine aeJ (λr hr=>by rw[hg.form rs (cf hrs) r hr,hb]) (!0) (hM _ _ (last ?_));cases hsp:dm rs b with
  |none=>
   erw[aY];refine hk _ _ ⟨⟨_,_,_,_,rfl⟩,rfl,λrs' hrs'=>?_⟩;rw[List.take_add_one,hrs]at hrs';rcases ba.mp hrs' with h |h
   .exact hall rs' h
   .have:rs'=rs:=by simpa using h
    rw[this];exact hsp
  |some at'=>
   have hst:=aeQ hsp;have hat:=(ar.mp hst).1;simp_arith![aY];nofun;erw[h0,h3];refine uG hat (!0) (zR hg (by rw[d5];exact hb) (by have:=kO hst (show 48≠42 by decide);omega) λz hz=>hM _ _ (seq λM hM=>?_));erw[h0,h3];refine uG hat (!0) (zR hg (by rw[d5];exact hb) (by have:=kO hst (show 49≠42 by decide);omega) λo ho=>hM _ _ (last ?_));erw[ends];exact ⟨!1,rfl,name,rss,b,rfl,.node b at' z o hst hz ho⟩
 .rintro Y G' ⟨⟨o3,o4,o5,o6,rfl⟩,rfl,hall⟩;have hlen:(eE rss).length=rss.length:=ag _;rw[hlen,List.take_length]at hall;have hrl:=hg.len;refine hM _ _ ?_;erw[h1];refine ⟨!1,CompG.inv (P:=λi acc Y G''=>(∃o,Y=[o,some (.str b)])/\G''=G'/\acc=(rss.take i).map λrs=>aY (bM rs b)) ⟨⟨_,rfl⟩,rfl,rfl⟩ (λ_ _ _ _ _=>trivial) (by rw[hlen];bv_omega) ?_ ?_⟩
  .rintro i d acc Y G'' hd ⟨⟨o,rfl⟩,rfl,rfl⟩ kk hk;unfold eE at hd;rw[b9]at hd;obtain ⟨rs,hrs,rfl⟩:=br.mp hd;erw[h1];refine Jv (λr hr=>by rw[hg.form rs (cf hrs) r hr];omega) (hk _ _ _ ⟨⟨_,rfl⟩,rfl,?_⟩);rw[List.take_add_one,hrs];simp
  .rintro acc Y G'' ⟨_,rfl,rfl⟩;rw[hlen,List.take_length];erw[ag];exact ⟨by bv_omega,rfl,name,rss,b,rfl,.leaf b hall⟩
def aeS(ds:AS)(G:DH)(a:(fH 0).A):¬(fH 0).pre ds G a:=λ⟨_,_,_,_,_,_,_,_,h⟩=>by omega
def aeT(w:Nat):stc (List.replicate w 42)<=w:=by have:=List.countP_le_length (p:=(·==42)) (l:=List.replicate w 42);rw[dn]at this;exact this
def JD:∀{f b w:AA},cH f b=none->(∀s∈w,s=48\/s=49)->Fits b w->km f w=true->False
 |[],b,w,h,_,_,_=>by cases b <;> cases h
 |a::f,[],w,h,_,_,_=>by cases h
 |a::f,c::b,[],h,_,hf,_=>by have:=hf.1;simp at this
 |a::f,c::b,s::w,h,hw,hf,hz=>by
  rw[km,ae]at hz;have hs:=hf.2 0 c s rfl rfl;have hf':Fits b w:=⟨by have:=hf.1;simpa using this,λi c' s' h1 h2=>hf.2 (i+1) c' s' (!!h1) (!!h2)⟩;unfold cH at h;cases h1:d9 a c with
  |some x=>
   rw[h1]at h;simp only[Option.map_eq_none_iff]at h;exact JD h (λs hs=>hw s (bv _ hs)) hf' hz.2
  |none=>
   unfold d9 at h1;split at h1
   .cases h1
   .split at h1
    .cases h1
    .rename_i ha hc;have h2:=(Jq (hw s bp)).mp hz.1;unfold alt at hs h2;rw[if_neg ha]at h2;have es:s=a:=by simpa using h2
     split at hs
     .rename_i e;exact hc (.inl e)
     .have:s=c:=by simpa using hs
      exact hc (.inr (!0))
def JF:∀{f b w:AA},f.length=b.length->(cH f b).isSome=true->cX f b=none->(∀s∈w,s=48\/s=49)->Fits b w->km f w=true
 |[],b,w,_,_,_,_,_=>rfl
 |a::f,[],w,h,_,_,_,_=>by simp at h
 |a::f,c::b,[],_,_,_,_,hf=>rfl
 |a::f,c::b,s::w,hl,hb,hs,hw,hf=>by
  have hs0:=hf.2 0 c s rfl rfl;have hf':Fits b w:=⟨by have:=hf.1;simpa using this,λi c' s' h1 h2=>hf.2 (i+1) c' s' (!!h1) (!!h2)⟩;unfold cX at hs;rw[List.zip_cons_cons,eM]at hs;split at hs
  .cases hs
  .rename_i hne;have hs':cX f b=none:=by unfold cX;simpa using hs
   unfold cH at hb;cases h1:d9 a c with
   |none=>rw[h1]at hb;cases hb
   |some x=>
    rw[h1]at hb;have hb':(cH f b).isSome=true:=by simpa using hb
    rw[km,ae];refine ⟨?_,JF (!!hl) hb' hs' (λs hs=>hw s (bv _ hs)) hf'⟩;rw[Jq (hw s bp)];by_cases ha:a=42
    .unfold alt;rw[if_pos ha];rcases hw s bp with e |e <;> simp[e]
    .have hc:c≠42:=by
      rintro rfl;exact hne (by simp[ha])
     unfold alt at hs0 ⊢;rw[if_neg hc]at hs0;rw[if_neg ha];unfold d9 at h1;rw[if_neg ha]at h1;split at h1
     .rename_i h2;rcases h2 with h2 |h2
      .exact absurd h2 hc
      .rw[<-h2];exact hs0
     .cases h1
def aeU{rs:AU}{b l:AA}(hf:∀r∈rs,r.1.length=b.length)(hs:dm rs b=none)(hl:∀s∈l,s=48\/s=49)(hb:Fits b l):ig rs l=bM rs b:=by
 have no:∀r∈rs,(cH r.1 b).isSome=false->oh r.1 l=false:=by
  intro r hr h;cases e:oh r.1 l with
  |false=>rfl
  |true=>
   unfold oh at e;rw[ae]at e;exact (JD (!!h) hl hb e.2).elim
 cases ht:bM rs b with
 |none=>
  unfold bM at ht;unfold ig;rw[List.findIdx?_eq_none_iff]at ht ⊢;exact λr hr=>no r hr (by simpa using ht r hr)
 |some n=>
  have hn:=uF ht;have ht':=dP.mp ht;obtain ⟨_,t1,t2⟩:=ht';unfold ig;rw[dP];refine ⟨hn,?_,λj hj=>?_⟩
  .have hsf:cX rs[n].1 b=none:=by
    unfold dm at hs;rw[ht]at hs;simpa [hn] using hs
   have hlen:=hf rs[n] (da _);unfold oh;rw[ae];exact ⟨bq (by rw[hlen,hb.1]),JF hlen t1 hsf hl hb⟩
  .have:=no rs[j] (da _) (by simpa using t2 j hj);simp[this]
def uH(name:AA)(rss:List (AU))(b:AA):D:=.tup (.str name::rss.map λrs=>aY (bM rs b))
def oE(name:AA)(rss:List (AU))(b:AA):D:=.tup [.str b,uH name rss b]
inductive Lv (name:AA) (rss:List (AU)):AA->D->List (AA)->Prop
 |leaf (b:AA) (h:∀rs∈rss,dm rs b=none):Lv name rss b (uH name rss b) [b]
 |node (b:AA) (n:Nat) (z o:D) (l m:List (AA)) (h:b[n]?=some 42) (hz:Lv name rss (b.set n 48) z l) (ho:Lv name rss (b.set n 49) o m):Lv name rss b (.tup [.str kJ,.int n,z,o]) (l++m)
def Gr.lv{name:AA}{rss:List (AU)}{b:AA}{d:D}(h:Gr name rss b d):∃bs,Lv name rss b d bs:=by
 induction h with
 |leaf b h=>exact ⟨_,.leaf b h⟩
 |node b n z o h _ _ hz ho=>
  obtain ⟨l,hl⟩:=hz;obtain ⟨m,hm⟩:=ho;exact ⟨_,.node b n z o l m h hl hm⟩
def Lv.len{name:AA}{rss:List (AU)}{b:AA}{d:D}{bs:List (AA)}(h:Lv name rss b d bs):bs.length<=2 ^ stc b:=by
 induction h with
 |leaf b h=>exact Nat.one_le_two_pow
 |node b n z o l m h _ _ hz ho=>
  have e1:=kO h (show 48≠42 by decide);have e2:=kO h (show 49≠42 by decide);rw[<-e1,Nat.pow_succ,aI];have e3:stc (b.set n 49)=stc (b.set n 48):=by omega
  rw[e3]at ho;omega
def Lv.len'{name:AA}{rss:List (AU)}{b:AA}{d:D}{bs:List (AA)}(h:Lv name rss b d bs)(hb:b.length<=12):bs.length<=4096:=by
 have h1:=h.len;have h2:stc b<=12:=ce (List.countP_le_length) hb;have h3:=fA (show 0 < 2 by decide) h2;have h4:2 ^ 12=4096:=by decide
 omega
def Lv.box{name:AA}{rss:List (AU)}{b:AA}{d:D}{bs:List (AA)}(h:Lv name rss b d bs):∀c∈bs,c.length=b.length/\∀rs∈rss,dm rs c=none:=by
 induction h with
 |leaf b h=>intro c hc;rw[al.mp hc];exact ⟨rfl,h⟩
 |node b n z o l m h _ _ hz ho=>
  intro c hc;rcases ba.mp hc with hc |hc
  .have:=hz c hc;rw[d5]at this;exact this
  .have:=ho c hc;rw[d5]at this;exact this
def Lv.okf{w:Nat}{name:AA}{rss:List (AU)}{b:AA}{d:D}{bs:List (AA)}(h:Lv name rss b d bs):okF w b->∀c∈bs,okF w c:=by
 induction h with
 |leaf b h=>intro hb c hc;rw[al.mp hc];exact hb
 |node b n z o l m h _ _ hz ho=>
  intro hb c hc;rcases ba.mp hc with hc |hc
  .exact hz (Jy hb aeM) c hc
  .exact ho (Jy hb aeN) c hc
def aeV{w:Nat}{f l:AA}(h:okF w f)(hf:Fits f l):∀s∈l,s=48\/s=49:=by
 intro s hs;obtain ⟨i,hi,rfl⟩:=List.getElem_of_mem hs;have hif:i < f.length:=by rw[hf.1];exact hi
 have:=hf.2 i f[i] l[i] (by simp[hif]) (by simp[hi]);rcases h.2 f[i] (da _) with e |e |e <;> rw[e]at this <;> simp[alt]at this <;> omega
def isPlace(m:Int):D->Bool
 |.int i=>decide (0<=i)&&decide (i < m)
 |_=>false
def jj:AS->Option D
 |[.int m,x]=>if nr x then some (.bl (isPlace m x)) else none
 |_=>none
def aeW (Z:aa) (h1:Z "is_whole"=aM g8) (ds:AS) (G:DH) (d:D) (h:jj ds=some d):au Z m8 noE (env0 ds 0) G (ends λd' G'=>G'=G/\d'=d):=by
 unfold jj at h;split at h
 .rename_i m x;split at h
  .rename_i hx;cases h;have hf:g8 [x]=some (.bl (whole x)):=if_pos hx;erw[m8,h1];refine cF hf ?_;cases x <;> first | (simp[nr]at hx;done) | (erw[whole,isPlace];first | (simp;done) |skip)
   rename_i i;cases hi:decide (0<=i) with
   |true=>simp
   |false=>simp
  .cases h
 .cases h
def gA:AS->Option D
 |[.str name,.int many,.tup (.str s::r)]=>some (.bl ((((r.length+1:Nat):Int)==many+1)&&(s==name)))
 |_=>none
def aeX(Z:aa)(ds:AS)(G:DH)(d:D)(h:gA ds=some d):au Z nG noE (env0 ds 0) G (ends λd' G'=>G'=G/\d'=d):=by
 unfold gA at h;split at h
 .rename_i name many s r;cases h;erw[nG];cases he:(((r.length+1:Nat):Int)==many+1) with
  |false=>erw[fI]
  |true=>erw[e7]
 .cases h
def aeY{name s:AA}{m:Int}{r:AS}{G:DH}{k:AT}{E:EK}(h:s≠name)(hk:k (.bl false) G):(aM gA).t [.str name,.int m,.tup (.str s::r)] G k E:=
 cF (by unfold gA;dsimp only;rw[cr.mpr h,fh]) hk
def aeZ{name:AA}{m:Int}{r:AS}{G:DH}{k:AT}{E:EK}(h:(r.length:Int)=m)(hk:k (.bl true) G):(aM gA).t [.str name,.int m,.tup (.str name::r)] G k E:=
 cF (by unfold gA;dsimp only;rw[BEq.rfl,eD,av.mpr (!0)]) hk
def oI:Option Int->D
 |some i=>.int i
 |none=>.non
inductive T where
 |lf (r:List (Option Int))
 |sp (i:Int) (z o:T)
def T.d(name:AA):T->D
 |.lf r=>.tup (.str name::r.map oI)
 |.sp i z o=>.tup [.str kJ,.int i,z.d name,o.d name]
def T.dep:T->Nat
 |.lf _=>0
 |.sp _ z o=>max z.dep o.dep+1
def jk(b:AA)(i:Int):Bool:=decide (0<=i)&&b[i.toNat]?==some 42
def T.lvs:T->AA->Option (List (AA×List (Option Int)))
 |.lf r,b=>some [(b,r)]
 |.sp i z o,b=>match jk b i with
  |true=>(match z.lvs (b.set i.toNat 48),o.lvs (b.set i.toNat 49) with |some l,some m=>some (l++m) |_,_=>none)
  |false=>none
def oF(name:AA)(x:AA×List (Option Int)):D:=.tup [.str x.1,.tup (.str name::x.2.map oI)]
def eF(name:AA):Option (List (AA×List (Option Int)))->D
 |none=>.non
 |some l=>.lst (l.map (oF name))
def T.lvs_len:∀(t:T){b:AA}{l:List (AA×List (Option Int))},t.lvs b=some l->l.length<=2 ^ t.dep
 |.lf r,b,l,h=>by cases h;exact Nat.one_le_two_pow
 |.sp i z o,b,l,h=>by
  rw[T.lvs]at h;split at h
  .split at h
   .rename_i l1 l2 h1 h2;cases h;have e1:=z.lvs_len h1;have e2:=o.lvs_len h2;have e3:=fA (show 0 < 2 by decide) (Nat.le_max_left z.dep o.dep);have e4:=fA (show 0 < 2 by decide) (Nat.le_max_right z.dep o.dep);rw[aI,T.dep,Nat.pow_succ];omega
   .cases h
  .cases h
def T.lvs_len'{n:Nat}{t:T}{b:AA}{l:List (AA×List (Option Int))}(h:t.lvs b=some l)(hn:t.dep < n)(hn':n<=12):l.length<=4096:=by
 have h1:=t.lvs_len h;have h3:=fA (show 0 < 2 by decide) (show t.dep<=12 by omega);have h4:2 ^ 12=4096:=by decide
 omega
structure TA where
 name:AA
 b:AA
 t:T
def JG(n:Nat)(a:TA):Prop:=a.name≠kJ/\a.b.length<=12/\a.t.dep < n/\n<=12
def eG(n:Nat):RF.Spec:=cT (λa:TA=>[.str a.b,a.t.d a.name]) (JG n) (λa=>eF a.name (a.t.lvs a.b))
def zT{n:Nat}{name b:AA}{t:T}{G:DH}{k:AT}{E:EK}(h1:name≠kJ)(h2:b.length<=12)(h3:t.dep < n)(h4:n<=12)(hk:k (eF name (t.lvs b)) G):(eG n).t [.str b,t.d name] G k E:=dC ⟨name,b,t⟩ rfl ⟨h1,h2,h3,h4⟩ hk
def ae0(ds:AS)(G:DH)(a:(eG 0).A):¬(eG 0).pre ds G a:=λ⟨_,_,_,_,h,_⟩=>by omega
def ae1{b:AA}{i:Int}(h:jk b i=true):0<=i/\∃n:Nat,i=n/\n < b.length/\b[n]?=some 42:=by
 unfold jk at h;rw[ae]at h;have h1:=dQ h.1;have h2:b[i.toNat]?=some 42:=by simpa using h.2
 exact ⟨h1,i.toNat,!0,(ar.mp h2).1,h2⟩
def ae2 (Z:aa) (n:Nat) (h0:Z "leaves"=eG n) (h1:Z "is_named"=aM gA) (h2:Z "is_place"=aM jj) (h3:Z "with_sign"=aM ik) (a:TA) (G:DH) (h:JG (n+1) a):au Z iY noE (env0 [.str a.b,a.t.d a.name] 3) G (ends λd G'=>G'=G/\d=eF a.name (a.t.lvs a.b)):=by
 obtain ⟨name,b,t⟩:=a;obtain ⟨hne,hbl,hd,hn⟩:=h;dsimp only at hne hbl hd ⊢;cases t with
 |lf r=>
  simp_all_arith[iY];nofun;erw[h1,T.d];refine aeY hne ?_;erw[T.lvs,eF,oF];exact ⟨!1,!1⟩
 |sp i z o=>
  rw[T.dep]at hd;simp_all_arith[iY];nofun;erw[h1,T.d];refine aeZ rfl ?_;erw[ends];symm;erw[ends];symm;erw[h2];refine cF (d:=.bl (isPlace b.length (.int i))) rfl ?_;cases hst:jk b i with
  |false=>
   rw[T.lvs,hst];cases hp:isPlace b.length (.int i) with
   |false=>erw[eF]
   |true=>
    unfold isPlace at hp;rw[ae]at hp;have p1:=dQ hp.1;have p2:=dQ hp.2;obtain ⟨m,rfl⟩:∃m:Nat,i=m:=⟨i.toNat,!0⟩;have hm:m < b.length:=by omega
    have hc:b[m]?=some b[m]:=aE hm;have hne42:((b[m]==42):Bool)=false:=by unfold jk at hst;rw[bq (!0),e7,cb,hc]at hst;simpa using hst
    erw[ends];refine bw (a:=b[m]) (b7 hc) ?_;erw[kE,hne42,eF]
  |true=>
   obtain ⟨_,m,rfl,hm,hc⟩:=ae1 hst;have hp:isPlace b.length (.int (m:Int))=true:=by show (decide (0<=(m:Int))&&decide ((m:Int) < b.length))=true;rw[bq (!0),bq (!0)];rfl
   have hl:(T.sp (m:Int) z o).lvs b=match z.lvs (b.set m 48),o.lvs (b.set m 49) with |some l,some m=>some (l++m) |_,_=>none:=by rw[T.lvs,hst,cb]
   rw[hp];erw[ends];refine bw (a:=42) (b7 hc) ?_;erw[BEq.rfl];symm;erw[h0,h3];refine uG hm (!0) (zT hne (by rw[d5];exact hbl) (!0) (!0) (hM _ _ (seq λM hM=>?_)));erw[h0,h3];refine uG hm (!0) (zT hne (by rw[d5];exact hbl) (!0) (!0) (hM _ _ (seq λM hM=>?_)));cases e1:z.lvs (b.set m 48) with
   |none=>
    rw[e1]at hl;erw[hl,eF]
   |some l1=>
    cases e2:o.lvs (b.set m 49) with
    |none=>
     rw[e1,e2]at hl;erw[hl,eF]
    |some l2=>
     rw[e1,e2]at hl;have q1:=T.lvs_len' e1 (n:=n) (!0) (!0);have q2:=T.lvs_len' e2 (n:=n) (!0) (!0);erw[eF];ac_nf0;erw[ag,c9,hl,eF];bv_omega
def ae3(o:Option Nat):aY o=oI (o.map λn=>(n:Int)):=by cases o <;> rfl
def kW(rss:List (AU))(c:AA):List (Option Int):=rss.map λrs=>(bM rs c).map λn=>(n:Int)
def JH{rss:List (AU)}{c:AA}:(kW rss c).map oI=rss.map λrs=>aY (bM rs c):=by unfold kW;rw[dc];exact d0 λrs _=>(ae3 _).symm
def Lv.tree{name:AA}{rss:List (AU)}{b:AA}{d:D}{bs:List (AA)}(h:Lv name rss b d bs):∃t:T,d=t.d name/\t.dep<=stc b/\t.lvs b=some (bs.map λc=>(c,kW rss c)):=by
 induction h with
 |leaf b h=>exact ⟨.lf (kW rss b),by rw[T.d,JH];rfl,dE _,rfl⟩
 |node b n z o l m h _ _ hz ho=>
  obtain ⟨tz,rfl,d1,e1⟩:=hz;obtain ⟨tO,rfl,d2,e2⟩:=ho;have s1:=kO h (show 48≠42 by decide);have s2:=kO h (show 49≠42 by decide);refine ⟨.sp n tz tO,rfl,?_,?_⟩
  .rw[T.dep];have:=Nat.max_le.mpr ⟨show tz.dep<=stc (b.set n 48) from d1,show tO.dep<=stc (b.set n 48) by omega⟩;omega
  .have hs:jk b (n:Int)=true:=by unfold jk;rw[bq (!0),cb,h];rfl
   rw[T.lvs,hs,cb,e1,e2];simp
def ae4{name:AA}{rss:List (AU)}{c:AA}:oF name (c,kW rss c)=oE name rss c:=by unfold oF oE uH;rw[JH]
def ae5{n:Nat}{name:AA}{rss:List (AU)}{b:AA}{d:D}{bs:List (AA)}{G:DH}{k:AT}{E:EK}(h:Lv name rss b d bs)(h1:name≠kJ)(h2:b.length<=12)(h3:stc b < n)(hk:k (.lst (bs.map (oE name rss))) G)(h4:n<=12:=by decide):(eG n).t [.str b,d] G k E:=by
 obtain ⟨t,rfl,e1,e2⟩:=h.tree;refine zT h1 h2 (!0) h4 ?_;rw[e2,eF,dc];have:(oF name∘λc=>(c,kW rss c))=oE name rss:=by funext c;exact ae4
 rw[this];exact hk
def gB:AA->List (AA)
 |[]=>[[]]
 |c::f=>(alt c).flatMap λs=>(gB f).map (s::·)
def JK:∀(f:AA)(acc:List (AA)),f.foldl step1 acc=acc.flatMap λt=>(gB f).map (t ++ ·)
 |[],acc=>by simp[gB]
 |c::f,acc=>by
  rw[List.foldl_cons,JK f,step1,List.flatMap_assoc];congr 1;funext t;rw[gB,List.flatMap_map,List.map_flatMap];congr 1;funext s;rw[dc];congr 1;funext x;simp
def ae6(f:AA):ie f=gB f:=by unfold ie;rw[JK];simp
def ae7{w:Nat}{G:DH}{k:AT}{E:EK}(h:w<=1000)(hk:k (.str (List.replicate w 42)) G):(aM ji).t [.int w] G k E:=
 cF (d:=.str (List.replicate w 42)) (by unfold ji;dsimp only;rw[if_pos (by simp only[ae,bS];omega),cb]) hk
def cI(l:AA):AA:=l.map λa=>if a=42 then 48 else a
def kY:AS->Option D
 |[.str l]=>if decide (l.length<=1000) then some (.str (cI l)) else none
 |_=>none
def ae8{l:AA}{G:DH}{k:AT}{E:EK}(h:l.length<=1000)(hk:k (.str (cI l)) G):(aM kY).t [.str l] G k E:=cF (if_pos (bq h)) hk
def ae9{b l:AA}{n:Nat}(h:Fits b l)(hn:b[n]?=some 42):Fits (b.set n 48) l\/Fits (b.set n 49) l:=by
 obtain ⟨hl,he⟩:=ar.mp hn;have hnl:n < l.length:=by rw[<-h.1];exact hl
 have hs:=h.2 n 42 l[n] hn (aE hnl);have put:∀c,l[n]=c->c≠42->Fits (b.set n c) l:=by
  intro c hc hc42;refine ⟨by rw[d5];exact h.1,λi x y hx hy=>?_⟩;rw[List.getElem?_set]at hx;by_cases hi:n=i
  .subst hi;rw[if_pos rfl,if_pos hl]at hx;rw[aE hnl]at hy;cases hx;cases hy;unfold alt;rw[if_neg hc42,hc];simp
  .rw[if_neg hi]at hx;exact h.2 i x y hx hy
 unfold alt at hs;rw[if_pos rfl]at hs;have:l[n]=48\/l[n]=49:=by simpa using hs
 rcases this with e |e
 .exact .inl (put 48 e (!1))
 .exact .inr (put 49 e (!1))
def JL{b l:AA}{n c:Nat}(h:Fits (b.set n c) l)(hn:b[n]?=some 42)(hc:c=48\/c=49):Fits b l:=by
 have hl:=(ar.mp hn).1;refine ⟨by have:=h.1;rwa [d5]at this,λi x y hx hy=>?_⟩;by_cases hi:n=i
 .subst hi;rw[hn]at hx;cases hx;have:=h.2 n c y (by rw[List.getElem?_set,if_pos rfl,if_pos hl]) hy;unfold alt at this ⊢;rw[if_neg (!0)]at this;rw[if_pos rfl];have e:y=c:=by simpa using this
  rw[e];simpa using hc
 .exact h.2 i x y (by rw[List.getElem?_set,if_neg hi];exact hx) hy
def Lv.cover{name:AA}{rss:List (AU)}{b:AA}{d:D}{bs:List (AA)}(h:Lv name rss b d bs):∀l,Fits b l->∃c∈bs,Fits c l:=by
 induction h with
 |leaf b h=>exact λl hl=>⟨b,by simp,hl⟩
 |node b n z o l m h _ _ hz ho=>
  intro w hw;rcases ae9 hw h with e |e
  .obtain ⟨c,hc,hf⟩:=hz w e;exact ⟨c,ba.mpr (.inl hc),hf⟩
  .obtain ⟨c,hc,hf⟩:=ho w e;exact ⟨c,ba.mpr (.inr hc),hf⟩
def Lv.within{name:AA}{rss:List (AU)}{b:AA}{d:D}{bs:List (AA)}(h:Lv name rss b d bs):∀c∈bs,∀l,Fits c l->Fits b l:=by
 induction h with
 |leaf b h=>intro c hc l hl;rw[al.mp hc]at hl;exact hl
 |node b n z o l m h _ _ hz ho=>
  intro c hc w hw;rcases ba.mp hc with hc |hc
  .exact JL (hz c hc w hw) h (.inl rfl)
  .exact JL (ho c hc w hw) h (.inr rfl)
def afa{a s:Nat}{f l:AA}(h:Fits (a::f) (s::l)):s∈alt a/\Fits f l:=
 ⟨h.2 0 a s rfl rfl,by have:=h.1;simpa using this,λi c t h1 h2=>h.2 (i+1) c t (!!h1) (!!h2)⟩
def afb{a s:Nat}{f l:AA}(h1:s∈alt a)(h2:Fits f l):Fits (a::f) (s::l):=⟨by simp[h2.1],λi c t hc ht=>by
 cases i with
 |zero=>simp at hc ht;rw[<-hc,<-ht];exact h1
 |succ i=>exact h2.2 i c t (!!hc) (!!ht)⟩
def zU:∀c:AA,Fits c (cI c)
 |[]=>⟨rfl,λi c s h=>by simp at h⟩
 |a::c=>by
  show Fits (a::c) ((if a=42 then 48 else a)::cI c);refine afb ?_ (zU c);unfold alt;split <;> simp
def JM:∀{c l:AA},Fits c l->¬l < cI c
 |[],l,h=>by
  have:l=[]:=cK.mp h.1.symm;subst this;exact List.lt_irrefl _
 |a::c,[],h=>by have:=h.1;simp at this
 |a::c,s::l,h=>by
  obtain ⟨h1,h2⟩:=afa h;show ¬(s::l) < ((if a=42 then 48 else a)::cI c);rw[gN];have ih:=JM h2;unfold alt at h1;split at h1
  .rename_i e;rw[if_pos e];have:s=48\/s=49:=by simpa using h1
   rintro (q |q)
   .omega
   .exact ih q.2
  .rename_i e;rw[if_neg e];have:s=a:=by simpa using h1
   rintro (q |q)
   .omega
   .exact ih q.2
def JN:∀{x m a:AA},x < m->¬a < m->x < a
 |x,[],a,h,_=>absurd h (by simp)
 |x,b::m,[],_,h=>absurd (by simp) h
 |[],b::m,y::a,_,_=>by simp
 |c::x,b::m,y::a,h,g=>by
  rw[gN]at h g ⊢;have g1:¬y < b:=λe=>g (.inl e);rcases h with h |⟨h1,h2⟩
  .exact .inl (!0)
  .by_cases e:y=b
   .exact .inr ⟨!0,JN h2 λz=>g (.inr ⟨e,z⟩)⟩
   .exact .inl (!0)
def JP:∀f:AA,(gB f).Pairwise (· < ·)
 |[]=>by simp[gB]
 |c::f=>by
  have ih:=JP f;have one:∀s:Nat,((gB f).map (s::·)).Pairwise (· < ·):=λs=>List.pairwise_map.mpr (ih.imp λh=>gN.mpr (.inr ⟨rfl,h⟩));rw[gB];unfold alt;split
  .rw[List.flatMap_cons,List.flatMap_cons,List.flatMap_nil,d6,List.pairwise_append];refine ⟨one 48,one 49,λa ha b hb=>?_⟩;obtain ⟨x,_,rfl⟩:=bX.mp ha;obtain ⟨y,_,rfl⟩:=bX.mp hb;exact gN.mpr (.inl (!1))
  .rw[List.flatMap_cons,List.flatMap_nil,d6];exact one c
def afc{u:List (AA)}{m:AA}(h:u.Pairwise (· < ·))(hm:m∈u)(hl:∀x∈u,¬x < m):u.head?=some m:=by
 cases u with
 |nil=>cases hm
 |cons a u=>
  rcases a7.mp hm with e |hm
  .rw[e];rfl
  .exact absurd ((List.pairwise_cons.mp h).1 m hm) (hl a bp)
def afd{ds:AS}{ls:List (AA)}{k:D->Prop}(h0:bx ds=none)(h:bz ds=some ls)(hk:∀m,m∈ls->(∀a,a∈ls->¬a < m)->k (.str m)):opB .min [.lst ds] k:=by show lU [.lst ds] k;unfold lU;dsimp only;rw[h0,h];exact hk
def JQ:AA:=[115,97,109,101]
def JR:AA:=[112,97,114,116,101,100]
def JS:AA:=[97,108,105,107,101]
def uI:RF.Spec:=cT (λa:Nat×AU×AU=>[aq a.1 a.2.1,aq a.1 a.2.2]) (λa=>okB a.1 a.2.1/\okB a.1 a.2.2) (λ_=>.non)
def afe{w:Nat}{rs ss:AU}{G:DH}{k:AT}{E:EK}(h:okB w rs)(h':okB w ss)(hk:k .non G):uI.t [aq w rs,aq w ss] G k E:=dC (w,rs,ss) rfl ⟨h,h'⟩ hk
def afg (Z:aa) (h1:Z "need_book"=gr) (a:Nat×AU×AU) (G:DH) (h:okB a.1 a.2.1/\okB a.1 a.2.2):au Z nH noE (env0 [aq a.1 a.2.1,aq a.1 a.2.2] 0) G (ends λd G'=>G'=G/\d=.non):=by obtain ⟨w,rs,ss⟩:=a;obtain ⟨hb,hc⟩:=h;dsimp only at hb hc ⊢;simp_all_arith[nH];nofun;erw[h1];refine kj hb (hM _ _ (seq λM hM=>?_));erw[h1];refine kj hc (hM _ _ (last ?_));erw[aq,BEq.rfl,eL]
def cu(rs:AU)(o:Option Nat):Option (AA):=o.bind λn=>rs[n]?.map (·.2)
def JT{rs:AU}{o:Option Nat}:kI rs o=dj (cu rs o):=by
 cases o with
 |none=>rfl
 |some n=>
  unfold kI cu;dsimp only[Option.bind];cases rs[n]? <;> rfl
structure SD where
 w:Nat
 rs:AU
 ss:AU
 name:AA
 o:Option Nat
 p:Option Nat
def sSD:RF.Spec:=cT (λa:SD=>[aq a.w a.rs,aq a.w a.ss,.tup [.str a.name,aY a.o,aY a.p]]) (λa=>(∀n,a.o=some n->n < a.rs.length)/\∀n,a.p=some n->n < a.ss.length) (λa=>.bl (cu a.rs a.o==cu a.ss a.p))
def afh{w:Nat}{rs ss:AU}{name:AA}{o p:Option Nat}{G:DH}{k:AT}{E:EK}(h1:∀n,o=some n->n < rs.length)(h2:∀n,p=some n->n < ss.length)(hk:k (.bl (cu rs o==cu ss p)) G):sSD.t [aq w rs,aq w ss,.tup [.str name,aY o,aY p]] G k E:=dC ⟨w,rs,ss,name,o,p⟩ rfl ⟨h1,h2⟩ hk
def afi (Z:aa) (h1:Z "deed_of"=uD) (a:SD) (G:DH) (h:(∀n,a.o=some n->n < a.rs.length)/\∀n,a.p=some n->n < a.ss.length):au Z nJ noE (env0 [aq a.w a.rs,aq a.w a.ss,.tup [.str a.name,aY a.o,aY a.p]] 0) G (ends λd G'=>G'=G/\d=.bl (cu a.rs a.o==cu a.ss a.p)):=by obtain ⟨w,rs,ss,name,o,p⟩:=a;obtain ⟨ho,hp⟩:=h;dsimp only at ho hp ⊢;erw[nJ,h1];refine Js ho (Js hp ?_);rw[JT,JT];cases cu rs o <;> cases cu ss p <;> erw[dj] <;> first |done | (simp;done) | (refine ⟨!1,?_⟩;simp;done)
def eN(w:Nat)(rs ss:AU):List (AA):=(ie (List.replicate w 42)).filter λl=>!(cu rs (ig rs l)==cu ss (ig ss l))
def eO(rs ss:AU)(c:AA):Bool:=cu rs (bM rs c)==cu ss (bM ss c)
def zV(w:Nat)(rs ss:AU)(d:D):Prop:=
 (∃m,(eN w rs ss).head?=some m/\d=.tup [.str JR,.str m])\/(eN w rs ss=[]/\∃t bs,d=.tup [.str JS,t]/\Lv JQ [rs,ss] (List.replicate w 42) t bs/\∀c∈bs,eO rs ss c=true)
def uJ:RF.Spec:=ghS (A:=Nat×AU×AU) (λa ds _=>ds=[aq a.1 a.2.1,aq a.1 a.2.2]/\okB a.1 a.2.1/\okB a.1 a.2.2) (λa G d G'=>G'=G/\zV a.1 a.2.1 a.2.2 d)
def afj{w:Nat}{rs ss:AU}{G:DH}{k:AT}{E:EK}(h:okB w rs)(h':okB w ss)(hk:∀d,zV w rs ss d->k d G):uJ.t [aq w rs,aq w ss] G k E:=
 gj (w,rs,ss) ⟨rfl,h,h'⟩ λd G' hx=>by
  obtain ⟨e,q⟩:=hx;subst e;exact hk d q
def afk (Z:aa) (h1:Z "need_two_books"=uI) (h2:Z "grown"=fH 9) (h3:Z "leaves"=eG 9) (h4:Z "least"=aM kY) (h5:Z "stars"=aM ji) (h6:Z "same_deeds"=sSD) (a:Nat×AU×AU) (ds:AS) (G:DH) (h:ds=[aq a.1 a.2.1,aq a.1 a.2.2]/\okB a.1 a.2.1/\okB a.1 a.2.2):
  au Z nO noE (env0 ds 3) G (ends λd G'=>G'=G/\zV a.1 a.2.1 a.2.2 d):=by
 obtain ⟨w,rs,ss⟩:=a;obtain ⟨rfl,hb,hb'⟩:=h;dsimp only at hb hb' ⊢;have hw6:=hb.w6;have hst:=aeT w;have hrl:∀r∈rs,r.1.length=w:=λr hr=>(hb.form r hr).1;have hsl:∀r∈ss,r.1.length=w:=λr hr=>(hb'.form r hr).1;have e0:∀xs:AU,D.tup [.int w,.tup (xs.map aQ)]=aq w xs:=λ_=>rfl;simp_all_arith[nO];nofun;erw[h1];refine afe hb hb' (hM _ _ (seq λM hM=>?_));erw[aq,h5];refine ae7 (!0) (hM _ _ (seq λM hM=>?_));erw[h2];have er:[D.tup (rs.map aQ),.tup (ss.map aQ)]=eE [rs,ss]:=rfl;rw[er];refine ⟨!1,zR (name:=JQ) ⟨by simp,!1,λxs hxs r hr=>?_,!0⟩ dn (!0) λt ht=>hM _ _ (seq λM hM=>?_)⟩
 .rcases a7.mp hxs with e |hxs
  .rw[e]at hr;exact hrl r hr
  .rw[al.mp hxs]at hr;exact hsl r hr
 obtain ⟨bs,hL⟩:=ht.lv;have hlen:=hL.len' (by rw[dn];omega);erw[h3];refine ae5 hL (!1) (by rw[dn];omega) (!0) ?_;erw[ends];refine CompG.inv (P:=λi acc Y G'=>(∃o1 o2,Y=[o1,o2,some (.tup [.int w,.tup (rs.map aQ)]),some (.tup [.int w,.tup (ss.map aQ)])])/\G'=G/\acc=((bs.take i).filter λc=>!eO rs ss c).map λc=>D.str (cI c)) ⟨⟨_,_,rfl⟩,rfl,rfl⟩ (λ_ _ _ _ _=>trivial) (by rw[ag];bv_omega) ?_ ?_
 .rintro i d acc Y G' hd ⟨⟨o1,o2,rfl⟩,rfl,rfl⟩ kk hk;rw[b9]at hd;obtain ⟨c,hcb,rfl⟩:=br.mp hd;have hcl:=(hL.box c (cf hcb)).1;rw[dn]at hcl;have htk:bs.take (i+1)=bs.take i++[c]:=by rw[List.take_add_one,hcb];rfl
  erw[oE,uH,h6];rw[e0,e0];refine afh (λn hn=>uF hn) (λn hn=>uF hn) ?_;have es:(cu rs (bM rs c)==cu ss (bM ss c))=eO rs ss c:=rfl;rw[es];cases hsb:eO rs ss c with
  |true=>
   erw[ends];exact hk _ _ _ ⟨⟨_,_,rfl⟩,rfl,by rw[htk,List.filter_append];simp[hsb]⟩
  |false=>
   erw[h4];refine ae8 (!0) (hk _ _ _ ⟨⟨_,_,rfl⟩,rfl,by rw[htk,List.filter_append];simp[hsb]⟩)
 .rintro acc Y G' ⟨_,rfl,rfl⟩;rw[ag,List.take_length];symm;have meet:∀xs∈[rs,ss],∀c∈bs,∀l,Fits c l->ig xs l=bM xs c:=by
   intro xs hxs c hc l hl;obtain ⟨e1,e2⟩:=hL.box c hc;rw[dn]at e1;have okc:=hL.okf (aex w) c hc;refine aeU (λr hr=>?_) (e2 _ hxs) (aeV okc hl) hl;rcases a7.mp hxs with e |hxs
   .rw[e]at hr;rw[hrl r hr,e1]
   .rw[al.mp hxs]at hr;rw[hsl r hr,e1]
  have both:∀c∈bs,∀l,Fits c l->(cu rs (ig rs l)==cu ss (ig ss l))=eO rs ss c:=by intro c hc l hl;rw[meet rs (by simp) c hc l hl,meet ss (by simp) c hc l hl];rfl
  cases hfr:bs.filter λc=>!eO rs ss c with
  |nil=>
   have hall:∀c∈bs,eO rs ss c=true:=by
    intro c hc;have:=List.filter_eq_nil_iff.mp hfr c hc;cases h:eO rs ss c with
    |false=>rw[h]at this;exact absurd rfl this
    |true=>rfl
   erw[ends];ac_nf0;erw[ends];refine ⟨!1,.inr ⟨?_,t,bs,rfl,hL,hall⟩⟩;unfold eN;rw[List.filter_eq_nil_iff];intro l hl;obtain ⟨c,hc',hfc⟩:=hL.cover l (zO.mp hl);rw[both c hc' l hfc,hall c hc'];simp
  |cons c0 cs=>
   have hne:(!(List.isEmpty (D.str (cI c0)::cs.map λc=>D.str (cI c))))=true:=rfl;erw[hne];rw[<-a9 (f:=λc=>D.str (cI c)),<-hfr];have es:bz ((bs.filter λc=>!eO rs ss c).map λc=>D.str (cI c))=some ((bs.filter λc=>!eO rs ss c).map cI):=strs_map _ _;have ei:bx ((bs.filter λc=>!eO rs ss c).map λc=>D.str (cI c))=none:=by rw[hfr];rfl
   refine afd ei es λm hm hlow=>?_;obtain ⟨c,hcm,rfl⟩:=bX.mp hm;obtain ⟨hcb,hcn⟩:=gl.mp hcm;refine ⟨!1,.inl ⟨cI c,?_,rfl⟩⟩;refine afc ?_ ?_ ?_
   .unfold eN;rw[ae6];exact (JP _).filter _
   .unfold eN;rw[gl];refine ⟨zO.mpr (hL.within c hcb _ (zU c)),?_⟩;rw[both c hcb _ (zU c)];exact hcn
   .intro x hx hlt;unfold eN at hx;obtain ⟨hx1,hx2⟩:=gl.mp hx;obtain ⟨c',hc',hfc⟩:=hL.cover x (zO.mp hx1);rw[both c' hc' x hfc]at hx2;have hlow':=hlow (cI c') (bX.mpr ⟨c',gl.mpr ⟨hc',hx2⟩,rfl⟩);exact JM hfc (JN hlt hlow')
def uK:RF.Spec:=cT (λa:Nat×AU×AU=>[aq a.1 a.2.1,aq a.1 a.2.2]) (λa=>okB a.1 a.2.1/\okB a.1 a.2.2) (λa=>dj (eN a.1 a.2.1 a.2.2).head?)
def afl{w:Nat}{rs ss:AU}{G:DH}{k:AT}{E:EK}(h:okB w rs)(h':okB w ss)(hk:k (dj (eN w rs ss).head?) G):uK.t [aq w rs,aq w ss] G k E:=dC (w,rs,ss) rfl ⟨h,h'⟩ hk
def afm (Z:aa) (h1:Z "alike"=uJ) (a:Nat×AU×AU) (G:DH) (h:okB a.1 a.2.1/\okB a.1 a.2.2):au Z nP noE (env0 [aq a.1 a.2.1,aq a.1 a.2.2] 2) G (ends λd G'=>G'=G/\d=dj (eN a.1 a.2.1 a.2.2).head?):=by
 obtain ⟨w,rs,ss⟩:=a;obtain ⟨hb,hb'⟩:=h;dsimp only at hb hb' ⊢;have eb:(([97,108,105,107,101]==[112,97,114,116,101,100]):Bool)=false:=by decide
 simp_all_arith[nP];nofun;erw[h1];refine afj hb hb' λd hq=>?_;rcases hq with ⟨m,hm,rfl⟩ |⟨hnil,t,bs,rfl,_,_⟩
 .erw[JR];ac_nf0;erw[BEq.rfl,hm,dj,eL]
 .erw[JS];ac_nf0;erw[eb,hnil,List.head?_nil,dj,eL]
def afn{α:Type}(l:List α)(n:Nat):cut l (some ((n:Int)+2)) none=l.drop (n+2):=yR l (n+2)
def afo{rs:AU}{n:Nat}(h:n < rs.length):(rs.map aQ)[n]?=some (aQ (rs.getD n ([],[]))):=by rw[b9,cS,aE h];rfl
def aA(o:AA):D:=.tup (o.map λi:Nat=>D.int (i:Int))
def okO(n:Nat)(o:AA):Prop:=o.Perm (List.range n)
def okO.len{n:Nat}{o:AA}(h:okO n o):o.length=n:=by rw[List.Perm.length_eq h,en]
def okO.mem{n i:Nat}{o:AA}(h:okO n o)(hi:i∈o):i < n:=fF.mp ((List.Perm.mem_iff h).mp hi)
def zW(n:Nat):D.tup (aX 0 n)=aA (List.range n):=by unfold aX aA;congr 1;exact d0 (λ(i:Nat) _=>by rw[Int.zero_add])
def aH(o:AA):List Int:=o.map λi:Nat=>(i:Int)
def zX(o:AA):o.map (λi:Nat=>D.int (i:Int))=(aH o).map D.int:=by unfold aH;rw[dc];rfl
def afp(n:Nat):aX 0 n=(aH (List.range n)).map D.int:=by have:=zW n;unfold aA at this;rw[zX]at this;exact D.tup.inj this
def oG:∀l:List Int,bx (l.map D.int)=some l
 |[]=>rfl
 |a::l=>by rw[a9,bx,oG l]
def afq:∀n:Fin 13,(aH (List.range n.1)).Pairwise (·<=·):=by decide
def JV:∀{a b:List Int},a.Perm b->a.Pairwise (·<=·)->b.Pairwise (·<=·)->a=b
 |[],b,h,_,_=>h.nil_eq
 |x::a,[],h,_,_=>absurd h.length_eq (by simp)
 |x::a,y::b,h,ha,hb=>by
  rw[List.pairwise_cons]at ha hb;have h1:x∈y::b:=h.mem_iff.mp bp;have h2:y∈x::a:=h.mem_iff.mpr bp;have e:x=y:=by
   rcases a7.mp h1 with e |m
   .exact e
   .rcases a7.mp h2 with e |m'
    .exact e.symm
    .have:=hb.1 x m;have:=ha.1 y m';omega
  subst e;rw[JV (List.perm_cons x |>.mp h) ha.2 hb.2]
def fJ:∀l:List Int,nrs (l.map D.int)=true/\aV (l.map D.int)=0
 |[]=>⟨rfl,rfl⟩
 |a::l=>by
  obtain ⟨h1,h2⟩:=fJ l;rw[a9,nrs,aV,h1,h2];exact ⟨rfl,rfl⟩
def JW(o:AA):nr (aA o)=true/\dpt (aA o)<=1:=by unfold aA;rw[zX,nr,dpt,(fJ _).1,(fJ _).2];exact ⟨rfl,ax _⟩
def kZ:RF.Spec:=cT (λa:Nat×AU=>[aq a.1 a.2]) (λa=>okB a.1 a.2) (λa=>aA (List.range a.2.length))
def zY{w:Nat}{rs:AU}{G:DH}{k:AT}{E:EK}(h:okB w rs)(hk:k (aA (List.range rs.length)) G):kZ.t [aq w rs] G k E:=dC (w,rs) rfl h hk
def afr(Z:aa)(a:Nat×AU)(G:DH)(h:okB a.1 a.2):au Z m9 noE (env0 [aq a.1 a.2] 0) G (ends λd G'=>G'=G/\d=aA (List.range a.2.length)):=by obtain ⟨w,rs⟩:=a;dsimp only at h ⊢;have hlen:=h.len;erw[m9,aq,ag,cb];exact ⟨⟨!0,!0⟩,zW _⟩
def byR(rs:AU)(o:AA):AU:=o.map λi=>rs.getD i ([],[])
def JX{w:Nat}{rs:AU}{o:AA}(hb:okB w rs)(ho:okO rs.length o):okB w (byR rs o):=by
 refine hb.sub ?_ λr hr=>?_
 .unfold byR;rw[ag,ho.len];first |exact hb.len |exact ax _
 .obtain ⟨i,hi,rfl⟩:=bX.mp hr;have:=ho.mem hi;rw[cS,aE this];exact da _
def JZ{rs:AU}{o:AA}{d:D}{n:Nat}(ho:okO n o)(hn:rs.length=n)(hd:d∈o.map λi:Nat=>D.int (i:Int)):∃i:Nat,d=.int (i:Int)/\atI (rs.map aQ) (i:Int)=some (aQ (rs.getD i ([],[]))):=by obtain ⟨i,hi,rfl⟩:=bX.mp hd;exact ⟨i,rfl,b7 (afo (by rw[hn];exact ho.mem hi))⟩
def zZ(rs:AU):D->D
 |.int i=>aQ (rs.getD i.toNat ([],[]))
 |_=>.non
def J0(rs:AU)(o:AA):(o.map λi:Nat=>D.int (i:Int)).map (zZ rs)=(byR rs o).map aQ:=by unfold byR;rw[dc,dc];exact d0 λi _=>rfl
def good(w:Nat)(rs:AU)(o:AA):Bool:=(eN w rs (byR rs o)).isEmpty
def uL:RF.Spec:=cT (A:=Nat×AU×AA) (λa=>[aq a.1 a.2.1,aA a.2.2]) (λa=>okB a.1 a.2.1/\okO a.2.1.length a.2.2) (λa=>.bl (good a.1 a.2.1 a.2.2))
def afs{w:Nat}{rs:AU}{o:AA}{G:DH}{k:AT}{E:EK}(h:okB w rs)(ho:okO rs.length o)(hk:k (.bl (good w rs o)) G):uL.t [aq w rs,aA o] G k E:=dC (w,rs,o) rfl ⟨h,ho⟩ hk
def cJ(o:AA)(n:Nat):AA:=o.take n++[o.getD (n+1) 0,o.getD n 0]++o.drop (n+2)
def aft{l:AA}{n:Nat}(h:n+1 < l.length):l=l.take n++(l.getD n 0::l.getD (n+1) 0::l.drop (n+2)):=by
 have e:l.drop n=l.getD n 0::l.getD (n+1) 0::l.drop (n+2):=by rw[b6 (show n < l.length by omega),b6 h,cS,cS,aE (show n < l.length by omega),aE h];rfl
 rw[<-e,List.take_append_drop]
def afu{m n:Nat}{o:AA}(ho:okO m o)(h:n+1 < m):okO m (cJ o n):=by
 have hl:n+1 < o.length:=by rw[ho.len];exact h
 refine List.Perm.trans ?_ ho;conv=>rhs;rw[aft hl]
 unfold cJ;rw[List.append_assoc];exact List.Perm.append_left _ (List.Perm.swap _ _ _)
def uM:RF.Spec:=cT (A:=AA×Nat) (λa=>[aA a.1,.int (a.2:Nat)]) (λa=>a.2+1 < a.1.length/\a.1.length<=12) (λa=>aA (cJ a.1 a.2))
def afv{o:AA}{n:Nat}{G:DH}{k:AT}{E:EK}(h1:n+1 < o.length)(h2:o.length<=12)(hk:k (aA (cJ o n)) G):uM.t [aA o,.int (n:Nat)] G k E:=dC (o,n) rfl ⟨h1,h2⟩ hk
def J1{o:AA}{n:Nat}(h:n < o.length):(o.map λi:Nat=>D.int (i:Int))[n]?=some (.int (o.getD n 0:Nat)):=by rw[b9,cS,aE h];rfl
def afw(Z:aa)(a:AA×Nat)(G:DH)(h:a.2+1 < a.1.length/\a.1.length<=12):au Z ni noE (env0 [aA a.1,.int (a.2:Nat)] 0) G (ends λd G'=>G'=G/\d=aA (cJ a.1 a.2)):=by obtain ⟨o,n⟩:=a;obtain ⟨h1,h2⟩:=h;dsimp only at h1 h2 ⊢;simp_all_arith[ni,aA];refine last ?_;simp_arith[aev,afn,<-List.map_drop,ag];refine bw (a:=.int (o.getD (n+1) 0:Nat)) (b7 (j:=n+1) (J1 h1)) (bw (a:=.int (o.getD n 0:Nat)) (b7 (J1 (!0))) ?_);refine ⟨!1,by rw[ff];bv_omega,by simp only[aI,ag,ff,eh,c6,g6];bv_omega,?_⟩;unfold cJ;rw[c9,c9];first |trivial |exact ⟨rfl,rfl⟩ |rfl
def oH(o:AA):AS:=(List.range (o.length - 1)).map λi:Nat=>D.tup [.int (i:Int),aA (cJ o i)]
def uN:RF.Spec:=cT (A:=AA) (λo=>[aA o]) (λo=>o.length<=12) (λo=>.lst (oH o))
def afx{o:AA}{G:DH}{k:AT}{E:EK}(h:o.length<=12)(hk:k (.lst (oH o)) G):uN.t [aA o] G k E:=dC o rfl h hk
def stepI(o:AA):D->D
 |.int i=>.tup [.int i,aA (cJ o i.toNat)]
 |_=>.non
def afy(o:AA):(aX 0 (o.length - 1)).map (stepI o)=oH o:=by unfold aX oH;rw[dc];refine d0 λi _=>?_;show stepI o (.int (0+(i:Nat)))=_;rw[Int.zero_add];rfl
def afz (Z:aa) (h1:Z "exchanged"=uM) (o:AA) (G:DH) (h:o.length<=12):au Z nR noE (env0 [aA o] 0) G (ends λd G'=>G'=G/\d=.lst (oH o)):=by
 have ed:aA o=.tup (o.map λi:Nat=>D.int (i:Int)):=rfl;have e1:((o.length:Int) - 1).toNat=o.length - 1:=by omega
 simp_all_arith[nR];refine last ?_;erw[h1];rw[ed];erw[ag,e1];refine ⟨⟨!0,!0⟩,?_⟩;refine CompG.map (f:=stepI o) (I:=λY=>∃x,Y=[x,some (aA o)]) ⟨_,rfl⟩ trivial (by unfold aX;rw[ag,en];bv_omega) ?_ ?_
 .rintro d Y hd ⟨x,rfl⟩ kk hk;unfold aX at hd;obtain ⟨i,hi,rfl⟩:=bX.mp hd;have hi:=fF.mp hi;have e0:(0:Int)+(i:Nat)=(i:Int):=Int.zero_add _;rw[e0]at hk ⊢;erw[h1];refine afv (!0) h ⟨!1,?_⟩;exact hk _ ⟨_,rfl⟩
 .rw[afy];erw[eL]
def lg(o:AA):aA o=.tup ((aH o).map D.int):=by unfold aA;rw[zX]
def z6{o:AA}{kk:List Int->Prop}:bW (aA o) kk=kk (aH o):=by rw[lg,uw,oG];rfl
def J2{o:AA}{ks:List (List Int)}{ds:AS}{kb:Bool->Prop}:aW .In (aA o) (.dct ks ds) kb=kb (kIx ks (aH o)).isSome:=by rw[Im,z6]
def J7{o:AA}{ks:List (List Int)}{ds:AS}{kb:Bool->Prop}:aW .NotIn (aA o) (.dct ks ds) kb=kb (!(kIx ks (aH o)).isSome):=by rw[Io,z6]
def J8{o:AA}{ks:List (List Int)}{ds:AS}{kd:D->Prop}:cN (.dct ks ds) (aA o) kd=aR (kIx ks (aH o)) λi=>aR ds[i]? kd:=by rw[lg,Ip,uw,oG];rfl
def J9{o:AA}{p:AQ}{x:D}{G:DH}{kg:DH->Prop}:dN (.ref p) (aA o) x G kg=mX G p (λks ds=>ks.length < sz/\kg (aP G p (dput ks ds (aH o) x))):=by rw[lg,Iu];simp only[uw,oG,Ij]
theorem jl{o:AA}{G:DH}:view G (aA o)=aA o:=rfl
def afA{ks:List (List Int)}{n:List Int}(h:n∉ks):kIx ks n=none:=by unfold kIx;rw[List.findIdx?_eq_none_iff];exact λx hx=>bB λe=>h (e ▸ hx)
def Ka{ks:List (List Int)}{n:List Int}{i:Nat}(h:kIx ks n=some i):i < ks.length/\n∈ks:=by unfold kIx at h;obtain ⟨hi,hp,_⟩:=dP.mp h;have e:=dQ hp;exact ⟨hi,e ▸ da hi⟩
def Kc{ks:List (List Int)}{n:List Int}(h:n∈ks):∃i,kIx ks n=some i:=by
 cases e:kIx ks n with
 |some i=>exact ⟨i,rfl⟩
 |none=>
  unfold kIx at e;rw[List.findIdx?_eq_none_iff]at e;have:=e n h;rw[bq rfl]at this;cases this
def Kd{ks:List (List Int)}{n:List Int}(h:(kIx ks n).isSome=false):n∉ks:=λm=>by
 obtain ⟨i,e⟩:=Kc m;rw[e]at h;cases h
def Ke{ks:List (List Int)}{ds:AS}{n:List Int}{x:D}(h:n∉ks):dput ks ds n x=.dct (ks++[n]) (ds++[x]):=by unfold dput;rw[afA h]
def Kf{α:Type}[DecidableEq α]:∀{l m:List α},l.Nodup->(∀x∈l,x∈m)->l.length<=m.length
 |[],m,_,_=>dE _
 |a::l,m,h,hm=>by
  rw[d4]at h;have ha:=hm a bp;have:=Kf (m:=m.erase a) h.2 λx hx=>(List.mem_erase_of_ne (λ(e:x=a)=>h.1 (e ▸ hx))).mpr (hm x (bv _ hx));rw[List.length_erase_of_mem ha]at this;have:=List.length_pos_of_mem ha;rw[c6];omega
def jm:Nat->List (List Int)
 |0=>[[]]
 |k+1=>(jm k).flatMap λl=>[0::l,1::l,2::l,3::l,4::l]
def afB(k:Nat):(jm k).length=5 ^ k:=by
 induction k with
 |zero=>rfl
 |succ k ih=>
  rw[jm,Nat.pow_succ,<-ih];generalize jm k=m;induction m with
  |nil=>rfl
  |cons a m ihm=>rw[List.flatMap_cons,aI,ihm];simp only[c6,g6];omega
def Kg:∀l:List Int,(∀x∈l,0<=x/\x < 5)->l∈jm l.length
 |[],_=>al.mpr rfl
 |a::l,h=>by
  rw[c6,jm];refine List.mem_flatMap.mpr ⟨l,Kg l λx hx=>h x (bv _ hx),?_⟩;obtain ⟨h0,h5⟩:=h a bp;have:a=0\/a=1\/a=2\/a=3\/a=4:=by omega
  rcases this with rfl |rfl |rfl |rfl |rfl <;> simp
def isKey(n:Nat)(k:List Int):Prop:=∃o,okO n o/\k=aH o
def z7{n:Nat}{ks:List (List Int)}(hn:n<=5)(nd:ks.Nodup)(h:∀k∈ks,isKey n k):ks.length<=3125:=by
 have h1:ks.length<=(jm n).length:=Kf nd λk hk=>by
  obtain ⟨o,ho,rfl⟩:=h k hk;have e:(aH o).length=n:=by unfold aH;rw[ag,ho.len]
  rw[<-e];refine Kg _ λx hx=>?_;unfold aH at hx;obtain ⟨i,hi,rfl⟩:=bX.mp hx;have:=ho.mem hi;omega
 rw[afB]at h1;exact ce h1 (fA (!1) hn)
structure WInv(n:Nat)(ks:List (List Int))(ds:AS):Prop where
 nd:ks.Nodup
 ok:∀k∈ks,isKey n k
 len:ds.length=ks.length
 val:∀d∈ds,∃l:AS,d=.lst l/\l.length<=ks.length
def Kh{ks:List (List Int)}{k:List Int}(h:ks.Nodup)(hk:k∉ks):(ks++[k]).Nodup:=by rw[List.nodup_append];exact ⟨h,d4.mpr ⟨eg,gz⟩,λa ha b hb e=>hk (by rw[<-al.mp hb,<-e];exact ha)⟩
def WInv.add{n:Nat}{ks:List (List Int)}{ds:AS}{k:List Int}{l:AS}(h:WInv n ks ds)(hk:k∉ks)(ho:isKey n k)(hl:l.length<=ks.length+1):WInv n (ks++[k]) (ds++[.lst l]) where
 nd:=Kh h.nd hk
 ok:=λx hx=>by
  rcases ba.mp hx with z |z
  .exact h.ok x z
  .rw[al.mp z];exact ho
 len:=by rw[aI,aI,h.len];rfl
 val:=λd hd=>by
  rw[aI];rcases ba.mp hd with z |z
  .obtain ⟨l',e,hl'⟩:=h.val d z;exact ⟨l',e,ce hl' (dk _ _)⟩
  .exact ⟨l,al.mp z,hl⟩
def sGW:RF.Spec:=ghS (A:=Nat×AU×AA) (λa ds _=>ds=[aq a.1 a.2.1,aA a.2.2]/\okB a.1 a.2.1/\a.2.1.length<=5) (λa G d G'=>∃p ks ds,d=.ref p/\G p=none/\G' p=some (.dct ks ds)/\Sa G G'/\WInv a.2.1.length ks ds)
def afC{w:Nat}{rs:AU}{o:AA}{G:DH}{k:AT}{E:EK}(h:okB w rs)(h5:rs.length<=5)(hk:∀p ks ds G',G p=none->G' p=some (.dct ks ds)->Sa G G'->WInv rs.length ks ds->k (.ref p) G'):sGW.t [aq w rs,aA o] G k E:=gj (w,rs,o) ⟨rfl,h,h5⟩ λd G' hx=>by
 obtain ⟨p,ks,ds,rfl,h1,h2,h3,h4⟩:=hx;exact hk p ks ds G' h1 h2 h3 h4
def uO{Z:aa}{ss:Sxs}{E:EK}{Y:ak}{G:DH}{q:AQ}{o:DO}{Dn:En}(hq:G q=none)(h:∀G1,G1 q=some o->Sa G G1->au Z ss E Y G1 Dn):au Z ss E Y (aP G q o) Dn:=h _ bG (Sa.new hq)
structure FGW(Z:aa):Prop where
 first:Z "first_order"=kZ
 steps:Z "steps_from"=uN
 good:Z "is_good"=uL
structure GI(n:Nat)(G0 G':DH)(p q:AQ)(ks:List (List Int))(ds:AS)(kb:List (List Int))(db:AS):Prop where
 gp:G' p=some (.dct ks ds)
 gq:G' q=some (.dct kb db)
 bn:kb.Nodup
 bk:∀k∈kb,isKey n k
 w:WInv n ks ds
 sa:Sa G0 G'
 zp:G0 p=none
 zq:G0 q=none
 pq:p≠q
def GI.to{n:Nat}{G0 G1 G2:DH}{p q:AQ}{ks:List (List Int)}{ds:AS}{kb:List (List Int)}{db:AS}(h:GI n G0 G1 p q ks ds kb db)(s:Sa G1 G2):GI n G0 G2 p q ks ds kb db:=⟨s _ _ h.gp,s _ _ h.gq,h.bn,h.bk,h.w,h.sa.trans s,h.zp,h.zq,h.pq⟩
def GI.ne{n:Nat}{G0 G1:DH}{p q r:AQ}{ks:List (List Int)}{ds:AS}{kb:List (List Int)}{db:AS}(h:GI n G0 G1 p q ks ds kb db)(hr:G1 r=none):r≠p/\r≠q/\G0 r=none:=by
 refine ⟨λe=>?_,λe=>?_,?_⟩
 .rw[e,h.gp]at hr;cases hr
 .rw[e,h.gq]at hr;cases hr
 .cases e:G0 r with
  |none=>rfl
  |some o=>rw[h.sa _ _ e]at hr;cases hr
def nwOk(n:Nat)(ks:List (List Int))(nw:List (AA)):Prop:=∀o∈nw,okO n o/\aH o∈ks
def nwOk.more{n:Nat}{ks:List (List Int)}{nw:List (AA)}{k:List Int}(h:nwOk n ks nw):nwOk n (ks++[k]) nw:=λo ho=>⟨(h o ho).1,c8 _ (h o ho).2⟩
def afD(Z:aa)(F:FGW Z)(a:Nat×AU×AA)(ds:AS)(G:DH)(h:ds=[aq a.1 a.2.1,aA a.2.2]/\okB a.1 a.2.1/\a.2.1.length<=5):au Z nT noE (env0 ds 7) G (ends λd G'=>∃p ks ds,d=.ref p/\G p=none/\G' p=some (.dct ks ds)/\Sa G G'/\WInv a.2.1.length ks ds):=by
 obtain ⟨w,rs,o⟩:=a;obtain ⟨rfl,hb,h5⟩:=h;dsimp only at hb h5 ⊢;simp_all_arith[nT];nofun;erw[F.first];refine zY hb ?_;simp only[z6];intro p hp;refine hM _ _ (uO hp λG1 g1 s1=>seq λM hM=>?_);erw[ends];intro q hq;refine hM _ _ (uO hq λG2 g2 s2=>seq λM hM=>?_);simp_arith[fj (s2 _ _ g1),<-lg];have zq:G q=none:=by
  cases e:G q with
  |none=>rfl
  |some o=>rw[s1 _ _ e]at hq;cases hq
 have k0:isKey rs.length (aH (List.range rs.length)):=⟨_,List.Perm.refl _,rfl⟩;have w0:WInv rs.length [aH (List.range rs.length)] [.lst []]:=⟨d4.mpr ⟨eg,gz⟩,λk hk=>by rw[al.mp hk];exact k0,rfl,λd hd=>⟨[],al.mp hd,dE _⟩⟩;symm;simp_arith![ends];refine ⟨_,WhlG.inv (P:=λm Y G'=>∃ks ds kb db nw o5 o6 o7 o8,Y=[some (aq w rs),some (aA o),some (.ref p),some (.ref q),some (.lst (nw.map aA)),o5,o6,o7,o8]/\GI rs.length G G' p q ks ds kb db/\nwOk rs.length ks nw/\m=2 * (4000 - ks.length)+nw.length.min 1) ?_ _ _ _ ⟨_,_,_,_,[List.range rs.length],_,_,_,_,rfl,⟨s2 _ _ g1,g2,gz,(λk hk=>absurd hk eg),w0,s1.trans s2,hp,zq,λe=>by rw[<-e,g1]at hq;cases hq⟩,λx hx=>⟨by rw[al.mp hx];exact List.Perm.refl _,by rw[al.mp hx];exact al.mpr rfl⟩,rfl⟩⟩;rintro m Y G' ⟨ks,ds,kb,db,nw,o5,o6,o7,o8,rfl,hg,hn,rfl⟩;have hend:M [some (aq w rs),some (aA o),some (.ref p),some (.ref q),some (.lst (nw.map aA)),o5,o6,o7,o8] G':=by ac_nf0;erw[ends];exact ⟨p,ks,ds,rfl,hp,hg.gp,hg.sa,hg.w⟩
 cases nw with
 |nil=>
  erw[List.isEmpty_nil];exact hend
 |cons o1 nw=>
  simp_arith![List.isEmpty_cons,fj hg.gp,jl,J7];cases hin:(kIx ks (aH o)).isSome with
  |true=>
   simp only[ft];exact hend
  |false=>
   simp only[Bool.not_false];intro kk hk;nofun;erw[ends];refine λr hr=>hM _ _ (uO hr λG3 g3 s3=>seq λM hM=>?_);obtain ⟨nrp,nrq,zr⟩:=hg.ne hr;simp_arith![ends];refine ForG.inv (P:=λi Y G'=>∃ks' ds' kb' db' fu o6 o7 o8,Y=[some (aq w rs),some (aA o),some (.ref p),some (.ref q),some (.lst (aA o1::nw.map aA)),some (.ref r),o6,o7,o8]/\GI rs.length G G' p q ks' ds' kb' db'/\nwOk rs.length ks' (o1::nw)/\G' r=some (.lst (fu.map aA))/\nwOk rs.length ks' fu/\ks'.length=ks.length+fu.length) ⟨_,_,_,_,[],_,_,_,rfl,hg.to s3,hn,g3,(λx hx=>absurd hx eg),rfl⟩ (λ_ _ _ _=>trivial) ?_ ?_
   .rintro i d Y G4 hd ⟨ks4,ds4,kb4,db4,fu4,o6,o7,o8,rfl,hg4,hn4,g4,hf4,hl4⟩ kk1 hk1;obtain ⟨here,hm,rfl⟩:∃here,here∈o1::nw/\d=aA here:=by
     have:=cf hd;rw[<-a9 (f:=aA)]at this;obtain ⟨x,hx,e⟩:=bX.mp this;exact ⟨x,hx,e.symm⟩
    have hho:=(hn4 here hm).1;have hhl:=hho.len;simp_arith![F.steps];refine last ?_;simp_arith![F.steps];refine afx (!0) ?_;simp_arith![ends];refine ForG.inv (P:=λi Y G'=>∃ks' ds' kb' db' fu o7 o8,Y=[some (aq w rs),some (aA o),some (.ref p),some (.ref q),some (.lst (aA o1::nw.map aA)),some (.ref r),some (aA here),o7,o8]/\GI rs.length G G' p q ks' ds' kb' db'/\nwOk rs.length ks' (o1::nw)/\G' r=some (.lst (fu.map aA))/\nwOk rs.length ks' fu/\ks'.length=ks.length+fu.length) ⟨_,_,_,_,_,_,_,rfl,hg4,hn4,g4,hf4,hl4⟩ (λ_ _ _ _=>trivial) ?_ ?_
    .rintro i d Y G5 hd ⟨ks5,ds5,kb5,db5,fu5,o7,o8,rfl,hg5,hn5,g5,hf5,hl5⟩ kk2 hk2;obtain ⟨j,hj,rfl⟩:∃j:Nat,j+1 < rs.length/\d=.tup [.int (j:Int),aA (cJ here j)]:=by
      obtain ⟨x,hx,e⟩:=bX.mp (cf hd);have:=fF.mp hx;exact ⟨x,!0,e.symm⟩
     have hok:=afu hho hj;have c5:=z7 h5 hg5.w.nd hg5.w.ok;have b5:=z7 h5 hg5.bn hg5.bk;have ky:isKey rs.length (aH (cJ here j)):=⟨_,hok,rfl⟩;simp_arith![ends];nofun;simp_arith![fj hg5.gp,fj hg5.gq,jl,J2];cases hi1:(kIx ks5 (aH (cJ here j))).isSome with
     |true=>
      erw[ends];exact hk2 _ _ ⟨_,_,_,_,_,_,_,rfl,hg5,hn5,g5,hf5,hl5⟩
     |false=>
      cases hi2:(kIx kb5 (aH (cJ here j))).isSome with
      |true=>
       erw[ends];exact hk2 _ _ ⟨_,_,_,_,_,_,_,rfl,hg5,hn5,g5,hf5,hl5⟩
      |false=>
       have n1:=Kd hi1;have n2:=Kd hi2;erw[ends];ac_nf0;simp_arith![F.good];refine afs hb hok ?_;cases good w rs (cJ here j) with
       |true=>
        obtain ⟨ix,hix⟩:=Kc (hn5 here hm).2;have hil:ix < ds5.length:=by rw[hg5.w.len];exact (Ka hix).1
        obtain ⟨l,el,hl⟩:=hg5.w.val _ (da hil);simp_arith![ends];nofun;simp_arith![fj hg5.gp,jl,J8];refine bw hix (bw (a:=.lst l) (by rw[aE hil,el]) ?_);erw[J9,Ir hg5.gp,Ke n1];refine ⟨!1,by bv_omega,by bv_omega,hM _ _ (last ?_)⟩;have gr6:(aP G5 p (.dct (ks5++[aH (cJ here j)]) (ds5++[.lst (l++[.int (j:Int)])]))) r=some (.lst (fu5.map aA)):=by rw[bR nrp];exact g5
        erw[di gr6];refine ⟨by rw[ag];bv_omega,hk2 _ _ ⟨ks5++[aH (cJ here j)],ds5++[.lst (l++[.int (j:Int)])],kb5,db5,fu5++[cJ here j],_,_,rfl,⟨by rw[bR nrp.symm,bG],by rw[bR nrq.symm,bR hg5.pq.symm];exact hg5.gq,hg5.bn,hg5.bk,hg5.w.add n1 ky (by rw[aI];simp only[c6,g6];omega),(hg5.sa.then hg5.zp Sb.upd).then zr Sb.upd,hg5.zp,hg5.zq,hg5.pq⟩,hn5.more,by rw[bG,c9];rfl,λx hx=>?_,by rw[aI,aI];simp only[c6,g6];omega⟩⟩;rcases ba.mp hx with z |z
        .exact hf5.more x z
        .rw[al.mp z];exact ⟨hok,aw _ (al.mpr rfl)⟩
       |false=>
        simp_arith![ends];refine last ?_;erw[J9,Ir hg5.gq,Ke n2];have npq:=hg5.pq;refine ⟨by bv_omega,hk2 _ _ ⟨ks5,ds5,kb5++[aH (cJ here j)],db5++[.bl true],fu5,_,_,rfl,⟨by rw[bR npq];exact hg5.gp,bG,Kh hg5.bn n2,(λk hk=>?_),hg5.w,hg5.sa.then hg5.zq Sb.upd,hg5.zp,hg5.zq,hg5.pq⟩,hn5,by rw[bR nrq];exact g5,hf5,hl5⟩⟩;rcases ba.mp hk with z |z
        .exact hg5.bk k z
        .rw[al.mp z];exact ky
    .rintro Y G5 ⟨ks5,ds5,kb5,db5,fu5,o7,o8,rfl,hg5,hn5,g5,hf5,hl5⟩;exact hk1 _ _ ⟨_,_,_,_,_,_,_,_,rfl,hg5,hn5,g5,hf5,hl5⟩
   .rintro Y G5 ⟨ks5,ds5,kb5,db5,fu5,o6,o7,o8,rfl,hg5,hn5,g5,hf5,hl5⟩;ac_nf0;have c5:=z7 h5 hg5.w.nd hg5.w.ok;erw[g5];refine hk _ _ _ ?_ ⟨ks5,ds5,kb5,db5,fu5,_,_,_,_,rfl,⟨by rw[lQ nrp.symm];exact hg5.gp,by rw[lQ nrq.symm];exact hg5.gq,hg5.bn,hg5.bk,hg5.w,hg5.sa.frz zr,hg5.zp,hg5.zq,hg5.pq⟩,hf5,rfl⟩;rw[hl5];have e1:(nw.length+1).min 1=1:=gS (!0);rw[e1];cases fu5 with
    |nil=>rw[g6];show _+0 < _;omega
    |cons x y=>
     have e2:(x::y).length.min 1=1:=gS (by rw[c6];omega);rw[e2];rw[hl5]at c5;rw[c6]at c5 ⊢;omega
def noO(n:Nat)(d:D):Prop:=(∃l,d=.lst l)\/d=.non\/(∃l,d=.str l)\/(∃i,d=.int i)\/∃l,d=.tup l/\l.length<=14/\nrs l=true/\((l.all λx=>isPlace (n:Int) x)=false\/∃ns:List Int,l=ns.map D.int/\¬ns.Perm (aH (List.range n)))
def z8(n:Nat)(d:D)(b:Bool):Prop:=(b=true/\∃o,okO n o/\d=aA o)\/(b=false/\noO n d)
def lq:RF.Spec:=cT (A:=Nat×AU×D×Bool) (λa=>[aq a.1 a.2.1,a.2.2.1]) (λa=>okB a.1 a.2.1/\z8 a.2.1.length a.2.2.1 a.2.2.2) (λa=>.bl a.2.2.2)
def Kl{w:Nat}{rs:AU}{d:D}{b:Bool}{G:DH}{k:AT}{E:EK}(h:okB w rs)(ho:z8 rs.length d b)(hk:k (.bl b) G):lq.t [aq w rs,d] G k E:=dC (w,rs,d,b) rfl ⟨h,ho⟩ hk
def Km:∀{a b:List Int},bJ (a.map D.int) (b.map D.int)=true->a=b
 |[],[],_=>rfl
 |[],_::_,h=>by rw[fS,a9,bJ]at h;cases h;all_goals (intros;first |contradiction |skip)
 |_::_,[],h=>by rw[fS,a9,bJ]at h;cases h;all_goals (intros;first |contradiction |skip)
 |x::a,y::b,h=>by
  rw[a9,a9,bJ,ae,deq,av]at h;rw[h.1,Km h.2]
def Ko:∀{l:AS}{d:D},nrs l=true->d∈l->nr d=true
 |a::l,d,h,m=>by
  rw[nrs,ae]at h;rcases a7.mp m with e |m
  .rw[e];exact h.1
  .exact Ko h.2 m
def afE (Z:aa) (h1:Z "is_place"=aM jj) (a:Nat×AU×D×Bool) (G:DH) (h:okB a.1 a.2.1/\z8 a.2.1.length a.2.2.1 a.2.2.2):au Z fB noE (env0 [aq a.1 a.2.1,a.2.2.1] 1) G (ends λd G'=>G'=G/\d=.bl a.2.2.2):=by
 obtain ⟨w,rs,d,b⟩:=a;obtain ⟨hb,ho⟩:=h;dsimp only at hb ho ⊢;have hlen:=hb.len;have tup:∀l:AS,l.length<=14->nrs l=true->(((l.all λx=>isPlace (rs.length:Int) x)=false/\b=false)\/∃ns:List Int,l=ns.map D.int/\((l.all λx=>isPlace (rs.length:Int) x)=false->b=false)/\(ns.Perm (aH (List.range rs.length))↔b=true))->au Z fB noE (env0 [aq w rs,.tup l] 1) G (ends λd G'=>G'=G/\d=.bl b):=by
  intro l hl hnr hcase;simp_all_arith[fB];nofun;erw[aq,ag];symm;erw[h1];refine CompG.map (f:=λx=>.bl (isPlace (rs.length:Int) x)) (I:=λY=>∃o,Y=[o,some (.int (rs.length:Nat))]) ⟨_,rfl⟩ trivial (by bv_omega) ?_ ?_
  .rintro d Y hd ⟨o,rfl⟩ kk hk;erw[h1];refine cF (show jj [.int (rs.length:Int),d]=some (.bl (isPlace (rs.length:Int) d)) from by show (if nr d then some (D.bl (isPlace (rs.length:Int) d)) else none)=_;rw[if_pos (Ko hnr hd)]) ?_;exact hk _ ⟨_,rfl⟩
  .have ea:((l.map λx=>isPlace (rs.length:Int) x).all id)=l.all λx=>isPlace (rs.length:Int) x:=by rw[List.all_map];rfl
   erw[mW,ea];cases hall:l.all λx=>isPlace (rs.length:Int) x with
   |false=>
    have eb:b=false:=by
     rcases hcase with ⟨_,e⟩ |⟨ns,_,e,_⟩
     .exact e
     .exact e hall
    erw[eb,eL]
   |true=>
    erw[ends];obtain ⟨ns,e,_,hp⟩:=hcase.resolve_left λz=>by rw[hall]at z;cases z.1
    subst e;ac_nf0;erw[ends];rw[ag]at hl;refine bw (oG _) ⟨!0,λms hpm hs=>?_⟩;have hn1:=fJ ms;have hn2:=fJ (aH (List.range rs.length));refine ⟨⟨!0,!0⟩,?_⟩;simp only[cb];rw[afp];refine ⟨⟨hn1.1,hn2.1,by rw[hn1.2,hn2.2];decide⟩,?_⟩;cases b with
    |true=>
     rw[JV (hpm.trans (hp.mpr rfl)) hs (afq ⟨rs.length,!0⟩),sG hn2.1]
    |false=>
     cases hd:bJ (ms.map D.int) ((aH (List.range rs.length)).map D.int) with
     |false=>rfl
     |true=>
      rw[Km hd]at hpm;exact absurd (hp.mp hpm.symm) bP
 rcases ho with ⟨rfl,o,ho,rfl⟩ |⟨rfl,⟨l,rfl⟩ |rfl |⟨l,rfl⟩ |⟨i,rfl⟩ |⟨l,rfl,hl,hnr,hc⟩⟩
 .have hol:=ho.len;rw[lg];refine tup _ (by unfold aH;rw[ag,ag];omega) (fJ _).1 (.inr ⟨_,rfl,λz=>?_,⟨λ_=>rfl,λ_=>List.Perm.map _ ho⟩⟩);rw[List.all_map]at z;have:((aH o).all λi=>isPlace (rs.length:Int) (.int i))=true:=bg.mpr λi hi=>by
   unfold aH at hi;obtain ⟨j,hj,rfl⟩:=bX.mp hi;have:=ho.mem hj;show (decide (0<=(j:Int))&&decide ((j:Int) < (rs.length:Int)))=true;rw[bq (!0),bq (!0)];rfl
  rw[show ((λx=>isPlace (rs.length:Int) x)∘D.int)=λi=>isPlace (rs.length:Int) (.int i) from rfl,this]at z;cases z
 .simp_all_arith[fB];nofun;erw[aq,ag];symm;erw[eL]
 .simp_all_arith[fB];nofun;erw[aq,ag];symm;erw[eL]
 .simp_all_arith[fB];nofun;erw[aq,ag];symm;erw[eL]
 .simp_all_arith[fB];nofun;erw[aq,ag];symm;erw[eL]
 .refine tup l hl hnr ?_;rcases hc with hc |⟨ns,e,hp⟩
  .exact .inl ⟨hc,rfl⟩
  .exact .inr ⟨ns,e,λ_=>rfl,⟨λz=>absurd z hp,λz=>nomatch z⟩⟩
def z9 (ds:AS) (C:AL):Prop:=C="NoOrder"/\∃w rs d,ds=[aq w rs,d]/\okB w rs/\noO rs.length d
def afF:RF.Spec:=cT (A:=Nat×AU×AA) (λa=>[aq a.1 a.2.1,aA a.2.2]) (λa=>okB a.1 a.2.1/\okO a.2.1.length a.2.2) (λ_=>.non)
def fK:RF.Spec:=orX afF z9
def uP{w:Nat}{rs:AU}{o:AA}{G:DH}{k:AT}{E:EK}(h:okB w rs)(ho:okO rs.length o)(hk:k .non G):fK.t [aq w rs,aA o] G k E:=jd (dC (w,rs,o) rfl ⟨h,ho⟩ hk)
def Aa {w:Nat} {rs:AU} {d:D} {G:DH} {k:AT} {E:EK} (h:okB w rs) (ho:noO rs.length d) (hE:E ⟨"NoOrder",.non⟩ G):fK.t [aq w rs,d] G k E:=je ⟨rfl,w,rs,d,rfl,h,ho⟩ hE
def afG (Z:aa) (h1:Z "is_order"=lq) (a:Nat×AU×AA) (G:DH) (h:okB a.1 a.2.1/\okO a.2.1.length a.2.2):au Z iW noE (env0 [aq a.1 a.2.1,aA a.2.2] 0) G (ends λd G'=>G'=G/\d=.non):=by erw[iW,h1];refine Kl (b:=true) h.1 (.inl ⟨rfl,_,h.2,rfl⟩) ?_;erw[ends]
def afH (Z:aa) (h1:Z "is_order"=lq) (ds:AS) (G:DH) (C:AL) (h:z9 ds C):au Z iW (λx G'=>x=⟨C,.non⟩/\G'=G) (env0 ds 0) G (ends λ_ _=>False):=by obtain ⟨rfl,w,rs,d,rfl,hb,ho⟩:=h;erw[iW,h1];refine Kl (b:=false) hb (.inr ⟨rfl,ho⟩) ?_;erw[eL]
def gC(w:Nat)(rs:AU):Prop:=5 < rs.length\/4 < w
def oJ (ds:AS) (C:AL):Prop:=(C="NoBook"/\∃x,ds=[x]/\jh x)\/(C="TooMany"/\∃w rs,ds=[aq w rs]/\okB w rs/\gC w rs)
def afI:RF.Spec:=cT (A:=Nat×AU) (λa=>[aq a.1 a.2]) (λa=>okB a.1 a.2/\a.1<=4/\a.2.length<=5) (λ_=>.non)
def il:RF.Spec:=orX afI oJ
def oK{w:Nat}{rs:AU}{G:DH}{k:AT}{E:EK}(h:okB w rs)(h4:w<=4)(h5:rs.length<=5)(hk:k .non G):il.t [aq w rs] G k E:=jd (dC (w,rs) rfl ⟨h,h4,h5⟩ hk)
def Kp{x:D}{G:DH}{k:AT}{E:EK}{C:AL}(h:oJ [x] C)(hE:E ⟨C,.non⟩ G):il.t [x] G k E:=je h hE
def afJ (Z:aa) (h1:Z "need_book"=gr) (a:Nat×AU) (G:DH) (h:okB a.1 a.2/\a.1<=4/\a.2.length<=5):au Z gZ noE (env0 [aq a.1 a.2] 2) G (ends λd G'=>G'=G/\d=.non):=by obtain ⟨w,rs⟩:=a;obtain ⟨hb,h4,h5⟩:=h;dsimp only at hb h4 h5 ⊢;simp_all_arith[gZ];nofun;erw[h1];refine kj hb (hM _ _ (seq λM hM=>?_));erw[aq];ac_nf0;erw[ag,bB (show ¬(5:Int) < (rs.length:Int) by omega),bB (show ¬(4:Int) < (w:Int) by omega)]
def afK (Z:aa) (h1:Z "need_book"=gr) (ds:AS) (G:DH) (C:AL) (h:oJ ds C):au Z gZ (λx G'=>x=⟨C,.non⟩/\G'=G) (env0 ds 2) G (ends λ_ _=>False):=by
 rcases h with ⟨rfl,x,rfl,hx⟩ |⟨rfl,w,rs,rfl,hb,hbig⟩
 .simp_all_arith[gZ];nofun;erw[h1];exact Jo hx ⟨rfl,rfl⟩
 .simp_all_arith[gZ];nofun;erw[h1];refine kj hb (hM _ _ (seq λM hM=>?_));erw[aq];ac_nf0;by_cases h5:(5:Int) < (rs.length:Int)
  .erw[ag,bq h5,eL];exact ⟨!1,!1⟩
  .have h4:(4:Int) < (w:Int):=by unfold gC at hbig;omega
   erw[ag,bB h5,bq h4,eL];exact ⟨!1,!1⟩
def pBy (ds:AS) (C:AL):Prop:=(C="NoBook"/\∃x y,ds=[x,y]/\jh x)\/z9 ds C
def afL:RF.Spec:=cT (A:=Nat×AU×AA) (λa=>[aq a.1 a.2.1,aA a.2.2]) (λa=>okB a.1 a.2.1/\okO a.2.1.length a.2.2) (λa=>aq a.1 (byR a.2.1 a.2.2))
def sBy:RF.Spec:=orX afL pBy
def Ab{w:Nat}{rs:AU}{o:AA}{G:DH}{k:AT}{E:EK}(h:okB w rs)(ho:okO rs.length o)(hk:k (aq w (byR rs o)) G):sBy.t [aq w rs,aA o] G k E:=jd (dC (w,rs,o) rfl ⟨h,ho⟩ hk)
def afM (Z:aa) (h1:Z "need_book"=gr) (h2:Z "need_order"=fK) (a:Nat×AU×AA) (G:DH) (h:okB a.1 a.2.1/\okO a.2.1.length a.2.2):au Z gY noE (env0 [aq a.1 a.2.1,aA a.2.2] 2) G (ends λd G'=>G'=G/\d=aq a.1 (byR a.2.1 a.2.2)):=by
 obtain ⟨w,rs,o⟩:=a;obtain ⟨hb,ho⟩:=h;dsimp only at hb ho ⊢;have hlen:=hb.len;have hol:=ho.len;simp_all_arith[gY];nofun;erw[h1];refine kj hb (hM _ _ (seq λM hM=>?_));erw[h2];refine uP hb ho (hM _ _ (seq λM hM=>?_));erw[aq];ac_nf0;erw[aA];refine CompG.map (f:=zZ rs) (I:=λY=>∃o,Y=[o,some (.tup (rs.map aQ))]) ⟨_,rfl⟩ trivial (by rw[ag];bv_omega) ?_ ?_
 .rintro d Y hd ⟨o',rfl⟩ kk hk;obtain ⟨i,rfl,e⟩:=JZ ho rfl hd;erw[ends];exact bw e (hk _ ⟨_,rfl⟩)
 .rw[J0];erw[ends];exact ⟨!1,rfl⟩
def afN (Z:aa) (h1:Z "need_book"=gr) (h2:Z "need_order"=fK) (ds:AS) (G:DH) (C:AL) (h:pBy ds C):au Z gY (λx G'=>x=⟨C,.non⟩/\G'=G) (env0 ds 2) G (ends λ_ _=>False):=by
 rcases h with ⟨rfl,x,y,rfl,hx⟩ |⟨rfl,w,rs,d,rfl,hb,ho⟩
 .simp_all_arith[gY];nofun;erw[h1];exact Jo hx ⟨rfl,rfl⟩
 .simp_all_arith[gY];nofun;erw[h1];refine kj hb (hM _ _ (seq λM hM=>?_));erw[h2];exact Aa hb ho ⟨rfl,rfl⟩
def afO (Z:aa) (h1:Z "parting_word"=uK) (h2:Z "by_order"=sBy) (a:Nat×AU×AA) (G:DH) (h:okB a.1 a.2.1/\okO a.2.1.length a.2.2):au Z nQ noE (env0 [aq a.1 a.2.1,aA a.2.2] 0) G (ends λd G'=>G'=G/\d=.bl (good a.1 a.2.1 a.2.2)):=by obtain ⟨w,rs,o⟩:=a;obtain ⟨hb,ho⟩:=h;dsimp only at hb ho ⊢;erw[nQ,h1,h2];refine Ab hb ho (afl hb (JX hb ho) ?_);unfold good;cases eN w rs (byR rs o) <;> erw[List.head?_nil,List.head?_cons,dj,List.isEmpty_nil,List.isEmpty_cons]
def lr (ds:AS) (C:AL):Prop:=∃x d rest,ds=x::d::rest/\(oJ [x] C\/(C="NoOrder"/\∃w rs,x=aq w rs/\okB w rs/\w<=4/\rs.length<=5/\noO rs.length d))
def oM(a:Nat×AU×AA):Prop:=okB a.1 a.2.1/\okO a.2.1.length a.2.2/\a.1<=4/\a.2.1.length<=5
def afP:RF.Spec:=ghS (A:=Nat×AU×AA) (λa ds _=>ds=[aq a.1 a.2.1,aA a.2.2]/\oM a) (λ_ G _ G'=>Sa G G')
def Ac:RF.Spec:=orX afP λds C=>ds.length=2/\lr ds C
structure FWX(Z:aa):Prop where
 mov:Z "need_movable"=il
 need:Z "need_order"=fK
 gw:Z "good_ways"=sGW
def afQ(Z:aa)(F:FWX Z)(a:Nat×AU×AA)(ds:AS)(G:DH)(h:ds=[aq a.1 a.2.1,aA a.2.2]/\oM a):au Z iZ noE (env0 ds 1) G (ends λ_ G'=>Sa G G'):=by
 obtain ⟨w,rs,o⟩:=a;obtain ⟨rfl,hb,ho,h4,h5⟩:=h;dsimp only at hb ho h4 h5 ⊢;simp_all_arith[iZ];nofun;erw[F.mov];refine oK hb h4 h5 (hM _ _ (seq λM hM=>?_));erw[F.need];refine uP hb ho (hM _ _ (seq λM hM=>?_));erw[F.gw];refine afC hb h5 λp ks ds G' hp gp sa wi=>hM _ _ (seq λM hM=>?_);simp_arith![fj gp,jl,J2];cases hi:kIx ks (aH o) with
 |some i=>
  have hil:i < ds.length:=by rw[wi.len];exact (Ka hi).1
  erw[Option.isSome_some,fj gp,jl,J8,hi];exact bw (aE hil) ⟨!1,sa⟩
 |none=>
  erw[Option.isSome_none];ac_nf0;erw[fj gp];exact ⟨!1,sa⟩
def afR(Z:aa)(F:FWX Z)(ds:AS)(G:DH)(C:AL)(h:ds.length=2/\lr ds C):au Z iZ (λx G'=>x=⟨C,.non⟩/\G'=G) (env0 ds 1) G (ends λ_ _=>False):=by
 obtain ⟨hl,x,d,rest,rfl,h⟩:=h;have er:rest=[]:=fi (by simp only[c6]at hl;omega);subst er;simp_all_arith[iZ];nofun;erw[F.mov];rcases h with h |⟨rfl,w,rs,rfl,hb,h4,h5,ho⟩
 .exact Kp h ⟨rfl,rfl⟩
 .refine oK hb h4 h5 (hM _ _ (seq λM hM=>?_));erw[F.need];exact Aa hb ho ⟨rfl,rfl⟩
def lu:RF.Spec:=orX (ghS (A:=Nat×AU×AA) (λa ds _=>ds=[aq a.1 a.2.1,aA a.2.2,.lst []]/\oM a) (λ_ G _ G'=>Sa G G')) λds C=>(∃x d,ds=[x,d,.lst []])/\lr ds C
structure FIW(Z:aa):Prop where
 mov:Z "need_movable"=il
 need:Z "need_order"=fK
 first:Z "first_order"=kZ
def afS(Z:aa)(F:FIW Z)(a:Nat×AU×AA)(ds:AS)(G:DH)(h:ds=[aq a.1 a.2.1,aA a.2.2,.lst []]/\oM a):au Z j9 noE (env0 ds 2) G (ends λ_ G'=>Sa G G'):=by obtain ⟨w,rs,o⟩:=a;obtain ⟨rfl,hb,ho,h4,h5⟩:=h;dsimp only at hb ho h4 h5 ⊢;simp_all_arith[j9];nofun;erw[F.mov];refine oK hb h4 h5 (hM _ _ (seq λM hM=>?_));erw[F.need];refine uP hb ho (hM _ _ (seq λM hM=>?_));erw[F.first];refine zY hb (hM _ _ (seq λM hM=>?_));simp_arith![ends];refine ForG.inv (P:=λi Y G'=>∃o4,Y=[some (aq w rs),some (aA o),some (.lst []),some (aA (List.range rs.length)),o4]/\G'=G) ⟨_,rfl,rfl⟩ (λ_ _ _ _=>trivial) (λi d Y G' hd=>absurd hd (by simp)) ?_;rintro Y G' ⟨o4,rfl,rfl⟩;ac_nf0;have h1:=JW (List.range rs.length);have h2:=JW o;erw[jl];exact ⟨⟨h1.1,h2.1,ce (Nat.min_le_left _ _) (ce h1.2 (!1))⟩,Sa.refl _⟩
def Kq {Z:aa} {ss:Sxs} {m:Nat} {G:DH} {Q:AT} (hm:Z "need_movable"=il) (hn:Z "need_order"=fK) {x d y:D} {C:AL} (h:oJ [x] C\/(C="NoOrder"/\∃w rs,x=aq w rs/\okB w rs/\w<=4/\rs.length<=5/\noO rs.length d)):
  au Z (.cons (.exp (.call "need_movable" (.cons (.var 0) .nil))) (.cons (.exp (.call "need_order" (.cons (.var 0) (.cons (.var 1) .nil)))) ss)) (λx G'=>x=⟨C,.non⟩/\G'=G) (env0 [x,d,y] m) G (ends Q):=by
 simp_all_arith[];nofun;erw[hm];rcases h with h |⟨rfl,w,rs,rfl,hb,h4,h5,ho⟩
 .exact Kp h ⟨rfl,rfl⟩
 .refine oK hb h4 h5 (hM _ _ (seq λM hM=>?_));erw[hn];exact Aa hb ho ⟨rfl,rfl⟩
def afT(Z:aa)(F:FIW Z)(ds:AS)(G:DH)(C:AL)(h:(∃x d,ds=[x,d,.lst []])/\lr ds C):au Z j9 (λx G'=>x=⟨C,.non⟩/\G'=G) (env0 ds 2) G (ends λ_ _=>False):=by obtain ⟨⟨x,d,rfl⟩,x',d',rest,e,h⟩:=h;simp only[cw]at e;obtain ⟨rfl,rfl,_⟩:=e;exact Kq F.mov F.need h
structure FIA(Z:aa):Prop where
 mov:Z "need_movable"=il
 need:Z "need_order"=fK
 first:Z "first_order"=kZ
 ord:Z "is_order"=lq
def afU(Z:aa)(F:FIA Z)(a:Nat×AU×AA)(ds:AS)(G:DH)(h:ds=[aq a.1 a.2.1,aA a.2.2,.lst []]/\oM a):au Z j6 noE (env0 ds 2) G (ends λ_ G'=>Sa G G'):=by obtain ⟨w,rs,o⟩:=a;obtain ⟨rfl,hb,ho,h4,h5⟩:=h;dsimp only at hb ho h4 h5 ⊢;simp_all_arith[j6];nofun;erw[F.mov];refine oK hb h4 h5 (hM _ _ (seq λM hM=>?_));erw[F.need];refine uP hb ho (hM _ _ (seq λM hM=>?_));simp_arith![F.ord];refine CompG.map (f:=λd=>d) (I:=λ_=>True) trivial trivial (dE _) (λd Y hd=>absurd hd eg) ?_;erw[ends];refine bw (a:=[]) rfl ?_;erw[List.all_nil];symm;erw[ends];refine ⟨trivial,λp hp=>hM _ _ (uO hp λG1 g1 s1=>seq λM hM=>?_)⟩;erw[fj g1,F.first];simp only[BEq.rfl,ft];refine zY hb ?_;simp only[jl,fj g1,J7];exact s1
def afV(Z:aa)(F:FIA Z)(ds:AS)(G:DH)(C:AL)(h:(∃x d,ds=[x,d,.lst []])/\lr ds C):au Z j6 (λx G'=>x=⟨C,.non⟩/\G'=G) (env0 ds 2) G (ends λ_ _=>False):=by obtain ⟨⟨x,d,rfl⟩,x',d',rest,e,h⟩:=h;simp only[cw]at e;obtain ⟨rfl,rfl,_⟩:=e;exact Kq F.mov F.need h
def uQ:RF.Spec:=ghS (A:=AQ×Nat) (λa ds G=>ds=[.ref a.1,.int (a.2:Nat)]/\Pen G a.1/\a.2<=12) (λa _ d G'=>∃o,d=aA o/\okO a.2 o/\Pen G' a.1)
def afW{p:AQ}{n:Nat}{G:DH}{k:AT}{E:EK}(hp:Pen G p)(hn:n<=12)(hk:∀o G',okO n o->Pen G' p->k (aA o) G'):uQ.t [.ref p,.int (n:Nat)] G k E:=gj (p,n) ⟨rfl,hp,hn⟩ λd G' hx=>by
 obtain ⟨o,rfl,h1,h2⟩:=hx;exact hk o G' h1 h2
def afX (Z:aa) (h1:Z "_law_take"=dF) (a:AQ×Nat) (ds:AS) (G:DH) (h:ds=[.ref a.1,.int (a.2:Nat)]/\Pen G a.1/\a.2<=12):au Z zA noE (env0 ds 1) G (ends λd G'=>∃o,d=aA o/\okO a.2 o/\Pen G' a.1):=by
 obtain ⟨p,n⟩:=a;obtain ⟨rfl,hp,hn⟩:=h;dsimp only at hp hn ⊢;simp_all_arith[zA];nofun;erw[cb];refine ⟨⟨!0,!0⟩,λq hq=>hM _ _ (last ?_)⟩;have hqp:q≠p:=(hp.ne hq).symm;erw[h1,cb];refine ⟨!0,CompG.inv (P:=λi acc Y G'=>(∃o,Y=[o,some (.ref q),some (.ref p)])/\Pen G' p/\∃os left:AA,acc=(os.map λi:Nat=>D.int (i:Int))/\G' q=some (.lst (left.map λi:Nat=>D.int (i:Int)))/\(os++left).Perm (List.range n)/\os.length=i) ⟨⟨_,rfl⟩,hp.sa (Sa.new hq),[],List.range n,rfl,?_,List.Perm.refl _,rfl⟩ (λ_ _ _ _ _=>trivial) ?_ ?_ ?_⟩
 .rw[bG];have e:=zW n;unfold aA at e;rw[D.tup.inj e]
 .simp[aX];bv_omega
 .rintro i d acc Y G' hd ⟨⟨o,rfl⟩,hp',os,left,rfl,g,hperm,hos⟩ kk hk;have hi:i < n:=by
   have:=(ar.mp hd).1;simpa [aX] using this
  have hll:os.length+left.length=n:=by have:=hperm.length_eq;rwa [aI,en]at this
  erw[h1,abL,Il,di g,gh g,ag];refine cG hp' (!0) (!0) λr G2 hr hp2 sb2=>?_;have g2:=sb2 _ _ g hqp;have hrl:r < left.length:=by omega
  simp only[Il,di g2,cb];refine ⟨!0,!0,bw (a:=D.int (left[r]:Nat)) (by rw[b9,aE hrl];rfl) ?_⟩;refine hk _ _ _ ⟨⟨_,rfl⟩,hp2.sb Sb.upd hqp.symm,os++[left[r]],left.eraseIdx r,?_,?_,?_,by simp;omega⟩
  .rw[c9];rfl
  .rw[bG];congr 2;rw[ee,ee,c9,List.map_take,List.map_drop]
  .refine List.Perm.trans ?_ hperm;rw[List.append_assoc];refine List.Perm.append_left _ ?_;have e:left.take r++left[r]::left.drop (r+1)=left:=by rw[<-b6 hrl,List.take_append_drop]
   rw[ee];have pm:(left[r]::(left.take r++left.drop (r+1))).Perm (left.take r++left[r]::left.drop (r+1)):=List.perm_middle.symm;rw[e]at pm;exact pm
 .rintro acc Y G' ⟨⟨o,rfl⟩,hp',os,left,rfl,g,hperm,hos⟩;have hos:os.length=n:=by simpa [aX] using hos
  have hll:os.length+left.length=n:=by have:=hperm.length_eq;rwa [aI,en]at this
  have hl0:left=[]:=cK.mp (!0);subst hl0;rw[d6]at hperm;exact ⟨os,rfl,hperm,hp'⟩
def oN (C:AL):AA:=if C=="NoBook" then [98,111,111,107] else if C=="TooMany" then [109,97,110,121] else [111,114,100,101,114]
def Kr (C:AL):Prop:=C="NoBook"\/C="TooMany"\/C="NoOrder"
def lw:AA:=[110,111,110,101]
def jo (k:Int) (x d:D) (C:AL):Prop:=(C="NoBook"/\jh x)\/∃w rs,x=aq w rs/\okB w rs/\((C="TooMany"/\0 < k/\gC w rs)\/(C="NoOrder"/\(k=0\/(w<=4/\rs.length<=5))/\noO rs.length d))
def Ad(k:Int)(x d:D):Prop:=∃w rs o,x=aq w rs/\d=aA o/\okB w rs/\okO rs.length o/\(k=0\/(w<=4/\rs.length<=5))
structure T37 where
 k:Int
 x:D
 d:D
 l:AA
def Ks(a:T37)(ds:AS)(_:DH):Prop:=ds=[.int a.k,a.x,a.d]/\0<=a.k/\a.k < 4/\((a.l=lw/\Ad a.k a.x a.d)\/∃C,a.l=oN C/\jo a.k a.x a.d C)
def uR:RF.Spec:=ghS Ks (λa G d G'=>Sa G G'/\d=.str a.l)
def afY{k:Int}{x d:D}{C:AL}(h:jo k x d C):Kr C:=by
 rcases h with ⟨e,_⟩ |⟨w,rs,_,_,⟨e,_⟩ |⟨e,_⟩⟩
 .exact .inl e
 .exact .inr (.inl e)
 .exact .inr (.inr e)
structure FT37(Z:aa):Prop where
 bo:Z "by_order"=sBy
 way:Z "way"=Ac
 isw:Z "is_way"=lu
 isa:Z "is_apart"=lu
def Ae{k:Int}{x d:D}{C:AL}(h:jo k x d C)(h0:k≠0)(rest:AS):lr (x::d::rest) C:=by
 refine ⟨x,d,rest,rfl,?_⟩;rcases h with ⟨e,hx⟩ |⟨w,rs,rfl,hb,⟨e,_,hbig⟩ |⟨e,hk,ho⟩⟩
 .exact .inl (.inl ⟨e,x,rfl,hx⟩)
 .exact .inl (.inr ⟨e,w,rs,rfl,hb,hbig⟩)
 .obtain ⟨h4,h5⟩:=hk.resolve_left h0;exact .inr ⟨e,w,rs,rfl,hb,h4,h5,ho⟩
def afZ{x d:D}{C:AL}(h:jo 0 x d C):pBy [x,d] C:=by
 rcases h with ⟨e,hx⟩ |⟨w,rs,rfl,hb,⟨e,h0,_⟩ |⟨e,_,ho⟩⟩
 .exact .inl ⟨e,x,d,rfl,hx⟩
 .omega
 .exact .inr ⟨e,w,rs,d,rfl,hb,ho⟩
def oO (C:AL):List Bool:=[cj C "NoBook",cj C "TooMany",cj C "NoOrder"]
def af0 {C:AL} (h:Kr C):cj C "NoMatch"=false/\cj C "NoRow"=false/\cj C "ValueError"=true/\(oO C).count true=1/\true∈oO C/\atI [D.str [98,111,111,107],.str [109,97,110,121],.str [111,114,100,101,114]] ((oO C).idxOf true:Nat)=some (.str (oN C)):=by rcases h with rfl |rfl |rfl;all_goals exact ⟨!1,!1,!1,!1,!1,rfl⟩
def af1(Z:aa)(F:FT37 Z)(a:T37)(ds:AS)(G:DH)(h:Ks a ds G):au Z zB noE (env0 ds 4) G (ends λd G'=>Sa G G'/\d=.str a.l):=by
 obtain ⟨k,x,d,l⟩:=a;obtain ⟨rfl,k0,k4,h⟩:=h;dsimp only at k0 k4 h ⊢;have hk:k=0\/k=1\/k=2\/k=3:=by omega
 rw[zB];simp_all_arith[];nofun;erw[ends];symm;rcases h with ⟨rfl,w,rs,o,rfl,rfl,hb,ho,hkw⟩ |⟨C,rfl,hC⟩
 .have fin:∀G',Sa G G'->M [some (.int k),some (aq w rs),some (aA o),some .non,none,none,none] G':=λG' sa=>by
   symm;erw[ends];refine ⟨!1,hM _ _ (seq λM hM=>?_)⟩;erw[ends];refine ⟨!1,hM _ _ (seq λM hM=>?_)⟩;erw[lR];exact ⟨sa,rfl⟩
  rcases hk with rfl |rfl |rfl |rfl
  .erw[F.bo];exact Ab hb ho (fin G (Sa.refl G))
  .obtain ⟨h4,h5⟩:=hkw.resolve_left (!1);erw[F.way];exact jd (gj (w,rs,o) ⟨rfl,hb,ho,h4,h5⟩ λ_ G' s=>fin G' s)
  .obtain ⟨h4,h5⟩:=hkw.resolve_left (!1);erw[F.isw];exact jd (gj (w,rs,o) ⟨rfl,hb,ho,h4,h5⟩ λ_ G' s=>fin G' s)
  .obtain ⟨h4,h5⟩:=hkw.resolve_left (!1);erw[F.isa];exact jd (gj (w,rs,o) ⟨rfl,hb,ho,h4,h5⟩ λ_ G' s=>fin G' s)
 .have hi:=afY hC;have hc1:(["NoBook","NoMatch","NoOrder","TooMany"].contains C)=true:=by rcases hi with rfl |rfl |rfl <;> decide
  have hc2:cj C "SieveError"=true:=by rcases hi with rfl |rfl |rfl <;> decide
  have fin:M [some (.int k),some x,some d,some (.exn C),none,none,none] G:=by symm;erw[hc1];refine ⟨!1,hM _ _ (seq λM hM=>?_)⟩;erw[hc1];refine ⟨!1,hM _ _ (seq λM hM=>?_)⟩;erw[lR];obtain ⟨f1,f2,f3,f4,f5,f6⟩:=af0 hi;symm;simp_arith![hc1,f1,f2,f3];refine bw (a:=oO C) rfl ?_;rw[f4];have e0:(!((1:Nat):Int)==1)=false:=rfl;have e1:isIn (.bl true) [.bl false,.bl false]=false:=rfl;simp only[e0,e1];refine ⟨⟨rfl,!1⟩,?_⟩;erw[ends];ac_nf0;erw[ends];refine ⟨!1,bw (a:=oO C) rfl ⟨f5,bw f6 ⟨Sa.refl _,rfl⟩⟩⟩
  rcases hk with rfl |rfl |rfl |rfl
  .erw[F.bo];exact je (afZ hC) ⟨rfl,hc1,hc2,fin⟩
  .erw[F.way];exact je ⟨rfl,Ae hC (!1) _⟩ ⟨rfl,hc1,hc2,fin⟩
  .erw[F.isw];exact je ⟨⟨_,_,rfl⟩,Ae hC (!1) _⟩ ⟨rfl,hc1,hc2,fin⟩
  .erw[F.isa];exact je ⟨⟨_,_,rfl⟩,Ae hC (!1) _⟩ ⟨rfl,hc1,hc2,fin⟩
def cL(k:Int)(w:Nat)(rs:AU)(b:Bool):AA:=if 0 < k/\(5 < rs.length\/4 < w) then [109,97,110,121] else if b then lw else [111,114,100,101,114]
def uT:RF.Spec:=cT (A:=Int×Nat×AU×Bool) (λa=>[.int a.1,aq a.2.1 a.2.2.1,.bl a.2.2.2]) (λa=>okB a.2.1 a.2.2.1) (λa=>.str (cL a.1 a.2.1 a.2.2.1 a.2.2.2))
def af2(Z:aa)(a:Int×Nat×AU×Bool)(G:DH)(h:okB a.2.1 a.2.2.1):au Z zu noE (env0 [.int a.1,aq a.2.1 a.2.2.1,.bl a.2.2.2] 0) G (ends λd G'=>G'=G/\d=.str (cL a.1 a.2.1 a.2.2.1 a.2.2.2)):=by
 obtain ⟨k,w,rs,b⟩:=a;dsimp only at h ⊢;have small:∀M:ak->DH->Prop,¬(0 < k/\gC w rs)->wpS Z (.ret (.idx (.lst true (.cons (.cst (.str [111,114,100,101,114])) (.cons (.cst (.str [110,111,110,101])) .nil))) (.bcl .int (.cons (.var 2) .nil)))) noE [some (.int k),some (aq w rs),some (.bl b)] G (ends λd G'=>G'=G/\d=.str (cL k w rs b)):=λM hn=>by
  have e:cL k w rs b=if b then lw else [111,114,100,101,114]:=by unfold cL;rw[if_neg (show ¬(0 < k/\(5 < rs.length\/4 < w)) from hn)]
  rw[e];cases b
  .erw[ends];exact ⟨!1,bw (a:=.str [111,114,100,101,114]) rfl rfl⟩
  .erw[ends];exact ⟨!1,bw (a:=.str lw) rfl rfl⟩
 simp_all_arith[zu,aq];nofun;by_cases hk:0 < k
 .by_cases h5:(5:Int) < (rs.length:Int)
  .have e:cL k w rs b=[109,97,110,121]:=by unfold cL;rw[if_pos ⟨hk,.inl (!0)⟩]
   erw[bq hk,ag,bq h5,e,eL]
  .by_cases h4:(4:Int) < (w:Int)
   .have e:cL k w rs b=[109,97,110,121]:=by unfold cL;rw[if_pos ⟨hk,.inr (!0)⟩]
    erw[bq hk,ag,bB h5,bq h4,e,eL]
   .erw[bq hk,ag,bB h5,bB h4];ac_nf0;exact small M (by unfold gC;omega)
 .erw[bB hk];ac_nf0;exact small M (λz=>hk z.1)
def uU{n:Nat}{l:AS}{x:D}(hx:x∈l)(hp:isPlace (n:Int) x=false)(hl:l.length<=14)(hn:nrs l=true):noO n (.tup l):=by refine .inr (.inr (.inr (.inr ⟨l,rfl,hl,hn,.inl ?_⟩)));rw[<-Bool.not_eq_true,bg];intro z;rw[z x hx]at hp;cases hp
def Ku{n:Nat}{ns:List Int}(hl:ns.length<=14)(h:¬ns.Perm (aH (List.range n))):noO n (.tup (ns.map D.int)):=.inr (.inr (.inr (.inr ⟨_,rfl,by rw[ag];exact hl,(fJ ns).1,.inr ⟨ns,rfl,h⟩⟩)))
def oR(i:Int):D:=if i=1 then .bl true else .int i
def uV:D->D
 |.int i=>oR i
 |d=>d
def Kv:∀l:List Int,nrs ((l.map D.int).map uV)=true
 |[]=>rfl
 |a::l=>by
  rw[a9,a9,nrs,Kv l,eD];show nr (oR a)=true;unfold oR;split <;> rfl
def af3:∀n:Fin 13,(aH (List.range n.1)).Nodup:=by decide
def uW:RF.Spec:=ghS (A:=AQ×Nat×AA) (λa ds G=>ds=[.ref a.1,aA a.2.2]/\Pen G a.1/\okO a.2.1 a.2.2/\a.2.1<=12) (λa _ d G'=>noO a.2.1 d/\Pen G' a.1)
def af4 (Z:aa) (h1:Z "_law_take"=dF) (a:AQ×Nat×AA) (ds:AS) (G:DH) (h:ds=[.ref a.1,aA a.2.2]/\Pen G a.1/\okO a.2.1 a.2.2/\a.2.1<=12):au Z zx noE (env0 ds 1) G (ends λd G'=>noO a.2.1 d/\Pen G' a.1):=by
 obtain ⟨p,n,o⟩:=a;obtain ⟨rfl,hp,ho,hn⟩:=h;dsimp only at hp ho hn ⊢;have hol:=ho.len;have hnl:(aH o).length=n:=by unfold aH;rw[ag,hol]
 rw[lg];simp_all_arith[zx];nofun;have c1:cut ((aH o).map D.int) (some 1) none=((aH o).drop 1).map D.int:=by rw[List.map_drop];exact yR _ 1
 have dl:((aH o).drop 1).length=n - 1:=by rw[eh,hnl]
 have fin:∀(L:AS) (Y:ak),L≠[]->L.length<=10->(∀d∈L,noO n d)->wpS Z (.ret (.idx (.var 2) (.call "_law_take" (.cons (.var 0) (.cons (.bcl .len (.cons (.var 2) .nil)) .nil))))) noE [some (.ref p),some (.tup ((aH o).map D.int)),some (.lst L)] G (ends λd G'=>noO n d/\Pen G' p):=λL Y h0 hL hall=>by
  erw[h1];have:0 < L.length:=ge.mpr h0;refine cG hp (!0) (!0) λr G' hr hp' sb=>?_;rw[Ik];exact uv (!0) hr λa ha=>⟨hall a ha,hp'⟩
 erw[ag,hnl,c1];refine ⟨!1,by bv_omega,!1,!1,!1,by simp,!1,by rw[dl];show n - 1+2<=sz;bv_omega,!1,by bv_omega,!1,hM _ _ (seq λM hM=>?_)⟩;have np:isPlace (n:Int) (.int (n:Int))=false:=by show (decide (0<=(n:Int))&&decide ((n:Int) < (n:Int)))=false;rw[bB (show ¬(n:Int) < (n:Int) by omega),fh]
 have e2:∀(l:List Int)(i:Int),l.map D.int++[.int i]=(l++[i]).map D.int:=λl i=>by rw[c9];rfl
 have e3:((aH o).drop 1).map D.int++reps [D.int (n:Int)] (Int.toNat 2)=((aH o).drop 1++[(n:Int),(n:Int)]).map D.int:=by rw[c9];rfl
 have all1:∀d∈[D.lst ((aH o).map D.int),.tup ((aH o).map D.int++[.int (n:Int)]),.tup (((aH o).drop 1).map D.int++reps [D.int (n:Int)] (Int.toNat 2)),.non,.str [],.tup ((aH o).map D.int++[.int (-1)]),.int 7],noO n d:=by
  intro d hd;simp only[a7,eg,or_false]at hd;rcases hd with rfl |rfl |rfl |rfl |rfl |rfl |rfl
  .exact .inl ⟨_,rfl⟩
  .rw[e2];exact uU (x:=.int (n:Int)) (bX.mpr ⟨_,aw _ (al.mpr rfl),rfl⟩) np (by rw[ag,aI,hnl,fk];omega) (fJ _).1
  .rw[e3];exact uU (x:=.int (n:Int)) (bX.mpr ⟨_,aw _ bp,rfl⟩) np (by rw[ag,aI,dl];show n - 1+2<=14;omega) (fJ _).1
  .exact .inr (.inl rfl)
  .exact .inr (.inr (.inl ⟨_,rfl⟩))
  .rw[e2];exact uU (x:=.int (-1)) (bX.mpr ⟨_,aw _ (al.mpr rfl),rfl⟩) rfl (by rw[ag,aI,hnl,fk];omega) (fJ _).1
  .exact .inr (.inr (.inr (.inl ⟨_,rfl⟩)))
 by_cases h1n:(1:Int) < (n:Int)
 .simp_arith![ag,hnl,bq h1n];refine last ?_;simp_arith![ag,hnl,c1];obtain ⟨x,y,r,exy⟩:∃x y r,aH o=x::y::r:=by
   match e:aH o,hnl with
   |[],hnl=>rw[g6]at hnl;omega
   |[_],hnl=>rw[fk]at hnl;omega
   |x::y::r,_=>exact ⟨x,y,r,rfl⟩
  have c2:cut ((aH o).map D.int) (some 1) (some 2)=[.int y]:=by rw[exy];show cut (D.int x::D.int y::r.map D.int) (some 1) (some 2)=[.int y];rfl
  refine ⟨by rw[dl,c2,fk];bv_omega,CompG.map (f:=uV) (I:=λY=>∃z,Y=[z]) ⟨_,rfl⟩ trivial (by rw[ag];bv_omega) ?_ ?_⟩
  .rintro d Y hd ⟨z,rfl⟩ kk hk;obtain ⟨i,hi,rfl⟩:=bX.mp hd;by_cases hi1:i=1
   .subst hi1;erw[ends];exact hk _ ⟨_,rfl⟩
   .have e1:(i==1)=false:=by rw[cr];exact hi1
    have e2:uV (.int i)=.int i:=by show oR i=_;unfold oR;rw[if_neg hi1]
    rw[e2]at hk;erw[e1];exact hk _ ⟨_,rfl⟩
  .refine ⟨!1,!1,hM _ _ (last ?_)⟩;refine fin _ [] (by simp) (by simp) ?_;rw[c2];intro d hd;have hd:d∈[D.lst ((aH o).map D.int),.tup ((aH o).map D.int++[.int (n:Int)]),.tup (((aH o).drop 1).map D.int++reps [D.int (n:Int)] (Int.toNat 2)),.non,.str [],.tup ((aH o).map D.int++[.int (-1)]),.int 7]++[.tup (((aH o).drop 1).map D.int),.tup (((aH o).drop 1).map D.int++[.int y]),.tup (((aH o).map D.int).map uV)]:=hd;rcases ba.mp hd with z |z
   .exact all1 d z
   .simp only[a7,eg,or_false]at z;rcases z with rfl |rfl |rfl
    .exact Ku (by rw[dl];omega) λhp=>by
      have:=hp.length_eq;rw[dl]at this;unfold aH at this;rw[ag,en]at this;omega
    .rw[e2];refine Ku (by rw[aI,dl,fk];omega) λhp=>?_;have nd:=hp.nodup_iff.mpr (af3 ⟨n,!0⟩);rw[exy]at nd;have nd:(y::(r++[y])).Nodup:=nd;rw[d4]at nd;exact nd.1 (aw _ (al.mpr rfl))
    .refine uU (x:=.bl true) (bX.mpr ⟨.int 1,bX.mpr ⟨1,?_,rfl⟩,rfl⟩) rfl (by rw[ag,ag,hnl];omega) (Kv _);unfold aH;exact bX.mpr ⟨1,(List.Perm.mem_iff ho).mpr (fF.mpr (!0)),rfl⟩
 .erw[ag,hnl,bB h1n];ac_nf0;exact fin _ [] (by simp) (by simp) all1
mutual
def tq:D->Bool
 |.tup l=>decide (l.length<=100000)&&tqs l
 |.int _=>true
 |.str _=>true
 |_=>false
def tqs:AS->Bool
 |[]=>true
 |a::as=>tq a&&tqs as
end
def Kw:∀{l:AS}{d:D},tqs l=true->d∈l->tq d=true
 |a::as,d,h,m=>by
  rw[tqs,ae]at h;rcases a7.mp m with e |m
  .rw[e];exact h.1
  .exact Kw h.2 m
def Ky(n:Nat)(ds:AS)(_:DH):Prop:=∃v,ds=[v,v]/\dpt v < n/\tq v=true
def fL(n:Nat):RF.Spec:=bI (Ky n) (λ_ G d G'=>G'=G/\d=.bl true)
def Kz{n:Nat}{v:D}{G:DH}{k:AT}{E:EK}(h1:dpt v < n)(h2:tq v=true)(hk:k (.bl true) G):(fL n).t [v,v] G k E:=
 bU ⟨v,rfl,h1,h2⟩ λd G' h=>by obtain ⟨e1,e2⟩:=h;subst e1 e2;exact hk
def af5 (Z:aa) (n:Nat) (h1:Z "_law_same"=fL n) (ds:AS) (G:DH) (h:Ky (n+1) ds G):au Z mZ noE (env0 ds 0) G (ends λd G'=>G'=G/\d=.bl true):=by
 obtain ⟨v,rfl,hd,hs⟩:=h;cases v with
 |int i=>erw[mZ,BEq.rfl]
 |str l=>erw[mZ,BEq.rfl]
 |tup l=>
  rw[tq,ae,bS]at hs;rw[dpt]at hd;erw[mZ];erw[bne_self_eq_false,BEq.rfl];refine CompG.inv (P:=λi acc Y G'=>(∃o1 o2,Y=[o1,o2])/\G'=G/\acc=List.replicate i (.bl true)) ⟨⟨_,_,rfl⟩,rfl,rfl⟩ (λ_ _ _ _ _=>trivial) (by rw[um];bv_omega) ?_ ?_
  .rintro i d acc Y G' hd' ⟨⟨o1,o2,rfl⟩,rfl,rfl⟩ kk hk;obtain ⟨a,ha,rfl⟩:=adY l i d hd';erw[h1];exact Kz (Nat.lt_of_le_of_lt (Iz ha) (!0)) (Kw hs.2 ha) (hk _ _ _ ⟨⟨_,_,rfl⟩,rfl,List.replicate_succ'.symm⟩)
  .rintro acc Y G' ⟨_,rfl,rfl⟩;rw[adV,adW,adX];simp
 |_=>cases hs
def af6(ds:AS)(G:DH)(a:(fL 0).A):¬(fL 0).pre ds G a:=λ⟨_,_,_,h,_⟩=>by omega
def af7{w:Nat}{rs:AU}(h:okB w rs):dpt (aq w rs) < 4/\tq (aq w rs)=true:=by
 have hlen:=h.len;have h2:aV (rs.map aQ)<=1:=Ii λd hd=>by obtain ⟨_,_,rfl⟩:=bX.mp hd;exact ax _
 have h3:∀l:AU,tqs (l.map aQ)=true:=λl=>by
  induction l with
  |nil=>rfl
  |cons r l ih=>rw[a9,tqs,ih];rfl
 unfold aq;simp only[dpt,aV,tq,tqs,h3,ag,eD,e7];exact ⟨!0,by simp;omega⟩
def af8{w:Nat}{rs:AU}(h:okB w rs):dG (rs.map aQ)=true/\(rs.map aQ).length<=100000:=by have:=Jl h;unfold aq at this;simp only[szA,dG,eD,e7,ae,bS]at this;exact ⟨this.2.2,this.2.1⟩
def af9{w:Nat}{rs:AU}(h:okB w rs):jh (.tup (rs.map aQ)):=by
 obtain ⟨h1,h2⟩:=af8 h;refine ⟨by rw[nr];exact Jj rs,by rw[szA,h1,bq h2];rfl,?_⟩;match rs with
 |[]=>rfl
 |[a]=>rfl
 |[a,b]=>rfl
 |a::b::c::r=>rfl
structure F37(Z:aa):Prop where
 opn:Z "_law_open"=zH
 anew:Z "_law_anew"=uy
 take:Z "_law_take"=dF
 book:Z "_law_book"=uC
 order:Z "_law_order"=uQ
 same:Z "_law_same"=fL 4
 byo:Z "by_order"=sBy
 noo:Z "_law_no_order"=uW
 told:Z "_law_told"=uR
 due:Z "_law_due"=uT
def Af{k:Int}{x d:D}{l:AA}{G:DH}{q:AT}{E:EK}(k0:0<=k)(k4:k < 4)(h:(l=lw/\Ad k x d)\/∃C,l=oN C/\jo k x d C)(hq:∀G',Sa G G'->q (.str l) G'):uR.t [.int k,x,d] G q E:=gj (⟨k,x,d,l⟩:T37) ⟨rfl,k0,k4,h⟩ λd' G' hx=>by
 obtain ⟨h1,rfl⟩:=hx;exact hq G' h1
def KC{k:Int}{w:Nat}{rs:AU}{b:Bool}{G:DH}{q:AT}{E:EK}(hb:okB w rs)(hq:q (.str (cL k w rs b)) G):uT.t [.int k,aq w rs,.bl b] G q E:=dC (k,w,rs,b) rfl hb hq
def aga{p:AQ}{n:Nat}{o:AA}{G:DH}{q:AT}{E:EK}(hp:Pen G p)(ho:okO n o)(hn:n<=12)(hq:∀d G',noO n d->Pen G' p->q d G'):uW.t [.ref p,aA o] G q E:=gj (p,n,o) ⟨rfl,hp,ho,hn⟩ λd' G' hx=>hq d' G' hx.1 hx.2
def agb{k:Int}{w:Nat}{rs:AU}{d:D}(k0:0<=k)(hb:okB w rs)(hd:noO rs.length d):∃C,cL k w rs false=oN C/\jo k (aq w rs) d C:=by
 by_cases h:0 < k/\gC w rs
 .refine ⟨"TooMany",?_,.inr ⟨w,rs,rfl,hb,.inl ⟨rfl,h⟩⟩⟩;unfold cL;rw[if_pos (show 0 < k/\(5 < rs.length\/4 < w) from h)];rfl
 .refine ⟨"NoOrder",?_,.inr ⟨w,rs,rfl,hb,.inr ⟨rfl,?_,hd⟩⟩⟩
  .unfold cL;rw[if_neg (show ¬(0 < k/\(5 < rs.length\/4 < w)) from h)];rfl
  .by_cases hk:k=0
   .exact .inl hk
   .exact .inr (by unfold gC at h;omega)
def agc{k:Int}{w:Nat}{rs:AU}{o:AA}(k0:0<=k)(hb:okB w rs)(ho:okO rs.length o):(cL k w rs true=lw/\Ad k (aq w rs) (aA o))\/∃C,cL k w rs true=oN C/\jo k (aq w rs) (aA o) C:=by
 by_cases h:0 < k/\gC w rs
 .refine .inr ⟨"TooMany",?_,.inr ⟨w,rs,rfl,hb,.inl ⟨rfl,h⟩⟩⟩;unfold cL;rw[if_pos (show 0 < k/\(5 < rs.length\/4 < w) from h)];rfl
 .refine .inl ⟨?_,w,rs,o,rfl,rfl,hb,ho,?_⟩
  .unfold cL;rw[if_neg (show ¬(0 < k/\(5 < rs.length\/4 < w)) from h)];rfl
  .by_cases hk:k=0
   .exact .inl hk
   .exact .inr (by unfold gC at h;omega)
def agd(Z:aa)(F:F37 Z)(ds:AS)(G:DH)(h:∃ns:List Int,ds=[.scr ns]/\ns.length<=63):au Z zE noE (env0 ds 8) G (ends λd _=>d=.bl true):=by
 obtain ⟨ns,rfl,hl⟩:=h;simp_all_arith[zE];nofun;erw[F.opn];refine bU ⟨ns,rfl,hl⟩ λd' G1 hx=>?_;obtain ⟨p,e1,_,hp,_⟩:=hx;subst e1;symm;simp_arith![ends];refine ⟨!1,ForG.inv (P:=λi Y G'=>(∃o2 o3 o4 o5 o6 o7 o8,Y=[some (.scr ns),some (.ref p),o2,o3,o4,o5,o6,o7,o8])/\Pen G' p) ⟨⟨_,_,_,_,_,_,_,rfl⟩,hp⟩ (λ_ _ _ _=>trivial) ?_ ?_⟩
 .rintro i d Y G2 hd ⟨⟨o2,o3,o4,o5,o6,o7,o8,rfl⟩,hp2⟩ kk hk;unfold aX at hd;rw[b9]at hd;obtain ⟨j,hj,rfl⟩:=br.mp hd;have hj4:j < 4:=by
   have:=cf hj;simpa using this
  have ix:∀a b c d:Nat,∃n:Nat,(n=a\/n=b\/n=c\/n=d)/\atI [D.int a,D.int b,D.int c,D.int d] (0+(j:Int))=some (.int (n:Int)):=by
   intro a b c d;have:j=0\/j=1\/j=2\/j=3:=by omega
   rcases this with e |e |e |e
   .exact ⟨a,.inl rfl,by rw[e];rfl⟩
   .exact ⟨b,.inr (.inl rfl),by rw[e];rfl⟩
   .exact ⟨c,.inr (.inr (.inl rfl)),by rw[e];rfl⟩
   .exact ⟨d,.inr (.inr (.inr rfl)),by rw[e];rfl⟩
  obtain ⟨w0,hw0,ew⟩:=ix 6 5 2 4;obtain ⟨m0,hm0,em⟩:=ix 12 7 4 7;simp_arith![ends];nofun;erw[F.anew,F.book];refine aey hp2 λG3 hp3 _=>?_;refine ⟨!1,bw ew ⟨!1,bw em ?_⟩⟩;refine aeb hp3 (!0) (!0) (!0) λw rs G4 hb hw hrs hp4 _=>hM _ _ (seq λM hM=>?_);have hlen:=hb.len;have e0:∀xs:AU,aq w xs=.tup [.int w,.tup (xs.map aQ)]:=λ_=>rfl;erw[F.order,e0,ag];refine afW hp4 (!0) λo G5 ho hp5=>hM _ _ (seq λM hM=>?_);have hol:=ho.len;erw[aA];refine CompG.map (f:=zZ rs) (I:=λY=>∃o,Y=[o,some (.tup [.int w,.tup (rs.map aQ)])]) ⟨_,rfl⟩ trivial (by rw[ag];bv_omega) ?_ ?_
  .rintro d Y hd ⟨o',rfl⟩ kk hk;obtain ⟨i,rfl,e⟩:=JZ ho rfl hd;erw[ends];exact bw e (hk _ ⟨_,rfl⟩)
  .rw[J0];refine ⟨!1,hM _ _ (seq λM hM=>?_)⟩;rw[<-e0,<-e0];have ed:D.tup (o.map λi:Nat=>D.int (i:Int))=aA o:=rfl;rw[ed];erw[F.byo,F.same];refine Ab hb ho ?_;obtain ⟨s1,s2⟩:=af7 (JX hb ho);refine Kz s1 s2 ?_;symm;erw[F.noo];refine aga hp5 ho (!0) λbad G6 hbad hp6=>hM _ _ (seq λM hM=>?_);erw[F.take,e0];refine ⟨!1,!1,cG hp6 (!1) (!1) λq G7 hq hp7 _=>?_⟩;erw[ends];refine uv (!0) (by simp;omega) λnone hnone=>hM _ _ (last ?_);have hno:jh none:=by
    simp only[a7,eg,or_false]at hnone;rcases hnone with rfl |rfl |rfl |rfl |rfl
    .exact ⟨rfl,rfl,rfl⟩
    .exact ⟨rfl,rfl,rfl⟩
    .exact ⟨rfl,rfl,rfl⟩
    .exact af9 hb
    .exact ⟨rfl,rfl,rfl⟩
   rw[<-e0];simp_arith![ends];refine ⟨!1,ForG.inv (P:=λi Y G'=>(∃o8,Y=[some (.scr ns),some (.ref p),some (.int (0+(j:Int))),some (aq w rs),some (aA o),some (aq w (byR rs o)),some bad,some none,o8])/\Pen G' p) ⟨⟨_,rfl⟩,hp7⟩ (λ_ _ _ _=>trivial) ?_ ?_⟩
   .rintro i8 d8 Y G8 hd8 ⟨⟨o8,rfl⟩,hp8⟩ kk8 hk8;unfold aX at hd8;rw[b9]at hd8;obtain ⟨k,hk4,rfl⟩:=br.mp hd8;have hk4:k < 4:=by
     have:=cf hk4;simpa using this
    simp_arith![ends];nofun;erw[F.told];refine Af (l:=[98,111,111,107]) (!0) (!0) (.inr ⟨"NoBook",rfl,.inl ⟨rfl,hno⟩⟩) λG9 s9=>?_;erw[BEq.rfl];symm;erw[F.told];refine Af (!0) (!0) (.inr (agb (!0) hb hbad)) λG10 s10=>?_;erw[F.due];refine KC hb ?_;erw[BEq.rfl];ac_nf0;erw[F.told];refine Af (!0) (!0) (agc (!0) hb ho) λG11 s11=>?_;erw[F.due];refine KC hb ?_;erw[BEq.rfl];exact hk8 _ _ ⟨⟨_,rfl⟩,((hp8.sa s9).sa s10).sa s11⟩
   .rintro Y G8 ⟨⟨o8,rfl⟩,hp8⟩;exact hk _ _ ⟨⟨_,_,_,_,_,_,_,rfl⟩,hp8⟩
 .rintro Y G2 ⟨_,hp2⟩;ac_nf0;erw[ends]
end RF
namespace HD
open PySem PySem.W
def sv(x:Str)(t:Nat):AN:=.str x t
def ri(n:Nat):AN:=.int n 0
def ir (l:AB):Obj:=⟨.type "tuple",none,.seq ⟨l⟩ 0,⟨[]⟩⟩
def fM(c:AN)(l:AB):Obj:=⟨c,none,.fields ⟨l⟩,⟨[]⟩⟩
def oU:Str:="/claim/cut.py"
def Ag(n q:Str)(ln ac fl a b:Nat)(isf:Bool)(l1 l2 tm:AN)(t t2:Nat):Obj:=
 fM (.type "code") [sv n t,sv q (t+1),sv oU (t+2),ri ln,ri ac,ri 0,ri 0,ri fl,.ref a,.bool isf,ri 181,.ref b,.none,l1,l2,tm,ri t2,ri ln,sv oU (t2+1)]
def toks(t:Nat):AD->AB
 |[]=>[]
 |x::r=>sv x t::toks (t+1) r
def fdO(n q:Str)(p:Arguments)(b:AF)(sc:Scope)(g:Nat)(md cd:AN):Data:=
 .func { name:=n,qualname:=q,params:=p,body:=.stmts b,scope:=sc,globals:=g,closure:=[],defaults:=.none,kwdefaults:=.none,pyModule:=md,code:=cd }
def enO(P:Params)(k:Str)(t:Nat)(v:AN):DictEntry:={ hash:=PyData.keyHash P k,key:=sv k t,val:=v }
def oV (l:List DictEntry) (e:Nat):Obj:=⟨.type "dict",none,.dict ⟨l⟩ e,⟨[]⟩⟩
def frO (c l:Nat) (md:AN):Obj:=⟨.type "frame",none,.plain,⟨[some (.ref c),some (.ref 3),some (.ref l),none,some md,none,some (.ref 0)]⟩⟩
def bfO (s:AL) (v:AN):Obj:=fM (.type "builtin_function_or_method") [.builtin s,v]
def veM:AB:=[.type "ValueError",.type "Exception",.type "BaseException",.type "object"]
def uX (b:AO):Bool:=match b with |.Name n _=>n==("ValueError":Str) |_=>false
def fnO(q:Str)(a t:Nat)(md:AN)(n:Str)(p:Arguments)(b:AF)(sc:Scope)(ln:Nat):List Obj:=match localNames p sc (.stmts b) with
 |some l=>[ir [],fM .none [],ir (toks (t+3) l.1),ir [],⟨.none,none,fdO n q p b sc 0 .none .none,⟨[]⟩⟩,
   Ag n q ln p.args.length 3 a (a+1) true (.ref (a+2)) (.ref (a+3)) (.ref (a+4)) t (t+3+l.1.length),⟨.type "function",none,fdO n q p b sc 3 md (.ref (a+5)),⟨[]⟩⟩]
 |none=>[ir [],fM .none [],⟨.none,none,fdO n q p b sc 0 .none .none,⟨[]⟩⟩,
   Ag n q ln p.args.length 3 a (a+1) true .none .none (.ref (a+2)) t (t+3),⟨.type "function",none,fdO n q p b sc 3 md (.ref (a+3)),⟨[]⟩⟩]
def fnA(p:Arguments)(b:AF)(sc:Scope):Nat:=match localNames p sc (.stmts b) with |some _=>7 |none=>5
def fnT(p:Arguments)(b:AF)(sc:Scope):Nat:=match localNames p sc (.stmts b) with |some l=>l.1.length+5 |none=>5
def dot:Str:="."
structure MO where
 os:List Obj
 es:List DictEntry
 cs:AB
 a:Nat
 t:Nat
def uY(P:Params)(c:Str)(md:AN):AF->Nat->Nat->MO
 |.FunctionDef n p b _ _ _ sc _ _ pos::r,a,t=>
  let m:=uY P c md r (a+fnA p b sc) (t+fnT p b sc+1)
  ⟨fnO (c++dot++n) a t md n p b sc pos.line++m.os,enO P n (t+fnT p b sc) (.ref (a+fnA p b sc - 1))::m.es,ri pos.line::ri pos.col::.ref (a+fnA p b sc - 2)::m.cs,m.a,m.t⟩
 |_::r,a,t=>uY P c md r a t
 |[],a,t=>⟨[],[],[],a,t⟩
def clA(P:Params)(a:Nat)(b:AF):Nat:=(uY P dot .none b (a+7) 0).a+2
def stO(P:Params)(r:Nat)(sub:AB)(a t:Nat)(md:AN)(s:Stmt):List Obj:=match s with
 |.FunctionDef n p b _ _ _ sc _ _ pos=>fnO n a t md n p b sc pos.line
 |.ClassDef n bs _ body _ _ _ _ _ st pos=>
  let m:=uY P n md body (a+7) (t+12)
  let c:=m.a+2
  let u:=m.t+st.length
  let d1:=[enO P "__module__" (t+7) md]
  let d2:=enO P "__firstlineno__" (t+11) (.int pos.line (t+10))::m.es++[enO P "__static_attributes__" u (.ref m.a)]
  let b:AB:=match bs with |b::_=>(match uX b with |true=>[.type "ValueError"] |false=>[.ref r]) |[]=>[]
  let own:Bool:=match bs with |[]=>true |_=>false
  let ve:Bool:=match bs with |b::_=>uX b |[]=>false
  let wr (v:Nat):Obj:=fM (.type "getset_descriptor") [sv "__weakref__" v,.ref c,.builtin "ExceptionGroup.__weakref__",.none]
  let typ (mro:AB) (sub:AB) (nw:AL):Obj:=
   ⟨.type "type",none,.cls { name:=n,bases:=(match own with |true=>[.type "object"] |false=>b),mro:=.ref c::mro,ns:=m.a+1,qualname:=n,subclasses:=sub },
    ⟨[(match own with |true=>none |false=>some (.ref a)),none,some (sv n t),some (sv n (t+8)),some (.builtin nw),some (.bool true)]⟩⟩
  [ir b,bfO "type.__prepare__" (.type "type"),oV (d1++enO P "__qualname__" (t+9) (sv n (t+8))::d2) (4+m.es.length),ir [],fM .none m.cs,
   Ag n n pos.line 0 0 (a+3) (a+4) false .none .none .none (t+2) (t+5),frO (a+5) (a+2) md]++m.os++[ir (toks m.t st)] ++
  (match own with
  |true=>[oV (d1++d2++[enO P "__dict__" (u+2) (.ref (c+1)),enO P "__weakref__" (u+4) (.ref (c+2)),enO P "__doc__" (u+5) .none]) 4,typ [.type "object"] [] "object.__new__",
    fM (.type "getset_descriptor") [sv "__dict__" (u+1),.ref c,.builtin "function.__dict__",.builtin "function.__dict__#set"],wr (u+3)]
  |false=>(match ve with
   |true=>[oV (d1++d2++[enO P "__weakref__" (u+2) (.ref (c+1)),enO P "__doc__" (u+3) .none]) 3,typ veM sub "ValueError.__new__",wr (u+1)]
   |false=>[oV (d1++d2++[enO P "__doc__" (u+1) .none]) 2,typ (.ref r::veM) [] "ValueError.__new__"])) ++
  [fM (.type "super") [.ref c,.ref c,.ref c],bfO "object.__init_subclass__" (.ref c)]
 |_=>[]
def mdO(t:Nat)(md:AN)(s:Stmt):AN:=match s with
 |.Assign [.Name n _] (.Constant (.str x) _ _) _=>(match n==("__name__":Str) with |true=>sv x t |false=>md)
 |_=>md
def enS(P:Params)(lk:Str->AN)(t u a a':Nat)(s:Stmt):List DictEntry:=match s with
 |.Assign [.Name n _] (.Name y _) _=>[enO P n t (lk y)]
 |.FunctionDef n _ _ _ _ _ _ _ _ _=>[enO P n (u-1) (.ref (a'-1))]
 |.ClassDef n _ _ b _ _ _ _ _ _ _=>[enO P n (u-1) (.ref (clA P a b))]
 |.Assign [.Name n _] (.Constant c _ _) _=>(match n==("__name__":Str) with
  |true=>[]
  |false=>[enO P n (t+1) (match c with |.int i=>.int i t |.str x=>sv x t |_=>.none)])
 |_=>[]
def fnS(a':Nat)(s:Stmt):List (Str×AN):=match s with
 |.FunctionDef n _ _ _ _ _ _ _ _ _=>[(n,.ref (a'-1))]
 |_=>[]
def cdS(a a':Nat)(s:Stmt):AB:=match s with
 |.FunctionDef _ _ _ _ _ _ _ _ _ pos=>[ri pos.line,ri pos.col,.ref (a'-2)]
 |.ClassDef _ _ _ _ _ _ _ _ _ _ pos=>[ri pos.line,ri pos.col,.ref (a+5)]
 |_=>[]
def sbS(P:Params)(a:Nat)(s:Stmt):AB:=match s with
 |.ClassDef _ bs _ b0 _ _ _ _ _ _ _=>(match bs with |b::_=>(match uX b with |true=>[] |false=>[.ref (clA P a b0)]) |[]=>[])
 |_=>[]
def age(P:Params)(a:Nat)(s:Stmt):AA:=match s with
 |.ClassDef _ bs _ b0 _ _ _ _ _ _ _=>(match bs with |b::_=>(match uX b with |true=>[clA P a b0] |false=>[]) |[]=>[])
 |_=>[]
def fold{α:Type}(f:Nat->Nat->Nat->Nat->AN->Stmt->List α):List (Nat×Nat)->AN->AF->List α
 | (a,t)::(a',u)::r,md,s::ss=>f a a' t u md s++fold f ((a',u)::r) (mdO t md s) ss
 |_,_,_=>[]
def KD:List (Nat×Nat)->AN->AF->AN
 | (_,t)::r,md,s::ss=>KD r (mdO t md s) ss
 |_,md,_=>md
def iu:AN:=sv "__main__" 164
def agf(P:Params)(v:AN):List DictEntry:=
 [enO P "__name__" 165 v,enO P "__doc__" 166 .none,enO P "__package__" 167 .none,enO P "__loader__" 168 (.builtin "__main__.__loader__#opaque"),enO P "__spec__" 169 .none,
  enO P "__annotations__" 170 (.ref 6),enO P "__builtins__" 171 (.ref 4),enO P "__file__" 173 (sv oU 172),enO P "__cached__" 174 .none]
def ents(N:List (Nat×Nat))(b:AF)(P:Params):List DictEntry:=agf P (KD N iu b)++fold (λa a' t u _ s=>enS P (λy=>((fold (λ_ a' _ _ _ s=>fnS a' s) N iu b).lookup y).getD .none) t u a a' s) N iu b
def put{α:Type}:Nat->α->List α->List α
 |_,_,[]=>[]
 |0,x,_::r=>x::r
 |n+1,x,y::r=>y::put n x r
def KH(cs:AB):List Obj:=[ir [],fM .none cs,
 fM (.type "code") [sv "<module>" 182,sv "<module>" 183,sv oU 184,ri 1,ri 0,ri 0,ri 0,ri 0,.ref 11,.bool false,ri 181,.ref 12,.none,.none,.none,.none,ri 185,ri 1,sv oU 186],frO 13 3 iu]
def agg(B:List Obj):List Obj:=B++KH []
def objs(B:List Obj)(N:List (Nat×Nat))(b:AF)(P:Params):List Obj:=
 let es:=ents N b P
 put 3 (oV es es.length) (B++KH (fold (λa a' _ _ _ s=>cdS a a' s) N iu b) ++
  fold (λa _ t _ md s=>stO P ((fold (λa _ _ _ _ s=>age P a s) N iu b).headD 0) (fold (λa _ _ _ _ s=>sbS P a s) N iu b) a t md s) N iu b)
def evs{α:Type}:List α->List α
 |[]=>[]
 |[x]=>[x]
 |x::_::r=>x::evs r
def bt:Nat->List Obj->BT
 |0,_=>.nil
 |_,[]=>.nil
 |n+1,x::r=>.node x (bt n (evs r)) (bt n (evs r.tail))
def nameless(s:Stmt):Bool:=match s with
 |.Assign [.Name n _] _ _=>!(n==("__name__":Str))
 |_=>true
def pick:Nat->AA->List Obj->Frag
 |i,a::r,o::os=>(match Nat.beq a i with |true=>(a,o)::pick (i+1) r os |false=>pick (i+1) (a::r) os)
 |_,_,_=>[]
end HD
def PySem.W.Fast.tw4155703749084505388:PySem.Program:=PySem.Challenge.pw_starsieve_k37_orders_and_refusals
theorem PySem.W.Fast.te4155703749084505388:PySem.Challenge.pw_starsieve_k37_orders_and_refusals=PySem.W.Fast.tw4155703749084505388:=rfl
namespace HK
open PySem PySem.W PySem.W.Fast
def pw:AK:=PySem.Challenge.pw_starsieve_k37_orders_and_refusals
def rl:OpenLaw:=PySem.Challenge.rw_starsieve_k37_orders_and_refusals
def NN:List (Nat×Nat):=[(15,187),(15,189),(28,207),(40,223),(52,239),(64,255),(76,271),(88,287),(88,289),(88,291),(95,298),(102,305),(109,313),(114,319),(121,327),(128,336),(135,347),(142,354),(142,356),(142,358),(142,360),(142,362),(147,368),(154,376),(159,382),(166,389),(173,397),(180,405),(180,407),(187,414),(194,423),(201,434),(208,444),(215,455),(220,461),(220,463),(227,472),(232,478),(239,488),(239,490),(239,492),(239,494),(246,501),(251,507),(258,515),(265,524),(270,530),(277,538),(284,546),(289,552),(296,567),(303,576),(310,587),(315,593),(315,595),(322,606),(329,616),(336,623),(343,634),(348,640),(355,648),(362,658),(369,668),(376,680),(381,686),(388,700),(393,706),(398,712),(403,718),(410,731),(417,740),(422,746)]
def L1(P:Params):List Obj:=HD.objs (boot_heap P).objs.toList NN pw.main.body P
def H1(P:Params):Heap:=⟨⟨L1 P⟩,{}⟩
def T1(P:Params):BT:=HD.bt 12 (L1 P)
def LA(P:Params):List Obj:=HD.agg (boot_heap P).objs.toList
def HA(P:Params):Heap:=⟨⟨LA P⟩,{}⟩
def T0(P:Params):BT:=HD.bt 5 (LA P)
def env:Env:={ scope:=pw.main.scope,locals:=mainNs,globals:=mainNs,cells:=[],code:=.ref 13,frame:=some 14 }
def bE:AF:=behindTheImports pw
def cE:Code:=.body bE env
def p0:Pos:=⟨0,0,0,0⟩
def B:List Frame:=[topFrame p0]
def ann:Option AN:=some (.ref 6)
def qv:AK:={ pw with main:={ pw.main with body:=pw.main.body.filter HD.nameless } }
def as:AA:=[3,23,24,36,37,48,49,60,61,72,73,84,85,93,94,100,101,107,108,112,113,119,120,126,127,133,134,140,141,145,146,152,153,157,158,164,165,171,172,178,179,185,186,192,193,199,200,206,207,213,214,218,219,225,226,230,231,237,238,244,245,249,250,256,257,263,264,268,269,275,276,282,283,287,288,294,295,301,302,308,309,313,314,320,321,327,328,334,335,341,342,346,347,353,354,360,361,367,368,374,375,379,380,386,387,391,392,396,397,401,402,408,409,415,416,420,421]
def K(P:Params):Frag:=HD.pick 0 as (L1 P)
def Xt(s:AI):Bool:=xlAt qv [] s&&recOk (RowW.records rl.row.toRowW) s
def see{α:Type}(_:α):Bool:=true
def primed:(see T1&&see T0&&see H1&&see HA&&see cE&&see B&&see env&&see bE&&see qv&&see K&&see Xt)=true:=by k_qdec
theorem pre(w:World)(os:OsState):topGo treeTable pw w 11 ann 12 ⟨boot_heap w.params,⟨[]⟩,boot_drawn,boot_toks,os⟩ (topStub pw)=some (⟨HA w.params,⟨[]⟩,{},187,os⟩,⟨denote treeTable cE,cE,p0,B⟩):=by have _:=primed;rw[PySem.W.Fast.te15667345088766844465,PySem.W.Fast.te14364793385576792824,PySem.W.Fast.te1032975242618825031,PySem.W.Fast.te8093259214132618727,PySem.W.Fast.te1718297227530528222,PySem.W.Fast.te11892475500146522536];rfl'
theorem block(w:World)(os:OsState):segRun treeTable pw w 11 ann 1 2 ⟨HA w.params,⟨[]⟩,{},187,os⟩ (blockOf bE env cE p0 B)=some (.next,SharedT.abs ⟨T0 w.params,15,{},⟨[]⟩,{},187,os⟩,cE,p0):=by rw[PySem.W.Fast.te14374325043358763698,PySem.W.Fast.te14364793385576792824,PySem.W.Fast.te1032975242618825031,PySem.W.Fast.te8093259214132618727,PySem.W.Fast.te1718297227530528222,PySem.W.Fast.te14938417808399470215,PySem.W.Fast.te16330338443398637341,PySem.W.Fast.te10239294469119128424];rfl'
theorem piece(w:World)(os:OsState):segRunT treeTable pw w 11 ann 1 9000 ⟨T0 w.params,15,{},⟨[]⟩,{},187,os⟩ (piecesOf bE env cE p0 B)=some (.next,⟨T1 w.params,422,{},⟨[]⟩,{},746,os⟩,cE,⟨321,0,338,15⟩):=by rw[PySem.W.Fast.te10110043849684766642,PySem.W.Fast.te14364793385576792824,PySem.W.Fast.te1032975242618825031,PySem.W.Fast.te13069687644243786066,PySem.W.Fast.te14938417808399470215,PySem.W.Fast.te1718297227530528222,PySem.W.Fast.te16330338443398637341,PySem.W.Fast.te10239294469119128424];rfl'
theorem fin(w:World)(os:OsState):topRun treeTable pw w 11 ann 3 (SharedT.abs ⟨T1 w.params,422,{},⟨[]⟩,{},746,os⟩) ⟨doneF .next,cE,⟨321,0,338,15⟩,B⟩=some ⟨H1 w.params,⟨[]⟩,{},746,os⟩:=by rw[PySem.W.Fast.te14082659384304107361,PySem.W.Fast.te14364793385576792824,PySem.W.Fast.te1032975242618825031,PySem.W.Fast.te13069687644243786066,PySem.W.Fast.te1718297227530528222,PySem.W.Fast.te14158929756966004236];rfl'
def run(w:World)(os:OsState):topRun treeTable pw w 11 ann (12+(2+(9000+3))) ⟨boot_heap w.params,⟨[]⟩,boot_drawn,boot_toks,os⟩ (topStub pw)=some ⟨H1 w.params,⟨[]⟩,{},746,os⟩:=by refine go_top (pre w os) (piece_block (block w os) ?_);have h:=piece_app (rest:=[]) (segRun_of (piece w os)) (piece_nil (fin w os));rw[List.append_nil]at h;exact h
def size (w:World):((boot_heap w.params).isNs mainGlobals&&(Array.mk []:Array GenState).size==0,(boot_heap w.params).objs.size,(boot_heap w.params).nsMap mainGlobals "__annotations__")=(true,11,ann):=by rfl'
theorem agh(w:World)(os:OsState):(staticsOk (importedModules pw.main.body) (boot_heap w.params) (H1 w.params)&&namesBound pw (H1 w.params)&&gensDone ⟨H1 w.params,⟨[]⟩,{},746,os⟩&&laidKept (boot_heap w.params) (H1 w.params))=true:=by rw[PySem.W.Fast.te1032975242618825031,PySem.W.Fast.te14158929756966004236,PySem.W.Fast.te5923862056798008813];rfl'
theorem agi(w:World)(os:OsState):openSeen qv [] (importedModules pw.main.body) Xt true ⟨H1 w.params,⟨[]⟩,{},746,os⟩=openGood qv []:=by rw[PySem.W.Fast.te1032975242618825031,PySem.W.Fast.te14158929756966004236,PySem.W.Fast.te5923862056798008813,PySem.W.Fast.te3994408356199485718,PySem.W.Fast.te3154452736318265832,PySem.W.Fast.te4187177175401517315];rfl'
theorem agj(w:World):as.map (H1 w.params).get?=(K w.params).map (λp=>some p.2):=by rw[PySem.W.Fast.te14158929756966004236,PySem.W.Fast.te538113369711794958];rfl'
theorem eAs(P:Params):as=(K P).map (·.1):=by rw[PySem.W.Fast.te538113369711794958];rfl'
def hook:Hook:=kHook K as eAs
def left:LeftO pw qv [] Xt hook.obs hook.val 12000:=by refine LeftO.of_pieces (boot_open (by rfl') (!1) (λs=>by rfl')) size run (!1) λw=>funext λos=>?_;exact Prod.ext (agh w os) (Prod.ext (agi w os) (agj w))
end HK
namespace Lk37
open PySem PySem.Spec PyProof.Rows L2 RF
open PySem.W (mg_of mg_none_of)
def Z:aa:=λf=>if f="_law_anew" then uy else if f="_law_spread" then ux else if f="_law_take" then dF else if f="_law_signs" then nU else if f="_law_deeds_of" then uB else if f="_law_form" then zG else if f="_law_wider" then jc else if f="_law_within" then jc else if f="_law_form_like" then uA else if f="_law_book" then uC else if f="_law_due" then uT else if f="_law_no_order" then uW else if f="_law_open" then zH else if f="_law_order" then uQ else if f="_law_same" then fL 4 else if f="is_deed" then aM n6 else if f="is_text_of" then aM fText else if f="is_form" then aM nZ else if f="is_row" then aM n8 else if f="is_whole" then aM g8 else if f="is_width" then aM nY else if f="is_book" then aM kh else if f="need_book" then gr else if f="is_place" then aM jj else if f="is_order" then lq else if f="need_order" then fK else if f="by_order" then sBy else if f="first_order" then kZ else if f="need_movable" then il else if f="is_apart" then lu else if f="exchanged" then uM else if f="both" then aM ou else if f="first_touching" then oA else if f="splitting_place" then uE else if f="with_sign" then aM ik else if f="grown" then fH 9 else if f="least" then aM kY else if f="is_named" then aM gA else if f="leaves" then eG 9 else if f="need_two_books" then uI else if f="deed_of" then uD else if f="same_deeds" then sSD else if f="stars" then aM ji else if f="alike" then uJ else if f="parting_word" then uK else if f="is_good" then uL else if f="is_way" then lu else if f="steps_from" then uN else if f="good_ways" then sGW else if f="way" then Ac else if f="_law_told" then uR else if f="law" then nW else bI (λ_ _=>False) (λ_ _ _ _=>False)
def KJ:Z "_law_anew"=uy:=by rfl'
def KN:Z "_law_spread"=ux:=by rfl'
def eQ:Z "_law_take"=dF:=by rfl'
def Ah:Z "_law_signs"=nU:=by rfl'
def KQ:Z "_law_deeds_of"=uB:=by rfl'
def KR:Z "_law_form"=zG:=by rfl'
def KY:Z "_law_wider"=jc:=by rfl'
def KZ:Z "_law_within"=jc:=by rfl'
def K1:Z "_law_form_like"=uA:=by rfl'
def K5:Z "_law_book"=uC:=by rfl'
def K6:Z "_law_due"=uT:=by rfl'
def K7:Z "_law_no_order"=uW:=by rfl'
def K8:Z "_law_open"=zH:=by rfl'
def K9:Z "_law_order"=uQ:=by rfl'
def La:Z "_law_same"=fL 4:=by rfl'
def Lb:Z "is_deed"=aM n6:=by rfl'
def Ld:Z "is_text_of"=aM fText:=by rfl'
def Lg:Z "is_form"=aM nZ:=by rfl'
def Lh:Z "is_row"=aM n8:=by rfl'
def Ai:Z "is_whole"=aM g8:=by rfl'
def Li:Z "is_width"=aM nY:=by rfl'
def Aj:Z "is_book"=aM kh:=by rfl'
def lz:Z "need_book"=gr:=by rfl'
def Ak:Z "is_place"=aM jj:=by rfl'
def oW:Z "is_order"=lq:=by rfl'
def gD:Z "need_order"=fK:=by rfl'
def uZ:Z "by_order"=sBy:=by rfl'
def lA:Z "first_order"=kZ:=by rfl'
def jq:Z "need_movable"=il:=by rfl'
def Lj:Z "is_apart"=lu:=by rfl'
def Lk:Z "exchanged"=uM:=by rfl'
def Ln:Z "both"=aM ou:=by rfl'
def Al:Z "first_touching"=oA:=by rfl'
def Lp:Z "splitting_place"=uE:=by rfl'
def Am:Z "with_sign"=aM ik:=by rfl'
def Lq:Z "grown"=fH 9:=by rfl'
def Lr:Z "least"=aM kY:=by rfl'
def Ls:Z "is_named"=aM gA:=by rfl'
def Lw:Z "leaves"=eG 9:=by rfl'
def Lx:Z "need_two_books"=uI:=by rfl'
def Ly:Z "deed_of"=uD:=by rfl'
def Lz:Z "same_deeds"=sSD:=by rfl'
def LC:Z "stars"=aM ji:=by rfl'
def LK:Z "alike"=uJ:=by rfl'
def LQ:Z "parting_word"=uK:=by rfl'
def LR:Z "is_good"=uL:=by rfl'
def Ma:Z "is_way"=lu:=by rfl'
def Mg:Z "steps_from"=uN:=by rfl'
def An:Z "good_ways"=sGW:=by rfl'
def Mh:Z "way"=Ac:=by rfl'
def Mi:Z "_law_told"=uR:=by rfl'
def bt:List AL:=["all","bool","enumerate","int","isinstance","len","list","min","range","sorted","str","tuple","zip"]
def cn:List (AL×D):=[("LETTERS",(.str [97,98,99,100,101,102,103,104,105,106,107,108,109,110,111,112,113,114,115,116,117,118,119,120,121,122])),("LONGEST_DEED",(.int 8)),("MOST_ROWS",(.int 12)),("MOST_ROWS_MOVED",(.int 5)),("WIDEST",(.int 6)),("WIDEST_MOVED",(.int 4))]
def xs:List (AL×Bool):=[("NoBook",true),("NoMatch",true),("NoOrder",true),("TooMany",true),("NoBook",false),("NoMatch",false),("NoOrder",false),("NoRow",false),("SieveError",false),("TooMany",false),("ValueError",false)]
abbrev CK:=λN s f o b=>aC (aG N (ao s) f bt cn xs o) b (aD s)=true
abbrev BB:=λ(l:PySem.W.OpenLaw) (w:World) (mg:AH) (base:Heap) k f o=>Bse Z l.prog w (HK.K w.params) mg base (CX1 l.prog w) k f bt cn xs o
abbrev NQ:=λP (s:Str) (n:Nat)=>PySem.W.nsIn (HK.K P) mainGlobals s=some (some (.ref n))
abbrev BQ:=λP fd ps=>Binds (HK.K P) fd ps []
abbrev LN:Str:="law_starsieve_k37_orders_and_refusals"
def f0:List (AL×Nat):=[]
def f1:=("_law_anew",1)::f0
def f2:=("_law_spread",2)::f1
def f3:=("_law_take",2)::f2
def f4:=("_law_signs",3)::f3
def f5:=("_law_deeds_of",2)::f4
def f6:=("_law_form",2)::f5
def f7:=("_law_wider",2)::f6
def f8:=("_law_within",2)::f7
def f9:=("_law_form_like",3)::f8
def f10:=("_law_book",3)::f9
def f11:=("_law_due",3)::f10
def f12:=("_law_no_order",2)::f11
def f13:=("_law_open",1)::f12
def f14:=("_law_order",2)::f13
def f15:=("_law_same",2)::f14
def f16:=("is_deed",1)::f15
def f17:=("is_text_of",3)::f16
def f18:=("is_form",2)::f17
def f19:=("is_row",2)::f18
def f20:=("is_whole",1)::f19
def f21:=("is_width",1)::f20
def f22:=("is_book",1)::f21
def f23:=("need_book",1)::f22
def f24:=("is_place",2)::f23
def f25:=("is_order",2)::f24
def f26:=("need_order",2)::f25
def f27:=("by_order",2)::f26
def f28:=("first_order",1)::f27
def f29:=("need_movable",1)::f28
def f30:=("is_apart",3)::f29
def f31:=("exchanged",2)::f30
def f32:=("both",2)::f31
def f33:=("first_touching",2)::f32
def f34:=("splitting_place",2)::f33
def f35:=("with_sign",3)::f34
def f36:=("grown",3)::f35
def f37:=("least",1)::f36
def f38:=("is_named",3)::f37
def f39:=("leaves",2)::f38
def f40:=("need_two_books",2)::f39
def f41:=("deed_of",2)::f40
def f42:=("same_deeds",3)::f41
def f43:=("stars",1)::f42
def f44:=("alike",2)::f43
def f45:=("parting_word",2)::f44
def f46:=("is_good",2)::f45
def f47:=("is_way",3)::f46
def f48:=("steps_from",1)::f47
def f49:=("good_ways",2)::f48
def f50:=("way",2)::f49
def f51:=("_law_told",3)::f50
def S(i:Nat):Stmt:=HK.pw.main.body.getD i (.Pass ⟨0,0,0,0⟩)
def oX:Stmt:=S 56
def agk:fnB ["pen"] ["pen"] (ao oX)=true:=by ac_rfl
def agl:CK ["pen"] oX f0 {} yW:=by ac_rfl
def oY:Stmt:=S 54
def agm:fnB ["cell","at","one","two","three"] ["cell","at"] (ao oY)=true:=by ac_rfl
def agn:CK ["cell","at","one","two","three"] oY f1 {} yX:=by ac_rfl
def oZ:Stmt:=S 57
def ago:fnB ["pen","many","at","cell","found"] ["pen","many"] (ao oZ)=true:=by ac_rfl
def agp:CK ["pen","many","at","cell","found"] oZ f2 {} yZ:=by ac_rfl
def o9:Stmt:=S 58
def agq:fnB ["pen","width","signs"] ["pen","width","signs"] (ao o9)=true:=by ac_rfl
def agr:CK ["pen","width","signs"] o9 f3 {} za:=by ac_rfl
def ph:Stmt:=S 63
def ags:fnB ["pen","most","some","turn","found","letters"] ["pen","most"] (ao ph)=true:=by ac_rfl
def agt:CK ["pen","most","some","turn","found","letters"] ph f4 {} zb:=by ac_rfl
def pA:Stmt:=S 59
def agu:fnB ["pen","width"] ["pen","width"] (ao pA)=true:=by ac_rfl
def agv:CK ["pen","width"] pA f5 {} zc:=by ac_rfl
def pB:Stmt:=S 61
def agw:fnB ["pen","form","found","sign"] ["pen","form"] (ao pB)=true:=by ac_rfl
def agx:CK ["pen","form","found","sign"] pB f6 {} zf:=by ac_rfl
def pC:Stmt:=S 60
def agy:fnB ["pen","form","found","sign"] ["pen","form"] (ao pC)=true:=by ac_rfl
def agz:CK ["pen","form","found","sign"] pC f7 {} zg:=by ac_rfl
def pF:Stmt:=S 62
def agA:fnB ["pen","width","forms","kind","form","at"] ["pen","width","forms"] (ao pF)=true:=by ac_rfl
def agB:CK ["pen","width","forms","kind","form","at"] pF f8 {} zj:=by ac_rfl
def pG:Stmt:=S 64
def agC:fnB ["pen","widest","most","width","deeds","forms","rows","k"] ["pen","widest","most"] (ao pG)=true:=by ac_rfl
def agD:CK ["pen","widest","most","width","deeds","forms","rows","k"] pG f9 {} zm:=by ac_rfl
def pH:Stmt:=S 69
def agE:fnB ["way_here","book","is_right"] ["way_here","book","is_right"] (ao pH)=true:=by ac_rfl
def agF:CK ["way_here","book","is_right"] pH f10 {} zu:=by ac_rfl
def pI:Stmt:=S 67
def agG:fnB ["pen","order","some"] ["pen","order"] (ao pI)=true:=by ac_rfl
def agH:CK ["pen","order","some"] pI f11 {} zx:=by ac_rfl
def pJ:Stmt:=S 55
def agI:fnB ["script","cells","k","cell"] ["script"] (ao pJ)=true:=by ac_rfl
def agJ:CK ["script","cells","k","cell"] pJ f12 {} zy:=by ac_rfl
def pK:Stmt:=S 66
def agK:fnB ["pen","many","left"] ["pen","many"] (ao pK)=true:=by ac_rfl
def agL:CK ["pen","many","left"] pK f13 {} zA:=by ac_rfl
def pL:Stmt:=S 65
def agM:fnB ["found","due"] ["found","due"] (ao pL)=true:=by ac_rfl
def agN:CK ["found","due"] pL f15 {} mZ:=by ac_rfl
def pM:Stmt:=S 21
def agO:fnB ["thing"] ["thing"] (ao pM)=true:=by ac_rfl
def agP:CK ["thing"] pM f15 {} j4:=by ac_rfl
def pN:Stmt:=S 12
def agQ:fnB ["signs","width","thing"] ["signs","width","thing"] (ao pN)=true:=by ac_rfl
def agR:CK ["signs","width","thing"] pN f16 {} j5:=by ac_rfl
def pO:Stmt:=S 13
def agS:fnB ["width","thing"] ["width","thing"] (ao pO)=true:=by ac_rfl
def agT:CK ["width","thing"] pO f17 {} m5:=by ac_rfl
def pP:Stmt:=S 22
def agU:fnB ["width","thing"] ["width","thing"] (ao pP)=true:=by ac_rfl
def agV:CK ["width","thing"] pP f18 {} gm:=by ac_rfl
def pQ:Stmt:=S 9
def agW:fnB ["thing"] ["thing"] (ao pQ)=true:=by ac_rfl
def agX:CK ["thing"] pQ f19 {} m6:=by ac_rfl
def pR:Stmt:=S 10
def agY:fnB ["thing"] ["thing"] (ao pR)=true:=by ac_rfl
def agZ:CK ["thing"] pR f20 {} m7:=by ac_rfl
def pU:Stmt:=S 23
def ag0:fnB ["thing","width","rows"] ["thing"] (ao pU)=true:=by ac_rfl
def ag1:CK ["thing","width","rows"] pU f21 {} gn:=by ac_rfl
def pW:Stmt:=S 24
def ag2:fnB ["book"] ["book"] (ao pW)=true:=by ac_rfl
def ag3:CK ["book"] pW f22 {} iV:=by ac_rfl
def pX:Stmt:=S 11
def ag4:fnB ["many","thing"] ["many","thing"] (ao pX)=true:=by ac_rfl
def ag5:CK ["many","thing"] pX f23 {} m8:=by ac_rfl
def pY:Stmt:=S 42
def ag6:fnB ["book","thing","many"] ["book","thing"] (ao pY)=true:=by ac_rfl
def ag7:CK ["book","thing","many"] pY f24 {} fB:=by ac_rfl
def pZ:Stmt:=S 43
def ag8:fnB ["book","order"] ["book","order"] (ao pZ)=true:=by ac_rfl
def ag9:CK ["book","order"] pZ f25 {} iW:=by ac_rfl
def p6:Stmt:=S 45
def aha:fnB ["book","order","width","rows"] ["book","order"] (ao p6)=true:=by ac_rfl
def ahb:CK ["book","order","width","rows"] p6 f26 {} gY:=by ac_rfl
def p7:Stmt:=S 41
def ahc:fnB ["book"] ["book"] (ao p7)=true:=by ac_rfl
def ahd:CK ["book"] p7 f27 {} m9:=by ac_rfl
def p8:Stmt:=S 44
def ahe:fnB ["book","width","rows"] ["book"] (ao p8)=true:=by ac_rfl
def ahf:CK ["book","width","rows"] p8 f28 {} gZ:=by ac_rfl
def qb:Stmt:=S 52
def ahg:fnB ["book","order","orders","standing","reached"] ["book","order","orders"] (ao qb)=true:=by ac_rfl
def ahh:CK ["book","order","orders","standing","reached"] qb f29 {} j6:=by ac_rfl
def qe:Stmt:=S 46
def ahi:fnB ["things","place"] ["things","place"] (ao qe)=true:=by ac_rfl
def ahj:CK ["things","place"] qe f30 {} ni:=by ac_rfl
def qg:Stmt:=S 15
def ahk:fnB ["form","other","shared","one","two"] ["form","other"] (ao qg)=true:=by ac_rfl
def ahl:CK ["form","other","shared","one","two"] qg f31 {} nq:=by ac_rfl
def qi:Stmt:=S 31
def ahm:fnB ["rows","box","number","row"] ["rows","box"] (ao qi)=true:=by ac_rfl
def ahn:CK ["rows","box","number","row"] qi f32 {} nu:=by ac_rfl
def qj:Stmt:=S 32
def aho:fnB ["rows","box","number","at","sign"] ["rows","box"] (ao qj)=true:=by ac_rfl
def ahp:CK ["rows","box","number","at","sign"] qj f33 {} nA:=by ac_rfl
def ql:Stmt:=S 14
def ahq:fnB ["form","at","sign"] ["form","at","sign"] (ao ql)=true:=by ac_rfl
def ahr:CK ["form","at","sign"] ql f34 {} nF:=by ac_rfl
def qm:Stmt:=S 33
def ahs:fnB ["name","many_rows","box","rows","at","zero","one"] ["name","many_rows","box"] (ao qm)=true:=by ac_rfl
def aht:CK ["name","many_rows","box","rows","at","zero","one"] qm f36 {} j7:=by ac_rfl
def qp:Stmt:=S 16
def qt:Stmt:=S 29
def ahu:fnB ["name","many","thing"] ["name","many","thing"] (ao qt)=true:=by ac_rfl
def ahv:CK ["name","many","thing"] qt f37 {} nG:=by ac_rfl
def qu:Stmt:=S 30
def ahw:fnB ["box","tree","at","zero","one"] ["box","tree"] (ao qu)=true:=by ac_rfl
def ahx:CK ["box","tree","at","zero","one"] qu f39 {} iY:=by ac_rfl
def qw:Stmt:=S 25
def ahy:fnB ["one","other"] ["one","other"] (ao qw)=true:=by ac_rfl
def ahz:CK ["one","other"] qw f39 {} nH:=by ac_rfl
def qx:Stmt:=S 26
def ahA:fnB ["book","number"] ["book","number"] (ao qx)=true:=by ac_rfl
def ahB:CK ["book","number"] qx f40 {} j8:=by ac_rfl
def qy:Stmt:=S 35
def ahC:fnB ["one","other","leaf"] ["one","other","leaf"] (ao qy)=true:=by ac_rfl
def ahD:CK ["one","other","leaf"] qy f41 {} nJ:=by ac_rfl
def qz:Stmt:=S 28
def ahE:fnB ["width"] ["width"] (ao qz)=true:=by ac_rfl
def ahF:CK ["width"] qz f42 {} nM:=by ac_rfl
def qC:Stmt:=S 36
def ahG:fnB ["one","other","box","tree","parting"] ["one","other"] (ao qC)=true:=by ac_rfl
def ahH:CK ["one","other","box","tree","parting"] qC f43 {} nO:=by ac_rfl
def qD:Stmt:=S 37
def ahI:fnB ["one","other","name","shown"] ["one","other"] (ao qD)=true:=by ac_rfl
def ahJ:CK ["one","other","name","shown"] qD f44 {} nP:=by ac_rfl
def qF:Stmt:=S 47
def ahK:fnB ["book","order"] ["book","order"] (ao qF)=true:=by ac_rfl
def ahL:CK ["book","order"] qF f45 {} nQ:=by ac_rfl
def qG:Stmt:=S 51
def ahM:fnB ["book","order","steps","here","place"] ["book","order","steps"] (ao qG)=true:=by ac_rfl
def ahN:CK ["book","order","steps","here","place"] qG f46 {} j9:=by ac_rfl
def qH:Stmt:=S 48
def ahO:fnB ["order"] ["order"] (ao qH)=true:=by ac_rfl
def ahP:CK ["order"] qH f47 {} nR:=by ac_rfl
def qI:Stmt:=S 49
def ahQ:fnB ["book","order","ways","bad","newest","further","here","place","there"] ["book","order"] (ao qI)=true:=by ac_rfl
def ahR:CK ["book","order","ways","bad","newest","further","here","place","there"] qI f48 {} nT:=by ac_rfl
def qJ:Stmt:=S 50
def ahS:fnB ["book","order","ways"] ["book","order"] (ao qJ)=true:=by ac_rfl
def ahT:CK ["book","order","ways"] qJ f49 {} iZ:=by ac_rfl
def qK:Stmt:=S 68
def ahU:fnB ["way_here","book","order","caught","e","some","others"] ["way_here","book","order"] (ao qK)=true:=by ac_rfl
def ahV:CK ["way_here","book","order","caught","e","some","others"] qK f50 {} zB:=by ac_rfl
def qL:Stmt:=S 70
def ahW:fnB ["script","pen","turn","book","order","due","bad","none","way_here"] ["script"] (ao qL)=true:=by ac_rfl
def ahX:CK ["script","pen","turn","book","order","due","bad","none","way_here"] qL f51 {} zE:=by ac_rfl
def Mj:(⇑"0":Str)=tx [48]:=by ac_rfl
def ahY:(⇑"*":Str)=tx [42]:=by ac_rfl
def ahZ:FnScope ["form"] ["form"] (ao qp):=⟨rfl,rfl,rfl,by ac_rfl,rfl,by ac_rfl,by ac_rfl⟩
def ah0:Sp:=λvs H Q _=>∃l:AA,vs=[.str (tx l)]/\l.length<=1000/\Q (.str (tx (cI l))) H
def ah1 {P:AK} {w:World} {K:PF} {mg:AH} {base:Heap} {f:AQ} {fd:AJ} (F:Fun K "least" "least" qp f fd):FnOk P w K mg base CX0 1 f fd ["form"] ah0:=by
 refine F.ok1 ahZ rfl (by ac_rfl) (λ_=>rfl) (λvs H Q E h=>?_) (λcdv A outer s H vs Q E hr h=>?_)
 .obtain ⟨l,rfl,_⟩:=h;rfl
 .obtain ⟨l,rfl,hl,q⟩:=h;refine ⟨_,Uo (Uq (pv 0) (by ac_rfl)),?_⟩;refine ⟨_,rfl,_,rfl,?_,?_⟩
  .rw[Mj,bV,bV];simp;omega
  .rw[ahY,Mj,Up];exact q
def ah2 {P:AK} {w:World} {K:PF} {mg:AH} {base:Heap} {f:AQ} {fd:AJ} (F:Fun K "least" "least" qp f fd):FnOk P w K mg base CX0 1 f fd ["form"] (lift K 1 (aM kY)):=by
 refine (ah1 F).imp λvs H Q E h=>?_;obtain ⟨e0,Fz,G,ds,r,t,⟨ds',G'⟩,⟨e1,e2⟩,e3,e4⟩:=h;cases e1;obtain ⟨d,hd⟩:=Option.isSome_iff_exists.mp e2;have hd2:=hd;unfold kY at hd;split at hd
 .rename_i l;split at hd
  .rename_i hl;cases hd;obtain ⟨v,rfl,rv⟩:=bD t;obtain ⟨rfl,_⟩:=rv;have hl':l.length<=1000:=of_decide_eq_true hl;exact ⟨l,rfl,hl',(e3 _ _ ⟨rfl,hd2⟩).now r ⟨rfl,by unfold cI;rw[List.length_map];exact Nat.le_trans hl' (!1)⟩⟩
  .cases hd
 .cases hd
def fdM(n:Str)(st:Stmt)(m:Str)(t c:Nat):AJ:=PySem.W.fnOf n n (lH st) (aD st) (ao st) .none .none .none (.str m t) none (.ref c) .none
def mkF {K:PF} {n m:Str} {st:Stmt} {a t c:Nat}(l:K.lookup a=some ⟨.type "function",none,.func (fdM n st m t c),⟨[]⟩⟩:=by rfl')(h1:PySem.W.codeIn K (.ref c) n=true:=by eq_refl)(h2:PySem.W.keepIn K (.ref a)=true:=by eq_refl):Fun K n n st a (fdM n st m t c):=Ud l h1 h2
theorem tK:type_of% @PySem.W.Fast.te538113369711794958:=PySem.W.Fast.te538113369711794958
local macro_rules|`(tactic|ac_nf)=>`(tactic|(intro _ _ _ _ _ _ us hl;first|(obtain ⟨_,h⟩:=dB hl;subst h;rfl)|(obtain ⟨_,_,h⟩:=bC hl;subst h;rfl)|(obtain ⟨_,_,_,h⟩:=dU hl;subst h;rfl)))
local macro_rules|`(tactic|eq_refl)=>`(tactic|(first|rw[tK]|(unfold NQ;rw[tK]));rfl')
section
variable {P:Params}
def Ml:AJ:=fdM "_law_anew" oX LN 593 334
theorem Mm:Fun (HK.K P) "_law_anew" "_law_anew" oX 335 Ml:=mkF
theorem ah3:NQ P "_law_anew" 335:=by eq_refl
theorem ah4:BQ P Ml ["pen"]:=Mm.binds (by ac_nf)
def Mp:AJ:=fdM "_law_spread" oY LN 593 320
theorem Mq:Fun (HK.K P) "_law_spread" "_law_spread" oY 321 Mp:=mkF
theorem ah5:NQ P "_law_spread" 321:=by eq_refl
theorem ah6:BQ P Mp ["cell","at"]:=Mq.binds (by ac_nf)
def Mr:AJ:=fdM "_law_take" oZ LN 593 341
theorem Ms:Fun (HK.K P) "_law_take" "_law_take" oZ 342 Mr:=mkF
theorem ah7:NQ P "_law_take" 342:=by eq_refl
theorem ah8:BQ P Mr ["pen","many"]:=Ms.binds (by ac_nf)
def Mt:AJ:=fdM "_law_signs" o9 LN 593 346
theorem Mu:Fun (HK.K P) "_law_signs" "_law_signs" o9 347 Mt:=mkF
theorem ah9:NQ P "_law_signs" 347:=by eq_refl
theorem aia:BQ P Mt ["pen","width","signs"]:=Mu.binds (by ac_nf)
def Mv:AJ:=fdM "_law_deeds_of" ph LN 593 379
theorem Mw:Fun (HK.K P) "_law_deeds_of" "_law_deeds_of" ph 380 Mv:=mkF
theorem aib:NQ P "_law_deeds_of" 380:=by eq_refl
theorem aic:BQ P Mv ["pen","most"]:=Mw.binds (by ac_nf)
def Mx:AJ:=fdM "_law_form" pA LN 593 353
theorem My:Fun (HK.K P) "_law_form" "_law_form" pA 354 Mx:=mkF
theorem aid:NQ P "_law_form" 354:=by eq_refl
theorem aie:BQ P Mx ["pen","width"]:=My.binds (by ac_nf)
def Mz:AJ:=fdM "_law_wider" pB LN 593 367
theorem MF:Fun (HK.K P) "_law_wider" "_law_wider" pB 368 Mz:=mkF
theorem aif:NQ P "_law_wider" 368:=by eq_refl
theorem aig:BQ P Mz ["pen","form"]:=MF.binds (by ac_nf)
def MJ:AJ:=fdM "_law_within" pC LN 593 360
theorem MK:Fun (HK.K P) "_law_within" "_law_within" pC 361 MJ:=mkF
theorem aih:NQ P "_law_within" 361:=by eq_refl
theorem aii:BQ P MJ ["pen","form"]:=MK.binds (by ac_nf)
def MN:AJ:=fdM "_law_form_like" pF LN 593 374
theorem MP:Fun (HK.K P) "_law_form_like" "_law_form_like" pF 375 MN:=mkF
theorem aij:NQ P "_law_form_like" 375:=by eq_refl
theorem aik:BQ P MN ["pen","width","forms"]:=MP.binds (by ac_nf)
def MT:AJ:=fdM "_law_book" pG LN 593 386
theorem M3:Fun (HK.K P) "_law_book" "_law_book" pG 387 MT:=mkF
theorem ail:NQ P "_law_book" 387:=by eq_refl
theorem aim:BQ P MT ["pen","widest","most"]:=M3.binds (by ac_nf)
def M4:AJ:=fdM "_law_due" pH LN 593 415
theorem M5:Fun (HK.K P) "_law_due" "_law_due" pH 416 M4:=mkF
theorem ain:NQ P "_law_due" 416:=by eq_refl
theorem aio:BQ P M4 ["way_here","book","is_right"]:=M5.binds (by ac_nf)
def M6:AJ:=fdM "_law_no_order" pI LN 593 401
theorem M7:Fun (HK.K P) "_law_no_order" "_law_no_order" pI 402 M6:=mkF
theorem aip:NQ P "_law_no_order" 402:=by eq_refl
theorem aiq:BQ P M6 ["pen","order"]:=M7.binds (by ac_nf)
def M8:AJ:=fdM "_law_open" pJ LN 593 327
theorem M9:Fun (HK.K P) "_law_open" "_law_open" pJ 328 M8:=mkF
theorem air:NQ P "_law_open" 328:=by eq_refl
theorem ais:BQ P M8 ["script"]:=M9.binds (by ac_nf)
def Nb:AJ:=fdM "_law_order" pK LN 593 396
theorem Nf:Fun (HK.K P) "_law_order" "_law_order" pK 397 Nb:=mkF
theorem ait:NQ P "_law_order" 397:=by eq_refl
theorem aiu:BQ P Nb ["pen","many"]:=Nf.binds (by ac_nf)
def Ao:AJ:=fdM "_law_same" pL LN 593 391
theorem u5:Fun (HK.K P) "_law_same" "_law_same" pL 392 Ao:=mkF
theorem Ng:NQ P "_law_same" 392:=by eq_refl
theorem Nh:BQ P Ao ["found","due"]:=u5.binds (by ac_nf)
def Ni:AJ:=fdM "is_deed" pM "starsieve.books" 354 145
theorem Nj:Fun (HK.K P) "is_deed" "is_deed" pM 146 Ni:=mkF
theorem aiv:NQ P "is_deed" 146:=by eq_refl
theorem j4:BQ P Ni ["thing"]:=Nj.binds (by ac_nf)
def Nk:AJ:=fdM "is_text_of" pN "starsieve.forms" 287 112
theorem Nm:Fun (HK.K P) "is_text_of" "is_text_of" pN 113 Nk:=mkF
theorem aiw:NQ P "is_text_of" 113:=by eq_refl
theorem j5:BQ P Nk ["signs","width","thing"]:=Nm.binds (by ac_nf)
def Np:AJ:=fdM "is_form" pO "starsieve.forms" 287 119
theorem Nq:Fun (HK.K P) "is_form" "is_form" pO 120 Np:=mkF
theorem aix:NQ P "is_form" 120:=by eq_refl
theorem m5:BQ P Np ["width","thing"]:=Nq.binds (by ac_nf)
def Nr:AJ:=fdM "is_row" pP "starsieve.books" 354 152
theorem Nt:Fun (HK.K P) "is_row" "is_row" pP 153 Nr:=mkF
theorem aiy:NQ P "is_row" 153:=by eq_refl
theorem gm:BQ P Nr ["width","thing"]:=Nt.binds (by ac_nf)
def Nu:AJ:=fdM "is_whole" pQ "starsieve.forms" 287 93
theorem Nv:Fun (HK.K P) "is_whole" "is_whole" pQ 94 Nu:=mkF
theorem aiz:NQ P "is_whole" 94:=by eq_refl
theorem m6:BQ P Nu ["thing"]:=Nv.binds (by ac_nf)
def Nx:AJ:=fdM "is_width" pR "starsieve.forms" 287 100
theorem Ny:Fun (HK.K P) "is_width" "is_width" pR 101 Nx:=mkF
theorem aiA:NQ P "is_width" 101:=by eq_refl
theorem m7:BQ P Nx ["thing"]:=Ny.binds (by ac_nf)
def Nz:AJ:=fdM "is_book" pU "starsieve.books" 354 157
theorem NB:Fun (HK.K P) "is_book" "is_book" pU 158 Nz:=mkF
theorem aiB:NQ P "is_book" 158:=by eq_refl
theorem gn:BQ P Nz ["thing"]:=NB.binds (by ac_nf)
def NK:AJ:=fdM "need_book" pW "starsieve.books" 354 164
theorem NT:Fun (HK.K P) "need_book" "need_book" pW 165 NK:=mkF
theorem aiC:NQ P "need_book" 165:=by eq_refl
theorem iV:BQ P NK ["book"]:=NT.binds (by ac_nf)
def NZ:AJ:=fdM "is_place" pX "starsieve.forms" 287 107
theorem N5:Fun (HK.K P) "is_place" "is_place" pX 108 NZ:=mkF
theorem aiD:NQ P "is_place" 108:=by eq_refl
theorem m8:BQ P NZ ["many","thing"]:=N5.binds (by ac_nf)
def N6:AJ:=fdM "is_order" pY "starsieve.moves" 488 249
theorem N7:Fun (HK.K P) "is_order" "is_order" pY 250 N6:=mkF
theorem aiE:NQ P "is_order" 250:=by eq_refl
theorem fB:BQ P N6 ["book","thing"]:=N7.binds (by ac_nf)
def N8:AJ:=fdM "need_order" pZ "starsieve.moves" 488 256
theorem Oa:Fun (HK.K P) "need_order" "need_order" pZ 257 N8:=mkF
theorem aiF:NQ P "need_order" 257:=by eq_refl
theorem iW:BQ P N8 ["book","order"]:=Oa.binds (by ac_nf)
def Ob:AJ:=fdM "by_order" p6 "starsieve.moves" 488 268
theorem Oc:Fun (HK.K P) "by_order" "by_order" p6 269 Ob:=mkF
theorem aiG:NQ P "by_order" 269:=by eq_refl
theorem gY:BQ P Ob ["book","order"]:=Oc.binds (by ac_nf)
def Od:AJ:=fdM "first_order" p7 "starsieve.moves" 488 244
theorem Oe:Fun (HK.K P) "first_order" "first_order" p7 245 Od:=mkF
theorem aiH:NQ P "first_order" 245:=by eq_refl
theorem m9:BQ P Od ["book"]:=Oe.binds (by ac_nf)
def Og:AJ:=fdM "need_movable" p8 "starsieve.moves" 488 263
theorem Oh:Fun (HK.K P) "need_movable" "need_movable" p8 264 Og:=mkF
theorem aiI:NQ P "need_movable" 264:=by eq_refl
theorem gZ:BQ P Og ["book"]:=Oh.binds (by ac_nf)
def Oi:AJ:=fdM "is_apart" qb "starsieve.moves" 488 313
theorem Oj:Fun (HK.K P) "is_apart" "is_apart" qb 314 Oi:=mkF
theorem aiJ:NQ P "is_apart" 314:=by eq_refl
theorem j6:BQ P Oi ["book","order","orders"]:=Oj.binds (by ac_nf)
def Ol:AJ:=fdM "exchanged" qe "starsieve.moves" 488 275
theorem Om:Fun (HK.K P) "exchanged" "exchanged" qe 276 Ol:=mkF
theorem aiK:NQ P "exchanged" 276:=by eq_refl
theorem ni:BQ P Ol ["things","place"]:=Om.binds (by ac_nf)
def Oo:AJ:=fdM "both" qg "starsieve.forms" 287 133
theorem Oq:Fun (HK.K P) "both" "both" qg 134 Oo:=mkF
theorem aiL:NQ P "both" 134:=by eq_refl
theorem nq:BQ P Oo ["form","other"]:=Oq.binds (by ac_nf)
def Ot:AJ:=fdM "first_touching" qi "starsieve.laid" 405 206
theorem Ou:Fun (HK.K P) "first_touching" "first_touching" qi 207 Ot:=mkF
theorem aiM:NQ P "first_touching" 207:=by eq_refl
theorem nu:BQ P Ot ["rows","box"]:=Ou.binds (by ac_nf)
def Ov:AJ:=fdM "splitting_place" qj "starsieve.laid" 405 213
theorem Ow:Fun (HK.K P) "splitting_place" "splitting_place" qj 214 Ov:=mkF
theorem aiN:NQ P "splitting_place" 214:=by eq_refl
theorem nA:BQ P Ov ["rows","box"]:=Ow.binds (by ac_nf)
def Oz:AJ:=fdM "with_sign" ql "starsieve.forms" 287 126
theorem OD:Fun (HK.K P) "with_sign" "with_sign" ql 127 Oz:=mkF
theorem aiO:NQ P "with_sign" 127:=by eq_refl
theorem nF:BQ P Oz ["form","at","sign"]:=OD.binds (by ac_nf)
def Aq:AJ:=fdM "grown" qm "starsieve.laid" 405 218
theorem u6:Fun (HK.K P) "grown" "grown" qm 219 Aq:=mkF
theorem OJ:NQ P "grown" 219:=by eq_refl
theorem j7:BQ P Aq ["name","many_rows","box"]:=u6.binds (by ac_nf)
def O1:AJ:=fdM "least" qp "starsieve.forms" 287 140
theorem Ar:Fun (HK.K P) "least" "least" qp 141 O1:=mkF
theorem aiP:NQ P "least" 141:=by eq_refl
theorem aiQ:BQ P O1 ["form"]:=Ar.binds (by ac_nf)
def O2:AJ:=fdM "is_named" qt "starsieve.laid" 405 192
theorem O3:Fun (HK.K P) "is_named" "is_named" qt 193 O2:=mkF
theorem aiR:NQ P "is_named" 193:=by eq_refl
theorem nG:BQ P O2 ["name","many","thing"]:=O3.binds (by ac_nf)
def Av:AJ:=fdM "leaves" qu "starsieve.laid" 405 199
theorem u9:Fun (HK.K P) "leaves" "leaves" qu 200 Av:=mkF
theorem O4:NQ P "leaves" 200:=by eq_refl
theorem iY:BQ P Av ["box","tree"]:=u9.binds (by ac_nf)
def O5:AJ:=fdM "need_two_books" qw "starsieve.books" 354 171
theorem O6:Fun (HK.K P) "need_two_books" "need_two_books" qw 172 O5:=mkF
theorem aiS:NQ P "need_two_books" 172:=by eq_refl
theorem nH:BQ P O5 ["one","other"]:=O6.binds (by ac_nf)
def O7:AJ:=fdM "deed_of" qx "starsieve.books" 354 178
theorem O8:Fun (HK.K P) "deed_of" "deed_of" qx 179 O7:=mkF
theorem aiT:NQ P "deed_of" 179:=by eq_refl
theorem j8:BQ P O7 ["book","number"]:=O8.binds (by ac_nf)
def O9:AJ:=fdM "same_deeds" qy "starsieve.alike" 461 225
theorem Pa:Fun (HK.K P) "same_deeds" "same_deeds" qy 226 O9:=mkF
theorem aiU:NQ P "same_deeds" 226:=by eq_refl
theorem nJ:BQ P O9 ["one","other","leaf"]:=Pa.binds (by ac_nf)
def Pb:AJ:=fdM "stars" qz "starsieve.laid" 405 185
theorem Pg:Fun (HK.K P) "stars" "stars" qz 186 Pb:=mkF
theorem aiV:NQ P "stars" 186:=by eq_refl
theorem nM:BQ P Pb ["width"]:=Pg.binds (by ac_nf)
def Ph:AJ:=fdM "alike" qC "starsieve.alike" 461 230
theorem Pj:Fun (HK.K P) "alike" "alike" qC 231 Ph:=mkF
theorem aiW:NQ P "alike" 231:=by eq_refl
theorem nO:BQ P Ph ["one","other"]:=Pj.binds (by ac_nf)
def Pk:AJ:=fdM "parting_word" qD "starsieve.alike" 461 237
theorem Pn:Fun (HK.K P) "parting_word" "parting_word" qD 238 Pk:=mkF
theorem aiX:NQ P "parting_word" 238:=by eq_refl
theorem nP:BQ P Pk ["one","other"]:=Pn.binds (by ac_nf)
def Pq:AJ:=fdM "is_good" qF "starsieve.moves" 488 282
theorem Pr:Fun (HK.K P) "is_good" "is_good" qF 283 Pq:=mkF
theorem aiY:NQ P "is_good" 283:=by eq_refl
theorem nQ:BQ P Pq ["book","order"]:=Pr.binds (by ac_nf)
def Pu:AJ:=fdM "is_way" qG "starsieve.moves" 488 308
theorem Px:Fun (HK.K P) "is_way" "is_way" qG 309 Pu:=mkF
theorem aiZ:NQ P "is_way" 309:=by eq_refl
theorem j9:BQ P Pu ["book","order","steps"]:=Px.binds (by ac_nf)
def Py:AJ:=fdM "steps_from" qH "starsieve.moves" 488 287
theorem Pz:Fun (HK.K P) "steps_from" "steps_from" qH 288 Py:=mkF
theorem ai0:NQ P "steps_from" 288:=by eq_refl
theorem nR:BQ P Py ["order"]:=Pz.binds (by ac_nf)
def PK:AJ:=fdM "good_ways" qI "starsieve.moves" 488 294
theorem PL:Fun (HK.K P) "good_ways" "good_ways" qI 295 PK:=mkF
theorem ai1:NQ P "good_ways" 295:=by eq_refl
theorem nT:BQ P PK ["book","order"]:=PL.binds (by ac_nf)
def PN:AJ:=fdM "way" qJ "starsieve.moves" 488 301
theorem PP:Fun (HK.K P) "way" "way" qJ 302 PN:=mkF
theorem ai2:NQ P "way" 302:=by eq_refl
theorem iZ:BQ P PN ["book","order"]:=PP.binds (by ac_nf)
def PQ:AJ:=fdM "_law_told" qK LN 593 408
theorem P0:Fun (HK.K P) "_law_told" "_law_told" qK 409 PQ:=mkF
theorem ai3:NQ P "_law_told" 409:=by eq_refl
theorem ai4:BQ P PQ ["way_here","book","order"]:=P0.binds (by ac_nf)
def Aw:AJ:=fdM "law" qL LN 593 420
theorem ai5:Fun (HK.K P) "law" "law" qL 421 Aw:=mkF
theorem ai6:NQ P "law" 421:=by eq_refl
theorem ai7:PySem.W.nsIn (HK.K P) mainGlobals "all"=some none:=by eq_refl
theorem ai8:PySem.W.nsIn (HK.K P) mainGlobals "bool"=some none:=by eq_refl
theorem ai9:PySem.W.nsIn (HK.K P) mainGlobals "enumerate"=some none:=by eq_refl
theorem aja:PySem.W.nsIn (HK.K P) mainGlobals "int"=some none:=by eq_refl
theorem ajb:PySem.W.nsIn (HK.K P) mainGlobals "isinstance"=some none:=by eq_refl
theorem ajc:PySem.W.nsIn (HK.K P) mainGlobals "len"=some none:=by eq_refl
theorem ajd:PySem.W.nsIn (HK.K P) mainGlobals "list"=some none:=by eq_refl
theorem aje:PySem.W.nsIn (HK.K P) mainGlobals "min"=some none:=by eq_refl
theorem ajf:PySem.W.nsIn (HK.K P) mainGlobals "range"=some none:=by eq_refl
theorem ajg:PySem.W.nsIn (HK.K P) mainGlobals "sorted"=some none:=by eq_refl
theorem ajh:PySem.W.nsIn (HK.K P) mainGlobals "str"=some none:=by eq_refl
theorem aji:PySem.W.nsIn (HK.K P) mainGlobals "tuple"=some none:=by eq_refl
theorem ajj:PySem.W.nsIn (HK.K P) mainGlobals "zip"=some none:=by eq_refl
theorem ajk:PySem.W.nsIn (HK.K P) mainGlobals "LETTERS"=some (some (.str "abcdefghijklmnopqrstuvwxyz" 360)):=by eq_refl
theorem ajl:PySem.W.nsIn (HK.K P) mainGlobals "LONGEST_DEED"=some (some (.int 8 358)):=by eq_refl
theorem ajm:PySem.W.nsIn (HK.K P) mainGlobals "MOST_ROWS"=some (some (.int 12 356)):=by eq_refl
theorem ajn:PySem.W.nsIn (HK.K P) mainGlobals "MOST_ROWS_MOVED"=some (some (.int 5 490)):=by eq_refl
theorem ajo:PySem.W.nsIn (HK.K P) mainGlobals "WIDEST"=some (some (.int 6 289)):=by eq_refl
theorem ajp:PySem.W.nsIn (HK.K P) mainGlobals "WIDEST_MOVED"=some (some (.int 4 492)):=by eq_refl
theorem x_s:xsB (HK.K P) xs=true:=by eq_refl
end
section
variable {l:PySem.W.OpenLaw} {w:World} {h:Heap} {mg:AH} {base:Heap} (X:(HK.K w.params).In h) (G:h.Ns mainGlobals mg)
include X G
theorem B0:BB l w mg base 0 f0 {}:=bse trivial ⟨mg_none_of X G ai7,mg_none_of X G ai8,mg_none_of X G ai9,mg_none_of X G aja,mg_none_of X G ajb,mg_none_of X G ajc,mg_none_of X G ajd,mg_none_of X G aje,mg_none_of X G ajf,mg_none_of X G ajg,mg_none_of X G ajh,mg_none_of X G aji,mg_none_of X G ajj,trivial⟩ ⟨adG (mg_of X G ajk) (by ac_rfl) (!1),mY (mg_of X G ajl),mY (mg_of X G ajm),mY (mg_of X G ajn),mY (mg_of X G ajo),mY (mg_of X G ajp),trivial⟩ X G x_s
theorem B1:BB l w mg base 1 f1 {}:=(B0 X G).step Mm ah4 (mg_of X G ah3) KJ 0 agk agl rfl rfl (bZ (λds G h=>adK Z  ds G h))
theorem B2:BB l w mg base 2 f2 {}:=(B1 X G).step Mq ah6 (mg_of X G ah5) KN 3 agm agn rfl rfl (bZ (λds G h=>adJ Z  ds G h))
theorem B3:BB l w mg base 3 f3 {}:=(B2 X G).step Ms ah8 (mg_of X G ah7) eQ 3 ago agp rfl rfl (bZ (λds G h=>adL Z KN ds G h))
theorem B4:BB l w mg base 4 f4 {}:=(B3 X G).step Mu aia (mg_of X G ah9) Ah 0 agq agr rfl rfl (bZ (λds G h=>adO Z eQ ds G h))
theorem B5:BB l w mg base 5 f5 {}:=(B4 X G).step Mw aic (mg_of X G aib) KQ 4 ags agt rfl rfl (bZ (λds G h=>aea Z eQ Ah ds G h))
theorem B6:BB l w mg base 6 f6 {}:=(B5 X G).step My aie (mg_of X G aid) KR 0 agu agv rfl rfl (bZ (λds G h=>adP Z eQ Ah ds G h))
theorem B7:BB l w mg base 7 f7 {}:=(B6 X G).step MF aig (mg_of X G aif) KY 2 agw agx rfl rfl (bZ (λds G h=>ad2 Z eQ ds G h))
theorem B8:BB l w mg base 8 f8 {}:=(B7 X G).step MK aii (mg_of X G aih) KZ 2 agy agz rfl rfl (bZ (λds G h=>ad1 Z eQ ds G h))
theorem B9:BB l w mg base 9 f9 {}:=(B8 X G).step MP aik (mg_of X G aij) K1 3 agA agB rfl rfl (bZ (λds G h=>ad7 Z eQ KR KZ KY ds G h))
theorem B10:BB l w mg base 10 f10 {}:=(B9 X G).step M3 aim (mg_of X G ail) K5 5 agC agD rfl rfl (bZ (λds G h=>aed Z eQ KQ K1 ds G h))
theorem B11:BB l w mg base 11 f11 {}:=(B10 X G).step M5 aio (mg_of X G ain) K6 0 agE agF rfl rfl (dD (λa G h=>af2 Z  a G h))
theorem B12:BB l w mg base 12 f12 {}:=(B11 X G).step M7 aiq (mg_of X G aip) K7 1 agG agH rfl rfl (gk (λa ds G h=>af4 Z eQ a ds G h))
theorem B13:BB l w mg base 13 f13 {}:=(B12 X G).step M9 ais (mg_of X G air) K8 3 agI agJ rfl rfl (bZ (λds G h=>adQ Z  ds G h))
theorem B14:BB l w mg base 14 f14 {}:=(B13 X G).step Nf aiu (mg_of X G ait) K9 1 agK agL rfl rfl (gk (λa ds G h=>afX Z eQ a ds G h))
theorem Qa:∀n:Nat,FnOk l.prog w (HK.K w.params) mg base (CX1 l.prog w) (14+n) 392 Ao ["found","due"] (lift (HK.K w.params) 2 (fL n))
 |0=>yV af6
 |n+1=>mV (fs:=f15) u5 ((B14 X G).self (by ac_rfl) (Qa n) u5.kp Nh (mg_of X G Ng)) (fL (n+1)) 2 0 agM agN rfl rfl (bZ (λds G h=>af5 (gW Z "_law_same" (fL n)) n (if_pos rfl) ds G h))
theorem B15:BB l w mg base 18 f15 {}:=(B14 X G).add (j:=4) La (Qa X G 4) u5.kp Nh (mg_of X G Ng)
theorem B16:BB l w mg base 19 f16 {}:=(B15 X G).step Nj j4 (mg_of X G aiv) Lb 0 agO agP rfl rfl (dR (λds G d h=>aei Z  ds G d h))
theorem B17:BB l w mg base 20 f17 {}:=(B16 X G).step Nm j5 (mg_of X G aiw) Ld 0 agQ agR rfl rfl (dR (λds G d h=>adT Z  ds G d h))
theorem B18:BB l w mg base 21 f18 {}:=(B17 X G).step Nq m5 (mg_of X G aix) Lg 0 agS agT rfl rfl (dR (λds G d h=>adU Z Ld ds G d h))
theorem B19:BB l w mg base 22 f19 {}:=(B18 X G).step Nt gm (mg_of X G aiy) Lh 0 agU agV rfl rfl (dR (λds G d h=>aej Z Lg Lb ds G d h))
theorem B20:BB l w mg base 23 f20 {}:=(B19 X G).step Nv m6 (mg_of X G aiz) Ai 0 agW agX rfl rfl (dR (λds G d h=>adR Z  ds G d h))
theorem B21:BB l w mg base 24 f21 {}:=(B20 X G).step Ny m7 (mg_of X G aiA) Li 0 agY agZ rfl rfl (dR (λds G d h=>adS Z Ai ds G d h))
theorem B22:BB l w mg base 25 f22 {}:=(B21 X G).step NB gn (mg_of X G aiB) Aj 2 ag0 ag1 rfl rfl (dR (λds G d h=>aek Z Li Lh ds G d h))
theorem B23:BB l w mg base 26 f23 {}:=(B22 X G).stepX NT iV (mg_of X G aiC) lz 0 ag2 ag3 rfl rfl (jf rfl (bZ (λds G h=>aer Z Aj ds G h)) (λds G C h=>aes Z Aj ds G C h))
theorem B24:BB l w mg base 27 f24 {}:=(B23 X G).step N5 m8 (mg_of X G aiD) Ak 0 ag4 ag5 rfl rfl (dR (λds G d h=>aeW Z Ai ds G d h))
theorem B25:BB l w mg base 28 f25 {}:=(B24 X G).step N7 fB (mg_of X G aiE) oW 1 ag6 ag7 rfl rfl (dD (λa G h=>afE Z Ak a G h))
theorem B26:BB l w mg base 29 f26 {}:=(B25 X G).stepX Oa iW (mg_of X G aiF) gD 0 ag8 ag9 rfl rfl (jf rfl (dD (λa G h=>afG Z oW a G h)) (λds G C h=>afH Z oW ds G C h))
theorem B27:BB l w mg base 30 f27 {}:=(B26 X G).stepX Oc gY (mg_of X G aiG) uZ 2 aha ahb rfl rfl (jf rfl (dD (λa G h=>afM Z lz gD a G h)) (λds G C h=>afN Z lz gD ds G C h))
theorem B28:BB l w mg base 31 f28 {}:=(B27 X G).step Oe m9 (mg_of X G aiH) lA 0 ahc ahd rfl rfl (dD (λa G h=>afr Z  a G h))
theorem B29:BB l w mg base 32 f29 {}:=(B28 X G).stepX Oh gZ (mg_of X G aiI) jq 2 ahe ahf rfl rfl (jf rfl (dD (λa G h=>afJ Z lz a G h)) (λds G C h=>afK Z lz ds G C h))
theorem B30:BB l w mg base 33 f30 {}:=(B29 X G).stepX Oj j6 (mg_of X G aiJ) Lj 2 ahg ahh rfl rfl (jf rfl (gk (λa ds G h=>afU Z ⟨jq,gD,lA,oW⟩ a ds G h)) (λds G C h=>afV Z ⟨jq,gD,lA,oW⟩ ds G C h))
theorem B31:BB l w mg base 34 f31 {}:=(B30 X G).step Om ni (mg_of X G aiK) Lk 0 ahi ahj rfl rfl (dD (λa G h=>afw Z  a G h))
theorem B32:BB l w mg base 35 f32 {}:=(B31 X G).step Oq nq (mg_of X G aiL) Ln 3 ahk ahl rfl rfl (dR (λds G d h=>aeB Z  ds G d h))
theorem B33:BB l w mg base 36 f33 {}:=(B32 X G).step Ou nu (mg_of X G aiM) Al 2 ahm ahn rfl rfl (bZ (λds G h=>aeI Z Ln ds G h))
theorem B34:BB l w mg base 37 f34 {}:=(B33 X G).step Ow nA (mg_of X G aiN) Lp 3 aho ahp rfl rfl (bZ (λds G h=>aeL Z Al ds G h))
theorem B35:BB l w mg base 38 f35 {}:=(B34 X G).step OD nF (mg_of X G aiO) Am 0 ahq ahr rfl rfl (dR (λds G d h=>aeD Z  ds G d h))
theorem Qc:∀n:Nat,FnOk l.prog w (HK.K w.params) mg base (CX1 l.prog w) (38+n) 219 Aq ["name","many_rows","box"] (lift (HK.K w.params) 3 (fH n))
 |0=>yV aeS
 |n+1=>mV (fs:=f36) u6 ((B35 X G).self (by ac_rfl) (Qc n) u6.kp j7 (mg_of X G OJ)) (fH (n+1)) 3 4 ahs aht rfl rfl (bZ (λds G h=>aeR (gW Z "grown" (fH n)) n (if_pos rfl) (j0 Al rfl) (j0 Lp rfl) (j0 Am rfl) ds G h))
theorem B36:BB l w mg base 47 f36 {}:=(B35 X G).add (j:=9) Lq (Qc X G 9) u6.kp j7 (mg_of X G OJ)
theorem B37:BB l w mg base 48 f37 {}:=(B36 X G).add (j:=1) Lr ((ah2 Ar).cx.mono (!1)) Ar.kp aiQ (mg_of X G aiP)
theorem B38:BB l w mg base 49 f38 {}:=(B37 X G).step O3 nG (mg_of X G aiR) Ls 0 ahu ahv rfl rfl (dR (λds G d h=>aeX Z  ds G d h))
theorem Qd:∀n:Nat,FnOk l.prog w (HK.K w.params) mg base (CX1 l.prog w) (49+n) 200 Av ["box","tree"] (lift (HK.K w.params) 2 (eG n))
 |0=>yV ae0
 |n+1=>mV (fs:=f39) u9 ((B38 X G).self (by ac_rfl) (Qd n) u9.kp iY (mg_of X G O4)) (eG (n+1)) 2 3 ahw ahx rfl rfl (dD (λa G h=>ae2 (gW Z "leaves" (eG n)) n (if_pos rfl) (j0 Ls rfl) (j0 Ak rfl) (j0 Am rfl) a G h))
theorem B39:BB l w mg base 58 f39 {}:=(B38 X G).add (j:=9) Lw (Qd X G 9) u9.kp iY (mg_of X G O4)
theorem B40:BB l w mg base 59 f40 {}:=(B39 X G).step O6 nH (mg_of X G aiS) Lx 0 ahy ahz rfl rfl (dD (λa G h=>afg Z lz a G h))
theorem B41:BB l w mg base 60 f41 {}:=(B40 X G).step O8 j8 (mg_of X G aiT) Ly 0 ahA ahB rfl rfl (bZ (λds G h=>aeu Z  ds G h))
theorem B42:BB l w mg base 61 f42 {}:=(B41 X G).step Pa nJ (mg_of X G aiU) Lz 0 ahC ahD rfl rfl (dD (λa G h=>afi Z Ly a G h))
theorem B43:BB l w mg base 62 f43 {}:=(B42 X G).step Pg nM (mg_of X G aiV) LC 0 ahE ahF rfl rfl (dR (λds G d h=>aeE Z  ds G d h))
theorem B44:BB l w mg base 63 f44 {}:=(B43 X G).step Pj nO (mg_of X G aiW) LK 3 ahG ahH rfl rfl (gk (λa ds G h=>afk Z Lx Lq Lw Lr LC Lz a ds G h))
theorem B45:BB l w mg base 64 f45 {}:=(B44 X G).step Pn nP (mg_of X G aiX) LQ 2 ahI ahJ rfl rfl (dD (λa G h=>afm Z LK a G h))
theorem B46:BB l w mg base 65 f46 {}:=(B45 X G).step Pr nQ (mg_of X G aiY) LR 0 ahK ahL rfl rfl (dD (λa G h=>afO Z LQ uZ a G h))
theorem B47:BB l w mg base 66 f47 {}:=(B46 X G).stepX Px j9 (mg_of X G aiZ) Ma 2 ahM ahN rfl rfl (jf rfl (gk (λa ds G h=>afS Z ⟨jq,gD,lA⟩ a ds G h)) (λds G C h=>afT Z ⟨jq,gD,lA⟩ ds G C h))
theorem B48:BB l w mg base 67 f48 {}:=(B47 X G).step Pz nR (mg_of X G ai0) Mg 0 ahO ahP rfl rfl (dD (λa G h=>afz Z Lk a G h))
theorem B49:BB l w mg base 68 f49 {}:=(B48 X G).step PL nT (mg_of X G ai1) An 7 ahQ ahR rfl rfl (gk (λa ds G h=>afD Z ⟨lA,Mg,LR⟩ a ds G h))
theorem B50:BB l w mg base 69 f50 {}:=(B49 X G).stepX PP iZ (mg_of X G ai2) Mh 1 ahS ahT rfl rfl (jf rfl (gk (λa ds G h=>afQ Z ⟨jq,gD,An⟩ a ds G h)) (λds G C h=>afR Z ⟨jq,gD,An⟩ ds G C h))
theorem B51:BB l w mg base 70 f51 {}:=(B50 X G).step P0 ai4 (mg_of X G ai3) Mi 4 ahU ahV rfl rfl (gk (λa ds G h=>af1 Z ⟨uZ,Mh,Ma,Lj⟩ a ds G h))
theorem ajq:FnOk l.prog w (HK.K w.params) mg base (CX1 l.prog w) 71 421 Aw ["script"] (lift (HK.K w.params) 1 (nW)):=mV ai5 (B51 X G) (nW) 1 8 ahW ahX rfl rfl (bZ (λds G h=>agd Z ⟨K8,KJ,eQ,K5,K9,La,uZ,K7,Mi,K6⟩ ds G h))
omit X G in
theorem all (fa:AQ) (X:(HK.K w.params).In h) (G:h.Ns mainGlobals mg) (hfa:mg "law"=some (.ref fa)):∃fd:AJ,(∀(s:AI) (v:AN),BindsTo s fd ⟨[v],[]⟩ [("script",v)])/\∀base:Heap,(HK.K w.params).In base->base.Ns mainGlobals mg->FnOk l.prog w (HK.K w.params) mg base (CX1 l.prog w) 71 fa fd ["script"] (lift (HK.K w.params) 1 (nW)):=by have e:=hfa.symm.trans (PySem.W.mg_of X G ai6);cases e;exact ⟨Aw,λs v=>.of_eq rfl,λbase _ _=>ajq X G⟩
end
def walk {l:PySem.W.OpenLaw} {q:AK} {loose:AD} {XP:(AH)->Heap->Prop} {d:DefRec} (hn:l.most=some 63) (hdf:d.params.defaults=[]) (hdn:d.name="law"):
  PySem.W.WalkO q loose XP HK.hook.says l.row.toRowW d [] (λf vs=>PySem.call f vs):=
 L2.Uc (n:=63) (k:=71) (x:="script") (K:=HK.K) (CX:=λw=>CX1 l.prog w) (sp:=λw=>lift (HK.K w.params) 1 (nW)) hn (!1) hdf ⟨rfl,!1,!1⟩ (λ_ _ Y=>Y) (λw mg fa h X G hmg=>all fa X G (hdn ▸ hmg)) (λw H a ns hl hO hS=>adH (adI λns _ hl=>⟨ns,rfl,hl⟩) (HK.K w.params) H a ns hl hO hS) λ_ _ _ _ _ z=>aap z
end Lk37
end
open PySem PySem.W PyProof.Rows
set_option maxHeartbeats 0 in
theorem PySem.Challenge.cw_starsieve_k37_orders_and_refusals_holds : PySem.Challenge.rw_starsieve_k37_orders_and_refusals.Holds := by
 have said:PySem.Challenge.rw_starsieve_k37_orders_and_refusals.row.wellSaid=true:=by decide +kernel
 refine ⟨by decide +kernel,?_⟩;refine PySem.W.holds_open (q:=HK.qv) (loose:=[]) (Xt:=HK.Xt) (XP:=XL HK.qv []) (Yf:=HK.hook.obs) (Ya:=HK.hook.val) (YP:=HK.hook.says) (N:=12000) HK.left HK.hook.of HK.hook.keeps
  (λs e=>xl_of s (Bool.and_eq_true_iff.mp e).1) XL.keeps (by rfl) (by rfl) (by rfl) (λs e=>recFacts_of (Bool.and_eq_true_iff.mp e).2) (by rfl) (by assumption) (by decide +kernel) ⟨rfl,rfl,rfl,rfl,rfl,by decide +kernel⟩ ?hw ?hc
 case hw=>exact ⟨[.list []],by decide +kernel,by decide +kernel⟩
 exact Lk37.walk rfl rfl rfl
